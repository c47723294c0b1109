import PyProof.Rows.All
import Wide.All
import OpenK.AllK
import Wide.FinOn
import Lean
import PyProof.EqAt
import PyProof.EqKinds
import PyProof.TupleCall
import PySem.Challenge.RW_closepoints_k35_whole_kept_otherwise
noncomputable section
set_option Elab.async false
set_option linter.all false
set_option hygiene false
local macro_rules | `(tactic| omega) => `(tactic| first | lia | omega +splitNatSub)
local macro_rules | `(⋯) => `((by omega))
local macro_rules | `(∅) => `((by decide))
set_option maxRecDepth 100000
local macro_rules|`(tactic| walk_at "9")=>`(tactic| first|k_is|kernel_rfl|decide)
local macro_rules | `(tactic| ac_rfl) => `(tactic| walk_at "9")
set_option compiler.extract_closed false
-- CHANGE: your row's module here,as the last of these rows
namespace L2
open PySem PySem.Spec PyProof.Rows
abbrev Key:=Sum Int Str
def lV:Key->Value->Bool
 | .inl k,v=>Value.isInt k v
 | .inr x,v=>Value.isStrOf x v
def aaV(w:World):Key->Int
 | .inl k=>hashInt k
 | .inr x=>hashStr w x
theorem bN:∀ {k:Key} {v:Value},lV k v=true->(∃i t,k=Sum.inl i/\v=Value.int i t)\/(∃x t,k=Sum.inr x/\v=Value.str x t)
 | .inl i,v,h=>by
  obtain⟨t,e⟩:=Value.isInt_shape (k:=i) (v:=v) h;exact .inl ⟨i,t,rfl,e⟩
 | .inr x,v,h=>by
  obtain⟨t,e⟩:=Value.isStrOf_shape (x:=x) (v:=v) h;exact .inr ⟨x,t,rfl,e⟩
theorem Ap(i:Int)(t:Tok):lV (.inl i) (.int i t)=true:=by simp [lV,Value.isInt]
theorem Aq(x:Str)(t:Tok):lV (.inr x) (.str x t)=true:=by simp [lV,Value.isStrOf]
theorem Ow(a b:Int):decide ((Sum.inl a:Key)=Sum.inl b)=(a==b):=by
 by_cases e:a=b
 ·subst e;simp
 ·have h:¬(Sum.inl a:Key)=Sum.inl b:=λq=>e (Sum.inl.inj q)
  rw[decide_eq_false h];exact(beq_eq_false_iff_ne.mpr e).symm
theorem Oz(a b:Str):decide ((Sum.inr a:Key)=Sum.inr b)=decide (a=b):=by
 by_cases e:a=b
 ·subst e;simp
 ·have h:¬(Sum.inr a:Key)=Sum.inr b:=λq=>e (Sum.inr.inj q)
  rw[decide_eq_false h,decide_eq_false e]
theorem Ox(a:Int)(b:Str):decide ((Sum.inl a:Key)=Sum.inr b)=false:=decide_eq_false (λq=>nomatch q)
theorem Oy(a:Str)(b:Int):decide ((Sum.inr a:Key)=Sum.inl b)=false:=decide_eq_false (λq=>nomatch q)
def bM(prog:Program)(w:World):PySem.KeyKind prog w Key where
 is:=lV
 hash:=aaV w
 inj:=λv a b ha hb=>by
  rcases bN ha with⟨i,t,rfl,rfl⟩|⟨x,t,rfl,rfl⟩
  ·rcases bN hb with⟨j,u,rfl,e⟩|⟨y,u,rfl,e⟩
   ·injection e with e1 _;rw[e1]
   ·exact nomatch e
  ·rcases bN hb with⟨j,u,rfl,e⟩|⟨y,u,rfl,e⟩
   ·exact nomatch e
   ·injection e with e1 _;rw[e1]
 byValue:=λk v h=>by
  rcases bN h with⟨i,t,rfl,rfl⟩|⟨x,t,rfl,rfl⟩<;>rfl
 pyHash:=λhv h=>by
  rcases bN hv with⟨i,t,rfl,rfl⟩|⟨x,t,rfl,rfl⟩
  ·exact wpAny_pyHash_int h
  ·exact wpAny_pyHash_str h
 eqBool:=λhu hv h=>by
  rcases bN hu with⟨i,t,rfl,rfl⟩|⟨x,t,rfl,rfl⟩
  ·rcases bN hv with⟨j,u,rfl,rfl⟩|⟨y,u,rfl,rfl⟩
   ·rw[Ow]at h;exact wpAny_eqBool_int h
   ·rw[Ox]at h;exact SeqAt.EqAt.int_str i t y u _ _ _ _ h
  ·rcases bN hv with⟨j,u,rfl,rfl⟩|⟨y,u,rfl,rfl⟩
   ·rw[Oy]at h;exact SeqAt.EqAt.str_int x t j u _ _ _ _ h
   ·rw[Oz]at h;exact wpAny_eqBool_str h
 «strs»:=λk x t v h=>by
  rcases bN h with⟨i,u,rfl,e⟩|⟨y,u,rfl,e⟩
  ·exact nomatch e
  ·injection e with e1 _
   subst e1;cases v<;>rfl
theorem vo(prog:Program)(w:World)(i:Int)(t:Tok):(bM prog w).is (.inl i) (.int i t)=true:=Ap i t
theorem vp(prog:Program)(w:World)(x:Str)(t:Tok):(bM prog w).is (.inr x) (.str x t)=true:=Aq x t
end L2
namespace L2
open PySem PySem.Spec PyProof.Rows
inductive V where
 | aW|bl (b:Bool)|int (i:Int)|str (x:Str)|Tn (b:Array UInt8)|Zt (b:UInt64)|ref (a:Addr)|ty (n:String)
 deriving DecidableEq
def RelV:V->Value->Prop
 | .aW,u=>u=Value.none
 | .bl b,u=>u=Value.bool b
 | .int i,u=>∃t,u=Value.int i t
 | .str x,u=>∃t,u=Value.str x t
 | .Tn b,u=>∃t,u=Value.bytes b t
 | .Zt b,u=>∃t,u=Value.float b t
 | .ref a,u=>u=Value.ref a
 | .ty n,u=>u=Value.type n
abbrev Vals:List V->List Value->Prop:=Paired RelV
theorem Vals.length{xs:List V}{us:List Value}(r:Vals xs us):xs.length=us.length:=Paired.length r
theorem Vals.get:∀ {xs:List V} {us:List Value} {i:Nat} {x:V},Vals xs us->xs[i]?=some x->∃u,us[i]?=some u/\RelV x u
 | _,_,_,_,.nil,e=>by simp at e
 | _,_,0,_,.cons r _,e=>by simp at e;subst e;exact⟨_,rfl,r⟩
 | _,_,i+1,x,.cons _ t,e=>by
  obtain⟨u,h1,h2⟩:=Vals.get (i:=i) (x:=x) t (by simpa using e)
  exact⟨u,by simpa using h1,h2⟩
theorem Vals.set{x:V}{u:Value}(r:RelV x u):∀ {xs:List V} {us:List Value} (i:Nat),Vals xs us->Vals (xs.set i x) (us.set i u)
 | _,_,_,.nil=>.nil
 | _,_,0,.cons _ t=>.cons r t
 | _,_,i+1,.cons q t=>.cons q (Vals.set r i t)
theorem Vals.append:∀ {xs ys:List V} {us ws:List Value},Vals xs us->Vals ys ws->Vals (xs++ys) (us++ws)
 | _,_,_,_,.nil,s=>s
 | _,_,_,_,.cons r t,s=>.cons r (Vals.append t s)
theorem Vals.take:∀ {xs:List V} {us:List Value} (n:Nat),Vals xs us->Vals (xs.take n) (us.take n)
 | _,_,0,_=>.nil
 | _,_,_+1,.nil=>.nil
 | _,_,n+1,.cons r t=>.cons r (Vals.take n t)
theorem Vals.drop:∀ {xs:List V} {us:List Value} (n:Nat),Vals xs us->Vals (xs.drop n) (us.drop n)
 | _,_,0,r=>r
 | _,_,_+1,.nil=>.nil
 | _,_,n+1,.cons _ t=>Vals.drop n t
def gO:Option V->Option Value->Prop
 | some v,some u=>RelV v u
 | none,none=>True
 | _,_=>False
def KV{κ:Type}:List (κ×V)->List (κ×Value)->Prop:=Paired λ(p:κ×V) (q:κ×Value)=>p.1=q.1/\RelV p.2 q.2
def kV:Key->V
 | .inl i=>.int i
 | .inr x=>.str x
inductive HO where
 /-- a list -/
 | lst (xs:List V)
 /-- a tuple (never changes) -/
 | tup (xs:List V)
 /-- a dict whose keys are ints and texts;one whose keys are tuples of ints and texts (the empty one is both) -/
 | dK (kvs:List (Key×V))|dT (kvs:List (List Key×V))
 /-- a set of ints: its members,its size -/
 | set (S:Int->Bool) (n:Nat)
 /-- an instance of the class at C,its dict at dx,its attributes -/
 | ins (C dx:Addr) (fs:List (Str×V))
 /-- the dict of the instance at x -/
 | own (x:Addr)
 /-- the dict of an exception -/
 | xd (fs:List (Str×V))
 /-- a bound method,f of x -/
 | met (f x:Addr)
 /-- a range object lo,lo+1,.. below hi -/
 | rng (lo hi:Int)
 /-- a thing that is known to the object (the script;a dict while a loop walks it): read,never written while it is so -/
 | iP (o:Obj) (u:HO)
 /-- a code object's table -/
 | Ks (ps:Array Value)
 /-- the same,and it may grow by the code of one lambda: as it was,the lambda's place,its name -/
 | lam (ps:Array Value) (pos:Pos) (qual:Str)
 /-- any other thing,by what is true of its one object (a def of one's own: SetO a S n:=HO.ext λh=>..) -/
 | ext (φ:Heap->Prop)
abbrev Hp:=Addr->Option HO
def upd(H:Hp)(a:Addr)(o:HO):Hp:=λb=>if b=a then some o else H b
theorem au{H:Hp}{a:Addr}{o:HO}:upd H a o a=some o:=by unfold upd;rw[if_pos rfl]
theorem ai{H:Hp}{a b:Addr}{o:HO}(h:b≠a):upd H a o b=H b:=by unfold upd;rw[if_neg h]
theorem fo{H:Hp}{a b:Addr}{o u:HO}(h:H a=some o)(h':H b=some u)(d:o≠u):a≠b:=by
 intro e;subst e;rw[h]at h';exact d (Option.some.inj h')
theorem aP{H:Hp}{a b:Addr}{o:HO}(h:H a=some o)(h':H b=none):a≠b:=by
 intro e;subst e;rw[h]at h';cases h'
section
variable (P:Program)(w:World)
def bQ(H:Hp)(h:Heap)(a:Addr):HO->Prop
 | .lst xs=>xs.length<=sizeLine/\∃(its:List Value) (n:Nat),Vals xs its/\h.get? a=some {cls:=.type "list",data:=.seq its.toArray n}
 | .tup xs=>xs.length<=sizeLine/\∃its:List Value,Vals xs its/\IsTup h a its.toArray
 | .dK kvs=>kvs.length<=sizeLine/\(a==sysModules)=false/\∃vs,KV kvs vs/\h.DictOf (bM P w) a vs
 | .dT kvs=>kvs.length<=sizeLine/\(a==sysModules)=false/\∃xs:List (List Key×Addr×Value),
   Paired (λ(p:List Key×V) (q:List Key×Addr×Value)=>p.1=q.1/\H q.2.1=some (.tup (p.1.map kV))/\RelV p.2 q.2.2) kvs xs /\
   ∃o es ep,h.get? a=some o/\o.ExactDict/\o.data=.dict es ep/\es.toList=xs.map (entryOfKey (tupleKind (bM P w)))/\(xs.map (·.1)).Nodup
 | .set S n=>h.SetOf (intKind P w) a S n
 | .ins C dx fs=>H dx=some (.own a)/\fs.length<=1000/\dx≠a/\h.get? a=some (PySem.W.instObj C dx) /\
   ∃mA,h.Ns1 dx mA/\(∀f,gO (fs.lookup f) (mA f))/\PySem.Within mA (fs.map (·.1))
 | .own _=>∃o,h.get? a=some o
 | .xd fs=>∃mA,h.Ns1 a mA/\∀f,gO (fs.lookup f) (mA f)
 | .rng lo hi=>∃t u v,h.get? a=some {cls:=.type "range",data:=.fields #[.int lo t,.int hi u,.int 1 v]}
 | .iP o u=>h.get? a=some o/\bQ H h a u
 | .Ks ps=>h.get? a=some {cls:=.none,data:=.fields ps}
 | .lam ps pos qual=>∃more,h.get? a=some {cls:=.none,data:=.fields (ps++more)}/\TriplesOk (ps++more).toList/\(codeAmong pos (ps++more).toList=none\/∃c' o vs t,codeAmong pos (ps++more).toList=some (.ref c')/\H c'=some (.iP o (.own a))/\o.data=.fields vs/\vs[1]?=some (.str qual t))
 | .met f x=>h.get? a=some (PySem.W.methodObj (.ref f) (.ref x))
 | .ext φ=>φ h/\(∃o,h.get? a=some o)/\∀h1 h2:Heap,φ h1->(∀o,h1.get? a=some o->h2.get? a=some o)->φ h2
def ig(H:Hp)(h:Heap):Prop:=∀a o,H a=some o->bQ P w H h a o
end
section
variable {P:Program}{w:World}{H H':Hp}{h h':Heap}{a:Addr}{o:HO}
theorem bQ.lt(x:bQ P w H h a o):a<h.objs.size:=by
 cases o with
 | lst xs=>obtain⟨_,_,_,_,e⟩:=x;exact Heap.lt_size e
 | tup xs=>obtain⟨_,_,_,p⟩:=x;exact p.lt
 | dK kvs=>obtain⟨_,_,_,_,o,_,_,e,_⟩:=x;exact Heap.lt_size e
 | dT kvs=>obtain⟨_,_,_,_,o,_,_,e,_⟩:=x;exact Heap.lt_size e
 | set S n=>obtain⟨o,_,_,_,e,_⟩:=x;exact Heap.lt_size e
 | ins C dx fs=>obtain⟨_,_,_,e,_⟩:=x;exact Heap.lt_size e
 | own y=>obtain⟨_,e⟩:=x;exact Heap.lt_size e
 | xd fs=>obtain⟨_,⟨_,_,_,e,_⟩,_⟩:=x;exact Heap.lt_size e
 | rng lo hi=>obtain⟨_,_,_,e⟩:=x;exact Heap.lt_size e
 | iP ob u=>obtain⟨e,_⟩:=x;exact Heap.lt_size e
 | Ks ps=>exact Heap.lt_size (show h.get? a=some _ from x)
 | lam ps pos qual=>obtain⟨_,e,_⟩:=x;exact Heap.lt_size e
 | met f y=>exact Heap.lt_size (show h.get? a=some _ from x)
 | ext φ=>obtain⟨_,⟨_,e⟩,_⟩:=x;exact Heap.lt_size e
theorem Paired.Hv{α β:Type}{F G:α->β->Prop}:∀ {W7:List α} {W8:List β},Paired F W7 W8->(∀a b,F a b->G a b)->Paired G W7 W8
 | _,_,.nil,_=>.nil
 | _,_,.cons r t,f=>.cons (f _ _ r) (Paired.Hv t f)
theorem bQ.xT(x:bQ P w H h a o)(k:∀b u,(b=a\/H b=some (.own a))->h.get? b=some u->h'.get? b=some u)
  (ho:∀b,H b=some (.own a)->H' b=some (.own a)) (ht:∀b xs,H b=some (.tup xs)->H' b=some (.tup xs)) (hf:∀b o u,H b=some (.iP o u)->H' b=some (.iP o u):=by exactλ_ _ _ q=>q):bQ P w H' h' a o:=by
 induction o with
 | lst xs=>obtain⟨z,its,n,r,e⟩:=x;exact⟨z,its,n,r,k _ _ (.inl rfl) e⟩
 | tup xs=>obtain⟨z,its,r,ob,e,c⟩:=x;exact⟨z,its,r,ob,k _ _ (.inl rfl) e,c⟩
 | dK kvs=>obtain⟨z,y,vs,r,ob,es,ep,e,c⟩:=x;exact⟨z,y,vs,r,ob,es,ep,k _ _ (.inl rfl) e,c⟩
 | dT kvs =>
  obtain⟨z,y,xs,r,ob,es,ep,e,c⟩:=x;exact⟨z,y,xs,Paired.Hv r λp q z=>⟨z.1,ht _ _ z.2.1,z.2.2⟩,ob,es,ep,k _ _ (.inl rfl) e,c⟩
 | set S n=>obtain⟨ob,es,ep,t,e,c⟩:=x;exact⟨ob,es,ep,t,k _ _ (.inl rfl) e,c⟩
 | ins C dx fs =>
  obtain⟨d,z,ne,e,mA,⟨od,es,ep,e2,c⟩,r⟩:=x;exact⟨ho _ d,z,ne,k _ _ (.inl rfl) e,mA,⟨od,es,ep,k _ _ (.inr d) e2,c⟩,r⟩
 | own y=>obtain⟨ob,e⟩:=x;exact⟨ob,k _ _ (.inl rfl) e⟩
 | xd fs=>obtain⟨mA,⟨od,es,ep,e,c⟩,r⟩:=x;exact⟨mA,⟨od,es,ep,k _ _ (.inl rfl) e,c⟩,r⟩
 | rng lo hi=>obtain⟨t,u,v,e⟩:=x;exact⟨t,u,v,k _ _ (.inl rfl) e⟩
 | iP ob u ih=>obtain⟨e,q⟩:=x;exact⟨k _ _ (.inl rfl) e,ih q⟩
 | lam ps pos qual =>
  obtain⟨more,e,tr,c⟩:=x;refine⟨more,k _ _ (.inl rfl) e,tr,?_⟩;rcases c with c|⟨c',o,vs,t,c1,c2,c3⟩
  ·exact .inl c
  ·exact .inr ⟨c',o,vs,t,c1,hf _ _ _ c2,c3⟩
 | Ks ps =>
  have e:h.get? a=some {cls:=.none,data:=.fields ps}:=x;show h'.get? a=some {cls:=.none,data:=.fields ps};exact k a _ (.inl rfl) e
 | met f y =>
  have e:h.get? a=some (PySem.W.methodObj (.ref f) (.ref y)):=x;show h'.get? a=some (PySem.W.methodObj (.ref f) (.ref y));exact k a _ (.inl rfl) e
 | ext φ=>obtain⟨p,⟨o,e⟩,st⟩:=x;exact⟨st _ _ p λo q=>k _ _ (.inl rfl) q,⟨o,k _ _ (.inl rfl) e⟩,st⟩
theorem ig.lt(x:ig P w H h)(e:H a=some o):a<h.objs.size:=(x a o e).lt
theorem ig.fresh(x:ig P w H h)(e:h.objs.size<=a):H a=none:=by
 cases q:H a with
 | none=>rfl
 | some u=>exact absurd (Nat.lt_of_lt_of_le (x.lt q) e) (Nat.lt_irrefl _)
theorem ig.kept(x:ig P w H h)(k:∀b u,h.get? b=some u->h'.get? b=some u):ig P w H h':=λa o e =>
 (x a o e).xT (λb u _ q=>k b u q) (λ_ q=>q) λ_ _ q=>q
theorem ig.laid(x:ig P w H h)(k:∀b u,h.get? b=some u->h'.get? b=some u)(hp:h.objs.size<=a)(new:bQ P w (upd H a o) h' a o):ig P w (upd H a o) h':=λb u e=>by
 have hn:=x.fresh hp
 by_cases hb:b=a
 ·subst hb;rw[au]at e;cases e;exact new
 ·rw[ai hb]at e
  exact(x b u e).xT (λc v _ q=>k c v q) (λc q=>by rw[ai (aP q hn)];exact q) (λc xs q=>by rw[ai (aP q hn)];exact q) λc o u q=>by rw[ai (aP q hn)];exact q
end
def Rd(H:Hp)(a:Addr)(u:HO):Prop:=H a=some u\/∃o,H a=some (.iP o u)
theorem Rd.ok{P:Program}{w:World}{H:Hp}{h:Heap}{a:Addr}{u:HO}(r:Rd H a u)(x:ig P w H h):bQ P w H h a u:=by
 rcases r with r|⟨o,r⟩
 ·exact x a u r
 ·obtain⟨_,q⟩:=x a _ r
  exact q
def Um:Option HO->Prop
 | some (.lst _)=>True
 | some (.dK _)=>True
 | some (.dT _)=>True
 | some (.set _ _)=>True
 | some (.ins _ _ _)=>True
 | some (.ext _)=>True
 | some (.lam _ _ _)=>True
 | _=>False
section
variable {P:Program}{w:World}{H:Hp}{h h':Heap}{x e:Addr}{o':HO}
theorem ig.write(ok:ig P w H h)(mu:Um (H x))(he:e=x\/H e=some (.own x))(k:∀b u,b≠e->h.get? b=some u->h'.get? b=some u)(Tw:∃u,h'.get? e=some u)
  (new:bQ P w (upd H x o') h' x o'):ig P w (upd H x o') h':=λb u q=>by
 have Xg:∀c y,H c=some (.own y)->c≠x:=λc y r z=>by subst z;rw[r]at mu;exact mu
 have aa4:∀c xs,H c=some (.tup xs)->c≠x:=λc xs r z=>by subst z;rw[r]at mu;exact mu
 by_cases hb:b=x
 ·subst hb;rw[au]at q;cases q;exact new
 ·rw[ai hb]at q
  by_cases Ny:b=e
  ·have q':H b=some (.own x):=by
    rcases he with z|z
    ·exact absurd (Ny.trans z) hb
    ·rw[Ny];exact z
   rw[q]at q';cases q';obtain⟨v,hv⟩:=Tw;exact⟨v,by rw[Ny];exact hv⟩
  ·refine(ok b u q).xT (λc v hc r=>k c v ?_ r) (λc r=>by rw[ai (Xg c b r)];exact r) (λc xs r=>by rw[ai (aa4 c xs r)];exact r) λc o u r=>by rw[ai (λz=>by subst z;rw[r]at mu;exact mu)];exact r
   rcases hc with rfl|hc
   ·exact Ny
   ·rintro rfl
    rcases he with z|z
    ·exact Xg c b hc z
    ·rw[hc]at z;cases z;exact hb rfl
end
structure Un(fs ex:List Addr)(H H':Hp)(h h':Heap):Prop where
 keep:∀b o,h.get? b=some o->H b=none->b∉fs->b∉ex->h'.get? b=some o
 slot:∀b o,h.get? b=some o->H b=none->b∈fs->b∉ex->∃sl,h'.get? b=some {o with slots:=sl}
 free:∀b o,h.get? b=some o->H b=none->b∉ex->H' b=none
 there:∀b o,h.get? b=some o->b∉ex->∃o',h'.get? b=some o'
 tM:∀b xs,H b=some (.tup xs)->H' b=some (.tup xs)
 nu:∀b o u,H b=some (.iP o u)->H' b=some (.iP o u)
 tL:∀b ps,H b=some (.Ks ps)->∃more,H' b=some (.Ks (ps++more))
section
variable {fs fs' ex ex':List Addr}{H H1 H2:Hp}{h h1 h2 h':Heap}{a x e:Addr}{o:HO}
theorem Un.any(u:Un fs ex H H1 h h1){b:Addr}{ob:Obj}(q:h.get? b=some ob)(n:H b=none)(hx:b∉ex):∃sl,h1.get? b=some {ob with slots:=sl}:=by
 by_cases hb:b∈fs
 ·exact u.slot b ob q n hb hx
 ·exact⟨ob.slots,u.keep b ob q n hb hx⟩
theorem Un.kept(k:∀b u,h.get? b=some u->h'.get? b=some u):Un fs ex H H h h':=
 ⟨λb ob q _ _ _=>k b ob q,λb ob q _ _ _=>⟨ob.slots,k b ob q⟩,λ_ _ _ n _=>n,λb ob q _=>⟨ob,k b ob q⟩,λ_ _ q=>q,λ_ _ _ q=>q,λ_ ps q=>⟨#[],by rw[q];simp⟩⟩
theorem Un.refl:Un fs ex H H h h:=Un.kept λ_ _ q=>q
theorem Un.laid(k:∀b u,h.get? b=some u->h'.get? b=some u)(hp:h.objs.size<=a)(hn:H a=none):Un fs ex H (upd H a o) h h' where
 keep:=λb u q _ _ _=>k b u q
 slot:=λb u q _ _ _=>⟨u.slots,k b u q⟩
 free:=λb u q n _=>by rw[ai (Nat.ne_of_lt (Nat.lt_of_lt_of_le (Heap.lt_size q) hp))];exact n
 there:=λb u q _=>⟨u,k b u q⟩
 tM:=λb xs q=>by rw[ai (aP q hn)];exact q
 nu:=λb u xs q=>by rw[ai (aP q hn)];exact q
 tL:=λb ps q=>⟨#[],by rw[ai (aP q hn),q];simp⟩
theorem Un.write(mu:Um (H x))(he:e=x\/H e=some (.own x))(k:∀b u,b≠e->h.get? b=some u->h'.get? b=some u)(Tw:∃u,h'.get? e=some u):Un fs ex H (upd H x o) h h':=by
 have hx:∀b,H b=none->b≠x:=λb n z=>by subst z;rw[n]at mu;exact mu
 have hb:∀b,H b=none->b≠e:=λb n z=>by
  subst z;rcases he with r|r
  ·exact hx b n r
  ·rw[n]at r;cases r
 have hm:∀b u,H b=some u->¬Um (some u)->b≠x:=λb u q nm z=>by subst z;rw[q]at mu;exact nm mu
 refine⟨λb u q n _ _=>k b u (hb b n) q,λb u q n _ _=>⟨u.slots,k b u (hb b n) q⟩,λb u q n _=>by rw[ai (hx b n)];exact n,λb u q _=>?_,
  λb xs q=>by rw[ai (hm b _ q λz=>z)];exact q,λb u xs q=>by rw[ai (hm b _ q λz=>z)];exact q,λb ps q=>⟨#[],by rw[ai (hm b _ q λz=>z),q];simp⟩⟩
 by_cases Ny:b=e
 ·subst Ny;exact Tw
 ·exact⟨u,k b u Ny q⟩
end
def trk(h:Heap)(H:Hp):List Addr:=(List.range h.objs.size).filter λa=>(H a).isSome
def rC(h:Heap)(H:Hp):Heap:=PySem.W.hideAll h (trk h H)
theorem Aj(h:Heap)(H:Hp):(rC h H).objs.size=h.objs.size:=PySem.W.hideAll_size _ _
theorem DR{h:Heap}{H:Hp}{b:Addr}{o:Obj}(e:h.get? b=some o)(n:H b=none):(rC h H).get? b=some o:=
 PySem.W.hideAll_get _ e λhm=>by
  have q:(H b).isSome=true:=(List.mem_filter.mp hm).2;rw[n]at q;simp at q
theorem HH{h:Heap}{H:Hp}{b:Addr}{o:Obj}(e:(rC h H).get? b=some o):h.get? b=some o/\H b=none:=by
 have e':h.get? b=some o:=PySem.W.of_hideAll (trk h H) e;refine⟨e',?_⟩;cases q:H b with
 | none=>rfl
 | some x =>
  have hm:b∈trk h H:=List.mem_filter.mpr ⟨List.mem_range.mpr (Heap.lt_size e'),by simp [q]⟩
  have z:(rC h H).get? b=none:=PySem.W.hideAll_none (trk h H) hm;rw[z]at e;cases e
def GU(g h:Heap)(L:Addr):List (Addr×Obj):=(List.range h.objs.size).filterMap λa=>if a=L\/(g.get? a).isSome=true then none else(h.get? a).map λo=>(a,o)
def rest(g h:Heap)(L d:Addr):List (Addr×Obj):=(GU g h L).filter λp=>decide (p.1≠d)
end L2
namespace L2
open PySem PySem.Spec PyProof.Rows
structure Mod(K:PySem.W.Frag)(mg:Str->Option Value)(base:Heap):Prop where
 D4:K.In base
 glob:base.Ns mainGlobals mg
 blt:∃mb,base.Ns builtinsNs mb/\∀x:Str,x≠"__name__"->mb x=bootBuiltins x
 nolimit:base.NoLimit
structure Cx where
 prog:Program
 w:World
 K:PySem.W.Frag
 mg:Str->Option Value
 base:Heap
 A:Around
 N:List Str
 c5:Shared
 qH:Hp
 env:Env
 outer:List Env
 stack:List Env
 ex:List Addr
 fn:Str->Bool
 calm:Bool
 pn:List (Addr×Obj)
 xe:Value->Shared->Prop
def pY(l:List Env):List Addr:=l.filterMap (·.frame)
abbrev Cx.fs(X:Cx):List Addr:=pY X.outer
def A6(sc:Scope)(x:Str):Prop:=sc.names.lookup x=some .local\/sc.names.lookup x=some .cell\/sc.names.lookup x=some .free
def Loc(sc:Scope)(x:Str):Prop:=sc.names.lookup x=some .local\/sc.names.lookup x=some .cell
def Look(env:Env)(h:Heap)(m:Str->Option Value)(x:Str)(u:Value):Prop:=
 (env.kindOf x=some .local/\m x=some u)\/((env.kindOf x=some .cell\/env.kindOf x=some .free)/\∃c,env.cells.lookup x=some c/\h.IsCell c (some u))
structure Cx.Ok(X:Cx):Prop where
 mod:Mod X.K X.mg X.base
 kind:X.env.scope.kind=.function
 glob:X.env.globals=mainGlobals
 blt:X.env.builtins=builtinsNs
 above:X.c5.heap.objs.size<=X.env.locals
 inj:∀x y c,X.env.cells.lookup x=some c->X.env.cells.lookup y=some c->x=y
 has:∀x,(X.env.kindOf x=some .cell\/X.env.kindOf x=some .free)->∃c,X.env.cells.lookup x=some c
 Tp:∀x c,X.fn x=true->X.env.cells.lookup x=some c->X.c5.heap.objs.size<=c
 hd:X.calm=true->X.A.handled=none
 frames:X.A.frames=some X.stack
 YR:X.stack=X.outer\/(X.stack=X.env::X.outer/\X.env.frame=some X.env.locals)
 exf:∀b∈X.ex,b≠X.env.locals/\∀x c,X.env.cells.lookup x=some c->c≠b
 bs:∀b o,X.base.get? b=some o->X.c5.heap.get? b=some o/\X.qH b=none
 BV:X.base.objs.size<=X.c5.heap.objs.size
 Ay:∀b o,X.base.get? b=some o->b∉X.ex
 Dg:∀b∈X.ex,b∉X.fs
 k4:X.c5.heap.FunFrames X.base X.outer
 JZ:∀b∈X.fs,X.qH b=none
structure Inv(X:Cx)(pins:List (Addr×Obj))(σ:List (Option V))(H:Hp)(s:Shared):Prop where
 ok:X.Ok
 os:s.os=X.c5.os
 bare:AllBare s.gens
 base:Un X.fs X.ex X.qH H X.c5.heap s.heap
 loc:∃m,s.heap.Ns X.env.locals m/\∀(i:Nat) (x:Str) (v:V),X.N[i]?=some x->σ[i]?=some (some v)->A6 X.env.scope x->∃u,RelV v u/\Look X.env s.heap m x u
 cell:∀x c,X.env.cells.lookup x=some c->∃v,s.heap.IsCell c v
 free:H X.env.locals=none
 gh:∀x c,X.env.cells.lookup x=some c->H c=none
 pin:∀p∈X.pn++pins,s.heap.get? p.1=some p.2/\H p.1=none/\p.1≠X.env.locals/\p.1∉X.fs/\∀v,p.2.data≠.cell v
 bL:ig X.prog X.w H s.heap
 len:σ.length=X.N.length
section
variable {X:Cx}{pins:List (Addr×Obj)}{σ:List (Option V)}{H H':Hp}{s:Shared}{h':Heap}
theorem Cx.Ok.aa1(ok:X.Ok){b:Addr}{o:Obj}(e:X.base.get? b=some o):b∉X.fs:=λhb=>by
 have:=(ok.k4.mem hb).1;rw[e]at this;cases this
theorem Inv.bs(I:Inv X pins σ H s):∀b o,X.base.get? b=some o->s.heap.get? b=some o/\H b=none:=λb o e =>
 ⟨I.base.keep b o (I.ok.bs b o e).1 (I.ok.bs b o e).2 (I.ok.aa1 e) (I.ok.Ay b o e),I.base.free b o (I.ok.bs b o e).1 (I.ok.bs b o e).2 (I.ok.Ay b o e)⟩
theorem Inv.bk(I:Inv X pins σ H s):∀b o,X.base.get? b=some o->s.heap.get? b=some o:=λb o e=>(I.bs b o e).1
theorem Inv.mod(I:Inv X pins σ H s):Mod X.K X.mg X.base:=I.ok.mod
theorem Inv.yO(I:Inv X pins σ H s):X.K.In s.heap:=I.ok.mod.D4.keeps I.bk
theorem Inv.fr(I:Inv X pins σ H s):∃m,Fr X.base X.env.locals s.heap m:=
 let ⟨m,hn,_⟩:=I.loc
 ⟨m,hn,I.bk,Nat.le_trans I.ok.BV I.ok.above⟩
theorem Inv.lt(I:Inv X pins σ H s):X.env.locals<s.heap.objs.size:=let ⟨_,hn,_⟩:=I.loc;hn.lt
theorem Inv.sz(I:Inv X pins σ H s):X.c5.heap.objs.size<=s.heap.objs.size:=Nat.le_trans I.ok.above (Nat.le_of_lt I.lt)
theorem Inv.aa2(I:Inv X pins σ H s){a:Addr}(h:s.heap.objs.size<=a):a∉X.fs:=λhb=>by
 obtain⟨_,o,ho,_⟩:=I.ok.k4.mem hb;exact absurd (Nat.lt_of_lt_of_le (Heap.lt_size ho) (Nat.le_trans I.sz h)) (Nat.lt_irrefl _)
theorem Inv.yk(I:Inv X pins σ H s):∀x c,X.env.cells.lookup x=some c->c≠X.env.locals:=λx c e z=>by
 obtain⟨v,o,ho,hd⟩:=I.cell x c e;obtain⟨m,⟨o',es,ep,NC,G9,_⟩,_⟩:=I.loc;rw[z,NC]at ho;cases ho;rw[G9]at hd;cases hd
theorem Inv.k4(I:Inv X pins σ H s):s.heap.FunFrames X.base X.outer:=by
 have all:∀(l:List Env),(∀b∈pY l,b∈X.fs)->X.c5.heap.FunFrames X.base l->s.heap.FunFrames X.base l:=by
  intro l
  induction l with
  | nil=>intro _ _;trivial
  | cons env r ih =>
   intro hs hl;obtain⟨hk,⟨L,o,hf,hn,ho,hd⟩,hr⟩:=hl;have hL:L∈X.fs:=hs L (by unfold pY;rw[List.filterMap_cons,hf];exact List.mem_cons_self)
   obtain⟨sl,e⟩:=I.base.slot L o ho (I.ok.JZ L hL) hL λz=>I.ok.Dg L z hL;exact⟨hk,⟨L,_,hf,hn,e,hd⟩,ih (λb hb=>hs b (by unfold pY;rw[List.filterMap_cons,hf];exact List.mem_cons_of_mem _ hb)) hr⟩
 exact all X.outer (λ_ hb=>hb) I.ok.k4
theorem Inv.stack(I:Inv X pins σ H s):s.heap.FunFrames X.base X.stack:=by
 rcases I.ok.YR with e|⟨e,hf⟩
 ·rw[e];exact I.k4
 ·rw[e]
  obtain⟨m,hn,_⟩:=I.loc;refine .cons (by rw[I.ok.kind];decide) hf hn ?_ I.k4
  exact Heap.get?_none_of_le (Nat.le_trans I.ok.BV I.ok.above)
theorem Inv.tG(I:Inv X pins σ H s):∀b∈pY X.stack,b∈X.env.locals::X.fs:=λb hb=>by
 rcases I.ok.YR with e|⟨e,hf⟩
 ·rw[e]at hb;exact List.mem_cons_of_mem _ hb
 ·rw[e]at hb
  unfold pY at hb;rw[List.filterMap_cons,hf]at hb;exact hb
theorem Inv.zv(I:Inv X pins σ H s):∀b∈pY X.stack,H b=none:=λb hb=>by
 rcases List.mem_cons.mp (I.tG b hb)with e|hb
 ·rw[e];exact I.free
 ·obtain⟨_,o,ho,_⟩:=I.ok.k4.mem hb
  exact I.base.free b o ho (I.ok.JZ b hb) λz=>I.ok.Dg b z hb
theorem Inv.step{g':Array GenState}{t':Nat}{d':Drawn}{ch:List Addr}(I:Inv X pins σ H s)
  (GB:∀b∈ch,(b∈X.ex\/X.c5.heap.get? b=none)/\b≠X.env.locals/\(∀x c,X.env.cells.lookup x=some c->c≠b)/\∀p∈X.pn++pins,p.1≠b)
  (keep:∀b o,b≠X.env.locals->b∉X.fs->b∉ch->s.heap.get? b=some o->H b=none->h'.get? b=some o)
  (slot:∀b o,b≠X.env.locals->b∈X.fs->b∉ch->s.heap.get? b=some o->H b=none->∃sl,h'.get? b=some {o with slots:=sl}) (free:∀b o,b∉ch->s.heap.get? b=some o->H b=none->H' b=none)
  (there:∀b o,b∉ch->s.heap.get? b=some o->∃o',h'.get? b=some o')
  (tM:∀b xs,H b=some (.tup xs)->H' b=some (.tup xs)) (nu:∀b o u,H b=some (.iP o u)->H' b=some (.iP o u)) (tL:∀b ps,H b=some (.Ks ps)->∃more,H' b=some (.Ks (ps++more)))
  (ns:∀m,s.heap.Ns X.env.locals m->h'.Ns X.env.locals m) (bL:ig X.prog X.w H' h') (hg:AllBare g'):
  Inv X pins σ H' {s with heap:=h',gens:=g',drawn:=d',toks:=t'}:=by
 have neL:∀b o,X.c5.heap.get? b=some o->b≠X.env.locals:=λb o e=>Nat.ne_of_lt (Nat.lt_of_lt_of_le (Heap.lt_size e) I.ok.above);have ZY:∀b o,X.c5.heap.get? b=some o->b∉X.ex->b∉ch:=λb o e hx hb=>by
  rcases(GB b hb).1 with z|z
  ·exact hx z
  ·rw[e]at z;cases z
 have cellK:∀x c,X.env.cells.lookup x=some c->∀v,s.heap.IsCell c v->h'.IsCell c v:=λx c e v ⟨o,ho,hd⟩=>by
  have Eh:c∉ch:=λz=>(GB c z).2.2.1 x c e rfl
  by_cases hc:c∈X.fs
  ·obtain⟨sl,q⟩:=slot c o (I.yk x c e) hc Eh ho (I.gh x c e)
   exact⟨_,q,hd⟩
  ·exact⟨o,keep c o (I.yk x c e) hc Eh ho (I.gh x c e),hd⟩
 refine⟨I.ok,I.os,hg,⟨λb o e n hb hx=>?_,λb o e n hb hx=>?_,λb o e n hx=>?_,λb o e hx=>?_,λb xs e=>tM b xs (I.base.tM b xs e),λb o xs e=>nu b o xs (I.base.nu b o xs e),λb ps e=>?_⟩,?_,λx c e=>?_,?_,λx c e=>?_,λp hp=>?_,bL,I.len⟩
 ·exact keep b o (neL b o e) hb (ZY b o e hx) (I.base.keep b o e n hb hx) (I.base.free b o e n hx)
 ·obtain⟨sl,e1⟩:=I.base.slot b o e n hb hx
  obtain⟨sl',e2⟩:=slot b _ (neL b o e) hb (ZY b o e hx) e1 (I.base.free b o e n hx);exact⟨sl',e2⟩
 ·obtain⟨o',e1⟩:=I.base.there b o e hx
  exact free b o' (ZY b o e hx) e1 (I.base.free b o e n hx)
 ·obtain⟨o',e1⟩:=I.base.there b o e hx
  exact there b o' (ZY b o e hx) e1
 ·obtain⟨m1,e1⟩:=I.base.tL b ps e
  obtain⟨m2,e2⟩:=tL b _ e1;exact⟨m1++m2,by rw[e2,Array.append_assoc]⟩
 ·obtain⟨m,hn,hl⟩:=I.loc
  refine⟨m,ns m hn,λi x v e1 e2 e3=>?_⟩;obtain⟨u,r,l⟩:=hl i x v e1 e2 e3;refine⟨u,r,?_⟩;rcases l with l|⟨k,c,e,z⟩
  ·exact .inl l
  ·exact .inr ⟨k,c,e,cellK x c e _ z⟩
 ·obtain⟨v,z⟩:=I.cell x c e
  exact⟨v,cellK x c e v z⟩
 ·obtain⟨m,⟨o,_,_,ho,_⟩,_⟩:=I.loc
  exact free _ o (λz=>(GB _ z).2.1 rfl) ho I.free
 ·obtain⟨v,o,ho,hd⟩:=I.cell x c e
  exact free c o (λz=>(GB c z).2.2.1 x c e rfl) ho (I.gh x c e)
 ·obtain⟨e,n,ne,nf,d⟩:=I.pin p hp
  have Eh:p.1∉ch:=λz=>(GB p.1 z).2.2.2 p hp rfl;exact⟨keep p.1 p.2 ne nf Eh e n,free p.1 p.2 Eh e n,ne,nf,d⟩
theorem Inv.un{t':Nat}(I:Inv X pins σ H s)(u:Un X.fs [] H H' s.heap h')(bL:ig X.prog X.w H' h'):Inv X pins σ H' {s with heap:=h',toks:=t'}:=by
 obtain⟨m,⟨o,es,ep,ho,r⟩,_⟩:=id I.loc;obtain⟨sl,hL⟩:=u.any ho I.free (by simp)
 exact I.step (g':=s.gens) (d':=s.drawn) (ch:=[]) (λ_ z=>nomatch z) (λb o _ hb _ e n=>u.keep b o e n hb (by simp)) (λb o _ hb _ e n=>u.slot b o e n hb (by simp)) (λb o _ e n=>u.free b o e n (by simp)) (λb o _ e=>u.there b o e (by simp)) u.tM u.nu u.tL (λm' hm=>by
  obtain⟨o',VF,Tr,NC,r'⟩:=hm;rw[ho]at NC;cases NC;exact⟨_,VF,Tr,hL,r'⟩) bL I.bare
theorem Inv.call{g':Array GenState}{t':Nat}{d':Drawn}{ch:List Addr}(I:Inv X pins σ H s)(u:Un (pY X.stack) ch H H' s.heap h')(bL:ig X.prog X.w H' h')(hg:AllBare g')
  (GB:∀b∈ch,(b∈X.ex\/X.c5.heap.get? b=none)/\b≠X.env.locals/\(∀x c,X.env.cells.lookup x=some c->c≠b)/\∀p∈X.pn++pins,p.1≠b):
  Inv X pins σ H' {s with heap:=h',gens:=g',drawn:=d',toks:=t'}:=by
 obtain⟨m,⟨o,es,ep,ho,r⟩,_⟩:=id I.loc;obtain⟨sl,hL⟩:=u.any ho I.free λz=>(GB _ z).2.1 rfl;exact I.step (ch:=ch) GB (λb o hL hb hc e n=>u.keep b o e n (λz=>(List.mem_cons.mp (I.tG b z)).elim hL hb) hc) (λb o _ _ hc e n=>u.any e n hc) (λb o hc e n=>u.free b o e n hc) (λb o hc e=>u.there b o e hc) u.tM u.nu u.tL (λm' hm=>by
  obtain⟨o',VF,Tr,NC,r'⟩:=hm;rw[ho]at NC;cases NC;exact⟨_,VF,Tr,hL,r'⟩) bL hg
theorem Inv.turned{t':Nat}{it:Addr}(I:Inv X pins σ H s)(k:∀b o,b≠it->s.heap.get? b=some o->h'.get? b=some o)(hn:H it=none)(hL:it≠X.env.locals)
  (h1:it∈X.ex\/X.c5.heap.objs.size<=it) (h2:∀x c,X.env.cells.lookup x=some c->c≠it) (h3:∀p∈X.pn++pins,p.1≠it):Inv X pins σ H {s with heap:=h',toks:=t'}:=by
 have nit:∀b u,H b=some u->b≠it:=λb u e z=>by rw[z,hn]at e;cases e
 refine I.step (g':=s.gens) (d':=s.drawn) (ch:=[it]) (λb hb=>?_) (λb o _ _ hc e _=>k b o (λz=>hc (by simp [z])) e) (λb o _ _ hc e _=>⟨o.slots,k b o (λz=>hc (by simp [z])) e⟩) (λ_ _ _ _ n=>n)
  (λb o hc e=>⟨o,k b o (λz=>hc (by simp [z])) e⟩) (λ_ _ e=>e) (λ_ _ _ e=>e) (λb ps e=>⟨#[],by rw[e];simp⟩) (λm hm=>?_) (λb u e=>?_) I.bare
 ·have e:b=it:=by simpa using hb
  subst e;exact⟨h1.imp id λz=>Heap.get?_none_of_le z,hL,h2,h3⟩
 ·obtain⟨o,es,ep,ho,r⟩:=hm
  exact⟨o,es,ep,k _ o (Ne.symm hL) ho,r⟩
 ·refine(I.bL b u e).xT (λc v hc q=>k c v ?_ q) (λ_ q=>q) λ_ _ q=>q
  rcases hc with z|z
  ·rw[z];exact nit b u e
  ·exact nit c _ z
theorem Inv.tok(I:Inv X pins σ H s)(t:Nat):Inv X pins σ H {s with toks:=t}:=I.un (h':=s.heap) (t':=t) Un.refl I.bL
theorem Inv.kept{t':Nat}(I:Inv X pins σ H s)(k:∀b u,s.heap.get? b=some u->h'.get? b=some u):Inv X pins σ H {s with heap:=h',toks:=t'}:=I.un (Un.kept k) (I.bL.kept k)
theorem Inv.laid{a:Addr}{o:HO}{t':Nat}(I:Inv X pins σ H s)(k:∀b u,s.heap.get? b=some u->h'.get? b=some u)(hp:s.heap.objs.size<=a)(new:bQ X.prog X.w (upd H a o) h' a o):
  Inv X pins σ (upd H a o) {s with heap:=h',toks:=t'}:=I.un (Un.laid k hp (I.bL.fresh hp)) (I.bL.laid k hp new)
theorem Inv.write{x e:Addr}{o:HO}{t':Nat}(I:Inv X pins σ H s)(mu:Um (H x))(he:e=x\/H e=some (.own x))(k:∀b u,b≠e->s.heap.get? b=some u->h'.get? b=some u)(Tw:∃u,h'.get? e=some u)
  (new:bQ X.prog X.w (upd H x o) h' x o):Inv X pins σ (upd H x o) {s with heap:=h',toks:=t'}:=I.un (Un.write mu he k Tw) (I.bL.write mu he k Tw new)
theorem Inv.yZ{Kg:List (Addr×Obj)}(I:Inv X pins σ H s)(h:∀p∈Kg,s.heap.get? p.1=some p.2/\H p.1=none/\p.1≠X.env.locals/\p.1∉X.fs/\∀v,p.2.data≠.cell v):Inv X Kg σ H s:=
 ⟨I.ok,I.os,I.bare,I.base,I.loc,I.cell,I.free,I.gh,λp hp=>(List.mem_append.mp hp).elim (λz=>I.pin p (List.mem_append_left _ z)) (h p),I.bL,I.len⟩
theorem vw{N:List Str}(hN:N.Nodup){i j:Nat}{x:Str}(a:N[i]?=some x)(b:N[j]?=some x):i=j:=by
 obtain⟨h1,e1⟩:=List.getElem?_eq_some_iff.mp a;obtain⟨h2,e2⟩:=List.getElem?_eq_some_iff.mp b;exact(List.getElem_inj hN).mp (e1.trans e2.symm)
theorem AX{M:Model}{A:Around}{E:Value->Shared->Prop}{i:Nat}{x:Str}{v:V}{u:Value}{Q:Unit->Shared->Prop}(I:Inv X pins σ H s)(hN:X.N.Nodup)(hi:X.N[i]?=some x)(hx:Loc X.env.scope x)(r:RelV v u)
  (h:∀s',Inv X pins (σ.set i (some v)) H s'->(∃a,Heap.SameBut a s.heap s'.heap/\(a=X.env.locals\/X.env.cells.lookup x=some a))->Q () s') (hf:X.fn x=true\/X.env.scope.names.lookup x=some .local:=by first|exact .inl rfl|exact .inr rfl|assumption):wpAny M A (storeName X.env x u) Q E s:=by
 obtain⟨m,hn,hl⟩:=id I.loc;have aaA:(X.env.scope.kind==.class||(X.env.scope.kind==.module&&X.env.locals != X.env.globals))=false:=by rw[I.ok.kind];rfl
 have Wg:i<σ.length:=by rw[I.len];exact(List.getElem?_eq_some_iff.mp hi).1
 have yk:=I.yk;have tracked:∀ {a:Addr} {h':Heap},(∃o,s.heap.get? a=some o/\H a=none)->Heap.SameBut a s.heap h'->ig X.prog X.w H h':=λ{a h'} ha hs b ob e=>by
  obtain⟨_,_,yH⟩:=ha;refine(I.bL b ob e).xT (λc w' hc q=>(hs.2 c ?_).trans q) (λ_ q=>q) λ_ _ q=>q;rintro rfl;rcases hc with rfl|hc
  ·rw[yH]at e;cases e
  ·rw[yH]at hc;cases hc
 rcases hx with hk|hk
 ·refine wpAny_storeName_local hk hn (λh' hn' hs=>?_) aaA
  obtain⟨oL,_,_,He,_⟩:=id hn;refine h _ ⟨I.ok,I.os,I.bare,⟨λb o e n hb hx=>?_,λb o e n hb hx=>?_,I.base.free,λb o e hx=>?_,I.base.tM,I.base.nu,I.base.tL⟩,⟨_,hn',λj y v' e1 e2 e3=>?_⟩,λy c e=>?_,I.free,I.gh,λp hp=>?_,tracked ⟨oL,He,I.free⟩ hs,by simpa using I.len⟩ ⟨_,hs,.inl rfl⟩
  ·exact(hs.2 b (Nat.ne_of_lt (Nat.lt_of_lt_of_le (Heap.lt_size e) I.ok.above))).trans (I.base.keep b o e n hb hx)
  ·obtain⟨sl,e1⟩:=I.base.slot b o e n hb hx
   exact⟨sl,(hs.2 b (Nat.ne_of_lt (Nat.lt_of_lt_of_le (Heap.lt_size e) I.ok.above))).trans e1⟩
  ·obtain⟨o',e1⟩:=I.base.there b o e hx
   exact⟨o',(hs.2 b (Nat.ne_of_lt (Nat.lt_of_lt_of_le (Heap.lt_size e) I.ok.above))).trans e1⟩
  ·by_cases hj:j=i
   ·subst hj
    rw[hi]at e1;cases e1;rw[List.getElem?_set_self Wg]at e2;cases e2;exact⟨u,r,.inl ⟨hk,by simp⟩⟩
   ·rw[List.getElem?_set_ne (Ne.symm hj)]at e2
    obtain⟨u',r',q⟩:=hl j y v' e1 e2 e3;refine⟨u',r',?_⟩;rcases q with⟨k,e⟩|⟨k,c,e,z⟩
    ·refine .inl ⟨k,?_⟩
     have:y≠x:=λe=>hj (vw hN e1 (e ▸ hi));simp [this,e]
    ·exact .inr ⟨k,c,e,z.sameBut hs (yk y c e)⟩
  ·obtain⟨w',z⟩:=I.cell y c e
   exact⟨w',z.sameBut hs (yk y c e)⟩
  ·obtain⟨e,n,ne,nf,d⟩:=I.pin p hp
   exact⟨(hs.2 p.1 ne).trans e,n,ne,nf,d⟩
 ·have hfn:X.fn x=true:=by
   rcases hf with z|z
   ·exact z
   ·rw[z]at hk;cases hk
  obtain⟨c,hc⟩:=I.ok.has x (.inl hk);obtain⟨w',z⟩:=I.cell x c hc;refine wpAny_storeName_cell I.ok.kind hk hc z (λh' Tv hs=>?_);obtain⟨oc,hoc,aaH⟩:=id z;refine h {s with heap:=h'} ⟨I.ok,I.os,I.bare,⟨λb o e n hb hx=>?_,λb o e n hb hx=>?_,I.base.free,λb o e hx=>?_,I.base.tM,I.base.nu,I.base.tL⟩,⟨m,hn.sameBut hs (Ne.symm (yk x c hc)),λj y v' e1 e2 e3=>?_⟩,λy c' e=>?_,I.free,I.gh,λp hp=>?_,tracked ⟨oc,hoc,I.gh x c hc⟩ hs,by simpa using I.len⟩ ⟨c,hs,.inr hc⟩
  ·exact(hs.2 b (Nat.ne_of_lt (Nat.lt_of_lt_of_le (Heap.lt_size e) (I.ok.Tp x c hfn hc)))).trans (I.base.keep b o e n hb hx)
  ·obtain⟨sl,e1⟩:=I.base.slot b o e n hb hx
   exact⟨sl,(hs.2 b (Nat.ne_of_lt (Nat.lt_of_lt_of_le (Heap.lt_size e) (I.ok.Tp x c hfn hc)))).trans e1⟩
  ·obtain⟨o',e1⟩:=I.base.there b o e hx
   exact⟨o',(hs.2 b (Nat.ne_of_lt (Nat.lt_of_lt_of_le (Heap.lt_size e) (I.ok.Tp x c hfn hc)))).trans e1⟩
  ·by_cases hj:j=i
   ·subst hj
    rw[hi]at e1;cases e1;rw[List.getElem?_set_self Wg]at e2;cases e2;exact⟨u,r,.inr ⟨.inl hk,c,hc,Tv⟩⟩
   ·rw[List.getElem?_set_ne (Ne.symm hj)]at e2
    obtain⟨u',r',q⟩:=hl j y v' e1 e2 e3;refine⟨u',r',?_⟩;rcases q with q|⟨k,c',e,z'⟩
    ·exact .inl q
    ·refine .inr ⟨k,c',e,z'.sameBut hs ?_⟩
     rintro rfl;exact hj (vw hN e1 (I.ok.inj _ _ _ e hc ▸ hi))
  ·by_cases ZA:c'=c
   ·subst ZA;exact⟨_,Tv⟩
   ·obtain⟨w2,z2⟩:=I.cell y c' e
    exact⟨w2,z2.sameBut hs ZA⟩
  ·obtain⟨e,n,ne,nf,d⟩:=I.pin p hp
   refine⟨(hs.2 p.1 ?_).trans e,n,ne,nf,d⟩;intro q;rw[q,hoc]at e;have q':oc=p.2:=Option.some.inj e;exact d w' (by rw[<- q'];exact aaH)
theorem oT{M:Model}{A:Around}{E:Value->Shared->Prop}{i:Nat}{x:Str}{v:V}{u:Value}{Q:Unit->Shared->Prop}(I:Inv X pins σ H s)(hN:X.N.Nodup)(hi:X.N[i]?=some x)(hx:Loc X.env.scope x)(r:RelV v u)
  (h:∀s',Inv X pins (σ.set i (some v)) H s'->Q () s') (hf:X.fn x=true\/X.env.scope.names.lookup x=some .local:=by first|exact .inl rfl|exact .inr rfl|assumption):wpAny M A (storeName X.env x u) Q E s:=
 AX I hN hi hx r (λs' I' _=>h s' I') hf
theorem Inv.UJ{s':Shared}{ch:List Addr}(I:Inv X pins σ H s)(ho:s'.os=s.os)(u:Un (pY X.stack) ch H H' s.heap s'.heap)(bL:ig X.prog X.w H' s'.heap)(hg:AllBare s'.gens)
  (GB:∀b∈ch,(b∈X.ex\/X.c5.heap.get? b=none)/\b≠X.env.locals/\(∀x c,X.env.cells.lookup x=some c->c≠b)/\∀p∈X.pn++pins,p.1≠b):Inv X pins σ H' s':=by
 obtain⟨h',g',d',t',o'⟩:=s';have e:o'=s.os:=ho;subst e;exact I.call (g':=g') (t':=t') (d':=d') u bL hg GB
end
abbrev XK:=Value->Option Addr->Hp->Prop
abbrev St:=List (Option V)
abbrev VK:=V->Hp->Prop
abbrev TE:=St->Hp->VK->Prop
abbrev TT:=St->Hp->(Bool->Hp->Prop)->Prop
abbrev TA:=St->Hp->(List V->Hp->Prop)->Prop
structure Ends where
 nx:St->Hp->Prop
 rt:VK
 bk:St->Hp->Prop:=λ_ _=>False
 ct:St->Hp->Prop:=λ_ _=>False
abbrev TS:=Ends->St->Hp->Prop
def EP(X:Cx)(pins:List (Addr×Obj))(σ:St)(Q:VK)(u:Value)(s':Shared):Prop:=∃v H',Inv X pins σ H' s'/\RelV v u/\Q v H'
def TP(X:Cx)(pins:List (Addr×Obj))(σ:St)(Q:Bool->Hp->Prop)(b:Bool)(s':Shared):Prop:=∃H',Inv X pins σ H' s'/\Q b H'
def AP(X:Cx)(pins:List (Addr×Obj))(σ:St)(Q:List V->Hp->Prop)(us:List Value)(s':Shared):Prop:=∃vs H',Inv X pins σ H' s'/\Vals vs us/\Q vs H'
def SP(X:Cx)(pins:List (Addr×Obj))(D:Ends)(f:Flow)(s':Shared):Prop:=
 match f with
 | .next=>∃bh H',Inv X pins bh H' s'/\D.nx bh H'
 | .brk=>∃bh H',Inv X pins bh H' s'/\D.bk bh H'
 | .cont=>∃bh H',Inv X pins bh H' s'/\D.ct bh H'
 | .ret u=>∃v bh H',Inv X pins bh H' s'/\RelV v u/\D.rt v H'
def PE(X:Cx)(e:Expr)(t:TE):Prop:=
 ∀(pins:List (Addr×Obj)) (s:Shared) (σ:St) (H:Hp) (Q:VK),Inv X pins σ H s->t σ H Q->wpAny (model X.prog X.w) X.A (eval e X.env) (EP X pins σ Q) X.xe s
def PT(X:Cx)(e:Expr)(t:TT):Prop:=
 ∀(pins:List (Addr×Obj)) (s:Shared) (σ:St) (H:Hp) (Q:Bool->Hp->Prop),Inv X pins σ H s->t σ H Q->wpAny (model X.prog X.w) X.A (isTrue e X.env (eval e X.env)) (TP X pins σ Q) X.xe s
def PW(X:Cx)(e:Expr)(t:TT):Prop:=
 ∀(whole:Sem Value) (pins:List (Addr×Obj)) (s:Shared) (σ:St) (H:Hp) (Q:Bool->Hp->Prop),Inv X pins σ H s->t σ H Q->wpAny (model X.prog X.w) X.A (isTrue e X.env whole) (TP X pins σ Q) X.xe s
theorem PW.pt{X:Cx}{e:Expr}{t:TT}(h:PW X e t):PT X e t:=h _
def PA(X:Cx)(es:List Expr)(t:TA):Prop:=
 ∀(pos:Pos) (pins:List (Addr×Obj)) (s:Shared) (σ:St) (H:Hp) (Q:List V->Hp->Prop),Inv X pins σ H s->t σ H Q->wpAny (model X.prog X.w) X.A (spliced (backTo pos (starEach es X.env))) (AP X pins σ Q) X.xe s
def PS(X:Cx)(st:Stmt)(t:TS):Prop:=
 ∀(pins:List (Addr×Obj)) (s:Shared) (σ:St) (H:Hp) (D:Ends),Inv X pins σ H s->t D σ H->wpAny (model X.prog X.w) X.A (exec st X.env) (SP X pins D) X.xe s
def qI(X:Cx)(st:List Stmt)(t:TS):Prop:=
 ∀(pins:List (Addr×Obj)) (s:Shared) (σ:St) (H:Hp) (D:Ends),Inv X pins σ H s->t D σ H->wpAny (model X.prog X.w) X.A (execs st X.env) (SP X pins D) X.xe s
theorem cm{α:Type}{t:Sem α}{Q Q':α->Shared->Prop}{M:Model}{A:Around}{E:Value->Shared->Prop}{s:Shared}(h:wpAny M A t Q E s)(hQ:∀a s,Q a s->Q' a s):wpAny M A t Q' E s:=wpAny_mono h hQ λ_ _ x=>x
end L2
namespace L2
open PySem PySem.Spec PyProof.Rows
section
variable {X:Cx}
def FC(i:Nat):TE:=λσ H Q=>∃v,σ[i]?=some (some v)/\Q v H
def tC(v:V):TE:=λ_ H Q=>Q v H
theorem eZ{i:Nat}{x:Str}{pos:Pos}(hN:X.N[i]?=some x)(hv:A6 X.env.scope x)(hd:(x==("__debug__":Str))=false:=by decide)(jk:(x==("__classdict__":Str))=false:=by decide):PE X (.Name x pos) (FC i):=by
 intro pins s σ H Q I h;obtain⟨v,e,h⟩:=h;obtain⟨m,hn,hl⟩:=I.loc;obtain⟨u,r,l⟩:=hl i x v hN e hv;have fin:EP X pins σ Q u s:=⟨v,H,I,r,h⟩;rcases l with⟨hk,hm⟩|⟨hk,c,hc,yG⟩
 ·exact wpAny_Name (wpAny_loadName_local I.ok.kind hk hn hm fin) hd
 ·rcases hk with hk|hk
  ·exact wpAny_Name (wpAny_loadName_cell I.ok.kind hk hc yG fin) hd
  ·exact wpAny_Name (wpAny_loadName_free I.ok.kind hk hc yG fin jk) hd
theorem Ex{i j pos}:PE X (.Constant (.int i) j pos) (tC (.int i)):=λ_ _ _ H _ I h=>wpAny_Constant_int ⟨.int i,H,I.tok _,⟨_,rfl⟩,h⟩
theorem XY{b j pos}:PE X (.Constant (.bool b) j pos) (tC (.bl b)):=λ_ _ _ H _ I h=>Constant_bool ⟨.bl b,H,I,rfl,h⟩
theorem QC{j pos}:PE X (.Constant .none j pos) (tC .aW):=λ_ _ _ H _ I h=>Constant_none ⟨.aW,H,I,rfl,h⟩
theorem QE{x j pos}:PE X (.Constant (.str x) j pos) (tC (.str x)):=λ_ _ _ H _ I h=>Calls.Constant_str ⟨.str x,H,I.tok _,⟨_,rfl⟩,h⟩
def Gl(X:Cx)(x:Str):Prop:=X.env.kindOf x=some .globalImplicit
theorem rO{E:Value->Shared->Prop}{pins:List (Addr×Obj)}{s:Shared}{σ:St}{H:Hp}{x:Str}{u:Value}{pos:Pos}{Q:Value->Shared->Prop}(I:Inv X pins σ H s)(hg:Gl X x)(hm:X.mg x=some u)(h:Q u s)
  (hd:(x==("__debug__":Str))=false:=by decide):wpAny (model X.prog X.w) X.A (eval (.Name x pos) X.env) Q E s:=
 Calls.Name_function_global I.ok.kind hg (Calls.loadGlobal_global (by rw[I.ok.glob];exact I.mod.glob.keeps I.bk) hm h) hd
theorem lg{E:Value->Shared->Prop}{pins:List (Addr×Obj)}{s:Shared}{σ:St}{H:Hp}{x:Str}{u:Value}{pos:Pos}{Q:Value->Shared->Prop}(I:Inv X pins σ H s)(hg:Gl X x)(hm:X.mg x=none)(hv:bootBuiltins x=some u)(h:Q u s)
  (hn:x≠"__name__":=by decide) (hd:(x==("__debug__":Str))=false:=by decide):wpAny (model X.prog X.w) X.A (eval (.Name x pos) X.env) Q E s:=by
 obtain⟨mb,h1,h2⟩:=I.mod.blt;exact Calls.Name_function_global I.ok.kind hg (Calls.loadGlobal_builtin (by rw[I.ok.glob];exact I.mod.glob.keeps I.bk) hm (by rw[I.ok.blt];exact h1.keeps I.bk) ((h2 x hn).trans hv) h) hd
theorem Ic{x:Str}{v:V}{u:Value}{pos:Pos}(hg:Gl X x)(hm:X.mg x=some u)(r:RelV v u)(hd:(x==("__debug__":Str))=false:=by decide):PE X (.Name x pos) (tC v):=
 λ_ _ _ H _ I h=>rO I hg hm ⟨v,H,I,r,h⟩ hd
variable {a b:Expr}{ta tb:TE}{pos:Pos}
variable {tA Z8:TT}{rest:List Expr}
def abl(t u:TT):TT:=λσ H Q=>t σ H λc H1=>if c=true then u σ H1 Q else Q false H1
def tOr(t u:TT):TT:=λσ H Q=>t σ H λc H1=>if c=true then Q true H1 else u σ H1 Q
def abo(t:TT):TT:=λσ H Q=>t σ H λc H1=>Q (!c) H1
theorem pw_and1(ha:PT X a tA):PW X (.BoolOp .And [a] pos) tA:=by
 intro wh pins s σ H Q I h;refine isTrue_and (cm (ha pins s σ H Q I h) λc s1 e=>?_);cases c with
 | true=>exact isTrue_and_nil e
 | false=>exact e
theorem pw_or1(ha:PT X a tA):PW X (.BoolOp .Or [a] pos) tA:=by
 intro wh pins s σ H Q I h;refine isTrue_or (cm (ha pins s σ H Q I h) λc s1 e=>?_);cases c with
 | false=>exact isTrue_or_nil e
 | true=>exact e
theorem pw_and(ha:PT X a tA)(hb:PW X (.BoolOp .And (b::rest) pos) Z8):PW X (.BoolOp .And (a::b::rest) pos) (abl tA Z8):=by
 intro wh pins s σ H Q I h;refine isTrue_and (cm (ha pins s σ H _ I h) λc s1 ⟨H1,I1,q1⟩=>?_);cases c with
 | true=>exact hb wh pins s1 σ H1 Q I1 q1
 | false=>exact⟨H1,I1,q1⟩
theorem pw_or(ha:PT X a tA)(hb:PW X (.BoolOp .Or (b::rest) pos) Z8):PW X (.BoolOp .Or (a::b::rest) pos) (tOr tA Z8):=by
 intro wh pins s σ H Q I h;refine isTrue_or (cm (ha pins s σ H _ I h) λc s1 ⟨H1,I1,q1⟩=>?_);cases c with
 | true=>exact⟨H1,I1,q1⟩
 | false=>exact hb wh pins s1 σ H1 Q I1 q1
theorem Rh(ha:PT X a tA):PT X (.UnaryOp .Not a pos) (abo tA):=by
 intro pins s σ H Q I h;exact isTrue_not (ha pins s σ H (λc H1=>Q (!c) H1) I h)
def YV(ta tb:TE):TE:=λσ H Q=>ta σ H λx H1=>∃c,x=.bl c/\if c=true then tb σ H1 Q else Q (.bl false) H1
theorem Ey{op}{t:TE}(h:PE X a t):PE X (.BoolOp op [a] pos) t:=λpins s σ H Q I hw=>BoolOp_one (h pins s σ H Q I hw)
theorem QB(ha:PE X a ta)(hb:PE X (.BoolOp .And (b::rest) pos) tb):PE X (.BoolOp .And (a::b::rest) pos) (YV ta tb):=by
 intro pins s σ H Q I h;refine BoolOp_and (cm (ha pins s σ H _ I h) λv s1 ⟨x,H1,I1,r1,q1⟩=>?_);obtain⟨c,rfl,q1⟩:=q1;cases r1;refine wpAny_truthy_bool ?_;cases c with
 | true=>exact hb pins s1 σ H1 Q I1 q1
 | false=>exact⟨.bl false,H1,I1,rfl,q1⟩
end
end L2
namespace L2
open PySem PySem.Spec PyProof.Rows
def fF(K:PySem.W.Frag)(H:Hp)(a:Addr)(xs:List V):Prop:=
 Rd H a (.lst xs) \/
  ∃(o:Obj) (its:Array Value) (n:Nat),K.lookup a=some o/\o.cls=.type "list"/\o.dict=none/\o.data=.seq its n/\its.size<=sizeLine/\Vals xs its.toList
def kR(K:PySem.W.Frag)(H:Hp)(a:Addr)(xs:List V):Prop:=
 Rd H a (.tup xs) \/
  ∃(o:Obj) (its:Array Value) (n:Nat),K.lookup a=some o/\o.cls=.type "tuple"/\o.data=.seq its n/\its.size<=sizeLine/\Vals xs its.toList
def aaf:Value->Option V
 | .none=>some .aW
 | .bool b=>some (.bl b)
 | .int i _=>some (.int i)
 | .str x _=>some (.str x)
 | .bytes b _=>some (.Tn b)
 | .float b _=>some (.Zt b)
 | .ref a=>some (.ref a)
 | .type n=>some (.ty n)
 | _=>none
theorem RelV.abs{x:V}{u:Value}(r:RelV x u):aaf u=some x:=by
 cases x with
 | aW=>cases r;rfl
 | bl _=>cases r;rfl
 | int _=>obtain⟨t,rfl⟩:=r;rfl
 | str _=>obtain⟨t,rfl⟩:=r;rfl
 | Tn _=>obtain⟨t,rfl⟩:=r;rfl
 | Zt _=>obtain⟨t,rfl⟩:=r;rfl
 | ref _=>cases r;rfl
 | ty _=>cases r;rfl
theorem RelV.inj{x y:V}{u:Value}(r:RelV x u)(q:RelV y u):x=y:=Option.some.inj (r.abs.symm.trans q.abs)
theorem Vals.inj:∀ {xs ys:List V} {us:List Value},Vals xs us->Vals ys us->xs=ys
 | _,_,_,.nil,.nil=>rfl
 | _,_,_,.cons r t,.cons r' t'=>by rw[r.inj r',Vals.inj t t']
section
variable {X:Cx}{pins:List (Addr×Obj)}{σ:St}{H:Hp}{s:Shared}{a:Addr}{xs ys:List V}
theorem fF.of{K:PySem.W.Frag}(h:H a=some (.lst xs)):fF K H a xs:=.inl (.inl h)
theorem kR.of{K:PySem.W.Frag}(h:H a=some (.tup xs)):kR K H a xs:=.inl (.inl h)
theorem Inv.list(I:Inv X pins σ H s)(h:fF X.K H a xs):∃its:List Value,Vals xs its/\PlainL s.heap a its.toArray/\xs.length<=sizeLine:=by
 rcases h with h|⟨o,its,n,hk,hc,hd,hs,hz,r⟩
 ·obtain⟨z,its,n,r,e⟩:=h.ok I.bL
  exact⟨its,r,⟨_,n,e,rfl,rfl,rfl⟩,z⟩
 ·refine⟨its.toList,r,⟨o,n,I.yO a o hk,hc,hd,by simpa using hs⟩,?_⟩
  have e:=r.length;simp only[Array.length_toList]at e;omega
theorem Inv.tuple(I:Inv X pins σ H s)(h:kR X.K H a xs):∃its:List Value,Vals xs its/\IsTup s.heap a its.toArray/\xs.length<=sizeLine:=by
 rcases h with h|⟨o,its,n,hk,hc,hs,hz,r⟩
 ·obtain⟨z,its,r,p⟩:=h.ok I.bL
  exact⟨its,r,p,z⟩
 ·refine⟨its.toList,r,⟨o,I.yO a o hk,hc,n,by simpa using hs⟩,?_⟩
  have e:=r.length;simp only[Array.length_toList]at e;omega
theorem Inv.vk(I:Inv X pins σ H s)(h:fF X.K H a xs)(h':fF X.K H a ys):xs=ys:=by
 obtain⟨its,r,⟨o,n,e,_,_,d⟩,_⟩:=I.list h;obtain⟨its',r',⟨o',n',e',_,_,d'⟩,_⟩:=I.list h';rw[e]at e';cases e';rw[d]at d'
 injection d' with d1 _
 have:its=its':=by simpa using congrArg Array.toList d1
 subst this;exact r.inj r'
theorem Inv.qC(I:Inv X pins σ H s)(h:kR X.K H a xs)(h':kR X.K H a ys):xs=ys:=by
 obtain⟨its,r,⟨o,e,_,n,d⟩,_⟩:=I.tuple h;obtain⟨its',r',⟨o',e',_,n',d'⟩,_⟩:=I.tuple h';rw[e]at e';cases e';rw[d]at d'
 injection d' with d1 _
 have:its=its':=by simpa using congrArg Array.toList d1
 subst this;exact r.inj r'
end
abbrev Cx.pE(X:Cx)(E:Value->Shared->Prop):Cx:={X with xe:=E}
abbrev Cx.HG(X:Cx):Cx:=X.pE λ_ _=>False
theorem Cx.Ok.pE{X:Cx}(ok:X.Ok)(E:Value->Shared->Prop):(X.pE E).Ok:=
 ⟨ok.mod,ok.kind,ok.glob,ok.blt,ok.above,ok.inj,ok.has,ok.Tp,ok.hd,ok.frames,ok.YR,ok.exf,ok.bs,ok.BV,ok.Ay,ok.Dg,ok.k4,ok.JZ⟩
theorem Cx.Ok.ic{X:Cx}{E:Value->Shared->Prop}(ok:(X.pE E).Ok):X.Ok:=
 ⟨ok.mod,ok.kind,ok.glob,ok.blt,ok.above,ok.inj,ok.has,ok.Tp,ok.hd,ok.frames,ok.YR,ok.exf,ok.bs,ok.BV,ok.Ay,ok.Dg,ok.k4,ok.JZ⟩
section
variable {X:Cx}{pins:List (Addr×Obj)}{σ:St}{H:Hp}{s:Shared}{E:Value->Shared->Prop}
theorem Inv.pE(I:Inv X pins σ H s)(E:Value->Shared->Prop):Inv (X.pE E) pins σ H s:=⟨I.ok.pE E,I.os,I.bare,I.base,I.loc,I.cell,I.free,I.gh,I.pin,I.bL,I.len⟩
theorem Inv.ic(I:Inv (X.pE E) pins σ H s):Inv X pins σ H s:=⟨I.ok.ic,I.os,I.bare,I.base,I.loc,I.cell,I.free,I.gh,I.pin,I.bL,I.len⟩
theorem SP.ic{D:Ends}{f:Flow}{s':Shared}(h:SP (X.pE E) pins D f s'):SP X pins D f s':=by
 cases f with
 | next=>obtain⟨bh,H',I,q⟩:=h;exact⟨bh,H',I.ic,q⟩
 | brk=>obtain⟨bh,H',I,q⟩:=h;exact⟨bh,H',I.ic,q⟩
 | cont=>obtain⟨bh,H',I,q⟩:=h;exact⟨bh,H',I.ic,q⟩
 | ret u=>obtain⟨v,bh,H',I,r,q⟩:=h;exact⟨v,bh,H',I.ic,r,q⟩
theorem qI.HG{st:List Stmt}{t:TS}(h:qI X.HG st t):qI X st t:=λpins s σ H D I hw =>
 wpAny_mono (h pins s σ H D (I.pE _) hw) (λ_ _ q=>q.ic) λ_ _ z=>False.elim z
end
section
variable {X:Cx}{st:Stmt}{rest:List Stmt}{t u:TS}{e:Expr}{te:TE}{pos:Pos}
def Y4:TS:=λD σ H=>D.nx σ H
def abq(t u:TS):TS:=λD σ H=>t {D with nx:=u D} σ H
theorem zb:qI X [] Y4:=λ_ _ σ H _ I h=>wpAny_execs_nil ⟨σ,H,I,h⟩
theorem vG(h1:PS X st t)(h2:qI X rest u):qI X (st::rest) (abq t u):=by
 intro pins s σ H D I h;refine wpAny_execs_cons (cm (h1 pins s σ H {D with nx:=u D} I h) λf s1 q=>?_)
 cases f with
 | next =>
  obtain⟨bh,H',I',q⟩:=q;exact h2 pins s1 bh H' D I' q
 | ret v=>exact q
 | brk=>exact q
 | cont=>exact q
theorem sf(h1:PS X st t):qI X [st] t:=by
 intro pins s σ H D I h;refine wpAny_execs_cons (cm (h1 pins s σ H D I h) λf s1 q=>?_);cases f with
 | next=>exact wpAny_execs_nil q
 | ret v=>exact q
 | brk=>exact q
 | cont=>exact q
theorem Inv.quiet{pins:List (Addr×Obj)}{σ:St}{H:Hp}{s:Shared}(I:Inv X pins σ H s):interactive X.env=false:=by simp [interactive,I.ok.kind]
def YZ(te:TE):TS:=λD σ H=>te σ H λ_ H1=>D.nx σ H1
theorem za(he:PE X e te)(hs:swapsWith e none pos.line X.env=pure false:=by rfl):PS X (.Expr e pos) (YZ te):=by
 intro pins s σ H D I h;exact wpAny_Expr_any (cm (he pins s σ H _ I h) λv s1 ⟨x,H1,I1,r1,q1⟩=>⟨σ,H1,I1,q1⟩) I.quiet hs
def abp(te:TE):TS:=λD σ H=>te σ H D.rt
theorem xB(he:PE X e te):PS X (.Return (some e) pos) (abp te):=by
 intro pins s σ H D I h;exact wpAny_Return_some (cm (he pins s σ H _ I h) λv s1 ⟨x,H1,I1,r1,q1⟩=>⟨x,σ,H1,I1,r1,q1⟩)
def abn(c:TT)(t u:TS):TS:=λD σ H=>c σ H λb H1=>if b=true then t D σ H1 else u D σ H1
theorem Kh{c:Expr}{a b:List Stmt}{tc:TT}(hc:PT X c tc)(ha:qI X a t)(hb:qI X b u):PS X (.If c a b pos) (abn tc t u):=by
 intro pins s σ H D I h;refine wpAny_If (cm (hc pins s σ H _ I h) λd s1 ⟨H1,I1,q1⟩=>?_);cases d with
 | true=>exact ha pins s1 σ H1 D I1 q1
 | false=>exact hb pins s1 σ H1 D I1 q1
def SV:TS:=λ_ _ _=>False
theorem ER:PS X st SV:=λ_ _ _ _ _ _ h=>h.elim
end
abbrev TG:=V->St->Hp->(St->Hp->Prop)->Prop
abbrev Gy:=List V->St->Hp->(St->Hp->Prop)->Prop
def PG(X:Cx)(target:Expr)(t:TG):Prop:=
 ∀(pins:List (Addr×Obj)) (s:Shared) (σ:St) (H:Hp) (v:V) (u:Value) (Q:St->Hp->Prop),Inv X pins σ H s->RelV v u->t v σ H Q ->
  wpAny (model X.prog X.w) X.A (assign target X.env u) (λ_ s'=>∃bh H',Inv X pins bh H' s'/\Q bh H') X.xe s
def KO(X:Cx)(ts:List Expr)(t:Gy):Prop:=
 ∀(pins:List (Addr×Obj)) (s:Shared) (σ:St) (H:Hp) (vs:List V) (us:List Value) (Q:St->Hp->Prop),Inv X pins σ H s->Vals vs us->t vs σ H Q ->
  wpAny (model X.prog X.w) X.A (assignInOrder ((assignEach ts X.env).map (·.2)) us) (λ_ s'=>∃bh H',Inv X pins bh H' s'/\Q bh H') X.xe s
abbrev KQ:=V->V->V->Hp->(Hp->Prop)->Prop
def Up(X:Cx)(t:KQ):Prop:=
 ∀(pins:List (Addr×Obj)) (s:Shared) (σ:St) (H:Hp) (o i v:V) (ov iv u:Value) (Q:Hp->Prop),Inv X pins σ H s->RelV o ov->RelV i iv->RelV v u->t o i v H Q ->
  wpAny (model X.prog X.w) X.A (setItem ov iv u) (λ_ s'=>∃H',Inv X pins σ H' s'/\Q H') X.xe s
section
variable {X:Cx}{pos:Pos}
def jF(i:Nat):TG:=λv σ H Q=>Q (σ.set i (some v)) H
theorem rW{i:Nat}{x:Str}(hN:X.N.Nodup)(hi:X.N[i]?=some x)(hx:Loc X.env.scope x)(hf:X.fn x=true\/X.env.scope.names.lookup x=some .local:=by first|exact .inl rfl|exact .inr rfl|assumption):PG X (.Name x pos) (jF i):=by
 intro pins s σ H v u Q I r h;exact wpAny_assign_Name (oT I hN hi hx r (λs' I'=>⟨_,H,I',h⟩) hf)
def aaw:Gy:=λvs σ H Q=>vs=[]/\Q σ H
def VX(t:TG)(u:Gy):Gy:=λvs σ H Q=>∃v r,vs=v::r/\t v σ H λbh H'=>u r bh H' Q
theorem yY:KO X [] aaw:=by
 intro pins s σ H vs us Q I r h;obtain⟨e,h⟩:=h;subst e;cases r;exact assignInOrder_nil ⟨σ,H,I,h⟩
theorem jY{e:Expr}{es:List Expr}{t:TG}{u:Gy}(h1:PG X e t)(h2:KO X es u)
  (hs:(assignEach (e::es) X.env).map (·.2)=assign e X.env::(assignEach es X.env).map (·.2):=by rfl):KO X (e::es) (VX t u):=by
 intro pins s σ H vs us Q I r h;obtain⟨v,vr,e1,h⟩:=h;subst e1;cases r with
 | cons r rr =>
  rw[hs];refine assignInOrder_cons (cm (h1 pins s σ H _ _ _ I r h) λ_ s1 ⟨av,H1,I1,q1⟩=>?_);exact h2 pins s1 av H1 _ _ Q I1 rr q1
def aay(K:PySem.W.Frag)(n:Nat)(t:Gy):TG:=λv σ H Q=>∃a xs,v=.ref a/\kR K H a xs/\xs.length=n/\t xs σ H Q
theorem QH{es:List Expr}{k:Nat}{t:Gy}{n:Nat}(hc:X.calm=true)(h:KO X es t)
  (hn:(assignEach es X.env).length=n:=by rfl) (wt:(assignEach es X.env).findIdx? (·.1)=none:=by rfl):PG X (.Tuple es k pos) (aay X.K n t):=by
 intro pins s σ H v u Q I r hw;obtain⟨a,xs,e1,hq,hl,hw⟩:=hw;subst e1;cases r;obtain⟨its,rv,ht,hz⟩:=I.tuple hq;refine assign_Tuple_tuple (I.ok.hd hc) ht (by simp [hn,<- hl,rv.length]) wt λh' hx=>?_
 have I1:Inv X pins σ H {s with heap:=h'}:=I.kept (t':=s.toks) λb o e=>hx b o (Nat.ne_of_lt (Heap.lt_size e)) e
 exact h pins _ σ H xs _ Q I1 (by simpa using rv) hw
def aax(to ti:TE)(t:KQ):TG:=λv σ H Q=>to σ H λo H1=>ti σ H1 λi H2=>t o i v H2 λH3=>Q σ H3
theorem QG{o i:Expr}{to ti:TE}{t:KQ}(ho:PE X o to)(hi:PE X i ti)(hs:Up X t)
  (ha:∀v,assign (.Subscript o i pos) X.env v=(do
   let ov <- holding [v] (eval o X.env)
   let iv <- holding [v,ov] (eval i X.env)
   standAt pos
   holding [v,ov,iv] (setItem ov iv v)
   release [v,ov,iv] []):=by intro _;rfl):PG X (.Subscript o i pos) (aax to ti t):=by
 intro pins s σ H v u Q I r h;rw[ha];refine wpAny_bind (wpAny_holding (cm (ho pins s σ H _ I h) λov s1 ⟨x,H1,I1,r1,q1⟩=>?_));refine wpAny_bind (wpAny_holding (cm (hi pins s1 σ H1 _ I1 q1) λiv s2 ⟨y,H2,I2,r2,q2⟩=>?_));refine wpAny_bind (wpAny_standAt (wpAny_bind (wpAny_holding (cm (hs pins s2 σ H2 x y v ov iv u _ I2 r1 r2 r q2) λ_ s3 ⟨H3,I3,q3⟩=>?_))));exact wpAny_release ⟨σ,H3,I3,q3⟩
def AY(te:TE)(g:TG):TS:=λD σ H=>te σ H λx H1=>g x σ H1 D.nx
theorem EL{tg e:Expr}{te:TE}{g:TG}(he:PE X e te)(hg:PG X tg g)(hs:swapsWithSole [tg] e pos.line X.env=pure false:=by rfl)(hw:swappedStores [tg] e X.env=pure none:=by rfl)
  (h1:(assignEach [tg] X.env).map (·.2)=[assign tg X.env]:=by rfl):PS X (.Assign [tg] e pos) (AY te g):=by
 intro pins s σ H D I h;refine wpAny_Assign_stores (cm (he pins s σ H _ I h) λv s1 ⟨x,H1,I1,r1,q1⟩=>?_) hs hw;rw[h1];exact cm (hg pins s1 σ H1 x v _ I1 r1 q1) λ_ s2 q=>q
theorem sd{i:Nat}{x:Str}{e:Expr}{te:TE}{pos':Pos}(hN:X.N.Nodup)(hi:X.N[i]?=some x)(hx:Loc X.env.scope x)(he:PE X e te)(hs:swapsWith e (some (.Name x pos')) pos.line X.env=pure false:=by rfl)(hf:X.fn x=true\/X.env.scope.names.lookup x=some .local:=by first|exact .inl rfl|exact .inr rfl|assumption):
  PS X (.Assign [.Name x pos'] e pos) (AY te (jF i)):=by
 intro pins s σ H D I h;refine wpAny_Assign_Name (cm (he pins s σ H _ I h) λv s1 ⟨y,H1,I1,r1,q1⟩=>?_) hs;exact oT I1 hN hi hx r1 (λs2 I2=>⟨_,H1,I2,q1⟩) hf
end
structure It where
 go:Nat->Hp->Prop
 T6:Nat->Hp->V->Hp->Prop
 stop:Nat->Hp->Prop
def iM(X:Cx)(pins:List (Addr×Obj))(H:Hp)(b:Addr):Prop:=
 H b=none/\b≠X.env.locals/\b∉X.fs/\(b∈X.ex\/X.c5.heap.objs.size<=b)/\(∀x c,X.env.cells.lookup x=some c->c≠b)/\∀p∈X.pn++pins,p.1≠b
theorem Inv.Ac{X:Cx}{pins:List (Addr×Obj)}{σ:St}{H H':Hp}{s:Shared}{b:Addr}(I:Inv X pins σ H s)(hb:s.heap.objs.size<=b)(hn:H' b=none):iM X pins H' b:=by
 refine⟨hn,Nat.ne_of_gt (Nat.lt_of_lt_of_le I.lt hb),I.aa2 hb,.inr (Nat.le_trans I.sz hb),λx c e z=>?_,λp hp z=>?_⟩
 ·obtain⟨v,q⟩:=I.cell x c e
  exact absurd (Nat.lt_of_lt_of_le q.lt (by rw[z];exact hb)) (Nat.lt_irrefl _)
 ·exact absurd (Nat.lt_of_lt_of_le (Heap.lt_size (I.pin p hp).1) (by rw[z];exact hb)) (Nat.lt_irrefl _)
structure Turn(P:Program)(w:World)(K:PySem.W.Frag)(tg:Expr)(J:It)(fp:List Addr)(it:Addr)(tn:Nat->Heap->Prop):Prop where
 mem:it∈fp
 obj:∀i h,tn i h->∀b∈fp,∃o,h.get? b=some o/\∀v,o.data≠.cell v
 keep:∀i h h',tn i h->(∀b∈fp,∀o,h.get? b=some o->h'.get? b=some o)->tn i h'
 item:∀(X:Cx),X.prog=P->X.w=w->X.K=K->X.calm=true->∀(i:Nat) (pins:List (Addr×Obj)) (s:Shared) (σ:St) (H:Hp) (E:Value->Shared->Prop),Inv X pins σ H s->(∀b∈fp,iM X pins H b)->tn i s.heap->J.go i H ->
  wpAny (model P w) X.A (pyNext (.ref it)) (λr s1=>∃u,r=some u /\
   wpAny (model P w) X.A (letOwnedTupleGo tg (.ref it) u) (λ_ s2=>∃x H',Inv X pins σ H' s2/\RelV x u/\J.T6 i H x H'/\tn (i+1) s2.heap/\∀b∈fp,H' b=none) E s1) E s
 done:∀(X:Cx),X.prog=P->X.w=w->X.K=K->X.calm=true->∀(i:Nat) (pins:List (Addr×Obj)) (s:Shared) (σ:St) (H:Hp) (E:Value->Shared->Prop),Inv X pins σ H s->(∀b∈fp,iM X pins H b)->tn i s.heap->J.stop i H ->
  wpAny (model P w) X.A (pyNext (.ref it)) (λr s1=>r=none/\Inv X pins σ H s1) E s
 self:∀(A:Around) (i:Nat) (s:Shared) (Q:Value->Shared->Prop) (E:Value->Shared->Prop),tn i s.heap->Q (.ref it) s->wpAny (model P w) A (pyIter (.ref it)) Q E s
abbrev TI:=St->Hp->(It->Hp->Prop)->Prop
def PIE(X:Cx)(pins:List (Addr×Obj))(σ:St)(tg:Expr)(R:It->Hp->Prop)(ZR:Value)(s2:Shared):Prop:=
 ∃(it:Addr) (fp:List Addr) (tn:Nat->Heap->Prop) (J:It) (H':Hp),ZR=.ref it/\Inv X pins σ H' s2/\Turn X.prog X.w X.K tg J fp it tn/\tn 0 s2.heap/\(∀b∈fp,iM X pins H' b)/\R J H'
def PI(X:Cx)(tg iter:Expr)(wi:TI):Prop:=
 ∀(pins:List (Addr×Obj)) (s:Shared) (σ:St) (H:Hp) (R:It->Hp->Prop),Inv X pins σ H s->wi σ H R ->
  wpAny (model X.prog X.w) X.A (eval iter X.env) (λv s1=>wpAny (model X.prog X.w) X.A (pyIter v) (PIE X pins σ tg R) X.xe s1) X.xe s
theorem yA{M:Model}{A:Around}{E:Value->Shared->Prop}{s:Shared}{tg:Expr}{it:Addr}{u:Value}{o:Obj}{n:String}{vs:Array Value}{Q:Unit->Shared->Prop}(ho:s.heap.get? it=some o)(hc:o.cls=.type n)(hd:o.data=.fields vs)
    (hn:["enumerate","zip","dict_itemiterator","dict_reverseitemiterator","odict_iterator","itertools.zip_longest","itertools.pairwise"].contains n=false) (hQ:Q () s):wpAny M A (letOwnedTupleGo tg (.ref it) u) Q E s:=by
  unfold letOwnedTupleGo;cases tg<;>first
    | exact wpAny_pure hQ
    | (cases u<;>first
        | exact wpAny_pure hQ
        | (refine wpAny_bind (wpAny_load ho ?_)
           rw[hc,hd];show wpAny M A (if(["enumerate","zip","dict_itemiterator","dict_reverseitemiterator","odict_iterator","itertools.zip_longest","itertools.pairwise"].contains n&&vs[0]?==some (rawInt _))=true then _ else _) Q E s
           rw[if_neg (by intro h;rw[hn,Bool.false_and]at h;cases h)]
           exact wpAny_pure hQ))
def Zc(K:PySem.W.Frag)(a:Addr):It:=
 ⟨λi H=>∃xs x,fF K H a xs/\xs[i]?=some x,λi H x H'=>H'=H/\∀xs,fF K H a xs->xs[i]?=some x,λi H=>∃xs,fF K H a xs/\xs.length<=i⟩
def Itt(K:PySem.W.Frag)(a:Addr):It:=
 ⟨λi H=>∃xs x,kR K H a xs/\xs[i]?=some x,λi H x H'=>H'=H/\∀xs,kR K H a xs->xs[i]?=some x,λi H=>∃xs,kR K H a xs/\xs.length<=i⟩
def Tj(lo:Int)(n:Nat):It:=⟨λi _=>i<n,λi H x H'=>H'=H/\x=.int (lo+i),λi _=>n<=i⟩
theorem A1{P:Program}{w:World}{K:PySem.W.Frag}{tg:Expr}(a it:Addr):Turn P w K tg (Zc K a) [it] it (λi h=>h.IsListIter it a i) where
 mem:=by simp
 obj:=λi h st b hb=>by
  have e:b=it:=by simpa using hb
  subst e;obtain⟨o,e,c,d⟩:=st;exact⟨o,e,λv z=>by rw[d]at z;cases z⟩
 keep:=λi h h' st k=>st.at λo e=>k it (by simp) o e
 item:=by
  intro X hP hw hK hc i pins s σ H E I hf st hg;subst hP hw hK;obtain⟨xs,x,hq,hx⟩:=hg;obtain⟨its,rv,p,hz⟩:=I.list hq;obtain⟨u,hu,ru⟩:=rv.get hx;obtain⟨f0,f1,f2,f3,f4,f5⟩:=hf it (by simp)
  refine wpAny_pyNext_list_item st p.isList (x:=u) (by simpa using hu) λh' wy sb=>?_
  have I1:Inv X pins σ H {s with heap:=h'}:=I.turned (t':=s.toks) (λb o hb e=>(sb.2 b hb).trans e) f0 f1 f3 f4 f5
  obtain⟨o,e,c,d⟩:=id wy;exact⟨u,rfl,yA (s:={s with heap:=h'}) e c d ∅ ⟨x,H,I1,ru,⟨rfl,λys hy=>by rw[I.vk hy hq];exact hx⟩,wy,λb hb=>(hf b hb).1⟩⟩
 done:=by
  intro X hP hw hK hc i pins s σ H E I hf st hg;subst hP hw hK;obtain⟨xs,hq,hx⟩:=hg;obtain⟨its,rv,p,hz⟩:=I.list hq;obtain⟨f0,f1,f2,f3,f4,f5⟩:=hf it (by simp)
  have hl:=rv.length;exact wpAny_pyNext_list_end (I.ok.hd hc) st p.isList (by simp;omega) λh' eb=>⟨rfl,I.turned (t':=s.toks) (λb o hb e=>eb b o hb e) f0 f1 f3 f4 f5⟩
 self:=λ_ _ _ _ _ st h=>wpAny_pyIter_listiter st h
theorem x6{P:Program}{w:World}{K:PySem.W.Frag}{tg:Expr}(a it:Addr):Turn P w K tg (Itt K a) [it] it (λi h=>h.IsTupleIter it a i) where
 mem:=by simp
 obj:=λi h st b hb=>by
  have e:b=it:=by simpa using hb
  subst e;obtain⟨o,e,c,d⟩:=st;exact⟨o,e,λv z=>by rw[d]at z;cases z⟩
 keep:=λi h h' st k=>st.at λo e=>k it (by simp) o e
 item:=by
  intro X hP hw hK hc i pins s σ H E I hf st hg;subst hP hw hK;obtain⟨xs,x,hq,hx⟩:=hg;obtain⟨its,rv,p,hz⟩:=I.tuple hq;obtain⟨u,hu,ru⟩:=rv.get hx;obtain⟨f0,f1,f2,f3,f4,f5⟩:=hf it (by simp)
  refine wpAny_pyNext_tuple_item st (show s.heap.IsTuple a its.toArray from p) (x:=u) (by simpa using hu) λh' wy sb=>?_
  have I1:Inv X pins σ H {s with heap:=h'}:=I.turned (t':=s.toks) (λb o hb e=>(sb.2 b hb).trans e) f0 f1 f3 f4 f5
  obtain⟨o,e,c,d⟩:=id wy;exact⟨u,rfl,yA (s:={s with heap:=h'}) e c d ∅ ⟨x,H,I1,ru,⟨rfl,λys hy=>by rw[I.qC hy hq];exact hx⟩,wy,λb hb=>(hf b hb).1⟩⟩
 done:=by
  intro X hP hw hK hc i pins s σ H E I hf st hg;subst hP hw hK;obtain⟨xs,hq,hx⟩:=hg;obtain⟨its,rv,p,hz⟩:=I.tuple hq;obtain⟨f0,f1,f2,f3,f4,f5⟩:=hf it (by simp)
  have hl:=rv.length;exact wpAny_pyNext_tuple_end (I.ok.hd hc) st (show s.heap.IsTuple a its.toArray from p) (by simp;omega) λh' eb=>⟨rfl,I.turned (t':=s.toks) (λb o hb e=>eb b o hb e) f0 f1 f3 f4 f5⟩
 self:=λ_ _ _ _ _ st h=>wpAny_pyIter_tupleiter st h
theorem x5{P:Program}{w:World}{K:PySem.W.Frag}{tg:Expr}(it:Addr)(lo:Int)(n:Nat):Turn P w K tg (Tj lo n) [it] it (λi h=>IsRangeIter h it (lo+(i:Nat)*1) ((n:Int)-(i:Nat)) 1) where
 mem:=by simp
 obj:=λi h st b hb=>by
  have e:b=it:=by simpa using hb
  subst e;exact⟨_,st,λv z=>by
   have z':Data.fields _=Data.cell v:=z;cases z'⟩
 keep:=λi h h' st k=>k it (by simp) _ st
 item:=by
  intro X hP hw hK hc i pins s σ H E I hf st hg;subst hP hw hK;obtain⟨f0,f1,f2,f3,f4,f5⟩:=hf it (by simp)
  have W:=Walks.range (prog:=X.prog) (w:=X.w) (I.ok.hd hc) it lo 1 n;refine W.item i s _ _ hg st λv h' tk hv wy kk=>?_;obtain⟨t,rfl⟩:=hv;have I1:Inv X pins σ H {s with heap:=h',toks:=tk}:=I.turned (λb o hb e=>kk b o (by simpa using hb) e) f0 f1 f3 f4 f5
  refine⟨_,rfl,yA (s:={s with heap:=h',toks:=tk}) (n:="range_iterator") wy rfl rfl ∅ ⟨.int (lo+i),H,I1,⟨t,?_⟩,⟨rfl,rfl⟩,wy,λb hb=>(hf b hb).1⟩⟩
  rw[Int.mul_one]
 done:=by
  intro X hP hw hK hc i pins s σ H E I hf st hg;subst hP hw hK;obtain⟨f0,f1,f2,f3,f4,f5⟩:=hf it (by simp)
  exact wpAny_pyNext_range_end (I.ok.hd hc) st (by have:n<=i:=hg;omega) λh' eb=>⟨rfl,I.turned (t':=s.toks) (λb o hb e=>eb b o hb e) f0 f1 f3 f4 f5⟩
 self:=λ_ _ _ _ _ st h=>wpAny_pyIter_rangeiter st h
end L2
namespace L2
open PySem PySem.Spec PyProof.Rows
section
variable {X:Cx}{tg:Expr}
theorem vL{pins:List (Addr×Obj)}{σ:St}{H:Hp}{s:Shared}{R:It->Hp->Prop}{E:Value->Shared->Prop}{lo hi:Int}{t u v:Tok}{tk:Nat}(I:Inv X pins σ H s)(h1:-(2^62)<=lo)(h2:lo<2^62)(h3:-(2^62)<=hi)(h4:hi<2^62)
  (q:R (Tj lo (hi-lo).toNat) H):wpAny (model X.prog X.w) X.A (pyIter (.ref s.heap.objs.size)) (PIE X pins σ tg R) E {s with heap:=s.heap.push {cls:=.type "range",data:=.fields #[.int lo t,.int hi u,.int 1 v]},toks:=tk}:=by
 refine wpAny_pyIter_range (IsRange.new ..) (small_one h1 h2 h3 h4) ?_;have I1:Inv X pins σ H {s with heap:=s.heap.push {cls:=.type "range",data:=.fields #[.int lo t,.int hi u,.int 1 v]},toks:=tk}:=I.kept λb o e=>Heap.get?_push_of_some _ e
 refine⟨(s.heap.push {cls:=.type "range",data:=.fields #[.int lo t,.int hi u,.int 1 v]}).objs.size,[(s.heap.push {cls:=.type "range",data:=.fields #[.int lo t,.int hi u,.int 1 v]}).objs.size],_,_,H,rfl,
  I1.kept (t':=tk) λb o e=>Heap.get?_push_of_some _ e,x5 _ lo (hi-lo).toNat,?_,λb hb=>?_,q⟩
 ·have e1:lo+((0:Nat):Int)*1=lo:=by simp
  have e2:(((hi-lo).toNat:Nat):Int)-((0:Nat):Int)=Builtin.Range.rangeSize lo hi 1:=by rw[rangeSize_one];split<;>omega
  show IsRangeIter _ _ (lo+((0:Nat):Int)*1) ((((hi-lo).toNat:Nat):Int)-((0:Nat):Int)) 1;rw[e1,e2];exact Heap.get?_push_size _ rfl
 ·have e:b=(s.heap.push {cls:=.type "range",data:=.fields #[.int lo t,.int hi u,.int 1 v]}).objs.size:=by simpa using hb
  subst e;exact I1.Ac (Nat.le_refl _) (I1.bL.fresh (Nat.le_refl _))
def WG(ta:TA):TI:=λσ H R=>ta σ H λvs H1=>∃j:Int,vs=[.int j]/\-(2^62)<=j/\j<2^62/\R (Tj 0 j.toNat) H1
def WH(ta:TA):TI:=λσ H R=>ta σ H λvs H1=>∃i j:Int,vs=[.int i,.int j]/\(-(2^62)<=i/\i<2^62/\-(2^62)<=j/\j<2^62)/\R (Tj i (j-i).toNat) H1
theorem qm{a:Expr}{ta:TA}{p pos:Pos}(hg:Gl X "range")(hm:X.mg "range"=none)(ha:PA X [a] ta)(hs:starEach [a] X.env=[(false,eval a X.env)]:=by rfl):PI X tg (.Call (.Name "range" p) [a] [] pos) (WG ta):=by
 intro pins s σ H R I h;refine Call_ (lg I hg hm boot_range (PyProof.Rows.callWith_type1 (cm (ha pos pins s σ H _ I h) λus s1 ⟨vs,H1,I1,r1,q1⟩=>?_) hs rfl));obtain⟨j,e,q1,q2,q⟩:=q1;subst e;cases r1 with
 | cons r rr =>
  cases rr;obtain⟨t,rfl⟩:=r;exact call_range_1 (vL I1 ⋯ ⋯ q1 q2 (by simpa using q))
theorem AI{a b:Expr}{ta:TA}{p pos:Pos}(hg:Gl X "range")(hm:X.mg "range"=none)(ha:PA X [a,b] ta)(hs:starEach [a,b] X.env=[(false,eval a X.env),(false,eval b X.env)]:=by rfl)(wq:starEach [b] X.env=[(false,eval b X.env)]:=by rfl):
  PI X tg (.Call (.Name "range" p) [a,b] [] pos) (WH ta):=by
 intro pins s σ H R I h;refine Call_ (lg I hg hm boot_range (PyProof.Rows.callWith_type1 (cm (ha pos pins s σ H _ I h) λus s1 ⟨vs,H1,I1,r1,q1⟩=>?_) (by rw[hs,wq]) (by rw[wq];rfl)))
 obtain⟨i,j,e,⟨q1,q2,q3,q4⟩,q⟩:=q1;subst e;cases r1 with
 | cons r rr =>
  cases rr with
  | cons r' rr =>
   cases rr;obtain⟨t,rfl⟩:=r;obtain⟨t',rfl⟩:=r';exact call_range_2 (vL I1 q1 q2 q3 q4 q)
def Y0(wi:TI)(g:TG)(tb:TS):TS:=λD σ H=>wi σ H λJ H1=>∃W:Nat->Nat->St->Hp->Prop,(∃m,W 0 m σ H1)/\∀i m σ H,W i m σ H ->
 (J.stop i H/\D.nx σ H)\/(J.go i H/\∃N:St->Hp->Prop,(∀bh H',N bh H'->∃m',m'<m/\W (i+1) m' bh H')/\∀x H',J.T6 i H x H'->g x σ H' λaH H2=>tb {D with nx:=N,ct:=N,bk:=D.nx} aH H2)
def lA(fp:List Addr)(h:Heap):List (Addr×Obj):=fp.filterMap λb=>(h.get? b).map λo=>(b,o)
theorem eC{fp:List Addr}{h:Heap}{b:Addr}{o:Obj}(hb:b∈fp)(e:h.get? b=some o):(b,o)∈lA fp h:=List.mem_filterMap.mpr ⟨b,hb,by rw[e];rfl⟩
theorem AA{fp:List Addr}{h:Heap}{p:Addr×Obj}(hp:p∈lA fp h):p.1∈fp/\h.get? p.1=some p.2:=by
 obtain⟨b,hb,e⟩:=List.mem_filterMap.mp hp;cases q:h.get? b with
 | none=>rw[q]at e;cases e
 | some o =>
  rw[q]at e;have e':(b,o)=p:=Option.some.inj e;subst e';exact⟨hb,q⟩
theorem Inv.pinned{pins:List (Addr×Obj)}{σ:St}{H:Hp}{s:Shared}{fp:List Addr}(I:Inv X pins σ H s)(hf:∀b∈fp,iM X pins H b)(ho:∀b∈fp,∃o,s.heap.get? b=some o/\∀v,o.data≠.cell v):Inv X (pins++lA fp s.heap) σ H s:=
 I.yZ λp hp=>(List.mem_append.mp hp).elim (λz=>I.pin p (List.mem_append_right _ z)) λz=>by
  obtain⟨hb,e⟩:=AA z;obtain⟨f0,f1,f2,_⟩:=hf p.1 hb;obtain⟨o,e',d⟩:=ho p.1 hb;rw[e]at e';cases e';exact⟨e,f0,f1,f2,d⟩
theorem Inv.h9{pins pl:List (Addr×Obj)}{σ:St}{H:Hp}{s:Shared}(I:Inv X (pins++pl) σ H s):Inv X pins σ H s:=I.yZ λp hp=>I.pin p (List.mem_append_right _ (List.mem_append_left _ hp))
theorem xA{iter:Expr}{body:List Stmt}{wi:TI}{g:TG}{tb:TS}{pos:Pos}(hp:PassesOwn (model X.prog X.w) X.A X.env X.xe)(hc:X.calm=true)(hi:PI X tg iter wi)(hg:PG X tg g)(hb:qI X body tb)
  (hs:∀x,foldedSetIterable iter X.env x=pure x:=by intro _;rfl):PS X (.For tg iter body [] pos) (Y0 wi g tb):=by
 intro pins s σ H D I h;refine wpAny_For (cm (hi pins s σ H _ I h) λv s1 h1=>cm h1 λZR s2 h2=>?_) hs;obtain⟨it,fp,tn,J,H2,e,I2,T,Z6,f2,W,⟨m0,w0⟩,turn⟩:=h2;subst e
 -- what stays true of the iterator's objects through the loop
 have stat:∀ {H':Hp},(∀b∈fp,H' b=none)->∀b∈fp,iM X pins H' b:=λhn b hb=>⟨hn b hb,(f2 b hb).2⟩;refine codeAny_forLoop_any (λn s'=>∃i bh H',Inv X pins bh H' s'/\tn i s'.heap/\(∀b∈fp,H' b=none)/\W i n bh H') ?_ m0 ⟨0,σ,H2,I2,Z6,λb hb=>(f2 b hb).1,w0⟩;rintro n s3 ⟨i,c9,H3,I3,st3,yy,w3⟩;rcases turn i n c9 H3 w3 with⟨stop,qn⟩|⟨go,N,hN,step⟩
 ·refine wpAny_passesOwn hp (cm (T.done X rfl rfl rfl hc i pins s3 c9 H3 X.xe I3 (stat yy) st3 stop) λr s4 ⟨hr,I4⟩=>?_)
  subst hr;exact wpAny_execs_nil ⟨c9,H3,I4,qn⟩
 ·refine wpAny_passesOwn hp (cm (T.item X rfl rfl rfl hc i pins s3 c9 H3 X.xe I3 (stat yy) st3 go) λr s4 ⟨u,hr,h4⟩=>?_)
  subst hr;refine wpAny_passesOwn hp (cm h4 λ_ s5 ⟨x,H5,I5,r5,y5,TY,Ad⟩=>?_);have I5':=I5.pinned (stat Ad) (T.obj _ _ TY);refine wpAny_passesOwn hp (cm (hg _ s5 c9 H5 x u _ I5' r5 (step x H5 y5)) λ_ s6 ⟨σ6,H6,I6,q6⟩=>?_);refine wpAny_passesOwn hp (cm (hb _ s6 σ6 H6 _ I6 q6) λf s7 q7=>?_);have again:∀ {Gq:St} {H7:Hp},Inv X (pins++lA fp s5.heap) Gq H7 s7->N Gq H7->∃m,m<n/\∃i bh H',Inv X pins bh H' s7/\tn i s7.heap/\(∀b∈fp,H' b=none)/\W i m bh H':=λ{Gq H7} I7 n7=>by
   obtain⟨m',hm,w7⟩:=hN Gq H7 n7;refine⟨m',hm,i+1,Gq,H7,I7.h9,T.keep _ _ _ TY λb hb o e=>(I7.pin (b,o) (List.mem_append_right _ (List.mem_append_right _ (eC hb e)))).1,λb hb=>?_,w7⟩;obtain⟨o,e,d⟩:=T.obj _ _ TY b hb;exact(I7.pin (b,o) (List.mem_append_right _ (List.mem_append_right _ (eC hb e)))).2.1
  cases f with
  | next=>obtain⟨Gq,H7,I7,n7⟩:=q7;exact again I7 n7
  | cont=>obtain⟨Gq,H7,I7,n7⟩:=q7;exact again I7 n7
  | brk=>obtain⟨Gq,H7,I7,q7⟩:=q7;exact⟨Gq,H7,I7.h9,q7⟩
  | ret v=>obtain⟨x7,Gq,H7,I7,r7,q7⟩:=q7;exact⟨x7,Gq,H7,I7.h9,r7,q7⟩
end
end L2
namespace L2
open PySem PySem.Spec PyProof.Rows
abbrev R2:=V->V->Hp->VK->Prop
def iO(X:Cx)(f:Value->Value->Sem Value)(r:R2):Prop:=
 ∀(pins:List (Addr×Obj)) (s:Shared) (σ:St) (H:Hp) (x y:V) (v u:Value) (Q:VK),Inv X pins σ H s->RelV x v->RelV y u->r x y H Q ->
  wpAny (model X.prog X.w) X.A (f v u) (EP X pins σ Q) X.xe s
def cV(X:Cx)(f:Value)(r:List V->Hp->VK->Prop):Prop:=
 ∀(pins:List (Addr×Obj)) (s:Shared) (σ:St) (H:Hp) (xs:List V) (us:List Value) (Q:VK),Inv X pins σ H s->Vals xs us->r xs H Q ->
  wpAny (model X.prog X.w) X.A (call f us) (EP X pins σ Q) X.xe s
def aae(X:Cx)(r:V->Hp->(Bool->Hp->Prop)->Prop):Prop:=
 ∀(pins:List (Addr×Obj)) (s:Shared) (σ:St) (H:Hp) (x:V) (v:Value) (Q:Bool->Hp->Prop),Inv X pins σ H s->RelV x v->r x H Q ->
  wpAny (model X.prog X.w) X.A (truthy v) (TP X pins σ Q) X.xe s
def SW(r:R2)(ta tb:TE):TE:=λσ H Q=>ta σ H λx H1=>tb σ H1 λy H2=>r x y H2 Q
def rI(C:Int->Int->Prop)(g:Int->Int->V):R2:=λx y H Q=>∃i j,x=.int i/\y=.int j/\C i j/\Q (g i j) H
def GH(g:Int->Int->V):R2:=λx y H Q=>∃i j,x=.int i/\y=.int j/\Q (g i j) H
section
variable {X:Cx}{a b c:Expr}{ta tb tc:TE}{pos:Pos}
theorem Lq(ha:PE X a ta)(hb:PE X b tb){pins:List (Addr×Obj)}{s:Shared}{σ:St}{H:Hp}{R:V->V->Hp->Prop}(I:Inv X pins σ H s)
  (h:ta σ H λx H1=>tb σ H1 λy H2=>R x y H2) {Q:Value->Shared->Prop} {f:Value->Value->Sem Value}
  (hf:∀v u s2 x y H2,Inv X pins σ H2 s2->RelV x v->RelV y u->R x y H2->wpAny (model X.prog X.w) X.A (f v u) Q X.xe s2):
  wpAny (model X.prog X.w) X.A (eval a X.env) (λv bJ=>wpAny (model X.prog X.w) X.A (eval b X.env) (λu tH=>wpAny (model X.prog X.w) X.A (f v u) Q X.xe tH) X.xe bJ) X.xe s:=by
 refine cm (ha pins s σ H _ I h) λv s1 ⟨x,H1,I1,r1,q1⟩=>?_;refine cm (hb pins s1 σ H1 _ I1 q1) λu s2 ⟨y,H2,I2,r2,q2⟩=>?_;exact hf v u s2 x y H2 I2 r1 r2 q2
theorem X0{op:Operator}{r:R2}(ho:iO X (binaryOp op) r)(ha:PE X a ta)(hb:PE X b tb):PE X (.BinOp a op b pos) (SW r ta tb):=by
 intro pins s σ H Q I h;exact wpAny_BinOp (Lq ha hb I h λv u s2 x y H2 I2 rx ry q=>ho pins s2 σ H2 x y v u Q I2 rx ry q)
theorem Z1{f:Value->Value->Sem Value}{C:Int->Int->Prop}{g:Int->Int->Int}
  (rule:∀(i j:Int) (t u:Tok) (s:Shared) (Q:Value->Shared->Prop) (E:Value->Shared->Prop),C i j->Q (.int (g i j) s.toks) {s with toks:=s.toks+1}->wpAny (model X.prog X.w) X.A (f (.int i t) (.int j u)) Q E s):
  iO X f (rI C λi j=>.int (g i j)):=by
 intro pins s σ H x y v u Q I rx ry h;obtain⟨i,j,rfl,rfl,hc,q⟩:=h;obtain⟨t,rfl⟩:=rx;obtain⟨t',rfl⟩:=ry;exact rule i j t t' s _ _ hc ⟨.int (g i j),H,I.tok _,⟨_,rfl⟩,q⟩
theorem XD{f:Value->Value->Sem Value}{g:Int->Int->Int}
  (rule:∀(i j:Int) (t u:Tok) (s:Shared) (Q:Value->Shared->Prop) (E:Value->Shared->Prop),Q (.int (g i j) s.toks) {s with toks:=s.toks+1}->wpAny (model X.prog X.w) X.A (f (.int i t) (.int j u)) Q E s):
  iO X f (GH λi j=>.int (g i j)):=by
 intro pins s σ H x y v u Q I rx ry h;obtain⟨i,j,rfl,rfl,q⟩:=h;obtain⟨t,rfl⟩:=rx;obtain⟨t',rfl⟩:=ry;exact rule i j t t' s _ _ ⟨.int (g i j),H,I.tok _,⟨_,rfl⟩,q⟩
theorem HI{f:Value->Value->Sem Value}{g:Int->Int->Bool}
  (rule:∀(i j:Int) (t u:Tok) (s:Shared) (Q:Value->Shared->Prop) (E:Value->Shared->Prop),Q (.bool (g i j)) s->wpAny (model X.prog X.w) X.A (f (.int i t) (.int j u)) Q E s):
  iO X f (GH λi j=>.bl (g i j)):=by
 intro pins s σ H x y v u Q I rx ry h;obtain⟨i,j,rfl,rfl,q⟩:=h;obtain⟨t,rfl⟩:=rx;obtain⟨t',rfl⟩:=ry;exact rule i j t t' s _ _ ⟨.bl (g i j),H,I,rfl,q⟩
def aac(i j:Int):Prop:=0<j/\j<1073741824
def o7(i j:Int):Prop:=0<=j/\j<=1000000/\i.natAbs<2^64
def kQ(i j:Int):Prop:=(-(2^64)<i/\i<2^64)\/(-(2^64)<j/\j<2^64)
theorem kQ.ok{i j:Int}(h:kQ i j):IntMulOk i j:=by
 rcases h with⟨h1,h2⟩|⟨h1,h2⟩
 ·exact .of_left (intBits_le_64 h1 h2)
 ·exact .of_right (intBits_le_64 h1 h2)
theorem Qj:iO X (binaryOp .Add) (GH λi j=>.int (i+j)):=XD λ_ _ _ _ _ _ _ q=>add_int q
theorem Qr:iO X (binaryOp .Sub) (GH λi j=>.int (i-j)):=XD λ_ _ _ _ _ _ _ q=>sub_int q
theorem Qn:iO X (binaryOp .Mult) (rI kQ λi j=>.int (i*j)):=Z1 λ_ _ _ _ _ _ _ hc q=>mul_int q hc.ok
theorem Qm:iO X (binaryOp .Mod) (rI (λ_ j=>0<j) λi j=>.int (i%j)):=Z1 λi j _ _ _ _ _ hc q=>by
 have h1:(0:Int)<j:=hc;exact mod_int' ⋯ (by rw[Int.fmod_eq_emod_of_nonneg i ⋯];exact q)
theorem Qq:iO X (binaryOp .Pow) (rI o7 λi j=>.int (i^j.toNat)):=Z1 λ_ _ _ _ _ _ _ hc q=>pow_int_small hc.1 hc.2.1 hc.2.2 q
end
section
variable {X:Cx}{a b c:Expr}{ta tb tc:TE}{pos:Pos}
theorem Nm{pins:List (Addr×Obj)}{σ:St}{H:Hp}{s:Shared}{Q:VK}{k k':Bool}(I:Inv X pins σ H s)(q:Q (.bl k) H)(e:k=k'):EP X pins σ Q (.bool k') s:=by
 subst e;exact⟨.bl k,H,I,rfl,q⟩
theorem XH:iO X (compareOp .Lt) (GH λi j=>.bl (decide (i<j))):=HI λ_ _ _ _ _ _ _ q=>lt_int q
theorem XG:iO X (compareOp .LtE) (GH λi j=>.bl (decide (i<=j))):=HI λ_ _ _ _ _ _ _ q=>le_int q
theorem XF:iO X (compareOp .Gt) (GH λi j=>.bl (decide (j<i))):=HI λ_ _ _ _ _ _ _ q=>gt_int q
theorem XE:iO X (compareOp .GtE) (GH λi j=>.bl (decide (j<=i))):=HI λ_ _ _ _ _ _ _ q=>ge_int q
theorem Ql:iO X (compareOp .Is) (λx y H Q=>y=.aW/\Q (.bl (decide (x=.aW))) H):=by
 intro pins s σ H x y v u Q I rx ry h;obtain⟨rfl,q⟩:=h;cases ry;refine is_none_gen (Nm I q ?_);cases x<;>first
  | (cases rx;rfl)
  | (obtain⟨t,rfl⟩:=rx;rfl)
theorem iO.or{f:Value->Value->Sem Value}{r r':R2}(h:iO X f r)(h':iO X f r'):iO X f (λx y H Q=>r x y H Q\/r' x y H Q):=by
 intro pins s σ H x y v u Q I rx ry q;rcases q with q|q
 ·exact h pins s σ H x y v u Q I rx ry q
 ·exact h' pins s σ H x y v u Q I rx ry q
theorem xl(b:Expr){op:CmpOp}(h:op≠.In:=by decide)(h2:op≠.NotIn:=by decide):behindInMarks op b=false:=by
 have e1:(op==CmpOp.In)=false:=by cases op<;>first|rfl|exact absurd rfl h
 have e2:(op==CmpOp.NotIn)=false:=by cases op<;>first|rfl|exact absurd rfl h2
 cases b<;>simp [behindInMarks,e1,e2]
theorem Ia{op:CmpOp}{r:R2}(ho:iO X (compareOp op) r)(ha:PE X a ta)(hb:PE X b tb)(hm:behindInMarks op b=false):PE X (.Compare a [op] [b] pos) (SW r ta tb):=by
 intro pins s σ H Q I h;exact wpAny_Compare1 (Lq ha hb I h λv u s2 x y H2 I2 rx ry q=>ho pins s2 σ H2 x y v u Q I2 rx ry q) hm
def Y6(t:TE):TT:=λσ H Q=>t σ H λx H'=>∃k,x=.bl k/\Q k H'
theorem zc{op:CmpOp}{r:R2}(ho:iO X (compareOp op) r)(ha:PE X a ta)(hb:PE X b tb)(hm:behindInMarks op b=false):PT X (.Compare a [op] [b] pos) (Y6 (SW r ta tb)):=by
 intro pins s σ H Q I h;refine wpAny_isTrue_Compare1 (cm (ha pins s σ H _ I h) λv s1 ⟨x,H1,I1,r1,q1⟩=>cm (hb pins s1 σ H1 _ I1 q1) λu s2 ⟨y,H2,I2,r2,q2⟩ =>
  cm (ho pins s2 σ H2 x y v u _ I2 r1 r2 q2) λc s3 ⟨z,H3,I3,r3,k,e,q3⟩=>?_) hm
 subst e;cases r3;exact wpAny_truthy_bool ⟨H3,I3,q3⟩
def KR(K:PySem.W.Frag)(x:V)(H:Hp)(k:Bool):Prop:=
 match x with
 | .aW=>k=false
 | .bl b=>k=b
 | .int i=>k=(i != 0)
 | .str y=>y.length<=sizeLine/\k=((y.length:Int) != 0)
 | .Tn y=>y.size<=sizeLine/\k=((y.size:Int) != 0)
 | .ref p=>(∃xs,fF K H p xs/\k=!xs.isEmpty)\/(∃xs,kR K H p xs/\k=!xs.isEmpty)\/∃kvs,H p=some (.dK kvs)/\k=!kvs.isEmpty
 | _=>False
theorem wX{κ:Type}{kvs:List (κ×V)}{vs:List (κ×Value)}(r:KV kvs vs):(!vs.isEmpty)=!kvs.isEmpty:=by
 cases r<;>rfl
theorem nD{xs:List V}{its:List Value}(r:Vals xs its):(!its.toArray.isEmpty)=!xs.isEmpty:=by
 cases r<;>simp
theorem jn:(sizeLine:Nat)<2^63:=by rw[sizeLine_eq];decide
theorem Ge:aae X (λx H Q=>∃k,KR X.K x H k/\Q k H):=by
 intro pins s σ H x v Q I rx h;obtain⟨k,e,q⟩:=h;have hl:=jn;have hs:sizeLine=16777216:=sizeLine_eq;cases x with
 | aW =>
  cases rx;have e':k=false:=e;subst e';exact truthy_none ⟨H,I,q⟩
 | bl b =>
  cases rx;have e':k=b:=e;subst e';exact wpAny_truthy_bool ⟨H,I,q⟩
 | int i =>
  obtain⟨t,rfl⟩:=rx;have e':k=(i != 0):=e;subst e';exact PySem.P.truthy_int ⟨H,I,q⟩
 | str y =>
  obtain⟨t,rfl⟩:=rx;obtain⟨hy,e'⟩:y.length<=sizeLine/\k=((y.length:Int) != 0):=e;subst e';exact PySem.P.truthy_str ⋯ ⟨H,I.tok _,q⟩
 | Tn y =>
  obtain⟨t,rfl⟩:=rx;obtain⟨hy,e'⟩:y.size<=sizeLine/\k=((y.size:Int) != 0):=e;subst e';exact PySem.W.truthy_bytes ⋯ ⟨H,I.tok _,q⟩
 | ref p =>
  cases rx;have e':(∃xs,fF X.K H p xs/\k=!xs.isEmpty)\/(∃xs,kR X.K H p xs/\k=!xs.isEmpty)\/∃kvs,H p=some (.dK kvs)/\k=!kvs.isEmpty:=e;rcases e' with⟨xs,hx,e'⟩|⟨xs,hx,e'⟩|⟨kvs,hx,e'⟩
  ·subst e'
   obtain⟨its,r,pl,hz⟩:=I.list hx;have hlen:=r.length;exact wpAny_truthy_list pl.isList (by simp only[List.size_toArray];omega) ⟨H,I.tok _,by rw[nD r];exact q⟩
  ·subst e'
   obtain⟨its,r,pl,hz⟩:=I.tuple hx;have hlen:=r.length;exact truthy_tuple pl (by simp only[List.size_toArray];omega) ⟨H,I.tok _,by rw[nD r];exact q⟩
  ·subst e'
   obtain⟨hz,hS,vs,r,m⟩:kvs.length<=sizeLine/\(p==sysModules)=false/\∃vs,KV kvs vs/\s.heap.DictOf (bM X.prog X.w) p vs:=I.bL p _ hx;have hlen:kvs.length=vs.length:=Paired.length r;exact wpAny_truthy_dict hS m ⋯ ⟨H,I.tok _,by rw[wX r];exact q⟩
 | _=>exact(show False from e).elim
theorem EY(ha:PE X a ta)(he:∀whole,isTrue a X.env whole=(do let v <- whole;standAt a.pos;holding [v] (truthy v))):
  PT X a (λσ H Q=>ta σ H λx H'=>∃k,KR X.K x H' k/\Q k H'):=by
 intro pins s σ H Q I h;exact isTrue_plain (cm (ha pins s σ H _ I h) λv s1 ⟨x,H1,I1,r1,q1⟩=>Ge pins s1 σ H1 x v Q I1 r1 q1) (he _)
theorem xn:iO X (binaryOp .Add) (λx y H Q=>∃i j,x=.str i/\y=.str j/\i.length+j.length<=sizeLine/\Q (.str (i++j)) H):=by
 intro pins s σ H x y v u Q I rx ry h;obtain⟨i,j,rfl,rfl,hz,q⟩:=h;obtain⟨t,rfl⟩:=rx;obtain⟨t',rfl⟩:=ry;exact add_str (λt' tk=>⟨.str (i++j),H,I.tok _,⟨_,rfl⟩,q⟩) hz
theorem vals1{x:V}{us:List Value}(r:Vals [x] us):∃u,us=[u]/\RelV x u:=by
 cases r with
 | cons r1 r2=>cases r2;exact⟨_,rfl,r1⟩
theorem vals2{x y:V}{us:List Value}(r:Vals [x,y] us):∃u w',us=[u,w']/\RelV x u/\RelV y w':=by
 cases r with
 | cons r1 r2 =>
  cases r2 with
  | cons r3 r4=>cases r4;exact⟨_,_,rfl,r1,r3⟩
theorem BW:cV X (.builtin "abs") (λxs H Q=>∃i,xs=[.int i]/\Q (.int (if i<0 then -i else i)) H):=by
 intro pins s σ H xs us Q I r h;obtain⟨i,rfl,q⟩:=h;obtain⟨u,rfl,t,rfl⟩:=vals1 r;exact call_abs_int λu tk=>⟨.int (if i<0 then -i else i),H,I.tok _,⟨_,rfl⟩,q⟩
theorem zP(hc:X.calm=true):cV X (.builtin "max") (λxs H Q=>∃i j,xs=[.int i,.int j]/\Q (.int (if j>i then j else i)) H):=by
 intro pins s σ H xs us Q I r h;obtain⟨i,j,rfl,q⟩:=h;obtain⟨u,w',rfl,⟨t,rfl⟩,⟨t',rfl⟩⟩:=vals2 r;refine max_two_ints (I.ok.hd hc) λh' tk k=>⟨_,H,I.kept k,?_,q⟩
 by_cases hj:j>i
 ·rw[if_pos hj,if_pos hj];exact⟨_,rfl⟩
 ·rw[if_neg hj,if_neg hj];exact⟨_,rfl⟩
theorem zQ(hc:X.calm=true):cV X (.builtin "min") (λxs H Q=>∃i j,xs=[.int i,.int j]/\Q (.int (if j<i then j else i)) H):=by
 intro pins s σ H xs us Q I r h;obtain⟨i,j,rfl,q⟩:=h;obtain⟨u,w',rfl,⟨t,rfl⟩,⟨t',rfl⟩⟩:=vals2 r;refine min_two_ints (I.ok.hd hc) λh' tk k=>⟨_,H,I.kept k,?_,q⟩
 by_cases hj:j<i
 ·rw[if_pos hj,if_pos hj];exact⟨_,rfl⟩
 ·rw[if_neg hj,if_neg hj];exact⟨_,rfl⟩
theorem zO:cV X (.type "int") (λxs H Q=>(∃i,xs=[.int i]/\Q (.int i) H)\/∃k,xs=[.bl k]/\Q (.int (if k then 1 else 0)) H):=by
 intro pins s σ H xs us Q I r h;rcases h with⟨i,rfl,q⟩|⟨k,rfl,q⟩
 ·obtain⟨u,rfl,t,rfl⟩:=vals1 r
  exact call_int_int ⟨.int i,H,I,⟨_,rfl⟩,q⟩
 ·obtain⟨u,rfl,r1⟩:=vals1 r
  cases r1;exact call_int_bool ⟨.int (if k then 1 else 0),H,I.tok _,⟨_,rfl⟩,q⟩
end
end L2
namespace L2
open PySem PySem.Spec PyProof.Rows
structure wC(h:Heap)(x dx C:Addr)(mA:Str->Option Value):Prop where
 obj:h.get? x=some (PySem.W.instObj C dx)
 ns:h.Ns1 dx mA
 ne:dx≠x
theorem Au{h:Heap}{dx:Addr}{mA:Str->Option Value}(n:h.Ns1 dx mA):∃od,h.get? dx=some od/\∀name,PySem.W.lookIn name od=some (mA name):=by
 obtain⟨o,es,ep,ho,hd,hk,_,hm⟩:=n;refine⟨o,ho,λname=>?_⟩;have e:=hm name;unfold nsFind findBy at e;rw[<- Array.find?_toList]at e;unfold PySem.W.lookIn;rw[hd];dsimp only
 split
 ·rename_i y q
  rw[q]at e;exact congrArg some e
 ·rename_i q
  rw[q]at e;have a:es.toList.any (·.refKey)=false:=by
   rw[List.any_eq_false];intro y hy;obtain⟨z,t,NB⟩:=hk y (Array.mem_toList_iff.mp hy);simp [DictEntry.refKey,NB]
  have a':¬es.toList.any (·.refKey)=true:=by rw[a];exact Bool.false_ne_true
  rw[if_neg a'];exact congrArg some e
theorem wC.look{h:Heap}{x dx C:Addr}{mA:Str->Option Value}(I:wC h x dx C mA):∃od,PySem.W.InstAt h x (PySem.W.instObj C dx) C (some od)/\∀name,PySem.W.lookIn name od=some (mA name):=
 let ⟨od,ho,hl⟩:=Au I.ns
 ⟨od,⟨I.obj,rfl,rfl,ho⟩,hl⟩
section
variable {prog:Program}{w:World}{A:Around}{E:Value->Shared->Prop}{s:Shared}{K:PySem.W.Frag}{x dx C f:Addr}{mA:Str->Option Value}{name:Str}{v:Value}
theorem get_map{expr:Bool}{Q:Value->Shared->Prop}(X:K.In s.heap)(I:wC s.heap x dx C mA)(hg:PySem.W.plainGet K C name=true)(hh:PySem.W.hasDictIn K C=true)
  (ha:PySem.W.findIn K (.ref C) name=some none) (hv:mA name=some v) (Wz:PySem.W.handedIn v=true) (h:Q v {s with toks:=s.toks+1}):
  wpAny (model prog w) A (getAttr (.ref x) name expr) Q E s:=by
 obtain⟨od,J,hl⟩:=I.look;exact PySem.W.get_value X J (PySem.W.plainGet_of hg).1 (PySem.W.findObj_own hh ha rfl (by rw[hl,hv])) Wz h
theorem Dv{pl:Sem Bool}{Q:Value×List Value->Shared->Prop}(X:K.In s.heap)(I:wC s.heap x dx C mA)(hg:PySem.W.plainGet K C name=true)
  (hf:PySem.W.findIn K (.ref C) name=some (some (.ref f))) (ht:PySem.W.isFn K (.ref f)=true) (hv:mA name=none) (h:Q (.ref f,[.ref x]) s):
  wpAny (model prog w) A (getMethod (.ref x) name pl) Q E s:=by
 obtain⟨od,J,hl⟩:=I.look;exact PySem.W.method_fn X J (PySem.W.plainGet_of hg).1 (PySem.W.plainGet_of hg).2 hf (beq_iff_eq.mp ht) (by show(PySem.W.lookIn name od).map (·.isSome)=some false;rw[hl,hv];rfl) h
theorem IJ{ns:List Str}{Q:Unit->Shared->Prop}(X:K.In s.heap)(I:wC s.heap x dx C mA)
  (hs:PySem.W.findIn K (.ref C) "__setattr__"=some (some (.builtin "object.__setattr__"))) (hp:PySem.W.plainOver K C=true) (ht:PySem.W.takerIn K C name=some none) (hh:PySem.W.hasDictIn K C=true)
  (hw:PySem.Within mA ns) (hsz:ns.length<=sizeLine)
  (h:∀h',wC h' x dx C (λy=>if y=name then some v else mA y)->Heap.SameBut dx s.heap h'->Q () {s with heap:=h',toks:=s.toks+2}):
  wpAny (model prog w) A (setAttr (.ref x) name v) Q E s:=by
 obtain⟨od,J,hl⟩:=I.look;refine PySem.W.set_plain X J hs (PySem.W.osa_open (s:={s with toks:=s.toks+1}) (r:=none) X J hp ht λb=>?_)
 obtain⟨cd,hc,G9⟩:=PySem.W.any_some hh;have hx:s.heap.get? x=some ⟨.ref C,some dx,.plain,#[]⟩:=I.obj;refine wpAny_bind (wpAny_pure (wpAny_bind (wpAny_bind (wpAny_loadPart hx (wpAny_bind (PySem.W.Looks.here (s:={s with toks:=s.toks+1}) (PySem.W.looks_clsIn X hc) ?_))))))
 rw[G9];refine wpAny_pure (a:=some dx) (wpAny_bind (wpAny_pure (wpAny_bind ?_)));refine wpAny_nsSet1 (s:={s with toks:=s.toks+1}) I.ns λh' ZI wq=>?_
 obtain⟨oD,esD,epD,hoD,hdD,hcD⟩:=ZI.count (PySem.Within.cons name v hw);refine wpAny_bind (wpAny_lookBehind hoD (by rw[hdD];exact pastItsLine_dict (Nat.le_trans hcD (by rw[List.length_cons];omega))) ?_)
 exact wpAny_pure (h _ ⟨(wq.2 _ (Ne.symm I.ne)).trans I.obj,ZI,I.ne⟩ wq)
theorem Ed{R:Result->Shared->Prop}{vs:List Value}{kw:List (Str×Value)}(X:K.In s.heap)(hm:PySem.W.makesIn K C=true)
  (hi:PySem.W.findIn K (.ref C) "__init__"=some (some (.ref f))) (hf:PySem.W.typeIn K (.ref f)=some (.type "function"))
  (h:codeAny (model prog w) (A.under (.builtin "type.__call__" ⟨.ref C::vs,kw⟩)) (.call (.ref f) ⟨.ref (s.heap.objs.size+1)::vs,kw⟩) (PySem.W.InitBack (s.heap.objs.size+1) R)
   {s with heap:=(s.heap.push PySem.W.emptyDict).push (PySem.W.instObj C s.heap.objs.size)}):
  codeAny (model prog w) A (.call (.ref C) ⟨vs,kw⟩) R s:=by
 obtain⟨hh,g,d,t,os⟩:=s;exact PySem.W.make_core (PySem.W.makes_of X hm) (PySem.W.looks_findIn X hi) (λself=>PySem.W.bind_fn X self hf) (.inl rfl) h
end
def cO(f:Str)(v:V):List (Str×V)->List (Str×V)
 | []=>[(f,v)]
 | (g,x)::r=>if g=f then(g,v)::r else(g,x)::cO f v r
theorem lY(f g:Str)(v:V):∀fs:List (Str×V),(cO f v fs).lookup g=if g=f then some v else fs.lookup g
 | []=>by
  show List.lookup g [(f,v)]=_
  by_cases h:g=f
  ·have hb:(g==f)=true:=beq_iff_eq.mpr h
   simp only[List.lookup,hb,if_pos h]
  ·have hb:(g==f)=false:=beq_eq_false_iff_ne.mpr h
   simp only[List.lookup,hb,if_neg h]
 | (k,x)::r=>by
  have ih:=lY f g v r;rw[show cO f v ((k,x)::r)=(if k=f then(k,v)::r else(k,x)::cO f v r)from rfl]
  by_cases hk:k=f
  ·rw[if_pos hk]
   by_cases h:g=k
   ·have hb:(g==k)=true:=beq_iff_eq.mpr h
    simp only[List.lookup,hb,if_pos (h.trans hk)]
   ·have hb:(g==k)=false:=beq_eq_false_iff_ne.mpr h
    simp only[List.lookup,hb,if_neg (λe:g=f=>h (e.trans hk.symm))]
  ·rw[if_neg hk]
   by_cases h:g=k
   ·have hb:(g==k)=true:=beq_iff_eq.mpr h
    simp only[List.lookup,hb,if_neg (λe:g=f=>hk (h.symm.trans e))]
   ·have hb:(g==k)=false:=beq_eq_false_iff_ne.mpr h
    simp only[List.lookup,hb];exact ih
theorem lb(f:Str)(v:V):∀fs:List (Str×V),f∈(cO f v fs).map (·.1)/\∀g,g∈fs.map (·.1)->g∈(cO f v fs).map (·.1)
 | []=>⟨by simp [cO],λg h=>by simp at h⟩
 | (k,x)::r=>by
  obtain⟨i1,i2⟩:=lb f v r;rw[show cO f v ((k,x)::r)=(if k=f then(k,v)::r else(k,x)::cO f v r)from rfl]
  by_cases hk:k=f
  ·rw[if_pos hk]
   subst hk;exact⟨by simp,λg h=>by simpa using h⟩
  ·rw[if_neg hk]
   refine⟨?_,λg h=>?_⟩
   ·rw[List.map_cons]
    exact List.mem_cons_of_mem _ i1
   ·rw[List.map_cons]at h ⊢
    rcases List.mem_cons.mp h with e|e
    ·exact List.mem_cons.mpr (.inl e)
    ·exact List.mem_cons_of_mem _ (i2 g e)
theorem lW(f:Str)(v:V):∀fs:List (Str×V),(cO f v fs).length<=fs.length+1
 | []=>by simp [cO]
 | (k,x)::r=>by
  have ih:=lW f v r;rw[show cO f v ((k,x)::r)=(if k=f then(k,v)::r else(k,x)::cO f v r)from rfl]
  by_cases hk:k=f
  ·rw[if_pos hk,List.length_cons,List.length_cons];omega
  ·rw[if_neg hk,List.length_cons,List.length_cons];omega
theorem gO.some_of{v:V}{o:Option Value}(r:gO (some v) o):∃u,o=some u/\RelV v u:=by
 cases o with
 | none=>exact(show False from r).elim
 | some u=>exact⟨u,rfl,r⟩
theorem gO.none_of{o:Option Value}(r:gO none o):o=none:=by
 cases o with
 | none=>rfl
 | some u=>exact(show False from r).elim
theorem Ai{v:V}{u:Value}(r:RelV v u):PySem.W.handedIn u=true:=by
 cases v with
 | aW=>cases(show u=Value.none from r);rfl
 | bl b=>cases(show u=Value.bool b from r);rfl
 | int i=>obtain⟨t,e⟩:=(show∃t,u=Value.int i t from r);cases e;rfl
 | str x=>obtain⟨t,e⟩:=(show∃t,u=Value.str x t from r);cases e;rfl
 | Tn b=>obtain⟨t,e⟩:=(show∃t,u=Value.bytes b t from r);cases e;rfl
 | Zt b=>obtain⟨t,e⟩:=(show∃t,u=Value.float b t from r);cases e;rfl
 | ref a=>cases(show u=Value.ref a from r);rfl
 | ty n=>cases(show u=Value.type n from r);rfl
section
variable {P:Program}{w:World}{H H':Hp}{h h':Heap}{a C dx:Addr}{fs fs':List (Str×V)}
theorem rF(bL:ig P w H h)(e:H a=some (.ins C dx fs)):∃mA,wC h a dx C mA/\(∀f,gO (fs.lookup f) (mA f))/\PySem.Within mA (fs.map (·.1))/\fs.length<=1000/\H dx=some (.own a):=by
 obtain⟨d,z,ne,ob,mA,n,r,q⟩:=(show bQ P w H h a (.ins C dx fs)from bL a _ e)
 exact⟨mA,⟨ob,n,ne⟩,r,q,z,d⟩
end
structure Gu(K:PySem.W.Frag)(C:Addr):Prop where
 pg:PySem.W.plainGet K C Str.empty=true
 hd:PySem.W.hasDictIn K C=true
 po:PySem.W.plainOver K C=true
 sa:PySem.W.findIn K (.ref C) "__setattr__"=some (some (.builtin "object.__setattr__"))
theorem Gu.get{K:PySem.W.Frag}{C:Addr}(c:Gu K C)(f:Str):PySem.W.plainGet K C f=true:=c.pg
def i6(K:PySem.W.Frag)(C:Addr)(f:Str):Prop:=PySem.W.findIn K (.ref C) f=some none
theorem i6.Y8{K:PySem.W.Frag}{C:Addr}{f:Str}(n:i6 K C f):PySem.W.takerIn K C f=some none:=by
 unfold PySem.W.takerIn;rw[show PySem.W.findIn K (.ref C) f=some none from n]
 rfl
structure Meth(K:PySem.W.Frag)(C:Addr)(m:Str)(f:Addr):Prop where
 at_:PySem.W.findIn K (.ref C) m=some (some (.ref f))
 fn:PySem.W.isFn K (.ref f)=true
 kp:PySem.W.keepIn K (.ref f)=true
section
variable {X:Cx}{pins:List (Addr×Obj)}{σ:St}{H:Hp}{s:Shared}{a C dx:Addr}{fs:List (Str×V)}{f:Str}{v:V}{A:Around}{E:Value->Shared->Prop}
theorem wV{b:Bool}{Q:Value->Shared->Prop}(I:Inv X pins σ H s)(e:H a=some (.ins C dx fs))(c:Gu X.K C)(n:i6 X.K C f)(l:fs.lookup f=some v)
  (h:∀u s',Inv X pins σ H s'->RelV v u->Q u s'):wpAny (model X.prog X.w) A (getAttr (.ref a) f b) Q E s:=by
 obtain⟨mA,O,r,_,_,_⟩:=rF I.bL e;obtain⟨u,hu,ru⟩:=gO.some_of (v:=v) (o:=mA f) (by rw[<- l];exact r f)
 exact get_map I.yO O (c.get f) c.hd n hu (Ai ru) (h u _ (I.tok _) ru)
theorem nv{m:Str}{g:Addr}{pl:Sem Bool}{Q:Value×List Value->Shared->Prop}(I:Inv X pins σ H s)(e:H a=some (.ins C dx fs))(c:Gu X.K C)(k:Meth X.K C m g)(l:fs.lookup m=none)
  (h:Q (.ref g,[.ref a]) s):wpAny (model X.prog X.w) A (getMethod (.ref a) m pl) Q E s:=by
 obtain⟨mA,O,r,_,_,_⟩:=rF I.bL e;have hn:mA m=none:=gO.none_of (by rw[<- l];exact r m)
 exact Dv I.yO O (c.get m) k.at_ k.fn hn h
theorem xK{y:V}{u:Value}{Q:Unit->Shared->Prop}(I:Inv X pins σ H s)(e:H a=some (.ins C dx fs))(c:Gu X.K C)(n:i6 X.K C f)(hl:fs.length<1000)(ry:RelV y u)
  (h:∀s',Inv X pins σ (upd H a (.ins C dx (cO f y fs))) s'->Q () s'):wpAny (model X.prog X.w) A (setAttr (.ref a) f u) Q E s:=by
 obtain⟨mA,O,r,wi,_,ho⟩:=rF I.bL e;have hz:(fs.map (·.1)).length<=sizeLine:=by rw[List.length_map,sizeLine_eq];omega
 refine IJ I.yO O c.sa c.po n.Y8 c.hd wi hz λh' O' sb=>h _ ?_;have hd:∃o,h'.get? dx=some o:=let ⟨o,_,_,e',_⟩:=O'.ns;⟨o,e'⟩;refine I.write (x:=a) (e:=dx) (by rw[e];exact True.intro) (.inr ho) (λb q hb z=>(sb.2 b hb).trans z) hd ?_
 refine⟨by rw[ai O.ne];exact ho,?_,O.ne,O'.obj,_,O'.ns,λg=>?_,λg hg=>?_⟩
 ·have:=lW f y fs;omega
 ·show gO ((cO f y fs).lookup g) (if g=f then some u else mA g)
  rw[lY]
  by_cases q:g=f
  ·rw[if_pos q,if_pos q];exact ry
  ·rw[if_neg q,if_neg q];exact r g
 ·by_cases q:g=f
  ·rw[q];exact(lb f y fs).1
  ·refine(lb f y fs).2 g (wi g λz=>hg ?_)
   show(if g=f then some u else mA g)=none
   rw[if_neg q];exact z
theorem Inv.made(I:Inv X pins σ H s):Inv X pins σ (upd (upd H s.heap.objs.size (.own (s.heap.objs.size+1))) (s.heap.objs.size+1) (.ins C s.heap.objs.size []))
  {s with heap:=(s.heap.push PySem.W.emptyDict).push (PySem.W.instObj C s.heap.objs.size)}:=by
 have e1:(s.heap.push PySem.W.emptyDict).get? s.heap.objs.size=some PySem.W.emptyDict:=Heap.get?_push_size s.heap rfl;have e2:((s.heap.push PySem.W.emptyDict).push (PySem.W.instObj C s.heap.objs.size)).get? (s.heap.objs.size+1)=some (PySem.W.instObj C s.heap.objs.size):=by
  have:=Heap.get?_push_size (s.heap.push PySem.W.emptyDict) (o:=PySem.W.instObj C s.heap.objs.size) rfl
  rwa [Heap.size_push]at this
 have e3:(s.heap.push PySem.W.emptyDict).Ns s.heap.objs.size (λ_=>none):=⟨PySem.W.emptyDict,#[],_,e1,rfl,(λe he=>absurd he (by simp)),λ_=>rfl⟩
 have I1:=I.laid (a:=s.heap.objs.size) (o:=.own (s.heap.objs.size+1)) (h':=s.heap.push PySem.W.emptyDict) (t':=s.toks) (λb u q=>Heap.get?_push_of_some _ q) (Nat.le_refl _) ⟨_,e1⟩;refine I1.laid (a:=s.heap.objs.size+1) (o:=.ins C s.heap.objs.size []) (t':=s.toks) (λb u q=>Heap.get?_push_of_some _ q) (Nat.le_of_eq (Heap.size_push _ _)) ?_;have ne:s.heap.objs.size≠s.heap.objs.size+1:=Nat.ne_of_lt (Nat.lt_succ_self _);refine⟨by rw[ai ne,au],Nat.zero_le _,ne,e2,λ_=>none,(Heap.Ns1.of_empty e3).at λo q=>Heap.get?_push_of_some _ q,λ_=>True.intro,λy hy=>absurd rfl hy⟩
theorem GZ{prog:Program}{w:World}{env:Env}{e:Expr}{f:Str}{pos:Pos}{s:Shared}{Q:Value->Shared->Prop}(hb:attributeBase e f env (eval e env)=eval e env)
  (h:wpAny (model prog w) A (eval e env) (λo bJ=>wpAny (model prog w) A (getAttr o f true) Q E bJ) E s):wpAny (model prog w) A (eval (.Attribute e f pos) env) Q E s:=
 Attribute_any_ h (by rw[arm_eval_Attribute,hb])
end
def abm(K:PySem.W.Frag)(ta:TE)(f:Str):TE:=λσ H Q=>ta σ H λx H1=>∃a C dx fs v,x=.ref a/\H1 a=some (.ins C dx fs)/\Gu K C/\i6 K C f/\fs.lookup f=some v/\Q v H1
def abk(K:PySem.W.Frag)(ta tv:TE)(f:Str):TS:=λD σ H=>tv σ H λy H1=>ta σ H1 λx H2=>∃a C dx fs,x=.ref a/\H2 a=some (.ins C dx fs)/\Gu K C/\i6 K C f/\fs.length<1000 /\
 D.nx σ (upd H2 a (.ins C dx (cO f y fs)))
section
variable {X:Cx}{o e value:Expr}{f:Str}{pos pos' xZ:Pos}{ta tv:TE}
theorem rU(he:PE X e ta)(hb:attributeBase e f X.env (eval e X.env)=eval e X.env):PE X (.Attribute e f pos) (abm X.K ta f):=by
 intro pins s σ H Q I h;refine GZ hb (cm (he pins s σ H _ I h) λu s1 ⟨x,H1,I1,rx,a,C,dx,fs,v,ex,ea,c,n,l,q⟩=>?_);subst ex;obtain rfl:u=Value.ref a:=rx;exact wV I1 ea c n l λu' s2 I2 ru=>⟨v,H1,I2,ru,q⟩
theorem r9(ha:PE X o ta)(hv:PE X value tv)(hs:swapsWith value (some (.Attribute o f pos')) pos.line X.env=pure false):PS X (.Assign [.Attribute o f pos'] value pos) (abk X.K ta tv f):=by
 intro pins s σ H D I h;refine plainObj_wpAny_Assign_Attribute (cm (hv pins s σ H _ I h) λu s1 ⟨y,H1,I1,ry,q⟩=>cm (ha pins s1 σ H1 _ I1 q) λov s2 ⟨x,H2,I2,rx,a,C,dx,fs,ex,ea,c,n,l,q2⟩=>?_) hs;subst ex;obtain rfl:ov=Value.ref a:=rx;exact xK I2 ea c n l ry λs3 I3=>⟨σ,_,I3,q2⟩
def Iq:V->V->Hp->VK->Prop:=λx y H Q=>∃i j,x=.int i/\y=.int j/\Q (.int (i+j)) H
end
end L2
namespace L2
open PySem PySem.Spec PyProof.Rows
structure eg(k:Nat)(A:Around):Prop where
 hd:A.handled=none
 dp:A.depth+3*k+5<recursionLimit
 un:A.units+16*k+200<cLine
theorem eg.mono{j k:Nat}{A:Around}(r:eg k A)(h:j<=k):eg j A:=⟨r.hd,by have:=r.dp;omega,by have:=r.un;omega⟩
theorem eg.deeper{k:Nat}{A:Around}(r:eg (k+1) A)(env:Env):eg k (A.deeper env):=
 ⟨r.hd,by have:=r.dp;show A.depth+1+3*k+5<_;omega,by have:=r.un;show A.units+3+16*k+200<_;omega⟩
theorem xf{A:Around}{C:Addr}{us:List Value}{kw:List (Str×Value)}:(A.under (.builtin "type.__call__" ⟨.ref C::us,kw⟩)).depth=A.depth+1:=by
 first|rfl|simp [Around.under,Code.weight,Code.isCreation,Code.isGuard,Code.isCaller,Code.frames,Code.isFrame,guardIds]
theorem xg{A:Around}{C:Addr}{us:List Value}{kw:List (Str×Value)}:(A.under (.builtin "type.__call__" ⟨.ref C::us,kw⟩)).units=A.units+1:=by
 first|rfl|simp [Around.under,Code.cUnits,Code.frames,Code.isFrame]
theorem eg.make{k:Nat}{A:Around}(r:eg (k+1) A)(C:Addr)(us:List Value)(kw:List (Str×Value)):eg k (A.under (.builtin "type.__call__" ⟨.ref C::us,kw⟩)):=
 ⟨r.hd,by have:=r.dp;rw[xf];omega,by have:=r.un;rw[xg];omega⟩
theorem eg.depth{k:Nat}{A:Around}(r:eg k A):A.depth<recursionLimit:=by have:=r.dp;omega
def pC:TA:=λ_ H Q=>Q [] H
def mr(ta:TE)(tr:TA):TA:=λσ H Q=>ta σ H λx H1=>tr σ H1 λxs H2=>Q (x::xs) H2
section
variable {X:Cx}{e:Expr}{es:List Expr}{te:TE}{t:TA}{pos:Pos}
theorem dJ:PA X [] pC:=λ_ _ _ _ H Q I h=>Calls.spliced_nil ⟨[],H,I,.nil,h⟩
theorem cu(ha:PE X e te)(hr:PA X es t)(hs:starEach (e::es) X.env=(false,eval e X.env)::starEach es X.env:=by rfl):PA X (e::es) (mr te t):=by
 intro pos pins s σ H Q I h;rw[hs];show wpAny _ _ (spliced ((false,eval e X.env)::backTo pos (starEach es X.env))) _ _ s;refine Calls.spliced_cons (cm (ha pins s σ H _ I h) λu s1 ⟨x,H1,I1,r1,q1⟩=>?_);exact cm (hr pos pins s1 σ H1 _ I1 q1) λus s2 ⟨xs,H2,I2,r2,q2⟩=>⟨x::xs,H2,I2,.cons r1 r2,q2⟩
def abr(t:TA):TE:=λσ H Q=>t σ H λxs H1=>xs.length<=sizeLine/\∀p,H1 p=none->Q (.ref p) (upd H1 p (.tup xs))
def Y1(t:TA):TE:=λσ H Q=>t σ H λxs H1=>xs.length<=sizeLine/\∀p,H1 p=none->Q (.ref p) (upd H1 p (.lst xs))
theorem QF{x1}(h:PA X es t):PE X (.Tuple es x1 pos) (abr t):=by
 intro pins s σ H Q I hq;refine wpAny_Tuple_spliced (cm (h pos pins s σ H _ I hq) λus s1 ⟨xs,H1,I1,r,z,q⟩=>⟨by rw[<- r.length];exact z,?_⟩)
 have hf:H1 s1.heap.objs.size=none:=I1.bL.fresh (Nat.le_refl _);refine⟨.ref s1.heap.objs.size,upd H1 s1.heap.objs.size (.tup xs),I1.laid (t':=s1.toks) (λb u e=>Heap.get?_push_of_some _ e) (Nat.le_refl _) ?_,rfl,q _ hf⟩;exact⟨z,us,r,⟨_,Heap.get?_push_size _ rfl,rfl,_,rfl⟩⟩
theorem rV(h:PA X es t):PE X (.List es pos) (Y1 t):=by
 intro pins s σ H Q I hq;refine wpAny_List_spliced (cm (h pos pins s σ H _ I hq) λus s1 ⟨xs,H1,I1,r,z,q⟩=>⟨by rw[<- r.length];exact z,?_⟩)
 have hf:H1 s1.heap.objs.size=none:=I1.bL.fresh (Nat.le_refl _);refine⟨.ref s1.heap.objs.size,upd H1 s1.heap.objs.size (.lst xs),I1.laid (t':=s1.toks) (λb u e=>Heap.get?_push_of_some _ e) (Nat.le_refl _) ?_,rfl,q _ hf⟩;exact⟨z,us,0,r,Heap.get?_push_size _ rfl⟩
end
abbrev Sp:=List V->Hp->VK->XK->Prop
abbrev zH:=List Env->Hp->Shared->XK->Value->Shared->Prop
structure wA(P:Program)(w:World)(K:PySem.W.Frag)(mg:Str->Option Value)(base:Heap)(A:Around)(outer:List Env)(s:Shared)(H:Hp):Prop where
 frames:A.frames=some outer
 mod:Mod K mg base
 bs:∀b o,base.get? b=some o->s.heap.get? b=some o/\H b=none
 BV:base.objs.size<=s.heap.objs.size
 k4:s.heap.FunFrames base outer
 JZ:∀b∈pY outer,H b=none
 bL:ig P w H s.heap
 bare:AllBare s.gens
def CE(outer:List Env)(P:Program)(w:World)(H:Hp)(s:Shared)(Q:VK)(u:Value)(s':Shared):Prop:=
 ∃v H',s'.os=s.os/\AllBare s'.gens/\Un (pY outer) [] H H' s.heap s'.heap/\ig P w H' s'.heap/\RelV v u/\Q v H'
def CR(CX:zH)(outer:List Env)(P:Program)(w:World)(H:Hp)(s:Shared)(Q:VK)(E:XK)(r:Result)(s':Shared):Prop:=
 match r with
 | .ok (.ret u)=>CE outer P w H s Q u s'
 | .ok _=>False
 | .error e=>CX outer H s E e s'
structure cn(P:Program)(w:World)(K:PySem.W.Frag)(mg:Str->Option Value)(base:Heap)(CX:zH)(k:Nat)(f:Addr)(fd:FuncData)(ps:List Str)(sp:Sp):Prop where
 len:∀vs H Q E,sp vs H Q E->vs.length=ps.length
 run:∀(A:Around) (outer:List Env) (s:Shared) (H:Hp) (args:Args) (us:List Value) (vs:List V) (Q:VK) (E:XK),eg k A->wA P w K mg base A outer s H->BindsTo s fd args (ps.zip us)->Vals vs us->sp vs H Q E ->
  codeAny (model P w) A (.call (.ref f) args) (CR CX outer P w H s Q E) s
theorem cn.mono{P:Program}{w:World}{K:PySem.W.Frag}{mg:Str->Option Value}{base:Heap}{CX:zH}{j k:Nat}{f:Addr}{fd:FuncData}{ps:List Str}{sp:Sp}(F:cn P w K mg base CX j f fd ps sp)(h:j<=k):
  cn P w K mg base CX k f fd ps sp:=⟨F.len,λA outer s H args us vs Q E hr=>F.run A outer s H args us vs Q E (hr.mono h)⟩
theorem cn.imp{P:Program}{w:World}{K:PySem.W.Frag}{mg:Str->Option Value}{base:Heap}{CX:zH}{k:Nat}{f:Addr}{fd:FuncData}{ps:List Str}{sp sp':Sp}(F:cn P w K mg base CX k f fd ps sp)
  (h:∀vs H Q E,sp' vs H Q E->sp vs H Q E):cn P w K mg base CX k f fd ps sp':=
 ⟨λvs H Q E q=>F.len vs H Q E (h _ _ _ _ q),λA outer s H args us vs Q E hr he hb hv hs=>F.run A outer s H args us vs Q E hr he hb hv (h _ _ _ _ hs)⟩
theorem wA.make{P:Program}{w:World}{K:PySem.W.Frag}{mg:Str->Option Value}{base:Heap}{A:Around}{outer:List Env}{s:Shared}{H:Hp}(e:wA P w K mg base A outer s H)(C:Addr)(us:List Value)(kw:List (Str×Value)):
  wA P w K mg base (A.under (.builtin "type.__call__" ⟨.ref C::us,kw⟩)) outer s H:=⟨by first|exact e.frames | (simpa [Around.under,Code.envs,Code.isFrame,pushEnvs]using e.frames),e.mod,e.bs,e.BV,e.k4,e.JZ,e.bL,e.bare⟩
section
variable {X:Cx}{pins:List (Addr×Obj)}{σ:St}{H:Hp}{s s':Shared}
theorem Inv.VE(I:Inv X pins σ H s):wA X.prog X.w X.K X.mg X.base X.A X.stack s H:=
 ⟨I.ok.frames,I.ok.mod,I.bs,Nat.le_trans I.ok.BV I.sz,I.stack,I.zv,I.bL,I.bare⟩
theorem Inv.after{Q:VK}{u:Value}(I:Inv X pins σ H s)(h:CE X.stack X.prog X.w H s Q u s'):EP X pins σ Q u s':=by
 obtain⟨v,H',os,bare,un,bL,r,q⟩:=h;obtain⟨hh,g,d,t,os'⟩:=s';obtain rfl:os'=s.os:=os;exact⟨v,H',I.call (h':=hh) (g':=g) (d':=d) (t':=t) (ch:=[]) un bL bare (λb z=>absurd z (by simp)),r,q⟩
end
def YX(sp:Sp)(dvs:List V)(E:XK)(t:TA):TE:=λσ H Q=>t σ H λvs H1=>sp (vs++dvs) H1 Q E
def qB(C:Addr)(m:Str)(sp:Sp)(dvs:List V)(E:XK)(ta:TE)(t:TA):TE:=λσ H Q=>ta σ H λx H1=>∃a dx fs,x=.ref a/\H1 a=some (.ins C dx fs)/\fs.lookup m=none /\
 t σ H1 λvs H2=>sp (x::(vs++dvs)) H2 Q E
def Y3(C:Addr)(sp:Sp)(dvs:List V)(E:XK)(t:TA):TE:=λσ H Q=>t σ H λvs H1=>∀x dx,H1 x=none->H1 dx=none->dx≠x ->
 sp (.ref x::(vs++dvs)) (upd (upd H1 dx (.own x)) x (.ins C dx [])) (λv H2=>v=.aW/\Q (.ref x) H2) E
def Binds(K:PySem.W.Frag)(fd:FuncData)(ps:List Str)(ds:List Value):Prop:=
 ∀(s:Shared) (us:List Value),K.In s.heap->(us++ds).length=ps.length->BindsTo s fd ⟨us,[]⟩ (ps.zip (us++ds))
theorem Binds.all{K:PySem.W.Frag}{fd:FuncData}{ps:List Str}(h:∀us:List Value,us.length=ps.length->bindArgs fd ⟨us,[]⟩=pure (ps.zip us)):Binds K fd ps []:=λs us _ hl=>by
 rw[List.append_nil]at hl ⊢;exact .of_eq (h us hl)
def Passes(CX:zH)(X:Cx)(E:XK):Prop:=∀(pins:List (Addr×Obj)) (σ:St) (H:Hp) (s:Shared) (e:Value) (s':Shared),Inv X pins σ H s->CX X.stack H s E e s'->X.xe e s'
section
variable {X:Cx}{CX:zH}{k:Nat}{f C:Addr}{fd:FuncData}{ps:List Str}{sp:Sp}{dvs:List V}{ds:List Value}{E:XK}{x m:Str}{p pos apos:Pos}{e o:Expr}{es:List Expr}{ta:TE}{t:TA}
theorem xH{pins:List (Addr×Obj)}{σ:St}{H:Hp}{s:Shared}{Q:VK}{us:List Value}{vs:List V}(F:cn X.prog X.w X.K X.mg X.base CX k f fd ps sp)(hr:eg k X.A)(hb:Binds X.K fd ps ds)(hd:Vals dvs ds)(hx:Passes CX X E)
  (I:Inv X pins σ H s) (r:Vals vs us) (h:sp (vs++dvs) H Q E):wpAny (model X.prog X.w) X.A (call (.ref f) us) (EP X pins σ Q) X.xe s:=by
 have r2:Vals (vs++dvs) (us++ds):=r.append hd;have hl:(us++ds).length=ps.length:=by rw[<- r2.length];exact F.len _ _ _ _ h
 refine wpAny_call (codeAny_mono (F.run X.A X.stack s H ⟨us,[]⟩ (us++ds) (vs++dvs) Q E hr I.VE (hb s us I.yO hl) r2 h) λr s' hq=>?_);cases r with
 | error e=>exact hx pins σ H s e s' I hq
 | ok fl =>
  cases fl with
  | ret u=>exact I.after hq
  | next=>exact False.elim hq
  | brk=>exact False.elim hq
  | cont=>exact False.elim hq
theorem mQ(F:cn X.prog X.w X.K X.mg X.base CX k f fd ps sp)(hr:eg k X.A)(hg:Gl X x)(hm:X.mg x=some (.ref f))(hk:PySem.W.keepIn X.K (.ref f)=true)(hb:Binds X.K fd ps ds)(hd:Vals dvs ds)(hx:Passes CX X E)
  (ha:PA X (e::es) t) (mB:(x==("__debug__":Str))=false:=by decide) (he:starEach (e::es) X.env=(false,eval e X.env)::starEach es X.env:=by rfl) (dI:(backTo pos (starEach es X.env)).any (·.1)=false:=by rfl):
  PE X (.Call (.Name x p) (e::es) [] pos) (YX sp dvs E t):=by
 intro pins s σ H Q I h;refine wpAny_Call_Name_kw (rO I hg hm ?_ mB);refine PySem.W.callWith_K (h₀:=X.base) I.ok.mod.D4 hk (cm (ha pos pins s σ H _ I h) λus s1 ⟨vs,H1,I1,r,q⟩=>⟨I1.yO,?_⟩) he dI;exact xH F hr hb hd hx I1 r q
theorem yX{pl:Sem Bool}(he:PE X o ta)(c:Gu X.K C)(hm:Meth X.K C m f)(F:cn X.prog X.w X.K X.mg X.base CX k f fd ps sp)(hr:eg k X.A)(hb:Binds X.K fd ps ds)(hd:Vals dvs ds)(hx:Passes CX X E)(ha:PA X (e::es) t)
  (wt:starEach (e::es) X.env=(false,eval e X.env)::starEach es X.env:=by rfl) (dI:(backTo pos (starEach es X.env)).any (·.1)=false:=by rfl)
  (ht:eval (.Call (.Attribute o m apos) (e::es) [] pos) X.env=(do
   let ov <- eval o X.env
   standAt apos.atName
   let (f,first) <- holding [ov] (getMethod ov m pl)
   callWith pos f first (backTo pos (starEach (e::es) X.env)) (backToKw pos (keywordEach [] X.env))):=by rfl):
  PE X (.Call (.Attribute o m apos) (e::es) [] pos) (qB C m sp dvs E ta t):=by
 intro pins s σ H Q I h;refine PySem.W.methodCall_KW (pl:=pl) (cm (he pins s σ H _ I h) λu s1 ⟨x,H1,I1,rx,a,dx,fs,ex,ea,l,q⟩=>?_) ht;subst ex;obtain rfl:u=Value.ref a:=rx;refine nv I1 ea c hm l ?_;refine PySem.W.callWith_K (first:=[.ref a]) (h₀:=X.base) I.ok.mod.D4 hm.kp (cm (ha pos pins s1 σ H1 _ I1 q) λus s2 ⟨vs,H2,I2,r,q2⟩=>⟨I2.yO,?_⟩) wt dI
 exact xH (us:=.ref a::us) (vs:=.ref a::vs) F hr hb hd hx I2 (.cons rfl r) q2
theorem vE{pl:Sem Bool}(he:PE X o ta)(c:Gu X.K C)(hm:Meth X.K C m f)(F:cn X.prog X.w X.K X.mg X.base CX k f fd ps sp)(hr:eg k X.A)(hb:Binds X.K fd ps ds)(hd:Vals dvs ds)(hx:Passes CX X E)
  (ht:eval (.Call (.Attribute o m apos) [] [] pos) X.env=(do
   let ov <- eval o X.env
   standAt apos.atName
   let (f,first) <- holding [ov] (getMethod ov m pl)
   callWith pos f first (backTo pos (starEach [] X.env)) (backToKw pos (keywordEach [] X.env))):=by rfl):
  PE X (.Call (.Attribute o m apos) [] [] pos) (qB C m sp dvs E ta pC):=by
 intro pins s σ H Q I h;refine PySem.W.methodCall_KW (pl:=pl) (cm (he pins s σ H _ I h) λu s1 ⟨x,H1,I1,rx,a,dx,fs,ex,ea,l,q⟩=>?_) ht;subst ex;obtain rfl:u=Value.ref a:=rx;refine nv I1 ea c hm l ?_;exact PySem.W.callWith_K0 (first:=[.ref a]) I1.yO hm.kp (xH (us:=[.ref a]) (vs:=[.ref a]) F hr hb hd hx I1 (.cons rfl .nil) q)
structure Mk(K:PySem.W.Frag)(C f:Addr):Prop where
 makes:PySem.W.makesIn K C=true
 init:PySem.W.findIn K (.ref C) "__init__"=some (some (.ref f))
 fn:PySem.W.isFn K (.ref f)=true
 kp:PySem.W.keepIn K (.ref C)=true
theorem Fh{pins:List (Addr×Obj)}{σ:St}{H:Hp}{s:Shared}{Q:VK}{us:List Value}{vs:List V}(M:Mk X.K C f)(F:cn X.prog X.w X.K X.mg X.base CX k f fd ps sp)(hr:eg (k+1) X.A)(hb:Binds X.K fd ps ds)(hd:Vals dvs ds)
  (hx:Passes CX X E) (I:Inv X pins σ H s) (r:Vals vs us)
  (h:∀x dx,H x=none->H dx=none->dx≠x->sp (.ref x::(vs++dvs)) (upd (upd H dx (.own x)) x (.ins C dx [])) (λv H2=>v=.aW/\Q (.ref x) H2) E):
  wpAny (model X.prog X.w) X.A (call (.ref C) us) (EP X pins σ Q) X.xe s:=by
 have hq:=h (s.heap.objs.size+1) s.heap.objs.size (I.bL.fresh (Nat.le_succ _)) (I.bL.fresh (Nat.le_refl _)) (Nat.ne_of_lt (Nat.lt_succ_self _));have I2:=Inv.made (C:=C) I;have r2:Vals (V.ref (s.heap.objs.size+1)::(vs++dvs)) (Value.ref (s.heap.objs.size+1)::(us++ds)):=.cons rfl (r.append hd);have hl:(Value.ref (s.heap.objs.size+1)::us++ds).length=ps.length:=by
  have e:=r2.length;rw[F.len _ _ _ _ hq]at e;exact e.symm
 refine wpAny_call (Ed (f:=f) I.yO M.makes M.init (beq_iff_eq.mp M.fn) (codeAny_mono (F.run _ X.stack _ _ ⟨Value.ref (s.heap.objs.size+1)::us,[]⟩ (Value.ref (s.heap.objs.size+1)::(us++ds)) _ _ E (hr.make C us [])
  (I2.VE.make C us []) (hb _ (Value.ref (s.heap.objs.size+1)::us) I2.yO hl) r2 hq) λr s' Wv=>?_))
 cases r with
 | error e=>exact hx pins σ _ _ e s' I2 Wv
 | ok fl =>
  cases fl with
  | ret u =>
   obtain⟨v,H',I3,rv,ev,q3⟩:=I2.after Wv;subst ev;exact⟨rv,⟨V.ref (s.heap.objs.size+1),H',I3,rfl,q3⟩⟩
  | next=>exact False.elim Wv
  | brk=>exact False.elim Wv
  | cont=>exact False.elim Wv
theorem Ie(M:Mk X.K C f)(F:cn X.prog X.w X.K X.mg X.base CX k f fd ps sp)(hr:eg (k+1) X.A)(hg:Gl X x)(hm:X.mg x=some (.ref C))(hb:Binds X.K fd ps ds)(hd:Vals dvs ds)(hx:Passes CX X E)
  (ha:PA X (e::es) t) (mB:(x==("__debug__":Str))=false:=by decide) (he:starEach (e::es) X.env=(false,eval e X.env)::starEach es X.env:=by rfl) (dI:(backTo pos (starEach es X.env)).any (·.1)=false:=by rfl):
  PE X (.Call (.Name x p) (e::es) [] pos) (Y3 C sp dvs E t):=by
 intro pins s σ H Q I h;refine wpAny_Call_Name_kw (rO I hg hm ?_ mB);refine PySem.W.callWith_K (h₀:=X.base) I.ok.mod.D4 M.kp (cm (ha pos pins s σ H _ I h) λus s1 ⟨vs,H1,I1,r,q⟩=>⟨I1.yO,?_⟩) he dI;exact Fh M F hr hb hd hx I1 r q
end
def PK(X:Cx)(W3:List Keyword)(t:TA):Prop:=
 ∀(pos:Pos) (pins:List (Addr×Obj)) (s:Shared) (σ:St) (H:Hp) (Q:List V->Hp->Prop),Inv X pins σ H s->t σ H Q->wpAny (model X.prog X.w) X.A (evalAll ((backToKw pos (keywordEach W3 X.env)).map (·.2))) (AP X pins σ Q) X.xe s
section
variable {X:Cx}{CX:zH}{k:Nat}{f C:Addr}{fd:FuncData}{ps ks:List Str}{sp:Sp}{E:XK}{x m:Str}{p pos apos aaW:Pos}{e o:Expr}{es:List Expr}{W3:List Keyword}{te ta:TE}{t tk:TA}{nm:Option Str}
theorem QJ:PK X [] pC:=λ_ _ _ _ H Q I h=>wpAny_evalAll_nil ⟨[],H,I,.nil,h⟩
theorem Ii(ha:PE X e te)(hr:PK X W3 t):PK X (⟨nm,e,aaW⟩::W3) (mr te t):=by
 intro pos pins s σ H Q I h;show wpAny _ _ (evalAll ((do let v <- eval e X.env;standAt pos;pure v)::(backToKw pos (keywordEach W3 X.env)).map (·.2))) _ _ s
 refine wpAny_evalAll_cons (wpAny_bind (cm (ha pins s σ H _ I h) λu s1 ⟨x,H1,I1,r1,q1⟩=>wpAny_bind (wpAny_standAt (wpAny_pure ?_))));exact cm (hr pos pins s1 σ H1 _ I1 q1) λus s2 ⟨xs,H2,I2,r2,q2⟩=>⟨x::xs,H2,I2,.cons r1 r2,q2⟩
variable {g:List Value->List Value->List Value}{gV:List V->List V->List V}
end
structure aC(N P:List Str)(sc:Scope):Prop where
 kind:sc.kind=.function
 co:sc.isCoroutine=false
 gen:sc.isGenerator=false
 nd:N.Nodup
 pre:N.take P.length=P
 par:∀x∈P,sc.names.lookup x=some .local\/sc.names.lookup x=some .cell
 OZ:∀y∈sc.names,y.2≠.free
theorem pL{kindOf:Str->Option NameKind}{x:Str}:∀ {binds:List (Str×Value)} {m:Str->Option Value},(∀v,(x,v)∉binds)->bindL kindOf binds m x=m x
 | [],_,_=>rfl
 | (n,v)::r,m,h=>by
  unfold bindL;rw[pL λw hw=>h w (List.mem_cons_of_mem _ hw)]
  split
  ·have:x≠n:=by rintro rfl;exact h v List.mem_cons_self
   simp [this]
  ·rfl
theorem pJ{kindOf:Str->Option NameKind}{x:Str}:∀ {binds:List (Str×Value)} {m:Str->Option Value},(∀v,(x,v)∉binds)->bindC kindOf binds m x=m x
 | [],_,_=>rfl
 | (n,v)::r,m,h=>by
  unfold bindC;rw[pJ λw hw=>h w (List.mem_cons_of_mem _ hw)]
  split
  ·rfl
  ·have:x≠n:=by rintro rfl;exact h v List.mem_cons_self
   simp [this]
theorem pK{kindOf:Str->Option NameKind}{x:Str}{v:Value}:∀ {P:List Str} {vs:List Value} {i:Nat} {m:Str->Option Value},P.Nodup->P[i]?=some x->vs[i]?=some v->kindOf x=some .local ->
  bindL kindOf (P.zip vs) m x=some v
 | [],_,_,_,_,h,_,_=>by simp at h
 | _::_,[],_,_,_,_,h,_=>by simp at h
 | p::P,w::vs,0,m,nd,h1,h2,hk=>by
  simp at h1 h2;subst h1;subst h2;show bindL kindOf ((p,w)::P.zip vs) m p=_;unfold bindL;rw[pL λv hv=>(List.nodup_cons.mp nd).1 (List.of_mem_zip hv).1,if_pos hk];simp
 | p::P,w::vs,i+1,m,nd,h1,h2,hk=>by
  show bindL kindOf ((p,w)::P.zip vs) m x=_;unfold bindL;exact pK (i:=i) (List.nodup_cons.mp nd).2 (by simpa using h1) (by simpa using h2) hk
theorem pI{kindOf:Str->Option NameKind}{x:Str}{v:Value}:∀ {P:List Str} {vs:List Value} {i:Nat} {m:Str->Option Value},P.Nodup->P[i]?=some x->vs[i]?=some v->kindOf x≠some .local ->
  bindC kindOf (P.zip vs) m x=some v
 | [],_,_,_,_,h,_,_=>by simp at h
 | _::_,[],_,_,_,_,h,_=>by simp at h
 | p::P,w::vs,0,m,nd,h1,h2,hk=>by
  simp at h1 h2;subst h1;subst h2;show bindC kindOf ((p,w)::P.zip vs) m p=_;unfold bindC;rw[pJ λv hv=>(List.nodup_cons.mp nd).1 (List.of_mem_zip hv).1,if_neg hk];simp
 | p::P,w::vs,i+1,m,nd,h1,h2,hk=>by
  show bindC kindOf ((p,w)::P.zip vs) m x=_;unfold bindC;exact pI (i:=i) (List.nodup_cons.mp nd).2 (by simpa using h1) (by simpa using h2) hk
def start(N:List Str)(vs:List V):St:=vs.map some++List.replicate (N.length-vs.length) none
def nc(CX:zH)(P:Program)(w:World)(K:PySem.W.Frag)(mg:Str->Option Value)(base:Heap)(N:List Str)(qual:Str)(scope:Scope)(f:Addr)(cd:Value)(A:Around)(outer:List Env)(s:Shared)(H:Hp)(E:XK):Cx where
 prog:=P
 w:=w
 K:=K
 mg:=mg
 base:=base
 A:=A.deeper (envOfC qual scope s.heap.objs.size f cd)
 N:=N
 c5:=s
 qH:=H
 env:=envOfC qual scope s.heap.objs.size f cd
 outer:=outer
 stack:=envOfC qual scope s.heap.objs.size f cd::outer
 ex:=[]
 calm:=true
 fn:=λ_=>true
 pn:=[]
 xe:=λe s'=>wpAny (model P w) (A.deeper (envOfC qual scope s.heap.objs.size f cd)) (leaving (envOfC qual scope s.heap.objs.size f cd) e) (λ_ Yp=>CX outer H s E e Yp) (λe' Yp=>CX outer H s E e' Yp) s'
theorem uk{sc:Scope}{n:Nat}{x:Str}(h:sc.names.lookup x=some .cell):∃c,(cellsFrom n sc.names []).lookup x=some c:=by
 have q:=PySem.W.cellsFrom_some sc.names n [] (.inl h);exact Option.isSome_iff_exists.mp q
theorem Ao{CX:zH}{P:Program}{w:World}{K:PySem.W.Frag}{mg:Str->Option Value}{base:Heap}{N ps:List Str}{qual:Str}{scope:Scope}{f:Addr}{cd:Value}{A:Around}{outer:List Env}{s s1:Shared}{H:Hp}{E:XK}{us:List Value}{vs:List V}
  (S:aC N ps scope) (hd:A.handled=none) (e0:wA P w K mg base A outer s H) (hl:vs.length=ps.length) (r:Vals vs us)
  (x:InCallC s s.heap.objs.size (bindL (envOfC qual scope s.heap.objs.size f cd).kindOf (ps.zip us) λ_=>none) (cellsFrom (s.heap.objs.size+1) scope.names []) (bindC (envOfC qual scope s.heap.objs.size f cd).kindOf (ps.zip us) λ_=>none) s1):
  Inv (nc CX P w K mg base N qual scope f cd A outer s H E) [] (start N vs) H s1:=by
 have dI:ps.length<=N.length:=by have:=congrArg List.length S.pre;rw[List.length_take]at this;omega
 obtain⟨h1,tk,rfl,hk⟩:=x.done;have Xc:∀b:Addr,b∉(nc CX P w K mg base N qual scope f cd A outer s H E).ex:=λb z=>absurd (show b∈([]:List Addr)from z) (by simp)
 refine⟨⟨e0.mod,S.kind,rfl,rfl,Nat.le_refl _,λy z c h1 h2=>?_,λy hy=>?_,λy c _ h=>?_,λ_=>hd,Around.frames_deeper e0.frames,.inr ⟨rfl,rfl⟩,λb z=>absurd z (Xc b),e0.bs,e0.BV,λb _ _=>Xc b,λb z=>absurd z (Xc b),e0.k4,e0.JZ⟩,
  rfl,e0.bare,Un.kept hk,⟨_,x.toInCall.ns,λi y v h1 h2 h3=>?_⟩,λy c h=>⟨_,x.cell y c h⟩,e0.bL.fresh (Nat.le_refl _),λy c h=>?_,λp hp=>absurd (show p∈([]:List (Addr×Obj))from hp) (by simp),e0.bL.kept hk,?_⟩
 ·exact name_of_addr x.apart (PySem.mem_of_lookup h1) (PySem.mem_of_lookup h2)
 ·have hy:scope.names.lookup y=some .cell\/scope.names.lookup y=some .free:=hy
  rcases hy with hy|hy
  ·exact uk hy
  ·exact absurd rfl (S.OZ _ (PySem.mem_of_lookup hy))
 ·exact Nat.le_of_lt (x.above y c (PySem.mem_of_lookup h))
 ·have hi:i<vs.length:=by
   unfold start at h2
   by_cases hi:i<vs.length
   ·exact hi
   ·rw[List.getElem?_append_right (by simpa using hi)]at h2
    rw[List.getElem?_replicate]at h2
    split at h2<;>cases h2
  have ha:vs[i]?=some v:=by
   unfold start at h2;rw[List.getElem?_append_left (by simpa using hi),List.getElem?_map]at h2
   cases e:vs[i]? with
   | none=>rw[e]at h2;cases h2
   | some a=>rw[e]at h2;cases h2;rfl
  obtain⟨u,hu,rv⟩:=r.get ha;have hp:ps[i]?=some y:=by
   rw[<- S.pre,List.getElem?_take_of_lt ⋯];exact h1
  have ndP:ps.Nodup:=by rw[<- S.pre];exact S.nd.sublist (List.take_sublist _ _)
  refine⟨u,rv,?_⟩;rcases S.par y (List.mem_of_getElem? hp)with k|k
  ·exact .inl ⟨k,pK ndP hp hu k⟩
  ·obtain⟨c,e⟩:=uk (n:=s.heap.objs.size+1) k
   refine .inr ⟨.inl k,c,e,?_⟩;have q:=x.cell y c e;rw[pI ndP hp hu (by show scope.names.lookup y≠_;rw[k];decide)]at q
   exact q
 ·exact e0.bL.fresh (Nat.le_of_lt (x.above y c (PySem.mem_of_lookup h)))
 ·unfold start
  show _=N.length;rw[List.length_append,List.length_map,List.length_replicate];omega
theorem VU{CX:zH}{P:Program}{w:World}{K:PySem.W.Frag}{mg:Str->Option Value}{base:Heap}{k:Nat}{f:Addr}{name qual:Str}{params:Arguments}{body:List Stmt}{scope:Scope}{dV kV doc pm ik ct oc:Value}{an od:Option Addr}
  {Kf:Array (Option Value)} {N ps:List Str} {sp:Sp} (lk:K.lookup f=some ⟨oc,od,.func (PySem.W.fnOf name qual params body scope dV kV doc pm an ik ct),Kf⟩) (jk:PySem.W.codeIn K ik qual=true) (S:aC N ps scope)
  (len:∀vs H Q E,sp vs H Q E->vs.length=ps.length)
  (DP:∀(A:Around) (outer:List Env) (s:Shared) (H:Hp) (vs:List V) (Q:VK) (E:XK),eg k (A.deeper (envOfC qual scope s.heap.objs.size f ik))->sp vs H Q E ->
   ∃t,qI (nc CX P w K mg base N qual scope f ik A outer s H E) body t/\t {nx:=λ_ H'=>Q .aW H',rt:=Q} (start N vs) H):
  cn P w K mg base CX (k+1) f (PySem.W.fnOf name qual params body scope dV kV doc pm an ik ct) ps sp:=by
 refine⟨len,λA outer s H args us vs Q E hr e0 hb r J7=>?_⟩;have hl:=len _ _ _ _ J7;have KX:K.In s.heap:=e0.mod.D4.keeps λb o e=>(e0.bs b o e).1;have lim:s.heap.NoLimit:=e0.mod.nolimit.keeps λb o e=>(e0.bs b o e).1;have Wl:∀y∈ps.zip us,scope.names.lookup y.1=some .local\/(scope.names.lookup y.1=some .cell/\((cellsFrom (s.heap.objs.size+1) scope.names []).lookup y.1).isSome=true):=λ⟨n,v⟩ hy=>by
  rcases S.par n (List.of_mem_zip hy).1 with q|q
  ·exact .inl q
  ·exact .inr ⟨q,PySem.W.cellsFrom_some _ _ _ (.inl q)⟩
 refine codeAny_call_function hr.depth (KX _ _ lk) rfl S.co S.gen rfl (PySem.W.codeRec_of KX jk) (hb _ _ _ _ ?_);refine wpAny_newFunctionEnv_cells S.kind Wl λenv he s1 x=>?_;subst he;refine⟨lim.keeps x.toInCall.keep,codeAny_func ?_⟩;obtain⟨t,ht,hq⟩:=DP A outer s H vs Q E (hr.deeper _) J7;have I:Inv (nc CX P w K mg base N qual scope f ik A outer s H E) [] (start N vs) H s1:=Ao S hr.hd e0 hl r x;refine wpAny_mono (ht [] s1 (start N vs) H _ I hq) (λfl s' hs=>?_) λe s' hs=>hs;have fin:∀ {bh:St} {H':Hp} {v:V} {u:Value},Inv (nc CX P w K mg base N qual scope f ik A outer s H E) [] bh H' s'->RelV v u->Q v H'->CE outer P w H s Q u s':=
  λ{bh H' v u} J rv q=>⟨v,H',J.os,J.bare,J.base,J.bL,rv,q⟩
 cases fl with
 | ret u =>
  obtain⟨v,bh,H',J,rv,q⟩:=hs;exact fin J rv q
 | next =>
  obtain⟨bh,H',J,q⟩:=hs;exact fin (v:=V.aW) (u:=Value.none) J rfl q
 | brk =>
  obtain⟨_,_,_,q⟩:=hs;exact False.elim q
 | cont =>
  obtain⟨_,_,_,q⟩:=hs;exact False.elim q
end L2
namespace L2
open PySem PySem.Spec PyProof.Rows
section
variable {X:Cx}{x:Str}{p pos:Pos}{e:Expr}{es:List Expr}{t:TA}{id T:String}{r:List V->Hp->VK->Prop}
def tCB(r:List V->Hp->VK->Prop)(t:TA):TE:=λσ H Q=>t σ H λvs H1=>r vs H1 Q
theorem Eu(hc:cV X (.builtin id) r)(hg:Gl X x)(hm:X.mg x=none)(hv:bootBuiltins x=some (.builtin id))(ha:PA X (e::es) t)(hn:x≠"__name__":=by decide)(mB:(x==("__debug__":Str))=false:=by decide)
  (he:starEach (e::es) X.env=(false,eval e X.env)::starEach es X.env:=by rfl) (dI:(backTo pos (starEach es X.env)).any (·.1)=false:=by rfl):PE X (.Call (.Name x p) (e::es) [] pos) (tCB r t):=by
 intro pins s σ H Q I h;refine wpAny_Call_Name_kw (lg I hg hm hv ?_ hn mB);exact PyProof.Rows.callWith_builtin1 (cm (ha pos pins s σ H _ I h) λus s1 ⟨vs,H1,I1,r1,q1⟩=>hc pins s1 σ H1 vs us Q I1 r1 q1) he dI
theorem ly(hc:cV X (.type T) r)(hg:Gl X x)(hm:X.mg x=none)(hv:bootBuiltins x=some (.type T))(ha:PA X (e::es) t)(hn:x≠"__name__":=by decide)(mB:(x==("__debug__":Str))=false:=by decide)
  (he:starEach (e::es) X.env=(false,eval e X.env)::starEach es X.env:=by rfl) (dI:(backTo pos (starEach es X.env)).any (·.1)=false:=by rfl):PE X (.Call (.Name x p) (e::es) [] pos) (tCB r t):=by
 intro pins s σ H Q I h;refine wpAny_Call_Name_kw (lg I hg hm hv ?_ hn mB);exact PyProof.Rows.callWith_type1 (cm (ha pos pins s σ H _ I h) λus s1 ⟨vs,H1,I1,r1,q1⟩=>hc pins s1 σ H1 vs us Q I1 r1 q1) he dI
end
end L2
namespace HT
open PySem PyProof.Rows
def lexLt:List Int->List Int->Bool
 | [],[]=>false
 | [],_::_=>true
 | _::_,[]=>false
 | x::xs,y::ys=>if x=y then lexLt xs ys else decide (x<y)
theorem eA(x y:Int)(xs ys:List Int):lexLt (x::xs) (y::ys)=if x=y then lexLt xs ys else decide (x<y):=rfl
theorem pk:lexLt [] []=false:=rfl
theorem nN(y:Int)(ys:List Int):lexLt [] (y::ys)=true:=rfl
theorem nM(x:Int)(xs:List Int):lexLt (x::xs) []=false:=rfl
theorem Df(A:Around)(s:Shared)(a:Int)(t:Tok)(c:Int)(u:Tok):∃e,SeqAt.EqAt A s (.int a t) (.int c u) e/\(e=true ↔ a=c):=
 ⟨(a==c),SeqAt.EqAt.int_int a t c u,by simp⟩
theorem Fd(A:Around)(s:Shared)(a:Int)(t:Tok)(c:Int)(u:Tok)(prog:Program)(w:World)(E:Value->Shared->Prop)(Q:Value->Shared->Prop)(h:Q (.bool (decide (a<c))) s):
  wpAny (model prog w) A (richCompare .Lt (.int a t) (.int c u)) Q E s:=
 (PyProof.Rows.lt_int h:wpAny (model prog w) A (compareOp .Lt (.int a t) (.int c u)) Q E s)
section
open PySem.SeqAt
open PySem.AutoSeq1 (wpAny_loadPart')
open PySem.MeetsSeq PySem.MeetsSeq2 PySem.MeetsSeq3
theorem pD(l b:Addr)(items eY:Array Value)(n n2:Nat)(dd Tq:Option Addr)(sl TU:Array (Option Value))(ns ms:List Int)(hi:IntsAre items.toList ns)(hj:IntsAre eY.toList ms):
  Meets (Builtin.«tuple.__lt__» ⟨[.ref l,.ref b],[]⟩)
   (λ_ R s=>s.heap.get? l=some {cls:=.type "tuple",dict:=dd,data:=.seq items n,slots:=sl}/\s.heap.get? b=some {cls:=.type "tuple",dict:=Tq,data:=.seq eY n2,slots:=TU} /\
    R (.ok (.ret (.bool (lexLt ns ms)))) s):=
 .of_wp λprog w A R s h=>by
  obtain⟨hp,g,d,tk,os⟩:=s;obtain⟨hl,hb,h⟩:=h;have f2:=AutoSeq1.sub_tuple_tuple;have z1:items.size=ns.length:=by rw[<- hi.length];simp
  have z2:eY.size=ms.length:=by rw[<- hj.length];simp
  wp_walk using wpAny_loadPart' hl,wpAny_loadPart' hb,wpAny_forIn_list _ (λrest b s'=>b.1=none/\s'=⟨hp,g,d,tk,os⟩/\∃(vs ws:List Value) (TR GF:List Int),rest=vs.zip ws /\
   IntsAre vs TR/\IntsAre ws GF/\TR.length+eY.size=GF.length+items.size/\R (.ok (.ret (.bool (lexLt TR GF)))) ⟨hp,g,d,tk,os⟩) _
  case turn =>
   rintro⟨y,x⟩ rest b s' ⟨J0,rfl,vs,ws,TR,GF,hz,hvi,ZN,hlen,hR⟩;cases hvi with
   | nil=>rw[List.zip_nil_left]at hz;cases hz
   | cons a t aaO =>
    cases ZN with
    | nil=>rw[List.zip_nil_right]at hz;cases hz
    | cons c u aaP =>
     rw[List.zip_cons_cons]at hz
     injection hz with hyx Ww
     injection hyx with hy hx
     subst hy hx;rw[eA]at hR;simp only[List.length_cons]at hlen;obtain⟨e,he,Wd⟩:=Df A.in1 ⟨hp,g,d,tk,os⟩ a t c u;refine wpAny_bind (he prog w _ _ ?_);cases e with
     | true =>
      rw[if_pos (Wd.mp rfl)]at hR
      wp_walk
      exact⟨rfl,rfl,_,_,_,_,Ww,aaO,aaP,by omega,hR⟩
     | false =>
      rw[if_neg (λq=>absurd (Wd.mpr q) Bool.false_ne_true)]at hR;have hri:=Fd A.in1 ⟨hp,g,d,tk,os⟩ a t c u prog w
      wp_walk using hri
      exact⟨_,rfl,by simpa using hR⟩
  case fin =>
   rintro⟨b1,b2⟩ s' ⟨J0,rfl,vs,ws,TR,GF,hz,hvi,ZN,hlen,hR⟩;simp only at J0;subst J0;have hv:lexLt TR GF=decide (items.size<eY.size):=by
    cases hvi with
    | nil =>
     cases ZN with
     | nil =>
      simp only[List.length_nil]at hlen;rw[pk];exact(decide_eq_false ⋯).symm
     | cons c u hw =>
      simp only[List.length_nil,List.length_cons]at hlen;rw[nN];exact(decide_eq_true ⋯).symm
    | cons a t hv =>
     cases ZN with
     | nil =>
      simp only[List.length_nil,List.length_cons]at hlen;rw[nM];exact(decide_eq_false ⋯).symm
     | cons c u hw =>
      rw[List.zip_cons_cons]at hz;cases hz
   rw[hv]at hR
   wp_walk
   exact⟨_,rfl,by simpa [Builtin.Tuple.tupleCompareSizes]using hR⟩
  case h =>
   exact⟨rfl,rfl,items.toList,eY.toList,ns,ms,rfl,hi,hj,by omega,h⟩
end
section
variable {prog:Program}{w:World}{A:Around}{E:Value->Shared->Prop}{s:Shared}
theorem xa{l b:Addr}{items eY:Array Value}{ns ms:List Int}{Q:Value->Shared->Prop}(hl:IsTup s.heap l items)(hb:IsTup s.heap b eY)(hi:IntsAre items.toList ns)(hj:IntsAre eY.toList ms)
  (hu:A.units<cLine) (h:Q (.bool (lexLt ns ms)) s):wpAny (model prog w) A (compareOp .Lt (.ref l) (.ref b)) Q E s:=by
 obtain⟨⟨cls,dd,data,sl⟩,ho,hc,n,hd⟩:=id hl;obtain⟨⟨aai,Tq,data2,TU⟩,ND,yE,n2,hd2⟩:=id hb;simp only at hc hd yE hd2;subst hc hd yE hd2;exact richCompare_meets_room (op:=.Lt) ⟨_,ho,rfl⟩ ⟨_,ND,rfl⟩ PySem.F.slot_tuple_lt PySem.F.entry_tuple_lt (PySem.F.args_tuple_lt_2 _ _) (pD l b items eY n n2 dd Tq sl TU ns ms hi hj)
  ⟨ho,ND,show Value.bool (lexLt ns ms)≠Value.notImplemented/\Q (.bool (lexLt ns ms)) s from⟨(λx=>nomatch x),h⟩⟩ hu
theorem G0{t b:Addr}{vs ws:List Value}{Q:Value->Shared->Prop}(ht:IsTup s.heap t vs.toArray)(hb:IsTup s.heap b ws.toArray)(hv:vs≠[])
  (h1:ws=[]->Q (.ref t) s) (h2:ws≠[]->Q (.ref s.heap.objs.size) {s with heap:=s.heap.push {cls:=.type "tuple",data:=.seq (vs++ws).toArray}})
  (hsz:vs.length+ws.length<=sizeLine):wpAny (model prog w) A (binaryOp .Add (.ref t) (.ref b)) Q E s:=by
 obtain⟨⟨cls,dd,data,sl⟩,ho,hc,n,hd⟩:=id ht;obtain⟨⟨aai,Tq,data2,TU⟩,ND,yE,n2,hd2⟩:=id hb;simp only at hc hd yE hd2;subst hc hd yE hd2;have e:vs.toArray++ws.toArray=(vs++ws).toArray:=by simp
 by_cases hw:ws=[]
 ·exact concat_meets ⟨_,ho,rfl⟩ ⟨_,ND,rfl⟩ noFill_tuple_add seq_tuple_add PySem.F.slot_tuple_add PySem.F.entry_tuple_add (PySem.F.args_tuple_add_2 _ _)
   (tuple_addW1 t b vs.toArray ws.toArray n n2 dd Tq sl TU (by simpa using hv) (by simp [hw])) ⟨ho,ND,h1 hw⟩
 ·refine concat_meets ⟨_,ho,rfl⟩ ⟨_,ND,rfl⟩ noFill_tuple_add seq_tuple_add PySem.F.slot_tuple_add PySem.F.entry_tuple_add (PySem.F.args_tuple_add_2 _ _)
   (tuple_addW2 t b vs.toArray ws.toArray n n2 dd Tq sl TU (by simpa using hv) (by simpa using hw) (by rw[List.size_toArray,List.size_toArray];exact hsz)) ⟨ho,ND,?_⟩
  rw[e];exact h2 hw
def cG(n d:Nat):Option Int->Nat
 | none=>d
 | some v=>if v<0 then(v+(n:Int)).toNat else min v.toNat n
theorem Fj(n d:Nat):cG n d none=d:=rfl
theorem IE(n d k:Nat):cG n d (some (k:Int))=min k n:=by
 show(if(k:Int)<0 then((k:Int)+(n:Int)).toNat else min (k:Int).toNat n)=min k n
 rw[if_neg ⋯,Int.toNat_natCast]
theorem Rq(n d:Nat)(hd:d<=n)(o:Option Int):cG n d o<=n:=by
 cases o with
 | none=>exact hd
 | some v =>
  show(if v<0 then(v+(n:Int)).toNat else min v.toNat n)<=n
  by_cases hv:v<0
  ·rw[if_pos hv];omega
  ·rw[if_neg hv];exact Nat.min_le_right _ _
theorem yj(v:Int)(n d:Nat):(if v<0 then max (v+(n:Int)) 0 else min v (n:Int))=((cG n d (some v):Nat):Int):=by
 show(if v<0 then max (v+(n:Int)) 0 else min v (n:Int))=(((if v<0 then(v+(n:Int)).toNat else min v.toNat n):Nat):Int)
 by_cases hv:v<0
 ·simp only[if_pos hv];omega
 ·simp only[if_neg hv];omega
theorem wG(lo hi:Option Int)(n:Nat):Builtin.Slice.sliceAdjust lo hi 1 (n:Int)=(((cG n 0 lo:Nat):Int),((cG n n hi:Nat):Int)):=by
 have h1:¬((1:Int)<0):=by omega
 unfold Builtin.Slice.sliceAdjust;simp only[h1,if_false];refine Prod.ext ?_ ?_
 ·cases lo with
  | none=>rfl
  | some v=>exact yj v n 0
 ·cases hi with
  | none=>rfl
  | some v=>exact yj v n n
theorem xv(i j:Nat):Builtin.Slice.slicePlaces (i:Int) (j:Int) 1=j-i:=by
 unfold Builtin.Slice.slicePlaces;have h1:(1:Int)>0:=by omega
 simp only[h1,if_true,Int.ediv_one]
 split<;>omega
theorem oz{v:Value}{o:Option Int}{Q:Option Int->Shared->Prop}(p:IsPart v o)(h:Q o s):wpAny (model prog w) A (Builtin.Slice.slicePartIndex v) Q E s:=by
 cases p with
 | none=>exact slicePart_none h
 | int i t=>exact slicePart_int h
theorem fw{sl:Addr}{vl vu:Value}{lo hi:Option Int}{n:Nat}{Q:Int×Int×Nat->Shared->Prop}(hs:s.heap.IsSliceOf sl vl vu .none)(pl:IsPart vl lo)(pu:IsPart vu hi)
  (h:Q (((cG n 0 lo:Nat):Int),1,cG n n hi-cG n 0 lo) s):wpAny (model prog w) A (Builtin.Slice.sliceApplied (.ref sl) (pure (n:Int))) Q E s:=by
 obtain⟨os,NI,G8,V9⟩:=id hs;unfold Builtin.Slice.sliceApplied Builtin.Slice.sliceFields;refine wpAny_bind (wpAny_bind (wpAny_field NI V9 (x:=vl) rfl (wpAny_bind (wpAny_field NI V9 (x:=vu) rfl (wpAny_bind (wpAny_field NI V9 (x:=.none) rfl (wpAny_pure ?_)))))));refine wpAny_bind (slicePart_none ?_);show wpAny _ _ (if((1:Int)==0)=true then _ else _) _ _ s
 rw[if_neg ∅]
 refine wpAny_bind (oz pl (wpAny_bind (oz pu (wpAny_bind (wpAny_pure ?_)))));show wpAny _ _ (match Builtin.Slice.sliceAdjust lo hi 1 (n:Int)with | (lo,hi)=>pure (lo,(1:Int),Builtin.Slice.slicePlaces lo hi 1)) _ _ s
 rw[wG lo hi n];show wpAny _ _ (pure (((cG n 0 lo:Nat):Int),(1:Int),Builtin.Slice.slicePlaces ((cG n 0 lo:Nat):Int) ((cG n n hi:Nat):Int) 1)) _ _ s;rw[xv];exact wpAny_pure h
theorem EE(xs:Array Value)(i k:Nat):((List.range k).filterMap λ(m:Nat)=>xs[((i:Int)+(m:Int)*1).toNat]?).toArray=((xs.toList.drop i).take k).toArray:=by
 have e:(λ(m:Nat)=>xs[((i:Int)+(m:Int)*1).toNat]?)=λm=>xs[i+m]?:=by
  funext m;have:((i:Int)+(m:Int)*1).toNat=i+m:=by omega
  rw[this]
 rw[e];have:=pick_run xs i k;rw[List.filterMap_map]at this;have e2:((λx=>xs[x]?) ∘ λx=>i+x)=λm=>xs[i+m]?:=rfl;rw[e2]at this;rw[this]
theorem jH{t sl:Addr}{items:Array Value}{vl vu:Value}{lo hi:Option Int}{Q:Value->Shared->Prop}(ht:IsTup s.heap t items)(hs:s.heap.IsSliceOf sl vl vu .none)(pl:IsPart vl lo)(pu:IsPart vu hi)
  (hw:¬(cG items.size 0 lo=0/\cG items.size items.size hi=items.size))
  (h:Q (.ref s.heap.objs.size) {s with heap:=s.heap.push {cls:=.type "tuple",data:=.seq ((items.toList.drop (cG items.size 0 lo)).take (cG items.size items.size hi-cG items.size 0 lo)).toArray}})
  (hsz:items.size<=sizeLine):wpAny (model prog w) A (getItem (.ref t) (.ref sl)) Q E s:=by
 have yI:sizeOk (.seq ((items.toList.drop (cG items.size 0 lo)).take (cG items.size items.size hi-cG items.size 0 lo)).toArray):=by
  show((items.toList.drop (cG items.size 0 lo)).take (cG items.size items.size hi-cG items.size 0 lo)).toArray.size<=sizeLine;rw[List.size_toArray,List.length_take,List.length_drop,Array.length_toList];omega
 have hj:cG items.size items.size hi<=items.size:=Rq _ _ (Nat.le_refl _) hi;obtain⟨os,NI,G8,V9⟩:=id hs;have hTs:s.TypeIs (.ref sl) "slice":=⟨os,NI,G8⟩;unfold getItem
 try with_reducible refine wpAny_holding ?_
 first|refine wpAny_bind (wpAny_pure ?_)|skip
 refine wpAny_bind (wpAny_sequenceKey ht.typeIs ∅ ?_)
 refine wpAny_bind (wpAny_callSpecial?_slot (name:=Str.ofString "__getitem__") ht.typeIs PyProof.Rows.slot_tuple_getitem
  (wpAny_call_entry PyProof.Rows.slot_tuple_getitem ht.typeIs entry_tuple_getitem ?_ (args_tuple_getitem _ _)))
 show wpAny _ _ (Builtin.Tuple.tupleItemsOf (.ref t) >>= _) _ _ s;refine wpAny_bind (tupleItemsOf_ ht ?_);refine wpAny_bind (wpAny_typeOf hTs ?_);rw[if_pos ∅]
 refine wpAny_bind (fw hs pl pu ?_);have Wr:¬((((cG items.size 0 lo:Nat):Int)==0&&(1:Int)==1&&(cG items.size items.size hi-cG items.size 0 lo)==items.size)=true):=by
  intro q;rw[Bool.and_eq_true,Bool.and_eq_true]at q;have q1:((cG items.size 0 lo:Nat):Int)=0:=eq_of_beq q.1.1;have q2:cG items.size items.size hi-cG items.size 0 lo=items.size:=eq_of_beq q.2;exact hw ⟨by omega,by omega⟩
 show wpAny _ _ (if(((cG items.size 0 lo:Nat):Int)==0&&(1:Int)==1&&(cG items.size items.size hi-cG items.size 0 lo)==items.size)=true then _ else _) _ _ s
 rw[if_neg Wr,EE]
 first
  | exact wpAny_bind (m:=Builtin.Tuple.tupleExact _) (wpAny_newObj_type (wpAny_pure ⟨_,rfl,wpAny_pure h⟩) yI)
  | exact wpAny_bind (m:=Builtin.Tuple.tupleExact _) (wpAny_newObj_type (wpAny_bind (wpAny_pure (wpAny_pure ⟨_,rfl,wpAny_pure h⟩))) yI)
  | exact wpAny_bind (wpAny_bind (m:=Builtin.Tuple.tupleExact _) (wpAny_newObj_type (wpAny_pure (wpAny_pure ⟨_,rfl,wpAny_pure h⟩)) yI))
  | exact wpAny_bind (wpAny_bind (m:=Builtin.Tuple.tupleExact _) (wpAny_newObj_type (wpAny_pure ⟨_,rfl,wpAny_pure h⟩) yI))
end
end HT
namespace L2
open PySem PySem.Spec PyProof.Rows
abbrev TO:=St->Hp->(Option Int->Hp->Prop)->Prop
def PO(X:Cx)(e:Option Expr)(t:TO):Prop:=
 ∀(pins:List (Addr×Obj)) (s:Shared) (σ:St) (H:Hp) (Q:Option Int->Hp->Prop),Inv X pins σ H s->t σ H Q ->
  wpAny (model X.prog X.w) X.A (evalPart e X.env) (λu s'=>∃o H',Inv X pins σ H' s'/\IsPart u o/\Q o H') X.xe s
def IY:TO:=λ_ H Q=>Q none H
def Y5(t:TE):TO:=λσ H Q=>t σ H λx H1=>∃i,x=.int i/\Q (some i) H1
theorem intsAre_of{ns:List Int}:∀ {us:List Value},Vals (ns.map V.int) us->IntsAre us ns:=by
 induction ns with
 | nil=>intro us r;rw[List.map_nil]at r;cases r;exact .nil
 | cons n ns ih =>
  intro us r;rw[List.map_cons]at r;cases r with
  | cons r1 r2 =>
   obtain⟨t,e⟩:=r1;subst e;exact .cons n t (ih r2)
section
variable {X:Cx}{e:Expr}{te:TE}{lo hi:Option Expr}{tl th:TO}{pos p2:Pos}
theorem Ij:PO X none IY:=by
 intro pins s σ H Q I h;rw[evalPart_none];exact wpAny_pure ⟨none,H,I,.none,h⟩
theorem Ik(h:PE X e te):PO X (some e) (Y5 te):=by
 intro pins s σ H Q I hw;rw[evalPart_some];refine cm (h pins s σ H _ I hw) λu s1 ⟨x,H1,I1,r1,q1⟩=>?_;obtain⟨i,rfl,q⟩:=q1;obtain⟨t,rfl⟩:=r1;exact⟨some i,H1,I1,.int i t,q⟩
def BM(X:Cx)(r:V->Option Int->Option Int->Hp->VK->Prop):Prop:=
 ∀(pins:List (Addr×Obj)) (s:Shared) (σ:St) (H:Hp) (x:V) (v vl vu:Value) (lo hi:Option Int) (sl:Addr) (Q:VK),Inv X pins σ H s->RelV x v->s.heap.IsSliceOf sl vl vu .none->IsPart vl lo->IsPart vu hi->r x lo hi H Q ->
  ∃T id,typeLookup (.type T) "__getitem__"=pure (some (.builtin id))/\s.TypeIs v T/\wpAny (model X.prog X.w) X.A (getItem v (.ref sl)) (EP X pins σ Q) X.xe s
theorem BM.or{r r':V->Option Int->Option Int->Hp->VK->Prop}(h:BM X r)(h':BM X r'):BM X (λx lo hi H Q=>r x lo hi H Q\/r' x lo hi H Q):=by
 intro pins s σ H x v vl vu lo hi sl Q I rx hs pl pu q;rcases q with q|q
 ·exact h pins s σ H x v vl vu lo hi sl Q I rx hs pl pu q
 ·exact h' pins s σ H x v vl vu lo hi sl Q I rx hs pl pu q
def tSl(r:V->Option Int->Option Int->Hp->VK->Prop)(te:TE)(tl th:TO):TE:=λσ H Q=>te σ H λx H1=>tl σ H1 λl H2=>th σ H2 λu H3=>r x l u H3 Q
theorem vF{r:V->Option Int->Option Int->Hp->VK->Prop}(hr:BM X r)(he:PE X e te)(hl:PO X lo tl)(hu:PO X hi th):PE X (.Subscript e (.Slice lo hi none p2) pos) (tSl r te tl th):=by
 intro pins s σ H Q I h;refine Subscript_ (cm (he pins s σ H _ I h) λv s1 ⟨x,H1,I1,r1,q1⟩=>?_);refine wpAny_Slice (cm (hl pins s1 σ H1 _ I1 q1) λvl s2 ⟨l,H2,I2,pl,q2⟩=>cm (hu pins s2 σ H2 _ I2 q2) λvu s3 ⟨u,H3,I3,pu,q3⟩=>?_);rw[evalPart_none];refine wpAny_pure ?_;have I4:Inv X pins σ H3 {s3 with heap:=s3.heap.push {cls:=.type "slice",data:=.fields #[vl,vu,.none]}}:=I3.kept (t':=s3.toks) λb ob q=>Heap.get?_push_of_some _ q
 obtain⟨T,id,hT,ht,hg⟩:=hr pins {s3 with heap:=s3.heap.push {cls:=.type "slice",data:=.fields #[vl,vu,.none]}} σ H3 x v vl vu l u s3.heap.objs.size Q I4 r1 (Heap.IsSliceOf.new ..) pl pu q3
 show wpAny (model X.prog X.w) X.A (subscriptTail e (.Slice lo hi none p2) v (.ref s3.heap.objs.size)) (EP X pins σ Q) X.xe {s3 with heap:=s3.heap.push {cls:=.type "slice",data:=.fields #[vl,vu,.none]}}
 exact tail_any (ops:=[.ref s3.heap.objs.size,v]) ht hT hg (by with_unfolding_all rfl)
def uq(xs:List V)(lo hi:Option Int):List V:=(xs.drop (HT.cG xs.length 0 lo)).take (HT.cG xs.length xs.length hi-HT.cG xs.length 0 lo)
theorem lN(xs:List V)(lo hi:Option Int):(uq xs lo hi).length<=xs.length:=by
 unfold uq;rw[List.length_take,List.length_drop];omega
def abg(K:PySem.W.Frag):V->Option Int->Option Int->Hp->VK->Prop:=λx lo hi H Q=>∃a xs,x=.ref a/\kR K H a xs /\
 ¬(HT.cG xs.length 0 lo=0/\HT.cG xs.length xs.length hi=xs.length)/\∀p,H p=none->Q (.ref p) (upd H p (.tup (uq xs lo hi)))
theorem Fp:BM X (abg X.K):=by
 intro pins s σ H x v vl vu lo hi sl Q I rx hs pl pu h;obtain⟨a,xs,rfl,hx,hw,q⟩:=h;cases rx;obtain⟨its,r,ht,hz⟩:=I.tuple hx;have hlen:its.toArray.size=xs.length:=by rw[List.size_toArray];exact r.length.symm
 refine⟨"tuple",_,PyProof.Rows.slot_tuple_getitem.lookup,ht.typeIs,?_⟩;refine HT.jH ht hs pl pu (by rw[hlen];exact hw) ?_ (by rw[hlen];exact hz)
 rw[hlen];refine⟨.ref s.heap.objs.size,_,I.laid (t':=s.toks) (o:=.tup (uq xs lo hi)) (λb ob q=>Heap.get?_push_of_some _ q) (Nat.le_refl _) ?_,rfl,q _ (I.bL.fresh (Nat.le_refl _))⟩;exact⟨Nat.le_trans (lN xs lo hi) hz,_,(r.drop (HT.cG xs.length 0 lo)).take (HT.cG xs.length xs.length hi-HT.cG xs.length 0 lo),IsTup.new _ _⟩
def Kj(K:PySem.W.Frag):R2:=λx y H Q=>∃a b xs ys,x=.ref a/\y=.ref b/\kR K H a xs/\kR K H b ys/\xs≠[]/\xs.length+ys.length<=sizeLine /\
 (ys=[]->Q (.ref a) H)/\(ys≠[]->∀p,H p=none->Q (.ref p) (upd H p (.tup (xs++ys))))
theorem Vals.rS{xs:List V}{us:List Value}(r:Vals xs us):us=[] ↔ xs=[]:=by
 cases r with
 | nil=>simp
 | cons _ _=>simp
theorem HK:iO X (binaryOp .Add) (Kj X.K):=by
 intro pins s σ H x y v u Q I rx ry h;obtain⟨a,b,xs,ys,rfl,rfl,ha,hb,hx,hz,q1,q2⟩:=h;cases rx;cases ry;obtain⟨its,r1,p1,_⟩:=I.tuple ha;obtain⟨NV,r2,p2,_⟩:=I.tuple hb;refine HT.G0 p1 p2 (λz=>hx (r1.rS.mp z)) (λz=>⟨.ref a,H,I,rfl,q1 (r2.rS.mp z)⟩) (λz=>?_) (by rw[<- r1.length,<- r2.length];exact hz)
 refine⟨.ref s.heap.objs.size,_,I.laid (t':=s.toks) (o:=.tup (xs++ys)) (λb ob q=>Heap.get?_push_of_some _ q) (Nat.le_refl _) ?_,rfl,q2 (λw=>z (r2.rS.mpr w)) _ (I.bL.fresh (Nat.le_refl _))⟩;exact⟨by rw[List.length_append];exact hz,_,r1.append r2,IsTup.new _ _⟩
end
end L2
namespace L2
open PySem PySem.Spec PyProof.Rows
def yN(n:Nat)(i:Int):Option Nat:=if 0<=i then(if i<n then some i.toNat else none)else if -(n:Int)<=i then some (i+n).toNat else none
def o5{α:Type}(xs:List α)(i:Int):Option α:=(yN xs.length i).bind λj=>xs[j]?
theorem rL{n:Nat}{i:Int}{j:Nat}(h:yN n i=some j):seqIndex? i n=some j/\j<n/\-(n:Int)<=i/\i<n:=by
 unfold yN at h
 by_cases h0:0<=i
 ·rw[if_pos h0]at h
  by_cases h1:i<n
  ·rw[if_pos h1]at h
   have e:i.toNat=j:=Option.some.inj h;exact⟨by rw[seqIndex_of h0 h1,e],by omega,by omega,h1⟩
  ·rw[if_neg h1]at h;cases h
 ·rw[if_neg h0]at h
  by_cases h1:-(n:Int)<=i
  ·rw[if_pos h1]at h
   have e:(i+n).toNat=j:=Option.some.inj h;exact⟨by rw[seqIndex_neg ⋯ h1,e],by omega,h1,by omega⟩
  ·rw[if_neg h1]at h;cases h
theorem qL{α:Type}{xs:List α}{i:Int}{v:α}(h:o5 xs i=some v):∃j,seqIndex? i xs.length=some j/\xs[j]?=some v/\j<xs.length/\-(xs.length:Int)<=i/\i<xs.length:=by
 unfold o5 at h;cases e:yN xs.length i with
 | none=>rw[e]at h;cases h
 | some j =>
  rw[e]at h;obtain⟨h1,h2,h3,h4⟩:=rL e;exact⟨j,h1,h,h2,h3,h4⟩
def x9(b:Expr):Prop:=∀o i,subscripted b false o i=operate [o,i] (getItem o i)
def GO(X:Cx)(r:R2):Prop:=
 ∀(value slice:Expr) (pins:List (Addr×Obj)) (s:Shared) (σ:St) (H:Hp) (x y:V) (v u:Value) (Q:VK),Inv X pins σ H s->RelV x v->RelV y u->r x y H Q ->
  subscripted slice false v u=operate [v,u] (getItem v u)->wpAny (model X.prog X.w) X.A (subscriptTail value slice v u) (EP X pins σ Q) X.xe s
def MtR(X:Cx)(id:String)(r:V->List V->Hp->VK->Prop):Prop:=
 ∀(pins:List (Addr×Obj)) (s:Shared) (σ:St) (H:Hp) (x:V) (xs:List V) (v:Value) (us:List Value) (Q:VK),Inv X pins σ H s->RelV x v->Vals xs us->r x xs H Q ->
  wpAny (model X.prog X.w) X.A (call (.builtin id) (v::us)) (EP X pins σ Q) X.xe s
section
variable {X:Cx}{a b:Expr}{ta tb:TE}{pos:Pos}
theorem GO.or{r r':R2}(h:GO X r)(h':GO X r'):GO X (λx y H Q=>r x y H Q\/r' x y H Q):=by
 intro value slice pins s σ H x y v u Q I rx ry q hs;rcases q with q|q
 ·exact h value slice pins s σ H x y v u Q I rx ry q hs
 ·exact h' value slice pins s σ H x y v u Q I rx ry q hs
theorem XZ{r:R2}(hr:GO X r)(ha:PE X a ta)(hb:PE X b tb)(hs:x9 b):PE X (.Subscript a b pos) (SW r ta tb):=by
 intro pins s σ H Q I h;exact Subscript_ (Lq ha hb I h λv u s2 x y H2 I2 rx ry q=>hr a b pins s2 σ H2 x y v u Q I2 rx ry q (hs _ _))
def Yd(K:PySem.W.Frag):R2:=λx y H Q=>∃p xs i v,x=.ref p/\y=.int i/\fF K H p xs/\o5 xs i=some v/\Q v H
def Yf(K:PySem.W.Frag):R2:=λx y H Q=>∃p xs i v,x=.ref p/\y=.int i/\kR K H p xs/\o5 xs i=some v/\Q v H
def Ye:R2:=λx y H Q=>∃z i c,x=.str z/\y=.int i/\z.length<=sizeLine/\o5 z.cps.toList i=some c/\Q (.str ⟨#[c]⟩) H
theorem Hn:GO X (Yd X.K):=by
 intro value slice pins s σ H x y v u Q I rx ry h hs;obtain⟨p,xs,i,z,rfl,rfl,hq,he,q⟩:=h;cases rx;obtain⟨t,rfl⟩:=ry;obtain⟨its,r,pl,hz⟩:=I.list hq;obtain⟨j,h1,h2,h3,h4,h5⟩:=qL he;obtain⟨w,ew,tU⟩:=r.get h2;have hl:=r.length;have hn:=jn;have fin:EP X pins σ Q w s:=⟨z,H,I,tU,q⟩
 by_cases h0:0<=i
 ·have hj:i.toNat=j:=by
   rw[seqIndex_of h0 h5]at h1;exact Option.some.inj h1
  exact item_listR pl.isList h0 ⋯ (by rw[hj];simpa using ew) fin hs
 ·have hj:(i+(its.toArray.size:Int)).toNat=j:=by
   rw[seqIndex_neg ⋯ h4]at h1
   rw[List.size_toArray,<- hl];exact Option.some.inj h1
  exact subscriptTail_builtinR (x:=w) pl.isList.typeIs slot_list_getitem.lookup
   (wpAny_getItem_list_neg (Q:=λr s'=>r=w/\EP X pins σ Q r s') pl.isList ⋯ (by rw[List.size_toArray]<;>omega) ⋯ (by rw[hj];simpa using ew) ⟨rfl,fin⟩) hs
theorem N0:GO X (Yf X.K):=by
 intro value slice pins s σ H x y v u Q I rx ry h hs;obtain⟨p,xs,i,z,rfl,rfl,hq,he,q⟩:=h;cases rx;obtain⟨t,rfl⟩:=ry;obtain⟨its,r,pl,hz⟩:=I.tuple hq;obtain⟨j,h1,h2,h3,h4,h5⟩:=qL he;obtain⟨w,ew,tU⟩:=r.get h2;have hl:=r.length;have hn:=jn;have fin:EP X pins σ Q w s:=⟨z,H,I,tU,q⟩;exact subscriptTail_builtinR (x:=w) pl.typeIs slot_tuple_getitem.lookup
  (getItem_tuple (j:=j) (Q:=λr s'=>r=w/\EP X pins σ Q r s') pl ⋯ ⋯ (by rw[List.size_toArray,<- hl];exact h1) (by simpa using ew) ⟨rfl,fin⟩) hs
theorem NZ:GO X Ye:=by
 intro value slice pins s σ H x y v u Q I rx ry h hs;obtain⟨z,i,c,rfl,rfl,hz,he,q⟩:=h;obtain⟨t,rfl⟩:=rx;obtain⟨t',rfl⟩:=ry;obtain⟨j,h1,h2,h3,h4,h5⟩:=qL he;have hl:z.cps.toList.length=z.length:=by simp [Str.length]
 rw[hl]at h1 h4 h5;have hn:=jn;exact tail_any (typeIs_str s z t) slot_str_getitem.lookup (getItem_str (c:=c) (by
  have e1:decide (i < -(2^63:Int))=false:=decide_eq_false ⋯
  have e2:decide (i>=2^63)=false:=decide_eq_false ⋯
  rw[e1,e2,Bool.or_false]) (by rw[h1];simpa using h2) ⟨.str ⟨#[c]⟩,H,I.tok _,⟨_,rfl⟩,q⟩) hs
def rIx(K:PySem.W.Frag):R2:=λx y H Q=>Yd K x y H Q\/Yf K x y H Q\/Ye x y H Q
theorem NY:GO X (rIx X.K):=Hn.or (N0.or NZ)
theorem xh(its:List Value)(n j:Nat)(u:Value):Obj.mapSeq (·.setIfInBounds j u) {cls:=.type "list",data:=.seq its.toArray n}={cls:=.type "list",data:=.seq (its.set j u).toArray n}:=by
 simp [Obj.mapSeq]
theorem Inv.lst{pins:List (Addr×Obj)}{σ:St}{H:Hp}{s:Shared}{p:Addr}{xs:List V}(I:Inv X pins σ H s)(h:H p=some (.lst xs)):
  ∃(its:List Value) (n:Nat),Vals xs its/\s.heap.get? p=some {cls:=.type "list",data:=.seq its.toArray n}/\xs.length<=sizeLine:=by
 obtain⟨z,its,n,r,e⟩:=I.bL p _ h;exact⟨its,n,r,e,z⟩
theorem Inv.OM{pins:List (Addr×Obj)}{σ:St}{H:Hp}{s:Shared}{p:Addr}{xs ys:List V}{its its':List Value}{n n':Nat}{f:Obj->Obj}(I:Inv X pins σ H s)(h:H p=some (.lst xs))
  (ho:s.heap.get? p=some {cls:=.type "list",data:=.seq its.toArray n}) (hf:f {cls:=.type "list",data:=.seq its.toArray n}={cls:=.type "list",data:=.seq its'.toArray n'}) (r:Vals ys its') (hz:ys.length<=sizeLine) (t:Nat):
  Inv X pins σ (upd H p (.lst ys)) {s with heap:=s.heap.update p f,toks:=t}:=by
 have e:(s.heap.update p f).get? p=some {cls:=.type "list",data:=.seq its'.toArray n'}:=by
  rw[Heap.get?_update_self f ho (by rw[hf]<;>rfl),hf]
 refine I.write (x:=p) (e:=p) (by rw[h];trivial) (.inl rfl) (λb u hb q=>(Heap.get?_update_other _ _ (Ne.symm hb)).trans q) ⟨_,e⟩ ?_
 exact⟨hz,its',n',r,e⟩
def Yh:V->V->V->Hp->(Hp->Prop)->Prop:=λo i v H Q=>∃p xs k j,o=.ref p/\i=.int k/\H p=some (.lst xs)/\yN xs.length k=some j/\Q (upd H p (.lst (xs.set j v)))
theorem set_list:Up X Yh:=by
 intro pins s σ H o i v ov iv u Q I ro ri rv h;obtain⟨p,xs,k,j,rfl,rfl,hp,hj,q⟩:=h;cases ro;obtain⟨t,rfl⟩:=ri;obtain⟨its,n,r,ho,hz⟩:=I.lst hp;obtain⟨h1,h2,h3,h4⟩:=rL hj;have hl:=r.length;have hn:=jn;have I':Inv X pins σ (upd H p (.lst (xs.set j v))) {s with heap:=s.heap.update p (Obj.mapSeq (·.setIfInBounds j u))}:=
  I.OM hp ho (xh its n j u) (r.set rv j) (by rw[List.length_set];exact hz) s.toks
 by_cases h0:0<=k
 ·have hk:k.toNat=j:=by
   rw[seqIndex_of h0 h4]at h1;exact Option.some.inj h1
  exact PySem.W.ki_setAt ho h0 ⋯ (by rw[List.size_toArray,<- hl];exact h4) (by rw[hk];exact⟨_,I',q⟩)
 ·have hk:(k+(its.toArray.size:Int)).toNat=j:=by
   rw[seqIndex_neg ⋯ h3]at h1
   rw[List.size_toArray,<- hl];exact Option.some.inj h1
  exact PySem.W.ki_setBack ho ⋯ (by rw[List.size_toArray,<- hl];exact h3) ⋯ (by rw[hk];exact⟨_,I',q⟩)
theorem sM(lo hi:Option Int)(n:Nat):(sliceBounds lo hi none n).1=((HT.cG n 0 lo:Nat):Int)/\(sliceBounds lo hi none n).2.1=((HT.cG n n hi:Nat):Int)/\(sliceBounds lo hi none n).2.2=1:=by
 refine⟨?_,?_,rfl⟩
 ·cases lo with
  | none=>simp [sliceBounds,HT.cG]
  | some i =>
   simp only[sliceBounds,HT.cG,Option.getD_none,show(1:Int)>0 by decide,if_true]
   by_cases h:i<0
   ·simp only[h,if_true]<;>omega
   ·simp only[h,if_false]<;>omega
 ·cases hi with
  | none=>simp [sliceBounds,HT.cG]
  | some i =>
   simp only[sliceBounds,HT.cG,Option.getD_none,show(1:Int)>0 by decide,if_true]
   by_cases h:i<0
   ·simp only[h,if_true]<;>omega
   ·simp only[h,if_false]<;>omega
theorem pv(its:List Value)(lo hi:Option Int):slicePick its.toArray lo hi none=((its.drop (HT.cG its.length 0 lo)).take (HT.cG its.length its.length hi-HT.cG its.length 0 lo)).toArray:=by
 obtain⟨h1,h2,h3⟩:=sM lo hi its.toArray.size;unfold slicePick;rw[h1,h2,h3];simp only[sliceRange_one,pick_run,List.size_toArray]<;>rfl
def abf(K:PySem.W.Frag):V->Option Int->Option Int->Hp->VK->Prop:=λx lo hi H Q=>∃a xs,x=.ref a/\fF K H a xs/\∀p,H p=none->Q (.ref p) (upd H p (.lst (uq xs lo hi)))
theorem zo:BM X (abf X.K):=by
 intro pins s σ H x v vl vu lo hi sl Q I rx hs pl pu h;obtain⟨a,xs,rfl,hx,q⟩:=h;cases rx;obtain⟨its,r,ht,hz⟩:=I.list hx;have hlen:=r.length;refine⟨"list",_,slot_list_getitem.lookup,ht.isList.typeIs,?_⟩;refine wpAny_getItem_list_slice ht.isList hs pl pu .none (by simp) ?_ (by rw[List.size_toArray]<;>omega)
 rw[pv,<- hlen];refine⟨.ref s.heap.objs.size,_,I.laid (t':=s.toks) (o:=.lst (uq xs lo hi)) (λb ob q=>Heap.get?_push_of_some _ q) (Nat.le_refl _) ?_,rfl,q _ (I.bL.fresh (Nat.le_refl _))⟩;exact⟨Nat.le_trans (lN xs lo hi) hz,_,0,(r.drop (HT.cG xs.length 0 lo)).take (HT.cG xs.length xs.length hi-HT.cG xs.length 0 lo),Heap.get?_push_size _ rfl⟩
theorem qP:cV X (.builtin "len") (λxs H Q=>∃p ys,xs=[.ref p]/\(fF X.K H p ys\/kR X.K H p ys)/\Q (.int ys.length) H):=by
 intro pins s σ H xs us Q I r h;obtain⟨p,ys,rfl,hq,q⟩:=h;obtain⟨u,rfl,rx⟩:=vals1 r;cases rx;have hn:=jn;rcases hq with hq|hq
 ·obtain⟨its,r',pl,hz⟩:=I.list hq
  have hlen:=r'.length;exact Calls.call_len_list pl.isList (by simp only[List.size_toArray]<;>omega) ⟨.int ys.length,H,I.tok _,⟨s.toks+1,by rw[List.size_toArray,hlen]⟩,q⟩
 ·obtain⟨its,r',pl,hz⟩:=I.tuple hq
  have hlen:=r'.length;exact len_tuple pl (by simp only[List.size_toArray]<;>omega) ⟨.int ys.length,H,I.tok _,⟨s.toks+1,by rw[List.size_toArray,hlen]⟩,q⟩
theorem qQ:cV X (.builtin "len") (λxs H Q=>∃z,xs=[.str z]/\z.length<=sizeLine/\Q (.int z.length) H):=by
 intro pins s σ H xs us Q I r h;obtain⟨z,rfl,hz,q⟩:=h;obtain⟨u,rfl,t,rfl⟩:=vals1 r;have hn:=jn;exact len_str ⋯ ⟨.int z.length,H,I.tok _,⟨_,rfl⟩,q⟩
theorem cV.or{f:Value}{r r':List V->Hp->VK->Prop}(h:cV X f r)(h':cV X f r'):cV X f (λxs H Q=>r xs H Q\/r' xs H Q):=by
 intro pins s σ H xs us Q I rs q;rcases q with q|q
 ·exact h pins s σ H xs us Q I rs q
 ·exact h' pins s σ H xs us Q I rs q
theorem qR:cV X (.type "list") (λxs H Q=>∃p ys,xs=[.ref p]/\(fF X.K H p ys\/kR X.K H p ys)/\∀l,H l=none->Q (.ref l) (upd H l (.lst ys))):=by
 intro pins s σ H xs us Q I r h;obtain⟨p,ys,rfl,hq,q⟩:=h;obtain⟨u,rfl,rx⟩:=vals1 r;cases rx;have fin:∀(its:List Value),Vals ys its->ys.length<=sizeLine->∀(h':Heap) (c':Nat),(∀b o',s.heap.get? b=some o'->h'.get? b=some o') ->
   h'.get? s.heap.objs.size=some {cls:=.type "list",dict:=none,data:=.seq its.toArray c',slots:=#[]}->EP X pins σ Q (.ref s.heap.objs.size) {s with heap:=h'}:=λits r' hz h' c' kp e =>
  ⟨.ref s.heap.objs.size,_,I.laid (t':=s.toks) kp (Nat.le_refl _) (show bQ X.prog X.w _ h' _ (.lst ys)from⟨hz,its,c',r',e⟩),rfl,q _ (I.bL.fresh (Nat.le_refl _))⟩
 rcases hq with hq|hq
 ·obtain⟨its,r',pl,hz⟩:=I.list hq
  have hlen:=r'.length;obtain⟨o,ho,hc,n,hd⟩:=pl.isList;exact call_list_seq p (.inl rfl) ho hc hd (λh' c' kp e=>fin its r' hz h' c' kp e) (by simp only[List.size_toArray]<;>omega)
 ·obtain⟨its,r',pl,hz⟩:=I.tuple hq
  have hlen:=r'.length;obtain⟨o,ho,hc,n,hd⟩:=pl;exact call_list_seq p (.inr rfl) ho hc hd (λh' c' kp e=>fin its r' hz h' c' kp e) (by simp only[List.size_toArray]<;>omega)
theorem pe:cV X (.type "tuple") (λxs H Q=>∃p ys,xs=[.ref p]/\((fF X.K H p ys/\∀l,H l=none->Q (.ref l) (upd H l (.tup ys)))\/(kR X.K H p ys/\Q (.ref p) H))):=by
 intro pins s σ H xs us Q I r h;obtain⟨p,ys,rfl,h⟩:=h;obtain⟨u,rfl,rx⟩:=vals1 r;cases rx;rcases h with⟨hq,q⟩|⟨hq,q⟩
 ·obtain⟨its,r',pl,hz⟩:=I.list hq
  have hlen:=r'.length;refine call_tuple_list pl.isList (λh' kp=>?_) (by simp only[List.size_toArray]<;>omega)
  have I1:Inv X pins σ H {s with heap:=h'}:=I.kept (t':=s.toks) kp
  have I2:Inv X pins σ (upd H h'.objs.size (.tup ys)) {s with heap:=h'.push {cls:=.type "tuple",data:=.seq its.toArray}}:=
   I1.laid (t':=s.toks) (λb o e=>Heap.get?_push_of_some _ e) (Nat.le_refl _) (show bQ X.prog X.w _ _ _ (.tup ys)from⟨hz,its,r',IsTup.new _ _⟩)
  exact⟨.ref h'.objs.size,_,I2,rfl,q _ (I1.bL.fresh (Nat.le_refl _))⟩
 ·obtain⟨its,r',pl,hz⟩:=I.tuple hq
  exact call_tuple_same pl ⟨.ref p,H,I,rfl,q⟩
def tyV(K:PySem.W.Frag)(T:String)(x:V)(H:Hp):Prop:=match x with
 | .str _=>T="str"
 | .int _=>T="int"
 | .ref p=>(T="list"/\∃xs,fF K H p xs)\/(T="tuple"/\∃o,K.lookup p=some o/\o.cls=.type "tuple"/\o.dict=none) \/
   (T="dict"/\((∃kvs,H p=some (.dK kvs))\/∃kvs,H p=some (.dT kvs)))\/(T="set"/\∃S n,H p=some (.set S n))
 | _=>False
theorem Tc{pins:List (Addr×Obj)}{σ:St}{H:Hp}{s:Shared}{T:String}{x:V}{v:Value}(I:Inv X pins σ H s)(r:RelV x v)(ty:tyV X.K T x H):
  s.TypeIs v T/\∀a,v=.ref a->∃ob,s.heap.get? a=some ob/\ob.dict=none:=by
 cases x with
 | str z =>
  obtain⟨t,rfl⟩:=r;cases(show T="str" from ty)
  exact⟨typeIs_str s z t,λ_ e=>nomatch e⟩
 | int i =>
  obtain⟨t,rfl⟩:=r;cases(show T="int" from ty)
  exact⟨typeIs_int s i t,λ_ e=>nomatch e⟩
 | ref p =>
  cases r;rcases ty with⟨rfl,xs,hq⟩|⟨rfl,o,hk,hc,hd⟩|⟨rfl,hk⟩|⟨rfl,S,n,hk⟩
  ·obtain⟨its,_,pl,_⟩:=I.list hq
   refine⟨pl.isList.typeIs,λa e=>?_⟩;cases e;obtain⟨o,n,e,c,hd,_⟩:=pl;exact⟨o,e,hd⟩
  ·refine⟨⟨o,I.yO p o hk,hc⟩,λa e=>?_⟩
   cases e;exact⟨o,I.yO _ o hk,hd⟩
  ·have z:∃o,s.heap.get? p=some o/\o.ExactDict:=by
    rcases hk with⟨kvs,hk⟩|⟨kvs,hk⟩
    ·obtain⟨_,_,_,_,o,_,_,e,ex,_⟩:=I.bL p _ hk
     exact⟨o,e,ex⟩
    ·obtain⟨_,_,_,_,o,_,_,e,ex,_⟩:=I.bL p _ hk
     exact⟨o,e,ex⟩
   obtain⟨o,e,ex⟩:=z;refine⟨⟨o,e,ex.1⟩,λa e2=>?_⟩;cases e2;exact⟨o,e,ex.2.1⟩
  ·obtain⟨o,_,_,_,e,ex,_⟩:=I.bL p _ hk
   refine⟨⟨o,e,ex.1⟩,λa e2=>?_⟩;cases e2;exact⟨o,e,ex.2.1⟩
 | _=>exact False.elim ty
def tBM(K:PySem.W.Frag)(T:String)(r:V->List V->Hp->VK->Prop)(to:TE)(t:TA):TE:=λσ H Q=>to σ H λx H1=>tyV K T x H1/\t σ H1 λxs H2=>r x xs H2 Q
variable {o e:Expr}{es:List Expr}{to:TE}{t:TA}{name:Str}{apos cpos:Pos}{T id:String}{r:V->List V->Hp->VK->Prop}
theorem yW(pa:PlainAttrs T)(slot:Slot T name id)(hty:typeOf (.builtin id)=pure (.type "method_descriptor"))(hm:MtR X id r)(ho:PE X o to)(ha:PA X (e::es) t)
  (DN:attributeBase o name X.env (eval o X.env)=eval o X.env:=by rfl)
  (rB:((backTo cpos (starEach (e::es) X.env)).all (λx=>!x.1)&&(backToKw cpos (keywordEach [] X.env)).all (λx=>x.1.isSome)
  &&decide ((e::es).length+([]:List Keyword).length+(if([]:List Keyword).isEmpty then 0 else 1)<30))=true:=by rfl)
  (hline:(apos.endLine==cpos.line)=true:=by rfl) (hs:starEach (e::es) X.env=(false,eval e X.env)::starEach es X.env:=by rfl) (NK:(backTo cpos (starEach es X.env)).any (·.1)=false:=by rfl):
  PE X (.Call (.Attribute o name apos) (e::es) [] cpos) (tBM X.K T r to t):=by
 intro pins s σ H Q I h;refine wpAny_Call_method_late DN rB hline rfl (cm (ho pins s σ H _ I h) λv s1 ⟨x,H1,I1,r1,ty,q1⟩=>?_);obtain⟨h1,h2⟩:=Tc I1 r1 ty;refine⟨T,id,pa,slot,hty,h1,h2,?_⟩;have hA:=ha cpos pins s1 σ H1 _ I1 q1;rw[hs]at hA ⊢;refine Calls.callWith_builtin (by show(false||(backTo cpos (starEach es X.env)).any (·.1))=false;rw[NK]<;>rfl) (Calls.evalArgs_plain ?_)
 exact cm hA λus s2 ⟨vs,H2,I2,r2,q2⟩=>hm pins s2 σ H2 x vs v us Q I2 r1 r2 q2
end
end L2
namespace L2
open PySem PySem.Spec PyProof.Rows
def Ul(X:Cx)(id:String)(r:V->List V->Hp->VK->Prop):Prop:=
 ∀(pins:List (Addr×Obj)) (s:Shared) (σ:St) (H:Hp) (x:V) (xs:List V) (v:Value) (us:List Value) (Q:VK),Inv X pins σ H s->RelV x v->Vals xs us->r x xs H Q ->
  wpAny (model X.prog X.w) X.A (call (.builtin id) (v::us)) (EP X pins σ Q) X.xe s
theorem Vals.one:∀ {x:V} {us:List Value},Vals [x] us->∃u,us=[u]/\RelV x u
 | _,_,.cons r .nil=>⟨_,rfl,r⟩
theorem Vals.two:∀ {x y:V} {us:List Value},Vals [x,y] us->∃u v,us=[u,v]/\RelV x u/\RelV y v
 | _,_,_,.cons r (.cons q .nil)=>⟨_,_,rfl,r,q⟩
theorem Vals.eraseIdx:∀ {xs:List V} {us:List Value} (i:Nat),Vals xs us->Vals (xs.eraseIdx i) (us.eraseIdx i)
 | _,_,_,.nil=>.nil
 | _,_,0,.cons _ t=>t
 | _,_,i+1,.cons r t=>.cons r (Vals.eraseIdx i t)
theorem Vals.rep{xs:List V}{us:List Value}(h:Vals xs us):∀k:Nat,Vals (List.replicate k xs).flatten (List.replicate k us).flatten
 | 0=>.nil
 | k+1=>by
  rw[List.replicate_succ,List.replicate_succ,List.flatten_cons,List.flatten_cons];exact Vals.append h (Vals.rep h k)
theorem qf{α:Type}:∀(l:List α) (i:Nat),(l.eraseIdx i).length<=l.length
 | [],_=>Nat.le_refl _
 | _::_,0=>Nat.le_succ _
 | _::r,i+1=>Nat.succ_le_succ (qf r i)
theorem foldl_rep(its:List Value):∀(k:Nat) (acc:List Value),
  List.foldl (λx1 x2=>x1++x2) acc.toArray (List.replicate k its.toArray)=(acc++(List.replicate k its).flatten).toArray
 | 0,acc=>by simp
 | k+1,acc=>by
  have e:acc.toArray++its.toArray=(acc++its).toArray:=by simp
  have e2:(acc++its)++(List.replicate k its).flatten=acc++(List.replicate (k+1) its).flatten:=by
   rw[List.replicate_succ,List.flatten_cons,List.append_assoc]
  rw[<- e2,<- foldl_rep its k (acc++its),<- e,List.replicate_succ,List.foldl_cons]
section
variable {X:Cx}{pins:List (Addr×Obj)}{σ:St}{H:Hp}{s:Shared}{l b:Addr}{xs ys zs:List V}
theorem Inv.W5{its its':List Value}{n:Nat}{f:Array Value->Array Value}{t':Nat}(I:Inv X pins σ H s)(hH:H l=some (.lst xs))
  (e:s.heap.get? l=some {cls:=.type "list",data:=.seq its.toArray n}) (hf:f its.toArray=its'.toArray) (hv:Vals ys its') (hz:ys.length<=sizeLine):
  Inv X pins σ (upd H l (.lst ys)) {s with heap:=s.heap.update l (Obj.mapSeq f),toks:=t'}:=by
 have q:=PySem.IsL.update e f;rw[hf]at q;refine I.write (x:=l) (e:=l) (by rw[hH];exact trivial) (.inl rfl) (λb' u hb hu=>(Heap.get?_update_other s.heap (Obj.mapSeq f) (Ne.symm hb)).trans hu) ⟨_,q⟩ ?_
 exact⟨hz,its',_,hv,q⟩
theorem Inv.OJ{its:List Value}{t':Nat}(I:Inv X pins σ H s)(hv:Vals ys its)(hz:ys.length<=sizeLine):
  Inv X pins σ (upd H s.heap.objs.size (.lst ys)) {s with heap:=s.heap.push {cls:=.type "list",data:=.seq its.toArray},toks:=t'}:=
 I.laid (λ_ _ q=>Heap.get?_push_of_some _ q) (Nat.le_refl _) ⟨hz,its,0,hv,Heap.get?_push_size _ rfl⟩
theorem Inv.fresh(I:Inv X pins σ H s):H s.heap.objs.size=none:=I.bL.fresh (Nat.le_refl _)
theorem Inv.W6(I:Inv X pins σ H s)(hH:H l=some (.lst xs)):xs.length<=sizeLine/\∃(its:List Value) (n:Nat),Vals xs its/\xs.length=its.length/\s.heap.get? l=some {cls:=.type "list",data:=.seq its.toArray n}:=by
 obtain⟨z,its,n,r,e⟩:=I.bL l _ hH;exact⟨z,its,n,r,r.length,e⟩
theorem Em{n:Nat}(h:n<=sizeLine):Builtin.List.listTooLong n=false:=by
 unfold Builtin.List.listTooLong;exact decide_eq_false ⋯
end
section
variable {X:Cx}
def Ir:V->List V->Hp->VK->Prop:=λx vs H Q=>∃l xs y,x=.ref l/\vs=[y]/\H l=some (.lst xs)/\xs.length<sizeLine/\Q .aW (upd H l (.lst (xs++[y])))
theorem lq:Ul X "list.append" Ir:=by
 intro pins s σ H x vs v us Q I rx rv h;obtain⟨l,xs,y,rfl,rfl,hH,hz,q⟩:=h;cases rx;obtain⟨u,rfl,ru⟩:=rv.one;obtain⟨z,its,n,r,hl,e⟩:=I.W6 hH;refine call_meets F.slot_list_append ⟨_,e,rfl⟩ F.entry_list_append (F.args_list_append_2 _ _) (PySem.list_append l its.toArray n u (by rw[List.size_toArray];omega)) ⟨e,?_⟩
 refine⟨.aW,_,I.W5 (its':=its++[u]) hH e (by simp) (r.append (.cons ru .nil)) ?_,rfl,q⟩
 rw[List.length_append,List.length_singleton];omega
def Rm:V->List V->Hp->VK->Prop:=λx vs H Q=>∃l xs i k y,x=.ref l/\vs=[.int i]/\H l=some (.lst xs)/\-(2^63)<=i/\i<2^63/\seqIndex? i xs.length=some k/\xs[k]?=some y/\Q y (upd H l (.lst (xs.eraseIdx k)))
theorem Eg:Ul X "list.pop" Rm:=by
 intro pins s σ H x vs v us Q I rx rv h;obtain⟨l,xs,i,k,y,rfl,rfl,hH,h1,h2,hk,hy,q⟩:=h;cases rx;obtain⟨u,rfl,ru⟩:=rv.one;obtain⟨t,rfl⟩:=ru;obtain⟨z,its,n,r,hl,e⟩:=I.W6 hH;obtain⟨w,hw,tU⟩:=r.get hy;refine call_meets F.slot_list_pop ⟨_,e,rfl⟩ F.entry_list_pop (F.args_list_pop_2 _ _)
  (MeetsSeq.list_pop_at l its.toArray n i t k w (fitsIndex_both h1 h2) (by rw[List.size_toArray,<- hl];exact hk) (by rw[<- Array.getElem?_toList];exact hw) (by rw[List.size_toArray];omega)) ⟨e,?_⟩
 refine⟨y,_,I.W5 (its':=its.eraseIdx k) hH e ?_ (r.eraseIdx k) ?_,tU,q⟩
 ·show its.toArray.eraseIdxIfInBounds k=(its.eraseIdx k).toArray
  rw[List.eraseIdxIfInBounds_toArray]
 ·have:=qf xs k
  omega
theorem len_rep{α:Type}(xs:List α)(k:Nat):(List.replicate k xs).flatten.length=k*xs.length:=by
 induction k with
 | zero=>simp
 | succ k ih=>rw[List.replicate_succ,List.flatten_cons,List.length_append,ih,Nat.succ_mul,Nat.add_comm]
end
end L2
namespace Att
open PySem PySem.W PySem.Calls PyProof.Rows
theorem mC{P:Params}{h:Heap}:∀(ns:List Int) (vs:List Value),WellAll P h vs (ns.map WData.int)->IntsAre vs ns:=by
 intro ns
 induction ns with
 | nil =>
  intro vs w;rw[List.map_nil]at w;cases w;exact .nil
 | cons n ns ih =>
  intro vs w;rw[List.map_cons]at w;cases w with
  | cons a b =>
   cases a;exact .cons _ _ (ih _ b)
theorem AW{l:OpenLaw}{n:Nat}(hn:l.most=some n){P:Params}{h:Heap}{args:List WData}{vals:List Value}
  (Al:l.row.toRowW.claim.pre args=true) (WB:WellAll P h vals args):
  ∃a vs ns,vals=[Value.ref a]/\args=[WData.list (ns.map WData.int)]/\h.get? a=some {cls:=.type "list",data:=.seq vs.toArray}/\IntsAre vs ns/\ns.length<=n:=by
 have hsh:WShape.hasAll [] args [.list .int]=true:=(pre_splitW Al).1;have hc:l.pre.holds [] {args:=args}=true:=(pre_splitW Al).2;obtain⟨d,r,rfl,h1,h2⟩:=hasAllW_cons hsh;obtain rfl:=hasAllW_nil h2;obtain⟨xs,rfl,h3⟩:=hasW_list h1;obtain⟨ns,rfl⟩:=items_int h3;have hlen:ns.length<=n:=by
  unfold OpenLaw.pre at hc;have h4:(WTm.not (.lt (.lit (.int (n:Int))) (.len (.arg 0)))).holds [] {args:=[.list (ns.map .int)]}=true:=by
   have h4:=(holds_andW hc).1;rw[hn]at h4;exact h4
  have h5:=condW_of h4 (w_not (w_lt w_lit (w_len_list (w_arg rfl))));rw[List.length_map]at h5;refine Nat.le_of_not_lt λq=>?_;have q':(n:Int)<((ns.length:Nat):Int):=by omega
  first
   | (rw[decide_eq_true q']at h5;exact absurd h5 ∅)
   | (simp at h5;omega)
 cases WB with
 | cons w1 w2 =>
  cases w2;cases w1 with
  | list ho Nx=>exact⟨_,_,ns,rfl,rfl,ho,mC ns _ Nx,hlen⟩
theorem AJ(l:OpenLaw)(args:List WData):l.row.toRowW.claim.post args (.bool true) args=true:=
 postW_of (r:=l.row.toRowW) (X:=(true==true))
  (show WShape.has [] (.bool true) .bool=true by first|rfl|decide|simp [WShape.has,WShape.arms,WShape.armsAll])
  (show(WTm.eq .res (.lit (.bool true))).value [] {args:=args,res:=some (.bool true),after:=args}=some (.bool (true==true))from w_eq_bool (w_res rfl) w_lit) rfl
theorem ua{l:OpenLaw}{n:Nat}{q:Program}{loose:List Str}{XP:(Str->Option Value)->Heap->Prop}{YP:World->Heap->Prop}{d:DefRec}
  (hn:l.most=some n) (V8:d.params.defaults=[])
  (call:∀(w:World) (c5 bJ:Shared) (mg mb:Str->Option Value) (fa:Addr) (o:Obj) (pm cd doc:Value) (a:Addr) (vs:List Value) (ns:List Int),
   Ground q loose [] XP w c5 mg mb bJ.heap->YP w bJ.heap ->
   bJ.heap.get? fa=some o->o.data=.func (docDef d.name d.params d.body d.scope pm cd doc)->bJ.heap.CodeRec cd d.name->mg d.name=some (.ref fa) ->
   bJ.heap.get? a=some {cls:=.type "list",data:=.seq vs.toArray}->IntsAre vs ns->ns.length<=n->bJ.gens=#[] ->
   codeAny (model l.prog w) callerA (.call (.ref fa) ⟨[.ref a],[]⟩) (λr s'=>r=.ok (.ret (.bool true))/\OldK bJ.heap s'.heap/\s'.os=bJ.os/\AllBare s'.gens) bJ):
  WalkO q loose XP YP l.row.toRowW d [] (λf vs=>PySem.call f vs):=by
 intro w c5 bJ mg mb G Y fa o pm cd doc dV kV ho hd jk hD hmg hg args vals as Al Wm ZM WB hlo;obtain rfl:dV=.none:=Dflts.none hD V8;obtain rfl:kV=.none:=Dflts.noKw hD;obtain⟨a,vs,ns,rfl,rfl,NF,hints,hlen⟩:=AW hn Al WB;refine enter_call (codeAny_mono (call w c5 bJ mg mb fa o pm cd doc a vs ns G Y ho (fd_plain hd) jk hmg NF hints hlen hg) λr s' hq=>?_);obtain⟨rfl,h2,h3,h4⟩:=hq;exact⟨.inl ⟨.bool true,.bool true,[],rfl,λ_=>rfl,.bool true,AJ l _,λ_=>⟨List.Pairwise.nil,λ_ hm=>(nomatch hm)⟩⟩,h2,h3,h4⟩
end Att
namespace L2
open PySem PySem.Spec PyProof.Rows
theorem d9:∀ {vs:List Value} {ns:List Int},IntsAre vs ns->Vals (ns.map V.int) vs
 | _,_,.nil=>.nil
 | _,_,.cons n t h=>.cons ⟨t,rfl⟩ (d9 h)
def Only(H:Hp):Prop:=∀b,H b=none\/∃o xs,H b=some (.iP o (.lst xs))
theorem D7{P:Program}{w:World}{K:PySem.W.Frag}{mg mb:Str->Option Value}{CX:zH}{k:Nat}{fa a:Addr}{fd:FuncData}{x:Str}{sp:Sp}{bJ:Shared}{vs:List Value}{ns:List Int}
  (KX:K.In bJ.heap) (ZJ:bJ.heap.Ns mainGlobals mg) (hb:bJ.heap.Ns builtinsNs mb) (hbb:∀x:Str,x≠"__name__"->mb x=bootBuiltins x) (aaE:bJ.heap.NoLimit) (hg:bJ.gens=#[])
  (ha:bJ.heap.get? a=some {cls:=.type "list",data:=.seq vs.toArray}) (hi:IntsAre vs ns) (hl:ns.length<=sizeLine) (hr:eg k callerA)
  (F:∀base:Heap,K.In base->base.Ns mainGlobals mg->cn P w K mg base CX k fa fd [x] sp) (V5:∀(s:Shared) (u:Value),BindsTo s fd ⟨[u],[]⟩ [(x,u)])
  (J7:∀H:Hp,Only H->fF K H a (ns.map V.int)->sp [.ref a] H (λv _=>v=.bl true) λ_ _ _=>False)
  (hCX:∀H e s',CX [] H bJ (λ_ _ _=>False) e s'->False):
  codeAny (model P w) callerA (.call (.ref fa) ⟨[.ref a],[]⟩) (λr s'=>r=.ok (.ret (.bool true))/\OldK bJ.heap s'.heap/\s'.os=bJ.os/\AllBare s'.gens) bJ:=by
 have rv:=d9 hi;have aaY:=hi.length
 -- from an abstract heap in which nothing but the script may be tracked
 have core:∀H:Hp,Only H->fF K H a (ns.map V.int)->ig P w H bJ.heap->(∀b,H b≠none->b=a)->(H a≠none->K.lookup a=none) ->
   codeAny (model P w) callerA (.call (.ref fa) ⟨[.ref a],[]⟩) (λr s'=>r=.ok (.ret (.bool true))/\OldK bJ.heap s'.heap/\s'.os=bJ.os/\AllBare s'.gens) bJ:=by
  intro H hO hS bL hA hK;have yh:∀ {b:Addr} {o:Obj},bJ.heap.get? b=some o->H b=none->(rC bJ.heap H).get? b=some o:=λe n=>DR e n;have Xc:∀ {b:Addr} {o:Obj} {es:Array DictEntry} {ep:Nat},bJ.heap.get? b=some o->o.data=.dict es ep->H b=none:=λ{b o es ep} e d=>by
   cases q:H b with
   | none=>rfl
   | some u =>
    have e':b=a:=hA b (by rw[q];simp)
    subst e';rw[ha]at e;cases e;have d':Data.seq vs.toArray _=Data.dict es ep:=d;cases d'
  have Z0:∀ {b:Addr} {m:Str->Option Value},bJ.heap.Ns b m->(rC bJ.heap H).Ns b m:=λ{b m} ⟨o,es,ep,e,d,r⟩=>⟨o,es,ep,yh e (Xc e d),d,r⟩;have hKb:K.In (rC bJ.heap H):=λb o e=>yh (KX b o e) (by
   cases q:H b with
   | none=>rfl
   | some u =>
    have e':b=a:=hA b (by rw[q];simp)
    subst e';rw[hK (by rw[q];simp)]at e;cases e)
  have hM:Mod K mg (rC bJ.heap H):=⟨hKb,Z0 ZJ,⟨mb,Z0 hb,hbb⟩,let ⟨mc,h1,h2⟩:=aaE;⟨mc,Z0 h1,h2⟩⟩;have e0:wA P w K mg (rC bJ.heap H) callerA [] bJ H:=⟨rfl,hM,λb o e=>HH e,Nat.le_of_eq (Aj _ _),trivial,λb hb=>absurd (show b∈([]:List Addr)from hb) (by simp),bL,.of_eq hg⟩
  refine codeAny_mono ((F _ hKb (Z0 ZJ)).run callerA [] bJ H ⟨[.ref a],[]⟩ [.ref a] [.ref a] _ _ hr e0 (V5 bJ (.ref a)) (.cons rfl .nil) (J7 H hO hS)) λr s' h=>?_;cases r with
  | error e=>exact(hCX H e s' h).elim
  | ok fl =>
   cases fl with
   | next=>exact False.elim h
   | brk=>exact False.elim h
   | cont=>exact False.elim h
   | ret u =>
    obtain⟨v,H',os,bare,un,aaI,r',q⟩:=h;have q':v=.bl true:=q;subst q';obtain rfl:u=Value.bool true:=r';refine⟨rfl,OldK.of_keep λb o e=>?_,os,bare⟩;cases q:H b with
    | none=>exact un.keep b o e q (by intro z;exact absurd (show b∈([]:List Addr)from z) (by simp)) (by simp)
    | some u =>
     rcases hO b with z|⟨ob,xs,z⟩
     ·rw[q]at z;cases z
     ·have z2:=un.nu b ob _ z
      obtain⟨e1,_⟩:=bL b _ z;obtain⟨e2,_⟩:=aaI b _ z2;rw[e]at e1;cases e1;exact e2
 cases hk:K.lookup a with
 | some o =>
  -- the script is one of the module's own objects
  have e:=KX a o hk;rw[ha]at e;cases e;refine core (λ_=>none) (λ_=>.inl rfl) (.inr ⟨_,vs.toArray,_,hk,rfl,rfl,rfl,by rw[List.size_toArray,aaY];exact hl,by simpa using rv⟩) (λb u z=>by have z':(none:Option HO)=some u:=z;cases z') (λb z=>absurd rfl z) λz=>absurd rfl z
 | none =>
  refine core (λb=>if b=a then some (.iP {cls:=.type "list",data:=.seq vs.toArray} (.lst (ns.map V.int)))else none) (λb=>?_) (.inl (.inr ⟨{cls:=.type "list",data:=.seq vs.toArray},if_pos rfl⟩)) (λb u z=>?_) (λb z=>?_) λ_=>hk
  ·by_cases hb:b=a
   ·exact .inr ⟨_,_,if_pos hb⟩
   ·exact .inl (if_neg hb)
  ·by_cases hb:b=a
   ·have z':=(if_pos hb).symm.trans z
    cases z';subst hb;exact⟨ha,by rw[List.length_map];exact hl,vs,_,rv,ha⟩
   ·have z':=(if_neg hb).symm.trans z
    cases z'
  ·by_cases hb:b=a
   ·exact hb
   ·exact absurd (if_neg hb) z
end L2
namespace L2
open PySem PySem.Spec PyProof.Rows
theorem Je{l:PySem.W.OpenLaw}{n k:Nat}{q:Program}{loose:List Str}{XP:(Str->Option Value)->Heap->Prop}{YP:World->Heap->Prop}{d:DefRec}{K:Params->PySem.W.Frag}{CX:World->zH}{sp:World->Sp}{x:Str}
  (hn:l.most=some n) (ZI:n<=sizeLine) (V8:d.params.defaults=[]) (hr:eg k callerA)
  (hY:∀(w:World) (h:Heap),YP w h->(K w.params).In h)
  (F:∀(w:World) (mg:Str->Option Value) (fa:Addr) (h:Heap),(K w.params).In h->h.Ns mainGlobals mg->mg d.name=some (.ref fa) ->
   ∃fd:FuncData,(∀(s:Shared) (u:Value),BindsTo s fd ⟨[u],[]⟩ [(x,u)]) /\
    ∀base:Heap,(K w.params).In base->base.Ns mainGlobals mg->cn l.prog w (K w.params) mg base (CX w) k fa fd [x] (sp w))
  (J7:∀(w:World) (H:Hp) (a:Addr) (ns:List Int),ns.length<=n->Only H->fF (K w.params) H a (ns.map V.int)->sp w [.ref a] H (λv _=>v=.bl true) λ_ _ _=>False)
  (hCX:∀(w:World) (H:Hp) (s:Shared) (e:Value) (s':Shared),CX w [] H s (λ_ _ _=>False) e s'->False):
  PySem.W.WalkO q loose XP YP l.row.toRowW d [] (λf vs=>PySem.call f vs):=by
 refine Att.ua hn V8 λw c5 bJ mg mb fa o pm cd doc a vs ns G Y ho hd jk hmg NF hints hlen hg=>?_;have KX:=hY w _ Y;obtain⟨fd,hb,hF⟩:=F w mg fa _ KX G.T.g hmg;exact D7 KX G.T.g G.T.b G.T.builtins G.T.nolimit hg NF hints (Nat.le_trans hlen ZI) hr hF hb (λH hO hS=>J7 w H a ns hlen hO hS) λH e s'=>hCX w H bJ e s'
end L2
namespace L2
open PySem PySem.Spec PyProof.Rows
def inClass(s:Stmt)(j:Nat):Stmt:=match s with
 | .ClassDef _ _ _ body _ _ _ _ _ _ _=>body.getD j (.Pass ⟨0,0,0,0⟩)
 | _=>.Pass ⟨0,0,0,0⟩
def aJ(s:Stmt):Arguments:=match s with
 | .FunctionDef _ a _ _ _ _ _ _ _ _=>a
 | _=>{posonlyargs:=[],args:=[],vararg:=none,kwonlyargs:=[],kw_defaults:=[],kwarg:=none,defaults:=[]}
def aq(s:Stmt):List Stmt:=match s with
 | .FunctionDef _ _ b _ _ _ _ _ _ _=>b
 | _=>[]
def ae(s:Stmt):Scope:=match s with
 | .FunctionDef _ _ _ _ _ _ sc _ _ _=>sc
 | _=>{kind:=.function,names:=[],isGenerator:=false,isCoroutine:=false}
abbrev iL:zH:=λ_ _ _ _ _ _=>False
abbrev E0:XK:=λ_ _ _=>False
theorem jX{X:Cx}:Passes iL X E0:=λ_ _ _ _ _ _ _ h=>h.elim
structure A5(K:PySem.W.Frag)(x qual:Str)(st:Stmt)(f:Addr)(fd:FuncData):Prop where
 ex:∃(oc:Value) (od:Option Addr) (kV doc pm:Value) (an:Option Addr) (ik ct:Value) (Kf:Array (Option Value)),
  fd=PySem.W.fnOf x qual (aJ st) (aq st) (ae st) .none kV doc pm an ik ct/\K.lookup f=some ⟨oc,od,.func fd,Kf⟩/\PySem.W.codeIn K ik qual=true
 kp:PySem.W.keepIn K (.ref f)=true
section
variable {P:Program}{w:World}{K:PySem.W.Frag}{mg:Str->Option Value}{base:Heap}
theorem A5.ok{x qual:Str}{st:Stmt}{f:Addr}{fd:FuncData}{N ps:List Str}{k:Nat}{sp:Sp}(F:A5 K x qual st f fd)(S:aC N ps (ae st))(len:∀vs H Q E,sp vs H Q E->vs.length=ps.length)
  (DP:∀(ik:Value) (A:Around) (outer:List Env) (s:Shared) (H:Hp) (vs:List V) (Q:VK) (E:XK),eg k (A.deeper (envOfC qual (ae st) s.heap.objs.size f ik))->sp vs H Q E ->
   ∃t,qI (nc iL P w K mg base N qual (ae st) f ik A outer s H E).HG (aq st) t/\t {nx:=λ_ H'=>Q .aW H',rt:=Q} (start N vs) H):cn P w K mg base iL (k+1) f fd ps sp:=by
 obtain⟨oc,od,kV,doc,pm,an,ik,ct,Kf,rfl,lk,jk⟩:=F.ex;refine VU lk jk S len λA outer s H vs Q E hr J7=>?_;obtain⟨t,h,q⟩:=DP ik A outer s H vs Q E hr J7;exact⟨t,h.HG,q⟩
theorem A5.binds{x qual:Str}{st:Stmt}{f:Addr}{fd:FuncData}{ps:List Str}(F:A5 K x qual st f fd)
  (h:∀(kV doc pm:Value) (an:Option Addr) (ik ct:Value) (us:List Value),us.length=ps.length->bindArgs (PySem.W.fnOf x qual (aJ st) (aq st) (ae st) .none kV doc pm an ik ct) ⟨us,[]⟩=pure (ps.zip us)):Binds K fd ps []:=by
 obtain⟨oc,od,kV,doc,pm,an,ik,ct,Kf,rfl,lk,jk⟩:=F.ex;exact .all (h kV doc pm an ik ct)
theorem aZ{x qual:Str}{st:Stmt}{f:Addr}{oc:Value}{od an:Option Addr}{Kf:Array (Option Value)}{kV doc pm ik ct:Value}(l:K.lookup f=some ⟨oc,od,.func (PySem.W.fnOf x qual (aJ st) (aq st) (ae st) .none kV doc pm an ik ct),Kf⟩)
  (c:PySem.W.codeIn K ik qual=true) (k:PySem.W.keepIn K (.ref f)=true):A5 K x qual st f (PySem.W.fnOf x qual (aJ st) (aq st) (ae st) .none kV doc pm an ik ct):=⟨⟨oc,od,kV,doc,pm,an,ik,ct,Kf,rfl,l,c⟩,k⟩
end
def aj(H H':Hp):Prop:=∀b o,H b=some o->H' b=some o
theorem aj.refl(H:Hp):aj H H:=λ_ _ h=>h
theorem aj.trans{H H1 H2:Hp}(a:aj H H1)(b:aj H1 H2):aj H H2:=λc o h=>b c o (a c o h)
theorem aj.free{H H':Hp}(e:aj H H'){l:Addr}(h:H' l=Option.none):H l=Option.none:=by
 cases q:H l with
 | none=>rfl
 | some o =>
  rw[e l o q]at h;cases h
theorem aj.seq{K:PySem.W.Frag}{H H':Hp}{a:Addr}{xs:List V}(e:aj H H')(h:fF K H a xs):fF K H' a xs:=by
 rcases h with(h|⟨o,h⟩)|h
 ·exact .inl (.inl (e _ _ h))
 ·exact .inl (.inr ⟨o,e _ _ h⟩)
 ·exact .inr h
end L2
namespace L2
open PySem PySem.Spec PyProof.Rows
section
variable {κ:Type}[DecidableEq κ]
def iR(kvs:List (κ×V))(k:κ):Option V:=(kvs.find? λkv=>decide (kv.1=k)).map (·.2)
def putK(kvs:List (κ×V))(k:κ)(v:V):List (κ×V):=
 if(kvs.any λkv=>decide (kv.1=k))=true then kvs.map (λkv=>if kv.1=k then(kv.1,v)else kv)else kvs++[(k,v)]
def lQ(kvs:List (κ×V))(k:κ):List (κ×V):=kvs.filter λkv=>decide (kv.1≠k)
theorem kO{p:κ×V}{r:List (κ×V)}{k:κ}(e:p.1=k):iR (p::r) k=some p.2:=by simp [iR,List.find?_cons,e]
theorem kN{p:κ×V}{r:List (κ×V)}{k:κ}(e:¬p.1=k):iR (p::r) k=iR r k:=by simp [iR,List.find?_cons,e]
theorem wc(k:κ):∀kvs:List (κ×V),(kvs.any λkv=>decide (kv.1=k))=(iR kvs k).isSome
 | []=>rfl
 | p::r=>by
  rw[List.any_cons]
  by_cases e:p.1=k
  ·simp only[kO e,decide_eq_true e,Bool.true_or,Option.isSome_some]
  ·rw[kN e,decide_eq_false e,Bool.false_or];exact wc k r
theorem gZ(kvs:List (κ×V))(k:κ)(v:V):(putK kvs k v).length<=kvs.length+1:=by
 unfold putK
 split
 ·rw[List.length_map];omega
 ·rw[List.length_append,List.length_cons,List.length_nil];omega
theorem gO.k9{o:Option V}{u:Option Value}(r:gO o u):o.isSome=u.isSome:=by
 cases o with
 | none=>cases u with
  | none=>rfl
  | some _=>exact(show False from r).elim
 | some _=>cases u with
  | none=>exact(show False from r).elim
  | some _=>rfl
theorem KV.val{kvs:List (κ×V)}{vs:List (κ×Value)}(r:KV kvs vs)(k:κ):gO (iR kvs k) (valueAt vs k):=by
 unfold KV at r
 induction r with
 | nil=>exact True.intro
 | @cons p q ps qs h t ih =>
  obtain⟨h1,h2⟩:=h
  by_cases e:p.1=k
  ·have e':q.1=k:=h1.symm.trans e
   have b:valueAt (q::qs) k=some q.2:=by simp [valueAt,List.find?_cons,e']
   rw[kO e,b];exact h2
  ·have e':¬q.1=k:=λz=>e (h1.trans z)
   have b:valueAt (q::qs) k=valueAt qs k:=by simp [valueAt,List.find?_cons,e']
   rw[kN e,b];exact ih
theorem KV.any{kvs:List (κ×V)}{vs:List (κ×Value)}(r:KV kvs vs)(k:κ):(kvs.any λkv=>decide (kv.1=k))=vs.any λkv=>decide (kv.1=k):=by
 unfold KV at r
 induction r with
 | nil=>rfl
 | cons h t ih=>rw[List.any_cons,List.any_cons,ih,h.1]
theorem KV.repl{kvs:List (κ×V)}{vs:List (κ×Value)}(r:KV kvs vs)(k:κ){y:V}{u:Value}(ry:RelV y u):
  KV (kvs.map λkv=>if kv.1=k then(kv.1,y)else kv) (vs.map λkv=>if kv.1=k then(kv.1,u)else kv):=by
 unfold KV at r ⊢
 induction r with
 | nil=>exact .nil
 | @cons p q ps qs h t ih =>
  rw[List.map_cons,List.map_cons];refine .cons ?_ ih;obtain⟨h1,h2⟩:=h
  by_cases e:p.1=k
  ·rw[if_pos e,if_pos (h1.symm.trans e)];exact⟨h1,ry⟩
  ·rw[if_neg e,if_neg (λz=>e (h1.trans z))];exact⟨h1,h2⟩
theorem KV.put{kvs:List (κ×V)}{vs:List (κ×Value)}(r:KV kvs vs)(k:κ){y:V}{u:Value}(ry:RelV y u):KV (putK kvs k y) (stored vs k u):=by
 unfold putK stored;rw[r.any k]
 by_cases e:(vs.any λkv=>decide (kv.1=k))=true
 ·rw[if_pos e,if_pos e];exact r.repl k ry
 ·rw[if_neg e,if_neg e];exact Paired.snoc r ⟨rfl,ry⟩
theorem KV.drop{kvs:List (κ×V)}{vs:List (κ×Value)}(r:KV kvs vs)(k:κ):KV (lQ kvs k) (without vs k):=by
 unfold KV at r ⊢;unfold lQ without
 induction r with
 | nil=>exact .nil
 | @cons p q ps qs h t ih =>
  obtain⟨h1,h2⟩:=h;rw[List.filter_cons,List.filter_cons]
  by_cases e:p.1=k
  ·have a:¬decide (p.1≠k)=true:=by simp [e]
   have b:¬decide (q.1≠k)=true:=by simp [h1.symm.trans e]
   rw[if_neg a,if_neg b];exact ih
  ·have e':¬q.1=k:=λz=>e (h1.trans z)
   have a:decide (p.1≠k)=true:=by simp [e]
   have b:decide (q.1≠k)=true:=by simp [e']
   rw[if_pos a,if_pos b];exact .cons ⟨h1,h2⟩ ih
theorem KV.length{kvs:List (κ×V)}{vs:List (κ×Value)}(r:KV kvs vs):kvs.length=vs.length:=Paired.length r
theorem Dc(kvs:List (κ×V))(k:κ):(lQ kvs k).length<=kvs.length:=List.length_filter_le _ _
end
theorem qe{P:Program}{w:World}{k:Key}{u:Value}(r:RelV (kV k) u):(bM P w).is k u=true:=by
 cases k with
 | inl i=>obtain⟨t,e⟩:=(show∃t,u=Value.int i t from r);subst e;exact vo P w i t
 | inr x=>obtain⟨t,e⟩:=(show∃t,u=Value.str x t from r);subst e;exact vp P w x t
theorem qd{P:Program}{w:World}:∀ {ks:List Key} {us:List Value},Vals (ks.map kV) us->ItemsAre (bM P w) ks us
 | [],_,r=>by rw[List.map_nil]at r;cases r;exact .nil
 | k::ks,_,r=>by
  rw[List.map_cons]at r;cases r with
  | cons h t=>exact .cons (qe h) (qd t)
abbrev KT(H:Hp):List (List Key×V)->List (List Key×Addr×Value)->Prop:=Paired λp q=>p.1=q.1/\H q.2.1=some (.tup (p.1.map kV))/\RelV p.2 q.2.2
theorem KT.val{H:Hp}{kvs:List (List Key×V)}{xs:List (List Key×Addr×Value)}(r:KT H kvs xs)(k:List Key):gO (iR kvs k) ((atKey xs k).map (·.2)):=by
 induction r with
 | nil=>exact True.intro
 | @cons p q ps qs h t ih =>
  obtain⟨h1,_,h2⟩:=h
  by_cases e:p.1=k
  ·have e':q.1=k:=h1.symm.trans e
   have b:atKey (q::qs) k=some q.2:=by simp [atKey,List.find?_cons,e']
   rw[kO e,b];exact h2
  ·have e':¬q.1=k:=λz=>e (h1.trans z)
   have b:atKey (q::qs) k=atKey qs k:=by simp [atKey,List.find?_cons,e']
   rw[kN e,b];exact ih
theorem KT.repl{H:Hp}{kvs:List (List Key×V)}{xs:List (List Key×Addr×Value)}(r:KT H kvs xs)(k:List Key){y:V}{u:Value}(ry:RelV y u):
  KT H (kvs.map λkv=>if kv.1=k then(kv.1,y)else kv) (xs.map (putAt k u)):=by
 induction r with
 | nil=>exact .nil
 | @cons p q ps qs h t ih =>
  rw[List.map_cons,List.map_cons];refine .cons ?_ ih;obtain⟨h1,h2,h3⟩:=h;unfold putAt
  by_cases e:p.1=k
  ·rw[if_pos e,if_pos (h1.symm.trans e)];exact⟨h1,h2,ry⟩
  ·rw[if_neg e,if_neg (λz=>e (h1.trans z))];exact⟨h1,h2,h3⟩
theorem KT.put{H:Hp}{kvs:List (List Key×V)}{xs:List (List Key×Addr×Value)}(r:KT H kvs xs)(k:List Key){b:Addr}{y:V}{u:Value}(hb:H b=some (.tup (k.map kV)))(ry:RelV y u):
  KT H (putK kvs k y) (storedH xs k b u):=by
 have e:(kvs.any λkv=>decide (kv.1=k))=(atKey xs k).isSome:=by
  rw[wc,(r.val k).k9,Option.isSome_map]
 unfold putK storedH;rw[e]
 by_cases q:(atKey xs k).isSome=true
 ·rw[if_pos q,if_pos q];exact r.repl k ry
 ·rw[if_neg q,if_neg q];exact Paired.snoc r ⟨rfl,hb,ry⟩
theorem KT.keeps{H H':Hp}{kvs:List (List Key×V)}{xs:List (List Key×Addr×Value)}(r:KT H kvs xs)(ht:∀b ys,H b=some (.tup ys)->H' b=some (.tup ys)):KT H' kvs xs:=
 Paired.Hv r λ_ _ z=>⟨z.1,ht _ _ z.2.1,z.2.2⟩
section
variable {P:Program}{w:World}{H:Hp}{h:Heap}{a:Addr}
theorem Kn{u:HO}(ok:ig P w H h)(e:Rd H a u):bQ P w H h a u:=e.ok ok
theorem iX{kvs:List (Key×V)}(ok:ig P w H h)(e:Rd H a (.dK kvs)):kvs.length<=sizeLine/\(a==sysModules)=false/\∃vs,KV kvs vs/\h.DictOf (bM P w) a vs:=
 show bQ P w H h a (.dK kvs)from Kn ok e
theorem C8{kvs:List (Key×V)}(ok:ig P w H h)(e:H a=some (.dK kvs)):kvs.length<=sizeLine/\(a==sysModules)=false/\∃vs,KV kvs vs/\h.DictOf (bM P w) a vs:=iX ok (.inl e)
theorem rM{ks:List Key}(ok:ig P w H h)(e:H a=some (.tup (ks.map kV))):(tupleKind (bM P w)).is h ks a:=by
 obtain⟨_,its,r,o,h1,h2,n,h3⟩:=(show bQ P w H h a (.tup (ks.map kV))from ok a _ e)
 exact⟨o,its.toArray,n,h1,h2,h3,by simpa using qd r⟩
theorem uA{kvs:List (List Key×V)}(ok:ig P w H h)(e:Rd H a (.dT kvs)):kvs.length<=sizeLine/\(a==sysModules)=false /\
  ∃xs,KT H kvs xs/\h.DictOfH (tupleKind (bM P w)) a xs:=by
 obtain⟨z,y,xs,r,o,es,ep,h1,h2,h3,h4,h5⟩:=(show bQ P w H h a (.dT kvs)from Kn ok e)
 refine⟨z,y,xs,r,o,es,ep,h1,h2,h3,h4,λx hx=>?_,h5⟩;have all:∀ {l:List (List Key×V)} {m:List (List Key×Addr×Value)},KT H l m->∀x∈m,(tupleKind (bM P w)).is h x.1 x.2.1:=by
  intro l m q
  induction q with
  | nil=>intro x hx;exact nomatch hx
  | @cons p q ps qs hq t ih =>
   intro x hx;rcases List.mem_cons.mp hx with e|hx
   ·subst e
    exact rM ok (by rw[<- hq.1];exact hq.2.1)
   ·exact ih x hx
 exact all r x hx
theorem U9{kvs:List (List Key×V)}(ok:ig P w H h)(e:H a=some (.dT kvs)):kvs.length<=sizeLine/\(a==sysModules)=false /\
  ∃xs,KT H kvs xs/\h.DictOfH (tupleKind (bM P w)) a xs:=uA ok (.inl e)
end
def zJ(H:Hp)(a:Addr)(y:V)(r:Option V):Prop:=
 (∃kvs k,Rd H a (.dK kvs)/\y=kV k/\r=iR kvs k)\/∃kvs k b,Rd H a (.dT kvs)/\y=.ref b/\H b=some (.tup (k.map kV))/\r=iR kvs k
def GK(H:Hp)(a:Addr)(y v:V)(H':Hp):Prop:=
 (∃kvs k,H a=some (.dK kvs)/\y=kV k/\kvs.length<sizeLine/\H'=upd H a (.dK (putK kvs k v))) \/
 ∃kvs k b,H a=some (.dT kvs)/\y=.ref b/\H b=some (.tup (k.map kV))/\kvs.length<sizeLine/\H'=upd H a (.dT (putK kvs k v))
theorem GK.k{H:Hp}{a:Addr}{kvs:List (Key×V)}{k:Key}{v:V}(e:H a=some (.dK kvs))(hl:kvs.length<sizeLine):GK H a (kV k) v (upd H a (.dK (putK kvs k v))):=.inl ⟨kvs,k,e,rfl,hl,rfl⟩
section
variable {X:Cx}{pins:List (Addr×Obj)}{σ:St}{H:Hp}{s:Shared}{a:Addr}{y v:V}{u r:Value}{o:Option V}{A:Around}{E:Value->Shared->Prop}
theorem Inv.big(I:Inv X pins σ H s):sysModules<s.heap.objs.size:=by
 have h:mainGlobals<s.heap.objs.size:=(I.mod.glob.keeps I.bk).lt;exact Nat.lt_trans ∅ h
theorem zU{Q:Value->Shared->Prop}(hu:A.units+1<cLine)(I:Inv X pins σ H s)(g:zJ H a y (some v))(ry:RelV y u)(h:∀w' s',Inv X pins σ H s'->RelV v w'->Q w' s'):
  wpAny (model X.prog X.w) A (getItem (.ref a) u) Q E s:=by
 rcases g with⟨kvs,k,e,ey,l⟩|⟨kvs,k,b,e,ey,eb,l⟩
 ·subst ey
  obtain⟨z,hd,vs,rel,dd⟩:=iX I.bL e;obtain⟨w',hw,tU⟩:=gO.some_of (v:=v) (o:=valueAt vs k) (by rw[l];exact rel.val k)
  exact wpAny_getItem_of (qe ry) dd.mapOf hw (h w' _ (I.tok _) tU)
 ·subst ey
  cases(show u=Value.ref b from ry)
  obtain⟨z,hd,xs,rel,dd⟩:=uA I.bL e;obtain⟨w',hw,tU⟩:=gO.some_of (v:=v) (o:=(atKey xs k).map (·.2)) (by rw[l];exact rel.val k)
  obtain⟨p,hp,TH⟩:=Option.map_eq_some_iff.mp hw;refine wpAny_getItem_heap (tupleKind_room_in1 hu) (rM I.bL eb) dd hp ?_;rw[TH];exact h w' _ (I.tok _) tU
theorem G3{Q:Value->Shared->Prop}(hu:A.units+1<cLine)(I:Inv X pins σ H s)(g:zJ H a y o)(ry:RelV y u)(h:∀s',Inv X pins σ H s'->Q (.bool (!o.isSome)) s'):
  wpAny (model X.prog X.w) A (compareOp .NotIn u (.ref a)) Q E s:=by
 rcases g with⟨kvs,k,e,ey,l⟩|⟨kvs,k,b,e,ey,eb,l⟩
 ·subst ey
  obtain⟨z,hd,vs,rel,dd⟩:=iX I.bL e;refine wpAny_notIn_of (qe ry) hd dd.mapOf ?_;rw[<- (rel.val k).k9,<- l];exact h _ (I.tok _)
 ·subst ey
  cases(show u=Value.ref b from ry)
  obtain⟨z,hd,xs,rel,dd⟩:=uA I.bL e;refine wpAny_notIn_heap (tupleKind_room_in1 hu) (rM I.bL eb) hd dd ?_;have q:=(rel.val k).k9;rw[Option.isSome_map]at q;rw[<- q,<- l];exact h _ (I.tok _)
theorem qV{h':Heap}{t':Nat}{ob:HO}(I:Inv X pins σ H s)(mu:Um (H a))(hs:Heap.SameBut a s.heap h')(he:∃q,h'.get? a=some q)(new:bQ X.prog X.w (upd H a ob) h' a ob):
  Inv X pins σ (upd H a ob) {s with heap:=h',toks:=t'}:=
 I.write (x:=a) (e:=a) mu (.inl rfl) (λb q hb z=>(hs.2 b hb).trans z) he new
theorem C7{P:Program}{w:World}{H':Hp}{h':Heap}{kvs:List (Key×V)}{vs:List (Key×Value)}(z:kvs.length<=sizeLine)(hd:(a==sysModules)=false)(rel:KV kvs vs)(dd:h'.DictOf (bM P w) a vs):
  bQ P w H' h' a (.dK kvs):=⟨z,hd,vs,rel,dd⟩
theorem zV{H':Hp}{Q:Unit->Shared->Prop}(hu:A.units+1<cLine)(I:Inv X pins σ H s)(g:GK H a y v H')(ry:RelV y u)(rv:RelV v r)(h:∀s',Inv X pins σ H' s'->Q () s'):
  wpAny (model X.prog X.w) A (setItem (.ref a) u r) Q E s:=by
 rcases g with⟨kvs,k,e,ey,l,eH⟩|⟨kvs,k,b,e,ey,eb,l,eH⟩
 ·subst ey eH
  obtain⟨z,hd,vs,rel,dd⟩:=C8 I.bL e;have hz:vs.length<=sizeLine:=by rw[<- rel.length];exact z
  have hl:(putK kvs k v).length<=sizeLine:=by have:=gZ kvs k v;omega
  refine wpAny_setItem_pairs (hsz:=hz) (qe ry) dd λh' MK hs=>h _ ?_;have he:∃q,h'.get? a=some q:=let ⟨q,_,_,hq,_⟩:=MK;⟨q,hq⟩;exact qV I (by rw[e];exact True.intro) hs he (C7 hl hd (rel.put k rv) MK)
 ·subst ey eH
  cases(show u=Value.ref b from ry)
  obtain⟨z,hd,xs,rel,dd⟩:=U9 I.bL e;have hz:xs.length<=sizeLine:=by rw[<- Paired.length rel];exact z
  have hl:(putK kvs k v).length<=sizeLine:=by have:=gZ kvs k v;omega
  refine wpAny_setItem_heap (hsz:=hz) (tupleKind_room_in1 hu) (rM I.bL eb) dd λh' MK hs=>h _ ?_;obtain⟨q,es,ep,hq,h2,h3,h4,_,h5⟩:=MK;refine qV I (by rw[e];exact True.intro) hs ⟨q,hq⟩ ⟨hl,hd,_,(rel.put k eb rv).keeps λc ys ec=>?_,q,es,ep,hq,h2,h3,h4,h5⟩
  rw[ai (fo ec e (λz=>nomatch z))];exact ec
end
section
variable {X:Cx}{pins:List (Addr×Obj)}{σ:St}{H:Hp}{s:Shared}{a:Addr}{kvs:List (Key×V)}{k:Key}{u:Value}{A:Around}{E:Value->Shared->Prop}
theorem UY{v:V}{more:List Value}{Q:Value->Shared->Prop}(I:Inv X pins σ H s)(e:H a=some (.dK kvs))(ry:RelV (kV k) u)(l:iR kvs k=some v)(hm:more=[]\/∃x,more=[x])
  (h:∀w' s',Inv X pins σ (upd H a (.dK (lQ kvs k))) s'->RelV v w'->Q w' s'):wpAny (model X.prog X.w) A (call (.builtin "dict.pop") (.ref a::u::more)) Q E s:=by
 obtain⟨z,hd,vs,rel,dd⟩:=C8 I.bL e;obtain⟨w',hw,tU⟩:=gO.some_of (v:=v) (o:=valueAt vs k) (by rw[<- l];exact rel.val k)
 have hp:(keyPart u).isSome=true:=by
  cases k with
  | inl i=>obtain⟨t,q⟩:=(show∃t,u=Value.int i t from ry);subst q;rfl
  | inr x=>obtain⟨t,q⟩:=(show∃t,u=Value.str x t from ry);subst q;rfl
 have ha:argsOk "dict.pop" ⟨.ref a::u::more,[]⟩:=by
  rcases hm with q|⟨x,q⟩
  ·subst q;exact PySem.F.args_dict_pop_2 _ _
  ·subst q;exact PySem.F.args_dict_pop_3 _ _ _
 refine call_meetsIn PySem.F.slot_dict_pop dd.typeIs PySem.F.entry_dict_pop ha (meets_dict_pop_there (bM X.prog X.w) a (qe ry) more hm hp)
  ⟨vs,w',dd,by rw[<- rel.length];exact z,hw,λh' MK hs=>h w' _ ?_ tU⟩
 have he:∃q,h'.get? a=some q:=let ⟨q,_,_,hq,_⟩:=MK;⟨q,hq⟩;exact qV I (by rw[e];exact True.intro) hs he (C7 (Nat.le_trans (Dc kvs k) z) hd (rel.drop k) MK)
theorem UX{Q:Value->Shared->Prop}(I:Inv X pins σ H s)(e:Rd H a (.dK kvs))(h:∀t s',Inv X pins σ H s'->Q (.int kvs.length t) s'):wpAny (model X.prog X.w) A (call (.builtin "len") [.ref a]) Q E s:=by
 obtain⟨z,hd,vs,rel,dd⟩:=iX I.bL e;refine call_len_dict hd dd (by rw[<- rel.length];rw[sizeLine_eq]at z;omega) ?_
 rw[<- rel.length];exact h _ _ (I.tok _)
end
def KN(i:Expr):Prop:=∀ov iv,subscripted i false ov iv=operate [ov,iv] (getItem ov iv)
theorem IK{prog:Program}{w:World}{A:Around}{E:Value->Shared->Prop}{s:Shared}{env:Env}{value slice:Expr}{pos:Pos}{T id:String}{Q:Value->Shared->Prop}
  (hl:typeLookup (.type T) "__getitem__"=pure (some (.builtin id))) (hs:KN slice)
  (h:wpAny (model prog w) A (eval value env) (λo bJ=>wpAny (model prog w) A (eval slice env) (λi tH=>tH.TypeIs o T/\wpAny (model prog w) A (getItem o i) Q E tH) E bJ) E s):
  wpAny (model prog w) A (eval (.Subscript value slice pos) env) Q E s:=by
 refine Subscript_ (wpAny_mono h (λo bJ Am=>wpAny_mono Am (λi tH DV=>?_) λ_ _ x=>x) λ_ _ x=>x);obtain⟨hT,DV⟩:=DV;unfold subscriptTail;refine wpAny_bind ?_;rw[getitemInPython_of_ne hT.not_modules];refine wpAny_bind (wpAny_specialOf hT hl ?_);have fin:wpAny (model prog w) A (subscripted slice false o i) (λr vY=>wpAny (model prog w) A (letTemporaryGo value o r >>= λ_=>pure r) Q E vY) E tH:=by
  rw[hs o i];exact wpAny_operating (wpAny_mono DV (λr vY Hf=>wpAny_bind (wpAny_letTemporaryGo (wpAny_pure Hf))) λ_ _ x=>x)
 first
  | exact wpAny_pure (wpAny_bind fin)
  | exact wpAny_bind (wpAny_pure (wpAny_bind fin))
  | exact wpAny_bind fin
theorem ux{X:Cx}{pins:List (Addr×Obj)}{σ:St}{H:Hp}{s:Shared}{a:Addr}{y:V}{o:Option V}(I:Inv X pins σ H s)(g:zJ H a y o):s.TypeIs (.ref a) "dict":=by
 rcases g with⟨kvs,k,e,_,_⟩|⟨kvs,k,b,e,_,_,_⟩
 ·obtain⟨_,_,vs,_,dd⟩:=iX I.bL e
  exact dd.typeIs
 ·obtain⟨_,_,xs,_,dd⟩:=uA I.bL e
  exact dd.typeIs
def YY(td ty:TE):TE:=λσ H Q=>td σ H λx H1=>ty σ H1 λy H2=>∃a v,x=.ref a/\zJ H2 a y (some v)/\Q v H2
def Yq(td ty tv:TE):TS:=λD σ H=>tv σ H λv H1=>td σ H1 λx H2=>ty σ H2 λy H3=>∃a H4,x=.ref a/\GK H3 a y v H4/\D.nx σ H4
section
variable {X:Cx}{o i e value:Expr}{pos pos' xZ:Pos}{td ty tv:TE}
theorem Ib(hu:X.A.units+1<cLine)(ho:PE X o td)(hi:PE X i ty)(hs:KN i):PE X (.Subscript o i pos) (YY td ty):=by
 intro pins s σ H Q I h;refine IK PySem.F.slot_dict_getitem.lookup hs (cm (ho pins s σ H _ I h) λu s1 ⟨x,H1,I1,rx,q1⟩=>cm (hi pins s1 σ H1 _ I1 q1) λiv s2 ⟨y,H2,I2,ry,a,v,ex,g,q2⟩=>?_);subst ex;obtain rfl:u=Value.ref a:=rx;exact⟨ux I2 g,zU hu I2 g ry λw' s3 I3 tU=>⟨v,H2,I3,tU,q2⟩⟩
theorem y9(hu:X.A.units+1<cLine)(ho:PE X o td)(hi:PE X i ty)(hv:PE X value tv)(hs:swapsWith value (some (.Subscript o i pos')) pos.line X.env=pure false):
  PS X (.Assign [.Subscript o i pos'] value pos) (Yq td ty tv):=by
 intro pins s σ H D I h;refine wpAny_Assign_Subscript (cm (hv pins s σ H _ I h) λr s1 ⟨v,H1,I1,rv,q1⟩=>cm (ho pins s1 σ H1 _ I1 q1) λu s2 ⟨x,H2,I2,rx,q2⟩=>cm (hi pins s2 σ H2 _ I2 q2) λiv s3 ⟨y,H3,I3,ry,a,H4,ex,g,q3⟩=>?_) hs;subst ex;obtain rfl:u=Value.ref a:=rx;exact zV hu I3 g ry rv λs4 I4=>⟨σ,H4,I4,q3⟩
end
theorem C6{P:Program}{w:World}{H:Hp}(h:Heap)(hb:sysModules<h.objs.size):bQ P w H (h.push {cls:=.type "dict",data:=.dict #[]}) h.objs.size (.dK []):=
 ⟨Nat.zero_le _,beq_eq_false_iff_ne.mpr (Ne.symm (Nat.ne_of_lt hb)),[],.nil,Heap.DictOf.new h⟩
def Fu:TE:=λ_ H Q=>∀p,H p=none->Q (.ref p) (upd H p (.dK []))
section
variable {X:Cx}{pos:Pos}
theorem n9:PE X (.Dict [] [] pos) Fu:=λpins s σ H Q I h =>
 wpAny_Dict_empty ⟨.ref s.heap.objs.size,_,I.laid (a:=s.heap.objs.size) (o:=.dK []) (t':=s.toks) (λ_ _ q=>Heap.get?_push_of_some _ q) (Nat.le_refl _) (C6 s.heap I.big),rfl,h _ (I.bL.fresh (Nat.le_refl _))⟩
end
def tJ:List (TE×TE)->St->Hp->(List (V×V)->Hp->Prop)->Prop
 | [],_,H,Q=>Q [] H
 | (tk,tv)::r,σ,H,Q=>tk σ H λx H1=>tv σ H1 λy H2=>tJ r σ H2 λps H3=>Q ((x,y)::ps) H3
def jq(kvs more:List (Key×V)):List (Key×V):=more.foldl (λacc kv=>putK acc kv.1 kv.2) kvs
theorem KV.merge:∀ {more:List (Key×V)} {rs:List (Key×Value)} {kvs:List (Key×V)} {vs:List (Key×Value)},KV more rs->KV kvs vs->KV (jq kvs more) (merged vs rs):=by
 intro more rs kvs vs r;unfold KV at r
 induction r generalizing kvs vs with
 | nil=>intro q;exact q
 | @cons p q ps qs h t ih =>
  intro r0;have e:KV (putK kvs p.1 p.2) (stored vs q.1 q.2):=by
   have:=r0.put p.1 h.2;rw[<- h.1];exact this
  exact ih e
theorem iY:∀(more kvs:List (Key×V)),(jq kvs more).length<=kvs.length+more.length
 | [],kvs=>by show kvs.length<=kvs.length+0;omega
 | p::r,kvs=>by
  have h1:=iY r (putK kvs p.1 p.2);have h2:=gZ kvs p.1 p.2;show(jq (putK kvs p.1 p.2) r).length<=_;rw[List.length_cons];omega
structure M1(X:Cx)(o:Expr)(m:Str)(apos:Pos)(e:Expr)(cpos:Pos):Prop where
 base:attributeBase o m X.env (eval o X.env)=eval o X.env
 few:((backTo cpos (starEach [e] X.env)).all (λx=>!x.1)&&(backToKw cpos (keywordEach [] X.env)).all (λx=>x.1.isSome)
 &&decide (([e]:List Expr).length+([]:List Keyword).length+(if([]:List Keyword).isEmpty then 0 else 1)<30))=true
 line:(apos.endLine==cpos.line)=true
 trees:backTo cpos (starEach [e] X.env)=[(false,eval e X.env)]
def IsD(H:Hp)(a:Addr):Prop:=(∃kvs,Rd H a (.dK kvs))\/∃kvs,Rd H a (.dT kvs)
theorem DY{X:Cx}{pins:List (Addr×Obj)}{σ:St}{H:Hp}{s:Shared}{a:Addr}(I:Inv X pins σ H s)(d:IsD H a):
  s.TypeIs (.ref a) "dict"/\(∀b,Value.ref a=.ref b->∃ob,s.heap.get? b=some ob/\ob.dict=none)/\(a==sysModules)=false:=by
 rcases d with⟨kvs,e⟩|⟨kvs,e⟩
 ·obtain⟨_,hd,vs,_,dd⟩:=iX I.bL e
  refine⟨dd.typeIs,λb q=>?_,hd⟩;cases q;obtain⟨ob,_,_,h1,h2,_⟩:=dd;exact⟨ob,h1,h2.2.1⟩
 ·obtain⟨_,hd,xs,_,dd⟩:=uA I.bL e
  refine⟨dd.typeIs,λb q=>?_,hd⟩;cases q;obtain⟨ob,_,_,h1,h2,_⟩:=dd;exact⟨ob,h1,h2.2.1⟩
def SK(td ty:TE):TE:=λσ H Q=>td σ H λx H1=>∃a,x=.ref a/\IsD H1 a/\ty σ H1 λy H2=>∃kvs k v,H2 a=some (.dK kvs)/\y=kV k/\iR kvs k=some v/\Q v (upd H2 a (.dK (lQ kvs k)))
section
variable {X:Cx}{o e f:Expr}{apos cpos:Pos}{td ty tx:TE}
theorem Ew(ho:PE X o td)(he:PE X e ty)(m:M1 X o "pop" apos e cpos):PE X (.Call (.Attribute o "pop" apos) [e] [] cpos) (SK td ty):=by
 intro pins s σ H Q I h;refine wpAny_Call_method m.base m.few m.line PySem.F.plainAttrs_dict PySem.F.slot_dict_pop PySem.F.type_dict_pop (cm (ho pins s σ H _ I h) λu s1 ⟨x,H1,I1,rx,a,ex,d,q1⟩=>?_);subst ex;obtain rfl:u=Value.ref a:=rx;obtain⟨t1,t2,_⟩:=DY I1 d;refine⟨t1,t2,?_⟩;rw[m.trees];refine Calls.callWith_builtin rfl (Calls.evalArgs_plain (Calls.spliced_cons (cm (he pins s1 σ H1 _ I1 q1) λiv s2 ⟨y,H2,I2,ry,kvs,k,v,ea,ey,l,q2⟩=>Calls.spliced_nil ?_)));subst ey;exact UY I2 ea ry l (.inl rfl) λw' s3 I3 tU=>⟨v,_,I3,tU,q2⟩
end
end L2
namespace Vc
open PySem L2
class KF where
 K:PySem.W.Frag
 /-- where the classes of exceptions stand -/
 cls:Str->Addr:=λ_=>0
 /-- the code tables that a lambda fills: where,as they were,the lambda's place,its name -/
 tabs:List (Addr×Array Value×Pos×Str):=[]
variable [KF]
inductive D where
 | aW|bl (b:Bool)|int (i:Int)|str (x:Str)|tup (xs:List D)|lst (xs:List D)|dct (kvs:List (D×D))|exc (c:Str)
 /-- the law's own list: read,never changed -/
 | i3 (ns:List Int)
 /-- a dict with whole numbers for keys -/
 | dW (kvs:List (Int×D))
 /-- kept points: the word,the count,the next name,the points by their names -/
 | kp (w:Str) (c e:Int) (kvs:List (Int×D))
def MO(a:Addr)(c:Str):HO:=.ext λh=>∃o,h.get? a=some o/\o.cls=.ref (KF.cls c)
def kD:Key->D
 | .inl i=>.int i
 | .inr x=>.str x
def GD(w:Str)(c e:Int)(ad:Addr):List (Str×V):=[("way",.str w),("count",.int c),("points_by_name",.ref ad),("ever_put",.int e)]
mutual
inductive Rep (F:Hp):V->D->Prop where
 | aW:Rep F .aW .aW
 | bl (b:Bool):Rep F (.bl b) (.bl b)
 | int (i:Int):Rep F (.int i) (.int i)
 | str (x:Str):Rep F (.str x) (.str x)
 | tup {a:Addr} {vs:List V} {ds:List D}:F a=some (.tup vs)->ay F vs ds->Rep F (.ref a) (.tup ds)
 | lst {a:Addr} {vs:List V} {ds:List D}:Rd F a (.lst vs)->ay F vs ds->Rep F (.ref a) (.lst ds)
 | i3 {a:Addr} {ns:List Int}:fF KF.K F a (ns.map V.int)->Rep F (.ref a) (.i3 ns)
 | exc {a:Addr} {c:Str}:F a=some (MO a c)->Rep F (.ref a) (.exc c)
 | zW {a:Addr} {ks:List (List Key×V)} {kvs:List (D×D)}:F a=some (.dT ks)->jx F ks kvs->Rep F (.ref a) (.dct kvs)
 | dW {a:Addr} {ks:List (Key×V)} {kvs:List (Int×D)}:Rd F a (.dK ks)->bu F ks kvs->Rep F (.ref a) (.dW kvs)
 | kp {a dx ad:Addr} {w:Str} {c e:Int} {ks:List (Key×V)} {kvs:List (Int×D)}:F a=some (.ins (KF.cls "Kept") dx (GD w c e ad))->Rd F ad (.dK ks)->bu F ks kvs->Rep F (.ref a) (.kp w c e kvs)
inductive bu (F:Hp):List (Key×V)->List (Int×D)->Prop where
 | nil:bu F [] []
 | cons {i:Int} {v:V} {d:D} {ks:List (Key×V)} {kvs:List (Int×D)}:Rep F v d->bu F ks kvs->bu F ((.inl i,v)::ks) ((i,d)::kvs)
inductive wD (F:Hp):List (Key×V)->List (D×D)->Prop where
 | nil:wD F [] []
 | cons {k:Key} {v:V} {d:D} {ks:List (Key×V)} {kvs:List (D×D)}:Rep F v d->wD F ks kvs->wD F ((k,v)::ks) ((kD k,d)::kvs)
inductive jx (F:Hp):List (List Key×V)->List (D×D)->Prop where
 | nil:jx F [] []
 | cons {k:List Key} {v:V} {d:D} {ks:List (List Key×V)} {kvs:List (D×D)}:Rep F v d->jx F ks kvs->jx F ((k,v)::ks) ((.tup (k.map kD),d)::kvs)
inductive ay (F:Hp):List V->List D->Prop where
 | nil:ay F [] []
 | cons {v:V} {d:D} {vs:List V} {ds:List D}:Rep F v d->ay F vs ds->ay F (v::vs) (d::ds)
end
theorem Rd.mono{F F':Hp}(s:aj F F'){a:Addr}{u:HO}(h:Rd F a u):Rd F' a u:=by
 rcases h with h|⟨o,h⟩
 ·exact .inl (s a _ h)
 ·exact .inr ⟨o,s a _ h⟩
mutual
theorem Rep.mono{F F':Hp}(s:aj F F'){v:V}{d:D}:Rep F v d->Rep F' v d
 | .aW=>.aW
 | .bl b=>.bl b
 | .int i=>.int i
 | .str x=>.str x
 | .tup h r=>.tup (s _ _ h) (ay.mono s r)
 | .lst h r=>.lst (Rd.mono s h) (ay.mono s r)
 | .i3 h=>.i3 (s.seq h)
 | .exc h=>.exc (s _ _ h)
 | .zW h r=>.zW (s _ _ h) (jx.mono s r)
 | .dW h r=>.dW (Rd.mono s h) (bu.mono s r)
 | .kp h1 h2 r=>.kp (s _ _ h1) (Rd.mono s h2) (bu.mono s r)
theorem bu.mono{F F':Hp}(s:aj F F'){ks:List (Key×V)}{kvs:List (Int×D)}:bu F ks kvs->bu F' ks kvs
 | .nil=>.nil
 | .cons h r=>.cons (Rep.mono s h) (bu.mono s r)
theorem wD.mono{F F':Hp}(s:aj F F'){ks:List (Key×V)}{kvs:List (D×D)}:wD F ks kvs->wD F' ks kvs
 | .nil=>.nil
 | .cons h r=>.cons (Rep.mono s h) (wD.mono s r)
theorem jx.mono{F F':Hp}(s:aj F F'){ks:List (List Key×V)}{kvs:List (D×D)}:jx F ks kvs->jx F' ks kvs
 | .nil=>.nil
 | .cons h r=>.cons (Rep.mono s h) (jx.mono s r)
theorem ay.mono{F F':Hp}(s:aj F F'){vs:List V}{ds:List D}:ay F vs ds->ay F' vs ds
 | .nil=>.nil
 | .cons h r=>.cons (Rep.mono s h) (ay.mono s r)
end
theorem ay.length{F:Hp}:∀ {vs:List V} {ds:List D},ay F vs ds->vs.length=ds.length
 | _,_,.nil=>rfl
 | _,_,.cons _ r=>by simp [ay.length r]
theorem ay.append{F:Hp}:∀ {vs ws:List V} {ds es:List D},ay F vs ds->ay F ws es->ay F (vs++ws) (ds++es)
 | _,_,_,_,.nil,s=>s
 | _,_,_,_,.cons h r,s=>.cons h (ay.append r s)
theorem ay.get{F:Hp}:∀ {vs:List V} {ds:List D} {i:Nat} {d:D},ay F vs ds->ds[i]?=some d->∃v,vs[i]?=some v/\Rep F v d
 | _,_,_,_,.nil,e=>by simp at e
 | _,_,0,_,.cons h _,e=>by simp at e;subst e;exact⟨_,by simp,h⟩
 | _,_,i+1,_,.cons _ r,e=>by
  obtain⟨v,h1,h2⟩:=ay.get (i:=i) r (by simpa using e)
  exact⟨v,by simpa using h1,h2⟩
theorem ay.get'{F:Hp}:∀ {vs:List V} {ds:List D} {i:Nat} {v:V},ay F vs ds->vs[i]?=some v->∃d,ds[i]?=some d/\Rep F v d
 | _,_,_,_,.nil,e=>by simp at e
 | _,_,0,_,.cons h _,e=>by simp at e;subst e;exact⟨_,by simp,h⟩
 | _,_,i+1,_,.cons _ r,e=>by
  obtain⟨v,h1,h2⟩:=ay.get' (i:=i) r (by simpa using e)
  exact⟨v,by simpa using h1,h2⟩
theorem ay.set{F:Hp}{v:V}{d:D}(h:Rep F v d):∀ {vs:List V} {ds:List D} (i:Nat),ay F vs ds->ay F (vs.set i v) (ds.set i d)
 | _,_,_,.nil=>.nil
 | _,_,0,.cons _ t=>.cons h t
 | _,_,i+1,.cons q t=>.cons q (ay.set h i t)
theorem ay.take{F:Hp}:∀ {vs:List V} {ds:List D} (n:Nat),ay F vs ds->ay F (vs.take n) (ds.take n)
 | _,_,0,_=>.nil
 | _,_,_+1,.nil=>.nil
 | _,_,n+1,.cons h r=>.cons h (ay.take n r)
theorem ay.drop{F:Hp}:∀ {vs:List V} {ds:List D} (n:Nat),ay F vs ds->ay F (vs.drop n) (ds.drop n)
 | _,_,0,r=>r
 | _,_,_+1,.nil=>.nil
 | _,_,n+1,.cons _ r=>ay.drop n r
theorem ay.rep{F:Hp}{vs:List V}{ds:List D}(r:ay F vs ds):∀n:Nat,ay F (List.replicate n vs).flatten (List.replicate n ds).flatten
 | 0=>.nil
 | n+1=>by
  rw[List.replicate_succ,List.replicate_succ,List.flatten_cons,List.flatten_cons];exact r.append (ay.rep r n)
def cA(F H:Hp)(v:V)(d:D):Prop:=match d with
 | .lst xs=>∃a vs,v=.ref a/\Rd H a (.lst vs)/\ay F vs xs
 | .dW kvs=>∃a ks,v=.ref a/\Rd H a (.dK ks)/\bu F ks kvs
 | .kp w c e kvs=>∃a dx ad ks,v=.ref a/\H a=some (.ins (KF.cls "Kept") dx (GD w c e ad))/\Rd H ad (.dK ks)/\bu F ks kvs
 | d=>Rep F v d
theorem aD{H:Hp}{p:Addr}{o:HO}(h:H p=none):aj H (upd H p o):=λb u e=>by
 rw[ai (aP e h)];exact e
theorem jj{F H:Hp}(s:aj F H){a:Addr}{o:HO}(e:H a=some o):∃F',aj F F'/\aj F' H/\F' a=some o/\∀c u,F' c=some u->F c=some u\/(c=a/\u=o):=by
 cases ef:F a with
 | none =>
  refine⟨upd F a o,aD ef,λb u q=>?_,au,λc u q=>?_⟩
  ·by_cases hb:b=a
   ·subst hb;rw[au]at q;cases q;exact e
   ·rw[ai hb]at q;exact s b u q
  ·by_cases hb:c=a
   ·subst hb;rw[au]at q;cases q;exact .inr ⟨rfl,rfl⟩
   ·rw[ai hb]at q;exact .inl q
 | some u =>
  have:=s a u ef;rw[e]at this;cases this;exact⟨F,aj.refl _,s,ef,λ_ _ z=>.inl z⟩
def dl:HO->Bool
 | .dK _=>true
 | .ins _ _ _=>true
 | _=>false
structure O where
 fp:Addr->List Addr
 rep:Hp->Hp->Addr->Prop
 solid:∀ {F H:Hp} {a b:Addr} {φ:Heap->Prop},rep F H a->b∈fp a->H b≠some (.ext φ)
 nt:∀ {F H:Hp} {a b:Addr} {vs:List V},rep F H a->b∈fp a->H b≠some (.tup vs)
 mono:∀ {F F' H H':Hp} {a:Addr},aj F F'->(∀b∈fp a,H' b=H b)->rep F H a->rep F' H' a
 /-- what it is as data,where it is that -/
 view:Option D:=none
 sees:∀ {F H:Hp} {a:Addr} {d:D},rep F H a->view=some d->cA F H (.ref a) d:=by intro _ _ _ _ _ e;cases e
 lend:∀ {F H:Hp} {a:Addr} {d:D},aj F H->rep F H a->view=some d->∃F',aj F F'/\aj F' H/\Rep F' (.ref a) d/\∀c u,F' c=some u->F c=some u\/(dl u=true/\c∈fp a):=by intro _ _ _ _ _ _ e;cases e
 /-- what it is as data when it is lent as a whole -/
 deep:Option D:=none
 abu:∀ {F H:Hp} {a:Addr} {d:D},aj F H->rep F H a->deep=some d->∃F',aj F F'/\aj F' H/\Rep F' (.ref a) d:=by intro _ _ _ _ _ _ e;cases e
 /-- where it stands -/
 loc:Option Addr:=none
 Hu:∀ {F H:Hp} {a b:Addr},rep F H a->loc=some b->a=b:=by intro _ _ _ _ _ e;cases e
inductive B where
 | sh (d:D)
 | own (xs:List D)
 | obj (o:O)
abbrev Sd:=List (Option B)
structure aV where
 H0:Hp
 F0:Hp
 io:List (Nat×Addr)
 /-- the addresses of things that were handed in to be changed -/
 ob:List Addr
def aV.J8(Y:aV):List Addr:=Y.io.map (·.2)
def aV.rG(Y:aV):List Addr:=Y.io.map (·.2)++Y.ob
theorem aV.yL{Y:aV}{a:Addr}(h:a∉Y.rG):a∉Y.J8:=λz=>h (List.mem_append_left _ z)
def iV(ah:Sd)(σ:St)(b:Addr):Prop:=∃(i:Nat) (o:O) (a:Addr),ah[i]?=some (some (.obj o))/\σ[i]?=some (some (.ref a))/\b∈o.fp a
def i7(F:Hp):Prop:=∀q∈KF.tabs,F q.1=some (.lam q.2.1 q.2.2.1 q.2.2.2)
theorem i7.mono{F F':Hp}(h:i7 F)(s:aj F F'):i7 F':=λq hq=>s _ _ (h q hq)
def lL(F H:Hp):Prop:=aj F H/\i7 F
structure tR(Y:aV)(F:Hp)(ah:Sd)(σ:St)(H:Hp):Prop where
 obj:∀(i:Nat) (o:O),ah[i]?=some (some (.obj o))->∃a,σ[i]?=some (some (.ref a))/\o.rep F H a/\∀b∈o.fp a,F b=none/\H b≠none/\(Y.H0 b=none\/b∈Y.ob)
 ng:∀(i j:Nat) (o p:O) (a b:Addr),ah[i]?=some (some (.obj o))->ah[j]?=some (some (.obj p))->σ[i]?=some (some (.ref a))->σ[j]?=some (some (.ref b))->i≠j->∀c∈o.fp a,c∉p.fp b
 gy:∀(j:Nat) (xs:List D) (b:Addr),ah[j]?=some (some (.own xs))->σ[j]?=some (some (.ref b))->¬iV ah σ b
 there:∀b∈Y.ob,H b≠none
 Ja:∀b∈Y.ob,Y.H0 b≠none
 tab:i7 F
theorem tR.owned{Y:aV}{F:Hp}{ah:Sd}{σ:St}{H:Hp}(X:tR Y F ah σ H){b:Addr}(h:iV ah σ b):F b=none/\H b≠none/\(Y.H0 b=none\/b∈Y.ob):=by
 obtain⟨i,o,a,e1,e2,hb⟩:=h;obtain⟨a',e3,_,h3⟩:=X.obj i o e1;rw[e2]at e3;cases e3;exact h3 b hb
theorem tR.Ke{Y:aV}{F:Hp}{ah:Sd}{σ:St}{H:Hp}(X:tR Y F ah σ H){b:Addr}(h:iV ah σ b){vs:List V}:H b≠some (.tup vs):=by
 obtain⟨i,o,a,e1,e2,hb⟩:=h;obtain⟨a',e3,h2,_⟩:=X.obj i o e1;rw[e2]at e3;cases e3;exact o.nt h2 hb
theorem tR.step{Y Y':aV}{F F':Hp}{ah ax:Sd}{σ bh:St}{H H':Hp}(X:tR Y F ah σ H)(hs:aj F F')
  (ZQ:∀(i:Nat) (o:O),ax[i]?=some (some (.obj o))->ah[i]?=some (some (.obj o))/\bh[i]?=σ[i]?)
  (hb:∀b,iV ah σ b->H' b=H b/\F' b=none/\(Y'.H0 b=none\/b∈Y'.ob))
  (aaJ:∀(j:Nat) (ys:List D) (b:Addr),ax[j]?=some (some (.own ys))->bh[j]?=some (some (.ref b))->¬iV ah σ b)
  (hth:∀b∈Y'.ob,H' b≠none) (hz:∀b∈Y'.ob,b∈Y.ob/\(Y.H0 b≠none->Y'.H0 b≠none):=by exactλb hb=>⟨hb,id⟩):tR Y' F' ax bh H' where
 obj:=λi o e=>by
  obtain⟨e1,e2⟩:=ZQ i o e;obtain⟨a,h1,h2,h3⟩:=X.obj i o e1;have ow:∀b∈o.fp a,iV ah σ b:=λb z=>⟨i,o,a,e1,h1,z⟩;refine⟨a,by rw[e2];exact h1,o.mono hs (λb z=>(hb b (ow b z)).1) h2,λb z=>⟨(hb b (ow b z)).2.1,?_,(hb b (ow b z)).2.2⟩⟩
  rw[(hb b (ow b z)).1];exact(h3 b z).2.1
 ng:=λi j o p a b e1 e2 e3 e4=>by
  obtain⟨q1,q2⟩:=ZQ i o e1;obtain⟨q3,q4⟩:=ZQ j p e2;rw[q2]at e3;rw[q4]at e4;exact X.ng i j o p a b q1 q3 e3 e4
 gy:=λj xs b e1 e2 ⟨i,o,a,e3,e4,hm⟩=>by
  obtain⟨q1,q2⟩:=ZQ i o e3;rw[q2]at e4;exact aaJ j xs b e1 e2 ⟨i,o,a,q1,e4,hm⟩
 there:=hth
 Ja:=λb hb=>(hz b hb).2 (X.Ja b (hz b hb).1)
 tab:=X.tab.mono hs
theorem tR.put{Y:aV}{F:Hp}{ah:Sd}{σ bh:St}{H:Hp}{i:Nat}{b':Option B}(X:tR Y F ah σ H)(h1:∀j,j≠i->bh[j]?=σ[j]?)(hn:∀o,b'≠some (.obj o))
  (hw:∀ys a,b'=some (.own ys)->bh[i]?=some (some (.ref a))->¬iV ah σ a):tR Y F (ah.set i b') bh H:=by
 have gs:∀ {j:Nat} {y:Option B},(ah.set i b')[j]?=some y->(j=i/\y=b')\/(j≠i/\ah[j]?=some y):=λ{j y} h=>by
  by_cases hj:j=i
  ·subst hj
   by_cases hl:j<ah.length
   ·rw[List.getElem?_set_self hl]at h;exact .inl ⟨rfl,(Option.some.inj h).symm⟩
   ·have:(ah.set j b')[j]?=none:=by rw[List.getElem?_eq_none_iff];simp;omega
    rw[this]at h;cases h
  ·rw[List.getElem?_set_ne (Ne.symm hj)]at h;exact .inr ⟨hj,h⟩
 refine X.step (aj.refl _) (λj o e=>?_) (λb hb=>⟨rfl,(X.owned hb).1,(X.owned hb).2.2⟩) (λj ys b e1 e2=>?_) X.there
 ·rcases gs e with⟨_,z⟩|⟨hj,z⟩
  ·exact absurd z.symm (hn o)
  ·exact⟨z,h1 j hj⟩
 ·rcases gs e1 with⟨rfl,z⟩|⟨hj,z⟩
  ·exact hw ys b z.symm e2
  ·rw[h1 j hj]at e2;exact X.gy j ys b z e2
theorem tR.none{Y:aV}{F:Hp}{ah:Sd}{σ:St}{H:Hp}(h:∀(i:Nat) (o:O),ah[i]?≠some (some (.obj o)))(aaN:i7 F)(hth:∀b∈Y.ob,H b≠none)(hz:∀b∈Y.ob,Y.H0 b≠none:=by intro b hb;cases hb):tR Y F ah σ H where
 Ja:=hz
 tab:=aaN
 obj:=λi o e=>absurd e (h i o)
 ng:=λi _ o _ _ _ e=>absurd e (h i o)
 gy:=λ_ _ _ _ _ ⟨i,o,_,e,_⟩=>h i o e
 there:=hth
def Nw(H:Hp)(b:Addr)(o:HO):Prop:=H b=none\/∃vs,o=.tup vs
structure RS(Y:aV)(F:Hp)(ah:Sd)(σ:St)(H:Hp):Prop where
 len:ah.length=σ.length
 lo:aj Y.F0 F
 fr:aj F H
 dA:∀b o,F b=some o->Y.F0 b=some o\/Nw Y.H0 b o
 old:∀b o,Y.H0 b=some o->b∉Y.rG->H b=some o
 sh:∀(i:Nat) (d:D),ah[i]?=some (some (.sh d))->∃v,σ[i]?=some (some v)/\Rep F v d
 own:∀(i:Nat) (xs:List D),ah[i]?=some (some (.own xs))->∃a vs,σ[i]?=some (some (.ref a))/\H a=some (.lst vs)/\ay F vs xs/\F a=none/\(Y.H0 a=none\/a∈Y.J8)
 dis:∀(i j:Nat) (xs ys:List D) (a:Addr),ah[i]?=some (some (.own xs))->ah[j]?=some (some (.own ys))->σ[i]?=some (some (.ref a))->σ[j]?=some (some (.ref a))->i=j
 io:∀p∈Y.io,σ[p.1]?=some (some (.ref p.2))/\∃xs,ah[p.1]?=some (some (.own xs))
 ob:tR Y F ah σ H
theorem ou{F H:Hp}{p:Addr}{o:HO}(s:aj F H):aj (upd F p o) (upd H p o):=λb u e=>by
 by_cases hb:b=p
 ·subst hb;rw[au]at e ⊢;exact e
 ·rw[ai hb]at e ⊢;exact s b u e
theorem same_none{F H:Hp}(s:aj F H){p:Addr}(h:H p=none):F p=none:=s.free h
theorem RS.bw{Y:aV}{F:Hp}{ah:Sd}{σ:St}{H:Hp}{p:Addr}(R:RS Y F ah σ H)(h:H p=none):Y.H0 p=none/\p∉Y.rG:=by
 have bX:p∉Y.rG:=λhm=>by
  rcases List.mem_append.mp hm with hm|hm
  case inr=>exact R.ob.there p hm h
  obtain⟨q,hq,e⟩:=List.mem_map.mp hm;obtain⟨h1,xs,h2⟩:=R.io q hq;obtain⟨a,vs,h3,h4,_⟩:=R.own _ _ h2;rw[h1]at h3;cases h3;rw[e,h]at h4;cases h4
 refine⟨?_,bX⟩;cases e:Y.H0 p with
 | none=>rfl
 | some o=>rw[R.old p o e bX]at h;cases h
theorem RS.alloc{Y:aV}{F:Hp}{ah:Sd}{σ:St}{H:Hp}{p:Addr}{o:HO}(R:RS Y F ah σ H)(h:H p=none):RS Y (upd F p o) ah σ (upd H p o) where
 len:=R.len
 lo:=R.lo.trans (aD (same_none R.fr h))
 fr:=ou R.fr
 dA:=λb u e=>by
  by_cases hb:b=p
  ·subst hb;exact .inr (.inl (R.bw h).1)
  ·rw[ai hb]at e;exact R.dA b u e
 old:=λb u e n=>by
  have:=R.old b u e n;rw[ai (aP this h)];exact this
 sh:=λi d e=>by
  obtain⟨v,h1,h2⟩:=R.sh i d e;exact⟨v,h1,h2.mono (aD (same_none R.fr h))⟩
 own:=λi xs e=>by
  obtain⟨a,vs,h1,h2,h3,h4,h5⟩:=R.own i xs e;have cC:=aP h2 h;exact⟨a,vs,h1,by rw[ai cC];exact h2,h3.mono (aD (same_none R.fr h)),by rw[ai cC];exact h4,h5⟩
 dis:=R.dis
 io:=R.io
 ob:=R.ob.step (aD (same_none R.fr h)) (λi o e=>⟨e,rfl⟩) (λb hb=>by
  obtain⟨w1,w2,w3⟩:=R.ob.owned hb;have cC:b≠p:=λz=>w2 (z ▸ h);exact⟨ai cC,by rw[ai cC];exact w1,w3⟩) (λj ys b e1 e2=>R.ob.gy j ys b e1 e2) λb hb=>by
  have cC:b≠p:=λz=>R.ob.there b hb (z ▸ h);rw[ai cC];exact R.ob.there b hb
theorem RS.ja{Y:aV}{F:Hp}{ah:Sd}{σ:St}{H:Hp}{p:Addr}{o:HO}(R:RS Y F ah σ H)(h:H p=none):RS Y F ah σ (upd H p o) where
 len:=R.len
 lo:=R.lo
 fr:=R.fr.trans (aD h)
 dA:=R.dA
 old:=λb u e n=>aD h b u (R.old b u e n)
 sh:=R.sh
 own:=λi xs e=>by
  obtain⟨a,vs,h1,h2,h3,h4,h5⟩:=R.own i xs e;exact⟨a,vs,h1,aD h a _ h2,h3,h4,h5⟩
 dis:=R.dis
 io:=R.io
 ob:=R.ob.step (aj.refl _) (λi o e=>⟨e,rfl⟩) (λb hb=>by
  obtain⟨w1,w2,w3⟩:=R.ob.owned hb;have cC:b≠p:=λz=>w2 (z ▸ h);exact⟨ai cC,w1,w3⟩) (λj ys b e1 e2=>R.ob.gy j ys b e1 e2) λb hb=>by
  have cC:b≠p:=λz=>R.ob.there b hb (z ▸ h);rw[ai cC];exact R.ob.there b hb
inductive EV where
 | val (d:D)|var (i:Nat)|own (xs:List D)|obj (o:O)|any
inductive OV where
 | val (d:D)|var (i:Nat)|any
abbrev TX:=Sd->(EV->Sd->Prop)->Prop
abbrev TV:=Sd->(OV->Sd->Prop)->Prop
abbrev TD:=Sd->(D->Sd->Prop)->Prop
abbrev TB:=Sd->(Bool->Sd->Prop)->Prop
abbrev et:=Sd->(List D->Sd->Prop)->Prop
structure cw(ah:Sd)(σ:St)(a:Addr):Prop where
 own:∀(j:Nat) (ys:List D),ah[j]?=some (some (.own ys))->σ[j]?≠some (some (.ref a))
 Kd:¬iV ah σ a
instance {ah:Sd} {σ:St} {a:Addr}:CoeFun (cw ah σ a) λ_=>∀(j:Nat) (ys:List D),ah[j]?=some (some (.own ys))->σ[j]?≠some (some (.ref a)):=⟨cw.own⟩
theorem RS.b3{Y:aV}{F:Hp}{ah:Sd}{σ:St}{H:Hp}(R:RS Y F ah σ H){a:Addr}(h:H a=none):cw ah σ a:=by
 refine⟨λj ys e z=>?_,λz=>(R.ob.owned z).2.1 h⟩;obtain⟨b,us,e1,e2,_⟩:=R.own j ys e;rw[e1]at z;cases z;rw[h]at e2;cases e2
def wF(F:Hp)(σ:St)(v:V):OV->Prop
 | .val d=>Rep F v d
 | .var i=>σ[i]?=some (some v)
 | .any=>True
def BK(Y:aV)(F H:Hp)(ah:Sd)(σ:St)(v:V):EV->Prop
 | .val d=>Rep F v d
 | .var i=>σ[i]?=some (some v)
 | .own xs=>∃a vs,v=.ref a/\H a=some (.lst vs)/\ay F vs xs/\F a=none/\Y.H0 a=none/\cw ah σ a
 | .obj o=>∃a,v=.ref a/\o.rep F H a/\∀b∈o.fp a,F b=none/\H b≠none/\Y.H0 b=none/\cw ah σ b
 | .any=>True
def lX(Y:aV)(t:TX):TE:=λσ H Q=>∃F ah Qd,RS Y F ah σ H/\t ah Qd/\∀v H' F' x ax,aj F F'->RS Y F' ax σ H'->BK Y F' H' ax σ v x->Qd x ax->Q v H'
def lO(Y:aV)(t:TV):TE:=λσ H Q=>∃F ah Qd,RS Y F ah σ H/\t ah Qd/\∀v H' F' x ax,aj F F'->RS Y F' ax σ H'->wF F' σ v x->Qd x ax->Q v H'
def lD(Y:aV)(t:TD):TE:=λσ H Q=>∃F ah Qd,RS Y F ah σ H/\t ah Qd/\∀v H' F' x ax,aj F F'->RS Y F' ax σ H'->Rep F' v x->Qd x ax->Q v H'
def lB(Y:aV)(t:TB):TT:=λσ H Q=>∃F ah Qd,RS Y F ah σ H/\t ah Qd/\∀b H' F' ax,aj F F'->RS Y F' ax σ H'->Qd b ax->Q b H'
def lDs(Y:aV)(t:et):TA:=λσ H Q=>∃F ah Qd,RS Y F ah σ H/\t ah Qd/\∀vs H' F' xs ax,aj F F'->RS Y F' ax σ H'->ay F' vs xs->Qd xs ax->Q vs H'
structure GE where
 P:Program
 w:World
 K:PySem.W.Frag
 mg:Str->Option Value
 base:Heap
structure Stat where
 N:List Str
 sc:List (Str×NameKind)
 ios:List Nat:=[]
 wj:Bool:=false
 /-- within an except suite -/
 gm:Bool:=false
 /-- a raise may stand here -/
 rs:Bool:=false
 /-- what is wanted where an exception of a class leaves -/
 ex:Str->Sd->Prop:=λ_ _=>False
def aau(a T:Addr)(c:Str):HO:=.ext λh=>∃o vs a0,h.get? a=some o/\o.cls=.ref (KF.cls c)/\o.data=.fields vs/\vs[0]?=some a0/\vs[1]?=some (.ref T)
def tbO(T:Addr):HO:=.ext λh=>∃o ts,h.get? T=some o/\o.data=.fields ts/\ts[3]?=some .none
structure Uj(X:Cx)(Y:aV)(F H:Hp)(a T:Addr)(c:Str):Prop where
 fa:F a=none
 fT:F T=none
 ha:H a=some (aau a T c)
 hT:H T=some (tbO T)
 ne:a≠T
 na:Y.H0 a=none
 nT:Y.H0 T=none
 la:X.c5.heap.get? a=none
 lT:X.c5.heap.get? T=none
def aa0(a:Addr)(c:Str):HO:=.ext λh=>∃o vs a0,h.get? a=some o/\o.cls=.ref (KF.cls c)/\o.data=.fields vs/\vs[0]?=some a0/\vs[1]?=some .none
structure c7(X:Cx)(G:GE)(k:Nat)(S:Stat)(Y:aV):Prop where
 P:X.prog=G.P
 w:X.w=G.w
 K:X.K=G.K
 kf:X.K=KF.K
 mg:X.mg=G.mg
 base:X.base=G.base
 N:X.N=S.N
 sc:X.env.scope.names=S.sc
 nd:S.N.Nodup
 ios:∀p∈Y.io,p.1∈S.ios
 obs:S.wj=false->S.ios=[]->Y.ob=[]
 calm:S.gm=false->X.calm=true
 kind:X.env.scope.kind=.function
 fn:S.wj=false->∀x,S.sc.lookup x=some .cell->X.fn x=true
 hd:S.gm=false->X.A.handled=none
 dp:X.A.depth+3*k+5<recursionLimit
 un:X.A.units+16*k+200<cLine
 po:S.gm=false->PassesOwn (model X.prog X.w) X.A X.env X.xe
 nx:S.wj=false->X.ex=[]/\X.stack=X.env::X.outer/\X.env.frame=some X.env.locals
 exc:∀c ah,S.ex c ah->∀pins σ H F s a T,L2.Inv X pins σ H s->RS Y F ah σ H->Uj X Y F H a T c->X.xe (.ref a) s
 made:S.rs=true->∀c ah,S.ex c ah->∀pins σ H F s a,L2.Inv X pins σ H s->RS Y F ah σ H->H a=some (aa0 a c)->Y.H0 a=none->X.c5.heap.get? a=none->X.xe (.ref a) s
theorem c7.room{X:Cx}{G:GE}{k:Nat}{S:Stat}{Y:aV}(ok:c7 X G k S Y)(h:S.gm=false):eg k X.A:=⟨ok.hd h,ok.dp,ok.un⟩
theorem c7.units{X:Cx}{G:GE}{k:Nat}{S:Stat}{Y:aV}(ok:c7 X G k S Y):X.A.units+64<cLine:=by have:=ok.un;omega
variable {G:GE}{k:Nat}{S:Stat}
structure EX(G:GE)(k:Nat)(S:Stat)(e:Expr)(t:TX) :Prop where
 run:∀X Y,c7 X G k S Y->PE X e (lX Y t)
instance {G:GE} {k:Nat} {S:Stat} {e:Expr} {t:TX} :CoeFun (EX G k S e t) λ_=>∀X Y,c7 X G k S Y->PE X e (lX Y t):=⟨EX.run⟩
structure EO(G:GE)(k:Nat)(S:Stat)(e:Expr)(t:TV) :Prop where
 run:∀X Y,c7 X G k S Y->PE X e (lO Y t)
instance {G:GE} {k:Nat} {S:Stat} {e:Expr} {t:TV} :CoeFun (EO G k S e t) λ_=>∀X Y,c7 X G k S Y->PE X e (lO Y t):=⟨EO.run⟩
structure ED(G:GE)(k:Nat)(S:Stat)(e:Expr)(t:TD) :Prop where
 run:∀X Y,c7 X G k S Y->PE X e (lD Y t)
instance {G:GE} {k:Nat} {S:Stat} {e:Expr} {t:TD} :CoeFun (ED G k S e t) λ_=>∀X Y,c7 X G k S Y->PE X e (lD Y t):=⟨ED.run⟩
structure EB(G:GE)(k:Nat)(S:Stat)(e:Expr)(t:TB) :Prop where
 run:∀X Y,c7 X G k S Y->PT X e (lB Y t)
instance {G:GE} {k:Nat} {S:Stat} {e:Expr} {t:TB} :CoeFun (EB G k S e t) λ_=>∀X Y,c7 X G k S Y->PT X e (lB Y t):=⟨EB.run⟩
structure wz(G:GE)(k:Nat)(S:Stat)(es:List Expr)(t:et) :Prop where
 run:∀X Y,c7 X G k S Y->PA X es (lDs Y t)
instance {G:GE} {k:Nat} {S:Stat} {es:List Expr} {t:et} :CoeFun (wz G k S es t) λ_=>∀X Y,c7 X G k S Y->PA X es (lDs Y t):=⟨wz.run⟩
def QK:Expr->Bool
 | .Starred _ _=>false
 | _=>true
theorem cT{e:Expr}{es:List Expr}{env:Env}(h:QK e=true):starEach (e::es) env=(false,eval e env)::starEach es env:=by
 cases e<;>first|rfl|cases h
theorem aM{X:Cx}{e:Expr}{t t':TE}(h:PE X e t)(i:∀σ H Q,t' σ H Q->t σ H Q):PE X e t':=λpins s σ H Q I q=>h pins s σ H Q I (i σ H Q q)
theorem sg{X:Cx}{e:Expr}{t t':TT}(h:PT X e t)(i:∀σ H Q,t' σ H Q->t σ H Q):PT X e t':=λpins s σ H Q I q=>h pins s σ H Q I (i σ H Q q)
theorem g9{X:Cx}{e:List Expr}{t t':TA}(h:PA X e t)(i:∀σ H Q,t' σ H Q->t σ H Q):PA X e t':=λpos pins s σ H Q I q=>h pos pins s σ H Q I (i σ H Q q)
theorem b8{X:Cx}{e:Stmt}{t t':TS}(h:PS X e t)(i:∀D σ H,t' D σ H->t D σ H):PS X e t':=λpins s σ H D I q=>h pins s σ H D I (i D σ H q)
theorem se{X:Cx}{e:List Stmt}{t t':TS}(h:qI X e t)(i:∀D σ H,t' D σ H->t D σ H):qI X e t':=λpins s σ H D I q=>h pins s σ H D I (i D σ H q)
theorem RS.Ae{Y:aV}{F:Hp}{ah:Sd}{σ:St}{H:Hp}{a:Addr}{vs:List V}(R:RS Y F ah σ H)(h1:H a=some (.lst vs))(h2:F a=none)(h3:cw ah σ a)(h4:Y.H0 a=none):RS Y (upd F a (.lst vs)) ah σ H where
 len:=R.len
 lo:=R.lo.trans (aD h2)
 fr:=λb o e=>by
  by_cases hb:b=a
  ·subst hb;rw[au]at e;cases e;exact h1
  ·rw[ai hb]at e;exact R.fr b o e
 dA:=λb u e=>by
  by_cases hb:b=a
  ·subst hb;exact .inr (.inl h4)
  ·rw[ai hb]at e;exact R.dA b u e
 old:=R.old
 sh:=λi d e=>by
  obtain⟨v,q1,q2⟩:=R.sh i d e;exact⟨v,q1,q2.mono (aD h2)⟩
 own:=λi xs e=>by
  obtain⟨b,us,q1,q2,q3,q4,q5⟩:=R.own i xs e;have cC:b≠a:=λz=>h3 i xs e (by rw[q1,z])
  exact⟨b,us,q1,q2,q3.mono (aD h2),by rw[ai cC];exact q4,q5⟩
 dis:=R.dis
 io:=R.io
 ob:=R.ob.step (aD h2) (λi o e=>⟨e,rfl⟩) (λb hb=>by
  obtain⟨w1,w2,w3⟩:=R.ob.owned hb;have cC:b≠a:=λz=>h3.Kd (z ▸ hb);exact⟨rfl,by rw[ai cC];exact w1,w3⟩) (λj ys b e1 e2=>R.ob.gy j ys b e1 e2) R.ob.there
def Zv:EV->OV
 | .val d=>.val d
 | .var i=>.var i
 | .own xs=>.val (.lst xs)
 | .obj _=>.any
 | .any=>.any
def aX(t:TX):TV:=λσ Q=>t σ λx av=>Q (Zv x) av
theorem bx{e:Expr}{t:TX}(h:EX G k S e t):EO G k S e (aX t):=.mk λX Y ok=>aM (h X Y ok) λσ H Q q=>by
 obtain⟨F,ah,Qd,R,q,K⟩:=q;refine⟨F,ah,_,R,q,λv H' F' x ax s R' r q'=>?_⟩;cases x with
 | val d=>exact K v H' F' (.val d) ax s R' r q'
 | var i=>exact K v H' F' (.var i) ax s R' r q'
 | own xs =>
  obtain⟨a,vs,rfl,h1,h2,h3,h4,h5⟩:=r;exact K _ H' _ (.val (.lst xs)) ax (s.trans (aD h3)) (R'.Ae h1 h3 h5 h4) (.lst (.inl au) (h2.mono (aD h3))) q'
 | obj o=>exact K v H' F' .any ax s R' trivial q'
 | any=>exact K v H' F' .any ax s R' trivial q'
def oxV:OV->EV
 | .val d=>.val d
 | .var i=>.var i
 | .any=>.any
def oX(t:TV):TX:=λσ Q=>t σ λx av=>Q (oxV x) av
theorem mG{e:Expr}{t:TV}(h:EO G k S e t):EX G k S e (oX t):=.mk λX Y ok=>aM (h X Y ok) λσ H Q q=>by
 obtain⟨F,ah,Qd,R,q,K⟩:=q;refine⟨F,ah,_,R,q,λv H' F' x ax s R' r q'=>?_⟩;cases x with
 | val d=>exact K v H' F' (.val d) ax s R' r q'
 | var i=>exact K v H' F' (.var i) ax s R' r q'
 | any=>exact K v H' F' .any ax s R' trivial q'
theorem aS{α:Type}{l:List (Option α)}{i:Nat}{x:α}{y:Option α}(h:l[i]?=some (some x)):(l.set i y)[i]?=some y:=by
 have:=(List.getElem?_eq_some_iff.mp h).1;rw[List.getElem?_set_self this]
theorem a9{α:Type}{l:List (Option α)}{i j:Nat}{y:Option α}(h:j≠i):(l.set i y)[j]?=l[j]?:=by
 rw[List.getElem?_set_ne (Ne.symm h)]
theorem RS.kZ{Y:aV}{F:Hp}{ah:Sd}{σ:St}{H:Hp}{i:Nat}{xs:List D}(R:RS Y F ah σ H)(h:ah[i]?=some (some (.own xs)))(bX:∀p∈Y.io,p.1≠i):
  ∃F' v,aj F F'/\RS Y F' (ah.set i (some (.sh (.lst xs)))) σ H/\σ[i]?=some (some v)/\Rep F' v (.lst xs):=by
 obtain⟨a,vs,q1,q2,q3,q4,q5⟩:=R.own i xs h;have sm:=aD (o:=.lst vs) q4;have rep:Rep (upd F a (.lst vs)) (.ref a) (.lst xs):=.lst (.inl au) (q3.mono sm);have OU:Y.H0 a=none:=by
  rcases q5 with q5|q5
  ·exact q5
  ·obtain⟨p,hp,e⟩:=List.mem_map.mp q5
   obtain⟨w1,ys,w2⟩:=R.io p hp;exact absurd (R.dis p.1 i ys xs a w2 h (by rw[w1,e]) q1) (bX p hp)
 have obF:tR Y (upd F a (.lst vs)) (ah.set i (some (.sh (.lst xs)))) σ H:=R.ob.step sm (λj o e=>by
  have hj:j≠i:=λz=>by subst z;rw[aS h]at e;cases e
  rw[a9 hj]at e;exact⟨e,rfl⟩) (λb hb=>by
  obtain⟨w1,w2,w3⟩:=R.ob.owned hb;have cC:b≠a:=λz=>R.ob.gy i xs a h q1 (z ▸ hb);exact⟨rfl,by rw[ai cC];exact w1,w3⟩) (λj ys b e1 e2=>by
  have hj:j≠i:=λz=>by subst z;rw[aS h]at e1;cases e1
  rw[a9 hj]at e1;exact R.ob.gy j ys b e1 e2) R.ob.there
 refine⟨upd F a (.lst vs),.ref a,sm,⟨by simpa using R.len,R.lo.trans sm,λb o e=>?_,λb o e=>?_,R.old,λj d e=>?_,λj ys e=>?_,λj l ys zs b e1 e2 e3 e4=>?_,λp hp=>?_,obF⟩,q1,rep⟩
 ·by_cases hb:b=a
  ·subst hb;rw[au]at e;cases e;exact q2
  ·rw[ai hb]at e;exact R.fr b o e
 ·by_cases hb:b=a
  ·subst hb;exact .inr (.inl OU)
  ·rw[ai hb]at e;exact R.dA b o e
 ·by_cases hj:j=i
  ·subst hj
   rw[aS h]at e;cases e;exact⟨_,q1,rep⟩
  ·rw[a9 hj]at e
   obtain⟨v,w1,w2⟩:=R.sh j d e;exact⟨v,w1,w2.mono sm⟩
 ·have hj:j≠i:=λz=>by subst z;rw[aS h]at e;cases e
  rw[a9 hj]at e;obtain⟨b,us,w1,w2,w3,w4,w5⟩:=R.own j ys e;have cC:b≠a:=λz=>hj (R.dis j i ys xs a e h (z ▸ w1) q1);exact⟨b,us,w1,w2,w3.mono sm,by rw[ai cC];exact w4,w5⟩
 ·have hj:j≠i:=λz=>by subst z;rw[aS h]at e1;cases e1
  have hl:l≠i:=λz=>by subst z;rw[aS h]at e2;cases e2
  rw[a9 hj]at e1;rw[a9 hl]at e2;exact R.dis j l ys zs b e1 e2 e3 e4
 ·obtain⟨w1,ys,w2⟩:=R.io p hp
  exact⟨w1,ys,by rw[a9 (bX p hp)];exact w2⟩
def Te(ios:List Nat)(x:OV)(av:Sd)(Q:D->Sd->Prop):Prop:=match x with
 | .val d=>Q d av
 | .any=>False
 | .var i=>match av[i]? with
  | some (some (.own xs))=>i∉ios/\Q (.lst xs) (av.set i (some (.sh (.lst xs))))
  | some (some (.sh d))=>Q d av
  | _=>False
theorem kL{ios:List Nat}{d:D}{av:Sd}{Q:D->Sd->Prop}:Te ios (.val d) av Q=Q d av:=rfl
theorem kM{ios:List Nat}{i:Nat}{av:Sd}{Q:D->Sd->Prop}:Te ios (.var i) av Q=(match av[i]? with
  | some (some (.own xs))=>i∉ios/\Q (.lst xs) (av.set i (some (.sh (.lst xs))))
  | some (some (.sh d))=>Q d av
  | _=>False):=rfl
def ak(ios:List Nat)(t:TV):TD:=λσ Q=>t σ λx av=>Te ios x av Q
theorem aG{e:Expr}{t:TV}(h:EO G k S e t):ED G k S e (ak S.ios t):=.mk λX Y ok=>aM (h X Y ok) λσ H Q q=>by
 obtain⟨F,ah,Qd,R,q,K⟩:=q;refine⟨F,ah,_,R,q,λv H' F' x ax s R' r q'=>?_⟩;cases x with
 | val d=>exact K v H' F' d ax s R' r q'
 | any=>exact False.elim q'
 | var i =>
  have r:σ[i]?=some (some v):=r;rw[kM]at q'
  split at q'
  ·rename_i xs e
   obtain⟨hi,q'⟩:=q';obtain⟨F2,v2,s2,R2,e2,r2⟩:=R'.kZ e λp hp z=>hi (z ▸ ok.ios p hp);rw[r]at e2;cases e2;exact K v H' F2 _ _ (s.trans s2) R2 r2 q'
  ·rename_i d e
   obtain⟨v2,e2,r2⟩:=R'.sh i d e;rw[r]at e2;cases e2;exact K v H' F' d ax s R' r2 q'
  ·exact q'.elim
def af(i:Nat):TV:=λσ Q=>match σ[i]? with
 | some (some (.sh d))=>Q (.val d) σ
 | some (some (.own _))=>Q (.var i) σ
 | _=>False
theorem ag(i:Nat){x:Str}{pos:Pos}(hN:S.N[i]?=some x:=by rfl)(hv:S.sc.lookup x=some .local\/S.sc.lookup x=some .cell\/S.sc.lookup x=some .free:=by first|exact Or.inl rfl|exact Or.inr (Or.inl rfl)|exact Or.inr (Or.inr rfl))
  (hd:(x==("__debug__":Str))=false:=by decide) (jk:(x==("__classdict__":Str))=false:=by decide):EO G k S (.Name x pos) (af i):=.mk λX Y ok =>
 aM (eZ (X:=X) (i:=i) (by rw[ok.N];exact hN) (by unfold A6;rw[ok.sc];exact hv) hd jk) λσ H Q q=>by
  obtain⟨F,ah,Qd,R,q,K⟩:=q;unfold af at q
  split at q
  ·rename_i d e
   obtain⟨v,e2,r2⟩:=R.sh i d e;exact⟨v,e2,K v H F (.val d) ah (aj.refl _) R r2 q⟩
  ·rename_i xs e
   obtain⟨a,vs,e2,_⟩:=R.own i xs e;exact⟨_,e2,K _ H F (.var i) ah (aj.refl _) R e2 q⟩
  ·exact q.elim
def bg(d:D):TV:=λσ Q=>Q (.val d) σ
theorem nK{Y:aV}{v:V}{d:D}(r:∀F,Rep F v d)(σ:St)(H:Hp)(Q:VK)(q:lO Y (bg d) σ H Q):tC v σ H Q:=by
 obtain⟨F,ah,Qd,R,q,K⟩:=q;exact K v H F (.val d) ah (aj.refl _) R (r F) q
theorem aB{i j pos}:EO G k S (.Constant (.int i) j pos) (bg (.int i)):=.mk λ_ _ _=>aM Ex (nK λ_=>.int i)
theorem so{b j pos}:EO G k S (.Constant (.bool b) j pos) (bg (.bl b)):=.mk λ_ _ _=>aM XY (nK λ_=>.bl b)
theorem mj{j pos}:EO G k S (.Constant .none j pos) (bg .aW):=.mk λ_ _ _=>aM QC (nK λ_=>.aW)
theorem ml{x j pos}:EO G k S (.Constant (.str x) j pos) (bg (.str x)):=.mk λ_ _ _=>aM QE (nK λ_=>.str x)
def Kv(G:GE)(x:Str)(d:D):Prop:=∃u v,G.mg x=some u/\RelV v u/\∀F,Rep F v d
theorem eu{X:Cx}{Y:aV}(ok:c7 X G k S Y){x:Str}(h:S.sc.lookup x=some .globalImplicit):Gl X x:=by
 unfold Gl;show X.env.scope.names.lookup x=_;rw[ok.sc];exact h
theorem E8{x:Str}{d:D}{pos:Pos}(h:Kv G x d)(hg:S.sc.lookup x=some .globalImplicit:=by rfl)(hd:(x==("__debug__":Str))=false:=by decide):EO G k S (.Name x pos) (bg d):=.mk λX Y ok=>by
 obtain⟨u,v,h1,h2,h3⟩:=h;exact aM (Ic (eu ok hg) (by rw[ok.mg];exact h1) h2 hd) (nK h3)
def cS(σ:Sd):OV->Option D
 | .val d=>some d
 | .any=>none
 | .var i=>match σ[i]? with
  | some (some (.sh d))=>some d
  | some (some (.own xs))=>some (.lst xs)
  | some (some (.obj o))=>o.view
  | _=>none
theorem Rep.h{F H:Hp}(s:aj F H){v:V}{d:D}(r:Rep F v d):cA F H v d:=by
 cases d with
 | lst xs =>
  cases r with
  | lst h r=>exact⟨_,_,rfl,Rd.mono s h,r⟩
 | dW kvs =>
  cases r with
  | dW h r=>exact⟨_,_,rfl,Rd.mono s h,r⟩
 | kp w c e kvs =>
  cases r with
  | kp h1 h2 r=>exact⟨_,_,_,_,rfl,s _ _ h1,Rd.mono s h2,r⟩
 | _=>exact r
theorem RS.cS{Y:aV}{F:Hp}{ah:Sd}{σ:St}{H:Hp}(R:RS Y F ah σ H){v:V}{x:OV}{d:D}(r:wF F σ v x)(e:cS ah x=some d):cA F H v d:=by
 cases x with
 | val d'=>cases e;exact Rep.h R.fr r
 | any=>cases e
 | var i =>
  have r:σ[i]?=some (some v):=r;have e:(match ah[i]? with|some (some (.sh d))=>some d|some (some (.own xs))=>some (.lst xs)|some (some (.obj o))=>o.view|_=>none)=some d:=e
  split at e
  ·rename_i d' q
   cases e;obtain⟨v2,e2,r2⟩:=R.sh i d q;rw[r]at e2;cases e2;exact Rep.h R.fr r2
  ·rename_i xs q
   cases e;obtain⟨a,vs,e2,h2,h3,_⟩:=R.own i xs q;rw[r]at e2;cases e2;exact⟨a,vs,rfl,.inl h2,h3⟩
  ·rename_i o q
   obtain⟨a,e2,h2,_⟩:=R.ob.obj i o q;rw[r]at e2;cases e2;exact o.sees h2 e
  ·cases e
theorem cA.int{F H:Hp}{v:V}{i:Int}(r:cA F H v (.int i)):v=.int i:=by cases(show Rep F v (.int i)from r);rfl
theorem cA.bl{F H:Hp}{v:V}{i:Bool}(r:cA F H v (.bl i)):v=.bl i:=by cases(show Rep F v (.bl i)from r);rfl
theorem cA.str{F H:Hp}{v:V}{i:Str}(r:cA F H v (.str i)):v=.str i:=by cases(show Rep F v (.str i)from r);rfl
theorem cA.aW{F H:Hp}{v:V}(r:cA F H v .aW):v=.aW:=by cases(show Rep F v .aW from r);rfl
theorem cA.tup{F H:Hp}(s:aj F H){v:V}{xs:List D}(r:cA F H v (.tup xs)):∃a vs,v=.ref a/\H a=some (.tup vs)/\ay F vs xs:=by
 cases(show Rep F v (.tup xs)from r)with
 | tup h r=>exact⟨_,_,rfl,s _ _ h,r⟩
theorem cA.lst{F H:Hp}{v:V}{xs:List D}(r:cA F H v (.lst xs)):∃a vs,v=.ref a/\Rd H a (.lst vs)/\ay F vs xs:=r
def Goes(Y:aV)(F:Hp)(ah:Sd)(σ:St)(Qd:EV->Prop)(Q:VK):Prop:=∀v H' F' r,aj F F'->RS Y F' ah σ H'->BK Y F' H' ah σ v r->Qd r->Q v H'
theorem Goes.val{Y:aV}{F:Hp}{ah:Sd}{σ:St}{Qd:EV->Prop}{Q:VK}(g:Goes Y F ah σ Qd Q){H:Hp}(R:RS Y F ah σ H){v:V}{d:D}(r:Rep F v d)(q:Qd (.val d)):Q v H:=g v H F (.val d) (aj.refl _) R r q
theorem Goes.own{Y:aV}{F:Hp}{ah:Sd}{σ:St}{Qd:EV->Prop}{Q:VK}(g:Goes Y F ah σ Qd Q){H:Hp}(R:RS Y F ah σ H){vs:List V}{xs:List D}(r:ay F vs xs)(q:Qd (.own xs)):∀p,H p=none->Q (.ref p) (upd H p (.lst vs)):=λp hp=>by
 refine g (.ref p) _ F (.own xs) (aj.refl _) (R.ja hp) ⟨p,vs,rfl,au,r,same_none R.fr hp,(R.bw hp).1,⟨λj ys e z=>?_,λz=>(R.ob.owned z).2.1 hp⟩⟩ q;obtain⟨a,us,e1,e2,_⟩:=R.own j ys e;rw[e1]at z;cases z;rw[hp]at e2;cases e2
theorem Goes.tup{Y:aV}{F:Hp}{ah:Sd}{σ:St}{Qd:EV->Prop}{Q:VK}(g:Goes Y F ah σ Qd Q){H:Hp}(R:RS Y F ah σ H){vs:List V}{xs:List D}(r:ay F vs xs)(q:Qd (.val (.tup xs))):∀p,H p=none->Q (.ref p) (upd H p (.tup vs)):=λp hp=>by
 have sm:=aD (o:=.tup vs) (same_none R.fr hp);exact g (.ref p) _ _ (.val (.tup xs)) sm (R.alloc hp) (.tup au (r.mono sm)) q
def fI(r:R2)(f:D->D->(EV->Prop)->Prop):Prop:=
 ∀Y F H ah σ v u x y Qd Q,RS Y F ah σ H->cA F H v x->cA F H u y->f x y Qd->Goes Y F ah σ Qd Q->r v u H Q
def bP(f:D->D->(EV->Prop)->Prop)(ta tb:TV):TX:=λσ Q=>ta σ λx av=>tb av λy aH=>match cS aH x,cS aH y with
 | some a,some b=>f a b λr=>Q r aH
 | _,_=>False
theorem wF.mono{F F':Hp}(s:aj F F'){σ:St}{v:V}{x:OV}(r:wF F σ v x):wF F' σ v x:=by
 cases x with
 | val d=>exact Rep.mono s r
 | var i=>exact r
 | any=>trivial
theorem xU{Y:aV}{r:R2}{f:D->D->(EV->Prop)->Prop}(hs:fI r f){ta tb:TV}{σ:St}{H:Hp}{Q:VK}(q:lX Y (bP f ta tb) σ H Q):SW r (lO Y ta) (lO Y tb) σ H Q:=by
 obtain⟨F,ah,Qd,R,q,K⟩:=q;refine⟨F,ah,_,R,q,λv1 H1 F1 x av s1 R1 r1 q1=>?_⟩;refine⟨F1,av,_,R1,q1,λv2 H2 F2 y aH s2 R2 r2 q2=>?_⟩
 split at q2
 ·rename_i a b ea eb
  exact hs Y F2 H2 aH σ v1 v2 a b _ Q R2 (R2.cS (r1.mono s2) ea) (R2.cS r2 eb) q2 λv H' F' r s R' rr qq=>K v H' F' r aH ((s1.trans s2).trans s) R' rr qq
 ·exact q2.elim
theorem oi{op:Operator}{f:D->D->(EV->Prop)->Prop}{r:PySem.W.Frag->R2}(ho:∀X,iO X (binaryOp op) (r X.K))(hs:∀K,fI (r K) f){a b:Expr}{ta tb:TV}{pos:Pos}(ha:EO G k S a ta)(hb:EO G k S b tb):
  EX G k S (.BinOp a op b pos) (bP f ta tb):=.mk λX Y ok=>aM (X0 (ho X) (ha X Y ok) (hb X Y ok)) λσ H Q q=>xU (hs X.K) q
def i9:D->D->(EV->Prop)->Prop
 | .int i,.int j,Q=>Q (.val (.int (i+j)))
 | .str a,.str b,Q=>a.length+b.length<=sizeLine/\Q (.val (.str (a++b)))
 | .lst a,.lst b,Q=>a.length+b.length<=sizeLine/\Q (.own (a++b))
 | .tup a,.tup b,Q=>(a≠[]/\a.length+b.length<=sizeLine)/\Q (.val (.tup (a++b)))
 | _,_,_=>False
def Ki:R2:=λx y H Q=>∃l b xs zs,x=.ref l/\y=.ref b/\Rd H l (.lst xs)/\Rd H b (.lst zs)/\xs.length+zs.length<=sizeLine/\∀p,H p=none->Q (.ref p) (upd H p (.lst (xs++zs)))
theorem Inv.rdL{X:Cx}{pins:List (Addr×Obj)}{σ:St}{H:Hp}{s:Shared}{l:Addr}{xs:List V}(I:L2.Inv X pins σ H s)(h:Rd H l (.lst xs)):
  xs.length<=sizeLine/\∃(its:List Value) (n:Nat),Vals xs its/\xs.length=its.length/\s.heap.get? l=some {cls:=.type "list",data:=.seq its.toArray n}:=by
 obtain⟨z,its,n,r,e⟩:=L2.Rd.ok h I.bL;exact⟨z,its,n,r,r.length,e⟩
theorem HJ{X:Cx}:iO X (binaryOp .Add) Ki:=by
 intro pins s σ H x y v u Q I rx ry h;obtain⟨l,b,xs,zs,rfl,rfl,hH,hB,hz,q⟩:=h;cases rx;cases ry;obtain⟨z,its,n,r,hl,e⟩:=Inv.rdL I hH;obtain⟨z2,NV,n2,r2,tT,e2⟩:=Inv.rdL I hB;refine PySem.P.add_list e e2 ?_ (by rw[List.size_toArray,List.size_toArray];omega)
 have ea:its.toArray++NV.toArray=(its++NV).toArray:=by simp
 rw[ea];exact⟨.ref _,_,I.OJ (t':=s.toks) (r.append r2) (by rw[List.length_append];omega),rfl,q _ I.fresh⟩
def Iq(K:PySem.W.Frag):R2:=λx y H Q=>(∃i j,x=.int i/\y=.int j/\Q (.int (i+j)) H)\/(∃i j,x=.str i/\y=.str j/\i.length+j.length<=sizeLine/\Q (.str (i++j)) H)\/Ki x y H Q\/Kj K x y H Q
theorem AB{X:Cx}:iO X (binaryOp .Add) (Iq X.K):=Qj.or (xn.or (HJ.or HK))
theorem zK(K:PySem.W.Frag):fI (Iq K) i9:=by
 intro Y F H ah σ v u x y Qd Q R rx ry q g;unfold i9 at q
 split at q
 ·obtain rfl:=rx.int;obtain rfl:=ry.int
  exact .inl ⟨_,_,rfl,rfl,g.val R (.int _) q⟩
 ·obtain rfl:=rx.str;obtain rfl:=ry.str
  exact .inr (.inl ⟨_,_,rfl,rfl,q.1,g.val R (.str _) q.2⟩)
 ·obtain⟨a,vs,rfl,h1,r1⟩:=rx.lst;obtain⟨b,us,rfl,h2,r2⟩:=ry.lst
  exact .inr (.inr (.inl ⟨a,b,vs,us,rfl,rfl,h1,h2,by rw[r1.length,r2.length];exact q.1,g.own R (r1.append r2) q.2⟩))
 ·have Yo:=rx
  obtain⟨a,vs,rfl,h1,r1⟩:=rx.tup R.fr;obtain⟨b,us,rfl,h2,r2⟩:=ry.tup R.fr;refine .inr (.inr (.inr ⟨a,b,vs,us,rfl,rfl,.of h1,.of h2,λz=>?_,by rw[r1.length,r2.length];exact q.1.2,λz=>?_,λ_=>g.tup R (r1.append r2) q.2⟩))
  ·subst z
   cases r1;exact q.1.1 rfl
  ·subst z
   cases r2;rw[List.append_nil]at q;exact g.val R Yo q.2
 ·exact q.elim
theorem iZ{a b:Expr}{ta tb:TV}{pos:Pos}(ha:EO G k S a ta)(hb:EO G k S b tb):EX G k S (.BinOp a .Add b pos) (bP i9 ta tb):=oi (r:=Iq) (λ_=>AB) zK ha hb
def TK(C:Int->Int->Prop)(g:Int->Int->Int):D->D->(EV->Prop)->Prop
 | .int i,.int j,Q=>C i j/\Q (.val (.int (g i j)))
 | _,_,_=>False
theorem nA{C:Int->Int->Prop}{g:Int->Int->Int}:fI (rI C λi j=>.int (g i j)) (TK C g):=by
 intro Y F H ah σ v u x y Qd Q R rx ry q gg;unfold TK at q
 split at q
 ·obtain rfl:=rx.int;obtain rfl:=ry.int
  exact⟨_,_,rfl,rfl,q.1,gg.val R (.int _) q.2⟩
 ·exact q.elim
def Hg(g:Int->Int->Int):D->D->(EV->Prop)->Prop
 | .int i,.int j,Q=>Q (.val (.int (g i j)))
 | _,_,_=>False
theorem An{g:Int->Int->Int}:fI (GH λi j=>.int (g i j)) (Hg g):=by
 intro Y F H ah σ v u x y Qd Q R rx ry q gg;unfold Hg at q
 split at q
 ·obtain rfl:=rx.int;obtain rfl:=ry.int
  exact⟨_,_,rfl,rfl,gg.val R (.int _) q⟩
 ·exact q.elim
section
variable {a b:Expr}{ta tb:TV}{pos:Pos}
def pA:=Hg λi j=>i-j
def xi:=TK (λ_ j=>0<j) λi j=>i%j
def rY:=TK o7 λi j=>i^j.toNat
theorem mn(ha:EO G k S a ta)(hb:EO G k S b tb):EX G k S (.BinOp a .Sub b pos) (bP pA ta tb):=oi (r:=λ_=>_) (λ_=>Qr) (λ_=>An) ha hb
theorem vI(ha:EO G k S a ta)(hb:EO G k S b tb):EX G k S (.BinOp a .Mod b pos) (bP xi ta tb):=oi (r:=λ_=>_) (λ_=>Qm) (λ_=>nA) ha hb
theorem oo(ha:EO G k S a ta)(hb:EO G k S b tb):EX G k S (.BinOp a .Pow b pos) (bP rY ta tb):=oi (r:=λ_=>_) (λ_=>Qq) (λ_=>nA) ha hb
end
def nQ:D->D->(EV->Prop)->Prop
 | .int i,.int j,Q=>kQ i j/\Q (.val (.int (i*j)))
 | .lst xs,.int j,Q=>(-(2^63)<=j/\j<2^63/\xs.length*j.toNat<=sizeLine)/\Q (.own (List.replicate j.toNat xs).flatten)
 | _,_,_=>False
def Kk:R2:=λx y H Q=>∃l k xs,x=.ref l/\y=.int k/\Rd H l (.lst xs)/\-(2^63)<=k/\k<2^63/\xs.length*k.toNat<=sizeLine /\
 ∀p,H p=none->Q (.ref p) (upd H p (.lst (List.replicate k.toNat xs).flatten))
theorem HL{X:Cx}:iO X (binaryOp .Mult) Kk:=by
 intro pins s σ H x y v u Q I rx ry h;obtain⟨l,k,xs,rfl,rfl,hH,h1,h2,hz,q⟩:=h;cases rx;obtain⟨t,rfl⟩:=ry;obtain⟨z,its,n,r,hl,e⟩:=Inv.rdL I hH;have hlen:its.toArray.size*k.toNat<=sizeLine:=by rw[List.size_toArray,<- hl];exact hz
 have fK:¬its.toArray.size*k.toNat>(2^63-1)/8:=by
  have:(sizeLine:Nat)<=(2^63-1)/8:=by decide
  omega
 have aaB:¬(!Builtin.List.listFitsIndex k)=true:=by
  rw[fitsIndex_both h1 h2];exact Bool.false_ne_true
 have Wn:¬Builtin.List.listTooLong (its.toArray.size*k.toNat)=true:=by
  rw[Em hlen];exact Bool.false_ne_true
 have aaG:List.foldl (λx1 x2=>x1++x2) #[] (List.replicate (if its.toArray.isEmpty=true then 0 else k.toNat) its.toArray)=(List.replicate k.toNat its).flatten.toArray:=by
  have f0:∀m:Nat,List.foldl (λx1 x2=>x1++x2) #[] (List.replicate m its.toArray)=(List.replicate m its).flatten.toArray:=λm=>by
   have:=foldl_rep its m [];rw[List.nil_append]at this;exact this
  rw[f0];cases its with
  | nil=>simp
  | cons a r'=>rw[if_neg (by simp)]
 refine wpAny_binaryOp_repeat_ref (T:="list") (U:="int") ∅ ⟨_,e,rfl⟩ (λs'=>typeIs_int s' k t) noFill_list_mul F.fills_int_mul F.slot_int_rmul repeat_list F.slot_int_index.lookup
  (call_meets F.slot_int_rmul (typeIs_int s k t) F.entry_int_rmul (F.args_int_rmul_2 _ _) (int___rmul___int_list k t l its.toArray n)
   ⟨e,rfl,⟨_,e,rfl⟩,call_meets F.slot_list_mul ⟨_,e,rfl⟩ F.entry_list_mul (F.args_list_mul_2 _ _) (AutoListH.list___mul___list_int_3 l its.toArray n k t aaB fK Wn) ⟨e,?_⟩⟩)
 rw[aaG];exact⟨.ref _,_,I.OJ (t':=s.toks) (r.rep k.toNat) (by rw[len_rep,Nat.mul_comm];exact hz),rfl,q _ I.fresh⟩
def Yg:R2:=λx y H Q=>rI kQ (λi j=>.int (i*j)) x y H Q\/Kk x y H Q
theorem Av:fI Yg nQ:=by
 intro Y F H ah σ v u x y Qd Q R rx ry q g;unfold nQ at q
 split at q
 ·obtain rfl:=rx.int;obtain rfl:=ry.int
  exact .inl ⟨_,_,rfl,rfl,q.1,g.val R (.int _) q.2⟩
 ·obtain⟨a,vs,rfl,h1,r1⟩:=rx.lst;obtain rfl:=ry.int
  exact .inr ⟨a,_,vs,rfl,rfl,h1,q.1.1,q.1.2.1,by rw[r1.length];exact q.1.2.2,g.own R (r1.rep _) q.2⟩
 ·exact q.elim
theorem om{a b:Expr}{ta tb:TV}{pos:Pos}(ha:EO G k S a ta)(hb:EO G k S b tb):EX G k S (.BinOp a .Mult b pos) (bP nQ ta tb):=oi (r:=λ_=>Yg) (λ_=>Qn.or HL) (λ_=>Av) ha hb
end Vc
namespace Vc
open PySem L2
variable [KF]
variable {G:GE}{k:Nat}{S:Stat}
mutual
def il:D->D->Bool
 | .aW,.aW=>true
 | .bl a,.bl b=>a==b
 | .bl a,.int j=>(if a then 1 else 0)==j
 | .int i,.bl b=>i==(if b then 1 else 0)
 | .int i,.int j=>i==j
 | .str x,.str y=>x==y
 | .lst xs,.lst ys=>pj xs ys
 | .tup xs,.tup ys=>pj xs ys
 | _,_=>false
def pj:List D->List D->Bool
 | [],[]=>true
 | x::xs,y::ys=>il x y&&pj xs ys
 | _,_=>false
end
def b7:Nat->D->Bool
 | _,.aW=>true
 | _,.bl _=>true
 | _,.int _=>true
 | _,.str x=>x.cps.all (· < 0x110000)
 | n+1,.tup xs=>xs.all (b7 n)
 | n+1,.lst xs=>xs.all (b7 n)
 | _,_=>false
mutual
def toPy:D->PyData
 | .aW=>.none
 | .bl b=>.bool b
 | .int i=>.int i
 | .str x=>.str x
 | .tup xs=>.tuple (eK xs)
 | .lst xs=>.list (eK xs)
 | _=>.none
def eK:List D->List PyData
 | []=>[]
 | x::xs=>toPy x::eK xs
end
theorem qY{n m:Nat}(ih:∀x y,b7 n x=true->b7 m y=true->il x y=PyData.eqv (toPy x) (toPy y)):∀xs ys:List D,xs.all (b7 n)=true->ys.all (b7 m)=true->pj xs ys=PyData.eqvAll (eK xs) (eK ys)
 | [],[],_,_=>rfl
 | [],_::_,_,_=>rfl
 | _::_,[],_,_=>rfl
 | x::xs,y::ys,h1,h2=>by
  rw[List.all_cons,Bool.and_eq_true]at h1 h2;show(il x y&&pj xs ys)=(PyData.eqv (toPy x) (toPy y)&&PyData.eqvAll (eK xs) (eK ys));rw[ih x y h1.1 h2.1,qY ih xs ys h1.2 h2.2]
theorem wU:∀(n m:Nat) (x y:D),b7 n x=true->b7 m y=true->il x y=PyData.eqv (toPy x) (toPy y):=by
 intro n
 induction n with
 | zero =>
  intro m x y h1 h2;cases x with
  | tup _=>exact absurd h1 (by simp [b7])
  | lst _=>exact absurd h1 (by simp [b7])
  | dct _=>exact absurd h1 (by simp [b7])
  | exc _=>exact absurd h1 (by simp [b7])
  | i3 _=>exact absurd h1 (by simp [b7])
  | dW _=>exact absurd h1 (by simp [b7])
  | kp _ _ _ _=>exact absurd h1 (by simp [b7])
  | _=>cases y<;>first|rfl | (cases m<;>exact absurd h2 (by simp [b7]))
 | succ n ih =>
  intro m x y h1 h2;cases x with
  | tup xs =>
   cases y with
   | tup ys =>
    cases m with
    | zero=>exact absurd h2 (by simp [b7])
    | succ m=>exact qY (ih m) xs ys h1 h2
   | _=>first|rfl | (cases m<;>exact absurd h2 (by simp [b7]))
  | lst xs =>
   cases y with
   | lst ys =>
    cases m with
    | zero=>exact absurd h2 (by simp [b7])
    | succ m=>exact qY (ih m) xs ys h1 h2
   | _=>first|rfl | (cases m<;>exact absurd h2 (by simp [b7]))
  | dct _=>exact absurd h1 (by simp [b7])
  | exc _=>exact absurd h1 (by simp [b7])
  | i3 _=>exact absurd h1 (by simp [b7])
  | dW _=>exact absurd h1 (by simp [b7])
  | kp _ _ _ _=>exact absurd h1 (by simp [b7])
  | _=>cases y<;>first|rfl | (cases m<;>exact absurd h2 (by simp [b7]))
theorem fN{n:Nat}(ih:∀x,b7 n x=true->(toPy x).canLay0=true/\(toPy x).depth<=n):∀xs:List D,xs.all (b7 n)=true->PyData.canLayAll0 (eK xs)=true/\PyData.depthAll (eK xs)<=n
 | [],_=>⟨rfl,Nat.zero_le _⟩
 | x::xs,h=>by
  rw[List.all_cons,Bool.and_eq_true]at h;have h1:=ih x h.1;have h2:=fN ih xs h.2;refine⟨?_,?_⟩
  ·show((toPy x).canLay0&&PyData.canLayAll0 (eK xs))=true
   rw[h1.1,h2.1];rfl
  ·show max (toPy x).depth (PyData.depthAll (eK xs))<=n
   exact Nat.max_le.mpr ⟨h1.2,h2.2⟩
theorem mP:∀(n:Nat) (x:D),b7 n x=true->(toPy x).canLay0=true/\(toPy x).depth<=n:=by
 intro n
 induction n with
 | zero =>
  intro x h;cases x with
  | tup _=>exact absurd h (by simp [b7])
  | lst _=>exact absurd h (by simp [b7])
  | dct _=>exact absurd h (by simp [b7])
  | exc _=>exact absurd h (by simp [b7])
  | i3 _=>exact absurd h (by simp [b7])
  | dW _=>exact absurd h (by simp [b7])
  | kp _ _ _ _=>exact absurd h (by simp [b7])
  | _=>first|exact⟨rfl,Nat.zero_le _⟩ | (exact⟨by simpa [b7,toPy,PyData.canLay0,PyData.strOk]using h,Nat.zero_le _⟩)
 | succ n ih =>
  intro x h;cases x with
  | tup xs =>
   have:=fN ih xs h;exact⟨this.1,Nat.succ_le_succ this.2⟩
  | lst xs =>
   have:=fN ih xs h;exact⟨this.1,Nat.succ_le_succ this.2⟩
  | dct _=>exact absurd h (by simp [b7])
  | exc _=>exact absurd h (by simp [b7])
  | i3 _=>exact absurd h (by simp [b7])
  | dW _=>exact absurd h (by simp [b7])
  | kp _ _ _ _=>exact absurd h (by simp [b7])
  | _=>first|exact⟨rfl,Nat.zero_le _⟩ | (exact⟨by simpa [b7,toPy,PyData.canLay0,PyData.strOk]using h,Nat.zero_le _⟩)
section
variable {P:Program}{w:World}{F H:Hp}{h:Heap}
mutual
theorem Rep.reads(ok:ig P w H h)(s:aj F H):∀ {v:V} {d:D} {u:Value} (n:Nat),Rep F v d->RelV v u->b7 n d=true->∃as,Reads h u (toPy d) as
 | _,_,_,_,.aW,e,_=>by cases e;exact⟨_,.none⟩
 | _,_,_,_,.bl b,e,_=>by cases e;exact⟨_,.bool b⟩
 | _,_,_,_,.int i,e,_=>by obtain⟨t,rfl⟩:=e;exact⟨_,.int i t⟩
 | _,_,_,_,.str x,e,_=>by obtain⟨t,rfl⟩:=e;exact⟨_,.str x t⟩
 | _,_,_,0,.tup _ _,_,o=>by exact absurd o (by simp [b7])
 | _,_,_,0,.lst _ _,_,o=>by exact absurd o (by simp [b7])
 | _,_,_,n+1,.tup (a:=a) (vs:=vs) hf r,e,o=>by
  cases e;obtain⟨_,its,rv,ob,ho,hc,m,hd⟩:=ok a _ (s a _ hf);obtain⟨as,q⟩:=ay.reads ok s n r rv o;exact⟨as,.tuple ho hc hd q⟩
 | _,_,_,n+1,.lst (a:=a) (vs:=vs) hf r,e,o=>by
  cases e;obtain⟨_,its,m,rv,ho⟩:=L2.Rd.ok (Rd.mono s hf) ok;obtain⟨as,q⟩:=ay.reads ok s n r rv o;exact⟨_,.list ho rfl rfl q⟩
 | _,_,_,n,.i3 _,_,o=>by cases n<;>exact absurd o (by simp [b7])
 | _,_,_,n,.exc _,_,o=>by cases n<;>exact absurd o (by simp [b7])
 | _,_,_,n,.zW _ _,_,o=>by cases n<;>exact absurd o (by simp [b7])
 | _,_,_,n,.dW _ _,_,o=>by cases n<;>exact absurd o (by simp [b7])
 | _,_,_,n,.kp _ _ _,_,o=>by cases n<;>exact absurd o (by simp [b7])
theorem ay.reads(ok:ig P w H h)(s:aj F H):∀ {vs:List V} {ds:List D} {us:List Value} (n:Nat),ay F vs ds->Vals vs us->ds.all (b7 n)=true->∃as,ReadsAll h us (eK ds) as
 | _,_,_,_,.nil,.nil,_=>⟨_,.nil⟩
 | _,_,_,n,.cons r t,.cons e f,o=>by
  rw[List.all_cons,Bool.and_eq_true]at o;obtain⟨as,h1⟩:=Rep.reads ok s n r e o.1;obtain⟨bs,h2⟩:=ay.reads ok s n t f o.2;exact⟨_,.cons h1 h2⟩
end
theorem cA.reads(ok:ig P w H h)(s:aj F H){v:V}{d:D}{u:Value}(r:cA F H v d)(e:RelV v u)(o:b7 8 d=true):∃as,Reads h u (toPy d) as:=by
 cases d with
 | lst xs =>
  obtain⟨a,vs,rfl,hf,r⟩:=r;cases e;obtain⟨_,its,n,rv,ho⟩:=L2.Rd.ok hf ok;obtain⟨as,q⟩:=ay.reads ok s 7 r rv o;exact⟨_,.list ho rfl rfl q⟩
 | dW _=>exact absurd o (by simp [b7])
 | kp _ _ _ _=>exact absurd o (by simp [b7])
 | _=>exact Rep.reads ok s 8 r e o
end
theorem iE{x:D}(h:b7 8 x=true):PySem.SeqAt.shaped (toPy x)=true:=by
 obtain⟨h1,h2⟩:=mP 8 x h;unfold PySem.SeqAt.shaped;rw[h1,decide_eq_true ⋯];rfl
def Iu(neg:Bool):R2:=λv u H Q=>∃F x y,aj F H/\cA F H v x/\cA F H u y/\b7 8 x=true/\b7 8 y=true/\Q (.bl (if neg then !il x y else il x y)) H
theorem Qk{X:Cx}(hu:X.A.units+64<cLine):iO X (compareOp .Eq) (Iu false):=by
 intro pins s σ H v u v' u' Q I rv ru h;obtain⟨F,x,y,sm,rx,ry,ox,oy,q⟩:=h;obtain⟨as,r1⟩:=rx.reads I.bL sm rv ox;obtain⟨bs,r2⟩:=ry.reads I.bL sm ru oy;refine PyProof.Rows.eq_dataH r1 r2 (iE ox) (iE oy) hu ⟨.bl (il x y),H,I,?_,q⟩;rw[wU 8 8 x y ox oy];rfl
theorem Qo{X:Cx}(hu:X.A.units+64<cLine):iO X (compareOp .NotEq) (Iu true):=by
 intro pins s σ H v u v' u' Q I rv ru h;obtain⟨F,x,y,sm,rx,ry,ox,oy,q⟩:=h;obtain⟨as,r1⟩:=rx.reads I.bL sm rv ox;obtain⟨bs,r2⟩:=ry.reads I.bL sm ru oy;refine PyProof.Rows.ne_dataH r1 r2 (iE ox) (iE oy) hu ⟨.bl (!il x y),H,I,?_,q⟩;rw[wU 8 8 x y ox oy];rfl
end Vc
namespace Vc
open PySem L2
variable [KF]
variable {G:GE}{k:Nat}{S:Stat}
def mZ(r:R2)(f:D->D->(Bool->Prop)->Prop):Prop:=
 ∀Y F H ah σ v u x y (Qd:Bool->Prop) (Q:VK),RS Y F ah σ H->cA F H v x->cA F H u y->f x y Qd->(∀b,Qd b->Q (.bl b) H)->r v u H Q
def bq(f:D->D->(Bool->Prop)->Prop)(ta tb:TV):TB:=λσ Q=>ta σ λx av=>tb av λy aH=>match cS aH x,cS aH y with
 | some a,some b=>f a b λr=>Q r aH
 | _,_=>False
def bV(t:TB):TV:=λσ Q=>t σ λb av=>Q (.val (.bl b)) av
theorem pN{Y:aV}{r:R2}{f:D->D->(Bool->Prop)->Prop}(hs:mZ r f){ta tb:TV}{σ:St}{H:Hp}{Q:VK}{F:Hp}{ah:Sd}{Qd:Bool->Sd->Prop}(R:RS Y F ah σ H)(q:bq f ta tb ah Qd)
  (K:∀b H' F' ax,aj F F'->RS Y F' ax σ H'->Qd b ax->Q (.bl b) H'):SW r (lO Y ta) (lO Y tb) σ H Q:=by
 refine⟨F,ah,_,R,q,λv1 H1 F1 x av s1 R1 r1 q1=>?_⟩;refine⟨F1,av,_,R1,q1,λv2 H2 F2 y aH s2 R2 r2 q2=>?_⟩
 split at q2
 ·rename_i a b ea eb
  exact hs Y F2 H2 aH σ v1 v2 a b _ Q R2 (R2.cS (r1.mono s2) ea) (R2.cS r2 eb) q2 λc qc=>K c H2 F2 aH (s1.trans s2) R2 qc
 ·exact q2.elim
def o8(G:GE)(k:Nat)(S:Stat)(op:CmpOp)(f:D->D->(Bool->Prop)->Prop):Prop:=∃r:R2,(∀X Y,c7 X G k S Y->iO X (compareOp op) r)/\mZ r f
theorem bD{op:CmpOp}{f:D->D->(Bool->Prop)->Prop}(h:o8 G k S op f){a b:Expr}{ta tb:TV}{pos:Pos}(ha:EO G k S a ta)(hb:EO G k S b tb)(hm:behindInMarks op b=false:=by first|exact xl _|with_unfolding_all rfl):
  EB G k S (.Compare a [op] [b] pos) (bq f ta tb):=.mk λX Y ok=>by
 obtain⟨r,ho,hs⟩:=h;refine sg (zc (ho X Y ok) (ha X Y ok) (hb X Y ok) hm) λσ H Q q=>?_;obtain⟨F,ah,Qd,R,q,K⟩:=q;exact pN hs R q λb H' F' ax s R' qq=>⟨b,rfl,K b H' F' ax s R' qq⟩
theorem vH{op:CmpOp}{f:D->D->(Bool->Prop)->Prop}(h:o8 G k S op f){a b:Expr}{ta tb:TV}{pos:Pos}(ha:EO G k S a ta)(hb:EO G k S b tb)(hm:behindInMarks op b=false:=by first|exact xl _|with_unfolding_all rfl):
  EO G k S (.Compare a [op] [b] pos) (bV (bq f ta tb)):=.mk λX Y ok=>by
 obtain⟨r,ho,hs⟩:=h;refine aM (Ia (ho X Y ok) (ha X Y ok) (hb X Y ok) hm) λσ H Q q=>?_;obtain⟨F,ah,Qd,R,q,K⟩:=q;exact pN hs R q λb H' F' ax s R' qq=>K _ H' F' (.val (.bl b)) ax s R' (.bl b) qq
def eqT(x y:D)(Q:Bool->Prop):Prop:=(b7 8 x=true/\b7 8 y=true)/\Q (il x y)
def neT(x y:D)(Q:Bool->Prop):Prop:=(b7 8 x=true/\b7 8 y=true)/\Q (!il x y)
theorem qO:o8 G k S .Eq eqT:=⟨Iu false,λX Y ok=>Qk ok.units,λY F H ah σ v u x y Qd Q R rx ry q K=>⟨F,x,y,R.fr,rx,ry,q.1.1,q.1.2,K _ q.2⟩⟩
theorem my:o8 G k S .NotEq neT:=⟨Iu true,λX Y ok=>Qo ok.units,λY F H ah σ v u x y Qd Q R rx ry q K=>⟨F,x,y,R.fr,rx,ry,q.1.1,q.1.2,K _ q.2⟩⟩
def NQ(p:Int->Int->Bool):D->D->(Bool->Prop)->Prop
 | .int i,.int j,Q=>Q (p i j)
 | _,_,_=>False
theorem iw{p:Int->Int->Bool}:mZ (GH λi j=>.bl (p i j)) (NQ p):=λY F H ah σ v u x y Qd Q R rx ry q K=>by
 unfold NQ at q
 split at q
 ·obtain rfl:=rx.int;obtain rfl:=ry.int
  exact⟨_,_,rfl,rfl,K _ q⟩
 ·exact q.elim
def OQ:=NQ λi j=>decide (i<j)
def leT:=NQ λi j=>decide (i<=j)
def Zx:=NQ λi j=>decide (j<i)
def Zw:=NQ λi j=>decide (j<=i)
theorem Lv:o8 G k S .Lt OQ:=⟨_,λ_ _ _=>XH,iw⟩
theorem aah:o8 G k S .LtE leT:=⟨_,λ_ _ _=>XG,iw⟩
theorem UI:o8 G k S .Gt Zx:=⟨_,λ_ _ _=>XF,iw⟩
theorem UH:o8 G k S .GtE Zw:=⟨_,λ_ _ _=>XE,iw⟩
def isNone:D->Bool
 | .aW=>true
 | _=>false
def WN(x y:D)(Q:Bool->Prop):Prop:=isNone y=true/\Q (isNone x)
theorem cA.isNone{F H:Hp}{v:V}{x:D}(r:cA F H v x):decide (v=.aW)=isNone x:=by
 cases x with
 | lst xs=>obtain⟨a,vs,rfl,_⟩:=r;rfl
 | dct _=>cases(show Rep F v (.dct _)from r);rfl
 | exc _=>cases(show Rep F v (.exc _)from r);rfl
 | i3 _=>cases(show Rep F v (.i3 _)from r);rfl
 | dW _=>obtain⟨a,ks,rfl,_⟩:=r;rfl
 | kp _ _ _ _=>obtain⟨a,dx,ad,ks,rfl,_⟩:=r;rfl
 | aW=>obtain rfl:=r.aW;rfl
 | bl _=>obtain rfl:=r.bl;rfl
 | int _=>obtain rfl:=r.int;rfl
 | str _=>obtain rfl:=r.str;rfl
 | tup _=>cases(show Rep F v (.tup _)from r);rfl
theorem cA.O0{F H:Hp}{v:V}{x:D}(r:cA F H v x)(h:Vc.isNone x=true):v=.aW:=by
 cases x<;>first|exact r.aW|cases h
theorem Ls:o8 G k S .Is WN:=⟨_,λ_ _ _=>Ql,λY F H ah σ v u x y Qd Q R rx ry q K=>⟨ry.O0 q.1,by rw[rx.isNone];exact K _ q.2⟩⟩
def Gd:D->(Bool->Prop)->Prop
 | .aW,Q=>Q false
 | .bl b,Q=>Q b
 | .int i,Q=>Q (i != 0)
 | .lst xs,Q=>Q (!xs.isEmpty)
 | .tup xs,Q=>Q (!xs.isEmpty)
 | _,_=>False
def FA(t:TV):TB:=λσ Q=>t σ λx av=>match cS av x with
 | some d=>Gd d λb=>Q b av
 | none=>False
theorem d0{F:Hp}{vs:List V}{xs:List D}(r:ay F vs xs):(!xs.isEmpty)=!vs.isEmpty:=by cases r<;>rfl
theorem xE{e:Expr}{t:TV}(h:EO G k S e t)(he:∀env whole,isTrue e env whole=(do let v <- whole;standAt e.pos;holding [v] (truthy v)):=by intro _ _;rfl):EB G k S e (FA t):=.mk λX Y ok=>by
 refine sg (EY (h X Y ok) (he _)) λσ H Q q=>?_;obtain⟨F,ah,Qd,R,q,K⟩:=q;refine⟨F,ah,_,R,q,λv1 H1 F1 x av s1 R1 r1 q1=>?_⟩
 split at q1
 ·rename_i d ed
  have r:=R1.cS r1 ed;unfold Gd at q1
  split at q1
  ·obtain rfl:=r.aW;exact⟨false,rfl,K _ H1 F1 av s1 R1 q1⟩
  ·rename_i b;obtain rfl:=r.bl;exact⟨b,rfl,K _ H1 F1 av s1 R1 q1⟩
  ·rename_i i;obtain rfl:=r.int;exact⟨_,rfl,K _ H1 F1 av s1 R1 q1⟩
  ·rename_i xs;obtain⟨a,vs,rfl,h1,h2⟩:=r.lst
   exact⟨!xs.isEmpty,.inl ⟨vs,.inl h1,d0 h2⟩,K _ H1 F1 av s1 R1 q1⟩
  ·rename_i xs;obtain⟨a,vs,rfl,h1,h2⟩:=r.tup R1.fr
   exact⟨!xs.isEmpty,.inr (.inl ⟨vs,.inl (.inl h1),d0 h2⟩),K _ H1 F1 av s1 R1 q1⟩
  ·exact q1.elim
 ·exact q1.elim
def qz(t u:TB):TB:=λσ Q=>t σ λc av=>if c=true then u av Q else Q false av
def v9(t u:TB):TB:=λσ Q=>t σ λc av=>if c=true then Q true av else u av Q
def v8(t:TB):TB:=λσ Q=>t σ λc av=>Q (!c) av
structure EW(G:GE)(k:Nat)(S:Stat)(e:Expr)(t:TB) :Prop where
 run:∀X Y,c7 X G k S Y->PW X e (lB Y t)
instance {G:GE} {k:Nat} {S:Stat} {e:Expr} {t:TB} :CoeFun (EW G k S e t) λ_=>∀X Y,c7 X G k S Y->PW X e (lB Y t):=⟨EW.run⟩
theorem pw_imp{X:Cx}{e:Expr}{t t':TT}(h:PW X e t)(i:∀σ H Q,t' σ H Q->t σ H Q):PW X e t':=λwh pins s σ H Q I q=>h wh pins s σ H Q I (i σ H Q q)
section
variable {a b:Expr}{rest:List Expr}{ta tb:TB}{pos:Pos}
theorem Rp(h:EW G k S a ta):EB G k S a ta:=.mk λX Y ok=>(h X Y ok).pt
theorem E3(ha:EB G k S a ta):EW G k S (.BoolOp .And [a] pos) ta:=.mk λX Y ok=>pw_and1 (ha X Y ok)
theorem vJ(ha:EB G k S a ta):EW G k S (.BoolOp .Or [a] pos) ta:=.mk λX Y ok=>pw_or1 (ha X Y ok)
theorem Kl(ha:EB G k S a ta)(hb:EW G k S (.BoolOp .And (b::rest) pos) tb):EW G k S (.BoolOp .And (a::b::rest) pos) (qz ta tb):=.mk λX Y ok=>pw_imp (pw_and (ha X Y ok) (hb X Y ok)) λσ H Q q=>by
 obtain⟨F,ah,Qd,R,q,K⟩:=q;refine⟨F,ah,_,R,q,λc H1 F1 av s1 R1 q1=>?_⟩;cases c with
 | true=>exact⟨F1,av,Qd,R1,q1,λb H' F' ax s R' qq=>K b H' F' ax (s1.trans s) R' qq⟩
 | false=>exact K false H1 F1 av s1 R1 q1
theorem Fc(ha:EB G k S a ta)(hb:EW G k S (.BoolOp .Or (b::rest) pos) tb):EW G k S (.BoolOp .Or (a::b::rest) pos) (v9 ta tb):=.mk λX Y ok=>pw_imp (pw_or (ha X Y ok) (hb X Y ok)) λσ H Q q=>by
 obtain⟨F,ah,Qd,R,q,K⟩:=q;refine⟨F,ah,_,R,q,λc H1 F1 av s1 R1 q1=>?_⟩;cases c with
 | false=>exact⟨F1,av,Qd,R1,q1,λb H' F' ax s R' qq=>K b H' F' ax (s1.trans s) R' qq⟩
 | true=>exact K true H1 F1 av s1 R1 q1
theorem xD(ha:EB G k S a ta):EB G k S (.UnaryOp .Not a pos) (v8 ta):=.mk λX Y ok=>sg (Rh (ha X Y ok)) λσ H Q q=>by
 obtain⟨F,ah,Qd,R,q,K⟩:=q;exact⟨F,ah,_,R,q,λc H1 F1 av s1 R1 q1=>K _ H1 F1 av s1 R1 q1⟩
end
structure GN(G:GE)(k:Nat)(S:Stat)(e:Expr)(t:TB) :Prop where
 run:∀X Y,c7 X G k S Y->PE X e (λσ H Q=>lB Y t σ H λb H'=>Q (.bl b) H')
instance {G:GE} {k:Nat} {S:Stat} {e:Expr} {t:TB} :CoeFun (GN G k S e t) λ_=>∀X Y,c7 X G k S Y->PE X e (λσ H Q=>lB Y t σ H λb H'=>Q (.bl b) H'):=⟨GN.run⟩
section
variable {a b:Expr}{rest:List Expr}{ta tb:TB}{pos:Pos}
def zx(t:TV):TB:=λσ Q=>t σ λx av=>match cS av x with
 | some (.bl b)=>Q b av
 | _=>False
theorem Y9{t:TV}(h:EO G k S a t):GN G k S a (zx t):=.mk λX Y ok=>aM (h X Y ok) λσ H Q q=>by
 obtain⟨F,ah,Qd,R,q,K⟩:=q;refine⟨F,ah,_,R,q,λv1 H1 F1 x av s1 R1 r1 q1=>?_⟩
 split at q1
 ·rename_i b eb
  obtain rfl:=(R1.cS r1 eb).bl;exact K b H1 F1 av s1 R1 q1
 ·exact q1.elim
theorem Za{op:BoolOp}(h:GN G k S a ta):GN G k S (.BoolOp op [a] pos) ta:=.mk λX Y ok=>Ey (h X Y ok)
theorem v_and(ha:GN G k S a ta)(hb:GN G k S (.BoolOp .And (b::rest) pos) tb):GN G k S (.BoolOp .And (a::b::rest) pos) (qz ta tb):=.mk λX Y ok=>aM (QB (ha X Y ok) (hb X Y ok)) λσ H Q q=>by
 obtain⟨F,ah,Qd,R,q,K⟩:=q;refine⟨F,ah,_,R,q,λc H1 F1 av s1 R1 q1=>⟨c,rfl,?_⟩⟩;cases c with
 | true=>exact⟨F1,av,Qd,R1,q1,λb H' F' ax s R' qq=>K b H' F' ax (s1.trans s) R' qq⟩
 | false=>exact K false H1 F1 av s1 R1 q1
theorem abh(h:GN G k S a ta):EO G k S a (bV ta):=.mk λX Y ok=>aM (h X Y ok) λσ H Q q=>by
 obtain⟨F,ah,Qd,R,q,K⟩:=q;exact⟨F,ah,_,R,q,λb H1 F1 av s1 R1 q1=>K _ H1 F1 (.val (.bl b)) av s1 R1 (.bl b) q1⟩
end
end Vc
namespace Vc
open PySem L2
variable [KF]
variable {G:GE}{k:Nat}{S:Stat}
theorem ay.o5{F:Hp}{vs:List V}{xs:List D}{i:Int}{d:D}(r:ay F vs xs)(h:L2.o5 xs i=some d):∃v,L2.o5 vs i=some v/\Rep F v d:=by
 unfold L2.o5 at h ⊢;rw[r.length];cases e:yN xs.length i with
 | none=>rw[e]at h;cases h
 | some j =>
  rw[e]at h;exact r.get (i:=j) h
def Ka:D->D->(D->Prop)->Prop
 | .lst xs,.int i,Q=>match o5 xs i with
  | some d=>Q d
  | none=>False
 | .tup xs,.int i,Q=>match o5 xs i with
  | some d=>Q d
  | none=>False
 | .str z,.int i,Q=>z.length<=sizeLine/\match o5 z.cps.toList i with
  | some c=>Q (.str ⟨#[c]⟩)
  | none=>False
 | .i3 ns,.int i,Q=>match o5 ns i with
  | some n=>Q (.int n)
  | none=>False
 | _,_,_=>False
theorem GY{α β:Type}(f:α->β){xs:List α}{i:Int}{a:α}(h:L2.o5 xs i=some a):L2.o5 (xs.map f) i=some (f a):=by
 unfold L2.o5 at h ⊢;rw[List.length_map];cases e:yN xs.length i with
 | none=>rw[e]at h;cases h
 | some j =>
  rw[e]at h;have h:xs[j]?=some a:=h;show(xs.map f)[j]?=_;rw[List.getElem?_map,h];rfl
def h8(ta tb:TV):TV:=λσ Q=>ta σ λx av=>tb av λy aH=>match cS aH x,cS aH y with
 | some a,some b=>Ka a b λr=>Q (.val r) aH
 | _,_=>False
theorem cZ{a b:Expr}{ta tb:TV}{pos:Pos}(ha:EO G k S a ta)(hb:EO G k S b tb)(hs:x9 b:=by intro _ _;rfl):EO G k S (.Subscript a b pos) (h8 ta tb):=.mk λX Y ok =>
 aM (XZ NY (ha X Y ok) (hb X Y ok) hs) λσ H Q q=>by
  obtain⟨F,ah,Qd,R,q,K⟩:=q;refine⟨F,ah,_,R,q,λv1 H1 F1 x av s1 R1 r1 q1=>?_⟩;refine⟨F1,av,_,R1,q1,λv2 H2 F2 y aH s2 R2 r2 q2=>?_⟩
  split at q2
  ·rename_i a b ea eb
   have rx:=R2.cS (r1.mono s2) ea;have ry:=R2.cS r2 eb;have fin:∀ {v d},Rep F2 v d->Qd (.val d) aH->Q v H2:=λr qq=>K _ H2 F2 (.val _) aH (s1.trans s2) R2 r qq;unfold Ka at q2
   split at q2
   ·obtain⟨p,vs,rfl,h1,r1⟩:=rx.lst;obtain rfl:=ry.int
    split at q2
    ·rename_i d e
     obtain⟨v,ev,rv⟩:=r1.o5 e;exact .inl ⟨p,vs,_,v,rfl,rfl,.inl h1,ev,fin rv q2⟩
    ·exact q2.elim
   ·obtain⟨p,vs,rfl,h1,r1⟩:=rx.tup R2.fr;obtain rfl:=ry.int
    split at q2
    ·rename_i d e
     obtain⟨v,ev,rv⟩:=r1.o5 e;exact .inr (.inl ⟨p,vs,_,v,rfl,rfl,.of h1,ev,fin rv q2⟩)
    ·exact q2.elim
   ·obtain rfl:=rx.str;obtain rfl:=ry.int
    obtain⟨hz,q2⟩:=q2
    split at q2
    ·rename_i c e
     exact .inr (.inr ⟨_,_,c,rfl,rfl,hz,e,fin (.str _) q2⟩)
    ·exact q2.elim
   ·rename_i ns i
    have rx:Rep F2 v1 (.i3 ns):=rx;obtain rfl:=ry.int;cases rx with
    | i3 h =>
     split at q2
     ·rename_i n e
      exact .inl ⟨_,ns.map V.int,_,.int n,rfl,rfl,by rw[ok.kf];exact R2.fr.seq h,GY V.int e,fin (.int _) q2⟩
     ·exact q2.elim
   ·exact q2.elim
  ·exact q2.elim
theorem lE{F:Hp}:∀ns:List Int,ay F (ns.map V.int) (ns.map D.int)
 | []=>.nil
 | n::ns=>.cons (.int n) (lE ns)
theorem cA.i3{F H:Hp}(s:aj F H){v:V}{ns:List Int}(r:cA F H v (.i3 ns)):∃a,v=.ref a/\fF KF.K H a (ns.map V.int):=by
 cases(show Rep F v (.i3 ns)from r)with
 | i3 h=>exact⟨_,rfl,s.seq h⟩
abbrev GQ:=Sd->(Option Int->Sd->Prop)->Prop
def lP(Y:aV)(t:GQ):TO:=λσ H Q=>∃F ah Qd,RS Y F ah σ H/\t ah Qd/\∀o H' F' ax,aj F F'->RS Y F' ax σ H'->Qd o ax->Q o H'
structure Ji(G:GE)(k:Nat)(S:Stat)(e:Option Expr)(t:GQ) :Prop where
 run:∀X Y,c7 X G k S Y->PO X e (lP Y t)
instance {G:GE} {k:Nat} {S:Stat} {e:Option Expr} {t:GQ} :CoeFun (Ji G k S e t) λ_=>∀X Y,c7 X G k S Y->PO X e (lP Y t):=⟨Ji.run⟩
theorem EH{X:Cx}{e:Option Expr}{t t':TO}(h:PO X e t)(i:∀σ H Q,t' σ H Q->t σ H Q):PO X e t':=λpins s σ H Q I q=>h pins s σ H Q I (i σ H Q q)
def T3:GQ:=λσ Q=>Q none σ
def T4(t:TV):GQ:=λσ Q=>t σ λx av=>match cS av x with
 | some (.int i)=>Q (some i) av
 | _=>False
theorem xr:Ji G k S none T3:=.mk λX Y ok=>EH Ij λσ H Q q=>by
 obtain⟨F,ah,Qd,R,q,K⟩:=q;exact K none H F ah (aj.refl _) R q
theorem xt{e:Expr}{t:TV}(h:EO G k S e t):Ji G k S (some e) (T4 t):=.mk λX Y ok=>EH (Ik (h X Y ok)) λσ H Q q=>by
 obtain⟨F,ah,Qd,R,q,K⟩:=q;refine⟨F,ah,_,R,q,λv1 H1 F1 x av s1 R1 r1 q1=>?_⟩
 split at q1
 ·rename_i i e
  obtain rfl:=(R1.cS r1 e).int;exact⟨i,rfl,K _ H1 F1 av s1 R1 q1⟩
 ·exact q1.elim
def cut{α:Type}(xs:List α)(lo hi:Option Int):List α:=(xs.drop (HT.cG xs.length 0 lo)).take (HT.cG xs.length xs.length hi-HT.cG xs.length 0 lo)
theorem ay.cut{F:Hp}{vs:List V}{xs:List D}(r:ay F vs xs)(lo hi:Option Int):ay F (uq vs lo hi) (cut xs lo hi):=by
 unfold uq Vc.cut;rw[r.length];exact(r.drop _).take _
def Z3:D->Option Int->Option Int->(EV->Prop)->Prop
 | .lst xs,lo,hi,Q=>Q (.own (cut xs lo hi))
 | .i3 ns,lo,hi,Q=>Q (.own (cut (ns.map D.int) lo hi))
 | .tup xs,lo,hi,Q=>¬(HT.cG xs.length 0 lo=0/\HT.cG xs.length xs.length hi=xs.length)/\Q (.val (.tup (cut xs lo hi)))
 | _,_,_,_=>False
def Fz(t:TV)(tl th:GQ):TX:=λσ Q=>t σ λx av=>tl av λl aH=>th aH λu c9=>match cS c9 x with
 | some d=>Z3 d l u λr=>Q r c9
 | none=>False
theorem Yk{e:Expr}{lo hi:Option Expr}{t:TV}{tl th:GQ}{p2 pos:Pos}(h:EO G k S e t)(hl:Ji G k S lo tl)(hh:Ji G k S hi th):EX G k S (.Subscript e (.Slice lo hi none p2) pos) (Fz t tl th):=.mk λX Y ok =>
 aM (vF (BM.or zo Fp) (h X Y ok) (hl X Y ok) (hh X Y ok)) λσ H Q q=>by
  obtain⟨F,ah,Qd,R,q,K⟩:=q;refine⟨F,ah,_,R,q,λv1 H1 F1 x av s1 R1 r1 q1=>?_⟩;refine⟨F1,av,_,R1,q1,λl H2 F2 aH s2 R2 q2=>?_⟩;refine⟨F2,aH,_,R2,q2,λu H3 F3 c9 s3 R3 q3=>?_⟩
  split at q3
  ·rename_i d e
   have rx:=R3.cS (r1.mono (s2.trans s3)) e;have g:Goes Y F3 c9 σ (λr=>Qd r c9) Q:=λv H' F' r s R' rr qq=>K v H' F' r c9 (((s1.trans s2).trans s3).trans s) R' rr qq;unfold Z3 at q3
   split at q3
   ·obtain⟨p,vs,rfl,h1,r1⟩:=rx.lst
    exact .inl ⟨p,vs,rfl,.inl h1,g.own R3 (r1.cut _ _) q3⟩
   ·obtain⟨p,rfl,h1⟩:=rx.i3 R3.fr
    exact .inl ⟨p,_,rfl,by rw[ok.kf];exact h1,g.own R3 ((lE _).cut _ _) q3⟩
   ·obtain⟨p,vs,rfl,h1,r1⟩:=rx.tup R3.fr
    exact .inr ⟨p,vs,rfl,.of h1,by rw[r1.length];exact q3.1,g.tup R3 (r1.cut _ _) q3.2⟩
   ·exact q3.elim
  ·exact q3.elim
def tN:et:=λσ Q=>Q [] σ
def bz(t:TD)(u:et):et:=λσ Q=>t σ λx av=>u av λxs aH=>Q (x::xs) aH
theorem aE:wz G k S [] tN:=.mk λX Y ok=>g9 dJ λσ H Q q=>by
 obtain⟨F,ah,Qd,R,q,K⟩:=q;exact K [] H F [] ah (aj.refl _) R .nil q
theorem ao{e:Expr}{es:List Expr}{t:TD}{u:et}(h:ED G k S e t)(hs:wz G k S es u)(he:∀env,starEach (e::es) env=(false,eval e env)::starEach es env:=by exactλ_=>Vc.cT rfl):wz G k S (e::es) (bz t u):=.mk λX Y ok =>
 g9 (cu (h X Y ok) (hs X Y ok) (he _)) λσ H Q q=>by
  obtain⟨F,ah,Qd,R,q,K⟩:=q;refine⟨F,ah,_,R,q,λv1 H1 F1 x av s1 R1 r1 q1=>?_⟩;exact⟨F1,av,_,R1,q1,λvs H2 F2 xs aH s2 R2 r2 q2=>K _ H2 F2 (x::xs) aH (s1.trans s2) R2 (.cons (r1.mono s2) r2) q2⟩
def Fw(t:et):TX:=λσ Q=>t σ λxs av=>xs.length<=sizeLine/\Q (.own xs) av
def tK(t:et):TV:=λσ Q=>t σ λxs av=>xs.length<=sizeLine/\Q (.val (.tup xs)) av
theorem mh{es:List Expr}{t:et}{pos:Pos}(h:wz G k S es t):EX G k S (.List es pos) (Fw t):=.mk λX Y ok=>aM (rV (h X Y ok)) λσ H Q q=>by
 obtain⟨F,ah,Qd,R,q,K⟩:=q;refine⟨F,ah,_,R,q,λvs H1 F1 xs av s1 R1 r1 q1=>⟨by rw[r1.length];exact q1.1,?_⟩⟩
 have g:Goes Y F1 av σ (λr=>Qd r av) Q:=λv H' F' r s R' rr qq=>K v H' F' r av (s1.trans s) R' rr qq;exact g.own R1 r1 q1.2
theorem eE{es:List Expr}{t:et}{x1}{pos:Pos}(h:wz G k S es t):EO G k S (.Tuple es x1 pos) (tK t):=.mk λX Y ok=>aM (QF (h X Y ok)) λσ H Q q=>by
 obtain⟨F,ah,Qd,R,q,K⟩:=q;refine⟨F,ah,_,R,q,λvs H1 F1 xs av s1 R1 r1 q1=>⟨by rw[r1.length];exact q1.1,λp hp=>?_⟩⟩
 have sm:=aD (o:=.tup vs) (same_none R1.fr hp);exact K _ _ _ (.val (.tup xs)) av (s1.trans sm) (R1.alloc hp) (.tup au (r1.mono sm)) q1.2
abbrev yb:=Sd->(List OV->Sd->Prop)->Prop
inductive tZ (F:Hp)(σ:St):List V->List OV->Prop where
 | nil:tZ F σ [] []
 | cons {v:V} {x:OV} {vs:List V} {xs:List OV}:wF F σ v x->tZ F σ vs xs->tZ F σ (v::vs) (x::xs)
def lOs(Y:aV)(t:yb):TA:=λσ H Q=>∃F ah Qd,RS Y F ah σ H/\t ah Qd/\∀vs H' F' xs ax,aj F F'->RS Y F' ax σ H'->tZ F' σ vs xs->Qd xs ax->Q vs H'
structure GL(G:GE)(k:Nat)(S:Stat)(es:List Expr)(t:yb) :Prop where
 run:∀X Y,c7 X G k S Y->PA X es (lOs Y t)
instance {G:GE} {k:Nat} {S:Stat} {es:List Expr} {t:yb} :CoeFun (GL G k S es t) λ_=>∀X Y,c7 X G k S Y->PA X es (lOs Y t):=⟨GL.run⟩
def eM:yb:=λσ Q=>Q [] σ
def bT(t:TV)(u:yb):yb:=λσ Q=>t σ λx av=>u av λxs aH=>Q (x::xs) aH
theorem bK:GL G k S [] eM:=.mk λX Y ok=>g9 dJ λσ H Q q=>by
 obtain⟨F,ah,Qd,R,q,K⟩:=q;exact K [] H F [] ah (aj.refl _) R .nil q
theorem aQ{e:Expr}{es:List Expr}{t:TV}{u:yb}(h:EO G k S e t)(hs:GL G k S es u)(he:∀env,starEach (e::es) env=(false,eval e env)::starEach es env:=by exactλ_=>Vc.cT rfl):GL G k S (e::es) (bT t u):=.mk λX Y ok =>
 g9 (cu (h X Y ok) (hs X Y ok) (he _)) λσ H Q q=>by
  obtain⟨F,ah,Qd,R,q,K⟩:=q;refine⟨F,ah,_,R,q,λv1 H1 F1 x av s1 R1 r1 q1=>?_⟩;exact⟨F1,av,_,R1,q1,λvs H2 F2 xs aH s2 R2 r2 q2=>K _ H2 F2 (x::xs) aH (s1.trans s2) R2 (.cons (r1.mono s2) r2) q2⟩
def kX(σ:Sd):List OV->Option (List D)
 | []=>some []
 | x::xs=>match cS σ x,kX σ xs with
  | some d,some ds=>some (d::ds)
  | _,_=>none
inductive jw (F H:Hp):List V->List D->Prop where
 | nil:jw F H [] []
 | cons {v:V} {x:D} {vs:List V} {xs:List D}:cA F H v x->jw F H vs xs->jw F H (v::vs) (x::xs)
theorem RS.kX{Y:aV}{F:Hp}{ah:Sd}{σ:St}{H:Hp}(R:RS Y F ah σ H):∀ {vs:List V} {xs:List OV} {ds:List D},tZ F σ vs xs->Vc.kX ah xs=some ds->jw F H vs ds
 | _,_,_,.nil,e=>by cases e;exact .nil
 | _,_,_,.cons (x:=x) (xs:=xs) r t,e=>by
  have e:(match Vc.cS ah x,Vc.kX ah xs with|some d,some ds=>some (d::ds)|_,_=>none)=some _:=e
  split at e
  ·rename_i d ds e1 e2
   cases e;exact .cons (R.cS r e1) (RS.kX R t e2)
  ·cases e
theorem jw.one{F H:Hp}{vs:List V}{d:D}(r:jw F H vs [d]):∃v,vs=[v]/\cA F H v d:=by
 cases r with
 | cons r t=>cases t;exact⟨_,rfl,r⟩
theorem jw.two{F H:Hp}{vs:List V}{d e:D}(r:jw F H vs [d,e]):∃v u,vs=[v,u]/\cA F H v d/\cA F H u e:=by
 cases r with
 | cons r t =>
  obtain⟨u,rfl,q⟩:=t.one;exact⟨_,u,rfl,r,q⟩
def pF(r:List V->Hp->VK->Prop)(f:List D->(EV->Prop)->Prop):Prop:=
 ∀Y F H ah σ vs ds (Qd:EV->Prop) (Q:VK),RS Y F ah σ H->jw F H vs ds->f ds Qd->Goes Y F ah σ Qd Q->r vs H Q
def fB(f:List D->(EV->Prop)->Prop)(t:yb):TX:=λσ Q=>t σ λxs av=>match kX av xs with
 | some ds=>f ds λr=>Q r av
 | none=>False
theorem qA{Y:aV}{r:List V->Hp->VK->Prop}{f:List D->(EV->Prop)->Prop}(hs:pF r f){t:yb}{σ:St}{H:Hp}{Q:VK}(q:lX Y (fB f t) σ H Q):tCB r (lOs Y t) σ H Q:=by
 obtain⟨F,ah,Qd,R,q,K⟩:=q;refine⟨F,ah,_,R,q,λvs H1 F1 xs av s1 R1 r1 q1=>?_⟩
 split at q1
 ·rename_i ds e
  exact hs Y F1 H1 av σ vs ds _ Q R1 (R1.kX r1 e) q1 λv H' F' r s R' rr qq=>K v H' F' r av (s1.trans s) R' rr qq
 ·exact q1.elim
def zI(G:GE)(k:Nat)(S:Stat)(f:Value)(g:List D->(EV->Prop)->Prop):Prop:=∃r:PySem.W.Frag->List V->Hp->VK->Prop,(∀X Y,c7 X G k S Y->cV X f (r X.K))/\pF (r KF.K) g
section
variable {x:Str}{p pos:Pos}{e:Expr}{es:List Expr}{t:yb}{id T:String}{g:List D->(EV->Prop)->Prop}
theorem d4(h:zI G k S (.builtin id) g)(hm:G.mg x=none)(ha:GL G k S (e::es) t)(hv:bootBuiltins x=some (.builtin id))(hg:S.sc.lookup x=some .globalImplicit:=by rfl)(hn:x≠"__name__":=by decide)(mB:(x==("__debug__":Str))=false:=by decide)
  (he:∀env,starEach (e::es) env=(false,eval e env)::starEach es env:=by exactλ_=>Vc.cT rfl) (dI:∀env,(backTo pos (starEach es env)).any (·.1)=false:=by intro _;rfl):EX G k S (.Call (.Name x p) (e::es) [] pos) (fB g t):=.mk λX Y ok=>by
 obtain⟨r,hc,hs⟩:=h;exact aM (Eu (hc X Y ok) (eu ok hg) (by rw[ok.mg];exact hm) hv (ha X Y ok) hn mB (he _) (dI _)) λσ H Q q=>qA (by rw[ok.kf];exact hs) q
theorem E5(h:zI G k S (.type T) g)(hm:G.mg x=none)(ha:GL G k S (e::es) t)(hv:bootBuiltins x=some (.type T))(hg:S.sc.lookup x=some .globalImplicit:=by rfl)(hn:x≠"__name__":=by decide)(mB:(x==("__debug__":Str))=false:=by decide)
  (he:∀env,starEach (e::es) env=(false,eval e env)::starEach es env:=by exactλ_=>Vc.cT rfl) (dI:∀env,(backTo pos (starEach es env)).any (·.1)=false:=by intro _;rfl):EX G k S (.Call (.Name x p) (e::es) [] pos) (fB g t):=.mk λX Y ok=>by
 obtain⟨r,hc,hs⟩:=h;exact aM (ly (hc X Y ok) (eu ok hg) (by rw[ok.mg];exact hm) hv (ha X Y ok) hn mB (he _) (dI _)) λσ H Q q=>qA (by rw[ok.kf];exact hs) q
end
def fM:List D->(EV->Prop)->Prop
 | [.lst xs],Q=>Q (.val (.int xs.length))
 | [.tup xs],Q=>Q (.val (.int xs.length))
 | [.i3 ns],Q=>Q (.val (.int ns.length))
 | [.str z],Q=>z.length<=sizeLine/\Q (.val (.int z.length))
 | _,_=>False
theorem f_len:zI G k S (.builtin "len") fM:=⟨λK xs H Q=>(∃p ys,xs=[V.ref p]/\(fF K H p ys\/kR K H p ys)/\Q (V.int ys.length) H)\/∃z,xs=[V.str z]/\z.length<=sizeLine/\Q (V.int z.length) H,λ_ _ _=>qP.or qQ,λY F H ah σ vs ds Qd Q R r q g=>by
 unfold fM at q
 split at q
 ·obtain⟨v,rfl,rv⟩:=r.one
  obtain⟨p,us,rfl,h1,h2⟩:=rv.lst;exact .inl ⟨p,us,rfl,.inl (.inl h1),by rw[h2.length];exact g.val R (.int _) q⟩
 ·obtain⟨v,rfl,rv⟩:=r.one
  obtain⟨p,us,rfl,h1,h2⟩:=rv.tup R.fr;exact .inl ⟨p,us,rfl,.inr (.of h1),by rw[h2.length];exact g.val R (.int _) q⟩
 ·obtain⟨v,rfl,rv⟩:=r.one
  obtain⟨p,rfl,h1⟩:=rv.i3 R.fr;exact .inl ⟨p,_,rfl,.inl h1,by rw[List.length_map];exact g.val R (.int _) q⟩
 ·obtain⟨v,rfl,rv⟩:=r.one
  obtain rfl:=rv.str;exact .inr ⟨_,rfl,q.1,g.val R (.int _) q.2⟩
 ·exact q.elim⟩
def GR:List D->(EV->Prop)->Prop
 | [.int i],Q=>Q (.val (.int (if i<0 then -i else i)))
 | _,_=>False
theorem VG:zI G k S (.builtin "abs") GR:=⟨λ_=>_,λ_ _ _=>BW,λY F H ah σ vs ds Qd Q R r q g=>by
 unfold GR at q
 split at q
 ·obtain⟨v,rfl,rv⟩:=r.one
  obtain rfl:=rv.int;exact⟨_,rfl,g.val R (.int _) q⟩
 ·exact q.elim⟩
def yR:List D->(EV->Prop)->Prop
 | [.int i,.int j],Q=>Q (.val (.int (if j>i then j else i)))
 | _,_=>False
def yS:List D->(EV->Prop)->Prop
 | [.int i,.int j],Q=>Q (.val (.int (if j<i then j else i)))
 | _,_=>False
theorem MP(hh:S.gm=false:=by rfl):zI G k S (.builtin "max") yR:=⟨λ_=>_,λ_ _ ok=>zP (ok.calm hh),λY F H ah σ vs ds Qd Q R r q g=>by
 unfold yR at q
 split at q
 ·obtain⟨v,u,rfl,rv,ru⟩:=r.two
  obtain rfl:=rv.int;obtain rfl:=ru.int;exact⟨_,_,rfl,g.val R (.int _) q⟩
 ·exact q.elim⟩
theorem MR(hh:S.gm=false:=by rfl):zI G k S (.builtin "min") yS:=⟨λ_=>_,λ_ _ ok=>zQ (ok.calm hh),λY F H ah σ vs ds Qd Q R r q g=>by
 unfold yS at q
 split at q
 ·obtain⟨v,u,rfl,rv,ru⟩:=r.two
  obtain rfl:=rv.int;obtain rfl:=ru.int;exact⟨_,_,rfl,g.val R (.int _) q⟩
 ·exact q.elim⟩
def DW:List D->(EV->Prop)->Prop
 | [.int i],Q=>Q (.val (.int i))
 | [.bl b],Q=>Q (.val (.int (if b then 1 else 0)))
 | _,_=>False
theorem f_int:zI G k S (.type "int") DW:=⟨λ_=>_,λ_ _ ok=>zO,λY F H ah σ vs ds Qd Q R r q g=>by
 unfold DW at q
 split at q
 ·obtain⟨v,rfl,rv⟩:=r.one
  obtain rfl:=rv.int;exact .inl ⟨_,rfl,g.val R (.int _) q⟩
 ·obtain⟨v,rfl,rv⟩:=r.one
  obtain rfl:=rv.bl;exact .inr ⟨_,rfl,g.val R (.int _) q⟩
 ·exact q.elim⟩
def qg:List D->(EV->Prop)->Prop
 | [.lst xs],Q=>Q (.own xs)
 | [.tup xs],Q=>Q (.own xs)
 | _,_=>False
theorem f_list:zI G k S (.type "list") qg:=⟨λK xs H Q=>∃p ys,xs=[V.ref p]/\(fF K H p ys\/kR K H p ys)/\∀l,H l=none->Q (.ref l) (upd H l (.lst ys)),λ_ _ ok=>qR,λY F H ah σ vs ds Qd Q R r q g=>by
 unfold qg at q
 split at q
 ·obtain⟨v,rfl,rv⟩:=r.one
  obtain⟨p,us,rfl,h1,h2⟩:=rv.lst;exact⟨p,us,rfl,.inl (.inl h1),g.own R h2 q⟩
 ·obtain⟨v,rfl,rv⟩:=r.one
  obtain⟨p,us,rfl,h1,h2⟩:=rv.tup R.fr;exact⟨p,us,rfl,.inr (.of h1),g.own R h2 q⟩
 ·exact q.elim⟩
def lK:List D->(EV->Prop)->Prop
 | [.lst xs],Q=>Q (.val (.tup xs))
 | [.tup xs],Q=>Q (.val (.tup xs))
 | _,_=>False
theorem yr:zI G k S (.type "tuple") lK:=⟨λK xs H Q=>∃p ys,xs=[V.ref p]/\((fF K H p ys/\∀l,H l=none->Q (.ref l) (upd H l (.tup ys)))\/(kR K H p ys/\Q (.ref p) H)),λ_ _ ok=>pe,λY F H ah σ vs ds Qd Q R r q g=>by
 unfold lK at q
 split at q
 ·obtain⟨v,rfl,rv⟩:=r.one
  obtain⟨p,us,rfl,h1,h2⟩:=rv.lst;exact⟨p,us,rfl,.inl ⟨.inl h1,g.tup R h2 q⟩⟩
 ·obtain⟨v,rfl,rv⟩:=r.one
  have rv':=rv;obtain⟨p,us,rfl,h1,h2⟩:=rv.tup R.fr;exact⟨p,us,rfl,.inr ⟨.of h1,g.val R rv' q⟩⟩
 ·exact q.elim⟩
end Vc
namespace Vc
open PySem L2
variable [KF]
variable {G:GE}{k:Nat}{S:Stat}
structure gJ where
 nx:Sd->Prop
 rt:B->Sd->Prop
 bk:Sd->Prop:=λ_=>False
 ct:Sd->Prop:=λ_=>False
abbrev b5:=gJ->Sd->Prop
def Ur(Y:aV)(F H:Hp)(ah:Sd)(σ:St)(v:V):B->Prop
 | .sh d=>Rep F v d
 | .own xs=>∃a vs,v=.ref a/\H a=some (.lst vs)/\ay F vs xs/\F a=none/\Y.H0 a=none/\cw ah σ a
 | .obj o=>∃a,v=.ref a/\o.rep F H a/\∀b∈o.fp a,F b=none/\H b≠none/\Y.H0 b=none/\cw ah σ b
structure tX(Y:aV)(F:Hp)(De:gJ)(Dn:Ends):Prop where
 nx:∀σ H F' ah,aj F F'->RS Y F' ah σ H->De.nx ah->Dn.nx σ H
 rt:∀v σ H F' ah b,aj F F'->RS Y F' ah σ H->Ur Y F' H ah σ v b->De.rt b ah->Dn.rt v H
 bk:∀σ H F' ah,aj F F'->RS Y F' ah σ H->De.bk ah->Dn.bk σ H
 ct:∀σ H F' ah,aj F F'->RS Y F' ah σ H->De.ct ah->Dn.ct σ H
theorem tX.mono{Y:aV}{F F':Hp}{De:gJ}{Dn:Ends}(h:tX Y F De Dn)(s:aj F F'):tX Y F' De Dn:=
 ⟨λσ H F2 ah s2=>h.nx σ H F2 ah (s.trans s2),λv σ H F2 ah b s2=>h.rt v σ H F2 ah b (s.trans s2),λσ H F2 ah s2=>h.bk σ H F2 ah (s.trans s2),λσ H F2 ah s2=>h.ct σ H F2 ah (s.trans s2)⟩
def lS(Y:aV)(t:b5):TS:=λDn σ H=>∃F ah De,RS Y F ah σ H/\t De ah/\tX Y F De Dn
structure ES(G:GE)(k:Nat)(S:Stat)(st:Stmt)(t:b5) :Prop where
 run:∀X Y,c7 X G k S Y->PS X st (lS Y t)
instance {G:GE} {k:Nat} {S:Stat} {st:Stmt} {t:b5} :CoeFun (ES G k S st t) λ_=>∀X Y,c7 X G k S Y->PS X st (lS Y t):=⟨ES.run⟩
structure dy(G:GE)(k:Nat)(S:Stat)(st:List Stmt)(t:b5) :Prop where
 run:∀X Y,c7 X G k S Y->qI X st (lS Y t)
instance {G:GE} {k:Nat} {S:Stat} {st:List Stmt} {t:b5} :CoeFun (dy G k S st t) λ_=>∀X Y,c7 X G k S Y->qI X st (lS Y t):=⟨dy.run⟩
section
variable {st:Stmt}{rest:List Stmt}{t u:b5}{pos:Pos}
def mw:b5:=λDe σ=>De.nx σ
def ck(t u:b5):b5:=λDe σ=>t {De with nx:=u De} σ
theorem cQ:dy G k S [] mw:=.mk λX Y ok=>se zb λDn σ H q=>by
 obtain⟨F,ah,De,R,q,K⟩:=q;exact K.nx σ H F ah (aj.refl _) R q
theorem az(h1:ES G k S st t)(h2:dy G k S rest u):dy G k S (st::rest) (ck t u):=.mk λX Y ok=>se (vG (h1 X Y ok) (h2 X Y ok)) λDn σ H q=>by
 obtain⟨F,ah,De,R,q,K⟩:=q;refine⟨F,ah,_,R,q,⟨λbh H' F' ax s R' q'=>?_,K.rt,K.bk,K.ct⟩⟩;exact⟨F',ax,De,R',q',K.mono s⟩
theorem aL(h1:ES G k S st t):dy G k S [st] t:=.mk λX Y ok=>sf (h1 X Y ok)
def v7:b5:=λ_ _=>False
theorem iD:ES G k S st v7:=.mk λX Y ok=>b8 ER λDn σ H q=>by
 obtain⟨F,ah,De,R,q,K⟩:=q;exact q
def dt(c:TB)(t u:b5):b5:=λDe σ=>c σ λb av=>if b=true then t De av else u De av
theorem e9{c:Expr}{a b:List Stmt}{tc:TB}(hc:EB G k S c tc)(ha:dy G k S a t)(hb:dy G k S b u):ES G k S (.If c a b pos) (dt tc t u):=.mk λX Y ok=>b8 (Kh (hc X Y ok) (ha X Y ok) (hb X Y ok)) λDn σ H q=>by
 obtain⟨F,ah,De,R,q,K⟩:=q;refine⟨F,ah,_,R,q,λb H1 F1 av s1 R1 q1=>?_⟩;cases b with
 | true=>exact⟨F1,av,De,R1,q1,K.mono s1⟩
 | false=>exact⟨F1,av,De,R1,q1,K.mono s1⟩
def mv(t:TX):b5:=λDe σ=>t σ λ_ av=>De.nx av
theorem bZ{e:Expr}{te:TX}(he:EX G k S e te)(hs:∀line env,swapsWith e none line env=pure false:=by intro _ _;rfl):ES G k S (.Expr e pos) (mv te):=.mk λX Y ok=>b8 (za (he X Y ok) (hs _ _)) λDn σ H q=>by
 obtain⟨F,ah,De,R,q,K⟩:=q;exact⟨F,ah,_,R,q,λv H1 F1 x av s1 R1 r1 q1=>K.nx σ H1 F1 av s1 R1 q1⟩
def fC(ios:List Nat)(t:TX):b5:=λDe σ=>t σ λx av=>match x with
 | .val d=>De.rt (.sh d) av
 | .own xs=>De.rt (.own xs) av
 | .obj o=>De.rt (.obj o) av
 | .any=>False
 | .var i=>match av[i]? with
  | some (some (.own xs))=>i∉ios/\De.rt (.own xs) (av.set i none)
  | some (some (.sh d))=>De.rt (.sh d) av
  | some (some (.obj o))=>ios=[]/\De.rt (.obj o) (av.set i none)
  | _=>False
theorem RS.forget{Y:aV}{F:Hp}{ah:Sd}{σ:St}{H:Hp}{i:Nat}{b:B}(R:RS Y F ah σ H)(e:ah[i]?=some (some b))(bX:∀p∈Y.io,p.1≠i):RS Y F (ah.set i none) σ H where
 len:=by simpa using R.len
 lo:=R.lo
 fr:=R.fr
 dA:=R.dA
 old:=R.old
 sh:=λj d q=>by
  by_cases hj:j=i
  ·subst hj;rw[aS e]at q;cases q
  ·rw[a9 hj]at q;exact R.sh j d q
 own:=λj xs q=>by
  by_cases hj:j=i
  ·subst hj;rw[aS e]at q;cases q
  ·rw[a9 hj]at q;exact R.own j xs q
 dis:=λj l xs ys a q1 q2 q3 q4=>by
  have hj:j≠i:=λz=>by subst z;rw[aS e]at q1;cases q1
  have hl:l≠i:=λz=>by subst z;rw[aS e]at q2;cases q2
  rw[a9 hj]at q1;rw[a9 hl]at q2;exact R.dis j l xs ys a q1 q2 q3 q4
 io:=λp hp=>by
  obtain⟨w1,ys,w2⟩:=R.io p hp;exact⟨w1,ys,by rw[a9 (bX p hp)];exact w2⟩
 ob:=R.ob.put (λ_ _=>rfl) (λ_ z=>nomatch z) λ_ _ z=>nomatch z
theorem RS.OU{Y:aV}{F:Hp}{ah:Sd}{σ:St}{H:Hp}{i:Nat}{xs:List D}(R:RS Y F ah σ H)(h:ah[i]?=some (some (.own xs)))(bX:∀p∈Y.io,p.1≠i){a:Addr}(q1:σ[i]?=some (some (.ref a))):Y.H0 a=none/\a∉Y.J8:=by
 obtain⟨b,vs,w1,w2,w3,w4,w5⟩:=R.own i xs h;rw[q1]at w1;cases w1;have nin:a∉Y.J8:=λq5=>by
  obtain⟨p,hp,e⟩:=List.mem_map.mp q5;obtain⟨z1,ys,z2⟩:=R.io p hp;exact absurd (R.dis p.1 i ys xs a z2 h (by rw[z1,e]) q1) (bX p hp)
 rcases w5 with w5|w5
 ·exact⟨w5,nin⟩
 ·exact absurd w5 nin
theorem bR{e:Expr}{te:TX}(he:EX G k S e te)(aaz:S.wj=false:=by rfl):ES G k S (.Return (some e) pos) (fC S.ios te):=.mk λX Y ok=>b8 (xB (he X Y ok)) λDn σ H q=>by
 obtain⟨F,ah,De,R,q,K⟩:=q;refine⟨F,ah,_,R,q,λv H1 F1 x av s1 R1 r1 q1=>?_⟩;cases x with
 | val d=>exact K.rt v σ H1 F1 av (.sh d) s1 R1 r1 q1
 | own xs=>exact K.rt v σ H1 F1 av (.own xs) s1 R1 r1 q1
 | obj o=>exact K.rt v σ H1 F1 av (.obj o) s1 R1 r1 q1
 | any=>exact False.elim q1
 | var i =>
  have r1:σ[i]?=some (some v):=r1;dsimp only at q1
  split at q1
  ·rename_i xs e
   obtain⟨a,vs,w1,w2,w3,w4,w5⟩:=R1.own i xs e;rw[r1]at w1;cases w1;have bX:∀p∈Y.io,p.1≠i:=λp hp z=>q1.1 (z ▸ ok.ios p hp);refine K.rt _ σ H1 F1 _ (.own xs) s1 (R1.forget e bX) ⟨a,vs,rfl,w2,w3,w4,(R1.OU e bX r1).1,⟨λj ys e2 z=>?_,λ⟨j,o,c,e2,e3,hm⟩=>?_⟩⟩ q1.2
   ·by_cases hj:j=i
    ·subst hj;rw[aS e]at e2;cases e2
    ·rw[a9 hj]at e2
     exact hj (R1.dis j i ys xs a e2 e z r1)
   ·have hj:j≠i:=λz=>by subst z;rw[aS e]at e2;cases e2
    rw[a9 hj]at e2;exact R1.ob.gy i xs a e r1 ⟨j,o,c,e2,e3,hm⟩
  ·rename_i d e
   obtain⟨v2,e2,r2⟩:=R1.sh i d e;rw[r1]at e2;cases e2;exact K.rt v σ H1 F1 av (.sh d) s1 R1 r2 q1
  ·rename_i o e
   obtain⟨a,w1,w2,w3⟩:=R1.ob.obj i o e;rw[r1]at w1;cases w1;have Ak:=ok.obs aaz q1.1;have bX:∀p∈Y.io,p.1≠i:=λp hp z=>by
    have:=ok.ios p hp;rw[q1.1]at this;cases this
   refine K.rt _ σ H1 F1 _ (.obj o) s1 (R1.forget e bX) ⟨a,rfl,w2,λb hb=>⟨(w3 b hb).1,(w3 b hb).2.1,?_,⟨λj ys e2 z=>?_,λ⟨j,o2,c,e2,e3,hm⟩=>?_⟩⟩⟩ q1.2
   ·rcases(w3 b hb).2.2 with z|z
    ·exact z
    ·rw[Ak]at z;cases z
   ·have hj:j≠i:=λz=>by subst z;rw[aS e]at e2;cases e2
    rw[a9 hj]at e2;exact R1.ob.gy j ys b e2 z ⟨i,o,a,e,r1,hb⟩
   ·have hj:j≠i:=λz=>by subst z;rw[aS e]at e2;cases e2
    rw[a9 hj]at e2;exact R1.ob.ng j i o2 o c a e2 e e3 r1 hj b hm hb
  ·exact q1.elim
end
theorem gs{α:Type}{l:List α}{i j:Nat}{x y:α}(h:(l.set i x)[j]?=some y):(j=i/\y=x)\/(j≠i/\l[j]?=some y):=by
 by_cases hj:j=i
 ·subst hj
  by_cases hl:j<l.length
  ·rw[List.getElem?_set_self hl]at h;exact .inl ⟨rfl,(Option.some.inj h).symm⟩
  ·have:(l.set j x)[j]?=none:=by rw[List.getElem?_eq_none_iff];simp;omega
   rw[this]at h;cases h
 ·rw[List.getElem?_set_ne (Ne.symm hj)]at h;exact .inr ⟨hj,h⟩
theorem bo{α:Type}{l:List α}{i j:Nat}{x:α}(h:j≠i):(l.set i x)[j]?=l[j]?:=List.getElem?_set_ne (Ne.symm h)
theorem eO{α:Type}{l:List α}{i:Nat}{x:α}(h:i<l.length):(l.set i x)[i]?=some x:=List.getElem?_set_self h
theorem Dw{α:Type}{l:List α}{i j:Nat}{x y:α}(h:(l.set i x)[j]?=some y):j<l.length:=by
 have:=(List.getElem?_eq_some_iff.mp h).1;simpa using this
theorem RS.zm{Y:aV}{F:Hp}{ah:Sd}{σ:St}{H:Hp}{i:Nat}{d:D}{v:V}(R:RS Y F ah σ H)(r:Rep F v d)(bX:∀p∈Y.io,p.1≠i):RS Y F (ah.set i (some (.sh d))) (σ.set i (some v)) H where
 len:=by simpa using R.len
 lo:=R.lo
 fr:=R.fr
 dA:=R.dA
 old:=R.old
 sh:=λj e q=>by
  rcases gs q with⟨rfl,z⟩|⟨hj,q'⟩
  ·cases z
   exact⟨v,eO (by rw[<- R.len];exact Dw q),r⟩
  ·obtain⟨u,w1,w2⟩:=R.sh j e q'
   exact⟨u,by rw[bo hj];exact w1,w2⟩
 own:=λj xs q=>by
  rcases gs q with⟨_,z⟩|⟨hj,q'⟩
  ·cases z
  ·obtain⟨a,vs,w1,w2⟩:=R.own j xs q'
   exact⟨a,vs,by rw[bo hj];exact w1,w2⟩
 dis:=λj l xs ys a q1 q2 q3 q4=>by
  rcases gs q1 with⟨_,z⟩|⟨hj,q1⟩
  ·cases z
  rcases gs q2 with⟨_,z⟩|⟨hl,q2⟩
  ·cases z
  rw[bo hj]at q3;rw[bo hl]at q4;exact R.dis j l xs ys a q1 q2 q3 q4
 io:=λp hp=>by
  obtain⟨w1,ys,w2⟩:=R.io p hp;exact⟨by rw[bo (bX p hp)];exact w1,ys,by rw[bo (bX p hp)];exact w2⟩
 ob:=R.ob.put (λ_ hj=>bo hj) (λ_ z=>nomatch z) λ_ _ z=>nomatch z
theorem RS.Fo{Y:aV}{F:Hp}{ah:Sd}{σ:St}{H:Hp}{i:Nat}{xs:List D}{a:Addr}{vs:List V}(R:RS Y F ah σ H)(h1:H a=some (.lst vs))(h2:ay F vs xs)(h3:F a=none)(h4:Y.H0 a=none)(h5:cw ah σ a)
  (bX:∀p∈Y.io,p.1≠i):RS Y F (ah.set i (some (.own xs))) (σ.set i (some (.ref a))) H where
 len:=by simpa using R.len
 lo:=R.lo
 fr:=R.fr
 dA:=R.dA
 old:=R.old
 sh:=λj e q=>by
  rcases gs q with⟨_,z⟩|⟨hj,q'⟩
  ·cases z
  ·obtain⟨u,w1,w2⟩:=R.sh j e q'
   exact⟨u,by rw[bo hj];exact w1,w2⟩
 own:=λj ys q=>by
  rcases gs q with⟨rfl,z⟩|⟨hj,q'⟩
  ·cases z
   exact⟨a,vs,eO (by rw[<- R.len];exact Dw q),h1,h2,h3,.inl h4⟩
  ·obtain⟨b,us,w1,w2⟩:=R.own j ys q'
   exact⟨b,us,by rw[bo hj];exact w1,w2⟩
 dis:=λj l ys zs b q1 q2 q3 q4=>by
  rcases gs q1 with⟨rfl,z⟩|⟨hj,q1⟩
  ·rcases gs q2 with⟨e,z⟩|⟨hl,q2⟩
   ·exact e.symm
   ·rw[bo hl]at q4
    rcases gs q3 with⟨_,z3⟩|⟨hc,_⟩
    ·cases z3
     exact absurd q4 (h5 l zs q2)
    ·exact absurd rfl hc
  ·rw[bo hj]at q3
   rcases gs q2 with⟨e2,z⟩|⟨hl,q2⟩
   ·rcases gs q4 with⟨_,z4⟩|⟨hc,_⟩
    ·cases z4
     exact absurd q3 (h5 j ys (by assumption))
    ·exact absurd e2 hc
   ·rw[bo hl]at q4
    exact R.dis j l ys zs b (by assumption) q2 q3 q4
 io:=λp hp=>by
  obtain⟨w1,ys,w2⟩:=R.io p hp;exact⟨by rw[bo (bX p hp)];exact w1,ys,by rw[bo (bX p hp)];exact w2⟩
 ob:=R.ob.put (λ_ hj=>bo hj) (λ_ z=>nomatch z) λys b _ z=>by
  rcases gs z with⟨_,z2⟩|⟨hc,_⟩
  ·cases z2;exact h5.Kd
  ·exact absurd rfl hc
theorem RS.hW{Y:aV}{F:Hp}{ah:Sd}{σ:St}{H:Hp}{i:Nat}{o:O}{a:Addr}(R:RS Y F ah σ H)(h1:o.rep F H a)(h2:∀b∈o.fp a,F b=none/\H b≠none/\Y.H0 b=none/\cw ah σ b)
  (bX:∀p∈Y.io,p.1≠i):RS Y F (ah.set i (some (.obj o))) (σ.set i (some (.ref a))) H where
 len:=by simpa using R.len
 lo:=R.lo
 fr:=R.fr
 dA:=R.dA
 old:=R.old
 sh:=λj e q=>by
  rcases gs q with⟨_,z⟩|⟨hj,q'⟩
  ·cases z
  ·obtain⟨u,w1,w2⟩:=R.sh j e q'
   exact⟨u,by rw[bo hj];exact w1,w2⟩
 own:=λj ys q=>by
  rcases gs q with⟨_,z⟩|⟨hj,q'⟩
  ·cases z
  ·obtain⟨b,us,w1,w2⟩:=R.own j ys q'
   exact⟨b,us,by rw[bo hj];exact w1,w2⟩
 dis:=λj l ys zs b q1 q2 q3 q4=>by
  rcases gs q1 with⟨_,z⟩|⟨hj,q1⟩
  ·cases z
  rcases gs q2 with⟨_,z⟩|⟨hl,q2⟩
  ·cases z
  rw[bo hj]at q3;rw[bo hl]at q4;exact R.dis j l ys zs b q1 q2 q3 q4
 io:=λp hp=>by
  obtain⟨w1,ys,w2⟩:=R.io p hp;exact⟨by rw[bo (bX p hp)];exact w1,ys,by rw[bo (bX p hp)];exact w2⟩
 ob:=by
  have at':∀ {j:Nat} {c:Addr},j=i->(σ.set i (some (.ref a)))[j]?=some (some (.ref c))->c=a:=λ{j c} e z=>by
   subst e;rcases gs z with⟨_,z2⟩|⟨hc,_⟩
   ·cases z2;rfl
   ·exact absurd rfl hc
  refine⟨λj p q=>?_,λj l p p2 c d q1 q2 q3 q4 cC x hx yJ=>?_,λj ys b q1 q2 ⟨l,p,c,q3,q4,hm⟩=>?_,R.ob.there,R.ob.Ja,R.ob.tab⟩
  ·rcases gs q with⟨rfl,z⟩|⟨hj,q'⟩
   ·cases z
    exact⟨a,eO (by rw[<- R.len];exact Dw q),h1,λb hb=>⟨(h2 b hb).1,(h2 b hb).2.1,.inl (h2 b hb).2.2.1⟩⟩
   ·obtain⟨c,w1,w2⟩:=R.ob.obj j p q'
    exact⟨c,by rw[bo hj];exact w1,w2⟩
  ·rcases gs q1 with⟨e1,z⟩|⟨hj,Yb⟩
   ·cases z
    rcases gs q2 with⟨e2,z⟩|⟨hl,q2'⟩
    ·exact cC (e1.trans e2.symm)
    ·rw[bo hl]at q4
     have:=at' e1 q3;subst this;exact(h2 x hx).2.2.2.Kd ⟨l,p2,d,q2',q4,yJ⟩
   ·rw[bo hj]at q3
    rcases gs q2 with⟨e2,z⟩|⟨hl,q2'⟩
    ·cases z
     have:=at' e2 q4;subst this;exact(h2 x yJ).2.2.2.Kd ⟨j,p,c,Yb,q3,hx⟩
    ·rw[bo hl]at q4
     exact R.ob.ng j l p p2 c d Yb q2' q3 q4 cC x hx yJ
  ·rcases gs q1 with⟨_,z⟩|⟨hj,Yb⟩
   ·cases z
   rw[bo hj]at q2;rcases gs q3 with⟨e3,z⟩|⟨hl,q3'⟩
   ·cases z
    have:=at' e3 q4;subst this;exact(h2 b hm).2.2.2 j ys Yb q2
   ·rw[bo hl]at q4
    exact R.ob.gy j ys b Yb q2 ⟨l,p,c,q3',q4,hm⟩
def Z7(ios:List Nat)(i:Nat)(x:EV)(σ:Sd)(Q:Sd->Prop):Prop:=match x with
 | .val d=>Q (σ.set i (some (.sh d)))
 | .own xs=>Q (σ.set i (some (.own xs)))
 | .obj o=>Q (σ.set i (some (.obj o)))
 | .any=>False
 | .var j=>match σ[j]? with
  | some (some (.own xs))=>j∉ios/\Q ((σ.set j (some (.sh (.lst xs)))).set i (some (.sh (.lst xs))))
  | some (some (.sh d))=>Q (σ.set i (some (.sh d)))
  | _=>False
theorem iH{Y:aV}{F:Hp}{ah:Sd}{σ:St}{H:Hp}{i:Nat}{v:V}{x:EV}{ios:List Nat}{Q:Sd->Prop}(R:RS Y F ah σ H)(r:BK Y F H ah σ v x)(hi:i∉ios)(bX:∀p∈Y.io,p.1∈ios)(q:Z7 ios i x ah Q):
  ∃F' ax,aj F F'/\RS Y F' ax (σ.set i (some v)) H/\Q ax:=by
 have h0:∀p∈Y.io,p.1≠i:=λp hp z=>hi (z ▸ bX p hp);cases x with
 | val d=>exact⟨F,_,aj.refl _,R.zm r h0,q⟩
 | own xs =>
  obtain⟨a,vs,rfl,h1,h2,h3,h4,h5⟩:=r;exact⟨F,_,aj.refl _,R.Fo h1 h2 h3 h4 h5 h0,q⟩
 | obj o =>
  obtain⟨a,rfl,h1,h2⟩:=r;exact⟨F,_,aj.refl _,R.hW h1 h2 h0,q⟩
 | any=>exact False.elim q
 | var j =>
  have r:σ[j]?=some (some v):=r;unfold Z7 at q;dsimp only at q
  split at q
  ·rename_i xs e
   obtain⟨F2,v2,s2,R2,e2,r2⟩:=R.kZ e λp hp z=>q.1 (z ▸ bX p hp);rw[r]at e2;cases e2;exact⟨F2,_,s2,R2.zm r2 h0,q.2⟩
  ·rename_i d e
   obtain⟨v2,e2,r2⟩:=R.sh j d e;rw[r]at e2;cases e2;exact⟨F,_,aj.refl _,R.zm r2 h0,q⟩
  ·exact q.elim
def gw(ios:List Nat)(i:Nat)(t:TX):b5:=λDe σ=>t σ λx av=>Z7 ios i x av De.nx
theorem jo{X:Cx}{Y:aV}(ok:c7 X G k S Y){x:Str}(h:S.sc.lookup x=some .local\/(S.sc.lookup x=some .cell/\S.wj=false)):L2.Loc X.env.scope x:=by
 unfold L2.Loc;rw[ok.sc];exact h.imp id (·.1)
theorem jh{X:Cx}{Y:aV}(ok:c7 X G k S Y){x:Str}(h:S.sc.lookup x=some .local\/(S.sc.lookup x=some .cell/\S.wj=false)):X.fn x=true\/X.env.scope.names.lookup x=some .local:=by
 rcases h with h|h
 ·right;rw[ok.sc];exact h
 ·left;exact ok.fn h.2 x h.1
theorem cM(i:Nat){x:Str}{e:Expr}{te:TX}{pos pos':Pos}(he:EX G k S e te)(hi:S.N[i]?=some x:=by rfl)(hx:S.sc.lookup x=some .local\/(S.sc.lookup x=some .cell/\S.wj=false):=by first|exact Or.inl rfl|exact Or.inr ⟨rfl,rfl⟩)(hn:i∉S.ios:=by first|decide|exact List.not_mem_nil | (dsimp only;decide))
  (hs:∀line env,swapsWith e (some (.Name x pos')) line env=pure false:=by intro _ _;rfl):ES G k S (.Assign [.Name x pos'] e pos) (gw S.ios i te):=.mk λX Y ok =>
 b8 (L2.sd (i:=i) (by rw[ok.N];exact ok.nd) (by rw[ok.N];exact hi) (jo ok hx) (he X Y ok) (hs _ _) (jh ok hx)) λDn σ H q=>by
  obtain⟨F,ah,De,R,q,K⟩:=q;refine⟨F,ah,_,R,q,λv H1 F1 y av s1 R1 r1 q1=>?_⟩;obtain⟨F2,aH,s2,R2,q2⟩:=iH R1 r1 hn ok.ios q1;exact K.nx _ H1 F2 aH (s1.trans s2) R2 q2
theorem RS.write{Y:aV}{F:Hp}{ah:Sd}{σ:St}{H:Hp}{i:Nat}{xs ys:List D}{a:Addr}{us:List V}(R:RS Y F ah σ H)(e:ah[i]?=some (some (.own xs)))(h:σ[i]?=some (some (.ref a)))(r:ay F us ys):
  RS Y F (ah.set i (some (.own ys))) σ (upd H a (.lst us)):=by
 obtain⟨b,vs,w1,w2,w3,w4,w5⟩:=R.own i xs e;rw[h]at w1;cases w1;have hl:i<ah.length:=(List.getElem?_eq_some_iff.mp e).1;have Ak:tR Y F (ah.set i (some (.own ys))) σ (upd H a (.lst us)):=R.ob.step (aj.refl _) (λj o q=>by
  rcases gs q with⟨_,z⟩|⟨hj,q⟩
  ·cases z
  ·exact⟨q,rfl⟩) (λb hb=>by
  obtain⟨z1,z2,z3⟩:=R.ob.owned hb;have cC:b≠a:=λz=>R.ob.gy i xs a e h (z ▸ hb);exact⟨ai cC,z1,z3⟩) (λj zs b q1 q2=>by
  rcases gs q1 with⟨e1,_⟩|⟨hj,q1⟩
  ·subst e1
   rw[h]at q2;cases q2;exact R.ob.gy j xs a e h
  ·exact R.ob.gy j zs b q1 q2) λb hb=>by
  by_cases cC:b=a
  ·rw[cC,au];exactλz=>nomatch z
  ·rw[ai cC];exact R.ob.there b hb
 refine⟨by simpa using R.len,R.lo,λb o q=>?_,R.dA,λb o q n=>?_,λj d q=>?_,λj zs q=>?_,λj l zs qs b q1 q2 q3 q4=>?_,λp hp=>?_,Ak⟩
 ·have:b≠a:=λz=>by rw[z,w4]at q;cases q
  rw[ai this];exact R.fr b o q
 ·have:b≠a:=λz=>by
   subst z;rcases w5 with w5|w5
   ·rw[w5]at q;cases q
   ·exact aV.yL n w5
  rw[ai this];exact R.old b o q n
 ·rcases gs q with⟨_,z⟩|⟨hj,q⟩
  ·cases z
  ·exact R.sh j d q
 ·rcases gs q with⟨rfl,z⟩|⟨hj,q⟩
  ·cases z
   exact⟨a,us,h,au,r,w4,w5⟩
  ·obtain⟨b,ws,z1,z2,z3,z4,z5⟩:=R.own j zs q
   have:b≠a:=λz=>hj (R.dis j i zs xs a q e (z ▸ z1) h);exact⟨b,ws,z1,by rw[ai this];exact z2,z3,z4,z5⟩
 ·have f:∀ {m:Nat} {ms:List D},(ah.set i (some (B.own ys)))[m]?=some (some (B.own ms))->∃GF,ah[m]?=some (some (B.own GF)):=λ{m ms} q=>by
   rcases gs q with⟨rfl,z⟩|⟨hj,q⟩
   ·exact⟨xs,e⟩
   ·exact⟨_,q⟩
  obtain⟨_,q1⟩:=f q1;obtain⟨_,q2⟩:=f q2;exact R.dis j l _ _ b q1 q2 q3 q4
 ·obtain⟨z1,zs,z2⟩:=R.io p hp
  refine⟨z1,?_⟩
  by_cases GC:p.1=i
  ·exact⟨ys,by rw[GC,eO hl]⟩
  ·exact⟨zs,by rw[bo GC];exact z2⟩
def vf(σ:Sd)(i:Nat):Prop:=∃xs,σ[i]?=some (some (B.own xs))
def Lk(i:Nat)(d:D)(σ:Sd)(Q:Sd->Prop):Prop:=match σ[i]? with
 | some (some (.own xs))=>xs.length<sizeLine/\Q (σ.set i (some (.own (xs++[d]))))
 | _=>False
def IU(to:TV)(te:TD):TX:=λσ Q=>to σ λx av=>match x with
 | .var i=>vf av i/\te av λd aH=>Lk i d aH λc9=>Q (.val .aW) c9
 | _=>False
theorem E4{o e:Expr}{to:TV}{te:TD}{apos cpos:Pos}(ho:EO G k S o to)(he:ED G k S e te)(hb:∀env,attributeBase o "append" env (eval o env)=eval o env:=by intro _;rfl)
  (rB:∀env,((backTo cpos (starEach [e] env)).all (λx=>!x.1)&&(backToKw cpos (keywordEach [] env)).all (λx=>x.1.isSome)&&decide (([e]:List Expr).length+([]:List Keyword).length+(if([]:List Keyword).isEmpty then 0 else 1)<30))=true:=by intro _;rfl)
  (hline:(apos.endLine==cpos.line)=true:=by rfl) (hs:∀env,starEach [e] env=[(false,eval e env)]:=by intro _;rfl):EX G k S (.Call (.Attribute o "append" apos) [e] [] cpos) (IU to te):=.mk λX Y ok=>by
 have ha:PA X [e] (mr (lD Y te) pC):=cu (he X Y ok) dJ (by rw[hs];rfl)
 refine aM (yW F.plainAttrs_list F.slot_list_append F.type_list_append lq (ho X Y ok) ha (hb _) (rB _) hline (by rw[hs];rfl) (by rfl)) λσ H Q q=>?_
 obtain⟨F,ah,Qd,R,q,K⟩:=q;refine⟨F,ah,_,R,q,λv1 H1 F1 x av s1 R1 r1 q1=>?_⟩;cases x with
 | val d=>exact q1.elim
 | any=>exact q1.elim
 | var i =>
  obtain⟨⟨ys,e0⟩,q1⟩:=q1;have r1:σ[i]?=some (some v1):=r1;obtain⟨a,vs,w1,w2,w3,w4,w5⟩:=R1.own i ys e0;rw[r1]at w1;cases w1;refine⟨.inl ⟨rfl,vs,.of w2⟩,F1,av,_,R1,q1,λv2 H2 F2 d aH s2 R2 r2 q2=>?_⟩;unfold Lk at q2
  split at q2
  ·rename_i xs e2
   obtain⟨b,us,z1,z2,z3,z4,z5⟩:=R2.own i xs e2;rw[r1]at z1;cases z1;exact⟨a,us,v2,rfl,rfl,z2,by rw[z3.length];exact q2.1,K .aW _ F2 (.val .aW) _ (s1.trans s2) (R2.write e2 r1 (z3.append (.cons r2 .nil))) .aW q2.2⟩
  ·exact q2.elim
end Vc
namespace Vc
open PySem L2
variable [KF]
variable {G:GE}{k:Nat}{S:Stat}
abbrev bf:=List D->(B->Prop)->Prop
def BJ(H F H':Hp)(v:V):B->Prop
 | .sh d=>Rep F v d
 | .own xs=>∃a vs,v=.ref a/\H' a=some (.lst vs)/\ay F vs xs/\F a=none/\H a=none
 | .obj o=>∃a,v=.ref a/\o.rep F H' a/\∀b∈o.fp a,F b=none/\H' b≠none/\H b=none
def Fq(sp:bf):Sp:=λvs H Q _=>∃F ds Qd,lL F H/\ay F vs ds/\sp ds Qd /\
 ∀v H' F' b,aj F F'->aj F' H'->aj H H'->(∀c o,F' c=some o->F c=some o\/Nw H c o)->BJ H F' H' v b->Qd b->Q v H'
theorem RS.call{Y:aV}{F F':Hp}{ah:Sd}{σ:St}{H H':Hp}(R:RS Y F ah σ H)(s1:aj F F')(s2:aj F' H')(s3:aj H H')(fr:∀c o,F' c=some o->F c=some o\/Nw H c o):RS Y F' ah σ H' where
 len:=R.len
 lo:=R.lo.trans s1
 fr:=s2
 dA:=λb o e=>by
  rcases fr b o e with h|h
  ·exact R.dA b o h
  ·exact .inr (h.imp (λh=>(R.bw h).1) id)
 old:=λb o e n=>s3 b o (R.old b o e n)
 sh:=λi d e=>by
  obtain⟨v,h1,h2⟩:=R.sh i d e;exact⟨v,h1,h2.mono s1⟩
 own:=λi xs e=>by
  obtain⟨a,vs,h1,h2,h3,h4,h5⟩:=R.own i xs e;refine⟨a,vs,h1,s3 a _ h2,h3.mono s1,?_,h5⟩;cases q:F' a with
  | none=>rfl
  | some o =>
   rcases fr a o q with h|h
   ·rw[h4]at h;cases h
   ·rcases h with h|⟨ws,rfl⟩
    ·rw[h2]at h;cases h
    ·have z:=s2 a _ q;rw[s3 a _ h2]at z;cases z
 dis:=R.dis
 io:=R.io
 ob:=by
  have up:∀b,H b≠none->H' b=H b:=λb hb=>by
   cases q:H b with
   | none=>exact absurd q hb
   | some o=>exact s3 b o q
  refine R.ob.step s1 (λ_ _ e=>⟨e,rfl⟩) (λb hb=>?_) R.ob.gy λb hb=>by rw[up b (R.ob.there b hb)];exact R.ob.there b hb
  obtain⟨w1,w2,w3⟩:=R.ob.owned hb;refine⟨up b w2,?_,w3⟩;cases q:F' b with
  | none=>rfl
  | some o =>
   rcases fr b o q with h|h
   ·rw[w1]at h;cases h
   ·rcases h with h|⟨ws,rfl⟩
    ·exact absurd h w2
    ·exact absurd (by rw[<- up b w2];exact s2 b _ q) (R.ob.Ke hb)
def d5(G:GE)(k:Nat)(x:Str)(sp:bf):Prop:=∃f fd ps,cn G.P G.w G.K G.mg G.base iL k f fd ps (Fq sp)/\G.mg x=some (.ref f)/\PySem.W.keepIn G.K (.ref f)=true/\Binds G.K fd ps []
theorem d5.mono{x:Str}{sp:bf}{j:Nat}(h:d5 G j x sp)(l:j<=k):d5 G k x sp:=by
 obtain⟨f,fd,ps,h1,h2,h3,h4⟩:=h;exact⟨f,fd,ps,h1.mono l,h2,h3,h4⟩
def bE:B->EV
 | .sh d=>.val d
 | .own xs=>.own xs
 | .obj o=>.obj o
def Cl(sp:bf)(ds:List D)(Q:B->Prop):Prop:=sp ds Q
def mq(sp:bf)(t:et):TX:=λσ Q=>t σ λds av=>Cl sp ds λb=>Q (bE b) av
theorem bW{x:Str}{sp:bf}{e:Expr}{es:List Expr}{t:et}{p pos:Pos}(h:d5 G k x sp)(ha:wz G k S (e::es) t)(hg:S.sc.lookup x=some .globalImplicit:=by rfl)(mB:(x==("__debug__":Str))=false:=by decide)
  (he:∀env,starEach (e::es) env=(false,eval e env)::starEach es env:=by exactλ_=>Vc.cT rfl) (dI:∀env,(backTo pos (starEach es env)).any (·.1)=false:=by intro _;rfl) (hh:S.gm=false:=by rfl):EX G k S (.Call (.Name x p) (e::es) [] pos) (mq sp t):=.mk λX Y ok=>by
 obtain⟨f,fd,ps,h1,h2,h3,h4⟩:=h;have uX:cn X.prog X.w X.K X.mg X.base iL k f fd ps (Fq sp):=by rw[ok.P,ok.w,ok.K,ok.mg,ok.base];exact h1
 refine aM (mQ (E:=E0) (dvs:=[]) (ds:=[]) uX (ok.room hh) (eu ok hg) (by rw[ok.mg];exact h2) (by rw[ok.K];exact h3) (by rw[ok.K];exact h4) .nil jX (ha X Y ok) mB (he _) (dI _)) λσ H Q q=>?_
 obtain⟨F,ah,Qd,R,q,K⟩:=q;refine⟨F,ah,_,R,q,λvs H1 F1 ds av s1 R1 r1 q1=>?_⟩;show Fq sp (vs++[]) H1 Q E0;rw[List.append_nil];refine⟨F1,ds,_,⟨R1.fr,R1.ob.tab⟩,r1,q1,λv H' F' b s2 s3 s4 fr r2 q2=>?_⟩;have R2:=R1.call s2 s3 s4 fr;cases b with
 | sh d=>exact K v H' F' (.val d) av (s1.trans s2) R2 r2 q2
 | own xs =>
  obtain⟨a,us,rfl,w1,w2,w3,w4⟩:=r2;refine K _ H' F' (.own xs) av (s1.trans s2) R2 ⟨a,us,rfl,w1,w2,w3,(R1.bw w4).1,R1.b3 w4⟩ q2
 | obj o =>
  obtain⟨a,rfl,w1,w2⟩:=r2;exact K _ H' F' (.obj o) av (s1.trans s2) R2 ⟨a,rfl,w1,λb hb=>⟨(w2 b hb).1,(w2 b hb).2.1,(R1.bw (w2 b hb).2.2).1,R1.b3 (w2 b hb).2.2⟩⟩ q2
def aR(n:Nat)(ds:List D):Sd:=ds.map (λd=>some (.sh d))++List.replicate (n-ds.length) none
theorem oS{F:Hp}:∀ {vs:List V} {ds:List D} (m:Nat) {i:Nat} {d:D},ay F vs ds->(ds.map (λd=>some (B.sh d))++List.replicate m none)[i]?=some (some (.sh d))->∃v,(vs.map some++List.replicate m none)[i]?=some (some v)/\Rep F v d
 | [],[],m,i,d,.nil,e=>by
  simp only[List.map_nil,List.nil_append,List.getElem?_replicate]at e
  split at e<;>cases e
 | v::vs,x::ds,m,0,d,.cons r t,e=>by
  simp at e;subst e;exact⟨v,by simp,r⟩
 | v::vs,x::ds,m,i+1,d,.cons r t,e=>by
  obtain⟨u,h1,h2⟩:=oS (i:=i) m t (by simpa using e)
  exact⟨u,by simpa using h1,h2⟩
theorem fA:∀(ds:List D) (m i:Nat) (xs:List D),(ds.map (λd=>some (B.sh d))++List.replicate m none)[i]?≠some (some (.own xs))
 | [],m,i,xs=>by
  simp only[List.map_nil,List.nil_append,List.getElem?_replicate];intro e
  split at e<;>cases e
 | x::ds,m,0,xs=>by simp
 | x::ds,m,i+1,xs=>by
  have:=fA ds m i xs;simpa using this
theorem lJ:∀(ds:List D) (m i:Nat) (o:O),(ds.map (λd=>some (B.sh d))++List.replicate m none)[i]?≠some (some (.obj o))
 | [],m,i,o=>by
  simp only[List.map_nil,List.nil_append,List.getElem?_replicate];intro e
  split at e<;>cases e
 | x::ds,m,0,o=>by simp
 | x::ds,m,i+1,o=>by
  have:=lJ ds m i o;simpa using this
theorem RS.start{F H:Hp}{vs:List V}{ds:List D}(n:Nat)(s:lL F H)(r:ay F vs ds):RS ⟨H,F,[],[]⟩ F (aR n ds) (vs.map some++List.replicate (n-vs.length) none) H where
 len:=by unfold aR;simp [r.length]
 lo:=aj.refl _
 fr:=s.1
 dA:=λb o e=>.inl e
 old:=λb o e _=>e
 sh:=λi d e=>by
  rw[r.length];exact oS _ r e
 own:=λi xs e=>absurd e (fA _ _ _ _)
 dis:=λi j xs ys a e=>absurd e (fA _ _ _ _)
 io:=λp hp=>absurd hp (by simp)
 ob:=.none (λi o=>lJ _ _ _ _) s.2 λb hb=>by cases hb
theorem Dt{x qual:Str}{st:Stmt}{f:Addr}{fd:FuncData}{N ps:List Str}{sp:bf}{t:b5}(hK:G.K=KF.K)(Fn:A5 G.K x qual st f fd)(Sc:aC N ps (ae st))(ht:dy G k ⟨N,(ae st).names,[],false,false,false,λ_ _=>False⟩ (aq st) t)
  (len:∀ds Q,sp ds Q->ds.length=ps.length)
  (body:∀ds Q,sp ds Q->t {nx:=λ_=>Q (.sh .aW),rt:=λb _=>Q b} (aR N.length ds)):cn G.P G.w G.K G.mg G.base iL (k+1) f fd ps (Fq sp):=by
 refine Fn.ok Sc (λvs H Q E h=>?_) (λik A outer s H vs Q E hr h=>?_)
 ·obtain⟨F,ds,Qd,s,r,q,K⟩:=h
  rw[r.length];exact len _ _ q
 ·obtain⟨F,ds,Qd,sm,r,q,K⟩:=h
  refine⟨_,ht (nc iL G.P G.w G.K G.mg G.base N qual (ae st) f ik A outer s H E).HG ⟨H,F,[],[]⟩ ⟨rfl,rfl,rfl,hK,rfl,rfl,rfl,rfl,Sc.nd,λp hp=>absurd hp (by simp),λ_ _=>rfl,λ_=>rfl,Sc.kind,λ_ _ _=>rfl,λ_=>hr.hd,hr.dp,hr.un,λ_=>PassesOwn.never,λ_=>⟨rfl,rfl,rfl⟩,λ_ _ h=>h.elim,λh=>nomatch h⟩,F,aR N.length ds,_,RS.start _ sm r,body ds Qd q,?_⟩
  have same:∀ {F':Hp} {ah:Sd} {σ:St} {H':Hp},RS ⟨H,F,[],[]⟩ F' ah σ H'->aj H H':=λR b o e=>R.old b o e (by simp [aV.rG])
  refine⟨λσ H' F' ah s' R' q'=>?_,λv σ H' F' ah b s' R' r' q'=>?_,λ_ _ _ _ _ _ h=>h.elim,λ_ _ _ _ _ _ h=>h.elim⟩
  ·exact K .aW H' F' (.sh .aW) s' R'.fr (same R') R'.dA .aW q'
  ·refine K v H' F' b s' R'.fr (same R') R'.dA ?_ q'
   cases b with
   | sh d=>exact r'
   | own xs =>
    obtain⟨a,us,rfl,w1,w2,w3,w4,w5⟩:=r';exact⟨a,us,rfl,w1,w2,w3,w4⟩
   | obj o =>
    obtain⟨a,rfl,w1,w2⟩:=r';exact⟨a,rfl,w1,λb hb=>⟨(w2 b hb).1,(w2 b hb).2.1,(w2 b hb).2.2.1⟩⟩
end Vc
namespace Vc
open PySem L2
variable [KF]
variable {G:GE}{k:Nat}{S:Stat}
abbrev fG:=D->Sd->(Sd->Prop)->Prop
def lG(Y:aV)(g:fG):TG:=λv σ H Q=>∃F ah d Qd,RS Y F ah σ H/\Rep F v d/\g d ah Qd/\∀bh H' F' ax,aj F F'->RS Y F' ax bh H'->Qd ax->Q bh H'
structure EG(G:GE)(k:Nat)(S:Stat)(tg:Expr)(g:fG) :Prop where
 run:∀X Y,c7 X G k S Y->PG X tg (lG Y g)
instance {G:GE} {k:Nat} {S:Stat} {tg:Expr} {g:fG} :CoeFun (EG G k S tg g) λ_=>∀X Y,c7 X G k S Y->PG X tg (lG Y g):=⟨EG.run⟩
theorem Ez{X:Cx}{e:Expr}{t t':TG}(h:PG X e t)(i:∀v σ H Q,t' v σ H Q->t v σ H Q):PG X e t':=λpins s σ H v u Q I r q=>h pins s σ H v u Q I r (i v σ H Q q)
def gB(i:Nat):fG:=λd σ Q=>Q (σ.set i (some (.sh d)))
theorem bG(i:Nat){x:Str}{pos:Pos}(hi:S.N[i]?=some x:=by rfl)(hx:S.sc.lookup x=some .local\/(S.sc.lookup x=some .cell/\S.wj=false):=by first|exact Or.inl rfl|exact Or.inr ⟨rfl,rfl⟩)(hn:i∉S.ios:=by first|decide|exact List.not_mem_nil | (dsimp only;decide)):EG G k S (.Name x pos) (gB i):=.mk λX Y ok =>
 Ez (rW (i:=i) (by rw[ok.N];exact ok.nd) (by rw[ok.N];exact hi) (jo ok hx) (jh ok hx)) λv σ H Q q=>by
  obtain⟨F,ah,d,Qd,R,r,q,K⟩:=q;exact K _ H F _ (aj.refl _) (R.zm r λp hp z=>hn (z ▸ ok.ios p hp)) q
abbrev qJ:=List D->Sd->(Sd->Prop)->Prop
def lGs(Y:aV)(g:qJ):Gy:=λvs σ H Q=>∃F ah ds Qd,RS Y F ah σ H/\ay F vs ds/\g ds ah Qd/\∀bh H' F' ax,aj F F'->RS Y F' ax bh H'->Qd ax->Q bh H'
structure Ti(G:GE)(k:Nat)(S:Stat)(ts:List Expr)(g:qJ) :Prop where
 run:∀X Y,c7 X G k S Y->KO X ts (lGs Y g)
instance {G:GE} {k:Nat} {S:Stat} {ts:List Expr} {g:qJ} :CoeFun (Ti G k S ts g) λ_=>∀X Y,c7 X G k S Y->KO X ts (lGs Y g):=⟨Ti.run⟩
def Np:qJ:=λds σ Q=>match ds with
 | []=>Q σ
 | _=>False
def gC(g:fG)(u:qJ):qJ:=λds σ Q=>match ds with
 | d::r=>g d σ λav=>u r av Q
 | []=>False
theorem rm:Ti G k S [] Np:=.mk λX Y ok pins s σ H vs us Q I r q=>yY pins s σ H vs us Q I r (by
 obtain⟨F,ah,ds,Qd,R,rr,q,K⟩:=q;cases rr with
 | nil=>exact⟨rfl,K σ H F ah (aj.refl _) R q⟩
 | cons _ _=>exact q.elim)
theorem dZ{e:Expr}{es:List Expr}{g:fG}{u:qJ}(h1:EG G k S e g)(h2:Ti G k S es u)(hs:∀env,(assignEach (e::es) env).map (·.2)=assign e env::(assignEach es env).map (·.2):=by intro _;rfl):Ti G k S (e::es) (gC g u):=.mk λX Y ok pins s σ H vs us Q I r q =>
 jY (h1 X Y ok) (h2 X Y ok) (hs _) pins s σ H vs us Q I r (by
  obtain⟨F,ah,ds,Qd,R,rr,q,K⟩:=q;cases rr with
  | nil=>exact q.elim
  | cons r1 rs =>
   refine⟨_,_,rfl,F,ah,_,_,R,r1,q,λav H1 F1 tQ s1 R1 q1=>?_⟩;exact⟨F1,tQ,_,_,R1,rs.mono s1,q1,λaH H2 F2 aO s2 R2 q2=>K aH H2 F2 aO (s1.trans s2) R2 q2⟩)
def Nq(n:Nat)(u:qJ):fG:=λd σ Q=>match d with
 | .tup xs=>xs.length=n/\u xs σ Q
 | _=>False
theorem yz{es:List Expr}{kk:Nat}{u:qJ}{n:Nat}{pos:Pos}(h:Ti G k S es u)(hn:∀env,(assignEach es env).length=n:=by intro _;rfl)(wt:∀env,(assignEach es env).findIdx? (·.1)=none:=by intro _;rfl)(hh:S.gm=false:=by rfl):EG G k S (.Tuple es kk pos) (Nq n u):=.mk λX Y ok =>
 Ez (QH (ok.calm hh) (h X Y ok) (hn _) (wt _)) λv σ H Q q=>by
  obtain⟨F,ah,d,Qd,R,r,q,K⟩:=q;cases d with
  | tup xs =>
   cases r with
   | tup hf rl =>
    exact⟨_,_,rfl,.of (R.fr _ _ hf),by rw[rl.length];exact q.1,F,ah,xs,Qd,R,rl,q.2,K⟩
  | _=>exact q.elim
def Bf(F1 H1 F2 H2:Hp):Prop:=(F2=F1/\H2=H1)\/∃p o,H1 p=none/\F2=upd F1 p o/\H2=upd H1 p o
theorem Bf.same{F1 H1 F2 H2:Hp}(g:Bf F1 H1 F2 H2)(s:aj F1 H1):aj F1 F2:=by
 rcases g with⟨rfl,rfl⟩|⟨p,o,h,rfl,rfl⟩
 ·exact aj.refl _
 ·exact aD (same_none s h)
theorem Bf.rs{Y:aV}{F1 H1 F2 H2:Hp}{ah:Sd}{σ:St}(g:Bf F1 H1 F2 H2)(R:RS Y F1 ah σ H1):RS Y F2 ah σ H2:=by
 rcases g with⟨rfl,rfl⟩|⟨p,o,h,rfl,rfl⟩
 ·exact R
 ·exact R.alloc h
def gM(F:Hp)(J:It)(items:List D):Prop:=∀F1 H1,aj F F1->aj F1 H1->∀i:Nat,
 (∀x,items[i]?=some x->J.go i H1/\∀v H2,J.T6 i H1 v H2->∃F2,Bf F1 H1 F2 H2/\Rep F2 v x)/\(i=items.length->J.stop i H1)
theorem gM.mono{F F':Hp}{J:It}{items:List D}(h:gM F J items)(s:aj F F'):gM F' J items:=λF1 H1 s1=>h F1 H1 (s.trans s1)
def lI(Y:aV)(t:et):TI:=λσ H R=>∃F ah Qd,RS Y F ah σ H/\t ah Qd/\∀H' F' ax J items,aj F F'->RS Y F' ax σ H'->gM F' J items->Qd items ax->R J H'
structure EI(G:GE)(k:Nat)(S:Stat)(tg iter:Expr)(t:et) :Prop where
 run:∀X Y,c7 X G k S Y->PI X tg iter (lI Y t)
instance {G:GE} {k:Nat} {S:Stat} {tg iter:Expr} {t:et} :CoeFun (EI G k S tg iter t) λ_=>∀X Y,c7 X G k S Y->PI X tg iter (lI Y t):=⟨EI.run⟩
theorem rX{X:Cx}{tg e:Expr}{t t':TI}(h:PI X tg e t)(i:∀σ H Q,t' σ H Q->t σ H Q):PI X tg e t':=λpins s σ H Q I q=>h pins s σ H Q I (i σ H Q q)
theorem EC{X:Cx}{tg l:Expr}{tl:TE}(hl:PE X l tl):PI X tg l (λσ H R=>tl σ H λx H1=>(∃a,x=.ref a/\(∃xs,fF X.K H1 a xs)/\R (Zc X.K a) H1)\/(∃a,x=.ref a/\(∃xs,kR X.K H1 a xs)/\R (Itt X.K a) H1)):=by
 intro pins s σ H R I h;refine cm (hl pins s σ H _ I h) λv s1 ⟨x,H1,I1,r1,q1⟩=>?_;rcases q1 with⟨a,e,⟨xs,hq⟩,q⟩|⟨a,e,⟨xs,hq⟩,q⟩
 ·subst e
  cases r1;obtain⟨its,rv,p,hz⟩:=I1.list hq;refine wpAny_pyIter_list p.isList ?_;refine⟨s1.heap.objs.size,[s1.heap.objs.size],_,_,H1,rfl,I1.kept (t':=s1.toks) λb o e=>Heap.get?_push_of_some _ e,A1 a _,⟨_,Heap.get?_push_size _ rfl,rfl,rfl⟩,λb hb=>?_,q⟩;have e:b=s1.heap.objs.size:=by simpa using hb
  subst e;exact I1.Ac (Nat.le_refl _) (I1.bL.fresh (Nat.le_refl _))
 ·subst e
  cases r1;obtain⟨its,rv,p,hz⟩:=I1.tuple hq;refine wpAny_pyIter_tuple (show s1.heap.IsTuple a its.toArray from p) ?_
  refine⟨s1.heap.objs.size,[s1.heap.objs.size],_,_,H1,rfl,I1.kept (t':=s1.toks) λb o e=>Heap.get?_push_of_some _ e,x6 a _,⟨_,Heap.get?_push_size _ rfl,rfl,rfl⟩,λb hb=>?_,q⟩;have e:b=s1.heap.objs.size:=by simpa using hb
  subst e;exact I1.Ac (Nat.le_refl _) (I1.bL.fresh (Nat.le_refl _))
theorem Hj{K:PySem.W.Frag}{F:Hp}{a:Addr}{vs:List V}{xs:List D}(h:Rd F a (.lst vs))(r:ay F vs xs):gM F (Zc K a) xs:=λF1 H1 s1 s2 i=>by
 have hs:fF K H1 a vs:=.inl (Rd.mono (s1.trans s2) h);refine⟨λx e=>?_,λhl=>⟨vs,hs,by rw[r.length,hl];exact Nat.le_refl _⟩⟩
 obtain⟨v,e1,r1⟩:=r.get e;refine⟨⟨vs,v,hs,e1⟩,λv2 H2 y=>?_⟩;obtain⟨rfl,y⟩:=y;have:=y vs hs;rw[e1]at this;cases this;exact⟨F1,.inl ⟨rfl,rfl⟩,r1.mono s1⟩
theorem Hk{K:PySem.W.Frag}{F:Hp}{a:Addr}{vs:List V}{xs:List D}(h:F a=some (.tup vs))(r:ay F vs xs):gM F (Itt K a) xs:=λF1 H1 s1 s2 i=>by
 have hs:kR K H1 a vs:=.of (s2 _ _ (s1 _ _ h));refine⟨λx e=>?_,λhl=>⟨vs,hs,by rw[r.length,hl];exact Nat.le_refl _⟩⟩
 obtain⟨v,e1,r1⟩:=r.get e;refine⟨⟨vs,v,hs,e1⟩,λv2 H2 y=>?_⟩;obtain⟨rfl,y⟩:=y;have:=y vs hs;rw[e1]at this;cases this;exact⟨F1,.inl ⟨rfl,rfl⟩,r1.mono s1⟩
def dg(t:TD):et:=λσ Q=>t σ λd av=>match d with
 | .lst xs=>Q xs av
 | .tup xs=>Q xs av
 | _=>False
theorem gW{tg l:Expr}{t:TD}(h:ED G k S l t):EI G k S tg l (dg t):=.mk λX Y ok=>rX (EC (h X Y ok)) λσ H Q q=>by
 obtain⟨F,ah,Qd,R,q,K⟩:=q;refine⟨F,ah,_,R,q,λv H1 F1 d av s1 R1 r1 q1=>?_⟩;cases d with
 | lst xs =>
  cases r1 with
  | lst hf rl=>exact .inl ⟨_,rfl,⟨_,.inl (Rd.mono R1.fr hf)⟩,K H1 F1 av _ xs s1 R1 (Hj hf rl) q1⟩
 | tup xs =>
  cases r1 with
  | tup hf rl=>exact .inr ⟨_,rfl,⟨_,.of (R1.fr _ _ hf)⟩,K H1 F1 av _ xs s1 R1 (Hk hf rl) q1⟩
 | _=>exact q1.elim
def pq(lo:Int)(n:Nat):List D:=(List.range n).map λi=>.int (lo+(i:Nat))
theorem rK{F:Hp}(lo:Int)(n:Nat):gM F (Tj lo n) (pq lo n):=λF1 H1 s1 s2 i=>by
 refine⟨λx e=>?_,λhl=>?_⟩
 ·unfold pq at e
  rw[List.getElem?_map]at e;have hi:i<n:=by
   by_cases hi:i<n
   ·exact hi
   ·rw[List.getElem?_eq_none_iff.mpr (by simpa using hi)]at e;cases e
  rw[List.getElem?_range hi]at e;cases e;refine⟨hi,λv H2 y=>?_⟩;obtain⟨rfl,rfl⟩:=y;exact⟨F1,.inl ⟨rfl,rfl⟩,.int _⟩
 ·unfold pq at hl
  rw[List.length_map,List.length_range]at hl;exact Nat.le_of_eq hl.symm
def su(t:yb):et:=λσ Q=>t σ λxs av=>match kX av xs with
 | some [.int j]=>(-(2^62)<=j/\j<2^62)/\Q (pq 0 j.toNat) av
 | _=>False
def IB(t:yb):et:=λσ Q=>t σ λxs av=>match kX av xs with
 | some [.int i,.int j]=>(-(2^62)<=i/\i<2^62/\-(2^62)<=j/\j<2^62)/\Q (pq i (j-i).toNat) av
 | _=>False
theorem k6{tg a:Expr}{t:yb}{p pos:Pos}(h:GL G k S [a] t)(hm:G.mg "range"=none)(hg:S.sc.lookup ("range":Str)=some .globalImplicit:=by rfl)(hs:∀env,starEach [a] env=[(false,eval a env)]:=by intro _;rfl):EI G k S tg (.Call (.Name "range" p) [a] [] pos) (su t):=.mk λX Y ok =>
 rX (qm (eu ok hg) (by rw[ok.mg];exact hm) (h X Y ok) (hs _)) λσ H Q q=>by
  obtain⟨F,ah,Qd,R,q,K⟩:=q;refine⟨F,ah,_,R,q,λvs H1 F1 xs av s1 R1 r1 q1=>?_⟩
  split at q1
  ·rename_i j e
   obtain⟨v,rfl,rv⟩:=(R1.kX r1 e).one;obtain rfl:=rv.int;exact⟨j,rfl,q1.1.1,q1.1.2,K H1 F1 av _ _ s1 R1 (rK 0 _) q1.2⟩
  ·exact q1.elim
theorem NP{tg a b:Expr}{t:yb}{p pos:Pos}(h:GL G k S [a,b] t)(hm:G.mg "range"=none)(hg:S.sc.lookup ("range":Str)=some .globalImplicit:=by rfl)(hs:∀env,starEach [a,b] env=[(false,eval a env),(false,eval b env)]:=by intro _;rfl)(wq:∀env,starEach [b] env=[(false,eval b env)]:=by intro _;rfl):EI G k S tg (.Call (.Name "range" p) [a,b] [] pos) (IB t):=.mk λX Y ok =>
 rX (AI (eu ok hg) (by rw[ok.mg];exact hm) (h X Y ok) (hs _) (wq _)) λσ H Q q=>by
  obtain⟨F,ah,Qd,R,q,K⟩:=q;refine⟨F,ah,_,R,q,λvs H1 F1 xs av s1 R1 r1 q1=>?_⟩
  split at q1
  ·rename_i i j e
   obtain⟨v,u,rfl,rv,ru⟩:=(R1.kX r1 e).two;obtain rfl:=rv.int;obtain rfl:=ru.int;exact⟨i,j,rfl,q1.1,K H1 F1 av _ _ s1 R1 (rK i _) q1.2⟩
  ·exact q1.elim
def nr(g:fG)(tb:b5)(De:gJ):List D->Sd->Prop
 | [],σ=>De.nx σ
 | x::xs,σ=>g x σ λav=>tb {De with nx:=nr g tb De xs,ct:=nr g tb De xs,bk:=De.nx} av
def h7(ti:et)(g:fG)(tb:b5):b5:=λDe σ=>ti σ λitems av=>nr g tb De items av
theorem vU{tg iter:Expr}{body:List Stmt}{ti:et}{g:fG}{tb:b5}{pos:Pos}(hi:EI G k S tg iter ti)(hg:EG G k S tg g)(hb:dy G k S body tb)(hs:∀env x,foldedSetIterable iter env x=pure x:=by intro _ _;rfl)(hh:S.gm=false:=by rfl):
  ES G k S (.For tg iter body [] pos) (h7 ti g tb):=.mk λX Y ok=>b8 (xA (ok.po hh) (ok.calm hh) (hi X Y ok) (hg X Y ok) (hb X Y ok) (hs _)) λDn σ H q=>by
 obtain⟨F,ah,De,R,q,K⟩:=q;refine⟨F,ah,_,R,q,λH1 F1 tQ J items s1 R1 it q1=>?_⟩;refine⟨λi m bh H'=>∃F' ax,aj F1 F'/\RS Y F' ax bh H'/\nr g tb De (items.drop i) ax/\m=items.length-i/\i<=items.length,⟨items.length,F1,tQ,aj.refl _,R1,q1,rfl,Nat.zero_le _⟩,?_⟩;rintro i m bh H' ⟨F',ax,s',R',q',rfl,hi⟩;have nE:=it F' H' s' R'.fr i
 by_cases hl:i<items.length
 ·right
  have hd:items.drop i=items[i]::items.drop (i+1):=by rw[List.drop_eq_getElem_cons hl]
  rw[hd]at q';obtain⟨go,yl⟩:=nE.1 items[i] (by rw[List.getElem?_eq_getElem hl])
  refine⟨go,λaH H2=>∃F2 aO,aj F1 F2/\RS Y F2 aO aH H2/\nr g tb De (items.drop (i+1)) aO,λaH H2 ⟨F2,aO,s2,R2,q2⟩=>⟨items.length-(i+1),by omega,F2,aO,s2,R2,q2,rfl,hl⟩,λv H2 y=>?_⟩
  obtain⟨F2,gr,rep⟩:=yl v H2 y;have s2:aj F1 F2:=s'.trans (gr.same R'.fr);refine⟨F2,ax,items[i],_,gr.rs R',rep,q',λc9 H3 F3 Tg s3 R3 q3=>⟨F3,Tg,_,R3,q3,?_⟩⟩;refine⟨λkP H4 F4 cK s4 R4 q4=>⟨F4,cK,(s2.trans s3).trans s4,R4,q4⟩,λv4 kP H4 F4 cK b s4 R4 r4 q4=>K.rt v4 kP H4 F4 cK b (((s1.trans s2).trans s3).trans s4) R4 r4 q4,
   λkP H4 F4 cK s4 R4 q4=>K.nx kP H4 F4 cK (((s1.trans s2).trans s3).trans s4) R4 q4,λkP H4 F4 cK s4 R4 q4=>⟨F4,cK,(s2.trans s3).trans s4,R4,q4⟩⟩
 ·left
  have e:i=items.length:=by omega
  subst e;rw[List.drop_length]at q';exact⟨nE.2 rfl,K.nx bh H' F' ax (s1.trans s') R' q'⟩
end Vc
namespace Vc
open PySem L2
variable [KF]
theorem qS{prog:Program}{w:World}{A:Around}{R:Result->Shared->Prop}{s:Shared}{elt target iter:Expr}{ifs:List Expr}{scope:Scope}{pos:Pos}{it acc:Value}{env:Env}(I:Nat->Shared->Prop)
  (turn:∀n s,I n s->wpAny (model prog w) A (pyNext it) (λr bJ=>match r with
   | none=>R (.ok .next) bJ
   | some v=>wpAny (model prog w) A (letOwnedTupleGo target it v) (λ_ Ko=>wpAny (model prog w) A (assign target env v) (λ_ tH =>
     wpAny (model prog w) A (forIn ifs true λc r=>if r=true then do let ok <- isTrue c env (eval c env);pure (ForInStep.yield ok)else pure (ForInStep.yield r)) (λok vY =>
      if ok=true then wpAny (model prog w) A (eval elt env) (λx IL =>
       wpAny (model prog w) A (call (.builtin "list.append") [acc,x]) (λ_ YS=>∃m,m<n/\I m YS) (λ_ _=>False) IL) (λ_ _=>False) vY
      else∃m,m<n/\I m vY) (λ_ _=>False) tH) (λ_ _=>False) Ko) (λ_ _=>False) bJ) (λ_ _=>False) s)
  (n:Nat) (h:I n s):codeAny (model prog w) A (.compLoop (.ListComp elt [⟨target,iter,ifs,0⟩] scope pos) 0 it acc env) R s:=by
 refine codeAny_loop rfl I (λn s hI=>?_) n h;show wpAny _ A ((compTurn (.ListComp elt [⟨target,iter,ifs,0⟩] scope pos) 0 it acc env).onRaise (λx=>do noteFrame x env;theTreesLotGoes x)) _ _ s
 refine wpAny_noted ?_;rw[compTurn_list];refine wpAny_bind (wpAny_standAt (wpAny_bind (wpAny_mono (turn n s hI) (λr bJ Am=>?_) λ_ _ h'=>h'.elim)));cases r with
 | none=>exact wpAny_pure Am
 | some v =>
  refine wpAny_bind (wpAny_mono Am (λ_ Ko WC=>?_) λ_ _ h'=>h'.elim);refine wpAny_bind (wpAny_mono WC (λ_ tH DV=>wpAny_bind (wpAny_mono DV (λok vY Hf=>?_) λ_ _ h'=>h'.elim)) λ_ _ h'=>h'.elim);cases ok with
  | false=>exact wpAny_pure ⟨rfl,Hf⟩
  | true =>
   exact wpAny_bind (wpAny_bind (wpAny_mono Hf (λx IL aaR=>wpAny_bind (wpAny_mono aaR (λ_ YS aaS=>wpAny_pure (wpAny_pure ⟨rfl,aaS⟩)) λ_ _ h'=>h'.elim)) λ_ _ h'=>h'.elim))
def jc(env:Env):List (Str×NameKind)->List (Str×Addr)->List (Str×Addr)
 | [],cs=>cs
 | (n,k)::r,cs=>if k==.free then jc env r ((n,(env.cells.lookup n).getD 0)::cs)else jc env r cs
theorem m8{env:Env}{scope:Scope}(h:∀x∈scope.names,x.2=.free->∃c,env.cells.lookup x.1=some c):closureFor scope env=pure (jc env scope.names []):=by
 have all:∀(l:List (Str×NameKind)) (cs:List (Str×Addr)),(∀x∈l,x.2=.free->∃c,env.cells.lookup x.1=some c) ->
   (forIn l cs λx cs=>if(x.2==NameKind.free)=true then(do let a <- cellOf env x.1;pure (ForInStep.yield ((x.1,a)::cs)))else pure (ForInStep.yield cs):Sem (List (Str×Addr)))=pure (jc env l cs):=by
  intro l
  induction l with
  | nil=>intro cs _;rfl
  | cons x l ih =>
   intro cs hl;obtain⟨n,k⟩:=x;rw[List.forIn_cons];unfold jc
   by_cases hk:k=.free
   ·subst hk
    obtain⟨c,e⟩:=hl (n,.free) List.mem_cons_self rfl;have e':env.cells.lookup n=some c:=e;simp only[beq_self_eq_true,if_true,cellOf,e',Option.getD_some,pure_bind];exact ih _ λy hy=>hl y (List.mem_cons_of_mem _ hy)
   ·have hb:(k==NameKind.free)=false:=by simpa using hk
    simp only[hb,Bool.false_eq_true,if_false,pure_bind];exact ih _ λy hy=>hl y (List.mem_cons_of_mem _ hy)
 have h1:=all scope.names [] h;have h2:closureFor scope env=((forIn scope.names ([]:List (Str×Addr)) λx cs=>if(x.2==NameKind.free)=true then(do let a <- cellOf env x.1;pure (ForInStep.yield ((x.1,a)::cs)))else pure (ForInStep.yield cs):Sem (List (Str×Addr))) >>= λcs=>pure cs):=rfl
 rw[h2,h1,pure_bind]
theorem cq{env:Env}:∀(l:List (Str×NameKind)) (cs:List (Str×Addr)) (x:Str) (c:Addr),(∀y∈l,y.2=.free->∃c,env.cells.lookup y.1=some c)->(jc env l cs).lookup x=some c->env.cells.lookup x=some c\/cs.lookup x=some c
 | [],cs,x,c,_,h=>.inr h
 | (n,k)::r,cs,x,c,hl,h=>by
  unfold jc at h
  by_cases hk:k=.free
  ·subst hk
   simp only[beq_self_eq_true,if_true]at h;obtain⟨c',e⟩:=hl (n,.free) List.mem_cons_self rfl;have e':env.cells.lookup n=some c':=e;rcases cq r _ x c (λy hy=>hl y (List.mem_cons_of_mem _ hy)) h with q|q
   ·exact .inl q
   ·rw[List.lookup_cons]at q
    cases hx:x==n with
    | true =>
     rw[hx]at q;have:=eq_of_beq hx;subst this;rw[e',Option.getD_some]at q;exact .inl (e'.trans q)
    | false=>rw[hx]at q;exact .inr q
  ·have hb:(k==NameKind.free)=false:=by simpa using hk
   simp only[hb,Bool.false_eq_true,if_false]at h;exact cq r cs x c (λy hy=>hl y (List.mem_cons_of_mem _ hy)) h
theorem kU{env:Env}:∀(l:List (Str×NameKind)) (cs:List (Str×Addr)) (x:Str),(cs.lookup x).isSome=true->((jc env l cs).lookup x).isSome=true
 | [],cs,x,h=>h
 | (n,k)::r,cs,x,h=>by
  unfold jc
  by_cases hk:k=.free
  ·subst hk
   simp only[beq_self_eq_true,if_true];refine kU r _ x ?_;rw[List.lookup_cons];cases hx:x==n with
   | true=>rfl
   | false=>exact h
  ·have hb:(k==NameKind.free)=false:=by simpa using hk
   simp only[hb,Bool.false_eq_true,if_false];exact kU r cs x h
theorem jB{env:Env}:∀(l:List (Str×NameKind)) (cs:List (Str×Addr)) (x:Str),(x,NameKind.free)∈l->((jc env l cs).lookup x).isSome=true
 | (n,k)::r,cs,x,h=>by
  unfold jc;rcases List.mem_cons.mp h with e|e
  ·cases e
   simp only[beq_self_eq_true,if_true];refine kU r _ _ ?_;rw[List.lookup_cons,beq_self_eq_true];rfl
  ·split
   ·exact jB r _ x e
   ·exact jB r cs x e
structure gI(X X':Cx)(scope:Scope)(N':List Str):Prop where
 P:X'.prog=X.prog
 w:X'.w=X.w
 K:X'.K=X.K
 mg:X'.mg=X.mg
 base:X'.base=X.base
 A:X'.A=X.A
 N:X'.N=N'
 sc:X'.env.scope=relabel scope X.env
 calm:X'.calm=true
 xe:X'.xe=λ_ _=>False
def BI(X:Cx)(ifs:List Expr)(t:TT):Prop:=∀(pins:List (Addr×Obj)) (s:Shared) (σ:St) (H:Hp) (Q:Bool->Hp->Prop),L2.Inv X pins σ H s->t σ H Q ->
 wpAny (model X.prog X.w) X.A (forIn ifs true λc r=>if r=true then do let ok <- isTrue c X.env (eval c X.env);pure (ForInStep.yield ok)else pure (ForInStep.yield r)) (TP X pins σ Q) X.xe s
theorem sj{X:Cx}:BI X [] (λ_ H Q=>Q true H):=λpins s σ H Q I h=>wpAny_tests_nil ⟨H,I,h⟩
theorem Io{X:Cx}{c:Expr}{t:TT}(h:PT X c t):BI X [c] t:=λpins s σ H Q I q=>wpAny_tests_one (h pins s σ H Q I q)
def cj(caps:List (Option Nat))(σ:St):St:=caps.map λc=>match c with
 | some j=>(σ[j]?).join
 | none=>none
def f7(wi:TI)(caps:List (Option Nat))(g:TG)(tc:TT)(te:TE):TE:=λσ H Q=>wi σ H λJ H1=>∀acc,H1 acc=none->∃W:Nat->Nat->St->Hp->Prop,(∃m,W 0 m (cj caps σ) (upd H1 acc (.lst [])))/\∀i m av H,W i m av H ->
 (J.stop i H/\Q (.ref acc) H)\/(J.go i H/\∀x H',J.T6 i H x H'->g x av H' λaH H2=>tc aH H2 λb H3=>if b=true then te aH H3 λv H4=>∃ys m',H4 acc=some (.lst ys)/\ys.length<sizeLine/\m'<m/\W (i+1) m' aH (upd H4 acc (.lst (ys++[v])))else∃m',m'<m/\W (i+1) m' aH H3)
theorem fP{env:Env}:∀ {names:List (Str×NameKind)} {x:Str} {k:NameKind},(names.map λ(n,k)=>if(k==NameKind.free&&env.scope.kind==.function&&env.kindOf n==some .cell)then(n,NameKind.cell)else(n,k)).lookup x=some k ->
  names.lookup x=some k\/(k=.cell/\names.lookup x=some .free)
 | [],_,_,h=>by simp at h
 | (n,k')::r,x,k,h=>by
  have ih:=@fP env r x k;have h:List.lookup x ((if(k'==NameKind.free&&env.scope.kind==.function&&env.kindOf n==some .cell)=true then(n,NameKind.cell)else(n,k'))::_)=some k:=h
  cases hx:x==n with
  | true =>
   by_cases hc:(k'==NameKind.free&&env.scope.kind==.function&&env.kindOf n==some .cell)=true
   ·rw[if_pos hc]at h
    simp only[List.lookup_cons,hx]at h ⊢;cases h;simp only[Bool.and_eq_true,beq_iff_eq]at hc;exact .inr ⟨rfl,by rw[hc.1.1]⟩
   ·rw[if_neg hc]at h
    simp only[List.lookup_cons,hx]at h ⊢;exact .inl h
  | false =>
   by_cases hc:(k'==NameKind.free&&env.scope.kind==.function&&env.kindOf n==some .cell)=true
   ·rw[if_pos hc]at h
    simp only[List.lookup_cons,hx]at h ⊢;exact ih h
   ·rw[if_neg hc]at h
    simp only[List.lookup_cons,hx]at h ⊢;exact ih h
theorem j0{env:Env}:∀ {names:List (Str×NameKind)} {x:Str},names.lookup x=some .free ->
  (names.map λ(n,k)=>if(k==NameKind.free&&env.scope.kind==.function&&env.kindOf n==some .cell)then(n,NameKind.cell)else(n,k)).lookup x=some .cell \/
  (names.map λ(n,k)=>if(k==NameKind.free&&env.scope.kind==.function&&env.kindOf n==some .cell)then(n,NameKind.cell)else(n,k)).lookup x=some .free
 | [],_,h=>by simp at h
 | (n,k')::r,x,h=>by
  have ih:=@j0 env r x;show List.lookup x ((if(k'==NameKind.free&&env.scope.kind==.function&&env.kindOf n==some .cell)=true then(n,NameKind.cell)else(n,k'))::_)=some .cell\/List.lookup x ((if(k'==NameKind.free&&env.scope.kind==.function&&env.kindOf n==some .cell)=true then(n,NameKind.cell)else(n,k'))::_)=some .free
  cases hx:x==n with
  | true =>
   simp only[List.lookup_cons,hx]at h
   by_cases hc:(k'==NameKind.free&&env.scope.kind==.function&&env.kindOf n==some .cell)=true
   ·rw[if_pos hc];left;simp only[List.lookup_cons,hx]
   ·rw[if_neg hc];right;simp only[List.lookup_cons,hx];exact h
  | false =>
   simp only[List.lookup_cons,hx]at h
   by_cases hc:(k'==NameKind.free&&env.scope.kind==.function&&env.kindOf n==some .cell)=true
   ·rw[if_pos hc];simp only[List.lookup_cons,hx];exact ih h
   ·rw[if_neg hc];simp only[List.lookup_cons,hx];exact ih h
structure gH(X:Cx)(scope:Scope)(N':List Str)(caps:List (Option Nat)):Prop where
 kind:scope.kind=.function
 nZ:∀y∈scope.names,y.2≠.cell
 names:∀y∈scope.names,y.2=.local->scope.names.lookup y.1=some .local
 free:∀y∈scope.names,y.2=.free->X.env.kindOf y.1=some .cell\/X.env.kindOf y.1=some .free
 len:caps.length=N'.length
 Zj:∀(i:Nat) (j:Nat),caps[i]?=some (some j)->∃x,N'[i]?=some x/\X.N[j]?=some x/\scope.names.lookup x=some .free
section
variable {X:Cx}{pins:List (Addr×Obj)}{σ:St}{H:Hp}{s:Shared}{elt target iter:Expr}{ifs:List Expr}{scope:Scope}{pos:Pos}{N':List Str}{caps:List (Option Nat)}
theorem gH.cells(SC:gH X scope N' caps)(ok:X.Ok):∀x∈scope.names,x.2=.free->∃c,X.env.cells.lookup x.1=some c:=λx hx hf=>ok.has x.1 (SC.free x hx hf)
def GA(X:Cx)(scope:Scope)(N':List Str)(c5:Shared)(qH:Hp)(C:Addr)(fp:List Addr):Cx:=
 {X with N:=N',c5:=c5,qH:=qH,env:=compEnvC scope (jc X.env scope.names []) C X.env,outer:=X.stack,ex:=fp,fn:=λ_=>false,calm:=true,pn:=[],xe:=λ_ _=>False}
theorem L6(I:L2.Inv X pins σ H s)(SC:gH X scope N' caps)(hc:X.calm=true){fp:List Addr}(hf:∀b∈fp,iM X pins H b)(lU:∀b∈fp,b<s.heap.objs.size):(GA X scope N' s H s.heap.objs.size fp).Ok where
 mod:=I.ok.mod
 kind:=SC.kind
 glob:=I.ok.glob
 blt:=I.ok.blt
 above:=Nat.le_refl _
 inj:=λx y c h1 h2=>by
  have f:∀z,(jc X.env scope.names []).lookup z=some c->X.env.cells.lookup z=some c:=λz h=>by
   rcases cq scope.names [] z c (SC.cells I.ok) h with q|q
   ·exact q
   ·cases q
  exact I.ok.inj x y c (f x h1) (f y h2)
 has:=λx hx=>by
  have hx:(relabel scope X.env).names.lookup x=some .cell\/(relabel scope X.env).names.lookup x=some .free:=hx;have yH:scope.names.lookup x=some .free:=by
   rcases hx with hx|hx
   ·rcases fP hx with q|⟨_,q⟩
    ·exact absurd rfl (SC.nZ _ (PySem.mem_of_lookup q))
    ·exact q
   ·rcases fP hx with q|⟨q,_⟩
    ·exact q
    ·cases q
  exact Option.isSome_iff_exists.mp (jB scope.names [] x (PySem.mem_of_lookup yH))
 Tp:=λx c h=>by cases h
 hd:=λ_=>I.ok.hd hc
 frames:=I.ok.frames
 YR:=.inl rfl
 exf:=λb hb=>⟨Nat.ne_of_lt (lU b hb),λx c h=>by
  rcases cq scope.names [] x c (SC.cells I.ok) h with q|q
  ·exact(hf b hb).2.2.2.2.1 x c q
  ·cases q⟩
 bs:=I.bs
 BV:=Nat.le_trans I.ok.BV I.sz
 Ay:=λb o e hb=>by
  rcases(hf b hb).2.2.2.1 with q|q
  ·exact I.ok.Ay b o e q
  ·exact absurd (Nat.lt_of_lt_of_le (Heap.lt_size e) (Nat.le_trans I.ok.BV q)) (Nat.lt_irrefl _)
 Dg:=λb hb z=>by
  rcases List.mem_cons.mp (I.tG b z)with q|q
  ·exact(hf b hb).2.1 q
  ·exact(hf b hb).2.2.1 q
 k4:=I.stack
 JZ:=I.zv
theorem G2(I:L2.Inv X pins σ H s)(SC:gH X scope N' caps)(hc:X.calm=true){fp:List Addr}(hf:∀b∈fp,iM X pins H b)(lU:∀b∈fp,b<s.heap.objs.size){h1:Heap}{t1:Nat}(hn:h1.Ns s.heap.objs.size (λ_=>none))(hk:∀b o,s.heap.get? b=some o->h1.get? b=some o):
  L2.Inv (GA X scope N' s H s.heap.objs.size fp) [] (cj caps σ) H {s with heap:=h1,toks:=t1} where
 ok:=L6 I SC hc hf lU
 os:=rfl
 bare:=I.bare
 base:=Un.kept hk
 loc:=by
  refine⟨_,hn,λi x v e1 e2 _=>?_⟩;have e2:(caps.map λc=>match c with|some j=>(σ[j]?).join|none=>none)[i]?=some (some v):=e2
  rw[List.getElem?_map]at e2;cases ec:caps[i]? with
  | none=>rw[ec]at e2;cases e2
  | some c =>
   rw[ec]at e2;cases c with
   | none=>cases e2
   | some j =>
    have e2:(σ[j]?).join=some v:=Option.some.inj e2;have e3:σ[j]?=some (some v):=by
     cases q:σ[j]? with
     | none=>rw[q]at e2;cases e2
     | some w =>
      rw[q]at e2;cases w with
      | none=>cases e2
      | some z=>cases e2;rfl
    obtain⟨y,w1,w2,w3⟩:=SC.Zj i j ec;have e1:N'[i]?=some x:=e1;rw[w1]at e1;cases e1;have Wi:=SC.free (x,.free) (PySem.mem_of_lookup w3) rfl;obtain⟨m,hm,hl⟩:=I.loc;obtain⟨u,r,l⟩:=hl j x v w2 e3 (.inr Wi);refine⟨u,r,?_⟩;rcases l with⟨k1,_⟩|⟨_,c,Tv,yG⟩
    ·have Wi:X.env.kindOf x=some .cell\/X.env.kindOf x=some .free:=Wi
     rw[k1]at Wi;rcases Wi with z|z<;>cases z
    ·right
     refine⟨j0 w3,c,?_,?_⟩
     ·obtain⟨c',e'⟩:=Option.isSome_iff_exists.mp (jB (env:=X.env) scope.names [] x (PySem.mem_of_lookup w3))
      rcases cq scope.names [] x c' (SC.cells I.ok) e' with q|q
      ·rw[Tv]at q;cases q
       exact e'
      ·cases q
     ·obtain⟨o,ho,hd⟩:=yG
      exact⟨o,hk _ _ ho,hd⟩
 cell:=λx c h=>by
  rcases cq scope.names [] x c (SC.cells I.ok) h with q|q
  ·obtain⟨v,o,ho,hd⟩:=I.cell x c q
   exact⟨v,o,hk _ _ ho,hd⟩
  ·cases q
 free:=I.bL.fresh (Nat.le_refl _)
 gh:=λx c h=>by
  rcases cq scope.names [] x c (SC.cells I.ok) h with q|q
  ·exact I.gh x c q
  ·cases q
 pin:=λp hp=>absurd (show p∈([]:List (Addr×Obj))from hp) (by simp)
 bL:=I.bL.kept hk
 len:=by
  show(caps.map _).length=N'.length;rw[List.length_map];exact SC.len
theorem uo(I:L2.Inv X pins σ H s)(SC:gH X scope N' caps)(hc:X.calm=true){it:Addr}{fp:List Addr}{tn:Nat->Heap->Prop}{J:It}(T:Turn X.prog X.w X.K target J fp it tn)(t0:tn 0 s.heap)(hf:∀b∈fp,iM X pins H b)
  {g:TG} {tc:TT} {te:TE} (Hb:∀X',gI X X' scope N'->PG X' target g/\BI X' ifs tc/\PE X' elt te) {Q:VK}
  (q:∀acc,H acc=none->∃W:Nat->Nat->St->Hp->Prop,(∃m,W 0 m (cj caps σ) (upd H acc (.lst [])))/\∀i m av H,W i m av H ->
   (J.stop i H/\Q (.ref acc) H)\/(J.go i H/\∀x H',J.T6 i H x H'->g x av H' λaH H2=>tc aH H2 λb H3=>if b=true then te aH H3 λv H4=>∃ys m',H4 acc=some (.lst ys)/\ys.length<sizeLine/\m'<m/\W (i+1) m' aH (upd H4 acc (.lst (ys++[v])))else∃m',m'<m/\W (i+1) m' aH H3))
  {E:Value->Shared->Prop} {RR:Value->Addr->Result->Shared->Prop}
  (hRR:∀acc C H' s',L2.Inv X pins σ H' s'->iM X pins H' C->(∃m,s'.heap.Ns C m)->Q (.ref acc) H'->RR (.ref acc) C (.ok .next) s'):
  wpAny (model X.prog X.w) X.A (newList []) (λacc vY=>wpAny (model X.prog X.w) X.A (newFunctionEnv scope X.env.globals (jc X.env scope.names []) [] X.env.qual none .none (some X.env)) (λUK IL =>
   codeAny (model X.prog X.w) X.A (.compStart (.ListComp elt [⟨target,iter,ifs,0⟩] scope pos) 0 (.ref it) acc {UK with scope:=relabel scope X.env}) (RR acc UK.locals) IL) E vY) E s:=by
 refine wpAny_newObj_type ?_;have cI:H s.heap.objs.size=none:=I.bL.fresh (Nat.le_refl _);have I3:L2.Inv X pins σ (upd H s.heap.objs.size (.lst [])) {s with heap:=s.heap.push {cls:=.type "list",dict:=none,data:=.seq ([]:List Value).toArray}}:=I.OJ (t':=s.toks) (its:=[]) (ys:=[]) .nil (Nat.zero_le _)
 obtain⟨W,⟨m0,w0⟩,step⟩:=q _ cI;generalize hs3:({s with heap:=s.heap.push {cls:=.type "list",dict:=none,data:=.seq ([]:List Value).toArray}}:Shared)=s3 at I3 ⊢
 generalize hH3:upd H s.heap.objs.size (.lst [])=H3 at I3 w0;generalize V3:s.heap.objs.size=acc at *;have up3:∀b o,s.heap.get? b=some o->s3.heap.get? b=some o:=λb o e=>by rw[<- hs3];exact Heap.get?_push_of_some _ e
 have VW:∀b∈fp,b<s3.heap.objs.size:=λb hb=>by
  obtain⟨o,e,_⟩:=T.obj 0 _ t0 b hb;exact Heap.lt_size (up3 b o e)
 have ZD:∀b∈fp,iM X pins H3 b:=λb hb=>by
  obtain⟨f0,f⟩:=hf b hb;refine⟨?_,f⟩;obtain⟨o,e,_⟩:=T.obj 0 _ t0 b hb;have:b≠acc:=by rw[<- V3];exact Nat.ne_of_lt (Heap.lt_size e)
  rw[<- hH3,ai this];exact f0
 have t3:tn 0 s3.heap:=T.keep 0 _ _ t0 λb _ o e=>up3 b o e;refine wpAny_newFunctionEnv SC.nZ (by intro y hy;simp at hy) (λh1 ZH sb1=>?_) SC.kind
 have Wj:∀b o,s3.heap.get? b=some o->h1.get? b=some o:=λb o e=>sb1.extBut b o (Nat.ne_of_lt (Heap.lt_size e)) (Heap.get?_push_of_some _ e);have cx:gI X (GA X scope N' s3 H3 s3.heap.objs.size fp) scope N':=⟨rfl,rfl,rfl,rfl,rfl,rfl,rfl,rfl,rfl,rfl⟩;obtain⟨hg,ht,he⟩:=Hb _ cx;have aaF:h1.Ns s3.heap.objs.size (λ_=>none):=by simpa using ZH
 have fpB:∀ {H':Hp},(∀b∈fp,H' b=none)->∀b∈fp,iM (GA X scope N' s3 H3 s3.heap.objs.size fp) [] H' b:=λ{H'} hn b hb=>by
  obtain⟨f0,f1,f2,f3,f4,f5⟩:=ZD b hb;refine⟨hn b hb,Nat.ne_of_lt (VW b hb),?_,.inl hb,λx c h=>?_,λp hp=>absurd (show p∈([]:List (Addr×Obj))from hp) (by simp)⟩
  ·intro z
   rcases List.mem_cons.mp (I3.tG b z)with q|q
   ·exact f1 q
   ·exact f2 q
  ·rcases cq scope.names [] x c (SC.cells I.ok) h with q|q
   ·exact f4 x c q
   ·cases q
 have loop:∀s4:Shared,L2.Inv (GA X scope N' s3 H3 s3.heap.objs.size fp) [] (cj caps σ) H3 s4->tn 0 s4.heap->codeAny (model X.prog X.w) X.A (.compLoop (.ListComp elt [⟨target,iter,ifs,0⟩] scope pos) 0 (.ref it) (.ref acc) (compEnvC scope (jc X.env scope.names []) s3.heap.objs.size X.env)) (RR (.ref acc) s3.heap.objs.size) s4:=by
  intro s4 I4 t4;refine qS (λn s'=>∃i av H',L2.Inv (GA X scope N' s3 H3 s3.heap.objs.size fp) [] av H' s'/\tn i s'.heap/\(∀b∈fp,H' b=none)/\W i n av H') ?_ m0 ⟨0,_,H3,I4,t4,λb hb=>(ZD b hb).1,w0⟩;rintro n s5 ⟨i,av,H5,I5,TY,Ad,w5⟩;rcases step i n av H5 w5 with⟨stop,qn⟩|⟨go,body⟩
  ·refine cm (T.done (GA X scope N' s3 H3 s3.heap.objs.size fp) rfl rfl rfl rfl i [] s5 av H5 _ I5 (fpB Ad) TY stop) λr s6 ⟨hr,I6⟩=>?_
   subst hr;have u:=I6.base;refine hRR acc _ H5 s6 (I3.UJ (ch:=fp) I6.os u I6.bL I6.bare λb hb=>?_) (I3.Ac (Nat.le_refl _) I6.free) ?_ qn
   ·obtain⟨f0,f1,f2,f3,f4,f5⟩:=ZD b hb
    exact⟨f3.imp id λz=>Heap.get?_none_of_le z,f1,f4,f5⟩
   ·obtain⟨m,hm,_⟩:=I6.loc
    exact⟨m,hm⟩
  ·refine cm (T.item (GA X scope N' s3 H3 s3.heap.objs.size fp) rfl rfl rfl rfl i [] s5 av H5 _ I5 (fpB Ad) TY go) λr s6 ⟨u,hr,h6⟩=>?_
   subst hr;refine cm h6 λ_ s7 ⟨x,H7,I7,r7,y7,st7,fr7⟩=>?_;have I7':=I7.pinned (fpB fr7) (T.obj _ _ st7);have back:∀ {GJ:St} {H8:Hp} {s8:Shared},L2.Inv (GA X scope N' s3 H3 s3.heap.objs.size fp) ([]++lA fp s7.heap) GJ H8 s8->L2.Inv (GA X scope N' s3 H3 s3.heap.objs.size fp) [] GJ H8 s8/\tn (i+1) s8.heap/\∀b∈fp,H8 b=none:=λ{GJ H8 s8} I8=>by
    refine⟨I8.h9,T.keep _ _ _ st7 λb hb o e=>(I8.pin (b,o) (List.mem_append_right _ (List.mem_append_right _ (eC hb e)))).1,λb hb=>?_⟩;obtain⟨o,e,d⟩:=T.obj _ _ st7 b hb;exact(I8.pin (b,o) (List.mem_append_right _ (List.mem_append_right _ (eC hb e)))).2.1
   refine cm (hg _ s7 av H7 x u _ I7' r7 (body x H7 y7)) λ_ s8 ⟨GJ,H8,I8,q8⟩=>?_;refine cm (ht _ s8 GJ H8 _ I8 q8) λb s9 ⟨H9,I9,q9⟩=>?_;cases b with
   | false =>
    obtain⟨m',hm,w9⟩:=q9;obtain⟨J1,J2,J3⟩:=back I9;exact⟨m',hm,i+1,GJ,H9,J1,J2,J3,w9⟩
   | true =>
    refine cm (he _ s9 GJ H9 _ I9 q9) λy s10 ⟨v,H10,I10,r10,ys,m',e10,hz,hm,w10⟩=>?_;refine cm (lq _ s10 GJ H10 (.ref acc) [v] (.ref acc) [y] (λz H11=>z=.aW/\W (i+1) m' GJ H11) I10 rfl (.cons r10 .nil) ⟨acc,ys,v,rfl,rfl,e10,hz,rfl,w10⟩) λ_ s11 ⟨_,H11,I11,_,_,w11⟩=>?_;obtain⟨J1,J2,J3⟩:=back I11;exact⟨m',hm,i+1,GJ,H11,J1,J2,J3,w11⟩
 have I4:=G2 (caps:=caps) (N':=N') I3 SC hc ZD VW (t1:=s3.toks+([]:List (Str×Value)).length) aaF Wj;have t4:tn 0 h1:=T.keep 0 _ _ t3 λb _ o e=>Wj b o e;exact codeAny_compStart_list (loop _ I4 t4) (T.self X.A 0 _ _ _ t4 (loop _ I4 t4))
end
end Vc
namespace Vc
open PySem L2
variable [KF]
section
variable {X:Cx}{elt target iter:Expr}{ifs:List Expr}{scope:Scope}{pos:Pos}{N':List Str}{caps:List (Option Nat)}{wi:TI}{g:TG}{tc:TT}{te:TE}
theorem yx{pins:List (Addr×Obj)}{σ:St}{H:Hp}{s:Shared}{C:Addr}{h':Heap}(f:iM X pins H C)(I:L2.Inv X pins σ H s)(hs:Heap.SameBut C s.heap h'):L2.Inv X pins σ H {s with heap:=h'}:=by
 obtain⟨f0,f1,f2,f3,f4,f5⟩:=f;exact I.turned (t':=s.toks) (λb o hb e=>hs.extBut b o hb e) f0 f1 f3 f4 f5
theorem eQ(hc:X.calm=true)(hi:PI X target iter wi)(SC:gH X scope N' caps)(Hb:∀X',gI X X' scope N'->PG X' target g/\BI X' ifs tc/\PE X' elt te)(hs:∀x,foldedSetIterable iter X.env x=pure x):
  PE X (.ListComp elt [⟨target,iter,ifs,0⟩] scope pos) (f7 wi caps g tc te):=by
 intro pins s σ H Q I h;rw[eval_ListComp];refine wpAny_comprehension_free (use:=none) rfl hs (m8 (SC.cells I.ok)) SC.kind SC.names (cm (hi pins s σ H _ I h) λv s1 h1=>cm h1 λZR s2 h2=>?_);obtain⟨it,fp,tn,J,H2,rfl,I2,T,t0,f2,q2⟩:=h2;exact uo I2 SC hc T t0 f2 Hb q2 (RR:=λacc C=>compPost (model X.prog X.w) X.A X.xe none (EP X pins σ Q) acc C) λacc C H' s' I' f' ⟨m,hm⟩ q'=>⟨m,hm,λh' wo=>⟨.ref acc,H',yx f' I' wo,rfl,q'⟩⟩
theorem rZ{i:Nat}{y:Str}{py dQ:Pos}(hc:X.calm=true)(hi:PI X target iter wi)(SC:gH X scope N' caps)(Hb:∀X',gI X X' scope N'->PG X' target g/\BI X' ifs tc/\PE X' elt te)(hs:∀x,foldedSetIterable iter X.env x=pure x)
  (hN:X.N.Nodup) (hy:X.N[i]?=some y) (hx:X.env.scope.names.lookup y=some .local) (hsw:swapsWith (.ListComp elt [⟨target,iter,ifs,0⟩] scope pos) (some (.Name y py)) dQ.line X.env=pure true):
  PS X (.Assign [.Name y py] (.ListComp elt [⟨target,iter,ifs,0⟩] scope pos) dQ) (AY (f7 wi caps g tc te) (jF i)):=by
 intro pins s σ H D I h;rw[exec_Assign_Name_used _ _ _ _ hsw];refine wpAny_bind (wpAny_standAt (wpAny_bind ?_));show wpAny _ X.A (do let _ <- comprehension (.ListComp elt [⟨target,iter,ifs,0⟩] scope pos) scope X.env _ (newList []) false (eval iter X.env) (some (assign (.Name y py) X.env))) _ _ s
 refine wpAny_bind (wpAny_mono (wpAny_comprehension_free (use:=some (assign (.Name y py) X.env)) (Q:=λ_ s'=>SP X pins D .next s') rfl hs (m8 (SC.cells I.ok)) SC.kind SC.names (cm (hi pins s σ H _ I h) λv s1 h1=>cm h1 λZR s2 h2=>?_))
  (λ_ s' hq=>wpAny_pure (wpAny_pure hq)) λ_ _ e=>e)
 obtain⟨it,fp,tn,J,H2,rfl,I2,T,t0,f2,q2⟩:=h2;refine uo (Q:=λx H1=>jF i x σ H1 D.nx) I2 SC hc T t0 f2 Hb q2 (RR:=λacc C=>compPost (model X.prog X.w) X.A X.xe (some (assign (.Name y py) X.env)) (λ_ s'=>SP X pins D .next s') acc C) λacc C H' s' I' f' ⟨m,hm⟩ q'=>?_;show wpAny _ X.A (assign (.Name y py) X.env (.ref acc)) _ _ s';obtain⟨o,es,ep,ho,hd,r⟩:=id hm;have Ip:L2.Inv X (pins++lA [C] s'.heap) σ H' s':=I'.pinned (fp:=[C]) (λb hb=>(show b=C by simpa using hb) ▸ f') (λb hb=>by
  have e:b=C:=by simpa using hb
  subst e;exact⟨o,ho,λv z=>by rw[hd]at z;cases z⟩)
 refine wpAny_assign_Name (oT Ip hN hy (.inl hx) (show RelV (.ref acc) (.ref acc)from rfl) (λYp I''=>?_) (.inr hx))
 have hC:Yp.heap.get? C=some o:=(I''.pin (C,o) (List.mem_append_right _ (List.mem_append_right _ (eC (by simp) ho)))).1
 exact⟨m,⟨o,es,ep,hC,hd,r⟩,λh' wo=>⟨_,H',yx f' I''.h9 wo,q'⟩⟩
end
variable {G:GE}{k:Nat}{S:Stat}
def hJ(names sc:List (Str×NameKind)):List (Str×NameKind):=names.map λ(n,k)=>if(k==.free&&sc.lookup n==some .cell)then(n,.cell)else(n,k)
def aI(S:Stat)(scope:Scope)(N':List Str):Stat:=⟨N',hJ scope.names S.sc,[],true,false,false,λ_ _=>False⟩
structure dS(S:Stat)(scope:Scope)(N':List Str)(caps:List (Option Nat)):Prop where
 kind:scope.kind=.function
 nd:N'.Nodup
 nZ:scope.names.all (λy=>y.2 != .cell)=true
 names:scope.names.all (λy=>y.2 != .local||scope.names.lookup y.1==some .local)=true
 free:scope.names.all (λy=>y.2 != .free||S.sc.lookup y.1==some .cell||S.sc.lookup y.1==some .free)=true
 len:caps.length=N'.length
 Zj:(caps.zip N').all (λp=>match p.1 with|some j=>S.N[j]?==some p.2&&scope.names.lookup p.2==some .free|none=>true)=true
theorem dS.sc{scope:Scope}{N':List Str}{caps:List (Option Nat)}(b:dS S scope N' caps){X:Cx}{Y:aV}(ok:c7 X G k S Y):gH X scope N' caps where
 kind:=b.kind
 nZ:=λy hy z=>by
  have:=List.all_eq_true.mp b.nZ y hy;rw[z]at this;cases this
 names:=λy hy z=>by
  have:=List.all_eq_true.mp b.names y hy;rw[z]at this;simpa using this
 free:=λy hy z=>by
  have:=List.all_eq_true.mp b.free y hy;rw[z]at this;have kd:X.env.kindOf y.1=S.sc.lookup y.1:=by
   show X.env.scope.names.lookup y.1=_;rw[ok.sc]
  rw[kd];simpa using this
 len:=b.len
 Zj:=λi j e=>by
  have hl:i<caps.length:=(List.getElem?_eq_some_iff.mp e).1;have hl':i<N'.length:=by rw[<- b.len];exact hl
  have hz:(caps.zip N')[i]?=some (some j,N'[i]):=by
   rw[List.getElem?_zip_eq_some];exact⟨e,by rw[List.getElem?_eq_getElem hl']⟩
  have:=List.all_eq_true.mp b.Zj _ (List.mem_of_getElem? hz);simp only[Bool.and_eq_true,beq_iff_eq]at this;exact⟨N'[i],by rw[List.getElem?_eq_getElem hl'],by rw[ok.N];exact this.1,this.2⟩
theorem cy{X X':Cx}{Y:aV}{scope:Scope}{N':List Str}{caps:List (Option Nat)}(hh:S.gm=false)(ok:c7 X G k S Y)(b:dS S scope N' caps)(c:gI X X' scope N')(Y':aV)(bX:Y'.io=[]):c7 X' G k (aI S scope N') Y' where
 P:=c.P.trans ok.P
 w:=c.w.trans ok.w
 K:=c.K.trans ok.K
 kf:=c.K.trans ok.kf
 mg:=c.mg.trans ok.mg
 obs:=λh=>nomatch h
 base:=c.base.trans ok.base
 N:=c.N
 sc:=by
  rw[c.sc];show scope.names.map _=hJ scope.names S.sc;unfold hJ;refine List.map_congr_left λy _=>?_;obtain⟨n,kk⟩:=y;have kd:X.env.kindOf n=S.sc.lookup n:=by
   show X.env.scope.names.lookup n=_;rw[ok.sc]
  simp only[ok.kind,kd,beq_self_eq_true,Bool.and_true]
 nd:=b.nd
 ios:=λp hp=>by rw[bX]at hp;cases hp
 calm:=λ_=>c.calm
 kind:=by rw[c.sc];exact b.kind
 fn:=λh=>by cases h
 hd:=λ_=>by rw[c.A];exact ok.hd hh
 dp:=by rw[c.A];exact ok.dp
 un:=by rw[c.A];exact ok.un
 po:=λ_=>by rw[c.xe];exact PassesOwn.never
 nx:=λh=>nomatch h
 exc:=λ_ _ h=>h.elim
 made:=λh=>nomatch h
def gD:Sd->Sd->Prop
 | [],[]=>True
 | none::r,_::s=>gD r s
 | some b::r,c::s=>c=some b/\gD r s
 | _,_=>False
theorem iy:∀ {a b:Sd} {i:Nat} {x:B},gD a b->a[i]?=some (some x)->b[i]?=some (some x)
 | [],[],_,_,_,e=>by simp at e
 | none::r,c::s,0,_,h,e=>by simp at e
 | none::r,c::s,i+1,x,h,e=>by
  have h:gD r s:=h;simpa using iy (i:=i) h (by simpa using e)
 | some b::r,c::s,0,x,h,e=>by
  obtain⟨h1,h2⟩:c=some b/\gD r s:=h;simp at e;subst e;simp [h1]
 | some b::r,c::s,i+1,x,h,e=>by
  obtain⟨h1,h2⟩:c=some b/\gD r s:=h;simpa using iy (i:=i) h2 (by simpa using e)
 | [],_::_,_,_,h,_=>h.elim
 | none::_,[],_,_,h,_=>h.elim
 | some _::_,[],_,_,h,_=>h.elim
theorem iA:∀ {a b:Sd},gD a b->a.length=b.length
 | [],[],_=>rfl
 | none::r,c::s,h=>by
  have h:gD r s:=h;simp [iA h]
 | some b::r,c::s,h=>by
  obtain⟨_,h2⟩:c=some b/\gD r s:=h;simp [iA h2]
 | [],_::_,h=>h.elim
 | none::_,[],h=>h.elim
 | some _::_,[],h=>h.elim
def jE(ios:List Nat):List (Option Nat)->Sd->(Sd->Prop)->Prop
 | [],σ,Q=>Q σ
 | none::r,σ,Q=>jE ios r σ Q
 | some j::r,σ,Q=>match σ[j]? with
  | some (some (.own xs))=>j∉ios/\jE ios r (σ.set j (some (.sh (.lst xs)))) Q
  | _=>jE ios r σ Q
def bU(caps:List (Option Nat))(σ:Sd):Sd:=caps.map λc=>match c with
 | some j=>match σ[j]? with
  | some (some (.sh d))=>some (.sh d)
  | _=>none
 | none=>none
def fe(g:fG)(tc:TB)(te:TD)(σ0:Sd):List D->List D->(List D->Prop)->Prop
 | [],acc,Q=>Q acc
 | x::xs,acc,Q=>g x σ0 λav=>tc av λb aH=>if b=true then te aH λd c9=>gD σ0 c9/\acc.length<sizeLine/\fe g tc te σ0 xs (acc++[d]) Q else gD σ0 aH/\fe g tc te σ0 xs acc Q
def eJ(ios:List Nat)(caps:List (Option Nat))(ti:et)(g:fG)(tc:TB)(te:TD):TX:=λσ Q=>ti σ λitems av=>jE ios caps av λaH=>fe g tc te (bU caps aH) items [] λds=>Q (.own ds) aH
theorem cH{ios:List Nat}{Y:aV}(bX:∀p∈Y.io,p.1∈ios):∀ {caps:List (Option Nat)} {F:Hp} {ah:Sd} {σ:St} {H:Hp} {Q:Sd->Prop},RS Y F ah σ H->jE ios caps ah Q->∃F' ax,aj F F'/\RS Y F' ax σ H/\Q ax
 | [],F,ah,σ,H,Q,R,q=>⟨F,ah,aj.refl _,R,q⟩
 | none::r,F,ah,σ,H,Q,R,q=>cH bX (caps:=r) R q
 | some j::r,F,ah,σ,H,Q,R,q=>by
  unfold jE at q
  split at q
  ·rename_i xs e
   obtain⟨F2,v2,s2,R2,e2,r2⟩:=R.kZ e λp hp z=>q.1 (z ▸ bX p hp);obtain⟨F3,c9,s3,R3,q3⟩:=cH bX (caps:=r) R2 q.2;exact⟨F3,c9,s2.trans s3,R3,q3⟩
  ·exact cH bX (caps:=r) R q
theorem a8(caps:List (Option Nat))(ah:Sd):∀(i:Nat) (o:O),(bU caps ah)[i]?≠some (some (.obj o)):=λi o e=>by
 unfold bU at e;rw[List.getElem?_map]at e;cases ec:caps[i]? with
 | none=>rw[ec]at e;cases e
 | some c =>
  rw[ec]at e;cases c with
  | none=>cases e
  | some j =>
   have e:(match ah[j]? with|some (some (.sh d))=>some (B.sh d)|_=>none)=some (.obj o):=Option.some.inj e
   split at e<;>cases e
theorem jA{Y:aV}{F:Hp}{ah:Sd}{σ:St}{H:Hp}(R:RS Y F ah σ H)(caps:List (Option Nat)){F' H':Hp}(s1:aj F F')(s2:aj F' H'):RS ⟨H',F',[],[]⟩ F' (bU caps ah) (cj caps σ) H' where
 len:=by unfold bU cj;simp
 lo:=aj.refl _
 fr:=s2
 dA:=λb o e=>.inl e
 old:=λb o e _=>e
 sh:=λi d e=>by
  unfold bU at e;rw[List.getElem?_map]at e;unfold cj;rw[List.getElem?_map];cases ec:caps[i]? with
  | none=>rw[ec]at e;cases e
  | some c =>
   rw[ec]at e;cases c with
   | none=>cases e
   | some j =>
    have e:(match ah[j]? with|some (some (.sh d))=>some (B.sh d)|_=>none)=some (.sh d):=Option.some.inj e
    split at e
    ·rename_i d' q
     cases e;obtain⟨v,h1,h2⟩:=R.sh j d q;exact⟨v,by show some ((σ[j]?).join)=_;rw[h1];rfl,h2.mono s1⟩
    ·cases e
 own:=λi xs e=>by
  unfold bU at e;rw[List.getElem?_map]at e;cases ec:caps[i]? with
  | none=>rw[ec]at e;cases e
  | some c =>
   rw[ec]at e;cases c with
   | none=>cases e
   | some j =>
    have e:(match ah[j]? with|some (some (.sh d))=>some (B.sh d)|_=>none)=some (.own xs):=Option.some.inj e
    split at e<;>cases e
 dis:=λi j xs ys a e=>by
  exfalso;unfold bU at e;rw[List.getElem?_map]at e;cases ec:caps[i]? with
  | none=>rw[ec]at e;cases e
  | some c =>
   rw[ec]at e;cases c with
   | none=>cases e
   | some j =>
    have e:(match ah[j]? with|some (some (.sh d))=>some (B.sh d)|_=>none)=some (.own xs):=Option.some.inj e
    split at e<;>cases e
 io:=λp hp=>by cases hp
 ob:=.none (a8 _ _) (R.ob.tab.mono s1) λb hb=>by cases hb
theorem RS.less{Y:aV}{F:Hp}{σ0 ah:Sd}{σ:St}{H:Hp}(R:RS Y F ah σ H)(l:gD σ0 ah)(lZ:∀(i:Nat) (xs:List D),σ0[i]?≠some (some (.own xs)))(vA:∀(i:Nat) (o:O),σ0[i]?≠some (some (.obj o))){H':Hp}(s:aj F H'):RS ⟨H',F,[],[]⟩ F σ0 σ H' where
 len:=(iA l).trans R.len
 lo:=aj.refl _
 fr:=s
 dA:=λb o e=>.inl e
 old:=λb o e _=>e
 sh:=λi d e=>R.sh i d (iy l e)
 own:=λi xs e=>absurd e (lZ i xs)
 dis:=λi j xs ys a e=>absurd e (lZ i xs)
 io:=λp hp=>by cases hp
 ob:=.none vA R.ob.tab λb hb=>by cases hb
theorem aY(caps:List (Option Nat))(ah:Sd):∀(i:Nat) (xs:List D),(bU caps ah)[i]?≠some (some (.own xs)):=λi xs e=>by
 unfold bU at e;rw[List.getElem?_map]at e;cases ec:caps[i]? with
 | none=>rw[ec]at e;cases e
 | some c =>
  rw[ec]at e;cases c with
  | none=>cases e
  | some j =>
   have e:(match ah[j]? with|some (some (.sh d))=>some (B.sh d)|_=>none)=some (.own xs):=Option.some.inj e
   split at e<;>cases e
theorem dG:∀a:Sd,gD a a
 | []=>trivial
 | none::r=>dG r
 | some b::r=>⟨rfl,dG r⟩
theorem RS.other{Y:aV}{F:Hp}{ah:Sd}{σ:St}{H:Hp}{a:Addr}{o:HO}(R:RS Y F ah σ H)(h1:F a=none)(h2:Y.H0 a=none)(h3:cw ah σ a):RS Y F ah σ (upd H a o) where
 len:=R.len
 lo:=R.lo
 fr:=λb u e=>by
  have:b≠a:=λz=>by rw[z,h1]at e;cases e
  rw[ai this];exact R.fr b u e
 dA:=R.dA
 old:=λb u e n=>by
  have:b≠a:=λz=>by rw[z,h2]at e;cases e
  rw[ai this];exact R.old b u e n
 sh:=R.sh
 own:=λi xs e=>by
  obtain⟨b,vs,w1,w2,w3⟩:=R.own i xs e;have:b≠a:=λz=>h3 i xs e (by rw[w1,z])
  exact⟨b,vs,w1,by rw[ai this];exact w2,w3⟩
 dis:=R.dis
 io:=R.io
 ob:=R.ob.step (aj.refl _) (λ_ _ e=>⟨e,rfl⟩) (λb hb=>by
  obtain⟨w1,w2,w3⟩:=R.ob.owned hb;have cC:b≠a:=λz=>h3.Kd (z ▸ hb);exact⟨ai cC,w1,w3⟩) R.ob.gy λb hb=>by
  by_cases cC:b=a
  ·rw[cC,au];exactλz=>nomatch z
  ·rw[ai cC];exact R.ob.there b hb
def TN(g:fG):TG:=λv σ H Q=>∃Y:aV,Y.io=[]/\lG Y g v σ H Q
def ZU(t:TB):TT:=λσ H Q=>∃Y:aV,Y.io=[]/\lB Y t σ H Q
def ZV(t:TD):TE:=λσ H Q=>∃Y:aV,Y.io=[]/\lD Y t σ H Q
structure A4(G:GE)(k:Nat)(S:Stat)(ifs:List Expr)(t:TB) :Prop where
 run:∀X Y,c7 X G k S Y->BI X ifs (lB Y t)
instance {G:GE} {k:Nat} {S:Stat} {ifs:List Expr} {t:TB} :CoeFun (A4 G k S ifs t) λ_=>∀X Y,c7 X G k S Y->BI X ifs (lB Y t):=⟨A4.run⟩
def cR:TB:=λσ Q=>Q true σ
theorem gP:A4 G k S [] cR:=.mk λX Y ok pins s σ H Q I q=>sj pins s σ H Q I (by
 obtain⟨F,ah,Qd,R,q,K⟩:=q;exact K true H F ah (aj.refl _) R q)
theorem BR{c:Expr}{t:TB}(h:EB G k S c t):A4 G k S [c] t:=.mk λX Y ok=>Io (h X Y ok)
section
variable {elt target iter:Expr}{ifs:List Expr}{scope:Scope}{pos:Pos}{N':List Str}{caps:List (Option Nat)}{ti:et}{g:fG}{tc:TB}{te:TD}
theorem mJ{X:Cx}{Y:aV}(hh:S.gm=false)(ok:c7 X G k S Y)(b:dS S scope N' caps)(hg:EG G k (aI S scope N') target g)(ht:A4 G k (aI S scope N') ifs tc)(he:ED G k (aI S scope N') elt te):
  ∀X',gI X X' scope N'->PG X' target (TN g)/\BI X' ifs (ZU tc)/\PE X' elt (ZV te):=λX' c =>
 ⟨λpins s σ H v u Q I r ⟨Y',bX,q⟩=>hg X' Y' (cy hh ok b c Y' bX) pins s σ H v u Q I r q,λpins s σ H Q I ⟨Y',bX,q⟩=>ht X' Y' (cy hh ok b c Y' bX) pins s σ H Q I q,λpins s σ H Q I ⟨Y',bX,q⟩=>he X' Y' (cy hh ok b c Y' bX) pins s σ H Q I q⟩
theorem je{Y:aV}{ios:List Nat}(bX:∀p∈Y.io,p.1∈ios){σ:St}{H:Hp}{Q:VK}(q:lX Y (eJ ios caps ti g tc te) σ H Q):f7 (lI Y ti) caps (TN g) (ZU tc) (ZV te) σ H Q:=by
 obtain⟨F,ah,Qd,R,q,K⟩:=q;refine⟨F,ah,_,R,q,λH1 F1 tQ J items s1 R1 it q1 acc cI=>?_⟩;obtain⟨F2,aO,s2,R2,q2⟩:=cH bX R1 q1;have J9:=it.mono s2;have a0:Y.H0 acc=none:=(R2.bw cI).1;have aF:F2 acc=none:=same_none R2.fr cI;have aN:cw aO σ acc:=R2.b3 cI;have sw:∀ {F5 H5:Hp} {o:HO},aj F5 H5->F5 acc=none->aj F5 (upd H5 acc o):=λ{F5 H5 o} s5 h b u e=>by
  have:b≠acc:=λz=>by rw[z,h]at e;cases e
  rw[ai this];exact s5 b u e
 refine⟨λi m av H'=>∃Fi ds ys,aj F2 Fi/\RS Y Fi aO σ H'/\H' acc=some (.lst ys)/\ay Fi ys ds/\Fi acc=none/\RS ⟨H',Fi,[],[]⟩ Fi (bU caps aO) av H'/\fe g tc te (bU caps aO) (items.drop i) ds (λds=>Qd (.own ds) aO)/\m=items.length-i/\i<=items.length,
  ⟨items.length,F2,[],[],aj.refl _,R2.other aF a0 aN,au,.nil,aF,jA R2 caps (aj.refl _) (sw R2.fr aF),q2,rfl,Nat.zero_le _⟩,?_⟩
 rintro i m av Hi ⟨Fi,ds,ys,si,Ri,cf,ri,fi,BL,qi,rfl,hi⟩;have nE:=J9 Fi Hi si Ri.fr i
 by_cases hl:i<items.length
 ·right
  have hd:items.drop i=items[i]::items.drop (i+1):=by rw[List.drop_eq_getElem_cons hl]
  rw[hd]at qi;obtain⟨go,yl⟩:=nE.1 items[i] (by rw[List.getElem?_eq_getElem hl])
  refine⟨go,λv H' y=>?_⟩;obtain⟨F3,gr,rep⟩:=yl v H' y;have sF:aj Fi F3:=gr.same Ri.fr;have R3:=gr.rs BL;have GP:RS ⟨H',F3,[],[]⟩ F3 (bU caps aO) av H':=R3.less (dG _) (aY _ _) (a8 _ _) R3.fr;have sH:aj Hi H':=by
   rcases gr with⟨_,rfl⟩|⟨p,o,hp,_,rfl⟩
   ·exact aj.refl _
   ·exact aD hp
  have yy:∀c o,F3 c=some o->Fi c=some o\/Nw Hi c o:=λc o e=>by
   rcases gr with⟨rfl,_⟩|⟨p,o',hp,rfl,_⟩
   ·exact .inl e
   ·by_cases hc:c=p
    ·subst hc;exact .inr (.inl hp)
    ·rw[ai hc]at e;exact .inl e
  -- behind the turn
  have back:∀ {F5 H5:Hp} {fE:Sd} {A3:St},aj F3 F5->RS ⟨H',F3,[],[]⟩ F5 fE A3 H5->RS Y F5 aO σ H5/\H5 acc=some (.lst ys)/\F5 acc=none/\aj Fi F5:=λ{F5 H5 fE A3} s5 R5=>by
   have vS:aj Hi H5:=sH.trans λb o e=>R5.old b o e (by simp [aV.rG])
   have Ad:∀c o,F5 c=some o->Fi c=some o\/Nw Hi c o:=λc o e=>by
    rcases R5.dA c o e with z|z
    ·exact yy c o z
    ·exact .inr (z.imp sH.free id)
   refine⟨Ri.call (sF.trans s5) R5.fr vS Ad,vS _ _ cf,?_,sF.trans s5⟩;cases e:F5 acc with
   | none=>rfl
   | some o =>
    rcases Ad acc o e with z|z
    ·rw[fi]at z;cases z
    ·rcases z with z|⟨ws,rfl⟩
     ·rw[cf]at z;cases z
     ·have y:=R5.fr acc _ e;rw[vS _ _ cf]at y;cases y
  refine⟨⟨H',F3,[],[]⟩,rfl,F3,_,items[i],_,GP,rep,qi,λkP H4 F4 cK s4 R4 q4=>?_⟩;refine⟨⟨H',F3,[],[]⟩,rfl,F4,cK,_,R4,q4,λb H5 F5 fE s5 R5 q5=>?_⟩;cases b with
  | false =>
   obtain⟨le,q5⟩:=q5;obtain⟨w1,w2,w3,w4⟩:=back (s4.trans s5) R5;exact⟨items.length-(i+1),by omega,F5,ds,ys,si.trans w4,w1,w2,ri.mono w4,w3,R5.less le (aY _ _) (a8 _ _) R5.fr,q5,rfl,hl⟩
  | true =>
   refine⟨⟨H',F3,[],[]⟩,rfl,F5,fE,_,R5,q5,λv6 H6 F6 d Gr s6 R6 r6 q6=>?_⟩;obtain⟨le,hz,q6⟩:=q6;obtain⟨w1,w2,w3,w4⟩:=back ((s4.trans s5).trans s6) R6;exact⟨ys,items.length-(i+1),w2,by rw[ri.length];exact hz,by omega,F6,ds++[d],ys++[v6],si.trans w4,w1.other w3 a0 aN,au,(ri.mono w4).append (.cons r6 .nil),w3,R6.less le (aY _ _) (a8 _ _) (sw R6.fr w3),q6,rfl,hl⟩
 ·left
  have e:i=items.length:=by omega
  subst e;rw[List.drop_length]at qi;exact⟨nE.2 rfl,K _ Hi Fi (.own ds) aO ((s1.trans s2).trans si) Ri ⟨acc,ys,rfl,cf,ri,fi,a0,aN⟩ qi⟩
theorem jt(hi:EI G k S target iter ti)(b:dS S scope N' caps)(hg:EG G k (aI S scope N') target g)(ht:A4 G k (aI S scope N') ifs tc)(he:ED G k (aI S scope N') elt te)(hs:∀env x,foldedSetIterable iter env x=pure x:=by intro _ _;rfl)(hh:S.gm=false:=by rfl):
  EX G k S (.ListComp elt [⟨target,iter,ifs,0⟩] scope pos) (eJ S.ios caps ti g tc te):=.mk λX Y ok =>
 aM (eQ (ok.calm hh) (hi X Y ok) (b.sc ok) (mJ hh ok b hg ht he) (hs _)) λσ H Q q=>je ok.ios q
theorem Fl(i:Nat){y:Str}{py dQ:Pos}(hi:EI G k S target iter ti)(b:dS S scope N' caps)(hg:EG G k (aI S scope N') target g)(ht:A4 G k (aI S scope N') ifs tc)(he:ED G k (aI S scope N') elt te)
  (hy:S.N[i]?=some y:=by rfl) (hx:S.sc.lookup y=some .local\/(S.sc.lookup y=some .cell/\S.wj=false):=by first|exact Or.inl rfl|exact Or.inr ⟨rfl,rfl⟩) (hn:i∉S.ios:=by first|decide|exact List.not_mem_nil | (dsimp only;decide)) (hl:(py.line==pos.line)=true:=by rfl) (Wy:(scope.names.any λ(n,k)=>n==y&&(k==.local||k==.cell))=false:=by decide +kernel)
  (hs:∀env x,foldedSetIterable iter env x=pure x:=by intro _ _;rfl) (hh:S.gm=false:=by rfl):ES G k S (.Assign [.Name y py] (.ListComp elt [⟨target,iter,ifs,0⟩] scope pos) dQ) (gw S.ios i (eJ S.ios caps ti g tc te)):=.mk λX Y ok=>by
 have sw:swapsWith (.ListComp elt [⟨target,iter,ifs,0⟩] scope pos) (some (.Name y py)) dQ.line X.env=pure (S.sc.lookup y==some .local):=by
  have e:swapsWith (.ListComp elt [⟨target,iter,ifs,0⟩] scope pos) (some (.Name y py)) dQ.line X.env=pure (X.env.blockKind==.function&&X.env.kindOf y==some .local&&py.line==pos.line&&!(scope.names.any λ(n,k)=>n==y&&(k==.local||k==.cell))):=rfl
  have kb:X.env.blockKind=.function:=by unfold Env.blockKind;rw[ok.kind];rfl
  have kd:X.env.kindOf y=S.sc.lookup y:=by
   show X.env.scope.names.lookup y=_;rw[ok.sc]
  rw[e,kb,kd,hl,Wy];simp
 have fin:∀Dn σ H,lS Y (gw S.ios i (eJ S.ios caps ti g tc te)) Dn σ H->AY (f7 (lI Y ti) caps (TN g) (ZU tc) (ZV te)) (jF i) Dn σ H:=λDn σ H q=>by
  obtain⟨F,ah,De,R,q,K⟩:=q;refine je ok.ios ⟨F,ah,_,R,q,λv H1 F1 y av s1 R1 r1 q1=>?_⟩;obtain⟨F2,aH,s2,R2,q2⟩:=iH R1 r1 hn ok.ios q1;exact K.nx _ H1 F2 aH (s1.trans s2) R2 q2
 rcases hx with hx|hx
 ·refine b8 (rZ (i:=i) (ok.calm hh) (hi X Y ok) (b.sc ok) (mJ hh ok b hg ht he) (hs _) (by rw[ok.N];exact ok.nd) (by rw[ok.N];exact hy) (by rw[ok.sc];exact hx) (by rw[sw,hx];rfl)) fin
 ·refine b8 (L2.sd (i:=i) (by rw[ok.N];exact ok.nd) (by rw[ok.N];exact hy) (jo ok (.inr hx)) (eQ (ok.calm hh) (hi X Y ok) (b.sc ok) (mJ hh ok b hg ht he) (hs _)) (by rw[sw,hx.1];rfl) (jh ok (.inr hx))) fin
end
end Vc
namespace Vc
open PySem L2
variable [KF]
section
variable {prog:Program}{w:World}{A:Around}{E:Value->Shared->Prop}{s:Shared}
theorem C9{j t:Addr}{i:Nat}{xs:Array Value}{x:Value}{Q:Value->Shared->Prop}(hj:s.heap.IsTupleIter j t i)(ht:s.heap.IsTuple t xs)(hx:xs[i]?=some x)
  (q:∀g,g.IsTupleIter j t (i+1)->Heap.SameBut j s.heap g->Q x {s with heap:=g}):wpAny (model prog w) A (Builtin.SmallTypes.nextOf (.ref j)) Q E s:=by
 obtain⟨ob,h1,h2,h3⟩:=id hj;obtain⟨ot,h4,_,nt,h5⟩:=ht;unfold Builtin.SmallTypes.nextOf;refine wpAny_bind (wpAny_callSpecial?_slot (name:=Str.ofString "__next__") hj.typeIs F.slot_tuple_iterator_next (wpAny_call_entry F.slot_tuple_iterator_next hj.typeIs F.entry_tuple_iterator_next ?_ (F.args_tuple_iterator_next_1 _)));show wpAny _ _ (field (.ref j) 0 >>= _) _ _ s;refine wpAny_bind (wpAny_field h1 h3 (x:=.ref t) rfl ?_);show wpAny _ _ (if(Value.ref t==Value.none)=true then _ else _) _ _ s
 rw[if_neg (by intro z;exact absurd z Bool.false_ne_true)]
 show wpAny _ _ (field (.ref j) 1 >>= _) _ _ s;refine wpAny_bind (wpAny_field h1 h3 (x:=.int i 0) rfl ?_);show wpAny _ _ (seqItems? (.ref t) >>= _) _ _ s;refine wpAny_bind (wpAny_seqItems h4 h5 ?_);simp only[Int.toNat_natCast,hx];refine wpAny_bind (wpAny_setField h1 h3 (by simp) (wpAny_pure ⟨x,rfl,wpAny_pure (q _ ?_ (Heap.SameBut.update ..))⟩))
 refine⟨_,Heap.get?_update_self _ h1 (Obj.isFreed_of_fields (Obj.data_mapFields h3 _)),(Obj.cls_mapFields ..).trans h2,?_⟩;rw[Obj.data_mapFields h3];simp [rawInt]
theorem qX{j t:Addr}{i:Nat}{xs:Array Value}{Q:Value->Shared->Prop}(hh:A.handled=none)(hj:s.heap.IsTupleIter j t i)(ht:s.heap.IsTuple t xs)(hx:xs[i]?=none)
  (q:∀g e,Heap.ExtBut j s.heap g->(∃o,g.get? e=some o/\o.cls=.type "StopIteration")->E (.ref e) {s with heap:=g}):wpAny (model prog w) A (Builtin.SmallTypes.nextOf (.ref j)) Q E s:=by
 obtain⟨ob,h1,h2,h3⟩:=id hj;obtain⟨ot,h4,_,nt,h5⟩:=ht;unfold Builtin.SmallTypes.nextOf;refine wpAny_bind (wpAny_callSpecial?_slot (name:=Str.ofString "__next__") hj.typeIs F.slot_tuple_iterator_next (wpAny_call_entry F.slot_tuple_iterator_next hj.typeIs F.entry_tuple_iterator_next ?_ (F.args_tuple_iterator_next_1 _)));show wpAny _ _ (field (.ref j) 0 >>= _) _ _ s;refine wpAny_bind (wpAny_field h1 h3 (x:=.ref t) rfl ?_);show wpAny _ _ (if(Value.ref t==Value.none)=true then _ else _) _ _ s
 rw[if_neg (by intro z;exact absurd z Bool.false_ne_true)]
 show wpAny _ _ (field (.ref j) 1 >>= _) _ _ s;refine wpAny_bind (wpAny_field h1 h3 (x:=.int i 0) rfl ?_);show wpAny _ _ (seqItems? (.ref t) >>= _) _ _ s;refine wpAny_bind (wpAny_seqItems h4 h5 ?_);simp only[Int.toNat_natCast,hx];refine wpAny_bind (wpAny_rule (wpAny_bind (wpAny_setField h1 h3 (by simp) ?_)))
 show wpAny _ _ (newExc (.type "StopIteration") [] >>= _) _ _ _;refine wpAny_bind ?_;simp only[newExc,newTuple];refine wpAny_bind (wpAny_newObj_type ?_ (by size_fits))
 refine wpAny_bind (m:=firstArgMember _ _) (wpAny_of_eq (a:=Value.none) (by first|rfl | (simp only[firstArgMember];rfl)) ?_)
 refine wpAny_newObj_type ?_ (by size_fits)
 simp only[raiseNew];refine wpAny_bind (wpAny_handled ?_)
 first|rw[show A.in1.handled=none from hh]|rw[hh]
 refine wpAny_bind (wpAny_pure (wpAny_throw ?_));exact q _ _ (((Heap.SameBut.update ..).extBut.push _).push _) ⟨_,Heap.get?_push_size _ rfl,rfl⟩
end
def o9(tp:Bool)(h:Heap)(j a:Addr)(i:Nat):Prop:=if tp=true then h.IsTupleIter j a i else h.IsListIter j a i
def ya(tp:Bool)(h:Heap)(a:Addr)(xs:Array Value):Prop:=if tp=true then h.IsTuple a xs else h.IsList a xs
theorem o9.live{tp:Bool}{h:Heap}{j a:Addr}{i:Nat}(q:o9 tp h j a i):∃o,h.get? j=some o/\∀v,o.data≠.cell v:=by
 cases tp with
 | true=>obtain⟨o,e,c,d⟩:=(show h.IsTupleIter j a i from q);exact⟨o,e,λv z=>by rw[d]at z;cases z⟩
 | false=>obtain⟨o,e,c,d⟩:=(show h.IsListIter j a i from q);exact⟨o,e,λv z=>by rw[d]at z;cases z⟩
theorem o9.at{tp:Bool}{h h':Heap}{j a:Addr}{i:Nat}(q:o9 tp h j a i)(k:∀o,h.get? j=some o->h'.get? j=some o):o9 tp h' j a i:=by
 cases tp with
 | true=>obtain⟨o,e,r⟩:=(show h.IsTupleIter j a i from q);exact(show h'.IsTupleIter j a i from⟨o,k o e,r⟩)
 | false=>obtain⟨o,e,r⟩:=(show h.IsListIter j a i from q);exact(show h'.IsListIter j a i from⟨o,k o e,r⟩)
theorem ya.at{tp:Bool}{h h':Heap}{a:Addr}{xs:Array Value}(q:ya tp h a xs)(k:∀o,h.get? a=some o->h'.get? a=some o):ya tp h' a xs:=by
 cases tp with
 | true=>obtain⟨o,e,r⟩:=(show h.IsTuple a xs from q);exact(show h'.IsTuple a xs from⟨o,k o e,r⟩)
 | false=>obtain⟨o,e,r⟩:=(show h.IsList a xs from q);exact(show h'.IsList a xs from⟨o,k o e,r⟩)
section
variable {prog:Program}{w:World}{A:Around}{E:Value->Shared->Prop}{s:Shared}
theorem draw{tp:Bool}{j a:Addr}{i:Nat}{xs:Array Value}{x:Value}{Q:Value->Shared->Prop}(hj:o9 tp s.heap j a i)(ha:ya tp s.heap a xs)(hx:xs[i]?=some x)
  (q:∀g,o9 tp g j a (i+1)->Heap.SameBut j s.heap g->Q x {s with heap:=g}):wpAny (model prog w) A (Builtin.SmallTypes.nextOf (.ref j)) Q E s:=by
 cases tp with
 | true=>exact C9 hj ha hx q
 | false=>exact wpAny_nextOf_list_item hj ha hx q
theorem uy{tp:Bool}{j a:Addr}{i:Nat}{xs:Array Value}{Q:Value->Shared->Prop}(hh:A.handled=none)(hj:o9 tp s.heap j a i)(ha:ya tp s.heap a xs)(hx:xs[i]?=none)
  (q:∀g e,Heap.ExtBut j s.heap g->(∃o,g.get? e=some o/\o.cls=.type "StopIteration")->E (.ref e) {s with heap:=g}):wpAny (model prog w) A (Builtin.SmallTypes.nextOf (.ref j)) Q E s:=by
 cases tp with
 | true=>exact qX hh hj ha hx q
 | false=>exact wpAny_nextOf_list_end hh hj ha hx q
structure Zd(z U V i j:Addr):Prop where
 uz:U≠z
 vz:V≠z
 iz:i≠z
 jz:j≠z
 uv:U≠V
 ui:U≠i
 uj:U≠j
 vi:V≠i
 vj:V≠j
 ij:i≠j
theorem Jg{tp tq:Bool}{z U V i j l m:Addr}{n:Nat}{xs ys:Array Value}{x y a b:Value}{Q:Option Value->Shared->Prop}(D:Zd z U V i j)(lz:l≠z/\l≠V/\l≠i/\l≠j)(mz:m≠z/\m≠V/\m≠i/\m≠j)
  (hz:IsZip s.heap z U V .none) (hU:IsPair s.heap U (.ref i) (.ref j)) (hV:IsPair s.heap V a b) (h1:o9 tp s.heap i l n) (h2:o9 tq s.heap j m n) (hl:ya tp s.heap l xs) (hm:ya tq s.heap m ys) (hx:xs[n]?=some x) (hy:ys[n]?=some y)
  (q:∀g,IsZip g z U V (rawInt s.heap.objs.size)->IsPair g V x y->o9 tp g i l (n+1)->o9 tq g j m (n+1)->IsPair g s.heap.objs.size x y->g.objs.size=s.heap.objs.size+1 ->
   (∀c o,c≠z->c≠V->c≠i->c≠j->s.heap.get? c=some o->g.get? c=some o)->Q (some (.ref s.heap.objs.size)) {s with heap:=g}):wpAny (model prog w) A (pyNext (.ref z)) Q E s:=by
 have hT:s.TypeIs (.ref z) "zip":=⟨_,hz,rfl⟩;unfold pyNext;refine wpAny_bind (wpAny_attempt (wpAny_callSpecial?_slot (name:=Str.ofString "__next__") hT F.slot_zip_next (wpAny_call_entry F.slot_zip_next hT F.entry_zip_next ?_ (F.args_zip_next_1 _))));show wpAny _ _ (field (.ref z) 2 >>= _) _ _ _;refine wpAny_bind (wpAny_field hz rfl (x:=.bool false) rfl ?_);show wpAny _ _ (field (.ref z) 3 >>= _) _ _ _;refine wpAny_bind (wpAny_field hz rfl (x:=.ref U) rfl (wpAny_bind (wpAny_seqItems hU rfl ?_)));show wpAny _ _ (Builtin.SmallTypes.ownedTupleIsFree (.ref z) >>= _) _ _ _;refine wpAny_bind ?_;unfold Builtin.SmallTypes.ownedTupleIsFree;refine wpAny_bind (wpAny_field hz rfl (x:=.none) rfl (wpAny_pure ?_));simp only[if_true];refine wpAny_bind (wpAny_rule (wpAny_bind (wpAny_field hz rfl (x:=.ref V) rfl (wpAny_bind (wpAny_setField_rec hz (by simp) λg1 z1 e1=>?_)))))
 replace z1:IsZip g1 z U V .ellipsis:=z1
 refine wpAny_bind ?_;simp only[List.zipIdx_cons,List.zipIdx_nil,List.forIn_cons,List.forIn_nil];refine wpAny_bind (wpAny_bind (wpAny_onRaise ?_));show wpAny _ _ (Builtin.SmallTypes.nextOf (.ref i) >>= _) _ _ _;refine wpAny_bind (draw (s:={s with heap:=g1}) (h1.at λo e=>e1.extBut _ _ D.iz e) (hl.at λo e=>e1.extBut _ _ lz.1 e) hx λg2 w2 e2=>wpAny_pure ?_)
 have v2:IsPair g2 V a b:=e2.extBut _ _ D.vi (e1.extBut _ _ D.vz hV);refine wpAny_bind (wpAny_seqItems v2 rfl (wpAny_bind (wpAny_updateSeq_pair v2 λg3 v3 e3=>?_)))
 replace v3:IsPair g3 V x b:=v3
 refine wpAny_bind (wpAny_letGo (wpAny_pure (wpAny_bind (wpAny_bind (wpAny_onRaise ?_)))));show wpAny _ _ (Builtin.SmallTypes.nextOf (.ref j) >>= _) _ _ _;have to3:∀c o,c≠z->c≠i->c≠V->s.heap.get? c=some o->g3.get? c=some o:=λc o c1 c2 c3 e=>e3.extBut _ _ c3 (e2.extBut _ _ c2 (e1.extBut _ _ c1 e));refine wpAny_bind (draw (s:={s with heap:=g3}) (h2.at λo e=>to3 j o D.jz D.ij.symm D.vj.symm e) (hm.at λo e=>to3 m o mz.1 mz.2.2.1 mz.2.1 e) hy λg4 w4 e4=>wpAny_pure ?_)
 have v4:IsPair g4 V x b:=e4.extBut _ _ D.vj v3;refine wpAny_bind (wpAny_seqItems v4 rfl (wpAny_bind (wpAny_updateSeq_pair v4 λg5 v5 e5=>?_)))
 replace v5:IsPair g5 V x y:=v5
 refine wpAny_bind (wpAny_letGo (wpAny_pure (wpAny_pure (wpAny_bind (wpAny_seqItems v5 rfl (wpAny_bind (wpAny_newTuple ?_)))))));have sz:g5.objs.size=s.heap.objs.size:=by rw[e5.1,e4.1,e3.1,e2.1,e1.1]
 have z5:IsZip g5 z U V .ellipsis:=e5.extBut _ _ D.vz.symm (e4.extBut _ _ D.jz.symm (e3.extBut _ _ D.vz.symm (e2.extBut _ _ D.iz.symm z1)));have k5:∀c o,c≠z->c≠V->c≠i->c≠j->s.heap.get? c=some o->g5.get? c=some o:=λc o c1 c2 c3 c4 e=>e5.extBut _ _ c2 (e4.extBut _ _ c4 (to3 c o c1 c3 c2 e));have i5:o9 tp g5 i l (n+1):=w2.at λo e=>e5.extBut _ _ D.vi.symm (e4.extBut _ _ D.ij (e3.extBut _ _ D.vi.symm e));have j5:o9 tq g5 j m (n+1):=w4.at λo e=>e5.extBut _ _ D.vj.symm e;have zlt:z<g5.objs.size:=Heap.lt_size z5;show wpAny _ _ (Builtin.SmallTypes.ownedTupleHandOut (.ref z) (.ref g5.objs.size) >>= _) _ _ _;refine wpAny_bind ?_;unfold Builtin.SmallTypes.ownedTupleHandOut;have z6:IsZip (g5.push {cls:=.type "tuple",data:=.seq #[x,y]}) z U V .ellipsis:=Heap.get?_push_of_some _ z5;refine wpAny_bind (wpAny_setField_rec z6 (by simp) λg7 z7 e7=>?_)
 replace z7:IsZip g7 z U V (rawInt g5.objs.size):=z7
 refine wpAny_setField_rec z7 (by simp) λg8 z8 e8=>?_
 replace z8:IsZip g8 z U V (rawInt g5.objs.size):=z8
 have up:∀c o,c≠z->g5.get? c=some o->g8.get? c=some o:=λc o c1 e=>e8.extBut _ _ c1 (e7.extBut _ _ c1 (Heap.get?_push_of_some _ e));have t8:IsPair g8 g5.objs.size x y:=e8.extBut _ _ (Nat.ne_of_gt zlt) (e7.extBut _ _ (Nat.ne_of_gt zlt) (Heap.get?_push_size _ rfl));have s8:g8.objs.size=g5.objs.size+1:=by rw[e8.1,e7.1,Heap.size_push]
 rw[sz]at z8 t8 s8;refine wpAny_pure ⟨_,rfl,wpAny_pure ?_⟩;show Q (some (.ref g5.objs.size)) _;rw[sz];exact q g8 z8 (up _ _ D.vz v5) (i5.at λo e=>up _ o D.iz e) (j5.at λo e=>up _ o D.jz e) t8 s8 λc o c1 c2 c3 c4 e=>up c o c1 (k5 c o c1 c2 c3 c4 e)
end
end Vc
namespace Vc
open PySem L2
variable [KF]
abbrev itN(tp:Bool):String:=if tp=true then "tuple_iterator" else "list_iterator"
abbrev zA(tp:Bool)(h:Heap)(l:Addr):Heap:=h.push {cls:=.type (itN tp),data:=.fields #[.ref l,.int 0 0]}
abbrev zB(tp tq:Bool)(h:Heap)(l m:Addr):Heap:=zA tq (zA tp h l) m
abbrev zC(tp tq:Bool)(h:Heap)(l m:Addr):Heap:=(zB tp tq h l m).push {cls:=.type "tuple",data:=.seq #[.ref h.objs.size,.ref (zA tp h l).objs.size]}
abbrev zD(tp tq:Bool)(h:Heap)(l m:Addr):Heap:=(zC tp tq h l m).push {cls:=.type "tuple",data:=.seq #[.none,.none]}
abbrev zE(tp tq:Bool)(h:Heap)(l m:Addr):Heap:=(zD tp tq h l m).push {cls:=.type "zip",data:=.fields #[.none,.bool false,.bool false,.ref (zB tp tq h l m).objs.size,.ref (zC tp tq h l m).objs.size]}
set_option maxHeartbeats 4000000 in
theorem Gm(tp tq:Bool)(l m:Addr)(xs ys:Array Value):
  Meets (Builtin.«zip.__new__» ⟨[.type "zip",.ref l,.ref m],[]⟩) (λ_ R s=>ya tp s.heap l xs/\ya tq s.heap m ys/\R (.ok (.ret (.ref (zD tp tq s.heap l m).objs.size))) {s with heap:=zE tp tq s.heap l m}):=
 .of_wp λprog w A R s h=>by
  obtain⟨hp,g,d,tk,os⟩:=s;obtain⟨hl,hm,h⟩:=h;have sub:=sub_zip;cases tp with
  | true =>
   have L1:Heap.IsTuple (Shared.heap ⟨hp,g,d,tk,os⟩) l xs:=hl;cases tq with
   | true =>
    have L2:Heap.IsTuple (Shared.heap ⟨hp.push {cls:=.type "tuple_iterator",data:=.fields #[.ref l,.int 0 0]},g,d,tk,os⟩) m ys:=by
     obtain⟨o,e,r⟩:=(show hp.IsTuple m ys from hm);exact⟨o,Heap.get?_push_of_some _ e,r⟩
    wp_walk using wpAny_pyIter_tuple L1,wpAny_pyIter_tuple L2
    exact⟨_,rfl,h⟩
   | false =>
    have L2:Heap.IsList (Shared.heap ⟨hp.push {cls:=.type "tuple_iterator",data:=.fields #[.ref l,.int 0 0]},g,d,tk,os⟩) m ys:=by
     obtain⟨o,e,r⟩:=(show hp.IsList m ys from hm);exact⟨o,Heap.get?_push_of_some _ e,r⟩
    wp_walk using wpAny_pyIter_tuple L1,wpAny_pyIter_list L2
    exact⟨_,rfl,h⟩
  | false =>
   have L1:Heap.IsList (Shared.heap ⟨hp,g,d,tk,os⟩) l xs:=hl;cases tq with
   | true =>
    have L2:Heap.IsTuple (Shared.heap ⟨hp.push {cls:=.type "list_iterator",data:=.fields #[.ref l,.int 0 0]},g,d,tk,os⟩) m ys:=by
     obtain⟨o,e,r⟩:=(show hp.IsTuple m ys from hm);exact⟨o,Heap.get?_push_of_some _ e,r⟩
    wp_walk using wpAny_pyIter_list L1,wpAny_pyIter_tuple L2
    exact⟨_,rfl,h⟩
   | false =>
    have L2:Heap.IsList (Shared.heap ⟨hp.push {cls:=.type "list_iterator",data:=.fields #[.ref l,.int 0 0]},g,d,tk,os⟩) m ys:=by
     obtain⟨o,e,r⟩:=(show hp.IsList m ys from hm);exact⟨o,Heap.get?_push_of_some _ e,r⟩
    wp_walk using wpAny_pyIter_list L1,wpAny_pyIter_list L2
    exact⟨_,rfl,h⟩
theorem zu{tp:Bool}{h:Heap}{j a:Addr}(e:h.get? j=some {cls:=.type (itN tp),data:=.fields #[.ref a,.int 0 0]}):o9 tp h j a 0:=by
 cases tp with
 | true=>exact⟨_,e,rfl,rfl⟩
 | false=>exact⟨_,e,rfl,rfl⟩
section
variable {prog:Program}{w:World}{A:Around}{E:Value->Shared->Prop}{s:Shared}
theorem Gk{tp tq:Bool}{l m:Addr}{xs ys:Array Value}{Q:Value->Shared->Prop}(hl:ya tp s.heap l xs)(hm:ya tq s.heap m ys)
  (q:∀g,IsZip g (s.heap.objs.size+4) (s.heap.objs.size+2) (s.heap.objs.size+3) .none->IsPair g (s.heap.objs.size+2) (.ref s.heap.objs.size) (.ref (s.heap.objs.size+1))->IsPair g (s.heap.objs.size+3) .none .none ->
   o9 tp g s.heap.objs.size l 0->o9 tq g (s.heap.objs.size+1) m 0->(∀c o,s.heap.get? c=some o->g.get? c=some o)->Q (.ref (s.heap.objs.size+4)) {s with heap:=g}):
  wpAny (model prog w) A (call (.type "zip") [.ref l,.ref m]) Q E s:=by
 refine callType_new F.called_zip ∅ (F.typeCall_zip_2 _ _) (F.newCall_zip_2 _ _) (λob=>F.args_object_init_3 ob _ _) F.entry_zip_new (Gm tp tq l m xs ys) ⟨hl,hm,?_⟩
 have n1:(zA tp s.heap l).objs.size=s.heap.objs.size+1:=Heap.size_push ..;have n2:(zB tp tq s.heap l m).objs.size=s.heap.objs.size+2:=by rw[Heap.size_push,n1]
 have n3:(zC tp tq s.heap l m).objs.size=s.heap.objs.size+3:=by rw[Heap.size_push,n2]
 have n4:(zD tp tq s.heap l m).objs.size=s.heap.objs.size+4:=by rw[Heap.size_push,n3]
 have p5:(zE tp tq s.heap l m).get? (zD tp tq s.heap l m).objs.size=some _:=Heap.get?_push_size _ rfl;have p4:(zE tp tq s.heap l m).get? (zC tp tq s.heap l m).objs.size=some _:=Heap.get?_push_of_some _ (Heap.get?_push_size _ rfl);have p3:(zE tp tq s.heap l m).get? (zB tp tq s.heap l m).objs.size=some _:=Heap.get?_push_of_some _ (Heap.get?_push_of_some _ (Heap.get?_push_size _ rfl));have p2:(zE tp tq s.heap l m).get? (zA tp s.heap l).objs.size=some _:=Heap.get?_push_of_some _ (Heap.get?_push_of_some _ (Heap.get?_push_of_some _ (Heap.get?_push_size _ rfl)));have p1:(zE tp tq s.heap l m).get? s.heap.objs.size=some _:=Heap.get?_push_of_some _ (Heap.get?_push_of_some _ (Heap.get?_push_of_some _ (Heap.get?_push_of_some _ (Heap.get?_push_size _ rfl))));show _/\_;rw[n2,n3,n4]at p5;rw[n1,n2]at p3;rw[n3]at p4;rw[n1]at p2;rw[n4];refine⟨⟨_,p5,rfl⟩,q _ p5 p3 p4 (zu p1) (zu p2) λc o x=>?_⟩;exact Heap.get?_push_of_some _ (Heap.get?_push_of_some _ (Heap.get?_push_of_some _ (Heap.get?_push_of_some _ (Heap.get?_push_of_some _ x))))
theorem Gn{tp tq:Bool}{z U V i j l m:Addr}{n:Nat}{xs ys:Array Value}{a b:Value}{Q:Option Value->Shared->Prop}(hh:A.handled=none)(D:Zd z U V i j)(lz:l≠z/\l≠V/\l≠i/\l≠j)(mz:m≠z/\m≠V/\m≠i/\m≠j)
  (hz:IsZip s.heap z U V .none) (hU:IsPair s.heap U (.ref i) (.ref j)) (hV:IsPair s.heap V a b) (h1:o9 tp s.heap i l n) (h2:o9 tq s.heap j m n) (hl:ya tp s.heap l xs) (hm:ya tq s.heap m ys) (rA:xs[n]?=none\/ys[n]?=none)
  (q:∀g,(∀c o,c≠z->c≠V->c≠i->c≠j->s.heap.get? c=some o->g.get? c=some o)->Q none {s with heap:=g}):wpAny (model prog w) A (pyNext (.ref z)) Q E s:=by
 have hT:s.TypeIs (.ref z) "zip":=⟨_,hz,rfl⟩;unfold pyNext;refine wpAny_bind (wpAny_attempt (wpAny_callSpecial?_slot (name:=Str.ofString "__next__") hT F.slot_zip_next (wpAny_call_entry F.slot_zip_next hT F.entry_zip_next ?_ (F.args_zip_next_1 _))));show wpAny _ _ (field (.ref z) 2 >>= _) _ _ _;refine wpAny_bind (wpAny_field hz rfl (x:=.bool false) rfl ?_);show wpAny _ _ (field (.ref z) 3 >>= _) _ _ _;refine wpAny_bind (wpAny_field hz rfl (x:=.ref U) rfl (wpAny_bind (wpAny_seqItems hU rfl ?_)));show wpAny _ _ (Builtin.SmallTypes.ownedTupleIsFree (.ref z) >>= _) _ _ _;refine wpAny_bind ?_;unfold Builtin.SmallTypes.ownedTupleIsFree;refine wpAny_bind (wpAny_field hz rfl (x:=.none) rfl (wpAny_pure ?_));simp only[if_true];refine wpAny_bind (wpAny_rule (wpAny_bind (wpAny_field hz rfl (x:=.ref V) rfl (wpAny_bind (wpAny_setField_rec hz (by simp) λg1 z1 e1=>?_)))))
 replace z1:IsZip g1 z U V .ellipsis:=z1
 refine wpAny_bind ?_;simp only[List.zipIdx_cons,List.zipIdx_nil,List.forIn_cons,List.forIn_nil];refine wpAny_bind (wpAny_bind (wpAny_onRaise ?_));show wpAny _ _ (Builtin.SmallTypes.nextOf (.ref i) >>= _) _ _ _;cases hx:xs[n]? with
 | none =>
  refine wpAny_bind (uy (s:={s with heap:=g1}) hh (h1.at λo e=>e1.extBut _ _ D.iz e) (hl.at λo e=>e1.extBut _ _ lz.1 e) hx λg2 e x2 he=>?_)
  obtain⟨oe,NA,Wb⟩:=he;have z2:IsZip g2 z U V .ellipsis:=x2 _ _ D.iz.symm z1;have ez:e≠z:=λx=>by subst x;rw[z2]at NA;cases NA;simp at Wb
  refine wpAny_setField_rec z2 (by simp) λg3 _ e3=>?_
  refine wpAny_bind (wpAny_isInstance (T:="StopIteration") (b:=true) ⟨oe,e3.extBut _ _ ez NA,Wb⟩ isSubtype_stop (wpAny_pure (q _ λc o c1 _ c3 _ x=>?_)));exact e3.extBut _ _ c1 (x2 _ _ c3 (e1.extBut _ _ c1 x))
 | some x =>
  have hy:ys[n]?=none:=by
   rcases rA with h|h
   ·rw[hx]at h;cases h
   ·exact h
  refine wpAny_bind (draw (s:={s with heap:=g1}) (h1.at λo e=>e1.extBut _ _ D.iz e) (hl.at λo e=>e1.extBut _ _ lz.1 e) hx λg2 w2 e2=>wpAny_pure ?_)
  have v2:IsPair g2 V a b:=e2.extBut _ _ D.vi (e1.extBut _ _ D.vz hV);refine wpAny_bind (wpAny_seqItems v2 rfl (wpAny_bind (wpAny_updateSeq_pair v2 λg3 v3 e3=>?_)));refine wpAny_bind (wpAny_letGo (wpAny_pure (wpAny_bind (wpAny_bind (wpAny_onRaise ?_)))));show wpAny _ _ (Builtin.SmallTypes.nextOf (.ref j) >>= _) _ _ _;have to3:∀c o,c≠z->c≠i->c≠V->s.heap.get? c=some o->g3.get? c=some o:=λc o c1 c2 c3 e=>e3.extBut _ _ c3 (e2.extBut _ _ c2 (e1.extBut _ _ c1 e));refine wpAny_bind (uy (s:={s with heap:=g3}) hh (h2.at λo e=>to3 j o D.jz D.ij.symm D.vj.symm e) (hm.at λo e=>to3 m o mz.1 mz.2.2.1 mz.2.1 e) hy λg4 e x4 he=>?_)
  obtain⟨oe,NA,Wb⟩:=he;have z4:IsZip g4 z U V .ellipsis:=x4 _ _ D.jz.symm (e3.extBut _ _ D.vz.symm (e2.extBut _ _ D.iz.symm z1));have ez:e≠z:=λx=>by subst x;rw[z4]at NA;cases NA;simp at Wb
  refine wpAny_setField_rec z4 (by simp) λg5 _ e5=>?_
  refine wpAny_bind (wpAny_isInstance (T:="StopIteration") (b:=true) ⟨oe,e5.extBut _ _ ez NA,Wb⟩ isSubtype_stop (wpAny_pure (q _ λc o c1 c2 c3 c4 x=>?_)));exact e5.extBut _ _ c1 (x4 _ _ c4 (to3 c o c1 c3 c2 x))
end
end Vc
namespace Vc
open PySem L2
variable [KF]
section
variable {X:Cx}{pins:List (Addr×Obj)}{σ:St}{H:Hp}{s:Shared}
theorem Jc(I:L2.Inv X pins σ H s){ch:List Addr}(hf:∀b∈ch,iM X pins H b){h':Heap}{t':Nat}(kp:∀b o,b∉ch->s.heap.get? b=some o->h'.get? b=some o){T:Addr}{o:HO}(hT:s.heap.objs.size<=T)(new:bQ X.prog X.w (upd H T o) h' T o):
  L2.Inv X pins σ (upd H T o) {s with heap:=h',toks:=t'}:=by
 have OQ:∀ {b u},s.heap.get? b=some u->b≠T:=λe=>Nat.ne_of_lt (Nat.lt_of_lt_of_le (Heap.lt_size e) hT);have T5:∀ {b u},H b=some u->b≠T:=λe=>Nat.ne_of_lt (Nat.lt_of_lt_of_le (I.bL.lt e) hT);have Eh:∀ {b u},H b=some u->b∉ch:=λ{b u} e z=>by rw[(hf b z).1]at e;cases e
 refine I.step (g':=s.gens) (d':=s.drawn) (ch:=ch) (λb hb=>?_) (λb u _ _ hc e _=>kp b u hc e) (λb u _ _ hc e _=>⟨u.slots,kp b u hc e⟩) (λb u hc e n=>by rw[ai (OQ e)];exact n) (λb u hc e=>⟨u,kp b u hc e⟩)
  (λb xs e=>by rw[ai (T5 e)];exact e) (λb u w e=>by rw[ai (T5 e)];exact e) (λb ps e=>⟨#[],by rw[ai (T5 e),e];simp⟩) (λm hm=>?_) (λb u e=>?_) I.bare
 ·obtain⟨f0,f1,f2,f3,f4,f5⟩:=hf b hb
  exact⟨f3.imp id λz=>Heap.get?_none_of_le z,f1,f4,f5⟩
 ·obtain⟨ob,es,ep,ho,r⟩:=hm
  refine⟨ob,es,ep,kp _ ob (λz=>?_) ho,r⟩;exact(hf _ z).2.1 rfl
 ·by_cases hb:b=T
  ·subst hb;rw[au]at e;cases e;exact new
  ·rw[ai hb]at e
   refine(I.bL b u e).xT (λc v hc q=>?_) (λc q=>by rw[ai (T5 q)];exact q) (λc xs q=>by rw[ai (T5 q)];exact q) λc o u q=>by rw[ai (T5 q)];exact q
   rcases hc with z|z
   ·subst z;exact kp _ v (Eh e) q
   ·exact kp _ v (Eh z) q
theorem Jb(I:L2.Inv X pins σ H s){ch:List Addr}(hf:∀b∈ch,iM X pins H b){h':Heap}{t':Nat}(kp:∀b o,b∉ch->s.heap.get? b=some o->h'.get? b=some o):L2.Inv X pins σ H {s with heap:=h',toks:=t'}:=by
 have Eh:∀ {b u},H b=some u->b∉ch:=λ{b u} e z=>by rw[(hf b z).1]at e;cases e
 refine I.step (g':=s.gens) (d':=s.drawn) (ch:=ch) (λb hb=>?_) (λb u _ _ hc e _=>kp b u hc e) (λb u _ _ hc e _=>⟨u.slots,kp b u hc e⟩) (λb u hc e n=>n) (λb u hc e=>⟨u,kp b u hc e⟩)
  (λb xs e=>e) (λb u w e=>e) (λb ps e=>⟨#[],by rw[e];simp⟩) (λm hm=>?_) (λb u e=>?_) I.bare
 ·obtain⟨f0,f1,f2,f3,f4,f5⟩:=hf b hb
  exact⟨f3.imp id λz=>Heap.get?_none_of_le z,f1,f4,f5⟩
 ·obtain⟨ob,es,ep,ho,r⟩:=hm
  refine⟨ob,es,ep,kp _ ob (λz=>?_) ho,r⟩;exact(hf _ z).2.1 rfl
 ·refine(I.bL b u e).xT (λc v hc q=>?_) (λc q=>q) λc xs q=>q
  rcases hc with z|z
  ·subst z;exact kp _ v (Eh e) q
  ·exact kp _ v (Eh z) q
end
def Sq(tp:Bool)(K:PySem.W.Frag)(H:Hp)(a:Addr)(xs:List V):Prop:=if tp=true then kR K H a xs else fF K H a xs
theorem Sq.is{tp:Bool}{X:Cx}{pins:List (Addr×Obj)}{σ:St}{H:Hp}{s:Shared}{a:Addr}{xs:List V}(I:L2.Inv X pins σ H s)(h:Sq tp X.K H a xs):∃its:List Value,Vals xs its/\ya tp s.heap a its.toArray/\a<s.heap.objs.size:=by
 cases tp with
 | true =>
  obtain⟨its,r,p,_⟩:=I.tuple (show kR X.K H a xs from h)
  exact⟨its,r,p,by obtain⟨o,e,_⟩:=p;exact Heap.lt_size e⟩
 | false =>
  obtain⟨its,r,p,_⟩:=I.list (show fF X.K H a xs from h)
  exact⟨its,r,p.isList,p.lt⟩
theorem Sq.inj{tp:Bool}{X:Cx}{pins:List (Addr×Obj)}{σ:St}{H:Hp}{s:Shared}{a:Addr}{xs ys:List V}(I:L2.Inv X pins σ H s)(h:Sq tp X.K H a xs)(h':Sq tp X.K H a ys):xs=ys:=by
 cases tp with
 | true=>exact I.qC h h'
 | false=>exact I.vk h h'
def Itz(tp tq:Bool)(K:PySem.W.Frag)(l m:Addr):It:=
  ⟨λn H=>∃xs ys x y,Sq tp K H l xs/\Sq tq K H m ys/\xs[n]?=some x/\ys[n]?=some y,
   λn H v H'=>∃p x y,H p=none/\v=.ref p/\H'=upd H p (.tup [x,y])/\(∀xs,Sq tp K H l xs->xs[n]?=some x)/\∀ys,Sq tq K H m ys->ys[n]?=some y,
   λn H=>∃xs ys,Sq tp K H l xs/\Sq tq K H m ys/\(xs.length<=n\/ys.length<=n)⟩
theorem Gf{P:Program}{w:World}{K:PySem.W.Frag}{elts:List Expr}{kk:Nat}{xZ:Pos}(tp tq:Bool)(z U V i j l m:Addr)(D:Zd z U V i j)(lz:l≠z/\l≠V/\l≠i/\l≠j)(mz:m≠z/\m≠V/\m≠i/\m≠j):
  Turn P w K (.Tuple elts kk xZ) (Itz tp tq K l m) [z,U,V,i,j] z (λn h=>IsZip h z U V .none/\IsPair h U (.ref i) (.ref j)/\(∃a b,IsPair h V a b)/\o9 tp h i l n/\o9 tq h j m n) where
 mem:=by simp
 obj:=λn h st b hb=>by
  obtain⟨h1,h2,⟨a,c,h3⟩,h4,h5⟩:=st;simp only[List.mem_cons,List.not_mem_nil,or_false]at hb;rcases hb with rfl|rfl|rfl|rfl|rfl
  ·exact⟨_,h1,λv q=>by cases q⟩
  ·exact⟨_,h2,λv q=>by cases q⟩
  ·exact⟨_,h3,λv q=>by cases q⟩
  ·exact h4.live
  ·exact h5.live
 keep:=λn h h' st kp=>by
  obtain⟨h1,h2,⟨a,c,h3⟩,h4,h5⟩:=st;exact⟨kp z (by simp) _ h1,kp U (by simp) _ h2,⟨a,c,kp V (by simp) _ h3⟩,h4.at λo e=>kp i (by simp) o e,h5.at λo e=>kp j (by simp) o e⟩
 item:=by
  intro X hP hw hK hc n pins s σ H E I hf st hg;subst hP hw hK;obtain⟨h1,h2,⟨a,c,h3⟩,h4,h5⟩:=st;obtain⟨xs,ys,x,y,q1,q2,e1,e2⟩:=hg;obtain⟨its,r1,p1,_⟩:=q1.is I;obtain⟨jts,r2,p2,_⟩:=q2.is I;obtain⟨u,hu,ru⟩:=r1.get e1;obtain⟨v,hv,rv⟩:=r2.get e2;refine Jg D lz mz h1 h2 h3 h4 h5 p1 p2 (x:=u) (y:=v) (by simpa using hu) (by simpa using hv) λg z1 v1 i1 j1 t1 s1 k1=>⟨_,rfl,?_⟩
  refine wpAny_letOwnedTupleGo_zip z1 λg' z2 G4=>?_;have kp:∀b o,b∉[z,V,i,j]->s.heap.get? b=some o->g'.get? b=some o:=λb o hb e=>by
   simp only[List.mem_cons,List.not_mem_nil,or_false,not_or]at hb;exact G4.extBut _ _ hb.1 (k1 b o hb.1 hb.2.1 hb.2.2.1 hb.2.2.2 e)
  have zT:s.heap.objs.size≠z:=Nat.ne_of_gt (Heap.lt_size h1);have hf':∀b∈[z,V,i,j],iM X pins H b:=λb hb=>hf b (by
   simp only[List.mem_cons,List.not_mem_nil,or_false]at hb ⊢;rcases hb with e|e|e|e<;>simp [e])
  have t2:IsPair g' s.heap.objs.size u v:=G4.extBut _ _ zT t1;have I':=Jc (t':=s.toks) (o:=.tup [x,y]) I hf' kp (Nat.le_refl _) ⟨by show 2<=sizeLine;decide,[u,v],.cons ru (.cons rv .nil),⟨_,t2,rfl,_,rfl⟩⟩
  have hfr:H s.heap.objs.size=none:=I.bL.fresh (Nat.le_refl _);refine⟨.ref s.heap.objs.size,upd H s.heap.objs.size (.tup [x,y]),I',rfl,⟨_,x,y,hfr,rfl,rfl,λzs hz=>by rw[hz.inj I q1];exact e1,λzs hz=>by rw[hz.inj I q2];exact e2⟩,⟨z2,G4.extBut _ _ D.uz (k1 _ _ D.uz D.uv D.ui D.uj h2),⟨u,v,G4.extBut _ _ D.vz v1⟩,i1.at λo e=>G4.extBut _ _ D.iz e,j1.at λo e=>G4.extBut _ _ D.jz e⟩,λb hb=>?_⟩
  have J0:=(hf b hb).1;have:b≠s.heap.objs.size:=by
   obtain⟨o,e,_⟩:∃o,s.heap.get? b=some o/\True:=by
    simp only[List.mem_cons,List.not_mem_nil,or_false]at hb;rcases hb with rfl|rfl|rfl|rfl|rfl
    ·exact⟨_,h1,trivial⟩
    ·exact⟨_,h2,trivial⟩
    ·exact⟨_,h3,trivial⟩
    ·obtain⟨o,e,_⟩:=h4.live;exact⟨o,e,trivial⟩
    ·obtain⟨o,e,_⟩:=h5.live;exact⟨o,e,trivial⟩
   exact Nat.ne_of_lt (Heap.lt_size e)
  rw[ai this];exact J0
 done:=by
  intro X hP hw hK hc n pins s σ H E I hf st hg;subst hP hw hK;obtain⟨h1,h2,⟨a,c,h3⟩,h4,h5⟩:=st;obtain⟨xs,ys,q1,q2,hl⟩:=hg;obtain⟨its,r1,p1,_⟩:=q1.is I;obtain⟨jts,r2,p2,_⟩:=q2.is I;have n1:=r1.length;have n2:=r2.length;refine Gn (I.ok.hd hc) D lz mz h1 h2 h3 h4 h5 p1 p2 (hl.imp (λq=>by simp;omega) λq=>by simp;omega) λg k1=>⟨rfl,?_⟩
  refine Jb (t':=s.toks) (ch:=[z,V,i,j]) I (λb hb=>hf b ?_) λb o hb e=>?_
  ·simp only[List.mem_cons,List.not_mem_nil,or_false]at hb ⊢
   rcases hb with e|e|e|e<;>simp [e]
  ·simp only[List.mem_cons,List.not_mem_nil,or_false,not_or]at hb
   exact k1 b o hb.1 hb.2.1 hb.2.2.1 hb.2.2.2 e
 self:=λ_ _ _ _ _ st h=>wpAny_pyIter_zip st.1 h
theorem Jf(n:Nat):Zd (n+4) (n+2) (n+3) n (n+1):=
  ⟨show(n+2:Nat)≠n+4 by omega,show(n+3:Nat)≠n+4 by omega,show(n:Nat)≠n+4 by omega,show(n+1:Nat)≠n+4 by omega,show(n+2:Nat)≠n+3 by omega,
   show(n+2:Nat)≠n by omega,show(n+2:Nat)≠n+1 by omega,show(n+3:Nat)≠n by omega,show(n+3:Nat)≠n+1 by omega,show(n:Nat)≠n+1 by omega⟩
theorem pH{l n:Nat}(h:l<n):l≠n+4/\l≠n+3/\l≠n/\l≠n+1:=by omega
def aaT(K:PySem.W.Frag)(ta:TA):TI:=λσ H R=>ta σ H λvs H1=>∃tp tq l m xs ys,vs=[.ref l,.ref m]/\Sq tp K H1 l xs/\Sq tq K H1 m ys/\R (Itz tp tq K l m) H1
theorem QI{X:Cx}{elts:List Expr}{kk:Nat}{xZ:Pos}{a b:Expr}{ta:TA}{p pos:Pos}(hg:Gl X "zip")(hm:X.mg "zip"=none)(ha:PA X [a,b] ta)(hs:starEach [a,b] X.env=[(false,eval a X.env),(false,eval b X.env)])(wq:starEach [b] X.env=[(false,eval b X.env)]):
  PI X (.Tuple elts kk xZ) (.Call (.Name "zip" p) [a,b] [] pos) (aaT X.K ta):=by
 intro pins s σ H R I h;refine PyProof.Rows.Call_ (lg I hg hm PyProof.Rows.boot_zip (PyProof.Rows.callWith_type1 (cm (ha pos pins s σ H _ I h) λus s1 ⟨vs,H1,I1,r1,q1⟩=>?_) (by rw[hs,wq]) (by rw[wq];rfl)))
 obtain⟨tp,tq,l,m,xs,ys,e,q1,q2,q⟩:=q1;subst e;obtain⟨u,v,rfl,ru,rv⟩:=vals2 r1;cases ru;cases rv;obtain⟨its,_,p1,ll⟩:=q1.is I1;obtain⟨jts,_,p2,lm⟩:=q2.is I1;refine Gk p1 p2 λg z1 u1 v1 i1 j1 k1=>?_;refine wpAny_pyIter_zip z1 ?_;have N:∀n:Nat,s1.heap.objs.size<=s1.heap.objs.size+n:=λn=>Nat.le_add_right _ _;refine⟨s1.heap.objs.size+4,[s1.heap.objs.size+4,s1.heap.objs.size+2,s1.heap.objs.size+3,s1.heap.objs.size,s1.heap.objs.size+1],_,_,H1,rfl,I1.kept (t':=s1.toks) k1,
  Gf tp tq _ _ _ _ _ l m (Jf _) (pH ll) (pH lm),⟨z1,u1,⟨_,_,v1⟩,i1,j1⟩,λb hb=>?_,q⟩
 have J0:s1.heap.objs.size<=b:=by
  simp only[List.mem_cons,List.not_mem_nil,or_false]at hb;rcases hb with rfl|rfl|rfl|rfl|rfl
  ·exact N 4
  ·exact N 2
  ·exact N 3
  ·exact N 0
  ·exact N 1
 exact I1.Ac J0 (I1.bL.fresh J0)
end Vc
namespace Vc
open PySem L2
variable [KF]
variable {G:GE}{k:Nat}{S:Stat}
def Z4:D->Option (List D)
 | .lst xs=>some xs
 | .tup xs=>some xs
 | _=>none
def wg(xs ys:List D):List D:=(xs.zip ys).map λp=>.tup [p.1,p.2]
def S2(t:et):et:=λσ Q=>t σ λds av=>match ds with
 | [a,b]=>match Z4 a,Z4 b with
  | some xs,some ys=>Q (wg xs ys) av
  | _,_=>False
 | _=>False
theorem Rep.sq{F:Hp}{v:V}{d:D}{xs:List D}(r:Rep F v d)(e:Z4 d=some xs)(K:PySem.W.Frag):∃tp a vs,v=.ref a/\(∀H,aj F H->Sq tp K H a vs)/\ay F vs xs:=by
 cases d with
 | lst ys =>
  cases e;cases r with
  | lst h r=>exact⟨false,_,_,rfl,λH s=>(show fF K H _ _ from .inl (Rd.mono s h)),r⟩
 | tup ys =>
  cases e;cases r with
  | tup h r=>exact⟨true,_,_,rfl,λH s=>(show kR K H _ _ from .of (s _ _ h)),r⟩
 | _=>cases e
theorem Gi{xs ys:List D}{i:Nat}{d:D}(h:(wg xs ys)[i]?=some d):∃x y,xs[i]?=some x/\ys[i]?=some y/\d=.tup [x,y]:=by
 unfold wg at h;rw[List.getElem?_map]at h;cases e:(xs.zip ys)[i]? with
 | none=>rw[e]at h;cases h
 | some p =>
  rw[e]at h;obtain⟨e1,e2⟩:=List.getElem?_zip_eq_some.mp e;exact⟨p.1,p.2,e1,e2,(Option.some.inj h).symm⟩
theorem Hl{K:PySem.W.Frag}{F:Hp}{tp tq:Bool}{l m:Addr}{vs us:List V}{xs ys:List D}(h1:∀H,aj F H->Sq tp K H l vs)(h2:∀H,aj F H->Sq tq K H m us)(r1:ay F vs xs)(r2:ay F us ys):gM F (Itz tp tq K l m) (wg xs ys):=λF1 H1 s1 s2 i=>by
 have a1:=h1 H1 (s1.trans s2);have a2:=h2 H1 (s1.trans s2);refine⟨λd e=>?_,λhl=>⟨vs,us,a1,a2,?_⟩⟩
 ·obtain⟨x,y,e1,e2,rfl⟩:=Gi e
  obtain⟨v,w1,q1⟩:=r1.get e1;obtain⟨u,w2,q2⟩:=r2.get e2;refine⟨⟨vs,us,v,u,a1,a2,w1,w2⟩,λz H2 yl=>?_⟩;obtain⟨p,v',u',hp,rfl,rfl,f1,f2⟩:=yl;have e1':=f1 vs a1;have G4:=f2 us a2;rw[w1]at e1';cases e1';rw[w2]at G4;cases G4;have sm:=aD (o:=.tup [v,u]) (same_none s2 hp);exact⟨upd F1 p (.tup [v,u]),.inr ⟨p,_,hp,rfl,rfl⟩,.tup au (.cons ((q1.mono s1).mono sm) (.cons ((q2.mono s1).mono sm) .nil))⟩
 ·have:(wg xs ys).length=min xs.length ys.length:=by unfold wg;simp
  have n1:=r1.length;have n2:=r2.length;omega
theorem WK{elts:List Expr}{kk:Nat}{xZ:Pos}{a b:Expr}{t:et}{p pos:Pos}(h:wz G k S [a,b] t)(hm:G.mg "zip"=none)(hg:S.sc.lookup ("zip":Str)=some .globalImplicit:=by rfl)(hs:∀env,starEach [a,b] env=[(false,eval a env),(false,eval b env)]:=by intro _;rfl)(wq:∀env,starEach [b] env=[(false,eval b env)]:=by intro _;rfl):
  EI G k S (.Tuple elts kk xZ) (.Call (.Name "zip" p) [a,b] [] pos) (S2 t):=.mk λX Y ok=>rX (QI (eu ok hg) (by rw[ok.mg];exact hm) (h X Y ok) (hs _) (wq _)) λσ H Q q=>by
 obtain⟨F,ah,Qd,R,q,K⟩:=q;refine⟨F,ah,_,R,q,λvs H1 F1 ds av s1 R1 r1 q1=>?_⟩
 split at q1
 ·rename_i x y
  split at q1
  ·rename_i xs ys ex ey
   cases r1 with
   | cons rx r1 =>
    cases r1 with
    | cons ry r1 =>
     cases r1;obtain⟨tp,l,us,rfl,a1,b1⟩:=rx.sq ex X.K;obtain⟨tq,m,ws,rfl,a2,b2⟩:=ry.sq ey X.K;exact⟨tp,tq,l,m,us,ws,rfl,a1 H1 R1.fr,a2 H1 R1.fr,K H1 F1 av _ _ s1 R1 (Hl a1 a2 b1 b2) q1⟩
  ·exact q1.elim
 ·exact q1.elim
end Vc
namespace Vc
open PySem L2
variable [KF]
section
variable {prog:Program}{w:World}{A:Around}{R:Result->Shared->Prop}
def dc(bt:Nat->Nat->Bool):Nat->Nat
 | 0=>0
 | n+1=>if bt (n+1) (dc bt n)=true then n+1 else dc bt n
def Bb(prog:Program)(w:World)(A:Around)(op:CmpOp)(h0:Heap)(its:Array Value)(bt:Nat->Nat->Bool):Prop:=
 ∀(i j:Nat) (x y:Value) (s:Shared) (Q:Value->Shared->Prop) (E:Value->Shared->Prop),its[i]?=some x->its[j]?=some y->(∀b o,h0.get? b=some o->s.heap.get? b=some o)->Q (.bool (bt i j)) s->wpAny (model prog w) A (richCompare op x y) Q E s
theorem OT{h0:Heap}{its:Array Value}{bt:Nat->Nat->Bool}(hh:A.handled=none)(hc:Bb prog w A.in1 .Lt h0 its bt){I l S:Addr}(ZG:h0.IsList l its)(IS:I≠S)(n0:h0.get? I=none)(n1:h0.get? S=none)(kw:List (Str×Value)):
  ∀(d j:Nat) (s:Shared) (v:Value) (c:Nat),its.size-(j+1)=d->j+1<=its.size->s.heap.IsListIter I l (j+1)->its[dc bt j]?=some v->s.heap.get? S=some {cls:=.type "list",dict:=none,data:=.seq #[v,v] c,slots:=#[]} ->
  (∀b o,h0.get? b=some o->s.heap.get? b=some o) ->
  (∀v g tk,its[dc bt (its.size-1)]?=some v->(∀b o,h0.get? b=some o->g.get? b=some o)->R (.ok (.ret v)) {s with heap:=g,toks:=tk}) ->
  codeAny (model prog w) A (.builtin "min.loop" ⟨[.ref I,.none,.ref S],kw⟩) R s:=by
 have nm:(toString "min"++toString ".loop":String)="min.loop":=by decide
 have lI:l≠I:=λz=>by obtain⟨o,e,_⟩:=ZG;rw[z,n0]at e;cases e
 have lS:l≠S:=λz=>by obtain⟨o,e,_⟩:=ZG;rw[z,n1]at e;cases e
 have nI:∀ {b o},h0.get? b=some o->b≠I:=λe z=>by rw[z,n0]at e;cases e
 have nS:∀ {b o},h0.get? b=some o->b≠S:=λe z=>by rw[z,n1]at e;cases e
 intro d
 induction d with
 | zero =>
  intro j s v c hd hj hI hv hS k0 hR;have e1:j+1=its.size:=by omega
  have hl:s.heap.IsList l its:=by obtain⟨o,e,r⟩:=ZG;exact⟨o,k0 _ _ e,r⟩
  refine codeAny_builtin F.entry_min_loop ?_;rw[Around.under_plainId F.plain_min_loop _];show wpAny _ A.in1 (seqItems? (.ref S) >>= _) _ _ s;refine wpAny_bind (wpAny_seqItems hS rfl ?_);show wpAny _ A.in1 (tryCatch (pyNext (.ref I)) _ >>= _) _ _ s;refine wpAny_bind (wpAny_tryCatch (wpAny_pyNext_list_end (show A.in1.handled=none from hh) hI hl (by simp;omega) λg x1=>?_))
  have S1:=x1 S _ IS.symm hS;show wpAny _ A.in1 (updateSeq S (λ_=>#[]) >>= _) _ _ _;refine wpAny_bind (wpAny_updateSeq (s:={s with heap:=g}) S1 rfl (wpAny_bind (wpAny_letGo (wpAny_pure ?_))))
  have e2:its.size-1=j:=by omega
  refine hR v _ s.toks (by rw[e2];exact hv) λb o e=>?_
  exact(Heap.get?_update_other _ _ (Ne.symm (nS e))).trans (x1 b o (nI e) (k0 b o e))
 | succ d ih =>
  intro j s v c hd hj hI hv hS k0 hR;have lU:j+1<its.size:=by omega
  have hl:s.heap.IsList l its:=by obtain⟨o,e,r⟩:=ZG;exact⟨o,k0 _ _ e,r⟩
  refine codeAny_builtin F.entry_min_loop ?_;rw[Around.under_plainId F.plain_min_loop _];show wpAny _ A.in1 (seqItems? (.ref S) >>= _) _ _ s;refine wpAny_bind (wpAny_seqItems hS rfl ?_);show wpAny _ A.in1 (tryCatch (pyNext (.ref I)) _ >>= _) _ _ s;have hx:its[j+1]?=some its[j+1]:=by simp [lU]
  refine wpAny_bind (wpAny_tryCatch (wpAny_pyNext_list_item hI hl hx λg I1 x1=>?_));have S1:=x1.extBut S _ IS.symm hS;have k1:∀b o,h0.get? b=some o->g.get? b=some o:=λb o e=>x1.extBut b o (nI e) (k0 b o e);show wpAny _ A.in1 (tryCatch (holding [its[j+1],its[j+1]] (richCompare .Lt its[j+1] v >>= _)) _ >>= _) _ _ _;refine wpAny_bind (wpAny_tryCatch (wpAny_holding (wpAny_bind (hc (j+1) (dc bt j) _ v {s with heap:=g} _ _ hx hv k1 ?_))))
  refine wpAny_bind (wpAny_holding (wpAny_truthy_bool (wpAny_bind (wpAny_letGo (wpAny_pure ?_)))));cases hb:bt (j+1) (dc bt j)with
  | true =>
   simp only[if_true];refine wpAny_bind (wpAny_updateSeq (s:={s with heap:=g}) S1 rfl (wpAny_bind (wpAny_letGo ?_)))
   rw[nm];refine wpAny_pure ⟨plainId_quiet F.plain_min_loop _,ih (j+1) _ its[j+1] _ ⋯ lU ?_ (by simp only[dc,hb,if_true];exact hx) (Heap.get?_update_self _ S1 rfl) (λb o e=>(Heap.get?_update_other _ _ (Ne.symm (nS e))).trans (k1 b o e)) λv' g' tk Wz k'=>?_⟩
   ·obtain⟨o,e,r⟩:=I1;exact⟨o,(Heap.get?_update_other _ _ (Ne.symm IS)).trans e,r⟩
   ·exact hR v' g' tk Wz k'
  | false =>
   simp only[Bool.false_eq_true,if_false];refine wpAny_bind (wpAny_letGo ?_);rw[nm];refine wpAny_pure ⟨plainId_quiet F.plain_min_loop _,ih (j+1) _ v c ⋯ lU I1 (by simp only[dc,hb,Bool.false_eq_true,if_false];exact hv) S1 k1 λv' g' tk Wz k'=>?_⟩
   exact hR v' g' tk Wz k'
theorem wJ(a v:Value):argsOk "min" ⟨[a],[(Str.ofString "default",v)]⟩:=by unfold argsOk;kernel_rfl
theorem vn{E:Value->Shared->Prop}{s:Shared}{its:Array Value}{bt:Nat->Nat->Bool}(hh:A.handled=none)(hc:Bb prog w A.in1 .Lt s.heap its bt){l:Addr}(hl:s.heap.IsList l its){dv:Value}{Q:Value->Shared->Prop}
  (q0:its.size=0->∀g tk,(∀b o,s.heap.get? b=some o->g.get? b=some o)->Q dv {s with heap:=g,toks:=tk})
  (q1:∀v g tk,its[dc bt (its.size-1)]?=some v->(∀b o,s.heap.get? b=some o->g.get? b=some o)->Q v {s with heap:=g,toks:=tk}):
  wpAny (model prog w) A (call (.builtin "min") [.ref l] [(Str.ofString "default",dv)]) Q E s:=by
 have nm:(toString "min"++toString ".loop":String)="min.loop":=by decide
 refine wpAny_call (codeAny_call_builtin F.plain_min F.entry_min ?_);have run:wpAny (model prog w) A.in1 (Builtin.«min» ⟨[.ref l],[(Str.ofString "default",dv)]⟩) (λfin s'=>match fin with
   | .done f=>(match(Except.ok f:Result)with|.ok (.ret v)=>Q v s'|.ok _=>False|.error e=>E e s')
   | .again c'=>c'.quiet=true/\codeAny (model prog w) A c' (λr s'=>match r with|.ok (.ret v)=>Q v s'|.ok _=>False|.error e=>E e s') s') E s:=by
  show wpAny _ A.in1 (Builtin.Builtins.bindParams "min" ["key","default"] 0 ⟨[],[(Str.ofString "default",dv)]⟩ >>= _) _ _ s;refine wpAny_bind (wpAny_of_eq (show Builtin.Builtins.bindParams "min" ["key","default"] 0 ⟨[],[(Str.ofString "default",dv)]⟩=pure [none,some dv]from rfl) (wpAny_bind (wpAny_pure ?_)))
  refine wpAny_bind (wpAny_pyIter_list hl (wpAny_bind (wpAny_newObj_type ?_)));generalize hg1:s.heap.push {cls:=.type "list_iterator",data:=.fields #[.ref l,.int 0 0]}=g1;have n1:g1.objs.size=s.heap.objs.size+1:=by rw[<- hg1];exact Heap.size_push ..
  have I0:(g1.push {cls:=.type "list",dict:=none,data:=.seq ([]:List Value).toArray}).IsListIter s.heap.objs.size l 0:=⟨_,Heap.get?_push_of_some _ (by rw[<- hg1];exact Heap.get?_push_size _ rfl),rfl,rfl⟩
  have S0:=Heap.get?_push_size g1 (o:={cls:=.type "list",dict:=none,data:=.seq ([]:List Value).toArray}) rfl;have k0:∀b o,s.heap.get? b=some o->(g1.push {cls:=.type "list",dict:=none,data:=.seq ([]:List Value).toArray}).get? b=some o:=λb o e=>Heap.get?_push_of_some _ (by rw[<- hg1];exact Heap.get?_push_of_some _ e)
  have fr:∀a,s.heap.objs.size<=a->s.heap.get? a=none:=λa ha=>by
   cases e:s.heap.get? a with
   | none=>rfl
   | some o=>exact absurd (Heap.lt_size e) (Nat.not_lt.mpr ha)
  have nI:s.heap.get? s.heap.objs.size=none:=fr _ (Nat.le_refl _);have nS:s.heap.get? g1.objs.size=none:=fr _ (by rw[n1];exact Nat.le_succ _)
  have IS:s.heap.objs.size≠g1.objs.size:=by rw[n1];exact Nat.ne_of_lt (Nat.lt_succ_self _)
  rw[nm];refine wpAny_pure ⟨plainId_quiet F.plain_min_loop _,?_⟩;generalize hg2:g1.push {cls:=.type "list",dict:=none,data:=.seq ([]:List Value).toArray}=g2 at I0 S0 k0;have tT:g2.IsList l its:=by obtain⟨o,e,r⟩:=hl;exact⟨o,k0 _ _ e,r⟩
  refine codeAny_builtin F.entry_min_loop ?_;rw[Around.under_plainId F.plain_min_loop _];show wpAny _ A.in1 (seqItems? (.ref g1.objs.size) >>= _) _ _ _;refine wpAny_bind (wpAny_seqItems (s:={s with heap:=g2}) S0 rfl ?_)
  show wpAny _ A.in1 (tryCatch (pyNext (.ref s.heap.objs.size)) _ >>= _) _ _ _
  by_cases hz:its.size=0
  ·refine wpAny_bind (wpAny_tryCatch (wpAny_pyNext_list_end (show A.in1.handled=none from hh) I0 tT (by simp [hz]) λg x1=>?_))
   refine wpAny_bind (wpAny_rule (wpAny_pure ?_));exact q0 hz g s.toks λb o e=>x1 b o (λz=>by rw[z,nI]at e;cases e) (k0 b o e)
  ·have hx:its[0]?=some its[0]:=by simp [Nat.pos_of_ne_zero hz]
   refine wpAny_bind (wpAny_tryCatch (wpAny_pyNext_list_item I0 tT hx λg I1 x1=>?_));have S1:=x1.extBut _ _ IS.symm S0;have k1:∀b o,s.heap.get? b=some o->g.get? b=some o:=λb o e=>x1.extBut b o (λz=>by rw[z,nI]at e;cases e) (k0 b o e)
   show wpAny _ A.in1 (updateSeq g1.objs.size (λ_=>#[its[0],its[0]]) >>= _) _ _ _;refine wpAny_bind (wpAny_updateSeq (s:={s with heap:=g}) S1 rfl ?_)
   rw[nm];refine wpAny_pure ⟨plainId_quiet F.plain_min_loop _,OT hh hc hl IS nI nS _ _ 0 _ its[0] _ rfl (Nat.pos_of_ne_zero hz) ?_ hx (Heap.get?_update_self _ S1 rfl) (λb o e=>(Heap.get?_update_other _ _ (λz=>by rw[<- z,nS]at e;cases e)).trans (k1 b o e)) λv g' tk hv k'=>q1 v g' tk hv k'⟩
   obtain⟨o,e,r⟩:=I1;exact⟨o,(Heap.get?_update_other _ _ (Ne.symm IS)).trans e,r⟩
 simp only[checkBuiltinCall,F.kind_min];cases aaM:Manifest.signature? "min" with
 | none=>exact wpAny_pure run
 | some sig =>
  have ha:argsOk "min" ⟨[.ref l],[(Str.ofString "default",dv)]⟩:=wJ _ _;have ha':Bind.checkArgs "min" sig ⟨[.ref l],[(Str.ofString "default",dv)]⟩=pure ():=by simpa only[argsOk,aaM]using ha
  simp only[ha'];exact wpAny_pure run
end
end Vc
namespace Vc
open PySem L2
variable [KF]
variable {G:GE}{k:Nat}{S:Stat}
def isInt:D->Bool
 | .int _=>true
 | _=>false
def k8:D->Int
 | .int i=>i
 | _=>0
theorem ay.ints{F:Hp}:∀ {vs:List V} {xs:List D},ay F vs xs->xs.all isInt=true->vs=(xs.map k8).map V.int
 | _,_,.nil,_=>rfl
 | _,_,.cons (d:=d) r t,h=>by
  rw[List.all_cons,Bool.and_eq_true]at h;cases d with
  | int i =>
   cases r;rw[ay.ints t h.2];rfl
  | _=>exact absurd h.1 (by simp [isInt])
theorem BX{X:Cx}(hc:X.calm=true):cV X (.builtin "sum") (λxs H Q=>∃(a:Addr) (ns:List Int),xs=[.ref a]/\fF X.K H a (ns.map V.int)/\Q (.int ns.sum) H):=by
 intro pins s σ H xs us Q I r h;obtain⟨a,ns,rfl,hq,q⟩:=h;obtain⟨u,rfl,ru⟩:=vals1 r;cases ru;obtain⟨its,rv,p,_⟩:=I.list hq;obtain⟨m,F⟩:=I.fr;have hi:=L2.intsAre_of rv;obtain⟨ys,e⟩:=(hi.allInts).items;have pl:=p.isList;rw[e]at pl;refine sum_intListG (I.ok.hd hc) pl λg tk t' kp=>⟨.int ns.sum,H,I.kept kp,⟨t',?_⟩,q⟩;have e1:preSum (numAt ys) ys.size=(PySem.numsOf its.toArray.toList).sum:=by
  rw[e,nums_intItems,preSum_eq,List.take_of_length_le (by simp)]
 rw[e1,show its.toArray.toList=its from rfl,hi.numsOf]
def sumF:List D->(EV->Prop)->Prop
 | [.lst xs],Q=>xs.all isInt=true/\Q (.val (.int (xs.map k8).sum))
 | _,_=>False
theorem JU(hh:S.gm=false:=by rfl):zI G k S (.builtin "sum") sumF:=⟨λK xs H Q=>∃(a:Addr) (ns:List Int),xs=[V.ref a]/\fF K H a (ns.map V.int)/\Q (.int ns.sum) H,λ_ _ ok=>BX (ok.calm hh),λY F H ah σ vs ds Qd Q R r q g=>by
 unfold sumF at q
 split at q
 ·obtain⟨v,rfl,rv⟩:=r.one
  obtain⟨p,us,rfl,h1,h2⟩:=rv.lst;refine⟨p,_,rfl,?_,g.val R (.int _) q.2⟩;rw[<- h2.ints q.1];exact .inl h1
 ·exact q.elim⟩
end Vc
namespace Vc
open PySem L2
variable [KF]
variable {G:GE}{k:Nat}{S:Stat}
def eX:D->Bool
 | .tup xs=>xs.all isInt
 | _=>false
def ltI:D->D->Bool
 | .int i,.int j=>decide (i<j)
 | .tup xs,.tup ys=>HT.lexLt (xs.map k8) (ys.map k8)
 | _,_=>false
def jy:List D->Option D
 | []=>none
 | x::xs=>some (xs.foldl (λb y=>if ltI y b=true then y else b) x)
def wk(xs:List D)(i j:Nat):Bool:=ltI (xs.getD i .aW) (xs.getD j .aW)
theorem m6(xs:List D)(x:D):∀n,n<(x::xs).length->(x::xs).getD (dc (wk (x::xs)) n) .aW=(xs.take n).foldl (λb y=>if ltI y b=true then y else b) x
 | 0,_=>rfl
 | n+1,h=>by
  have ih:=m6 xs x n (by simp at h ⊢;omega)
  have hl:n<xs.length:=by simpa using h
  have gx:(x::xs).getD (n+1) .aW=xs[n]:=by
   rw[List.getD_eq_getElem?_getD,List.getElem?_cons_succ,List.getElem?_eq_getElem hl];rfl
  rw[List.take_add_one,List.getElem?_eq_getElem hl,Option.toList_some,List.foldl_append,List.foldl_cons,List.foldl_nil,<- ih];have e:wk (x::xs) (n+1) (dc (wk (x::xs)) n)=ltI xs[n] ((x::xs).getD (dc (wk (x::xs)) n) .aW):=by
   unfold wk;rw[gx]
  show(x::xs).getD (if wk (x::xs) (n+1) (dc (wk (x::xs)) n)=true then n+1 else dc (wk (x::xs)) n) .aW=_
  rw[e]
  split
  ·exact gx
  ·rfl
theorem qN{xs:List D}(h:xs≠[]):jy xs=some (xs.getD (dc (wk xs) (xs.length-1)) .aW):=by
 cases xs with
 | nil=>exact absurd rfl h
 | cons x xs =>
  have:=m6 xs x xs.length (by simp)
  have e:(x::xs).length-1=xs.length:=by simp
  rw[e,this,List.take_length];rfl
theorem Lx{X:Cx}{pins:List (Addr×Obj)}{σ:St}{H F:Hp}{s:Shared}(I:L2.Inv X pins σ H s)(sm:aj F H)(hu:X.A.in1.units<cLine){vs:List V}{xs:List D}{its:List Value}(rl:ay F vs xs)(rv:Vals vs its)(hc:xs.all isInt=true\/xs.all eX=true):
  Bb X.prog X.w X.A.in1 .Lt s.heap its.toArray (wk xs):=by
 intro i j x y s' Q E ex ey kp q;have ex':its[i]?=some x:=by simpa using ex
 have ey':its[j]?=some y:=by simpa using ey
 have back:∀ {n z},its[n]?=some z->∃v d,vs[n]?=some v/\xs[n]?=some d/\RelV v z/\Rep F v d:=λ{n z} e=>by
  have hl:n<vs.length:=by rw[rv.length];exact(List.getElem?_eq_some_iff.mp e).1
  have ev:vs[n]?=some vs[n]:=List.getElem?_eq_getElem hl;obtain⟨d,e1,e2⟩:=rl.get' ev;obtain⟨u,e3,e4⟩:=rv.get ev;rw[e]at e3;cases e3;exact⟨_,d,ev,e1,e4,e2⟩
 obtain⟨v,d,_,hd,r1,p1⟩:=back ex';obtain⟨u,e,_,he,r2,p2⟩:=back ey';have bt:wk xs i j=ltI d e:=by
  unfold wk;rw[List.getD_eq_getElem?_getD,List.getD_eq_getElem?_getD,hd,he];rfl
 rw[bt]at q;have md:d∈xs:=List.mem_of_getElem? hd;have me:e∈xs:=List.mem_of_getElem? he;show wpAny _ _ (compareOp .Lt x y) _ _ _;rcases hc with hc|hc
 ·have h1:=List.all_eq_true.mp hc d md
  have h2:=List.all_eq_true.mp hc e me;cases d with
  | int a =>
   cases e with
   | int b =>
    cases p1;cases p2;obtain⟨t,rfl⟩:=r1;obtain⟨t',rfl⟩:=r2;exact PyProof.Rows.lt_int q
   | _=>exact absurd h2 (by simp [isInt])
  | _=>exact absurd h1 (by simp [isInt])
 ·have h1:=List.all_eq_true.mp hc d md
  have h2:=List.all_eq_true.mp hc e me;cases d with
  | tup as =>
   cases e with
   | tup bs =>
    cases p1 with
    | tup hf rf =>
     cases p2 with
     | tup hg rg =>
      cases r1;cases r2;rename_i va vas vb vbs;obtain⟨_,ia,wa,oa,ga,ca⟩:=I.bL _ _ (sm _ _ hf);obtain⟨_,ib,wb,ob,gb,cb⟩:=I.bL _ _ (sm _ _ hg);rw[rf.ints h1]at wa;rw[rg.ints h2]at wb;exact HT.xa ⟨oa,kp _ _ ga,ca⟩ ⟨ob,kp _ _ gb,cb⟩ (L2.intsAre_of wa) (L2.intsAre_of wb) hu q
   | _=>exact absurd h2 (by simp [eX])
  | _=>exact absurd h1 (by simp [eX])
def IX(t:TV)(td:TD):TV:=λσ Q=>t σ λx av=>td av λdv aH=>match cS aH x with
 | some (.lst xs)=>(xs.all isInt=true\/xs.all eX=true)/\Q (.val ((jy xs).getD dv)) aH
 | _=>False
theorem Km{e d:Expr}{t:TV}{td:TD}{p kp pos:Pos}(h:EO G k S e t)(hd:ED G k S d td)(hm:G.mg "min"=none)(hg:S.sc.lookup ("min":Str)=some .globalImplicit:=by rfl)
  (he:∀env,starEach [e] env=[(false,eval e env)]:=by intro _;rfl) (hh:S.gm=false:=by rfl):EO G k S (.Call (.Name "min" p) [e] [⟨some "default",d,kp⟩] pos) (IX t td):=.mk λX Y ok=>by
 intro pins s σ H Q I q;obtain⟨F,ah,Qd,R,q,K⟩:=q;refine wpAny_Call_Name_kw (lg (u:=.builtin "min") I (eu ok hg) (by rw[ok.mg];exact hm) (by decide +kernel) ?_ ∅ ∅)
 have ha:PA X [e] (mr (lO Y t) pC):=cu (h X Y ok) dJ (by rw[he];rfl)
 have hk:PK X [⟨some "default",d,kp⟩] (mr (lD Y td) pC):=Ii (hd X Y ok) QJ;have hA:=ha pos pins s σ H (λvs H1=>∃v1 F1 x av,vs=[v1]/\aj F F1/\RS Y F1 av σ H1/\wF F1 σ v1 x/\td av (λdv aH=>match cS aH x with
   | some (.lst xs)=>(xs.all isInt=true\/xs.all eX=true)/\Qd (.val ((jy xs).getD dv)) aH
   | _=>False)) I ⟨F,ah,_,R,q,λv1 H1 F1 x av s1 R1 r1 q1=>⟨v1,F1,x,av,rfl,s1,R1,r1,q1⟩⟩
 refine PyProof.Rows.callWith_kw (env:=X.env) (cm hA λus s1 h1=>?_) (by rw[he];rfl) (by rw[he];rfl) rfl rfl
 obtain⟨vs,H1,I1,rvs,v1,F1,x,av,rfl,sm1,R1,r1,q1⟩:=h1;obtain⟨u1,rfl,ru1⟩:=vals1 rvs;refine cm (hk pos pins s1 σ H1 (λvs H2=>∃v2 F2 dv aH,vs=[v2]/\aj F1 F2/\RS Y F2 aH σ H2/\Rep F2 v2 dv/\(match cS aH x with
   | some (.lst xs)=>(xs.all isInt=true\/xs.all eX=true)/\Qd (.val ((jy xs).getD dv)) aH
   | _=>False)) I1 ⟨F1,av,_,R1,q1,λv2 H2 F2 dv aH s2 R2 r2 q2=>⟨v2,F2,dv,aH,rfl,s2,R2,r2,q2⟩⟩) λws s2 h2=>?_
 obtain⟨vs2,H2,I2,abj,v2,F2,dv,aH,rfl,sm2,R2,r2,q2⟩:=h2;obtain⟨u2,rfl,ru2⟩:=vals1 abj
 split at q2
 ·rename_i xs ex
  obtain⟨hc,q2⟩:=q2;obtain⟨a,vs,rfl,ZM,rl⟩:=(R2.cS (r1.mono sm2) ex).lst;cases ru1;obtain⟨its,rv,pl,_⟩:=I2.list (show fF X.K H2 a vs from .inl ZM)
  have hu:X.A.in1.units<cLine:=by
   have:=ok.units;show X.A.units+1<cLine;omega
  have Tv:=Lx I2 R2.fr hu rl rv hc;have len:its.toArray.size=xs.length:=by rw[List.size_toArray,<- rv.length,rl.length]
  refine vn (I2.ok.hd (ok.calm hh)) Tv pl.isList (λhz g tk kp=>?_) λz g tk hz kp=>?_
  ·have:xs=[]:=List.length_eq_zero_iff.mp (by rw[<- len];exact hz)
   subst this;exact⟨v2,H2,I2.kept kp,ru2,K v2 H2 F2 (.val dv) aH (sm1.trans sm2) R2 r2 q2⟩
  ·have ZO:its[dc (wk xs) (xs.length-1)]?=some z:=by rw[len]at hz;simpa using hz
   have cC:xs≠[]:=λe=>by
    subst e;have:its=[]:=List.length_eq_zero_iff.mp (by rw[<- rv.length,rl.length];rfl)
    rw[this]at ZO;simp at ZO
   have hl:dc (wk xs) (xs.length-1)<vs.length:=by rw[rv.length];exact(List.getElem?_eq_some_iff.mp ZO).1
   have ev:vs[dc (wk xs) (xs.length-1)]?=some vs[dc (wk xs) (xs.length-1)]:=List.getElem?_eq_getElem hl;obtain⟨dd,e1,e2⟩:=rl.get' ev;obtain⟨zz,e3,e4⟩:=rv.get ev;rw[ZO]at e3;cases e3;have eb:jy xs=some dd:=by rw[qN cC,List.getD_eq_getElem?_getD,e1];rfl
   rw[eb]at q2;exact⟨_,H2,I2.kept kp,e4,K _ H2 F2 (.val dd) aH (sm1.trans sm2) R2 e2 q2⟩
 ·exact q2.elim
end Vc
namespace Vc
open PySem L2
variable [KF]
variable {G:GE}{k:Nat}{S:Stat}
theorem Du{g:fG}{tb:b5}{De:gJ}{items:List D}(I:Nat->Sd->Prop)
  (DU:∀i x σ (N:Sd->Prop),items[i]?=some x->I i σ->(∀bh,I (i+1) bh->N bh)->g x σ λav=>tb {nx:=N,rt:=De.rt,bk:=De.nx,ct:=N} av)
  (rA:∀σ,I items.length σ->De.nx σ) {σ:Sd} (h0:I 0 σ):nr g tb De items σ:=by
 have key:∀(xs:List D) (i:Nat) (σ:Sd),items.drop i=xs->i<=items.length->I i σ->nr g tb De xs σ:=by
  intro xs
  induction xs with
  | nil =>
   intro i σ e l h;have:items.length<=i:=List.drop_eq_nil_iff.mp e;exact rA σ ((Nat.le_antisymm l this) ▸ h)
  | cons x r ih =>
   intro i σ e l h;have hx:items[i]?=some x:=by
    have:=congrArg (·[0]?) e
    simpa using this
   have hr:items.drop (i+1)=r:=by rw[<- List.drop_drop,e];rfl
   have hl:i<items.length:=(List.getElem?_eq_some_iff.mp hx).1;exact DU i x σ _ hx h λbh h'=>ih (i+1) bh hr hl h'
 exact key items 0 σ rfl (Nat.zero_le _) h0
theorem jC{α:Type}{g:fG}{tc:TB}{te:TD}{σ0:Sd}{Q:List D->Prop}(gi:α->D)(f:α->Option D)(l:List α)
  (h:∀a∈l,∀(A:D->Prop) (Bn:Prop),(match f a with|some d=>A d|none=>Bn)->g (gi a) σ0 λav=>tc av λb aH=>if b=true then te aH λd c9=>gD σ0 c9/\A d else gD σ0 aH/\Bn)
  (hl:l.length<=sizeLine) (q:Q (l.filterMap f)):fe g tc te σ0 (l.map gi) [] Q:=by
 have key:∀(l:List α) (acc:List D),(∀a∈l,∀(A:D->Prop) (Bn:Prop),(match f a with|some d=>A d|none=>Bn)->g (gi a) σ0 λav=>tc av λb aH=>if b=true then te aH λd c9=>gD σ0 c9/\A d else gD σ0 aH/\Bn) ->
   acc.length+l.length<=sizeLine->Q (acc++l.filterMap f)->fe g tc te σ0 (l.map gi) acc Q:=by
  intro l
  induction l with
  | nil=>intro acc _ _ q;simpa [fe]using q
  | cons a l ih =>
   intro acc h hl q;rw[List.length_cons]at hl;rw[List.map_cons];refine h a (List.mem_cons_self ..) (λd=>acc.length<sizeLine/\fe g tc te σ0 (l.map gi) (acc++[d]) Q) (fe g tc te σ0 (l.map gi) acc Q) ?_;have hr:=λy hy=>h y (List.mem_cons_of_mem _ hy);cases e:f a with
   | some d =>
    refine⟨by omega,ih _ hr (by rw[List.length_append,List.length_singleton];omega) ?_⟩
    rw[List.filterMap_cons_some e]at q
    rwa [List.append_assoc]
   | none =>
    refine ih acc hr ⋯ ?_
    rwa [List.filterMap_cons_none e]at q
 exact key l [] h (by simpa using hl) q
theorem dz{α:Type}{g:fG}{te:TD}{σ0:Sd}{Q:List D->Prop}(gi f:α->D)(l:List α)
  (h:∀a∈l,∀(A:D->Prop),A (f a)->g (gi a) σ0 λav=>te av λd c9=>gD σ0 c9/\A d)
  (hl:l.length<=sizeLine) (q:Q (l.map f)):fe g cR te σ0 (l.map gi) [] Q:=
 jC gi (λx=>some (f x)) l (λx hx A Bn ha=>h x hx A ha) hl (by simpa using q)
theorem iu{α:Type}{g:fG}{tb:b5}{De:gJ}(gi:α->D)(l:List α)(I:Nat->Sd->Prop)
  (DU:∀i a σ (N:Sd->Prop),l[i]?=some a->I i σ->(∀bh,I (i+1) bh->N bh)->g (gi a) σ λav=>tb {nx:=N,rt:=De.rt,bk:=De.nx,ct:=N} av)
  (rA:∀σ,I l.length σ->De.nx σ) {σ:Sd} (h0:I 0 σ):nr g tb De (l.map gi) σ:=by
 refine Du I (λi x σ N hx hI hN=>?_) (λσ h=>rA σ (by rwa [List.length_map]at h)) h0
 rw[List.getElem?_map]at hx;cases e:l[i]? with
 | none=>rw[e]at hx;cases hx
 | some a=>rw[e]at hx;cases hx;exact DU i a σ N e hI hN
theorem eG(lo:Int)(n:Nat):pq lo n=(List.range n).map λi=>.int (lo+(i:Nat)):=rfl
theorem Gj{α β:Type}(f:α->D)(g:β->D)(xs:List α)(ys:List β):wg (xs.map f) (ys.map g)=(xs.zip ys).map λp=>.tup [f p.1,g p.2]:=by
 unfold wg;rw[List.zip_map,List.map_map];rfl
theorem yf{α:Type}{xs:List α}{n:Nat}{d:α}(h:xs[n]?=some d):L2.o5 xs (n:Int)=some d:=by
 have hn:=(List.getElem?_eq_some_iff.mp h).1;unfold L2.o5 L2.yN;rw[if_pos (Int.natCast_nonneg n),if_pos ⋯]
 show xs[(n:Int).toNat]?=some d;rw[Int.toNat_natCast];exact h
theorem bH{xs:List D}{n:Nat}{i:Int}{d:D}{Q:D->Prop}(e:i=(n:Int))(h:xs[n]?=some d)(q:Q d):Ka (.lst xs) (.int i) Q:=by
 subst e;show(match L2.o5 xs (n:Int)with|some d=>Q d|none=>False)
 rw[yf h];exact q
theorem cX{xs:List D}{n:Nat}{i:Int}{d:D}{Q:D->Prop}(e:i=(n:Int))(h:xs[n]?=some d)(q:Q d):Ka (.tup xs) (.int i) Q:=by
 subst e;show(match L2.o5 xs (n:Int)with|some d=>Q d|none=>False)
 rw[yf h];exact q
theorem nF{xs:List D}{i:Int}{Q:D->Prop}(h0:0<=i)(h1:i<xs.length)(h:∀d∈xs,Q d):Ka (.lst xs) (.int i) Q:=by
 have hn:i.toNat<xs.length:=by omega
 exact bH (n:=i.toNat) ⋯ (List.getElem?_eq_getElem hn) (h _ (List.getElem_mem hn))
structure du(G:GE)(x:Str)(st:Stmt)(ps:List Str)(f:Addr)(fd:FuncData):Prop where
 F:A5 G.K x x st f fd
 m:G.mg x=some (.ref f)
 b:Binds G.K fd ps []
theorem du.fg{x:Str}{st:Stmt}{ps N:List Str}{f:Addr}{fd:FuncData}{t:b5}{sp:bf}(d:du G x st ps f fd)(hK:G.K=KF.K)(Sc:aC N ps (ae st))(ht:dy G k ⟨N,(ae st).names,[],false,false,false,λ_ _=>False⟩ (aq st) t)
  (len:∀ds Q,sp ds Q->ds.length=ps.length) (body:∀ds Q,sp ds Q->t {nx:=λ_=>Q (.sh .aW),rt:=λb _=>Q b} (aR N.length ds)):d5 G (k+1) x sp:=
 ⟨f,fd,ps,Dt hK d.F Sc ht len body,d.m,d.F.kp,d.b⟩
theorem aw{t u:b5}{De:gJ}{σ:Sd}(h:∀N,N=u De->t {nx:=N,rt:=De.rt,bk:=De.bk,ct:=De.ct} σ):ck t u De σ:=h _ rfl
end Vc
namespace Vs
open PySem PyProof.Rows
def R(ρ:Keyed->Nat)(xs:Array Keyed)(i:Nat):Nat:=match xs[i]? with
 | some p=>ρ p
 | none=>0
section
variable {M:Model}{A:Around}{E:Value->Shared->Prop}{s:Shared}{ρ:Keyed->Nat}{kd:SortKind}{P:Keyed->Prop}{aag:Array Keyed}
local macro_rules|`(tactic| walk_at "s_tail")=>`(tactic| (funext s3;obtain⟨r3,n3⟩:=s3;cases r3<;>rfl))
local macro_rules|`(tactic| walk_at "s_t3")=>`(tactic| (congr 1;funext _w;congr 1;walk_at "s_tail"))
local macro_rules|`(tactic| walk_at "s_desc")=>`(tactic| (congr 1;funext _u;congr 1;congr 1;funext s2;obtain⟨r2,n2,q2⟩:=s2;cases r2 with
  | some r2=>rfl
  | none=>(dsimp only;split;(congr 1;funext _v;walk_at "s_t3");walk_at "s_t3")))
end
end Vs
namespace Vs
open PySem PyProof.Rows
def So(ρ:Keyed->Nat)(l:List Keyed):Prop:=l.Pairwise λx y=>ρ x<=ρ y
structure J(ρ:Keyed->Nat)(L O A B:List Keyed):Prop where
 o:So ρ O
 a:So ρ A
 b:So ρ B
 oa:∀x∈O,∀y∈A,ρ x<=ρ y
 ob:∀x∈O,∀y∈B,ρ x<=ρ y
 p:(O++(A++B)).Perm L
def Good(ρ:Keyed->Nat)(L r:List Keyed):Prop:=So ρ r/\r.Perm L
structure Kp(st wy:SortSt):Prop where
 a:arrOf wy=arrOf st
 k:kindOf wy=kindOf st
 p:pendingOf wy=pendingOf st
 f:failedOf wy=failedOf st
end Vs
namespace Vs
open PySem PyProof.Rows
section
variable {M:Model}{Ar:Around}{E:Value->Shared->Prop}{s:Shared}{ρ:Keyed->Nat}{kd:SortKind}{P:Keyed->Prop}{a b out:Array Keyed}{L:List Keyed}{ia ib:Nat}
abbrev GS:=Option (Array Keyed)×Array Keyed×Nat×Nat×Nat×Nat×Nat
def V(ρ:Keyed->Nat)(L:List Keyed)(a b out:Array Keyed)(ia ib:Nat):Prop:=J ρ L out.toList (a.toList.drop ia) (b.toList.drop ib)
def Left(ρ:Keyed->Nat)(L:List Keyed)(a b:Array Keyed)(t:Nat)(out:Array Keyed)(ia ib:Nat):Prop:=V ρ L a b out ia ib/\ia+1<a.size/\ib<b.size/\t<=ia+ib
def PG(ρ:Keyed->Nat)(L:List Keyed)(a b:Array Keyed)(t:Nat)(Z5:SortSt)(r:ForInStep GS)(st:SortSt):Prop:=Kp Z5 st/\match r with
 | .done c=>(∃arr,c.1=some arr/\Good ρ L arr.toList)\/(c.1=none/\Left ρ L a b t c.2.1 c.2.2.1 c.2.2.2.1)
 | .yield c=>c.1=none/\Left ρ L a b t c.2.1 c.2.2.1 c.2.2.2.1
structure KS(ρ:Keyed->Nat)(P:Keyed->Prop)(a b:Array Keyed):Prop where
 pa:∀x∈a.toList,P x
 pb:∀x∈b.toList,P x
 sa:So ρ a.toList
 sb:So ρ b.toList
 a1:1<=a.size
 b1:1<=b.size
 z:∀y∈b.toList,∀z,a[a.size-1]?=some z->ρ y<=ρ z
 y:∀y∈a.toList,∀z,b[0]?=some z->ρ z<=ρ y
abbrev IS:=Option (Array Keyed)×Array Keyed×Nat×Nat×Nat×Nat
abbrev OS:=Option (Array Keyed)×Array Keyed×Nat×Nat×Nat
def PO(ρ:Keyed->Nat)(L:List Keyed)(a b:Array Keyed)(t:Nat)(Z5:SortSt)(r:ForInStep OS)(st:SortSt):Prop:=match r with
 | .done c=>Kp Z5 st/\∃arr,c.1=some arr/\Good ρ L arr.toList
 | .yield c=>Kp Z5 st/\c.1=none/\Left ρ L a b t c.2.1 c.2.2.1 c.2.2.2.1
end
end Vs
namespace Vs
open PySem PyProof.Rows
structure H(ρ:Keyed->Nat)(L O A B:List Keyed):Prop where
 o:So ρ O
 a:So ρ A
 b:So ρ B
 oa:∀x∈A,∀y∈O,ρ x<=ρ y
 ob:∀x∈B,∀y∈O,ρ x<=ρ y
 p:(A++(B++O)).Perm L
section
variable {M:Model}{Ar:Around}{E:Value->Shared->Prop}{s:Shared}{ρ:Keyed->Nat}{kd:SortKind}{P:Keyed->Prop}{a b out:Array Keyed}{L:List Keyed}{na nb:Nat}
def W(ρ:Keyed->Nat)(L:List Keyed)(a b out:Array Keyed)(na nb:Nat):Prop:=H ρ L out.toList.reverse (a.toList.take na) (b.toList.take nb)
end
end Vs
namespace Vs
open PySem PyProof.Rows
section
variable {M:Model}{Ar:Around}{E:Value->Shared->Prop}{s:Shared}{ρ:Keyed->Nat}{kd:SortKind}{P:Keyed->Prop}{aag:Array Keyed}
def sk(lo n:Nat):StateT SortSt Sem (ForInStep (Option Unit×Nat)):=do
 modify λs=>setPending s ((pendingOf s).push (lo,n,0))
 pure (ForInStep.yield (none,lo+n))
def qh(size pw:Nat):StateT SortSt Sem (Option Unit×Unit):=
 forIn [:size] ((none,()):Option Unit×Unit) λ_ _=>do
  let x <- get
  match(if(pendingOf x).size>1 then(pendingOf x)[(pendingOf x).size-2]? else none)with
  | some (_,_,XC) =>
   if XC<=pw then pure (ForInStep.done (none,()))
   else do
    let r <- mergeAt' ((pendingOf x).size-2)
    if(!r)=true then pure (ForInStep.done (some (),()))else pure (ForInStep.yield (none,()))
  | _=>pure (ForInStep.done (none,()))
def IA(size lo n:Nat):StateT SortSt Sem (ForInStep (Option Unit×Nat)):=do
 let x <- get
 match(pendingOf x).back? with
 | some (s1,n1,_)=>do
  let r <- qh size (power' size (2*s1+n1) (2*s1+n1+n1+n) size)
  match r.fst with
  | some r=>pure (ForInStep.done (some r,lo))
  | none=>do
   modify λs=>setPending s ((pendingOf s).modify ((pendingOf s).size-1) λx=>(x.fst,x.2.fst,power' size (2*s1+n1) (2*s1+n1+n1+n) size))
   sk lo n
 | _=>sk lo n
local macro_rules|`(tactic| walk_at "s_rest")=>`(tactic| (unfold IA qh sk;congr 1;funext x;cases e:(pendingOf x).back? with
  | none=>rfl
  | some y=>(obtain⟨s1,n1,p1⟩:=y;dsimp only;congr 1;funext r;obtain⟨r1,r2⟩:=r;cases r1<;>rfl)))
end
end Vs
namespace Vs
open PySem PyProof.Rows PySem.W
theorem fh:∀a:List Int,HT.lexLt a a=false
 | []=>rfl
 | x::a=>by rw[HT.eA,if_pos rfl];exact fh a
theorem jP:∀a b c:List Int,HT.lexLt a b=true->HT.lexLt b c=true->HT.lexLt a c=true
 | [],[],_,h,_=>by cases h
 | [],_::_,[],_,h=>by cases h
 | [],_::_,_::_,_,_=>rfl
 | _::_,[],_,h,_=>by cases h
 | _::_,_::_,[],_,h=>by cases h
 | x::a,y::b,z::c,h1,h2=>by
  rw[HT.eA]at h1 h2 ⊢
  by_cases e1:x=y
  ·rw[if_pos e1]at h1
   by_cases e2:y=z
   ·rw[if_pos e2]at h2
    rw[if_pos (e1.trans e2)];exact jP a b c h1 h2
   ·rw[if_neg e2]at h2
    have:=of_decide_eq_true h2;rw[if_neg ⋯];exact decide_eq_true ⋯
  ·rw[if_neg e1]at h1
   have h1:=of_decide_eq_true h1
   by_cases e2:y=z
   ·rw[if_neg ⋯];exact decide_eq_true ⋯
   ·rw[if_neg e2]at h2
    have:=of_decide_eq_true h2;rw[if_neg ⋯];exact decide_eq_true ⋯
theorem xc:∀a b:List Int,HT.lexLt a b=false->HT.lexLt b a=false->a=b
 | [],[],_,_=>rfl
 | [],_::_,h,_=>by cases h
 | _::_,[],_,h=>by cases h
 | x::a,y::b,h1,h2=>by
  rw[HT.eA]at h1 h2
  by_cases e1:x=y
  ·rw[if_pos e1]at h1
   rw[if_pos e1.symm]at h2;rw[e1,xc a b h1 h2]
  ·rw[if_neg e1]at h1
   rw[if_neg (Ne.symm e1)]at h2;have:=of_decide_eq_false h1;have:=of_decide_eq_false h2;omega
end Vs
namespace Vc
open PySem L2
variable [KF]
variable {G:GE}{k:Nat}{S:Stat}
def gY:D->List Int
 | .tup xs=>xs.map k8
 | .int i=>[i]
 | _=>[]
def rP(x y:D):Bool:=!HT.lexLt (gY y) (gY x)
def vV(xs:List D):List D:=xs.mergeSort rP
def uZ:D->Bool
 | .tup xs=>xs.all isInt&&!xs.isEmpty
 | _=>false
theorem lh(a b c:D)(h1:rP a b=true)(h2:rP b c=true):rP a c=true:=by
 unfold rP at *;simp only[Bool.not_eq_true']at *;cases e:HT.lexLt (gY c) (gY a)with
 | false=>rfl
 | true =>
  cases e2:HT.lexLt (gY c) (gY b)with
  | true=>rw[h2]at e2;cases e2
  | false =>
   cases e3:HT.lexLt (gY b) (gY c)with
   | true=>rw[Vs.jP _ _ _ e3 e]at h1;cases h1
   | false=>rw[Vs.xc _ _ e2 e3]at e;rw[e]at h1;cases h1
theorem As(a b:D):(rP a b||rP b a)=true:=by
 unfold rP;cases e:HT.lexLt (gY b) (gY a)with
 | false=>rfl
 | true =>
  cases e2:HT.lexLt (gY a) (gY b)with
  | false=>rfl
  | true=>have:=Vs.jP _ _ _ e e2;rw[Vs.fh]at this;cases this
theorem oA(xs:List D):(vV xs).Perm xs:=List.mergeSort_perm xs rP
theorem sN(xs:List D):(vV xs).Pairwise λx y=>rP x y=true:=List.pairwise_mergeSort lh As xs
theorem ints_map:∀ {xs:List D},xs.all isInt=true->(xs.map k8).map D.int=xs
 | [],_=>rfl
 | x::xs,h=>by
  rw[List.all_cons,Bool.and_eq_true]at h;cases x with
  | int i=>rw[List.map_cons,List.map_cons,ints_map h.2];rfl
  | _=>exact absurd h.1 (by simp [isInt])
theorem mM{d:D}(h:uZ d=true):d=.tup ((gY d).map D.int):=by
 cases d with
 | tup xs =>
  unfold uZ at h;rw[Bool.and_eq_true]at h;show D.tup xs=.tup ((xs.map k8).map D.int);rw[ints_map h.1]
 | _=>exact absurd h (by simp [uZ])
end Vc
namespace Vc
open PySem L2
variable [KF]
variable {G:GE}{k:Nat}{S:Stat}
def DZ(i:Nat)(j:Int)(d:D)(σ:Sd)(Q:Sd->Prop):Prop:=match σ[i]? with
 | some (some (.own xs))=>match yN xs.length j with
  | some m=>Q (σ.set i (some (.own (xs.set m d))))
  | none=>False
 | _=>False
def vZ(i:Nat)(tx:TV)(te:TD):b5:=λDe σ=>te σ λd av=>vf av i/\tx av λy aH=>match cS aH y with
 | some (.int j)=>DZ i j d aH De.nx
 | _=>False
theorem Im{X:Cx}{st:Stmt}{t t':TS}(h:PS X st t)(i:∀Dn σ H,t' Dn σ H->t Dn σ H):PS X st t':=λpins s σ H Dn I q=>h pins s σ H Dn I (i Dn σ H q)
theorem xI(i:Nat){x:Str}{ix e:Expr}{tx:TV}{te:TD}{pos dQ iQ:Pos}(he:ED G k S e te)(hx:EO G k S ix tx)(ho:EO G k S (.Name x iQ) (af i))
  (hs:∀line env,swapsWithSole [.Subscript (.Name x iQ) ix dQ] e line env=pure false:=by intro _ _;rfl) (hw:∀env,swappedStores [.Subscript (.Name x iQ) ix dQ] e env=pure none:=by intro _;rfl)
  (h1:∀env,(assignEach [.Subscript (.Name x iQ) ix dQ] env).map (·.2)=[assign (.Subscript (.Name x iQ) ix dQ) env]:=by intro _;rfl)
  (ha:∀env v,assign (.Subscript (.Name x iQ) ix dQ) env v=(do
   let ov <- holding [v] (eval (.Name x iQ) env)
   let iv <- holding [v,ov] (eval ix env)
   standAt dQ
   holding [v,ov,iv] (setItem ov iv v)
   release [v,ov,iv] []):=by intro _ _;rfl):ES G k S (.Assign [.Subscript (.Name x iQ) ix dQ] e pos) (vZ i tx te):=.mk λX Y ok =>
 Im (EL (he X Y ok) (QG (ho X Y ok) (hx X Y ok) set_list (ha _)) (hs _ _) (hw _) (h1 _)) λDn σ H q=>by
  obtain⟨F,ah,De,R,q,K⟩:=q;refine⟨F,ah,_,R,q,λv H1 F1 d av s1 R1 r1 q1=>?_⟩;obtain⟨⟨ys,e0⟩,q1⟩:=q1;refine⟨F1,av,λov aH=>ov=.var i/\aH=av,R1,?_,λv2 H2 F2 ov aH s2 R2 r2 q2=>?_⟩
  ·unfold af;rw[e0];exact⟨rfl,rfl⟩
  ·obtain⟨rfl,rfl⟩:=q2
   have r2:σ[i]?=some (some v2):=r2;refine⟨F2,aH,_,R2,q1,λv3 H3 F3 y c9 s3 R3 r3 q3=>?_⟩
   split at q3
   ·rename_i j ej
    unfold DZ at q3
    split at q3
    ·rename_i xs ex
     split at q3
     ·rename_i m em
      obtain⟨a,vs,w1,w2,w3,w4,w5⟩:=R3.own i xs ex;rw[r2]at w1;cases w1;have rj:=(R3.cS r3 ej).int;subst rj;refine⟨a,vs,j,m,rfl,rfl,w2,by rw[w3.length];exact em,?_⟩
      exact K.nx _ _ F3 _ ((s1.trans s2).trans s3) (R3.write ex r2 (ay.set ((r1.mono s2).mono s3) m w3)) q3
     ·exact q3.elim
    ·exact q3.elim
   ·exact q3.elim
abbrev jv:=List D->List D->(B->List D->Prop)->Prop
def sQ(sp:jv):Sp:=λvs H Q _=>∃F xs ds a us rest Qd,vs=.ref a::rest/\lL F H/\H a=some (.lst us)/\ay F us xs/\F a=none/\ay F rest ds/\sp xs ds Qd /\
 ∀v H' F' b ys Td,aj F F'->aj F' H'->(∀c o,c≠a->H c=some o->H' c=some o)->H' a=some (.lst Td)->ay F' Td ys->F' a=none->(∀c o,F' c=some o->F c=some o\/Nw H c o)->BJ H F' H' v b->Qd b ys->Q v H'
def fH(G:GE)(k:Nat)(x:Str)(sp:jv):Prop:=∃f fd ps,cn G.P G.w G.K G.mg G.base iL k f fd ps (sQ sp)/\G.mg x=some (.ref f)/\PySem.W.keepIn G.K (.ref f)=true/\Binds G.K fd ps []
theorem fH.mono{x:Str}{sp:jv}{j:Nat}(h:fH G j x sp)(l:j<=k):fH G k x sp:=by
 obtain⟨f,fd,ps,h1,h2,h3,h4⟩:=h;exact⟨f,fd,ps,h1.mono l,h2,h3,h4⟩
theorem cw.vM{ah:Sd}{σ:St}{a:Addr}{i:Nat}{xs ys:List D}(h:cw ah σ a)(e:ah[i]?=some (some (.own xs))):cw (ah.set i (some (.own ys))) σ a:=by
 refine⟨λj js e1 z=>?_,λ⟨j,o,c,e1,e2,hm⟩=>?_⟩
 ·rcases gs e1 with⟨rfl,_⟩|⟨_,e1⟩
  ·exact h j xs e z
  ·exact h j js e1 z
 ·rcases gs e1 with⟨_,z⟩|⟨_,e1⟩
  ·cases z
  ·exact h.Kd ⟨j,o,c,e1,e2,hm⟩
theorem RS.wL{Y:aV}{F F':Hp}{ah:Sd}{σ:St}{H H':Hp}{i:Nat}{xs ys:List D}{a:Addr}{us:List V}(R:RS Y F ah σ H)(e:ah[i]?=some (some (.own xs)))(h:σ[i]?=some (some (.ref a)))(s1:aj F F')(s2:aj F' H')(s3:∀c o,c≠a->H c=some o->H' c=some o)
  (ha:H' a=some (.lst us)) (r:ay F' us ys) (fa:F' a=none) (fr:∀c o,F' c=some o->F c=some o\/Nw H c o):RS Y F' (ah.set i (some (.own ys))) σ H':=by
 obtain⟨b,vs,w1,w2,w3,w4,w5⟩:=R.own i xs e;rw[h]at w1;cases w1;have hl:i<ah.length:=(List.getElem?_eq_some_iff.mp e).1;have Ak:tR Y F' (ah.set i (some (.own ys))) σ H':=R.ob.step s1 (λj o q=>by
  rcases gs q with⟨_,z⟩|⟨hj,q⟩
  ·cases z
  ·exact⟨q,rfl⟩) (λb hb=>by
  obtain⟨z1,z2,z3⟩:=R.ob.owned hb;have cC:b≠a:=λz=>R.ob.gy i xs a e h (z ▸ hb);refine⟨?_,?_,z3⟩
  ·cases q:H b with
   | none=>exact absurd q z2
   | some o=>exact s3 b o cC q
  ·cases q:F' b with
   | none=>rfl
   | some o =>
    rcases fr b o q with w|w
    ·rw[z1]at w;cases w
    ·rcases w with w|⟨ws,rfl⟩
     ·exact absurd w z2
     ·cases q3:H b with
      | none=>exact absurd q3 z2
      | some o3 =>
       have y:=s2 b _ q;rw[s3 b o3 cC q3]at y;cases y;exact absurd q3 (R.ob.Ke hb)) (λj zs b q1 q2=>by
  rcases gs q1 with⟨e1,_⟩|⟨hj,q1⟩
  ·subst e1
   rw[h]at q2;cases q2;exact R.ob.gy j xs a e h
  ·exact R.ob.gy j zs b q1 q2) λb hb=>by
  by_cases cC:b=a
  ·rw[cC,ha];exactλz=>nomatch z
  ·cases q:H b with
   | none=>exact absurd q (R.ob.there b hb)
   | some o=>rw[s3 b o cC q];exactλz=>nomatch z
 refine⟨by simpa using R.len,R.lo.trans s1,s2,λb o q=>?_,λb o q n=>?_,λj d q=>?_,λj zs q=>?_,λj l zs qs b q1 q2 q3 q4=>?_,λp hp=>?_,Ak⟩
 ·rcases fr b o q with h|h
  ·exact R.dA b o h
  ·exact .inr (h.imp (λh=>(R.bw h).1) id)
 ·have:b≠a:=λz=>by
   subst z;rcases w5 with w5|w5
   ·rw[w5]at q;cases q
   ·exact aV.yL n w5
  exact s3 b o this (R.old b o q n)
 ·rcases gs q with⟨_,z⟩|⟨hj,q⟩
  ·cases z
  ·obtain⟨v,h1,h2⟩:=R.sh j d q
   exact⟨v,h1,h2.mono s1⟩
 ·rcases gs q with⟨rfl,z⟩|⟨hj,q⟩
  ·cases z
   exact⟨a,us,h,ha,r,fa,w5⟩
  ·obtain⟨b,ws,z1,z2,z3,z4,z5⟩:=R.own j zs q
   have:b≠a:=λz=>hj (R.dis j i zs xs a q e (z ▸ z1) h);refine⟨b,ws,z1,s3 b _ this z2,z3.mono s1,?_,z5⟩;cases q':F' b with
   | none=>rfl
   | some o =>
    rcases fr b o q' with h|h
    ·rw[z4]at h;cases h
    ·rcases h with h|⟨ws',rfl⟩
     ·rw[z2]at h;cases h
     ·have y:=s2 b _ q';rw[s3 b _ this z2]at y;cases y
 ·have f:∀ {m:Nat} {ms:List D},(ah.set i (some (B.own ys)))[m]?=some (some (B.own ms))->∃GF,ah[m]?=some (some (B.own GF)):=λ{m ms} q=>by
   rcases gs q with⟨rfl,z⟩|⟨hj,q⟩
   ·exact⟨xs,e⟩
   ·exact⟨_,q⟩
  obtain⟨_,q1⟩:=f q1;obtain⟨_,q2⟩:=f q2;exact R.dis j l _ _ b q1 q2 q3 q4
 ·obtain⟨z1,zs,z2⟩:=R.io p hp
  refine⟨z1,?_⟩
  by_cases GC:p.1=i
  ·exact⟨ys,by rw[GC,eO hl]⟩
  ·exact⟨zs,by rw[bo GC];exact z2⟩
def aad(sp:jv)(xs ds:List D)(Q:B->List D->Prop):Prop:=sp xs ds Q
def gA(sp:jv)(i:Nat)(t:et):TX:=λσ Q=>vf σ i/\t σ λds av=>match av[i]? with
 | some (some (.own xs))=>aad sp xs ds λb ys=>Q (bE b) (av.set i (some (.own ys)))
 | _=>False
theorem bS{x y:Str}{sp:jv}{i:Nat}{es:List Expr}{t:et}{p pos iQ:Pos}(h:fH G k x sp)(ho:EO G k S (.Name y iQ) (af i))(ha:wz G k S es t)(hg:S.sc.lookup x=some .globalImplicit:=by rfl)(mB:(x==("__debug__":Str))=false:=by decide)
  (he:∀env,starEach (.Name y iQ::es) env=(false,eval (.Name y iQ) env)::starEach es env:=by intro _;rfl) (dI:∀env,(backTo pos (starEach es env)).any (·.1)=false:=by intro _;rfl) (hh:S.gm=false:=by rfl):EX G k S (.Call (.Name x p) (.Name y iQ::es) [] pos) (gA sp i t):=.mk λX Y ok=>by
 obtain⟨f,fd,ps,h1,h2,h3,h4⟩:=h;have uX:cn X.prog X.w X.K X.mg X.base iL k f fd ps (sQ sp):=by rw[ok.P,ok.w,ok.K,ok.mg,ok.base];exact h1
 refine aM (mQ (E:=E0) (dvs:=[]) (ds:=[]) uX (ok.room hh) (eu ok hg) (by rw[ok.mg];exact h2) (by rw[ok.K];exact h3) (by rw[ok.K];exact h4) .nil jX (cu (ho X Y ok) (ha X Y ok) (he _)) mB (he _) (dI _)) λσ H Q q=>?_
 obtain⟨F,ah,Qd,R,⟨⟨ys,e0⟩,q⟩,K⟩:=q;refine⟨F,ah,λov aH=>ov=.var i/\aH=ah,R,?_,λv1 H1 F1 ov av s1 R1 r1 q1=>?_⟩
 ·unfold af;rw[e0];exact⟨rfl,rfl⟩
 obtain⟨rfl,rfl⟩:=q1;have r1:σ[i]?=some (some v1):=r1;refine⟨F1,av,_,R1,q,λvs H2 F2 ds aH s2 R2 r2 q2=>?_⟩
 split at q2
 ·rename_i xs ex
  obtain⟨a,us,w1,w2,w3,w4,w5⟩:=R2.own i xs ex;rw[r1]at w1;cases w1;show sQ sp ((.ref a::vs)++[]) H2 Q E0;rw[List.append_nil];refine⟨F2,xs,ds,a,us,vs,_,rfl,⟨R2.fr,R2.ob.tab⟩,w2,w3,w4,r2,q2,λv H' F' b zs Td t1 t2 t3 t4 t5 t6 t7 t8 t9=>?_⟩;have R3:=R2.wL ex r1 t1 t2 t3 t4 t5 t6 t7;cases b with
  | sh d=>exact K v H' F' (.val d) _ ((s1.trans s2).trans t1) R3 t8 t9
  | own ws =>
   obtain⟨c,cs,rfl,z1,z2,z3,z4⟩:=t8;refine K _ H' F' (.own ws) _ ((s1.trans s2).trans t1) R3 ⟨c,cs,rfl,z1,z2,z3,(R2.bw z4).1,(R2.b3 z4).vM ex⟩ t9
  | obj o =>
   obtain⟨c,rfl,z1,z2⟩:=t8;exact K _ H' F' (.obj o) _ ((s1.trans s2).trans t1) R3 ⟨c,rfl,z1,λb hb=>⟨(z2 b hb).1,(z2 b hb).2.1,(R2.bw (z2 b hb).2.2).1,(R2.b3 (z2 b hb).2.2).vM ex⟩⟩ t9
 ·exact q2.elim
def bj(n:Nat)(xs ds:List D):Sd:=some (.own xs)::aR (n-1) ds
def rJ(Q:B->List D->Prop)(b:B)(σ:Sd):Prop:=match σ[(0:Nat)]? with
 | some (some (.own ys))=>Q b ys
 | _=>False
theorem RS.bj{F H:Hp}{a:Addr}{us rest:List V}{xs ds:List D}(n:Nat)(hn:1<=n)(s:lL F H)(ha:H a=some (.lst us))(ru:ay F us xs)(fa:F a=none)(r:ay F rest ds):
  RS ⟨H,F,[(0,a)],[]⟩ F (bj n xs ds) ((V.ref a::rest).map some++List.replicate (n-(V.ref a::rest).length) none) H where
 len:=by unfold Vc.bj aR;simp [r.length];omega
 lo:=aj.refl _
 fr:=s.1
 dA:=λb o e=>.inl e
 old:=λb o e _=>e
 sh:=λi d e=>by
  cases i with
  | zero=>unfold Vc.bj at e;simp at e
  | succ i =>
   have e':(aR (n-1) ds)[i]?=some (some (.sh d)):=by unfold Vc.bj at e;simpa using e
   obtain⟨v,h1,h2⟩:=oS (n-1-ds.length) r e';refine⟨v,?_,h2⟩;have:n-(V.ref a::rest).length=n-1-ds.length:=by rw[List.length_cons,r.length];omega
   rw[this];simpa using h1
 own:=λi zs e=>by
  cases i with
  | zero =>
   unfold Vc.bj at e;simp at e;subst e;exact⟨a,us,by simp,ha,ru,fa,.inr (by simp [aV.J8])⟩
  | succ i =>
   have e':(aR (n-1) ds)[i]?=some (some (.own zs)):=by unfold Vc.bj at e;simpa using e
   exact absurd e' (fA _ _ _ _)
 dis:=λi j zs ys b e1 e2 _ _=>by
  have z:∀ {i:Nat} {zs:List D},(Vc.bj n xs ds)[i]?=some (some (.own zs))->i=0:=λ{i zs} e=>by
   cases i with
   | zero=>rfl
   | succ i =>
    have e':(aR (n-1) ds)[i]?=some (some (.own zs)):=by unfold Vc.bj at e;simpa using e
    exact absurd e' (fA _ _ _ _)
  rw[z e1,z e2]
 io:=λp hp=>by
  have:p=(0,a):=by simpa using hp
  subst this;exact⟨by simp,xs,rfl⟩
 ob:=.none (λi o e=>by
  cases i with
  | zero=>unfold Vc.bj at e;simp at e
  | succ i =>
   have e':(aR (n-1) ds)[i]?=some (some (.obj o)):=by unfold Vc.bj at e;simpa using e
   exact absurd e' (lJ _ _ _ _)) s.2 λb hb=>by cases hb
theorem G6{x qual:Str}{st:Stmt}{f:Addr}{fd:FuncData}{N ps:List Str}{sp:jv}{t:b5}(hK:G.K=KF.K)(Fn:A5 G.K x qual st f fd)(Sc:aC N ps (ae st))(ht:dy G k ⟨N,(ae st).names,[0],false,false,false,λ_ _=>False⟩ (aq st) t)(hn:1<=N.length)
  (len:∀xs ds Q,sp xs ds Q->ds.length+1=ps.length)
  (body:∀xs ds Q,sp xs ds Q->t {nx:=rJ Q (.sh .aW),rt:=λb σ=>rJ Q b σ} (bj N.length xs ds)):cn G.P G.w G.K G.mg G.base iL (k+1) f fd ps (sQ sp):=by
 refine Fn.ok Sc (λvs H Q E h=>?_) (λik A outer s H vs Q E hr h=>?_)
 ·obtain⟨F,xs,ds,a,us,rest,Qd,rfl,s,h1,h2,h3,r,q,K⟩:=h
  rw[List.length_cons,r.length];exact len _ _ _ q
 ·obtain⟨F,xs,ds,a,us,rest,Qd,rfl,sm,h1,h2,h3,r,q,K⟩:=h
  refine⟨_,ht (nc iL G.P G.w G.K G.mg G.base N qual (ae st) f ik A outer s H E).HG ⟨H,F,[(0,a)],[]⟩ ⟨rfl,rfl,rfl,hK,rfl,rfl,rfl,rfl,Sc.nd,λp hp=>by
   have:p=(0,a):=by simpa using hp
   subst this;simp,(λ_ h=>nomatch h),λ_=>rfl,Sc.kind,λ_ _ _=>rfl,λ_=>hr.hd,hr.dp,hr.un,λ_=>PassesOwn.never,λ_=>⟨rfl,rfl,rfl⟩,λ_ _ h=>h.elim,λh=>nomatch h⟩,F,bj N.length xs ds,_,RS.bj _ hn sm h1 h2 h3 r,body xs ds Qd q,?_⟩
  have same:∀ {F':Hp} {ah:Sd} {σ:St} {H':Hp},RS ⟨H,F,[(0,a)],[]⟩ F' ah σ H'->∀c o,c≠a->H c=some o->H' c=some o:=λR c o hc e=>R.old c o e (by simpa [aV.rG]using hc)
  have fin:∀ {F':Hp} {ah:Sd} {σ:St} {H':Hp} {v:V} {b:B},aj F F'->RS ⟨H,F,[(0,a)],[]⟩ F' ah σ H'->BJ H F' H' v b->rJ Qd b ah->Q v H':=λ{F' ah σ H' v b} s' R' r' q'=>by
   unfold rJ at q'
   split at q'
   ·rename_i ys ey
    obtain⟨c,Td,w1,w2,w3,w4,w5⟩:=R'.own 0 ys ey;have i0:=(R'.io (0,a) (by simp)).1
    rw[i0]at w1;cases w1;exact K v H' F' b ys Td s' R'.fr (same R') w2 w3 w4 R'.dA r' q'
   ·exact q'.elim
  refine⟨λσ H' F' ah s' R' q'=>?_,λv σ H' F' ah b s' R' r' q'=>?_,λ_ _ _ _ _ _ h=>h.elim,λ_ _ _ _ _ _ h=>h.elim⟩
  ·exact fin (b:=.sh .aW) s' R' .aW q'
  ·refine fin (b:=b) s' R' ?_ q'
   cases b with
   | sh d=>exact r'
   | own xs =>
    obtain⟨a,us,rfl,w1,w2,w3,w4,w5⟩:=r';exact⟨a,us,rfl,w1,w2,w3,w4⟩
   | obj o =>
    obtain⟨a,rfl,w1,w2⟩:=r';exact⟨a,rfl,w1,λb hb=>⟨(w2 b hb).1,(w2 b hb).2.1,(w2 b hb).2.2.1⟩⟩
theorem du.Zr{x:Str}{st:Stmt}{ps N:List Str}{f:Addr}{fd:FuncData}{t:b5}{sp:jv}(d:du G x st ps f fd)(hK:G.K=KF.K)(Sc:aC N ps (ae st))(ht:dy G k ⟨N,(ae st).names,[0],false,false,false,λ_ _=>False⟩ (aq st) t)(hn:1<=N.length)
  (len:∀xs ds Q,sp xs ds Q->ds.length+1=ps.length) (body:∀xs ds Q,sp xs ds Q->t {nx:=rJ Q (.sh .aW),rt:=λb σ=>rJ Q b σ} (bj N.length xs ds)):fH G (k+1) x sp:=
 ⟨f,fd,ps,G6 hK d.F Sc ht hn len body,d.m,d.F.kp,d.b⟩
end Vc
namespace Vc
open PySem L2
variable [KF]
variable {G:GE}{k:Nat}{S:Stat}
def aA(S:Stat)(scope:Scope)(N':List Str)(m:Nat):Stat:=⟨N',hJ scope.names S.sc,[m],true,false,false,λ_ _=>False⟩
theorem jf{X X':Cx}{Y:aV}{scope:Scope}{N':List Str}{caps:List (Option Nat)}{m:Nat}(hh:S.gm=false)(ok:c7 X G k S Y)(b:dS S scope N' caps)(c:gI X X' scope N')(Y':aV)(bX:∀p∈Y'.io,p.1=m):c7 X' G k (aA S scope N' m) Y':=
 have z:=cy hh ok b c ⟨Y'.H0,Y'.F0,[],[]⟩ rfl
 ⟨z.P,z.w,z.K,z.kf,z.mg,z.base,z.N,z.sc,z.nd,λp hp=>by rw[bX p hp];exact List.mem_singleton.mpr rfl,(λh=>nomatch h),z.calm,z.kind,(λh=>by cases h),z.hd,z.dp,z.un,z.po,(λh=>nomatch h),(λ_ _ h=>h.elim),λh=>nomatch h⟩
def ownAt(m:Nat)(σ:Sd)(Q:List D->Prop):Prop:=match σ[m]? with
 | some (some (.own ys))=>Q ys
 | _=>False
def jd(g:fG)(tc:TB)(te:TD)(c6:Sd)(m:Nat):List D->List D->List D->(List D->List D->Prop)->Prop
 | [],acc,xs,Q=>Q acc xs
 | x::r,acc,xs,Q=>g x (c6.set m (some (.own xs))) λav=>tc av λb aH=>if b=true then te aH λd c9=>gD c6 c9/\acc.length<sizeLine/\ownAt m c9 λys=>jd g tc te c6 m r (acc++[d]) ys Q
  else gD c6 aH/\ownAt m aH λys=>jd g tc te c6 m r acc ys Q
def iI(ios:List Nat)(caps:List (Option Nat))(j m:Nat)(ti:et)(g:fG)(tc:TB)(te:TD):TX:=λσ Q=>ti σ λitems av=>jE ios (caps.set m none) av λaH=>ownAt j aH λxs=>jd g tc te (bU (caps.set m none) aH) m items [] xs λds ys=>Q (.own ds) (aH.set j (some (.own ys)))
theorem BZ{Y:aV}{F:Hp}{ah:Sd}{σ:St}{H:Hp}(R:RS Y F ah σ H)(caps:List (Option Nat))(m:Nat){F' H':Hp}(s1:aj F F')(s2:aj F' H'):RS ⟨H',F',[],[]⟩ F' (bU (caps.set m none) ah) (cj caps σ) H':=by
 have R0:=jA R (caps.set m none) s1 s2;refine⟨by unfold bU cj;simp,R0.lo,R0.fr,R0.dA,R0.old,λi d e=>?_,λi xs e=>absurd e (aY _ _ _ _),λi j xs ys a e=>absurd e (aY _ _ _ _),λp hp=>(by cases hp),.none (a8 _ _) R0.ob.tab λb hb=>by cases hb⟩
 obtain⟨v,h1,h2⟩:=R0.sh i d e;refine⟨v,?_,h2⟩
 by_cases hi:i=m
 ·subst hi
  unfold bU at e;rw[List.getElem?_map]at e
  by_cases hl:i<caps.length
  ·rw[List.getElem?_set_self hl]at e;cases e
  ·rw[List.getElem?_eq_none (by rw[List.length_set];omega)]at e;cases e
 ·unfold cj at h1 ⊢
  rw[List.getElem?_map]at h1 ⊢;rw[List.getElem?_set_ne (Ne.symm hi)]at h1;exact h1
theorem RS.inner{Y:aV}{F:Hp}{c6 ah:Sd}{σ:St}{H:Hp}{m:Nat}{a:Addr}{us:List V}{xs:List D}(R:RS Y F ah σ H)(l:gD c6 ah)(lZ:∀(i:Nat) (xs:List D),c6[i]?≠some (some (.own xs)))(vA:∀(i:Nat) (o:O),c6[i]?≠some (some (.obj o)))(hm:m<c6.length)(h:σ[m]?=some (some (.ref a)))(r:ay F us xs)(fa:F a=none){H':Hp}(s:aj F H')(ha:H' a=some (.lst us)):
  RS ⟨H',F,[(m,a)],[]⟩ F (c6.set m (some (.own xs))) σ H' where
 len:=by rw[List.length_set];exact(iA l).trans R.len
 lo:=aj.refl _
 fr:=s
 dA:=λb o e=>.inl e
 old:=λb o e _=>e
 sh:=λi d e=>by
  rcases gs e with⟨_,z⟩|⟨_,e⟩
  ·cases z
  ·exact R.sh i d (iy l e)
 own:=λi zs e=>by
  rcases gs e with⟨rfl,z⟩|⟨_,e⟩
  ·cases z
   exact⟨a,us,h,ha,r,fa,.inr (by simp [aV.J8])⟩
  ·exact absurd e (lZ i zs)
 dis:=λi j zs ys b e1 e2 _ _=>by
  have z:∀ {i:Nat} {zs:List D},(c6.set m (some (B.own xs)))[i]?=some (some (.own zs))->i=m:=λ{i zs} e=>by
   rcases gs e with⟨rfl,_⟩|⟨_,e⟩
   ·rfl
   ·exact absurd e (lZ i zs)
  rw[z e1,z e2]
 io:=λp hp=>by
  have:p=(m,a):=by simpa using hp
  subst this;exact⟨h,xs,by rw[eO hm]⟩
 ob:=.none (λi o e=>by
  rcases gs e with⟨_,z⟩|⟨_,e⟩
  ·cases z
  ·exact vA i o e) R.ob.tab λb hb=>by cases hb
def lGm(m:Nat)(g:fG):TG:=λv σ H Q=>∃Y:aV,(∀p∈Y.io,p.1=m)/\lG Y g v σ H Q
def lBm(m:Nat)(t:TB):TT:=λσ H Q=>∃Y:aV,(∀p∈Y.io,p.1=m)/\lB Y t σ H Q
def lDm(m:Nat)(t:TD):TE:=λσ H Q=>∃Y:aV,(∀p∈Y.io,p.1=m)/\lD Y t σ H Q
section
variable {elt target iter:Expr}{ifs:List Expr}{scope:Scope}{pos:Pos}{N':List Str}{caps:List (Option Nat)}{ti:et}{g:fG}{tc:TB}{te:TD}{j m:Nat}
theorem pP{X:Cx}{Y:aV}(hh:S.gm=false)(ok:c7 X G k S Y)(b:dS S scope N' caps)(hg:EG G k (aA S scope N' m) target g)(ht:A4 G k (aA S scope N' m) ifs tc)(he:ED G k (aA S scope N' m) elt te):
  ∀X',gI X X' scope N'->PG X' target (lGm m g)/\BI X' ifs (lBm m tc)/\PE X' elt (lDm m te):=λX' c =>
 ⟨λpins s σ H v u Q I r ⟨Y',bX,q⟩=>hg X' Y' (jf hh ok b c Y' bX) pins s σ H v u Q I r q,λpins s σ H Q I ⟨Y',bX,q⟩=>ht X' Y' (jf hh ok b c Y' bX) pins s σ H Q I q,λpins s σ H Q I ⟨Y',bX,q⟩=>he X' Y' (jf hh ok b c Y' bX) pins s σ H Q I q⟩
theorem fS{α:Type}(l:List α)(i:Nat)(a b:α):(l.set i a).set i b=l.set i b:=by simp
theorem qT{Y:aV}{ios:List Nat}(bX:∀p∈Y.io,p.1∈ios)(fK:caps[m]?=some (some j)){σ:St}{H:Hp}{Q:VK}(q:lX Y (iI ios caps j m ti g tc te) σ H Q):f7 (lI Y ti) caps (lGm m g) (lBm m tc) (lDm m te) σ H Q:=by
 obtain⟨F,ah,Qd,R,q,K⟩:=q;refine⟨F,ah,_,R,q,λH1 F1 tQ J items s1 R1 it q1 acc cI=>?_⟩;obtain⟨F2,aO,s2,R2,q2⟩:=cH bX R1 q1;unfold ownAt at q2
 split at q2
 ·rename_i tV e0
  have J9:=it.mono s2;have a0:Y.H0 acc=none:=(R2.bw cI).1;have aF:F2 acc=none:=same_none R2.fr cI;obtain⟨a,Jd,DL,DM,A7,V1,ha5⟩:=R2.own j tV e0;have zL:a≠acc:=λz=>by rw[z,cI]at DM;cases DM
  have hj:j<aO.length:=(List.getElem?_eq_some_iff.mp e0).1;have aN:∀(xs:List D),cw (aO.set j (some (.own xs))) σ acc:=λxs=>(R2.b3 cI).vM e0;have sw:∀ {F5 H5:Hp} {o:HO},aj F5 H5->F5 acc=none->aj F5 (upd H5 acc o):=λ{F5 H5 o} s5 h b u e=>by
   have:b≠acc:=λz=>by rw[z,h]at e;cases e
   rw[ai this];exact s5 b u e
  have hm:m<(bU (caps.set m none) aO).length:=by
   unfold bU;rw[List.length_map,List.length_set];exact(List.getElem?_eq_some_iff.mp fK).1
  have Nz:(cj caps σ)[m]?=some (some (.ref a)):=by
   unfold cj;rw[List.getElem?_map,fK];show some ((σ[j]?).join)=_;rw[DL];rfl
  have Vd:aO.set j (some (.own tV))=aO:=by
   apply List.ext_getElem?;intro i
   by_cases hi:i=j
   ·subst hi;rw[eO hj,e0]
   ·rw[bo hi]
  refine⟨λi mm av H'=>∃Fi ds ys xs us,aj F2 Fi/\RS Y Fi (aO.set j (some (.own xs))) σ H'/\H' acc=some (.lst ys)/\ay Fi ys ds/\Fi acc=none/\H' a=some (.lst us)/\ay Fi us xs/\Fi a=none/\av[m]?=some (some (.ref a))/\RS ⟨H',Fi,[(m,a)],[]⟩ Fi ((bU (caps.set m none) aO).set m (some (.own xs))) av H'/\jd g tc te (bU (caps.set m none) aO) m (items.drop i) ds xs (λds ys=>Qd (.own ds) (aO.set j (some (.own ys))))/\mm=items.length-i/\i<=items.length,
   ⟨items.length,F2,[],[],tV,Jd,aj.refl _,by rw[Vd];exact R2.other aF a0 (Vd ▸ aN tV),au,.nil,aF,by rw[ai zL];exact DM,A7,V1,Nz,?_,q2,rfl,Nat.zero_le _⟩,?_⟩
  ·exact(BZ R2 caps m (aj.refl _) (sw (o:=.lst []) R2.fr aF)).inner (dG _) (aY _ _) (a8 _ _) hm Nz A7 V1 (sw R2.fr aF) (by rw[ai zL];exact DM)
  rintro i mm av Hi ⟨Fi,ds,ys,xs,us,si,Ri,cf,ri,fi,Tt,rui,fai,hmi,BL,qi,rfl,hi⟩;have nE:=J9 Fi Hi si Ri.fr i
  by_cases hl:i<items.length
  ·right
   have hd:items.drop i=items[i]::items.drop (i+1):=by rw[List.drop_eq_getElem_cons hl]
   rw[hd]at qi;obtain⟨go,yl⟩:=nE.1 items[i] (by rw[List.getElem?_eq_getElem hl])
   refine⟨go,λv H' y=>?_⟩;obtain⟨F3,gr,rep⟩:=yl v H' y;have sF:aj Fi F3:=gr.same Ri.fr;have R3:=gr.rs BL;have sH:aj Hi H':=by
    rcases gr with⟨_,rfl⟩|⟨p,o,hp,_,rfl⟩
    ·exact aj.refl _
    ·exact aD hp
   have yy:∀c o,F3 c=some o->Fi c=some o\/Nw Hi c o:=λc o e=>by
    rcases gr with⟨rfl,_⟩|⟨p,o',hp,rfl,_⟩
    ·exact .inl e
    ·by_cases hc:c=p
     ·subst hc;exact .inr (.inl hp)
     ·rw[ai hc]at e;exact .inl e
   have fa3:F3 a=none:=by
    cases e:F3 a with
    | none=>rfl
    | some o =>
     rcases yy a o e with z|z
     ·rw[fai]at z;cases z
     ·rcases z with z|⟨ws,rfl⟩
      ·rw[Tt]at z;cases z
      ·have y:=R3.fr a _ e;rw[sH a _ Tt]at y;cases y
   have lec:gD (bU (caps.set m none) aO) ((bU (caps.set m none) aO).set m (some (.own xs))):=by
    have:∀(l:Sd) (n:Nat),l[n]?=some none->∀b,gD l (l.set n b):=by
     intro l
     induction l with
     | nil=>intro n h;cases h
     | cons c l ih =>
      intro n h b;cases n with
      | zero =>
       simp at h;subst h;exact dG l
      | succ n =>
       have h:l[n]?=some none:=by simpa using h
       cases c with
       | none=>exact ih n h b
       | some c=>exact⟨rfl,ih n h b⟩
    refine this _ m ?_ _;unfold bU;rw[List.getElem?_map,List.getElem?_set_self (List.getElem?_eq_some_iff.mp fK).1];rfl
   have GP:RS ⟨H',F3,[(m,a)],[]⟩ F3 ((bU (caps.set m none) aO).set m (some (.own xs))) av H':=R3.inner lec (aY _ _) (a8 _ _) hm hmi (rui.mono sF) fa3 R3.fr (sH _ _ Tt)
   -- behind the turn
   have back:∀ {F5 H5:Hp} {fE:Sd} {A3:St} {zs:List D},aj F3 F5->RS ⟨H',F3,[(m,a)],[]⟩ F5 fE A3 H5->fE[m]?=some (some (.own zs))->RS Y F5 (aO.set j (some (.own zs))) σ H5/\H5 acc=some (.lst ys)/\F5 acc=none/\aj Fi F5/\∃ws,H5 a=some (.lst ws)/\ay F5 ws zs/\F5 a=none/\A3[m]?=some (some (.ref a)):=λ{F5 H5 fE A3 zs} s5 R5 ez=>by
    have i5:=(R5.io (m,a) (by simp)).1
    obtain⟨c,ws,w1,w2,w3,w4,_⟩:=R5.own m zs ez;rw[i5]at w1;cases w1;have vS:∀c o,c≠a->Hi c=some o->H5 c=some o:=λc o hc e=>R5.old c o (sH c o e) (by simpa [aV.rG]using hc)
    have Ad:∀c o,F5 c=some o->Fi c=some o\/Nw Hi c o:=λc o e=>by
     rcases R5.dA c o e with z|z
     ·exact yy c o z
     ·exact .inr (z.imp sH.free id)
    have Ro:=Ri.wL (i:=j) (xs:=xs) (ys:=zs) (by rw[eO hj]) DL (sF.trans s5) R5.fr vS w2 w3 w4 Ad
    rw[fS]at Ro;refine⟨Ro,vS acc _ (Ne.symm zL) cf,?_,sF.trans s5,ws,w2,w3,w4,i5⟩;cases e:F5 acc with
    | none=>rfl
    | some o =>
     rcases Ad acc o e with z|z
     ·rw[fi]at z;cases z
     ·rcases z with z|⟨ws,rfl⟩
      ·rw[cf]at z;cases z
      ·have y:=R5.fr acc _ e;rw[vS acc _ (Ne.symm zL) cf]at y;cases y
   refine⟨⟨H',F3,[(m,a)],[]⟩,λp hp=>by rw[List.mem_singleton.mp hp],F3,_,items[i],_,GP,rep,qi,λkP H4 F4 cK s4 R4 q4=>?_⟩
   refine⟨⟨H',F3,[(m,a)],[]⟩,λp hp=>by rw[List.mem_singleton.mp hp],F4,cK,_,R4,q4,λb H5 F5 fE s5 R5 q5=>?_⟩
   cases b with
   | false =>
    obtain⟨le,q5⟩:=q5;unfold ownAt at q5
    split at q5
    ·rename_i zs ez
     obtain⟨w1,w2,w3,w4,ws,v1,v2,v3,v4⟩:=back (s4.trans s5) R5 ez;exact⟨items.length-(i+1),by omega,F5,ds,ys,zs,ws,si.trans w4,w1,w2,ri.mono w4,w3,v1,v2,v3,v4,R5.inner le (aY _ _) (a8 _ _) hm v4 v2 v3 R5.fr v1,q5,rfl,hl⟩
    ·exact q5.elim
   | true =>
    refine⟨⟨H',F3,[(m,a)],[]⟩,λp hp=>by rw[List.mem_singleton.mp hp],F5,fE,_,R5,q5,λv6 H6 F6 d Gr s6 R6 r6 q6=>?_⟩
    obtain⟨le,hz,q6⟩:=q6;unfold ownAt at q6
    split at q6
    ·rename_i zs ez
     obtain⟨w1,w2,w3,w4,ws,v1,v2,v3,v4⟩:=back ((s4.trans s5).trans s6) R6 ez;exact⟨ys,items.length-(i+1),w2,by rw[ri.length];exact hz,by omega,F6,ds++[d],ys++[v6],zs,ws,si.trans w4,w1.other w3 a0 (aN zs),au,(ri.mono w4).append (.cons r6 .nil),w3,by rw[ai zL];exact v1,v2,v3,v4,
      R6.inner le (aY _ _) (a8 _ _) hm v4 v2 v3 (sw R6.fr w3) (by rw[ai zL];exact v1),q6,rfl,hl⟩
    ·exact q6.elim
  ·left
   have e:i=items.length:=by omega
   subst e;rw[List.drop_length]at qi;exact⟨nE.2 rfl,K _ Hi Fi (.own ds) _ ((s1.trans s2).trans si) Ri ⟨acc,ys,rfl,cf,ri,fi,a0,aN xs⟩ qi⟩
 ·exact q2.elim
theorem vT(i j m:Nat){y:Str}{py dQ:Pos}(hi:EI G k S target iter ti)(b:dS S scope N' caps)(hg:EG G k (aA S scope N' m) target g)(ht:A4 G k (aA S scope N' m) ifs tc)(he:ED G k (aA S scope N' m) elt te)
  (fK:caps[m]?=some (some j):=by rfl) (hy:S.N[i]?=some y:=by rfl) (hx:S.sc.lookup y=some .local\/(S.sc.lookup y=some .cell/\S.wj=false):=by first|exact Or.inl rfl|exact Or.inr ⟨rfl,rfl⟩) (hn:i∉S.ios:=by first|decide|exact List.not_mem_nil | (dsimp only;decide)) (hl:(py.line==pos.line)=true:=by rfl) (Wy:(scope.names.any λ(n,k)=>n==y&&(k==.local||k==.cell))=false:=by decide +kernel)
  (hs:∀env x,foldedSetIterable iter env x=pure x:=by intro _ _;rfl) (hh:S.gm=false:=by rfl):ES G k S (.Assign [.Name y py] (.ListComp elt [⟨target,iter,ifs,0⟩] scope pos) dQ) (gw S.ios i (iI S.ios caps j m ti g tc te)):=.mk λX Y ok=>by
 have sw:swapsWith (.ListComp elt [⟨target,iter,ifs,0⟩] scope pos) (some (.Name y py)) dQ.line X.env=pure (S.sc.lookup y==some .local):=by
  have e:swapsWith (.ListComp elt [⟨target,iter,ifs,0⟩] scope pos) (some (.Name y py)) dQ.line X.env=pure (X.env.blockKind==.function&&X.env.kindOf y==some .local&&py.line==pos.line&&!(scope.names.any λ(n,k)=>n==y&&(k==.local||k==.cell))):=rfl
  have kb:X.env.blockKind=.function:=by unfold Env.blockKind;rw[ok.kind];rfl
  have kd:X.env.kindOf y=S.sc.lookup y:=by
   show X.env.scope.names.lookup y=_;rw[ok.sc]
  rw[e,kb,kd,hl,Wy];simp
 have fin:∀Dn σ H,lS Y (gw S.ios i (iI S.ios caps j m ti g tc te)) Dn σ H->AY (f7 (lI Y ti) caps (lGm m g) (lBm m tc) (lDm m te)) (jF i) Dn σ H:=λDn σ H q=>by
  obtain⟨F,ah,De,R,q,K⟩:=q;refine qT ok.ios fK ⟨F,ah,_,R,q,λv H1 F1 y av s1 R1 r1 q1=>?_⟩;obtain⟨F2,aH,s2,R2,q2⟩:=iH R1 r1 hn ok.ios q1;exact K.nx _ H1 F2 aH (s1.trans s2) R2 q2
 rcases hx with hx|hx
 ·refine b8 (rZ (i:=i) (ok.calm hh) (hi X Y ok) (b.sc ok) (pP hh ok b hg ht he) (hs _) (by rw[ok.N];exact ok.nd) (by rw[ok.N];exact hy) (by rw[ok.sc];exact hx) (by rw[sw,hx];rfl)) fin
 ·refine b8 (L2.sd (i:=i) (by rw[ok.N];exact ok.nd) (by rw[ok.N];exact hy) (jo ok (.inr hx)) (eQ (ok.calm hh) (hi X Y ok) (b.sc ok) (pP hh ok b hg ht he) (hs _)) (by rw[sw,hx.1];rfl) (jh ok (.inr hx))) fin
end
end Vc
namespace Vc
open PySem L2
variable [KF]
variable {G:GE}{k:Nat}{S:Stat}
def x8(i j:Int):Prop:=0<j/\j<2^200
theorem En{X:Cx}:iO X (binaryOp .FloorDiv) (rI x8 λi j=>.int (i/j)):=Z1 λi j _ _ _ _ _ hc q=>by
 have h1:(0:Int)<j:=hc.1;have h2:j<2^200:=hc.2;refine PyProof.Rows.floordiv_int ⋯ (by rw[Int.fdiv_eq_ediv_of_nonneg i ⋯];exact q) (.inl (PyProof.noPylong_of_log2 ?_))
 have h3:j.natAbs<2^200:=by omega
 exact(Nat.log2_lt ⋯).mpr (Nat.lt_of_lt_of_le h3 (Nat.pow_le_pow_right ∅ ∅))
def yv:=TK x8 λi j=>i/j
theorem zi{a b:Expr}{ta tb:TV}{pos:Pos}(ha:EO G k S a ta)(hb:EO G k S b tb):EX G k S (.BinOp a .FloorDiv b pos) (bP yv ta tb):=oi (r:=λ_=>_) (λ_=>En) (λ_=>nA) ha hb
end Vc
namespace Vc
open PySem L2
variable [KF]
variable {G:GE}{k:Nat}{S:Stat}
def aV.oh(Y:aV)(F H:Hp)(ps:List Addr):aV:=⟨λb=>if b∈ps then H b else Y.H0 b,F,Y.io,Y.ob⟩
structure mY(Y:aV)(F:Hp)(ah:Sd)(σ:St)(H:Hp)(b:Addr)(o:HO):Prop where
 h:H b=some o
 f:F b=none
 no:cw ah σ b
 z:Y.H0 b=none
 nb:b∉Y.ob
 nt:∀vs,o≠.tup vs
theorem RS.y0{Y:aV}{F:Hp}{ah:Sd}{σ:St}{H:Hp}(R:RS Y F ah σ H)(ps:List Addr)(hP:∀b∈ps,∃o,mY Y F ah σ H b o):RS (Y.oh F H ps) F ah σ H where
 len:=R.len
 lo:=aj.refl _
 fr:=R.fr
 dA:=λb o e=>.inl e
 old:=λb o e n=>by
  have e:(if b∈ps then H b else Y.H0 b)=some o:=e
  split at e
  ·exact e
  ·exact R.old b o e n
 sh:=R.sh
 own:=λi xs e=>by
  obtain⟨a,vs,h1,h2,h3,h4,h5⟩:=R.own i xs e;refine⟨a,vs,h1,h2,h3,h4,?_⟩;rcases h5 with h5|h5
  ·left
   show(if a∈ps then H a else Y.H0 a)=none
   rw[if_neg λhp=>by obtain⟨o,ap⟩:=hP a hp;exact ap.no i xs e h1]
   exact h5
  ·exact .inr h5
 dis:=R.dis
 io:=R.io
 ob:=R.ob.step (aj.refl _) (λ_ _ e=>⟨e,rfl⟩) (λb hb=>by
  obtain⟨w1,w2,w3⟩:=R.ob.owned hb;refine⟨rfl,w1,w3.imp (λz=>?_) id⟩;show(if b∈ps then H b else Y.H0 b)=none
  rw[if_neg λhp=>by obtain⟨o,ap⟩:=hP b hp;exact ap.no.Kd hb]
  exact z) R.ob.gy R.ob.there λb hb=>⟨hb,λh=>by
  show(if b∈ps then H b else Y.H0 b)≠none
  split
  ·exact R.ob.there b hb
  ·exact h⟩
theorem RS.iK{Y:aV}{F F':Hp}{ah ax:Sd}{σ bh:St}{H H':Hp}(R0:RS Y F ah σ H){ps:List Addr}(hP:∀b∈ps,∃o,mY Y F ah σ H b o)(R:RS (Y.oh F H ps) F' ax bh H'):
  RS Y F' ax bh H'/\∀b o,b∈ps->mY Y F ah σ H b o->mY Y F' ax bh H' b o:=by
 have at0:∀b,b∈ps->(Y.oh F H ps).H0 b=H b:=λb hb=>by show(if b∈ps then H b else Y.H0 b)=_;rw[if_pos hb]
 have at1:∀b,b∉ps->(Y.oh F H ps).H0 b=Y.H0 b:=λb hb=>by show(if b∈ps then H b else Y.H0 b)=_;rw[if_neg hb]
 have OU:∀b,b∈ps->b∉Y.rG:=λb hb hm=>by
  obtain⟨o,ap⟩:=hP b hb;rcases List.mem_append.mp hm with hm|hm
  case inr=>exact ap.nb hm
  obtain⟨q,hq,e⟩:=List.mem_map.mp hm;obtain⟨h1,xs,h2⟩:=R0.io q hq;exact ap.no _ _ h2 (by rw[h1,e])
 have qk:∀b,(Y.oh F H ps).H0 b=none->b∉ps/\Y.H0 b=none:=λb e=>by
  by_cases hb:b∈ps
  ·obtain⟨o,ap⟩:=hP b hb
   rw[at0 b hb,ap.h]at e;cases e
  ·exact⟨hb,by rw[at1 b hb]at e;exact e⟩
 refine⟨⟨R.len,R0.lo.trans R.lo,R.fr,λb o e=>?_,λb o e n=>?_,R.sh,λi xs e=>?_,R.dis,R.io,R.ob.step (aj.refl _) (λ_ _ e=>⟨e,rfl⟩) (λb hb=>⟨rfl,(R.ob.owned hb).1,(R.ob.owned hb).2.2.imp (λz=>(qk b z).2) id⟩) R.ob.gy R.ob.there (λb hb=>⟨hb,λh z=>h (by rw[at1 b λhp=>by obtain⟨o',ap⟩:=hP b hp;exact ap.nb hb];exact z)⟩)⟩,λb o hb ap=>⟨?_,?_,⟨λj ys e z=>?_,λz=>?_⟩,ap.z,ap.nb,ap.nt⟩⟩
 ·rcases R.dA b o e with h|h
  ·exact R0.dA b o h
  ·exact .inr (h.imp (λh=>(qk b h).2) id)
 ·refine R.old b o ?_ n
  rw[at1 b λhb=>by obtain⟨o',ap⟩:=hP b hb;rw[ap.z]at e;cases e]
  exact e
 ·obtain⟨a,vs,h1,h2,h3,h4,h5⟩:=R.own i xs e
  exact⟨a,vs,h1,h2,h3,h4,h5.elim (λh=>.inl (qk a h).2) .inr⟩
 ·exact R.old b o (by rw[at0 b hb];exact ap.h) (OU b hb)
 ·cases q:F' b with
  | none=>rfl
  | some o' =>
   rcases R.dA b o' q with h|h
   ·rw[show(Y.oh F H ps).F0 b=F b from rfl,ap.f]at h;cases h
   ·rcases h with h|⟨ws,rfl⟩
    ·exact absurd hb (qk b h).1
    ·have y:=R.fr b _ q;rw[R.old b o (by rw[at0 b hb];exact ap.h) (OU b hb)]at y;cases y;exact absurd rfl (ap.nt _)
 ·obtain⟨a,vs,h1,h2,h3,h4,h5⟩:=R.own j ys e
  rw[z]at h1;cases h1;rcases h5 with h5|h5
  ·exact absurd hb (qk b h5).1
  ·exact OU b hb (List.mem_append_left _ h5)
 ·rcases(R.ob.owned z).2.2 with w|w
  ·exact absurd hb (qk b w).1
  ·exact ap.nb w
structure Uq(H H':Hp)(p:Addr)(as:List Addr)(cs:List Int):Prop where
 same:aj H H'
 list:H' p=some (.lst (as.map V.ref))
 fresh:∀b∈p::as,H b=none
 nd:(p::as).Nodup
 len:as.length=cs.length
 pot:∀(i:Nat) (a:Addr) (c:Int),as[i]?=some a->cs[i]?=some c->H' a=some (.lst [.int c,.int 0])
def xP:Sp:=λvs H Q _=>∃F ns,lL F H/\ay F vs [.lst (List.map D.int ns)]/\ns.length<=63/\∀p as cs H',Uq H H' p as cs->Q (.ref p) H'
def gK(G:GE)(k:Nat)(x:Str):Prop:=∃f fd ps,cn G.P G.w G.K G.mg G.base iL k f fd ps xP/\G.mg x=some (.ref f)/\PySem.W.keepIn G.K (.ref f)=true/\Binds G.K fd ps []
theorem gK.mono{x:Str}{j:Nat}(h:gK G j x)(l:j<=k):gK G k x:=by
 obtain⟨f,fd,ps,h1,h2,h3,h4⟩:=h;exact⟨f,fd,ps,h1.mono l,h2,h3,h4⟩
def Kr(Y:aV)(t:et):TE:=λσ H Q=>∃F ah Qd,RS Y F ah σ H/\t ah Qd/\(∀ds ax,Qd ds ax->∃ns:List Int,ds=[.lst (ns.map D.int)]/\ns.length<=63) /\
 ∀(p:Addr) (as:List Addr) (cs:List Int) H' F' ds ax,aj F F'->RS Y F' ax σ H'->mY Y F' ax σ H' p (.lst (as.map V.ref))->(p::as).Nodup->as.length=cs.length ->
  (∀(i:Nat) (a:Addr) (c:Int),as[i]?=some a->cs[i]?=some c->mY Y F' ax σ H' a (.lst [.int c,.int 0]))->Qd ds ax->Q (.ref p) H'
theorem Ig{x:Str}{e:Expr}{t:et}{p pos:Pos}(hh:S.gm=false)(h:gK G k x)(ha:wz G k S [e] t)(hg:S.sc.lookup x=some .globalImplicit:=by rfl)(mB:(x==("__debug__":Str))=false:=by decide)
  (he:∀env,starEach [e] env=(false,eval e env)::starEach [] env:=by intro _;rfl) (dI:∀env,(backTo pos (starEach [] env)).any (·.1)=false:=by intro _;rfl) {X:Cx} {Y:aV} (ok:c7 X G k S Y):PE X (.Call (.Name x p) [e] [] pos) (Kr Y t):=by
 obtain⟨f,fd,ps,h1,h2,h3,h4⟩:=h;have uX:cn X.prog X.w X.K X.mg X.base iL k f fd ps xP:=by rw[ok.P,ok.w,ok.K,ok.mg,ok.base];exact h1
 refine aM (mQ (E:=E0) (dvs:=[]) (ds:=[]) uX (ok.room hh) (eu ok hg) (by rw[ok.mg];exact h2) (by rw[ok.K];exact h3) (by rw[ok.K];exact h4) .nil jX (ha X Y ok) mB (he _) (dI _)) λσ H Q q=>?_
 obtain⟨F,ah,Qd,R,q,sh,K⟩:=q;refine⟨F,ah,_,R,q,λvs H1 F1 ds av s1 R1 r1 q1=>?_⟩;show xP (vs++[]) H1 Q E0;rw[List.append_nil];obtain⟨ns,rfl,hl⟩:=sh _ _ q1;refine⟨F1,ns,⟨R1.fr,R1.ob.tab⟩,r1,hl,λp as cs H' P=>?_⟩;have R2:RS Y F1 av σ H':=R1.call (aj.refl _) (R1.fr.trans P.same) P.same λc o e=>.inl e;have apt:∀b∈p::as,∀o,H' b=some o->(∀vs,o≠.tup vs)->mY Y F1 av σ H' b o:=λb hb o e nt=>by
  have hf:=P.fresh b hb;exact⟨e,same_none R1.fr hf,R1.b3 hf,(R1.bw hf).1,λz=>(R1.bw hf).2 (List.mem_append_right _ z),nt⟩
 exact K p as cs H' F1 _ av s1 R2 (apt p (List.mem_cons_self ..) _ P.list λ_ z=>nomatch z) P.nd P.len (λi a c e1 e2=>apt a (List.mem_cons_of_mem _ (List.mem_of_getElem? e1)) _ (P.pot i a c e1 e2) λ_ z=>nomatch z) q1
def uU(pre:Nat->Int->Sd->Sd)(tb:b5)(De:gJ):Nat->Nat->Sd->Prop
 | 0,_,σ=>De.nx σ
 | n+1,i,σ=>∀c:Int,tb {De with nx:=uU pre tb De n (i+1),ct:=uU pre tb De n (i+1),bk:=De.nx} (pre i c σ)
def zy(t:et)(pre:Nat->Int->Sd->Sd)(tb:b5):b5:=λDe σ=>t σ λds av=>(∃ns:List Int,ds=[.lst (ns.map D.int)]/\ns.length<=63)/\∀n,uU pre tb De n 0 av
def Rg(j:Nat):Nat->Int->Sd->Sd:=λ_ c σ=>σ.set j (some (.own [.int c,.int 0]))
def lSP(Y:aV)(t:b5):TS:=λDn σ H=>∃Y':aV,(Y'.io=Y.io/\Y'.ob=Y.ob)/\lS Y' t Dn σ H
theorem Lr{X:Cx}{Y:aV}{body:List Stmt}{tb:b5}(wu:S.ex=λ_ _=>False)(ok:c7 X G k S Y)(hb:dy G k S body tb):qI X body (lSP Y tb):=λpins s σ H Dn I ⟨Y',⟨bX,Ak⟩,q⟩ =>
 hb X Y' ⟨ok.P,ok.w,ok.K,ok.kf,ok.mg,ok.base,ok.N,ok.sc,ok.nd,λp hp=>ok.ios p (by rw[<- bX];exact hp),(λh1 h2=>Ak.trans (ok.obs h1 h2)),ok.calm,ok.kind,ok.fn,ok.hd,ok.dp,ok.un,ok.po,ok.nx,(λc ah h=>by rw[wu]at h;exact h.elim),λ_ c ah h=>by rw[wu]at h;exact h.elim⟩ pins s σ H Dn I q
theorem EK{X:Cx}{Y:aV}{t:et}{pre:Nat->Int->Sd->Sd}{tb:b5}{J:Addr->It}{g:TG}{Dn:Ends}{σ:St}{H:Hp}
  (hgo:∀(p:Addr) (as:List Addr) (i:Nat) (a:Addr) (H:Hp),H p=some (.lst (as.map V.ref))->as[i]?=some a->(J p).go i H)
  (wt:∀(p:Addr) (as:List Addr) (H:Hp),H p=some (.lst (as.map V.ref))->(J p).stop as.length H)
  (hy:∀(p:Addr) (as:List Addr) (i:Nat) (a:Addr) (c:Int) (F H:Hp) (ah:Sd) (σ:St) (x:V) (H':Hp),RS Y F ah σ H->(p::as).Nodup->as[i]?=some a ->
   (∀b∈p::as.drop (i+1),∃o,mY Y F ah σ H b o)->H p=some (.lst (as.map V.ref))->mY Y F ah σ H a (.lst [.int c,.int 0])->(J p).T6 i H x H' ->
   ∃F',aj F F'/\RS Y F' ah σ H'/\(∀b o,mY Y F ah σ H b o->mY Y F' ah σ H' b o)/\∀N:St->Hp->Prop,(∀aH,RS (Y.oh F' H' (p::as.drop (i+1))) F' (pre i c ah) aH H'->N aH H')->g x σ H' N)
  (q:lS Y (zy t pre tb) Dn σ H):
  Y0 (λσ H R=>Kr Y t σ H λx H1=>∃p as,x=.ref p/\H1 p=some (.lst (List.map V.ref as))/\R (J p) H1) g (lSP Y tb) Dn σ H:=by
 obtain⟨F,ah,De,R,q,K⟩:=q;refine⟨F,ah,_,R,q,λds ax h=>h.1,λp as cs H1 F1 ds tQ s1 R1 ap nd len xx q1=>⟨p,as,rfl,ap.h,?_⟩⟩;have q1:=q1.2 as.length;refine⟨λi m bh H'=>∃F' ax,aj F1 F'/\RS Y F' ax bh H'/\mY Y F' ax bh H' p (.lst (as.map V.ref))/\(∀(j:Nat) (a:Addr) (c:Int),i<=j->as[j]?=some a->cs[j]?=some c->mY Y F' ax bh H' a (.lst [.int c,.int 0])) /\
  uU pre tb De (as.length-i) i ax/\m=as.length-i/\i<=as.length,⟨as.length,F1,tQ,aj.refl _,R1,ap,λj a c _=>xx j a c,q1,rfl,Nat.zero_le _⟩,?_⟩
 rintro i m bh H' ⟨F',ax,s',R',UG,EJ,q',rfl,hi⟩
 by_cases hl:i<as.length
 ·right
  have e1:as[i]?=some as[i]:=List.getElem?_eq_getElem hl;have tT:i<cs.length:=by rw[<- len];exact hl
  have e2:cs[i]?=some cs[i]:=List.getElem?_eq_getElem tT;refine⟨hgo p as i _ H' UG.h e1,λaH H2=>∃F2 aO,aj F1 F2/\RS Y F2 aO aH H2/\mY Y F2 aO aH H2 p (.lst (as.map V.ref))/\(∀(j:Nat) (a:Addr) (c:Int),i+1<=j->as[j]?=some a->cs[j]?=some c->mY Y F2 aO aH H2 a (.lst [.int c,.int 0])) /\
   uU pre tb De (as.length-(i+1)) (i+1) aO,λaH H2 ⟨F2,aO,w1,w2,w3,w4,w5⟩=>⟨as.length-(i+1),by omega,F2,aO,w1,w2,w3,w4,w5,rfl,hl⟩,λx H2 y=>?_⟩
  have NR:∀(j:Nat) (a:Addr),i+1<=j->as[j]?=some a->a∈p::as.drop (i+1):=λj a hj e=>by
   refine List.mem_cons_of_mem _ (List.mem_of_getElem? (i:=j-(i+1)) ?_);rw[List.getElem?_drop,show i+1+(j-(i+1))=j by omega];exact e
  have hP:∀b∈p::as.drop (i+1),∃o,mY Y F' ax bh H' b o:=λb hb=>by
   rcases List.mem_cons.mp hb with rfl|hb
   ·exact⟨_,UG⟩
   ·obtain⟨j,hj,e⟩:=List.mem_iff_getElem.mp hb
    rw[List.getElem_drop]at e;have ZE:i+1+j<as.length:=by rw[List.length_drop]at hj;omega
    have Wh:i+1+j<cs.length:=by rw[<- len];exact ZE
    exact⟨_,EJ (i+1+j) b cs[i+1+j] ⋯ (by rw[List.getElem?_eq_getElem ZE,e]) (List.getElem?_eq_getElem Wh)⟩
  obtain⟨F2,sF,R2,keep,go⟩:=hy p as i _ cs[i] F' H' ax bh x H2 R' nd e1 hP UG.h (EJ i _ _ (Nat.le_refl _) e1 e2) y;refine go _ λaH R3=>?_;have hn:as.length-i=(as.length-(i+1))+1:=by omega
  rw[hn]at q';have q2:=q' cs[i];have V0:∀b∈p::as.drop (i+1),∃o,mY Y F2 ax bh H2 b o:=λb hb=>by
   obtain⟨o,a⟩:=hP b hb;exact⟨o,keep b o a⟩
  have again:∀ {kP:St} {H4 F4:Hp} {cK:Sd},aj F2 F4->RS (Y.oh F2 H2 (p::as.drop (i+1))) F4 cK kP H4->uU pre tb De (as.length-(i+1)) (i+1) cK->∃F2 aO,aj F1 F2/\RS Y F2 aO kP H4/\mY Y F2 aO kP H4 p (.lst (as.map V.ref))/\(∀(j:Nat) (a:Addr) (c:Int),i+1<=j->as[j]?=some a->cs[j]?=some c->mY Y F2 aO kP H4 a (.lst [.int c,.int 0]))/\uU pre tb De (as.length-(i+1)) (i+1) aO:=λ{kP H4 F4 cK} s4 R4 q4=>by
   obtain⟨R5,k5⟩:=R2.iK V0 R4;exact⟨F4,cK,(s'.trans sF).trans s4,R5,k5 _ _ (List.mem_cons_self ..) (keep _ _ UG),λj a c hj ea ec=>k5 _ _ (NR j a hj ea) (keep _ _ (EJ j a c ⋯ ea ec)),q4⟩
  refine⟨Y.oh F2 H2 (p::as.drop (i+1)),⟨rfl,rfl⟩,F2,pre i cs[i] ax,_,R3,q2,⟨λkP H4 F4 cK s4 R4 q4=>again s4 R4 q4,λv4 kP H4 F4 cK b s4 R4 r4 q4=>?_,λkP H4 F4 cK s4 R4 q4=>?_,λkP H4 F4 cK s4 R4 q4=>again s4 R4 q4⟩⟩
  ·obtain⟨R5,k5⟩:=R2.iK V0 R4
   refine K.rt v4 kP H4 F4 cK b (((s1.trans s').trans sF).trans s4) R5 ?_ q4;cases b with
   | sh d=>exact r4
   | own xs =>
    obtain⟨a,vs,w1,w2,w3,w4,w5,w6⟩:=r4;refine⟨a,vs,w1,w2,w3,w4,?_,w6⟩;have w5:(if a∈p::as.drop (i+1)then H2 a else Y.H0 a)=none:=w5
    split at w5
    ·rename_i hm
     obtain⟨o,ap⟩:=V0 a hm;exact ap.z
    ·exact w5
   | obj o =>
    obtain⟨a,w1,w2,w3⟩:=r4;refine⟨a,w1,w2,λb hb=>⟨(w3 b hb).1,(w3 b hb).2.1,?_,(w3 b hb).2.2.2⟩⟩;have w5:(if b∈p::as.drop (i+1)then H2 b else Y.H0 b)=none:=(w3 b hb).2.2.1
    split at w5
    ·rename_i hm
     obtain⟨o,ap⟩:=V0 b hm;exact ap.z
    ·exact w5
  ·obtain⟨R5,k5⟩:=R2.iK V0 R4
   exact K.nx kP H4 F4 cK (((s1.trans s').trans sF).trans s4) R5 q4
 ·left
  have e:i=as.length:=by omega
  subst e;rw[Nat.sub_self]at q';exact⟨wt p as H' UG.h,K.nx bh H' F' ax (s1.trans s') R' q'⟩
theorem RS.IZ{Y:aV}{F:Hp}{ah:Sd}{σ:St}{H:Hp}{j:Nat}{a:Addr}{c:Int}{ps:List Addr}(R:RS Y F ah σ H)(hP:∀b∈ps,∃o,mY Y F ah σ H b o)(ha:mY Y F ah σ H a (.lst [.int c,.int 0]))(hn:a∉ps)(bX:∀p∈Y.io,p.1≠j):
  RS (Y.oh F H ps) F (ah.set j (some (.own [.int c,.int 0]))) (σ.set j (some (.ref a))) H:=
 (R.y0 ps hP).Fo ha.h (.cons (.int _) (.cons (.int _) .nil)) ha.f (by show(if a∈ps then H a else Y.H0 a)=none;rw[if_neg hn];exact ha.z) ha.no bX
theorem Hy{p:Addr}{as:List Addr}{i:Nat}{a:Addr}(nd:(p::as).Nodup)(e:as[i]?=some a):a∉p::as.drop (i+1):=by
 have hi:=(List.getElem?_eq_some_iff.mp e).1;have ea:as[i]=a:=(List.getElem?_eq_some_iff.mp e).2;intro h;rcases List.mem_cons.mp h with h|h
 ·exact(List.nodup_cons.mp nd).1 (by rw[<- h];exact List.mem_of_getElem? e)
 ·obtain⟨j,hj,e'⟩:=List.mem_iff_getElem.mp h
  rw[List.getElem_drop]at e';have ZE:i+1+j<as.length:=by rw[List.length_drop]at hj;omega
  have:=(List.nodup_cons.mp nd).2;exact List.pairwise_iff_getElem.mp this i (i+1+j) hi ZE ⋯ (by rw[ea,e'])
theorem Rr(j:Nat){x y:Str}{e:Expr}{t:et}{tb:b5}{body:List Stmt}{p cpos iQ pos:Pos}(h:gK G k x)(ha:wz G k S [e] t)(hb:dy G k S body tb)(hj:S.N[j]?=some y:=by rfl)(hx:S.sc.lookup y=some .local\/(S.sc.lookup y=some .cell/\S.wj=false):=by first|exact Or.inl rfl|exact Or.inr ⟨rfl,rfl⟩)
  (hn:j∉S.ios:=by first|decide|exact List.not_mem_nil | (dsimp only;decide)) (hg:S.sc.lookup x=some .globalImplicit:=by rfl) (mB:(x==("__debug__":Str))=false:=by decide)
  (he:∀env,starEach [e] env=(false,eval e env)::starEach [] env:=by intro _;rfl) (dI:∀env,(backTo cpos (starEach [] env)).any (·.1)=false:=by intro _;rfl)
  (hs:∀env x',foldedSetIterable (.Call (.Name x p) [e] [] cpos) env x'=pure x':=by intro _ _;rfl) (wu:S.ex=λ_ _=>False:=by rfl) (hh:S.gm=false:=by rfl):
  ES G k S (.For (.Name y iQ) (.Call (.Name x p) [e] [] cpos) body [] pos) (zy t (Rg j) tb):=.mk λX Y ok=>by
 have pi:=EC (tg:=.Name y iQ) (Ig (p:=p) (pos:=cpos) hh h ha hg mB he dI ok);refine b8 (xA (ok.po hh) (ok.calm hh) pi (L2.rW (i:=j) (by rw[ok.N];exact ok.nd) (by rw[ok.N];exact hj) (jo ok hx) (jh ok hx)) (Lr wu ok hb) (hs _)) λDn σ H q=>?_
 have r:=EK (X:=X) (J:=λa=>Zc X.K a) (g:=jF j) (λp as i a H h e=>⟨as.map V.ref,.ref a,.of h,by rw[List.getElem?_map,e];rfl⟩) (λp as H h=>⟨as.map V.ref,.of h,by rw[List.length_map];exact Nat.le_refl _⟩)
  (λp as i a c F H ah σ x H' R nd e hP hp aaK y=>by
   obtain⟨rfl,y⟩:=y;have hx:=y _ (.of hp);rw[List.getElem?_map,e]at hx;cases hx;refine⟨F,aj.refl _,R,λ_ _ a=>a,λN hN=>hN _ (R.IZ hP aaK (Hy nd e) λq hq z=>hn (by rw[<- z];exact ok.ios q hq))⟩) q
 obtain⟨F,ah,Qd,w1,w2,w3,w4⟩:=r;exact⟨F,ah,Qd,w1,w2,w3,λp as cs H' F' ds ax a1 a2 a3 a4 a5 a6 a7=>by
  obtain⟨p',as',e,z1,z2⟩:=w4 p as cs H' F' ds ax a1 a2 a3 a4 a5 a6 a7;exact .inl ⟨p',e,⟨_,.of z1⟩,z2⟩⟩
theorem uV{pre:Nat->Int->Sd->Sd}{tb:b5}{De:gJ}(I:Sd->Prop)(hb:∀i c σ (N:Sd->Prop),I σ->(∀bh,I bh->N bh)->tb {De with nx:=N,ct:=N,bk:=De.nx} (pre i c σ))(hn:∀σ,I σ->De.nx σ):∀n i σ,I σ->uU pre tb De n i σ
 | 0,_,σ,h=>hn σ h
 | n+1,i,σ,h=>λc=>hb i c σ _ h λbh h'=>uV I hb hn n (i+1) bh h'
end Vc
namespace Vc
open PySem L2
variable [KF]
variable {G:GE}{k:Nat}{S:Stat}
def Kb(Y:aV):TS:=λDn σ H=>∃F ns,RS Y F [some (.sh (.lst (List.map D.int ns)))] σ H/\Y.H0=H/\(Y.io=[]/\Y.ob=[])/\ns.length<=63/\∀p as cs H',Uq H H' p as cs->Dn.rt (.ref p) H'
structure tW(G:GE)(k:Nat)(S:Stat)(b:List Stmt) :Prop where
 run:∀X Y,c7 X G k S Y->qI X b (Kb Y)
instance {G:GE} {k:Nat} {S:Stat} {b:List Stmt} :CoeFun (tW G k S b) λ_=>∀X Y,c7 X G k S Y->qI X b (Kb Y):=⟨tW.run⟩
def lLe(t:et):TE:=λσ H Q=>∃Y:aV,Y.io=[]/\Y1 (lDs Y t) σ H Q
abbrev Ga:TB:=bq eqT (aX (fB fM (bT (af 0) eM))) (bg (.int 0))
abbrev Gh:et:=bz (ak [] (bg (.int 0))) (bz (ak [] (bg (.int 0))) tN)
abbrev Gb:et:=dg (ak [] (aX (Fz (af 0) T3 (T4 (bg (.int 63))))))
abbrev xW:et:=bz (ak [] (af 0)) (bz (ak [] (bg (.int 0))) tN)
theorem ym{α:Type}(xs:List α)(lo hi:Option Int):(cut xs lo hi).length<=xs.length:=by
 unfold cut;rw[List.length_take,List.length_drop];omega
theorem ur(ns:List Int)(lo hi:Option Int):cut (ns.map D.int) lo hi=(cut ns lo hi).map D.int:=by
 unfold cut;rw[List.length_map,List.map_take,List.map_drop]
theorem ay.WL{F:Hp}{vs:List V}{a b:Int}(r:ay F vs [.int a,.int b]):vs=[.int a,.int b]:=by
 cases r with
 | cons h r =>
  cases h;cases r with
  | cons h r=>cases h;cases r;rfl
section
variable {c:Expr}{zs es:List Expr}{tg iter:Expr}{scope:Scope}{N':List Str}{p1 p2 p3 p4 p5 p6 p7:Pos}
theorem ML(abv:S.ios=[])(hc:EB G k S c Ga)(hz:wz G k S zs Gh)(hi:EI G k S tg iter Gb)(b:dS S scope N' [none])(hg:EG G k (aI S scope N') tg (gB 0))(he:wz G k (aI S scope N') es xW)(hs:∀env x,foldedSetIterable iter env x=pure x:=by intro _ _;rfl) 
  (h1:∀env,starEach [.List zs p1] env=(false,eval (.List zs p1) env)::starEach [] env:=by intro _;rfl) (hh:S.gm=false:=by rfl):
  tW G k S [.If c [.Return (some (.List [.List zs p1] p2)) p3] [] p4,.Return (some (.ListComp (.List es p5) [⟨tg,iter,[],0⟩] scope p6)) p7]:=.mk λX Y ok=>by
 have Hb:∀X',gI X X' scope N'->PG X' tg (TN (gB 0))/\BI X' [] (ZU cR)/\PE X' (.List es p5) (lLe xW):=λX' cx =>
  ⟨λpins s σ H v u Q I r ⟨Y',bX,q⟩=>hg X' Y' (cy hh ok b cx Y' bX) pins s σ H v u Q I r q,λpins s σ H Q I ⟨Y',bX,q⟩=>gP X' Y' (cy hh ok b cx Y' bX) pins s σ H Q I q,λpins s σ H Q I ⟨Y',bX,q⟩=>rV (he X' Y' (cy hh ok b cx Y' bX)) pins s σ H Q I q⟩
 refine se (vG (L2.Kh (hc X Y ok) (sf (L2.xB (rV (cu (rV (hz X Y ok)) dJ (h1 _))))) zb) (sf (L2.xB (eQ (ok.calm hh) (hi X Y ok) (b.sc ok) Hb (hs _))))) λDn σ H q=>?_;obtain⟨F,ns,R,rfl,hY,hl,K⟩:=q;have same:∀ {F':Hp} {ah:Sd} {σ:St} {H':Hp},RS Y F' ah σ H'->aj Y.H0 H':=λR b o e=>R.old b o e (by rw[aV.rG,hY.1,hY.2];simp)
 refine⟨F,_,λ_ ax=>ax=[some (.sh (.lst (List.map D.int ns)))],R,?_,λbb H1 F1 av s1 R1 e1=>?_⟩
 ·simp only[Ga,bq,aX,Zv,fB,bT,af,eM,kX,cS,List.getElem?_cons_zero,fM,bg,eqT]
  exact⟨⟨rfl,rfl⟩,trivial⟩
 subst e1;cases bb with
 | true =>
  refine(if_pos rfl).mpr ?_;refine⟨F1,_,λds _=>ds=[.int 0,.int 0],R1,?_,λvs H2 F2 ds aH s2 R2 r2 e2=>?_⟩
  ·simp only[Gh,bz,ak,kL,bg,tN]
  subst e2;obtain rfl:=r2.WL;refine⟨by show 2<=sizeLine;decide,λa ha=>⟨by show 1<=sizeLine;decide,λp hp=>K p [a] [0] _ ?_⟩⟩
  have hpa:p≠a:=λz=>by rw[z,au]at hp;cases hp
  have TH:H2 p=none:=by rw[ai hpa]at hp;exact hp
  have sm:=same R2;refine⟨(sm.trans (aD ha)).trans (aD hp),au,λb hb=>?_,by simp [hpa],rfl,λi a' c' e1 e2=>?_⟩
  ·rcases List.mem_cons.mp hb with rfl|hb
   ·exact sm.free TH
   ·rw[List.mem_singleton.mp hb];exact sm.free ha
  ·cases i with
   | zero =>
    cases e1;cases e2;rw[ai hpa.symm,au]
   | succ i=>simp at e1
 | false =>
  refine(if_neg ∅).mpr ?_
  refine⟨F1,_,λitems ax=>(∃ms:List Int,items=ms.map D.int/\ms.length<=63)/\ax=[some (.sh (.lst (List.map D.int ns)))],R1,?_,λH2 F2 aH J items s2 R2 it e2 acc cI=>?_⟩
  ·simp only[Gb,dg,ak,kL,kM,aX,Zv,Fz,af,T3,T4,bg,cS,List.getElem?_cons_zero,Z3]
   exact⟨⟨cut ns none (some 63),ur _ _ _,Nat.le_trans (ym _ _ _) hl⟩,trivial⟩
  obtain⟨⟨ms,rfl,hm⟩,rfl⟩:=e2;have a0:Y.H0 acc=none:=(R2.bw cI).1;have aF:F2 acc=none:=same_none R2.fr cI;have noOwn:∀(σ:St) (a:Addr),cw [some (.sh (.lst (List.map D.int ns)))] σ a:=λσ a=>⟨λj ys e=>by
   cases j with
   | zero=>cases e
   | succ j=>simp at e,λ⟨j,o,c,e,_⟩=>by
   cases j with
   | zero=>cases e
   | succ j=>simp at e⟩
  have sw:∀ {F5 H5:Hp} {o:HO},aj F5 H5->F5 acc=none->aj F5 (upd H5 acc o):=λ{F5 H5 o} s5 h b u e=>by
   have:b≠acc:=λz=>by rw[z,h]at e;cases e
   rw[ai this];exact s5 b u e
  have Xf:∀(i:Nat) (xs:List D),([none]:Sd)[i]?≠some (some (.own xs)):=λi xs e=>by
   cases i with
   | zero=>cases e
   | succ i=>simp at e
  have Xe:∀(i:Nat) (o:O),([none]:Sd)[i]?≠some (some (.obj o)):=λi o e=>by
   cases i with
   | zero=>cases e
   | succ i=>simp at e
  refine⟨λi m av H'=>∃Fi as cs,aj F2 Fi/\RS Y Fi [some (.sh (.lst (List.map D.int ns)))] σ H'/\H' acc=some (.lst (List.map V.ref as))/\(acc::as).Nodup/\(∀b∈acc::as,Y.H0 b=none/\Fi b=none) /\
    (∀(i:Nat) (a:Addr) (c:Int),as[i]?=some a->cs[i]?=some c->H' a=some (.lst [.int c,.int 0]))/\as.length=cs.length/\as.length=i/\RS ⟨H',Fi,[],[]⟩ Fi [none] av H'/\m=ms.length-i/\i<=ms.length,
   ⟨ms.length,F2,[],[],aj.refl _,R2.other aF a0 (noOwn _ _),au,by simp,λb hb=>by rw[List.mem_singleton.mp hb];exact⟨a0,aF⟩,λi a c e=>by simp at e,rfl,rfl,jA R2 [none] (aj.refl _) (sw R2.fr aF),rfl,Nat.zero_le _⟩,?_⟩
  rintro i m av Hi ⟨Fi,as,cs,si,Ri,cf,nd,fr,xx,len,W4,BL,rfl,hi⟩;have nE:=it Fi Hi si Ri.fr i
  by_cases tT:i<ms.length
  ·right
   obtain⟨go,yl⟩:=nE.1 (.int ms[i]) (by rw[List.getElem?_map,List.getElem?_eq_getElem tT];rfl)
   refine⟨go,λv H' y=>?_⟩;obtain⟨F3,gr,rep⟩:=yl v H' y;have sF:aj Fi F3:=gr.same Ri.fr;have R3:=gr.rs BL;have GP:RS ⟨H',F3,[],[]⟩ F3 [none] av H':=R3.less (dG _) Xf Xe R3.fr;have sH:aj Hi H':=by
    rcases gr with⟨_,rfl⟩|⟨p,o,hp,_,rfl⟩
    ·exact aj.refl _
    ·exact aD hp
   have yy:∀c o,F3 c=some o->Fi c=some o\/Nw Hi c o:=λc o e=>by
    rcases gr with⟨rfl,_⟩|⟨p,o',hp,rfl,_⟩
    ·exact .inl e
    ·by_cases hc:c=p
     ·subst hc;exact .inr (.inl hp)
     ·rw[ai hc]at e;exact .inl e
   refine⟨⟨H',F3,[],[]⟩,rfl,F3,_,.int ms[i],λah=>ah=[some (.sh (.int ms[i]))],GP,rep,rfl,λkP H4 F4 cK s4 R4 q4=>?_⟩;subst q4;refine⟨⟨H',F3,[],[]⟩,rfl,F4,_,λbb ah=>bb=true/\ah=[some (.sh (.int ms[i]))],R4,⟨rfl,rfl⟩,λbb H5 F5 fE s5 R5 q5=>?_⟩;obtain⟨rfl,rfl⟩:=q5;refine(if_pos rfl).mpr ?_;refine⟨⟨H',F3,[],[]⟩,rfl,F5,_,λds ah=>ds=[.int ms[i],.int 0]/\ah=[some (.sh (.int ms[i]))],R5,?_,λvs H6 F6 ds Gr s6 R6 r6 q6=>?_⟩
   ·simp only[xW,bz,ak,kL,kM,af,bg,tN,List.getElem?_cons_zero]
    exact⟨trivial,trivial⟩
   obtain⟨rfl,rfl⟩:=q6;obtain rfl:=r6.WL;refine⟨by show 2<=sizeLine;decide,λa ha=>?_⟩
   have IC:aj F3 F6:=(s4.trans s5).trans s6;have vS:aj Hi H6:=sH.trans λb o e=>R6.old b o e (by simp [aV.rG])
   have JY:∀c o,F6 c=some o->Fi c=some o\/Nw Hi c o:=λc o e=>by
    rcases R6.dA c o e with z|z
    ·exact yy c o z
    ·exact .inr (z.imp sH.free id)
   have w1:RS Y F6 [some (.sh (.lst (List.map D.int ns)))] σ H6:=Ri.call (sF.trans IC) R6.fr vS JY;have live:∀b∈acc::as,∃o,Hi b=some (.lst o):=λb hb=>by
    rcases List.mem_cons.mp hb with rfl|hb
    ·exact⟨_,cf⟩
    ·obtain⟨j,hj,e⟩:=List.mem_iff_getElem.mp hb
     have Wh:j<cs.length:=by rw[<- len];exact hj
     exact⟨_,xx j b cs[j] (by rw[List.getElem?_eq_getElem hj,e]) (List.getElem?_eq_getElem Wh)⟩
   have w3:∀b∈acc::as,F6 b=none:=λb hb=>by
    cases e:F6 b with
    | none=>rfl
    | some o =>
     obtain⟨o',e'⟩:=live b hb;rcases JY b o e with z|z
     ·rw[(fr b hb).2]at z;cases z
     ·rcases z with z|⟨ws,rfl⟩
      ·rw[e']at z;cases z
      ·have y:=R6.fr b _ e;rw[vS _ _ e']at y;cases y
   have na:∀b∈acc::as,b≠a:=λb hb=>by
    obtain⟨o',e'⟩:=live b hb;exact aP (vS _ _ e') ha
   have V4:(upd H6 a (.lst [.int ms[i],.int 0])) acc=some (.lst (List.map V.ref as)):=by rw[ai (na acc (List.mem_cons_self ..))];exact vS _ _ cf
   have R7:=w1.ja (o:=.lst [.int ms[i],.int 0]) ha;have aF6:=w3 acc (List.mem_cons_self ..);have Hx:a≠acc:=(na acc (List.mem_cons_self ..)).symm;have Us:F6 a=none:=same_none w1.fr ha;refine⟨List.map V.ref as,ms.length-(i+1),V4,by rw[List.length_map,W4];exact Nat.lt_of_lt_of_le tT (Nat.le_trans hm ∅),by omega,F6,as++[a],cs++[ms[i]],si.trans (sF.trans IC),R7.other aF6 a0 (noOwn _ _),?_,?_,?_,?_,by simp [len],by simp [W4],R6.less (σ0:=[none]) trivial Xf Xe (sw (λb o e=>?_) aF6),rfl,tT⟩
   ·rw[au,List.map_append];rfl
   ·rw[List.nodup_cons]at nd ⊢
    refine⟨λh=>?_,?_⟩
    ·rcases List.mem_append.mp h with h|h
     ·exact nd.1 h
     ·exact Hx (List.mem_singleton.mp h).symm
    ·rw[List.nodup_append]
     refine⟨nd.2,by simp,λx hx y hy z=>?_⟩
     rw[List.mem_singleton.mp hy]at z;exact na x (List.mem_cons_of_mem _ hx) z
   ·intro b hb
    rcases List.mem_cons.mp hb with rfl|hb
    ·exact⟨a0,aF6⟩
    ·rcases List.mem_append.mp hb with hb|hb
     ·exact⟨(fr b (List.mem_cons_of_mem _ hb)).1,w3 b (List.mem_cons_of_mem _ hb)⟩
     ·rw[List.mem_singleton.mp hb]
      exact⟨(w1.bw ha).1,Us⟩
   ·intro t a' c' e1 e2
    by_cases ht:t<as.length
    ·rw[List.getElem?_append_left ht]at e1
     rw[List.getElem?_append_left (by rw[<- len];exact ht)]at e2
     have hm':=List.mem_of_getElem? e1;have:a'≠acc:=λz=>(List.nodup_cons.mp nd).1 (by rw[<- z];exact hm')
     rw[ai this,ai (na a' (List.mem_cons_of_mem _ hm'))];exact vS _ _ (xx t a' c' e1 e2)
    ·have h1:=(List.getElem?_eq_some_iff.mp e1).1
     rw[List.length_append,List.length_singleton]at h1;have h2:t=as.length:=by omega
     subst h2;rw[List.getElem?_append_right (Nat.le_refl _),Nat.sub_self]at e1;rw[List.getElem?_append_right (by rw[len];exact Nat.le_refl _),len,Nat.sub_self]at e2
     cases e1;cases e2;rw[ai Hx,au]
   ·have:b≠a:=λz=>by rw[z,Us]at e;cases e
    rw[ai this];exact R6.fr b o e
  ·left
   have e:i=ms.length:=by omega
   refine⟨nE.2 (by rw[List.length_map];exact e),K acc as cs Hi ⟨same Ri,cf,λb hb=>(fr b hb).1,nd,len,xx⟩⟩
end
theorem du.xx{x:Str}{st:Stmt}{ps N:List Str}{f:Addr}{fd:FuncData}(d:du G x st ps f fd)(hK:G.K=KF.K)(Sc:aC N ps (ae st))(hN:N.length=1)(ZL:ps.length=1)(ht:tW G k ⟨N,(ae st).names,[],false,false,false,λ_ _=>False⟩ (aq st)):gK G (k+1) x:=by
 refine⟨f,fd,ps,?_,d.m,d.F.kp,d.b⟩;refine d.F.ok Sc (λvs H Q E h=>?_) (λik A outer s H vs Q E hr h=>?_)
 ·obtain⟨F,ns,s,r,_⟩:=h
  rw[r.length,ZL];rfl
 ·obtain⟨F,ns,sm,r,hl,K⟩:=h
  refine⟨_,ht (nc iL G.P G.w G.K G.mg G.base N x (ae st) f ik A outer s H E).HG ⟨H,F,[],[]⟩ ⟨rfl,rfl,rfl,hK,rfl,rfl,rfl,rfl,Sc.nd,λp hp=>absurd hp (by simp),λ_ _=>rfl,λ_=>rfl,Sc.kind,λ_ _ _=>rfl,λ_=>hr.hd,hr.dp,hr.un,λ_=>PassesOwn.never,λ_=>⟨rfl,rfl,rfl⟩,λ_ _ h=>h.elim,λh=>nomatch h⟩,F,ns,?_,rfl,⟨rfl,rfl⟩,hl,λp as cs H' P=>K p as cs H' P⟩
  have:=RS.start N.length sm r;rw[hN]at this;show RS _ F _ (vs.map some++List.replicate (N.length-vs.length) none) H;rw[hN];exact this
end Vc
namespace Vc
open PySem L2
variable [KF]
variable {G:GE}{k:Nat}{S:Stat}
theorem WO(a b:D)(Q:D->Prop):Ka (.lst [a,b]) (.int 0) Q=Q a:=rfl
theorem WQ(a b:D)(Q:D->Prop):Ka (.lst [a,b]) (.int 1) Q=Q b:=rfl
theorem NW:yN 2 0=some 0:=rfl
theorem NX:yN 2 1=some 1:=rfl
theorem pO{α:Type}{g:fG}{te:TD}{c6:Sd}{m:Nat}{Q:List D->List D->Prop}{tV:List D}(gi:α->D)(P:D->Prop)(Rk:List D->Prop)(l:List α)
  (h:∀a∈l,∀xs,Rk xs->∀(A:D->List D->Prop) (Z:Prop),Z->(∀d ys,P d->Rk ys->A d ys)->g (gi a) (c6.set m (some (.own xs))) λav=>te av λd c9=>gD c6 c9/\Z/\ownAt m c9 λys=>A d ys)
  (hl:l.length<=sizeLine) (h0:Rk tV) (q:∀ds ys,ds.length=l.length->(∀d∈ds,P d)->Rk ys->Q ds ys):jd g cR te c6 m (l.map gi) [] tV Q:=by
 have key:∀(l2:List α) (acc xs:List D),(∀a∈l2,a∈l)->acc.length+l2.length=l.length->(∀d∈acc,P d)->Rk xs->jd g cR te c6 m (l2.map gi) acc xs Q:=by
  intro l2
  induction l2 with
  | nil=>intro acc xs _ hlen cI hr;exact q acc xs (by simpa using hlen) cI hr
  | cons a l2 ih =>
   intro acc xs hm hlen cI hr;have abt:acc.length+(l2.length+1)=l.length:=by simpa using hlen
   show g (gi a) _ λav=>cR av λb aH=>_;exact h a (hm a (List.mem_cons_self ..)) xs hr (λd ys=>jd g cR te c6 m (l2.map gi) (acc++[d]) ys Q) (acc.length<sizeLine) ⋯ λd ys hd hy =>
    ih _ ys (λx hx=>hm x (List.mem_cons_of_mem _ hx)) (by rw[List.length_append,List.length_singleton];omega) (λx hx=>by
     rcases List.mem_append.mp hx with hx|hx
     ·exact cI x hx
     ·rw[List.mem_singleton.mp hx];exact hd) hy
 exact key l [] tV (λ_ h=>h) (by simp) (λd hd=>by cases hd) h0
end Vc
namespace Vc
open PySem L2
variable [KF]
variable {G:GE}{k:Nat}{S:Stat}
def wW(x:D)(xs:List D):Option Nat:=xs.findIdx? λy=>il y x
def abe(K:PySem.W.Frag):V->List V->Hp->VK->Prop:=λo vs H Q=>∃F v x xs j,vs=[v]/\aj F H/\cA F H o (.lst xs)/\cA F H v x/\b7 8 x=true/\b7 8 (.lst xs)=true/\wW x xs=some j/\Q (.int j) H
theorem xG{P:Program}{w:World}{F H:Hp}{h:Heap}(ok:ig P w H h)(s:aj F H){vs:List V}{ds:List D}{us:List Value}(r:ay F vs ds)(rv:Vals vs us)(o:ds.all (b7 7)=true):∃as,ReadsAll h us (eK ds) as:=ay.reads ok s 7 r rv o
theorem uS{x:D}(hx:b7 8 x=true)(h:Heap):∀(xs:List D) (us:List Value) (as:List Addr),xs.all (b7 7)=true->ReadsAll h us (eK xs) as->us.findIdx? (λu=>PyData.eqv (SeqAt.readOf h u) (toPy x))=wW x xs
 | [],_,_,_,r=>by cases r;rfl
 | y::xs,us,as,ho,r=>by
  rw[List.all_cons,Bool.and_eq_true]at ho;cases r with
  | cons r1 r2 =>
   have e:SeqAt.readOf h _=toPy y:=SeqAt.readOf_eq (mP 7 y ho.1).1 r1;have ih:=uS hx h xs _ _ ho.2 r2;unfold wW at ih ⊢;rw[List.findIdx?_cons,List.findIdx?_cons,e,<- wU 7 8 y x ho.1 hx,ih]
theorem Ef{X:Cx}(hu:X.A.units+64<cLine):Ul X "list.index" (abe X.K):=by
 intro pins s σ H o vs ov us Q I ro rv h;obtain⟨F,v,x,xs,j,rfl,sm,r1,r2,o1,o2,hj,q⟩:=h;obtain⟨a,ws,rfl,h1,h2⟩:=r1.lst;cases ro;obtain⟨u,rfl,ru⟩:=rv.one;obtain⟨z,its,n,tU,e⟩:=L2.Rd.ok h1 I.bL;obtain⟨as,ra⟩:=r2.reads I.bL sm ru o1;have o2':xs.all (b7 7)=true:=o2;obtain⟨bs,rb⟩:=xG I.bL sm h2 tU o2';have hl:=fN (n:=7) (mP 7) xs o2';have hx:=mP 8 x o1;have hf:=uS o1 s.heap xs its bs o2' rb;rw[hj]at hf;obtain⟨lU,hit,Wr⟩:=List.findIdx?_eq_some_iff_getElem.mp hf;have hjz:its.length<=sizeLine:=by rw[<- tU.length];exact z
 refine call_meets PySem.F.slot_list_index ⟨_,e,rfl⟩ PySem.F.entry_list_index (PySem.F.args_list_index_2 _ _) (SeqAt.list_indexAt a its.toArray n none #[] u (λy=>PyData.eqv (SeqAt.readOf s.heap y) (toPy x)) j (by simpa using lU) (by have:(sizeLine:Nat)=2^24:=rfl;omega) (by simpa using hit) (λm hm hmj=>?_)) ⟨e,SeqAt.items_eqAt (vs:=its.toArray) (by simpa using rb) ra hl.1 hx.1 (by have:=Nat.min_le_right (PyData.depthAll (eK xs)) (toPy x).depth;omega),?_⟩
 ·have:=Wr m hmj
  simpa using this
 ·exact⟨.int j,H,I.kept (λb o e=>e),⟨_,rfl⟩,q⟩
def SQ(to:TV)(te:TD):TV:=λσ Q=>to σ λo av=>(∃ys,cS av o=some (.lst ys))/\te av λx aH=>match cS aH o with
 | some (.lst xs)=>(b7 8 x=true/\b7 8 (.lst xs)=true)/\∃j,wW x xs=some j/\Q (.val (.int (j:Nat))) aH
 | _=>False
theorem Iy{o e:Expr}{to:TV}{te:TD}{apos cpos:Pos}(ho:EO G k S o to)(he:ED G k S e te)(hb:∀env,attributeBase o "index" env (eval o env)=eval o env:=by intro _;rfl)
  (rB:∀env,((backTo cpos (starEach [e] env)).all (λx=>!x.1)&&(backToKw cpos (keywordEach [] env)).all (λx=>x.1.isSome)&&decide (([e]:List Expr).length+([]:List Keyword).length+(if([]:List Keyword).isEmpty then 0 else 1)<30))=true:=by intro _;rfl)
  (hline:(apos.endLine==cpos.line)=true:=by rfl) (hs:∀env,starEach [e] env=[(false,eval e env)]:=by intro _;rfl):EO G k S (.Call (.Attribute o "index" apos) [e] [] cpos) (SQ to te):=.mk λX Y ok=>by
 have ha:PA X [e] (mr (lD Y te) pC):=cu (he X Y ok) dJ (by rw[hs];rfl)
 refine aM (yW PySem.F.plainAttrs_list PySem.F.slot_list_index PySem.F.type_list_index (Ef ok.units) (ho X Y ok) ha (hb _) (rB _) hline (by rw[hs];rfl) (by rfl)) λσ H Q q=>?_
 obtain⟨F,ah,Qd,R,q,K⟩:=q;refine⟨F,ah,_,R,q,λv1 H1 F1 x av s1 R1 r1 q1=>?_⟩;obtain⟨⟨ys,e0⟩,q1⟩:=q1;obtain⟨a,ws,e1,h1,_⟩:=(R1.cS r1 e0).lst;refine⟨by rw[e1];exact .inl ⟨rfl,ws,.inl h1⟩,F1,av,_,R1,q1,λv2 H2 F2 d aH s2 R2 r2 q2=>?_⟩
 split at q2
 ·rename_i xs e2
  obtain⟨⟨o1,o2⟩,j,hj,q2⟩:=q2;exact⟨F2,v2,d,xs,j,rfl,R2.fr,R2.cS (r1.mono s2) e2,Rep.h R2.fr r2,o1,o2,hj,K _ H2 F2 (.val (.int j)) aH (s1.trans s2) R2 (.int _) q2⟩
 ·exact q2.elim
end Vc
namespace Vc
open PySem L2 PySem.Spec PyProof.Rows PySem.SeqAt PySem.MeetsSeq PySem.MeetsSeq2 PySem.MeetsSeq3
section
variable {prog:Program}{w:World}{A:Around}{E:Value->Shared->Prop}{s:Shared}
theorem jG{t sl:Addr}{items:Array Value}{vl vu:Value}{lo hi:Option Int}{Q:Value->Shared->Prop}(ht:IsTup s.heap t items)(hs:s.heap.IsSliceOf sl vl vu .none)(pl:IsPart vl lo)(pu:IsPart vu hi)
  (hw:HT.cG items.size 0 lo=0/\HT.cG items.size items.size hi=items.size)
  (h:Q (.ref t) s):wpAny (model prog w) A (getItem (.ref t) (.ref sl)) Q E s:=by
 obtain⟨os,NI,G8,V9⟩:=id hs;have hTs:s.TypeIs (.ref sl) "slice":=⟨os,NI,G8⟩;unfold getItem
 try with_reducible refine wpAny_holding ?_
 first|refine wpAny_bind (wpAny_pure ?_)|skip
 refine wpAny_bind (wpAny_sequenceKey ht.typeIs ∅ ?_)
 refine wpAny_bind (wpAny_callSpecial?_slot (name:=Str.ofString "__getitem__") ht.typeIs PyProof.Rows.slot_tuple_getitem
  (wpAny_call_entry PyProof.Rows.slot_tuple_getitem ht.typeIs entry_tuple_getitem ?_ (args_tuple_getitem _ _)))
 show wpAny _ _ (Builtin.Tuple.tupleItemsOf (.ref t) >>= _) _ _ s;refine wpAny_bind (tupleItemsOf_ ht ?_);refine wpAny_bind (wpAny_typeOf hTs ?_);rw[if_pos ∅]
 refine wpAny_bind (HT.fw hs pl pu ?_);have aaQ:((((HT.cG items.size 0 lo:Nat):Int)==0&&(1:Int)==1&&(HT.cG items.size items.size hi-HT.cG items.size 0 lo)==items.size)=true):=by
  rw[hw.1,hw.2,Nat.sub_zero];simp
 show wpAny _ _ (if(((HT.cG items.size 0 lo:Nat):Int)==0&&(1:Int)==1&&(HT.cG items.size items.size hi-HT.cG items.size 0 lo)==items.size)=true then _ else _) _ _ s
 rw[if_pos aaQ];refine wpAny_bind (m:=Builtin.Tuple.tupleIsExact (.ref t)) ?_;unfold Builtin.Tuple.tupleIsExact;refine wpAny_bind (wpAny_typeOf ht.typeIs (wpAny_pure ?_));rw[if_pos ∅]
 refine wpAny_bind (wpAny_rule ?_);exact wpAny_pure ⟨_,rfl,wpAny_pure h⟩
end
section
variable {X:Cx}
theorem RY:BM X (λx lo hi H Q=>∃a xs,x=.ref a/\kR X.K H a xs/\(HT.cG xs.length 0 lo=0/\HT.cG xs.length xs.length hi=xs.length)/\Q (.ref a) H):=by
 intro pins s σ H x v vl vu lo hi sl Q I rx hs pl pu h;obtain⟨a,xs,rfl,hx,hw,q⟩:=h;cases rx;obtain⟨its,r,ht,hz⟩:=I.tuple hx;have hlen:its.toArray.size=xs.length:=by rw[List.size_toArray];exact r.length.symm
 refine⟨"tuple",_,PyProof.Rows.slot_tuple_getitem.lookup,ht.typeIs,?_⟩;exact jG ht hs pl pu (by rw[hlen];exact hw) ⟨.ref a,H,I,rfl,q⟩
end
variable [KF]
variable {G:GE}{k:Nat}{S:Stat}
def slT:D->Option Int->Option Int->(EV->Prop)->Prop
 | .lst xs,lo,hi,Q=>Q (.own (cut xs lo hi))
 | .i3 ns,lo,hi,Q=>Q (.own (cut (ns.map D.int) lo hi))
 | .tup xs,lo,hi,Q=>Q (.val (.tup (cut xs lo hi)))
 | _,_,_,_=>False
def SY(t:TV)(tl th:GQ):TX:=λσ Q=>t σ λx av=>tl av λl aH=>th aH λu c9=>match cS c9 x with
 | some d=>slT d l u λr=>Q r c9
 | none=>False
theorem G1{α:Type}{xs:List α}{lo hi:Option Int}(h:HT.cG xs.length 0 lo=0/\HT.cG xs.length xs.length hi=xs.length):cut xs lo hi=xs:=by
 unfold cut;rw[h.1,h.2,List.drop_zero,Nat.sub_zero,List.take_of_length_le (Nat.le_refl _)]
theorem Yl{e:Expr}{lo hi:Option Expr}{t:TV}{tl th:GQ}{p2 pos:Pos}(h:EO G k S e t)(hl:Ji G k S lo tl)(hh:Ji G k S hi th):EX G k S (.Subscript e (.Slice lo hi none p2) pos) (SY t tl th):=.mk λX Y ok =>
 aM (vF (BM.or zo (BM.or Fp RY)) (h X Y ok) (hl X Y ok) (hh X Y ok)) λσ H Q q=>by
  obtain⟨F,ah,Qd,R,q,K⟩:=q;refine⟨F,ah,_,R,q,λv1 H1 F1 x av s1 R1 r1 q1=>?_⟩;refine⟨F1,av,_,R1,q1,λl H2 F2 aH s2 R2 q2=>?_⟩;refine⟨F2,aH,_,R2,q2,λu H3 F3 c9 s3 R3 q3=>?_⟩
  split at q3
  ·rename_i d e
   have rx:=R3.cS (r1.mono (s2.trans s3)) e;have g:Goes Y F3 c9 σ (λr=>Qd r c9) Q:=λv H' F' r s R' rr qq=>K v H' F' r c9 (((s1.trans s2).trans s3).trans s) R' rr qq;cases d with
   | lst xs =>
    obtain⟨p,vs,rfl,h1,r1⟩:=rx.lst;exact .inl ⟨p,vs,rfl,.inl h1,g.own R3 (r1.cut _ _) q3⟩
   | i3 ns =>
    obtain⟨p,rfl,h1⟩:=rx.i3 R3.fr;exact .inl ⟨p,_,rfl,by rw[ok.kf];exact h1,g.own R3 ((lE _).cut _ _) q3⟩
   | tup xs =>
    have Yo:=rx;obtain⟨p,vs,rfl,h1,r1⟩:=rx.tup R3.fr
    replace q3:Qd (.val (.tup (cut xs l u))) c9:=q3
    by_cases hw:HT.cG xs.length 0 l=0/\HT.cG xs.length xs.length u=xs.length
    ·rw[G1 hw]at q3
     exact .inr (.inr ⟨p,vs,rfl,.of h1,by rw[r1.length];exact hw,g.val R3 Yo q3⟩)
    ·exact .inr (.inl ⟨p,vs,rfl,.of h1,by rw[r1.length];exact hw,g.tup R3 (r1.cut _ _) q3⟩)
   | _=>exact q3.elim
  ·exact q3.elim
end Vc
namespace Vx
open PySem PySem.Spec PySem.Calls PyProof.Rows Builtin
theorem HF:fillsNumberSlot (.type "tuple") "mul"=pure false:=
 PySem.fillsNumberSlot_seq (id:="tuple.__mul__") (r:=some (.builtin "tuple.__rmul__")) F.slot_tuple_mul.lookup (by decide +kernel) F.slot_tuple_rmul.lookup (by decide +kernel)
theorem abi:seqRepeat? (.type "tuple")=pure (some (.builtin "tuple.__mul__")):=by
 unfold seqRepeat?;rw[PySem.seqSlot_of (T:="tuple") (name:="__mul__") (id:="tuple.__mul__") F.slot_tuple_mul.lookup (by decide +kernel),
  PySem.seqSlot_of (T:="tuple") (name:="__rmul__") (id:="tuple.__rmul__") F.slot_tuple_rmul.lookup (by decide +kernel)]
 rfl
theorem Yn(a:Int)(t:Tok)(l:Addr):Meets (Builtin.«int.__rmul__» ⟨[.int a t,.ref l],[]⟩) (λ_ R s=>(∃o its n,s.heap.get? l=some o/\o.cls=.type "tuple"/\o.data=.seq its n)/\R (.ok (.ret Value.notImplemented)) s):=
 .of_wp λprog w A R s h=>by
  obtain⟨hp,g,d,tk,os⟩:=s;obtain⟨⟨o,its,n,ho,hc,hd⟩,h⟩:=h;have hT:(⟨hp,g,d,tk,os⟩:Shared).TypeIs (.ref l) "tuple":=⟨o,ho,hc⟩
  repeat (any_goals (first|assumption | (with_reducible refine wpAny_load ho ?_;rw[hd])|wp_step))
  exact⟨_,rfl,h⟩
theorem aaZ(k:Int)(t:Tok)(l:Addr)(its:List Value)(cC:its≠[])(h1:1<=k)(h2:k<2^63)(hz:its.length*k.toNat<=sizeLine):
  Meets (Builtin.«tuple.__mul__» ⟨[.ref l,.int k t],[]⟩) (λ_ R s=>IsTup s.heap l its.toArray/\(k=1->R (.ok (.ret (.ref l))) s)/\(k≠1->∀h' p,h'=s.heap.push {cls:=.type "tuple",data:=.seq (List.replicate k.toNat its).flatten.toArray}->p=s.heap.objs.size->R (.ok (.ret (.ref p))) {s with heap:=h'})):=
 .of_wp λprog w A R s h=>by
  obtain⟨hp,g,d,tk,os⟩:=s;obtain⟨⟨o,ho,hc,n,hd⟩,hq1,hq2⟩:=h;have hT:(⟨hp,g,d,tk,os⟩:Shared).TypeIs (.ref l) "tuple":=⟨o,ho,hc⟩
  repeat (any_goals (first|assumption | (with_reducible refine wpAny_load ho ?_;rw[hd])|wp_step))
  have c1:¬((decide (k < -2^63)||decide (k>=2^63))=true):=by simp;omega
  rw[if_neg c1];dsimp only;refine wpAny_bind ?_;unfold Tuple.tupleItemsOf
  repeat (any_goals (first|assumption | (with_reducible refine wpAny_load ho ?_;rw[hd])|wp_step))
  have Wc:its.toArray.isEmpty=false:=by cases its with|nil=>exact absurd rfl cC|cons x r=>rfl
  have hsz:(its.toArray.size:Int)*k<=(sizeLine:Nat):=by
   have e:((k.toNat:Nat):Int)=k:=by omega
   have z:((its.length*k.toNat:Nat):Int)<=(sizeLine:Nat):=by exact_mod_cast hz
   rw[Int.natCast_mul,e]at z;simpa using z
  by_cases hk:k=1
  ·rw[if_pos (by rw[hk];simp)]
   unfold Tuple.tupleIsExact
   repeat (any_goals (first|assumption|wp_step))
   exact⟨_,rfl,hq1 hk⟩
  ·rw[if_neg (by rw[Wc];simpa using hk),if_neg (by rw[Wc];simp;omega)]
   have fK:¬(its.toArray.size:Int)*k>(2^63-1)/8:=by
    have:((sizeLine:Nat):Int)<=(2^63-1)/8:=by decide
    omega
   have Wo:¬Tuple.tupleTooMany ((its.toArray.size:Int)*k)=true:=by
    unfold Tuple.tupleTooMany;rw[decide_eq_true_eq];omega
   rw[if_neg fK,if_neg Wo];have hf:List.foldl (λx1 x2=>x1++x2) #[] (List.replicate k.toNat its.toArray)=(List.replicate k.toNat its).flatten.toArray:=by
    have:=L2.foldl_rep its k.toNat [];rw[List.nil_append]at this;exact this
   rw[hf];unfold Tuple.tupleExact;refine wpAny_bind (wpAny_newObj_type ?_ ?_)
   ·exact wpAny_pure ⟨_,rfl,hq2 hk _ _ rfl rfl⟩
   ·show(List.replicate k.toNat its).flatten.toArray.size<=sizeLine
    rw[List.size_toArray,L2.len_rep,Nat.mul_comm];exact hz
end Vx
namespace Vc
open PySem L2
variable [KF]
variable {G:GE}{k:Nat}{S:Stat}
def E2:R2:=λx y H Q=>∃p k xs,x=.ref p/\y=.int k/\H p=some (.tup xs)/\xs≠[]/\1<=k/\k<2^63/\xs.length*k.toNat<=sizeLine/\(k=1->Q (.ref p) H) /\
 (k≠1->∀l,H l=none->Q (.ref l) (upd H l (.tup (List.replicate k.toNat xs).flatten)))
theorem HM{X:Cx}:iO X (binaryOp .Mult) E2:=by
 intro pins s σ H x y v u Q I rx ry h;obtain⟨p,k,xs,rfl,rfl,hH,cC,h1,h2,hz,q1,q2⟩:=h;cases rx;obtain⟨t,rfl⟩:=ry;obtain⟨z,its,r,ht⟩:=I.bL p _ hH;obtain⟨o,ho,hc,n,hd⟩:=id ht;have hl:=r.length;refine wpAny_binaryOp_repeat_ref (T:="tuple") (U:="int") ∅ ⟨o,ho,hc⟩ (λs'=>typeIs_int s' k t) Vx.HF F.fills_int_mul F.slot_int_rmul Vx.abi F.slot_int_index.lookup
  (call_meets F.slot_int_rmul (typeIs_int s k t) F.entry_int_rmul (F.args_int_rmul_2 _ _) (Vx.Yn k t p) ⟨⟨o,_,n,ho,hc,hd⟩,rfl,⟨o,ho,hc⟩,call_meets F.slot_tuple_mul ⟨o,ho,hc⟩ F.entry_tuple_mul (F.args_tuple_mul_2 _ _)
   (Vx.aaZ k t p its (λe=>by subst e;cases xs with|nil=>exact cC rfl|cons a b=>cases r) h1 h2 (by rw[<- hl];exact hz)) ⟨ht,λe=>?_,λe h' l eh el=>?_⟩⟩)
 ·exact⟨.ref p,H,I,rfl,q1 e⟩
 ·subst eh el
  have hf:H s.heap.objs.size=none:=I.bL.fresh (Nat.le_refl _);refine⟨.ref s.heap.objs.size,upd H s.heap.objs.size (.tup (List.replicate k.toNat xs).flatten),I.laid (t':=s.toks) (λb u e=>Heap.get?_push_of_some _ e) (Nat.le_refl _) ?_,rfl,q2 e _ hf⟩;exact⟨by rw[len_rep,Nat.mul_comm];exact hz,_,r.rep k.toNat,⟨_,Heap.get?_push_size _ rfl,rfl,_,rfl⟩⟩
def qj:D->D->(EV->Prop)->Prop
 | .tup xs,.int j,Q=>(xs≠[]/\1<=j/\j<2^63/\xs.length*j.toNat<=sizeLine)/\Q (.val (.tup (List.replicate j.toNat xs).flatten))
 | _,_,_=>False
theorem xj:fI E2 qj:=by
 intro Y F H ah σ v u x y Qd Q R rx ry q g;unfold qj at q
 split at q
 ·rename_i xs j
  obtain⟨⟨h1,h2,h3,h4⟩,q⟩:=q;have Yo:=rx;obtain⟨a,vs,rfl,hv,r1⟩:=rx.tup R.fr;obtain rfl:=ry.int;refine⟨a,j,vs,rfl,rfl,hv,λe=>?_,h2,h3,by rw[r1.length];exact h4,λe=>?_,λ_=>g.tup R (r1.rep _) q⟩
  ·subst e;cases r1;exact h1 rfl
  ·subst e
   refine g.val R Yo ?_;have e:(List.replicate (1:Int).toNat xs).flatten=xs:=by simp
   rw[e]at q;exact q
 ·exact q.elim
theorem Fb{a b:Expr}{ta tb:TV}{pos:Pos}(ha:EO G k S a ta)(hb:EO G k S b tb):EX G k S (.BinOp a .Mult b pos) (bP qj ta tb):=oi (r:=λ_=>E2) (λ_=>HM) (λ_=>xj) ha hb
end Vc
set_option maxHeartbeats 0
namespace Vc
open PySem PySem.W
@[elab_as_elim] theorem abx{α:Type} {P:List α->Prop} (h:∀a,P [a]):∀us:List α,us.length=1->P us
 | [a],_=>h a
@[elab_as_elim] theorem aby{α:Type} {P:List α->Prop} (h:∀a b,P [a,b]):∀us:List α,us.length=2->P us
 | [a,b],_=>h a b
@[elab_as_elim] theorem abz{α:Type} {P:List α->Prop} (h:∀a b c,P [a,b,c]):∀us:List α,us.length=3->P us
 | [a,b,c],_=>h a b c
@[elab_as_elim] theorem abA{α:Type} {P:List α->Prop} (h:∀a b c d,P [a,b,c,d]):∀us:List α,us.length=4->P us
 | [a,b,c,d],_=>h a b c d
@[elab_as_elim] theorem abB{α:Type} {P:List α->Prop} (h:∀a b c d e,P [a,b,c,d,e]):∀us:List α,us.length=5->P us
 | [a,b,c,d,e],_=>h a b c d e
theorem Tf{q:Program}{loose:List Str}{XP:(Str->Option Value)->Heap->Prop}{K:Params->Frag}{as:List Addr}{n t:Nat}{r:RowW}{d:DefRec}{kwd:List (Str×Expr)}{run:Value->List Value->Sem Value}
  (e:∀P,as=(K P).map (·.1)) (h:WalkO q loose XP (λw h=>(K w.params).In h) r d kwd run):WalkX q loose XP (X.obsZ as) (X.valZ K n t) r d kwd run:=
 λw c5 bJ mg mb G y a o pm cd doc dV kV ho hd jk hD hmg hg args vals as' L Al Wm ZM WB hlo =>
  h w c5 bJ mg mb G (InK.keeps w _ _ (X.z_facts e y).2.1 L.keeps) a o pm cd doc dV kV ho hd jk hD hmg hg args vals as' Al Wm ZM WB hlo
end Vc
namespace Vc
open PySem L2
variable [KF]
variable {G:GE}{k:Nat}{S:Stat}
theorem QD{X:Cx}{a b:Expr}{pos:Pos}{ta tb:TE}(ha:PE X a ta)(hb:PE X b tb):PE X (.BoolOp .Or [a,b] pos) (λσ H Q=>ta σ H λx H1=>∃c,KR X.K x H1 c/\if c=true then Q x H1 else tb σ H1 Q):=by
 intro pins s σ H Q I h;refine PyProof.Rows.BoolOp_or (cm (ha pins s σ H _ I h) λv s1 ⟨x,H1,I1,r1,q1⟩=>?_);obtain⟨c,hc,q1⟩:=q1;refine cm (Ge (X:=X) pins s1 σ H1 x v (λd H2=>d=c/\H2=H1) I1 r1 ⟨c,hc,rfl,rfl⟩) λd s2 ⟨H2,I2,e1,e2⟩=>?_;subst e1 e2;cases d with
 | false=>exact Ey hb pins s2 σ H2 Q I2 q1
 | true=>exact⟨x,H2,I2,r1,q1⟩
def xV(ta tb:TV):TV:=λσ Q=>ta σ λx av=>match cS av x with
 | some d=>Gd d λc=>if c=true then Q x av else tb av Q
 | none=>False
theorem zj{a b:Expr}{pos:Pos}{ta tb:TV}(ha:EO G k S a ta)(hb:EO G k S b tb):EO G k S (.BoolOp .Or [a,b] pos) (xV ta tb):=.mk λX Y ok=>by
 refine aM (QD (ha X Y ok) (hb X Y ok)) λσ H Q q=>?_;obtain⟨F,ah,Qd,R,q,K⟩:=q;refine⟨F,ah,_,R,q,λv1 H1 F1 x av s1 R1 r1 q1=>?_⟩
 split at q1
 ·rename_i d ed
  have r:=R1.cS r1 ed;have fin:∀c,(if c=true then Qd x av else tb av Qd)->(if c=true then Q v1 H1 else lO Y tb σ H1 Q):=λc z=>by
   cases c with
   | true=>exact K v1 H1 F1 x av s1 R1 r1 z
   | false=>exact⟨F1,av,Qd,R1,z,λv H' F' y ax s R' rr qq=>K v H' F' y ax (s1.trans s) R' rr qq⟩
  unfold Gd at q1
  split at q1
  ·obtain rfl:=r.aW;exact⟨false,rfl,fin _ q1⟩
  ·rename_i b;obtain rfl:=r.bl;exact⟨b,rfl,fin _ q1⟩
  ·rename_i i;obtain rfl:=r.int;exact⟨_,rfl,fin _ q1⟩
  ·rename_i xs;obtain⟨a,vs,rfl,h1,h2⟩:=r.lst
   exact⟨!xs.isEmpty,.inl ⟨vs,.inl h1,d0 h2⟩,fin _ q1⟩
  ·rename_i xs;obtain⟨a,vs,rfl,h1,h2⟩:=r.tup R1.fr
   exact⟨!xs.isEmpty,.inr (.inl ⟨vs,.inl (.inl h1),d0 h2⟩),fin _ q1⟩
  ·exact q1.elim
 ·exact q1.elim
end Vc
namespace Vc
open PySem L2
variable [KF]
variable {G:GE}{k:Nat}{S:Stat}
theorem RS.jW{Y:aV}{F:Hp}{ah:Sd}{σ:St}{H:Hp}{i:Nat}{o o':O}{a c:Addr}{u:HO}(R:RS Y F ah σ H)(e:ah[i]?=some (some (.obj o)))(h:σ[i]?=some (some (.ref a)))(hc:c∈o.fp a)(DQ:∀b,b∈o'.fp a->b∈o.fp a)
  (hr:o'.rep F (upd H c u) a):RS Y F (ah.set i (some (.obj o'))) σ (upd H c u):=by
 obtain⟨a',w1,w2,w3⟩:=R.ob.obj i o e;rw[h]at w1;cases w1;have ow:∀b∈o.fp a,iV ah σ b:=λb hb=>⟨i,o,a,e,h,hb⟩;have hl:i<ah.length:=(List.getElem?_eq_some_iff.mp e).1;have up:∀ {b:Addr},H b≠none->(upd H c u) b≠none:=λ{b} hb=>by
  by_cases z:b=c
  ·rw[z,au];exactλy=>nomatch y
  ·rw[ai z];exact hb
 refine⟨by simpa using R.len,R.lo,λb q z=>?_,R.dA,λb q z n=>?_,λj d z=>?_,λj xs z=>?_,λj l xs ys b z1 z2 z3 z4=>?_,λp hp=>?_,⟨λj p z=>?_,λj l p p2 b d z1 z2 z3 z4 cC x hx yJ=>?_,λj ys b z1 z2 ⟨l,p,d,z3,z4,hm⟩=>?_,λb hb=>up (R.ob.there b hb),R.ob.Ja,R.ob.tab⟩⟩
 ·have:b≠c:=λy=>by rw[y,(w3 c hc).1]at z;cases z
  rw[ai this];exact R.fr b q z
 ·have:b≠c:=λy=>by
   subst y;rcases(w3 b hc).2.2 with y|y
   ·rw[y]at z;cases z
   ·exact n (List.mem_append_right _ y)
  rw[ai this];exact R.old b q z n
 ·rcases gs z with⟨_,y⟩|⟨_,z⟩
  ·cases y
  ·exact R.sh j d z
 ·rcases gs z with⟨_,y⟩|⟨_,z⟩
  ·cases y
  ·obtain⟨b,vs,y1,y2,y3⟩:=R.own j xs z
   have:b≠c:=λy=>R.ob.gy j xs b z y1 (y ▸ ow c hc);exact⟨b,vs,y1,by rw[ai this];exact y2,y3⟩
 ·rcases gs z1 with⟨_,y⟩|⟨_,z1⟩
  ·cases y
  rcases gs z2 with⟨_,y⟩|⟨_,z2⟩
  ·cases y
  exact R.dis j l xs ys b z1 z2 z3 z4
 ·obtain⟨y1,xs,y2⟩:=R.io p hp
  have:p.1≠i:=λy=>by rw[y,e]at y2;cases y2
  exact⟨y1,xs,by rw[bo this];exact y2⟩
 ·rcases gs z with⟨rfl,y⟩|⟨hj,z⟩
  ·cases y
   exact⟨a,h,hr,λb hb=>⟨(w3 b (DQ b hb)).1,up (w3 b (DQ b hb)).2.1,(w3 b (DQ b hb)).2.2⟩⟩
  ·obtain⟨b,y1,y2,y3⟩:=R.ob.obj j p z
   refine⟨b,y1,p.mono (aj.refl _) (λd hd=>?_) y2,λd hd=>⟨(y3 d hd).1,up (y3 d hd).2.1,(y3 d hd).2.2⟩⟩;exact ai λy=>R.ob.ng i j o p a b e z h y1 (Ne.symm hj) c hc (y ▸ hd)
 ·rcases gs z1 with⟨e1,y⟩|⟨hj,y1⟩
  ·cases y
   subst e1;rw[h]at z3;cases z3;rcases gs z2 with⟨e2,_⟩|⟨tT,y2⟩
   ·exact cC e2.symm
   ·exact R.ob.ng j l o p2 a d e y2 h z4 cC x (DQ x hx) yJ
  ·rcases gs z2 with⟨e2,y⟩|⟨tT,y2⟩
   ·cases y
    subst e2;rw[h]at z4;cases z4;exact R.ob.ng j l p o b a y1 e z3 h cC x hx (DQ x yJ)
   ·exact R.ob.ng j l p p2 b d y1 y2 z3 z4 cC x hx yJ
 ·rcases gs z1 with⟨_,y⟩|⟨_,y1⟩
  ·cases y
  rcases gs z3 with⟨e3,y⟩|⟨_,y3⟩
  ·cases y
   subst e3;rw[h]at z4;cases z4;exact R.ob.gy j ys b y1 z2 (ow b (DQ b hm))
  ·exact R.ob.gy j ys b y1 z2 ⟨l,p,d,y3,z4,hm⟩
def Kq(i:Nat):TV:=λσ Q=>(∃o,σ[i]?=some (some (.obj o)))/\Q (.var i) σ
theorem vK(i:Nat){x:Str}{pos:Pos}(hN:S.N[i]?=some x:=by rfl)(hv:S.sc.lookup x=some .local\/S.sc.lookup x=some .cell\/S.sc.lookup x=some .free:=by first|exact Or.inl rfl|exact Or.inr (Or.inl rfl)|exact Or.inr (Or.inr rfl))
  (hd:(x==("__debug__":Str))=false:=by decide) (jk:(x==("__classdict__":Str))=false:=by decide):EO G k S (.Name x pos) (Kq i):=.mk λX Y ok =>
 aM (eZ (X:=X) (i:=i) (by rw[ok.N];exact hN) (by unfold A6;rw[ok.sc];exact hv) hd jk) λσ H Q q=>by
  obtain⟨F,ah,Qd,R,⟨⟨o,e⟩,q⟩,K⟩:=q;obtain⟨a,w1,_⟩:=R.ob.obj i o e;exact⟨.ref a,w1,K _ H F (.var i) ah (aj.refl _) R w1 q⟩
def E1(neg:Bool):R2:=λy x H Q=>∃a o,x=.ref a/\zJ H a y o/\Q (.bl (if neg then !o.isSome else o.isSome)) H
theorem AF{X:Cx}(hu:X.A.units+1<cLine):iO X (compareOp .NotIn) (E1 true):=by
 intro pins s σ H x y v u Q I rx ry h;obtain⟨a,o,rfl,g,q⟩:=h;cases ry;exact G3 hu I g rx λs' I'=>⟨.bl (!o.isSome),H,I',rfl,q⟩
end Vc
namespace Vc
open PySem PyProof.Rows
section
variable {prog:Program}{w:World}{A:Around}{R:Result->Shared->Prop}
def Kp(h g:Heap):Prop:=∀b o,h.get? b=some o->g.get? b=some o
end
end Vc
namespace Vc
open PySem PySem.W L2
section
variable {P:Addr}{K:Frag}(hP:K.lookup P=some (tabObj #[]))
include hP
end
end Vc
namespace Vc
open PySem L2
variable [KF]
section
variable {X:Cx}
def vwO(p a:Addr):HO:=.ext λh=>h.IsValuesView p a
def Yi:V->List V->Hp->VK->Prop:=λx vs H Q=>∃a kvs,x=.ref a/\vs=[]/\Rd H a (.dK kvs)/\∀p,H p=none->Q (.ref p) (upd H p (vwO p a))
theorem Hw:Ul X "dict.values" Yi:=by
 intro pins s σ H x vs v us Q I rx rv h;obtain⟨a,kvs,rfl,rfl,e,q⟩:=h;cases rx;cases rv;obtain⟨hz,hd,ws,rel,dd⟩:=iX I.bL e;refine call_meetsIn F.slot_dict_values dd.typeIs F.entry_dict_values (F.args_dict_values_1 _) (meets_dict_values (bM X.prog X.w) a hd) ⟨⟨ws,dd⟩,?_⟩;have hg:=Heap.get?_push_size s.heap (o:={cls:=.type "dict_values",data:=.fields #[.ref a]}) rfl;refine⟨.ref s.heap.objs.size,_,I.laid (t':=s.toks) (λb o e=>Heap.get?_push_of_some _ e) (Nat.le_refl _) (show bQ X.prog X.w _ _ _ (vwO _ a)from⟨⟨_,hg,rfl,rfl⟩,⟨_,hg⟩,λh1 h2 ⟨o,ho,x⟩ k=>⟨o,k o ho,x⟩⟩),rfl,q _ I.fresh⟩
def Rl:List V->Hp->VK->Prop:=λxs H Q=>∃p a kvs,xs=[.ref p]/\H p=some (vwO p a)/\Rd H a (.dK kvs)/\∀l,H l=none->Q (.ref l) (upd H l (.lst (kvs.map (·.2))))
theorem wO(hc:X.calm=true):cV X (.type "list") Rl:=by
 intro pins s σ H xs us Q I r h;obtain⟨p,a,kvs,rfl,hp,e,q⟩:=h;obtain⟨u,rfl,ru⟩:=vals1 r;cases ru;obtain⟨hz,hd,ws,rel,dd⟩:=iX I.bL e;obtain⟨ep,da⟩:=dd.dictAt;obtain⟨hv,_⟩:=I.bL p _ hp;have hv:s.heap.IsValuesView p a:=hv;refine PySem.W.kdl_call (PySem.W.kdl_values (knd:=bM X.prog X.w) (r:=p) (d:=a) (kvs:=ws) (ep:=ep)) (I.ok.hd hc) ⟨hv,da⟩ (by rw[<- rel.length];exact hz) λh' tk acc c kp hl items=>?_
 have ea:acc.toList=ws.map (·.2):=PySem.W.kdl_vals_eq acc.toList (by rw[Array.length_toList];exact items.1) λj v hj=>items.2 j v (by simpa using hj)
 have rv:Vals (kvs.map (·.2)) acc.toList:=by
  rw[ea];clear ea items e da dd hz q
  induction rel with
  | nil=>exact .nil
  | cons hx _ ih=>exact .cons hx.2 ih
 refine⟨.ref _,_,I.laid (t':=tk) kp (Nat.le_refl _) (show bQ X.prog X.w _ h' _ (.lst (kvs.map (·.2)))from⟨by rw[List.length_map];exact hz,acc.toList,c,rv,by simpa using hl⟩),rfl,q _ I.fresh⟩
end
theorem RS.O2{Y:aV}{F:Hp}{ah:Sd}{σ:St}{H H':Hp}{i:Nat}{o o':O}{a:Addr}(R:RS Y F ah σ H)(e:ah[i]?=some (some (.obj o)))(h:σ[i]?=some (some (.ref a)))
  (keep:∀b,b∉o.fp a->H b≠none->H' b=H b) (live:∀b,H b≠none->H' b≠none) (DQ:∀b∈o'.fp a,b∈o.fp a\/H b=none) (hn:∀b∈o'.fp a,H' b≠none)
  (hr:o'.rep F H' a):RS Y F (ah.set i (some (.obj o'))) σ H':=by
 obtain⟨a',w1,w2,w3⟩:=R.ob.obj i o e;rw[h]at w1;cases w1;have ow:∀b∈o.fp a,iV ah σ b:=λb hb=>⟨i,o,a,e,h,hb⟩;have hl:i<ah.length:=(List.getElem?_eq_some_iff.mp e).1;refine⟨by simpa using R.len,R.lo,λb q z=>?_,R.dA,λb q z n=>?_,λj d z=>?_,λj xs z=>?_,λj l xs ys b z1 z2 z3 z4=>?_,λp hp=>?_,⟨λj p z=>?_,λj l p p2 b d z1 z2 z3 z4 cC x hx yJ=>?_,λj ys b z1 z2 ⟨l,p,d,z3,z4,hm⟩=>?_,λb hb=>live b (R.ob.there b hb),R.ob.Ja,R.ob.tab⟩⟩
 ·have hb:b∉o.fp a:=λy=>by rw[(w3 b y).1]at z;cases z
  have:=R.fr b q z;rw[keep b hb (by rw[this];exactλy=>nomatch y)];exact this
 ·have hb:b∉o.fp a:=λy=>by
   rcases(w3 b y).2.2 with y|y
   ·rw[y]at z;cases z
   ·exact n (List.mem_append_right _ y)
  have:=R.old b q z n;rw[keep b hb (by rw[this];exactλy=>nomatch y)];exact this
 ·rcases gs z with⟨_,y⟩|⟨_,z⟩
  ·cases y
  ·exact R.sh j d z
 ·rcases gs z with⟨_,y⟩|⟨_,z⟩
  ·cases y
  ·obtain⟨b,vs,y1,y2,y3⟩:=R.own j xs z
   have hb:b∉o.fp a:=λy=>R.ob.gy j xs b z y1 (ow b y);exact⟨b,vs,y1,by rw[keep b hb (by rw[y2];exactλy=>nomatch y)];exact y2,y3⟩
 ·rcases gs z1 with⟨_,y⟩|⟨_,z1⟩
  ·cases y
  rcases gs z2 with⟨_,y⟩|⟨_,z2⟩
  ·cases y
  exact R.dis j l xs ys b z1 z2 z3 z4
 ·obtain⟨y1,xs,y2⟩:=R.io p hp
  have:p.1≠i:=λy=>by rw[y,e]at y2;cases y2
  exact⟨y1,xs,by rw[bo this];exact y2⟩
 ·rcases gs z with⟨rfl,y⟩|⟨hj,z⟩
  ·cases y
   refine⟨a,h,hr,λb hb=>?_⟩;rcases DQ b hb with y|y
   ·exact⟨(w3 b y).1,hn b hb,(w3 b y).2.2⟩
   ·exact⟨same_none R.fr y,hn b hb,.inl (R.bw y).1⟩
  ·obtain⟨b,y1,y2,y3⟩:=R.ob.obj j p z
   have kp:∀d∈p.fp b,H' d=H d:=λd hd=>keep d (λy=>R.ob.ng i j o p a b e z h y1 (Ne.symm hj) d y hd) (y3 d hd).2.1;exact⟨b,y1,p.mono (aj.refl _) kp y2,λd hd=>⟨(y3 d hd).1,live d (y3 d hd).2.1,(y3 d hd).2.2⟩⟩
 ·rcases gs z1 with⟨e1,y⟩|⟨hj,y1⟩
  ·cases y
   subst e1;rw[h]at z3;cases z3;rcases gs z2 with⟨e2,_⟩|⟨tT,y2⟩
   ·exact cC e2.symm
   ·rcases DQ x hx with y|y
    ·exact R.ob.ng j l o p2 a d e y2 h z4 cC x y yJ
    ·exact(R.ob.owned ⟨l,p2,d,y2,z4,yJ⟩).2.1 y
  ·rcases gs z2 with⟨e2,y⟩|⟨tT,y2⟩
   ·cases y
    subst e2;rw[h]at z4;cases z4;rcases DQ x yJ with y|y
    ·exact R.ob.ng j l p o b a y1 e z3 h cC x hx y
    ·exact(R.ob.owned ⟨j,p,b,y1,z3,hx⟩).2.1 y
   ·exact R.ob.ng j l p p2 b d y1 y2 z3 z4 cC x hx yJ
 ·rcases gs z1 with⟨_,y⟩|⟨_,y1⟩
  ·cases y
  rcases gs z3 with⟨e3,y⟩|⟨_,y3⟩
  ·cases y
   subst e3;rw[h]at z4;cases z4;rcases DQ b hm with y|y
   ·exact R.ob.gy j ys b y1 z2 (ow b y)
   ·obtain⟨c,vs,u1,u2,_⟩:=R.own j ys y1
    rw[z2]at u1;cases u1;rw[y]at u2;cases u2
  ·exact R.ob.gy j ys b y1 z2 ⟨l,p,d,y3,z4,hm⟩
end Vc
set_option maxHeartbeats 400000
set_option maxHeartbeats 400000
namespace Vc
open PySem L2
section
variable {prog:Program}{w:World}{A:Around}{E:Value->Shared->Prop}{s:Shared}{d it:Addr}{en:Array DictEntry}{c i:Nat}
def Bc(h:Heap)(d:Addr)(en:Array DictEntry)(c:Nat):Prop:=∃ob,h.get? d=some ob/\ob.ExactDict/\ob.data=.dict en c
theorem Bc.ty(h:Bc s.heap d en c):s.TypeIs (.ref d) "dict":=let ⟨ob,e,x,_⟩:=h;⟨ob,e,x.1⟩
theorem yn{Q:Value->Shared->Prop}(lo:(d==sysModules)=false)(m:Bc s.heap d en c)
  (q:Q (.ref s.heap.objs.size) {s with heap:=s.heap.push {cls:=.type "dict_keyiterator",data:=.fields #[.ref d,.int 0 0,.int en.size 0,.int c 0]}}):wpAny (model prog w) A (pyIter (.ref d)) Q E s:=by
 obtain⟨ob,e1,e2,e3⟩:=id m;refine wpAny_pyIter_slot m.ty F.slot_dict_iter (wpAny_call_entry F.slot_dict_iter m.ty F.entry_dict_iter ?_ (F.args_dict_iter_1 _));unfold Builtin.«dict.__iter__» Builtin.Dict.dictSlotNone;refine wpAny_bind (wpAny_bind (wpAny_notOrdered_dict m.ty ?_));show wpAny _ _ (pure (Value.ref d)) _ _ _;refine wpAny_pure ?_;show wpAny _ _ (Builtin.Dict.showsAll d >>= _) _ _ _;unfold Builtin.Dict.showsAll;rw[lo,if_neg Bool.false_ne_true];refine wpAny_bind (wpAny_pure (wpAny_bind (wpAny_dictEntries e1 e3 (wpAny_bind (wpAny_dictEpoch e1 e3 (wpAny_bind (wpAny_newObj_type (wpAny_pure ⟨_,rfl,"dict_keyiterator",_,⟨_,Heap.get?_push_size _ rfl,rfl⟩,F.slot_dict_keyiterator_next.lookup,?_⟩))))))));simpa [rawInt]using q
theorem yo{e:DictEntry}{Q:Option Value->Shared->Prop}(t:s.heap.IsKeyIter it d i en.size c)(m:Bc s.heap d en c)(x:en[i]?=some e)
  (q:∀h',h'.IsKeyIter it d (i+1) en.size c->Heap.SameBut it s.heap h'->Q (some e.key) {s with heap:=h'}):wpAny (model prog w) A (pyNext (.ref it)) Q E s:=by
 obtain⟨o1,t1,t2,t3⟩:=id t;obtain⟨ob,e1,e2,e3⟩:=id m;unfold pyNext;refine wpAny_bind (wpAny_attempt (wpAny_callSpecial?_slot (name:=Str.ofString "__next__") t.typeIs F.slot_dict_keyiterator_next (wpAny_call_entry F.slot_dict_keyiterator_next t.typeIs F.entry_dict_keyiterator_next ?_ (F.args_dict_keyiterator_next_1 _))));refine wpAny_bind (wpAny_pure (wpAny_bind (wpAny_bind ?_)))
 first|refine wpAny_bind (wpAny_typeNameOfWhole_keyiter t.typeIs (wpAny_pure ?_))|refine wpAny_bind (wpAny_typeNameOf_keyiter t.typeIs (wpAny_pure ?_))
 refine wpAny_bind (wpAny_fieldsOf t1 t3 ?_);rw[show Builtin.Dict_items.ownsTuple "dict_keyiterator"=false by decide,if_neg Bool.false_ne_true]
 show wpAny _ _ (if(Value.ref d==Value.none)=true then _ else _) _ _ s
 rw[if_neg (show¬((Value.ref d==Value.none)=true)from Bool.false_ne_true)]
 refine wpAny_bind (wpAny_pure (wpAny_bind (wpAny_dictEntries e1 e3 ?_)));rw[if_neg (by simp)]
 refine wpAny_bind (wpAny_pure (wpAny_bind (wpAny_dictEpoch e1 e3 ?_)));rw[if_neg (by simp)]
 refine wpAny_pure ?_;simp only[show¬((i:Int)<0)from by omega,if_false,Int.toNat_natCast,x]
 refine wpAny_bind ?_
 first|refine wpAny_bind (wpAny_typeNameOfWhole_keyiter t.typeIs (wpAny_pure ?_))|refine wpAny_bind (wpAny_typeNameOf_keyiter t.typeIs (wpAny_pure ?_))
 refine wpAny_bind (wpAny_isOneOf_keyiter t.typeIs ?_);show wpAny _ _ (setField (.ref it) 1 (rawInt ((i:Int)+1)) >>= _) _ _ s;refine wpAny_bind (wpAny_setField t1 t3 (by simp) ?_)
 have t':(s.heap.update it (Obj.mapFields (·.setIfInBounds 1 (rawInt ((i:Int)+1))))).IsKeyIter it d (i+1) en.size c:=
  ⟨_,Heap.get?_update_self _ t1 (Obj.isFreed_of_fields (Obj.data_mapFields t3 _)),(Obj.cls_mapFields ..).trans t2,by rw[Obj.data_mapFields t3];simp [rawInt]⟩
 refine wpAny_bind (wpAny_holding (wpAny_bind (wpAny_isOneOf_keyiter (s:={s with heap:=s.heap.update it (Obj.mapFields (·.setIfInBounds 1 (rawInt ((i:Int)+1))))}) t'.typeIs ?_)))
 show wpAny _ _ (pure e.key) _ _ _;exact wpAny_pure (wpAny_pure ⟨_,rfl,wpAny_pure (q _ t' (Heap.SameBut.update ..))⟩)
theorem C3{Q:Option Value->Shared->Prop}(hh:A.handled=none)(t:s.heap.IsKeyIter it d i en.size c)(m:Bc s.heap d en c)(x:en.size<=i)
  (q:∀h',Heap.ExtBut it s.heap h'->Q none {s with heap:=h'}):wpAny (model prog w) A (pyNext (.ref it)) Q E s:=by
 obtain⟨o1,t1,t2,t3⟩:=id t;obtain⟨ob,e1,e2,e3⟩:=id m;unfold pyNext;refine wpAny_bind (wpAny_attempt (wpAny_callSpecial?_slot (name:=Str.ofString "__next__") t.typeIs F.slot_dict_keyiterator_next (wpAny_call_entry F.slot_dict_keyiterator_next t.typeIs F.entry_dict_keyiterator_next ?_ (F.args_dict_keyiterator_next_1 _))));refine wpAny_bind (wpAny_pure (wpAny_bind (wpAny_bind ?_)))
 first|refine wpAny_bind (wpAny_typeNameOfWhole_keyiter t.typeIs (wpAny_pure ?_))|refine wpAny_bind (wpAny_typeNameOf_keyiter t.typeIs (wpAny_pure ?_))
 refine wpAny_bind (wpAny_fieldsOf t1 t3 ?_);rw[show Builtin.Dict_items.ownsTuple "dict_keyiterator"=false by decide,if_neg Bool.false_ne_true]
 show wpAny _ _ (if(Value.ref d==Value.none)=true then _ else _) _ _ s
 rw[if_neg (show¬((Value.ref d==Value.none)=true)from Bool.false_ne_true)]
 refine wpAny_bind (wpAny_pure (wpAny_bind (wpAny_dictEntries e1 e3 ?_)));rw[if_neg (by simp)]
 refine wpAny_bind (wpAny_pure (wpAny_bind (wpAny_dictEpoch e1 e3 ?_)));rw[if_neg (by simp)]
 refine wpAny_pure ?_;simp only[show¬((i:Int)<0)from by omega,if_false,Int.toNat_natCast,Array.getElem?_eq_none x]
 refine wpAny_bind ?_
 first|refine wpAny_bind (wpAny_typeNameOfWhole_keyiter t.typeIs (wpAny_pure ?_))|refine wpAny_bind (wpAny_typeNameOf_keyiter t.typeIs (wpAny_pure ?_))
 show wpAny _ _ (setField (.ref it) 0 .none >>= _) _ _ s;refine wpAny_bind (wpAny_setField t1 t3 (by simp) ?_)
 show wpAny _ _ (newExc (.type "StopIteration") [] >>= _) _ _ _;refine wpAny_bind ?_;simp only[newExc,newTuple];refine wpAny_bind (wpAny_newObj_type ?_ (by size_fits))
 refine wpAny_bind (m:=firstArgMember _ _) (wpAny_of_eq (a:=Value.none) (by first|rfl | (simp only[firstArgMember];rfl)) (wpAny_newObj_type ?_ (by size_fits)))
 simp only[raiseNew];refine wpAny_bind (wpAny_handled ?_);rw[show A.in1.handled=none from hh]
 refine wpAny_bind (wpAny_pure (wpAny_throw ?_));refine wpAny_bind (wpAny_isInstance (T:="StopIteration") (b:=true) ⟨_,Heap.get?_push_size _ rfl,rfl⟩ isSubtype_stop ?_);exact wpAny_pure (q _ (((Heap.SameBut.update ..).extBut.push _).push _))
theorem Bc.at{h h':Heap}(x:Bc h d en c)(e:∀o,h.get? d=some o->h'.get? d=some o):Bc h' d en c:=let ⟨o,a,r⟩:=x;⟨o,e _ a,r⟩
theorem C4(hh:A.handled=none)(I d:Addr)(ne:d≠I)(en:Array DictEntry)(c:Nat):
  Walks prog w A I [I,d] [I] en.size (λi v=>∃e,en[i]?=some e/\v=e.key) (λi h=>h.IsKeyIter I d i en.size c/\Bc h d en c) where
 sub:=λb hb=>List.mem_cons.mpr (.inl (List.mem_singleton.mp hb))
 frame:=λ_ _ _ st kp=>⟨st.1.at λo e=>kp I (.head _) o e,st.2.at λo e=>kp d (.tail _ (.head _)) o e⟩
 item:=λi s Q E hi st q=>by
  have x:en[i]?=some en[i]:=Array.getElem?_eq_getElem hi;refine yo st.1 st.2 x λh' t' sb=>q _ h' s.toks ⟨_,x,rfl⟩ ⟨t',st.2.at λo e=>(sb.2 d ne).trans e⟩ λb o hb e=>(sb.2 b λy=>hb (List.mem_singleton.mpr y)).trans e
 done:=λs Q E st q=>C3 hh st.1 st.2 (Nat.le_refl _) λh' ex=>q h' s.toks λb o hb e=>ex b o (λy=>hb (List.mem_singleton.mpr y)) e
 self:=λ_ _ _ _ st q=>wpAny_pyIter_keyiter st.1 q
theorem Mj(lo:(d==sysModules)=false):PySem.W.KdlSrc prog w "dict" d d en.size (λi v=>∃e,en[i]?=some e/\v=e.key) (λh=>Bc h d en c) where
 type:=λ_ m=>m.ty
 there:=λ_ m=>let ⟨_,e,_⟩:=m;⟨Heap.lt_size e,Heap.lt_size e⟩
 keep:=λ_ _ m kp=>m.at λo e=>kp d (.inl rfl) o e
 notList:=by decide
 notTuple:=by decide
 hint:=λ_ _ _ _ m q=>PySem.W.kdl_hint_dict m.ty q
 iter:=λ_ s hh m=>⟨_,_,(λ_ _ q=>yn lo m q),C4 hh _ d (let ⟨_,e,_⟩:=m;Nat.ne_of_lt (Heap.lt_size e)) en c,⟨⟨_,Heap.get?_push_size _ rfl,rfl,rfl⟩,m.at λo e=>Heap.get?_push_of_some _ e⟩⟩
end
end Vc
namespace Vc
open PySem L2
variable [KF]
variable {G:GE}{k:Nat}{S:Stat}
theorem c7.to{X:Cx}{Y Y':aV}(ok:c7 X G k S Y)(wu:S.ex=λ_ _=>False)(bX:Y'.io=Y.io)(Ak:Y'.ob=Y.ob):c7 X G k S Y':=
 ⟨ok.P,ok.w,ok.K,ok.kf,ok.mg,ok.base,ok.N,ok.sc,ok.nd,λp hp=>ok.ios p (by rw[<- bX];exact hp),(λh1 h2=>Ak.trans (ok.obs h1 h2)),ok.calm,ok.kind,ok.fn,ok.hd,ok.dp,ok.un,ok.po,ok.nx,(λc ah h=>by rw[wu]at h;exact h.elim),λ_ c ah h=>by rw[wu]at h;exact h.elim⟩
end Vc
namespace Vc
open PySem L2
variable [KF]
variable {G:GE}{k:Nat}{S:Stat}
theorem ay.eraseIdx{F:Hp}{vs:List V}{xs:List D}(r:ay F vs xs)(n:Nat):ay F (vs.eraseIdx n) (xs.eraseIdx n):=by
 rw[List.eraseIdx_eq_take_drop_succ,List.eraseIdx_eq_take_drop_succ];exact(r.take _).append (r.drop _)
def Rc(i:Nat)(d:D)(σ:Sd)(Q:D->Sd->Prop):Prop:=match σ[i]?,d with
 | some (some (.own xs)),.int j=>0<=j/\j<xs.length/\j<2^62/\∀e,xs[j.toNat]?=some e->Q e (σ.set i (some (.own (xs.eraseIdx j.toNat))))
 | _,_=>False
def SX(to:TV)(te:TD):TX:=λσ Q=>to σ λx av=>match x with
 | .var i=>vf av i/\te av λd aH=>Rc i d aH λe c9=>Q (.val e) c9
 | _=>False
theorem Iz{o e:Expr}{to:TV}{te:TD}{apos cpos:Pos}(ho:EO G k S o to)(he:ED G k S e te)(hb:∀env,attributeBase o "pop" env (eval o env)=eval o env:=by intro _;rfl)
  (rB:∀env,((backTo cpos (starEach [e] env)).all (λx=>!x.1)&&(backToKw cpos (keywordEach [] env)).all (λx=>x.1.isSome)&&decide (([e]:List Expr).length+([]:List Keyword).length+(if([]:List Keyword).isEmpty then 0 else 1)<30))=true:=by intro _;rfl)
  (hline:(apos.endLine==cpos.line)=true:=by rfl) (hs:∀env,starEach [e] env=[(false,eval e env)]:=by intro _;rfl):EX G k S (.Call (.Attribute o "pop" apos) [e] [] cpos) (SX to te):=.mk λX Y ok=>by
 have ha:PA X [e] (mr (lD Y te) pC):=cu (he X Y ok) dJ (by rw[hs];rfl)
 refine aM (yW F.plainAttrs_list F.slot_list_pop F.type_list_pop Eg (ho X Y ok) ha (hb _) (rB _) hline (by rw[hs];rfl) (by rfl)) λσ H Q q=>?_
 obtain⟨F,ah,Qd,R,q,K⟩:=q;refine⟨F,ah,_,R,q,λv1 H1 F1 x av s1 R1 r1 q1=>?_⟩;cases x with
 | val d=>exact q1.elim
 | any=>exact q1.elim
 | var i =>
  obtain⟨⟨ys,e0⟩,q1⟩:=q1;have r1:σ[i]?=some (some v1):=r1;obtain⟨a,vs,w1,w2,w3,w4,w5⟩:=R1.own i ys e0;rw[r1]at w1;cases w1;refine⟨.inl ⟨rfl,vs,.of w2⟩,F1,av,_,R1,q1,λv2 H2 F2 d aH s2 R2 r2 q2=>?_⟩;unfold Rc at q2
  split at q2
  ·rename_i xs j e2
   obtain⟨b,us,z1,z2,z3,z4,z5⟩:=R2.own i xs e2;rw[r1]at z1;cases z1;obtain⟨h0,h1,h3,q2⟩:=q2;cases(show Rep F2 v2 (.int j)from r2)
   have lU:j.toNat<xs.length:=by omega
   obtain⟨y,hy,ry⟩:∃y,us[j.toNat]?=some y/\Rep F2 y xs[j.toNat]:=z3.get (List.getElem?_eq_getElem lU);have hul:us.length=xs.length:=z3.length;refine⟨a,us,j,j.toNat,y,rfl,rfl,z2,?_,?_,?_,hy,K y _ F2 (.val xs[j.toNat]) _ (s1.trans s2) (R2.write e2 r1 (z3.eraseIdx j.toNat)) ry (q2 _ (List.getElem?_eq_getElem lU))⟩
   ·omega
   ·omega
   ·refine(rL ?_).1
    unfold yN;rw[if_pos h0,if_pos ⋯]
  ·exact q2.elim
end Vc
namespace Vc
open PySem L2
variable [KF]
variable {G:GE}{k:Nat}{S:Stat}
def jb(S:Stat)(scope:Scope)(N':List Str)(m n:Nat):Stat:=⟨N',hJ scope.names S.sc,[m,n],true,false,false,λ_ _=>False⟩
theorem gR{X X':Cx}{Y:aV}{scope:Scope}{N':List Str}{caps:List (Option Nat)}{m n:Nat}(hh:S.gm=false)(ok:c7 X G k S Y)(b:dS S scope N' caps)(c:gI X X' scope N')(Y':aV)(bX:∀p∈Y'.io,p.1=m\/p.1=n):c7 X' G k (jb S scope N' m n) Y':=
 have z:=cy hh ok b c ⟨Y'.H0,Y'.F0,[],[]⟩ rfl
 ⟨z.P,z.w,z.K,z.kf,z.mg,z.base,z.N,z.sc,z.nd,λp hp=>by
  rcases bX p hp with h|h
  ·rw[h];exact List.mem_cons_self ..
  ·rw[h];exact List.mem_cons_of_mem _ (List.mem_cons_self ..),(λh=>nomatch h),z.calm,z.kind,(λh=>by cases h),z.hd,z.dp,z.un,z.po,(λh=>nomatch h),(λ_ _ h=>h.elim),λh=>nomatch h⟩
def fJ(g:fG)(tc:TB)(te:TD)(c6:Sd)(m n:Nat):List D->List D->List D->List D->(List D->List D->List D->Prop)->Prop
 | [],acc,xs,zs,Q=>Q acc xs zs
 | x::r,acc,xs,zs,Q=>g x ((c6.set m (some (.own xs))).set n (some (.own zs))) λav=>tc av λb aH=>if b=true then te aH λd c9=>gD c6 c9/\acc.length<sizeLine/\ownAt m c9 λys=>ownAt n c9 λws=>fJ g tc te c6 m n r (acc++[d]) ys ws Q
  else gD c6 aH/\ownAt m aH λys=>ownAt n aH λws=>fJ g tc te c6 m n r acc ys ws Q
def hZ(ios:List Nat)(caps:List (Option Nat))(j m j2 n:Nat)(ti:et)(g:fG)(tc:TB)(te:TD):TX:=λσ Q=>ti σ λitems av=>jE ios ((caps.set m none).set n none) av λaH=>ownAt j aH λxs=>ownAt j2 aH λzs=>fJ g tc te (bU ((caps.set m none).set n none) aH) m n items [] xs zs λds ys ws=>Q (.own ds) ((aH.set j (some (.own ys))).set j2 (some (.own ws)))
theorem B2{Y:aV}{F:Hp}{ah:Sd}{σ:St}{H:Hp}(R:RS Y F ah σ H)(caps de:List (Option Nat))(hl:de.length=caps.length)(hc:∀i:Nat,de[i]?=some none\/de[i]?=caps[i]?){F' H':Hp}(s1:aj F F')(s2:aj F' H'):RS ⟨H',F',[],[]⟩ F' (bU de ah) (cj caps σ) H':=by
 have R0:=jA R de s1 s2;refine⟨by unfold bU cj;rw[List.length_map,List.length_map,hl],R0.lo,R0.fr,R0.dA,R0.old,λi d e=>?_,λi xs e=>absurd e (aY _ _ _ _),λi j xs ys a e=>absurd e (aY _ _ _ _),λp hp=>(by cases hp),.none (a8 _ _) R0.ob.tab λb hb=>by cases hb⟩
 obtain⟨v,h1,h2⟩:=R0.sh i d e;refine⟨v,?_,h2⟩;rcases hc i with h|h
 ·unfold bU at e
  rw[List.getElem?_map,h]at e;cases e
 ·unfold cj at h1 ⊢
  rw[List.getElem?_map]at h1 ⊢;rw[<- h];exact h1
theorem RS.rE{Y:aV}{F:Hp}{c6 ah:Sd}{σ:St}{H:Hp}{m n:Nat}{a a2:Addr}{us us2:List V}{xs xs2:List D}(R:RS Y F ah σ H)(l:gD c6 ah)(lZ:∀(i:Nat) (xs:List D),c6[i]?≠some (some (.own xs)))(vA:∀(i:Nat) (o:O),c6[i]?≠some (some (.obj o)))(hm:m<c6.length)(hn:n<c6.length)(Hd:m≠n)(haa:a≠a2)
  (h:σ[m]?=some (some (.ref a))) (h2:σ[n]?=some (some (.ref a2))) (r:ay F us xs) (r2:ay F us2 xs2) (fa:F a=none) (fa2:F a2=none) {H':Hp} (s:aj F H') (ha:H' a=some (.lst us)) (DM:H' a2=some (.lst us2)):
  RS ⟨H',F,[(m,a),(n,a2)],[]⟩ F ((c6.set m (some (.own xs))).set n (some (.own xs2))) σ H' where
 len:=by rw[List.length_set,List.length_set];exact(iA l).trans R.len
 lo:=aj.refl _
 fr:=s
 dA:=λb o e=>.inl e
 old:=λb o e _=>e
 sh:=λi d e=>by
  rcases gs e with⟨_,z⟩|⟨_,e⟩
  ·cases z
  rcases gs e with⟨_,z⟩|⟨_,e⟩
  ·cases z
  ·exact R.sh i d (iy l e)
 own:=λi zs e=>by
  rcases gs e with⟨rfl,z⟩|⟨_,e⟩
  ·cases z
   exact⟨a2,us2,h2,DM,r2,fa2,.inr (by simp [aV.J8])⟩
  rcases gs e with⟨rfl,z⟩|⟨_,e⟩
  ·cases z
   exact⟨a,us,h,ha,r,fa,.inr (by simp [aV.J8])⟩
  ·exact absurd e (lZ i zs)
 dis:=λi j zs ys b e1 e2 e3 e4=>by
  have z:∀ {i:Nat} {zs:List D},((c6.set m (some (B.own xs))).set n (some (B.own xs2)))[i]?=some (some (.own zs))->i=m\/i=n:=λ{i zs} e=>by
   rcases gs e with⟨rfl,_⟩|⟨_,e⟩
   ·exact .inr rfl
   rcases gs e with⟨rfl,_⟩|⟨_,e⟩
   ·exact .inl rfl
   ·exact absurd e (lZ i zs)
  rcases z e1 with rfl|rfl<;>rcases z e2 with rfl|rfl
  ·rfl
  ·rw[h]at e3;rw[h2]at e4;cases e3;cases e4;exact absurd rfl haa
  ·rw[h2]at e3;rw[h]at e4;cases e3;cases e4;exact absurd rfl haa
  ·rfl
 io:=λp hp=>by
  rcases List.mem_cons.mp hp with rfl|hp
  ·exact⟨h,xs,by rw[bo Hd,eO hm]⟩
  ·rw[List.mem_singleton.mp hp]
   exact⟨h2,xs2,by rw[eO (by rw[List.length_set];exact hn)]⟩
 ob:=.none (λi o e=>by
  rcases gs e with⟨_,z⟩|⟨_,e⟩
  ·cases z
  rcases gs e with⟨_,z⟩|⟨_,e⟩
  ·cases z
  ·exact vA i o e) R.ob.tab λb hb=>by cases hb
def OH(m n:Nat)(g:fG):TG:=λv σ H Q=>∃Y:aV,(∀p∈Y.io,p.1=m\/p.1=n)/\lG Y g v σ H Q
def OD(m n:Nat)(t:TB):TT:=λσ H Q=>∃Y:aV,(∀p∈Y.io,p.1=m\/p.1=n)/\lB Y t σ H Q
def OG(m n:Nat)(t:TD):TE:=λσ H Q=>∃Y:aV,(∀p∈Y.io,p.1=m\/p.1=n)/\lD Y t σ H Q
section
variable {elt target iter:Expr}{ifs:List Expr}{scope:Scope}{pos:Pos}{N':List Str}{caps:List (Option Nat)}{ti:et}{g:fG}{tc:TB}{te:TD}{j m j2 n:Nat}
theorem m9{X:Cx}{Y:aV}(hh:S.gm=false)(ok:c7 X G k S Y)(b:dS S scope N' caps)(hg:EG G k (jb S scope N' m n) target g)(ht:A4 G k (jb S scope N' m n) ifs tc)(he:ED G k (jb S scope N' m n) elt te):
  ∀X',gI X X' scope N'->PG X' target (OH m n g)/\BI X' ifs (OD m n tc)/\PE X' elt (OG m n te):=λX' c =>
 ⟨λpins s σ H v u Q I r ⟨Y',bX,q⟩=>hg X' Y' (gR hh ok b c Y' bX) pins s σ H v u Q I r q,λpins s σ H Q I ⟨Y',bX,q⟩=>ht X' Y' (gR hh ok b c Y' bX) pins s σ H Q I q,λpins s σ H Q I ⟨Y',bX,q⟩=>he X' Y' (gR hh ok b c Y' bX) pins s σ H Q I q⟩
theorem w8:∀ {a b:Sd},a.length=b.length->(∀(i:Nat) (x:B),a[i]?=some (some x)->b[i]?=some (some x))->gD a b
 | [],[],_,_=>trivial
 | [],_::_,h,_=>by cases h
 | _::_,[],h,_=>by cases h
 | none::a,c::b,h,g=>by
  show gD a b;exact w8 (by simpa using h) λi x e=>by have:=g (i+1) x (by simpa using e);simpa using this
 | some x::a,c::b,h,g=>by
  show c=some x/\gD a b;refine⟨?_,w8 (by simpa using h) λi x e=>by have:=g (i+1) x (by simpa using e);simpa using this⟩
  have:=g 0 x rfl;simpa using this
theorem D8{l:Sd}{m n:Nat}(h1:l[m]?=some none)(h2:l[n]?=some none)(b c:Option B):gD l ((l.set m b).set n c):=w8 (by simp) λi x e=>by
 have hm:i≠m:=λz=>by rw[z,h1]at e;cases e
 have hn:i≠n:=λz=>by rw[z,h2]at e;cases e
 rw[bo hn,bo hm];exact e
theorem ph{Y:aV}{ios:List Nat}(bX:∀p∈Y.io,p.1∈ios)(fK:caps[m]?=some (some j))(yF:caps[n]?=some (some j2))(Hd:m≠n)(TC:j≠j2){σ:St}{H:Hp}{Q:VK}(q:lX Y (hZ ios caps j m j2 n ti g tc te) σ H Q):f7 (lI Y ti) caps (OH m n g) (OD m n tc) (OG m n te) σ H Q:=by
 obtain⟨F,ah,Qd,R,q,K⟩:=q;refine⟨F,ah,_,R,q,λH1 F1 tQ J items s1 R1 it q1 acc cI=>?_⟩;obtain⟨F2,aO,s2,R2,q2⟩:=cH bX R1 q1;unfold ownAt at q2
 split at q2
 rotate_left
 ·exact q2.elim
 rename_i tV e0
 split at q2
 rotate_left
 ·exact q2.elim
 rename_i GI g0;have J9:=it.mono s2;have a0:Y.H0 acc=none:=(R2.bw cI).1;have aF:F2 acc=none:=same_none R2.fr cI;obtain⟨a,Jd,DL,DM,A7,V1,ha5⟩:=R2.own j tV e0;obtain⟨c,vs0,hc1,yE,hc3,hc4,hc5⟩:=R2.own j2 GI g0;have V2:a≠c:=λz=>TC (R2.dis j j2 tV GI a e0 g0 DL (z ▸ hc1));have zL:a≠acc:=λz=>by rw[z,cI]at DM;cases DM
 have yk:c≠acc:=λz=>by rw[z,cI]at yE;cases yE
 have hj:j<aO.length:=(List.getElem?_eq_some_iff.mp e0).1;have Wh:j2<aO.length:=(List.getElem?_eq_some_iff.mp g0).1;have st1:∀xs zs:List D,((aO.set j (some (B.own xs))).set j2 (some (B.own zs)))[j]?=some (some (.own xs)):=λxs zs=>by rw[bo TC,eO hj]
 have Z6:∀xs zs:List D,((aO.set j (some (B.own xs))).set j2 (some (B.own zs)))[j2]?=some (some (.own zs)):=λxs zs=>by rw[eO (by rw[List.length_set];exact Wh)]
 have aN:∀(xs zs:List D),cw ((aO.set j (some (.own xs))).set j2 (some (.own zs))) σ acc:=λxs zs=>((R2.b3 cI).vM (ys:=xs) e0).vM (xs:=GI) (by rw[bo (Ne.symm TC)];exact g0)
 have sw:∀ {F5 H5:Hp} {o:HO},aj F5 H5->F5 acc=none->aj F5 (upd H5 acc o):=λ{F5 H5 o} s5 h b u e=>by
  have:b≠acc:=λz=>by rw[z,h]at e;cases e
  rw[ai this];exact s5 b u e
 generalize G8:(caps.set m none).set n none=de at q2;have TF:m<caps.length:=(List.getElem?_eq_some_iff.mp fK).1;have hnl:n<caps.length:=(List.getElem?_eq_some_iff.mp yF).1;have hlen:de.length=caps.length:=by rw[<- G8,List.length_set,List.length_set]
 have V6:de[m]?=some none:=by rw[<- G8,List.getElem?_set_ne (Ne.symm Hd),List.getElem?_set_self TF]
 have V7:de[n]?=some none:=by rw[<- G8,List.getElem?_set_self (by rw[List.length_set];exact hnl)]
 have ZA:∀i:Nat,de[i]?=some none\/de[i]?=caps[i]?:=λi=>by
  by_cases hi:i=m
  ·rw[hi];exact .inl V6
  by_cases Tz:i=n
  ·rw[Tz];exact .inl V7
  rw[<- G8,List.getElem?_set_ne (Ne.symm Tz),List.getElem?_set_ne (Ne.symm hi)];exact .inr rfl
 have hm:m<(bU de aO).length:=by
  unfold bU;rw[List.length_map,hlen];exact TF
 have hn:n<(bU de aO).length:=by
  unfold bU;rw[List.length_map,hlen];exact hnl
 have hm0:(bU de aO)[m]?=some none:=by unfold bU;rw[List.getElem?_map,V6];rfl
 have hn0:(bU de aO)[n]?=some none:=by unfold bU;rw[List.getElem?_map,V7];rfl
 have Nz:(cj caps σ)[m]?=some (some (.ref a)):=by
  unfold cj;rw[List.getElem?_map,fK];show some ((σ[j]?).join)=_;rw[DL];rfl
 have hcn:(cj caps σ)[n]?=some (some (.ref c)):=by
  unfold cj;rw[List.getElem?_map,yF];show some ((σ[j2]?).join)=_;rw[hc1];rfl
 have Vd:(aO.set j (some (.own tV))).set j2 (some (.own GI))=aO:=by
  apply List.ext_getElem?;intro i
  by_cases Tz:i=j2
  ·subst Tz;rw[Z6,g0]
  by_cases hi:i=j
  ·subst hi;rw[st1,e0]
  ·rw[bo Tz,bo hi]
 refine⟨λi mm av H'=>∃Fi ds ys xs us zs vs,aj F2 Fi/\RS Y Fi ((aO.set j (some (.own xs))).set j2 (some (.own zs))) σ H'/\H' acc=some (.lst ys)/\ay Fi ys ds/\Fi acc=none/\(H' a=some (.lst us)/\ay Fi us xs/\Fi a=none/\av[m]?=some (some (.ref a)))/\(H' c=some (.lst vs)/\ay Fi vs zs/\Fi c=none/\av[n]?=some (some (.ref c)))/\RS ⟨H',Fi,[(m,a),(n,c)],[]⟩ Fi (((bU de aO).set m (some (.own xs))).set n (some (.own zs))) av H'/\fJ g tc te (bU de aO) m n (items.drop i) ds xs zs (λds ys ws=>Qd (.own ds) ((aO.set j (some (.own ys))).set j2 (some (.own ws))))/\mm=items.length-i/\i<=items.length,
  ⟨items.length,F2,[],[],tV,Jd,GI,vs0,aj.refl _,by rw[Vd];exact R2.other aF a0 (Vd ▸ aN tV GI),au,.nil,aF,⟨by rw[ai zL];exact DM,A7,V1,Nz⟩,⟨by rw[ai yk];exact yE,hc3,hc4,hcn⟩,?_,q2,rfl,Nat.zero_le _⟩,?_⟩
 ·exact(B2 R2 caps de hlen ZA (aj.refl _) (sw (o:=.lst []) R2.fr aF)).rE (dG _) (aY _ _) (a8 _ _) hm hn Hd V2 Nz hcn A7 hc3 V1 hc4 (sw R2.fr aF) (by rw[ai zL];exact DM) (by rw[ai yk];exact yE)
 rintro i mm av Hi ⟨Fi,ds,ys,xs,us,zs,vs,si,Ri,cf,ri,fi,⟨Tt,rui,fai,hmi⟩,⟨hci,rvi,fci,hni⟩,BL,qi,rfl,hi⟩;have nE:=J9 Fi Hi si Ri.fr i
 by_cases hl:i<items.length
 ·right
  have hd:items.drop i=items[i]::items.drop (i+1):=by rw[List.drop_eq_getElem_cons hl]
  rw[hd]at qi;obtain⟨go,yl⟩:=nE.1 items[i] (by rw[List.getElem?_eq_getElem hl])
  refine⟨go,λv H' y=>?_⟩;obtain⟨F3,gr,rep⟩:=yl v H' y;have sF:aj Fi F3:=gr.same Ri.fr;have R3:=gr.rs BL;have sH:aj Hi H':=by
   rcases gr with⟨_,rfl⟩|⟨p,o,hp,_,rfl⟩
   ·exact aj.refl _
   ·exact aD hp
  have yy:∀c o,F3 c=some o->Fi c=some o\/Nw Hi c o:=λc o e=>by
   rcases gr with⟨rfl,_⟩|⟨p,o',hp,rfl,_⟩
   ·exact .inl e
   ·by_cases hc:c=p
    ·subst hc;exact .inr (.inl hp)
    ·rw[ai hc]at e;exact .inl e
  have fx3:∀ {b:Addr} {ws:List V},Hi b=some (.lst ws)->Fi b=none->F3 b=none:=λ{b ws} hb fb=>by
   cases e:F3 b with
   | none=>rfl
   | some o =>
    rcases yy b o e with z|z
    ·rw[fb]at z;cases z
    ·rcases z with z|⟨ws,rfl⟩
     ·rw[hb]at z;cases z
     ·have y:=R3.fr b _ e;rw[sH b _ hb]at y;cases y
  have fa3:F3 a=none:=fx3 Tt fai;have fc3:F3 c=none:=fx3 hci fci;have GP:RS ⟨H',F3,[(m,a),(n,c)],[]⟩ F3 (((bU de aO).set m (some (.own xs))).set n (some (.own zs))) av H':=R3.rE (D8 hm0 hn0 _ _) (aY _ _) (a8 _ _) hm hn Hd V2 hmi hni (rui.mono sF) (rvi.mono sF) fa3 fc3 R3.fr (sH _ _ Tt) (sH _ _ hci)
  -- behind the turn
  have back:∀ {F5 H5:Hp} {fE:Sd} {A3:St} {qE Gp:List D},aj F3 F5->RS ⟨H',F3,[(m,a),(n,c)],[]⟩ F5 fE A3 H5->fE[m]?=some (some (.own qE))->fE[n]?=some (some (.own Gp))->RS Y F5 ((aO.set j (some (.own qE))).set j2 (some (.own Gp))) σ H5/\H5 acc=some (.lst ys)/\F5 acc=none/\aj Fi F5/\(∃ws,H5 a=some (.lst ws)/\ay F5 ws qE/\F5 a=none/\A3[m]?=some (some (.ref a)))/\∃ws,H5 c=some (.lst ws)/\ay F5 ws Gp/\F5 c=none/\A3[n]?=some (some (.ref c)):=λ{F5 H5 fE A3 qE Gp} s5 R5 ex ez=>by
   have i5:=(R5.io (m,a) (by simp)).1
   have k5:=(R5.io (n,c) (by simp)).1
   obtain⟨_,ws,w1,w2,w3,w4,_⟩:=R5.own m qE ex;rw[i5]at w1;cases w1;obtain⟨_,ts,t1,t2,t3,t4,_⟩:=R5.own n Gp ez;rw[k5]at t1;cases t1;have vS:∀b o,b≠a->b≠c->Hi b=some o->H5 b=some o:=λb o hb J4 e=>R5.old b o (sH b o e) (by simp [aV.rG];exact⟨hb,J4⟩)
   have Ad:∀b o,F5 b=some o->Fi b=some o\/Nw Hi b o:=λb o e=>by
    rcases R5.dA b o e with z|z
    ·exact yy b o z
    ·exact .inr (z.imp sH.free id)
   have sm:aj F5 (upd H5 c (.lst vs)):=λb o e=>by
    have:b≠c:=λz=>by rw[z,t4]at e;cases e
    rw[ai this];exact R5.fr b o e
   have Ro:=Ri.wL (i:=j) (xs:=xs) (ys:=qE) (H':=upd H5 c (.lst vs)) (st1 xs zs) DL (sF.trans s5) sm (λb o hb e=>by
    by_cases J4:b=c
    ·rw[J4,au,<- hci,<- J4];exact e
    ·rw[ai J4];exact vS b o hb J4 e) (by rw[ai V2];exact w2) w3 w4 Ad
   have es:((aO.set j (some (B.own xs))).set j2 (some (B.own zs))).set j (some (.own qE))=(aO.set j (some (B.own qE))).set j2 (some (B.own zs)):=by
    rw[List.set_comm _ _ (Ne.symm TC),fS]
   rw[es]at Ro;have Ro2:=Ro.write (i:=j2) (xs:=zs) (ys:=Gp) (us:=ts) (Z6 qE zs) hc1 t3;rw[fS]at Ro2;have eH:upd (upd H5 c (.lst vs)) c (.lst ts)=H5:=by
    funext b
    by_cases hb:b=c
    ·rw[hb,au,t2]
    ·rw[ai hb,ai hb]
   rw[eH]at Ro2;refine⟨Ro2,vS acc _ (Ne.symm zL) (Ne.symm yk) cf,?_,sF.trans s5,⟨ws,w2,w3,w4,i5⟩,ts,t2,t3,t4,k5⟩;cases e:F5 acc with
   | none=>rfl
   | some o =>
    rcases Ad acc o e with z|z
    ·rw[fi]at z;cases z
    ·rcases z with z|⟨ws,rfl⟩
     ·rw[cf]at z;cases z
     ·have y:=R5.fr acc _ e;rw[vS acc _ (Ne.symm zL) (Ne.symm yk) cf]at y;cases y
  have NS:∀p∈[(m,a),(n,c)],p.1=m\/p.1=n:=λp hp=>by
   rcases List.mem_cons.mp hp with rfl|hp
   ·exact .inl rfl
   ·rw[List.mem_singleton.mp hp];exact .inr rfl
  refine⟨⟨H',F3,[(m,a),(n,c)],[]⟩,NS,F3,_,items[i],_,GP,rep,qi,λkP H4 F4 cK s4 R4 q4=>?_⟩;refine⟨⟨H',F3,[(m,a),(n,c)],[]⟩,NS,F4,cK,_,R4,q4,λb H5 F5 fE s5 R5 q5=>?_⟩;cases b with
  | false =>
   obtain⟨le,q5⟩:=q5;unfold ownAt at q5
   split at q5
   rotate_left
   ·exact q5.elim
   rename_i qE ex
   split at q5
   rotate_left
   ·exact q5.elim
   rename_i Gp ez;obtain⟨w1,w2,w3,w4,⟨ws,v1,v2,v3,v4⟩,ts,t1,t2,t3,t4⟩:=back (s4.trans s5) R5 ex ez;exact⟨items.length-(i+1),by omega,F5,ds,ys,qE,ws,Gp,ts,si.trans w4,w1,w2,ri.mono w4,w3,⟨v1,v2,v3,v4⟩,⟨t1,t2,t3,t4⟩,R5.rE le (aY _ _) (a8 _ _) hm hn Hd V2 v4 t4 v2 t2 v3 t3 R5.fr v1 t1,q5,rfl,hl⟩
  | true =>
   refine⟨⟨H',F3,[(m,a),(n,c)],[]⟩,NS,F5,fE,_,R5,q5,λv6 H6 F6 d Gr s6 R6 r6 q6=>?_⟩;obtain⟨le,hz,q6⟩:=q6;unfold ownAt at q6
   split at q6
   rotate_left
   ·exact q6.elim
   rename_i qE ex
   split at q6
   rotate_left
   ·exact q6.elim
   rename_i Gp ez;obtain⟨w1,w2,w3,w4,⟨ws,v1,v2,v3,v4⟩,ts,t1,t2,t3,t4⟩:=back ((s4.trans s5).trans s6) R6 ex ez;exact⟨ys,items.length-(i+1),w2,by rw[ri.length];exact hz,by omega,F6,ds++[d],ys++[v6],qE,ws,Gp,ts,si.trans w4,w1.other w3 a0 (aN qE Gp),au,(ri.mono w4).append (.cons r6 .nil),w3,⟨by rw[ai zL];exact v1,v2,v3,v4⟩,⟨by rw[ai yk];exact t1,t2,t3,t4⟩,
    R6.rE le (aY _ _) (a8 _ _) hm hn Hd V2 v4 t4 v2 t2 v3 t3 (sw R6.fr w3) (by rw[ai zL];exact v1) (by rw[ai yk];exact t1),q6,rfl,hl⟩
 ·left
  have e:i=items.length:=by omega
  subst e;rw[List.drop_length]at qi;exact⟨nE.2 rfl,K _ Hi Fi (.own ds) _ ((s1.trans s2).trans si) Ri ⟨acc,ys,rfl,cf,ri,fi,a0,aN xs zs⟩ qi⟩
end
end Vc
namespace Vc
open PySem L2
section
variable {prog:Program}{w:World}{A:Around}{E:Value->Shared->Prop}{s:Shared}
open PySem.Spec in
theorem xJ{nm:String}{a b:Addr}{oa ob:Obj}{es:Array DictEntry}{ep Tr:Nat}{Q:Bool->Shared->Prop}(ha:(a==sysModules)=false)(hb:(b==sysModules)=false)
  (ZK:s.heap.get? a=some oa) (ZC:oa.data=.dict es ep) (Ak:s.heap.get? b=some ob) (mB:ob.data=.dict #[] Tr) (h:Q (decide (es.size=0)) s):
  wpAny (model prog w) A (Builtin.Dict.samePairs nm a b) Q E s:=by
 unfold Builtin.Dict.samePairs Builtin.Dict.showsAll;rw[if_neg (show¬(a==sysModules)=true by rw[ha];exact Bool.false_ne_true),if_neg (show¬(b==sysModules)=true by rw[hb];exact Bool.false_ne_true)]
 refine wpAny_bind (wpAny_pure (wpAny_bind (wpAny_pure ?_)));refine wpAny_bind (wpAny_dictEntries ZK ZC ?_);dsimp only;refine wpAny_bind (wpAny_dictEntries Ak mB ?_)
 by_cases hsz:es.size=0
 case neg =>
  rw[if_pos (by simpa using hsz)]
  rw[decide_eq_false hsz]at h;exact wpAny_bind (wpAny_rule (wpAny_pure h))
 case pos =>
  rw[if_neg (by simpa using hsz)]
  rw[decide_eq_true hsz]at h;refine wpAny_bind (wpAny_dictEpoch ZK ZC ?_);rw[Std.Legacy.Range.forIn_eq_forIn_range'];simp only[Std.Legacy.Range.size,Nat.sub_zero,Nat.add_sub_cancel,Nat.div_one,hsz,List.range'_zero,List.forIn_nil];exact wpAny_bind (wpAny_pure (wpAny_pure h))
theorem neE{K:Type}[DecidableEq K]{knd:PySem.KeyKind prog w K}{a b:Addr}{vs ws:List (K×Value)}{Q:Value->Shared->Prop}(hu:A.units<cLine)(ha:(a==sysModules)=false)(hb:(b==sysModules)=false)
  (da:s.heap.DictOf knd a vs) (db:s.heap.DictOf knd b ws) (hw:ws=[]) (h:Q (.bool (!decide (vs=[]))) s):
  wpAny (model prog w) A (compareOp .NotEq (.ref a) (.ref b)) Q E s:=by
 subst hw;refine wpAny_richCompare_same_room (op:=.NotEq) da.typeIs db.typeIs PySem.F.slot_dict_ne (wpAny_call_entry PySem.F.slot_dict_ne da.typeIs PySem.F.entry_dict_ne ?_ (PySem.F.args_dict_ne_2 _ _)) hu;show wpAny _ _ (Builtin.Dict.dictSlotArgs "__ne__" ⟨[.ref a,.ref b],[]⟩ >>= _) _ _ s;refine wpAny_bind ?_;unfold Builtin.Dict.dictSlotArgs;refine wpAny_bind (wpAny_notOrdered_dict da.typeIs ?_);show wpAny _ _ (pure (Value.ref a,Value.ref b)) _ _ s;refine wpAny_pure ?_;refine wpAny_bind (wpAny_isInstance (T:="dict") db.typeIs PySem.F.sub_dict_dict ?_);simp only[Bool.not_true,Bool.false_eq_true,if_false];refine wpAny_bind (wpAny_pure (wpAny_bind (wpAny_pure ?_)));obtain⟨oa,es,ep,ZK,_,ZC,_,hp,_⟩:=da;obtain⟨ob,VF,Tr,Ak,_,mB,_,GC,_⟩:=db;have e':VF=#[]:=by
  have:=GC.length;exact Array.eq_empty_of_size_eq_zero (by simpa using this)
 subst e';have el:es.size=vs.length:=by simpa using hp.length
 refine wpAny_bind (xJ ha hb ZK ZC Ak mB ?_);refine wpAny_pure ⟨_,rfl,?_,?_⟩
 ·exactλx=>nomatch x
 ·rw[show decide (es.size=0)=decide (vs=[])from by rw[el];cases vs<;>simp]
  simpa using h
end
variable [KF]
def cY(kvs:List (Int×D))(i:Int):Option D:=(kvs.find? λp=>decide (p.1=i)).map (·.2)
def jL(kvs:List (Int×D))(i:Int)(d:D):List (Int×D):=if(kvs.any λp=>decide (p.1=i))=true then kvs.map (λp=>if p.1=i then(p.1,d)else p)else kvs++[(i,d)]
def jI(kvs:List (Int×D))(i:Int):List (Int×D):=kvs.filter λp=>decide (p.1≠i)
theorem bu.length{F:Hp}:∀ {ks:List (Key×V)} {kvs:List (Int×D)},bu F ks kvs->ks.length=kvs.length
 | _,_,.nil=>rfl
 | _,_,.cons _ r=>by simp [bu.length r]
theorem wY(i j:Int):((Sum.inl i:Key)=Sum.inl j)=(i=j):=by simp
theorem bu.val{F:Hp}(j:Int):∀ {ks:List (Key×V)} {kvs:List (Int×D)},bu F ks kvs->(iR ks (.inl j)=none/\cY kvs j=none)\/∃v d,iR ks (.inl j)=some v/\cY kvs j=some d/\Rep F v d
 | _,_,.nil=>.inl ⟨rfl,rfl⟩
 | _,_,.cons (i:=i) (v:=v) (d:=d) (ks:=ks) (kvs:=kvs) h r=>by
  by_cases e:i=j
  ·subst e
   exact .inr ⟨v,d,kO rfl,by unfold cY;rw[List.find?_cons_of_pos (by simp)];rfl,h⟩
  ·have e1:iR ((Sum.inl i,v)::ks) (Sum.inl j)=iR ks (Sum.inl j):=kN (by show¬(Sum.inl i:Key)=Sum.inl j;rw[wY];exact e)
   have e2:cY ((i,d)::kvs) j=cY kvs j:=by unfold cY;rw[List.find?_cons_of_neg (by simpa using e)]
   rw[e1,e2];exact bu.val j r
theorem bu.append{F:Hp}:∀ {ks js:List (Key×V)} {kvs lvs:List (Int×D)},bu F ks kvs->bu F js lvs->bu F (ks++js) (kvs++lvs)
 | _,_,_,_,.nil,s=>s
 | _,_,_,_,.cons h r,s=>.cons h (bu.append r s)
theorem bu.any{F:Hp}(j:Int):∀ {ks:List (Key×V)} {kvs:List (Int×D)},bu F ks kvs->(ks.any λkv=>decide (kv.1=Sum.inl j))=(kvs.any λp=>decide (p.1=j))
 | _,_,.nil=>rfl
 | _,_,.cons (i:=i) _ r=>by
  rw[List.any_cons,List.any_cons,bu.any j r];congr 1;simp
theorem bu.repl{F:Hp}{v:V}{d:D}(j:Int)(hv:Rep F v d):∀ {ks:List (Key×V)} {kvs:List (Int×D)},bu F ks kvs->bu F (ks.map λkv=>if kv.1=Sum.inl j then(kv.1,v)else kv) (kvs.map λp=>if p.1=j then(p.1,d)else p)
 | _,_,.nil=>.nil
 | _,_,.cons (i:=i) h r=>by
  rw[List.map_cons,List.map_cons]
  by_cases e:i=j
  ·rw[if_pos (show(Sum.inl i:Key)=Sum.inl j by rw[e]),if_pos (show i=j from e)]
   exact .cons hv (bu.repl j hv r)
  ·rw[if_neg (show¬(Sum.inl i:Key)=Sum.inl j by rw[wY];exact e),if_neg (show¬i=j from e)]
   exact .cons h (bu.repl j hv r)
theorem bu.put{F:Hp}{ks:List (Key×V)}{kvs:List (Int×D)}{v:V}{d:D}(j:Int)(r:bu F ks kvs)(hv:Rep F v d):bu F (putK ks (.inl j) v) (jL kvs j d):=by
 unfold putK jL;rw[r.any j]
 split
 ·exact r.repl j hv
 ·exact r.append (.cons hv .nil)
theorem bu.drop{F:Hp}(j:Int):∀ {ks:List (Key×V)} {kvs:List (Int×D)},bu F ks kvs->bu F (lQ ks (.inl j)) (jI kvs j)
 | _,_,.nil=>.nil
 | _,_,.cons (i:=i) h r=>by
  unfold lQ jI;rw[List.filter_cons,List.filter_cons];have ih:=bu.drop j r;unfold lQ jI at ih
  by_cases e:i=j
  ·subst e
   simpa using ih
  ·simp only[ne_eq,wY,e,not_false_eq_true,decide_true,if_true]
   exact .cons h (by simpa using ih)
def wm(a:Addr)(kvs:List (Int×D)):O where
 fp:=λb=>[b]
 rep:=λF H b=>b=a/\∃ks,H b=some (.dK ks)/\bu F ks kvs
 solid:=λ{F H a b φ} ⟨_,ks,h,_⟩ hb z=>by
  rw[List.mem_singleton.mp hb,h]at z;cases z
 nt:=λ{F H a b vs} ⟨_,ks,h,_⟩ hb z=>by
  rw[List.mem_singleton.mp hb,h]at z;cases z
 mono:=λ{F F' H H' a} s e ⟨e0,ks,h,r⟩=>⟨e0,ks,by rw[e a (List.mem_singleton.mpr rfl)];exact h,r.mono s⟩
 view:=some (.dW kvs)
 sees:=λ{F H a d} ⟨_,ks,h,r⟩ e=>by cases e;exact⟨a,ks,rfl,.inl h,r⟩
 lend:=λ{F H a d} s ⟨_,ks,h,r⟩ e=>by
  cases e;obtain⟨F',s1,s2,e1,e2⟩:=jj s h;refine⟨F',s1,s2,.dW (.inl e1) (r.mono s1),λc u z=>?_⟩;rcases e2 c u z with z|⟨rfl,rfl⟩
  ·exact .inl z
  ·exact .inr ⟨rfl,List.mem_singleton.mpr rfl⟩
 loc:=some a
 Hu:=λ{F H a b} ⟨e,_⟩ q=>by cases q;exact e
variable {G:GE}{k:Nat}{S:Stat}
def eW(i:Nat):TV:=λσ Q=>match σ[i]? with
 | some (some (.sh d))=>Q (.val d) σ
 | some (some _)=>Q (.var i) σ
 | _=>False
theorem eF(i:Nat){x:Str}{pos:Pos}(hN:S.N[i]?=some x:=by rfl)(hv:S.sc.lookup x=some .local\/S.sc.lookup x=some .cell\/S.sc.lookup x=some .free:=by first|exact Or.inl rfl|exact Or.inr (Or.inl rfl)|exact Or.inr (Or.inr rfl))
  (hd:(x==("__debug__":Str))=false:=by decide) (jk:(x==("__classdict__":Str))=false:=by decide):EO G k S (.Name x pos) (eW i):=.mk λX Y ok =>
 aM (eZ (X:=X) (i:=i) (by rw[ok.N];exact hN) (by unfold A6;rw[ok.sc];exact hv) hd jk) λσ H Q q=>by
  obtain⟨F,ah,Qd,R,q,K⟩:=q;unfold eW at q
  split at q
  ·rename_i d e
   obtain⟨v,e2,r2⟩:=R.sh i d e;exact⟨v,e2,K v H F (.val d) ah (aj.refl _) R r2 q⟩
  ·rename_i b hb e
   cases b with
   | sh d=>exact absurd rfl (hb d)
   | own xs =>
    obtain⟨a,vs,e2,_⟩:=R.own i xs e;exact⟨_,e2,K _ H F (.var i) ah (aj.refl _) R e2 q⟩
   | obj o =>
    obtain⟨a,e2,_⟩:=R.ob.obj i o e;exact⟨_,e2,K _ H F (.var i) ah (aj.refl _) R e2 q⟩
  ·exact q.elim
def IV:TX:=λσ Q=>∀p,Q (.obj (wm p [])) σ
theorem zh{pos:Pos}:EX G k S (.Dict [] [] pos) IV:=.mk λX Y ok=>aM n9 λσ H Q q=>by
 obtain⟨F,ah,Qd,R,q,K⟩:=q;intro p hp;refine K _ _ F (.obj (wm p [])) ah (aj.refl _) (R.ja hp) ⟨p,rfl,⟨rfl,[],au,.nil⟩,λb hb=>?_⟩ (q p);rw[List.mem_singleton.mp hb];exact⟨same_none R.fr hp,(by rw[au];exactλz=>nomatch z),(R.bw hp).1,R.b3 hp⟩
def f9(ta tb:TV):TV:=λσ Q=>ta σ λx av=>tb av λy aH=>match cS aH x,cS aH y with
 | some (.dW kvs),some (.int i)=>∃d,cY kvs i=some d/\Q (.val d) aH
 | _,_=>False
theorem eR{a b:Expr}{ta tb:TV}{pos:Pos}(ha:EO G k S a ta)(hb:EO G k S b tb)(hs:KN b:=by intro _ _;rfl):EO G k S (.Subscript a b pos) (f9 ta tb):=.mk λX Y ok =>
 aM (Ib (by have:=ok.units;omega) (ha X Y ok) (hb X Y ok) hs) λσ H Q q=>by
  obtain⟨F,ah,Qd,R,q,K⟩:=q;refine⟨F,ah,_,R,q,λv1 H1 F1 x av s1 R1 r1 q1=>?_⟩;refine⟨F1,av,_,R1,q1,λv2 H2 F2 y aH s2 R2 r2 q2=>?_⟩
  split at q2
  ·rename_i kvs i ea eb
   obtain⟨a,ks,rfl,h,r⟩:=R2.cS (r1.mono s2) ea;obtain rfl:=(R2.cS r2 eb).int;obtain⟨d,hd,q2⟩:=q2;rcases r.val i with⟨_,e2⟩|⟨v,d',e1,e2,rd⟩
   ·rw[e2]at hd;cases hd
   ·rw[e2]at hd;cases hd
    refine⟨a,v,rfl,?_,K v H2 F2 (.val d) aH (s1.trans s2) R2 rd q2⟩;rw[<- e1];exact .inl ⟨ks,.inl i,h,rfl,rfl⟩
  ·exact q2.elim
def inI:D->D->(Bool->Prop)->Prop
 | .int i,.dW kvs,Q=>Q (cY kvs i).isSome
 | _,_,_=>False
def HC(x y:D)(Q:Bool->Prop):Prop:=inI x y λb=>Q !b
theorem Hh{F H:Hp}{v u:V}{i:Int}{kvs:List (Int×D)}(rv:cA F H v (.int i))(ru:cA F H u (.dW kvs)):∃a o,u=.ref a/\zJ H a v o/\o.isSome=(cY kvs i).isSome:=by
 obtain rfl:=rv.int;obtain⟨a,ks,rfl,h,r⟩:=ru;refine⟨a,_,rfl,.inl ⟨ks,.inl i,h,rfl,rfl⟩,?_⟩;rcases r.val i with⟨e1,e2⟩|⟨v,d,e1,e2,_⟩
 ·rw[e1,e2];rfl
 ·rw[e1,e2];rfl
theorem Lw:o8 G k S .NotIn HC:=⟨E1 true,λX Y ok=>AF (by have:=ok.units;omega),λY F H ah σ v u x y Qd Q R rx ry q K=>by
 unfold HC inI at q
 split at q
 ·obtain⟨a,o,rfl,g,e⟩:=Hh rx ry
  exact⟨a,o,rfl,g,K _ (by rw[if_pos rfl,e];exact q)⟩
 ·exact q.elim⟩
def D9:List D->(EV->Prop)->Prop
 | [.dW kvs],Q=>Q (.val (.int kvs.length))
 | _,_=>False
theorem Dh:zI G k S (.builtin "len") D9:=⟨λ_ xs H Q=>∃a ks,xs=[.ref a]/\Rd H a (.dK ks)/\Q (.int ks.length) H,λX Y ok=>by
  intro pins s σ H xs us Q I r h;obtain⟨a,ks,rfl,e,q⟩:=h;obtain⟨u,rfl,ru⟩:=vals1 r;cases ru;exact UX I e λt s' I'=>⟨.int _,H,I',⟨_,rfl⟩,q⟩,λY F H ah σ vs ds Qd Q R r q g=>by
 unfold D9 at q
 split at q
 ·obtain⟨v,rfl,rv⟩:=r.one
  obtain⟨a,ks,rfl,h,rr⟩:=rv;refine⟨a,ks,rfl,h,?_⟩;rw[rr.length];exact g.val R (.int _) q
 ·exact q.elim⟩
def Yc(neg:Bool):R2:=λx y H Q=>∃a b ks,x=.ref a/\y=.ref b/\Rd H a (.dK ks)/\H b=some (.dK [])/\Q (.bl (if neg then !decide (ks=[])else decide (ks=[]))) H
theorem OB{vs:List (Key×Value)}(r:KV ([]:List (Key×V)) vs):vs=[]:=by
 have:=r.length;cases vs with
 | nil=>rfl
 | cons _ _=>simp at this
theorem OA{ks:List (Key×V)}{vs:List (Key×Value)}(r:KV ks vs):decide (vs=[])=decide (ks=[]):=by
 have:=r.length;cases vs<;>cases ks<;>simp_all
theorem Qp{X:Cx}(hu:X.A.units<cLine):iO X (compareOp .NotEq) (Yc true):=by
 intro pins s σ H x y v u Q I rx ry h;obtain⟨a,b,ks,rfl,rfl,ea,eb,q⟩:=h;cases rx;cases ry;obtain⟨_,ha,xs,ra,da⟩:=iX I.bL ea;obtain⟨_,hb,ys,rb,db⟩:=C8 I.bL eb;refine neE hu ha hb da db (OB rb) ?_;rw[OA ra];exact⟨.bl _,H,I,rfl,q⟩
def IW(neg:Bool)(t:TV):TB:=λσ Q=>t σ λx av=>match cS av x with
 | some (.dW kvs)=>Q (if neg then !decide (kvs=[])else decide (kvs=[])) av
 | _=>False
theorem Fe{H:Hp}{a p:Addr}{u w:HO}(h:Rd H a u)(hp:H p=none):Rd (upd H p w) a u:=by
 rcases h with h|⟨o,h⟩
 ·exact .inl (by rw[ai (aP h hp)];exact h)
 ·exact .inr ⟨o,by rw[ai (aP h hp)];exact h⟩
theorem Ff{F:Hp}{ks:List (Key×V)}{kvs:List (Int×D)}(r:bu F ks kvs):decide (ks=[])=decide (kvs=[]):=by
 cases r<;>simp
theorem zY{Y:aV}{neg:Bool}{ta:TV}{σ:St}{H:Hp}{Q:VK}{F:Hp}{ah:Sd}{Qd:Bool->Sd->Prop}(R:RS Y F ah σ H)(q:IW neg ta ah Qd)(K:∀b H' F' ax,aj F F'->RS Y F' ax σ H'->Qd b ax->Q (.bl b) H'):SW (Yc neg) (lO Y ta) Fu σ H Q:=by
 refine⟨F,ah,_,R,q,λv1 H1 F1 x av s1 R1 r1 q1=>?_⟩;intro p hp
 split at q1
 ·rename_i kvs ea
  obtain⟨a,ks,rfl,h,r⟩:=R1.cS r1 ea;refine⟨a,p,ks,rfl,rfl,Fe h hp,au,?_⟩;rw[Ff r];exact K _ _ F1 av s1 (R1.ja hp) q1
 ·exact q1.elim
theorem Rn{a:Expr}{ta:TV}{p pos:Pos}(ha:EO G k S a ta)(hm:behindInMarks .NotEq (.Dict [] [] p)=false:=by first|exact xl _|with_unfolding_all rfl):EB G k S (.Compare a [.NotEq] [.Dict [] [] p] pos) (IW true ta):=.mk λX Y ok=>by
 refine sg (zc (Qp (by have:=ok.units;omega)) (ha X Y ok) n9 hm) λσ H Q q=>?_
 obtain⟨F,ah,Qd,R,q,K⟩:=q;exact zY R q λb H' F' ax s R' qq=>⟨b,rfl,K b H' F' ax s R' qq⟩
def Fv(i:Nat)(tk:TV)(tv:TD):b5:=λDe σ=>tv σ λd av=>(∃a kvs,av[i]?=some (some (.obj (wm a kvs))))/\tk av λy aH=>match cS aH y with
 | some (.int j)=>∃a kvs,aH[i]?=some (some (.obj (wm a kvs)))/\kvs.length<sizeLine/\De.nx (aH.set i (some (.obj (wm a (jL kvs j d)))))
 | _=>False
theorem zl(i:Nat){x:Str}{ke ve:Expr}{tk:TV}{tv:TD}{np pos' pos:Pos}(hv:ED G k S ve tv)(hk:EO G k S ke tk)(ho:EO G k S (.Name x np) (Kq i))(hs:∀line env,swapsWith ve (some (.Subscript (.Name x np) ke pos')) line env=pure false:=by intro _ _;rfl):
  ES G k S (.Assign [.Subscript (.Name x np) ke pos'] ve pos) (Fv i tk tv):=.mk λX Y ok =>
 b8 (y9 (by have:=ok.units;omega) (ho X Y ok) (hk X Y ok) (hv X Y ok) (hs _ _)) λDn σ H q=>by
  obtain⟨F,ah,De,R,q,K⟩:=q;refine⟨F,ah,_,R,q,λv H1 F1 d av s1 R1 r1 q1=>?_⟩;obtain⟨⟨a0,jO,e0⟩,q1⟩:=q1;refine⟨F1,av,λx oZ=>x=.var i/\oZ=av,R1,⟨⟨_,e0⟩,rfl,rfl⟩,λv2 H2 F2 y aH s2 R2 r2 q2=>?_⟩;obtain⟨rfl,rfl⟩:=q2;have r2:σ[i]?=some (some v2):=r2;refine⟨F2,aH,_,R2,q1,λv3 H3 F3 kd c9 s3 R3 r3 q3=>?_⟩
  split at q3
  ·rename_i j ej
   obtain rfl:=(R3.cS r3 ej).int;obtain⟨a,kvs,e,hl,q3⟩:=q3;obtain⟨b,w1,⟨rfl,us,w2,w3⟩,w4⟩:=R3.ob.obj i _ e;rw[r2]at w1;cases w1;refine⟨b,_,rfl,.k (k:=.inl j) w2 (by rw[w3.length];exact hl),K.nx σ _ F3 _ ((s1.trans s2).trans s3) (R3.jW (o':=wm b (jL kvs j d)) e r2 (List.mem_singleton.mpr rfl) (λ_ z=>z) ⟨rfl,_,au,w3.put j (r1.mono (s2.trans s3))⟩) q3⟩
  ·exact q3.elim
end Vc
namespace Vs
open PySem PySem.Calls PyProof.Rows PyProof.V PySem.Spec
def iOf:Value->Int
 | .int i _=>i
 | _=>0
end Vs
namespace Vc
open PySem L2
variable [KF]
theorem n6{prog:Program}{w:World}:∀ {es:List DictEntry} {vs:List (Key×Value)} {ns:List Int},PySem.Pairs (bM prog w) es vs->vs.map (·.1)=ns.map Sum.inl->PyProof.Rows.IntsAre (es.map (·.key)) ns
 | _,_,[],.nil,_=>.nil
 | _,_,_::_,.nil,e=>by cases e
 | _,_,[],.cons _ _ _,e=>by cases e
 | _,_,n::ns,.cons (e:=e) (kv:=kv) h1 h2 r,q=>by
  rw[List.map_cons,List.map_cons]at q;obtain⟨q1,q2⟩:=List.cons.inj q;rw[q1]at h1;rcases bN (show lV (Sum.inl n) e.key=true from h1)with⟨i,t,a1,a2⟩|⟨x,t,a1,_⟩
  ·cases a1
   rw[List.map_cons,a2];exact .cons _ t (n6 r q2)
  ·cases a1
theorem jl:∀ {vs:List Value} {ns:List Int},PyProof.Rows.IntsAre vs ns->vs.map Vs.iOf=ns
 | _,_,.nil=>rfl
 | _,_,.cons n t h=>by rw[List.map_cons,jl h];rfl
theorem gX:∀ {vs:List Value} {ns:List Int},PyProof.Rows.IntsAre vs ns->∀v∈vs,∃i t,v=Value.int i t
 | _,_,.nil,v,hv=>by cases hv
 | _,_,.cons n t h,v,hv=>by
  rcases List.mem_cons.mp hv with rfl|hv
  ·exact⟨n,t,rfl⟩
  ·exact gX h v hv
theorem d9:∀ {vs:List Value},(∀v∈vs,∃i t,v=Value.int i t)->Vals ((vs.map Vs.iOf).map V.int) vs
 | [],_=>.nil
 | v::vs,h=>by
  obtain⟨i,t,rfl⟩:=h v (.head _);exact .cons ⟨t,rfl⟩ (d9 λx hx=>h x (.tail _ hx))
variable {G:GE}{k:Nat}{S:Stat}
def qw(ns:List Int):List Int:=ns.mergeSort λx y=>decide (x<=y)
theorem xM(ns:List Int):(qw ns).Perm ns:=List.mergeSort_perm _ _
theorem sO(ns:List Int):(qw ns).Pairwise λx y=>x<=y:=by
 have:=List.pairwise_mergeSort (le:=λx y:Int=>decide (x<=y)) (λa b c h1 h2=>by simp only[decide_eq_true_eq]at *;omega) (λa b=>by simp only[Bool.or_eq_true,decide_eq_true_eq];omega) ns
 exact this.imp λh=>of_decide_eq_true h
theorem oB{ns ms:List Int}(h:ms.Perm ns)(hs:ms.Pairwise λx y=>x<=y):ms=qw ns:=
 (h.trans (xM ns).symm).eq_of_pairwise (le:=λx y:Int=>x<=y) (λa b _ _ h1 h2=>Int.le_antisymm h1 h2) hs (sO ns)
theorem iC{F:Hp}:∀ {ks:List (Key×V)} {kvs:List (Int×D)},bu F ks kvs->ks.map (·.1)=(kvs.map (·.1)).map Sum.inl
 | _,_,.nil=>rfl
 | _,_,.cons _ r=>by rw[List.map_cons,List.map_cons,List.map_cons,iC r]
theorem lC{F:Hp}:∀ms:List Int,ay F (ms.map V.int) (ms.map D.int)
 | []=>.nil
 | i::ms=>.cons (.int i) (lC ms)
end Vc
namespace Vc
open PySem L2
variable [KF]
structure iT(F H:Hp)(vs:List V)(bs:List B):Prop where
 len:vs.length=bs.length
 sh:∀(i:Nat) (d:D),bs[i]?=some (.sh d)->∃v,vs[i]?=some v/\Rep F v d
 own:∀(i:Nat) (xs:List D),bs[i]?=some (.own xs)->∃a us,vs[i]?=some (.ref a)/\H a=some (.lst us)/\ay F us xs/\F a=none
 obj:∀(i:Nat) (o:O),bs[i]?=some (.obj o)->∃a,vs[i]?=some (.ref a)/\o.rep F H a/\∀c∈o.fp a,F c=none/\H c≠none
 dis:∀(i j:Nat) (xs ys:List D) (a:Addr),bs[i]?=some (.own xs)->bs[j]?=some (.own ys)->vs[i]?=some (.ref a)->vs[j]?=some (.ref a)->i=j
 ng:∀(i j:Nat) (o p:O) (a b:Addr),bs[i]?=some (.obj o)->bs[j]?=some (.obj p)->vs[i]?=some (.ref a)->vs[j]?=some (.ref b)->i≠j->∀c∈o.fp a,c∉p.fp b
 gy:∀(i j:Nat) (xs:List D) (o:O) (a b:Addr),bs[j]?=some (.own xs)->vs[j]?=some (.ref b)->bs[i]?=some (.obj o)->vs[i]?=some (.ref a)->b∉o.fp a
def gL(vs:List V)(bs:List B)(c:Addr):Prop:=(∃(i:Nat) (xs:List D),bs[i]?=some (.own xs)/\vs[i]?=some (.ref c))\/∃(i:Nat) (o:O) (a:Addr),bs[i]?=some (.obj o)/\vs[i]?=some (.ref a)/\c∈o.fp a
inductive dm:List B->List B->Prop where
 | nil:dm [] []
 | sh (d:D) {bs cs:List B}:dm bs cs->dm (.sh d::bs) (.sh d::cs)
 | own (xs ys:List D) {bs cs:List B}:dm bs cs->dm (.own xs::bs) (.own ys::cs)
 | obj {o p:O} {bs cs:List B}:p.fp=o.fp->p.loc=o.loc->o.loc≠none->dm bs cs->dm (.obj o::bs) (.obj p::cs)
theorem dm.len{bs cs:List B}(h:dm bs cs):bs.length=cs.length:=by
 induction h<;>simp_all
theorem dm.shr{bs cs:List B}(h:dm bs cs):∀ {i:Nat} {d:D},cs[i]?=some (.sh d)->bs[i]?=some (.sh d):=by
 induction h with
 | nil=>intro i d e;simp at e
 | sh d _ ih=>intro i e q;cases i with
  | zero=>simpa using q
  | succ i=>simp at q ⊢;exact ih q
 | own xs ys _ ih=>intro i e q;cases i with
  | zero=>simp at q
  | succ i=>simp at q ⊢;exact ih q
 | obj _ _ _ _ ih=>intro i e q;cases i with
  | zero=>simp at q
  | succ i=>simp at q ⊢;exact ih q
theorem dm.AH{bs cs:List B}(h:dm bs cs):∀ {i:Nat} {ys:List D},cs[i]?=some (.own ys)->∃xs,bs[i]?=some (.own xs):=by
 induction h with
 | nil=>intro i d e;simp at e
 | sh d _ ih=>intro i e q;cases i with
  | zero=>simp at q
  | succ i=>simp at q ⊢;exact ih q
 | own xs ys _ ih=>intro i e q;cases i with
  | zero=>exact⟨xs,by simp⟩
  | succ i=>simp at q ⊢;exact ih q
 | obj _ _ _ _ ih=>intro i e q;cases i with
  | zero=>simp at q
  | succ i=>simp at q ⊢;exact ih q
theorem dm.XI{bs cs:List B}(h:dm bs cs):∀ {i:Nat} {xs:List D},bs[i]?=some (.own xs)->∃ys,cs[i]?=some (.own ys):=by
 induction h with
 | nil=>intro i d e;simp at e
 | sh d _ ih=>intro i e q;cases i with
  | zero=>simp at q
  | succ i=>simp at q ⊢;exact ih q
 | own xs ys _ ih=>intro i e q;cases i with
  | zero=>exact⟨ys,by simp⟩
  | succ i=>simp at q ⊢;exact ih q
 | obj _ _ _ _ ih=>intro i e q;cases i with
  | zero=>simp at q
  | succ i=>simp at q ⊢;exact ih q
theorem dm.Az{bs cs:List B}(h:dm bs cs):∀ {i:Nat} {p:O},cs[i]?=some (.obj p)->∃o,bs[i]?=some (.obj o)/\p.fp=o.fp/\p.loc=o.loc/\o.loc≠none:=by
 induction h with
 | nil=>intro i d e;simp at e
 | sh d _ ih=>intro i e q;cases i with
  | zero=>simp at q
  | succ i=>simp at q ⊢;exact ih q
 | own xs ys _ ih=>intro i e q;cases i with
  | zero=>simp at q
  | succ i=>simp at q ⊢;exact ih q
 | @obj o p _ _ h1 h2 h3 _ ih=>intro i e q;cases i with
  | zero=>simp at q;subst q;exact⟨o,by simp,h1,h2,h3⟩
  | succ i=>simp at q ⊢;exact ih q
theorem dm.aa7{bs cs:List B}(h:dm bs cs):∀ {i:Nat} {o:O},bs[i]?=some (.obj o)->∃p,cs[i]?=some (.obj p)/\p.fp=o.fp/\p.loc=o.loc/\o.loc≠none:=by
 induction h with
 | nil=>intro i d e;simp at e
 | sh d _ ih=>intro i e q;cases i with
  | zero=>simp at q
  | succ i=>simp at q ⊢;exact ih q
 | own xs ys _ ih=>intro i e q;cases i with
  | zero=>simp at q
  | succ i=>simp at q ⊢;exact ih q
 | @obj o p _ _ h1 h2 h3 _ ih=>intro i e q;cases i with
  | zero=>simp at q;subst q;exact⟨p,by simp,h1,h2,h3⟩
  | succ i=>simp at q ⊢;exact ih q
abbrev iU:=List B->(B->List B->Prop)->Prop
def cU(sp:iU):Sp:=λvs H Q _=>∃F bs Qd,lL F H/\iT F H vs bs/\sp bs Qd /\
 ∀v H' F' b bs',aj F F'->aj F' H'->(∀c o,¬gL vs bs c->H c=some o->H' c=some o)->(∀c,gL vs bs c->H' c≠none)->iT F' H' vs bs'->dm bs bs'->(∀c o,F' c=some o->F c=some o\/Nw H c o)->BJ H F' H' v b->Qd b bs'->Q v H'
variable {G:GE}{k:Nat}{S:Stat}
def qG(G:GE)(k:Nat)(x:Str)(sp:iU):Prop:=∃f fd ps,cn G.P G.w G.K G.mg G.base iL k f fd ps (cU sp)/\G.mg x=some (.ref f)/\PySem.W.keepIn G.K (.ref f)=true/\Binds G.K fd ps []
theorem qG.mono{x:Str}{sp:iU}{j:Nat}(h:qG G j x sp)(l:j<=k):qG G k x sp:=by
 obtain⟨f,fd,ps,h1,h2,h3,h4⟩:=h;exact⟨f,fd,ps,h1.mono l,h2,h3,h4⟩
def cF(sp:bf):iU:=λbs Q=>∃ds:List D,bs=ds.map .sh/\sp ds λb=>Q b bs
theorem lj{bs:List B}(h:∀(i:Nat) (o:O),bs[i]?=some (.obj o)->o.loc≠none):dm bs bs:=by
 induction bs with
 | nil=>exact .nil
 | cons b bs ih =>
  have ih:=ih λi o e=>h (i+1) o (by simpa using e)
  cases b with
  | sh d=>exact .sh d ih
  | own xs=>exact .own xs xs ih
  | obj o=>exact .obj rfl rfl (h 0 o (by simp)) ih
theorem cP{ds:List D}{i:Nat}{b:B}(h:(ds.map B.sh)[i]?=some b):∃d,b=.sh d/\ds[i]?=some d:=by
 rw[List.getElem?_map]at h;obtain⟨d,h1,h2⟩:=Option.map_eq_some_iff.mp h;exact⟨d,h2.symm,h1⟩
theorem vN{F:Hp}:∀(vs:List V) (ds:List D),vs.length=ds.length->(∀(i:Nat) (d:D),ds[i]?=some d->∃v,vs[i]?=some v/\Rep F v d)->ay F vs ds:=by
 intro vs
 induction vs with
 | nil=>intro ds hl _;cases ds with
  | nil=>exact .nil
  | cons _ _=>cases hl
 | cons v vs ih =>
  intro ds hl h;cases ds with
  | nil=>cases hl
  | cons d ds =>
   obtain⟨v',e,r⟩:=h 0 d (by simp)
   simp at e;subst e;exact .cons r (ih ds (by simpa using hl) λi d e=>by
    obtain⟨v',e',r'⟩:=h (i+1) d (by simpa using e)
    exact⟨v',by simpa using e',r'⟩)
theorem mI{F H:Hp}{vs:List V}{ds:List D}(h:iT F H vs (ds.map B.sh)):ay F vs ds:=
 vN vs ds (by simpa using h.len) λi d e=>h.sh i d (by rw[List.getElem?_map,e];rfl)
theorem ye{F H:Hp}{vs:List V}{ds:List D}(h:ay F vs ds):iT F H vs (ds.map B.sh) where
 len:=by rw[List.length_map];exact h.length
 sh:=λi d e=>by
  obtain⟨d',e1,e2⟩:=cP e;cases e1;exact h.get e2
 own:=λi xs e=>by obtain⟨d,e1,_⟩:=cP e;cases e1
 obj:=λi o e=>by obtain⟨d,e1,_⟩:=cP e;cases e1
 dis:=λi j xs ys a e=>by obtain⟨d,e1,_⟩:=cP e;cases e1
 ng:=λi j o p a b e=>by obtain⟨d,e1,_⟩:=cP e;cases e1
 gy:=λi j xs o a b e=>by obtain⟨d,e1,_⟩:=cP e;cases e1
theorem yw{vs:List V}{ds:List D}{c:Addr}:¬gL vs (ds.map B.sh) c:=by
 rintro(⟨i,xs,e,_⟩|⟨i,o,a,e,_⟩)
 ·obtain⟨d,e1,_⟩:=cP e;cases e1
 ·obtain⟨d,e1,_⟩:=cP e;cases e1
theorem d5.mu{x:Str}{sp:bf}(h:d5 G k x sp):qG G k x (cF sp):=by
 obtain⟨f,fd,ps,h1,h2,h3,h4⟩:=h;refine⟨f,fd,ps,h1.imp λvs H Q E q=>?_,h2,h3,h4⟩;obtain⟨F,bs,Qd,s,r,⟨ds,rfl,q⟩,K⟩:=q;refine⟨F,ds,_,s,mI r,q,λv H' F' b s1 s2 s3 fr rr qq=>K v H' F' b _ s1 s2 (λc o _ e=>s3 c o e) (λc z=>absurd z yw) (ye ((mI r).mono s1)) (lj λi o e=>?_) fr rr qq⟩;obtain⟨d,e1,_⟩:=cP e;cases e1
def muI(sp:jv):iU:=λbs Q=>∃(xs:List D) (ds:List D),bs=.own xs::ds.map .sh/\sp xs ds λb ys=>Q b (.own ys::ds.map .sh)
theorem dh{xs:List D}{ds:List D}{i:Nat}{b:B}(h:(B.own xs::ds.map B.sh)[i]?=some b):(i=0/\b=.own xs)\/∃j d,i=j+1/\b=.sh d/\ds[j]?=some d:=by
 cases i with
 | zero=>simp at h;exact .inl ⟨rfl,h.symm⟩
 | succ j =>
  simp only[List.getElem?_cons_succ]at h;obtain⟨d,e1,e2⟩:=cP h;exact .inr ⟨j,d,rfl,e1,e2⟩
theorem GW{F H:Hp}{a:Addr}{us:List V}{vs:List V}{xs ds:List D}(h1:H a=some (.lst us))(h2:ay F us xs)(h3:F a=none)(h:ay F vs ds):iT F H (.ref a::vs) (.own xs::ds.map B.sh) where
 len:=by rw[List.length_cons,List.length_cons,List.length_map,h.length]
 sh:=λi d e=>by
  rcases dh e with⟨_,z⟩|⟨j,d',rfl,z,e2⟩
  ·cases z
  ·cases z
   obtain⟨v,e3,r⟩:=h.get e2;exact⟨v,by simpa using e3,r⟩
 own:=λi ys e=>by
  rcases dh e with⟨rfl,z⟩|⟨j,d',rfl,z,e2⟩
  ·cases z;exact⟨a,us,by simp,h1,h2,h3⟩
  ·cases z
 obj:=λi o e=>by
  rcases dh e with⟨_,z⟩|⟨j,d',rfl,z,e2⟩<;>cases z
 dis:=λi j ys zs b e1 e2 _ _=>by
  rcases dh e1 with⟨rfl,z⟩|⟨_,d',rfl,z,_⟩
  ·rcases dh e2 with⟨rfl,z⟩|⟨_,d',rfl,z,_⟩
   ·rfl
   ·cases z
  ·cases z
 ng:=λi j o p a b e=>by
  rcases dh e with⟨_,z⟩|⟨j,d',rfl,z,e2⟩<;>cases z
 gy:=λi j xs o a b _ _ e=>by
  rcases dh e with⟨_,z⟩|⟨j,d',rfl,z,e2⟩<;>cases z
theorem fH.mu{x:Str}{sp:jv}(h:fH G k x sp):qG G k x (muI sp):=by
 obtain⟨f,fd,ps,h1,h2,h3,h4⟩:=h;refine⟨f,fd,ps,h1.imp λvs H Q E q=>?_,h2,h3,h4⟩;obtain⟨F,bs,Qd,s,r,⟨xs,ds,rfl,q⟩,K⟩:=q;obtain⟨a,us,e1,e2,e3,e4⟩:=r.own 0 xs (by simp)
 have hl:=r.len;cases vs with
 | nil=>simp at e1
 | cons v vs =>
  simp at e1;subst e1;have rs:ay F vs ds:=vN vs ds (by simpa using hl) λi d e=>by
   obtain⟨v,q1,q2⟩:=r.sh (i+1) d (by simp only[List.getElem?_cons_succ,List.getElem?_map,e];rfl)
   exact⟨v,by simpa using q1,q2⟩
  have ft:∀c,gL (.ref a::vs) (B.own xs::ds.map B.sh) c ↔ c=a:=λc=>by
   constructor
   ·rintro(⟨i,ys,e,z⟩|⟨i,o,b,e,_⟩)
    ·rcases dh e with⟨rfl,_⟩|⟨_,d',rfl,z',_⟩
     ·simp at z;exact z.symm
     ·cases z'
    ·rcases dh e with⟨rfl,z'⟩|⟨_,d',rfl,z',_⟩<;>cases z'
   ·rintro rfl
    exact .inl ⟨0,xs,by simp,by simp⟩
  refine⟨F,xs,ds,a,us,vs,_,rfl,s,e2,e3,e4,rs,q,λv H' F' b ys Td s1 s2 s3 a1 a2 a3 fr rr qq=>K v H' F' b _ s1 s2 (λc o z e=>s3 c o (λy=>z ((ft c).mpr y)) e) (λc z=>by rw[(ft c).mp z,a1];exactλy=>nomatch y) (GW a1 a2 a3 (rs.mono s1)) (.own xs ys ?_) fr rr qq⟩
  exact lj λi o e=>by obtain⟨d,z,_⟩:=cP e;cases z
end Vc
namespace Vc
open PySem L2
variable [KF]
mutual
def El:D->Bool
 | .aW=>true
 | .bl _=>true
 | .int _=>true
 | .str _=>true
 | .tup xs=>d3 xs
 | .lst xs=>d3 xs
 | _=>false
def d3:List D->Bool
 | []=>true
 | x::xs=>El x&&d3 xs
end
mutual
theorem Rep.gf{F F':Hp}(hs:∀c u,F c=some u->F' c=some u\/dl u=true):∀ {v:V} {d:D},Rep F v d->El d=true->Rep F' v d
 | _,_,.aW,_=>.aW
 | _,_,.bl b,_=>.bl b
 | _,_,.int i,_=>.int i
 | _,_,.str x,_=>.str x
 | _,_,.tup h r,n=>.tup ((hs _ _ h).elim id λz=>by cases z) (ay.gf hs r n)
 | _,_,.lst h r,n=>.lst (by
   rcases h with h|⟨o,h⟩
   ·exact .inl ((hs _ _ h).elim id λz=>by cases z)
   ·exact .inr ⟨o,(hs _ _ h).elim id λz=>by cases z⟩) (ay.gf hs r n)
 | _,_,.i3 _,n=>by cases n
 | _,_,.exc _,n=>by cases n
 | _,_,.zW _ _,n=>by cases n
 | _,_,.dW _ _,n=>by cases n
 | _,_,.kp _ _ _,n=>by cases n
theorem ay.gf{F F':Hp}(hs:∀c u,F c=some u->F' c=some u\/dl u=true):∀ {vs:List V} {ds:List D},ay F vs ds->d3 ds=true->ay F' vs ds
 | _,_,.nil,_=>.nil
 | _,_,.cons h r,n=>by
  have n:(El _&&d3 _)=true:=n;rw[Bool.and_eq_true]at n;exact .cons (Rep.gf hs h n.1) (ay.gf hs r n.2)
end
def noB:B->Bool
 | .sh d=>El d
 | .own xs=>d3 xs
 | .obj _=>false
def OY:B->Bool
 | .sh _=>true
 | .own xs=>d3 xs
 | .obj _=>false
inductive AV where
 | d (x:D)|n (j:Nat)|l (j:Nat)
abbrev tS:=Sd->(List AV->Sd->Prop)->Prop
inductive cN (F:Hp)(σ:St):List V->List AV->Prop where
 | nil:cN F σ [] []
 | d {v:V} {x:D} {vs:List V} {as:List AV}:Rep F v x->cN F σ vs as->cN F σ (v::vs) (.d x::as)
 | n {v:V} {j:Nat} {vs:List V} {as:List AV}:σ[j]?=some (some v)->cN F σ vs as->cN F σ (v::vs) (.n j::as)
 | l {v:V} {j:Nat} {vs:List V} {as:List AV}:σ[j]?=some (some v)->cN F σ vs as->cN F σ (v::vs) (.l j::as)
theorem cN.length{F:Hp}{σ:St}:∀ {vs:List V} {as:List AV},cN F σ vs as->vs.length=as.length
 | _,_,.nil=>rfl
 | _,_,.d _ r=>by simp [cN.length r]
 | _,_,.n _ r=>by simp [cN.length r]
 | _,_,.l _ r=>by simp [cN.length r]
theorem cN.gd{F:Hp}{σ:St}:∀ {vs:List V} {as:List AV} {i:Nat} {x:D},cN F σ vs as->as[i]?=some (.d x)->∃v,vs[i]?=some v/\Rep F v x
 | _,_,_,_,.nil,e=>by simp at e
 | _,_,0,_,.d h _,e=>by simp at e;subst e;exact⟨_,by simp,h⟩
 | _,_,0,_,.n _ _,e=>by simp at e
 | _,_,0,_,.l _ _,e=>by simp at e
 | _,_,i+1,_,.d _ r,e=>by obtain⟨v,h1,h2⟩:=cN.gd (i:=i) r (by simpa using e);exact⟨v,by simpa using h1,h2⟩
 | _,_,i+1,_,.n _ r,e=>by obtain⟨v,h1,h2⟩:=cN.gd (i:=i) r (by simpa using e);exact⟨v,by simpa using h1,h2⟩
 | _,_,i+1,_,.l _ r,e=>by obtain⟨v,h1,h2⟩:=cN.gd (i:=i) r (by simpa using e);exact⟨v,by simpa using h1,h2⟩
theorem cN.gn{F:Hp}{σ:St}{j:Nat}:∀ {vs:List V} {as:List AV} {i:Nat},cN F σ vs as->as[i]?=some (.n j)\/as[i]?=some (.l j)->∃v,vs[i]?=some v/\σ[j]?=some (some v)
 | _,_,_,.nil,e=>by simp at e
 | _,_,0,.d _ _,e=>by simp at e
 | _,_,0,.n h _,e=>by
  rcases e with e|e
  ·simp at e;subst e;exact⟨_,by simp,h⟩
  ·simp at e
 | _,_,0,.l h _,e=>by
  rcases e with e|e
  ·simp at e
  ·simp at e;subst e;exact⟨_,by simp,h⟩
 | _,_,i+1,.d _ r,e=>by obtain⟨v,h1,h2⟩:=cN.gn (i:=i) r (by simpa using e);exact⟨v,by simpa using h1,h2⟩
 | _,_,i+1,.n _ r,e=>by obtain⟨v,h1,h2⟩:=cN.gn (i:=i) r (by simpa using e);exact⟨v,by simpa using h1,h2⟩
 | _,_,i+1,.l _ r,e=>by obtain⟨v,h1,h2⟩:=cN.gn (i:=i) r (by simpa using e);exact⟨v,by simpa using h1,h2⟩
def wH(σ:Sd):AV->Option B
 | .d x=>some (.sh x)
 | .n j=>match σ[j]? with
  | some (some b)=>some b
  | _=>none
 | .l j=>match σ[j]? with
  | some (some (.obj o))=>o.view.map B.sh
  | some (some (.sh d))=>some (.sh d)
  | _=>none
def dF(σ:Sd):List AV->Option (List B)
 | []=>some []
 | a::r=>match wH σ a,dF σ r with
  | some b,some bs=>some (b::bs)
  | _,_=>none
theorem kT{σ:Sd}:∀ {as:List AV} {bs:List B},dF σ as=some bs->as.length=bs.length
 | [],_,e=>by cases e;rfl
 | a::r,bs,e=>by
  unfold dF at e
  split at e
  ·rename_i b bs' e1 e2
   cases e;simp [kT e2]
  ·cases e
theorem kS{σ:Sd}:∀ {as:List AV} {bs:List B} {i:Nat} {b:B},dF σ as=some bs->bs[i]?=some b->∃a,as[i]?=some a/\wH σ a=some b
 | [],_,_,_,e,q=>by cases e;simp at q
 | a::r,bs,i,b,e,q=>by
  unfold dF at e
  split at e
  ·rename_i b' bs' e1 e2
   cases e;cases i with
   | zero=>simp at q;subst q;exact⟨a,by simp,e1⟩
   | succ i =>
    obtain⟨a',h1,h2⟩:=kS (i:=i) e2 (by simpa using q)
    exact⟨a',by simpa using h1,h2⟩
  ·cases e
def bI:Sd->List AV->List B->Sd
 | σ,.n j::as,b::bs=>bI (σ.set j (some b)) as bs
 | σ,.d _::as,_::bs=>bI σ as bs
 | σ,.l _::as,_::bs=>bI σ as bs
 | σ,_,_=>σ
def lr:List AV->List Nat
 | []=>[]
 | .n j::as=>j::lr as
 | .d _::as=>lr as
 | .l _::as=>lr as
def yQ:List AV->List Nat
 | []=>[]
 | .n _::as=>yQ as
 | .d _::as=>yQ as
 | .l j::as=>j::yQ as
theorem dE{j:Nat}:∀ {as:List AV} {i:Nat},as[i]?=some (.n j)->j∈lr as
 | [],_,e=>by simp at e
 | .n x::as,0,e=>by simp at e;subst e;exact .head _
 | .d _::as,0,e=>by simp at e
 | .l _::as,0,e=>by simp at e
 | .n x::as,i+1,e=>.tail _ (dE (i:=i) (by simpa using e))
 | .d _::as,i+1,e=>dE (as:=as) (i:=i) (by simpa using e)
 | .l _::as,i+1,e=>dE (as:=as) (i:=i) (by simpa using e)
theorem mN{j:Nat}:∀ {as:List AV} {i:Nat},as[i]?=some (.l j)->j∈yQ as
 | [],_,e=>by simp at e
 | .l x::as,0,e=>by simp at e;subst e;exact .head _
 | .d _::as,0,e=>by simp at e
 | .n _::as,0,e=>by simp at e
 | .l x::as,i+1,e=>.tail _ (mN (i:=i) (by simpa using e))
 | .d _::as,i+1,e=>mN (as:=as) (i:=i) (by simpa using e)
 | .n _::as,i+1,e=>mN (as:=as) (i:=i) (by simpa using e)
theorem jU{j:Nat}:∀ {as:List AV},j∈lr as->∃i:Nat,as[i]?=some (AV.n j)
 | [],e=>by cases e
 | .n x::as,e=>by
  rcases List.mem_cons.mp e with rfl|e
  ·exact⟨0,rfl⟩
  ·obtain⟨i,h⟩:=jU e;exact⟨i+1,by simpa using h⟩
 | .d _::as,e=>by obtain⟨i,h⟩:=jU (as:=as) e;exact⟨i+1,by simpa using h⟩
 | .l _::as,e=>by obtain⟨i,h⟩:=jU (as:=as) e;exact⟨i+1,by simpa using h⟩
theorem jT{j:Nat}:∀ {as:List AV} {i i':Nat},(lr as).Nodup->as[i]?=some (.n j)->as[i']?=some (.n j)->i=i'
 | [],_,_,_,e,_=>by simp at e
 | .n x::as,0,0,_,_,_=>rfl
 | .n x::as,0,i'+1,nd,e,e'=>by
  simp at e;subst e;exact absurd (dE (as:=as) (i:=i') (by simpa using e')) (List.nodup_cons.mp nd).1
 | .n x::as,i+1,0,nd,e,e'=>by
  simp at e';subst e';exact absurd (dE (as:=as) (i:=i) (by simpa using e)) (List.nodup_cons.mp nd).1
 | .n x::as,i+1,i'+1,nd,e,e'=>congrArg (·+1) (jT (as:=as) (i:=i) (i':=i') (List.nodup_cons.mp nd).2 (by simpa using e) (by simpa using e'))
 | .d _::as,0,_,_,e,_=>by simp at e
 | .d _::as,_+1,0,_,_,e=>by simp at e
 | .d _::as,i+1,i'+1,nd,e,e'=>congrArg (·+1) (jT (as:=as) (i:=i) (i':=i') nd (by simpa using e) (by simpa using e'))
 | .l _::as,0,_,_,e,_=>by simp at e
 | .l _::as,_+1,0,_,_,e=>by simp at e
 | .l _::as,i+1,i'+1,nd,e,e'=>congrArg (·+1) (jT (as:=as) (i:=i) (i':=i') nd (by simpa using e) (by simpa using e'))
theorem fR:∀(σ:Sd) (as:List AV) (bs:List B),(bI σ as bs).length=σ.length
 | σ,[],_=>by unfold bI;rfl
 | σ,.n j::as,[]=>by unfold bI;rfl
 | σ,.d _::as,[]=>by unfold bI;rfl
 | σ,.l _::as,[]=>by unfold bI;rfl
 | σ,.n j::as,b::bs=>by
  show(bI (σ.set j (some b)) as bs).length=_;rw[fR];simp
 | σ,.d _::as,b::bs=>fR σ as bs
 | σ,.l _::as,b::bs=>fR σ as bs
theorem dC{m:Nat}:∀(σ:Sd) (as:List AV) (bs:List B),m∉lr as->(bI σ as bs)[m]?=σ[m]?
 | σ,[],_,_=>by unfold bI;rfl
 | σ,.n j::as,[],_=>by unfold bI;rfl
 | σ,.d _::as,[],_=>by unfold bI;rfl
 | σ,.l _::as,[],_=>by unfold bI;rfl
 | σ,.n j::as,b::bs,h=>by
  have h:m≠j/\m∉lr as:=by simpa [lr]using h
  show(bI (σ.set j (some b)) as bs)[m]?=_;rw[dC _ as bs h.2,List.getElem?_set_ne (Ne.symm h.1)]
 | σ,.d _::as,b::bs,h=>dC σ as bs h
 | σ,.l _::as,b::bs,h=>dC σ as bs h
theorem fv{m:Nat}{b:B}:∀(σ:Sd) (as:List AV) (bs:List B) (i:Nat),(lr as).Nodup->as[i]?=some (.n m)->bs[i]?=some b->m<σ.length->(bI σ as bs)[m]?=some (some b)
 | σ,[],_,i,_,e,_,_=>by simp at e
 | σ,_::_,[],i,_,_,e,_=>by simp at e
 | σ,.n j::as,c::bs,0,nd,e,e',hl=>by
  simp at e e';subst e e';show(bI (σ.set j (some c)) as bs)[j]?=_;rw[dC _ as bs (List.nodup_cons.mp nd).1,List.getElem?_set_self hl]
 | σ,.n j::as,c::bs,i+1,nd,e,e',hl=>fv (σ.set j (some c)) as bs i (List.nodup_cons.mp nd).2 (by simpa using e) (by simpa using e') (by simpa using hl)
 | σ,.d _::as,c::bs,0,_,e,_,_=>by simp at e
 | σ,.d _::as,c::bs,i+1,nd,e,e',hl=>fv σ as bs i nd (by simpa using e) (by simpa using e') hl
 | σ,.l _::as,c::bs,0,_,e,_,_=>by simp at e
 | σ,.l _::as,c::bs,i+1,nd,e,e',hl=>fv σ as bs i nd (by simpa using e) (by simpa using e') hl
def ZT(Y:aV)(t:tS):TA:=λσ H Q=>∃F ah Qd,RS Y F ah σ H/\t ah Qd/\∀vs H' F' as ax,aj F F'->RS Y F' ax σ H'->cN F' σ vs as->Qd as ax->Q vs H'
structure Gv(G:GE)(k:Nat)(S:Stat)(es:List Expr)(t:tS):Prop where
 run:∀X Y,c7 X G k S Y->PA X es (ZT Y t)
variable {G:GE}{k:Nat}{S:Stat}
def dk:tS:=λσ Q=>Q [] σ
def gF(t:TD)(u:tS):tS:=λσ Q=>t σ λx av=>u av λas aH=>Q (.d x::as) aH
def YT(j:Nat)(u:tS):tS:=λσ Q=>(∃b,σ[j]?=some (some b))/\u σ λas aH=>Q (.n j::as) aH
def IQ(j:Nat)(u:tS):tS:=λσ Q=>(∃b,σ[j]?=some (some b))/\u σ λas aH=>Q (.l j::as) aH
theorem RS.bound{Y:aV}{F:Hp}{ah:Sd}{σ:St}{H:Hp}(R:RS Y F ah σ H){j:Nat}{b:B}(e:ah[j]?=some (some b)):∃v,σ[j]?=some (some v):=by
 cases b with
 | sh d=>obtain⟨v,h,_⟩:=R.sh j d e;exact⟨v,h⟩
 | own xs=>obtain⟨a,_,h,_⟩:=R.own j xs e;exact⟨_,h⟩
 | obj o=>obtain⟨a,h,_⟩:=R.ob.obj j o e;exact⟨_,h⟩
theorem bC:Gv G k S [] dk:=⟨λX Y ok=>g9 dJ λσ H Q q=>by
 obtain⟨F,ah,Qd,R,q,K⟩:=q;exact K [] H F [] ah (aj.refl _) R .nil q⟩
theorem dq{e:Expr}{es:List Expr}{t:TD}{u:tS}(h:ED G k S e t)(hs:Gv G k S es u)(he:∀env,starEach (e::es) env=(false,eval e env)::starEach es env:=by exactλ_=>Vc.cT rfl):Gv G k S (e::es) (gF t u):=⟨λX Y ok =>
 g9 (cu (h X Y ok) (hs.run X Y ok) (he _)) λσ H Q q=>by
  obtain⟨F,ah,Qd,R,q,K⟩:=q;refine⟨F,ah,_,R,q,λv1 H1 F1 x av s1 R1 r1 q1=>?_⟩;refine⟨F1,av,_,R1,q1,λvs H2 F2 as aH s2 R2 r2 q2=>?_⟩;exact K _ H2 F2 _ aH (s1.trans s2) R2 (.d (r1.mono s2) r2) q2⟩
section
variable {x:Str}{es:List Expr}{u:tS}{pos:Pos}
theorem Lp(j:Nat)(hs:Gv G k S es u)(hN:S.N[j]?=some x:=by rfl)(hv:S.sc.lookup x=some .local\/S.sc.lookup x=some .cell\/S.sc.lookup x=some .free:=by first|exact Or.inl rfl|exact Or.inr (Or.inl rfl)|exact Or.inr (Or.inr rfl))
  (hd:(x==("__debug__":Str))=false:=by decide) (jk:(x==("__classdict__":Str))=false:=by decide) (he:∀env,starEach (.Name x pos::es) env=(false,eval (.Name x pos) env)::starEach es env:=by exactλ_=>Vc.cT rfl):Gv G k S (.Name x pos::es) (YT j u):=⟨λX Y ok =>
 g9 (cu (eZ (X:=X) (i:=j) (by rw[ok.N];exact hN) (by unfold A6;rw[ok.sc];exact hv) hd jk) (hs.run X Y ok) (he _)) λσ H Q q=>by
  obtain⟨F,ah,Qd,R,⟨⟨b,e⟩,q⟩,K⟩:=q;obtain⟨v,ev⟩:=R.bound e;refine⟨v,ev,F,ah,_,R,q,λvs H2 F2 as aH s2 R2 r2 q2=>?_⟩;exact K _ H2 F2 _ aH s2 R2 (.n ev r2) q2⟩
theorem wK(j:Nat)(hs:Gv G k S es u)(hN:S.N[j]?=some x:=by rfl)(hv:S.sc.lookup x=some .local\/S.sc.lookup x=some .cell\/S.sc.lookup x=some .free:=by first|exact Or.inl rfl|exact Or.inr (Or.inl rfl)|exact Or.inr (Or.inr rfl))
  (hd:(x==("__debug__":Str))=false:=by decide) (jk:(x==("__classdict__":Str))=false:=by decide) (he:∀env,starEach (.Name x pos::es) env=(false,eval (.Name x pos) env)::starEach es env:=by exactλ_=>Vc.cT rfl):Gv G k S (.Name x pos::es) (IQ j u):=⟨λX Y ok =>
 g9 (cu (eZ (X:=X) (i:=j) (by rw[ok.N];exact hN) (by unfold A6;rw[ok.sc];exact hv) hd jk) (hs.run X Y ok) (he _)) λσ H Q q=>by
  obtain⟨F,ah,Qd,R,⟨⟨b,e⟩,q⟩,K⟩:=q;obtain⟨v,ev⟩:=R.bound e;refine⟨v,ev,F,ah,_,R,q,λvs H2 F2 as aH s2 R2 r2 q2=>?_⟩;exact K _ H2 F2 _ aH s2 R2 (.l ev r2) q2⟩
end
def Bg(ah:Sd)(σ:St)(js:List Nat)(c:Addr):Prop:=∃j∈js,∃(o:O) (a:Addr),ah[j]?=some (some (.obj o))/\σ[j]?=some (some (.ref a))/\c∈o.fp a
theorem nL{Y:aV}{F:Hp}{ah:Sd}{σ:St}{H:Hp}(R:RS Y F ah σ H):∀js:List Nat,∃F2,aj F F2/\aj F2 H/\(∀j∈js,∀(o:O) (d:D) (a:Addr),ah[j]?=some (some (.obj o))->o.view=some d->σ[j]?=some (some (.ref a))->Rep F2 (.ref a) d) /\
  (∀c u,F2 c=some u->F c=some u\/(dl u=true/\Bg ah σ js c))/\(js=[]->F2=F)
 | []=>⟨F,aj.refl _,R.fr,(λj hj=>by cases hj),(λc u z=>.inl z),λ_=>rfl⟩
 | j::js=>by
  obtain⟨F2,s1,s2,h1,h2,_⟩:=nL R js
  by_cases hq:∃o d,ah[j]?=some (some (.obj o))/\o.view=some d
  ·obtain⟨o,d,e1,e2⟩:=hq
   obtain⟨a,w1,w2,w3⟩:=R.ob.obj j o e1;have w2':o.rep F2 H a:=o.mono s1 (λ_ _=>rfl) w2;obtain⟨F3,s3,s4,r3,h3⟩:=o.lend s2 w2' e2;refine⟨F3,s1.trans s3,s4,λi hi o' d' a' f1 f2 f3=>?_,λc u z=>?_,λz=>nomatch z⟩
   ·rcases List.mem_cons.mp hi with rfl|hi
    ·rw[e1]at f1;cases f1
     rw[e2]at f2;cases f2;rw[w1]at f3;cases f3;exact r3
    ·exact(h1 i hi o' d' a' f1 f2 f3).mono s3
   ·rcases h3 c u z with z|⟨z1,z2⟩
    ·rcases h2 c u z with z|⟨z1,i,hi,z2⟩
     ·exact .inl z
     ·exact .inr ⟨z1,i,.tail _ hi,z2⟩
    ·exact .inr ⟨z1,j,.head _,o,a,e1,w1,z2⟩
  ·refine⟨F2,s1,s2,λi hi o' d' a' f1 f2 f3=>?_,λc u z=>?_,λz=>nomatch z⟩
   ·rcases List.mem_cons.mp hi with rfl|hi
    ·exact absurd ⟨o',d',f1,f2⟩ hq
    ·exact h1 i hi o' d' a' f1 f2 f3
   ·rcases h2 c u z with z|⟨z1,i,hi,z2⟩
    ·exact .inl z
    ·exact .inr ⟨z1,i,.tail _ hi,z2⟩
theorem BP{σ:Sd}{j:Nat}{b:B}(h:wH σ (.n j)=some b):σ[j]?=some (some b):=by
 have h:(match σ[j]? with|some (some b)=>some b|_=>none)=some b:=h
 split at h
 ·rename_i b' e;cases h;exact e
 ·cases h
theorem Ln{σ:Sd}{j:Nat}{b:B}(h:wH σ (.l j)=some b):∃d,b=.sh d/\(σ[j]?=some (some (.sh d))\/∃o,σ[j]?=some (some (.obj o))/\o.view=some d):=by
 have h:(match σ[j]? with|some (some (.obj o))=>o.view.map B.sh|some (some (.sh d))=>some (.sh d)|_=>none)=some b:=h
 split at h
 ·rename_i o e
  obtain⟨d,h1,h2⟩:=Option.map_eq_some_iff.mp h;exact⟨d,h2.symm,.inr ⟨o,e,h1⟩⟩
 ·rename_i d e;cases h;exact⟨d,rfl,.inl e⟩
 ·cases h
theorem wI{Y:aV}{F:Hp}{ah:Sd}{σ:St}{H:Hp}(R:RS Y F ah σ H){vs:List V}{as:List AV}{bs:List B}(ra:cN F σ vs as)(ea:dF ah as=some bs){i:Nat}{b:B}(e:bs[i]?=some b):
  (∃d v,b=.sh d/\vs[i]?=some v/\(Rep F v d\/∃(j:Nat) (o:O) (a:Addr),as[i]?=some (.l j)/\v=.ref a/\ah[j]?=some (some (.obj o))/\σ[j]?=some (some (.ref a))/\o.view=some d)) \/
  ∃(j:Nat) (v:V),as[i]?=some (.n j)/\ah[j]?=some (some b)/\vs[i]?=some v/\σ[j]?=some (some v):=by
 obtain⟨a,h1,h2⟩:=kS ea e;cases a with
 | d x =>
  cases h2;obtain⟨v,g1,g2⟩:=ra.gd h1;exact .inl ⟨x,v,rfl,g1,.inl g2⟩
 | n j =>
  obtain⟨v,g1,g2⟩:=ra.gn (.inl h1);exact .inr ⟨j,v,h1,BP h2,g1,g2⟩
 | l j =>
  obtain⟨d,rfl,h3⟩:=Ln h2;obtain⟨v,g1,g2⟩:=ra.gn (.inr h1);refine .inl ⟨d,v,rfl,g1,?_⟩;rcases h3 with h3|⟨o,h3,h4⟩
  ·obtain⟨v',f1,f2⟩:=R.sh j d h3
   rw[g2]at f1;cases f1;exact .inl f2
  ·obtain⟨a,f1,_⟩:=R.ob.obj j o h3
   rw[g2]at f1;cases f1;exact .inr ⟨j,o,a,h1,rfl,h3,g2,h4⟩
theorem GX{Y:aV}{F F2:Hp}{ah:Sd}{σ:St}{H:Hp}(R:RS Y F ah σ H){vs:List V}{as:List AV}{bs:List B}(ra:cN F σ vs as)(ea:dF ah as=some bs)(nd:(lr as).Nodup)(hl:∀j∈yQ as,j∉lr as)
  (s1:aj F F2) (h1:∀j∈yQ as,∀(o:O) (d:D) (a:Addr),ah[j]?=some (some (.obj o))->o.view=some d->σ[j]?=some (some (.ref a))->Rep F2 (.ref a) d) (h2:∀c u,F2 c=some u->F c=some u\/(dl u=true/\Bg ah σ (yQ as) c)):iT F2 H vs bs:=by
 have vB:∀ {i:Nat} {b:B},bs[i]?=some b->(∀d,b≠.sh d)->∃j v,as[i]?=some (.n j)/\ah[j]?=some (some b)/\vs[i]?=some v/\σ[j]?=some (some v):=λe n=>by
  rcases wI R ra ea e with⟨d,v,z,_⟩|z
  ·exact absurd z (n d)
  ·exact z
 have free:∀ {j:Nat} {c:Addr},j∉yQ as->F c=none->(∀i∈yQ as,∀(o:O) (a:Addr),ah[i]?=some (some (.obj o))->σ[i]?=some (some (.ref a))->c∉o.fp a)->F2 c=none:=λ{j c} _ e n=>by
  cases q:F2 c with
  | none=>rfl
  | some u =>
   rcases h2 c u q with z|⟨_,i,hi,o,a,f1,f2,f3⟩
   ·rw[e]at z;cases z
   ·exact absurd f3 (n i hi o a f1 f2)
 refine⟨ra.length.trans (kT ea),λi d e=>?_,λi xs e=>?_,λi o e=>?_,λi j xs ys a e1 e2 e3 e4=>?_,λi j o p a b e1 e2 e3 e4 Ha=>?_,λi j xs o a b e1 e2 e3 e4=>?_⟩
 ·rcases wI R ra ea e with⟨d',v,z,g1,g2⟩|⟨j,v,g1,g2,g3,g4⟩
  ·cases z
   refine⟨v,g1,?_⟩;rcases g2 with g2|⟨j,o,a,f1,rfl,f3,f4,f5⟩
   ·exact g2.mono s1
   ·exact h1 j (mN f1) o d a f3 f5 f4
  ·obtain⟨v',f1,f2⟩:=R.sh j d g2
   rw[g4]at f1;cases f1;exact⟨v,g3,f2.mono s1⟩
 ·obtain⟨j,v,g1,g2,g3,g4⟩:=vB e (λd z=>nomatch z)
  obtain⟨a,us,f1,f2,f3,f4,f5⟩:=R.own j xs g2;rw[g4]at f1;cases f1;refine⟨a,us,g3,f2,f3.mono s1,free (j:=j) (λz=>hl j z (dE g1)) f4 λi hi o b q1 q2 q3=>R.ob.gy j xs a g2 g4 ⟨i,o,b,q1,q2,q3⟩⟩
 ·obtain⟨j,v,g1,g2,g3,g4⟩:=vB e (λd z=>nomatch z)
  obtain⟨a,f1,f2,f3⟩:=R.ob.obj j o g2;rw[g4]at f1;cases f1;refine⟨a,g3,o.mono s1 (λ_ _=>rfl) f2,λc hc=>⟨free (j:=j) (λz=>hl j z (dE g1)) (f3 c hc).1 λi hi p b q1 q2 q3=>?_,(f3 c hc).2.1⟩⟩;exact R.ob.ng j i o p a b g2 q1 g4 q2 (λz=>hl i hi (z ▸ dE g1)) c hc q3
 ·obtain⟨m,v,g1,g2,g3,g4⟩:=vB e1 (λd z=>nomatch z)
  obtain⟨n,w,y1,y2,y3,y4⟩:=vB e2 (λd z=>nomatch z);rw[e3]at g3;cases g3;rw[e4]at y3;cases y3;have:=R.dis m n xs ys a g2 y2 g4 y4;subst this;exact jT nd g1 y1
 ·obtain⟨m,v,g1,g2,g3,g4⟩:=vB e1 (λd z=>nomatch z)
  obtain⟨n,w,y1,y2,y3,y4⟩:=vB e2 (λd z=>nomatch z);rw[e3]at g3;cases g3;rw[e4]at y3;cases y3;exact R.ob.ng m n o p a b g2 y2 g4 y4 λz=>Ha (jT nd g1 (z ▸ y1))
 ·obtain⟨m,v,g1,g2,g3,g4⟩:=vB e1 (λd z=>nomatch z)
  obtain⟨n,w,y1,y2,y3,y4⟩:=vB e3 (λd z=>nomatch z);rw[e2]at g3;cases g3;rw[e4]at y3;cases y3;exactλz=>R.ob.gy m xs b g2 g4 ⟨n,o,a,y2,y4,z⟩
end Vc
namespace Vc
open PySem L2
variable [KF]
section
variable {Y:aV}{F:Hp}{ah:Sd}{σ:St}{H:Hp}{vs:List V}{as:List AV}{bs bs':List B}
theorem qK(R:RS Y F ah σ H)(ra:cN F σ vs as)(ea:dF ah as=some bs){i:Nat}{b:B}(e:bs[i]?=some b)(n:∀d,b≠.sh d):∃j v,as[i]?=some (.n j)/\ah[j]?=some (some b)/\vs[i]?=some v/\σ[j]?=some (some v):=by
 rcases wI R ra ea e with⟨d,v,z,_⟩|z
 ·exact absurd z (n d)
 ·exact z
theorem yd(ra:cN F σ vs as)(ea:dF ah as=some bs){i m:Nat}(e:as[i]?=some (.n m)):∃b v,bs[i]?=some b/\ah[m]?=some (some b)/\vs[i]?=some v/\σ[m]?=some (some v):=by
 have hi:i<bs.length:=by rw[<- kT ea];exact(List.getElem?_eq_some_iff.mp e).1
 have hb:bs[i]?=some bs[i]:=List.getElem?_eq_getElem hi;obtain⟨a,h1,h2⟩:=kS ea hb;rw[e]at h1;cases h1;obtain⟨v,g1,g2⟩:=ra.gn (.inl e);exact⟨_,v,hb,BP h2,g1,g2⟩
theorem qM(ra:cN F σ vs as)(ea:dF ah as=some bs)(nd:(lr as).Nodup)(lk:dm bs bs'){m:Nat}{b:B}(e:(bI ah as bs')[m]?=some (some b)):(m∉lr as/\ah[m]?=some (some b))\/∃i:Nat,as[i]?=some (AV.n m)/\bs'[i]?=some b:=by
 by_cases hm:m∈lr as
 ·obtain⟨i,hi⟩:=jU hm
  obtain⟨c,v,g1,g2,_⟩:=yd ra ea hi;have hl:i<bs'.length:=by rw[<- lk.len];exact(List.getElem?_eq_some_iff.mp g1).1
  have hb:bs'[i]?=some bs'[i]:=List.getElem?_eq_getElem hl;have:=fv ah as bs' i nd hi hb (List.getElem?_eq_some_iff.mp g2).1;rw[this]at e;cases e;exact .inr ⟨i,hi,hb⟩
 ·rw[dC _ _ _ hm]at e
  exact .inl ⟨hm,e⟩
theorem ub(R:RS Y F ah σ H)(ra:cN F σ vs as)(ea:dF ah as=some bs)(nd:(lr as).Nodup)(lk:dm bs bs'){m:Nat}{p:O}(e:(bI ah as bs')[m]?=some (some (.obj p))):∃o,ah[m]?=some (some (.obj o))/\p.fp=o.fp:=by
 rcases qM ra ea nd lk e with⟨_,e⟩|⟨i,h1,h2⟩
 ·exact⟨p,e,rfl⟩
 ·obtain⟨o,h3,h4,_⟩:=lk.Az h2
  obtain⟨j,v,g1,g2,_⟩:=qK R ra ea h3 (λd z=>nomatch z);rw[h1]at g1;cases g1;exact⟨o,g2,h4⟩
theorem uc(R:RS Y F ah σ H)(ra:cN F σ vs as)(ea:dF ah as=some bs)(nd:(lr as).Nodup)(lk:dm bs bs'){m:Nat}{ys:List D}(e:(bI ah as bs')[m]?=some (some (.own ys))):∃xs,ah[m]?=some (some (.own xs)):=by
 rcases qM ra ea nd lk e with⟨_,e⟩|⟨i,h1,h2⟩
 ·exact⟨ys,e⟩
 ·obtain⟨xs,h3⟩:=lk.AH h2
  obtain⟨j,v,g1,g2,_⟩:=qK R ra ea h3 (λd z=>nomatch z);rw[h1]at g1;cases g1;exact⟨xs,g2⟩
theorem yg(R:RS Y F ah σ H)(ra:cN F σ vs as)(ea:dF ah as=some bs)(nd:(lr as).Nodup)(lk:dm bs bs'){a:Addr}(h:H a=none):cw (bI ah as bs') σ a:=by
 refine⟨λj ys e z=>?_,λ⟨j,p,c,e1,e2,hm⟩=>?_⟩
 ·obtain⟨xs,e'⟩:=uc R ra ea nd lk e
  obtain⟨c,us,f1,f2,_⟩:=R.own j xs e';rw[z]at f1;cases f1;rw[f2]at h;cases h
 ·obtain⟨o,f1,f2⟩:=ub R ra ea nd lk e1
  obtain⟨c',g1,_,g3⟩:=R.ob.obj j o f1;rw[e2]at g1;cases g1;exact(g3 a (by rw[<- f2];exact hm)).2.1 h
end
theorem RS.BU{Y:aV}{F F':Hp}{ah:Sd}{σ:St}{H H':Hp}(R:RS Y F ah σ H){vs:List V}{as:List AV}{bs bs':List B}(ra:cN F σ vs as)(ea:dF ah as=some bs)(nd:(lr as).Nodup)(lk:dm bs bs')
  (s1:aj F F') (s2:aj F' H') (fm:∀c o,¬gL vs bs c->H c=some o->H' c=some o) (fn:∀c,gL vs bs c->H' c≠none) (fr:∀c o,F' c=some o->F c=some o\/Nw H c o)
  (ow:∀(i:Nat) (xs:List D),bs'[i]?=some (.own xs)->∃a us,vs[i]?=some (.ref a)/\H' a=some (.lst us)/\ay F' us xs/\F' a=none)
  (oj:∀(i:Nat) (o:O),bs'[i]?=some (.obj o)->∃a,vs[i]?=some (.ref a)/\o.rep F' H' a/\∀c∈o.fp a,F' c=none/\H' c≠none):RS Y F' (bI ah as bs') σ H':=by
 have vB:∀ {i:Nat} {b:B},bs[i]?=some b->(∀d,b≠.sh d)->∃j v,as[i]?=some (.n j)/\ah[j]?=some (some b)/\vs[i]?=some v/\σ[j]?=some (some v):=λe n=>qK R ra ea e n;have inn:∀ {i m:Nat},as[i]?=some (.n m)->∃b v,bs[i]?=some b/\ah[m]?=some (some b)/\vs[i]?=some v/\σ[m]?=some (some v):=λe=>yd ra ea e;have st:∀ {m:Nat} {b:B},(bI ah as bs')[m]?=some (some b)->(m∉lr as/\ah[m]?=some (some b))\/∃i:Nat,as[i]?=some (AV.n m)/\bs'[i]?=some b:=λe=>qM ra ea nd lk e;have stO:∀ {m:Nat} {p:O},(bI ah as bs')[m]?=some (some (.obj p))->∃o,ah[m]?=some (some (.obj o))/\p.fp=o.fp:=λe=>ub R ra ea nd lk e;have stX:∀ {m:Nat} {ys:List D},(bI ah as bs')[m]?=some (some (.own ys))->∃xs,ah[m]?=some (some (.own xs)):=λe=>uc R ra ea nd lk e
 -- what is no argument is not touched
 have nfx:∀ {m:Nat} {xs:List D} {a:Addr},m∉lr as->ah[m]?=some (some (.own xs))->σ[m]?=some (some (.ref a))->¬gL vs bs a:=λ{m xs a} hm e1 e2 z=>by
  rcases z with⟨i,ys,z1,z2⟩|⟨i,o,b,z1,z2,z3⟩
  ·obtain⟨j,v,g1,g2,g3,g4⟩:=vB z1 (λd z=>nomatch z)
   rw[z2]at g3;cases g3;have:=R.dis m j xs ys a e1 g2 e2 g4;exact hm (this ▸ dE g1)
  ·obtain⟨j,v,g1,g2,g3,g4⟩:=vB z1 (λd z=>nomatch z)
   rw[z2]at g3;cases g3;exact R.ob.gy m xs a e1 e2 ⟨j,o,b,g2,g4,z3⟩
 have nfo:∀ {m:Nat} {o:O} {a c:Addr},m∉lr as->ah[m]?=some (some (.obj o))->σ[m]?=some (some (.ref a))->c∈o.fp a->¬gL vs bs c:=λ{m o a c} hm e1 e2 hc z=>by
  rcases z with⟨i,ys,z1,z2⟩|⟨i,p,b,z1,z2,z3⟩
  ·obtain⟨j,v,g1,g2,g3,g4⟩:=vB z1 (λd z=>nomatch z)
   rw[z2]at g3;cases g3;exact R.ob.gy j ys c g2 g4 ⟨m,o,a,e1,e2,hc⟩
  ·obtain⟨j,v,g1,g2,g3,g4⟩:=vB z1 (λd z=>nomatch z)
   rw[z2]at g3;cases g3;exact R.ob.ng m j o p a b e1 g2 e2 g4 (λy=>hm (y ▸ dE g1)) c hc z3
 have up:∀ {c:Addr},H c≠none->H' c≠none:=λ{c} h=>by
  by_cases hf:gL vs bs c
  ·exact fn c hf
  ·cases q:H c with
   | none=>exact absurd q h
   | some o=>rw[fm c o hf q];exactλz=>nomatch z
 have kp:∀ {c:Addr},¬gL vs bs c->H c≠none->H' c=H c:=λ{c} hf h=>by
  cases q:H c with
  | none=>exact absurd q h
  | some o=>exact fm c o hf q
 have fz:∀ {c:Addr},¬gL vs bs c->F c=none->H c≠none->(∀us,H c≠some (.tup us))->F' c=none:=λ{c} hf h1 h2 h3=>by
  cases q:F' c with
  | none=>rfl
  | some o =>
   rcases fr c o q with w|w|⟨us,rfl⟩
   ·rw[h1]at w;cases w
   ·exact absurd w h2
   ·have:=s2 c _ q
    rw[kp hf h2]at this;exact absurd this (h3 us)
 have aa8:∀ {c:Addr},gL vs bs c->Y.H0 c=none\/c∈Y.rG:=λ{c} z=>by
  rcases z with⟨i,ys,z1,z2⟩|⟨i,p,b,z1,z2,z3⟩
  ·obtain⟨j,v,g1,g2,g3,g4⟩:=vB z1 (λd z=>nomatch z)
   rw[z2]at g3;cases g3;obtain⟨a,us,f1,_,_,_,f5⟩:=R.own j ys g2;rw[g4]at f1;cases f1;exact f5.imp id λy=>List.mem_append_left _ y
  ·obtain⟨j,v,g1,g2,g3,g4⟩:=vB z1 (λd z=>nomatch z)
   rw[z2]at g3;cases g3;obtain⟨a,f1,_,f3⟩:=R.ob.obj j p g2;rw[g4]at f1;cases f1;exact(f3 c z3).2.2.imp id λy=>List.mem_append_right _ y
 refine⟨by rw[fR];exact R.len,R.lo.trans s1,s2,λb o q=>?_,λb o q n=>?_,λm d e=>?_,λm ys e=>?_,λm n ys zs a e1 e2 e3 e4=>?_,λp hp=>?_,⟨λm p e=>?_,λm n p q a b e1 e2 e3 e4 cC c hc yE=>?_,λn ys b e1 e2 ⟨m,p,a,e3,e4,hm⟩=>?_,λb hb=>up (R.ob.there b hb),R.ob.Ja,R.ob.tab.mono s1⟩⟩
 ·rcases fr b o q with h|h
  ·exact R.dA b o h
  ·exact .inr (h.imp (λh=>(R.bw h).1) id)
 ·refine fm b o (λz=>?_) (R.old b o q n)
  rcases aa8 z with y|y
  ·rw[q]at y;cases y
  ·exact n y
 ·have e0:ah[m]?=some (some (.sh d)):=by
   rcases st e with⟨_,e⟩|⟨i,h1,h2⟩
   ·exact e
   ·obtain⟨b,v,g1,g2,_⟩:=inn h1
    rw[lk.shr h2]at g1;cases g1;exact g2
  obtain⟨v,h1,h2⟩:=R.sh m d e0;exact⟨v,h1,h2.mono s1⟩
 ·rcases st e with⟨hm,e⟩|⟨i,h1,h2⟩
  ·obtain⟨a,us,g1,g2,g3,g4,g5⟩:=R.own m ys e
   have nf:=nfx hm e g1;exact⟨a,us,g1,fm a _ nf g2,g3.mono s1,fz nf g4 (by rw[g2];exactλz=>nomatch z) (λus z=>by rw[g2]at z;cases z),g5⟩
  ·obtain⟨a,us,g1,g2,g3,g4⟩:=ow i ys h2
   obtain⟨xs,h3⟩:=lk.AH h2;obtain⟨j,v,f1,f2,f3,f4⟩:=vB h3 (λd z=>nomatch z);rw[h1]at f1;cases f1;rw[g1]at f3;cases f3;obtain⟨a',Td,k1,_,_,_,k5⟩:=R.own m xs f2;rw[f4]at k1;cases k1;exact⟨a,us,f4,g2,g3,g4,k5⟩
 ·obtain⟨xs,h1⟩:=stX e1
  obtain⟨qE,h2⟩:=stX e2;exact R.dis m n xs qE a h1 h2 e3 e4
 ·obtain⟨h1,xs,h2⟩:=R.io p hp
  refine⟨h1,?_⟩
  by_cases hm:p.1∈lr as
  ·obtain⟨i,hi⟩:=jU hm
   obtain⟨b,v,g1,g2,_⟩:=inn hi;rw[h2]at g2;cases g2;obtain⟨ys,h3⟩:=lk.XI g1;exact⟨ys,fv ah as bs' i nd hi h3 (List.getElem?_eq_some_iff.mp h2).1⟩
  ·exact⟨xs,by rw[dC _ _ _ hm];exact h2⟩
 ·rcases st e with⟨hm,e⟩|⟨i,h1,h2⟩
  ·obtain⟨a,g1,g2,g3⟩:=R.ob.obj m p e
   have nf:∀c∈p.fp a,¬gL vs bs c:=λc hc=>nfo hm e g1 hc;refine⟨a,g1,p.mono s1 (λc hc=>kp (nf c hc) (g3 c hc).2.1) g2,λc hc=>⟨fz (nf c hc) (g3 c hc).1 (g3 c hc).2.1 (λus z=>p.nt g2 hc z),up (g3 c hc).2.1,(g3 c hc).2.2⟩⟩
  ·obtain⟨a,g1,g2,g3⟩:=oj i p h2
   obtain⟨o,h3,h4,_⟩:=lk.Az h2;obtain⟨j,v,f1,f2,f3,f4⟩:=vB h3 (λd z=>nomatch z);rw[h1]at f1;cases f1;rw[g1]at f3;cases f3;obtain⟨a',k1,_,k3⟩:=R.ob.obj m o f2;rw[f4]at k1;cases k1;exact⟨a,f4,g2,λc hc=>⟨(g3 c hc).1,(g3 c hc).2,(k3 c (by rw[<- h4];exact hc)).2.2⟩⟩
 ·obtain⟨o,f1,f2⟩:=stO e1
  obtain⟨o',f3,f4⟩:=stO e2;exact R.ob.ng m n o o' a b f1 f3 e3 e4 cC c (by rw[<- f2];exact hc) (by rw[<- f4];exact yE)
 ·obtain⟨xs,h1⟩:=stX e1
  obtain⟨o,f1,f2⟩:=stO e3;exact R.ob.gy n xs b h1 e2 ⟨m,o,a,f1,e4,by rw[<- f2];exact hm⟩
variable {G:GE}{k:Nat}{S:Stat}
def CM(sp:iU)(bs:List B)(Q:B->List B->Prop):Prop:=sp bs Q
def lM(sp:iU)(as:List AV)(σ:Sd)(Q:EV->Sd->Prop):Prop:=match dF σ as with
 | some bs=>(lr as).Nodup/\(∀j∈yQ as,j∉lr as)/\CM sp bs λb bs'=>(yQ as=[]\/(noB b=true/\bs'.all OY=true))/\Q (bE b) (bI σ as bs')
 | none=>False
theorem gQ{Y:aV}{F:Hp}{ah:Sd}{σ:St}{H:Hp}{sp:iU}{as:List AV}{vs:List V}{Qd:EV->Sd->Prop}{Q:VK}{E:XK}(R:RS Y F ah σ H)(ra:cN F σ vs as)(q:lM sp as ah Qd)
  (K:∀v H' F' x ax,aj F F'->RS Y F' ax σ H'->BK Y F' H' ax σ v x->Qd x ax->Q v H'):cU sp vs H Q E:=by
 unfold lM at q
 split at q
 ·rename_i bs ea
  obtain⟨nd,hl,q⟩:=q;obtain⟨F2,s1,s2,h1,h2,h3⟩:=nL R (yQ as);have ar:=GX R ra ea nd hl s1 h1 h2;refine⟨F2,bs,_,⟨s2,R.ob.tab.mono s1⟩,ar,q,λv H' F' b bs' t1 t2 fm fn ar' lk fr rr qq=>?_⟩;obtain⟨hn,qq⟩:=qq
  -- what was lent is given back
  obtain⟨F3,e3⟩:∃F3:Hp,F3=λc=>@ite _ (F c=none/\F2 c≠none) (Classical.propDecidable _) none (F' c):=⟨_,rfl⟩;have Gz:∀c,(F3 c=none/\F c=none/\F2 c≠none)\/F3 c=F' c:=λc=>by
   by_cases z:F c=none/\F2 c≠none
   ·exact .inl ⟨by rw[e3];exact if_pos z,z⟩
   ·exact .inr (by rw[e3];exact if_neg z)
  have u1:aj F F3:=λc u z=>by
   rcases Gz c with⟨_,y,_⟩|y
   ·rw[z]at y;cases y
   ·rw[y];exact t1 c u (s1 c u z)
  have u2:∀c u,F3 c=some u->F' c=some u:=λc u z=>by
   rcases Gz c with⟨y,_⟩|y
   ·rw[z]at y;cases y
   ·rw[<- y];exact z
  have u3:aj F3 H':=λc u z=>t2 c u (u2 c u z);have u4:∀c o,F3 c=some o->F c=some o\/Nw H c o:=λc o z=>by
   rcases fr c o (u2 c o z)with y|y
   ·rcases Gz c with⟨y1,_⟩|y1
    ·rw[z]at y1;cases y1
    ·cases qF:F c with
     | some u=>rw[s1 c u qF]at y;cases y;exact .inl rfl
     | none =>
      exfalso;have:F3 c=none:=by rw[e3];exact if_pos ⟨qF,by rw[y];exactλz=>nomatch z⟩
      rw[z]at this;cases this
   ·exact .inr y
  have gf:yQ as=[]->F3=F':=λe=>by
   have:=h3 e;subst this;funext c;rcases Gz c with⟨_,y1,y2⟩|y
   ·exact absurd y1 y2
   ·exact y
  have hs:∀c u,F' c=some u->F3 c=some u\/dl u=true:=λc u z=>by
   rcases Gz c with⟨_,y1,y2⟩|y
   ·right
    cases q2:F2 c with
    | none=>exact absurd q2 y2
    | some w =>
     have:=t1 c w q2;rw[z]at this;cases this;rcases h2 c u q2 with y|⟨y,_⟩
     ·rw[y1]at y;cases y
     ·exact y
   ·rw[y];exact .inl z
  have aa9:∀(i:Nat) (xs:List D),bs'[i]?=some (.own xs)->∃a us,vs[i]?=some (.ref a)/\H' a=some (.lst us)/\ay F3 us xs/\F3 a=none:=λi xs e=>by
   obtain⟨a,us,g1,g2,g3,g4⟩:=ar'.own i xs e;refine⟨a,us,g1,g2,?_,?_⟩
   ·rcases hn with hn|⟨_,hn⟩
    ·rw[gf hn];exact g3
    ·exact ay.gf hs g3 (List.all_eq_true.mp hn _ (List.mem_of_getElem? e))
   ·cases y:F3 a with
    | none=>rfl
    | some u=>rw[u2 a u y]at g4;cases g4
  have aa5:∀(i:Nat) (o:O),bs'[i]?=some (.obj o)->∃a,vs[i]?=some (.ref a)/\o.rep F3 H' a/\∀c∈o.fp a,F3 c=none/\H' c≠none:=λi o e=>by
   obtain⟨a,g1,g2,g3⟩:=ar'.obj i o e;rcases hn with hn|⟨_,hn⟩
   ·rw[gf hn];exact⟨a,g1,g2,g3⟩
   ·have:=List.all_eq_true.mp hn _ (List.mem_of_getElem? e)
    cases this
  have R3:=R.BU ra ea nd lk u1 u3 fm fn u4 aa9 aa5;refine K v H' F3 (bE b) _ u1 R3 ?_ qq;cases b with
  | sh d =>
   have rr:Rep F' v d:=rr;show Rep F3 v d;rcases hn with hn|⟨hn,_⟩
   ·rw[gf hn];exact rr
   ·exact Rep.gf hs rr hn
  | own xs =>
   obtain⟨a,us,rfl,w1,w2,w3,w4⟩:=rr;refine⟨a,us,rfl,w1,?_,?_,(R.bw w4).1,?_⟩
   ·rcases hn with hn|⟨hn,_⟩
    ·rw[gf hn];exact w2
    ·exact ay.gf hs w2 hn
   ·cases y:F3 a with
    | none=>rfl
    | some u=>rw[u2 a u y]at w3;cases w3
   ·exact yg R ra ea nd lk w4
  | obj o =>
   obtain⟨a,rfl,w1,w2⟩:=rr;rcases hn with hn|⟨hn,_⟩
   ·rw[gf hn]
    exact⟨a,rfl,w1,λc hc=>⟨(w2 c hc).1,(w2 c hc).2.1,(R.bw (w2 c hc).2.2).1,yg R ra ea nd lk (w2 c hc).2.2⟩⟩
   ·cases hn
 ·exact q.elim
def T1(sp:iU)(t:tS):TX:=λσ Q=>t σ λas av=>lM sp as av Q
theorem mR{x:Str}{sp:iU}{e:Expr}{es:List Expr}{t:tS}{p pos:Pos}(h:qG G k x sp)(ha:Gv G k S (e::es) t)(hg:S.sc.lookup x=some .globalImplicit:=by rfl)(mB:(x==("__debug__":Str))=false:=by decide)
  (he:∀env,starEach (e::es) env=(false,eval e env)::starEach es env:=by exactλ_=>Vc.cT rfl) (dI:∀env,(backTo pos (starEach es env)).any (·.1)=false:=by intro _;rfl) (hh:S.gm=false:=by rfl):EX G k S (.Call (.Name x p) (e::es) [] pos) (T1 sp t):=.mk λX Y ok=>by
 obtain⟨f,fd,ps,h1,h2,h3,h4⟩:=h;have uX:cn X.prog X.w X.K X.mg X.base iL k f fd ps (cU sp):=by rw[ok.P,ok.w,ok.K,ok.mg,ok.base];exact h1
 refine aM (mQ (E:=E0) (dvs:=[]) (ds:=[]) uX (ok.room hh) (eu ok hg) (by rw[ok.mg];exact h2) (by rw[ok.K];exact h3) (by rw[ok.K];exact h4) .nil jX (ha.run X Y ok) mB (he _) (dI _)) λσ H Q q=>?_
 obtain⟨F,ah,Qd,R,q,K⟩:=q;refine⟨F,ah,_,R,q,λvs H1 F1 as av s1 R1 r1 q1=>?_⟩;show cU sp (vs++[]) H1 Q E0;rw[List.append_nil];exact gQ R1 r1 q1 λv H' F' x ax s R' rx qx=>K v H' F' x ax (s1.trans s) R' rx qx
end Vc
namespace Vc
open PySem L2
variable [KF]
variable {G:GE}{k:Nat}{S:Stat}
def cE(n:Nat)(bs:List B):Sd:=bs.map some++List.replicate (n-bs.length) none
theorem cJ{α:Type}{xs:List α}{m i:Nat}{x:α}(h:(xs.map some++List.replicate m none)[i]?=some (some x)):xs[i]?=some x:=by
 rw[List.getElem?_append]at h
 split at h
 ·rw[List.getElem?_map]at h
  obtain⟨y,h1,h2⟩:=Option.map_eq_some_iff.mp h;cases h2;exact h1
 ·rw[List.getElem?_replicate]at h
  split at h<;>cases h
theorem oQ{α:Type}{xs:List α}{m i:Nat}{x:α}(h:xs[i]?=some x):(xs.map some++List.replicate m none)[i]?=some (some x):=by
 rw[List.getElem?_append_left (by rw[List.length_map];exact(List.getElem?_eq_some_iff.mp h).1),List.getElem?_map,h];rfl
def rH(vs:List V)(bs:List B):List (Nat×Addr):=(List.range bs.length).filterMap λ(i:Nat)=>match bs[i]?,vs[i]? with
 | some (.own _),some (.ref a)=>some (i,a)
 | _,_=>none
def vC(vs:List V)(bs:List B):List Addr:=(List.range bs.length).flatMap λ(i:Nat)=>match bs[i]?,vs[i]? with
 | some (.obj o),some (.ref a)=>o.fp a
 | _,_=>[]
theorem eB{vs:List V}{bs:List B}{i:Nat}{a:Addr}:(i,a)∈rH vs bs ↔ ∃xs,bs[i]?=some (.own xs)/\vs[i]?=some (.ref a):=by
 unfold rH;rw[List.mem_filterMap];constructor
 ·rintro⟨j,_,h⟩
  split at h
  ·rename_i xs b e1 e2
   cases h;exact⟨xs,e1,e2⟩
  ·cases h
 ·rintro⟨xs,e1,e2⟩
  exact⟨i,List.mem_range.mpr (List.getElem?_eq_some_iff.mp e1).1,by rw[e1,e2]⟩
theorem jQ{vs:List V}{bs:List B}{c:Addr}:c∈vC vs bs ↔ ∃(i:Nat) (o:O) (a:Addr),bs[i]?=some (.obj o)/\vs[i]?=some (.ref a)/\c∈o.fp a:=by
 unfold vC;rw[List.mem_flatMap];constructor
 ·rintro⟨j,_,h⟩
  split at h
  ·rename_i o b e1 e2
   exact⟨j,o,b,e1,e2,h⟩
  ·cases h
 ·rintro⟨i,o,a,e1,e2,e3⟩
  exact⟨i,List.mem_range.mpr (List.getElem?_eq_some_iff.mp e1).1,by rw[e1,e2];exact e3⟩
theorem qZ{vs:List V}{bs:List B}{F H:Hp}{c:Addr}:c∈(aV.mk H F (rH vs bs) (vC vs bs)).rG ↔ gL vs bs c:=by
 unfold aV.rG gL;rw[List.mem_append,jQ,List.mem_map];constructor
 ·rintro(⟨⟨i,a⟩,h1,h2⟩|h)
  ·have h2:a=c:=h2
   subst h2;obtain⟨xs,e1,e2⟩:=eB.mp h1;exact .inl ⟨i,xs,e1,e2⟩
  ·exact .inr h
 ·rintro(⟨i,xs,e1,e2⟩|h)
  ·exact .inl ⟨(i,c),eB.mpr ⟨xs,e1,e2⟩,rfl⟩
  ·exact .inr h
theorem RS.cE{F H:Hp}{vs:List V}{bs:List B}(n:Nat)(s:lL F H)(r:iT F H vs bs):RS ⟨H,F,rH vs bs,vC vs bs⟩ F (Vc.cE n bs) (vs.map some++List.replicate (n-vs.length) none) H where
 len:=by unfold Vc.cE;simp [r.len]
 lo:=aj.refl _
 fr:=s.1
 dA:=λb o e=>.inl e
 old:=λb o e _=>e
 sh:=λi d e=>by
  obtain⟨v,h1,h2⟩:=r.sh i d (cJ e);exact⟨v,oQ h1,h2⟩
 own:=λi xs e=>by
  obtain⟨a,us,h1,h2,h3,h4⟩:=r.own i xs (cJ e);exact⟨a,us,oQ h1,h2,h3,h4,.inr (List.mem_map.mpr ⟨(i,a),eB.mpr ⟨xs,cJ e,h1⟩,rfl⟩)⟩
 dis:=λi j xs ys a e1 e2 e3 e4=>r.dis i j xs ys a (cJ e1) (cJ e2) (cJ e3) (cJ e4)
 io:=λp hp=>by
  obtain⟨i,a⟩:=p;obtain⟨xs,e1,e2⟩:=eB.mp hp;exact⟨oQ e2,xs,oQ e1⟩
 ob:=by
  refine⟨λi o e=>?_,λi j o p a b e1 e2 e3 e4 Ha=>r.ng i j o p a b (cJ e1) (cJ e2) (cJ e3) (cJ e4) Ha,λj xs b e1 e2 ⟨i,o,a,e3,e4,hm⟩=>r.gy i j xs o a b (cJ e1) (cJ e2) (cJ e3) (cJ e4) hm,λb hb=>?_,λb hb=>?_,s.2⟩
  ·obtain⟨a,h1,h2,h3⟩:=r.obj i o (cJ e)
   exact⟨a,oQ h1,h2,λc hc=>⟨(h3 c hc).1,(h3 c hc).2,.inr (jQ.mpr ⟨i,o,a,cJ e,h1,hc⟩)⟩⟩
  ·obtain⟨i,o,a,e1,e2,e3⟩:=jQ.mp hb
   obtain⟨a',h1,_,h3⟩:=r.obj i o e1;rw[e2]at h1;cases h1;exact(h3 b e3).2
  ·obtain⟨i,o,a,e1,e2,e3⟩:=jQ.mp hb
   obtain⟨a',h1,_,h3⟩:=r.obj i o e1;rw[e2]at h1;cases h1;exact(h3 b e3).2
def gN:Nat->List B->List B->Sd->Prop
 | i,.sh _::bs,_::cs,σ=>gN (i+1) bs cs σ
 | i,.own _::bs,c::cs,σ=>σ[i]?=some (some c)/\gN (i+1) bs cs σ
 | i,.obj _::bs,c::cs,σ=>σ[i]?=some (some c)/\gN (i+1) bs cs σ
 | _,_,_,_=>True
theorem gN.at{σ:Sd}:∀ {bs cs:List B} {i j:Nat} {b c:B},gN i bs cs σ->bs[j]?=some b->(∀d,b≠.sh d)->cs[j]?=some c->σ[i+j]?=some (some c)
 | [],_,_,_,_,_,_,e,_,_=>by simp at e
 | _::_,[],_,_,_,_,_,_,_,e=>by simp at e
 | .sh d::bs,c'::cs,i,0,b,c,h,e,n,e'=>by simp at e;exact absurd e.symm (n d)
 | .own xs::bs,c'::cs,i,0,b,c,h,e,n,e'=>by simp at e';subst e';exact h.1
 | .obj o::bs,c'::cs,i,0,b,c,h,e,n,e'=>by simp at e';subst e';exact h.1
 | .sh d::bs,c'::cs,i,j+1,b,c,h,e,n,e'=>by
  have:=gN.at (i:=i+1) (j:=j) h (by simpa using e) n (by simpa using e')
  rw[show i+(j+1)=i+1+j by omega];exact this
 | .own xs::bs,c'::cs,i,j+1,b,c,h,e,n,e'=>by
  have:=gN.at (i:=i+1) (j:=j) h.2 (by simpa using e) n (by simpa using e')
  rw[show i+(j+1)=i+1+j by omega];exact this
 | .obj o::bs,c'::cs,i,j+1,b,c,h,e,n,e'=>by
  have:=gN.at (i:=i+1) (j:=j) h.2 (by simpa using e) n (by simpa using e')
  rw[show i+(j+1)=i+1+j by omega];exact this
def wx(bs:List B)(Q:B->List B->Prop)(b:B)(σ:Sd):Prop:=∃bs',dm bs bs'/\gN 0 bs bs' σ/\Q b bs'
theorem BQ{F F' H H':Hp}{vs:List V}{bs bs':List B}{ah:Sd}{σ:St}(r:iT F H vs bs)(s:aj F F')(R:RS ⟨H,F,rH vs bs,vC vs bs⟩ F' ah σ H')(lk:dm bs bs')(mg:gN 0 bs bs' ah):iT F' H' vs bs':=by
 have abb:∀ {i:Nat} {ys:List D},bs'[i]?=some (.own ys)->∃a us,vs[i]?=some (.ref a)/\H' a=some (.lst us)/\ay F' us ys/\F' a=none:=λ{i ys} e=>by
  obtain⟨xs,h1⟩:=lk.AH e;have h2:=mg.at h1 (λd z=>nomatch z) e;rw[Nat.zero_add]at h2;obtain⟨a,us,g1,g2,g3,g4,g5⟩:=R.own i ys h2;obtain⟨a0,Jd,f1,_⟩:=r.own i xs h1;have f2:=(R.io (i,a0) (eB.mpr ⟨xs,h1,f1⟩)).1;have f2:σ[i]?=some (some (.ref a0)):=f2;rw[g1]at f2;cases f2;exact⟨a,us,f1,g2,g3,g4⟩
 have aa6:∀ {i:Nat} {p:O},bs'[i]?=some (.obj p)->∃a,vs[i]?=some (.ref a)/\p.rep F' H' a/\∀c∈p.fp a,F' c=none/\H' c≠none:=λ{i p} e=>by
  obtain⟨o,h1,h3,h4,h5⟩:=lk.Az e;have h2:=mg.at h1 (λd z=>nomatch z) e;rw[Nat.zero_add]at h2;obtain⟨a,g1,g2,g3⟩:=R.ob.obj i p h2;obtain⟨a0,f1,f2,_⟩:=r.obj i o h1;cases hl:o.loc with
  | none=>exact absurd hl h5
  | some l =>
   have e1:=o.Hu f2 hl;have e2:=p.Hu g2 (h4.trans hl);subst e1;subst e2;exact⟨a,f1,g2,λc hc=>⟨(g3 c hc).1,(g3 c hc).2.1⟩⟩
 refine⟨r.len.trans lk.len,λi d e=>?_,λi ys e=>abb e,λi p e=>aa6 e,λi j xs ys a e1 e2 e3 e4=>?_,λi j o p a b e1 e2 e3 e4 Ha c hc yE=>?_,λi j xs o a b e1 e2 e3 e4 hm=>?_⟩
 ·obtain⟨v,h1,h2⟩:=r.sh i d (lk.shr e)
  exact⟨v,h1,h2.mono s⟩
 ·obtain⟨qE,h1⟩:=lk.AH e1
  obtain⟨ys',h2⟩:=lk.AH e2;exact r.dis i j qE ys' a h1 h2 e3 e4
 ·obtain⟨o',h1,h2,_⟩:=lk.Az e1
  obtain⟨p',h3,h4,_⟩:=lk.Az e2;exact r.ng i j o' p' a b h1 h3 e3 e4 Ha c (by rw[<- h2];exact hc) (by rw[<- h4];exact yE)
 ·obtain⟨qE,h1⟩:=lk.AH e1
  obtain⟨o',h2,h3,_⟩:=lk.Az e3;exact r.gy i j qE o' a b h1 e2 h2 e4 (by rw[<- h3];exact hm)
theorem JW{x qual:Str}{st:Stmt}{f:Addr}{fd:FuncData}{N ps:List Str}{sp:iU}{t:b5}{ios:List Nat}(hK:G.K=KF.K)(Fn:A5 G.K x qual st f fd)(Sc:aC N ps (ae st))(ht:dy G k ⟨N,(ae st).names,ios,false,false,false,λ_ _=>False⟩ (aq st) t)
  (len:∀bs Q,sp bs Q->bs.length=ps.length) (D4:∀bs Q,sp bs Q->∀(i:Nat) (xs:List D),bs[i]?=some (.own xs)->i∈ios) (cC:ios≠[])
  (body:∀bs Q,sp bs Q->t {nx:=wx bs Q (.sh .aW),rt:=λb σ=>wx bs Q b σ} (cE N.length bs)):cn G.P G.w G.K G.mg G.base iL (k+1) f fd ps (cU sp):=by
 refine Fn.ok Sc (λvs H Q E h=>?_) (λik A outer s H vs Q E hr h=>?_)
 ·obtain⟨F,bs,Qd,s,r,q,K⟩:=h
  rw[r.len];exact len _ _ q
 ·obtain⟨F,bs,Qd,sm,r,q,K⟩:=h
  refine⟨_,ht (nc iL G.P G.w G.K G.mg G.base N qual (ae st) f ik A outer s H E).HG ⟨H,F,rH vs bs,vC vs bs⟩ ⟨rfl,rfl,rfl,hK,rfl,rfl,rfl,rfl,Sc.nd,λp hp=>by
   obtain⟨i,a⟩:=p;obtain⟨xs,e1,_⟩:=eB.mp hp;exact D4 _ _ q i xs e1,(λ_ h=>absurd h cC),λ_=>rfl,Sc.kind,λ_ _ _=>rfl,λ_=>hr.hd,hr.dp,hr.un,λ_=>PassesOwn.never,λ_=>⟨rfl,rfl,rfl⟩,λ_ _ h=>h.elim,λh=>nomatch h⟩,F,cE N.length bs,_,RS.cE _ sm r,body bs Qd q,?_⟩
  have fin:∀ {F':Hp} {ah:Sd} {σ:St} {H':Hp} {v:V} {b:B},aj F F'->RS ⟨H,F,rH vs bs,vC vs bs⟩ F' ah σ H'->BJ H F' H' v b->wx bs Qd b ah->Q v H':=λ{F' ah σ H' v b} s' R' r' q'=>by
   obtain⟨bs',lk,mg,q'⟩:=q';have ar:=BQ r s' R' lk mg;refine K v H' F' b bs' s' R'.fr (λc o z e=>R'.old c o e λy=>z (qZ.mp y)) (λc z=>?_) ar lk R'.dA r' q';rcases z with⟨i,xs,e1,e2⟩|⟨i,o,a,e1,e2,e3⟩
   ·obtain⟨ys,h1⟩:=lk.XI e1
    obtain⟨a,us,g1,g2,_⟩:=ar.own i ys h1;rw[e2]at g1;cases g1;rw[g2];exactλy=>nomatch y
   ·obtain⟨p,h1,h2,_⟩:=lk.aa7 e1
    obtain⟨a',g1,_,g3⟩:=ar.obj i p h1;rw[e2]at g1;cases g1;exact(g3 c (by rw[h2];exact e3)).2
  refine⟨λσ H' F' ah s' R' q'=>?_,λv σ H' F' ah b s' R' r' q'=>?_,λ_ _ _ _ _ _ h=>h.elim,λ_ _ _ _ _ _ h=>h.elim⟩
  ·exact fin (b:=.sh .aW) s' R' .aW q'
  ·refine fin (b:=b) s' R' ?_ q'
   cases b with
   | sh d=>exact r'
   | own xs =>
    obtain⟨a,us,rfl,w1,w2,w3,w4,w5⟩:=r';exact⟨a,us,rfl,w1,w2,w3,w4⟩
   | obj o =>
    obtain⟨a,rfl,w1,w2⟩:=r';exact⟨a,rfl,w1,λb hb=>⟨(w2 b hb).1,(w2 b hb).2.1,(w2 b hb).2.2.1⟩⟩
theorem du.Zu{x:Str}{st:Stmt}{ps N:List Str}{f:Addr}{fd:FuncData}{t:b5}{sp:iU}{ios:List Nat}(d:du G x st ps f fd)(hK:G.K=KF.K)(Sc:aC N ps (ae st))(ht:dy G k ⟨N,(ae st).names,ios,false,false,false,λ_ _=>False⟩ (aq st) t)
  (len:∀bs Q,sp bs Q->bs.length=ps.length) (D4:∀bs Q,sp bs Q->∀(i:Nat) (xs:List D),bs[i]?=some (.own xs)->i∈ios) (cC:ios≠[])
  (body:∀bs Q,sp bs Q->t {nx:=wx bs Q (.sh .aW),rt:=λb σ=>wx bs Q b σ} (cE N.length bs)):qG G (k+1) x sp:=
 ⟨f,fd,ps,JW hK d.F Sc ht len D4 cC body,d.m,d.F.kp,d.b⟩
end Vc
namespace Vc
open PySem L2
variable [KF]
abbrev kC:Addr:=KF.cls "Kept"
def cD(a dx ad:Addr)(w:Str)(c e:Int)(kvs:List (Int×D)):O where
 fp:=λb=>[b,dx,ad]
 rep:=λF H b=>b=a/\H a=some (.ins kC dx (GD w c e ad))/\H dx=some (.own a)/\∃ks,H ad=some (.dK ks)/\bu F ks kvs
 solid:=λ{F H b c' φ} ⟨e0,h1,h2,ks,h3,_⟩ hb z=>by
  subst e0;simp only[List.mem_cons,List.not_mem_nil,or_false]at hb;rcases hb with rfl|rfl|rfl
  ·rw[h1]at z;cases z
  ·rw[h2]at z;cases z
  ·rw[h3]at z;cases z
 nt:=λ{F H b c' vs} ⟨e0,h1,h2,ks,h3,_⟩ hb z=>by
  subst e0;simp only[List.mem_cons,List.not_mem_nil,or_false]at hb;rcases hb with rfl|rfl|rfl
  ·rw[h1]at z;cases z
  ·rw[h2]at z;cases z
  ·rw[h3]at z;cases z
 mono:=λ{F F' H H' b} s e ⟨e0,h1,h2,ks,h3,r⟩=>by
  subst e0;exact⟨rfl,by rw[e b (by simp)];exact h1,by rw[e dx (by simp)];exact h2,ks,by rw[e ad (by simp)];exact h3,r.mono s⟩
 view:=some (.kp w c e kvs)
 sees:=λ{F H b d} ⟨e0,h1,h2,ks,h3,r⟩ q=>by cases q;subst e0;exact⟨b,dx,ad,ks,rfl,h1,.inl h3,r⟩
 lend:=λ{F H b d} s ⟨e0,h1,h2,ks,h3,r⟩ q=>by
  cases q;subst e0;obtain⟨F1,s1,s2,e1,e2⟩:=jj s h1;obtain⟨F2,s3,s4,e3,e4⟩:=jj s2 h3;refine⟨F2,s1.trans s3,s4,  .kp (s3 _ _ e1) (.inl e3) (r.mono (s1.trans s3)),λc u z=>?_⟩;rcases e4 c u z with z|⟨rfl,rfl⟩
  ·rcases e2 c u z with z|⟨rfl,rfl⟩
   ·exact .inl z
   ·exact .inr ⟨rfl,by simp⟩
  ·exact .inr ⟨rfl,by simp⟩
 loc:=some a
 Hu:=λ{F H b c'} ⟨e0,_⟩ q=>by cases q;exact e0
variable {G:GE}{k:Nat}{S:Stat}
structure KG(G:GE):Prop where
 cls:Gu G.K kC
 no:∀f:Str,f∈(["way","count","points_by_name","ever_put"]:List Str)->i6 G.K kC f
def Nn(f:Str)(w:Str)(c e:Int):Option D:=if f="way" then some (.str w)else if f="count" then some (.int c)else if f="ever_put" then some (.int e)else none
def SN(f:Str)(t:TV):TV:=λσ Q=>t σ λx av=>match cS av x with
 | some (.kp w c e kvs)=>∃d,Nn f w c e=some d/\Q (.val d) av
 | _=>False
theorem Hs{f:Str}{w:Str}{c e:Int}{ad:Addr}{d:D}(h:Nn f w c e=some d):∃v,(GD w c e ad).lookup f=some v/\(∀F:Hp,Rep F v d)/\f∈(["way","count","points_by_name","ever_put"]:List Str):=by
 unfold Nn at h
 by_cases h1:f="way"
 ·subst h1
  rw[if_pos rfl]at h;cases h;exact⟨.str w,rfl,λ_=>.str w,by simp⟩
 ·rw[if_neg h1]at h
  by_cases h2:f="count"
  ·subst h2
   rw[if_pos rfl]at h;cases h;exact⟨.int c,rfl,λ_=>.int c,by simp⟩
  ·rw[if_neg h2]at h
   by_cases h3:f="ever_put"
   ·subst h3
    rw[if_pos rfl]at h;cases h;exact⟨.int e,rfl,λ_=>.int e,by simp⟩
   ·rw[if_neg h3]at h;cases h
theorem E9{o:Expr}{t:TV}{f:Str}{pos:Pos}(kg:KG G)(h:EO G k S o t)(hb:∀env,attributeBase o f env (eval o env)=eval o env:=by intro _;rfl):EO G k S (.Attribute o f pos) (SN f t):=.mk λX Y ok =>
 aM (rU (h X Y ok) (hb _)) λσ H Q q=>by
  obtain⟨F,ah,Qd,R,q,K⟩:=q;refine⟨F,ah,_,R,q,λv1 H1 F1 x av s1 R1 r1 q1=>?_⟩
  split at q1
  ·rename_i w c e kvs ed
   obtain⟨d,hd,q1⟩:=q1;obtain⟨a,dx,ad,ks,rfl,h1,h2,_⟩:=R1.cS r1 ed;obtain⟨v,g1,g2,g3⟩:=Hs (ad:=ad) hd;exact⟨a,kC,dx,_,v,rfl,h1,by rw[ok.K];exact kg.cls,by rw[ok.K];exact kg.no f g3,g1,K v H1 F1 (.val d) av s1 R1 (g2 F1) q1⟩
  ·exact q1.elim
def T2(t:TD):TV:=λσ Q=>t σ λx av=>match x with
 | .kp w c e kvs=>Q (.val (.dW kvs)) av
 | _=>False
theorem Iw{o:Expr}{t:TD}{pos:Pos}(kg:KG G)(h:ED G k S o t)(hb:∀env,attributeBase o "points_by_name" env (eval o env)=eval o env:=by intro _;rfl):EO G k S (.Attribute o "points_by_name" pos) (T2 t):=.mk λX Y ok =>
 aM (rU (h X Y ok) (hb _)) λσ H Q q=>by
  obtain⟨F,ah,Qd,R,q,K⟩:=q;refine⟨F,ah,_,R,q,λv1 H1 F1 x av s1 R1 r1 q1=>?_⟩
  split at q1
  ·rename_i w c e kvs
   cases(show Rep F1 v1 (.kp w c e kvs)from r1)with
   | @kp a dx ad _ _ _ ks _ h1 h2 r =>
    exact⟨a,kC,dx,_,.ref ad,rfl,R1.fr _ _ h1,by rw[ok.K];exact kg.cls,by rw[ok.K];exact kg.no _ (by simp),rfl,K _ H1 F1 (.val (.dW kvs)) av s1 R1 (.dW h2 r) q1⟩
  ·exact q1.elim
theorem RS.kpW{Y:aV}{F:Hp}{ah:Sd}{σ:St}{H:Hp}{i:Nat}{a dx ad:Addr}{w:Str}{c e e':Int}{kvs d2:List (Int×D)}{u:HO}{b:Addr}(R:RS Y F ah σ H)(q:ah[i]?=some (some (.obj (cD a dx ad w c e kvs))))(h:σ[i]?=some (some (.ref a)))(hb:b∈[a,dx,ad])
  (hr:(cD a dx ad w c e' d2).rep F (upd H b u) a):RS Y F (ah.set i (some (.obj (cD a dx ad w c e' d2)))) σ (upd H b u):=R.jW q h hb (λ_ z=>z) hr
def tKP(i:Nat)(tk:TV)(tv:TD):b5:=λDe σ=>tv σ λd av=>(∃a dx ad w c e kvs,av[i]?=some (some (.obj (cD a dx ad w c e kvs))))/\tk av λy aH=>match cS aH y with
 | some (.int j)=>∃a dx ad w c e kvs,aH[i]?=some (some (.obj (cD a dx ad w c e kvs)))/\aH[i]?=av[i]?/\kvs.length<sizeLine/\De.nx (aH.set i (some (.obj (cD a dx ad w c e (jL kvs j d)))))
 | _=>False
theorem Rv(i:Nat){x:Str}{ke ve:Expr}{tk:TV}{tv:TD}{np ap pos' pos:Pos}(kg:KG G)(hv:ED G k S ve tv)(hk:EO G k S ke tk)(ho:EO G k S (.Name x np) (Kq i))(hb:∀env,attributeBase (.Name x np) "points_by_name" env (eval (.Name x np) env)=eval (.Name x np) env:=by intro _;rfl)
  (hs:∀line env,swapsWith ve (some (.Subscript (.Attribute (.Name x np) "points_by_name" ap) ke pos')) line env=pure false:=by intro _ _;rfl):
  ES G k S (.Assign [.Subscript (.Attribute (.Name x np) "points_by_name" ap) ke pos'] ve pos) (tKP i tk tv):=.mk λX Y ok =>
 b8 (y9 (by have:=ok.units;omega) (rU (ho X Y ok) (hb _)) (hk X Y ok) (hv X Y ok) (hs _ _)) λDn σ H q=>by
  obtain⟨F,ah,De,R,q,K⟩:=q;refine⟨F,ah,_,R,q,λv H1 F1 d av s1 R1 r1 q1=>?_⟩;obtain⟨⟨a0,Zk,Ze,w0,c0,e0,jO,Ts⟩,q1⟩:=q1;refine⟨F1,av,λx oZ=>x=.var i/\oZ=av,R1,⟨⟨_,Ts⟩,rfl,rfl⟩,λv2 H2 F2 y aH s2 R2 r2 q2=>?_⟩;obtain⟨rfl,rfl⟩:=q2;have r2:σ[i]?=some (some v2):=r2;obtain⟨b0,w1,⟨rfl,g1,g2,Jd,g3,g4⟩,_⟩:=R2.ob.obj i _ Ts;rw[r2]at w1;cases w1;refine⟨b0,kC,Zk,_,.ref Ze,rfl,g1,by rw[ok.K];exact kg.cls,by rw[ok.K];exact kg.no _ (by simp),rfl,F2,aH,_,R2,q1,λv3 H3 F3 kd c9 s3 R3 r3 q3=>?_⟩
  split at q3
  ·rename_i j ej
   obtain rfl:=(R3.cS r3 ej).int;obtain⟨a,dx,ad,w,c,e,kvs,eq,eqq,hl,q3⟩:=q3;have eq':(B.obj (cD a dx ad w c e kvs))=.obj (cD b0 Zk Ze w0 c0 e0 jO):=by rw[eq,Ts]at eqq;exact Option.some.inj (Option.some.inj eqq)
   obtain⟨b,w1,⟨rfl,y1,y2,us,y3,y4⟩,_⟩:=R3.ob.obj i _ eq;rw[r2]at w1;cases w1;have Zq:(cD b0 dx ad w c e kvs).fp b0=(cD b0 Zk Ze w0 c0 e0 jO).fp b0:=by
    have:=congrArg (λb=>match b with|B.obj o=>o.fp b0|_=>[]) eq'
    exact this
   have Zq:[b0,dx,ad]=[b0,Zk,Ze]:=Zq;simp only[List.cons.injEq,and_true,true_and]at Zq;obtain⟨rfl,rfl⟩:=Zq;have n1:b0≠ad:=fo y1 y3 (λz=>nomatch z);have n2:dx≠ad:=fo y2 y3 (λz=>nomatch z);refine⟨ad,_,rfl,.k (k:=.inl j) y3 (by rw[y4.length];exact hl),K.nx σ _ F3 _ ((s1.trans s2).trans s3) (R3.kpW eq r2 (by simp) ⟨rfl,?_,?_,_,au,y4.put j (r1.mono (s2.trans s3))⟩) q3⟩
   ·rw[ai n1];exact y1
   ·rw[ai n2];exact y2
  ·exact q3.elim
def tKE(i:Nat)(tv:TV):b5:=λDe σ=>tv σ λx av=>match cS av x with
 | some (.int j)=>∃a dx ad w c e kvs,av[i]?=some (some (.obj (cD a dx ad w c e kvs)))/\De.nx (av.set i (some (.obj (cD a dx ad w c j kvs))))
 | _=>False
theorem AK(w:Str)(c e j:Int)(ad:Addr):cO "ever_put" (.int j) (GD w c e ad)=GD w c j ad:=by
 unfold GD;simp only[cO];rw[if_neg ∅,if_neg ∅,if_neg ∅]
 simp
theorem IH(i:Nat){x:Str}{ve:Expr}{tv:TV}{np ap pos:Pos}(kg:KG G)(hv:EO G k S ve tv)(ho:EO G k S (.Name x np) (Kq i))(hs:∀line env,swapsWith ve (some (.Attribute (.Name x np) "ever_put" ap)) line env=pure false:=by intro _ _;rfl):
  ES G k S (.Assign [.Attribute (.Name x np) "ever_put" ap] ve pos) (tKE i tv):=.mk λX Y ok =>
 b8 (r9 (ho X Y ok) (hv X Y ok) (hs _ _)) λDn σ H q=>by
  obtain⟨F,ah,De,R,q,K⟩:=q;refine⟨F,ah,_,R,q,λv H1 F1 y av s1 R1 r1 q1=>?_⟩
  split at q1
  ·rename_i j ej
   obtain rfl:=(R1.cS r1 ej).int;obtain⟨a,dx,ad,w,c,e,kvs,eq,q1⟩:=q1;refine⟨F1,av,λx oZ=>x=.var i/\oZ=av,R1,⟨⟨_,eq⟩,rfl,rfl⟩,λv2 H2 F2 y aH s2 R2 r2 q2=>?_⟩;obtain⟨rfl,rfl⟩:=q2;have r2:σ[i]?=some (some v2):=r2;obtain⟨b,w1,⟨rfl,y1,y2,us,y3,y4⟩,_⟩:=R2.ob.obj i _ eq;rw[r2]at w1;cases w1;have n1:dx≠b:=fo y2 y1 (λz=>nomatch z);have n2:ad≠b:=fo y3 y1 (λz=>nomatch z);refine⟨b,kC,dx,_,rfl,y1,by rw[ok.K];exact kg.cls,by rw[ok.K];exact kg.no _ (by simp),by show 4<1000;decide,?_⟩
   rw[AK];exact K.nx σ _ F2 _ (s1.trans s2) (R2.kpW eq r2 (by simp) ⟨rfl,au,by rw[ai n1];exact y2,us,by rw[ai n2];exact y3,y4⟩) q1
  ·exact q1.elim
def tKD(i:Nat)(tk:TV):b5:=λDe σ=>∃a dx ad w c e kvs,σ[i]?=some (some (.obj (cD a dx ad w c e kvs)))/\tk σ λy aH=>match cS aH y with
 | some (.int j)=>aH[i]?=some (some (.obj (cD a dx ad w c e kvs)))/\(cY kvs j).isSome=true/\De.nx (aH.set i (some (.obj (cD a dx ad w c e (jI kvs j)))))
 | _=>False
theorem Ru(i:Nat){x:Str}{ke:Expr}{tk:TV}{np bp ap cp pos:Pos}(kg:KG G)(hk:EO G k S ke tk)(ho:EO G k S (.Name x np) (Kq i))(hb:∀env,attributeBase (.Name x np) "points_by_name" env (eval (.Name x np) env)=eval (.Name x np) env:=by intro _;rfl)
  (m:∀X:Cx,M1 X (.Attribute (.Name x np) "points_by_name" bp) "pop" ap ke cp:=by intro X;exact⟨rfl,rfl,rfl,rfl⟩):
  ES G k S (.Expr (.Call (.Attribute (.Attribute (.Name x np) "points_by_name" bp) "pop" ap) [ke] [] cp) pos) (tKD i tk):=.mk λX Y ok =>
 b8 (za (Ew (rU (ho X Y ok) (hb _)) (hk X Y ok) (m X)) rfl) λDn σ H q=>by
  obtain⟨F,ah,De,R,⟨a,dx,ad,w,c,e,kvs,Ts,q⟩,K⟩:=q;refine⟨F,ah,λx oZ=>x=.var i/\oZ=ah,R,⟨⟨_,Ts⟩,rfl,rfl⟩,λv2 H2 F2 y aH s2 R2 r2 q2=>?_⟩;obtain⟨rfl,rfl⟩:=q2;have r2:σ[i]?=some (some v2):=r2;obtain⟨b0,w1,⟨rfl,g1,g2,Jd,g3,g4⟩,_⟩:=R2.ob.obj i _ Ts;rw[r2]at w1;cases w1;refine⟨b0,kC,dx,_,.ref ad,rfl,g1,by rw[ok.K];exact kg.cls,by rw[ok.K];exact kg.no _ (by simp),rfl,ad,rfl,.inl ⟨_,.inl g3⟩,F2,aH,_,R2,q,λv3 H3 F3 kd c9 s3 R3 r3 q3=>?_⟩
  split at q3
  ·rename_i j ej
   obtain rfl:=(R3.cS r3 ej).int;obtain⟨eq,hl,q3⟩:=q3;obtain⟨b,w1,⟨_,y1,y2,us,y3,y4⟩,_⟩:=R3.ob.obj i _ eq;have n1:b0≠ad:=fo y1 y3 (λz=>nomatch z);have n2:dx≠ad:=fo y2 y3 (λz=>nomatch z);rcases y4.val j with⟨_,e2⟩|⟨v,d',e1,e2,rd⟩
   ·rw[e2]at hl;cases hl
   ·exact⟨us,.inl j,v,y3,rfl,e1,K.nx σ _ F3 _ (s2.trans s3) (R3.kpW eq r2 (by simp) ⟨rfl,by rw[ai n1];exact y1,by rw[ai n2];exact y2,_,au,y4.drop j⟩) q3⟩
  ·exact q3.elim
end Vc
namespace Vc
open PySem L2
variable [KF]
variable {G:GE}{k:Nat}{S:Stat}
structure o4(G:GE)(m qual:Str)(st:Stmt)(ps:List Str)(f:Addr)(fd:FuncData):Prop where
 F:A5 G.K m qual st f fd
 mt:Meth G.K kC m f
 b:Binds G.K fd ps []
def cg(G:GE)(k:Nat)(m:Str)(sp:iU):Prop:=∃f fd ps,cn G.P G.w G.K G.mg G.base iL k f fd ps (cU sp)/\Meth G.K kC m f/\Binds G.K fd ps []
theorem cg.mono{x:Str}{sp:iU}{j:Nat}(h:cg G j x sp)(l:j<=k):cg G k x sp:=by
 obtain⟨f,fd,ps,h1,h2,h3⟩:=h;exact⟨f,fd,ps,h1.mono l,h2,h3⟩
theorem W9{f:Addr}{fd:FuncData}{ps:List Str}{sp:bf}(h1:cn G.P G.w G.K G.mg G.base iL k f fd ps (Fq sp)):cn G.P G.w G.K G.mg G.base iL k f fd ps (cU (cF sp)):=by
 refine h1.imp λvs H Q E q=>?_;obtain⟨F,bs,Qd,s,r,⟨ds,rfl,q⟩,K⟩:=q;refine⟨F,ds,_,s,mI r,q,λv H' F' b s1 s2 s3 fr rr qq=>K v H' F' b _ s1 s2 (λc o _ e=>s3 c o e) (λc z=>absurd z yw) (ye ((mI r).mono s1)) (lj λi o e=>?_) fr rr qq⟩;obtain⟨d,e1,_⟩:=cP e;cases e1
theorem o4.fg{m qual:Str}{st:Stmt}{ps N:List Str}{f:Addr}{fd:FuncData}{t:b5}{sp:bf}(d:o4 G m qual st ps f fd)(hK:G.K=KF.K)(Sc:aC N ps (ae st))(ht:dy G k ⟨N,(ae st).names,[],false,false,false,λ_ _=>False⟩ (aq st) t)
  (len:∀ds Q,sp ds Q->ds.length=ps.length) (body:∀ds Q,sp ds Q->t {nx:=λ_=>Q (.sh .aW),rt:=λb _=>Q b} (aR N.length ds)):cg G (k+1) m (cF sp):=
 ⟨f,fd,ps,W9 (Dt hK d.F Sc ht len body),d.mt,d.b⟩
theorem o4.Zu{m qual:Str}{st:Stmt}{ps N:List Str}{f:Addr}{fd:FuncData}{t:b5}{sp:iU}{ios:List Nat}(d:o4 G m qual st ps f fd)(hK:G.K=KF.K)(Sc:aC N ps (ae st))(ht:dy G k ⟨N,(ae st).names,ios,false,false,false,λ_ _=>False⟩ (aq st) t)
  (len:∀bs Q,sp bs Q->bs.length=ps.length) (D4:∀bs Q,sp bs Q->∀(i:Nat) (xs:List D),bs[i]?=some (.own xs)->i∈ios) (cC:ios≠[])
  (body:∀bs Q,sp bs Q->t {nx:=wx bs Q (.sh .aW),rt:=λb σ=>wx bs Q b σ} (cE N.length bs)):cg G (k+1) m sp:=
 ⟨f,fd,ps,JW hK d.F Sc ht len D4 cC body,d.mt,d.b⟩
def gG(sp:iU)(to:TD)(t:tS):TX:=λσ Q=>to σ λx av=>(∃w c e kvs,x=.kp w c e kvs)/\t av λas aH=>lM sp (.d x::as) aH Q
def NT(σ:Sd)(j:Nat):Prop:=∃o w c e kvs,σ[j]?=some (some (.obj o))/\o.view=some (.kp w c e kvs)
def AZ(sp:iU)(j:Nat)(t:tS):TX:=λσ Q=>NT σ j/\t σ λas aH=>lM sp (.n j::as) aH Q
def Fy(sp:iU)(j:Nat)(t:tS):TX:=λσ Q=>NT σ j/\t σ λas aH=>lM sp (.l j::as) aH Q
theorem vh{w:Str}{c e:Int}{ad:Addr}{m:Str}(h:(["way","count","points_by_name","ever_put"]:List Str).contains m=false):(GD w c e ad).lookup m=none:=by
 unfold GD;simp only[List.contains_cons,List.contains_nil,Bool.or_false,Bool.or_eq_false_iff]at h;simp only[List.lookup,h.1,h.2.1,h.2.2.1,h.2.2.2]
section
variable {o e:Expr}{es:List Expr}{m:Str}{apos pos:Pos}{sp:iU}{to:TD}{t:tS}{pl:Env->Sem Bool}
theorem vm{X:Cx}{Y:aV}{C:Addr}(hm:(["way","count","points_by_name","ever_put"]:List Str).contains m=false)(hC:C=kC){σ:St}{H:Hp}{Q:VK}(q:lX Y (gG sp to t) σ H Q):qB C m (cU sp) [] E0 (lD Y to) (ZT Y t) σ H Q:=by
 subst hC;obtain⟨F,ah,Qd,R,q,K⟩:=q;refine⟨F,ah,_,R,q,λv1 H1 F1 x av s1 R1 r1 q1=>?_⟩;obtain⟨⟨w,c,e,kvs,rfl⟩,q1⟩:=q1;cases(show Rep F1 v1 (.kp w c e kvs)from r1)with
 | @kp a dx ad _ _ _ ks _ h1 h2 r =>
  refine⟨a,dx,_,rfl,R1.fr _ _ h1,vh hm,F1,av,_,R1,q1,λvs H2 F2 as aH s2 R2 r2 q2=>?_⟩;dsimp only;rw[List.append_nil];exact gQ R2 (.d ((Rep.kp h1 h2 r).mono s2) r2) q2 λv H' F' x ax s R' rx qx=>K v H' F' x ax ((s1.trans s2).trans s) R' rx qx
theorem dN(h:cg G k m sp)(kg:KG G)(ho:ED G k S o to)(ha:Gv G k S (e::es) t)(hm:(["way","count","points_by_name","ever_put"]:List Str).contains m=false:=by decide)
  (wt:∀env,starEach (e::es) env=(false,eval e env)::starEach es env:=by exactλ_=>Vc.cT rfl) (dI:∀env,(backTo pos (starEach es env)).any (·.1)=false:=by intro _;rfl) (hh:S.gm=false:=by rfl)
  (ht:∀env,eval (.Call (.Attribute o m apos) (e::es) [] pos) env=(do
   let ov <- eval o env
   standAt apos.atName
   let (f,first) <- holding [ov] (getMethod ov m (pl env))
   callWith pos f first (backTo pos (starEach (e::es) env)) (backToKw pos (keywordEach [] env))):=by intro _;rfl):EX G k S (.Call (.Attribute o m apos) (e::es) [] pos) (gG sp to t):=.mk λX Y ok=>by
 obtain⟨f,fd,ps,h1,h2,h3⟩:=h;have uX:cn X.prog X.w X.K X.mg X.base iL k f fd ps (cU sp):=by rw[ok.P,ok.w,ok.K,ok.mg,ok.base];exact h1
 exact aM (yX (pl:=pl X.env) (E:=E0) (dvs:=[]) (ds:=[]) (ho X Y ok) (by rw[ok.K];exact kg.cls) (by rw[ok.K];exact h2) uX (ok.room hh) (by rw[ok.K];exact h3) .nil jX (ha.run X Y ok) (wt _) (dI _) (ht _)) λσ H Q q=>vm (X:=X) hm rfl q
theorem IP{Y:aV}{sp:iU}{to:TD}{C:Addr}{σ:St}{H:Hp}{Q:VK}(q:qB C m (cU sp) [] E0 (lD Y to) (ZT Y dk) σ H Q):qB C m (cU sp) [] E0 (lD Y to) pC σ H Q:=by
 obtain⟨F,ah,Qd,R,q,K⟩:=q;refine⟨F,ah,Qd,R,q,λv H' F' x ax s R' r qq=>?_⟩;obtain⟨a,dx,fs,e1,e2,e3,F1,av,Q1,R1,q1,K1⟩:=K v H' F' x ax s R' r qq;exact⟨a,dx,fs,e1,e2,e3,K1 [] H' F1 [] av (aj.refl _) R1 .nil q1⟩
theorem dM(h:cg G k m sp)(kg:KG G)(ho:ED G k S o to)(hm:(["way","count","points_by_name","ever_put"]:List Str).contains m=false:=by decide)(hh:S.gm=false:=by rfl)
  (ht:∀env,eval (.Call (.Attribute o m apos) [] [] pos) env=(do
   let ov <- eval o env
   standAt apos.atName
   let (f,first) <- holding [ov] (getMethod ov m (pl env))
   callWith pos f first (backTo pos (starEach [] env)) (backToKw pos (keywordEach [] env))):=by intro _;rfl):EX G k S (.Call (.Attribute o m apos) [] [] pos) (gG sp to dk):=.mk λX Y ok=>by
 obtain⟨f,fd,ps,h1,h2,h3⟩:=h;have uX:cn X.prog X.w X.K X.mg X.base iL k f fd ps (cU sp):=by rw[ok.P,ok.w,ok.K,ok.mg,ok.base];exact h1
 exact aM (vE (pl:=pl X.env) (E:=E0) (dvs:=[]) (ds:=[]) (ho X Y ok) (by rw[ok.K];exact kg.cls) (by rw[ok.K];exact h2) uX (ok.room hh) (by rw[ok.K];exact h3) .nil jX (ht _)) λσ H Q q=>IP (vm (X:=X) hm rfl q)
end
section
variable {x:Str}{np:Pos}{e:Expr}{es:List Expr}{m:Str}{apos pos:Pos}{sp:iU}{t:tS}{pl:Env->Sem Bool}{j:Nat}
theorem vq{Y:aV}{l:Bool}(hm:(["way","count","points_by_name","ever_put"]:List Str).contains m=false){σ:St}{H:Hp}{Q:VK}(q:lX Y (if l=true then Fy sp j t else AZ sp j t) σ H Q):qB kC m (cU sp) [] E0 (FC j) (ZT Y t) σ H Q:=by
 obtain⟨F,ah,Qd,R,q,K⟩:=q;have q:NT ah j/\t ah λas aH=>lM sp ((if l=true then AV.l j else AV.n j)::as) aH Qd:=by
  cases l with
  | true=>exact q
  | false=>exact q
 obtain⟨⟨o,w,c,e,kvs,e1,e2⟩,q⟩:=q;obtain⟨a,w1,w2,w3⟩:=R.ob.obj j o e1;obtain⟨a',dx,ad,ks,e3,h1,h2,_⟩:=o.sees w2 e2;cases e3;refine⟨.ref a,w1,a,dx,_,rfl,h1,vh hm,F,ah,_,R,q,λvs H2 F2 as aH s2 R2 r2 q2=>?_⟩;dsimp only;rw[List.append_nil];refine gQ R2 ?_ q2 λv H' F' x ax s R' rx qx=>K v H' F' x ax (s2.trans s) R' rx qx;cases l with
 | true=>exact .l w1 r2
 | false=>exact .n w1 r2
theorem dP(l:Bool)(j:Nat)(h:cg G k m sp)(kg:KG G)(ha:Gv G k S (e::es) t)(hN:S.N[j]?=some x:=by rfl)(hv:S.sc.lookup x=some .local\/S.sc.lookup x=some .cell\/S.sc.lookup x=some .free:=by first|exact Or.inl rfl|exact Or.inr (Or.inl rfl)|exact Or.inr (Or.inr rfl))
  (hd:(x==("__debug__":Str))=false:=by decide) (jk:(x==("__classdict__":Str))=false:=by decide) (hm:(["way","count","points_by_name","ever_put"]:List Str).contains m=false:=by decide)
  (wt:∀env,starEach (e::es) env=(false,eval e env)::starEach es env:=by exactλ_=>Vc.cT rfl) (dI:∀env,(backTo pos (starEach es env)).any (·.1)=false:=by intro _;rfl) (hh:S.gm=false:=by rfl)
  (ht:∀env,eval (.Call (.Attribute (.Name x np) m apos) (e::es) [] pos) env=(do
   let ov <- eval (.Name x np) env
   standAt apos.atName
   let (f,first) <- holding [ov] (getMethod ov m (pl env))
   callWith pos f first (backTo pos (starEach (e::es) env)) (backToKw pos (keywordEach [] env))):=by intro _;rfl):EX G k S (.Call (.Attribute (.Name x np) m apos) (e::es) [] pos) (if l=true then Fy sp j t else AZ sp j t):=.mk λX Y ok=>by
 obtain⟨f,fd,ps,h1,h2,h3⟩:=h;have uX:cn X.prog X.w X.K X.mg X.base iL k f fd ps (cU sp):=by rw[ok.P,ok.w,ok.K,ok.mg,ok.base];exact h1
 exact aM (yX (pl:=pl X.env) (E:=E0) (dvs:=[]) (ds:=[]) (eZ (X:=X) (i:=j) (by rw[ok.N];exact hN) (by unfold A6;rw[ok.sc];exact hv) hd jk) (by rw[ok.K];exact kg.cls) (by rw[ok.K];exact h2) uX (ok.room hh) (by rw[ok.K];exact h3) .nil jX (ha.run X Y ok) (wt _) (dI _) (ht _)) λσ H Q q=>vq hm q
theorem sr(l:Bool)(j:Nat)(h:cg G k m sp)(kg:KG G)(hN:S.N[j]?=some x:=by rfl)(hv:S.sc.lookup x=some .local\/S.sc.lookup x=some .cell\/S.sc.lookup x=some .free:=by first|exact Or.inl rfl|exact Or.inr (Or.inl rfl)|exact Or.inr (Or.inr rfl))
  (hd:(x==("__debug__":Str))=false:=by decide) (jk:(x==("__classdict__":Str))=false:=by decide) (hm:(["way","count","points_by_name","ever_put"]:List Str).contains m=false:=by decide) (hh:S.gm=false:=by rfl)
  (ht:∀env,eval (.Call (.Attribute (.Name x np) m apos) [] [] pos) env=(do
   let ov <- eval (.Name x np) env
   standAt apos.atName
   let (f,first) <- holding [ov] (getMethod ov m (pl env))
   callWith pos f first (backTo pos (starEach [] env)) (backToKw pos (keywordEach [] env))):=by intro _;rfl):EX G k S (.Call (.Attribute (.Name x np) m apos) [] [] pos) (if l=true then Fy sp j dk else AZ sp j dk):=.mk λX Y ok=>by
 obtain⟨f,fd,ps,h1,h2,h3⟩:=h;have uX:cn X.prog X.w X.K X.mg X.base iL k f fd ps (cU sp):=by rw[ok.P,ok.w,ok.K,ok.mg,ok.base];exact h1
 refine aM (vE (pl:=pl X.env) (E:=E0) (dvs:=[]) (ds:=[]) (eZ (X:=X) (i:=j) (by rw[ok.N];exact hN) (by unfold A6;rw[ok.sc];exact hv) hd jk) (by rw[ok.K];exact kg.cls) (by rw[ok.K];exact h2) uX (ok.room hh) (by rw[ok.K];exact h3) .nil jX (ht _)) λσ H Q q=>?_
 obtain⟨v,e1,a,dx,fs,e2,e3,e4,F1,av,Q1,R1,q1,K1⟩:=vq hm q;exact⟨v,e1,a,dx,fs,e2,e3,e4,K1 [] H F1 [] av (aj.refl _) R1 .nil q1⟩
end
end Vc
namespace Vc
open PySem L2
variable [KF]
variable {G:GE}{k:Nat}{S:Stat}
def A9(a dx:Addr)(fs:List (Str×V)):O where
 fp:=λb=>[b,dx]
 rep:=λF H b=>b=a/\H a=some (.ins kC dx fs)/\H dx=some (.own a)
 solid:=λ{F H b c' φ} ⟨e0,h1,h2⟩ hb z=>by
  subst e0;simp only[List.mem_cons,List.not_mem_nil,or_false]at hb;rcases hb with rfl|rfl
  ·rw[h1]at z;cases z
  ·rw[h2]at z;cases z
 nt:=λ{F H b c' vs} ⟨e0,h1,h2⟩ hb z=>by
  subst e0;simp only[List.mem_cons,List.not_mem_nil,or_false]at hb;rcases hb with rfl|rfl
  ·rw[h1]at z;cases z
  ·rw[h2]at z;cases z
 mono:=λ{F F' H H' b} s e ⟨e0,h1,h2⟩=>by
  subst e0;exact⟨rfl,by rw[e b (by simp)];exact h1,by rw[e dx (by simp)];exact h2⟩
def kqO(a dx ad:Addr)(fs:List (Str×V)):O where
 fp:=λb=>[b,dx,ad]
 rep:=λF H b=>b=a/\H a=some (.ins kC dx fs)/\H dx=some (.own a)/\H ad=some (.dK [])
 solid:=λ{F H b c' φ} ⟨e0,h1,h2,h3⟩ hb z=>by
  subst e0;simp only[List.mem_cons,List.not_mem_nil,or_false]at hb;rcases hb with rfl|rfl|rfl
  ·rw[h1]at z;cases z
  ·rw[h2]at z;cases z
  ·rw[h3]at z;cases z
 nt:=λ{F H b c' vs} ⟨e0,h1,h2,h3⟩ hb z=>by
  subst e0;simp only[List.mem_cons,List.not_mem_nil,or_false]at hb;rcases hb with rfl|rfl|rfl
  ·rw[h1]at z;cases z
  ·rw[h2]at z;cases z
  ·rw[h3]at z;cases z
 mono:=λ{F F' H H' b} s e ⟨e0,h1,h2,h3⟩=>by
  subst e0;exact⟨rfl,by rw[e b (by simp)];exact h1,by rw[e dx (by simp)];exact h2,by rw[e ad (by simp)];exact h3⟩
def plV:D->Option V
 | .str w=>some (.str w)
 | .int i=>some (.int i)
 | _=>none
def Z9(i:Nat)(f:Str)(tv:TV):b5:=λDe σ=>tv σ λx av=>match cS av x with
 | some d=>∃a dx fs v,plV d=some v/\av[i]?=some (some (.obj (A9 a dx fs)))/\fs.length<1000/\De.nx (av.set i (some (.obj (A9 a dx (cO f v fs)))))
 | _=>False
theorem Fm(i:Nat){x f:Str}{ve:Expr}{tv:TV}{np ap pos:Pos}(kg:KG G)(hv:EO G k S ve tv)(ho:EO G k S (.Name x np) (Kq i))(hf:f∈(["way","count","points_by_name","ever_put"]:List Str):=by simp)(hs:∀line env,swapsWith ve (some (.Attribute (.Name x np) f ap)) line env=pure false:=by intro _ _;rfl):
  ES G k S (.Assign [.Attribute (.Name x np) f ap] ve pos) (Z9 i f tv):=.mk λX Y ok =>
 b8 (r9 (ho X Y ok) (hv X Y ok) (hs _ _)) λDn σ H q=>by
  obtain⟨F,ah,De,R,q,K⟩:=q;refine⟨F,ah,_,R,q,λv H1 F1 y av s1 R1 r1 q1=>?_⟩
  split at q1
  ·rename_i d ed
   obtain⟨a,dx,fs,v',dI,eq,hl,q1⟩:=q1;have hvv:v=v':=by
    have:=R1.cS r1 ed;unfold plV at dI
    split at dI
    ·cases dI;exact this.str
    ·cases dI;exact this.int
    ·cases dI
   subst hvv;refine⟨F1,av,λx oZ=>x=.var i/\oZ=av,R1,⟨⟨_,eq⟩,rfl,rfl⟩,λv2 H2 F2 y aH s2 R2 r2 q2=>?_⟩;obtain⟨rfl,rfl⟩:=q2;have r2:σ[i]?=some (some v2):=r2;obtain⟨b,w1,⟨rfl,y1,y2⟩,_⟩:=R2.ob.obj i _ eq;rw[r2]at w1;cases w1;have n1:dx≠b:=fo y2 y1 (λz=>nomatch z);refine⟨b,kC,dx,_,rfl,y1,by rw[ok.K];exact kg.cls,by rw[ok.K];exact kg.no _ hf,hl,?_⟩
   exact K.nx σ _ F2 _ (s1.trans s2) (R2.jW (o':=A9 b dx (cO f v fs)) eq r2 (.head _) (λ_ z=>z) ⟨rfl,au,by rw[ai n1];exact y2⟩) q1
  ·exact q1.elim
def tKN(i:Nat):b5:=λDe σ=>∃a dx fs,σ[i]?=some (some (.obj (A9 a dx fs)))/\fs.length<1000/\∀ad,De.nx (σ.set i (some (.obj (kqO a dx ad (cO "points_by_name" (.ref ad) fs)))))
theorem Rt(i:Nat){x:Str}{np ap dp pos:Pos}(kg:KG G)(hN:S.N[i]?=some x:=by rfl)(hv:S.sc.lookup x=some .local\/S.sc.lookup x=some .cell\/S.sc.lookup x=some .free:=by first|exact Or.inl rfl|exact Or.inr (Or.inl rfl)|exact Or.inr (Or.inr rfl))
  (hd:(x==("__debug__":Str))=false:=by decide) (jk:(x==("__classdict__":Str))=false:=by decide) (hs:∀line env,swapsWith (.Dict [] [] dp) (some (.Attribute (.Name x np) "points_by_name" ap)) line env=pure false:=by intro _ _;rfl):
  ES G k S (.Assign [.Attribute (.Name x np) "points_by_name" ap] (.Dict [] [] dp) pos) (tKN i):=.mk λX Y ok =>
 b8 (r9 (eZ (X:=X) (i:=i) (by rw[ok.N];exact hN) (by unfold A6;rw[ok.sc];exact hv) hd jk) n9 (hs _ _)) λDn σ H q=>by
  obtain⟨F,ah,De,R,⟨a,dx,fs,eq,hl,q⟩,K⟩:=q;intro p hp;obtain⟨b,w1,⟨rfl,y1,y2⟩,w3⟩:=R.ob.obj i _ eq;have n1:dx≠b:=fo y2 y1 (λz=>nomatch z);have p1:b≠p:=aP y1 hp;have p2:dx≠p:=aP y2 hp;refine⟨.ref b,w1,b,kC,dx,fs,rfl,by rw[ai p1];exact y1,by rw[ok.K];exact kg.cls,by rw[ok.K];exact kg.no _ (by simp),hl,?_⟩
  refine K.nx σ _ F _ (aj.refl _) (R.O2 (o':=kqO b dx p (cO "points_by_name" (.ref p) fs)) eq w1 (λc hc hn=>?_) (λc hc=>?_) (λc hc=>?_) (λc hc=>?_) ⟨rfl,au,by rw[ai n1,ai p2];exact y2,by rw[ai (Ne.symm p1),au]⟩) (q p)
  ·have hc:c∉[b,dx]:=hc
   have c1:c≠b:=λz=>hc (by simp [z])
   have c2:c≠p:=λz=>hn (by rw[z];exact hp)
   rw[ai c1,ai c2]
  ·by_cases c1:c=b
   ·rw[c1,au];exactλz=>nomatch z
   ·rw[ai c1]
    by_cases c2:c=p
    ·rw[c2,au];exactλz=>nomatch z
    ·rw[ai c2];exact hc
  ·have hc:c∈[b,dx,p]:=hc
   simp only[List.mem_cons,List.not_mem_nil,or_false]at hc;rcases hc with rfl|rfl|rfl
   ·exact .inl (by show _∈[_,_];simp)
   ·exact .inl (by show _∈[_,_];simp)
   ·exact .inr hp
  ·have hc:c∈[b,dx,p]:=hc
   simp only[List.mem_cons,List.not_mem_nil,or_false]at hc;rcases hc with rfl|rfl|rfl
   ·rw[au];exactλz=>nomatch z
   ·rw[ai n1,ai p2,y2];exactλz=>nomatch z
   ·rw[ai (Ne.symm p1),au];exactλz=>nomatch z
def tKZ(i:Nat)(tv:TV):b5:=λDe σ=>tv σ λx av=>match cS av x with
 | some (.int j)=>∃a dx ad fs w c,av[i]?=some (some (.obj (kqO a dx ad fs)))/\fs.length<1000/\cO "ever_put" (.int j) fs=GD w c j ad/\De.nx (av.set i (some (.obj (cD a dx ad w c j []))))
 | _=>False
theorem II(i:Nat){x:Str}{ve:Expr}{tv:TV}{np ap pos:Pos}(kg:KG G)(hv:EO G k S ve tv)(ho:EO G k S (.Name x np) (Kq i))(hs:∀line env,swapsWith ve (some (.Attribute (.Name x np) "ever_put" ap)) line env=pure false:=by intro _ _;rfl):
  ES G k S (.Assign [.Attribute (.Name x np) "ever_put" ap] ve pos) (tKZ i tv):=.mk λX Y ok =>
 b8 (r9 (ho X Y ok) (hv X Y ok) (hs _ _)) λDn σ H q=>by
  obtain⟨F,ah,De,R,q,K⟩:=q;refine⟨F,ah,_,R,q,λv H1 F1 y av s1 R1 r1 q1=>?_⟩
  split at q1
  ·rename_i j ej
   obtain rfl:=(R1.cS r1 ej).int;obtain⟨a,dx,ad,fs,w,c,eq,hl,hp,q1⟩:=q1;refine⟨F1,av,λx oZ=>x=.var i/\oZ=av,R1,⟨⟨_,eq⟩,rfl,rfl⟩,λv2 H2 F2 y aH s2 R2 r2 q2=>?_⟩;obtain⟨rfl,rfl⟩:=q2;have r2:σ[i]?=some (some v2):=r2;obtain⟨b,w1,⟨rfl,y1,y2,y3⟩,_⟩:=R2.ob.obj i _ eq;rw[r2]at w1;cases w1;have n1:dx≠b:=fo y2 y1 (λz=>nomatch z);have n2:ad≠b:=fo y3 y1 (λz=>nomatch z);refine⟨b,kC,dx,_,rfl,y1,by rw[ok.K];exact kg.cls,by rw[ok.K];exact kg.no _ (by simp),hl,?_⟩
   rw[hp];exact K.nx σ _ F2 _ (s1.trans s2) (R2.jW (o':=cD b dx ad w c j []) eq r2 (.head _) (λ_ z=>z) ⟨rfl,au,by rw[ai n1];exact y2,[],by rw[ai n2];exact y3,.nil⟩) q1
  ·exact q1.elim
abbrev Gw:=List D->(Str->Int->Prop)->Prop
def xO(sp:Gw):Sp:=λvs H Q _=>∃F x dx rest ds Qd,vs=.ref x::rest/\lL F H/\H x=some (.ins kC dx [])/\H dx=some (.own x)/\F x=none/\F dx=none/\ay F rest ds/\sp ds Qd /\
 ∀H' F' ad w c,aj F F'->aj F' H'->(∀b o,b≠x->b≠dx->H b=some o->H' b=some o)->(cD x dx ad w c 0 []).rep F' H' x->F' x=none->F' dx=none->F' ad=none->H ad=none->(∀b o,F' b=some o->F b=some o\/Nw H b o)->Qd w c->Q .aW H'
def wB(G:GE)(k:Nat)(sp:Gw):Prop:=∃f fd ps k',k=k'+1/\cn G.P G.w G.K G.mg G.base iL k' f fd ps (xO sp)/\Mk G.K kC f/\Binds G.K fd ps []/\G.mg "Kept"=some (.ref kC)
theorem wB.mono{sp:Gw}{j:Nat}(h:wB G j sp)(l:j<=k):wB G k sp:=by
 obtain⟨f,fd,ps,j',rfl,h1,h2⟩:=h;exact⟨f,fd,ps,k-1,by omega,h1.mono ⋯,h2⟩
structure Zb(G:GE)(m qual:Str)(st:Stmt)(ps:List Str)(f:Addr)(fd:FuncData):Prop where
 F:A5 G.K m qual st f fd
 makes:Mk G.K kC f
 b:Binds G.K fd ps []
 mg:G.mg "Kept"=some (.ref kC)
def kK(n:Nat)(a dx:Addr)(ds:List D):Sd:=cE n (.obj (A9 a dx [])::ds.map .sh)
def inQ(x dx:Addr)(Q:Str->Int->Prop)(σ:Sd):Prop:=∃ad w c,σ[0]?=some (some (.obj (cD x dx ad w c 0 [])))/\Q w c
theorem GV{F H:Hp}{x dx:Addr}{vs:List V}{ds:List D}(h1:H x=some (.ins kC dx []))(h2:H dx=some (.own x))(h3:F x=none)(h4:F dx=none)(h:ay F vs ds):iT F H (.ref x::vs) (.obj (A9 x dx [])::ds.map B.sh):=by
 have cs:∀ {i:Nat} {b:B},(B.obj (A9 x dx [])::ds.map B.sh)[i]?=some b->(i=0/\b=.obj (A9 x dx []))\/∃j d,i=j+1/\b=.sh d/\ds[j]?=some d:=λ{i b} h=>by
  cases i with
  | zero=>simp at h;exact .inl ⟨rfl,h.symm⟩
  | succ j =>
   simp only[List.getElem?_cons_succ]at h;obtain⟨d,e1,e2⟩:=cP h;exact .inr ⟨j,d,rfl,e1,e2⟩
 refine⟨by rw[List.length_cons,List.length_cons,List.length_map,h.length],λi d e=>?_,λi xs e=>?_,λi o e=>?_,λi j ys zs b e1=>?_,λi j o p a b e1 e2 e3 e4 Ha=>?_,λi j xs o a b e1=>?_⟩
 ·rcases cs e with⟨_,z⟩|⟨j,d',rfl,z,e2⟩
  ·cases z
  ·cases z
   obtain⟨v,e3,r⟩:=h.get e2;exact⟨v,by simpa using e3,r⟩
 ·rcases cs e with⟨_,z⟩|⟨j,d',rfl,z,e2⟩<;>cases z
 ·rcases cs e with⟨rfl,z⟩|⟨j,d',rfl,z,e2⟩
  ·cases z
   refine⟨x,by simp,⟨rfl,h1,h2⟩,λc hc=>?_⟩
   have hc:c∈[x,dx]:=hc;simp only[List.mem_cons,List.not_mem_nil,or_false]at hc;rcases hc with rfl|rfl
   ·exact⟨h3,by rw[h1];exactλz=>nomatch z⟩
   ·exact⟨h4,by rw[h2];exactλz=>nomatch z⟩
  ·cases z
 ·rcases cs e1 with⟨_,z⟩|⟨j,d',rfl,z,e2⟩<;>cases z
 ·rcases cs e1 with⟨rfl,z⟩|⟨_,d',rfl,z,_⟩
  ·rcases cs e2 with⟨rfl,z⟩|⟨_,d',rfl,z,_⟩
   ·exact absurd rfl Ha
   ·cases z
  ·cases z
 ·rcases cs e1 with⟨_,z⟩|⟨j,d',rfl,z,e2⟩<;>cases z
theorem VS{x qual:Str}{st:Stmt}{f:Addr}{fd:FuncData}{N ps:List Str}{sp:Gw}{t:b5}(hK:G.K=KF.K)(Fn:A5 G.K x qual st f fd)(Sc:aC N ps (ae st))(ht:dy G k ⟨N,(ae st).names,[0],false,false,false,λ_ _=>False⟩ (aq st) t)
  (len:∀ds Q,sp ds Q->ds.length+1=ps.length)
  (body:∀ds Q,sp ds Q->∀a dx,t {nx:=inQ a dx Q,rt:=λ_ _=>False} (kK N.length a dx ds)):cn G.P G.w G.K G.mg G.base iL (k+1) f fd ps (xO sp):=by
 refine Fn.ok Sc (λvs H Q E h=>?_) (λik A outer s H vs Q E hr h=>?_)
 ·obtain⟨F,x,dx,rest,ds,Qd,rfl,s,h1,h2,h3,h4,r,q,K⟩:=h
  rw[List.length_cons,r.length];exact len _ _ q
 ·obtain⟨F,x,dx,rest,ds,Qd,rfl,sm,h1,h2,h3,h4,r,q,K⟩:=h
  have ar:=GV h1 h2 h3 h4 r;have ft:∀c,gL (.ref x::rest) (B.obj (A9 x dx [])::ds.map B.sh) c->c=x\/c=dx:=λc z=>by
   rcases z with⟨i,ys,e,_⟩|⟨i,o,b,e,e2,hm⟩
   ·cases i with
    | zero=>simp at e
    | succ j=>simp only[List.getElem?_cons_succ]at e;obtain⟨d,e1,_⟩:=cP e;cases e1
   ·cases i with
    | zero =>
     simp at e e2;subst e e2;have hm:c∈[x,dx]:=hm;simpa using hm
    | succ j=>simp only[List.getElem?_cons_succ]at e;obtain⟨d,e1,_⟩:=cP e;cases e1
  have bX:∀p∈rH (.ref x::rest) (B.obj (A9 x dx [])::ds.map B.sh),p.1∈[0]:=λp hp=>by
   obtain⟨i,a⟩:=p;obtain⟨xs,e,_⟩:=eB.mp hp;cases i with
   | zero=>simp at e
   | succ j=>simp only[List.getElem?_cons_succ]at e;obtain⟨d,e1,_⟩:=cP e;cases e1
  refine⟨_,ht (nc iL G.P G.w G.K G.mg G.base N qual (ae st) f ik A outer s H E).HG ⟨H,F,rH (.ref x::rest) (.obj (A9 x dx [])::ds.map B.sh),vC (.ref x::rest) (.obj (A9 x dx [])::ds.map B.sh)⟩ ⟨rfl,rfl,rfl,hK,rfl,rfl,rfl,rfl,Sc.nd,bX,(λ_ h=>nomatch h),λ_=>rfl,Sc.kind,λ_ _ _=>rfl,λ_=>hr.hd,hr.dp,hr.un,λ_=>PassesOwn.never,λ_=>⟨rfl,rfl,rfl⟩,λ_ _ h=>h.elim,λh=>nomatch h⟩,F,kK N.length x dx ds,_,RS.cE _ sm ar,body ds Qd q x dx,?_⟩;refine⟨λσ H' F' ah s' R' q'=>?_,λv σ H' F' ah b s' R' r' q'=>q'.elim,λ_ _ _ _ _ _ h=>h.elim,λ_ _ _ _ _ _ h=>h.elim⟩;obtain⟨ad,w,c,e,q'⟩:=q';obtain⟨b,w1,w2,w3⟩:=R'.ob.obj 0 _ e;have w20:=w2;obtain⟨rfl,y1,y2,ks,y3,_⟩:=w20;have n1:ad≠b:=fo y3 y1 (λz=>nomatch z);have n2:ad≠dx:=fo y3 y2 (λz=>nomatch z);have Zy:H ad=none:=by
   rcases(w3 ad (by show ad∈[b,dx,ad];simp)).2.2 with z|z
   ·exact z
   ·rcases ft ad (qZ (H:=H) (F:=F).mp (List.mem_append_right _ z))with z|z
    ·exact absurd z n1
    ·exact absurd z n2
  refine K H' F' ad w c s' R'.fr (λc o z1 z2 e=>R'.old c o e λy=>?_) w2 (w3 b (by show b∈[b,dx,ad];simp)).1 (w3 dx (by show dx∈[b,dx,ad];simp)).1 (w3 ad (by show ad∈[b,dx,ad];simp)).1 Zy R'.dA q'
  rcases ft c (qZ.mp y)with z|z
  ·exact z1 z
  ·exact z2 z
theorem Zb.fi{m qual:Str}{st:Stmt}{ps N:List Str}{f:Addr}{fd:FuncData}{t:b5}{sp:Gw}(d:Zb G m qual st ps f fd)(hK:G.K=KF.K)(Sc:aC N ps (ae st))(ht:dy G k ⟨N,(ae st).names,[0],false,false,false,λ_ _=>False⟩ (aq st) t)
  (len:∀ds Q,sp ds Q->ds.length+1=ps.length) (body:∀ds Q,sp ds Q->∀a dx,t {nx:=inQ a dx Q,rt:=λ_ _=>False} (kK N.length a dx ds)):wB G (k+1+1) sp:=
 ⟨f,fd,ps,k+1,rfl,VS hK d.F Sc ht len body,d.makes,d.b,d.mg⟩
def Y2(sp:Gw)(t:et):TX:=λσ Q=>t σ λds av=>sp ds λw c=>∀a dx ad,Q (.obj (cD a dx ad w c 0 [])) av
theorem xC{sp:Gw}{e:Expr}{es:List Expr}{t:et}{p pos:Pos}(h:wB G k sp)(ha:wz G k S (e::es) t)(hg:S.sc.lookup ("Kept":Str)=some .globalImplicit:=by rfl)
  (he:∀env,starEach (e::es) env=(false,eval e env)::starEach es env:=by exactλ_=>Vc.cT rfl) (dI:∀env,(backTo pos (starEach es env)).any (·.1)=false:=by intro _;rfl) (hh:S.gm=false:=by rfl):EX G k S (.Call (.Name "Kept" p) (e::es) [] pos) (Y2 sp t):=.mk λX Y ok=>by
 obtain⟨f,fd,ps,k',rfl,h1,h2,h3,h4⟩:=h;have uX:cn X.prog X.w X.K X.mg X.base iL k' f fd ps (xO sp):=by rw[ok.P,ok.w,ok.K,ok.mg,ok.base];exact h1
 refine aM (Ie (E:=E0) (dvs:=[]) (ds:=[]) (by rw[ok.K];exact h2) uX (ok.room hh) (eu ok hg) (by rw[ok.mg];exact h4) (by rw[ok.K];exact h3) .nil jX (ha X Y ok) ∅ (he _) (dI _)) λσ H Q q=>?_
 obtain⟨F,ah,Qd,R,q,K⟩:=q;refine⟨F,ah,_,R,q,λvs H1 F1 ds av s1 R1 r1 q1=>?_⟩;intro x dx hx Wa cC;have fx:F1 x=none:=same_none R1.fr hx;have fdx:F1 dx=none:=same_none R1.fr Wa;have up:∀ {b:Addr} {o:HO},H1 b=some o->(upd (upd H1 dx (.own x)) x (.ins kC dx [])) b=some o:=λ{b o} e=>by
  rw[ai (aP e hx),ai (aP e Wa)];exact e
 refine⟨F1,x,dx,vs++[],ds,_,rfl,⟨λb o e=>up (R1.fr b o e),R1.ob.tab⟩,au,by rw[ai cC,au],fx,fdx,by rw[List.append_nil];exact r1,q1,λH' F' ad w c u1 u2 u3 u4 u5 u6 u7 u8 u9 u10=>⟨rfl,?_⟩⟩
 have sH:aj H1 H':=λb o e=>u3 b o (aP e hx) (aP e Wa) (up e);have Zy:H1 ad=none:=by
  cases z:H1 ad with
  | none=>rfl
  | some o=>rw[up z]at u8;cases u8
 have R2:RS Y F' av σ H':=R1.call u1 u2 sH λb o z=>(u9 b o z).imp id λy=>y.imp (λy=>by
  cases z:H1 b with
  | none=>rfl
  | some o=>rw[up z]at y;cases y) id
 refine K _ H' F' (.obj (cD x dx ad w c 0 [])) av (s1.trans u1) R2 ⟨x,rfl,u4,λb hb=>?_⟩ (u10 x dx ad);obtain⟨_,g1,g2,ks,g3,_⟩:=u4;have hb:b∈[x,dx,ad]:=hb;simp only[List.mem_cons,List.not_mem_nil,or_false]at hb;rcases hb with rfl|rfl|rfl
 ·exact⟨u5,(by rw[g1];exactλz=>nomatch z),(R1.bw hx).1,R1.b3 hx⟩
 ·exact⟨u6,(by rw[g2];exactλz=>nomatch z),(R1.bw Wa).1,R1.b3 Wa⟩
 ·exact⟨u7,(by rw[g3];exactλz=>nomatch z),(R1.bw Zy).1,R1.b3 Zy⟩
end Vc
namespace Vc
open PySem L2
variable [KF]
variable {G:GE}{k:Nat}{S:Stat}
def SJ(t:TX)(te:TD):TX:=λσ Q=>t σ λx av=>match x with
 | .own xs=>xs.length<sizeLine/\te av λ_ aH=>Q (.val .aW) aH
 | _=>False
theorem AO{o e:Expr}{t:TX}{te:TD}{apos cpos:Pos}(ho:EX G k S o t)(he:ED G k S e te)(hb:∀env,attributeBase o "append" env (eval o env)=eval o env:=by intro _;rfl)
  (rB:∀env,((backTo cpos (starEach [e] env)).all (λx=>!x.1)&&(backToKw cpos (keywordEach [] env)).all (λx=>x.1.isSome)&&decide (([e]:List Expr).length+([]:List Keyword).length+(if([]:List Keyword).isEmpty then 0 else 1)<30))=true:=by intro _;rfl)
  (hline:(apos.endLine==cpos.line)=true:=by rfl) (hs:∀env,starEach [e] env=[(false,eval e env)]:=by intro _;rfl) (wu:S.ex=λ_ _=>False:=by rfl):EX G k S (.Call (.Attribute o "append" apos) [e] [] cpos) (SJ t te):=.mk λX Y ok=>by
 have ha:PA X [e] (λσ H Q=>∃Y':aV,(Y'.io=Y.io/\Y'.ob=Y.ob)/\mr (lD Y' te) pC σ H Q):=λpos pins s σ H Q I ⟨Y',hy,q⟩=>cu (he X Y' (ok.to wu hy.1 hy.2)) dJ (by rw[hs];rfl) pos pins s σ H Q I q
 refine aM (yW F.plainAttrs_list F.slot_list_append F.type_list_append lq (ho X Y ok) ha (hb _) (rB _) hline (by rw[hs];rfl) (by rfl)) λσ H Q q=>?_
 obtain⟨F,ah,Qd,R,q,K⟩:=q;refine⟨F,ah,_,R,q,λv1 H1 F1 x av s1 R1 r1 q1=>?_⟩
 split at q1
 ·rename_i xs
  obtain⟨a,vs,rfl,e1,e2,e3,e4,e5⟩:=r1;have ap:mY Y F1 av σ H1 a (.lst vs):=⟨e1,e3,e5,e4,λz=>R1.ob.Ja a z e4,λ_ z=>nomatch z⟩;have hP:∀b∈[a],∃o,mY Y F1 av σ H1 b o:=λb hb=>by rw[List.mem_singleton.mp hb];exact⟨_,ap⟩
  refine⟨.inl ⟨rfl,vs,.of e1⟩,Y.oh F1 H1 [a],⟨rfl,rfl⟩,F1,av,_,R1.y0 [a] hP,q1.2,λv2 H2 F2 d aH s2 R2 r2 q2=>?_⟩;obtain⟨R3,k3⟩:=R1.iK hP R2;have Zi:=k3 a _ (List.mem_singleton.mpr rfl) ap;exact⟨a,vs,v2,rfl,rfl,Zi.h,by rw[e2.length];exact q1.1,K .aW _ F2 (.val .aW) _ (s1.trans s2) (R3.other Zi.f Zi.z Zi.no) .aW q2⟩
 ·exact q1.elim
end Vc
namespace Vc
open PySem L2
variable [KF]
variable {G:GE}{k:Nat}{S:Stat}
theorem Xd{y:List D}(h:d3 y=true)(ds:List D):(B.own y::ds.map B.sh).all OY=true:=by
 rw[List.all_cons,List.all_map,Bool.and_eq_true];exact⟨h,List.all_eq_true.mpr λ_ _=>rfl⟩
theorem ln0{α:Type}{P:List α->Prop}(h:P [])(us:List α)(e:us.length=0):P us:=List.eq_nil_of_length_eq_zero e ▸ h
theorem TQ{α:Type}{n:Nat}{P:List α->Prop}(h:∀(a:α) (r:List α),r.length=n->P (a::r)):∀us:List α,us.length=n+1->P us:=λus e=>by
 cases us with
 | nil=>cases e
 | cons a r=>exact h a r (Nat.succ.inj e)
@[elab_as_elim] theorem Ec{α:Type} {P:List α->Prop} (h:∀a,P [a]) (us:List α) (e:us.length=1):P us:=TQ (λa=>ln0 (P:=λr=>P (a::r)) (h a)) us e
@[elab_as_elim] theorem ln2{α:Type} {P:List α->Prop} (h:∀a b,P [a,b]) (us:List α) (e:us.length=2):P us:=TQ (λa=>Ec (P:=λr=>P (a::r)) (h a)) us e
@[elab_as_elim] theorem Ht{α:Type} {P:List α->Prop} (h:∀a b c,P [a,b,c]) (us:List α) (e:us.length=3):P us:=TQ (λa=>ln2 (P:=λr=>P (a::r)) (h a)) us e
@[elab_as_elim] theorem ZW{α:Type} {P:List α->Prop} (h:∀a b c d,P [a,b,c,d]) (us:List α) (e:us.length=4):P us:=TQ (λa=>Ht (P:=λr=>P (a::r)) (h a)) us e
@[elab_as_elim] theorem ln5{α:Type} {P:List α->Prop} (h:∀a b c d e,P [a,b,c,d,e]) (us:List α) (e:us.length=5):P us:=TQ (λa=>ZW (P:=λr=>P (a::r)) (h a)) us e
@[elab_as_elim] theorem ln6{α:Type} {P:List α->Prop} (h:∀a b c d e f,P [a,b,c,d,e,f]) (us:List α) (e:us.length=6):P us:=TQ (λa=>ln5 (P:=λr=>P (a::r)) (h a)) us e
theorem yp(p:Addr)(kvs:List (Int×D)):(wm p kvs).view=some (.dW kvs):=rfl
theorem yP(a dx ad:Addr)(w:Str)(c e:Int)(kvs:List (Int×D)):(cD a dx ad w c e kvs).view=some (.kp w c e kvs):=rfl
def O1:B->Bool
 | .own _=>false
 | _=>true
theorem wZ{bs:List B}{i:Nat}{xs:List D}(k:Nat)(h:(bs.drop k).all O1=true)(e:bs[i]?=some (.own xs)):i∈List.range k:=by
 rw[List.mem_range];rcases Nat.lt_or_ge i k with z|z
 ·exact z
 ·have:B.own xs∈bs.drop k:=List.mem_of_getElem? (i:=i-k) (by rw[List.getElem?_drop,Nat.add_sub_cancel' z];exact e)
  cases List.all_eq_true.mp h _ this
end Vc
namespace Vc
open PySem L2
variable [KF]
variable {G:GE}{k:Nat}{S:Stat}
def Ea(l:Bool)(d:Option D):Option B:=match l with
 | true=>d.map B.sh
 | false=>none
theorem Eb{l:Bool}{d:Option D}{b:B}(h:Ea l d=some b):l=true/\∃x,d=some x/\b=.sh x:=by
 cases l with
 | false=>cases h
 | true =>
  obtain⟨x,h1,h2⟩:=Option.map_eq_some_iff.mp (show d.map B.sh=some b from h)
  exact⟨rfl,x,h1,h2.symm⟩
def gT:D->Bool
 | .aW=>true
 | .bl _=>true
 | .int _=>true
 | .str _=>true
 | _=>false
theorem Rep.flat{F F':Hp}{v:V}{d:D}(r:Rep F v d)(h:gT d=true):Rep F' v d:=by
 cases r with
 | aW=>exact .aW
 | bl b=>exact .bl b
 | int i=>exact .int i
 | str x=>exact .str x
 | _=>cases h
theorem ay.flat{F F':Hp}:∀ {vs:List V} {ds:List D},ay F vs ds->ds.all gT=true->ay F' vs ds
 | _,_,.nil,_=>.nil
 | _,_,.cons r rs,h=>by
  rw[List.all_cons,Bool.and_eq_true]at h;exact .cons (r.flat h.1) (ay.flat rs h.2)
end Vc
namespace Vs
open PySem PySem.Calls PyProof.Rows PyProof.V PySem.Spec
section
variable {prog:Program}{w:World}{A:Around}{E:Value->Shared->Prop}{s:Shared}
theorem xN{T:String}{r d:Addr}{n:Nat}{P:Nat->Value->Prop}{OK:Heap->Prop}{vs:List Value}{ns:List Int}{Q:Value->Shared->Prop}(K:PySem.W.KdlSrc prog w T r d n P OK)(hh:A.handled=none)(ok:OK s.heap)(hn:n<=sizeLine)
  (hv:∀acc:Array Value,ItemsOf P acc n->acc.toList=vs) (hz:vs.length<=sizeLine) (hI:IntsAre vs ns) (Nr:vs.length<64)
  (h:∀(out:Array Value) (ms:List Int) (h1 g:Heap) (c t:Nat),IntsAre out.toList ms->ms.Perm ns->ms.Pairwise (·<=·)->(∀b o,s.heap.get? b=some o->h1.get? b=some o)->(∀b o,h1.get? b=some o->g.get? b=some o)->g.get? h1.objs.size=some (seqObj "list" out c)->Q (.ref h1.objs.size) {s with heap:=g,toks:=t}):
  wpAny (model prog w) A (call (.builtin "sorted") [.ref r]) Q E s:=by
 refine Calls.call_function_entry kind_sorted plain_sorted entry_sorted (args_sorted1 _) ?_;unfold Builtin.«sorted»;refine wpAny_bind (m:=checkCount "sorted" 1 1 _) (wpAny_pure (wpAny_bind (PySem.W.kdu_collect (A:=A.in1) K hh ok hn λh1 t acc k1 items=>?_)));rw[hv acc items];refine wpAny_bind (wpAny_newList ?_ hz);have He:(h1.push (seqObj "list" vs.toArray 0)).get? h1.objs.size=some (seqObj "list" vs.toArray 0):=Heap.get?_push_size _ rfl;show wpAny _ _ _ _ _ {s with heap:=h1.push (seqObj "list" vs.toArray 0),toks:=t}
 refine wpAny_bind (wpAny_holding (wpAny_call_entry slot_list_sort ⟨_,He,rfl⟩ entry_list_sort (list_sort_tree (s:={s with heap:=h1.push (seqObj "list" vs.toArray 0),toks:=t}) He hI Nr λout ms a1 a2 a3=>⟨_,rfl,?_⟩) (args_list_sort _)))
 obtain⟨c,hc⟩:=sortedHeap_at (out:=out) He;refine wpAny_pure ⟨_,rfl,h out ms h1 _ c t a1 a2 a3 k1 (λb o e=>?_) hc⟩;have hb:=Heap.lt_size e;rw[sortedHeap_old (Nat.ne_of_lt hb) (by rw[size_push'];exact Nat.lt_succ_of_lt hb)]
 exact Heap.get?_push_of_some _ e
end
end Vs
namespace Vc
open PySem L2
variable [KF]
def zf:List V->Hp->VK->Prop:=λxs H Q=>∃a ks,∃ns:List Int,xs=[.ref a]/\Rd H a (.dK ks)/\ks.map (·.1)=ns.map Sum.inl/\ns.length<64 /\
 ∀ms:List Int,ms.Perm ns->ms.Pairwise (λx y=>x<=y)->∀l,H l=none->Q (.ref l) (upd H l (.lst (ms.map V.int)))
theorem uf{X:Cx}(hc:X.calm=true):cV X (.builtin "sorted") zf:=by
 intro pins s σ H xs Jd Q I r h;obtain⟨a,ks,ns,rfl,ha,ek,Nr,q⟩:=h;obtain⟨u,rfl,rx⟩:=vals1 r;cases rx;obtain⟨hz,hd,vs,rel,o,es,ep,e1,e2,e3,e4,e5,e6⟩:=iX I.bL ha;have hlv:ks.length=vs.length:=rel.length;have hle:es.toList.length=vs.length:=e5.length;have ZF:vs.map (·.1)=ns.map Sum.inl:=by
  rw[<- ek];clear e5 e6 hlv hle ha ek hz q
  induction rel with
  | nil=>rfl
  | cons hx _ ih=>rw[List.map_cons,List.map_cons,ih,hx.1]
 have hln:ns.length=vs.length:=by have:=congrArg List.length ZF;simpa using this.symm
 obtain⟨its,MM⟩:∃its:List Value,its=es.toList.map (·.key):=⟨_,rfl⟩
 have ii:PyProof.Rows.IntsAre its ns:=by rw[MM];exact n6 e5 ZF
 have lits:its.length=vs.length:=by rw[MM,List.length_map];exact hle
 refine Vs.xN (vs:=its) (Mj (en:=es) (c:=ep) hd) (I.ok.hd hc) ⟨o,e1,e2,e3⟩ (by rw[<- Array.length_toList];omega) (λacc it=>?_) ⋯ ii ⋯ λout ms h1 g c' t a1 perm srt k1 kg hg=>?_
 ·refine List.ext_getElem? λj=>?_
  rw[Array.getElem?_toList];cases ej:acc[j]? with
  | none =>
   have:acc.size<=j:=Array.getElem?_eq_none_iff.mp ej;rw[it.1]at this;rw[List.getElem?_eq_none (by rw[lits,<- hle,Array.length_toList];exact this)]
  | some v =>
   obtain⟨e,he,rfl⟩:=it.2 j v ej;rw[MM,List.getElem?_map,Array.getElem?_toList,he];rfl
 ·have I1:=I.kept (h':=h1) (t':=s.toks) k1
  have fr:H h1.objs.size=none:=I1.fresh;refine⟨.ref h1.objs.size,_,I1.laid (h':=g) (t':=t) (o:=.lst (ms.map V.int)) kg (Nat.le_refl _) ⟨?_,out.toList,c',?_,hg⟩,rfl,q ms perm srt _ fr⟩
  ·rw[List.length_map,perm.length_eq];omega
  ·rw[<- jl a1]
   exact d9 (gX a1)
variable {G:GE}{k:Nat}{S:Stat}
def hX:List D->(EV->Prop)->Prop
 | [.dW kvs],Q=>kvs.length<64/\Q (.own ((qw (kvs.map (·.1))).map D.int))
 | _,_=>False
theorem gS(hh:S.gm=false:=by rfl):zI G k S (.builtin "sorted") hX:=⟨λ_=>zf,λX Y ok=>uf (ok.calm hh),λY F H ah σ vs ds Qd Q R r q g=>by
 unfold hX at q
 split at q
 ·rename_i kvs
  obtain⟨Nr,q⟩:=q;obtain⟨v,rfl,rv⟩:=r.one;obtain⟨a,ks,rfl,h,rr⟩:=rv;refine⟨a,ks,kvs.map (·.1),rfl,h,iC rr,by rw[List.length_map];exact Nr,λms hp hs l hl=>?_⟩
  rw[<- oB hp hs]at q;exact g.own R (lC ms) q l hl
 ·exact q.elim⟩
end Vc
namespace Vc
open PySem L2
variable [KF]
variable {G:GE}{k:Nat}{S:Stat}
theorem jJ:∀ {ns:List Int} {its:List Value},Vals (ns.map V.int) its->PyProof.Rows.IntsAre its ns
 | [],_,.nil=>.nil
 | n::ns,_,.cons h r=>by
  obtain⟨t,rfl⟩:=h;exact .cons _ t (jJ r)
theorem qu{F:Hp}:∀ {us:List V} {ds:List D},ay F us ds->ds.all isInt=true->us=(ds.map k8).map V.int
 | _,_,.nil,_=>rfl
 | _,_,.cons (d:=d) r rs,h=>by
  rw[List.all_cons,Bool.and_eq_true]at h;rw[List.map_cons,List.map_cons,<- qu rs h.2];cases r with
  | int i=>rfl
  | _=>cases h.1
end Vc
namespace Vc
open PySem L2
variable [KF]
variable {G:GE}{k:Nat}{S:Stat}
theorem qt{F:Hp}:∀ {ks:List (Key×V)} {kvs:List (Int×D)},bu F ks kvs->ay F (ks.map (·.2)) (kvs.map (·.2))
 | _,_,.nil=>.nil
 | _,_,.cons r rs=>.cons r (qt rs)
def YW(r:V->List V->Hp->VK->Prop)(to:TE):TE:=λσ H Q=>to σ H λx H1=>(∃a,x=.ref a/\IsD H1 a)/\r x [] H1 Q
theorem HZ{X:Cx}{o:Expr}{to:TE}{name:Str}{apos cpos:Pos}{id:String}{r:V->List V->Hp->VK->Prop}(slot:Slot "dict" name id)(hty:typeOf (.builtin id)=pure (.type "method_descriptor"))(hm:Ul X id r)(ho:PE X o to)
  (DN:attributeBase o name X.env (eval o X.env)=eval o X.env:=by rfl) (hline:(apos.endLine==cpos.line)=true:=by rfl):PE X (.Call (.Attribute o name apos) [] [] cpos) (YW r to):=by
 intro pins s σ H Q I h;refine wpAny_Call_method0_late DN hline (cm (ho pins s σ H _ I h) λv s1 ⟨x,H1,I1,r1,⟨a,e,ty⟩,q1⟩=>?_);subst e;cases r1;obtain⟨h1,h2,_⟩:=DY I1 ty;exact⟨"dict",id,F.plainAttrs_dict,slot,hty,h1,h2,Calls.callWith_builtin rfl (PySem.evalArgs_none (hm pins s1 σ H1 (.ref a) [] (.ref a) [] Q I1 rfl .nil q1))⟩
def SR(to:TV):TX:=λσ Q=>to σ λx av=>match cS av x with
 | some (.dW kvs)=>Q (.own (kvs.map (·.2))) av
 | _=>False
theorem Yj{o:Expr}{to:TV}{lp ap cp pos:Pos}(ho:EO G k S o to)(hm:G.mg "list"=none)(hb:∀env,attributeBase o "values" env (eval o env)=eval o env:=by intro _;rfl)
  (hl:(ap.endLine==cp.line)=true:=by rfl) (hg:S.sc.lookup ("list":Str)=some .globalImplicit:=by rfl) (hh:S.gm=false:=by rfl):
  EX G k S (.Call (.Name "list" lp) [.Call (.Attribute o "values" ap) [] [] cp] [] pos) (SR to):=.mk λX Y ok=>by
 have p1:=HZ (apos:=ap) (cpos:=cp) F.slot_dict_values F.type_dict_values Hw (ho X Y ok) (hb _) hl;refine aM (ly (wO (ok.calm hh)) (eu ok hg) (by rw[ok.mg];exact hm) (by decide +kernel) (cu p1 dJ rfl) ∅ ∅ rfl rfl) λσ H Q q=>?_
 obtain⟨F,ah,Qd,R,q,K⟩:=q;refine⟨F,ah,_,R,q,λv H1 F1 x av s1 R1 r1 q1=>?_⟩
 split at q1
 ·rename_i kvs ed
  obtain⟨a,ks,rfl,h,rr⟩:=R1.cS r1 ed;refine⟨⟨a,rfl,.inl ⟨_,h⟩⟩,a,_,rfl,rfl,h,λp hp=>?_⟩;have ha:H1 a≠none:=by rcases h with h|⟨o,h⟩<;>(rw[h];exactλz=>nomatch z)
  have hap:a≠p:=λz=>ha (z ▸ hp);refine⟨p,a,_,rfl,au,Fe h hp,λl hl=>?_⟩;have R2:=R1.ja (o:=vwO p a) hp;have R3:=R2.ja (o:=.lst (ks.map (·.2))) hl
  exact K (.ref l) _ F1 (.own (kvs.map (·.2))) av s1 R3 ⟨l,_,rfl,au,qt rr,same_none R2.fr hl,(R2.bw hl).1,R2.b3 hl⟩ q1
 ·exact q1.elim
end Vc
namespace Vs
open PySem
section
variable {prog:Program}{w:World}{A:Around}{E:Value->Shared->Prop}{h:Heap}{g:Array GenState}{d:Drawn}{t:Nat}{os:OsState}{a:Addr}{o:Obj}{its:Array Value}{n:Nat}
theorem rQ:typeLookup (.type "list") "keys"=pure none:=by rw[typeLookup_type,builtinLookup_eq_fast];kernel_rfl
theorem mE:typeLookup (.type "list") "__getattr__"=pure none:=by rw[typeLookup_type,builtinLookup_eq_fast];kernel_rfl
theorem oU:isSubtype (.type "AttributeError") (.type "AttributeError")=pure true:=by rw[isSubtype_type];kernel_rfl
theorem xF{α:Type}{Q:α->Shared->Prop}{v:Value}{x m:Str}(hh:A.handled=none)(hm:m.length<=sizeLine)(hq:∀h' e t',(∀b u,h.get? b=some u->h'.get? b=some u)->(∃oe,h'.get? e=some oe/\oe.cls=.type "AttributeError")->E (.ref e) ⟨h',g,d,t',os⟩):
  wpAny (model prog w) A (raiseAttrError v x m:Sem α) Q E ⟨h,g,d,t,os⟩:=by
 unfold raiseAttrError;refine wpAny_bind (wpAny_mkStr (wpAny_bind ?_) hm);unfold newExc newTuple;refine wpAny_bind (wpAny_newObj_type ?_);refine wpAny_bind (m:=firstArgMember _ _) (wpAny_of_eq (a:=Value.none) (by rfl) ?_)
 refine wpAny_newObj_type ?_;refine wpAny_bind (wpAny_mkText (wpAny_bind ?_));unfold noteAttr;dsimp only;have f1:=oU
 repeat (any_goals (first|assumption|wp_step))
 refine wpAny_raiseNew_none hh (hq _ _ _ (λb u e=>?_) ?_)
 ·have hb:b<h.objs.size:=Heap.lt_size e
  refine(Heap.get?_update_other _ _ ?_).trans (Heap.get?_push_of_some _ (Heap.get?_push_of_some _ e));exact Ne.symm (Nat.ne_of_lt (Nat.lt_of_lt_of_le hb (by simp)))
 ·exact⟨_,Heap.get?_update_self _ (Heap.get?_push_size _ rfl) rfl,rfl⟩
theorem mD{tk:Tok}{Q:Fin->Shared->Prop}(hh:A.handled=none)(hx:h.get? a=some o)(hc:o.cls=.type "list")(hd:o.data=.seq its n)(hn:o.dict=none)(hq:∀h' e t',(∀b u,h.get? b=some u->h'.get? b=some u)->(∃oe,h'.get? e=some oe/\oe.cls=.type "AttributeError")->E (.ref e) ⟨h',g,d,t',os⟩):
  wpAny (model prog w) A (Builtin.«object.__getattribute__» ⟨[.ref a,.str "keys" tk],[]⟩) Q E ⟨h,g,d,t,os⟩:=by
 have hT:(⟨h,g,d,t,os⟩:Shared).TypeIs (.ref a) "list":=⟨_,hx,hc⟩;have f4:=rQ
 repeat (any_goals (first|assumption|wp_step))
 rw[hd];dsimp only;unfold instanceDict
 repeat (any_goals (first|assumption|wp_step))
 rw[hc,hn];dsimp only
 repeat (any_goals (first|assumption|wp_step))
 exact xF hh (by decide +kernel) hq
theorem nH{tk:Tok}{R:Result->Shared->Prop}(hh:A.handled=none)(hx:h.get? a=some o)(hc:o.cls=.type "list")(hd:o.data=.seq its n)(hn:o.dict=none)(hq:∀h' e t',(∀b u,h.get? b=some u->h'.get? b=some u)->(∃oe,h'.get? e=some oe/\oe.cls=.type "AttributeError")->R (.error (.ref e)) ⟨h',g,d,t',os⟩):
  codeAny (model prog w) A (.call (.builtin "list.__getattribute__") ⟨[.ref a,.str "keys" tk],[]⟩) R ⟨h,g,d,t,os⟩:=
 codeAny_call_builtin F.slot_list_getattribute.plain F.entry_list_ga (F.slot_list_getattribute.check _ _ _ _ _ _ _ _ (show(⟨h,g,d,t,os⟩:Shared).TypeIs (.ref a) "list" from⟨_,hx,hc⟩) (F.args_list_getattribute_2 _ _) (mD (A:=A.in1) hh hx hc hd hn hq))
theorem rN{tk:Tok}{Q:Value->Shared->Prop}(hh:A.handled=none)(hx:h.get? a=some o)(hc:o.cls=.type "list")(hd:o.data=.seq its n)(hn:o.dict=none)(hq:∀h' e t',(∀b u,h.get? b=some u->h'.get? b=some u)->(∃oe,h'.get? e=some oe/\oe.cls=.type "AttributeError")->E (.ref e) ⟨h',g,d,t',os⟩):
  wpAny (model prog w) A (getAttrBy (.ref a) (.str "keys" tk) false) Q E ⟨h,g,d,t,os⟩:=by
 have hT:(⟨h,g,d,t,os⟩:Shared).TypeIs (.ref a) "list":=⟨_,hx,hc⟩;have f2:=F.slot_list_getattribute.lookup;have f3:=F.slot_list_getattribute.bind (.ref a)
 repeat (any_goals (first|assumption|wp_step))
 refine nH hh hx hc hd hn λh' e t' k x=>?_;obtain⟨oe,x1,x2⟩:=x;have hT':(⟨h',g,d,t',os⟩:Shared).TypeIs (.ref e) "AttributeError":=⟨_,x1,x2⟩;have f1:=oU;have f5:=mE;have hE:=hq h' e t' k ⟨oe,x1,x2⟩;dsimp only;unfold getattributeRaised
 repeat (any_goals (first|assumption|wp_step))
theorem nG{Q:Option Value->Shared->Prop}(hh:A.handled=none)(hx:h.get? a=some o)(hc:o.cls=.type "list")(hd:o.data=.seq its n)(hn:o.dict=none)(hq:∀h' t',(∀b u,h.get? b=some u->h'.get? b=some u)->Q none ⟨h',g,d,t',os⟩):
  wpAny (model prog w) A (getAttr? (.ref a) "keys") Q E ⟨h,g,d,t,os⟩:=by
 unfold getAttr? getAttrBy?;refine wpAny_bind (wpAny_mkText (wpAny_bind (wpAny_attempt ?_)));refine rN hh hx hc hd hn λh' e t' k ⟨oe,x1,x2⟩=>?_;dsimp only;refine wpAny_bind (wpAny_isInstance (T:="AttributeError") (b:=true) ⟨_,x1,x2⟩ oU ?_);exact wpAny_pure (hq h' t' k)
end
end Vs
namespace Vs
open PySem
theorem nP:mroOf (.type "dict")=pure [.type "dict",.type "object"]:=by rw[mroOf_type];kernel_rfl
theorem mF:typeLookup (.type "dict") "__new__"=pure (some (.builtin "dict.__new__")):=by rw[typeLookup_type,builtinLookup_eq_fast];kernel_rfl
theorem uh:TypeCalled "dict" "dict.__new__" "dict.__init__":=
 ⟨by decide +kernel,by decide +kernel,⟨_,_,nP⟩,madeBy_type nP mF (by decide +kernel),by decide +kernel,by rw[isSubtype_type];kernel_rfl,F.slot_dict_init⟩
theorem mH(a:Value):checkTypeCall "dict" ⟨[a],[]⟩=pure ():=by kernel_rfl
theorem nW(a:Value):checkBuiltinCall "dict.__new__" ⟨[.type "dict",a],[]⟩=pure ():=by kernel_rfl
theorem nh:entryFor table "dict.__new__"=some Builtin.«dict.__new__»:=entryFor_of_tree (by kernel_rfl)
theorem hG:plainId "dict.__new__"=true:=by decide +kernel
theorem nj:entryFor table "dict.update.loop"=some Builtin.«dict.update.loop»:=entryFor_of_tree (by kernel_rfl)
theorem fO:plainId "dict.update.loop"=true:=by decide +kernel
theorem pB:isSubtype (.type "dict") (.type "dict")=pure true:=by rw[isSubtype_type];kernel_rfl
section
variable {prog:Program}{w:World}{A:Around}{E:Value->Shared->Prop}{s:Shared}
theorem pf(a:Value){Q₁:Value->Shared->Prop}
  (h:Q₁ (.ref s.heap.objs.size) {s with heap:=s.heap.push {cls:=.type "dict",data:=.dict #[]}}):
  codeAny (model prog w) A (.call (.builtin "dict.__new__") ⟨[.type "dict",a],[]⟩) (wants Q₁ E) s:=by
 refine codeAny_of_tree ?_;show wpAny _ A.in1 (do checkBuiltinCall "dict.__new__" ⟨[.type "dict",a],[]⟩;again (.builtin "dict.__new__" ⟨[.type "dict",a],[]⟩)) _ _ s
 refine wpAny_bind (wpAny_of_eq (nW a) (wpAny_pure ⟨plainId_quiet hG _,codeAny_builtin nh ?_⟩));rw[Around.under_plainId hG _];have abw:=pB;have hm:=nP;obtain⟨hp,g,d,tk,os⟩:=s
 wp_walk
 exact h
end
section
variable {prog:Program}{w:World}{A:Around}{R:Result->Shared->Prop}{K:Type}[DecidableEq K]{knd:KeyKind prog w K}
theorem zX(hh:A.in1.handled=none){I l D:Addr}{vs:List Value}{more:List (K×Value)}(hm:more.length=vs.length)(n1:l≠D)(n2:l≠I)(n3:D≠I):
  ∀(k i:Nat) (s:Shared) (kvs:List (K×Value)),vs.length-i=k->i<=vs.length->s.heap.IsListIter I l i->s.heap.IsList l vs.toArray ->
  (∀(j:Nat) (v:Value),vs[j]?=some v->∃(b:Addr) (key x:Value) (kk:K),v=Value.ref b/\PyProof.Rows.IsTup s.heap b #[key,x]/\knd.is kk key=true/\more[j]?=some (kk,x)/\b≠D/\b≠I) ->
  s.heap.DictOf knd D kvs->kvs.length+(more.drop i).length<=sizeLine ->
  (∀h' tk,(∀b o,b≠D->b≠I->s.heap.get? b=some o->h'.get? b=some o)->h'.DictOf knd D (merged kvs (more.drop i))->R (.ok (.ret .none)) {s with heap:=h',toks:=tk}) ->
  codeAny (model prog w) A (.builtin "dict.update.loop" ⟨[.ref D,.ref I,rawInt i,.none],[]⟩) R s:=by
 intro k
 induction k with
 | zero =>
  intro i s kvs hk hi hit hl hv hD hz hR;have Hb:i=vs.length:=by omega
  subst Hb;refine codeAny_builtin nj ?_;rw[Around.under_plainId fO _];show wpAny _ A.in1 (pyNext (.ref I) >>= _) _ _ s;refine wpAny_bind (wpAny_pyNext_list_end hh hit hl (by simp) λh' eb=>?_)
  have k1:∀b o,b≠D->b≠I->s.heap.get? b=some o->h'.get? b=some o:=λb o _ hb e=>eb b o hb e;refine wpAny_bind ?_;refine wpAny_of_eq (a:=()) rfl ?_;refine wpAny_pure (hR h' _ k1 ?_);rw[List.drop_of_length_le ⋯]
  obtain⟨o,es,ep,e,r⟩:=hD;exact⟨o,es,ep,eb D o n3 e,r⟩
 | succ k ih =>
  intro i s kvs hk hi hit hl hv hD hz hR;have lU:i<vs.length:=by omega
  have ev:vs[i]?=some vs[i]:=List.getElem?_eq_getElem lU;obtain⟨b,key,x,kk,eb,hb,NB,em,b1,b2⟩:=hv i _ ev;have ec:more.drop i=(kk,x)::more.drop (i+1):=by
   rw[List.drop_eq_getElem_cons ⋯]
   rw[List.getElem?_eq_getElem ⋯]at em
   rw[Option.some.inj em]
  refine codeAny_builtin nj ?_;rw[Around.under_plainId fO _];show wpAny _ A.in1 (pyNext (.ref I) >>= _) _ _ s;refine wpAny_bind (wpAny_pyNext_list_item hit hl (x:=vs[i]) (by simpa using ev) λh1 aaD sb=>?_)
  rw[eb];obtain⟨ob,eo,co,no,do_⟩:=id hb;have B1:h1.get? b=some ob:=(sb.2 b b2).trans eo;have D1:h1.DictOf knd D kvs:=by
   obtain⟨o,es,ep,e,r⟩:=hD;exact⟨o,es,ep,(sb.2 D n3).trans e,r⟩
  rw[ec,List.length_cons]at hz;dsimp only;refine wpAny_bind (wpAny_holding (wpAny_bind (wpAny_tryCatch ?_)));unfold Builtin.Dict.pairItems;refine wpAny_bind (wpAny_typeOf (T:="tuple") ⟨_,B1,co⟩ ?_);rw[if_pos ∅]
  refine wpAny_bind (wpAny_seqItems B1 do_ (wpAny_pure ?_));show wpAny _ _ (holding [key,x] (dictSet D key x)) _ _ _;refine wpAny_holding (wpAny_dictSet_pairs (hsz:=by omega) NB D1 λh2 D2 sb2=>?_)
  refine wpAny_pure ⟨plainId_quiet fO _,?_⟩;have kp:∀c o,c≠D->c≠I->s.heap.get? c=some o->h2.get? c=some o:=λc o c1 c2 e=>(sb2.2 c c1).trans ((sb.2 c c2).trans e);have hz2:(stored kvs kk x).length<=kvs.length+1:=stored_length_le kvs kk x;refine ih (i+1) _ (stored kvs kk x) ⋯ lU ?_ ?_ (λj v e=>?_) D2 ⋯ λh' tk k' d'=>?_
  ·exact aaD.at λo e=>(sb2.2 I (Ne.symm n3)).trans e
  ·obtain⟨o,e,r⟩:=hl
   exact⟨o,kp l o n1 n2 e,r⟩
  ·obtain⟨b',aaU,x',kk',z1,⟨o,z2,z3⟩,z4,z5,z6,z7⟩:=hv j v e
   exact⟨b',aaU,x',kk',z1,⟨o,kp b' o z6 z7 z2,z3⟩,z4,z5,z6,z7⟩
  ·refine hR h' tk (λc o c1 c2 e=>k' c o c1 c2 (kp c o c1 c2 e)) ?_
   rw[ec];exact d'
theorem wM{E:Value->Shared->Prop}{s:Shared}{l:Addr}{ol:Obj}{nl:Nat}{vs:List Value}{more:List (K×Value)}{Q:Value->Shared->Prop}(hh:A.handled=none)(el:s.heap.get? l=some ol)(cl:ol.cls=.type "list")(dl:ol.data=.seq vs.toArray nl)(ul:ol.dict=none)
  (hm:more.length=vs.length) (hv:∀(j:Nat) (v:Value),vs[j]?=some v->∃(b:Addr) (key x:Value) (kk:K),v=Value.ref b/\PyProof.Rows.IsTup s.heap b #[key,x]/\knd.is kk key=true/\more[j]?=some (kk,x)) (hz:more.length<=sizeLine)
  (q:∀h' tk,(∀b o,s.heap.get? b=some o->h'.get? b=some o)->h'.DictOf knd s.heap.objs.size (merged [] more)->Q (.ref s.heap.objs.size) {s with heap:=h',toks:=tk}):
  wpAny (model prog w) A (call (.type "dict") [.ref l]) Q E s:=by
 refine callType_codes (Q₁:=λobj bJ=>obj=.ref s.heap.objs.size/\bJ={s with heap:=s.heap.push {cls:=.type "dict",data:=.dict #[]}}) uh (mH _) F.entry_dict_init
  (pf _ ⟨rfl,rfl⟩) λobj bJ Am=>?_
 obtain⟨rfl,rfl⟩:=Am;have hD:(s.heap.push {cls:=.type "dict",data:=.dict #[]}).DictOf knd s.heap.objs.size []:=Heap.DictOf.new _;obtain⟨h1,e1⟩:∃h1,h1=s.heap.push {cls:=.type "dict",data:=.dict #[]}:=⟨_,rfl⟩;rw[<- e1]at hD ⊢;have kp:∀b o,s.heap.get? b=some o->h1.get? b=some o:=λb o e=>by rw[e1];exact Heap.get?_push_of_some _ e
 have hsz:h1.objs.size=s.heap.objs.size+1:=by rw[e1];exact Array.size_push ..
 have hT:(⟨h1,s.gens,s.drawn,s.toks,s.os⟩:Shared).TypeIs (.ref s.heap.objs.size) "dict":=hD.typeIs;refine⟨hT,F.args_dict_init_2 _ _,?_⟩;unfold Builtin.«dict.__init__»;refine wpAny_bind ?_;unfold Builtin.Dict.selfAndRest;refine wpAny_bind (wpAny_notOrdered_dict hD.typeIs ?_);show wpAny _ _ (pure (s.heap.objs.size,[Value.ref l])) _ _ _;refine wpAny_pure ?_;show wpAny _ _ (Builtin.Dict.updateFrom "dict.__init__" s.heap.objs.size (.ref l) [] .none) _ _ _;unfold Builtin.Dict.updateFrom;refine wpAny_bind (wpAny_typeOf (T:="list") ⟨_,kp _ _ el,cl⟩ ?_);rw[if_pos ∅]
 refine wpAny_bind (nG (A:=A.in1.in1) hh (kp _ _ el) cl dl ul λh2 t2 k2=>?_);simp only[Option.isNone_none,if_true];have L2:h2.IsList l vs.toArray:=⟨_,k2 _ _ (kp _ _ el),cl,_,dl⟩;refine wpAny_bind (wpAny_rule (wpAny_bind (wpAny_pyIter_list L2 ?_)));have ZS:∀b o,s.heap.get? b=some o->h2.get? b=some o:=λb o e=>k2 b o (kp b o e);obtain⟨oD,eD,rD⟩:∃oD,h1.get? s.heap.objs.size=some oD/\True:=by obtain⟨o,_,_,e,_⟩:=hD;exact⟨o,e,trivial⟩
 have wq:s.heap.objs.size<h2.objs.size:=Heap.lt_size (k2 _ _ eD);have hD2:h2.DictOf knd s.heap.objs.size []:=by
  obtain⟨o,es,ep,e,r⟩:=hD;exact⟨o,es,ep,k2 _ _ e,r⟩
 have nI:∀ {b:Addr} {o:Obj},s.heap.get? b=some o->b≠s.heap.objs.size/\b≠h2.objs.size:=λ{b o} e=>⟨Nat.ne_of_lt (Heap.lt_size e),Nat.ne_of_lt (Heap.lt_size (ZS _ _ e))⟩;obtain⟨h3,e3⟩:∃h3,h3=h2.push {cls:=.type "list_iterator",data:=.fields #[.ref l,.int 0 0]}:=⟨_,rfl⟩;have k3:∀b o,h2.get? b=some o->h3.get? b=some o:=λb o e=>by rw[e3];exact Heap.get?_push_of_some _ e
 have hI3:h3.get? h2.objs.size=some {cls:=.type "list_iterator",data:=.fields #[.ref l,.int 0 0]}:=by rw[e3];exact Heap.get?_push_size _ rfl
 refine wpAny_pure ⟨plainId_quiet fO _,?_⟩;rw[<- e3];refine zX (A:=A.in1) (knd:=knd) (vs:=vs) (more:=more) hh hm (nI el).1 (nI el).2 (Nat.ne_of_lt wq) vs.length 0 _ [] rfl (Nat.zero_le _) ⟨_,hI3,rfl,rfl⟩ ⟨_,k3 _ _ (ZS _ _ el),cl,_,dl⟩ (λj v e=>?_) ?_ (by simpa using hz) λh' tk k' d'=>?_
 ·obtain⟨b,key,x,kk,z1,⟨o,z2,z3⟩,z4,z5⟩:=hv j v e
  exact⟨b,key,x,kk,z1,⟨o,k3 _ _ (ZS _ _ z2),z3⟩,z4,z5,(nI z2).1,(nI z2).2⟩
 ·obtain⟨o,es,ep,e,r⟩:=hD2
  exact⟨o,es,ep,k3 _ _ e,r⟩
 ·exact⟨rfl,q h' tk (λb o e=>k' b o (nI e).1 (nI e).2 (k3 _ _ (ZS _ _ e))) d'⟩
end
end Vs
namespace Vc
open PySem L2
variable [KF]
def KP(H:Hp)(u:V)(kv:Key×V):Prop:=∃t,u=.ref t/\H t=some (.tup [kV kv.1,kv.2])
def Rj:List V->Hp->VK->Prop:=λxs H Q=>∃(p:Addr) (us:List V) (more:List (Key×V)),xs=[.ref p]/\Rd H p (.lst us)/\Paired (KP H) us more/\more.length<=sizeLine/\∀l,H l=none->Q (.ref l) (upd H l (.dK (jq [] more)))
theorem uw{X:Cx}{pins:List (Addr×Obj)}{σ:St}{H:Hp}{s:Shared}(I:Inv X pins σ H s):∀ {us:List V} {more:List (Key×V)} {its:List Value},Paired (KP H) us more->Vals us its ->
  ∃ms:List (Key×Value),ms.length=its.length/\(∀(j:Nat) (v:Value),its[j]?=some v->∃(b:Addr) (key x:Value) (kk:Key),v=Value.ref b/\PyProof.Rows.IsTup s.heap b #[key,x]/\(bM X.prog X.w).is kk key=true/\ms[j]?=some (kk,x))/\KV more ms
 | _,_,_,.nil,.nil=>⟨[],rfl,λj v e=>by simp at e,.nil⟩
 | _,(kk,y)::_,_,.cons ⟨t,e,ht⟩ ps,.cons r rs=>by
  obtain⟨ms,h1,h2,h3⟩:=uw I ps rs;obtain⟨z,it0,rv,eo⟩:=I.bL t _ ht;obtain⟨u1,u2,rfl,r1,r2⟩:=rv.two;subst e;cases r;refine⟨(kk,u2)::ms,by simp [h1],λj v e=>?_,.cons ⟨rfl,r2⟩ h3⟩
  cases j with
  | zero=>cases e;exact⟨t,u1,u2,kk,rfl,eo,qe r1,rfl⟩
  | succ j=>exact h2 j v e
theorem wN{X:Cx}(hc:X.calm=true):cV X (.type "dict") Rj:=by
 intro pins s σ H xs Jd Q I r h;obtain⟨p,us,more,rfl,hp,hl,hz,q⟩:=h;obtain⟨u,rfl,ru⟩:=vals1 r;cases ru;obtain⟨its,ri,⟨o,n,e,cl,ud,dl⟩,_⟩:=I.list (.inl hp);obtain⟨ms,c1,c2,c3⟩:=uw I hl ri;refine Vs.wM (knd:=bM X.prog X.w) (I.ok.hd hc) e cl dl ud c1 c2 (by rw[<- c3.length];exact hz) λh' tk kp dd=>?_
 have hz2:(jq [] more).length<=sizeLine:=Nat.le_trans (iY more []) (by simpa using hz)
 have hs:(s.heap.objs.size==sysModules)=false:=by
  have:=I.big;exact beq_eq_false_iff_ne.mpr (Nat.ne_of_gt this)
 exact⟨.ref s.heap.objs.size,_,I.laid (t':=tk) kp (Nat.le_refl _) (show bQ X.prog X.w _ h' _ (.dK (jq [] more))from⟨hz2,hs,_,KV.merge c3 .nil,dd⟩),rfl,q _ I.fresh⟩
end Vc
namespace Vc
open PySem L2
variable [KF]
variable {G:GE}{k:Nat}{S:Stat}
def k7(kvs more:List (Int×D)):List (Int×D):=more.foldl (λacc p=>jL acc p.1 p.2) kvs
def NU:D->Bool
 | .tup [.int _,_]=>true
 | _=>false
def D5:D->Int×D
 | .tup [.int i,d]=>(i,d)
 | _=>(0,.aW)
theorem bu.merge{F:Hp}:∀ {js:List (Key×V)} {more:List (Int×D)} {ks:List (Key×V)} {kvs:List (Int×D)},bu F js more->bu F ks kvs->bu F (jq ks js) (k7 kvs more)
 | _,_,_,_,.nil,h=>h
 | _,_,_,_,.cons (i:=i) (v:=v) (d:=d) (ks:=js) (kvs:=more) r rs,h=>by
  have:=bu.merge rs (bu.put i h r);exact this
theorem D6{F H:Hp}(s:aj F H):∀ {us:List V} {ds:List D},ay F us ds->ds.all NU=true->∃more:List (Key×V),Paired (KP H) us more/\bu F more (ds.map D5)/\more.length=ds.length
 | _,_,.nil,_=>⟨[],.nil,.nil,rfl⟩
 | _,_,.cons (d:=d) r rs,h=>by
  rw[List.all_cons,Bool.and_eq_true]at h;obtain⟨more,h1,h2,h3⟩:=D6 s rs h.2;have h0:=h.1;unfold NU at h0
  split at h0
  ·rename_i i d
   cases r with
   | tup e rr =>
    cases rr with
    | cons ra rr =>
    cases rr with
    | cons rb rr =>
    cases rr;cases ra;exact⟨(.inl i,_)::more,.cons ⟨_,rfl,s _ _ e⟩ h1,.cons rb h2,by simp [h3]⟩
  ·cases h0
end Vc
namespace Vc
open PySem L2
variable [KF]
section
variable {G:GE}{k:Nat}{S:Stat}
variable {elt target iter:Expr}{ifs:List Expr}{scope:Scope}{pos:Pos}{N':List Str}{caps:List (Option Nat)}{ti:et}{g:fG}{tc:TB}{te:TD}{j m j2 n:Nat}
theorem AU(i j m j2 n:Nat){y:Str}{py dQ:Pos}(hi:EI G k S target iter ti)(b:dS S scope N' caps)(hg:EG G k (jb S scope N' m n) target g)(ht:A4 G k (jb S scope N' m n) ifs tc)(he:ED G k (jb S scope N' m n) elt te)
  (fK:caps[m]?=some (some j):=by rfl) (yF:caps[n]?=some (some j2):=by rfl) (Hd:m≠n:=by decide) (TC:j≠j2:=by decide) (hy:S.N[i]?=some y:=by rfl) (hx:S.sc.lookup y=some .local\/(S.sc.lookup y=some .cell/\S.wj=false):=by first|exact Or.inl rfl|exact Or.inr ⟨rfl,rfl⟩) (hn:i∉S.ios:=by first|decide|exact List.not_mem_nil | (dsimp only;decide)) (hl:(py.line==pos.line)=true:=by rfl) (Wy:(scope.names.any λ(n,k)=>n==y&&(k==.local||k==.cell))=false:=by decide +kernel)
  (hs:∀env x,foldedSetIterable iter env x=pure x:=by intro _ _;rfl) (hh:S.gm=false:=by rfl):ES G k S (.Assign [.Name y py] (.ListComp elt [⟨target,iter,ifs,0⟩] scope pos) dQ) (gw S.ios i (hZ S.ios caps j m j2 n ti g tc te)):=.mk λX Y ok=>by
 have sw:swapsWith (.ListComp elt [⟨target,iter,ifs,0⟩] scope pos) (some (.Name y py)) dQ.line X.env=pure (S.sc.lookup y==some .local):=by
  have e:swapsWith (.ListComp elt [⟨target,iter,ifs,0⟩] scope pos) (some (.Name y py)) dQ.line X.env=pure (X.env.blockKind==.function&&X.env.kindOf y==some .local&&py.line==pos.line&&!(scope.names.any λ(n,k)=>n==y&&(k==.local||k==.cell))):=rfl
  have kb:X.env.blockKind=.function:=by unfold Env.blockKind;rw[ok.kind];rfl
  have kd:X.env.kindOf y=S.sc.lookup y:=by
   show X.env.scope.names.lookup y=_;rw[ok.sc]
  rw[e,kb,kd,hl,Wy];simp
 have fin:∀Dn σ H,lS Y (gw S.ios i (hZ S.ios caps j m j2 n ti g tc te)) Dn σ H->AY (f7 (lI Y ti) caps (OH m n g) (OD m n tc) (OG m n te)) (jF i) Dn σ H:=λDn σ H q=>by
  obtain⟨F,ah,De,R,q,K⟩:=q;refine ph ok.ios fK yF Hd TC ⟨F,ah,_,R,q,λv H1 F1 y av s1 R1 r1 q1=>?_⟩;obtain⟨F2,aH,s2,R2,q2⟩:=iH R1 r1 hn ok.ios q1;exact K.nx _ H1 F2 aH (s1.trans s2) R2 q2
 rcases hx with hx|hx
 ·refine b8 (rZ (i:=i) (ok.calm hh) (hi X Y ok) (b.sc ok) (m9 hh ok b hg ht he) (hs _) (by rw[ok.N];exact ok.nd) (by rw[ok.N];exact hy) (by rw[ok.sc];exact hx) (by rw[sw,hx];rfl)) fin
 ·refine b8 (L2.sd (i:=i) (by rw[ok.N];exact ok.nd) (by rw[ok.N];exact hy) (jo ok (.inr hx)) (eQ (ok.calm hh) (hi X Y ok) (b.sc ok) (m9 hh ok b hg ht he) (hs _)) (by rw[sw,hx.1];rfl) (jh ok (.inr hx))) fin
end
end Vc
namespace L2
open PySem PySem.Spec PyProof.Rows
section
variable {X:Cx}{pins:List (Addr×Obj)}{σ:St}{H H1:Hp}{s:Shared}{a:Addr}{v v':HO}
theorem bQ.swap{P:Program}{w:World}{h:Heap}(ho:∀b y,H b=some (.own y)->H1 b=some (.own y))(ht:∀b xs,H b=some (.tup xs)->H1 b=some (.tup xs))
  (hf:∀b o y,H b=some (.iP o (.own y))->H1 b=some (.iP o (.own y))) {b:Addr} {o:HO} (x:bQ P w H h b o):bQ P w H1 h b o:=by
 induction o with
 | dT kvs =>
  obtain⟨z,y,xs,r,c⟩:=x;exact⟨z,y,xs,Paired.Hv r λp q z=>⟨z.1,ht _ _ z.2.1,z.2.2⟩,c⟩
 | ins C dx fs =>
  obtain⟨d,c⟩:=x;exact⟨ho _ _ d,c⟩
 | iP ob u ih=>exact⟨x.1,ih x.2⟩
 | lam ps pos qual =>
  obtain⟨more,e,tr,c⟩:=x;refine⟨more,e,tr,?_⟩;rcases c with c|⟨c',o,vs,t,c1,c2,c3⟩
  ·exact .inl c
  ·exact .inr ⟨c',o,vs,t,c1,hf _ _ _ c2,c3⟩
 | _=>exact x
theorem Inv.swap(I:Inv X pins σ H s)(e:H a=some v)(h:bQ X.prog X.w H s.heap a v')(n1:∀y,v≠.own y)(n2:∀xs,v≠.tup xs)(n3:∀o y,v≠.iP o (.own y))(n4:∀ps,v≠.Ks ps)
  (hz:∀o u,X.qH a≠some (.iP o u)):Inv X pins σ (upd H a v') s:=by
 have up:∀ {b:Addr} {u:HO},H b=some u->u≠v->upd H a v' b=some u:=λ{b u} q n=>by
  rw[ai (λz=>by subst z;rw[e]at q;cases q;exact n rfl)];exact q
 have nn:∀ {b:Addr},H b=none->upd H a v' b=none:=λ{b} q=>by
  rw[ai (λz=>by subst z;rw[e]at q;cases q)];exact q
 have sw:∀ {b:Addr} {o:HO},bQ X.prog X.w H s.heap b o->bQ X.prog X.w (upd H a v') s.heap b o:=λx =>
  bQ.swap (λb y q=>up q (Ne.symm (n1 y))) (λb xs q=>up q (Ne.symm (n2 xs))) (λb o y q=>up q (Ne.symm (n3 o y))) x
 refine⟨I.ok,I.os,I.bare,⟨I.base.keep,I.base.slot,λb o q n hx=>nn (I.base.free b o q n hx),I.base.there,λb xs q=>up (I.base.tM b xs q) (Ne.symm (n2 xs)),λb o u q=>?_,λb ps q=>?_⟩,I.loc,I.cell,nn I.free,λx c q=>nn (I.gh x c q),λp hp=>?_,λb o q=>?_,I.len⟩
 ·have:=I.base.nu b o u q
  rw[ai (λz=>by subst z;exact hz o u q)];exact this
 ·obtain⟨more,q2⟩:=I.base.tL b ps q
  exact⟨more,up q2 (Ne.symm (n4 _))⟩
 ·obtain⟨e1,e2,e3⟩:=I.pin p hp
  exact⟨e1,nn e2,e3⟩
 ·by_cases hb:b=a
  ·subst hb
   rw[au]at q;cases q;exact sw h
  ·rw[ai hb]at q
   exact sw (I.bL b o q)
def Uk(a:Addr)(o:Obj)(ns:List Int):It:=
 ⟨λi H=>i<ns.length/\∃ks,H a=some (.iP o (.dK ks))/\ks.map (·.1)=ns.map Sum.inl,λi H x H'=>H'=H/\∃n,ns[i]?=some n/\x=.int n,
  λi H=>ns.length<=i/\∃ks,H a=some (.iP o (.dK ks))/\ks.map (·.1)=ns.map Sum.inl⟩
theorem qW{P:Program}{w:World}{h:Heap}{ks:List (Key×V)}{ns:List Int}{o:Obj}(ok:bQ P w H h a (.iP o (.dK ks)))(ek:ks.map (·.1)=ns.map Sum.inl):
  h.get? a=some o/\(a==sysModules)=false/\∃en c,o.data=.dict en c/\Vc.Bc h a en c/\en.size=ns.length/\∀(i:Nat) (n:Int),ns[i]?=some n->∃(e:DictEntry) (t:Tok),en[i]?=some e/\e.key=Value.int n t:=by
 obtain⟨e0,hz,hd,vs,rel,o',es,ep,e1,e2,e3,e4,e5,e6⟩:=ok;rw[e0]at e1;cases e1;refine⟨e0,hd,es,ep,e3,⟨o,e0,e2,e3⟩,?_,?_⟩
 ·have h1:=e5.length
  have h2:=rel.length;have h3:=congrArg List.length ek;rw[List.length_map,List.length_map]at h3;rw[<- Array.length_toList];omega
 ·have ZF:vs.map (·.1)=ns.map Sum.inl:=by
   rw[<- ek];clear e5 e6 ek hz
   induction rel with
   | nil=>rfl
   | cons hx _ ih=>rw[List.map_cons,List.map_cons,ih,hx.1]
  have key:∀ {es:List DictEntry} {vs:List (Key×Value)} {ns:List Int},PySem.Pairs (bM P w) es vs->vs.map (·.1)=ns.map Sum.inl->∀(i:Nat) (n:Int),ns[i]?=some n->∃(e:DictEntry) (t:Tok),es[i]?=some e/\e.key=Value.int n t:=by
   intro es vs ns p
   induction p generalizing ns with
   | nil=>intro q i n e;cases ns with
    | nil=>simp at e
    | cons _ _=>cases q
   | @cons en kv es vs h1 h2 r ih =>
    intro q i n e;cases ns with
    | nil=>cases q
    | cons m ns =>
     rw[List.map_cons,List.map_cons]at q;obtain⟨q1,q2⟩:=List.cons.inj q;cases i with
     | zero =>
      simp at e;subst e;rw[q1]at h1;rcases bN (show lV (Sum.inl m) en.key=true from h1)with⟨i,t,a1,a2⟩|⟨x,t,a1,_⟩
      ·cases a1
       exact⟨en,t,by simp,a2⟩
      ·cases a1
     | succ i =>
      obtain⟨e',t,h1,h2⟩:=ih q2 i n (by simpa using e)
      exact⟨e',t,by simpa using h1,h2⟩
  intro i n e;obtain⟨e',t,h1,h2⟩:=key e5 ZF i n e;exact⟨e',t,by rw[<- Array.getElem?_toList];exact h1,h2⟩
theorem A0{P:Program}{w:World}{K:PySem.W.Frag}{tg:Expr}(a it:Addr)(o:Obj)(ns:List Int)(cC:it≠a):Turn P w K tg (Uk a o ns) [it] it (λi h=>∃en c,o.data=.dict en c/\h.IsKeyIter it a i en.size c) where
 mem:=by simp
 obj:=λi h st b hb=>by
  have e:b=it:=by simpa using hb
  subst e;obtain⟨en,c,_,o,e,c,d⟩:=st;exact⟨o,e,λv z=>by rw[d]at z;cases z⟩
 keep:=λi h h' ⟨en,c,hd,st⟩ k=>⟨en,c,hd,st.at λo e=>k it (by simp) o e⟩
 item:=by
  intro X hP hw hK hc i pins s σ H E I hf st hg;subst hP hw hK;obtain⟨hi,ks,hq,ek⟩:=hg;obtain⟨en,c,hd,st⟩:=st;obtain⟨_,_,en',c',G9,da,hs,hk⟩:=qW (I.bL a _ hq) ek;rw[hd]at G9;cases G9;obtain⟨n,hn⟩:∃n,ns[i]?=some n:=⟨_,List.getElem?_eq_getElem hi⟩;obtain⟨e,t,h1,h2⟩:=hk i n hn;obtain⟨f0,f1,f2,f3,f4,f5⟩:=hf it (by simp)
  refine Vc.yo st da h1 λh' wy sb=>?_;have I1:Inv X pins σ H {s with heap:=h'}:=I.turned (t':=s.toks) (λb o hb e=>(sb.2 b hb).trans e) f0 f1 f3 f4 f5
  obtain⟨o1,e1,c1,d1⟩:=id wy;exact⟨_,rfl,yA (s:={s with heap:=h'}) e1 c1 d1 ∅ ⟨.int n,H,I1,⟨t,h2⟩,⟨rfl,n,hn,rfl⟩,⟨en,c,hd,wy⟩,λb hb=>(hf b hb).1⟩⟩
 done:=by
  intro X hP hw hK hc i pins s σ H E I hf st hg;subst hP hw hK;obtain⟨hi,ks,hq,ek⟩:=hg;obtain⟨en,c,hd,st⟩:=st;obtain⟨_,_,en',c',G9,da,hs,hk⟩:=qW (I.bL a _ hq) ek;rw[hd]at G9;cases G9;obtain⟨f0,f1,f2,f3,f4,f5⟩:=hf it (by simp)
  exact Vc.C3 (I.ok.hd hc) st da ⋯ λh' eb=>⟨rfl,I.turned (t':=s.toks) (λb o hb e=>eb b o hb e) f0 f1 f3 f4 f5⟩
 self:=λ_ _ _ _ _ ⟨_,_,_,st⟩ h=>wpAny_pyIter_keyiter st h
def WD(tl:TE):TI:=λσ H R=>tl σ H λx H1=>∃a o ks,∃ns:List Int,x=.ref a/\H1 a=some (.iP o (.dK ks))/\ks.map (·.1)=ns.map Sum.inl/\R (Uk a o ns) H1
theorem EA{tg l:Expr}{tl:TE}(hl:PE X l tl):PI X tg l (WD tl):=by
 intro pins s σ H R I h;refine cm (hl pins s σ H _ I h) λv s1 ⟨x,H1,I1,r1,q1⟩=>?_;obtain⟨a,o,ks,ns,e,hq,ek,q⟩:=q1;subst e;cases r1;obtain⟨e0,lo,en,c,hd,da,hs,hk⟩:=qW (I1.bL a _ hq) ek;refine Vc.yn lo da ?_;have cC:s1.heap.objs.size≠a:=Nat.ne_of_gt (Heap.lt_size e0);refine⟨s1.heap.objs.size,[s1.heap.objs.size],_,_,H1,rfl,I1.kept (t':=s1.toks) λb o e=>Heap.get?_push_of_some _ e,A0 a _ o ns cC,⟨en,c,hd,_,Heap.get?_push_size _ rfl,rfl,rfl⟩,λb hb=>?_,q⟩;have e:b=s1.heap.objs.size:=by simpa using hb
 subst e;exact I1.Ac (Nat.le_refl _) (I1.bL.fresh (Nat.le_refl _))
end
end L2
namespace Vc
open PySem L2
variable [KF]
def Sw(F F1:Hp):Prop:=∀b u,F b=some u->F1 b=some u\/∃ks,(u=.dK ks\/∃o,u=.iP o (.dK ks))/\Rd F1 b (.dK ks)
theorem Sw.keep{F F1:Hp}(s:Sw F F1){b:Addr}{u:HO}(e:F b=some u)(n1:∀ks,u≠.dK ks)(n2:∀o ks,u≠.iP o (.dK ks)):F1 b=some u:=by
 rcases s b u e with z|⟨ks,z|⟨o,z⟩,_⟩
 ·exact z
 ·exact absurd z (n1 ks)
 ·exact absurd z (n2 o ks)
theorem Rd.swD{F F1:Hp}(s:Sw F F1){a:Addr}{ks:List (Key×V)}(h:Rd F a (.dK ks)):Rd F1 a (.dK ks):=by
 rcases h with h|⟨o,h⟩
 ·rcases s a _ h with z|⟨js,z|⟨o,z⟩,r⟩
  ·exact .inl z
  ·cases z;exact r
  ·cases z
 ·rcases s a _ h with z|⟨js,z|⟨o,z⟩,r⟩
  ·exact .inr ⟨o,z⟩
  ·cases z
  ·cases z;exact r
theorem Rd.swL{F F1:Hp}(s:Sw F F1){a:Addr}{vs:List V}(h:Rd F a (.lst vs)):Rd F1 a (.lst vs):=by
 rcases h with h|⟨o,h⟩
 ·exact .inl (s.keep h (λ_ z=>nomatch z) λ_ _ z=>nomatch z)
 ·exact .inr ⟨o,s.keep h (λ_ z=>nomatch z) λ_ _ z=>by cases z⟩
theorem fF.sw{F F1:Hp}(s:Sw F F1){a:Addr}{vs:List V}(h:fF KF.K F a vs):fF KF.K F1 a vs:=by
 rcases h with h|h
 ·exact .inl (Rd.swL s h)
 ·exact .inr h
mutual
theorem Rep.sw{F F1:Hp}(s:Sw F F1){v:V}{d:D}:Rep F v d->Rep F1 v d
 | .aW=>.aW
 | .bl b=>.bl b
 | .int i=>.int i
 | .str x=>.str x
 | .tup h r=>.tup (s.keep h (λ_ z=>nomatch z) λ_ _ z=>nomatch z) (ay.sw s r)
 | .lst h r=>.lst (Rd.swL s h) (ay.sw s r)
 | .i3 h=>.i3 (fF.sw s h)
 | .exc h=>.exc (s.keep h (λ_ z=>by unfold MO at z;cases z) λ_ _ z=>by unfold MO at z;cases z)
 | .zW h r=>.zW (s.keep h (λ_ z=>nomatch z) λ_ _ z=>nomatch z) (jx.sw s r)
 | .dW h r=>.dW (Rd.swD s h) (bu.sw s r)
 | .kp h1 h2 r=>.kp (s.keep h1 (λ_ z=>nomatch z) λ_ _ z=>nomatch z) (Rd.swD s h2) (bu.sw s r)
theorem bu.sw{F F1:Hp}(s:Sw F F1){ks:List (Key×V)}{kvs:List (Int×D)}:bu F ks kvs->bu F1 ks kvs
 | .nil=>.nil
 | .cons h r=>.cons (Rep.sw s h) (bu.sw s r)
theorem jx.sw{F F1:Hp}(s:Sw F F1){ks:List (List Key×V)}{kvs:List (D×D)}:jx F ks kvs->jx F1 ks kvs
 | .nil=>.nil
 | .cons h r=>.cons (Rep.sw s h) (jx.sw s r)
theorem ay.sw{F F1:Hp}(s:Sw F F1){vs:List V}{ds:List D}:ay F vs ds->ay F1 vs ds
 | .nil=>.nil
 | .cons h r=>.cons (Rep.sw s h) (ay.sw s r)
end
def shB:Option B->Bool
 | none=>true
 | some (.sh _)=>true
 | _=>false
def Ba(σ:Sd):Bool:=σ.all shB
theorem fU{σ:Sd}(h:Ba σ=true){i:Nat}{b:B}(e:σ[i]?=some (some b)):∃d,b=.sh d:=by
 have:=List.all_eq_true.mp h _ (List.mem_of_getElem? e);cases b with
 | sh d=>exact⟨d,rfl⟩
 | own xs=>cases this
 | obj o=>cases this
theorem RS.aa3{Y:aV}{F:Hp}{ah:Sd}{σ:St}{H:Hp}(R:RS Y F ah σ H)(h:Ba ah=true):Y.io=[]:=by
 cases e:Y.io with
 | nil=>rfl
 | cons p r =>
  obtain⟨_,xs,e2⟩:=R.io p (by rw[e];exact .head _)
  obtain⟨d,z⟩:=fU h e2;cases z
variable {G:GE}{k:Nat}{S:Stat}
theorem oY{X:Cx}{Y:aV}{F:Hp}{ah:Sd}{σ:St}{H:Hp}{s:Shared}{pins:List (Addr×Obj)}(ok:c7 X G k S Y)(wu:S.ex=λ_ _=>False)(I:L2.Inv X pins σ H s)(R:RS Y F ah σ H)(hs:Ba ah=true){i:Nat}{kvs:List (Int×D)}
  (e:ah[i]?=some (some (.sh (.dW kvs)))):∃a ks o H1 F1,σ[i]?=some (some (.ref a))/\L2.Inv X pins σ H1 s/\RS ⟨H1,F1,[],[]⟩ F1 ah σ H1/\c7 X G k S ⟨H1,F1,[],[]⟩/\F1 a=some (.iP o (.dK ks))/\bu F1 ks kvs /\
   (∀b,H1 b=none->H b=none) /\
   ∀bh H' F' ax Jh s',L2.Inv X pins Jh H' s'->RS ⟨H1,F1,[],[]⟩ F' ax bh H'->Ba ax=true->∃H2 F2,L2.Inv X pins Jh H2 s'/\aj F F2/\RS Y F2 ax bh H2/\∀b,H1 b=none->H2 b=H' b/\F2 b=F' b:=by
 obtain⟨v,ea,r⟩:=R.sh i _ e;have Ws:∀(H1 F1:Hp),c7 X G k S ⟨H1,F1,[],[]⟩:=λH1 F1=>⟨ok.P,ok.w,ok.K,ok.kf,ok.mg,ok.base,ok.N,ok.sc,ok.nd,λp hp=>absurd hp (by simp),λ_ _=>rfl,ok.calm,ok.kind,ok.fn,ok.hd,ok.dp,ok.un,ok.po,ok.nx,(λc ah h=>by rw[wu]at h;exact h.elim),λ_ c ah h=>by rw[wu]at h;exact h.elim⟩
 have bX:=R.aa3 hs
 -- a state over the entry that is now
 have here:∀ {H1 F1:Hp},aj F1 H1->Sw F F1->RS ⟨H1,F1,[],[]⟩ F1 ah σ H1:=λ{H1 F1} s1 sw=>by
  refine⟨R.len,aj.refl _,s1,λb o z=>.inl z,λb o z _=>z,λj d q=>?_,λj xs q=>?_,λj l xs ys b q=>?_,λp hp=>absurd hp (by simp),tR.none (λj o q=>?_) (λq hq=>?_) λb hb=>absurd hb (by simp)⟩
  ·obtain⟨v,g1,g2⟩:=R.sh j d q
   exact⟨v,g1,g2.sw sw⟩
  ·obtain⟨d,z⟩:=fU hs q;cases z
  ·obtain⟨d,z⟩:=fU hs q;cases z
  ·obtain⟨d,z⟩:=fU hs q;cases z
  ·exact sw.keep (R.ob.tab q hq) (λ_ z=>nomatch z) λ_ _ z=>nomatch z
 -- and back
 have back:∀ {H2 F2 F':Hp} {ax:Sd} {bh:St},ax.length=bh.length->aj F F2->aj F2 H2->(∀b o,F2 b=some o->F b=some o\/Nw H b o)->(∀b o,H b=some o->H2 b=some o)->Ba ax=true->(∀(j:Nat) (d:D),ax[j]?=some (some (B.sh d))->∃v,bh[j]?=some (some v)/\Rep F2 v d)->RS Y F2 ax bh H2:=λ{H2 F2 F' ax bh} hl s1 s2 fr old wo sh=>by
  refine⟨hl,R.lo.trans s1,s2,λb o z=>?_,λb o z n=>old b o (R.old b o z n),sh,λj xs q=>?_,λj l xs ys b q=>?_,λp hp=>absurd hp (by rw[bX];simp),tR.none (λj o q=>?_) (R.ob.tab.mono s1) (λb hb z=>?_) R.ob.Ja⟩
  ·rcases fr b o z with z|z
   ·exact R.dA b o z
   ·exact .inr (z.imp (λz=>(R.bw z).1) id)
  ·obtain⟨d,z⟩:=fU wo q;cases z
  ·obtain⟨d,z⟩:=fU wo q;cases z
  ·obtain⟨d,z⟩:=fU wo q;cases z
  ·have:=R.ob.there b hb
   cases q:H b with
   | none=>exact this q
   | some o=>rw[old b o q]at z;cases z
 cases(show Rep F v (.dW kvs)from r)with
 | @dW a ks _ h rr =>
 rcases h with h|⟨o,h⟩
 ·have hH:H a=some (.dK ks):=R.fr _ _ h
  have b7:=I.bL a _ hH;obtain⟨o,eo⟩:∃o,s.heap.get? a=some o:=by
   obtain⟨_,_,_,_,o,_,_,e1,_⟩:=b7;exact⟨o,e1⟩
  have hz:∀o u,X.qH a≠some (.iP o u):=λo u z=>by
   have:=I.base.nu a o u z;rw[hH]at this;cases this
  have I1:L2.Inv X pins σ (upd H a (.iP o (.dK ks))) s:=I.swap hH ⟨eo,b7⟩ (λ_ z=>nomatch z) (λ_ z=>nomatch z) (λ_ _ z=>nomatch z) (λ_ z=>nomatch z) hz;have sw1:Sw F (upd F a (.iP o (.dK ks))):=λb u z=>by
   by_cases hb:b=a
   ·subst hb
    rw[h]at z;cases z;exact .inr ⟨ks,.inl rfl,.inr ⟨o,au⟩⟩
   ·rw[ai hb];exact .inl z
  refine⟨a,ks,o,upd H a (.iP o (.dK ks)),upd F a (.iP o (.dK ks)),ea,I1,here (ou R.fr) sw1,Ws _ _,au,rr.sw sw1,λb z=>?_,λbh H' F' ax Jh s' I' R' wo=>?_⟩
  ·by_cases hb:b=a
   ·rw[hb,au]at z;cases z
   ·rw[ai hb]at z;exact z
  have fa:F' a=some (.iP o (.dK ks)):=R'.lo a _ au;have ha:H' a=some (.iP o (.dK ks)):=R'.fr a _ fa;have sw2:Sw F' (upd F' a (.dK ks)):=λb u z=>by
   by_cases hb:b=a
   ·subst hb
    rw[fa]at z;cases z;exact .inr ⟨ks,.inr ⟨o,rfl⟩,.inl au⟩
   ·rw[ai hb];exact .inl z
  refine⟨upd H' a (.dK ks),upd F' a (.dK ks),I'.swap ha (I'.bL a _ ha).2 (λ_ z=>nomatch z) (λ_ z=>nomatch z) (λ_ _ z=>by cases z) (λ_ z=>nomatch z) hz,λb u z=>?_,?_,λb hb=>?_⟩
  ·by_cases hb:b=a
   ·subst hb;rw[h]at z;cases z;exact au
   ·rw[ai hb];exact R'.lo b u (by show upd F a _ b=_;rw[ai hb];exact z)
  ·refine back (F':=F') R'.len (λb u z=>?_) (ou R'.fr) (λb u z=>?_) (λb u z=>?_) wo λj d q=>?_
   ·by_cases hb:b=a
    ·subst hb;rw[h]at z;cases z;exact au
    ·rw[ai hb];exact R'.lo b u (by show upd F a _ b=_;rw[ai hb];exact z)
   ·by_cases hb:b=a
    ·subst hb;rw[au]at z;cases z;exact .inl h
    ·rw[ai hb]at z
     rcases R'.dA b u z with z|z
     ·have z:upd F a _ b=some u:=z
      rw[ai hb]at z;exact .inl z
     ·refine .inr (z.imp (λz=>?_) id)
      have z:upd H a _ b=none:=z;rw[ai hb]at z;exact z
   ·by_cases hb:b=a
    ·subst hb;rw[hH]at z;cases z;exact au
    ·rw[ai hb];exact R'.old b u (by show upd H a _ b=_;rw[ai hb];exact z) (by simp [aV.rG])
   ·obtain⟨v,g1,g2⟩:=R'.sh j d q
    exact⟨v,g1,g2.sw sw2⟩
  ·have hb:b≠a:=λz=>by rw[z,au]at hb;cases hb
   exact⟨ai hb,ai hb⟩
 ·have sw0:Sw F F:=λb u z=>.inl z
  refine⟨a,ks,o,H,F,ea,I,here R.fr sw0,Ws _ _,h,rr,λb z=>z,λbh H' F' ax Jh s' I' R' wo=>⟨H',F',I',R'.lo,?_,λb _=>⟨rfl,rfl⟩⟩⟩;exact back (F':=F') R'.len R'.lo R'.fr R'.dA (λb u z=>R'.old b u z (by simp [aV.rG])) wo R'.sh
theorem yM{F:Hp}{a:Addr}{o:Obj}{ks:List (Key×V)}{ns:List Int}(h:F a=some (.iP o (.dK ks)))(ek:ks.map (·.1)=ns.map Sum.inl):gM F (Uk a o ns) (ns.map D.int):=λF1 H1 s1 s2 i=>by
 have hH:=s2 _ _ (s1 _ _ h);refine⟨λx e=>?_,λhl=>⟨by rw[hl,List.length_map];exact Nat.le_refl _,ks,hH,ek⟩⟩
 rw[List.getElem?_map]at e;obtain⟨n,e1,rfl⟩:=Option.map_eq_some_iff.mp e;refine⟨⟨(List.getElem?_eq_some_iff.mp e1).1,ks,hH,ek⟩,λv H2 y=>?_⟩;obtain⟨rfl,m,e2,rfl⟩:=y;rw[e1]at e2;cases e2;exact⟨F1,.inl ⟨rfl,rfl⟩,.int n⟩
def JV:B->Bool
 | .sh d=>gT d
 | .own xs=>xs.all gT
 | .obj _=>false
def cL(kvs:List (Int×D)):List D:=(kvs.map (·.1)).map D.int
def oV(i:Nat)(g:fG)(tb:b5):b5:=λDe σ=>Ba σ=true/\∃kvs,σ[i]?=some (some (.sh (.dW kvs))) /\
 nr g tb {nx:=λbh=>Ba bh=true/\De.nx bh,rt:=λb bh=>(Ba bh=true/\JV b=true)/\De.rt b bh} (cL kvs) σ
theorem IG(i:Nat){x:Str}{tg:Expr}{body:List Stmt}{g:fG}{tb:b5}{p pos:Pos}(hg:EG G k S tg g)(hb:dy G k S body tb)(hN:S.N[i]?=some x:=by rfl)
  (hv:S.sc.lookup x=some .local\/S.sc.lookup x=some .cell\/S.sc.lookup x=some .free:=by first|exact Or.inl rfl|exact Or.inr (Or.inl rfl)|exact Or.inr (Or.inr rfl))
  (hd:(x==("__debug__":Str))=false:=by decide) (jk:(x==("__classdict__":Str))=false:=by decide) (hs:∀env v,foldedSetIterable (.Name x p) env v=pure v:=by intro _ _;rfl) (hh:S.gm=false:=by rfl) (wu:S.ex=λ_ _=>False:=by rfl):
  ES G k S (.For tg (.Name x p) body [] pos) (oV i g tb):=.mk λX Y ok pins s σ H Dn I q=>by
 obtain⟨F,ah,De,R,⟨Wx,kvs,e,q⟩,K⟩:=q;obtain⟨a,ks,o,H1,F1,ea,I1,R1,XB,fa,rr,fresh,back⟩:=oY ok wu I R Wx e;have pn:PE X (.Name x p) (FC i):=eZ (by rw[ok.N];exact hN) (by unfold A6;rw[ok.sc];exact hv) hd jk
 let T7:gJ:={nx:=λbh=>Ba bh=true/\De.nx bh,rt:=λb bh=>(Ba bh=true/\JV b=true)/\De.rt b bh}
 let D1:Ends:={nx:=λbh H'=>∃F' ax,RS ⟨H1,F1,[],[]⟩ F' ax bh H'/\T7.nx ax,rt:=λv H'=>∃F' ax bh b,RS ⟨H1,F1,[],[]⟩ F' ax bh H'/\Ur ⟨H1,F1,[],[]⟩ F' H' ax bh v b/\T7.rt b ax}
 have ek:ks.map (·.1)=(kvs.map (·.1)).map Sum.inl:=iC rr
 have it:gM F1 (Uk a o (kvs.map (·.1))) (cL kvs):=yM fa ek
 have K1:tX ⟨H1,F1,[],[]⟩ F1 T7 D1:=⟨λbh H' F' ax _ R' q'=>⟨F',ax,R',q'⟩,λv bh H' F' ax b _ R' r' q'=>⟨F',ax,bh,b,R',r',q'⟩,λ_ _ _ _ _ _ z=>z.elim,λ_ _ _ _ _ _ z=>z.elim⟩;refine cm (xA (tg:=tg) (wi:=WD (FC i)) (ok.po hh) (ok.calm hh) (EA pn) (hg X _ XB) (hb X _ XB) (hs _) pins s σ H1 D1 I1 ⟨.ref a,ea,a,o,ks,kvs.map (·.1),rfl,R1.fr _ _ fa,ek,?_⟩) λf s' hq=>?_
 ·refine⟨λi m bh H'=>∃F' ax,aj F1 F'/\RS ⟨H1,F1,[],[]⟩ F' ax bh H'/\nr g tb T7 ((cL kvs).drop i) ax/\m=(cL kvs).length-i/\i<=(cL kvs).length,⟨(cL kvs).length,F1,ah,aj.refl _,R1,q,rfl,Nat.zero_le _⟩,?_⟩
  rintro i m bh H' ⟨F',ax,s',R',q',rfl,hi⟩;have nE:=it F' H' s' R'.fr i
  by_cases hl:i<(cL kvs).length
  ·right
   have hd:(cL kvs).drop i=(cL kvs)[i]::(cL kvs).drop (i+1):=by rw[List.drop_eq_getElem_cons hl]
   rw[hd]at q';obtain⟨go,yl⟩:=nE.1 (cL kvs)[i] (by rw[List.getElem?_eq_getElem hl])
   refine⟨go,λaH H2=>∃F2 aO,aj F1 F2/\RS ⟨H1,F1,[],[]⟩ F2 aO aH H2/\nr g tb T7 ((cL kvs).drop (i+1)) aO,λaH H2 ⟨F2,aO,s2,R2,q2⟩=>⟨(cL kvs).length-(i+1),by omega,F2,aO,s2,R2,q2,rfl,hl⟩,λv H2 y=>?_⟩
   obtain⟨F2,gr,rep⟩:=yl v H2 y;have s2:aj F1 F2:=s'.trans (gr.same R'.fr);refine⟨F2,ax,(cL kvs)[i],_,gr.rs R',rep,q',λc9 H3 F3 Tg s3 R3 q3=>⟨F3,Tg,_,R3,q3,?_⟩⟩;refine⟨λkP H4 F4 cK s4 R4 q4=>⟨F4,cK,(s2.trans s3).trans s4,R4,q4⟩,λv4 kP H4 F4 cK b s4 R4 r4 q4=>K1.rt v4 kP H4 F4 cK b ((s2.trans s3).trans s4) R4 r4 q4,
    λkP H4 F4 cK s4 R4 q4=>K1.nx kP H4 F4 cK ((s2.trans s3).trans s4) R4 q4,λkP H4 F4 cK s4 R4 q4=>⟨F4,cK,(s2.trans s3).trans s4,R4,q4⟩⟩
  ·left
   have e:i=(cL kvs).length:=by omega
   subst e;rw[List.drop_length]at q';exact⟨nE.2 rfl,K1.nx bh H' F' ax s' R' q'⟩
 ·cases f with
  | next =>
   obtain⟨bh,H',I',F',ax,R',wo,q'⟩:=hq;obtain⟨H2,F2,I2,s2,R2,_⟩:=back bh H' F' ax bh s' I' R' wo;exact⟨bh,H2,I2,K.nx bh H2 F2 ax s2 R2 q'⟩
  | brk=>obtain⟨_,_,_,z⟩:=hq;exact z.elim
  | cont=>obtain⟨_,_,_,z⟩:=hq;exact z.elim
  | ret u =>
   obtain⟨v,σ0,H',I',rv,F',ax,bh,b,R',r',⟨wo,hf⟩,q'⟩:=hq;obtain⟨H2,F2,I2,s2,R2,same⟩:=back bh H' F' ax σ0 s' I' R' wo;refine⟨v,σ0,H2,I2,rv,K.rt v bh H2 F2 ax b s2 R2 ?_ q'⟩;cases b with
   | sh d=>exact(show Rep F' v d from r').flat hf
   | own xs =>
    obtain⟨l,us,rfl,w1,w2,w3,w4,w5⟩:=r';obtain⟨c1,c2⟩:=same l w4;refine⟨l,us,rfl,by rw[c1];exact w1,w2.flat hf,by rw[c2];exact w3,?_,⟨w5.own,λ⟨j,o,b,z,_⟩=>by obtain⟨d,z⟩:=fU wo z;cases z⟩⟩
    exact(R.bw (fresh l w4)).1
   | obj o=>cases hf
end Vc
namespace Vc
open PySem L2
variable [KF]
variable {G:GE}{k:Nat}{S:Stat}
theorem rh{ios:List Nat}{σ:Sd}(h:Ba σ=true):∀ {caps:List (Option Nat)} {Q:Sd->Prop},Q σ->jE ios caps σ Q
 | [],_,q=>q
 | none::r,_,q=>rh (caps:=r) h q
 | some j::r,_,q=>by
  unfold jE
  split
  ·rename_i xs e
   obtain⟨d,z⟩:=fU h e;cases z
  ·exact rh (caps:=r) h q
def tiK(items:List D):et:=λσ Q=>Q items σ
def tI(i:Nat)(caps:List (Option Nat))(g:fG)(tc:TB)(te:TD):TX:=λσ Q=>Ba σ=true/\∃kvs,σ[i]?=some (some (.sh (.dW kvs)))/\fe g tc te (bU caps σ) (cL kvs) [] λds=>ds.all gT=true/\Q (.own ds) σ
section
variable {elt target:Expr}{ifs:List Expr}{scope:Scope}{pos:Pos}{N':List Str}{caps:List (Option Nat)}{g:fG}{tc:TB}{te:TD}
theorem E6(i:Nat){x:Str}{p:Pos}(b:dS S scope N' caps)(hg:EG G k (aI S scope N') target g)(ht:A4 G k (aI S scope N') ifs tc)(he:ED G k (aI S scope N') elt te)(hN:S.N[i]?=some x:=by rfl)
  (hv:S.sc.lookup x=some .local\/S.sc.lookup x=some .cell\/S.sc.lookup x=some .free:=by first|exact Or.inl rfl|exact Or.inr (Or.inl rfl)|exact Or.inr (Or.inr rfl))
  (hd:(x==("__debug__":Str))=false:=by decide) (jk:(x==("__classdict__":Str))=false:=by decide) (hs:∀env v,foldedSetIterable (.Name x p) env v=pure v:=by intro _ _;rfl) (hh:S.gm=false:=by rfl) (wu:S.ex=λ_ _=>False:=by rfl):
  EX G k S (.ListComp elt [⟨target,.Name x p,ifs,0⟩] scope pos) (tI i caps g tc te):=.mk λX Y ok pins s σ H Q I q=>by
 obtain⟨F,ah,Qd,R,⟨Wx,kvs,e,q⟩,K⟩:=q;obtain⟨a,ks,o,H1,F1,ea,I1,R1,XB,fa,rr,fresh,back⟩:=oY ok wu I R Wx e;have pn:PE X (.Name x p) (FC i):=eZ (by rw[ok.N];exact hN) (by unfold A6;rw[ok.sc];exact hv) hd jk
 have ek:ks.map (·.1)=(kvs.map (·.1)).map Sum.inl:=iC rr
 let Q1:VK:=λv H'=>∃F' ds,RS ⟨H1,F1,[],[]⟩ F' ah σ H'/\BK ⟨H1,F1,[],[]⟩ F' H' ah σ v (.own ds)/\ds.all gT=true/\Qd (.own ds) ah
 have q1:lX ⟨H1,F1,[],[]⟩ (eJ S.ios caps (tiK (cL kvs)) g tc te) σ H1 Q1:=by
  refine⟨F1,ah,λx bh=>∃ds,x=.own ds/\bh=ah/\ds.all gT=true/\Qd (.own ds) ah,R1,?_,λv H' F' x ax s' R' r' q'=>?_⟩
  ·show jE _ _ _ _
   refine rh Wx ?_;have mono:∀(items acc:List D),fe g tc te (bU caps ah) items acc (λds=>ds.all gT=true/\Qd (.own ds) ah)->fe g tc te (bU caps ah) items acc (λds=>∃JT,EV.own ds=.own JT/\ah=ah/\JT.all gT=true/\Qd (.own JT) ah):=by
    intro items acc h;have:(λds=>∃JT,EV.own ds=.own JT/\ah=ah/\JT.all gT=true/\Qd (.own JT) ah)=λds=>ds.all gT=true/\Qd (.own ds) ah:=by
     funext ds;refine propext ⟨λ⟨JT,e,_,h⟩=>?_,λh=>⟨ds,rfl,rfl,h⟩⟩;cases e;exact h
    rw[this];exact h
   exact mono _ _ q
  ·obtain⟨ds,rfl,rfl,hf,q'⟩:=q'
   exact⟨F',ds,R',r',hf,q'⟩
 have pc:=eQ (target:=target) (X:=X) (elt:=elt) (pos:=pos) (ok.calm hh) (EA pn) (b.sc XB) (mJ hh XB b hg ht he) (hs _);refine cm (pc pins s σ H1 Q1 I1 ?_) λu s' ⟨v,H',I',rv,F',ds,R',r',hf,q'⟩=>?_
 ·obtain⟨F',ax,Qd',R',q',K'⟩:=je (Y:=⟨H1,F1,[],[]⟩) (λp hp=>absurd hp (by simp)) q1
  exact⟨.ref a,ea,a,o,ks,kvs.map (·.1),rfl,R1.fr _ _ fa,ek,K' H1 F' ax (Uk a o (kvs.map (·.1))) (cL kvs) (aj.refl _) R' (yM (R'.lo a _ fa) ek) q'⟩
 ·obtain⟨H2,F2,I2,s2,R2,same⟩:=back σ H' F' ah σ s' I' R' Wx
  refine⟨v,H2,I2,rv,K v H2 F2 (.own ds) ah s2 R2 ?_ q'⟩;obtain⟨l,us,rfl,w1,w2,w3,w4,w5⟩:=r';have w4:H1 l=none:=w4;obtain⟨c1,c2⟩:=same l w4;exact⟨l,us,rfl,by rw[c1];exact w1,w2.flat hf,by rw[c2];exact w3,(R.bw (fresh l w4)).1,R.b3 (fresh l w4)⟩
end
end Vc
namespace L2
open PySem PySem.Spec PyProof.Rows
section
variable {X:Cx}
def VY(n:Nat)(t:Gy):TG:=λv σ H Q=>∃a xs,v=.ref a/\H a=some (.lst xs)/\xs.length=n/\t xs σ H Q
theorem Ih{es:List Expr}{k:Nat}{t:Gy}{n:Nat}{pos:Pos}(hc:X.calm=true)(h:KO X es t)
  (hn:(assignEach es X.env).length=n:=by rfl) (wt:(assignEach es X.env).findIdx? (·.1)=none:=by rfl):PG X (.Tuple es k pos) (VY n t):=by
 intro pins s σ H v u Q I r hw;obtain⟨a,xs,e1,hq,hl,hw⟩:=hw;subst e1;cases r;obtain⟨its,rv,p,hz⟩:=I.list (show fF X.K H a xs from .inl (.inl hq))
 have hsz:(assignEach es X.env).length=its.toArray.size:=by rw[hn,<- hl,rv.length];simp
 rw[assign_Tuple];refine wpAny_bind (wpAny_standAt ?_);unfold unpack;rw[hsz,wt];refine wpAny_bind (wpAny_holding (PySem.W.kun_itemsOf (I.ok.hd hc) p.isList λh' hx=>?_));have I1:Inv X pins σ H {s with heap:=h'}:=I.kept (t':=s.toks) λb o e=>hx b o (Nat.ne_of_lt (Heap.lt_size e)) e
 exact h pins _ σ H xs _ Q I1 (by simpa using rv) hw
end
end L2
namespace Vc
open PySem L2
variable [KF]
variable {G:GE}{k:Nat}{S:Stat}
def um(g:fG)(te:TX)(σ0:Sd):List D->List O->(List O->Prop)->Prop
 | [],acc,Q=>Q acc
 | x::xs,acc,Q=>g x σ0 λav=>te av λev aH=>∃o,ev=.obj o/\gD σ0 aH/\um g te σ0 xs (acc++[o]) Q
def RX(i j l:Nat)(os:List O)(σ:Sd)(Q:Sd->Prop):Prop:=match os with
 | [a,b,c]=>Q (((σ.set i (some (.obj a))).set j (some (.obj b))).set l (some (.obj c)))
 | _=>False
def SU(ios:List Nat)(i j l:Nat)(caps:List (Option Nat))(g:fG)(te:TX):b5:=λDe σ=>jE ios caps σ λaH=>um g te (bU caps aH) (pq 0 3) [] λos=>RX i j l os aH De.nx
def lXe(t:TX):TE:=λσ H Q=>∃Y:aV,Y.io=[]/\lX Y t σ H Q
structure Uo(Y:aV)(F H:Hp)(ah:Sd)(σ:St)(acc:Addr)(ps:List (Addr×O)):Prop where
 at_:∀p∈ps,p.2.rep F H p.1/\∀b∈p.2.fp p.1,F b=none/\H b≠none/\Y.H0 b=none/\cw ah σ b/\b≠acc
 dis:ps.Pairwise λp q=>∀b∈p.2.fp p.1,b∉q.2.fp q.1
theorem cw.hW{ah:Sd}{σ:St}{i:Nat}{o:O}{a b:Addr}(h:cw ah σ b)(hl:ah.length=σ.length)(hd:b∉o.fp a):cw (ah.set i (some (.obj o))) (σ.set i (some (.ref a))) b:=by
 refine⟨λj ys e z=>?_,λ⟨j,p,c,e1,e2,hm⟩=>?_⟩
 ·rcases gs e with⟨_,z'⟩|⟨hj,e⟩
  ·cases z'
  ·rw[bo hj]at z
   exact h.own j ys e z
 ·rcases gs e1 with⟨rfl,z'⟩|⟨hj,e1⟩
  ·cases z'
   have hi:j<σ.length:=by
    have:=(List.getElem?_eq_some_iff.mp e1).1;rw[List.length_set]at this;omega
   rw[eO hi]at e2;cases e2;exact hd hm
  ·rw[bo hj]at e2
   exact h.Kd ⟨j,p,c,e1,e2,hm⟩
section
variable {elt target iter:Expr}{scope:Scope}{pos:Pos}{N':List Str}{caps:List (Option Nat)}{g:fG}{te:TX}
theorem Yr(i j l:Nat){x y z:Str}{px py pz p7 p9 pt dQ cp:Pos}{kk:Nat}{TL:Nat}(b:dS S scope N' caps)(hg:EG G k (aI S scope N') target g)(he:EX G k (aI S scope N') elt te)(hm:G.mg "range"=none)
  (hx:S.N[i]?=some x:=by rfl) (hy:S.N[j]?=some y:=by rfl) (hz:S.N[l]?=some z:=by rfl)
  (vx:S.sc.lookup x=some .local\/(S.sc.lookup x=some .cell/\S.wj=false):=by first|exact Or.inl rfl|exact Or.inr ⟨rfl,rfl⟩)
  (vy:S.sc.lookup y=some .local\/(S.sc.lookup y=some .cell/\S.wj=false):=by first|exact Or.inl rfl|exact Or.inr ⟨rfl,rfl⟩)
  (vz:S.sc.lookup z=some .local\/(S.sc.lookup z=some .cell/\S.wj=false):=by first|exact Or.inl rfl|exact Or.inr ⟨rfl,rfl⟩)
  (nx:i∉S.ios:=by first|decide|exact List.not_mem_nil | (dsimp only;decide)) (ny:j∉S.ios:=by first|decide|exact List.not_mem_nil | (dsimp only;decide)) (nz:l∉S.ios:=by first|decide|exact List.not_mem_nil | (dsimp only;decide))
  (hgl:S.sc.lookup ("range":Str)=some .globalImplicit:=by rfl) (hh:S.gm=false:=by rfl)
  (wt:∀env,starEach [.Constant (.int 3) TL cp] env=[(false,eval (.Constant (.int 3) TL cp) env)]:=by intro _;rfl)
  (hs:∀env v,foldedSetIterable (.Call (.Name "range" p7) [.Constant (.int 3) TL cp] [] p9) env v=pure v:=by intro _ _;rfl)
  (sw:∀env,swapsWithSole [.Tuple [.Name x px,.Name y py,.Name z pz] kk pt] (.ListComp elt [⟨target,.Call (.Name "range" p7) [.Constant (.int 3) TL cp] [] p9,[],0⟩] scope pos) dQ.line env=pure false:=by intro _;rfl)
  (hw:∀env,swappedStores [.Tuple [.Name x px,.Name y py,.Name z pz] kk pt] (.ListComp elt [⟨target,.Call (.Name "range" p7) [.Constant (.int 3) TL cp] [] p9,[],0⟩] scope pos) env=pure none:=by intro _;rfl)
  (h1:∀env,(assignEach [.Tuple [.Name x px,.Name y py,.Name z pz] kk pt] env).map (·.2)=[assign (.Tuple [.Name x px,.Name y py,.Name z pz] kk pt) env]:=by intro _;rfl)
  (hs3:∀env,(assignEach [.Name x px,.Name y py,.Name z pz] env).map (·.2)=assign (.Name x px) env::(assignEach [.Name y py,.Name z pz] env).map (·.2):=by intro _;rfl)
  (wq:∀env,(assignEach [.Name y py,.Name z pz] env).map (·.2)=assign (.Name y py) env::(assignEach [.Name z pz] env).map (·.2):=by intro _;rfl)
  (hs1:∀env,(assignEach [.Name z pz] env).map (·.2)=assign (.Name z pz) env::(assignEach [] env).map (·.2):=by intro _;rfl)
  (hln:∀env,(assignEach [.Name x px,.Name y py,.Name z pz] env).length=3:=by intro _;rfl) (hfi:∀env,(assignEach [.Name x px,.Name y py,.Name z pz] env).findIdx? (·.1)=none:=by intro _;rfl):
  ES G k S (.Assign [.Tuple [.Name x px,.Name y py,.Name z pz] kk pt] (.ListComp elt [⟨target,.Call (.Name "range" p7) [.Constant (.int 3) TL cp] [] p9,[],0⟩] scope pos) dQ) (SU S.ios i j l caps g te):=.mk λX Y ok=>by
 have pi:=qm (X:=X) (tg:=target) (p:=p7) (pos:=p9) (eu ok hgl) (by rw[ok.mg];exact hm) (cu (Ex (X:=X)) dJ (wt _)) (wt _)
 have pc:=eQ (X:=X) (target:=target) (elt:=elt) (ifs:=[]) (pos:=pos) (g:=TN g) (tc:=λ_ H Q=>Q true H) (te:=lXe te) (ok.calm hh) pi (b.sc ok) (λX' c=>⟨λpins s σ H v u Q I r ⟨Y',bX,q⟩=>hg X' Y' (cy hh ok b c Y' bX) pins s σ H v u Q I r q,sj,λpins s σ H Q I ⟨Y',bX,q⟩=>he X' Y' (cy hh ok b c Y' bX) pins s σ H Q I q⟩) (hs _);have nm:∀ {i:Nat} {x:Str} {p:Pos},S.N[i]?=some x->(S.sc.lookup x=some .local\/(S.sc.lookup x=some .cell/\S.wj=false))->PG X (.Name x p) (jF i):=λh v=>rW (by rw[ok.N];exact ok.nd) (by rw[ok.N];exact h) (jo ok v) (jh ok v)
 have pg:=Ih (pos:=pt) (k:=kk) (ok.calm hh) (jY (nm (p:=px) hx vx) (jY (nm (p:=py) hy vy) (jY (nm (p:=pz) hz vz) yY (hs1 _)) (wq _)) (hs3 _)) (hln _) (hfi _);refine b8 (EL pc pg (sw _) (hw _) (h1 _)) λDn σ H q=>?_;obtain⟨F,ah,De,R,q,K⟩:=q;obtain⟨F2,aO,s2,R2,q2⟩:=cH ok.ios R q;refine⟨3,rfl,by decide,by decide,λacc cI=>?_⟩
 have J9:gM F2 (Tj 0 (3:Int).toNat) (pq 0 3):=rK 0 3;generalize hit:pq 0 3=items at J9 q2;have a0:Y.H0 acc=none:=(R2.bw cI).1;have aF:F2 acc=none:=same_none R2.fr cI;have aN:cw aO σ acc:=R2.b3 cI;have sw':∀ {F5 H5:Hp} {o:HO},aj F5 H5->F5 acc=none->aj F5 (upd H5 acc o):=λ{F5 H5 o} s5 h b u e=>by
  have:b≠acc:=λz=>by rw[z,h]at e;cases e
  rw[ai this];exact s5 b u e
 refine⟨λi m av H'=>∃Fi ps,aj F2 Fi/\RS Y Fi aO σ H'/\H' acc=some (.lst (ps.map λp=>V.ref p.1))/\Uo Y Fi H' aO σ acc ps/\Fi acc=none/\RS ⟨H',Fi,[],[]⟩ Fi (bU caps aO) av H'/\um g te (bU caps aO) (items.drop i) (ps.map (·.2)) (λos=>RX _ j l os aO De.nx)/\m=items.length-i/\i<=items.length/\ps.length=i,
  ⟨items.length,F2,[],aj.refl _,R2.other aF a0 aN,au,⟨(λp hp=>absurd hp (by simp)),.nil⟩,aF,jA R2 caps (aj.refl _) (sw' R2.fr aF),q2,rfl,Nat.zero_le _,rfl⟩,?_⟩
 rintro i' m av Hi ⟨Fi,ps,si,Ri,cf,og,fi,BL,qi,rfl,hi,dI⟩;have nE:=J9 Fi Hi si Ri.fr i'
 by_cases hl:i'<items.length
 ·right
  have hd:items.drop i'=items[i']::items.drop (i'+1):=by rw[List.drop_eq_getElem_cons hl]
  rw[hd]at qi;obtain⟨go,yl⟩:=nE.1 items[i'] (by rw[List.getElem?_eq_getElem hl])
  refine⟨go,λv H' y=>?_⟩;obtain⟨F3,gr,rep⟩:=yl v H' y;have sF:aj Fi F3:=gr.same Ri.fr;have R3:=gr.rs BL;have GP:RS ⟨H',F3,[],[]⟩ F3 (bU caps aO) av H':=R3.less (dG _) (aY _ _) (a8 _ _) R3.fr;have sH:aj Hi H':=by
   rcases gr with⟨_,rfl⟩|⟨p,o,hp,_,rfl⟩
   ·exact aj.refl _
   ·exact aD hp
  have yy:∀c o,F3 c=some o->Fi c=some o\/Nw Hi c o:=λc o e=>by
   rcases gr with⟨rfl,_⟩|⟨p,o',hp,rfl,_⟩
   ·exact .inl e
   ·by_cases hc:c=p
    ·subst hc;exact .inr (.inl hp)
    ·rw[ai hc]at e;exact .inl e
  refine⟨⟨H',F3,[],[]⟩,rfl,F3,_,items[i'],_,GP,rep,qi,λkP H4 F4 cK s4 R4 q4=>?_⟩;refine⟨⟨H',F3,[],[]⟩,rfl,F4,cK,_,R4,q4,λv6 H6 F6 ev Gr s6 R6 r6 q6=>?_⟩;obtain⟨o,rfl,le,q6⟩:=q6;obtain⟨a,rfl,ra,fa⟩:=r6;have IC:aj F3 F6:=s4.trans s6;have Z2:aj Hi H6:=sH.trans λb o e=>R6.old b o e (by simp [aV.rG])
  have JY:∀c o,F6 c=some o->Fi c=some o\/Nw Hi c o:=λc o e=>by
   rcases R6.dA c o e with z|z
   ·exact yy c o z
   ·exact .inr (z.imp sH.free id)
  have Ro:RS Y F6 aO σ H6:=Ri.call (sF.trans IC) R6.fr Z2 JY;have hz6:H6 acc=some (.lst (ps.map λp=>V.ref p.1)):=Z2 _ _ cf;have JX:∀ {b:Addr},Fi b=none->Hi b≠none->(∀vs,Hi b≠some (.tup vs))->F6 b=none:=λ{b} e1 e2 e3=>by
   cases e:F6 b with
   | none=>rfl
   | some o =>
    rcases JY b o e with z|z|⟨ws,rfl⟩
    ·rw[e1]at z;cases z
    ·exact absurd z e2
    ·have y:=R6.fr b _ e
     cases w:Hi b with
     | none=>exact absurd w e2
     | some u=>rw[Z2 b u w]at y;cases y;exact absurd w (e3 ws)
  have f6:F6 acc=none:=JX fi (by rw[cf];exactλz=>nomatch z) λvs z=>by rw[cf]at z;cases z
  have HB:∀ {b:Addr},b∈o.fp a->Hi b=none:=λ{b} hb=>by
   have z:H' b=none:=(fa b hb).2.2.1;exact sH.free z
  refine⟨_,items.length-(i'+1),hz6,by rw[List.length_map,dI];have:i'<3:=(by have:=hl;rw[<- hit]at this;simpa [pq]using this);rw[sizeLine_eq];omega,by omega,F6,ps++[(a,o)],si.trans (sF.trans IC),Ro.other f6 a0 aN,by rw[au,List.map_append];rfl,⟨λp hp=>?_,?_⟩,f6,?_,?_,rfl,hl,by rw[List.length_append,dI];rfl⟩
  ·rcases List.mem_append.mp hp with hp|hp
   ·obtain⟨w1,w2⟩:=og.at_ p hp
    have ne:∀b∈p.2.fp p.1,H6 b=Hi b:=λb hb=>by
     cases w:Hi b with
     | none=>exact absurd w (w2 b hb).2.1
     | some u=>exact Z2 b u w
    refine⟨p.2.mono (sF.trans IC) (λb hb=>by rw[ai (w2 b hb).2.2.2.2];exact ne b hb) w1,λb hb=>?_⟩
    obtain⟨g1,g2,g3,g4,g5⟩:=w2 b hb;exact⟨JX g1 g2 λvs z=>p.2.nt w1 hb z,by rw[ai g5,ne b hb];exact g2,g3,g4,g5⟩
   ·obtain rfl:p=(a,o):=by simpa using hp
    have na:∀b∈o.fp a,b≠acc:=λb hb z=>by
     have:=HB hb;rw[z,cf]at this;cases this
    refine⟨o.mono (aj.refl _) (λb hb=>ai (na b hb)) ra,λb hb=>?_⟩;exact⟨(fa b hb).1,by rw[ai (na b hb)];exact(fa b hb).2.1,(Ri.bw (HB hb)).1,Ri.b3 (HB hb),na b hb⟩
  ·rw[List.pairwise_append]
   refine⟨og.dis,List.pairwise_singleton _ _,λp hp q hq b hb J4=>?_⟩;obtain rfl:q=(a,o):=by simpa using hq
   exact((og.at_ p hp).2 b hb).2.1 (HB J4)
  ·exact R6.less le (aY _ _) (a8 _ _) (sw' R6.fr f6)
  ·rw[List.map_append];exact q6
 ·left
  have e:i'=items.length:=by omega
  subst e;rw[List.drop_length]at qi;refine⟨nE.2 rfl,acc,_,rfl,cf,by rw[List.length_map,dI,<- hit];rfl,?_⟩
  have h3:ps.length=3:=by rw[dI,<- hit];rfl
  have bX:=ok.ios
  match ps,h3,og,qi with
  | [(a1,o1),(a2,o2),(a3,o3)],_,og,qi =>
   have q0:De.nx (((aO.set i (some (.obj o1))).set j (some (.obj o2))).set l (some (.obj o3))):=qi;obtain⟨p1,f1⟩:=og.at_ (a1,o1) (by simp)
   obtain⟨p2,f2⟩:=og.at_ (a2,o2) (by simp)
   obtain⟨p3,f3⟩:=og.at_ (a3,o3) (by simp)
   have dis:=og.dis;have d12:∀b∈o1.fp a1,b∉o2.fp a2:=(List.pairwise_cons.mp dis).1 (a2,o2) (by simp)
   have d13:∀b∈o1.fp a1,b∉o3.fp a3:=(List.pairwise_cons.mp dis).1 (a3,o3) (by simp)
   have d23:∀b∈o2.fp a2,b∉o3.fp a3:=(List.pairwise_cons.mp (List.pairwise_cons.mp dis).2).1 (a3,o3) (by simp)
   have e1:=Ri.len;have e2:(aO.set i (some (.obj o1))).length=(σ.set i (some (.ref a1))).length:=by rw[List.length_set,List.length_set];exact e1
   exact⟨_,_,rfl,_,_,rfl,_,_,rfl,rfl,K.nx _ Hi Fi _ (s2.trans si) (((Ri.hW p1 (λb hb=>⟨(f1 b hb).1,(f1 b hb).2.1,(f1 b hb).2.2.1,(f1 b hb).2.2.2.1⟩) λp hp z=>nx (by rw[<- z];exact bX p hp)).hW p2 (λb hb=>⟨(f2 b hb).1,(f2 b hb).2.1,(f2 b hb).2.2.1,(f2 b hb).2.2.2.1.hW e1 λz=>d12 b z hb⟩) λp hp z=>ny (by rw[<- z];exact bX p hp)).hW p3 (λb hb=>⟨(f3 b hb).1,(f3 b hb).2.1,(f3 b hb).2.2.1,((f3 b hb).2.2.2.1.hW e1 λz=>d13 b z hb).hW e2 λz=>d23 b z hb⟩) λp hp z=>nz (by rw[<- z];exact bX p hp)) q0⟩
end
end Vc
namespace Vc
open PySem L2
variable [KF]
variable {G:GE}{k:Nat}{S:Stat}
theorem bu.gf{F F':Hp}(hs:∀c u,F c=some u->F' c=some u\/dl u=true):∀ {ks:List (Key×V)} {kvs:List (Int×D)},bu F ks kvs->d3 (kvs.map (·.2))=true->bu F' ks kvs
 | _,_,.nil,_=>.nil
 | _,_,.cons h r,n=>by
  have n:(El _&&d3 _)=true:=n;rw[Bool.and_eq_true]at n;exact .cons (Rep.gf hs h n.1) (bu.gf hs r n.2)
def ZX(l:Bool):Option (Option B)->Option B
 | some (some (.sh d))=>some (.sh d)
 | some (some (.obj o))=>Ea l o.view
 | _=>none
def zR(js:List Nat)(caps:List (Option Nat))(σ:Sd):Sd:=caps.map λc=>match c with
 | some j=>ZX (js.contains j) σ[j]?
 | none=>none
theorem OI{l:Bool}{x:Option (Option B)}{b:B}(h:ZX l x=some b):∃d,b=.sh d/\(x=some (some (.sh d))\/l=true/\∃o,x=some (some (.obj o))/\o.view=some d):=by
 unfold ZX at h
 split at h
 ·cases h;exact⟨_,rfl,.inl rfl⟩
 ·obtain⟨hl,d,h1,h2⟩:=Eb h
  exact⟨d,h2,.inr ⟨hl,_,rfl,h1⟩⟩
 ·cases h
def kW(g:fG)(te:TD)(c6:Sd)(m:Nat)(a dx ad:Addr)(w:Str)(c:Int):List D->List D->Int->List (Int×D)->(List D->Int->List (Int×D)->Prop)->Prop
 | [],acc,e,kvs,Q=>Q acc e kvs
 | x::r,acc,e,kvs,Q=>g x (c6.set m (some (.obj (cD a dx ad w c e kvs)))) λav=>te av λd c9=>∃e' d2,gD c6 c9/\acc.length<sizeLine/\c9[m]?=some (some (.obj (cD a dx ad w c e' d2)))/\kW g te c6 m a dx ad w c r (acc++[d]) e' d2 Q
def mW(ios:List Nat)(caps:List (Option Nat))(j m:Nat)(js:List Nat)(ti:et)(g:fG)(te:TD):TX:=λσ Q=>ti σ λitems av=>jE ios (caps.set m none) av λaH=>∃a dx ad w c e kvs,aH[j]?=some (some (.obj (cD a dx ad w c e kvs))) /\
 kW g te (zR js (caps.set m none) aH) m a dx ad w c items [] e kvs λds e' d2=>(d3 ds=true/\d3 (d2.map (·.2))=true)/\Q (.own ds) (aH.set j (some (.obj (cD a dx ad w c e' d2))))
theorem nJ{F H:Hp}{c6:Sd}{σ:St}{m:Nat}{a dx ad:Addr}{w:Str}{c e:Int}{kvs:List (Int×D)}(hl:c6.length=σ.length)(sh:∀(i:Nat) (b:B),c6[i]?=some (some b)->∃d v,b=.sh d/\σ[i]?=some (some v)/\Rep F v d)
  (hm:σ[m]?=some (some (.ref a))) (hr:(cD a dx ad w c e kvs).rep F H a) (hf:∀b∈[a,dx,ad],F b=none/\H b≠none) (s:aj F H) (tb:i7 F):RS ⟨H,F,[],[a,dx,ad]⟩ F (c6.set m (some (.obj (cD a dx ad w c e kvs)))) σ H where
 len:=by rw[List.length_set];exact hl
 lo:=aj.refl _
 fr:=s
 dA:=λb o e=>.inl e
 old:=λb o e _=>e
 sh:=λi d q=>by
  rcases gs q with⟨_,z⟩|⟨_,q⟩
  ·cases z
  ·obtain⟨d',v,z,h1,h2⟩:=sh i _ q
   cases z;exact⟨v,h1,h2⟩
 own:=λi xs q=>by
  rcases gs q with⟨_,z⟩|⟨_,q⟩
  ·cases z
  ·obtain⟨d',v,z,_⟩:=sh i _ q
   cases z
 dis:=λi j xs ys b q=>by
  rcases gs q with⟨_,z⟩|⟨_,q⟩
  ·cases z
  ·obtain⟨d',v,z,_⟩:=sh i _ q
   cases z
 io:=λp hp=>absurd hp (by simp)
 ob:=by
  have only:∀ {i:Nat} {o:O},(c6.set m (some (.obj (cD a dx ad w c e kvs))))[i]?=some (some (.obj o))->i=m/\o=cD a dx ad w c e kvs:=λ{i o} q=>by
   rcases gs q with⟨h,z⟩|⟨_,q⟩
   ·cases z;exact⟨h,rfl⟩
   ·obtain⟨d',v,z,_⟩:=sh i _ q
    cases z
  refine⟨λi o q=>?_,λi j o p a' b' q1 q2 _ _ Ha=>?_,λj xs b q=>?_,λb hb=>(hf b hb).2,λb hb=>(hf b hb).2,tb⟩
  ·obtain⟨rfl,rfl⟩:=only q
   exact⟨a,hm,hr,λb hb=>⟨(hf b hb).1,(hf b hb).2,.inr hb⟩⟩
  ·exact absurd ((only q1).1.trans (only q2).1.symm) Ha
  ·rcases gs q with⟨_,z⟩|⟨_,q⟩
   ·cases z
   ·obtain⟨d',v,z,_⟩:=sh j _ q
    cases z
section
variable {elt target iter:Expr}{scope:Scope}{pos:Pos}{N':List Str}{caps:List (Option Nat)}{ti:et}{g:fG}{te:TD}{j m:Nat}{js:List Nat}
theorem qU{Y:aV}{ios:List Nat}(bX:∀p∈Y.io,p.1∈ios)(fK:caps[m]?=some (some j))(hjs:j∉js){σ:St}{H:Hp}{Q:VK}(q:lX Y (mW ios caps j m js ti g te) σ H Q):f7 (lI Y ti) caps (TN g) (λ_ H Q=>Q true H) (ZV te) σ H Q:=by
 obtain⟨F,ah,Qd,R,q,K⟩:=q;refine⟨F,ah,_,R,q,λH1 F1 tQ J items s1 R1 it q1 acc cI=>?_⟩;obtain⟨F2,aO,s2,R2,a,dx,ad,w,c,e0,jO,ej,q2⟩:=cH bX R1 q1;obtain⟨F3,s3,s3H,l1,l2,_⟩:=nL R2 js;have it3:=it.mono (s2.trans s3);obtain⟨a',DL,⟨rfl,Wj,J6,ks0,hk3,hk4⟩,A7⟩:=R2.ob.obj j _ ej;have A7:∀b∈[a',dx,ad],F2 b=none/\H1 b≠none/\(Y.H0 b=none\/b∈Y.ob):=A7;have a0:Y.H0 acc=none:=(R2.bw cI).1;have f3n:∀b∈[a',dx,ad],F3 b=none:=λb hb=>by
  cases z:F3 b with
  | none=>rfl
  | some u =>
   rcases l2 b u z with y|⟨_,i,hi,o,a2,y1,y2,y3⟩
   ·rw[(A7 b hb).1]at y;cases y
   ·exact absurd hb (R2.ob.ng i j o _ a2 a' y1 ej y2 DL (λz=>hjs (z ▸ hi)) b y3)
 have aF:F3 acc=none:=same_none s3H cI;have lR:∀b∈[a',dx,ad],b≠acc:=λb hb z=>(A7 b hb).2.1 (z ▸ cI);have hj:j<aO.length:=(List.getElem?_eq_some_iff.mp ej).1;have sw:∀ {F5 H5:Hp} {o:HO},aj F5 H5->F5 acc=none->aj F5 (upd H5 acc o):=λ{F5 H5 o} s5 h b u e=>by
  have:b≠acc:=λz=>by rw[z,h]at e;cases e
  rw[ai this];exact s5 b u e
 generalize NN:zR js (caps.set m none) aO=c6 at q2;have TF:m<caps.length:=(List.getElem?_eq_some_iff.mp fK).1;have hcl:c6.length=(cj caps σ).length:=by rw[<- NN];unfold zR cj;simp
 have Nz:(cj caps σ)[m]?=some (some (.ref a')):=by
  unfold cj;rw[List.getElem?_map,fK];show some ((σ[j]?).join)=_;rw[DL];rfl
 -- what the block takes with it
 have csh:∀(i:Nat) (b:B),c6[i]?=some (some b)->∃d v,b=.sh d/\(cj caps σ)[i]?=some (some v)/\Rep F3 v d:=λi b e=>by
  rw[<- NN]at e;unfold zR at e;rw[List.getElem?_map]at e;obtain⟨x,e1,e2⟩:=Option.map_eq_some_iff.mp e;cases x with
  | none=>cases e2
  | some l =>
   have hi:i≠m:=λz=>by
    rw[z,List.getElem?_set_self TF]at e1;cases e1
   rw[List.getElem?_set_ne (Ne.symm hi)]at e1;obtain⟨d,rfl,e3⟩:=OI e2;have cv:∀ {v:V},σ[l]?=some (some v)->(cj caps σ)[i]?=some (some v):=λ{v} e=>by
    unfold cj;rw[List.getElem?_map,e1];show some ((σ[l]?).join)=_;rw[e];rfl
   rcases e3 with e3|⟨hl,o,e3,e4⟩
   ·obtain⟨v,g1,g2⟩:=R2.sh l d e3
    exact⟨d,v,rfl,cv g1,g2.mono s3⟩
   ·obtain⟨b,g1,_⟩:=R2.ob.obj l o e3
    exact⟨d,_,rfl,cv g1,l1 l (List.contains_iff_mem.mp hl) o d b e3 e4 g1⟩
 refine⟨λi mm av H'=>∃Fi ds ys e kvs,aj F3 Fi/\aj Fi H'/\(∀b u,b∉[a',dx,ad]->H1 b=some u->H' b=some u)/\(∀b u,Fi b=some u->F3 b=some u\/Nw H1 b u)/\H' acc=some (.lst ys)/\ay Fi ys ds/\Fi acc=none /\
   (cD a' dx ad w c e kvs).rep Fi H' a'/\(∀b∈[a',dx,ad],Fi b=none/\H' b≠none)/\RS ⟨H',Fi,[],[a',dx,ad]⟩ Fi (c6.set m (some (.obj (cD a' dx ad w c e kvs)))) av H' /\
   kW g te c6 m a' dx ad w c (items.drop i) ds e kvs (λds e' d2=>(d3 ds=true/\d3 (d2.map (·.2))=true)/\Qd (.own ds) (aO.set j (some (.obj (cD a' dx ad w c e' d2)))))/\mm=items.length-i/\i<=items.length,
  ⟨items.length,F3,[],[],e0,jO,aj.refl _,sw s3H aF,λb u _ z=>by rw[ai (aP z cI)];exact z,λb u z=>.inl z,au,.nil,aF,?_,λb hb=>⟨f3n b hb,?_⟩,?_,q2,rfl,Nat.zero_le _⟩,?_⟩
 ·exact(cD a' dx ad w c e0 jO).mono s3 (λb hb=>ai (lR b hb)) ⟨rfl,Wj,J6,ks0,hk3,hk4⟩
 ·rw[ai (lR b hb)];exact(A7 b hb).2.1
 ·exact nJ hcl csh Nz ((cD a' dx ad w c e0 jO).mono s3 (λb hb=>ai (lR b hb)) ⟨rfl,Wj,J6,ks0,hk3,hk4⟩) (λb hb=>⟨f3n b hb,by rw[ai (lR b hb)];exact(A7 b hb).2.1⟩) (sw s3H aF) (R2.ob.tab.mono (s2.trans s3 |> λ_=>s3))
 rintro i mm av Hi ⟨Fi,ds,ys,e,kvs,si,siH,fm,dA,cf,ri,fi,aaX,kfp,BL,qi,rfl,hi⟩;have nE:=it3 Fi Hi si siH i
 by_cases hl:i<items.length
 ·right
  have hd:items.drop i=items[i]::items.drop (i+1):=by rw[List.drop_eq_getElem_cons hl]
  rw[hd]at qi;obtain⟨go,yl⟩:=nE.1 items[i] (by rw[List.getElem?_eq_getElem hl])
  refine⟨go,λv H' y=>?_⟩;obtain⟨F4,gr,rep⟩:=yl v H' y;have sF:aj Fi F4:=gr.same siH;have R4:=gr.rs BL;have sH:aj Hi H':=by
   rcases gr with⟨_,rfl⟩|⟨p,o,hp,_,rfl⟩
   ·exact aj.refl _
   ·exact aD hp
  have fr4:∀c o,F4 c=some o->Fi c=some o\/Nw Hi c o:=λc o e=>by
   rcases gr with⟨rfl,_⟩|⟨p,o',hp,rfl,_⟩
   ·exact .inl e
   ·by_cases hc:c=p
    ·subst hc;exact .inr (.inl hp)
    ·rw[ai hc]at e;exact .inl e
  -- the state anew
  have m1:(c6.set m (some (.obj (cD a' dx ad w c e kvs))))[m]?=some (some (.obj (cD a' dx ad w c e kvs))):=eO (by rw[hcl];unfold cj;rw[List.length_map];exact TF)
  obtain⟨b4,w1,w2,w3⟩:=R4.ob.obj m _ m1;have eb4:b4=a':=w2.1;subst eb4;have w3:∀b∈[b4,dx,ad],F4 b=none/\H' b≠none/\_:=w3;have aaj:∀(i:Nat) (b:B),c6[i]?=some (some b)->∃d v,b=.sh d/\av[i]?=some (some v)/\Rep F4 v d:=λi b e=>by
   obtain⟨d,v0,rfl,_,_⟩:=csh i b e;have cC:i≠m:=λz=>by
    rw[z,<- NN]at e;unfold zR at e;rw[List.getElem?_map,List.getElem?_set_self TF]at e;cases e
   obtain⟨v,g1,g2⟩:=R4.sh i d (by rw[bo cC];exact e)
   exact⟨d,v,rfl,g1,g2⟩
  have R4':RS ⟨H',F4,[],[b4,dx,ad]⟩ F4 (c6.set m (some (.obj (cD b4 dx ad w c e kvs)))) av H':=nJ (by rw[<- R4.len,List.length_set]) aaj w1 w2 (λb hb=>⟨(w3 b hb).1,(w3 b hb).2.1⟩) R4.fr R4.ob.tab
  refine⟨⟨H',F4,[],[b4,dx,ad]⟩,rfl,F4,_,items[i],_,R4',rep,qi,λA3 H5 F5 fE s5 R5 q5=>?_⟩;show(λ_ _=>_) A3 H5;refine⟨⟨H',F4,[],[b4,dx,ad]⟩,rfl,F5,fE,_,R5,q5,λv6 H6 F6 d Gr s6 R6 r6 q6=>?_⟩;obtain⟨e',d2,le,hz,em,q6⟩:=q6;have s46:aj F4 F6:=s5.trans s6;obtain⟨b6,y1,y2,y3⟩:=R6.ob.obj m _ em;have eb6:b6=b4:=y2.1;subst eb6;have y3:∀b∈[b6,dx,ad],F6 b=none/\H6 b≠none/\_:=y3;have IC:∀b o,b∉[b6,dx,ad]->Hi b=some o->H6 b=some o:=λb o hb e=>R6.old b o (sH b o e) (by simpa [aV.rG]using hb)
  have Hx:acc∉[b6,dx,ad]:=λz=>lR acc z rfl;have h6a:H6 acc=some (.lst ys):=IC acc _ Hx cf;have JY:∀b o,F6 b=some o->Fi b=some o\/Nw Hi b o:=λb o e=>by
   rcases R6.dA b o e with z|z
   ·exact fr4 b o z
   ·exact .inr (z.imp sH.free id)
  have f6:F6 acc=none:=by
   cases z:F6 acc with
   | none=>rfl
   | some o =>
    rcases JY acc o z with y|y|⟨ws,rfl⟩
    ·rw[fi]at y;cases y
    ·rw[cf]at y;cases y
    ·have:=R6.fr acc _ z;rw[h6a]at this;cases this
  have aaC:∀b,Hi b=none->H1 b=none\/b∈[b6,dx,ad]:=λb z=>by
   by_cases hb:b∈[b6,dx,ad]
   ·exact .inr hb
   ·cases y:H1 b with
    | none=>exact .inl rfl
    | some u=>rw[fm b u hb y]at z;cases z
  have aav:∀b u,F6 b=some u->F3 b=some u\/Nw H1 b u:=λb u z=>by
   rcases JY b u z with y|y|y
   ·exact dA b u y
   ·rcases aaC b y with y|y
    ·exact .inr (.inl y)
    ·rw[(y3 b y).1]at z;cases z
   ·exact .inr (.inr y)
  have Ym:(cD b6 dx ad w c e' d2).rep F6 (upd H6 acc (.lst (ys++[v6]))) b6:=(cD b6 dx ad w c e' d2).mono (aj.refl _) (λb hb=>ai (lR b hb)) y2;have fp6:∀b∈[b6,dx,ad],F6 b=none/\(upd H6 acc (.lst (ys++[v6]))) b≠none:=λb hb=>⟨(y3 b hb).1,by rw[ai (lR b hb)];exact(y3 b hb).2.1⟩
  have sw6:aj F6 (upd H6 acc (.lst (ys++[v6]))):=sw R6.fr f6;refine⟨ys,items.length-(i+1),h6a,by rw[ri.length];exact hz,by omega,F6,ds++[d],ys++[v6],e',d2,(si.trans sF).trans s46,sw6,λb u hb z=>?_,aav,au,(ri.mono (sF.trans s46)).append (.cons r6 .nil),f6,Ym,fp6,?_,q6,rfl,hl⟩
  ·rw[ai (aP z cI)]
   exact IC b u hb (fm b u hb z)
  ·refine nJ ((iA le).trans R6.len) (λi b z=>?_) y1 Ym fp6 sw6 R6.ob.tab
   obtain⟨d',v0,rfl,_,_⟩:=csh i b z;obtain⟨v,g1,g2⟩:=R6.sh i d' (iy le z);exact⟨d',v,rfl,g1,g2⟩
 ·left
  have ei:i=items.length:=by omega
  subst ei;rw[List.drop_length]at qi;obtain⟨⟨n1,n2⟩,qi⟩:=(show(d3 ds=true/\d3 (kvs.map (·.2))=true)/\Qd (.own ds) (aO.set j (some (.obj (cD a' dx ad w c e kvs))))from qi)
  refine⟨nE.2 rfl,?_⟩
  -- what was lent is given back
  obtain⟨Fx,eFx⟩:∃Fx:Hp,Fx=λc=>@ite _ (F2 c=none/\F3 c≠none) (Classical.propDecidable _) none (Fi c):=⟨_,rfl⟩;have Gz:∀c,(Fx c=none/\F2 c=none/\F3 c≠none)\/Fx c=Fi c:=λc=>by
   by_cases z:F2 c=none/\F3 c≠none
   ·exact .inl ⟨by rw[eFx];exact if_pos z,z⟩
   ·exact .inr (by rw[eFx];exact if_neg z)
  have u1:aj F2 Fx:=λc u z=>by
   rcases Gz c with⟨_,y,_⟩|y
   ·rw[z]at y;cases y
   ·rw[y];exact si c u (s3 c u z)
  have u2:∀c u,Fx c=some u->Fi c=some u:=λc u z=>by
   rcases Gz c with⟨y,_⟩|y
   ·rw[z]at y;cases y
   ·rw[<- y];exact z
  have u3:aj Fx Hi:=λc u z=>siH c u (u2 c u z);have u4:∀c o,Fx c=some o->F2 c=some o\/Nw H1 c o:=λc o z=>by
   rcases dA c o (u2 c o z)with y|y
   ·rcases Gz c with⟨y1,_⟩|y1
    ·rw[z]at y1;cases y1
    ·cases qF:F2 c with
     | some u=>rw[s3 c u qF]at y;cases y;exact .inl rfl
     | none =>
      exfalso;have:Fx c=none:=by rw[eFx];exact if_pos ⟨qF,by rw[y];exactλz=>nomatch z⟩
      rw[z]at this;cases this
   ·exact .inr y
  have hs:∀c u,Fi c=some u->Fx c=some u\/dl u=true:=λc u z=>by
   rcases Gz c with⟨_,y1,y2⟩|y
   ·right
    cases q2:F3 c with
    | none=>exact absurd q2 y2
    | some w' =>
     have:=si c w' q2;rw[z]at this;cases this;rcases l2 c u q2 with y|⟨y,_⟩
     ·rw[y1]at y;cases y
     ·exact y
   ·rw[y];exact .inl z
  have fxn:∀b,Fi b=none->Fx b=none:=λb z=>by
   cases y:Fx b with
   | none=>rfl
   | some u=>rw[u2 b u y]at z;cases z
  have ft:∀b,gL [V.ref a'] [B.obj (cD a' dx ad w c e0 jO)] b ↔ b∈[a',dx,ad]:=λb=>by
   constructor
   ·rintro(⟨i,xs,z,_⟩|⟨i,o,b',z,z2,z3⟩)
    ·cases i with
     | zero=>simp at z
     | succ i=>simp at z
    ·cases i with
     | zero =>
      simp at z z2;subst z z2;exact z3
     | succ i=>simp at z
   ·exactλz=>.inr ⟨0,_,a',rfl,rfl,z⟩
  have Rf:=R2.BU (vs:=[V.ref a']) (as:=[AV.n j]) (bs:=[B.obj (cD a' dx ad w c e0 jO)]) (bs':=[B.obj (cD a' dx ad w c e kvs)]) (.n DL .nil) (by
    have z:wH aO (.n j)=some (.obj (cD a' dx ad w c e0 jO)):=by
     show(match aO[j]? with|some (some b)=>some b|_=>none)=_
     rw[ej]
    show(match wH aO (.n j),dF aO []with|some b,some bs=>some (b::bs)|_,_=>none)=_
    rw[z];rfl) (by simp [lr]) (.obj rfl rfl (λz=>nomatch z) .nil) u1 u3
   (λb o z y=>fm b o (λy2=>z ((ft b).mpr y2)) y) (λb z=>(kfp b ((ft b).mp z)).2) u4 (λi xs z=>by
    cases i with
    | zero=>simp at z
    | succ i=>simp at z) (λi o z=>by
    cases i with
    | zero =>
     simp at z;subst z;obtain⟨z0,z1,z2,ks,z3,z4⟩:=aaX;exact⟨a',rfl,⟨z0,z1,z2,ks,z3,z4.gf hs n2⟩,λb hb=>⟨fxn b (kfp b hb).1,(kfp b hb).2⟩⟩
    | succ i=>simp at z)
  have Rf:RS Y Fx (aO.set j (some (.obj (cD a' dx ad w c e kvs)))) σ Hi:=Rf;refine K _ Hi Fx (.own ds) _ ((s1.trans s2).trans u1) Rf ⟨acc,ys,rfl,cf,ay.gf hs ri n1,fxn acc fi,a0,?_⟩ qi;refine⟨λl zs z1 z2=>?_,λ⟨l,p,b,z1,z2,z3⟩=>?_⟩
  ·rcases gs z1 with⟨_,z⟩|⟨_,z1⟩
   ·cases z
   ·obtain⟨b,us,g1,g2,_⟩:=R2.own l zs z1
    rw[z2]at g1;cases g1;rw[cI]at g2;cases g2
  ·rcases gs z1 with⟨hlj,z⟩|⟨_,z1⟩
   ·cases z
    subst hlj;rw[DL]at z2;cases z2;exact lR acc z3 rfl
   ·obtain⟨b',g1,_,g3⟩:=R2.ob.obj l p z1
    rw[z2]at g1;cases g1;exact(g3 acc z3).2.1 cI
theorem E7(j m:Nat)(js:List Nat)(hi:EI G k S target iter ti)(b:dS S scope N' caps)(hg:EG G k (aI S scope N') target g)(he:ED G k (aI S scope N') elt te)(fK:caps[m]?=some (some j):=by rfl)(hjs:j∉js:=by decide)(hs:∀env x,foldedSetIterable iter env x=pure x:=by intro _ _;rfl)(hh:S.gm=false:=by rfl):
  EX G k S (.ListComp elt [⟨target,iter,[],0⟩] scope pos) (mW S.ios caps j m js ti g te):=.mk λX Y ok =>
 aM (eQ (ok.calm hh) (hi X Y ok) (b.sc ok) (λX' c=>⟨λpins s σ H v u Q I r ⟨Y',bX,q⟩=>hg X' Y' (cy hh ok b c Y' bX) pins s σ H v u Q I r q,sj,λpins s σ H Q I ⟨Y',bX,q⟩=>he X' Y' (cy hh ok b c Y' bX) pins s σ H Q I q⟩) (hs _)) λσ H Q q=>qU ok.ios fK hjs q
end
end Vc
namespace Vc
open PySem L2
variable [KF]
variable {G:GE}{k:Nat}{S:Stat}
def SM(t:TX):TX:=λσ Q=>t σ λx av=>∃ds,x=.own ds/\ds.all NU=true/\ds.length<=sizeLine/\∀l,Q (.obj (wm l (k7 [] (ds.map D5)))) av
theorem Iv{e:Expr}{t:TX}{dp pos:Pos}(he:EX G k S e t)(hm:G.mg "dict"=none)(hs:∀env,starEach [e] env=[(false,eval e env)]:=by intro _;rfl)(hg:S.sc.lookup ("dict":Str)=some .globalImplicit:=by rfl)(hh:S.gm=false:=by rfl):
  EX G k S (.Call (.Name "dict" dp) [e] [] pos) (SM t):=.mk λX Y ok=>by
 refine aM (ly (wN (ok.calm hh)) (eu ok hg) (by rw[ok.mg];exact hm) (by decide +kernel) (cu (he X Y ok) dJ (hs _)) ∅ ∅ (hs _) (by rfl)) λσ H Q q=>?_
 obtain⟨F,ah,Qd,R,q,K⟩:=q;refine⟨F,ah,_,R,q,λv H1 F1 x av s1 R1 r1 q1=>?_⟩;obtain⟨ds,rfl,hk,hz,q1⟩:=q1;obtain⟨a,vs,rfl,e1,e2,e3,e4,e5⟩:=r1;obtain⟨more,c1,c2,c3⟩:=D6 R1.fr e2 hk;refine⟨a,vs,more,rfl,.inl e1,c1,by rw[c3];exact hz,λl hl=>?_⟩
 refine K (.ref l) _ F1 (.obj (wm l (k7 [] (ds.map D5)))) av s1 (R1.ja hl) ⟨l,rfl,⟨rfl,_,au,bu.merge c2 .nil⟩,λb hb=>?_⟩ (q1 l);rw[List.mem_singleton.mp hb];exact⟨same_none R1.fr hl,(by rw[au];exactλz=>nomatch z),(R1.bw hl).1,R1.b3 hl⟩
end Vc
namespace Vs
open PySem PySem.Calls PyProof.Rows PyProof.V PySem.Spec
section
variable {prog:Program}{w:World}{A:Around}{E:Value->Shared->Prop}{s:Shared}
theorem vW{l:Addr}{vs:List Value}{ns:List Int}{Q:Value->Shared->Prop}(hl:s.heap.IsList l vs.toArray)(hz:vs.length<=sizeLine)(hI:IntsAre vs ns)(Nr:vs.length<64)
  (h:∀(out:Array Value) (ms:List Int) (g:Heap) (c:Nat),IntsAre out.toList ms->ms.Perm ns->ms.Pairwise (·<=·)->(∀b o,s.heap.get? b=some o->g.get? b=some o)->g.get? (s.heap.objs.size+1)=some (seqObj "list" out c)->Q (.ref (s.heap.objs.size+1)) {s with heap:=g}):
  wpAny (model prog w) A (call (.builtin "sorted") [.ref l]) Q E s:=by
 refine Calls.call_function_entry kind_sorted plain_sorted entry_sorted (args_sorted1 _) ?_;unfold Builtin.«sorted»;refine wpAny_bind (m:=checkCount "sorted" 1 1 _) (wpAny_pure ?_);refine wpAny_bind (collect_list hl ?_ hz);refine wpAny_bind (wpAny_newList ?_ hz);have hsz:((s.heap.push (seqObj "list" #[] 0)).update s.heap.objs.size (Obj.mapSeq (·++vs.toArray))).objs.size=s.heap.objs.size+1:=by
  rw[Heap.size_update,size_push']
 have He:(((s.heap.push (seqObj "list" #[] 0)).update s.heap.objs.size (Obj.mapSeq (·++vs.toArray))).push (seqObj "list" vs.toArray 0)).get? (s.heap.objs.size+1)=some (seqObj "list" vs.toArray 0):=by
  rw[<- hsz];exact Heap.get?_push_size _ rfl
 have keep:∀b o,s.heap.get? b=some o->(((s.heap.push (seqObj "list" #[] 0)).update s.heap.objs.size (Obj.mapSeq (·++vs.toArray))).push (seqObj "list" vs.toArray 0)).get? b=some o:=λb o e=>by
  have lU:b<s.heap.objs.size:=Heap.lt_size e;exact Heap.get?_push_of_some _ ((Heap.get?_update_other _ _ (Ne.symm (Nat.ne_of_lt lU))).trans (Heap.get?_push_of_some _ e))
 show wpAny _ _ _ _ _ {s with heap:=((s.heap.push (seqObj "list" #[] 0)).update s.heap.objs.size (Obj.mapSeq (·++vs.toArray))).push (seqObj "list" vs.toArray 0)}
 rw[hsz];refine wpAny_bind (wpAny_holding (wpAny_call_entry slot_list_sort ⟨_,He,rfl⟩ entry_list_sort (list_sort_tree He hI Nr λout ms a1 a2 a3=>⟨_,rfl,?_⟩) (args_list_sort _)));obtain⟨c,hc⟩:=sortedHeap_at (out:=out) He;refine wpAny_pure ⟨_,rfl,h out ms _ c a1 a2 a3 (λb o e=>?_) hc⟩;have hb:=Heap.lt_size e;rw[sortedHeap_old (Nat.ne_of_lt (Nat.lt_succ_of_lt hb)) (by rw[size_push',hsz];exact Nat.lt_succ_of_lt (Nat.lt_succ_of_lt hb))]
 exact keep b o e
end
end Vs
namespace Vc
open PySem L2
variable [KF]
variable {G:GE}{k:Nat}{S:Stat}
def zg:List V->Hp->VK->Prop:=λxs H Q=>∃p,∃ns:List Int,xs=[.ref p]/\Rd H p (.lst (ns.map V.int))/\ns.length<64/\∀ms:List Int,ms.Perm ns->ms.Pairwise (λx y=>x<=y)->∀l,H l=none->Q (.ref l) (upd H l (.lst (ms.map V.int)))
theorem ug{X:Cx}:cV X (.builtin "sorted") zg:=by
 intro pins s σ H xs Jd Q I r h;obtain⟨p,ns,rfl,hq,Nr,q⟩:=h;obtain⟨u,rfl,rx⟩:=vals1 r;cases rx;obtain⟨its,rv,pl,hz⟩:=I.list (.inl hq);have lits:its.length=ns.length:=by have:=rv.length;rw[List.length_map]at this;exact this.symm
 have hz:ns.length<=sizeLine:=by have:=hz;rw[List.length_map]at this;exact this
 refine Vs.vW pl.isList ⋯ (jJ rv) ⋯ λout ms g c a1 perm srt kg hg=>?_
 refine⟨.ref (s.heap.objs.size+1),_,I.laid (t':=s.toks) (o:=.lst (ms.map V.int)) kg (Nat.le_succ _) ⟨?_,out.toList,c,?_,hg⟩,rfl,q ms perm srt _ (I.bL.fresh (Nat.le_succ _))⟩
 ·rw[List.length_map,perm.length_eq];exact hz
 ·rw[<- jl a1]
  exact d9 (gX a1)
def sP:List D->(EV->Prop)->Prop
 | [.lst ds],Q=>ds.all isInt=true/\ds.length<64/\Q (.own ((qw (ds.map k8)).map D.int))
 | _,_=>False
theorem Dq:zI G k S (.builtin "sorted") sP:=⟨λ_=>zg,λX Y ok=>ug,λY F H ah σ vs ds Qd Q R r q g=>by
 unfold sP at q
 split at q
 ·rename_i xs
  obtain⟨v,rfl,rv⟩:=r.one;obtain⟨p,us,rfl,h1,h2⟩:=rv.lst;refine⟨p,xs.map k8,rfl,?_,by rw[List.length_map];exact q.2.1,λms hp hs l hl=>?_⟩
  ·rw[<- qu h2 q.1];exact h1
  ·have q2:=q.2.2
   rw[<- oB hp hs]at q2;exact g.own R (lC ms) q2 l hl
 ·exact q.elim⟩
end Vc
set_option maxHeartbeats 0
namespace K35
open PySem L2 Vc
section
def top(i:Nat):Stmt:=PySem.Challenge.pw_closepoints_k35_whole_kept_otherwise.main.body.getD i (.Pass ⟨0,0,0,0⟩)
variable [KF]
structure Gl(G:GE):Prop where
 kg:KG G
 z_abs:G.mg "abs"=none
 z_dict:G.mg "dict"=none
 z_int:G.mg "int"=none
 z_len:G.mg "len"=none
 z_list:G.mg "list"=none
 z_max:G.mg "max"=none
 z_min:G.mg "min"=none
 z_range:G.mg "range"=none
 z_sorted:G.mg "sorted"=none
 z_sum:G.mg "sum"=none
 z_tuple:G.mg "tuple"=none
 z_zip:G.mg "zip"=none
 zN:Kv G "SQUARES" (.str "squares")
 pM:Kv G "STREETS" (.str "streets")
variable {G:GE}{k:Nat}
abbrev ki:Stmt:=top 9
abbrev Br:List Str:=["count"]
local macro_rules | `(tactic| walk_at "5") => `(tactic| exact ⟨rfl,rfl,rfl,by decide +kernel,rfl,by decide +kernel,by decide +kernel⟩)
theorem RF:aC Br ["count"] (ae ki):=by walk_at "5"
def FO:b5:=(dt (v9 (bq OQ (af 0) (bg (.int 1))) (bq Zx (af 0) (bg (.int 3)))) v7 mw)
theorem Vn(E:Gl G):dy G k ⟨Br,(ae ki).names,[],false,false,false,λ_ _=>False⟩ (aq ki) (FO):=(aL (e9 (Rp (Fc (bD Lv (ag 0) aB) (vJ (bD UI (ag 0) aB)))) (aL iD) cQ))
abbrev sx:Stmt:=top 10
abbrev Kw:List Str:=["point","count"]
theorem Ys:aC Kw ["point","count"] (ae sx):=by walk_at "5"
def S3:b5:=(dt (bq neT (aX (fB fM (bT (af 0) eM))) (af 1)) v7 mw)
theorem aak(E:Gl G):dy G k ⟨Kw,(ae sx).names,[],false,false,false,λ_ _=>False⟩ (aq sx) (S3):=(aL (e9 (bD my (bx (d4 f_len E.z_len (aQ (ag 0) bK) (by decide +kernel))) (ag 1)) (aL iD) cQ))
abbrev j6:Stmt:=top 11
abbrev Bj:List Str:=["points","point"]
theorem Ry:aC Bj ["points"] (ae j6):=by walk_at "5"
def FG(fY:bf)(kI:bf):b5:=(h7 (dg (ak [] (af 0))) (gB 1) (ck (mv (mq fY (bz (ak [] (aX (fB fM (bT (af 1) eM)))) tN))) (mv (mq kI (bz (ak [] (af 1)) (bz (ak [] (aX (fB fM (bT (h8 (af 0) (bg (.int 0))) eM)))) tN))))))
theorem Vg(E:Gl G){fY:bf}(p0:d5 G k "need_count" fY){kI:bf}(Ag:d5 G k "need_as_many_numbers" kI):dy G k ⟨Bj,(ae j6).names,[],false,false,false,λ_ _=>False⟩ (aq j6) (FG fY kI):=(aL (vU (gW (aG (ag 0))) (bG 1 (hn:=by first|decide|exact of_decide_eq_true rfl)) (az (bZ (bW p0 (ao (aG (bx (d4 f_len E.z_len (aQ (ag 1) bK) (by decide +kernel)))) aE))) (aL (bZ (bW Ag (ao (aG (ag 1)) (ao (aG (bx (d4 f_len E.z_len (aQ (cZ (ag 0) aB) bK) (by decide +kernel)))) aE))))))))
abbrev kB:Stmt:=top 12
abbrev BF:List Str:=["way"]
theorem RU:aC BF ["way"] (ae kB):=by walk_at "5"
def F7:b5:=(dt (qz (bq neT (af 0) (bg (.str "streets"))) (bq neT (af 0) (bg (.str "squares")))) v7 mw)
theorem VB(E:Gl G):dy G k ⟨BF,(ae kB).names,[],false,false,false,λ_ _=>False⟩ (aq kB) (F7):=(aL (e9 (Rp (Kl (bD my (ag 0) (E8 E.pM)) (E3 (bD my (ag 0) (E8 E.zN))))) (aL iD) cQ))
abbrev sy:Stmt:=top 13
abbrev Kx:List Str:=["points","way"]
theorem Yt:aC Kx ["points","way"] (ae sy):=by walk_at "5"
def S4(sY:bf)(fZ:bf):b5:=(ck (mv (mq sY (bz (ak [] (af 0)) tN))) (mv (mq fZ (bz (ak [] (af 1)) tN))))
theorem aal(E:Gl G){sY:bf}(Dy:d5 G k "need_points" sY){fZ:bf}(qa:d5 G k "need_way" fZ):dy G k ⟨Kx,(ae sy).names,[],false,false,false,λ_ _=>False⟩ (aq sy) (S4 sY fZ):=(az (bZ (bW Dy (ao (aG (ag 0)) aE))) (aL (bZ (bW qa (ao (aG (ag 1)) aE)))))
abbrev kj:Stmt:=top 14
abbrev Bs:List Str:=["points","place"]
theorem RG:aC Bs ["points","place"] (ae kj):=by walk_at "5"
def FP:b5:=(dt (v9 (bq OQ (af 1) (bg (.int 0))) (bq Zw (af 1) (aX (fB fM (bT (af 0) eM))))) v7 mw)
theorem Vo(E:Gl G):dy G k ⟨Bs,(ae kj).names,[],false,false,false,λ_ _=>False⟩ (aq kj) (FP):=(aL (e9 (Rp (Fc (bD Lv (ag 1) aB) (vJ (bD UH (ag 1) (bx (d4 f_len E.z_len (aQ (ag 0) bK) (by decide +kernel))))))) (aL iD) cQ))
abbrev kh:Stmt:=top 15
abbrev Bq:List Str:=["bound"]
theorem RE:aC Bq ["bound"] (ae kh):=by walk_at "5"
def FN:b5:=(dt (bq OQ (af 0) (bg (.int 0))) v7 mw)
theorem Vm(E:Gl G):dy G k ⟨Bq,(ae kh).names,[],false,false,false,λ_ _=>False⟩ (aq kh) (FN):=(aL (e9 (bD Lv (ag 0) aB) (aL iD) cQ))
abbrev j3:Stmt:=top 17
abbrev Bh:List Str:=["way","point","other","differences"]
theorem Rw:aC Bh ["way","point","other"] (ae j3):=by walk_at "5"
def FD:b5:=(ck (gw [] 3 (eJ [] [none,none] (S2 (bz (ak [] (af 1)) (bz (ak [] (af 2)) tN))) (Nq 2 (gC (gB 0) (gC (gB 1) Np))) cR (ak [] (aX (fB GR (bT (aX (bP pA (af 0) (af 1))) eM)))))) (ck (dt (bq eqT (af 0) (bg (.str "streets"))) (fC [] (fB sumF (bT (af 3) eM))) mw) (fC [] (fB sumF (bT (aX (eJ [] [none] (dg (ak [] (af 3))) (gB 0) cR (ak [] (aX (bP nQ (af 0) (af 0)))))) eM)))))
local macro_rules | `(tactic| walk_at "6") => `(tactic| first|decide +kernel | (dsimp only[aI,aA];decide +kernel))
theorem Ve(E:Gl G):dy G k ⟨Bh,(ae j3).names,[],false,false,false,λ_ _=>False⟩ (aq j3) (FD):=(az (Fl 3 (N':=["here","there"]) (WK (ao (aG (ag 1)) (ao (aG (ag 2)) aE)) E.z_zip) ⟨rfl,by walk_at "6",by walk_at "6",by walk_at "6",by walk_at "6",rfl,by walk_at "6"⟩ (yz (dZ (bG 0 (hn:=by first|decide|exact of_decide_eq_true rfl)) (dZ (bG 1 (hn:=by first|decide|exact of_decide_eq_true rfl)) rm))) gP (aG (bx (d4 VG E.z_abs (aQ (bx (mn (ag 0) (ag 1))) bK) (by decide +kernel))))) (az (e9 (bD qO (ag 0) (E8 E.pM)) (aL (bR (d4 JU E.z_sum (aQ (ag 3) bK) (by decide +kernel)))) cQ) (aL (bR (d4 JU E.z_sum (aQ (bx (jt (N':=["difference"]) (gW (aG (ag 3))) ⟨rfl,by walk_at "6",by walk_at "6",by walk_at "6",by walk_at "6",rfl,by walk_at "6"⟩ (bG 0 (hn:=by first|decide|exact of_decide_eq_true rfl)) gP (aG (bx (om (ag 0) (ag 0)))))) bK) (by decide +kernel))))))
abbrev sD:Stmt:=top 18
abbrev KA:List Str:=["points","way","pairs","i","j"]
theorem Yw:aC KA ["points","way"] (ae sD):=by walk_at "5"
def Y7(fW:bf):b5:=(ck (gw [] 2 (Fw tN)) (ck (h7 (su (bT (aX (fB fM (bT (af 0) eM))) eM)) (gB 3) (h7 (IB (bT (aX (bP i9 (af 3) (bg (.int 1)))) (bT (aX (fB fM (bT (af 0) eM))) eM))) (gB 4) (mv (IU (af 2) (ak [] (tK (bz (ak [] (aX (mq fW (bz (ak [] (af 1)) (bz (ak [] (h8 (af 0) (af 3))) (bz (ak [] (h8 (af 0) (af 4))) tN)))))) (bz (ak [] (af 3)) (bz (ak [] (af 4)) tN))))))))) (fC [] (oX (af 2)))))
theorem aao(E:Gl G){fW:bf}(pZ:d5 G k "far_between" fW):dy G k ⟨KA,(ae sD).names,[],false,false,false,λ_ _=>False⟩ (aq sD) (Y7 fW):=(az (cM 2 (mh aE)) (az (vU (k6 (aQ (bx (d4 f_len E.z_len (aQ (ag 0) bK) (by decide +kernel))) bK) E.z_range) (bG 3 (hn:=by first|decide|exact of_decide_eq_true rfl)) (aL (vU (NP (aQ (bx (iZ (ag 3) aB)) (aQ (bx (d4 f_len E.z_len (aQ (ag 0) bK) (by decide +kernel))) bK)) E.z_range) (bG 4 (hn:=by first|decide|exact of_decide_eq_true rfl)) (aL (bZ (E4 (ag 2) (aG (eE (ao (aG (bx (bW pZ (ao (aG (ag 1)) (ao (aG (cZ (ag 0) (ag 3))) (ao (aG (cZ (ag 0) (ag 4))) aE)))))) (ao (aG (ag 3)) (ao (aG (ag 4)) aE))))))))))) (aL (bR (mG (ag 2))))))
abbrev ka:Stmt:=top 20
abbrev Bo:List Str:=["points","way","bound"]
theorem RC:aC Bo ["points","way","bound"] (ae ka):=by walk_at "5"
def FK(eT:bf)(tm:bf)(kJ:bf):b5:=(ck (mv (mq eT (bz (ak [] (af 0)) (bz (ak [] (af 1)) tN)))) (ck (mv (mq tm (bz (ak [] (af 2)) tN))) (fC [] (eJ [] [none,none,none,some 2] (dg (ak [] (aX (mq kJ (bz (ak [] (af 0)) (bz (ak [] (af 1)) tN)))))) (Nq 3 (gC (gB 0) (gC (gB 1) (gC (gB 2) Np)))) (bq leT (af 0) (af 3)) (ak [] (tK (bz (ak [] (af 1)) (bz (ak [] (af 2)) tN))))))))
theorem Vk(E:Gl G){eT:bf}(rn:d5 G k "need_points_and_way" eT){tm:bf}(DC:d5 G k "need_bound" tm){kJ:bf}(Ah:d5 G k "pairs_by_places" kJ):dy G k ⟨Bo,(ae ka).names,[],false,false,false,λ_ _=>False⟩ (aq ka) (FK eT tm kJ):=(az (bZ (bW rn (ao (aG (ag 0)) (ao (aG (ag 1)) aE)))) (az (bZ (bW DC (ao (aG (ag 2)) aE))) (aL (bR (jt (N':=["far","i","j","bound"]) (gW (aG (bx (bW Ah (ao (aG (ag 0)) (ao (aG (ag 1)) aE)))))) ⟨rfl,by walk_at "6",by walk_at "6",by walk_at "6",by walk_at "6",rfl,by walk_at "6"⟩ (yz (dZ (bG 0 (hn:=by first|decide|exact of_decide_eq_true rfl)) (dZ (bG 1 (hn:=by first|decide|exact of_decide_eq_true rfl)) (dZ (bG 2 (hn:=by first|decide|exact of_decide_eq_true rfl)) rm)))) (BR (bD aah (ag 0) (ag 3))) (aG (eE (ao (aG (ag 1)) (ao (aG (ag 2)) aE)))))))))
abbrev sI:Stmt:=top 22
abbrev KH:List Str:=["points","way","point","places"]
theorem Yz:aC KH ["points","way","point","places"] (ae sI):=by walk_at "5"
def S9(fW:bf):b5:=(fC [] (oX (IX (aX (eJ [] [none,some 1,some 2,some 0] (dg (ak [] (af 3))) (gB 0) cR (ak [] (tK (bz (ak [] (aX (mq fW (bz (ak [] (af 1)) (bz (ak [] (af 2)) (bz (ak [] (h8 (af 3) (af 0))) tN)))))) (bz (ak [] (af 0)) tN)))))) (ak [] (bg .aW)))))
theorem aar(E:Gl G){fW:bf}(pZ:d5 G k "far_between" fW):dy G k ⟨KH,(ae sI).names,[],false,false,false,λ_ _=>False⟩ (aq sI) (S9 fW):=(aL (bR (mG (Km (bx (jt (N':=["place","way","point","points"]) (gW (aG (ag 3))) ⟨rfl,by walk_at "6",by walk_at "6",by walk_at "6",by walk_at "6",rfl,by walk_at "6"⟩ (bG 0 (hn:=by first|decide|exact of_decide_eq_true rfl)) gP (aG (eE (ao (aG (bx (bW pZ (ao (aG (ag 1)) (ao (aG (ag 2)) (ao (aG (cZ (ag 3) (ag 0))) aE)))))) (ao (aG (ag 0)) aE)))))) (aG mj) E.z_min))))
abbrev sJ:Stmt:=top 23
abbrev KI:List Str:=["points","way","place","others"]
theorem YB:aC KI ["points","way","place"] (ae sJ):=by walk_at "5"
def Ta(zr:bf):b5:=(ck (gw [] 3 (eJ [] [none,some 2] (su (bT (aX (fB fM (bT (af 0) eM))) eM)) (gB 0) (bq neT (af 0) (af 1)) (ak [] (af 0)))) (fC [] (mq zr (bz (ak [] (af 0)) (bz (ak [] (af 1)) (bz (ak [] (h8 (af 0) (af 2))) (bz (ak [] (af 3)) tN)))))))
theorem aas(E:Gl G){zr:bf}(Nu:d5 G k "nearest_among" zr):dy G k ⟨KI,(ae sJ).names,[],false,false,false,λ_ _=>False⟩ (aq sJ) (Ta zr):=(az (Fl 3 (N':=["other","place"]) (k6 (aQ (bx (d4 f_len E.z_len (aQ (ag 0) bK) (by decide +kernel))) bK) E.z_range) ⟨rfl,by walk_at "6",by walk_at "6",by walk_at "6",by walk_at "6",rfl,by walk_at "6"⟩ (bG 0 (hn:=by first|decide|exact of_decide_eq_true rfl)) (BR (bD my (ag 0) (ag 1))) (aG (ag 0))) (aL (bR (bW Nu (ao (aG (ag 0)) (ao (aG (ag 1)) (ao (aG (cZ (ag 0) (ag 2))) (ao (aG (ag 3)) aE))))))))
abbrev j4:Stmt:=top 24
abbrev Bi:List Str:=["points","way"]
theorem Rx:aC Bi ["points","way"] (ae j4):=by walk_at "5"
def FE(eT:bf)(kJ:bf):b5:=(ck (mv (mq eT (bz (ak [] (af 0)) (bz (ak [] (af 1)) tN)))) (fC [] (oX (IX (aX (mq kJ (bz (ak [] (af 0)) (bz (ak [] (af 1)) tN)))) (ak [] (bg .aW))))))
theorem Vf(E:Gl G){eT:bf}(rn:d5 G k "need_points_and_way" eT){kJ:bf}(Ah:d5 G k "pairs_by_places" kJ):dy G k ⟨Bi,(ae j4).names,[],false,false,false,λ_ _=>False⟩ (aq j4) (FE eT kJ):=(az (bZ (bW rn (ao (aG (ag 0)) (ao (aG (ag 1)) aE)))) (aL (bR (mG (Km (bx (bW Ah (ao (aG (ag 0)) (ao (aG (ag 1)) aE)))) (aG mj) E.z_min)))))
abbrev kc:Stmt:=top 25
abbrev Bp:List Str:=["points","way","place"]
theorem RD:aC Bp ["points","way","place"] (ae kc):=by walk_at "5"
def FL(eT:bf)(tu:bf)(zt:bf):b5:=(ck (mv (mq eT (bz (ak [] (af 0)) (bz (ak [] (af 1)) tN)))) (ck (mv (mq tu (bz (ak [] (af 0)) (bz (ak [] (af 2)) tN)))) (fC [] (mq zt (bz (ak [] (af 0)) (bz (ak [] (af 1)) (bz (ak [] (af 2)) tN)))))))
theorem Vl(E:Gl G){eT:bf}(rn:d5 G k "need_points_and_way" eT){tu:bf}(DE:d5 G k "need_place" tu){zt:bf}(Nv:d5 G k "nearest_other" zt):dy G k ⟨Bp,(ae kc).names,[],false,false,false,λ_ _=>False⟩ (aq kc) (FL eT tu zt):=(az (bZ (bW rn (ao (aG (ag 0)) (ao (aG (ag 1)) aE)))) (az (bZ (bW DE (ao (aG (ag 0)) (ao (aG (ag 2)) aE)))) (aL (bR (bW Nv (ao (aG (ag 0)) (ao (aG (ag 1)) (ao (aG (ag 2)) aE))))))))
abbrev sG:Stmt:=inClass (top 27) 0
abbrev KD:List Str:=["self","way","count"]
theorem Yy:aC KD ["self","way","count"] (ae sG):=by walk_at "5"
def S8(fY:bf)(fZ:bf):b5:=(ck (mv (mq fY (bz (ak [0] (af 2)) tN))) (ck (mv (mq fZ (bz (ak [0] (af 1)) tN))) (ck (Z9 0 "way" (af 1)) (ck (Z9 0 "count" (af 2)) (ck (tKN 0) (tKZ 0 (bg (.int 0))))))))
theorem aaq(E:Gl G){fY:bf}(p0:d5 G k "need_count" fY){fZ:bf}(qa:d5 G k "need_way" fZ):dy G k ⟨KD,(ae sG).names,[0],false,false,false,λ_ _=>False⟩ (aq sG) (S8 fY fZ):=(az (bZ (bW p0 (ao (aG (ag 2)) aE))) (az (bZ (bW qa (ao (aG (ag 1)) aE))) (az (Fm 0 E.kg (ag 1) (vK 0)) (az (Fm 0 E.kg (ag 2) (vK 0)) (az (Rt 0 E.kg) (aL (II 0 E.kg aB (vK 0))))))))
abbrev kx:Stmt:=inClass (top 27) 1
abbrev BA:List Str:=["self","point","name"]
theorem RO:aC BA ["self","point"] (ae kx):=by walk_at "5"
def FX(kI:bf):b5:=(ck (mv (mq kI (bz (ak [0] (af 1)) (bz (ak [0] (SN "count" (eW 0))) tN)))) (ck (gw [0] 2 (oX (SN "ever_put" (eW 0)))) (ck (tKP 0 (af 2) (ak [0] (af 1))) (ck (tKE 0 (aX (bP i9 (af 2) (bg (.int 1))))) (fC [0] (oX (af 2)))))))
theorem Vw(E:Gl G){kI:bf}(Ag:d5 G k "need_as_many_numbers" kI):dy G k ⟨BA,(ae kx).names,[0],false,false,false,λ_ _=>False⟩ (aq kx) (FX kI):=(az (bZ (bW Ag (ao (aG (ag 1)) (ao (aG (E9 E.kg (eF 0))) aE)))) (az (cM 2 (mG (E9 E.kg (eF 0)))) (az (Rv 0 E.kg (aG (ag 1)) (ag 2) (vK 0)) (az (IH 0 E.kg (bx (iZ (ag 2) aB)) (vK 0)) (aL (bR (mG (ag 2))))))))
abbrev kn:Stmt:=inClass (top 27) 2
abbrev Bu:List Str:=["self","name"]
theorem RJ:aC Bu ["self","name"] (ae kn):=by walk_at "5"
def FR(eV:bf):b5:=(ck (mv (Fy (cF eV) 0 (gF (ak [0] (af 1)) dk))) (tKD 0 (af 1)))
theorem Vq(E:Gl G){eV:bf}(rq:cg G k "need_name" (cF eV)):dy G k ⟨Bu,(ae kn).names,[0],false,false,false,λ_ _=>False⟩ (aq kn) (FR eV):=(az (bZ (dP true 0 rq E.kg (dq (aG (ag 1)) bC))) (aL (Ru 0 E.kg (ag 1) (vK 0))))
abbrev j7:Stmt:=inClass (top 27) 3
abbrev Bk:List Str:=["self"]
theorem Rz:aC Bk ["self"] (ae j7):=by walk_at "5"
def FH:b5:=(fC [] (fB hX (bT (T2 (ak [] (af 0))) eM)))
theorem Vh(E:Gl G):dy G k ⟨Bk,(ae j7).names,[],false,false,false,λ_ _=>False⟩ (aq j7) (FH):=(aL (bR (d4 gS E.z_sorted (aQ (Iw E.kg (aG (ag 0))) bK) (by decide +kernel))))
abbrev j8:Stmt:=inClass (top 27) 4
abbrev Bl:List Str:=["self","name"]
theorem RA:aC Bl ["self","name"] (ae j8):=by walk_at "5"
def FI(eV:bf):b5:=(ck (mv (gG (cF eV) (ak [] (af 0)) (gF (ak [] (af 1)) dk))) (fC [] (oX (f9 (T2 (ak [] (af 0))) (af 1)))))
theorem Vi(E:Gl G){eV:bf}(rq:cg G k "need_name" (cF eV)):dy G k ⟨Bl,(ae j8).names,[],false,false,false,λ_ _=>False⟩ (aq j8) (FI eV):=(az (bZ (dN rq E.kg (aG (ag 0)) (dq (aG (ag 1)) bC))) (aL (bR (mG (eR (Iw E.kg (aG (ag 0))) (ag 1))))))
abbrev ky:Stmt:=inClass (top 27) 5
abbrev BD:List Str:=["self","found","names"]
theorem RP:aC BD ["self"] (ae ky):=by walk_at "5"
def FY(sX:bf)(eU:bf)(bA:bf):b5:=(ck (gw [] 1 (mq sX (bz (ak [] (aX (gG (cF eU) (ak [] (af 0)) dk))) (bz (ak [] (SN "way" (af 0))) tN)))) (ck (dt (bq WN (af 1) (bg .aW)) (fC [] (oX (bg .aW))) mw) (ck (gw [] 2 (gG (cF bA) (ak [] (af 0)) dk)) (fC [] (oX (tK (bz (ak [] (h8 (af 1) (bg (.int 0)))) (bz (ak [] (h8 (af 2) (h8 (af 1) (bg (.int 1))))) (bz (ak [] (h8 (af 2) (h8 (af 1) (bg (.int 2))))) tN)))))))))
theorem Vy(E:Gl G){sX:bf}(Dx:d5 G k "nearest_two" sX){eU:bf}(rp:cg G k "plain_points" (cF eU)){bA:bf}(df:cg G k "names" (cF bA)):dy G k ⟨BD,(ae ky).names,[],false,false,false,λ_ _=>False⟩ (aq ky) (FY sX eU bA):=(az (cM 1 (bW Dx (ao (aG (bx (dM rp E.kg (aG (ag 0))))) (ao (aG (E9 E.kg (ag 0))) aE)))) (az (e9 (bD Ls (ag 1) mj) (aL (bR (mG mj))) cQ) (az (cM 2 (dM df E.kg (aG (ag 0)))) (aL (bR (mG (eE (ao (aG (cZ (ag 1) aB)) (ao (aG (cZ (ag 2) (cZ (ag 1) aB))) (ao (aG (cZ (ag 2) (cZ (ag 1) aB))) aE))))))))))
abbrev sL:Stmt:=inClass (top 27) 6
abbrev KJ:List Str:=["self","name","names","found"]
theorem YC:aC KJ ["self","name"] (ae sL):=by walk_at "5"
def Tb(eV:bf)(bA:bf)(tj:bf)(eU:bf):b5:=(ck (mv (gG (cF eV) (ak [] (af 0)) (gF (ak [] (af 1)) dk))) (ck (gw [] 2 (gG (cF bA) (ak [] (af 0)) dk)) (ck (gw [] 3 (mq tj (bz (ak [] (aX (gG (cF eU) (ak [] (af 0)) dk))) (bz (ak [] (SN "way" (af 0))) (bz (ak [] (SQ (af 2) (ak [] (af 1)))) tN))))) (ck (dt (bq WN (af 3) (bg .aW)) (fC [] (oX (bg .aW))) mw) (fC [] (oX (tK (bz (ak [] (h8 (af 3) (bg (.int 0)))) (bz (ak [] (h8 (af 2) (h8 (af 3) (bg (.int 1))))) tN)))))))))
theorem aat(E:Gl G){eV:bf}(rq:cg G k "need_name" (cF eV)){bA:bf}(df:cg G k "names" (cF bA)){tj:bf}(DB:d5 G k "nearest_of" tj){eU:bf}(rp:cg G k "plain_points" (cF eU)):dy G k ⟨KJ,(ae sL).names,[],false,false,false,λ_ _=>False⟩ (aq sL) (Tb eV bA tj eU):=(az (bZ (dN rq E.kg (aG (ag 0)) (dq (aG (ag 1)) bC))) (az (cM 2 (dM df E.kg (aG (ag 0)))) (az (cM 3 (bW DB (ao (aG (bx (dM rp E.kg (aG (ag 0))))) (ao (aG (E9 E.kg (ag 0))) (ao (aG (Iy (ag 2) (aG (ag 1)))) aE))))) (az (e9 (bD Ls (ag 3) mj) (aL (bR (mG mj))) cQ) (aL (bR (mG (eE (ao (aG (cZ (ag 3) aB)) (ao (aG (cZ (ag 2) (cZ (ag 3) aB))) aE))))))))))
abbrev km:Stmt:=inClass (top 27) 7
abbrev Bt:List Str:=["self","bound","names"]
theorem RH:aC Bt ["self","bound"] (ae km):=by walk_at "5"
def FQ(bA:bf)(tf:bf)(eU:bf):b5:=(ck (gw [] 2 (gG (cF bA) (ak [] (af 0)) dk)) (fC [] (eJ [] [none,none,some 2] (dg (ak [] (aX (mq tf (bz (ak [] (aX (gG (cF eU) (ak [] (af 0)) dk))) (bz (ak [] (SN "way" (af 0))) (bz (ak [] (af 1)) tN))))))) (Nq 2 (gC (gB 0) (gC (gB 1) Np))) cR (ak [] (tK (bz (ak [] (h8 (af 2) (af 0))) (bz (ak [] (h8 (af 2) (af 1))) tN)))))))
theorem Vp(E:Gl G){bA:bf}(df:cg G k "names" (cF bA)){tf:bf}(DA:d5 G k "near_pairs" tf){eU:bf}(rp:cg G k "plain_points" (cF eU)):dy G k ⟨Bt,(ae km).names,[],false,false,false,λ_ _=>False⟩ (aq km) (FQ bA tf eU):=(az (cM 2 (dM df E.kg (aG (ag 0)))) (aL (bR (jt (N':=["i","j","names"]) (gW (aG (bx (bW DA (ao (aG (bx (dM rp E.kg (aG (ag 0))))) (ao (aG (E9 E.kg (ag 0))) (ao (aG (ag 1)) aE))))))) ⟨rfl,by walk_at "6",by walk_at "6",by walk_at "6",by walk_at "6",rfl,by walk_at "6"⟩ (yz (dZ (bG 0 (hn:=by first|decide|exact of_decide_eq_true rfl)) (dZ (bG 1 (hn:=by first|decide|exact of_decide_eq_true rfl)) rm))) gP (aG (eE (ao (aG (cZ (ag 2) (ag 0))) (ao (aG (cZ (ag 2) (ag 1))) aE))))))))
abbrev sE:Stmt:=inClass (top 27) 8
abbrev KC:List Str:=["self","name"]
theorem Yx:aC KC ["self","name"] (ae sE):=by walk_at "5"
def S7:b5:=(dt (bq HC (af 1) (T2 (ak [] (af 0)))) v7 mw)
theorem aap(E:Gl G):dy G k ⟨KC,(ae sE).names,[],false,false,false,λ_ _=>False⟩ (aq sE) (S7):=(aL (e9 (bD Lw (ag 1) (Iw E.kg (aG (ag 0)))) (aL iD) cQ))
abbrev sA:Stmt:=inClass (top 27) 9
abbrev Ky:List Str:=["self"]
theorem Yu:aC Ky ["self"] (ae sA):=by walk_at "5"
def S5(bA:bf):b5:=(fC [] (eJ [] [none,some 0] (dg (ak [] (aX (gG (cF bA) (ak [] (af 0)) dk)))) (gB 0) cR (ak [] (f9 (T2 (ak [] (af 1))) (af 0)))))
theorem aam(E:Gl G){bA:bf}(df:cg G k "names" (cF bA)):dy G k ⟨Ky,(ae sA).names,[],false,false,false,λ_ _=>False⟩ (aq sA) (S5 bA):=(aL (bR (jt (N':=["name","self"]) (gW (aG (bx (dM df E.kg (aG (ag 0)))))) ⟨rfl,by walk_at "6",by walk_at "6",by walk_at "6",by walk_at "6",rfl,by walk_at "6"⟩ (bG 0 (hn:=by first|decide|exact of_decide_eq_true rfl)) gP (aG (eR (Iw E.kg (aG (ag 1))) (ag 0))))))
abbrev kz:Stmt:=top 29
abbrev BE:List Str:=["pot","many","cell","stir"]
theorem RQ:aC BE ["pot","many"] (ae kz):=by walk_at "5"
def FZ:b5:=(ck (vZ 0 (bg (.int 1)) (ak [0] (aX (bP i9 (h8 (af 0) (bg (.int 1))) (bg (.int 1)))))) (ck (gw [0] 2 (oX (h8 (af 0) (bg (.int 0))))) (ck (dt (bq Zw (af 2) (aX (bP rY (bg (.int 10)) (bg (.int 18))))) (ck (vZ 0 (bg (.int 0)) (ak [0] (aX (bP yv (af 2) (af 1))))) (fC [0] (bP xi (af 2) (af 1)))) mw) (ck (gw [0] 3 (bP xi (aX (bP i9 (aX (bP i9 (aX (bP nQ (af 2) (bg (.int 69621)))) (aX (bP nQ (h8 (af 0) (bg (.int 1))) (bg (.int 7919)))))) (bg (.int 13)))) (bg (.int 2147483647)))) (ck (gw [0] 3 (bP xi (aX (bP nQ (af 3) (af 3))) (bg (.int 2147483629)))) (fC [0] (bP xi (aX (bP yv (aX (bP xi (aX (bP i9 (aX (bP nQ (af 3) (bg (.int 48271)))) (aX (bP nQ (h8 (af 0) (bg (.int 1))) (bg (.int 40692)))))) (bg (.int 2147483587)))) (bg (.int 8)))) (af 1))))))))
theorem Vz(E:Gl G):dy G k ⟨BE,(ae kz).names,[0],false,false,false,λ_ _=>False⟩ (aq kz) (FZ):=(az (xI 0 (aG (bx (iZ (cZ (ag 0) aB) aB))) aB (ag 0)) (az (cM 2 (mG (cZ (ag 0) aB))) (az (e9 (bD UH (ag 2) (bx (oo aB aB))) (az (xI 0 (aG (bx (zi (ag 2) (ag 1)))) aB (ag 0)) (aL (bR (vI (ag 2) (ag 1))))) cQ) (az (cM 3 (vI (bx (iZ (bx (iZ (bx (om (ag 2) aB)) (bx (om (cZ (ag 0) aB) aB)))) aB)) aB)) (az (cM 3 (vI (bx (om (ag 3) (ag 3))) aB)) (aL (bR (vI (bx (zi (bx (vI (bx (iZ (bx (om (ag 3) aB)) (bx (om (cZ (ag 0) aB) aB)))) aB)) aB)) (ag 1)))))))))
abbrev kA:Stmt:=top 30
abbrev JH:List Str:=["script"]
theorem RT:aC JH ["script"] (ae kA):=by walk_at "5"
theorem VA(E:Gl G):tW G k ⟨JH,(ae kA).names,[],false,false,false,λ_ _=>False⟩ (aq kA):=ML (N':=["cell"]) rfl (bD qO (bx (d4 f_len E.z_len (aQ (ag 0) bK) (by decide +kernel))) aB) (ao (aG aB) (ao (aG aB) aE)) (gW (aG (bx (Yk (ag 0) xr (xt aB))))) ⟨rfl,by walk_at "6",by walk_at "6",by walk_at "6",by walk_at "6",rfl,by walk_at "6"⟩ (bG 0 (hn:=by first|decide|exact of_decide_eq_true rfl)) (ao (aG (ag 0)) (ao (aG aB) aE))
abbrev kE:Stmt:=top 31
abbrev BG:List Str:=["pot"]
theorem RV:aC BG ["pot"] (ae kE):=by walk_at "5"
def F8(bc:jv):b5:=(fC [0] (oX (h8 (aX (Fw (bz (ak [0] (bg (.str "streets"))) (bz (ak [0] (bg (.str "squares"))) tN)))) (aX (gA bc 0 (bz (ak [0] (bg (.int 2))) tN))))))
theorem VC(E:Gl G){bc:jv}(cB:fH G k "_law_next" bc):dy G k ⟨BG,(ae kE).names,[0],false,false,false,λ_ _=>False⟩ (aq kE) (F8 bc):=(aL (bR (mG (cZ (bx (mh (ao (aG ml) (ao (aG ml) aE)))) (bx (bS cB (ag 0) (ao (aG aB) aE)))))))
abbrev kr:Stmt:=top 32
abbrev Bx:List Str:=["pot","count","own","some","kind","at"]
theorem RM:aC Bx ["pot","count","own"] (ae kr):=by walk_at "5"
def FV(bc:jv):b5:=(ck (gw [0] 3 (iI [0] [none,some 0] 0 1 (su (bT (af 1) eM)) (gB 0) cR (ak [1] (aX (gA bc 1 (bz (ak [1] (bg (.int 5))) tN)))))) (ck (gw [0] 4 (gA bc 0 (bz (ak [0] (bg (.int 4))) tN))) (ck (dt (bq eqT (af 4) (bg (.int 1))) (gw [0] 3 (iI [0] [none,some 0] 0 1 (su (bT (af 1) eM)) (gB 0) cR (ak [1] (aX (bP i9 (aX (bP pA (aX (gA bc 1 (bz (ak [1] (aX (bP pA (aX (bP nQ (bg (.int 2)) (aX (bP rY (bg (.int 10)) (bg (.int 15)))))) (bg (.int 1))))) tN))) (aX (bP rY (bg (.int 10)) (bg (.int 15)))))) (bg (.int 1))))))) mw) (ck (dt (qz (bq Zx (af 4) (bg (.int 1))) (IW true (af 2))) (ck (gw [0] 3 (fB qg (bT (f9 (af 2) (h8 (aX (fB hX (bT (af 2) eM))) (aX (gA bc 0 (bz (ak [0] (aX (fB D9 (bT (af 2) eM)))) tN))))) eM))) (ck (gw [0] 5 (gA bc 0 (bz (ak [0] (af 1)) tN))) (vZ 3 (af 5) (ak [0] (aX (fB yR (bT (aX (bP pA (bg (.int 1)) (aX (bP rY (bg (.int 10)) (bg (.int 15)))))) (bT (aX (fB yS (bT (aX (bP pA (aX (bP rY (bg (.int 10)) (bg (.int 15)))) (bg (.int 1)))) (bT (aX (bP pA (aX (bP i9 (h8 (af 3) (af 5)) (aX (gA bc 0 (bz (ak [0] (bg (.int 3))) tN))))) (bg (.int 1)))) eM)))) eM)))))))) mw) (fC [0] (fB lK (bT (af 3) eM)))))))
theorem Vu(E:Gl G){bc:jv}(cB:fH G k "_law_next" bc):dy G k ⟨Bx,(ae kr).names,[0],false,false,false,λ_ _=>False⟩ (aq kr) (FV bc):=(az (vT 3 0 1 (N':=["k","pot"]) (k6 (aQ (ag 1) bK) E.z_range) ⟨rfl,by walk_at "6",by walk_at "6",by walk_at "6",by walk_at "6",rfl,by walk_at "6"⟩ (bG 0 (hn:=by first|decide|exact of_decide_eq_true rfl)) gP (aG (bx (bS cB (ag 1) (ao (aG aB) aE))))) (az (cM 4 (bS cB (ag 0) (ao (aG aB) aE))) (az (e9 (bD qO (ag 4) aB) (aL (vT 3 0 1 (N':=["k","pot"]) (k6 (aQ (ag 1) bK) E.z_range) ⟨rfl,by walk_at "6",by walk_at "6",by walk_at "6",by walk_at "6",rfl,by walk_at "6"⟩ (bG 0 (hn:=by first|decide|exact of_decide_eq_true rfl)) gP (aG (bx (iZ (bx (mn (bx (bS cB (ag 1) (ao (aG (bx (mn (bx (om aB (bx (oo aB aB)))) aB))) aE))) (bx (oo aB aB)))) aB))))) cQ) (az (e9 (Rp (Kl (bD UI (ag 4) aB) (E3 (Rn (ag 2))))) (az (cM 3 (E5 f_list E.z_list (aQ (eR (ag 2) (cZ (bx (d4 gS E.z_sorted (aQ (ag 2) bK) (by decide +kernel))) (bx (bS cB (ag 0) (ao (aG (bx (d4 Dh E.z_len (aQ (ag 2) bK) (by decide +kernel)))) aE))))) bK) (by decide +kernel))) (az (cM 5 (bS cB (ag 0) (ao (aG (ag 1)) aE))) (aL (xI 3 (aG (bx (d4 MP E.z_max (aQ (bx (mn aB (bx (oo aB aB)))) (aQ (bx (d4 MR E.z_min (aQ (bx (mn (bx (oo aB aB)) aB)) (aQ (bx (mn (bx (iZ (cZ (ag 3) (ag 5)) (bx (bS cB (ag 0) (ao (aG aB) aE))))) aB)) bK)) (by decide +kernel))) bK)) (by decide +kernel)))) (ag 5) (ag 3))))) cQ) (aL (bR (E5 yr E.z_tuple (aQ (ag 3) bK) (by decide +kernel))))))))
abbrev j9:Stmt:=top 33
abbrev Bm:List Str:=["pot","kept","count","first","second"]
theorem RB:aC Bm ["pot","kept","count"] (ae j9):=by walk_at "5"
def FJ(dj:iU)(bc:jv)(oN:iU):b5:=(ck (gw [0,1] 3 (AZ dj 1 (gF (ak [0,1] (aX (bP qj (tK (bz (ak [0,1] (aX (gA bc 0 (bz (ak [0,1] (bg (.int 9))) tN)))) tN)) (af 2)))) dk))) (ck (gw [0,1] 4 (AZ dj 1 (gF (ak [0,1] (aX (bP qj (tK (bz (ak [0,1] (aX (bP pA (aX (gA bc 0 (bz (ak [0,1] (bg (.int 9))) tN))) (bg (.int 4))))) tN)) (af 2)))) dk))) (ck (mv (AZ oN 1 (gF (ak [0,1] (af 3)) dk))) (mv (AZ oN 1 (gF (ak [0,1] (af 4)) dk))))))
theorem Vj(E:Gl G){dj:iU}(gU:cg G k "put" dj){bc:jv}(cB:fH G k "_law_next" bc){oN:iU}(yC:cg G k "take" oN):dy G k ⟨Bm,(ae j9).names,[0,1],false,false,false,λ_ _=>False⟩ (aq j9) (FJ dj bc oN):=(az (cM 3 (dP false 1 gU E.kg (dq (aG (bx (Fb (eE (ao (aG (bx (bS cB (ag 0) (ao (aG aB) aE)))) aE)) (ag 2)))) bC))) (az (cM 4 (dP false 1 gU E.kg (dq (aG (bx (Fb (eE (ao (aG (bx (mn (bx (bS cB (ag 0) (ao (aG aB) aE))) aB))) aE)) (ag 2)))) bC))) (az (bZ (dP false 1 yC E.kg (dq (aG (ag 3)) bC))) (aL (bZ (dP false 1 yC E.kg (dq (aG (ag 4)) bC)))))))
abbrev kq:Stmt:=top 34
abbrev Bw:List Str:=["names","pair"]
theorem RL:aC Bw ["names","pair"] (ae kq):=by walk_at "5"
def FU:b5:=(ck (dt (bq WN (af 1) (bg .aW)) (fC [] (oX (bg .aW))) mw) (fC [] (bP i9 (tK (bz (ak [] (h8 (af 1) (bg (.int 0)))) tN)) (aX (fB lK (bT (aX (eJ [] [none,some 0] (dg (ak [] (aX (SY (af 1) (T4 (bg (.int 1))) T3)))) (gB 0) cR (ak [] (f9 (af 1) (af 0))))) eM))))))
theorem Vt(E:Gl G):dy G k ⟨Bw,(ae kq).names,[],false,false,false,λ_ _=>False⟩ (aq kq) (FU):=(az (e9 (bD Ls (ag 1) mj) (aL (bR (mG mj))) cQ) (aL (bR (iZ (eE (ao (aG (cZ (ag 1) aB)) aE)) (bx (E5 yr E.z_tuple (aQ (bx (jt (N':=["name","names"]) (gW (aG (bx (Yl (ag 1) (xt aB) xr)))) ⟨rfl,by walk_at "6",by walk_at "6",by walk_at "6",by walk_at "6",rfl,by walk_at "6"⟩ (bG 0 (hn:=by first|decide|exact of_decide_eq_true rfl)) gP (aG (eR (ag 1) (ag 0))))) bK) (by decide +kernel)))))))
abbrev ko:Stmt:=top 35
abbrev Bv:List Str:=["plain","bent","names","bound"]
theorem RK:aC Bv ["plain","bent","names","bound"] (ae ko):=by walk_at "5"
def FT(oO:bf)(cc:bf)(bA:bf)(eI:bf)(b9:bf):b5:=(ck (dt (v9 (bq neT (aX (mq oO (bz (ak [] (af 2)) (bz (ak [] (aX (gG (cF cc) (ak [] (af 0)) dk))) tN)))) (aX (gG (cF cc) (ak [] (af 1)) dk))) (bq neT (aX (fB sP (bT (aX (SR (af 2))) eM))) (aX (gG (cF bA) (ak [] (af 1)) dk)))) (fC [] (oX (bg (.bl false)))) mw) (ck (dt (bq neT (aX (tI 2 [none,some 2,some 1,some 0] (gB 0) (bq neT (aX (mq oO (bz (ak [] (af 1)) (bz (ak [] (aX (gG (cF eI) (ak [] (af 3)) (gF (ak [] (af 0)) dk)))) tN)))) (aX (gG (cF eI) (ak [] (af 2)) (gF (ak [] (f9 (af 1) (af 0))) dk)))) (ak [] (af 0)))) (aX (Fw tN))) (fC [] (oX (bg (.bl false)))) mw) (fC [] (oX (bV (bq eqT (aX (eJ [] [none,none,some 2] (dg (ak [] (aX (gG (cF b9) (ak [] (af 0)) (gF (ak [] (af 3)) dk))))) (Nq 2 (gC (gB 0) (gC (gB 1) Np))) cR (ak [] (tK (bz (ak [] (f9 (af 2) (af 0))) (bz (ak [] (f9 (af 2) (af 1))) tN)))))) (aX (gG (cF b9) (ak [] (af 1)) (gF (ak [] (af 3)) dk)))))))))
theorem Vr(E:Gl G){oO:bf}(yD:d5 G k "_law_named" oO){cc:bf}(gk:cg G k "two" (cF cc)){bA:bf}(df:cg G k "names" (cF bA)){eI:bf}(uY:cg G k "nearest" (cF eI)){b9:bf}(gj:cg G k "near" (cF b9)):dy G k ⟨Bv,(ae ko).names,[],false,false,false,λ_ _=>False⟩ (aq ko) (FT oO cc bA eI b9):=(az (e9 (Rp (Fc (bD my (bx (bW yD (ao (aG (ag 2)) (ao (aG (bx (dM gk E.kg (aG (ag 0))))) aE)))) (bx (dM gk E.kg (aG (ag 1))))) (vJ (bD my (bx (d4 Dq E.z_sorted (aQ (bx (Yj (ag 2) E.z_list)) bK) (by decide +kernel))) (bx (dM df E.kg (aG (ag 1)))))))) (aL (bR (mG so))) cQ) (az (e9 (bD my (bx (E6 2 (N':=["one","names","bent","plain"]) ⟨rfl,by walk_at "6",by walk_at "6",by walk_at "6",by walk_at "6",rfl,by walk_at "6"⟩ (bG 0 (hn:=by first|decide|exact of_decide_eq_true rfl)) (BR (bD my (bx (bW yD (ao (aG (ag 1)) (ao (aG (bx (dN uY E.kg (aG (ag 3)) (dq (aG (ag 0)) bC)))) aE)))) (bx (dN uY E.kg (aG (ag 2)) (dq (aG (eR (ag 1) (ag 0))) bC))))) (aG (ag 0)))) (bx (mh aE))) (aL (bR (mG so))) cQ) (aL (bR (mG (vH qO (bx (jt (N':=["one","other","names"]) (gW (aG (bx (dN gj E.kg (aG (ag 0)) (dq (aG (ag 3)) bC))))) ⟨rfl,by walk_at "6",by walk_at "6",by walk_at "6",by walk_at "6",rfl,by walk_at "6"⟩ (yz (dZ (bG 0 (hn:=by first|decide|exact of_decide_eq_true rfl)) (dZ (bG 1 (hn:=by first|decide|exact of_decide_eq_true rfl)) rm))) gP (aG (eE (ao (aG (eR (ag 2) (ag 0))) (ao (aG (eR (ag 2) (ag 1))) aE)))))) (bx (dN gj E.kg (aG (ag 1)) (dq (aG (ag 3)) bC)))))))))
abbrev sC:Stmt:=top 36
abbrev Kz:List Str:=["plain","mixed","names","bound","one"]
theorem Yv:aC Kz ["plain","mixed","names","bound"] (ae sC):=by walk_at "5"
def S6(b9:bf)(cc:bf)(fX:bf)(eI:bf):b5:=(ck (dt (v9 (bq neT (aX (fB fM (bT (aX (gG (cF b9) (ak [] (af 0)) (gF (ak [] (af 3)) dk))) eM))) (aX (fB fM (bT (aX (gG (cF b9) (ak [] (af 1)) (gF (ak [] (af 3)) dk))) eM)))) (bq neT (h8 (xV (aX (gG (cF cc) (ak [] (af 0)) dk)) (tK (bz (ak [] (bg (.int 0))) tN))) (bg (.int 0))) (h8 (xV (aX (gG (cF cc) (ak [] (af 1)) dk)) (tK (bz (ak [] (bg (.int 0))) tN))) (bg (.int 0))))) (fC [] (oX (bg (.bl false)))) mw) (ck (oV 2 (gB 4) (ck (dt (bq neT (aX (gG (cF fX) (ak [] (af 0)) (gF (ak [] (af 4)) dk))) (aX (gG (cF fX) (ak [] (af 1)) (gF (ak [] (f9 (af 2) (af 4))) dk)))) (fC [] (oX (bg (.bl false)))) mw) (dt (bq neT (h8 (xV (aX (gG (cF eI) (ak [] (af 0)) (gF (ak [] (af 4)) dk))) (tK (bz (ak [] (bg (.int 0))) tN))) (bg (.int 0))) (h8 (xV (aX (gG (cF eI) (ak [] (af 1)) (gF (ak [] (f9 (af 2) (af 4))) dk))) (tK (bz (ak [] (bg (.int 0))) tN))) (bg (.int 0)))) (fC [] (oX (bg (.bl false)))) mw))) (fC [] (oX (bg (.bl true))))))
theorem aan(E:Gl G){b9:bf}(gj:cg G k "near" (cF b9)){cc:bf}(gk:cg G k "two" (cF cc)){fX:bf}(yB:cg G k "point" (cF fX)){eI:bf}(uY:cg G k "nearest" (cF eI)):dy G k ⟨Kz,(ae sC).names,[],false,false,false,λ_ _=>False⟩ (aq sC) (S6 b9 cc fX eI):=(az (e9 (Rp (Fc (bD my (bx (d4 f_len E.z_len (aQ (bx (dN gj E.kg (aG (ag 0)) (dq (aG (ag 3)) bC))) bK) (by decide +kernel))) (bx (d4 f_len E.z_len (aQ (bx (dN gj E.kg (aG (ag 1)) (dq (aG (ag 3)) bC))) bK) (by decide +kernel)))) (vJ (bD my (cZ (zj (bx (dM gk E.kg (aG (ag 0)))) (eE (ao (aG aB) aE))) aB) (cZ (zj (bx (dM gk E.kg (aG (ag 1)))) (eE (ao (aG aB) aE))) aB))))) (aL (bR (mG so))) cQ) (az (IG 2 (bG 4 (hn:=by first|decide|exact of_decide_eq_true rfl)) (az (e9 (bD my (bx (dN yB E.kg (aG (ag 0)) (dq (aG (ag 4)) bC))) (bx (dN yB E.kg (aG (ag 1)) (dq (aG (eR (ag 2) (ag 4))) bC)))) (aL (bR (mG so))) cQ) (aL (e9 (bD my (cZ (zj (bx (dN uY E.kg (aG (ag 0)) (dq (aG (ag 4)) bC))) (eE (ao (aG aB) aE))) aB) (cZ (zj (bx (dN uY E.kg (aG (ag 1)) (dq (aG (eR (ag 2) (ag 4))) bC))) (eE (ao (aG aB) aE))) aB)) (aL (bR (mG so))) cQ)))) (aL (bR (mG so)))))
abbrev ku:Stmt:=top 37
abbrev Bz:List Str:=["pot","way","count","plain","bent","mixed","fourth","afresh","own","names","turn","left","order","others","bound","name"]
theorem RN:aC Bz ["pot","way","count"] (ae ku):=by walk_at "5"
def FW(qy:Gw)(bc:jv)(tD:jv)(sZ:iU)(dj:iU)(bA:bf)(tB:bf)(zq:bf)(cc:bf)(b9:bf):b5:=(ck (SU [0] 3 4 5 [none,some 1,some 2] (gB 0) (Y2 qy (bz (ak [] (af 1)) (bz (ak [] (af 2)) tN)))) (ck (gw [0] 6 (Y2 qy (bz (ak [0] (h8 (aX (Fw (bz (ak [0] (bg (.str "streets"))) (bz (ak [0] (bg (.str "squares"))) tN)))) (aX (fB DW (bT (bV (bq eqT (af 1) (bg (.str "streets")))) eM))))) (bz (ak [0] (af 2)) tN)))) (ck (gw [0] 7 (Y2 qy (bz (ak [0] (h8 (aX (Fw (bz (ak [0] (bg (.str "streets"))) (bz (ak [0] (bg (.str "squares"))) tN)))) (aX (fB DW (bT (bV (bq eqT (af 1) (bg (.str "streets")))) eM))))) (bz (ak [0] (af 2)) tN)))) (ck (gw [0] 8 IV) (ck (gw [0] 9 IV) (ck (h7 (su (bT (aX (gA bc 0 (bz (ak [0] (bg (.int 13))) tN))) eM)) (gB 10) (ck (Fv 8 (af 10) (ak [0] (aX (T1 (muI tD) (YT 0 (gF (ak [0] (af 2)) (IQ 8 dk))))))) (ck (dt (bq eqT (aX (gA bc 0 (bz (ak [0] (bg (.int 2))) tN))) (bg (.int 0))) (mv (T1 sZ (YT 0 (YT 4 (gF (ak [0] (af 2)) dk))))) mw) (ck (Fv 9 (aX (AZ dj 3 (gF (ak [0] (f9 (eW 8) (af 10))) dk))) (ak [0] (aX (AZ dj 4 (gF (ak [0] (f9 (eW 8) (af 10))) dk))))) (ck (mv (AZ dj 6 (gF (ak [0] (f9 (eW 8) (af 10))) dk))) (mv (SJ (Fy (cF bA) 3 dk) (ak [0] (bg (.int 5)))))))))) (ck (gw [0] 11 (fB hX (bT (eW 8) eM))) (ck (gw [0] 12 (hZ [0] [none,some 11,some 0] 0 2 11 1 (su (bT (aX (fB D9 (bT (eW 8) eM))) eM)) (gB 0) cR (ak [2,1] (aX (SX (af 1) (ak [2,1] (aX (gA bc 2 (bz (ak [2,1] (aX (fB fM (bT (af 1) eM)))) tN))))))))) (ck (gw [0] 13 (SM (mW [0] [none,some 5,some 8] 5 1 [8] (dg (ak [0] (af 12))) (gB 0) (ak [] (tK (bz (ak [] (af 0)) (bz (ak [] (aX (AZ dj 1 (gF (ak [] (f9 (eW 2) (af 0))) dk)))) tN))))))) (ck (gw [0] 14 (oX (h8 (aX (Fw (bz (ak [0] (bg (.int 0))) (bz (ak [0] (bg (.int 2))) (bz (ak [0] (bg (.int 10))) (bz (ak [0] (aX (bP rY (bg (.int 10)) (bg (.int 15))))) (bz (ak [0] (aX (bP pA (aX (bP rY (bg (.int 10)) (bg (.int 34)))) (bg (.int 1))))) tN))))))) (aX (gA bc 0 (bz (ak [0] (bg (.int 5))) tN)))))) (ck (dt (v9 (v8 (FA (aX (T1 (cF tB) (IQ 3 (IQ 4 (IQ 9 (gF (ak [0] (af 14)) dk)))))))) (v8 (FA (aX (T1 (cF zq) (IQ 3 (IQ 5 (IQ 13 (gF (ak [0] (af 14)) dk))))))))) (fC [0] (oX (bg (.bl false)))) mw) (ck (h7 (dg (ak [0] (aX (fB hX (bT (eW 8) eM))))) (gB 15) (mv (AZ dj 7 (gF (ak [0] (f9 (eW 8) (af 15))) dk)))) (fC [0] (oX (bV (qz (zx (bV (bq eqT (aX (Fw (bz (ak [0] (aX (Fy (cF cc) 6 dk))) (bz (ak [0] (aX (Fy (cF b9) 6 (gF (ak [0] (af 14)) dk)))) tN)))) (aX (Fw (bz (ak [0] (aX (Fy (cF cc) 7 dk))) (bz (ak [0] (aX (Fy (cF b9) 7 (gF (ak [0] (af 14)) dk)))) tN))))))) (zx (bV (bq eqT (aX (Fy (cF bA) 3 dk)) (aX (fB hX (bT (eW 8) eM))))))))))))))))))))))
theorem Vv(E:Gl G){qy:Gw}(DK:wB G k qy){bc:jv}(cB:fH G k "_law_next" bc){tD:jv}(DG:fH G k "_law_point" tD){sZ:iU}(Dz:qG G k "_law_detour" sZ){dj:iU}(gU:cg G k "put" dj){bA:bf}(df:cg G k "names" (cF bA)){tB:bf}(DF:d5 G k "_law_alike" tB){zq:bf}(Nt:d5 G k "_law_mixed_right" zq){cc:bf}(gk:cg G k "two" (cF cc)){b9:bf}(gj:cg G k "near" (cF b9)):dy G k ⟨Bz,(ae ku).names,[0],false,false,false,λ_ _=>False⟩ (aq ku) (FW qy bc tD sZ dj bA tB zq cc b9):=(az (Yr 3 4 5 (N':=["k","way","count"]) ⟨rfl,by walk_at "6",by walk_at "6",by walk_at "6",by walk_at "6",rfl,by walk_at "6"⟩ (bG 0 (hn:=by first|decide|exact of_decide_eq_true rfl)) (xC DK (ao (aG (ag 1)) (ao (aG (ag 2)) aE))) E.z_range) (az (cM 6 (xC DK (ao (aG (cZ (bx (mh (ao (aG ml) (ao (aG ml) aE)))) (bx (E5 f_int E.z_int (aQ (vH qO (ag 1) ml) bK) (by decide +kernel))))) (ao (aG (ag 2)) aE)))) (az (cM 7 (xC DK (ao (aG (cZ (bx (mh (ao (aG ml) (ao (aG ml) aE)))) (bx (E5 f_int E.z_int (aQ (vH qO (ag 1) ml) bK) (by decide +kernel))))) (ao (aG (ag 2)) aE)))) (az (cM 8 zh) (az (cM 9 zh) (az (vU (k6 (aQ (bx (bS cB (ag 0) (ao (aG aB) aE))) bK) E.z_range) (bG 10 (hn:=by first|decide|exact of_decide_eq_true rfl)) (az (zl 8 (aG (bx (mR DG.mu (Lp 0 (dq (aG (ag 2)) (wK 8 bC)))))) (ag 10) (vK 8)) (az (e9 (bD qO (bx (bS cB (ag 0) (ao (aG aB) aE))) aB) (aL (bZ (mR Dz (Lp 0 (Lp 4 (dq (aG (ag 2)) bC)))))) cQ) (az (zl 9 (aG (bx (dP false 4 gU E.kg (dq (aG (eR (eF 8) (ag 10))) bC)))) (bx (dP false 3 gU E.kg (dq (aG (eR (eF 8) (ag 10))) bC))) (vK 9)) (az (bZ (dP false 6 gU E.kg (dq (aG (eR (eF 8) (ag 10))) bC))) (aL (bZ (AO (sr true 3 df E.kg) (aG aB))))))))) (az (cM 11 (d4 gS E.z_sorted (aQ (eF 8) bK) (by decide +kernel))) (az (AU 12 0 2 11 1 (N':=["k","left","pot"]) (k6 (aQ (bx (d4 Dh E.z_len (aQ (eF 8) bK) (by decide +kernel))) bK) E.z_range) ⟨rfl,by walk_at "6",by walk_at "6",by walk_at "6",by walk_at "6",rfl,by walk_at "6"⟩ (bG 0 (hn:=by first|decide|exact of_decide_eq_true rfl)) gP (aG (bx (Iz (ag 1) (aG (bx (bS cB (ag 2) (ao (aG (bx (d4 f_len E.z_len (aQ (ag 1) bK) (by decide +kernel)))) aE)))))))) (az (cM 13 (Iv (E7 5 1 [8] (N':=["name","mixed","own"]) (gW (aG (ag 12))) ⟨rfl,by walk_at "6",by walk_at "6",by walk_at "6",by walk_at "6",rfl,by walk_at "6"⟩ (bG 0 (hn:=by first|decide|exact of_decide_eq_true rfl)) (aG (eE (ao (aG (ag 0)) (ao (aG (bx (dP false 1 gU E.kg (dq (aG (eR (eF 2) (ag 0))) bC)))) aE))))) E.z_dict)) (az (cM 14 (mG (cZ (bx (mh (ao (aG aB) (ao (aG aB) (ao (aG aB) (ao (aG (bx (oo aB aB))) (ao (aG (bx (mn (bx (oo aB aB)) aB))) aE))))))) (bx (bS cB (ag 0) (ao (aG aB) aE)))))) (az (e9 (Rp (Fc (xD (xE (bx (mR DF.mu (wK 3 (wK 4 (wK 9 (dq (aG (ag 14)) bC)))))))) (vJ (xD (xE (bx (mR Nt.mu (wK 3 (wK 5 (wK 13 (dq (aG (ag 14)) bC))))))))))) (aL (bR (mG so))) cQ) (az (vU (gW (aG (bx (d4 gS E.z_sorted (aQ (eF 8) bK) (by decide +kernel))))) (bG 15 (hn:=by first|decide|exact of_decide_eq_true rfl)) (aL (bZ (dP false 7 gU E.kg (dq (aG (eR (eF 8) (ag 15))) bC))))) (aL (bR (mG (abh (v_and (Y9 (vH qO (bx (mh (ao (aG (bx (sr true 6 gk E.kg))) (ao (aG (bx (dP true 6 gj E.kg (dq (aG (ag 14)) bC)))) aE)))) (bx (mh (ao (aG (bx (sr true 7 gk E.kg))) (ao (aG (bx (dP true 7 gj E.kg (dq (aG (ag 14)) bC)))) aE)))))) (Za (Y9 (vH qO (bx (sr true 3 df E.kg)) (bx (d4 gS E.z_sorted (aQ (eF 8) bK) (by decide +kernel)))))))))))))))))))))))
abbrev gv:Stmt:=top 38
abbrev BH:List Str:=["script","pot"]
theorem RW:aC BH ["script"] (ae gv):=by walk_at "5"
def F9(tE:jv)(tF:jv)(bc:jv):b5:=(ck (zy (bz (ak [] (aX (Fz (af 0) T3 (T4 (bg (.int 3)))))) tN) (Rg 1) (dt (v8 (FA (aX (gA tE 1 (bz (ak [] (aX (gA tF 1 tN))) (bz (ak [] (aX (bP i9 (bg (.int 1)) (aX (gA bc 1 (bz (ak [] (bg (.int 3))) tN)))))) tN)))))) (fC [] (oX (bg (.bl false)))) mw)) (fC [] (oX (bg (.bl true)))))
theorem VD(E:Gl G)(DI:gK G k "_law_pots"){tE:jv}(DH:fH G k "_law_right" tE){tF:jv}(DJ:fH G k "_law_way" tF){bc:jv}(cB:fH G k "_law_next" bc):dy G k ⟨BH,(ae gv).names,[],false,false,false,λ_ _=>False⟩ (aq gv) (F9 tE tF bc):=(az (Rr 1 DI (ao (aG (bx (Yk (ag 0) xr (xt aB)))) aE) (aL (e9 (xD (xE (bx (bS DH (ag 1) (ao (aG (bx (bS DJ (ag 1) aE))) (ao (aG (bx (iZ aB (bx (bS cB (ag 1) (ao (aG aB) aE)))))) aE)))))) (aL (bR (mG so))) cQ))) (aL (bR (mG so))))
end
section
local macro_rules|`(tactic| walk_at "vx")=>`(tactic| ((try simp only[aR,bj,List.map_cons,List.map_nil,List.length_cons,List.length_nil,List.replicate_succ,List.replicate_zero,List.cons_append,List.nil_append,Nat.reduceAdd,Nat.reduceSub]);(try dsimp only[ck,Vc.SQ,mw,v7,dt,mv,fC,gw,Z7,IU,Lk,vf,aX,oX,Zv,oxV,kL,kM,ak,af,eW,bg,cS,kX,bP,i9,pA,nQ,xi,rY,TK,Hg,bq,bV,eqT,neT,NQ,OQ,leT,Zx,Zw,isNone,WN,Gd,FA,qz,v9,v8,zx,h8,T3,T4,Z3,Fz,slT,SY,tN,bz,Fw,tK,eM,bT,fB,fM,GR,yR,yS,DW,qg,lK,bE,mq,gB,Np,gC,Nq,dg,su,IB,h7,cR,eJ,jE,bU,gD,qj,Z4,S2,yv,Vc.WO,Vc.WQ,Vc.NW,Vc.NX,rJ,bj,DZ,vZ,gA,iI,ownAt,sumF,IX,xV,Kq,Ea,List.contains,List.elem,Nat.reduceBEq,Option.map_some,sP,SR,IV,f9,inI,HC,D9,IW,Fv,hX,T1,lM,dF,wH,bI,lr,yQ,noB,OY,El,d3,dk,gF,YT,IQ,gG,Fy,AZ,SN,T2,tKP,tKE,tKD,Z9,tKN,tKZ,Y2,SJ,SU,RX,SM,mW,zR,ZX,oV,tI,yp,yP,cE,kK,wx,gN,SX,Rc,hZ,aR,List.getElem?_cons_zero,List.getElem?_cons_succ,List.getElem?_nil,List.set_cons_zero,List.set_cons_succ,List.map_cons,List.map_nil,List.length_cons,List.length_nil,List.replicate_succ,List.replicate_zero,List.cons_append,List.nil_append,Nat.reduceAdd,Nat.reduceSub]);try simp only[List.append_nil,Nat.add_sub_cancel,Nat.zero_add,List.not_mem_nil,not_false_eq_true,true_and,and_true,decide_eq_true_eq,ite_true,ite_false,Bool.not_eq_true',decide_eq_false_iff_not,List.getElem?_cons_zero,List.getElem?_cons_succ]))
local macro_rules | `(tactic| symm) => `(tactic| walk_at "vx")
local macro_rules|`(tactic| walk_at "vc")=>`(tactic| repeat (refine And.intro (by first|assumption|decide|omega | (unfold kQ;omega) | (unfold aac;omega) | (unfold o7;omega)) ?_))
local macro_rules|`(tactic| walk_at "vg")=>`(tactic| simp only[gB,Nq,gC,Np,List.length_cons,List.length_nil,Nat.reduceAdd,Nat.zero_add,true_and,List.set_cons_zero,List.set_cons_succ,Int.zero_add])
local macro_rules|`(tactic| walk_at "vd")=>`(tactic| symm)
variable [KF]
def aK(b:Bool):Str:=if b=true then "squares" else "streets"
def dR(b:Bool):D:=.str (aK b)
def gE(p:List Int):D:=.tup (p.map D.int)
def Bd(p:List Int):Prop:=p.length<=3/\∀x∈p,-(2^60)<x/\x<2^60
def pd(x:Int):Int:=if x<0 then -x else x
def stepI(b:Bool)(x y:Int):Int:=if b=true then pd (x-y)*pd (x-y)else pd (x-y)
def eN(b:Bool)(p q:List Int):Int:=((p.zip q).map λxy=>stepI b xy.1 xy.2).sum
def oF:bf:=λds Q=>∃b p q,ds=[dR b,gE p,gE q]/\Bd p/\Bd q/\Q (.sh (.int (eN b p q)))
theorem tO(b:Bool):b7 8 (dR b)=true:=by cases b<;>decide +kernel
theorem n5:b7 8 (.str "streets")=true:=by decide +kernel
theorem xm:b7 8 (.str "squares")=true:=by decide +kernel
theorem ie(b:Bool):il (dR b) (.str "streets")=!b:=by cases b<;>decide +kernel
theorem we(b:Bool):il (dR b) (.str "squares")=b:=by cases b<;>decide +kernel
theorem sz:sizeLine=2^24:=rfl
theorem zG{p q:List Int}(h:Bd p):(p.zip q).length<=3:=by
 rw[List.length_zip];have:=h.1;omega
theorem yc{α:Type}(l:List α)(f:α->Int):(l.map λa=>D.int (f a)).all isInt=true:=by
 rw[List.all_map];exact List.all_eq_true.mpr λ_ _=>rfl
theorem nO{α:Type}(l:List α)(f:α->Int):(l.map λa=>D.int (f a)).map k8=l.map f:=by
 rw[List.map_map];rfl
theorem XM(ds:List D)(Q:B->Prop)(h:oF ds Q):FD {nx:=λ_=>Q (.sh .aW),rt:=λb _=>Q b} (aR Bh.length ds):=by
 obtain⟨b,p,q,rfl,hp,hq,h⟩:=h;unfold FD gE;symm;rw[Gj];refine dz (λp=>.tup [.int p.1,.int p.2]) (λxy:Int×Int=>D.int (pd (xy.1-xy.2))) _ (λxy hxy A ha=>?_) (by have:=zG (q:=q) hp;rw[sz];omega) ?_
 ·symm
  exact ha
 ·symm
  rw[ie];refine⟨⟨tO b,n5⟩,?_⟩;cases b with
  | false =>
   refine(if_pos rfl).mpr ?_;refine⟨yc _ _,?_⟩;rw[nO];exact h
  | true =>
   refine(if_neg ∅).mpr ?_
   rw[show(List.map (λxy:Int×Int=>D.int (pd (xy.1-xy.2))) (p.zip q))=(List.map (λxy:Int×Int=>(pd (xy.1-xy.2))) (p.zip q)).map D.int from by rw[List.map_map];rfl]
   refine dz D.int (λd:Int=>D.int (d*d)) _ (λd hd A ha=>?_) (by have:=zG (q:=q) hp;rw[sz,List.length_map];omega) ?_
   ·symm
    refine⟨?_,ha⟩;obtain⟨xy,hxy,rfl⟩:=List.mem_map.mp hd;have h1:=hp.2 _ (List.of_mem_zip hxy).1;have h2:=hq.2 _ (List.of_mem_zip hxy).2;unfold kQ pd;left
    split<;>omega
   ·symm
    refine⟨yc _ _,?_⟩;rw[nO,List.map_map];exact h
def Good(n:Nat)(pts:List (List Int)):Prop:=(1<=n/\n<=3)/\∀p∈pts,p.length=n/\∀x∈p,-(2^59)<x/\x<2^59
theorem Good.bd{n:Nat}{pts:List (List Int)}(g:Good n pts){p:List Int}(h:p∈pts):Bd p:=⟨by have:=(g.2 p h).1;have:=g.1.2;omega,λx hx=>by have:=(g.2 p h).2 x hx;omega⟩
theorem iB{n i a:Nat}(h:(List.range n)[i]?=some a):a=i/\i<n:=by
 have hi:i<n:=by
  have:=(List.getElem?_eq_some_iff.mp h).1
  rwa [List.length_range]at this
 rw[List.getElem?_range hi]at h;cases h;exact⟨rfl,hi⟩
def jr(pts:List (List Int)):D:=.lst (pts.map gE)
theorem jZ{pts:List (List Int)}{j:Nat}(h:j<pts.length):(pts.map gE)[j]?=some (gE (pts.getD j [])):=by
 rw[List.getElem?_map,List.getD_eq_getElem?_getD,List.getElem?_eq_getElem h];rfl
theorem getD_mem{pts:List (List Int)}{j:Nat}(h:j<pts.length):pts.getD j []∈pts:=by
 rw[List.getD_eq_getElem?_getD,List.getElem?_eq_getElem h];exact List.getElem_mem h
def Shape(n:Nat)(pts:List (List Int)):Prop:=(1<=n/\n<=3)/\∀p∈pts,p.length=n
theorem Good.shape{n:Nat}{pts:List (List Int)}(g:Good n pts):Shape n pts:=⟨g.1,λp hp=>(g.2 p hp).1⟩
def iG:bf:=λds Q=>∃c:Int,ds=[.int c]/\1<=c/\c<=3/\Q (.sh .aW)
theorem Er(ds:List D)(Q:B->Prop)(h:iG ds Q):FO {nx:=λ_=>Q (.sh .aW),rt:=λb _=>Q b} (aR Br.length ds):=by
 obtain⟨c,rfl,h1,h2,h⟩:=h;unfold FO;symm;rw[if_neg ⋯,if_neg ⋯]
 exact h
def sT:bf:=λds Q=>∃(p:List Int) (c:Int),ds=[gE p,.int c]/\(p.length:Int)=c/\Q (.sh .aW)
theorem XR(ds:List D)(Q:B->Prop)(h:sT ds Q):S3 {nx:=λ_=>Q (.sh .aW),rt:=λb _=>Q b} (aR Kw.length ds):=by
 obtain⟨p,c,rfl,rfl,h⟩:=h;unfold S3 gE;symm;rw[List.length_map];refine⟨⟨rfl,rfl⟩,?_⟩;have e:il (.int (p.length:Nat)) (.int (p.length:Nat))=true:=by simp [il]
 rw[if_neg (by rw[e];decide)]
 exact h
def sV:bf:=λds Q=>∃n pts,ds=[jr pts]/\Shape n pts/\Q (.sh .aW)
theorem Qx(ds:List D)(Q:B->Prop)(h:sV ds Q):FG iG sT {nx:=λ_=>Q (.sh .aW),rt:=λb _=>Q b} (aR Bj.length ds):=by
 obtain⟨n,pts,rfl,hg,h⟩:=h;unfold FG jr;symm;refine iu gE pts (λi σ=>∃x,σ=[some (.sh (.lst (pts.map gE))),x]) (λi p σ N' hx hI VZ=>?_) (λσ hI=>h) ⟨none,rfl⟩;obtain⟨x,rfl⟩:=hI;have hp:=hg.2 p (List.mem_of_getElem? hx);have h1:=hg.1;have h0:0<pts.length:=Nat.lt_of_le_of_lt (Nat.zero_le _) (List.getElem?_eq_some_iff.mp hx).1;have h00:=hg.2 _ (getD_mem h0);walk_at "vg";refine aw λN2 Af=>?_;rw[show gE p=.tup (p.map D.int)from rfl]
 symm;rw[List.length_map];refine⟨_,rfl,by omega,by omega,?_⟩
 symm;subst Af;symm;refine bH (n:=0) rfl (jZ h0) ?_;rw[show gE (pts.getD 0 [])=.tup ((pts.getD 0 []).map D.int)from rfl]
 symm;rw[List.length_map];refine⟨p,_,rfl,by rw[hp,h00],?_⟩
 exact VZ _ ⟨_,rfl⟩
def mU:bf:=λds Q=>∃b,ds=[dR b]/\Q (.sh .aW)
theorem Qy(ds:List D)(Q:B->Prop)(h:mU ds Q):F7 {nx:=λ_=>Q (.sh .aW),rt:=λb _=>Q b} (aR BF.length ds):=by
 obtain⟨b,rfl,h⟩:=h;unfold F7;symm;refine⟨⟨tO b,n5⟩,?_⟩;rw[ie];cases b with
 | false=>exact h
 | true =>
  refine(if_pos rfl).mpr ⟨⟨tO true,xm⟩,?_⟩;rw[we];exact h
def oI:bf:=λds Q=>∃n b pts,ds=[jr pts,dR b]/\Shape n pts/\Q (.sh .aW)
theorem XT(ds:List D)(Q:B->Prop)(h:oI ds Q):S4 sV mU {nx:=λ_=>Q (.sh .aW),rt:=λb _=>Q b} (aR Kx.length ds):=by
 obtain⟨n,b,pts,rfl,hg,h⟩:=h;unfold S4;symm;refine⟨n,pts,rfl,hg,?_⟩;symm;exact⟨b,rfl,h⟩
theorem G5(i:Int):il (.int i) (.int i)=true:=by simp [il]
theorem ip:∀p:List Int,pj (p.map D.int) (p.map D.int)=true
 | []=>rfl
 | x::p=>by
  show(il (.int x) (.int x)&&pj (p.map D.int) (p.map D.int))=true;rw[G5,ip p];rfl
def pairD(b:Bool)(pts:List (List Int))(i j:Nat):D:=.tup [.int (eN b (pts.getD i []) (pts.getD j [])),.int i,.int j]
def ju(b:Bool)(pts:List (List Int))(i m:Nat):List D:=(List.range m).map λt=>pairD b pts i (i+1+t)
def eS(b:Bool)(pts:List (List Int)):Nat->List D
 | 0=>[]
 | i+1=>eS b pts i++ju b pts i (pts.length-(i+1))
def di(b:Bool)(pts:List (List Int)):List D:=eS b pts pts.length
theorem vP(b:Bool)(pts:List (List Int))(i m:Nat):(ju b pts i m).length=m:=by unfold ju;rw[List.length_map,List.length_range]
theorem AR(b:Bool)(pts:List (List Int))(i m:Nat):ju b pts i (m+1)=ju b pts i m++[pairD b pts i (i+1+m)]:=by unfold ju;rw[List.range_succ,List.map_append];rfl
theorem qv(b:Bool)(pts:List (List Int)):∀i,(eS b pts i).length<=i*pts.length
 | 0=>Nat.zero_le _
 | i+1=>by
  have ih:=qv b pts i;show(eS b pts i++ju b pts i (pts.length-(i+1))).length<=_;rw[List.length_append,vP,Nat.succ_mul];omega
theorem zk{b:Bool}{pts:List (List Int)}{i:Nat}(hl:pts.length<=1000)(hi:i<=pts.length):(eS b pts i).length<=1000000:=
 Nat.le_trans (qv b pts i) (Nat.mul_le_mul (show i<=1000 by omega) hl)
theorem n8{b:Bool}{pts:List (List Int)}(hl:pts.length<=1000):(di b pts).length<=1000000:=zk hl (Nat.le_refl _)
theorem vR{b:Bool}{pts:List (List Int)}:∀ {i:Nat} {d:D},d∈eS b pts i->∃p q,p<i/\p<q/\(i<=pts.length->q<pts.length)/\d=pairD b pts p q
 | i+1,d,h=>by
  rcases List.mem_append.mp (show d∈eS b pts i++ju b pts i (pts.length-(i+1))from h)with h|h
  ·obtain⟨p,q,h1,h2,h3,h4⟩:=vR h
   exact⟨p,q,by omega,h2,λz=>h3 ⋯,h4⟩
  ·obtain⟨t,ht,rfl⟩:=List.mem_map.mp h
   have ht:=List.mem_range.mp ht;exact⟨i,i+1+t,by omega,by omega,λz=>by omega,rfl⟩
theorem d8{b:Bool}{pts:List (List Int)}{d:D}(h:d∈di b pts):∃p q,p<q/\q<pts.length/\d=pairD b pts p q:=by
 obtain⟨p,q,h1,h2,h3,h4⟩:=vR h;exact⟨p,q,h2,h3 (Nat.le_refl _),h4⟩
theorem xu(b:Bool)(pts:List (List Int)):(di b pts).all uZ=true:=List.all_eq_true.mpr λd hd=>by
 obtain⟨p,q,_,_,rfl⟩:=d8 hd;rfl
def kH:bf:=λds Q=>∃b n pts,ds=[jr pts,dR b]/\Good n pts/\pts.length<=1000/\Q (.own (di b pts))
def tJ(sp:bf)(rest:b5):b5:=(ck (gw [] 2 (Fw tN)) (ck (h7 (su (bT (aX (fB fM (bT (af 0) eM))) eM)) (gB 3) (h7 (IB (bT (aX (bP i9 (af 3) (bg (.int 1)))) (bT (aX (fB fM (bT (af 0) eM))) eM))) (gB 4) (mv (IU (af 2) (ak [] (tK (bz (ak [] (aX (mq sp (bz (ak [] (af 1)) (bz (ak [] (h8 (af 0) (af 3))) (bz (ak [] (h8 (af 0) (af 4))) tN)))))) (bz (ak [] (af 3)) (bz (ak [] (af 4)) tN))))))))) rest))
theorem Et{b:Bool}{n:Nat}{pts:List (List Int)}{rest:b5}{De:gJ}(hg:Good n pts)(hl:pts.length<=1000)(h:∀x3 x4,rest De [some (.sh (jr pts)),some (.sh (dR b)),some (.own (di b pts)),x3,x4]):
  tJ oF rest De [some (.sh (jr pts)),some (.sh (dR b)),none,none,none]:=by
 unfold tJ;refine aw λN hN=>?_;symm;refine⟨by decide,?_⟩
 subst hN;refine aw λN hN=>?_;rw[show jr pts=.lst (pts.map gE)from rfl]
 symm;rw[List.length_map,Int.toNat_natCast,eG];refine⟨by omega,iu (λi:Nat=>.int (0+(i:Nat))) (List.range pts.length) (λi σ=>∃x3 x4,σ=[some (.sh (.lst (pts.map gE))),some (.sh (dR b)),some (.own (eS b pts i)),x3,x4]) (λi a σ N' hx hI VZ=>?_) (λσ hI=>?_) ⟨none,none,rfl⟩⟩
 ·obtain⟨rfl,hi⟩:=iB hx
  obtain⟨x3,x4,rfl⟩:=hI;walk_at "vg";symm;rw[List.length_map,eG];refine⟨by omega,?_⟩
  rw[show((pts.length:Int)-((a:Int)+1)).toNat=pts.length-(a+1)by omega]
  refine iu (λt:Nat=>.int ((a:Int)+1+(t:Nat))) (List.range (pts.length-(a+1))) (λm σ=>∃x4,σ=[some (.sh (.lst (pts.map gE))),some (.sh (dR b)),some (.own (eS b pts a++ju b pts a m)),some (.sh (.int a)),x4]) (λm t σ N2 yJ hI2 Af=>?_) (λσ hI2=>?_) ⟨x4,by rw[show ju b pts a 0=[]from rfl,List.append_nil]⟩
  ·obtain⟨rfl,ht⟩:=iB yJ
   obtain⟨x4,rfl⟩:=hI2;symm;have hj:a+1+t<pts.length:=by omega
   refine⟨⟨_,rfl⟩,?_⟩;refine bH (n:=a) rfl (jZ hi) ?_;refine bH (n:=a+1+t) ⋯ (jZ hj) ?_
   symm;refine⟨b,_,_,rfl,hg.bd (getD_mem hi),hg.bd (getD_mem hj),?_⟩;symm;have hz:=zk (b:=b) hl (show a<=pts.length by omega)
   refine⟨by decide,by rw[sz,List.length_append,vP];omega,Af _ ⟨some (.sh (.int ((a:Int)+1+(t:Int)))),?_⟩⟩
   rw[AR,List.append_assoc];unfold pairD;rw[show((a+1+t:Nat):Int)=(a:Int)+1+(t:Int)by omega]
  ·obtain⟨x4,rfl⟩:=hI2
   rw[List.length_range];exact VZ _ ⟨some (.sh (.int a)),x4,rfl⟩
 ·obtain⟨x3,x4,rfl⟩:=hI
  subst hN;rw[List.length_range];exact h x3 x4
theorem HW(ds:List D)(Q:B->Prop)(h:kH ds Q):Y7 oF {nx:=λ_=>Q (.sh .aW),rt:=λb _=>Q b} (aR KA.length ds):=by
 obtain⟨b,n,pts,rfl,hg,hl,h⟩:=h;exact Et hg hl λx3 x4=>by symm;exact h
theorem zM{xs:List D}(h:xs.all uZ=true):jy xs=(vV xs).head?:=by
 have key:∀(l:List D) (b:D),(∀x∈l,uZ x=true)->uZ b=true->∃m,l.foldl (λb y=>if ltI y b=true then y else b) b=m/\(m=b\/m∈l)/\uZ m=true/\rP m b=true/\∀x∈l,rP m x=true:=by
  intro l
  induction l with
  | nil=>intro b _ hb;exact⟨b,rfl,.inl rfl,hb,by unfold rP;rw[Vs.fh];rfl,λx hx=>by cases hx⟩
  | cons y l ih =>
   intro b hl hb;have hy:=hl y (List.mem_cons_self ..);have lt:ltI y b=HT.lexLt (gY y) (gY b):=by
    rw[mM hy,mM hb];rfl
   rw[List.foldl_cons]
   by_cases e:ltI y b=true
   ·rw[if_pos e]
    obtain⟨m,m1,m2,m3,m4,m5⟩:=ih y (λx hx=>hl x (List.mem_cons_of_mem _ hx)) hy;refine⟨m,m1,?_,m3,?_,λx hx=>?_⟩
    ·rcases m2 with rfl|m2
     ·exact .inr (List.mem_cons_self ..)
     ·exact .inr (List.mem_cons_of_mem _ m2)
    ·refine lh m y b m4 ?_
     unfold rP;rw[lt]at e;cases e2:HT.lexLt (gY b) (gY y)with
     | false=>rfl
     | true=>have:=Vs.jP _ _ _ e e2;rw[Vs.fh]at this;cases this
    ·rcases List.mem_cons.mp hx with rfl|hx
     ·exact m4
     ·exact m5 x hx
   ·rw[if_neg e]
    obtain⟨m,m1,m2,m3,m4,m5⟩:=ih b (λx hx=>hl x (List.mem_cons_of_mem _ hx)) hb;refine⟨m,m1,?_,m3,m4,λx hx=>?_⟩
    ·rcases m2 with rfl|m2
     ·exact .inl rfl
     ·exact .inr (List.mem_cons_of_mem _ m2)
    ·rcases List.mem_cons.mp hx with rfl|hx
     ·refine lh m b x m4 ?_
      unfold rP;rw[lt]at e;simpa using e
     ·exact m5 x hx
 have hp:=oA xs;have hs:=sN xs;cases xs with
 | nil=>rw[List.perm_nil.mp hp];rfl
 | cons x xs =>
  have all:=List.all_eq_true.mp h;obtain⟨m,m1,m2,m3,m4,m5⟩:=key xs x (λy hy=>all y (List.mem_cons_of_mem _ hy)) (all x (List.mem_cons_self ..));have hm:m∈x::xs:=by rcases m2 with rfl|m2;exact List.mem_cons_self ..;exact List.mem_cons_of_mem _ m2
  have Nx:∀y∈x::xs,rP m y=true:=λy hy=>by
   rcases List.mem_cons.mp hy with rfl|hy
   ·exact m4
   ·exact m5 y hy
  show some _=_;rw[m1];cases e:vV (x::xs)with
  | nil=>rw[e]at hp;exact absurd hp.length_eq (by simp)
  | cons a l =>
   rw[e]at hp hs;have ha:a∈x::xs:=hp.mem_iff.mp (List.mem_cons_self ..);have h1:=Nx a ha;have h2:rP a m=true:=by
    rcases List.mem_cons.mp (hp.mem_iff.mpr hm)with rfl|hm
    ·unfold rP;rw[Vs.fh];rfl
    ·exact(List.pairwise_cons.mp hs).1 m hm
   unfold rP at h1 h2;simp only[Bool.not_eq_true']at h1 h2;show some m=some a;rw[mM m3,mM (all a ha),Vs.xc _ _ h2 h1]
def cW(xs:List D):Prop:=∃c n:Int,xs=[.int c,.int n]
def fV:jv:=λxs ds Q=>cW xs/\∃m:Int,ds=[.int m]/\1<=m/\m<2^200/\∀r ys,0<=r->r<m->cW ys->Q (.sh (.int r)) ys
theorem Qw(xs ds:List D)(Q:B->List D->Prop)(h:fV xs ds Q):FZ {nx:=rJ Q (.sh .aW),rt:=λb σ=>rJ Q b σ} (bj BE.length xs ds):=by
 obtain⟨⟨x,y,rfl⟩,m,rfl,hm,hm2,h⟩:=h;unfold FZ;refine aw λN hN=>?_;simp only[bj];symm;refine⟨⟨_,rfl⟩,?_⟩;subst hN;refine aw λN hN=>?_;symm;subst hN;refine aw λN hN=>?_;symm;refine⟨by unfold o7;decide,?_⟩
 split
 ·refine⟨by unfold x8;omega,⟨_,rfl⟩,by omega,?_⟩
  exact h _ _ (Int.emod_nonneg _ ⋯) (Int.emod_lt_of_pos _ ⋯) ⟨_,_,rfl⟩
 ·subst hN
  symm;refine⟨by unfold kQ;omega,by unfold kQ;omega,by decide,by unfold kQ;omega,by decide,by unfold kQ;omega,by unfold kQ;omega,by decide,by unfold x8;decide,by omega,?_⟩
  exact h _ _ (Int.emod_nonneg _ ⋯) (Int.emod_lt_of_pos _ ⋯) ⟨_,_,rfl⟩
def sW:jv:=λxs ds Q=>cW xs/\ds=[]/\∀b ys,cW ys->Q (.sh (dR b)) ys
theorem Qz(xs ds:List D)(Q:B->List D->Prop)(h:sW xs ds Q):F8 fV {nx:=rJ Q (.sh .aW),rt:=λb σ=>rJ Q b σ} (bj BG.length xs ds):=by
 obtain⟨r0,rfl,h⟩:=h;unfold F8;simp only[bj];symm;refine⟨by decide,⟨_,rfl⟩,r0,2,rfl,by decide,by decide,λr ys h0 h1 r1=>?_⟩
 symm;refine nF h0 (by simp only[List.length_cons,List.length_nil];omega) λd hd=>?_
 simp only[List.mem_cons,List.not_mem_nil,or_false]at hd;rcases hd with rfl|rfl
 ·exact h false ys r1
 ·exact h true ys r1
def Be(v:Int):Prop:=-(10^15)<=v/\v<=10^15
def oW(b:Bool)(pts:List (List Int)):D:=(jy (di b pts)).getD .aW
def xS:bf:=λds Q=>∃b n pts,ds=[jr pts,dR b]/\Good n pts/\pts.length<=1000/\Q (.sh (oW b pts))
theorem XX(ds:List D)(Q:B->Prop)(h:xS ds Q):FE oI kH {nx:=λ_=>Q (.sh .aW),rt:=λb _=>Q b} (aR Bi.length ds):=by
 obtain⟨b,n,pts,rfl,hg,hl,h⟩:=h;unfold FE;refine aw λN hN=>?_;symm;refine⟨n,b,pts,rfl,hg.shape,?_⟩;symm;subst hN;symm;refine⟨b,n,pts,rfl,hg,hl,?_⟩;symm;refine⟨.inr (List.all_eq_true.mpr λd hd=>?_),h⟩;obtain⟨p,q,_,_,rfl⟩:=d8 hd;rfl
def iW(b:Bool)(pts:List (List Int))(p:List Int)(j:Nat):D:=.tup [.int (eN b p (pts.getD j [])),.int j]
def yi(b:Bool)(pts:List (List Int))(p:List Int)(js:List Nat):D:=(jy (js.map (iW b pts p))).getD .aW
def oE:bf:=λds Q=>∃b n pts p js,ds=[jr pts,dR b,gE p,.lst (js.map λj:Nat=>.int j)]/\Good n pts/\Bd p/\js.length<=1000/\(∀j∈js,j<pts.length)/\Q (.sh (yi b pts p js))
theorem HQ(ds:List D)(Q:B->Prop)(h:oE ds Q):S9 oF {nx:=λ_=>Q (.sh .aW),rt:=λb _=>Q b} (aR KH.length ds):=by
 obtain⟨b,n,pts,p,js,rfl,hg,hp,hl,hj,h⟩:=h;unfold S9 jr;symm;refine dz (λj:Nat=>.int j) (iW b pts p) js (λj hm A ha=>?_) (by rw[sz];omega) ?_
 ·symm
  refine bH (n:=j) rfl (jZ (hj j hm)) ?_;symm;refine⟨b,p,_,rfl,hp,hg.bd (getD_mem (hj j hm)),?_⟩;symm;exact⟨by decide,ha⟩
 ·symm
  refine⟨.inr ?_,h⟩;rw[List.all_map];exact List.all_eq_true.mpr λ_ _=>rfl
def others(n:Nat)(j:Int):List Nat:=(List.range n).filter λi=>decide ((i:Int)≠j)
def dU(b:Bool)(pts:List (List Int))(j:Nat):D:=yi b pts (pts.getD j []) (others pts.length j)
theorem kY{α β:Type}(p:α->Bool)(f:α->β):∀l:List α,l.filterMap (λa=>if p a=true then some (f a)else none)=(l.filter p).map f
 | []=>rfl
 | a::l=>by
  cases e:p a with
  | true=>rw[List.filterMap_cons_some (by rw[e];rfl),List.filter_cons_of_pos e,List.map_cons,kY p f l]
  | false=>rw[List.filterMap_cons_none (by rw[e];rfl),List.filter_cons_of_neg (by rw[e];decide),kY p f l]
theorem ql{n i:Nat}{j:Int}(h:i∈others n j):i<n:=List.mem_range.mp (List.mem_filter.mp h).1
theorem xo(n:Nat)(j:Int):(others n j).length<=n:=by
 have:=List.length_filter_le (λi:Nat=>decide ((i:Int)≠j)) (List.range n);rw[List.length_range]at this;exact this
def fy:bf:=λds Q=>∃b n pts j,ds=[jr pts,dR b,.int (j:Nat)]/\Good n pts/\pts.length<=1000/\j<pts.length/\Q (.sh (dU b pts j))
theorem HV(ds:List D)(Q:B->Prop)(h:fy ds Q):Ta oE {nx:=λ_=>Q (.sh .aW),rt:=λb _=>Q b} (aR KI.length ds):=by
 obtain⟨b,n,pts,j,rfl,hg,hl,hj,h⟩:=h;unfold Ta jr;refine aw λN hN=>?_;symm;rw[List.length_map,Int.toNat_natCast,eG];refine⟨by omega,jC (λi:Nat=>.int (0+(i:Nat))) (λi:Nat=>if decide ((i:Int)≠(j:Int))=true then some (.int (i:Nat))else none) _ (λi hm A Bn ha=>?_) (by rw[List.length_range,sz];omega) ?_⟩
 ·symm
  refine⟨⟨rfl,rfl⟩,?_⟩;rw[Int.zero_add]
  by_cases e:i=j
  ·subst e
   have e2:il (.int (i:Nat)) (.int (i:Nat))=true:=by simp [il]
   rw[if_neg (by rw[e2];decide)]
   rw[if_neg (by simp)]at ha
   exact ha
  ·have e2:il (.int (i:Nat)) (.int (j:Nat))=false:=by simp [il];omega
   rw[if_pos (by rw[e2])]
   rw[if_pos (decide_eq_true ⋯)]at ha
   exact ha
 ·rw[kY]
  symm;subst hN;symm;refine bH (n:=j) rfl (jZ hj) ?_;symm;exact⟨b,n,pts,_,others pts.length j,rfl,hg,hg.bd (getD_mem hj),by have:=xo pts.length j;omega,λi hi=>ql hi,h⟩
theorem qN(b:Bool)(pts:List (List Int))(p:List Int):∀js:List Nat,(js=[]/\yi b pts p js=.aW)\/∃k∈js,yi b pts p js=iW b pts p k
 | []=>.inl ⟨rfl,rfl⟩
 | j::js=>.inr (by
  show∃k∈j::js,(js.map (iW b pts p)).foldl (λb y=>if ltI y b=true then y else b) (iW b pts p j)=iW b pts p k
  have key:∀(rest:List Nat) (i:Nat),(∀x∈rest,x∈j::js)->i∈j::js->∃k∈j::js,(rest.map (iW b pts p)).foldl (λb y=>if ltI y b=true then y else b) (iW b pts p i)=iW b pts p k:=by
   intro rest
   induction rest with
   | nil=>intro i _ hi;exact⟨i,hi,rfl⟩
   | cons x rest ih =>
    intro i hr hi;rw[List.map_cons,List.foldl_cons]
    split
    ·exact ih x (λy hy=>hr y (List.mem_cons_of_mem _ hy)) (hr x (List.mem_cons_self ..))
    ·exact ih i (λy hy=>hr y (List.mem_cons_of_mem _ hy)) hi
  exact key js j (λx hx=>List.mem_cons_of_mem _ hx) (List.mem_cons_self ..))
def KL(n:Nat)(nn:Nat->Option (Int×Nat)):Prop:=∀i f k,i<n->nn i=some (f,k)->k<n/\(nn k).isSome=true
def ZZ:Option (Int×Nat)->D
 | none=>.aW
 | some p=>.tup [.int p.1,.int (p.2:Nat)]
theorem xq{n j k:Nat}(h:k∈others n (j:Int)):k≠j:=by
 have:=(List.mem_filter.mp h).2;have:=of_decide_eq_true this;omega
def Xb:D->Option (Int×Nat)
 | .tup [.int f,.int k]=>some (f,k.toNat)
 | _=>none
theorem Ek(o:Option (Int×Nat)):Xb (ZZ o)=o:=by
 cases o with
 | none=>rfl
 | some p=>show some (p.1,((p.2:Nat):Int).toNat)=some p;rw[Int.toNat_natCast]
def HE(b:Bool)(pts:List (List Int))(i:Nat):Option (Int×Nat):=Xb (dU b pts i)
theorem Hz(b:Bool)(pts:List (List Int)):(∀i,dU b pts i=ZZ (HE b pts i))/\KL pts.length (HE b pts):=by
 have h1:∀i,dU b pts i=ZZ (HE b pts i)/\(∀f k,HE b pts i=some (f,k)->k<pts.length/\k≠i)/\(HE b pts i=none->others pts.length (i:Int)=[]):=by
  intro i;have go:∀o,dU b pts i=ZZ o->HE b pts i=o:=λo e=>by unfold HE;rw[e,Ek]
  rcases qN b pts (pts.getD i []) (others pts.length (i:Int))with⟨h1,h2⟩|⟨k,h1,h2⟩
  ·have e:=go none h2
   rw[e];exact⟨h2,λf k e=>(by cases e),λ_=>h1⟩
  ·have e:=go (some (eN b (pts.getD i []) (pts.getD k []),k)) h2
   rw[e];exact⟨h2,λf k' e=>by cases e;exact⟨ql h1,xq h1⟩,λe=>by cases e⟩
 refine⟨λi=>(h1 i).1,λi f k hi e=>?_⟩;obtain⟨hk,cC⟩:=(h1 i).2.1 f k e;refine⟨hk,?_⟩;cases e2:HE b pts k with
 | some _=>rfl
 | none =>
  have:=(h1 k).2.2 e2;have hm:i∈others pts.length (k:Int):=List.mem_filter.mpr ⟨List.mem_range.mpr hi,decide_eq_true ⋯⟩
  rw[this]at hm;cases hm
def lH:bf:=λds Q=>∃pts j,ds=[jr pts,.int (j:Nat)]/\j<pts.length/\Q (.sh .aW)
theorem Es(ds:List D)(Q:B->Prop)(h:lH ds Q):FP {nx:=λ_=>Q (.sh .aW),rt:=λb _=>Q b} (aR Bs.length ds):=by
 obtain⟨pts,j,rfl,hj,h⟩:=h;unfold FP jr;symm;rw[List.length_map];rw[if_neg ⋯,if_neg ⋯]
 exact h
def Kt(t:Int×Nat×Nat):D:=.tup [.int t.1,.int (t.2.1:Nat),.int (t.2.2:Nat)]
theorem Ku{b:Bool}{pts:List (List Int)}:∀l:List D,(∀d∈l,∃i j,d=pairD b pts i j)->∃ts:List (Int×Nat×Nat),l=ts.map Kt
 | [],_=>⟨[],rfl⟩
 | d::l,h=>by
  obtain⟨i,j,rfl⟩:=h d (List.mem_cons_self ..);obtain⟨ts,e⟩:=Ku l λx hx=>h x (List.mem_cons_of_mem _ hx);exact⟨(_,i,j)::ts,by rw[e];rfl⟩
theorem vD(b:Bool)(pts:List (List Int)):∃ts:List (Int×Nat×Nat),di b pts=ts.map Kt:=Ku (b:=b) (pts:=pts) _ λd hd=>by
 obtain⟨p,q,_,_,h⟩:=d8 hd;exact⟨p,q,h⟩
def nearF(bound:Int):D->Option D
 | .tup [.int f,.int i,.int j]=>if f<=bound then some (.tup [.int i,.int j])else none
 | _=>none
theorem nR(bound:Int)(t:Int×Nat×Nat):nearF bound (Kt t)=if decide (t.1<=bound)=true then some (.tup [.int (t.2.1:Nat),.int (t.2.2:Nat)])else none:=by
 show(if t.1<=bound then _ else _)=_
 by_cases h:t.1<=bound
 ·rw[if_pos h,if_pos (decide_eq_true h)]
 ·rw[if_neg h,if_neg (by rw[decide_eq_false h];decide)]
def gu(b:Bool)(pts:List (List Int))(bound:Int):List D:=(di b pts).filterMap (nearF bound)
theorem Ei(b:Bool)(pts:List (List Int))(bound:Int):(gu b pts bound).length<=(di b pts).length:=List.length_filterMap_le _ _
def lF:bf:=λds Q=>∃j:Int,ds=[.int j]/\0<=j/\Q (.sh .aW)
theorem Ep(ds:List D)(Q:B->Prop)(h:lF ds Q):FN {nx:=λ_=>Q (.sh .aW),rt:=λb _=>Q b} (aR Bq.length ds):=by
 obtain⟨j,rfl,hj,h⟩:=h;unfold FN;symm;rw[if_neg ⋯]
 exact h
def sU:bf:=λds Q=>∃b n pts j,ds=[jr pts,dR b,.int j]/\Good n pts/\pts.length<=1000/\0<=j/\Q (.own (gu b pts j))
theorem Qv(ds:List D)(Q:B->Prop)(h:sU ds Q):FK oI lF kH {nx:=λ_=>Q (.sh .aW),rt:=λb _=>Q b} (aR Bo.length ds):=by
 obtain⟨b,n,pts,j,rfl,hg,hl,hj,h⟩:=h;unfold FK;refine aw λN hN=>?_;symm;refine⟨n,b,pts,rfl,hg.shape,?_⟩;symm;subst hN;refine aw λN hN=>?_;symm;refine⟨j,rfl,hj,?_⟩;symm;subst hN;symm;refine⟨b,n,pts,rfl,hg,hl,?_⟩;symm;have hz:=n8 (b:=b) hl;obtain⟨ts,e⟩:=vD b pts;unfold gu at h;rw[e]at h hz ⊢;rw[List.length_map]at hz;refine jC Kt (λt=>nearF j (Kt t)) ts (λt ht A Bn ha=>?_) (by rw[sz];omega) ?_
 ·rw[nR]at ha
  unfold Kt;symm
  by_cases hb:t.1<=j
  ·rw[if_pos (decide_eq_true hb)]at ha
   refine(if_pos hb).mpr ⟨by decide,ha⟩
  ·rw[if_neg (by rw[decide_eq_false hb];decide)]at ha
   exact(if_neg hb).mpr ha
 ·rw[List.filterMap_map]at h
  exact h
theorem yK{ls:List Int}{j:Nat}(h:j<ls.length):(ls.map D.int)[j]?=some (.int (ls.getD j 0)):=by
 rw[List.getElem?_map,List.getElem?_eq_getElem h,List.getD_eq_getElem?_getD,List.getElem?_eq_getElem h];rfl
theorem Ft(b:Bool)(x y:Int):stepI b y x=stepI b x y:=by
 have h:pd (y-x)=pd (x-y):=by unfold pd;split<;>split<;>omega
 unfold stepI;rw[h]
theorem pX(b:Bool)(x y:Int)(p q:List Int):eN b (x::p) (y::q)=stepI b x y+eN b p q:=rfl
theorem yu(b:Bool):∀p q:List Int,eN b q p=eN b p q
 | [],[]=>rfl
 | [],_::_=>rfl
 | _::_,[]=>rfl
 | x::p,y::q=>by rw[pX,pX,Ft,yu b p q]
def pY(b:Bool):List (List Int)->List Int
 | []=>[]
 | p::r=>r.map (eN b p)++pY b r
theorem uW(b:Bool){pts fc:List (List Int)}(h:pts.Perm fc):(pY b pts).Perm (pY b fc):=by
 induction h with
 | nil=>exact List.Perm.refl _
 | cons x h ih=>exact List.Perm.append (h.map _) ih
 | swap x y l =>
  show(eN b y x::l.map (eN b y)++(l.map (eN b x)++pY b l)).Perm (eN b x y::l.map (eN b x)++(l.map (eN b y)++pY b l));rw[yu b x y,List.cons_append,List.cons_append,<- List.append_assoc,<- List.append_assoc];exact(List.Perm.append_right _ List.perm_append_comm).cons _
 | trans _ _ h1 h2=>exact h1.trans h2
def dX:D->Int
 | .tup (.int f::_)=>f
 | _=>0
theorem vQ(b:Bool)(p:List Int)(r:List (List Int)):∀i,i<=r.length->(eS b (p::r) (i+1)).map dX=r.map (eN b p)++(eS b r i).map dX
 | 0,_=>by
  show([]++ju b (p::r) 0 ((p::r).length-1)).map dX=_;rw[List.nil_append];show _=r.map (eN b p)++[];rw[List.append_nil];unfold ju;rw[List.map_map];apply List.ext_getElem?;intro k;rw[List.getElem?_map,List.getElem?_map]
  by_cases hk:k<r.length
  ·rw[List.getElem?_range (by simpa using hk),List.getElem?_eq_getElem hk]
   show some (eN b p ((p::r).getD (0+1+k) []))=_;rw[show 0+1+k=k+1 by omega,List.getD_eq_getElem?_getD,List.getElem?_cons_succ,List.getElem?_eq_getElem hk];rfl
  ·rw[List.getElem?_eq_none (by simpa using hk),List.getElem?_eq_none (by simpa using hk)];rfl
 | i+1,hi=>by
  show(eS b (p::r) (i+1)++ju b (p::r) (i+1) ((p::r).length-(i+1+1))).map dX=_;rw[List.map_append,vQ b p r i ⋯]
  show _=_++(eS b r i++ju b r i (r.length-(i+1))).map dX;rw[List.map_append,List.append_assoc];congr 1;congr 1;unfold ju;rw[List.map_map,List.map_map,List.length_cons,show r.length+1-(i+1+1)=r.length-(i+1)by omega]
  refine List.map_congr_left λt _=>?_;show eN b ((p::r).getD (i+1) []) ((p::r).getD (i+1+1+t) [])=eN b (r.getD i []) (r.getD (i+1+t) []);rw[show i+1+1+t=(i+1+t)+1 by omega];rfl
theorem lx(b:Bool):∀pts:List (List Int),(di b pts).map dX=pY b pts
 | []=>rfl
 | p::r=>by
  show(eS b (p::r) (r.length+1)).map dX=_;rw[vQ b p r r.length (Nat.le_refl _)];show _++(di b r).map dX=_;rw[lx b r];rfl
theorem vv(b:Bool)(pts:List (List Int))(c:Int):(gu b pts c).length=(pY b pts).countP λf=>decide (f<=c):=by
 obtain⟨ts,e⟩:=vD b pts;rw[<- lx];unfold gu;rw[e];clear e
 induction ts with
 | nil=>rfl
 | cons t ts ih =>
  rw[List.map_cons,List.map_cons];show _=List.countP _ (t.1::(ts.map Kt).map dX);rw[List.countP_cons]
  by_cases h:t.1<=c
  ·rw[List.filterMap_cons_some (show nearF c (Kt t)=some _ by rw[nR,if_pos (decide_eq_true h)]),List.length_cons,ih,if_pos (decide_eq_true h)]
  ·rw[List.filterMap_cons_none (by rw[nR,if_neg (by simpa using h)]),ih,if_neg (by simpa using h)];rfl
theorem Aw(b:Bool){pts fc:List (List Int)}(h:pts.Perm fc)(c:Int):(gu b pts c).length=(gu b fc c).length:=by
 rw[vv,vv];exact(uW b h).countP_eq _
def WM:D->Prop
 | .tup (.int _::_)=>True
 | _=>False
theorem OO{x y:D}(hx:WM x)(hy:WM y)(tx:eX x=true)(ty:eX y=true):(ltI x y=true->dX x<=dX y)/\(ltI x y=false->dX y<=dX x):=by
 unfold WM at hx hy
 split at hx
 ·rename_i f r
  split at hy
  ·rename_i g s
   have e:ltI (.tup (.int f::r)) (.tup (.int g::s))=HT.lexLt (f::r.map k8) (g::s.map k8):=rfl;rw[e,HT.eA];show(_->f<=g)/\(_->g<=f)
   by_cases h:f=g
   ·subst h;exact⟨λ_=>Int.le_refl _,λ_=>Int.le_refl _⟩
   ·rw[if_neg h]
    exact⟨λz=>by have:=of_decide_eq_true z;omega,λz=>by have:=of_decide_eq_false z;omega⟩
  ·exact hy.elim
 ·exact hx.elim
theorem ji:∀(l:List D) (b:D),(∀x∈b::l,WM x/\eX x=true)->(∀x∈b::l,dX (l.foldl (λb y=>if ltI y b=true then y else b) b)<=dX x)/\l.foldl (λb y=>if ltI y b=true then y else b) b∈b::l
 | [],b,_=>⟨λx hx=>by rw[List.mem_singleton.mp hx];exact Int.le_refl _,.head _⟩
 | y::l,b,h=>by
  rw[List.foldl_cons];have hb:=h b (by simp)
  have hy:=h y (by simp)
  obtain⟨h1,h2⟩:=OO hy.1 hb.1 hy.2 hb.2
  by_cases e:ltI y b=true
  ·rw[if_pos e]
   obtain⟨i1,i2⟩:=ji l y λx hx=>h x (List.mem_cons_of_mem _ hx);refine⟨λx hx=>?_,List.mem_cons_of_mem _ i2⟩;rcases List.mem_cons.mp hx with rfl|hx
   ·exact Int.le_trans (i1 y (by simp)) (h1 e)
   ·exact i1 x hx
  ·rw[if_neg e]
   obtain⟨i1,i2⟩:=ji l b λx hx=>h x (by rcases List.mem_cons.mp hx with rfl|hx<;>simp [*])
   refine⟨λx hx=>?_,by rcases List.mem_cons.mp i2 with z|z<;>simp [z]⟩
   rcases List.mem_cons.mp hx with rfl|hx
   ·exact i1 _ (by simp)
   rcases List.mem_cons.mp hx with rfl|hx
   ·exact Int.le_trans (i1 b (by simp)) (h2 (by simpa using e))
   ·exact i1 x (by simp [hx])
def pG(l:List Int)(m:Int):Prop:=(l=[]/\m=0)\/(m∈l/\∀x∈l,m<=x)
theorem pG.uniq{l k:List Int}{m n:Int}(h:pG l m)(g:pG k n)(p:l.Perm k):m=n:=by
 rcases h with⟨rfl,rfl⟩|⟨h1,h2⟩
 ·rcases g with⟨_,rfl⟩|⟨g1,_⟩
  ·rfl
  ·have:=p.length_eq
   cases k with
   | nil=>cases g1
   | cons _ _=>cases this
 ·rcases g with⟨rfl,_⟩|⟨g1,g2⟩
  ·have:=p.length_eq
   cases l with
   | nil=>cases h1
   | cons _ _=>cases this
  ·exact Int.le_antisymm (h2 n (p.mem_iff.mpr g1)) (g2 m (p.mem_iff.mp h1))
theorem m7{l:List D}(h:∀x∈l,WM x/\eX x=true):pG (l.map dX) (dX ((jy l).getD .aW)):=by
 cases l with
 | nil=>exact .inl ⟨rfl,rfl⟩
 | cons b l =>
  obtain⟨h1,h2⟩:=ji l b h;refine .inr ⟨List.mem_map_of_mem h2,λx hx=>?_⟩;obtain⟨y,hy,rfl⟩:=List.mem_map.mp hx;exact h1 y hy
theorem qD(b:Bool)(pts:List (List Int)):pG (pY b pts) (dX (oW b pts)):=by
 rw[<- lx];exact m7 λx hx=>by
  obtain⟨p,q,_,_,rfl⟩:=d8 hx;exact⟨trivial,rfl⟩
theorem Gg(b:Bool){pts fc:List (List Int)}(h:pts.Perm fc):dX (oW b pts)=dX (oW b fc):=(qD b pts).uniq (qD b fc) (uW b h)
theorem l0{n i:Nat}(h:i<n):(List.range n).Perm (i::others n (i:Int)):=by
 have h1:=List.perm_cons_erase (List.mem_range.mpr h);rw[List.nodup_range.erase_eq_filter i]at h1;have e:(λk:Nat=>k != i)=λk:Nat=>decide ((k:Int)≠i):=by
  funext k
  by_cases z:k=i
  ·subst z;simp
  ·rw[decide_eq_true (show(k:Int)≠i by omega)];simpa using z
 rw[e]at h1;exact h1
theorem qo(pts:List (List Int)):(List.range pts.length).map (λi=>pts.getD i [])=pts:=by
 apply List.ext_getElem?;intro i;rw[List.getElem?_map]
 by_cases h:i<pts.length
 ·rw[List.getElem?_range h,List.getElem?_eq_getElem h]
  show some (pts.getD i [])=_;rw[List.getD_eq_getElem?_getD,List.getElem?_eq_getElem h];rfl
 ·rw[List.getElem?_eq_none (by simpa using h),List.getElem?_eq_none (by simpa using h)];rfl
theorem nU(b:Bool)(pts:List (List Int))(i:Nat):pG (((others pts.length (i:Int)).map λj=>pts.getD j []).map (eN b (pts.getD i []))) (dX (dU b pts i)):=by
 have:=m7 (l:=(others pts.length (i:Int)).map (iW b pts (pts.getD i []))) λx hx=>by
  obtain⟨j,_,rfl⟩:=List.mem_map.mp hx;exact⟨trivial,rfl⟩
 rw[List.map_map]at this ⊢;exact this
theorem rR(b:Bool){pts fc:List (List Int)}(h:pts.Perm fc){i j:Nat}(hi:i<pts.length)(hj:j<fc.length)(e:pts.getD i []=fc.getD j []):dX (dU b pts i)=dX (dU b fc j):=by
 refine(nU b pts i).uniq (nU b fc j) ?_;rw[e];refine List.Perm.map _ ?_;have h1:=(l0 hi).map λk=>pts.getD k [];have h2:=(l0 hj).map λk=>fc.getD k [];rw[qo]at h1 h2;rw[List.map_cons]at h1 h2;rw[<- e]at h2;exact((h1.symm.trans h).trans h2).cons_inv
def bO(ps:List (Int×List Int)):List (Int×D):=ps.map λp=>(p.1,gE p.2)
structure Gx(n:Nat)(ps:List (Int×List Int)):Prop where
 good:Good n (ps.map (·.2))
 inc:(ps.map (·.1)).Pairwise λx y:Int=>x<y
 len:ps.length<=60
theorem jN(ps:List (Int×List Int)):(bO ps).map (·.1)=ps.map (·.1):=by unfold bO;rw[List.map_map];rfl
theorem dD{ns:List Int}(h:ns.Pairwise λx y:Int=>x<y):qw ns=ns:=(oB (List.Perm.refl _) (h.imp λh=>Int.le_of_lt h)).symm
theorem jM:∀ {ps:List (Int×List Int)} {k:Nat} {p:Int×List Int},(ps.map (·.1)).Pairwise (λx y:Int=>x<y)->ps[k]?=some p->cY (bO ps) p.1=some (gE p.2)
 | [],_,_,_,e=>by simp at e
 | q::ps,0,p,_,e=>by
  simp at e;subst e;show cY ((q.1,gE q.2)::bO ps) q.1=_;unfold cY;rw[List.find?_cons_of_pos (by simp)];rfl
 | q::ps,k+1,p,h,e=>by
  rw[List.map_cons,List.pairwise_cons]at h;have e:ps[k]?=some p:=by simpa using e
  have lU:=h.1 p.1 (List.mem_map.mpr ⟨p,List.mem_of_getElem? e,rfl⟩);have ih:=jM h.2 e;show cY ((q.1,gE q.2)::bO ps) p.1=_;unfold cY at ih ⊢;rw[List.find?_cons_of_neg (by simp;omega)]
  exact ih
def vX:bf:=λds Q=>∃w c e kvs i,ds=[.kp w c e kvs,.int i]/\(cY kvs i).isSome=true/\Q (.sh .aW)
theorem abd(ds:List D)(Q:B->Prop)(h:vX ds Q):S7 {nx:=λ_=>Q (.sh .aW),rt:=λb _=>Q b} (aR KC.length ds):=by
 obtain⟨w,c,e,kvs,i,rfl,hi,h⟩:=h;unfold S7;symm;rw[hi];exact(if_neg ∅).mpr h
def dH:bf:=λds Q=>∃w c e n ps,ds=[.kp w c e (bO ps)]/\Gx n ps/\Q (.own (ps.map λp=>.int p.1))
theorem HU(ds:List D)(Q:B->Prop)(h:dH ds Q):FH {nx:=λ_=>Q (.sh .aW),rt:=λb _=>Q b} (aR Bk.length ds):=by
 obtain⟨w,c,e,n,ps,rfl,ok,h⟩:=h;unfold FH;symm;refine⟨by unfold bO;rw[List.length_map];have:=ok.len;omega,?_⟩
 rw[jN,dD ok.inc,List.map_map];exact h
def oK:bf:=λds Q=>∃w c e n ps,ds=[.kp w c e (bO ps)]/\Gx n ps/\Q (.own ((ps.map (·.2)).map gE))
theorem XU(ds:List D)(Q:B->Prop)(h:oK ds Q):S5 dH {nx:=λ_=>Q (.sh .aW),rt:=λb _=>Q b} (aR Ky.length ds):=by
 obtain⟨w,c,e,n,ps,rfl,ok,h⟩:=h;have hl:=ok.len;unfold S5;symm;refine⟨⟨_,_,_,_,rfl⟩,⟨List.nodup_nil,(λ_ h=>h.elim),[.kp w c e (bO ps)],rfl,w,c,e,n,ps,rfl,ok,?_⟩⟩;refine⟨.inl trivial,?_⟩;symm;refine dz (λp:Int×List Int=>D.int p.1) (λp=>gE p.2) ps (λp hp A ha=>?_) (by rw[sz];omega) ?_
 ·obtain⟨k,hk⟩:=List.getElem?_of_mem hp
  symm;exact⟨_,jM ok.inc hk,ha⟩
 ·rw[List.map_map]at h
  exact h
def oJ:bf:=λds Q=>∃w c e kvs i d,ds=[.kp w c e kvs,.int i]/\cY kvs i=some d/\Q (.sh d)
theorem HX(ds:List D)(Q:B->Prop)(h:oJ ds Q):FI vX {nx:=λ_=>Q (.sh .aW),rt:=λb _=>Q b} (aR Bl.length ds):=by
 obtain⟨w,c,e,kvs,i,d,rfl,hi,h⟩:=h;unfold FI;refine aw λN hN=>?_;symm;refine⟨⟨_,_,_,_,rfl⟩,⟨List.nodup_nil,(λ_ h=>h.elim),[.kp w c e kvs,.int i],rfl,w,c,e,kvs,i,rfl,by rw[hi];rfl,.inl trivial,?_⟩⟩
 symm;subst hN;symm;exact⟨d,hi,h⟩
def Xa(ks:List Int):D->D
 | .int i=>.int (ks.getD i.toNat 0)
 | d=>d
def g6(ks:List Int):D->D
 | .tup (f::r)=>.tup (f::r.map (Xa ks))
 | d=>d
theorem fj{ps:List (Int×List Int)}{i:Nat}(h:i<ps.length):(ps.map λp=>D.int p.1)[i]?=some (.int ((ps.map (·.1)).getD i 0)):=by
 rw[List.getElem?_map,List.getElem?_eq_getElem h,List.getD_eq_getElem?_getD,List.getElem?_map,List.getElem?_eq_getElem h];rfl
def kG:bf:=λds Q=>∃b c e n ps,ds=[.kp (aK b) c e (bO ps)]/\Gx n ps/\Q (.sh (g6 (ps.map (·.1)) (oW b (ps.map (·.2)))))
theorem zF(b:Bool)(pts:List (List Int)):oW b pts=.aW\/∃p q,p<q/\q<pts.length/\oW b pts=pairD b pts p q:=by
 unfold oW;rw[zM (xu b pts)];cases e:vV (di b pts)with
 | nil=>exact .inl rfl
 | cons a l =>
  have:a∈di b pts:=(oA _).mem_iff.mp (by rw[e];exact List.mem_cons_self ..)
  obtain⟨p,q,h1,h2,h⟩:=d8 this;exact .inr ⟨p,q,h1,h2,h⟩
theorem Qt(ds:List D)(Q:B->Prop)(h:kG ds Q):FY xS oK dH {nx:=λ_=>Q (.sh .aW),rt:=λb _=>Q b} (aR BD.length ds):=by
 obtain⟨b,c,e,n,ps,rfl,ok,h⟩:=h;have hl:=ok.len;unfold FY;refine aw λN hN=>?_;symm;refine⟨⟨_,_,_,_,rfl⟩,⟨List.nodup_nil,(λ_ h=>h.elim),[.kp (aK b) c e (bO ps)],rfl,aK b,c,e,n,ps,rfl,ok,.inl trivial,?_⟩⟩;symm;refine⟨.str (aK b),rfl,?_⟩;symm;refine⟨b,n,ps.map (·.2),rfl,ok.good,by rw[List.length_map];omega,?_⟩
 symm;subst hN;refine aw λN hN=>?_;rcases zF b (ps.map (·.2))with h2|⟨p,q,h1,h2,h3⟩
 ·rw[h2]at h ⊢
  symm;exact h
 ·rw[h3]at h ⊢
  rw[List.length_map]at h2;unfold pairD at h ⊢;symm
  try refine(if_neg ∅).mpr ?_
  subst hN;refine aw λN hN=>?_;symm;refine⟨⟨_,_,_,_,rfl⟩,⟨List.nodup_nil,(λ_ h=>h.elim),[.kp (aK b) c e (bO ps)],rfl,aK b,c,e,n,ps,rfl,ok,.inl trivial,?_⟩⟩;symm;subst hN;symm;refine cX (n:=0) rfl rfl ?_;symm;refine cX (n:=1) rfl rfl (bH (n:=p) rfl (fj ⋯) ?_)
  symm;refine cX (n:=2) rfl rfl (bH (n:=q) rfl (fj ⋯) ?_)
  symm;refine⟨by decide,?_⟩
  exact h
theorem XS(ds:List D)(Q:B->Prop)(h:fy ds Q):FL oI lH fy {nx:=λ_=>Q (.sh .aW),rt:=λb _=>Q b} (aR Bp.length ds):=by
 obtain⟨b,n,pts,j,rfl,hg,hl,hj,h⟩:=h;unfold FL;symm;refine⟨n,b,pts,rfl,hg.shape,?_⟩;symm;refine⟨pts,j,rfl,hj,?_⟩;symm;exact⟨b,n,pts,j,rfl,hg,hl,hj,h⟩
theorem yT(b:Bool)(pts:List (List Int))(i:Nat)(hi:i<pts.length):dU b pts i=.aW\/∃(f:Int) (k:Nat),k<pts.length/\dU b pts i=.tup [.int f,.int (k:Nat)]:=by
 obtain⟨h1,h2⟩:=Hz b pts;rw[h1 i];cases e:HE b pts i with
 | none=>exact .inl rfl
 | some p=>exact .inr ⟨p.1,p.2,(h2 i p.1 p.2 hi e).1,rfl⟩
theorem qb:∀ {ns:List Int} {k:Nat} {i:Int},ns.Pairwise (λx y:Int=>x<y)->ns[k]?=some i->wW (.int i) (ns.map D.int)=some k
 | [],_,_,_,e=>by simp at e
 | n::ns,0,i,_,e=>by
  simp at e;subst e;unfold wW;rw[List.map_cons,List.findIdx?_cons,if_pos (by simp [il])]
 | n::ns,k+1,i,hp,e=>by
  rw[List.pairwise_cons]at hp;have e:ns[k]?=some i:=by simpa using e
  have:=hp.1 i (List.mem_of_getElem? e);have ih:=qb hp.2 e;unfold wW at ih ⊢;rw[List.map_cons,List.findIdx?_cons,if_neg (by simp [il];omega),ih];rfl
theorem jK(ns:List Int):b7 8 (.lst (ns.map D.int))=true:=by
 show(ns.map D.int).all (b7 7)=true;rw[List.all_map];exact List.all_eq_true.mpr λ_ _=>rfl
theorem d6(ps:List (Int×List Int)):(ps.map λp=>D.int p.1)=(ps.map (·.1)).map D.int:=by rw[List.map_map];rfl
def kF:bf:=λds Q=>∃b c e n ps k i,ds=[.kp (aK b) c e (bO ps),.int i]/\Gx n ps/\(ps.map (·.1))[k]?=some i/\Q (.sh (g6 (ps.map (·.1)) (dU b (ps.map (·.2)) k)))
theorem HR(ds:List D)(Q:B->Prop)(h:kF ds Q):Tb vX dH fy oK {nx:=λ_=>Q (.sh .aW),rt:=λb _=>Q b} (aR KJ.length ds):=by
 obtain⟨b,c,e,n,ps,k,i,rfl,ok,hk,h⟩:=h;have hl:=ok.len;have DS:k<ps.length:=by have:=(List.getElem?_eq_some_iff.mp hk).1;simpa using this
 have Wf:(cY (bO ps) i).isSome=true:=by
  rw[List.getElem?_map,List.getElem?_eq_getElem DS]at hk;have hk:ps[k].1=i:=by simpa using hk
  rw[<- hk,jM ok.inc (List.getElem?_eq_getElem DS)];rfl
 unfold Tb;refine aw λN hN=>?_;symm;refine⟨⟨_,_,_,_,rfl⟩,⟨List.nodup_nil,(λ_ h=>h.elim),[.kp (aK b) c e (bO ps),.int i],rfl,_,c,e,_,i,rfl,Wf,.inl trivial,?_⟩⟩;symm;subst hN;refine aw λN hN=>?_;symm;refine⟨⟨_,_,_,_,rfl⟩,⟨List.nodup_nil,(λ_ h=>h.elim),[.kp (aK b) c e (bO ps)],rfl,aK b,c,e,n,ps,rfl,ok,.inl trivial,?_⟩⟩;symm;subst hN;refine aw λN hN=>?_;symm;refine⟨⟨_,_,_,_,rfl⟩,⟨List.nodup_nil,(λ_ h=>h.elim),[.kp (aK b) c e (bO ps)],rfl,aK b,c,e,n,ps,rfl,ok,.inl trivial,?_⟩⟩;symm;refine⟨.str (aK b),rfl,?_⟩;symm;rw[d6];refine⟨⟨_,rfl⟩,⟨rfl,jK _⟩,k,qb ok.inc hk,?_⟩;symm;refine⟨b,n,ps.map (·.2),k,rfl,ok.good,by rw[List.length_map];omega,by rw[List.length_map];exact DS,?_⟩
 symm;subst hN;refine aw λN hN=>?_;rcases yT b (ps.map (·.2)) k (by rw[List.length_map];exact DS)with h2|⟨f,q,h2,h3⟩
 ·rw[h2]at h ⊢
  symm;exact h
 ·rw[h3]at h ⊢
  rw[List.length_map]at h2;symm
  try refine(if_neg ∅).mpr ?_
  subst hN;symm;refine cX (n:=0) rfl rfl ?_;symm;refine cX (n:=1) rfl rfl (bH (n:=q) rfl (by rw[<- d6];exact fj h2) ?_)
  symm;refine⟨by decide,?_⟩
  exact h
def Il(ks:List Int)(p:Nat×Nat):D:=.tup [.int (ks.getD p.1 0),.int (ks.getD p.2 0)]
def vt(ks:List Int)(b:Bool)(pts:List (List Int))(j:Int):List D:=(gu b pts j).map λd=>match d with|.tup [.int x,.int y]=>Il ks (x.toNat,y.toNat)|d=>d
theorem HA(b:Bool)(pts:List (List Int))(bound:Int):∃ps:List (Nat×Nat),gu b pts bound=ps.map (λp=>D.tup [.int (p.1:Nat),.int (p.2:Nat)])/\∀p∈ps,p.1<p.2/\p.2<pts.length:=by
 have:∀l:List D,(∀d∈l,∃p:Nat×Nat,d=.tup [.int (p.1:Nat),.int (p.2:Nat)]/\p.1<p.2/\p.2<pts.length)->∃ps:List (Nat×Nat),l=ps.map (λp=>D.tup [.int (p.1:Nat),.int (p.2:Nat)])/\∀p∈ps,p.1<p.2/\p.2<pts.length:=by
  intro l
  induction l with
  | nil=>intro _;exact⟨[],rfl,λp hp=>by cases hp⟩
  | cons d l ih =>
   intro h;obtain⟨p,rfl,hp⟩:=h d (List.mem_cons_self ..);obtain⟨ps,e,ZL⟩:=ih λx hx=>h x (List.mem_cons_of_mem _ hx);refine⟨p::ps,by rw[e];rfl,λx hx=>?_⟩
   rcases List.mem_cons.mp hx with rfl|hx
   ·exact hp
   ·exact ZL x hx
 refine this _ λd hd=>?_;obtain⟨x,hx,h⟩:=List.mem_filterMap.mp hd;obtain⟨p,q,h1,h2,rfl⟩:=d8 hx;have:(if eN b (pts.getD p []) (pts.getD q [])<=bound then some (D.tup [.int (p:Nat),.int (q:Nat)])else none)=some d:=h
 split at this
 ·exact⟨(p,q),(Option.some.inj this).symm,h1,h2⟩
 ·cases this
theorem nV(b:Bool)(pts:List (List Int))(bound:Int):∃ps:List (Nat×Nat),gu b pts bound=ps.map (λp=>D.tup [.int (p.1:Nat),.int (p.2:Nat)])/\ps.length<=(di b pts).length/\∀p∈ps,p.1<p.2/\p.2<pts.length:=by
 obtain⟨ps,e,h⟩:=HA b pts bound;refine⟨ps,e,?_,h⟩;have:=Ei b pts bound;rw[e,List.length_map]at this;exact this
theorem jR{ks:List Int}{b:Bool}{pts:List (List Int)}{j:Int}{qs:List (Nat×Nat)}(e:gu b pts j=qs.map (λp=>D.tup [.int (p.1:Nat),.int (p.2:Nat)])):vt ks b pts j=qs.map (Il ks):=by
 unfold vt;rw[e,List.map_map];refine List.map_congr_left λp _=>?_;show Il ks (((p.1:Nat):Int).toNat,((p.2:Nat):Int).toNat)=_;rw[Int.toNat_natCast,Int.toNat_natCast]
def oG:bf:=λds Q=>∃b c e n ps j,ds=[.kp (aK b) c e (bO ps),.int j]/\Gx n ps/\0<=j/\Q (.own (vt (ps.map (·.1)) b (ps.map (·.2)) j))
theorem XN(ds:List D)(Q:B->Prop)(h:oG ds Q):FQ dH sU oK {nx:=λ_=>Q (.sh .aW),rt:=λb _=>Q b} (aR Bt.length ds):=by
 obtain⟨b,c,e,n,ps,j,rfl,ok,hj,h⟩:=h;have hl:=ok.len;unfold FQ;refine aw λN hN=>?_;symm;refine⟨⟨_,_,_,_,rfl⟩,⟨List.nodup_nil,(λ_ h=>h.elim),[.kp (aK b) c e (bO ps)],rfl,aK b,c,e,n,ps,rfl,ok,.inl trivial,?_⟩⟩;symm;subst hN;symm;refine⟨⟨_,_,_,_,rfl⟩,⟨List.nodup_nil,(λ_ h=>h.elim),[.kp (aK b) c e (bO ps)],rfl,aK b,c,e,n,ps,rfl,ok,.inl trivial,?_⟩⟩;symm;refine⟨.str (aK b),rfl,?_⟩;symm;refine⟨b,n,ps.map (·.2),j,rfl,ok.good,by rw[List.length_map];omega,hj,?_⟩
 obtain⟨qs,eq,hq,hqs⟩:=nV b (ps.map (·.2)) j
 have hzp:=n8 (b:=b) (pts:=ps.map (·.2)) (by rw[List.length_map];omega)
 rw[jR eq]at h;rw[eq];symm;refine dz (λp:Nat×Nat=>D.tup [.int (p.1:Nat),.int (p.2:Nat)]) (Il (ps.map (·.1))) qs (λp hp A ha=>?_) (by rw[sz];omega) ?_
 ·obtain⟨h1,h2⟩:=hqs p hp
  rw[List.length_map]at h2;walk_at "vg";symm;refine bH (n:=p.1) rfl (fj ⋯) (bH (n:=p.2) rfl (fj h2) ?_)
  symm;exact⟨by decide,ha⟩
 ·exact h
theorem fq(k:Str)(v:V):∀l:List (Str×V),(cO k v l).length<=l.length+1
 | []=>Nat.le_refl _
 | (g,x)::r=>by
  have:=fq k v r;unfold cO
  split
  ·simp
  ·simp only[List.length_cons];omega
def sS:Gw:=λds Q=>∃b c,ds=[dR b,.int c]/\1<=c/\c<=3/\Q (aK b) c
theorem Qs(ds:List D)(Q:Str->Int->Prop)(h:sS ds Q)(a dx:Addr):S8 iG mU {nx:=inQ a dx Q,rt:=λ_ _=>False} (kK KD.length a dx ds):=by
 obtain⟨b,c,rfl,h1,h2,h⟩:=h;unfold S8 dR;refine aw λN hN=>?_;symm;refine⟨c,rfl,h1,h2,?_⟩;symm;subst hN;refine aw λN hN=>?_;symm;refine⟨b,rfl,?_⟩;symm;subst hN;symm;refine⟨a,dx,[],.str (aK b),rfl,rfl,by simp [cO],?_⟩
 symm;refine⟨a,dx,_,.int c,rfl,rfl,by simp [cO],?_⟩
 symm;refine⟨a,dx,_,rfl,by have h1:=fq (Str.ofString "count") (.int c) (cO (Str.ofString "way") (.str (aK b)) []);have h2:=fq (Str.ofString "way") (.str (aK b)) [];exact Nat.lt_of_le_of_lt h1 (by have:(cO (Str.ofString "way") (V.str (aK b)) []).length<=1:=h2;omega),λad=>?_⟩
 symm;refine⟨a,dx,ad,_,aK b,c,rfl,by have h0:=fq (Str.ofString "points_by_name") (.ref ad) (cO (Str.ofString "count") (.int c) (cO (Str.ofString "way") (.str (aK b)) []));have h1:=fq (Str.ofString "count") (.int c) (cO (Str.ofString "way") (.str (aK b)) []);have h2:(cO (Str.ofString "way") (V.str (aK b)) []).length<=1:=fq (Str.ofString "way") (.str (aK b)) [];exact Nat.lt_of_le_of_lt h0 ⋯,rfl,?_⟩
 exact⟨ad,aK b,c,rfl,h⟩
def oM:iU:=λbs Q=>∃(a dx ad:Addr) (b:Bool) (c e:Int) (n:Nat) (ps:List (Int×List Int)) (p:List Int),bs=[.obj (cD a dx ad (aK b) c e (bO ps)),.sh (gE p)]/\(p.length:Int)=c/\ps.length<1000/\(∀q∈ps,q.1<e)/\Q (.sh (.int e)) [.obj (cD a dx ad (aK b) c (e+1) (bO (ps++[(e,p)]))),.sh (gE p)]
theorem vd{ps:List (Int×List Int)}{e:Int}{p:List Int}(h:∀q∈ps,q.1<e):jL (bO ps) e (gE p)=bO (ps++[(e,p)]):=by
 unfold jL;rw[if_neg (by
  rw[List.any_eq_true];rintro⟨x,hx,hd⟩;unfold bO at hx;obtain⟨q,hq,rfl⟩:=List.mem_map.mp hx;have:=h q hq;have:=of_decide_eq_true hd;have:q.1=e:=this;omega)]
 unfold bO;rw[List.map_append];rfl
theorem Hr(bs:List B)(Q:B->List B->Prop)(h:oM bs Q)(i:Nat)(xs:List D)(e:bs[i]?=some (.own xs)):i∈[0]:=by
 obtain⟨a,dx,ad,b,c,e',n,ps,p,rfl,_⟩:=h;exact wZ 1 rfl e
theorem XW(bs:List B)(Q:B->List B->Prop)(h:oM bs Q):FX sT {nx:=wx bs Q (.sh .aW),rt:=λb σ=>wx bs Q b σ} (cE BA.length bs):=by
 obtain⟨a,dx,ad,b,c,e,n,ps,p,rfl,hp,hl,lU,h⟩:=h;unfold FX;refine aw λN hN=>?_;symm;refine⟨.int c,rfl,?_⟩;symm;refine⟨p,c,rfl,hp,?_⟩;symm;subst hN;refine aw λN hN=>?_;symm;refine⟨.int e,rfl,?_⟩;symm;subst hN;refine aw λN hN=>?_;symm;refine⟨⟨a,dx,ad,_,c,e,_,rfl⟩,a,dx,ad,_,c,e,_,rfl,by unfold bO;rw[List.length_map,sz];omega,?_⟩
 rw[vd lU];subst hN;refine aw λN hN=>?_;symm;refine⟨a,dx,ad,_,c,e,_,rfl,?_⟩;subst hN;symm;exact⟨[.obj (cD a dx ad (aK b) c (e+1) (bO (ps++[(e,p)]))),.sh (gE p)],.obj rfl rfl (λz=>nomatch z) (.sh _ .nil),⟨rfl,trivial⟩,h⟩
def mV:iU:=λbs Q=>∃(a dx ad:Addr) (w:Str) (c e i:Int) (kvs:List (Int×D)),bs=[.obj (cD a dx ad w c e kvs),.sh (.int i)]/\(cY kvs i).isSome=true/\Q (.sh .aW) [.obj (cD a dx ad w c e (jI kvs i)),.sh (.int i)]
theorem Hq(bs:List B)(Q:B->List B->Prop)(h:mV bs Q)(i:Nat)(xs:List D)(e:bs[i]?=some (.own xs)):i∈[0]:=by
 obtain⟨a,dx,ad,w,c,e',j,kvs,rfl,_⟩:=h;exact wZ 1 rfl e
theorem QA(bs:List B)(Q:B->List B->Prop)(h:mV bs Q):FR vX {nx:=wx bs Q (.sh .aW),rt:=λb σ=>wx bs Q b σ} (cE Bu.length bs):=by
 obtain⟨a,dx,ad,w,c,e,i,kvs,rfl,hi,h⟩:=h;unfold FR;refine aw λN hN=>?_;symm;refine⟨⟨_,w,c,e,kvs,rfl,rfl⟩,⟨List.nodup_nil,λ_ _=>trivial,[.kp w c e kvs,.int i],rfl,w,c,e,kvs,i,rfl,hi,.inr ⟨rfl,rfl⟩,?_⟩⟩;symm;subst hN;symm;refine⟨a,dx,ad,w,c,e,kvs,rfl,rfl,hi,?_⟩;exact⟨[.obj (cD a dx ad w c e (jI kvs i)),.sh (.int i)],.obj rfl rfl (λz=>nomatch z) (.sh _ .nil),⟨rfl,trivial⟩,h⟩
theorem nC{P:Int->Prop}:∀(ds:List D) {n:Nat},ds.length=n->(∀d∈ds,∃v,d=.int v/\P v)->∃l:List Int,ds=l.map D.int/\l.length=n/\∀v∈l,P v
 | [],n,hn,_=>⟨[],rfl,hn,λv hv=>by cases hv⟩
 | d::ds,n,hn,h=>by
  obtain⟨v,rfl,hv⟩:=h d (List.mem_cons_self ..);obtain⟨l,e,hl,hf⟩:=nC ds (n:=ds.length) rfl λx hx=>h x (List.mem_cons_of_mem _ hx);refine⟨v::l,by rw[e];rfl,by simpa [hl]using hn,λx hx=>?_⟩
  rcases List.mem_cons.mp hx with rfl|hx
  ·exact hv
  ·exact hf x hx
structure tY(n:Nat)(ps:List (Int×List Int)):Prop where
 n1:1<=n
 n3:n<=3
 pt:∀q∈ps,q.2.length=n/\∀v∈q.2,Be v
 inc:(ps.map (·.1)).Pairwise λx y:Int=>x<y
 len:ps.length<=60
theorem tY.ok{n:Nat}{ps:List (Int×List Int)}(h:tY n ps):Gx n ps:=⟨⟨⟨h.n1,h.n3⟩,λp hp=>by
 obtain⟨q,hq,rfl⟩:=List.mem_map.mp hp;refine⟨(h.pt q hq).1,λx hx=>?_⟩;have:=(h.pt q hq).2 x hx;unfold Be at this;omega⟩,h.inc,h.len⟩
theorem Hm{n k:Nat}(h:k<n):yN n (k:Int)=some k:=by unfold yN;rw[if_pos ⋯,if_pos ⋯,Int.toNat_natCast]
def xR:jv:=λxs ds Q=>cW xs/\∃(n:Nat) (ps:List (Int×List Int)),ds=[.int n,.dW (bO ps)]/\tY n ps/\∀p ys,p.length=n->(∀v∈p,Be v)->cW ys->Q (.sh (gE p)) ys
theorem fL(ps:List (Int×List Int)):(bO ps).length=ps.length:=List.length_map ..
theorem XQ(xs ds:List D)(Q:B->List D->Prop)(h:xR xs ds Q):FV fV {nx:=rJ Q (.sh .aW),rt:=λb σ=>rJ Q b σ} (bj Bx.length xs ds):=by
 obtain⟨r0,n,ps,rfl,kf,h⟩:=h;have h1:=kf.n1;have h3:=kf.n3;have hl:=kf.len;unfold FV;simp only[bj];refine aw λN hN=>?_;symm;rw[Int.toNat_natCast,eG];refine⟨by omega,pO (λi:Nat=>.int (0+(i:Nat))) (λd=>∃v,d=.int v/\Be v) cW _ (λv hv z rz A Z hz ha=>?_) (by rw[List.length_range,sz];omega) r0 (λds ys1 Hc hd1 r1=>?_)⟩
 ·walk_at "vg"
  symm;refine⟨⟨_,rfl⟩,rz,5,rfl,by decide,by decide,λr ys r0 r1 ry=>?_⟩
  symm;refine⟨hz,ha _ _ ⟨_,rfl,?_⟩ ry⟩;unfold Be;omega
 rw[List.length_range]at Hc;obtain⟨l1,rfl,Hc,Tx⟩:=nC ds Hc hd1;subst hN;refine aw λN hN=>?_;symm;refine⟨⟨_,rfl⟩,r1,4,rfl,by decide,by decide,λkind ys2 k0 k1 r2=>?_⟩
 symm;subst hN;refine aw λN hN=>?_;symm;have Wq:∀(l:List Int) (ys:List D),l.length=n->(∀v∈l,Be v)->cW ys->N [some (.own ys),some (.sh (.int n)),some (.sh (.dW (bO ps))),some (.own (l.map D.int)),some (.sh (.int kind)),none]:=by
  intro l ys Hc Tx ry;subst hN;have rA:∀(l:List Int) (ys:List D) (x:Option B),l.length=n->(∀v∈l,Be v)->cW ys->fC [0] (fB lK (bT (af 3) eM)) {nx:=rJ Q (.sh .aW),rt:=λb σ=>rJ Q b σ} [some (.own ys),some (.sh (.int n)),some (.sh (.dW (bO ps))),some (.own (l.map D.int)),some (.sh (.int kind)),x]:=by
   intro l ys x Hc Tx ry;symm;exact h l ys Hc Tx ry
  show ck (dt _ (ck (gw [0] 3 (fB qg _)) _) _) _ _ _;generalize ht:ck (gw [0] 3 (fB qg _)) _=tb;refine aw λN hN=>?_;symm
  split
  ·split
   ·rename_i hk cC
    have ZL:0<ps.length:=by
     cases ps with
     | nil=>exact absurd rfl cC
     | cons _ _=>simp
    subst ht;refine aw λN2 Af=>?_;symm;refine⟨by rw[fL];omega,⟨_,rfl⟩,ry,_,rfl,by rw[fL];omega,by rw[fL];omega,λr ys2 q0 q1 ry2=>?_⟩
    rw[fL]at q1;rw[jN,dD kf.inc,<- d6];symm;obtain⟨k,rfl⟩:∃k:Nat,r=k:=⟨r.toNat,by omega⟩
    have J6:k<ps.length:=by omega
    refine bH (n:=k) rfl (by rw[List.getElem?_map,List.getElem?_eq_getElem J6];rfl) ?_
    symm;refine⟨_,jM kf.inc (List.getElem?_eq_getElem J6),?_⟩;obtain⟨hp1,TH⟩:=kf.pt ps[k] (List.getElem_mem _);generalize ps[k].2=p at hp1 TH;show N2 [some (.own ys2),some (.sh (.int n)),some (.sh (.dW (bO ps))),some (.own (p.map D.int)),some (.sh (.int kind)),none];subst Af;refine aw λN2 Af=>?_;symm;refine⟨⟨_,rfl⟩,ry2,_,rfl,by omega,by omega,λr ys3 q0 q1 ry3=>?_⟩
    obtain⟨j,rfl⟩:∃j:Nat,r=j:=⟨r.toNat,by omega⟩
    have hj:j<p.length:=by omega
    symm;subst Af;symm;have e1:(10:Int)^(15:Int).toNat=1000000000000000:=by decide
    rw[e1];refine⟨by unfold o7;decide,by unfold o7;decide,bH (n:=j) rfl (yK hj) ?_⟩
    symm;refine⟨⟨_,rfl⟩,ry3,3,rfl,by decide,by decide,λu ys4 u0 u1 ry4=>?_⟩
    symm;refine⟨⟨_,rfl⟩,?_⟩;rw[List.length_map,Hm hj];show N _;have aaL:∀v:Int,(p.map D.int).set j (.int v)=(p.set j v).map D.int:=λv=>by rw[List.map_set]
    rw[aaL];subst hN;refine rA _ ys4 _ (by rw[List.length_set];exact hp1) (λv hv=>?_) ry4
    rcases List.mem_or_eq_of_mem_set hv with hv|rfl
    ·exact TH v hv
    ·unfold Be
     split<;>split at *<;>omega
   ·subst hN
    exact rA l ys _ Hc Tx ry
  ·subst hN
   exact rA l ys _ Hc Tx ry
 refine⟨⟨rfl,rfl⟩,?_⟩
 split
 ·rw[Int.toNat_natCast,eG]
  refine⟨by omega,pO (λi:Nat=>.int (0+(i:Nat))) (λd=>∃v,d=.int v/\Be v) cW _ (λv hv z rz A Z hz ha=>?_) (by rw[List.length_range,sz];omega) r2 (λds ys3 tT hd2 r3=>?_)⟩
  ·walk_at "vg"
   symm;have e1:(10:Int)^(15:Int).toNat=1000000000000000:=by decide
   rw[e1];refine⟨⟨_,rfl⟩,by unfold o7;decide,by unfold kQ;decide,rz,_,rfl,by decide,by decide,λr ys r0 r1 ry=>?_⟩
   symm;refine⟨by unfold o7;decide,hz,ha _ _ ⟨_,rfl,?_⟩ ry⟩
   unfold Be;omega
  rw[List.length_range]at tT;obtain⟨l2,rfl,tT,hf2⟩:=nC ds tT hd2;exact Wq l2 ys3 tT hf2 r3
 ·exact Wq l1 ys2 Hc Tx r2
theorem Cz{α:Type}(x:α)(xs:List α):cut (x::xs) (some 1) none=xs:=by
 unfold cut;rw[HT.Fj,show(some (1:Int))=some ((1:Nat):Int)from rfl,HT.IE,Nat.min_eq_left (by simp)]
 rw[List.drop_one,List.tail_cons,List.length_cons,List.take_of_length_le ⋯]
def eP(m:Nat):D->Prop
 | .aW=>True
 | .tup (.int _::r)=>r.length<=1000/\∀d∈r,∃k:Nat,d=.int k/\k<m
 | _=>False
def dw:D->Prop
 | .aW=>True
 | .tup r=>∃ns:List Int,r=ns.map D.int
 | _=>False
theorem jD{d:D}(h:dw d):il d d=true:=by
 unfold dw at h
 split at h
 ·rfl
 ·obtain⟨ns,rfl⟩:=h
  exact ip ns
 ·exact h.elim
theorem dY{d:D}{m:Nat}(h:dw d):b7 (m+2) d=true:=by
 unfold dw at h
 split at h
 ·rfl
 ·obtain⟨ns,rfl⟩:=h
  show(ns.map D.int).all (b7 (m+1))=true;rw[List.all_map];exact List.all_eq_true.mpr λ_ _=>rfl
 ·exact h.elim
theorem nq:∀ {ds:List D},(∀d∈ds,dw d)->pj ds ds=true
 | [],_=>rfl
 | d::ds,h=>by
  show(il d d&&pj ds ds)=true;rw[jD (h d (List.mem_cons_self ..)),nq λx hx=>h x (List.mem_cons_of_mem _ hx)];rfl
theorem uT{ds:List D}(h:∀d∈ds,dw d):b7 8 (.lst ds)=true:=by
 show ds.all (b7 7)=true;exact List.all_eq_true.mpr λd hd=>dY (m:=5) (h d hd)
theorem Ej{ns:List Int}:∀(r:List D),(∀d∈r,∃k:Nat,d=.int k/\k<ns.length)->∃ms:List Int,r.map (Xa ns)=ms.map D.int
 | [],_=>⟨[],rfl⟩
 | d::r,h=>by
  obtain⟨k,rfl,_⟩:=h d (List.mem_cons_self ..);obtain⟨ms,e⟩:=Ej r λx hx=>h x (List.mem_cons_of_mem _ hx);exact⟨ns.getD k 0::ms,by rw[List.map_cons,e];rfl⟩
theorem jg{ns:List Int}{d:D}(h:eP ns.length d):dw (g6 ns d):=by
 unfold eP at h
 split at h
 ·trivial
 ·rename_i f r
  obtain⟨ms,e⟩:=Ej r h.2;refine⟨f::ms,?_⟩;rw[e];rfl
 ·exact h.elim
theorem iJ(b:Bool)(pts:List (List Int)):eP pts.length (oW b pts):=by
 rcases zF b pts with h|⟨p,q,h1,h2,h3⟩
 ·rw[h];trivial
 ·rw[h3]
  refine⟨by simp,λd hd=>?_⟩
  simp only[List.mem_cons,List.not_mem_nil,or_false]at hd;rcases hd with rfl|rfl
  ·exact⟨p,rfl,by omega⟩
  ·exact⟨q,rfl,h2⟩
theorem jS(b:Bool)(pts:List (List Int))(i:Nat)(hi:i<pts.length):eP pts.length (dU b pts i):=by
 rcases yT b pts i hi with h|⟨f,k,h1,h2⟩
 ·rw[h];trivial
 ·rw[h2]
  refine⟨by simp,λd hd=>?_⟩
  simp only[List.mem_cons,List.not_mem_nil,or_false]at hd;subst hd;exact⟨k,rfl,h1⟩
def Fs:bf:=λds Q=>∃ns:List Int,ds=[.i3 ns]/\ns.length<=63/\Q (.sh (.bl true))
theorem jV:∀l:List Int,d3 (l.map D.int)=true
 | []=>rfl
 | _::l=>jV l
theorem Kc(p:List Int):El (gE p)=true:=jV p
local macro_rules|`(tactic| walk_at "vv")=>`(tactic| (symm;(try simp only[yp,yP,Option.map_some]);(try symm)))
theorem yt{n:Nat}{ps:List (Int×List Int)}{e:Int}{p:List Int}(k:tY n ps)(hl:ps.length<60)(he:∀q∈ps,q.1<e)(hp:p.length=n)(hf:∀v∈p,Be v):tY n (ps++[(e,p)]):=⟨k.n1,k.n3,λq hq=>by
 rcases List.mem_append.mp hq with hq|hq
 ·exact k.pt q hq
 ·rw[List.mem_singleton.mp hq];exact⟨hp,hf⟩,by
 rw[List.map_append,List.pairwise_append];refine⟨k.inc,List.pairwise_singleton _ _,λa ha c hc=>?_⟩;obtain⟨q,hq,rfl⟩:=List.mem_map.mp ha;rw[List.mem_singleton.mp hc];exact he q hq,by rw[List.length_append,List.length_singleton];omega⟩
theorem vg{ps:List (Int×List Int)}{e:Int}{p:List Int}(he:∀q∈ps,q.1<e):cY (bO (ps++[(e,p)])) e=some (gE p):=by
 unfold cY bO;rw[List.map_append,List.find?_append,List.find?_eq_none.mpr]
 ·rw[Option.none_or]
  show Option.map _ (List.find? _ [(e,gE p)])=_;rw[List.find?_cons_of_pos (by simp)];rfl
 ·intro x hx
  obtain⟨q,hq,rfl⟩:=List.mem_map.mp hx;have:=he q hq;simp only[decide_eq_true_eq];omega
theorem EZ{ps:List (Int×List Int)}{e:Int}{p:List Int}(he:∀q∈ps,q.1<e):∀q∈ps++[(e,p)],q.1<e+1:=λq hq=>by
 rcases List.mem_append.mp hq with hq|hq
 ·have:=he q hq;omega
 ·rw[List.mem_singleton.mp hq];omega
theorem yq(ps:List (Int×List Int))(i:Int):jI (bO ps) i=bO (ps.filter λq=>decide (q.1≠i)):=by
 unfold jI bO;rw[List.filter_map];rfl
theorem jm:∀ {kvs:List (Int×D)} {p:Int×D},(kvs.map (·.1)).Nodup->p∈kvs->cY kvs p.1=some p.2
 | [],_,_,h=>by cases h
 | q::kvs,p,hd,h=>by
  rw[List.map_cons,List.nodup_cons]at hd;rcases List.mem_cons.mp h with rfl|h
  ·unfold cY
   rw[List.find?_cons_of_pos (by simp)];rfl
  ·have cC:q.1≠p.1:=λz=>hd.1 (z ▸ List.mem_map_of_mem h)
   have ih:=jm hd.2 h;unfold cY at ih ⊢;rw[List.find?_cons_of_neg (by simpa using cC)]
   exact ih
def o6(ks:List Int):List (Int×D):=(List.range ks.length).map λk:Nat=>((k:Int),D.int (ks.getD k 0))
theorem yV(ks:List Int):(o6 ks).map (·.1)=(List.range ks.length).map λk:Nat=>(k:Int):=by unfold o6;rw[List.map_map];rfl
theorem HD(ks:List Int):(o6 ks).map (·.2)=ks.map D.int:=by
 unfold o6;rw[List.map_map];apply List.ext_getElem?;intro i;rw[List.getElem?_map]
 by_cases h:i<ks.length
 ·rw[List.getElem?_range h,yK h];rfl
 ·rw[List.getElem?_eq_none (by simpa using h),List.getElem?_eq_none (by simpa using h)];rfl
theorem mO{ks:List Int}{k:Nat}(h:k<ks.length):cY (o6 ks) (k:Int)=some (.int (ks.getD k 0)):=by
 refine jm (p:=((k:Int),D.int (ks.getD k 0))) ?_ (List.mem_map.mpr ⟨k,List.mem_range.mpr h,rfl⟩);rw[yV];exact List.Pairwise.map _ (λa b (e:a≠b) z=>e (Int.ofNat.inj z)) List.nodup_range
theorem OX(ks:List Int):(o6 ks).length=ks.length:=by unfold o6;rw[List.length_map,List.length_range]
def xQ:bf:=λds Q=>∃(ns:List Int) (d:D),ds=[.dW (o6 ns),d]/\eP ns.length d/\Q (.sh (g6 ns d))
theorem XO(ds:List D)(Q:B->Prop)(h:xQ ds Q):FU {nx:=λ_=>Q (.sh .aW),rt:=λb _=>Q b} (aR Bw.length ds):=by
 obtain⟨ns,d,rfl,hd,h⟩:=h;unfold FU;refine aw λN hN=>?_;unfold eP at hd
 split at hd
 ·symm
  exact h
 ·rename_i f r
  obtain⟨hl,hr⟩:=hd;symm
  try refine(if_neg ∅).mpr ?_
  subst hN;symm;refine cX (n:=0) rfl rfl ?_;symm;rw[Cz];refine⟨by decide,?_⟩
  have:=dz (g:=gB 0) (te:=ak [] (f9 (af 1) (af 0))) (σ0:=[none,some (B.sh (D.dW (o6 ns)))]) (Q:=λds=>([D.int f]≠[]/\1+ds.length<=sizeLine)/\Q (B.sh (D.tup (D.int f::ds)))) id (Xa ns) r (λd hd A ha=>by
   obtain⟨k,rfl,hk⟩:=hr d hd;show gB 0 (D.int k) _ _;walk_at "vg";symm;exact⟨_,mO hk,ha⟩) (by rw[sz];omega) ⟨⟨by simp,by rw[List.length_map,sz];omega⟩,h⟩
  rw[List.map_id]at this;exact this
 ·exact hd.elim
theorem drop_new{ps:List (Int×List Int)}{e:Int}{p:List Int}(he:∀q∈ps,q.1<e):((ps++[(e,p)]).filter λq=>decide (q.1≠e))=ps:=by
 rw[List.filter_append,List.filter_eq_self.mpr]
 ·have:List.filter (λq:Int×List Int=>decide (q.1≠e)) [(e,p)]=[]:=by simp
  rw[this,List.append_nil]
 ·intro q hq
  have:=he q hq;exact decide_eq_true ⋯
theorem D0{ps:List (Int×List Int)}{e:Int}{p q:List Int}(he:∀x∈ps,x.1<e):(cY (bO ((ps++[(e,p)])++[(e+1,q)])) e).isSome=true:=by
 unfold cY;rw[Option.isSome_map,List.find?_isSome];exact⟨(e,gE p),by unfold bO;rw[List.mem_map];exact⟨(e,p),by simp,rfl⟩,by simp⟩
theorem Dd{ps:List (Int×List Int)}{e:Int}{p q:List Int}(he:∀x∈ps,x.1<e):jI (bO ((ps++[(e,p)])++[(e+1,q)])) e=bO (ps++[(e+1,q)]):=by
 rw[yq,List.filter_append,drop_new he];have:List.filter (λx:Int×List Int=>decide (x.1≠e)) [(e+1,q)]=[(e+1,q)]:=by
  rw[List.filter_cons_of_pos (by simp;omega)];rfl
 rw[this]
theorem Fg(n:Nat)(r:Int):D.tup (List.replicate ((n:Int)).toNat [D.int r]).flatten=gE (List.replicate n r):=by
 show _=D.tup ((List.replicate n r).map D.int);rw[Int.toNat_natCast];congr 1
 induction n with
 | zero=>rfl
 | succ n ih=>rw[List.replicate_succ,List.replicate_succ,List.flatten_cons,List.map_cons,ih];rfl
def sR:iU:=λbs Q=>∃(y:List D) (a dx ad:Addr) (b:Bool) (n:Nat) (e:Int) (ps:List (Int×List Int)),bs=[.own y,.obj (cD a dx ad (aK b) n e (bO ps)),.sh (.int n)]/\cW y/\1<=n/\n<=3/\ps.length<900/\(∀q∈ps,q.1<e) /\
 ∀y',cW y'->Q (.sh .aW) [.own y',.obj (cD a dx ad (aK b) n (e+2) (bO ps)),.sh (.int n)]
theorem Ho(bs:List B)(Q:B->List B->Prop)(h:sR bs Q)(i:Nat)(xs:List D)(e:bs[i]?=some (.own xs)):i∈[0,1]:=by
 obtain⟨y,a,dx,ad,b,n,e',ps,rfl,_⟩:=h;exact wZ 2 rfl e
theorem XJ(bs:List B)(Q:B->List B->Prop)(h:sR bs Q):FJ oM fV mV {nx:=wx bs Q (.sh .aW),rt:=λb σ=>wx bs Q b σ} (cE Bm.length bs):=by
 obtain⟨y,a,dx,ad,b,n,e,ps,rfl,ry,ZH,hn,hl,he,h⟩:=h;have Ds:∀y' x3 x4,cW y'->wx [.own y,.obj (cD a dx ad (aK b) n e (bO ps)),.sh (.int n)] Q (.sh .aW) [some (.own y'),some (.obj (cD a dx ad (aK b) n (e+2) (bO ps))),some (.sh (.int n)),x3,x4]:=λy' x3 x4 k1 =>
  ⟨[.own y',.obj (cD a dx ad (aK b) n (e+2) (bO ps)),.sh (.int n)],.own _ _ (.obj rfl rfl (λz=>nomatch z) (.sh _ .nil)),⟨rfl,rfl,trivial⟩,h y' k1⟩
 clear h;generalize wx _ Q=MQ at Ds;unfold FJ;refine aw λN hN=>?_;symm;symm;refine⟨⟨_,_,_,_,_,rfl,rfl⟩,⟨_,rfl⟩,ry,9,rfl,by decide,by decide,λr y2 r0 r1 ry2=>?_⟩
 symm;refine⟨by decide,⟨by simp,by omega,by omega,by rw[sz];omega⟩,?_⟩
 rw[Fg];refine⟨by decide,(λ_ h=>h.elim),a,dx,ad,b,n,e,n,ps,_,rfl,by rw[List.length_replicate],by omega,he,.inl trivial,?_⟩
 symm;subst hN;refine aw λN hN=>?_;symm;refine⟨⟨_,_,_,_,_,rfl,rfl⟩,⟨_,rfl⟩,ry2,9,rfl,by decide,by decide,λr2 y3 r20 r21 ry3=>?_⟩
 symm;refine⟨by decide,⟨by simp,by omega,by omega,by rw[sz];omega⟩,?_⟩
 rw[Fg];refine⟨by decide,(λ_ h=>h.elim),a,dx,ad,b,n,e+1,n,ps++[(e,_)],_,rfl,by rw[List.length_replicate],by rw[List.length_append,List.length_singleton];omega,EZ he,.inl trivial,?_⟩
 symm;subst hN;refine aw λN hN=>?_;symm;refine⟨⟨_,_,_,_,_,rfl,rfl⟩,by decide,(λ_ h=>h.elim),a,dx,ad,_,n,e+1+1,e,_,rfl,D0 he,.inl trivial,?_⟩
 symm;rw[Dd he];subst hN;symm;refine⟨⟨_,_,_,_,_,rfl,rfl⟩,by decide,(λ_ h=>h.elim),a,dx,ad,_,n,e+1+1,e+1,_,rfl,by rw[vg (λq hq=>by have:=he q hq;omega)];rfl,.inl trivial,?_⟩
 symm;rw[yq,drop_new (λq hq=>by have:=he q hq;omega)]
 have e2:e+1+1=e+2:=by omega
 rw[e2];exact Ds _ _ _ ry3
def dr(n:Nat):List Int:=(List.range n).map λi:Nat=>(i:Int)
theorem fu(n:Nat):(dr n).length=n:=by unfold dr;rw[List.length_map,List.length_range]
theorem oq{n k:Nat}(h:k<n):(dr n).getD k 0=(k:Int):=by
 unfold dr;rw[List.getD_eq_getElem?_getD,List.getElem?_map,List.getElem?_range h];rfl
theorem mS{n k:Nat}(h:k<n):(dr n)[k]?=some (k:Int):=by
 unfold dr;rw[List.getElem?_map,List.getElem?_range h];rfl
theorem yU{m:Nat}:∀r:List D,(∀d∈r,∃k:Nat,d=.int k/\k<m)->r.map (Xa (dr m))=r
 | [],_=>rfl
 | d::r,h=>by
  obtain⟨k,rfl,hk⟩:=h d (List.mem_cons_self ..);rw[List.map_cons,yU r λx hx=>h x (List.mem_cons_of_mem _ hx)];show D.int ((dr m).getD k 0)::r=_;rw[oq hk]
theorem d7{m:Nat}{d:D}(h:eP m d):g6 (dr m) d=d:=by
 unfold eP at h
 split at h
 ·rfl
 ·rename_i f r
  show D.tup (.int f::r.map (Xa (dr m)))=_;rw[yU r h.2]
 ·exact h.elim
structure KS(n m:Nat)(ks:List Int)(pts:List (List Int))(ps qs:List (Int×List Int)):Prop where
 p:Gx n ps
 q:Gx n qs
 pn:ps.map (·.1)=dr m
 qn:qs.map (·.1)=ks
 pp:ps.map (·.2)=pts
 qp:qs.map (·.2)=pts
 m1:ps.length=m
 m2:qs.length=m
theorem KS.kl{n m:Nat}{ks:List Int}{pts:List (List Int)}{ps qs:List (Int×List Int)}(h:KS n m ks pts ps qs):ks.length=m:=by rw[<- h.qn,List.length_map,h.m2]
theorem KS.pl{n m:Nat}{ks:List Int}{pts:List (List Int)}{ps qs:List (Int×List Int)}(h:KS n m ks pts ps qs):pts.length=m:=by rw[<- h.pp,List.length_map,h.m1]
def oC:bf:=λds Q=>∃b c e c2 e2 ks ps qs j,ds=[.kp (aK b) c e (bO ps),.kp (aK b) c2 e2 (bO qs),.dW (o6 ks),.int j]/\∃n m pts,KS n m ks pts ps qs/\0<=j/\Q (.sh (.bl true))
theorem HP(ds:List D)(Q:B->Prop)(h:oC ds Q):FT xQ kG dH kF oG {nx:=λ_=>Q (.sh .aW),rt:=λb _=>Q b} (aR Bv.length ds):=by
 obtain⟨b,c,e,c2,e2,ks,ps,qs,j,rfl,n,m,pts,tw,hj,h⟩:=h;have DS:=tw.kl;have dI:=tw.pl;have hl:=tw.p.len;have m1:=tw.m1;have okN:b7 8 (.lst (ks.map D.int))=true:=jK _;have eqN:il (.lst (ks.map D.int)) (.lst (ks.map D.int))=true:=ip _;have f2:dw (g6 ks (oW b pts)):=jg (by rw[DS,<- dI];exact iJ b _)
 unfold FT;refine aw λN hN=>?_;symm;refine⟨⟨_,_,_,_,rfl⟩,⟨List.nodup_nil,(λ_ h=>h.elim),[.kp (aK b) c e (bO ps)],rfl,b,c,e,n,ps,rfl,tw.p,.inl trivial,?_⟩⟩;rw[tw.pn,tw.pp,d7 (by rw[<- dI];exact iJ b pts)]
 symm;refine⟨ks,_,rfl,by rw[DS,<- dI];exact iJ b pts,?_⟩
 symm;refine⟨⟨_,_,_,_,rfl⟩,⟨List.nodup_nil,(λ_ h=>h.elim),[.kp (aK b) c2 e2 (bO qs)],rfl,b,c2,e2,n,qs,rfl,tw.q,.inl trivial,?_⟩⟩;rw[tw.qn,tw.qp];symm;refine⟨⟨dY (m:=6) f2,dY (m:=6) f2⟩,?_⟩;rw[jD f2];rw[if_neg ∅,HD]
 refine⟨by rw[List.all_map];exact List.all_eq_true.mpr λ_ _=>rfl,by rw[List.length_map,DS];omega,?_⟩
 refine⟨⟨_,_,_,_,rfl⟩,⟨List.nodup_nil,(λ_ h=>h.elim),[.kp (aK b) c2 e2 (bO qs)],rfl,aK b,c2,e2,n,qs,rfl,tw.q,.inl trivial,?_⟩⟩;have Wk:ks.Pairwise λx y:Int=>x<y:=by rw[<- tw.qn];exact tw.q.inc
 rw[d6,tw.qn,nO,List.map_id',dD Wk];symm;refine⟨⟨okN,okN⟩,?_⟩;rw[eqN,if_neg ∅]
 subst hN;refine aw λN hN=>?_;symm;refine⟨rfl,_,rfl,?_⟩;have ek:cL (o6 ks)=(List.range m).map λk:Nat=>D.int (k:Int):=by
  unfold cL;rw[yV,List.map_map,DS];rfl
 rw[ek];symm;refine jC (λk:Nat=>D.int (k:Int)) (λ_=>none) (List.range m) (λk hk A Bn ha=>?_) (by rw[List.length_range,sz];omega) ?_
 ·have hk:=List.mem_range.mp hk
  have hn:eP ks.length (dU b pts k):=by rw[DS,<- dI];exact jS b pts k ⋯
  have fk:dw (g6 ks (dU b pts k)):=jg hn;walk_at "vg";symm;refine⟨⟨_,_,_,_,rfl⟩,⟨List.nodup_nil,(λ_ h=>h.elim),[.kp (aK b) c e (bO ps),.int (k:Int)],rfl,b,c,e,n,ps,k,_,rfl,tw.p,by rw[tw.pn];exact mS hk,.inl trivial,?_⟩⟩
  rw[tw.pn,tw.pp,d7 (by rw[<- dI];exact jS b pts k ⋯)]
  symm;refine⟨ks,_,rfl,hn,?_⟩;symm;refine⟨⟨_,_,_,_,rfl⟩,_,mO ⋯,?_⟩
  symm;refine⟨List.nodup_nil,(λ_ h=>h.elim),[.kp (aK b) c2 e2 (bO qs),.int (ks.getD k 0)],rfl,b,c2,e2,n,qs,k,_,rfl,tw.q,?_,.inl trivial,?_⟩
  ·rw[tw.qn,List.getD_eq_getElem?_getD,List.getElem?_eq_getElem (show k<ks.length by omega)];rfl
  rw[tw.qn,tw.qp];symm;refine⟨⟨dY (m:=6) fk,dY (m:=6) fk⟩,?_⟩;rw[jD fk];exact(if_neg ∅).mpr ha
 rw[show(List.range m).filterMap (λ_:Nat=>(none:Option D))=[]from by simp]
 refine⟨rfl,Nat.zero_le _,⟨rfl,rfl⟩,?_⟩;rw[if_neg ∅]
 subst hN;symm;refine⟨⟨_,_,_,_,rfl⟩,⟨List.nodup_nil,(λ_ h=>h.elim),[.kp (aK b) c e (bO ps),.int j],rfl,b,c,e,n,ps,j,rfl,tw.p,hj,.inl trivial,?_⟩⟩;obtain⟨rs,er,hr,hrs⟩:=nV b pts j;have hzp:=n8 (b:=b) (pts:=pts) ⋯
 rw[tw.pn,tw.pp,jR er];symm;refine dz (Il (dr m)) (Il ks) rs (λp hp A ha=>?_) (by rw[sz];omega) ?_
 ·obtain⟨h1,h2⟩:=hrs p hp
  have e0:Il (dr m) p=D.tup [.int (p.1:Nat),.int (p.2:Nat)]:=by
   unfold Il;rw[oq ⋯,oq ⋯]
  rw[e0];walk_at "vg";symm;refine⟨_,mO ⋯,_,mO ⋯,?_⟩
  exact⟨by decide,ha⟩
 refine⟨⟨_,_,_,_,rfl⟩,⟨List.nodup_nil,(λ_ h=>h.elim),[.kp (aK b) c2 e2 (bO qs),.int j],rfl,b,c2,e2,n,qs,j,rfl,tw.q,hj,.inl trivial,?_⟩⟩;rw[tw.qn,tw.qp,jR er];symm;have fQ:∀d∈rs.map (Il ks),dw d:=λd hd=>by
  obtain⟨p,hp,rfl⟩:=List.mem_map.mp hd;exact⟨[_,_],rfl⟩
 refine⟨⟨uT fQ,uT fQ⟩,?_⟩;rw[show il (.lst _) (.lst _)=true from nq fQ]
 exact h
structure Mix(n m:Nat)(ord:List Nat)(pts fc:List (List Int))(ps qs:List (Int×List Int)):Prop where
 p:Gx n ps
 q:Gx n qs
 pn:ps.map (·.1)=dr m
 qn:qs.map (·.1)=dr m
 pp:ps.map (·.2)=pts
 qp:qs.map (·.2)=fc
 m1:ps.length=m
 m2:qs.length=m
 perm:ord.Perm (List.range m)
 fc:fc=ord.map λk=>pts.getD k []
def AG(ord:List Nat):List (Int×D):=(List.range ord.length).map λi:Nat=>(((ord.getD i 0:Nat):Int),D.int (i:Int))
theorem rT(ord:List Nat):(AG ord).map (·.1)=ord.map λk:Nat=>(k:Int):=by
 unfold AG;rw[List.map_map];apply List.ext_getElem?;intro i;rw[List.getElem?_map,List.getElem?_map]
 by_cases h:i<ord.length
 ·rw[List.getElem?_range h,List.getElem?_eq_getElem h]
  show some ((ord.getD i 0:Nat):Int)=_;rw[List.getD_eq_getElem?_getD,List.getElem?_eq_getElem h];rfl
 ·rw[List.getElem?_eq_none (by simpa using h),List.getElem?_eq_none (by simpa using h)];rfl
theorem HN{ord:List Nat}(hd:ord.Nodup){i:Nat}(h:i<ord.length):cY (AG ord) ((ord.getD i 0:Nat):Int)=some (.int (i:Int)):=by
 refine jm (p:=(((ord.getD i 0:Nat):Int),D.int (i:Int))) ?_ (List.mem_map.mpr ⟨i,List.mem_range.mpr h,rfl⟩);rw[rT];exact List.Pairwise.map _ (λa b (e:a≠b) z=>e (Int.ofNat.inj z)) hd
theorem Ax{m:Nat}{d:D}(h:eP m d):d=.aW\/∃f r,d=.tup (.int f::r):=by
 unfold eP at h
 split at h
 ·exact .inl rfl
 ·exact .inr ⟨_,_,rfl⟩
 ·exact h.elim
theorem eqI(a:Int):il (.int a) (.int a)=true:=by simp [il]
theorem sv{m:Nat}{pts:List (List Int)}{ps:List (Int×List Int)}(pn:ps.map (·.1)=dr m)(pp:ps.map (·.2)=pts)(inc:(ps.map (·.1)).Pairwise λx y:Int=>x<y){k:Nat}(hk:k<m):cY (bO ps) (k:Int)=some (gE (pts.getD k [])):=by
 have hl:ps.length=m:=by have:=congrArg List.length pn;rw[List.length_map,fu]at this;exact this
 have e:=jM inc (List.getElem?_eq_getElem (show k<ps.length by omega))
 have e1:(ps[k]'⋯).1=(k:Int):=by
  have:=congrArg (λl=>l[k]?) pn;simp only[List.getElem?_map]at this;rw[mS hk,List.getElem?_eq_getElem (show k<ps.length by omega)]at this
  exact Option.some.inj this
 have e2:(ps[k]'⋯).2=pts.getD k []:=by
  rw[<- pp,List.getD_eq_getElem?_getD,List.getElem?_map,List.getElem?_eq_getElem (show k<ps.length by omega)];rfl
 rw[e1,e2]at e;exact e
def oH:bf:=λds Q=>∃b c e c2 e2 ord ps qs j,ds=[.kp (aK b) c e (bO ps),.kp (aK b) c2 e2 (bO qs),.dW (AG ord),.int j]/\∃n m pts fc,Mix n m ord pts fc ps qs/\0<=j/\Q (.sh (.bl true))
def rk(te:TV):TV:=h8 (xV te (tK (bz (ak [] (bg (.int 0))) tN))) (bg (.int 0))
theorem mK{te:TV}{σ:Sd}{Q:OV->Sd->Prop}(h:te σ λx av=>rk (λaH K=>K x aH) av Q):rk te σ Q:=h
theorem mL{m:Nat}{d:D}{σ:Sd}{Q:OV->Sd->Prop}(h:eP m d)(q:Q (.val (.int (dX d))) σ):rk (λaH K=>K (.val d) aH) σ Q:=by
 rcases Ax h with rfl|⟨f,r,rfl⟩
 ·unfold rk
  symm;exact(if_neg ∅).mpr ⟨by decide,cX (n:=0) rfl rfl q⟩
 ·unfold rk
  symm;exact(if_pos rfl).mpr (cX (n:=0) rfl rfl q)
theorem Ee(b9:bf)(cc:bf)(fX:bf)(eI:bf):S6 b9 cc fX eI=(ck (dt (v9 (bq neT (aX (fB fM (bT (aX (gG (cF b9) (ak [] (af 0)) (gF (ak [] (af 3)) dk))) eM))) (aX (fB fM (bT (aX (gG (cF b9) (ak [] (af 1)) (gF (ak [] (af 3)) dk))) eM)))) (bq neT (rk (aX (gG (cF cc) (ak [] (af 0)) dk))) (rk (aX (gG (cF cc) (ak [] (af 1)) dk))))) (fC [] (oX (bg (.bl false)))) mw) (ck (oV 2 (gB 4) (ck (dt (bq neT (aX (gG (cF fX) (ak [] (af 0)) (gF (ak [] (af 4)) dk))) (aX (gG (cF fX) (ak [] (af 1)) (gF (ak [] (f9 (af 2) (af 4))) dk)))) (fC [] (oX (bg (.bl false)))) mw) (dt (bq neT (rk (aX (gG (cF eI) (ak [] (af 0)) (gF (ak [] (af 4)) dk)))) (rk (aX (gG (cF eI) (ak [] (af 1)) (gF (ak [] (f9 (af 2) (af 4))) dk))))) (fC [] (oX (bg (.bl false)))) mw))) (fC [] (oX (bg (.bl true)))))):=rfl
theorem HS(ds:List D)(Q:B->Prop)(h:oH ds Q):S6 oG kG oJ kF {nx:=λ_=>Q (.sh .aW),rt:=λb _=>Q b} (aR Kz.length ds):=by
 obtain⟨b,c,e,c2,e2,ord,ps,qs,j,rfl,n,m,pts,fc,mx,hj,h⟩:=h;have dI:pts.length=m:=by rw[<- mx.pp,List.length_map,mx.m1]
 have TJ:fc.length=m:=by rw[<- mx.qp,List.length_map,mx.m2]
 have Wt:ord.length=m:=by have:=mx.perm.length_eq;rw[List.length_range]at this;exact this
 have hl:=mx.p.len;have m1:=mx.m1;have pm:pts.Perm fc:=by
  rw[mx.fc];have:=mx.perm.map λk=>pts.getD k [];rw[<- dI,qo]at this;exact this.symm
 rw[Ee];refine aw λN hN=>?_;symm;refine⟨⟨_,_,_,_,rfl⟩,⟨List.nodup_nil,(λ_ h=>h.elim),[.kp (aK b) c e (bO ps),.int j],rfl,b,c,e,n,ps,j,rfl,mx.p,hj,.inl trivial,?_⟩⟩;symm;refine⟨⟨_,_,_,_,rfl⟩,⟨List.nodup_nil,(λ_ h=>h.elim),[.kp (aK b) c2 e2 (bO qs),.int j],rfl,b,c2,e2,n,qs,j,rfl,mx.q,hj,.inl trivial,?_⟩⟩;symm;have en:∀ks:List Int,∀xs:List (List Int),(vt ks b xs j).length=(gu b xs j).length:=λks xs=>List.length_map _;rw[en,en,mx.pp,mx.qp,Aw b pm j];refine⟨⟨rfl,rfl⟩,?_⟩;rw[eqI,if_neg ∅]
 have f1:=Gg b pm;have n1:=iJ b pts;have n2:=iJ b fc;rw[dI]at n1;rw[TJ]at n2;refine mK ?_;symm;refine⟨⟨_,_,_,_,rfl⟩,⟨List.nodup_nil,(λ_ h=>h.elim),[.kp (aK b) c e (bO ps)],rfl,b,c,e,n,ps,rfl,mx.p,.inl trivial,?_⟩⟩;rw[mx.pn,mx.pp,d7 n1];have go:N [some (.sh (.kp (aK b) c e (bO ps))),some (.sh (.kp (aK b) c2 e2 (bO qs))),some (.sh (.dW (AG ord))),some (.sh (.int j)),none]:=by
  subst hN;refine aw λN hN=>?_;show oV _ _ _ _ _;generalize ht:ck _ _=tb;symm;refine⟨rfl,_,rfl,?_⟩;have ek:cL (AG ord)=ord.map λk:Nat=>D.int (k:Int):=by
   unfold cL;rw[rT,List.map_map];rfl
  rw[ek];refine iu (λk:Nat=>D.int (k:Int)) ord (λ_ σ=>∃x4,shB x4=true/\σ=[some (.sh (.kp (aK b) c e (bO ps))),some (.sh (.kp (aK b) c2 e2 (bO qs))),some (.sh (.dW (AG ord))),some (.sh (.int j)),x4]) (λi k σ N2 hx hI Af=>?_) (λσ hI=>?_) ⟨none,rfl,rfl⟩
  ·obtain⟨x4,_,rfl⟩:=hI
   have hi:i<ord.length:=(List.getElem?_eq_some_iff.mp hx).1;have hk:k<m:=List.mem_range.mp (mx.perm.mem_iff.mp (List.mem_of_getElem? hx));have hoi:ord.getD i 0=k:=by rw[List.getD_eq_getElem?_getD,hx];rfl
   have hnd:ord.Nodup:=mx.perm.nodup_iff.mpr List.nodup_range;have hov:=HN hnd hi;rw[hoi]at hov;have hqi:fc.getD i []=pts.getD k []:=by
    rw[mx.fc,List.getD_eq_getElem?_getD,List.getElem?_map,hx];rfl
   have fp:dw (gE (pts.getD k [])):=⟨_,rfl⟩;walk_at "vg";subst ht;refine aw λN3 G7=>?_;symm;refine⟨⟨_,_,_,_,rfl⟩,⟨List.nodup_nil,(λ_ h=>h.elim),[.kp (aK b) c e (bO ps),.int (k:Int)],rfl,aK b,c,e,bO ps,(k:Int),_,rfl,sv mx.pn mx.pp mx.p.inc hk,.inl trivial,?_⟩⟩;symm;refine⟨⟨_,_,_,_,rfl⟩,_,hov,?_⟩;symm;refine⟨List.nodup_nil,(λ_ h=>h.elim),[.kp (aK b) c2 e2 (bO qs),.int (i:Int)],rfl,aK b,c2,e2,bO qs,(i:Int),_,rfl,sv mx.qn mx.qp mx.q.inc ⋯,.inl trivial,?_⟩
   rw[hqi];symm;refine⟨⟨dY (m:=6) fp,dY (m:=6) fp⟩,?_⟩;rw[jD fp];refine(if_neg ∅).mpr ?_
   subst G7;symm;have nk:eP m (dU b pts k):=by rw[<- dI];exact jS b pts k ⋯
   have ni:eP m (dU b fc i):=by rw[<- TJ];exact jS b fc i ⋯
   have f1:=rR b pm (i:=k) (j:=i) ⋯ ⋯ hqi.symm
   refine mK ?_;symm;refine⟨⟨_,_,_,_,rfl⟩,⟨List.nodup_nil,(λ_ h=>h.elim),[.kp (aK b) c e (bO ps),.int (k:Int)],rfl,b,c,e,n,ps,k,_,rfl,mx.p,by rw[mx.pn];exact mS hk,.inl trivial,?_⟩⟩
   rw[mx.pn,mx.pp,d7 nk];have fin:N2 [some (.sh (.kp (aK b) c e (bO ps))),some (.sh (.kp (aK b) c2 e2 (bO qs))),some (.sh (.dW (AG ord))),some (.sh (.int j)),some (.sh (.int (k:Int)))]:=Af _ ⟨_,rfl,rfl⟩;refine mL nk ?_;refine mK ?_;symm;refine⟨⟨_,_,_,_,rfl⟩,_,hov,?_⟩;symm;refine⟨List.nodup_nil,(λ_ h=>h.elim),[.kp (aK b) c2 e2 (bO qs),.int (i:Int)],rfl,b,c2,e2,n,qs,i,_,rfl,mx.q,by rw[mx.qn];exact mS ⋯,.inl trivial,?_⟩
   rw[mx.qn,mx.qp,d7 ni];refine mL ni ?_;symm;refine⟨⟨rfl,rfl⟩,?_⟩;rw[<- f1,eqI];exact(if_neg ∅).mpr fin
  ·obtain⟨x4,hx4,rfl⟩:=hI
   refine⟨?_,?_⟩
   ·show(true&&(true&&(true&&(true&&(shB x4&&true)))))=true
    rw[hx4];rfl
   subst hN;symm;exact h
 refine mL n1 ?_;refine mK ?_;symm;refine⟨⟨_,_,_,_,rfl⟩,⟨List.nodup_nil,(λ_ h=>h.elim),[.kp (aK b) c2 e2 (bO qs)],rfl,b,c2,e2,n,qs,rfl,mx.q,.inl trivial,?_⟩⟩;rw[mx.qn,mx.qp,d7 n2];refine mL n2 ?_;symm;refine⟨⟨rfl,rfl⟩,?_⟩;rw[<- f1,eqI];exact(if_neg ∅).mpr go
theorem wd(b:Bool)(Q:D->Prop)(q:Q (dR (!b))):(b7 8 (dR b)=true/\b7 8 (D.str (Str.ofString "streets"))=true)/\Ka (D.lst [D.str (Str.ofString "streets"),D.str (Str.ofString "squares")]) (D.int (if il (dR b) (D.str (Str.ofString "streets"))=true then 1 else 0)) Q:=by
 refine⟨⟨tO b,by decide +kernel⟩,?_⟩
 rw[ie b];cases b with
 | true=>exact bH (n:=0) rfl rfl q
 | false=>exact bH (n:=1) rfl rfl q
def bF(pts:List (List Int)):List (Int×List Int):=(dr pts.length).zip pts
theorem AQ(n:Nat):dr (n+1)=dr n++[(n:Int)]:=by unfold dr;rw[List.range_succ,List.map_append];rfl
theorem mX{α β:Type}{ks:List α}{ps:List β}(h:ks.length=ps.length)(k:α)(p:β):(ks++[k]).zip (ps++[p])=ks.zip ps++[(k,p)]:=by
 rw[List.zip_append h];rfl
theorem fD(pts:List (List Int))(p:List Int):bF (pts++[p])=bF pts++[((pts.length:Int),p)]:=by
 unfold bF;rw[List.length_append,List.length_singleton,AQ,mX (fu _)]
theorem bB(pts:List (List Int)):(bF pts).map (·.1)=dr pts.length:=List.map_fst_zip (by rw[fu];exact Nat.le_refl _)
theorem cz(pts:List (List Int)):(bF pts).map (·.2)=pts:=List.map_snd_zip (by rw[fu];exact Nat.le_refl _)
theorem eL(pts:List (List Int)):(bF pts).length=pts.length:=by unfold bF;rw[List.length_zip,fu,Nat.min_self]
theorem tP(pts:List (List Int)):∀q∈bF pts,q.1<(pts.length:Int):=λq hq=>by
 have:q.1∈(bF pts).map (·.1):=List.mem_map_of_mem hq
 rw[bB]at this;unfold dr at this;obtain⟨k,hk,e⟩:=List.mem_map.mp this;have:=List.mem_range.mp hk;omega
theorem OW(ks:List Int)(k:Int):jL (o6 ks) (ks.length:Int) (.int k)=o6 (ks++[k]):=by
 unfold jL;rw[if_neg (by
  rw[List.any_eq_true];rintro⟨x,hx,hd⟩;unfold o6 at hx;obtain⟨i,hi,rfl⟩:=List.mem_map.mp hx;have:=List.mem_range.mp hi;have hd:(i:Int)=ks.length:=of_decide_eq_true hd;omega)]
 unfold o6;rw[List.length_append,List.length_singleton,List.range_succ,List.map_append];congr 1
 ·refine List.map_congr_left λi hi=>?_
  have:=List.mem_range.mp hi;rw[List.getD_eq_getElem?_getD,List.getD_eq_getElem?_getD,List.getElem?_append_left this]
 ·have:(ks++[k]).getD ks.length 0=k:=by rw[List.getD_eq_getElem?_getD,List.getElem?_append_right (Nat.le_refl _),Nat.sub_self];rfl
  rw[List.map_cons,List.map_nil,this]
theorem wR{α:Type}{g:fG}{te:TD}{c6:Sd}{m n:Nat}{Q:List D->List D->List D->Prop}(gi:α->D)(I:Nat->List D->List D->List D->Prop)(l:List α)(hl:l.length<=sizeLine)
  (h:∀i a,l[i]?=some a->∀acc xs zs,I i acc xs zs->∀(Z:Prop),Z->∀(A:D->List D->List D->Prop),(∀d ys ws,I (i+1) (acc++[d]) ys ws->A d ys ws)->g (gi a) ((c6.set m (some (.own xs))).set n (some (.own zs))) λav=>te av λd c9=>gD c6 c9/\Z/\ownAt m c9 λys=>ownAt n c9 λws=>A d ys ws)
  (tV GI:List D) (h0:I 0 [] tV GI) (hlen:∀i acc xs zs,I i acc xs zs->acc.length=i) (q:∀acc xs zs,I l.length acc xs zs->Q acc xs zs):fJ g cR te c6 m n (l.map gi) [] tV GI Q:=by
 have key:∀(l2:List α) (i:Nat) (acc xs zs:List D),(∀j:Nat,l2[j]?=l[i+j]?)->i+l2.length=l.length->I i acc xs zs->fJ g cR te c6 m n (l2.map gi) acc xs zs Q:=by
  intro l2
  induction l2 with
  | nil =>
   intro i acc xs zs _ hi hI;have:i=l.length:=by simpa using hi
   exact q acc xs zs (this ▸ hI)
  | cons a l2 ih =>
   intro i acc xs zs hj hi hI;have hla:=hlen i acc xs zs hI;have hi':i+(l2.length+1)=l.length:=by simpa using hi
   show g (gi a) _ λav=>_;refine h i a (by have:=hj 0;simpa using this.symm) acc xs zs hI _ (show acc.length<sizeLine by omega) (λd ys ws=>fJ g cR te c6 m n (l2.map gi) (acc++[d]) ys ws Q) λd ys ws hI'=>?_
   refine ih (i+1) _ _ _ (λj=>?_) ⋯ hI'
   have:=hj (j+1);rw[show i+1+j=i+(j+1)by omega]
   simpa using this
 exact key l 0 [] tV GI (λj=>by rw[Nat.zero_add]) ⋯ h0
theorem zS{α:Type}{g:fG}{te:TD}{c6:Sd}{m:Nat}{a dx ad:Addr}{w:Str}{c:Int}{Q:List D->Int->List (Int×D)->Prop}(gi:α->D)(I:Nat->List D->Int->List (Int×D)->Prop)(l:List α)(hl:l.length<=sizeLine)
  (h:∀i x,l[i]?=some x->∀acc e kvs,I i acc e kvs->∀(Z:Prop),Z->∀(A:D->Int->List (Int×D)->Prop),(∀d e' d2,I (i+1) (acc++[d]) e' d2->A d e' d2)->g (gi x) (c6.set m (some (.obj (cD a dx ad w c e kvs)))) λav=>te av λd c9=>∃e' d2,gD c6 c9/\Z/\c9[m]?=some (some (.obj (cD a dx ad w c e' d2)))/\A d e' d2)
  (e0:Int) (jO:List (Int×D)) (h0:I 0 [] e0 jO) (hlen:∀i acc e kvs,I i acc e kvs->acc.length=i) (q:∀acc e kvs,I l.length acc e kvs->Q acc e kvs):kW g te c6 m a dx ad w c (l.map gi) [] e0 jO Q:=by
 have key:∀(l2:List α) (i:Nat) (acc:List D) (e:Int) (kvs:List (Int×D)),(∀j:Nat,l2[j]?=l[i+j]?)->i+l2.length=l.length->I i acc e kvs->kW g te c6 m a dx ad w c (l2.map gi) acc e kvs Q:=by
  intro l2
  induction l2 with
  | nil =>
   intro i acc e kvs _ hi hI;have:i=l.length:=by simpa using hi
   exact q acc e kvs (this ▸ hI)
  | cons x l2 ih =>
   intro i acc e kvs hj hi hI;have hla:=hlen i acc e kvs hI;have hi':i+(l2.length+1)=l.length:=by simpa using hi
   show g (gi x) _ λav=>_;refine h i x (by have:=hj 0;simpa using this.symm) acc e kvs hI _ (show acc.length<sizeLine by omega) (λd e' d2=>kW g te c6 m a dx ad w c (l2.map gi) (acc++[d]) e' d2 Q) λd e' d2 hI'=>?_
   refine ih (i+1) _ _ _ (λj=>?_) ⋯ hI'
   have:=hj (j+1);rw[show i+1+j=i+(j+1)by omega]
   simpa using this
 exact key l 0 [] e0 jO (λj=>by rw[Nat.zero_add]) ⋯ h0
def A8(k:Nat):D:=.int (k:Int)
theorem vO(m:Nat):(dr m).map D.int=(List.range m).map A8:=by unfold dr;rw[List.map_map];rfl
theorem DX{kvs:List (Int×D)}{i:Int}{d:D}(h:i∉kvs.map (·.1)):jL kvs i d=kvs++[(i,d)]:=by
 unfold jL;rw[if_neg];rw[List.any_eq_true];rintro⟨x,hx,hd⟩;exact h (List.mem_map.mpr ⟨x,hx,of_decide_eq_true hd⟩)
theorem nB:∀(more acc:List (Int×D)),(acc.map (·.1)++more.map (·.1)).Nodup->k7 acc more=acc++more
 | [],acc,_=>(List.append_nil acc).symm
 | q::more,acc,h=>by
  show k7 (jL acc q.1 q.2) more=_;have h0:q.1∉acc.map (·.1):=λz=>by
   rw[List.map_cons,List.nodup_append]at h;exact h.2.2 q.1 z q.1 (.head _) rfl
  rw[DX h0,nB more (acc++[(q.1,q.2)]) (by
   rw[List.map_append,List.append_assoc];exact h)]
  rw[List.append_assoc];rfl
theorem nY{α:Type}{f:α->D}(h:∀x,El (f x)=true):∀l:List α,d3 (l.map f)=true
 | []=>rfl
 | x::l=>by
  show(El (f x)&&d3 (l.map f))=true;rw[h x,nY h l];rfl
theorem Eo{ord:List Nat}(hd:ord.Nodup):k7 [] (((List.range ord.length).map λt:Nat=>D.tup [A8 (ord.getD t 0),.int (t:Int)]).map D5)=AG ord:=by
 have e:((List.range ord.length).map λt:Nat=>D.tup [A8 (ord.getD t 0),.int (t:Int)]).map D5=AG ord:=by rw[List.map_map];rfl
 rw[e,nB _ _ (by
  show(([]:List Int)++(AG ord).map (λq=>q.1)).Nodup;rw[List.nil_append,rT];exact List.Pairwise.map _ (λa b (e:a≠b) z=>e (Int.ofNat.inj z)) hd),List.nil_append]
theorem nX{d:D}(h:dw d):El d=true:=by
 unfold dw at h
 split at h
 ·rfl
 ·obtain⟨ns,rfl⟩:=h
  exact jV ns
 ·exact h.elim
theorem lu:∀ {l:List D},(∀d∈l,dw d)->d3 l=true
 | [],_=>rfl
 | d::l,h=>by
  show(El d&&d3 l)=true;rw[nX (h d (.head _)),lu λx hx=>h x (.tail _ hx)];rfl
theorem xk(ks:List Int)(b:Bool)(pts:List (List Int))(j:Int):∀d∈vt ks b pts j,dw d:=λd hd=>by
 obtain⟨rs,er,_,_⟩:=nV b pts j;rw[jR er]at hd;obtain⟨p,_,rfl⟩:=List.mem_map.mp hd;exact⟨[_,_],rfl⟩
theorem A2{d:D}{l:List D}(h:dw d)(g:∀x∈l,dw x):b7 8 (.lst [d,.lst l])=true/\il (.lst [d,.lst l]) (.lst [d,.lst l])=true:=by
 constructor
 ·show([d,.lst l].all (b7 7))=true
  rw[List.all_cons,List.all_cons,List.all_nil,dY (m:=5) h];show(true&&(l.all (b7 6)&&true))=true;rw[List.all_eq_true.mpr λx hx=>dY (m:=4) (g x hx)];rfl
 ·show(il d d&&(pj l l&&true))=true
  rw[jD h,nq g];rfl
def oP:jv:=λxs ds Q=>cW xs/\∃(b:Bool) (n:Nat),ds=[dR b,.int n]/\1<=n/\n<=3/\∀ys,cW ys->Q (.sh (.bl true)) ys
theorem HY(xs ds:List D)(Q:B->List D->Prop)(h:oP xs ds Q):FW sS fV xR sR oM dH oC oH kG oG {nx:=rJ Q (.sh .aW),rt:=λb σ=>rJ Q b σ} (bj Bz.length xs ds):=by
 obtain⟨r0,b,n,rfl,n1,n3,h⟩:=h;have Ds:∀(ys:List D) (r:Sd),cW ys->rJ Q (.sh (.bl true)) (some (.own ys)::r):=λys r hy=>h ys hy;clear h;generalize rJ Q=MQ at Ds;unfold FW;simp only[bj];refine aw λN hN=>?_;symm;show um _ _ _ [D.int 0,D.int 1,D.int 2] [] _;simp only[um];walk_at "vg";symm;refine⟨b,n,rfl,by omega,by omega,λa3 Zm Zf=>⟨_,rfl,b,n,rfl,by omega,by omega,λa4 Va Ut=>⟨_,rfl,b,n,rfl,by omega,by omega,λa5 Vb Uu=>⟨_,rfl,?_⟩⟩⟩⟩
 subst hN;refine aw λN hN=>?_;symm;refine⟨by decide,wd b _ ⟨!b,n,rfl,by omega,by omega,λa6 Zn Zg=>?_⟩⟩
 subst hN;refine aw λN hN=>?_;symm;refine⟨by decide,wd b _ ⟨!b,n,rfl,by omega,by omega,λa7 Zo Zh=>?_⟩⟩
 subst hN;refine aw λN hN=>?_;symm;intro p8;subst hN;refine aw λN hN=>?_;symm;intro p9;subst hN;refine aw λN hN=>?_;show h7 _ _ _ _ _;generalize ht:ck (Fv _ _ _) _=tb;symm;refine⟨⟨_,rfl⟩,r0,13,rfl,by decide,by decide,λtr y1 tr0 tr1 ry1=>?_⟩
 symm;obtain⟨many,rfl⟩:∃k:Nat,tr=k:=⟨tr.toNat,by omega⟩
 rw[Int.toNat_natCast,eG];refine⟨by omega,iu (λi:Nat=>.int (0+(i:Nat))) (List.range many) (λi σ=>∃y pts ks e4 x10,σ=[some (.own y),some (.sh (dR b)),some (.sh (.int n)),some (.obj (cD a3 Zm Zf (aK b) n (pts.length:Int) (bO (bF pts)))),some (.obj (cD a4 Va Ut (aK b) n e4 (bO (ks.zip pts)))),some (.obj (cD a5 Vb Uu (aK b) n 0 [])),some (.obj (cD a6 Zn Zg (aK (!b)) n (pts.length:Int) (bO (bF pts)))),some (.obj (cD a7 Zo Zh (aK (!b)) n 0 [])),some (.obj (wm p8 (bO (bF pts)))),some (.obj (wm p9 (o6 ks))),x10,none,none,none,none,none]/\cW y/\pts.length=i/\ks.length=i/\tY n (bF pts)/\tY n (ks.zip pts)/\∀q∈ks.zip pts,q.1<e4) (λi k σ N2 hx hI Af=>?_) (λσ hI=>?_) ⟨y1,[],[],0,none,rfl,ry1,rfl,rfl,⟨n1,n3,(λq hq=>by cases hq),.nil,by decide⟩,⟨n1,n3,(λq hq=>by cases hq),.nil,by decide⟩,λq hq=>by cases hq⟩⟩
 ·obtain⟨rfl,hi⟩:=iB hx
  obtain⟨y,pts,ks,e4,x10,rfl,ry,hpi,Wk,kp,kb,J5⟩:=hI;walk_at "vg";subst ht;refine aw λN3 G7=>?_;symm;refine⟨⟨_,rfl⟩,⟨_,rfl⟩,by decide,(λj hj=>by rw[List.mem_singleton.mp hj];decide),y,[.int n,.dW (bO (bF pts))],rfl,ry,n,bF pts,rfl,kp,λp y6 hp hf r6=>?_⟩
  have Wr:d3 y6=true:=by obtain⟨_,_,rfl⟩:=r6;rfl
  refine⟨.inr ⟨Kc p,Xd Wr _⟩,?_⟩;symm;have lU:=tP pts;have ZP:=eL pts;have ek:(k:Int)=(pts.length:Int):=by omega
  refine⟨⟨_,_,rfl⟩,p8,bO (bF pts),rfl,by rw[fL,sz];omega,?_⟩
  rw[ek,vd lU,<- fD];have kp2:tY n (bF (pts++[p])):=by rw[fD];exact yt kp ⋯ lU hp hf
  subst G7;refine aw λN3 G7=>?_;have Wf:cY (bO (bF (pts++[p]))) (pts.length:Int)=some (gE p):=by rw[fD];exact vg lU
  have go:∀(y:List D) (e4:Int),cW y->(∀q∈ks.zip pts,q.1<e4)->N3 [some (.own y),some (.sh (dR b)),some (.sh (.int n)),some (.obj (cD a3 Zm Zf (aK b) n (pts.length:Int) (bO (bF pts)))),some (.obj (cD a4 Va Ut (aK b) n e4 (bO (ks.zip pts)))),some (.obj (cD a5 Vb Uu (aK b) n 0 [])),some (.obj (cD a6 Zn Zg (aK (!b)) n (pts.length:Int) (bO (bF pts)))),some (.obj (cD a7 Zo Zh (aK (!b)) n 0 [])),some (.obj (wm p8 (bO (bF (pts++[p]))))),some (.obj (wm p9 (o6 ks))),some (.sh (.int (pts.length:Int))),none,none,none,none,none]:=by
   intro y e4 ry J5;subst G7;refine aw λN3 G7=>?_;symm;refine⟨⟨_,_,_,_,_,rfl,rfl⟩,_,Wf,by decide,(λ_ h=>h.elim),a4,Va,Ut,b,n,e4,n,ks.zip pts,p,rfl,by rw[hp],by rw[List.length_zip];omega,J5,.inl trivial,?_⟩
   symm;refine⟨⟨_,_,rfl⟩,⟨_,_,_,_,_,rfl,rfl⟩,_,Wf,by decide,(λ_ h=>h.elim),a3,Zm,Zf,b,n,(pts.length:Int),n,bF pts,p,rfl,by rw[hp],by omega,lU,.inl trivial,?_⟩
   symm;refine⟨p9,o6 ks,rfl,by rw[OX,sz];omega,?_⟩
   have ekl:(pts.length:Int)=(ks.length:Int):=by omega
   have e1:jL (o6 ks) (pts.length:Int) (.int e4)=o6 (ks++[e4]):=by rw[ekl];exact OW ks e4
   rw[e1];subst G7;refine aw λN3 G7=>?_;symm;refine⟨⟨_,_,_,_,_,rfl,rfl⟩,_,Wf,by decide,(λ_ h=>h.elim),a6,Zn,Zg,!b,n,(pts.length:Int),n,bF pts,p,rfl,by rw[hp],by omega,lU,.inl trivial,?_⟩
   symm;subst G7;symm;have hlen:(((pts++[p]).length:Nat):Int)=(pts.length:Int)+1:=by rw[List.length_append,List.length_singleton];rfl
   rw[<- hlen,<- fD,<- mX (show ks.length=pts.length by omega)]
   refine⟨⟨_,_,_,_,_,rfl,rfl⟩,List.nodup_nil,λ_ _=>trivial,[.kp (aK b) n (((pts++[p]).length:Nat):Int) (bO (bF (pts++[p])))],rfl,aK b,n,_,n,bF (pts++[p]),rfl,kp2.ok,.inr ⟨?_,rfl⟩,?_⟩
   ·show d3 _=true
    rw[d6];exact jV _
   symm;refine⟨by rw[List.length_map,eL,List.length_append,List.length_singleton,sz];omega,?_⟩
   refine Af _ ⟨y,pts++[p],ks++[e4],e4+1,_,rfl,ry,by rw[List.length_append,hpi];rfl,by rw[List.length_append,Wk];rfl,kp2,?_,?_⟩
   ·rw[mX (show ks.length=pts.length by omega)]
    exact yt kb (by rw[List.length_zip];omega) J5 hp hf
   ·rw[mX (show ks.length=pts.length by omega)]
    exact EZ J5
  symm;refine⟨⟨_,rfl⟩,r6,2,rfl,by decide,by decide,λr y7 q0 q1 ry7=>?_⟩
  symm;refine⟨⟨rfl,rfl⟩,?_⟩
  split
  ·refine⟨⟨_,rfl⟩,⟨_,rfl⟩,by decide,(λ_ h=>h.elim),y7,a4,Va,Ut,b,n,e4,ks.zip pts,rfl,ry7,n1,n3,by rw[List.length_zip];omega,J5,λy8 ry8=>?_⟩
   refine⟨.inl trivial,?_⟩;symm;exact go y8 (e4+2) ry8 λq hq=>by have:=J5 q hq;omega
  ·exact go y7 e4 ry7 J5
 ·obtain⟨y,pts,ks,e4,x10,rfl,ry,hpi,Wk,kp,kb,J5⟩:=hI
  show N _;subst hN;clear ht;have ZP:=eL pts;rw[List.length_range]at hpi Wk;refine aw λN hN=>?_;symm;refine⟨by rw[fL];have:=kp.len;omega,?_⟩
  rw[jN,bB];rw[dD (by rw[<- bB];exact kp.inc),vO]
  subst hN;refine aw λN hN=>?_;symm;rw[fL,ZP,Int.toNat_natCast,eG];refine⟨by omega,wR (λi:Nat=>.int (0+(i:Nat))) (λi acc xs zs=>cW xs/\∃dn lf:List Nat,acc=dn.map A8/\zs=lf.map A8/\(dn++lf).Perm (List.range pts.length)/\dn.length=i) (List.range pts.length) (by rw[List.length_range,sz];omega) (λi a hx acc xs zs hI Z hz A hA=>?_) _ _ ⟨ry,[],List.range pts.length,rfl,rfl,.refl _,rfl⟩ (λi acc xs zs hI=>?_) (λacc xs zs hI=>?_)⟩
  ·obtain⟨rx,dn,lf,rfl,rfl,hp,hd⟩:=hI
   have hi:i<pts.length:=by have:=(List.getElem?_eq_some_iff.mp hx).1;rw[List.length_range]at this;exact this
   have hll:lf.length=pts.length-i:=by have:=hp.length_eq;rw[List.length_append,List.length_range]at this;omega
   walk_at "vg";symm;rw[List.length_map];refine⟨⟨_,rfl⟩,⟨_,rfl⟩,rx,_,rfl,by omega,by omega,λr ys r0' r1' ry=>?_⟩
   symm;rw[List.length_map];refine⟨r0',r1',by omega,λe he=>?_⟩
   have hr:r.toNat<lf.length:=by omega
   rw[List.getElem?_map,List.getElem?_eq_getElem hr]at he;cases he;refine⟨hz,?_⟩;refine hA _ _ _ ⟨ry,dn++[lf[r.toNat]],lf.eraseIdx r.toNat,by rw[List.map_append];rfl,?_,?_,by rw[List.length_append,hd];rfl⟩
   ·rw[List.eraseIdx_eq_take_drop_succ,List.eraseIdx_eq_take_drop_succ,List.map_append,List.map_take,List.map_drop]
   ·rw[List.append_assoc]
    refine(List.Perm.append_left dn ?_).trans hp;show(lf[r.toNat]::lf.eraseIdx r.toNat).Perm lf;have e:lf=lf.take r.toNat++lf[r.toNat]::lf.drop (r.toNat+1):=by
     rw[List.getElem_cons_drop,List.take_append_drop]
    rw[List.eraseIdx_eq_take_drop_succ]
    conv=>rhs;rw[e]
    exact List.perm_middle.symm
  ·obtain⟨_,dn,lf,rfl,_,_,hd⟩:=hI
   rw[List.length_map];exact hd
  obtain⟨rx,ord,lf,rfl,rfl,hp,hd⟩:=hI;rw[List.length_range]at hd;have hlf:lf=[]:=by
   have:=hp.length_eq;rw[List.length_append,List.length_range]at this;exact List.eq_nil_of_length_eq_zero ⋯
  subst hlf;rw[List.append_nil]at hp;subst hN;refine aw λN hN=>?_;symm;have Wt:ord.length=pts.length:=hd;have Wu:∀k,k<pts.length->(pts.getD k []).length=n:=λk hk=>by
   have hz:=(kp.pt ((bF pts)[k]'⋯) (List.getElem_mem _)).1
   have e2:((bF pts)[k]'⋯).2=pts.getD k []:=by
    have:=congrArg (λl=>l[k]?) (cz pts);simp only[List.getElem?_map]at this;rw[List.getElem?_eq_getElem (show k<(bF pts).length by omega),List.getElem?_eq_getElem hk]at this
    rw[List.getD_eq_getElem?_getD,List.getElem?_eq_getElem hk];exact Option.some.inj this
   rw[e2]at hz;exact hz
  refine⟨by decide,a5,Vb,Uu,_,_,_,_,rfl,?_⟩
  symm;refine zS A8 (λi acc e kvs=>acc=(List.range i).map (λt:Nat=>D.tup [A8 (ord.getD t 0),.int (t:Int)])/\e=(i:Int)/\kvs=bO (bF ((ord.take i).map λk=>pts.getD k []))/\i<=ord.length) ord (by rw[sz];omega) (λi k hx acc e kvs hI Z hz A hA=>?_) 0 [] ⟨rfl,rfl,by rw[List.take_zero];rfl,Nat.zero_le _⟩ (λi acc e kvs hI=>by rw[hI.1,List.length_map,List.length_range]) (λacc e kvs hI=>?_)
  ·obtain⟨rfl,rfl,rfl,hi⟩:=hI
   have Tz:i<ord.length:=(List.getElem?_eq_some_iff.mp hx).1;have hk:k<pts.length:=List.mem_range.mp (hp.mem_iff.mp (List.mem_of_getElem? hx));unfold A8;walk_at "vg";symm;have NM:((ord.take i).map λk=>pts.getD k []).length=i:=by rw[List.length_map,List.length_take];omega
   have DT:=tP ((ord.take i).map λk=>pts.getD k []);rw[NM]at DT;refine⟨⟨_,_,_,_,_,rfl,rfl⟩,_,sv (bB pts) (cz pts) kp.inc hk,by decide,(λ_ h=>h.elim),a5,Vb,Uu,b,n,(i:Int),n,bF ((ord.take i).map λk=>pts.getD k []),pts.getD k [],rfl,by rw[Wu k hk],by rw[eL,NM];omega,DT,.inl trivial,?_⟩
   symm;refine⟨by decide,_,_,hz,rfl,hA _ _ _ ⟨?_,rfl,?_,by omega⟩⟩
   ·rw[List.range_succ,List.map_append]
    have:ord.getD i 0=k:=by rw[List.getD_eq_getElem?_getD,hx];rfl
    show _=_++[D.tup [A8 (ord.getD i 0),.int (i:Int)]];rw[this];rfl
   ·have e:=fD ((ord.take i).map λk=>pts.getD k []) (pts.getD k [])
    rw[NM]at e;rw[<- e,List.take_succ,hx];rw[Option.toList_some,List.map_append];rfl
  ·obtain⟨rfl,rfl,rfl,_⟩:=hI
   have hnd:ord.Nodup:=hp.nodup_iff.mpr List.nodup_range;rw[List.take_length,Wt];have OC:∀ps:List (Int×List Int),(bO ps).map (·.2)=(ps.map (·.2)).map gE:=λps=>by unfold bO;rw[List.map_map,List.map_map];rfl
   refine⟨⟨nY (λt=>rfl) _,by rw[OC];exact nY Kc _⟩,_,rfl,by rw[List.all_map];exact List.all_eq_true.mpr λ_ _=>rfl,by rw[List.length_map,List.length_range,sz];omega,λp13=>?_⟩
   rw[<- Wt,Eo hnd,Wt];generalize MN:(ord.map λk=>pts.getD k [])=fc;have TJ:fc.length=pts.length:=by rw[<- MN,List.length_map];exact Wt
   subst hN;refine aw λN hN=>?_;symm;have e1:(10:Int)^Int.toNat 15=10^15:=by decide
   have e2:(10:Int)^Int.toNat 34=10^34:=by decide
   rw[e1,e2];refine⟨by unfold o7;decide,by unfold o7;decide,by decide,⟨_,rfl⟩,rx,5,rfl,by decide,by decide,λr y4 q6 q7 hr4=>?_⟩
   symm;refine nF q6 q7 λd hd=>?_;obtain⟨bd,rfl,Zz⟩:∃bd:Int,d=.int bd/\0<=bd:=by
    simp only[List.mem_cons,List.not_mem_nil,or_false]at hd;rcases hd with rfl|rfl|rfl|rfl|rfl
    all_goals exact⟨_,rfl,by omega⟩
   subst hN;refine aw λN hN=>?_;symm;have DS:ks.length=pts.length:=by omega
   have tw:KS n pts.length ks pts (bF pts) (ks.zip pts):=⟨kp.ok,kb.ok,bB pts,List.map_fst_zip ⋯,cz pts,List.map_snd_zip ⋯,ZP,by rw[List.length_zip];omega⟩
   have gp:=kp.ok.good;rw[cz]at gp;have gq:Good n fc:=⟨gp.1,λp GC=>by
    rw[<- MN]at GC;obtain⟨k,hk,rfl⟩:=List.mem_map.mp GC;have J6:=List.mem_range.mp (hp.mem_iff.mp hk);rw[List.getD_eq_getElem?_getD,List.getElem?_eq_getElem J6];exact gp.2 _ (List.getElem_mem J6)⟩
   have iq:((bF fc).map (·.1)).Pairwise λx y:Int=>x<y:=by
    rw[bB,TJ,<- bB];exact kp.inc
   have mx:Mix n pts.length ord pts fc (bF pts) (bF fc):=⟨kp.ok,⟨by rw[cz];exact gq,iq,by rw[eL];omega⟩,bB pts,by rw[bB,TJ],cz pts,cz fc,ZP,by rw[eL];exact TJ,hp,MN.symm⟩
   refine⟨⟨_,rfl⟩,⟨_,rfl⟩,⟨_,rfl⟩,List.nodup_nil,λ_ _=>trivial,[.kp (aK b) n (pts.length:Int) (bO (bF pts)),.kp (aK b) n e4 (bO (ks.zip pts)),.dW (o6 ks),.int bd],rfl,b,n,(pts.length:Int),n,e4,ks,bF pts,ks.zip pts,bd,rfl,n,pts.length,pts,tw,Zz,.inr ⟨rfl,rfl⟩,?_⟩;symm;refine(if_neg ∅).mpr ?_
   refine⟨⟨_,rfl⟩,⟨_,rfl⟩,⟨_,rfl⟩,List.nodup_nil,λ_ _=>trivial,[.kp (aK b) n (pts.length:Int) (bO (bF pts)),.kp (aK b) n (pts.length:Int) (bO (bF fc)),.dW (AG ord),.int bd],rfl,b,n,(pts.length:Int),n,(pts.length:Int),ord,bF pts,bF fc,bd,rfl,n,pts.length,pts,fc,mx,Zz,.inr ⟨rfl,rfl⟩,?_⟩;symm;refine(if_neg ∅).mpr ?_
   subst hN;refine aw λN hN=>?_;show h7 _ _ _ _ _;generalize ht:mv _=tb;symm;refine⟨by rw[fL];have:=kp.len;omega,?_⟩
   rw[jN,bB,dD (by rw[<- bB];exact kp.inc),vO]
   refine iu A8 (List.range pts.length) (λi σ=>∃x15,σ=[some (.own y4),some (.sh (dR b)),some (.sh (.int n)),some (.obj (cD a3 Zm Zf (aK b) n (pts.length:Int) (bO (bF pts)))),some (.obj (cD a4 Va Ut (aK b) n e4 (bO (ks.zip pts)))),some (.obj (cD a5 Vb Uu (aK b) n (pts.length:Int) (bO (bF fc)))),some (.obj (cD a6 Zn Zg (aK (!b)) n (pts.length:Int) (bO (bF pts)))),some (.obj (cD a7 Zo Zh (aK (!b)) n (i:Int) (bO (bF (pts.take i))))),some (.obj (wm p8 (bO (bF pts)))),some (.obj (wm p9 (o6 ks))),x10,some (.own []),some (.sh (.lst (ord.map A8))),some (.obj (wm p13 (AG ord))),some (.sh (.int bd)),x15]) (λi k σ N2 hx hI Af=>?_) (λσ hI=>?_) ⟨none,rfl⟩
   ·obtain⟨rfl,hi⟩:=iB hx
    obtain⟨x15,rfl⟩:=hI;have NM:(pts.take k).length=k:=by rw[List.length_take];omega
    have DT:=tP (pts.take k);rw[NM]at DT;unfold A8;walk_at "vg";subst ht;symm;refine⟨⟨_,_,_,_,_,rfl,rfl⟩,_,sv (bB pts) (cz pts) kp.inc hi,by decide,(λ_ h=>h.elim),a7,Zo,Zh,!b,n,(k:Int),n,bF (pts.take k),pts.getD k [],rfl,by rw[Wu k hi],by rw[eL,NM];omega,DT,.inl trivial,?_⟩
    symm;have e:=fD (pts.take k) (pts.getD k []);rw[NM]at e;have e3:pts.take (k+1)=pts.take k++[pts.getD k []]:=by
     rw[List.take_succ,List.getD_eq_getElem?_getD,List.getElem?_eq_getElem hi];rfl
    rw[<- e,<- e3];exact Af _ ⟨_,rfl⟩
   ·obtain⟨x15,rfl⟩:=hI
    rw[List.length_range,List.take_length];show N _;subst hN;clear ht;symm;have f2:dw (g6 (dr pts.length) (oW (!b) pts)):=jg (by rw[fu];exact iJ _ pts)
    have fn:=xk (dr pts.length) (!b) pts bd;obtain⟨o1,o2⟩:=A2 f2 fn;refine⟨⟨_,_,_,_,_,rfl,rfl⟩,List.nodup_nil,λ_ _=>trivial,[.kp (aK (!b)) n (pts.length:Int) (bO (bF pts))],rfl,!b,n,(pts.length:Int),n,bF pts,rfl,kp.ok,?_⟩;rw[bB,cz];refine⟨.inr ⟨nX f2,rfl⟩,?_⟩;symm;refine⟨⟨_,_,_,_,_,rfl,rfl⟩,List.nodup_nil,λ_ _=>trivial,[.kp (aK (!b)) n (pts.length:Int) (bO (bF pts)),.int bd],rfl,!b,n,(pts.length:Int),n,bF pts,bd,rfl,kp.ok,Zz,?_⟩;rw[bB,cz];refine⟨.inr ⟨lu fn,rfl⟩,?_⟩;symm;refine⟨by decide,⟨_,_,_,_,_,rfl,rfl⟩,List.nodup_nil,λ_ _=>trivial,[.kp (aK (!b)) n (pts.length:Int) (bO (bF pts))],rfl,!b,n,(pts.length:Int),n,bF pts,rfl,kp.ok,?_⟩
    rw[bB,cz];refine⟨.inr ⟨nX f2,rfl⟩,?_⟩;symm;refine⟨⟨_,_,_,_,_,rfl,rfl⟩,List.nodup_nil,λ_ _=>trivial,[.kp (aK (!b)) n (pts.length:Int) (bO (bF pts)),.int bd],rfl,!b,n,(pts.length:Int),n,bF pts,bd,rfl,kp.ok,Zz,?_⟩;rw[bB,cz];refine⟨.inr ⟨lu fn,rfl⟩,?_⟩;symm;refine⟨by decide,⟨o1,o1⟩,?_⟩
    rw[o2];refine(if_pos rfl).mpr ?_;refine⟨⟨_,_,_,_,_,rfl,rfl⟩,List.nodup_nil,λ_ _=>trivial,[.kp (aK b) n (pts.length:Int) (bO (bF pts))],rfl,aK b,n,(pts.length:Int),n,bF pts,rfl,kp.ok,?_⟩;rw[d6,bB];refine⟨.inr ⟨jV _,rfl⟩,?_⟩;symm;refine⟨by rw[fL];have:=kp.len;omega,?_⟩
    rw[jN,bB,dD (by rw[<- bB];exact kp.inc)]
    refine⟨⟨jK _,jK _⟩,?_⟩;rw[show il (.lst ((dr pts.length).map D.int)) (.lst ((dr pts.length).map D.int))=true from ip _]
    exact Ds y4 _ hr4
theorem Qu(ds:List D)(Q:B->Prop)(h:Fs ds Q):F9 oP sW fV {nx:=λ_=>Q (.sh .aW),rt:=λb _=>Q b} (aR BH.length ds):=by
 obtain⟨ns,rfl,ZJ,h⟩:=h;unfold F9;refine aw λN hN=>?_;unfold zy;generalize ht:dt _ _ _=tb;symm;refine⟨⟨cut ns none (some 3),by rw[ur],Nat.le_trans (ym _ _ _) ZJ⟩,λm=>uV (λσ=>∃x1,σ=[some (.sh (.i3 ns)),x1]) (λi c σ N' hI VZ=>?_) (λσ hI=>?_) m 0 _ ⟨_,rfl⟩⟩
 ·obtain⟨x1,rfl⟩:=hI
  subst ht;have r0:cW [.int c,.int 0]:=⟨_,_,rfl⟩;unfold Rg;simp only[List.set_cons_zero,List.set_cons_succ];symm;refine⟨⟨_,rfl⟩,⟨_,rfl⟩,r0,rfl,λb y1 r1=>?_⟩;symm;refine⟨⟨_,rfl⟩,r1,3,rfl,by decide,by decide,λa1 y2 a10 a11 r2=>?_⟩
  symm;obtain⟨n,ZH,hn3,rfl⟩:∃n:Nat,1<=n/\n<=3/\a1=(n:Int)-1:=⟨(1+a1).toNat,by omega,by omega,by omega⟩
  rw[show 1+((n:Int)-1)=(n:Int)by omega]
  refine⟨r2,b,n,rfl,ZH,hn3,λys ry=>?_⟩;symm;exact(if_neg ∅).mpr (VZ _ ⟨_,rfl⟩)
 ·obtain⟨x1,rfl⟩:=hI
  subst hN;symm;exact h
end
def zp(K:PySem.W.Frag):Sp:=λvs H Q _=>∃(a:Addr) (ns:List Int),vs=[.ref a]/\fF K H a (ns.map V.int)/\ns.length<=63/\∀H',Q (.bl true) H'
-- level 7
section
variable [KF]{G:GE}{k:Nat}
local macro_rules|`(tactic| walk_at "8")=>`(tactic| (intro xs ds Q h;first|(obtain⟨e,_⟩:=h;rw[e];rfl) | (obtain⟨_,e,_⟩:=h;rw[e];rfl) | (obtain⟨_,_,e,_⟩:=h;rw[e];rfl) | (obtain⟨_,_,_,e,_⟩:=h;rw[e];rfl) | (obtain⟨_,_,_,_,e,_⟩:=h;rw[e];rfl) | (obtain⟨_,_,_,_,_,e,_⟩:=h;rw[e];rfl) | (obtain⟨_,_,_,_,_,_,e,_⟩:=h;rw[e];rfl) | (obtain⟨_,_,_,_,_,_,_,e,_⟩:=h;rw[e];rfl) | (obtain⟨_,_,_,_,_,_,_,_,e,_⟩:=h;rw[e];rfl) | (obtain⟨_,_,_,_,_,_,_,_,_,e,_⟩:=h;rw[e];rfl) | (obtain⟨_,_,_,_,_,_,_,_,_,_,e,_⟩:=h;rw[e];rfl)))
local macro_rules|`(tactic| walk_at "7")=>`(tactic| (intro ds Q h;first|(obtain⟨e,_⟩:=h;rw[e];rfl) | (obtain⟨_,e,_⟩:=h;rw[e];rfl) | (obtain⟨_,_,e,_⟩:=h;rw[e];rfl) | (obtain⟨_,_,_,e,_⟩:=h;rw[e];rfl) | (obtain⟨_,_,_,_,e,_⟩:=h;rw[e];rfl) | (obtain⟨_,_,_,_,_,e,_⟩:=h;rw[e];rfl) | (obtain⟨_,_,_,_,_,_,e,_⟩:=h;rw[e];rfl) | (obtain⟨_,_,_,_,_,_,_,e,_⟩:=h;rw[e];rfl) | (obtain⟨_,_,_,_,_,_,_,_,e,_⟩:=h;rw[e];rfl) | (obtain⟨_,_,_,_,_,_,_,_,_,e,_⟩:=h;rw[e];rfl) | (obtain⟨_,_,_,_,_,_,_,_,_,_,e,_⟩:=h;rw[e];rfl)))
theorem Qi(hK:G.K=KF.K)(hT:KF.tabs=[])(E:Gl G)
    {uI:Addr} {M4:FuncData} (CK:du G "need_count" ki ["count"] uI M4)
    {Di:Addr} {VH:FuncData} (L7:du G "need_as_many_numbers" sx ["point","count"] Di VH)
    {uD:Addr} {MU:FuncData} (CC:du G "need_points" j6 ["points"] uD MU)
    {uQ:Addr} {Nj:FuncData} (C0:du G "need_way" kB ["way"] uQ Nj)
    {Dj:Addr} {VI:FuncData} (L8:du G "need_points_and_way" sy ["points","way"] Dj VI)
    {uJ:Addr} {M5:FuncData} (CL:du G "need_place" kj ["points","place"] uJ M5)
    {uH:Addr} {M3:FuncData} (CJ:du G "need_bound" kh ["bound"] uH M3)
    {uB:Addr} {MS:FuncData} (CA:du G "far_between" j3 ["way","point","other"] uB MS)
    {Dl:Addr} {VM:FuncData} (Mb:du G "pairs_by_places" sD ["points","way"] Dl VM)
    {uF:Addr} {MZ:FuncData} (CH:du G "near_pairs" ka ["points","way","bound"] uF MZ)
    {Dm:Addr} {VP:FuncData} (Mg:du G "nearest_among" sI ["points","way","point","places"] Dm VP)
    {Dp:Addr} {VQ:FuncData} (Mh:du G "nearest_other" sJ ["points","way","place"] Dp VQ)
    {uC:Addr} {MT:FuncData} (CB:du G "nearest_two" j4 ["points","way"] uC MT)
    {uG:Addr} {M0:FuncData} (CI:du G "nearest_of" kc ["points","way","place"] uG M0)
    {Aa:Addr} {VO:FuncData} (Mf:Zb G "__init__" "Kept.__init__" sG ["self","way","count"] Aa VO)
    {pU:Addr} {Nf:FuncData} (CV:o4 G "put" "Kept.put" kx ["self","point"] pU Nf)
    {pT:Addr} {M7:FuncData} (CO:o4 G "take" "Kept.take" kn ["self","name"] pT M7)
    {pQ:Addr} {MV:FuncData} (CD:o4 G "names" "Kept.names" j7 ["self"] pQ MV)
    {pR:Addr} {MX:FuncData} (CF:o4 G "point" "Kept.point" j8 ["self","name"] pR MX)
    {pV:Addr} {Ng:FuncData} (CW:o4 G "two" "Kept.two" ky ["self"] pV Ng)
    {Ab:Addr} {VR:FuncData} (Mi:o4 G "nearest" "Kept.nearest" sL ["self","name"] Ab VR)
    {pS:Addr} {M6:FuncData} (CN:o4 G "near" "Kept.near" km ["self","bound"] pS M6)
    {z9:Addr} {VN:FuncData} (Md:o4 G "need_name" "Kept.need_name" sE ["self","name"] z9 VN)
    {zZ:Addr} {VJ:FuncData} (L9:o4 G "plain_points" "Kept.plain_points" sA ["self"] zZ VJ)
    {uO:Addr} {Nh:FuncData} (CY:du G "_law_next" kz ["pot","many"] uO Nh)
    {uP:Addr} {Ni:FuncData} (CZ:du G "_law_pots" kA ["script"] uP Ni)
    {uR:Addr} {Nk:FuncData} (C1:du G "_law_way" kE ["pot"] uR Nk)
    {uM:Addr} {Nb:FuncData} (CT:du G "_law_point" kr ["pot","count","own"] uM Nb)
    {uE:Addr} {MY:FuncData} (CG:du G "_law_detour" j9 ["pot","kept","count"] uE MY)
    {uL:Addr} {M9:FuncData} (CQ:du G "_law_named" kq ["names","pair"] uL M9)
    {uK:Addr} {M8:FuncData} (CP:du G "_law_alike" ko ["plain","bent","names","bound"] uK M8)
    {Dk:Addr} {VL:FuncData} (Ma:du G "_law_mixed_right" sC ["plain","mixed","names","bound"] Dk VL)
    {uN:Addr} {Nc:FuncData} (CU:du G "_law_right" ku ["pot","way","count"] uN Nc)
    {pW:Addr} {Dr:FuncData} (C2:du G "law" gv ["script"] pW Dr)
   :cn G.P G.w G.K G.mg G.base iL 8 pW Dr ["script"] (zp G.K):=by
  have DI:gK G 1 "_law_pots":=CZ.xx (k:=0) hK RT rfl rfl (VA E);have p0:d5 G 1 "need_count" iG:=CK.fg (k:=0) hK RF (Vn E) (by walk_at "7") Er
  have qa:d5 G 1 "need_way" mU:=C0.fg (k:=0) hK RU (VB E) (by walk_at "7") Qy
  have DK:wB G 3 sS:=Mf.fi (k:=1) hK Yy (aaq E (p0.mono ∅) (qa.mono ∅)) (by walk_at "7") Qs
  have cB:fH G 1 "_law_next" fV:=CY.Zr (k:=0) hK RQ (Vz E) ∅ (by walk_at "8") Qw
  have DG:fH G 2 "_law_point" xR:=CT.Zr (k:=1) hK RM (Vu E (cB.mono ∅)) ∅ (by walk_at "8") XQ
  have Ag:d5 G 1 "need_as_many_numbers" sT:=L7.fg (k:=0) hK Ys (aak E) (by walk_at "7") XR
  have gU:cg G 2 "put" oM:=CV.Zu (k:=1) (ios:=[0]) hK RO (Vw E (Ag.mono ∅)) (by walk_at "7") Hr ∅ XW
  have rq:cg G 1 "need_name" (cF vX):=Md.fg (k:=0) hK Yx (aap E) (by walk_at "7") abd
  have yC:cg G 2 "take" mV:=CO.Zu (k:=1) (ios:=[0]) hK RJ (Vq E (rq.mono ∅)) (by walk_at "7") Hq ∅ QA
  have Dz:qG G 3 "_law_detour" sR:=CG.Zu (k:=2) (ios:=[0,1]) hK RB (Vj E (gU.mono ∅) (cB.mono ∅) (yC.mono ∅)) (by walk_at "7") Ho ∅ XJ
  have df:cg G 1 "names" (cF dH):=CD.fg (k:=0) hK Rz (Vh E) (by walk_at "7") HU
  have yD:d5 G 1 "_law_named" xQ:=CQ.fg (k:=0) hK RL (Vt E) (by walk_at "7") XO
  have Dy:d5 G 2 "need_points" sV:=CC.fg (k:=1) hK Ry (Vg E (p0.mono ∅) (Ag.mono ∅)) (by walk_at "7") Qx
  have rn:d5 G 3 "need_points_and_way" oI:=L8.fg (k:=2) hK Yt (aal E (Dy.mono ∅) (qa.mono ∅)) (by walk_at "7") XT
  have pZ:d5 G 1 "far_between" oF:=CA.fg (k:=0) hK Rw (Ve E) (by walk_at "7") XM
  have Ah:d5 G 2 "pairs_by_places" kH:=Mb.fg (k:=1) hK Yw (aao E (pZ.mono ∅)) (by walk_at "7") HW
  have Dx:d5 G 4 "nearest_two" xS:=CB.fg (k:=3) hK Rx (Vf E (rn.mono ∅) (Ah.mono ∅)) (by walk_at "7") XX
  have rp:cg G 2 "plain_points" (cF oK):=L9.fg (k:=1) hK Yu (aam E (df.mono ∅)) (by walk_at "7") XU
  have gk:cg G 5 "two" (cF kG):=CW.fg (k:=4) hK RP (Vy E (Dx.mono ∅) (rp.mono ∅) (df.mono ∅)) (by walk_at "7") Qt
  have DE:d5 G 1 "need_place" lH:=CL.fg (k:=0) hK RG (Vo E) (by walk_at "7") Es
  have Nu:d5 G 2 "nearest_among" oE:=Mg.fg (k:=1) hK Yz (aar E (pZ.mono ∅)) (by walk_at "7") HQ
  have Nv:d5 G 3 "nearest_other" fy:=Mh.fg (k:=2) hK YB (aas E (Nu.mono ∅)) (by walk_at "7") HV
  have DB:d5 G 4 "nearest_of" fy:=CI.fg (k:=3) hK RD (Vl E (rn.mono ∅) (DE.mono ∅) (Nv.mono ∅)) (by walk_at "7") XS
  have uY:cg G 5 "nearest" (cF kF):=Mi.fg (k:=4) hK YC (aat E (rq.mono ∅) (df.mono ∅) (DB.mono ∅) (rp.mono ∅)) (by walk_at "7") HR
  have DC:d5 G 1 "need_bound" lF:=CJ.fg (k:=0) hK RE (Vm E) (by walk_at "7") Ep
  have DA:d5 G 4 "near_pairs" sU:=CH.fg (k:=3) hK RC (Vk E (rn.mono ∅) (DC.mono ∅) (Ah.mono ∅)) (by walk_at "7") Qv
  have gj:cg G 5 "near" (cF oG):=CN.fg (k:=4) hK RH (Vp E (df.mono ∅) (DA.mono ∅) (rp.mono ∅)) (by walk_at "7") XN
  have DF:d5 G 6 "_law_alike" oC:=CP.fg (k:=5) hK RK (Vr E (yD.mono ∅) (gk.mono ∅) (df.mono ∅) (uY.mono ∅) (gj.mono ∅)) (by walk_at "7") HP
  have yB:cg G 2 "point" (cF oJ):=CF.fg (k:=1) hK RA (Vi E (rq.mono ∅)) (by walk_at "7") HX
  have Nt:d5 G 6 "_law_mixed_right" oH:=Ma.fg (k:=5) hK Yv (aan E (gj.mono ∅) (gk.mono ∅) (yB.mono ∅) (uY.mono ∅)) (by walk_at "7") HS
  have DH:fH G 7 "_law_right" oP:=CU.Zr (k:=6) hK RN (Vv E (DK.mono ∅) (cB.mono ∅) (DG.mono ∅) (Dz.mono ∅) (gU.mono ∅) (df.mono ∅) (DF.mono ∅) (Nt.mono ∅) (gk.mono ∅) (gj.mono ∅)) ∅ (by walk_at "8") HY
  have DJ:fH G 2 "_law_way" sW:=C1.Zr (k:=1) hK RV (VC E (cB.mono ∅)) ∅ (by walk_at "8") Qz
  refine(Dt (k:=7) (sp:=Fs) hK C2.F RW (VD E (DI.mono ∅) (DH.mono ∅) (DJ.mono ∅) (cB.mono ∅)) (by walk_at "7") Qu).imp λvs H Q E' h=>?_
  obtain⟨a,ns,rfl,hS,hl,q⟩:=h;refine⟨H,[.i3 ns],λb=>b=.sh (.bl true),⟨aj.refl _,λq hq=>by rw[hT]at hq;cases hq⟩,.cons (.i3 (by rw[<- hK];exact hS)) .nil,⟨ns,rfl,hl,rfl⟩,λv H' F' b _ _ _ _ r e=>?_⟩
  subst e;have r:Rep F' v (.bl true):=r;cases r;exact q H'
end
open PySem.W in
theorem all_mk{l:OpenLaw}{w:World}{K:Frag}{h:Heap}{mg:Str->Option Value}{fa:Addr}(X:K.In h)(Gs:h.Ns mainGlobals mg)(hfa:mg "law"=some (.ref fa))
  {aU:Addr}
 {uI Di uD uQ Dj uJ uH uB Dl uF Dm Dp uC uG Aa pU pT pQ pR pV Ab pS z9 zZ uO uP uR uM uE uL uK Dk uN pW:Addr}
 {PQ K6 Xr Uv PC KY Qf Li Xs Uw PR K7 PN K5 Pz KU Xv Uz PJ K3 Xy UC Xz UD PB KW PL K4 Xx UB Qa Le PV K9 PD KZ PF K0 Qb Lf XA UE PU K8 Xw UA Xt Ux Qc Lg Qe Lh Qg Lj PZ Lc PH K2 PY Lb PX La Xu Uy P0 Ld Qh BO:Option Addr}
 {Sj YD R9 SF YF Sl Si RZ YJ Sg YM YN R8 Sh YL Sz Sr Sb Se SA YQ Sn YK YG SD SE SG Sx Sf Sv Ss YH Sy SH:Array (Option Value)}
 {Pg Oc Mw QU Cd LN Xh WR UZ X1 JI UL O5 N5 Mp QN B5 LA Pw Ou MI Ra Cv L4 Xi WT U0 X2 JK UM Ph Od Mx QV Ce LO Pb Ob Mv QT Cb LL O3 N1 Ml QL B3 Ly Xl WW U3 X5 JN UP O9 N9 Mt QR B9 LJ Xo WZ U6 X8 JQ UT Xp W0 U7 X9 JR UU O4 N4 Mm QM B4 Lz Pa Oa Mu QS Ca LK Xn WY U5 X7 JP UR Pq Om ME Q6 Cq LY Pk Og Mz QX Ci LR O6 N6 Mq QO B6 LC O7 N7 Mr QP B7 LD Pr Oo MF Q7 Cr LZ Xq W2 U8 Ya JS UW Pj Oe My QW Cg LQ Xm WX U4 X6 JO UQ Xj WU U1 X3 JL UN Pt Oq MG Q8 Ct L0 Pu Ot MH Q9 Cu L3 Px Ov MJ Rb Cw L5 Pn Oj MC Q0 Cm LW O8 N8 Ms QQ B8 LI Pm Oi MB QZ Ck LV Pl Oh MA QY Cj LU Xk WV U2 X4 JM UO Pp Ol MD Q5 Cp LX Py D3 C5 EF wQ Cy:Value}
  {xX:Tok}
  {xY:Tok}
  (g_Kept:nsIn K mainGlobals "Kept"=some (some (.ref aU))) (pg_Kept:plainGet K aU Str.empty=true) (hd_Kept:hasDictIn K aU=true) (po_Kept:plainOver K aU=true) (sa_Kept:findIn K (.ref aU) "__setattr__"=some (some (.builtin "object.__setattr__")))
  (n1_Kept:findIn K (.ref aU) "way"=some none) (n2_Kept:findIn K (.ref aU) "count"=some none) (n3_Kept:findIn K (.ref aU) "points_by_name"=some none) (n4_Kept:findIn K (.ref aU) "ever_put"=some none)
  (mk_Kept:makesIn K aU=true) (kp_Kept:keepIn K (.ref aU)=true)
  (a_q19:nsIn K mainGlobals "need_count"=some (some (.ref uI)))
  (l_q19:K.lookup uI=some ⟨Pg,PQ,.func (fnOf "need_count" "need_count" (aJ ki) (aq ki) (ae ki) .none Oc Mw QU K6 Cd LN),Sj⟩)
  (c_q19:codeIn K Cd "need_count"=true) (k_q19:keepIn K (.ref uI)=true)
  (a_q0:nsIn K mainGlobals "need_as_many_numbers"=some (some (.ref Di)))
  (l_q0:K.lookup Di=some ⟨Xh,Xr,.func (fnOf "need_as_many_numbers" "need_as_many_numbers" (aJ sx) (aq sx) (ae sx) .none WR UZ X1 Uv JI UL),YD⟩)
  (c_q0:codeIn K JI "need_as_many_numbers"=true) (k_q0:keepIn K (.ref Di)=true)
  (a_q12:nsIn K mainGlobals "need_points"=some (some (.ref uD)))
  (l_q12:K.lookup uD=some ⟨O5,PC,.func (fnOf "need_points" "need_points" (aJ j6) (aq j6) (ae j6) .none N5 Mp QN KY B5 LA),R9⟩)
  (c_q12:codeIn K B5 "need_points"=true) (k_q12:keepIn K (.ref uD)=true)
  (a_q31:nsIn K mainGlobals "need_way"=some (some (.ref uQ)))
  (l_q31:K.lookup uQ=some ⟨Pw,Qf,.func (fnOf "need_way" "need_way" (aJ kB) (aq kB) (ae kB) .none Ou MI Ra Li Cv L4),SF⟩)
  (c_q31:codeIn K Cv "need_way"=true) (k_q31:keepIn K (.ref uQ)=true)
  (a_q1:nsIn K mainGlobals "need_points_and_way"=some (some (.ref Dj)))
  (l_q1:K.lookup Dj=some ⟨Xi,Xs,.func (fnOf "need_points_and_way" "need_points_and_way" (aJ sy) (aq sy) (ae sy) .none WT U0 X2 Uw JK UM),YF⟩)
  (c_q1:codeIn K JK "need_points_and_way"=true) (k_q1:keepIn K (.ref Dj)=true)
  (a_q20:nsIn K mainGlobals "need_place"=some (some (.ref uJ)))
  (l_q20:K.lookup uJ=some ⟨Ph,PR,.func (fnOf "need_place" "need_place" (aJ kj) (aq kj) (ae kj) .none Od Mx QV K7 Ce LO),Sl⟩)
  (c_q20:codeIn K Ce "need_place"=true) (k_q20:keepIn K (.ref uJ)=true)
  (a_q18:nsIn K mainGlobals "need_bound"=some (some (.ref uH)))
  (l_q18:K.lookup uH=some ⟨Pb,PN,.func (fnOf "need_bound" "need_bound" (aJ kh) (aq kh) (ae kh) .none Ob Mv QT K5 Cb LL),Si⟩)
  (c_q18:codeIn K Cb "need_bound"=true) (k_q18:keepIn K (.ref uH)=true)
  (a_q10:nsIn K mainGlobals "far_between"=some (some (.ref uB)))
  (l_q10:K.lookup uB=some ⟨O3,Pz,.func (fnOf "far_between" "far_between" (aJ j3) (aq j3) (ae j3) .none N1 Ml QL KU B3 Ly),RZ⟩)
  (c_q10:codeIn K B3 "far_between"=true) (k_q10:keepIn K (.ref uB)=true)
  (a_q4:nsIn K mainGlobals "pairs_by_places"=some (some (.ref Dl)))
  (l_q4:K.lookup Dl=some ⟨Xl,Xv,.func (fnOf "pairs_by_places" "pairs_by_places" (aJ sD) (aq sD) (ae sD) .none WW U3 X5 Uz JN UP),YJ⟩)
  (c_q4:codeIn K JN "pairs_by_places"=true) (k_q4:keepIn K (.ref Dl)=true)
  (a_q16:nsIn K mainGlobals "near_pairs"=some (some (.ref uF)))
  (l_q16:K.lookup uF=some ⟨O9,PJ,.func (fnOf "near_pairs" "near_pairs" (aJ ka) (aq ka) (ae ka) .none N9 Mt QR K3 B9 LJ),Sg⟩)
  (c_q16:codeIn K B9 "near_pairs"=true) (k_q16:keepIn K (.ref uF)=true)
  (a_q7:nsIn K mainGlobals "nearest_among"=some (some (.ref Dm)))
  (l_q7:K.lookup Dm=some ⟨Xo,Xy,.func (fnOf "nearest_among" "nearest_among" (aJ sI) (aq sI) (ae sI) .none WZ U6 X8 UC JQ UT),YM⟩)
  (c_q7:codeIn K JQ "nearest_among"=true) (k_q7:keepIn K (.ref Dm)=true)
  (a_q8:nsIn K mainGlobals "nearest_other"=some (some (.ref Dp)))
  (l_q8:K.lookup Dp=some ⟨Xp,Xz,.func (fnOf "nearest_other" "nearest_other" (aJ sJ) (aq sJ) (ae sJ) .none W0 U7 X9 UD JR UU),YN⟩)
  (c_q8:codeIn K JR "nearest_other"=true) (k_q8:keepIn K (.ref Dp)=true)
  (a_q11:nsIn K mainGlobals "nearest_two"=some (some (.ref uC)))
  (l_q11:K.lookup uC=some ⟨O4,PB,.func (fnOf "nearest_two" "nearest_two" (aJ j4) (aq j4) (ae j4) .none N4 Mm QM KW B4 Lz),R8⟩)
  (c_q11:codeIn K B4 "nearest_two"=true) (k_q11:keepIn K (.ref uC)=true)
  (a_q17:nsIn K mainGlobals "nearest_of"=some (some (.ref uG)))
  (l_q17:K.lookup uG=some ⟨Pa,PL,.func (fnOf "nearest_of" "nearest_of" (aJ kc) (aq kc) (ae kc) .none Oa Mu QS K4 Ca LK),Sh⟩)
  (c_q17:codeIn K Ca "nearest_of"=true) (k_q17:keepIn K (.ref uG)=true)
  (a_q6:findIn K (.ref aU) "__init__"=some (some (.ref Aa)))
  (l_q6:K.lookup Aa=some ⟨Xn,Xx,.func (fnOf "__init__" "Kept.__init__" (aJ sG) (aq sG) (ae sG) .none WY U5 X7 UB JP UR),YL⟩)
  (c_q6:codeIn K JP "Kept.__init__"=true) (k_q6:keepIn K (.ref Aa)=true) (i_q6:isFn K (.ref Aa)=true)
  (a_q27:findIn K (.ref aU) "put"=some (some (.ref pU)))
  (l_q27:K.lookup pU=some ⟨Pq,Qa,.func (fnOf "put" "Kept.put" (aJ kx) (aq kx) (ae kx) .none Om ME Q6 Le Cq LY),Sz⟩)
  (c_q27:codeIn K Cq "Kept.put"=true) (k_q27:keepIn K (.ref pU)=true) (i_q27:isFn K (.ref pU)=true)
  (a_q22:findIn K (.ref aU) "take"=some (some (.ref pT)))
  (l_q22:K.lookup pT=some ⟨Pk,PV,.func (fnOf "take" "Kept.take" (aJ kn) (aq kn) (ae kn) .none Og Mz QX K9 Ci LR),Sr⟩)
  (c_q22:codeIn K Ci "Kept.take"=true) (k_q22:keepIn K (.ref pT)=true) (i_q22:isFn K (.ref pT)=true)
  (a_q13:findIn K (.ref aU) "names"=some (some (.ref pQ)))
  (l_q13:K.lookup pQ=some ⟨O6,PD,.func (fnOf "names" "Kept.names" (aJ j7) (aq j7) (ae j7) .none N6 Mq QO KZ B6 LC),Sb⟩)
  (c_q13:codeIn K B6 "Kept.names"=true) (k_q13:keepIn K (.ref pQ)=true) (i_q13:isFn K (.ref pQ)=true)
  (a_q14:findIn K (.ref aU) "point"=some (some (.ref pR)))
  (l_q14:K.lookup pR=some ⟨O7,PF,.func (fnOf "point" "Kept.point" (aJ j8) (aq j8) (ae j8) .none N7 Mr QP K0 B7 LD),Se⟩)
  (c_q14:codeIn K B7 "Kept.point"=true) (k_q14:keepIn K (.ref pR)=true) (i_q14:isFn K (.ref pR)=true)
  (a_q28:findIn K (.ref aU) "two"=some (some (.ref pV)))
  (l_q28:K.lookup pV=some ⟨Pr,Qb,.func (fnOf "two" "Kept.two" (aJ ky) (aq ky) (ae ky) .none Oo MF Q7 Lf Cr LZ),SA⟩)
  (c_q28:codeIn K Cr "Kept.two"=true) (k_q28:keepIn K (.ref pV)=true) (i_q28:isFn K (.ref pV)=true)
  (a_q9:findIn K (.ref aU) "nearest"=some (some (.ref Ab)))
  (l_q9:K.lookup Ab=some ⟨Xq,XA,.func (fnOf "nearest" "Kept.nearest" (aJ sL) (aq sL) (ae sL) .none W2 U8 Ya UE JS UW),YQ⟩)
  (c_q9:codeIn K JS "Kept.nearest"=true) (k_q9:keepIn K (.ref Ab)=true) (i_q9:isFn K (.ref Ab)=true)
  (a_q21:findIn K (.ref aU) "near"=some (some (.ref pS)))
  (l_q21:K.lookup pS=some ⟨Pj,PU,.func (fnOf "near" "Kept.near" (aJ km) (aq km) (ae km) .none Oe My QW K8 Cg LQ),Sn⟩)
  (c_q21:codeIn K Cg "Kept.near"=true) (k_q21:keepIn K (.ref pS)=true) (i_q21:isFn K (.ref pS)=true)
  (a_q5:findIn K (.ref aU) "need_name"=some (some (.ref z9)))
  (l_q5:K.lookup z9=some ⟨Xm,Xw,.func (fnOf "need_name" "Kept.need_name" (aJ sE) (aq sE) (ae sE) .none WX U4 X6 UA JO UQ),YK⟩)
  (c_q5:codeIn K JO "Kept.need_name"=true) (k_q5:keepIn K (.ref z9)=true) (i_q5:isFn K (.ref z9)=true)
  (a_q2:findIn K (.ref aU) "plain_points"=some (some (.ref zZ)))
  (l_q2:K.lookup zZ=some ⟨Xj,Xt,.func (fnOf "plain_points" "Kept.plain_points" (aJ sA) (aq sA) (ae sA) .none WU U1 X3 Ux JL UN),YG⟩)
  (c_q2:codeIn K JL "Kept.plain_points"=true) (k_q2:keepIn K (.ref zZ)=true) (i_q2:isFn K (.ref zZ)=true)
  (a_q29:nsIn K mainGlobals "_law_next"=some (some (.ref uO)))
  (l_q29:K.lookup uO=some ⟨Pt,Qc,.func (fnOf "_law_next" "_law_next" (aJ kz) (aq kz) (ae kz) .none Oq MG Q8 Lg Ct L0),SD⟩)
  (c_q29:codeIn K Ct "_law_next"=true) (k_q29:keepIn K (.ref uO)=true)
  (a_q30:nsIn K mainGlobals "_law_pots"=some (some (.ref uP)))
  (l_q30:K.lookup uP=some ⟨Pu,Qe,.func (fnOf "_law_pots" "_law_pots" (aJ kA) (aq kA) (ae kA) .none Ot MH Q9 Lh Cu L3),SE⟩)
  (c_q30:codeIn K Cu "_law_pots"=true) (k_q30:keepIn K (.ref uP)=true)
  (a_q32:nsIn K mainGlobals "_law_way"=some (some (.ref uR)))
  (l_q32:K.lookup uR=some ⟨Px,Qg,.func (fnOf "_law_way" "_law_way" (aJ kE) (aq kE) (ae kE) .none Ov MJ Rb Lj Cw L5),SG⟩)
  (c_q32:codeIn K Cw "_law_way"=true) (k_q32:keepIn K (.ref uR)=true)
  (a_q25:nsIn K mainGlobals "_law_point"=some (some (.ref uM)))
  (l_q25:K.lookup uM=some ⟨Pn,PZ,.func (fnOf "_law_point" "_law_point" (aJ kr) (aq kr) (ae kr) .none Oj MC Q0 Lc Cm LW),Sx⟩)
  (c_q25:codeIn K Cm "_law_point"=true) (k_q25:keepIn K (.ref uM)=true)
  (a_q15:nsIn K mainGlobals "_law_detour"=some (some (.ref uE)))
  (l_q15:K.lookup uE=some ⟨O8,PH,.func (fnOf "_law_detour" "_law_detour" (aJ j9) (aq j9) (ae j9) .none N8 Ms QQ K2 B8 LI),Sf⟩)
  (c_q15:codeIn K B8 "_law_detour"=true) (k_q15:keepIn K (.ref uE)=true)
  (a_q24:nsIn K mainGlobals "_law_named"=some (some (.ref uL)))
  (l_q24:K.lookup uL=some ⟨Pm,PY,.func (fnOf "_law_named" "_law_named" (aJ kq) (aq kq) (ae kq) .none Oi MB QZ Lb Ck LV),Sv⟩)
  (c_q24:codeIn K Ck "_law_named"=true) (k_q24:keepIn K (.ref uL)=true)
  (a_q23:nsIn K mainGlobals "_law_alike"=some (some (.ref uK)))
  (l_q23:K.lookup uK=some ⟨Pl,PX,.func (fnOf "_law_alike" "_law_alike" (aJ ko) (aq ko) (ae ko) .none Oh MA QY La Cj LU),Ss⟩)
  (c_q23:codeIn K Cj "_law_alike"=true) (k_q23:keepIn K (.ref uK)=true)
  (a_q3:nsIn K mainGlobals "_law_mixed_right"=some (some (.ref Dk)))
  (l_q3:K.lookup Dk=some ⟨Xk,Xu,.func (fnOf "_law_mixed_right" "_law_mixed_right" (aJ sC) (aq sC) (ae sC) .none WV U2 X4 Uy JM UO),YH⟩)
  (c_q3:codeIn K JM "_law_mixed_right"=true) (k_q3:keepIn K (.ref Dk)=true)
  (a_q26:nsIn K mainGlobals "_law_right"=some (some (.ref uN)))
  (l_q26:K.lookup uN=some ⟨Pp,P0,.func (fnOf "_law_right" "_law_right" (aJ ku) (aq ku) (ae ku) .none Ol MD Q5 Ld Cp LX),Sy⟩)
  (c_q26:codeIn K Cp "_law_right"=true) (k_q26:keepIn K (.ref uN)=true)
  (a_q33:nsIn K mainGlobals "law"=some (some (.ref pW)))
  (l_q33:K.lookup pW=some ⟨Py,Qh,.func (fnOf "law" "law" (aJ gv) (aq gv) (ae gv) .none D3 C5 EF BO wQ Cy),SH⟩)
  (c_q33:codeIn K wQ "law"=true) (k_q33:keepIn K (.ref pW)=true)
  (z_abs:nsIn K mainGlobals "abs"=some none)
  (z_dict:nsIn K mainGlobals "dict"=some none)
  (z_int:nsIn K mainGlobals "int"=some none)
  (z_len:nsIn K mainGlobals "len"=some none)
  (z_list:nsIn K mainGlobals "list"=some none)
  (z_max:nsIn K mainGlobals "max"=some none)
  (z_min:nsIn K mainGlobals "min"=some none)
  (z_range:nsIn K mainGlobals "range"=some none)
  (z_sorted:nsIn K mainGlobals "sorted"=some none)
  (z_sum:nsIn K mainGlobals "sum"=some none)
  (z_tuple:nsIn K mainGlobals "tuple"=some none)
  (z_zip:nsIn K mainGlobals "zip"=some none)
  (u_SQUARES:nsIn K mainGlobals "SQUARES"=some (some (.str "squares" xX)))
  (u_STREETS:nsIn K mainGlobals "STREETS"=some (some (.str "streets" xY))):
  ∃fd:FuncData,(∀(s:Shared) (v:Value),BindsTo s fd ⟨[v],[]⟩ [("script",v)])/\∀base:Heap,K.In base->base.Ns mainGlobals mg->cn l.prog w K mg base iL 8 fa fd ["script"] (zp K):=by
 have e:=hfa.symm.trans (mg_of X Gs a_q33);cases e;refine⟨fnOf "law" "law" (aJ gv) (aq gv) (ae gv) .none D3 C5 EF BO wQ Cy,λs v=>.of_eq rfl,λbase _ _=>?_⟩
 letI:KF:=⟨K,λx=>if x="Kept" then aU else 0,[]⟩
 have dB:KF.cls "Kept"=aU:=if_pos rfl;have kg:KG ⟨l.prog,w,K,mg,base⟩:=⟨by rw[show kC=aU from dB];exact⟨pg_Kept,hd_Kept,po_Kept,sa_Kept⟩,λf hf=>by
  rw[show kC=aU from dB]
  simp only[List.mem_cons,List.not_mem_nil,or_false]at hf;rcases hf with rfl|rfl|rfl|rfl
  ·exact n1_Kept
  ·exact n2_Kept
  ·exact n3_Kept
  ·exact n4_Kept⟩
 have E:Gl ⟨l.prog,w,K,mg,base⟩:=⟨kg,mg_none_of X Gs z_abs,mg_none_of X Gs z_dict,mg_none_of X Gs z_int,mg_none_of X Gs z_len,mg_none_of X Gs z_list,mg_none_of X Gs z_max,mg_none_of X Gs z_min,mg_none_of X Gs z_range,mg_none_of X Gs z_sorted,mg_none_of X Gs z_sum,mg_none_of X Gs z_tuple,mg_none_of X Gs z_zip,⟨_,.str "squares",mg_of X Gs u_SQUARES,⟨_,rfl⟩,λF=>.str _⟩,⟨_,.str "streets",mg_of X Gs u_STREETS,⟨_,rfl⟩,λF=>.str _⟩⟩;have Js:=aZ (K:=K) (st:=ki) l_q19 c_q19 k_q19;have CK:du ⟨l.prog,w,K,mg,base⟩ "need_count" ki ["count"] _ _:=⟨Js,mg_of X Gs a_q19,Js.binds λ_ _ _ _ _ _ us hl=>Ec (λ_=>rfl) us hl⟩;have T8:=aZ (K:=K) (st:=sx) l_q0 c_q0 k_q0;have L7:du ⟨l.prog,w,K,mg,base⟩ "need_as_many_numbers" sx ["point","count"] _ _:=⟨T8,mg_of X Gs a_q0,T8.binds λ_ _ _ _ _ _ us hl=>ln2 (λ_ _=>rfl) us hl⟩;have Jl:=aZ (K:=K) (st:=j6) l_q12 c_q12 k_q12;have CC:du ⟨l.prog,w,K,mg,base⟩ "need_points" j6 ["points"] _ _:=⟨Jl,mg_of X Gs a_q12,Jl.binds λ_ _ _ _ _ _ us hl=>Ec (λ_=>rfl) us hl⟩;have JE:=aZ (K:=K) (st:=kB) l_q31 c_q31 k_q31;have C0:du ⟨l.prog,w,K,mg,base⟩ "need_way" kB ["way"] _ _:=⟨JE,mg_of X Gs a_q31,JE.binds λ_ _ _ _ _ _ us hl=>Ec (λ_=>rfl) us hl⟩;have T9:=aZ (K:=K) (st:=sy) l_q1 c_q1 k_q1;have L8:du ⟨l.prog,w,K,mg,base⟩ "need_points_and_way" sy ["points","way"] _ _:=⟨T9,mg_of X Gs a_q1,T9.binds λ_ _ _ _ _ _ us hl=>ln2 (λ_ _=>rfl) us hl⟩;have Jt:=aZ (K:=K) (st:=kj) l_q20 c_q20 k_q20;have CL:du ⟨l.prog,w,K,mg,base⟩ "need_place" kj ["points","place"] _ _:=⟨Jt,mg_of X Gs a_q20,Jt.binds λ_ _ _ _ _ _ us hl=>ln2 (λ_ _=>rfl) us hl⟩;have Jr:=aZ (K:=K) (st:=kh) l_q18 c_q18 k_q18;have CJ:du ⟨l.prog,w,K,mg,base⟩ "need_bound" kh ["bound"] _ _:=⟨Jr,mg_of X Gs a_q18,Jr.binds λ_ _ _ _ _ _ us hl=>Ec (λ_=>rfl) us hl⟩;have Jj:=aZ (K:=K) (st:=j3) l_q10 c_q10 k_q10;have CA:du ⟨l.prog,w,K,mg,base⟩ "far_between" j3 ["way","point","other"] _ _:=⟨Jj,mg_of X Gs a_q10,Jj.binds λ_ _ _ _ _ _ us hl=>Ht (λ_ _ _=>rfl) us hl⟩;have Uc:=aZ (K:=K) (st:=sD) l_q4 c_q4 k_q4;have Mb:du ⟨l.prog,w,K,mg,base⟩ "pairs_by_places" sD ["points","way"] _ _:=⟨Uc,mg_of X Gs a_q4,Uc.binds λ_ _ _ _ _ _ us hl=>ln2 (λ_ _=>rfl) us hl⟩;have Jp:=aZ (K:=K) (st:=ka) l_q16 c_q16 k_q16;have CH:du ⟨l.prog,w,K,mg,base⟩ "near_pairs" ka ["points","way","bound"] _ _:=⟨Jp,mg_of X Gs a_q16,Jp.binds λ_ _ _ _ _ _ us hl=>Ht (λ_ _ _=>rfl) us hl⟩;have Ug:=aZ (K:=K) (st:=sI) l_q7 c_q7 k_q7;have Mg:du ⟨l.prog,w,K,mg,base⟩ "nearest_among" sI ["points","way","point","places"] _ _:=⟨Ug,mg_of X Gs a_q7,Ug.binds λ_ _ _ _ _ _ us hl=>ZW (λ_ _ _ _=>rfl) us hl⟩
 have Uh:=aZ (K:=K) (st:=sJ) l_q8 c_q8 k_q8;have Mh:du ⟨l.prog,w,K,mg,base⟩ "nearest_other" sJ ["points","way","place"] _ _:=⟨Uh,mg_of X Gs a_q8,Uh.binds λ_ _ _ _ _ _ us hl=>Ht (λ_ _ _=>rfl) us hl⟩;have Jk:=aZ (K:=K) (st:=j4) l_q11 c_q11 k_q11;have CB:du ⟨l.prog,w,K,mg,base⟩ "nearest_two" j4 ["points","way"] _ _:=⟨Jk,mg_of X Gs a_q11,Jk.binds λ_ _ _ _ _ _ us hl=>ln2 (λ_ _=>rfl) us hl⟩;have Jq:=aZ (K:=K) (st:=kc) l_q17 c_q17 k_q17;have CI:du ⟨l.prog,w,K,mg,base⟩ "nearest_of" kc ["points","way","place"] _ _:=⟨Jq,mg_of X Gs a_q17,Jq.binds λ_ _ _ _ _ _ us hl=>Ht (λ_ _ _=>rfl) us hl⟩;have Ue:=aZ (K:=K) (st:=sG) l_q6 c_q6 k_q6;have Mf:Zb ⟨l.prog,w,K,mg,base⟩ "__init__" "Kept.__init__" sG ["self","way","count"] _ _:=⟨Ue,by rw[show kC=aU from dB];exact⟨mk_Kept,a_q6,i_q6,kp_Kept⟩,Ue.binds λ_ _ _ _ _ _ us hl=>Ht (λ_ _ _=>rfl) us hl,by rw[show kC=aU from dB];exact mg_of X Gs g_Kept⟩
 have JA:=aZ (K:=K) (st:=kx) l_q27 c_q27 k_q27;have CV:o4 ⟨l.prog,w,K,mg,base⟩ "put" "Kept.put" kx ["self","point"] _ _:=⟨JA,by rw[show kC=aU from dB];exact⟨a_q27,i_q27,k_q27⟩,JA.binds λ_ _ _ _ _ _ us hl=>ln2 (λ_ _=>rfl) us hl⟩
 have Jv:=aZ (K:=K) (st:=kn) l_q22 c_q22 k_q22;have CO:o4 ⟨l.prog,w,K,mg,base⟩ "take" "Kept.take" kn ["self","name"] _ _:=⟨Jv,by rw[show kC=aU from dB];exact⟨a_q22,i_q22,k_q22⟩,Jv.binds λ_ _ _ _ _ _ us hl=>ln2 (λ_ _=>rfl) us hl⟩
 have Jm:=aZ (K:=K) (st:=j7) l_q13 c_q13 k_q13;have CD:o4 ⟨l.prog,w,K,mg,base⟩ "names" "Kept.names" j7 ["self"] _ _:=⟨Jm,by rw[show kC=aU from dB];exact⟨a_q13,i_q13,k_q13⟩,Jm.binds λ_ _ _ _ _ _ us hl=>Ec (λ_=>rfl) us hl⟩
 have Jn:=aZ (K:=K) (st:=j8) l_q14 c_q14 k_q14;have CF:o4 ⟨l.prog,w,K,mg,base⟩ "point" "Kept.point" j8 ["self","name"] _ _:=⟨Jn,by rw[show kC=aU from dB];exact⟨a_q14,i_q14,k_q14⟩,Jn.binds λ_ _ _ _ _ _ us hl=>ln2 (λ_ _=>rfl) us hl⟩
 have JB:=aZ (K:=K) (st:=ky) l_q28 c_q28 k_q28;have CW:o4 ⟨l.prog,w,K,mg,base⟩ "two" "Kept.two" ky ["self"] _ _:=⟨JB,by rw[show kC=aU from dB];exact⟨a_q28,i_q28,k_q28⟩,JB.binds λ_ _ _ _ _ _ us hl=>Ec (λ_=>rfl) us hl⟩
 have Ui:=aZ (K:=K) (st:=sL) l_q9 c_q9 k_q9;have Mi:o4 ⟨l.prog,w,K,mg,base⟩ "nearest" "Kept.nearest" sL ["self","name"] _ _:=⟨Ui,by rw[show kC=aU from dB];exact⟨a_q9,i_q9,k_q9⟩,Ui.binds λ_ _ _ _ _ _ us hl=>ln2 (λ_ _=>rfl) us hl⟩
 have Ju:=aZ (K:=K) (st:=km) l_q21 c_q21 k_q21;have CN:o4 ⟨l.prog,w,K,mg,base⟩ "near" "Kept.near" km ["self","bound"] _ _:=⟨Ju,by rw[show kC=aU from dB];exact⟨a_q21,i_q21,k_q21⟩,Ju.binds λ_ _ _ _ _ _ us hl=>ln2 (λ_ _=>rfl) us hl⟩
 have Ud:=aZ (K:=K) (st:=sE) l_q5 c_q5 k_q5;have Md:o4 ⟨l.prog,w,K,mg,base⟩ "need_name" "Kept.need_name" sE ["self","name"] _ _:=⟨Ud,by rw[show kC=aU from dB];exact⟨a_q5,i_q5,k_q5⟩,Ud.binds λ_ _ _ _ _ _ us hl=>ln2 (λ_ _=>rfl) us hl⟩
 have Ua:=aZ (K:=K) (st:=sA) l_q2 c_q2 k_q2;have L9:o4 ⟨l.prog,w,K,mg,base⟩ "plain_points" "Kept.plain_points" sA ["self"] _ _:=⟨Ua,by rw[show kC=aU from dB];exact⟨a_q2,i_q2,k_q2⟩,Ua.binds λ_ _ _ _ _ _ us hl=>Ec (λ_=>rfl) us hl⟩
 have JC:=aZ (K:=K) (st:=kz) l_q29 c_q29 k_q29;have CY:du ⟨l.prog,w,K,mg,base⟩ "_law_next" kz ["pot","many"] _ _:=⟨JC,mg_of X Gs a_q29,JC.binds λ_ _ _ _ _ _ us hl=>ln2 (λ_ _=>rfl) us hl⟩;have JD:=aZ (K:=K) (st:=kA) l_q30 c_q30 k_q30;have CZ:du ⟨l.prog,w,K,mg,base⟩ "_law_pots" kA ["script"] _ _:=⟨JD,mg_of X Gs a_q30,JD.binds λ_ _ _ _ _ _ us hl=>Ec (λ_=>rfl) us hl⟩;have JF:=aZ (K:=K) (st:=kE) l_q32 c_q32 k_q32;have C1:du ⟨l.prog,w,K,mg,base⟩ "_law_way" kE ["pot"] _ _:=⟨JF,mg_of X Gs a_q32,JF.binds λ_ _ _ _ _ _ us hl=>Ec (λ_=>rfl) us hl⟩;have Jy:=aZ (K:=K) (st:=kr) l_q25 c_q25 k_q25;have CT:du ⟨l.prog,w,K,mg,base⟩ "_law_point" kr ["pot","count","own"] _ _:=⟨Jy,mg_of X Gs a_q25,Jy.binds λ_ _ _ _ _ _ us hl=>Ht (λ_ _ _=>rfl) us hl⟩;have Jo:=aZ (K:=K) (st:=j9) l_q15 c_q15 k_q15;have CG:du ⟨l.prog,w,K,mg,base⟩ "_law_detour" j9 ["pot","kept","count"] _ _:=⟨Jo,mg_of X Gs a_q15,Jo.binds λ_ _ _ _ _ _ us hl=>Ht (λ_ _ _=>rfl) us hl⟩;have Jx:=aZ (K:=K) (st:=kq) l_q24 c_q24 k_q24;have CQ:du ⟨l.prog,w,K,mg,base⟩ "_law_named" kq ["names","pair"] _ _:=⟨Jx,mg_of X Gs a_q24,Jx.binds λ_ _ _ _ _ _ us hl=>ln2 (λ_ _=>rfl) us hl⟩;have Jw:=aZ (K:=K) (st:=ko) l_q23 c_q23 k_q23;have CP:du ⟨l.prog,w,K,mg,base⟩ "_law_alike" ko ["plain","bent","names","bound"] _ _:=⟨Jw,mg_of X Gs a_q23,Jw.binds λ_ _ _ _ _ _ us hl=>ZW (λ_ _ _ _=>rfl) us hl⟩;have Ub:=aZ (K:=K) (st:=sC) l_q3 c_q3 k_q3;have Ma:du ⟨l.prog,w,K,mg,base⟩ "_law_mixed_right" sC ["plain","mixed","names","bound"] _ _:=⟨Ub,mg_of X Gs a_q3,Ub.binds λ_ _ _ _ _ _ us hl=>ZW (λ_ _ _ _=>rfl) us hl⟩;have Jz:=aZ (K:=K) (st:=ku) l_q26 c_q26 k_q26;have CU:du ⟨l.prog,w,K,mg,base⟩ "_law_right" ku ["pot","way","count"] _ _:=⟨Jz,mg_of X Gs a_q26,Jz.binds λ_ _ _ _ _ _ us hl=>Ht (λ_ _ _=>rfl) us hl⟩;have JG:=aZ (K:=K) (st:=gv) l_q33 c_q33 k_q33;have C2:du ⟨l.prog,w,K,mg,base⟩ "law" gv ["script"] _ _:=⟨JG,mg_of X Gs a_q33,JG.binds λ_ _ _ _ _ _ us hl=>Ec (λ_=>rfl) us hl⟩;exact Qi rfl rfl E CK L7 CC C0 L8 CL CJ CA Mb CH Mg Mh CB CI Mf CV CO CD CF CW Mi CN Md L9 CY CZ C1 CT CG CQ CP Ma CU C2
theorem walk{l:PySem.W.OpenLaw}{q:Program}{loose:List Str}{XP:(Str->Option Value)->Heap->Prop}{YP:World->Heap->Prop}{d:DefRec}{K:Params->PySem.W.Frag}(hn:l.most=some 63)(V8:d.params.defaults=[])
  (hY:∀(w:World) (h:Heap),YP w h->(K w.params).In h)
  (F:∀(w:World) (mg:Str->Option Value) (fa:Addr) (h:Heap),(K w.params).In h->h.Ns mainGlobals mg->mg d.name=some (.ref fa) ->
   ∃fd:FuncData,(∀(s:Shared) (u:Value),BindsTo s fd ⟨[u],[]⟩ [("script",u)])/\∀base:Heap,(K w.params).In base->base.Ns mainGlobals mg->cn l.prog w (K w.params) mg base iL 8 fa fd ["script"] (zp (K w.params))):
  PySem.W.WalkO q loose XP YP l.row.toRowW d [] (λf vs=>PySem.call f vs):=
 L2.Je (n:=63) (k:=8) (x:="script") (CX:=λ_=>iL) (sp:=λw=>zp (K w.params)) hn ∅ V8 ⟨rfl,by decide,by decide⟩ hY F (λ_ _ a ns hl _ hS=>⟨a,ns,rfl,hS,hl,λ_=>rfl⟩) λ_ _ _ _ _ z=>z
end K35
namespace PySem.W.Fast
theorem tw10022714921943231568:True:=⟨⟩
theorem tw10145771671324409170:True:=⟨⟩
theorem tw1022429532672144644:True:=⟨⟩
theorem tw10351265981415284343:True:=⟨⟩
theorem tw1046696712512679904:True:=⟨⟩
theorem tw10581696250866037974:True:=⟨⟩
theorem tw1059721300638607497:True:=⟨⟩
theorem tw10604896564786765917:True:=⟨⟩
theorem tw10652363731670368856:True:=⟨⟩
theorem tw10764259150396768501:True:=⟨⟩
theorem tw10930833122423736994:True:=⟨⟩
theorem tw11360755613146744880:True:=⟨⟩
theorem tw11374797871669209740:True:=⟨⟩
theorem tw11584238926483009723:True:=⟨⟩
theorem tw11622143706558058841:True:=⟨⟩
theorem tw11646562938430163664:True:=⟨⟩
theorem tw1186845823512126180:True:=⟨⟩
theorem tw1204919550973165286:True:=⟨⟩
theorem tw12362121152865829542:True:=⟨⟩
theorem tw12464806964934504080:True:=⟨⟩
theorem tw12518333562021388491:True:=⟨⟩
theorem tw12557193937067438612:True:=⟨⟩
theorem tw12579967591251276113:True:=⟨⟩
theorem tw12611601870728115743:True:=⟨⟩
theorem tw12832619832408629234:True:=⟨⟩
theorem tw13032843990873102153:True:=⟨⟩
theorem tw13052273192280131183:True:=⟨⟩
theorem tw13207553381846065964:True:=⟨⟩
theorem tw13474554152853977862:True:=⟨⟩
theorem tw13567207214855953851:True:=⟨⟩
theorem tw13568034903456284658:True:=⟨⟩
theorem tw13634886931694622844:True:=⟨⟩
theorem tw13688743716734690852:True:=⟨⟩
theorem tw13723725803239069648:True:=⟨⟩
theorem tw13953292748620211781:True:=⟨⟩
theorem tw13960610060400072448:True:=⟨⟩
theorem tw14056709242058624830:True:=⟨⟩
theorem tw14097468436354359555:True:=⟨⟩
theorem tw14173846146746078608:True:=⟨⟩
theorem tw14214922797418118389:True:=⟨⟩
theorem tw14259109182243891831:True:=⟨⟩
theorem tw14315230606046396049:True:=⟨⟩
theorem tw14341133620157768347:True:=⟨⟩
theorem tw14491832248855149193:True:=⟨⟩
theorem tw14508195573364593661:True:=⟨⟩
theorem tw14732024572598822928:True:=⟨⟩
theorem tw14733316416895417662:True:=⟨⟩
theorem tw14851984497857707829:True:=⟨⟩
theorem tw14959246155819369322:True:=⟨⟩
theorem tw15013728580318898023:True:=⟨⟩
theorem tw15037013114326733542:True:=⟨⟩
theorem tw1548160912859833516:True:=⟨⟩
theorem tw15549380290612702235:True:=⟨⟩
theorem tw15576367275090302275:True:=⟨⟩
theorem tw15647918429282512347:True:=⟨⟩
theorem tw15900149642399967732:True:=⟨⟩
theorem tw15925211576257791147:True:=⟨⟩
theorem tw16058499051059055237:True:=⟨⟩
theorem tw16098173590543872308:True:=⟨⟩
theorem tw16176525373170892164:True:=⟨⟩
theorem tw16376580213264556674:True:=⟨⟩
theorem tw16412085745562405122:True:=⟨⟩
theorem tw1647495138383821126:True:=⟨⟩
theorem tw16480568033795909947:True:=⟨⟩
theorem tw16675006777782435188:True:=⟨⟩
theorem tw16692350063381758721:True:=⟨⟩
theorem tw1673656120872112874:True:=⟨⟩
theorem tw1682684640370523485:True:=⟨⟩
theorem tw16894142964601394800:True:=⟨⟩
theorem tw17067589588399126488:True:=⟨⟩
theorem tw17179636731550738489:True:=⟨⟩
theorem tw17194119584786490279:True:=⟨⟩
theorem tw17325173951343845100:True:=⟨⟩
theorem tw1737251495281463634:True:=⟨⟩
theorem tw17514518145247385605:True:=⟨⟩
theorem tw17563028320426173269:True:=⟨⟩
theorem tw17579814978262659233:True:=⟨⟩
theorem tw17735995663711819167:True:=⟨⟩
theorem tw17744774979996981259:True:=⟨⟩
theorem tw17762052198942657760:True:=⟨⟩
theorem tw17935311091639092165:True:=⟨⟩
theorem tw18136740968315626462:True:=⟨⟩
theorem tw18148852369343474291:True:=⟨⟩
theorem tw18222527321263175566:True:=⟨⟩
theorem tw18267377424482004864:True:=⟨⟩
theorem tw18282607903746857029:True:=⟨⟩
theorem tw1858952807166913219:True:=⟨⟩
theorem tw2067265382743771877:True:=⟨⟩
theorem tw2085014027457914747:True:=⟨⟩
theorem tw2264720332302411163:True:=⟨⟩
theorem tw2291398408184742380:True:=⟨⟩
theorem tw2330198292961742449:True:=⟨⟩
theorem tw2735831875769782405:True:=⟨⟩
theorem tw2785859650835012564:True:=⟨⟩
theorem tw2788867106425336457:True:=⟨⟩
theorem tw2852860373342649570:True:=⟨⟩
theorem tw2935056943017694086:True:=⟨⟩
theorem tw2956518332640610429:True:=⟨⟩
theorem tw2985152372770604759:True:=⟨⟩
theorem tw3057458580018296063:True:=⟨⟩
theorem tw312334829579021989:True:=⟨⟩
theorem tw3134722875137885711:True:=⟨⟩
theorem tw313563004639293956:True:=⟨⟩
theorem tw3164705154112428264:True:=⟨⟩
theorem tw32583577067658001:True:=⟨⟩
theorem tw3267962310437633188:True:=⟨⟩
theorem tw3379490564532329712:True:=⟨⟩
theorem tw3471581239556132116:True:=⟨⟩
theorem tw3525701536904464497:True:=⟨⟩
theorem tw3583670679922190597:True:=⟨⟩
theorem tw3639756189299544675:True:=⟨⟩
theorem tw3671628229005869398:True:=⟨⟩
theorem tw3769250444051711326:True:=⟨⟩
theorem tw3855475672206177617:True:=⟨⟩
theorem tw3907732056870932700:True:=⟨⟩
theorem tw391459630234376722:True:=⟨⟩
theorem tw3940104119525584946:True:=⟨⟩
theorem tw3949836640118566464:True:=⟨⟩
theorem tw3955950551004436270:True:=⟨⟩
theorem tw3979746461788379314:True:=⟨⟩
theorem tw4025290799377285691:True:=⟨⟩
theorem tw4066029446019522736:True:=⟨⟩
theorem tw41643687202519462:True:=⟨⟩
theorem tw4177901011440624207:True:=⟨⟩
theorem tw4266547390483345587:True:=⟨⟩
theorem tw4359749828218447928:True:=⟨⟩
theorem tw4437276187612759228:True:=⟨⟩
theorem tw4619651102335957087:True:=⟨⟩
theorem tw4631246879119460292:True:=⟨⟩
theorem tw4651050187871979990:True:=⟨⟩
theorem tw4683969203049372962:True:=⟨⟩
theorem tw4750834549296674743:True:=⟨⟩
theorem tw5094139419404148460:True:=⟨⟩
theorem tw5256698943784819159:True:=⟨⟩
theorem tw5278713651110648056:True:=⟨⟩
theorem tw5349971642448090217:True:=⟨⟩
theorem tw5472860842557699001:True:=⟨⟩
theorem tw5498375459498591541:True:=⟨⟩
theorem tw5506249134107550505:True:=⟨⟩
theorem tw5507045495387278553:True:=⟨⟩
theorem tw586228499748000474:True:=⟨⟩
theorem tw5901545880836992244:True:=⟨⟩
theorem tw6137686545489528369:True:=⟨⟩
theorem tw6206617767307355908:True:=⟨⟩
theorem tw6219245663577399862:True:=⟨⟩
theorem tw622839854562975269:True:=⟨⟩
theorem tw6500322560653219485:True:=⟨⟩
theorem tw656329740526917099:True:=⟨⟩
theorem tw6625793186293333201:True:=⟨⟩
theorem tw6759851824243074867:True:=⟨⟩
theorem tw6877441060208405027:True:=⟨⟩
theorem tw6907986783626094273:True:=⟨⟩
theorem tw699963691981373836:True:=⟨⟩
theorem tw7058487615222472727:True:=⟨⟩
theorem tw7164672129717581055:True:=⟨⟩
theorem tw7382975764468188945:True:=⟨⟩
theorem tw7717897108751842013:True:=⟨⟩
theorem tw7889586409720859676:True:=⟨⟩
theorem tw7900008422474033846:True:=⟨⟩
theorem tw790028465510430668:True:=⟨⟩
theorem tw7970891938180004359:True:=⟨⟩
theorem tw8085687346804835548:True:=⟨⟩
theorem tw8200885407720853427:True:=⟨⟩
theorem tw828699546495408178:True:=⟨⟩
theorem tw8332926470008138982:True:=⟨⟩
theorem tw8432516389057966982:True:=⟨⟩
theorem tw86365121244585198:True:=⟨⟩
theorem tw8652059043483715757:True:=⟨⟩
theorem tw8764304833712774907:True:=⟨⟩
theorem tw884262687266375745:True:=⟨⟩
theorem tw8899245728813307768:True:=⟨⟩
theorem tw8932708256985088937:True:=⟨⟩
theorem tw8950854201260854761:True:=⟨⟩
theorem tw8967444882696295350:True:=⟨⟩
theorem tw9048678419119927079:True:=⟨⟩
theorem tw932434194349567853:True:=⟨⟩
theorem tw9545897197078180981:True:=⟨⟩
theorem tw9713542004023894138:True:=⟨⟩
theorem tw9750006596774964830:True:=⟨⟩
theorem tw9754928661679328697:True:=⟨⟩
theorem tw9772210248222049217:True:=⟨⟩
theorem tw978496578889549329:True:=⟨⟩
theorem tw9814424582314639265:True:=⟨⟩
theorem tw987763033388489664:True:=⟨⟩
theorem tw9958695827264943858:True:=⟨⟩
end PySem.W.Fast
open PySem PySem.W PyProof.Rows
set_option maxRecDepth 100000 in
set_option maxHeartbeats 0 in
theorem PySem.Challenge.cw_closepoints_k35_whole_kept_otherwise_holds : PySem.Challenge.rw_closepoints_k35_whole_kept_otherwise.Holds := by
 w_on;o_law;z_head;(case hw=>w_witness2)
 k_fill
 refine Vc.Tf (λ_=>by kernel_rfl) (K35.walk (l:=PySem.Challenge.rw_closepoints_k35_whole_kept_otherwise) rfl rfl (λw h Y=>Y) ?F)
 case F =>
  intro w mg fa h KX G hmg;refine' K35.all_mk KX G hmg ?g_Kept ?pg_Kept ?hd_Kept ?po_Kept ?sa_Kept ?n1_Kept ?n2_Kept ?n3_Kept ?n4_Kept ?mk_Kept ?kp_Kept ?a_q19 ?l_q19 ?c_q19 ?k_q19 ?a_q0 ?l_q0 ?c_q0 ?k_q0 ?a_q12 ?l_q12 ?c_q12 ?k_q12 ?a_q31 ?l_q31 ?c_q31 ?k_q31 ?a_q1 ?l_q1 ?c_q1 ?k_q1 ?a_q20 ?l_q20 ?c_q20 ?k_q20 ?a_q18 ?l_q18 ?c_q18 ?k_q18 ?a_q10 ?l_q10 ?c_q10 ?k_q10 ?a_q4 ?l_q4 ?c_q4 ?k_q4 ?a_q16 ?l_q16 ?c_q16 ?k_q16 ?a_q7 ?l_q7 ?c_q7 ?k_q7 ?a_q8 ?l_q8 ?c_q8 ?k_q8 ?a_q11 ?l_q11 ?c_q11 ?k_q11 ?a_q17 ?l_q17 ?c_q17 ?k_q17 ?a_q6 ?l_q6 ?c_q6 ?k_q6 ?i_q6 ?a_q27 ?l_q27 ?c_q27 ?k_q27 ?i_q27 ?a_q22 ?l_q22 ?c_q22 ?k_q22 ?i_q22 ?a_q13 ?l_q13 ?c_q13 ?k_q13 ?i_q13 ?a_q14 ?l_q14 ?c_q14 ?k_q14 ?i_q14 ?a_q28 ?l_q28 ?c_q28 ?k_q28 ?i_q28 ?a_q9 ?l_q9 ?c_q9 ?k_q9 ?i_q9 ?a_q21 ?l_q21 ?c_q21 ?k_q21 ?i_q21 ?a_q5 ?l_q5 ?c_q5 ?k_q5 ?i_q5 ?a_q2 ?l_q2 ?c_q2 ?k_q2 ?i_q2 ?a_q29 ?l_q29 ?c_q29 ?k_q29 ?a_q30 ?l_q30 ?c_q30 ?k_q30 ?a_q32 ?l_q32 ?c_q32 ?k_q32 ?a_q25 ?l_q25 ?c_q25 ?k_q25 ?a_q15 ?l_q15 ?c_q15 ?k_q15 ?a_q24 ?l_q24 ?c_q24 ?k_q24 ?a_q23 ?l_q23 ?c_q23 ?k_q23 ?a_q3 ?l_q3 ?c_q3 ?k_q3 ?a_q26 ?l_q26 ?c_q26 ?k_q26 ?a_q33 ?l_q33 ?c_q33 ?k_q33 ?z_abs ?z_dict ?z_int ?z_len ?z_list ?z_max ?z_min ?z_range ?z_sorted ?z_sum ?z_tuple ?z_zip ?u_SQUARES ?u_STREETS
  (case g_Kept=>ac_rfl)
  (case pg_Kept=>ac_rfl)
  (case hd_Kept=>ac_rfl)
  (case po_Kept=>ac_rfl)
  (case sa_Kept=>ac_rfl)
  (case n1_Kept=>ac_rfl)
  (case n2_Kept=>ac_rfl)
  (case n3_Kept=>ac_rfl)
  (case n4_Kept=>ac_rfl)
  (case mk_Kept=>ac_rfl)
  (case kp_Kept=>ac_rfl)
  (case a_q19=>ac_rfl)
  (case l_q19=>ac_rfl)
  (case c_q19=>ac_rfl)
  (case k_q19=>ac_rfl)
  (case a_q0=>ac_rfl)
  (case l_q0=>ac_rfl)
  (case c_q0=>ac_rfl)
  (case k_q0=>ac_rfl)
  (case a_q12=>ac_rfl)
  (case l_q12=>ac_rfl)
  (case c_q12=>ac_rfl)
  (case k_q12=>ac_rfl)
  (case a_q31=>ac_rfl)
  (case l_q31=>ac_rfl)
  (case c_q31=>ac_rfl)
  (case k_q31=>ac_rfl)
  (case a_q1=>ac_rfl)
  (case l_q1=>ac_rfl)
  (case c_q1=>ac_rfl)
  (case k_q1=>ac_rfl)
  (case a_q20=>ac_rfl)
  (case l_q20=>ac_rfl)
  (case c_q20=>ac_rfl)
  (case k_q20=>ac_rfl)
  (case a_q18=>ac_rfl)
  (case l_q18=>ac_rfl)
  (case c_q18=>ac_rfl)
  (case k_q18=>ac_rfl)
  (case a_q10=>ac_rfl)
  (case l_q10=>ac_rfl)
  (case c_q10=>ac_rfl)
  (case k_q10=>ac_rfl)
  (case a_q4=>ac_rfl)
  (case l_q4=>ac_rfl)
  (case c_q4=>ac_rfl)
  (case k_q4=>ac_rfl)
  (case a_q16=>ac_rfl)
  (case l_q16=>ac_rfl)
  (case c_q16=>ac_rfl)
  (case k_q16=>ac_rfl)
  (case a_q7=>ac_rfl)
  (case l_q7=>ac_rfl)
  (case c_q7=>ac_rfl)
  (case k_q7=>ac_rfl)
  (case a_q8=>ac_rfl)
  (case l_q8=>ac_rfl)
  (case c_q8=>ac_rfl)
  (case k_q8=>ac_rfl)
  (case a_q11=>ac_rfl)
  (case l_q11=>ac_rfl)
  (case c_q11=>ac_rfl)
  (case k_q11=>ac_rfl)
  (case a_q17=>ac_rfl)
  (case l_q17=>ac_rfl)
  (case c_q17=>ac_rfl)
  (case k_q17=>ac_rfl)
  (case a_q6=>ac_rfl)
  (case l_q6=>ac_rfl)
  (case c_q6=>ac_rfl)
  (case k_q6=>ac_rfl)
  (case i_q6=>ac_rfl)
  (case a_q27=>ac_rfl)
  (case l_q27=>ac_rfl)
  (case c_q27=>ac_rfl)
  (case k_q27=>ac_rfl)
  (case i_q27=>ac_rfl)
  (case a_q22=>ac_rfl)
  (case l_q22=>ac_rfl)
  (case c_q22=>ac_rfl)
  (case k_q22=>ac_rfl)
  (case i_q22=>ac_rfl)
  (case a_q13=>ac_rfl)
  (case l_q13=>ac_rfl)
  (case c_q13=>ac_rfl)
  (case k_q13=>ac_rfl)
  (case i_q13=>ac_rfl)
  (case a_q14=>ac_rfl)
  (case l_q14=>ac_rfl)
  (case c_q14=>ac_rfl)
  (case k_q14=>ac_rfl)
  (case i_q14=>ac_rfl)
  (case a_q28=>ac_rfl)
  (case l_q28=>ac_rfl)
  (case c_q28=>ac_rfl)
  (case k_q28=>ac_rfl)
  (case i_q28=>ac_rfl)
  (case a_q9=>ac_rfl)
  (case l_q9=>ac_rfl)
  (case c_q9=>ac_rfl)
  (case k_q9=>ac_rfl)
  (case i_q9=>ac_rfl)
  (case a_q21=>ac_rfl)
  (case l_q21=>ac_rfl)
  (case c_q21=>ac_rfl)
  (case k_q21=>ac_rfl)
  (case i_q21=>ac_rfl)
  (case a_q5=>ac_rfl)
  (case l_q5=>ac_rfl)
  (case c_q5=>ac_rfl)
  (case k_q5=>ac_rfl)
  (case i_q5=>ac_rfl)
  (case a_q2=>ac_rfl)
  (case l_q2=>ac_rfl)
  (case c_q2=>ac_rfl)
  (case k_q2=>ac_rfl)
  (case i_q2=>ac_rfl)
  (case a_q29=>ac_rfl)
  (case l_q29=>ac_rfl)
  (case c_q29=>ac_rfl)
  (case k_q29=>ac_rfl)
  (case a_q30=>ac_rfl)
  (case l_q30=>ac_rfl)
  (case c_q30=>ac_rfl)
  (case k_q30=>ac_rfl)
  (case a_q32=>ac_rfl)
  (case l_q32=>ac_rfl)
  (case c_q32=>ac_rfl)
  (case k_q32=>ac_rfl)
  (case a_q25=>ac_rfl)
  (case l_q25=>ac_rfl)
  (case c_q25=>ac_rfl)
  (case k_q25=>ac_rfl)
  (case a_q15=>ac_rfl)
  (case l_q15=>ac_rfl)
  (case c_q15=>ac_rfl)
  (case k_q15=>ac_rfl)
  (case a_q24=>ac_rfl)
  (case l_q24=>ac_rfl)
  (case c_q24=>ac_rfl)
  (case k_q24=>ac_rfl)
  (case a_q23=>ac_rfl)
  (case l_q23=>ac_rfl)
  (case c_q23=>ac_rfl)
  (case k_q23=>ac_rfl)
  (case a_q3=>ac_rfl)
  (case l_q3=>ac_rfl)
  (case c_q3=>ac_rfl)
  (case k_q3=>ac_rfl)
  (case a_q26=>ac_rfl)
  (case l_q26=>ac_rfl)
  (case c_q26=>ac_rfl)
  (case k_q26=>ac_rfl)
  (case a_q33=>ac_rfl)
  (case l_q33=>ac_rfl)
  (case c_q33=>ac_rfl)
  (case k_q33=>ac_rfl)
  (case z_abs=>ac_rfl)
  (case z_dict=>ac_rfl)
  (case z_int=>ac_rfl)
  (case z_len=>ac_rfl)
  (case z_list=>ac_rfl)
  (case z_max=>ac_rfl)
  (case z_min=>ac_rfl)
  (case z_range=>ac_rfl)
  (case z_sorted=>ac_rfl)
  (case z_sum=>ac_rfl)
  (case z_tuple=>ac_rfl)
  (case z_zip=>ac_rfl)
  (case u_SQUARES=>ac_rfl)
  (case u_STREETS=>ac_rfl)
