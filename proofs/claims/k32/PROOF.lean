import PyProof.Rows.All
import Wide.All
import OpenK.AllK
import Wide.FinOn
import Lean
import PyProof.EqAt
import PyProof.EqKinds
import PyProof.TupleCall
import PySem.Challenge.RW_closepoints_k32_kept_refused
noncomputable section
set_option Elab.async false
set_option linter.all false
set_option hygiene false
local macro_rules | `(tactic| omega) => `(tactic| first | lia | omega +splitNatSub)
local macro_rules | `(⋯) => `((by omega))
local macro_rules | `(∅) => `((by decide))
set_option maxRecDepth 100000
local macro_rules|`(tactic| walk_at "9")=>`(tactic| first|k_is|kernel_rfl|decide)
local macro_rules | `(tactic| ac_rfl) => `(tactic| walk_at "9")
set_option compiler.extract_closed false
-- CHANGE: your row's module here,as the last of these rows
namespace L2
open PySem PySem.Spec PyProof.Rows
abbrev Key:=Sum Int Str
def pG:Key->Value->Bool
 | .inl k,v=>Value.isInt k v
 | .inr x,v=>Value.isStrOf x v
def abz(w:World):Key->Int
 | .inl k=>hashInt k
 | .inr x=>hashStr w x
theorem bU:∀ {k:Key} {v:Value},pG k v=true->(∃i t,k=Sum.inl i/\v=Value.int i t)\/(∃x t,k=Sum.inr x/\v=Value.str x t)
 | .inl i,v,h=>by
  obtain⟨t,e⟩:=Value.isInt_shape (k:=i) (v:=v) h;exact .inl ⟨i,t,rfl,e⟩
 | .inr x,v,h=>by
  obtain⟨t,e⟩:=Value.isStrOf_shape (x:=x) (v:=v) h;exact .inr ⟨x,t,rfl,e⟩
theorem BU(i:Int)(t:Tok):pG (.inl i) (.int i t)=true:=by simp [pG,Value.isInt]
theorem BV(x:Str)(t:Tok):pG (.inr x) (.str x t)=true:=by simp [pG,Value.isStrOf]
theorem QJ(a b:Int):decide ((Sum.inl a:Key)=Sum.inl b)=(a==b):=by
 by_cases e:a=b
 ·subst e;simp
 ·have h:¬(Sum.inl a:Key)=Sum.inl b:=λq=>e (Sum.inl.inj q)
  rw[decide_eq_false h];exact(beq_eq_false_iff_ne.mpr e).symm
theorem QM(a b:Str):decide ((Sum.inr a:Key)=Sum.inr b)=decide (a=b):=by
 by_cases e:a=b
 ·subst e;simp
 ·have h:¬(Sum.inr a:Key)=Sum.inr b:=λq=>e (Sum.inr.inj q)
  rw[decide_eq_false h,decide_eq_false e]
theorem QK(a:Int)(b:Str):decide ((Sum.inl a:Key)=Sum.inr b)=false:=decide_eq_false (λq=>nomatch q)
theorem QL(a:Str)(b:Int):decide ((Sum.inr a:Key)=Sum.inl b)=false:=decide_eq_false (λq=>nomatch q)
def cF(prog:Program)(w:World):PySem.KeyKind prog w Key where
 is:=pG
 hash:=abz w
 inj:=λv a b ha hb=>by
  rcases bU ha with⟨i,t,rfl,rfl⟩|⟨x,t,rfl,rfl⟩
  ·rcases bU hb with⟨j,u,rfl,e⟩|⟨y,u,rfl,e⟩
   ·injection e with e1 _;rw[e1]
   ·exact nomatch e
  ·rcases bU hb with⟨j,u,rfl,e⟩|⟨y,u,rfl,e⟩
   ·exact nomatch e
   ·injection e with e1 _;rw[e1]
 byValue:=λk v h=>by
  rcases bU h with⟨i,t,rfl,rfl⟩|⟨x,t,rfl,rfl⟩<;>rfl
 pyHash:=λhv h=>by
  rcases bU hv with⟨i,t,rfl,rfl⟩|⟨x,t,rfl,rfl⟩
  ·exact wpAny_pyHash_int h
  ·exact wpAny_pyHash_str h
 eqBool:=λhu hv h=>by
  rcases bU hu with⟨i,t,rfl,rfl⟩|⟨x,t,rfl,rfl⟩
  ·rcases bU hv with⟨j,u,rfl,rfl⟩|⟨y,u,rfl,rfl⟩
   ·rw[QJ]at h;exact wpAny_eqBool_int h
   ·rw[QK]at h;exact SeqAt.EqAt.int_str i t y u _ _ _ _ h
  ·rcases bU hv with⟨j,u,rfl,rfl⟩|⟨y,u,rfl,rfl⟩
   ·rw[QL]at h;exact SeqAt.EqAt.str_int x t j u _ _ _ _ h
   ·rw[QM]at h;exact wpAny_eqBool_str h
 «strs»:=λk x t v h=>by
  rcases bU h with⟨i,u,rfl,e⟩|⟨y,u,rfl,e⟩
  ·exact nomatch e
  ·injection e with e1 _
   subst e1;cases v<;>rfl
theorem wO(prog:Program)(w:World)(i:Int)(t:Tok):(cF prog w).is (.inl i) (.int i t)=true:=BU i t
theorem wQ(prog:Program)(w:World)(x:Str)(t:Tok):(cF prog w).is (.inr x) (.str x t)=true:=BV x t
end L2
namespace L2
open PySem PySem.Spec PyProof.Rows
inductive V where
 | aU|bl (b:Bool)|int (i:Int)|str (x:Str)|byt (b:Array UInt8)|Pr (b:UInt64)|ref (a:Addr)|ty (n:String)
 deriving DecidableEq
def RelV:V->Value->Prop
 | .aU,u=>u=Value.none
 | .bl b,u=>u=Value.bool b
 | .int i,u=>∃t,u=Value.int i t
 | .str x,u=>∃t,u=Value.str x t
 | .byt b,u=>∃t,u=Value.bytes b t
 | .Pr b,u=>∃t,u=Value.float b t
 | .ref a,u=>u=Value.ref a
 | .ty n,u=>u=Value.type n
abbrev Vals:List V->List Value->Prop:=Paired RelV
theorem Vals.length{xs:List V}{us:List Value}(r:Vals xs us):xs.length=us.length:=Paired.length r
theorem Vals.get:∀ {xs:List V} {us:List Value} {i:Nat} {x:V},Vals xs us->xs[i]?=some x->∃u,us[i]?=some u/\RelV x u
 | _,_,_,_,.nil,e=>by simp at e
 | _,_,0,_,.cons r _,e=>by simp at e;subst e;exact⟨_,rfl,r⟩
 | _,_,i+1,x,.cons _ t,e=>by
  obtain⟨u,h1,h2⟩:=Vals.get (i:=i) (x:=x) t (by simpa using e)
  exact⟨u,by simpa using h1,h2⟩
theorem Vals.set{x:V}{u:Value}(r:RelV x u):∀ {xs:List V} {us:List Value} (i:Nat),Vals xs us->Vals (xs.set i x) (us.set i u)
 | _,_,_,.nil=>.nil
 | _,_,0,.cons _ t=>.cons r t
 | _,_,i+1,.cons q t=>.cons q (Vals.set r i t)
theorem Vals.append:∀ {xs ys:List V} {us ws:List Value},Vals xs us->Vals ys ws->Vals (xs++ys) (us++ws)
 | _,_,_,_,.nil,s=>s
 | _,_,_,_,.cons r t,s=>.cons r (Vals.append t s)
theorem Vals.take:∀ {xs:List V} {us:List Value} (n:Nat),Vals xs us->Vals (xs.take n) (us.take n)
 | _,_,0,_=>.nil
 | _,_,_+1,.nil=>.nil
 | _,_,n+1,.cons r t=>.cons r (Vals.take n t)
theorem Vals.drop:∀ {xs:List V} {us:List Value} (n:Nat),Vals xs us->Vals (xs.drop n) (us.drop n)
 | _,_,0,r=>r
 | _,_,_+1,.nil=>.nil
 | _,_,n+1,.cons _ t=>Vals.drop n t
def iR:Option V->Option Value->Prop
 | some v,some u=>RelV v u
 | none,none=>True
 | _,_=>False
def KV{κ:Type}:List (κ×V)->List (κ×Value)->Prop:=Paired λ(p:κ×V) (q:κ×Value)=>p.1=q.1/\RelV p.2 q.2
def kV:Key->V
 | .inl i=>.int i
 | .inr x=>.str x
inductive HO where
 /-- a list -/
 | lst (xs:List V)
 /-- a tuple (never changes) -/
 | tup (xs:List V)
 /-- a dict whose keys are ints and texts;one whose keys are tuples of ints and texts (the empty one is both) -/
 | dK (kvs:List (Key×V))|dT (kvs:List (List Key×V))
 /-- a set of ints: its members,its size -/
 | set (S:Int->Bool) (n:Nat)
 /-- an instance of the class at C,its dict at dx,its attributes -/
 | ins (C dx:Addr) (fs:List (Str×V))
 /-- the dict of the instance at x -/
 | own (x:Addr)
 /-- the dict of an exception -/
 | xd (fs:List (Str×V))
 /-- a bound method,f of x -/
 | met (f x:Addr)
 /-- a range object lo,lo+1,.. below hi -/
 | rng (lo hi:Int)
 /-- a thing that is known to the object (the script;a dict while a loop walks it): read,never written while it is so -/
 | tH (o:Obj) (u:HO)
 /-- a code object's table -/
 | MB (ps:Array Value)
 /-- the same,and it may grow by the code of one lambda: as it was,the lambda's place,its name -/
 | lam (ps:Array Value) (pos:Pos) (qual:Str)
 /-- any other thing,by what is true of its one object (a def of one's own: SetO a S n:=HO.ext λh=>..) -/
 | ext (φ:Heap->Prop)
abbrev Hp:=Addr->Option HO
def upd(H:Hp)(a:Addr)(o:HO):Hp:=λb=>if b=a then some o else H b
theorem aA{H:Hp}{a:Addr}{o:HO}:upd H a o a=some o:=by unfold upd;rw[if_pos rfl]
theorem aq{H:Hp}{a b:Addr}{o:HO}(h:b≠a):upd H a o b=H b:=by unfold upd;rw[if_neg h]
theorem gA{H:Hp}{a b:Addr}{o u:HO}(h:H a=some o)(h':H b=some u)(d:o≠u):a≠b:=by
 intro e;subst e;rw[h]at h';exact d (Option.some.inj h')
theorem bq{H:Hp}{a b:Addr}{o:HO}(h:H a=some o)(h':H b=none):a≠b:=by
 intro e;subst e;rw[h]at h';cases h'
section
variable (P:Program)(w:World)
def bX(H:Hp)(h:Heap)(a:Addr):HO->Prop
 | .lst xs=>xs.length<=sizeLine/\∃(its:List Value) (n:Nat),Vals xs its/\h.get? a=some {cls:=.type "list",data:=.seq its.toArray n}
 | .tup xs=>xs.length<=sizeLine/\∃its:List Value,Vals xs its/\IsTup h a its.toArray
 | .dK kvs=>kvs.length<=sizeLine/\(a==sysModules)=false/\∃vs,KV kvs vs/\h.DictOf (cF P w) a vs
 | .dT kvs=>kvs.length<=sizeLine/\(a==sysModules)=false/\∃xs:List (List Key×Addr×Value),
   Paired (λ(p:List Key×V) (q:List Key×Addr×Value)=>p.1=q.1/\H q.2.1=some (.tup (p.1.map kV))/\RelV p.2 q.2.2) kvs xs /\
   ∃o es ep,h.get? a=some o/\o.ExactDict/\o.data=.dict es ep/\es.toList=xs.map (entryOfKey (tupleKind (cF P w)))/\(xs.map (·.1)).Nodup
 | .set S n=>h.SetOf (intKind P w) a S n
 | .ins C dx fs=>H dx=some (.own a)/\fs.length<=1000/\dx≠a/\h.get? a=some (PySem.W.instObj C dx) /\
   ∃mA,h.Ns1 dx mA/\(∀f,iR (fs.lookup f) (mA f))/\PySem.Within mA (fs.map (·.1))
 | .own _=>∃o,h.get? a=some o
 | .xd fs=>∃mA,h.Ns1 a mA/\∀f,iR (fs.lookup f) (mA f)
 | .rng lo hi=>∃t u v,h.get? a=some {cls:=.type "range",data:=.fields #[.int lo t,.int hi u,.int 1 v]}
 | .tH o u=>h.get? a=some o/\bX H h a u
 | .MB ps=>h.get? a=some {cls:=.none,data:=.fields ps}
 | .lam ps pos qual=>∃more,h.get? a=some {cls:=.none,data:=.fields (ps++more)}/\TriplesOk (ps++more).toList/\(codeAmong pos (ps++more).toList=none\/∃c' o vs t,codeAmong pos (ps++more).toList=some (.ref c')/\H c'=some (.tH o (.own a))/\o.data=.fields vs/\vs[1]?=some (.str qual t))
 | .met f x=>h.get? a=some (PySem.W.methodObj (.ref f) (.ref x))
 | .ext φ=>φ h/\(∃o,h.get? a=some o)/\∀h1 h2:Heap,φ h1->(∀o,h1.get? a=some o->h2.get? a=some o)->φ h2
def gf(H:Hp)(h:Heap):Prop:=∀a o,H a=some o->bX P w H h a o
end
section
variable {P:Program}{w:World}{H H':Hp}{h h':Heap}{a:Addr}{o:HO}
theorem bX.lt(x:bX P w H h a o):a<h.objs.size:=by
 cases o with
 | lst xs=>obtain⟨_,_,_,_,e⟩:=x;exact Heap.lt_size e
 | tup xs=>obtain⟨_,_,_,p⟩:=x;exact p.lt
 | dK kvs=>obtain⟨_,_,_,_,o,_,_,e,_⟩:=x;exact Heap.lt_size e
 | dT kvs=>obtain⟨_,_,_,_,o,_,_,e,_⟩:=x;exact Heap.lt_size e
 | set S n=>obtain⟨o,_,_,_,e,_⟩:=x;exact Heap.lt_size e
 | ins C dx fs=>obtain⟨_,_,_,e,_⟩:=x;exact Heap.lt_size e
 | own y=>obtain⟨_,e⟩:=x;exact Heap.lt_size e
 | xd fs=>obtain⟨_,⟨_,_,_,e,_⟩,_⟩:=x;exact Heap.lt_size e
 | rng lo hi=>obtain⟨_,_,_,e⟩:=x;exact Heap.lt_size e
 | tH ob u=>obtain⟨e,_⟩:=x;exact Heap.lt_size e
 | MB ps=>exact Heap.lt_size (show h.get? a=some _ from x)
 | lam ps pos qual=>obtain⟨_,e,_⟩:=x;exact Heap.lt_size e
 | met f y=>exact Heap.lt_size (show h.get? a=some _ from x)
 | ext φ=>obtain⟨_,⟨_,e⟩,_⟩:=x;exact Heap.lt_size e
theorem Paired.QR{α β:Type}{F G:α->β->Prop}:∀ {YB:List α} {YC:List β},Paired F YB YC->(∀a b,F a b->G a b)->Paired G YB YC
 | _,_,.nil,_=>.nil
 | _,_,.cons r t,f=>.cons (f _ _ r) (Paired.QR t f)
theorem bX.ql(x:bX P w H h a o)(k:∀b u,(b=a\/H b=some (.own a))->h.get? b=some u->h'.get? b=some u)
  (ho:∀b,H b=some (.own a)->H' b=some (.own a)) (ht:∀b xs,H b=some (.tup xs)->H' b=some (.tup xs)) (hf:∀b o u,H b=some (.tH o u)->H' b=some (.tH o u):=by exactλ_ _ _ q=>q):bX P w H' h' a o:=by
 induction o with
 | lst xs=>obtain⟨z,its,n,r,e⟩:=x;exact⟨z,its,n,r,k _ _ (.inl rfl) e⟩
 | tup xs=>obtain⟨z,its,r,ob,e,c⟩:=x;exact⟨z,its,r,ob,k _ _ (.inl rfl) e,c⟩
 | dK kvs=>obtain⟨z,y,vs,r,ob,es,ep,e,c⟩:=x;exact⟨z,y,vs,r,ob,es,ep,k _ _ (.inl rfl) e,c⟩
 | dT kvs =>
  obtain⟨z,y,xs,r,ob,es,ep,e,c⟩:=x;exact⟨z,y,xs,Paired.QR r λp q z=>⟨z.1,ht _ _ z.2.1,z.2.2⟩,ob,es,ep,k _ _ (.inl rfl) e,c⟩
 | set S n=>obtain⟨ob,es,ep,t,e,c⟩:=x;exact⟨ob,es,ep,t,k _ _ (.inl rfl) e,c⟩
 | ins C dx fs =>
  obtain⟨d,z,ne,e,mA,⟨od,es,ep,e2,c⟩,r⟩:=x;exact⟨ho _ d,z,ne,k _ _ (.inl rfl) e,mA,⟨od,es,ep,k _ _ (.inr d) e2,c⟩,r⟩
 | own y=>obtain⟨ob,e⟩:=x;exact⟨ob,k _ _ (.inl rfl) e⟩
 | xd fs=>obtain⟨mA,⟨od,es,ep,e,c⟩,r⟩:=x;exact⟨mA,⟨od,es,ep,k _ _ (.inl rfl) e,c⟩,r⟩
 | rng lo hi=>obtain⟨t,u,v,e⟩:=x;exact⟨t,u,v,k _ _ (.inl rfl) e⟩
 | tH ob u ih=>obtain⟨e,q⟩:=x;exact⟨k _ _ (.inl rfl) e,ih q⟩
 | lam ps pos qual =>
  obtain⟨more,e,tr,c⟩:=x;refine⟨more,k _ _ (.inl rfl) e,tr,?_⟩;rcases c with c|⟨c',o,vs,t,c1,c2,c3⟩
  ·exact .inl c
  ·exact .inr ⟨c',o,vs,t,c1,hf _ _ _ c2,c3⟩
 | MB ps =>
  have e:h.get? a=some {cls:=.none,data:=.fields ps}:=x;show h'.get? a=some {cls:=.none,data:=.fields ps};exact k a _ (.inl rfl) e
 | met f y =>
  have e:h.get? a=some (PySem.W.methodObj (.ref f) (.ref y)):=x;show h'.get? a=some (PySem.W.methodObj (.ref f) (.ref y));exact k a _ (.inl rfl) e
 | ext φ=>obtain⟨p,⟨o,e⟩,st⟩:=x;exact⟨st _ _ p λo q=>k _ _ (.inl rfl) q,⟨o,k _ _ (.inl rfl) e⟩,st⟩
theorem gf.lt(x:gf P w H h)(e:H a=some o):a<h.objs.size:=(x a o e).lt
theorem gf.fresh(x:gf P w H h)(e:h.objs.size<=a):H a=none:=by
 cases q:H a with
 | none=>rfl
 | some u=>exact absurd (Nat.lt_of_lt_of_le (x.lt q) e) (Nat.lt_irrefl _)
theorem gf.kept(x:gf P w H h)(k:∀b u,h.get? b=some u->h'.get? b=some u):gf P w H h':=λa o e =>
 (x a o e).ql (λb u _ q=>k b u q) (λ_ q=>q) λ_ _ q=>q
theorem gf.laid(x:gf P w H h)(k:∀b u,h.get? b=some u->h'.get? b=some u)(hp:h.objs.size<=a)(new:bX P w (upd H a o) h' a o):gf P w (upd H a o) h':=λb u e=>by
 have hn:=x.fresh hp
 by_cases hb:b=a
 ·subst hb;rw[aA]at e;cases e;exact new
 ·rw[aq hb]at e
  exact(x b u e).ql (λc v _ q=>k c v q) (λc q=>by rw[aq (bq q hn)];exact q) (λc xs q=>by rw[aq (bq q hn)];exact q) λc o u q=>by rw[aq (bq q hn)];exact q
end
def Rd(H:Hp)(a:Addr)(u:HO):Prop:=H a=some u\/∃o,H a=some (.tH o u)
theorem Rd.of{H:Hp}{a:Addr}{u:HO}(h:H a=some u):Rd H a u:=.inl h
theorem Rd.ok{P:Program}{w:World}{H:Hp}{h:Heap}{a:Addr}{u:HO}(r:Rd H a u)(x:gf P w H h):bX P w H h a u:=by
 rcases r with r|⟨o,r⟩
 ·exact x a u r
 ·obtain⟨_,q⟩:=x a _ r
  exact q
def Wb:Option HO->Prop
 | some (.lst _)=>True
 | some (.dK _)=>True
 | some (.dT _)=>True
 | some (.set _ _)=>True
 | some (.ins _ _ _)=>True
 | some (.ext _)=>True
 | some (.lam _ _ _)=>True
 | _=>False
section
variable {P:Program}{w:World}{H:Hp}{h h':Heap}{x e:Addr}{o':HO}
theorem gf.write(ok:gf P w H h)(mu:Wb (H x))(he:e=x\/H e=some (.own x))(k:∀b u,b≠e->h.get? b=some u->h'.get? b=some u)(VC:∃u,h'.get? e=some u)
  (new:bX P w (upd H x o') h' x o'):gf P w (upd H x o') h':=λb u q=>by
 have YR:∀c y,H c=some (.own y)->c≠x:=λc y r z=>by subst z;rw[r]at mu;exact mu
 have abK:∀c xs,H c=some (.tup xs)->c≠x:=λc xs r z=>by subst z;rw[r]at mu;exact mu
 by_cases hb:b=x
 ·subst hb;rw[aA]at q;cases q;exact new
 ·rw[aq hb]at q
  by_cases PB:b=e
  ·have q':H b=some (.own x):=by
    rcases he with z|z
    ·exact absurd (PB.trans z) hb
    ·rw[PB];exact z
   rw[q]at q';cases q';obtain⟨v,hv⟩:=VC;exact⟨v,by rw[PB];exact hv⟩
  ·refine(ok b u q).ql (λc v hc r=>k c v ?_ r) (λc r=>by rw[aq (YR c b r)];exact r) (λc xs r=>by rw[aq (abK c xs r)];exact r) λc o u r=>by rw[aq (λz=>by subst z;rw[r]at mu;exact mu)];exact r
   rcases hc with rfl|hc
   ·exact PB
   ·rintro rfl
    rcases he with z|z
    ·exact YR c b hc z
    ·rw[hc]at z;cases z;exact hb rfl
end
structure Un(fs ex:List Addr)(H H':Hp)(h h':Heap):Prop where
 keep:∀b o,h.get? b=some o->H b=none->b∉fs->b∉ex->h'.get? b=some o
 slot:∀b o,h.get? b=some o->H b=none->b∈fs->b∉ex->∃sl,h'.get? b=some {o with slots:=sl}
 free:∀b o,h.get? b=some o->H b=none->b∉ex->H' b=none
 there:∀b o,h.get? b=some o->b∉ex->∃o',h'.get? b=some o'
 qv:∀b xs,H b=some (.tup xs)->H' b=some (.tup xs)
 oi:∀b o u,H b=some (.tH o u)->H' b=some (.tH o u)
 qt:∀b ps,H b=some (.MB ps)->∃more,H' b=some (.MB (ps++more))
section
variable {fs fs' ex rC:List Addr}{H H1 H2:Hp}{h h1 h2 h':Heap}{a x e:Addr}{o:HO}
theorem Un.any(u:Un fs ex H H1 h h1){b:Addr}{ob:Obj}(q:h.get? b=some ob)(n:H b=none)(hx:b∉ex):∃sl,h1.get? b=some {ob with slots:=sl}:=by
 by_cases hb:b∈fs
 ·exact u.slot b ob q n hb hx
 ·exact⟨ob.slots,u.keep b ob q n hb hx⟩
theorem Un.kept(k:∀b u,h.get? b=some u->h'.get? b=some u):Un fs ex H H h h':=
 ⟨λb ob q _ _ _=>k b ob q,λb ob q _ _ _=>⟨ob.slots,k b ob q⟩,λ_ _ _ n _=>n,λb ob q _=>⟨ob,k b ob q⟩,λ_ _ q=>q,λ_ _ _ q=>q,λ_ ps q=>⟨#[],by rw[q];simp⟩⟩
theorem Un.refl:Un fs ex H H h h:=Un.kept λ_ _ q=>q
theorem Un.laid(k:∀b u,h.get? b=some u->h'.get? b=some u)(hp:h.objs.size<=a)(hn:H a=none):Un fs ex H (upd H a o) h h' where
 keep:=λb u q _ _ _=>k b u q
 slot:=λb u q _ _ _=>⟨u.slots,k b u q⟩
 free:=λb u q n _=>by rw[aq (Nat.ne_of_lt (Nat.lt_of_lt_of_le (Heap.lt_size q) hp))];exact n
 there:=λb u q _=>⟨u,k b u q⟩
 qv:=λb xs q=>by rw[aq (bq q hn)];exact q
 oi:=λb u xs q=>by rw[aq (bq q hn)];exact q
 qt:=λb ps q=>⟨#[],by rw[aq (bq q hn),q];simp⟩
theorem Un.write(mu:Wb (H x))(he:e=x\/H e=some (.own x))(k:∀b u,b≠e->h.get? b=some u->h'.get? b=some u)(VC:∃u,h'.get? e=some u):Un fs ex H (upd H x o) h h':=by
 have hx:∀b,H b=none->b≠x:=λb n z=>by subst z;rw[n]at mu;exact mu
 have hb:∀b,H b=none->b≠e:=λb n z=>by
  subst z;rcases he with r|r
  ·exact hx b n r
  ·rw[n]at r;cases r
 have hm:∀b u,H b=some u->¬Wb (some u)->b≠x:=λb u q nm z=>by subst z;rw[q]at mu;exact nm mu
 refine⟨λb u q n _ _=>k b u (hb b n) q,λb u q n _ _=>⟨u.slots,k b u (hb b n) q⟩,λb u q n _=>by rw[aq (hx b n)];exact n,λb u q _=>?_,
  λb xs q=>by rw[aq (hm b _ q λz=>z)];exact q,λb u xs q=>by rw[aq (hm b _ q λz=>z)];exact q,λb ps q=>⟨#[],by rw[aq (hm b _ q λz=>z),q];simp⟩⟩
 by_cases PB:b=e
 ·subst PB;exact VC
 ·exact⟨u,k b u PB q⟩
end
def trk(h:Heap)(H:Hp):List Addr:=(List.range h.objs.size).filter λa=>(H a).isSome
def tL(h:Heap)(H:Hp):Heap:=PySem.W.hideAll h (trk h H)
theorem BJ(h:Heap)(H:Hp):(tL h H).objs.size=h.objs.size:=PySem.W.hideAll_size _ _
theorem Fq{h:Heap}{H:Hp}{b:Addr}{o:Obj}(e:h.get? b=some o)(n:H b=none):(tL h H).get? b=some o:=
 PySem.W.hideAll_get _ e λhm=>by
  have q:(H b).isSome=true:=(List.mem_filter.mp hm).2;rw[n]at q;simp at q
theorem JS{h:Heap}{H:Hp}{b:Addr}{o:Obj}(e:(tL h H).get? b=some o):h.get? b=some o/\H b=none:=by
 have e':h.get? b=some o:=PySem.W.of_hideAll (trk h H) e;refine⟨e',?_⟩;cases q:H b with
 | none=>rfl
 | some x =>
  have hm:b∈trk h H:=List.mem_filter.mpr ⟨List.mem_range.mpr (Heap.lt_size e'),by simp [q]⟩
  have z:(tL h H).get? b=none:=PySem.W.hideAll_none (trk h H) hm;rw[z]at e;cases e
def Iz(g h:Heap)(L:Addr):List (Addr×Obj):=(List.range h.objs.size).filterMap λa=>if a=L\/(g.get? a).isSome=true then none else(h.get? a).map λo=>(a,o)
def rest(g h:Heap)(L d:Addr):List (Addr×Obj):=(Iz g h L).filter λp=>decide (p.1≠d)
end L2
namespace L2
open PySem PySem.Spec PyProof.Rows
structure Mod(K:PySem.W.Frag)(mg:Str->Option Value)(base:Heap):Prop where
 wF:K.In base
 glob:base.Ns mainGlobals mg
 blt:∃mb,base.Ns builtinsNs mb/\∀x:Str,x≠"__name__"->mb x=bootBuiltins x
 nolimit:base.NoLimit
structure Cx where
 prog:Program
 w:World
 K:PySem.W.Frag
 mg:Str->Option Value
 base:Heap
 A:Around
 N:List Str
 bT:Shared
 mB:Hp
 env:Env
 outer:List Env
 stack:List Env
 ex:List Addr
 fn:Str->Bool
 calm:Bool
 pn:List (Addr×Obj)
 xe:Value->Shared->Prop
def kF(l:List Env):List Addr:=l.filterMap (·.frame)
abbrev Cx.fs(X:Cx):List Addr:=kF X.outer
def Iw(sc:Scope)(x:Str):Prop:=sc.names.lookup x=some .local\/sc.names.lookup x=some .cell\/sc.names.lookup x=some .free
def Loc(sc:Scope)(x:Str):Prop:=sc.names.lookup x=some .local\/sc.names.lookup x=some .cell
def Look(env:Env)(h:Heap)(m:Str->Option Value)(x:Str)(u:Value):Prop:=
 (env.kindOf x=some .local/\m x=some u)\/((env.kindOf x=some .cell\/env.kindOf x=some .free)/\∃c,env.cells.lookup x=some c/\h.IsCell c (some u))
structure Cx.Ok(X:Cx):Prop where
 mod:Mod X.K X.mg X.base
 kind:X.env.scope.kind=.function
 glob:X.env.globals=mainGlobals
 blt:X.env.builtins=builtinsNs
 above:X.bT.heap.objs.size<=X.env.locals
 inj:∀x y c,X.env.cells.lookup x=some c->X.env.cells.lookup y=some c->x=y
 has:∀x,(X.env.kindOf x=some .cell\/X.env.kindOf x=some .free)->∃c,X.env.cells.lookup x=some c
 II:∀x c,X.fn x=true->X.env.cells.lookup x=some c->X.bT.heap.objs.size<=c
 hd:X.calm=true->X.A.handled=none
 frames:X.A.frames=some X.stack
 Mx:X.stack=X.outer\/(X.stack=X.env::X.outer/\X.env.frame=some X.env.locals)
 Vv:∀b∈X.ex,b≠X.env.locals/\∀x c,X.env.cells.lookup x=some c->c≠b
 bs:∀b o,X.base.get? b=some o->X.bT.heap.get? b=some o/\X.mB b=none
 yh:X.base.objs.size<=X.bT.heap.objs.size
 tS:∀b o,X.base.get? b=some o->b∉X.ex
 vQ:∀b∈X.ex,b∉X.fs
 iX:X.bT.heap.FunFrames X.base X.outer
 Cz:∀b∈X.fs,X.mB b=none
structure Inv(X:Cx)(pins:List (Addr×Obj))(σ:List (Option V))(H:Hp)(s:Shared):Prop where
 ok:X.Ok
 os:s.os=X.bT.os
 bare:AllBare s.gens
 base:Un X.fs X.ex X.mB H X.bT.heap s.heap
 loc:∃m,s.heap.Ns X.env.locals m/\∀(i:Nat) (x:Str) (v:V),X.N[i]?=some x->σ[i]?=some (some v)->Iw X.env.scope x->∃u,RelV v u/\Look X.env s.heap m x u
 cell:∀x c,X.env.cells.lookup x=some c->∃v,s.heap.IsCell c v
 free:H X.env.locals=none
 d5:∀x c,X.env.cells.lookup x=some c->H c=none
 pin:∀p∈X.pn++pins,s.heap.get? p.1=some p.2/\H p.1=none/\p.1≠X.env.locals/\p.1∉X.fs/\∀v,p.2.data≠.cell v
 bc:gf X.prog X.w H s.heap
 len:σ.length=X.N.length
section
variable {X:Cx}{pins:List (Addr×Obj)}{σ:List (Option V)}{H H':Hp}{s:Shared}{h':Heap}
theorem Cx.Ok.abH(ok:X.Ok){b:Addr}{o:Obj}(e:X.base.get? b=some o):b∉X.fs:=λhb=>by
 have:=(ok.iX.mem hb).1;rw[e]at this;cases this
theorem Inv.bs(I:Inv X pins σ H s):∀b o,X.base.get? b=some o->s.heap.get? b=some o/\H b=none:=λb o e =>
 ⟨I.base.keep b o (I.ok.bs b o e).1 (I.ok.bs b o e).2 (I.ok.abH e) (I.ok.tS b o e),I.base.free b o (I.ok.bs b o e).1 (I.ok.bs b o e).2 (I.ok.tS b o e)⟩
theorem Inv.bk(I:Inv X pins σ H s):∀b o,X.base.get? b=some o->s.heap.get? b=some o:=λb o e=>(I.bs b o e).1
theorem Inv.mod(I:Inv X pins σ H s):Mod X.K X.mg X.base:=I.ok.mod
theorem Inv.iB(I:Inv X pins σ H s):X.K.In s.heap:=I.ok.mod.wF.keeps I.bk
theorem Inv.fr(I:Inv X pins σ H s):∃m,Fr X.base X.env.locals s.heap m:=
 let ⟨m,hn,_⟩:=I.loc
 ⟨m,hn,I.bk,Nat.le_trans I.ok.yh I.ok.above⟩
theorem Inv.lt(I:Inv X pins σ H s):X.env.locals<s.heap.objs.size:=let ⟨_,hn,_⟩:=I.loc;hn.lt
theorem Inv.sz(I:Inv X pins σ H s):X.bT.heap.objs.size<=s.heap.objs.size:=Nat.le_trans I.ok.above (Nat.le_of_lt I.lt)
theorem Inv.abI(I:Inv X pins σ H s){a:Addr}(h:s.heap.objs.size<=a):a∉X.fs:=λhb=>by
 obtain⟨_,o,ho,_⟩:=I.ok.iX.mem hb;exact absurd (Nat.lt_of_lt_of_le (Heap.lt_size ho) (Nat.le_trans I.sz h)) (Nat.lt_irrefl _)
theorem Inv.D0(I:Inv X pins σ H s):∀x c,X.env.cells.lookup x=some c->c≠X.env.locals:=λx c e z=>by
 obtain⟨v,o,ho,hd⟩:=I.cell x c e;obtain⟨m,⟨o',es,ep,PQ,Al,_⟩,_⟩:=I.loc;rw[z,PQ]at ho;cases ho;rw[Al]at hd;cases hd
theorem Inv.iX(I:Inv X pins σ H s):s.heap.FunFrames X.base X.outer:=by
 have all:∀(l:List Env),(∀b∈kF l,b∈X.fs)->X.bT.heap.FunFrames X.base l->s.heap.FunFrames X.base l:=by
  intro l
  induction l with
  | nil=>intro _ _;trivial
  | cons env r ih =>
   intro hs hl;obtain⟨hk,⟨L,o,hf,hn,ho,hd⟩,hr⟩:=hl;have hL:L∈X.fs:=hs L (by unfold kF;rw[List.filterMap_cons,hf];exact List.mem_cons_self)
   obtain⟨sl,e⟩:=I.base.slot L o ho (I.ok.Cz L hL) hL λz=>I.ok.vQ L z hL;exact⟨hk,⟨L,_,hf,hn,e,hd⟩,ih (λb hb=>hs b (by unfold kF;rw[List.filterMap_cons,hf];exact List.mem_cons_of_mem _ hb)) hr⟩
 exact all X.outer (λ_ hb=>hb) I.ok.iX
theorem Inv.stack(I:Inv X pins σ H s):s.heap.FunFrames X.base X.stack:=by
 rcases I.ok.Mx with e|⟨e,hf⟩
 ·rw[e];exact I.iX
 ·rw[e]
  obtain⟨m,hn,_⟩:=I.loc;refine .cons (by rw[I.ok.kind];decide) hf hn ?_ I.iX
  exact Heap.get?_none_of_le (Nat.le_trans I.ok.yh I.ok.above)
theorem Inv.uY(I:Inv X pins σ H s):∀b∈kF X.stack,b∈X.env.locals::X.fs:=λb hb=>by
 rcases I.ok.Mx with e|⟨e,hf⟩
 ·rw[e]at hb;exact List.mem_cons_of_mem _ hb
 ·rw[e]at hb
  unfold kF at hb;rw[List.filterMap_cons,hf]at hb;exact hb
theorem Inv.ml(I:Inv X pins σ H s):∀b∈kF X.stack,H b=none:=λb hb=>by
 rcases List.mem_cons.mp (I.uY b hb)with e|hb
 ·rw[e];exact I.free
 ·obtain⟨_,o,ho,_⟩:=I.ok.iX.mem hb
  exact I.base.free b o ho (I.ok.Cz b hb) λz=>I.ok.vQ b z hb
theorem Inv.step{g':Array GenState}{t':Nat}{d':Drawn}{ch:List Addr}(I:Inv X pins σ H s)
  (Ia:∀b∈ch,(b∈X.ex\/X.bT.heap.get? b=none)/\b≠X.env.locals/\(∀x c,X.env.cells.lookup x=some c->c≠b)/\∀p∈X.pn++pins,p.1≠b)
  (keep:∀b o,b≠X.env.locals->b∉X.fs->b∉ch->s.heap.get? b=some o->H b=none->h'.get? b=some o)
  (slot:∀b o,b≠X.env.locals->b∈X.fs->b∉ch->s.heap.get? b=some o->H b=none->∃sl,h'.get? b=some {o with slots:=sl}) (free:∀b o,b∉ch->s.heap.get? b=some o->H b=none->H' b=none)
  (there:∀b o,b∉ch->s.heap.get? b=some o->∃o',h'.get? b=some o')
  (qv:∀b xs,H b=some (.tup xs)->H' b=some (.tup xs)) (oi:∀b o u,H b=some (.tH o u)->H' b=some (.tH o u)) (qt:∀b ps,H b=some (.MB ps)->∃more,H' b=some (.MB (ps++more)))
  (ns:∀m,s.heap.Ns X.env.locals m->h'.Ns X.env.locals m) (bc:gf X.prog X.w H' h') (hg:AllBare g'):
  Inv X pins σ H' {s with heap:=h',gens:=g',drawn:=d',toks:=t'}:=by
 have neL:∀b o,X.bT.heap.get? b=some o->b≠X.env.locals:=λb o e=>Nat.ne_of_lt (Nat.lt_of_lt_of_le (Heap.lt_size e) I.ok.above);have neC:∀b o,X.bT.heap.get? b=some o->b∉X.ex->b∉ch:=λb o e hx hb=>by
  rcases(Ia b hb).1 with z|z
  ·exact hx z
  ·rw[e]at z;cases z
 have cellK:∀x c,X.env.cells.lookup x=some c->∀v,s.heap.IsCell c v->h'.IsCell c v:=λx c e v ⟨o,ho,hd⟩=>by
  have FO:c∉ch:=λz=>(Ia c z).2.2.1 x c e rfl
  by_cases hc:c∈X.fs
  ·obtain⟨sl,q⟩:=slot c o (I.D0 x c e) hc FO ho (I.d5 x c e)
   exact⟨_,q,hd⟩
  ·exact⟨o,keep c o (I.D0 x c e) hc FO ho (I.d5 x c e),hd⟩
 refine⟨I.ok,I.os,hg,⟨λb o e n hb hx=>?_,λb o e n hb hx=>?_,λb o e n hx=>?_,λb o e hx=>?_,λb xs e=>qv b xs (I.base.qv b xs e),λb o xs e=>oi b o xs (I.base.oi b o xs e),λb ps e=>?_⟩,?_,λx c e=>?_,?_,λx c e=>?_,λp hp=>?_,bc,I.len⟩
 ·exact keep b o (neL b o e) hb (neC b o e hx) (I.base.keep b o e n hb hx) (I.base.free b o e n hx)
 ·obtain⟨sl,e1⟩:=I.base.slot b o e n hb hx
  obtain⟨sl',e2⟩:=slot b _ (neL b o e) hb (neC b o e hx) e1 (I.base.free b o e n hx);exact⟨sl',e2⟩
 ·obtain⟨o',e1⟩:=I.base.there b o e hx
  exact free b o' (neC b o e hx) e1 (I.base.free b o e n hx)
 ·obtain⟨o',e1⟩:=I.base.there b o e hx
  exact there b o' (neC b o e hx) e1
 ·obtain⟨m1,e1⟩:=I.base.qt b ps e
  obtain⟨m2,e2⟩:=qt b _ e1;exact⟨m1++m2,by rw[e2,Array.append_assoc]⟩
 ·obtain⟨m,hn,hl⟩:=I.loc
  refine⟨m,ns m hn,λi x v e1 e2 e3=>?_⟩;obtain⟨u,r,l⟩:=hl i x v e1 e2 e3;refine⟨u,r,?_⟩;rcases l with l|⟨k,c,e,z⟩
  ·exact .inl l
  ·exact .inr ⟨k,c,e,cellK x c e _ z⟩
 ·obtain⟨v,z⟩:=I.cell x c e
  exact⟨v,cellK x c e v z⟩
 ·obtain⟨m,⟨o,_,_,ho,_⟩,_⟩:=I.loc
  exact free _ o (λz=>(Ia _ z).2.1 rfl) ho I.free
 ·obtain⟨v,o,ho,hd⟩:=I.cell x c e
  exact free c o (λz=>(Ia c z).2.2.1 x c e rfl) ho (I.d5 x c e)
 ·obtain⟨e,n,ne,nf,d⟩:=I.pin p hp
  have FO:p.1∉ch:=λz=>(Ia p.1 z).2.2.2 p hp rfl;exact⟨keep p.1 p.2 ne nf FO e n,free p.1 p.2 FO e n,ne,nf,d⟩
theorem Inv.un{t':Nat}(I:Inv X pins σ H s)(u:Un X.fs [] H H' s.heap h')(bc:gf X.prog X.w H' h'):Inv X pins σ H' {s with heap:=h',toks:=t'}:=by
 obtain⟨m,⟨o,es,ep,ho,r⟩,_⟩:=id I.loc;obtain⟨sl,hL⟩:=u.any ho I.free (by simp)
 exact I.step (g':=s.gens) (d':=s.drawn) (ch:=[]) (λ_ z=>nomatch z) (λb o _ hb _ e n=>u.keep b o e n hb (by simp)) (λb o _ hb _ e n=>u.slot b o e n hb (by simp)) (λb o _ e n=>u.free b o e n (by simp)) (λb o _ e=>u.there b o e (by simp)) u.qv u.oi u.qt (λm' hm=>by
  obtain⟨o',OO,OM,PQ,r'⟩:=hm;rw[ho]at PQ;cases PQ;exact⟨_,OO,OM,hL,r'⟩) bc I.bare
theorem Inv.call{g':Array GenState}{t':Nat}{d':Drawn}{ch:List Addr}(I:Inv X pins σ H s)(u:Un (kF X.stack) ch H H' s.heap h')(bc:gf X.prog X.w H' h')(hg:AllBare g')
  (Ia:∀b∈ch,(b∈X.ex\/X.bT.heap.get? b=none)/\b≠X.env.locals/\(∀x c,X.env.cells.lookup x=some c->c≠b)/\∀p∈X.pn++pins,p.1≠b):
  Inv X pins σ H' {s with heap:=h',gens:=g',drawn:=d',toks:=t'}:=by
 obtain⟨m,⟨o,es,ep,ho,r⟩,_⟩:=id I.loc;obtain⟨sl,hL⟩:=u.any ho I.free λz=>(Ia _ z).2.1 rfl;exact I.step (ch:=ch) Ia (λb o hL hb hc e n=>u.keep b o e n (λz=>(List.mem_cons.mp (I.uY b z)).elim hL hb) hc) (λb o _ _ hc e n=>u.any e n hc) (λb o hc e n=>u.free b o e n hc) (λb o hc e=>u.there b o e hc) u.qv u.oi u.qt (λm' hm=>by
  obtain⟨o',OO,OM,PQ,r'⟩:=hm;rw[ho]at PQ;cases PQ;exact⟨_,OO,OM,hL,r'⟩) bc hg
theorem Inv.turned{t':Nat}{it:Addr}(I:Inv X pins σ H s)(k:∀b o,b≠it->s.heap.get? b=some o->h'.get? b=some o)(hn:H it=none)(hL:it≠X.env.locals)
  (h1:it∈X.ex\/X.bT.heap.objs.size<=it) (h2:∀x c,X.env.cells.lookup x=some c->c≠it) (h3:∀p∈X.pn++pins,p.1≠it):Inv X pins σ H {s with heap:=h',toks:=t'}:=by
 have nit:∀b u,H b=some u->b≠it:=λb u e z=>by rw[z,hn]at e;cases e
 refine I.step (g':=s.gens) (d':=s.drawn) (ch:=[it]) (λb hb=>?_) (λb o _ _ hc e _=>k b o (λz=>hc (by simp [z])) e) (λb o _ _ hc e _=>⟨o.slots,k b o (λz=>hc (by simp [z])) e⟩) (λ_ _ _ _ n=>n)
  (λb o hc e=>⟨o,k b o (λz=>hc (by simp [z])) e⟩) (λ_ _ e=>e) (λ_ _ _ e=>e) (λb ps e=>⟨#[],by rw[e];simp⟩) (λm hm=>?_) (λb u e=>?_) I.bare
 ·have e:b=it:=by simpa using hb
  subst e;exact⟨h1.imp id λz=>Heap.get?_none_of_le z,hL,h2,h3⟩
 ·obtain⟨o,es,ep,ho,r⟩:=hm
  exact⟨o,es,ep,k _ o (Ne.symm hL) ho,r⟩
 ·refine(I.bc b u e).ql (λc v hc q=>k c v ?_ q) (λ_ q=>q) λ_ _ q=>q
  rcases hc with z|z
  ·rw[z];exact nit b u e
  ·exact nit c _ z
theorem Inv.tok(I:Inv X pins σ H s)(t:Nat):Inv X pins σ H {s with toks:=t}:=I.un (h':=s.heap) (t':=t) Un.refl I.bc
theorem Inv.kept{t':Nat}(I:Inv X pins σ H s)(k:∀b u,s.heap.get? b=some u->h'.get? b=some u):Inv X pins σ H {s with heap:=h',toks:=t'}:=I.un (Un.kept k) (I.bc.kept k)
theorem Inv.laid{a:Addr}{o:HO}{t':Nat}(I:Inv X pins σ H s)(k:∀b u,s.heap.get? b=some u->h'.get? b=some u)(hp:s.heap.objs.size<=a)(new:bX X.prog X.w (upd H a o) h' a o):
  Inv X pins σ (upd H a o) {s with heap:=h',toks:=t'}:=I.un (Un.laid k hp (I.bc.fresh hp)) (I.bc.laid k hp new)
theorem Inv.write{x e:Addr}{o:HO}{t':Nat}(I:Inv X pins σ H s)(mu:Wb (H x))(he:e=x\/H e=some (.own x))(k:∀b u,b≠e->s.heap.get? b=some u->h'.get? b=some u)(VC:∃u,h'.get? e=some u)
  (new:bX X.prog X.w (upd H x o) h' x o):Inv X pins σ (upd H x o) {s with heap:=h',toks:=t'}:=I.un (Un.write mu he k VC) (I.bc.write mu he k VC new)
theorem Inv.AU{AR:List (Addr×Obj)}(I:Inv X pins σ H s)(h:∀p∈AR,s.heap.get? p.1=some p.2/\H p.1=none/\p.1≠X.env.locals/\p.1∉X.fs/\∀v,p.2.data≠.cell v):Inv X AR σ H s:=
 ⟨I.ok,I.os,I.bare,I.base,I.loc,I.cell,I.free,I.d5,λp hp=>(List.mem_append.mp hp).elim (λz=>I.pin p (List.mem_append_left _ z)) (h p),I.bc,I.len⟩
theorem pR{N:List Str}(hN:N.Nodup){i j:Nat}{x:Str}(a:N[i]?=some x)(b:N[j]?=some x):i=j:=by
 obtain⟨h1,e1⟩:=List.getElem?_eq_some_iff.mp a;obtain⟨h2,e2⟩:=List.getElem?_eq_some_iff.mp b;exact(List.getElem_inj hN).mp (e1.trans e2.symm)
theorem Cp{M:Model}{A:Around}{E:Value->Shared->Prop}{i:Nat}{x:Str}{v:V}{u:Value}{Q:Unit->Shared->Prop}(I:Inv X pins σ H s)(hN:X.N.Nodup)(hi:X.N[i]?=some x)(hx:Loc X.env.scope x)(r:RelV v u)
  (h:∀s',Inv X pins (σ.set i (some v)) H s'->(∃a,Heap.SameBut a s.heap s'.heap/\(a=X.env.locals\/X.env.cells.lookup x=some a))->Q () s') (hf:X.fn x=true\/X.env.scope.names.lookup x=some .local:=by first|exact .inl rfl|exact .inr rfl|assumption):wpAny M A (storeName X.env x u) Q E s:=by
 obtain⟨m,hn,hl⟩:=id I.loc;have Fl:(X.env.scope.kind==.class||(X.env.scope.kind==.module&&X.env.locals != X.env.globals))=false:=by rw[I.ok.kind];rfl
 have X3:i<σ.length:=by rw[I.len];exact(List.getElem?_eq_some_iff.mp hi).1
 have D0:=I.D0;have tracked:∀ {a:Addr} {h':Heap},(∃o,s.heap.get? a=some o/\H a=none)->Heap.SameBut a s.heap h'->gf X.prog X.w H h':=λ{a h'} ha hs b ob e=>by
  obtain⟨_,_,Am⟩:=ha;refine(I.bc b ob e).ql (λc w' hc q=>(hs.2 c ?_).trans q) (λ_ q=>q) λ_ _ q=>q;rintro rfl;rcases hc with rfl|hc
  ·rw[Am]at e;cases e
  ·rw[Am]at hc;cases hc
 rcases hx with hk|hk
 ·refine wpAny_storeName_local hk hn (λh' hn' hs=>?_) Fl
  obtain⟨oL,_,_,VG,_⟩:=id hn;refine h _ ⟨I.ok,I.os,I.bare,⟨λb o e n hb hx=>?_,λb o e n hb hx=>?_,I.base.free,λb o e hx=>?_,I.base.qv,I.base.oi,I.base.qt⟩,⟨_,hn',λj y v' e1 e2 e3=>?_⟩,λy c e=>?_,I.free,I.d5,λp hp=>?_,tracked ⟨oL,VG,I.free⟩ hs,by simpa using I.len⟩ ⟨_,hs,.inl rfl⟩
  ·exact(hs.2 b (Nat.ne_of_lt (Nat.lt_of_lt_of_le (Heap.lt_size e) I.ok.above))).trans (I.base.keep b o e n hb hx)
  ·obtain⟨sl,e1⟩:=I.base.slot b o e n hb hx
   exact⟨sl,(hs.2 b (Nat.ne_of_lt (Nat.lt_of_lt_of_le (Heap.lt_size e) I.ok.above))).trans e1⟩
  ·obtain⟨o',e1⟩:=I.base.there b o e hx
   exact⟨o',(hs.2 b (Nat.ne_of_lt (Nat.lt_of_lt_of_le (Heap.lt_size e) I.ok.above))).trans e1⟩
  ·by_cases hj:j=i
   ·subst hj
    rw[hi]at e1;cases e1;rw[List.getElem?_set_self X3]at e2;cases e2;exact⟨u,r,.inl ⟨hk,by simp⟩⟩
   ·rw[List.getElem?_set_ne (Ne.symm hj)]at e2
    obtain⟨u',r',q⟩:=hl j y v' e1 e2 e3;refine⟨u',r',?_⟩;rcases q with⟨k,e⟩|⟨k,c,e,z⟩
    ·refine .inl ⟨k,?_⟩
     have:y≠x:=λe=>hj (pR hN e1 (e ▸ hi));simp [this,e]
    ·exact .inr ⟨k,c,e,z.sameBut hs (D0 y c e)⟩
  ·obtain⟨w',z⟩:=I.cell y c e
   exact⟨w',z.sameBut hs (D0 y c e)⟩
  ·obtain⟨e,n,ne,nf,d⟩:=I.pin p hp
   exact⟨(hs.2 p.1 ne).trans e,n,ne,nf,d⟩
 ·have hfn:X.fn x=true:=by
   rcases hf with z|z
   ·exact z
   ·rw[z]at hk;cases hk
  obtain⟨c,hc⟩:=I.ok.has x (.inl hk);obtain⟨w',z⟩:=I.cell x c hc;refine wpAny_storeName_cell I.ok.kind hk hc z (λh' Jo hs=>?_);obtain⟨oc,hoc,abk⟩:=id z;refine h {s with heap:=h'} ⟨I.ok,I.os,I.bare,⟨λb o e n hb hx=>?_,λb o e n hb hx=>?_,I.base.free,λb o e hx=>?_,I.base.qv,I.base.oi,I.base.qt⟩,⟨m,hn.sameBut hs (Ne.symm (D0 x c hc)),λj y v' e1 e2 e3=>?_⟩,λy c' e=>?_,I.free,I.d5,λp hp=>?_,tracked ⟨oc,hoc,I.d5 x c hc⟩ hs,by simpa using I.len⟩ ⟨c,hs,.inr hc⟩
  ·exact(hs.2 b (Nat.ne_of_lt (Nat.lt_of_lt_of_le (Heap.lt_size e) (I.ok.II x c hfn hc)))).trans (I.base.keep b o e n hb hx)
  ·obtain⟨sl,e1⟩:=I.base.slot b o e n hb hx
   exact⟨sl,(hs.2 b (Nat.ne_of_lt (Nat.lt_of_lt_of_le (Heap.lt_size e) (I.ok.II x c hfn hc)))).trans e1⟩
  ·obtain⟨o',e1⟩:=I.base.there b o e hx
   exact⟨o',(hs.2 b (Nat.ne_of_lt (Nat.lt_of_lt_of_le (Heap.lt_size e) (I.ok.II x c hfn hc)))).trans e1⟩
  ·by_cases hj:j=i
   ·subst hj
    rw[hi]at e1;cases e1;rw[List.getElem?_set_self X3]at e2;cases e2;exact⟨u,r,.inr ⟨.inl hk,c,hc,Jo⟩⟩
   ·rw[List.getElem?_set_ne (Ne.symm hj)]at e2
    obtain⟨u',r',q⟩:=hl j y v' e1 e2 e3;refine⟨u',r',?_⟩;rcases q with q|⟨k,c',e,z'⟩
    ·exact .inl q
    ·refine .inr ⟨k,c',e,z'.sameBut hs ?_⟩
     rintro rfl;exact hj (pR hN e1 (I.ok.inj _ _ _ e hc ▸ hi))
  ·by_cases hcc:c'=c
   ·subst hcc;exact⟨_,Jo⟩
   ·obtain⟨w2,z2⟩:=I.cell y c' e
    exact⟨w2,z2.sameBut hs hcc⟩
  ·obtain⟨e,n,ne,nf,d⟩:=I.pin p hp
   refine⟨(hs.2 p.1 ?_).trans e,n,ne,nf,d⟩;intro q;rw[q,hoc]at e;have q':oc=p.2:=Option.some.inj e;exact d w' (by rw[<- q'];exact abk)
theorem mn{M:Model}{A:Around}{E:Value->Shared->Prop}{i:Nat}{x:Str}{v:V}{u:Value}{Q:Unit->Shared->Prop}(I:Inv X pins σ H s)(hN:X.N.Nodup)(hi:X.N[i]?=some x)(hx:Loc X.env.scope x)(r:RelV v u)
  (h:∀s',Inv X pins (σ.set i (some v)) H s'->Q () s') (hf:X.fn x=true\/X.env.scope.names.lookup x=some .local:=by first|exact .inl rfl|exact .inr rfl|assumption):wpAny M A (storeName X.env x u) Q E s:=
 Cp I hN hi hx r (λs' I' _=>h s' I') hf
theorem Inv.o5{s':Shared}{ch:List Addr}(I:Inv X pins σ H s)(ho:s'.os=s.os)(u:Un (kF X.stack) ch H H' s.heap s'.heap)(bc:gf X.prog X.w H' s'.heap)(hg:AllBare s'.gens)
  (Ia:∀b∈ch,(b∈X.ex\/X.bT.heap.get? b=none)/\b≠X.env.locals/\(∀x c,X.env.cells.lookup x=some c->c≠b)/\∀p∈X.pn++pins,p.1≠b):Inv X pins σ H' s':=by
 obtain⟨h',g',d',t',o'⟩:=s';have e:o'=s.os:=ho;subst e;exact I.call (g':=g') (t':=t') (d':=d') u bc hg Ia
end
abbrev XK:=Value->Option Addr->Hp->Prop
abbrev St:=List (Option V)
abbrev VK:=V->Hp->Prop
abbrev TE:=St->Hp->VK->Prop
abbrev TT:=St->Hp->(Bool->Hp->Prop)->Prop
abbrev TA:=St->Hp->(List V->Hp->Prop)->Prop
structure Ends where
 nx:St->Hp->Prop
 rt:VK
 bk:St->Hp->Prop:=λ_ _=>False
 ct:St->Hp->Prop:=λ_ _=>False
abbrev TS:=Ends->St->Hp->Prop
def EP(X:Cx)(pins:List (Addr×Obj))(σ:St)(Q:VK)(u:Value)(s':Shared):Prop:=∃v H',Inv X pins σ H' s'/\RelV v u/\Q v H'
def TP(X:Cx)(pins:List (Addr×Obj))(σ:St)(Q:Bool->Hp->Prop)(b:Bool)(s':Shared):Prop:=∃H',Inv X pins σ H' s'/\Q b H'
def AP(X:Cx)(pins:List (Addr×Obj))(σ:St)(Q:List V->Hp->Prop)(us:List Value)(s':Shared):Prop:=∃vs H',Inv X pins σ H' s'/\Vals vs us/\Q vs H'
def SP(X:Cx)(pins:List (Addr×Obj))(D:Ends)(f:Flow)(s':Shared):Prop:=
 match f with
 | .next=>∃bS H',Inv X pins bS H' s'/\D.nx bS H'
 | .brk=>∃bS H',Inv X pins bS H' s'/\D.bk bS H'
 | .cont=>∃bS H',Inv X pins bS H' s'/\D.ct bS H'
 | .ret u=>∃v bS H',Inv X pins bS H' s'/\RelV v u/\D.rt v H'
def PE(X:Cx)(e:Expr)(t:TE):Prop:=
 ∀(pins:List (Addr×Obj)) (s:Shared) (σ:St) (H:Hp) (Q:VK),Inv X pins σ H s->t σ H Q->wpAny (model X.prog X.w) X.A (eval e X.env) (EP X pins σ Q) X.xe s
def PT(X:Cx)(e:Expr)(t:TT):Prop:=
 ∀(pins:List (Addr×Obj)) (s:Shared) (σ:St) (H:Hp) (Q:Bool->Hp->Prop),Inv X pins σ H s->t σ H Q->wpAny (model X.prog X.w) X.A (isTrue e X.env (eval e X.env)) (TP X pins σ Q) X.xe s
def PW(X:Cx)(e:Expr)(t:TT):Prop:=
 ∀(whole:Sem Value) (pins:List (Addr×Obj)) (s:Shared) (σ:St) (H:Hp) (Q:Bool->Hp->Prop),Inv X pins σ H s->t σ H Q->wpAny (model X.prog X.w) X.A (isTrue e X.env whole) (TP X pins σ Q) X.xe s
theorem PW.pt{X:Cx}{e:Expr}{t:TT}(h:PW X e t):PT X e t:=h _
def PA(X:Cx)(es:List Expr)(t:TA):Prop:=
 ∀(pos:Pos) (pins:List (Addr×Obj)) (s:Shared) (σ:St) (H:Hp) (Q:List V->Hp->Prop),Inv X pins σ H s->t σ H Q->wpAny (model X.prog X.w) X.A (spliced (backTo pos (starEach es X.env))) (AP X pins σ Q) X.xe s
def PS(X:Cx)(st:Stmt)(t:TS):Prop:=
 ∀(pins:List (Addr×Obj)) (s:Shared) (σ:St) (H:Hp) (D:Ends),Inv X pins σ H s->t D σ H->wpAny (model X.prog X.w) X.A (exec st X.env) (SP X pins D) X.xe s
def sG(X:Cx)(st:List Stmt)(t:TS):Prop:=
 ∀(pins:List (Addr×Obj)) (s:Shared) (σ:St) (H:Hp) (D:Ends),Inv X pins σ H s->t D σ H->wpAny (model X.prog X.w) X.A (execs st X.env) (SP X pins D) X.xe s
theorem ck{α:Type}{t:Sem α}{Q Q':α->Shared->Prop}{M:Model}{A:Around}{E:Value->Shared->Prop}{s:Shared}(h:wpAny M A t Q E s)(hQ:∀a s,Q a s->Q' a s):wpAny M A t Q' E s:=wpAny_mono h hQ λ_ _ x=>x
end L2
namespace L2
open PySem PySem.Spec PyProof.Rows
section
variable {X:Cx}
def aaE(i:Nat):TE:=λσ H Q=>∃v,σ[i]?=some (some v)/\Q v H
def tC(v:V):TE:=λ_ H Q=>Q v H
theorem kh{i:Nat}{x:Str}{pos:Pos}(hN:X.N[i]?=some x)(hv:Iw X.env.scope x)(hd:(x==("__debug__":Str))=false:=by decide)(iu:(x==("__classdict__":Str))=false:=by decide):PE X (.Name x pos) (aaE i):=by
 intro pins s σ H Q I h;obtain⟨v,e,h⟩:=h;obtain⟨m,hn,hl⟩:=I.loc;obtain⟨u,r,l⟩:=hl i x v hN e hv;have fin:EP X pins σ Q u s:=⟨v,H,I,r,h⟩;rcases l with⟨hk,hm⟩|⟨hk,c,hc,Ak⟩
 ·exact wpAny_Name (wpAny_loadName_local I.ok.kind hk hn hm fin) hd
 ·rcases hk with hk|hk
  ·exact wpAny_Name (wpAny_loadName_cell I.ok.kind hk hc Ak fin) hd
  ·exact wpAny_Name (wpAny_loadName_free I.ok.kind hk hc Ak fin iu) hd
theorem SF{i j pos}:PE X (.Constant (.int i) j pos) (tC (.int i)):=λ_ _ _ H _ I h=>wpAny_Constant_int ⟨.int i,H,I.tok _,⟨_,rfl⟩,h⟩
theorem ZJ{b j pos}:PE X (.Constant (.bool b) j pos) (tC (.bl b)):=λ_ _ _ H _ I h=>Constant_bool ⟨.bl b,H,I,rfl,h⟩
theorem SG{j pos}:PE X (.Constant .none j pos) (tC .aU):=λ_ _ _ H _ I h=>Constant_none ⟨.aU,H,I,rfl,h⟩
theorem SK{x j pos}:PE X (.Constant (.str x) j pos) (tC (.str x)):=λ_ _ _ H _ I h=>Calls.Constant_str ⟨.str x,H,I.tok _,⟨_,rfl⟩,h⟩
def Gl(X:Cx)(x:Str):Prop:=X.env.kindOf x=some .globalImplicit
theorem fO{E:Value->Shared->Prop}{pins:List (Addr×Obj)}{s:Shared}{σ:St}{H:Hp}{x:Str}{u:Value}{pos:Pos}{Q:Value->Shared->Prop}(I:Inv X pins σ H s)(hg:Gl X x)(hm:X.mg x=some u)(h:Q u s)
  (hd:(x==("__debug__":Str))=false:=by decide):wpAny (model X.prog X.w) X.A (eval (.Name x pos) X.env) Q E s:=
 Calls.Name_function_global I.ok.kind hg (Calls.loadGlobal_global (by rw[I.ok.glob];exact I.mod.glob.keeps I.bk) hm h) hd
theorem j9{E:Value->Shared->Prop}{pins:List (Addr×Obj)}{s:Shared}{σ:St}{H:Hp}{x:Str}{u:Value}{pos:Pos}{Q:Value->Shared->Prop}(I:Inv X pins σ H s)(hg:Gl X x)(hm:X.mg x=none)(hv:bootBuiltins x=some u)(h:Q u s)
  (hn:x≠"__name__":=by decide) (hd:(x==("__debug__":Str))=false:=by decide):wpAny (model X.prog X.w) X.A (eval (.Name x pos) X.env) Q E s:=by
 obtain⟨mb,h1,h2⟩:=I.mod.blt;exact Calls.Name_function_global I.ok.kind hg (Calls.loadGlobal_builtin (by rw[I.ok.glob];exact I.mod.glob.keeps I.bk) hm (by rw[I.ok.blt];exact h1.keeps I.bk) ((h2 x hn).trans hv) h) hd
theorem AK{x:Str}{v:V}{u:Value}{pos:Pos}(hg:Gl X x)(hm:X.mg x=some u)(r:RelV v u)(hd:(x==("__debug__":Str))=false:=by decide):PE X (.Name x pos) (tC v):=
 λ_ _ _ H _ I h=>fO I hg hm ⟨v,H,I,r,h⟩ hd
theorem J9{x:Str}{v:V}{u:Value}{pos:Pos}(hg:Gl X x)(hm:X.mg x=none)(hv:bootBuiltins x=some u)(r:RelV v u)(hn:x≠"__name__":=by decide)(hd:(x==("__debug__":Str))=false:=by decide):PE X (.Name x pos) (tC v):=
 λ_ _ _ H _ I h=>j9 I hg hm hv ⟨v,H,I,r,h⟩ hn hd
variable {a b:Expr}{ta tb:TE}{pos:Pos}
variable {tA tB':TT}{rest:List Expr}
def abZ(t u:TT):TT:=λσ H Q=>t σ H λc H1=>if c=true then u σ H1 Q else Q false H1
def tOr(t u:TT):TT:=λσ H Q=>t σ H λc H1=>if c=true then Q true H1 else u σ H1 Q
theorem pw_and1(ha:PT X a tA):PW X (.BoolOp .And [a] pos) tA:=by
 intro wh pins s σ H Q I h;refine isTrue_and (ck (ha pins s σ H Q I h) λc s1 e=>?_);cases c with
 | true=>exact isTrue_and_nil e
 | false=>exact e
theorem pw_or1(ha:PT X a tA):PW X (.BoolOp .Or [a] pos) tA:=by
 intro wh pins s σ H Q I h;refine isTrue_or (ck (ha pins s σ H Q I h) λc s1 e=>?_);cases c with
 | false=>exact isTrue_or_nil e
 | true=>exact e
theorem pw_and(ha:PT X a tA)(hb:PW X (.BoolOp .And (b::rest) pos) tB'):PW X (.BoolOp .And (a::b::rest) pos) (abZ tA tB'):=by
 intro wh pins s σ H Q I h;refine isTrue_and (ck (ha pins s σ H _ I h) λc s1 ⟨H1,I1,q1⟩=>?_);cases c with
 | true=>exact hb wh pins s1 σ H1 Q I1 q1
 | false=>exact⟨H1,I1,q1⟩
theorem pw_or(ha:PT X a tA)(hb:PW X (.BoolOp .Or (b::rest) pos) tB'):PW X (.BoolOp .Or (a::b::rest) pos) (tOr tA tB'):=by
 intro wh pins s σ H Q I h;refine isTrue_or (ck (ha pins s σ H _ I h) λc s1 ⟨H1,I1,q1⟩=>?_);cases c with
 | true=>exact⟨H1,I1,q1⟩
 | false=>exact hb wh pins s1 σ H1 Q I1 q1
def aaB(ta:TE):TE:=λσ H Q=>ta σ H λx H1=>∃c,x=.bl c/\Q (.bl (!c)) H1
theorem SH(ha:PE X a ta):PE X (.UnaryOp .Not a pos) (aaB ta):=by
 intro pins s σ H Q I h;refine UnaryOp_ (ck (ha pins s σ H _ I h) λv s1 ⟨x,H1,I1,r1,q1⟩=>?_);obtain⟨c,rfl,q1⟩:=q1;cases r1;exact not_of (wpAny_truthy_bool ⟨.bl (!c),H1,I1,rfl,q1⟩)
end
end L2
namespace L2
open PySem PySem.Spec PyProof.Rows
def jr(K:PySem.W.Frag)(H:Hp)(a:Addr)(xs:List V):Prop:=
 Rd H a (.lst xs) \/
  ∃(o:Obj) (its:Array Value) (n:Nat),K.lookup a=some o/\o.cls=.type "list"/\o.dict=none/\o.data=.seq its n/\its.size<=sizeLine/\Vals xs its.toList
def nB(K:PySem.W.Frag)(H:Hp)(a:Addr)(xs:List V):Prop:=
 Rd H a (.tup xs) \/
  ∃(o:Obj) (its:Array Value) (n:Nat),K.lookup a=some o/\o.cls=.type "tuple"/\o.data=.seq its n/\its.size<=sizeLine/\Vals xs its.toList
def aaP:Value->Option V
 | .none=>some .aU
 | .bool b=>some (.bl b)
 | .int i _=>some (.int i)
 | .str x _=>some (.str x)
 | .bytes b _=>some (.byt b)
 | .float b _=>some (.Pr b)
 | .ref a=>some (.ref a)
 | .type n=>some (.ty n)
 | _=>none
theorem RelV.abs{x:V}{u:Value}(r:RelV x u):aaP u=some x:=by
 cases x with
 | aU=>cases r;rfl
 | bl _=>cases r;rfl
 | int _=>obtain⟨t,rfl⟩:=r;rfl
 | str _=>obtain⟨t,rfl⟩:=r;rfl
 | byt _=>obtain⟨t,rfl⟩:=r;rfl
 | Pr _=>obtain⟨t,rfl⟩:=r;rfl
 | ref _=>cases r;rfl
 | ty _=>cases r;rfl
theorem RelV.inj{x y:V}{u:Value}(r:RelV x u)(q:RelV y u):x=y:=Option.some.inj (r.abs.symm.trans q.abs)
theorem Vals.inj:∀ {xs ys:List V} {us:List Value},Vals xs us->Vals ys us->xs=ys
 | _,_,_,.nil,.nil=>rfl
 | _,_,_,.cons r t,.cons r' t'=>by rw[r.inj r',Vals.inj t t']
section
variable {X:Cx}{pins:List (Addr×Obj)}{σ:St}{H:Hp}{s:Shared}{a:Addr}{xs ys:List V}
theorem jr.of{K:PySem.W.Frag}(h:H a=some (.lst xs)):jr K H a xs:=.inl (.inl h)
theorem nB.of{K:PySem.W.Frag}(h:H a=some (.tup xs)):nB K H a xs:=.inl (.inl h)
theorem Inv.list(I:Inv X pins σ H s)(h:jr X.K H a xs):∃its:List Value,Vals xs its/\PlainL s.heap a its.toArray/\xs.length<=sizeLine:=by
 rcases h with h|⟨o,its,n,hk,hc,hd,hs,hz,r⟩
 ·obtain⟨z,its,n,r,e⟩:=h.ok I.bc
  exact⟨its,r,⟨_,n,e,rfl,rfl,rfl⟩,z⟩
 ·refine⟨its.toList,r,⟨o,n,I.iB a o hk,hc,hd,by simpa using hs⟩,?_⟩
  have e:=r.length;simp only[Array.length_toList]at e;omega
theorem Inv.tuple(I:Inv X pins σ H s)(h:nB X.K H a xs):∃its:List Value,Vals xs its/\IsTup s.heap a its.toArray/\xs.length<=sizeLine:=by
 rcases h with h|⟨o,its,n,hk,hc,hs,hz,r⟩
 ·obtain⟨z,its,r,p⟩:=h.ok I.bc
  exact⟨its,r,p,z⟩
 ·refine⟨its.toList,r,⟨o,I.iB a o hk,hc,n,by simpa using hs⟩,?_⟩
  have e:=r.length;simp only[Array.length_toList]at e;omega
theorem Inv.wJ(I:Inv X pins σ H s)(h:jr X.K H a xs)(h':jr X.K H a ys):xs=ys:=by
 obtain⟨its,r,⟨o,n,e,_,_,d⟩,_⟩:=I.list h;obtain⟨its',r',⟨o',n',e',_,_,d'⟩,_⟩:=I.list h';rw[e]at e';cases e';rw[d]at d'
 injection d' with d1 _
 have:its=its':=by simpa using congrArg Array.toList d1
 subst this;exact r.inj r'
theorem Inv.su(I:Inv X pins σ H s)(h:nB X.K H a xs)(h':nB X.K H a ys):xs=ys:=by
 obtain⟨its,r,⟨o,e,_,n,d⟩,_⟩:=I.tuple h;obtain⟨its',r',⟨o',e',_,n',d'⟩,_⟩:=I.tuple h';rw[e]at e';cases e';rw[d]at d'
 injection d' with d1 _
 have:its=its':=by simpa using congrArg Array.toList d1
 subst this;exact r.inj r'
end
abbrev Cx.qU(X:Cx)(E:Value->Shared->Prop):Cx:={X with xe:=E}
abbrev Cx.JR(X:Cx):Cx:=X.qU λ_ _=>False
theorem Cx.Ok.qU{X:Cx}(ok:X.Ok)(E:Value->Shared->Prop):(X.qU E).Ok:=
 ⟨ok.mod,ok.kind,ok.glob,ok.blt,ok.above,ok.inj,ok.has,ok.II,ok.hd,ok.frames,ok.Mx,ok.Vv,ok.bs,ok.yh,ok.tS,ok.vQ,ok.iX,ok.Cz⟩
theorem Cx.Ok.jo{X:Cx}{E:Value->Shared->Prop}(ok:(X.qU E).Ok):X.Ok:=
 ⟨ok.mod,ok.kind,ok.glob,ok.blt,ok.above,ok.inj,ok.has,ok.II,ok.hd,ok.frames,ok.Mx,ok.Vv,ok.bs,ok.yh,ok.tS,ok.vQ,ok.iX,ok.Cz⟩
section
variable {X:Cx}{pins:List (Addr×Obj)}{σ:St}{H:Hp}{s:Shared}{E:Value->Shared->Prop}
theorem Inv.qU(I:Inv X pins σ H s)(E:Value->Shared->Prop):Inv (X.qU E) pins σ H s:=⟨I.ok.qU E,I.os,I.bare,I.base,I.loc,I.cell,I.free,I.d5,I.pin,I.bc,I.len⟩
theorem Inv.jo(I:Inv (X.qU E) pins σ H s):Inv X pins σ H s:=⟨I.ok.jo,I.os,I.bare,I.base,I.loc,I.cell,I.free,I.d5,I.pin,I.bc,I.len⟩
theorem SP.jo{D:Ends}{f:Flow}{s':Shared}(h:SP (X.qU E) pins D f s'):SP X pins D f s':=by
 cases f with
 | next=>obtain⟨bS,H',I,q⟩:=h;exact⟨bS,H',I.jo,q⟩
 | brk=>obtain⟨bS,H',I,q⟩:=h;exact⟨bS,H',I.jo,q⟩
 | cont=>obtain⟨bS,H',I,q⟩:=h;exact⟨bS,H',I.jo,q⟩
 | ret u=>obtain⟨v,bS,H',I,r,q⟩:=h;exact⟨v,bS,H',I.jo,r,q⟩
theorem sG.JR{st:List Stmt}{t:TS}(h:sG X.JR st t):sG X st t:=λpins s σ H D I hw =>
 wpAny_mono (h pins s σ H D (I.qU _) hw) (λ_ _ q=>q.jo) λ_ _ z=>False.elim z
end
section
variable {X:Cx}{st:Stmt}{rest:List Stmt}{t u:TS}{e:Expr}{te:TE}{pos:Pos}
def aaA:TS:=λD σ H=>D.nx σ H
def ab3(t u:TS):TS:=λD σ H=>t {D with nx:=u D} σ H
theorem AY:sG X [] aaA:=λ_ _ σ H _ I h=>wpAny_execs_nil ⟨σ,H,I,h⟩
theorem xi(h1:PS X st t)(h2:sG X rest u):sG X (st::rest) (ab3 t u):=by
 intro pins s σ H D I h;refine wpAny_execs_cons (ck (h1 pins s σ H {D with nx:=u D} I h) λf s1 q=>?_)
 cases f with
 | next =>
  obtain⟨bS,H',I',q⟩:=q;exact h2 pins s1 bS H' D I' q
 | ret v=>exact q
 | brk=>exact q
 | cont=>exact q
theorem uc(h1:PS X st t):sG X [st] t:=by
 intro pins s σ H D I h;refine wpAny_execs_cons (ck (h1 pins s σ H D I h) λf s1 q=>?_);cases f with
 | next=>exact wpAny_execs_nil q
 | ret v=>exact q
 | brk=>exact q
 | cont=>exact q
theorem Inv.quiet{pins:List (Addr×Obj)}{σ:St}{H:Hp}{s:Shared}(I:Inv X pins σ H s):interactive X.env=false:=by simp [interactive,I.ok.kind]
def aaw(te:TE):TS:=λD σ H=>te σ H λ_ H1=>D.nx σ H1
theorem tZ(he:PE X e te)(hs:swapsWith e none pos.line X.env=pure false:=by rfl):PS X (.Expr e pos) (aaw te):=by
 intro pins s σ H D I h;exact wpAny_Expr_any (ck (he pins s σ H _ I h) λv s1 ⟨x,H1,I1,r1,q1⟩=>⟨σ,H1,I1,q1⟩) I.quiet hs
def ab2(te:TE):TS:=λD σ H=>te σ H D.rt
theorem yI(he:PE X e te):PS X (.Return (some e) pos) (ab2 te):=by
 intro pins s σ H D I h;exact wpAny_Return_some (ck (he pins s σ H _ I h) λv s1 ⟨x,H1,I1,r1,q1⟩=>⟨x,σ,H1,I1,r1,q1⟩)
def ab1(c:TT)(t u:TS):TS:=λD σ H=>c σ H λb H1=>if b=true then t D σ H1 else u D σ H1
theorem Mi{c:Expr}{a b:List Stmt}{tc:TT}(hc:PT X c tc)(ha:sG X a t)(hb:sG X b u):PS X (.If c a b pos) (ab1 tc t u):=by
 intro pins s σ H D I h;refine wpAny_If (ck (hc pins s σ H _ I h) λd s1 ⟨H1,I1,q1⟩=>?_);cases d with
 | true=>exact ha pins s1 σ H1 D I1 q1
 | false=>exact hb pins s1 σ H1 D I1 q1
def UY:TS:=λ_ _ _=>False
theorem Gw:PS X st UY:=λ_ _ _ _ _ _ h=>h.elim
end
abbrev TG:=V->St->Hp->(St->Hp->Prop)->Prop
abbrev LD:=List V->St->Hp->(St->Hp->Prop)->Prop
def PG(X:Cx)(target:Expr)(t:TG):Prop:=
 ∀(pins:List (Addr×Obj)) (s:Shared) (σ:St) (H:Hp) (v:V) (u:Value) (Q:St->Hp->Prop),Inv X pins σ H s->RelV v u->t v σ H Q ->
  wpAny (model X.prog X.w) X.A (assign target X.env u) (λ_ s'=>∃bS H',Inv X pins bS H' s'/\Q bS H') X.xe s
def Vp(X:Cx)(ts:List Expr)(t:LD):Prop:=
 ∀(pins:List (Addr×Obj)) (s:Shared) (σ:St) (H:Hp) (vs:List V) (us:List Value) (Q:St->Hp->Prop),Inv X pins σ H s->Vals vs us->t vs σ H Q ->
  wpAny (model X.prog X.w) X.A (assignInOrder ((assignEach ts X.env).map (·.2)) us) (λ_ s'=>∃bS H',Inv X pins bS H' s'/\Q bS H') X.xe s
abbrev MN:=V->V->V->Hp->(Hp->Prop)->Prop
def Wc(X:Cx)(t:MN):Prop:=
 ∀(pins:List (Addr×Obj)) (s:Shared) (σ:St) (H:Hp) (o i v:V) (ov iv u:Value) (Q:Hp->Prop),Inv X pins σ H s->RelV o ov->RelV i iv->RelV v u->t o i v H Q ->
  wpAny (model X.prog X.w) X.A (setItem ov iv u) (λ_ s'=>∃H',Inv X pins σ H' s'/\Q H') X.xe s
section
variable {X:Cx}{pos:Pos}
def px(i:Nat):TG:=λv σ H Q=>Q (σ.set i (some v)) H
theorem AQ{i:Nat}{x:Str}(hN:X.N.Nodup)(hi:X.N[i]?=some x)(hx:Loc X.env.scope x)(hf:X.fn x=true\/X.env.scope.names.lookup x=some .local:=by first|exact .inl rfl|exact .inr rfl|assumption):PG X (.Name x pos) (px i):=by
 intro pins s σ H v u Q I r h;exact wpAny_assign_Name (mn I hN hi hx r (λs' I'=>⟨_,H,I',h⟩) hf)
def aa4:LD:=λvs σ H Q=>vs=[]/\Q σ H
def XJ(t:TG)(u:LD):LD:=λvs σ H Q=>∃v r,vs=v::r/\t v σ H λbS H'=>u r bS H' Q
theorem Ke:Vp X [] aa4:=by
 intro pins s σ H vs us Q I r h;obtain⟨e,h⟩:=h;subst e;cases r;exact assignInOrder_nil ⟨σ,H,I,h⟩
theorem Gj{e:Expr}{es:List Expr}{t:TG}{u:LD}(h1:PG X e t)(h2:Vp X es u)
  (hs:(assignEach (e::es) X.env).map (·.2)=assign e X.env::(assignEach es X.env).map (·.2):=by rfl):Vp X (e::es) (XJ t u):=by
 intro pins s σ H vs us Q I r h;obtain⟨v,vr,e1,h⟩:=h;subst e1;cases r with
 | cons r rr =>
  rw[hs];refine assignInOrder_cons (ck (h1 pins s σ H _ _ _ I r h) λ_ s1 ⟨aw,H1,I1,q1⟩=>?_);exact h2 pins s1 aw H1 _ _ Q I1 rr q1
def aa6(K:PySem.W.Frag)(n:Nat)(t:LD):TG:=λv σ H Q=>∃a xs,v=.ref a/\nB K H a xs/\xs.length=n/\t xs σ H Q
theorem SQ{es:List Expr}{k:Nat}{t:LD}{n:Nat}(hc:X.calm=true)(h:Vp X es t)
  (hn:(assignEach es X.env).length=n:=by rfl) (pB:(assignEach es X.env).findIdx? (·.1)=none:=by rfl):PG X (.Tuple es k pos) (aa6 X.K n t):=by
 intro pins s σ H v u Q I r hw;obtain⟨a,xs,e1,hq,hl,hw⟩:=hw;subst e1;cases r;obtain⟨its,rv,ht,hz⟩:=I.tuple hq;refine assign_Tuple_tuple (I.ok.hd hc) ht (by simp [hn,<- hl,rv.length]) pB λh' hx=>?_
 have I1:Inv X pins σ H {s with heap:=h'}:=I.kept (t':=s.toks) λb o e=>hx b o (Nat.ne_of_lt (Heap.lt_size e)) e
 exact h pins _ σ H xs _ Q I1 (by simpa using rv) hw
def aa5(to ti:TE)(t:MN):TG:=λv σ H Q=>to σ H λo H1=>ti σ H1 λi H2=>t o i v H2 λH3=>Q σ H3
theorem SN{o i:Expr}{to ti:TE}{t:MN}(ho:PE X o to)(hi:PE X i ti)(hs:Wc X t)
  (ha:∀v,assign (.Subscript o i pos) X.env v=(do
   let ov <- holding [v] (eval o X.env)
   let iv <- holding [v,ov] (eval i X.env)
   standAt pos
   holding [v,ov,iv] (setItem ov iv v)
   release [v,ov,iv] []):=by intro _;rfl):PG X (.Subscript o i pos) (aa5 to ti t):=by
 intro pins s σ H v u Q I r h;rw[ha];refine wpAny_bind (wpAny_holding (ck (ho pins s σ H _ I h) λov s1 ⟨x,H1,I1,r1,q1⟩=>?_));refine wpAny_bind (wpAny_holding (ck (hi pins s1 σ H1 _ I1 q1) λiv s2 ⟨y,H2,I2,r2,q2⟩=>?_));refine wpAny_bind (wpAny_standAt (wpAny_bind (wpAny_holding (ck (hs pins s2 σ H2 x y v ov iv u _ I2 r1 r2 r q2) λ_ s3 ⟨H3,I3,q3⟩=>?_))));exact wpAny_release ⟨σ,H3,I3,q3⟩
def G5(te:TE)(g:TG):TS:=λD σ H=>te σ H λx H1=>g x σ H1 D.nx
theorem Tw{tg e:Expr}{te:TE}{g:TG}(he:PE X e te)(hg:PG X tg g)(hs:swapsWithSole [tg] e pos.line X.env=pure false:=by rfl)(hw:swappedStores [tg] e X.env=pure none:=by rfl)
  (h1:(assignEach [tg] X.env).map (·.2)=[assign tg X.env]:=by rfl):PS X (.Assign [tg] e pos) (G5 te g):=by
 intro pins s σ H D I h;refine wpAny_Assign_stores (ck (he pins s σ H _ I h) λv s1 ⟨x,H1,I1,r1,q1⟩=>?_) hs hw;rw[h1];exact ck (hg pins s1 σ H1 x v _ I1 r1 q1) λ_ s2 q=>q
theorem yJ{i:Nat}{x:Str}{e:Expr}{te:TE}{pos':Pos}(hN:X.N.Nodup)(hi:X.N[i]?=some x)(hx:Loc X.env.scope x)(he:PE X e te)(hs:swapsWith e (some (.Name x pos')) pos.line X.env=pure false:=by rfl)(hf:X.fn x=true\/X.env.scope.names.lookup x=some .local:=by first|exact .inl rfl|exact .inr rfl|assumption):
  PS X (.Assign [.Name x pos'] e pos) (G5 te (px i)):=by
 intro pins s σ H D I h;refine wpAny_Assign_Name (ck (he pins s σ H _ I h) λv s1 ⟨y,H1,I1,r1,q1⟩=>?_) hs;exact mn I1 hN hi hx r1 (λs2 I2=>⟨_,H1,I2,q1⟩) hf
end
structure It where
 go:Nat->Hp->Prop
 VW:Nat->Hp->V->Hp->Prop
 stop:Nat->Hp->Prop
def jF(X:Cx)(pins:List (Addr×Obj))(H:Hp)(b:Addr):Prop:=
 H b=none/\b≠X.env.locals/\b∉X.fs/\(b∈X.ex\/X.bT.heap.objs.size<=b)/\(∀x c,X.env.cells.lookup x=some c->c≠b)/\∀p∈X.pn++pins,p.1≠b
theorem Inv.ER{X:Cx}{pins:List (Addr×Obj)}{σ:St}{H H':Hp}{s:Shared}{b:Addr}(I:Inv X pins σ H s)(hb:s.heap.objs.size<=b)(hn:H' b=none):jF X pins H' b:=by
 refine⟨hn,Nat.ne_of_gt (Nat.lt_of_lt_of_le I.lt hb),I.abI hb,.inr (Nat.le_trans I.sz hb),λx c e z=>?_,λp hp z=>?_⟩
 ·obtain⟨v,q⟩:=I.cell x c e
  exact absurd (Nat.lt_of_lt_of_le q.lt (by rw[z];exact hb)) (Nat.lt_irrefl _)
 ·exact absurd (Nat.lt_of_lt_of_le (Heap.lt_size (I.pin p hp).1) (by rw[z];exact hb)) (Nat.lt_irrefl _)
structure Turn(P:Program)(w:World)(K:PySem.W.Frag)(tg:Expr)(J:It)(fp:List Addr)(it:Addr)(tn:Nat->Heap->Prop):Prop where
 mem:it∈fp
 obj:∀i h,tn i h->∀b∈fp,∃o,h.get? b=some o/\∀v,o.data≠.cell v
 keep:∀i h h',tn i h->(∀b∈fp,∀o,h.get? b=some o->h'.get? b=some o)->tn i h'
 item:∀(X:Cx),X.prog=P->X.w=w->X.K=K->X.calm=true->∀(i:Nat) (pins:List (Addr×Obj)) (s:Shared) (σ:St) (H:Hp) (E:Value->Shared->Prop),Inv X pins σ H s->(∀b∈fp,jF X pins H b)->tn i s.heap->J.go i H ->
  wpAny (model P w) X.A (pyNext (.ref it)) (λr s1=>∃u,r=some u /\
   wpAny (model P w) X.A (letOwnedTupleGo tg (.ref it) u) (λ_ s2=>∃x H',Inv X pins σ H' s2/\RelV x u/\J.VW i H x H'/\tn (i+1) s2.heap/\∀b∈fp,H' b=none) E s1) E s
 done:∀(X:Cx),X.prog=P->X.w=w->X.K=K->X.calm=true->∀(i:Nat) (pins:List (Addr×Obj)) (s:Shared) (σ:St) (H:Hp) (E:Value->Shared->Prop),Inv X pins σ H s->(∀b∈fp,jF X pins H b)->tn i s.heap->J.stop i H ->
  wpAny (model P w) X.A (pyNext (.ref it)) (λr s1=>r=none/\Inv X pins σ H s1) E s
 self:∀(A:Around) (i:Nat) (s:Shared) (Q:Value->Shared->Prop) (E:Value->Shared->Prop),tn i s.heap->Q (.ref it) s->wpAny (model P w) A (pyIter (.ref it)) Q E s
abbrev TI:=St->Hp->(It->Hp->Prop)->Prop
def PIE(X:Cx)(pins:List (Addr×Obj))(σ:St)(tg:Expr)(R:It->Hp->Prop)(itv:Value)(s2:Shared):Prop:=
 ∃(it:Addr) (fp:List Addr) (tn:Nat->Heap->Prop) (J:It) (H':Hp),itv=.ref it/\Inv X pins σ H' s2/\Turn X.prog X.w X.K tg J fp it tn/\tn 0 s2.heap/\(∀b∈fp,jF X pins H' b)/\R J H'
def PI(X:Cx)(tg iter:Expr)(wi:TI):Prop:=
 ∀(pins:List (Addr×Obj)) (s:Shared) (σ:St) (H:Hp) (R:It->Hp->Prop),Inv X pins σ H s->wi σ H R ->
  wpAny (model X.prog X.w) X.A (eval iter X.env) (λv s1=>wpAny (model X.prog X.w) X.A (pyIter v) (PIE X pins σ tg R) X.xe s1) X.xe s
theorem EZ{M:Model}{A:Around}{E:Value->Shared->Prop}{s:Shared}{tg:Expr}{it:Addr}{u:Value}{o:Obj}{n:String}{vs:Array Value}{Q:Unit->Shared->Prop}(ho:s.heap.get? it=some o)(hc:o.cls=.type n)(hd:o.data=.fields vs)
    (hn:["enumerate","zip","dict_itemiterator","dict_reverseitemiterator","odict_iterator","itertools.zip_longest","itertools.pairwise"].contains n=false) (hQ:Q () s):wpAny M A (letOwnedTupleGo tg (.ref it) u) Q E s:=by
  unfold letOwnedTupleGo;cases tg<;>first
    | exact wpAny_pure hQ
    | (cases u<;>first
        | exact wpAny_pure hQ
        | (refine wpAny_bind (wpAny_load ho ?_)
           rw[hc,hd];show wpAny M A (if(["enumerate","zip","dict_itemiterator","dict_reverseitemiterator","odict_iterator","itertools.zip_longest","itertools.pairwise"].contains n&&vs[0]?==some (rawInt _))=true then _ else _) Q E s
           rw[if_neg (by intro h;rw[hn,Bool.false_and]at h;cases h)]
           exact wpAny_pure hQ))
def Itl(K:PySem.W.Frag)(a:Addr):It:=
 ⟨λi H=>∃xs x,jr K H a xs/\xs[i]?=some x,λi H x H'=>H'=H/\∀xs,jr K H a xs->xs[i]?=some x,λi H=>∃xs,jr K H a xs/\xs.length<=i⟩
def Itt(K:PySem.W.Frag)(a:Addr):It:=
 ⟨λi H=>∃xs x,nB K H a xs/\xs[i]?=some x,λi H x H'=>H'=H/\∀xs,nB K H a xs->xs[i]?=some x,λi H=>∃xs,nB K H a xs/\xs.length<=i⟩
def Wa(lo:Int)(n:Nat):It:=⟨λi _=>i<n,λi H x H'=>H'=H/\x=.int (lo+i),λi _=>n<=i⟩
theorem Cu{P:Program}{w:World}{K:PySem.W.Frag}{tg:Expr}(a it:Addr):Turn P w K tg (Itl K a) [it] it (λi h=>h.IsListIter it a i) where
 mem:=by simp
 obj:=λi h st b hb=>by
  have e:b=it:=by simpa using hb
  subst e;obtain⟨o,e,c,d⟩:=st;exact⟨o,e,λv z=>by rw[d]at z;cases z⟩
 keep:=λi h h' st k=>st.at λo e=>k it (by simp) o e
 item:=by
  intro X hP hw hK hc i pins s σ H E I hf st hg;subst hP hw hK;obtain⟨xs,x,hq,hx⟩:=hg;obtain⟨its,rv,p,hz⟩:=I.list hq;obtain⟨u,hu,ru⟩:=rv.get hx;obtain⟨f0,f1,f2,f3,f4,f5⟩:=hf it (by simp)
  refine wpAny_pyNext_list_item st p.isList (x:=u) (by simpa using hu) λh' Cm sb=>?_
  have I1:Inv X pins σ H {s with heap:=h'}:=I.turned (t':=s.toks) (λb o hb e=>(sb.2 b hb).trans e) f0 f1 f3 f4 f5
  obtain⟨o,e,c,d⟩:=id Cm;exact⟨u,rfl,EZ (s:={s with heap:=h'}) e c d ∅ ⟨x,H,I1,ru,⟨rfl,λys hy=>by rw[I.wJ hy hq];exact hx⟩,Cm,λb hb=>(hf b hb).1⟩⟩
 done:=by
  intro X hP hw hK hc i pins s σ H E I hf st hg;subst hP hw hK;obtain⟨xs,hq,hx⟩:=hg;obtain⟨its,rv,p,hz⟩:=I.list hq;obtain⟨f0,f1,f2,f3,f4,f5⟩:=hf it (by simp)
  have hl:=rv.length;exact wpAny_pyNext_list_end (I.ok.hd hc) st p.isList (by simp;omega) λh' eb=>⟨rfl,I.turned (t':=s.toks) (λb o hb e=>eb b o hb e) f0 f1 f3 f4 f5⟩
 self:=λ_ _ _ _ _ st h=>wpAny_pyIter_listiter st h
theorem zv{P:Program}{w:World}{K:PySem.W.Frag}{tg:Expr}(a it:Addr):Turn P w K tg (Itt K a) [it] it (λi h=>h.IsTupleIter it a i) where
 mem:=by simp
 obj:=λi h st b hb=>by
  have e:b=it:=by simpa using hb
  subst e;obtain⟨o,e,c,d⟩:=st;exact⟨o,e,λv z=>by rw[d]at z;cases z⟩
 keep:=λi h h' st k=>st.at λo e=>k it (by simp) o e
 item:=by
  intro X hP hw hK hc i pins s σ H E I hf st hg;subst hP hw hK;obtain⟨xs,x,hq,hx⟩:=hg;obtain⟨its,rv,p,hz⟩:=I.tuple hq;obtain⟨u,hu,ru⟩:=rv.get hx;obtain⟨f0,f1,f2,f3,f4,f5⟩:=hf it (by simp)
  refine wpAny_pyNext_tuple_item st (show s.heap.IsTuple a its.toArray from p) (x:=u) (by simpa using hu) λh' Cm sb=>?_
  have I1:Inv X pins σ H {s with heap:=h'}:=I.turned (t':=s.toks) (λb o hb e=>(sb.2 b hb).trans e) f0 f1 f3 f4 f5
  obtain⟨o,e,c,d⟩:=id Cm;exact⟨u,rfl,EZ (s:={s with heap:=h'}) e c d ∅ ⟨x,H,I1,ru,⟨rfl,λys hy=>by rw[I.su hy hq];exact hx⟩,Cm,λb hb=>(hf b hb).1⟩⟩
 done:=by
  intro X hP hw hK hc i pins s σ H E I hf st hg;subst hP hw hK;obtain⟨xs,hq,hx⟩:=hg;obtain⟨its,rv,p,hz⟩:=I.tuple hq;obtain⟨f0,f1,f2,f3,f4,f5⟩:=hf it (by simp)
  have hl:=rv.length;exact wpAny_pyNext_tuple_end (I.ok.hd hc) st (show s.heap.IsTuple a its.toArray from p) (by simp;omega) λh' eb=>⟨rfl,I.turned (t':=s.toks) (λb o hb e=>eb b o hb e) f0 f1 f3 f4 f5⟩
 self:=λ_ _ _ _ _ st h=>wpAny_pyIter_tupleiter st h
theorem zu{P:Program}{w:World}{K:PySem.W.Frag}{tg:Expr}(it:Addr)(lo:Int)(n:Nat):Turn P w K tg (Wa lo n) [it] it (λi h=>IsRangeIter h it (lo+(i:Nat)*1) ((n:Int)-(i:Nat)) 1) where
 mem:=by simp
 obj:=λi h st b hb=>by
  have e:b=it:=by simpa using hb
  subst e;exact⟨_,st,λv z=>by
   have z':Data.fields _=Data.cell v:=z;cases z'⟩
 keep:=λi h h' st k=>k it (by simp) _ st
 item:=by
  intro X hP hw hK hc i pins s σ H E I hf st hg;subst hP hw hK;obtain⟨f0,f1,f2,f3,f4,f5⟩:=hf it (by simp)
  have W:=Walks.range (prog:=X.prog) (w:=X.w) (I.ok.hd hc) it lo 1 n;refine W.item i s _ _ hg st λv h' tk hv Cm kk=>?_;obtain⟨t,rfl⟩:=hv;have I1:Inv X pins σ H {s with heap:=h',toks:=tk}:=I.turned (λb o hb e=>kk b o (by simpa using hb) e) f0 f1 f3 f4 f5
  refine⟨_,rfl,EZ (s:={s with heap:=h',toks:=tk}) (n:="range_iterator") Cm rfl rfl ∅ ⟨.int (lo+i),H,I1,⟨t,?_⟩,⟨rfl,rfl⟩,Cm,λb hb=>(hf b hb).1⟩⟩
  rw[Int.mul_one]
 done:=by
  intro X hP hw hK hc i pins s σ H E I hf st hg;subst hP hw hK;obtain⟨f0,f1,f2,f3,f4,f5⟩:=hf it (by simp)
  exact wpAny_pyNext_range_end (I.ok.hd hc) st (by have:n<=i:=hg;omega) λh' eb=>⟨rfl,I.turned (t':=s.toks) (λb o hb e=>eb b o hb e) f0 f1 f3 f4 f5⟩
 self:=λ_ _ _ _ _ st h=>wpAny_pyIter_rangeiter st h
end L2
namespace L2
open PySem PySem.Spec PyProof.Rows
section
variable {X:Cx}{tg:Expr}
theorem xn{pins:List (Addr×Obj)}{σ:St}{H:Hp}{s:Shared}{R:It->Hp->Prop}{E:Value->Shared->Prop}{lo hi:Int}{t u v:Tok}{tk:Nat}(I:Inv X pins σ H s)(h1:-(2^62)<=lo)(h2:lo<2^62)(h3:-(2^62)<=hi)(h4:hi<2^62)
  (q:R (Wa lo (hi-lo).toNat) H):wpAny (model X.prog X.w) X.A (pyIter (.ref s.heap.objs.size)) (PIE X pins σ tg R) E {s with heap:=s.heap.push {cls:=.type "range",data:=.fields #[.int lo t,.int hi u,.int 1 v]},toks:=tk}:=by
 refine wpAny_pyIter_range (IsRange.new ..) (small_one h1 h2 h3 h4) ?_;have I1:Inv X pins σ H {s with heap:=s.heap.push {cls:=.type "range",data:=.fields #[.int lo t,.int hi u,.int 1 v]},toks:=tk}:=I.kept λb o e=>Heap.get?_push_of_some _ e
 refine⟨(s.heap.push {cls:=.type "range",data:=.fields #[.int lo t,.int hi u,.int 1 v]}).objs.size,[(s.heap.push {cls:=.type "range",data:=.fields #[.int lo t,.int hi u,.int 1 v]}).objs.size],_,_,H,rfl,
  I1.kept (t':=tk) λb o e=>Heap.get?_push_of_some _ e,zu _ lo (hi-lo).toNat,?_,λb hb=>?_,q⟩
 ·have e1:lo+((0:Nat):Int)*1=lo:=by simp
  have e2:(((hi-lo).toNat:Nat):Int)-((0:Nat):Int)=Builtin.Range.rangeSize lo hi 1:=by rw[rangeSize_one];split<;>omega
  show IsRangeIter _ _ (lo+((0:Nat):Int)*1) ((((hi-lo).toNat:Nat):Int)-((0:Nat):Int)) 1;rw[e1,e2];exact Heap.get?_push_size _ rfl
 ·have e:b=(s.heap.push {cls:=.type "range",data:=.fields #[.int lo t,.int hi u,.int 1 v]}).objs.size:=by simpa using hb
  subst e;exact I1.ER (Nat.le_refl _) (I1.bc.fresh (Nat.le_refl _))
def Yg(ta:TA):TI:=λσ H R=>ta σ H λvs H1=>∃j:Int,vs=[.int j]/\-(2^62)<=j/\j<2^62/\R (Wa 0 j.toNat) H1
def Yh(ta:TA):TI:=λσ H R=>ta σ H λvs H1=>∃i j:Int,vs=[.int i,.int j]/\(-(2^62)<=i/\i<2^62/\-(2^62)<=j/\j<2^62)/\R (Wa i (j-i).toNat) H1
theorem B8{a:Expr}{ta:TA}{p pos:Pos}(hg:Gl X "range")(hm:X.mg "range"=none)(ha:PA X [a] ta)(hs:starEach [a] X.env=[(false,eval a X.env)]:=by rfl):PI X tg (.Call (.Name "range" p) [a] [] pos) (Yg ta):=by
 intro pins s σ H R I h;refine Call_ (j9 I hg hm boot_range (PyProof.Rows.callWith_type1 (ck (ha pos pins s σ H _ I h) λus s1 ⟨vs,H1,I1,r1,q1⟩=>?_) hs rfl));obtain⟨j,e,q1,q2,q⟩:=q1;subst e;cases r1 with
 | cons r rr =>
  cases rr;obtain⟨t,rfl⟩:=r;exact call_range_1 (xn I1 ⋯ ⋯ q1 q2 (by simpa using q))
theorem B9{a b:Expr}{ta:TA}{p pos:Pos}(hg:Gl X "range")(hm:X.mg "range"=none)(ha:PA X [a,b] ta)(hs:starEach [a,b] X.env=[(false,eval a X.env),(false,eval b X.env)]:=by rfl)(CC:starEach [b] X.env=[(false,eval b X.env)]:=by rfl):
  PI X tg (.Call (.Name "range" p) [a,b] [] pos) (Yh ta):=by
 intro pins s σ H R I h;refine Call_ (j9 I hg hm boot_range (PyProof.Rows.callWith_type1 (ck (ha pos pins s σ H _ I h) λus s1 ⟨vs,H1,I1,r1,q1⟩=>?_) (by rw[hs,CC]) (by rw[CC];rfl)))
 obtain⟨i,j,e,⟨q1,q2,q3,q4⟩,q⟩:=q1;subst e;cases r1 with
 | cons r rr =>
  cases rr with
  | cons r' rr =>
   cases rr;obtain⟨t,rfl⟩:=r;obtain⟨t',rfl⟩:=r';exact call_range_2 (xn I1 q1 q2 q3 q4 q)
def aax(wi:TI)(g:TG)(tb:TS):TS:=λD σ H=>wi σ H λJ H1=>∃W:Nat->Nat->St->Hp->Prop,(∃m,W 0 m σ H1)/\∀i m σ H,W i m σ H ->
 (J.stop i H/\D.nx σ H)\/(J.go i H/\∃N:St->Hp->Prop,(∀bS H',N bS H'->∃m',m'<m/\W (i+1) m' bS H')/\∀x H',J.VW i H x H'->g x σ H' λaO H2=>tb {D with nx:=N,ct:=N,bk:=D.nx} aO H2)
def m7(fp:List Addr)(h:Heap):List (Addr×Obj):=fp.filterMap λb=>(h.get? b).map λo=>(b,o)
theorem fD{fp:List Addr}{h:Heap}{b:Addr}{o:Obj}(hb:b∈fp)(e:h.get? b=some o):(b,o)∈m7 fp h:=List.mem_filterMap.mpr ⟨b,hb,by rw[e];rfl⟩
theorem B3{fp:List Addr}{h:Heap}{p:Addr×Obj}(hp:p∈m7 fp h):p.1∈fp/\h.get? p.1=some p.2:=by
 obtain⟨b,hb,e⟩:=List.mem_filterMap.mp hp;cases q:h.get? b with
 | none=>rw[q]at e;cases e
 | some o =>
  rw[q]at e;have e':(b,o)=p:=Option.some.inj e;subst e';exact⟨hb,q⟩
theorem Inv.pinned{pins:List (Addr×Obj)}{σ:St}{H:Hp}{s:Shared}{fp:List Addr}(I:Inv X pins σ H s)(hf:∀b∈fp,jF X pins H b)(ho:∀b∈fp,∃o,s.heap.get? b=some o/\∀v,o.data≠.cell v):Inv X (pins++m7 fp s.heap) σ H s:=
 I.AU λp hp=>(List.mem_append.mp hp).elim (λz=>I.pin p (List.mem_append_right _ z)) λz=>by
  obtain⟨hb,e⟩:=B3 z;obtain⟨f0,f1,f2,_⟩:=hf p.1 hb;obtain⟨o,e',d⟩:=ho p.1 hb;rw[e]at e';cases e';exact⟨e,f0,f1,f2,d⟩
theorem Inv.jn{pins pl:List (Addr×Obj)}{σ:St}{H:Hp}{s:Shared}(I:Inv X (pins++pl) σ H s):Inv X pins σ H s:=I.AU λp hp=>I.pin p (List.mem_append_right _ (List.mem_append_left _ hp))
theorem Gv{iter:Expr}{body:List Stmt}{wi:TI}{g:TG}{tb:TS}{pos:Pos}(hp:PassesOwn (model X.prog X.w) X.A X.env X.xe)(hc:X.calm=true)(hi:PI X tg iter wi)(hg:PG X tg g)(hb:sG X body tb)
  (hs:∀x,foldedSetIterable iter X.env x=pure x:=by intro _;rfl):PS X (.For tg iter body [] pos) (aax wi g tb):=by
 intro pins s σ H D I h;refine wpAny_For (ck (hi pins s σ H _ I h) λv s1 h1=>ck h1 λitv s2 h2=>?_) hs;obtain⟨it,fp,tn,J,H2,e,I2,T,st2,f2,W,⟨m0,w0⟩,turn⟩:=h2;subst e
 -- what stays true of the iterator's objects through the loop
 have stat:∀ {H':Hp},(∀b∈fp,H' b=none)->∀b∈fp,jF X pins H' b:=λhn b hb=>⟨hn b hb,(f2 b hb).2⟩;refine codeAny_forLoop_any (λn s'=>∃i bS H',Inv X pins bS H' s'/\tn i s'.heap/\(∀b∈fp,H' b=none)/\W i n bS H') ?_ m0 ⟨0,σ,H2,I2,st2,λb hb=>(f2 b hb).1,w0⟩;rintro n s3 ⟨i,fe,H3,I3,st3,Jl,w3⟩;rcases turn i n fe H3 w3 with⟨stop,qn⟩|⟨go,N,hN,step⟩
 ·refine wpAny_passesOwn hp (ck (T.done X rfl rfl rfl hc i pins s3 fe H3 X.xe I3 (stat Jl) st3 stop) λr s4 ⟨hr,I4⟩=>?_)
  subst hr;exact wpAny_execs_nil ⟨fe,H3,I4,qn⟩
 ·refine wpAny_passesOwn hp (ck (T.item X rfl rfl rfl hc i pins s3 fe H3 X.xe I3 (stat Jl) st3 go) λr s4 ⟨u,hr,h4⟩=>?_)
  subst hr;refine wpAny_passesOwn hp (ck h4 λ_ s5 ⟨x,H5,I5,r5,y5,VP,HY⟩=>?_);have I5':=I5.pinned (stat HY) (T.obj _ _ VP);refine wpAny_passesOwn hp (ck (hg _ s5 fe H5 x u _ I5' r5 (step x H5 y5)) λ_ s6 ⟨σ6,H6,I6,q6⟩=>?_);refine wpAny_passesOwn hp (ck (hb _ s6 σ6 H6 _ I6 q6) λf s7 q7=>?_);have again:∀ {CI:St} {H7:Hp},Inv X (pins++m7 fp s5.heap) CI H7 s7->N CI H7->∃m,m<n/\∃i bS H',Inv X pins bS H' s7/\tn i s7.heap/\(∀b∈fp,H' b=none)/\W i m bS H':=λ{CI H7} I7 n7=>by
   obtain⟨m',hm,w7⟩:=hN CI H7 n7;refine⟨m',hm,i+1,CI,H7,I7.jn,T.keep _ _ _ VP λb hb o e=>(I7.pin (b,o) (List.mem_append_right _ (List.mem_append_right _ (fD hb e)))).1,λb hb=>?_,w7⟩;obtain⟨o,e,d⟩:=T.obj _ _ VP b hb;exact(I7.pin (b,o) (List.mem_append_right _ (List.mem_append_right _ (fD hb e)))).2.1
  cases f with
  | next=>obtain⟨CI,H7,I7,n7⟩:=q7;exact again I7 n7
  | cont=>obtain⟨CI,H7,I7,n7⟩:=q7;exact again I7 n7
  | brk=>obtain⟨CI,H7,I7,q7⟩:=q7;exact⟨CI,H7,I7.jn,q7⟩
  | ret v=>obtain⟨x7,CI,H7,I7,r7,q7⟩:=q7;exact⟨x7,CI,H7,I7.jn,r7,q7⟩
end
end L2
namespace L2
open PySem PySem.Spec PyProof.Rows
abbrev R2:=V->V->Hp->VK->Prop
def iH(X:Cx)(f:Value->Value->Sem Value)(r:R2):Prop:=
 ∀(pins:List (Addr×Obj)) (s:Shared) (σ:St) (H:Hp) (x y:V) (v u:Value) (Q:VK),Inv X pins σ H s->RelV x v->RelV y u->r x y H Q ->
  wpAny (model X.prog X.w) X.A (f v u) (EP X pins σ Q) X.xe s
def UnR(X:Cx)(f:Value->Sem Value)(r:V->Hp->VK->Prop):Prop:=
 ∀(pins:List (Addr×Obj)) (s:Shared) (σ:St) (H:Hp) (x:V) (v:Value) (Q:VK),Inv X pins σ H s->RelV x v->r x H Q ->
  wpAny (model X.prog X.w) X.A (f v) (EP X pins σ Q) X.xe s
def eG(X:Cx)(f:Value)(r:List V->Hp->VK->Prop):Prop:=
 ∀(pins:List (Addr×Obj)) (s:Shared) (σ:St) (H:Hp) (xs:List V) (us:List Value) (Q:VK),Inv X pins σ H s->Vals xs us->r xs H Q ->
  wpAny (model X.prog X.w) X.A (call f us) (EP X pins σ Q) X.xe s
def UZ(r:R2)(ta tb:TE):TE:=λσ H Q=>ta σ H λx H1=>tb σ H1 λy H2=>r x y H2 Q
def tUn(r:V->Hp->VK->Prop)(ta:TE):TE:=λσ H Q=>ta σ H λx H1=>r x H1 Q
def rI(C:Int->Int->Prop)(g:Int->Int->V):R2:=λx y H Q=>∃i j,x=.int i/\y=.int j/\C i j/\Q (g i j) H
def Ig(g:Int->Int->V):R2:=λx y H Q=>∃i j,x=.int i/\y=.int j/\Q (g i j) H
def rU(g:Int->V):V->Hp->VK->Prop:=λx H Q=>∃i,x=.int i/\Q (g i) H
section
variable {X:Cx}{a b c:Expr}{ta tb tc:TE}{pos:Pos}
theorem Nq(ha:PE X a ta)(hb:PE X b tb){pins:List (Addr×Obj)}{s:Shared}{σ:St}{H:Hp}{R:V->V->Hp->Prop}(I:Inv X pins σ H s)
  (h:ta σ H λx H1=>tb σ H1 λy H2=>R x y H2) {Q:Value->Shared->Prop} {f:Value->Value->Sem Value}
  (hf:∀v u s2 x y H2,Inv X pins σ H2 s2->RelV x v->RelV y u->R x y H2->wpAny (model X.prog X.w) X.A (f v u) Q X.xe s2):
  wpAny (model X.prog X.w) X.A (eval a X.env) (λv bP=>wpAny (model X.prog X.w) X.A (eval b X.env) (λu vd=>wpAny (model X.prog X.w) X.A (f v u) Q X.xe vd) X.xe bP) X.xe s:=by
 refine ck (ha pins s σ H _ I h) λv s1 ⟨x,H1,I1,r1,q1⟩=>?_;refine ck (hb pins s1 σ H1 _ I1 q1) λu s2 ⟨y,H2,I2,r2,q2⟩=>?_;exact hf v u s2 x y H2 I2 r1 r2 q2
theorem ZL{op:Operator}{r:R2}(ho:iH X (binaryOp op) r)(ha:PE X a ta)(hb:PE X b tb):PE X (.BinOp a op b pos) (UZ r ta tb):=by
 intro pins s σ H Q I h;exact wpAny_BinOp (Nq ha hb I h λv u s2 x y H2 I2 rx ry q=>ho pins s2 σ H2 x y v u Q I2 rx ry q)
theorem ZM{op:UnaryOp}{r:V->Hp->VK->Prop}(ho:UnR X (unaryOp op) r)(ha:PE X a ta):PE X (.UnaryOp op a pos) (tUn r ta):=by
 intro pins s σ H Q I h;exact UnaryOp_ (ck (ha pins s σ H _ I h) λv s1 ⟨x,H1,I1,r1,q1⟩=>ho pins s1 σ H1 x v Q I1 r1 q1)
theorem opI{f:Value->Value->Sem Value}{C:Int->Int->Prop}{g:Int->Int->Int}
  (rule:∀(i j:Int) (t u:Tok) (s:Shared) (Q:Value->Shared->Prop) (E:Value->Shared->Prop),C i j->Q (.int (g i j) s.toks) {s with toks:=s.toks+1}->wpAny (model X.prog X.w) X.A (f (.int i t) (.int j u)) Q E s):
  iH X f (rI C λi j=>.int (g i j)):=by
 intro pins s σ H x y v u Q I rx ry h;obtain⟨i,j,rfl,rfl,hc,q⟩:=h;obtain⟨t,rfl⟩:=rx;obtain⟨t',rfl⟩:=ry;exact rule i j t t' s _ _ hc ⟨.int (g i j),H,I.tok _,⟨_,rfl⟩,q⟩
theorem Zi{f:Value->Value->Sem Value}{g:Int->Int->Int}
  (rule:∀(i j:Int) (t u:Tok) (s:Shared) (Q:Value->Shared->Prop) (E:Value->Shared->Prop),Q (.int (g i j) s.toks) {s with toks:=s.toks+1}->wpAny (model X.prog X.w) X.A (f (.int i t) (.int j u)) Q E s):
  iH X f (Ig λi j=>.int (g i j)):=by
 intro pins s σ H x y v u Q I rx ry h;obtain⟨i,j,rfl,rfl,q⟩:=h;obtain⟨t,rfl⟩:=rx;obtain⟨t',rfl⟩:=ry;exact rule i j t t' s _ _ ⟨.int (g i j),H,I.tok _,⟨_,rfl⟩,q⟩
theorem JU{f:Value->Value->Sem Value}{g:Int->Int->Bool}
  (rule:∀(i j:Int) (t u:Tok) (s:Shared) (Q:Value->Shared->Prop) (E:Value->Shared->Prop),Q (.bool (g i j)) s->wpAny (model X.prog X.w) X.A (f (.int i t) (.int j u)) Q E s):
  iH X f (Ig λi j=>.bl (g i j)):=by
 intro pins s σ H x y v u Q I rx ry h;obtain⟨i,j,rfl,rfl,q⟩:=h;obtain⟨t,rfl⟩:=rx;obtain⟨t',rfl⟩:=ry;exact rule i j t t' s _ _ ⟨.bl (g i j),H,I,rfl,q⟩
def aaM(i j:Int):Prop:=0<j/\j<1073741824
def oU(i j:Int):Prop:=0<=j/\j<=1000000/\i.natAbs<2^64
def my(i j:Int):Prop:=(-(2^64)<i/\i<2^64)\/(-(2^64)<j/\j<2^64)
theorem my.ok{i j:Int}(h:my i j):IntMulOk i j:=by
 rcases h with⟨h1,h2⟩|⟨h1,h2⟩
 ·exact .of_left (intBits_le_64 h1 h2)
 ·exact .of_right (intBits_le_64 h1 h2)
theorem Se:iH X (binaryOp .Add) (Ig λi j=>.int (i+j)):=Zi λ_ _ _ _ _ _ _ q=>add_int q
theorem Ss:iH X (binaryOp .Sub) (Ig λi j=>.int (i-j)):=Zi λ_ _ _ _ _ _ _ q=>sub_int q
theorem Sj:iH X (binaryOp .Mult) (rI my λi j=>.int (i*j)):=opI λ_ _ _ _ _ _ _ hc q=>mul_int q hc.ok
theorem Si:iH X (binaryOp .Mod) (rI (λ_ j=>0<j) λi j=>.int (i%j)):=opI λi j _ _ _ _ _ hc q=>by
 have h1:(0:Int)<j:=hc;exact mod_int' ⋯ (by rw[Int.fmod_eq_emod_of_nonneg i ⋯];exact q)
theorem Sr:iH X (binaryOp .Pow) (rI oU λi j=>.int (i^j.toNat)):=opI λ_ _ _ _ _ _ _ hc q=>pow_int_small hc.1 hc.2.1 hc.2.2 q
theorem unI{f:Value->Sem Value}{g:Int->Int}
  (rule:∀(i:Int) (t:Tok) (s:Shared) (Q:Value->Shared->Prop) (E:Value->Shared->Prop),Q (.int (g i) s.toks) {s with toks:=s.toks+1}->wpAny (model X.prog X.w) X.A (f (.int i t)) Q E s):
  UnR X f (rU λi=>.int (g i)):=by
 intro pins s σ H x v Q I rx h;obtain⟨i,rfl,q⟩:=h;obtain⟨t,rfl⟩:=rx;exact rule i t s _ _ ⟨.int (g i),H,I.tok _,⟨_,rfl⟩,q⟩
theorem Vf:UnR X (unaryOp .USub) (rU λi=>.int (-i)):=unI λ_ _ _ _ _ q=>neg_int q
end
section
variable {X:Cx}{a b c:Expr}{ta tb tc:TE}{pos:Pos}
theorem Pp{pins:List (Addr×Obj)}{σ:St}{H:Hp}{s:Shared}{Q:VK}{k k':Bool}(I:Inv X pins σ H s)(q:Q (.bl k) H)(e:k=k'):EP X pins σ Q (.bool k') s:=by
 subst e;exact⟨.bl k,H,I,rfl,q⟩
theorem Zn:iH X (compareOp .Lt) (Ig λi j=>.bl (decide (i<j))):=JU λ_ _ _ _ _ _ _ q=>lt_int q
theorem Zm:iH X (compareOp .LtE) (Ig λi j=>.bl (decide (i<=j))):=JU λ_ _ _ _ _ _ _ q=>le_int q
theorem Zk:iH X (compareOp .Gt) (Ig λi j=>.bl (decide (j<i))):=JU λ_ _ _ _ _ _ _ q=>gt_int q
theorem Zj:iH X (compareOp .GtE) (Ig λi j=>.bl (decide (j<=i))):=JU λ_ _ _ _ _ _ _ q=>ge_int q
theorem Sh:iH X (compareOp .Is) (λx y H Q=>y=.aU/\Q (.bl (decide (x=.aU))) H):=by
 intro pins s σ H x y v u Q I rx ry h;obtain⟨rfl,q⟩:=h;cases ry;refine is_none_gen (Pp I q ?_);cases x<;>first
  | (cases rx;rfl)
  | (obtain⟨t,rfl⟩:=rx;rfl)
theorem iH.or{f:Value->Value->Sem Value}{r r':R2}(h:iH X f r)(h':iH X f r'):iH X f (λx y H Q=>r x y H Q\/r' x y H Q):=by
 intro pins s σ H x y v u Q I rx ry q;rcases q with q|q
 ·exact h pins s σ H x y v u Q I rx ry q
 ·exact h' pins s σ H x y v u Q I rx ry q
theorem tT(b:Expr){op:CmpOp}(h:op≠.In:=by decide)(h2:op≠.NotIn:=by decide):behindInMarks op b=false:=by
 have e1:(op==CmpOp.In)=false:=by cases op<;>first|rfl|exact absurd rfl h
 have e2:(op==CmpOp.NotIn)=false:=by cases op<;>first|rfl|exact absurd rfl h2
 cases b<;>simp [behindInMarks,e1,e2]
theorem Ka{op:CmpOp}{r:R2}(ho:iH X (compareOp op) r)(ha:PE X a ta)(hb:PE X b tb)(hm:behindInMarks op b=false):PE X (.Compare a [op] [b] pos) (UZ r ta tb):=by
 intro pins s σ H Q I h;exact wpAny_Compare1 (Nq ha hb I h λv u s2 x y H2 I2 rx ry q=>ho pins s2 σ H2 x y v u Q I2 rx ry q) hm
def aaD(t:TE):TT:=λσ H Q=>t σ H λx H'=>∃k,x=.bl k/\Q k H'
theorem ud{op:CmpOp}{r:R2}(ho:iH X (compareOp op) r)(ha:PE X a ta)(hb:PE X b tb)(hm:behindInMarks op b=false):PT X (.Compare a [op] [b] pos) (aaD (UZ r ta tb)):=by
 intro pins s σ H Q I h;refine wpAny_isTrue_Compare1 (ck (ha pins s σ H _ I h) λv s1 ⟨x,H1,I1,r1,q1⟩=>ck (hb pins s1 σ H1 _ I1 q1) λu s2 ⟨y,H2,I2,r2,q2⟩ =>
  ck (ho pins s2 σ H2 x y v u _ I2 r1 r2 q2) λc s3 ⟨z,H3,I3,r3,k,e,q3⟩=>?_) hm
 subst e;cases r3;exact wpAny_truthy_bool ⟨H3,I3,q3⟩
theorem mY:(sizeLine:Nat)<2^63:=by rw[sizeLine_eq];decide
theorem yC:iH X (binaryOp .Add) (λx y H Q=>∃i j,x=.str i/\y=.str j/\i.length+j.length<=sizeLine/\Q (.str (i++j)) H):=by
 intro pins s σ H x y v u Q I rx ry h;obtain⟨i,j,rfl,rfl,hz,q⟩:=h;obtain⟨t,rfl⟩:=rx;obtain⟨t',rfl⟩:=ry;exact add_str (λt' tk=>⟨.str (i++j),H,I.tok _,⟨_,rfl⟩,q⟩) hz
theorem vals1{x:V}{us:List Value}(r:Vals [x] us):∃u,us=[u]/\RelV x u:=by
 cases r with
 | cons r1 r2=>cases r2;exact⟨_,rfl,r1⟩
theorem vals2{x y:V}{us:List Value}(r:Vals [x,y] us):∃u w',us=[u,w']/\RelV x u/\RelV y w':=by
 cases r with
 | cons r1 r2 =>
  cases r2 with
  | cons r3 r4=>cases r4;exact⟨_,_,rfl,r1,r3⟩
theorem Dw:eG X (.builtin "abs") (λxs H Q=>∃i,xs=[.int i]/\Q (.int (if i<0 then -i else i)) H):=by
 intro pins s σ H xs us Q I r h;obtain⟨i,rfl,q⟩:=h;obtain⟨u,rfl,t,rfl⟩:=vals1 r;exact call_abs_int λu tk=>⟨.int (if i<0 then -i else i),H,I.tok _,⟨_,rfl⟩,q⟩
theorem Bp(hc:X.calm=true):eG X (.builtin "max") (λxs H Q=>∃i j,xs=[.int i,.int j]/\Q (.int (if j>i then j else i)) H):=by
 intro pins s σ H xs us Q I r h;obtain⟨i,j,rfl,q⟩:=h;obtain⟨u,w',rfl,⟨t,rfl⟩,⟨t',rfl⟩⟩:=vals2 r;refine max_two_ints (I.ok.hd hc) λh' tk k=>⟨_,H,I.kept k,?_,q⟩
 by_cases hj:j>i
 ·rw[if_pos hj,if_pos hj];exact⟨_,rfl⟩
 ·rw[if_neg hj,if_neg hj];exact⟨_,rfl⟩
theorem Bq(hc:X.calm=true):eG X (.builtin "min") (λxs H Q=>∃i j,xs=[.int i,.int j]/\Q (.int (if j<i then j else i)) H):=by
 intro pins s σ H xs us Q I r h;obtain⟨i,j,rfl,q⟩:=h;obtain⟨u,w',rfl,⟨t,rfl⟩,⟨t',rfl⟩⟩:=vals2 r;refine min_two_ints (I.ok.hd hc) λh' tk k=>⟨_,H,I.kept k,?_,q⟩
 by_cases hj:j<i
 ·rw[if_pos hj,if_pos hj];exact⟨_,rfl⟩
 ·rw[if_neg hj,if_neg hj];exact⟨_,rfl⟩
end
end L2
namespace L2
open PySem PySem.Spec PyProof.Rows
structure ya(h:Heap)(x dx C:Addr)(mA:Str->Option Value):Prop where
 obj:h.get? x=some (PySem.W.instObj C dx)
 ns:h.Ns1 dx mA
 ne:dx≠x
theorem BX{h:Heap}{dx:Addr}{mA:Str->Option Value}(n:h.Ns1 dx mA):∃od,h.get? dx=some od/\∀name,PySem.W.lookIn name od=some (mA name):=by
 obtain⟨o,es,ep,ho,hd,hk,_,hm⟩:=n;refine⟨o,ho,λname=>?_⟩;have e:=hm name;unfold nsFind findBy at e;rw[<- Array.find?_toList]at e;unfold PySem.W.lookIn;rw[hd];dsimp only
 split
 ·rename_i y q
  rw[q]at e;exact congrArg some e
 ·rename_i q
  rw[q]at e;have a:es.toList.any (·.refKey)=false:=by
   rw[List.any_eq_false];intro y hy;obtain⟨z,t,abe⟩:=hk y (Array.mem_toList_iff.mp hy);simp [DictEntry.refKey,abe]
  have a':¬es.toList.any (·.refKey)=true:=by rw[a];exact Bool.false_ne_true
  rw[if_neg a'];exact congrArg some e
theorem ya.look{h:Heap}{x dx C:Addr}{mA:Str->Option Value}(I:ya h x dx C mA):∃od,PySem.W.InstAt h x (PySem.W.instObj C dx) C (some od)/\∀name,PySem.W.lookIn name od=some (mA name):=
 let ⟨od,ho,hl⟩:=BX I.ns
 ⟨od,⟨I.obj,rfl,rfl,ho⟩,hl⟩
section
variable {prog:Program}{w:World}{A:Around}{E:Value->Shared->Prop}{s:Shared}{K:PySem.W.Frag}{x dx C f:Addr}{mA:Str->Option Value}{name:Str}{v:Value}
theorem get_map{expr:Bool}{Q:Value->Shared->Prop}(X:K.In s.heap)(I:ya s.heap x dx C mA)(hg:PySem.W.plainGet K C name=true)(hh:PySem.W.hasDictIn K C=true)
  (ha:PySem.W.findIn K (.ref C) name=some none) (hv:mA name=some v) (Ye:PySem.W.handedIn v=true) (h:Q v {s with toks:=s.toks+1}):
  wpAny (model prog w) A (getAttr (.ref x) name expr) Q E s:=by
 obtain⟨od,J,hl⟩:=I.look;exact PySem.W.get_value X J (PySem.W.plainGet_of hg).1 (PySem.W.findObj_own hh ha rfl (by rw[hl,hv])) Ye h
theorem EY{pl:Sem Bool}{Q:Value×List Value->Shared->Prop}(X:K.In s.heap)(I:ya s.heap x dx C mA)(hg:PySem.W.plainGet K C name=true)
  (hf:PySem.W.findIn K (.ref C) name=some (some (.ref f))) (ht:PySem.W.isFn K (.ref f)=true) (hv:mA name=none) (h:Q (.ref f,[.ref x]) s):
  wpAny (model prog w) A (getMethod (.ref x) name pl) Q E s:=by
 obtain⟨od,J,hl⟩:=I.look;exact PySem.W.method_fn X J (PySem.W.plainGet_of hg).1 (PySem.W.plainGet_of hg).2 hf (beq_iff_eq.mp ht) (by show(PySem.W.lookIn name od).map (·.isSome)=some false;rw[hl,hv];rfl) h
theorem KC{ns:List Str}{Q:Unit->Shared->Prop}(X:K.In s.heap)(I:ya s.heap x dx C mA)
  (hs:PySem.W.findIn K (.ref C) "__setattr__"=some (some (.builtin "object.__setattr__"))) (hp:PySem.W.plainOver K C=true) (ht:PySem.W.takerIn K C name=some none) (hh:PySem.W.hasDictIn K C=true)
  (hw:PySem.Within mA ns) (hsz:ns.length<=sizeLine)
  (h:∀h',ya h' x dx C (λy=>if y=name then some v else mA y)->Heap.SameBut dx s.heap h'->Q () {s with heap:=h',toks:=s.toks+2}):
  wpAny (model prog w) A (setAttr (.ref x) name v) Q E s:=by
 obtain⟨od,J,hl⟩:=I.look;refine PySem.W.set_plain X J hs (PySem.W.osa_open (s:={s with toks:=s.toks+1}) (r:=none) X J hp ht λb=>?_)
 obtain⟨cd,hc,Al⟩:=PySem.W.any_some hh;have hx:s.heap.get? x=some ⟨.ref C,some dx,.plain,#[]⟩:=I.obj;refine wpAny_bind (wpAny_pure (wpAny_bind (wpAny_bind (wpAny_loadPart hx (wpAny_bind (PySem.W.Looks.here (s:={s with toks:=s.toks+1}) (PySem.W.looks_clsIn X hc) ?_))))))
 rw[Al];refine wpAny_pure (a:=some dx) (wpAny_bind (wpAny_pure (wpAny_bind ?_)));refine wpAny_nsSet1 (s:={s with toks:=s.toks+1}) I.ns λh' hn2 CC=>?_
 obtain⟨oD,esD,epD,hoD,hdD,hcD⟩:=hn2.count (PySem.Within.cons name v hw);refine wpAny_bind (wpAny_lookBehind hoD (by rw[hdD];exact pastItsLine_dict (Nat.le_trans hcD (by rw[List.length_cons];omega))) ?_)
 exact wpAny_pure (h _ ⟨(CC.2 _ (Ne.symm I.ne)).trans I.obj,hn2,I.ne⟩ CC)
theorem wK{R:Result->Shared->Prop}{vs:List Value}{kw:List (Str×Value)}(X:K.In s.heap)(hm:PySem.W.makesIn K C=true)
  (hi:PySem.W.findIn K (.ref C) "__init__"=some (some (.ref f))) (hf:PySem.W.typeIn K (.ref f)=some (.type "function"))
  (h:codeAny (model prog w) (A.under (.builtin "type.__call__" ⟨.ref C::vs,kw⟩)) (.call (.ref f) ⟨.ref (s.heap.objs.size+1)::vs,kw⟩) (PySem.W.InitBack (s.heap.objs.size+1) R)
   {s with heap:=(s.heap.push PySem.W.emptyDict).push (PySem.W.instObj C s.heap.objs.size)}):
  codeAny (model prog w) A (.call (.ref C) ⟨vs,kw⟩) R s:=by
 obtain⟨hh,g,d,t,os⟩:=s;exact PySem.W.make_core (PySem.W.makes_of X hm) (PySem.W.looks_findIn X hi) (λself=>PySem.W.bind_fn X self hf) (.inl rfl) h
end
def df(f:Str)(v:V):List (Str×V)->List (Str×V)
 | []=>[(f,v)]
 | (g,x)::r=>if g=f then(g,v)::r else(g,x)::df f v r
theorem nM(f g:Str)(v:V):∀fs:List (Str×V),(df f v fs).lookup g=if g=f then some v else fs.lookup g
 | []=>by
  show List.lookup g [(f,v)]=_
  by_cases h:g=f
  ·have hb:(g==f)=true:=beq_iff_eq.mpr h
   simp only[List.lookup,hb,if_pos h]
  ·have hb:(g==f)=false:=beq_eq_false_iff_ne.mpr h
   simp only[List.lookup,hb,if_neg h]
 | (k,x)::r=>by
  have ih:=nM f g v r;rw[show df f v ((k,x)::r)=(if k=f then(k,v)::r else(k,x)::df f v r)from rfl]
  by_cases hk:k=f
  ·rw[if_pos hk]
   by_cases h:g=k
   ·have hb:(g==k)=true:=beq_iff_eq.mpr h
    simp only[List.lookup,hb,if_pos (h.trans hk)]
   ·have hb:(g==k)=false:=beq_eq_false_iff_ne.mpr h
    simp only[List.lookup,hb,if_neg (λe:g=f=>h (e.trans hk.symm))]
  ·rw[if_neg hk]
   by_cases h:g=k
   ·have hb:(g==k)=true:=beq_iff_eq.mpr h
    simp only[List.lookup,hb,if_neg (λe:g=f=>hk (h.symm.trans e))]
   ·have hb:(g==k)=false:=beq_eq_false_iff_ne.mpr h
    simp only[List.lookup,hb];exact ih
theorem mU(f:Str)(v:V):∀fs:List (Str×V),f∈(df f v fs).map (·.1)/\∀g,g∈fs.map (·.1)->g∈(df f v fs).map (·.1)
 | []=>⟨by simp [df],λg h=>by simp at h⟩
 | (k,x)::r=>by
  obtain⟨i1,i2⟩:=mU f v r;rw[show df f v ((k,x)::r)=(if k=f then(k,v)::r else(k,x)::df f v r)from rfl]
  by_cases hk:k=f
  ·rw[if_pos hk]
   subst hk;exact⟨by simp,λg h=>by simpa using h⟩
  ·rw[if_neg hk]
   refine⟨?_,λg h=>?_⟩
   ·rw[List.map_cons]
    exact List.mem_cons_of_mem _ i1
   ·rw[List.map_cons]at h ⊢
    rcases List.mem_cons.mp h with e|e
    ·exact List.mem_cons.mpr (.inl e)
    ·exact List.mem_cons_of_mem _ (i2 g e)
theorem nJ(f:Str)(v:V):∀fs:List (Str×V),(df f v fs).length<=fs.length+1
 | []=>by simp [df]
 | (k,x)::r=>by
  have ih:=nJ f v r;rw[show df f v ((k,x)::r)=(if k=f then(k,v)::r else(k,x)::df f v r)from rfl]
  by_cases hk:k=f
  ·rw[if_pos hk,List.length_cons,List.length_cons];omega
  ·rw[if_neg hk,List.length_cons,List.length_cons];omega
theorem iR.some_of{v:V}{o:Option Value}(r:iR (some v) o):∃u,o=some u/\RelV v u:=by
 cases o with
 | none=>exact(show False from r).elim
 | some u=>exact⟨u,rfl,r⟩
theorem iR.none_of{o:Option Value}(r:iR none o):o=none:=by
 cases o with
 | none=>rfl
 | some u=>exact(show False from r).elim
theorem BI{v:V}{u:Value}(r:RelV v u):PySem.W.handedIn u=true:=by
 cases v with
 | aU=>cases(show u=Value.none from r);rfl
 | bl b=>cases(show u=Value.bool b from r);rfl
 | int i=>obtain⟨t,e⟩:=(show∃t,u=Value.int i t from r);cases e;rfl
 | str x=>obtain⟨t,e⟩:=(show∃t,u=Value.str x t from r);cases e;rfl
 | byt b=>obtain⟨t,e⟩:=(show∃t,u=Value.bytes b t from r);cases e;rfl
 | Pr b=>obtain⟨t,e⟩:=(show∃t,u=Value.float b t from r);cases e;rfl
 | ref a=>cases(show u=Value.ref a from r);rfl
 | ty n=>cases(show u=Value.type n from r);rfl
section
variable {P:Program}{w:World}{H H':Hp}{h h':Heap}{a C dx:Addr}{fs fs':List (Str×V)}
theorem oF(bc:gf P w H h)(e:H a=some (.ins C dx fs)):∃mA,ya h a dx C mA/\(∀f,iR (fs.lookup f) (mA f))/\PySem.Within mA (fs.map (·.1))/\fs.length<=1000/\H dx=some (.own a):=by
 obtain⟨d,z,ne,ob,mA,n,r,q⟩:=(show bX P w H h a (.ins C dx fs)from bc a _ e)
 exact⟨mA,⟨ob,n,ne⟩,r,q,z,d⟩
end
structure CN(K:PySem.W.Frag)(C:Addr):Prop where
 pg:PySem.W.plainGet K C Str.empty=true
 hd:PySem.W.hasDictIn K C=true
 po:PySem.W.plainOver K C=true
 sa:PySem.W.findIn K (.ref C) "__setattr__"=some (some (.builtin "object.__setattr__"))
theorem CN.get{K:PySem.W.Frag}{C:Addr}(c:CN K C)(f:Str):PySem.W.plainGet K C f=true:=c.pg
def jV(K:PySem.W.Frag)(C:Addr)(f:Str):Prop:=PySem.W.findIn K (.ref C) f=some none
theorem jV.aaG{K:PySem.W.Frag}{C:Addr}{f:Str}(n:jV K C f):PySem.W.takerIn K C f=some none:=by
 unfold PySem.W.takerIn;rw[show PySem.W.findIn K (.ref C) f=some none from n]
 rfl
structure Meth(K:PySem.W.Frag)(C:Addr)(m:Str)(f:Addr):Prop where
 at_:PySem.W.findIn K (.ref C) m=some (some (.ref f))
 fn:PySem.W.isFn K (.ref f)=true
 kp:PySem.W.keepIn K (.ref f)=true
section
variable {X:Cx}{pins:List (Addr×Obj)}{σ:St}{H:Hp}{s:Shared}{a C dx:Addr}{fs:List (Str×V)}{f:Str}{v:V}{A:Around}{E:Value->Shared->Prop}
theorem ym{b:Bool}{Q:Value->Shared->Prop}(I:Inv X pins σ H s)(e:H a=some (.ins C dx fs))(c:CN X.K C)(n:jV X.K C f)(l:fs.lookup f=some v)
  (h:∀u s',Inv X pins σ H s'->RelV v u->Q u s'):wpAny (model X.prog X.w) A (getAttr (.ref a) f b) Q E s:=by
 obtain⟨mA,O,r,_,_,_⟩:=oF I.bc e;obtain⟨u,hu,ru⟩:=iR.some_of (v:=v) (o:=mA f) (by rw[<- l];exact r f)
 exact get_map I.iB O (c.get f) c.hd n hu (BI ru) (h u _ (I.tok _) ru)
theorem j6{m:Str}{g:Addr}{pl:Sem Bool}{Q:Value×List Value->Shared->Prop}(I:Inv X pins σ H s)(e:H a=some (.ins C dx fs))(c:CN X.K C)(k:Meth X.K C m g)(l:fs.lookup m=none)
  (h:Q (.ref g,[.ref a]) s):wpAny (model X.prog X.w) A (getMethod (.ref a) m pl) Q E s:=by
 obtain⟨mA,O,r,_,_,_⟩:=oF I.bc e;have hn:mA m=none:=iR.none_of (by rw[<- l];exact r m)
 exact EY I.iB O (c.get m) k.at_ k.fn hn h
theorem yV{y:V}{u:Value}{Q:Unit->Shared->Prop}(I:Inv X pins σ H s)(e:H a=some (.ins C dx fs))(c:CN X.K C)(n:jV X.K C f)(hl:fs.length<1000)(ry:RelV y u)
  (h:∀s',Inv X pins σ (upd H a (.ins C dx (df f y fs))) s'->Q () s'):wpAny (model X.prog X.w) A (setAttr (.ref a) f u) Q E s:=by
 obtain⟨mA,O,r,wi,_,ho⟩:=oF I.bc e;have hz:(fs.map (·.1)).length<=sizeLine:=by rw[List.length_map,sizeLine_eq];omega
 refine KC I.iB O c.sa c.po n.aaG c.hd wi hz λh' O' sb=>h _ ?_;have hd:∃o,h'.get? dx=some o:=let ⟨o,_,_,e',_⟩:=O'.ns;⟨o,e'⟩;refine I.write (x:=a) (e:=dx) (by rw[e];exact True.intro) (.inr ho) (λb q hb z=>(sb.2 b hb).trans z) hd ?_
 refine⟨by rw[aq O.ne];exact ho,?_,O.ne,O'.obj,_,O'.ns,λg=>?_,λg hg=>?_⟩
 ·have:=nJ f y fs;omega
 ·show iR ((df f y fs).lookup g) (if g=f then some u else mA g)
  rw[nM]
  by_cases q:g=f
  ·rw[if_pos q,if_pos q];exact ry
  ·rw[if_neg q,if_neg q];exact r g
 ·by_cases q:g=f
  ·rw[q];exact(mU f y fs).1
  ·refine(mU f y fs).2 g (wi g λz=>hg ?_)
   show(if g=f then some u else mA g)=none
   rw[if_neg q];exact z
theorem Inv.made(I:Inv X pins σ H s):Inv X pins σ (upd (upd H s.heap.objs.size (.own (s.heap.objs.size+1))) (s.heap.objs.size+1) (.ins C s.heap.objs.size []))
  {s with heap:=(s.heap.push PySem.W.emptyDict).push (PySem.W.instObj C s.heap.objs.size)}:=by
 have e1:(s.heap.push PySem.W.emptyDict).get? s.heap.objs.size=some PySem.W.emptyDict:=Heap.get?_push_size s.heap rfl;have e2:((s.heap.push PySem.W.emptyDict).push (PySem.W.instObj C s.heap.objs.size)).get? (s.heap.objs.size+1)=some (PySem.W.instObj C s.heap.objs.size):=by
  have:=Heap.get?_push_size (s.heap.push PySem.W.emptyDict) (o:=PySem.W.instObj C s.heap.objs.size) rfl
  rwa [Heap.size_push]at this
 have e3:(s.heap.push PySem.W.emptyDict).Ns s.heap.objs.size (λ_=>none):=⟨PySem.W.emptyDict,#[],_,e1,rfl,(λe he=>absurd he (by simp)),λ_=>rfl⟩
 have I1:=I.laid (a:=s.heap.objs.size) (o:=.own (s.heap.objs.size+1)) (h':=s.heap.push PySem.W.emptyDict) (t':=s.toks) (λb u q=>Heap.get?_push_of_some _ q) (Nat.le_refl _) ⟨_,e1⟩;refine I1.laid (a:=s.heap.objs.size+1) (o:=.ins C s.heap.objs.size []) (t':=s.toks) (λb u q=>Heap.get?_push_of_some _ q) (Nat.le_of_eq (Heap.size_push _ _)) ?_;have ne:s.heap.objs.size≠s.heap.objs.size+1:=Nat.ne_of_lt (Nat.lt_succ_self _);refine⟨by rw[aq ne,aA],Nat.zero_le _,ne,e2,λ_=>none,(Heap.Ns1.of_empty e3).at λo q=>Heap.get?_push_of_some _ q,λ_=>True.intro,λy hy=>absurd rfl hy⟩
theorem IG{prog:Program}{w:World}{env:Env}{e:Expr}{f:Str}{pos:Pos}{s:Shared}{Q:Value->Shared->Prop}(hb:attributeBase e f env (eval e env)=eval e env)
  (h:wpAny (model prog w) A (eval e env) (λo bP=>wpAny (model prog w) A (getAttr o f true) Q E bP) E s):wpAny (model prog w) A (eval (.Attribute e f pos) env) Q E s:=
 Attribute_any_ h (by rw[arm_eval_Attribute,hb])
end
def ab0(K:PySem.W.Frag)(ta:TE)(f:Str):TE:=λσ H Q=>ta σ H λx H1=>∃a C dx fs v,x=.ref a/\H1 a=some (.ins C dx fs)/\CN K C/\jV K C f/\fs.lookup f=some v/\Q v H1
def abY(K:PySem.W.Frag)(ta tv:TE)(f:Str):TS:=λD σ H=>tv σ H λy H1=>ta σ H1 λx H2=>∃a C dx fs,x=.ref a/\H2 a=some (.ins C dx fs)/\CN K C/\jV K C f/\fs.length<1000 /\
 D.nx σ (upd H2 a (.ins C dx (df f y fs)))
section
variable {X:Cx}{o e value:Expr}{f:Str}{pos pos' zt:Pos}{ta tv:TE}
theorem tW(he:PE X e ta)(hb:attributeBase e f X.env (eval e X.env)=eval e X.env):PE X (.Attribute e f pos) (ab0 X.K ta f):=by
 intro pins s σ H Q I h;refine IG hb (ck (he pins s σ H _ I h) λu s1 ⟨x,H1,I1,rx,a,C,dx,fs,v,ex,ea,c,n,l,q⟩=>?_);subst ex;obtain rfl:u=Value.ref a:=rx;exact ym I1 ea c n l λu' s2 I2 ru=>⟨v,H1,I2,ru,q⟩
theorem ua(ha:PE X o ta)(hv:PE X value tv)(hs:swapsWith value (some (.Attribute o f pos')) pos.line X.env=pure false):PS X (.Assign [.Attribute o f pos'] value pos) (abY X.K ta tv f):=by
 intro pins s σ H D I h;refine plainObj_wpAny_Assign_Attribute (ck (hv pins s σ H _ I h) λu s1 ⟨y,H1,I1,ry,q⟩=>ck (ha pins s1 σ H1 _ I1 q) λov s2 ⟨x,H2,I2,rx,a,C,dx,fs,ex,ea,c,n,l,q2⟩=>?_) hs;subst ex;obtain rfl:ov=Value.ref a:=rx;exact yV I2 ea c n l ry λs3 I3=>⟨σ,_,I3,q2⟩
def Km:V->V->Hp->VK->Prop:=λx y H Q=>∃i j,x=.int i/\y=.int j/\Q (.int (i+j)) H
end
section
variable {X:Cx}{pins:List (Addr×Obj)}{σ:St}{H:Hp}{s:Shared}{A:Around}{E:Value->Shared->Prop}{Q:Value->Shared->Prop}{c:Value}{b:Bool}
inductive mD (K:PySem.W.Frag)(H:Hp):V->Value->Prop where
 | aU:mD K H .aU (.type "NoneType")
 | bl (x:Bool):mD K H (.bl x) (.type "bool")
 | int (i:Int):mD K H (.int i) (.type "int")
 | str (x:Str):mD K H (.str x) (.type "str")
 | Pr (x:UInt64):mD K H (.Pr x) (.type "float")
 | lst {a:Addr} {xs:List V} (e:H a=some (.lst xs)):mD K H (.ref a) (.type "list")
 | tH {a:Addr} {o:Obj} {xs:List V} (e:H a=some (.tH o (.lst xs))):mD K H (.ref a) (.type "list")
 | tup {a:Addr} {xs:List V} (e:H a=some (.tup xs)):mD K H (.ref a) (.type "tuple")
 | dK {a:Addr} {kvs:List (Key×V)} (e:H a=some (.dK kvs)):mD K H (.ref a) (.type "dict")
 | dT {a:Addr} {kvs:List (List Key×V)} (e:H a=some (.dT kvs)):mD K H (.ref a) (.type "dict")
 | ins {a C dx:Addr} {fs:List (Str×V)} (e:H a=some (.ins C dx fs)) (cl:CN K C) (ha:PySem.W.findIn K (.ref C) "__class__"=some (some (.builtin "object.__class__")))
   (hn:PySem.W.specialIn K (.builtin "object.__class__") "__get__"=some (some (.builtin "getset_descriptor.__get__"))) (htk:PySem.W.takesIn K (.builtin "object.__class__")=some true)
   (hm:PySem.W.mroIn K C (.type "object")=some true):mD K H (.ref a) (.ref C)
theorem BQ{x:V}{u t:Value}(I:Inv X pins σ H s)(rx:RelV x u)(ty:mD X.K H x t)(e:PySem.W.kitOne X.K t c=some b)(h:∀tk,Q (.bool b) {s with toks:=tk}):
  wpAny (model X.prog X.w) A (call (.builtin "isinstance") [u,c]) Q E s:=by
 cases ty with
 | aU=>cases(show u=Value.none from rx);exact PySem.W.kia_one PySem.W.kitx_none I.iB True.intro e (λz=>nomatch z) h
 | bl y=>cases(show u=Value.bool y from rx);exact PySem.W.kia_one PySem.W.kitx_bool I.iB True.intro e (λz=>nomatch z) h
 | int i=>obtain⟨t,q⟩:=(show∃t,u=Value.int i t from rx);cases q;exact PySem.W.kia_one PySem.W.kitx_int I.iB True.intro e (λz=>nomatch z) h
 | str y=>obtain⟨t,q⟩:=(show∃t,u=Value.str y t from rx);cases q;exact PySem.W.kia_one PySem.W.kitx_str I.iB True.intro e (λz=>nomatch z) h
 | Pr y=>obtain⟨t,q⟩:=(show∃t,u=Value.float y t from rx);cases q;exact PySem.W.kia_one PySem.W.kitx_float I.iB True.intro e (λz=>nomatch z) h
 | @lst a xs ea =>
  cases(show u=Value.ref a from rx)
  obtain⟨_,_,n,_,h1⟩:=(show bX X.prog X.w H s.heap a (.lst xs)from I.bc a _ ea)
  exact PySem.W.kia_one PySem.W.kitx_list I.iB ⟨_,h1,rfl⟩ e (λz=>nomatch z) h
 | @tH a ob xs ea =>
  cases(show u=Value.ref a from rx)
  obtain⟨_,_,_,n,_,h1⟩:=(show bX X.prog X.w H s.heap a (.tH ob (.lst xs))from I.bc a _ ea)
  exact PySem.W.kia_one PySem.W.kitx_list I.iB ⟨_,h1,rfl⟩ e (λz=>nomatch z) h
 | @tup a xs ea =>
  cases(show u=Value.ref a from rx)
  obtain⟨_,_,_,p⟩:=(show bX X.prog X.w H s.heap a (.tup xs)from I.bc a _ ea)
  obtain⟨o,h1,h2,_⟩:=p;exact PySem.W.kia_one PySem.W.kitx_tuple I.iB ⟨o,h1,h2⟩ e (λz=>nomatch z) h
 | @dK a kvs ea =>
  cases(show u=Value.ref a from rx)
  obtain⟨_,_,vs,_,p⟩:=(show bX X.prog X.w H s.heap a (.dK kvs)from I.bc a _ ea)
  obtain⟨o,es,ep,h1,h2,_⟩:=p;exact PySem.W.kia_one PySem.W.kitx_dict I.iB ⟨o,h1,h2.1⟩ e (λz=>nomatch z) h
 | @dT a kvs ea =>
  cases(show u=Value.ref a from rx)
  obtain⟨_,_,xs,_,o,es,ep,h1,h2,_⟩:=(show bX X.prog X.w H s.heap a (.dT kvs)from I.bc a _ ea)
  exact PySem.W.kia_one PySem.W.kitx_dict I.iB ⟨o,h1,h2.1⟩ e (λz=>nomatch z) h
 | @ins a C dx fs ea cl ha hn htk hm =>
  cases(show u=Value.ref a from rx)
  obtain⟨mA,O,_⟩:=oF I.bc ea;obtain⟨od,J,_⟩:=O.look;exact PySem.W.kia_one (PySem.W.kitx_own (cl.get _) cl.hd ha hn htk hm) I.iB J e (λz=>nomatch z) h
end
end L2
namespace L2
open PySem PySem.Spec PyProof.Rows
structure fk(k:Nat)(A:Around):Prop where
 hd:A.handled=none
 dp:A.depth+3*k+5<recursionLimit
 un:A.units+16*k+200<cLine
theorem fk.mono{j k:Nat}{A:Around}(r:fk k A)(h:j<=k):fk j A:=⟨r.hd,by have:=r.dp;omega,by have:=r.un;omega⟩
theorem fk.deeper{k:Nat}{A:Around}(r:fk (k+1) A)(env:Env):fk k (A.deeper env):=
 ⟨r.hd,by have:=r.dp;show A.depth+1+3*k+5<_;omega,by have:=r.un;show A.units+3+16*k+200<_;omega⟩
theorem yx{A:Around}{C:Addr}{us:List Value}{kw:List (Str×Value)}:(A.under (.builtin "type.__call__" ⟨.ref C::us,kw⟩)).depth=A.depth+1:=by
 first|rfl|simp [Around.under,Code.weight,Code.isCreation,Code.isGuard,Code.isCaller,Code.frames,Code.isFrame,guardIds]
theorem yy{A:Around}{C:Addr}{us:List Value}{kw:List (Str×Value)}:(A.under (.builtin "type.__call__" ⟨.ref C::us,kw⟩)).units=A.units+1:=by
 first|rfl|simp [Around.under,Code.cUnits,Code.frames,Code.isFrame]
theorem fk.make{k:Nat}{A:Around}(r:fk (k+1) A)(C:Addr)(us:List Value)(kw:List (Str×Value)):fk k (A.under (.builtin "type.__call__" ⟨.ref C::us,kw⟩)):=
 ⟨r.hd,by have:=r.dp;rw[yx];omega,by have:=r.un;rw[yy];omega⟩
theorem fk.depth{k:Nat}{A:Around}(r:fk k A):A.depth<recursionLimit:=by have:=r.dp;omega
def qS:TA:=λ_ H Q=>Q [] H
def jS(ta:TE)(tr:TA):TA:=λσ H Q=>ta σ H λx H1=>tr σ H1 λxs H2=>Q (x::xs) H2
section
variable {X:Cx}{e:Expr}{es:List Expr}{te:TE}{t:TA}{pos:Pos}
theorem hG:PA X [] qS:=λ_ _ _ _ H Q I h=>Calls.spliced_nil ⟨[],H,I,.nil,h⟩
theorem cL(ha:PE X e te)(hr:PA X es t)(hs:starEach (e::es) X.env=(false,eval e X.env)::starEach es X.env:=by rfl):PA X (e::es) (jS te t):=by
 intro pos pins s σ H Q I h;rw[hs];show wpAny _ _ (spliced ((false,eval e X.env)::backTo pos (starEach es X.env))) _ _ s;refine Calls.spliced_cons (ck (ha pins s σ H _ I h) λu s1 ⟨x,H1,I1,r1,q1⟩=>?_);exact ck (hr pos pins s1 σ H1 _ I1 q1) λus s2 ⟨xs,H2,I2,r2,q2⟩=>⟨x::xs,H2,I2,.cons r1 r2,q2⟩
def ab5(t:TA):TE:=λσ H Q=>t σ H λxs H1=>xs.length<=sizeLine/\∀p,H1 p=none->Q (.ref p) (upd H1 p (.tup xs))
def aay(t:TA):TE:=λσ H Q=>t σ H λxs H1=>xs.length<=sizeLine/\∀p,H1 p=none->Q (.ref p) (upd H1 p (.lst xs))
theorem SM{x1}(h:PA X es t):PE X (.Tuple es x1 pos) (ab5 t):=by
 intro pins s σ H Q I hq;refine wpAny_Tuple_spliced (ck (h pos pins s σ H _ I hq) λus s1 ⟨xs,H1,I1,r,z,q⟩=>⟨by rw[<- r.length];exact z,?_⟩)
 have hf:H1 s1.heap.objs.size=none:=I1.bc.fresh (Nat.le_refl _);refine⟨.ref s1.heap.objs.size,upd H1 s1.heap.objs.size (.tup xs),I1.laid (t':=s1.toks) (λb u e=>Heap.get?_push_of_some _ e) (Nat.le_refl _) ?_,rfl,q _ hf⟩;exact⟨z,us,r,⟨_,Heap.get?_push_size _ rfl,rfl,_,rfl⟩⟩
theorem tX(h:PA X es t):PE X (.List es pos) (aay t):=by
 intro pins s σ H Q I hq;refine wpAny_List_spliced (ck (h pos pins s σ H _ I hq) λus s1 ⟨xs,H1,I1,r,z,q⟩=>⟨by rw[<- r.length];exact z,?_⟩)
 have hf:H1 s1.heap.objs.size=none:=I1.bc.fresh (Nat.le_refl _);refine⟨.ref s1.heap.objs.size,upd H1 s1.heap.objs.size (.lst xs),I1.laid (t':=s1.toks) (λb u e=>Heap.get?_push_of_some _ e) (Nat.le_refl _) ?_,rfl,q _ hf⟩;exact⟨z,us,0,r,Heap.get?_push_size _ rfl⟩
end
abbrev Sp:=List V->Hp->VK->XK->Prop
abbrev zG:=List Env->Hp->Shared->XK->Value->Shared->Prop
structure sA(P:Program)(w:World)(K:PySem.W.Frag)(mg:Str->Option Value)(base:Heap)(A:Around)(outer:List Env)(s:Shared)(H:Hp):Prop where
 frames:A.frames=some outer
 mod:Mod K mg base
 bs:∀b o,base.get? b=some o->s.heap.get? b=some o/\H b=none
 yh:base.objs.size<=s.heap.objs.size
 iX:s.heap.FunFrames base outer
 Cz:∀b∈kF outer,H b=none
 bc:gf P w H s.heap
 bare:AllBare s.gens
def CE(outer:List Env)(P:Program)(w:World)(H:Hp)(s:Shared)(Q:VK)(u:Value)(s':Shared):Prop:=
 ∃v H',s'.os=s.os/\AllBare s'.gens/\Un (kF outer) [] H H' s.heap s'.heap/\gf P w H' s'.heap/\RelV v u/\Q v H'
def CR(CX:zG)(outer:List Env)(P:Program)(w:World)(H:Hp)(s:Shared)(Q:VK)(E:XK)(r:Result)(s':Shared):Prop:=
 match r with
 | .ok (.ret u)=>CE outer P w H s Q u s'
 | .ok _=>False
 | .error e=>CX outer H s E e s'
structure bW(P:Program)(w:World)(K:PySem.W.Frag)(mg:Str->Option Value)(base:Heap)(CX:zG)(k:Nat)(f:Addr)(fd:FuncData)(ps:List Str)(sp:Sp):Prop where
 len:∀vs H Q E,sp vs H Q E->vs.length=ps.length
 run:∀(A:Around) (outer:List Env) (s:Shared) (H:Hp) (args:Args) (us:List Value) (vs:List V) (Q:VK) (E:XK),fk k A->sA P w K mg base A outer s H->BindsTo s fd args (ps.zip us)->Vals vs us->sp vs H Q E ->
  codeAny (model P w) A (.call (.ref f) args) (CR CX outer P w H s Q E) s
theorem bW.mono{P:Program}{w:World}{K:PySem.W.Frag}{mg:Str->Option Value}{base:Heap}{CX:zG}{j k:Nat}{f:Addr}{fd:FuncData}{ps:List Str}{sp:Sp}(F:bW P w K mg base CX j f fd ps sp)(h:j<=k):
  bW P w K mg base CX k f fd ps sp:=⟨F.len,λA outer s H args us vs Q E hr=>F.run A outer s H args us vs Q E (hr.mono h)⟩
theorem bW.imp{P:Program}{w:World}{K:PySem.W.Frag}{mg:Str->Option Value}{base:Heap}{CX:zG}{k:Nat}{f:Addr}{fd:FuncData}{ps:List Str}{sp sp':Sp}(F:bW P w K mg base CX k f fd ps sp)
  (h:∀vs H Q E,sp' vs H Q E->sp vs H Q E):bW P w K mg base CX k f fd ps sp':=
 ⟨λvs H Q E q=>F.len vs H Q E (h _ _ _ _ q),λA outer s H args us vs Q E hr he hb hv hs=>F.run A outer s H args us vs Q E hr he hb hv (h _ _ _ _ hs)⟩
theorem sA.make{P:Program}{w:World}{K:PySem.W.Frag}{mg:Str->Option Value}{base:Heap}{A:Around}{outer:List Env}{s:Shared}{H:Hp}(e:sA P w K mg base A outer s H)(C:Addr)(us:List Value)(kw:List (Str×Value)):
  sA P w K mg base (A.under (.builtin "type.__call__" ⟨.ref C::us,kw⟩)) outer s H:=⟨by first|exact e.frames | (simpa [Around.under,Code.envs,Code.isFrame,pushEnvs]using e.frames),e.mod,e.bs,e.yh,e.iX,e.Cz,e.bc,e.bare⟩
section
variable {X:Cx}{pins:List (Addr×Obj)}{σ:St}{H:Hp}{s s':Shared}
theorem Inv.Bu(I:Inv X pins σ H s):sA X.prog X.w X.K X.mg X.base X.A X.stack s H:=
 ⟨I.ok.frames,I.ok.mod,I.bs,Nat.le_trans I.ok.yh I.sz,I.stack,I.ml,I.bc,I.bare⟩
theorem Inv.after{Q:VK}{u:Value}(I:Inv X pins σ H s)(h:CE X.stack X.prog X.w H s Q u s'):EP X pins σ Q u s':=by
 obtain⟨v,H',os,bare,un,bc,r,q⟩:=h;obtain⟨hh,g,d,t,os'⟩:=s';obtain rfl:os'=s.os:=os;exact⟨v,H',I.call (h':=hh) (g':=g) (d':=d) (t':=t) (ch:=[]) un bc bare (λb z=>absurd z (by simp)),r,q⟩
end
def aau(sp:Sp)(dvs:List V)(E:XK)(t:TA):TE:=λσ H Q=>t σ H λvs H1=>sp (vs++dvs) H1 Q E
def sr(C:Addr)(m:Str)(sp:Sp)(dvs:List V)(E:XK)(ta:TE)(t:TA):TE:=λσ H Q=>ta σ H λx H1=>∃a dx fs,x=.ref a/\H1 a=some (.ins C dx fs)/\fs.lookup m=none /\
 t σ H1 λvs H2=>sp (x::(vs++dvs)) H2 Q E
def aaz(C:Addr)(sp:Sp)(dvs:List V)(E:XK)(t:TA):TE:=λσ H Q=>t σ H λvs H1=>∀x dx,H1 x=none->H1 dx=none->dx≠x ->
 sp (.ref x::(vs++dvs)) (upd (upd H1 dx (.own x)) x (.ins C dx [])) (λv H2=>v=.aU/\Q (.ref x) H2) E
def Binds(K:PySem.W.Frag)(fd:FuncData)(ps:List Str)(ds:List Value):Prop:=
 ∀(s:Shared) (us:List Value),K.In s.heap->(us++ds).length=ps.length->BindsTo s fd ⟨us,[]⟩ (ps.zip (us++ds))
theorem Binds.all{K:PySem.W.Frag}{fd:FuncData}{ps:List Str}(h:∀us:List Value,us.length=ps.length->bindArgs fd ⟨us,[]⟩=pure (ps.zip us)):Binds K fd ps []:=λs us _ hl=>by
 rw[List.append_nil]at hl ⊢;exact .of_eq (h us hl)
def Passes(CX:zG)(X:Cx)(E:XK):Prop:=∀(pins:List (Addr×Obj)) (σ:St) (H:Hp) (s:Shared) (e:Value) (s':Shared),Inv X pins σ H s->CX X.stack H s E e s'->X.xe e s'
section
variable {X:Cx}{CX:zG}{k:Nat}{f C:Addr}{fd:FuncData}{ps:List Str}{sp:Sp}{dvs:List V}{ds:List Value}{E:XK}{x m:Str}{p pos apos:Pos}{e o:Expr}{es:List Expr}{ta:TE}{t:TA}
theorem yS{pins:List (Addr×Obj)}{σ:St}{H:Hp}{s:Shared}{Q:VK}{us:List Value}{vs:List V}(F:bW X.prog X.w X.K X.mg X.base CX k f fd ps sp)(hr:fk k X.A)(hb:Binds X.K fd ps ds)(hd:Vals dvs ds)(hx:Passes CX X E)
  (I:Inv X pins σ H s) (r:Vals vs us) (h:sp (vs++dvs) H Q E):wpAny (model X.prog X.w) X.A (call (.ref f) us) (EP X pins σ Q) X.xe s:=by
 have r2:Vals (vs++dvs) (us++ds):=r.append hd;have hl:(us++ds).length=ps.length:=by rw[<- r2.length];exact F.len _ _ _ _ h
 refine wpAny_call (codeAny_mono (F.run X.A X.stack s H ⟨us,[]⟩ (us++ds) (vs++dvs) Q E hr I.Bu (hb s us I.iB hl) r2 h) λr s' hq=>?_);cases r with
 | error e=>exact hx pins σ H s e s' I hq
 | ok fl =>
  cases fl with
  | ret u=>exact I.after hq
  | next=>exact False.elim hq
  | brk=>exact False.elim hq
  | cont=>exact False.elim hq
theorem oN(F:bW X.prog X.w X.K X.mg X.base CX k f fd ps sp)(hr:fk k X.A)(hg:Gl X x)(hm:X.mg x=some (.ref f))(hk:PySem.W.keepIn X.K (.ref f)=true)(hb:Binds X.K fd ps ds)(hd:Vals dvs ds)(hx:Passes CX X E)
  (ha:PA X (e::es) t) (iZ:(x==("__debug__":Str))=false:=by decide) (he:starEach (e::es) X.env=(false,eval e X.env)::starEach es X.env:=by rfl) (eY:(backTo pos (starEach es X.env)).any (·.1)=false:=by rfl):
  PE X (.Call (.Name x p) (e::es) [] pos) (aau sp dvs E t):=by
 intro pins s σ H Q I h;refine wpAny_Call_Name_kw (fO I hg hm ?_ iZ);refine PySem.W.callWith_K (h₀:=X.base) I.ok.mod.wF hk (ck (ha pos pins s σ H _ I h) λus s1 ⟨vs,H1,I1,r,q⟩=>⟨I1.iB,?_⟩) he eY;exact yS F hr hb hd hx I1 r q
theorem AO{pl:Sem Bool}(he:PE X o ta)(c:CN X.K C)(hm:Meth X.K C m f)(F:bW X.prog X.w X.K X.mg X.base CX k f fd ps sp)(hr:fk k X.A)(hb:Binds X.K fd ps ds)(hd:Vals dvs ds)(hx:Passes CX X E)(ha:PA X (e::es) t)
  (pB:starEach (e::es) X.env=(false,eval e X.env)::starEach es X.env:=by rfl) (eY:(backTo pos (starEach es X.env)).any (·.1)=false:=by rfl)
  (ht:eval (.Call (.Attribute o m apos) (e::es) [] pos) X.env=(do
   let ov <- eval o X.env
   standAt apos.atName
   let (f,first) <- holding [ov] (getMethod ov m pl)
   callWith pos f first (backTo pos (starEach (e::es) X.env)) (backToKw pos (keywordEach [] X.env))):=by rfl):
  PE X (.Call (.Attribute o m apos) (e::es) [] pos) (sr C m sp dvs E ta t):=by
 intro pins s σ H Q I h;refine PySem.W.methodCall_KW (pl:=pl) (ck (he pins s σ H _ I h) λu s1 ⟨x,H1,I1,rx,a,dx,fs,ex,ea,l,q⟩=>?_) ht;subst ex;obtain rfl:u=Value.ref a:=rx;refine j6 I1 ea c hm l ?_;refine PySem.W.callWith_K (first:=[.ref a]) (h₀:=X.base) I.ok.mod.wF hm.kp (ck (ha pos pins s1 σ H1 _ I1 q) λus s2 ⟨vs,H2,I2,r,q2⟩=>⟨I2.iB,?_⟩) pB eY
 exact yS (us:=.ref a::us) (vs:=.ref a::vs) F hr hb hd hx I2 (.cons rfl r) q2
theorem Gh{pl:Sem Bool}(he:PE X o ta)(c:CN X.K C)(hm:Meth X.K C m f)(F:bW X.prog X.w X.K X.mg X.base CX k f fd ps sp)(hr:fk k X.A)(hb:Binds X.K fd ps ds)(hd:Vals dvs ds)(hx:Passes CX X E)
  (ht:eval (.Call (.Attribute o m apos) [] [] pos) X.env=(do
   let ov <- eval o X.env
   standAt apos.atName
   let (f,first) <- holding [ov] (getMethod ov m pl)
   callWith pos f first (backTo pos (starEach [] X.env)) (backToKw pos (keywordEach [] X.env))):=by rfl):
  PE X (.Call (.Attribute o m apos) [] [] pos) (sr C m sp dvs E ta qS):=by
 intro pins s σ H Q I h;refine PySem.W.methodCall_KW (pl:=pl) (ck (he pins s σ H _ I h) λu s1 ⟨x,H1,I1,rx,a,dx,fs,ex,ea,l,q⟩=>?_) ht;subst ex;obtain rfl:u=Value.ref a:=rx;refine j6 I1 ea c hm l ?_;exact PySem.W.callWith_K0 (first:=[.ref a]) I1.iB hm.kp (yS (us:=[.ref a]) (vs:=[.ref a]) F hr hb hd hx I1 (.cons rfl .nil) q)
structure Mk(K:PySem.W.Frag)(C f:Addr):Prop where
 makes:PySem.W.makesIn K C=true
 init:PySem.W.findIn K (.ref C) "__init__"=some (some (.ref f))
 fn:PySem.W.isFn K (.ref f)=true
 kp:PySem.W.keepIn K (.ref C)=true
theorem GI{pins:List (Addr×Obj)}{σ:St}{H:Hp}{s:Shared}{Q:VK}{us:List Value}{vs:List V}(M:Mk X.K C f)(F:bW X.prog X.w X.K X.mg X.base CX k f fd ps sp)(hr:fk (k+1) X.A)(hb:Binds X.K fd ps ds)(hd:Vals dvs ds)
  (hx:Passes CX X E) (I:Inv X pins σ H s) (r:Vals vs us)
  (h:∀x dx,H x=none->H dx=none->dx≠x->sp (.ref x::(vs++dvs)) (upd (upd H dx (.own x)) x (.ins C dx [])) (λv H2=>v=.aU/\Q (.ref x) H2) E):
  wpAny (model X.prog X.w) X.A (call (.ref C) us) (EP X pins σ Q) X.xe s:=by
 have hq:=h (s.heap.objs.size+1) s.heap.objs.size (I.bc.fresh (Nat.le_succ _)) (I.bc.fresh (Nat.le_refl _)) (Nat.ne_of_lt (Nat.lt_succ_self _));have I2:=Inv.made (C:=C) I;have r2:Vals (V.ref (s.heap.objs.size+1)::(vs++dvs)) (Value.ref (s.heap.objs.size+1)::(us++ds)):=.cons rfl (r.append hd);have hl:(Value.ref (s.heap.objs.size+1)::us++ds).length=ps.length:=by
  have e:=r2.length;rw[F.len _ _ _ _ hq]at e;exact e.symm
 refine wpAny_call (wK (f:=f) I.iB M.makes M.init (beq_iff_eq.mp M.fn) (codeAny_mono (F.run _ X.stack _ _ ⟨Value.ref (s.heap.objs.size+1)::us,[]⟩ (Value.ref (s.heap.objs.size+1)::(us++ds)) _ _ E (hr.make C us [])
  (I2.Bu.make C us []) (hb _ (Value.ref (s.heap.objs.size+1)::us) I2.iB hl) r2 hq) λr s' Yb=>?_))
 cases r with
 | error e=>exact hx pins σ _ _ e s' I2 Yb
 | ok fl =>
  cases fl with
  | ret u =>
   obtain⟨v,H',I3,rv,ev,q3⟩:=I2.after Yb;subst ev;exact⟨rv,⟨V.ref (s.heap.objs.size+1),H',I3,rfl,q3⟩⟩
  | next=>exact False.elim Yb
  | brk=>exact False.elim Yb
  | cont=>exact False.elim Yb
theorem Kc(M:Mk X.K C f)(F:bW X.prog X.w X.K X.mg X.base CX k f fd ps sp)(hr:fk (k+1) X.A)(hg:Gl X x)(hm:X.mg x=some (.ref C))(hb:Binds X.K fd ps ds)(hd:Vals dvs ds)(hx:Passes CX X E)
  (ha:PA X (e::es) t) (iZ:(x==("__debug__":Str))=false:=by decide) (he:starEach (e::es) X.env=(false,eval e X.env)::starEach es X.env:=by rfl) (eY:(backTo pos (starEach es X.env)).any (·.1)=false:=by rfl):
  PE X (.Call (.Name x p) (e::es) [] pos) (aaz C sp dvs E t):=by
 intro pins s σ H Q I h;refine wpAny_Call_Name_kw (fO I hg hm ?_ iZ);refine PySem.W.callWith_K (h₀:=X.base) I.ok.mod.wF M.kp (ck (ha pos pins s σ H _ I h) λus s1 ⟨vs,H1,I1,r,q⟩=>⟨I1.iB,?_⟩) he eY;exact GI M F hr hb hd hx I1 r q
end
def PK(X:Cx)(Yx:List Keyword)(t:TA):Prop:=
 ∀(pos:Pos) (pins:List (Addr×Obj)) (s:Shared) (σ:St) (H:Hp) (Q:List V->Hp->Prop),Inv X pins σ H s->t σ H Q->wpAny (model X.prog X.w) X.A (evalAll ((backToKw pos (keywordEach Yx X.env)).map (·.2))) (AP X pins σ Q) X.xe s
section
variable {X:Cx}{CX:zG}{k:Nat}{f C:Addr}{fd:FuncData}{ps ks:List Str}{sp:Sp}{E:XK}{x m:Str}{p pos apos abC:Pos}{e o:Expr}{es:List Expr}{Yx:List Keyword}{te ta:TE}{t tk:TA}{nm:Option Str}
theorem SW:PK X [] qS:=λ_ _ _ _ H Q I h=>wpAny_evalAll_nil ⟨[],H,I,.nil,h⟩
theorem Kf(ha:PE X e te)(hr:PK X Yx t):PK X (⟨nm,e,abC⟩::Yx) (jS te t):=by
 intro pos pins s σ H Q I h;show wpAny _ _ (evalAll ((do let v <- eval e X.env;standAt pos;pure v)::(backToKw pos (keywordEach Yx X.env)).map (·.2))) _ _ s
 refine wpAny_evalAll_cons (wpAny_bind (ck (ha pins s σ H _ I h) λu s1 ⟨x,H1,I1,r1,q1⟩=>wpAny_bind (wpAny_standAt (wpAny_pure ?_))));exact ck (hr pos pins s1 σ H1 _ I1 q1) λus s2 ⟨xs,H2,I2,r2,q2⟩=>⟨x::xs,H2,I2,.cons r1 r2,q2⟩
variable {g:List Value->List Value->List Value}{gV:List V->List V->List V}
end
structure aC(N P:List Str)(sc:Scope):Prop where
 kind:sc.kind=.function
 co:sc.isCoroutine=false
 gen:sc.isGenerator=false
 nd:N.Nodup
 pre:N.take P.length=P
 par:∀x∈P,sc.names.lookup x=some .local\/sc.names.lookup x=some .cell
 QX:∀y∈sc.names,y.2≠.free
theorem rk{kindOf:Str->Option NameKind}{x:Str}:∀ {binds:List (Str×Value)} {m:Str->Option Value},(∀v,(x,v)∉binds)->bindL kindOf binds m x=m x
 | [],_,_=>rfl
 | (n,v)::r,m,h=>by
  unfold bindL;rw[rk λw hw=>h w (List.mem_cons_of_mem _ hw)]
  split
  ·have:x≠n:=by rintro rfl;exact h v List.mem_cons_self
   simp [this]
  ·rfl
theorem qZ{kindOf:Str->Option NameKind}{x:Str}:∀ {binds:List (Str×Value)} {m:Str->Option Value},(∀v,(x,v)∉binds)->bindC kindOf binds m x=m x
 | [],_,_=>rfl
 | (n,v)::r,m,h=>by
  unfold bindC;rw[qZ λw hw=>h w (List.mem_cons_of_mem _ hw)]
  split
  ·rfl
  ·have:x≠n:=by rintro rfl;exact h v List.mem_cons_self
   simp [this]
theorem rh{kindOf:Str->Option NameKind}{x:Str}{v:Value}:∀ {P:List Str} {vs:List Value} {i:Nat} {m:Str->Option Value},P.Nodup->P[i]?=some x->vs[i]?=some v->kindOf x=some .local ->
  bindL kindOf (P.zip vs) m x=some v
 | [],_,_,_,_,h,_,_=>by simp at h
 | _::_,[],_,_,_,_,h,_=>by simp at h
 | p::P,w::vs,0,m,nd,h1,h2,hk=>by
  simp at h1 h2;subst h1;subst h2;show bindL kindOf ((p,w)::P.zip vs) m p=_;unfold bindL;rw[rk λv hv=>(List.nodup_cons.mp nd).1 (List.of_mem_zip hv).1,if_pos hk];simp
 | p::P,w::vs,i+1,m,nd,h1,h2,hk=>by
  show bindL kindOf ((p,w)::P.zip vs) m x=_;unfold bindL;exact rh (i:=i) (List.nodup_cons.mp nd).2 (by simpa using h1) (by simpa using h2) hk
theorem qY{kindOf:Str->Option NameKind}{x:Str}{v:Value}:∀ {P:List Str} {vs:List Value} {i:Nat} {m:Str->Option Value},P.Nodup->P[i]?=some x->vs[i]?=some v->kindOf x≠some .local ->
  bindC kindOf (P.zip vs) m x=some v
 | [],_,_,_,_,h,_,_=>by simp at h
 | _::_,[],_,_,_,_,h,_=>by simp at h
 | p::P,w::vs,0,m,nd,h1,h2,hk=>by
  simp at h1 h2;subst h1;subst h2;show bindC kindOf ((p,w)::P.zip vs) m p=_;unfold bindC;rw[qZ λv hv=>(List.nodup_cons.mp nd).1 (List.of_mem_zip hv).1,if_neg hk];simp
 | p::P,w::vs,i+1,m,nd,h1,h2,hk=>by
  show bindC kindOf ((p,w)::P.zip vs) m x=_;unfold bindC;exact qY (i:=i) (List.nodup_cons.mp nd).2 (by simpa using h1) (by simpa using h2) hk
def start(N:List Str)(vs:List V):St:=vs.map some++List.replicate (N.length-vs.length) none
def kz(CX:zG)(P:Program)(w:World)(K:PySem.W.Frag)(mg:Str->Option Value)(base:Heap)(N:List Str)(qual:Str)(scope:Scope)(f:Addr)(cd:Value)(A:Around)(outer:List Env)(s:Shared)(H:Hp)(E:XK):Cx where
 prog:=P
 w:=w
 K:=K
 mg:=mg
 base:=base
 A:=A.deeper (envOfC qual scope s.heap.objs.size f cd)
 N:=N
 bT:=s
 mB:=H
 env:=envOfC qual scope s.heap.objs.size f cd
 outer:=outer
 stack:=envOfC qual scope s.heap.objs.size f cd::outer
 ex:=[]
 calm:=true
 fn:=λ_=>true
 pn:=[]
 xe:=λe s'=>wpAny (model P w) (A.deeper (envOfC qual scope s.heap.objs.size f cd)) (leaving (envOfC qual scope s.heap.objs.size f cd) e) (λ_ s''=>CX outer H s E e s'') (λe' s''=>CX outer H s E e' s'') s'
theorem vH{sc:Scope}{n:Nat}{x:Str}(h:sc.names.lookup x=some .cell):∃c,(cellsFrom n sc.names []).lookup x=some c:=by
 have q:=PySem.W.cellsFrom_some sc.names n [] (.inl h);exact Option.isSome_iff_exists.mp q
theorem rQ{CX:zG}{P:Program}{w:World}{K:PySem.W.Frag}{mg:Str->Option Value}{base:Heap}{N ps:List Str}{qual:Str}{scope:Scope}{f:Addr}{cd:Value}{A:Around}{outer:List Env}{s s1:Shared}{H:Hp}{E:XK}{us:List Value}{vs:List V}
  (S:aC N ps scope) (hd:A.handled=none) (e0:sA P w K mg base A outer s H) (hl:vs.length=ps.length) (r:Vals vs us)
  (x:InCallC s s.heap.objs.size (bindL (envOfC qual scope s.heap.objs.size f cd).kindOf (ps.zip us) λ_=>none) (cellsFrom (s.heap.objs.size+1) scope.names []) (bindC (envOfC qual scope s.heap.objs.size f cd).kindOf (ps.zip us) λ_=>none) s1):
  Inv (kz CX P w K mg base N qual scope f cd A outer s H E) [] (start N vs) H s1:=by
 have eY:ps.length<=N.length:=by have:=congrArg List.length S.pre;rw[List.length_take]at this;omega
 obtain⟨h1,tk,rfl,hk⟩:=x.done;have YK:∀b:Addr,b∉(kz CX P w K mg base N qual scope f cd A outer s H E).ex:=λb z=>absurd (show b∈([]:List Addr)from z) (by simp)
 refine⟨⟨e0.mod,S.kind,rfl,rfl,Nat.le_refl _,λy z c h1 h2=>?_,λy hy=>?_,λy c _ h=>?_,λ_=>hd,Around.frames_deeper e0.frames,.inr ⟨rfl,rfl⟩,λb z=>absurd z (YK b),e0.bs,e0.yh,λb _ _=>YK b,λb z=>absurd z (YK b),e0.iX,e0.Cz⟩,
  rfl,e0.bare,Un.kept hk,⟨_,x.toInCall.ns,λi y v h1 h2 h3=>?_⟩,λy c h=>⟨_,x.cell y c h⟩,e0.bc.fresh (Nat.le_refl _),λy c h=>?_,λp hp=>absurd (show p∈([]:List (Addr×Obj))from hp) (by simp),e0.bc.kept hk,?_⟩
 ·exact name_of_addr x.apart (PySem.mem_of_lookup h1) (PySem.mem_of_lookup h2)
 ·have hy:scope.names.lookup y=some .cell\/scope.names.lookup y=some .free:=hy
  rcases hy with hy|hy
  ·exact vH hy
  ·exact absurd rfl (S.QX _ (PySem.mem_of_lookup hy))
 ·exact Nat.le_of_lt (x.above y c (PySem.mem_of_lookup h))
 ·have hi:i<vs.length:=by
   unfold start at h2
   by_cases hi:i<vs.length
   ·exact hi
   ·rw[List.getElem?_append_right (by simpa using hi)]at h2
    rw[List.getElem?_replicate]at h2
    split at h2<;>cases h2
  have ha:vs[i]?=some v:=by
   unfold start at h2;rw[List.getElem?_append_left (by simpa using hi),List.getElem?_map]at h2
   cases e:vs[i]? with
   | none=>rw[e]at h2;cases h2
   | some a=>rw[e]at h2;cases h2;rfl
  obtain⟨u,hu,rv⟩:=r.get ha;have hp:ps[i]?=some y:=by
   rw[<- S.pre,List.getElem?_take_of_lt ⋯];exact h1
  have ndP:ps.Nodup:=by rw[<- S.pre];exact S.nd.sublist (List.take_sublist _ _)
  refine⟨u,rv,?_⟩;rcases S.par y (List.mem_of_getElem? hp)with k|k
  ·exact .inl ⟨k,rh ndP hp hu k⟩
  ·obtain⟨c,e⟩:=vH (n:=s.heap.objs.size+1) k
   refine .inr ⟨.inl k,c,e,?_⟩;have q:=x.cell y c e;rw[qY ndP hp hu (by show scope.names.lookup y≠_;rw[k];decide)]at q
   exact q
 ·exact e0.bc.fresh (Nat.le_of_lt (x.above y c (PySem.mem_of_lookup h)))
 ·unfold start
  show _=N.length;rw[List.length_append,List.length_map,List.length_replicate];omega
theorem EH{CX:zG}{P:Program}{w:World}{K:PySem.W.Frag}{mg:Str->Option Value}{base:Heap}{k:Nat}{f:Addr}{name qual:Str}{params:Arguments}{body:List Stmt}{scope:Scope}{dV kV doc pm gh ct oc:Value}{an od:Option Addr}
  {F9:Array (Option Value)} {N ps:List Str} {sp:Sp} (lk:K.lookup f=some ⟨oc,od,.func (PySem.W.fnOf name qual params body scope dV kV doc pm an gh ct),F9⟩) (iu:PySem.W.codeIn K gh qual=true) (S:aC N ps scope)
  (len:∀vs H Q E,sp vs H Q E->vs.length=ps.length)
  (Fj:∀(A:Around) (outer:List Env) (s:Shared) (H:Hp) (vs:List V) (Q:VK) (E:XK),fk k (A.deeper (envOfC qual scope s.heap.objs.size f gh))->sp vs H Q E ->
   ∃t,sG (kz CX P w K mg base N qual scope f gh A outer s H E) body t/\t {nx:=λ_ H'=>Q .aU H',rt:=Q} (start N vs) H):
  bW P w K mg base CX (k+1) f (PySem.W.fnOf name qual params body scope dV kV doc pm an gh ct) ps sp:=by
 refine⟨len,λA outer s H args us vs Q E hr e0 hb r pA=>?_⟩;have hl:=len _ _ _ _ pA;have KX:K.In s.heap:=e0.mod.wF.keeps λb o e=>(e0.bs b o e).1;have lim:s.heap.NoLimit:=e0.mod.nolimit.keeps λb o e=>(e0.bs b o e).1;have Fs:∀y∈ps.zip us,scope.names.lookup y.1=some .local\/(scope.names.lookup y.1=some .cell/\((cellsFrom (s.heap.objs.size+1) scope.names []).lookup y.1).isSome=true):=λ⟨n,v⟩ hy=>by
  rcases S.par n (List.of_mem_zip hy).1 with q|q
  ·exact .inl q
  ·exact .inr ⟨q,PySem.W.cellsFrom_some _ _ _ (.inl q)⟩
 refine codeAny_call_function hr.depth (KX _ _ lk) rfl S.co S.gen rfl (PySem.W.codeRec_of KX iu) (hb _ _ _ _ ?_);refine wpAny_newFunctionEnv_cells S.kind Fs λenv he s1 x=>?_;subst he;refine⟨lim.keeps x.toInCall.keep,codeAny_func ?_⟩;obtain⟨t,ht,hq⟩:=Fj A outer s H vs Q E (hr.deeper _) pA;have I:Inv (kz CX P w K mg base N qual scope f gh A outer s H E) [] (start N vs) H s1:=rQ S hr.hd e0 hl r x;refine wpAny_mono (ht [] s1 (start N vs) H _ I hq) (λfl s' hs=>?_) λe s' hs=>hs;have fin:∀ {bS:St} {H':Hp} {v:V} {u:Value},Inv (kz CX P w K mg base N qual scope f gh A outer s H E) [] bS H' s'->RelV v u->Q v H'->CE outer P w H s Q u s':=
  λ{bS H' v u} J rv q=>⟨v,H',J.os,J.bare,J.base,J.bc,rv,q⟩
 cases fl with
 | ret u =>
  obtain⟨v,bS,H',J,rv,q⟩:=hs;exact fin J rv q
 | next =>
  obtain⟨bS,H',J,q⟩:=hs;exact fin (v:=V.aU) (u:=Value.none) J rfl q
 | brk =>
  obtain⟨_,_,_,q⟩:=hs;exact False.elim q
 | cont =>
  obtain⟨_,_,_,q⟩:=hs;exact False.elim q
end L2
namespace L2
open PySem PySem.Spec PyProof.Rows
section
variable {X:Cx}{x:Str}{p pos:Pos}{e:Expr}{es:List Expr}{t:TA}{id T:String}{r:List V->Hp->VK->Prop}
def tCB(r:List V->Hp->VK->Prop)(t:TA):TE:=λσ H Q=>t σ H λvs H1=>r vs H1 Q
theorem pT(hc:eG X (.builtin id) r)(hg:Gl X x)(hm:X.mg x=none)(hv:bootBuiltins x=some (.builtin id))(ha:PA X (e::es) t)(hn:x≠"__name__":=by decide)(iZ:(x==("__debug__":Str))=false:=by decide)
  (he:starEach (e::es) X.env=(false,eval e X.env)::starEach es X.env:=by rfl) (eY:(backTo pos (starEach es X.env)).any (·.1)=false:=by rfl):PE X (.Call (.Name x p) (e::es) [] pos) (tCB r t):=by
 intro pins s σ H Q I h;refine wpAny_Call_Name_kw (j9 I hg hm hv ?_ hn iZ);exact PyProof.Rows.callWith_builtin1 (ck (ha pos pins s σ H _ I h) λus s1 ⟨vs,H1,I1,r1,q1⟩=>hc pins s1 σ H1 vs us Q I1 r1 q1) he eY
theorem B7(hc:eG X (.type T) r)(hg:Gl X x)(hm:X.mg x=none)(hv:bootBuiltins x=some (.type T))(ha:PA X (e::es) t)(hn:x≠"__name__":=by decide)(iZ:(x==("__debug__":Str))=false:=by decide)
  (he:starEach (e::es) X.env=(false,eval e X.env)::starEach es X.env:=by rfl) (eY:(backTo pos (starEach es X.env)).any (·.1)=false:=by rfl):PE X (.Call (.Name x p) (e::es) [] pos) (tCB r t):=by
 intro pins s σ H Q I h;refine wpAny_Call_Name_kw (j9 I hg hm hv ?_ hn iZ);exact PyProof.Rows.callWith_type1 (ck (ha pos pins s σ H _ I h) λus s1 ⟨vs,H1,I1,r1,q1⟩=>hc pins s1 σ H1 vs us Q I1 r1 q1) he eY
end
end L2
namespace HT
open PySem PyProof.Rows
def lexLt:List Int->List Int->Bool
 | [],[]=>false
 | [],_::_=>true
 | _::_,[]=>false
 | x::xs,y::ys=>if x=y then lexLt xs ys else decide (x<y)
theorem g0(x y:Int)(xs ys:List Int):lexLt (x::xs) (y::ys)=if x=y then lexLt xs ys else decide (x<y):=rfl
theorem qH:lexLt [] []=false:=rfl
theorem pL(y:Int)(ys:List Int):lexLt [] (y::ys)=true:=rfl
theorem pK(x:Int)(xs:List Int):lexLt (x::xs) []=false:=rfl
theorem Er(A:Around)(s:Shared)(a:Int)(t:Tok)(c:Int)(u:Tok):∃e,SeqAt.EqAt A s (.int a t) (.int c u) e/\(e=true ↔ a=c):=
 ⟨(a==c),SeqAt.EqAt.int_int a t c u,by simp⟩
theorem GB(A:Around)(s:Shared)(a:Int)(t:Tok)(c:Int)(u:Tok)(prog:Program)(w:World)(E:Value->Shared->Prop)(Q:Value->Shared->Prop)(h:Q (.bool (decide (a<c))) s):
  wpAny (model prog w) A (richCompare .Lt (.int a t) (.int c u)) Q E s:=
 (PyProof.Rows.lt_int h:wpAny (model prog w) A (compareOp .Lt (.int a t) (.int c u)) Q E s)
section
open PySem.SeqAt
open PySem.AutoSeq1 (wpAny_loadPart')
open PySem.MeetsSeq PySem.MeetsSeq2 PySem.MeetsSeq3
theorem qT(l b:Addr)(items fW:Array Value)(n n2:Nat)(dd Vt:Option Addr)(sl Mw:Array (Option Value))(ns ms:List Int)(hi:IntsAre items.toList ns)(hj:IntsAre fW.toList ms):
  Meets (Builtin.«tuple.__lt__» ⟨[.ref l,.ref b],[]⟩)
   (λ_ R s=>s.heap.get? l=some {cls:=.type "tuple",dict:=dd,data:=.seq items n,slots:=sl}/\s.heap.get? b=some {cls:=.type "tuple",dict:=Vt,data:=.seq fW n2,slots:=Mw} /\
    R (.ok (.ret (.bool (lexLt ns ms)))) s):=
 .of_wp λprog w A R s h=>by
  obtain⟨hp,g,d,tk,os⟩:=s;obtain⟨hl,hb,h⟩:=h;have f2:=AutoSeq1.sub_tuple_tuple;have z1:items.size=ns.length:=by rw[<- hi.length];simp
  have z2:fW.size=ms.length:=by rw[<- hj.length];simp
  wp_walk using wpAny_loadPart' hl,wpAny_loadPart' hb,wpAny_forIn_list _ (λrest b s'=>b.1=none/\s'=⟨hp,g,d,tk,os⟩/\∃(vs ws:List Value) (VO Ie:List Int),rest=vs.zip ws /\
   IntsAre vs VO/\IntsAre ws Ie/\VO.length+fW.size=Ie.length+items.size/\R (.ok (.ret (.bool (lexLt VO Ie)))) ⟨hp,g,d,tk,os⟩) _
  case turn =>
   rintro⟨y,x⟩ rest b s' ⟨L6,rfl,vs,ws,VO,Ie,hz,hvi,hwi,hlen,hR⟩;cases hvi with
   | nil=>rw[List.zip_nil_left]at hz;cases hz
   | cons a t abt =>
    cases hwi with
    | nil=>rw[List.zip_nil_right]at hz;cases hz
    | cons c u abu =>
     rw[List.zip_cons_cons]at hz
     injection hz with hyx Yd
     injection hyx with hy hx
     subst hy hx;rw[g0]at hR;simp only[List.length_cons]at hlen;obtain⟨e,he,X0⟩:=Er A.in1 ⟨hp,g,d,tk,os⟩ a t c u;refine wpAny_bind (he prog w _ _ ?_);cases e with
     | true =>
      rw[if_pos (X0.mp rfl)]at hR
      wp_walk
      exact⟨rfl,rfl,_,_,_,_,Yd,abt,abu,by omega,hR⟩
     | false =>
      rw[if_neg (λq=>absurd (X0.mpr q) Bool.false_ne_true)]at hR;have hri:=GB A.in1 ⟨hp,g,d,tk,os⟩ a t c u prog w
      wp_walk using hri
      exact⟨_,rfl,by simpa using hR⟩
  case fin =>
   rintro⟨b1,b2⟩ s' ⟨L6,rfl,vs,ws,VO,Ie,hz,hvi,hwi,hlen,hR⟩;simp only at L6;subst L6;have hv:lexLt VO Ie=decide (items.size<fW.size):=by
    cases hvi with
    | nil =>
     cases hwi with
     | nil =>
      simp only[List.length_nil]at hlen;rw[qH];exact(decide_eq_false ⋯).symm
     | cons c u hw =>
      simp only[List.length_nil,List.length_cons]at hlen;rw[pL];exact(decide_eq_true ⋯).symm
    | cons a t hv =>
     cases hwi with
     | nil =>
      simp only[List.length_nil,List.length_cons]at hlen;rw[pK];exact(decide_eq_false ⋯).symm
     | cons c u hw =>
      rw[List.zip_cons_cons]at hz;cases hz
   rw[hv]at hR
   wp_walk
   exact⟨_,rfl,by simpa [Builtin.Tuple.tupleCompareSizes]using hR⟩
  case h =>
   exact⟨rfl,rfl,items.toList,fW.toList,ns,ms,rfl,hi,hj,by omega,h⟩
end
section
variable {prog:Program}{w:World}{A:Around}{E:Value->Shared->Prop}{s:Shared}
theorem yv{l b:Addr}{items fW:Array Value}{ns ms:List Int}{Q:Value->Shared->Prop}(hl:IsTup s.heap l items)(hb:IsTup s.heap b fW)(hi:IntsAre items.toList ns)(hj:IntsAre fW.toList ms)
  (hu:A.units<cLine) (h:Q (.bool (lexLt ns ms)) s):wpAny (model prog w) A (compareOp .Lt (.ref l) (.ref b)) Q E s:=by
 obtain⟨⟨cls,dd,data,sl⟩,ho,hc,n,hd⟩:=id hl;obtain⟨⟨aaS,Vt,data2,Mw⟩,PR,Jp,n2,hd2⟩:=id hb;simp only at hc hd Jp hd2;subst hc hd Jp hd2;exact richCompare_meets_room (op:=.Lt) ⟨_,ho,rfl⟩ ⟨_,PR,rfl⟩ PySem.F.slot_tuple_lt PySem.F.entry_tuple_lt (PySem.F.args_tuple_lt_2 _ _) (qT l b items fW n n2 dd Vt sl Mw ns ms hi hj)
  ⟨ho,PR,show Value.bool (lexLt ns ms)≠Value.notImplemented/\Q (.bool (lexLt ns ms)) s from⟨(λx=>nomatch x),h⟩⟩ hu
theorem IJ{t b:Addr}{vs ws:List Value}{Q:Value->Shared->Prop}(ht:IsTup s.heap t vs.toArray)(hb:IsTup s.heap b ws.toArray)(hv:vs≠[])
  (h1:ws=[]->Q (.ref t) s) (h2:ws≠[]->Q (.ref s.heap.objs.size) {s with heap:=s.heap.push {cls:=.type "tuple",data:=.seq (vs++ws).toArray}})
  (hsz:vs.length+ws.length<=sizeLine):wpAny (model prog w) A (binaryOp .Add (.ref t) (.ref b)) Q E s:=by
 obtain⟨⟨cls,dd,data,sl⟩,ho,hc,n,hd⟩:=id ht;obtain⟨⟨aaS,Vt,data2,Mw⟩,PR,Jp,n2,hd2⟩:=id hb;simp only at hc hd Jp hd2;subst hc hd Jp hd2;have e:vs.toArray++ws.toArray=(vs++ws).toArray:=by simp
 by_cases hw:ws=[]
 ·exact concat_meets ⟨_,ho,rfl⟩ ⟨_,PR,rfl⟩ noFill_tuple_add seq_tuple_add PySem.F.slot_tuple_add PySem.F.entry_tuple_add (PySem.F.args_tuple_add_2 _ _)
   (tuple_addW1 t b vs.toArray ws.toArray n n2 dd Vt sl Mw (by simpa using hv) (by simp [hw])) ⟨ho,PR,h1 hw⟩
 ·refine concat_meets ⟨_,ho,rfl⟩ ⟨_,PR,rfl⟩ noFill_tuple_add seq_tuple_add PySem.F.slot_tuple_add PySem.F.entry_tuple_add (PySem.F.args_tuple_add_2 _ _)
   (tuple_addW2 t b vs.toArray ws.toArray n n2 dd Vt sl Mw (by simpa using hv) (by simpa using hw) (by rw[List.size_toArray,List.size_toArray];exact hsz)) ⟨ho,PR,?_⟩
  rw[e];exact h2 hw
def cU(n d:Nat):Option Int->Nat
 | none=>d
 | some v=>if v<0 then(v+(n:Int)).toNat else min v.toNat n
theorem TN(n d:Nat)(hd:d<=n)(o:Option Int):cU n d o<=n:=by
 cases o with
 | none=>exact hd
 | some v =>
  show(if v<0 then(v+(n:Int)).toNat else min v.toNat n)<=n
  by_cases hv:v<0
  ·rw[if_pos hv];omega
  ·rw[if_neg hv];exact Nat.min_le_right _ _
theorem zS(v:Int)(n d:Nat):(if v<0 then max (v+(n:Int)) 0 else min v (n:Int))=((cU n d (some v):Nat):Int):=by
 show(if v<0 then max (v+(n:Int)) 0 else min v (n:Int))=(((if v<0 then(v+(n:Int)).toNat else min v.toNat n):Nat):Int)
 by_cases hv:v<0
 ·simp only[if_pos hv];omega
 ·simp only[if_neg hv];omega
theorem ye(lo hi:Option Int)(n:Nat):Builtin.Slice.sliceAdjust lo hi 1 (n:Int)=(((cU n 0 lo:Nat):Int),((cU n n hi:Nat):Int)):=by
 have h1:¬((1:Int)<0):=by omega
 unfold Builtin.Slice.sliceAdjust;simp only[h1,if_false];refine Prod.ext ?_ ?_
 ·cases lo with
  | none=>rfl
  | some v=>exact zS v n 0
 ·cases hi with
  | none=>rfl
  | some v=>exact zS v n n
theorem yG(i j:Nat):Builtin.Slice.slicePlaces (i:Int) (j:Int) 1=j-i:=by
 unfold Builtin.Slice.slicePlaces;have h1:(1:Int)>0:=by omega
 simp only[h1,if_true,Int.ediv_one]
 split<;>omega
theorem qb{v:Value}{o:Option Int}{Q:Option Int->Shared->Prop}(p:IsPart v o)(h:Q o s):wpAny (model prog w) A (Builtin.Slice.slicePartIndex v) Q E s:=by
 cases p with
 | none=>exact slicePart_none h
 | int i t=>exact slicePart_int h
theorem gK{sl:Addr}{vl vu:Value}{lo hi:Option Int}{n:Nat}{Q:Int×Int×Nat->Shared->Prop}(hs:s.heap.IsSliceOf sl vl vu .none)(pl:IsPart vl lo)(pu:IsPart vu hi)
  (h:Q (((cU n 0 lo:Nat):Int),1,cU n n hi-cU n 0 lo) s):wpAny (model prog w) A (Builtin.Slice.sliceApplied (.ref sl) (pure (n:Int))) Q E s:=by
 obtain⟨os,BM,PC,Ib⟩:=id hs;unfold Builtin.Slice.sliceApplied Builtin.Slice.sliceFields;refine wpAny_bind (wpAny_bind (wpAny_field BM Ib (x:=vl) rfl (wpAny_bind (wpAny_field BM Ib (x:=vu) rfl (wpAny_bind (wpAny_field BM Ib (x:=.none) rfl (wpAny_pure ?_)))))));refine wpAny_bind (slicePart_none ?_);show wpAny _ _ (if((1:Int)==0)=true then _ else _) _ _ s
 rw[if_neg ∅]
 refine wpAny_bind (qb pl (wpAny_bind (qb pu (wpAny_bind (wpAny_pure ?_)))));show wpAny _ _ (match Builtin.Slice.sliceAdjust lo hi 1 (n:Int)with | (lo,hi)=>pure (lo,(1:Int),Builtin.Slice.slicePlaces lo hi 1)) _ _ s
 rw[ye lo hi n];show wpAny _ _ (pure (((cU n 0 lo:Nat):Int),(1:Int),Builtin.Slice.slicePlaces ((cU n 0 lo:Nat):Int) ((cU n n hi:Nat):Int) 1)) _ _ s;rw[yG];exact wpAny_pure h
theorem Gm(xs:Array Value)(i k:Nat):((List.range k).filterMap λ(m:Nat)=>xs[((i:Int)+(m:Int)*1).toNat]?).toArray=((xs.toList.drop i).take k).toArray:=by
 have e:(λ(m:Nat)=>xs[((i:Int)+(m:Int)*1).toNat]?)=λm=>xs[i+m]?:=by
  funext m;have:((i:Int)+(m:Int)*1).toNat=i+m:=by omega
  rw[this]
 rw[e];have:=pick_run xs i k;rw[List.filterMap_map]at this;have e2:((λx=>xs[x]?) ∘ λx=>i+x)=λm=>xs[i+m]?:=rfl;rw[e2]at this;rw[this]
theorem kH{t sl:Addr}{items:Array Value}{vl vu:Value}{lo hi:Option Int}{Q:Value->Shared->Prop}(ht:IsTup s.heap t items)(hs:s.heap.IsSliceOf sl vl vu .none)(pl:IsPart vl lo)(pu:IsPart vu hi)
  (hw:¬(cU items.size 0 lo=0/\cU items.size items.size hi=items.size))
  (h:Q (.ref s.heap.objs.size) {s with heap:=s.heap.push {cls:=.type "tuple",data:=.seq ((items.toList.drop (cU items.size 0 lo)).take (cU items.size items.size hi-cU items.size 0 lo)).toArray}})
  (hsz:items.size<=sizeLine):wpAny (model prog w) A (getItem (.ref t) (.ref sl)) Q E s:=by
 have kL:sizeOk (.seq ((items.toList.drop (cU items.size 0 lo)).take (cU items.size items.size hi-cU items.size 0 lo)).toArray):=by
  show((items.toList.drop (cU items.size 0 lo)).take (cU items.size items.size hi-cU items.size 0 lo)).toArray.size<=sizeLine;rw[List.size_toArray,List.length_take,List.length_drop,Array.length_toList];omega
 have hj:cU items.size items.size hi<=items.size:=TN _ _ (Nat.le_refl _) hi;obtain⟨os,BM,PC,Ib⟩:=id hs;have XO:s.TypeIs (.ref sl) "slice":=⟨os,BM,PC⟩;unfold getItem
 try with_reducible refine wpAny_holding ?_
 first|refine wpAny_bind (wpAny_pure ?_)|skip
 refine wpAny_bind (wpAny_sequenceKey ht.typeIs ∅ ?_)
 refine wpAny_bind (wpAny_callSpecial?_slot (name:=Str.ofString "__getitem__") ht.typeIs PyProof.Rows.slot_tuple_getitem
  (wpAny_call_entry PyProof.Rows.slot_tuple_getitem ht.typeIs entry_tuple_getitem ?_ (args_tuple_getitem _ _)))
 show wpAny _ _ (Builtin.Tuple.tupleItemsOf (.ref t) >>= _) _ _ s;refine wpAny_bind (tupleItemsOf_ ht ?_);refine wpAny_bind (wpAny_typeOf XO ?_);rw[if_pos ∅]
 refine wpAny_bind (gK hs pl pu ?_);have PN:¬((((cU items.size 0 lo:Nat):Int)==0&&(1:Int)==1&&(cU items.size items.size hi-cU items.size 0 lo)==items.size)=true):=by
  intro q;rw[Bool.and_eq_true,Bool.and_eq_true]at q;have q1:((cU items.size 0 lo:Nat):Int)=0:=eq_of_beq q.1.1;have q2:cU items.size items.size hi-cU items.size 0 lo=items.size:=eq_of_beq q.2;exact hw ⟨by omega,by omega⟩
 show wpAny _ _ (if(((cU items.size 0 lo:Nat):Int)==0&&(1:Int)==1&&(cU items.size items.size hi-cU items.size 0 lo)==items.size)=true then _ else _) _ _ s
 rw[if_neg PN,Gm]
 first
  | exact wpAny_bind (m:=Builtin.Tuple.tupleExact _) (wpAny_newObj_type (wpAny_pure ⟨_,rfl,wpAny_pure h⟩) kL)
  | exact wpAny_bind (m:=Builtin.Tuple.tupleExact _) (wpAny_newObj_type (wpAny_bind (wpAny_pure (wpAny_pure ⟨_,rfl,wpAny_pure h⟩))) kL)
  | exact wpAny_bind (wpAny_bind (m:=Builtin.Tuple.tupleExact _) (wpAny_newObj_type (wpAny_pure (wpAny_pure ⟨_,rfl,wpAny_pure h⟩)) kL))
  | exact wpAny_bind (wpAny_bind (m:=Builtin.Tuple.tupleExact _) (wpAny_newObj_type (wpAny_pure ⟨_,rfl,wpAny_pure h⟩) kL))
end
end HT
namespace L2
open PySem PySem.Spec PyProof.Rows
abbrev TO:=St->Hp->(Option Int->Hp->Prop)->Prop
def PO(X:Cx)(e:Option Expr)(t:TO):Prop:=
 ∀(pins:List (Addr×Obj)) (s:Shared) (σ:St) (H:Hp) (Q:Option Int->Hp->Prop),Inv X pins σ H s->t σ H Q ->
  wpAny (model X.prog X.w) X.A (evalPart e X.env) (λu s'=>∃o H',Inv X pins σ H' s'/\IsPart u o/\Q o H') X.xe s
def KP:TO:=λ_ H Q=>Q none H
def aaC(t:TE):TO:=λσ H Q=>t σ H λx H1=>∃i,x=.int i/\Q (some i) H1
theorem intsAre_of{ns:List Int}:∀ {us:List Value},Vals (ns.map V.int) us->IntsAre us ns:=by
 induction ns with
 | nil=>intro us r;rw[List.map_nil]at r;cases r;exact .nil
 | cons n ns ih =>
  intro us r;rw[List.map_cons]at r;cases r with
  | cons r1 r2 =>
   obtain⟨t,e⟩:=r1;subst e;exact .cons n t (ih r2)
section
variable {X:Cx}{e:Expr}{te:TE}{lo hi:Option Expr}{tl th:TO}{pos p2:Pos}
theorem Kg:PO X none KP:=by
 intro pins s σ H Q I h;rw[evalPart_none];exact wpAny_pure ⟨none,H,I,.none,h⟩
theorem Kh(h:PE X e te):PO X (some e) (aaC te):=by
 intro pins s σ H Q I hw;rw[evalPart_some];refine ck (h pins s σ H _ I hw) λu s1 ⟨x,H1,I1,r1,q1⟩=>?_;obtain⟨i,rfl,q⟩:=q1;obtain⟨t,rfl⟩:=r1;exact⟨some i,H1,I1,.int i t,q⟩
def Bj(X:Cx)(r:V->Option Int->Option Int->Hp->VK->Prop):Prop:=
 ∀(pins:List (Addr×Obj)) (s:Shared) (σ:St) (H:Hp) (x:V) (v vl vu:Value) (lo hi:Option Int) (sl:Addr) (Q:VK),Inv X pins σ H s->RelV x v->s.heap.IsSliceOf sl vl vu .none->IsPart vl lo->IsPart vu hi->r x lo hi H Q ->
  ∃T id,typeLookup (.type T) "__getitem__"=pure (some (.builtin id))/\s.TypeIs v T/\wpAny (model X.prog X.w) X.A (getItem v (.ref sl)) (EP X pins σ Q) X.xe s
theorem Bj.or{r r':V->Option Int->Option Int->Hp->VK->Prop}(h:Bj X r)(h':Bj X r'):Bj X (λx lo hi H Q=>r x lo hi H Q\/r' x lo hi H Q):=by
 intro pins s σ H x v vl vu lo hi sl Q I rx hs pl pu q;rcases q with q|q
 ·exact h pins s σ H x v vl vu lo hi sl Q I rx hs pl pu q
 ·exact h' pins s σ H x v vl vu lo hi sl Q I rx hs pl pu q
def tSl(r:V->Option Int->Option Int->Hp->VK->Prop)(te:TE)(tl th:TO):TE:=λσ H Q=>te σ H λx H1=>tl σ H1 λl H2=>th σ H2 λu H3=>r x l u H3 Q
theorem xh{r:V->Option Int->Option Int->Hp->VK->Prop}(hr:Bj X r)(he:PE X e te)(hl:PO X lo tl)(hu:PO X hi th):PE X (.Subscript e (.Slice lo hi none p2) pos) (tSl r te tl th):=by
 intro pins s σ H Q I h;refine Subscript_ (ck (he pins s σ H _ I h) λv s1 ⟨x,H1,I1,r1,q1⟩=>?_);refine wpAny_Slice (ck (hl pins s1 σ H1 _ I1 q1) λvl s2 ⟨l,H2,I2,pl,q2⟩=>ck (hu pins s2 σ H2 _ I2 q2) λvu s3 ⟨u,H3,I3,pu,q3⟩=>?_);rw[evalPart_none];refine wpAny_pure ?_;have I4:Inv X pins σ H3 {s3 with heap:=s3.heap.push {cls:=.type "slice",data:=.fields #[vl,vu,.none]}}:=I3.kept (t':=s3.toks) λb ob q=>Heap.get?_push_of_some _ q
 obtain⟨T,id,hT,ht,hg⟩:=hr pins {s3 with heap:=s3.heap.push {cls:=.type "slice",data:=.fields #[vl,vu,.none]}} σ H3 x v vl vu l u s3.heap.objs.size Q I4 r1 (Heap.IsSliceOf.new ..) pl pu q3
 show wpAny (model X.prog X.w) X.A (subscriptTail e (.Slice lo hi none p2) v (.ref s3.heap.objs.size)) (EP X pins σ Q) X.xe {s3 with heap:=s3.heap.push {cls:=.type "slice",data:=.fields #[vl,vu,.none]}}
 exact tail_any (ops:=[.ref s3.heap.objs.size,v]) ht hT hg (by with_unfolding_all rfl)
def vJ(xs:List V)(lo hi:Option Int):List V:=(xs.drop (HT.cU xs.length 0 lo)).take (HT.cU xs.length xs.length hi-HT.cU xs.length 0 lo)
theorem nE(xs:List V)(lo hi:Option Int):(vJ xs lo hi).length<=xs.length:=by
 unfold vJ;rw[List.length_take,List.length_drop];omega
def abV(K:PySem.W.Frag):V->Option Int->Option Int->Hp->VK->Prop:=λx lo hi H Q=>∃a xs,x=.ref a/\nB K H a xs /\
 ¬(HT.cU xs.length 0 lo=0/\HT.cU xs.length xs.length hi=xs.length)/\∀p,H p=none->Q (.ref p) (upd H p (.tup (vJ xs lo hi)))
theorem GZ:Bj X (abV X.K):=by
 intro pins s σ H x v vl vu lo hi sl Q I rx hs pl pu h;obtain⟨a,xs,rfl,hx,hw,q⟩:=h;cases rx;obtain⟨its,r,ht,hz⟩:=I.tuple hx;have hlen:its.toArray.size=xs.length:=by rw[List.size_toArray];exact r.length.symm
 refine⟨"tuple",_,PyProof.Rows.slot_tuple_getitem.lookup,ht.typeIs,?_⟩;refine HT.kH ht hs pl pu (by rw[hlen];exact hw) ?_ (by rw[hlen];exact hz)
 rw[hlen];refine⟨.ref s.heap.objs.size,_,I.laid (t':=s.toks) (o:=.tup (vJ xs lo hi)) (λb ob q=>Heap.get?_push_of_some _ q) (Nat.le_refl _) ?_,rfl,q _ (I.bc.fresh (Nat.le_refl _))⟩;exact⟨Nat.le_trans (nE xs lo hi) hz,_,(r.drop (HT.cU xs.length 0 lo)).take (HT.cU xs.length xs.length hi-HT.cU xs.length 0 lo),IsTup.new _ _⟩
def Ml(K:PySem.W.Frag):R2:=λx y H Q=>∃a b xs ys,x=.ref a/\y=.ref b/\nB K H a xs/\nB K H b ys/\xs≠[]/\xs.length+ys.length<=sizeLine /\
 (ys=[]->Q (.ref a) H)/\(ys≠[]->∀p,H p=none->Q (.ref p) (upd H p (.tup (xs++ys))))
theorem Vals.tR{xs:List V}{us:List Value}(r:Vals xs us):us=[] ↔ xs=[]:=by
 cases r with
 | nil=>simp
 | cons _ _=>simp
theorem JW:iH X (binaryOp .Add) (Ml X.K):=by
 intro pins s σ H x y v u Q I rx ry h;obtain⟨a,b,xs,ys,rfl,rfl,ha,hb,hx,hz,q1,q2⟩:=h;cases rx;cases ry;obtain⟨its,r1,p1,_⟩:=I.tuple ha;obtain⟨Qf,r2,p2,_⟩:=I.tuple hb;refine HT.IJ p1 p2 (λz=>hx (r1.tR.mp z)) (λz=>⟨.ref a,H,I,rfl,q1 (r2.tR.mp z)⟩) (λz=>?_) (by rw[<- r1.length,<- r2.length];exact hz)
 refine⟨.ref s.heap.objs.size,_,I.laid (t':=s.toks) (o:=.tup (xs++ys)) (λb ob q=>Heap.get?_push_of_some _ q) (Nat.le_refl _) ?_,rfl,q2 (λw=>z (r2.tR.mpr w)) _ (I.bc.fresh (Nat.le_refl _))⟩;exact⟨by rw[List.length_append];exact hz,_,r1.append r2,IsTup.new _ _⟩
end
end L2
namespace L2
open PySem PySem.Spec PyProof.Rows
def As(n:Nat)(i:Int):Option Nat:=if 0<=i then(if i<n then some i.toNat else none)else if -(n:Int)<=i then some (i+n).toNat else none
def nY{α:Type}(xs:List α)(i:Int):Option α:=(As xs.length i).bind λj=>xs[j]?
theorem Au{n:Nat}{i:Int}{j:Nat}(h:As n i=some j):seqIndex? i n=some j/\j<n/\-(n:Int)<=i/\i<n:=by
 unfold As at h
 by_cases h0:0<=i
 ·rw[if_pos h0]at h
  by_cases h1:i<n
  ·rw[if_pos h1]at h
   have e:i.toNat=j:=Option.some.inj h;exact⟨by rw[seqIndex_of h0 h1,e],by omega,by omega,h1⟩
  ·rw[if_neg h1]at h;cases h
 ·rw[if_neg h0]at h
  by_cases h1:-(n:Int)<=i
  ·rw[if_pos h1]at h
   have e:(i+n).toNat=j:=Option.some.inj h;exact⟨by rw[seqIndex_neg ⋯ h1,e],by omega,h1,by omega⟩
  ·rw[if_neg h1]at h;cases h
theorem sN{α:Type}{xs:List α}{i:Int}{v:α}(h:nY xs i=some v):∃j,seqIndex? i xs.length=some j/\xs[j]?=some v/\j<xs.length/\-(xs.length:Int)<=i/\i<xs.length:=by
 unfold nY at h;cases e:As xs.length i with
 | none=>rw[e]at h;cases h
 | some j =>
  rw[e]at h;obtain⟨h1,h2,h3,h4⟩:=Au e;exact⟨j,h1,h,h2,h3,h4⟩
def zI(b:Expr):Prop:=∀o i,subscripted b false o i=operate [o,i] (getItem o i)
def Ir(X:Cx)(r:R2):Prop:=
 ∀(value slice:Expr) (pins:List (Addr×Obj)) (s:Shared) (σ:St) (H:Hp) (x y:V) (v u:Value) (Q:VK),Inv X pins σ H s->RelV x v->RelV y u->r x y H Q ->
  subscripted slice false v u=operate [v,u] (getItem v u)->wpAny (model X.prog X.w) X.A (subscriptTail value slice v u) (EP X pins σ Q) X.xe s
def MtR(X:Cx)(id:String)(r:V->List V->Hp->VK->Prop):Prop:=
 ∀(pins:List (Addr×Obj)) (s:Shared) (σ:St) (H:Hp) (x:V) (xs:List V) (v:Value) (us:List Value) (Q:VK),Inv X pins σ H s->RelV x v->Vals xs us->r x xs H Q ->
  wpAny (model X.prog X.w) X.A (call (.builtin id) (v::us)) (EP X pins σ Q) X.xe s
section
variable {X:Cx}{a b:Expr}{ta tb:TE}{pos:Pos}
theorem Ir.or{r r':R2}(h:Ir X r)(h':Ir X r'):Ir X (λx y H Q=>r x y H Q\/r' x y H Q):=by
 intro value slice pins s σ H x y v u Q I rx ry q hs;rcases q with q|q
 ·exact h value slice pins s σ H x y v u Q I rx ry q hs
 ·exact h' value slice pins s σ H x y v u Q I rx ry q hs
theorem ZK{r:R2}(hr:Ir X r)(ha:PE X a ta)(hb:PE X b tb)(hs:zI b):PE X (.Subscript a b pos) (UZ r ta tb):=by
 intro pins s σ H Q I h;exact Subscript_ (Nq ha hb I h λv u s2 x y H2 I2 rx ry q=>hr a b pins s2 σ H2 x y v u Q I2 rx ry q (hs _ _))
def ZZ(K:PySem.W.Frag):R2:=λx y H Q=>∃p xs i v,x=.ref p/\y=.int i/\jr K H p xs/\nY xs i=some v/\Q v H
def Z1(K:PySem.W.Frag):R2:=λx y H Q=>∃p xs i v,x=.ref p/\y=.int i/\nB K H p xs/\nY xs i=some v/\Q v H
def Z0:R2:=λx y H Q=>∃z i c,x=.str z/\y=.int i/\z.length<=sizeLine/\nY z.cps.toList i=some c/\Q (.str ⟨#[c]⟩) H
theorem JD:Ir X (ZZ X.K):=by
 intro value slice pins s σ H x y v u Q I rx ry h hs;obtain⟨p,xs,i,z,rfl,rfl,hq,he,q⟩:=h;cases rx;obtain⟨t,rfl⟩:=ry;obtain⟨its,r,pl,hz⟩:=I.list hq;obtain⟨j,h1,h2,h3,h4,h5⟩:=sN he;obtain⟨w,ew,xW⟩:=r.get h2;have hl:=r.length;have hn:=mY;have fin:EP X pins σ Q w s:=⟨z,H,I,xW,q⟩
 by_cases h0:0<=i
 ·have hj:i.toNat=j:=by
   rw[seqIndex_of h0 h5]at h1;exact Option.some.inj h1
  exact item_listR pl.isList h0 ⋯ (by rw[hj];simpa using ew) fin hs
 ·have hj:(i+(its.toArray.size:Int)).toNat=j:=by
   rw[seqIndex_neg ⋯ h4]at h1
   rw[List.size_toArray,<- hl];exact Option.some.inj h1
  exact subscriptTail_builtinR (x:=w) pl.isList.typeIs slot_list_getitem.lookup
   (wpAny_getItem_list_neg (Q:=λr s'=>r=w/\EP X pins σ Q r s') pl.isList ⋯ (by rw[List.size_toArray]<;>omega) ⋯ (by rw[hj];simpa using ew) ⟨rfl,fin⟩) hs
theorem Qk:Ir X (Z1 X.K):=by
 intro value slice pins s σ H x y v u Q I rx ry h hs;obtain⟨p,xs,i,z,rfl,rfl,hq,he,q⟩:=h;cases rx;obtain⟨t,rfl⟩:=ry;obtain⟨its,r,pl,hz⟩:=I.tuple hq;obtain⟨j,h1,h2,h3,h4,h5⟩:=sN he;obtain⟨w,ew,xW⟩:=r.get h2;have hl:=r.length;have hn:=mY;have fin:EP X pins σ Q w s:=⟨z,H,I,xW,q⟩;exact subscriptTail_builtinR (x:=w) pl.typeIs slot_tuple_getitem.lookup
  (getItem_tuple (j:=j) (Q:=λr s'=>r=w/\EP X pins σ Q r s') pl ⋯ ⋯ (by rw[List.size_toArray,<- hl];exact h1) (by simpa using ew) ⟨rfl,fin⟩) hs
theorem Qj:Ir X Z0:=by
 intro value slice pins s σ H x y v u Q I rx ry h hs;obtain⟨z,i,c,rfl,rfl,hz,he,q⟩:=h;obtain⟨t,rfl⟩:=rx;obtain⟨t',rfl⟩:=ry;obtain⟨j,h1,h2,h3,h4,h5⟩:=sN he;have hl:z.cps.toList.length=z.length:=by simp [Str.length]
 rw[hl]at h1 h4 h5;have hn:=mY;exact tail_any (typeIs_str s z t) slot_str_getitem.lookup (getItem_str (c:=c) (by
  have e1:decide (i < -(2^63:Int))=false:=decide_eq_false ⋯
  have e2:decide (i>=2^63)=false:=decide_eq_false ⋯
  rw[e1,e2,Bool.or_false]) (by rw[h1];simpa using h2) ⟨.str ⟨#[c]⟩,H,I.tok _,⟨_,rfl⟩,q⟩) hs
def rIx(K:PySem.W.Frag):R2:=λx y H Q=>ZZ K x y H Q\/Z1 K x y H Q\/Z0 x y H Q
theorem Qi:Ir X (rIx X.K):=JD.or (Qk.or Qj)
theorem yz(its:List Value)(n j:Nat)(u:Value):Obj.mapSeq (·.setIfInBounds j u) {cls:=.type "list",data:=.seq its.toArray n}={cls:=.type "list",data:=.seq (its.set j u).toArray n}:=by
 simp [Obj.mapSeq]
theorem Inv.lst{pins:List (Addr×Obj)}{σ:St}{H:Hp}{s:Shared}{p:Addr}{xs:List V}(I:Inv X pins σ H s)(h:H p=some (.lst xs)):
  ∃(its:List Value) (n:Nat),Vals xs its/\s.heap.get? p=some {cls:=.type "list",data:=.seq its.toArray n}/\xs.length<=sizeLine:=by
 obtain⟨z,its,n,r,e⟩:=I.bc p _ h;exact⟨its,n,r,e,z⟩
theorem Inv.QQ{pins:List (Addr×Obj)}{σ:St}{H:Hp}{s:Shared}{p:Addr}{xs ys:List V}{its its':List Value}{n n':Nat}{f:Obj->Obj}(I:Inv X pins σ H s)(h:H p=some (.lst xs))
  (ho:s.heap.get? p=some {cls:=.type "list",data:=.seq its.toArray n}) (hf:f {cls:=.type "list",data:=.seq its.toArray n}={cls:=.type "list",data:=.seq its'.toArray n'}) (r:Vals ys its') (hz:ys.length<=sizeLine) (t:Nat):
  Inv X pins σ (upd H p (.lst ys)) {s with heap:=s.heap.update p f,toks:=t}:=by
 have e:(s.heap.update p f).get? p=some {cls:=.type "list",data:=.seq its'.toArray n'}:=by
  rw[Heap.get?_update_self f ho (by rw[hf]<;>rfl),hf]
 refine I.write (x:=p) (e:=p) (by rw[h];trivial) (.inl rfl) (λb u hb q=>(Heap.get?_update_other _ _ (Ne.symm hb)).trans q) ⟨_,e⟩ ?_
 exact⟨hz,its',n',r,e⟩
def Z3:V->V->V->Hp->(Hp->Prop)->Prop:=λo i v H Q=>∃p xs k j,o=.ref p/\i=.int k/\H p=some (.lst xs)/\As xs.length k=some j/\Q (upd H p (.lst (xs.set j v)))
theorem set_list:Wc X Z3:=by
 intro pins s σ H o i v ov iv u Q I ro ri rv h;obtain⟨p,xs,k,j,rfl,rfl,hp,hj,q⟩:=h;cases ro;obtain⟨t,rfl⟩:=ri;obtain⟨its,n,r,ho,hz⟩:=I.lst hp;obtain⟨h1,h2,h3,h4⟩:=Au hj;have hl:=r.length;have hn:=mY;have I':Inv X pins σ (upd H p (.lst (xs.set j v))) {s with heap:=s.heap.update p (Obj.mapSeq (·.setIfInBounds j u))}:=
  I.QQ hp ho (yz its n j u) (r.set rv j) (by rw[List.length_set];exact hz) s.toks
 by_cases h0:0<=k
 ·have hk:k.toNat=j:=by
   rw[seqIndex_of h0 h4]at h1;exact Option.some.inj h1
  exact PySem.W.ki_setAt ho h0 ⋯ (by rw[List.size_toArray,<- hl];exact h4) (by rw[hk];exact⟨_,I',q⟩)
 ·have hk:(k+(its.toArray.size:Int)).toNat=j:=by
   rw[seqIndex_neg ⋯ h3]at h1
   rw[List.size_toArray,<- hl];exact Option.some.inj h1
  exact PySem.W.ki_setBack ho ⋯ (by rw[List.size_toArray,<- hl];exact h3) ⋯ (by rw[hk];exact⟨_,I',q⟩)
theorem ux(lo hi:Option Int)(n:Nat):(sliceBounds lo hi none n).1=((HT.cU n 0 lo:Nat):Int)/\(sliceBounds lo hi none n).2.1=((HT.cU n n hi:Nat):Int)/\(sliceBounds lo hi none n).2.2=1:=by
 refine⟨?_,?_,rfl⟩
 ·cases lo with
  | none=>simp [sliceBounds,HT.cU]
  | some i =>
   simp only[sliceBounds,HT.cU,Option.getD_none,show(1:Int)>0 by decide,if_true]
   by_cases h:i<0
   ·simp only[h,if_true]<;>omega
   ·simp only[h,if_false]<;>omega
 ·cases hi with
  | none=>simp [sliceBounds,HT.cU]
  | some i =>
   simp only[sliceBounds,HT.cU,Option.getD_none,show(1:Int)>0 by decide,if_true]
   by_cases h:i<0
   ·simp only[h,if_true]<;>omega
   ·simp only[h,if_false]<;>omega
theorem qM(its:List Value)(lo hi:Option Int):slicePick its.toArray lo hi none=((its.drop (HT.cU its.length 0 lo)).take (HT.cU its.length its.length hi-HT.cU its.length 0 lo)).toArray:=by
 obtain⟨h1,h2,h3⟩:=ux lo hi its.toArray.size;unfold slicePick;rw[h1,h2,h3];simp only[sliceRange_one,pick_run,List.size_toArray]<;>rfl
def abT(K:PySem.W.Frag):V->Option Int->Option Int->Hp->VK->Prop:=λx lo hi H Q=>∃a xs,x=.ref a/\jr K H a xs/\∀p,H p=none->Q (.ref p) (upd H p (.lst (vJ xs lo hi)))
theorem A3:Bj X (abT X.K):=by
 intro pins s σ H x v vl vu lo hi sl Q I rx hs pl pu h;obtain⟨a,xs,rfl,hx,q⟩:=h;cases rx;obtain⟨its,r,ht,hz⟩:=I.list hx;have hlen:=r.length;refine⟨"list",_,slot_list_getitem.lookup,ht.isList.typeIs,?_⟩;refine wpAny_getItem_list_slice ht.isList hs pl pu .none (by simp) ?_ (by rw[List.size_toArray]<;>omega)
 rw[qM,<- hlen];refine⟨.ref s.heap.objs.size,_,I.laid (t':=s.toks) (o:=.lst (vJ xs lo hi)) (λb ob q=>Heap.get?_push_of_some _ q) (Nat.le_refl _) ?_,rfl,q _ (I.bc.fresh (Nat.le_refl _))⟩;exact⟨Nat.le_trans (nE xs lo hi) hz,_,0,(r.drop (HT.cU xs.length 0 lo)).take (HT.cU xs.length xs.length hi-HT.cU xs.length 0 lo),Heap.get?_push_size _ rfl⟩
theorem sS:eG X (.builtin "len") (λxs H Q=>∃p ys,xs=[.ref p]/\(jr X.K H p ys\/nB X.K H p ys)/\Q (.int ys.length) H):=by
 intro pins s σ H xs us Q I r h;obtain⟨p,ys,rfl,hq,q⟩:=h;obtain⟨u,rfl,rx⟩:=vals1 r;cases rx;have hn:=mY;rcases hq with hq|hq
 ·obtain⟨its,r',pl,hz⟩:=I.list hq
  have hlen:=r'.length;exact Calls.call_len_list pl.isList (by simp only[List.size_toArray]<;>omega) ⟨.int ys.length,H,I.tok _,⟨s.toks+1,by rw[List.size_toArray,hlen]⟩,q⟩
 ·obtain⟨its,r',pl,hz⟩:=I.tuple hq
  have hlen:=r'.length;exact len_tuple pl (by simp only[List.size_toArray]<;>omega) ⟨.int ys.length,H,I.tok _,⟨s.toks+1,by rw[List.size_toArray,hlen]⟩,q⟩
theorem sT:eG X (.builtin "len") (λxs H Q=>∃z,xs=[.str z]/\z.length<=sizeLine/\Q (.int z.length) H):=by
 intro pins s σ H xs us Q I r h;obtain⟨z,rfl,hz,q⟩:=h;obtain⟨u,rfl,t,rfl⟩:=vals1 r;have hn:=mY;exact len_str ⋯ ⟨.int z.length,H,I.tok _,⟨_,rfl⟩,q⟩
theorem eG.or{f:Value}{r r':List V->Hp->VK->Prop}(h:eG X f r)(h':eG X f r'):eG X f (λxs H Q=>r xs H Q\/r' xs H Q):=by
 intro pins s σ H xs us Q I rs q;rcases q with q|q
 ·exact h pins s σ H xs us Q I rs q
 ·exact h' pins s σ H xs us Q I rs q
theorem sU:eG X (.type "list") (λxs H Q=>∃p ys,xs=[.ref p]/\(jr X.K H p ys\/nB X.K H p ys)/\∀l,H l=none->Q (.ref l) (upd H l (.lst ys))):=by
 intro pins s σ H xs us Q I r h;obtain⟨p,ys,rfl,hq,q⟩:=h;obtain⟨u,rfl,rx⟩:=vals1 r;cases rx;have fin:∀(its:List Value),Vals ys its->ys.length<=sizeLine->∀(h':Heap) (c':Nat),(∀b o',s.heap.get? b=some o'->h'.get? b=some o') ->
   h'.get? s.heap.objs.size=some {cls:=.type "list",dict:=none,data:=.seq its.toArray c',slots:=#[]}->EP X pins σ Q (.ref s.heap.objs.size) {s with heap:=h'}:=λits r' hz h' c' kp e =>
  ⟨.ref s.heap.objs.size,_,I.laid (t':=s.toks) kp (Nat.le_refl _) (show bX X.prog X.w _ h' _ (.lst ys)from⟨hz,its,c',r',e⟩),rfl,q _ (I.bc.fresh (Nat.le_refl _))⟩
 rcases hq with hq|hq
 ·obtain⟨its,r',pl,hz⟩:=I.list hq
  have hlen:=r'.length;obtain⟨o,ho,hc,n,hd⟩:=pl.isList;exact call_list_seq p (.inl rfl) ho hc hd (λh' c' kp e=>fin its r' hz h' c' kp e) (by simp only[List.size_toArray]<;>omega)
 ·obtain⟨its,r',pl,hz⟩:=I.tuple hq
  have hlen:=r'.length;obtain⟨o,ho,hc,n,hd⟩:=pl;exact call_list_seq p (.inr rfl) ho hc hd (λh' c' kp e=>fin its r' hz h' c' kp e) (by simp only[List.size_toArray]<;>omega)
theorem qB:eG X (.type "tuple") (λxs H Q=>∃p ys,xs=[.ref p]/\((jr X.K H p ys/\∀l,H l=none->Q (.ref l) (upd H l (.tup ys)))\/(nB X.K H p ys/\Q (.ref p) H))):=by
 intro pins s σ H xs us Q I r h;obtain⟨p,ys,rfl,h⟩:=h;obtain⟨u,rfl,rx⟩:=vals1 r;cases rx;rcases h with⟨hq,q⟩|⟨hq,q⟩
 ·obtain⟨its,r',pl,hz⟩:=I.list hq
  have hlen:=r'.length;refine call_tuple_list pl.isList (λh' kp=>?_) (by simp only[List.size_toArray]<;>omega)
  have I1:Inv X pins σ H {s with heap:=h'}:=I.kept (t':=s.toks) kp
  have I2:Inv X pins σ (upd H h'.objs.size (.tup ys)) {s with heap:=h'.push {cls:=.type "tuple",data:=.seq its.toArray}}:=
   I1.laid (t':=s.toks) (λb o e=>Heap.get?_push_of_some _ e) (Nat.le_refl _) (show bX X.prog X.w _ _ _ (.tup ys)from⟨hz,its,r',IsTup.new _ _⟩)
  exact⟨.ref h'.objs.size,_,I2,rfl,q _ (I1.bc.fresh (Nat.le_refl _))⟩
 ·obtain⟨its,r',pl,hz⟩:=I.tuple hq
  exact call_tuple_same pl ⟨.ref p,H,I,rfl,q⟩
def tyV(K:PySem.W.Frag)(T:String)(x:V)(H:Hp):Prop:=match x with
 | .str _=>T="str"
 | .int _=>T="int"
 | .ref p=>(T="list"/\∃xs,jr K H p xs)\/(T="tuple"/\∃o,K.lookup p=some o/\o.cls=.type "tuple"/\o.dict=none) \/
   (T="dict"/\((∃kvs,H p=some (.dK kvs))\/∃kvs,H p=some (.dT kvs)))\/(T="set"/\∃S n,H p=some (.set S n))
 | _=>False
theorem Ve{pins:List (Addr×Obj)}{σ:St}{H:Hp}{s:Shared}{T:String}{x:V}{v:Value}(I:Inv X pins σ H s)(r:RelV x v)(ty:tyV X.K T x H):
  s.TypeIs v T/\∀a,v=.ref a->∃ob,s.heap.get? a=some ob/\ob.dict=none:=by
 cases x with
 | str z =>
  obtain⟨t,rfl⟩:=r;cases(show T="str" from ty)
  exact⟨typeIs_str s z t,λ_ e=>nomatch e⟩
 | int i =>
  obtain⟨t,rfl⟩:=r;cases(show T="int" from ty)
  exact⟨typeIs_int s i t,λ_ e=>nomatch e⟩
 | ref p =>
  cases r;rcases ty with⟨rfl,xs,hq⟩|⟨rfl,o,hk,hc,hd⟩|⟨rfl,hk⟩|⟨rfl,S,n,hk⟩
  ·obtain⟨its,_,pl,_⟩:=I.list hq
   refine⟨pl.isList.typeIs,λa e=>?_⟩;cases e;obtain⟨o,n,e,c,hd,_⟩:=pl;exact⟨o,e,hd⟩
  ·refine⟨⟨o,I.iB p o hk,hc⟩,λa e=>?_⟩
   cases e;exact⟨o,I.iB _ o hk,hd⟩
  ·have z:∃o,s.heap.get? p=some o/\o.ExactDict:=by
    rcases hk with⟨kvs,hk⟩|⟨kvs,hk⟩
    ·obtain⟨_,_,_,_,o,_,_,e,ex,_⟩:=I.bc p _ hk
     exact⟨o,e,ex⟩
    ·obtain⟨_,_,_,_,o,_,_,e,ex,_⟩:=I.bc p _ hk
     exact⟨o,e,ex⟩
   obtain⟨o,e,ex⟩:=z;refine⟨⟨o,e,ex.1⟩,λa e2=>?_⟩;cases e2;exact⟨o,e,ex.2.1⟩
  ·obtain⟨o,_,_,_,e,ex,_⟩:=I.bc p _ hk
   refine⟨⟨o,e,ex.1⟩,λa e2=>?_⟩;cases e2;exact⟨o,e,ex.2.1⟩
 | _=>exact False.elim ty
def tBM(K:PySem.W.Frag)(T:String)(r:V->List V->Hp->VK->Prop)(to:TE)(t:TA):TE:=λσ H Q=>to σ H λx H1=>tyV K T x H1/\t σ H1 λxs H2=>r x xs H2 Q
variable {o e:Expr}{es:List Expr}{to:TE}{t:TA}{name:Str}{apos c5:Pos}{T id:String}{r:V->List V->Hp->VK->Prop}
theorem Mh(pa:PlainAttrs T)(slot:Slot T name id)(hty:typeOf (.builtin id)=pure (.type "method_descriptor"))(hm:MtR X id r)(ho:PE X o to)(ha:PA X (e::es) t)
  (XS:attributeBase o name X.env (eval o X.env)=eval o X.env:=by rfl)
  (Fm:((backTo c5 (starEach (e::es) X.env)).all (λx=>!x.1)&&(backToKw c5 (keywordEach [] X.env)).all (λx=>x.1.isSome)
  &&decide ((e::es).length+([]:List Keyword).length+(if([]:List Keyword).isEmpty then 0 else 1)<30))=true:=by rfl)
  (hline:(apos.endLine==c5.line)=true:=by rfl) (hs:starEach (e::es) X.env=(false,eval e X.env)::starEach es X.env:=by rfl) (PY:(backTo c5 (starEach es X.env)).any (·.1)=false:=by rfl):
  PE X (.Call (.Attribute o name apos) (e::es) [] c5) (tBM X.K T r to t):=by
 intro pins s σ H Q I h;refine wpAny_Call_method_late XS Fm hline rfl (ck (ho pins s σ H _ I h) λv s1 ⟨x,H1,I1,r1,ty,q1⟩=>?_);obtain⟨h1,h2⟩:=Ve I1 r1 ty;refine⟨T,id,pa,slot,hty,h1,h2,?_⟩;have hA:=ha c5 pins s1 σ H1 _ I1 q1;rw[hs]at hA ⊢;refine Calls.callWith_builtin (by show(false||(backTo c5 (starEach es X.env)).any (·.1))=false;rw[PY]<;>rfl) (Calls.evalArgs_plain ?_)
 exact ck hA λus s2 ⟨vs,H2,I2,r2,q2⟩=>hm pins s2 σ H2 x vs v us Q I2 r1 r2 q2
end
end L2
namespace L2
open PySem PySem.Spec PyProof.Rows
def MtM(X:Cx)(id:String)(r:V->List V->Hp->VK->Prop):Prop:=
 ∀(pins:List (Addr×Obj)) (s:Shared) (σ:St) (H:Hp) (x:V) (xs:List V) (v:Value) (us:List Value) (Q:VK),Inv X pins σ H s->RelV x v->Vals xs us->r x xs H Q ->
  wpAny (model X.prog X.w) X.A (call (.builtin id) (v::us)) (EP X pins σ Q) X.xe s
theorem Vals.one:∀ {x:V} {us:List Value},Vals [x] us->∃u,us=[u]/\RelV x u
 | _,_,.cons r .nil=>⟨_,rfl,r⟩
theorem Vals.reverse{xs:List V}{us:List Value}(h:Vals xs us):Vals xs.reverse us.reverse:=by
 induction h with
 | nil=>exact .nil
 | cons r t ih=>rw[List.reverse_cons,List.reverse_cons];exact Vals.append ih (.cons r .nil)
theorem Vals.rep{xs:List V}{us:List Value}(h:Vals xs us):∀k:Nat,Vals (List.replicate k xs).flatten (List.replicate k us).flatten
 | 0=>.nil
 | k+1=>by
  rw[List.replicate_succ,List.replicate_succ,List.flatten_cons,List.flatten_cons];exact Vals.append h (Vals.rep h k)
theorem foldl_rep(its:List Value):∀(k:Nat) (acc:List Value),
  List.foldl (λx1 x2=>x1++x2) acc.toArray (List.replicate k its.toArray)=(acc++(List.replicate k its).flatten).toArray
 | 0,acc=>by simp
 | k+1,acc=>by
  have e:acc.toArray++its.toArray=(acc++its).toArray:=by simp
  have e2:(acc++its)++(List.replicate k its).flatten=acc++(List.replicate (k+1) its).flatten:=by
   rw[List.replicate_succ,List.flatten_cons,List.append_assoc]
  rw[<- e2,<- foldl_rep its k (acc++its),<- e,List.replicate_succ,List.foldl_cons]
section
variable {X:Cx}{pins:List (Addr×Obj)}{σ:St}{H:Hp}{s:Shared}{l b:Addr}{xs ys zs:List V}
theorem Inv.abE{its its':List Value}{n:Nat}{f:Array Value->Array Value}{t':Nat}(I:Inv X pins σ H s)(hH:H l=some (.lst xs))
  (e:s.heap.get? l=some {cls:=.type "list",data:=.seq its.toArray n}) (hf:f its.toArray=its'.toArray) (hv:Vals ys its') (hz:ys.length<=sizeLine):
  Inv X pins σ (upd H l (.lst ys)) {s with heap:=s.heap.update l (Obj.mapSeq f),toks:=t'}:=by
 have q:=PySem.IsL.update e f;rw[hf]at q;refine I.write (x:=l) (e:=l) (by rw[hH];exact trivial) (.inl rfl) (λb' u hb hu=>(Heap.get?_update_other s.heap (Obj.mapSeq f) (Ne.symm hb)).trans hu) ⟨_,q⟩ ?_
 exact⟨hz,its',_,hv,q⟩
theorem Inv.QP{its:List Value}{t':Nat}(I:Inv X pins σ H s)(hv:Vals ys its)(hz:ys.length<=sizeLine):
  Inv X pins σ (upd H s.heap.objs.size (.lst ys)) {s with heap:=s.heap.push {cls:=.type "list",data:=.seq its.toArray},toks:=t'}:=
 I.laid (λ_ _ q=>Heap.get?_push_of_some _ q) (Nat.le_refl _) ⟨hz,its,0,hv,Heap.get?_push_size _ rfl⟩
theorem Inv.fresh(I:Inv X pins σ H s):H s.heap.objs.size=none:=I.bc.fresh (Nat.le_refl _)
theorem Inv.abF(I:Inv X pins σ H s)(hH:H l=some (.lst xs)):xs.length<=sizeLine/\∃(its:List Value) (n:Nat),Vals xs its/\xs.length=its.length/\s.heap.get? l=some {cls:=.type "list",data:=.seq its.toArray n}:=by
 obtain⟨z,its,n,r,e⟩:=I.bc l _ hH;exact⟨z,its,n,r,r.length,e⟩
theorem FY{n:Nat}(h:n<=sizeLine):Builtin.List.listTooLong n=false:=by
 unfold Builtin.List.listTooLong;exact decide_eq_false ⋯
end
section
variable {X:Cx}
def Kn:V->List V->Hp->VK->Prop:=λx vs H Q=>∃l xs y,x=.ref l/\vs=[y]/\H l=some (.lst xs)/\xs.length<sizeLine/\Q .aU (upd H l (.lst (xs++[y])))
theorem rZ:MtM X "list.append" Kn:=by
 intro pins s σ H x vs v us Q I rx rv h;obtain⟨l,xs,y,rfl,rfl,hH,hz,q⟩:=h;cases rx;obtain⟨u,rfl,ru⟩:=rv.one;obtain⟨z,its,n,r,hl,e⟩:=I.abF hH;refine call_meets F.slot_list_append ⟨_,e,rfl⟩ F.entry_list_append (F.args_list_append_2 _ _) (PySem.list_append l its.toArray n u (by rw[List.size_toArray];omega)) ⟨e,?_⟩
 refine⟨.aU,_,I.abE (its':=its++[u]) hH e (by simp) (r.append (.cons ru .nil)) ?_,rfl,q⟩
 rw[List.length_append,List.length_singleton];omega
theorem len_rep{α:Type}(xs:List α)(k:Nat):(List.replicate k xs).flatten.length=k*xs.length:=by
 induction k with
 | zero=>simp
 | succ k ih=>rw[List.replicate_succ,List.flatten_cons,List.length_append,ih,Nat.succ_mul,Nat.add_comm]
end
end L2
namespace Att
open PySem PySem.W PySem.Calls PyProof.Rows
theorem oq{P:Params}{h:Heap}:∀(ns:List Int) (vs:List Value),WellAll P h vs (ns.map WData.int)->IntsAre vs ns:=by
 intro ns
 induction ns with
 | nil =>
  intro vs w;rw[List.map_nil]at w;cases w;exact .nil
 | cons n ns ih =>
  intro vs w;rw[List.map_cons]at w;cases w with
  | cons a b =>
   cases a;exact .cons _ _ (ih _ b)
theorem Ck{l:OpenLaw}{n:Nat}(hn:l.most=some n){P:Params}{h:Heap}{args:List WData}{vals:List Value}
  (BO:l.row.toRowW.claim.pre args=true) (VJ:WellAll P h vals args):
  ∃a vs ns,vals=[Value.ref a]/\args=[WData.list (ns.map WData.int)]/\h.get? a=some {cls:=.type "list",data:=.seq vs.toArray}/\IntsAre vs ns/\ns.length<=n:=by
 have hsh:WShape.hasAll [] args [.list .int]=true:=(pre_splitW BO).1;have hc:l.pre.holds [] {args:=args}=true:=(pre_splitW BO).2;obtain⟨d,r,rfl,h1,h2⟩:=hasAllW_cons hsh;obtain rfl:=hasAllW_nil h2;obtain⟨xs,rfl,h3⟩:=hasW_list h1;obtain⟨ns,rfl⟩:=items_int h3;have hlen:ns.length<=n:=by
  unfold OpenLaw.pre at hc;have h4:(WTm.not (.lt (.lit (.int (n:Int))) (.len (.arg 0)))).holds [] {args:=[.list (ns.map .int)]}=true:=by
   have h4:=(holds_andW hc).1;rw[hn]at h4;exact h4
  have h5:=condW_of h4 (w_not (w_lt w_lit (w_len_list (w_arg rfl))));rw[List.length_map]at h5;refine Nat.le_of_not_lt λq=>?_;have q':(n:Int)<((ns.length:Nat):Int):=by omega
  first
   | (rw[decide_eq_true q']at h5;exact absurd h5 ∅)
   | (simp at h5;omega)
 cases VJ with
 | cons w1 w2 =>
  cases w2;cases w1 with
  | list ho Fh=>exact⟨_,_,ns,rfl,rfl,ho,oq ns _ Fh,hlen⟩
theorem Cb(l:OpenLaw)(args:List WData):l.row.toRowW.claim.post args (.bool true) args=true:=
 postW_of (r:=l.row.toRowW) (X:=(true==true))
  (show WShape.has [] (.bool true) .bool=true by first|rfl|decide|simp [WShape.has,WShape.arms,WShape.armsAll])
  (show(WTm.eq .res (.lit (.bool true))).value [] {args:=args,res:=some (.bool true),after:=args}=some (.bool (true==true))from w_eq_bool (w_res rfl) w_lit) rfl
theorem vC{l:OpenLaw}{n:Nat}{q:Program}{loose:List Str}{XP:(Str->Option Value)->Heap->Prop}{YP:World->Heap->Prop}{d:DefRec}
  (hn:l.most=some n) (XW:d.params.defaults=[])
  (call:∀(w:World) (bT bP:Shared) (mg mb:Str->Option Value) (fa:Addr) (o:Obj) (pm cd doc:Value) (a:Addr) (vs:List Value) (ns:List Int),
   Ground q loose [] XP w bT mg mb bP.heap->YP w bP.heap ->
   bP.heap.get? fa=some o->o.data=.func (docDef d.name d.params d.body d.scope pm cd doc)->bP.heap.CodeRec cd d.name->mg d.name=some (.ref fa) ->
   bP.heap.get? a=some {cls:=.type "list",data:=.seq vs.toArray}->IntsAre vs ns->ns.length<=n->bP.gens=#[] ->
   codeAny (model l.prog w) callerA (.call (.ref fa) ⟨[.ref a],[]⟩) (λr s'=>r=.ok (.ret (.bool true))/\OldK bP.heap s'.heap/\s'.os=bP.os/\AllBare s'.gens) bP):
  WalkO q loose XP YP l.row.toRowW d [] (λf vs=>PySem.call f vs):=by
 intro w bT bP mg mb G Y fa o pm cd doc dV kV ho hd iu hD hmg hg args vals as BO X5 hrd VJ hlo;obtain rfl:dV=.none:=Dflts.none hD XW;obtain rfl:kV=.none:=Dflts.noKw hD;obtain⟨a,vs,ns,rfl,rfl,PU,hints,hlen⟩:=Ck hn BO VJ;refine enter_call (codeAny_mono (call w bT bP mg mb fa o pm cd doc a vs ns G Y ho (fd_plain hd) iu hmg PU hints hlen hg) λr s' hq=>?_);obtain⟨rfl,h2,h3,h4⟩:=hq;exact⟨.inl ⟨.bool true,.bool true,[],rfl,λ_=>rfl,.bool true,Cb l _,λ_=>⟨List.Pairwise.nil,λ_ hm=>(nomatch hm)⟩⟩,h2,h3,h4⟩
end Att
namespace L2
open PySem PySem.Spec PyProof.Rows
theorem gP:∀ {vs:List Value} {ns:List Int},IntsAre vs ns->Vals (ns.map V.int) vs
 | _,_,.nil=>.nil
 | _,_,.cons n t h=>.cons ⟨t,rfl⟩ (gP h)
def Only(H:Hp):Prop:=∀b,H b=none\/∃o xs,H b=some (.tH o (.lst xs))
theorem FI{P:Program}{w:World}{K:PySem.W.Frag}{mg mb:Str->Option Value}{CX:zG}{k:Nat}{fa a:Addr}{fd:FuncData}{x:Str}{sp:Sp}{bP:Shared}{vs:List Value}{ns:List Int}
  (KX:K.In bP.heap) (hns:bP.heap.Ns mainGlobals mg) (hb:bP.heap.Ns builtinsNs mb) (hbb:∀x:Str,x≠"__name__"->mb x=bootBuiltins x) (abf:bP.heap.NoLimit) (hg:bP.gens=#[])
  (ha:bP.heap.get? a=some {cls:=.type "list",data:=.seq vs.toArray}) (hi:IntsAre vs ns) (hl:ns.length<=sizeLine) (hr:fk k callerA)
  (F:∀base:Heap,K.In base->base.Ns mainGlobals mg->bW P w K mg base CX k fa fd [x] sp) (XT:∀(s:Shared) (u:Value),BindsTo s fd ⟨[u],[]⟩ [(x,u)])
  (pA:∀H:Hp,Only H->jr K H a (ns.map V.int)->sp [.ref a] H (λv _=>v=.bl true) λ_ _ _=>False)
  (hCX:∀H e s',CX [] H bP (λ_ _ _=>False) e s'->False):
  codeAny (model P w) callerA (.call (.ref fa) ⟨[.ref a],[]⟩) (λr s'=>r=.ok (.ret (.bool true))/\OldK bP.heap s'.heap/\s'.os=bP.os/\AllBare s'.gens) bP:=by
 have rv:=gP hi;have abD:=hi.length
 -- from an abstract heap in which nothing but the script may be tracked
 have core:∀H:Hp,Only H->jr K H a (ns.map V.int)->gf P w H bP.heap->(∀b,H b≠none->b=a)->(H a≠none->K.lookup a=none) ->
   codeAny (model P w) callerA (.call (.ref fa) ⟨[.ref a],[]⟩) (λr s'=>r=.ok (.ret (.bool true))/\OldK bP.heap s'.heap/\s'.os=bP.os/\AllBare s'.gens) bP:=by
  intro H hO hS bc hA hK;have zQ:∀ {b:Addr} {o:Obj},bP.heap.get? b=some o->H b=none->(tL bP.heap H).get? b=some o:=λe n=>Fq e n;have YK:∀ {b:Addr} {o:Obj} {es:Array DictEntry} {ep:Nat},bP.heap.get? b=some o->o.data=.dict es ep->H b=none:=λ{b o es ep} e d=>by
   cases q:H b with
   | none=>rfl
   | some u =>
    have e':b=a:=hA b (by rw[q];simp)
    subst e';rw[ha]at e;cases e;have d':Data.seq vs.toArray _=Data.dict es ep:=d;cases d'
  have nsK:∀ {b:Addr} {m:Str->Option Value},bP.heap.Ns b m->(tL bP.heap H).Ns b m:=λ{b m} ⟨o,es,ep,e,d,r⟩=>⟨o,es,ep,zQ e (YK e d),d,r⟩;have hKb:K.In (tL bP.heap H):=λb o e=>zQ (KX b o e) (by
   cases q:H b with
   | none=>rfl
   | some u =>
    have e':b=a:=hA b (by rw[q];simp)
    subst e';rw[hK (by rw[q];simp)]at e;cases e)
  have hM:Mod K mg (tL bP.heap H):=⟨hKb,nsK hns,⟨mb,nsK hb,hbb⟩,let ⟨mc,h1,h2⟩:=abf;⟨mc,nsK h1,h2⟩⟩;have e0:sA P w K mg (tL bP.heap H) callerA [] bP H:=⟨rfl,hM,λb o e=>JS e,Nat.le_of_eq (BJ _ _),trivial,λb hb=>absurd (show b∈([]:List Addr)from hb) (by simp),bc,.of_eq hg⟩
  refine codeAny_mono ((F _ hKb (nsK hns)).run callerA [] bP H ⟨[.ref a],[]⟩ [.ref a] [.ref a] _ _ hr e0 (XT bP (.ref a)) (.cons rfl .nil) (pA H hO hS)) λr s' h=>?_;cases r with
  | error e=>exact(hCX H e s' h).elim
  | ok fl =>
   cases fl with
   | next=>exact False.elim h
   | brk=>exact False.elim h
   | cont=>exact False.elim h
   | ret u =>
    obtain⟨v,H',os,bare,un,abl,r',q⟩:=h;have q':v=.bl true:=q;subst q';obtain rfl:u=Value.bool true:=r';refine⟨rfl,OldK.of_keep λb o e=>?_,os,bare⟩;cases q:H b with
    | none=>exact un.keep b o e q (by intro z;exact absurd (show b∈([]:List Addr)from z) (by simp)) (by simp)
    | some u =>
     rcases hO b with z|⟨ob,xs,z⟩
     ·rw[q]at z;cases z
     ·have z2:=un.oi b ob _ z
      obtain⟨e1,_⟩:=bc b _ z;obtain⟨e2,_⟩:=abl b _ z2;rw[e]at e1;cases e1;exact e2
 cases hk:K.lookup a with
 | some o =>
  -- the script is one of the module's own objects
  have e:=KX a o hk;rw[ha]at e;cases e;refine core (λ_=>none) (λ_=>.inl rfl) (.inr ⟨_,vs.toArray,_,hk,rfl,rfl,rfl,by rw[List.size_toArray,abD];exact hl,by simpa using rv⟩) (λb u z=>by have z':(none:Option HO)=some u:=z;cases z') (λb z=>absurd rfl z) λz=>absurd rfl z
 | none =>
  refine core (λb=>if b=a then some (.tH {cls:=.type "list",data:=.seq vs.toArray} (.lst (ns.map V.int)))else none) (λb=>?_) (.inl (.inr ⟨{cls:=.type "list",data:=.seq vs.toArray},if_pos rfl⟩)) (λb u z=>?_) (λb z=>?_) λ_=>hk
  ·by_cases hb:b=a
   ·exact .inr ⟨_,_,if_pos hb⟩
   ·exact .inl (if_neg hb)
  ·by_cases hb:b=a
   ·have z':=(if_pos hb).symm.trans z
    cases z';subst hb;exact⟨ha,by rw[List.length_map];exact hl,vs,_,rv,ha⟩
   ·have z':=(if_neg hb).symm.trans z
    cases z'
  ·by_cases hb:b=a
   ·exact hb
   ·exact absurd (if_neg hb) z
end L2
namespace L2
open PySem PySem.Spec PyProof.Rows
theorem K0{l:PySem.W.OpenLaw}{n k:Nat}{q:Program}{loose:List Str}{XP:(Str->Option Value)->Heap->Prop}{YP:World->Heap->Prop}{d:DefRec}{K:Params->PySem.W.Frag}{CX:World->zG}{sp:World->Sp}{x:Str}
  (hn:l.most=some n) (hn2:n<=sizeLine) (XW:d.params.defaults=[]) (hr:fk k callerA)
  (hY:∀(w:World) (h:Heap),YP w h->(K w.params).In h)
  (F:∀(w:World) (mg:Str->Option Value) (fa:Addr) (h:Heap),(K w.params).In h->h.Ns mainGlobals mg->mg d.name=some (.ref fa) ->
   ∃fd:FuncData,(∀(s:Shared) (u:Value),BindsTo s fd ⟨[u],[]⟩ [(x,u)]) /\
    ∀base:Heap,(K w.params).In base->base.Ns mainGlobals mg->bW l.prog w (K w.params) mg base (CX w) k fa fd [x] (sp w))
  (pA:∀(w:World) (H:Hp) (a:Addr) (ns:List Int),ns.length<=n->Only H->jr (K w.params) H a (ns.map V.int)->sp w [.ref a] H (λv _=>v=.bl true) λ_ _ _=>False)
  (hCX:∀(w:World) (H:Hp) (s:Shared) (e:Value) (s':Shared),CX w [] H s (λ_ _ _=>False) e s'->False):
  PySem.W.WalkO q loose XP YP l.row.toRowW d [] (λf vs=>PySem.call f vs):=by
 refine Att.vC hn XW λw bT bP mg mb fa o pm cd doc a vs ns G Y ho hd iu hmg PU hints hlen hg=>?_;have KX:=hY w _ Y;obtain⟨fd,hb,hF⟩:=F w mg fa _ KX G.T.g hmg;exact FI KX G.T.g G.T.b G.T.builtins G.T.nolimit hg PU hints (Nat.le_trans hlen hn2) hr hF hb (λH hO hS=>pA w H a ns hlen hO hS) λH e s'=>hCX w H bP e s'
end L2
namespace L2
open PySem PySem.Spec PyProof.Rows
def inClass(s:Stmt)(j:Nat):Stmt:=match s with
 | .ClassDef _ _ _ body _ _ _ _ _ _ _=>body.getD j (.Pass ⟨0,0,0,0⟩)
 | _=>.Pass ⟨0,0,0,0⟩
def aP(s:Stmt):Arguments:=match s with
 | .FunctionDef _ a _ _ _ _ _ _ _ _=>a
 | _=>{posonlyargs:=[],args:=[],vararg:=none,kwonlyargs:=[],kw_defaults:=[],kwarg:=none,defaults:=[]}
def ak(s:Stmt):List Stmt:=match s with
 | .FunctionDef _ _ b _ _ _ _ _ _ _=>b
 | _=>[]
def ae(s:Stmt):Scope:=match s with
 | .FunctionDef _ _ _ _ _ _ sc _ _ _=>sc
 | _=>{kind:=.function,names:=[],isGenerator:=false,isCoroutine:=false}
abbrev iL:zG:=λ_ _ _ _ _ _=>False
abbrev E0:XK:=λ_ _ _=>False
theorem nO{X:Cx}:Passes iL X E0:=λ_ _ _ _ _ _ _ h=>h.elim
structure xZ(K:PySem.W.Frag)(x qual:Str)(st:Stmt)(f:Addr)(fd:FuncData):Prop where
 ex:∃(oc:Value) (od:Option Addr) (kV doc pm:Value) (an:Option Addr) (gh ct:Value) (F9:Array (Option Value)),
  fd=PySem.W.fnOf x qual (aP st) (ak st) (ae st) .none kV doc pm an gh ct/\K.lookup f=some ⟨oc,od,.func fd,F9⟩/\PySem.W.codeIn K gh qual=true
 kp:PySem.W.keepIn K (.ref f)=true
section
variable {P:Program}{w:World}{K:PySem.W.Frag}{mg:Str->Option Value}{base:Heap}
theorem xZ.ok{x qual:Str}{st:Stmt}{f:Addr}{fd:FuncData}{N ps:List Str}{k:Nat}{sp:Sp}(F:xZ K x qual st f fd)(S:aC N ps (ae st))(len:∀vs H Q E,sp vs H Q E->vs.length=ps.length)
  (Fj:∀(gh:Value) (A:Around) (outer:List Env) (s:Shared) (H:Hp) (vs:List V) (Q:VK) (E:XK),fk k (A.deeper (envOfC qual (ae st) s.heap.objs.size f gh))->sp vs H Q E ->
   ∃t,sG (kz iL P w K mg base N qual (ae st) f gh A outer s H E).JR (ak st) t/\t {nx:=λ_ H'=>Q .aU H',rt:=Q} (start N vs) H):bW P w K mg base iL (k+1) f fd ps sp:=by
 obtain⟨oc,od,kV,doc,pm,an,gh,ct,F9,rfl,lk,iu⟩:=F.ex;refine EH lk iu S len λA outer s H vs Q E hr pA=>?_;obtain⟨t,h,q⟩:=Fj gh A outer s H vs Q E hr pA;exact⟨t,h.JR,q⟩
theorem xZ.binds{x qual:Str}{st:Stmt}{f:Addr}{fd:FuncData}{ps:List Str}(F:xZ K x qual st f fd)
  (h:∀(kV doc pm:Value) (an:Option Addr) (gh ct:Value) (us:List Value),us.length=ps.length->bindArgs (PySem.W.fnOf x qual (aP st) (ak st) (ae st) .none kV doc pm an gh ct) ⟨us,[]⟩=pure (ps.zip us)):Binds K fd ps []:=by
 obtain⟨oc,od,kV,doc,pm,an,gh,ct,F9,rfl,lk,iu⟩:=F.ex;exact .all (h kV doc pm an gh ct)
theorem bj{x qual:Str}{st:Stmt}{f:Addr}{oc:Value}{od an:Option Addr}{F9:Array (Option Value)}{kV doc pm gh ct:Value}(l:K.lookup f=some ⟨oc,od,.func (PySem.W.fnOf x qual (aP st) (ak st) (ae st) .none kV doc pm an gh ct),F9⟩)
  (c:PySem.W.codeIn K gh qual=true) (k:PySem.W.keepIn K (.ref f)=true):xZ K x qual st f (PySem.W.fnOf x qual (aP st) (ak st) (ae st) .none kV doc pm an gh ct):=⟨⟨oc,od,kV,doc,pm,an,gh,ct,F9,rfl,l,c⟩,k⟩
end
def au(H H':Hp):Prop:=∀b o,H b=some o->H' b=some o
theorem au.refl(H:Hp):au H H:=λ_ _ h=>h
theorem au.trans{H H1 H2:Hp}(a:au H H1)(b:au H1 H2):au H H2:=λc o h=>b c o (a c o h)
theorem au.free{H H':Hp}(e:au H H'){l:Addr}(h:H' l=Option.none):H l=Option.none:=by
 cases q:H l with
 | none=>rfl
 | some o =>
  rw[e l o q]at h;cases h
theorem au.seq{K:PySem.W.Frag}{H H':Hp}{a:Addr}{xs:List V}(e:au H H')(h:jr K H a xs):jr K H' a xs:=by
 rcases h with(h|⟨o,h⟩)|h
 ·exact .inl (.inl (e _ _ h))
 ·exact .inl (.inr ⟨o,e _ _ h⟩)
 ·exact .inr h
end L2
namespace L2
open PySem PySem.Spec PyProof.Rows
section
variable {κ:Type}[DecidableEq κ]
def jq(kvs:List (κ×V))(k:κ):Option V:=(kvs.find? λkv=>decide (kv.1=k)).map (·.2)
def putK(kvs:List (κ×V))(k:κ)(v:V):List (κ×V):=
 if(kvs.any λkv=>decide (kv.1=k))=true then kvs.map (λkv=>if kv.1=k then(kv.1,v)else kv)else kvs++[(k,v)]
def nF(kvs:List (κ×V))(k:κ):List (κ×V):=kvs.filter λkv=>decide (kv.1≠k)
theorem mx{p:κ×V}{r:List (κ×V)}{k:κ}(e:p.1=k):jq (p::r) k=some p.2:=by simp [jq,List.find?_cons,e]
theorem mw{p:κ×V}{r:List (κ×V)}{k:κ}(e:¬p.1=k):jq (p::r) k=jq r k:=by simp [jq,List.find?_cons,e]
theorem xJ(k:κ):∀kvs:List (κ×V),(kvs.any λkv=>decide (kv.1=k))=(jq kvs k).isSome
 | []=>rfl
 | p::r=>by
  rw[List.any_cons]
  by_cases e:p.1=k
  ·simp only[mx e,decide_eq_true e,Bool.true_or,Option.isSome_some]
  ·rw[mw e,decide_eq_false e,Bool.false_or];exact xJ k r
theorem nK(kvs:List (κ×V))(k:κ)(v:V):(putK kvs k v).length<=kvs.length+1:=by
 unfold putK
 split
 ·rw[List.length_map];omega
 ·rw[List.length_append,List.length_cons,List.length_nil];omega
theorem iR.mS{o:Option V}{u:Option Value}(r:iR o u):o.isSome=u.isSome:=by
 cases o with
 | none=>cases u with
  | none=>rfl
  | some _=>exact(show False from r).elim
 | some _=>cases u with
  | none=>exact(show False from r).elim
  | some _=>rfl
theorem KV.val{kvs:List (κ×V)}{vs:List (κ×Value)}(r:KV kvs vs)(k:κ):iR (jq kvs k) (valueAt vs k):=by
 unfold KV at r
 induction r with
 | nil=>exact True.intro
 | @cons p q ps qs h t ih =>
  obtain⟨h1,h2⟩:=h
  by_cases e:p.1=k
  ·have e':q.1=k:=h1.symm.trans e
   have b:valueAt (q::qs) k=some q.2:=by simp [valueAt,List.find?_cons,e']
   rw[mx e,b];exact h2
  ·have e':¬q.1=k:=λz=>e (h1.trans z)
   have b:valueAt (q::qs) k=valueAt qs k:=by simp [valueAt,List.find?_cons,e']
   rw[mw e,b];exact ih
theorem KV.any{kvs:List (κ×V)}{vs:List (κ×Value)}(r:KV kvs vs)(k:κ):(kvs.any λkv=>decide (kv.1=k))=vs.any λkv=>decide (kv.1=k):=by
 unfold KV at r
 induction r with
 | nil=>rfl
 | cons h t ih=>rw[List.any_cons,List.any_cons,ih,h.1]
theorem KV.repl{kvs:List (κ×V)}{vs:List (κ×Value)}(r:KV kvs vs)(k:κ){y:V}{u:Value}(ry:RelV y u):
  KV (kvs.map λkv=>if kv.1=k then(kv.1,y)else kv) (vs.map λkv=>if kv.1=k then(kv.1,u)else kv):=by
 unfold KV at r ⊢
 induction r with
 | nil=>exact .nil
 | @cons p q ps qs h t ih =>
  rw[List.map_cons,List.map_cons];refine .cons ?_ ih;obtain⟨h1,h2⟩:=h
  by_cases e:p.1=k
  ·rw[if_pos e,if_pos (h1.symm.trans e)];exact⟨h1,ry⟩
  ·rw[if_neg e,if_neg (λz=>e (h1.trans z))];exact⟨h1,h2⟩
theorem KV.put{kvs:List (κ×V)}{vs:List (κ×Value)}(r:KV kvs vs)(k:κ){y:V}{u:Value}(ry:RelV y u):KV (putK kvs k y) (stored vs k u):=by
 unfold putK stored;rw[r.any k]
 by_cases e:(vs.any λkv=>decide (kv.1=k))=true
 ·rw[if_pos e,if_pos e];exact r.repl k ry
 ·rw[if_neg e,if_neg e];exact Paired.snoc r ⟨rfl,ry⟩
theorem KV.drop{kvs:List (κ×V)}{vs:List (κ×Value)}(r:KV kvs vs)(k:κ):KV (nF kvs k) (without vs k):=by
 unfold KV at r ⊢;unfold nF without
 induction r with
 | nil=>exact .nil
 | @cons p q ps qs h t ih =>
  obtain⟨h1,h2⟩:=h;rw[List.filter_cons,List.filter_cons]
  by_cases e:p.1=k
  ·have a:¬decide (p.1≠k)=true:=by simp [e]
   have b:¬decide (q.1≠k)=true:=by simp [h1.symm.trans e]
   rw[if_neg a,if_neg b];exact ih
  ·have e':¬q.1=k:=λz=>e (h1.trans z)
   have a:decide (p.1≠k)=true:=by simp [e]
   have b:decide (q.1≠k)=true:=by simp [e']
   rw[if_pos a,if_pos b];exact .cons ⟨h1,h2⟩ ih
theorem KV.length{kvs:List (κ×V)}{vs:List (κ×Value)}(r:KV kvs vs):kvs.length=vs.length:=Paired.length r
theorem Eo(kvs:List (κ×V))(k:κ):(nF kvs k).length<=kvs.length:=List.length_filter_le _ _
end
theorem wD{P:Program}{w:World}{k:Key}{u:Value}(r:RelV (kV k) u):(cF P w).is k u=true:=by
 cases k with
 | inl i=>obtain⟨t,e⟩:=(show∃t,u=Value.int i t from r);subst e;exact wO P w i t
 | inr x=>obtain⟨t,e⟩:=(show∃t,u=Value.str x t from r);subst e;exact wQ P w x t
theorem rR{P:Program}{w:World}:∀ {ks:List Key} {us:List Value},Vals (ks.map kV) us->ItemsAre (cF P w) ks us
 | [],_,r=>by rw[List.map_nil]at r;cases r;exact .nil
 | k::ks,_,r=>by
  rw[List.map_cons]at r;cases r with
  | cons h t=>exact .cons (wD h) (rR t)
abbrev KT(H:Hp):List (List Key×V)->List (List Key×Addr×Value)->Prop:=Paired λp q=>p.1=q.1/\H q.2.1=some (.tup (p.1.map kV))/\RelV p.2 q.2.2
theorem KT.val{H:Hp}{kvs:List (List Key×V)}{xs:List (List Key×Addr×Value)}(r:KT H kvs xs)(k:List Key):iR (jq kvs k) ((atKey xs k).map (·.2)):=by
 induction r with
 | nil=>exact True.intro
 | @cons p q ps qs h t ih =>
  obtain⟨h1,_,h2⟩:=h
  by_cases e:p.1=k
  ·have e':q.1=k:=h1.symm.trans e
   have b:atKey (q::qs) k=some q.2:=by simp [atKey,List.find?_cons,e']
   rw[mx e,b];exact h2
  ·have e':¬q.1=k:=λz=>e (h1.trans z)
   have b:atKey (q::qs) k=atKey qs k:=by simp [atKey,List.find?_cons,e']
   rw[mw e,b];exact ih
theorem KT.repl{H:Hp}{kvs:List (List Key×V)}{xs:List (List Key×Addr×Value)}(r:KT H kvs xs)(k:List Key){y:V}{u:Value}(ry:RelV y u):
  KT H (kvs.map λkv=>if kv.1=k then(kv.1,y)else kv) (xs.map (putAt k u)):=by
 induction r with
 | nil=>exact .nil
 | @cons p q ps qs h t ih =>
  rw[List.map_cons,List.map_cons];refine .cons ?_ ih;obtain⟨h1,h2,h3⟩:=h;unfold putAt
  by_cases e:p.1=k
  ·rw[if_pos e,if_pos (h1.symm.trans e)];exact⟨h1,h2,ry⟩
  ·rw[if_neg e,if_neg (λz=>e (h1.trans z))];exact⟨h1,h2,h3⟩
theorem KT.put{H:Hp}{kvs:List (List Key×V)}{xs:List (List Key×Addr×Value)}(r:KT H kvs xs)(k:List Key){b:Addr}{y:V}{u:Value}(hb:H b=some (.tup (k.map kV)))(ry:RelV y u):
  KT H (putK kvs k y) (storedH xs k b u):=by
 have e:(kvs.any λkv=>decide (kv.1=k))=(atKey xs k).isSome:=by
  rw[xJ,(r.val k).mS,Option.isSome_map]
 unfold putK storedH;rw[e]
 by_cases q:(atKey xs k).isSome=true
 ·rw[if_pos q,if_pos q];exact r.repl k ry
 ·rw[if_neg q,if_neg q];exact Paired.snoc r ⟨rfl,hb,ry⟩
theorem KT.keeps{H H':Hp}{kvs:List (List Key×V)}{xs:List (List Key×Addr×Value)}(r:KT H kvs xs)(ht:∀b ys,H b=some (.tup ys)->H' b=some (.tup ys)):KT H' kvs xs:=
 Paired.QR r λ_ _ z=>⟨z.1,ht _ _ z.2.1,z.2.2⟩
section
variable {P:Program}{w:World}{H:Hp}{h:Heap}{a:Addr}
theorem Mq{u:HO}(ok:gf P w H h)(e:Rd H a u):bX P w H h a u:=e.ok ok
theorem rA{kvs:List (Key×V)}(ok:gf P w H h)(e:Rd H a (.dK kvs)):kvs.length<=sizeLine/\(a==sysModules)=false/\∃vs,KV kvs vs/\h.DictOf (cF P w) a vs:=
 show bX P w H h a (.dK kvs)from Mq ok e
theorem o8{kvs:List (Key×V)}(ok:gf P w H h)(e:H a=some (.dK kvs)):kvs.length<=sizeLine/\(a==sysModules)=false/\∃vs,KV kvs vs/\h.DictOf (cF P w) a vs:=rA ok (.inl e)
theorem tP{ks:List Key}(ok:gf P w H h)(e:H a=some (.tup (ks.map kV))):(tupleKind (cF P w)).is h ks a:=by
 obtain⟨_,its,r,o,h1,h2,n,h3⟩:=(show bX P w H h a (.tup (ks.map kV))from ok a _ e)
 exact⟨o,its.toArray,n,h1,h2,h3,by simpa using rR r⟩
theorem vP{kvs:List (List Key×V)}(ok:gf P w H h)(e:Rd H a (.dT kvs)):kvs.length<=sizeLine/\(a==sysModules)=false /\
  ∃xs,KT H kvs xs/\h.DictOfH (tupleKind (cF P w)) a xs:=by
 obtain⟨z,y,xs,r,o,es,ep,h1,h2,h3,h4,h5⟩:=(show bX P w H h a (.dT kvs)from Mq ok e)
 refine⟨z,y,xs,r,o,es,ep,h1,h2,h3,h4,λx hx=>?_,h5⟩;have all:∀ {l:List (List Key×V)} {m:List (List Key×Addr×Value)},KT H l m->∀x∈m,(tupleKind (cF P w)).is h x.1 x.2.1:=by
  intro l m q
  induction q with
  | nil=>intro x hx;exact nomatch hx
  | @cons p q ps qs hq t ih =>
   intro x hx;rcases List.mem_cons.mp hx with e|hx
   ·subst e
    exact tP ok (by rw[<- hq.1];exact hq.2.1)
   ·exact ih x hx
 exact all r x hx
theorem W5{kvs:List (List Key×V)}(ok:gf P w H h)(e:H a=some (.dT kvs)):kvs.length<=sizeLine/\(a==sysModules)=false /\
  ∃xs,KT H kvs xs/\h.DictOfH (tupleKind (cF P w)) a xs:=vP ok (.inl e)
end
def sy(H:Hp)(a:Addr)(y:V)(r:Option V):Prop:=
 (∃kvs k,Rd H a (.dK kvs)/\y=kV k/\r=jq kvs k)\/∃kvs k b,Rd H a (.dT kvs)/\y=.ref b/\H b=some (.tup (k.map kV))/\r=jq kvs k
def Ik(H:Hp)(a:Addr)(y v:V)(H':Hp):Prop:=
 (∃kvs k,H a=some (.dK kvs)/\y=kV k/\kvs.length<sizeLine/\H'=upd H a (.dK (putK kvs k v))) \/
 ∃kvs k b,H a=some (.dT kvs)/\y=.ref b/\H b=some (.tup (k.map kV))/\kvs.length<sizeLine/\H'=upd H a (.dT (putK kvs k v))
theorem sy.k{H:Hp}{a:Addr}{kvs:List (Key×V)}{k:Key}(e:H a=some (.dK kvs)):sy H a (kV k) (jq kvs k):=.inl ⟨kvs,k,.inl e,rfl,rfl⟩
theorem Ik.k{H:Hp}{a:Addr}{kvs:List (Key×V)}{k:Key}{v:V}(e:H a=some (.dK kvs))(hl:kvs.length<sizeLine):Ik H a (kV k) v (upd H a (.dK (putK kvs k v))):=.inl ⟨kvs,k,e,rfl,hl,rfl⟩
section
variable {X:Cx}{pins:List (Addr×Obj)}{σ:St}{H:Hp}{s:Shared}{a:Addr}{y v:V}{u r:Value}{o:Option V}{A:Around}{E:Value->Shared->Prop}
theorem Inv.big(I:Inv X pins σ H s):sysModules<s.heap.objs.size:=by
 have h:mainGlobals<s.heap.objs.size:=(I.mod.glob.keeps I.bk).lt;exact Nat.lt_trans ∅ h
theorem Bs{Q:Value->Shared->Prop}(hu:A.units+1<cLine)(I:Inv X pins σ H s)(g:sy H a y (some v))(ry:RelV y u)(h:∀w' s',Inv X pins σ H s'->RelV v w'->Q w' s'):
  wpAny (model X.prog X.w) A (getItem (.ref a) u) Q E s:=by
 rcases g with⟨kvs,k,e,ey,l⟩|⟨kvs,k,b,e,ey,eb,l⟩
 ·subst ey
  obtain⟨z,hd,vs,rel,dd⟩:=rA I.bc e;obtain⟨w',hw,xW⟩:=iR.some_of (v:=v) (o:=valueAt vs k) (by rw[l];exact rel.val k)
  exact wpAny_getItem_of (wD ry) dd.mapOf hw (h w' _ (I.tok _) xW)
 ·subst ey
  cases(show u=Value.ref b from ry)
  obtain⟨z,hd,xs,rel,dd⟩:=vP I.bc e;obtain⟨w',hw,xW⟩:=iR.some_of (v:=v) (o:=(atKey xs k).map (·.2)) (by rw[l];exact rel.val k)
  obtain⟨p,hp,VI⟩:=Option.map_eq_some_iff.mp hw;refine wpAny_getItem_heap (tupleKind_room_in1 hu) (tP I.bc eb) dd hp ?_;rw[VI];exact h w' _ (I.tok _) xW
theorem IU{Q:Value->Shared->Prop}(hu:A.units+1<cLine)(I:Inv X pins σ H s)(g:sy H a y o)(ry:RelV y u)(h:∀s',Inv X pins σ H s'->Q (.bool (!o.isSome)) s'):
  wpAny (model X.prog X.w) A (compareOp .NotIn u (.ref a)) Q E s:=by
 rcases g with⟨kvs,k,e,ey,l⟩|⟨kvs,k,b,e,ey,eb,l⟩
 ·subst ey
  obtain⟨z,hd,vs,rel,dd⟩:=rA I.bc e;refine wpAny_notIn_of (wD ry) hd dd.mapOf ?_;rw[<- (rel.val k).mS,<- l];exact h _ (I.tok _)
 ·subst ey
  cases(show u=Value.ref b from ry)
  obtain⟨z,hd,xs,rel,dd⟩:=vP I.bc e;refine wpAny_notIn_heap (tupleKind_room_in1 hu) (tP I.bc eb) hd dd ?_;have q:=(rel.val k).mS;rw[Option.isSome_map]at q;rw[<- q,<- l];exact h _ (I.tok _)
theorem tf{h':Heap}{t':Nat}{ob:HO}(I:Inv X pins σ H s)(mu:Wb (H a))(hs:Heap.SameBut a s.heap h')(he:∃q,h'.get? a=some q)(new:bX X.prog X.w (upd H a ob) h' a ob):
  Inv X pins σ (upd H a ob) {s with heap:=h',toks:=t'}:=
 I.write (x:=a) (e:=a) mu (.inl rfl) (λb q hb z=>(hs.2 b hb).trans z) he new
theorem Em{P:Program}{w:World}{H':Hp}{h':Heap}{kvs:List (Key×V)}{vs:List (Key×Value)}(z:kvs.length<=sizeLine)(hd:(a==sysModules)=false)(rel:KV kvs vs)(dd:h'.DictOf (cF P w) a vs):
  bX P w H' h' a (.dK kvs):=⟨z,hd,vs,rel,dd⟩
theorem Bt{H':Hp}{Q:Unit->Shared->Prop}(hu:A.units+1<cLine)(I:Inv X pins σ H s)(g:Ik H a y v H')(ry:RelV y u)(rv:RelV v r)(h:∀s',Inv X pins σ H' s'->Q () s'):
  wpAny (model X.prog X.w) A (setItem (.ref a) u r) Q E s:=by
 rcases g with⟨kvs,k,e,ey,l,eH⟩|⟨kvs,k,b,e,ey,eb,l,eH⟩
 ·subst ey eH
  obtain⟨z,hd,vs,rel,dd⟩:=o8 I.bc e;have hz:vs.length<=sizeLine:=by rw[<- rel.length];exact z
  have hl:(putK kvs k v).length<=sizeLine:=by have:=nK kvs k v;omega
  refine wpAny_setItem_pairs (hsz:=hz) (wD ry) dd λh' Cy hs=>h _ ?_;have he:∃q,h'.get? a=some q:=let ⟨q,_,_,hq,_⟩:=Cy;⟨q,hq⟩;exact tf I (by rw[e];exact True.intro) hs he (Em hl hd (rel.put k rv) Cy)
 ·subst ey eH
  cases(show u=Value.ref b from ry)
  obtain⟨z,hd,xs,rel,dd⟩:=W5 I.bc e;have hz:xs.length<=sizeLine:=by rw[<- Paired.length rel];exact z
  have hl:(putK kvs k v).length<=sizeLine:=by have:=nK kvs k v;omega
  refine wpAny_setItem_heap (hsz:=hz) (tupleKind_room_in1 hu) (tP I.bc eb) dd λh' Cy hs=>h _ ?_;obtain⟨q,es,ep,hq,h2,h3,h4,_,h5⟩:=Cy;refine tf I (by rw[e];exact True.intro) hs ⟨q,hq⟩ ⟨hl,hd,_,(rel.put k eb rv).keeps λc ys ec=>?_,q,es,ep,hq,h2,h3,h4,h5⟩
  rw[aq (gA ec e (λz=>nomatch z))];exact ec
end
section
variable {X:Cx}{pins:List (Addr×Obj)}{σ:St}{H:Hp}{s:Shared}{a:Addr}{kvs:List (Key×V)}{k:Key}{u:Value}{A:Around}{E:Value->Shared->Prop}
theorem WT{v:V}{more:List Value}{Q:Value->Shared->Prop}(I:Inv X pins σ H s)(e:H a=some (.dK kvs))(ry:RelV (kV k) u)(l:jq kvs k=some v)(hm:more=[]\/∃x,more=[x])
  (h:∀w' s',Inv X pins σ (upd H a (.dK (nF kvs k))) s'->RelV v w'->Q w' s'):wpAny (model X.prog X.w) A (call (.builtin "dict.pop") (.ref a::u::more)) Q E s:=by
 obtain⟨z,hd,vs,rel,dd⟩:=o8 I.bc e;obtain⟨w',hw,xW⟩:=iR.some_of (v:=v) (o:=valueAt vs k) (by rw[<- l];exact rel.val k)
 have hp:(keyPart u).isSome=true:=by
  cases k with
  | inl i=>obtain⟨t,q⟩:=(show∃t,u=Value.int i t from ry);subst q;rfl
  | inr x=>obtain⟨t,q⟩:=(show∃t,u=Value.str x t from ry);subst q;rfl
 have ha:argsOk "dict.pop" ⟨.ref a::u::more,[]⟩:=by
  rcases hm with q|⟨x,q⟩
  ·subst q;exact PySem.F.args_dict_pop_2 _ _
  ·subst q;exact PySem.F.args_dict_pop_3 _ _ _
 refine call_meetsIn PySem.F.slot_dict_pop dd.typeIs PySem.F.entry_dict_pop ha (meets_dict_pop_there (cF X.prog X.w) a (wD ry) more hm hp)
  ⟨vs,w',dd,by rw[<- rel.length];exact z,hw,λh' Cy hs=>h w' _ ?_ xW⟩
 have he:∃q,h'.get? a=some q:=let ⟨q,_,_,hq,_⟩:=Cy;⟨q,hq⟩;exact tf I (by rw[e];exact True.intro) hs he (Em (Nat.le_trans (Eo kvs k) z) hd (rel.drop k) Cy)
theorem WR{Q:Value->Shared->Prop}(I:Inv X pins σ H s)(e:Rd H a (.dK kvs))(h:∀t s',Inv X pins σ H s'->Q (.int kvs.length t) s'):wpAny (model X.prog X.w) A (call (.builtin "len") [.ref a]) Q E s:=by
 obtain⟨z,hd,vs,rel,dd⟩:=rA I.bc e;refine call_len_dict hd dd (by rw[<- rel.length];rw[sizeLine_eq]at z;omega) ?_
 rw[<- rel.length];exact h _ _ (I.tok _)
end
def MM(i:Expr):Prop:=∀ov iv,subscripted i false ov iv=operate [ov,iv] (getItem ov iv)
theorem KH{prog:Program}{w:World}{A:Around}{E:Value->Shared->Prop}{s:Shared}{env:Env}{value slice:Expr}{pos:Pos}{T id:String}{Q:Value->Shared->Prop}
  (hl:typeLookup (.type T) "__getitem__"=pure (some (.builtin id))) (hs:MM slice)
  (h:wpAny (model prog w) A (eval value env) (λo bP=>wpAny (model prog w) A (eval slice env) (λi vd=>vd.TypeIs o T/\wpAny (model prog w) A (getItem o i) Q E vd) E bP) E s):
  wpAny (model prog w) A (eval (.Subscript value slice pos) env) Q E s:=by
 refine Subscript_ (wpAny_mono h (λo bP Jt=>wpAny_mono Jt (λi vd Fx=>?_) λ_ _ x=>x) λ_ _ x=>x);obtain⟨hT,Fx⟩:=Fx;unfold subscriptTail;refine wpAny_bind ?_;rw[getitemInPython_of_ne hT.not_modules];refine wpAny_bind (wpAny_specialOf hT hl ?_);have fin:wpAny (model prog w) A (subscripted slice false o i) (λr xF=>wpAny (model prog w) A (letTemporaryGo value o r >>= λ_=>pure r) Q E xF) E vd:=by
  rw[hs o i];exact wpAny_operating (wpAny_mono Fx (λr xF Ju=>wpAny_bind (wpAny_letTemporaryGo (wpAny_pure Ju))) λ_ _ x=>x)
 first
  | exact wpAny_pure (wpAny_bind fin)
  | exact wpAny_bind (wpAny_pure (wpAny_bind fin))
  | exact wpAny_bind fin
theorem vN{X:Cx}{pins:List (Addr×Obj)}{σ:St}{H:Hp}{s:Shared}{a:Addr}{y:V}{o:Option V}(I:Inv X pins σ H s)(g:sy H a y o):s.TypeIs (.ref a) "dict":=by
 rcases g with⟨kvs,k,e,_,_⟩|⟨kvs,k,b,e,_,_,_⟩
 ·obtain⟨_,_,vs,_,dd⟩:=rA I.bc e
  exact dd.typeIs
 ·obtain⟨_,_,xs,_,dd⟩:=vP I.bc e
  exact dd.typeIs
def aav(td ty:TE):TE:=λσ H Q=>td σ H λx H1=>ty σ H1 λy H2=>∃a v,x=.ref a/\sy H2 a y (some v)/\Q v H2
def aac(td ty tv:TE):TS:=λD σ H=>tv σ H λv H1=>td σ H1 λx H2=>ty σ H2 λy H3=>∃a H4,x=.ref a/\Ik H3 a y v H4/\D.nx σ H4
section
variable {X:Cx}{o i e value:Expr}{pos pos' zt:Pos}{td ty tv:TE}
theorem Kb(hu:X.A.units+1<cLine)(ho:PE X o td)(hi:PE X i ty)(hs:MM i):PE X (.Subscript o i pos) (aav td ty):=by
 intro pins s σ H Q I h;refine KH PySem.F.slot_dict_getitem.lookup hs (ck (ho pins s σ H _ I h) λu s1 ⟨x,H1,I1,rx,q1⟩=>ck (hi pins s1 σ H1 _ I1 q1) λiv s2 ⟨y,H2,I2,ry,a,v,ex,g,q2⟩=>?_);subst ex;obtain rfl:u=Value.ref a:=rx;exact⟨vN I2 g,Bs hu I2 g ry λw' s3 I3 xW=>⟨v,H2,I3,xW,q2⟩⟩
theorem AX(hu:X.A.units+1<cLine)(ho:PE X o td)(hi:PE X i ty)(hv:PE X value tv)(hs:swapsWith value (some (.Subscript o i pos')) pos.line X.env=pure false):
  PS X (.Assign [.Subscript o i pos'] value pos) (aac td ty tv):=by
 intro pins s σ H D I h;refine wpAny_Assign_Subscript (ck (hv pins s σ H _ I h) λr s1 ⟨v,H1,I1,rv,q1⟩=>ck (ho pins s1 σ H1 _ I1 q1) λu s2 ⟨x,H2,I2,rx,q2⟩=>ck (hi pins s2 σ H2 _ I2 q2) λiv s3 ⟨y,H3,I3,ry,a,H4,ex,g,q3⟩=>?_) hs;subst ex;obtain rfl:u=Value.ref a:=rx;exact Bt hu I3 g ry rv λs4 I4=>⟨σ,H4,I4,q3⟩
end
theorem El{P:Program}{w:World}{H:Hp}(h:Heap)(hb:sysModules<h.objs.size):bX P w H (h.push {cls:=.type "dict",data:=.dict #[]}) h.objs.size (.dK []):=
 ⟨Nat.zero_le _,beq_eq_false_iff_ne.mpr (Ne.symm (Nat.ne_of_lt hb)),[],.nil,Heap.DictOf.new h⟩
def G7:TE:=λ_ H Q=>∀p,H p=none->Q (.ref p) (upd H p (.dK []))
section
variable {X:Cx}{pos:Pos}
theorem kT:PE X (.Dict [] [] pos) G7:=λpins s σ H Q I h =>
 wpAny_Dict_empty ⟨.ref s.heap.objs.size,_,I.laid (a:=s.heap.objs.size) (o:=.dK []) (t':=s.toks) (λ_ _ q=>Heap.get?_push_of_some _ q) (Nat.le_refl _) (El s.heap I.big),rfl,h _ (I.bc.fresh (Nat.le_refl _))⟩
end
def vg:List (TE×TE)->St->Hp->(List (V×V)->Hp->Prop)->Prop
 | [],_,H,Q=>Q [] H
 | (tk,tv)::r,σ,H,Q=>tk σ H λx H1=>tv σ H1 λy H2=>vg r σ H2 λps H3=>Q ((x,y)::ps) H3
structure M1(X:Cx)(o:Expr)(m:Str)(apos:Pos)(e:Expr)(c5:Pos):Prop where
 base:attributeBase o m X.env (eval o X.env)=eval o X.env
 few:((backTo c5 (starEach [e] X.env)).all (λx=>!x.1)&&(backToKw c5 (keywordEach [] X.env)).all (λx=>x.1.isSome)
 &&decide (([e]:List Expr).length+([]:List Keyword).length+(if([]:List Keyword).isEmpty then 0 else 1)<30))=true
 line:(apos.endLine==c5.line)=true
 trees:backTo c5 (starEach [e] X.env)=[(false,eval e X.env)]
def IsD(H:Hp)(a:Addr):Prop:=(∃kvs,Rd H a (.dK kvs))\/∃kvs,Rd H a (.dT kvs)
theorem Qc{X:Cx}{pins:List (Addr×Obj)}{σ:St}{H:Hp}{s:Shared}{a:Addr}(I:Inv X pins σ H s)(d:IsD H a):
  s.TypeIs (.ref a) "dict"/\(∀b,Value.ref a=.ref b->∃ob,s.heap.get? b=some ob/\ob.dict=none)/\(a==sysModules)=false:=by
 rcases d with⟨kvs,e⟩|⟨kvs,e⟩
 ·obtain⟨_,hd,vs,_,dd⟩:=rA I.bc e
  refine⟨dd.typeIs,λb q=>?_,hd⟩;cases q;obtain⟨ob,_,_,h1,h2,_⟩:=dd;exact⟨ob,h1,h2.2.1⟩
 ·obtain⟨_,hd,xs,_,dd⟩:=vP I.bc e
  refine⟨dd.typeIs,λb q=>?_,hd⟩;cases q;obtain⟨ob,_,_,h1,h2,_⟩:=dd;exact⟨ob,h1,h2.2.1⟩
def UR(td ty:TE):TE:=λσ H Q=>td σ H λx H1=>∃a,x=.ref a/\IsD H1 a/\ty σ H1 λy H2=>∃kvs k v,H2 a=some (.dK kvs)/\y=kV k/\jq kvs k=some v/\Q v (upd H2 a (.dK (nF kvs k)))
section
variable {X:Cx}{o e f:Expr}{apos c5:Pos}{td ty tx:TE}
theorem xg(ho:PE X o td)(he:PE X e ty)(m:M1 X o "pop" apos e c5):PE X (.Call (.Attribute o "pop" apos) [e] [] c5) (UR td ty):=by
 intro pins s σ H Q I h;refine wpAny_Call_method m.base m.few m.line PySem.F.plainAttrs_dict PySem.F.slot_dict_pop PySem.F.type_dict_pop (ck (ho pins s σ H _ I h) λu s1 ⟨x,H1,I1,rx,a,ex,d,q1⟩=>?_);subst ex;obtain rfl:u=Value.ref a:=rx;obtain⟨t1,t2,_⟩:=Qc I1 d;refine⟨t1,t2,?_⟩;rw[m.trees];refine Calls.callWith_builtin rfl (Calls.evalArgs_plain (Calls.spliced_cons (ck (he pins s1 σ H1 _ I1 q1) λiv s2 ⟨y,H2,I2,ry,kvs,k,v,ea,ey,l,q2⟩=>Calls.spliced_nil ?_)));subst ey;exact WT I2 ea ry l (.inl rfl) λw' s3 I3 xW=>⟨v,_,I3,xW,q2⟩
end
end L2
namespace Vc
open PySem L2
class KF where
 K:PySem.W.Frag
 /-- where the classes of exceptions stand -/
 cls:Str->Addr:=λ_=>0
 /-- the code tables that a lambda fills: where,as they were,the lambda's place,its name -/
 tabs:List (Addr×Array Value×Pos×Str):=[]
variable [KF]
inductive D where
 | aU|bl (b:Bool)|int (i:Int)|str (x:Str)|tup (xs:List D)|lst (xs:List D)|dct (kvs:List (D×D))|exc (c:Str)
 /-- the law's own list: read,never changed -/
 | hW (ns:List Int)
 /-- a dict with whole numbers for keys -/
 | jt (kvs:List (Int×D))
 /-- kept points: the word,the count,the next name,the points by their names -/
 | kp (w:Str) (c e:Int) (kvs:List (Int×D))
def yk(a:Addr)(c:Str):HO:=.ext λh=>∃o,h.get? a=some o/\o.cls=.ref (KF.cls c)
def kD:Key->D
 | .inl i=>.int i
 | .inr x=>.str x
def Ic(w:Str)(c e:Int)(ad:Addr):List (Str×V):=[("way",.str w),("count",.int c),("points_by_name",.ref ad),("ever_put",.int e)]
mutual
inductive Rep (F:Hp):V->D->Prop where
 | aU:Rep F .aU .aU
 | bl (b:Bool):Rep F (.bl b) (.bl b)
 | int (i:Int):Rep F (.int i) (.int i)
 | str (x:Str):Rep F (.str x) (.str x)
 | tup {a:Addr} {vs:List V} {ds:List D}:F a=some (.tup vs)->aE F vs ds->Rep F (.ref a) (.tup ds)
 | lst {a:Addr} {vs:List V} {ds:List D}:Rd F a (.lst vs)->aE F vs ds->Rep F (.ref a) (.lst ds)
 | hW {a:Addr} {ns:List Int}:jr KF.K F a (ns.map V.int)->Rep F (.ref a) (.hW ns)
 | exc {a:Addr} {c:Str}:F a=some (yk a c)->Rep F (.ref a) (.exc c)
 | Jb {a:Addr} {ks:List (List Key×V)} {kvs:List (D×D)}:F a=some (.dT ks)->sI F ks kvs->Rep F (.ref a) (.dct kvs)
 | jt {a:Addr} {ks:List (Key×V)} {kvs:List (Int×D)}:F a=some (.dK ks)->b9 F ks kvs->Rep F (.ref a) (.jt kvs)
 | kp {a dx ad:Addr} {w:Str} {c e:Int} {ks:List (Key×V)} {kvs:List (Int×D)}:F a=some (.ins (KF.cls "Kept") dx (Ic w c e ad))->F ad=some (.dK ks)->b9 F ks kvs->Rep F (.ref a) (.kp w c e kvs)
inductive b9 (F:Hp):List (Key×V)->List (Int×D)->Prop where
 | nil:b9 F [] []
 | cons {i:Int} {v:V} {d:D} {ks:List (Key×V)} {kvs:List (Int×D)}:Rep F v d->b9 F ks kvs->b9 F ((.inl i,v)::ks) ((i,d)::kvs)
inductive yb (F:Hp):List (Key×V)->List (D×D)->Prop where
 | nil:yb F [] []
 | cons {k:Key} {v:V} {d:D} {ks:List (Key×V)} {kvs:List (D×D)}:Rep F v d->yb F ks kvs->yb F ((k,v)::ks) ((kD k,d)::kvs)
inductive sI (F:Hp):List (List Key×V)->List (D×D)->Prop where
 | nil:sI F [] []
 | cons {k:List Key} {v:V} {d:D} {ks:List (List Key×V)} {kvs:List (D×D)}:Rep F v d->sI F ks kvs->sI F ((k,v)::ks) ((.tup (k.map kD),d)::kvs)
inductive aE (F:Hp):List V->List D->Prop where
 | nil:aE F [] []
 | cons {v:V} {d:D} {vs:List V} {ds:List D}:Rep F v d->aE F vs ds->aE F (v::vs) (d::ds)
end
theorem Rd.mono{F F':Hp}(s:au F F'){a:Addr}{u:HO}(h:Rd F a u):Rd F' a u:=by
 rcases h with h|⟨o,h⟩
 ·exact .inl (s a _ h)
 ·exact .inr ⟨o,s a _ h⟩
mutual
theorem Rep.mono{F F':Hp}(s:au F F'){v:V}{d:D}:Rep F v d->Rep F' v d
 | .aU=>.aU
 | .bl b=>.bl b
 | .int i=>.int i
 | .str x=>.str x
 | .tup h r=>.tup (s _ _ h) (aE.mono s r)
 | .lst h r=>.lst (Rd.mono s h) (aE.mono s r)
 | .hW h=>.hW (s.seq h)
 | .exc h=>.exc (s _ _ h)
 | .Jb h r=>.Jb (s _ _ h) (sI.mono s r)
 | .jt h r=>.jt (s _ _ h) (b9.mono s r)
 | .kp h1 h2 r=>.kp (s _ _ h1) (s _ _ h2) (b9.mono s r)
theorem b9.mono{F F':Hp}(s:au F F'){ks:List (Key×V)}{kvs:List (Int×D)}:b9 F ks kvs->b9 F' ks kvs
 | .nil=>.nil
 | .cons h r=>.cons (Rep.mono s h) (b9.mono s r)
theorem yb.mono{F F':Hp}(s:au F F'){ks:List (Key×V)}{kvs:List (D×D)}:yb F ks kvs->yb F' ks kvs
 | .nil=>.nil
 | .cons h r=>.cons (Rep.mono s h) (yb.mono s r)
theorem sI.mono{F F':Hp}(s:au F F'){ks:List (List Key×V)}{kvs:List (D×D)}:sI F ks kvs->sI F' ks kvs
 | .nil=>.nil
 | .cons h r=>.cons (Rep.mono s h) (sI.mono s r)
theorem aE.mono{F F':Hp}(s:au F F'){vs:List V}{ds:List D}:aE F vs ds->aE F' vs ds
 | .nil=>.nil
 | .cons h r=>.cons (Rep.mono s h) (aE.mono s r)
end
theorem aE.length{F:Hp}:∀ {vs:List V} {ds:List D},aE F vs ds->vs.length=ds.length
 | _,_,.nil=>rfl
 | _,_,.cons _ r=>by simp [aE.length r]
theorem aE.append{F:Hp}:∀ {vs ws:List V} {ds es:List D},aE F vs ds->aE F ws es->aE F (vs++ws) (ds++es)
 | _,_,_,_,.nil,s=>s
 | _,_,_,_,.cons h r,s=>.cons h (aE.append r s)
theorem aE.get{F:Hp}:∀ {vs:List V} {ds:List D} {i:Nat} {d:D},aE F vs ds->ds[i]?=some d->∃v,vs[i]?=some v/\Rep F v d
 | _,_,_,_,.nil,e=>by simp at e
 | _,_,0,_,.cons h _,e=>by simp at e;subst e;exact⟨_,by simp,h⟩
 | _,_,i+1,_,.cons _ r,e=>by
  obtain⟨v,h1,h2⟩:=aE.get (i:=i) r (by simpa using e)
  exact⟨v,by simpa using h1,h2⟩
theorem aE.get'{F:Hp}:∀ {vs:List V} {ds:List D} {i:Nat} {v:V},aE F vs ds->vs[i]?=some v->∃d,ds[i]?=some d/\Rep F v d
 | _,_,_,_,.nil,e=>by simp at e
 | _,_,0,_,.cons h _,e=>by simp at e;subst e;exact⟨_,by simp,h⟩
 | _,_,i+1,_,.cons _ r,e=>by
  obtain⟨v,h1,h2⟩:=aE.get' (i:=i) r (by simpa using e)
  exact⟨v,by simpa using h1,h2⟩
theorem aE.set{F:Hp}{v:V}{d:D}(h:Rep F v d):∀ {vs:List V} {ds:List D} (i:Nat),aE F vs ds->aE F (vs.set i v) (ds.set i d)
 | _,_,_,.nil=>.nil
 | _,_,0,.cons _ t=>.cons h t
 | _,_,i+1,.cons q t=>.cons q (aE.set h i t)
theorem aE.take{F:Hp}:∀ {vs:List V} {ds:List D} (n:Nat),aE F vs ds->aE F (vs.take n) (ds.take n)
 | _,_,0,_=>.nil
 | _,_,_+1,.nil=>.nil
 | _,_,n+1,.cons h r=>.cons h (aE.take n r)
theorem aE.drop{F:Hp}:∀ {vs:List V} {ds:List D} (n:Nat),aE F vs ds->aE F (vs.drop n) (ds.drop n)
 | _,_,0,r=>r
 | _,_,_+1,.nil=>.nil
 | _,_,n+1,.cons _ r=>aE.drop n r
theorem aE.reverse{F:Hp}:∀ {vs:List V} {ds:List D},aE F vs ds->aE F vs.reverse ds.reverse
 | _,_,.nil=>.nil
 | _,_,.cons h r=>by
  rw[List.reverse_cons,List.reverse_cons];exact(aE.reverse r).append (.cons h .nil)
theorem aE.rep{F:Hp}{vs:List V}{ds:List D}(r:aE F vs ds):∀n:Nat,aE F (List.replicate n vs).flatten (List.replicate n ds).flatten
 | 0=>.nil
 | n+1=>by
  rw[List.replicate_succ,List.replicate_succ,List.flatten_cons,List.flatten_cons];exact r.append (aE.rep r n)
def b7(F H:Hp)(v:V)(d:D):Prop:=match d with
 | .lst xs=>∃a vs,v=.ref a/\Rd H a (.lst vs)/\aE F vs xs
 | .jt kvs=>∃a ks,v=.ref a/\H a=some (.dK ks)/\b9 F ks kvs
 | .kp w c e kvs=>∃a dx ad ks,v=.ref a/\H a=some (.ins (KF.cls "Kept") dx (Ic w c e ad))/\H ad=some (.dK ks)/\b9 F ks kvs
 | d=>Rep F v d
theorem aK{H:Hp}{p:Addr}{o:HO}(h:H p=none):au H (upd H p o):=λb u e=>by
 rw[aq (bq e h)];exact e
theorem gW{F H:Hp}(s:au F H){a:Addr}{o:HO}(e:H a=some o):∃F',au F F'/\au F' H/\F' a=some o/\∀c u,F' c=some u->F c=some u\/(c=a/\u=o):=by
 cases ef:F a with
 | none =>
  refine⟨upd F a o,aK ef,λb u q=>?_,aA,λc u q=>?_⟩
  ·by_cases hb:b=a
   ·subst hb;rw[aA]at q;cases q;exact e
   ·rw[aq hb]at q;exact s b u q
  ·by_cases hb:c=a
   ·subst hb;rw[aA]at q;cases q;exact .inr ⟨rfl,rfl⟩
   ·rw[aq hb]at q;exact .inl q
 | some u =>
  have:=s a u ef;rw[e]at this;cases this;exact⟨F,au.refl _,s,ef,λ_ _ z=>.inl z⟩
def dl:HO->Bool
 | .dK _=>true
 | .ins _ _ _=>true
 | _=>false
structure O where
 fp:Addr->List Addr
 rep:Hp->Hp->Addr->Prop
 self:∀a,a∈fp a
 solid:∀ {F H:Hp} {a b:Addr} {φ:Heap->Prop},rep F H a->b∈fp a->H b≠some (.ext φ)
 nt:∀ {F H:Hp} {a b:Addr} {vs:List V},rep F H a->b∈fp a->H b≠some (.tup vs)
 mono:∀ {F F' H H':Hp} {a:Addr},au F F'->(∀b∈fp a,H' b=H b)->rep F H a->rep F' H' a
 /-- what it is as data,where it is that -/
 view:Option D:=none
 sees:∀ {F H:Hp} {a:Addr} {d:D},rep F H a->view=some d->b7 F H (.ref a) d:=by intro _ _ _ _ _ e;cases e
 lend:∀ {F H:Hp} {a:Addr} {d:D},au F H->rep F H a->view=some d->∃F',au F F'/\au F' H/\Rep F' (.ref a) d/\∀c u,F' c=some u->F c=some u\/(dl u=true/\c∈fp a):=by intro _ _ _ _ _ _ e;cases e
 /-- where it stands -/
 loc:Option Addr:=none
 JK:∀ {F H:Hp} {a b:Addr},rep F H a->loc=some b->a=b:=by intro _ _ _ _ _ e;cases e
inductive B where
 | sh (d:D)
 | own (xs:List D)
 | obj (o:O)
abbrev Sd:=List (Option B)
structure bB where
 H0:Hp
 F0:Hp
 io:List (Nat×Addr)
 /-- the addresses of things that were handed in to be changed -/
 ob:List Addr
def bB.VM(Y:bB):List Addr:=Y.io.map (·.2)
def bB.vk(Y:bB):List Addr:=Y.io.map (·.2)++Y.ob
theorem bB.Ao{Y:bB}{a:Addr}(h:a∉Y.vk):a∉Y.VM:=λz=>h (List.mem_append_left _ z)
def iQ(aj:Sd)(σ:St)(b:Addr):Prop:=∃(i:Nat) (o:O) (a:Addr),aj[i]?=some (some (.obj o))/\σ[i]?=some (some (.ref a))/\b∈o.fp a
def mC(F:Hp):Prop:=∀q∈KF.tabs,F q.1=some (.lam q.2.1 q.2.2.1 q.2.2.2)
theorem mC.mono{F F':Hp}(h:mC F)(s:au F F'):mC F':=λq hq=>s _ _ (h q hq)
def jO(F H:Hp):Prop:=au F H/\mC F
structure sE(Y:bB)(F:Hp)(aj:Sd)(σ:St)(H:Hp):Prop where
 obj:∀(i:Nat) (o:O),aj[i]?=some (some (.obj o))->∃a,σ[i]?=some (some (.ref a))/\o.rep F H a/\∀b∈o.fp a,F b=none/\H b≠none/\(Y.H0 b=none\/b∈Y.ob)
 oE:∀(i j:Nat) (o p:O) (a b:Addr),aj[i]?=some (some (.obj o))->aj[j]?=some (some (.obj p))->σ[i]?=some (some (.ref a))->σ[j]?=some (some (.ref b))->i≠j->∀c∈o.fp a,c∉p.fp b
 gj:∀(j:Nat) (xs:List D) (b:Addr),aj[j]?=some (some (.own xs))->σ[j]?=some (some (.ref b))->¬iQ aj σ b
 there:∀b∈Y.ob,H b≠none
 HE:∀b∈Y.ob,Y.H0 b≠none
 tab:mC F
theorem sE.owned{Y:bB}{F:Hp}{aj:Sd}{σ:St}{H:Hp}(X:sE Y F aj σ H){b:Addr}(h:iQ aj σ b):F b=none/\H b≠none/\(Y.H0 b=none\/b∈Y.ob):=by
 obtain⟨i,o,a,e1,e2,hb⟩:=h;obtain⟨a',e3,_,h3⟩:=X.obj i o e1;rw[e2]at e3;cases e3;exact h3 b hb
theorem sE.FW{Y:bB}{F:Hp}{aj:Sd}{σ:St}{H:Hp}(X:sE Y F aj σ H){b:Addr}(h:iQ aj σ b){φ:Heap->Prop}:H b≠some (.ext φ):=by
 obtain⟨i,o,a,e1,e2,hb⟩:=h;obtain⟨a',e3,h2,_⟩:=X.obj i o e1;rw[e2]at e3;cases e3;exact o.solid h2 hb
theorem sE.Mf{Y:bB}{F:Hp}{aj:Sd}{σ:St}{H:Hp}(X:sE Y F aj σ H){b:Addr}(h:iQ aj σ b){vs:List V}:H b≠some (.tup vs):=by
 obtain⟨i,o,a,e1,e2,hb⟩:=h;obtain⟨a',e3,h2,_⟩:=X.obj i o e1;rw[e2]at e3;cases e3;exact o.nt h2 hb
theorem sE.step{Y Y':bB}{F F':Hp}{aj aG:Sd}{σ bS:St}{H H':Hp}(X:sE Y F aj σ H)(hs:au F F')
  (hσ:∀(i:Nat) (o:O),aG[i]?=some (some (.obj o))->aj[i]?=some (some (.obj o))/\bS[i]?=σ[i]?)
  (hb:∀b,iQ aj σ b->H' b=H b/\F' b=none/\(Y'.H0 b=none\/b∈Y'.ob))
  (abn:∀(j:Nat) (ys:List D) (b:Addr),aG[j]?=some (some (.own ys))->bS[j]?=some (some (.ref b))->¬iQ aj σ b)
  (hth:∀b∈Y'.ob,H' b≠none) (hz:∀b∈Y'.ob,b∈Y.ob/\(Y.H0 b≠none->Y'.H0 b≠none):=by exactλb hb=>⟨hb,id⟩):sE Y' F' aG bS H' where
 obj:=λi o e=>by
  obtain⟨e1,e2⟩:=hσ i o e;obtain⟨a,h1,h2,h3⟩:=X.obj i o e1;have ow:∀b∈o.fp a,iQ aj σ b:=λb z=>⟨i,o,a,e1,h1,z⟩;refine⟨a,by rw[e2];exact h1,o.mono hs (λb z=>(hb b (ow b z)).1) h2,λb z=>⟨(hb b (ow b z)).2.1,?_,(hb b (ow b z)).2.2⟩⟩
  rw[(hb b (ow b z)).1];exact(h3 b z).2.1
 oE:=λi j o p a b e1 e2 e3 e4=>by
  obtain⟨q1,q2⟩:=hσ i o e1;obtain⟨q3,q4⟩:=hσ j p e2;rw[q2]at e3;rw[q4]at e4;exact X.oE i j o p a b q1 q3 e3 e4
 gj:=λj xs b e1 e2 ⟨i,o,a,e3,e4,hm⟩=>by
  obtain⟨q1,q2⟩:=hσ i o e3;rw[q2]at e4;exact abn j xs b e1 e2 ⟨i,o,a,q1,e4,hm⟩
 there:=hth
 HE:=λb hb=>(hz b hb).2 (X.HE b (hz b hb).1)
 tab:=X.tab.mono hs
theorem sE.put{Y:bB}{F:Hp}{aj:Sd}{σ bS:St}{H:Hp}{i:Nat}{b':Option B}(X:sE Y F aj σ H)(h1:∀j,j≠i->bS[j]?=σ[j]?)(hn:∀o,b'≠some (.obj o))
  (hw:∀ys a,b'=some (.own ys)->bS[i]?=some (some (.ref a))->¬iQ aj σ a):sE Y F (aj.set i b') bS H:=by
 have gs:∀ {j:Nat} {y:Option B},(aj.set i b')[j]?=some y->(j=i/\y=b')\/(j≠i/\aj[j]?=some y):=λ{j y} h=>by
  by_cases hj:j=i
  ·subst hj
   by_cases hl:j<aj.length
   ·rw[List.getElem?_set_self hl]at h;exact .inl ⟨rfl,(Option.some.inj h).symm⟩
   ·have:(aj.set j b')[j]?=none:=by rw[List.getElem?_eq_none_iff];simp;omega
    rw[this]at h;cases h
  ·rw[List.getElem?_set_ne (Ne.symm hj)]at h;exact .inr ⟨hj,h⟩
 refine X.step (au.refl _) (λj o e=>?_) (λb hb=>⟨rfl,(X.owned hb).1,(X.owned hb).2.2⟩) (λj ys b e1 e2=>?_) X.there
 ·rcases gs e with⟨_,z⟩|⟨hj,z⟩
  ·exact absurd z.symm (hn o)
  ·exact⟨z,h1 j hj⟩
 ·rcases gs e1 with⟨rfl,z⟩|⟨hj,z⟩
  ·exact hw ys b z.symm e2
  ·rw[h1 j hj]at e2;exact X.gj j ys b z e2
theorem sE.none{Y:bB}{F:Hp}{aj:Sd}{σ:St}{H:Hp}(h:∀(i:Nat) (o:O),aj[i]?≠some (some (.obj o)))(abr:mC F)(hth:∀b∈Y.ob,H b≠none)(hz:∀b∈Y.ob,Y.H0 b≠none:=by intro b hb;cases hb):sE Y F aj σ H where
 HE:=hz
 tab:=abr
 obj:=λi o e=>absurd e (h i o)
 oE:=λi _ o _ _ _ e=>absurd e (h i o)
 gj:=λ_ _ _ _ _ ⟨i,o,_,e,_⟩=>h i o e
 there:=hth
def Nw(H:Hp)(b:Addr)(o:HO):Prop:=H b=none\/∃vs,o=.tup vs
structure RS(Y:bB)(F:Hp)(aj:Sd)(σ:St)(H:Hp):Prop where
 len:aj.length=σ.length
 lo:au Y.F0 F
 fr:au F H
 eJ:∀b o,F b=some o->Y.F0 b=some o\/Nw Y.H0 b o
 old:∀b o,Y.H0 b=some o->b∉Y.vk->H b=some o
 sh:∀(i:Nat) (d:D),aj[i]?=some (some (.sh d))->∃v,σ[i]?=some (some v)/\Rep F v d
 own:∀(i:Nat) (xs:List D),aj[i]?=some (some (.own xs))->∃a vs,σ[i]?=some (some (.ref a))/\H a=some (.lst vs)/\aE F vs xs/\F a=none/\(Y.H0 a=none\/a∈Y.VM)
 dis:∀(i j:Nat) (xs ys:List D) (a:Addr),aj[i]?=some (some (.own xs))->aj[j]?=some (some (.own ys))->σ[i]?=some (some (.ref a))->σ[j]?=some (some (.ref a))->i=j
 io:∀p∈Y.io,σ[p.1]?=some (some (.ref p.2))/\∃xs,aj[p.1]?=some (some (.own xs))
 ob:sE Y F aj σ H
theorem GN{F H:Hp}{p:Addr}{o:HO}(s:au F H):au (upd F p o) (upd H p o):=λb u e=>by
 by_cases hb:b=p
 ·subst hb;rw[aA]at e ⊢;exact e
 ·rw[aq hb]at e ⊢;exact s b u e
theorem same_none{F H:Hp}(s:au F H){p:Addr}(h:H p=none):F p=none:=s.free h
theorem RS.bg{Y:bB}{F:Hp}{aj:Sd}{σ:St}{H:Hp}{p:Addr}(R:RS Y F aj σ H)(h:H p=none):Y.H0 p=none/\p∉Y.vk:=by
 have cP:p∉Y.vk:=λhm=>by
  rcases List.mem_append.mp hm with hm|hm
  case inr=>exact R.ob.there p hm h
  obtain⟨q,hq,e⟩:=List.mem_map.mp hm;obtain⟨h1,xs,h2⟩:=R.io q hq;obtain⟨a,vs,h3,h4,_⟩:=R.own _ _ h2;rw[h1]at h3;cases h3;rw[e,h]at h4;cases h4
 refine⟨?_,cP⟩;cases e:Y.H0 p with
 | none=>rfl
 | some o=>rw[R.old p o e cP]at h;cases h
theorem RS.alloc{Y:bB}{F:Hp}{aj:Sd}{σ:St}{H:Hp}{p:Addr}{o:HO}(R:RS Y F aj σ H)(h:H p=none):RS Y (upd F p o) aj σ (upd H p o) where
 len:=R.len
 lo:=R.lo.trans (aK (same_none R.fr h))
 fr:=GN R.fr
 eJ:=λb u e=>by
  by_cases hb:b=p
  ·subst hb;exact .inr (.inl (R.bg h).1)
  ·rw[aq hb]at e;exact R.eJ b u e
 old:=λb u e n=>by
  have:=R.old b u e n;rw[aq (bq this h)];exact this
 sh:=λi d e=>by
  obtain⟨v,h1,h2⟩:=R.sh i d e;exact⟨v,h1,h2.mono (aK (same_none R.fr h))⟩
 own:=λi xs e=>by
  obtain⟨a,vs,h1,h2,h3,h4,h5⟩:=R.own i xs e;have cT:=bq h2 h;exact⟨a,vs,h1,by rw[aq cT];exact h2,h3.mono (aK (same_none R.fr h)),by rw[aq cT];exact h4,h5⟩
 dis:=R.dis
 io:=R.io
 ob:=R.ob.step (aK (same_none R.fr h)) (λi o e=>⟨e,rfl⟩) (λb hb=>by
  obtain⟨w1,w2,w3⟩:=R.ob.owned hb;have cT:b≠p:=λz=>w2 (z ▸ h);exact⟨aq cT,by rw[aq cT];exact w1,w3⟩) (λj ys b e1 e2=>R.ob.gj j ys b e1 e2) λb hb=>by
  have cT:b≠p:=λz=>R.ob.there b hb (z ▸ h);rw[aq cT];exact R.ob.there b hb
theorem RS.jW{Y:bB}{F:Hp}{aj:Sd}{σ:St}{H:Hp}{p:Addr}{o:HO}(R:RS Y F aj σ H)(h:H p=none):RS Y F aj σ (upd H p o) where
 len:=R.len
 lo:=R.lo
 fr:=R.fr.trans (aK h)
 eJ:=R.eJ
 old:=λb u e n=>aK h b u (R.old b u e n)
 sh:=R.sh
 own:=λi xs e=>by
  obtain⟨a,vs,h1,h2,h3,h4,h5⟩:=R.own i xs e;exact⟨a,vs,h1,aK h a _ h2,h3,h4,h5⟩
 dis:=R.dis
 io:=R.io
 ob:=R.ob.step (au.refl _) (λi o e=>⟨e,rfl⟩) (λb hb=>by
  obtain⟨w1,w2,w3⟩:=R.ob.owned hb;have cT:b≠p:=λz=>w2 (z ▸ h);exact⟨aq cT,w1,w3⟩) (λj ys b e1 e2=>R.ob.gj j ys b e1 e2) λb hb=>by
  have cT:b≠p:=λz=>R.ob.there b hb (z ▸ h);rw[aq cT];exact R.ob.there b hb
inductive EV where
 | val (d:D)|var (i:Nat)|own (xs:List D)|obj (o:O)|any
inductive OV where
 | val (d:D)|var (i:Nat)|any
abbrev TX:=Sd->(EV->Sd->Prop)->Prop
abbrev TV:=Sd->(OV->Sd->Prop)->Prop
abbrev TD:=Sd->(D->Sd->Prop)->Prop
abbrev TB:=Sd->(Bool->Sd->Prop)->Prop
abbrev eU:=Sd->(List D->Sd->Prop)->Prop
structure dC(aj:Sd)(σ:St)(a:Addr):Prop where
 own:∀(j:Nat) (ys:List D),aj[j]?=some (some (.own ys))->σ[j]?≠some (some (.ref a))
 QW:¬iQ aj σ a
instance {aj:Sd} {σ:St} {a:Addr}:CoeFun (dC aj σ a) λ_=>∀(j:Nat) (ys:List D),aj[j]?=some (some (.own ys))->σ[j]?≠some (some (.ref a)):=⟨dC.own⟩
theorem RS.cg{Y:bB}{F:Hp}{aj:Sd}{σ:St}{H:Hp}(R:RS Y F aj σ H){a:Addr}(h:H a=none):dC aj σ a:=by
 refine⟨λj ys e z=>?_,λz=>(R.ob.owned z).2.1 h⟩;obtain⟨b,us,e1,e2,_⟩:=R.own j ys e;rw[e1]at z;cases z;rw[h]at e2;cases e2
def yc(F:Hp)(σ:St)(v:V):OV->Prop
 | .val d=>Rep F v d
 | .var i=>σ[i]?=some (some v)
 | .any=>True
def Iv(Y:bB)(F H:Hp)(aj:Sd)(σ:St)(v:V):EV->Prop
 | .val d=>Rep F v d
 | .var i=>σ[i]?=some (some v)
 | .own xs=>∃a vs,v=.ref a/\H a=some (.lst vs)/\aE F vs xs/\F a=none/\Y.H0 a=none/\dC aj σ a
 | .obj o=>∃a,v=.ref a/\o.rep F H a/\∀b∈o.fp a,F b=none/\H b≠none/\Y.H0 b=none/\dC aj σ b
 | .any=>True
def lX(Y:bB)(t:TX):TE:=λσ H Q=>∃F aj Qd,RS Y F aj σ H/\t aj Qd/\∀v H' F' x aG,au F F'->RS Y F' aG σ H'->Iv Y F' H' aG σ v x->Qd x aG->Q v H'
def lO(Y:bB)(t:TV):TE:=λσ H Q=>∃F aj Qd,RS Y F aj σ H/\t aj Qd/\∀v H' F' x aG,au F F'->RS Y F' aG σ H'->yc F' σ v x->Qd x aG->Q v H'
def lD(Y:bB)(t:TD):TE:=λσ H Q=>∃F aj Qd,RS Y F aj σ H/\t aj Qd/\∀v H' F' x aG,au F F'->RS Y F' aG σ H'->Rep F' v x->Qd x aG->Q v H'
def lB(Y:bB)(t:TB):TT:=λσ H Q=>∃F aj Qd,RS Y F aj σ H/\t aj Qd/\∀b H' F' aG,au F F'->RS Y F' aG σ H'->Qd b aG->Q b H'
def lDs(Y:bB)(t:eU):TA:=λσ H Q=>∃F aj Qd,RS Y F aj σ H/\t aj Qd/\∀vs H' F' xs aG,au F F'->RS Y F' aG σ H'->aE F' vs xs->Qd xs aG->Q vs H'
structure GE where
 P:Program
 w:World
 K:PySem.W.Frag
 mg:Str->Option Value
 base:Heap
structure Stat where
 N:List Str
 sc:List (Str×NameKind)
 ios:List Nat:=[]
 qA:Bool:=false
 /-- within an except suite -/
 jG:Bool:=false
 /-- a raise may stand here -/
 rs:Bool:=false
 /-- what is wanted where an exception of a class leaves -/
 ex:Str->Sd->Prop:=λ_ _=>False
def Ji(a T:Addr)(c:Str):HO:=.ext λh=>∃o vs a0,h.get? a=some o/\o.cls=.ref (KF.cls c)/\o.data=.fields vs/\vs[0]?=some a0/\vs[1]?=some (.ref T)
def tbO(T:Addr):HO:=.ext λh=>∃o ts,h.get? T=some o/\o.data=.fields ts/\ts[3]?=some .none
structure V9(X:Cx)(Y:bB)(F H:Hp)(a T:Addr)(c:Str):Prop where
 fa:F a=none
 fT:F T=none
 ha:H a=some (Ji a T c)
 hT:H T=some (tbO T)
 ne:a≠T
 na:Y.H0 a=none
 nT:Y.H0 T=none
 la:X.bT.heap.get? a=none
 lT:X.bT.heap.get? T=none
def QT(a:Addr)(c:Str):HO:=.ext λh=>∃o vs a0,h.get? a=some o/\o.cls=.ref (KF.cls c)/\o.data=.fields vs/\vs[0]?=some a0/\vs[1]?=some .none
structure d8(X:Cx)(G:GE)(k:Nat)(S:Stat)(Y:bB):Prop where
 P:X.prog=G.P
 w:X.w=G.w
 K:X.K=G.K
 kf:X.K=KF.K
 mg:X.mg=G.mg
 base:X.base=G.base
 N:X.N=S.N
 sc:X.env.scope.names=S.sc
 nd:S.N.Nodup
 ios:∀p∈Y.io,p.1∈S.ios
 obs:S.qA=false->S.ios=[]->Y.ob=[]
 calm:S.jG=false->X.calm=true
 kind:X.env.scope.kind=.function
 fn:S.qA=false->∀x,S.sc.lookup x=some .cell->X.fn x=true
 hd:S.jG=false->X.A.handled=none
 dp:X.A.depth+3*k+5<recursionLimit
 un:X.A.units+16*k+200<cLine
 po:S.jG=false->PassesOwn (model X.prog X.w) X.A X.env X.xe
 nx:S.qA=false->X.ex=[]/\X.stack=X.env::X.outer/\X.env.frame=some X.env.locals
 exc:∀c aj,S.ex c aj->∀pins σ H F s a T,L2.Inv X pins σ H s->RS Y F aj σ H->V9 X Y F H a T c->X.xe (.ref a) s
 made:S.rs=true->∀c aj,S.ex c aj->∀pins σ H F s a,L2.Inv X pins σ H s->RS Y F aj σ H->H a=some (QT a c)->Y.H0 a=none->X.bT.heap.get? a=none->X.xe (.ref a) s
theorem d8.room{X:Cx}{G:GE}{k:Nat}{S:Stat}{Y:bB}(ok:d8 X G k S Y)(h:S.jG=false):fk k X.A:=⟨ok.hd h,ok.dp,ok.un⟩
theorem d8.units{X:Cx}{G:GE}{k:Nat}{S:Stat}{Y:bB}(ok:d8 X G k S Y):X.A.units+64<cLine:=by have:=ok.un;omega
variable {G:GE}{k:Nat}{S:Stat}
structure EX(G:GE)(k:Nat)(S:Stat)(e:Expr)(t:TX) :Prop where
 run:∀X Y,d8 X G k S Y->PE X e (lX Y t)
instance {G:GE} {k:Nat} {S:Stat} {e:Expr} {t:TX} :CoeFun (EX G k S e t) λ_=>∀X Y,d8 X G k S Y->PE X e (lX Y t):=⟨EX.run⟩
structure EO(G:GE)(k:Nat)(S:Stat)(e:Expr)(t:TV) :Prop where
 run:∀X Y,d8 X G k S Y->PE X e (lO Y t)
instance {G:GE} {k:Nat} {S:Stat} {e:Expr} {t:TV} :CoeFun (EO G k S e t) λ_=>∀X Y,d8 X G k S Y->PE X e (lO Y t):=⟨EO.run⟩
structure ED(G:GE)(k:Nat)(S:Stat)(e:Expr)(t:TD) :Prop where
 run:∀X Y,d8 X G k S Y->PE X e (lD Y t)
instance {G:GE} {k:Nat} {S:Stat} {e:Expr} {t:TD} :CoeFun (ED G k S e t) λ_=>∀X Y,d8 X G k S Y->PE X e (lD Y t):=⟨ED.run⟩
structure EB(G:GE)(k:Nat)(S:Stat)(e:Expr)(t:TB) :Prop where
 run:∀X Y,d8 X G k S Y->PT X e (lB Y t)
instance {G:GE} {k:Nat} {S:Stat} {e:Expr} {t:TB} :CoeFun (EB G k S e t) λ_=>∀X Y,d8 X G k S Y->PT X e (lB Y t):=⟨EB.run⟩
structure qW(G:GE)(k:Nat)(S:Stat)(es:List Expr)(t:eU) :Prop where
 run:∀X Y,d8 X G k S Y->PA X es (lDs Y t)
instance {G:GE} {k:Nat} {S:Stat} {es:List Expr} {t:eU} :CoeFun (qW G k S es t) λ_=>∀X Y,d8 X G k S Y->PA X es (lDs Y t):=⟨qW.run⟩
def SX:Expr->Bool
 | .Starred _ _=>false
 | _=>true
theorem cj{e:Expr}{es:List Expr}{env:Env}(h:SX e=true):starEach (e::es) env=(false,eval e env)::starEach es env:=by
 cases e<;>first|rfl|cases h
theorem aV{X:Cx}{e:Expr}{t t':TE}(h:PE X e t)(i:∀σ H Q,t' σ H Q->t σ H Q):PE X e t':=λpins s σ H Q I q=>h pins s σ H Q I (i σ H Q q)
theorem yK{X:Cx}{e:Expr}{t t':TT}(h:PT X e t)(i:∀σ H Q,t' σ H Q->t σ H Q):PT X e t':=λpins s σ H Q I q=>h pins s σ H Q I (i σ H Q q)
theorem jc{X:Cx}{e:List Expr}{t t':TA}(h:PA X e t)(i:∀σ H Q,t' σ H Q->t σ H Q):PA X e t':=λpos pins s σ H Q I q=>h pos pins s σ H Q I (i σ H Q q)
theorem cG{X:Cx}{e:Stmt}{t t':TS}(h:PS X e t)(i:∀D σ H,t' D σ H->t D σ H):PS X e t':=λpins s σ H D I q=>h pins s σ H D I (i D σ H q)
theorem ub{X:Cx}{e:List Stmt}{t t':TS}(h:sG X e t)(i:∀D σ H,t' D σ H->t D σ H):sG X e t':=λpins s σ H D I q=>h pins s σ H D I (i D σ H q)
theorem RS.BD{Y:bB}{F:Hp}{aj:Sd}{σ:St}{H:Hp}{a:Addr}{vs:List V}(R:RS Y F aj σ H)(h1:H a=some (.lst vs))(h2:F a=none)(h3:dC aj σ a)(h4:Y.H0 a=none):RS Y (upd F a (.lst vs)) aj σ H where
 len:=R.len
 lo:=R.lo.trans (aK h2)
 fr:=λb o e=>by
  by_cases hb:b=a
  ·subst hb;rw[aA]at e;cases e;exact h1
  ·rw[aq hb]at e;exact R.fr b o e
 eJ:=λb u e=>by
  by_cases hb:b=a
  ·subst hb;exact .inr (.inl h4)
  ·rw[aq hb]at e;exact R.eJ b u e
 old:=R.old
 sh:=λi d e=>by
  obtain⟨v,q1,q2⟩:=R.sh i d e;exact⟨v,q1,q2.mono (aK h2)⟩
 own:=λi xs e=>by
  obtain⟨b,us,q1,q2,q3,q4,q5⟩:=R.own i xs e;have cT:b≠a:=λz=>h3 i xs e (by rw[q1,z])
  exact⟨b,us,q1,q2,q3.mono (aK h2),by rw[aq cT];exact q4,q5⟩
 dis:=R.dis
 io:=R.io
 ob:=R.ob.step (aK h2) (λi o e=>⟨e,rfl⟩) (λb hb=>by
  obtain⟨w1,w2,w3⟩:=R.ob.owned hb;have cT:b≠a:=λz=>h3.QW (z ▸ hb);exact⟨rfl,by rw[aq cT];exact w1,w3⟩) (λj ys b e1 e2=>R.ob.gj j ys b e1 e2) R.ob.there
def fzV:EV->OV
 | .val d=>.val d
 | .var i=>.var i
 | .own xs=>.val (.lst xs)
 | .obj _=>.any
 | .any=>.any
def a9(t:TX):TV:=λσ Q=>t σ λx aw=>Q (fzV x) aw
theorem bw{e:Expr}{t:TX}(h:EX G k S e t):EO G k S e (a9 t):=.mk λX Y ok=>aV (h X Y ok) λσ H Q q=>by
 obtain⟨F,aj,Qd,R,q,K⟩:=q;refine⟨F,aj,_,R,q,λv H' F' x aG s R' r q'=>?_⟩;cases x with
 | val d=>exact K v H' F' (.val d) aG s R' r q'
 | var i=>exact K v H' F' (.var i) aG s R' r q'
 | own xs =>
  obtain⟨a,vs,rfl,h1,h2,h3,h4,h5⟩:=r;exact K _ H' _ (.val (.lst xs)) aG (s.trans (aK h3)) (R'.BD h1 h3 h5 h4) (.lst (.inl aA) (h2.mono (aK h3))) q'
 | obj o=>exact K v H' F' .any aG s R' trivial q'
 | any=>exact K v H' F' .any aG s R' trivial q'
def oxV:OV->EV
 | .val d=>.val d
 | .var i=>.var i
 | .any=>.any
def oX(t:TV):TX:=λσ Q=>t σ λx aw=>Q (oxV x) aw
theorem oP{e:Expr}{t:TV}(h:EO G k S e t):EX G k S e (oX t):=.mk λX Y ok=>aV (h X Y ok) λσ H Q q=>by
 obtain⟨F,aj,Qd,R,q,K⟩:=q;refine⟨F,aj,_,R,q,λv H' F' x aG s R' r q'=>?_⟩;cases x with
 | val d=>exact K v H' F' (.val d) aG s R' r q'
 | var i=>exact K v H' F' (.var i) aG s R' r q'
 | any=>exact K v H' F' .any aG s R' trivial q'
theorem aZ{α:Type}{l:List (Option α)}{i:Nat}{x:α}{y:Option α}(h:l[i]?=some (some x)):(l.set i y)[i]?=some y:=by
 have:=(List.getElem?_eq_some_iff.mp h).1;rw[List.getElem?_set_self this]
theorem bD{α:Type}{l:List (Option α)}{i j:Nat}{y:Option α}(h:j≠i):(l.set i y)[j]?=l[j]?:=by
 rw[List.getElem?_set_ne (Ne.symm h)]
theorem RS.mP{Y:bB}{F:Hp}{aj:Sd}{σ:St}{H:Hp}{i:Nat}{xs:List D}(R:RS Y F aj σ H)(h:aj[i]?=some (some (.own xs)))(cP:∀p∈Y.io,p.1≠i):
  ∃F' v,au F F'/\RS Y F' (aj.set i (some (.sh (.lst xs)))) σ H/\σ[i]?=some (some v)/\Rep F' v (.lst xs):=by
 obtain⟨a,vs,q1,q2,q3,q4,q5⟩:=R.own i xs h;have sm:=aK (o:=.lst vs) q4;have rep:Rep (upd F a (.lst vs)) (.ref a) (.lst xs):=.lst (.inl aA) (q3.mono sm);have QU:Y.H0 a=none:=by
  rcases q5 with q5|q5
  ·exact q5
  ·obtain⟨p,hp,e⟩:=List.mem_map.mp q5
   obtain⟨w1,ys,w2⟩:=R.io p hp;exact absurd (R.dis p.1 i ys xs a w2 h (by rw[w1,e]) q1) (cP p hp)
 have obF:sE Y (upd F a (.lst vs)) (aj.set i (some (.sh (.lst xs)))) σ H:=R.ob.step sm (λj o e=>by
  have hj:j≠i:=λz=>by subst z;rw[aZ h]at e;cases e
  rw[bD hj]at e;exact⟨e,rfl⟩) (λb hb=>by
  obtain⟨w1,w2,w3⟩:=R.ob.owned hb;have cT:b≠a:=λz=>R.ob.gj i xs a h q1 (z ▸ hb);exact⟨rfl,by rw[aq cT];exact w1,w3⟩) (λj ys b e1 e2=>by
  have hj:j≠i:=λz=>by subst z;rw[aZ h]at e1;cases e1
  rw[bD hj]at e1;exact R.ob.gj j ys b e1 e2) R.ob.there
 refine⟨upd F a (.lst vs),.ref a,sm,⟨by simpa using R.len,R.lo.trans sm,λb o e=>?_,λb o e=>?_,R.old,λj d e=>?_,λj ys e=>?_,λj l ys zs b e1 e2 e3 e4=>?_,λp hp=>?_,obF⟩,q1,rep⟩
 ·by_cases hb:b=a
  ·subst hb;rw[aA]at e;cases e;exact q2
  ·rw[aq hb]at e;exact R.fr b o e
 ·by_cases hb:b=a
  ·subst hb;exact .inr (.inl QU)
  ·rw[aq hb]at e;exact R.eJ b o e
 ·by_cases hj:j=i
  ·subst hj
   rw[aZ h]at e;cases e;exact⟨_,q1,rep⟩
  ·rw[bD hj]at e
   obtain⟨v,w1,w2⟩:=R.sh j d e;exact⟨v,w1,w2.mono sm⟩
 ·have hj:j≠i:=λz=>by subst z;rw[aZ h]at e;cases e
  rw[bD hj]at e;obtain⟨b,us,w1,w2,w3,w4,w5⟩:=R.own j ys e;have cT:b≠a:=λz=>hj (R.dis j i ys xs a e h (z ▸ w1) q1);exact⟨b,us,w1,w2,w3.mono sm,by rw[aq cT];exact w4,w5⟩
 ·have hj:j≠i:=λz=>by subst z;rw[aZ h]at e1;cases e1
  have hl:l≠i:=λz=>by subst z;rw[aZ h]at e2;cases e2
  rw[bD hj]at e1;rw[bD hl]at e2;exact R.dis j l ys zs b e1 e2 e3 e4
 ·obtain⟨w1,ys,w2⟩:=R.io p hp
  exact⟨w1,ys,by rw[bD (cP p hp)];exact w2⟩
def Vh(ios:List Nat)(x:OV)(aw:Sd)(Q:D->Sd->Prop):Prop:=match x with
 | .val d=>Q d aw
 | .any=>False
 | .var i=>match aw[i]? with
  | some (some (.own xs))=>i∉ios/\Q (.lst xs) (aw.set i (some (.sh (.lst xs))))
  | some (some (.sh d))=>Q d aw
  | _=>False
theorem mr{ios:List Nat}{d:D}{aw:Sd}{Q:D->Sd->Prop}:Vh ios (.val d) aw Q=Q d aw:=rfl
theorem mv{ios:List Nat}{i:Nat}{aw:Sd}{Q:D->Sd->Prop}:Vh ios (.var i) aw Q=(match aw[i]? with
  | some (some (.own xs))=>i∉ios/\Q (.lst xs) (aw.set i (some (.sh (.lst xs))))
  | some (some (.sh d))=>Q d aw
  | _=>False):=rfl
def ai(ios:List Nat)(t:TV):TD:=λσ Q=>t σ λx aw=>Vh ios x aw Q
theorem az{e:Expr}{t:TV}(h:EO G k S e t):ED G k S e (ai S.ios t):=.mk λX Y ok=>aV (h X Y ok) λσ H Q q=>by
 obtain⟨F,aj,Qd,R,q,K⟩:=q;refine⟨F,aj,_,R,q,λv H' F' x aG s R' r q'=>?_⟩;cases x with
 | val d=>exact K v H' F' d aG s R' r q'
 | any=>exact False.elim q'
 | var i =>
  have r:σ[i]?=some (some v):=r;rw[mv]at q'
  split at q'
  ·rename_i xs e
   obtain⟨hi,q'⟩:=q';obtain⟨F2,v2,s2,R2,e2,r2⟩:=R'.mP e λp hp z=>hi (z ▸ ok.ios p hp);rw[r]at e2;cases e2;exact K v H' F2 _ _ (s.trans s2) R2 r2 q'
  ·rename_i d e
   obtain⟨v2,e2,r2⟩:=R'.sh i d e;rw[r]at e2;cases e2;exact K v H' F' d aG s R' r2 q'
  ·exact q'.elim
def ag(i:Nat):TV:=λσ Q=>match σ[i]? with
 | some (some (.sh d))=>Q (.val d) σ
 | some (some (.own _))=>Q (.var i) σ
 | _=>False
theorem af(i:Nat){x:Str}{pos:Pos}(hN:S.N[i]?=some x:=by rfl)(hv:S.sc.lookup x=some .local\/S.sc.lookup x=some .cell\/S.sc.lookup x=some .free:=by first|exact Or.inl rfl|exact Or.inr (Or.inl rfl)|exact Or.inr (Or.inr rfl))
  (hd:(x==("__debug__":Str))=false:=by decide) (iu:(x==("__classdict__":Str))=false:=by decide):EO G k S (.Name x pos) (ag i):=.mk λX Y ok =>
 aV (kh (X:=X) (i:=i) (by rw[ok.N];exact hN) (by unfold Iw;rw[ok.sc];exact hv) hd iu) λσ H Q q=>by
  obtain⟨F,aj,Qd,R,q,K⟩:=q;unfold ag at q
  split at q
  ·rename_i d e
   obtain⟨v,e2,r2⟩:=R.sh i d e;exact⟨v,e2,K v H F (.val d) aj (au.refl _) R r2 q⟩
  ·rename_i xs e
   obtain⟨a,vs,e2,_⟩:=R.own i xs e;exact⟨_,e2,K _ H F (.var i) aj (au.refl _) R e2 q⟩
  ·exact q.elim
def aM(d:D):TV:=λσ Q=>Q (.val d) σ
theorem pI{Y:bB}{v:V}{d:D}(r:∀F,Rep F v d)(σ:St)(H:Hp)(Q:VK)(q:lO Y (aM d) σ H Q):tC v σ H Q:=by
 obtain⟨F,aj,Qd,R,q,K⟩:=q;exact K v H F (.val d) aj (au.refl _) R (r F) q
theorem av{i j pos}:EO G k S (.Constant (.int i) j pos) (aM (.int i)):=.mk λ_ _ _=>aV SF (pI λ_=>.int i)
theorem Ce{b j pos}:EO G k S (.Constant (.bool b) j pos) (aM (.bl b)):=.mk λ_ _ _=>aV ZJ (pI λ_=>.bl b)
theorem sf{j pos}:EO G k S (.Constant .none j pos) (aM .aU):=.mk λ_ _ _=>aV SG (pI λ_=>.aU)
theorem b6{x j pos}:EO G k S (.Constant (.str x) j pos) (aM (.str x)):=.mk λ_ _ _=>aV SK (pI λ_=>.str x)
def ME(G:GE)(x:Str)(d:D):Prop:=∃u v,G.mg x=some u/\RelV v u/\∀F,Rep F v d
theorem di{X:Cx}{Y:bB}(ok:d8 X G k S Y){x:Str}(h:S.sc.lookup x=some .globalImplicit):Gl X x:=by
 unfold Gl;show X.env.scope.names.lookup x=_;rw[ok.sc];exact h
theorem xk{x:Str}{d:D}{pos:Pos}(h:ME G x d)(hg:S.sc.lookup x=some .globalImplicit:=by rfl)(hd:(x==("__debug__":Str))=false:=by decide):EO G k S (.Name x pos) (aM d):=.mk λX Y ok=>by
 obtain⟨u,v,h1,h2,h3⟩:=h;exact aV (AK (di ok hg) (by rw[ok.mg];exact h1) h2 hd) (pI h3)
def dc(σ:Sd):OV->Option D
 | .val d=>some d
 | .any=>none
 | .var i=>match σ[i]? with
  | some (some (.sh d))=>some d
  | some (some (.own xs))=>some (.lst xs)
  | some (some (.obj o))=>o.view
  | _=>none
theorem Rep.h{F H:Hp}(s:au F H){v:V}{d:D}(r:Rep F v d):b7 F H v d:=by
 cases d with
 | lst xs =>
  cases r with
  | lst h r=>exact⟨_,_,rfl,Rd.mono s h,r⟩
 | jt kvs =>
  cases r with
  | jt h r=>exact⟨_,_,rfl,s _ _ h,r⟩
 | kp w c e kvs =>
  cases r with
  | kp h1 h2 r=>exact⟨_,_,_,_,rfl,s _ _ h1,s _ _ h2,r⟩
 | _=>exact r
theorem RS.dc{Y:bB}{F:Hp}{aj:Sd}{σ:St}{H:Hp}(R:RS Y F aj σ H){v:V}{x:OV}{d:D}(r:yc F σ v x)(e:dc aj x=some d):b7 F H v d:=by
 cases x with
 | val d'=>cases e;exact Rep.h R.fr r
 | any=>cases e
 | var i =>
  have r:σ[i]?=some (some v):=r;have e:(match aj[i]? with|some (some (.sh d))=>some d|some (some (.own xs))=>some (.lst xs)|some (some (.obj o))=>o.view|_=>none)=some d:=e
  split at e
  ·rename_i d' q
   cases e;obtain⟨v2,e2,r2⟩:=R.sh i d q;rw[r]at e2;cases e2;exact Rep.h R.fr r2
  ·rename_i xs q
   cases e;obtain⟨a,vs,e2,h2,h3,_⟩:=R.own i xs q;rw[r]at e2;cases e2;exact⟨a,vs,rfl,.inl h2,h3⟩
  ·rename_i o q
   obtain⟨a,e2,h2,_⟩:=R.ob.obj i o q;rw[r]at e2;cases e2;exact o.sees h2 e
  ·cases e
theorem b7.int{F H:Hp}{v:V}{i:Int}(r:b7 F H v (.int i)):v=.int i:=by cases(show Rep F v (.int i)from r);rfl
theorem b7.bl{F H:Hp}{v:V}{i:Bool}(r:b7 F H v (.bl i)):v=.bl i:=by cases(show Rep F v (.bl i)from r);rfl
theorem b7.str{F H:Hp}{v:V}{i:Str}(r:b7 F H v (.str i)):v=.str i:=by cases(show Rep F v (.str i)from r);rfl
theorem b7.aU{F H:Hp}{v:V}(r:b7 F H v .aU):v=.aU:=by cases(show Rep F v .aU from r);rfl
theorem b7.tup{F H:Hp}(s:au F H){v:V}{xs:List D}(r:b7 F H v (.tup xs)):∃a vs,v=.ref a/\H a=some (.tup vs)/\aE F vs xs:=by
 cases(show Rep F v (.tup xs)from r)with
 | tup h r=>exact⟨_,_,rfl,s _ _ h,r⟩
theorem b7.lst{F H:Hp}{v:V}{xs:List D}(r:b7 F H v (.lst xs)):∃a vs,v=.ref a/\Rd H a (.lst vs)/\aE F vs xs:=r
def Goes(Y:bB)(F:Hp)(aj:Sd)(σ:St)(Qd:EV->Prop)(Q:VK):Prop:=∀v H' F' r,au F F'->RS Y F' aj σ H'->Iv Y F' H' aj σ v r->Qd r->Q v H'
theorem Goes.val{Y:bB}{F:Hp}{aj:Sd}{σ:St}{Qd:EV->Prop}{Q:VK}(g:Goes Y F aj σ Qd Q){H:Hp}(R:RS Y F aj σ H){v:V}{d:D}(r:Rep F v d)(q:Qd (.val d)):Q v H:=g v H F (.val d) (au.refl _) R r q
theorem Goes.own{Y:bB}{F:Hp}{aj:Sd}{σ:St}{Qd:EV->Prop}{Q:VK}(g:Goes Y F aj σ Qd Q){H:Hp}(R:RS Y F aj σ H){vs:List V}{xs:List D}(r:aE F vs xs)(q:Qd (.own xs)):∀p,H p=none->Q (.ref p) (upd H p (.lst vs)):=λp hp=>by
 refine g (.ref p) _ F (.own xs) (au.refl _) (R.jW hp) ⟨p,vs,rfl,aA,r,same_none R.fr hp,(R.bg hp).1,⟨λj ys e z=>?_,λz=>(R.ob.owned z).2.1 hp⟩⟩ q;obtain⟨a,us,e1,e2,_⟩:=R.own j ys e;rw[e1]at z;cases z;rw[hp]at e2;cases e2
theorem Goes.tup{Y:bB}{F:Hp}{aj:Sd}{σ:St}{Qd:EV->Prop}{Q:VK}(g:Goes Y F aj σ Qd Q){H:Hp}(R:RS Y F aj σ H){vs:List V}{xs:List D}(r:aE F vs xs)(q:Qd (.val (.tup xs))):∀p,H p=none->Q (.ref p) (upd H p (.tup vs)):=λp hp=>by
 have sm:=aK (o:=.tup vs) (same_none R.fr hp);exact g (.ref p) _ _ (.val (.tup xs)) sm (R.alloc hp) (.tup aA (r.mono sm)) q
def fL(r:R2)(f:D->D->(EV->Prop)->Prop):Prop:=
 ∀Y F H aj σ v u x y Qd Q,RS Y F aj σ H->b7 F H v x->b7 F H u y->f x y Qd->Goes Y F aj σ Qd Q->r v u H Q
def aW(f:D->D->(EV->Prop)->Prop)(ta tb:TV):TX:=λσ Q=>ta σ λx aw=>tb aw λy aO=>match dc aO x,dc aO y with
 | some a,some b=>f a b λr=>Q r aO
 | _,_=>False
theorem yc.mono{F F':Hp}(s:au F F'){σ:St}{v:V}{x:OV}(r:yc F σ v x):yc F' σ v x:=by
 cases x with
 | val d=>exact Rep.mono s r
 | var i=>exact r
 | any=>trivial
theorem zm{Y:bB}{r:R2}{f:D->D->(EV->Prop)->Prop}(hs:fL r f){ta tb:TV}{σ:St}{H:Hp}{Q:VK}(q:lX Y (aW f ta tb) σ H Q):UZ r (lO Y ta) (lO Y tb) σ H Q:=by
 obtain⟨F,aj,Qd,R,q,K⟩:=q;refine⟨F,aj,_,R,q,λv1 H1 F1 x aw s1 R1 r1 q1=>?_⟩;refine⟨F1,aw,_,R1,q1,λv2 H2 F2 y aO s2 R2 r2 q2=>?_⟩
 split at q2
 ·rename_i a b ea eb
  exact hs Y F2 H2 aO σ v1 v2 a b _ Q R2 (R2.dc (r1.mono s2) ea) (R2.dc r2 eb) q2 λv H' F' r s R' rr qq=>K v H' F' r aO ((s1.trans s2).trans s) R' rr qq
 ·exact q2.elim
theorem nP{op:Operator}{f:D->D->(EV->Prop)->Prop}{r:PySem.W.Frag->R2}(ho:∀X,iH X (binaryOp op) (r X.K))(hs:∀K,fL (r K) f){a b:Expr}{ta tb:TV}{pos:Pos}(ha:EO G k S a ta)(hb:EO G k S b tb):
  EX G k S (.BinOp a op b pos) (aW f ta tb):=.mk λX Y ok=>aV (ZL (ho X) (ha X Y ok) (hb X Y ok)) λσ H Q q=>zm (hs X.K) q
def cC:D->D->(EV->Prop)->Prop
 | .int i,.int j,Q=>Q (.val (.int (i+j)))
 | .str a,.str b,Q=>a.length+b.length<=sizeLine/\Q (.val (.str (a++b)))
 | .lst a,.lst b,Q=>a.length+b.length<=sizeLine/\Q (.own (a++b))
 | .tup a,.tup b,Q=>(a≠[]/\a.length+b.length<=sizeLine)/\Q (.val (.tup (a++b)))
 | _,_,_=>False
def Mj:R2:=λx y H Q=>∃l b xs zs,x=.ref l/\y=.ref b/\Rd H l (.lst xs)/\Rd H b (.lst zs)/\xs.length+zs.length<=sizeLine/\∀p,H p=none->Q (.ref p) (upd H p (.lst (xs++zs)))
theorem Inv.rdL{X:Cx}{pins:List (Addr×Obj)}{σ:St}{H:Hp}{s:Shared}{l:Addr}{xs:List V}(I:L2.Inv X pins σ H s)(h:Rd H l (.lst xs)):
  xs.length<=sizeLine/\∃(its:List Value) (n:Nat),Vals xs its/\xs.length=its.length/\s.heap.get? l=some {cls:=.type "list",data:=.seq its.toArray n}:=by
 obtain⟨z,its,n,r,e⟩:=L2.Rd.ok h I.bc;exact⟨z,its,n,r,r.length,e⟩
theorem JV{X:Cx}:iH X (binaryOp .Add) Mj:=by
 intro pins s σ H x y v u Q I rx ry h;obtain⟨l,b,xs,zs,rfl,rfl,hH,hB,hz,q⟩:=h;cases rx;cases ry;obtain⟨z,its,n,r,hl,e⟩:=Inv.rdL I hH;obtain⟨z2,Qf,n2,r2,rO,e2⟩:=Inv.rdL I hB;refine PySem.P.add_list e e2 ?_ (by rw[List.size_toArray,List.size_toArray];omega)
 have ea:its.toArray++Qf.toArray=(its++Qf).toArray:=by simp
 rw[ea];exact⟨.ref _,_,I.QP (t':=s.toks) (r.append r2) (by rw[List.length_append];omega),rfl,q _ I.fresh⟩
def Km(K:PySem.W.Frag):R2:=λx y H Q=>(∃i j,x=.int i/\y=.int j/\Q (.int (i+j)) H)\/(∃i j,x=.str i/\y=.str j/\i.length+j.length<=sizeLine/\Q (.str (i++j)) H)\/Mj x y H Q\/Ml K x y H Q
theorem B4{X:Cx}:iH X (binaryOp .Add) (Km X.K):=Se.or (yC.or (JV.or JW))
theorem Bl(K:PySem.W.Frag):fL (Km K) cC:=by
 intro Y F H aj σ v u x y Qd Q R rx ry q g;unfold cC at q
 split at q
 ·obtain rfl:=rx.int;obtain rfl:=ry.int
  exact .inl ⟨_,_,rfl,rfl,g.val R (.int _) q⟩
 ·obtain rfl:=rx.str;obtain rfl:=ry.str
  exact .inr (.inl ⟨_,_,rfl,rfl,q.1,g.val R (.str _) q.2⟩)
 ·obtain⟨a,vs,rfl,h1,r1⟩:=rx.lst;obtain⟨b,us,rfl,h2,r2⟩:=ry.lst
  exact .inr (.inr (.inl ⟨a,b,vs,us,rfl,rfl,h1,h2,by rw[r1.length,r2.length];exact q.1,g.own R (r1.append r2) q.2⟩))
 ·have rx':=rx
  obtain⟨a,vs,rfl,h1,r1⟩:=rx.tup R.fr;obtain⟨b,us,rfl,h2,r2⟩:=ry.tup R.fr;refine .inr (.inr (.inr ⟨a,b,vs,us,rfl,rfl,.of h1,.of h2,λz=>?_,by rw[r1.length,r2.length];exact q.1.2,λz=>?_,λ_=>g.tup R (r1.append r2) q.2⟩))
  ·subst z
   cases r1;exact q.1.1 rfl
  ·subst z
   cases r2;rw[List.append_nil]at q;exact g.val R rx' q.2
 ·exact q.elim
theorem bR{a b:Expr}{ta tb:TV}{pos:Pos}(ha:EO G k S a ta)(hb:EO G k S b tb):EX G k S (.BinOp a .Add b pos) (aW cC ta tb):=nP (r:=Km) (λ_=>B4) Bl ha hb
def VL(C:Int->Int->Prop)(g:Int->Int->Int):D->D->(EV->Prop)->Prop
 | .int i,.int j,Q=>C i j/\Q (.val (.int (g i j)))
 | _,_,_=>False
theorem pC{C:Int->Int->Prop}{g:Int->Int->Int}:fL (rI C λi j=>.int (g i j)) (VL C g):=by
 intro Y F H aj σ v u x y Qd Q R rx ry q gg;unfold VL at q
 split at q
 ·obtain rfl:=rx.int;obtain rfl:=ry.int
  exact⟨_,_,rfl,rfl,q.1,gg.val R (.int _) q.2⟩
 ·exact q.elim
def Jv(g:Int->Int->Int):D->D->(EV->Prop)->Prop
 | .int i,.int j,Q=>Q (.val (.int (g i j)))
 | _,_,_=>False
theorem BP{g:Int->Int->Int}:fL (Ig λi j=>.int (g i j)) (Jv g):=by
 intro Y F H aj σ v u x y Qd Q R rx ry q gg;unfold Jv at q
 split at q
 ·obtain rfl:=rx.int;obtain rfl:=ry.int
  exact⟨_,_,rfl,rfl,gg.val R (.int _) q⟩
 ·exact q.elim
section
variable {a b:Expr}{ta tb:TV}{pos:Pos}
def qo:=Jv λi j=>i-j
def yA:=VL (λ_ j=>0<j) λi j=>i%j
def qI:=VL oU λi j=>i^j.toNat
theorem kZ(ha:EO G k S a ta)(hb:EO G k S b tb):EX G k S (.BinOp a .Sub b pos) (aW qo ta tb):=nP (r:=λ_=>_) (λ_=>Ss) (λ_=>BP) ha hb
theorem xl(ha:EO G k S a ta)(hb:EO G k S b tb):EX G k S (.BinOp a .Mod b pos) (aW yA ta tb):=nP (r:=λ_=>_) (λ_=>Si) (λ_=>pC) ha hb
theorem nU(ha:EO G k S a ta)(hb:EO G k S b tb):EX G k S (.BinOp a .Pow b pos) (aW qI ta tb):=nP (r:=λ_=>_) (λ_=>Sr) (λ_=>pC) ha hb
end
def pM:D->D->(EV->Prop)->Prop
 | .int i,.int j,Q=>my i j/\Q (.val (.int (i*j)))
 | .lst xs,.int j,Q=>(-(2^63)<=j/\j<2^63/\xs.length*j.toNat<=sizeLine)/\Q (.own (List.replicate j.toNat xs).flatten)
 | _,_,_=>False
def Mm:R2:=λx y H Q=>∃l k xs,x=.ref l/\y=.int k/\Rd H l (.lst xs)/\-(2^63)<=k/\k<2^63/\xs.length*k.toNat<=sizeLine /\
 ∀p,H p=none->Q (.ref p) (upd H p (.lst (List.replicate k.toNat xs).flatten))
theorem JY{X:Cx}:iH X (binaryOp .Mult) Mm:=by
 intro pins s σ H x y v u Q I rx ry h;obtain⟨l,k,xs,rfl,rfl,hH,h1,h2,hz,q⟩:=h;cases rx;obtain⟨t,rfl⟩:=ry;obtain⟨z,its,n,r,hl,e⟩:=Inv.rdL I hH;have hlen:its.toArray.size*k.toNat<=sizeLine:=by rw[List.size_toArray,<- hl];exact hz
 have tJ:¬its.toArray.size*k.toNat>(2^63-1)/8:=by
  have:(sizeLine:Nat)<=(2^63-1)/8:=by decide
  omega
 have abd:¬(!Builtin.List.listFitsIndex k)=true:=by
  rw[fitsIndex_both h1 h2];exact Bool.false_ne_true
 have X6:¬Builtin.List.listTooLong (its.toArray.size*k.toNat)=true:=by
  rw[FY hlen];exact Bool.false_ne_true
 have abi:List.foldl (λx1 x2=>x1++x2) #[] (List.replicate (if its.toArray.isEmpty=true then 0 else k.toNat) its.toArray)=(List.replicate k.toNat its).flatten.toArray:=by
  have f0:∀m:Nat,List.foldl (λx1 x2=>x1++x2) #[] (List.replicate m its.toArray)=(List.replicate m its).flatten.toArray:=λm=>by
   have:=foldl_rep its m [];rw[List.nil_append]at this;exact this
  rw[f0];cases its with
  | nil=>simp
  | cons a r'=>rw[if_neg (by simp)]
 refine wpAny_binaryOp_repeat_ref (T:="list") (U:="int") ∅ ⟨_,e,rfl⟩ (λs'=>typeIs_int s' k t) noFill_list_mul F.fills_int_mul F.slot_int_rmul repeat_list F.slot_int_index.lookup
  (call_meets F.slot_int_rmul (typeIs_int s k t) F.entry_int_rmul (F.args_int_rmul_2 _ _) (int___rmul___int_list k t l its.toArray n)
   ⟨e,rfl,⟨_,e,rfl⟩,call_meets F.slot_list_mul ⟨_,e,rfl⟩ F.entry_list_mul (F.args_list_mul_2 _ _) (AutoListH.list___mul___list_int_3 l its.toArray n k t abd tJ X6) ⟨e,?_⟩⟩)
 rw[abi];exact⟨.ref _,_,I.QP (t':=s.toks) (r.rep k.toNat) (by rw[len_rep,Nat.mul_comm];exact hz),rfl,q _ I.fresh⟩
def Z2:R2:=λx y H Q=>rI my (λi j=>.int (i*j)) x y H Q\/Mm x y H Q
theorem BZ:fL Z2 pM:=by
 intro Y F H aj σ v u x y Qd Q R rx ry q g;unfold pM at q
 split at q
 ·obtain rfl:=rx.int;obtain rfl:=ry.int
  exact .inl ⟨_,_,rfl,rfl,q.1,g.val R (.int _) q.2⟩
 ·obtain⟨a,vs,rfl,h1,r1⟩:=rx.lst;obtain rfl:=ry.int
  exact .inr ⟨a,_,vs,rfl,rfl,h1,q.1.1,q.1.2.1,by rw[r1.length];exact q.1.2.2,g.own R (r1.rep _) q.2⟩
 ·exact q.elim
theorem pV{a b:Expr}{ta tb:TV}{pos:Pos}(ha:EO G k S a ta)(hb:EO G k S b tb):EX G k S (.BinOp a .Mult b pos) (aW pM ta tb):=nP (r:=λ_=>Z2) (λ_=>Sj.or JY) (λ_=>BZ) ha hb
def qR(t:TV):TV:=λσ Q=>t σ λx aw=>match dc aw x with
 | some (.int i)=>Q (.val (.int (-i))) aw
 | _=>False
theorem nR{a:Expr}{ta:TV}{pos:Pos}(ha:EO G k S a ta):EO G k S (.UnaryOp .USub a pos) (qR ta):=.mk λX Y ok=>aV (ZM Vf (ha X Y ok)) λσ H Q q=>by
 obtain⟨F,aj,Qd,R,q,K⟩:=q;refine⟨F,aj,_,R,q,λv1 H1 F1 x aw s1 R1 r1 q1=>?_⟩
 split at q1
 ·rename_i i e
  obtain rfl:=(R1.dc r1 e).int;exact⟨i,rfl,K _ H1 F1 (.val (.int (-i))) aw s1 R1 (.int _) q1⟩
 ·exact q1.elim
end Vc
namespace Vc
open PySem L2
variable [KF]
variable {G:GE}{k:Nat}{S:Stat}
mutual
def fS:D->D->Bool
 | .aU,.aU=>true
 | .bl a,.bl b=>a==b
 | .bl a,.int j=>(if a then 1 else 0)==j
 | .int i,.bl b=>i==(if b then 1 else 0)
 | .int i,.int j=>i==j
 | .str x,.str y=>x==y
 | .lst xs,.lst ys=>ph xs ys
 | .tup xs,.tup ys=>ph xs ys
 | _,_=>false
def ph:List D->List D->Bool
 | [],[]=>true
 | x::xs,y::ys=>fS x y&&ph xs ys
 | _,_=>false
end
def bG:Nat->D->Bool
 | _,.aU=>true
 | _,.bl _=>true
 | _,.int _=>true
 | _,.str x=>x.cps.all (· < 0x110000)
 | n+1,.tup xs=>xs.all (bG n)
 | n+1,.lst xs=>xs.all (bG n)
 | _,_=>false
mutual
def toPy:D->PyData
 | .aU=>.none
 | .bl b=>.bool b
 | .int i=>.int i
 | .str x=>.str x
 | .tup xs=>.tuple (d3 xs)
 | .lst xs=>.list (d3 xs)
 | _=>.none
def d3:List D->List PyData
 | []=>[]
 | x::xs=>toPy x::d3 xs
end
theorem tD{n m:Nat}(ih:∀x y,bG n x=true->bG m y=true->fS x y=PyData.eqv (toPy x) (toPy y)):∀xs ys:List D,xs.all (bG n)=true->ys.all (bG m)=true->ph xs ys=PyData.eqvAll (d3 xs) (d3 ys)
 | [],[],_,_=>rfl
 | [],_::_,_,_=>rfl
 | _::_,[],_,_=>rfl
 | x::xs,y::ys,h1,h2=>by
  rw[List.all_cons,Bool.and_eq_true]at h1 h2;show(fS x y&&ph xs ys)=(PyData.eqv (toPy x) (toPy y)&&PyData.eqvAll (d3 xs) (d3 ys));rw[ih x y h1.1 h2.1,tD ih xs ys h1.2 h2.2]
theorem tB:∀(n m:Nat) (x y:D),bG n x=true->bG m y=true->fS x y=PyData.eqv (toPy x) (toPy y):=by
 intro n
 induction n with
 | zero =>
  intro m x y h1 h2;cases x with
  | tup _=>exact absurd h1 (by simp [bG])
  | lst _=>exact absurd h1 (by simp [bG])
  | dct _=>exact absurd h1 (by simp [bG])
  | exc _=>exact absurd h1 (by simp [bG])
  | hW _=>exact absurd h1 (by simp [bG])
  | jt _=>exact absurd h1 (by simp [bG])
  | kp _ _ _ _=>exact absurd h1 (by simp [bG])
  | _=>cases y<;>first|rfl | (cases m<;>exact absurd h2 (by simp [bG]))
 | succ n ih =>
  intro m x y h1 h2;cases x with
  | tup xs =>
   cases y with
   | tup ys =>
    cases m with
    | zero=>exact absurd h2 (by simp [bG])
    | succ m=>exact tD (ih m) xs ys h1 h2
   | _=>first|rfl | (cases m<;>exact absurd h2 (by simp [bG]))
  | lst xs =>
   cases y with
   | lst ys =>
    cases m with
    | zero=>exact absurd h2 (by simp [bG])
    | succ m=>exact tD (ih m) xs ys h1 h2
   | _=>first|rfl | (cases m<;>exact absurd h2 (by simp [bG]))
  | dct _=>exact absurd h1 (by simp [bG])
  | exc _=>exact absurd h1 (by simp [bG])
  | hW _=>exact absurd h1 (by simp [bG])
  | jt _=>exact absurd h1 (by simp [bG])
  | kp _ _ _ _=>exact absurd h1 (by simp [bG])
  | _=>cases y<;>first|rfl | (cases m<;>exact absurd h2 (by simp [bG]))
theorem er{n:Nat}(ih:∀x,bG n x=true->(toPy x).canLay0=true/\(toPy x).depth<=n):∀xs:List D,xs.all (bG n)=true->PyData.canLayAll0 (d3 xs)=true/\PyData.depthAll (d3 xs)<=n
 | [],_=>⟨rfl,Nat.zero_le _⟩
 | x::xs,h=>by
  rw[List.all_cons,Bool.and_eq_true]at h;have h1:=ih x h.1;have h2:=er ih xs h.2;refine⟨?_,?_⟩
  ·show((toPy x).canLay0&&PyData.canLayAll0 (d3 xs))=true
   rw[h1.1,h2.1];rfl
  ·show max (toPy x).depth (PyData.depthAll (d3 xs))<=n
   exact Nat.max_le.mpr ⟨h1.2,h2.2⟩
theorem g6:∀(n:Nat) (x:D),bG n x=true->(toPy x).canLay0=true/\(toPy x).depth<=n:=by
 intro n
 induction n with
 | zero =>
  intro x h;cases x with
  | tup _=>exact absurd h (by simp [bG])
  | lst _=>exact absurd h (by simp [bG])
  | dct _=>exact absurd h (by simp [bG])
  | exc _=>exact absurd h (by simp [bG])
  | hW _=>exact absurd h (by simp [bG])
  | jt _=>exact absurd h (by simp [bG])
  | kp _ _ _ _=>exact absurd h (by simp [bG])
  | _=>first|exact⟨rfl,Nat.zero_le _⟩ | (exact⟨by simpa [bG,toPy,PyData.canLay0,PyData.strOk]using h,Nat.zero_le _⟩)
 | succ n ih =>
  intro x h;cases x with
  | tup xs =>
   have:=er ih xs h;exact⟨this.1,Nat.succ_le_succ this.2⟩
  | lst xs =>
   have:=er ih xs h;exact⟨this.1,Nat.succ_le_succ this.2⟩
  | dct _=>exact absurd h (by simp [bG])
  | exc _=>exact absurd h (by simp [bG])
  | hW _=>exact absurd h (by simp [bG])
  | jt _=>exact absurd h (by simp [bG])
  | kp _ _ _ _=>exact absurd h (by simp [bG])
  | _=>first|exact⟨rfl,Nat.zero_le _⟩ | (exact⟨by simpa [bG,toPy,PyData.canLay0,PyData.strOk]using h,Nat.zero_le _⟩)
section
variable {P:Program}{w:World}{F H:Hp}{h:Heap}
mutual
theorem Rep.reads(ok:gf P w H h)(s:au F H):∀ {v:V} {d:D} {u:Value} (n:Nat),Rep F v d->RelV v u->bG n d=true->∃as,Reads h u (toPy d) as
 | _,_,_,_,.aU,e,_=>by cases e;exact⟨_,.none⟩
 | _,_,_,_,.bl b,e,_=>by cases e;exact⟨_,.bool b⟩
 | _,_,_,_,.int i,e,_=>by obtain⟨t,rfl⟩:=e;exact⟨_,.int i t⟩
 | _,_,_,_,.str x,e,_=>by obtain⟨t,rfl⟩:=e;exact⟨_,.str x t⟩
 | _,_,_,0,.tup _ _,_,o=>by exact absurd o (by simp [bG])
 | _,_,_,0,.lst _ _,_,o=>by exact absurd o (by simp [bG])
 | _,_,_,n+1,.tup (a:=a) (vs:=vs) hf r,e,o=>by
  cases e;obtain⟨_,its,rv,ob,ho,hc,m,hd⟩:=ok a _ (s a _ hf);obtain⟨as,q⟩:=aE.reads ok s n r rv o;exact⟨as,.tuple ho hc hd q⟩
 | _,_,_,n+1,.lst (a:=a) (vs:=vs) hf r,e,o=>by
  cases e;obtain⟨_,its,m,rv,ho⟩:=L2.Rd.ok (Rd.mono s hf) ok;obtain⟨as,q⟩:=aE.reads ok s n r rv o;exact⟨_,.list ho rfl rfl q⟩
 | _,_,_,n,.hW _,_,o=>by cases n<;>exact absurd o (by simp [bG])
 | _,_,_,n,.exc _,_,o=>by cases n<;>exact absurd o (by simp [bG])
 | _,_,_,n,.Jb _ _,_,o=>by cases n<;>exact absurd o (by simp [bG])
 | _,_,_,n,.jt _ _,_,o=>by cases n<;>exact absurd o (by simp [bG])
 | _,_,_,n,.kp _ _ _,_,o=>by cases n<;>exact absurd o (by simp [bG])
theorem aE.reads(ok:gf P w H h)(s:au F H):∀ {vs:List V} {ds:List D} {us:List Value} (n:Nat),aE F vs ds->Vals vs us->ds.all (bG n)=true->∃as,ReadsAll h us (d3 ds) as
 | _,_,_,_,.nil,.nil,_=>⟨_,.nil⟩
 | _,_,_,n,.cons r t,.cons e f,o=>by
  rw[List.all_cons,Bool.and_eq_true]at o;obtain⟨as,h1⟩:=Rep.reads ok s n r e o.1;obtain⟨bs,h2⟩:=aE.reads ok s n t f o.2;exact⟨_,.cons h1 h2⟩
end
theorem b7.reads(ok:gf P w H h)(s:au F H){v:V}{d:D}{u:Value}(r:b7 F H v d)(e:RelV v u)(o:bG 8 d=true):∃as,Reads h u (toPy d) as:=by
 cases d with
 | lst xs =>
  obtain⟨a,vs,rfl,hf,r⟩:=r;cases e;obtain⟨_,its,n,rv,ho⟩:=L2.Rd.ok hf ok;obtain⟨as,q⟩:=aE.reads ok s 7 r rv o;exact⟨_,.list ho rfl rfl q⟩
 | jt _=>exact absurd o (by simp [bG])
 | kp _ _ _ _=>exact absurd o (by simp [bG])
 | _=>exact Rep.reads ok s 8 r e o
end
theorem jB{x:D}(h:bG 8 x=true):PySem.SeqAt.shaped (toPy x)=true:=by
 obtain⟨h1,h2⟩:=g6 8 x h;unfold PySem.SeqAt.shaped;rw[h1,decide_eq_true ⋯];rfl
def Ko(neg:Bool):R2:=λv u H Q=>∃F x y,au F H/\b7 F H v x/\b7 F H u y/\bG 8 x=true/\bG 8 y=true/\Q (.bl (if neg then !fS x y else fS x y)) H
theorem Sf{X:Cx}(hu:X.A.units+64<cLine):iH X (compareOp .Eq) (Ko false):=by
 intro pins s σ H v u v' u' Q I rv ru h;obtain⟨F,x,y,sm,rx,ry,ox,oy,q⟩:=h;obtain⟨as,r1⟩:=rx.reads I.bc sm rv ox;obtain⟨bs,r2⟩:=ry.reads I.bc sm ru oy;refine PyProof.Rows.eq_dataH r1 r2 (jB ox) (jB oy) hu ⟨.bl (fS x y),H,I,?_,q⟩;rw[tB 8 8 x y ox oy];rfl
theorem Sl{X:Cx}(hu:X.A.units+64<cLine):iH X (compareOp .NotEq) (Ko true):=by
 intro pins s σ H v u v' u' Q I rv ru h;obtain⟨F,x,y,sm,rx,ry,ox,oy,q⟩:=h;obtain⟨as,r1⟩:=rx.reads I.bc sm rv ox;obtain⟨bs,r2⟩:=ry.reads I.bc sm ru oy;refine PyProof.Rows.ne_dataH r1 r2 (jB ox) (jB oy) hu ⟨.bl (!fS x y),H,I,?_,q⟩;rw[tB 8 8 x y ox oy];rfl
end Vc
namespace Vc
open PySem L2
variable [KF]
variable {G:GE}{k:Nat}{S:Stat}
def oW(r:R2)(f:D->D->(Bool->Prop)->Prop):Prop:=
 ∀Y F H aj σ v u x y (Qd:Bool->Prop) (Q:VK),RS Y F aj σ H->b7 F H v x->b7 F H u y->f x y Qd->(∀b,Qd b->Q (.bl b) H)->r v u H Q
def aS(f:D->D->(Bool->Prop)->Prop)(ta tb:TV):TB:=λσ Q=>ta σ λx aw=>tb aw λy aO=>match dc aO x,dc aO y with
 | some a,some b=>f a b λr=>Q r aO
 | _,_=>False
def bV(t:TB):TV:=λσ Q=>t σ λb aw=>Q (.val (.bl b)) aw
theorem rn{Y:bB}{r:R2}{f:D->D->(Bool->Prop)->Prop}(hs:oW r f){ta tb:TV}{σ:St}{H:Hp}{Q:VK}{F:Hp}{aj:Sd}{Qd:Bool->Sd->Prop}(R:RS Y F aj σ H)(q:aS f ta tb aj Qd)
  (K:∀b H' F' aG,au F F'->RS Y F' aG σ H'->Qd b aG->Q (.bl b) H'):UZ r (lO Y ta) (lO Y tb) σ H Q:=by
 refine⟨F,aj,_,R,q,λv1 H1 F1 x aw s1 R1 r1 q1=>?_⟩;refine⟨F1,aw,_,R1,q1,λv2 H2 F2 y aO s2 R2 r2 q2=>?_⟩
 split at q2
 ·rename_i a b ea eb
  exact hs Y F2 H2 aO σ v1 v2 a b _ Q R2 (R2.dc (r1.mono s2) ea) (R2.dc r2 eb) q2 λc qc=>K c H2 F2 aO (s1.trans s2) R2 qc
 ·exact q2.elim
def oV(G:GE)(k:Nat)(S:Stat)(op:CmpOp)(f:D->D->(Bool->Prop)->Prop):Prop:=∃r:R2,(∀X Y,d8 X G k S Y->iH X (compareOp op) r)/\oW r f
theorem aL{op:CmpOp}{f:D->D->(Bool->Prop)->Prop}(h:oV G k S op f){a b:Expr}{ta tb:TV}{pos:Pos}(ha:EO G k S a ta)(hb:EO G k S b tb)(hm:behindInMarks op b=false:=by first|exact tT _|with_unfolding_all rfl):
  EB G k S (.Compare a [op] [b] pos) (aS f ta tb):=.mk λX Y ok=>by
 obtain⟨r,ho,hs⟩:=h;refine yK (ud (ho X Y ok) (ha X Y ok) (hb X Y ok) hm) λσ H Q q=>?_;obtain⟨F,aj,Qd,R,q,K⟩:=q;exact rn hs R q λb H' F' aG s R' qq=>⟨b,rfl,K b H' F' aG s R' qq⟩
theorem Z5{op:CmpOp}{f:D->D->(Bool->Prop)->Prop}(h:oV G k S op f){a b:Expr}{ta tb:TV}{pos:Pos}(ha:EO G k S a ta)(hb:EO G k S b tb)(hm:behindInMarks op b=false:=by first|exact tT _|with_unfolding_all rfl):
  EO G k S (.Compare a [op] [b] pos) (bV (aS f ta tb)):=.mk λX Y ok=>by
 obtain⟨r,ho,hs⟩:=h;refine aV (Ka (ho X Y ok) (ha X Y ok) (hb X Y ok) hm) λσ H Q q=>?_;obtain⟨F,aj,Qd,R,q,K⟩:=q;exact rn hs R q λb H' F' aG s R' qq=>K _ H' F' (.val (.bl b)) aG s R' (.bl b) qq
def eqT(x y:D)(Q:Bool->Prop):Prop:=(bG 8 x=true/\bG 8 y=true)/\Q (fS x y)
def neT(x y:D)(Q:Bool->Prop):Prop:=(bG 8 x=true/\bG 8 y=true)/\Q (!fS x y)
theorem gS:oV G k S .Eq eqT:=⟨Ko false,λX Y ok=>Sf ok.units,λY F H aj σ v u x y Qd Q R rx ry q K=>⟨F,x,y,R.fr,rx,ry,q.1.1,q.1.2,K _ q.2⟩⟩
theorem iT:oV G k S .NotEq neT:=⟨Ko true,λX Y ok=>Sl ok.units,λY F H aj σ v u x y Qd Q R rx ry q K=>⟨F,x,y,R.fr,rx,ry,q.1.1,q.1.2,K _ q.2⟩⟩
def Qa(p:Int->Int->Bool):D->D->(Bool->Prop)->Prop
 | .int i,.int j,Q=>Q (p i j)
 | _,_,_=>False
theorem jv{p:Int->Int->Bool}:oW (Ig λi j=>.bl (p i j)) (Qa p):=λY F H aj σ v u x y Qd Q R rx ry q K=>by
 unfold Qa at q
 split at q
 ·obtain rfl:=rx.int;obtain rfl:=ry.int
  exact⟨_,_,rfl,rfl,K _ q⟩
 ·exact q.elim
def JL:=Qa λi j=>decide (i<j)
def leT:=Qa λi j=>decide (i<=j)
def Vy:=Qa λi j=>decide (j<i)
def geT:=Qa λi j=>decide (j<=i)
theorem Dt:oV G k S .Lt JL:=⟨_,λ_ _ _=>Zn,jv⟩
theorem aaR:oV G k S .LtE leT:=⟨_,λ_ _ _=>Zm,jv⟩
theorem IH:oV G k S .Gt Vy:=⟨_,λ_ _ _=>Zk,jv⟩
theorem Wx:oV G k S .GtE geT:=⟨_,λ_ _ _=>Zj,jv⟩
def isNone:D->Bool
 | .aU=>true
 | _=>false
def isT(x y:D)(Q:Bool->Prop):Prop:=isNone y=true/\Q (isNone x)
theorem b7.isNone{F H:Hp}{v:V}{x:D}(r:b7 F H v x):decide (v=.aU)=isNone x:=by
 cases x with
 | lst xs=>obtain⟨a,vs,rfl,_⟩:=r;rfl
 | dct _=>cases(show Rep F v (.dct _)from r);rfl
 | exc _=>cases(show Rep F v (.exc _)from r);rfl
 | hW _=>cases(show Rep F v (.hW _)from r);rfl
 | jt _=>obtain⟨a,ks,rfl,_⟩:=r;rfl
 | kp _ _ _ _=>obtain⟨a,dx,ad,ks,rfl,_⟩:=r;rfl
 | aU=>obtain rfl:=r.aU;rfl
 | bl _=>obtain rfl:=r.bl;rfl
 | int _=>obtain rfl:=r.int;rfl
 | str _=>obtain rfl:=r.str;rfl
 | tup _=>cases(show Rep F v (.tup _)from r);rfl
theorem b7.QY{F H:Hp}{v:V}{x:D}(r:b7 F H v x)(h:Vc.isNone x=true):v=.aU:=by
 cases x<;>first|exact r.aU|cases h
theorem Wy:oV G k S .Is isT:=⟨_,λ_ _ _=>Sh,λY F H aj σ v u x y Qd Q R rx ry q K=>⟨ry.QY q.1,by rw[rx.isNone];exact K _ q.2⟩⟩
def xG(t u:TB):TB:=λσ Q=>t σ λc aw=>if c=true then u aw Q else Q false aw
def vf(t u:TB):TB:=λσ Q=>t σ λc aw=>if c=true then Q true aw else u aw Q
def Ha(t:TB):TB:=λσ Q=>t σ λc aw=>Q (!c) aw
structure EW(G:GE)(k:Nat)(S:Stat)(e:Expr)(t:TB) :Prop where
 run:∀X Y,d8 X G k S Y->PW X e (lB Y t)
instance {G:GE} {k:Nat} {S:Stat} {e:Expr} {t:TB} :CoeFun (EW G k S e t) λ_=>∀X Y,d8 X G k S Y->PW X e (lB Y t):=⟨EW.run⟩
theorem pw_imp{X:Cx}{e:Expr}{t t':TT}(h:PW X e t)(i:∀σ H Q,t' σ H Q->t σ H Q):PW X e t':=λwh pins s σ H Q I q=>h wh pins s σ H Q I (i σ H Q q)
section
variable {a b:Expr}{rest:List Expr}{ta tb:TB}{pos:Pos}
theorem Ih(h:EW G k S a ta):EB G k S a ta:=.mk λX Y ok=>(h X Y ok).pt
theorem yM(ha:EB G k S a ta):EW G k S (.BoolOp .And [a] pos) ta:=.mk λX Y ok=>pw_and1 (ha X Y ok)
theorem pW(ha:EB G k S a ta):EW G k S (.BoolOp .Or [a] pos) ta:=.mk λX Y ok=>pw_or1 (ha X Y ok)
theorem Gy(ha:EB G k S a ta)(hb:EW G k S (.BoolOp .And (b::rest) pos) tb):EW G k S (.BoolOp .And (a::b::rest) pos) (xG ta tb):=.mk λX Y ok=>pw_imp (pw_and (ha X Y ok) (hb X Y ok)) λσ H Q q=>by
 obtain⟨F,aj,Qd,R,q,K⟩:=q;refine⟨F,aj,_,R,q,λc H1 F1 aw s1 R1 q1=>?_⟩;cases c with
 | true=>exact⟨F1,aw,Qd,R1,q1,λb H' F' aG s R' qq=>K b H' F' aG (s1.trans s) R' qq⟩
 | false=>exact K false H1 F1 aw s1 R1 q1
theorem yO(ha:EB G k S a ta)(hb:EW G k S (.BoolOp .Or (b::rest) pos) tb):EW G k S (.BoolOp .Or (a::b::rest) pos) (vf ta tb):=.mk λX Y ok=>pw_imp (pw_or (ha X Y ok) (hb X Y ok)) λσ H Q q=>by
 obtain⟨F,aj,Qd,R,q,K⟩:=q;refine⟨F,aj,_,R,q,λc H1 F1 aw s1 R1 q1=>?_⟩;cases c with
 | false=>exact⟨F1,aw,Qd,R1,q1,λb H' F' aG s R' qq=>K b H' F' aG (s1.trans s) R' qq⟩
 | true=>exact K true H1 F1 aw s1 R1 q1
end
structure EV'(G:GE)(k:Nat)(S:Stat)(e:Expr)(t:TB) :Prop where
 run:∀X Y,d8 X G k S Y->PE X e (λσ H Q=>lB Y t σ H λb H'=>Q (.bl b) H')
instance {G:GE} {k:Nat} {S:Stat} {e:Expr} {t:TB} :CoeFun (EV' G k S e t) λ_=>∀X Y,d8 X G k S Y->PE X e (λσ H Q=>lB Y t σ H λb H'=>Q (.bl b) H'):=⟨EV'.run⟩
section
variable {a b:Expr}{rest:List Expr}{ta tb:TB}{pos:Pos}
def G6(t:TV):TB:=λσ Q=>t σ λx aw=>match dc aw x with
 | some (.bl b)=>Q b aw
 | _=>False
theorem ab6{t:TV}(h:EO G k S a t):EV' G k S a (G6 t):=.mk λX Y ok=>aV (h X Y ok) λσ H Q q=>by
 obtain⟨F,aj,Qd,R,q,K⟩:=q;refine⟨F,aj,_,R,q,λv1 H1 F1 x aw s1 R1 r1 q1=>?_⟩
 split at q1
 ·rename_i b eb
  obtain rfl:=(R1.dc r1 eb).bl;exact K b H1 F1 aw s1 R1 q1
 ·exact q1.elim
theorem Z6(ha:EV' G k S a ta):EO G k S (.UnaryOp .Not a pos) (bV (Ha ta)):=.mk λX Y ok=>aV (SH (ha X Y ok)) λσ H Q q=>by
 obtain⟨F,aj,Qd,R,q,K⟩:=q;exact⟨F,aj,_,R,q,λc H1 F1 aw s1 R1 q1=>⟨c,rfl,K _ H1 F1 (.val (.bl (!c))) aw s1 R1 (.bl _) q1⟩⟩
end
end Vc
namespace Vc
open PySem L2
variable [KF]
variable {G:GE}{k:Nat}{S:Stat}
theorem aE.nY{F:Hp}{vs:List V}{xs:List D}{i:Int}{d:D}(r:aE F vs xs)(h:L2.nY xs i=some d):∃v,L2.nY vs i=some v/\Rep F v d:=by
 unfold L2.nY at h ⊢;rw[r.length];cases e:As xs.length i with
 | none=>rw[e]at h;cases h
 | some j =>
  rw[e]at h;exact r.get (i:=j) h
def JB:D->D->(D->Prop)->Prop
 | .lst xs,.int i,Q=>match nY xs i with
  | some d=>Q d
  | none=>False
 | .tup xs,.int i,Q=>match nY xs i with
  | some d=>Q d
  | none=>False
 | .str z,.int i,Q=>z.length<=sizeLine/\match nY z.cps.toList i with
  | some c=>Q (.str ⟨#[c]⟩)
  | none=>False
 | .hW ns,.int i,Q=>match nY ns i with
  | some n=>Q (.int n)
  | none=>False
 | _,_,_=>False
theorem IE{α β:Type}(f:α->β){xs:List α}{i:Int}{a:α}(h:L2.nY xs i=some a):L2.nY (xs.map f) i=some (f a):=by
 unfold L2.nY at h ⊢;rw[List.length_map];cases e:As xs.length i with
 | none=>rw[e]at h;cases h
 | some j =>
  rw[e]at h;have h:xs[j]?=some a:=h;show(xs.map f)[j]?=_;rw[List.getElem?_map,h];rfl
def iD(ta tb:TV):TV:=λσ Q=>ta σ λx aw=>tb aw λy aO=>match dc aO x,dc aO y with
 | some a,some b=>JB a b λr=>Q (.val r) aO
 | _,_=>False
theorem dg{a b:Expr}{ta tb:TV}{pos:Pos}(ha:EO G k S a ta)(hb:EO G k S b tb)(hs:zI b:=by intro _ _;rfl):EO G k S (.Subscript a b pos) (iD ta tb):=.mk λX Y ok =>
 aV (ZK Qi (ha X Y ok) (hb X Y ok) hs) λσ H Q q=>by
  obtain⟨F,aj,Qd,R,q,K⟩:=q;refine⟨F,aj,_,R,q,λv1 H1 F1 x aw s1 R1 r1 q1=>?_⟩;refine⟨F1,aw,_,R1,q1,λv2 H2 F2 y aO s2 R2 r2 q2=>?_⟩
  split at q2
  ·rename_i a b ea eb
   have rx:=R2.dc (r1.mono s2) ea;have ry:=R2.dc r2 eb;have fin:∀ {v d},Rep F2 v d->Qd (.val d) aO->Q v H2:=λr qq=>K _ H2 F2 (.val _) aO (s1.trans s2) R2 r qq;unfold JB at q2
   split at q2
   ·obtain⟨p,vs,rfl,h1,r1⟩:=rx.lst;obtain rfl:=ry.int
    split at q2
    ·rename_i d e
     obtain⟨v,ev,rv⟩:=r1.nY e;exact .inl ⟨p,vs,_,v,rfl,rfl,.inl h1,ev,fin rv q2⟩
    ·exact q2.elim
   ·obtain⟨p,vs,rfl,h1,r1⟩:=rx.tup R2.fr;obtain rfl:=ry.int
    split at q2
    ·rename_i d e
     obtain⟨v,ev,rv⟩:=r1.nY e;exact .inr (.inl ⟨p,vs,_,v,rfl,rfl,.of h1,ev,fin rv q2⟩)
    ·exact q2.elim
   ·obtain rfl:=rx.str;obtain rfl:=ry.int
    obtain⟨hz,q2⟩:=q2
    split at q2
    ·rename_i c e
     exact .inr (.inr ⟨_,_,c,rfl,rfl,hz,e,fin (.str _) q2⟩)
    ·exact q2.elim
   ·rename_i ns i
    have rx:Rep F2 v1 (.hW ns):=rx;obtain rfl:=ry.int;cases rx with
    | hW h =>
     split at q2
     ·rename_i n e
      exact .inl ⟨_,ns.map V.int,_,.int n,rfl,rfl,by rw[ok.kf];exact R2.fr.seq h,IE V.int e,fin (.int _) q2⟩
     ·exact q2.elim
   ·exact q2.elim
  ·exact q2.elim
theorem jy{F:Hp}:∀ns:List Int,aE F (ns.map V.int) (ns.map D.int)
 | []=>.nil
 | n::ns=>.cons (.int n) (jy ns)
theorem b7.hW{F H:Hp}(s:au F H){v:V}{ns:List Int}(r:b7 F H v (.hW ns)):∃a,v=.ref a/\jr KF.K H a (ns.map V.int):=by
 cases(show Rep F v (.hW ns)from r)with
 | hW h=>exact⟨_,rfl,s.seq h⟩
abbrev Dj:=Sd->(Option Int->Sd->Prop)->Prop
def lP(Y:bB)(t:Dj):TO:=λσ H Q=>∃F aj Qd,RS Y F aj σ H/\t aj Qd/\∀o H' F' aG,au F F'->RS Y F' aG σ H'->Qd o aG->Q o H'
structure Io(G:GE)(k:Nat)(S:Stat)(e:Option Expr)(t:Dj) :Prop where
 run:∀X Y,d8 X G k S Y->PO X e (lP Y t)
instance {G:GE} {k:Nat} {S:Stat} {e:Option Expr} {t:Dj} :CoeFun (Io G k S e t) λ_=>∀X Y,d8 X G k S Y->PO X e (lP Y t):=⟨Io.run⟩
theorem Gq{X:Cx}{e:Option Expr}{t t':TO}(h:PO X e t)(i:∀σ H Q,t' σ H Q->t σ H Q):PO X e t':=λpins s σ H Q I q=>h pins s σ H Q I (i σ H Q q)
def Ct:Dj:=λσ Q=>Q none σ
def Bc(t:TV):Dj:=λσ Q=>t σ λx aw=>match dc aw x with
 | some (.int i)=>Q (some i) aw
 | _=>False
theorem fY:Io G k S none Ct:=.mk λX Y ok=>Gq Kg λσ H Q q=>by
 obtain⟨F,aj,Qd,R,q,K⟩:=q;exact K none H F aj (au.refl _) R q
theorem fF{e:Expr}{t:TV}(h:EO G k S e t):Io G k S (some e) (Bc t):=.mk λX Y ok=>Gq (Kh (h X Y ok)) λσ H Q q=>by
 obtain⟨F,aj,Qd,R,q,K⟩:=q;refine⟨F,aj,_,R,q,λv1 H1 F1 x aw s1 R1 r1 q1=>?_⟩
 split at q1
 ·rename_i i e
  obtain rfl:=(R1.dc r1 e).int;exact⟨i,rfl,K _ H1 F1 aw s1 R1 q1⟩
 ·exact q1.elim
def cut{α:Type}(xs:List α)(lo hi:Option Int):List α:=(xs.drop (HT.cU xs.length 0 lo)).take (HT.cU xs.length xs.length hi-HT.cU xs.length 0 lo)
theorem aE.cut{F:Hp}{vs:List V}{xs:List D}(r:aE F vs xs)(lo hi:Option Int):aE F (vJ vs lo hi) (cut xs lo hi):=by
 unfold vJ Vc.cut;rw[r.length];exact(r.drop _).take _
def slD:D->Option Int->Option Int->(EV->Prop)->Prop
 | .lst xs,lo,hi,Q=>Q (.own (cut xs lo hi))
 | .hW ns,lo,hi,Q=>Q (.own (cut (ns.map D.int) lo hi))
 | .tup xs,lo,hi,Q=>¬(HT.cU xs.length 0 lo=0/\HT.cU xs.length xs.length hi=xs.length)/\Q (.val (.tup (cut xs lo hi)))
 | _,_,_,_=>False
def KR(t:TV)(tl th:Dj):TX:=λσ Q=>t σ λx aw=>tl aw λl aO=>th aO λu fe=>match dc fe x with
 | some d=>slD d l u λr=>Q r fe
 | none=>False
theorem abW{e:Expr}{lo hi:Option Expr}{t:TV}{tl th:Dj}{p2 pos:Pos}(h:EO G k S e t)(hl:Io G k S lo tl)(hh:Io G k S hi th):EX G k S (.Subscript e (.Slice lo hi none p2) pos) (KR t tl th):=.mk λX Y ok =>
 aV (xh (Bj.or A3 GZ) (h X Y ok) (hl X Y ok) (hh X Y ok)) λσ H Q q=>by
  obtain⟨F,aj,Qd,R,q,K⟩:=q;refine⟨F,aj,_,R,q,λv1 H1 F1 x aw s1 R1 r1 q1=>?_⟩;refine⟨F1,aw,_,R1,q1,λl H2 F2 aO s2 R2 q2=>?_⟩;refine⟨F2,aO,_,R2,q2,λu H3 F3 fe s3 R3 q3=>?_⟩
  split at q3
  ·rename_i d e
   have rx:=R3.dc (r1.mono (s2.trans s3)) e;have g:Goes Y F3 fe σ (λr=>Qd r fe) Q:=λv H' F' r s R' rr qq=>K v H' F' r fe (((s1.trans s2).trans s3).trans s) R' rr qq;unfold slD at q3
   split at q3
   ·obtain⟨p,vs,rfl,h1,r1⟩:=rx.lst
    exact .inl ⟨p,vs,rfl,.inl h1,g.own R3 (r1.cut _ _) q3⟩
   ·obtain⟨p,rfl,h1⟩:=rx.hW R3.fr
    exact .inl ⟨p,_,rfl,by rw[ok.kf];exact h1,g.own R3 ((jy _).cut _ _) q3⟩
   ·obtain⟨p,vs,rfl,h1,r1⟩:=rx.tup R3.fr
    exact .inr ⟨p,vs,rfl,.of h1,by rw[r1.length];exact q3.1,g.tup R3 (r1.cut _ _) q3.2⟩
   ·exact q3.elim
  ·exact q3.elim
def tN:eU:=λσ Q=>Q [] σ
def aI(t:TD)(u:eU):eU:=λσ Q=>t σ λx aw=>u aw λxs aO=>Q (x::xs) aO
theorem ax:qW G k S [] tN:=.mk λX Y ok=>jc hG λσ H Q q=>by
 obtain⟨F,aj,Qd,R,q,K⟩:=q;exact K [] H F [] aj (au.refl _) R .nil q
theorem ah{e:Expr}{es:List Expr}{t:TD}{u:eU}(h:ED G k S e t)(hs:qW G k S es u)(he:∀env,starEach (e::es) env=(false,eval e env)::starEach es env:=by exactλ_=>Vc.cj rfl):qW G k S (e::es) (aI t u):=.mk λX Y ok =>
 jc (cL (h X Y ok) (hs X Y ok) (he _)) λσ H Q q=>by
  obtain⟨F,aj,Qd,R,q,K⟩:=q;refine⟨F,aj,_,R,q,λv1 H1 F1 x aw s1 R1 r1 q1=>?_⟩;exact⟨F1,aw,_,R1,q1,λvs H2 F2 xs aO s2 R2 r2 q2=>K _ H2 F2 (x::xs) aO (s1.trans s2) R2 (.cons (r1.mono s2) r2) q2⟩
def kn(t:eU):TX:=λσ Q=>t σ λxs aw=>xs.length<=sizeLine/\Q (.own xs) aw
def jT(t:eU):TV:=λσ Q=>t σ λxs aw=>xs.length<=sizeLine/\Q (.val (.tup xs)) aw
theorem cq{es:List Expr}{t:eU}{pos:Pos}(h:qW G k S es t):EX G k S (.List es pos) (kn t):=.mk λX Y ok=>aV (tX (h X Y ok)) λσ H Q q=>by
 obtain⟨F,aj,Qd,R,q,K⟩:=q;refine⟨F,aj,_,R,q,λvs H1 F1 xs aw s1 R1 r1 q1=>⟨by rw[r1.length];exact q1.1,?_⟩⟩
 have g:Goes Y F1 aw σ (λr=>Qd r aw) Q:=λv H' F' r s R' rr qq=>K v H' F' r aw (s1.trans s) R' rr qq;exact g.own R1 r1 q1.2
theorem b8{es:List Expr}{t:eU}{x1}{pos:Pos}(h:qW G k S es t):EO G k S (.Tuple es x1 pos) (jT t):=.mk λX Y ok=>aV (SM (h X Y ok)) λσ H Q q=>by
 obtain⟨F,aj,Qd,R,q,K⟩:=q;refine⟨F,aj,_,R,q,λvs H1 F1 xs aw s1 R1 r1 q1=>⟨by rw[r1.length];exact q1.1,λp hp=>?_⟩⟩
 have sm:=aK (o:=.tup vs) (same_none R1.fr hp);exact K _ _ _ (.val (.tup xs)) aw (s1.trans sm) (R1.alloc hp) (.tup aA (r1.mono sm)) q1.2
abbrev zK:=Sd->(List OV->Sd->Prop)->Prop
inductive vB (F:Hp)(σ:St):List V->List OV->Prop where
 | nil:vB F σ [] []
 | cons {v:V} {x:OV} {vs:List V} {xs:List OV}:yc F σ v x->vB F σ vs xs->vB F σ (v::vs) (x::xs)
def lOs(Y:bB)(t:zK):TA:=λσ H Q=>∃F aj Qd,RS Y F aj σ H/\t aj Qd/\∀vs H' F' xs aG,au F F'->RS Y F' aG σ H'->vB F' σ vs xs->Qd xs aG->Q vs H'
structure Im(G:GE)(k:Nat)(S:Stat)(es:List Expr)(t:zK) :Prop where
 run:∀X Y,d8 X G k S Y->PA X es (lOs Y t)
instance {G:GE} {k:Nat} {S:Stat} {es:List Expr} {t:zK} :CoeFun (Im G k S es t) λ_=>∀X Y,d8 X G k S Y->PA X es (lOs Y t):=⟨Im.run⟩
def iA:zK:=λσ Q=>Q [] σ
def cf(t:TV)(u:zK):zK:=λσ Q=>t σ λx aw=>u aw λxs aO=>Q (x::xs) aO
theorem b5:Im G k S [] iA:=.mk λX Y ok=>jc hG λσ H Q q=>by
 obtain⟨F,aj,Qd,R,q,K⟩:=q;exact K [] H F [] aj (au.refl _) R .nil q
theorem bC{e:Expr}{es:List Expr}{t:TV}{u:zK}(h:EO G k S e t)(hs:Im G k S es u)(he:∀env,starEach (e::es) env=(false,eval e env)::starEach es env:=by exactλ_=>Vc.cj rfl):Im G k S (e::es) (cf t u):=.mk λX Y ok =>
 jc (cL (h X Y ok) (hs X Y ok) (he _)) λσ H Q q=>by
  obtain⟨F,aj,Qd,R,q,K⟩:=q;refine⟨F,aj,_,R,q,λv1 H1 F1 x aw s1 R1 r1 q1=>?_⟩;exact⟨F1,aw,_,R1,q1,λvs H2 F2 xs aO s2 R2 r2 q2=>K _ H2 F2 (x::xs) aO (s1.trans s2) R2 (.cons (r1.mono s2) r2) q2⟩
def mI(σ:Sd):List OV->Option (List D)
 | []=>some []
 | x::xs=>match dc σ x,mI σ xs with
  | some d,some ds=>some (d::ds)
  | _,_=>none
inductive kq (F H:Hp):List V->List D->Prop where
 | nil:kq F H [] []
 | cons {v:V} {x:D} {vs:List V} {xs:List D}:b7 F H v x->kq F H vs xs->kq F H (v::vs) (x::xs)
theorem RS.mI{Y:bB}{F:Hp}{aj:Sd}{σ:St}{H:Hp}(R:RS Y F aj σ H):∀ {vs:List V} {xs:List OV} {ds:List D},vB F σ vs xs->Vc.mI aj xs=some ds->kq F H vs ds
 | _,_,_,.nil,e=>by cases e;exact .nil
 | _,_,_,.cons (x:=x) (xs:=xs) r t,e=>by
  have e:(match Vc.dc aj x,Vc.mI aj xs with|some d,some ds=>some (d::ds)|_,_=>none)=some _:=e
  split at e
  ·rename_i d ds e1 e2
   cases e;exact .cons (R.dc r e1) (RS.mI R t e2)
  ·cases e
theorem kq.one{F H:Hp}{vs:List V}{d:D}(r:kq F H vs [d]):∃v,vs=[v]/\b7 F H v d:=by
 cases r with
 | cons r t=>cases t;exact⟨_,rfl,r⟩
theorem kq.two{F H:Hp}{vs:List V}{d e:D}(r:kq F H vs [d,e]):∃v u,vs=[v,u]/\b7 F H v d/\b7 F H u e:=by
 cases r with
 | cons r t =>
  obtain⟨u,rfl,q⟩:=t.one;exact⟨_,u,rfl,r,q⟩
def qV(r:List V->Hp->VK->Prop)(f:List D->(EV->Prop)->Prop):Prop:=
 ∀Y F H aj σ vs ds (Qd:EV->Prop) (Q:VK),RS Y F aj σ H->kq F H vs ds->f ds Qd->Goes Y F aj σ Qd Q->r vs H Q
def jR(f:List D->(EV->Prop)->Prop)(t:zK):TX:=λσ Q=>t σ λxs aw=>match mI aw xs with
 | some ds=>f ds λr=>Q r aw
 | none=>False
theorem so{Y:bB}{r:List V->Hp->VK->Prop}{f:List D->(EV->Prop)->Prop}(hs:qV r f){t:zK}{σ:St}{H:Hp}{Q:VK}(q:lX Y (jR f t) σ H Q):tCB r (lOs Y t) σ H Q:=by
 obtain⟨F,aj,Qd,R,q,K⟩:=q;refine⟨F,aj,_,R,q,λvs H1 F1 xs aw s1 R1 r1 q1=>?_⟩
 split at q1
 ·rename_i ds e
  exact hs Y F1 H1 aw σ vs ds _ Q R1 (R1.mI r1 e) q1 λv H' F' r s R' rr qq=>K v H' F' r aw (s1.trans s) R' rr qq
 ·exact q1.elim
def CK(G:GE)(k:Nat)(S:Stat)(f:Value)(g:List D->(EV->Prop)->Prop):Prop:=∃r:PySem.W.Frag->List V->Hp->VK->Prop,(∀X Y,d8 X G k S Y->eG X f (r X.K))/\qV (r KF.K) g
section
variable {x:Str}{p pos:Pos}{e:Expr}{es:List Expr}{t:zK}{id T:String}{g:List D->(EV->Prop)->Prop}
theorem gG(h:CK G k S (.builtin id) g)(hm:G.mg x=none)(ha:Im G k S (e::es) t)(hv:bootBuiltins x=some (.builtin id))(hg:S.sc.lookup x=some .globalImplicit:=by rfl)(hn:x≠"__name__":=by decide)(iZ:(x==("__debug__":Str))=false:=by decide)
  (he:∀env,starEach (e::es) env=(false,eval e env)::starEach es env:=by exactλ_=>Vc.cj rfl) (eY:∀env,(backTo pos (starEach es env)).any (·.1)=false:=by intro _;rfl):EX G k S (.Call (.Name x p) (e::es) [] pos) (jR g t):=.mk λX Y ok=>by
 obtain⟨r,hc,hs⟩:=h;exact aV (pT (hc X Y ok) (di ok hg) (by rw[ok.mg];exact hm) hv (ha X Y ok) hn iZ (he _) (eY _)) λσ H Q q=>so (by rw[ok.kf];exact hs) q
theorem Z4(h:CK G k S (.type T) g)(hm:G.mg x=none)(ha:Im G k S (e::es) t)(hv:bootBuiltins x=some (.type T))(hg:S.sc.lookup x=some .globalImplicit:=by rfl)(hn:x≠"__name__":=by decide)(iZ:(x==("__debug__":Str))=false:=by decide)
  (he:∀env,starEach (e::es) env=(false,eval e env)::starEach es env:=by exactλ_=>Vc.cj rfl) (eY:∀env,(backTo pos (starEach es env)).any (·.1)=false:=by intro _;rfl):EX G k S (.Call (.Name x p) (e::es) [] pos) (jR g t):=.mk λX Y ok=>by
 obtain⟨r,hc,hs⟩:=h;exact aV (B7 (hc X Y ok) (di ok hg) (by rw[ok.mg];exact hm) hv (ha X Y ok) hn iZ (he _) (eY _)) λσ H Q q=>so (by rw[ok.kf];exact hs) q
end
def ka:List D->(EV->Prop)->Prop
 | [.lst xs],Q=>Q (.val (.int xs.length))
 | [.tup xs],Q=>Q (.val (.int xs.length))
 | [.hW ns],Q=>Q (.val (.int ns.length))
 | [.str z],Q=>z.length<=sizeLine/\Q (.val (.int z.length))
 | _,_=>False
theorem f_len:CK G k S (.builtin "len") ka:=⟨λK xs H Q=>(∃p ys,xs=[V.ref p]/\(jr K H p ys\/nB K H p ys)/\Q (V.int ys.length) H)\/∃z,xs=[V.str z]/\z.length<=sizeLine/\Q (V.int z.length) H,λ_ _ _=>sS.or sT,λY F H aj σ vs ds Qd Q R r q g=>by
 unfold ka at q
 split at q
 ·obtain⟨v,rfl,rv⟩:=r.one
  obtain⟨p,us,rfl,h1,h2⟩:=rv.lst;exact .inl ⟨p,us,rfl,.inl (.inl h1),by rw[h2.length];exact g.val R (.int _) q⟩
 ·obtain⟨v,rfl,rv⟩:=r.one
  obtain⟨p,us,rfl,h1,h2⟩:=rv.tup R.fr;exact .inl ⟨p,us,rfl,.inr (.of h1),by rw[h2.length];exact g.val R (.int _) q⟩
 ·obtain⟨v,rfl,rv⟩:=r.one
  obtain⟨p,rfl,h1⟩:=rv.hW R.fr;exact .inl ⟨p,_,rfl,.inl h1,by rw[List.length_map];exact g.val R (.int _) q⟩
 ·obtain⟨v,rfl,rv⟩:=r.one
  obtain rfl:=rv.str;exact .inr ⟨_,rfl,q.1,g.val R (.int _) q.2⟩
 ·exact q.elim⟩
def Iy:List D->(EV->Prop)->Prop
 | [.int i],Q=>Q (.val (.int (if i<0 then -i else i)))
 | _,_=>False
theorem Xv:CK G k S (.builtin "abs") Iy:=⟨λ_=>_,λ_ _ _=>Dw,λY F H aj σ vs ds Qd Q R r q g=>by
 unfold Iy at q
 split at q
 ·obtain⟨v,rfl,rv⟩:=r.one
  obtain rfl:=rv.int;exact⟨_,rfl,g.val R (.int _) q⟩
 ·exact q.elim⟩
def Az:List D->(EV->Prop)->Prop
 | [.int i,.int j],Q=>Q (.val (.int (if j>i then j else i)))
 | _,_=>False
def AB:List D->(EV->Prop)->Prop
 | [.int i,.int j],Q=>Q (.val (.int (if j<i then j else i)))
 | _,_=>False
theorem OQ(hh:S.jG=false:=by rfl):CK G k S (.builtin "max") Az:=⟨λ_=>_,λ_ _ ok=>Bp (ok.calm hh),λY F H aj σ vs ds Qd Q R r q g=>by
 unfold Az at q
 split at q
 ·obtain⟨v,u,rfl,rv,ru⟩:=r.two
  obtain rfl:=rv.int;obtain rfl:=ru.int;exact⟨_,_,rfl,g.val R (.int _) q⟩
 ·exact q.elim⟩
theorem OT(hh:S.jG=false:=by rfl):CK G k S (.builtin "min") AB:=⟨λ_=>_,λ_ _ ok=>Bq (ok.calm hh),λY F H aj σ vs ds Qd Q R r q g=>by
 unfold AB at q
 split at q
 ·obtain⟨v,u,rfl,rv,ru⟩:=r.two
  obtain rfl:=rv.int;obtain rfl:=ru.int;exact⟨_,_,rfl,g.val R (.int _) q⟩
 ·exact q.elim⟩
def rW:List D->(EV->Prop)->Prop
 | [.lst xs],Q=>Q (.own xs)
 | [.tup xs],Q=>Q (.own xs)
 | _,_=>False
theorem f_list:CK G k S (.type "list") rW:=⟨λK xs H Q=>∃p ys,xs=[V.ref p]/\(jr K H p ys\/nB K H p ys)/\∀l,H l=none->Q (.ref l) (upd H l (.lst ys)),λ_ _ ok=>sU,λY F H aj σ vs ds Qd Q R r q g=>by
 unfold rW at q
 split at q
 ·obtain⟨v,rfl,rv⟩:=r.one
  obtain⟨p,us,rfl,h1,h2⟩:=rv.lst;exact⟨p,us,rfl,.inl (.inl h1),g.own R h2 q⟩
 ·obtain⟨v,rfl,rv⟩:=r.one
  obtain⟨p,us,rfl,h1,h2⟩:=rv.tup R.fr;exact⟨p,us,rfl,.inr (.of h1),g.own R h2 q⟩
 ·exact q.elim⟩
def qu:List D->(EV->Prop)->Prop
 | [.lst xs],Q=>Q (.val (.tup xs))
 | [.tup xs],Q=>Q (.val (.tup xs))
 | _,_=>False
theorem Jg:CK G k S (.type "tuple") qu:=⟨λK xs H Q=>∃p ys,xs=[V.ref p]/\((jr K H p ys/\∀l,H l=none->Q (.ref l) (upd H l (.tup ys)))\/(nB K H p ys/\Q (.ref p) H)),λ_ _ ok=>qB,λY F H aj σ vs ds Qd Q R r q g=>by
 unfold qu at q
 split at q
 ·obtain⟨v,rfl,rv⟩:=r.one
  obtain⟨p,us,rfl,h1,h2⟩:=rv.lst;exact⟨p,us,rfl,.inl ⟨.inl h1,g.tup R h2 q⟩⟩
 ·obtain⟨v,rfl,rv⟩:=r.one
  have rv':=rv;obtain⟨p,us,rfl,h1,h2⟩:=rv.tup R.fr;exact⟨p,us,rfl,.inr ⟨.of h1,g.val R rv' q⟩⟩
 ·exact q.elim⟩
end Vc
namespace Vc
open PySem L2
variable [KF]
variable {G:GE}{k:Nat}{S:Stat}
structure jM where
 nx:Sd->Prop
 rt:B->Sd->Prop
 bk:Sd->Prop:=λ_=>False
 ct:Sd->Prop:=λ_=>False
abbrev bK:=jM->Sd->Prop
def aaO(Y:bB)(F H:Hp)(aj:Sd)(σ:St)(v:V):B->Prop
 | .sh d=>Rep F v d
 | .own xs=>∃a vs,v=.ref a/\H a=some (.lst vs)/\aE F vs xs/\F a=none/\Y.H0 a=none/\dC aj σ a
 | .obj o=>∃a,v=.ref a/\o.rep F H a/\∀b∈o.fp a,F b=none/\H b≠none/\Y.H0 b=none/\dC aj σ b
structure vo(Y:bB)(F:Hp)(De:jM)(Dn:Ends):Prop where
 nx:∀σ H F' aj,au F F'->RS Y F' aj σ H->De.nx aj->Dn.nx σ H
 rt:∀v σ H F' aj b,au F F'->RS Y F' aj σ H->aaO Y F' H aj σ v b->De.rt b aj->Dn.rt v H
 bk:∀σ H F' aj,au F F'->RS Y F' aj σ H->De.bk aj->Dn.bk σ H
 ct:∀σ H F' aj,au F F'->RS Y F' aj σ H->De.ct aj->Dn.ct σ H
theorem vo.mono{Y:bB}{F F':Hp}{De:jM}{Dn:Ends}(h:vo Y F De Dn)(s:au F F'):vo Y F' De Dn:=
 ⟨λσ H F2 aj s2=>h.nx σ H F2 aj (s.trans s2),λv σ H F2 aj b s2=>h.rt v σ H F2 aj b (s.trans s2),λσ H F2 aj s2=>h.bk σ H F2 aj (s.trans s2),λσ H F2 aj s2=>h.ct σ H F2 aj (s.trans s2)⟩
def lS(Y:bB)(t:bK):TS:=λDn σ H=>∃F aj De,RS Y F aj σ H/\t De aj/\vo Y F De Dn
structure ES(G:GE)(k:Nat)(S:Stat)(st:Stmt)(t:bK) :Prop where
 run:∀X Y,d8 X G k S Y->PS X st (lS Y t)
instance {G:GE} {k:Nat} {S:Stat} {st:Stmt} {t:bK} :CoeFun (ES G k S st t) λ_=>∀X Y,d8 X G k S Y->PS X st (lS Y t):=⟨ES.run⟩
structure cB(G:GE)(k:Nat)(S:Stat)(st:List Stmt)(t:bK) :Prop where
 run:∀X Y,d8 X G k S Y->sG X st (lS Y t)
instance {G:GE} {k:Nat} {S:Stat} {st:List Stmt} {t:bK} :CoeFun (cB G k S st t) λ_=>∀X Y,d8 X G k S Y->sG X st (lS Y t):=⟨cB.run⟩
section
variable {st:Stmt}{rest:List Stmt}{t u:bK}{pos:Pos}
def ou:bK:=λDe σ=>De.nx σ
def bQ(t u:bK):bK:=λDe σ=>t {De with nx:=u De} σ
theorem cR:cB G k S [] ou:=.mk λX Y ok=>ub AY λDn σ H q=>by
 obtain⟨F,aj,De,R,q,K⟩:=q;exact K.nx σ H F aj (au.refl _) R q
theorem ay(h1:ES G k S st t)(h2:cB G k S rest u):cB G k S (st::rest) (bQ t u):=.mk λX Y ok=>ub (xi (h1 X Y ok) (h2 X Y ok)) λDn σ H q=>by
 obtain⟨F,aj,De,R,q,K⟩:=q;refine⟨F,aj,_,R,q,⟨λbS H' F' aG s R' q'=>?_,K.rt,K.bk,K.ct⟩⟩;exact⟨F',aG,De,R',q',K.mono s⟩
theorem aB(h1:ES G k S st t):cB G k S [st] t:=.mk λX Y ok=>uc (h1 X Y ok)
def eZ:bK:=λ_ _=>False
theorem jA:ES G k S st eZ:=.mk λX Y ok=>cG Gw λDn σ H q=>by
 obtain⟨F,aj,De,R,q,K⟩:=q;exact q
def b4(c:TB)(t u:bK):bK:=λDe σ=>c σ λb aw=>if b=true then t De aw else u De aw
theorem cH{c:Expr}{a b:List Stmt}{tc:TB}(hc:EB G k S c tc)(ha:cB G k S a t)(hb:cB G k S b u):ES G k S (.If c a b pos) (b4 tc t u):=.mk λX Y ok=>cG (Mi (hc X Y ok) (ha X Y ok) (hb X Y ok)) λDn σ H q=>by
 obtain⟨F,aj,De,R,q,K⟩:=q;refine⟨F,aj,_,R,q,λb H1 F1 aw s1 R1 q1=>?_⟩;cases b with
 | true=>exact⟨F1,aw,De,R1,q1,K.mono s1⟩
 | false=>exact⟨F1,aw,De,R1,q1,K.mono s1⟩
def gO(t:TX):bK:=λDe σ=>t σ λ_ aw=>De.nx aw
theorem aY{e:Expr}{te:TX}(he:EX G k S e te)(hs:∀line env,swapsWith e none line env=pure false:=by intro _ _;rfl):ES G k S (.Expr e pos) (gO te):=.mk λX Y ok=>cG (tZ (he X Y ok) (hs _ _)) λDn σ H q=>by
 obtain⟨F,aj,De,R,q,K⟩:=q;exact⟨F,aj,_,R,q,λv H1 F1 x aw s1 R1 r1 q1=>K.nx σ H1 F1 aw s1 R1 q1⟩
def ie(ios:List Nat)(t:TX):bK:=λDe σ=>t σ λx aw=>match x with
 | .val d=>De.rt (.sh d) aw
 | .own xs=>De.rt (.own xs) aw
 | .obj o=>De.rt (.obj o) aw
 | .any=>False
 | .var i=>match aw[i]? with
  | some (some (.own xs))=>i∉ios/\De.rt (.own xs) (aw.set i none)
  | some (some (.sh d))=>De.rt (.sh d) aw
  | some (some (.obj o))=>ios=[]/\De.rt (.obj o) (aw.set i none)
  | _=>False
theorem RS.forget{Y:bB}{F:Hp}{aj:Sd}{σ:St}{H:Hp}{i:Nat}{b:B}(R:RS Y F aj σ H)(e:aj[i]?=some (some b))(cP:∀p∈Y.io,p.1≠i):RS Y F (aj.set i none) σ H where
 len:=by simpa using R.len
 lo:=R.lo
 fr:=R.fr
 eJ:=R.eJ
 old:=R.old
 sh:=λj d q=>by
  by_cases hj:j=i
  ·subst hj;rw[aZ e]at q;cases q
  ·rw[bD hj]at q;exact R.sh j d q
 own:=λj xs q=>by
  by_cases hj:j=i
  ·subst hj;rw[aZ e]at q;cases q
  ·rw[bD hj]at q;exact R.own j xs q
 dis:=λj l xs ys a q1 q2 q3 q4=>by
  have hj:j≠i:=λz=>by subst z;rw[aZ e]at q1;cases q1
  have hl:l≠i:=λz=>by subst z;rw[aZ e]at q2;cases q2
  rw[bD hj]at q1;rw[bD hl]at q2;exact R.dis j l xs ys a q1 q2 q3 q4
 io:=λp hp=>by
  obtain⟨w1,ys,w2⟩:=R.io p hp;exact⟨w1,ys,by rw[bD (cP p hp)];exact w2⟩
 ob:=R.ob.put (λ_ _=>rfl) (λ_ z=>nomatch z) λ_ _ z=>nomatch z
theorem RS.QU{Y:bB}{F:Hp}{aj:Sd}{σ:St}{H:Hp}{i:Nat}{xs:List D}(R:RS Y F aj σ H)(h:aj[i]?=some (some (.own xs)))(cP:∀p∈Y.io,p.1≠i){a:Addr}(q1:σ[i]?=some (some (.ref a))):Y.H0 a=none/\a∉Y.VM:=by
 obtain⟨b,vs,w1,w2,w3,w4,w5⟩:=R.own i xs h;rw[q1]at w1;cases w1;have nin:a∉Y.VM:=λq5=>by
  obtain⟨p,hp,e⟩:=List.mem_map.mp q5;obtain⟨z1,ys,z2⟩:=R.io p hp;exact absurd (R.dis p.1 i ys xs a z2 h (by rw[z1,e]) q1) (cP p hp)
 rcases w5 with w5|w5
 ·exact⟨w5,nin⟩
 ·exact absurd w5 nin
theorem bN{e:Expr}{te:TX}(he:EX G k S e te)(aa9:S.qA=false:=by rfl):ES G k S (.Return (some e) pos) (ie S.ios te):=.mk λX Y ok=>cG (yI (he X Y ok)) λDn σ H q=>by
 obtain⟨F,aj,De,R,q,K⟩:=q;refine⟨F,aj,_,R,q,λv H1 F1 x aw s1 R1 r1 q1=>?_⟩;cases x with
 | val d=>exact K.rt v σ H1 F1 aw (.sh d) s1 R1 r1 q1
 | own xs=>exact K.rt v σ H1 F1 aw (.own xs) s1 R1 r1 q1
 | obj o=>exact K.rt v σ H1 F1 aw (.obj o) s1 R1 r1 q1
 | any=>exact False.elim q1
 | var i =>
  have r1:σ[i]?=some (some v):=r1;dsimp only at q1
  split at q1
  ·rename_i xs e
   obtain⟨a,vs,w1,w2,w3,w4,w5⟩:=R1.own i xs e;rw[r1]at w1;cases w1;have cP:∀p∈Y.io,p.1≠i:=λp hp z=>q1.1 (z ▸ ok.ios p hp);refine K.rt _ σ H1 F1 _ (.own xs) s1 (R1.forget e cP) ⟨a,vs,rfl,w2,w3,w4,(R1.QU e cP r1).1,⟨λj ys e2 z=>?_,λ⟨j,o,c,e2,e3,hm⟩=>?_⟩⟩ q1.2
   ·by_cases hj:j=i
    ·subst hj;rw[aZ e]at e2;cases e2
    ·rw[bD hj]at e2
     exact hj (R1.dis j i ys xs a e2 e z r1)
   ·have hj:j≠i:=λz=>by subst z;rw[aZ e]at e2;cases e2
    rw[bD hj]at e2;exact R1.ob.gj i xs a e r1 ⟨j,o,c,e2,e3,hm⟩
  ·rename_i d e
   obtain⟨v2,e2,r2⟩:=R1.sh i d e;rw[r1]at e2;cases e2;exact K.rt v σ H1 F1 aw (.sh d) s1 R1 r2 q1
  ·rename_i o e
   obtain⟨a,w1,w2,w3⟩:=R1.ob.obj i o e;rw[r1]at w1;cases w1;have BK:=ok.obs aa9 q1.1;have cP:∀p∈Y.io,p.1≠i:=λp hp z=>by
    have:=ok.ios p hp;rw[q1.1]at this;cases this
   refine K.rt _ σ H1 F1 _ (.obj o) s1 (R1.forget e cP) ⟨a,rfl,w2,λb hb=>⟨(w3 b hb).1,(w3 b hb).2.1,?_,⟨λj ys e2 z=>?_,λ⟨j,o2,c,e2,e3,hm⟩=>?_⟩⟩⟩ q1.2
   ·rcases(w3 b hb).2.2 with z|z
    ·exact z
    ·rw[BK]at z;cases z
   ·have hj:j≠i:=λz=>by subst z;rw[aZ e]at e2;cases e2
    rw[bD hj]at e2;exact R1.ob.gj j ys b e2 z ⟨i,o,a,e,r1,hb⟩
   ·have hj:j≠i:=λz=>by subst z;rw[aZ e]at e2;cases e2
    rw[bD hj]at e2;exact R1.ob.oE j i o2 o c a e2 e e3 r1 hj b hm hb
  ·exact q1.elim
end
theorem gs{α:Type}{l:List α}{i j:Nat}{x y:α}(h:(l.set i x)[j]?=some y):(j=i/\y=x)\/(j≠i/\l[j]?=some y):=by
 by_cases hj:j=i
 ·subst hj
  by_cases hl:j<l.length
  ·rw[List.getElem?_set_self hl]at h;exact .inl ⟨rfl,(Option.some.inj h).symm⟩
  ·have:(l.set j x)[j]?=none:=by rw[List.getElem?_eq_none_iff];simp;omega
   rw[this]at h;cases h
 ·rw[List.getElem?_set_ne (Ne.symm hj)]at h;exact .inr ⟨hj,h⟩
theorem bx{α:Type}{l:List α}{i j:Nat}{x:α}(h:j≠i):(l.set i x)[j]?=l[j]?:=List.getElem?_set_ne (Ne.symm h)
theorem nG{α:Type}{l:List α}{i:Nat}{x:α}(h:i<l.length):(l.set i x)[i]?=some x:=List.getElem?_set_self h
theorem E1{α:Type}{l:List α}{i j:Nat}{x y:α}(h:(l.set i x)[j]?=some y):j<l.length:=by
 have:=(List.getElem?_eq_some_iff.mp h).1;simpa using this
theorem RS.xx{Y:bB}{F:Hp}{aj:Sd}{σ:St}{H:Hp}{i:Nat}{d:D}{v:V}(R:RS Y F aj σ H)(r:Rep F v d)(cP:∀p∈Y.io,p.1≠i):RS Y F (aj.set i (some (.sh d))) (σ.set i (some v)) H where
 len:=by simpa using R.len
 lo:=R.lo
 fr:=R.fr
 eJ:=R.eJ
 old:=R.old
 sh:=λj e q=>by
  rcases gs q with⟨rfl,z⟩|⟨hj,q'⟩
  ·cases z
   exact⟨v,nG (by rw[<- R.len];exact E1 q),r⟩
  ·obtain⟨u,w1,w2⟩:=R.sh j e q'
   exact⟨u,by rw[bx hj];exact w1,w2⟩
 own:=λj xs q=>by
  rcases gs q with⟨_,z⟩|⟨hj,q'⟩
  ·cases z
  ·obtain⟨a,vs,w1,w2⟩:=R.own j xs q'
   exact⟨a,vs,by rw[bx hj];exact w1,w2⟩
 dis:=λj l xs ys a q1 q2 q3 q4=>by
  rcases gs q1 with⟨_,z⟩|⟨hj,q1⟩
  ·cases z
  rcases gs q2 with⟨_,z⟩|⟨hl,q2⟩
  ·cases z
  rw[bx hj]at q3;rw[bx hl]at q4;exact R.dis j l xs ys a q1 q2 q3 q4
 io:=λp hp=>by
  obtain⟨w1,ys,w2⟩:=R.io p hp;exact⟨by rw[bx (cP p hp)];exact w1,ys,by rw[bx (cP p hp)];exact w2⟩
 ob:=R.ob.put (λ_ hj=>bx hj) (λ_ z=>nomatch z) λ_ _ z=>nomatch z
theorem RS.GY{Y:bB}{F:Hp}{aj:Sd}{σ:St}{H:Hp}{i:Nat}{xs:List D}{a:Addr}{vs:List V}(R:RS Y F aj σ H)(h1:H a=some (.lst vs))(h2:aE F vs xs)(h3:F a=none)(h4:Y.H0 a=none)(h5:dC aj σ a)
  (cP:∀p∈Y.io,p.1≠i):RS Y F (aj.set i (some (.own xs))) (σ.set i (some (.ref a))) H where
 len:=by simpa using R.len
 lo:=R.lo
 fr:=R.fr
 eJ:=R.eJ
 old:=R.old
 sh:=λj e q=>by
  rcases gs q with⟨_,z⟩|⟨hj,q'⟩
  ·cases z
  ·obtain⟨u,w1,w2⟩:=R.sh j e q'
   exact⟨u,by rw[bx hj];exact w1,w2⟩
 own:=λj ys q=>by
  rcases gs q with⟨rfl,z⟩|⟨hj,q'⟩
  ·cases z
   exact⟨a,vs,nG (by rw[<- R.len];exact E1 q),h1,h2,h3,.inl h4⟩
  ·obtain⟨b,us,w1,w2⟩:=R.own j ys q'
   exact⟨b,us,by rw[bx hj];exact w1,w2⟩
 dis:=λj l ys zs b q1 q2 q3 q4=>by
  rcases gs q1 with⟨rfl,z⟩|⟨hj,q1⟩
  ·rcases gs q2 with⟨e,z⟩|⟨hl,q2⟩
   ·exact e.symm
   ·rw[bx hl]at q4
    rcases gs q3 with⟨_,z3⟩|⟨hc,_⟩
    ·cases z3
     exact absurd q4 (h5 l zs q2)
    ·exact absurd rfl hc
  ·rw[bx hj]at q3
   rcases gs q2 with⟨e2,z⟩|⟨hl,q2⟩
   ·rcases gs q4 with⟨_,z4⟩|⟨hc,_⟩
    ·cases z4
     exact absurd q3 (h5 j ys (by assumption))
    ·exact absurd e2 hc
   ·rw[bx hl]at q4
    exact R.dis j l ys zs b (by assumption) q2 q3 q4
 io:=λp hp=>by
  obtain⟨w1,ys,w2⟩:=R.io p hp;exact⟨by rw[bx (cP p hp)];exact w1,ys,by rw[bx (cP p hp)];exact w2⟩
 ob:=R.ob.put (λ_ hj=>bx hj) (λ_ z=>nomatch z) λys b _ z=>by
  rcases gs z with⟨_,z2⟩|⟨hc,_⟩
  ·cases z2;exact h5.QW
  ·exact absurd rfl hc
theorem RS.Uk{Y:bB}{F:Hp}{aj:Sd}{σ:St}{H:Hp}{i:Nat}{o:O}{a:Addr}(R:RS Y F aj σ H)(h1:o.rep F H a)(h2:∀b∈o.fp a,F b=none/\H b≠none/\Y.H0 b=none/\dC aj σ b)
  (cP:∀p∈Y.io,p.1≠i):RS Y F (aj.set i (some (.obj o))) (σ.set i (some (.ref a))) H where
 len:=by simpa using R.len
 lo:=R.lo
 fr:=R.fr
 eJ:=R.eJ
 old:=R.old
 sh:=λj e q=>by
  rcases gs q with⟨_,z⟩|⟨hj,q'⟩
  ·cases z
  ·obtain⟨u,w1,w2⟩:=R.sh j e q'
   exact⟨u,by rw[bx hj];exact w1,w2⟩
 own:=λj ys q=>by
  rcases gs q with⟨_,z⟩|⟨hj,q'⟩
  ·cases z
  ·obtain⟨b,us,w1,w2⟩:=R.own j ys q'
   exact⟨b,us,by rw[bx hj];exact w1,w2⟩
 dis:=λj l ys zs b q1 q2 q3 q4=>by
  rcases gs q1 with⟨_,z⟩|⟨hj,q1⟩
  ·cases z
  rcases gs q2 with⟨_,z⟩|⟨hl,q2⟩
  ·cases z
  rw[bx hj]at q3;rw[bx hl]at q4;exact R.dis j l ys zs b q1 q2 q3 q4
 io:=λp hp=>by
  obtain⟨w1,ys,w2⟩:=R.io p hp;exact⟨by rw[bx (cP p hp)];exact w1,ys,by rw[bx (cP p hp)];exact w2⟩
 ob:=by
  have at':∀ {j:Nat} {c:Addr},j=i->(σ.set i (some (.ref a)))[j]?=some (some (.ref c))->c=a:=λ{j c} e z=>by
   subst e;rcases gs z with⟨_,z2⟩|⟨hc,_⟩
   ·cases z2;rfl
   ·exact absurd rfl hc
  refine⟨λj p q=>?_,λj l p p2 c d q1 q2 q3 q4 cT x hx xU=>?_,λj ys b q1 q2 ⟨l,p,c,q3,q4,hm⟩=>?_,R.ob.there,R.ob.HE,R.ob.tab⟩
  ·rcases gs q with⟨rfl,z⟩|⟨hj,q'⟩
   ·cases z
    exact⟨a,nG (by rw[<- R.len];exact E1 q),h1,λb hb=>⟨(h2 b hb).1,(h2 b hb).2.1,.inl (h2 b hb).2.2.1⟩⟩
   ·obtain⟨c,w1,w2⟩:=R.ob.obj j p q'
    exact⟨c,by rw[bx hj];exact w1,w2⟩
  ·rcases gs q1 with⟨e1,z⟩|⟨hj,ZX⟩
   ·cases z
    rcases gs q2 with⟨e2,z⟩|⟨hl,q2'⟩
    ·exact cT (e1.trans e2.symm)
    ·rw[bx hl]at q4
     have:=at' e1 q3;subst this;exact(h2 x hx).2.2.2.QW ⟨l,p2,d,q2',q4,xU⟩
   ·rw[bx hj]at q3
    rcases gs q2 with⟨e2,z⟩|⟨hl,q2'⟩
    ·cases z
     have:=at' e2 q4;subst this;exact(h2 x xU).2.2.2.QW ⟨j,p,c,ZX,q3,hx⟩
    ·rw[bx hl]at q4
     exact R.ob.oE j l p p2 c d ZX q2' q3 q4 cT x hx xU
  ·rcases gs q1 with⟨_,z⟩|⟨hj,ZX⟩
   ·cases z
   rw[bx hj]at q2;rcases gs q3 with⟨e3,z⟩|⟨hl,q3'⟩
   ·cases z
    have:=at' e3 q4;subst this;exact(h2 b hm).2.2.2 j ys ZX q2
   ·rw[bx hl]at q4
    exact R.ob.gj j ys b ZX q2 ⟨l,p,c,q3',q4,hm⟩
def stD(ios:List Nat)(i:Nat)(x:EV)(σ:Sd)(Q:Sd->Prop):Prop:=match x with
 | .val d=>Q (σ.set i (some (.sh d)))
 | .own xs=>Q (σ.set i (some (.own xs)))
 | .obj o=>Q (σ.set i (some (.obj o)))
 | .any=>False
 | .var j=>match σ[j]? with
  | some (some (.own xs))=>j∉ios/\Q ((σ.set j (some (.sh (.lst xs)))).set i (some (.sh (.lst xs))))
  | some (some (.sh d))=>Q (σ.set i (some (.sh d)))
  | _=>False
theorem nj{Y:bB}{F:Hp}{aj:Sd}{σ:St}{H:Hp}{i:Nat}{v:V}{x:EV}{ios:List Nat}{Q:Sd->Prop}(R:RS Y F aj σ H)(r:Iv Y F H aj σ v x)(hi:i∉ios)(cP:∀p∈Y.io,p.1∈ios)(q:stD ios i x aj Q):
  ∃F' aG,au F F'/\RS Y F' aG (σ.set i (some v)) H/\Q aG:=by
 have h0:∀p∈Y.io,p.1≠i:=λp hp z=>hi (z ▸ cP p hp);cases x with
 | val d=>exact⟨F,_,au.refl _,R.xx r h0,q⟩
 | own xs =>
  obtain⟨a,vs,rfl,h1,h2,h3,h4,h5⟩:=r;exact⟨F,_,au.refl _,R.GY h1 h2 h3 h4 h5 h0,q⟩
 | obj o =>
  obtain⟨a,rfl,h1,h2⟩:=r;exact⟨F,_,au.refl _,R.Uk h1 h2 h0,q⟩
 | any=>exact False.elim q
 | var j =>
  have r:σ[j]?=some (some v):=r;unfold stD at q;dsimp only at q
  split at q
  ·rename_i xs e
   obtain⟨F2,v2,s2,R2,e2,r2⟩:=R.mP e λp hp z=>q.1 (z ▸ cP p hp);rw[r]at e2;cases e2;exact⟨F2,_,s2,R2.xx r2 h0,q.2⟩
  ·rename_i d e
   obtain⟨v2,e2,r2⟩:=R.sh j d e;rw[r]at e2;cases e2;exact⟨F,_,au.refl _,R.xx r2 h0,q⟩
  ·exact q.elim
def dw(ios:List Nat)(i:Nat)(t:TX):bK:=λDe σ=>t σ λx aw=>stD ios i x aw De.nx
theorem mZ{X:Cx}{Y:bB}(ok:d8 X G k S Y){x:Str}(h:S.sc.lookup x=some .local\/(S.sc.lookup x=some .cell/\S.qA=false)):L2.Loc X.env.scope x:=by
 unfold L2.Loc;rw[ok.sc];exact h.imp id (·.1)
theorem mO{X:Cx}{Y:bB}(ok:d8 X G k S Y){x:Str}(h:S.sc.lookup x=some .local\/(S.sc.lookup x=some .cell/\S.qA=false)):X.fn x=true\/X.env.scope.names.lookup x=some .local:=by
 rcases h with h|h
 ·right;rw[ok.sc];exact h
 ·left;exact ok.fn h.2 x h.1
theorem bz(i:Nat){x:Str}{e:Expr}{te:TX}{pos pos':Pos}(he:EX G k S e te)(hi:S.N[i]?=some x:=by rfl)(hx:S.sc.lookup x=some .local\/(S.sc.lookup x=some .cell/\S.qA=false):=by first|exact Or.inl rfl|exact Or.inr ⟨rfl,rfl⟩)(hn:i∉S.ios:=by first|decide|exact List.not_mem_nil | (dsimp only;decide))
  (hs:∀line env,swapsWith e (some (.Name x pos')) line env=pure false:=by intro _ _;rfl):ES G k S (.Assign [.Name x pos'] e pos) (dw S.ios i te):=.mk λX Y ok =>
 cG (L2.yJ (i:=i) (by rw[ok.N];exact ok.nd) (by rw[ok.N];exact hi) (mZ ok hx) (he X Y ok) (hs _ _) (mO ok hx)) λDn σ H q=>by
  obtain⟨F,aj,De,R,q,K⟩:=q;refine⟨F,aj,_,R,q,λv H1 F1 y aw s1 R1 r1 q1=>?_⟩;obtain⟨F2,aO,s2,R2,q2⟩:=nj R1 r1 hn ok.ios q1;exact K.nx _ H1 F2 aO (s1.trans s2) R2 q2
theorem RS.write{Y:bB}{F:Hp}{aj:Sd}{σ:St}{H:Hp}{i:Nat}{xs ys:List D}{a:Addr}{us:List V}(R:RS Y F aj σ H)(e:aj[i]?=some (some (.own xs)))(h:σ[i]?=some (some (.ref a)))(r:aE F us ys):
  RS Y F (aj.set i (some (.own ys))) σ (upd H a (.lst us)):=by
 obtain⟨b,vs,w1,w2,w3,w4,w5⟩:=R.own i xs e;rw[h]at w1;cases w1;have hl:i<aj.length:=(List.getElem?_eq_some_iff.mp e).1;have BK:sE Y F (aj.set i (some (.own ys))) σ (upd H a (.lst us)):=R.ob.step (au.refl _) (λj o q=>by
  rcases gs q with⟨_,z⟩|⟨hj,q⟩
  ·cases z
  ·exact⟨q,rfl⟩) (λb hb=>by
  obtain⟨z1,z2,z3⟩:=R.ob.owned hb;have cT:b≠a:=λz=>R.ob.gj i xs a e h (z ▸ hb);exact⟨aq cT,z1,z3⟩) (λj zs b q1 q2=>by
  rcases gs q1 with⟨e1,_⟩|⟨hj,q1⟩
  ·subst e1
   rw[h]at q2;cases q2;exact R.ob.gj j xs a e h
  ·exact R.ob.gj j zs b q1 q2) λb hb=>by
  by_cases cT:b=a
  ·rw[cT,aA];exactλz=>nomatch z
  ·rw[aq cT];exact R.ob.there b hb
 refine⟨by simpa using R.len,R.lo,λb o q=>?_,R.eJ,λb o q n=>?_,λj d q=>?_,λj zs q=>?_,λj l zs qs b q1 q2 q3 q4=>?_,λp hp=>?_,BK⟩
 ·have:b≠a:=λz=>by rw[z,w4]at q;cases q
  rw[aq this];exact R.fr b o q
 ·have:b≠a:=λz=>by
   subst z;rcases w5 with w5|w5
   ·rw[w5]at q;cases q
   ·exact bB.Ao n w5
  rw[aq this];exact R.old b o q n
 ·rcases gs q with⟨_,z⟩|⟨hj,q⟩
  ·cases z
  ·exact R.sh j d q
 ·rcases gs q with⟨rfl,z⟩|⟨hj,q⟩
  ·cases z
   exact⟨a,us,h,aA,r,w4,w5⟩
  ·obtain⟨b,ws,z1,z2,z3,z4,z5⟩:=R.own j zs q
   have:b≠a:=λz=>hj (R.dis j i zs xs a q e (z ▸ z1) h);exact⟨b,ws,z1,by rw[aq this];exact z2,z3,z4,z5⟩
 ·have f:∀ {m:Nat} {ms:List D},(aj.set i (some (B.own ys)))[m]?=some (some (B.own ms))->∃Ie,aj[m]?=some (some (B.own Ie)):=λ{m ms} q=>by
   rcases gs q with⟨rfl,z⟩|⟨hj,q⟩
   ·exact⟨xs,e⟩
   ·exact⟨_,q⟩
  obtain⟨_,q1⟩:=f q1;obtain⟨_,q2⟩:=f q2;exact R.dis j l _ _ b q1 q2 q3 q4
 ·obtain⟨z1,zs,z2⟩:=R.io p hp
  refine⟨z1,?_⟩
  by_cases Fv:p.1=i
  ·exact⟨ys,by rw[Fv,nG hl]⟩
  ·exact⟨zs,by rw[bx Fv];exact z2⟩
def Ap(σ:Sd)(i:Nat):Prop:=∃xs,σ[i]?=some (some (B.own xs))
def Nk(i:Nat)(d:D)(σ:Sd)(Q:Sd->Prop):Prop:=match σ[i]? with
 | some (some (.own xs))=>xs.length<sizeLine/\Q (σ.set i (some (.own (xs++[d]))))
 | _=>False
def zl(to:TV)(te:TD):TX:=λσ Q=>to σ λx aw=>match x with
 | .var i=>Ap aw i/\te aw λd aO=>Nk i d aO λfe=>Q (.val .aU) fe
 | _=>False
theorem pU{o e:Expr}{to:TV}{te:TD}{apos c5:Pos}(ho:EO G k S o to)(he:ED G k S e te)(hb:∀env,attributeBase o "append" env (eval o env)=eval o env:=by intro _;rfl)
  (Fm:∀env,((backTo c5 (starEach [e] env)).all (λx=>!x.1)&&(backToKw c5 (keywordEach [] env)).all (λx=>x.1.isSome)&&decide (([e]:List Expr).length+([]:List Keyword).length+(if([]:List Keyword).isEmpty then 0 else 1)<30))=true:=by intro _;rfl)
  (hline:(apos.endLine==c5.line)=true:=by rfl) (hs:∀env,starEach [e] env=[(false,eval e env)]:=by intro _;rfl):EX G k S (.Call (.Attribute o "append" apos) [e] [] c5) (zl to te):=.mk λX Y ok=>by
 have ha:PA X [e] (jS (lD Y te) qS):=cL (he X Y ok) hG (by rw[hs];rfl)
 refine aV (Mh F.plainAttrs_list F.slot_list_append F.type_list_append rZ (ho X Y ok) ha (hb _) (Fm _) hline (by rw[hs];rfl) (by rfl)) λσ H Q q=>?_
 obtain⟨F,aj,Qd,R,q,K⟩:=q;refine⟨F,aj,_,R,q,λv1 H1 F1 x aw s1 R1 r1 q1=>?_⟩;cases x with
 | val d=>exact q1.elim
 | any=>exact q1.elim
 | var i =>
  obtain⟨⟨ys,e0⟩,q1⟩:=q1;have r1:σ[i]?=some (some v1):=r1;obtain⟨a,vs,w1,w2,w3,w4,w5⟩:=R1.own i ys e0;rw[r1]at w1;cases w1;refine⟨.inl ⟨rfl,vs,.of w2⟩,F1,aw,_,R1,q1,λv2 H2 F2 d aO s2 R2 r2 q2=>?_⟩;unfold Nk at q2
  split at q2
  ·rename_i xs e2
   obtain⟨b,us,z1,z2,z3,z4,z5⟩:=R2.own i xs e2;rw[r1]at z1;cases z1;exact⟨a,us,v2,rfl,rfl,z2,by rw[z3.length];exact q2.1,K .aU _ F2 (.val .aU) _ (s1.trans s2) (R2.write e2 r1 (z3.append (.cons r2 .nil))) .aU q2.2⟩
  ·exact q2.elim
end Vc
namespace Vc
open PySem L2
variable [KF]
variable {G:GE}{k:Nat}{S:Stat}
abbrev bA:=List D->(B->Prop)->Prop
def Bi(H F H':Hp)(v:V):B->Prop
 | .sh d=>Rep F v d
 | .own xs=>∃a vs,v=.ref a/\H' a=some (.lst vs)/\aE F vs xs/\F a=none/\H a=none
 | .obj o=>∃a,v=.ref a/\o.rep F H' a/\∀b∈o.fp a,F b=none/\H' b≠none/\H b=none
def qO(sp:bA):Sp:=λvs H Q _=>∃F ds Qd,jO F H/\aE F vs ds/\sp ds Qd /\
 ∀v H' F' b,au F F'->au F' H'->au H H'->(∀c o,F' c=some o->F c=some o\/Nw H c o)->Bi H F' H' v b->Qd b->Q v H'
theorem RS.call{Y:bB}{F F':Hp}{aj:Sd}{σ:St}{H H':Hp}(R:RS Y F aj σ H)(s1:au F F')(s2:au F' H')(s3:au H H')(fr:∀c o,F' c=some o->F c=some o\/Nw H c o):RS Y F' aj σ H' where
 len:=R.len
 lo:=R.lo.trans s1
 fr:=s2
 eJ:=λb o e=>by
  rcases fr b o e with h|h
  ·exact R.eJ b o h
  ·exact .inr (h.imp (λh=>(R.bg h).1) id)
 old:=λb o e n=>s3 b o (R.old b o e n)
 sh:=λi d e=>by
  obtain⟨v,h1,h2⟩:=R.sh i d e;exact⟨v,h1,h2.mono s1⟩
 own:=λi xs e=>by
  obtain⟨a,vs,h1,h2,h3,h4,h5⟩:=R.own i xs e;refine⟨a,vs,h1,s3 a _ h2,h3.mono s1,?_,h5⟩;cases q:F' a with
  | none=>rfl
  | some o =>
   rcases fr a o q with h|h
   ·rw[h4]at h;cases h
   ·rcases h with h|⟨ws,rfl⟩
    ·rw[h2]at h;cases h
    ·have z:=s2 a _ q;rw[s3 a _ h2]at z;cases z
 dis:=R.dis
 io:=R.io
 ob:=by
  have up:∀b,H b≠none->H' b=H b:=λb hb=>by
   cases q:H b with
   | none=>exact absurd q hb
   | some o=>exact s3 b o q
  refine R.ob.step s1 (λ_ _ e=>⟨e,rfl⟩) (λb hb=>?_) R.ob.gj λb hb=>by rw[up b (R.ob.there b hb)];exact R.ob.there b hb
  obtain⟨w1,w2,w3⟩:=R.ob.owned hb;refine⟨up b w2,?_,w3⟩;cases q:F' b with
  | none=>rfl
  | some o =>
   rcases fr b o q with h|h
   ·rw[w1]at h;cases h
   ·rcases h with h|⟨ws,rfl⟩
    ·exact absurd h w2
    ·exact absurd (by rw[<- up b w2];exact s2 b _ q) (R.ob.Mf hb)
def eX(G:GE)(k:Nat)(x:Str)(sp:bA):Prop:=∃f fd ps,bW G.P G.w G.K G.mg G.base iL k f fd ps (qO sp)/\G.mg x=some (.ref f)/\PySem.W.keepIn G.K (.ref f)=true/\Binds G.K fd ps []
theorem eX.mono{x:Str}{sp:bA}{j:Nat}(h:eX G j x sp)(l:j<=k):eX G k x sp:=by
 obtain⟨f,fd,ps,h1,h2,h3,h4⟩:=h;exact⟨f,fd,ps,h1.mono l,h2,h3,h4⟩
def bE:B->EV
 | .sh d=>.val d
 | .own xs=>.own xs
 | .obj o=>.obj o
def Cl(sp:bA)(ds:List D)(Q:B->Prop):Prop:=sp ds Q
def jQ(sp:bA)(t:eU):TX:=λσ Q=>t σ λds aw=>Cl sp ds λb=>Q (bE b) aw
theorem bZ{x:Str}{sp:bA}{e:Expr}{es:List Expr}{t:eU}{p pos:Pos}(h:eX G k x sp)(ha:qW G k S (e::es) t)(hg:S.sc.lookup x=some .globalImplicit:=by rfl)(iZ:(x==("__debug__":Str))=false:=by decide)
  (he:∀env,starEach (e::es) env=(false,eval e env)::starEach es env:=by exactλ_=>Vc.cj rfl) (eY:∀env,(backTo pos (starEach es env)).any (·.1)=false:=by intro _;rfl) (hh:S.jG=false:=by rfl):EX G k S (.Call (.Name x p) (e::es) [] pos) (jQ sp t):=.mk λX Y ok=>by
 obtain⟨f,fd,ps,h1,h2,h3,h4⟩:=h;have mQ:bW X.prog X.w X.K X.mg X.base iL k f fd ps (qO sp):=by rw[ok.P,ok.w,ok.K,ok.mg,ok.base];exact h1
 refine aV (oN (E:=E0) (dvs:=[]) (ds:=[]) mQ (ok.room hh) (di ok hg) (by rw[ok.mg];exact h2) (by rw[ok.K];exact h3) (by rw[ok.K];exact h4) .nil nO (ha X Y ok) iZ (he _) (eY _)) λσ H Q q=>?_
 obtain⟨F,aj,Qd,R,q,K⟩:=q;refine⟨F,aj,_,R,q,λvs H1 F1 ds aw s1 R1 r1 q1=>?_⟩;show qO sp (vs++[]) H1 Q E0;rw[List.append_nil];refine⟨F1,ds,_,⟨R1.fr,R1.ob.tab⟩,r1,q1,λv H' F' b s2 s3 s4 fr r2 q2=>?_⟩;have R2:=R1.call s2 s3 s4 fr;cases b with
 | sh d=>exact K v H' F' (.val d) aw (s1.trans s2) R2 r2 q2
 | own xs =>
  obtain⟨a,us,rfl,w1,w2,w3,w4⟩:=r2;refine K _ H' F' (.own xs) aw (s1.trans s2) R2 ⟨a,us,rfl,w1,w2,w3,(R1.bg w4).1,R1.cg w4⟩ q2
 | obj o =>
  obtain⟨a,rfl,w1,w2⟩:=r2;exact K _ H' F' (.obj o) aw (s1.trans s2) R2 ⟨a,rfl,w1,λb hb=>⟨(w2 b hb).1,(w2 b hb).2.1,(R1.bg (w2 b hb).2.2).1,R1.cg (w2 b hb).2.2⟩⟩ q2
def aJ(n:Nat)(ds:List D):Sd:=ds.map (λd=>some (.sh d))++List.replicate (n-ds.length) none
theorem qk{F:Hp}:∀ {vs:List V} {ds:List D} (m:Nat) {i:Nat} {d:D},aE F vs ds->(ds.map (λd=>some (B.sh d))++List.replicate m none)[i]?=some (some (.sh d))->∃v,(vs.map some++List.replicate m none)[i]?=some (some v)/\Rep F v d
 | [],[],m,i,d,.nil,e=>by
  simp only[List.map_nil,List.nil_append,List.getElem?_replicate]at e
  split at e<;>cases e
 | v::vs,x::ds,m,0,d,.cons r t,e=>by
  simp at e;subst e;exact⟨v,by simp,r⟩
 | v::vs,x::ds,m,i+1,d,.cons r t,e=>by
  obtain⟨u,h1,h2⟩:=qk (i:=i) m t (by simpa using e)
  exact⟨u,by simpa using h1,h2⟩
theorem gM:∀(ds:List D) (m i:Nat) (xs:List D),(ds.map (λd=>some (B.sh d))++List.replicate m none)[i]?≠some (some (.own xs))
 | [],m,i,xs=>by
  simp only[List.map_nil,List.nil_append,List.getElem?_replicate];intro e
  split at e<;>cases e
 | x::ds,m,0,xs=>by simp
 | x::ds,m,i+1,xs=>by
  have:=gM ds m i xs;simpa using this
theorem nq:∀(ds:List D) (m i:Nat) (o:O),(ds.map (λd=>some (B.sh d))++List.replicate m none)[i]?≠some (some (.obj o))
 | [],m,i,o=>by
  simp only[List.map_nil,List.nil_append,List.getElem?_replicate];intro e
  split at e<;>cases e
 | x::ds,m,0,o=>by simp
 | x::ds,m,i+1,o=>by
  have:=nq ds m i o;simpa using this
theorem RS.start{F H:Hp}{vs:List V}{ds:List D}(n:Nat)(s:jO F H)(r:aE F vs ds):RS ⟨H,F,[],[]⟩ F (aJ n ds) (vs.map some++List.replicate (n-vs.length) none) H where
 len:=by unfold aJ;simp [r.length]
 lo:=au.refl _
 fr:=s.1
 eJ:=λb o e=>.inl e
 old:=λb o e _=>e
 sh:=λi d e=>by
  rw[r.length];exact qk _ r e
 own:=λi xs e=>absurd e (gM _ _ _ _)
 dis:=λi j xs ys a e=>absurd e (gM _ _ _ _)
 io:=λp hp=>absurd hp (by simp)
 ob:=.none (λi o=>nq _ _ _ _) s.2 λb hb=>by cases hb
theorem EJ{x qual:Str}{st:Stmt}{f:Addr}{fd:FuncData}{N ps:List Str}{sp:bA}{t:bK}(hK:G.K=KF.K)(Fn:xZ G.K x qual st f fd)(Sc:aC N ps (ae st))(ht:cB G k ⟨N,(ae st).names,[],false,false,false,λ_ _=>False⟩ (ak st) t)
  (len:∀ds Q,sp ds Q->ds.length=ps.length)
  (body:∀ds Q,sp ds Q->t {nx:=λ_=>Q (.sh .aU),rt:=λb _=>Q b} (aJ N.length ds)):bW G.P G.w G.K G.mg G.base iL (k+1) f fd ps (qO sp):=by
 refine Fn.ok Sc (λvs H Q E h=>?_) (λgh A outer s H vs Q E hr h=>?_)
 ·obtain⟨F,ds,Qd,s,r,q,K⟩:=h
  rw[r.length];exact len _ _ q
 ·obtain⟨F,ds,Qd,sm,r,q,K⟩:=h
  refine⟨_,ht (kz iL G.P G.w G.K G.mg G.base N qual (ae st) f gh A outer s H E).JR ⟨H,F,[],[]⟩ ⟨rfl,rfl,rfl,hK,rfl,rfl,rfl,rfl,Sc.nd,λp hp=>absurd hp (by simp),λ_ _=>rfl,λ_=>rfl,Sc.kind,λ_ _ _=>rfl,λ_=>hr.hd,hr.dp,hr.un,λ_=>PassesOwn.never,λ_=>⟨rfl,rfl,rfl⟩,λ_ _ h=>h.elim,λh=>nomatch h⟩,F,aJ N.length ds,_,RS.start _ sm r,body ds Qd q,?_⟩
  have same:∀ {F':Hp} {aj:Sd} {σ:St} {H':Hp},RS ⟨H,F,[],[]⟩ F' aj σ H'->au H H':=λR b o e=>R.old b o e (by simp [bB.vk])
  refine⟨λσ H' F' aj s' R' q'=>?_,λv σ H' F' aj b s' R' r' q'=>?_,λ_ _ _ _ _ _ h=>h.elim,λ_ _ _ _ _ _ h=>h.elim⟩
  ·exact K .aU H' F' (.sh .aU) s' R'.fr (same R') R'.eJ .aU q'
  ·refine K v H' F' b s' R'.fr (same R') R'.eJ ?_ q'
   cases b with
   | sh d=>exact r'
   | own xs =>
    obtain⟨a,us,rfl,w1,w2,w3,w4,w5⟩:=r';exact⟨a,us,rfl,w1,w2,w3,w4⟩
   | obj o =>
    obtain⟨a,rfl,w1,w2⟩:=r';exact⟨a,rfl,w1,λb hb=>⟨(w2 b hb).1,(w2 b hb).2.1,(w2 b hb).2.2.1⟩⟩
end Vc
namespace Vc
open PySem L2
variable [KF]
variable {G:GE}{k:Nat}{S:Stat}
abbrev nX:=D->Sd->(Sd->Prop)->Prop
def lG(Y:bB)(g:nX):TG:=λv σ H Q=>∃F aj d Qd,RS Y F aj σ H/\Rep F v d/\g d aj Qd/\∀bS H' F' aG,au F F'->RS Y F' aG bS H'->Qd aG->Q bS H'
structure EG(G:GE)(k:Nat)(S:Stat)(tg:Expr)(g:nX) :Prop where
 run:∀X Y,d8 X G k S Y->PG X tg (lG Y g)
instance {G:GE} {k:Nat} {S:Stat} {tg:Expr} {g:nX} :CoeFun (EG G k S tg g) λ_=>∀X Y,d8 X G k S Y->PG X tg (lG Y g):=⟨EG.run⟩
theorem Gi{X:Cx}{e:Expr}{t t':TG}(h:PG X e t)(i:∀v σ H Q,t' v σ H Q->t v σ H Q):PG X e t':=λpins s σ H v u Q I r q=>h pins s σ H v u Q I r (i v σ H Q q)
def iI(i:Nat):nX:=λd σ Q=>Q (σ.set i (some (.sh d)))
theorem bH(i:Nat){x:Str}{pos:Pos}(hi:S.N[i]?=some x:=by rfl)(hx:S.sc.lookup x=some .local\/(S.sc.lookup x=some .cell/\S.qA=false):=by first|exact Or.inl rfl|exact Or.inr ⟨rfl,rfl⟩)(hn:i∉S.ios:=by first|decide|exact List.not_mem_nil | (dsimp only;decide)):EG G k S (.Name x pos) (iI i):=.mk λX Y ok =>
 Gi (AQ (i:=i) (by rw[ok.N];exact ok.nd) (by rw[ok.N];exact hi) (mZ ok hx) (mO ok hx)) λv σ H Q q=>by
  obtain⟨F,aj,d,Qd,R,r,q,K⟩:=q;exact K _ H F _ (au.refl _) (R.xx r λp hp z=>hn (z ▸ ok.ios p hp)) q
abbrev sJ:=List D->Sd->(Sd->Prop)->Prop
def lGs(Y:bB)(g:sJ):LD:=λvs σ H Q=>∃F aj ds Qd,RS Y F aj σ H/\aE F vs ds/\g ds aj Qd/\∀bS H' F' aG,au F F'->RS Y F' aG bS H'->Qd aG->Q bS H'
structure Vn(G:GE)(k:Nat)(S:Stat)(ts:List Expr)(g:sJ) :Prop where
 run:∀X Y,d8 X G k S Y->Vp X ts (lGs Y g)
instance {G:GE} {k:Nat} {S:Stat} {ts:List Expr} {g:sJ} :CoeFun (Vn G k S ts g) λ_=>∀X Y,d8 X G k S Y->Vp X ts (lGs Y g):=⟨Vn.run⟩
def L3:sJ:=λds σ Q=>match ds with
 | []=>Q σ
 | _=>False
def gC(g:nX)(u:sJ):sJ:=λds σ Q=>match ds with
 | d::r=>g d σ λaw=>u r aw Q
 | []=>False
theorem pz:Vn G k S [] L3:=.mk λX Y ok pins s σ H vs us Q I r q=>Ke pins s σ H vs us Q I r (by
 obtain⟨F,aj,ds,Qd,R,rr,q,K⟩:=q;cases rr with
 | nil=>exact⟨rfl,K σ H F aj (au.refl _) R q⟩
 | cons _ _=>exact q.elim)
theorem dk{e:Expr}{es:List Expr}{g:nX}{u:sJ}(h1:EG G k S e g)(h2:Vn G k S es u)(hs:∀env,(assignEach (e::es) env).map (·.2)=assign e env::(assignEach es env).map (·.2):=by intro _;rfl):Vn G k S (e::es) (gC g u):=.mk λX Y ok pins s σ H vs us Q I r q =>
 Gj (h1 X Y ok) (h2 X Y ok) (hs _) pins s σ H vs us Q I r (by
  obtain⟨F,aj,ds,Qd,R,rr,q,K⟩:=q;cases rr with
  | nil=>exact q.elim
  | cons r1 rs =>
   refine⟨_,_,rfl,F,aj,_,_,R,r1,q,λaw H1 F1 xR s1 R1 q1=>?_⟩;exact⟨F1,xR,_,_,R1,rs.mono s1,q1,λaO H2 F2 cu s2 R2 q2=>K aO H2 F2 cu (s1.trans s2) R2 q2⟩)
def L4(n:Nat)(u:sJ):nX:=λd σ Q=>match d with
 | .tup xs=>xs.length=n/\u xs σ Q
 | _=>False
theorem wx{es:List Expr}{kk:Nat}{u:sJ}{n:Nat}{pos:Pos}(h:Vn G k S es u)(hn:∀env,(assignEach es env).length=n:=by intro _;rfl)(pB:∀env,(assignEach es env).findIdx? (·.1)=none:=by intro _;rfl)(hh:S.jG=false:=by rfl):EG G k S (.Tuple es kk pos) (L4 n u):=.mk λX Y ok =>
 Gi (SQ (ok.calm hh) (h X Y ok) (hn _) (pB _)) λv σ H Q q=>by
  obtain⟨F,aj,d,Qd,R,r,q,K⟩:=q;cases d with
  | tup xs =>
   cases r with
   | tup hf rl =>
    exact⟨_,_,rfl,.of (R.fr _ _ hf),by rw[rl.length];exact q.1,F,aj,xs,Qd,R,rl,q.2,K⟩
  | _=>exact q.elim
def CQ(F1 H1 F2 H2:Hp):Prop:=(F2=F1/\H2=H1)\/∃p o,H1 p=none/\F2=upd F1 p o/\H2=upd H1 p o
theorem CQ.same{F1 H1 F2 H2:Hp}(g:CQ F1 H1 F2 H2)(s:au F1 H1):au F1 F2:=by
 rcases g with⟨rfl,rfl⟩|⟨p,o,h,rfl,rfl⟩
 ·exact au.refl _
 ·exact aK (same_none s h)
theorem CQ.rs{Y:bB}{F1 H1 F2 H2:Hp}{aj:Sd}{σ:St}(g:CQ F1 H1 F2 H2)(R:RS Y F1 aj σ H1):RS Y F2 aj σ H2:=by
 rcases g with⟨rfl,rfl⟩|⟨p,o,h,rfl,rfl⟩
 ·exact R
 ·exact R.alloc h
def nA(F:Hp)(J:It)(items:List D):Prop:=∀F1 H1,au F F1->au F1 H1->∀i:Nat,
 (∀x,items[i]?=some x->J.go i H1/\∀v H2,J.VW i H1 v H2->∃F2,CQ F1 H1 F2 H2/\Rep F2 v x)/\(i=items.length->J.stop i H1)
theorem nA.mono{F F':Hp}{J:It}{items:List D}(h:nA F J items)(s:au F F'):nA F' J items:=λF1 H1 s1=>h F1 H1 (s.trans s1)
def lI(Y:bB)(t:eU):TI:=λσ H R=>∃F aj Qd,RS Y F aj σ H/\t aj Qd/\∀H' F' aG J items,au F F'->RS Y F' aG σ H'->nA F' J items->Qd items aG->R J H'
structure EI(G:GE)(k:Nat)(S:Stat)(tg iter:Expr)(t:eU) :Prop where
 run:∀X Y,d8 X G k S Y->PI X tg iter (lI Y t)
instance {G:GE} {k:Nat} {S:Stat} {tg iter:Expr} {t:eU} :CoeFun (EI G k S tg iter t) λ_=>∀X Y,d8 X G k S Y->PI X tg iter (lI Y t):=⟨EI.run⟩
theorem tY{X:Cx}{tg e:Expr}{t t':TI}(h:PI X tg e t)(i:∀σ H Q,t' σ H Q->t σ H Q):PI X tg e t':=λpins s σ H Q I q=>h pins s σ H Q I (i σ H Q q)
theorem Gk{X:Cx}{tg l:Expr}{tl:TE}(hl:PE X l tl):PI X tg l (λσ H R=>tl σ H λx H1=>(∃a,x=.ref a/\(∃xs,jr X.K H1 a xs)/\R (Itl X.K a) H1)\/(∃a,x=.ref a/\(∃xs,nB X.K H1 a xs)/\R (Itt X.K a) H1)):=by
 intro pins s σ H R I h;refine ck (hl pins s σ H _ I h) λv s1 ⟨x,H1,I1,r1,q1⟩=>?_;rcases q1 with⟨a,e,⟨xs,hq⟩,q⟩|⟨a,e,⟨xs,hq⟩,q⟩
 ·subst e
  cases r1;obtain⟨its,rv,p,hz⟩:=I1.list hq;refine wpAny_pyIter_list p.isList ?_;refine⟨s1.heap.objs.size,[s1.heap.objs.size],_,_,H1,rfl,I1.kept (t':=s1.toks) λb o e=>Heap.get?_push_of_some _ e,Cu a _,⟨_,Heap.get?_push_size _ rfl,rfl,rfl⟩,λb hb=>?_,q⟩;have e:b=s1.heap.objs.size:=by simpa using hb
  subst e;exact I1.ER (Nat.le_refl _) (I1.bc.fresh (Nat.le_refl _))
 ·subst e
  cases r1;obtain⟨its,rv,p,hz⟩:=I1.tuple hq;refine wpAny_pyIter_tuple (show s1.heap.IsTuple a its.toArray from p) ?_
  refine⟨s1.heap.objs.size,[s1.heap.objs.size],_,_,H1,rfl,I1.kept (t':=s1.toks) λb o e=>Heap.get?_push_of_some _ e,zv a _,⟨_,Heap.get?_push_size _ rfl,rfl,rfl⟩,λb hb=>?_,q⟩;have e:b=s1.heap.objs.size:=by simpa using hb
  subst e;exact I1.ER (Nat.le_refl _) (I1.bc.fresh (Nat.le_refl _))
theorem Jy{K:PySem.W.Frag}{F:Hp}{a:Addr}{vs:List V}{xs:List D}(h:Rd F a (.lst vs))(r:aE F vs xs):nA F (Itl K a) xs:=λF1 H1 s1 s2 i=>by
 have hs:jr K H1 a vs:=.inl (Rd.mono (s1.trans s2) h);refine⟨λx e=>?_,λhl=>⟨vs,hs,by rw[r.length,hl];exact Nat.le_refl _⟩⟩
 obtain⟨v,e1,r1⟩:=r.get e;refine⟨⟨vs,v,hs,e1⟩,λv2 H2 y=>?_⟩;obtain⟨rfl,y⟩:=y;have:=y vs hs;rw[e1]at this;cases this;exact⟨F1,.inl ⟨rfl,rfl⟩,r1.mono s1⟩
theorem Jz{K:PySem.W.Frag}{F:Hp}{a:Addr}{vs:List V}{xs:List D}(h:F a=some (.tup vs))(r:aE F vs xs):nA F (Itt K a) xs:=λF1 H1 s1 s2 i=>by
 have hs:nB K H1 a vs:=.of (s2 _ _ (s1 _ _ h));refine⟨λx e=>?_,λhl=>⟨vs,hs,by rw[r.length,hl];exact Nat.le_refl _⟩⟩
 obtain⟨v,e1,r1⟩:=r.get e;refine⟨⟨vs,v,hs,e1⟩,λv2 H2 y=>?_⟩;obtain⟨rfl,y⟩:=y;have:=y vs hs;rw[e1]at this;cases this;exact⟨F1,.inl ⟨rfl,rfl⟩,r1.mono s1⟩
def cQ(t:TD):eU:=λσ Q=>t σ λd aw=>match d with
 | .lst xs=>Q xs aw
 | .tup xs=>Q xs aw
 | _=>False
theorem fM{tg l:Expr}{t:TD}(h:ED G k S l t):EI G k S tg l (cQ t):=.mk λX Y ok=>tY (Gk (h X Y ok)) λσ H Q q=>by
 obtain⟨F,aj,Qd,R,q,K⟩:=q;refine⟨F,aj,_,R,q,λv H1 F1 d aw s1 R1 r1 q1=>?_⟩;cases d with
 | lst xs =>
  cases r1 with
  | lst hf rl=>exact .inl ⟨_,rfl,⟨_,.inl (Rd.mono R1.fr hf)⟩,K H1 F1 aw _ xs s1 R1 (Jy hf rl) q1⟩
 | tup xs =>
  cases r1 with
  | tup hf rl=>exact .inr ⟨_,rfl,⟨_,.of (R1.fr _ _ hf)⟩,K H1 F1 aw _ xs s1 R1 (Jz hf rl) q1⟩
 | _=>exact q1.elim
def Cg(lo:Int)(n:Nat):List D:=(List.range n).map λi=>.int (lo+(i:Nat))
theorem Aq{F:Hp}(lo:Int)(n:Nat):nA F (Wa lo n) (Cg lo n):=λF1 H1 s1 s2 i=>by
 refine⟨λx e=>?_,λhl=>?_⟩
 ·unfold Cg at e
  rw[List.getElem?_map]at e;have hi:i<n:=by
   by_cases hi:i<n
   ·exact hi
   ·rw[List.getElem?_eq_none_iff.mpr (by simpa using hi)]at e;cases e
  rw[List.getElem?_range hi]at e;cases e;refine⟨hi,λv H2 y=>?_⟩;obtain⟨rfl,rfl⟩:=y;exact⟨F1,.inl ⟨rfl,rfl⟩,.int _⟩
 ·unfold Cg at hl
  rw[List.length_map,List.length_range]at hl;exact Nat.le_of_eq hl.symm
def qK(t:zK):eU:=λσ Q=>t σ λxs aw=>match mI aw xs with
 | some [.int j]=>(-(2^62)<=j/\j<2^62)/\Q (Cg 0 j.toNat) aw
 | _=>False
def Kw(t:zK):eU:=λσ Q=>t σ λxs aw=>match mI aw xs with
 | some [.int i,.int j]=>(-(2^62)<=i/\i<2^62/\-(2^62)<=j/\j<2^62)/\Q (Cg i (j-i).toNat) aw
 | _=>False
theorem j7{tg a:Expr}{t:zK}{p pos:Pos}(h:Im G k S [a] t)(hm:G.mg "range"=none)(hg:S.sc.lookup ("range":Str)=some .globalImplicit:=by rfl)(hs:∀env,starEach [a] env=[(false,eval a env)]:=by intro _;rfl):EI G k S tg (.Call (.Name "range" p) [a] [] pos) (qK t):=.mk λX Y ok =>
 tY (B8 (di ok hg) (by rw[ok.mg];exact hm) (h X Y ok) (hs _)) λσ H Q q=>by
  obtain⟨F,aj,Qd,R,q,K⟩:=q;refine⟨F,aj,_,R,q,λvs H1 F1 xs aw s1 R1 r1 q1=>?_⟩
  split at q1
  ·rename_i j e
   obtain⟨v,rfl,rv⟩:=(R1.mI r1 e).one;obtain rfl:=rv.int;exact⟨j,rfl,q1.1.1,q1.1.2,K H1 F1 aw _ _ s1 R1 (Aq 0 _) q1.2⟩
  ·exact q1.elim
theorem P0{tg a b:Expr}{t:zK}{p pos:Pos}(h:Im G k S [a,b] t)(hm:G.mg "range"=none)(hg:S.sc.lookup ("range":Str)=some .globalImplicit:=by rfl)(hs:∀env,starEach [a,b] env=[(false,eval a env),(false,eval b env)]:=by intro _;rfl)(CC:∀env,starEach [b] env=[(false,eval b env)]:=by intro _;rfl):EI G k S tg (.Call (.Name "range" p) [a,b] [] pos) (Kw t):=.mk λX Y ok =>
 tY (B9 (di ok hg) (by rw[ok.mg];exact hm) (h X Y ok) (hs _) (CC _)) λσ H Q q=>by
  obtain⟨F,aj,Qd,R,q,K⟩:=q;refine⟨F,aj,_,R,q,λvs H1 F1 xs aw s1 R1 r1 q1=>?_⟩
  split at q1
  ·rename_i i j e
   obtain⟨v,u,rfl,rv,ru⟩:=(R1.mI r1 e).two;obtain rfl:=rv.int;obtain rfl:=ru.int;exact⟨i,j,rfl,q1.1,K H1 F1 aw _ _ s1 R1 (Aq i _) q1.2⟩
  ·exact q1.elim
def wo(g:nX)(tb:bK)(De:jM):List D->Sd->Prop
 | [],σ=>De.nx σ
 | x::xs,σ=>g x σ λaw=>tb {De with nx:=wo g tb De xs,ct:=wo g tb De xs,bk:=De.nx} aw
def fJ(ti:eU)(g:nX)(tb:bK):bK:=λDe σ=>ti σ λitems aw=>wo g tb De items aw
theorem pX{tg iter:Expr}{body:List Stmt}{ti:eU}{g:nX}{tb:bK}{pos:Pos}(hi:EI G k S tg iter ti)(hg:EG G k S tg g)(hb:cB G k S body tb)(hs:∀env x,foldedSetIterable iter env x=pure x:=by intro _ _;rfl)(hh:S.jG=false:=by rfl):
  ES G k S (.For tg iter body [] pos) (fJ ti g tb):=.mk λX Y ok=>cG (Gv (ok.po hh) (ok.calm hh) (hi X Y ok) (hg X Y ok) (hb X Y ok) (hs _)) λDn σ H q=>by
 obtain⟨F,aj,De,R,q,K⟩:=q;refine⟨F,aj,_,R,q,λH1 F1 xR J items s1 R1 it q1=>?_⟩;refine⟨λi m bS H'=>∃F' aG,au F1 F'/\RS Y F' aG bS H'/\wo g tb De (items.drop i) aG/\m=items.length-i/\i<=items.length,⟨items.length,F1,xR,au.refl _,R1,q1,rfl,Nat.zero_le _⟩,?_⟩;rintro i m bS H' ⟨F',aG,s',R',q',rfl,hi⟩;have FA:=it F' H' s' R'.fr i
 by_cases hl:i<items.length
 ·right
  have hd:items.drop i=items[i]::items.drop (i+1):=by rw[List.drop_eq_getElem_cons hl]
  rw[hd]at q';obtain⟨go,yl⟩:=FA.1 items[i] (by rw[List.getElem?_eq_getElem hl])
  refine⟨go,λaO H2=>∃F2 cu,au F1 F2/\RS Y F2 cu aO H2/\wo g tb De (items.drop (i+1)) cu,λaO H2 ⟨F2,cu,s2,R2,q2⟩=>⟨items.length-(i+1),by omega,F2,cu,s2,R2,q2,rfl,hl⟩,λv H2 y=>?_⟩
  obtain⟨F2,gr,rep⟩:=yl v H2 y;have s2:au F1 F2:=s'.trans (gr.same R'.fr);refine⟨F2,aG,items[i],_,gr.rs R',rep,q',λfe H3 F3 ab9 s3 R3 q3=>⟨F3,ab9,_,R3,q3,?_⟩⟩;refine⟨λsv H4 F4 fK s4 R4 q4=>⟨F4,fK,(s2.trans s3).trans s4,R4,q4⟩,λv4 sv H4 F4 fK b s4 R4 r4 q4=>K.rt v4 sv H4 F4 fK b (((s1.trans s2).trans s3).trans s4) R4 r4 q4,
   λsv H4 F4 fK s4 R4 q4=>K.nx sv H4 F4 fK (((s1.trans s2).trans s3).trans s4) R4 q4,λsv H4 F4 fK s4 R4 q4=>⟨F4,fK,(s2.trans s3).trans s4,R4,q4⟩⟩
 ·left
  have e:i=items.length:=by omega
  subst e;rw[List.drop_length]at q';exact⟨FA.2 rfl,K.nx bS H' F' aG (s1.trans s') R' q'⟩
end Vc
namespace Vc
open PySem L2
variable [KF]
theorem sX{prog:Program}{w:World}{A:Around}{R:Result->Shared->Prop}{s:Shared}{elt target iter:Expr}{ifs:List Expr}{scope:Scope}{pos:Pos}{it acc:Value}{env:Env}(I:Nat->Shared->Prop)
  (turn:∀n s,I n s->wpAny (model prog w) A (pyNext it) (λr bP=>match r with
   | none=>R (.ok .next) bP
   | some v=>wpAny (model prog w) A (letOwnedTupleGo target it v) (λ_ My=>wpAny (model prog w) A (assign target env v) (λ_ vd =>
     wpAny (model prog w) A (forIn ifs true λc r=>if r=true then do let ok <- isTrue c env (eval c env);pure (ForInStep.yield ok)else pure (ForInStep.yield r)) (λok xF =>
      if ok=true then wpAny (model prog w) A (eval elt env) (λx KI =>
       wpAny (model prog w) A (call (.builtin "list.append") [acc,x]) (λ_ aat=>∃m,m<n/\I m aat) (λ_ _=>False) KI) (λ_ _=>False) xF
      else∃m,m<n/\I m xF) (λ_ _=>False) vd) (λ_ _=>False) My) (λ_ _=>False) bP) (λ_ _=>False) s)
  (n:Nat) (h:I n s):codeAny (model prog w) A (.compLoop (.ListComp elt [⟨target,iter,ifs,0⟩] scope pos) 0 it acc env) R s:=by
 refine codeAny_loop rfl I (λn s hI=>?_) n h;show wpAny _ A ((compTurn (.ListComp elt [⟨target,iter,ifs,0⟩] scope pos) 0 it acc env).onRaise (λx=>do noteFrame x env;theTreesLotGoes x)) _ _ s
 refine wpAny_noted ?_;rw[compTurn_list];refine wpAny_bind (wpAny_standAt (wpAny_bind (wpAny_mono (turn n s hI) (λr bP Jt=>?_) λ_ _ h'=>h'.elim)));cases r with
 | none=>exact wpAny_pure Jt
 | some v =>
  refine wpAny_bind (wpAny_mono Jt (λ_ My Yf=>?_) λ_ _ h'=>h'.elim);refine wpAny_bind (wpAny_mono Yf (λ_ vd Fx=>wpAny_bind (wpAny_mono Fx (λok xF Ju=>?_) λ_ _ h'=>h'.elim)) λ_ _ h'=>h'.elim);cases ok with
  | false=>exact wpAny_pure ⟨rfl,Ju⟩
  | true =>
   exact wpAny_bind (wpAny_bind (wpAny_mono Ju (λx KI abw=>wpAny_bind (wpAny_mono abw (λ_ aat abx=>wpAny_pure (wpAny_pure ⟨rfl,abx⟩)) λ_ _ h'=>h'.elim)) λ_ _ h'=>h'.elim))
def jX(env:Env):List (Str×NameKind)->List (Str×Addr)->List (Str×Addr)
 | [],cs=>cs
 | (n,k)::r,cs=>if k==.free then jX env r ((n,(env.cells.lookup n).getD 0)::cs)else jX env r cs
theorem o6{env:Env}{scope:Scope}(h:∀x∈scope.names,x.2=.free->∃c,env.cells.lookup x.1=some c):closureFor scope env=pure (jX env scope.names []):=by
 have all:∀(l:List (Str×NameKind)) (cs:List (Str×Addr)),(∀x∈l,x.2=.free->∃c,env.cells.lookup x.1=some c) ->
   (forIn l cs λx cs=>if(x.2==NameKind.free)=true then(do let a <- cellOf env x.1;pure (ForInStep.yield ((x.1,a)::cs)))else pure (ForInStep.yield cs):Sem (List (Str×Addr)))=pure (jX env l cs):=by
  intro l
  induction l with
  | nil=>intro cs _;rfl
  | cons x l ih =>
   intro cs hl;obtain⟨n,k⟩:=x;rw[List.forIn_cons];unfold jX
   by_cases hk:k=.free
   ·subst hk
    obtain⟨c,e⟩:=hl (n,.free) List.mem_cons_self rfl;have e':env.cells.lookup n=some c:=e;simp only[beq_self_eq_true,if_true,cellOf,e',Option.getD_some,pure_bind];exact ih _ λy hy=>hl y (List.mem_cons_of_mem _ hy)
   ·have hb:(k==NameKind.free)=false:=by simpa using hk
    simp only[hb,Bool.false_eq_true,if_false,pure_bind];exact ih _ λy hy=>hl y (List.mem_cons_of_mem _ hy)
 have h1:=all scope.names [] h;have h2:closureFor scope env=((forIn scope.names ([]:List (Str×Addr)) λx cs=>if(x.2==NameKind.free)=true then(do let a <- cellOf env x.1;pure (ForInStep.yield ((x.1,a)::cs)))else pure (ForInStep.yield cs):Sem (List (Str×Addr))) >>= λcs=>pure cs):=rfl
 rw[h2,h1,pure_bind]
theorem cy{env:Env}:∀(l:List (Str×NameKind)) (cs:List (Str×Addr)) (x:Str) (c:Addr),(∀y∈l,y.2=.free->∃c,env.cells.lookup y.1=some c)->(jX env l cs).lookup x=some c->env.cells.lookup x=some c\/cs.lookup x=some c
 | [],cs,x,c,_,h=>.inr h
 | (n,k)::r,cs,x,c,hl,h=>by
  unfold jX at h
  by_cases hk:k=.free
  ·subst hk
   simp only[beq_self_eq_true,if_true]at h;obtain⟨c',e⟩:=hl (n,.free) List.mem_cons_self rfl;have e':env.cells.lookup n=some c':=e;rcases cy r _ x c (λy hy=>hl y (List.mem_cons_of_mem _ hy)) h with q|q
   ·exact .inl q
   ·rw[List.lookup_cons]at q
    cases hx:x==n with
    | true =>
     rw[hx]at q;have:=eq_of_beq hx;subst this;rw[e',Option.getD_some]at q;exact .inl (e'.trans q)
    | false=>rw[hx]at q;exact .inr q
  ·have hb:(k==NameKind.free)=false:=by simpa using hk
   simp only[hb,Bool.false_eq_true,if_false]at h;exact cy r cs x c (λy hy=>hl y (List.mem_cons_of_mem _ hy)) h
theorem mH{env:Env}:∀(l:List (Str×NameKind)) (cs:List (Str×Addr)) (x:Str),(cs.lookup x).isSome=true->((jX env l cs).lookup x).isSome=true
 | [],cs,x,h=>h
 | (n,k)::r,cs,x,h=>by
  unfold jX
  by_cases hk:k=.free
  ·subst hk
   simp only[beq_self_eq_true,if_true];refine mH r _ x ?_;rw[List.lookup_cons];cases hx:x==n with
   | true=>rfl
   | false=>exact h
  ·have hb:(k==NameKind.free)=false:=by simpa using hk
   simp only[hb,Bool.false_eq_true,if_false];exact mH r cs x h
theorem ky{env:Env}:∀(l:List (Str×NameKind)) (cs:List (Str×Addr)) (x:Str),(x,NameKind.free)∈l->((jX env l cs).lookup x).isSome=true
 | (n,k)::r,cs,x,h=>by
  unfold jX;rcases List.mem_cons.mp h with e|e
  ·cases e
   simp only[beq_self_eq_true,if_true];refine mH r _ _ ?_;rw[List.lookup_cons,beq_self_eq_true];rfl
  ·split
   ·exact ky r _ x e
   ·exact ky r cs x e
structure ko(X X':Cx)(scope:Scope)(N':List Str):Prop where
 P:X'.prog=X.prog
 w:X'.w=X.w
 K:X'.K=X.K
 mg:X'.mg=X.mg
 base:X'.base=X.base
 A:X'.A=X.A
 N:X'.N=N'
 sc:X'.env.scope=relabel scope X.env
 calm:X'.calm=true
 xe:X'.xe=λ_ _=>False
def HV(X:Cx)(ifs:List Expr)(t:TT):Prop:=∀(pins:List (Addr×Obj)) (s:Shared) (σ:St) (H:Hp) (Q:Bool->Hp->Prop),L2.Inv X pins σ H s->t σ H Q ->
 wpAny (model X.prog X.w) X.A (forIn ifs true λc r=>if r=true then do let ok <- isTrue c X.env (eval c X.env);pure (ForInStep.yield ok)else pure (ForInStep.yield r)) (TP X pins σ Q) X.xe s
theorem Kk{X:Cx}:HV X [] (λ_ H Q=>Q true H):=λpins s σ H Q I h=>wpAny_tests_nil ⟨H,I,h⟩
theorem Kl{X:Cx}{c:Expr}{t:TT}(h:PT X c t):HV X [c] t:=λpins s σ H Q I q=>wpAny_tests_one (h pins s σ H Q I q)
def ip(caps:List (Option Nat))(σ:St):St:=caps.map λc=>match c with
 | some j=>(σ[j]?).join
 | none=>none
def nr(wi:TI)(caps:List (Option Nat))(g:TG)(tc:TT)(te:TE):TE:=λσ H Q=>wi σ H λJ H1=>∀acc,H1 acc=none->∃W:Nat->Nat->St->Hp->Prop,(∃m,W 0 m (ip caps σ) (upd H1 acc (.lst [])))/\∀i m aw H,W i m aw H ->
 (J.stop i H/\Q (.ref acc) H)\/(J.go i H/\∀x H',J.VW i H x H'->g x aw H' λaO H2=>tc aO H2 λb H3=>if b=true then te aO H3 λv H4=>∃ys m',H4 acc=some (.lst ys)/\ys.length<sizeLine/\m'<m/\W (i+1) m' aO (upd H4 acc (.lst (ys++[v])))else∃m',m'<m/\W (i+1) m' aO H3)
theorem hJ{env:Env}:∀ {names:List (Str×NameKind)} {x:Str} {k:NameKind},(names.map λ(n,k)=>if(k==NameKind.free&&env.scope.kind==.function&&env.kindOf n==some .cell)then(n,NameKind.cell)else(n,k)).lookup x=some k ->
  names.lookup x=some k\/(k=.cell/\names.lookup x=some .free)
 | [],_,_,h=>by simp at h
 | (n,k')::r,x,k,h=>by
  have ih:=@hJ env r x k;have h:List.lookup x ((if(k'==NameKind.free&&env.scope.kind==.function&&env.kindOf n==some .cell)=true then(n,NameKind.cell)else(n,k'))::_)=some k:=h
  cases hx:x==n with
  | true =>
   by_cases hc:(k'==NameKind.free&&env.scope.kind==.function&&env.kindOf n==some .cell)=true
   ·rw[if_pos hc]at h
    simp only[List.lookup_cons,hx]at h ⊢;cases h;simp only[Bool.and_eq_true,beq_iff_eq]at hc;exact .inr ⟨rfl,by rw[hc.1.1]⟩
   ·rw[if_neg hc]at h
    simp only[List.lookup_cons,hx]at h ⊢;exact .inl h
  | false =>
   by_cases hc:(k'==NameKind.free&&env.scope.kind==.function&&env.kindOf n==some .cell)=true
   ·rw[if_pos hc]at h
    simp only[List.lookup_cons,hx]at h ⊢;exact ih h
   ·rw[if_neg hc]at h
    simp only[List.lookup_cons,hx]at h ⊢;exact ih h
theorem k7{env:Env}:∀ {names:List (Str×NameKind)} {x:Str},names.lookup x=some .free ->
  (names.map λ(n,k)=>if(k==NameKind.free&&env.scope.kind==.function&&env.kindOf n==some .cell)then(n,NameKind.cell)else(n,k)).lookup x=some .cell \/
  (names.map λ(n,k)=>if(k==NameKind.free&&env.scope.kind==.function&&env.kindOf n==some .cell)then(n,NameKind.cell)else(n,k)).lookup x=some .free
 | [],_,h=>by simp at h
 | (n,k')::r,x,h=>by
  have ih:=@k7 env r x;show List.lookup x ((if(k'==NameKind.free&&env.scope.kind==.function&&env.kindOf n==some .cell)=true then(n,NameKind.cell)else(n,k'))::_)=some .cell\/List.lookup x ((if(k'==NameKind.free&&env.scope.kind==.function&&env.kindOf n==some .cell)=true then(n,NameKind.cell)else(n,k'))::_)=some .free
  cases hx:x==n with
  | true =>
   simp only[List.lookup_cons,hx]at h
   by_cases hc:(k'==NameKind.free&&env.scope.kind==.function&&env.kindOf n==some .cell)=true
   ·rw[if_pos hc];left;simp only[List.lookup_cons,hx]
   ·rw[if_neg hc];right;simp only[List.lookup_cons,hx];exact h
  | false =>
   simp only[List.lookup_cons,hx]at h
   by_cases hc:(k'==NameKind.free&&env.scope.kind==.function&&env.kindOf n==some .cell)=true
   ·rw[if_pos hc];simp only[List.lookup_cons,hx];exact ih h
   ·rw[if_neg hc];simp only[List.lookup_cons,hx];exact ih h
structure iM(X:Cx)(scope:Scope)(N':List Str)(caps:List (Option Nat)):Prop where
 kind:scope.kind=.function
 pQ:∀y∈scope.names,y.2≠.cell
 names:∀y∈scope.names,y.2=.local->scope.names.lookup y.1=some .local
 free:∀y∈scope.names,y.2=.free->X.env.kindOf y.1=some .cell\/X.env.kindOf y.1=some .free
 len:caps.length=N'.length
 Vr:∀(i:Nat) (j:Nat),caps[i]?=some (some j)->∃x,N'[i]?=some x/\X.N[j]?=some x/\scope.names.lookup x=some .free
section
variable {X:Cx}{pins:List (Addr×Obj)}{σ:St}{H:Hp}{s:Shared}{elt target iter:Expr}{ifs:List Expr}{scope:Scope}{pos:Pos}{N':List Str}{caps:List (Option Nat)}
theorem iM.cells(SC:iM X scope N' caps)(ok:X.Ok):∀x∈scope.names,x.2=.free->∃c,X.env.cells.lookup x.1=some c:=λx hx hf=>ok.has x.1 (SC.free x hx hf)
def HX(X:Cx)(scope:Scope)(N':List Str)(bT:Shared)(mB:Hp)(C:Addr)(fp:List Addr):Cx:=
 {X with N:=N',bT:=bT,mB:=mB,env:=compEnvC scope (jX X.env scope.names []) C X.env,outer:=X.stack,ex:=fp,fn:=λ_=>false,calm:=true,pn:=[],xe:=λ_ _=>False}
theorem NZ(I:L2.Inv X pins σ H s)(SC:iM X scope N' caps)(hc:X.calm=true){fp:List Addr}(hf:∀b∈fp,jF X pins H b)(CB:∀b∈fp,b<s.heap.objs.size):(HX X scope N' s H s.heap.objs.size fp).Ok where
 mod:=I.ok.mod
 kind:=SC.kind
 glob:=I.ok.glob
 blt:=I.ok.blt
 above:=Nat.le_refl _
 inj:=λx y c h1 h2=>by
  have f:∀z,(jX X.env scope.names []).lookup z=some c->X.env.cells.lookup z=some c:=λz h=>by
   rcases cy scope.names [] z c (SC.cells I.ok) h with q|q
   ·exact q
   ·cases q
  exact I.ok.inj x y c (f x h1) (f y h2)
 has:=λx hx=>by
  have hx:(relabel scope X.env).names.lookup x=some .cell\/(relabel scope X.env).names.lookup x=some .free:=hx;have Am:scope.names.lookup x=some .free:=by
   rcases hx with hx|hx
   ·rcases hJ hx with q|⟨_,q⟩
    ·exact absurd rfl (SC.pQ _ (PySem.mem_of_lookup q))
    ·exact q
   ·rcases hJ hx with q|⟨q,_⟩
    ·exact q
    ·cases q
  exact Option.isSome_iff_exists.mp (ky scope.names [] x (PySem.mem_of_lookup Am))
 II:=λx c h=>by cases h
 hd:=λ_=>I.ok.hd hc
 frames:=I.ok.frames
 Mx:=.inl rfl
 Vv:=λb hb=>⟨Nat.ne_of_lt (CB b hb),λx c h=>by
  rcases cy scope.names [] x c (SC.cells I.ok) h with q|q
  ·exact(hf b hb).2.2.2.2.1 x c q
  ·cases q⟩
 bs:=I.bs
 yh:=Nat.le_trans I.ok.yh I.sz
 tS:=λb o e hb=>by
  rcases(hf b hb).2.2.2.1 with q|q
  ·exact I.ok.tS b o e q
  ·exact absurd (Nat.lt_of_lt_of_le (Heap.lt_size e) (Nat.le_trans I.ok.yh q)) (Nat.lt_irrefl _)
 vQ:=λb hb z=>by
  rcases List.mem_cons.mp (I.uY b z)with q|q
  ·exact(hf b hb).2.1 q
  ·exact(hf b hb).2.2.1 q
 iX:=I.stack
 Cz:=I.ml
theorem IQ(I:L2.Inv X pins σ H s)(SC:iM X scope N' caps)(hc:X.calm=true){fp:List Addr}(hf:∀b∈fp,jF X pins H b)(CB:∀b∈fp,b<s.heap.objs.size){h1:Heap}{t1:Nat}(hn:h1.Ns s.heap.objs.size (λ_=>none))(hk:∀b o,s.heap.get? b=some o->h1.get? b=some o):
  L2.Inv (HX X scope N' s H s.heap.objs.size fp) [] (ip caps σ) H {s with heap:=h1,toks:=t1} where
 ok:=NZ I SC hc hf CB
 os:=rfl
 bare:=I.bare
 base:=Un.kept hk
 loc:=by
  refine⟨_,hn,λi x v e1 e2 _=>?_⟩;have e2:(caps.map λc=>match c with|some j=>(σ[j]?).join|none=>none)[i]?=some (some v):=e2
  rw[List.getElem?_map]at e2;cases ec:caps[i]? with
  | none=>rw[ec]at e2;cases e2
  | some c =>
   rw[ec]at e2;cases c with
   | none=>cases e2
   | some j =>
    have e2:(σ[j]?).join=some v:=Option.some.inj e2;have e3:σ[j]?=some (some v):=by
     cases q:σ[j]? with
     | none=>rw[q]at e2;cases e2
     | some w =>
      rw[q]at e2;cases w with
      | none=>cases e2
      | some z=>cases e2;rfl
    obtain⟨y,w1,w2,w3⟩:=SC.Vr i j ec;have e1:N'[i]?=some x:=e1;rw[w1]at e1;cases e1;have X4:=SC.free (x,.free) (PySem.mem_of_lookup w3) rfl;obtain⟨m,hm,hl⟩:=I.loc;obtain⟨u,r,l⟩:=hl j x v w2 e3 (.inr X4);refine⟨u,r,?_⟩;rcases l with⟨k1,_⟩|⟨_,c,Jo,Ak⟩
    ·have X4:X.env.kindOf x=some .cell\/X.env.kindOf x=some .free:=X4
     rw[k1]at X4;rcases X4 with z|z<;>cases z
    ·right
     refine⟨k7 w3,c,?_,?_⟩
     ·obtain⟨c',e'⟩:=Option.isSome_iff_exists.mp (ky (env:=X.env) scope.names [] x (PySem.mem_of_lookup w3))
      rcases cy scope.names [] x c' (SC.cells I.ok) e' with q|q
      ·rw[Jo]at q;cases q
       exact e'
      ·cases q
     ·obtain⟨o,ho,hd⟩:=Ak
      exact⟨o,hk _ _ ho,hd⟩
 cell:=λx c h=>by
  rcases cy scope.names [] x c (SC.cells I.ok) h with q|q
  ·obtain⟨v,o,ho,hd⟩:=I.cell x c q
   exact⟨v,o,hk _ _ ho,hd⟩
  ·cases q
 free:=I.bc.fresh (Nat.le_refl _)
 d5:=λx c h=>by
  rcases cy scope.names [] x c (SC.cells I.ok) h with q|q
  ·exact I.d5 x c q
  ·cases q
 pin:=λp hp=>absurd (show p∈([]:List (Addr×Obj))from hp) (by simp)
 bc:=I.bc.kept hk
 len:=by
  show(caps.map _).length=N'.length;rw[List.length_map];exact SC.len
theorem vI(I:L2.Inv X pins σ H s)(SC:iM X scope N' caps)(hc:X.calm=true){it:Addr}{fp:List Addr}{tn:Nat->Heap->Prop}{J:It}(T:Turn X.prog X.w X.K target J fp it tn)(t0:tn 0 s.heap)(hf:∀b∈fp,jF X pins H b)
  {g:TG} {tc:TT} {te:TE} (PJ:∀X',ko X X' scope N'->PG X' target g/\HV X' ifs tc/\PE X' elt te) {Q:VK}
  (q:∀acc,H acc=none->∃W:Nat->Nat->St->Hp->Prop,(∃m,W 0 m (ip caps σ) (upd H acc (.lst [])))/\∀i m aw H,W i m aw H ->
   (J.stop i H/\Q (.ref acc) H)\/(J.go i H/\∀x H',J.VW i H x H'->g x aw H' λaO H2=>tc aO H2 λb H3=>if b=true then te aO H3 λv H4=>∃ys m',H4 acc=some (.lst ys)/\ys.length<sizeLine/\m'<m/\W (i+1) m' aO (upd H4 acc (.lst (ys++[v])))else∃m',m'<m/\W (i+1) m' aO H3))
  {E:Value->Shared->Prop} {RR:Value->Addr->Result->Shared->Prop}
  (hRR:∀acc C H' s',L2.Inv X pins σ H' s'->jF X pins H' C->(∃m,s'.heap.Ns C m)->Q (.ref acc) H'->RR (.ref acc) C (.ok .next) s'):
  wpAny (model X.prog X.w) X.A (newList []) (λacc xF=>wpAny (model X.prog X.w) X.A (newFunctionEnv scope X.env.globals (jX X.env scope.names []) [] X.env.qual none .none (some X.env)) (λWB KI =>
   codeAny (model X.prog X.w) X.A (.compStart (.ListComp elt [⟨target,iter,ifs,0⟩] scope pos) 0 (.ref it) acc {WB with scope:=relabel scope X.env}) (RR acc WB.locals) KI) E xF) E s:=by
 refine wpAny_newObj_type ?_;have iY:H s.heap.objs.size=none:=I.bc.fresh (Nat.le_refl _);have I3:L2.Inv X pins σ (upd H s.heap.objs.size (.lst [])) {s with heap:=s.heap.push {cls:=.type "list",dict:=none,data:=.seq ([]:List Value).toArray}}:=I.QP (t':=s.toks) (its:=[]) (ys:=[]) .nil (Nat.zero_le _)
 obtain⟨W,⟨m0,w0⟩,step⟩:=q _ iY;generalize hs3:({s with heap:=s.heap.push {cls:=.type "list",dict:=none,data:=.seq ([]:List Value).toArray}}:Shared)=s3 at I3 ⊢
 generalize hH3:upd H s.heap.objs.size (.lst [])=H3 at I3 w0;generalize XQ:s.heap.objs.size=acc at *;have up3:∀b o,s.heap.get? b=some o->s3.heap.get? b=some o:=λb o e=>by rw[<- hs3];exact Heap.get?_push_of_some _ e
 have XI:∀b∈fp,b<s3.heap.objs.size:=λb hb=>by
  obtain⟨o,e,_⟩:=T.obj 0 _ t0 b hb;exact Heap.lt_size (up3 b o e)
 have hf3:∀b∈fp,jF X pins H3 b:=λb hb=>by
  obtain⟨f0,f⟩:=hf b hb;refine⟨?_,f⟩;obtain⟨o,e,_⟩:=T.obj 0 _ t0 b hb;have:b≠acc:=by rw[<- XQ];exact Nat.ne_of_lt (Heap.lt_size e)
  rw[<- hH3,aq this];exact f0
 have t3:tn 0 s3.heap:=T.keep 0 _ _ t0 λb _ o e=>up3 b o e;refine wpAny_newFunctionEnv SC.pQ (by intro y hy;simp at hy) (λh1 X9 sb1=>?_) SC.kind
 have hk1:∀b o,s3.heap.get? b=some o->h1.get? b=some o:=λb o e=>sb1.extBut b o (Nat.ne_of_lt (Heap.lt_size e)) (Heap.get?_push_of_some _ e);have cx:ko X (HX X scope N' s3 H3 s3.heap.objs.size fp) scope N':=⟨rfl,rfl,rfl,rfl,rfl,rfl,rfl,rfl,rfl,rfl⟩;obtain⟨hg,ht,he⟩:=PJ _ cx;have abh:h1.Ns s3.heap.objs.size (λ_=>none):=by simpa using X9
 have fpB:∀ {H':Hp},(∀b∈fp,H' b=none)->∀b∈fp,jF (HX X scope N' s3 H3 s3.heap.objs.size fp) [] H' b:=λ{H'} hn b hb=>by
  obtain⟨f0,f1,f2,f3,f4,f5⟩:=hf3 b hb;refine⟨hn b hb,Nat.ne_of_lt (XI b hb),?_,.inl hb,λx c h=>?_,λp hp=>absurd (show p∈([]:List (Addr×Obj))from hp) (by simp)⟩
  ·intro z
   rcases List.mem_cons.mp (I3.uY b z)with q|q
   ·exact f1 q
   ·exact f2 q
  ·rcases cy scope.names [] x c (SC.cells I.ok) h with q|q
   ·exact f4 x c q
   ·cases q
 have loop:∀s4:Shared,L2.Inv (HX X scope N' s3 H3 s3.heap.objs.size fp) [] (ip caps σ) H3 s4->tn 0 s4.heap->codeAny (model X.prog X.w) X.A (.compLoop (.ListComp elt [⟨target,iter,ifs,0⟩] scope pos) 0 (.ref it) (.ref acc) (compEnvC scope (jX X.env scope.names []) s3.heap.objs.size X.env)) (RR (.ref acc) s3.heap.objs.size) s4:=by
  intro s4 I4 t4;refine sX (λn s'=>∃i aw H',L2.Inv (HX X scope N' s3 H3 s3.heap.objs.size fp) [] aw H' s'/\tn i s'.heap/\(∀b∈fp,H' b=none)/\W i n aw H') ?_ m0 ⟨0,_,H3,I4,t4,λb hb=>(hf3 b hb).1,w0⟩;rintro n s5 ⟨i,aw,H5,I5,VP,HY,w5⟩;rcases step i n aw H5 w5 with⟨stop,qn⟩|⟨go,body⟩
  ·refine ck (T.done (HX X scope N' s3 H3 s3.heap.objs.size fp) rfl rfl rfl rfl i [] s5 aw H5 _ I5 (fpB HY) VP stop) λr s6 ⟨hr,I6⟩=>?_
   subst hr;have u:=I6.base;refine hRR acc _ H5 s6 (I3.o5 (ch:=fp) I6.os u I6.bc I6.bare λb hb=>?_) (I3.ER (Nat.le_refl _) I6.free) ?_ qn
   ·obtain⟨f0,f1,f2,f3,f4,f5⟩:=hf3 b hb
    exact⟨f3.imp id λz=>Heap.get?_none_of_le z,f1,f4,f5⟩
   ·obtain⟨m,hm,_⟩:=I6.loc
    exact⟨m,hm⟩
  ·refine ck (T.item (HX X scope N' s3 H3 s3.heap.objs.size fp) rfl rfl rfl rfl i [] s5 aw H5 _ I5 (fpB HY) VP go) λr s6 ⟨u,hr,h6⟩=>?_
   subst hr;refine ck h6 λ_ s7 ⟨x,H7,I7,r7,y7,st7,fr7⟩=>?_;have I7':=I7.pinned (fpB fr7) (T.obj _ _ st7);have back:∀ {Ij:St} {H8:Hp} {s8:Shared},L2.Inv (HX X scope N' s3 H3 s3.heap.objs.size fp) ([]++m7 fp s7.heap) Ij H8 s8->L2.Inv (HX X scope N' s3 H3 s3.heap.objs.size fp) [] Ij H8 s8/\tn (i+1) s8.heap/\∀b∈fp,H8 b=none:=λ{Ij H8 s8} I8=>by
    refine⟨I8.jn,T.keep _ _ _ st7 λb hb o e=>(I8.pin (b,o) (List.mem_append_right _ (List.mem_append_right _ (fD hb e)))).1,λb hb=>?_⟩;obtain⟨o,e,d⟩:=T.obj _ _ st7 b hb;exact(I8.pin (b,o) (List.mem_append_right _ (List.mem_append_right _ (fD hb e)))).2.1
   refine ck (hg _ s7 aw H7 x u _ I7' r7 (body x H7 y7)) λ_ s8 ⟨Ij,H8,I8,q8⟩=>?_;refine ck (ht _ s8 Ij H8 _ I8 q8) λb s9 ⟨H9,I9,q9⟩=>?_;cases b with
   | false =>
    obtain⟨m',hm,w9⟩:=q9;obtain⟨J1,J2,J3⟩:=back I9;exact⟨m',hm,i+1,Ij,H9,J1,J2,J3,w9⟩
   | true =>
    refine ck (he _ s9 Ij H9 _ I9 q9) λy s10 ⟨v,H10,I10,r10,ys,m',e10,hz,hm,w10⟩=>?_;refine ck (rZ _ s10 Ij H10 (.ref acc) [v] (.ref acc) [y] (λz H11=>z=.aU/\W (i+1) m' Ij H11) I10 rfl (.cons r10 .nil) ⟨acc,ys,v,rfl,rfl,e10,hz,rfl,w10⟩) λ_ s11 ⟨_,H11,I11,_,_,w11⟩=>?_;obtain⟨J1,J2,J3⟩:=back I11;exact⟨m',hm,i+1,Ij,H11,J1,J2,J3,w11⟩
 have I4:=IQ (caps:=caps) (N':=N') I3 SC hc hf3 XI (t1:=s3.toks+([]:List (Str×Value)).length) abh hk1;have t4:tn 0 h1:=T.keep 0 _ _ t3 λb _ o e=>hk1 b o e;exact codeAny_compStart_list (loop _ I4 t4) (T.self X.A 0 _ _ _ t4 (loop _ I4 t4))
end
end Vc
namespace Vc
open PySem L2
variable [KF]
section
variable {X:Cx}{elt target iter:Expr}{ifs:List Expr}{scope:Scope}{pos:Pos}{N':List Str}{caps:List (Option Nat)}{wi:TI}{g:TG}{tc:TT}{te:TE}
theorem Ah{pins:List (Addr×Obj)}{σ:St}{H:Hp}{s:Shared}{C:Addr}{h':Heap}(f:jF X pins H C)(I:L2.Inv X pins σ H s)(hs:Heap.SameBut C s.heap h'):L2.Inv X pins σ H {s with heap:=h'}:=by
 obtain⟨f0,f1,f2,f3,f4,f5⟩:=f;exact I.turned (t':=s.toks) (λb o hb e=>hs.extBut b o hb e) f0 f1 f3 f4 f5
theorem oO(hc:X.calm=true)(hi:PI X target iter wi)(SC:iM X scope N' caps)(PJ:∀X',ko X X' scope N'->PG X' target g/\HV X' ifs tc/\PE X' elt te)(hs:∀x,foldedSetIterable iter X.env x=pure x):
  PE X (.ListComp elt [⟨target,iter,ifs,0⟩] scope pos) (nr wi caps g tc te):=by
 intro pins s σ H Q I h;rw[eval_ListComp];refine wpAny_comprehension_free (use:=none) rfl hs (o6 (SC.cells I.ok)) SC.kind SC.names (ck (hi pins s σ H _ I h) λv s1 h1=>ck h1 λitv s2 h2=>?_);obtain⟨it,fp,tn,J,H2,rfl,I2,T,t0,f2,q2⟩:=h2;exact vI I2 SC hc T t0 f2 PJ q2 (RR:=λacc C=>compPost (model X.prog X.w) X.A X.xe none (EP X pins σ Q) acc C) λacc C H' s' I' f' ⟨m,hm⟩ q'=>⟨m,hm,λh' hs'=>⟨.ref acc,H',Ah f' I' hs',rfl,q'⟩⟩
theorem AW{i:Nat}{y:Str}{py iC:Pos}(hc:X.calm=true)(hi:PI X target iter wi)(SC:iM X scope N' caps)(PJ:∀X',ko X X' scope N'->PG X' target g/\HV X' ifs tc/\PE X' elt te)(hs:∀x,foldedSetIterable iter X.env x=pure x)
  (hN:X.N.Nodup) (hy:X.N[i]?=some y) (hx:X.env.scope.names.lookup y=some .local) (hsw:swapsWith (.ListComp elt [⟨target,iter,ifs,0⟩] scope pos) (some (.Name y py)) iC.line X.env=pure true):
  PS X (.Assign [.Name y py] (.ListComp elt [⟨target,iter,ifs,0⟩] scope pos) iC) (G5 (nr wi caps g tc te) (px i)):=by
 intro pins s σ H D I h;rw[exec_Assign_Name_used _ _ _ _ hsw];refine wpAny_bind (wpAny_standAt (wpAny_bind ?_));show wpAny _ X.A (do let _ <- comprehension (.ListComp elt [⟨target,iter,ifs,0⟩] scope pos) scope X.env _ (newList []) false (eval iter X.env) (some (assign (.Name y py) X.env))) _ _ s
 refine wpAny_bind (wpAny_mono (wpAny_comprehension_free (use:=some (assign (.Name y py) X.env)) (Q:=λ_ s'=>SP X pins D .next s') rfl hs (o6 (SC.cells I.ok)) SC.kind SC.names (ck (hi pins s σ H _ I h) λv s1 h1=>ck h1 λitv s2 h2=>?_))
  (λ_ s' hq=>wpAny_pure (wpAny_pure hq)) λ_ _ e=>e)
 obtain⟨it,fp,tn,J,H2,rfl,I2,T,t0,f2,q2⟩:=h2;refine vI (Q:=λx H1=>px i x σ H1 D.nx) I2 SC hc T t0 f2 PJ q2 (RR:=λacc C=>compPost (model X.prog X.w) X.A X.xe (some (assign (.Name y py) X.env)) (λ_ s'=>SP X pins D .next s') acc C) λacc C H' s' I' f' ⟨m,hm⟩ q'=>?_;show wpAny _ X.A (assign (.Name y py) X.env (.ref acc)) _ _ s';obtain⟨o,es,ep,ho,hd,r⟩:=id hm;have Ip:L2.Inv X (pins++m7 [C] s'.heap) σ H' s':=I'.pinned (fp:=[C]) (λb hb=>(show b=C by simpa using hb) ▸ f') (λb hb=>by
  have e:b=C:=by simpa using hb
  subst e;exact⟨o,ho,λv z=>by rw[hd]at z;cases z⟩)
 refine wpAny_assign_Name (mn Ip hN hy (.inl hx) (show RelV (.ref acc) (.ref acc)from rfl) (λs'' I''=>?_) (.inr hx))
 have hC:s''.heap.get? C=some o:=(I''.pin (C,o) (List.mem_append_right _ (List.mem_append_right _ (fD (by simp) ho)))).1
 exact⟨m,⟨o,es,ep,hC,hd,r⟩,λh' hs'=>⟨_,H',Ah f' I''.jn hs',q'⟩⟩
end
variable {G:GE}{k:Nat}{S:Stat}
def k6(names sc:List (Str×NameKind)):List (Str×NameKind):=names.map λ(n,k)=>if(k==.free&&sc.lookup n==some .cell)then(n,.cell)else(n,k)
def aQ(S:Stat)(scope:Scope)(N':List Str):Stat:=⟨N',k6 scope.names S.sc,[],true,false,false,λ_ _=>False⟩
structure jL(S:Stat)(scope:Scope)(N':List Str)(caps:List (Option Nat)):Prop where
 kind:scope.kind=.function
 nd:N'.Nodup
 pQ:scope.names.all (λy=>y.2 != .cell)=true
 names:scope.names.all (λy=>y.2 != .local||scope.names.lookup y.1==some .local)=true
 free:scope.names.all (λy=>y.2 != .free||S.sc.lookup y.1==some .cell||S.sc.lookup y.1==some .free)=true
 len:caps.length=N'.length
 Vr:(caps.zip N').all (λp=>match p.1 with|some j=>S.N[j]?==some p.2&&scope.names.lookup p.2==some .free|none=>true)=true
theorem jL.sc{scope:Scope}{N':List Str}{caps:List (Option Nat)}(b:jL S scope N' caps){X:Cx}{Y:bB}(ok:d8 X G k S Y):iM X scope N' caps where
 kind:=b.kind
 pQ:=λy hy z=>by
  have:=List.all_eq_true.mp b.pQ y hy;rw[z]at this;cases this
 names:=λy hy z=>by
  have:=List.all_eq_true.mp b.names y hy;rw[z]at this;simpa using this
 free:=λy hy z=>by
  have:=List.all_eq_true.mp b.free y hy;rw[z]at this;have kd:X.env.kindOf y.1=S.sc.lookup y.1:=by
   show X.env.scope.names.lookup y.1=_;rw[ok.sc]
  rw[kd];simpa using this
 len:=b.len
 Vr:=λi j e=>by
  have hl:i<caps.length:=(List.getElem?_eq_some_iff.mp e).1;have hl':i<N'.length:=by rw[<- b.len];exact hl
  have hz:(caps.zip N')[i]?=some (some j,N'[i]):=by
   rw[List.getElem?_zip_eq_some];exact⟨e,by rw[List.getElem?_eq_getElem hl']⟩
  have:=List.all_eq_true.mp b.Vr _ (List.mem_of_getElem? hz);simp only[Bool.and_eq_true,beq_iff_eq]at this;exact⟨N'[i],by rw[List.getElem?_eq_getElem hl'],by rw[ok.N];exact this.1,this.2⟩
theorem fo{X X':Cx}{Y:bB}{scope:Scope}{N':List Str}{caps:List (Option Nat)}(hh:S.jG=false)(ok:d8 X G k S Y)(b:jL S scope N' caps)(c:ko X X' scope N')(Y':bB)(cP:Y'.io=[]):d8 X' G k (aQ S scope N') Y' where
 P:=c.P.trans ok.P
 w:=c.w.trans ok.w
 K:=c.K.trans ok.K
 kf:=c.K.trans ok.kf
 mg:=c.mg.trans ok.mg
 obs:=λh=>nomatch h
 base:=c.base.trans ok.base
 N:=c.N
 sc:=by
  rw[c.sc];show scope.names.map _=k6 scope.names S.sc;unfold k6;refine List.map_congr_left λy _=>?_;obtain⟨n,kk⟩:=y;have kd:X.env.kindOf n=S.sc.lookup n:=by
   show X.env.scope.names.lookup n=_;rw[ok.sc]
  simp only[ok.kind,kd,beq_self_eq_true,Bool.and_true]
 nd:=b.nd
 ios:=λp hp=>by rw[cP]at hp;cases hp
 calm:=λ_=>c.calm
 kind:=by rw[c.sc];exact b.kind
 fn:=λh=>by cases h
 hd:=λ_=>by rw[c.A];exact ok.hd hh
 dp:=by rw[c.A];exact ok.dp
 un:=by rw[c.A];exact ok.un
 po:=λ_=>by rw[c.xe];exact PassesOwn.never
 nx:=λh=>nomatch h
 exc:=λ_ _ h=>h.elim
 made:=λh=>nomatch h
def mW:Sd->Sd->Prop
 | [],[]=>True
 | none::r,_::s=>mW r s
 | some b::r,c::s=>c=some b/\mW r s
 | _,_=>False
theorem oI:∀ {a b:Sd} {i:Nat} {x:B},mW a b->a[i]?=some (some x)->b[i]?=some (some x)
 | [],[],_,_,_,e=>by simp at e
 | none::r,c::s,0,_,h,e=>by simp at e
 | none::r,c::s,i+1,x,h,e=>by
  have h:mW r s:=h;simpa using oI (i:=i) h (by simpa using e)
 | some b::r,c::s,0,x,h,e=>by
  obtain⟨h1,h2⟩:c=some b/\mW r s:=h;simp at e;subst e;simp [h1]
 | some b::r,c::s,i+1,x,h,e=>by
  obtain⟨h1,h2⟩:c=some b/\mW r s:=h;simpa using oI (i:=i) h2 (by simpa using e)
 | [],_::_,_,_,h,_=>h.elim
 | none::_,[],_,_,h,_=>h.elim
 | some _::_,[],_,_,h,_=>h.elim
theorem oJ:∀ {a b:Sd},mW a b->a.length=b.length
 | [],[],_=>rfl
 | none::r,c::s,h=>by
  have h:mW r s:=h;simp [oJ h]
 | some b::r,c::s,h=>by
  obtain⟨_,h2⟩:c=some b/\mW r s:=h;simp [oJ h2]
 | [],_::_,h=>h.elim
 | none::_,[],h=>h.elim
 | some _::_,[],h=>h.elim
def wu(ios:List Nat):List (Option Nat)->Sd->(Sd->Prop)->Prop
 | [],σ,Q=>Q σ
 | none::r,σ,Q=>wu ios r σ Q
 | some j::r,σ,Q=>match σ[j]? with
  | some (some (.own xs))=>j∉ios/\wu ios r (σ.set j (some (.sh (.lst xs)))) Q
  | _=>wu ios r σ Q
def eI(caps:List (Option Nat))(σ:Sd):Sd:=caps.map λc=>match c with
 | some j=>match σ[j]? with
  | some (some (.sh d))=>some (.sh d)
  | _=>none
 | none=>none
def iq(g:nX)(tc:TB)(te:TD)(σ0:Sd):List D->List D->(List D->Prop)->Prop
 | [],acc,Q=>Q acc
 | x::xs,acc,Q=>g x σ0 λaw=>tc aw λb aO=>if b=true then te aO λd fe=>mW σ0 fe/\acc.length<sizeLine/\iq g tc te σ0 xs (acc++[d]) Q else mW σ0 aO/\iq g tc te σ0 xs acc Q
def d7(ios:List Nat)(caps:List (Option Nat))(ti:eU)(g:nX)(tc:TB)(te:TD):TX:=λσ Q=>ti σ λitems aw=>wu ios caps aw λaO=>iq g tc te (eI caps aO) items [] λds=>Q (.own ds) aO
theorem fq{ios:List Nat}{Y:bB}(cP:∀p∈Y.io,p.1∈ios):∀ {caps:List (Option Nat)} {F:Hp} {aj:Sd} {σ:St} {H:Hp} {Q:Sd->Prop},RS Y F aj σ H->wu ios caps aj Q->∃F' aG,au F F'/\RS Y F' aG σ H/\Q aG
 | [],F,aj,σ,H,Q,R,q=>⟨F,aj,au.refl _,R,q⟩
 | none::r,F,aj,σ,H,Q,R,q=>fq cP (caps:=r) R q
 | some j::r,F,aj,σ,H,Q,R,q=>by
  unfold wu at q
  split at q
  ·rename_i xs e
   obtain⟨F2,v2,s2,R2,e2,r2⟩:=R.mP e λp hp z=>q.1 (z ▸ cP p hp);obtain⟨F3,fe,s3,R3,q3⟩:=fq cP (caps:=r) R2 q.2;exact⟨F3,fe,s2.trans s3,R3,q3⟩
  ·exact fq cP (caps:=r) R q
theorem cD(caps:List (Option Nat))(aj:Sd):∀(i:Nat) (o:O),(eI caps aj)[i]?≠some (some (.obj o)):=λi o e=>by
 unfold eI at e;rw[List.getElem?_map]at e;cases ec:caps[i]? with
 | none=>rw[ec]at e;cases e
 | some c =>
  rw[ec]at e;cases c with
  | none=>cases e
  | some j =>
   have e:(match aj[j]? with|some (some (.sh d))=>some (B.sh d)|_=>none)=some (.obj o):=Option.some.inj e
   split at e<;>cases e
theorem sV{Y:bB}{F:Hp}{aj:Sd}{σ:St}{H:Hp}(R:RS Y F aj σ H)(caps:List (Option Nat)){F' H':Hp}(s1:au F F')(s2:au F' H'):RS ⟨H',F',[],[]⟩ F' (eI caps aj) (ip caps σ) H' where
 len:=by unfold eI ip;simp
 lo:=au.refl _
 fr:=s2
 eJ:=λb o e=>.inl e
 old:=λb o e _=>e
 sh:=λi d e=>by
  unfold eI at e;rw[List.getElem?_map]at e;unfold ip;rw[List.getElem?_map];cases ec:caps[i]? with
  | none=>rw[ec]at e;cases e
  | some c =>
   rw[ec]at e;cases c with
   | none=>cases e
   | some j =>
    have e:(match aj[j]? with|some (some (.sh d))=>some (B.sh d)|_=>none)=some (.sh d):=Option.some.inj e
    split at e
    ·rename_i d' q
     cases e;obtain⟨v,h1,h2⟩:=R.sh j d q;exact⟨v,by show some ((σ[j]?).join)=_;rw[h1];rfl,h2.mono s1⟩
    ·cases e
 own:=λi xs e=>by
  unfold eI at e;rw[List.getElem?_map]at e;cases ec:caps[i]? with
  | none=>rw[ec]at e;cases e
  | some c =>
   rw[ec]at e;cases c with
   | none=>cases e
   | some j =>
    have e:(match aj[j]? with|some (some (.sh d))=>some (B.sh d)|_=>none)=some (.own xs):=Option.some.inj e
    split at e<;>cases e
 dis:=λi j xs ys a e=>by
  exfalso;unfold eI at e;rw[List.getElem?_map]at e;cases ec:caps[i]? with
  | none=>rw[ec]at e;cases e
  | some c =>
   rw[ec]at e;cases c with
   | none=>cases e
   | some j =>
    have e:(match aj[j]? with|some (some (.sh d))=>some (B.sh d)|_=>none)=some (.own xs):=Option.some.inj e
    split at e<;>cases e
 io:=λp hp=>by cases hp
 ob:=.none (cD _ _) (R.ob.tab.mono s1) λb hb=>by cases hb
theorem RS.less{Y:bB}{F:Hp}{σ0 aj:Sd}{σ:St}{H:Hp}(R:RS Y F aj σ H)(l:mW σ0 aj)(wY:∀(i:Nat) (xs:List D),σ0[i]?≠some (some (.own xs)))(FX:∀(i:Nat) (o:O),σ0[i]?≠some (some (.obj o))){H':Hp}(s:au F H'):RS ⟨H',F,[],[]⟩ F σ0 σ H' where
 len:=(oJ l).trans R.len
 lo:=au.refl _
 fr:=s
 eJ:=λb o e=>.inl e
 old:=λb o e _=>e
 sh:=λi d e=>R.sh i d (oI l e)
 own:=λi xs e=>absurd e (wY i xs)
 dis:=λi j xs ys a e=>absurd e (wY i xs)
 io:=λp hp=>by cases hp
 ob:=.none FX R.ob.tab λb hb=>by cases hb
theorem cE(caps:List (Option Nat))(aj:Sd):∀(i:Nat) (xs:List D),(eI caps aj)[i]?≠some (some (.own xs)):=λi xs e=>by
 unfold eI at e;rw[List.getElem?_map]at e;cases ec:caps[i]? with
 | none=>rw[ec]at e;cases e
 | some c =>
  rw[ec]at e;cases c with
  | none=>cases e
  | some j =>
   have e:(match aj[j]? with|some (some (.sh d))=>some (B.sh d)|_=>none)=some (.own xs):=Option.some.inj e
   split at e<;>cases e
theorem gw:∀a:Sd,mW a a
 | []=>trivial
 | none::r=>gw r
 | some b::r=>⟨rfl,gw r⟩
theorem RS.other{Y:bB}{F:Hp}{aj:Sd}{σ:St}{H:Hp}{a:Addr}{o:HO}(R:RS Y F aj σ H)(h1:F a=none)(h2:Y.H0 a=none)(h3:dC aj σ a):RS Y F aj σ (upd H a o) where
 len:=R.len
 lo:=R.lo
 fr:=λb u e=>by
  have:b≠a:=λz=>by rw[z,h1]at e;cases e
  rw[aq this];exact R.fr b u e
 eJ:=R.eJ
 old:=λb u e n=>by
  have:b≠a:=λz=>by rw[z,h2]at e;cases e
  rw[aq this];exact R.old b u e n
 sh:=R.sh
 own:=λi xs e=>by
  obtain⟨b,vs,w1,w2,w3⟩:=R.own i xs e;have:b≠a:=λz=>h3 i xs e (by rw[w1,z])
  exact⟨b,vs,w1,by rw[aq this];exact w2,w3⟩
 dis:=R.dis
 io:=R.io
 ob:=R.ob.step (au.refl _) (λ_ _ e=>⟨e,rfl⟩) (λb hb=>by
  obtain⟨w1,w2,w3⟩:=R.ob.owned hb;have cT:b≠a:=λz=>h3.QW (z ▸ hb);exact⟨aq cT,w1,w3⟩) R.ob.gj λb hb=>by
  by_cases cT:b=a
  ·rw[cT,aA];exactλz=>nomatch z
  ·rw[aq cT];exact R.ob.there b hb
def lGe(g:nX):TG:=λv σ H Q=>∃Y:bB,Y.io=[]/\lG Y g v σ H Q
def lBe(t:TB):TT:=λσ H Q=>∃Y:bB,Y.io=[]/\lB Y t σ H Q
def lDe(t:TD):TE:=λσ H Q=>∃Y:bB,Y.io=[]/\lD Y t σ H Q
structure Il(G:GE)(k:Nat)(S:Stat)(ifs:List Expr)(t:TB) :Prop where
 run:∀X Y,d8 X G k S Y->HV X ifs (lB Y t)
instance {G:GE} {k:Nat} {S:Stat} {ifs:List Expr} {t:TB} :CoeFun (Il G k S ifs t) λ_=>∀X Y,d8 X G k S Y->HV X ifs (lB Y t):=⟨Il.run⟩
def dj:TB:=λσ Q=>Q true σ
theorem il:Il G k S [] dj:=.mk λX Y ok pins s σ H Q I q=>Kk pins s σ H Q I (by
 obtain⟨F,aj,Qd,R,q,K⟩:=q;exact K true H F aj (au.refl _) R q)
theorem zO{c:Expr}{t:TB}(h:EB G k S c t):Il G k S [c] t:=.mk λX Y ok=>Kl (h X Y ok)
section
variable {elt target iter:Expr}{ifs:List Expr}{scope:Scope}{pos:Pos}{N':List Str}{caps:List (Option Nat)}{ti:eU}{g:nX}{tc:TB}{te:TD}
theorem sY{X:Cx}{Y:bB}(hh:S.jG=false)(ok:d8 X G k S Y)(b:jL S scope N' caps)(hg:EG G k (aQ S scope N') target g)(ht:Il G k (aQ S scope N') ifs tc)(he:ED G k (aQ S scope N') elt te):
  ∀X',ko X X' scope N'->PG X' target (lGe g)/\HV X' ifs (lBe tc)/\PE X' elt (lDe te):=λX' c =>
 ⟨λpins s σ H v u Q I r ⟨Y',cP,q⟩=>hg X' Y' (fo hh ok b c Y' cP) pins s σ H v u Q I r q,λpins s σ H Q I ⟨Y',cP,q⟩=>ht X' Y' (fo hh ok b c Y' cP) pins s σ H Q I q,λpins s σ H Q I ⟨Y',cP,q⟩=>he X' Y' (fo hh ok b c Y' cP) pins s σ H Q I q⟩
theorem o7{Y:bB}{ios:List Nat}(cP:∀p∈Y.io,p.1∈ios){σ:St}{H:Hp}{Q:VK}(q:lX Y (d7 ios caps ti g tc te) σ H Q):nr (lI Y ti) caps (lGe g) (lBe tc) (lDe te) σ H Q:=by
 obtain⟨F,aj,Qd,R,q,K⟩:=q;refine⟨F,aj,_,R,q,λH1 F1 xR J items s1 R1 it q1 acc iY=>?_⟩;obtain⟨F2,cu,s2,R2,q2⟩:=fq cP R1 q1;have it2:=it.mono s2;have a0:Y.H0 acc=none:=(R2.bg iY).1;have aF:F2 acc=none:=same_none R2.fr iY;have aN:dC cu σ acc:=R2.cg iY;have sw:∀ {F5 H5:Hp} {o:HO},au F5 H5->F5 acc=none->au F5 (upd H5 acc o):=λ{F5 H5 o} s5 h b u e=>by
  have:b≠acc:=λz=>by rw[z,h]at e;cases e
  rw[aq this];exact s5 b u e
 refine⟨λi m aw H'=>∃Fi ds ys,au F2 Fi/\RS Y Fi cu σ H'/\H' acc=some (.lst ys)/\aE Fi ys ds/\Fi acc=none/\RS ⟨H',Fi,[],[]⟩ Fi (eI caps cu) aw H'/\iq g tc te (eI caps cu) (items.drop i) ds (λds=>Qd (.own ds) cu)/\m=items.length-i/\i<=items.length,
  ⟨items.length,F2,[],[],au.refl _,R2.other aF a0 aN,aA,.nil,aF,sV R2 caps (au.refl _) (sw R2.fr aF),q2,rfl,Nat.zero_le _⟩,?_⟩
 rintro i m aw Hi ⟨Fi,ds,ys,si,Ri,gk,ri,fi,Wg,qi,rfl,hi⟩;have FA:=it2 Fi Hi si Ri.fr i
 by_cases hl:i<items.length
 ·right
  have hd:items.drop i=items[i]::items.drop (i+1):=by rw[List.drop_eq_getElem_cons hl]
  rw[hd]at qi;obtain⟨go,yl⟩:=FA.1 items[i] (by rw[List.getElem?_eq_getElem hl])
  refine⟨go,λv H' y=>?_⟩;obtain⟨F3,gr,rep⟩:=yl v H' y;have sF:au Fi F3:=gr.same Ri.fr;have R3:=gr.rs Wg;have Wf:RS ⟨H',F3,[],[]⟩ F3 (eI caps cu) aw H':=R3.less (gw _) (cE _ _) (cD _ _) R3.fr;have sH:au Hi H':=by
   rcases gr with⟨_,rfl⟩|⟨p,o,hp,_,rfl⟩
   ·exact au.refl _
   ·exact aK hp
  have Jl:∀c o,F3 c=some o->Fi c=some o\/Nw Hi c o:=λc o e=>by
   rcases gr with⟨rfl,_⟩|⟨p,o',hp,rfl,_⟩
   ·exact .inl e
   ·by_cases hc:c=p
    ·subst hc;exact .inr (.inl hp)
    ·rw[aq hc]at e;exact .inl e
  -- behind the turn
  have back:∀ {F5 H5:Hp} {qw:Sd} {VX:St},au F3 F5->RS ⟨H',F3,[],[]⟩ F5 qw VX H5->RS Y F5 cu σ H5/\H5 acc=some (.lst ys)/\F5 acc=none/\au Fi F5:=λ{F5 H5 qw VX} s5 R5=>by
   have Cj:au Hi H5:=sH.trans λb o e=>R5.old b o e (by simp [bB.vk])
   have HY:∀c o,F5 c=some o->Fi c=some o\/Nw Hi c o:=λc o e=>by
    rcases R5.eJ c o e with z|z
    ·exact Jl c o z
    ·exact .inr (z.imp sH.free id)
   refine⟨Ri.call (sF.trans s5) R5.fr Cj HY,Cj _ _ gk,?_,sF.trans s5⟩;cases e:F5 acc with
   | none=>rfl
   | some o =>
    rcases HY acc o e with z|z
    ·rw[fi]at z;cases z
    ·rcases z with z|⟨ws,rfl⟩
     ·rw[gk]at z;cases z
     ·have y:=R5.fr acc _ e;rw[Cj _ _ gk]at y;cases y
  refine⟨⟨H',F3,[],[]⟩,rfl,F3,_,items[i],_,Wf,rep,qi,λsv H4 F4 fK s4 R4 q4=>?_⟩;refine⟨⟨H',F3,[],[]⟩,rfl,F4,fK,_,R4,q4,λb H5 F5 qw s5 R5 q5=>?_⟩;cases b with
  | false =>
   obtain⟨le,q5⟩:=q5;obtain⟨w1,w2,w3,w4⟩:=back (s4.trans s5) R5;exact⟨items.length-(i+1),by omega,F5,ds,ys,si.trans w4,w1,w2,ri.mono w4,w3,R5.less le (cE _ _) (cD _ _) R5.fr,q5,rfl,hl⟩
  | true =>
   refine⟨⟨H',F3,[],[]⟩,rfl,F5,qw,_,R5,q5,λv6 H6 F6 d aaL s6 R6 r6 q6=>?_⟩;obtain⟨le,hz,q6⟩:=q6;obtain⟨w1,w2,w3,w4⟩:=back ((s4.trans s5).trans s6) R6;exact⟨ys,items.length-(i+1),w2,by rw[ri.length];exact hz,by omega,F6,ds++[d],ys++[v6],si.trans w4,w1.other w3 a0 aN,aA,(ri.mono w4).append (.cons r6 .nil),w3,R6.less le (cE _ _) (cD _ _) (sw R6.fr w3),q6,rfl,hl⟩
 ·left
  have e:i=items.length:=by omega
  subst e;rw[List.drop_length]at qi;exact⟨FA.2 rfl,K _ Hi Fi (.own ds) cu ((s1.trans s2).trans si) Ri ⟨acc,ys,rfl,gk,ri,fi,a0,aN⟩ qi⟩
theorem fG(hi:EI G k S target iter ti)(b:jL S scope N' caps)(hg:EG G k (aQ S scope N') target g)(ht:Il G k (aQ S scope N') ifs tc)(he:ED G k (aQ S scope N') elt te)(hs:∀env x,foldedSetIterable iter env x=pure x:=by intro _ _;rfl)(hh:S.jG=false:=by rfl):
  EX G k S (.ListComp elt [⟨target,iter,ifs,0⟩] scope pos) (d7 S.ios caps ti g tc te):=.mk λX Y ok =>
 aV (oO (ok.calm hh) (hi X Y ok) (b.sc ok) (sY hh ok b hg ht he) (hs _)) λσ H Q q=>o7 ok.ios q
theorem GJ(i:Nat){y:Str}{py iC:Pos}(hi:EI G k S target iter ti)(b:jL S scope N' caps)(hg:EG G k (aQ S scope N') target g)(ht:Il G k (aQ S scope N') ifs tc)(he:ED G k (aQ S scope N') elt te)
  (hy:S.N[i]?=some y:=by rfl) (hx:S.sc.lookup y=some .local\/(S.sc.lookup y=some .cell/\S.qA=false):=by first|exact Or.inl rfl|exact Or.inr ⟨rfl,rfl⟩) (hn:i∉S.ios:=by first|decide|exact List.not_mem_nil | (dsimp only;decide)) (hl:(py.line==pos.line)=true:=by rfl) (hsn:(scope.names.any λ(n,k)=>n==y&&(k==.local||k==.cell))=false:=by decide +kernel)
  (hs:∀env x,foldedSetIterable iter env x=pure x:=by intro _ _;rfl) (hh:S.jG=false:=by rfl):ES G k S (.Assign [.Name y py] (.ListComp elt [⟨target,iter,ifs,0⟩] scope pos) iC) (dw S.ios i (d7 S.ios caps ti g tc te)):=.mk λX Y ok=>by
 have sw:swapsWith (.ListComp elt [⟨target,iter,ifs,0⟩] scope pos) (some (.Name y py)) iC.line X.env=pure (S.sc.lookup y==some .local):=by
  have e:swapsWith (.ListComp elt [⟨target,iter,ifs,0⟩] scope pos) (some (.Name y py)) iC.line X.env=pure (X.env.blockKind==.function&&X.env.kindOf y==some .local&&py.line==pos.line&&!(scope.names.any λ(n,k)=>n==y&&(k==.local||k==.cell))):=rfl
  have kb:X.env.blockKind=.function:=by unfold Env.blockKind;rw[ok.kind];rfl
  have kd:X.env.kindOf y=S.sc.lookup y:=by
   show X.env.scope.names.lookup y=_;rw[ok.sc]
  rw[e,kb,kd,hl,hsn];simp
 have fin:∀Dn σ H,lS Y (dw S.ios i (d7 S.ios caps ti g tc te)) Dn σ H->G5 (nr (lI Y ti) caps (lGe g) (lBe tc) (lDe te)) (px i) Dn σ H:=λDn σ H q=>by
  obtain⟨F,aj,De,R,q,K⟩:=q;refine o7 ok.ios ⟨F,aj,_,R,q,λv H1 F1 y aw s1 R1 r1 q1=>?_⟩;obtain⟨F2,aO,s2,R2,q2⟩:=nj R1 r1 hn ok.ios q1;exact K.nx _ H1 F2 aO (s1.trans s2) R2 q2
 rcases hx with hx|hx
 ·refine cG (AW (i:=i) (ok.calm hh) (hi X Y ok) (b.sc ok) (sY hh ok b hg ht he) (hs _) (by rw[ok.N];exact ok.nd) (by rw[ok.N];exact hy) (by rw[ok.sc];exact hx) (by rw[sw,hx];rfl)) fin
 ·refine cG (L2.yJ (i:=i) (by rw[ok.N];exact ok.nd) (by rw[ok.N];exact hy) (mZ ok (.inr hx)) (oO (ok.calm hh) (hi X Y ok) (b.sc ok) (sY hh ok b hg ht he) (hs _)) (by rw[sw,hx.1];rfl) (mO ok (.inr hx))) fin
end
end Vc
namespace Vc
open PySem L2
variable [KF]
section
variable {prog:Program}{w:World}{A:Around}{E:Value->Shared->Prop}{s:Shared}
theorem En{j t:Addr}{i:Nat}{xs:Array Value}{x:Value}{Q:Value->Shared->Prop}(hj:s.heap.IsTupleIter j t i)(ht:s.heap.IsTuple t xs)(hx:xs[i]?=some x)
  (q:∀g,g.IsTupleIter j t (i+1)->Heap.SameBut j s.heap g->Q x {s with heap:=g}):wpAny (model prog w) A (Builtin.SmallTypes.nextOf (.ref j)) Q E s:=by
 obtain⟨ob,h1,h2,h3⟩:=id hj;obtain⟨ot,h4,_,nt,h5⟩:=ht;unfold Builtin.SmallTypes.nextOf;refine wpAny_bind (wpAny_callSpecial?_slot (name:=Str.ofString "__next__") hj.typeIs F.slot_tuple_iterator_next (wpAny_call_entry F.slot_tuple_iterator_next hj.typeIs F.entry_tuple_iterator_next ?_ (F.args_tuple_iterator_next_1 _)));show wpAny _ _ (field (.ref j) 0 >>= _) _ _ s;refine wpAny_bind (wpAny_field h1 h3 (x:=.ref t) rfl ?_);show wpAny _ _ (if(Value.ref t==Value.none)=true then _ else _) _ _ s
 rw[if_neg (by intro z;exact absurd z Bool.false_ne_true)]
 show wpAny _ _ (field (.ref j) 1 >>= _) _ _ s;refine wpAny_bind (wpAny_field h1 h3 (x:=.int i 0) rfl ?_);show wpAny _ _ (seqItems? (.ref t) >>= _) _ _ s;refine wpAny_bind (wpAny_seqItems h4 h5 ?_);simp only[Int.toNat_natCast,hx];refine wpAny_bind (wpAny_setField h1 h3 (by simp) (wpAny_pure ⟨x,rfl,wpAny_pure (q _ ?_ (Heap.SameBut.update ..))⟩))
 refine⟨_,Heap.get?_update_self _ h1 (Obj.isFreed_of_fields (Obj.data_mapFields h3 _)),(Obj.cls_mapFields ..).trans h2,?_⟩;rw[Obj.data_mapFields h3];simp [rawInt]
theorem tj{j t:Addr}{i:Nat}{xs:Array Value}{Q:Value->Shared->Prop}(hh:A.handled=none)(hj:s.heap.IsTupleIter j t i)(ht:s.heap.IsTuple t xs)(hx:xs[i]?=none)
  (q:∀g e,Heap.ExtBut j s.heap g->(∃o,g.get? e=some o/\o.cls=.type "StopIteration")->E (.ref e) {s with heap:=g}):wpAny (model prog w) A (Builtin.SmallTypes.nextOf (.ref j)) Q E s:=by
 obtain⟨ob,h1,h2,h3⟩:=id hj;obtain⟨ot,h4,_,nt,h5⟩:=ht;unfold Builtin.SmallTypes.nextOf;refine wpAny_bind (wpAny_callSpecial?_slot (name:=Str.ofString "__next__") hj.typeIs F.slot_tuple_iterator_next (wpAny_call_entry F.slot_tuple_iterator_next hj.typeIs F.entry_tuple_iterator_next ?_ (F.args_tuple_iterator_next_1 _)));show wpAny _ _ (field (.ref j) 0 >>= _) _ _ s;refine wpAny_bind (wpAny_field h1 h3 (x:=.ref t) rfl ?_);show wpAny _ _ (if(Value.ref t==Value.none)=true then _ else _) _ _ s
 rw[if_neg (by intro z;exact absurd z Bool.false_ne_true)]
 show wpAny _ _ (field (.ref j) 1 >>= _) _ _ s;refine wpAny_bind (wpAny_field h1 h3 (x:=.int i 0) rfl ?_);show wpAny _ _ (seqItems? (.ref t) >>= _) _ _ s;refine wpAny_bind (wpAny_seqItems h4 h5 ?_);simp only[Int.toNat_natCast,hx];refine wpAny_bind (wpAny_rule (wpAny_bind (wpAny_setField h1 h3 (by simp) ?_)))
 show wpAny _ _ (newExc (.type "StopIteration") [] >>= _) _ _ _;refine wpAny_bind ?_;simp only[newExc,newTuple];refine wpAny_bind (wpAny_newObj_type ?_ (by size_fits))
 refine wpAny_bind (m:=firstArgMember _ _) (wpAny_of_eq (a:=Value.none) (by first|rfl | (simp only[firstArgMember];rfl)) ?_)
 refine wpAny_newObj_type ?_ (by size_fits)
 simp only[raiseNew];refine wpAny_bind (wpAny_handled ?_)
 first|rw[show A.in1.handled=none from hh]|rw[hh]
 refine wpAny_bind (wpAny_pure (wpAny_throw ?_));exact q _ _ (((Heap.SameBut.update ..).extBut.push _).push _) ⟨_,Heap.get?_push_size _ rfl,rfl⟩
end
def qz(tp:Bool)(h:Heap)(j a:Addr)(i:Nat):Prop:=if tp=true then h.IsTupleIter j a i else h.IsListIter j a i
def zJ(tp:Bool)(h:Heap)(a:Addr)(xs:Array Value):Prop:=if tp=true then h.IsTuple a xs else h.IsList a xs
theorem qz.live{tp:Bool}{h:Heap}{j a:Addr}{i:Nat}(q:qz tp h j a i):∃o,h.get? j=some o/\∀v,o.data≠.cell v:=by
 cases tp with
 | true=>obtain⟨o,e,c,d⟩:=(show h.IsTupleIter j a i from q);exact⟨o,e,λv z=>by rw[d]at z;cases z⟩
 | false=>obtain⟨o,e,c,d⟩:=(show h.IsListIter j a i from q);exact⟨o,e,λv z=>by rw[d]at z;cases z⟩
theorem qz.at{tp:Bool}{h h':Heap}{j a:Addr}{i:Nat}(q:qz tp h j a i)(k:∀o,h.get? j=some o->h'.get? j=some o):qz tp h' j a i:=by
 cases tp with
 | true=>obtain⟨o,e,r⟩:=(show h.IsTupleIter j a i from q);exact(show h'.IsTupleIter j a i from⟨o,k o e,r⟩)
 | false=>obtain⟨o,e,r⟩:=(show h.IsListIter j a i from q);exact(show h'.IsListIter j a i from⟨o,k o e,r⟩)
theorem zJ.at{tp:Bool}{h h':Heap}{a:Addr}{xs:Array Value}(q:zJ tp h a xs)(k:∀o,h.get? a=some o->h'.get? a=some o):zJ tp h' a xs:=by
 cases tp with
 | true=>obtain⟨o,e,r⟩:=(show h.IsTuple a xs from q);exact(show h'.IsTuple a xs from⟨o,k o e,r⟩)
 | false=>obtain⟨o,e,r⟩:=(show h.IsList a xs from q);exact(show h'.IsList a xs from⟨o,k o e,r⟩)
section
variable {prog:Program}{w:World}{A:Around}{E:Value->Shared->Prop}{s:Shared}
theorem draw{tp:Bool}{j a:Addr}{i:Nat}{xs:Array Value}{x:Value}{Q:Value->Shared->Prop}(hj:qz tp s.heap j a i)(ha:zJ tp s.heap a xs)(hx:xs[i]?=some x)
  (q:∀g,qz tp g j a (i+1)->Heap.SameBut j s.heap g->Q x {s with heap:=g}):wpAny (model prog w) A (Builtin.SmallTypes.nextOf (.ref j)) Q E s:=by
 cases tp with
 | true=>exact En hj ha hx q
 | false=>exact wpAny_nextOf_list_item hj ha hx q
theorem vO{tp:Bool}{j a:Addr}{i:Nat}{xs:Array Value}{Q:Value->Shared->Prop}(hh:A.handled=none)(hj:qz tp s.heap j a i)(ha:zJ tp s.heap a xs)(hx:xs[i]?=none)
  (q:∀g e,Heap.ExtBut j s.heap g->(∃o,g.get? e=some o/\o.cls=.type "StopIteration")->E (.ref e) {s with heap:=g}):wpAny (model prog w) A (Builtin.SmallTypes.nextOf (.ref j)) Q E s:=by
 cases tp with
 | true=>exact tj hh hj ha hx q
 | false=>exact wpAny_nextOf_list_end hh hj ha hx q
structure ZAp(z U V i j:Addr):Prop where
 uz:U≠z
 vz:V≠z
 iz:i≠z
 jz:j≠z
 uv:U≠V
 ui:U≠i
 uj:U≠j
 vi:V≠i
 vj:V≠j
 ij:i≠j
theorem K6{tp tq:Bool}{z U V i j l m:Addr}{n:Nat}{xs ys:Array Value}{x y a b:Value}{Q:Option Value->Shared->Prop}(D:ZAp z U V i j)(lz:l≠z/\l≠V/\l≠i/\l≠j)(mz:m≠z/\m≠V/\m≠i/\m≠j)
  (hz:IsZip s.heap z U V .none) (hU:IsPair s.heap U (.ref i) (.ref j)) (hV:IsPair s.heap V a b) (h1:qz tp s.heap i l n) (h2:qz tq s.heap j m n) (hl:zJ tp s.heap l xs) (hm:zJ tq s.heap m ys) (hx:xs[n]?=some x) (hy:ys[n]?=some y)
  (q:∀g,IsZip g z U V (rawInt s.heap.objs.size)->IsPair g V x y->qz tp g i l (n+1)->qz tq g j m (n+1)->IsPair g s.heap.objs.size x y->g.objs.size=s.heap.objs.size+1 ->
   (∀c o,c≠z->c≠V->c≠i->c≠j->s.heap.get? c=some o->g.get? c=some o)->Q (some (.ref s.heap.objs.size)) {s with heap:=g}):wpAny (model prog w) A (pyNext (.ref z)) Q E s:=by
 have hT:s.TypeIs (.ref z) "zip":=⟨_,hz,rfl⟩;unfold pyNext;refine wpAny_bind (wpAny_attempt (wpAny_callSpecial?_slot (name:=Str.ofString "__next__") hT F.slot_zip_next (wpAny_call_entry F.slot_zip_next hT F.entry_zip_next ?_ (F.args_zip_next_1 _))));show wpAny _ _ (field (.ref z) 2 >>= _) _ _ _;refine wpAny_bind (wpAny_field hz rfl (x:=.bool false) rfl ?_);show wpAny _ _ (field (.ref z) 3 >>= _) _ _ _;refine wpAny_bind (wpAny_field hz rfl (x:=.ref U) rfl (wpAny_bind (wpAny_seqItems hU rfl ?_)));show wpAny _ _ (Builtin.SmallTypes.ownedTupleIsFree (.ref z) >>= _) _ _ _;refine wpAny_bind ?_;unfold Builtin.SmallTypes.ownedTupleIsFree;refine wpAny_bind (wpAny_field hz rfl (x:=.none) rfl (wpAny_pure ?_));simp only[if_true];refine wpAny_bind (wpAny_rule (wpAny_bind (wpAny_field hz rfl (x:=.ref V) rfl (wpAny_bind (wpAny_setField_rec hz (by simp) λg1 z1 e1=>?_)))))
 replace z1:IsZip g1 z U V .ellipsis:=z1
 refine wpAny_bind ?_;simp only[List.zipIdx_cons,List.zipIdx_nil,List.forIn_cons,List.forIn_nil];refine wpAny_bind (wpAny_bind (wpAny_onRaise ?_));show wpAny _ _ (Builtin.SmallTypes.nextOf (.ref i) >>= _) _ _ _;refine wpAny_bind (draw (s:={s with heap:=g1}) (h1.at λo e=>e1.extBut _ _ D.iz e) (hl.at λo e=>e1.extBut _ _ lz.1 e) hx λg2 w2 e2=>wpAny_pure ?_)
 have v2:IsPair g2 V a b:=e2.extBut _ _ D.vi (e1.extBut _ _ D.vz hV);refine wpAny_bind (wpAny_seqItems v2 rfl (wpAny_bind (wpAny_updateSeq_pair v2 λg3 v3 e3=>?_)))
 replace v3:IsPair g3 V x b:=v3
 refine wpAny_bind (wpAny_letGo (wpAny_pure (wpAny_bind (wpAny_bind (wpAny_onRaise ?_)))));show wpAny _ _ (Builtin.SmallTypes.nextOf (.ref j) >>= _) _ _ _;have to3:∀c o,c≠z->c≠i->c≠V->s.heap.get? c=some o->g3.get? c=some o:=λc o c1 c2 c3 e=>e3.extBut _ _ c3 (e2.extBut _ _ c2 (e1.extBut _ _ c1 e));refine wpAny_bind (draw (s:={s with heap:=g3}) (h2.at λo e=>to3 j o D.jz D.ij.symm D.vj.symm e) (hm.at λo e=>to3 m o mz.1 mz.2.2.1 mz.2.1 e) hy λg4 w4 e4=>wpAny_pure ?_)
 have v4:IsPair g4 V x b:=e4.extBut _ _ D.vj v3;refine wpAny_bind (wpAny_seqItems v4 rfl (wpAny_bind (wpAny_updateSeq_pair v4 λg5 v5 e5=>?_)))
 replace v5:IsPair g5 V x y:=v5
 refine wpAny_bind (wpAny_letGo (wpAny_pure (wpAny_pure (wpAny_bind (wpAny_seqItems v5 rfl (wpAny_bind (wpAny_newTuple ?_)))))));have sz:g5.objs.size=s.heap.objs.size:=by rw[e5.1,e4.1,e3.1,e2.1,e1.1]
 have z5:IsZip g5 z U V .ellipsis:=e5.extBut _ _ D.vz.symm (e4.extBut _ _ D.jz.symm (e3.extBut _ _ D.vz.symm (e2.extBut _ _ D.iz.symm z1)));have k5:∀c o,c≠z->c≠V->c≠i->c≠j->s.heap.get? c=some o->g5.get? c=some o:=λc o c1 c2 c3 c4 e=>e5.extBut _ _ c2 (e4.extBut _ _ c4 (to3 c o c1 c3 c2 e));have i5:qz tp g5 i l (n+1):=w2.at λo e=>e5.extBut _ _ D.vi.symm (e4.extBut _ _ D.ij (e3.extBut _ _ D.vi.symm e));have j5:qz tq g5 j m (n+1):=w4.at λo e=>e5.extBut _ _ D.vj.symm e;have zlt:z<g5.objs.size:=Heap.lt_size z5;show wpAny _ _ (Builtin.SmallTypes.ownedTupleHandOut (.ref z) (.ref g5.objs.size) >>= _) _ _ _;refine wpAny_bind ?_;unfold Builtin.SmallTypes.ownedTupleHandOut;have z6:IsZip (g5.push {cls:=.type "tuple",data:=.seq #[x,y]}) z U V .ellipsis:=Heap.get?_push_of_some _ z5;refine wpAny_bind (wpAny_setField_rec z6 (by simp) λg7 z7 e7=>?_)
 replace z7:IsZip g7 z U V (rawInt g5.objs.size):=z7
 refine wpAny_setField_rec z7 (by simp) λg8 z8 e8=>?_
 replace z8:IsZip g8 z U V (rawInt g5.objs.size):=z8
 have up:∀c o,c≠z->g5.get? c=some o->g8.get? c=some o:=λc o c1 e=>e8.extBut _ _ c1 (e7.extBut _ _ c1 (Heap.get?_push_of_some _ e));have t8:IsPair g8 g5.objs.size x y:=e8.extBut _ _ (Nat.ne_of_gt zlt) (e7.extBut _ _ (Nat.ne_of_gt zlt) (Heap.get?_push_size _ rfl));have s8:g8.objs.size=g5.objs.size+1:=by rw[e8.1,e7.1,Heap.size_push]
 rw[sz]at z8 t8 s8;refine wpAny_pure ⟨_,rfl,wpAny_pure ?_⟩;show Q (some (.ref g5.objs.size)) _;rw[sz];exact q g8 z8 (up _ _ D.vz v5) (i5.at λo e=>up _ o D.iz e) (j5.at λo e=>up _ o D.jz e) t8 s8 λc o c1 c2 c3 c4 e=>up c o c1 (k5 c o c1 c2 c3 c4 e)
end
end Vc
namespace Vc
open PySem L2
variable [KF]
abbrev itN(tp:Bool):String:=if tp=true then "tuple_iterator" else "list_iterator"
abbrev zA(tp:Bool)(h:Heap)(l:Addr):Heap:=h.push {cls:=.type (itN tp),data:=.fields #[.ref l,.int 0 0]}
abbrev zB(tp tq:Bool)(h:Heap)(l m:Addr):Heap:=zA tq (zA tp h l) m
abbrev zC(tp tq:Bool)(h:Heap)(l m:Addr):Heap:=(zB tp tq h l m).push {cls:=.type "tuple",data:=.seq #[.ref h.objs.size,.ref (zA tp h l).objs.size]}
abbrev zD(tp tq:Bool)(h:Heap)(l m:Addr):Heap:=(zC tp tq h l m).push {cls:=.type "tuple",data:=.seq #[.none,.none]}
abbrev zE(tp tq:Bool)(h:Heap)(l m:Addr):Heap:=(zD tp tq h l m).push {cls:=.type "zip",data:=.fields #[.none,.bool false,.bool false,.ref (zB tp tq h l m).objs.size,.ref (zC tp tq h l m).objs.size]}
set_option maxHeartbeats 4000000 in
theorem HP(tp tq:Bool)(l m:Addr)(xs ys:Array Value):
  Meets (Builtin.«zip.__new__» ⟨[.type "zip",.ref l,.ref m],[]⟩) (λ_ R s=>zJ tp s.heap l xs/\zJ tq s.heap m ys/\R (.ok (.ret (.ref (zD tp tq s.heap l m).objs.size))) {s with heap:=zE tp tq s.heap l m}):=
 .of_wp λprog w A R s h=>by
  obtain⟨hp,g,d,tk,os⟩:=s;obtain⟨hl,hm,h⟩:=h;have sub:=sub_zip;cases tp with
  | true =>
   have L1:Heap.IsTuple (Shared.heap ⟨hp,g,d,tk,os⟩) l xs:=hl;cases tq with
   | true =>
    have L2:Heap.IsTuple (Shared.heap ⟨hp.push {cls:=.type "tuple_iterator",data:=.fields #[.ref l,.int 0 0]},g,d,tk,os⟩) m ys:=by
     obtain⟨o,e,r⟩:=(show hp.IsTuple m ys from hm);exact⟨o,Heap.get?_push_of_some _ e,r⟩
    wp_walk using wpAny_pyIter_tuple L1,wpAny_pyIter_tuple L2
    exact⟨_,rfl,h⟩
   | false =>
    have L2:Heap.IsList (Shared.heap ⟨hp.push {cls:=.type "tuple_iterator",data:=.fields #[.ref l,.int 0 0]},g,d,tk,os⟩) m ys:=by
     obtain⟨o,e,r⟩:=(show hp.IsList m ys from hm);exact⟨o,Heap.get?_push_of_some _ e,r⟩
    wp_walk using wpAny_pyIter_tuple L1,wpAny_pyIter_list L2
    exact⟨_,rfl,h⟩
  | false =>
   have L1:Heap.IsList (Shared.heap ⟨hp,g,d,tk,os⟩) l xs:=hl;cases tq with
   | true =>
    have L2:Heap.IsTuple (Shared.heap ⟨hp.push {cls:=.type "list_iterator",data:=.fields #[.ref l,.int 0 0]},g,d,tk,os⟩) m ys:=by
     obtain⟨o,e,r⟩:=(show hp.IsTuple m ys from hm);exact⟨o,Heap.get?_push_of_some _ e,r⟩
    wp_walk using wpAny_pyIter_list L1,wpAny_pyIter_tuple L2
    exact⟨_,rfl,h⟩
   | false =>
    have L2:Heap.IsList (Shared.heap ⟨hp.push {cls:=.type "list_iterator",data:=.fields #[.ref l,.int 0 0]},g,d,tk,os⟩) m ys:=by
     obtain⟨o,e,r⟩:=(show hp.IsList m ys from hm);exact⟨o,Heap.get?_push_of_some _ e,r⟩
    wp_walk using wpAny_pyIter_list L1,wpAny_pyIter_list L2
    exact⟨_,rfl,h⟩
theorem Ba{tp:Bool}{h:Heap}{j a:Addr}(e:h.get? j=some {cls:=.type (itN tp),data:=.fields #[.ref a,.int 0 0]}):qz tp h j a 0:=by
 cases tp with
 | true=>exact⟨_,e,rfl,rfl⟩
 | false=>exact⟨_,e,rfl,rfl⟩
section
variable {prog:Program}{w:World}{A:Around}{E:Value->Shared->Prop}{s:Shared}
theorem HN{tp tq:Bool}{l m:Addr}{xs ys:Array Value}{Q:Value->Shared->Prop}(hl:zJ tp s.heap l xs)(hm:zJ tq s.heap m ys)
  (q:∀g,IsZip g (s.heap.objs.size+4) (s.heap.objs.size+2) (s.heap.objs.size+3) .none->IsPair g (s.heap.objs.size+2) (.ref s.heap.objs.size) (.ref (s.heap.objs.size+1))->IsPair g (s.heap.objs.size+3) .none .none ->
   qz tp g s.heap.objs.size l 0->qz tq g (s.heap.objs.size+1) m 0->(∀c o,s.heap.get? c=some o->g.get? c=some o)->Q (.ref (s.heap.objs.size+4)) {s with heap:=g}):
  wpAny (model prog w) A (call (.type "zip") [.ref l,.ref m]) Q E s:=by
 refine callType_new F.called_zip ∅ (F.typeCall_zip_2 _ _) (F.newCall_zip_2 _ _) (λob=>F.args_object_init_3 ob _ _) F.entry_zip_new (HP tp tq l m xs ys) ⟨hl,hm,?_⟩
 have n1:(zA tp s.heap l).objs.size=s.heap.objs.size+1:=Heap.size_push ..;have n2:(zB tp tq s.heap l m).objs.size=s.heap.objs.size+2:=by rw[Heap.size_push,n1]
 have n3:(zC tp tq s.heap l m).objs.size=s.heap.objs.size+3:=by rw[Heap.size_push,n2]
 have n4:(zD tp tq s.heap l m).objs.size=s.heap.objs.size+4:=by rw[Heap.size_push,n3]
 have p5:(zE tp tq s.heap l m).get? (zD tp tq s.heap l m).objs.size=some _:=Heap.get?_push_size _ rfl;have p4:(zE tp tq s.heap l m).get? (zC tp tq s.heap l m).objs.size=some _:=Heap.get?_push_of_some _ (Heap.get?_push_size _ rfl);have p3:(zE tp tq s.heap l m).get? (zB tp tq s.heap l m).objs.size=some _:=Heap.get?_push_of_some _ (Heap.get?_push_of_some _ (Heap.get?_push_size _ rfl));have p2:(zE tp tq s.heap l m).get? (zA tp s.heap l).objs.size=some _:=Heap.get?_push_of_some _ (Heap.get?_push_of_some _ (Heap.get?_push_of_some _ (Heap.get?_push_size _ rfl)));have p1:(zE tp tq s.heap l m).get? s.heap.objs.size=some _:=Heap.get?_push_of_some _ (Heap.get?_push_of_some _ (Heap.get?_push_of_some _ (Heap.get?_push_of_some _ (Heap.get?_push_size _ rfl))));show _/\_;rw[n2,n3,n4]at p5;rw[n1,n2]at p3;rw[n3]at p4;rw[n1]at p2;rw[n4];refine⟨⟨_,p5,rfl⟩,q _ p5 p3 p4 (Ba p1) (Ba p2) λc o x=>?_⟩;exact Heap.get?_push_of_some _ (Heap.get?_push_of_some _ (Heap.get?_push_of_some _ (Heap.get?_push_of_some _ (Heap.get?_push_of_some _ x))))
theorem HQ{tp tq:Bool}{z U V i j l m:Addr}{n:Nat}{xs ys:Array Value}{a b:Value}{Q:Option Value->Shared->Prop}(hh:A.handled=none)(D:ZAp z U V i j)(lz:l≠z/\l≠V/\l≠i/\l≠j)(mz:m≠z/\m≠V/\m≠i/\m≠j)
  (hz:IsZip s.heap z U V .none) (hU:IsPair s.heap U (.ref i) (.ref j)) (hV:IsPair s.heap V a b) (h1:qz tp s.heap i l n) (h2:qz tq s.heap j m n) (hl:zJ tp s.heap l xs) (hm:zJ tq s.heap m ys) (tK:xs[n]?=none\/ys[n]?=none)
  (q:∀g,(∀c o,c≠z->c≠V->c≠i->c≠j->s.heap.get? c=some o->g.get? c=some o)->Q none {s with heap:=g}):wpAny (model prog w) A (pyNext (.ref z)) Q E s:=by
 have hT:s.TypeIs (.ref z) "zip":=⟨_,hz,rfl⟩;unfold pyNext;refine wpAny_bind (wpAny_attempt (wpAny_callSpecial?_slot (name:=Str.ofString "__next__") hT F.slot_zip_next (wpAny_call_entry F.slot_zip_next hT F.entry_zip_next ?_ (F.args_zip_next_1 _))));show wpAny _ _ (field (.ref z) 2 >>= _) _ _ _;refine wpAny_bind (wpAny_field hz rfl (x:=.bool false) rfl ?_);show wpAny _ _ (field (.ref z) 3 >>= _) _ _ _;refine wpAny_bind (wpAny_field hz rfl (x:=.ref U) rfl (wpAny_bind (wpAny_seqItems hU rfl ?_)));show wpAny _ _ (Builtin.SmallTypes.ownedTupleIsFree (.ref z) >>= _) _ _ _;refine wpAny_bind ?_;unfold Builtin.SmallTypes.ownedTupleIsFree;refine wpAny_bind (wpAny_field hz rfl (x:=.none) rfl (wpAny_pure ?_));simp only[if_true];refine wpAny_bind (wpAny_rule (wpAny_bind (wpAny_field hz rfl (x:=.ref V) rfl (wpAny_bind (wpAny_setField_rec hz (by simp) λg1 z1 e1=>?_)))))
 replace z1:IsZip g1 z U V .ellipsis:=z1
 refine wpAny_bind ?_;simp only[List.zipIdx_cons,List.zipIdx_nil,List.forIn_cons,List.forIn_nil];refine wpAny_bind (wpAny_bind (wpAny_onRaise ?_));show wpAny _ _ (Builtin.SmallTypes.nextOf (.ref i) >>= _) _ _ _;cases hx:xs[n]? with
 | none =>
  refine wpAny_bind (vO (s:={s with heap:=g1}) hh (h1.at λo e=>e1.extBut _ _ D.iz e) (hl.at λo e=>e1.extBut _ _ lz.1 e) hx λg2 e x2 he=>?_)
  obtain⟨oe,PF,XY⟩:=he;have z2:IsZip g2 z U V .ellipsis:=x2 _ _ D.iz.symm z1;have ez:e≠z:=λx=>by subst x;rw[z2]at PF;cases PF;simp at XY
  refine wpAny_setField_rec z2 (by simp) λg3 _ e3=>?_
  refine wpAny_bind (wpAny_isInstance (T:="StopIteration") (b:=true) ⟨oe,e3.extBut _ _ ez PF,XY⟩ isSubtype_stop (wpAny_pure (q _ λc o c1 _ c3 _ x=>?_)));exact e3.extBut _ _ c1 (x2 _ _ c3 (e1.extBut _ _ c1 x))
 | some x =>
  have hy:ys[n]?=none:=by
   rcases tK with h|h
   ·rw[hx]at h;cases h
   ·exact h
  refine wpAny_bind (draw (s:={s with heap:=g1}) (h1.at λo e=>e1.extBut _ _ D.iz e) (hl.at λo e=>e1.extBut _ _ lz.1 e) hx λg2 w2 e2=>wpAny_pure ?_)
  have v2:IsPair g2 V a b:=e2.extBut _ _ D.vi (e1.extBut _ _ D.vz hV);refine wpAny_bind (wpAny_seqItems v2 rfl (wpAny_bind (wpAny_updateSeq_pair v2 λg3 v3 e3=>?_)));refine wpAny_bind (wpAny_letGo (wpAny_pure (wpAny_bind (wpAny_bind (wpAny_onRaise ?_)))));show wpAny _ _ (Builtin.SmallTypes.nextOf (.ref j) >>= _) _ _ _;have to3:∀c o,c≠z->c≠i->c≠V->s.heap.get? c=some o->g3.get? c=some o:=λc o c1 c2 c3 e=>e3.extBut _ _ c3 (e2.extBut _ _ c2 (e1.extBut _ _ c1 e));refine wpAny_bind (vO (s:={s with heap:=g3}) hh (h2.at λo e=>to3 j o D.jz D.ij.symm D.vj.symm e) (hm.at λo e=>to3 m o mz.1 mz.2.2.1 mz.2.1 e) hy λg4 e x4 he=>?_)
  obtain⟨oe,PF,XY⟩:=he;have z4:IsZip g4 z U V .ellipsis:=x4 _ _ D.jz.symm (e3.extBut _ _ D.vz.symm (e2.extBut _ _ D.iz.symm z1));have ez:e≠z:=λx=>by subst x;rw[z4]at PF;cases PF;simp at XY
  refine wpAny_setField_rec z4 (by simp) λg5 _ e5=>?_
  refine wpAny_bind (wpAny_isInstance (T:="StopIteration") (b:=true) ⟨oe,e5.extBut _ _ ez PF,XY⟩ isSubtype_stop (wpAny_pure (q _ λc o c1 c2 c3 c4 x=>?_)));exact e5.extBut _ _ c1 (x4 _ _ c4 (to3 c o c1 c3 c2 x))
end
end Vc
namespace Vc
open PySem L2
variable [KF]
section
variable {X:Cx}{pins:List (Addr×Obj)}{σ:St}{H:Hp}{s:Shared}
theorem KW(I:L2.Inv X pins σ H s){ch:List Addr}(hf:∀b∈ch,jF X pins H b){h':Heap}{t':Nat}(kp:∀b o,b∉ch->s.heap.get? b=some o->h'.get? b=some o){T:Addr}{o:HO}(hT:s.heap.objs.size<=T)(new:bX X.prog X.w (upd H T o) h' T o):
  L2.Inv X pins σ (upd H T o) {s with heap:=h',toks:=t'}:=by
 have JL:∀ {b u},s.heap.get? b=some u->b≠T:=λe=>Nat.ne_of_lt (Nat.lt_of_lt_of_le (Heap.lt_size e) hT);have VR:∀ {b u},H b=some u->b≠T:=λe=>Nat.ne_of_lt (Nat.lt_of_lt_of_le (I.bc.lt e) hT);have FO:∀ {b u},H b=some u->b∉ch:=λ{b u} e z=>by rw[(hf b z).1]at e;cases e
 refine I.step (g':=s.gens) (d':=s.drawn) (ch:=ch) (λb hb=>?_) (λb u _ _ hc e _=>kp b u hc e) (λb u _ _ hc e _=>⟨u.slots,kp b u hc e⟩) (λb u hc e n=>by rw[aq (JL e)];exact n) (λb u hc e=>⟨u,kp b u hc e⟩)
  (λb xs e=>by rw[aq (VR e)];exact e) (λb u w e=>by rw[aq (VR e)];exact e) (λb ps e=>⟨#[],by rw[aq (VR e),e];simp⟩) (λm hm=>?_) (λb u e=>?_) I.bare
 ·obtain⟨f0,f1,f2,f3,f4,f5⟩:=hf b hb
  exact⟨f3.imp id λz=>Heap.get?_none_of_le z,f1,f4,f5⟩
 ·obtain⟨ob,es,ep,ho,r⟩:=hm
  refine⟨ob,es,ep,kp _ ob (λz=>?_) ho,r⟩;exact(hf _ z).2.1 rfl
 ·by_cases hb:b=T
  ·subst hb;rw[aA]at e;cases e;exact new
  ·rw[aq hb]at e
   refine(I.bc b u e).ql (λc v hc q=>?_) (λc q=>by rw[aq (VR q)];exact q) (λc xs q=>by rw[aq (VR q)];exact q) λc o u q=>by rw[aq (VR q)];exact q
   rcases hc with z|z
   ·subst z;exact kp _ v (FO e) q
   ·exact kp _ v (FO z) q
theorem KU(I:L2.Inv X pins σ H s){ch:List Addr}(hf:∀b∈ch,jF X pins H b){h':Heap}{t':Nat}(kp:∀b o,b∉ch->s.heap.get? b=some o->h'.get? b=some o):L2.Inv X pins σ H {s with heap:=h',toks:=t'}:=by
 have FO:∀ {b u},H b=some u->b∉ch:=λ{b u} e z=>by rw[(hf b z).1]at e;cases e
 refine I.step (g':=s.gens) (d':=s.drawn) (ch:=ch) (λb hb=>?_) (λb u _ _ hc e _=>kp b u hc e) (λb u _ _ hc e _=>⟨u.slots,kp b u hc e⟩) (λb u hc e n=>n) (λb u hc e=>⟨u,kp b u hc e⟩)
  (λb xs e=>e) (λb u w e=>e) (λb ps e=>⟨#[],by rw[e];simp⟩) (λm hm=>?_) (λb u e=>?_) I.bare
 ·obtain⟨f0,f1,f2,f3,f4,f5⟩:=hf b hb
  exact⟨f3.imp id λz=>Heap.get?_none_of_le z,f1,f4,f5⟩
 ·obtain⟨ob,es,ep,ho,r⟩:=hm
  refine⟨ob,es,ep,kp _ ob (λz=>?_) ho,r⟩;exact(hf _ z).2.1 rfl
 ·refine(I.bc b u e).ql (λc v hc q=>?_) (λc q=>q) λc xs q=>q
  rcases hc with z|z
  ·subst z;exact kp _ v (FO e) q
  ·exact kp _ v (FO z) q
end
def Sq(tp:Bool)(K:PySem.W.Frag)(H:Hp)(a:Addr)(xs:List V):Prop:=if tp=true then nB K H a xs else jr K H a xs
theorem Sq.is{tp:Bool}{X:Cx}{pins:List (Addr×Obj)}{σ:St}{H:Hp}{s:Shared}{a:Addr}{xs:List V}(I:L2.Inv X pins σ H s)(h:Sq tp X.K H a xs):∃its:List Value,Vals xs its/\zJ tp s.heap a its.toArray/\a<s.heap.objs.size:=by
 cases tp with
 | true =>
  obtain⟨its,r,p,_⟩:=I.tuple (show nB X.K H a xs from h)
  exact⟨its,r,p,by obtain⟨o,e,_⟩:=p;exact Heap.lt_size e⟩
 | false =>
  obtain⟨its,r,p,_⟩:=I.list (show jr X.K H a xs from h)
  exact⟨its,r,p.isList,p.lt⟩
theorem Sq.inj{tp:Bool}{X:Cx}{pins:List (Addr×Obj)}{σ:St}{H:Hp}{s:Shared}{a:Addr}{xs ys:List V}(I:L2.Inv X pins σ H s)(h:Sq tp X.K H a xs)(h':Sq tp X.K H a ys):xs=ys:=by
 cases tp with
 | true=>exact I.su h h'
 | false=>exact I.wJ h h'
def Itz(tp tq:Bool)(K:PySem.W.Frag)(l m:Addr):It:=
  ⟨λn H=>∃xs ys x y,Sq tp K H l xs/\Sq tq K H m ys/\xs[n]?=some x/\ys[n]?=some y,
   λn H v H'=>∃p x y,H p=none/\v=.ref p/\H'=upd H p (.tup [x,y])/\(∀xs,Sq tp K H l xs->xs[n]?=some x)/\∀ys,Sq tq K H m ys->ys[n]?=some y,
   λn H=>∃xs ys,Sq tp K H l xs/\Sq tq K H m ys/\(xs.length<=n\/ys.length<=n)⟩
theorem HG{P:Program}{w:World}{K:PySem.W.Frag}{elts:List Expr}{kk:Nat}{zt:Pos}(tp tq:Bool)(z U V i j l m:Addr)(D:ZAp z U V i j)(lz:l≠z/\l≠V/\l≠i/\l≠j)(mz:m≠z/\m≠V/\m≠i/\m≠j):
  Turn P w K (.Tuple elts kk zt) (Itz tp tq K l m) [z,U,V,i,j] z (λn h=>IsZip h z U V .none/\IsPair h U (.ref i) (.ref j)/\(∃a b,IsPair h V a b)/\qz tp h i l n/\qz tq h j m n) where
 mem:=by simp
 obj:=λn h st b hb=>by
  obtain⟨h1,h2,⟨a,c,h3⟩,h4,h5⟩:=st;simp only[List.mem_cons,List.not_mem_nil,or_false]at hb;rcases hb with rfl|rfl|rfl|rfl|rfl
  ·exact⟨_,h1,λv q=>by cases q⟩
  ·exact⟨_,h2,λv q=>by cases q⟩
  ·exact⟨_,h3,λv q=>by cases q⟩
  ·exact h4.live
  ·exact h5.live
 keep:=λn h h' st kp=>by
  obtain⟨h1,h2,⟨a,c,h3⟩,h4,h5⟩:=st;exact⟨kp z (by simp) _ h1,kp U (by simp) _ h2,⟨a,c,kp V (by simp) _ h3⟩,h4.at λo e=>kp i (by simp) o e,h5.at λo e=>kp j (by simp) o e⟩
 item:=by
  intro X hP hw hK hc n pins s σ H E I hf st hg;subst hP hw hK;obtain⟨h1,h2,⟨a,c,h3⟩,h4,h5⟩:=st;obtain⟨xs,ys,x,y,q1,q2,e1,e2⟩:=hg;obtain⟨its,r1,p1,_⟩:=q1.is I;obtain⟨jts,r2,p2,_⟩:=q2.is I;obtain⟨u,hu,ru⟩:=r1.get e1;obtain⟨v,hv,rv⟩:=r2.get e2;refine K6 D lz mz h1 h2 h3 h4 h5 p1 p2 (x:=u) (y:=v) (by simpa using hu) (by simpa using hv) λg z1 v1 i1 j1 t1 s1 k1=>⟨_,rfl,?_⟩
  refine wpAny_letOwnedTupleGo_zip z1 λg' z2 Jd=>?_;have kp:∀b o,b∉[z,V,i,j]->s.heap.get? b=some o->g'.get? b=some o:=λb o hb e=>by
   simp only[List.mem_cons,List.not_mem_nil,or_false,not_or]at hb;exact Jd.extBut _ _ hb.1 (k1 b o hb.1 hb.2.1 hb.2.2.1 hb.2.2.2 e)
  have zT:s.heap.objs.size≠z:=Nat.ne_of_gt (Heap.lt_size h1);have hf':∀b∈[z,V,i,j],jF X pins H b:=λb hb=>hf b (by
   simp only[List.mem_cons,List.not_mem_nil,or_false]at hb ⊢;rcases hb with e|e|e|e<;>simp [e])
  have t2:IsPair g' s.heap.objs.size u v:=Jd.extBut _ _ zT t1;have I':=KW (t':=s.toks) (o:=.tup [x,y]) I hf' kp (Nat.le_refl _) ⟨by show 2<=sizeLine;decide,[u,v],.cons ru (.cons rv .nil),⟨_,t2,rfl,_,rfl⟩⟩
  have Fp:H s.heap.objs.size=none:=I.bc.fresh (Nat.le_refl _);refine⟨.ref s.heap.objs.size,upd H s.heap.objs.size (.tup [x,y]),I',rfl,⟨_,x,y,Fp,rfl,rfl,λzs hz=>by rw[hz.inj I q1];exact e1,λzs hz=>by rw[hz.inj I q2];exact e2⟩,⟨z2,Jd.extBut _ _ D.uz (k1 _ _ D.uz D.uv D.ui D.uj h2),⟨u,v,Jd.extBut _ _ D.vz v1⟩,i1.at λo e=>Jd.extBut _ _ D.iz e,j1.at λo e=>Jd.extBut _ _ D.jz e⟩,λb hb=>?_⟩
  have L6:=(hf b hb).1;have:b≠s.heap.objs.size:=by
   obtain⟨o,e,_⟩:∃o,s.heap.get? b=some o/\True:=by
    simp only[List.mem_cons,List.not_mem_nil,or_false]at hb;rcases hb with rfl|rfl|rfl|rfl|rfl
    ·exact⟨_,h1,trivial⟩
    ·exact⟨_,h2,trivial⟩
    ·exact⟨_,h3,trivial⟩
    ·obtain⟨o,e,_⟩:=h4.live;exact⟨o,e,trivial⟩
    ·obtain⟨o,e,_⟩:=h5.live;exact⟨o,e,trivial⟩
   exact Nat.ne_of_lt (Heap.lt_size e)
  rw[aq this];exact L6
 done:=by
  intro X hP hw hK hc n pins s σ H E I hf st hg;subst hP hw hK;obtain⟨h1,h2,⟨a,c,h3⟩,h4,h5⟩:=st;obtain⟨xs,ys,q1,q2,hl⟩:=hg;obtain⟨its,r1,p1,_⟩:=q1.is I;obtain⟨jts,r2,p2,_⟩:=q2.is I;have n1:=r1.length;have n2:=r2.length;refine HQ (I.ok.hd hc) D lz mz h1 h2 h3 h4 h5 p1 p2 (hl.imp (λq=>by simp;omega) λq=>by simp;omega) λg k1=>⟨rfl,?_⟩
  refine KU (t':=s.toks) (ch:=[z,V,i,j]) I (λb hb=>hf b ?_) λb o hb e=>?_
  ·simp only[List.mem_cons,List.not_mem_nil,or_false]at hb ⊢
   rcases hb with e|e|e|e<;>simp [e]
  ·simp only[List.mem_cons,List.not_mem_nil,or_false,not_or]at hb
   exact k1 b o hb.1 hb.2.1 hb.2.2.1 hb.2.2.2 e
 self:=λ_ _ _ _ _ st h=>wpAny_pyIter_zip st.1 h
theorem K5(n:Nat):ZAp (n+4) (n+2) (n+3) n (n+1):=
  ⟨show(n+2:Nat)≠n+4 by omega,show(n+3:Nat)≠n+4 by omega,show(n:Nat)≠n+4 by omega,show(n+1:Nat)≠n+4 by omega,show(n+2:Nat)≠n+3 by omega,
   show(n+2:Nat)≠n by omega,show(n+2:Nat)≠n+1 by omega,show(n+3:Nat)≠n by omega,show(n+3:Nat)≠n+1 by omega,show(n:Nat)≠n+1 by omega⟩
theorem qX{l n:Nat}(h:l<n):l≠n+4/\l≠n+3/\l≠n/\l≠n+1:=by omega
def aby(K:PySem.W.Frag)(ta:TA):TI:=λσ H R=>ta σ H λvs H1=>∃tp tq l m xs ys,vs=[.ref l,.ref m]/\Sq tp K H1 l xs/\Sq tq K H1 m ys/\R (Itz tp tq K l m) H1
theorem SR{X:Cx}{elts:List Expr}{kk:Nat}{zt:Pos}{a b:Expr}{ta:TA}{p pos:Pos}(hg:Gl X "zip")(hm:X.mg "zip"=none)(ha:PA X [a,b] ta)(hs:starEach [a,b] X.env=[(false,eval a X.env),(false,eval b X.env)])(CC:starEach [b] X.env=[(false,eval b X.env)]):
  PI X (.Tuple elts kk zt) (.Call (.Name "zip" p) [a,b] [] pos) (aby X.K ta):=by
 intro pins s σ H R I h;refine PyProof.Rows.Call_ (j9 I hg hm PyProof.Rows.boot_zip (PyProof.Rows.callWith_type1 (ck (ha pos pins s σ H _ I h) λus s1 ⟨vs,H1,I1,r1,q1⟩=>?_) (by rw[hs,CC]) (by rw[CC];rfl)))
 obtain⟨tp,tq,l,m,xs,ys,e,q1,q2,q⟩:=q1;subst e;obtain⟨u,v,rfl,ru,rv⟩:=vals2 r1;cases ru;cases rv;obtain⟨its,_,p1,ll⟩:=q1.is I1;obtain⟨jts,_,p2,lm⟩:=q2.is I1;refine HN p1 p2 λg z1 u1 v1 i1 j1 k1=>?_;refine wpAny_pyIter_zip z1 ?_;have N:∀n:Nat,s1.heap.objs.size<=s1.heap.objs.size+n:=λn=>Nat.le_add_right _ _;refine⟨s1.heap.objs.size+4,[s1.heap.objs.size+4,s1.heap.objs.size+2,s1.heap.objs.size+3,s1.heap.objs.size,s1.heap.objs.size+1],_,_,H1,rfl,I1.kept (t':=s1.toks) k1,
  HG tp tq _ _ _ _ _ l m (K5 _) (qX ll) (qX lm),⟨z1,u1,⟨_,_,v1⟩,i1,j1⟩,λb hb=>?_,q⟩
 have L6:s1.heap.objs.size<=b:=by
  simp only[List.mem_cons,List.not_mem_nil,or_false]at hb;rcases hb with rfl|rfl|rfl|rfl|rfl
  ·exact N 4
  ·exact N 2
  ·exact N 3
  ·exact N 0
  ·exact N 1
 exact I1.ER L6 (I1.bc.fresh L6)
end Vc
namespace Vc
open PySem L2
variable [KF]
variable {G:GE}{k:Nat}{S:Stat}
def sq?:D->Option (List D)
 | .lst xs=>some xs
 | .tup xs=>some xs
 | _=>none
def xQ(xs ys:List D):List D:=(xs.zip ys).map λp=>.tup [p.1,p.2]
def U2(t:eU):eU:=λσ Q=>t σ λds aw=>match ds with
 | [a,b]=>match sq? a,sq? b with
  | some xs,some ys=>Q (xQ xs ys) aw
  | _,_=>False
 | _=>False
theorem Rep.sq{F:Hp}{v:V}{d:D}{xs:List D}(r:Rep F v d)(e:sq? d=some xs)(K:PySem.W.Frag):∃tp a vs,v=.ref a/\(∀H,au F H->Sq tp K H a vs)/\aE F vs xs:=by
 cases d with
 | lst ys =>
  cases e;cases r with
  | lst h r=>exact⟨false,_,_,rfl,λH s=>(show jr K H _ _ from .inl (Rd.mono s h)),r⟩
 | tup ys =>
  cases e;cases r with
  | tup h r=>exact⟨true,_,_,rfl,λH s=>(show nB K H _ _ from .of (s _ _ h)),r⟩
 | _=>cases e
theorem HL{xs ys:List D}{i:Nat}{d:D}(h:(xQ xs ys)[i]?=some d):∃x y,xs[i]?=some x/\ys[i]?=some y/\d=.tup [x,y]:=by
 unfold xQ at h;rw[List.getElem?_map]at h;cases e:(xs.zip ys)[i]? with
 | none=>rw[e]at h;cases h
 | some p =>
  rw[e]at h;obtain⟨e1,e2⟩:=List.getElem?_zip_eq_some.mp e;exact⟨p.1,p.2,e1,e2,(Option.some.inj h).symm⟩
theorem JA{K:PySem.W.Frag}{F:Hp}{tp tq:Bool}{l m:Addr}{vs us:List V}{xs ys:List D}(h1:∀H,au F H->Sq tp K H l vs)(h2:∀H,au F H->Sq tq K H m us)(r1:aE F vs xs)(r2:aE F us ys):nA F (Itz tp tq K l m) (xQ xs ys):=λF1 H1 s1 s2 i=>by
 have a1:=h1 H1 (s1.trans s2);have a2:=h2 H1 (s1.trans s2);refine⟨λd e=>?_,λhl=>⟨vs,us,a1,a2,?_⟩⟩
 ·obtain⟨x,y,e1,e2,rfl⟩:=HL e
  obtain⟨v,w1,q1⟩:=r1.get e1;obtain⟨u,w2,q2⟩:=r2.get e2;refine⟨⟨vs,us,v,u,a1,a2,w1,w2⟩,λz H2 yl=>?_⟩;obtain⟨p,v',u',hp,rfl,rfl,f1,f2⟩:=yl;have e1':=f1 vs a1;have Jd:=f2 us a2;rw[w1]at e1';cases e1';rw[w2]at Jd;cases Jd;have sm:=aK (o:=.tup [v,u]) (same_none s2 hp);exact⟨upd F1 p (.tup [v,u]),.inr ⟨p,_,hp,rfl,rfl⟩,.tup aA (.cons ((q1.mono s1).mono sm) (.cons ((q2.mono s1).mono sm) .nil))⟩
 ·have:(xQ xs ys).length=min xs.length ys.length:=by unfold xQ;simp
  have n1:=r1.length;have n2:=r2.length;omega
theorem Yi{elts:List Expr}{kk:Nat}{zt:Pos}{a b:Expr}{t:eU}{p pos:Pos}(h:qW G k S [a,b] t)(hm:G.mg "zip"=none)(hg:S.sc.lookup ("zip":Str)=some .globalImplicit:=by rfl)(hs:∀env,starEach [a,b] env=[(false,eval a env),(false,eval b env)]:=by intro _;rfl)(CC:∀env,starEach [b] env=[(false,eval b env)]:=by intro _;rfl):
  EI G k S (.Tuple elts kk zt) (.Call (.Name "zip" p) [a,b] [] pos) (U2 t):=.mk λX Y ok=>tY (SR (di ok hg) (by rw[ok.mg];exact hm) (h X Y ok) (hs _) (CC _)) λσ H Q q=>by
 obtain⟨F,aj,Qd,R,q,K⟩:=q;refine⟨F,aj,_,R,q,λvs H1 F1 ds aw s1 R1 r1 q1=>?_⟩
 split at q1
 ·rename_i x y
  split at q1
  ·rename_i xs ys ex ey
   cases r1 with
   | cons rx r1 =>
    cases r1 with
    | cons ry r1 =>
     cases r1;obtain⟨tp,l,us,rfl,a1,b1⟩:=rx.sq ex X.K;obtain⟨tq,m,ws,rfl,a2,b2⟩:=ry.sq ey X.K;exact⟨tp,tq,l,m,us,ws,rfl,a1 H1 R1.fr,a2 H1 R1.fr,K H1 F1 aw _ _ s1 R1 (JA a1 a2 b1 b2) q1⟩
  ·exact q1.elim
 ·exact q1.elim
end Vc
namespace Vc
open PySem L2
variable [KF]
section
variable {prog:Program}{w:World}{A:Around}{R:Result->Shared->Prop}
def dE(bt:Nat->Nat->Bool):Nat->Nat
 | 0=>0
 | n+1=>if bt (n+1) (dE bt n)=true then n+1 else dE bt n
def CO(prog:Program)(w:World)(A:Around)(op:CmpOp)(h0:Heap)(its:Array Value)(bt:Nat->Nat->Bool):Prop:=
 ∀(i j:Nat) (x y:Value) (s:Shared) (Q:Value->Shared->Prop) (E:Value->Shared->Prop),its[i]?=some x->its[j]?=some y->(∀b o,h0.get? b=some o->s.heap.get? b=some o)->Q (.bool (bt i j)) s->wpAny (model prog w) A (richCompare op x y) Q E s
theorem QS{h0:Heap}{its:Array Value}{bt:Nat->Nat->Bool}(hh:A.handled=none)(hc:CO prog w A.in1 .Lt h0 its bt){I l S:Addr}(hl0:h0.IsList l its)(IS:I≠S)(n0:h0.get? I=none)(n1:h0.get? S=none)(kw:List (Str×Value)):
  ∀(d j:Nat) (s:Shared) (v:Value) (c:Nat),its.size-(j+1)=d->j+1<=its.size->s.heap.IsListIter I l (j+1)->its[dE bt j]?=some v->s.heap.get? S=some {cls:=.type "list",dict:=none,data:=.seq #[v,v] c,slots:=#[]} ->
  (∀b o,h0.get? b=some o->s.heap.get? b=some o) ->
  (∀v g tk,its[dE bt (its.size-1)]?=some v->(∀b o,h0.get? b=some o->g.get? b=some o)->R (.ok (.ret v)) {s with heap:=g,toks:=tk}) ->
  codeAny (model prog w) A (.builtin "min.loop" ⟨[.ref I,.none,.ref S],kw⟩) R s:=by
 have nm:(toString "min"++toString ".loop":String)="min.loop":=by decide
 have lI:l≠I:=λz=>by obtain⟨o,e,_⟩:=hl0;rw[z,n0]at e;cases e
 have lS:l≠S:=λz=>by obtain⟨o,e,_⟩:=hl0;rw[z,n1]at e;cases e
 have nI:∀ {b o},h0.get? b=some o->b≠I:=λe z=>by rw[z,n0]at e;cases e
 have nS:∀ {b o},h0.get? b=some o->b≠S:=λe z=>by rw[z,n1]at e;cases e
 intro d
 induction d with
 | zero =>
  intro j s v c hd hj hI hv hS k0 hR;have e1:j+1=its.size:=by omega
  have hl:s.heap.IsList l its:=by obtain⟨o,e,r⟩:=hl0;exact⟨o,k0 _ _ e,r⟩
  refine codeAny_builtin F.entry_min_loop ?_;rw[Around.under_plainId F.plain_min_loop _];show wpAny _ A.in1 (seqItems? (.ref S) >>= _) _ _ s;refine wpAny_bind (wpAny_seqItems hS rfl ?_);show wpAny _ A.in1 (tryCatch (pyNext (.ref I)) _ >>= _) _ _ s;refine wpAny_bind (wpAny_tryCatch (wpAny_pyNext_list_end (show A.in1.handled=none from hh) hI hl (by simp;omega) λg x1=>?_))
  have S1:=x1 S _ IS.symm hS;show wpAny _ A.in1 (updateSeq S (λ_=>#[]) >>= _) _ _ _;refine wpAny_bind (wpAny_updateSeq (s:={s with heap:=g}) S1 rfl (wpAny_bind (wpAny_letGo (wpAny_pure ?_))))
  have e2:its.size-1=j:=by omega
  refine hR v _ s.toks (by rw[e2];exact hv) λb o e=>?_
  exact(Heap.get?_update_other _ _ (Ne.symm (nS e))).trans (x1 b o (nI e) (k0 b o e))
 | succ d ih =>
  intro j s v c hd hj hI hv hS k0 hR;have CB:j+1<its.size:=by omega
  have hl:s.heap.IsList l its:=by obtain⟨o,e,r⟩:=hl0;exact⟨o,k0 _ _ e,r⟩
  refine codeAny_builtin F.entry_min_loop ?_;rw[Around.under_plainId F.plain_min_loop _];show wpAny _ A.in1 (seqItems? (.ref S) >>= _) _ _ s;refine wpAny_bind (wpAny_seqItems hS rfl ?_);show wpAny _ A.in1 (tryCatch (pyNext (.ref I)) _ >>= _) _ _ s;have hx:its[j+1]?=some its[j+1]:=by simp [CB]
  refine wpAny_bind (wpAny_tryCatch (wpAny_pyNext_list_item hI hl hx λg I1 x1=>?_));have S1:=x1.extBut S _ IS.symm hS;have k1:∀b o,h0.get? b=some o->g.get? b=some o:=λb o e=>x1.extBut b o (nI e) (k0 b o e);show wpAny _ A.in1 (tryCatch (holding [its[j+1],its[j+1]] (richCompare .Lt its[j+1] v >>= _)) _ >>= _) _ _ _;refine wpAny_bind (wpAny_tryCatch (wpAny_holding (wpAny_bind (hc (j+1) (dE bt j) _ v {s with heap:=g} _ _ hx hv k1 ?_))))
  refine wpAny_bind (wpAny_holding (wpAny_truthy_bool (wpAny_bind (wpAny_letGo (wpAny_pure ?_)))));cases hb:bt (j+1) (dE bt j)with
  | true =>
   simp only[if_true];refine wpAny_bind (wpAny_updateSeq (s:={s with heap:=g}) S1 rfl (wpAny_bind (wpAny_letGo ?_)))
   rw[nm];refine wpAny_pure ⟨plainId_quiet F.plain_min_loop _,ih (j+1) _ its[j+1] _ ⋯ CB ?_ (by simp only[dE,hb,if_true];exact hx) (Heap.get?_update_self _ S1 rfl) (λb o e=>(Heap.get?_update_other _ _ (Ne.symm (nS e))).trans (k1 b o e)) λv' g' tk Ye k'=>?_⟩
   ·obtain⟨o,e,r⟩:=I1;exact⟨o,(Heap.get?_update_other _ _ (Ne.symm IS)).trans e,r⟩
   ·exact hR v' g' tk Ye k'
  | false =>
   simp only[Bool.false_eq_true,if_false];refine wpAny_bind (wpAny_letGo ?_);rw[nm];refine wpAny_pure ⟨plainId_quiet F.plain_min_loop _,ih (j+1) _ v c ⋯ CB I1 (by simp only[dE,hb,Bool.false_eq_true,if_false];exact hv) S1 k1 λv' g' tk Ye k'=>?_⟩
   exact hR v' g' tk Ye k'
theorem yg(a v:Value):argsOk "min" ⟨[a],[(Str.ofString "default",v)]⟩:=by unfold argsOk;kernel_rfl
theorem wN{E:Value->Shared->Prop}{s:Shared}{its:Array Value}{bt:Nat->Nat->Bool}(hh:A.handled=none)(hc:CO prog w A.in1 .Lt s.heap its bt){l:Addr}(hl:s.heap.IsList l its){dv:Value}{Q:Value->Shared->Prop}
  (q0:its.size=0->∀g tk,(∀b o,s.heap.get? b=some o->g.get? b=some o)->Q dv {s with heap:=g,toks:=tk})
  (q1:∀v g tk,its[dE bt (its.size-1)]?=some v->(∀b o,s.heap.get? b=some o->g.get? b=some o)->Q v {s with heap:=g,toks:=tk}):
  wpAny (model prog w) A (call (.builtin "min") [.ref l] [(Str.ofString "default",dv)]) Q E s:=by
 have nm:(toString "min"++toString ".loop":String)="min.loop":=by decide
 refine wpAny_call (codeAny_call_builtin F.plain_min F.entry_min ?_);have run:wpAny (model prog w) A.in1 (Builtin.«min» ⟨[.ref l],[(Str.ofString "default",dv)]⟩) (λfin s'=>match fin with
   | .done f=>(match(Except.ok f:Result)with|.ok (.ret v)=>Q v s'|.ok _=>False|.error e=>E e s')
   | .again c'=>c'.quiet=true/\codeAny (model prog w) A c' (λr s'=>match r with|.ok (.ret v)=>Q v s'|.ok _=>False|.error e=>E e s') s') E s:=by
  show wpAny _ A.in1 (Builtin.Builtins.bindParams "min" ["key","default"] 0 ⟨[],[(Str.ofString "default",dv)]⟩ >>= _) _ _ s;refine wpAny_bind (wpAny_of_eq (show Builtin.Builtins.bindParams "min" ["key","default"] 0 ⟨[],[(Str.ofString "default",dv)]⟩=pure [none,some dv]from rfl) (wpAny_bind (wpAny_pure ?_)))
  refine wpAny_bind (wpAny_pyIter_list hl (wpAny_bind (wpAny_newObj_type ?_)));generalize hg1:s.heap.push {cls:=.type "list_iterator",data:=.fields #[.ref l,.int 0 0]}=g1;have n1:g1.objs.size=s.heap.objs.size+1:=by rw[<- hg1];exact Heap.size_push ..
  have I0:(g1.push {cls:=.type "list",dict:=none,data:=.seq ([]:List Value).toArray}).IsListIter s.heap.objs.size l 0:=⟨_,Heap.get?_push_of_some _ (by rw[<- hg1];exact Heap.get?_push_size _ rfl),rfl,rfl⟩
  have S0:=Heap.get?_push_size g1 (o:={cls:=.type "list",dict:=none,data:=.seq ([]:List Value).toArray}) rfl;have k0:∀b o,s.heap.get? b=some o->(g1.push {cls:=.type "list",dict:=none,data:=.seq ([]:List Value).toArray}).get? b=some o:=λb o e=>Heap.get?_push_of_some _ (by rw[<- hg1];exact Heap.get?_push_of_some _ e)
  have fr:∀a,s.heap.objs.size<=a->s.heap.get? a=none:=λa ha=>by
   cases e:s.heap.get? a with
   | none=>rfl
   | some o=>exact absurd (Heap.lt_size e) (Nat.not_lt.mpr ha)
  have nI:s.heap.get? s.heap.objs.size=none:=fr _ (Nat.le_refl _);have nS:s.heap.get? g1.objs.size=none:=fr _ (by rw[n1];exact Nat.le_succ _)
  have IS:s.heap.objs.size≠g1.objs.size:=by rw[n1];exact Nat.ne_of_lt (Nat.lt_succ_self _)
  rw[nm];refine wpAny_pure ⟨plainId_quiet F.plain_min_loop _,?_⟩;generalize hg2:g1.push {cls:=.type "list",dict:=none,data:=.seq ([]:List Value).toArray}=g2 at I0 S0 k0;have rO:g2.IsList l its:=by obtain⟨o,e,r⟩:=hl;exact⟨o,k0 _ _ e,r⟩
  refine codeAny_builtin F.entry_min_loop ?_;rw[Around.under_plainId F.plain_min_loop _];show wpAny _ A.in1 (seqItems? (.ref g1.objs.size) >>= _) _ _ _;refine wpAny_bind (wpAny_seqItems (s:={s with heap:=g2}) S0 rfl ?_)
  show wpAny _ A.in1 (tryCatch (pyNext (.ref s.heap.objs.size)) _ >>= _) _ _ _
  by_cases hz:its.size=0
  ·refine wpAny_bind (wpAny_tryCatch (wpAny_pyNext_list_end (show A.in1.handled=none from hh) I0 rO (by simp [hz]) λg x1=>?_))
   refine wpAny_bind (wpAny_rule (wpAny_pure ?_));exact q0 hz g s.toks λb o e=>x1 b o (λz=>by rw[z,nI]at e;cases e) (k0 b o e)
  ·have hx:its[0]?=some its[0]:=by simp [Nat.pos_of_ne_zero hz]
   refine wpAny_bind (wpAny_tryCatch (wpAny_pyNext_list_item I0 rO hx λg I1 x1=>?_));have S1:=x1.extBut _ _ IS.symm S0;have k1:∀b o,s.heap.get? b=some o->g.get? b=some o:=λb o e=>x1.extBut b o (λz=>by rw[z,nI]at e;cases e) (k0 b o e)
   show wpAny _ A.in1 (updateSeq g1.objs.size (λ_=>#[its[0],its[0]]) >>= _) _ _ _;refine wpAny_bind (wpAny_updateSeq (s:={s with heap:=g}) S1 rfl ?_)
   rw[nm];refine wpAny_pure ⟨plainId_quiet F.plain_min_loop _,QS hh hc hl IS nI nS _ _ 0 _ its[0] _ rfl (Nat.pos_of_ne_zero hz) ?_ hx (Heap.get?_update_self _ S1 rfl) (λb o e=>(Heap.get?_update_other _ _ (λz=>by rw[<- z,nS]at e;cases e)).trans (k1 b o e)) λv g' tk hv k'=>q1 v g' tk hv k'⟩
   obtain⟨o,e,r⟩:=I1;exact⟨o,(Heap.get?_update_other _ _ (Ne.symm IS)).trans e,r⟩
 simp only[checkBuiltinCall,F.kind_min];cases abq:Manifest.signature? "min" with
 | none=>exact wpAny_pure run
 | some sig =>
  have ha:argsOk "min" ⟨[.ref l],[(Str.ofString "default",dv)]⟩:=yg _ _;have ha':Bind.checkArgs "min" sig ⟨[.ref l],[(Str.ofString "default",dv)]⟩=pure ():=by simpa only[argsOk,abq]using ha
  simp only[ha'];exact wpAny_pure run
end
end Vc
namespace Vc
open PySem L2
variable [KF]
variable {G:GE}{k:Nat}{S:Stat}
def isInt:D->Bool
 | .int _=>true
 | _=>false
def wA:D->Int
 | .int i=>i
 | _=>0
theorem aE.ints{F:Hp}:∀ {vs:List V} {xs:List D},aE F vs xs->xs.all isInt=true->vs=(xs.map wA).map V.int
 | _,_,.nil,_=>rfl
 | _,_,.cons (d:=d) r t,h=>by
  rw[List.all_cons,Bool.and_eq_true]at h;cases d with
  | int i =>
   cases r;rw[aE.ints t h.2];rfl
  | _=>exact absurd h.1 (by simp [isInt])
theorem Dx{X:Cx}(hc:X.calm=true):eG X (.builtin "sum") (λxs H Q=>∃(a:Addr) (ns:List Int),xs=[.ref a]/\jr X.K H a (ns.map V.int)/\Q (.int ns.sum) H):=by
 intro pins s σ H xs us Q I r h;obtain⟨a,ns,rfl,hq,q⟩:=h;obtain⟨u,rfl,ru⟩:=vals1 r;cases ru;obtain⟨its,rv,p,_⟩:=I.list hq;obtain⟨m,F⟩:=I.fr;have hi:=L2.intsAre_of rv;obtain⟨ys,e⟩:=(hi.allInts).items;have pl:=p.isList;rw[e]at pl;refine sum_intListG (I.ok.hd hc) pl λg tk t' kp=>⟨.int ns.sum,H,I.kept kp,⟨t',?_⟩,q⟩;have e1:preSum (numAt ys) ys.size=(PySem.numsOf its.toArray.toList).sum:=by
  rw[e,nums_intItems,preSum_eq,List.take_of_length_le (by simp)]
 rw[e1,show its.toArray.toList=its from rfl,hi.numsOf]
def sumF:List D->(EV->Prop)->Prop
 | [.lst xs],Q=>xs.all isInt=true/\Q (.val (.int (xs.map wA).sum))
 | _,_=>False
theorem LX(hh:S.jG=false:=by rfl):CK G k S (.builtin "sum") sumF:=⟨λK xs H Q=>∃(a:Addr) (ns:List Int),xs=[V.ref a]/\jr K H a (ns.map V.int)/\Q (.int ns.sum) H,λ_ _ ok=>Dx (ok.calm hh),λY F H aj σ vs ds Qd Q R r q g=>by
 unfold sumF at q
 split at q
 ·obtain⟨v,rfl,rv⟩:=r.one
  obtain⟨p,us,rfl,h1,h2⟩:=rv.lst;refine⟨p,_,rfl,?_,g.val R (.int _) q.2⟩;rw[<- h2.ints q.1];exact .inl h1
 ·exact q.elim⟩
def KY:D->Option String
 | .aU=>some "NoneType"
 | .bl _=>some "bool"
 | .int _=>some "int"
 | .str _=>some "str"
 | .lst _=>some "list"
 | .tup _=>some "tuple"
 | _=>none
def xE(T U:String):Bool:=T==U||(T=="bool"&&U=="int")
def sD(U:String):Prop:=∀K:PySem.W.Frag,PySem.W.kitOne K (.type "NoneType") (.type U)=some (xE "NoneType" U)/\PySem.W.kitOne K (.type "bool") (.type U)=some (xE "bool" U)/\PySem.W.kitOne K (.type "int") (.type U)=some (xE "int" U) /\
 PySem.W.kitOne K (.type "str") (.type U)=some (xE "str" U)/\PySem.W.kitOne K (.type "list") (.type U)=some (xE "list" U)/\PySem.W.kitOne K (.type "tuple") (.type U)=some (xE "tuple" U)
theorem sD.of{U:String}(h:sD U)(K:PySem.W.Frag){d:D}{T:String}(e:KY d=some T):PySem.W.kitOne K (.type T) (.type U)=some (xE T U):=by
 obtain⟨h1,h2,h3,h4,h5,h6⟩:=h K;cases d<;>cases e<;>assumption
theorem b7.ty{F H:Hp}{v:V}{d:D}{T:String}(r:b7 F H v d)(s:au F H)(K:PySem.W.Frag)(e:KY d=some T):mD K H v (.type T):=by
 cases d with
 | aU=>cases e;obtain rfl:=r.aU;exact .aU
 | bl b=>cases e;obtain rfl:=r.bl;exact .bl b
 | int i=>cases e;obtain rfl:=r.int;exact .int i
 | str x=>cases e;obtain rfl:=r.str;exact .str x
 | lst xs =>
  cases e;obtain⟨a,vs,rfl,h,_⟩:=r.lst;rcases h with h|⟨o,h⟩
  ·exact .lst h
  ·exact .tH h
 | tup xs=>cases e;obtain⟨a,vs,rfl,h,_⟩:=r.tup s;exact .tup h
 | dct _=>cases e
 | exc _=>cases e
 | hW _=>cases e
 | jt _=>cases e
 | kp _ _ _ _=>cases e
end Vc
namespace Vc
open PySem L2
variable [KF]
variable {G:GE}{k:Nat}{S:Stat}
def mR:D->Bool
 | .tup xs=>xs.all isInt
 | _=>false
def ltI:D->D->Bool
 | .int i,.int j=>decide (i<j)
 | .tup xs,.tup ys=>HT.lexLt (xs.map wA) (ys.map wA)
 | _,_=>false
def nC:List D->Option D
 | []=>none
 | x::xs=>some (xs.foldl (λb y=>if ltI y b=true then y else b) x)
def xT(xs:List D)(i j:Nat):Bool:=ltI (xs.getD i .aU) (xs.getD j .aU)
theorem o4(xs:List D)(x:D):∀n,n<(x::xs).length->(x::xs).getD (dE (xT (x::xs)) n) .aU=(xs.take n).foldl (λb y=>if ltI y b=true then y else b) x
 | 0,_=>rfl
 | n+1,h=>by
  have ih:=o4 xs x n (by simp at h ⊢;omega)
  have hl:n<xs.length:=by simpa using h
  have gx:(x::xs).getD (n+1) .aU=xs[n]:=by
   rw[List.getD_eq_getElem?_getD,List.getElem?_cons_succ,List.getElem?_eq_getElem hl];rfl
  rw[List.take_add_one,List.getElem?_eq_getElem hl,Option.toList_some,List.foldl_append,List.foldl_cons,List.foldl_nil,<- ih];have e:xT (x::xs) (n+1) (dE (xT (x::xs)) n)=ltI xs[n] ((x::xs).getD (dE (xT (x::xs)) n) .aU):=by
   unfold xT;rw[gx]
  show(x::xs).getD (if xT (x::xs) (n+1) (dE (xT (x::xs)) n)=true then n+1 else dE (xT (x::xs)) n) .aU=_
  rw[e]
  split
  ·exact gx
  ·rfl
theorem sQ{xs:List D}(h:xs≠[]):nC xs=some (xs.getD (dE (xT xs) (xs.length-1)) .aU):=by
 cases xs with
 | nil=>exact absurd rfl h
 | cons x xs =>
  have:=o4 xs x xs.length (by simp)
  have e:(x::xs).length-1=xs.length:=by simp
  rw[e,this,List.take_length];rfl
theorem Nt{X:Cx}{pins:List (Addr×Obj)}{σ:St}{H F:Hp}{s:Shared}(I:L2.Inv X pins σ H s)(sm:au F H)(hu:X.A.in1.units<cLine){vs:List V}{xs:List D}{its:List Value}(rl:aE F vs xs)(rv:Vals vs its)(hc:xs.all isInt=true\/xs.all mR=true):
  CO X.prog X.w X.A.in1 .Lt s.heap its.toArray (xT xs):=by
 intro i j x y s' Q E ex ey kp q;have rC:its[i]?=some x:=by simpa using ex
 have ey':its[j]?=some y:=by simpa using ey
 have back:∀ {n z},its[n]?=some z->∃v d,vs[n]?=some v/\xs[n]?=some d/\RelV v z/\Rep F v d:=λ{n z} e=>by
  have hl:n<vs.length:=by rw[rv.length];exact(List.getElem?_eq_some_iff.mp e).1
  have ev:vs[n]?=some vs[n]:=List.getElem?_eq_getElem hl;obtain⟨d,e1,e2⟩:=rl.get' ev;obtain⟨u,e3,e4⟩:=rv.get ev;rw[e]at e3;cases e3;exact⟨_,d,ev,e1,e4,e2⟩
 obtain⟨v,d,_,hd,r1,p1⟩:=back rC;obtain⟨u,e,_,he,r2,p2⟩:=back ey';have bt:xT xs i j=ltI d e:=by
  unfold xT;rw[List.getD_eq_getElem?_getD,List.getD_eq_getElem?_getD,hd,he];rfl
 rw[bt]at q;have md:d∈xs:=List.mem_of_getElem? hd;have me:e∈xs:=List.mem_of_getElem? he;show wpAny _ _ (compareOp .Lt x y) _ _ _;rcases hc with hc|hc
 ·have h1:=List.all_eq_true.mp hc d md
  have h2:=List.all_eq_true.mp hc e me;cases d with
  | int a =>
   cases e with
   | int b =>
    cases p1;cases p2;obtain⟨t,rfl⟩:=r1;obtain⟨t',rfl⟩:=r2;exact PyProof.Rows.lt_int q
   | _=>exact absurd h2 (by simp [isInt])
  | _=>exact absurd h1 (by simp [isInt])
 ·have h1:=List.all_eq_true.mp hc d md
  have h2:=List.all_eq_true.mp hc e me;cases d with
  | tup as =>
   cases e with
   | tup bs =>
    cases p1 with
    | tup hf rf =>
     cases p2 with
     | tup hg rg =>
      cases r1;cases r2;rename_i va vas vb vbs;obtain⟨_,ia,wa,oa,ga,ca⟩:=I.bc _ _ (sm _ _ hf);obtain⟨_,ib,wb,ob,gb,cb⟩:=I.bc _ _ (sm _ _ hg);rw[rf.ints h1]at wa;rw[rg.ints h2]at wb;exact HT.yv ⟨oa,kp _ _ ga,ca⟩ ⟨ob,kp _ _ gb,cb⟩ (L2.intsAre_of wa) (L2.intsAre_of wb) hu q
   | _=>exact absurd h2 (by simp [mR])
  | _=>exact absurd h1 (by simp [mR])
def KO(t:TV)(td:TD):TV:=λσ Q=>t σ λx aw=>td aw λdv aO=>match dc aO x with
 | some (.lst xs)=>(xs.all isInt=true\/xs.all mR=true)/\Q (.val ((nC xs).getD dv)) aO
 | _=>False
theorem Mp{e d:Expr}{t:TV}{td:TD}{p kp pos:Pos}(h:EO G k S e t)(hd:ED G k S d td)(hm:G.mg "min"=none)(hg:S.sc.lookup ("min":Str)=some .globalImplicit:=by rfl)
  (he:∀env,starEach [e] env=[(false,eval e env)]:=by intro _;rfl) (hh:S.jG=false:=by rfl):EO G k S (.Call (.Name "min" p) [e] [⟨some "default",d,kp⟩] pos) (KO t td):=.mk λX Y ok=>by
 intro pins s σ H Q I q;obtain⟨F,aj,Qd,R,q,K⟩:=q;refine wpAny_Call_Name_kw (j9 (u:=.builtin "min") I (di ok hg) (by rw[ok.mg];exact hm) (by decide +kernel) ?_ ∅ ∅)
 have ha:PA X [e] (jS (lO Y t) qS):=cL (h X Y ok) hG (by rw[he];rfl)
 have hk:PK X [⟨some "default",d,kp⟩] (jS (lD Y td) qS):=Kf (hd X Y ok) SW;have hA:=ha pos pins s σ H (λvs H1=>∃v1 F1 x aw,vs=[v1]/\au F F1/\RS Y F1 aw σ H1/\yc F1 σ v1 x/\td aw (λdv aO=>match dc aO x with
   | some (.lst xs)=>(xs.all isInt=true\/xs.all mR=true)/\Qd (.val ((nC xs).getD dv)) aO
   | _=>False)) I ⟨F,aj,_,R,q,λv1 H1 F1 x aw s1 R1 r1 q1=>⟨v1,F1,x,aw,rfl,s1,R1,r1,q1⟩⟩
 refine PyProof.Rows.callWith_kw (env:=X.env) (ck hA λus s1 h1=>?_) (by rw[he];rfl) (by rw[he];rfl) rfl rfl
 obtain⟨vs,H1,I1,rvs,v1,F1,x,aw,rfl,Ii,R1,r1,q1⟩:=h1;obtain⟨u1,rfl,ru1⟩:=vals1 rvs;refine ck (hk pos pins s1 σ H1 (λvs H2=>∃v2 F2 dv aO,vs=[v2]/\au F1 F2/\RS Y F2 aO σ H2/\Rep F2 v2 dv/\(match dc aO x with
   | some (.lst xs)=>(xs.all isInt=true\/xs.all mR=true)/\Qd (.val ((nC xs).getD dv)) aO
   | _=>False)) I1 ⟨F1,aw,_,R1,q1,λv2 H2 F2 dv aO s2 R2 r2 q2=>⟨v2,F2,dv,aO,rfl,s2,R2,r2,q2⟩⟩) λws s2 h2=>?_
 obtain⟨vs2,H2,I2,abX,v2,F2,dv,aO,rfl,sm2,R2,r2,q2⟩:=h2;obtain⟨u2,rfl,ru2⟩:=vals1 abX
 split at q2
 ·rename_i xs ex
  obtain⟨hc,q2⟩:=q2;obtain⟨a,vs,rfl,hrd,rl⟩:=(R2.dc (r1.mono sm2) ex).lst;cases ru1;obtain⟨its,rv,pl,_⟩:=I2.list (show jr X.K H2 a vs from .inl hrd)
  have hu:X.A.in1.units<cLine:=by
   have:=ok.units;show X.A.units+1<cLine;omega
  have Jo:=Nt I2 R2.fr hu rl rv hc;have len:its.toArray.size=xs.length:=by rw[List.size_toArray,<- rv.length,rl.length]
  refine wN (I2.ok.hd (ok.calm hh)) Jo pl.isList (λhz g tk kp=>?_) λz g tk hz kp=>?_
  ·have:xs=[]:=List.length_eq_zero_iff.mp (by rw[<- len];exact hz)
   subst this;exact⟨v2,H2,I2.kept kp,ru2,K v2 H2 F2 (.val dv) aO (Ii.trans sm2) R2 r2 q2⟩
  ·have hz':its[dE (xT xs) (xs.length-1)]?=some z:=by rw[len]at hz;simpa using hz
   have cT:xs≠[]:=λe=>by
    subst e;have:its=[]:=List.length_eq_zero_iff.mp (by rw[<- rv.length,rl.length];rfl)
    rw[this]at hz';simp at hz'
   have hl:dE (xT xs) (xs.length-1)<vs.length:=by rw[rv.length];exact(List.getElem?_eq_some_iff.mp hz').1
   have ev:vs[dE (xT xs) (xs.length-1)]?=some vs[dE (xT xs) (xs.length-1)]:=List.getElem?_eq_getElem hl;obtain⟨dd,e1,e2⟩:=rl.get' ev;obtain⟨zz,e3,e4⟩:=rv.get ev;rw[hz']at e3;cases e3;have eb:nC xs=some dd:=by rw[sQ cT,List.getD_eq_getElem?_getD,e1];rfl
   rw[eb]at q2;exact⟨_,H2,I2.kept kp,e4,K _ H2 F2 (.val dd) aO (Ii.trans sm2) R2 e2 q2⟩
 ·exact q2.elim
end Vc
namespace Vc
open PySem L2
variable [KF]
variable {G:GE}{k:Nat}{S:Stat}
theorem EL{g:nX}{tb:bK}{De:jM}{items:List D}(I:Nat->Sd->Prop)
  (Fw:∀i x σ (N:Sd->Prop),items[i]?=some x->I i σ->(∀bS,I (i+1) bS->N bS)->g x σ λaw=>tb {nx:=N,rt:=De.rt,bk:=De.nx,ct:=N} aw)
  (tK:∀σ,I items.length σ->De.nx σ) {σ:Sd} (h0:I 0 σ):wo g tb De items σ:=by
 have key:∀(xs:List D) (i:Nat) (σ:Sd),items.drop i=xs->i<=items.length->I i σ->wo g tb De xs σ:=by
  intro xs
  induction xs with
  | nil =>
   intro i σ e l h;have:items.length<=i:=List.drop_eq_nil_iff.mp e;exact tK σ ((Nat.le_antisymm l this) ▸ h)
  | cons x r ih =>
   intro i σ e l h;have hx:items[i]?=some x:=by
    have:=congrArg (·[0]?) e
    simpa using this
   have hr:items.drop (i+1)=r:=by rw[<- List.drop_drop,e];rfl
   have hl:i<items.length:=(List.getElem?_eq_some_iff.mp hx).1;exact Fw i x σ _ hx h λbS h'=>ih (i+1) bS hr hl h'
 exact key items 0 σ rfl (Nat.zero_le _) h0
theorem iV{α:Type}{g:nX}{tc:TB}{te:TD}{σ0:Sd}{Q:List D->Prop}(gi:α->D)(f:α->Option D)(l:List α)
  (h:∀a∈l,∀(A:D->Prop) (Bn:Prop),(match f a with|some d=>A d|none=>Bn)->g (gi a) σ0 λaw=>tc aw λb aO=>if b=true then te aO λd fe=>mW σ0 fe/\A d else mW σ0 aO/\Bn)
  (hl:l.length<=sizeLine) (q:Q (l.filterMap f)):iq g tc te σ0 (l.map gi) [] Q:=by
 have key:∀(l:List α) (acc:List D),(∀a∈l,∀(A:D->Prop) (Bn:Prop),(match f a with|some d=>A d|none=>Bn)->g (gi a) σ0 λaw=>tc aw λb aO=>if b=true then te aO λd fe=>mW σ0 fe/\A d else mW σ0 aO/\Bn) ->
   acc.length+l.length<=sizeLine->Q (acc++l.filterMap f)->iq g tc te σ0 (l.map gi) acc Q:=by
  intro l
  induction l with
  | nil=>intro acc _ _ q;simpa [iq]using q
  | cons a l ih =>
   intro acc h hl q;rw[List.length_cons]at hl;rw[List.map_cons];refine h a (List.mem_cons_self ..) (λd=>acc.length<sizeLine/\iq g tc te σ0 (l.map gi) (acc++[d]) Q) (iq g tc te σ0 (l.map gi) acc Q) ?_;have hr:=λy hy=>h y (List.mem_cons_of_mem _ hy);cases e:f a with
   | some d =>
    refine⟨by omega,ih _ hr (by rw[List.length_append,List.length_singleton];omega) ?_⟩
    rw[List.filterMap_cons_some e]at q
    rwa [List.append_assoc]
   | none =>
    refine ih acc hr ⋯ ?_
    rwa [List.filterMap_cons_none e]at q
 exact key l [] h (by simpa using hl) q
theorem dz{α:Type}{g:nX}{te:TD}{σ0:Sd}{Q:List D->Prop}(gi f:α->D)(l:List α)
  (h:∀a∈l,∀(A:D->Prop),A (f a)->g (gi a) σ0 λaw=>te aw λd fe=>mW σ0 fe/\A d)
  (hl:l.length<=sizeLine) (q:Q (l.map f)):iq g dj te σ0 (l.map gi) [] Q:=
 iV gi (λx=>some (f x)) l (λx hx A Bn ha=>h x hx A ha) hl (by simpa using q)
theorem gU{α:Type}{g:nX}{tb:bK}{De:jM}(gi:α->D)(l:List α)(I:Nat->Sd->Prop)
  (Fw:∀i a σ (N:Sd->Prop),l[i]?=some a->I i σ->(∀bS,I (i+1) bS->N bS)->g (gi a) σ λaw=>tb {nx:=N,rt:=De.rt,bk:=De.nx,ct:=N} aw)
  (tK:∀σ,I l.length σ->De.nx σ) {σ:Sd} (h0:I 0 σ):wo g tb De (l.map gi) σ:=by
 refine EL I (λi x σ N hx hI hN=>?_) (λσ h=>tK σ (by rwa [List.length_map]at h)) h0
 rw[List.getElem?_map]at hx;cases e:l[i]? with
 | none=>rw[e]at hx;cases hx
 | some a=>rw[e]at hx;cases hx;exact Fw i a σ N e hI hN
theorem gH(lo:Int)(n:Nat):Cg lo n=(List.range n).map λi=>.int (lo+(i:Nat)):=rfl
theorem HM{α β:Type}(f:α->D)(g:β->D)(xs:List α)(ys:List β):xQ (xs.map f) (ys.map g)=(xs.zip ys).map λp=>.tup [f p.1,g p.2]:=by
 unfold xQ;rw[List.zip_map,List.map_map];rfl
theorem sO{α:Type}{xs:List α}{n:Nat}{d:α}(h:xs[n]?=some d):L2.nY xs (n:Int)=some d:=by
 have hn:=(List.getElem?_eq_some_iff.mp h).1;unfold L2.nY L2.As;rw[if_pos (Int.natCast_nonneg n),if_pos ⋯]
 show xs[(n:Int).toNat]?=some d;rw[Int.toNat_natCast];exact h
theorem bL{xs:List D}{n:Nat}{i:Int}{d:D}{Q:D->Prop}(e:i=(n:Int))(h:xs[n]?=some d)(q:Q d):JB (.lst xs) (.int i) Q:=by
 subst e;show(match L2.nY xs (n:Int)with|some d=>Q d|none=>False)
 rw[sO h];exact q
theorem eg{xs:List D}{n:Nat}{i:Int}{d:D}{Q:D->Prop}(e:i=(n:Int))(h:xs[n]?=some d)(q:Q d):JB (.tup xs) (.int i) Q:=by
 subst e;show(match L2.nY xs (n:Int)with|some d=>Q d|none=>False)
 rw[sO h];exact q
theorem j8{xs:List D}{i:Int}{Q:D->Prop}(h0:0<=i)(h1:i<xs.length)(h:∀d∈xs,Q d):JB (.lst xs) (.int i) Q:=by
 have hn:i.toNat<xs.length:=by omega
 exact bL (n:=i.toNat) ⋯ (List.getElem?_eq_getElem hn) (h _ (List.getElem_mem hn))
structure dy(G:GE)(x:Str)(st:Stmt)(ps:List Str)(f:Addr)(fd:FuncData):Prop where
 F:xZ G.K x x st f fd
 m:G.mg x=some (.ref f)
 b:Binds G.K fd ps []
theorem dy.fg{x:Str}{st:Stmt}{ps N:List Str}{f:Addr}{fd:FuncData}{t:bK}{sp:bA}(d:dy G x st ps f fd)(hK:G.K=KF.K)(Sc:aC N ps (ae st))(ht:cB G k ⟨N,(ae st).names,[],false,false,false,λ_ _=>False⟩ (ak st) t)
  (len:∀ds Q,sp ds Q->ds.length=ps.length) (body:∀ds Q,sp ds Q->t {nx:=λ_=>Q (.sh .aU),rt:=λb _=>Q b} (aJ N.length ds)):eX G (k+1) x sp:=
 ⟨f,fd,ps,EJ hK d.F Sc ht len body,d.m,d.F.kp,d.b⟩
theorem ao{t u:bK}{De:jM}{σ:Sd}(h:∀N,N=u De->t {nx:=N,rt:=De.rt,bk:=De.bk,ct:=De.ct} σ):bQ t u De σ:=h _ rfl
end Vc
namespace Vs
open PySem PyProof.Rows
def R(ρ:Keyed->Nat)(xs:Array Keyed)(i:Nat):Nat:=match xs[i]? with
 | some p=>ρ p
 | none=>0
section
variable {M:Model}{A:Around}{E:Value->Shared->Prop}{s:Shared}{ρ:Keyed->Nat}{kd:SortKind}{P:Keyed->Prop}{aaQ:Array Keyed}
local macro_rules|`(tactic| walk_at "s_tail")=>`(tactic| (funext s3;obtain⟨r3,n3⟩:=s3;cases r3<;>rfl))
local macro_rules|`(tactic| walk_at "s_t3")=>`(tactic| (congr 1;funext _w;congr 1;walk_at "s_tail"))
local macro_rules|`(tactic| walk_at "s_desc")=>`(tactic| (congr 1;funext _u;congr 1;congr 1;funext s2;obtain⟨r2,n2,q2⟩:=s2;cases r2 with
  | some r2=>rfl
  | none=>(dsimp only;split;(congr 1;funext _v;walk_at "s_t3");walk_at "s_t3")))
end
end Vs
namespace Vs
open PySem PyProof.Rows
def So(ρ:Keyed->Nat)(l:List Keyed):Prop:=l.Pairwise λx y=>ρ x<=ρ y
structure J(ρ:Keyed->Nat)(L O A B:List Keyed):Prop where
 o:So ρ O
 a:So ρ A
 b:So ρ B
 oa:∀x∈O,∀y∈A,ρ x<=ρ y
 ob:∀x∈O,∀y∈B,ρ x<=ρ y
 p:(O++(A++B)).Perm L
def Good(ρ:Keyed->Nat)(L r:List Keyed):Prop:=So ρ r/\r.Perm L
structure Kp(st Cm:SortSt):Prop where
 a:arrOf Cm=arrOf st
 k:kindOf Cm=kindOf st
 p:pendingOf Cm=pendingOf st
 f:failedOf Cm=failedOf st
end Vs
namespace Vs
open PySem PyProof.Rows
section
variable {M:Model}{Ar:Around}{E:Value->Shared->Prop}{s:Shared}{ρ:Keyed->Nat}{kd:SortKind}{P:Keyed->Prop}{a b out:Array Keyed}{L:List Keyed}{ia ib:Nat}
abbrev GS:=Option (Array Keyed)×Array Keyed×Nat×Nat×Nat×Nat×Nat
def V(ρ:Keyed->Nat)(L:List Keyed)(a b out:Array Keyed)(ia ib:Nat):Prop:=J ρ L out.toList (a.toList.drop ia) (b.toList.drop ib)
def Left(ρ:Keyed->Nat)(L:List Keyed)(a b:Array Keyed)(t:Nat)(out:Array Keyed)(ia ib:Nat):Prop:=V ρ L a b out ia ib/\ia+1<a.size/\ib<b.size/\t<=ia+ib
def PG(ρ:Keyed->Nat)(L:List Keyed)(a b:Array Keyed)(t:Nat)(st0:SortSt)(r:ForInStep GS)(st:SortSt):Prop:=Kp st0 st/\match r with
 | .done c=>(∃arr,c.1=some arr/\Good ρ L arr.toList)\/(c.1=none/\Left ρ L a b t c.2.1 c.2.2.1 c.2.2.2.1)
 | .yield c=>c.1=none/\Left ρ L a b t c.2.1 c.2.2.1 c.2.2.2.1
abbrev IS:=Option (Array Keyed)×Array Keyed×Nat×Nat×Nat×Nat
abbrev OS:=Option (Array Keyed)×Array Keyed×Nat×Nat×Nat
def PO(ρ:Keyed->Nat)(L:List Keyed)(a b:Array Keyed)(t:Nat)(st0:SortSt)(r:ForInStep OS)(st:SortSt):Prop:=match r with
 | .done c=>Kp st0 st/\∃arr,c.1=some arr/\Good ρ L arr.toList
 | .yield c=>Kp st0 st/\c.1=none/\Left ρ L a b t c.2.1 c.2.2.1 c.2.2.2.1
end
end Vs
namespace Vs
open PySem PyProof.Rows
structure H(ρ:Keyed->Nat)(L O A B:List Keyed):Prop where
 o:So ρ O
 a:So ρ A
 b:So ρ B
 oa:∀x∈A,∀y∈O,ρ x<=ρ y
 ob:∀x∈B,∀y∈O,ρ x<=ρ y
 p:(A++(B++O)).Perm L
section
variable {M:Model}{Ar:Around}{E:Value->Shared->Prop}{s:Shared}{ρ:Keyed->Nat}{kd:SortKind}{P:Keyed->Prop}{a b out:Array Keyed}{L:List Keyed}{na nb:Nat}
def W(ρ:Keyed->Nat)(L:List Keyed)(a b out:Array Keyed)(na nb:Nat):Prop:=H ρ L out.toList.reverse (a.toList.take na) (b.toList.take nb)
end
end Vs
namespace Vs
open PySem PyProof.Rows
section
variable {M:Model}{Ar:Around}{E:Value->Shared->Prop}{s:Shared}{ρ:Keyed->Nat}{kd:SortKind}{P:Keyed->Prop}{aaQ:Array Keyed}
def uf(lo n:Nat):StateT SortSt Sem (ForInStep (Option Unit×Nat)):=do
 modify λs=>setPending s ((pendingOf s).push (lo,n,0))
 pure (ForInStep.yield (none,lo+n))
def rY(size pw:Nat):StateT SortSt Sem (Option Unit×Unit):=
 forIn [:size] ((none,()):Option Unit×Unit) λ_ _=>do
  let x <- get
  match(if(pendingOf x).size>1 then(pendingOf x)[(pendingOf x).size-2]? else none)with
  | some (_,_,Zh) =>
   if Zh<=pw then pure (ForInStep.done (none,()))
   else do
    let r <- mergeAt' ((pendingOf x).size-2)
    if(!r)=true then pure (ForInStep.done (some (),()))else pure (ForInStep.yield (none,()))
  | _=>pure (ForInStep.done (none,()))
def Kt(size lo n:Nat):StateT SortSt Sem (ForInStep (Option Unit×Nat)):=do
 let x <- get
 match(pendingOf x).back? with
 | some (s1,n1,_)=>do
  let r <- rY size (power' size (2*s1+n1) (2*s1+n1+n1+n) size)
  match r.fst with
  | some r=>pure (ForInStep.done (some r,lo))
  | none=>do
   modify λs=>setPending s ((pendingOf s).modify ((pendingOf s).size-1) λx=>(x.fst,x.2.fst,power' size (2*s1+n1) (2*s1+n1+n1+n) size))
   uf lo n
 | _=>uf lo n
local macro_rules|`(tactic| walk_at "s_rest")=>`(tactic| (unfold Kt rY uf;congr 1;funext x;cases e:(pendingOf x).back? with
  | none=>rfl
  | some y=>(obtain⟨s1,n1,p1⟩:=y;dsimp only;congr 1;funext r;obtain⟨r1,r2⟩:=r;cases r1<;>rfl)))
end
end Vs
namespace Vs
open PySem PyProof.Rows PySem.W
theorem gy:∀a:List Int,HT.lexLt a a=false
 | []=>rfl
 | x::a=>by rw[HT.g0,if_pos rfl];exact gy a
theorem kO:∀a b c:List Int,HT.lexLt a b=true->HT.lexLt b c=true->HT.lexLt a c=true
 | [],[],_,h,_=>by cases h
 | [],_::_,[],_,h=>by cases h
 | [],_::_,_::_,_,_=>rfl
 | _::_,[],_,h,_=>by cases h
 | _::_,_::_,[],_,h=>by cases h
 | x::a,y::b,z::c,h1,h2=>by
  rw[HT.g0]at h1 h2 ⊢
  by_cases e1:x=y
  ·rw[if_pos e1]at h1
   by_cases e2:y=z
   ·rw[if_pos e2]at h2
    rw[if_pos (e1.trans e2)];exact kO a b c h1 h2
   ·rw[if_neg e2]at h2
    have:=of_decide_eq_true h2;rw[if_neg ⋯];exact decide_eq_true ⋯
  ·rw[if_neg e1]at h1
   have h1:=of_decide_eq_true h1
   by_cases e2:y=z
   ·rw[if_neg ⋯];exact decide_eq_true ⋯
   ·rw[if_neg e2]at h2
    have:=of_decide_eq_true h2;rw[if_neg ⋯];exact decide_eq_true ⋯
theorem yw:∀a b:List Int,HT.lexLt a b=false->HT.lexLt b a=false->a=b
 | [],[],_,_=>rfl
 | [],_::_,h,_=>by cases h
 | _::_,[],_,h=>by cases h
 | x::a,y::b,h1,h2=>by
  rw[HT.g0]at h1 h2
  by_cases e1:x=y
  ·rw[if_pos e1]at h1
   rw[if_pos e1.symm]at h2;rw[e1,yw a b h1 h2]
  ·rw[if_neg e1]at h1
   rw[if_neg (Ne.symm e1)]at h2;have:=of_decide_eq_false h1;have:=of_decide_eq_false h2;omega
end Vs
namespace Vc
open PySem L2
variable [KF]
variable {G:GE}{k:Nat}{S:Stat}
def i7:D->List Int
 | .tup xs=>xs.map wA
 | .int i=>[i]
 | _=>[]
def tQ(x y:D):Bool:=!HT.lexLt (i7 y) (i7 x)
def xA(xs:List D):List D:=xs.mergeSort tQ
def wz:D->Bool
 | .tup xs=>xs.all isInt&&!xs.isEmpty
 | _=>false
theorem mV(a b c:D)(h1:tQ a b=true)(h2:tQ b c=true):tQ a c=true:=by
 unfold tQ at *;simp only[Bool.not_eq_true']at *;cases e:HT.lexLt (i7 c) (i7 a)with
 | false=>rfl
 | true =>
  cases e2:HT.lexLt (i7 c) (i7 b)with
  | true=>rw[h2]at e2;cases e2
  | false =>
   cases e3:HT.lexLt (i7 b) (i7 c)with
   | true=>rw[Vs.kO _ _ _ e3 e]at h1;cases h1
   | false=>rw[Vs.yw _ _ e2 e3]at e;rw[e]at h1;cases h1
theorem BW(a b:D):(tQ a b||tQ b a)=true:=by
 unfold tQ;cases e:HT.lexLt (i7 b) (i7 a)with
 | false=>rfl
 | true =>
  cases e2:HT.lexLt (i7 a) (i7 b)with
  | false=>rfl
  | true=>have:=Vs.kO _ _ _ e e2;rw[Vs.gy]at this;cases this
theorem qd(xs:List D):(xA xs).Perm xs:=List.mergeSort_perm xs tQ
theorem uy(xs:List D):(xA xs).Pairwise λx y=>tQ x y=true:=List.pairwise_mergeSort mV BW xs
theorem ints_map:∀ {xs:List D},xs.all isInt=true->(xs.map wA).map D.int=xs
 | [],_=>rfl
 | x::xs,h=>by
  rw[List.all_cons,Bool.and_eq_true]at h;cases x with
  | int i=>rw[List.map_cons,List.map_cons,ints_map h.2];rfl
  | _=>exact absurd h.1 (by simp [isInt])
theorem oG{d:D}(h:wz d=true):d=.tup ((i7 d).map D.int):=by
 cases d with
 | tup xs =>
  unfold wz at h;rw[Bool.and_eq_true]at h;show D.tup xs=.tup ((xs.map wA).map D.int);rw[ints_map h.1]
 | _=>exact absurd h (by simp [wz])
end Vc
namespace Vc
open PySem L2
variable [KF]
variable {G:GE}{k:Nat}{S:Stat}
def Fz(i:Nat)(j:Int)(d:D)(σ:Sd)(Q:Sd->Prop):Prop:=match σ[i]? with
 | some (some (.own xs))=>match As xs.length j with
  | some m=>Q (σ.set i (some (.own (xs.set m d))))
  | none=>False
 | _=>False
def xH(i:Nat)(tx:TV)(te:TD):bK:=λDe σ=>te σ λd aw=>Ap aw i/\tx aw λy aO=>match dc aO y with
 | some (.int j)=>Fz i j d aO De.nx
 | _=>False
theorem Kj{X:Cx}{st:Stmt}{t t':TS}(h:PS X st t)(i:∀Dn σ H,t' Dn σ H->t Dn σ H):PS X st t':=λpins s σ H Dn I q=>h pins s σ H Dn I (i Dn σ H q)
theorem yT(i:Nat){x:Str}{ix e:Expr}{tx:TV}{te:TD}{pos iC jI:Pos}(he:ED G k S e te)(hx:EO G k S ix tx)(ho:EO G k S (.Name x jI) (ag i))
  (hs:∀line env,swapsWithSole [.Subscript (.Name x jI) ix iC] e line env=pure false:=by intro _ _;rfl) (hw:∀env,swappedStores [.Subscript (.Name x jI) ix iC] e env=pure none:=by intro _;rfl)
  (h1:∀env,(assignEach [.Subscript (.Name x jI) ix iC] env).map (·.2)=[assign (.Subscript (.Name x jI) ix iC) env]:=by intro _;rfl)
  (ha:∀env v,assign (.Subscript (.Name x jI) ix iC) env v=(do
   let ov <- holding [v] (eval (.Name x jI) env)
   let iv <- holding [v,ov] (eval ix env)
   standAt iC
   holding [v,ov,iv] (setItem ov iv v)
   release [v,ov,iv] []):=by intro _ _;rfl):ES G k S (.Assign [.Subscript (.Name x jI) ix iC] e pos) (xH i tx te):=.mk λX Y ok =>
 Kj (Tw (he X Y ok) (SN (ho X Y ok) (hx X Y ok) set_list (ha _)) (hs _ _) (hw _) (h1 _)) λDn σ H q=>by
  obtain⟨F,aj,De,R,q,K⟩:=q;refine⟨F,aj,_,R,q,λv H1 F1 d aw s1 R1 r1 q1=>?_⟩;obtain⟨⟨ys,e0⟩,q1⟩:=q1;refine⟨F1,aw,λov aO=>ov=.var i/\aO=aw,R1,?_,λv2 H2 F2 ov aO s2 R2 r2 q2=>?_⟩
  ·unfold ag;rw[e0];exact⟨rfl,rfl⟩
  ·obtain⟨rfl,rfl⟩:=q2
   have r2:σ[i]?=some (some v2):=r2;refine⟨F2,aO,_,R2,q1,λv3 H3 F3 y fe s3 R3 r3 q3=>?_⟩
   split at q3
   ·rename_i j ej
    unfold Fz at q3
    split at q3
    ·rename_i xs ex
     split at q3
     ·rename_i m em
      obtain⟨a,vs,w1,w2,w3,w4,w5⟩:=R3.own i xs ex;rw[r2]at w1;cases w1;have rj:=(R3.dc r3 ej).int;subst rj;refine⟨a,vs,j,m,rfl,rfl,w2,by rw[w3.length];exact em,?_⟩
      exact K.nx _ _ F3 _ ((s1.trans s2).trans s3) (R3.write ex r2 (aE.set ((r1.mono s2).mono s3) m w3)) q3
     ·exact q3.elim
    ·exact q3.elim
   ·exact q3.elim
abbrev iE:=List D->List D->(B->List D->Prop)->Prop
def uB(sp:iE):Sp:=λvs H Q _=>∃F xs ds a us rest Qd,vs=.ref a::rest/\jO F H/\H a=some (.lst us)/\aE F us xs/\F a=none/\aE F rest ds/\sp xs ds Qd /\
 ∀v H' F' b ys Vg,au F F'->au F' H'->(∀c o,c≠a->H c=some o->H' c=some o)->H' a=some (.lst Vg)->aE F' Vg ys->F' a=none->(∀c o,F' c=some o->F c=some o\/Nw H c o)->Bi H F' H' v b->Qd b ys->Q v H'
def fj(G:GE)(k:Nat)(x:Str)(sp:iE):Prop:=∃f fd ps,bW G.P G.w G.K G.mg G.base iL k f fd ps (uB sp)/\G.mg x=some (.ref f)/\PySem.W.keepIn G.K (.ref f)=true/\Binds G.K fd ps []
theorem fj.mono{x:Str}{sp:iE}{j:Nat}(h:fj G j x sp)(l:j<=k):fj G k x sp:=by
 obtain⟨f,fd,ps,h1,h2,h3,h4⟩:=h;exact⟨f,fd,ps,h1.mono l,h2,h3,h4⟩
theorem dC.GC{aj:Sd}{σ:St}{a:Addr}{i:Nat}{xs ys:List D}(h:dC aj σ a)(e:aj[i]?=some (some (.own xs))):dC (aj.set i (some (.own ys))) σ a:=by
 refine⟨λj js e1 z=>?_,λ⟨j,o,c,e1,e2,hm⟩=>?_⟩
 ·rcases gs e1 with⟨rfl,_⟩|⟨_,e1⟩
  ·exact h j xs e z
  ·exact h j js e1 z
 ·rcases gs e1 with⟨_,z⟩|⟨_,e1⟩
  ·cases z
  ·exact h.QW ⟨j,o,c,e1,e2,hm⟩
theorem RS.Dv{Y:bB}{F F':Hp}{aj:Sd}{σ:St}{H H':Hp}{i:Nat}{xs ys:List D}{a:Addr}{us:List V}(R:RS Y F aj σ H)(e:aj[i]?=some (some (.own xs)))(h:σ[i]?=some (some (.ref a)))(s1:au F F')(s2:au F' H')(s3:∀c o,c≠a->H c=some o->H' c=some o)
  (ha:H' a=some (.lst us)) (r:aE F' us ys) (fa:F' a=none) (fr:∀c o,F' c=some o->F c=some o\/Nw H c o):RS Y F' (aj.set i (some (.own ys))) σ H':=by
 obtain⟨b,vs,w1,w2,w3,w4,w5⟩:=R.own i xs e;rw[h]at w1;cases w1;have hl:i<aj.length:=(List.getElem?_eq_some_iff.mp e).1;have BK:sE Y F' (aj.set i (some (.own ys))) σ H':=R.ob.step s1 (λj o q=>by
  rcases gs q with⟨_,z⟩|⟨hj,q⟩
  ·cases z
  ·exact⟨q,rfl⟩) (λb hb=>by
  obtain⟨z1,z2,z3⟩:=R.ob.owned hb;have cT:b≠a:=λz=>R.ob.gj i xs a e h (z ▸ hb);refine⟨?_,?_,z3⟩
  ·cases q:H b with
   | none=>exact absurd q z2
   | some o=>exact s3 b o cT q
  ·cases q:F' b with
   | none=>rfl
   | some o =>
    rcases fr b o q with w|w
    ·rw[z1]at w;cases w
    ·rcases w with w|⟨ws,rfl⟩
     ·exact absurd w z2
     ·cases q3:H b with
      | none=>exact absurd q3 z2
      | some o3 =>
       have y:=s2 b _ q;rw[s3 b o3 cT q3]at y;cases y;exact absurd q3 (R.ob.Mf hb)) (λj zs b q1 q2=>by
  rcases gs q1 with⟨e1,_⟩|⟨hj,q1⟩
  ·subst e1
   rw[h]at q2;cases q2;exact R.ob.gj j xs a e h
  ·exact R.ob.gj j zs b q1 q2) λb hb=>by
  by_cases cT:b=a
  ·rw[cT,ha];exactλz=>nomatch z
  ·cases q:H b with
   | none=>exact absurd q (R.ob.there b hb)
   | some o=>rw[s3 b o cT q];exactλz=>nomatch z
 refine⟨by simpa using R.len,R.lo.trans s1,s2,λb o q=>?_,λb o q n=>?_,λj d q=>?_,λj zs q=>?_,λj l zs qs b q1 q2 q3 q4=>?_,λp hp=>?_,BK⟩
 ·rcases fr b o q with h|h
  ·exact R.eJ b o h
  ·exact .inr (h.imp (λh=>(R.bg h).1) id)
 ·have:b≠a:=λz=>by
   subst z;rcases w5 with w5|w5
   ·rw[w5]at q;cases q
   ·exact bB.Ao n w5
  exact s3 b o this (R.old b o q n)
 ·rcases gs q with⟨_,z⟩|⟨hj,q⟩
  ·cases z
  ·obtain⟨v,h1,h2⟩:=R.sh j d q
   exact⟨v,h1,h2.mono s1⟩
 ·rcases gs q with⟨rfl,z⟩|⟨hj,q⟩
  ·cases z
   exact⟨a,us,h,ha,r,fa,w5⟩
  ·obtain⟨b,ws,z1,z2,z3,z4,z5⟩:=R.own j zs q
   have:b≠a:=λz=>hj (R.dis j i zs xs a q e (z ▸ z1) h);refine⟨b,ws,z1,s3 b _ this z2,z3.mono s1,?_,z5⟩;cases q':F' b with
   | none=>rfl
   | some o =>
    rcases fr b o q' with h|h
    ·rw[z4]at h;cases h
    ·rcases h with h|⟨ws',rfl⟩
     ·rw[z2]at h;cases h
     ·have y:=s2 b _ q';rw[s3 b _ this z2]at y;cases y
 ·have f:∀ {m:Nat} {ms:List D},(aj.set i (some (B.own ys)))[m]?=some (some (B.own ms))->∃Ie,aj[m]?=some (some (B.own Ie)):=λ{m ms} q=>by
   rcases gs q with⟨rfl,z⟩|⟨hj,q⟩
   ·exact⟨xs,e⟩
   ·exact⟨_,q⟩
  obtain⟨_,q1⟩:=f q1;obtain⟨_,q2⟩:=f q2;exact R.dis j l _ _ b q1 q2 q3 q4
 ·obtain⟨z1,zs,z2⟩:=R.io p hp
  refine⟨z1,?_⟩
  by_cases Fv:p.1=i
  ·exact⟨ys,by rw[Fv,nG hl]⟩
  ·exact⟨zs,by rw[bx Fv];exact z2⟩
def aaN(sp:iE)(xs ds:List D)(Q:B->List D->Prop):Prop:=sp xs ds Q
def fI(sp:iE)(i:Nat)(t:eU):TX:=λσ Q=>Ap σ i/\t σ λds aw=>match aw[i]? with
 | some (some (.own xs))=>aaN sp xs ds λb ys=>Q (bE b) (aw.set i (some (.own ys)))
 | _=>False
theorem bF{x y:Str}{sp:iE}{i:Nat}{es:List Expr}{t:eU}{p pos jI:Pos}(h:fj G k x sp)(ho:EO G k S (.Name y jI) (ag i))(ha:qW G k S es t)(hg:S.sc.lookup x=some .globalImplicit:=by rfl)(iZ:(x==("__debug__":Str))=false:=by decide)
  (he:∀env,starEach (.Name y jI::es) env=(false,eval (.Name y jI) env)::starEach es env:=by intro _;rfl) (eY:∀env,(backTo pos (starEach es env)).any (·.1)=false:=by intro _;rfl) (hh:S.jG=false:=by rfl):EX G k S (.Call (.Name x p) (.Name y jI::es) [] pos) (fI sp i t):=.mk λX Y ok=>by
 obtain⟨f,fd,ps,h1,h2,h3,h4⟩:=h;have mQ:bW X.prog X.w X.K X.mg X.base iL k f fd ps (uB sp):=by rw[ok.P,ok.w,ok.K,ok.mg,ok.base];exact h1
 refine aV (oN (E:=E0) (dvs:=[]) (ds:=[]) mQ (ok.room hh) (di ok hg) (by rw[ok.mg];exact h2) (by rw[ok.K];exact h3) (by rw[ok.K];exact h4) .nil nO (cL (ho X Y ok) (ha X Y ok) (he _)) iZ (he _) (eY _)) λσ H Q q=>?_
 obtain⟨F,aj,Qd,R,⟨⟨ys,e0⟩,q⟩,K⟩:=q;refine⟨F,aj,λov aO=>ov=.var i/\aO=aj,R,?_,λv1 H1 F1 ov aw s1 R1 r1 q1=>?_⟩
 ·unfold ag;rw[e0];exact⟨rfl,rfl⟩
 obtain⟨rfl,rfl⟩:=q1;have r1:σ[i]?=some (some v1):=r1;refine⟨F1,aw,_,R1,q,λvs H2 F2 ds aO s2 R2 r2 q2=>?_⟩
 split at q2
 ·rename_i xs ex
  obtain⟨a,us,w1,w2,w3,w4,w5⟩:=R2.own i xs ex;rw[r1]at w1;cases w1;show uB sp ((.ref a::vs)++[]) H2 Q E0;rw[List.append_nil];refine⟨F2,xs,ds,a,us,vs,_,rfl,⟨R2.fr,R2.ob.tab⟩,w2,w3,w4,r2,q2,λv H' F' b zs Vg t1 t2 t3 t4 t5 t6 t7 t8 t9=>?_⟩;have R3:=R2.Dv ex r1 t1 t2 t3 t4 t5 t6 t7;cases b with
  | sh d=>exact K v H' F' (.val d) _ ((s1.trans s2).trans t1) R3 t8 t9
  | own ws =>
   obtain⟨c,cs,rfl,z1,z2,z3,z4⟩:=t8;refine K _ H' F' (.own ws) _ ((s1.trans s2).trans t1) R3 ⟨c,cs,rfl,z1,z2,z3,(R2.bg z4).1,(R2.cg z4).GC ex⟩ t9
  | obj o =>
   obtain⟨c,rfl,z1,z2⟩:=t8;exact K _ H' F' (.obj o) _ ((s1.trans s2).trans t1) R3 ⟨c,rfl,z1,λb hb=>⟨(z2 b hb).1,(z2 b hb).2.1,(R2.bg (z2 b hb).2.2).1,(R2.cg (z2 b hb).2.2).GC ex⟩⟩ t9
 ·exact q2.elim
def a8(n:Nat)(xs ds:List D):Sd:=some (.own xs)::aJ (n-1) ds
def qG(Q:B->List D->Prop)(b:B)(σ:Sd):Prop:=match σ[(0:Nat)]? with
 | some (some (.own ys))=>Q b ys
 | _=>False
theorem RS.a8{F H:Hp}{a:Addr}{us rest:List V}{xs ds:List D}(n:Nat)(hn:1<=n)(s:jO F H)(ha:H a=some (.lst us))(ru:aE F us xs)(fa:F a=none)(r:aE F rest ds):
  RS ⟨H,F,[(0,a)],[]⟩ F (a8 n xs ds) ((V.ref a::rest).map some++List.replicate (n-(V.ref a::rest).length) none) H where
 len:=by unfold Vc.a8 aJ;simp [r.length];omega
 lo:=au.refl _
 fr:=s.1
 eJ:=λb o e=>.inl e
 old:=λb o e _=>e
 sh:=λi d e=>by
  cases i with
  | zero=>unfold Vc.a8 at e;simp at e
  | succ i =>
   have e':(aJ (n-1) ds)[i]?=some (some (.sh d)):=by unfold Vc.a8 at e;simpa using e
   obtain⟨v,h1,h2⟩:=qk (n-1-ds.length) r e';refine⟨v,?_,h2⟩;have:n-(V.ref a::rest).length=n-1-ds.length:=by rw[List.length_cons,r.length];omega
   rw[this];simpa using h1
 own:=λi zs e=>by
  cases i with
  | zero =>
   unfold Vc.a8 at e;simp at e;subst e;exact⟨a,us,by simp,ha,ru,fa,.inr (by simp [bB.VM])⟩
  | succ i =>
   have e':(aJ (n-1) ds)[i]?=some (some (.own zs)):=by unfold Vc.a8 at e;simpa using e
   exact absurd e' (gM _ _ _ _)
 dis:=λi j zs ys b e1 e2 _ _=>by
  have z:∀ {i:Nat} {zs:List D},(Vc.a8 n xs ds)[i]?=some (some (.own zs))->i=0:=λ{i zs} e=>by
   cases i with
   | zero=>rfl
   | succ i =>
    have e':(aJ (n-1) ds)[i]?=some (some (.own zs)):=by unfold Vc.a8 at e;simpa using e
    exact absurd e' (gM _ _ _ _)
  rw[z e1,z e2]
 io:=λp hp=>by
  have:p=(0,a):=by simpa using hp
  subst this;exact⟨by simp,xs,rfl⟩
 ob:=.none (λi o e=>by
  cases i with
  | zero=>unfold Vc.a8 at e;simp at e
  | succ i =>
   have e':(aJ (n-1) ds)[i]?=some (some (.obj o)):=by unfold Vc.a8 at e;simpa using e
   exact absurd e' (nq _ _ _ _)) s.2 λb hb=>by cases hb
theorem Jk{x qual:Str}{st:Stmt}{f:Addr}{fd:FuncData}{N ps:List Str}{sp:iE}{t:bK}(hK:G.K=KF.K)(Fn:xZ G.K x qual st f fd)(Sc:aC N ps (ae st))(ht:cB G k ⟨N,(ae st).names,[0],false,false,false,λ_ _=>False⟩ (ak st) t)(hn:1<=N.length)
  (len:∀xs ds Q,sp xs ds Q->ds.length+1=ps.length)
  (body:∀xs ds Q,sp xs ds Q->t {nx:=qG Q (.sh .aU),rt:=λb σ=>qG Q b σ} (a8 N.length xs ds)):bW G.P G.w G.K G.mg G.base iL (k+1) f fd ps (uB sp):=by
 refine Fn.ok Sc (λvs H Q E h=>?_) (λgh A outer s H vs Q E hr h=>?_)
 ·obtain⟨F,xs,ds,a,us,rest,Qd,rfl,s,h1,h2,h3,r,q,K⟩:=h
  rw[List.length_cons,r.length];exact len _ _ _ q
 ·obtain⟨F,xs,ds,a,us,rest,Qd,rfl,sm,h1,h2,h3,r,q,K⟩:=h
  refine⟨_,ht (kz iL G.P G.w G.K G.mg G.base N qual (ae st) f gh A outer s H E).JR ⟨H,F,[(0,a)],[]⟩ ⟨rfl,rfl,rfl,hK,rfl,rfl,rfl,rfl,Sc.nd,λp hp=>by
   have:p=(0,a):=by simpa using hp
   subst this;simp,(λ_ h=>nomatch h),λ_=>rfl,Sc.kind,λ_ _ _=>rfl,λ_=>hr.hd,hr.dp,hr.un,λ_=>PassesOwn.never,λ_=>⟨rfl,rfl,rfl⟩,λ_ _ h=>h.elim,λh=>nomatch h⟩,F,a8 N.length xs ds,_,RS.a8 _ hn sm h1 h2 h3 r,body xs ds Qd q,?_⟩
  have same:∀ {F':Hp} {aj:Sd} {σ:St} {H':Hp},RS ⟨H,F,[(0,a)],[]⟩ F' aj σ H'->∀c o,c≠a->H c=some o->H' c=some o:=λR c o hc e=>R.old c o e (by simpa [bB.vk]using hc)
  have fin:∀ {F':Hp} {aj:Sd} {σ:St} {H':Hp} {v:V} {b:B},au F F'->RS ⟨H,F,[(0,a)],[]⟩ F' aj σ H'->Bi H F' H' v b->qG Qd b aj->Q v H':=λ{F' aj σ H' v b} s' R' r' q'=>by
   unfold qG at q'
   split at q'
   ·rename_i ys ey
    obtain⟨c,Vg,w1,w2,w3,w4,w5⟩:=R'.own 0 ys ey;have i0:=(R'.io (0,a) (by simp)).1
    rw[i0]at w1;cases w1;exact K v H' F' b ys Vg s' R'.fr (same R') w2 w3 w4 R'.eJ r' q'
   ·exact q'.elim
  refine⟨λσ H' F' aj s' R' q'=>?_,λv σ H' F' aj b s' R' r' q'=>?_,λ_ _ _ _ _ _ h=>h.elim,λ_ _ _ _ _ _ h=>h.elim⟩
  ·exact fin (b:=.sh .aU) s' R' .aU q'
  ·refine fin (b:=b) s' R' ?_ q'
   cases b with
   | sh d=>exact r'
   | own xs =>
    obtain⟨a,us,rfl,w1,w2,w3,w4,w5⟩:=r';exact⟨a,us,rfl,w1,w2,w3,w4⟩
   | obj o =>
    obtain⟨a,rfl,w1,w2⟩:=r';exact⟨a,rfl,w1,λb hb=>⟨(w2 b hb).1,(w2 b hb).2.1,(w2 b hb).2.2.1⟩⟩
theorem dy.Vw{x:Str}{st:Stmt}{ps N:List Str}{f:Addr}{fd:FuncData}{t:bK}{sp:iE}(d:dy G x st ps f fd)(hK:G.K=KF.K)(Sc:aC N ps (ae st))(ht:cB G k ⟨N,(ae st).names,[0],false,false,false,λ_ _=>False⟩ (ak st) t)(hn:1<=N.length)
  (len:∀xs ds Q,sp xs ds Q->ds.length+1=ps.length) (body:∀xs ds Q,sp xs ds Q->t {nx:=qG Q (.sh .aU),rt:=λb σ=>qG Q b σ} (a8 N.length xs ds)):fj G (k+1) x sp:=
 ⟨f,fd,ps,Jk hK d.F Sc ht hn len body,d.m,d.F.kp,d.b⟩
end Vc
namespace Vc
open PySem L2
variable [KF]
variable {G:GE}{k:Nat}{S:Stat}
def aD(S:Stat)(scope:Scope)(N':List Str)(m:Nat):Stat:=⟨N',k6 scope.names S.sc,[m],true,false,false,λ_ _=>False⟩
theorem jZ{X X':Cx}{Y:bB}{scope:Scope}{N':List Str}{caps:List (Option Nat)}{m:Nat}(hh:S.jG=false)(ok:d8 X G k S Y)(b:jL S scope N' caps)(c:ko X X' scope N')(Y':bB)(cP:∀p∈Y'.io,p.1=m):d8 X' G k (aD S scope N' m) Y':=
 have z:=fo hh ok b c ⟨Y'.H0,Y'.F0,[],[]⟩ rfl
 ⟨z.P,z.w,z.K,z.kf,z.mg,z.base,z.N,z.sc,z.nd,λp hp=>by rw[cP p hp];exact List.mem_singleton.mpr rfl,(λh=>nomatch h),z.calm,z.kind,(λh=>by cases h),z.hd,z.dp,z.un,z.po,(λh=>nomatch h),(λ_ _ h=>h.elim),λh=>nomatch h⟩
def ownAt(m:Nat)(σ:Sd)(Q:List D->Prop):Prop:=match σ[m]? with
 | some (some (.own ys))=>Q ys
 | _=>False
def jY(g:nX)(tc:TB)(te:TD)(vm:Sd)(m:Nat):List D->List D->List D->(List D->List D->Prop)->Prop
 | [],acc,xs,Q=>Q acc xs
 | x::r,acc,xs,Q=>g x (vm.set m (some (.own xs))) λaw=>tc aw λb aO=>if b=true then te aO λd fe=>mW vm fe/\acc.length<sizeLine/\ownAt m fe λys=>jY g tc te vm m r (acc++[d]) ys Q
  else mW vm aO/\ownAt m aO λys=>jY g tc te vm m r acc ys Q
def jD(ios:List Nat)(caps:List (Option Nat))(j m:Nat)(ti:eU)(g:nX)(tc:TB)(te:TD):TX:=λσ Q=>ti σ λitems aw=>wu ios (caps.set m none) aw λaO=>ownAt j aO λxs=>jY g tc te (eI (caps.set m none) aO) m items [] xs λds ys=>Q (.own ds) (aO.set j (some (.own ys)))
theorem Dy{Y:bB}{F:Hp}{aj:Sd}{σ:St}{H:Hp}(R:RS Y F aj σ H)(caps:List (Option Nat))(m:Nat){F' H':Hp}(s1:au F F')(s2:au F' H'):RS ⟨H',F',[],[]⟩ F' (eI (caps.set m none) aj) (ip caps σ) H':=by
 have R0:=sV R (caps.set m none) s1 s2;refine⟨by unfold eI ip;simp,R0.lo,R0.fr,R0.eJ,R0.old,λi d e=>?_,λi xs e=>absurd e (cE _ _ _ _),λi j xs ys a e=>absurd e (cE _ _ _ _),λp hp=>(by cases hp),.none (cD _ _) R0.ob.tab λb hb=>by cases hb⟩
 obtain⟨v,h1,h2⟩:=R0.sh i d e;refine⟨v,?_,h2⟩
 by_cases hi:i=m
 ·subst hi
  unfold eI at e;rw[List.getElem?_map]at e
  by_cases hl:i<caps.length
  ·rw[List.getElem?_set_self hl]at e;cases e
  ·rw[List.getElem?_eq_none (by rw[List.length_set];omega)]at e;cases e
 ·unfold ip at h1 ⊢
  rw[List.getElem?_map]at h1 ⊢;rw[List.getElem?_set_ne (Ne.symm hi)]at h1;exact h1
theorem RS.inner{Y:bB}{F:Hp}{vm aj:Sd}{σ:St}{H:Hp}{m:Nat}{a:Addr}{us:List V}{xs:List D}(R:RS Y F aj σ H)(l:mW vm aj)(wY:∀(i:Nat) (xs:List D),vm[i]?≠some (some (.own xs)))(FX:∀(i:Nat) (o:O),vm[i]?≠some (some (.obj o)))(hm:m<vm.length)(h:σ[m]?=some (some (.ref a)))(r:aE F us xs)(fa:F a=none){H':Hp}(s:au F H')(ha:H' a=some (.lst us)):
  RS ⟨H',F,[(m,a)],[]⟩ F (vm.set m (some (.own xs))) σ H' where
 len:=by rw[List.length_set];exact(oJ l).trans R.len
 lo:=au.refl _
 fr:=s
 eJ:=λb o e=>.inl e
 old:=λb o e _=>e
 sh:=λi d e=>by
  rcases gs e with⟨_,z⟩|⟨_,e⟩
  ·cases z
  ·exact R.sh i d (oI l e)
 own:=λi zs e=>by
  rcases gs e with⟨rfl,z⟩|⟨_,e⟩
  ·cases z
   exact⟨a,us,h,ha,r,fa,.inr (by simp [bB.VM])⟩
  ·exact absurd e (wY i zs)
 dis:=λi j zs ys b e1 e2 _ _=>by
  have z:∀ {i:Nat} {zs:List D},(vm.set m (some (B.own xs)))[i]?=some (some (.own zs))->i=m:=λ{i zs} e=>by
   rcases gs e with⟨rfl,_⟩|⟨_,e⟩
   ·rfl
   ·exact absurd e (wY i zs)
  rw[z e1,z e2]
 io:=λp hp=>by
  have:p=(m,a):=by simpa using hp
  subst this;exact⟨h,xs,by rw[nG hm]⟩
 ob:=.none (λi o e=>by
  rcases gs e with⟨_,z⟩|⟨_,e⟩
  ·cases z
  ·exact FX i o e) R.ob.tab λb hb=>by cases hb
def lGm(m:Nat)(g:nX):TG:=λv σ H Q=>∃Y:bB,(∀p∈Y.io,p.1=m)/\lG Y g v σ H Q
def lBm(m:Nat)(t:TB):TT:=λσ H Q=>∃Y:bB,(∀p∈Y.io,p.1=m)/\lB Y t σ H Q
def lDm(m:Nat)(t:TD):TE:=λσ H Q=>∃Y:bB,(∀p∈Y.io,p.1=m)/\lD Y t σ H Q
section
variable {elt target iter:Expr}{ifs:List Expr}{scope:Scope}{pos:Pos}{N':List Str}{caps:List (Option Nat)}{ti:eU}{g:nX}{tc:TB}{te:TD}{j m:Nat}
theorem rq{X:Cx}{Y:bB}(hh:S.jG=false)(ok:d8 X G k S Y)(b:jL S scope N' caps)(hg:EG G k (aD S scope N' m) target g)(ht:Il G k (aD S scope N' m) ifs tc)(he:ED G k (aD S scope N' m) elt te):
  ∀X',ko X X' scope N'->PG X' target (lGm m g)/\HV X' ifs (lBm m tc)/\PE X' elt (lDm m te):=λX' c =>
 ⟨λpins s σ H v u Q I r ⟨Y',cP,q⟩=>hg X' Y' (jZ hh ok b c Y' cP) pins s σ H v u Q I r q,λpins s σ H Q I ⟨Y',cP,q⟩=>ht X' Y' (jZ hh ok b c Y' cP) pins s σ H Q I q,λpins s σ H Q I ⟨Y',cP,q⟩=>he X' Y' (jZ hh ok b c Y' cP) pins s σ H Q I q⟩
theorem uw{α:Type}(l:List α)(i:Nat)(a b:α):(l.set i a).set i b=l.set i b:=by simp
theorem sZ{Y:bB}{ios:List Nat}(cP:∀p∈Y.io,p.1∈ios)(tJ:caps[m]?=some (some j)){σ:St}{H:Hp}{Q:VK}(q:lX Y (jD ios caps j m ti g tc te) σ H Q):nr (lI Y ti) caps (lGm m g) (lBm m tc) (lDm m te) σ H Q:=by
 obtain⟨F,aj,Qd,R,q,K⟩:=q;refine⟨F,aj,_,R,q,λH1 F1 xR J items s1 R1 it q1 acc iY=>?_⟩;obtain⟨F2,cu,s2,R2,q2⟩:=fq cP R1 q1;unfold ownAt at q2
 split at q2
 ·rename_i MD e0
  have it2:=it.mono s2;have a0:Y.H0 acc=none:=(R2.bg iY).1;have aF:F2 acc=none:=same_none R2.fr iY;obtain⟨a,VU,ha1,L5,Vz,ha4,ha5⟩:=R2.own j MD e0;have Vq:a≠acc:=λz=>by rw[z,iY]at L5;cases L5
  have hj:j<cu.length:=(List.getElem?_eq_some_iff.mp e0).1;have aN:∀(xs:List D),dC (cu.set j (some (.own xs))) σ acc:=λxs=>(R2.cg iY).GC e0;have sw:∀ {F5 H5:Hp} {o:HO},au F5 H5->F5 acc=none->au F5 (upd H5 acc o):=λ{F5 H5 o} s5 h b u e=>by
   have:b≠acc:=λz=>by rw[z,h]at e;cases e
   rw[aq this];exact s5 b u e
  have hm:m<(eI (caps.set m none) cu).length:=by
   unfold eI;rw[List.length_map,List.length_set];exact(List.getElem?_eq_some_iff.mp tJ).1
  have hcm:(ip caps σ)[m]?=some (some (.ref a)):=by
   unfold ip;rw[List.getElem?_map,tJ];show some ((σ[j]?).join)=_;rw[ha1];rfl
  have e00:cu.set j (some (.own MD))=cu:=by
   apply List.ext_getElem?;intro i
   by_cases hi:i=j
   ·subst hi;rw[nG hj,e0]
   ·rw[bx hi]
  refine⟨λi mm aw H'=>∃Fi ds ys xs us,au F2 Fi/\RS Y Fi (cu.set j (some (.own xs))) σ H'/\H' acc=some (.lst ys)/\aE Fi ys ds/\Fi acc=none/\H' a=some (.lst us)/\aE Fi us xs/\Fi a=none/\aw[m]?=some (some (.ref a))/\RS ⟨H',Fi,[(m,a)],[]⟩ Fi ((eI (caps.set m none) cu).set m (some (.own xs))) aw H'/\jY g tc te (eI (caps.set m none) cu) m (items.drop i) ds xs (λds ys=>Qd (.own ds) (cu.set j (some (.own ys))))/\mm=items.length-i/\i<=items.length,
   ⟨items.length,F2,[],[],MD,VU,au.refl _,by rw[e00];exact R2.other aF a0 (e00 ▸ aN MD),aA,.nil,aF,by rw[aq Vq];exact L5,Vz,ha4,hcm,?_,q2,rfl,Nat.zero_le _⟩,?_⟩
  ·exact(Dy R2 caps m (au.refl _) (sw (o:=.lst []) R2.fr aF)).inner (gw _) (cE _ _) (cD _ _) hm hcm Vz ha4 (sw R2.fr aF) (by rw[aq Vq];exact L5)
  rintro i mm aw Hi ⟨Fi,ds,ys,xs,us,si,Ri,gk,ri,fi,hai,rui,fai,hmi,Wg,qi,rfl,hi⟩;have FA:=it2 Fi Hi si Ri.fr i
  by_cases hl:i<items.length
  ·right
   have hd:items.drop i=items[i]::items.drop (i+1):=by rw[List.drop_eq_getElem_cons hl]
   rw[hd]at qi;obtain⟨go,yl⟩:=FA.1 items[i] (by rw[List.getElem?_eq_getElem hl])
   refine⟨go,λv H' y=>?_⟩;obtain⟨F3,gr,rep⟩:=yl v H' y;have sF:au Fi F3:=gr.same Ri.fr;have R3:=gr.rs Wg;have sH:au Hi H':=by
    rcases gr with⟨_,rfl⟩|⟨p,o,hp,_,rfl⟩
    ·exact au.refl _
    ·exact aK hp
   have Jl:∀c o,F3 c=some o->Fi c=some o\/Nw Hi c o:=λc o e=>by
    rcases gr with⟨rfl,_⟩|⟨p,o',hp,rfl,_⟩
    ·exact .inl e
    ·by_cases hc:c=p
     ·subst hc;exact .inr (.inl hp)
     ·rw[aq hc]at e;exact .inl e
   have fa3:F3 a=none:=by
    cases e:F3 a with
    | none=>rfl
    | some o =>
     rcases Jl a o e with z|z
     ·rw[fai]at z;cases z
     ·rcases z with z|⟨ws,rfl⟩
      ·rw[hai]at z;cases z
      ·have y:=R3.fr a _ e;rw[sH a _ hai]at y;cases y
   have lec:mW (eI (caps.set m none) cu) ((eI (caps.set m none) cu).set m (some (.own xs))):=by
    have:∀(l:Sd) (n:Nat),l[n]?=some none->∀b,mW l (l.set n b):=by
     intro l
     induction l with
     | nil=>intro n h;cases h
     | cons c l ih =>
      intro n h b;cases n with
      | zero =>
       simp at h;subst h;exact gw l
      | succ n =>
       have h:l[n]?=some none:=by simpa using h
       cases c with
       | none=>exact ih n h b
       | some c=>exact⟨rfl,ih n h b⟩
    refine this _ m ?_ _;unfold eI;rw[List.getElem?_map,List.getElem?_set_self (List.getElem?_eq_some_iff.mp tJ).1];rfl
   have Wf:RS ⟨H',F3,[(m,a)],[]⟩ F3 ((eI (caps.set m none) cu).set m (some (.own xs))) aw H':=R3.inner lec (cE _ _) (cD _ _) hm hmi (rui.mono sF) fa3 R3.fr (sH _ _ hai)
   -- behind the turn
   have back:∀ {F5 H5:Hp} {qw:Sd} {VX:St} {zs:List D},au F3 F5->RS ⟨H',F3,[(m,a)],[]⟩ F5 qw VX H5->qw[m]?=some (some (.own zs))->RS Y F5 (cu.set j (some (.own zs))) σ H5/\H5 acc=some (.lst ys)/\F5 acc=none/\au Fi F5/\∃ws,H5 a=some (.lst ws)/\aE F5 ws zs/\F5 a=none/\VX[m]?=some (some (.ref a)):=λ{F5 H5 qw VX zs} s5 R5 ez=>by
    have i5:=(R5.io (m,a) (by simp)).1
    obtain⟨c,ws,w1,w2,w3,w4,_⟩:=R5.own m zs ez;rw[i5]at w1;cases w1;have Cj:∀c o,c≠a->Hi c=some o->H5 c=some o:=λc o hc e=>R5.old c o (sH c o e) (by simpa [bB.vk]using hc)
    have HY:∀c o,F5 c=some o->Fi c=some o\/Nw Hi c o:=λc o e=>by
     rcases R5.eJ c o e with z|z
     ·exact Jl c o z
     ·exact .inr (z.imp sH.free id)
    have Ro:=Ri.Dv (i:=j) (xs:=xs) (ys:=zs) (by rw[nG hj]) ha1 (sF.trans s5) R5.fr Cj w2 w3 w4 HY
    rw[uw]at Ro;refine⟨Ro,Cj acc _ (Ne.symm Vq) gk,?_,sF.trans s5,ws,w2,w3,w4,i5⟩;cases e:F5 acc with
    | none=>rfl
    | some o =>
     rcases HY acc o e with z|z
     ·rw[fi]at z;cases z
     ·rcases z with z|⟨ws,rfl⟩
      ·rw[gk]at z;cases z
      ·have y:=R5.fr acc _ e;rw[Cj acc _ (Ne.symm Vq) gk]at y;cases y
   refine⟨⟨H',F3,[(m,a)],[]⟩,λp hp=>by rw[List.mem_singleton.mp hp],F3,_,items[i],_,Wf,rep,qi,λsv H4 F4 fK s4 R4 q4=>?_⟩
   refine⟨⟨H',F3,[(m,a)],[]⟩,λp hp=>by rw[List.mem_singleton.mp hp],F4,fK,_,R4,q4,λb H5 F5 qw s5 R5 q5=>?_⟩
   cases b with
   | false =>
    obtain⟨le,q5⟩:=q5;unfold ownAt at q5
    split at q5
    ·rename_i zs ez
     obtain⟨w1,w2,w3,w4,ws,v1,v2,v3,v4⟩:=back (s4.trans s5) R5 ez;exact⟨items.length-(i+1),by omega,F5,ds,ys,zs,ws,si.trans w4,w1,w2,ri.mono w4,w3,v1,v2,v3,v4,R5.inner le (cE _ _) (cD _ _) hm v4 v2 v3 R5.fr v1,q5,rfl,hl⟩
    ·exact q5.elim
   | true =>
    refine⟨⟨H',F3,[(m,a)],[]⟩,λp hp=>by rw[List.mem_singleton.mp hp],F5,qw,_,R5,q5,λv6 H6 F6 d aaL s6 R6 r6 q6=>?_⟩
    obtain⟨le,hz,q6⟩:=q6;unfold ownAt at q6
    split at q6
    ·rename_i zs ez
     obtain⟨w1,w2,w3,w4,ws,v1,v2,v3,v4⟩:=back ((s4.trans s5).trans s6) R6 ez;exact⟨ys,items.length-(i+1),w2,by rw[ri.length];exact hz,by omega,F6,ds++[d],ys++[v6],zs,ws,si.trans w4,w1.other w3 a0 (aN zs),aA,(ri.mono w4).append (.cons r6 .nil),w3,by rw[aq Vq];exact v1,v2,v3,v4,
      R6.inner le (cE _ _) (cD _ _) hm v4 v2 v3 (sw R6.fr w3) (by rw[aq Vq];exact v1),q6,rfl,hl⟩
    ·exact q6.elim
  ·left
   have e:i=items.length:=by omega
   subst e;rw[List.drop_length]at qi;exact⟨FA.2 rfl,K _ Hi Fi (.own ds) _ ((s1.trans s2).trans si) Ri ⟨acc,ys,rfl,gk,ri,fi,a0,aN xs⟩ qi⟩
 ·exact q2.elim
theorem xv(i j m:Nat){y:Str}{py iC:Pos}(hi:EI G k S target iter ti)(b:jL S scope N' caps)(hg:EG G k (aD S scope N' m) target g)(ht:Il G k (aD S scope N' m) ifs tc)(he:ED G k (aD S scope N' m) elt te)
  (tJ:caps[m]?=some (some j):=by rfl) (hy:S.N[i]?=some y:=by rfl) (hx:S.sc.lookup y=some .local\/(S.sc.lookup y=some .cell/\S.qA=false):=by first|exact Or.inl rfl|exact Or.inr ⟨rfl,rfl⟩) (hn:i∉S.ios:=by first|decide|exact List.not_mem_nil | (dsimp only;decide)) (hl:(py.line==pos.line)=true:=by rfl) (hsn:(scope.names.any λ(n,k)=>n==y&&(k==.local||k==.cell))=false:=by decide +kernel)
  (hs:∀env x,foldedSetIterable iter env x=pure x:=by intro _ _;rfl) (hh:S.jG=false:=by rfl):ES G k S (.Assign [.Name y py] (.ListComp elt [⟨target,iter,ifs,0⟩] scope pos) iC) (dw S.ios i (jD S.ios caps j m ti g tc te)):=.mk λX Y ok=>by
 have sw:swapsWith (.ListComp elt [⟨target,iter,ifs,0⟩] scope pos) (some (.Name y py)) iC.line X.env=pure (S.sc.lookup y==some .local):=by
  have e:swapsWith (.ListComp elt [⟨target,iter,ifs,0⟩] scope pos) (some (.Name y py)) iC.line X.env=pure (X.env.blockKind==.function&&X.env.kindOf y==some .local&&py.line==pos.line&&!(scope.names.any λ(n,k)=>n==y&&(k==.local||k==.cell))):=rfl
  have kb:X.env.blockKind=.function:=by unfold Env.blockKind;rw[ok.kind];rfl
  have kd:X.env.kindOf y=S.sc.lookup y:=by
   show X.env.scope.names.lookup y=_;rw[ok.sc]
  rw[e,kb,kd,hl,hsn];simp
 have fin:∀Dn σ H,lS Y (dw S.ios i (jD S.ios caps j m ti g tc te)) Dn σ H->G5 (nr (lI Y ti) caps (lGm m g) (lBm m tc) (lDm m te)) (px i) Dn σ H:=λDn σ H q=>by
  obtain⟨F,aj,De,R,q,K⟩:=q;refine sZ ok.ios tJ ⟨F,aj,_,R,q,λv H1 F1 y aw s1 R1 r1 q1=>?_⟩;obtain⟨F2,aO,s2,R2,q2⟩:=nj R1 r1 hn ok.ios q1;exact K.nx _ H1 F2 aO (s1.trans s2) R2 q2
 rcases hx with hx|hx
 ·refine cG (AW (i:=i) (ok.calm hh) (hi X Y ok) (b.sc ok) (rq hh ok b hg ht he) (hs _) (by rw[ok.N];exact ok.nd) (by rw[ok.N];exact hy) (by rw[ok.sc];exact hx) (by rw[sw,hx];rfl)) fin
 ·refine cG (L2.yJ (i:=i) (by rw[ok.N];exact ok.nd) (by rw[ok.N];exact hy) (mZ ok (.inr hx)) (oO (ok.calm hh) (hi X Y ok) (b.sc ok) (rq hh ok b hg ht he) (hs _)) (by rw[sw,hx.1];rfl) (mO ok (.inr hx))) fin
end
end Vc
namespace Vc
open PySem L2
variable [KF]
variable {G:GE}{k:Nat}{S:Stat}
def zF(i j:Int):Prop:=0<j/\j<2^200
theorem FZ{X:Cx}:iH X (binaryOp .FloorDiv) (rI zF λi j=>.int (i/j)):=opI λi j _ _ _ _ _ hc q=>by
 have h1:(0:Int)<j:=hc.1;have h2:j<2^200:=hc.2;refine PyProof.Rows.floordiv_int ⋯ (by rw[Int.fdiv_eq_ediv_of_nonneg i ⋯];exact q) (.inl (PyProof.noPylong_of_log2 ?_))
 have h3:j.natAbs<2^200:=by omega
 exact(Nat.log2_lt ⋯).mpr (Nat.lt_of_lt_of_le h3 (Nat.pow_le_pow_right ∅ ∅))
def Ae:=VL zF λi j=>i/j
theorem A0{a b:Expr}{ta tb:TV}{pos:Pos}(ha:EO G k S a ta)(hb:EO G k S b tb):EX G k S (.BinOp a .FloorDiv b pos) (aW Ae ta tb):=nP (r:=λ_=>_) (λ_=>FZ) (λ_=>pC) ha hb
end Vc
namespace Vc
open PySem L2
variable [KF]
variable {G:GE}{k:Nat}{S:Stat}
def bB.qJ(Y:bB)(F H:Hp)(ps:List Addr):bB:=⟨λb=>if b∈ps then H b else Y.H0 b,F,Y.io,Y.ob⟩
structure qy(Y:bB)(F:Hp)(aj:Sd)(σ:St)(H:Hp)(b:Addr)(o:HO):Prop where
 h:H b=some o
 f:F b=none
 no:dC aj σ b
 z:Y.H0 b=none
 nb:b∉Y.ob
 nt:∀vs,o≠.tup vs
theorem RS.Ki{Y:bB}{F:Hp}{aj:Sd}{σ:St}{H:Hp}(R:RS Y F aj σ H)(ps:List Addr)(hP:∀b∈ps,∃o,qy Y F aj σ H b o):RS (Y.qJ F H ps) F aj σ H where
 len:=R.len
 lo:=au.refl _
 fr:=R.fr
 eJ:=λb o e=>.inl e
 old:=λb o e n=>by
  have e:(if b∈ps then H b else Y.H0 b)=some o:=e
  split at e
  ·exact e
  ·exact R.old b o e n
 sh:=R.sh
 own:=λi xs e=>by
  obtain⟨a,vs,h1,h2,h3,h4,h5⟩:=R.own i xs e;refine⟨a,vs,h1,h2,h3,h4,?_⟩;rcases h5 with h5|h5
  ·left
   show(if a∈ps then H a else Y.H0 a)=none
   rw[if_neg λhp=>by obtain⟨o,ap⟩:=hP a hp;exact ap.no i xs e h1]
   exact h5
  ·exact .inr h5
 dis:=R.dis
 io:=R.io
 ob:=R.ob.step (au.refl _) (λ_ _ e=>⟨e,rfl⟩) (λb hb=>by
  obtain⟨w1,w2,w3⟩:=R.ob.owned hb;refine⟨rfl,w1,w3.imp (λz=>?_) id⟩;show(if b∈ps then H b else Y.H0 b)=none
  rw[if_neg λhp=>by obtain⟨o,ap⟩:=hP b hp;exact ap.no.QW hb]
  exact z) R.ob.gj R.ob.there λb hb=>⟨hb,λh=>by
  show(if b∈ps then H b else Y.H0 b)≠none
  split
  ·exact R.ob.there b hb
  ·exact h⟩
theorem RS.ny{Y:bB}{F F':Hp}{aj aG:Sd}{σ bS:St}{H H':Hp}(R0:RS Y F aj σ H){ps:List Addr}(hP:∀b∈ps,∃o,qy Y F aj σ H b o)(R:RS (Y.qJ F H ps) F' aG bS H'):
  RS Y F' aG bS H'/\∀b o,b∈ps->qy Y F aj σ H b o->qy Y F' aG bS H' b o:=by
 have at0:∀b,b∈ps->(Y.qJ F H ps).H0 b=H b:=λb hb=>by show(if b∈ps then H b else Y.H0 b)=_;rw[if_pos hb]
 have at1:∀b,b∉ps->(Y.qJ F H ps).H0 b=Y.H0 b:=λb hb=>by show(if b∈ps then H b else Y.H0 b)=_;rw[if_neg hb]
 have QU:∀b,b∈ps->b∉Y.vk:=λb hb hm=>by
  obtain⟨o,ap⟩:=hP b hb;rcases List.mem_append.mp hm with hm|hm
  case inr=>exact ap.nb hm
  obtain⟨q,hq,e⟩:=List.mem_map.mp hm;obtain⟨h1,xs,h2⟩:=R0.io q hq;exact ap.no _ _ h2 (by rw[h1,e])
 have sd:∀b,(Y.qJ F H ps).H0 b=none->b∉ps/\Y.H0 b=none:=λb e=>by
  by_cases hb:b∈ps
  ·obtain⟨o,ap⟩:=hP b hb
   rw[at0 b hb,ap.h]at e;cases e
  ·exact⟨hb,by rw[at1 b hb]at e;exact e⟩
 refine⟨⟨R.len,R0.lo.trans R.lo,R.fr,λb o e=>?_,λb o e n=>?_,R.sh,λi xs e=>?_,R.dis,R.io,R.ob.step (au.refl _) (λ_ _ e=>⟨e,rfl⟩) (λb hb=>⟨rfl,(R.ob.owned hb).1,(R.ob.owned hb).2.2.imp (λz=>(sd b z).2) id⟩) R.ob.gj R.ob.there (λb hb=>⟨hb,λh z=>h (by rw[at1 b λhp=>by obtain⟨o',ap⟩:=hP b hp;exact ap.nb hb];exact z)⟩)⟩,λb o hb ap=>⟨?_,?_,⟨λj ys e z=>?_,λz=>?_⟩,ap.z,ap.nb,ap.nt⟩⟩
 ·rcases R.eJ b o e with h|h
  ·exact R0.eJ b o h
  ·exact .inr (h.imp (λh=>(sd b h).2) id)
 ·refine R.old b o ?_ n
  rw[at1 b λhb=>by obtain⟨o',ap⟩:=hP b hb;rw[ap.z]at e;cases e]
  exact e
 ·obtain⟨a,vs,h1,h2,h3,h4,h5⟩:=R.own i xs e
  exact⟨a,vs,h1,h2,h3,h4,h5.elim (λh=>.inl (sd a h).2) .inr⟩
 ·exact R.old b o (by rw[at0 b hb];exact ap.h) (QU b hb)
 ·cases q:F' b with
  | none=>rfl
  | some o' =>
   rcases R.eJ b o' q with h|h
   ·rw[show(Y.qJ F H ps).F0 b=F b from rfl,ap.f]at h;cases h
   ·rcases h with h|⟨ws,rfl⟩
    ·exact absurd hb (sd b h).1
    ·have y:=R.fr b _ q;rw[R.old b o (by rw[at0 b hb];exact ap.h) (QU b hb)]at y;cases y;exact absurd rfl (ap.nt _)
 ·obtain⟨a,vs,h1,h2,h3,h4,h5⟩:=R.own j ys e
  rw[z]at h1;cases h1;rcases h5 with h5|h5
  ·exact absurd hb (sd b h5).1
  ·exact QU b hb (List.mem_append_left _ h5)
 ·rcases(R.ob.owned z).2.2 with w|w
  ·exact absurd hb (sd b w).1
  ·exact ap.nb w
structure Wd(H H':Hp)(p:Addr)(as:List Addr)(cs:List Int):Prop where
 same:au H H'
 list:H' p=some (.lst (as.map V.ref))
 fresh:∀b∈p::as,H b=none
 nd:(p::as).Nodup
 len:as.length=cs.length
 pot:∀(i:Nat) (a:Addr) (c:Int),as[i]?=some a->cs[i]?=some c->H' a=some (.lst [.int c,.int 0])
def yZ:Sp:=λvs H Q _=>∃F ns,jO F H/\aE F vs [.lst (List.map D.int ns)]/\ns.length<=63/\∀p as cs H',Wd H H' p as cs->Q (.ref p) H'
def iO(G:GE)(k:Nat)(x:Str):Prop:=∃f fd ps,bW G.P G.w G.K G.mg G.base iL k f fd ps yZ/\G.mg x=some (.ref f)/\PySem.W.keepIn G.K (.ref f)=true/\Binds G.K fd ps []
theorem iO.mono{x:Str}{j:Nat}(h:iO G j x)(l:j<=k):iO G k x:=by
 obtain⟨f,fd,ps,h1,h2,h3,h4⟩:=h;exact⟨f,fd,ps,h1.mono l,h2,h3,h4⟩
def MA(Y:bB)(t:eU):TE:=λσ H Q=>∃F aj Qd,RS Y F aj σ H/\t aj Qd/\(∀ds aG,Qd ds aG->∃ns:List Int,ds=[.lst (ns.map D.int)]/\ns.length<=63) /\
 ∀(p:Addr) (as:List Addr) (cs:List Int) H' F' ds aG,au F F'->RS Y F' aG σ H'->qy Y F' aG σ H' p (.lst (as.map V.ref))->(p::as).Nodup->as.length=cs.length ->
  (∀(i:Nat) (a:Addr) (c:Int),as[i]?=some a->cs[i]?=some c->qy Y F' aG σ H' a (.lst [.int c,.int 0]))->Qd ds aG->Q (.ref p) H'
theorem Kd{x:Str}{e:Expr}{t:eU}{p pos:Pos}(hh:S.jG=false)(h:iO G k x)(ha:qW G k S [e] t)(hg:S.sc.lookup x=some .globalImplicit:=by rfl)(iZ:(x==("__debug__":Str))=false:=by decide)
  (he:∀env,starEach [e] env=(false,eval e env)::starEach [] env:=by intro _;rfl) (eY:∀env,(backTo pos (starEach [] env)).any (·.1)=false:=by intro _;rfl) {X:Cx} {Y:bB} (ok:d8 X G k S Y):PE X (.Call (.Name x p) [e] [] pos) (MA Y t):=by
 obtain⟨f,fd,ps,h1,h2,h3,h4⟩:=h;have mQ:bW X.prog X.w X.K X.mg X.base iL k f fd ps yZ:=by rw[ok.P,ok.w,ok.K,ok.mg,ok.base];exact h1
 refine aV (oN (E:=E0) (dvs:=[]) (ds:=[]) mQ (ok.room hh) (di ok hg) (by rw[ok.mg];exact h2) (by rw[ok.K];exact h3) (by rw[ok.K];exact h4) .nil nO (ha X Y ok) iZ (he _) (eY _)) λσ H Q q=>?_
 obtain⟨F,aj,Qd,R,q,sh,K⟩:=q;refine⟨F,aj,_,R,q,λvs H1 F1 ds aw s1 R1 r1 q1=>?_⟩;show yZ (vs++[]) H1 Q E0;rw[List.append_nil];obtain⟨ns,rfl,hl⟩:=sh _ _ q1;refine⟨F1,ns,⟨R1.fr,R1.ob.tab⟩,r1,hl,λp as cs H' P=>?_⟩;have R2:RS Y F1 aw σ H':=R1.call (au.refl _) (R1.fr.trans P.same) P.same λc o e=>.inl e;have apt:∀b∈p::as,∀o,H' b=some o->(∀vs,o≠.tup vs)->qy Y F1 aw σ H' b o:=λb hb o e nt=>by
  have hf:=P.fresh b hb;exact⟨e,same_none R1.fr hf,R1.cg hf,(R1.bg hf).1,λz=>(R1.bg hf).2 (List.mem_append_right _ z),nt⟩
 exact K p as cs H' F1 _ aw s1 R2 (apt p (List.mem_cons_self ..) _ P.list λ_ z=>nomatch z) P.nd P.len (λi a c e1 e2=>apt a (List.mem_cons_of_mem _ (List.mem_of_getElem? e1)) _ (P.pot i a c e1 e2) λ_ z=>nomatch z) q1
def wq(pre:Nat->Int->Sd->Sd)(tb:bK)(De:jM):Nat->Nat->Sd->Prop
 | 0,_,σ=>De.nx σ
 | n+1,i,σ=>∀c:Int,tb {De with nx:=wq pre tb De n (i+1),ct:=wq pre tb De n (i+1),bk:=De.nx} (pre i c σ)
def Bb(t:eU)(pre:Nat->Int->Sd->Sd)(tb:bK):bK:=λDe σ=>t σ λds aw=>(∃ns:List Int,ds=[.lst (ns.map D.int)]/\ns.length<=63)/\∀n,wq pre tb De n 0 aw
def Tv(j:Nat):Nat->Int->Sd->Sd:=λ_ c σ=>σ.set j (some (.own [.int c,.int 0]))
def lSP(Y:bB)(t:bK):TS:=λDn σ H=>∃Y':bB,(Y'.io=Y.io/\Y'.ob=Y.ob)/\lS Y' t Dn σ H
theorem Nr{X:Cx}{Y:bB}{body:List Stmt}{tb:bK}(An:S.ex=λ_ _=>False)(ok:d8 X G k S Y)(hb:cB G k S body tb):sG X body (lSP Y tb):=λpins s σ H Dn I ⟨Y',⟨cP,BK⟩,q⟩ =>
 hb X Y' ⟨ok.P,ok.w,ok.K,ok.kf,ok.mg,ok.base,ok.N,ok.sc,ok.nd,λp hp=>ok.ios p (by rw[<- cP];exact hp),(λh1 h2=>BK.trans (ok.obs h1 h2)),ok.calm,ok.kind,ok.fn,ok.hd,ok.dp,ok.un,ok.po,ok.nx,(λc aj h=>by rw[An]at h;exact h.elim),λ_ c aj h=>by rw[An]at h;exact h.elim⟩ pins s σ H Dn I q
theorem Gu{X:Cx}{Y:bB}{t:eU}{pre:Nat->Int->Sd->Sd}{tb:bK}{J:Addr->It}{g:TG}{Dn:Ends}{σ:St}{H:Hp}
  (hgo:∀(p:Addr) (as:List Addr) (i:Nat) (a:Addr) (H:Hp),H p=some (.lst (as.map V.ref))->as[i]?=some a->(J p).go i H)
  (pB:∀(p:Addr) (as:List Addr) (H:Hp),H p=some (.lst (as.map V.ref))->(J p).stop as.length H)
  (hy:∀(p:Addr) (as:List Addr) (i:Nat) (a:Addr) (c:Int) (F H:Hp) (aj:Sd) (σ:St) (x:V) (H':Hp),RS Y F aj σ H->(p::as).Nodup->as[i]?=some a ->
   (∀b∈p::as.drop (i+1),∃o,qy Y F aj σ H b o)->H p=some (.lst (as.map V.ref))->qy Y F aj σ H a (.lst [.int c,.int 0])->(J p).VW i H x H' ->
   ∃F',au F F'/\RS Y F' aj σ H'/\(∀b o,qy Y F aj σ H b o->qy Y F' aj σ H' b o)/\∀N:St->Hp->Prop,(∀aO,RS (Y.qJ F' H' (p::as.drop (i+1))) F' (pre i c aj) aO H'->N aO H')->g x σ H' N)
  (q:lS Y (Bb t pre tb) Dn σ H):
  aax (λσ H R=>MA Y t σ H λx H1=>∃p as,x=.ref p/\H1 p=some (.lst (List.map V.ref as))/\R (J p) H1) g (lSP Y tb) Dn σ H:=by
 obtain⟨F,aj,De,R,q,K⟩:=q;refine⟨F,aj,_,R,q,λds aG h=>h.1,λp as cs H1 F1 ds xR s1 R1 ap nd len yH q1=>⟨p,as,rfl,ap.h,?_⟩⟩;have q1:=q1.2 as.length;refine⟨λi m bS H'=>∃F' aG,au F1 F'/\RS Y F' aG bS H'/\qy Y F' aG bS H' p (.lst (as.map V.ref))/\(∀(j:Nat) (a:Addr) (c:Int),i<=j->as[j]?=some a->cs[j]?=some c->qy Y F' aG bS H' a (.lst [.int c,.int 0])) /\
  wq pre tb De (as.length-i) i aG/\m=as.length-i/\i<=as.length,⟨as.length,F1,xR,au.refl _,R1,ap,λj a c _=>yH j a c,q1,rfl,Nat.zero_le _⟩,?_⟩
 rintro i m bS H' ⟨F',aG,s',R',Wt,Gr,q',rfl,hi⟩
 by_cases hl:i<as.length
 ·right
  have e1:as[i]?=some as[i]:=List.getElem?_eq_getElem hl;have rO:i<cs.length:=by rw[<- len];exact hl
  have e2:cs[i]?=some cs[i]:=List.getElem?_eq_getElem rO;refine⟨hgo p as i _ H' Wt.h e1,λaO H2=>∃F2 cu,au F1 F2/\RS Y F2 cu aO H2/\qy Y F2 cu aO H2 p (.lst (as.map V.ref))/\(∀(j:Nat) (a:Addr) (c:Int),i+1<=j->as[j]?=some a->cs[j]?=some c->qy Y F2 cu aO H2 a (.lst [.int c,.int 0])) /\
   wq pre tb De (as.length-(i+1)) (i+1) cu,λaO H2 ⟨F2,cu,w1,w2,w3,w4,w5⟩=>⟨as.length-(i+1),by omega,F2,cu,w1,w2,w3,w4,w5,rfl,hl⟩,λx H2 y=>?_⟩
  have Qb:∀(j:Nat) (a:Addr),i+1<=j->as[j]?=some a->a∈p::as.drop (i+1):=λj a hj e=>by
   refine List.mem_cons_of_mem _ (List.mem_of_getElem? (i:=j-(i+1)) ?_);rw[List.getElem?_drop,show i+1+(j-(i+1))=j by omega];exact e
  have hP:∀b∈p::as.drop (i+1),∃o,qy Y F' aG bS H' b o:=λb hb=>by
   rcases List.mem_cons.mp hb with rfl|hb
   ·exact⟨_,Wt⟩
   ·obtain⟨j,hj,e⟩:=List.mem_iff_getElem.mp hb
    rw[List.getElem_drop]at e;have hj':i+1+j<as.length:=by rw[List.length_drop]at hj;omega
    have hj2:i+1+j<cs.length:=by rw[<- len];exact hj'
    exact⟨_,Gr (i+1+j) b cs[i+1+j] ⋯ (by rw[List.getElem?_eq_getElem hj',e]) (List.getElem?_eq_getElem hj2)⟩
  obtain⟨F2,sF,R2,keep,go⟩:=hy p as i _ cs[i] F' H' aG bS x H2 R' nd e1 hP Wt.h (Gr i _ _ (Nat.le_refl _) e1 e2) y;refine go _ λaO R3=>?_;have hn:as.length-i=(as.length-(i+1))+1:=by omega
  rw[hn]at q';have q2:=q' cs[i];have XM:∀b∈p::as.drop (i+1),∃o,qy Y F2 aG bS H2 b o:=λb hb=>by
   obtain⟨o,a⟩:=hP b hb;exact⟨o,keep b o a⟩
  have again:∀ {sv:St} {H4 F4:Hp} {fK:Sd},au F2 F4->RS (Y.qJ F2 H2 (p::as.drop (i+1))) F4 fK sv H4->wq pre tb De (as.length-(i+1)) (i+1) fK->∃F2 cu,au F1 F2/\RS Y F2 cu sv H4/\qy Y F2 cu sv H4 p (.lst (as.map V.ref))/\(∀(j:Nat) (a:Addr) (c:Int),i+1<=j->as[j]?=some a->cs[j]?=some c->qy Y F2 cu sv H4 a (.lst [.int c,.int 0]))/\wq pre tb De (as.length-(i+1)) (i+1) cu:=λ{sv H4 F4 fK} s4 R4 q4=>by
   obtain⟨R5,k5⟩:=R2.ny XM R4;exact⟨F4,fK,(s'.trans sF).trans s4,R5,k5 _ _ (List.mem_cons_self ..) (keep _ _ Wt),λj a c hj ea ec=>k5 _ _ (Qb j a hj ea) (keep _ _ (Gr j a c ⋯ ea ec)),q4⟩
  refine⟨Y.qJ F2 H2 (p::as.drop (i+1)),⟨rfl,rfl⟩,F2,pre i cs[i] aG,_,R3,q2,⟨λsv H4 F4 fK s4 R4 q4=>again s4 R4 q4,λv4 sv H4 F4 fK b s4 R4 r4 q4=>?_,λsv H4 F4 fK s4 R4 q4=>?_,λsv H4 F4 fK s4 R4 q4=>again s4 R4 q4⟩⟩
  ·obtain⟨R5,k5⟩:=R2.ny XM R4
   refine K.rt v4 sv H4 F4 fK b (((s1.trans s').trans sF).trans s4) R5 ?_ q4;cases b with
   | sh d=>exact r4
   | own xs =>
    obtain⟨a,vs,w1,w2,w3,w4,w5,w6⟩:=r4;refine⟨a,vs,w1,w2,w3,w4,?_,w6⟩;have w5:(if a∈p::as.drop (i+1)then H2 a else Y.H0 a)=none:=w5
    split at w5
    ·rename_i hm
     obtain⟨o,ap⟩:=XM a hm;exact ap.z
    ·exact w5
   | obj o =>
    obtain⟨a,w1,w2,w3⟩:=r4;refine⟨a,w1,w2,λb hb=>⟨(w3 b hb).1,(w3 b hb).2.1,?_,(w3 b hb).2.2.2⟩⟩;have w5:(if b∈p::as.drop (i+1)then H2 b else Y.H0 b)=none:=(w3 b hb).2.2.1
    split at w5
    ·rename_i hm
     obtain⟨o,ap⟩:=XM b hm;exact ap.z
    ·exact w5
  ·obtain⟨R5,k5⟩:=R2.ny XM R4
   exact K.nx sv H4 F4 fK (((s1.trans s').trans sF).trans s4) R5 q4
 ·left
  have e:i=as.length:=by omega
  subst e;rw[Nat.sub_self]at q';exact⟨pB p as H' Wt.h,K.nx bS H' F' aG (s1.trans s') R' q'⟩
theorem RS.KS{Y:bB}{F:Hp}{aj:Sd}{σ:St}{H:Hp}{j:Nat}{a:Addr}{c:Int}{ps:List Addr}(R:RS Y F aj σ H)(hP:∀b∈ps,∃o,qy Y F aj σ H b o)(ha:qy Y F aj σ H a (.lst [.int c,.int 0]))(hn:a∉ps)(cP:∀p∈Y.io,p.1≠j):
  RS (Y.qJ F H ps) F (aj.set j (some (.own [.int c,.int 0]))) (σ.set j (some (.ref a))) H:=
 (R.Ki ps hP).GY ha.h (.cons (.int _) (.cons (.int _) .nil)) ha.f (by show(if a∈ps then H a else Y.H0 a)=none;rw[if_neg hn];exact ha.z) ha.no cP
theorem JM{p:Addr}{as:List Addr}{i:Nat}{a:Addr}(nd:(p::as).Nodup)(e:as[i]?=some a):a∉p::as.drop (i+1):=by
 have hi:=(List.getElem?_eq_some_iff.mp e).1;have ea:as[i]=a:=(List.getElem?_eq_some_iff.mp e).2;intro h;rcases List.mem_cons.mp h with h|h
 ·exact(List.nodup_cons.mp nd).1 (by rw[<- h];exact List.mem_of_getElem? e)
 ·obtain⟨j,hj,e'⟩:=List.mem_iff_getElem.mp h
  rw[List.getElem_drop]at e';have hj':i+1+j<as.length:=by rw[List.length_drop]at hj;omega
  have:=(List.nodup_cons.mp nd).2;exact List.pairwise_iff_getElem.mp this i (i+1+j) hi hj' ⋯ (by rw[ea,e'])
theorem TQ(j:Nat){x y:Str}{e:Expr}{t:eU}{tb:bK}{body:List Stmt}{p c5 jI pos:Pos}(h:iO G k x)(ha:qW G k S [e] t)(hb:cB G k S body tb)(hj:S.N[j]?=some y:=by rfl)(hx:S.sc.lookup y=some .local\/(S.sc.lookup y=some .cell/\S.qA=false):=by first|exact Or.inl rfl|exact Or.inr ⟨rfl,rfl⟩)
  (hn:j∉S.ios:=by first|decide|exact List.not_mem_nil | (dsimp only;decide)) (hg:S.sc.lookup x=some .globalImplicit:=by rfl) (iZ:(x==("__debug__":Str))=false:=by decide)
  (he:∀env,starEach [e] env=(false,eval e env)::starEach [] env:=by intro _;rfl) (eY:∀env,(backTo c5 (starEach [] env)).any (·.1)=false:=by intro _;rfl)
  (hs:∀env x',foldedSetIterable (.Call (.Name x p) [e] [] c5) env x'=pure x':=by intro _ _;rfl) (An:S.ex=λ_ _=>False:=by rfl) (hh:S.jG=false:=by rfl):
  ES G k S (.For (.Name y jI) (.Call (.Name x p) [e] [] c5) body [] pos) (Bb t (Tv j) tb):=.mk λX Y ok=>by
 have pi:=Gk (tg:=.Name y jI) (Kd (p:=p) (pos:=c5) hh h ha hg iZ he eY ok);refine cG (Gv (ok.po hh) (ok.calm hh) pi (L2.AQ (i:=j) (by rw[ok.N];exact ok.nd) (by rw[ok.N];exact hj) (mZ ok hx) (mO ok hx)) (Nr An ok hb) (hs _)) λDn σ H q=>?_
 have r:=Gu (X:=X) (J:=λa=>Itl X.K a) (g:=px j) (λp as i a H h e=>⟨as.map V.ref,.ref a,.of h,by rw[List.getElem?_map,e];rfl⟩) (λp as H h=>⟨as.map V.ref,.of h,by rw[List.length_map];exact Nat.le_refl _⟩)
  (λp as i a c F H aj σ x H' R nd e hP hp abo y=>by
   obtain⟨rfl,y⟩:=y;have hx:=y _ (.of hp);rw[List.getElem?_map,e]at hx;cases hx;refine⟨F,au.refl _,R,λ_ _ a=>a,λN hN=>hN _ (R.KS hP abo (JM nd e) λq hq z=>hn (by rw[<- z];exact ok.ios q hq))⟩) q
 obtain⟨F,aj,Qd,w1,w2,w3,w4⟩:=r;exact⟨F,aj,Qd,w1,w2,w3,λp as cs H' F' ds aG a1 a2 a3 a4 a5 a6 a7=>by
  obtain⟨p',as',e,z1,z2⟩:=w4 p as cs H' F' ds aG a1 a2 a3 a4 a5 a6 a7;exact .inl ⟨p',e,⟨_,.of z1⟩,z2⟩⟩
theorem wt{pre:Nat->Int->Sd->Sd}{tb:bK}{De:jM}(I:Sd->Prop)(hb:∀i c σ (N:Sd->Prop),I σ->(∀bS,I bS->N bS)->tb {De with nx:=N,ct:=N,bk:=De.nx} (pre i c σ))(hn:∀σ,I σ->De.nx σ):∀n i σ,I σ->wq pre tb De n i σ
 | 0,_,σ,h=>hn σ h
 | n+1,i,σ,h=>λc=>hb i c σ _ h λbS h'=>wt I hb hn n (i+1) bS h'
end Vc
namespace Vc
open PySem L2
variable [KF]
variable {G:GE}{k:Nat}{S:Stat}
def Mb(Y:bB):TS:=λDn σ H=>∃F ns,RS Y F [some (.sh (.lst (List.map D.int ns)))] σ H/\Y.H0=H/\(Y.io=[]/\Y.ob=[])/\ns.length<=63/\∀p as cs H',Wd H H' p as cs->Dn.rt (.ref p) H'
structure vn(G:GE)(k:Nat)(S:Stat)(b:List Stmt) :Prop where
 run:∀X Y,d8 X G k S Y->sG X b (Mb Y)
instance {G:GE} {k:Nat} {S:Stat} {b:List Stmt} :CoeFun (vn G k S b) λ_=>∀X Y,d8 X G k S Y->sG X b (Mb Y):=⟨vn.run⟩
def lLe(t:eU):TE:=λσ H Q=>∃Y:bB,Y.io=[]/\aay (lDs Y t) σ H Q
abbrev HD:TB:=aS eqT (a9 (jR ka (cf (ag 0) iA))) (aM (.int 0))
abbrev HH:eU:=aI (ai [] (aM (.int 0))) (aI (ai [] (aM (.int 0))) tN)
abbrev HF:eU:=cQ (ai [] (a9 (KR (ag 0) Ct (Bc (aM (.int 63))))))
abbrev zp:eU:=aI (ai [] (ag 0)) (aI (ai [] (aM (.int 0))) tN)
theorem oC{α:Type}(xs:List α)(lo hi:Option Int):(cut xs lo hi).length<=xs.length:=by
 unfold cut;rw[List.length_take,List.length_drop];omega
theorem vK(ns:List Int)(lo hi:Option Int):cut (ns.map D.int) lo hi=(cut ns lo hi).map D.int:=by
 unfold cut;rw[List.length_map,List.map_take,List.map_drop]
theorem aE.Yj{F:Hp}{vs:List V}{a b:Int}(r:aE F vs [.int a,.int b]):vs=[.int a,.int b]:=by
 cases r with
 | cons h r =>
  cases h;cases r with
  | cons h r=>cases h;cases r;rfl
section
variable {c:Expr}{zs es:List Expr}{tg iter:Expr}{scope:Scope}{N':List Str}{p1 p2 p3 p4 p5 p6 p7:Pos}
theorem OI(acf:S.ios=[])(hc:EB G k S c HD)(hz:qW G k S zs HH)(hi:EI G k S tg iter HF)(b:jL S scope N' [none])(hg:EG G k (aQ S scope N') tg (iI 0))(he:qW G k (aQ S scope N') es zp)(hs:∀env x,foldedSetIterable iter env x=pure x:=by intro _ _;rfl) 
  (h1:∀env,starEach [.List zs p1] env=(false,eval (.List zs p1) env)::starEach [] env:=by intro _;rfl) (hh:S.jG=false:=by rfl):
  vn G k S [.If c [.Return (some (.List [.List zs p1] p2)) p3] [] p4,.Return (some (.ListComp (.List es p5) [⟨tg,iter,[],0⟩] scope p6)) p7]:=.mk λX Y ok=>by
 have PJ:∀X',ko X X' scope N'->PG X' tg (lGe (iI 0))/\HV X' [] (lBe dj)/\PE X' (.List es p5) (lLe zp):=λX' cx =>
  ⟨λpins s σ H v u Q I r ⟨Y',cP,q⟩=>hg X' Y' (fo hh ok b cx Y' cP) pins s σ H v u Q I r q,λpins s σ H Q I ⟨Y',cP,q⟩=>il X' Y' (fo hh ok b cx Y' cP) pins s σ H Q I q,λpins s σ H Q I ⟨Y',cP,q⟩=>tX (he X' Y' (fo hh ok b cx Y' cP)) pins s σ H Q I q⟩
 refine ub (xi (L2.Mi (hc X Y ok) (uc (L2.yI (tX (cL (tX (hz X Y ok)) hG (h1 _))))) AY) (uc (L2.yI (oO (ok.calm hh) (hi X Y ok) (b.sc ok) PJ (hs _))))) λDn σ H q=>?_;obtain⟨F,ns,R,rfl,hY,hl,K⟩:=q;have same:∀ {F':Hp} {aj:Sd} {σ:St} {H':Hp},RS Y F' aj σ H'->au Y.H0 H':=λR b o e=>R.old b o e (by rw[bB.vk,hY.1,hY.2];simp)
 refine⟨F,_,λ_ aG=>aG=[some (.sh (.lst (List.map D.int ns)))],R,?_,λbb H1 F1 aw s1 R1 e1=>?_⟩
 ·simp only[HD,aS,a9,fzV,jR,cf,ag,iA,mI,dc,List.getElem?_cons_zero,ka,aM,eqT]
  exact⟨⟨rfl,rfl⟩,trivial⟩
 subst e1;cases bb with
 | true =>
  refine(if_pos rfl).mpr ?_;refine⟨F1,_,λds _=>ds=[.int 0,.int 0],R1,?_,λvs H2 F2 ds aO s2 R2 r2 e2=>?_⟩
  ·simp only[HH,aI,ai,mr,aM,tN]
  subst e2;obtain rfl:=r2.Yj;refine⟨by show 2<=sizeLine;decide,λa ha=>⟨by show 1<=sizeLine;decide,λp hp=>K p [a] [0] _ ?_⟩⟩
  have hpa:p≠a:=λz=>by rw[z,aA]at hp;cases hp
  have VI:H2 p=none:=by rw[aq hpa]at hp;exact hp
  have sm:=same R2;refine⟨(sm.trans (aK ha)).trans (aK hp),aA,λb hb=>?_,by simp [hpa],rfl,λi a' c' e1 e2=>?_⟩
  ·rcases List.mem_cons.mp hb with rfl|hb
   ·exact sm.free VI
   ·rw[List.mem_singleton.mp hb];exact sm.free ha
  ·cases i with
   | zero =>
    cases e1;cases e2;rw[aq hpa.symm,aA]
   | succ i=>simp at e1
 | false =>
  refine(if_neg ∅).mpr ?_
  refine⟨F1,_,λitems aG=>(∃ms:List Int,items=ms.map D.int/\ms.length<=63)/\aG=[some (.sh (.lst (List.map D.int ns)))],R1,?_,λH2 F2 aO J items s2 R2 it e2 acc iY=>?_⟩
  ·simp only[HF,cQ,ai,mr,mv,a9,fzV,KR,ag,Ct,Bc,aM,dc,List.getElem?_cons_zero,slD]
   exact⟨⟨cut ns none (some 63),vK _ _ _,Nat.le_trans (oC _ _ _) hl⟩,trivial⟩
  obtain⟨⟨ms,rfl,hm⟩,rfl⟩:=e2;have a0:Y.H0 acc=none:=(R2.bg iY).1;have aF:F2 acc=none:=same_none R2.fr iY;have noOwn:∀(σ:St) (a:Addr),dC [some (.sh (.lst (List.map D.int ns)))] σ a:=λσ a=>⟨λj ys e=>by
   cases j with
   | zero=>cases e
   | succ j=>simp at e,λ⟨j,o,c,e,_⟩=>by
   cases j with
   | zero=>cases e
   | succ j=>simp at e⟩
  have sw:∀ {F5 H5:Hp} {o:HO},au F5 H5->F5 acc=none->au F5 (upd H5 acc o):=λ{F5 H5 o} s5 h b u e=>by
   have:b≠acc:=λz=>by rw[z,h]at e;cases e
   rw[aq this];exact s5 b u e
  have YN:∀(i:Nat) (xs:List D),([none]:Sd)[i]?≠some (some (.own xs)):=λi xs e=>by
   cases i with
   | zero=>cases e
   | succ i=>simp at e
  have YM:∀(i:Nat) (o:O),([none]:Sd)[i]?≠some (some (.obj o)):=λi o e=>by
   cases i with
   | zero=>cases e
   | succ i=>simp at e
  refine⟨λi m aw H'=>∃Fi as cs,au F2 Fi/\RS Y Fi [some (.sh (.lst (List.map D.int ns)))] σ H'/\H' acc=some (.lst (List.map V.ref as))/\(acc::as).Nodup/\(∀b∈acc::as,Y.H0 b=none/\Fi b=none) /\
    (∀(i:Nat) (a:Addr) (c:Int),as[i]?=some a->cs[i]?=some c->H' a=some (.lst [.int c,.int 0]))/\as.length=cs.length/\as.length=i/\RS ⟨H',Fi,[],[]⟩ Fi [none] aw H'/\m=ms.length-i/\i<=ms.length,
   ⟨ms.length,F2,[],[],au.refl _,R2.other aF a0 (noOwn _ _),aA,by simp,λb hb=>by rw[List.mem_singleton.mp hb];exact⟨a0,aF⟩,λi a c e=>by simp at e,rfl,rfl,sV R2 [none] (au.refl _) (sw R2.fr aF),rfl,Nat.zero_le _⟩,?_⟩
  rintro i m aw Hi ⟨Fi,as,cs,si,Ri,gk,nd,fr,yH,len,Yz,Wg,rfl,hi⟩;have FA:=it Fi Hi si Ri.fr i
  by_cases rO:i<ms.length
  ·right
   obtain⟨go,yl⟩:=FA.1 (.int ms[i]) (by rw[List.getElem?_map,List.getElem?_eq_getElem rO];rfl)
   refine⟨go,λv H' y=>?_⟩;obtain⟨F3,gr,rep⟩:=yl v H' y;have sF:au Fi F3:=gr.same Ri.fr;have R3:=gr.rs Wg;have Wf:RS ⟨H',F3,[],[]⟩ F3 [none] aw H':=R3.less (gw _) YN YM R3.fr;have sH:au Hi H':=by
    rcases gr with⟨_,rfl⟩|⟨p,o,hp,_,rfl⟩
    ·exact au.refl _
    ·exact aK hp
   have Jl:∀c o,F3 c=some o->Fi c=some o\/Nw Hi c o:=λc o e=>by
    rcases gr with⟨rfl,_⟩|⟨p,o',hp,rfl,_⟩
    ·exact .inl e
    ·by_cases hc:c=p
     ·subst hc;exact .inr (.inl hp)
     ·rw[aq hc]at e;exact .inl e
   refine⟨⟨H',F3,[],[]⟩,rfl,F3,_,.int ms[i],λaj=>aj=[some (.sh (.int ms[i]))],Wf,rep,rfl,λsv H4 F4 fK s4 R4 q4=>?_⟩;subst q4;refine⟨⟨H',F3,[],[]⟩,rfl,F4,_,λbb aj=>bb=true/\aj=[some (.sh (.int ms[i]))],R4,⟨rfl,rfl⟩,λbb H5 F5 qw s5 R5 q5=>?_⟩;obtain⟨rfl,rfl⟩:=q5;refine(if_pos rfl).mpr ?_;refine⟨⟨H',F3,[],[]⟩,rfl,F5,_,λds aj=>ds=[.int ms[i],.int 0]/\aj=[some (.sh (.int ms[i]))],R5,?_,λvs H6 F6 ds aaL s6 R6 r6 q6=>?_⟩
   ·simp only[zp,aI,ai,mr,mv,ag,aM,tN,List.getElem?_cons_zero]
    exact⟨trivial,trivial⟩
   obtain⟨rfl,rfl⟩:=q6;obtain rfl:=r6.Yj;refine⟨by show 2<=sizeLine;decide,λa ha=>?_⟩
   have s36:au F3 F6:=(s4.trans s5).trans s6;have Cj:au Hi H6:=sH.trans λb o e=>R6.old b o e (by simp [bB.vk])
   have fr6:∀c o,F6 c=some o->Fi c=some o\/Nw Hi c o:=λc o e=>by
    rcases R6.eJ c o e with z|z
    ·exact Jl c o z
    ·exact .inr (z.imp sH.free id)
   have w1:RS Y F6 [some (.sh (.lst (List.map D.int ns)))] σ H6:=Ri.call (sF.trans s36) R6.fr Cj fr6;have live:∀b∈acc::as,∃o,Hi b=some (.lst o):=λb hb=>by
    rcases List.mem_cons.mp hb with rfl|hb
    ·exact⟨_,gk⟩
    ·obtain⟨j,hj,e⟩:=List.mem_iff_getElem.mp hb
     have hj2:j<cs.length:=by rw[<- len];exact hj
     exact⟨_,yH j b cs[j] (by rw[List.getElem?_eq_getElem hj,e]) (List.getElem?_eq_getElem hj2)⟩
   have w3:∀b∈acc::as,F6 b=none:=λb hb=>by
    cases e:F6 b with
    | none=>rfl
    | some o =>
     obtain⟨o',e'⟩:=live b hb;rcases fr6 b o e with z|z
     ·rw[(fr b hb).2]at z;cases z
     ·rcases z with z|⟨ws,rfl⟩
      ·rw[e']at z;cases z
      ·have y:=R6.fr b _ e;rw[Cj _ _ e']at y;cases y
   have na:∀b∈acc::as,b≠a:=λb hb=>by
    obtain⟨o',e'⟩:=live b hb;exact bq (Cj _ _ e') ha
   have XR:(upd H6 a (.lst [.int ms[i],.int 0])) acc=some (.lst (List.map V.ref as)):=by rw[aq (na acc (List.mem_cons_self ..))];exact Cj _ _ gk
   have R7:=w1.jW (o:=.lst [.int ms[i],.int 0]) ha;have aF6:=w3 acc (List.mem_cons_self ..);have YH:a≠acc:=(na acc (List.mem_cons_self ..)).symm;have Wh:F6 a=none:=same_none w1.fr ha;refine⟨List.map V.ref as,ms.length-(i+1),XR,by rw[List.length_map,Yz];exact Nat.lt_of_lt_of_le rO (Nat.le_trans hm ∅),by omega,F6,as++[a],cs++[ms[i]],si.trans (sF.trans s36),R7.other aF6 a0 (noOwn _ _),?_,?_,?_,?_,by simp [len],by simp [Yz],R6.less (σ0:=[none]) trivial YN YM (sw (λb o e=>?_) aF6),rfl,rO⟩
   ·rw[aA,List.map_append];rfl
   ·rw[List.nodup_cons]at nd ⊢
    refine⟨λh=>?_,?_⟩
    ·rcases List.mem_append.mp h with h|h
     ·exact nd.1 h
     ·exact YH (List.mem_singleton.mp h).symm
    ·rw[List.nodup_append]
     refine⟨nd.2,by simp,λx hx y hy z=>?_⟩
     rw[List.mem_singleton.mp hy]at z;exact na x (List.mem_cons_of_mem _ hx) z
   ·intro b hb
    rcases List.mem_cons.mp hb with rfl|hb
    ·exact⟨a0,aF6⟩
    ·rcases List.mem_append.mp hb with hb|hb
     ·exact⟨(fr b (List.mem_cons_of_mem _ hb)).1,w3 b (List.mem_cons_of_mem _ hb)⟩
     ·rw[List.mem_singleton.mp hb]
      exact⟨(w1.bg ha).1,Wh⟩
   ·intro t a' c' e1 e2
    by_cases ht:t<as.length
    ·rw[List.getElem?_append_left ht]at e1
     rw[List.getElem?_append_left (by rw[<- len];exact ht)]at e2
     have hm':=List.mem_of_getElem? e1;have:a'≠acc:=λz=>(List.nodup_cons.mp nd).1 (by rw[<- z];exact hm')
     rw[aq this,aq (na a' (List.mem_cons_of_mem _ hm'))];exact Cj _ _ (yH t a' c' e1 e2)
    ·have h1:=(List.getElem?_eq_some_iff.mp e1).1
     rw[List.length_append,List.length_singleton]at h1;have h2:t=as.length:=by omega
     subst h2;rw[List.getElem?_append_right (Nat.le_refl _),Nat.sub_self]at e1;rw[List.getElem?_append_right (by rw[len];exact Nat.le_refl _),len,Nat.sub_self]at e2
     cases e1;cases e2;rw[aq YH,aA]
   ·have:b≠a:=λz=>by rw[z,Wh]at e;cases e
    rw[aq this];exact R6.fr b o e
  ·left
   have e:i=ms.length:=by omega
   refine⟨FA.2 (by rw[List.length_map];exact e),K acc as cs Hi ⟨same Ri,gk,λb hb=>(fr b hb).1,nd,len,yH⟩⟩
end
theorem dy.yH{x:Str}{st:Stmt}{ps N:List Str}{f:Addr}{fd:FuncData}(d:dy G x st ps f fd)(hK:G.K=KF.K)(Sc:aC N ps (ae st))(hN:N.length=1)(L7:ps.length=1)(ht:vn G k ⟨N,(ae st).names,[],false,false,false,λ_ _=>False⟩ (ak st)):iO G (k+1) x:=by
 refine⟨f,fd,ps,?_,d.m,d.F.kp,d.b⟩;refine d.F.ok Sc (λvs H Q E h=>?_) (λgh A outer s H vs Q E hr h=>?_)
 ·obtain⟨F,ns,s,r,_⟩:=h
  rw[r.length,L7];rfl
 ·obtain⟨F,ns,sm,r,hl,K⟩:=h
  refine⟨_,ht (kz iL G.P G.w G.K G.mg G.base N x (ae st) f gh A outer s H E).JR ⟨H,F,[],[]⟩ ⟨rfl,rfl,rfl,hK,rfl,rfl,rfl,rfl,Sc.nd,λp hp=>absurd hp (by simp),λ_ _=>rfl,λ_=>rfl,Sc.kind,λ_ _ _=>rfl,λ_=>hr.hd,hr.dp,hr.un,λ_=>PassesOwn.never,λ_=>⟨rfl,rfl,rfl⟩,λ_ _ h=>h.elim,λh=>nomatch h⟩,F,ns,?_,rfl,⟨rfl,rfl⟩,hl,λp as cs H' P=>K p as cs H' P⟩
  have:=RS.start N.length sm r;rw[hN]at this;show RS _ F _ (vs.map some++List.replicate (N.length-vs.length) none) H;rw[hN];exact this
end Vc
namespace Vc
open PySem L2
variable [KF]
variable {G:GE}{k:Nat}{S:Stat}
theorem Yk(a b:D)(Q:D->Prop):JB (.lst [a,b]) (.int 0) Q=Q a:=rfl
theorem Yl(a b:D)(Q:D->Prop):JB (.lst [a,b]) (.int 1) Q=Q b:=rfl
theorem Qg:As 2 0=some 0:=rfl
theorem Qh:As 2 1=some 1:=rfl
theorem rp{α:Type}{g:nX}{te:TD}{vm:Sd}{m:Nat}{Q:List D->List D->Prop}{MD:List D}(gi:α->D)(P:D->Prop)(Rk:List D->Prop)(l:List α)
  (h:∀a∈l,∀xs,Rk xs->∀(A:D->List D->Prop) (Z:Prop),Z->(∀d ys,P d->Rk ys->A d ys)->g (gi a) (vm.set m (some (.own xs))) λaw=>te aw λd fe=>mW vm fe/\Z/\ownAt m fe λys=>A d ys)
  (hl:l.length<=sizeLine) (h0:Rk MD) (q:∀ds ys,ds.length=l.length->(∀d∈ds,P d)->Rk ys->Q ds ys):jY g dj te vm m (l.map gi) [] MD Q:=by
 have key:∀(l2:List α) (acc xs:List D),(∀a∈l2,a∈l)->acc.length+l2.length=l.length->(∀d∈acc,P d)->Rk xs->jY g dj te vm m (l2.map gi) acc xs Q:=by
  intro l2
  induction l2 with
  | nil=>intro acc xs _ hlen iY hr;exact q acc xs (by simpa using hlen) iY hr
  | cons a l2 ih =>
   intro acc xs hm hlen iY hr;have acb:acc.length+(l2.length+1)=l.length:=by simpa using hlen
   show g (gi a) _ λaw=>dj aw λb aO=>_;exact h a (hm a (List.mem_cons_self ..)) xs hr (λd ys=>jY g dj te vm m (l2.map gi) (acc++[d]) ys Q) (acc.length<sizeLine) ⋯ λd ys hd hy =>
    ih _ ys (λx hx=>hm x (List.mem_cons_of_mem _ hx)) (by rw[List.length_append,List.length_singleton];omega) (λx hx=>by
     rcases List.mem_append.mp hx with hx|hx
     ·exact iY x hx
     ·rw[List.mem_singleton.mp hx];exact hd) hy
 exact key l [] MD (λ_ h=>h) (by simp) (λd hd=>by cases hd) h0
end Vc
namespace Vc
open PySem L2
variable [KF]
variable {G:GE}{k:Nat}{S:Stat}
def inD(x:D)(xs:List D):Bool:=xs.any λy=>fS y x
def inT:D->D->(Bool->Prop)->Prop
 | x,.lst xs,Q=>(bG 8 x=true/\bG 8 (.lst xs)=true)/\Q (inD x xs)
 | x,.tup xs,Q=>(bG 8 x=true/\bG 8 (.tup xs)=true)/\Q (inD x xs)
 | _,_,_=>False
def JP(x y:D)(Q:Bool->Prop):Prop:=inT x y λb=>Q !b
def ZY(neg:Bool):R2:=λv u H Q=>∃F x y xs,au F H/\b7 F H v x/\b7 F H u y/\(y=.lst xs\/y=.tup xs)/\bG 8 x=true/\bG 8 y=true/\Q (.bl (if neg then !inD x xs else inD x xs)) H
theorem nu{x:D}(hx:bG 8 x=true):∀(xs:List D),xs.all (bG 7)=true->(d3 xs).any (λy=>PyData.eqv y (toPy x))=inD x xs
 | [],_=>rfl
 | y::xs,h=>by
  rw[List.all_cons,Bool.and_eq_true]at h;show(PyData.eqv (toPy y) (toPy x)||(d3 xs).any _)=(fS y x||inD x xs)
  rw[nu hx xs h.2,tB 7 8 y x h.1 hx]
theorem JX{X:Cx}(hu:X.A.units+64<cLine):iH X (compareOp .NotIn) (ZY true):=by
 intro pins s σ H v u v' u' Q I rv ru h;obtain⟨F,x,y,xs,sm,rx,ry,hy,ox,oy,q⟩:=h;obtain⟨as,r1⟩:=rx.reads I.bc sm rv ox;obtain⟨bs,r2⟩:=ry.reads I.bc sm ru oy;have hx:=g6 8 x ox;rcases hy with rfl|rfl
 ·have Zq:xs.all (bG 7)=true:=oy
  have hl:=er (n:=7) (g6 7) xs Zq;exact SeqAt.notIn_list_reads r2 r1 hl.1 hx.1 (by have:=Nat.min_le_right (PyData.depthAll (d3 xs)) (toPy x).depth;omega) ⟨.bl _,H,I,rfl,by rw[nu ox xs Zq];exact q⟩
 ·have Zq:xs.all (bG 7)=true:=oy
  have hl:=er (n:=7) (g6 7) xs Zq;exact SeqAt.notIn_tuple_reads r2 r1 hl.1 hx.1 (by have:=Nat.min_le_right (PyData.depthAll (d3 xs)) (toPy x).depth;omega) ⟨.bl _,H,I,rfl,by rw[nu ox xs Zq];exact q⟩
theorem Wz:oV G k S .NotIn JP:=⟨ZY true,λX Y ok=>JX ok.units,λY F H aj σ v u x y Qd Q R rx ry q K=>by
 unfold JP inT at q
 split at q
 ·exact⟨F,_,_,_,R.fr,rx,ry,.inl rfl,q.1.1,q.1.2,K _ q.2⟩
 ·exact⟨F,_,_,_,R.fr,rx,ry,.inr rfl,q.1.1,q.1.2,K _ q.2⟩
 ·exact q.elim⟩
end Vc
namespace Vc
open PySem L2
variable [KF]
variable {G:GE}{k:Nat}{S:Stat}
def yo(x:D)(xs:List D):Option Nat:=xs.findIdx? λy=>fS y x
def abS(K:PySem.W.Frag):V->List V->Hp->VK->Prop:=λo vs H Q=>∃F v x xs j,vs=[v]/\au F H/\b7 F H o (.lst xs)/\b7 F H v x/\bG 8 x=true/\bG 8 (.lst xs)=true/\yo x xs=some j/\Q (.int j) H
theorem yQ{P:Program}{w:World}{F H:Hp}{h:Heap}(ok:gf P w H h)(s:au F H){vs:List V}{ds:List D}{us:List Value}(r:aE F vs ds)(rv:Vals vs us)(o:ds.all (bG 7)=true):∃as,ReadsAll h us (d3 ds) as:=aE.reads ok s 7 r rv o
theorem wm{x:D}(hx:bG 8 x=true)(h:Heap):∀(xs:List D) (us:List Value) (as:List Addr),xs.all (bG 7)=true->ReadsAll h us (d3 xs) as->us.findIdx? (λu=>PyData.eqv (SeqAt.readOf h u) (toPy x))=yo x xs
 | [],_,_,_,r=>by cases r;rfl
 | y::xs,us,as,ho,r=>by
  rw[List.all_cons,Bool.and_eq_true]at ho;cases r with
  | cons r1 r2 =>
   have e:SeqAt.readOf h _=toPy y:=SeqAt.readOf_eq (g6 7 y ho.1).1 r1;have ih:=wm hx h xs _ _ ho.2 r2;unfold yo at ih ⊢;rw[List.findIdx?_cons,List.findIdx?_cons,e,<- tB 7 8 y x ho.1 hx,ih]
theorem FN{X:Cx}(hu:X.A.units+64<cLine):MtM X "list.index" (abS X.K):=by
 intro pins s σ H o vs ov us Q I ro rv h;obtain⟨F,v,x,xs,j,rfl,sm,r1,r2,o1,o2,hj,q⟩:=h;obtain⟨a,ws,rfl,h1,h2⟩:=r1.lst;cases ro;obtain⟨u,rfl,ru⟩:=rv.one;obtain⟨z,its,n,xW,e⟩:=L2.Rd.ok h1 I.bc;obtain⟨as,ra⟩:=r2.reads I.bc sm ru o1;have o2':xs.all (bG 7)=true:=o2;obtain⟨bs,rb⟩:=yQ I.bc sm h2 xW o2';have hl:=er (n:=7) (g6 7) xs o2';have hx:=g6 8 x o1;have hf:=wm o1 s.heap xs its bs o2' rb;rw[hj]at hf;obtain⟨CB,hit,PN⟩:=List.findIdx?_eq_some_iff_getElem.mp hf;have hjz:its.length<=sizeLine:=by rw[<- xW.length];exact z
 refine call_meets PySem.F.slot_list_index ⟨_,e,rfl⟩ PySem.F.entry_list_index (PySem.F.args_list_index_2 _ _) (SeqAt.list_indexAt a its.toArray n none #[] u (λy=>PyData.eqv (SeqAt.readOf s.heap y) (toPy x)) j (by simpa using CB) (by have:(sizeLine:Nat)=2^24:=rfl;omega) (by simpa using hit) (λm hm hmj=>?_)) ⟨e,SeqAt.items_eqAt (vs:=its.toArray) (by simpa using rb) ra hl.1 hx.1 (by have:=Nat.min_le_right (PyData.depthAll (d3 xs)) (toPy x).depth;omega),?_⟩
 ·have:=PN m hmj
  simpa using this
 ·exact⟨.int j,H,I.kept (λb o e=>e),⟨_,rfl⟩,q⟩
def UU(to:TV)(te:TD):TV:=λσ Q=>to σ λo aw=>(∃ys,dc aw o=some (.lst ys))/\te aw λx aO=>match dc aO o with
 | some (.lst xs)=>(bG 8 x=true/\bG 8 (.lst xs)=true)/\∃j,yo x xs=some j/\Q (.val (.int (j:Nat))) aO
 | _=>False
theorem Kr{o e:Expr}{to:TV}{te:TD}{apos c5:Pos}(ho:EO G k S o to)(he:ED G k S e te)(hb:∀env,attributeBase o "index" env (eval o env)=eval o env:=by intro _;rfl)
  (Fm:∀env,((backTo c5 (starEach [e] env)).all (λx=>!x.1)&&(backToKw c5 (keywordEach [] env)).all (λx=>x.1.isSome)&&decide (([e]:List Expr).length+([]:List Keyword).length+(if([]:List Keyword).isEmpty then 0 else 1)<30))=true:=by intro _;rfl)
  (hline:(apos.endLine==c5.line)=true:=by rfl) (hs:∀env,starEach [e] env=[(false,eval e env)]:=by intro _;rfl):EO G k S (.Call (.Attribute o "index" apos) [e] [] c5) (UU to te):=.mk λX Y ok=>by
 have ha:PA X [e] (jS (lD Y te) qS):=cL (he X Y ok) hG (by rw[hs];rfl)
 refine aV (Mh PySem.F.plainAttrs_list PySem.F.slot_list_index PySem.F.type_list_index (FN ok.units) (ho X Y ok) ha (hb _) (Fm _) hline (by rw[hs];rfl) (by rfl)) λσ H Q q=>?_
 obtain⟨F,aj,Qd,R,q,K⟩:=q;refine⟨F,aj,_,R,q,λv1 H1 F1 x aw s1 R1 r1 q1=>?_⟩;obtain⟨⟨ys,e0⟩,q1⟩:=q1;obtain⟨a,ws,e1,h1,_⟩:=(R1.dc r1 e0).lst;refine⟨by rw[e1];exact .inl ⟨rfl,ws,.inl h1⟩,F1,aw,_,R1,q1,λv2 H2 F2 d aO s2 R2 r2 q2=>?_⟩
 split at q2
 ·rename_i xs e2
  obtain⟨⟨o1,o2⟩,j,hj,q2⟩:=q2;exact⟨F2,v2,d,xs,j,rfl,R2.fr,R2.dc (r1.mono s2) e2,Rep.h R2.fr r2,o1,o2,hj,K _ H2 F2 (.val (.int j)) aO (s1.trans s2) R2 (.int _) q2⟩
 ·exact q2.elim
end Vc
namespace Vc
open PySem L2 PySem.Spec PyProof.Rows
theorem pv{α β:Type}{f g:α->Option β}:∀ {xs:List α},(∀x∈xs,f x=g x)->xs.filterMap f=xs.filterMap g
 | [],_=>rfl
 | x::xs,h=>by
  rw[List.filterMap_cons,List.filterMap_cons,h x (List.mem_cons_self ..),pv λy hy=>h y (List.mem_cons_of_mem _ hy)]
theorem xr{α:Type}(xs:List α):∀m:Nat,m<=xs.length->(List.range m).filterMap (λk=>xs[xs.length-1-k]?)=xs.reverse.take m
 | 0,_=>by simp
 | m+1,h=>by
  rw[List.range_succ,List.filterMap_append,xr xs m ⋯,List.take_add_one]
  congr 1;rw[List.getElem?_reverse ⋯]
  cases h2:xs[xs.length-1-m]?<;>simp [h2]
theorem xq{α:Type}(xs:List α):(List.range xs.length).filterMap (λk=>xs[xs.length-1-k]?)=xs.reverse:=by
 rw[xr xs xs.length (Nat.le_refl _)];exact List.take_of_length_le (by rw[List.length_reverse];exact Nat.le_refl _)
theorem qN(its:List Value):slicePick its.toArray none none (some (-1))=its.reverse.toArray:=by
 have hb:sliceBounds none none (some (-1)) its.toArray.size=((its.length:Int)-1,-1,-1):=by rw[List.size_toArray];rfl
 unfold slicePick;rw[hb];show((sliceRange ((its.length:Int)-1) (-1) (-1)).filterMap (its.toArray[·]?)).toArray=_
 unfold sliceRange;dsimp only;rw[if_neg (show¬((-1:Int)>0)by decide)]
 have e:(if(its.length:Int)-1 > -1 then((its.length:Int)-1 - -1 - -1-1)/(- -1)else 0).toNat=its.length:=by
  have:(- -1:Int)=1:=by decide
  rw[this,Int.ediv_one]
  split<;>omega
 rw[e,List.filterMap_map];congr 1;refine Eq.trans ?_ (xq its);refine pv λk hk=>?_;show its.toArray[((its.length:Int)-1+-1*(k:Int)).toNat]?=its[its.length-1-k]?;rw[List.getElem?_toArray];congr 1;have:=List.mem_range.mp hk;omega
section
variable {prog:Program}{w:World}{A:Around}{E:Value->Shared->Prop}{s:Shared}
theorem m9{sl:Addr}{u:Tok}{n:Nat}{Q:Int×Int×Nat->Shared->Prop}(hs:s.heap.IsSliceOf sl .none .none (.int (-1) u))
  (h:Q ((n:Int)-1,-1,n) s):wpAny (model prog w) A (Builtin.Slice.sliceApplied (.ref sl) (pure (n:Int))) Q E s:=by
 obtain⟨os,BM,PC,Ib⟩:=id hs;unfold Builtin.Slice.sliceApplied Builtin.Slice.sliceFields;refine wpAny_bind (wpAny_bind (wpAny_field BM Ib (x:=.none) rfl (wpAny_bind (wpAny_field BM Ib (x:=.none) rfl (wpAny_bind (wpAny_field BM Ib (x:=.int (-1) u) rfl (wpAny_pure ?_)))))));refine wpAny_bind (slicePart_int ?_);show wpAny _ _ (if((-1:Int)==0)=true then _ else _) _ _ s
 rw[if_neg ∅]
 refine wpAny_bind (slicePart_none (wpAny_bind (slicePart_none (wpAny_bind (wpAny_pure ?_)))));have e:Builtin.Slice.slicePlaces ((n:Int)-1) (-1) (-1)=n:=by
  unfold Builtin.Slice.slicePlaces;rw[if_neg ∅]
  have:(- -1:Int)=1:=by decide
  rw[this,Int.ediv_one]
  split<;>omega
 show wpAny _ _ (pure ((n:Int)-1,(-1:Int),Builtin.Slice.slicePlaces ((n:Int)-1) (-1) (-1))) _ _ s;rw[e];exact wpAny_pure h
theorem Ca(xs:Array Value):((List.range xs.size).filterMap λ(m:Nat)=>xs[((xs.size:Int)-1+(m:Int)*(-1)).toNat]?).toArray=xs.toList.reverse.toArray:=by
 congr 1;refine Eq.trans ?_ (xq xs.toList);rw[Array.length_toList];refine pv λk hk=>?_;rw[Array.getElem?_toList];congr 1;have:=List.mem_range.mp hk;omega
theorem kI{t sl:Addr}{items:Array Value}{u:Tok}{Q:Value->Shared->Prop}(ht:IsTup s.heap t items)(hs:s.heap.IsSliceOf sl .none .none (.int (-1) u))
  (h:Q (.ref s.heap.objs.size) {s with heap:=s.heap.push {cls:=.type "tuple",data:=.seq items.toList.reverse.toArray}})
  (hsz:items.size<=sizeLine):wpAny (model prog w) A (getItem (.ref t) (.ref sl)) Q E s:=by
 have kL:sizeOk (.seq items.toList.reverse.toArray):=by
  show items.toList.reverse.toArray.size<=sizeLine;rw[List.size_toArray,List.length_reverse,Array.length_toList];omega
 obtain⟨os,BM,PC,Ib⟩:=id hs;have XO:s.TypeIs (.ref sl) "slice":=⟨os,BM,PC⟩;unfold getItem
 try with_reducible refine wpAny_holding ?_
 first|refine wpAny_bind (wpAny_pure ?_)|skip
 refine wpAny_bind (wpAny_sequenceKey ht.typeIs ∅ ?_)
 refine wpAny_bind (wpAny_callSpecial?_slot (name:=Str.ofString "__getitem__") ht.typeIs PyProof.Rows.slot_tuple_getitem
  (wpAny_call_entry PyProof.Rows.slot_tuple_getitem ht.typeIs entry_tuple_getitem ?_ (args_tuple_getitem _ _)))
 show wpAny _ _ (Builtin.Tuple.tupleItemsOf (.ref t) >>= _) _ _ s;refine wpAny_bind (tupleItemsOf_ ht ?_);refine wpAny_bind (wpAny_typeOf XO ?_);rw[if_pos ∅]
 refine wpAny_bind (m9 hs ?_);have PN:¬((((items.size:Int)-1)==0&&(-1:Int)==1&&items.size==items.size)=true):=by
  intro q;rw[Bool.and_eq_true,Bool.and_eq_true]at q;exact absurd q.1.2 ∅
 show wpAny _ _ (if(((items.size:Int)-1)==0&&(-1:Int)==1&&items.size==items.size)=true then _ else _) _ _ s
 rw[if_neg PN,Ca]
 first
  | exact wpAny_bind (m:=Builtin.Tuple.tupleExact _) (wpAny_newObj_type (wpAny_pure ⟨_,rfl,wpAny_pure h⟩) kL)
  | exact wpAny_bind (m:=Builtin.Tuple.tupleExact _) (wpAny_newObj_type (wpAny_bind (wpAny_pure (wpAny_pure ⟨_,rfl,wpAny_pure h⟩))) kL)
  | exact wpAny_bind (wpAny_bind (m:=Builtin.Tuple.tupleExact _) (wpAny_newObj_type (wpAny_pure (wpAny_pure ⟨_,rfl,wpAny_pure h⟩)) kL))
  | exact wpAny_bind (wpAny_bind (m:=Builtin.Tuple.tupleExact _) (wpAny_newObj_type (wpAny_pure ⟨_,rfl,wpAny_pure h⟩) kL))
end
section
variable {X:Cx}{e:Expr}{te:TE}{st:Expr}{ts:TO}{pos p2:Pos}
def HW(X:Cx)(r:V->Hp->VK->Prop):Prop:=
 ∀(pins:List (Addr×Obj)) (s:Shared) (σ:L2.St) (H:Hp) (x:V) (v:Value) (u:Tok) (sl:Addr) (Q:VK),Inv X pins σ H s->RelV x v->s.heap.IsSliceOf sl .none .none (.int (-1) u)->r x H Q ->
  ∃T id,typeLookup (.type T) "__getitem__"=pure (some (.builtin id))/\s.TypeIs v T/\wpAny (model X.prog X.w) X.A (getItem v (.ref sl)) (EP X pins σ Q) X.xe s
theorem HW.or{r r':V->Hp->VK->Prop}(h:HW X r)(h':HW X r'):HW X (λx H Q=>r x H Q\/r' x H Q):=by
 intro pins s σ H x v u sl Q I rx hs q;rcases q with q|q
 ·exact h pins s σ H x v u sl Q I rx hs q
 ·exact h' pins s σ H x v u sl Q I rx hs q
def ab4(r:V->Hp->VK->Prop)(te:TE)(ts:TO):TE:=λσ H Q=>te σ H λx H1=>ts σ H1 λl H2=>l=some (-1)/\r x H2 Q
theorem SJ{r:V->Hp->VK->Prop}(hr:HW X r)(he:PE X e te)(hs:PO X (some st) ts):PE X (.Subscript e (.Slice none none (some st) p2) pos) (ab4 r te ts):=by
 intro pins s σ H Q I h;refine Subscript_ (ck (he pins s σ H _ I h) λv s1 ⟨x,H1,I1,r1,q1⟩=>?_);refine wpAny_Slice ?_;rw[evalPart_none];refine wpAny_pure (wpAny_pure ?_);refine ck (hs pins s1 σ H1 _ I1 q1) λvs s3 ⟨l,H3,I3,pl,el,q3⟩=>?_;subst el;cases pl with
 | int _ u =>
 have I4:Inv X pins σ H3 {s3 with heap:=s3.heap.push {cls:=.type "slice",data:=.fields #[.none,.none,.int (-1) u]}}:=I3.kept (t':=s3.toks) λb ob q=>Heap.get?_push_of_some _ q
 obtain⟨T,id,hT,ht,hg⟩:=hr pins {s3 with heap:=s3.heap.push {cls:=.type "slice",data:=.fields #[.none,.none,.int (-1) u]}} σ H3 x v u s3.heap.objs.size Q I4 r1 (Heap.IsSliceOf.new ..) q3
 show wpAny (model X.prog X.w) X.A (subscriptTail e (.Slice none none (some st) p2) v (.ref s3.heap.objs.size)) (EP X pins σ Q) X.xe {s3 with heap:=s3.heap.push {cls:=.type "slice",data:=.fields #[.none,.none,.int (-1) u]}}
 exact tail_any (ops:=[v,.ref s3.heap.objs.size]) ht hT hg (by with_unfolding_all rfl)
theorem Kv:HW X (λx H Q=>∃a xs,x=.ref a/\nB X.K H a xs/\∀p,H p=none->Q (.ref p) (upd H p (.tup xs.reverse))):=by
 intro pins s σ H x v u sl Q I rx hs h;obtain⟨a,xs,rfl,hx,q⟩:=h;cases rx;obtain⟨its,r,ht,hz⟩:=I.tuple hx;have hlen:its.toArray.size=xs.length:=by rw[List.size_toArray];exact r.length.symm
 refine⟨"tuple",_,PyProof.Rows.slot_tuple_getitem.lookup,ht.typeIs,?_⟩;refine kI ht hs ?_ (by rw[hlen];exact hz)
 refine⟨.ref s.heap.objs.size,_,I.laid (t':=s.toks) (o:=.tup xs.reverse) (λb ob q=>Heap.get?_push_of_some _ q) (Nat.le_refl _) ?_,rfl,q _ (I.bc.fresh (Nat.le_refl _))⟩;exact⟨by rw[List.length_reverse];exact hz,_,r.reverse,IsTup.new _ _⟩
theorem GH:HW X (λx H Q=>∃a xs,x=.ref a/\jr X.K H a xs/\∀p,H p=none->Q (.ref p) (upd H p (.lst xs.reverse))):=by
 intro pins s σ H x v u sl Q I rx hs h;obtain⟨a,xs,rfl,hx,q⟩:=h;cases rx;obtain⟨its,r,ht,hz⟩:=I.list hx;have hlen:=r.length;refine⟨"list",_,slot_list_getitem.lookup,ht.isList.typeIs,?_⟩;refine wpAny_getItem_list_slice ht.isList hs .none .none (.int (-1) u) ∅ ?_ (by rw[List.size_toArray]<;>omega)
 rw[qN];refine⟨.ref s.heap.objs.size,_,I.laid (t':=s.toks) (o:=.lst xs.reverse) (λb ob q=>Heap.get?_push_of_some _ q) (Nat.le_refl _) ?_,rfl,q _ (I.bc.fresh (Nat.le_refl _))⟩;exact⟨by rw[List.length_reverse];exact hz,_,0,r.reverse,Heap.get?_push_size _ rfl⟩
end
variable [KF]
variable {G:GE}{k:Nat}{S:Stat}
def Z9:D->(EV->Prop)->Prop
 | .lst xs,Q=>Q (.own xs.reverse)
 | .hW ns,Q=>Q (.own (ns.map D.int).reverse)
 | .tup xs,Q=>Q (.val (.tup xs.reverse))
 | _,_=>False
end Vc
namespace Vc
open PySem L2 PySem.Spec PyProof.Rows PySem.SeqAt PySem.MeetsSeq PySem.MeetsSeq2 PySem.MeetsSeq3
section
variable {prog:Program}{w:World}{A:Around}{E:Value->Shared->Prop}{s:Shared}
theorem kG{t sl:Addr}{items:Array Value}{vl vu:Value}{lo hi:Option Int}{Q:Value->Shared->Prop}(ht:IsTup s.heap t items)(hs:s.heap.IsSliceOf sl vl vu .none)(pl:IsPart vl lo)(pu:IsPart vu hi)
  (hw:HT.cU items.size 0 lo=0/\HT.cU items.size items.size hi=items.size)
  (h:Q (.ref t) s):wpAny (model prog w) A (getItem (.ref t) (.ref sl)) Q E s:=by
 obtain⟨os,BM,PC,Ib⟩:=id hs;have XO:s.TypeIs (.ref sl) "slice":=⟨os,BM,PC⟩;unfold getItem
 try with_reducible refine wpAny_holding ?_
 first|refine wpAny_bind (wpAny_pure ?_)|skip
 refine wpAny_bind (wpAny_sequenceKey ht.typeIs ∅ ?_)
 refine wpAny_bind (wpAny_callSpecial?_slot (name:=Str.ofString "__getitem__") ht.typeIs PyProof.Rows.slot_tuple_getitem
  (wpAny_call_entry PyProof.Rows.slot_tuple_getitem ht.typeIs entry_tuple_getitem ?_ (args_tuple_getitem _ _)))
 show wpAny _ _ (Builtin.Tuple.tupleItemsOf (.ref t) >>= _) _ _ s;refine wpAny_bind (tupleItemsOf_ ht ?_);refine wpAny_bind (wpAny_typeOf XO ?_);rw[if_pos ∅]
 refine wpAny_bind (HT.gK hs pl pu ?_);have abv:((((HT.cU items.size 0 lo:Nat):Int)==0&&(1:Int)==1&&(HT.cU items.size items.size hi-HT.cU items.size 0 lo)==items.size)=true):=by
  rw[hw.1,hw.2,Nat.sub_zero];simp
 show wpAny _ _ (if(((HT.cU items.size 0 lo:Nat):Int)==0&&(1:Int)==1&&(HT.cU items.size items.size hi-HT.cU items.size 0 lo)==items.size)=true then _ else _) _ _ s
 rw[if_pos abv];refine wpAny_bind (m:=Builtin.Tuple.tupleIsExact (.ref t)) ?_;unfold Builtin.Tuple.tupleIsExact;refine wpAny_bind (wpAny_typeOf ht.typeIs (wpAny_pure ?_));rw[if_pos ∅]
 refine wpAny_bind (wpAny_rule ?_);exact wpAny_pure ⟨_,rfl,wpAny_pure h⟩
end
section
variable {X:Cx}
theorem Ul:Bj X (λx lo hi H Q=>∃a xs,x=.ref a/\nB X.K H a xs/\(HT.cU xs.length 0 lo=0/\HT.cU xs.length xs.length hi=xs.length)/\Q (.ref a) H):=by
 intro pins s σ H x v vl vu lo hi sl Q I rx hs pl pu h;obtain⟨a,xs,rfl,hx,hw,q⟩:=h;cases rx;obtain⟨its,r,ht,hz⟩:=I.tuple hx;have hlen:its.toArray.size=xs.length:=by rw[List.size_toArray];exact r.length.symm
 refine⟨"tuple",_,PyProof.Rows.slot_tuple_getitem.lookup,ht.typeIs,?_⟩;exact kG ht hs pl pu (by rw[hlen];exact hw) ⟨.ref a,H,I,rfl,q⟩
end
variable [KF]
variable {G:GE}{k:Nat}{S:Stat}
theorem IP{α:Type}{xs:List α}{lo hi:Option Int}(h:HT.cU xs.length 0 lo=0/\HT.cU xs.length xs.length hi=xs.length):cut xs lo hi=xs:=by
 unfold cut;rw[h.1,h.2,List.drop_zero,Nat.sub_zero,List.take_of_length_le (Nat.le_refl _)]
end Vc
namespace Vc
open PySem L2
variable [KF]
structure zH(h:Heap)(a T:Addr)(c:Str):Prop where
 ex:∃o vs a0,h.get? a=some o/\o.cls=.ref (KF.cls c)/\o.data=.fields vs/\vs[0]?=some a0/\vs[1]?=some (.ref T)
 tb:∃o ts,h.get? T=some o/\o.data=.fields ts/\ts[3]?=some .none
structure Moved(fs:List Addr)(a T:Addr)(h h':Heap)(T':Addr):Prop where
 keep:∀b o,h.get? b=some o->b≠a->b≠T->b∉fs->h'.get? b=some o
 slot:∀b o,h.get? b=some o->b∈fs->∃sl,h'.get? b=some {o with slots:=sl}
 ne:T'≠a
 new:h.get? T'=none\/T'=T
theorem kQ{h h' base:Heap}{l l':List Env}{a T:Addr}{c:Str}{a0:Value}(ff:h.FunFrames base l)
  (x:Heap.FlyingW (PySem.W.hideAll h (a::T::kF l)) l' a (.ref (KF.cls c)) a0 h') (u:h.UpToSlots h'):∃T',Moved (kF l) a T h h' T'/\zH h' a T' c:=by
 obtain⟨x1,x2,x3,oe,vs,T',oT,ts,y1,⟨y2,y3⟩,y4,y5,y6,y7,y8,y9,y10⟩:=x;have sl:∀b o,h.get? b=some o->b∈kF l->∃sl,h'.get? b=some {o with slots:=sl}:=λb o e hb=>by
  obtain⟨_,o',e',d⟩:=ff.mem hb;rw[e]at e';cases e';exact u b o e d
 refine⟨T',⟨λb o e n1 n2 n3=>x1 b o (PySem.W.hideAll_get _ e λz=>?_),sl,y7,?_⟩,⟨oe,vs,a0,y1,y2,y4,y3,y5⟩,⟨oT,ts,y8,y9,y10⟩⟩
 ·rcases List.mem_cons.mp z with z|z
  ·exact n1 z
  ·rcases List.mem_cons.mp z with z|z
   ·exact n2 z
   ·exact n3 z
 ·cases e:h.get? T' with
  | none=>exact .inl rfl
  | some o =>
   by_cases z:T'=T
   ·exact .inr z
   by_cases zf:T'∈kF l
   ·obtain⟨_,o',e',d⟩:=ff.mem zf
    obtain⟨s2,e2⟩:=sl T' o' e' zf;rw[y8]at e2;cases e2;exact absurd y9 (d _)
   ·have:=PySem.W.hideAll_get (a::T::kF l) e λw=>by
     rcases List.mem_cons.mp w with w|w
     ·exact y7 w
     ·rcases List.mem_cons.mp w with w|w
      ·exact z w
      ·exact zf w
    rw[y6]at this;cases this
theorem mL{h base:Heap}{l:List Env}{a T:Addr}{c:Str}(ff:h.FunFrames base l)(f:zH h a T c)(ne:a≠T):∃a0,Heap.FlyingW (PySem.W.hideAll h (a::T::kF l)) l a (.ref (KF.cls c)) a0 h:=by
 obtain⟨o,vs,a0,e1,e2,e3,e4,e5⟩:=f.ex;obtain⟨oT,ts,t1,t2,t3⟩:=f.tb;exact⟨a0,λb o e=>PySem.W.of_hideAll _ e,PySem.W.hideAll_none _ (.head _),PySem.W.funFrames_hide ff λenv he b hb=>.tail _ (.tail _ (List.mem_filterMap.mpr ⟨env,he,hb⟩)),
  o,vs,T,oT,ts,e1,⟨e2,e4⟩,e3,e5,PySem.W.hideAll_none _ (.tail _ (.head _)),Ne.symm ne,t1,t2,t3⟩
section
variable {M:Model}{A:Around}{E:Value->Shared->Prop}{s:Shared}{base:Heap}{env:Env}{outer:List Env}{L a T:Addr}{c:Str}{Q:Unit->Shared->Prop}
theorem rS(Fp:A.frames=some (env::outer))(hf:env.frame=some L)(ff:s.heap.FunFrames base (env::outer))(f:zH s.heap a T c)(ne:a≠T)
  (q:∀h' T',Moved (kF (env::outer)) a T s.heap h' T'->zH h' a T' c->Q () {s with heap:=h'}):wpAny M A (leaving env (.ref a)) Q E s:=by
 obtain⟨a0,x⟩:=mL ff f ne;refine wpAny_leaves_onW Fp hf x λh' y u=>?_;obtain⟨T',m,f'⟩:=kQ ff y u;exact q h' T' m f'
theorem FH(Fp:A.frames=some (env::outer))(hf:env.frame=some L)(ff:s.heap.FunFrames base (env::outer))(f:zH s.heap a T c)(ne:a≠T)
  (q:∀h' T',Moved (kF (env::outer)) a T s.heap h' T'->zH h' a T' c->Q () {s with heap:=h'}):wpAny M A (noteFrame (.ref a) env) (λ_ s2=>wpAny M A (setFlight (.ref a) none) Q E s2) E s:=by
 obtain⟨a0,x⟩:=mL ff f ne;refine wpAny_looks_onW Fp hf x λh1 y u=>?_;refine wpAny_landsW y λh2 z u2=>?_;obtain⟨T',m,f'⟩:=kQ ff z (u.trans u2);exact q h2 T' m f'
theorem Bm(ff:s.heap.FunFrames base (env::outer))(f:zH s.heap a T c)(ne:a≠T)
  (q:∀h' T',Moved (kF (env::outer)) a T s.heap h' T'->zH h' a T' c->Q () {s with heap:=h'}):wpAny M A (setFlight (.ref a) none) Q E s:=by
 obtain⟨a0,x⟩:=mL ff f ne;refine PyProof.Rows.lands_againW x λh2 z u2=>?_;obtain⟨T',m,f'⟩:=kQ ff z u2;exact q h2 T' m f'
theorem leave_new(Fp:A.frames=some (env::outer))(hf:env.frame=some L)(ff:s.heap.FunFrames base (env::outer))
  (f:∃o vs a0,s.heap.get? a=some o/\o.cls=.ref (KF.cls c)/\o.data=.fields vs/\vs[0]?=some a0/\vs[1]?=some .none)
  (q:∀h' T',Moved (kF (env::outer)) a a s.heap h' T'->zH h' a T' c->Q () {s with heap:=h'}):wpAny M A (leaving env (.ref a)) Q E s:=by
 obtain⟨o,vs,a0,e1,e2,e3,e4,e5⟩:=f;have ff2:s.heap.FunFrames (PySem.W.hideAll s.heap (a::a::kF (env::outer))) (env::outer):=PySem.W.funFrames_hide ff λenv he b hb=>.tail _ (.tail _ (List.mem_filterMap.mpr ⟨env,he,hb⟩));refine wpAny_leaving_firstW (base:=PySem.W.hideAll s.heap (a::a::kF (env::outer))) Fp ff2 hf e1 (λb o e=>PySem.W.of_hideAll _ e) (PySem.W.hideAll_none _ (.head _)) e3 e5 e4 λh' y=>?_;obtain⟨k1,k2,k3,k4⟩:=y;rw[e2]at k3;obtain⟨T',m,f'⟩:=kQ (T:=a) ff ⟨k1,PySem.W.hideAll_none _ (.head _),k2,k3⟩ k4;exact q h' T' m f'
end
theorem xI{P:Program}{w:World}{H:Hp}{h:Heap}{a:Addr}{o:HO}(x:bX P w H h a o):∃u,h.get? a=some u:=by
 cases o with
 | lst xs=>obtain⟨_,_,_,_,e⟩:=x;exact⟨_,e⟩
 | tup xs=>obtain⟨_,_,_,o,e,_⟩:=x;exact⟨_,e⟩
 | dK kvs=>obtain⟨_,_,_,_,o,_,_,e,_⟩:=x;exact⟨_,e⟩
 | dT kvs=>obtain⟨_,_,_,_,o,_,_,e,_⟩:=x;exact⟨_,e⟩
 | set S n=>obtain⟨o,_,_,_,e,_⟩:=x;exact⟨_,e⟩
 | ins C dx fs=>obtain⟨_,_,_,e,_⟩:=x;exact⟨_,e⟩
 | own y=>exact x
 | xd fs=>obtain⟨mA,⟨o,es,ep,e,_⟩,_⟩:=x;exact⟨_,e⟩
 | rng lo hi=>obtain⟨_,_,_,e⟩:=x;exact⟨_,e⟩
 | tH o u=>exact⟨_,x.1⟩
 | MB ps=>exact⟨_,x⟩
 | lam ps pos qual=>obtain⟨_,e,_⟩:=x;exact⟨_,e⟩
 | met f y=>exact⟨_,x⟩
 | ext φ=>exact x.2.1
def du(H:Hp)(a T T':Addr)(c:Str):Hp:=λb=>if b=a then some (Ji a T' c)else if b=T' then some (tbO T')else if b=T then none else H b
def eS(o:Option HO):Prop:=∃φ,o=some (.ext φ)
theorem Jj{P:Program}{w:World}{H:Hp}{h:Heap}{a T:Addr}{c:Str}(f:zH h a T c):bX P w H h a (Ji a T c):=by
 obtain⟨o,vs,a0,e1,e2⟩:=f.ex;exact⟨⟨o,vs,a0,e1,e2⟩,⟨o,e1⟩,λh1 h2 ⟨o,vs,a0,z1,z2⟩ k=>⟨o,vs,a0,k o z1,z2⟩⟩
theorem Vd{P:Program}{w:World}{H:Hp}{h:Heap}{a T:Addr}{c:Str}(f:zH h a T c):bX P w H h T (tbO T):=by
 obtain⟨o,vs,e1,e2⟩:=f.tb;exact⟨⟨o,vs,e1,e2⟩,⟨o,e1⟩,λh1 h2 ⟨o,vs,z1,z2⟩ k=>⟨o,vs,k o z1,z2⟩⟩
theorem pq{P:Program}{w:World}{fs:List Addr}{H:Hp}{h h':Heap}{a T T':Addr}{c:Str}(bc:gf P w H h)(m:Moved fs a T h h' T')(f:zH h' a T' c)(hfs:∀b∈fs,H b=none)
  (ea:eS (H a)) (eT:eS (H T)):gf P w (du H a T T' c) h'/\Un fs [a,T] H (du H a T T' c) h h':=by
 obtain⟨φ,ea⟩:=ea;obtain⟨ψ,eT⟩:=eT;have YG:∀b o,H b=some o->(∀φ,o≠.ext φ)->b≠T':=λb o e n z=>by
  subst z;rcases m.new with z|z
  ·obtain⟨u,hu⟩:=xI (bc b o e)
   rw[z]at hu;cases hu
  ·subst z;rw[eT]at e;cases e;exact n _ rfl
 have other:∀b o,H b=some o->(∀φ,o≠.ext φ)->du H a T T' c b=some o:=λb o e n=>by
  unfold du;rw[if_neg (λz=>by subst z;rw[ea]at e;cases e;exact n _ rfl),if_neg (YG b o e n),if_neg (λz=>by subst z;rw[eT]at e;cases e;exact n _ rfl)]
  exact e
 refine⟨λb o e=>?_,⟨λb o e n n1 n2=>?_,λb o e n hb n2=>m.slot b o e hb,λb o e n n2=>?_,λb o e n2=>?_,λb xs e=>other b _ e (λφ z=>by cases z),λb o u e=>other b _ e (λφ z=>by cases z),λb ps e=>⟨#[],by rw[other b _ e (λφ z=>by cases z)];simp⟩⟩⟩
 ·unfold du at e
  split at e
  ·rename_i z;subst z;cases e;exact Jj f
  ·rename_i za
   split at e
   ·rename_i z;subst z;cases e;exact Vd f
   ·rename_i zT'
    split at e
    ·cases e
    ·rename_i zT
     refine(bc b o e).ql (λd u hd q=>?_) (λd q=>other d _ q (λφ z=>by cases z)) (λd xs q=>other d _ q (λφ z=>by cases z)) λd o u q=>other d _ q (λφ z=>by cases z)
     have hdn:H d≠none:=λz=>by
      rcases hd with hd|hd
      ·subst hd;rw[e]at z;cases z
      ·rw[hd]at z;cases z
     refine m.keep d u q (λz=>?_) (λz=>?_) λz=>hdn (hfs d z)
     ·rcases hd with hd|hd
      ·exact za (hd ▸ z)
      ·rw[z,ea]at hd;cases hd
     ·rcases hd with hd|hd
      ·exact zT (hd ▸ z)
      ·rw[z,eT]at hd;cases hd
 ·simp only[List.mem_cons,List.not_mem_nil,or_false,not_or]at n2
  exact m.keep b o e n2.1 n2.2 n1
 ·simp only[List.mem_cons,List.not_mem_nil,or_false,not_or]at n2
  unfold du;rw[if_neg n2.1,if_neg (λz=>?_),if_neg n2.2]
  ·exact n
  ·subst z
   rcases m.new with z|z
   ·rw[e]at z;cases z
   ·exact n2.2 z
 ·simp only[List.mem_cons,List.not_mem_nil,or_false,not_or]at n2
  by_cases hb:b∈fs
  ·obtain⟨sl,q⟩:=m.slot b o e hb
   exact⟨_,q⟩
  ·exact⟨o,m.keep b o e n2.1 n2.2 hb⟩
theorem KZ{fs:List Addr}{mB H H':Hp}{h₀ h h':Heap}{L a T:Addr}(u1:Un fs [] mB H h₀ h)(u2:Un (L::fs) [a,T] H H' h h')(hL:h₀.objs.size<=L)(ha:h₀.get? a=none)(hT:h₀.get? T=none):Un fs [] mB H' h₀ h':=by
 have nL:∀ {b:Addr} {o:Obj},h₀.get? b=some o->b≠L:=λe z=>by
  have:=Heap.lt_size e;rw[z]at this;exact absurd (Nat.lt_of_lt_of_le this hL) (Nat.lt_irrefl _)
 have nx:∀ {b:Addr} {o:Obj},h₀.get? b=some o->b∉[a,T]:=λe z=>by
  simp only[List.mem_cons,List.not_mem_nil,or_false]at z;rcases z with z|z
  ·rw[z,ha]at e;cases e
  ·rw[z,hT]at e;cases e
 have n0:∀b:Addr,b∉([]:List Addr):=λb=>by simp
 refine⟨λb o e n nf _=>?_,λb o e n hf _=>?_,λb o e n _=>?_,λb o e _=>?_,λb xs e=>u2.qv b xs (u1.qv b xs e),λb o u e=>u2.oi b o u (u1.oi b o u e),λb ps e=>?_⟩
 ·exact u2.keep b o (u1.keep b o e n nf (n0 b)) (u1.free b o e n (n0 b)) (λz=>by rcases List.mem_cons.mp z with z|z;exact nL e z;exact nf z) (nx e)
 ·obtain⟨sl,e1⟩:=u1.slot b o e n hf (n0 b)
  obtain⟨Mw,e2⟩:=u2.slot b _ e1 (u1.free b o e n (n0 b)) (.tail _ hf) (nx e);exact⟨Mw,e2⟩
 ·obtain⟨sl,e1⟩:=u1.any e n (n0 b)
  exact u2.free b _ e1 (u1.free b o e n (n0 b)) (nx e)
 ·obtain⟨o1,e1⟩:=u1.there b o e (n0 b)
  exact u2.there b o1 e1 (nx e)
 ·obtain⟨m1,e1⟩:=u1.qt b ps e
  obtain⟨m2,e2⟩:=u2.qt b _ e1;exact⟨m1++m2,by rw[e2,Array.append_assoc]⟩
end Vc
namespace Vc
open PySem L2
variable [KF]
variable {G:GE}{k:Nat}{S:Stat}
def CJ(P:Program)(w:World):zG:=λouter H s E e s'=>∃a T c H',e=.ref a/\s'.os=s.os/\PyProof.Rows.AllBare s'.gens/\Un (kF outer) [] H H' s.heap s'.heap/\gf P w H' s'.heap/\au H H' /\
 H a=none/\H T=none/\s.heap.get? a=none/\s.heap.get? T=none/\a≠T/\H' a=some (Ji a T c)/\H' T=some (tbO T)/\∀t,E (.str c t) none H'
abbrev oz:=List D->(B->Prop)->(Str->Prop)->Prop
def UO(sp:oz):Sp:=λvs H Q E=>∃F ds Qd Ed,jO F H/\aE F vs ds/\sp ds Qd Ed /\
 (∀v H' F' b,au F F'->au F' H'->au H H'->(∀c o,F' c=some o->F c=some o\/Nw H c o)->Bi H F' H' v b->Qd b->Q v H')/\∀c t H',Ed c->E (.str c t) none H'
def xY(G:GE)(k:Nat)(x:Str)(sp:oz):Prop:=∃f fd ps,bW G.P G.w G.K G.mg G.base (CJ G.P G.w) k f fd ps (UO sp)/\G.mg x=some (.ref f)/\PySem.W.keepIn G.K (.ref f)=true/\Binds G.K fd ps []
theorem xY.mono{x:Str}{sp:oz}{j:Nat}(h:xY G j x sp)(l:j<=k):xY G k x sp:=by
 obtain⟨f,fd,ps,h1,h2,h3,h4⟩:=h;exact⟨f,fd,ps,h1.mono l,h2,h3,h4⟩
def ClX(sp:oz)(ds:List D)(Q:B->Prop)(E:Str->Prop):Prop:=sp ds Q E
def zo(ex:Str->Sd->Prop)(sp:oz)(t:eU):TX:=λσ Q=>t σ λds aw=>ClX sp ds (λb=>Q (bE b) aw) λc=>ex c aw
theorem kX{x:Str}{sp:oz}{e:Expr}{es:List Expr}{t:eU}{p pos:Pos}(h:xY G k x sp)(ha:qW G k S (e::es) t)(hg:S.sc.lookup x=some .globalImplicit:=by rfl)(iZ:(x==("__debug__":Str))=false:=by decide)
  (he:∀env,starEach (e::es) env=(false,eval e env)::starEach es env:=by exactλ_=>Vc.cj rfl) (eY:∀env,(backTo pos (starEach es env)).any (·.1)=false:=by intro _;rfl) (hh:S.jG=false:=by rfl) (Jn:S.qA=false:=by rfl):
  EX G k S (.Call (.Name x p) (e::es) [] pos) (zo S.ex sp t):=.mk λX Y ok pins s σ H Q I q=>by
 obtain⟨f,fd,ps,h1,h2,h3,h4⟩:=h;have mQ:bW X.prog X.w X.K X.mg X.base (CJ X.prog X.w) k f fd ps (UO sp):=by rw[ok.P,ok.w,ok.K,ok.mg,ok.base];exact h1
 obtain⟨F,aj,Qd,R,q,K⟩:=q;refine wpAny_Call_Name_kw (fO I (di ok hg) (by rw[ok.mg];exact h2) ?_ iZ)
 refine PySem.W.callWith_K (h₀:=X.base) I.ok.mod.wF (by rw[ok.K];exact h3) (ck (ha X Y ok pos pins s σ H (λvs H1=>∃F1 ds aw,au F F1/\RS Y F1 aw σ H1/\aE F1 vs ds/\ClX sp ds (λb=>Qd (bE b) aw) λc=>S.ex c aw) I
  ⟨F,aj,_,R,q,λvs H1 F1 ds aw s1 R1 r1 q1=>⟨F1,ds,aw,s1,R1,r1,q1⟩⟩) λus s1 ⟨vs,H1,I1,r,F1,ds,aw,Ii,R1,r1,q1⟩=>⟨I1.iB,?_⟩) (he _) (eY _)
 let E:XK:=λv _ _=>∃c t,v=.str c t/\S.ex c aw
 have pA:UO sp vs H1 Q E:=by
  refine⟨F1,ds,_,_,⟨R1.fr,R1.ob.tab⟩,r1,q1,λv H' F' b s2 s3 s4 fr r2 q2=>?_,λc t H' hx=>⟨c,t,rfl,hx⟩⟩;have R2:=R1.call s2 s3 s4 fr;cases b with
  | sh d=>exact K v H' F' (.val d) aw (Ii.trans s2) R2 r2 q2
  | own xs =>
   obtain⟨a,us,rfl,w1,w2,w3,w4⟩:=r2;refine K _ H' F' (.own xs) aw (Ii.trans s2) R2 ⟨a,us,rfl,w1,w2,w3,(R1.bg w4).1,R1.cg w4⟩ q2
  | obj o =>
   obtain⟨a,rfl,w1,w2⟩:=r2;exact K _ H' F' (.obj o) aw (Ii.trans s2) R2 ⟨a,rfl,w1,λb hb=>⟨(w2 b hb).1,(w2 b hb).2.1,(R1.bg (w2 b hb).2.2).1,R1.cg (w2 b hb).2.2⟩⟩ q2
 have hl:us.length=ps.length:=by rw[<- r.length];exact mQ.len _ _ _ _ pA
 have hb:=h4 s1 us (by rw[<- ok.K];exact I1.iB) (by rw[List.append_nil];exact hl)
 rw[List.append_nil]at hb;refine wpAny_call (codeAny_mono (mQ.run X.A X.stack s1 H1 ⟨us,[]⟩ us vs Q E (ok.room hh) I1.Bu hb r pA) λr s' hq=>?_);cases r with
 | error e =>
  obtain⟨a,T,c,H',rfl,os,bare,un,bc,sm,na,nT,la,lT,ne,fa,fT,ed⟩:=hq;obtain⟨c',t',ec,hx⟩:=ed 0;cases ec;have I2:L2.Inv X pins σ H' s':=I1.o5 os un bc bare λb z=>absurd z (by simp)
  have R2:RS Y F1 aw σ H':=R1.call (au.refl _) (R1.fr.trans sm) sm λc o e=>.inl e;have old:∀b,s1.heap.get? b=none->X.bT.heap.get? b=none:=λb e=>by
   cases e0:X.bT.heap.get? b with
   | none=>rfl
   | some o =>
    obtain⟨o',e1⟩:=I1.base.there b o e0 (by rw[(ok.nx Jn).1];simp)
    rw[e]at e1;cases e1
  exact ok.exc c aw hx pins σ H' F1 s' a T I2 R2 ⟨same_none R1.fr na,same_none R1.fr nT,fa,fT,ne,(R1.bg na).1,(R1.bg nT).1,old a la,old T lT⟩
 | ok fl =>
  cases fl with
  | ret u=>exact I1.after hq
  | next=>exact False.elim hq
  | brk=>exact False.elim hq
  | cont=>exact False.elim hq
theorem gB{P:Program}{w:World}{H:Hp}{h:Heap}(ok:gf P w H h){a:Addr}(e:h.get? a=none):H a=none:=by
 cases q:H a with
 | none=>rfl
 | some o =>
  obtain⟨u,z⟩:=xI (ok a o q);rw[e]at z;cases z
theorem jb{X:Cx}{pins:List (Addr×Obj)}{σ:St}{H:Hp}{s:Shared}(I:L2.Inv X pins σ H s)(hex:X.ex=[]){b:Addr}(e:s.heap.get? b=none):X.bT.heap.get? b=none:=by
 cases e0:X.bT.heap.get? b with
 | none=>rfl
 | some o =>
  obtain⟨o',e1⟩:=I.base.there b o e0 (by rw[hex];simp)
  rw[e]at e1;cases e1
theorem tV{X:Cx}{Y:bB}{pins:List (Addr×Obj)}{σ:St}{aj:Sd}{H F:Hp}{s:Shared}{a T T':Addr}{h':Heap}{c:Str}{E:XK}(cP:Y.io=[]/\Y.ob=[])(hY:Y.H0=X.mB)(hex:X.ex=[])(pB:X.stack=X.env::X.outer)(Fp:X.env.frame=some X.env.locals)
  (I:L2.Inv X pins σ H s) (R:RS Y F aj σ H) (ea:eS (H a)) (eT:eS (H T)) (na:Y.H0 a=none) (nT:Y.H0 T=none) (la:X.bT.heap.get? a=none) (lT:X.bT.heap.get? T=none)
  (m:Moved (kF X.stack) a T s.heap h' T') (f:zH h' a T' c) (hE:∀t H',E (.str c t) none H'):CJ X.prog X.w X.outer X.mB X.bT E (.ref a) {s with heap:=h'}:=by
 obtain⟨BL,VS⟩:=pq I.bc m f I.ml ea eT;have un3:Un (X.env.locals::X.fs) [a,T] H (du H a T T' c) s.heap h':=by
  have e:kF X.stack=X.env.locals::kF X.outer:=by
   rw[pB];unfold kF;rw[List.filterMap_cons,Fp]
  rw[e]at VS;exact VS
 have hb:Un X.fs [] X.mB H X.bT.heap s.heap:=by
  have:=I.base;rw[hex]at this;exact this
 have YG:Y.H0 T'=none/\X.bT.heap.get? T'=none:=by
  rcases m.new with z|z
  ·exact⟨(R.bg (gB I.bc z)).1,jb I hex z⟩
  ·rw[z];exact⟨nT,lT⟩
 refine⟨a,T',c,du H a T T' c,rfl,I.os,I.bare,KZ hb un3 I.ok.above la lT,BL,λb o e=>?_,by rw[<- hY];exact na,by rw[<- hY];exact YG.1,la,YG.2,m.ne.symm,?_,?_,λt=>hE t _⟩
 ·have e':Y.H0 b=some o:=by rw[hY];exact e
  unfold du;rw[if_neg (λz=>by rw[z,na]at e';cases e'),if_neg (λz=>by rw[z,YG.1]at e';cases e'),if_neg (λz=>by rw[z,nT]at e';cases e')]
  exact R.old b o e' (by simp [bB.vk,cP.1,cP.2])
 ·unfold du;rw[if_pos rfl]
 ·unfold du;rw[if_neg m.ne,if_pos rfl]
theorem EK{x qual:Str}{st:Stmt}{f:Addr}{fd:FuncData}{N ps:List Str}{sp:oz}{t:(Str->Sd->Prop)->bK}(hK:G.K=KF.K)(Fn:xZ G.K x qual st f fd)(Sc:aC N ps (ae st))
  (ht:∀Ed:Str->Prop,cB G k ⟨N,(ae st).names,[],false,false,true,λc _=>Ed c⟩ (ak st) (t λc _=>Ed c))
  (len:∀ds Q E,sp ds Q E->ds.length=ps.length)
  (body:∀ds Q E,sp ds Q E->t (λc _=>E c) {nx:=λ_=>Q (.sh .aU),rt:=λb _=>Q b} (aJ N.length ds)):bW G.P G.w G.K G.mg G.base (CJ G.P G.w) (k+1) f fd ps (UO sp):=by
 obtain⟨oc,od,kV,doc,pm,an,gh,ct,F9,rfl,lk,iu⟩:=Fn.ex;refine EH lk iu Sc (λvs H Q E h=>?_) λA outer s H vs Q E hr h=>?_
 ·obtain⟨F,ds,Qd,Ed,s,r,q,K,_⟩:=h
  rw[r.length];exact len _ _ _ q
 ·obtain⟨F,ds,Qd,Ed,sm,r,q,K,KE⟩:=h
  refine⟨_,ht Ed (kz (CJ G.P G.w) G.P G.w G.K G.mg G.base N qual (ae st) f gh A outer s H E) ⟨H,F,[],[]⟩ ⟨rfl,rfl,rfl,hK,rfl,rfl,rfl,rfl,Sc.nd,λp hp=>absurd hp (by simp),λ_ _=>rfl,λ_=>rfl,Sc.kind,λ_ _ _=>rfl,λ_=>hr.hd,hr.dp,hr.un,λ_=>PassesOwn.leaving,λ_=>⟨rfl,rfl,rfl⟩,
   λc aj hx pins σ H1 F1 s1 a T I R fl=>?_,λ_ c aj hx pins σ H1 F1 s1 a I R ha na la=>?_⟩,F,aJ N.length ds,_,RS.start _ sm r,body ds Qd Ed q,?_⟩
  ·refine rS (c:=c) (T:=T) I.ok.frames rfl I.stack ⟨(I.bc a _ fl.ha).1,(I.bc T _ fl.hT).1⟩ fl.ne λh' T' m f'=>?_
   exact tV ⟨rfl,rfl⟩ rfl rfl rfl rfl I R ⟨_,fl.ha⟩ ⟨_,fl.hT⟩ fl.na fl.nT fl.la fl.lT m f' λt H'=>KE c t H' hx
  ·refine leave_new (c:=c) I.ok.frames rfl I.stack (I.bc a _ ha).1 λh' T' m f'=>?_
   exact tV ⟨rfl,rfl⟩ rfl rfl rfl rfl I R ⟨_,ha⟩ ⟨_,ha⟩ na na la la m f' λt H'=>KE c t H' hx
  have same:∀ {F':Hp} {aj:Sd} {σ:St} {H':Hp},RS ⟨H,F,[],[]⟩ F' aj σ H'->au H H':=λR b o e=>R.old b o e (by simp [bB.vk])
  refine⟨λσ H' F' aj s' R' q'=>?_,λv σ H' F' aj b s' R' r' q'=>?_,λ_ _ _ _ _ _ h=>h.elim,λ_ _ _ _ _ _ h=>h.elim⟩
  ·exact K .aU H' F' (.sh .aU) s' R'.fr (same R') R'.eJ .aU q'
  ·refine K v H' F' b s' R'.fr (same R') R'.eJ ?_ q'
   cases b with
   | sh d=>exact r'
   | own xs =>
    obtain⟨a,us,rfl,w1,w2,w3,w4,w5⟩:=r';exact⟨a,us,rfl,w1,w2,w3,w4⟩
   | obj o =>
    obtain⟨a,rfl,w1,w2⟩:=r';exact⟨a,rfl,w1,λb hb=>⟨(w2 b hb).1,(w2 b hb).2.1,(w2 b hb).2.2.1⟩⟩
theorem dy.fx{x:Str}{st:Stmt}{ps N:List Str}{f:Addr}{fd:FuncData}{t:(Str->Sd->Prop)->bK}{sp:oz}(d:dy G x st ps f fd)(hK:G.K=KF.K)(Sc:aC N ps (ae st))
  (ht:∀Ed:Str->Prop,cB G k ⟨N,(ae st).names,[],false,false,true,λc _=>Ed c⟩ (ak st) (t λc _=>Ed c))
  (len:∀ds Q E,sp ds Q E->ds.length=ps.length) (body:∀ds Q E,sp ds Q E->t (λc _=>E c) {nx:=λ_=>Q (.sh .aU),rt:=λb _=>Q b} (aJ N.length ds)):xY G (k+1) x sp:=
 ⟨f,fd,ps,EK hK d.F Sc ht len body,d.m,d.F.kp,d.b⟩
end Vc
namespace Vc
open PySem L2
variable [KF]
variable {G:GE}{k:Nat}{S:Stat}
def sR:List Value:=[.type "ValueError",.type "Exception",.type "BaseException",.type "object"]
def mroIn(K:PySem.W.Frag)(C:Addr):List Value:=match K.lookup C with
 | some ⟨_,_,.cls cd,_⟩=>cd.mro
 | _=>[]
structure VY(G:GE)(x:Str):Prop where
 mg:G.mg x=some (.ref (KF.cls x))
 exc:PySem.W.excIn G.K (KF.cls x) sR "ValueError.__new__"=true
theorem sW{K:PySem.W.Frag}{h:Heap}{C:Addr}{l:List Value}{id:String}(Z:K.In h)(q:PySem.W.excIn K C l id=true):
  ∃(bm:List Value) (N:Addr) (nm qn:Str) (bs:List Value) (hd:Bool) (sn:List Str) (sub:List Value) (ab:Bool) (col:Option Bool) (dd:Option Addr) (k0 k1 k2 k3 k5:Option Value) (mN:Str->Option Value),
   mroIn K C=.ref C::bm/\h.get? C=some (excClassObj nm qn C N bs bm hd sn sub ab col dd k0 k1 k2 k3 k5 id)/\h.Ns N mN/\mN "__init__"=none/\OwnTail h l bm:=by
 have q0:=q;unfold PySem.W.excIn at q
 split at q
 ·rename_i o1 c1 s1 e1
  split at q
  ·rename_i C2 tl j0 j1 j2 j3 id2 j5 em es
   simp only[Bool.and_eq_true,beq_iff_eq,Bool.not_eq_true']at q;obtain⟨⟨⟨⟨⟨z1,z2⟩,z3⟩,z4⟩,z5⟩,z6⟩:=q;subst z1 z2;obtain⟨n1,n2,n3,n4,n5,n6,n7,n8,n9,n10,n11⟩:=c1;dsimp only at em z3 z5 z6;subst em z3;obtain rfl:s1=#[j0,j1,j2,j3,some (.builtin id2),j5]:=by
    cases s1;simp only at es;rw[es]
   refine⟨tl,n4,n1,n5,n2,n6,n7,n8,n9,n10,o1,j0,j1,j2,j3,j5,_,?_,Z _ _ e1,Heap.Ns.of_isNs (PySem.W.isNs_of_in Z z5),PySem.W.nsMap_none_of_in Z z5 z6,PySem.W.tail_of_in Z z4⟩;unfold mroIn;rw[e1]
  ·cases q
 ·cases q
theorem Jr{P:Program}{w:World}{H:Hp}{h h':Heap}{a:Addr}{c:Str}(ok:gf P w H h)(kp:∀b u,h.get? b=some u->h'.get? b=some u)(e:h.get? a=none)
  (f:∃o vs a0,h'.get? a=some o/\o.cls=.ref (KF.cls c)/\o.data=.fields vs/\vs[0]?=some a0/\vs[1]?=some .none) {fs ex:List Addr}:gf P w (upd H a (QT a c)) h'/\Un fs ex H (upd H a (QT a c)) h h':=by
 have na:=gB ok e;have ne:∀ {b:Addr} {u:HO},H b=some u->b≠a:=λq z=>by rw[z,na]at q;cases q
 refine⟨λb u q=>?_,⟨λb u q _ _ _=>kp b u q,λb u q _ _ _=>⟨u.slots,kp b u q⟩,λb u q n _=>?_,λb u q _=>⟨u,kp b u q⟩,λb xs q=>by rw[aq (ne q)];exact q,λb o u q=>by rw[aq (ne q)];exact q,λb ps q=>⟨#[],by rw[aq (ne q),q];simp⟩⟩⟩
 ·by_cases hb:b=a
  ·subst hb;rw[aA]at q;cases q
   obtain⟨o,vs,a0,z1,z2⟩:=f;exact⟨⟨o,vs,a0,z1,z2⟩,⟨o,z1⟩,λh1 h2 ⟨o,vs,a0,y1,y2⟩ k=>⟨o,vs,a0,k o y1,y2⟩⟩
  ·rw[aq hb]at q
   exact(ok b u q).ql (λd v _ r=>kp d v r) (λd r=>by rw[aq (ne r)];exact r) (λd xs r=>by rw[aq (ne r)];exact r) λd o u r=>by rw[aq (ne r)];exact r
 ·rw[aq λz=>by rw[z,e]at q;cases q];exact n
def U1(ex:Str->Sd->Prop)(x:Str)(t:eU):bK:=λ_ σ=>t σ λds aw=>ds.length<=sizeLine/\ex x aw
theorem lN{x:Str}{e:Expr}{t:eU}{np c5 pos:Pos}(hc:VY G x)(ha:qW G k S [e] t)(hg:S.sc.lookup x=some .globalImplicit:=by rfl)(iZ:(x==("__debug__":Str))=false:=by decide)
  (he:∀env,starEach [e] env=(false,eval e env)::starEach [] env:=by intro _;rfl) (hh:S.jG=false:=by rfl) (hrs:S.rs=true:=by rfl) (Jn:S.qA=false:=by rfl):
  ES G k S (.Raise (some (.Call (.Name x np) [e] [] c5)) none pos) (U1 S.ex x t):=.mk λX Y ok pins s σ H D I q=>by
 obtain⟨F,aj,De,R,q,K⟩:=q;have hq:PySem.W.excIn X.K (KF.cls x) sR "ValueError.__new__"=true:=by rw[ok.K];exact hc.exc
 obtain⟨Ww,N',nm',qn',eL,Al,sn',KD,ab',IL,Cy,k0',k1',k2',k3',k5',mN',hm',hC,hN,abj,hT⟩:=sW I.ok.mod.wF hq;have eY:(backTo c5 (starEach [e] X.env)).any (·.1)=false:=by rw[he];rfl
 refine wpAny_Raise_call_subU (C:=KF.cls x) (nm:=nm') (q:=qn') (N:=N') (bs:=eL) (bm:=Ww) (hdct:=Al) (sn:=sn') (sub:=KD) (ab:=ab') (col:=IL) (dd:=Cy) (k0:=k0') (k1:=k1') (k2:=k2') (k3:=k3') (k5:=k5') (mN:=mN') (bmB:=sR)
  PySem.F.excBase_ValueError ∅ PySem.F.excBase_ValueError (hT.hasType ∅) (ok.hd hh) eY abj ?_
 refine fO I (di ok hg) (by rw[ok.mg];exact hc.mg) ⟨rfl,?_⟩ iZ
 have go:=ha X Y ok c5 pins s σ H (λvs H1=>∃F1 aw,RS Y F1 aw σ H1/\vs.length<=sizeLine/\S.ex x aw) I ⟨F,aj,_,R,q,λvs H1 F1 ds aw s1 R1 r1 q1=>⟨F1,aw,R1,by rw[r1.length];exact q1.1,q1.2⟩⟩
 rw[he]at go ⊢;refine Calls.evalArgs_plain (ck go λus s1 ⟨vs,H1,I1,r1,F1,aw,R1,hl,hx⟩=>⟨rfl,by rw[<- r1.length];exact hl,I1.bk _ _ hC,hN.keeps I1.bk,hT.keeps I1.bk,λh' a m=>?_⟩)
 obtain⟨t0,y1,y2,y3⟩:=m.there;have hf:∃o vs a0,h'.get? a=some o/\o.cls=.ref (KF.cls x)/\o.data=.fields vs/\vs[0]?=some a0/\vs[1]?=some .none:=⟨_,_,_,y1,rfl,rfl,rfl,rfl⟩;obtain⟨BL,VS⟩:=Jr (fs:=X.fs) (ex:=[]) I1.bc m.keeps m.new hf;have na:=gB I1.bc m.new;exact ok.made hrs x aw hx pins σ _ F1 _ a (I1.un (t':=s1.toks) VS BL) (R1.jW na) aA (R1.bg na).1 (jb I1 (ok.nx Jn).1 m.new)
end Vc
namespace Vc
open PySem L2
variable [KF]
variable {G:GE}{k:Nat}{S:Stat}
structure XCls(G:GE)(L:List Str):Prop where
 cls:∀c∈L,VY G c
 mro:∀c∈L,mroIn G.K (KF.cls c)=.ref (KF.cls c)::((if c="NearError" then []else [.ref (KF.cls "NearError")])++sR)
 inj:∀c∈L,∀d∈L,KF.cls c=KF.cls d->c=d
 near:("NearError":Str)∈L
def gN(c d:Str):Bool:=c==d||d=="NearError"
theorem XCls.sub{L:List Str}(Z:XCls G L){c d:Str}(hc:c∈L)(hd:d∈L):(mroIn G.K (KF.cls c)).contains (.ref (KF.cls d))=gN c d:=by
 rw[Bool.eq_iff_iff,List.contains_iff_mem,Z.mro c hc];unfold gN;rw[Bool.or_eq_true,beq_iff_eq,beq_iff_eq,List.mem_cons,List.mem_append];constructor
 ·rintro(h|h|h)
  ·injection h with h
   exact .inl (Z.inj d hd c hc h).symm
  ·split at h
   ·cases h
   ·rw[List.mem_singleton]at h
    injection h with h
    exact .inr (Z.inj d hd _ Z.near h)
  ·simp [sR]at h
 ·rintro(h|h)
  ·subst h;exact .inl rfl
  ·subst h
   by_cases z:c="NearError"
   ·subst z;exact .inl rfl
   ·rw[if_neg z];exact .inr (.inl (List.mem_singleton.mpr rfl))
section
variable {M:Model}{A:Around}{E:Value->Shared->Prop}{h:Heap}{g:Array GenState}{d:Drawn}{t:Nat}{os:OsState}
theorem aa3{e C D' N N':Addr}{oe:Obj}{nm q nm' q':Str}{bs bm eL Ww sub KD:List Value}{hd Al ab ab':Bool}{sn sn':List Str}{col IL:Option Bool}{dd Cy:Option Addr}{k0 k1 k2 k3 k5 l0 l1 l2 l3 l5:Option Value}{id id':String}{Q:Bool->Shared->Prop}
    (hC:h.get? C=some (excClassObj nm q C N bs bm hd sn sub ab col dd k0 k1 k2 k3 k5 id)) (hD:h.get? D'=some (excClassObj nm' q' D' N' eL Ww Al sn' KD ab' IL Cy l0 l1 l2 l3 l5 id')) (he:h.get? e=some oe) (Fl:oe.cls=.ref C)
    (hb:(Value.ref D'::Ww).contains (.type "BaseException")=true) (hi:(Value.ref C::bm).contains (.ref D')=true) (hq:Q true ⟨h,g,d,t,os⟩):wpAny M A (excMatches (.ref e) (.ref D')) Q E ⟨h,g,d,t,os⟩:=by
  have nt:=tc_notTuple;unfold excMatches
  repeat (first
    | (with_reducible refine wpAny_loadPart_at he ?_
       rw[Fl])
    | with_reducible refine wpAny_loadPart_at hD ?_
    | (with_reducible refine wpAny_isSubtype_exc hD ?_
       rw[hb])
    | (with_reducible refine wpAny_isSubtype_exc hC ?_
       rw[hi])
    | wp_step)
  exact hq
end
end Vc
namespace Vc
open PySem L2
variable [KF]
variable {G:GE}{k:Nat}{S:Stat}
def yn(X:Cx)(a:Addr):Cx:={X with A:=X.A.mark (some (.ref a)),calm:=false,xe:=λ_ _=>False}
def Gn(X:Cx)(pins:List (Addr×Obj))(xe:Value->Shared->Prop):Cx:={X with pn:=X.pn++pins,xe:=xe}
section
variable {X:Cx}{pins:List (Addr×Obj)}{σ:St}{H:Hp}{s:Shared}{a:Addr}{xe:Value->Shared->Prop}
theorem PV(ok:X.Ok):(yn X a).Ok:=
 ⟨ok.mod,ok.kind,ok.glob,ok.blt,ok.above,ok.inj,ok.has,ok.II,(λh=>nomatch h),ok.frames,ok.Mx,ok.Vv,ok.bs,ok.yh,ok.tS,ok.vQ,ok.iX,ok.Cz⟩
theorem SV(ok:X.Ok):(Gn X pins xe).Ok:=
 ⟨ok.mod,ok.kind,ok.glob,ok.blt,ok.above,ok.inj,ok.has,ok.II,ok.hd,ok.frames,ok.Mx,ok.Vv,ok.bs,ok.yh,ok.tS,ok.vQ,ok.iX,ok.Cz⟩
theorem Fu(I:L2.Inv X pins σ H s):L2.Inv (yn X a) pins σ H s:=⟨PV I.ok,I.os,I.bare,I.base,I.loc,I.cell,I.free,I.d5,I.pin,I.bc,I.len⟩
theorem Js(ok:X.Ok)(I:L2.Inv (yn X a) pins σ H s):L2.Inv X pins σ H s:=⟨ok,I.os,I.bare,I.base,I.loc,I.cell,I.free,I.d5,I.pin,I.bc,I.len⟩
theorem SU(I:L2.Inv X pins σ H s):L2.Inv (Gn X pins xe) [] σ H s:=
 ⟨SV I.ok,I.os,I.bare,I.base,I.loc,I.cell,I.free,I.d5,λp hp=>I.pin p (by rw[List.append_nil]at hp;exact hp),I.bc,I.len⟩
theorem kU{AR:List (Addr×Obj)}(ok:X.Ok)(I:L2.Inv (Gn X pins xe) AR σ H s):L2.Inv X pins σ H s:=
 ⟨ok,I.os,I.bare,I.base,I.loc,I.cell,I.free,I.d5,λp hp=>I.pin p (List.mem_append_left _ hp),I.bc,I.len⟩
theorem G1{D:Ends}{f:Flow}(ok:X.Ok)(h:SP (Gn X pins xe) [] D f s):SP X pins D f s:=by
 cases f with
 | next=>obtain⟨bS,H',I,q⟩:=h;exact⟨bS,H',kU ok I,q⟩
 | brk=>obtain⟨bS,H',I,q⟩:=h;exact⟨bS,H',kU ok I,q⟩
 | cont=>obtain⟨bS,H',I,q⟩:=h;exact⟨bS,H',kU ok I,q⟩
 | ret u=>obtain⟨v,bS,H',I,r,q⟩:=h;exact⟨v,bS,H',kU ok I,r,q⟩
theorem Jm{M:Model}{A:Around}{E:Value->Shared->Prop}{i:Nat}{n:Str}{pos:Pos}{Q:Unit->Shared->Prop}(I:L2.Inv X pins σ H s)(hN:X.N.Nodup)(hi:X.N[i]?=some n)(hx:X.env.kindOf n=some .local)
  (h:∀s',L2.Inv X pins (σ.set i none) H s'->Q () s'):wpAny M A (do bindName X.env n .none;unbindBehindTheSuite X.env n pos) Q E s:=by
 obtain⟨m,hn,hl⟩:=id I.loc;have Fl:(X.env.scope.kind==.class||(X.env.scope.kind==.module&&X.env.locals != X.env.globals))=false:=by rw[I.ok.kind];rfl
 have D0:=I.D0;refine wpAny_nameGoes_keeps hx hn Fl λh' v hn' hs=>h _ ?_;obtain⟨oL,_,_,VG,_⟩:=id hn;have nl:∀ {b:Addr} {o:Obj},X.bT.heap.get? b=some o->b≠X.env.locals:=λe=>Nat.ne_of_lt (Nat.lt_of_lt_of_le (Heap.lt_size e) I.ok.above);refine⟨I.ok,I.os,I.bare,⟨λb o e n0 hb An=>(hs.2 b (nl e)).trans (I.base.keep b o e n0 hb An),λb o e n0 hb An=>?_,I.base.free,λb o e An=>?_,I.base.qv,I.base.oi,I.base.qt⟩,⟨_,hn',λj y w e1 e2 e3=>?_⟩,λy c e=>?_,I.free,I.d5,λp hp=>?_,λb ob e=>?_,by simpa using I.len⟩
 ·obtain⟨sl,e1⟩:=I.base.slot b o e n0 hb An
  exact⟨sl,(hs.2 b (nl e)).trans e1⟩
 ·obtain⟨o',e1⟩:=I.base.there b o e An
  exact⟨o',(hs.2 b (nl e)).trans e1⟩
 ·have hj:j≠i:=λz=>by
   subst z;rw[List.getElem?_set]at e2;simp only[if_true]at e2
   split at e2<;>cases e2
  rw[List.getElem?_set_ne (Ne.symm hj)]at e2;obtain⟨u,r,q⟩:=hl j y w e1 e2 e3;refine⟨u,r,?_⟩;rcases q with⟨kk,e⟩|⟨kk,c,e,z⟩
  ·have:y≠n:=λz=>hj (pR hN e1 (z ▸ hi))
   exact .inl ⟨kk,by simp [this,e]⟩
  ·exact .inr ⟨kk,c,e,z.sameBut hs (D0 y c e)⟩
 ·obtain⟨w,z⟩:=I.cell y c e
  exact⟨w,z.sameBut hs (D0 y c e)⟩
 ·obtain⟨e,n0,ne,nf,d⟩:=I.pin p hp
  exact⟨(hs.2 p.1 ne).trans e,n0,ne,nf,d⟩
 ·refine(I.bc b ob e).ql (λc w hc q=>(hs.2 c ?_).trans q) (λ_ q=>q) λ_ _ q=>q
  rintro rfl;rcases hc with z|z
  ·rw[<- z,I.free]at e;cases e
  ·rw[I.free]at z;cases z
end
theorem RS.gone{Y:bB}{F:Hp}{aj:Sd}{σ:St}{H:Hp}{i:Nat}(R:RS Y F aj σ H)(cP:∀p∈Y.io,p.1≠i):RS Y F (aj.set i none) (σ.set i none) H:=by
 have ne:∀ {j:Nat} {b:B},(aj.set i none)[j]?=some (some b)->j≠i:=λe z=>by
  rcases gs e with⟨_,w⟩|⟨w,_⟩
  ·cases w
  ·exact w z
 refine⟨by simpa using R.len,R.lo,R.fr,R.eJ,R.old,λj d e=>?_,λj xs e=>?_,λj l xs ys a e1 e2 e3 e4=>?_,λp hp=>?_,R.ob.put (λ_ hj=>bx hj) (λ_ z=>nomatch z) (λ_ _ z=>nomatch z)⟩
 ·have:=ne e
  rw[bx this]at e ⊢;exact R.sh j d e
 ·have:=ne e
  rw[bx this]at e ⊢;exact R.own j xs e
 ·have h1:=ne e1
  have h2:=ne e2;rw[bx h1]at e1 e3;rw[bx h2]at e2 e4;exact R.dis j l xs ys a e1 e2 e3 e4
 ·have:=cP p hp
  rw[bx this,bx this];exact R.io p hp
theorem RS.fly{Y:bB}{F:Hp}{aj:Sd}{σ:St}{H:Hp}{a T T':Addr}{c:Str}(R:RS Y F aj σ H)(fa:F a=none)(fT:F T=none)(na:Y.H0 a=none)(nT:Y.H0 T=none)(ea:eS (H a))(eT:eS (H T))(new:H T'=none\/T'=T):
  RS Y F aj σ (du H a T T' c)/\F T'=none/\Y.H0 T'=none:=by
 have XN:F T'=none/\Y.H0 T'=none:=by
  rcases new with z|z
  ·exact⟨same_none R.fr z,(R.bg z).1⟩
  ·rw[z];exact⟨fT,nT⟩
 have same:∀b o,b≠a->b≠T->b≠T'->H b=some o->du H a T T' c b=some o:=λb o n1 n2 n3 e=>by
  unfold du;rw[if_neg n1,if_neg n3,if_neg n2];exact e
 obtain⟨φ,ea⟩:=ea;obtain⟨ψ,eT⟩:=eT;refine⟨⟨R.len,R.lo,λb o e=>?_,R.eJ,λb o e n=>?_,R.sh,λj xs e=>?_,R.dis,R.io,?_⟩,XN⟩
 case refine_4 =>
  have up:∀b,H b≠none->(∀φ,H b≠some (.ext φ))->du H a T T' c b=H b:=λb h1 h2=>by
   cases q:H b with
   | none=>exact absurd q h1
   | some o =>
    refine same b o (λz=>h2 φ (z ▸ ea)) (λz=>h2 ψ (z ▸ eT)) (λz=>?_) q;rcases new with y|y
    ·rw[z,y]at q;cases q
    ·exact h2 ψ (by rw[z,y];exact eT)
  refine R.ob.step (au.refl _) (λ_ _ e=>⟨e,rfl⟩) (λb hb=>⟨up b (R.ob.owned hb).2.1 λ_=>R.ob.FW hb,(R.ob.owned hb).1,(R.ob.owned hb).2.2⟩) R.ob.gj λb hb=>?_;unfold du
  split
  ·exactλz=>nomatch z
  split
  ·exactλz=>nomatch z
  split
  ·rename_i z;exact absurd (by rw[z];exact nT) (R.ob.HE b hb)
  ·exact R.ob.there b hb
 ·exact same b o (λz=>by rw[z,fa]at e;cases e) (λz=>by rw[z,fT]at e;cases e) (λz=>by rw[z,XN.1]at e;cases e) (R.fr b o e)
 ·exact same b o (λz=>by rw[z,na]at e;cases e) (λz=>by rw[z,nT]at e;cases e) (λz=>by rw[z,XN.2]at e;cases e) (R.old b o e n)
 ·obtain⟨b,vs,w1,w2,w3,w4,w5⟩:=R.own j xs e
  refine⟨b,vs,w1,same b _ (λz=>by rw[z,ea]at w2;cases w2) (λz=>by rw[z,eT]at w2;cases w2) (λz=>?_) w2,w3,w4,w5⟩
  rcases new with y|y
  ·rw[z,y]at w2;cases w2
  ·rw[z,y,eT]at w2;cases w2
end Vc
namespace Vc
open PySem L2
variable [KF]
variable {G:GE}{k:Nat}{S:Stat}
def nZ(H:Hp)(a T:Addr)(c:Str):Hp:=λb=>if b=a then some (yk a c)else if b=T then none else H b
theorem Dz{P:Program}{w:World}{fs:List Addr}{H:Hp}{h:Heap}{a T:Addr}{c:Str}(bc:gf P w H h)(f:zH h a T c)(ea:eS (H a))(eT:eS (H T)):gf P w (nZ H a T c) h/\Un fs [a,T] H (nZ H a T c) h h:=by
 obtain⟨φ,ea⟩:=ea;obtain⟨ψ,eT⟩:=eT;have other:∀b o,H b=some o->(∀φ,o≠.ext φ)->nZ H a T c b=some o:=λb o e n=>by
  unfold nZ;rw[if_neg (λz=>by subst z;rw[ea]at e;cases e;exact n _ rfl),if_neg (λz=>by subst z;rw[eT]at e;cases e;exact n _ rfl)]
  exact e
 refine⟨λb o e=>?_,⟨λb o e n n1 n2=>e,λb o e n hb n2=>⟨o.slots,e⟩,λb o e n n2=>?_,λb o e n2=>⟨o,e⟩,λb xs e=>other b _ e (λφ z=>by cases z),λb o u e=>other b _ e (λφ z=>by cases z),λb ps e=>⟨#[],by rw[other b _ e (λφ z=>by cases z)];simp⟩⟩⟩
 ·unfold nZ at e
  split at e
  ·rename_i z;subst z;cases e
   obtain⟨o,vs,a0,y1,y2,_⟩:=f.ex;exact⟨⟨o,y1,y2⟩,⟨o,y1⟩,λh1 h2 ⟨o,z1,z2⟩ k=>⟨o,k o z1,z2⟩⟩
  ·split at e
   ·cases e
   ·exact(bc b o e).ql (λd u hd q=>q) (λd q=>other d _ q (λφ z=>by cases z)) (λd xs q=>other d _ q (λφ z=>by cases z)) λd o u q=>other d _ q (λφ z=>by cases z)
 ·simp only[List.mem_cons,List.not_mem_nil,or_false,not_or]at n2
  unfold nZ;rw[if_neg n2.1,if_neg n2.2];exact n
theorem RS.Vr{Y:bB}{F:Hp}{aj:Sd}{σ:St}{H:Hp}{a T:Addr}{c:Str}(R:RS Y F aj σ H)(fa:F a=none)(fT:F T=none)(na:Y.H0 a=none)(nT:Y.H0 T=none)(ea:eS (H a))(eT:eS (H T)):RS Y (upd F a (yk a c)) aj σ (nZ H a T c):=by
 obtain⟨φ,ea⟩:=ea;obtain⟨ψ,eT⟩:=eT;have sm:=aK (o:=yk a c) fa;have same:∀b o,b≠a->b≠T->H b=some o->nZ H a T c b=some o:=λb o n1 n2 e=>by
  unfold nZ;rw[if_neg n1,if_neg n2];exact e
 refine⟨R.len,R.lo.trans sm,λb o e=>?_,λb o e=>?_,λb o e n=>?_,λj d e=>?_,λj xs e=>?_,R.dis,R.io,?_⟩
 case refine_6 =>
  refine R.ob.step sm (λ_ _ e=>⟨e,rfl⟩) (λb hb=>?_) R.ob.gj λb hb=>?_
  ·obtain⟨w1,w2,w3⟩:=R.ob.owned hb
   have n1:b≠a:=λz=>R.ob.FW hb (z ▸ ea);have n2:b≠T:=λz=>R.ob.FW hb (z ▸ eT);refine⟨?_,by rw[aq n1];exact w1,w3⟩
   cases q:H b with
   | none=>exact absurd q w2
   | some o=>exact same b o n1 n2 q
  ·unfold nZ
   split
   ·exactλz=>nomatch z
   split
   ·rename_i z;exact absurd (by rw[z];exact nT) (R.ob.HE b hb)
   ·exact R.ob.there b hb
 ·by_cases hb:b=a
  ·subst hb;rw[aA]at e;cases e
   unfold nZ;rw[if_pos rfl]
  ·rw[aq hb]at e
   exact same b o hb (λz=>by rw[z,fT]at e;cases e) (R.fr b o e)
 ·by_cases hb:b=a
  ·rw[hb];exact .inr (.inl na)
  ·rw[aq hb]at e;exact R.eJ b o e
 ·exact same b o (λz=>by rw[z,na]at e;cases e) (λz=>by rw[z,nT]at e;cases e) (R.old b o e n)
 ·obtain⟨v,h1,h2⟩:=R.sh j d e
  exact⟨v,h1,h2.mono sm⟩
 ·obtain⟨b,vs,w1,w2,w3,w4,w5⟩:=R.own j xs e
  have nb:b≠a:=λz=>by rw[z,ea]at w2;cases w2
  exact⟨b,vs,w1,same b _ nb (λz=>by rw[z,eT]at w2;cases w2) w2,w3.mono sm,by rw[aq nb];exact w4,w5⟩
theorem LW{X:Cx}{pins:List (Addr×Obj)}{σ:St}{H:Hp}{s:Shared}(I:L2.Inv X pins σ H s){b:Addr}{φ:Heap->Prop}(e:H b=some (.ext φ))(l:X.bT.heap.get? b=none):
  (b∈X.ex\/X.bT.heap.get? b=none)/\b≠X.env.locals/\(∀x c,X.env.cells.lookup x=some c->c≠b)/\∀p∈X.pn++pins,p.1≠b:=
 ⟨.inr l,(λz=>by rw[z,I.free]at e;cases e),(λx c q z=>by rw[<- z,I.d5 x c q]at e;cases e),λp hp z=>by rw[<- z,(I.pin p hp).2.1]at e;cases e⟩
theorem yj{X:Cx}{pins:List (Addr×Obj)}{σ:St}{H:Hp}{s:Shared}(I:L2.Inv X pins σ H s){a T:Addr}(ea:eS (H a))(eT:eS (H T))(la:X.bT.heap.get? a=none)(lT:X.bT.heap.get? T=none):
  ∀b∈[a,T],(b∈X.ex\/X.bT.heap.get? b=none)/\b≠X.env.locals/\(∀x c,X.env.cells.lookup x=some c->c≠b)/\∀p∈X.pn++pins,p.1≠b:=λb hb=>by
 obtain⟨φ,ea⟩:=ea;obtain⟨ψ,eT⟩:=eT;simp only[List.mem_cons,List.not_mem_nil,or_false]at hb;rcases hb with rfl|rfl
 ·exact LW I ea la
 ·exact LW I eT lT
def Hc(L:List Str)(x:Str)(i:Nat)(tb:(Str->Sd->Prop)->bK)(th:bK):bK:=λDe σ =>
 tb (λc aw=>(c∈L/\gN c x=true)/\th {nx:=λaO=>De.nx (aO.set i none),rt:=λ_ _=>False} (aw.set i (some (.sh (.exc c))))) De σ
theorem GL{L:List Str}{x n:Str}(i:Nat){body G4:List Stmt}{b0:Stmt}{tb:(Str->Sd->Prop)->bK}{th:bK}{np PZ pos:Pos}(Z:XCls G L)(hxL:x∈L)
  (hb:∀rC,cB G k ⟨S.N,S.sc,S.ios,S.qA,false,false,rC⟩ body (tb rC)) (hs:cB G k ⟨S.N,S.sc,S.ios,S.qA,true,false,λ_ _=>False⟩ (b0::G4) th)
  (hi:S.N[i]?=some n:=by rfl) (hn:S.sc.lookup n=some .local:=by rfl) (hg:S.sc.lookup x=some .globalImplicit:=by rfl) (iZ:(x==("__debug__":Str))=false:=by decide) (cP:i∉S.ios:=by first|decide|exact List.not_mem_nil | (dsimp only;decide)) (hh:S.jG=false:=by rfl) (Jn:S.qA=false:=by rfl):
  ES G k S (.Try body [.ExceptHandler (some (.Name x np)) (some n) (b0::G4) PZ] [] [] pos) (Hc L x i tb th):=.mk λX Y ok pins s σ H D I q=>by
 obtain⟨F,aj,De,R,q,K⟩:=q;obtain⟨hex,pB,Fp⟩:=ok.nx Jn;have X1:∀p∈Y.io,p.1≠i:=λp hp z=>cP (z ▸ ok.ios p hp);refine wpAny_Try_except ?_
 let Y1:bB:=⟨Y.H0,F,Y.io,Y.ob⟩
 have toY:∀ {F':Hp} {aG:Sd} {bS:St} {H':Hp},RS Y1 F' aG bS H'->RS Y F' aG bS H':=λR'=>⟨R'.len,R.lo.trans R'.lo,R'.fr,λb o e=>by
  rcases R'.eJ b o e with z|z
  ·exact R.eJ b o z
  ·exact .inr z,R'.old,R'.sh,R'.own,R'.dis,R'.io,⟨R'.ob.obj,R'.ob.oE,R'.ob.gj,R'.ob.there,R'.ob.HE,R'.ob.tab⟩⟩
 have R0:RS Y1 F aj σ H:=⟨R.len,au.refl _,R.fr,λb o e=>.inl e,R.old,R.sh,R.own,R.dis,R.io,⟨R.ob.obj,R.ob.oE,R.ob.gj,R.ob.there,R.ob.HE,R.ob.tab⟩⟩;have K1:vo Y1 F De D:=⟨λσ H F' aj s R' q=>K.nx σ H F' aj s (toY R') q,λv σ H F' aj b s R' r q=>K.rt v σ H F' aj b s (toY R') (by cases b<;>exact r) q,λσ H F' aj s R' q=>K.bk σ H F' aj s (toY R') q,λσ H F' aj s R' q=>K.ct σ H F' aj s (toY R') q⟩
 let xe':Value->Shared->Prop:=λe s1=>wpAny (model X.prog X.w) X.A (noteFrame e X.env) (λ_ s2=>wpAny (model X.prog X.w) X.A (setFlight e none) (λ_ s3 =>
  wpAny (model X.prog X.w) X.A (handleBy e X.env [.ExceptHandler (some (.Name x np)) (some n) (b0::G4) PZ]) (SP X pins D) X.xe s3) X.xe s2) X.xe s1
 let rC:Str->Sd->Prop:=λc aw=>(c∈L/\gN c x=true)/\th {nx:=λaO=>De.nx (aO.set i none),rt:=λ_ _=>False} (aw.set i (some (.sh (.exc c))))
 have ok':d8 (Gn X pins xe') G k ⟨S.N,S.sc,S.ios,S.qA,false,false,rC⟩ Y1:=by
  refine⟨ok.P,ok.w,ok.K,ok.kf,ok.mg,ok.base,ok.N,ok.sc,ok.nd,ok.ios,ok.obs,λ_=>ok.calm hh,ok.kind,ok.fn,λ_=>ok.hd hh,ok.dp,ok.un,λ_=>PassesOwn.looking,ok.nx,λc xR hx ace aw H1 F1 s1 a T I1 R1' fl=>?_,λh=>nomatch h⟩;obtain⟨⟨XU,hcx⟩,hq⟩:=hx;have R1:=toY R1';have sF:au F F1:=R1'.lo;have I2:L2.Inv X pins aw H1 s1:=kU I.ok I1;have fr1:X.A.frames=some (X.env::X.outer):=by rw[<- pB];exact I.ok.frames
  have ff1:s1.heap.FunFrames X.base (X.env::X.outer):=by rw[<- pB];exact I2.stack
  refine FH fr1 Fp ff1 ⟨(I2.bc a _ fl.ha).1,(I2.bc T _ fl.hT).1⟩ fl.ne λh2 T2 m2 f2=>?_;obtain⟨BL,VS⟩:=pq I2.bc m2 f2 (by rw[<- pB];exact I2.ml) ⟨_,fl.ha⟩ ⟨_,fl.hT⟩
  have I3:L2.Inv X pins aw (du H1 a T T2 c) {s1 with heap:=h2}:=I2.o5 rfl (by rw[pB];exact VS) BL I2.bare (yj I2 ⟨_,fl.ha⟩ ⟨_,fl.hT⟩ fl.la fl.lT)
  obtain⟨R3,fT2,nT2⟩:=R1.fly (T':=T2) (c:=c) fl.fa fl.fT fl.na fl.nT ⟨_,fl.ha⟩ ⟨_,fl.hT⟩ (m2.new.imp (gB I2.bc) id);have lT2:X.bT.heap.get? T2=none:=m2.new.elim (λz=>jb I2 hex z) λz=>by rw[z];exact fl.lT
  have L5:eS (du H1 a T T2 c a):=⟨_,by unfold du;rw[if_pos rfl];rfl⟩
  have hT2:eS (du H1 a T T2 c T2):=⟨_,by unfold du;rw[if_neg m2.ne,if_pos rfl];rfl⟩
  have hqc:PySem.W.excIn X.K (KF.cls c) sR "ValueError.__new__"=true:=by rw[ok.K];exact(Z.cls c XU).exc
  have hqx:PySem.W.excIn X.K (KF.cls x) sR "ValueError.__new__"=true:=by rw[ok.K];exact(Z.cls x hxL).exc
  obtain⟨bm,N,nm,qn,bs,hd,sn,sub,ab,col,dd,k0,k1,k2,k3,k5,mN,hm,hC,_,_,_⟩:=sW I3.iB hqc;obtain⟨Ww,N',nm',qn',eL,Al,sn',KD,ab',IL,Cy,k0',k1',k2',k3',k5',mN',hm',hD,_,_,XN⟩:=sW I3.iB hqx;obtain⟨oe,vs,a0,e1,e2,_⟩:=f2.ex;refine wpAny_handleBy_cons (codeAny_handlers_test ?_) (by intro z;cases z)
  refine fO (X:=yn X a) (Fu I3) (di ok hg) (show X.mg x=some (.ref (KF.cls x))by rw[ok.mg];exact(Z.cls x hxL).mg) ?_ iZ
  refine aa3 hC hD e1 e2 (by rw[List.contains_cons,XN.hasType (b:=true) ∅,Bool.or_true]) (by rw[<- hm,ok.K,Z.sub XU hxL];exact hcx) ?_
  refine codeAny_handlers_suite_as ?_;have ff3:h2.FunFrames X.base (X.env::X.outer):=by have:=I3.stack;rw[pB]at this;exact this
  refine Bm (outer:=X.outer) (env:=X.env) (base:=X.base) ff3 f2 m2.ne.symm λh3 T3 m3 f3=>?_;obtain⟨Ya,un3⟩:=pq BL m3 f3 (by rw[<- pB];exact I3.ml) L5 hT2
  have I4:L2.Inv X pins aw (du (du H1 a T T2 c) a T2 T3 c) {s1 with heap:=h3}:=I3.o5 rfl (by rw[pB];exact un3) Ya I3.bare (yj I3 L5 hT2 fl.la lT2)
  obtain⟨R4,fT3,nT3⟩:=R3.fly (T':=T3) (c:=c) fl.fa fT2 fl.na nT2 L5 hT2 (m3.new.imp (gB I3.bc) id);have lT3:X.bT.heap.get? T3=none:=m3.new.elim (λz=>jb I3 hex z) λz=>by rw[z];exact lT2
  have Vz:eS (du (du H1 a T T2 c) a T2 T3 c a):=⟨_,by unfold du;rw[if_pos rfl];rfl⟩
  have hT3:eS (du (du H1 a T T2 c) a T2 T3 c T3):=⟨_,by unfold du;rw[if_neg m3.ne,if_pos rfl];rfl⟩
  obtain⟨abm,un5⟩:=Dz (fs:=kF X.stack) Ya f3 Vz hT3;have I5:L2.Inv X pins aw (nZ (du (du H1 a T T2 c) a T2 T3 c) a T3 c) {s1 with heap:=h3}:=I4.o5 rfl un5 abm I4.bare (yj I4 Vz hT3 fl.la lT3)
  have R5:=R4.Vr (c:=c) fl.fa fT3 fl.na nT3 Vz hT3;have sF5:au F (upd F1 a (yk a c)):=sF.trans (aK fl.fa);have lc:S.sc.lookup n=some .local\/(S.sc.lookup n=some .cell/\S.qA=false):=.inl hn;refine mn (X:=yn X a) (i:=i) (v:=.ref a) (Fu I5) (by show X.N.Nodup;rw[ok.N];exact ok.nd) (by show X.N[i]?=some n;rw[ok.N];exact hi) (mZ ok lc) rfl (λs4 I6=>?_) (mO ok lc)
  have R6:=R5.xx (i:=i) (d:=.exc c) (v:=.ref a) (.exc aA) X1;have okh:d8 (yn X a) G k ⟨S.N,S.sc,S.ios,S.qA,true,false,λ_ _=>False⟩ Y:=
   ⟨ok.P,ok.w,ok.K,ok.kf,ok.mg,ok.base,ok.N,ok.sc,ok.nd,ok.ios,ok.obs,(λh=>nomatch h),ok.kind,ok.fn,(λh=>nomatch h),ok.dp,ok.un,(λh=>nomatch h),ok.nx,(λ_ _ h=>h.elim),λh=>nomatch h⟩
  let Dh:Ends:={nx:=λσ H=>∃F' aG,au (upd F1 a (yk a c)) F'/\RS Y F' aG σ H/\De.nx (aG.set i none),rt:=λ_ _=>False}
  have run:=hs (yn X a) Y okh pins s4 _ _ Dh I6 ⟨_,_,_,R6,hq,⟨λσ H F' aj s R q=>⟨F',aj,s,R,q⟩,λ_ _ _ _ _ _ _ _ _ h=>h,λ_ _ _ _ _ _ h=>h,λ_ _ _ _ _ _ h=>h⟩⟩;refine wpAny_mono run (λf s5 h=>?_) λ_ _ z=>z.elim;cases f with
  | next =>
   obtain⟨CI,H7,I7,F7,aca,sm7,R7,q7⟩:=h;exact Jm (Js I.ok I7) (by rw[ok.N];exact ok.nd) (by rw[ok.N];exact hi) (by show X.env.scope.names.lookup n=_;rw[ok.sc];exact hn) λs8 I8=>⟨_,H7,I8,K.nx _ _ F7 (aca.set i none) (sF5.trans sm7) (R7.gone X1) q7⟩
  | brk=>obtain⟨_,_,_,z⟩:=h;exact False.elim z
  | cont=>obtain⟨_,_,_,z⟩:=h;exact False.elim z
  | ret u=>obtain⟨_,_,_,_,_,z⟩:=h;exact False.elim z
 have run:=hb rC _ Y1 ok' [] s σ H D (SU I) ⟨F,aj,De,R0,q,K1⟩;refine wpAny_mono run (λf s1 h=>?_) λe s1 h=>h;have h:=G1 I.ok h;cases f with
 | next=>exact wpAny_execs_nil h
 | brk=>exact h
 | cont=>exact h
 | ret u=>exact h
end Vc
namespace Vx
open PySem PySem.W PySem.Calls PySem.Spec PyProof.Rows Builtin Builtin.ObjectAttr Builtin.Getset_descriptor
def eK(K:PySem.W.Frag)(C:Addr):Bool:=
 PySem.W.findIn K (.ref C) "__getattribute__"==some (some (.builtin "BaseException.__getattribute__"))&&PySem.W.findIn K (.ref C) "__getattr__"==some none&&PySem.W.findIn K (.ref C) "__class__"==some (some (.builtin "object.__class__")) &&
 PySem.W.mroIn K C (.type "object")==some true&&PySem.W.mroIn K C (.type "BaseException")==some true&&PySem.W.typeIn K (.ref C)==some (.type "type")
section
variable {prog:Program}{w:World}{A:Around}{E:Value->Shared->Prop}{h:Heap}{g:Array GenState}{d:Drawn}{t:Nat}{os:OsState}{K:PySem.W.Frag}{x C:Addr}{o:Obj}
theorem ab8{R:Result->Shared->Prop}{tp:Value}(Z:K.In h)(hx:h.get? x=some o)(hc:o.cls=.ref C)(hm:PySem.W.mroIn K C (.type "object")=some true)(q:R (.ok (.ret (.ref C))) ⟨h,g,d,t,os⟩):
  codeAny (model prog w) A (.call (.builtin "getset_descriptor.__get__") ⟨[.builtin "object.__class__",.ref x,tp],[]⟩) R ⟨h,g,d,t,os⟩:=by
 have L0:Looks (model prog w) h (typeOf (.ref x)) (.ref C):=hc ▸ (Looks.ld hx).andThen .now;have L1:=PySem.W.looks_mroIn (M:=model prog w) Z hm;refine codeAny_call_builtin PySem.W.KF.slot_gs.plain PySem.W.KF.entry_gs (PySem.W.KF.slot_gs.check _ _ _ _ _ _ _ _ PySem.W.KF.type_class (PySem.W.KF.args_gs _ _ _) ?_);unfold Builtin.«getset_descriptor.__get__» descrGet;rw[PySem.W.dga_obj];refine wpAny_bind (wpAny_pure ?_);unfold descrGetter descrCheckInstance descrNameAndClass isInstance;simp only[PySem.W.KF.owner_class]
 repeat lk
 refine⟨Code.quiet_builtin _ (by decide +kernel),codeAny_builtin KF.entry_class ?_⟩
 unfold Builtin.«object.__class__» shownTypeOf
 repeat lk
 exact q
theorem Vm{tk:Tok}{Q:Fin->Shared->Prop}(Z:K.In h)(hx:h.get? x=some o)(hc:o.cls=.ref C)(hl:PySem.W.findIn K (.ref C) "__class__"=some (some (.builtin "object.__class__")))(hm:PySem.W.mroIn K C (.type "object")=some true)
  (q:Q (.done (.ret (.ref C))) ⟨h,g,d,t,os⟩):wpAny (model prog w) A (Builtin.«object.__getattribute__» ⟨[.ref x,.str "__class__" tk],[]⟩) Q E ⟨h,g,d,t,os⟩:=by
 have L0:Looks (model prog w) h (typeOf (.ref x)) (.ref C):=hc ▸ (Looks.ld hx).andThen .now;have L1:=looks_findIn (M:=model prog w) Z hl;have f5:typeOf (.builtin "object.__class__")=pure (.type "getset_descriptor"):=KF.type_class;have f6:=F.slot_gs_get.lookup;have f7:=F.slot_gs_set.lookup
 repeat (any_goals (first|assumption|with_reducible refine L0.at ?_|with_reducible refine L1.at ?_ | (with_reducible refine wpAny_loadPart_at hx ?_;rw[hc])|wp_step))
 refine ab8 Z hx hc hm ?_
 repeat (any_goals (first|assumption|wp_step))
theorem Vl{M:Model}{v:Value}{Q:Unit->Shared->Prop}(Z:K.In h)(hx:h.get? x=some o)(hc:o.cls=.ref C)(hb:PySem.W.mroIn K C (.type "BaseException")=some true)(q:Q () ⟨h,g,d,t,os⟩):
  wpAny M A (checkBuiltinCall "BaseException.__getattribute__" ⟨[.ref x,v],[]⟩) Q E ⟨h,g,d,t,os⟩:=by
 have hk:builtinKind "BaseException.__getattribute__"=some .slot:=by decide +kernel
 have hs:splitId "BaseException.__getattribute__"=some ("BaseException","__getattribute__"):=by decide +kernel
 have L1:=looks_mroIn (M:=M) Z hb;have ha:=F.args_bexc_ga (.ref x) v;simp only[checkBuiltinCall,hk,hs];refine wpAny_bind ?_;unfold isInstance
 repeat (first|with_reducible refine L1.at ?_ | (with_reducible refine wpAny_loadPart_at hx ?_;rw[hc])|wp_step)
 exact q
theorem aaK{tk:Tok}{R:Result->Shared->Prop}(Z:K.In h)(hx:h.get? x=some o)(hc:o.cls=.ref C)(hl:PySem.W.findIn K (.ref C) "__class__"=some (some (.builtin "object.__class__")))(hm:PySem.W.mroIn K C (.type "object")=some true)
  (hb:PySem.W.mroIn K C (.type "BaseException")=some true) (q:R (.ok (.ret (.ref C))) ⟨h,g,d,t,os⟩):
  codeAny (model prog w) A (.call (.builtin "BaseException.__getattribute__") ⟨[.ref x,.str "__class__" tk],[]⟩) R ⟨h,g,d,t,os⟩:=
 codeAny_call_builtin F.excAttr_ValueError.ga.plain F.entry_bexc_ga (Vl Z hx hc hb (Vm Z hx hc hl hm q))
theorem xby{tk:Tok}{fill expr:Bool}{Q:Value->Shared->Prop}(Z:K.In h)(hx:h.get? x=some o)(hc:o.cls=.ref C)(hga:PySem.W.findIn K (.ref C) "__getattribute__"=some (some (.builtin "BaseException.__getattribute__")))(hgx:PySem.W.findIn K (.ref C) "__getattr__"=some none)
  (hl:PySem.W.findIn K (.ref C) "__class__"=some (some (.builtin "object.__class__"))) (hm:PySem.W.mroIn K C (.type "object")=some true) (hb:PySem.W.mroIn K C (.type "BaseException")=some true) (q:Q (.ref C) ⟨h,g,d,t,os⟩):
  wpAny (model prog w) A (getAttrBy (.ref x) (.str "__class__" tk) fill expr) Q E ⟨h,g,d,t,os⟩:=by
 have L0:Looks (model prog w) h (typeOf (.ref x)) (.ref C):=hc ▸ (Looks.ld hx).andThen .now;have L1:=looks_findIn (M:=model prog w) Z hga;have L2:=looks_findIn (M:=model prog w) Z hgx;have f3:=F.excAttr_ValueError.ga.bind (.ref x);have An:(expr&&onTheHeap (Value.builtin "BaseException.__getattribute__"))=false:=by cases expr<;>rfl
 have xU:(Value.builtin "BaseException.__getattribute__"==Value.builtin "object.__getattribute__")=false:=by decide +kernel
 have hx1:(onTheHeap (Value.ref C)&&Value.builtin "BaseException.__getattribute__"==Value.builtin "object.__getattribute__")=false:=by rw[xU];rfl
 repeat (any_goals (first|assumption|with_reducible refine L1.at ?_|with_reducible refine L2.at ?_ | (with_reducible refine wpAny_loadPart_at hx ?_;rw[hc])|wp_step))
 refine aaK Z hx hc hl hm hb ?_
 repeat (any_goals (first|assumption|wp_step))
theorem aaJ{Q:Option Value->Shared->Prop}(Z:K.In h)(hx:h.get? x=some o)(hc:o.cls=.ref C)(hga:PySem.W.findIn K (.ref C) "__getattribute__"=some (some (.builtin "BaseException.__getattribute__")))(hgx:PySem.W.findIn K (.ref C) "__getattr__"=some none)
  (hl:PySem.W.findIn K (.ref C) "__class__"=some (some (.builtin "object.__class__"))) (hm:PySem.W.mroIn K C (.type "object")=some true) (hb:PySem.W.mroIn K C (.type "BaseException")=some true) (q:Q (some (.ref C)) ⟨h,g,d,t+1,os⟩):
  wpAny (model prog w) A (getAttr? (.ref x) "__class__") Q E ⟨h,g,d,t,os⟩:=by
 unfold getAttr? getAttrBy?
 repeat (any_goals (first|assumption|with_reducible apply xby Z hx hc hga hgx hl hm hb|wp_step))
theorem abB(e:eK K C=true):KitX K (.ref x) (.ref C) (λh=>∃o,h.get? x=some o/\o.cls=.ref C):=by
 unfold eK at e;simp only[Bool.and_eq_true,beq_iff_eq]at e;obtain⟨⟨⟨⟨⟨e1,e2⟩,e3⟩,e4⟩,e5⟩,e6⟩:=e;obtain⟨cd,iu,_⟩:=Option.bind_eq_some_iff.mp e4;obtain⟨oc,ho,hd⟩:∃oc,K.lookup C=some oc/\oc.data=.cls cd:=by
  unfold clsIn at iu
  split at iu
  ·rename_i c' d' cd' sl' ho
   cases iu;exact⟨_,ho,rfl⟩
  ·cases iu
 refine⟨λM h Z ⟨o,h1,h2⟩=>h2 ▸ (Looks.ld h1).andThen .now,λM h Z _=>?_,λh tp dd its n sl Z htp=>?_,?_⟩
 ·intro A' Q' E' s' k q
  unfold isType loadHead;refine wpAny_bind (wpAny_loadPart (k _ _ (Z _ _ ho)) (wpAny_pure ?_));rw[hd];exact q
 ·refine Bool.eq_false_iff.mpr λq=>?_
  have e:C=tp:=Value.ref.inj (beq_iff_eq.mp q);subst e;have z:=(Z _ _ ho).symm.trans htp;cases z;cases hd
 ·intro prog w A E Q s Z ⟨o,h1,h2⟩ q
  obtain⟨hh,g,d,t,os⟩:=s;exact aaJ Z h1 h2 e1 e2 e3 e4 e5 q
end
end Vx
namespace Vc
open PySem L2
variable [KF]
variable {G:GE}{k:Nat}{S:Stat}
structure kr(G:GE)(L:List Str):Prop extends XCls G L where
 look:∀c∈L,Vx.eK G.K (KF.cls c)=true
theorem AF{K:PySem.W.Frag}{C:Addr}{l:List Value}{v:Value}(h:mroIn K C=v::l)(base:Value):PySem.W.mroIn K C base=some ((v::l).contains base):=by
 unfold mroIn at h;unfold PySem.W.mroIn PySem.W.clsIn
 split at h
 ·rename_i e
  rw[e];show(if _ then _ else _)=_
  rw[h];rfl
 ·cases h
theorem Ay{K:PySem.W.Frag}{C:Addr}(e:Vx.eK K C=true):PySem.W.typeIn K (.ref C)=some (.type "type")/\(PySem.W.clsIn K C).isSome=true:=by
 unfold Vx.eK at e;simp only[Bool.and_eq_true,beq_iff_eq]at e;obtain⟨⟨⟨⟨⟨e1,e2⟩,e3⟩,e4⟩,e5⟩,e6⟩:=e;obtain⟨cd,iu,_⟩:=Option.bind_eq_some_iff.mp e4;exact⟨e6,by rw[iu];rfl⟩
theorem kr.kit{L:List Str}(Z:kr G L){c d:Str}(hc:c∈L)(hd:d∈L):PySem.W.kitOne G.K (.ref (KF.cls c)) (.ref (KF.cls d))=some (gN c d):=by
 unfold PySem.W.kitOne
 split
 ·rename_i e
  have e:=Value.ref.inj (beq_iff_eq.mp e);rw[Z.inj c hc d hd e];unfold gN;simp
 ·obtain⟨h1,h2⟩:=Ay (Z.look d hd)
  show(if _ then PySem.W.mroIn G.K (KF.cls c) (.ref (KF.cls d))else none)=_
  rw[if_pos (by rw[h1,h2];rfl)]
  have hm:=Z.mro c hc;rw[AF hm,<- hm,Z.sub hc hd]
theorem kr.abA{L:List Str}(Z:kr G L){c:Str}(hc:c∈L):PySem.W.kitOne G.K (.ref (KF.cls c)) (.type "ValueError")=some true:=by
 unfold PySem.W.kitOne;rw[if_neg (by rw[beq_iff_eq];intro z;cases z)]
 show(if PySem.W.kitMeta "ValueError"=true then PySem.W.mroIn G.K (KF.cls c) (.type "ValueError")else none)=_
 rw[if_pos (by decide +kernel),AF (Z.mro c hc)]
 have:((Value.ref (KF.cls c))::((if c="NearError" then []else [Value.ref (KF.cls "NearError")])++sR)).contains (.type "ValueError")=true:=by
  rw[List.contains_iff_mem];exact .tail _ (List.mem_append_right _ (.head _))
 rw[this]
theorem QO{K:PySem.W.Frag}{C:Addr}(e:Vx.eK K C=true){d:D}{T:String}(h:KY d=some T):PySem.W.kitOne K (.type T) (.ref C)=some false:=by
 obtain⟨h1,h2⟩:=Ay e;unfold PySem.W.kitOne;rw[if_neg (by rw[beq_iff_eq];intro z;cases z)]
 show(if _ then(fastBuiltinMro T).map (λl:List Value=>l.contains (.ref C))else none)=_
 rw[if_pos (by rw[h1,h2];rfl)]
 cases d<;>cases h<;>rfl
def Ma(L:List Str)(u:Str)(d:D)(Q:Bool->Prop):Prop:=match d with
 | .exc c=>c∈L/\Q (gN c u)
 | d=>(KY d).isSome=true/\Q false
def iy(L:List Str)(u:Str)(t:TV):TB:=λσ Q=>t σ λx aw=>match dc aw x with
 | some d=>Ma L u d λb=>Q b aw
 | none=>False
def L9(L:List Str)(d:D)(Q:Bool->Prop):Prop:=match d with
 | .exc c=>c∈L/\Q true
 | d=>(KY d).isSome=true/\Q false
def G8(L:List Str)(t:TV):TB:=λσ Q=>t σ λx aw=>match dc aw x with
 | some d=>L9 L d λb=>Q b aw
 | none=>False
theorem b7.exc{F H:Hp}{v:V}{c:Str}(r:b7 F H v (.exc c)):∃a,v=.ref a/\F a=some (yk a c):=by
 cases(show Rep F v (.exc c)from r)with
 | exc h=>exact⟨_,rfl,h⟩
theorem Fy{X:Cx}{L:List Str}{w:Value}{fd:D->Bool}(hK:X.K=G.K)(Z:kr G L)(hc:∀c∈L,PySem.W.kitOne X.K (.ref (KF.cls c)) w=some (fd (.exc c)))(hn:∀d T,KY d=some T->PySem.W.kitOne X.K (.type T) w=some (fd d)):
  eG X (.builtin "isinstance") (λvs H Q=>∃F x y d,vs=[x,y]/\(∀u,RelV y u->u=w)/\au F H/\b7 F H x d/\(match d with|.exc c=>c∈L|d=>(KY d).isSome=true)/\Q (.bl (fd d)) H):=by
 intro pins s σ H xs us Q I r q;obtain⟨F,x,y,d,rfl,hy,sm,rx,hd,q⟩:=q;obtain⟨a,b,rfl,ra,rb⟩:=vals2 r;obtain rfl:=hy b rb
 by_cases he:∃c,d=.exc c
 ·obtain⟨c,rfl⟩:=he
  have XU:c∈L:=hd;obtain⟨p,rfl,hF⟩:=rx.exc;cases ra;obtain⟨⟨o,h1,h2⟩,_⟩:=I.bc p _ (sm p _ hF);exact PySem.W.kia_one (Vx.abB (by rw[hK];exact Z.look c XU)) I.iB ⟨o,h1,h2⟩ (hc c XU) (λz=>nomatch z) λtk=>⟨.bl _,H,I.tok tk,rfl,q⟩
 ·have Al:(KY d).isSome=true:=by
   cases d<;>first|exact hd|exact absurd ⟨_,rfl⟩ he
  obtain⟨T,et⟩:=Option.isSome_iff_exists.mp Al;exact BQ I ra (rx.ty sm X.K et) (hn d T et) λtk=>⟨.bl _,H,I.tok tk,rfl,q⟩
theorem f9{e:Expr}{t:TV}{u:Str}{L:List Str}{p p2 pos:Pos}(h:EO G k S e t)(Z:kr G L)(hu:u∈L)(hm:G.mg "isinstance"=none)(hd2:(u==("__debug__":Str))=false:=by decide)
  (hg:S.sc.lookup ("isinstance":Str)=some .globalImplicit:=by rfl) (hg2:S.sc.lookup u=some .globalImplicit:=by rfl)
  (he:∀env,starEach [e,.Name u p2] env=(false,eval e env)::starEach [.Name u p2] env:=by intro _;rfl):EO G k S (.Call (.Name "isinstance" p) [e,.Name u p2] [] pos) (bV (iy L u t)):=.mk λX Y ok=>by
 have ha:PA X [e,.Name u p2] (jS (lO Y t) (jS (tC (.ref (KF.cls u))) qS)):=cL (h X Y ok) (cL (AK (di ok hg2) (by rw[ok.mg];exact(Z.cls u hu).mg) (show RelV (.ref (KF.cls u)) (.ref (KF.cls u))from rfl) hd2) hG rfl) (he _)
 have hc:=Fy (X:=X) (L:=L) (w:=.ref (KF.cls u)) (fd:=λd=>match d with|.exc c=>gN c u|_=>false) ok.K Z (λc hc=>by rw[ok.K];exact Z.kit hc hu) (λd T e=>by
  rw[ok.K,QO (Z.look u hu) e];cases d<;>first|rfl|cases e)
 refine aV (pT hc (di ok hg) (by rw[ok.mg];exact hm) (by decide +kernel) ha ∅ ∅ (he _) rfl) λσ H Q q=>?_
 obtain⟨F,aj,Qd,R,q,K⟩:=q;refine⟨F,aj,_,R,q,λv1 H1 F1 x aw s1 R1 r1 q1=>?_⟩
 split at q1
 ·rename_i d ed
  refine⟨F1,v1,_,d,rfl,λu e=>e,R1.fr,R1.dc r1 ed,?_,?_⟩
  ·cases d<;>exact q1.1
  ·refine K _ H1 F1 (.val (.bl _)) aw s1 R1 (.bl _) ?_
   cases d<;>exact q1.2
 ·exact q1.elim
theorem QN:sD "ValueError":=λK=>⟨by rfl,by rfl,by rfl,by rfl,by rfl,by rfl⟩
theorem Tz{e:Expr}{t:TV}{L:List Str}{p p2 pos:Pos}(h:EO G k S e t)(Z:kr G L)(hm:G.mg "isinstance"=none)(hm2:G.mg "ValueError"=none)
  (hg:S.sc.lookup ("isinstance":Str)=some .globalImplicit:=by rfl) (hg2:S.sc.lookup ("ValueError":Str)=some .globalImplicit:=by rfl)
  (he:∀env,starEach [e,.Name "ValueError" p2] env=(false,eval e env)::starEach [.Name "ValueError" p2] env:=by intro _;rfl):EO G k S (.Call (.Name "isinstance" p) [e,.Name "ValueError" p2] [] pos) (bV (G8 L t)):=.mk λX Y ok=>by
 have ha:PA X [e,.Name "ValueError" p2] (jS (lO Y t) (jS (tC (.ty "ValueError")) qS)):=cL (h X Y ok) (cL (J9 (di ok hg2) (by rw[ok.mg];exact hm2) (by decide +kernel) (show RelV (.ty "ValueError") (.type "ValueError")from rfl) ∅ ∅) hG rfl) (he _)
 have hc:=Fy (X:=X) (L:=L) (w:=.type "ValueError") (fd:=λd=>match d with|.exc c=>true|_=>false) ok.K Z (λc hc=>by rw[ok.K];exact Z.abA hc) (λd T e=>by
  rw[QN.of X.K e];cases d<;>cases e<;>rfl)
 refine aV (pT hc (di ok hg) (by rw[ok.mg];exact hm) (by decide +kernel) ha ∅ ∅ (he _) rfl) λσ H Q q=>?_
 obtain⟨F,aj,Qd,R,q,K⟩:=q;refine⟨F,aj,_,R,q,λv1 H1 F1 x aw s1 R1 r1 q1=>?_⟩
 split at q1
 ·rename_i d ed
  refine⟨F1,v1,_,d,rfl,λu e=>e,R1.fr,R1.dc r1 ed,?_,?_⟩
  ·cases d<;>exact q1.1
  ·refine K _ H1 F1 (.val (.bl _)) aw s1 R1 (.bl _) ?_
   cases d<;>exact q1.2
 ·exact q1.elim
end Vc
namespace Vc
open PySem L2
variable [KF]
variable {G:GE}{k:Nat}{S:Stat}
structure CP(P:Program)(w:World)(K:PySem.W.Frag)(mg:Str->Option Value)(base:Heap)(k:Nat)(f:Addr)(fd:FuncData)(ps:List Str)(sp:Sp):Prop where
 len:∀vs H Q E,sp vs H Q E->vs.length=ps.length
 run:∀(A:Around) (outer:List Env) (s:Shared) (H:Hp) (args:Args) (us:List Value) (vs:List V) (Q:VK) (E:XK),A.depth+3*k+5<recursionLimit->A.units+16*k+200<cLine->sA P w K mg base A outer s H ->
  BindsTo s fd args (ps.zip us)->Vals vs us->sp vs H Q E->codeAny (model P w) A (.call (.ref f) args) (CR iL outer P w H s Q E) s
def Iq(G:GE)(k:Nat)(x:Str)(sp:bA):Prop:=∃f fd ps,CP G.P G.w G.K G.mg G.base k f fd ps (qO sp)/\G.mg x=some (.ref f)/\PySem.W.keepIn G.K (.ref f)=true/\Binds G.K fd ps []
theorem Iq.mono{x:Str}{sp:bA}{j:Nat}(h:Iq G j x sp)(l:j<=k):Iq G k x sp:=by
 obtain⟨f,fd,ps,h1,h2,h3,h4⟩:=h;exact⟨f,fd,ps,⟨h1.len,λA outer s H args us vs Q E d u=>h1.run A outer s H args us vs Q E ⋯ ⋯⟩,h2,h3,h4⟩
theorem ug{x:Str}{sp:bA}{e:Expr}{es:List Expr}{t:eU}{p pos:Pos}(h:Iq G k x sp)(ha:qW G k S (e::es) t)(hg:S.sc.lookup x=some .globalImplicit:=by rfl)(iZ:(x==("__debug__":Str))=false:=by decide)
  (he:∀env,starEach (e::es) env=(false,eval e env)::starEach es env:=by exactλ_=>Vc.cj rfl) (eY:∀env,(backTo pos (starEach es env)).any (·.1)=false:=by intro _;rfl):
  EX G k S (.Call (.Name x p) (e::es) [] pos) (jQ sp t):=.mk λX Y ok pins s σ H Q I q=>by
 obtain⟨f,fd,ps,h1,h2,h3,h4⟩:=h;have mQ:CP X.prog X.w X.K X.mg X.base k f fd ps (qO sp):=by rw[ok.P,ok.w,ok.K,ok.mg,ok.base];exact h1
 obtain⟨F,aj,Qd,R,q,K⟩:=q;refine wpAny_Call_Name_kw (fO I (di ok hg) (by rw[ok.mg];exact h2) ?_ iZ)
 refine PySem.W.callWith_K (h₀:=X.base) I.ok.mod.wF (by rw[ok.K];exact h3) (ck (ha X Y ok pos pins s σ H (λvs H1=>∃F1 ds aw,au F F1/\RS Y F1 aw σ H1/\aE F1 vs ds/\Cl sp ds λb=>Qd (bE b) aw) I
  ⟨F,aj,_,R,q,λvs H1 F1 ds aw s1 R1 r1 q1=>⟨F1,ds,aw,s1,R1,r1,q1⟩⟩) λus s1 ⟨vs,H1,I1,r,F1,ds,aw,Ii,R1,r1,q1⟩=>⟨I1.iB,?_⟩) (he _) (eY _)
 have pA:qO sp vs H1 Q E0:=by
  refine⟨F1,ds,_,⟨R1.fr,R1.ob.tab⟩,r1,q1,λv H' F' b s2 s3 s4 fr r2 q2=>?_⟩;have R2:=R1.call s2 s3 s4 fr;cases b with
  | sh d=>exact K v H' F' (.val d) aw (Ii.trans s2) R2 r2 q2
  | own xs =>
   obtain⟨a,us,rfl,w1,w2,w3,w4⟩:=r2;refine K _ H' F' (.own xs) aw (Ii.trans s2) R2 ⟨a,us,rfl,w1,w2,w3,(R1.bg w4).1,R1.cg w4⟩ q2
  | obj o =>
   obtain⟨a,rfl,w1,w2⟩:=r2;exact K _ H' F' (.obj o) aw (Ii.trans s2) R2 ⟨a,rfl,w1,λb hb=>⟨(w2 b hb).1,(w2 b hb).2.1,(R1.bg (w2 b hb).2.2).1,R1.cg (w2 b hb).2.2⟩⟩ q2
 have hl:us.length=ps.length:=by rw[<- r.length];exact mQ.len _ _ _ _ pA
 have hb:=h4 s1 us (by rw[<- ok.K];exact I1.iB) (by rw[List.append_nil];exact hl)
 rw[List.append_nil]at hb;refine wpAny_call (codeAny_mono (mQ.run X.A X.stack s1 H1 ⟨us,[]⟩ us vs Q E0 ok.dp ok.un I1.Bu hb r pA) λr s' hq=>?_);cases r with
 | error e=>exact False.elim hq
 | ok fl =>
  cases fl with
  | ret u=>exact I1.after hq
  | next=>exact False.elim hq
  | brk=>exact False.elim hq
  | cont=>exact False.elim hq
theorem Pu{x qual:Str}{st:Stmt}{f:Addr}{fd:FuncData}{N ps:List Str}{sp:bA}{t:bK}(hK:G.K=KF.K)(Fn:xZ G.K x qual st f fd)(Sc:aC N ps (ae st))(ht:cB G k ⟨N,(ae st).names,[],false,true,false,λ_ _=>False⟩ (ak st) t)
  (len:∀ds Q,sp ds Q->ds.length=ps.length)
  (body:∀ds Q,sp ds Q->t {nx:=λ_=>Q (.sh .aU),rt:=λb _=>Q b} (aJ N.length ds)):CP G.P G.w G.K G.mg G.base (k+1) f fd ps (qO sp):=by
 obtain⟨oc,od,kV,doc,pm,an,gh,ct,F9,rfl,lk,iu⟩:=Fn.ex;have Yy:∀vs H Q E,qO sp vs H Q E->vs.length=ps.length:=λvs H Q E h=>by
  obtain⟨F,ds,Qd,s,r,q,K⟩:=h;rw[r.length];exact len _ _ q
 refine⟨Yy,λA outer s H args us vs Q E hdp hun e0 hb r pA=>?_⟩;have hl:=Yy _ _ _ _ pA;have KX:G.K.In s.heap:=e0.mod.wF.keeps λb o e=>(e0.bs b o e).1;have lim:s.heap.NoLimit:=e0.mod.nolimit.keeps λb o e=>(e0.bs b o e).1;have Fs:∀y∈ps.zip us,(ae st).names.lookup y.1=some .local\/((ae st).names.lookup y.1=some .cell/\((cellsFrom (s.heap.objs.size+1) (ae st).names []).lookup y.1).isSome=true):=λ⟨n,v⟩ hy=>by
  rcases Sc.par n (List.of_mem_zip hy).1 with q|q
  ·exact .inl q
  ·exact .inr ⟨q,PySem.W.cellsFrom_some _ _ _ (.inl q)⟩
 refine codeAny_call_function ⋯ (KX _ _ lk) rfl Sc.co Sc.gen rfl (PySem.W.codeRec_of KX iu) (hb _ _ _ _ ?_)
 refine wpAny_newFunctionEnv_cells Sc.kind Fs λenv he s1 x=>?_;subst he;refine⟨lim.keeps x.toInCall.keep,codeAny_func ?_⟩;have e1:sA G.P G.w G.K G.mg G.base {A with handled:=none} outer s H:=⟨e0.frames,e0.mod,e0.bs,e0.yh,e0.iX,e0.Cz,e0.bc,e0.bare⟩
 have J:=rQ (CX:=iL) (E:=E) (N:=N) (qual:=qual) (f:=f) (cd:=gh) Sc (A:={A with handled:=none}) rfl e1 hl r x
 let X:Cx:={kz iL G.P G.w G.K G.mg G.base N qual (ae st) f gh A outer s H E with calm:=false,xe:=λ_ _=>False}
 have fr:X.A.frames=some X.stack:=Around.frames_deeper e0.frames;have I:L2.Inv X [] (start N vs) H s1:=
  ⟨⟨J.ok.mod,J.ok.kind,J.ok.glob,J.ok.blt,J.ok.above,J.ok.inj,J.ok.has,J.ok.II,(λh=>nomatch h),fr,J.ok.Mx,J.ok.Vv,J.ok.bs,J.ok.yh,J.ok.tS,J.ok.vQ,J.ok.iX,J.ok.Cz⟩,J.os,J.bare,J.base,J.loc,J.cell,J.free,J.d5,J.pin,J.bc,J.len⟩
 obtain⟨F,ds,Qd,sm,r,q,K⟩:=pA;have same:∀ {F':Hp} {aj:Sd} {σ:St} {H':Hp},RS ⟨H,F,[],[]⟩ F' aj σ H'->au H H':=λR b o e=>R.old b o e (by simp [bB.vk])
 have okX:d8 X G k ⟨N,(ae st).names,[],false,true,false,λ_ _=>False⟩ ⟨H,F,[],[]⟩:=
  ⟨rfl,rfl,rfl,hK,rfl,rfl,rfl,rfl,Sc.nd,λp hp=>absurd hp (by simp),(λ_ _=>rfl),(λh=>nomatch h),Sc.kind,λ_ _ _=>rfl,(λh=>nomatch h),by show A.depth+1+3*k+5<_;omega,by show A.units+3+16*k+200<_;omega,(λh=>nomatch h),λ_=>⟨rfl,rfl,rfl⟩,(λ_ _ h=>h.elim),λh=>nomatch h⟩
 have run:=ht X ⟨H,F,[],[]⟩ okX [] s1 (start N vs) H {nx:=λ_ H'=>Q .aU H',rt:=Q} I ⟨F,aJ N.length ds,_,RS.start _ sm r,body ds Qd q,⟨λσ H' F' aj s' R' q'=>K .aU H' F' (.sh .aU) s' R'.fr (same R') R'.eJ .aU q',λv σ H' F' aj b s' R' r' q'=>by
  refine K v H' F' b s' R'.fr (same R') R'.eJ ?_ q';cases b with
  | sh d=>exact r'
  | own xs =>
   obtain⟨a,us,rfl,w1,w2,w3,w4,w5⟩:=r';exact⟨a,us,rfl,w1,w2,w3,w4⟩
  | obj o =>
   obtain⟨a,rfl,w1,w2⟩:=r';exact⟨a,rfl,w1,λb hb=>⟨(w2 b hb).1,(w2 b hb).2.1,(w2 b hb).2.2.1⟩⟩,λ_ _ _ _ _ _ h=>h.elim,λ_ _ _ _ _ _ h=>h.elim⟩⟩
 refine wpAny_mono run (λfl s' hs=>?_) λe s' hs=>hs.elim;cases fl with
 | ret u =>
  obtain⟨v,bS,H',J,rv,q⟩:=hs;exact⟨v,H',J.os,J.bare,J.base,J.bc,rv,q⟩
 | next =>
  obtain⟨bS,H',J,q⟩:=hs;exact⟨.aU,H',J.os,J.bare,J.base,J.bc,rfl,q⟩
 | brk=>obtain⟨_,_,_,q⟩:=hs;exact False.elim q
 | cont=>obtain⟨_,_,_,q⟩:=hs;exact False.elim q
theorem dy.fh{x:Str}{st:Stmt}{ps N:List Str}{f:Addr}{fd:FuncData}{t:bK}{sp:bA}(d:dy G x st ps f fd)(hK:G.K=KF.K)(Sc:aC N ps (ae st))(ht:cB G k ⟨N,(ae st).names,[],false,true,false,λ_ _=>False⟩ (ak st) t)
  (len:∀ds Q,sp ds Q->ds.length=ps.length) (body:∀ds Q,sp ds Q->t {nx:=λ_=>Q (.sh .aU),rt:=λb _=>Q b} (aJ N.length ds)):Iq G (k+1) x sp:=
 ⟨f,fd,ps,Pu hK d.F Sc ht len body,d.m,d.F.kp,d.b⟩
end Vc
namespace Vx
open PySem PySem.Spec PySem.Calls PyProof.Rows Builtin
theorem AI:fillsNumberSlot (.type "tuple") "mul"=pure false:=
 PySem.fillsNumberSlot_seq (id:="tuple.__mul__") (r:=some (.builtin "tuple.__rmul__")) F.slot_tuple_mul.lookup (by decide +kernel) F.slot_tuple_rmul.lookup (by decide +kernel)
theorem Z7:seqRepeat? (.type "tuple")=pure (some (.builtin "tuple.__mul__")):=by
 unfold seqRepeat?;rw[PySem.seqSlot_of (T:="tuple") (name:="__mul__") (id:="tuple.__mul__") F.slot_tuple_mul.lookup (by decide +kernel),
  PySem.seqSlot_of (T:="tuple") (name:="__rmul__") (id:="tuple.__rmul__") F.slot_tuple_rmul.lookup (by decide +kernel)]
 rfl
theorem Mr(a:Int)(t:Tok)(l:Addr):Meets (Builtin.«int.__rmul__» ⟨[.int a t,.ref l],[]⟩) (λ_ R s=>(∃o its n,s.heap.get? l=some o/\o.cls=.type "tuple"/\o.data=.seq its n)/\R (.ok (.ret Value.notImplemented)) s):=
 .of_wp λprog w A R s h=>by
  obtain⟨hp,g,d,tk,os⟩:=s;obtain⟨⟨o,its,n,ho,hc,hd⟩,h⟩:=h;have hT:(⟨hp,g,d,tk,os⟩:Shared).TypeIs (.ref l) "tuple":=⟨o,ho,hc⟩
  repeat (any_goals (first|assumption | (with_reducible refine wpAny_load ho ?_;rw[hd])|wp_step))
  exact⟨_,rfl,h⟩
theorem abG(k:Int)(t:Tok)(l:Addr)(its:List Value)(cT:its≠[])(h1:1<=k)(h2:k<2^63)(hz:its.length*k.toNat<=sizeLine):
  Meets (Builtin.«tuple.__mul__» ⟨[.ref l,.int k t],[]⟩) (λ_ R s=>IsTup s.heap l its.toArray/\(k=1->R (.ok (.ret (.ref l))) s)/\(k≠1->∀h' p,h'=s.heap.push {cls:=.type "tuple",data:=.seq (List.replicate k.toNat its).flatten.toArray}->p=s.heap.objs.size->R (.ok (.ret (.ref p))) {s with heap:=h'})):=
 .of_wp λprog w A R s h=>by
  obtain⟨hp,g,d,tk,os⟩:=s;obtain⟨⟨o,ho,hc,n,hd⟩,hq1,Yc⟩:=h;have hT:(⟨hp,g,d,tk,os⟩:Shared).TypeIs (.ref l) "tuple":=⟨o,ho,hc⟩
  repeat (any_goals (first|assumption | (with_reducible refine wpAny_load ho ?_;rw[hd])|wp_step))
  have c1:¬((decide (k < -2^63)||decide (k>=2^63))=true):=by simp;omega
  rw[if_neg c1];dsimp only;refine wpAny_bind ?_;unfold Tuple.tupleItemsOf
  repeat (any_goals (first|assumption | (with_reducible refine wpAny_load ho ?_;rw[hd])|wp_step))
  have XZ:its.toArray.isEmpty=false:=by cases its with|nil=>exact absurd rfl cT|cons x r=>rfl
  have hsz:(its.toArray.size:Int)*k<=(sizeLine:Nat):=by
   have e:((k.toNat:Nat):Int)=k:=by omega
   have z:((its.length*k.toNat:Nat):Int)<=(sizeLine:Nat):=by exact_mod_cast hz
   rw[Int.natCast_mul,e]at z;simpa using z
  by_cases hk:k=1
  ·rw[if_pos (by rw[hk];simp)]
   unfold Tuple.tupleIsExact
   repeat (any_goals (first|assumption|wp_step))
   exact⟨_,rfl,hq1 hk⟩
  ·rw[if_neg (by rw[XZ];simpa using hk),if_neg (by rw[XZ];simp;omega)]
   have tJ:¬(its.toArray.size:Int)*k>(2^63-1)/8:=by
    have:((sizeLine:Nat):Int)<=(2^63-1)/8:=by decide
    omega
   have X7:¬Tuple.tupleTooMany ((its.toArray.size:Int)*k)=true:=by
    unfold Tuple.tupleTooMany;rw[decide_eq_true_eq];omega
   rw[if_neg tJ,if_neg X7];have hf:List.foldl (λx1 x2=>x1++x2) #[] (List.replicate k.toNat its.toArray)=(List.replicate k.toNat its).flatten.toArray:=by
    have:=L2.foldl_rep its k.toNat [];rw[List.nil_append]at this;exact this
   rw[hf];unfold Tuple.tupleExact;refine wpAny_bind (wpAny_newObj_type ?_ ?_)
   ·exact wpAny_pure ⟨_,rfl,Yc hk _ _ rfl rfl⟩
   ·show(List.replicate k.toNat its).flatten.toArray.size<=sizeLine
    rw[List.size_toArray,L2.len_rep,Nat.mul_comm];exact hz
end Vx
namespace Vc
open PySem L2
variable [KF]
variable {G:GE}{k:Nat}{S:Stat}
def xj:R2:=λx y H Q=>∃p k xs,x=.ref p/\y=.int k/\H p=some (.tup xs)/\xs≠[]/\1<=k/\k<2^63/\xs.length*k.toNat<=sizeLine/\(k=1->Q (.ref p) H) /\
 (k≠1->∀l,H l=none->Q (.ref l) (upd H l (.tup (List.replicate k.toNat xs).flatten)))
theorem AJ{X:Cx}:iH X (binaryOp .Mult) xj:=by
 intro pins s σ H x y v u Q I rx ry h;obtain⟨p,k,xs,rfl,rfl,hH,cT,h1,h2,hz,q1,q2⟩:=h;cases rx;obtain⟨t,rfl⟩:=ry;obtain⟨z,its,r,ht⟩:=I.bc p _ hH;obtain⟨o,ho,hc,n,hd⟩:=id ht;have hl:=r.length;refine wpAny_binaryOp_repeat_ref (T:="tuple") (U:="int") ∅ ⟨o,ho,hc⟩ (λs'=>typeIs_int s' k t) Vx.AI F.fills_int_mul F.slot_int_rmul Vx.Z7 F.slot_int_index.lookup
  (call_meets F.slot_int_rmul (typeIs_int s k t) F.entry_int_rmul (F.args_int_rmul_2 _ _) (Vx.Mr k t p) ⟨⟨o,_,n,ho,hc,hd⟩,rfl,⟨o,ho,hc⟩,call_meets F.slot_tuple_mul ⟨o,ho,hc⟩ F.entry_tuple_mul (F.args_tuple_mul_2 _ _)
   (Vx.abG k t p its (λe=>by subst e;cases xs with|nil=>exact cT rfl|cons a b=>cases r) h1 h2 (by rw[<- hl];exact hz)) ⟨ht,λe=>?_,λe h' l eh el=>?_⟩⟩)
 ·exact⟨.ref p,H,I,rfl,q1 e⟩
 ·subst eh el
  have hf:H s.heap.objs.size=none:=I.bc.fresh (Nat.le_refl _);refine⟨.ref s.heap.objs.size,upd H s.heap.objs.size (.tup (List.replicate k.toNat xs).flatten),I.laid (t':=s.toks) (λb u e=>Heap.get?_push_of_some _ e) (Nat.le_refl _) ?_,rfl,q2 e _ hf⟩;exact⟨by rw[len_rep,Nat.mul_comm];exact hz,_,r.rep k.toNat,⟨_,Heap.get?_push_size _ rfl,rfl,_,rfl⟩⟩
def r9:D->D->(EV->Prop)->Prop
 | .tup xs,.int j,Q=>(xs≠[]/\1<=j/\j<2^63/\xs.length*j.toNat<=sizeLine)/\Q (.val (.tup (List.replicate j.toNat xs).flatten))
 | _,_,_=>False
theorem pN:fL xj r9:=by
 intro Y F H aj σ v u x y Qd Q R rx ry q g;unfold r9 at q
 split at q
 ·rename_i xs j
  obtain⟨⟨h1,h2,h3,h4⟩,q⟩:=q;have rx':=rx;obtain⟨a,vs,rfl,hv,r1⟩:=rx.tup R.fr;obtain rfl:=ry.int;refine⟨a,j,vs,rfl,rfl,hv,λe=>?_,h2,h3,by rw[r1.length];exact h4,λe=>?_,λ_=>g.tup R (r1.rep _) q⟩
  ·subst e;cases r1;exact h1 rfl
  ·subst e
   refine g.val R rx' ?_;have e:(List.replicate (1:Int).toNat xs).flatten=xs:=by simp
   rw[e]at q;exact q
 ·exact q.elim
theorem GA{a b:Expr}{ta tb:TV}{pos:Pos}(ha:EO G k S a ta)(hb:EO G k S b tb):EX G k S (.BinOp a .Mult b pos) (aW r9 ta tb):=nP (r:=λ_=>xj) (λ_=>AJ) (λ_=>pN) ha hb
end Vc
namespace Vc
theorem IK{α β:Type}{f:α->β}{cs:List α}{as:List β}(h:cs.map f=as)(nd:as.Nodup){c d:α}(hc:c∈cs)(hd:d∈cs)(e:f c=f d):c=d:=by
 subst h
 induction cs with
 | nil=>cases hc
 | cons x r ih =>
  rw[List.map_cons,List.nodup_cons]at nd;rcases List.mem_cons.mp hc with rfl|Jo
  ·rcases List.mem_cons.mp hd with rfl|Al
   ·rfl
   ·exact absurd (e ▸ List.mem_map_of_mem Al) nd.1
  ·rcases List.mem_cons.mp hd with rfl|Al
   ·exact absurd (e ▸ List.mem_map_of_mem Jo) nd.1
   ·exact ih Jo Al nd.2
end Vc
namespace Vc
open PySem L2
section
variable {X:Cx}
def abU:V->Option Int->Option Int->Hp->VK->Prop:=λx lo hi H Q=>∃z,x=.str z/\z.length<=sizeLine/\Q (.str (Txt.slice z lo hi)) H
theorem part_of{v:Value}{o:Option Int}(h:IsPart v o):∃l:Option (Int×Tok),v=partValue l/\l.map (·.1)=o:=by
 cases h with
 | none=>exact⟨none,rfl,rfl⟩
 | int i t=>exact⟨some (i,t),rfl,rfl⟩
theorem UN:Bj X abU:=by
 intro pins s σ H x v vl vu lo hi sl Q I rx hs pl pu h;obtain⟨z,rfl,hz,q⟩:=h;obtain⟨t,rfl⟩:=rx;obtain⟨l,rfl,el⟩:=part_of pl;obtain⟨u,rfl,eu⟩:=part_of pu;refine⟨"str",_,F.slot_str_getitem.lookup,typeIs_str _ _ _,wpAny_getItem_str_slice (l:=l) (u:=u) (st:=none) hs rfl ?_⟩;subst el eu;cases l<;>cases u<;>exact post_val_or_str ⟨Nat.le_trans (Txt.slice_le z _ _) hz,λt' k=>⟨.str _,H,I.tok k,⟨t',rfl⟩,q⟩⟩
def yR(z:Str):Str:=⟨((Builtin.Str.strSliceIndices none none (-1) z.length).filterMap (z.cps[·]?)).toArray⟩
theorem Ku:HW X (λx H Q=>∃z,x=.str z/\(yR z).length<=sizeLine/\Q (.str (yR z)) H):=by
 intro pins s σ H x v u sl Q I rx hs h;obtain⟨z,rfl,hz,q⟩:=h;obtain⟨t,rfl⟩:=rx;refine⟨"str",_,F.slot_str_getitem.lookup,typeIs_str _ _ _,wpAny_getItem_str_slice (l:=none) (u:=none) (st:=some (-1,u)) hs rfl ?_⟩;exact⟨hz,⟨.str _,H,I.tok _,⟨_,rfl⟩,q⟩⟩
end
variable [KF]
variable {G:GE}{k:Nat}{S:Stat}
def slA:D->Option Int->Option Int->(EV->Prop)->Prop
 | .str z,lo,hi,Q=>z.length<=sizeLine/\Q (.val (.str (Txt.slice z lo hi)))
 | .lst xs,lo,hi,Q=>Q (.own (cut xs lo hi))
 | .hW ns,lo,hi,Q=>Q (.own (cut (ns.map D.int) lo hi))
 | .tup xs,lo,hi,Q=>Q (.val (.tup (cut xs lo hi)))
 | _,_,_,_=>False
def qp(t:TV)(tl th:Dj):TX:=λσ Q=>t σ λx aw=>tl aw λl aO=>th aO λu fe=>match dc fe x with
 | some d=>slA d l u λr=>Q r fe
 | none=>False
theorem kY{e:Expr}{lo hi:Option Expr}{t:TV}{tl th:Dj}{p2 pos:Pos}(h:EO G k S e t)(hl:Io G k S lo tl)(hh:Io G k S hi th):EX G k S (.Subscript e (.Slice lo hi none p2) pos) (qp t tl th):=.mk λX Y ok =>
 aV (xh (Bj.or UN (Bj.or A3 (Bj.or GZ Ul))) (h X Y ok) (hl X Y ok) (hh X Y ok)) λσ H Q q=>by
  obtain⟨F,aj,Qd,R,q,K⟩:=q;refine⟨F,aj,_,R,q,λv1 H1 F1 x aw s1 R1 r1 q1=>?_⟩;refine⟨F1,aw,_,R1,q1,λl H2 F2 aO s2 R2 q2=>?_⟩;refine⟨F2,aO,_,R2,q2,λu H3 F3 fe s3 R3 q3=>?_⟩
  split at q3
  ·rename_i d e
   have rx:=R3.dc (r1.mono (s2.trans s3)) e;have g:Goes Y F3 fe σ (λr=>Qd r fe) Q:=λv H' F' r s R' rr qq=>K v H' F' r fe (((s1.trans s2).trans s3).trans s) R' rr qq;cases d with
   | str z =>
    obtain rfl:=rx.str;exact .inl ⟨z,rfl,q3.1,g.val R3 (.str _) q3.2⟩
   | lst xs =>
    obtain⟨p,vs,rfl,h1,r1⟩:=rx.lst;exact .inr (.inl ⟨p,vs,rfl,.inl h1,g.own R3 (r1.cut _ _) q3⟩)
   | hW ns =>
    obtain⟨p,rfl,h1⟩:=rx.hW R3.fr;exact .inr (.inl ⟨p,_,rfl,by rw[ok.kf];exact h1,g.own R3 ((jy _).cut _ _) q3⟩)
   | tup xs =>
    have rx':=rx;obtain⟨p,vs,rfl,h1,r1⟩:=rx.tup R3.fr
    replace q3:Qd (.val (.tup (cut xs l u))) fe:=q3
    by_cases hw:HT.cU xs.length 0 l=0/\HT.cU xs.length xs.length u=xs.length
    ·rw[IP hw]at q3
     exact .inr (.inr (.inr ⟨p,vs,rfl,.of h1,by rw[r1.length];exact hw,g.val R3 rx' q3⟩))
    ·exact .inr (.inr (.inl ⟨p,vs,rfl,.of h1,by rw[r1.length];exact hw,g.tup R3 (r1.cut _ _) q3⟩))
   | _=>exact q3.elim
  ·exact q3.elim
def Z8:D->(EV->Prop)->Prop
 | .str z,Q=>(yR z).length<=sizeLine/\Q (.val (.str (yR z)))
 | d,Q=>Z9 d Q
def Hb(t:TV)(ts:Dj):TX:=λσ Q=>t σ λx aw=>ts aw λl aO=>l=some (-1)/\match dc aO x with
 | some d=>Z8 d λr=>Q r aO
 | none=>False
theorem TJ{e:Expr}{st:Expr}{t:TV}{ts:Dj}{p2 pos:Pos}(h:EO G k S e t)(hl:Io G k S (some st) ts):EX G k S (.Subscript e (.Slice none none (some st) p2) pos) (Hb t ts):=.mk λX Y ok =>
 aV (SJ (HW.or Ku (HW.or GH Kv)) (h X Y ok) (hl X Y ok)) λσ H Q q=>by
  obtain⟨F,aj,Qd,R,q,K⟩:=q;refine⟨F,aj,_,R,q,λv1 H1 F1 x aw s1 R1 r1 q1=>?_⟩;refine⟨F1,aw,_,R1,q1,λl H2 F2 aO s2 R2 q2=>?_⟩;refine⟨q2.1,?_⟩
  replace q2:=q2.2
  split at q2
  ·rename_i d e
   have rx:=R2.dc (r1.mono s2) e;have g:Goes Y F2 aO σ (λr=>Qd r aO) Q:=λv H' F' r s R' rr qq=>K v H' F' r aO ((s1.trans s2).trans s) R' rr qq;cases d with
   | str z =>
    obtain rfl:=rx.str;exact .inl ⟨z,rfl,q2.1,g.val R2 (.str _) q2.2⟩
   | lst xs =>
    obtain⟨p,vs,rfl,h1,r1⟩:=rx.lst;exact .inr (.inl ⟨p,vs,rfl,.inl h1,g.own R2 r1.reverse q2⟩)
   | hW ns =>
    obtain⟨p,rfl,h1⟩:=rx.hW R2.fr;exact .inr (.inl ⟨p,_,rfl,by rw[ok.kf];exact h1,g.own R2 (jy _).reverse q2⟩)
   | tup xs =>
    obtain⟨p,vs,rfl,h1,r1⟩:=rx.tup R2.fr;exact .inr (.inr ⟨p,vs,rfl,.of h1,g.tup R2 r1.reverse q2⟩)
   | _=>exact q2.elim
  ·exact q2.elim
theorem b3{sts:List Stmt}:cB G k S sts eZ:=.mk λX Y ok pins s σ H D I q=>by
 obtain⟨F,aj,De,R,q,K⟩:=q;exact q.elim
theorem tU(x:Str):bG 8 (.str x)=true ↔ ∀c∈x.cps.toList,c<0x110000:=by
 show(x.cps.all (· < 0x110000))=true ↔ _
 rw[Array.all_eq_true'];simp
theorem fP{a b:Str}(ha:bG 8 (.str a)=true)(hb:bG 8 (.str b)=true):bG 8 (.str (a++b))=true:=by
 rw[tU]at ha hb ⊢;intro c hc;have e:(a++b).cps.toList=a.cps.toList++b.cps.toList:=by
  show(a.cps++b.cps).toList=_;simp
 rw[e]at hc;rcases List.mem_append.mp hc with h|h
 ·exact ha c h
 ·exact hb c h
theorem xa{x:Str}(l:List Nat)(hx:bG 8 (.str x)=true):bG 8 (.str ⟨(l.filterMap (x.cps[·]?)).toArray⟩)=true:=by
 rw[tU]at hx ⊢;intro c hc;have hc:c∈l.filterMap (x.cps[·]?):=by simpa using hc
 obtain⟨i,_,e⟩:=List.mem_filterMap.mp hc;exact hx c (by
  obtain⟨h,e⟩:=Array.getElem?_eq_some_iff.mp e;rw[<- e];simp)
theorem gD{x:Str}(lo hi:Option Int)(hx:bG 8 (.str x)=true):bG 8 (.str (Txt.slice x lo hi))=true:=by
 unfold Txt.slice
 split
 ·exact hx
 ·exact xa _ hx
theorem JT{x:Str}(hx:bG 8 (.str x)=true):bG 8 (.str (yR x))=true:=xa _ hx
theorem GF(x:Str):(yR x).length<=x.length:=by
 have h:(Builtin.Str.strSliceIndices none none (-1) x.length).length<=x.length:=by
  unfold Builtin.Str.strSliceIndices;exact sliceRange_length_le _ _ _ _ (λh=>absurd h ∅) (λ_=>⟨by simp,by simp⟩)
 refine Nat.le_trans ?_ h;show((Builtin.Str.strSliceIndices none none (-1) x.length).filterMap (x.cps[·]?)).toArray.size<=_
 rw[List.size_toArray];exact List.length_filterMap_le _ _
end Vc
set_option maxHeartbeats 0
namespace Vc
open PySem PySem.W
@[elab_as_elim] theorem ach{α:Type} {P:List α->Prop} (h:∀a,P [a]):∀us:List α,us.length=1->P us
 | [a],_=>h a
@[elab_as_elim] theorem aci{α:Type} {P:List α->Prop} (h:∀a b,P [a,b]):∀us:List α,us.length=2->P us
 | [a,b],_=>h a b
@[elab_as_elim] theorem acj{α:Type} {P:List α->Prop} (h:∀a b c,P [a,b,c]):∀us:List α,us.length=3->P us
 | [a,b,c],_=>h a b c
@[elab_as_elim] theorem ack{α:Type} {P:List α->Prop} (h:∀a b c d,P [a,b,c,d]):∀us:List α,us.length=4->P us
 | [a,b,c,d],_=>h a b c d
@[elab_as_elim] theorem acm{α:Type} {P:List α->Prop} (h:∀a b c d e,P [a,b,c,d,e]):∀us:List α,us.length=5->P us
 | [a,b,c,d,e],_=>h a b c d e
theorem Vj{q:Program}{loose:List Str}{XP:(Str->Option Value)->Heap->Prop}{K:Params->Frag}{as:List Addr}{n t:Nat}{r:RowW}{d:DefRec}{kwd:List (Str×Expr)}{run:Value->List Value->Sem Value}
  (e:∀P,as=(K P).map (·.1)) (h:WalkO q loose XP (λw h=>(K w.params).In h) r d kwd run):WalkX q loose XP (X.obsZ as) (X.valZ K n t) r d kwd run:=
 λw bT bP mg mb G y a o pm cd doc dV kV ho hd iu hD hmg hg args vals as' L BO X5 hrd VJ hlo =>
  h w bT bP mg mb G (InK.keeps w _ _ (X.z_facts e y).2.1 L.keeps) a o pm cd doc dV kV ho hd iu hD hmg hg args vals as' BO X5 hrd VJ hlo
end Vc
namespace Vc
open PySem L2
variable [KF]
variable {G:GE}{k:Nat}{S:Stat}
theorem RS.ja{Y:bB}{F:Hp}{aj:Sd}{σ:St}{H:Hp}{i:Nat}{o o':O}{a c:Addr}{u:HO}(R:RS Y F aj σ H)(e:aj[i]?=some (some (.obj o)))(h:σ[i]?=some (some (.ref a)))(hc:c∈o.fp a)(Fo:∀b,b∈o'.fp a->b∈o.fp a)
  (hr:o'.rep F (upd H c u) a):RS Y F (aj.set i (some (.obj o'))) σ (upd H c u):=by
 obtain⟨a',w1,w2,w3⟩:=R.ob.obj i o e;rw[h]at w1;cases w1;have ow:∀b∈o.fp a,iQ aj σ b:=λb hb=>⟨i,o,a,e,h,hb⟩;have hl:i<aj.length:=(List.getElem?_eq_some_iff.mp e).1;have up:∀ {b:Addr},H b≠none->(upd H c u) b≠none:=λ{b} hb=>by
  by_cases z:b=c
  ·rw[z,aA];exactλy=>nomatch y
  ·rw[aq z];exact hb
 refine⟨by simpa using R.len,R.lo,λb q z=>?_,R.eJ,λb q z n=>?_,λj d z=>?_,λj xs z=>?_,λj l xs ys b z1 z2 z3 z4=>?_,λp hp=>?_,⟨λj p z=>?_,λj l p p2 b d z1 z2 z3 z4 cT x hx xU=>?_,λj ys b z1 z2 ⟨l,p,d,z3,z4,hm⟩=>?_,λb hb=>up (R.ob.there b hb),R.ob.HE,R.ob.tab⟩⟩
 ·have:b≠c:=λy=>by rw[y,(w3 c hc).1]at z;cases z
  rw[aq this];exact R.fr b q z
 ·have:b≠c:=λy=>by
   subst y;rcases(w3 b hc).2.2 with y|y
   ·rw[y]at z;cases z
   ·exact n (List.mem_append_right _ y)
  rw[aq this];exact R.old b q z n
 ·rcases gs z with⟨_,y⟩|⟨_,z⟩
  ·cases y
  ·exact R.sh j d z
 ·rcases gs z with⟨_,y⟩|⟨_,z⟩
  ·cases y
  ·obtain⟨b,vs,y1,y2,y3⟩:=R.own j xs z
   have:b≠c:=λy=>R.ob.gj j xs b z y1 (y ▸ ow c hc);exact⟨b,vs,y1,by rw[aq this];exact y2,y3⟩
 ·rcases gs z1 with⟨_,y⟩|⟨_,z1⟩
  ·cases y
  rcases gs z2 with⟨_,y⟩|⟨_,z2⟩
  ·cases y
  exact R.dis j l xs ys b z1 z2 z3 z4
 ·obtain⟨y1,xs,y2⟩:=R.io p hp
  have:p.1≠i:=λy=>by rw[y,e]at y2;cases y2
  exact⟨y1,xs,by rw[bx this];exact y2⟩
 ·rcases gs z with⟨rfl,y⟩|⟨hj,z⟩
  ·cases y
   exact⟨a,h,hr,λb hb=>⟨(w3 b (Fo b hb)).1,up (w3 b (Fo b hb)).2.1,(w3 b (Fo b hb)).2.2⟩⟩
  ·obtain⟨b,y1,y2,y3⟩:=R.ob.obj j p z
   refine⟨b,y1,p.mono (au.refl _) (λd hd=>?_) y2,λd hd=>⟨(y3 d hd).1,up (y3 d hd).2.1,(y3 d hd).2.2⟩⟩;exact aq λy=>R.ob.oE i j o p a b e z h y1 (Ne.symm hj) c hc (y ▸ hd)
 ·rcases gs z1 with⟨e1,y⟩|⟨hj,y1⟩
  ·cases y
   subst e1;rw[h]at z3;cases z3;rcases gs z2 with⟨e2,_⟩|⟨rO,y2⟩
   ·exact cT e2.symm
   ·exact R.ob.oE j l o p2 a d e y2 h z4 cT x (Fo x hx) xU
  ·rcases gs z2 with⟨e2,y⟩|⟨rO,y2⟩
   ·cases y
    subst e2;rw[h]at z4;cases z4;exact R.ob.oE j l p o b a y1 e z3 h cT x hx (Fo x xU)
   ·exact R.ob.oE j l p p2 b d y1 y2 z3 z4 cT x hx xU
 ·rcases gs z1 with⟨_,y⟩|⟨_,y1⟩
  ·cases y
  rcases gs z3 with⟨e3,y⟩|⟨_,y3⟩
  ·cases y
   subst e3;rw[h]at z4;cases z4;exact R.ob.gj j ys b y1 z2 (ow b (Fo b hm))
  ·exact R.ob.gj j ys b y1 z2 ⟨l,p,d,y3,z4,hm⟩
def KQ(i:Nat):TV:=λσ Q=>(∃o,σ[i]?=some (some (.obj o)))/\Q (.var i) σ
theorem xm(i:Nat){x:Str}{pos:Pos}(hN:S.N[i]?=some x:=by rfl)(hv:S.sc.lookup x=some .local\/S.sc.lookup x=some .cell\/S.sc.lookup x=some .free:=by first|exact Or.inl rfl|exact Or.inr (Or.inl rfl)|exact Or.inr (Or.inr rfl))
  (hd:(x==("__debug__":Str))=false:=by decide) (iu:(x==("__classdict__":Str))=false:=by decide):EO G k S (.Name x pos) (KQ i):=.mk λX Y ok =>
 aV (kh (X:=X) (i:=i) (by rw[ok.N];exact hN) (by unfold Iw;rw[ok.sc];exact hv) hd iu) λσ H Q q=>by
  obtain⟨F,aj,Qd,R,⟨⟨o,e⟩,q⟩,K⟩:=q;obtain⟨a,w1,_⟩:=R.ob.obj i o e;exact⟨.ref a,w1,K _ H F (.var i) aj (au.refl _) R w1 q⟩
def Gx(neg:Bool):R2:=λy x H Q=>∃a o,x=.ref a/\sy H a y o/\Q (.bl (if neg then !o.isSome else o.isSome)) H
theorem B5{X:Cx}(hu:X.A.units+1<cLine):iH X (compareOp .NotIn) (Gx true):=by
 intro pins s σ H x y v u Q I rx ry h;obtain⟨a,o,rfl,g,q⟩:=h;cases ry;exact IU hu I g rx λs' I'=>⟨.bl (!o.isSome),H,I',rfl,q⟩
end Vc
namespace Vx
open PySem PySem.Spec PyProof.Rows PySem.Builtin L2
theorem YF(k:Int)(t:Tok)(l:Addr)(its:List Value)(cT:its≠[])(h1:k=0):
  Meets (Builtin.«tuple.__mul__» ⟨[.ref l,.int k t],[]⟩) (λ_ R s=>IsTup s.heap l its.toArray/\∀h' p,h'=s.heap.push {cls:=.type "tuple",data:=.seq #[]}->p=s.heap.objs.size->R (.ok (.ret (.ref p))) {s with heap:=h'}):=
 .of_wp λprog w A R s h=>by
  obtain⟨hp,g,d,tk,os⟩:=s;obtain⟨⟨o,ho,hc,n,hd⟩,Yc⟩:=h;have hT:(⟨hp,g,d,tk,os⟩:Shared).TypeIs (.ref l) "tuple":=⟨o,ho,hc⟩
  repeat (any_goals (first|assumption | (with_reducible refine wpAny_load ho ?_;rw[hd])|wp_step))
  exact⟨_,rfl,Yc _ _ rfl rfl⟩
end Vx
namespace Vc
open PySem L2
variable [KF]
variable {G:GE}{k:Nat}{S:Stat}
def yL:R2:=λx y H Q=>∃p xs,x=.ref p/\y=.int 0/\H p=some (.tup xs)/\xs≠[]/\∀l,H l=none->Q (.ref l) (upd H l (.tup []))
theorem F8{X:Cx}:iH X (binaryOp .Mult) yL:=by
 intro pins s σ H x y v u Q I rx ry h;obtain⟨p,xs,rfl,rfl,hH,cT,q2⟩:=h;cases rx;obtain⟨t,rfl⟩:=ry;obtain⟨z,its,r,ht⟩:=I.bc p _ hH;obtain⟨o,ho,hc,n,hd⟩:=id ht;have hl:=r.length;refine wpAny_binaryOp_repeat_ref (T:="tuple") (U:="int") ∅ ⟨o,ho,hc⟩ (λs'=>typeIs_int s' 0 t) Vx.AI F.fills_int_mul F.slot_int_rmul Vx.Z7 F.slot_int_index.lookup
  (call_meets F.slot_int_rmul (typeIs_int s 0 t) F.entry_int_rmul (F.args_int_rmul_2 _ _) (Vx.Mr 0 t p) ⟨⟨o,_,n,ho,hc,hd⟩,rfl,⟨o,ho,hc⟩,call_meets F.slot_tuple_mul ⟨o,ho,hc⟩ F.entry_tuple_mul (F.args_tuple_mul_2 _ _)
   (Vx.YF 0 t p its (λe=>by subst e;cases xs with|nil=>exact cT rfl|cons a b=>cases r) rfl) ⟨ht,λh' l eh el=>?_⟩⟩)
 subst eh el;have hf:H s.heap.objs.size=none:=I.bc.fresh (Nat.le_refl _);refine⟨.ref s.heap.objs.size,upd H s.heap.objs.size (.tup []),I.laid (t':=s.toks) (λb u e=>Heap.get?_push_of_some _ e) (Nat.le_refl _) ?_,rfl,q2 _ hf⟩;exact⟨Nat.zero_le _,[],.nil,⟨_,Heap.get?_push_size _ rfl,rfl,_,rfl⟩⟩
def wR:D->D->(EV->Prop)->Prop
 | .tup xs,.int j,Q=>(xs≠[]/\0<=j/\j<2^63/\xs.length*j.toNat<=sizeLine)/\Q (.val (.tup (List.replicate j.toNat xs).flatten))
 | _,_,_=>False
theorem yB:fL (λx y H Q=>xj x y H Q\/yL x y H Q) wR:=by
 intro Y F H aj σ v u x y Qd Q R rx ry q g;unfold wR at q
 split at q
 ·rename_i xs j
  obtain⟨⟨h1,h2,h3,h4⟩,q⟩:=q
  by_cases hj:j=0
  ·right
   subst hj;obtain⟨a,vs,rfl,hv,r1⟩:=rx.tup R.fr;obtain rfl:=ry.int;exact⟨a,vs,rfl,rfl,hv,(λe=>by subst e;cases r1;exact h1 rfl),g.tup R .nil q⟩
  ·left
   exact pN Y F H aj σ v u (.tup xs) (.int j) Qd Q R rx ry ⟨⟨h1,by omega,h3,h4⟩,q⟩ g
 ·exact q.elim
theorem TH{a b:Expr}{ta tb:TV}{pos:Pos}(ha:EO G k S a ta)(hb:EO G k S b tb):EX G k S (.BinOp a .Mult b pos) (aW wR ta tb):=nP (r:=λ_ x y H Q=>xj x y H Q\/yL x y H Q) (λ_=>AJ.or F8) (λ_=>yB) ha hb
end Vc
namespace Vc
open PySem PyProof.Rows
section
variable {prog:Program}{w:World}{A:Around}{R:Result->Shared->Prop}
def Kp(h g:Heap):Prop:=∀b o,h.get? b=some o->g.get? b=some o
end
end Vc
namespace Vc
open PySem PySem.W L2
section
variable {P:Addr}{K:Frag}(hP:K.lookup P=some (tabObj #[]))
include hP
end
end Vc
namespace Vc
open PySem L2
variable [KF]
theorem RS.Q0{Y:bB}{F:Hp}{aj:Sd}{σ:St}{H H':Hp}{i:Nat}{o o':O}{a:Addr}(R:RS Y F aj σ H)(e:aj[i]?=some (some (.obj o)))(h:σ[i]?=some (some (.ref a)))
  (keep:∀b,b∉o.fp a->H b≠none->H' b=H b) (live:∀b,H b≠none->H' b≠none) (Fo:∀b∈o'.fp a,b∈o.fp a\/H b=none) (hn:∀b∈o'.fp a,H' b≠none)
  (hr:o'.rep F H' a):RS Y F (aj.set i (some (.obj o'))) σ H':=by
 obtain⟨a',w1,w2,w3⟩:=R.ob.obj i o e;rw[h]at w1;cases w1;have ow:∀b∈o.fp a,iQ aj σ b:=λb hb=>⟨i,o,a,e,h,hb⟩;have hl:i<aj.length:=(List.getElem?_eq_some_iff.mp e).1;refine⟨by simpa using R.len,R.lo,λb q z=>?_,R.eJ,λb q z n=>?_,λj d z=>?_,λj xs z=>?_,λj l xs ys b z1 z2 z3 z4=>?_,λp hp=>?_,⟨λj p z=>?_,λj l p p2 b d z1 z2 z3 z4 cT x hx xU=>?_,λj ys b z1 z2 ⟨l,p,d,z3,z4,hm⟩=>?_,λb hb=>live b (R.ob.there b hb),R.ob.HE,R.ob.tab⟩⟩
 ·have hb:b∉o.fp a:=λy=>by rw[(w3 b y).1]at z;cases z
  have:=R.fr b q z;rw[keep b hb (by rw[this];exactλy=>nomatch y)];exact this
 ·have hb:b∉o.fp a:=λy=>by
   rcases(w3 b y).2.2 with y|y
   ·rw[y]at z;cases z
   ·exact n (List.mem_append_right _ y)
  have:=R.old b q z n;rw[keep b hb (by rw[this];exactλy=>nomatch y)];exact this
 ·rcases gs z with⟨_,y⟩|⟨_,z⟩
  ·cases y
  ·exact R.sh j d z
 ·rcases gs z with⟨_,y⟩|⟨_,z⟩
  ·cases y
  ·obtain⟨b,vs,y1,y2,y3⟩:=R.own j xs z
   have hb:b∉o.fp a:=λy=>R.ob.gj j xs b z y1 (ow b y);exact⟨b,vs,y1,by rw[keep b hb (by rw[y2];exactλy=>nomatch y)];exact y2,y3⟩
 ·rcases gs z1 with⟨_,y⟩|⟨_,z1⟩
  ·cases y
  rcases gs z2 with⟨_,y⟩|⟨_,z2⟩
  ·cases y
  exact R.dis j l xs ys b z1 z2 z3 z4
 ·obtain⟨y1,xs,y2⟩:=R.io p hp
  have:p.1≠i:=λy=>by rw[y,e]at y2;cases y2
  exact⟨y1,xs,by rw[bx this];exact y2⟩
 ·rcases gs z with⟨rfl,y⟩|⟨hj,z⟩
  ·cases y
   refine⟨a,h,hr,λb hb=>?_⟩;rcases Fo b hb with y|y
   ·exact⟨(w3 b y).1,hn b hb,(w3 b y).2.2⟩
   ·exact⟨same_none R.fr y,hn b hb,.inl (R.bg y).1⟩
  ·obtain⟨b,y1,y2,y3⟩:=R.ob.obj j p z
   have kp:∀d∈p.fp b,H' d=H d:=λd hd=>keep d (λy=>R.ob.oE i j o p a b e z h y1 (Ne.symm hj) d y hd) (y3 d hd).2.1;exact⟨b,y1,p.mono (au.refl _) kp y2,λd hd=>⟨(y3 d hd).1,live d (y3 d hd).2.1,(y3 d hd).2.2⟩⟩
 ·rcases gs z1 with⟨e1,y⟩|⟨hj,y1⟩
  ·cases y
   subst e1;rw[h]at z3;cases z3;rcases gs z2 with⟨e2,_⟩|⟨rO,y2⟩
   ·exact cT e2.symm
   ·rcases Fo x hx with y|y
    ·exact R.ob.oE j l o p2 a d e y2 h z4 cT x y xU
    ·exact(R.ob.owned ⟨l,p2,d,y2,z4,xU⟩).2.1 y
  ·rcases gs z2 with⟨e2,y⟩|⟨rO,y2⟩
   ·cases y
    subst e2;rw[h]at z4;cases z4;rcases Fo x xU with y|y
    ·exact R.ob.oE j l p o b a y1 e z3 h cT x hx y
    ·exact(R.ob.owned ⟨j,p,b,y1,z3,hx⟩).2.1 y
   ·exact R.ob.oE j l p p2 b d y1 y2 z3 z4 cT x hx xU
 ·rcases gs z1 with⟨_,y⟩|⟨_,y1⟩
  ·cases y
  rcases gs z3 with⟨e3,y⟩|⟨_,y3⟩
  ·cases y
   subst e3;rw[h]at z4;cases z4;rcases Fo b hm with y|y
   ·exact R.ob.gj j ys b y1 z2 (ow b y)
   ·obtain⟨c,vs,u1,u2,_⟩:=R.own j ys y1
    rw[z2]at u1;cases u1;rw[y]at u2;cases u2
  ·exact R.ob.gj j ys b y1 z2 ⟨l,p,d,y3,z4,hm⟩
end Vc
set_option maxHeartbeats 400000
set_option maxHeartbeats 400000
namespace Vc
open PySem L2
section
variable {prog:Program}{w:World}{A:Around}{E:Value->Shared->Prop}{s:Shared}{d it:Addr}{en:Array DictEntry}{c i:Nat}
def HR(h:Heap)(d:Addr)(en:Array DictEntry)(c:Nat):Prop:=∃ob,h.get? d=some ob/\ob.ExactDict/\ob.data=.dict en c
theorem HR.ty(h:HR s.heap d en c):s.TypeIs (.ref d) "dict":=let ⟨ob,e,x,_⟩:=h;⟨ob,e,x.1⟩
theorem IZ{Q:Value->Shared->Prop}(lo:(d==sysModules)=false)(m:HR s.heap d en c)
  (q:Q (.ref s.heap.objs.size) {s with heap:=s.heap.push {cls:=.type "dict_keyiterator",data:=.fields #[.ref d,.int 0 0,.int en.size 0,.int c 0]}}):wpAny (model prog w) A (pyIter (.ref d)) Q E s:=by
 obtain⟨ob,e1,e2,e3⟩:=id m;refine wpAny_pyIter_slot m.ty F.slot_dict_iter (wpAny_call_entry F.slot_dict_iter m.ty F.entry_dict_iter ?_ (F.args_dict_iter_1 _));unfold Builtin.«dict.__iter__» Builtin.Dict.dictSlotNone;refine wpAny_bind (wpAny_bind (wpAny_notOrdered_dict m.ty ?_));show wpAny _ _ (pure (Value.ref d)) _ _ _;refine wpAny_pure ?_;show wpAny _ _ (Builtin.Dict.showsAll d >>= _) _ _ _;unfold Builtin.Dict.showsAll;rw[lo,if_neg Bool.false_ne_true];refine wpAny_bind (wpAny_pure (wpAny_bind (wpAny_dictEntries e1 e3 (wpAny_bind (wpAny_dictEpoch e1 e3 (wpAny_bind (wpAny_newObj_type (wpAny_pure ⟨_,rfl,"dict_keyiterator",_,⟨_,Heap.get?_push_size _ rfl,rfl⟩,F.slot_dict_keyiterator_next.lookup,?_⟩))))))));simpa [rawInt]using q
theorem Ja{e:DictEntry}{Q:Option Value->Shared->Prop}(t:s.heap.IsKeyIter it d i en.size c)(m:HR s.heap d en c)(x:en[i]?=some e)
  (q:∀h',h'.IsKeyIter it d (i+1) en.size c->Heap.SameBut it s.heap h'->Q (some e.key) {s with heap:=h'}):wpAny (model prog w) A (pyNext (.ref it)) Q E s:=by
 obtain⟨o1,t1,t2,t3⟩:=id t;obtain⟨ob,e1,e2,e3⟩:=id m;unfold pyNext;refine wpAny_bind (wpAny_attempt (wpAny_callSpecial?_slot (name:=Str.ofString "__next__") t.typeIs F.slot_dict_keyiterator_next (wpAny_call_entry F.slot_dict_keyiterator_next t.typeIs F.entry_dict_keyiterator_next ?_ (F.args_dict_keyiterator_next_1 _))));refine wpAny_bind (wpAny_pure (wpAny_bind (wpAny_bind ?_)))
 first|refine wpAny_bind (wpAny_typeNameOfWhole_keyiter t.typeIs (wpAny_pure ?_))|refine wpAny_bind (wpAny_typeNameOf_keyiter t.typeIs (wpAny_pure ?_))
 refine wpAny_bind (wpAny_fieldsOf t1 t3 ?_);rw[show Builtin.Dict_items.ownsTuple "dict_keyiterator"=false by decide,if_neg Bool.false_ne_true]
 show wpAny _ _ (if(Value.ref d==Value.none)=true then _ else _) _ _ s
 rw[if_neg (show¬((Value.ref d==Value.none)=true)from Bool.false_ne_true)]
 refine wpAny_bind (wpAny_pure (wpAny_bind (wpAny_dictEntries e1 e3 ?_)));rw[if_neg (by simp)]
 refine wpAny_bind (wpAny_pure (wpAny_bind (wpAny_dictEpoch e1 e3 ?_)));rw[if_neg (by simp)]
 refine wpAny_pure ?_;simp only[show¬((i:Int)<0)from by omega,if_false,Int.toNat_natCast,x]
 refine wpAny_bind ?_
 first|refine wpAny_bind (wpAny_typeNameOfWhole_keyiter t.typeIs (wpAny_pure ?_))|refine wpAny_bind (wpAny_typeNameOf_keyiter t.typeIs (wpAny_pure ?_))
 refine wpAny_bind (wpAny_isOneOf_keyiter t.typeIs ?_);show wpAny _ _ (setField (.ref it) 1 (rawInt ((i:Int)+1)) >>= _) _ _ s;refine wpAny_bind (wpAny_setField t1 t3 (by simp) ?_)
 have t':(s.heap.update it (Obj.mapFields (·.setIfInBounds 1 (rawInt ((i:Int)+1))))).IsKeyIter it d (i+1) en.size c:=
  ⟨_,Heap.get?_update_self _ t1 (Obj.isFreed_of_fields (Obj.data_mapFields t3 _)),(Obj.cls_mapFields ..).trans t2,by rw[Obj.data_mapFields t3];simp [rawInt]⟩
 refine wpAny_bind (wpAny_holding (wpAny_bind (wpAny_isOneOf_keyiter (s:={s with heap:=s.heap.update it (Obj.mapFields (·.setIfInBounds 1 (rawInt ((i:Int)+1))))}) t'.typeIs ?_)))
 show wpAny _ _ (pure e.key) _ _ _;exact wpAny_pure (wpAny_pure ⟨_,rfl,wpAny_pure (q _ t' (Heap.SameBut.update ..))⟩)
theorem N9{Q:Option Value->Shared->Prop}(hh:A.handled=none)(t:s.heap.IsKeyIter it d i en.size c)(m:HR s.heap d en c)(x:en.size<=i)
  (q:∀h',Heap.ExtBut it s.heap h'->Q none {s with heap:=h'}):wpAny (model prog w) A (pyNext (.ref it)) Q E s:=by
 obtain⟨o1,t1,t2,t3⟩:=id t;obtain⟨ob,e1,e2,e3⟩:=id m;unfold pyNext;refine wpAny_bind (wpAny_attempt (wpAny_callSpecial?_slot (name:=Str.ofString "__next__") t.typeIs F.slot_dict_keyiterator_next (wpAny_call_entry F.slot_dict_keyiterator_next t.typeIs F.entry_dict_keyiterator_next ?_ (F.args_dict_keyiterator_next_1 _))));refine wpAny_bind (wpAny_pure (wpAny_bind (wpAny_bind ?_)))
 first|refine wpAny_bind (wpAny_typeNameOfWhole_keyiter t.typeIs (wpAny_pure ?_))|refine wpAny_bind (wpAny_typeNameOf_keyiter t.typeIs (wpAny_pure ?_))
 refine wpAny_bind (wpAny_fieldsOf t1 t3 ?_);rw[show Builtin.Dict_items.ownsTuple "dict_keyiterator"=false by decide,if_neg Bool.false_ne_true]
 show wpAny _ _ (if(Value.ref d==Value.none)=true then _ else _) _ _ s
 rw[if_neg (show¬((Value.ref d==Value.none)=true)from Bool.false_ne_true)]
 refine wpAny_bind (wpAny_pure (wpAny_bind (wpAny_dictEntries e1 e3 ?_)));rw[if_neg (by simp)]
 refine wpAny_bind (wpAny_pure (wpAny_bind (wpAny_dictEpoch e1 e3 ?_)));rw[if_neg (by simp)]
 refine wpAny_pure ?_;simp only[show¬((i:Int)<0)from by omega,if_false,Int.toNat_natCast,Array.getElem?_eq_none x]
 refine wpAny_bind ?_
 first|refine wpAny_bind (wpAny_typeNameOfWhole_keyiter t.typeIs (wpAny_pure ?_))|refine wpAny_bind (wpAny_typeNameOf_keyiter t.typeIs (wpAny_pure ?_))
 show wpAny _ _ (setField (.ref it) 0 .none >>= _) _ _ s;refine wpAny_bind (wpAny_setField t1 t3 (by simp) ?_)
 show wpAny _ _ (newExc (.type "StopIteration") [] >>= _) _ _ _;refine wpAny_bind ?_;simp only[newExc,newTuple];refine wpAny_bind (wpAny_newObj_type ?_ (by size_fits))
 refine wpAny_bind (m:=firstArgMember _ _) (wpAny_of_eq (a:=Value.none) (by first|rfl | (simp only[firstArgMember];rfl)) (wpAny_newObj_type ?_ (by size_fits)))
 simp only[raiseNew];refine wpAny_bind (wpAny_handled ?_);rw[show A.in1.handled=none from hh]
 refine wpAny_bind (wpAny_pure (wpAny_throw ?_));refine wpAny_bind (wpAny_isInstance (T:="StopIteration") (b:=true) ⟨_,Heap.get?_push_size _ rfl,rfl⟩ isSubtype_stop ?_);exact wpAny_pure (q _ (((Heap.SameBut.update ..).extBut.push _).push _))
theorem HR.at{h h':Heap}(x:HR h d en c)(e:∀o,h.get? d=some o->h'.get? d=some o):HR h' d en c:=let ⟨o,a,r⟩:=x;⟨o,e _ a,r⟩
theorem Ej(hh:A.handled=none)(I d:Addr)(ne:d≠I)(en:Array DictEntry)(c:Nat):
  Walks prog w A I [I,d] [I] en.size (λi v=>∃e,en[i]?=some e/\v=e.key) (λi h=>h.IsKeyIter I d i en.size c/\HR h d en c) where
 sub:=λb hb=>List.mem_cons.mpr (.inl (List.mem_singleton.mp hb))
 frame:=λ_ _ _ st kp=>⟨st.1.at λo e=>kp I (.head _) o e,st.2.at λo e=>kp d (.tail _ (.head _)) o e⟩
 item:=λi s Q E hi st q=>by
  have x:en[i]?=some en[i]:=Array.getElem?_eq_getElem hi;refine Ja st.1 st.2 x λh' t' sb=>q _ h' s.toks ⟨_,x,rfl⟩ ⟨t',st.2.at λo e=>(sb.2 d ne).trans e⟩ λb o hb e=>(sb.2 b λy=>hb (List.mem_singleton.mpr y)).trans e
 done:=λs Q E st q=>N9 hh st.1 st.2 (Nat.le_refl _) λh' ex=>q h' s.toks λb o hb e=>ex b o (λy=>hb (List.mem_singleton.mpr y)) e
 self:=λ_ _ _ _ st q=>wpAny_pyIter_keyiter st.1 q
theorem Oa(lo:(d==sysModules)=false):PySem.W.KdlSrc prog w "dict" d d en.size (λi v=>∃e,en[i]?=some e/\v=e.key) (λh=>HR h d en c) where
 type:=λ_ m=>m.ty
 there:=λ_ m=>let ⟨_,e,_⟩:=m;⟨Heap.lt_size e,Heap.lt_size e⟩
 keep:=λ_ _ m kp=>m.at λo e=>kp d (.inl rfl) o e
 notList:=by decide
 notTuple:=by decide
 hint:=λ_ _ _ _ m q=>PySem.W.kdl_hint_dict m.ty q
 iter:=λ_ s hh m=>⟨_,_,(λ_ _ q=>IZ lo m q),Ej hh _ d (let ⟨_,e,_⟩:=m;Nat.ne_of_lt (Heap.lt_size e)) en c,⟨⟨_,Heap.get?_push_size _ rfl,rfl,rfl⟩,m.at λo e=>Heap.get?_push_of_some _ e⟩⟩
end
end Vc
namespace Vc
open PySem L2
variable [KF]
variable {G:GE}{k:Nat}{S:Stat}
theorem RS.away{Y:bB}{F:Hp}{aj:Sd}{σ:St}{H:Hp}{i:Nat}{u:Option V}(R:RS Y F aj σ H)(cP:∀p∈Y.io,p.1≠i):RS Y F (aj.set i none) (σ.set i u) H:=by
 have ne:∀ {j:Nat} {b:B},(aj.set i none)[j]?=some (some b)->j≠i:=λe z=>by
  rcases gs e with⟨_,w⟩|⟨w,_⟩
  ·cases w
  ·exact w z
 refine⟨by simpa using R.len,R.lo,R.fr,R.eJ,R.old,λj d e=>?_,λj xs e=>?_,λj l xs ys a e1 e2 e3 e4=>?_,λp hp=>?_,R.ob.put (λ_ hj=>bx hj) (λ_ z=>nomatch z) (λ_ _ z=>nomatch z)⟩
 ·have n:=ne e
  rw[bx n]at e ⊢;exact R.sh j d e
 ·have n:=ne e
  rw[bx n]at e ⊢;exact R.own j xs e
 ·have h1:=ne e1
  have h2:=ne e2;rw[bx h1]at e1 e3;rw[bx h2]at e2 e4;exact R.dis j l xs ys a e1 e2 e3 e4
 ·have n:=cP p hp
  rw[bx n,bx n];exact R.io p hp
end Vc
namespace Vc
open PySem L2
section
variable {prog:Program}{w:World}{A:Around}{E:Value->Shared->Prop}{s:Shared}
open PySem.Spec in
theorem qa{nm:String}{a b:Addr}{oa ob:Obj}{es:Array DictEntry}{ep OM:Nat}{Q:Bool->Shared->Prop}(ha:(a==sysModules)=false)(hb:(b==sysModules)=false)
  (VH:s.heap.get? a=some oa) (VB:oa.data=.dict es ep) (BK:s.heap.get? b=some ob) (iZ:ob.data=.dict #[] OM) (h:Q (decide (es.size=0)) s):
  wpAny (model prog w) A (Builtin.Dict.samePairs nm a b) Q E s:=by
 unfold Builtin.Dict.samePairs Builtin.Dict.showsAll;rw[if_neg (show¬(a==sysModules)=true by rw[ha];exact Bool.false_ne_true),if_neg (show¬(b==sysModules)=true by rw[hb];exact Bool.false_ne_true)]
 refine wpAny_bind (wpAny_pure (wpAny_bind (wpAny_pure ?_)));refine wpAny_bind (wpAny_dictEntries VH VB ?_);dsimp only;refine wpAny_bind (wpAny_dictEntries BK iZ ?_)
 by_cases hsz:es.size=0
 case neg =>
  rw[if_pos (by simpa using hsz)]
  rw[decide_eq_false hsz]at h;exact wpAny_bind (wpAny_rule (wpAny_pure h))
 case pos =>
  rw[if_neg (by simpa using hsz)]
  rw[decide_eq_true hsz]at h;refine wpAny_bind (wpAny_dictEpoch VH VB ?_);rw[Std.Legacy.Range.forIn_eq_forIn_range'];simp only[Std.Legacy.Range.size,Nat.sub_zero,Nat.add_sub_cancel,Nat.div_one,hsz,List.range'_zero,List.forIn_nil];exact wpAny_bind (wpAny_pure (wpAny_pure h))
theorem eqE{K:Type}[DecidableEq K]{knd:PySem.KeyKind prog w K}{a b:Addr}{vs ws:List (K×Value)}{Q:Value->Shared->Prop}(hu:A.units<cLine)(ha:(a==sysModules)=false)(hb:(b==sysModules)=false)
  (da:s.heap.DictOf knd a vs) (db:s.heap.DictOf knd b ws) (hw:ws=[]) (h:Q (.bool (decide (vs=[]))) s):
  wpAny (model prog w) A (compareOp .Eq (.ref a) (.ref b)) Q E s:=by
 subst hw;refine wpAny_richCompare_same_room (op:=.Eq) da.typeIs db.typeIs PySem.F.slot_dict_eq (wpAny_call_entry PySem.F.slot_dict_eq da.typeIs PySem.F.entry_dict_eq ?_ (PySem.F.args_dict_eq_2 _ _)) hu;show wpAny _ _ (Builtin.Dict.dictSlotArgs "__eq__" ⟨[.ref a,.ref b],[]⟩ >>= _) _ _ s;refine wpAny_bind ?_;unfold Builtin.Dict.dictSlotArgs;refine wpAny_bind (wpAny_notOrdered_dict da.typeIs ?_);show wpAny _ _ (pure (Value.ref a,Value.ref b)) _ _ s;refine wpAny_pure ?_;refine wpAny_bind (wpAny_isInstance (T:="dict") db.typeIs PySem.F.sub_dict_dict ?_);simp only[Bool.not_true,Bool.false_eq_true,if_false];refine wpAny_bind (wpAny_pure (wpAny_bind (wpAny_pure ?_)));obtain⟨oa,es,ep,VH,_,VB,_,hp,_⟩:=da;obtain⟨ob,OO,OM,BK,_,iZ,_,Fv,_⟩:=db;have e':OO=#[]:=by
  have:=Fv.length;exact Array.eq_empty_of_size_eq_zero (by simpa using this)
 subst e';have el:es.size=vs.length:=by simpa using hp.length
 refine wpAny_bind (qa ha hb VH VB BK iZ ?_);refine wpAny_pure ⟨_,rfl,?_,?_⟩
 ·exactλx=>nomatch x
 ·rw[show decide (es.size=0)=decide (vs=[])from by rw[el];cases vs<;>simp]
  simpa using h
theorem neE{K:Type}[DecidableEq K]{knd:PySem.KeyKind prog w K}{a b:Addr}{vs ws:List (K×Value)}{Q:Value->Shared->Prop}(hu:A.units<cLine)(ha:(a==sysModules)=false)(hb:(b==sysModules)=false)
  (da:s.heap.DictOf knd a vs) (db:s.heap.DictOf knd b ws) (hw:ws=[]) (h:Q (.bool (!decide (vs=[]))) s):
  wpAny (model prog w) A (compareOp .NotEq (.ref a) (.ref b)) Q E s:=by
 subst hw;refine wpAny_richCompare_same_room (op:=.NotEq) da.typeIs db.typeIs PySem.F.slot_dict_ne (wpAny_call_entry PySem.F.slot_dict_ne da.typeIs PySem.F.entry_dict_ne ?_ (PySem.F.args_dict_ne_2 _ _)) hu;show wpAny _ _ (Builtin.Dict.dictSlotArgs "__ne__" ⟨[.ref a,.ref b],[]⟩ >>= _) _ _ s;refine wpAny_bind ?_;unfold Builtin.Dict.dictSlotArgs;refine wpAny_bind (wpAny_notOrdered_dict da.typeIs ?_);show wpAny _ _ (pure (Value.ref a,Value.ref b)) _ _ s;refine wpAny_pure ?_;refine wpAny_bind (wpAny_isInstance (T:="dict") db.typeIs PySem.F.sub_dict_dict ?_);simp only[Bool.not_true,Bool.false_eq_true,if_false];refine wpAny_bind (wpAny_pure (wpAny_bind (wpAny_pure ?_)));obtain⟨oa,es,ep,VH,_,VB,_,hp,_⟩:=da;obtain⟨ob,OO,OM,BK,_,iZ,_,Fv,_⟩:=db;have e':OO=#[]:=by
  have:=Fv.length;exact Array.eq_empty_of_size_eq_zero (by simpa using this)
 subst e';have el:es.size=vs.length:=by simpa using hp.length
 refine wpAny_bind (qa ha hb VH VB BK iZ ?_);refine wpAny_pure ⟨_,rfl,?_,?_⟩
 ·exactλx=>nomatch x
 ·rw[show decide (es.size=0)=decide (vs=[])from by rw[el];cases vs<;>simp]
  simpa using h
end
variable [KF]
def dI(kvs:List (Int×D))(i:Int):Option D:=(kvs.find? λp=>decide (p.1=i)).map (·.2)
def yp(kvs:List (Int×D))(i:Int)(d:D):List (Int×D):=if(kvs.any λp=>decide (p.1=i))=true then kvs.map (λp=>if p.1=i then(p.1,d)else p)else kvs++[(i,d)]
def fN(kvs:List (Int×D))(i:Int):List (Int×D):=kvs.filter λp=>decide (p.1≠i)
theorem b9.length{F:Hp}:∀ {ks:List (Key×V)} {kvs:List (Int×D)},b9 F ks kvs->ks.length=kvs.length
 | _,_,.nil=>rfl
 | _,_,.cons _ r=>by simp [b9.length r]
theorem yr(i j:Int):((Sum.inl i:Key)=Sum.inl j)=(i=j):=by simp
theorem b9.val{F:Hp}(j:Int):∀ {ks:List (Key×V)} {kvs:List (Int×D)},b9 F ks kvs->(jq ks (.inl j)=none/\dI kvs j=none)\/∃v d,jq ks (.inl j)=some v/\dI kvs j=some d/\Rep F v d
 | _,_,.nil=>.inl ⟨rfl,rfl⟩
 | _,_,.cons (i:=i) (v:=v) (d:=d) (ks:=ks) (kvs:=kvs) h r=>by
  by_cases e:i=j
  ·subst e
   exact .inr ⟨v,d,mx rfl,by unfold dI;rw[List.find?_cons_of_pos (by simp)];rfl,h⟩
  ·have e1:jq ((Sum.inl i,v)::ks) (Sum.inl j)=jq ks (Sum.inl j):=mw (by show¬(Sum.inl i:Key)=Sum.inl j;rw[yr];exact e)
   have e2:dI ((i,d)::kvs) j=dI kvs j:=by unfold dI;rw[List.find?_cons_of_neg (by simpa using e)]
   rw[e1,e2];exact b9.val j r
theorem b9.append{F:Hp}:∀ {ks js:List (Key×V)} {kvs lvs:List (Int×D)},b9 F ks kvs->b9 F js lvs->b9 F (ks++js) (kvs++lvs)
 | _,_,_,_,.nil,s=>s
 | _,_,_,_,.cons h r,s=>.cons h (b9.append r s)
theorem b9.any{F:Hp}(j:Int):∀ {ks:List (Key×V)} {kvs:List (Int×D)},b9 F ks kvs->(ks.any λkv=>decide (kv.1=Sum.inl j))=(kvs.any λp=>decide (p.1=j))
 | _,_,.nil=>rfl
 | _,_,.cons (i:=i) _ r=>by
  rw[List.any_cons,List.any_cons,b9.any j r];congr 1;simp
theorem b9.repl{F:Hp}{v:V}{d:D}(j:Int)(hv:Rep F v d):∀ {ks:List (Key×V)} {kvs:List (Int×D)},b9 F ks kvs->b9 F (ks.map λkv=>if kv.1=Sum.inl j then(kv.1,v)else kv) (kvs.map λp=>if p.1=j then(p.1,d)else p)
 | _,_,.nil=>.nil
 | _,_,.cons (i:=i) h r=>by
  rw[List.map_cons,List.map_cons]
  by_cases e:i=j
  ·rw[if_pos (show(Sum.inl i:Key)=Sum.inl j by rw[e]),if_pos (show i=j from e)]
   exact .cons hv (b9.repl j hv r)
  ·rw[if_neg (show¬(Sum.inl i:Key)=Sum.inl j by rw[yr];exact e),if_neg (show¬i=j from e)]
   exact .cons h (b9.repl j hv r)
theorem b9.put{F:Hp}{ks:List (Key×V)}{kvs:List (Int×D)}{v:V}{d:D}(j:Int)(r:b9 F ks kvs)(hv:Rep F v d):b9 F (putK ks (.inl j) v) (yp kvs j d):=by
 unfold putK yp;rw[r.any j]
 split
 ·exact r.repl j hv
 ·exact r.append (.cons hv .nil)
theorem b9.drop{F:Hp}(j:Int):∀ {ks:List (Key×V)} {kvs:List (Int×D)},b9 F ks kvs->b9 F (nF ks (.inl j)) (fN kvs j)
 | _,_,.nil=>.nil
 | _,_,.cons (i:=i) h r=>by
  unfold nF fN;rw[List.filter_cons,List.filter_cons];have ih:=b9.drop j r;unfold nF fN at ih
  by_cases e:i=j
  ·subst e
   simpa using ih
  ·simp only[ne_eq,yr,e,not_false_eq_true,decide_true,if_true]
   exact .cons h (by simpa using ih)
def Aa(a:Addr)(kvs:List (Int×D)):O where
 fp:=λb=>[b]
 rep:=λF H b=>b=a/\∃ks,H b=some (.dK ks)/\b9 F ks kvs
 self:=λa=>List.mem_singleton.mpr rfl
 solid:=λ{F H a b φ} ⟨_,ks,h,_⟩ hb z=>by
  rw[List.mem_singleton.mp hb,h]at z;cases z
 nt:=λ{F H a b vs} ⟨_,ks,h,_⟩ hb z=>by
  rw[List.mem_singleton.mp hb,h]at z;cases z
 mono:=λ{F F' H H' a} s e ⟨e0,ks,h,r⟩=>⟨e0,ks,by rw[e a (List.mem_singleton.mpr rfl)];exact h,r.mono s⟩
 view:=some (.jt kvs)
 sees:=λ{F H a d} ⟨_,ks,h,r⟩ e=>by cases e;exact⟨a,ks,rfl,h,r⟩
 lend:=λ{F H a d} s ⟨_,ks,h,r⟩ e=>by
  cases e;obtain⟨F',s1,s2,e1,e2⟩:=gW s h;refine⟨F',s1,s2,.jt e1 (r.mono s1),λc u z=>?_⟩;rcases e2 c u z with z|⟨rfl,rfl⟩
  ·exact .inl z
  ·exact .inr ⟨rfl,List.mem_singleton.mpr rfl⟩
 loc:=some a
 JK:=λ{F H a b} ⟨e,_⟩ q=>by cases q;exact e
variable {G:GE}{k:Nat}{S:Stat}
def jU(i:Nat):TV:=λσ Q=>match σ[i]? with
 | some (some (.sh d))=>Q (.val d) σ
 | some (some _)=>Q (.var i) σ
 | _=>False
theorem ki(i:Nat){x:Str}{pos:Pos}(hN:S.N[i]?=some x:=by rfl)(hv:S.sc.lookup x=some .local\/S.sc.lookup x=some .cell\/S.sc.lookup x=some .free:=by first|exact Or.inl rfl|exact Or.inr (Or.inl rfl)|exact Or.inr (Or.inr rfl))
  (hd:(x==("__debug__":Str))=false:=by decide) (iu:(x==("__classdict__":Str))=false:=by decide):EO G k S (.Name x pos) (jU i):=.mk λX Y ok =>
 aV (kh (X:=X) (i:=i) (by rw[ok.N];exact hN) (by unfold Iw;rw[ok.sc];exact hv) hd iu) λσ H Q q=>by
  obtain⟨F,aj,Qd,R,q,K⟩:=q;unfold jU at q
  split at q
  ·rename_i d e
   obtain⟨v,e2,r2⟩:=R.sh i d e;exact⟨v,e2,K v H F (.val d) aj (au.refl _) R r2 q⟩
  ·rename_i b hb e
   cases b with
   | sh d=>exact absurd rfl (hb d)
   | own xs =>
    obtain⟨a,vs,e2,_⟩:=R.own i xs e;exact⟨_,e2,K _ H F (.var i) aj (au.refl _) R e2 q⟩
   | obj o =>
    obtain⟨a,e2,_⟩:=R.ob.obj i o e;exact⟨_,e2,K _ H F (.var i) aj (au.refl _) R e2 q⟩
  ·exact q.elim
def UQ:TX:=λσ Q=>∀p,Q (.obj (Aa p [])) σ
theorem Kq{pos:Pos}:EX G k S (.Dict [] [] pos) UQ:=.mk λX Y ok=>aV kT λσ H Q q=>by
 obtain⟨F,aj,Qd,R,q,K⟩:=q;intro p hp;refine K _ _ F (.obj (Aa p [])) aj (au.refl _) (R.jW hp) ⟨p,rfl,⟨rfl,[],aA,.nil⟩,λb hb=>?_⟩ (q p);rw[List.mem_singleton.mp hb];exact⟨same_none R.fr hp,(by rw[aA];exactλz=>nomatch z),(R.bg hp).1,R.cg hp⟩
def Cr(ta tb:TV):TV:=λσ Q=>ta σ λx aw=>tb aw λy aO=>match dc aO x,dc aO y with
 | some (.jt kvs),some (.int i)=>∃d,dI kvs i=some d/\Q (.val d) aO
 | _,_=>False
theorem A1{a b:Expr}{ta tb:TV}{pos:Pos}(ha:EO G k S a ta)(hb:EO G k S b tb)(hs:MM b:=by intro _ _;rfl):EO G k S (.Subscript a b pos) (Cr ta tb):=.mk λX Y ok =>
 aV (Kb (by have:=ok.units;omega) (ha X Y ok) (hb X Y ok) hs) λσ H Q q=>by
  obtain⟨F,aj,Qd,R,q,K⟩:=q;refine⟨F,aj,_,R,q,λv1 H1 F1 x aw s1 R1 r1 q1=>?_⟩;refine⟨F1,aw,_,R1,q1,λv2 H2 F2 y aO s2 R2 r2 q2=>?_⟩
  split at q2
  ·rename_i kvs i ea eb
   obtain⟨a,ks,rfl,h,r⟩:=R2.dc (r1.mono s2) ea;obtain rfl:=(R2.dc r2 eb).int;obtain⟨d,hd,q2⟩:=q2;rcases r.val i with⟨_,e2⟩|⟨v,d',e1,e2,rd⟩
   ·rw[e2]at hd;cases hd
   ·rw[e2]at hd;cases hd
    refine⟨a,v,rfl,?_,K v H2 F2 (.val d) aO (s1.trans s2) R2 rd q2⟩;rw[<- e1];exact sy.k (k:=.inl i) h
  ·exact q2.elim
def inI:D->D->(Bool->Prop)->Prop
 | .int i,.jt kvs,Q=>Q (dI kvs i).isSome
 | _,_,_=>False
def FR(x y:D)(Q:Bool->Prop):Prop:=inI x y λb=>Q !b
theorem Jw{F H:Hp}{v u:V}{i:Int}{kvs:List (Int×D)}(rv:b7 F H v (.int i))(ru:b7 F H u (.jt kvs)):∃a o,u=.ref a/\sy H a v o/\o.isSome=(dI kvs i).isSome:=by
 obtain rfl:=rv.int;obtain⟨a,ks,rfl,h,r⟩:=ru;refine⟨a,_,rfl,.k (k:=.inl i) h,?_⟩;rcases r.val i with⟨e1,e2⟩|⟨v,d,e1,e2,_⟩
 ·rw[e1,e2];rfl
 ·rw[e1,e2];rfl
theorem Du:oV G k S .NotIn FR:=⟨Gx true,λX Y ok=>B5 (by have:=ok.units;omega),λY F H aj σ v u x y Qd Q R rx ry q K=>by
 unfold FR inI at q
 split at q
 ·obtain⟨a,o,rfl,g,e⟩:=Jw rx ry
  exact⟨a,o,rfl,g,K _ (by rw[if_pos rfl,e];exact q)⟩
 ·exact q.elim⟩
def FJ:List D->(EV->Prop)->Prop
 | [.jt kvs],Q=>Q (.val (.int kvs.length))
 | _,_=>False
theorem Et:CK G k S (.builtin "len") FJ:=⟨λ_ xs H Q=>∃a ks,xs=[.ref a]/\H a=some (.dK ks)/\Q (.int ks.length) H,λX Y ok=>by
  intro pins s σ H xs us Q I r h;obtain⟨a,ks,rfl,e,q⟩:=h;obtain⟨u,rfl,ru⟩:=vals1 r;cases ru;exact WR I (.inl e) λt s' I'=>⟨.int _,H,I',⟨_,rfl⟩,q⟩,λY F H aj σ vs ds Qd Q R r q g=>by
 unfold FJ at q
 split at q
 ·obtain⟨v,rfl,rv⟩:=r.one
  obtain⟨a,ks,rfl,h,rr⟩:=rv;refine⟨a,ks,rfl,h,?_⟩;rw[rr.length];exact g.val R (.int _) q
 ·exact q.elim⟩
def Tx(neg:Bool):R2:=λx y H Q=>∃a b ks,x=.ref a/\y=.ref b/\H a=some (.dK ks)/\H b=some (.dK [])/\Q (.bl (if neg then !decide (ks=[])else decide (ks=[]))) H
theorem FG{vs:List (Key×Value)}(r:KV ([]:List (Key×V)) vs):vs=[]:=by
 have:=r.length;cases vs with
 | nil=>rfl
 | cons _ _=>simp at this
theorem FE{ks:List (Key×V)}{vs:List (Key×Value)}(r:KV ks vs):decide (vs=[])=decide (ks=[]):=by
 have:=r.length;cases vs<;>cases ks<;>simp_all
theorem Sg{X:Cx}(hu:X.A.units<cLine):iH X (compareOp .Eq) (Tx false):=by
 intro pins s σ H x y v u Q I rx ry h;obtain⟨a,b,ks,rfl,rfl,ea,eb,q⟩:=h;cases rx;cases ry;obtain⟨_,ha,xs,ra,da⟩:=o8 I.bc ea;obtain⟨_,hb,ys,rb,db⟩:=o8 I.bc eb;refine eqE hu ha hb da db (FG rb) ?_;rw[FE ra];exact⟨.bl _,H,I,rfl,q⟩
theorem Sn{X:Cx}(hu:X.A.units<cLine):iH X (compareOp .NotEq) (Tx true):=by
 intro pins s σ H x y v u Q I rx ry h;obtain⟨a,b,ks,rfl,rfl,ea,eb,q⟩:=h;cases rx;cases ry;obtain⟨_,ha,xs,ra,da⟩:=o8 I.bc ea;obtain⟨_,hb,ys,rb,db⟩:=o8 I.bc eb;refine neE hu ha hb da db (FG rb) ?_;rw[FE ra];exact⟨.bl _,H,I,rfl,q⟩
def Cq(neg:Bool)(t:TV):TB:=λσ Q=>t σ λx aw=>match dc aw x with
 | some (.jt kvs)=>Q (if neg then !decide (kvs=[])else decide (kvs=[])) aw
 | _=>False
theorem GD{F:Hp}{ks:List (Key×V)}{kvs:List (Int×D)}(r:b9 F ks kvs):decide (ks=[])=decide (kvs=[]):=by
 cases r<;>simp
theorem rB{Y:bB}{neg:Bool}{ta:TV}{σ:St}{H:Hp}{Q:VK}{F:Hp}{aj:Sd}{Qd:Bool->Sd->Prop}(R:RS Y F aj σ H)(q:Cq neg ta aj Qd)(K:∀b H' F' aG,au F F'->RS Y F' aG σ H'->Qd b aG->Q (.bl b) H'):UZ (Tx neg) (lO Y ta) G7 σ H Q:=by
 refine⟨F,aj,_,R,q,λv1 H1 F1 x aw s1 R1 r1 q1=>?_⟩;intro p hp
 split at q1
 ·rename_i kvs ea
  obtain⟨a,ks,rfl,h,r⟩:=R1.dc r1 ea;refine⟨a,p,ks,rfl,rfl,by rw[aq (bq h hp)];exact h,aA,?_⟩
  rw[GD r];exact K _ _ F1 aw s1 (R1.jW hp) q1
 ·exact q1.elim
theorem TK{a:Expr}{ta:TV}{p pos:Pos}(ha:EO G k S a ta)(hm:behindInMarks .Eq (.Dict [] [] p)=false:=by first|exact tT _|with_unfolding_all rfl):EB G k S (.Compare a [.Eq] [.Dict [] [] p] pos) (Cq false ta):=.mk λX Y ok=>by
 refine yK (ud (Sg (by have:=ok.units;omega)) (ha X Y ok) kT hm) λσ H Q q=>?_
 obtain⟨F,aj,Qd,R,q,K⟩:=q;exact rB R q λb H' F' aG s R' qq=>⟨b,rfl,K b H' F' aG s R' qq⟩
theorem TL{a:Expr}{ta:TV}{p pos:Pos}(ha:EO G k S a ta)(hm:behindInMarks .NotEq (.Dict [] [] p)=false:=by first|exact tT _|with_unfolding_all rfl):EB G k S (.Compare a [.NotEq] [.Dict [] [] p] pos) (Cq true ta):=.mk λX Y ok=>by
 refine yK (ud (Sn (by have:=ok.units;omega)) (ha X Y ok) kT hm) λσ H Q q=>?_
 obtain⟨F,aj,Qd,R,q,K⟩:=q;exact rB R q λb H' F' aG s R' qq=>⟨b,rfl,K b H' F' aG s R' qq⟩
def KL(i:Nat)(tk:TV)(tv:TD):bK:=λDe σ=>tv σ λd aw=>(∃a kvs,aw[i]?=some (some (.obj (Aa a kvs))))/\tk aw λy aO=>match dc aO y with
 | some (.int j)=>∃a kvs,aO[i]?=some (some (.obj (Aa a kvs)))/\kvs.length<sizeLine/\De.nx (aO.set i (some (.obj (Aa a (yp kvs j d)))))
 | _=>False
theorem Ky(i:Nat){x:Str}{ke ve:Expr}{tk:TV}{tv:TD}{np pos' pos:Pos}(hv:ED G k S ve tv)(hk:EO G k S ke tk)(ho:EO G k S (.Name x np) (KQ i))(hs:∀line env,swapsWith ve (some (.Subscript (.Name x np) ke pos')) line env=pure false:=by intro _ _;rfl):
  ES G k S (.Assign [.Subscript (.Name x np) ke pos'] ve pos) (KL i tk tv):=.mk λX Y ok =>
 cG (AX (by have:=ok.units;omega) (ho X Y ok) (hk X Y ok) (hv X Y ok) (hs _ _)) λDn σ H q=>by
  obtain⟨F,aj,De,R,q,K⟩:=q;refine⟨F,aj,_,R,q,λv H1 F1 d aw s1 R1 r1 q1=>?_⟩;obtain⟨⟨a0,JI,e0⟩,q1⟩:=q1;refine⟨F1,aw,λx nz=>x=.var i/\nz=aw,R1,⟨⟨_,e0⟩,rfl,rfl⟩,λv2 H2 F2 y aO s2 R2 r2 q2=>?_⟩;obtain⟨rfl,rfl⟩:=q2;have r2:σ[i]?=some (some v2):=r2;refine⟨F2,aO,_,R2,q1,λv3 H3 F3 kd fe s3 R3 r3 q3=>?_⟩
  split at q3
  ·rename_i j ej
   obtain rfl:=(R3.dc r3 ej).int;obtain⟨a,kvs,e,hl,q3⟩:=q3;obtain⟨b,w1,⟨rfl,us,w2,w3⟩,w4⟩:=R3.ob.obj i _ e;rw[r2]at w1;cases w1;refine⟨b,_,rfl,.k (k:=.inl j) w2 (by rw[w3.length];exact hl),K.nx σ _ F3 _ ((s1.trans s2).trans s3) (R3.ja (o':=Aa b (yp kvs j d)) e r2 (List.mem_singleton.mpr rfl) (λ_ z=>z) ⟨rfl,_,aA,w3.put j (r1.mono (s2.trans s3))⟩) q3⟩
  ·exact q3.elim
def U0(i:Nat)(tk:TV):bK:=λDe σ=>(∃a kvs,σ[i]?=some (some (.obj (Aa a kvs))))/\tk σ λy aO=>match dc aO y with
 | some (.int j)=>∃a kvs,aO[i]?=some (some (.obj (Aa a kvs)))/\(dI kvs j).isSome=true/\De.nx (aO.set i (some (.obj (Aa a (fN kvs j)))))
 | _=>False
theorem Kx(i:Nat){x:Str}{ke:Expr}{tk:TV}{np ap cp pos:Pos}(hk:EO G k S ke tk)(ho:EO G k S (.Name x np) (KQ i))(m:∀X:Cx,M1 X (.Name x np) "pop" ap ke cp:=by intro X;exact⟨rfl,rfl,rfl,rfl⟩):
  ES G k S (.Expr (.Call (.Attribute (.Name x np) "pop" ap) [ke] [] cp) pos) (U0 i tk):=.mk λX Y ok =>
 cG (tZ (xg (ho X Y ok) (hk X Y ok) (m X)) rfl) λDn σ H q=>by
  obtain⟨F,aj,De,R,⟨⟨a0,JI,e0⟩,q⟩,K⟩:=q;refine⟨F,aj,λx nz=>x=.var i/\nz=aj,R,⟨⟨_,e0⟩,rfl,rfl⟩,λv2 H2 F2 y aO s2 R2 r2 q2=>?_⟩;obtain⟨rfl,rfl⟩:=q2;have r2:σ[i]?=some (some v2):=r2;obtain⟨b0,w1,⟨rfl,VU,w2,w3⟩,w4⟩:=R2.ob.obj i _ e0;rw[r2]at w1;cases w1;refine⟨b0,rfl,.inl ⟨_,.inl w2⟩,F2,aO,_,R2,q,λv3 H3 F3 kd fe s3 R3 r3 q3=>?_⟩
  split at q3
  ·rename_i j ej
   obtain rfl:=(R3.dc r3 ej).int;obtain⟨a,kvs,e,hl,q3⟩:=q3;obtain⟨b,w1,⟨rfl,us,y2,y3⟩,y4⟩:=R3.ob.obj i _ e;rw[r2]at w1;cases w1;rcases y3.val j with⟨_,e2⟩|⟨v,d',e1,e2,rd⟩
   ·rw[e2]at hl;cases hl
   ·exact⟨us,.inl j,v,y2,rfl,e1,K.nx σ _ F3 _ (s2.trans s3) (R3.ja (o':=Aa b0 (fN kvs j)) e r2 (List.mem_singleton.mpr rfl) (λ_ z=>z) ⟨rfl,_,aA,y3.drop j⟩) q3⟩
  ·exact q3.elim
end Vc
namespace Vs
open PySem PySem.Calls PyProof.Rows PyProof.V PySem.Spec
def iOf:Value->Int
 | .int i _=>i
 | _=>0
end Vs
namespace Vc
open PySem L2
variable [KF]
theorem pS{prog:Program}{w:World}:∀ {es:List DictEntry} {vs:List (Key×Value)} {ns:List Int},PySem.Pairs (cF prog w) es vs->vs.map (·.1)=ns.map Sum.inl->PyProof.Rows.IntsAre (es.map (·.key)) ns
 | _,_,[],.nil,_=>.nil
 | _,_,_::_,.nil,e=>by cases e
 | _,_,[],.cons _ _ _,e=>by cases e
 | _,_,n::ns,.cons (e:=e) (kv:=kv) h1 h2 r,q=>by
  rw[List.map_cons,List.map_cons]at q;obtain⟨q1,q2⟩:=List.cons.inj q;rw[q1]at h1;rcases bU (show pG (Sum.inl n) e.key=true from h1)with⟨i,t,a1,a2⟩|⟨x,t,a1,_⟩
  ·cases a1
   rw[List.map_cons,a2];exact .cons _ t (pS r q2)
  ·cases a1
theorem pD:∀ {vs:List Value} {ns:List Int},PyProof.Rows.IntsAre vs ns->vs.map Vs.iOf=ns
 | _,_,.nil=>rfl
 | _,_,.cons n t h=>by rw[List.map_cons,pD h];rfl
theorem nH:∀ {vs:List Value} {ns:List Int},PyProof.Rows.IntsAre vs ns->∀v∈vs,∃i t,v=Value.int i t
 | _,_,.nil,v,hv=>by cases hv
 | _,_,.cons n t h,v,hv=>by
  rcases List.mem_cons.mp hv with rfl|hv
  ·exact⟨n,t,rfl⟩
  ·exact nH h v hv
theorem gP:∀ {vs:List Value},(∀v∈vs,∃i t,v=Value.int i t)->Vals ((vs.map Vs.iOf).map V.int) vs
 | [],_=>.nil
 | v::vs,h=>by
  obtain⟨i,t,rfl⟩:=h v (.head _);exact .cons ⟨t,rfl⟩ (gP λx hx=>h x (.tail _ hx))
variable {G:GE}{k:Nat}{S:Stat}
def xB(ns:List Int):List Int:=ns.mergeSort λx y=>decide (x<=y)
theorem yW(ns:List Int):(xB ns).Perm ns:=List.mergeSort_perm _ _
theorem uA(ns:List Int):(xB ns).Pairwise λx y=>x<=y:=by
 have:=List.pairwise_mergeSort (le:=λx y:Int=>decide (x<=y)) (λa b c h1 h2=>by simp only[decide_eq_true_eq]at *;omega) (λa b=>by simp only[Bool.or_eq_true,decide_eq_true_eq];omega) ns
 exact this.imp λh=>of_decide_eq_true h
theorem xC{ns ms:List Int}(h:ms.Perm ns)(hs:ms.Pairwise λx y=>x<=y):ms=xB ns:=
 (h.trans (yW ns).symm).eq_of_pairwise (le:=λx y:Int=>x<=y) (λa b _ _ h1 h2=>Int.le_antisymm h1 h2) hs (uA ns)
theorem sg{F:Hp}:∀ {ks:List (Key×V)} {kvs:List (Int×D)},b9 F ks kvs->ks.map (·.1)=(kvs.map (·.1)).map Sum.inl
 | _,_,.nil=>rfl
 | _,_,.cons _ r=>by rw[List.map_cons,List.map_cons,List.map_cons,sg r]
theorem sj{F:Hp}:∀ms:List Int,aE F (ms.map V.int) (ms.map D.int)
 | []=>.nil
 | i::ms=>.cons (.int i) (sj ms)
end Vc
namespace Vc
open PySem L2
variable [KF]
structure jK(F H:Hp)(vs:List V)(bs:List B):Prop where
 len:vs.length=bs.length
 sh:∀(i:Nat) (d:D),bs[i]?=some (.sh d)->∃v,vs[i]?=some v/\Rep F v d
 own:∀(i:Nat) (xs:List D),bs[i]?=some (.own xs)->∃a us,vs[i]?=some (.ref a)/\H a=some (.lst us)/\aE F us xs/\F a=none
 obj:∀(i:Nat) (o:O),bs[i]?=some (.obj o)->∃a,vs[i]?=some (.ref a)/\o.rep F H a/\∀c∈o.fp a,F c=none/\H c≠none
 dis:∀(i j:Nat) (xs ys:List D) (a:Addr),bs[i]?=some (.own xs)->bs[j]?=some (.own ys)->vs[i]?=some (.ref a)->vs[j]?=some (.ref a)->i=j
 oE:∀(i j:Nat) (o p:O) (a b:Addr),bs[i]?=some (.obj o)->bs[j]?=some (.obj p)->vs[i]?=some (.ref a)->vs[j]?=some (.ref b)->i≠j->∀c∈o.fp a,c∉p.fp b
 gj:∀(i j:Nat) (xs:List D) (o:O) (a b:Addr),bs[j]?=some (.own xs)->vs[j]?=some (.ref b)->bs[i]?=some (.obj o)->vs[i]?=some (.ref a)->b∉o.fp a
def jE(vs:List V)(bs:List B)(c:Addr):Prop:=(∃(i:Nat) (xs:List D),bs[i]?=some (.own xs)/\vs[i]?=some (.ref c))\/∃(i:Nat) (o:O) (a:Addr),bs[i]?=some (.obj o)/\vs[i]?=some (.ref a)/\c∈o.fp a
inductive d4:List B->List B->Prop where
 | nil:d4 [] []
 | sh (d:D) {bs cs:List B}:d4 bs cs->d4 (.sh d::bs) (.sh d::cs)
 | own (xs ys:List D) {bs cs:List B}:d4 bs cs->d4 (.own xs::bs) (.own ys::cs)
 | obj {o p:O} {bs cs:List B}:p.fp=o.fp->p.loc=o.loc->o.loc≠none->d4 bs cs->d4 (.obj o::bs) (.obj p::cs)
theorem d4.len{bs cs:List B}(h:d4 bs cs):bs.length=cs.length:=by
 induction h<;>simp_all
theorem d4.shr{bs cs:List B}(h:d4 bs cs):∀ {i:Nat} {d:D},cs[i]?=some (.sh d)->bs[i]?=some (.sh d):=by
 induction h with
 | nil=>intro i d e;simp at e
 | sh d _ ih=>intro i e q;cases i with
  | zero=>simpa using q
  | succ i=>simp at q ⊢;exact ih q
 | own xs ys _ ih=>intro i e q;cases i with
  | zero=>simp at q
  | succ i=>simp at q ⊢;exact ih q
 | obj _ _ _ _ ih=>intro i e q;cases i with
  | zero=>simp at q
  | succ i=>simp at q ⊢;exact ih q
theorem d4.B6{bs cs:List B}(h:d4 bs cs):∀ {i:Nat} {ys:List D},cs[i]?=some (.own ys)->∃xs,bs[i]?=some (.own xs):=by
 induction h with
 | nil=>intro i d e;simp at e
 | sh d _ ih=>intro i e q;cases i with
  | zero=>simp at q
  | succ i=>simp at q ⊢;exact ih q
 | own xs ys _ ih=>intro i e q;cases i with
  | zero=>exact⟨xs,by simp⟩
  | succ i=>simp at q ⊢;exact ih q
 | obj _ _ _ _ ih=>intro i e q;cases i with
  | zero=>simp at q
  | succ i=>simp at q ⊢;exact ih q
theorem d4.Zo{bs cs:List B}(h:d4 bs cs):∀ {i:Nat} {xs:List D},bs[i]?=some (.own xs)->∃ys,cs[i]?=some (.own ys):=by
 induction h with
 | nil=>intro i d e;simp at e
 | sh d _ ih=>intro i e q;cases i with
  | zero=>simp at q
  | succ i=>simp at q ⊢;exact ih q
 | own xs ys _ ih=>intro i e q;cases i with
  | zero=>exact⟨ys,by simp⟩
  | succ i=>simp at q ⊢;exact ih q
 | obj _ _ _ _ ih=>intro i e q;cases i with
  | zero=>simp at q
  | succ i=>simp at q ⊢;exact ih q
theorem d4.B2{bs cs:List B}(h:d4 bs cs):∀ {i:Nat} {p:O},cs[i]?=some (.obj p)->∃o,bs[i]?=some (.obj o)/\p.fp=o.fp/\p.loc=o.loc/\o.loc≠none:=by
 induction h with
 | nil=>intro i d e;simp at e
 | sh d _ ih=>intro i e q;cases i with
  | zero=>simp at q
  | succ i=>simp at q ⊢;exact ih q
 | own xs ys _ ih=>intro i e q;cases i with
  | zero=>simp at q
  | succ i=>simp at q ⊢;exact ih q
 | @obj o p _ _ h1 h2 h3 _ ih=>intro i e q;cases i with
  | zero=>simp at q;subst q;exact⟨o,by simp,h1,h2,h3⟩
  | succ i=>simp at q ⊢;exact ih q
theorem d4.abN{bs cs:List B}(h:d4 bs cs):∀ {i:Nat} {o:O},bs[i]?=some (.obj o)->∃p,cs[i]?=some (.obj p)/\p.fp=o.fp/\p.loc=o.loc/\o.loc≠none:=by
 induction h with
 | nil=>intro i d e;simp at e
 | sh d _ ih=>intro i e q;cases i with
  | zero=>simp at q
  | succ i=>simp at q ⊢;exact ih q
 | own xs ys _ ih=>intro i e q;cases i with
  | zero=>simp at q
  | succ i=>simp at q ⊢;exact ih q
 | @obj o p _ _ h1 h2 h3 _ ih=>intro i e q;cases i with
  | zero=>simp at q;subst q;exact⟨p,by simp,h1,h2,h3⟩
  | succ i=>simp at q ⊢;exact ih q
abbrev jN:=List B->(B->List B->Prop)->Prop
def dM(sp:jN):Sp:=λvs H Q _=>∃F bs Qd,jO F H/\jK F H vs bs/\sp bs Qd /\
 ∀v H' F' b eL,au F F'->au F' H'->(∀c o,¬jE vs bs c->H c=some o->H' c=some o)->(∀c,jE vs bs c->H' c≠none)->jK F' H' vs eL->d4 bs eL->(∀c o,F' c=some o->F c=some o\/Nw H c o)->Bi H F' H' v b->Qd b eL->Q v H'
variable {G:GE}{k:Nat}{S:Stat}
def sC(G:GE)(k:Nat)(x:Str)(sp:jN):Prop:=∃f fd ps,bW G.P G.w G.K G.mg G.base iL k f fd ps (dM sp)/\G.mg x=some (.ref f)/\PySem.W.keepIn G.K (.ref f)=true/\Binds G.K fd ps []
theorem sC.mono{x:Str}{sp:jN}{j:Nat}(h:sC G j x sp)(l:j<=k):sC G k x sp:=by
 obtain⟨f,fd,ps,h1,h2,h3,h4⟩:=h;exact⟨f,fd,ps,h1.mono l,h2,h3,h4⟩
def d6(sp:bA):jN:=λbs Q=>∃ds:List D,bs=ds.map .sh/\sp ds λb=>Q b bs
theorem mX{bs:List B}(h:∀(i:Nat) (o:O),bs[i]?=some (.obj o)->o.loc≠none):d4 bs bs:=by
 induction bs with
 | nil=>exact .nil
 | cons b bs ih =>
  have ih:=ih λi o e=>h (i+1) o (by simpa using e)
  cases b with
  | sh d=>exact .sh d ih
  | own xs=>exact .own xs xs ih
  | obj o=>exact .obj rfl rfl (h 0 o (by simp)) ih
theorem dh{ds:List D}{i:Nat}{b:B}(h:(ds.map B.sh)[i]?=some b):∃d,b=.sh d/\ds[i]?=some d:=by
 rw[List.getElem?_map]at h;obtain⟨d,h1,h2⟩:=Option.map_eq_some_iff.mp h;exact⟨d,h2.symm,h1⟩
theorem xo{F:Hp}:∀(vs:List V) (ds:List D),vs.length=ds.length->(∀(i:Nat) (d:D),ds[i]?=some d->∃v,vs[i]?=some v/\Rep F v d)->aE F vs ds:=by
 intro vs
 induction vs with
 | nil=>intro ds hl _;cases ds with
  | nil=>exact .nil
  | cons _ _=>cases hl
 | cons v vs ih =>
  intro ds hl h;cases ds with
  | nil=>cases hl
  | cons d ds =>
   obtain⟨v',e,r⟩:=h 0 d (by simp)
   simp at e;subst e;exact .cons r (ih ds (by simpa using hl) λi d e=>by
    obtain⟨v',e',r'⟩:=h (i+1) d (by simpa using e)
    exact⟨v',by simpa using e',r'⟩)
theorem oB{F H:Hp}{vs:List V}{ds:List D}(h:jK F H vs (ds.map B.sh)):aE F vs ds:=
 xo vs ds (by simpa using h.len) λi d e=>h.sh i d (by rw[List.getElem?_map,e];rfl)
theorem zN{F H:Hp}{vs:List V}{ds:List D}(h:aE F vs ds):jK F H vs (ds.map B.sh) where
 len:=by rw[List.length_map];exact h.length
 sh:=λi d e=>by
  obtain⟨d',e1,e2⟩:=dh e;cases e1;exact h.get e2
 own:=λi xs e=>by obtain⟨d,e1,_⟩:=dh e;cases e1
 obj:=λi o e=>by obtain⟨d,e1,_⟩:=dh e;cases e1
 dis:=λi j xs ys a e=>by obtain⟨d,e1,_⟩:=dh e;cases e1
 oE:=λi j o p a b e=>by obtain⟨d,e1,_⟩:=dh e;cases e1
 gj:=λi j xs o a b e=>by obtain⟨d,e1,_⟩:=dh e;cases e1
theorem Ag{vs:List V}{ds:List D}{c:Addr}:¬jE vs (ds.map B.sh) c:=by
 rintro(⟨i,xs,e,_⟩|⟨i,o,a,e,_⟩)
 ·obtain⟨d,e1,_⟩:=dh e;cases e1
 ·obtain⟨d,e1,_⟩:=dh e;cases e1
theorem eX.mu{x:Str}{sp:bA}(h:eX G k x sp):sC G k x (d6 sp):=by
 obtain⟨f,fd,ps,h1,h2,h3,h4⟩:=h;refine⟨f,fd,ps,h1.imp λvs H Q E q=>?_,h2,h3,h4⟩;obtain⟨F,bs,Qd,s,r,⟨ds,rfl,q⟩,K⟩:=q;refine⟨F,ds,_,s,oB r,q,λv H' F' b s1 s2 s3 fr rr qq=>K v H' F' b _ s1 s2 (λc o _ e=>s3 c o e) (λc z=>absurd z Ag) (zN ((oB r).mono s1)) (mX λi o e=>?_) fr rr qq⟩;obtain⟨d,e1,_⟩:=dh e;cases e1
def muI(sp:iE):jN:=λbs Q=>∃(xs:List D) (ds:List D),bs=.own xs::ds.map .sh/\sp xs ds λb ys=>Q b (.own ys::ds.map .sh)
theorem dJ{xs:List D}{ds:List D}{i:Nat}{b:B}(h:(B.own xs::ds.map B.sh)[i]?=some b):(i=0/\b=.own xs)\/∃j d,i=j+1/\b=.sh d/\ds[j]?=some d:=by
 cases i with
 | zero=>simp at h;exact .inl ⟨rfl,h.symm⟩
 | succ j =>
  simp only[List.getElem?_cons_succ]at h;obtain⟨d,e1,e2⟩:=dh h;exact .inr ⟨j,d,rfl,e1,e2⟩
theorem IB{F H:Hp}{a:Addr}{us:List V}{vs:List V}{xs ds:List D}(h1:H a=some (.lst us))(h2:aE F us xs)(h3:F a=none)(h:aE F vs ds):jK F H (.ref a::vs) (.own xs::ds.map B.sh) where
 len:=by rw[List.length_cons,List.length_cons,List.length_map,h.length]
 sh:=λi d e=>by
  rcases dJ e with⟨_,z⟩|⟨j,d',rfl,z,e2⟩
  ·cases z
  ·cases z
   obtain⟨v,e3,r⟩:=h.get e2;exact⟨v,by simpa using e3,r⟩
 own:=λi ys e=>by
  rcases dJ e with⟨rfl,z⟩|⟨j,d',rfl,z,e2⟩
  ·cases z;exact⟨a,us,by simp,h1,h2,h3⟩
  ·cases z
 obj:=λi o e=>by
  rcases dJ e with⟨_,z⟩|⟨j,d',rfl,z,e2⟩<;>cases z
 dis:=λi j ys zs b e1 e2 _ _=>by
  rcases dJ e1 with⟨rfl,z⟩|⟨_,d',rfl,z,_⟩
  ·rcases dJ e2 with⟨rfl,z⟩|⟨_,d',rfl,z,_⟩
   ·rfl
   ·cases z
  ·cases z
 oE:=λi j o p a b e=>by
  rcases dJ e with⟨_,z⟩|⟨j,d',rfl,z,e2⟩<;>cases z
 gj:=λi j xs o a b _ _ e=>by
  rcases dJ e with⟨_,z⟩|⟨j,d',rfl,z,e2⟩<;>cases z
theorem fj.mu{x:Str}{sp:iE}(h:fj G k x sp):sC G k x (muI sp):=by
 obtain⟨f,fd,ps,h1,h2,h3,h4⟩:=h;refine⟨f,fd,ps,h1.imp λvs H Q E q=>?_,h2,h3,h4⟩;obtain⟨F,bs,Qd,s,r,⟨xs,ds,rfl,q⟩,K⟩:=q;obtain⟨a,us,e1,e2,e3,e4⟩:=r.own 0 xs (by simp)
 have hl:=r.len;cases vs with
 | nil=>simp at e1
 | cons v vs =>
  simp at e1;subst e1;have rs:aE F vs ds:=xo vs ds (by simpa using hl) λi d e=>by
   obtain⟨v,q1,q2⟩:=r.sh (i+1) d (by simp only[List.getElem?_cons_succ,List.getElem?_map,e];rfl)
   exact⟨v,by simpa using q1,q2⟩
  have ft:∀c,jE (.ref a::vs) (B.own xs::ds.map B.sh) c ↔ c=a:=λc=>by
   constructor
   ·rintro(⟨i,ys,e,z⟩|⟨i,o,b,e,_⟩)
    ·rcases dJ e with⟨rfl,_⟩|⟨_,d',rfl,z',_⟩
     ·simp at z;exact z.symm
     ·cases z'
    ·rcases dJ e with⟨rfl,z'⟩|⟨_,d',rfl,z',_⟩<;>cases z'
   ·rintro rfl
    exact .inl ⟨0,xs,by simp,by simp⟩
  refine⟨F,xs,ds,a,us,vs,_,rfl,s,e2,e3,e4,rs,q,λv H' F' b ys Vg s1 s2 s3 a1 a2 a3 fr rr qq=>K v H' F' b _ s1 s2 (λc o z e=>s3 c o (λy=>z ((ft c).mpr y)) e) (λc z=>by rw[(ft c).mp z,a1];exactλy=>nomatch y) (IB a1 a2 a3 (rs.mono s1)) (.own xs ys ?_) fr rr qq⟩
  exact mX λi o e=>by obtain⟨d,z,_⟩:=dh e;cases z
end Vc
namespace Vc
open PySem L2
variable [KF]
mutual
def CF:D->Bool
 | .aU=>true
 | .bl _=>true
 | .int _=>true
 | .str _=>true
 | .tup xs=>jH xs
 | .lst xs=>jH xs
 | _=>false
def jH:List D->Bool
 | []=>true
 | x::xs=>CF x&&jH xs
end
mutual
theorem Rep.mq{F F':Hp}(hs:∀c u,F c=some u->F' c=some u\/dl u=true):∀ {v:V} {d:D},Rep F v d->CF d=true->Rep F' v d
 | _,_,.aU,_=>.aU
 | _,_,.bl b,_=>.bl b
 | _,_,.int i,_=>.int i
 | _,_,.str x,_=>.str x
 | _,_,.tup h r,n=>.tup ((hs _ _ h).elim id λz=>by cases z) (aE.mq hs r n)
 | _,_,.lst h r,n=>.lst (by
   rcases h with h|⟨o,h⟩
   ·exact .inl ((hs _ _ h).elim id λz=>by cases z)
   ·exact .inr ⟨o,(hs _ _ h).elim id λz=>by cases z⟩) (aE.mq hs r n)
 | _,_,.hW _,n=>by cases n
 | _,_,.exc _,n=>by cases n
 | _,_,.Jb _ _,n=>by cases n
 | _,_,.jt _ _,n=>by cases n
 | _,_,.kp _ _ _,n=>by cases n
theorem aE.mq{F F':Hp}(hs:∀c u,F c=some u->F' c=some u\/dl u=true):∀ {vs:List V} {ds:List D},aE F vs ds->jH ds=true->aE F' vs ds
 | _,_,.nil,_=>.nil
 | _,_,.cons h r,n=>by
  have n:(CF _&&jH _)=true:=n;rw[Bool.and_eq_true]at n;exact .cons (Rep.mq hs h n.1) (aE.mq hs r n.2)
end
def noB:B->Bool
 | .sh d=>CF d
 | .own xs=>jH xs
 | .obj _=>false
def QV:B->Bool
 | .sh _=>true
 | .own xs=>jH xs
 | .obj _=>false
inductive AV where
 | d (x:D)|n (j:Nat)|l (j:Nat)
abbrev vh:=Sd->(List AV->Sd->Prop)->Prop
inductive de (F:Hp)(σ:St):List V->List AV->Prop where
 | nil:de F σ [] []
 | d {v:V} {x:D} {vs:List V} {as:List AV}:Rep F v x->de F σ vs as->de F σ (v::vs) (.d x::as)
 | n {v:V} {j:Nat} {vs:List V} {as:List AV}:σ[j]?=some (some v)->de F σ vs as->de F σ (v::vs) (.n j::as)
 | l {v:V} {j:Nat} {vs:List V} {as:List AV}:σ[j]?=some (some v)->de F σ vs as->de F σ (v::vs) (.l j::as)
theorem de.length{F:Hp}{σ:St}:∀ {vs:List V} {as:List AV},de F σ vs as->vs.length=as.length
 | _,_,.nil=>rfl
 | _,_,.d _ r=>by simp [de.length r]
 | _,_,.n _ r=>by simp [de.length r]
 | _,_,.l _ r=>by simp [de.length r]
theorem de.gd{F:Hp}{σ:St}:∀ {vs:List V} {as:List AV} {i:Nat} {x:D},de F σ vs as->as[i]?=some (.d x)->∃v,vs[i]?=some v/\Rep F v x
 | _,_,_,_,.nil,e=>by simp at e
 | _,_,0,_,.d h _,e=>by simp at e;subst e;exact⟨_,by simp,h⟩
 | _,_,0,_,.n _ _,e=>by simp at e
 | _,_,0,_,.l _ _,e=>by simp at e
 | _,_,i+1,_,.d _ r,e=>by obtain⟨v,h1,h2⟩:=de.gd (i:=i) r (by simpa using e);exact⟨v,by simpa using h1,h2⟩
 | _,_,i+1,_,.n _ r,e=>by obtain⟨v,h1,h2⟩:=de.gd (i:=i) r (by simpa using e);exact⟨v,by simpa using h1,h2⟩
 | _,_,i+1,_,.l _ r,e=>by obtain⟨v,h1,h2⟩:=de.gd (i:=i) r (by simpa using e);exact⟨v,by simpa using h1,h2⟩
theorem de.gn{F:Hp}{σ:St}{j:Nat}:∀ {vs:List V} {as:List AV} {i:Nat},de F σ vs as->as[i]?=some (.n j)\/as[i]?=some (.l j)->∃v,vs[i]?=some v/\σ[j]?=some (some v)
 | _,_,_,.nil,e=>by simp at e
 | _,_,0,.d _ _,e=>by simp at e
 | _,_,0,.n h _,e=>by
  rcases e with e|e
  ·simp at e;subst e;exact⟨_,by simp,h⟩
  ·simp at e
 | _,_,0,.l h _,e=>by
  rcases e with e|e
  ·simp at e
  ·simp at e;subst e;exact⟨_,by simp,h⟩
 | _,_,i+1,.d _ r,e=>by obtain⟨v,h1,h2⟩:=de.gn (i:=i) r (by simpa using e);exact⟨v,by simpa using h1,h2⟩
 | _,_,i+1,.n _ r,e=>by obtain⟨v,h1,h2⟩:=de.gn (i:=i) r (by simpa using e);exact⟨v,by simpa using h1,h2⟩
 | _,_,i+1,.l _ r,e=>by obtain⟨v,h1,h2⟩:=de.gn (i:=i) r (by simpa using e);exact⟨v,by simpa using h1,h2⟩
def Dl(σ:Sd):AV->Option B
 | .d x=>some (.sh x)
 | .n j=>match σ[j]? with
  | some (some b)=>some b
  | _=>none
 | .l j=>match σ[j]? with
  | some (some (.obj o))=>o.view.map B.sh
  | some (some (.sh d))=>some (.sh d)
  | _=>none
def eV(σ:Sd):List AV->Option (List B)
 | []=>some []
 | a::r=>match Dl σ a,eV σ r with
  | some b,some bs=>some (b::bs)
  | _,_=>none
theorem mF{σ:Sd}:∀ {as:List AV} {bs:List B},eV σ as=some bs->as.length=bs.length
 | [],_,e=>by cases e;rfl
 | a::r,bs,e=>by
  unfold eV at e
  split at e
  ·rename_i b eL e1 e2
   cases e;simp [mF e2]
  ·cases e
theorem mE{σ:Sd}:∀ {as:List AV} {bs:List B} {i:Nat} {b:B},eV σ as=some bs->bs[i]?=some b->∃a,as[i]?=some a/\Dl σ a=some b
 | [],_,_,_,e,q=>by cases e;simp at q
 | a::r,bs,i,b,e,q=>by
  unfold eV at e
  split at e
  ·rename_i b' eL e1 e2
   cases e;cases i with
   | zero=>simp at q;subst q;exact⟨a,by simp,e1⟩
   | succ i =>
    obtain⟨a',h1,h2⟩:=mE (i:=i) e2 (by simpa using q)
    exact⟨a',by simpa using h1,h2⟩
  ·cases e
def bM:Sd->List AV->List B->Sd
 | σ,.n j::as,b::bs=>bM (σ.set j (some b)) as bs
 | σ,.d _::as,_::bs=>bM σ as bs
 | σ,.l _::as,_::bs=>bM σ as bs
 | σ,_,_=>σ
def nN:List AV->List Nat
 | []=>[]
 | .n j::as=>j::nN as
 | .d _::as=>nN as
 | .l _::as=>nN as
def Ax:List AV->List Nat
 | []=>[]
 | .n _::as=>Ax as
 | .d _::as=>Ax as
 | .l j::as=>j::Ax as
theorem eB{j:Nat}:∀ {as:List AV} {i:Nat},as[i]?=some (.n j)->j∈nN as
 | [],_,e=>by simp at e
 | .n x::as,0,e=>by simp at e;subst e;exact .head _
 | .d _::as,0,e=>by simp at e
 | .l _::as,0,e=>by simp at e
 | .n x::as,i+1,e=>.tail _ (eB (i:=i) (by simpa using e))
 | .d _::as,i+1,e=>eB (as:=as) (i:=i) (by simpa using e)
 | .l _::as,i+1,e=>eB (as:=as) (i:=i) (by simpa using e)
theorem oK{j:Nat}:∀ {as:List AV} {i:Nat},as[i]?=some (.l j)->j∈Ax as
 | [],_,e=>by simp at e
 | .l x::as,0,e=>by simp at e;subst e;exact .head _
 | .d _::as,0,e=>by simp at e
 | .n _::as,0,e=>by simp at e
 | .l x::as,i+1,e=>.tail _ (oK (i:=i) (by simpa using e))
 | .d _::as,i+1,e=>oK (as:=as) (i:=i) (by simpa using e)
 | .n _::as,i+1,e=>oK (as:=as) (i:=i) (by simpa using e)
theorem kS{j:Nat}:∀ {as:List AV},j∈nN as->∃i:Nat,as[i]?=some (AV.n j)
 | [],e=>by cases e
 | .n x::as,e=>by
  rcases List.mem_cons.mp e with rfl|e
  ·exact⟨0,rfl⟩
  ·obtain⟨i,h⟩:=kS e;exact⟨i+1,by simpa using h⟩
 | .d _::as,e=>by obtain⟨i,h⟩:=kS (as:=as) e;exact⟨i+1,by simpa using h⟩
 | .l _::as,e=>by obtain⟨i,h⟩:=kS (as:=as) e;exact⟨i+1,by simpa using h⟩
theorem kR{j:Nat}:∀ {as:List AV} {i i':Nat},(nN as).Nodup->as[i]?=some (.n j)->as[i']?=some (.n j)->i=i'
 | [],_,_,_,e,_=>by simp at e
 | .n x::as,0,0,_,_,_=>rfl
 | .n x::as,0,i'+1,nd,e,e'=>by
  simp at e;subst e;exact absurd (eB (as:=as) (i:=i') (by simpa using e')) (List.nodup_cons.mp nd).1
 | .n x::as,i+1,0,nd,e,e'=>by
  simp at e';subst e';exact absurd (eB (as:=as) (i:=i) (by simpa using e)) (List.nodup_cons.mp nd).1
 | .n x::as,i+1,i'+1,nd,e,e'=>congrArg (·+1) (kR (as:=as) (i:=i) (i':=i') (List.nodup_cons.mp nd).2 (by simpa using e) (by simpa using e'))
 | .d _::as,0,_,_,e,_=>by simp at e
 | .d _::as,_+1,0,_,_,e=>by simp at e
 | .d _::as,i+1,i'+1,nd,e,e'=>congrArg (·+1) (kR (as:=as) (i:=i) (i':=i') nd (by simpa using e) (by simpa using e'))
 | .l _::as,0,_,_,e,_=>by simp at e
 | .l _::as,_+1,0,_,_,e=>by simp at e
 | .l _::as,i+1,i'+1,nd,e,e'=>congrArg (·+1) (kR (as:=as) (i:=i) (i':=i') nd (by simpa using e) (by simpa using e'))
theorem hX:∀(σ:Sd) (as:List AV) (bs:List B),(bM σ as bs).length=σ.length
 | σ,[],_=>by unfold bM;rfl
 | σ,.n j::as,[]=>by unfold bM;rfl
 | σ,.d _::as,[]=>by unfold bM;rfl
 | σ,.l _::as,[]=>by unfold bM;rfl
 | σ,.n j::as,b::bs=>by
  show(bM (σ.set j (some b)) as bs).length=_;rw[hX];simp
 | σ,.d _::as,b::bs=>hX σ as bs
 | σ,.l _::as,b::bs=>hX σ as bs
theorem eA{m:Nat}:∀(σ:Sd) (as:List AV) (bs:List B),m∉nN as->(bM σ as bs)[m]?=σ[m]?
 | σ,[],_,_=>by unfold bM;rfl
 | σ,.n j::as,[],_=>by unfold bM;rfl
 | σ,.d _::as,[],_=>by unfold bM;rfl
 | σ,.l _::as,[],_=>by unfold bM;rfl
 | σ,.n j::as,b::bs,h=>by
  have h:m≠j/\m∉nN as:=by simpa [nN]using h
  show(bM (σ.set j (some b)) as bs)[m]?=_;rw[eA _ as bs h.2,List.getElem?_set_ne (Ne.symm h.1)]
 | σ,.d _::as,b::bs,h=>eA σ as bs h
 | σ,.l _::as,b::bs,h=>eA σ as bs h
theorem gJ{m:Nat}{b:B}:∀(σ:Sd) (as:List AV) (bs:List B) (i:Nat),(nN as).Nodup->as[i]?=some (.n m)->bs[i]?=some b->m<σ.length->(bM σ as bs)[m]?=some (some b)
 | σ,[],_,i,_,e,_,_=>by simp at e
 | σ,_::_,[],i,_,_,e,_=>by simp at e
 | σ,.n j::as,c::bs,0,nd,e,e',hl=>by
  simp at e e';subst e e';show(bM (σ.set j (some c)) as bs)[j]?=_;rw[eA _ as bs (List.nodup_cons.mp nd).1,List.getElem?_set_self hl]
 | σ,.n j::as,c::bs,i+1,nd,e,e',hl=>gJ (σ.set j (some c)) as bs i (List.nodup_cons.mp nd).2 (by simpa using e) (by simpa using e') (by simpa using hl)
 | σ,.d _::as,c::bs,0,_,e,_,_=>by simp at e
 | σ,.d _::as,c::bs,i+1,nd,e,e',hl=>gJ σ as bs i nd (by simpa using e) (by simpa using e') hl
 | σ,.l _::as,c::bs,0,_,e,_,_=>by simp at e
 | σ,.l _::as,c::bs,i+1,nd,e,e',hl=>gJ σ as bs i nd (by simpa using e) (by simpa using e') hl
def lAv(Y:bB)(t:vh):TA:=λσ H Q=>∃F aj Qd,RS Y F aj σ H/\t aj Qd/\∀vs H' F' as aG,au F F'->RS Y F' aG σ H'->de F' σ vs as->Qd as aG->Q vs H'
structure HS(G:GE)(k:Nat)(S:Stat)(es:List Expr)(t:vh):Prop where
 run:∀X Y,d8 X G k S Y->PA X es (lAv Y t)
variable {G:GE}{k:Nat}{S:Stat}
def iK:vh:=λσ Q=>Q [] σ
def qP(t:TD)(u:vh):vh:=λσ Q=>t σ λx aw=>u aw λas aO=>Q (.d x::as) aO
def tAn(j:Nat)(u:vh):vh:=λσ Q=>(∃b,σ[j]?=some (some b))/\u σ λas aO=>Q (.n j::as) aO
def UP(j:Nat)(u:vh):vh:=λσ Q=>(∃b,σ[j]?=some (some b))/\u σ λas aO=>Q (.l j::as) aO
theorem RS.bound{Y:bB}{F:Hp}{aj:Sd}{σ:St}{H:Hp}(R:RS Y F aj σ H){j:Nat}{b:B}(e:aj[j]?=some (some b)):∃v,σ[j]?=some (some v):=by
 cases b with
 | sh d=>obtain⟨v,h,_⟩:=R.sh j d e;exact⟨v,h⟩
 | own xs=>obtain⟨a,_,h,_⟩:=R.own j xs e;exact⟨_,h⟩
 | obj o=>obtain⟨a,h,_⟩:=R.ob.obj j o e;exact⟨_,h⟩
theorem cm:HS G k S [] iK:=⟨λX Y ok=>jc hG λσ H Q q=>by
 obtain⟨F,aj,Qd,R,q,K⟩:=q;exact K [] H F [] aj (au.refl _) R .nil q⟩
theorem gR{e:Expr}{es:List Expr}{t:TD}{u:vh}(h:ED G k S e t)(hs:HS G k S es u)(he:∀env,starEach (e::es) env=(false,eval e env)::starEach es env:=by exactλ_=>Vc.cj rfl):HS G k S (e::es) (qP t u):=⟨λX Y ok =>
 jc (cL (h X Y ok) (hs.run X Y ok) (he _)) λσ H Q q=>by
  obtain⟨F,aj,Qd,R,q,K⟩:=q;refine⟨F,aj,_,R,q,λv1 H1 F1 x aw s1 R1 r1 q1=>?_⟩;refine⟨F1,aw,_,R1,q1,λvs H2 F2 as aO s2 R2 r2 q2=>?_⟩;exact K _ H2 F2 _ aO (s1.trans s2) R2 (.d (r1.mono s2) r2) q2⟩
section
variable {x:Str}{es:List Expr}{u:vh}{pos:Pos}
theorem Wv(j:Nat)(hs:HS G k S es u)(hN:S.N[j]?=some x:=by rfl)(hv:S.sc.lookup x=some .local\/S.sc.lookup x=some .cell\/S.sc.lookup x=some .free:=by first|exact Or.inl rfl|exact Or.inr (Or.inl rfl)|exact Or.inr (Or.inr rfl))
  (hd:(x==("__debug__":Str))=false:=by decide) (iu:(x==("__classdict__":Str))=false:=by decide) (he:∀env,starEach (.Name x pos::es) env=(false,eval (.Name x pos) env)::starEach es env:=by exactλ_=>Vc.cj rfl):HS G k S (.Name x pos::es) (tAn j u):=⟨λX Y ok =>
 jc (cL (kh (X:=X) (i:=j) (by rw[ok.N];exact hN) (by unfold Iw;rw[ok.sc];exact hv) hd iu) (hs.run X Y ok) (he _)) λσ H Q q=>by
  obtain⟨F,aj,Qd,R,⟨⟨b,e⟩,q⟩,K⟩:=q;obtain⟨v,ev⟩:=R.bound e;refine⟨v,ev,F,aj,_,R,q,λvs H2 F2 as aO s2 R2 r2 q2=>?_⟩;exact K _ H2 F2 _ aO s2 R2 (.n ev r2) q2⟩
theorem Dq(j:Nat)(hs:HS G k S es u)(hN:S.N[j]?=some x:=by rfl)(hv:S.sc.lookup x=some .local\/S.sc.lookup x=some .cell\/S.sc.lookup x=some .free:=by first|exact Or.inl rfl|exact Or.inr (Or.inl rfl)|exact Or.inr (Or.inr rfl))
  (hd:(x==("__debug__":Str))=false:=by decide) (iu:(x==("__classdict__":Str))=false:=by decide) (he:∀env,starEach (.Name x pos::es) env=(false,eval (.Name x pos) env)::starEach es env:=by exactλ_=>Vc.cj rfl):HS G k S (.Name x pos::es) (UP j u):=⟨λX Y ok =>
 jc (cL (kh (X:=X) (i:=j) (by rw[ok.N];exact hN) (by unfold Iw;rw[ok.sc];exact hv) hd iu) (hs.run X Y ok) (he _)) λσ H Q q=>by
  obtain⟨F,aj,Qd,R,⟨⟨b,e⟩,q⟩,K⟩:=q;obtain⟨v,ev⟩:=R.bound e;refine⟨v,ev,F,aj,_,R,q,λvs H2 F2 as aO s2 R2 r2 q2=>?_⟩;exact K _ H2 F2 _ aO s2 R2 (.l ev r2) q2⟩
end
def CT(aj:Sd)(σ:St)(js:List Nat)(c:Addr):Prop:=∃j∈js,∃(o:O) (a:Addr),aj[j]?=some (some (.obj o))/\σ[j]?=some (some (.ref a))/\c∈o.fp a
theorem pJ{Y:bB}{F:Hp}{aj:Sd}{σ:St}{H:Hp}(R:RS Y F aj σ H):∀js:List Nat,∃F2,au F F2/\au F2 H/\(∀j∈js,∀(o:O) (d:D) (a:Addr),aj[j]?=some (some (.obj o))->o.view=some d->σ[j]?=some (some (.ref a))->Rep F2 (.ref a) d) /\
  (∀c u,F2 c=some u->F c=some u\/(dl u=true/\CT aj σ js c))/\(js=[]->F2=F)
 | []=>⟨F,au.refl _,R.fr,(λj hj=>by cases hj),(λc u z=>.inl z),λ_=>rfl⟩
 | j::js=>by
  obtain⟨F2,s1,s2,h1,h2,_⟩:=pJ R js
  by_cases hq:∃o d,aj[j]?=some (some (.obj o))/\o.view=some d
  ·obtain⟨o,d,e1,e2⟩:=hq
   obtain⟨a,w1,w2,w3⟩:=R.ob.obj j o e1;have w2':o.rep F2 H a:=o.mono s1 (λ_ _=>rfl) w2;obtain⟨F3,s3,s4,r3,h3⟩:=o.lend s2 w2' e2;refine⟨F3,s1.trans s3,s4,λi hi o' d' a' f1 f2 f3=>?_,λc u z=>?_,λz=>nomatch z⟩
   ·rcases List.mem_cons.mp hi with rfl|hi
    ·rw[e1]at f1;cases f1
     rw[e2]at f2;cases f2;rw[w1]at f3;cases f3;exact r3
    ·exact(h1 i hi o' d' a' f1 f2 f3).mono s3
   ·rcases h3 c u z with z|⟨z1,z2⟩
    ·rcases h2 c u z with z|⟨z1,i,hi,z2⟩
     ·exact .inl z
     ·exact .inr ⟨z1,i,.tail _ hi,z2⟩
    ·exact .inr ⟨z1,j,.head _,o,a,e1,w1,z2⟩
  ·refine⟨F2,s1,s2,λi hi o' d' a' f1 f2 f3=>?_,λc u z=>?_,λz=>nomatch z⟩
   ·rcases List.mem_cons.mp hi with rfl|hi
    ·exact absurd ⟨o',d',f1,f2⟩ hq
    ·exact h1 i hi o' d' a' f1 f2 f3
   ·rcases h2 c u z with z|⟨z1,i,hi,z2⟩
    ·exact .inl z
    ·exact .inr ⟨z1,i,.tail _ hi,z2⟩
theorem Dm{σ:Sd}{j:Nat}{b:B}(h:Dl σ (.n j)=some b):σ[j]?=some (some b):=by
 have h:(match σ[j]? with|some (some b)=>some b|_=>none)=some b:=h
 split at h
 ·rename_i b' e;cases h;exact e
 ·cases h
theorem Nm{σ:Sd}{j:Nat}{b:B}(h:Dl σ (.l j)=some b):∃d,b=.sh d/\(σ[j]?=some (some (.sh d))\/∃o,σ[j]?=some (some (.obj o))/\o.view=some d):=by
 have h:(match σ[j]? with|some (some (.obj o))=>o.view.map B.sh|some (some (.sh d))=>some (.sh d)|_=>none)=some b:=h
 split at h
 ·rename_i o e
  obtain⟨d,h1,h2⟩:=Option.map_eq_some_iff.mp h;exact⟨d,h2.symm,.inr ⟨o,e,h1⟩⟩
 ·rename_i d e;cases h;exact⟨d,rfl,.inl e⟩
 ·cases h
theorem yf{Y:bB}{F:Hp}{aj:Sd}{σ:St}{H:Hp}(R:RS Y F aj σ H){vs:List V}{as:List AV}{bs:List B}(ra:de F σ vs as)(ea:eV aj as=some bs){i:Nat}{b:B}(e:bs[i]?=some b):
  (∃d v,b=.sh d/\vs[i]?=some v/\(Rep F v d\/∃(j:Nat) (o:O) (a:Addr),as[i]?=some (.l j)/\v=.ref a/\aj[j]?=some (some (.obj o))/\σ[j]?=some (some (.ref a))/\o.view=some d)) \/
  ∃(j:Nat) (v:V),as[i]?=some (.n j)/\aj[j]?=some (some b)/\vs[i]?=some v/\σ[j]?=some (some v):=by
 obtain⟨a,h1,h2⟩:=mE ea e;cases a with
 | d x =>
  cases h2;obtain⟨v,g1,g2⟩:=ra.gd h1;exact .inl ⟨x,v,rfl,g1,.inl g2⟩
 | n j =>
  obtain⟨v,g1,g2⟩:=ra.gn (.inl h1);exact .inr ⟨j,v,h1,Dm h2,g1,g2⟩
 | l j =>
  obtain⟨d,rfl,h3⟩:=Nm h2;obtain⟨v,g1,g2⟩:=ra.gn (.inr h1);refine .inl ⟨d,v,rfl,g1,?_⟩;rcases h3 with h3|⟨o,h3,h4⟩
  ·obtain⟨v',f1,f2⟩:=R.sh j d h3
   rw[g2]at f1;cases f1;exact .inl f2
  ·obtain⟨a,f1,_⟩:=R.ob.obj j o h3
   rw[g2]at f1;cases f1;exact .inr ⟨j,o,a,h1,rfl,h3,g2,h4⟩
theorem IC{Y:bB}{F F2:Hp}{aj:Sd}{σ:St}{H:Hp}(R:RS Y F aj σ H){vs:List V}{as:List AV}{bs:List B}(ra:de F σ vs as)(ea:eV aj as=some bs)(nd:(nN as).Nodup)(hl:∀j∈Ax as,j∉nN as)
  (s1:au F F2) (h1:∀j∈Ax as,∀(o:O) (d:D) (a:Addr),aj[j]?=some (some (.obj o))->o.view=some d->σ[j]?=some (some (.ref a))->Rep F2 (.ref a) d) (h2:∀c u,F2 c=some u->F c=some u\/(dl u=true/\CT aj σ (Ax as) c)):jK F2 H vs bs:=by
 have wZ:∀ {i:Nat} {b:B},bs[i]?=some b->(∀d,b≠.sh d)->∃j v,as[i]?=some (.n j)/\aj[j]?=some (some b)/\vs[i]?=some v/\σ[j]?=some (some v):=λe n=>by
  rcases yf R ra ea e with⟨d,v,z,_⟩|z
  ·exact absurd z (n d)
  ·exact z
 have free:∀ {j:Nat} {c:Addr},j∉Ax as->F c=none->(∀i∈Ax as,∀(o:O) (a:Addr),aj[i]?=some (some (.obj o))->σ[i]?=some (some (.ref a))->c∉o.fp a)->F2 c=none:=λ{j c} _ e n=>by
  cases q:F2 c with
  | none=>rfl
  | some u =>
   rcases h2 c u q with z|⟨_,i,hi,o,a,f1,f2,f3⟩
   ·rw[e]at z;cases z
   ·exact absurd f3 (n i hi o a f1 f2)
 refine⟨ra.length.trans (mF ea),λi d e=>?_,λi xs e=>?_,λi o e=>?_,λi j xs ys a e1 e2 e3 e4=>?_,λi j o p a b e1 e2 e3 e4 PH=>?_,λi j xs o a b e1 e2 e3 e4=>?_⟩
 ·rcases yf R ra ea e with⟨d',v,z,g1,g2⟩|⟨j,v,g1,g2,g3,g4⟩
  ·cases z
   refine⟨v,g1,?_⟩;rcases g2 with g2|⟨j,o,a,f1,rfl,f3,f4,f5⟩
   ·exact g2.mono s1
   ·exact h1 j (oK f1) o d a f3 f5 f4
  ·obtain⟨v',f1,f2⟩:=R.sh j d g2
   rw[g4]at f1;cases f1;exact⟨v,g3,f2.mono s1⟩
 ·obtain⟨j,v,g1,g2,g3,g4⟩:=wZ e (λd z=>nomatch z)
  obtain⟨a,us,f1,f2,f3,f4,f5⟩:=R.own j xs g2;rw[g4]at f1;cases f1;refine⟨a,us,g3,f2,f3.mono s1,free (j:=j) (λz=>hl j z (eB g1)) f4 λi hi o b q1 q2 q3=>R.ob.gj j xs a g2 g4 ⟨i,o,b,q1,q2,q3⟩⟩
 ·obtain⟨j,v,g1,g2,g3,g4⟩:=wZ e (λd z=>nomatch z)
  obtain⟨a,f1,f2,f3⟩:=R.ob.obj j o g2;rw[g4]at f1;cases f1;refine⟨a,g3,o.mono s1 (λ_ _=>rfl) f2,λc hc=>⟨free (j:=j) (λz=>hl j z (eB g1)) (f3 c hc).1 λi hi p b q1 q2 q3=>?_,(f3 c hc).2.1⟩⟩;exact R.ob.oE j i o p a b g2 q1 g4 q2 (λz=>hl i hi (z ▸ eB g1)) c hc q3
 ·obtain⟨m,v,g1,g2,g3,g4⟩:=wZ e1 (λd z=>nomatch z)
  obtain⟨n,w,y1,y2,y3,y4⟩:=wZ e2 (λd z=>nomatch z);rw[e3]at g3;cases g3;rw[e4]at y3;cases y3;have:=R.dis m n xs ys a g2 y2 g4 y4;subst this;exact kR nd g1 y1
 ·obtain⟨m,v,g1,g2,g3,g4⟩:=wZ e1 (λd z=>nomatch z)
  obtain⟨n,w,y1,y2,y3,y4⟩:=wZ e2 (λd z=>nomatch z);rw[e3]at g3;cases g3;rw[e4]at y3;cases y3;exact R.ob.oE m n o p a b g2 y2 g4 y4 λz=>PH (kR nd g1 (z ▸ y1))
 ·obtain⟨m,v,g1,g2,g3,g4⟩:=wZ e1 (λd z=>nomatch z)
  obtain⟨n,w,y1,y2,y3,y4⟩:=wZ e3 (λd z=>nomatch z);rw[e2]at g3;cases g3;rw[e4]at y3;cases y3;exactλz=>R.ob.gj m xs b g2 g4 ⟨n,o,a,y2,y4,z⟩
end Vc
namespace Vc
open PySem L2
variable [KF]
section
variable {Y:bB}{F:Hp}{aj:Sd}{σ:St}{H:Hp}{vs:List V}{as:List AV}{bs eL:List B}
theorem sM(R:RS Y F aj σ H)(ra:de F σ vs as)(ea:eV aj as=some bs){i:Nat}{b:B}(e:bs[i]?=some b)(n:∀d,b≠.sh d):∃j v,as[i]?=some (.n j)/\aj[j]?=some (some b)/\vs[i]?=some v/\σ[j]?=some (some v):=by
 rcases yf R ra ea e with⟨d,v,z,_⟩|z
 ·exact absurd z (n d)
 ·exact z
theorem zM(ra:de F σ vs as)(ea:eV aj as=some bs){i m:Nat}(e:as[i]?=some (.n m)):∃b v,bs[i]?=some b/\aj[m]?=some (some b)/\vs[i]?=some v/\σ[m]?=some (some v):=by
 have hi:i<bs.length:=by rw[<- mF ea];exact(List.getElem?_eq_some_iff.mp e).1
 have hb:bs[i]?=some bs[i]:=List.getElem?_eq_getElem hi;obtain⟨a,h1,h2⟩:=mE ea hb;rw[e]at h1;cases h1;obtain⟨v,g1,g2⟩:=ra.gn (.inl e);exact⟨_,v,hb,Dm h2,g1,g2⟩
theorem sP(ra:de F σ vs as)(ea:eV aj as=some bs)(nd:(nN as).Nodup)(lk:d4 bs eL){m:Nat}{b:B}(e:(bM aj as eL)[m]?=some (some b)):(m∉nN as/\aj[m]?=some (some b))\/∃i:Nat,as[i]?=some (AV.n m)/\eL[i]?=some b:=by
 by_cases hm:m∈nN as
 ·obtain⟨i,hi⟩:=kS hm
  obtain⟨c,v,g1,g2,_⟩:=zM ra ea hi;have hl:i<eL.length:=by rw[<- lk.len];exact(List.getElem?_eq_some_iff.mp g1).1
  have hb:eL[i]?=some eL[i]:=List.getElem?_eq_getElem hl;have:=gJ aj as eL i nd hi hb (List.getElem?_eq_some_iff.mp g2).1;rw[this]at e;cases e;exact .inr ⟨i,hi,hb⟩
 ·rw[eA _ _ _ hm]at e
  exact .inl ⟨hm,e⟩
theorem vD(R:RS Y F aj σ H)(ra:de F σ vs as)(ea:eV aj as=some bs)(nd:(nN as).Nodup)(lk:d4 bs eL){m:Nat}{p:O}(e:(bM aj as eL)[m]?=some (some (.obj p))):∃o,aj[m]?=some (some (.obj o))/\p.fp=o.fp:=by
 rcases sP ra ea nd lk e with⟨_,e⟩|⟨i,h1,h2⟩
 ·exact⟨p,e,rfl⟩
 ·obtain⟨o,h3,h4,_⟩:=lk.B2 h2
  obtain⟨j,v,g1,g2,_⟩:=sM R ra ea h3 (λd z=>nomatch z);rw[h1]at g1;cases g1;exact⟨o,g2,h4⟩
theorem vE(R:RS Y F aj σ H)(ra:de F σ vs as)(ea:eV aj as=some bs)(nd:(nN as).Nodup)(lk:d4 bs eL){m:Nat}{ys:List D}(e:(bM aj as eL)[m]?=some (some (.own ys))):∃xs,aj[m]?=some (some (.own xs)):=by
 rcases sP ra ea nd lk e with⟨_,e⟩|⟨i,h1,h2⟩
 ·exact⟨ys,e⟩
 ·obtain⟨xs,h3⟩:=lk.B6 h2
  obtain⟨j,v,g1,g2,_⟩:=sM R ra ea h3 (λd z=>nomatch z);rw[h1]at g1;cases g1;exact⟨xs,g2⟩
theorem zP(R:RS Y F aj σ H)(ra:de F σ vs as)(ea:eV aj as=some bs)(nd:(nN as).Nodup)(lk:d4 bs eL){a:Addr}(h:H a=none):dC (bM aj as eL) σ a:=by
 refine⟨λj ys e z=>?_,λ⟨j,p,c,e1,e2,hm⟩=>?_⟩
 ·obtain⟨xs,e'⟩:=vE R ra ea nd lk e
  obtain⟨c,us,f1,f2,_⟩:=R.own j xs e';rw[z]at f1;cases f1;rw[f2]at h;cases h
 ·obtain⟨o,f1,f2⟩:=vD R ra ea nd lk e1
  obtain⟨c',g1,_,g3⟩:=R.ob.obj j o f1;rw[e2]at g1;cases g1;exact(g3 a (by rw[<- f2];exact hm)).2.1 h
end
theorem RS.Nn{Y:bB}{F F':Hp}{aj:Sd}{σ:St}{H H':Hp}(R:RS Y F aj σ H){vs:List V}{as:List AV}{bs eL:List B}(ra:de F σ vs as)(ea:eV aj as=some bs)(nd:(nN as).Nodup)(lk:d4 bs eL)
  (s1:au F F') (s2:au F' H') (fm:∀c o,¬jE vs bs c->H c=some o->H' c=some o) (fn:∀c,jE vs bs c->H' c≠none) (fr:∀c o,F' c=some o->F c=some o\/Nw H c o)
  (ow:∀(i:Nat) (xs:List D),eL[i]?=some (.own xs)->∃a us,vs[i]?=some (.ref a)/\H' a=some (.lst us)/\aE F' us xs/\F' a=none)
  (oj:∀(i:Nat) (o:O),eL[i]?=some (.obj o)->∃a,vs[i]?=some (.ref a)/\o.rep F' H' a/\∀c∈o.fp a,F' c=none/\H' c≠none):RS Y F' (bM aj as eL) σ H':=by
 have wZ:∀ {i:Nat} {b:B},bs[i]?=some b->(∀d,b≠.sh d)->∃j v,as[i]?=some (.n j)/\aj[j]?=some (some b)/\vs[i]?=some v/\σ[j]?=some (some v):=λe n=>sM R ra ea e n;have inn:∀ {i m:Nat},as[i]?=some (.n m)->∃b v,bs[i]?=some b/\aj[m]?=some (some b)/\vs[i]?=some v/\σ[m]?=some (some v):=λe=>zM ra ea e;have st:∀ {m:Nat} {b:B},(bM aj as eL)[m]?=some (some b)->(m∉nN as/\aj[m]?=some (some b))\/∃i:Nat,as[i]?=some (AV.n m)/\eL[i]?=some b:=λe=>sP ra ea nd lk e;have stO:∀ {m:Nat} {p:O},(bM aj as eL)[m]?=some (some (.obj p))->∃o,aj[m]?=some (some (.obj o))/\p.fp=o.fp:=λe=>vD R ra ea nd lk e;have stX:∀ {m:Nat} {ys:List D},(bM aj as eL)[m]?=some (some (.own ys))->∃xs,aj[m]?=some (some (.own xs)):=λe=>vE R ra ea nd lk e
 -- what is no argument is not touched
 have nfx:∀ {m:Nat} {xs:List D} {a:Addr},m∉nN as->aj[m]?=some (some (.own xs))->σ[m]?=some (some (.ref a))->¬jE vs bs a:=λ{m xs a} hm e1 e2 z=>by
  rcases z with⟨i,ys,z1,z2⟩|⟨i,o,b,z1,z2,z3⟩
  ·obtain⟨j,v,g1,g2,g3,g4⟩:=wZ z1 (λd z=>nomatch z)
   rw[z2]at g3;cases g3;have:=R.dis m j xs ys a e1 g2 e2 g4;exact hm (this ▸ eB g1)
  ·obtain⟨j,v,g1,g2,g3,g4⟩:=wZ z1 (λd z=>nomatch z)
   rw[z2]at g3;cases g3;exact R.ob.gj m xs a e1 e2 ⟨j,o,b,g2,g4,z3⟩
 have nfo:∀ {m:Nat} {o:O} {a c:Addr},m∉nN as->aj[m]?=some (some (.obj o))->σ[m]?=some (some (.ref a))->c∈o.fp a->¬jE vs bs c:=λ{m o a c} hm e1 e2 hc z=>by
  rcases z with⟨i,ys,z1,z2⟩|⟨i,p,b,z1,z2,z3⟩
  ·obtain⟨j,v,g1,g2,g3,g4⟩:=wZ z1 (λd z=>nomatch z)
   rw[z2]at g3;cases g3;exact R.ob.gj j ys c g2 g4 ⟨m,o,a,e1,e2,hc⟩
  ·obtain⟨j,v,g1,g2,g3,g4⟩:=wZ z1 (λd z=>nomatch z)
   rw[z2]at g3;cases g3;exact R.ob.oE m j o p a b e1 g2 e2 g4 (λy=>hm (y ▸ eB g1)) c hc z3
 have up:∀ {c:Addr},H c≠none->H' c≠none:=λ{c} h=>by
  by_cases hf:jE vs bs c
  ·exact fn c hf
  ·cases q:H c with
   | none=>exact absurd q h
   | some o=>rw[fm c o hf q];exactλz=>nomatch z
 have kp:∀ {c:Addr},¬jE vs bs c->H c≠none->H' c=H c:=λ{c} hf h=>by
  cases q:H c with
  | none=>exact absurd q h
  | some o=>exact fm c o hf q
 have fz:∀ {c:Addr},¬jE vs bs c->F c=none->H c≠none->(∀us,H c≠some (.tup us))->F' c=none:=λ{c} hf h1 h2 h3=>by
  cases q:F' c with
  | none=>rfl
  | some o =>
   rcases fr c o q with w|w|⟨us,rfl⟩
   ·rw[h1]at w;cases w
   ·exact absurd w h2
   ·have:=s2 c _ q
    rw[kp hf h2]at this;exact absurd this (h3 us)
 have abO:∀ {c:Addr},jE vs bs c->Y.H0 c=none\/c∈Y.vk:=λ{c} z=>by
  rcases z with⟨i,ys,z1,z2⟩|⟨i,p,b,z1,z2,z3⟩
  ·obtain⟨j,v,g1,g2,g3,g4⟩:=wZ z1 (λd z=>nomatch z)
   rw[z2]at g3;cases g3;obtain⟨a,us,f1,_,_,_,f5⟩:=R.own j ys g2;rw[g4]at f1;cases f1;exact f5.imp id λy=>List.mem_append_left _ y
  ·obtain⟨j,v,g1,g2,g3,g4⟩:=wZ z1 (λd z=>nomatch z)
   rw[z2]at g3;cases g3;obtain⟨a,f1,_,f3⟩:=R.ob.obj j p g2;rw[g4]at f1;cases f1;exact(f3 c z3).2.2.imp id λy=>List.mem_append_right _ y
 refine⟨by rw[hX];exact R.len,R.lo.trans s1,s2,λb o q=>?_,λb o q n=>?_,λm d e=>?_,λm ys e=>?_,λm n ys zs a e1 e2 e3 e4=>?_,λp hp=>?_,⟨λm p e=>?_,λm n p q a b e1 e2 e3 e4 cT c hc Jp=>?_,λn ys b e1 e2 ⟨m,p,a,e3,e4,hm⟩=>?_,λb hb=>up (R.ob.there b hb),R.ob.HE,R.ob.tab.mono s1⟩⟩
 ·rcases fr b o q with h|h
  ·exact R.eJ b o h
  ·exact .inr (h.imp (λh=>(R.bg h).1) id)
 ·refine fm b o (λz=>?_) (R.old b o q n)
  rcases abO z with y|y
  ·rw[q]at y;cases y
  ·exact n y
 ·have e0:aj[m]?=some (some (.sh d)):=by
   rcases st e with⟨_,e⟩|⟨i,h1,h2⟩
   ·exact e
   ·obtain⟨b,v,g1,g2,_⟩:=inn h1
    rw[lk.shr h2]at g1;cases g1;exact g2
  obtain⟨v,h1,h2⟩:=R.sh m d e0;exact⟨v,h1,h2.mono s1⟩
 ·rcases st e with⟨hm,e⟩|⟨i,h1,h2⟩
  ·obtain⟨a,us,g1,g2,g3,g4,g5⟩:=R.own m ys e
   have nf:=nfx hm e g1;exact⟨a,us,g1,fm a _ nf g2,g3.mono s1,fz nf g4 (by rw[g2];exactλz=>nomatch z) (λus z=>by rw[g2]at z;cases z),g5⟩
  ·obtain⟨a,us,g1,g2,g3,g4⟩:=ow i ys h2
   obtain⟨xs,h3⟩:=lk.B6 h2;obtain⟨j,v,f1,f2,f3,f4⟩:=wZ h3 (λd z=>nomatch z);rw[h1]at f1;cases f1;rw[g1]at f3;cases f3;obtain⟨a',Vg,k1,_,_,_,k5⟩:=R.own m xs f2;rw[f4]at k1;cases k1;exact⟨a,us,f4,g2,g3,g4,k5⟩
 ·obtain⟨xs,h1⟩:=stX e1
  obtain⟨xs',h2⟩:=stX e2;exact R.dis m n xs xs' a h1 h2 e3 e4
 ·obtain⟨h1,xs,h2⟩:=R.io p hp
  refine⟨h1,?_⟩
  by_cases hm:p.1∈nN as
  ·obtain⟨i,hi⟩:=kS hm
   obtain⟨b,v,g1,g2,_⟩:=inn hi;rw[h2]at g2;cases g2;obtain⟨ys,h3⟩:=lk.Zo g1;exact⟨ys,gJ aj as eL i nd hi h3 (List.getElem?_eq_some_iff.mp h2).1⟩
  ·exact⟨xs,by rw[eA _ _ _ hm];exact h2⟩
 ·rcases st e with⟨hm,e⟩|⟨i,h1,h2⟩
  ·obtain⟨a,g1,g2,g3⟩:=R.ob.obj m p e
   have nf:∀c∈p.fp a,¬jE vs bs c:=λc hc=>nfo hm e g1 hc;refine⟨a,g1,p.mono s1 (λc hc=>kp (nf c hc) (g3 c hc).2.1) g2,λc hc=>⟨fz (nf c hc) (g3 c hc).1 (g3 c hc).2.1 (λus z=>p.nt g2 hc z),up (g3 c hc).2.1,(g3 c hc).2.2⟩⟩
  ·obtain⟨a,g1,g2,g3⟩:=oj i p h2
   obtain⟨o,h3,h4,_⟩:=lk.B2 h2;obtain⟨j,v,f1,f2,f3,f4⟩:=wZ h3 (λd z=>nomatch z);rw[h1]at f1;cases f1;rw[g1]at f3;cases f3;obtain⟨a',k1,_,k3⟩:=R.ob.obj m o f2;rw[f4]at k1;cases k1;exact⟨a,f4,g2,λc hc=>⟨(g3 c hc).1,(g3 c hc).2,(k3 c (by rw[<- h4];exact hc)).2.2⟩⟩
 ·obtain⟨o,f1,f2⟩:=stO e1
  obtain⟨o',f3,f4⟩:=stO e2;exact R.ob.oE m n o o' a b f1 f3 e3 e4 cT c (by rw[<- f2];exact hc) (by rw[<- f4];exact Jp)
 ·obtain⟨xs,h1⟩:=stX e1
  obtain⟨o,f1,f2⟩:=stO e3;exact R.ob.gj n xs b h1 e2 ⟨m,o,a,f1,e4,by rw[<- f2];exact hm⟩
variable {G:GE}{k:Nat}{S:Stat}
def CM(sp:jN)(bs:List B)(Q:B->List B->Prop):Prop:=sp bs Q
def nD(sp:jN)(as:List AV)(σ:Sd)(Q:EV->Sd->Prop):Prop:=match eV σ as with
 | some bs=>(nN as).Nodup/\(∀j∈Ax as,j∉nN as)/\CM sp bs λb eL=>(Ax as=[]\/(noB b=true/\eL.all QV=true))/\Q (bE b) (bM σ as eL)
 | none=>False
theorem iU{Y:bB}{F:Hp}{aj:Sd}{σ:St}{H:Hp}{sp:jN}{as:List AV}{vs:List V}{Qd:EV->Sd->Prop}{Q:VK}{E:XK}(R:RS Y F aj σ H)(ra:de F σ vs as)(q:nD sp as aj Qd)
  (K:∀v H' F' x aG,au F F'->RS Y F' aG σ H'->Iv Y F' H' aG σ v x->Qd x aG->Q v H'):dM sp vs H Q E:=by
 unfold nD at q
 split at q
 ·rename_i bs ea
  obtain⟨nd,hl,q⟩:=q;obtain⟨F2,s1,s2,h1,h2,h3⟩:=pJ R (Ax as);have ar:=IC R ra ea nd hl s1 h1 h2;refine⟨F2,bs,_,⟨s2,R.ob.tab.mono s1⟩,ar,q,λv H' F' b eL t1 t2 fm fn ar' lk fr rr qq=>?_⟩;obtain⟨hn,qq⟩:=qq
  -- what was lent is given back
  obtain⟨F3,e3⟩:∃F3:Hp,F3=λc=>@ite _ (F c=none/\F2 c≠none) (Classical.propDecidable _) none (F' c):=⟨_,rfl⟩;have Wu:∀c,(F3 c=none/\F c=none/\F2 c≠none)\/F3 c=F' c:=λc=>by
   by_cases z:F c=none/\F2 c≠none
   ·exact .inl ⟨by rw[e3];exact if_pos z,z⟩
   ·exact .inr (by rw[e3];exact if_neg z)
  have u1:au F F3:=λc u z=>by
   rcases Wu c with⟨_,y,_⟩|y
   ·rw[z]at y;cases y
   ·rw[y];exact t1 c u (s1 c u z)
  have u2:∀c u,F3 c=some u->F' c=some u:=λc u z=>by
   rcases Wu c with⟨y,_⟩|y
   ·rw[z]at y;cases y
   ·rw[<- y];exact z
  have u3:au F3 H':=λc u z=>t2 c u (u2 c u z);have u4:∀c o,F3 c=some o->F c=some o\/Nw H c o:=λc o z=>by
   rcases fr c o (u2 c o z)with y|y
   ·rcases Wu c with⟨y1,_⟩|y1
    ·rw[z]at y1;cases y1
    ·cases qF:F c with
     | some u=>rw[s1 c u qF]at y;cases y;exact .inl rfl
     | none =>
      exfalso;have:F3 c=none:=by rw[e3];exact if_pos ⟨qF,by rw[y];exactλz=>nomatch z⟩
      rw[z]at this;cases this
   ·exact .inr y
  have mq:Ax as=[]->F3=F':=λe=>by
   have:=h3 e;subst this;funext c;rcases Wu c with⟨_,y1,y2⟩|y
   ·exact absurd y1 y2
   ·exact y
  have hs:∀c u,F' c=some u->F3 c=some u\/dl u=true:=λc u z=>by
   rcases Wu c with⟨_,y1,y2⟩|y
   ·right
    cases q2:F2 c with
    | none=>exact absurd q2 y2
    | some w =>
     have:=t1 c w q2;rw[z]at this;cases this;rcases h2 c u q2 with y|⟨y,_⟩
     ·rw[y1]at y;cases y
     ·exact y
   ·rw[y];exact .inl z
  have abP:∀(i:Nat) (xs:List D),eL[i]?=some (.own xs)->∃a us,vs[i]?=some (.ref a)/\H' a=some (.lst us)/\aE F3 us xs/\F3 a=none:=λi xs e=>by
   obtain⟨a,us,g1,g2,g3,g4⟩:=ar'.own i xs e;refine⟨a,us,g1,g2,?_,?_⟩
   ·rcases hn with hn|⟨_,hn⟩
    ·rw[mq hn];exact g3
    ·exact aE.mq hs g3 (List.all_eq_true.mp hn _ (List.mem_of_getElem? e))
   ·cases y:F3 a with
    | none=>rfl
    | some u=>rw[u2 a u y]at g4;cases g4
  have abL:∀(i:Nat) (o:O),eL[i]?=some (.obj o)->∃a,vs[i]?=some (.ref a)/\o.rep F3 H' a/\∀c∈o.fp a,F3 c=none/\H' c≠none:=λi o e=>by
   obtain⟨a,g1,g2,g3⟩:=ar'.obj i o e;rcases hn with hn|⟨_,hn⟩
   ·rw[mq hn];exact⟨a,g1,g2,g3⟩
   ·have:=List.all_eq_true.mp hn _ (List.mem_of_getElem? e)
    cases this
  have R3:=R.Nn ra ea nd lk u1 u3 fm fn u4 abP abL;refine K v H' F3 (bE b) _ u1 R3 ?_ qq;cases b with
  | sh d =>
   have rr:Rep F' v d:=rr;show Rep F3 v d;rcases hn with hn|⟨hn,_⟩
   ·rw[mq hn];exact rr
   ·exact Rep.mq hs rr hn
  | own xs =>
   obtain⟨a,us,rfl,w1,w2,w3,w4⟩:=rr;refine⟨a,us,rfl,w1,?_,?_,(R.bg w4).1,?_⟩
   ·rcases hn with hn|⟨hn,_⟩
    ·rw[mq hn];exact w2
    ·exact aE.mq hs w2 hn
   ·cases y:F3 a with
    | none=>rfl
    | some u=>rw[u2 a u y]at w3;cases w3
   ·exact zP R ra ea nd lk w4
  | obj o =>
   obtain⟨a,rfl,w1,w2⟩:=rr;rcases hn with hn|⟨hn,_⟩
   ·rw[mq hn]
    exact⟨a,rfl,w1,λc hc=>⟨(w2 c hc).1,(w2 c hc).2.1,(R.bg (w2 c hc).2.2).1,zP R ra ea nd lk (w2 c hc).2.2⟩⟩
   ·cases hn
 ·exact q.elim
def Mz(sp:jN)(t:vh):TX:=λσ Q=>t σ λas aw=>nD sp as aw Q
theorem jw{x:Str}{sp:jN}{e:Expr}{es:List Expr}{t:vh}{p pos:Pos}(h:sC G k x sp)(ha:HS G k S (e::es) t)(hg:S.sc.lookup x=some .globalImplicit:=by rfl)(iZ:(x==("__debug__":Str))=false:=by decide)
  (he:∀env,starEach (e::es) env=(false,eval e env)::starEach es env:=by exactλ_=>Vc.cj rfl) (eY:∀env,(backTo pos (starEach es env)).any (·.1)=false:=by intro _;rfl) (hh:S.jG=false:=by rfl):EX G k S (.Call (.Name x p) (e::es) [] pos) (Mz sp t):=.mk λX Y ok=>by
 obtain⟨f,fd,ps,h1,h2,h3,h4⟩:=h;have mQ:bW X.prog X.w X.K X.mg X.base iL k f fd ps (dM sp):=by rw[ok.P,ok.w,ok.K,ok.mg,ok.base];exact h1
 refine aV (oN (E:=E0) (dvs:=[]) (ds:=[]) mQ (ok.room hh) (di ok hg) (by rw[ok.mg];exact h2) (by rw[ok.K];exact h3) (by rw[ok.K];exact h4) .nil nO (ha.run X Y ok) iZ (he _) (eY _)) λσ H Q q=>?_
 obtain⟨F,aj,Qd,R,q,K⟩:=q;refine⟨F,aj,_,R,q,λvs H1 F1 as aw s1 R1 r1 q1=>?_⟩;show dM sp (vs++[]) H1 Q E0;rw[List.append_nil];exact iU R1 r1 q1 λv H' F' x aG s R' rx qx=>K v H' F' x aG (s1.trans s) R' rx qx
end Vc
namespace Vc
open PySem L2
variable [KF]
variable {G:GE}{k:Nat}{S:Stat}
def cN(n:Nat)(bs:List B):Sd:=bs.map some++List.replicate (n-bs.length) none
theorem cS{α:Type}{xs:List α}{m i:Nat}{x:α}(h:(xs.map some++List.replicate m none)[i]?=some (some x)):xs[i]?=some x:=by
 rw[List.getElem?_append]at h
 split at h
 ·rw[List.getElem?_map]at h
  obtain⟨y,h1,h2⟩:=Option.map_eq_some_iff.mp h;cases h2;exact h1
 ·rw[List.getElem?_replicate]at h
  split at h<;>cases h
theorem qj{α:Type}{xs:List α}{m i:Nat}{x:α}(h:xs[i]?=some x):(xs.map some++List.replicate m none)[i]?=some (some x):=by
 rw[List.getElem?_append_left (by rw[List.length_map];exact(List.getElem?_eq_some_iff.mp h).1),List.getElem?_map,h];rfl
def tO(vs:List V)(bs:List B):List (Nat×Addr):=(List.range bs.length).filterMap λ(i:Nat)=>match bs[i]?,vs[i]? with
 | some (.own _),some (.ref a)=>some (i,a)
 | _,_=>none
def w8(vs:List V)(bs:List B):List Addr:=(List.range bs.length).flatMap λ(i:Nat)=>match bs[i]?,vs[i]? with
 | some (.obj o),some (.ref a)=>o.fp a
 | _,_=>[]
theorem fC{vs:List V}{bs:List B}{i:Nat}{a:Addr}:(i,a)∈tO vs bs ↔ ∃xs,bs[i]?=some (.own xs)/\vs[i]?=some (.ref a):=by
 unfold tO;rw[List.mem_filterMap];constructor
 ·rintro⟨j,_,h⟩
  split at h
  ·rename_i xs b e1 e2
   cases h;exact⟨xs,e1,e2⟩
  ·cases h
 ·rintro⟨xs,e1,e2⟩
  exact⟨i,List.mem_range.mpr (List.getElem?_eq_some_iff.mp e1).1,by rw[e1,e2]⟩
theorem kP{vs:List V}{bs:List B}{c:Addr}:c∈w8 vs bs ↔ ∃(i:Nat) (o:O) (a:Addr),bs[i]?=some (.obj o)/\vs[i]?=some (.ref a)/\c∈o.fp a:=by
 unfold w8;rw[List.mem_flatMap];constructor
 ·rintro⟨j,_,h⟩
  split at h
  ·rename_i o b e1 e2
   exact⟨j,o,b,e1,e2,h⟩
  ·cases h
 ·rintro⟨i,o,a,e1,e2,e3⟩
  exact⟨i,List.mem_range.mpr (List.getElem?_eq_some_iff.mp e1).1,by rw[e1,e2];exact e3⟩
theorem tG{vs:List V}{bs:List B}{F H:Hp}{c:Addr}:c∈(bB.mk H F (tO vs bs) (w8 vs bs)).vk ↔ jE vs bs c:=by
 unfold bB.vk jE;rw[List.mem_append,kP,List.mem_map];constructor
 ·rintro(⟨⟨i,a⟩,h1,h2⟩|h)
  ·have h2:a=c:=h2
   subst h2;obtain⟨xs,e1,e2⟩:=fC.mp h1;exact .inl ⟨i,xs,e1,e2⟩
  ·exact .inr h
 ·rintro(⟨i,xs,e1,e2⟩|h)
  ·exact .inl ⟨(i,c),fC.mpr ⟨xs,e1,e2⟩,rfl⟩
  ·exact .inr h
theorem RS.cN{F H:Hp}{vs:List V}{bs:List B}(n:Nat)(s:jO F H)(r:jK F H vs bs):RS ⟨H,F,tO vs bs,w8 vs bs⟩ F (Vc.cN n bs) (vs.map some++List.replicate (n-vs.length) none) H where
 len:=by unfold Vc.cN;simp [r.len]
 lo:=au.refl _
 fr:=s.1
 eJ:=λb o e=>.inl e
 old:=λb o e _=>e
 sh:=λi d e=>by
  obtain⟨v,h1,h2⟩:=r.sh i d (cS e);exact⟨v,qj h1,h2⟩
 own:=λi xs e=>by
  obtain⟨a,us,h1,h2,h3,h4⟩:=r.own i xs (cS e);exact⟨a,us,qj h1,h2,h3,h4,.inr (List.mem_map.mpr ⟨(i,a),fC.mpr ⟨xs,cS e,h1⟩,rfl⟩)⟩
 dis:=λi j xs ys a e1 e2 e3 e4=>r.dis i j xs ys a (cS e1) (cS e2) (cS e3) (cS e4)
 io:=λp hp=>by
  obtain⟨i,a⟩:=p;obtain⟨xs,e1,e2⟩:=fC.mp hp;exact⟨qj e2,xs,qj e1⟩
 ob:=by
  refine⟨λi o e=>?_,λi j o p a b e1 e2 e3 e4 PH=>r.oE i j o p a b (cS e1) (cS e2) (cS e3) (cS e4) PH,λj xs b e1 e2 ⟨i,o,a,e3,e4,hm⟩=>r.gj i j xs o a b (cS e1) (cS e2) (cS e3) (cS e4) hm,λb hb=>?_,λb hb=>?_,s.2⟩
  ·obtain⟨a,h1,h2,h3⟩:=r.obj i o (cS e)
   exact⟨a,qj h1,h2,λc hc=>⟨(h3 c hc).1,(h3 c hc).2,.inr (kP.mpr ⟨i,o,a,cS e,h1,hc⟩)⟩⟩
  ·obtain⟨i,o,a,e1,e2,e3⟩:=kP.mp hb
   obtain⟨a',h1,_,h3⟩:=r.obj i o e1;rw[e2]at h1;cases h1;exact(h3 b e3).2
  ·obtain⟨i,o,a,e1,e2,e3⟩:=kP.mp hb
   obtain⟨a',h1,_,h3⟩:=r.obj i o e1;rw[e2]at h1;cases h1;exact(h3 b e3).2
def iP:Nat->List B->List B->Sd->Prop
 | i,.sh _::bs,_::cs,σ=>iP (i+1) bs cs σ
 | i,.own _::bs,c::cs,σ=>σ[i]?=some (some c)/\iP (i+1) bs cs σ
 | i,.obj _::bs,c::cs,σ=>σ[i]?=some (some c)/\iP (i+1) bs cs σ
 | _,_,_,_=>True
theorem iP.at{σ:Sd}:∀ {bs cs:List B} {i j:Nat} {b c:B},iP i bs cs σ->bs[j]?=some b->(∀d,b≠.sh d)->cs[j]?=some c->σ[i+j]?=some (some c)
 | [],_,_,_,_,_,_,e,_,_=>by simp at e
 | _::_,[],_,_,_,_,_,_,_,e=>by simp at e
 | .sh d::bs,c'::cs,i,0,b,c,h,e,n,e'=>by simp at e;exact absurd e.symm (n d)
 | .own xs::bs,c'::cs,i,0,b,c,h,e,n,e'=>by simp at e';subst e';exact h.1
 | .obj o::bs,c'::cs,i,0,b,c,h,e,n,e'=>by simp at e';subst e';exact h.1
 | .sh d::bs,c'::cs,i,j+1,b,c,h,e,n,e'=>by
  have:=iP.at (i:=i+1) (j:=j) h (by simpa using e) n (by simpa using e')
  rw[show i+(j+1)=i+1+j by omega];exact this
 | .own xs::bs,c'::cs,i,j+1,b,c,h,e,n,e'=>by
  have:=iP.at (i:=i+1) (j:=j) h.2 (by simpa using e) n (by simpa using e')
  rw[show i+(j+1)=i+1+j by omega];exact this
 | .obj o::bs,c'::cs,i,j+1,b,c,h,e,n,e'=>by
  have:=iP.at (i:=i+1) (j:=j) h.2 (by simpa using e) n (by simpa using e')
  rw[show i+(j+1)=i+1+j by omega];exact this
def xV(bs:List B)(Q:B->List B->Prop)(b:B)(σ:Sd):Prop:=∃eL,d4 bs eL/\iP 0 bs eL σ/\Q b eL
theorem Dp{F F' H H':Hp}{vs:List V}{bs eL:List B}{aj:Sd}{σ:St}(r:jK F H vs bs)(s:au F F')(R:RS ⟨H,F,tO vs bs,w8 vs bs⟩ F' aj σ H')(lk:d4 bs eL)(mg:iP 0 bs eL aj):jK F' H' vs eL:=by
 have abQ:∀ {i:Nat} {ys:List D},eL[i]?=some (.own ys)->∃a us,vs[i]?=some (.ref a)/\H' a=some (.lst us)/\aE F' us ys/\F' a=none:=λ{i ys} e=>by
  obtain⟨xs,h1⟩:=lk.B6 e;have h2:=mg.at h1 (λd z=>nomatch z) e;rw[Nat.zero_add]at h2;obtain⟨a,us,g1,g2,g3,g4,g5⟩:=R.own i ys h2;obtain⟨a0,VU,f1,_⟩:=r.own i xs h1;have f2:=(R.io (i,a0) (fC.mpr ⟨xs,h1,f1⟩)).1;have f2:σ[i]?=some (some (.ref a0)):=f2;rw[g1]at f2;cases f2;exact⟨a,us,f1,g2,g3,g4⟩
 have abM:∀ {i:Nat} {p:O},eL[i]?=some (.obj p)->∃a,vs[i]?=some (.ref a)/\p.rep F' H' a/\∀c∈p.fp a,F' c=none/\H' c≠none:=λ{i p} e=>by
  obtain⟨o,h1,h3,h4,h5⟩:=lk.B2 e;have h2:=mg.at h1 (λd z=>nomatch z) e;rw[Nat.zero_add]at h2;obtain⟨a,g1,g2,g3⟩:=R.ob.obj i p h2;obtain⟨a0,f1,f2,_⟩:=r.obj i o h1;cases hl:o.loc with
  | none=>exact absurd hl h5
  | some l =>
   have e1:=o.JK f2 hl;have e2:=p.JK g2 (h4.trans hl);subst e1;subst e2;exact⟨a,f1,g2,λc hc=>⟨(g3 c hc).1,(g3 c hc).2.1⟩⟩
 refine⟨r.len.trans lk.len,λi d e=>?_,λi ys e=>abQ e,λi p e=>abM e,λi j xs ys a e1 e2 e3 e4=>?_,λi j o p a b e1 e2 e3 e4 PH c hc Jp=>?_,λi j xs o a b e1 e2 e3 e4 hm=>?_⟩
 ·obtain⟨v,h1,h2⟩:=r.sh i d (lk.shr e)
  exact⟨v,h1,h2.mono s⟩
 ·obtain⟨xs',h1⟩:=lk.B6 e1
  obtain⟨ys',h2⟩:=lk.B6 e2;exact r.dis i j xs' ys' a h1 h2 e3 e4
 ·obtain⟨o',h1,h2,_⟩:=lk.B2 e1
  obtain⟨p',h3,h4,_⟩:=lk.B2 e2;exact r.oE i j o' p' a b h1 h3 e3 e4 PH c (by rw[<- h2];exact hc) (by rw[<- h4];exact Jp)
 ·obtain⟨xs',h1⟩:=lk.B6 e1
  obtain⟨o',h2,h3,_⟩:=lk.B2 e3;exact r.gj i j xs' o' a b h1 e2 h2 e4 (by rw[<- h3];exact hm)
theorem LZ{x qual:Str}{st:Stmt}{f:Addr}{fd:FuncData}{N ps:List Str}{sp:jN}{t:bK}{ios:List Nat}(hK:G.K=KF.K)(Fn:xZ G.K x qual st f fd)(Sc:aC N ps (ae st))(ht:cB G k ⟨N,(ae st).names,ios,false,false,false,λ_ _=>False⟩ (ak st) t)
  (len:∀bs Q,sp bs Q->bs.length=ps.length) (wF:∀bs Q,sp bs Q->∀(i:Nat) (xs:List D),bs[i]?=some (.own xs)->i∈ios) (cT:ios≠[])
  (body:∀bs Q,sp bs Q->t {nx:=xV bs Q (.sh .aU),rt:=λb σ=>xV bs Q b σ} (cN N.length bs)):bW G.P G.w G.K G.mg G.base iL (k+1) f fd ps (dM sp):=by
 refine Fn.ok Sc (λvs H Q E h=>?_) (λgh A outer s H vs Q E hr h=>?_)
 ·obtain⟨F,bs,Qd,s,r,q,K⟩:=h
  rw[r.len];exact len _ _ q
 ·obtain⟨F,bs,Qd,sm,r,q,K⟩:=h
  refine⟨_,ht (kz iL G.P G.w G.K G.mg G.base N qual (ae st) f gh A outer s H E).JR ⟨H,F,tO vs bs,w8 vs bs⟩ ⟨rfl,rfl,rfl,hK,rfl,rfl,rfl,rfl,Sc.nd,λp hp=>by
   obtain⟨i,a⟩:=p;obtain⟨xs,e1,_⟩:=fC.mp hp;exact wF _ _ q i xs e1,(λ_ h=>absurd h cT),λ_=>rfl,Sc.kind,λ_ _ _=>rfl,λ_=>hr.hd,hr.dp,hr.un,λ_=>PassesOwn.never,λ_=>⟨rfl,rfl,rfl⟩,λ_ _ h=>h.elim,λh=>nomatch h⟩,F,cN N.length bs,_,RS.cN _ sm r,body bs Qd q,?_⟩
  have fin:∀ {F':Hp} {aj:Sd} {σ:St} {H':Hp} {v:V} {b:B},au F F'->RS ⟨H,F,tO vs bs,w8 vs bs⟩ F' aj σ H'->Bi H F' H' v b->xV bs Qd b aj->Q v H':=λ{F' aj σ H' v b} s' R' r' q'=>by
   obtain⟨eL,lk,mg,q'⟩:=q';have ar:=Dp r s' R' lk mg;refine K v H' F' b eL s' R'.fr (λc o z e=>R'.old c o e λy=>z (tG.mp y)) (λc z=>?_) ar lk R'.eJ r' q';rcases z with⟨i,xs,e1,e2⟩|⟨i,o,a,e1,e2,e3⟩
   ·obtain⟨ys,h1⟩:=lk.Zo e1
    obtain⟨a,us,g1,g2,_⟩:=ar.own i ys h1;rw[e2]at g1;cases g1;rw[g2];exactλy=>nomatch y
   ·obtain⟨p,h1,h2,_⟩:=lk.abN e1
    obtain⟨a',g1,_,g3⟩:=ar.obj i p h1;rw[e2]at g1;cases g1;exact(g3 c (by rw[h2];exact e3)).2
  refine⟨λσ H' F' aj s' R' q'=>?_,λv σ H' F' aj b s' R' r' q'=>?_,λ_ _ _ _ _ _ h=>h.elim,λ_ _ _ _ _ _ h=>h.elim⟩
  ·exact fin (b:=.sh .aU) s' R' .aU q'
  ·refine fin (b:=b) s' R' ?_ q'
   cases b with
   | sh d=>exact r'
   | own xs =>
    obtain⟨a,us,rfl,w1,w2,w3,w4,w5⟩:=r';exact⟨a,us,rfl,w1,w2,w3,w4⟩
   | obj o =>
    obtain⟨a,rfl,w1,w2⟩:=r';exact⟨a,rfl,w1,λb hb=>⟨(w2 b hb).1,(w2 b hb).2.1,(w2 b hb).2.2.1⟩⟩
theorem dy.fmu{x:Str}{st:Stmt}{ps N:List Str}{f:Addr}{fd:FuncData}{t:bK}{sp:jN}{ios:List Nat}(d:dy G x st ps f fd)(hK:G.K=KF.K)(Sc:aC N ps (ae st))(ht:cB G k ⟨N,(ae st).names,ios,false,false,false,λ_ _=>False⟩ (ak st) t)
  (len:∀bs Q,sp bs Q->bs.length=ps.length) (wF:∀bs Q,sp bs Q->∀(i:Nat) (xs:List D),bs[i]?=some (.own xs)->i∈ios) (cT:ios≠[])
  (body:∀bs Q,sp bs Q->t {nx:=xV bs Q (.sh .aU),rt:=λb σ=>xV bs Q b σ} (cN N.length bs)):sC G (k+1) x sp:=
 ⟨f,fd,ps,LZ hK d.F Sc ht len wF cT body,d.m,d.F.kp,d.b⟩
end Vc
namespace Vc
open PySem L2
variable [KF]
abbrev kC:Addr:=KF.cls "Kept"
def iJ(a dx ad:Addr)(w:Str)(c e:Int)(kvs:List (Int×D)):O where
 fp:=λb=>[b,dx,ad]
 rep:=λF H b=>b=a/\H a=some (.ins kC dx (Ic w c e ad))/\H dx=some (.own a)/\∃ks,H ad=some (.dK ks)/\b9 F ks kvs
 self:=λa=>.head _
 solid:=λ{F H b c' φ} ⟨e0,h1,h2,ks,h3,_⟩ hb z=>by
  subst e0;simp only[List.mem_cons,List.not_mem_nil,or_false]at hb;rcases hb with rfl|rfl|rfl
  ·rw[h1]at z;cases z
  ·rw[h2]at z;cases z
  ·rw[h3]at z;cases z
 nt:=λ{F H b c' vs} ⟨e0,h1,h2,ks,h3,_⟩ hb z=>by
  subst e0;simp only[List.mem_cons,List.not_mem_nil,or_false]at hb;rcases hb with rfl|rfl|rfl
  ·rw[h1]at z;cases z
  ·rw[h2]at z;cases z
  ·rw[h3]at z;cases z
 mono:=λ{F F' H H' b} s e ⟨e0,h1,h2,ks,h3,r⟩=>by
  subst e0;exact⟨rfl,by rw[e b (by simp)];exact h1,by rw[e dx (by simp)];exact h2,ks,by rw[e ad (by simp)];exact h3,r.mono s⟩
 view:=some (.kp w c e kvs)
 sees:=λ{F H b d} ⟨e0,h1,h2,ks,h3,r⟩ q=>by cases q;subst e0;exact⟨b,dx,ad,ks,rfl,h1,h3,r⟩
 lend:=λ{F H b d} s ⟨e0,h1,h2,ks,h3,r⟩ q=>by
  cases q;subst e0;obtain⟨F1,s1,s2,e1,e2⟩:=gW s h1;obtain⟨F2,s3,s4,e3,e4⟩:=gW s2 h3;refine⟨F2,s1.trans s3,s4,.kp (s3 _ _ e1) e3 (r.mono (s1.trans s3)),λc u z=>?_⟩;rcases e4 c u z with z|⟨rfl,rfl⟩
  ·rcases e2 c u z with z|⟨rfl,rfl⟩
   ·exact .inl z
   ·exact .inr ⟨rfl,by simp⟩
  ·exact .inr ⟨rfl,by simp⟩
 loc:=some a
 JK:=λ{F H b c'} ⟨e0,_⟩ q=>by cases q;exact e0
variable {G:GE}{k:Nat}{S:Stat}
structure KG(G:GE):Prop where
 cls:CN G.K kC
 no:∀f:Str,f∈(["way","count","points_by_name","ever_put"]:List Str)->jV G.K kC f
def Pq(f:Str)(w:Str)(c e:Int):Option D:=if f="way" then some (.str w)else if f="count" then some (.int c)else if f="ever_put" then some (.int e)else none
def KN(f:Str)(t:TV):TV:=λσ Q=>t σ λx aw=>match dc aw x with
 | some (.kp w c e kvs)=>∃d,Pq f w c e=some d/\Q (.val d) aw
 | _=>False
theorem JG{f:Str}{w:Str}{c e:Int}{ad:Addr}{d:D}(h:Pq f w c e=some d):∃v,(Ic w c e ad).lookup f=some v/\(∀F:Hp,Rep F v d)/\f∈(["way","count","points_by_name","ever_put"]:List Str):=by
 unfold Pq at h
 by_cases h1:f="way"
 ·subst h1
  rw[if_pos rfl]at h;cases h;exact⟨.str w,rfl,λ_=>.str w,by simp⟩
 ·rw[if_neg h1]at h
  by_cases h2:f="count"
  ·subst h2
   rw[if_pos rfl]at h;cases h;exact⟨.int c,rfl,λ_=>.int c,by simp⟩
  ·rw[if_neg h2]at h
   by_cases h3:f="ever_put"
   ·subst h3
    rw[if_pos rfl]at h;cases h;exact⟨.int e,rfl,λ_=>.int e,by simp⟩
   ·rw[if_neg h3]at h;cases h
theorem yN{o:Expr}{t:TV}{f:Str}{pos:Pos}(kg:KG G)(h:EO G k S o t)(hb:∀env,attributeBase o f env (eval o env)=eval o env:=by intro _;rfl):EO G k S (.Attribute o f pos) (KN f t):=.mk λX Y ok =>
 aV (tW (h X Y ok) (hb _)) λσ H Q q=>by
  obtain⟨F,aj,Qd,R,q,K⟩:=q;refine⟨F,aj,_,R,q,λv1 H1 F1 x aw s1 R1 r1 q1=>?_⟩
  split at q1
  ·rename_i w c e kvs ed
   obtain⟨d,hd,q1⟩:=q1;obtain⟨a,dx,ad,ks,rfl,h1,h2,_⟩:=R1.dc r1 ed;obtain⟨v,g1,g2,g3⟩:=JG (ad:=ad) hd;exact⟨a,kC,dx,_,v,rfl,h1,by rw[ok.K];exact kg.cls,by rw[ok.K];exact kg.no f g3,g1,K v H1 F1 (.val d) aw s1 R1 (g2 F1) q1⟩
  ·exact q1.elim
def UT(t:TD):TV:=λσ Q=>t σ λx aw=>match x with
 | .kp w c e kvs=>Q (.val (.jt kvs)) aw
 | _=>False
theorem Gz{o:Expr}{t:TD}{pos:Pos}(kg:KG G)(h:ED G k S o t)(hb:∀env,attributeBase o "points_by_name" env (eval o env)=eval o env:=by intro _;rfl):EO G k S (.Attribute o "points_by_name" pos) (UT t):=.mk λX Y ok =>
 aV (tW (h X Y ok) (hb _)) λσ H Q q=>by
  obtain⟨F,aj,Qd,R,q,K⟩:=q;refine⟨F,aj,_,R,q,λv1 H1 F1 x aw s1 R1 r1 q1=>?_⟩
  split at q1
  ·rename_i w c e kvs
   cases(show Rep F1 v1 (.kp w c e kvs)from r1)with
   | @kp a dx ad _ _ _ ks _ h1 h2 r =>
    exact⟨a,kC,dx,_,.ref ad,rfl,R1.fr _ _ h1,by rw[ok.K];exact kg.cls,by rw[ok.K];exact kg.no _ (by simp),rfl,K _ H1 F1 (.val (.jt kvs)) aw s1 R1 (.jt h2 r) q1⟩
  ·exact q1.elim
theorem RS.kpW{Y:bB}{F:Hp}{aj:Sd}{σ:St}{H:Hp}{i:Nat}{a dx ad:Addr}{w:Str}{c e e':Int}{kvs Yw:List (Int×D)}{u:HO}{b:Addr}(R:RS Y F aj σ H)(q:aj[i]?=some (some (.obj (iJ a dx ad w c e kvs))))(h:σ[i]?=some (some (.ref a)))(hb:b∈[a,dx,ad])
  (hr:(iJ a dx ad w c e' Yw).rep F (upd H b u) a):RS Y F (aj.set i (some (.obj (iJ a dx ad w c e' Yw)))) σ (upd H b u):=R.ja q h hb (λ_ z=>z) hr
def tKP(i:Nat)(tk:TV)(tv:TD):bK:=λDe σ=>tv σ λd aw=>(∃a dx ad w c e kvs,aw[i]?=some (some (.obj (iJ a dx ad w c e kvs))))/\tk aw λy aO=>match dc aO y with
 | some (.int j)=>∃a dx ad w c e kvs,aO[i]?=some (some (.obj (iJ a dx ad w c e kvs)))/\aO[i]?=aw[i]?/\kvs.length<sizeLine/\De.nx (aO.set i (some (.obj (iJ a dx ad w c e (yp kvs j d)))))
 | _=>False
theorem TY(i:Nat){x:Str}{ke ve:Expr}{tk:TV}{tv:TD}{np ap pos' pos:Pos}(kg:KG G)(hv:ED G k S ve tv)(hk:EO G k S ke tk)(ho:EO G k S (.Name x np) (KQ i))(hb:∀env,attributeBase (.Name x np) "points_by_name" env (eval (.Name x np) env)=eval (.Name x np) env:=by intro _;rfl)
  (hs:∀line env,swapsWith ve (some (.Subscript (.Attribute (.Name x np) "points_by_name" ap) ke pos')) line env=pure false:=by intro _ _;rfl):
  ES G k S (.Assign [.Subscript (.Attribute (.Name x np) "points_by_name" ap) ke pos'] ve pos) (tKP i tk tv):=.mk λX Y ok =>
 cG (AX (by have:=ok.units;omega) (tW (ho X Y ok) (hb _)) (hk X Y ok) (hv X Y ok) (hs _ _)) λDn σ H q=>by
  obtain⟨F,aj,De,R,q,K⟩:=q;refine⟨F,aj,_,R,q,λv H1 F1 d aw s1 R1 r1 q1=>?_⟩;obtain⟨⟨a0,dx0,ad0,w0,c0,e0,JI,Vu⟩,q1⟩:=q1;refine⟨F1,aw,λx nz=>x=.var i/\nz=aw,R1,⟨⟨_,Vu⟩,rfl,rfl⟩,λv2 H2 F2 y aO s2 R2 r2 q2=>?_⟩;obtain⟨rfl,rfl⟩:=q2;have r2:σ[i]?=some (some v2):=r2;obtain⟨b0,w1,⟨rfl,g1,g2,VU,g3,g4⟩,_⟩:=R2.ob.obj i _ Vu;rw[r2]at w1;cases w1;refine⟨b0,kC,dx0,_,.ref ad0,rfl,g1,by rw[ok.K];exact kg.cls,by rw[ok.K];exact kg.no _ (by simp),rfl,F2,aO,_,R2,q1,λv3 H3 F3 kd fe s3 R3 r3 q3=>?_⟩
  split at q3
  ·rename_i j ej
   obtain rfl:=(R3.dc r3 ej).int;obtain⟨a,dx,ad,w,c,e,kvs,eq,eqq,hl,q3⟩:=q3;have eq':(B.obj (iJ a dx ad w c e kvs))=.obj (iJ b0 dx0 ad0 w0 c0 e0 JI):=by rw[eq,Vu]at eqq;exact Option.some.inj (Option.some.inj eqq)
   obtain⟨b,w1,⟨rfl,y1,y2,us,y3,y4⟩,_⟩:=R3.ob.obj i _ eq;rw[r2]at w1;cases w1;have efp:(iJ b0 dx ad w c e kvs).fp b0=(iJ b0 dx0 ad0 w0 c0 e0 JI).fp b0:=by
    have:=congrArg (λb=>match b with|B.obj o=>o.fp b0|_=>[]) eq'
    exact this
   have efp:[b0,dx,ad]=[b0,dx0,ad0]:=efp;simp only[List.cons.injEq,and_true,true_and]at efp;obtain⟨rfl,rfl⟩:=efp;have n1:b0≠ad:=gA y1 y3 (λz=>nomatch z);have n2:dx≠ad:=gA y2 y3 (λz=>nomatch z);refine⟨ad,_,rfl,.k (k:=.inl j) y3 (by rw[y4.length];exact hl),K.nx σ _ F3 _ ((s1.trans s2).trans s3) (R3.kpW eq r2 (by simp) ⟨rfl,?_,?_,_,aA,y4.put j (r1.mono (s2.trans s3))⟩) q3⟩
   ·rw[aq n1];exact y1
   ·rw[aq n2];exact y2
  ·exact q3.elim
def tKE(i:Nat)(tv:TV):bK:=λDe σ=>tv σ λx aw=>match dc aw x with
 | some (.int j)=>∃a dx ad w c e kvs,aw[i]?=some (some (.obj (iJ a dx ad w c e kvs)))/\De.nx (aw.set i (some (.obj (iJ a dx ad w c j kvs))))
 | _=>False
theorem Cd(w:Str)(c e j:Int)(ad:Addr):df "ever_put" (.int j) (Ic w c e ad)=Ic w c j ad:=by
 unfold Ic;simp only[df];rw[if_neg ∅,if_neg ∅,if_neg ∅]
 simp
theorem Kz(i:Nat){x:Str}{ve:Expr}{tv:TV}{np ap pos:Pos}(kg:KG G)(hv:EO G k S ve tv)(ho:EO G k S (.Name x np) (KQ i))(hs:∀line env,swapsWith ve (some (.Attribute (.Name x np) "ever_put" ap)) line env=pure false:=by intro _ _;rfl):
  ES G k S (.Assign [.Attribute (.Name x np) "ever_put" ap] ve pos) (tKE i tv):=.mk λX Y ok =>
 cG (ua (ho X Y ok) (hv X Y ok) (hs _ _)) λDn σ H q=>by
  obtain⟨F,aj,De,R,q,K⟩:=q;refine⟨F,aj,_,R,q,λv H1 F1 y aw s1 R1 r1 q1=>?_⟩
  split at q1
  ·rename_i j ej
   obtain rfl:=(R1.dc r1 ej).int;obtain⟨a,dx,ad,w,c,e,kvs,eq,q1⟩:=q1;refine⟨F1,aw,λx nz=>x=.var i/\nz=aw,R1,⟨⟨_,eq⟩,rfl,rfl⟩,λv2 H2 F2 y aO s2 R2 r2 q2=>?_⟩;obtain⟨rfl,rfl⟩:=q2;have r2:σ[i]?=some (some v2):=r2;obtain⟨b,w1,⟨rfl,y1,y2,us,y3,y4⟩,_⟩:=R2.ob.obj i _ eq;rw[r2]at w1;cases w1;have n1:dx≠b:=gA y2 y1 (λz=>nomatch z);have n2:ad≠b:=gA y3 y1 (λz=>nomatch z);refine⟨b,kC,dx,_,rfl,y1,by rw[ok.K];exact kg.cls,by rw[ok.K];exact kg.no _ (by simp),by show 4<1000;decide,?_⟩
   rw[Cd];exact K.nx σ _ F2 _ (s1.trans s2) (R2.kpW eq r2 (by simp) ⟨rfl,aA,by rw[aq n1];exact y2,us,by rw[aq n2];exact y3,y4⟩) q1
  ·exact q1.elim
def tKD(i:Nat)(tk:TV):bK:=λDe σ=>∃a dx ad w c e kvs,σ[i]?=some (some (.obj (iJ a dx ad w c e kvs)))/\tk σ λy aO=>match dc aO y with
 | some (.int j)=>aO[i]?=some (some (.obj (iJ a dx ad w c e kvs)))/\(dI kvs j).isSome=true/\De.nx (aO.set i (some (.obj (iJ a dx ad w c e (fN kvs j)))))
 | _=>False
theorem TU(i:Nat){x:Str}{ke:Expr}{tk:TV}{np bp ap cp pos:Pos}(kg:KG G)(hk:EO G k S ke tk)(ho:EO G k S (.Name x np) (KQ i))(hb:∀env,attributeBase (.Name x np) "points_by_name" env (eval (.Name x np) env)=eval (.Name x np) env:=by intro _;rfl)
  (m:∀X:Cx,M1 X (.Attribute (.Name x np) "points_by_name" bp) "pop" ap ke cp:=by intro X;exact⟨rfl,rfl,rfl,rfl⟩):
  ES G k S (.Expr (.Call (.Attribute (.Attribute (.Name x np) "points_by_name" bp) "pop" ap) [ke] [] cp) pos) (tKD i tk):=.mk λX Y ok =>
 cG (tZ (xg (tW (ho X Y ok) (hb _)) (hk X Y ok) (m X)) rfl) λDn σ H q=>by
  obtain⟨F,aj,De,R,⟨a,dx,ad,w,c,e,kvs,Vu,q⟩,K⟩:=q;refine⟨F,aj,λx nz=>x=.var i/\nz=aj,R,⟨⟨_,Vu⟩,rfl,rfl⟩,λv2 H2 F2 y aO s2 R2 r2 q2=>?_⟩;obtain⟨rfl,rfl⟩:=q2;have r2:σ[i]?=some (some v2):=r2;obtain⟨b0,w1,⟨rfl,g1,g2,VU,g3,g4⟩,_⟩:=R2.ob.obj i _ Vu;rw[r2]at w1;cases w1;refine⟨b0,kC,dx,_,.ref ad,rfl,g1,by rw[ok.K];exact kg.cls,by rw[ok.K];exact kg.no _ (by simp),rfl,ad,rfl,.inl ⟨_,.inl g3⟩,F2,aO,_,R2,q,λv3 H3 F3 kd fe s3 R3 r3 q3=>?_⟩
  split at q3
  ·rename_i j ej
   obtain rfl:=(R3.dc r3 ej).int;obtain⟨eq,hl,q3⟩:=q3;obtain⟨b,w1,⟨_,y1,y2,us,y3,y4⟩,_⟩:=R3.ob.obj i _ eq;have n1:b0≠ad:=gA y1 y3 (λz=>nomatch z);have n2:dx≠ad:=gA y2 y3 (λz=>nomatch z);rcases y4.val j with⟨_,e2⟩|⟨v,d',e1,e2,rd⟩
   ·rw[e2]at hl;cases hl
   ·exact⟨us,.inl j,v,y3,rfl,e1,K.nx σ _ F3 _ (s2.trans s3) (R3.kpW eq r2 (by simp) ⟨rfl,by rw[aq n1];exact y1,by rw[aq n2];exact y2,_,aA,y4.drop j⟩) q3⟩
  ·exact q3.elim
end Vc
namespace Vc
open PySem L2
variable [KF]
variable {G:GE}{k:Nat}{S:Stat}
structure oA(G:GE)(m qual:Str)(st:Stmt)(ps:List Str)(f:Addr)(fd:FuncData):Prop where
 F:xZ G.K m qual st f fd
 mt:Meth G.K kC m f
 b:Binds G.K fd ps []
def cv(G:GE)(k:Nat)(m:Str)(sp:jN):Prop:=∃f fd ps,bW G.P G.w G.K G.mg G.base iL k f fd ps (dM sp)/\Meth G.K kC m f/\Binds G.K fd ps []
theorem cv.mono{x:Str}{sp:jN}{j:Nat}(h:cv G j x sp)(l:j<=k):cv G k x sp:=by
 obtain⟨f,fd,ps,h1,h2,h3⟩:=h;exact⟨f,fd,ps,h1.mono l,h2,h3⟩
theorem YD{f:Addr}{fd:FuncData}{ps:List Str}{sp:bA}(h1:bW G.P G.w G.K G.mg G.base iL k f fd ps (qO sp)):bW G.P G.w G.K G.mg G.base iL k f fd ps (dM (d6 sp)):=by
 refine h1.imp λvs H Q E q=>?_;obtain⟨F,bs,Qd,s,r,⟨ds,rfl,q⟩,K⟩:=q;refine⟨F,ds,_,s,oB r,q,λv H' F' b s1 s2 s3 fr rr qq=>K v H' F' b _ s1 s2 (λc o _ e=>s3 c o e) (λc z=>absurd z Ag) (zN ((oB r).mono s1)) (mX λi o e=>?_) fr rr qq⟩;obtain⟨d,e1,_⟩:=dh e;cases e1
theorem oA.fg{m qual:Str}{st:Stmt}{ps N:List Str}{f:Addr}{fd:FuncData}{t:bK}{sp:bA}(d:oA G m qual st ps f fd)(hK:G.K=KF.K)(Sc:aC N ps (ae st))(ht:cB G k ⟨N,(ae st).names,[],false,false,false,λ_ _=>False⟩ (ak st) t)
  (len:∀ds Q,sp ds Q->ds.length=ps.length) (body:∀ds Q,sp ds Q->t {nx:=λ_=>Q (.sh .aU),rt:=λb _=>Q b} (aJ N.length ds)):cv G (k+1) m (d6 sp):=
 ⟨f,fd,ps,YD (EJ hK d.F Sc ht len body),d.mt,d.b⟩
theorem oA.fmu{m qual:Str}{st:Stmt}{ps N:List Str}{f:Addr}{fd:FuncData}{t:bK}{sp:jN}{ios:List Nat}(d:oA G m qual st ps f fd)(hK:G.K=KF.K)(Sc:aC N ps (ae st))(ht:cB G k ⟨N,(ae st).names,ios,false,false,false,λ_ _=>False⟩ (ak st) t)
  (len:∀bs Q,sp bs Q->bs.length=ps.length) (wF:∀bs Q,sp bs Q->∀(i:Nat) (xs:List D),bs[i]?=some (.own xs)->i∈ios) (cT:ios≠[])
  (body:∀bs Q,sp bs Q->t {nx:=xV bs Q (.sh .aU),rt:=λb σ=>xV bs Q b σ} (cN N.length bs)):cv G (k+1) m sp:=
 ⟨f,fd,ps,LZ hK d.F Sc ht len wF cT body,d.mt,d.b⟩
def oS(sp:jN)(to:TD)(t:vh):TX:=λσ Q=>to σ λx aw=>(∃w c e kvs,x=.kp w c e kvs)/\t aw λas aO=>nD sp (.d x::as) aO Q
def Qe(σ:Sd)(j:Nat):Prop:=∃o w c e kvs,σ[j]?=some (some (.obj o))/\o.view=some (.kp w c e kvs)
def UX(sp:jN)(j:Nat)(t:vh):TX:=λσ Q=>Qe σ j/\t σ λas aO=>nD sp (.n j::as) aO Q
def tMl(sp:jN)(j:Nat)(t:vh):TX:=λσ Q=>Qe σ j/\t σ λas aO=>nD sp (.l j::as) aO Q
theorem pH{w:Str}{c e:Int}{ad:Addr}{m:Str}(h:(["way","count","points_by_name","ever_put"]:List Str).contains m=false):(Ic w c e ad).lookup m=none:=by
 unfold Ic;simp only[List.contains_cons,List.contains_nil,Bool.or_false,Bool.or_eq_false_iff]at h;simp only[List.lookup,h.1,h.2.1,h.2.2.1,h.2.2.2]
section
variable {o e:Expr}{es:List Expr}{m:Str}{apos pos:Pos}{sp:jN}{to:TD}{t:vh}{pl:Env->Sem Bool}
theorem wM{X:Cx}{Y:bB}{C:Addr}(hm:(["way","count","points_by_name","ever_put"]:List Str).contains m=false)(hC:C=kC){σ:St}{H:Hp}{Q:VK}(q:lX Y (oS sp to t) σ H Q):sr C m (dM sp) [] E0 (lD Y to) (lAv Y t) σ H Q:=by
 subst hC;obtain⟨F,aj,Qd,R,q,K⟩:=q;refine⟨F,aj,_,R,q,λv1 H1 F1 x aw s1 R1 r1 q1=>?_⟩;obtain⟨⟨w,c,e,kvs,rfl⟩,q1⟩:=q1;cases(show Rep F1 v1 (.kp w c e kvs)from r1)with
 | @kp a dx ad _ _ _ ks _ h1 h2 r =>
  refine⟨a,dx,_,rfl,R1.fr _ _ h1,pH hm,F1,aw,_,R1,q1,λvs H2 F2 as aO s2 R2 r2 q2=>?_⟩;dsimp only;rw[List.append_nil];exact iU R2 (.d ((Rep.kp h1 h2 r).mono s2) r2) q2 λv H' F' x aG s R' rx qx=>K v H' F' x aG ((s1.trans s2).trans s) R' rx qx
theorem jd(h:cv G k m sp)(kg:KG G)(ho:ED G k S o to)(ha:HS G k S (e::es) t)(hm:(["way","count","points_by_name","ever_put"]:List Str).contains m=false:=by decide)
  (pB:∀env,starEach (e::es) env=(false,eval e env)::starEach es env:=by exactλ_=>Vc.cj rfl) (eY:∀env,(backTo pos (starEach es env)).any (·.1)=false:=by intro _;rfl) (hh:S.jG=false:=by rfl)
  (ht:∀env,eval (.Call (.Attribute o m apos) (e::es) [] pos) env=(do
   let ov <- eval o env
   standAt apos.atName
   let (f,first) <- holding [ov] (getMethod ov m (pl env))
   callWith pos f first (backTo pos (starEach (e::es) env)) (backToKw pos (keywordEach [] env))):=by intro _;rfl):EX G k S (.Call (.Attribute o m apos) (e::es) [] pos) (oS sp to t):=.mk λX Y ok=>by
 obtain⟨f,fd,ps,h1,h2,h3⟩:=h;have mQ:bW X.prog X.w X.K X.mg X.base iL k f fd ps (dM sp):=by rw[ok.P,ok.w,ok.K,ok.mg,ok.base];exact h1
 exact aV (AO (pl:=pl X.env) (E:=E0) (dvs:=[]) (ds:=[]) (ho X Y ok) (by rw[ok.K];exact kg.cls) (by rw[ok.K];exact h2) mQ (ok.room hh) (by rw[ok.K];exact h3) .nil nO (ha.run X Y ok) (pB _) (eY _) (ht _)) λσ H Q q=>wM (X:=X) hm rfl q
theorem KJ{Y:bB}{sp:jN}{to:TD}{C:Addr}{σ:St}{H:Hp}{Q:VK}(q:sr C m (dM sp) [] E0 (lD Y to) (lAv Y iK) σ H Q):sr C m (dM sp) [] E0 (lD Y to) qS σ H Q:=by
 obtain⟨F,aj,Qd,R,q,K⟩:=q;refine⟨F,aj,Qd,R,q,λv H' F' x aG s R' r qq=>?_⟩;obtain⟨a,dx,fs,e1,e2,e3,F1,aw,Q1,R1,q1,K1⟩:=K v H' F' x aG s R' r qq;exact⟨a,dx,fs,e1,e2,e3,K1 [] H' F1 [] aw (au.refl _) R1 .nil q1⟩
theorem eP(h:cv G k m sp)(kg:KG G)(ho:ED G k S o to)(hm:(["way","count","points_by_name","ever_put"]:List Str).contains m=false:=by decide)(hh:S.jG=false:=by rfl)
  (ht:∀env,eval (.Call (.Attribute o m apos) [] [] pos) env=(do
   let ov <- eval o env
   standAt apos.atName
   let (f,first) <- holding [ov] (getMethod ov m (pl env))
   callWith pos f first (backTo pos (starEach [] env)) (backToKw pos (keywordEach [] env))):=by intro _;rfl):EX G k S (.Call (.Attribute o m apos) [] [] pos) (oS sp to iK):=.mk λX Y ok=>by
 obtain⟨f,fd,ps,h1,h2,h3⟩:=h;have mQ:bW X.prog X.w X.K X.mg X.base iL k f fd ps (dM sp):=by rw[ok.P,ok.w,ok.K,ok.mg,ok.base];exact h1
 exact aV (Gh (pl:=pl X.env) (E:=E0) (dvs:=[]) (ds:=[]) (ho X Y ok) (by rw[ok.K];exact kg.cls) (by rw[ok.K];exact h2) mQ (ok.room hh) (by rw[ok.K];exact h3) .nil nO (ht _)) λσ H Q q=>KJ (wM (X:=X) hm rfl q)
end
section
variable {x:Str}{np:Pos}{e:Expr}{es:List Expr}{m:Str}{apos pos:Pos}{sp:jN}{t:vh}{pl:Env->Sem Bool}{j:Nat}
theorem FL{Y:bB}{l:Bool}(hm:(["way","count","points_by_name","ever_put"]:List Str).contains m=false){σ:St}{H:Hp}{Q:VK}(q:lX Y (if l=true then tMl sp j t else UX sp j t) σ H Q):sr kC m (dM sp) [] E0 (aaE j) (lAv Y t) σ H Q:=by
 obtain⟨F,aj,Qd,R,q,K⟩:=q;have q:Qe aj j/\t aj λas aO=>nD sp ((if l=true then AV.l j else AV.n j)::as) aO Qd:=by
  cases l with
  | true=>exact q
  | false=>exact q
 obtain⟨⟨o,w,c,e,kvs,e1,e2⟩,q⟩:=q;obtain⟨a,w1,w2,w3⟩:=R.ob.obj j o e1;obtain⟨a',dx,ad,ks,e3,h1,h2,_⟩:=o.sees w2 e2;cases e3;refine⟨.ref a,w1,a,dx,_,rfl,h1,pH hm,F,aj,_,R,q,λvs H2 F2 as aO s2 R2 r2 q2=>?_⟩;dsimp only;rw[List.append_nil];refine iU R2 ?_ q2 λv H' F' x aG s R' rx qx=>K v H' F' x aG (s2.trans s) R' rx qx;cases l with
 | true=>exact .l w1 r2
 | false=>exact .n w1 r2
theorem m8(l:Bool)(j:Nat)(h:cv G k m sp)(kg:KG G)(ha:HS G k S (e::es) t)(hN:S.N[j]?=some x:=by rfl)(hv:S.sc.lookup x=some .local\/S.sc.lookup x=some .cell\/S.sc.lookup x=some .free:=by first|exact Or.inl rfl|exact Or.inr (Or.inl rfl)|exact Or.inr (Or.inr rfl))
  (hd:(x==("__debug__":Str))=false:=by decide) (iu:(x==("__classdict__":Str))=false:=by decide) (hm:(["way","count","points_by_name","ever_put"]:List Str).contains m=false:=by decide)
  (pB:∀env,starEach (e::es) env=(false,eval e env)::starEach es env:=by exactλ_=>Vc.cj rfl) (eY:∀env,(backTo pos (starEach es env)).any (·.1)=false:=by intro _;rfl) (hh:S.jG=false:=by rfl)
  (ht:∀env,eval (.Call (.Attribute (.Name x np) m apos) (e::es) [] pos) env=(do
   let ov <- eval (.Name x np) env
   standAt apos.atName
   let (f,first) <- holding [ov] (getMethod ov m (pl env))
   callWith pos f first (backTo pos (starEach (e::es) env)) (backToKw pos (keywordEach [] env))):=by intro _;rfl):EX G k S (.Call (.Attribute (.Name x np) m apos) (e::es) [] pos) (if l=true then tMl sp j t else UX sp j t):=.mk λX Y ok=>by
 obtain⟨f,fd,ps,h1,h2,h3⟩:=h;have mQ:bW X.prog X.w X.K X.mg X.base iL k f fd ps (dM sp):=by rw[ok.P,ok.w,ok.K,ok.mg,ok.base];exact h1
 exact aV (AO (pl:=pl X.env) (E:=E0) (dvs:=[]) (ds:=[]) (kh (X:=X) (i:=j) (by rw[ok.N];exact hN) (by unfold Iw;rw[ok.sc];exact hv) hd iu) (by rw[ok.K];exact kg.cls) (by rw[ok.K];exact h2) mQ (ok.room hh) (by rw[ok.K];exact h3) .nil nO (ha.run X Y ok) (pB _) (eY _) (ht _)) λσ H Q q=>FL hm q
end
end Vc
namespace Vc
open PySem L2
variable [KF]
variable {G:GE}{k:Nat}{S:Stat}
def CD(a dx:Addr)(fs:List (Str×V)):O where
 fp:=λb=>[b,dx]
 rep:=λF H b=>b=a/\H a=some (.ins kC dx fs)/\H dx=some (.own a)
 self:=λa=>.head _
 solid:=λ{F H b c' φ} ⟨e0,h1,h2⟩ hb z=>by
  subst e0;simp only[List.mem_cons,List.not_mem_nil,or_false]at hb;rcases hb with rfl|rfl
  ·rw[h1]at z;cases z
  ·rw[h2]at z;cases z
 nt:=λ{F H b c' vs} ⟨e0,h1,h2⟩ hb z=>by
  subst e0;simp only[List.mem_cons,List.not_mem_nil,or_false]at hb;rcases hb with rfl|rfl
  ·rw[h1]at z;cases z
  ·rw[h2]at z;cases z
 mono:=λ{F F' H H' b} s e ⟨e0,h1,h2⟩=>by
  subst e0;exact⟨rfl,by rw[e b (by simp)];exact h1,by rw[e dx (by simp)];exact h2⟩
def kqO(a dx ad:Addr)(fs:List (Str×V)):O where
 fp:=λb=>[b,dx,ad]
 rep:=λF H b=>b=a/\H a=some (.ins kC dx fs)/\H dx=some (.own a)/\H ad=some (.dK [])
 self:=λa=>.head _
 solid:=λ{F H b c' φ} ⟨e0,h1,h2,h3⟩ hb z=>by
  subst e0;simp only[List.mem_cons,List.not_mem_nil,or_false]at hb;rcases hb with rfl|rfl|rfl
  ·rw[h1]at z;cases z
  ·rw[h2]at z;cases z
  ·rw[h3]at z;cases z
 nt:=λ{F H b c' vs} ⟨e0,h1,h2,h3⟩ hb z=>by
  subst e0;simp only[List.mem_cons,List.not_mem_nil,or_false]at hb;rcases hb with rfl|rfl|rfl
  ·rw[h1]at z;cases z
  ·rw[h2]at z;cases z
  ·rw[h3]at z;cases z
 mono:=λ{F F' H H' b} s e ⟨e0,h1,h2,h3⟩=>by
  subst e0;exact⟨rfl,by rw[e b (by simp)];exact h1,by rw[e dx (by simp)];exact h2,by rw[e ad (by simp)];exact h3⟩
def plV:D->Option V
 | .str w=>some (.str w)
 | .int i=>some (.int i)
 | _=>none
def tKI(i:Nat)(f:Str)(tv:TV):bK:=λDe σ=>tv σ λx aw=>match dc aw x with
 | some d=>∃a dx fs v,plV d=some v/\aw[i]?=some (some (.obj (CD a dx fs)))/\fs.length<1000/\De.nx (aw.set i (some (.obj (CD a dx (df f v fs)))))
 | _=>False
theorem GK(i:Nat){x f:Str}{ve:Expr}{tv:TV}{np ap pos:Pos}(kg:KG G)(hv:EO G k S ve tv)(ho:EO G k S (.Name x np) (KQ i))(hf:f∈(["way","count","points_by_name","ever_put"]:List Str):=by simp)(hs:∀line env,swapsWith ve (some (.Attribute (.Name x np) f ap)) line env=pure false:=by intro _ _;rfl):
  ES G k S (.Assign [.Attribute (.Name x np) f ap] ve pos) (tKI i f tv):=.mk λX Y ok =>
 cG (ua (ho X Y ok) (hv X Y ok) (hs _ _)) λDn σ H q=>by
  obtain⟨F,aj,De,R,q,K⟩:=q;refine⟨F,aj,_,R,q,λv H1 F1 y aw s1 R1 r1 q1=>?_⟩
  split at q1
  ·rename_i d ed
   obtain⟨a,dx,fs,v',eY,eq,hl,q1⟩:=q1;have hvv:v=v':=by
    have:=R1.dc r1 ed;unfold plV at eY
    split at eY
    ·cases eY;exact this.str
    ·cases eY;exact this.int
    ·cases eY
   subst hvv;refine⟨F1,aw,λx nz=>x=.var i/\nz=aw,R1,⟨⟨_,eq⟩,rfl,rfl⟩,λv2 H2 F2 y aO s2 R2 r2 q2=>?_⟩;obtain⟨rfl,rfl⟩:=q2;have r2:σ[i]?=some (some v2):=r2;obtain⟨b,w1,⟨rfl,y1,y2⟩,_⟩:=R2.ob.obj i _ eq;rw[r2]at w1;cases w1;have n1:dx≠b:=gA y2 y1 (λz=>nomatch z);refine⟨b,kC,dx,_,rfl,y1,by rw[ok.K];exact kg.cls,by rw[ok.K];exact kg.no _ hf,hl,?_⟩
   exact K.nx σ _ F2 _ (s1.trans s2) (R2.ja (o':=CD b dx (df f v fs)) eq r2 (.head _) (λ_ z=>z) ⟨rfl,aA,by rw[aq n1];exact y2⟩) q1
  ·exact q1.elim
def tKN(i:Nat):bK:=λDe σ=>∃a dx fs,σ[i]?=some (some (.obj (CD a dx fs)))/\fs.length<1000/\∀ad,De.nx (σ.set i (some (.obj (kqO a dx ad (df "points_by_name" (.ref ad) fs)))))
theorem TR(i:Nat){x:Str}{np ap dp pos:Pos}(kg:KG G)(hN:S.N[i]?=some x:=by rfl)(hv:S.sc.lookup x=some .local\/S.sc.lookup x=some .cell\/S.sc.lookup x=some .free:=by first|exact Or.inl rfl|exact Or.inr (Or.inl rfl)|exact Or.inr (Or.inr rfl))
  (hd:(x==("__debug__":Str))=false:=by decide) (iu:(x==("__classdict__":Str))=false:=by decide) (hs:∀line env,swapsWith (.Dict [] [] dp) (some (.Attribute (.Name x np) "points_by_name" ap)) line env=pure false:=by intro _ _;rfl):
  ES G k S (.Assign [.Attribute (.Name x np) "points_by_name" ap] (.Dict [] [] dp) pos) (tKN i):=.mk λX Y ok =>
 cG (ua (kh (X:=X) (i:=i) (by rw[ok.N];exact hN) (by unfold Iw;rw[ok.sc];exact hv) hd iu) kT (hs _ _)) λDn σ H q=>by
  obtain⟨F,aj,De,R,⟨a,dx,fs,eq,hl,q⟩,K⟩:=q;intro p hp;obtain⟨b,w1,⟨rfl,y1,y2⟩,w3⟩:=R.ob.obj i _ eq;have n1:dx≠b:=gA y2 y1 (λz=>nomatch z);have p1:b≠p:=bq y1 hp;have p2:dx≠p:=bq y2 hp;refine⟨.ref b,w1,b,kC,dx,fs,rfl,by rw[aq p1];exact y1,by rw[ok.K];exact kg.cls,by rw[ok.K];exact kg.no _ (by simp),hl,?_⟩
  refine K.nx σ _ F _ (au.refl _) (R.Q0 (o':=kqO b dx p (df "points_by_name" (.ref p) fs)) eq w1 (λc hc hn=>?_) (λc hc=>?_) (λc hc=>?_) (λc hc=>?_) ⟨rfl,aA,by rw[aq n1,aq p2];exact y2,by rw[aq (Ne.symm p1),aA]⟩) (q p)
  ·have hc:c∉[b,dx]:=hc
   have c1:c≠b:=λz=>hc (by simp [z])
   have c2:c≠p:=λz=>hn (by rw[z];exact hp)
   rw[aq c1,aq c2]
  ·by_cases c1:c=b
   ·rw[c1,aA];exactλz=>nomatch z
   ·rw[aq c1]
    by_cases c2:c=p
    ·rw[c2,aA];exactλz=>nomatch z
    ·rw[aq c2];exact hc
  ·have hc:c∈[b,dx,p]:=hc
   simp only[List.mem_cons,List.not_mem_nil,or_false]at hc;rcases hc with rfl|rfl|rfl
   ·exact .inl (by show _∈[_,_];simp)
   ·exact .inl (by show _∈[_,_];simp)
   ·exact .inr hp
  ·have hc:c∈[b,dx,p]:=hc
   simp only[List.mem_cons,List.not_mem_nil,or_false]at hc;rcases hc with rfl|rfl|rfl
   ·rw[aA];exactλz=>nomatch z
   ·rw[aq n1,aq p2,y2];exactλz=>nomatch z
   ·rw[aq (Ne.symm p1),aA];exactλz=>nomatch z
def tKZ(i:Nat)(tv:TV):bK:=λDe σ=>tv σ λx aw=>match dc aw x with
 | some (.int j)=>∃a dx ad fs w c,aw[i]?=some (some (.obj (kqO a dx ad fs)))/\fs.length<1000/\df "ever_put" (.int j) fs=Ic w c j ad/\De.nx (aw.set i (some (.obj (iJ a dx ad w c j []))))
 | _=>False
theorem KA(i:Nat){x:Str}{ve:Expr}{tv:TV}{np ap pos:Pos}(kg:KG G)(hv:EO G k S ve tv)(ho:EO G k S (.Name x np) (KQ i))(hs:∀line env,swapsWith ve (some (.Attribute (.Name x np) "ever_put" ap)) line env=pure false:=by intro _ _;rfl):
  ES G k S (.Assign [.Attribute (.Name x np) "ever_put" ap] ve pos) (tKZ i tv):=.mk λX Y ok =>
 cG (ua (ho X Y ok) (hv X Y ok) (hs _ _)) λDn σ H q=>by
  obtain⟨F,aj,De,R,q,K⟩:=q;refine⟨F,aj,_,R,q,λv H1 F1 y aw s1 R1 r1 q1=>?_⟩
  split at q1
  ·rename_i j ej
   obtain rfl:=(R1.dc r1 ej).int;obtain⟨a,dx,ad,fs,w,c,eq,hl,hp,q1⟩:=q1;refine⟨F1,aw,λx nz=>x=.var i/\nz=aw,R1,⟨⟨_,eq⟩,rfl,rfl⟩,λv2 H2 F2 y aO s2 R2 r2 q2=>?_⟩;obtain⟨rfl,rfl⟩:=q2;have r2:σ[i]?=some (some v2):=r2;obtain⟨b,w1,⟨rfl,y1,y2,y3⟩,_⟩:=R2.ob.obj i _ eq;rw[r2]at w1;cases w1;have n1:dx≠b:=gA y2 y1 (λz=>nomatch z);have n2:ad≠b:=gA y3 y1 (λz=>nomatch z);refine⟨b,kC,dx,_,rfl,y1,by rw[ok.K];exact kg.cls,by rw[ok.K];exact kg.no _ (by simp),hl,?_⟩
   rw[hp];exact K.nx σ _ F2 _ (s1.trans s2) (R2.ja (o':=iJ b dx ad w c j []) eq r2 (.head _) (λ_ z=>z) ⟨rfl,aA,by rw[aq n1];exact y2,[],by rw[aq n2];exact y3,.nil⟩) q1
  ·exact q1.elim
abbrev HU:=List D->(Str->Int->Prop)->Prop
def yY(sp:HU):Sp:=λvs H Q _=>∃F x dx rest ds Qd,vs=.ref x::rest/\jO F H/\H x=some (.ins kC dx [])/\H dx=some (.own x)/\F x=none/\F dx=none/\aE F rest ds/\sp ds Qd /\
 ∀H' F' ad w c,au F F'->au F' H'->(∀b o,b≠x->b≠dx->H b=some o->H' b=some o)->(iJ x dx ad w c 0 []).rep F' H' x->F' x=none->F' dx=none->F' ad=none->H ad=none->(∀b o,F' b=some o->F b=some o\/Nw H b o)->Qd w c->Q .aU H'
def xX(G:GE)(k:Nat)(sp:HU):Prop:=∃f fd ps k',k=k'+1/\bW G.P G.w G.K G.mg G.base iL k' f fd ps (yY sp)/\Mk G.K kC f/\Binds G.K fd ps []/\G.mg "Kept"=some (.ref kC)
theorem xX.mono{sp:HU}{j:Nat}(h:xX G j sp)(l:j<=k):xX G k sp:=by
 obtain⟨f,fd,ps,j',rfl,h1,h2⟩:=h;exact⟨f,fd,ps,k-1,by omega,h1.mono ⋯,h2⟩
structure Vo(G:GE)(m qual:Str)(st:Stmt)(ps:List Str)(f:Addr)(fd:FuncData):Prop where
 F:xZ G.K m qual st f fd
 makes:Mk G.K kC f
 b:Binds G.K fd ps []
 mg:G.mg "Kept"=some (.ref kC)
def mj(n:Nat)(a dx:Addr)(ds:List D):Sd:=cN n (.obj (CD a dx [])::ds.map .sh)
def inQ(x dx:Addr)(Q:Str->Int->Prop)(σ:Sd):Prop:=∃ad w c,σ[0]?=some (some (.obj (iJ x dx ad w c 0 [])))/\Q w c
theorem IA{F H:Hp}{x dx:Addr}{vs:List V}{ds:List D}(h1:H x=some (.ins kC dx []))(h2:H dx=some (.own x))(h3:F x=none)(h4:F dx=none)(h:aE F vs ds):jK F H (.ref x::vs) (.obj (CD x dx [])::ds.map B.sh):=by
 have cs:∀ {i:Nat} {b:B},(B.obj (CD x dx [])::ds.map B.sh)[i]?=some b->(i=0/\b=.obj (CD x dx []))\/∃j d,i=j+1/\b=.sh d/\ds[j]?=some d:=λ{i b} h=>by
  cases i with
  | zero=>simp at h;exact .inl ⟨rfl,h.symm⟩
  | succ j =>
   simp only[List.getElem?_cons_succ]at h;obtain⟨d,e1,e2⟩:=dh h;exact .inr ⟨j,d,rfl,e1,e2⟩
 refine⟨by rw[List.length_cons,List.length_cons,List.length_map,h.length],λi d e=>?_,λi xs e=>?_,λi o e=>?_,λi j ys zs b e1=>?_,λi j o p a b e1 e2 e3 e4 PH=>?_,λi j xs o a b e1=>?_⟩
 ·rcases cs e with⟨_,z⟩|⟨j,d',rfl,z,e2⟩
  ·cases z
  ·cases z
   obtain⟨v,e3,r⟩:=h.get e2;exact⟨v,by simpa using e3,r⟩
 ·rcases cs e with⟨_,z⟩|⟨j,d',rfl,z,e2⟩<;>cases z
 ·rcases cs e with⟨rfl,z⟩|⟨j,d',rfl,z,e2⟩
  ·cases z
   refine⟨x,by simp,⟨rfl,h1,h2⟩,λc hc=>?_⟩
   have hc:c∈[x,dx]:=hc;simp only[List.mem_cons,List.not_mem_nil,or_false]at hc;rcases hc with rfl|rfl
   ·exact⟨h3,by rw[h1];exactλz=>nomatch z⟩
   ·exact⟨h4,by rw[h2];exactλz=>nomatch z⟩
  ·cases z
 ·rcases cs e1 with⟨_,z⟩|⟨j,d',rfl,z,e2⟩<;>cases z
 ·rcases cs e1 with⟨rfl,z⟩|⟨_,d',rfl,z,_⟩
  ·rcases cs e2 with⟨rfl,z⟩|⟨_,d',rfl,z,_⟩
   ·exact absurd rfl PH
   ·cases z
  ·cases z
 ·rcases cs e1 with⟨_,z⟩|⟨j,d',rfl,z,e2⟩<;>cases z
theorem XH{x qual:Str}{st:Stmt}{f:Addr}{fd:FuncData}{N ps:List Str}{sp:HU}{t:bK}(hK:G.K=KF.K)(Fn:xZ G.K x qual st f fd)(Sc:aC N ps (ae st))(ht:cB G k ⟨N,(ae st).names,[0],false,false,false,λ_ _=>False⟩ (ak st) t)
  (len:∀ds Q,sp ds Q->ds.length+1=ps.length)
  (body:∀ds Q,sp ds Q->∀a dx,t {nx:=inQ a dx Q,rt:=λ_ _=>False} (mj N.length a dx ds)):bW G.P G.w G.K G.mg G.base iL (k+1) f fd ps (yY sp):=by
 refine Fn.ok Sc (λvs H Q E h=>?_) (λgh A outer s H vs Q E hr h=>?_)
 ·obtain⟨F,x,dx,rest,ds,Qd,rfl,s,h1,h2,h3,h4,r,q,K⟩:=h
  rw[List.length_cons,r.length];exact len _ _ q
 ·obtain⟨F,x,dx,rest,ds,Qd,rfl,sm,h1,h2,h3,h4,r,q,K⟩:=h
  have ar:=IA h1 h2 h3 h4 r;have ft:∀c,jE (.ref x::rest) (B.obj (CD x dx [])::ds.map B.sh) c->c=x\/c=dx:=λc z=>by
   rcases z with⟨i,ys,e,_⟩|⟨i,o,b,e,e2,hm⟩
   ·cases i with
    | zero=>simp at e
    | succ j=>simp only[List.getElem?_cons_succ]at e;obtain⟨d,e1,_⟩:=dh e;cases e1
   ·cases i with
    | zero =>
     simp at e e2;subst e e2;have hm:c∈[x,dx]:=hm;simpa using hm
    | succ j=>simp only[List.getElem?_cons_succ]at e;obtain⟨d,e1,_⟩:=dh e;cases e1
  have cP:∀p∈tO (.ref x::rest) (B.obj (CD x dx [])::ds.map B.sh),p.1∈[0]:=λp hp=>by
   obtain⟨i,a⟩:=p;obtain⟨xs,e,_⟩:=fC.mp hp;cases i with
   | zero=>simp at e
   | succ j=>simp only[List.getElem?_cons_succ]at e;obtain⟨d,e1,_⟩:=dh e;cases e1
  refine⟨_,ht (kz iL G.P G.w G.K G.mg G.base N qual (ae st) f gh A outer s H E).JR ⟨H,F,tO (.ref x::rest) (.obj (CD x dx [])::ds.map B.sh),w8 (.ref x::rest) (.obj (CD x dx [])::ds.map B.sh)⟩ ⟨rfl,rfl,rfl,hK,rfl,rfl,rfl,rfl,Sc.nd,cP,(λ_ h=>nomatch h),λ_=>rfl,Sc.kind,λ_ _ _=>rfl,λ_=>hr.hd,hr.dp,hr.un,λ_=>PassesOwn.never,λ_=>⟨rfl,rfl,rfl⟩,λ_ _ h=>h.elim,λh=>nomatch h⟩,F,mj N.length x dx ds,_,RS.cN _ sm ar,body ds Qd q x dx,?_⟩;refine⟨λσ H' F' aj s' R' q'=>?_,λv σ H' F' aj b s' R' r' q'=>q'.elim,λ_ _ _ _ _ _ h=>h.elim,λ_ _ _ _ _ _ h=>h.elim⟩;obtain⟨ad,w,c,e,q'⟩:=q';obtain⟨b,w1,w2,w3⟩:=R'.ob.obj 0 _ e;have w20:=w2;obtain⟨rfl,y1,y2,ks,y3,_⟩:=w20;have n1:ad≠b:=gA y3 y1 (λz=>nomatch z);have n2:ad≠dx:=gA y3 y2 (λz=>nomatch z);have had:H ad=none:=by
   rcases(w3 ad (by show ad∈[b,dx,ad];simp)).2.2 with z|z
   ·exact z
   ·rcases ft ad (tG (H:=H) (F:=F).mp (List.mem_append_right _ z))with z|z
    ·exact absurd z n1
    ·exact absurd z n2
  refine K H' F' ad w c s' R'.fr (λc o z1 z2 e=>R'.old c o e λy=>?_) w2 (w3 b (by show b∈[b,dx,ad];simp)).1 (w3 dx (by show dx∈[b,dx,ad];simp)).1 (w3 ad (by show ad∈[b,dx,ad];simp)).1 had R'.eJ q'
  rcases ft c (tG.mp y)with z|z
  ·exact z1 z
  ·exact z2 z
theorem Vo.fi{m qual:Str}{st:Stmt}{ps N:List Str}{f:Addr}{fd:FuncData}{t:bK}{sp:HU}(d:Vo G m qual st ps f fd)(hK:G.K=KF.K)(Sc:aC N ps (ae st))(ht:cB G k ⟨N,(ae st).names,[0],false,false,false,λ_ _=>False⟩ (ak st) t)
  (len:∀ds Q,sp ds Q->ds.length+1=ps.length) (body:∀ds Q,sp ds Q->∀a dx,t {nx:=inQ a dx Q,rt:=λ_ _=>False} (mj N.length a dx ds)):xX G (k+1+1) sp:=
 ⟨f,fd,ps,k+1,rfl,XH hK d.F Sc ht len body,d.makes,d.b,d.mg⟩
def tMK(sp:HU)(t:eU):TX:=λσ Q=>t σ λds aw=>sp ds λw c=>∀a dx ad,Q (.obj (iJ a dx ad w c 0 [])) aw
theorem TF{sp:HU}{e:Expr}{es:List Expr}{t:eU}{p pos:Pos}(h:xX G k sp)(ha:qW G k S (e::es) t)(hg:S.sc.lookup ("Kept":Str)=some .globalImplicit:=by rfl)
  (he:∀env,starEach (e::es) env=(false,eval e env)::starEach es env:=by exactλ_=>Vc.cj rfl) (eY:∀env,(backTo pos (starEach es env)).any (·.1)=false:=by intro _;rfl) (hh:S.jG=false:=by rfl):EX G k S (.Call (.Name "Kept" p) (e::es) [] pos) (tMK sp t):=.mk λX Y ok=>by
 obtain⟨f,fd,ps,k',rfl,h1,h2,h3,h4⟩:=h;have mQ:bW X.prog X.w X.K X.mg X.base iL k' f fd ps (yY sp):=by rw[ok.P,ok.w,ok.K,ok.mg,ok.base];exact h1
 refine aV (Kc (E:=E0) (dvs:=[]) (ds:=[]) (by rw[ok.K];exact h2) mQ (ok.room hh) (di ok hg) (by rw[ok.mg];exact h4) (by rw[ok.K];exact h3) .nil nO (ha X Y ok) ∅ (he _) (eY _)) λσ H Q q=>?_
 obtain⟨F,aj,Qd,R,q,K⟩:=q;refine⟨F,aj,_,R,q,λvs H1 F1 ds aw s1 R1 r1 q1=>?_⟩;intro x dx hx PD cT;have fx:F1 x=none:=same_none R1.fr hx;have fdx:F1 dx=none:=same_none R1.fr PD;have up:∀ {b:Addr} {o:HO},H1 b=some o->(upd (upd H1 dx (.own x)) x (.ins kC dx [])) b=some o:=λ{b o} e=>by
  rw[aq (bq e hx),aq (bq e PD)];exact e
 refine⟨F1,x,dx,vs++[],ds,_,rfl,⟨λb o e=>up (R1.fr b o e),R1.ob.tab⟩,aA,by rw[aq cT,aA],fx,fdx,by rw[List.append_nil];exact r1,q1,λH' F' ad w c u1 u2 u3 u4 u5 u6 u7 u8 u9 u10=>⟨rfl,?_⟩⟩
 have sH:au H1 H':=λb o e=>u3 b o (bq e hx) (bq e PD) (up e);have had:H1 ad=none:=by
  cases z:H1 ad with
  | none=>rfl
  | some o=>rw[up z]at u8;cases u8
 have R2:RS Y F' aw σ H':=R1.call u1 u2 sH λb o z=>(u9 b o z).imp id λy=>y.imp (λy=>by
  cases z:H1 b with
  | none=>rfl
  | some o=>rw[up z]at y;cases y) id
 refine K _ H' F' (.obj (iJ x dx ad w c 0 [])) aw (s1.trans u1) R2 ⟨x,rfl,u4,λb hb=>?_⟩ (u10 x dx ad);obtain⟨_,g1,g2,ks,g3,_⟩:=u4;have hb:b∈[x,dx,ad]:=hb;simp only[List.mem_cons,List.not_mem_nil,or_false]at hb;rcases hb with rfl|rfl|rfl
 ·exact⟨u5,(by rw[g1];exactλz=>nomatch z),(R1.bg hx).1,R1.cg hx⟩
 ·exact⟨u6,(by rw[g2];exactλz=>nomatch z),(R1.bg PD).1,R1.cg PD⟩
 ·exact⟨u7,(by rw[g3];exactλz=>nomatch z),(R1.bg had).1,R1.cg had⟩
end Vc
namespace Vc
open PySem L2
variable [KF]
variable {G:GE}{k:Nat}{S:Stat}
abbrev iG:=List D->(Str->Prop)->Prop
def rX(sp:iG):oz:=λds _ E=>sp ds E
def gQ(G:GE)(k:Nat)(m:Str)(sp:iG):Prop:=∃f fd ps,bW G.P G.w G.K G.mg G.base (CJ G.P G.w) k f fd ps (UO (rX sp))/\Meth G.K kC m f/\Binds G.K fd ps []
theorem gQ.mono{x:Str}{sp:iG}{j:Nat}(h:gQ G j x sp)(l:j<=k):gQ G k x sp:=by
 obtain⟨f,fd,ps,h1,h2,h3⟩:=h;exact⟨f,fd,ps,h1.mono l,h2,h3⟩
theorem oA.fx{m qual:Str}{st:Stmt}{ps N:List Str}{f:Addr}{fd:FuncData}{t:(Str->Sd->Prop)->bK}{sp:iG}(d:oA G m qual st ps f fd)(hK:G.K=KF.K)(Sc:aC N ps (ae st))
  (ht:∀Ed:Str->Prop,cB G k ⟨N,(ae st).names,[],false,false,true,λc _=>Ed c⟩ (ak st) (t λc _=>Ed c))
  (len:∀ds E,sp ds E->ds.length=ps.length) (body:∀ds (Q:B->Prop) E,sp ds E->t (λc _=>E c) {nx:=λ_=>Q (.sh .aU),rt:=λb _=>Q b} (aJ N.length ds)):gQ G (k+1) m sp:=
 ⟨f,fd,ps,EK hK d.F Sc ht (λds Q E h=>len ds E h) λds Q E h=>body ds Q E h,d.mt,d.b⟩
def CL(sp:iG)(ds:List D)(E:Str->Prop):Prop:=sp ds E
def qQ(ex:Str->Sd->Prop)(sp:iG)(to:TD)(t:eU):TX:=λσ Q=>to σ λx aw=>(∃w c e kvs,x=.kp w c e kvs)/\t aw λds aO=>CL sp (x::ds) λc=>ex c aO
theorem nQ{o e:Expr}{es:List Expr}{m:Str}{apos pos:Pos}{sp:iG}{to:TD}{t:eU}{pl:Env->Sem Bool}(h:gQ G k m sp)(kg:KG G)(ho:ED G k S o to)(ha:qW G k S (e::es) t)(hm:(["way","count","points_by_name","ever_put"]:List Str).contains m=false:=by decide)
  (pB:∀env,starEach (e::es) env=(false,eval e env)::starEach es env:=by exactλ_=>Vc.cj rfl) (eY:∀env,(backTo pos (starEach es env)).any (·.1)=false:=by intro _;rfl) (hh:S.jG=false:=by rfl) (Jn:S.qA=false:=by rfl)
  (ht:∀env,eval (.Call (.Attribute o m apos) (e::es) [] pos) env=(do
   let ov <- eval o env
   standAt apos.atName
   let (f,first) <- holding [ov] (getMethod ov m (pl env))
   callWith pos f first (backTo pos (starEach (e::es) env)) (backToKw pos (keywordEach [] env))):=by intro _;rfl):EX G k S (.Call (.Attribute o m apos) (e::es) [] pos) (qQ S.ex sp to t):=.mk λX Y ok pins s σ H Q I q=>by
 obtain⟨f,fd,ps,h1,h2,h3⟩:=h;have mQ:bW X.prog X.w X.K X.mg X.base (CJ X.prog X.w) k f fd ps (UO (rX sp)):=by rw[ok.P,ok.w,ok.K,ok.mg,ok.base];exact h1
 obtain⟨F,aj,Qd,R,q,K⟩:=q;refine PySem.W.methodCall_KW (pl:=pl X.env) (ck (ho X Y ok pins s σ H (λv H1=>∃F1 x aw,RS Y F1 aw σ H1/\Rep F1 v x/\(∃w c e kvs,x=.kp w c e kvs)/\t aw λds aO=>CL sp (x::ds) λc=>S.ex c aO) I
  ⟨F,aj,_,R,q,λv H1 F1 x aw s1 R1 r1 q1=>⟨F1,x,aw,R1,r1,q1⟩⟩) λu s1 ⟨v,H1,I1,rv,F1,x,aw,R1,r1,⟨w,c,e',kvs,ex⟩,q1⟩=>?_) (ht _)
 subst ex;cases(show Rep F1 v (.kp w c e' kvs)from r1)with
 | @kp a dx ad _ _ _ ks _ e1 e2 r =>
 obtain rfl:u=Value.ref a:=rv;refine j6 I1 (R1.fr _ _ e1) (by rw[ok.K];exact kg.cls) (by rw[ok.K];exact h2) (pH hm) ?_
 refine PySem.W.callWith_K (first:=[.ref a]) (h₀:=X.base) I.ok.mod.wF (by rw[ok.K];exact h2.kp) (ck (ha X Y ok pos pins s1 σ H1 (λvs H2=>∃F2 ds aO,au F1 F2/\RS Y F2 aO σ H2/\aE F2 vs ds/\CL sp (.kp w c e' kvs::ds) λc=>S.ex c aO) I1
  ⟨F1,aw,_,R1,q1,λvs H2 F2 ds aO s2 R2 r2 q2=>⟨F2,ds,aO,s2,R2,r2,q2⟩⟩) λus s2 ⟨vs,H2,I2,r2,F2,ds,aO,sm2,R2,rl,q2⟩=>⟨I2.iB,?_⟩) (pB _) (eY _)
 let E:XK:=λv _ _=>∃c t,v=.str c t/\S.ex c aO
 have pA:UO (rX sp) (.ref a::vs) H2 Q E:=⟨F2,.kp w c e' kvs::ds,λ_=>False,_,⟨R2.fr,R2.ob.tab⟩,.cons ((Rep.kp e1 e2 r).mono sm2) rl,q2,λv H' F' b _ _ _ _ _ z=>z.elim,λc t H' hx=>⟨c,t,rfl,hx⟩⟩;have rv:Vals (V.ref a::vs) (Value.ref a::us):=.cons rfl r2;have hl:(Value.ref a::us).length=ps.length:=by rw[<- rv.length];exact mQ.len _ _ _ _ pA
 have hb:=h3 s2 (Value.ref a::us) (by rw[<- ok.K];exact I2.iB) (by rw[List.append_nil];exact hl)
 rw[List.append_nil]at hb;refine wpAny_call (codeAny_mono (mQ.run X.A X.stack s2 H2 ⟨Value.ref a::us,[]⟩ (Value.ref a::us) (V.ref a::vs) Q E (ok.room hh) I2.Bu hb rv pA) λr s' hq=>?_);cases r with
 | error e =>
  obtain⟨b,T,c,H',rfl,os,bare,un,bc,sm,na,nT,la,lT,ne,fa,fT,ed⟩:=hq;obtain⟨c',t',ec,hx⟩:=ed 0;cases ec;have I3:L2.Inv X pins σ H' s':=I2.o5 os un bc bare λb z=>absurd z (by simp)
  have R3:RS Y F2 aO σ H':=R2.call (au.refl _) (R2.fr.trans sm) sm λc o e=>.inl e;have old:∀b,s2.heap.get? b=none->X.bT.heap.get? b=none:=λb e=>by
   cases e0:X.bT.heap.get? b with
   | none=>rfl
   | some o =>
    obtain⟨o',e1⟩:=I2.base.there b o e0 (by rw[(ok.nx Jn).1];simp)
    rw[e]at e1;cases e1
  exact ok.exc c aO hx pins σ H' F2 s' b T I3 R3 ⟨same_none R2.fr na,same_none R2.fr nT,fa,fT,ne,(R2.bg na).1,(R2.bg nT).1,old b la,old T lT⟩
 | ok fl =>
  cases fl with
  | ret u=>exact I2.after hq
  | next=>exact False.elim hq
  | brk=>exact False.elim hq
  | cont=>exact False.elim hq
theorem YL{y:List D}(h:jH y=true)(ds:List D):(B.own y::ds.map B.sh).all QV=true:=by
 rw[List.all_cons,List.all_map,Bool.and_eq_true];exact⟨h,List.all_eq_true.mpr λ_ _=>rfl⟩
theorem ln0{α:Type}{P:List α->Prop}(h:P [])(us:List α)(e:us.length=0):P us:=List.eq_nil_of_length_eq_zero e ▸ h
theorem VN{α:Type}{n:Nat}{P:List α->Prop}(h:∀(a:α) (r:List α),r.length=n->P (a::r)):∀us:List α,us.length=n+1->P us:=λus e=>by
 cases us with
 | nil=>cases e
 | cons a r=>exact h a r (Nat.succ.inj e)
@[elab_as_elim] theorem yu{α:Type} {P:List α->Prop} (h:∀a,P [a]) (us:List α) (e:us.length=1):P us:=VN (λa=>ln0 (P:=λr=>P (a::r)) (h a)) us e
@[elab_as_elim] theorem ln2{α:Type} {P:List α->Prop} (h:∀a b,P [a,b]) (us:List α) (e:us.length=2):P us:=VN (λa=>yu (P:=λr=>P (a::r)) (h a)) us e
@[elab_as_elim] theorem Md{α:Type} {P:List α->Prop} (h:∀a b c,P [a,b,c]) (us:List α) (e:us.length=3):P us:=VN (λa=>ln2 (P:=λr=>P (a::r)) (h a)) us e
@[elab_as_elim] theorem ln4{α:Type} {P:List α->Prop} (h:∀a b c d,P [a,b,c,d]) (us:List α) (e:us.length=4):P us:=VN (λa=>Md (P:=λr=>P (a::r)) (h a)) us e
@[elab_as_elim] theorem ln5{α:Type} {P:List α->Prop} (h:∀a b c d e,P [a,b,c,d,e]) (us:List α) (e:us.length=5):P us:=VN (λa=>ln4 (P:=λr=>P (a::r)) (h a)) us e
@[elab_as_elim] theorem ln6{α:Type} {P:List α->Prop} (h:∀a b c d e f,P [a,b,c,d,e,f]) (us:List α) (e:us.length=6):P us:=VN (λa=>ln5 (P:=λr=>P (a::r)) (h a)) us e
theorem Jc(p:Addr)(kvs:List (Int×D)):(Aa p kvs).view=some (.jt kvs):=rfl
theorem JH(a dx ad:Addr)(w:Str)(c e:Int)(kvs:List (Int×D)):(iJ a dx ad w c e kvs).view=some (.kp w c e kvs):=rfl
def QZ:B->Bool
 | .own _=>false
 | _=>true
theorem yt{bs:List B}{i:Nat}{xs:List D}(k:Nat)(h:(bs.drop k).all QZ=true)(e:bs[i]?=some (.own xs)):i∈List.range k:=by
 rw[List.mem_range];rcases Nat.lt_or_ge i k with z|z
 ·exact z
 ·have:B.own xs∈bs.drop k:=List.mem_of_getElem? (i:=i-k) (by rw[List.getElem?_drop,Nat.add_sub_cancel' z];exact e)
  cases List.all_eq_true.mp h _ this
end Vc
namespace Vc
open PySem L2
variable [KF]
variable {G:GE}{k:Nat}{S:Stat}
def Aw(l:Bool)(d:Option D):Option B:=match l with
 | true=>d.map B.sh
 | false=>none
def wG(l:Bool):Option B->Option B
 | some (.sh d)=>some (.sh d)
 | some (.obj o)=>Aw l o.view
 | some (.own xs)=>Aw l (some (.lst xs))
 | none=>none
def jP(js:List Nat):Nat->Sd->Sd
 | _,[]=>[]
 | i,b::σ=>wG (js.contains i) b::jP js (i+1) σ
theorem rV(js:List Nat):∀(i:Nat) (σ:Sd),(jP js i σ).length=σ.length
 | _,[]=>rfl
 | i,b::σ=>congrArg (·+1) (rV js (i+1) σ)
theorem rT(js:List Nat):∀(i j:Nat) (σ:Sd),(jP js i σ)[j]?=(σ[j]?).map (wG (js.contains (i+j)))
 | _,_,[]=>rfl
 | i,0,b::σ=>rfl
 | i,j+1,b::σ=>by
  show(jP js (i+1) σ)[j]?=_;rw[rT js (i+1) j σ,show i+1+j=i+(j+1)by omega];rfl
theorem wH{l:Bool}{d:Option D}{b:B}(h:Aw l d=some b):l=true/\∃x,d=some x/\b=.sh x:=by
 cases l with
 | false=>cases h
 | true =>
  obtain⟨x,h1,h2⟩:=Option.map_eq_some_iff.mp (show d.map B.sh=some b from h)
  exact⟨rfl,x,h1,h2.symm⟩
theorem FK{l:Bool}{x:Option B}{b:B}(h:wG l x=some b):∃d,b=.sh d/\(x=some (.sh d)\/(l=true/\((∃o,x=some (.obj o)/\o.view=some d)\/∃xs,x=some (.own xs)/\d=.lst xs))):=by
 unfold wG at h
 split at h
 ·cases h;exact⟨_,rfl,.inl rfl⟩
 ·obtain⟨hl,d,h1,h2⟩:=wH h
  exact⟨d,h2,.inr ⟨hl,.inl ⟨_,rfl,h1⟩⟩⟩
 ·obtain⟨hl,d,h1,h2⟩:=wH h
  cases h1;exact⟨_,h2,.inr ⟨hl,.inr ⟨_,rfl,rfl⟩⟩⟩
 ·cases h
theorem wI{Y:bB}{F:Hp}{aj:Sd}{σ:St}{H:Hp}(R:RS Y F aj σ H):∀(js:List Nat) (F2:Hp),au F F2->au F2 H->∃F3,au F2 F3/\au F3 H/\∀j∈js,∀(xs:List D) (a:Addr),aj[j]?=some (some (.own xs))->σ[j]?=some (some (.ref a))->Rep F3 (.ref a) (.lst xs)
 | [],F2,_,s=>⟨F2,au.refl _,s,λj hj=>by cases hj⟩
 | j::js,F2,s0,s=>by
  obtain⟨F3,s1,s2,h⟩:=wI R js F2 s0 s
  by_cases hq:∃xs,aj[j]?=some (some (.own xs))
  ·obtain⟨xs,e⟩:=hq
   obtain⟨a,vs,w1,w2,w3,_⟩:=R.own j xs e;obtain⟨F4,s3,s4,e4,_⟩:=gW s2 w2;refine⟨F4,s1.trans s3,s4,λi hi ys b f1 f2=>?_⟩;rcases List.mem_cons.mp hi with rfl|hi
   ·rw[e]at f1;cases f1
    rw[w1]at f2;cases f2;exact .lst (.of e4) (w3.mono ((s0.trans s1).trans s3))
   ·exact(h i hi ys b f1 f2).mono s3
  ·refine⟨F3,s1,s2,λi hi ys b f1 f2=>?_⟩
   rcases List.mem_cons.mp hi with rfl|hi
   ·exact absurd ⟨ys,f1⟩ hq
   ·exact h i hi ys b f1 f2
def Af:D->Bool
 | .aU=>true
 | .bl _=>true
 | .int _=>true
 | .str _=>true
 | _=>false
def LY:EV->Bool
 | .val d=>Af d
 | .own xs=>xs.all Af
 | _=>false
theorem Rep.flat{F F':Hp}{v:V}{d:D}(r:Rep F v d)(h:Af d=true):Rep F' v d:=by
 cases r with
 | aU=>exact .aU
 | bl b=>exact .bl b
 | int i=>exact .int i
 | str x=>exact .str x
 | _=>cases h
theorem aE.flat{F F':Hp}:∀ {vs:List V} {ds:List D},aE F vs ds->ds.all Af=true->aE F' vs ds
 | _,_,.nil,_=>.nil
 | _,_,.cons r rs,h=>by
  rw[List.all_cons,Bool.and_eq_true]at h;exact .cons (r.flat h.1) (aE.flat rs h.2)
def G9(js:List Nat)(t:TX):TX:=λσ Q=>t (jP js 0 σ) λx _=>LY x=true/\Q x σ
theorem TC(js:List Nat){e:Expr}{t:TX}(h:EX G k S e t)(An:S.ex=λ_ _=>False:=by rfl):EX G k S e (G9 js t):=.mk λX Y ok pins s σ H Q I q=>by
 obtain⟨F,aj,Qd,R,q,K⟩:=q;obtain⟨F2,s1,s2,h1,_,_⟩:=pJ R js;obtain⟨F3,s3,s4,h2⟩:=wI R js F2 s1 s2;have only:∀ {i:Nat} {b:B},(jP js 0 aj)[i]?=some (some b)->∃d v,b=.sh d/\σ[i]?=some (some v)/\Rep F3 v d:=λ{i b} e=>by
  rw[rT,Nat.zero_add]at e;obtain⟨x,e1,e2⟩:=Option.map_eq_some_iff.mp e;obtain⟨d,rfl,e3⟩:=FK e2;rcases e3 with rfl|⟨hl,⟨o,rfl,e4⟩|⟨xs,rfl,rfl⟩⟩
  ·obtain⟨v,g1,g2⟩:=R.sh i d e1
   exact⟨d,v,rfl,g1,g2.mono (s1.trans s3)⟩
  ·obtain⟨a,g1,_⟩:=R.ob.obj i o e1
   exact⟨d,_,rfl,g1,(h1 i (List.contains_iff_mem.mp hl) o d a e1 e4 g1).mono s3⟩
  ·obtain⟨a,vs,g1,_⟩:=R.own i xs e1
   exact⟨_,_,rfl,g1,h2 i (List.contains_iff_mem.mp hl) xs a e1 g1⟩
 have abJ:∀(i:Nat) (o:O),(jP js 0 aj)[i]?≠some (some (.obj o)):=λi o e=>by
  obtain⟨d,v,z,_⟩:=only e;cases z
 have YQ:∀(i:Nat) (xs:List D),(jP js 0 aj)[i]?≠some (some (.own xs)):=λi xs e=>by
  obtain⟨d,v,z,_⟩:=only e;cases z
 have R2:RS ⟨H,F3,[],[]⟩ F3 (jP js 0 aj) σ H:=⟨by rw[rV];exact R.len,au.refl _,s4,λb o e=>.inl e,λb o e _=>e,λi d e=>by
   obtain⟨d',v,z,g1,g2⟩:=only e;cases z;exact⟨v,g1,g2⟩,λi xs e=>absurd e (YQ i xs),λi _ xs _ _ e=>absurd e (YQ i xs),λp hp=>absurd hp (by simp),sE.none abJ (R.ob.tab.mono (s1.trans s3)) λb hb=>absurd hb (by simp)⟩
 have ok2:d8 X G k S ⟨H,F3,[],[]⟩:=⟨ok.P,ok.w,ok.K,ok.kf,ok.mg,ok.base,ok.N,ok.sc,ok.nd,λp hp=>absurd hp (by simp),λ_ _=>rfl,ok.calm,ok.kind,ok.fn,ok.hd,ok.dp,ok.un,ok.po,ok.nx,(λc aj h=>by rw[An]at h;exact h.elim),λ_ c aj h=>by rw[An]at h;exact h.elim⟩
 refine h.run X _ ok2 pins s σ H Q I ⟨F3,_,_,R2,q,λv H' F' x aG s5 R5 r5 q5=>?_⟩;obtain⟨hf,q5⟩:=q5;have sm:au H H':=λb o e=>R5.old b o e (by simp [bB.vk])
 have R6:RS Y F aj σ H':=R.call (au.refl _) (R.fr.trans sm) sm λc o e=>.inl e;refine K v H' F x aj (au.refl _) R6 ?_ q5;cases x with
 | val d=>exact(show Rep F' v d from r5).flat hf
 | own xs =>
  obtain⟨a,vs,rfl,e1,e2,e3,e4,e5⟩:=r5;have e4:H a=none:=e4;exact⟨a,vs,rfl,e1,e2.flat hf,same_none R.fr e4,(R.bg e4).1,R.cg e4⟩
 | _=>cases hf
end Vc
namespace Vc
open PySem L2
variable [KF]
variable {G:GE}{k:Nat}{S:Stat}
def A5(sp:iG):Sp:=λvs H _ E=>∃F x us ds Ed,vs=.ref x::us/\jO F H/\aE F us ds/\sp ds Ed/\∀c t H',Ed c->E (.str c t) none H'
def oY(G:GE)(k:Nat)(sp:iG):Prop:=∃f fd ps k',k=k'+1/\bW G.P G.w G.K G.mg G.base (CJ G.P G.w) k' f fd ps (A5 sp)/\Mk G.K kC f/\Binds G.K fd ps []/\G.mg "Kept"=some (.ref kC)
theorem oY.mono{sp:iG}{j:Nat}(h:oY G j sp)(l:j<=k):oY G k sp:=by
 obtain⟨f,fd,ps,j',rfl,h1,h2⟩:=h;exact⟨f,fd,ps,k-1,by omega,h1.mono ⋯,h2⟩
def nk(n:Nat)(ds:List D):Sd:=none::(ds.map (λd=>some (.sh d))++List.replicate (n-(ds.length+1)) none)
theorem Pt{x qual:Str}{st:Stmt}{f:Addr}{fd:FuncData}{N ps:List Str}{sp:iG}{t:(Str->Sd->Prop)->bK}(hK:G.K=KF.K)(Fn:xZ G.K x qual st f fd)(Sc:aC N ps (ae st))
  (ht:∀Ed:Str->Prop,cB G k ⟨N,(ae st).names,[],false,false,true,λc _=>Ed c⟩ (ak st) (t λc _=>Ed c))
  (len:∀ds E,sp ds E->ds.length+1=ps.length)
  (body:∀ds E,sp ds E->t (λc _=>E c) {nx:=λ_=>False,rt:=λ_ _=>False} (nk N.length ds)):bW G.P G.w G.K G.mg G.base (CJ G.P G.w) (k+1) f fd ps (A5 sp):=by
 obtain⟨oc,od,kV,doc,pm,an,gh,ct,F9,rfl,lk,iu⟩:=Fn.ex;refine EH lk iu Sc (λvs H Q E h=>?_) λA outer s H vs Q E hr h=>?_
 ·obtain⟨F,x,us,ds,Ed,rfl,s,r,q,_⟩:=h
  rw[List.length_cons,r.length];exact len _ _ q
 ·obtain⟨F,x,us,ds,Ed,rfl,sm,r,q,KE⟩:=h
  have R0:RS ⟨H,F,[],[]⟩ F (nk N.length ds) ((V.ref x::us).map some++List.replicate (N.length-(V.ref x::us).length) none) H:=by
   have:=(RS.start (vs:=.aU::us) (ds:=.aU::ds) N.length sm (.cons .aU r)).away (i:=0) (u:=some (.ref x)) (λp hp=>absurd hp (by simp))
   exact this
  refine⟨_,ht Ed (kz (CJ G.P G.w) G.P G.w G.K G.mg G.base N qual (ae st) f gh A outer s H E) ⟨H,F,[],[]⟩ ⟨rfl,rfl,rfl,hK,rfl,rfl,rfl,rfl,Sc.nd,λp hp=>absurd hp (by simp),λ_ _=>rfl,λ_=>rfl,Sc.kind,λ_ _ _=>rfl,λ_=>hr.hd,hr.dp,hr.un,λ_=>PassesOwn.leaving,λ_=>⟨rfl,rfl,rfl⟩,
   λc aj hx pins σ H1 F1 s1 a T I R fl=>?_,λ_ c aj hx pins σ H1 F1 s1 a I R ha na la=>?_⟩,F,nk N.length ds,_,R0,body ds Ed q,?_⟩
  ·refine rS (c:=c) (T:=T) I.ok.frames rfl I.stack ⟨(I.bc a _ fl.ha).1,(I.bc T _ fl.hT).1⟩ fl.ne λh' T' m f'=>?_
   exact tV ⟨rfl,rfl⟩ rfl rfl rfl rfl I R ⟨_,fl.ha⟩ ⟨_,fl.hT⟩ fl.na fl.nT fl.la fl.lT m f' λt H'=>KE c t H' hx
  ·refine leave_new (c:=c) I.ok.frames rfl I.stack (I.bc a _ ha).1 λh' T' m f'=>?_
   exact tV ⟨rfl,rfl⟩ rfl rfl rfl rfl I R ⟨_,ha⟩ ⟨_,ha⟩ na na la la m f' λt H'=>KE c t H' hx
  exact⟨λ_ _ _ _ _ _ h=>h.elim,λ_ _ _ _ _ _ _ _ _ h=>h.elim,λ_ _ _ _ _ _ h=>h.elim,λ_ _ _ _ _ _ h=>h.elim⟩
theorem Vo.fx{m qual:Str}{st:Stmt}{ps N:List Str}{f:Addr}{fd:FuncData}{t:(Str->Sd->Prop)->bK}{sp:iG}(d:Vo G m qual st ps f fd)(hK:G.K=KF.K)(Sc:aC N ps (ae st))
  (ht:∀Ed:Str->Prop,cB G k ⟨N,(ae st).names,[],false,false,true,λc _=>Ed c⟩ (ak st) (t λc _=>Ed c))
  (len:∀ds E,sp ds E->ds.length+1=ps.length) (body:∀ds E,sp ds E->t (λc _=>E c) {nx:=λ_=>False,rt:=λ_ _=>False} (nk N.length ds)):oY G (k+1+1) sp:=
 ⟨f,fd,ps,k+1,rfl,Pt hK d.F Sc ht len body,d.makes,d.b,d.mg⟩
def UW(ex:Str->Sd->Prop)(sp:iG)(t:eU):TX:=λσ _=>t σ λds aw=>CL sp ds λc=>ex c aw
theorem Ks{sp:iG}{e:Expr}{es:List Expr}{t:eU}{p pos:Pos}(h:oY G k sp)(ha:qW G k S (e::es) t)(hg:S.sc.lookup ("Kept":Str)=some .globalImplicit:=by rfl)
  (he:∀env,starEach (e::es) env=(false,eval e env)::starEach es env:=by exactλ_=>Vc.cj rfl) (eY:∀env,(backTo pos (starEach es env)).any (·.1)=false:=by intro _;rfl) (hh:S.jG=false:=by rfl) (Jn:S.qA=false:=by rfl):EX G k S (.Call (.Name "Kept" p) (e::es) [] pos) (UW S.ex sp t):=.mk λX Y ok pins s σ H Q I q=>by
 obtain⟨f,fd,ps,k',rfl,h1,h2,h3,h4⟩:=h;have mQ:bW X.prog X.w X.K X.mg X.base (CJ X.prog X.w) k' f fd ps (A5 sp):=by rw[ok.P,ok.w,ok.K,ok.mg,ok.base];exact h1
 have M:Mk X.K kC f:=by rw[ok.K];exact h2
 obtain⟨F,aj,Qd,R,q,K⟩:=q;refine wpAny_Call_Name_kw (fO I (di ok hg) (by rw[ok.mg];exact h4) ?_ ∅)
 refine PySem.W.callWith_K (h₀:=X.base) I.ok.mod.wF M.kp (ck (ha X Y ok pos pins s σ H (λvs H1=>∃F1 ds aw,RS Y F1 aw σ H1/\aE F1 vs ds/\CL sp ds λc=>S.ex c aw) I
  ⟨F,aj,_,R,q,λvs H1 F1 ds aw s1 R1 r1 q1=>⟨F1,ds,aw,R1,r1,q1⟩⟩) λus s1 ⟨vs,H1,I1,r,F1,ds,aw,R1,r1,q1⟩=>⟨I1.iB,?_⟩) (he _) (eY _)
 let E:XK:=λv _ _=>∃c t,v=.str c t/\S.ex c aw
 have I2:=Inv.made (C:=kC) I1;have hx:H1 (s1.heap.objs.size+1)=none:=I1.bc.fresh (Nat.le_succ _);have PD:H1 s1.heap.objs.size=none:=I1.bc.fresh (Nat.le_refl _);have abb:(upd H1 s1.heap.objs.size (.own (s1.heap.objs.size+1))) (s1.heap.objs.size+1)=none:=by rw[aq (Nat.ne_of_gt (Nat.lt_succ_self _))];exact hx
 have R2:=(R1.jW (o:=.own (s1.heap.objs.size+1)) PD).jW (o:=.ins kC s1.heap.objs.size []) abb;have pA:A5 sp (V.ref (s1.heap.objs.size+1)::vs) (upd (upd H1 s1.heap.objs.size (.own (s1.heap.objs.size+1))) (s1.heap.objs.size+1) (.ins kC s1.heap.objs.size [])) (λ_ _=>False) E:=⟨F1,_,vs,ds,_,rfl,⟨R2.fr,R2.ob.tab⟩,r1,q1,λc t H' hx=>⟨c,t,rfl,hx⟩⟩;have r2:Vals (V.ref (s1.heap.objs.size+1)::vs) (Value.ref (s1.heap.objs.size+1)::us):=.cons rfl r;have hl:(Value.ref (s1.heap.objs.size+1)::us).length=ps.length:=by rw[<- r2.length];exact mQ.len _ _ _ _ pA
 refine wpAny_call (wK (f:=f) I1.iB M.makes M.init (beq_iff_eq.mp M.fn) (codeAny_mono (mQ.run _ X.stack _ _ ⟨Value.ref (s1.heap.objs.size+1)::us,[]⟩ (Value.ref (s1.heap.objs.size+1)::us) _ _ E ((ok.room hh).make kC us [])
  (I2.Bu.make kC us []) (by have:=h3 _ (Value.ref (s1.heap.objs.size+1)::us) (by rw[<- ok.K];exact I2.iB) (by rw[List.append_nil];exact hl);rw[List.append_nil]at this;exact this) r2 pA) λr s' hq=>?_))
 cases r with
 | error e =>
  obtain⟨b,T,c,H',rfl,os,bare,un,bc,sm,na,nT,la,lT,ne,fa,fT,ed⟩:=hq;obtain⟨c',t',ec,hx⟩:=ed 0;cases ec;have I3:L2.Inv X pins σ H' s':=I2.o5 os un bc bare λb z=>absurd z (by simp)
  have R3:RS Y F1 aw σ H':=R2.call (au.refl _) (R2.fr.trans sm) sm λc o e=>.inl e;have old:=λb e=>jb I2 (ok.nx Jn).1 (b:=b) e;exact ok.exc c aw hx pins σ H' F1 s' b T I3 R3 ⟨same_none R2.fr na,same_none R2.fr nT,fa,fT,ne,(R2.bg na).1,(R2.bg nT).1,old b la,old T lT⟩
 | ok fl =>
  cases fl with
  | ret u =>
   obtain⟨v,H',I3,rv,ev⟩:=I2.after hq;exact ev.elim
  | next=>exact False.elim hq
  | brk=>exact False.elim hq
  | cont=>exact False.elim hq
end Vc
namespace Vs
open PySem PySem.Calls PyProof.Rows PyProof.V PySem.Spec
section
variable {prog:Program}{w:World}{A:Around}{E:Value->Shared->Prop}{s:Shared}
theorem yX{T:String}{r d:Addr}{n:Nat}{P:Nat->Value->Prop}{OK:Heap->Prop}{vs:List Value}{ns:List Int}{Q:Value->Shared->Prop}(K:PySem.W.KdlSrc prog w T r d n P OK)(hh:A.handled=none)(ok:OK s.heap)(hn:n<=sizeLine)
  (hv:∀acc:Array Value,ItemsOf P acc n->acc.toList=vs) (hz:vs.length<=sizeLine) (hI:IntsAre vs ns) (h64:vs.length<64)
  (h:∀(out:Array Value) (ms:List Int) (h1 g:Heap) (c t:Nat),IntsAre out.toList ms->ms.Perm ns->ms.Pairwise (·<=·)->(∀b o,s.heap.get? b=some o->h1.get? b=some o)->(∀b o,h1.get? b=some o->g.get? b=some o)->g.get? h1.objs.size=some (seqObj "list" out c)->Q (.ref h1.objs.size) {s with heap:=g,toks:=t}):
  wpAny (model prog w) A (call (.builtin "sorted") [.ref r]) Q E s:=by
 refine Calls.call_function_entry kind_sorted plain_sorted entry_sorted (args_sorted1 _) ?_;unfold Builtin.«sorted»;refine wpAny_bind (m:=checkCount "sorted" 1 1 _) (wpAny_pure (wpAny_bind (PySem.W.kdu_collect (A:=A.in1) K hh ok hn λh1 t acc k1 items=>?_)));rw[hv acc items];refine wpAny_bind (wpAny_newList ?_ hz);have VG:(h1.push (seqObj "list" vs.toArray 0)).get? h1.objs.size=some (seqObj "list" vs.toArray 0):=Heap.get?_push_size _ rfl;show wpAny _ _ _ _ _ {s with heap:=h1.push (seqObj "list" vs.toArray 0),toks:=t}
 refine wpAny_bind (wpAny_holding (wpAny_call_entry slot_list_sort ⟨_,VG,rfl⟩ entry_list_sort (list_sort_tree (s:={s with heap:=h1.push (seqObj "list" vs.toArray 0),toks:=t}) VG hI h64 λout ms a1 a2 a3=>⟨_,rfl,?_⟩) (args_list_sort _)))
 obtain⟨c,hc⟩:=sortedHeap_at (out:=out) VG;refine wpAny_pure ⟨_,rfl,h out ms h1 _ c t a1 a2 a3 k1 (λb o e=>?_) hc⟩;have hb:=Heap.lt_size e;rw[sortedHeap_old (Nat.ne_of_lt hb) (by rw[size_push'];exact Nat.lt_succ_of_lt hb)]
 exact Heap.get?_push_of_some _ e
end
end Vs
namespace Vc
open PySem L2
variable [KF]
def AZ:List V->Hp->VK->Prop:=λxs H Q=>∃a ks,∃ns:List Int,xs=[.ref a]/\H a=some (.dK ks)/\ks.map (·.1)=ns.map Sum.inl/\ns.length<64 /\
 ∀ms:List Int,ms.Perm ns->ms.Pairwise (λx y=>x<=y)->∀l,H l=none->Q (.ref l) (upd H l (.lst (ms.map V.int)))
theorem vG{X:Cx}(hc:X.calm=true):eG X (.builtin "sorted") AZ:=by
 intro pins s σ H xs VU Q I r h;obtain⟨a,ks,ns,rfl,ha,ek,h64,q⟩:=h;obtain⟨u,rfl,rx⟩:=vals1 r;cases rx;obtain⟨hz,hd,vs,rel,o,es,ep,e1,e2,e3,e4,e5,e6⟩:=o8 I.bc ha;have hlv:ks.length=vs.length:=rel.length;have hle:es.toList.length=vs.length:=e5.length;have hkv:vs.map (·.1)=ns.map Sum.inl:=by
  rw[<- ek];clear e5 e6 hlv hle ha ek hz q
  induction rel with
  | nil=>rfl
  | cons hx _ ih=>rw[List.map_cons,List.map_cons,ih,hx.1]
 have hln:ns.length=vs.length:=by have:=congrArg List.length hkv;simpa using this.symm
 obtain⟨its,OJ⟩:∃its:List Value,its=es.toList.map (·.key):=⟨_,rfl⟩
 have ii:PyProof.Rows.IntsAre its ns:=by rw[OJ];exact pS e5 hkv
 have lits:its.length=vs.length:=by rw[OJ,List.length_map];exact hle
 refine Vs.yX (vs:=its) (Oa (en:=es) (c:=ep) hd) (I.ok.hd hc) ⟨o,e1,e2,e3⟩ (by rw[<- Array.length_toList];omega) (λacc it=>?_) ⋯ ii ⋯ λout ms h1 g c' t a1 perm srt k1 kg hg=>?_
 ·refine List.ext_getElem? λj=>?_
  rw[Array.getElem?_toList];cases ej:acc[j]? with
  | none =>
   have:acc.size<=j:=Array.getElem?_eq_none_iff.mp ej;rw[it.1]at this;rw[List.getElem?_eq_none (by rw[lits,<- hle,Array.length_toList];exact this)]
  | some v =>
   obtain⟨e,he,rfl⟩:=it.2 j v ej;rw[OJ,List.getElem?_map,Array.getElem?_toList,he];rfl
 ·have I1:=I.kept (h':=h1) (t':=s.toks) k1
  have fr:H h1.objs.size=none:=I1.fresh;refine⟨.ref h1.objs.size,_,I1.laid (h':=g) (t':=t) (o:=.lst (ms.map V.int)) kg (Nat.le_refl _) ⟨?_,out.toList,c',?_,hg⟩,rfl,q ms perm srt _ fr⟩
  ·rw[List.length_map,perm.length_eq];omega
  ·rw[<- pD a1]
   exact gP (nH a1)
variable {G:GE}{k:Nat}{S:Stat}
def kj:List D->(EV->Prop)->Prop
 | [.jt kvs],Q=>kvs.length<64/\Q (.own ((xB (kvs.map (·.1))).map D.int))
 | _,_=>False
theorem kE(hh:S.jG=false:=by rfl):CK G k S (.builtin "sorted") kj:=⟨λ_=>AZ,λX Y ok=>vG (ok.calm hh),λY F H aj σ vs ds Qd Q R r q g=>by
 unfold kj at q
 split at q
 ·rename_i kvs
  obtain⟨h64,q⟩:=q;obtain⟨v,rfl,rv⟩:=r.one;obtain⟨a,ks,rfl,h,rr⟩:=rv;refine⟨a,ks,kvs.map (·.1),rfl,h,sg rr,by rw[List.length_map];exact h64,λms hp hs l hl=>?_⟩
  rw[<- xC hp hs]at q;exact g.own R (sj ms) q l hl
 ·exact q.elim⟩
end Vc
set_option maxHeartbeats 0
namespace K32
open PySem L2 Vc
section
def top(i:Nat):Stmt:=PySem.Challenge.pw_closepoints_k32_kept_refused.main.body.getD i (.Pass ⟨0,0,0,0⟩)
variable [KF]
abbrev XL:List Str:=["NearError","NoPoints","NoWay","NoPlace","NoBound","NoNumber","TooMany","NoPaper","NoText","NoForm","NoneYet"]
structure Gl(G:GE):Prop where
 ik:kr G XL
 kg:KG G
 z_ValueError:G.mg "ValueError"=none
 z_abs:G.mg "abs"=none
 z_isinstance:G.mg "isinstance"=none
 z_len:G.mg "len"=none
 z_list:G.mg "list"=none
 z_max:G.mg "max"=none
 z_min:G.mg "min"=none
 z_range:G.mg "range"=none
 z_sorted:G.mg "sorted"=none
 z_sum:G.mg "sum"=none
 z_tuple:G.mg "tuple"=none
 z_zip:G.mg "zip"=none
 rm:ME G "SQUARES" (.str "squares")
 mG:ME G "STREETS" (.str "streets")
variable {G:GE}{k:Nat}
abbrev jh:Stmt:=top 15
abbrev vv:List Str:=["count"]
local macro_rules | `(tactic| walk_at "5") => `(tactic| exact ⟨rfl,rfl,rfl,by decide +kernel,rfl,by decide +kernel,by decide +kernel⟩)
theorem GR:aC vv ["count"] (ae jh):=by walk_at "5"
def Hn:bK:=(b4 (vf (aS JL (ag 0) (aM (.int 1))) (aS Vy (ag 0) (aM (.int 3)))) eZ ou)
theorem Xf(E:Gl G):cB G k ⟨vv,(ae jh).names,[],false,false,false,λ_ _=>False⟩ (ak jh) (Hn):=(aB (cH (Ih (yO (aL Dt (af 0) av) (pW (aL IH (af 0) av)))) (aB jA) cR))
abbrev pY:Stmt:=top 16
abbrev CU:List Str:=["point","count"]
theorem Ms:aC CU ["point","count"] (ae pY):=by walk_at "5"
def U3:bK:=(b4 (aS neT (a9 (jR ka (cf (ag 0) iA))) (ag 1)) eZ ou)
theorem aaT(E:Gl G):cB G k ⟨CU,(ae pY).names,[],false,false,false,λ_ _=>False⟩ (ak pY) (U3):=(aB (cH (aL iT (bw (gG f_len E.z_len (bC (af 0) b5) (by decide +kernel))) (af 1)) (aB jA) cR))
abbrev lh:Stmt:=top 17
abbrev CY:List Str:=["points","point"]
theorem T5:aC CY ["points"] (ae lh):=by walk_at "5"
def Hg(h8:bA)(lV:bA):bK:=(fJ (cQ (ai [] (ag 0))) (iI 1) (bQ (gO (jQ h8 (aI (ai [] (a9 (jR ka (cf (ag 1) iA)))) tN))) (gO (jQ lV (aI (ai [] (ag 1)) (aI (ai [] (a9 (jR ka (cf (iD (ag 0) (aM (.int 0))) iA)))) tN))))))
theorem W9(E:Gl G){h8:bA}(rL:eX G k "need_count" h8){lV:bA}(BE:eX G k "need_as_many_numbers" lV):cB G k ⟨CY,(ae lh).names,[],false,false,false,λ_ _=>False⟩ (ak lh) (Hg h8 lV):=(aB (pX (fM (az (af 0))) (bH 1) (ay (aY (bZ rL (ah (az (bw (gG f_len E.z_len (bC (af 1) b5) (by decide +kernel)))) ax))) (aB (aY (bZ BE (ah (az (af 1)) (ah (az (bw (gG f_len E.z_len (bC (dg (af 0) av) b5) (by decide +kernel)))) ax))))))))
abbrev jl:Stmt:=top 18
abbrev vA:List Str:=["way"]
theorem GX:aC vA ["way"] (ae jl):=by walk_at "5"
def Hy:bK:=(b4 (xG (aS neT (ag 0) (aM (.str "streets"))) (aS neT (ag 0) (aM (.str "squares")))) eZ ou)
theorem Xq(E:Gl G):cB G k ⟨vA,(ae jl).names,[],false,false,false,λ_ _=>False⟩ (ak jl) (Hy):=(aB (cH (Ih (Gy (aL iT (af 0) (xk E.mG)) (yM (aL iT (af 0) (xk E.rm))))) (aB jA) cR))
abbrev uh:Stmt:=top 19
abbrev MF:List Str:=["points","way"]
theorem aad:aC MF ["points","way"] (ae uh):=by walk_at "5"
def U4(uO:bA)(ic:bA):bK:=(bQ (gO (jQ uO (aI (ai [] (ag 0)) tN))) (gO (jQ ic (aI (ai [] (ag 1)) tN))))
theorem aaU(E:Gl G){uO:bA}(E5:eX G k "need_points" uO){ic:bA}(rN:eX G k "need_way" ic):cB G k ⟨MF,(ae uh).names,[],false,false,false,λ_ _=>False⟩ (ak uh) (U4 uO ic):=(ay (aY (bZ E5 (ah (az (af 0)) ax))) (aB (aY (bZ rN (ah (az (af 1)) ax)))))
abbrev lu:Stmt:=top 20
abbrev C1:List Str:=["points","place"]
theorem T8:aC C1 ["points","place"] (ae lu):=by walk_at "5"
def Ho:bK:=(b4 (vf (aS JL (ag 1) (aM (.int 0))) (aS geT (ag 1) (a9 (jR ka (cf (ag 0) iA))))) eZ ou)
theorem Xg(E:Gl G):cB G k ⟨C1,(ae lu).names,[],false,false,false,λ_ _=>False⟩ (ak lu) (Ho):=(aB (cH (Ih (yO (aL Dt (af 1) av) (pW (aL Wx (af 1) (bw (gG f_len E.z_len (bC (af 0) b5) (by decide +kernel))))))) (aB jA) cR))
abbrev jg:Stmt:=top 21
abbrev vt:List Str:=["bound"]
theorem GQ:aC vt ["bound"] (ae jg):=by walk_at "5"
def Hm:bK:=(b4 (aS JL (ag 0) (aM (.int 0))) eZ ou)
theorem Xe(E:Gl G):cB G k ⟨vt,(ae jg).names,[],false,false,false,λ_ _=>False⟩ (ak jg) (Hm):=(aB (cH (aL Dt (af 0) av) (aB jA) cR))
abbrev ur:Stmt:=top 23
abbrev MK:List Str:=["way","point","other","differences"]
theorem aai:aC MK ["way","point","other"] (ae ur):=by walk_at "5"
def Vb:bK:=(bQ (dw [] 3 (d7 [] [none,none] (U2 (aI (ai [] (ag 1)) (aI (ai [] (ag 2)) tN))) (L4 2 (gC (iI 0) (gC (iI 1) L3))) dj (ai [] (a9 (jR Iy (cf (a9 (aW qo (ag 0) (ag 1))) iA)))))) (bQ (b4 (aS eqT (ag 0) (aM (.str "streets"))) (ie [] (jR sumF (cf (ag 3) iA))) ou) (ie [] (jR sumF (cf (a9 (d7 [] [none] (cQ (ai [] (ag 3))) (iI 0) dj (ai [] (a9 (aW pM (ag 0) (ag 0)))))) iA)))))
local macro_rules | `(tactic| walk_at "6") => `(tactic| first|decide +kernel | (dsimp only[aQ,aD];decide +kernel))
theorem aa2(E:Gl G):cB G k ⟨MK,(ae ur).names,[],false,false,false,λ_ _=>False⟩ (ak ur) (Vb):=(ay (GJ 3 (N':=["here","there"]) (Yi (ah (az (af 1)) (ah (az (af 2)) ax)) E.z_zip) ⟨rfl,by walk_at "6",by walk_at "6",by walk_at "6",by walk_at "6",rfl,by walk_at "6"⟩ (wx (dk (bH 0) (dk (bH 1) pz))) il (az (bw (gG Xv E.z_abs (bC (bw (kZ (af 0) (af 1))) b5) (by decide +kernel))))) (ay (cH (aL gS (af 0) (xk E.mG)) (aB (bN (gG LX E.z_sum (bC (af 3) b5) (by decide +kernel)))) cR) (aB (bN (gG LX E.z_sum (bC (bw (fG (N':=["difference"]) (fM (az (af 3))) ⟨rfl,by walk_at "6",by walk_at "6",by walk_at "6",by walk_at "6",rfl,by walk_at "6"⟩ (bH 0) il (az (bw (pV (af 0) (af 0)))))) b5) (by decide +kernel))))))
abbrev um:Stmt:=top 24
abbrev MH:List Str:=["points","way","pairs","i","j"]
theorem aaf:aC MH ["points","way"] (ae um):=by walk_at "5"
def aaF(lZ:bA):bK:=(bQ (dw [] 2 (kn tN)) (bQ (fJ (qK (cf (a9 (jR ka (cf (ag 0) iA))) iA)) (iI 3) (fJ (Kw (cf (a9 (aW cC (ag 3) (aM (.int 1)))) (cf (a9 (jR ka (cf (ag 0) iA))) iA))) (iI 4) (gO (zl (ag 2) (ai [] (jT (aI (ai [] (a9 (jQ lZ (aI (ai [] (ag 1)) (aI (ai [] (iD (ag 0) (ag 3))) (aI (ai [] (iD (ag 0) (ag 4))) tN)))))) (aI (ai [] (ag 3)) (aI (ai [] (ag 4)) tN))))))))) (ie [] (oX (ag 2)))))
theorem aaW(E:Gl G){lZ:bA}(BH:eX G k "far_between" lZ):cB G k ⟨MH,(ae um).names,[],false,false,false,λ_ _=>False⟩ (ak um) (aaF lZ):=(ay (bz 2 (cq ax)) (ay (pX (j7 (bC (bw (gG f_len E.z_len (bC (af 0) b5) (by decide +kernel))) b5) E.z_range) (bH 3) (aB (pX (P0 (bC (bw (bR (af 3) av)) (bC (bw (gG f_len E.z_len (bC (af 0) b5) (by decide +kernel))) b5)) E.z_range) (bH 4) (aB (aY (pU (af 2) (az (b8 (ah (az (bw (bZ BH (ah (az (af 1)) (ah (az (dg (af 0) (af 3))) (ah (az (dg (af 0) (af 4))) ax)))))) (ah (az (af 3)) (ah (az (af 4)) ax))))))))))) (aB (bN (oP (af 2))))))
abbrev jf:Stmt:=top 26
abbrev vq:List Str:=["points","way","bound"]
theorem GP:aC vq ["points","way","bound"] (ae jf):=by walk_at "5"
def Hk(dR:bA)(uR:bA)(lW:bA):bK:=(bQ (gO (jQ dR (aI (ai [] (ag 0)) (aI (ai [] (ag 1)) tN)))) (bQ (gO (jQ uR (aI (ai [] (ag 2)) tN))) (ie [] (d7 [] [none,none,none,some 2] (cQ (ai [] (a9 (jQ lW (aI (ai [] (ag 0)) (aI (ai [] (ag 1)) tN)))))) (L4 3 (gC (iI 0) (gC (iI 1) (gC (iI 2) L3)))) (aS leT (ag 0) (ag 3)) (ai [] (jT (aI (ai [] (ag 1)) (aI (ai [] (ag 2)) tN))))))))
theorem Xc(E:Gl G){dR:bA}(om:eX G k "need_points_and_way" dR){uR:bA}(E8:eX G k "need_bound" uR){lW:bA}(BF:eX G k "pairs_by_places" lW):cB G k ⟨vq,(ae jf).names,[],false,false,false,λ_ _=>False⟩ (ak jf) (Hk dR uR lW):=(ay (aY (bZ om (ah (az (af 0)) (ah (az (af 1)) ax)))) (ay (aY (bZ E8 (ah (az (af 2)) ax))) (aB (bN (fG (N':=["far","i","j","bound"]) (fM (az (bw (bZ BF (ah (az (af 0)) (ah (az (af 1)) ax)))))) ⟨rfl,by walk_at "6",by walk_at "6",by walk_at "6",by walk_at "6",rfl,by walk_at "6"⟩ (wx (dk (bH 0) (dk (bH 1) (dk (bH 2) pz)))) (zO (aL aaR (af 0) (af 3))) (az (b8 (ah (az (af 1)) (ah (az (af 2)) ax)))))))))
abbrev uo:Stmt:=top 28
abbrev MI:List Str:=["points","way","point","places"]
theorem aag:aC MI ["points","way","point","places"] (ae uo):=by walk_at "5"
def U8(lZ:bA):bK:=(ie [] (oX (KO (a9 (d7 [] [none,some 1,some 2,some 0] (cQ (ai [] (ag 3))) (iI 0) dj (ai [] (jT (aI (ai [] (a9 (jQ lZ (aI (ai [] (ag 1)) (aI (ai [] (ag 2)) (aI (ai [] (iD (ag 3) (ag 0))) tN)))))) (aI (ai [] (ag 0)) tN)))))) (ai [] (aM .aU)))))
theorem aaZ(E:Gl G){lZ:bA}(BH:eX G k "far_between" lZ):cB G k ⟨MI,(ae uo).names,[],false,false,false,λ_ _=>False⟩ (ak uo) (U8 lZ):=(aB (bN (oP (Mp (bw (fG (N':=["place","way","point","points"]) (fM (az (af 3))) ⟨rfl,by walk_at "6",by walk_at "6",by walk_at "6",by walk_at "6",rfl,by walk_at "6"⟩ (bH 0) il (az (b8 (ah (az (bw (bZ BH (ah (az (af 1)) (ah (az (af 2)) (ah (az (dg (af 3) (af 0))) ax)))))) (ah (az (af 0)) ax)))))) (az sf) E.z_min))))
abbrev uq:Stmt:=top 29
abbrev MJ:List Str:=["points","way","place","others"]
theorem aah:aC MJ ["points","way","place"] (ae uq):=by walk_at "5"
def U9(A8:bA):bK:=(bQ (dw [] 3 (d7 [] [none,some 2] (qK (cf (a9 (jR ka (cf (ag 0) iA))) iA)) (iI 0) (aS neT (ag 0) (ag 1)) (ai [] (ag 0)))) (ie [] (jQ A8 (aI (ai [] (ag 0)) (aI (ai [] (ag 1)) (aI (ai [] (iD (ag 0) (ag 2))) (aI (ai [] (ag 3)) tN)))))))
theorem aa0(E:Gl G){A8:bA}(Py:eX G k "nearest_among" A8):cB G k ⟨MJ,(ae uq).names,[],false,false,false,λ_ _=>False⟩ (ak uq) (U9 A8):=(ay (GJ 3 (N':=["other","place"]) (j7 (bC (bw (gG f_len E.z_len (bC (af 0) b5) (by decide +kernel))) b5) E.z_range) ⟨rfl,by walk_at "6",by walk_at "6",by walk_at "6",by walk_at "6",rfl,by walk_at "6"⟩ (bH 0) (zO (aL iT (af 0) (af 1))) (az (af 0))) (aB (bN (bZ Py (ah (az (af 0)) (ah (az (af 1)) (ah (az (dg (af 0) (af 2))) (ah (az (af 3)) ax))))))))
abbrev lg:Stmt:=top 30
abbrev CW:List Str:=["points","way"]
theorem T4:aC CW ["points","way"] (ae lg):=by walk_at "5"
def Hf(dR:bA)(lW:bA):bK:=(bQ (gO (jQ dR (aI (ai [] (ag 0)) (aI (ai [] (ag 1)) tN)))) (ie [] (oX (KO (a9 (jQ lW (aI (ai [] (ag 0)) (aI (ai [] (ag 1)) tN)))) (ai [] (aM .aU))))))
theorem W8(E:Gl G){dR:bA}(om:eX G k "need_points_and_way" dR){lW:bA}(BF:eX G k "pairs_by_places" lW):cB G k ⟨CW,(ae lg).names,[],false,false,false,λ_ _=>False⟩ (ak lg) (Hf dR lW):=(ay (aY (bZ om (ah (az (af 0)) (ah (az (af 1)) ax)))) (aB (bN (oP (Mp (bw (bZ BF (ah (az (af 0)) (ah (az (af 1)) ax)))) (az sf) E.z_min)))))
abbrev lq:Stmt:=top 31
abbrev C0:List Str:=["points","way","place"]
theorem T7:aC C0 ["points","way","place"] (ae lq):=by walk_at "5"
def Hl(dR:bA)(uS:bA)(A9:bA):bK:=(bQ (gO (jQ dR (aI (ai [] (ag 0)) (aI (ai [] (ag 1)) tN)))) (bQ (gO (jQ uS (aI (ai [] (ag 0)) (aI (ai [] (ag 2)) tN)))) (ie [] (jQ A9 (aI (ai [] (ag 0)) (aI (ai [] (ag 1)) (aI (ai [] (ag 2)) tN)))))))
theorem Xd(E:Gl G){dR:bA}(om:eX G k "need_points_and_way" dR){uS:bA}(E9:eX G k "need_place" uS){A9:bA}(Pz:eX G k "nearest_other" A9):cB G k ⟨C0,(ae lq).names,[],false,false,false,λ_ _=>False⟩ (ak lq) (Hl dR uS A9):=(ay (aY (bZ om (ah (az (af 0)) (ah (az (af 1)) ax)))) (ay (aY (bZ E9 (ah (az (af 0)) (ah (az (af 2)) ax)))) (aB (bN (bZ Pz (ah (az (af 0)) (ah (az (af 1)) (ah (az (af 2)) ax))))))))
abbrev p0:Stmt:=inClass (top 33) 0
abbrev Dg:List Str:=["self","way","count"]
theorem Mu:aC Dg ["self","way","count"] (ae p0):=by walk_at "5"
def U7(h8:bA)(ic:bA):bK:=(bQ (gO (jQ h8 (aI (ai [0] (ag 2)) tN))) (bQ (gO (jQ ic (aI (ai [0] (ag 1)) tN))) (bQ (tKI 0 "way" (ag 1)) (bQ (tKI 0 "count" (ag 2)) (bQ (tKN 0) (tKZ 0 (aM (.int 0))))))))
theorem aaY(E:Gl G){h8:bA}(rL:eX G k "need_count" h8){ic:bA}(rN:eX G k "need_way" ic):cB G k ⟨Dg,(ae p0).names,[0],false,false,false,λ_ _=>False⟩ (ak p0) (U7 h8 ic):=(ay (aY (bZ rL (ah (az (af 2)) ax))) (ay (aY (bZ rN (ah (az (af 1)) ax))) (ay (GK 0 E.kg (af 1) (xm 0)) (ay (GK 0 E.kg (af 2) (xm 0)) (ay (TR 0 E.kg) (aB (KA 0 E.kg av (xm 0))))))))
abbrev jk:Stmt:=inClass (top 33) 1
abbrev vy:List Str:=["self","point","name"]
theorem GW:aC vy ["self","point"] (ae jk):=by walk_at "5"
def Hv(lV:bA):bK:=(bQ (gO (jQ lV (aI (ai [0] (ag 1)) (aI (ai [0] (KN "count" (jU 0))) tN)))) (bQ (dw [0] 2 (oX (KN "ever_put" (jU 0)))) (bQ (tKP 0 (ag 2) (ai [0] (ag 1))) (bQ (tKE 0 (a9 (aW cC (ag 2) (aM (.int 1))))) (ie [0] (oX (ag 2)))))))
theorem Xm(E:Gl G){lV:bA}(BE:eX G k "need_as_many_numbers" lV):cB G k ⟨vy,(ae jk).names,[0],false,false,false,λ_ _=>False⟩ (ak jk) (Hv lV):=(ay (aY (bZ BE (ah (az (af 1)) (ah (az (yN E.kg (ki 0))) ax)))) (ay (bz 2 (oP (yN E.kg (ki 0)))) (ay (TY 0 E.kg (az (af 1)) (af 2) (xm 0)) (ay (Kz 0 E.kg (bw (bR (af 2) av)) (xm 0)) (aB (bN (oP (af 2))))))))
abbrev jj:Stmt:=inClass (top 33) 2
abbrev vx:List Str:=["self","name"]
theorem GV:aC vx ["self","name"] (ae jj):=by walk_at "5"
def Hr(fQ:bA):bK:=(bQ (gO (tMl (d6 fQ) 0 (qP (ai [0] (ag 1)) iK))) (tKD 0 (ag 1)))
theorem Xi(E:Gl G){fQ:bA}(tI:cv G k "need_name" (d6 fQ)):cB G k ⟨vx,(ae jj).names,[0],false,false,false,λ_ _=>False⟩ (ak jj) (Hr fQ):=(ay (aY (m8 true 0 tI E.kg (gR (az (af 1)) cm))) (aB (TU 0 E.kg (af 1) (xm 0))))
abbrev lj:Stmt:=inClass (top 33) 3
abbrev CZ:List Str:=["self"]
theorem T6:aC CZ ["self"] (ae lj):=by walk_at "5"
def Hh:bK:=(ie [] (jR kj (cf (UT (ai [] (ag 0))) iA)))
theorem Xa(E:Gl G):cB G k ⟨CZ,(ae lj).names,[],false,false,false,λ_ _=>False⟩ (ak lj) (Hh):=(aB (bN (gG kE E.z_sorted (bC (Gz E.kg (az (af 0))) b5) (by decide +kernel))))
abbrev je:Stmt:=inClass (top 33) 4
abbrev vp:List Str:=["self","name"]
theorem GO:aC vp ["self","name"] (ae je):=by walk_at "5"
def Hj(fQ:bA):bK:=(bQ (gO (oS (d6 fQ) (ai [] (ag 0)) (qP (ai [] (ag 1)) iK))) (ie [] (oX (Cr (UT (ai [] (ag 0))) (ag 1)))))
theorem Xb(E:Gl G){fQ:bA}(tI:cv G k "need_name" (d6 fQ)):cB G k ⟨vp,(ae je).names,[],false,false,false,λ_ _=>False⟩ (ak je) (Hj fQ):=(ay (aY (jd tI E.kg (az (af 0)) (gR (az (af 1)) cm))) (aB (bN (oP (A1 (Gz E.kg (az (af 0))) (af 1))))))
abbrev lE:Stmt:=inClass (top 33) 5
abbrev C6:List Str:=["self","found","names"]
theorem Uc:aC C6 ["self"] (ae lE):=by walk_at "5"
def Hw(uN:bA)(dU:bA)(bI:bA):bK:=(bQ (dw [] 1 (jQ uN (aI (ai [] (a9 (oS (d6 dU) (ai [] (ag 0)) iK))) (aI (ai [] (KN "way" (ag 0))) tN)))) (bQ (b4 (aS isT (ag 1) (aM .aU)) (ie [] (oX (aM .aU))) ou) (bQ (dw [] 2 (oS (d6 bI) (ai [] (ag 0)) iK)) (ie [] (oX (jT (aI (ai [] (iD (ag 1) (aM (.int 0)))) (aI (ai [] (iD (ag 2) (iD (ag 1) (aM (.int 1))))) (aI (ai [] (iD (ag 2) (iD (ag 1) (aM (.int 2))))) tN)))))))))
theorem Xn(E:Gl G){uN:bA}(E4:eX G k "nearest_two" uN){dU:bA}(oo:cv G k "plain_points" (d6 dU)){bI:bA}(dH:cv G k "names" (d6 bI)):cB G k ⟨C6,(ae lE).names,[],false,false,false,λ_ _=>False⟩ (ak lE) (Hw uN dU bI):=(ay (bz 1 (bZ E4 (ah (az (bw (eP oo E.kg (az (af 0))))) (ah (az (yN E.kg (af 0))) ax)))) (ay (cH (aL Wy (af 1) sf) (aB (bN (oP sf))) cR) (ay (bz 2 (eP dH E.kg (az (af 0)))) (aB (bN (oP (b8 (ah (az (dg (af 1) av)) (ah (az (dg (af 2) (dg (af 1) av))) (ah (az (dg (af 2) (dg (af 1) av))) ax))))))))))
abbrev p8:Stmt:=inClass (top 33) 6
abbrev Di:List Str:=["self","name","names","found"]
theorem Mv:aC Di ["self","name"] (ae p8):=by walk_at "5"
def Va(fQ:bA)(bI:bA)(uQ:bA)(dU:bA):bK:=(bQ (gO (oS (d6 fQ) (ai [] (ag 0)) (qP (ai [] (ag 1)) iK))) (bQ (dw [] 2 (oS (d6 bI) (ai [] (ag 0)) iK)) (bQ (dw [] 3 (jQ uQ (aI (ai [] (a9 (oS (d6 dU) (ai [] (ag 0)) iK))) (aI (ai [] (KN "way" (ag 0))) (aI (ai [] (UU (ag 2) (ai [] (ag 1)))) tN))))) (bQ (b4 (aS isT (ag 3) (aM .aU)) (ie [] (oX (aM .aU))) ou) (ie [] (oX (jT (aI (ai [] (iD (ag 3) (aM (.int 0)))) (aI (ai [] (iD (ag 2) (iD (ag 3) (aM (.int 1))))) tN)))))))))
theorem aa1(E:Gl G){fQ:bA}(tI:cv G k "need_name" (d6 fQ)){bI:bA}(dH:cv G k "names" (d6 bI)){uQ:bA}(E7:eX G k "nearest_of" uQ){dU:bA}(oo:cv G k "plain_points" (d6 dU)):cB G k ⟨Di,(ae p8).names,[],false,false,false,λ_ _=>False⟩ (ak p8) (Va fQ bI uQ dU):=(ay (aY (jd tI E.kg (az (af 0)) (gR (az (af 1)) cm))) (ay (bz 2 (eP dH E.kg (az (af 0)))) (ay (bz 3 (bZ E7 (ah (az (bw (eP oo E.kg (az (af 0))))) (ah (az (yN E.kg (af 0))) (ah (az (Kr (af 2) (az (af 1)))) ax))))) (ay (cH (aL Wy (af 3) sf) (aB (bN (oP sf))) cR) (aB (bN (oP (b8 (ah (az (dg (af 3) av)) (ah (az (dg (af 2) (dg (af 3) av))) ax))))))))))
abbrev ji:Stmt:=inClass (top 33) 7
abbrev vw:List Str:=["self","bound","names"]
theorem GU:aC vw ["self","bound"] (ae ji):=by walk_at "5"
def Hq(bI:bA)(uP:bA)(dU:bA):bK:=(bQ (dw [] 2 (oS (d6 bI) (ai [] (ag 0)) iK)) (ie [] (d7 [] [none,none,some 2] (cQ (ai [] (a9 (jQ uP (aI (ai [] (a9 (oS (d6 dU) (ai [] (ag 0)) iK))) (aI (ai [] (KN "way" (ag 0))) (aI (ai [] (ag 1)) tN))))))) (L4 2 (gC (iI 0) (gC (iI 1) L3))) dj (ai [] (jT (aI (ai [] (iD (ag 2) (ag 0))) (aI (ai [] (iD (ag 2) (ag 1))) tN)))))))
theorem Xh(E:Gl G){bI:bA}(dH:cv G k "names" (d6 bI)){uP:bA}(E6:eX G k "near_pairs" uP){dU:bA}(oo:cv G k "plain_points" (d6 dU)):cB G k ⟨vw,(ae ji).names,[],false,false,false,λ_ _=>False⟩ (ak ji) (Hq bI uP dU):=(ay (bz 2 (eP dH E.kg (az (af 0)))) (aB (bN (fG (N':=["i","j","names"]) (fM (az (bw (bZ E6 (ah (az (bw (eP oo E.kg (az (af 0))))) (ah (az (yN E.kg (af 0))) (ah (az (af 1)) ax))))))) ⟨rfl,by walk_at "6",by walk_at "6",by walk_at "6",by walk_at "6",rfl,by walk_at "6"⟩ (wx (dk (bH 0) (dk (bH 1) pz))) il (az (b8 (ah (az (dg (af 2) (af 0))) (ah (az (dg (af 2) (af 1))) ax))))))))
abbrev pZ:Stmt:=inClass (top 33) 8
abbrev Df:List Str:=["self","name"]
theorem Mt:aC Df ["self","name"] (ae pZ):=by walk_at "5"
def U6:bK:=(b4 (aS FR (ag 1) (UT (ai [] (ag 0)))) eZ ou)
theorem aaX(E:Gl G):cB G k ⟨Df,(ae pZ).names,[],false,false,false,λ_ _=>False⟩ (ak pZ) (U6):=(aB (cH (aL Du (af 1) (Gz E.kg (az (af 0)))) (aB jA) cR))
abbrev uk:Stmt:=inClass (top 33) 9
abbrev MG:List Str:=["self"]
theorem aae:aC MG ["self"] (ae uk):=by walk_at "5"
def U5(bI:bA):bK:=(ie [] (d7 [] [none,some 0] (cQ (ai [] (a9 (oS (d6 bI) (ai [] (ag 0)) iK)))) (iI 0) dj (ai [] (Cr (UT (ai [] (ag 1))) (ag 0)))))
theorem aaV(E:Gl G){bI:bA}(dH:cv G k "names" (d6 bI)):cB G k ⟨MG,(ae uk).names,[],false,false,false,λ_ _=>False⟩ (ak uk) (U5 bI):=(aB (bN (fG (N':=["name","self"]) (fM (az (bw (eP dH E.kg (az (af 0)))))) ⟨rfl,by walk_at "6",by walk_at "6",by walk_at "6",by walk_at "6",rfl,by walk_at "6"⟩ (bH 0) il (az (A1 (Gz E.kg (az (af 1))) (af 0))))))
abbrev lH:Stmt:=top 35
abbrev C7:List Str:=["pot","many","cell","stir"]
theorem Ud:aC C7 ["pot","many"] (ae lH):=by walk_at "5"
def Hx:bK:=(bQ (xH 0 (aM (.int 1)) (ai [0] (a9 (aW cC (iD (ag 0) (aM (.int 1))) (aM (.int 1)))))) (bQ (dw [0] 2 (oX (iD (ag 0) (aM (.int 0))))) (bQ (b4 (aS geT (ag 2) (a9 (aW qI (aM (.int 10)) (aM (.int 18))))) (bQ (xH 0 (aM (.int 0)) (ai [0] (a9 (aW Ae (ag 2) (ag 1))))) (ie [0] (aW yA (ag 2) (ag 1)))) ou) (bQ (dw [0] 3 (aW yA (a9 (aW cC (a9 (aW cC (a9 (aW pM (ag 2) (aM (.int 69621)))) (a9 (aW pM (iD (ag 0) (aM (.int 1))) (aM (.int 7919)))))) (aM (.int 13)))) (aM (.int 2147483647)))) (bQ (dw [0] 3 (aW yA (a9 (aW pM (ag 3) (ag 3))) (aM (.int 2147483629)))) (ie [0] (aW yA (a9 (aW Ae (a9 (aW yA (a9 (aW cC (a9 (aW pM (ag 3) (aM (.int 48271)))) (a9 (aW pM (iD (ag 0) (aM (.int 1))) (aM (.int 40692)))))) (aM (.int 2147483587)))) (aM (.int 8)))) (ag 1))))))))
theorem Xo(E:Gl G):cB G k ⟨C7,(ae lH).names,[0],false,false,false,λ_ _=>False⟩ (ak lH) (Hx):=(ay (yT 0 (az (bw (bR (dg (af 0) av) av))) av (af 0)) (ay (bz 2 (oP (dg (af 0) av))) (ay (cH (aL Wx (af 2) (bw (nU av av))) (ay (yT 0 (az (bw (A0 (af 2) (af 1)))) av (af 0)) (aB (bN (xl (af 2) (af 1))))) cR) (ay (bz 3 (xl (bw (bR (bw (bR (bw (pV (af 2) av)) (bw (pV (dg (af 0) av) av)))) av)) av)) (ay (bz 3 (xl (bw (pV (af 3) (af 3))) av)) (aB (bN (xl (bw (A0 (bw (xl (bw (bR (bw (pV (af 3) av)) (bw (pV (dg (af 0) av) av)))) av)) av)) (af 1)))))))))
abbrev lJ:Stmt:=top 36
abbrev LC:List Str:=["script"]
theorem Ue:aC LC ["script"] (ae lJ):=by walk_at "5"
theorem Xp(E:Gl G):vn G k ⟨LC,(ae lJ).names,[],false,false,false,λ_ _=>False⟩ (ak lJ):=OI (N':=["cell"]) rfl (aL gS (bw (gG f_len E.z_len (bC (af 0) b5) (by decide +kernel))) av) (ah (az av) (ah (az av) ax)) (fM (az (bw (abW (af 0) fY (fF av))))) ⟨rfl,by walk_at "6",by walk_at "6",by walk_at "6",by walk_at "6",rfl,by walk_at "6"⟩ (bH 0) (ah (az (af 0)) (ah (az av) ax))
abbrev lM:Stmt:=top 37
abbrev Dc:List Str:=["pot"]
theorem Ui:aC Dc ["pot"] (ae lM):=by walk_at "5"
def HB(bh:iE):bK:=(ie [0] (oX (iD (a9 (kn (aI (ai [0] (aM (.str "streets"))) (aI (ai [0] (aM (.str "squares"))) tN)))) (a9 (fI bh 0 (aI (ai [0] (aM (.int 2))) tN))))))
theorem Xt(E:Gl G){bh:iE}(cn:fj G k "_law_next" bh):cB G k ⟨Dc,(ae lM).names,[0],false,false,false,λ_ _=>False⟩ (ak lM) (HB bh):=(aB (bN (oP (dg (bw (cq (ah (az b6) (ah (az b6) ax)))) (bw (bF cn (af 0) (ah (az av) ax)))))))
abbrev lx:Stmt:=top 38
abbrev C3:List Str:=["e","found"]
theorem T9:aC C3 ["e"] (ae lx):=by walk_at "5"
def Hs:bK:=(bQ (dw [] 1 (kn (aI (ai [] (bV (iy XL "NoPoints" (ag 0)))) (aI (ai [] (bV (iy XL "NoWay" (ag 0)))) (aI (ai [] (bV (iy XL "NoPlace" (ag 0)))) (aI (ai [] (bV (iy XL "NoBound" (ag 0)))) tN)))))) (bQ (dw [] 1 (aW cC (ag 1) (a9 (kn (aI (ai [] (bV (iy XL "NoNumber" (ag 0)))) (aI (ai [] (bV (iy XL "TooMany" (ag 0)))) (aI (ai [] (bV (iy XL "NoPaper" (ag 0)))) tN))))))) (bQ (dw [] 1 (aW cC (ag 1) (a9 (kn (aI (ai [] (bV (iy XL "NoText" (ag 0)))) (aI (ai [] (bV (iy XL "NoForm" (ag 0)))) (aI (ai [] (bV (iy XL "NoneYet" (ag 0)))) tN))))))) (ie [] (aW cC (ag 1) (a9 (kn (aI (ai [] (bV (Ha (G6 (bV (G8 XL (ag 0))))))) tN))))))))
theorem Xj(E:Gl G):cB G k ⟨C3,(ae lx).names,[],false,true,false,λ_ _=>False⟩ (ak lx) (Hs):=(ay (bz 1 (cq (ah (az (f9 (af 0) E.ik ∅ E.z_isinstance)) (ah (az (f9 (af 0) E.ik ∅ E.z_isinstance)) (ah (az (f9 (af 0) E.ik ∅ E.z_isinstance)) (ah (az (f9 (af 0) E.ik ∅ E.z_isinstance)) ax)))))) (ay (bz 1 (bR (af 1) (bw (cq (ah (az (f9 (af 0) E.ik ∅ E.z_isinstance)) (ah (az (f9 (af 0) E.ik ∅ E.z_isinstance)) (ah (az (f9 (af 0) E.ik ∅ E.z_isinstance)) ax))))))) (ay (bz 1 (bR (af 1) (bw (cq (ah (az (f9 (af 0) E.ik ∅ E.z_isinstance)) (ah (az (f9 (af 0) E.ik ∅ E.z_isinstance)) (ah (az (f9 (af 0) E.ik ∅ E.z_isinstance)) ax))))))) (aB (bN (bR (af 1) (bw (cq (ah (az (Z6 (ab6 (Tz (af 0) E.ik E.z_isinstance E.z_ValueError)))) ax)))))))))
abbrev k9:Stmt:=top 39
abbrev CV:List Str:=["pot","some","word","at","sign","begin","rest","bent","found"]
theorem T1:aC CV ["pot"] (ae k9):=by walk_at "5"
def Hd(bh:iE):bK:=(bQ (dw [0] 1 (kn (aI (ai [0] (aM (.str ""))) (aI (ai [0] (aM (.str "street"))) (aI (ai [0] (aM (.str "Streets"))) (aI (ai [0] (aM (.str "squares "))) (aI (ai [0] (aM (.str " streets"))) (aI (ai [0] (aM (.str "square"))) (aI (ai [0] (aM (.str "SQUARES"))) (aI (ai [0] (aM (.str "streetssquares"))) (aI (ai [0] (aM (.str "st"))) (aI (ai [0] (aM (.str "way"))) tN)))))))))))) (bQ (dw [0] 2 (oX (iD (a9 (kn (aI (ai [0] (aM (.str "streets"))) (aI (ai [0] (aM (.str "squares"))) tN)))) (a9 (fI bh 0 (aI (ai [0] (aM (.int 2))) tN)))))) (bQ (dw [0] 3 (fI bh 0 (aI (ai [0] (aM (.int 7))) tN))) (bQ (dw [0] 4 (oX (iD (aM (.str "abcdefghijklmnopqrstuvwxyzS -\n")) (a9 (fI bh 0 (aI (ai [0] (aM (.int 30))) tN)))))) (bQ (dw [0] 5 (qp (ag 2) Ct (Bc (ag 3)))) (bQ (dw [0] 6 (qp (ag 2) (Bc (ag 3)) Ct)) (bQ (dw [0] 7 (kn (aI (ai [0] (a9 (aW cC (a9 (aW cC (ag 5) (ag 4))) (a9 (qp (ag 6) (Bc (aM (.int 1))) Ct))))) (aI (ai [0] (a9 (aW cC (a9 (aW cC (ag 5) (ag 4))) (ag 6)))) tN)))) (bQ (dw [0] 7 (aW cC (ag 7) (a9 (kn (aI (ai [0] (a9 (aW cC (ag 5) (a9 (qp (ag 6) (Bc (aM (.int 1))) Ct))))) (aI (ai [0] (a9 (aW cC (a9 (aW cC (ag 5) (a9 (Hb (a9 (qp (ag 6) Ct (Bc (aM (.int 2))))) (Bc (qR (aM (.int 1)))))))) (a9 (qp (ag 6) (Bc (aM (.int 2))) Ct))))) tN)))))) (bQ (dw [0] 8 (aW cC (a9 (aW cC (a9 (qp (a9 (qp (ag 1) (Bc (a9 (fI bh 0 (aI (ai [0] (aM (.int 10))) tN)))) Ct)) Ct (Bc (aM (.int 2))))) (a9 (kn (aI (ai [0] (aM (.str ""))) (aI (ai [0] (aM (.str "steps"))) (aI (ai [0] (a9 (aW cC (ag 2) (aM (.str "\n"))))) tN))))))) (ag 7))) (ie [0] (d7 [0] [none] (cQ (ai [0] (ag 8))) (iI 0) (aS JP (ag 0) (a9 (kn (aI (ai [] (aM (.str "streets"))) (aI (ai [] (aM (.str "squares"))) tN))))) (ai [] (ag 0)))))))))))))
theorem W6(E:Gl G){bh:iE}(cn:fj G k "_law_next" bh):cB G k ⟨CV,(ae k9).names,[0],false,false,false,λ_ _=>False⟩ (ak k9) (Hd bh):=(ay (bz 1 (cq (ah (az b6) (ah (az b6) (ah (az b6) (ah (az b6) (ah (az b6) (ah (az b6) (ah (az b6) (ah (az b6) (ah (az b6) (ah (az b6) ax)))))))))))) (ay (bz 2 (oP (dg (bw (cq (ah (az b6) (ah (az b6) ax)))) (bw (bF cn (af 0) (ah (az av) ax)))))) (ay (bz 3 (bF cn (af 0) (ah (az av) ax))) (ay (bz 4 (oP (dg b6 (bw (bF cn (af 0) (ah (az av) ax)))))) (ay (bz 5 (kY (af 2) fY (fF (af 3)))) (ay (bz 6 (kY (af 2) (fF (af 3)) fY)) (ay (bz 7 (cq (ah (az (bw (bR (bw (bR (af 5) (af 4))) (bw (kY (af 6) (fF av) fY))))) (ah (az (bw (bR (bw (bR (af 5) (af 4))) (af 6)))) ax)))) (ay (bz 7 (bR (af 7) (bw (cq (ah (az (bw (bR (af 5) (bw (kY (af 6) (fF av) fY))))) (ah (az (bw (bR (bw (bR (af 5) (bw (TJ (bw (kY (af 6) fY (fF av))) (fF (nR av)))))) (bw (kY (af 6) (fF av) fY))))) ax)))))) (ay (bz 8 (bR (bw (bR (bw (kY (bw (kY (af 1) (fF (bw (bF cn (af 0) (ah (az av) ax)))) fY)) fY (fF av))) (bw (cq (ah (az b6) (ah (az b6) (ah (az (bw (bR (af 2) b6))) ax))))))) (af 7))) (aB (bN (fG (N':=["one"]) (fM (az (af 8))) ⟨rfl,by walk_at "6",by walk_at "6",by walk_at "6",by walk_at "6",rfl,by walk_at "6"⟩ (bH 0) (zO (aL Wz (af 0) (bw (cq (ah (az b6) (ah (az b6) ax)))))) (az (af 0))))))))))))))
abbrev lL:Stmt:=top 40
abbrev C9:List Str:=["pot"]
theorem Uh:aC C9 ["pot"] (ae lL):=by walk_at "5"
def HA(bh:iE):bK:=(ie [0] (aW qo (qR (aM (.int 1))) (iD (a9 (kn (aI (ai [0] (aM (.int 0))) (aI (ai [0] (aM (.int 1))) (aI (ai [0] (a9 (fI bh 0 (aI (ai [0] (a9 (aW qI (aM (.int 10)) (aM (.int 9))))) tN)))) (aI (ai [0] (a9 (aW qI (aM (.int 10)) (aM (.int 33))))) tN)))))) (a9 (fI bh 0 (aI (ai [0] (aM (.int 4))) tN))))))
theorem Xs(E:Gl G){bh:iE}(cn:fj G k "_law_next" bh):cB G k ⟨C9,(ae lL).names,[0],false,false,false,λ_ _=>False⟩ (ak lL) (HA bh):=(aB (bN (kZ (nR av) (dg (bw (cq (ah (az av) (ah (az av) (ah (az (bw (bF cn (af 0) (ah (az (bw (nU av av))) ax)))) (ah (az (bw (nU av av))) ax)))))) (bw (bF cn (af 0) (ah (az av) ax)))))))
abbrev ly:Stmt:=top 41
abbrev C4:List Str:=["pot","count","own","some","kind","at"]
theorem Ua:aC C4 ["pot","count","own"] (ae ly):=by walk_at "5"
def Ht(bh:iE):bK:=(bQ (dw [0] 3 (jD [0] [none,some 0] 0 1 (qK (cf (ag 1) iA)) (iI 0) dj (ai [1] (a9 (fI bh 1 (aI (ai [1] (aM (.int 5))) tN)))))) (bQ (dw [0] 4 (fI bh 0 (aI (ai [0] (aM (.int 4))) tN))) (bQ (b4 (aS eqT (ag 4) (aM (.int 1))) (dw [0] 3 (jD [0] [none,some 0] 0 1 (qK (cf (ag 1) iA)) (iI 0) dj (ai [1] (a9 (aW cC (a9 (aW qo (a9 (fI bh 1 (aI (ai [1] (a9 (aW qo (a9 (aW pM (aM (.int 2)) (a9 (aW qI (aM (.int 10)) (aM (.int 15)))))) (aM (.int 1))))) tN))) (a9 (aW qI (aM (.int 10)) (aM (.int 15)))))) (aM (.int 1))))))) ou) (bQ (b4 (xG (aS Vy (ag 4) (aM (.int 1))) (Cq true (ag 2))) (bQ (dw [0] 3 (jR rW (cf (Cr (ag 2) (iD (a9 (jR kj (cf (ag 2) iA))) (a9 (fI bh 0 (aI (ai [0] (a9 (jR FJ (cf (ag 2) iA)))) tN))))) iA))) (bQ (dw [0] 5 (fI bh 0 (aI (ai [0] (ag 1)) tN))) (xH 3 (ag 5) (ai [0] (a9 (jR Az (cf (a9 (aW qo (aM (.int 1)) (a9 (aW qI (aM (.int 10)) (aM (.int 15)))))) (cf (a9 (jR AB (cf (a9 (aW qo (a9 (aW qI (aM (.int 10)) (aM (.int 15)))) (aM (.int 1)))) (cf (a9 (aW qo (a9 (aW cC (iD (ag 3) (ag 5)) (a9 (fI bh 0 (aI (ai [0] (aM (.int 3))) tN))))) (aM (.int 1)))) iA)))) iA)))))))) ou) (ie [0] (jR qu (cf (ag 3) iA)))))))
theorem Xk(E:Gl G){bh:iE}(cn:fj G k "_law_next" bh):cB G k ⟨C4,(ae ly).names,[0],false,false,false,λ_ _=>False⟩ (ak ly) (Ht bh):=(ay (xv 3 0 1 (N':=["k","pot"]) (j7 (bC (af 1) b5) E.z_range) ⟨rfl,by walk_at "6",by walk_at "6",by walk_at "6",by walk_at "6",rfl,by walk_at "6"⟩ (bH 0 (hn:=by first|decide | (dsimp only;decide) | (dsimp only[aQ,aD];decide))) il (az (bw (bF cn (af 1) (ah (az av) ax))))) (ay (bz 4 (bF cn (af 0) (ah (az av) ax))) (ay (cH (aL gS (af 4) av) (aB (xv 3 0 1 (N':=["k","pot"]) (j7 (bC (af 1) b5) E.z_range) ⟨rfl,by walk_at "6",by walk_at "6",by walk_at "6",by walk_at "6",rfl,by walk_at "6"⟩ (bH 0 (hn:=by first|decide | (dsimp only;decide) | (dsimp only[aQ,aD];decide))) il (az (bw (bR (bw (kZ (bw (bF cn (af 1) (ah (az (bw (kZ (bw (pV av (bw (nU av av)))) av))) ax))) (bw (nU av av)))) av))))) cR) (ay (cH (Ih (Gy (aL IH (af 4) av) (yM (TL (af 2))))) (ay (bz 3 (Z4 f_list E.z_list (bC (A1 (af 2) (dg (bw (gG kE E.z_sorted (bC (af 2) b5) (by decide +kernel))) (bw (bF cn (af 0) (ah (az (bw (gG Et E.z_len (bC (af 2) b5) (by decide +kernel)))) ax))))) b5) (by decide +kernel))) (ay (bz 5 (bF cn (af 0) (ah (az (af 1)) ax))) (aB (yT 3 (az (bw (gG OQ E.z_max (bC (bw (kZ av (bw (nU av av)))) (bC (bw (gG OT E.z_min (bC (bw (kZ (bw (nU av av)) av)) (bC (bw (kZ (bw (bR (dg (af 3) (af 5)) (bw (bF cn (af 0) (ah (az av) ax))))) av)) b5)) (by decide +kernel))) b5)) (by decide +kernel)))) (af 5) (af 3))))) cR) (aB (bN (Z4 Jg E.z_tuple (bC (af 3) b5) (by decide +kernel))))))))
abbrev gI:Stmt:=top 42
abbrev oZ:List Str:=["door","kept","thing","found","e"]
theorem yU:aC oZ ["door","kept","thing"] (ae gI):=by walk_at "5"
def He(dP:iG)(dm:iG)(cM:iG)(dN:iG)(eC:iG)(cI:iG)(dW:bA):bK:=(bQ (dw [] 3 (kn tN)) (bQ (Hc XL "NearError" 4 (λrC=>(b4 (aS eqT (ag 0) (aM (.int 0))) (gO (qQ rC dP (ai [] (ag 1)) (aI (ai [] (ag 2)) tN))) (b4 (aS eqT (ag 0) (aM (.int 1))) (gO (qQ rC dm (ai [] (ag 1)) (aI (ai [] (ag 2)) tN))) (b4 (aS eqT (ag 0) (aM (.int 2))) (gO (qQ rC cM (ai [] (ag 1)) (aI (ai [] (ag 2)) tN))) (b4 (aS eqT (ag 0) (aM (.int 3))) (gO (qQ rC dN (ai [] (ag 1)) (aI (ai [] (ag 2)) tN))) (b4 (aS eqT (ag 0) (aM (.int 4))) (gO (qQ rC eC (ai [] (ag 1)) (aI (ai [] (ag 2)) tN))) (gO (UW rC cI (aI (ai [] (iD (ag 2) (aM (.int 0)))) (aI (ai [] (iD (ag 2) (aM (.int 1)))) tN)))))))))) (dw [] 3 (jQ dW (aI (ai [] (ag 4)) tN)))) (ie [] (oX (ag 3)))))
theorem W7(E:Gl G){dP:iG}(fV:gQ G k "take" dP){dm:iG}(fu:gQ G k "point" dm){cM:iG}(d9:gQ G k "nearest" cM){dN:iG}(fU:gQ G k "near" dN){eC:iG}(gX:gQ G k "put" eC){cI:iG}(dG:oY G k cI){dW:bA}(kK:Iq G k "_law_flags" dW):cB G k ⟨oZ,(ae gI).names,[],false,false,false,λ_ _=>False⟩ (ak gI) (He dP dm cM dN eC cI dW):=(ay (bz 3 (cq ax)) (ay (GL 4 E.ik.toXCls ∅ (λrC=>(aB (cH (aL gS (af 0) av) (aB (aY (nQ fV E.kg (az (af 1)) (ah (az (af 2)) ax)))) (aB (cH (aL gS (af 0) av) (aB (aY (nQ fu E.kg (az (af 1)) (ah (az (af 2)) ax)))) (aB (cH (aL gS (af 0) av) (aB (aY (nQ d9 E.kg (az (af 1)) (ah (az (af 2)) ax)))) (aB (cH (aL gS (af 0) av) (aB (aY (nQ fU E.kg (az (af 1)) (ah (az (af 2)) ax)))) (aB (cH (aL gS (af 0) av) (aB (aY (nQ gX E.kg (az (af 1)) (ah (az (af 2)) ax)))) (aB (aY (Ks dG (ah (az (dg (af 2) av)) (ah (az (dg (af 2) av)) ax)))))))))))))))) (aB (bz 3 (ug kK (ah (az (af 4)) ax))))) (aB (bN (oP (af 3))))))
abbrev lA:Stmt:=top 43
abbrev C5:List Str:=["kept","found"]
theorem Ub:aC C5 ["kept"] (ae lA):=by walk_at "5"
def Hu(bI:bA)(uU:bA)(qg:bA)(dS:bA)(lY:bA):bK:=(bQ (dw [] 1 (kn (aI (ai [] (a9 (oS (d6 bI) (ai [] (ag 0)) iK))) (aI (ai [] (a9 (oS (d6 uU) (ai [] (ag 0)) iK))) (aI (ai [] (a9 (oS (d6 qg) (ai [] (ag 0)) (qP (ai [] (aM (.int 5))) iK)))) (aI (ai [] (a9 (oS (d6 qg) (ai [] (ag 0)) (qP (ai [] (a9 (aW qo (a9 (aW qI (aM (.int 10)) (aM (.int 34)))) (aM (.int 1))))) iK)))) tN)))))) (ie [] (aW cC (ag 1) (a9 (d7 [] [none,some 0] (cQ (ai [] (a9 (oS (d6 bI) (ai [] (ag 0)) iK)))) (iI 0) dj (ai [] (a9 (kn (aI (ai [] (a9 (oS (d6 dS) (ai [] (ag 1)) (qP (ai [] (ag 0)) iK)))) (aI (ai [] (a9 (oS (d6 lY) (ai [] (ag 1)) (qP (ai [] (ag 0)) iK)))) tN))))))))))
theorem Xl(E:Gl G){bI:bA}(dH:cv G k "names" (d6 bI)){uU:bA}(Fc:cv G k "two" (d6 uU)){qg:bA}(Ai:cv G k "near" (d6 qg)){dS:bA}(kJ:cv G k "point" (d6 dS)){lY:bA}(BG:cv G k "nearest" (d6 lY)):cB G k ⟨C5,(ae lA).names,[],false,false,false,λ_ _=>False⟩ (ak lA) (Hu bI uU qg dS lY):=(ay (bz 1 (cq (ah (az (bw (eP dH E.kg (az (af 0))))) (ah (az (bw (eP Fc E.kg (az (af 0))))) (ah (az (bw (jd Ai E.kg (az (af 0)) (gR (az av) cm)))) (ah (az (bw (jd Ai E.kg (az (af 0)) (gR (az (bw (kZ (bw (nU av av)) av))) cm)))) ax)))))) (aB (bN (bR (af 1) (bw (fG (N':=["name","kept"]) (fM (az (bw (eP dH E.kg (az (af 0)))))) ⟨rfl,by walk_at "6",by walk_at "6",by walk_at "6",by walk_at "6",rfl,by walk_at "6"⟩ (bH 0) il (az (bw (cq (ah (az (bw (jd kJ E.kg (az (af 1)) (gR (az (af 0)) cm)))) (ah (az (bw (jd BG E.kg (az (af 1)) (gR (az (af 0)) cm)))) ax)))))))))))
abbrev lK:Stmt:=top 44
abbrev C8:List Str:=["pot","count","coming","gone","low","far","found","name","other"]
theorem Ug:aC C8 ["pot","count","coming","gone"] (ae lK):=by walk_at "5"
def Hz(uW:iE)(uL:iE):bK:=(bQ (dw [0] 4 (fI uW 0 tN)) (bQ (dw [0] 5 (aW qo (qR (aM (.int 1))) (ag 4))) (bQ (dw [0] 6 (kn tN)) (bQ (fJ (cQ (ai [0] (a9 (aW cC (ag 3) (a9 (kn (aI (ai [0] (qR (aM (.int 1)))) (aI (ai [0] (ag 4)) (aI (ai [0] (ag 2)) (aI (ai [0] (a9 (aW cC (ag 2) (ag 5)))) (aI (ai [0] (a9 (aW cC (ag 2) (aM (.int 1))))) tN))))))))))) (iI 7) (dw [0] 6 (aW cC (ag 6) (a9 (kn (aI (ai [0] (jT (aI (ai [0] (aM (.int 0))) (aI (ai [0] (ag 7)) (aI (ai [0] (aM (.int 2))) tN))))) (aI (ai [0] (jT (aI (ai [0] (aM (.int 1))) (aI (ai [0] (ag 7)) (aI (ai [0] (aM (.int 2))) tN))))) (aI (ai [0] (jT (aI (ai [0] (aM (.int 2))) (aI (ai [0] (ag 7)) (aI (ai [0] (aM (.int 2))) tN))))) tN)))))))) (bQ (fJ (qK (cf (aM (.int 6)) iA)) (iI 8) (b4 (aS neT (ag 8) (ag 1)) (gO (zl (ag 6) (ai [0] (jT (aI (ai [0] (aM (.int 4))) (aI (ai [0] (a9 (aW wR (jT (aI (ai [0] (aM (.int 7))) tN)) (ag 8)))) (aI (ai [0] (aM (.int 0))) tN))))))) ou)) (bQ (dw [0] 6 (aW cC (ag 6) (a9 (kn (aI (ai [0] (jT (aI (ai [0] (aM (.int 3))) (aI (ai [0] (qR (aM (.int 1)))) (aI (ai [0] (aM (.int 3))) tN))))) (aI (ai [0] (jT (aI (ai [0] (aM (.int 3))) (aI (ai [0] (ag 4)) (aI (ai [0] (aM (.int 3))) tN))))) (aI (ai [0] (jT (aI (ai [0] (aM (.int 5))) (aI (ai [0] (jT (aI (ai [0] (aM (.str "streets"))) (aI (ai [0] (aM (.int 0))) tN)))) (aI (ai [0] (aM (.int 0))) tN))))) (aI (ai [0] (jT (aI (ai [0] (aM (.int 5))) (aI (ai [0] (jT (aI (ai [0] (aM (.str "squares"))) (aI (ai [0] (aM (.int 4))) tN)))) (aI (ai [0] (aM (.int 0))) tN))))) (aI (ai [0] (jT (aI (ai [0] (aM (.int 5))) (aI (ai [0] (jT (aI (ai [0] (aM (.str "way"))) (aI (ai [0] (ag 4)) tN)))) (aI (ai [0] (aM (.int 0))) tN))))) tN))))))))) (bQ (dw [0] 6 (aW cC (ag 6) (a9 (kn (aI (ai [0] (jT (aI (ai [0] (aM (.int 5))) (aI (ai [0] (jT (aI (ai [0] (aM (.str "streets"))) (aI (ai [0] (a9 (aW cC (aM (.int 4)) (ag 5)))) tN)))) (aI (ai [0] (aM (.int 0))) tN))))) (aI (ai [0] (jT (aI (ai [0] (aM (.int 5))) (aI (ai [0] (jT (aI (ai [0] (aM (.str "squares"))) (aI (ai [0] (qR (aM (.int 1)))) tN)))) (aI (ai [0] (aM (.int 0))) tN))))) tN)))))) (ie [0] (aW cC (ag 6) (a9 (d7 [0] [none,some 1] (cQ (ai [0] (a9 (fI uL 0 tN)))) (iI 0) dj (ai [] (jT (aI (ai [] (aM (.int 5))) (aI (ai [] (jT (aI (ai [] (ag 0)) (aI (ai [] (ag 1)) tN)))) (aI (ai [] (aM (.int 1))) tN))))))))))))))))
theorem Xr(E:Gl G){uW:iE}(Ff:fj G k "_law_low" uW){uL:iE}(E2:fj G k "_law_no_ways" uL):cB G k ⟨C8,(ae lK).names,[0],false,false,false,λ_ _=>False⟩ (ak lK) (Hz uW uL):=(ay (bz 4 (bF Ff (af 0) ax)) (ay (bz 5 (kZ (nR av) (af 4))) (ay (bz 6 (cq ax)) (ay (pX (fM (az (bw (bR (af 3) (bw (cq (ah (az (nR av)) (ah (az (af 4)) (ah (az (af 2)) (ah (az (bw (bR (af 2) (af 5)))) (ah (az (bw (bR (af 2) av))) ax))))))))))) (bH 7 (hn:=by first|decide | (dsimp only;decide) | (dsimp only[aQ,aD];decide))) (aB (bz 6 (bR (af 6) (bw (cq (ah (az (b8 (ah (az av) (ah (az (af 7)) (ah (az av) ax))))) (ah (az (b8 (ah (az av) (ah (az (af 7)) (ah (az av) ax))))) (ah (az (b8 (ah (az av) (ah (az (af 7)) (ah (az av) ax))))) ax))))))))) (ay (pX (j7 (bC av b5) E.z_range) (bH 8 (hn:=by first|decide | (dsimp only;decide) | (dsimp only[aQ,aD];decide))) (aB (cH (aL iT (af 8) (af 1)) (aB (aY (pU (af 6) (az (b8 (ah (az av) (ah (az (bw (TH (b8 (ah (az av) ax)) (af 8)))) (ah (az av) ax)))))))) cR))) (ay (bz 6 (bR (af 6) (bw (cq (ah (az (b8 (ah (az av) (ah (az (nR av)) (ah (az av) ax))))) (ah (az (b8 (ah (az av) (ah (az (af 4)) (ah (az av) ax))))) (ah (az (b8 (ah (az av) (ah (az (b8 (ah (az b6) (ah (az av) ax)))) (ah (az av) ax))))) (ah (az (b8 (ah (az av) (ah (az (b8 (ah (az b6) (ah (az av) ax)))) (ah (az av) ax))))) (ah (az (b8 (ah (az av) (ah (az (b8 (ah (az b6) (ah (az (af 4)) ax)))) (ah (az av) ax))))) ax))))))))) (ay (bz 6 (bR (af 6) (bw (cq (ah (az (b8 (ah (az av) (ah (az (b8 (ah (az b6) (ah (az (bw (bR av (af 5)))) ax)))) (ah (az av) ax))))) (ah (az (b8 (ah (az av) (ah (az (b8 (ah (az b6) (ah (az (nR av)) ax)))) (ah (az av) ax))))) ax)))))) (aB (bN (bR (af 6) (bw (fG (N':=["word","count"]) (fM (az (bw (bF E2 (af 0) ax)))) ⟨rfl,by walk_at "6",by walk_at "6",by walk_at "6",by walk_at "6",rfl,by walk_at "6"⟩ (bH 0) il (az (b8 (ah (az av) (ah (az (b8 (ah (az (af 0)) (ah (az (af 1)) ax)))) (ah (az av) ax)))))))))))))))))
abbrev iw:Stmt:=top 45
abbrev Dd:List Str:=["script","pot","count","kept","own","coming","gone","turn","stood","door","thing","due"]
theorem Uj:aC Dd ["script"] (ae iw):=by walk_at "5"
def HC(bh:iE)(A7:HU)(uX:iE)(uT:iE)(qh:jN)(h9:jN)(ni:bA)(uV:iE)(uM:bA)(c6:bA)(dS:bA)(c7:jN):bK:=(bQ (Bb (aI (ai [] (a9 (qp (ag 0) Ct (Bc (aM (.int 3)))))) tN) (Tv 1) (bQ (dw [] 2 (aW cC (aM (.int 1)) (a9 (fI bh 1 (aI (ai [] (aM (.int 3))) tN))))) (bQ (dw [] 3 (tMK A7 (aI (ai [] (a9 (fI uX 1 tN))) (aI (ai [] (ag 2)) tN)))) (bQ (dw [] 4 UQ) (bQ (dw [] 5 (oX (aM (.int 0)))) (bQ (dw [] 6 (kn tN)) (bQ (fJ (qK (cf (a9 (fI bh 1 (aI (ai [] (aM (.int 11))) tN))) iA)) (iI 7) (b4 (vf (Cq false (jU 4)) (aS Vy (a9 (fI bh 1 (aI (ai [] (aM (.int 3))) tN))) (aM (.int 0)))) (bQ (KL 4 (ag 5) (ai [] (a9 (Mz (muI uT) (tAn 1 (qP (ai [] (ag 2)) (UP 4 iK))))))) (bQ (gO (UX qh 3 (qP (ai [] (Cr (jU 4) (ag 5))) iK))) (dw [] 5 (aW cC (ag 5) (aM (.int 1)))))) (bQ (gO (zl (ag 6) (ai [] (iD (a9 (jR kj (cf (jU 4) iA))) (a9 (fI bh 1 (aI (ai [] (a9 (jR FJ (cf (jU 4) iA)))) tN))))))) (bQ (U0 4 (iD (ag 6) (qR (aM (.int 1))))) (gO (UX h9 3 (qP (ai [] (iD (ag 6) (qR (aM (.int 1))))) iK))))))) (bQ (dw [] 8 (Mz (d6 ni) (UP 3 iK))) (bQ (fJ (cQ (ai [] (a9 (fI uV 1 (aI (ai [] (ag 2)) (aI (ai [] (ag 5)) (aI (ai [] (ag 6)) tN))))))) (L4 3 (gC (iI 9) (gC (iI 10) (gC (iI 11) L3)))) (b4 (vf (aS neT (a9 (Mz (d6 uM) (qP (ai [] (ag 9)) (UP 3 (qP (ai [] (ag 10)) iK))))) (a9 (d7 [] [none,some 11] (qK (cf (aM (.int 11)) iA)) (iI 0) dj (ai [] (bV (aS eqT (ag 0) (ag 1))))))) (aS neT (a9 (Mz (d6 ni) (UP 3 iK))) (ag 8))) (ie [] (oX (aM (.bl false)))) ou)) (bQ (b4 (vf (aS neT (iD (ag 8) (aM (.int 0))) (a9 (jR kj (cf (jU 4) iA)))) (aS neT (a9 (UX qh 3 (qP (ai [] (a9 (aW r9 (jT (aI (ai [] (aM (.int 9))) tN)) (ag 2)))) iK))) (ag 5))) (ie [] (oX (aM (.bl false)))) ou) (bQ (b4 (aS neT (a9 (G9 [3] (d7 [] [none,some 3,some 5] (cQ (ai [] (jT (aI (ai [] (aM (.int 1))) (aI (ai [] (aM (.int 2))) tN))))) (iI 0) (aS neT (a9 (jQ c6 (aI (ai [] (ag 0)) (aI (ai [] (ag 1)) (aI (ai [] (ag 2)) tN))))) (a9 (kn tN))) (ai [] (ag 0))))) (a9 (kn tN))) (ie [] (oX (aM (.bl false)))) ou) (bQ (b4 (aS neT (a9 (tMl (d6 dS) 3 (qP (ai [] (ag 5)) iK))) (a9 (aW r9 (jT (aI (ai [] (aM (.int 9))) tN)) (ag 2)))) (ie [] (oX (aM (.bl false)))) ou) (b4 (vf (aS neT (a9 (Mz c7 (qP (ai [] (aM (.int 0))) (tAn 3 (qP (ai [] (ag 5)) iK))))) (a9 (kn tN))) (aS neT (a9 (Mz (d6 ni) (UP 3 iK))) (ag 8))) (ie [] (oX (aM (.bl false)))) ou))))))))))))) (ie [] (oX (aM (.bl true)))))
theorem Xu(E:Gl G)(Fd:iO G k "_law_pots"){bh:iE}(cn:fj G k "_law_next" bh){A7:HU}(Px:xX G k A7){uX:iE}(Fg:fj G k "_law_way" uX){uT:iE}(Fb:fj G k "_law_point" uT){qh:jN}(Aj:cv G k "put" qh){h9:jN}(rM:cv G k "take" h9){ni:bA}(wy:eX G k "_law_stood" ni){uV:iE}(Fe:fj G k "_law_bad" uV){uM:bA}(E3:eX G k "_law_refused" uM){c6:bA}(eM:eX G k "_law_refused" c6){dS:bA}(kJ:cv G k "point" (d6 dS)){c7:jN}(eN:sC G k "_law_refused" c7):cB G k ⟨Dd,(ae iw).names,[],false,false,false,λ_ _=>False⟩ (ak iw) (HC bh A7 uX uT qh h9 ni uV uM c6 dS c7):=(ay (TQ 1 Fd (ah (az (bw (kY (af 0) fY (fF av)))) ax) (ay (bz 2 (bR av (bw (bF cn (af 1) (ah (az av) ax))))) (ay (bz 3 (TF Px (ah (az (bw (bF Fg (af 1) ax))) (ah (az (af 2)) ax)))) (ay (bz 4 Kq) (ay (bz 5 (oP av)) (ay (bz 6 (cq ax)) (ay (pX (j7 (bC (bw (bF cn (af 1) (ah (az av) ax))) b5) E.z_range) (bH 7) (aB (cH (Ih (yO (TK (ki 4)) (pW (aL IH (bw (bF cn (af 1) (ah (az av) ax))) av)))) (ay (Ky 4 (az (bw (jw Fb.mu (Wv 1 (gR (az (af 2)) (Dq 4 cm)))))) (af 5) (xm 4)) (ay (aY (m8 false 3 Aj E.kg (gR (az (A1 (ki 4) (af 5))) cm))) (aB (bz 5 (bR (af 5) av))))) (ay (aY (pU (af 6) (az (dg (bw (gG kE E.z_sorted (bC (ki 4) b5) (by decide +kernel))) (bw (bF cn (af 1) (ah (az (bw (gG Et E.z_len (bC (ki 4) b5) (by decide +kernel)))) ax))))))) (ay (Kx 4 (dg (af 6) (nR av)) (xm 4)) (aB (aY (m8 false 3 rM E.kg (gR (az (dg (af 6) (nR av))) cm))))))))) (ay (bz 8 (jw wy.mu (Dq 3 cm))) (ay (pX (fM (az (bw (bF Fe (af 1) (ah (az (af 2)) (ah (az (af 5)) (ah (az (af 6)) ax))))))) (wx (dk (bH 9) (dk (bH 10) (dk (bH 11) pz)))) (aB (cH (Ih (yO (aL iT (bw (jw E3.mu (gR (az (af 9)) (Dq 3 (gR (az (af 10)) cm))))) (bw (fG (N':=["k","due"]) (j7 (bC av b5) E.z_range) ⟨rfl,by walk_at "6",by walk_at "6",by walk_at "6",by walk_at "6",rfl,by walk_at "6"⟩ (bH 0) il (az (Z5 gS (af 0) (af 1)))))) (pW (aL iT (bw (jw wy.mu (Dq 3 cm))) (af 8))))) (aB (bN (oP Ce))) cR))) (ay (cH (Ih (yO (aL iT (dg (af 8) av) (bw (gG kE E.z_sorted (bC (ki 4) b5) (by decide +kernel)))) (pW (aL iT (bw (m8 false 3 Aj E.kg (gR (az (bw (GA (b8 (ah (az av) ax)) (af 2)))) cm))) (af 5))))) (aB (bN (oP Ce))) cR) (ay (cH (aL iT (bw (TC [3] (fG (N':=["door","kept","coming"]) (fM (az (b8 (ah (az av) (ah (az av) ax))))) ⟨rfl,by walk_at "6",by walk_at "6",by walk_at "6",by walk_at "6",rfl,by walk_at "6"⟩ (bH 0) (zO (aL iT (bw (bZ eM (ah (az (af 0)) (ah (az (af 1)) (ah (az (af 2)) ax))))) (bw (cq ax)))) (az (af 0))))) (bw (cq ax))) (aB (bN (oP Ce))) cR) (ay (cH (aL iT (bw (m8 true 3 kJ E.kg (gR (az (af 5)) cm))) (bw (GA (b8 (ah (az av) ax)) (af 2)))) (aB (bN (oP Ce))) cR) (aB (cH (Ih (yO (aL iT (bw (jw eN (gR (az av) (Wv 3 (gR (az (af 5)) cm))))) (bw (cq ax))) (pW (aL iT (bw (jw wy.mu (Dq 3 cm))) (af 8))))) (aB (bN (oP Ce))) cR)))))))))))))) (aB (bN (oP Ce))))
def eQ(dS:bA)(lY:bA)(dW:bA):bK:=(bQ (dw [] 3 (kn tN)) (bQ (Hc XL "NearError" 4 (λrC=>(b4 (aS eqT (ag 0) (aM (.int 0))) eZ (b4 (aS eqT (ag 0) (aM (.int 1))) (gO (oS (d6 dS) (ai [] (ag 1)) (qP (ai [] (ag 2)) iK))) (b4 (aS eqT (ag 0) (aM (.int 2))) (gO (oS (d6 lY) (ai [] (ag 1)) (qP (ai [] (ag 2)) iK))) (b4 (aS eqT (ag 0) (aM (.int 3))) eZ (b4 (aS eqT (ag 0) (aM (.int 4))) eZ eZ)))))) (dw [] 3 (jQ dW (aI (ai [] (ag 4)) tN)))) (ie [] (oX (ag 3)))))
theorem og(E:Gl G){dS:bA}(kJ:cv G k "point" (d6 dS)){lY:bA}(BG:cv G k "nearest" (d6 lY)){dW:bA}(kK:Iq G k "_law_flags" dW):cB G k ⟨oZ,(ae gI).names,[],false,false,false,λ_ _=>False⟩ (ak gI) (eQ dS lY dW):=(ay (bz 3 (cq ax)) (ay (GL 4 E.ik.toXCls ∅ (λrC=>(aB (cH (aL gS (af 0) av) b3 (aB (cH (aL gS (af 0) av) (aB (aY (jd kJ E.kg (az (af 1)) (gR (az (af 2)) cm)))) (aB (cH (aL gS (af 0) av) (aB (aY (jd BG E.kg (az (af 1)) (gR (az (af 2)) cm)))) (aB (cH (aL gS (af 0) av) b3 (aB (cH (aL gS (af 0) av) b3 b3))))))))))) (aB (bz 3 (ug kK (ah (az (af 4)) ax))))) (aB (bN (oP (af 3))))))
def eR(h9:jN)(dW:bA):bK:=(bQ (dw [1] 3 (kn tN)) (bQ (Hc XL "NearError" 4 (λrC=>(b4 (aS eqT (ag 0) (aM (.int 0))) (gO (UX h9 1 (qP (ai [1] (ag 2)) iK))) (b4 (aS eqT (ag 0) (aM (.int 1))) eZ (b4 (aS eqT (ag 0) (aM (.int 2))) eZ (b4 (aS eqT (ag 0) (aM (.int 3))) eZ (b4 (aS eqT (ag 0) (aM (.int 4))) eZ eZ)))))) (dw [1] 3 (jQ dW (aI (ai [1] (ag 4)) tN)))) (ie [1] (oX (ag 3)))))
theorem oh(E:Gl G){h9:jN}(rM:cv G k "take" h9){dW:bA}(kK:Iq G k "_law_flags" dW):cB G k ⟨oZ,(ae gI).names,[1],false,false,false,λ_ _=>False⟩ (ak gI) (eR h9 dW):=(ay (bz 3 (cq ax)) (ay (GL 4 E.ik.toXCls ∅ (λrC=>(aB (cH (aL gS (af 0) av) (aB (aY (m8 false 1 rM E.kg (gR (az (af 2)) cm)))) (aB (cH (aL gS (af 0) av) b3 (aB (cH (aL gS (af 0) av) b3 (aB (cH (aL gS (af 0) av) b3 (aB (cH (aL gS (af 0) av) b3 b3))))))))))) (aB (bz 3 (ug kK (ah (az (af 4)) ax))))) (aB (bN (oP (af 3))))))
def d2(ex:Str->Sd->Prop):bK:=(b4 (vf (aS JL (ag 0) (aM (.int 1))) (aS Vy (ag 0) (aM (.int 3)))) (U1 ex "NoPoints" (aI (ai [] (aM (.str "a point has one, two or three numbers"))) tN)) ou)
theorem pf(E:Gl G)(ex:Str->Sd->Prop):cB G k ⟨vv,(ae jh).names,[],false,false,true,ex⟩ (ak jh) (d2 ex):=(aB (cH (Ih (yO (aL Dt (af 0) av) (pW (aL IH (af 0) av)))) (aB (lN (E.ik.cls "NoPoints" ∅) (ah (az b6) ax))) cR))
def bO(ex:Str->Sd->Prop):bK:=(b4 (aS neT (a9 (jR ka (cf (ag 0) iA))) (ag 1)) (U1 ex "NoPoints" (aI (ai [] (aM (.str "all points have as many numbers"))) tN)) ou)
theorem fR(E:Gl G)(ex:Str->Sd->Prop):cB G k ⟨CU,(ae pY).names,[],false,false,true,ex⟩ (ak pY) (bO ex):=(aB (cH (aL iT (bw (gG f_len E.z_len (bC (af 0) b5) (by decide +kernel))) (af 1)) (aB (lN (E.ik.cls "NoPoints" ∅) (ah (az b6) ax))) cR))
def fb(ex:Str->Sd->Prop):bK:=(b4 (xG (aS neT (ag 0) (aM (.str "streets"))) (aS neT (ag 0) (aM (.str "squares")))) (U1 ex "NoWay" (aI (ai [] (aM (.str "the way is streets or squares"))) tN)) ou)
theorem tu(E:Gl G)(ex:Str->Sd->Prop):cB G k ⟨vA,(ae jl).names,[],false,false,true,ex⟩ (ak jl) (fb ex):=(aB (cH (Ih (Gy (aL iT (af 0) (xk E.mG)) (yM (aL iT (af 0) (xk E.rm))))) (aB (lN (E.ik.cls "NoWay" ∅) (ah (az b6) ax))) cR))
def dZ(ex:Str->Sd->Prop):bK:=(b4 (aS JL (ag 0) (aM (.int 0))) (U1 ex "NoBound" (aI (ai [] (aM (.str "a bound is 0 or more"))) tN)) ou)
theorem pe(E:Gl G)(ex:Str->Sd->Prop):cB G k ⟨vt,(ae jg).names,[],false,false,true,ex⟩ (ak jg) (dZ ex):=(aB (cH (aL Dt (af 0) av) (aB (lN (E.ik.cls "NoBound" ∅) (ah (az b6) ax))) cR))
def dY(ex:Str->Sd->Prop)(dR:bA)(dq:oz):bK:=(bQ (gO (jQ dR (aI (ai [] (ag 0)) (aI (ai [] (ag 1)) tN)))) (bQ (gO (zo ex dq (aI (ai [] (ag 2)) tN))) eZ))
theorem pd(E:Gl G)(ex:Str->Sd->Prop){dR:bA}(om:eX G k "need_points_and_way" dR){dq:oz}(fw:xY G k "need_bound" dq):cB G k ⟨vq,(ae jf).names,[],false,false,true,ex⟩ (ak jf) (dY ex dR dq):=(ay (aY (bZ om (ah (az (af 0)) (ah (az (af 1)) ax)))) (ay (aY (kX fw (ah (az (af 2)) ax))) b3))
def cO(ex:Str->Sd->Prop)(dt:oz)(eD:oz):bK:=(bQ (gO (zo ex dt (aI (ai [] (ag 2)) tN))) (bQ (gO (zo ex eD (aI (ai [] (ag 1)) tN))) eZ))
theorem kA(E:Gl G)(ex:Str->Sd->Prop){dt:oz}(fy:xY G k "need_count" dt){eD:oz}(gY:xY G k "need_way" eD):cB G k ⟨Dg,(ae p0).names,[],false,false,true,ex⟩ (ak p0) (cO ex dt eD):=(ay (aY (kX fy (ah (az (af 2)) ax))) (ay (aY (kX gY (ah (az (af 1)) ax))) b3))
def e9(ex:Str->Sd->Prop)(bJ:oz):bK:=(bQ (gO (zo ex bJ (aI (ai [] (ag 1)) (aI (ai [] (KN "count" (ag 0))) tN)))) eZ)
theorem tm(E:Gl G)(ex:Str->Sd->Prop){bJ:oz}(cc:xY G k "need_as_many_numbers" bJ):cB G k ⟨vy,(ae jk).names,[],false,false,true,ex⟩ (ak jk) (e9 ex bJ):=(ay (aY (kX cc (ah (az (af 1)) (ah (az (yN E.kg (af 0))) ax)))) b3)
def eF(ex:Str->Sd->Prop)(aH:iG):bK:=(bQ (gO (qQ ex aH (ai [] (ag 0)) (aI (ai [] (ag 1)) tN))) eZ)
theorem qD(E:Gl G)(ex:Str->Sd->Prop){aH:iG}(aX:gQ G k "need_name" aH):cB G k ⟨vx,(ae jj).names,[],false,false,true,ex⟩ (ak jj) (eF ex aH):=(ay (aY (nQ aX E.kg (az (af 0)) (ah (az (af 1)) ax))) b3)
def dX(ex:Str->Sd->Prop)(aH:iG):bK:=(bQ (gO (qQ ex aH (ai [] (ag 0)) (aI (ai [] (ag 1)) tN))) eZ)
theorem o9(E:Gl G)(ex:Str->Sd->Prop){aH:iG}(aX:gQ G k "need_name" aH):cB G k ⟨vp,(ae je).names,[],false,false,true,ex⟩ (ak je) (dX ex aH):=(ay (aY (nQ aX E.kg (az (af 0)) (ah (az (af 1)) ax))) b3)
def c9(ex:Str->Sd->Prop)(aH:iG):bK:=(bQ (gO (qQ ex aH (ai [] (ag 0)) (aI (ai [] (ag 1)) tN))) eZ)
theorem mJ(E:Gl G)(ex:Str->Sd->Prop){aH:iG}(aX:gQ G k "need_name" aH):cB G k ⟨Di,(ae p8).names,[],false,false,true,ex⟩ (ak p8) (c9 ex aH):=(ay (aY (nQ aX E.kg (az (af 0)) (ah (az (af 1)) ax))) b3)
def eE(ex:Str->Sd->Prop)(bI:bA)(dn:oz)(dU:bA):bK:=(bQ (dw [] 2 (oS (d6 bI) (ai [] (ag 0)) iK)) (ie [] (d7 [] [none,none,some 2] (cQ (ai [] (a9 (zo ex dn (aI (ai [] (a9 (oS (d6 dU) (ai [] (ag 0)) iK))) (aI (ai [] (KN "way" (ag 0))) (aI (ai [] (ag 1)) tN))))))) (L4 2 (gC (iI 0) (gC (iI 1) L3))) dj (ai [] (jT (aI (ai [] (iD (ag 2) (ag 0))) (aI (ai [] (iD (ag 2) (ag 1))) tN)))))))
theorem qC(E:Gl G)(ex:Str->Sd->Prop){bI:bA}(dH:cv G k "names" (d6 bI)){dn:oz}(fv:xY G k "near_pairs" dn){dU:bA}(oo:cv G k "plain_points" (d6 dU)):cB G k ⟨vw,(ae ji).names,[],false,false,true,ex⟩ (ak ji) (eE ex bI dn dU):=(ay (bz 2 (eP dH E.kg (az (af 0)))) (aB (bN (fG (N':=["i","j","names"]) (fM (az (bw (kX fv (ah (az (bw (eP oo E.kg (az (af 0))))) (ah (az (yN E.kg (af 0))) (ah (az (af 1)) ax))))))) ⟨rfl,by walk_at "6",by walk_at "6",by walk_at "6",by walk_at "6",rfl,by walk_at "6"⟩ (wx (dk (bH 0) (dk (bH 1) pz))) il (az (b8 (ah (az (dg (af 2) (af 0))) (ah (az (dg (af 2) (af 1))) ax))))))))
def cJ(ex:Str->Sd->Prop):bK:=(b4 (aS FR (ag 1) (UT (ai [] (ag 0)))) (U1 ex "NoPlace" (aI (ai [] (aM (.str "there is no such name"))) tN)) ou)
theorem j4(E:Gl G)(ex:Str->Sd->Prop):cB G k ⟨Df,(ae pZ).names,[],false,false,true,ex⟩ (ak pZ) (cJ ex):=(aB (cH (aL Du (af 1) (Gz E.kg (az (af 0)))) (aB (lN (E.ik.cls "NoPlace" ∅) (ah (az b6) ax))) cR))
end
section
local macro_rules|`(tactic| walk_at "vx")=>`(tactic| ((try simp only[aJ,a8,List.map_cons,List.map_nil,List.length_cons,List.length_nil,List.replicate_succ,List.replicate_zero,List.cons_append,List.nil_append,Nat.reduceAdd,Nat.reduceSub]);(try dsimp only[bQ,Vc.inT,JP,Vc.UU,ou,eZ,b4,gO,ie,dw,stD,zl,Nk,Ap,a9,oX,fzV,oxV,mr,mv,ai,ag,aM,dc,mI,aW,cC,qo,pM,yA,qI,VL,Jv,qR,aS,bV,eqT,neT,Qa,JL,leT,Vy,geT,isNone,isT,xG,vf,Ha,G6,iD,Ct,Bc,slD,KR,Z9,tN,aI,kn,jT,iA,cf,jR,ka,Iy,Az,AB,rW,qu,bE,jQ,iI,L3,gC,L4,cQ,qK,Kw,fJ,dj,d7,wu,eI,mW,slA,qp,Z8,Hb,zo,U1,Hc,iy,Ma,G8,L9,r9,sq?,U2,Ae,Vc.Yk,Vc.Yl,Vc.Qg,Vc.Qh,qG,a8,Fz,xH,fI,jD,ownAt,sumF,KY,xE,KO,KQ,wR,jU,UQ,Cr,inI,FR,FJ,Cq,KL,U0,kj,Mz,nD,eV,Dl,bM,nN,Ax,noB,QV,CF,jH,iK,qP,tAn,UP,oS,tMl,UX,KN,UT,tKP,tKE,tKD,tKI,tKN,tKZ,tMK,Jc,JH,Option.map_some,qQ,rX,UW,G9,jP,wG,Aw,LY,List.contains,List.elem,Nat.reduceBEq,cN,mj,xV,iP,aJ,List.getElem?_cons_zero,List.getElem?_cons_succ,List.getElem?_nil,List.set_cons_zero,List.set_cons_succ,List.map_cons,List.map_nil,List.length_cons,List.length_nil,List.replicate_succ,List.replicate_zero,List.cons_append,List.nil_append,Nat.reduceAdd,Nat.reduceSub]);try simp only[List.append_nil,Nat.add_sub_cancel,Nat.zero_add,List.not_mem_nil,not_false_eq_true,true_and,and_true,decide_eq_true_eq,ite_true,ite_false,Bool.not_eq_true',decide_eq_false_iff_not,List.getElem?_cons_zero,List.getElem?_cons_succ]))
local macro_rules | `(tactic| symm) => `(tactic| walk_at "vx")
local macro_rules|`(tactic| walk_at "vc")=>`(tactic| repeat (refine And.intro (by first|assumption|decide|omega | (unfold my;omega) | (unfold aaM;omega) | (unfold oU;omega)) ?_))
local macro_rules|`(tactic| walk_at "vg")=>`(tactic| simp only[iI,L4,gC,L3,List.length_cons,List.length_nil,Nat.reduceAdd,Nat.zero_add,true_and,List.set_cons_zero,List.set_cons_succ,Int.zero_add])
local macro_rules|`(tactic| walk_at "vd")=>`(tactic| symm)
variable [KF]
def bu(b:Bool):Str:=if b=true then "squares" else "streets"
def ig(b:Bool):D:=.str (bu b)
def fZ(p:List Int):D:=.tup (p.map D.int)
def Bd(p:List Int):Prop:=p.length<=3/\∀x∈p,-(2^60)<x/\x<2^60
def yd(x:Int):Int:=if x<0 then -x else x
def stepI(b:Bool)(x y:Int):Int:=if b=true then yd (x-y)*yd (x-y)else yd (x-y)
def EC(b:Bool)(p q:List Int):Int:=((p.zip q).map λxy=>stepI b xy.1 xy.2).sum
def qf:bA:=λds Q=>∃b p q,ds=[ig b,fZ p,fZ q]/\Bd p/\Bd q/\Q (.sh (.int (EC b p q)))
theorem zy(b:Bool):bG 8 (ig b)=true:=by cases b<;>decide +kernel
theorem fE:bG 8 (.str "streets")=true:=by decide +kernel
theorem g9:bG 8 (.str "squares")=true:=by decide +kernel
theorem nV(b:Bool):fS (ig b) (.str "streets")=!b:=by cases b<;>decide +kernel
theorem xK(b:Bool):fS (ig b) (.str "squares")=b:=by cases b<;>decide +kernel
theorem sz:sizeLine=2^24:=rfl
theorem Bg{p q:List Int}(h:Bd p):(p.zip q).length<=3:=by
 rw[List.length_zip];have:=h.1;omega
theorem zL{α:Type}(l:List α)(f:α->Int):(l.map λa=>D.int (f a)).all isInt=true:=by
 rw[List.all_map];exact List.all_eq_true.mpr λ_ _=>rfl
theorem wL{α:Type}(l:List α)(f:α->Int):(l.map λa=>D.int (f a)).map wA=l.map f:=by
 rw[List.map_map];rfl
theorem Zt(ds:List D)(Q:B->Prop)(h:qf ds Q):Vb {nx:=λ_=>Q (.sh .aU),rt:=λb _=>Q b} (aJ MK.length ds):=by
 obtain⟨b,p,q,rfl,hp,hq,h⟩:=h;unfold Vb fZ;symm;rw[HM];refine dz (λp=>.tup [.int p.1,.int p.2]) (λxy:Int×Int=>D.int (yd (xy.1-xy.2))) _ (λxy hxy A ha=>?_) (by have:=Bg (q:=q) hp;rw[sz];omega) ?_
 ·symm
  exact ha
 ·symm
  rw[nV];refine⟨⟨zy b,fE⟩,?_⟩;cases b with
  | false =>
   refine(if_pos rfl).mpr ?_;refine⟨zL _ _,?_⟩;rw[wL];exact h
  | true =>
   refine(if_neg ∅).mpr ?_
   rw[show(List.map (λxy:Int×Int=>D.int (yd (xy.1-xy.2))) (p.zip q))=(List.map (λxy:Int×Int=>(yd (xy.1-xy.2))) (p.zip q)).map D.int from by rw[List.map_map];rfl]
   refine dz D.int (λd:Int=>D.int (d*d)) _ (λd hd A ha=>?_) (by have:=Bg (q:=q) hp;rw[sz,List.length_map];omega) ?_
   ·symm
    refine⟨?_,ha⟩;obtain⟨xy,hxy,rfl⟩:=List.mem_map.mp hd;have h1:=hp.2 _ (List.of_mem_zip hxy).1;have h2:=hq.2 _ (List.of_mem_zip hxy).2;unfold my yd;left
    split<;>omega
   ·symm
    refine⟨zL _ _,?_⟩;rw[wL,List.map_map];exact h
def Good(n:Nat)(pts:List (List Int)):Prop:=(1<=n/\n<=3)/\∀p∈pts,p.length=n/\∀x∈p,-(2^59)<x/\x<2^59
theorem Good.bd{n:Nat}{pts:List (List Int)}(g:Good n pts){p:List Int}(h:p∈pts):Bd p:=⟨by have:=(g.2 p h).1;have:=g.1.2;omega,λx hx=>by have:=(g.2 p h).2 x hx;omega⟩
theorem jx{n i a:Nat}(h:(List.range n)[i]?=some a):a=i/\i<n:=by
 have hi:i<n:=by
  have:=(List.getElem?_eq_some_iff.mp h).1
  rwa [List.length_range]at this
 rw[List.getElem?_range hi]at h;cases h;exact⟨rfl,hi⟩
def jJ(pts:List (List Int)):D:=.lst (pts.map fZ)
theorem kW{pts:List (List Int)}{j:Nat}(h:j<pts.length):(pts.map fZ)[j]?=some (fZ (pts.getD j [])):=by
 rw[List.getElem?_map,List.getD_eq_getElem?_getD,List.getElem?_eq_getElem h];rfl
theorem getD_mem{pts:List (List Int)}{j:Nat}(h:j<pts.length):pts.getD j []∈pts:=by
 rw[List.getD_eq_getElem?_getD,List.getElem?_eq_getElem h];exact List.getElem_mem h
def Shape(n:Nat)(pts:List (List Int)):Prop:=(1<=n/\n<=3)/\∀p∈pts,p.length=n
theorem Good.shape{n:Nat}{pts:List (List Int)}(g:Good n pts):Shape n pts:=⟨g.1,λp hp=>(g.2 p hp).1⟩
def jC:bA:=λds Q=>∃c:Int,ds=[.int c]/\1<=c/\c<=3/\Q (.sh .aU)
theorem Gb(ds:List D)(Q:B->Prop)(h:jC ds Q):Hn {nx:=λ_=>Q (.sh .aU),rt:=λb _=>Q b} (aJ vv.length ds):=by
 obtain⟨c,rfl,h1,h2,h⟩:=h;unfold Hn;symm;rw[if_neg ⋯,if_neg ⋯]
 exact h
def uF:bA:=λds Q=>∃(p:List Int) (c:Int),ds=[fZ p,.int c]/\(p.length:Int)=c/\Q (.sh .aU)
theorem ZA(ds:List D)(Q:B->Prop)(h:uF ds Q):U3 {nx:=λ_=>Q (.sh .aU),rt:=λb _=>Q b} (aJ CU.length ds):=by
 obtain⟨p,c,rfl,rfl,h⟩:=h;unfold U3 fZ;symm;rw[List.length_map];refine⟨⟨rfl,rfl⟩,?_⟩;have e:fS (.int (p.length:Nat)) (.int (p.length:Nat))=true:=by simp [fS]
 rw[if_neg (by rw[e];decide)]
 exact h
def uH:bA:=λds Q=>∃n pts,ds=[jJ pts]/\Shape n pts/\Q (.sh .aU)
theorem Sz(ds:List D)(Q:B->Prop)(h:uH ds Q):Hg jC uF {nx:=λ_=>Q (.sh .aU),rt:=λb _=>Q b} (aJ CY.length ds):=by
 obtain⟨n,pts,rfl,hg,h⟩:=h;unfold Hg jJ;symm;refine gU fZ pts (λi σ=>∃x,σ=[some (.sh (.lst (pts.map fZ))),x]) (λi p σ N' hx hI HZ=>?_) (λσ hI=>h) ⟨none,rfl⟩;obtain⟨x,rfl⟩:=hI;have hp:=hg.2 p (List.mem_of_getElem? hx);have h1:=hg.1;have h0:0<pts.length:=Nat.lt_of_le_of_lt (Nat.zero_le _) (List.getElem?_eq_some_iff.mp hx).1;have h00:=hg.2 _ (getD_mem h0);walk_at "vg";refine ao λN2 CA=>?_;rw[show fZ p=.tup (p.map D.int)from rfl]
 symm;rw[List.length_map];refine⟨_,rfl,by omega,by omega,?_⟩
 symm;subst CA;symm;refine bL (n:=0) rfl (kW h0) ?_;rw[show fZ (pts.getD 0 [])=.tup ((pts.getD 0 []).map D.int)from rfl]
 symm;rw[List.length_map];refine⟨p,_,rfl,by rw[hp,h00],?_⟩
 exact HZ _ ⟨_,rfl⟩
def oQ:bA:=λds Q=>∃b,ds=[ig b]/\Q (.sh .aU)
theorem SA(ds:List D)(Q:B->Prop)(h:oQ ds Q):Hy {nx:=λ_=>Q (.sh .aU),rt:=λb _=>Q b} (aJ vA.length ds):=by
 obtain⟨b,rfl,h⟩:=h;unfold Hy;symm;refine⟨⟨zy b,fE⟩,?_⟩;rw[nV];cases b with
 | false=>exact h
 | true =>
  refine(if_pos rfl).mpr ⟨⟨zy true,g9⟩,?_⟩;rw[xK];exact h
def kl:bA:=λds Q=>∃n b pts,ds=[jJ pts,ig b]/\Shape n pts/\Q (.sh .aU)
theorem ZD(ds:List D)(Q:B->Prop)(h:kl ds Q):U4 uH oQ {nx:=λ_=>Q (.sh .aU),rt:=λb _=>Q b} (aJ MF.length ds):=by
 obtain⟨n,b,pts,rfl,hg,h⟩:=h;unfold U4;symm;refine⟨n,pts,rfl,hg,?_⟩;symm;exact⟨b,rfl,h⟩
def Mg:Nat->D->Bool
 | _,.aU=>true
 | _,.int _=>true
 | n+1,.tup xs=>decide (xs.length<=1000000)&&xs.all (Mg n)
 | n+1,.lst xs=>decide (xs.length<=1000000)&&xs.all (Mg n)
 | _,_=>false
theorem Je(i:Int):fS (.int i) (.int i)=true:=by simp [fS]
theorem mK:∀p:List Int,ph (p.map D.int) (p.map D.int)=true
 | []=>rfl
 | x::p=>by
  show(fS (.int x) (.int x)&&ph (p.map D.int) (p.map D.int))=true;rw[Je,mK p];rfl
def pairD(b:Bool)(pts:List (List Int))(i j:Nat):D:=.tup [.int (EC b (pts.getD i []) (pts.getD j [])),.int i,.int j]
def qL(b:Bool)(pts:List (List Int))(i m:Nat):List D:=(List.range m).map λt=>pairD b pts i (i+1+t)
def k8(b:Bool)(pts:List (List Int)):Nat->List D
 | 0=>[]
 | i+1=>k8 b pts i++qL b pts i (pts.length-(i+1))
def eO(b:Bool)(pts:List (List Int)):List D:=k8 b pts pts.length
theorem xt(b:Bool)(pts:List (List Int))(i m:Nat):(qL b pts i m).length=m:=by unfold qL;rw[List.length_map,List.length_range]
theorem Ci(b:Bool)(pts:List (List Int))(i m:Nat):qL b pts i (m+1)=qL b pts i m++[pairD b pts i (i+1+m)]:=by unfold qL;rw[List.range_succ,List.map_append];rfl
theorem sk(b:Bool)(pts:List (List Int)):∀i,(k8 b pts i).length<=i*pts.length
 | 0=>Nat.zero_le _
 | i+1=>by
  have ih:=sk b pts i;show(k8 b pts i++qL b pts i (pts.length-(i+1))).length<=_;rw[List.length_append,xt,Nat.succ_mul];omega
theorem A2{b:Bool}{pts:List (List Int)}{i:Nat}(hl:pts.length<=1000)(hi:i<=pts.length):(k8 b pts i).length<=1000000:=
 Nat.le_trans (sk b pts i) (Nat.mul_le_mul (show i<=1000 by omega) hl)
theorem xf{b:Bool}{pts:List (List Int)}(hl:pts.length<=1000):(eO b pts).length<=1000000:=A2 hl (Nat.le_refl _)
theorem xu{b:Bool}{pts:List (List Int)}:∀ {i:Nat} {d:D},d∈k8 b pts i->∃p q,p<i/\p<q/\(i<=pts.length->q<pts.length)/\d=pairD b pts p q
 | i+1,d,h=>by
  rcases List.mem_append.mp (show d∈k8 b pts i++qL b pts i (pts.length-(i+1))from h)with h|h
  ·obtain⟨p,q,h1,h2,h3,h4⟩:=xu h
   exact⟨p,q,by omega,h2,λz=>h3 ⋯,h4⟩
  ·obtain⟨t,ht,rfl⟩:=List.mem_map.mp h
   have ht:=List.mem_range.mp ht;exact⟨i,i+1+t,by omega,by omega,λz=>by omega,rfl⟩
theorem gE{b:Bool}{pts:List (List Int)}{d:D}(h:d∈eO b pts):∃p q,p<q/\q<pts.length/\d=pairD b pts p q:=by
 obtain⟨p,q,h1,h2,h3,h4⟩:=xu h;exact⟨p,q,h2,h3 (Nat.le_refl _),h4⟩
theorem yF(b:Bool)(pts:List (List Int)):(eO b pts).all wz=true:=List.all_eq_true.mpr λd hd=>by
 obtain⟨p,q,_,_,rfl⟩:=gE hd;rfl
def lU:bA:=λds Q=>∃b n pts,ds=[jJ pts,ig b]/\Good n pts/\pts.length<=1000/\Q (.own (eO b pts))
def vg(sp:bA)(rest:bK):bK:=(bQ (dw [] 2 (kn tN)) (bQ (fJ (qK (cf (a9 (jR ka (cf (ag 0) iA))) iA)) (iI 3) (fJ (Kw (cf (a9 (aW cC (ag 3) (aM (.int 1)))) (cf (a9 (jR ka (cf (ag 0) iA))) iA))) (iI 4) (gO (zl (ag 2) (ai [] (jT (aI (ai [] (a9 (jQ sp (aI (ai [] (ag 1)) (aI (ai [] (iD (ag 0) (ag 3))) (aI (ai [] (iD (ag 0) (ag 4))) tN)))))) (aI (ai [] (ag 3)) (aI (ai [] (ag 4)) tN))))))))) rest))
theorem Gf{b:Bool}{n:Nat}{pts:List (List Int)}{rest:bK}{De:jM}(hg:Good n pts)(hl:pts.length<=1000)(h:∀x3 x4,rest De [some (.sh (jJ pts)),some (.sh (ig b)),some (.own (eO b pts)),x3,x4]):
  vg qf rest De [some (.sh (jJ pts)),some (.sh (ig b)),none,none,none]:=by
 unfold vg;refine ao λN hN=>?_;symm;refine⟨by decide,?_⟩
 subst hN;refine ao λN hN=>?_;rw[show jJ pts=.lst (pts.map fZ)from rfl]
 symm;rw[List.length_map,Int.toNat_natCast,gH];refine⟨by omega,gU (λi:Nat=>.int (0+(i:Nat))) (List.range pts.length) (λi σ=>∃x3 x4,σ=[some (.sh (.lst (pts.map fZ))),some (.sh (ig b)),some (.own (k8 b pts i)),x3,x4]) (λi a σ N' hx hI HZ=>?_) (λσ hI=>?_) ⟨none,none,rfl⟩⟩
 ·obtain⟨rfl,hi⟩:=jx hx
  obtain⟨x3,x4,rfl⟩:=hI;walk_at "vg";symm;rw[List.length_map,gH];refine⟨by omega,?_⟩
  rw[show((pts.length:Int)-((a:Int)+1)).toNat=pts.length-(a+1)by omega]
  refine gU (λt:Nat=>.int ((a:Int)+1+(t:Nat))) (List.range (pts.length-(a+1))) (λm σ=>∃x4,σ=[some (.sh (.lst (pts.map fZ))),some (.sh (ig b)),some (.own (k8 b pts a++qL b pts a m)),some (.sh (.int a)),x4]) (λm t σ N2 xU hI2 CA=>?_) (λσ hI2=>?_) ⟨x4,by rw[show qL b pts a 0=[]from rfl,List.append_nil]⟩
  ·obtain⟨rfl,ht⟩:=jx xU
   obtain⟨x4,rfl⟩:=hI2;symm;have hj:a+1+t<pts.length:=by omega
   refine⟨⟨_,rfl⟩,?_⟩;refine bL (n:=a) rfl (kW hi) ?_;refine bL (n:=a+1+t) ⋯ (kW hj) ?_
   symm;refine⟨b,_,_,rfl,hg.bd (getD_mem hi),hg.bd (getD_mem hj),?_⟩;symm;have hz:=A2 (b:=b) hl (show a<=pts.length by omega)
   refine⟨by decide,by rw[sz,List.length_append,xt];omega,CA _ ⟨some (.sh (.int ((a:Int)+1+(t:Int)))),?_⟩⟩
   rw[Ci,List.append_assoc];unfold pairD;rw[show((a+1+t:Nat):Int)=(a:Int)+1+(t:Int)by omega]
  ·obtain⟨x4,rfl⟩:=hI2
   rw[List.length_range];exact HZ _ ⟨some (.sh (.int a)),x4,rfl⟩
 ·obtain⟨x3,x4,rfl⟩:=hI
  subst hN;rw[List.length_range];exact h x3 x4
theorem J7(ds:List D)(Q:B->Prop)(h:lU ds Q):aaF qf {nx:=λ_=>Q (.sh .aU),rt:=λb _=>Q b} (aJ MH.length ds):=by
 obtain⟨b,n,pts,rfl,hg,hl,h⟩:=h;exact Gf hg hl λx3 x4=>by symm;exact h
theorem Bo{xs:List D}(h:xs.all wz=true):nC xs=(xA xs).head?:=by
 have key:∀(l:List D) (b:D),(∀x∈l,wz x=true)->wz b=true->∃m,l.foldl (λb y=>if ltI y b=true then y else b) b=m/\(m=b\/m∈l)/\wz m=true/\tQ m b=true/\∀x∈l,tQ m x=true:=by
  intro l
  induction l with
  | nil=>intro b _ hb;exact⟨b,rfl,.inl rfl,hb,by unfold tQ;rw[Vs.gy];rfl,λx hx=>by cases hx⟩
  | cons y l ih =>
   intro b hl hb;have hy:=hl y (List.mem_cons_self ..);have lt:ltI y b=HT.lexLt (i7 y) (i7 b):=by
    rw[oG hy,oG hb];rfl
   rw[List.foldl_cons]
   by_cases e:ltI y b=true
   ·rw[if_pos e]
    obtain⟨m,m1,m2,m3,m4,m5⟩:=ih y (λx hx=>hl x (List.mem_cons_of_mem _ hx)) hy;refine⟨m,m1,?_,m3,?_,λx hx=>?_⟩
    ·rcases m2 with rfl|m2
     ·exact .inr (List.mem_cons_self ..)
     ·exact .inr (List.mem_cons_of_mem _ m2)
    ·refine mV m y b m4 ?_
     unfold tQ;rw[lt]at e;cases e2:HT.lexLt (i7 b) (i7 y)with
     | false=>rfl
     | true=>have:=Vs.kO _ _ _ e e2;rw[Vs.gy]at this;cases this
    ·rcases List.mem_cons.mp hx with rfl|hx
     ·exact m4
     ·exact m5 x hx
   ·rw[if_neg e]
    obtain⟨m,m1,m2,m3,m4,m5⟩:=ih b (λx hx=>hl x (List.mem_cons_of_mem _ hx)) hb;refine⟨m,m1,?_,m3,m4,λx hx=>?_⟩
    ·rcases m2 with rfl|m2
     ·exact .inl rfl
     ·exact .inr (List.mem_cons_of_mem _ m2)
    ·rcases List.mem_cons.mp hx with rfl|hx
     ·refine mV m b x m4 ?_
      unfold tQ;rw[lt]at e;simpa using e
     ·exact m5 x hx
 have hp:=qd xs;have hs:=uy xs;cases xs with
 | nil=>rw[List.perm_nil.mp hp];rfl
 | cons x xs =>
  have all:=List.all_eq_true.mp h;obtain⟨m,m1,m2,m3,m4,m5⟩:=key xs x (λy hy=>all y (List.mem_cons_of_mem _ hy)) (all x (List.mem_cons_self ..));have hm:m∈x::xs:=by rcases m2 with rfl|m2;exact List.mem_cons_self ..;exact List.mem_cons_of_mem _ m2
  have Fh:∀y∈x::xs,tQ m y=true:=λy hy=>by
   rcases List.mem_cons.mp hy with rfl|hy
   ·exact m4
   ·exact m5 y hy
  show some _=_;rw[m1];cases e:xA (x::xs)with
  | nil=>rw[e]at hp;exact absurd hp.length_eq (by simp)
  | cons a l =>
   rw[e]at hp hs;have ha:a∈x::xs:=hp.mem_iff.mp (List.mem_cons_self ..);have h1:=Fh a ha;have h2:tQ a m=true:=by
    rcases List.mem_cons.mp (hp.mem_iff.mpr hm)with rfl|hm
    ·unfold tQ;rw[Vs.gy];rfl
    ·exact(List.pairwise_cons.mp hs).1 m hm
   unfold tQ at h1 h2;simp only[Bool.not_eq_true']at h1 h2;show some m=some a;rw[oG m3,oG (all a ha),Vs.yw _ _ h2 h1]
def dD(xs:List D):Prop:=∃c n:Int,xs=[.int c,.int n]
def h7:iE:=λxs ds Q=>dD xs/\∃m:Int,ds=[.int m]/\1<=m/\m<2^200/\∀r ys,0<=r->r<m->dD ys->Q (.sh (.int r)) ys
theorem Sy(xs ds:List D)(Q:B->List D->Prop)(h:h7 xs ds Q):Hx {nx:=qG Q (.sh .aU),rt:=λb σ=>qG Q b σ} (a8 C7.length xs ds):=by
 obtain⟨⟨x,y,rfl⟩,m,rfl,hm,hm2,h⟩:=h;unfold Hx;refine ao λN hN=>?_;simp only[a8];symm;refine⟨⟨_,rfl⟩,?_⟩;subst hN;refine ao λN hN=>?_;symm;subst hN;refine ao λN hN=>?_;symm;refine⟨by unfold oU;decide,?_⟩
 split
 ·refine⟨by unfold zF;omega,⟨_,rfl⟩,by omega,?_⟩
  exact h _ _ (Int.emod_nonneg _ ⋯) (Int.emod_lt_of_pos _ ⋯) ⟨_,_,rfl⟩
 ·subst hN
  symm;refine⟨by unfold my;omega,by unfold my;omega,by decide,by unfold my;omega,by decide,by unfold my;omega,by unfold my;omega,by decide,by unfold zF;decide,by omega,?_⟩
  exact h _ _ (Int.emod_nonneg _ ⋯) (Int.emod_lt_of_pos _ ⋯) ⟨_,_,rfl⟩
def uK:iE:=λxs ds Q=>dD xs/\ds=[]/\∀b ys,dD ys->Q (.sh (ig b)) ys
theorem SD(xs ds:List D)(Q:B->List D->Prop)(h:uK xs ds Q):HB h7 {nx:=qG Q (.sh .aU),rt:=λb σ=>qG Q b σ} (a8 Dc.length xs ds):=by
 obtain⟨r0,rfl,h⟩:=h;unfold HB;simp only[a8];symm;refine⟨by decide,⟨_,rfl⟩,r0,2,rfl,by decide,by decide,λr ys h0 h1 r1=>?_⟩
 symm;refine j8 h0 (by simp only[List.length_cons,List.length_nil];omega) λd hd=>?_
 simp only[List.mem_cons,List.not_mem_nil,or_false]at hd;rcases hd with rfl|rfl
 ·exact h false ys r1
 ·exact h true ys r1
def Bh(v:Int):Prop:=-(10^15)<=v/\v<=10^15
def zx(b:Bool)(pts:List (List Int)):D:=(nC (eO b pts)).getD .aU
def zk:bA:=λds Q=>∃b n pts,ds=[jJ pts,ig b]/\Good n pts/\pts.length<=1000/\Q (.sh (zx b pts))
theorem ZI(ds:List D)(Q:B->Prop)(h:zk ds Q):Hf kl lU {nx:=λ_=>Q (.sh .aU),rt:=λb _=>Q b} (aJ CW.length ds):=by
 obtain⟨b,n,pts,rfl,hg,hl,h⟩:=h;unfold Hf;refine ao λN hN=>?_;symm;refine⟨n,b,pts,rfl,hg.shape,?_⟩;symm;subst hN;symm;refine⟨b,n,pts,rfl,hg,hl,?_⟩;symm;refine⟨.inr (List.all_eq_true.mpr λd hd=>?_),h⟩;obtain⟨p,q,_,_,rfl⟩:=gE hd;rfl
def kx(b:Bool)(pts:List (List Int))(p:List Int)(j:Nat):D:=.tup [.int (EC b p (pts.getD j [])),.int j]
def zR(b:Bool)(pts:List (List Int))(p:List Int)(js:List Nat):D:=(nC (js.map (kx b pts p))).getD .aU
def qe:bA:=λds Q=>∃b n pts p js,ds=[jJ pts,ig b,fZ p,.lst (js.map λj:Nat=>.int j)]/\Good n pts/\Bd p/\js.length<=1000/\(∀j∈js,j<pts.length)/\Q (.sh (zR b pts p js))
theorem JZ(ds:List D)(Q:B->Prop)(h:qe ds Q):U8 qf {nx:=λ_=>Q (.sh .aU),rt:=λb _=>Q b} (aJ MI.length ds):=by
 obtain⟨b,n,pts,p,js,rfl,hg,hp,hl,hj,h⟩:=h;unfold U8 jJ;symm;refine dz (λj:Nat=>.int j) (kx b pts p) js (λj hm A ha=>?_) (by rw[sz];omega) ?_
 ·symm
  refine bL (n:=j) rfl (kW (hj j hm)) ?_;symm;refine⟨b,p,_,rfl,hp,hg.bd (getD_mem (hj j hm)),?_⟩;symm;exact⟨by decide,ha⟩
 ·symm
  refine⟨.inr ?_,h⟩;rw[List.all_map];exact List.all_eq_true.mpr λ_ _=>rfl
def others(n:Nat)(j:Int):List Nat:=(List.range n).filter λi=>decide ((i:Int)≠j)
def i9(b:Bool)(pts:List (List Int))(j:Nat):D:=zR b pts (pts.getD j []) (others pts.length j)
theorem mM{α β:Type}(p:α->Bool)(f:α->β):∀l:List α,l.filterMap (λa=>if p a=true then some (f a)else none)=(l.filter p).map f
 | []=>rfl
 | a::l=>by
  cases e:p a with
  | true=>rw[List.filterMap_cons_some (by rw[e];rfl),List.filter_cons_of_pos e,List.map_cons,mM p f l]
  | false=>rw[List.filterMap_cons_none (by rw[e];rfl),List.filter_cons_of_neg (by rw[e];decide),mM p f l]
theorem se{n i:Nat}{j:Int}(h:i∈others n j):i<n:=List.mem_range.mp (List.mem_filter.mp h).1
theorem yD(n:Nat)(j:Int):(others n j).length<=n:=by
 have:=List.length_filter_le (λi:Nat=>decide ((i:Int)≠j)) (List.range n);rw[List.length_range]at this;exact this
def gL:bA:=λds Q=>∃b n pts j,ds=[jJ pts,ig b,.int (j:Nat)]/\Good n pts/\pts.length<=1000/\j<pts.length/\Q (.sh (i9 b pts j))
theorem J6(ds:List D)(Q:B->Prop)(h:gL ds Q):U9 qe {nx:=λ_=>Q (.sh .aU),rt:=λb _=>Q b} (aJ MJ.length ds):=by
 obtain⟨b,n,pts,j,rfl,hg,hl,hj,h⟩:=h;unfold U9 jJ;refine ao λN hN=>?_;symm;rw[List.length_map,Int.toNat_natCast,gH];refine⟨by omega,iV (λi:Nat=>.int (0+(i:Nat))) (λi:Nat=>if decide ((i:Int)≠(j:Int))=true then some (.int (i:Nat))else none) _ (λi hm A Bn ha=>?_) (by rw[List.length_range,sz];omega) ?_⟩
 ·symm
  refine⟨⟨rfl,rfl⟩,?_⟩;rw[Int.zero_add]
  by_cases e:i=j
  ·subst e
   have e2:fS (.int (i:Nat)) (.int (i:Nat))=true:=by simp [fS]
   rw[if_neg (by rw[e2];decide)]
   rw[if_neg (by simp)]at ha
   exact ha
  ·have e2:fS (.int (i:Nat)) (.int (j:Nat))=false:=by simp [fS];omega
   rw[if_pos (by rw[e2])]
   rw[if_pos (decide_eq_true ⋯)]at ha
   exact ha
 ·rw[mM]
  symm;subst hN;symm;refine bL (n:=j) rfl (kW hj) ?_;symm;exact⟨b,n,pts,_,others pts.length j,rfl,hg,hg.bd (getD_mem hj),by have:=yD pts.length j;omega,λi hi=>se hi,h⟩
theorem sQ(b:Bool)(pts:List (List Int))(p:List Int):∀js:List Nat,(js=[]/\zR b pts p js=.aU)\/∃k∈js,zR b pts p js=kx b pts p k
 | []=>.inl ⟨rfl,rfl⟩
 | j::js=>.inr (by
  show∃k∈j::js,(js.map (kx b pts p)).foldl (λb y=>if ltI y b=true then y else b) (kx b pts p j)=kx b pts p k
  have key:∀(rest:List Nat) (i:Nat),(∀x∈rest,x∈j::js)->i∈j::js->∃k∈j::js,(rest.map (kx b pts p)).foldl (λb y=>if ltI y b=true then y else b) (kx b pts p i)=kx b pts p k:=by
   intro rest
   induction rest with
   | nil=>intro i _ hi;exact⟨i,hi,rfl⟩
   | cons x rest ih =>
    intro i hr hi;rw[List.map_cons,List.foldl_cons]
    split
    ·exact ih x (λy hy=>hr y (List.mem_cons_of_mem _ hy)) (hr x (List.mem_cons_self ..))
    ·exact ih i (λy hy=>hr y (List.mem_cons_of_mem _ hy)) hi
  exact key js j (λx hx=>List.mem_cons_of_mem _ hx) (List.mem_cons_self ..))
def ML(n:Nat)(nn:Nat->Option (Int×Nat)):Prop:=∀i f k,i<n->nn i=some (f,k)->k<n/\(nn k).isSome=true
def nnD:Option (Int×Nat)->D
 | none=>.aU
 | some p=>.tup [.int p.1,.int (p.2:Nat)]
theorem yE{n j k:Nat}(h:k∈others n (j:Int)):k≠j:=by
 have:=(List.mem_filter.mp h).2;have:=of_decide_eq_true this;omega
def YJ:D->Option (Int×Nat)
 | .tup [.int f,.int k]=>some (f,k.toNat)
 | _=>none
theorem FU(o:Option (Int×Nat)):YJ (nnD o)=o:=by
 cases o with
 | none=>rfl
 | some p=>show some (p.1,((p.2:Nat):Int).toNat)=some p;rw[Int.toNat_natCast]
def JQ(b:Bool)(pts:List (List Int))(i:Nat):Option (Int×Nat):=YJ (i9 b pts i)
theorem JN(b:Bool)(pts:List (List Int)):(∀i,i9 b pts i=nnD (JQ b pts i))/\ML pts.length (JQ b pts):=by
 have h1:∀i,i9 b pts i=nnD (JQ b pts i)/\(∀f k,JQ b pts i=some (f,k)->k<pts.length/\k≠i)/\(JQ b pts i=none->others pts.length (i:Int)=[]):=by
  intro i;have go:∀o,i9 b pts i=nnD o->JQ b pts i=o:=λo e=>by unfold JQ;rw[e,FU]
  rcases sQ b pts (pts.getD i []) (others pts.length (i:Int))with⟨h1,h2⟩|⟨k,h1,h2⟩
  ·have e:=go none h2
   rw[e];exact⟨h2,λf k e=>(by cases e),λ_=>h1⟩
  ·have e:=go (some (EC b (pts.getD i []) (pts.getD k []),k)) h2
   rw[e];exact⟨h2,λf k' e=>by cases e;exact⟨se h1,yE h1⟩,λe=>by cases e⟩
 refine⟨λi=>(h1 i).1,λi f k hi e=>?_⟩;obtain⟨hk,cT⟩:=(h1 i).2.1 f k e;refine⟨hk,?_⟩;cases e2:JQ b pts k with
 | some _=>rfl
 | none =>
  have:=(h1 k).2.2 e2;have hm:i∈others pts.length (k:Int):=List.mem_filter.mpr ⟨List.mem_range.mpr hi,decide_eq_true ⋯⟩
  rw[this]at hm;cases hm
def nh:bA:=λds Q=>∃pts j,ds=[jJ pts,.int (j:Nat)]/\j<pts.length/\Q (.sh .aU)
theorem Ge(ds:List D)(Q:B->Prop)(h:nh ds Q):Ho {nx:=λ_=>Q (.sh .aU),rt:=λb _=>Q b} (aJ C1.length ds):=by
 obtain⟨pts,j,rfl,hj,h⟩:=h;unfold Ho jJ;symm;rw[List.length_map];rw[if_neg ⋯,if_neg ⋯]
 exact h
def VQ(t:Int×Nat×Nat):D:=.tup [.int t.1,.int (t.2.1:Nat),.int (t.2.2:Nat)]
theorem MC{b:Bool}{pts:List (List Int)}:∀l:List D,(∀d∈l,∃i j,d=pairD b pts i j)->∃ts:List (Int×Nat×Nat),l=ts.map VQ
 | [],_=>⟨[],rfl⟩
 | d::l,h=>by
  obtain⟨i,j,rfl⟩:=h d (List.mem_cons_self ..);obtain⟨ts,e⟩:=MC l λx hx=>h x (List.mem_cons_of_mem _ hx);exact⟨(_,i,j)::ts,by rw[e];rfl⟩
theorem Gg(b:Bool)(pts:List (List Int)):∃ts:List (Int×Nat×Nat),eO b pts=ts.map VQ:=MC (b:=b) (pts:=pts) _ λd hd=>by
 obtain⟨p,q,_,_,h⟩:=gE hd;exact⟨p,q,h⟩
def nearF(bound:Int):D->Option D
 | .tup [.int f,.int i,.int j]=>if f<=bound then some (.tup [.int i,.int j])else none
 | _=>none
theorem FP(bound:Int)(t:Int×Nat×Nat):nearF bound (VQ t)=if decide (t.1<=bound)=true then some (.tup [.int (t.2.1:Nat),.int (t.2.2:Nat)])else none:=by
 show(if t.1<=bound then _ else _)=_
 by_cases h:t.1<=bound
 ·rw[if_pos h,if_pos (decide_eq_true h)]
 ·rw[if_neg h,if_neg (by rw[decide_eq_false h];decide)]
def pO(b:Bool)(pts:List (List Int))(bound:Int):List D:=(eO b pts).filterMap (nearF bound)
theorem FQ(b:Bool)(pts:List (List Int))(bound:Int):(pO b pts bound).length<=(eO b pts).length:=List.length_filterMap_le _ _
def nc:bA:=λds Q=>∃j:Int,ds=[.int j]/\0<=j/\Q (.sh .aU)
theorem Ga(ds:List D)(Q:B->Prop)(h:nc ds Q):Hm {nx:=λ_=>Q (.sh .aU),rt:=λb _=>Q b} (aJ vt.length ds):=by
 obtain⟨j,rfl,hj,h⟩:=h;unfold Hm;symm;rw[if_neg ⋯]
 exact h
def uG:bA:=λds Q=>∃b n pts j,ds=[jJ pts,ig b,.int j]/\Good n pts/\pts.length<=1000/\0<=j/\Q (.own (pO b pts j))
theorem Sx(ds:List D)(Q:B->Prop)(h:uG ds Q):Hk kl nc lU {nx:=λ_=>Q (.sh .aU),rt:=λb _=>Q b} (aJ vq.length ds):=by
 obtain⟨b,n,pts,j,rfl,hg,hl,hj,h⟩:=h;unfold Hk;refine ao λN hN=>?_;symm;refine⟨n,b,pts,rfl,hg.shape,?_⟩;symm;subst hN;refine ao λN hN=>?_;symm;refine⟨j,rfl,hj,?_⟩;symm;subst hN;symm;refine⟨b,n,pts,rfl,hg,hl,?_⟩;symm;have hz:=xf (b:=b) hl;obtain⟨ts,e⟩:=Gg b pts;unfold pO at h;rw[e]at h hz ⊢;rw[List.length_map]at hz;refine iV VQ (λt=>nearF j (VQ t)) ts (λt ht A Bn ha=>?_) (by rw[sz];omega) ?_
 ·rw[FP]at ha
  unfold VQ;symm
  by_cases hb:t.1<=j
  ·rw[if_pos (decide_eq_true hb)]at ha
   refine(if_pos hb).mpr ⟨by decide,ha⟩
  ·rw[if_neg (by rw[decide_eq_false hb];decide)]at ha
   exact(if_neg hb).mpr ha
 ·rw[List.filterMap_map]at h
  exact h
theorem Jx{ls:List Int}{j:Nat}(h:j<ls.length):(ls.map D.int)[j]?=some (.int (ls.getD j 0)):=by
 rw[List.getElem?_map,List.getD_eq_getElem?_getD,List.getElem?_eq_getElem h];rfl
theorem Es(a b:Int):fS (.int a) (.int b)=decide (a=b):=by
 unfold fS
 by_cases h:a=b
 ·simp [h]
 ·simp [h]
def cw(ps:List (Int×List Int)):List (Int×D):=ps.map λp=>(p.1,fZ p.2)
structure Iu(n:Nat)(ps:List (Int×List Int)):Prop where
 good:Good n (ps.map (·.2))
 inc:(ps.map (·.1)).Pairwise λx y:Int=>x<y
 len:ps.length<=60
theorem oH(ps:List (Int×List Int)):(cw ps).map (·.1)=ps.map (·.1):=by unfold cw;rw[List.map_map];rfl
theorem hZ{ns:List Int}(h:ns.Pairwise λx y:Int=>x<y):xB ns=ns:=(xC (List.Perm.refl _) (h.imp λh=>Int.le_of_lt h)).symm
theorem gZ:∀ {ps:List (Int×List Int)} {k:Nat} {p:Int×List Int},(ps.map (·.1)).Pairwise (λx y:Int=>x<y)->ps[k]?=some p->dI (cw ps) p.1=some (fZ p.2)
 | [],_,_,_,e=>by simp at e
 | q::ps,0,p,_,e=>by
  simp at e;subst e;show dI ((q.1,fZ q.2)::cw ps) q.1=_;unfold dI;rw[List.find?_cons_of_pos (by simp)];rfl
 | q::ps,k+1,p,h,e=>by
  rw[List.map_cons,List.pairwise_cons]at h;have e:ps[k]?=some p:=by simpa using e
  have CB:=h.1 p.1 (List.mem_map.mpr ⟨p,List.mem_of_getElem? e,rfl⟩);have ih:=gZ h.2 e;show dI ((q.1,fZ q.2)::cw ps) p.1=_;unfold dI at ih ⊢;rw[List.find?_cons_of_neg (by simp;omega)]
  exact ih
def xD:bA:=λds Q=>∃w c e kvs i,ds=[.kp w c e kvs,.int i]/\(dI kvs i).isSome=true/\Q (.sh .aU)
theorem abR(ds:List D)(Q:B->Prop)(h:xD ds Q):U6 {nx:=λ_=>Q (.sh .aU),rt:=λb _=>Q b} (aJ Df.length ds):=by
 obtain⟨w,c,e,kvs,i,rfl,hi,h⟩:=h;unfold U6;symm;rw[hi];exact(if_neg ∅).mpr h
def dQ:bA:=λds Q=>∃w c e n ps,ds=[.kp w c e (cw ps)]/\Iu n ps/\Q (.own (ps.map λp=>.int p.1))
theorem J5(ds:List D)(Q:B->Prop)(h:dQ ds Q):Hh {nx:=λ_=>Q (.sh .aU),rt:=λb _=>Q b} (aJ CZ.length ds):=by
 obtain⟨w,c,e,n,ps,rfl,ok,h⟩:=h;unfold Hh;symm;refine⟨by unfold cw;rw[List.length_map];have:=ok.len;omega,?_⟩
 rw[oH,hZ ok.inc,List.map_map];exact h
def km:bA:=λds Q=>∃w c e n ps,ds=[.kp w c e (cw ps)]/\Iu n ps/\Q (.own ((ps.map (·.2)).map fZ))
theorem ZE(ds:List D)(Q:B->Prop)(h:km ds Q):U5 dQ {nx:=λ_=>Q (.sh .aU),rt:=λb _=>Q b} (aJ MG.length ds):=by
 obtain⟨w,c,e,n,ps,rfl,ok,h⟩:=h;have hl:=ok.len;unfold U5;symm;refine⟨⟨_,_,_,_,rfl⟩,⟨List.nodup_nil,(λ_ h=>h.elim),[.kp w c e (cw ps)],rfl,w,c,e,n,ps,rfl,ok,?_⟩⟩;refine⟨.inl trivial,?_⟩;symm;refine dz (λp:Int×List Int=>D.int p.1) (λp=>fZ p.2) ps (λp hp A ha=>?_) (by rw[sz];omega) ?_
 ·obtain⟨k,hk⟩:=List.getElem?_of_mem hp
  symm;exact⟨_,gZ ok.inc hk,ha⟩
 ·rw[List.map_map]at h
  exact h
def jm:bA:=λds Q=>∃w c e kvs i d,ds=[.kp w c e kvs,.int i]/\dI kvs i=some d/\Q (.sh d)
theorem J8(ds:List D)(Q:B->Prop)(h:jm ds Q):Hj xD {nx:=λ_=>Q (.sh .aU),rt:=λb _=>Q b} (aJ vp.length ds):=by
 obtain⟨w,c,e,kvs,i,d,rfl,hi,h⟩:=h;unfold Hj;refine ao λN hN=>?_;symm;refine⟨⟨_,_,_,_,rfl⟩,⟨List.nodup_nil,(λ_ h=>h.elim),[.kp w c e kvs,.int i],rfl,w,c,e,kvs,i,rfl,by rw[hi];rfl,.inl trivial,?_⟩⟩
 symm;subst hN;symm;exact⟨d,hi,h⟩
def nmV(ks:List Int):D->D
 | .int i=>.int (ks.getD i.toNat 0)
 | d=>d
def m6(ks:List Int):D->D
 | .tup (f::r)=>.tup (f::r.map (nmV ks))
 | d=>d
theorem fc{ps:List (Int×List Int)}{i:Nat}(h:i<ps.length):(ps.map λp=>D.int p.1)[i]?=some (.int ((ps.map (·.1)).getD i 0)):=by
 rw[List.getElem?_map,List.getElem?_eq_getElem h,List.getD_eq_getElem?_getD,List.getElem?_map,List.getElem?_eq_getElem h];rfl
def uD:bA:=λds Q=>∃b c e n ps,ds=[.kp (bu b) c e (cw ps)]/\Iu n ps/\Q (.sh (m6 (ps.map (·.1)) (zx b (ps.map (·.2)))))
theorem Be(b:Bool)(pts:List (List Int)):zx b pts=.aU\/∃p q,p<q/\q<pts.length/\zx b pts=pairD b pts p q:=by
 unfold zx;rw[Bo (yF b pts)];cases e:xA (eO b pts)with
 | nil=>exact .inl rfl
 | cons a l =>
  have:a∈eO b pts:=(qd _).mem_iff.mp (by rw[e];exact List.mem_cons_self ..)
  obtain⟨p,q,h1,h2,h⟩:=gE this;exact .inr ⟨p,q,h1,h2,h⟩
theorem Sw(ds:List D)(Q:B->Prop)(h:uD ds Q):Hw zk km dQ {nx:=λ_=>Q (.sh .aU),rt:=λb _=>Q b} (aJ C6.length ds):=by
 obtain⟨b,c,e,n,ps,rfl,ok,h⟩:=h;have hl:=ok.len;unfold Hw;refine ao λN hN=>?_;symm;refine⟨⟨_,_,_,_,rfl⟩,⟨List.nodup_nil,(λ_ h=>h.elim),[.kp (bu b) c e (cw ps)],rfl,bu b,c,e,n,ps,rfl,ok,.inl trivial,?_⟩⟩;symm;refine⟨.str (bu b),rfl,?_⟩;symm;refine⟨b,n,ps.map (·.2),rfl,ok.good,by rw[List.length_map];omega,?_⟩
 symm;subst hN;refine ao λN hN=>?_;rcases Be b (ps.map (·.2))with h2|⟨p,q,h1,h2,h3⟩
 ·rw[h2]at h ⊢
  symm;exact h
 ·rw[h3]at h ⊢
  rw[List.length_map]at h2;unfold pairD at h ⊢;symm
  try refine(if_neg ∅).mpr ?_
  subst hN;refine ao λN hN=>?_;symm;refine⟨⟨_,_,_,_,rfl⟩,⟨List.nodup_nil,(λ_ h=>h.elim),[.kp (bu b) c e (cw ps)],rfl,bu b,c,e,n,ps,rfl,ok,.inl trivial,?_⟩⟩;symm;subst hN;symm;refine eg (n:=0) rfl rfl ?_;symm;refine eg (n:=1) rfl rfl (bL (n:=p) rfl (fc ⋯) ?_)
  symm;refine eg (n:=2) rfl rfl (bL (n:=q) rfl (fc ⋯) ?_)
  symm;refine⟨by decide,?_⟩
  exact h
theorem ZC(ds:List D)(Q:B->Prop)(h:gL ds Q):Hl kl nh gL {nx:=λ_=>Q (.sh .aU),rt:=λb _=>Q b} (aJ C0.length ds):=by
 obtain⟨b,n,pts,j,rfl,hg,hl,hj,h⟩:=h;unfold Hl;symm;refine⟨n,b,pts,rfl,hg.shape,?_⟩;symm;refine⟨pts,j,rfl,hj,?_⟩;symm;exact⟨b,n,pts,j,rfl,hg,hl,hj,h⟩
theorem AG(b:Bool)(pts:List (List Int))(i:Nat)(hi:i<pts.length):i9 b pts i=.aU\/∃(f:Int) (k:Nat),k<pts.length/\i9 b pts i=.tup [.int f,.int (k:Nat)]:=by
 obtain⟨h1,h2⟩:=JN b pts;rw[h1 i];cases e:JQ b pts i with
 | none=>exact .inl rfl
 | some p=>exact .inr ⟨p.1,p.2,(h2 i p.1 p.2 hi e).1,rfl⟩
theorem rP:∀ {ns:List Int} {k:Nat} {i:Int},ns.Pairwise (λx y:Int=>x<y)->ns[k]?=some i->yo (.int i) (ns.map D.int)=some k
 | [],_,_,_,e=>by simp at e
 | n::ns,0,i,_,e=>by
  simp at e;subst e;unfold yo;rw[List.map_cons,List.findIdx?_cons,if_pos (by simp [fS])]
 | n::ns,k+1,i,hp,e=>by
  rw[List.pairwise_cons]at hp;have e:ns[k]?=some i:=by simpa using e
  have:=hp.1 i (List.mem_of_getElem? e);have ih:=rP hp.2 e;unfold yo at ih ⊢;rw[List.map_cons,List.findIdx?_cons,if_neg (by simp [fS];omega),ih];rfl
theorem pF(ns:List Int):bG 8 (.lst (ns.map D.int))=true:=by
 show(ns.map D.int).all (bG 7)=true;rw[List.all_map];exact List.all_eq_true.mpr λ_ _=>rfl
theorem eo(ps:List (Int×List Int)):(ps.map λp=>D.int p.1)=(ps.map (·.1)).map D.int:=by rw[List.map_map];rfl
def lQ:bA:=λds Q=>∃b c e n ps k i,ds=[.kp (bu b) c e (cw ps),.int i]/\Iu n ps/\(ps.map (·.1))[k]?=some i/\Q (.sh (m6 (ps.map (·.1)) (i9 b (ps.map (·.2)) k)))
theorem J4(ds:List D)(Q:B->Prop)(h:lQ ds Q):Va xD dQ gL km {nx:=λ_=>Q (.sh .aU),rt:=λb _=>Q b} (aJ Di.length ds):=by
 obtain⟨b,c,e,n,ps,k,i,rfl,ok,hk,h⟩:=h;have hl:=ok.len;have PL:k<ps.length:=by have:=(List.getElem?_eq_some_iff.mp hk).1;simpa using this
 have VE:(dI (cw ps) i).isSome=true:=by
  rw[List.getElem?_map,List.getElem?_eq_getElem PL]at hk;have hk:ps[k].1=i:=by simpa using hk
  rw[<- hk,gZ ok.inc (List.getElem?_eq_getElem PL)];rfl
 unfold Va;refine ao λN hN=>?_;symm;refine⟨⟨_,_,_,_,rfl⟩,⟨List.nodup_nil,(λ_ h=>h.elim),[.kp (bu b) c e (cw ps),.int i],rfl,_,c,e,_,i,rfl,VE,.inl trivial,?_⟩⟩;symm;subst hN;refine ao λN hN=>?_;symm;refine⟨⟨_,_,_,_,rfl⟩,⟨List.nodup_nil,(λ_ h=>h.elim),[.kp (bu b) c e (cw ps)],rfl,bu b,c,e,n,ps,rfl,ok,.inl trivial,?_⟩⟩;symm;subst hN;refine ao λN hN=>?_;symm;refine⟨⟨_,_,_,_,rfl⟩,⟨List.nodup_nil,(λ_ h=>h.elim),[.kp (bu b) c e (cw ps)],rfl,bu b,c,e,n,ps,rfl,ok,.inl trivial,?_⟩⟩;symm;refine⟨.str (bu b),rfl,?_⟩;symm;rw[eo];refine⟨⟨_,rfl⟩,⟨rfl,pF _⟩,k,rP ok.inc hk,?_⟩;symm;refine⟨b,n,ps.map (·.2),k,rfl,ok.good,by rw[List.length_map];omega,by rw[List.length_map];exact PL,?_⟩
 symm;subst hN;refine ao λN hN=>?_;rcases AG b (ps.map (·.2)) k (by rw[List.length_map];exact PL)with h2|⟨f,q,h2,h3⟩
 ·rw[h2]at h ⊢
  symm;exact h
 ·rw[h3]at h ⊢
  rw[List.length_map]at h2;symm
  try refine(if_neg ∅).mpr ?_
  subst hN;symm;refine eg (n:=0) rfl rfl ?_;symm;refine eg (n:=1) rfl rfl (bL (n:=q) rfl (by rw[<- eo];exact fc h2) ?_)
  symm;refine⟨by decide,?_⟩
  exact h
def prN(ks:List Int)(p:Nat×Nat):D:=.tup [.int (ks.getD p.1 0),.int (ks.getD p.2 0)]
def pP(ks:List Int)(b:Bool)(pts:List (List Int))(j:Int):List D:=(pO b pts j).map λd=>match d with|.tup [.int x,.int y]=>prN ks (x.toNat,y.toNat)|d=>d
theorem JO(b:Bool)(pts:List (List Int))(bound:Int):∃ps:List (Nat×Nat),pO b pts bound=ps.map (λp=>D.tup [.int (p.1:Nat),.int (p.2:Nat)])/\∀p∈ps,p.1<p.2/\p.2<pts.length:=by
 have:∀l:List D,(∀d∈l,∃p:Nat×Nat,d=.tup [.int (p.1:Nat),.int (p.2:Nat)]/\p.1<p.2/\p.2<pts.length)->∃ps:List (Nat×Nat),l=ps.map (λp=>D.tup [.int (p.1:Nat),.int (p.2:Nat)])/\∀p∈ps,p.1<p.2/\p.2<pts.length:=by
  intro l
  induction l with
  | nil=>intro _;exact⟨[],rfl,λp hp=>by cases hp⟩
  | cons d l ih =>
   intro h;obtain⟨p,rfl,hp⟩:=h d (List.mem_cons_self ..);obtain⟨ps,e,L7⟩:=ih λx hx=>h x (List.mem_cons_of_mem _ hx);refine⟨p::ps,by rw[e];rfl,λx hx=>?_⟩
   rcases List.mem_cons.mp hx with rfl|hx
   ·exact hp
   ·exact L7 x hx
 refine this _ λd hd=>?_;obtain⟨x,hx,h⟩:=List.mem_filterMap.mp hd;obtain⟨p,q,h1,h2,rfl⟩:=gE hx;have:(if EC b (pts.getD p []) (pts.getD q [])<=bound then some (D.tup [.int (p:Nat),.int (q:Nat)])else none)=some d:=h
 split at this
 ·exact⟨(p,q),(Option.some.inj this).symm,h1,h2⟩
 ·cases this
theorem wW(b:Bool)(pts:List (List Int))(bound:Int):∃ps:List (Nat×Nat),pO b pts bound=ps.map (λp=>D.tup [.int (p.1:Nat),.int (p.2:Nat)])/\ps.length<=(eO b pts).length/\∀p∈ps,p.1<p.2/\p.2<pts.length:=by
 obtain⟨ps,e,h⟩:=JO b pts bound;refine⟨ps,e,?_,h⟩;have:=FQ b pts bound;rw[e,List.length_map]at this;exact this
theorem wU{ks:List Int}{b:Bool}{pts:List (List Int)}{j:Int}{qs:List (Nat×Nat)}(e:pO b pts j=qs.map (λp=>D.tup [.int (p.1:Nat),.int (p.2:Nat)])):pP ks b pts j=qs.map (prN ks):=by
 unfold pP;rw[e,List.map_map];refine List.map_congr_left λp _=>?_;show prN ks (((p.1:Nat):Int).toNat,((p.2:Nat):Int).toNat)=_;rw[Int.toNat_natCast,Int.toNat_natCast]
def zb:bA:=λds Q=>∃b c e n ps j,ds=[.kp (bu b) c e (cw ps),.int j]/\Iu n ps/\0<=j/\Q (.own (pP (ps.map (·.1)) b (ps.map (·.2)) j))
theorem Zu(ds:List D)(Q:B->Prop)(h:zb ds Q):Hq dQ uG km {nx:=λ_=>Q (.sh .aU),rt:=λb _=>Q b} (aJ vw.length ds):=by
 obtain⟨b,c,e,n,ps,j,rfl,ok,hj,h⟩:=h;have hl:=ok.len;unfold Hq;refine ao λN hN=>?_;symm;refine⟨⟨_,_,_,_,rfl⟩,⟨List.nodup_nil,(λ_ h=>h.elim),[.kp (bu b) c e (cw ps)],rfl,bu b,c,e,n,ps,rfl,ok,.inl trivial,?_⟩⟩;symm;subst hN;symm;refine⟨⟨_,_,_,_,rfl⟩,⟨List.nodup_nil,(λ_ h=>h.elim),[.kp (bu b) c e (cw ps)],rfl,bu b,c,e,n,ps,rfl,ok,.inl trivial,?_⟩⟩;symm;refine⟨.str (bu b),rfl,?_⟩;symm;refine⟨b,n,ps.map (·.2),j,rfl,ok.good,by rw[List.length_map];omega,hj,?_⟩
 obtain⟨qs,eq,hq,hqs⟩:=wW b (ps.map (·.2)) j
 have hzp:=xf (b:=b) (pts:=ps.map (·.2)) (by rw[List.length_map];omega)
 rw[wU eq]at h;rw[eq];symm;refine dz (λp:Nat×Nat=>D.tup [.int (p.1:Nat),.int (p.2:Nat)]) (prN (ps.map (·.1))) qs (λp hp A ha=>?_) (by rw[sz];omega) ?_
 ·obtain⟨h1,h2⟩:=hqs p hp
  rw[List.length_map]at h2;walk_at "vg";symm;refine bL (n:=p.1) rfl (fc ⋯) (bL (n:=p.2) rfl (fc h2) ?_)
  symm;exact⟨by decide,ha⟩
 ·exact h
theorem gF(k:Str)(v:V):∀l:List (Str×V),(df k v l).length<=l.length+1
 | []=>Nat.le_refl _
 | (g,x)::r=>by
  have:=gF k v r;unfold df
  split
  ·simp
  ·simp only[List.length_cons];omega
def uC:HU:=λds Q=>∃b c,ds=[ig b,.int c]/\1<=c/\c<=3/\Q (bu b) c
theorem Sv(ds:List D)(Q:Str->Int->Prop)(h:uC ds Q)(a dx:Addr):U7 jC oQ {nx:=inQ a dx Q,rt:=λ_ _=>False} (mj Dg.length a dx ds):=by
 obtain⟨b,c,rfl,h1,h2,h⟩:=h;unfold U7 ig;refine ao λN hN=>?_;symm;refine⟨c,rfl,h1,h2,?_⟩;symm;subst hN;refine ao λN hN=>?_;symm;refine⟨b,rfl,?_⟩;symm;subst hN;symm;refine⟨a,dx,[],.str (bu b),rfl,rfl,by simp [df],?_⟩
 symm;refine⟨a,dx,_,.int c,rfl,rfl,by simp [df],?_⟩
 symm;refine⟨a,dx,_,rfl,by have h1:=gF (Str.ofString "count") (.int c) (df (Str.ofString "way") (.str (bu b)) []);have h2:=gF (Str.ofString "way") (.str (bu b)) [];exact Nat.lt_of_le_of_lt h1 (by have:(df (Str.ofString "way") (V.str (bu b)) []).length<=1:=h2;omega),λad=>?_⟩
 symm;refine⟨a,dx,ad,_,bu b,c,rfl,by have h0:=gF (Str.ofString "points_by_name") (.ref ad) (df (Str.ofString "count") (.int c) (df (Str.ofString "way") (.str (bu b)) []));have h1:=gF (Str.ofString "count") (.int c) (df (Str.ofString "way") (.str (bu b)) []);have h2:(df (Str.ofString "way") (V.str (bu b)) []).length<=1:=gF (Str.ofString "way") (.str (bu b)) [];exact Nat.lt_of_le_of_lt h0 ⋯,rfl,?_⟩
 exact⟨ad,bu b,c,rfl,h⟩
def uI:jN:=λbs Q=>∃(a dx ad:Addr) (b:Bool) (c e:Int) (n:Nat) (ps:List (Int×List Int)) (p:List Int),bs=[.obj (iJ a dx ad (bu b) c e (cw ps)),.sh (fZ p)]/\(p.length:Int)=c/\ps.length<1000/\(∀q∈ps,q.1<e)/\Q (.sh (.int e)) [.obj (iJ a dx ad (bu b) c (e+1) (cw (ps++[(e,p)]))),.sh (fZ p)]
theorem wB{ps:List (Int×List Int)}{e:Int}{p:List Int}(h:∀q∈ps,q.1<e):yp (cw ps) e (fZ p)=cw (ps++[(e,p)]):=by
 unfold yp;rw[if_neg (by
  rw[List.any_eq_true];rintro⟨x,hx,hd⟩;unfold cw at hx;obtain⟨q,hq,rfl⟩:=List.mem_map.mp hx;have:=h q hq;have:=of_decide_eq_true hd;have:q.1=e:=this;omega)]
 unfold cw;rw[List.map_append];rfl
theorem JF(bs:List B)(Q:B->List B->Prop)(h:uI bs Q)(i:Nat)(xs:List D)(e:bs[i]?=some (.own xs)):i∈[0]:=by
 obtain⟨a,dx,ad,b,c,e',n,ps,p,rfl,_⟩:=h;exact yt 1 rfl e
theorem ZF(bs:List B)(Q:B->List B->Prop)(h:uI bs Q):Hv uF {nx:=xV bs Q (.sh .aU),rt:=λb σ=>xV bs Q b σ} (cN vy.length bs):=by
 obtain⟨a,dx,ad,b,c,e,n,ps,p,rfl,hp,hl,CB,h⟩:=h;unfold Hv;refine ao λN hN=>?_;symm;refine⟨.int c,rfl,?_⟩;symm;refine⟨p,c,rfl,hp,?_⟩;symm;subst hN;refine ao λN hN=>?_;symm;refine⟨.int e,rfl,?_⟩;symm;subst hN;refine ao λN hN=>?_;symm;refine⟨⟨a,dx,ad,_,c,e,_,rfl⟩,a,dx,ad,_,c,e,_,rfl,by unfold cw;rw[List.length_map,sz];omega,?_⟩
 rw[wB CB];subst hN;refine ao λN hN=>?_;symm;refine⟨a,dx,ad,_,c,e,_,rfl,?_⟩;subst hN;symm;exact⟨[.obj (iJ a dx ad (bu b) c (e+1) (cw (ps++[(e,p)]))),.sh (fZ p)],.obj rfl rfl (λz=>nomatch z) (.sh _ .nil),⟨rfl,trivial⟩,h⟩
def mh:jN:=λbs Q=>∃(a dx ad:Addr) (w:Str) (c e i:Int) (kvs:List (Int×D)),bs=[.obj (iJ a dx ad w c e kvs),.sh (.int i)]/\(dI kvs i).isSome=true/\Q (.sh .aU) [.obj (iJ a dx ad w c e (fN kvs i)),.sh (.int i)]
theorem JE(bs:List B)(Q:B->List B->Prop)(h:mh bs Q)(i:Nat)(xs:List D)(e:bs[i]?=some (.own xs)):i∈[0]:=by
 obtain⟨a,dx,ad,w,c,e',j,kvs,rfl,_⟩:=h;exact yt 1 rfl e
theorem SE(bs:List B)(Q:B->List B->Prop)(h:mh bs Q):Hr xD {nx:=xV bs Q (.sh .aU),rt:=λb σ=>xV bs Q b σ} (cN vx.length bs):=by
 obtain⟨a,dx,ad,w,c,e,i,kvs,rfl,hi,h⟩:=h;unfold Hr;refine ao λN hN=>?_;symm;refine⟨⟨_,w,c,e,kvs,rfl,rfl⟩,⟨List.nodup_nil,λ_ _=>trivial,[.kp w c e kvs,.int i],rfl,w,c,e,kvs,i,rfl,hi,.inr ⟨rfl,rfl⟩,?_⟩⟩;symm;subst hN;symm;refine⟨a,dx,ad,w,c,e,kvs,rfl,rfl,hi,?_⟩;exact⟨[.obj (iJ a dx ad w c e (fN kvs i)),.sh (.int i)],.obj rfl rfl (λz=>nomatch z) (.sh _ .nil),⟨rfl,trivial⟩,h⟩
theorem pE{P:Int->Prop}:∀(ds:List D) {n:Nat},ds.length=n->(∀d∈ds,∃v,d=.int v/\P v)->∃l:List Int,ds=l.map D.int/\l.length=n/\∀v∈l,P v
 | [],n,hn,_=>⟨[],rfl,hn,λv hv=>by cases hv⟩
 | d::ds,n,hn,h=>by
  obtain⟨v,rfl,hv⟩:=h d (List.mem_cons_self ..);obtain⟨l,e,hl,hf⟩:=pE ds (n:=ds.length) rfl λx hx=>h x (List.mem_cons_of_mem _ hx);refine⟨v::l,by rw[e];rfl,by simpa [hl]using hn,λx hx=>?_⟩
  rcases List.mem_cons.mp hx with rfl|hx
  ·exact hv
  ·exact hf x hx
structure nW(n:Nat)(ps:List (Int×List Int)):Prop where
 n1:1<=n
 n3:n<=3
 pt:∀q∈ps,q.2.length=n/\∀v∈q.2,Bh v
 inc:(ps.map (·.1)).Pairwise λx y:Int=>x<y
 len:ps.length<=60
theorem nW.ok{n:Nat}{ps:List (Int×List Int)}(h:nW n ps):Iu n ps:=⟨⟨⟨h.n1,h.n3⟩,λp hp=>by
 obtain⟨q,hq,rfl⟩:=List.mem_map.mp hp;refine⟨(h.pt q hq).1,λx hx=>?_⟩;have:=(h.pt q hq).2 x hx;unfold Bh at this;omega⟩,h.inc,h.len⟩
theorem JC{n k:Nat}(h:k<n):As n (k:Int)=some k:=by unfold As;rw[if_pos ⋯,if_pos ⋯,Int.toNat_natCast]
def zg:iE:=λxs ds Q=>dD xs/\∃(n:Nat) (ps:List (Int×List Int)),ds=[.int n,.jt (cw ps)]/\nW n ps/\∀p ys,p.length=n->(∀v∈p,Bh v)->dD ys->Q (.sh (fZ p)) ys
theorem fX(ps:List (Int×List Int)):(cw ps).length=ps.length:=List.length_map ..
theorem Zw(xs ds:List D)(Q:B->List D->Prop)(h:zg xs ds Q):Ht h7 {nx:=qG Q (.sh .aU),rt:=λb σ=>qG Q b σ} (a8 C4.length xs ds):=by
 obtain⟨r0,n,ps,rfl,kf,h⟩:=h;have h1:=kf.n1;have h3:=kf.n3;have hl:=kf.len;unfold Ht;simp only[a8];refine ao λN hN=>?_;symm;rw[Int.toNat_natCast,gH];refine⟨by omega,rp (λi:Nat=>.int (0+(i:Nat))) (λd=>∃v,d=.int v/\Bh v) dD _ (λv hv z rz A Z hz ha=>?_) (by rw[List.length_range,sz];omega) r0 (λds ys1 Jq hd1 r1=>?_)⟩
 ·walk_at "vg"
  symm;refine⟨⟨_,rfl⟩,rz,5,rfl,by decide,by decide,λr ys r0 r1 ry=>?_⟩
  symm;refine⟨hz,ha _ _ ⟨_,rfl,?_⟩ ry⟩;unfold Bh;omega
 rw[List.length_range]at Jq;obtain⟨l1,rfl,Jq,VD⟩:=pE ds Jq hd1;subst hN;refine ao λN hN=>?_;symm;refine⟨⟨_,rfl⟩,r1,4,rfl,by decide,by decide,λkind ys2 k0 k1 r2=>?_⟩
 symm;subst hN;refine ao λN hN=>?_;symm;have X8:∀(l:List Int) (ys:List D),l.length=n->(∀v∈l,Bh v)->dD ys->N [some (.own ys),some (.sh (.int n)),some (.sh (.jt (cw ps))),some (.own (l.map D.int)),some (.sh (.int kind)),none]:=by
  intro l ys Jq VD ry;subst hN;have tK:∀(l:List Int) (ys:List D) (x:Option B),l.length=n->(∀v∈l,Bh v)->dD ys->ie [0] (jR qu (cf (ag 3) iA)) {nx:=qG Q (.sh .aU),rt:=λb σ=>qG Q b σ} [some (.own ys),some (.sh (.int n)),some (.sh (.jt (cw ps))),some (.own (l.map D.int)),some (.sh (.int kind)),x]:=by
   intro l ys x Jq VD ry;symm;exact h l ys Jq VD ry
  show bQ (b4 _ (bQ (dw [0] 3 (jR rW _)) _) _) _ _ _;generalize ht:bQ (dw [0] 3 (jR rW _)) _=tb;refine ao λN hN=>?_;symm
  split
  ·split
   ·rename_i hk cT
    have L7:0<ps.length:=by
     cases ps with
     | nil=>exact absurd rfl cT
     | cons _ _=>simp
    subst ht;refine ao λN2 CA=>?_;symm;refine⟨by rw[fX];omega,⟨_,rfl⟩,ry,_,rfl,by rw[fX];omega,by rw[fX];omega,λr ys2 q0 q1 ry2=>?_⟩
    rw[fX]at q1;rw[oH,hZ kf.inc,<- eo];symm;obtain⟨k,rfl⟩:∃k:Nat,r=k:=⟨r.toNat,by omega⟩
    have VF:k<ps.length:=by omega
    refine bL (n:=k) rfl (by rw[List.getElem?_map,List.getElem?_eq_getElem VF];rfl) ?_
    symm;refine⟨_,gZ kf.inc (List.getElem?_eq_getElem VF),?_⟩;obtain⟨hp1,VI⟩:=kf.pt ps[k] (List.getElem_mem _);generalize ps[k].2=p at hp1 VI;show N2 [some (.own ys2),some (.sh (.int n)),some (.sh (.jt (cw ps))),some (.own (p.map D.int)),some (.sh (.int kind)),none];subst CA;refine ao λN2 CA=>?_;symm;refine⟨⟨_,rfl⟩,ry2,_,rfl,by omega,by omega,λr ys3 q0 q1 ry3=>?_⟩
    obtain⟨j,rfl⟩:∃j:Nat,r=j:=⟨r.toNat,by omega⟩
    have hj:j<p.length:=by omega
    symm;subst CA;symm;have e1:(10:Int)^(15:Int).toNat=1000000000000000:=by decide
    rw[e1];refine⟨by unfold oU;decide,by unfold oU;decide,bL (n:=j) rfl (Jx hj) ?_⟩
    symm;refine⟨⟨_,rfl⟩,ry3,3,rfl,by decide,by decide,λu ys4 u0 u1 ry4=>?_⟩
    symm;refine⟨⟨_,rfl⟩,?_⟩;rw[List.length_map,JC hj];show N _;have abp:∀v:Int,(p.map D.int).set j (.int v)=(p.set j v).map D.int:=λv=>by rw[List.map_set]
    rw[abp];subst hN;refine tK _ ys4 _ (by rw[List.length_set];exact hp1) (λv hv=>?_) ry4
    rcases List.mem_or_eq_of_mem_set hv with hv|rfl
    ·exact VI v hv
    ·unfold Bh
     split<;>split at *<;>omega
   ·subst hN
    exact tK l ys _ Jq VD ry
  ·subst hN
   exact tK l ys _ Jq VD ry
 refine⟨⟨rfl,rfl⟩,?_⟩
 split
 ·rw[Int.toNat_natCast,gH]
  refine⟨by omega,rp (λi:Nat=>.int (0+(i:Nat))) (λd=>∃v,d=.int v/\Bh v) dD _ (λv hv z rz A Z hz ha=>?_) (by rw[List.length_range,sz];omega) r2 (λds ys3 rO hd2 r3=>?_)⟩
  ·walk_at "vg"
   symm;have e1:(10:Int)^(15:Int).toNat=1000000000000000:=by decide
   rw[e1];refine⟨⟨_,rfl⟩,by unfold oU;decide,by unfold my;decide,rz,_,rfl,by decide,by decide,λr ys r0 r1 ry=>?_⟩
   symm;refine⟨by unfold oU;decide,hz,ha _ _ ⟨_,rfl,?_⟩ ry⟩
   unfold Bh;omega
  rw[List.length_range]at rO;obtain⟨l2,rfl,rO,hf2⟩:=pE ds rO hd2;exact X8 l2 ys3 rO hf2 r3
 ·exact X8 l1 ys2 Jq VD r2
def AH(m:Nat):D->Prop
 | .aU=>True
 | .tup (.int _::r)=>r.length<=1000/\∀d∈r,∃k:Nat,d=.int k/\k<m
 | _=>False
theorem dF(a b:Int):fS (.int a) (.int b)=decide (a=b):=Es a b
theorem kB:∀(n:Nat) (x:D),bG n x=true->fS x x=true
 | _,.aU,_=>rfl
 | _,.bl b,_=>by simp [fS]
 | _,.int i,_=>by simp [fS]
 | _,.str s,_=>by simp [fS]
 | 0,.tup _,h=>by simp [bG]at h
 | 0,.lst _,h=>by simp [bG]at h
 | n+1,.tup xs,h=>by
  have h':xs.all (bG n)=true:=h;show ph xs xs=true
  induction xs with
  | nil=>rfl
  | cons x r ih =>
   rw[List.all_cons,Bool.and_eq_true]at h';show(fS x x&&ph r r)=true;rw[kB n x h'.1,ih (by show r.all (bG n)=true;exact h'.2) h'.2];rfl
 | n+1,.lst xs,h=>by
  have h':xs.all (bG n)=true:=h;show ph xs xs=true
  induction xs with
  | nil=>rfl
  | cons x r ih =>
   rw[List.all_cons,Bool.and_eq_true]at h';show(fS x x&&ph r r)=true;rw[kB n x h'.1,ih (by show r.all (bG n)=true;exact h'.2) h'.2];rfl
 | 0,.dct _,h=>by simp [bG]at h
 | 0,.exc _,h=>by simp [bG]at h
 | 0,.hW _,h=>by simp [bG]at h
 | n+1,.dct _,h=>by simp [bG]at h
 | n+1,.exc _,h=>by simp [bG]at h
 | n+1,.hW _,h=>by simp [bG]at h
 | _,.jt _,h=>by simp [bG]at h
 | _,.kp ..,h=>by simp [bG]at h
def Bk(w:Str):Prop:=w="streets"\/w="squares"
def tE(c:Str):List D:=[.bl (gN c "NoPoints"),.bl (gN c "NoWay"),.bl (gN c "NoPlace"),.bl (gN c "NoBound"),.bl (gN c "NoNumber"),.bl (gN c "TooMany"),.bl (gN c "NoPaper"),.bl (gN c "NoText"),.bl (gN c "NoForm"),.bl (gN c "NoneYet"),.bl false]
def fH:bA:=λds Q=>∃c,ds=[.exc c]/\c∈XL/\Q (.own (tE c))
theorem J0(ds:List D)(Q:B->Prop)(h:fH ds Q):Hs {nx:=λ_=>Q (.sh .aU),rt:=λb _=>Q b} (aJ C3.length ds):=by
 obtain⟨c,rfl,hc,h⟩:=h;unfold Hs;refine ao λN hN=>?_;symm;refine⟨hc,hc,hc,hc,by decide,?_⟩
 subst hN;refine ao λN hN=>?_;symm;refine⟨hc,hc,hc,by decide,by decide,?_⟩
 subst hN;refine ao λN hN=>?_;symm;refine⟨hc,hc,hc,by decide,by decide,?_⟩
 subst hN;symm;refine⟨hc,by decide,by decide,?_⟩
 exact h
theorem BA{c:Str}{k:Nat}(h:(c,k)∈[(("NoPoints":Str),0),("NoWay",1),("NoPlace",2),("NoBound",3),("NoNumber",4),("TooMany",5)]):tE c=(List.range 11).map (λi=>D.bl (decide (i=k))):=by
 simp only[List.mem_cons,List.not_mem_nil,or_false]at h;rcases h with h|h|h|h|h|h<;>cases h<;>rfl
theorem pj(c:Str):bG 8 (.lst (tE c))=true:=rfl
theorem Ep{g:nX}{te:TD}{σ0:Sd}{Q:List D->Prop}(k:Nat)
  (h:∀i:Nat,∀(A:D->Prop),A (.bl (decide (i=k)))->g (.int (0+(i:Int))) σ0 λaw=>te aw λd fe=>mW σ0 fe/\A d)
  (q:Q ((List.range 11).map λi=>D.bl (decide (i=k)))):iq g dj te σ0 ((List.range 11).map λi:Nat=>D.int (0+(i:Int))) [] Q:=
 dz (λi:Nat=>D.int (0+(i:Int))) (λi=>D.bl (decide (i=k))) (List.range 11) (λi _ A ha=>h i A ha) ∅ q
theorem Jf(i k:Nat):fS (.int (i:Int)) (.int (k:Int))=decide (i=k):=by
 by_cases h:i=k
 ·subst h;simp [fS]
 ·have:¬((i:Int)=(k:Int)):=by omega
  simp [fS,h,this]
theorem yP(n:Nat)(v:Int):(List.replicate n [D.int v]).flatten=(List.replicate n v).map D.int:=by
 induction n with
 | zero=>rfl
 | succ n ih=>rw[List.replicate_succ,List.flatten_cons,ih,List.replicate_succ];rfl
def zc:iE:=λxs ds Q=>dD xs/\ds=[]/\∀v ys,v<=-1->dD ys->Q (.sh (.int v)) ys
theorem Zv(xs ds:List D)(Q:B->List D->Prop)(h:zc xs ds Q):HA h7 {nx:=qG Q (.sh .aU),rt:=λb σ=>qG Q b σ} (a8 C9.length xs ds):=by
 obtain⟨r0,rfl,h⟩:=h;unfold HA;simp only[a8];symm;refine⟨⟨_,rfl⟩,by unfold oU;decide,r0,_,rfl,by decide,by decide,λa1 x1 a10 a11 r1=>?_⟩
 symm;refine⟨by unfold oU;decide,by decide,⟨_,rfl⟩,r1,4,rfl,by decide,by decide,λa2 x2 a20 a21 r2=>?_⟩
 symm;refine j8 a20 (by simp only[List.length_cons,List.length_nil];omega) λd hd=>?_
 simp only[List.mem_cons,List.not_mem_nil,or_false]at hd;rcases hd with rfl|rfl|rfl|rfl
 all_goals
  symm;refine h _ _ ?_ r2
  first|omega|decide
theorem vL{α β:Type}(f:α->β)(xs:List α)(lo hi:Option Int):cut (xs.map f) lo hi=(cut xs lo hi).map f:=by
 unfold cut;rw[List.length_map,List.map_take,List.map_drop]
theorem G3{w:Str}(h:w="streets"\/w="squares"):bG 8 (.str w)=true/\w.length=7:=by
 rcases h with rfl|rfl<;>exact⟨by decide +kernel,by decide +kernel⟩
def sL(w:Str):Bool:=inD (.str w) [.str "streets",.str "squares"]
theorem sL.no{w:Str}(h:sL w=false):¬Bk w:=by
 intro z;rcases z with rfl|rfl
 ·exact absurd h (by decide +kernel)
 ·exact absurd h (by decide +kernel)
theorem AA{α:Type}{xs:List α}{lo hi:Option Int}{a:α}(h:a∈cut xs lo hi):a∈xs:=by
 unfold cut at h;exact List.mem_of_mem_drop (List.mem_of_mem_take h)
theorem yq{z:Str}{i:Int}{Q:D->Prop}(hz:z.length<=sizeLine)(h0:0<=i)(h1:i<(z.cps.toList.length:Int))(h:∀c∈z.cps.toList,Q (.str ⟨#[c]⟩)):JB (.str z) (.int i) Q:=by
 have hn:i.toNat<z.cps.toList.length:=by omega
 refine⟨hz,?_⟩;have e:=sO (n:=i.toNat) (List.getElem?_eq_getElem hn);rw[show((i.toNat:Nat):Int)=i by omega]at e
 rw[e];exact h _ (List.getElem_mem hn)
def ng:iE:=λxs ds Q=>dD xs/\ds=[]/\∀(ws:List Str) ys,(∀w∈ws,bG 8 (.str w)=true/\¬Bk w)->2<=ws.length->ws.length<=100->dD ys->Q (.own (ws.map D.str)) ys
theorem Gd(xs ds:List D)(Q:B->List D->Prop)(h:ng xs ds Q):Hd h7 {nx:=qG Q (.sh .aU),rt:=λb σ=>qG Q b σ} (a8 CV.length xs ds):=by
 obtain⟨r0,rfl,h⟩:=h;unfold Hd;simp only[a8]
 -- some
 refine ao λN hN=>?_;symm;refine⟨by decide,?_⟩
 have L8:∀w∈[("":Str),"street","Streets","squares "," streets","square","SQUARES","streetssquares","st","way"],bG 8 (.str w)=true:=by decide +kernel
 rw[show [D.str (Str.ofString ""),D.str (Str.ofString "street"),D.str (Str.ofString "Streets"),D.str (Str.ofString "squares "),D.str (Str.ofString " streets"),D.str (Str.ofString "square"),D.str (Str.ofString "SQUARES"),D.str (Str.ofString "streetssquares"),D.str (Str.ofString "st"),D.str (Str.ofString "way")]=[("":Str),"street","Streets","squares "," streets","square","SQUARES","streetssquares","st","way"].map D.str from rfl]
 generalize hS:[("":Str),"street","Streets","squares "," streets","square","SQUARES","streetssquares","st","way"]=A4 at L8;have acd:A4.length=10:=by rw[<- hS];rfl
 subst hN
 -- word
 refine ao λN hN=>?_;symm;refine⟨by decide,⟨_,rfl⟩,r0,2,rfl,by decide,by decide,λa1 x1 a10 a11 r1=>?_⟩
 symm;refine j8 a10 (by simp only[List.length_cons,List.length_nil];omega) λd hd=>?_
 obtain⟨word,rfl,hw⟩:∃w:Str,d=.str w/\(w="streets"\/w="squares"):=by
  simp only[List.mem_cons,List.not_mem_nil,or_false]at hd;rcases hd with rfl|rfl
  ·exact⟨_,rfl,.inl rfl⟩
  ·exact⟨_,rfl,.inr rfl⟩
 obtain⟨Zg,lw⟩:=G3 hw;symm;subst hN
 -- at
 refine ao λN hN=>?_;symm;refine⟨⟨_,rfl⟩,r1,7,rfl,by decide,by decide,λat' x2 a20 a21 r2=>?_⟩
 symm;subst hN
 -- sign
 refine ao λN hN=>?_;symm;refine⟨⟨_,rfl⟩,r2,30,rfl,by decide,by decide,λa3 x3 a30 a31 r3=>?_⟩
 symm;refine yq (by decide +kernel) a30 (by rw[show(Str.ofString "abcdefghijklmnopqrstuvwxyzS -\n").cps.toList.length=30 by decide +kernel];omega) λc hc=>?_
 obtain⟨sign,hsg,oks,ls⟩:∃z:Str,(⟨#[c]⟩:Str)=z/\bG 8 (.str z)=true/\z.length=1:=⟨_,rfl,by
  rw[tU];intro e he;have he:e∈[c]:=he;rw[List.mem_singleton.mp he];have Fh:∀c∈(Str.ofString "abcdefghijklmnopqrstuvwxyzS -\n").cps.toList,c<0x110000:=by decide +kernel
  exact Fh c hc,rfl⟩
 rw[hsg];subst hN;clear hc hsg
 -- begin
 refine ao λN hN=>?_;symm;refine⟨by rw[lw];decide,?_⟩
 have Ze:=gD none (some at') Zg;have lb:(Txt.slice word none (some at')).length<=7:=Nat.le_trans (Txt.slice_le _ _ _) ⋯
 generalize Txt.slice word none (some at')=xS at Ze lb;subst hN
 -- rest
 refine ao λN hN=>?_;symm;refine⟨by rw[lw];decide,?_⟩
 have Zf:=gD (some at') none Zg;have lr:(Txt.slice word (some at') none).length<=7:=Nat.le_trans (Txt.slice_le _ _ _) ⋯
 generalize Txt.slice word (some at') none=rest at Zf lr;subst hN
 -- bent
 have ok1:=gD (some 1) none Zf;have l1:(Txt.slice rest (some 1) none).length<=7:=Nat.le_trans (Txt.slice_le _ _ _) lr;have ok2:=gD (some 2) none Zf;have l2:(Txt.slice rest (some 2) none).length<=7:=Nat.le_trans (Txt.slice_le _ _ _) lr;have ok3:=gD none (some 2) Zf;have l3:(Txt.slice rest none (some 2)).length<=7:=Nat.le_trans (Txt.slice_le _ _ _) lr;refine ao λN hN=>?_;symm;have la:∀a b:Str,(a++b).length=a.length+b.length:=λa b=>by
  show(a.cps++b.cps).size=_;rw[Array.size_append];rfl
 refine⟨by rw[sz];omega,by rw[sz];omega,by rw[sz,la];omega,by rw[sz];omega,by rw[sz,la];omega,by decide,?_⟩
 subst hN
 -- bent,more
 refine ao λN hN=>?_;symm;have okv:=JT ok3;have lv:=GF (Txt.slice rest none (some 2));generalize yR (Txt.slice rest none (some 2))=v at okv lv;refine⟨by rw[sz];omega,by rw[sz];omega,by rw[sz];omega,by rw[sz];omega,by rw[sz];omega,by rw[sz];omega,by rw[sz,la];omega,by decide,by decide,?_⟩
 have okB:∀w∈[xS++sign++Txt.slice rest (some 1) none,xS++sign++rest,xS++Txt.slice rest (some 1) none,xS++v++Txt.slice rest (some 2) none],bG 8 (.str w)=true:=by
  intro w hw;simp only[List.mem_cons,List.not_mem_nil,or_false]at hw;rcases hw with rfl|rfl|rfl|rfl
  ·exact fP (fP Ze oks) ok1
  ·exact fP (fP Ze oks) Zf
  ·exact fP Ze ok1
  ·exact fP (fP Ze okv) ok2
 rw[show [D.str (xS++sign++Txt.slice rest (some 1) none),D.str (xS++sign++rest),D.str (xS++Txt.slice rest (some 1) none),D.str (xS++v++Txt.slice rest (some 2) none)]=[xS++sign++Txt.slice rest (some 1) none,xS++sign++rest,xS++Txt.slice rest (some 1) none,xS++v++Txt.slice rest (some 2) none].map D.str from rfl]
 generalize hB:[xS++sign++Txt.slice rest (some 1) none,xS++sign++rest,xS++Txt.slice rest (some 1) none,xS++v++Txt.slice rest (some 2) none]=vF at okB;have lB:vF.length=4:=by rw[<- hB];rfl
 clear hB;subst hN
 -- found
 refine ao λN hN=>?_;symm;refine⟨⟨_,rfl⟩,r3,10,rfl,by decide,by decide,λa4 x4 a40 a41 r4=>?_⟩
 symm;rw[vL,vL];have okC:∀w∈cut (cut A4 (some a4) none) none (some 2),bG 8 (.str w)=true:=λw hw=>L8 w (AA (AA hw));have lC:(cut (cut A4 (some a4) none) none (some 2)).length<=10:=Nat.le_trans (oC _ _ _) (Nat.le_trans (oC _ _ _) ⋯)
 generalize cut (cut A4 (some a4) none) none (some 2)=cs at okC lC;refine⟨by rw[lw];decide +kernel,by decide,by rw[sz,List.length_map];omega,by simp only[List.length_append,List.length_map,List.length_cons,List.length_nil];rw[sz];omega,?_⟩
 rw[show cs.map D.str++[D.str (Str.ofString ""),D.str (Str.ofString "steps"),D.str (word++Str.ofString "\n")]++vF.map D.str=(cs++[Str.ofString "",Str.ofString "steps",word++Str.ofString "\n"]++vF).map D.str by rw[List.map_append,List.map_append];rfl]
 have okF:∀w∈cs++[Str.ofString "",Str.ofString "steps",word++Str.ofString "\n"]++vF,bG 8 (.str w)=true:=by
  intro w hw;rcases List.mem_append.mp hw with hw|hw
  ·rcases List.mem_append.mp hw with hw|hw
   ·exact okC w hw
   ·simp only[List.mem_cons,List.not_mem_nil,or_false]at hw
    rcases hw with rfl|rfl|rfl
    ·decide +kernel
    ·decide +kernel
    ·exact fP Zg (by decide +kernel)
  ·exact okB w hw
 have lF:(cs++[Str.ofString "",Str.ofString "steps",word++Str.ofString "\n"]++vF).length<=100:=by
  simp only[List.length_append,List.length_cons,List.length_nil];omega
 have hF:∃l r,cs++[Str.ofString "",Str.ofString "steps",word++Str.ofString "\n"]++vF=l++Str.ofString ""::Str.ofString "steps"::r:=⟨cs,[word++Str.ofString "\n"]++vF,by simp⟩
 generalize cs++[Str.ofString "",Str.ofString "steps",word++Str.ofString "\n"]++vF=found at okF lF hF;subst hN;symm;refine⟨by decide,iV D.str (λw=>if sL w then none else some (D.str w)) found (λw hw A Bn ha=>?_) (by rw[sz];omega) ?_⟩
 ·have hk:=okF w hw
  walk_at "vg";symm;refine⟨by decide,⟨hk,by decide +kernel⟩,?_⟩
  rw[show inD (D.str w) [D.str (Str.ofString "streets"),D.str (Str.ofString "squares")]=sL w from rfl]
  cases hb:sL w with
  | true =>
   rw[hb,if_pos rfl]at ha;exact(if_neg ∅).mpr ha
  | false =>
   rw[hb,if_neg ∅]at ha
   exact(if_pos rfl).mpr ha
 ·rw[show(found.filterMap λw=>if sL w then none else some (D.str w))=(found.filter λw=>!sL w).map D.str by
   clear hF lF okF
   induction found with
   | nil=>rfl
   | cons w r ih=>cases hb:sL w<;>simp [hb,ih]]
  refine h _ _ (λw hw=>?_) ?_ (Nat.le_trans (List.length_filter_le _ _) lF) r4
  ·rw[List.mem_filter]at hw
   exact⟨okF w hw.1,sL.no (by simpa using hw.2)⟩
  ·obtain⟨l,r,rfl⟩:=hF
   rw[List.filter_append,List.filter_cons_of_pos (by decide +kernel),List.filter_cons_of_pos (by decide +kernel)]
   simp only[List.length_append,List.length_cons];omega
def iW:D->Prop
 | .aU=>True
 | .tup r=>∃ns:List Int,r=ns.map D.int
 | _=>False
theorem Jh{d:D}(h:iW d):fS d d=true:=by
 unfold iW at h
 split at h
 ·rfl
 ·obtain⟨ns,rfl⟩:=h
  exact mK ns
 ·exact h.elim
theorem ju{d:D}{m:Nat}(h:iW d):bG (m+2) d=true:=by
 unfold iW at h
 split at h
 ·rfl
 ·obtain⟨ns,rfl⟩:=h
  show(ns.map D.int).all (bG (m+1))=true;rw[List.all_map];exact List.all_eq_true.mpr λ_ _=>rfl
 ·exact h.elim
theorem FT{ns:List Int}:∀(r:List D),(∀d∈r,∃k:Nat,d=.int k/\k<ns.length)->∃ms:List Int,r.map (nmV ns)=ms.map D.int
 | [],_=>⟨[],rfl⟩
 | d::r,h=>by
  obtain⟨k,rfl,_⟩:=h d (List.mem_cons_self ..);obtain⟨ms,e⟩:=FT r λx hx=>h x (List.mem_cons_of_mem _ hx);exact⟨ns.getD k 0::ms,by rw[List.map_cons,e];rfl⟩
theorem gT{ns:List Int}{d:D}(h:AH ns.length d):iW (m6 ns d):=by
 unfold AH at h
 split at h
 ·trivial
 ·rename_i f r
  obtain⟨ms,e⟩:=FT r h.2;refine⟨f::ms,?_⟩;rw[e];rfl
 ·exact h.elim
theorem Bf(b:Bool)(pts:List (List Int)):AH pts.length (zx b pts):=by
 rcases Be b pts with h|⟨p,q,h1,h2,h3⟩
 ·rw[h];trivial
 ·rw[h3]
  refine⟨by simp,λd hd=>?_⟩
  simp only[List.mem_cons,List.not_mem_nil,or_false]at hd;rcases hd with rfl|rfl
  ·exact⟨p,rfl,by omega⟩
  ·exact⟨q,rfl,h2⟩
theorem wV(b:Bool)(pts:List (List Int))(i:Nat)(hi:i<pts.length):AH pts.length (i9 b pts i):=by
 rcases AG b pts i hi with h|⟨f,k,h1,h2⟩
 ·rw[h];trivial
 ·rw[h2]
  refine⟨by simp,λd hd=>?_⟩
  simp only[List.mem_cons,List.not_mem_nil,or_false]at hd;subst hd;exact⟨k,rfl,h1⟩
def cK:iG:=λds E=>∃w c e kvs i,ds=[.kp w c e kvs,.int i]/\dI kvs i=none/\E "NoPlace"
theorem ab7(ds:List D)(Q:B->Prop)(E:Str->Prop)(h:cK ds E):cJ (λc _=>E c) {nx:=λ_=>Q (.sh .aU),rt:=λb _=>Q b} (aJ Df.length ds):=by
 obtain⟨w,c,e,kvs,i,rfl,hi,h⟩:=h;unfold cJ;symm;rw[hi];exact(if_pos rfl).mpr ⟨by decide,h⟩
theorem Vk(ds:List D)(Q:B->Prop)(E:Str->Prop)(h:cK ds E):eF (λc _=>E c) cK {nx:=λ_=>Q (.sh .aU),rt:=λb _=>Q b} (aJ vx.length ds):=by
 obtain⟨w,c,e,kvs,i,rfl,hi,h⟩:=h;unfold eF;refine ao λN hN=>?_;symm;exact⟨⟨_,_,_,_,rfl⟩,w,c,e,kvs,i,rfl,hi,h⟩
theorem x_point(ds:List D)(Q:B->Prop)(E:Str->Prop)(h:cK ds E):dX (λc _=>E c) cK {nx:=λ_=>Q (.sh .aU),rt:=λb _=>Q b} (aJ vp.length ds):=by
 obtain⟨w,c,e,kvs,i,rfl,hi,h⟩:=h;unfold dX;refine ao λN hN=>?_;symm;exact⟨⟨_,_,_,_,rfl⟩,w,c,e,kvs,i,rfl,hi,h⟩
theorem Vi(ds:List D)(Q:B->Prop)(E:Str->Prop)(h:cK ds E):c9 (λc _=>E c) cK {nx:=λ_=>Q (.sh .aU),rt:=λb _=>Q b} (aJ Di.length ds):=by
 obtain⟨w,c,e,kvs,i,rfl,hi,h⟩:=h;unfold c9;refine ao λN hN=>?_;symm;exact⟨⟨_,_,_,_,rfl⟩,w,c,e,kvs,i,rfl,hi,h⟩
def lR:oz:=λds _ E=>∃(p:List Int) (c:Int),ds=[fZ p,.int c]/\(p.length:Int)≠c/\E "NoPoints"
theorem aaH(ds:List D)(Q:B->Prop)(E:Str->Prop)(h:lR ds Q E):bO (λc _=>E c) {nx:=λ_=>Q (.sh .aU),rt:=λb _=>Q b} (aJ CU.length ds):=by
 obtain⟨p,c,rfl,hp,h⟩:=h;unfold bO;rw[show fZ p=.tup (p.map D.int)from rfl]
 symm;refine⟨⟨rfl,rfl⟩,?_⟩;rw[List.length_map,dF,decide_eq_false hp];exact(if_pos rfl).mpr ⟨by decide,h⟩
def uJ:iG:=λds E=>∃w c e kvs p,ds=[.kp w c e kvs,fZ p]/\(p.length:Int)≠c/\E "NoPoints"
theorem aaI(ds:List D)(Q:B->Prop)(E:Str->Prop)(h:uJ ds E):e9 (λc _=>E c) lR {nx:=λ_=>Q (.sh .aU),rt:=λb _=>Q b} (aJ vy.length ds):=by
 obtain⟨w,c,e,kvs,p,rfl,hp,h⟩:=h;unfold e9;refine ao λN hN=>?_;symm;refine⟨.int c,rfl,?_⟩;symm;exact⟨p,c,rfl,hp,h⟩
theorem Ac(a b:Str):fS (.str a) (.str b)=decide (a=b):=by
 by_cases h:a=b
 ·subst h;simp [fS]
 ·simp [fS,h]
def xN:oz:=λds Q E=>∃c:Int,ds=[.int c]/\((c<1\/3<c)->E "NoPoints")/\(1<=c->c<=3->Q (.sh .aU))
theorem Cw(ds:List D)(Q:B->Prop)(E:Str->Prop)(h:xN ds Q E):d2 (λc _=>E c) {nx:=λ_=>Q (.sh .aU),rt:=λb _=>Q b} (aJ vv.length ds):=by
 obtain⟨c,rfl,h1,h2⟩:=h;unfold d2;symm
 by_cases c1:c<1
 ·exact(if_pos c1).mpr ⟨by decide,h1 (.inl c1)⟩
 refine(if_neg c1).mpr ?_
 by_cases c3:3<c
 ·exact(if_pos c3).mpr ⟨by decide,h1 (.inr c3)⟩
 ·exact(if_neg c3).mpr (h2 ⋯ ⋯)
def xP:oz:=λds Q E=>∃w:Str,ds=[.str w]/\bG 8 (.str w)=true/\¬Bk w/\E "NoWay"
theorem K4(ds:List D)(Q:B->Prop)(E:Str->Prop)(h:xP ds Q E):fb (λc _=>E c) {nx:=λ_=>Q (.sh .aU),rt:=λb _=>Q b} (aJ vA.length ds):=by
 obtain⟨w,rfl,hk,hw,h⟩:=h;unfold fb;symm;refine⟨⟨hk,fE⟩,?_⟩;rw[Ac,if_pos (by simp [show w≠"streets" fromλz=>hw (.inl z)])]
 refine⟨⟨hk,g9⟩,?_⟩;rw[Ac,if_pos (by simp [show w≠"squares" fromλz=>hw (.inr z)])]
 exact⟨by decide,h⟩
def xM:oz:=λds Q E=>∃j:Int,ds=[.int j]/\j<0/\E "NoBound"
theorem Cv(ds:List D)(Q:B->Prop)(E:Str->Prop)(h:xM ds Q E):dZ (λc _=>E c) {nx:=λ_=>Q (.sh .aU),rt:=λb _=>Q b} (aJ vt.length ds):=by
 obtain⟨j,rfl,hj,h⟩:=h;unfold dZ;symm;exact(if_pos hj).mpr ⟨by decide,h⟩
def xO:oz:=λds Q E=>∃b n pts j,ds=[jJ pts,ig b,.int j]/\Good n pts/\pts.length<=1000/\j<0/\E "NoBound"
theorem K3(ds:List D)(Q:B->Prop)(E:Str->Prop)(h:xO ds Q E):dY (λc _=>E c) kl xM {nx:=λ_=>Q (.sh .aU),rt:=λb _=>Q b} (aJ vq.length ds):=by
 obtain⟨b,n,pts,j,rfl,hg,hl,hj,h⟩:=h;unfold dY;refine ao λN hN=>?_;symm;refine⟨n,b,pts,rfl,hg.shape,?_⟩;symm;subst hN;refine ao λN hN=>?_;symm;exact⟨j,rfl,hj,h⟩
def HJ:iG:=λds E=>∃b c e n ps j,ds=[.kp (bu b) c e (cw ps),.int j]/\Iu n ps/\j<0/\E "NoBound"
theorem HK(ds:List D)(Q:B->Prop)(E:Str->Prop)(h:HJ ds E):eE (λc _=>E c) dQ xO km {nx:=λ_=>Q (.sh .aU),rt:=λb _=>Q b} (aJ vw.length ds):=by
 obtain⟨b,c,e,n,ps,j,rfl,ok,hj,h⟩:=h;have hl:=ok.len;unfold eE;refine ao λN hN=>?_;symm;refine⟨⟨_,_,_,_,rfl⟩,⟨List.nodup_nil,(λ_ h=>nomatch h),[.kp (bu b) c e (cw ps)],rfl,bu b,c,e,n,ps,rfl,ok,.inl (by first|trivial|rfl),?_⟩⟩
 symm;subst hN;symm;refine⟨⟨_,_,_,_,rfl⟩,⟨List.nodup_nil,(λ_ h=>nomatch h),[.kp (bu b) c e (cw ps)],rfl,bu b,c,e,n,ps,rfl,ok,.inl (by first|trivial|rfl),?_⟩⟩
 symm;refine⟨.str (bu b),rfl,?_⟩;symm;exact⟨b,n,ps.map (·.2),j,rfl,ok.good,by rw[List.length_map];omega,hj,h⟩
def HI:iG:=λds E=>∃(w:Str) (c:Int),ds=[.str w,.int c]/\bG 8 (.str w)=true/\(((c<1\/3<c)/\E "NoPoints")\/(1<=c/\c<=3/\¬Bk w/\E "NoWay"))
theorem K2(ds:List D)(E:Str->Prop)(h:HI ds E):cO (λc _=>E c) xN xP {nx:=λ_=>False,rt:=λ_ _=>False} (nk Dg.length ds):=by
 obtain⟨w,c,rfl,hk,h⟩:=h;unfold cO nk;refine ao λN hN=>?_;symm;rcases h with⟨hc,h⟩|⟨h1,h3,hw,h⟩
 ·exact⟨c,rfl,λ_=>h,λz1 z3=>absurd hc ⋯⟩
 refine⟨c,rfl,λz=>absurd z ⋯,λ_ _=>?_⟩
 symm;subst hN;refine ao λN hN=>?_;symm;exact⟨w,rfl,hk,hw,h⟩
theorem B1(ps:List (Int×List Int)):(ps.map (·.1)).map D.int=(List.range ps.length).map λk=>.int ((ps.map (·.1)).getD k 0):=by
 apply List.ext_getElem?;intro i
 by_cases h:i<ps.length
 ·rw[<- eo,fc h,List.getElem?_map,List.getElem?_range h];rfl
 ·rw[List.getElem?_eq_none (by simpa using h),List.getElem?_eq_none (by simpa using h)]
theorem FC{ps:List (Int×List Int)}{k:Nat}(h:(ps.map (·.1)).Pairwise λx y:Int=>x<y)(hk:k<ps.length):dI (cw ps) ((ps.map (·.1)).getD k 0)=some (fZ ((ps.map (·.2)).getD k [])):=by
 have:=gZ h (List.getElem?_eq_getElem hk);rw[List.getD_eq_getElem?_getD,List.getElem?_map,List.getElem?_eq_getElem hk,List.getD_eq_getElem?_getD,List.getElem?_map,List.getElem?_eq_getElem hk];exact this
theorem Br{α:Type}{g:nX}{te:TD}{σ0:Sd}{Q:List D->Prop}{items:List D}(gi f:α->D)(l:List α)(he:items=l.map gi)
  (h:∀a∈l,∀(A:D->Prop),A (f a)->g (gi a) σ0 λaw=>te aw λd fe=>mW σ0 fe/\A d)
  (hl:l.length<=sizeLine) (q:Q (l.map f)):iq g dj te σ0 items [] Q:=by
 subst he;exact dz gi f l h hl q
def Bad(b:Bool)(n:Nat)(e:Int)(ps:List (Int×List Int))(dr:Int)(d:D)(c:Str):Prop:=
 (0<=dr/\dr<=2/\c="NoPlace"/\∃i,d=.int i/\dI (cw ps) i=none)\/(dr=3/\c="NoBound"/\∃j,d=.int j/\j<0)\/(dr=4/\c="NoPoints"/\∃p,d=fZ p/\(p.length:Int)≠n) \/
 (dr=5/\∃(w:Str) (m:Int),d=.tup [.str w,.int m]/\bG 8 (.str w)=true/\(((m<1\/3<m)/\c="NoPoints")\/(1<=m/\m<=3/\¬Bk w/\c="NoWay")))
def zh:bA:=λds Q=>∃b n e ps dr d c,ds=[.int dr,.kp (bu b) (n:Nat) e (cw ps),d]/\Iu n ps/\Bad b n e ps dr d c/\Q (.own (tE c))
theorem Zx(ds:List D)(Q:B->Prop)(h:zh ds Q):He cK cK cK HJ uJ HI fH {nx:=λ_=>Q (.sh .aU),rt:=λb _=>Q b} (aJ oZ.length ds):=by
 obtain⟨b,n,e,ps,dr,d,c,rfl,ok,hb,h⟩:=h;unfold He;refine ao λN hN=>?_;symm;refine⟨by decide,?_⟩
 subst hN;refine ao λN hN=>?_;have fin:c∈XL->(c∈XL/\gN c "NearError"=true)/\dw [] 3 (jQ fH (aI (ai [] (ag 4)) tN)) {nx:=λaO=>N (aO.set 4 none),rt:=λ_ _=>False} [some (.sh (.int dr)),some (.sh (.kp (bu b) n e (cw ps))),some (.sh d),some (.own []),some (.sh (.exc c))]:=by
  intro hx;refine⟨⟨hx,?_⟩,?_⟩
  ·simp only[XL,List.mem_cons,List.not_mem_nil,or_false]at hx
   rcases hx with rfl|rfl|rfl|rfl|rfl|rfl|rfl|rfl|rfl|rfl|rfl<;>decide
  symm;refine⟨c,rfl,hx,?_⟩;symm;subst hN;symm;exact h
 generalize hth:dw [] 3 (jQ fH _)=th at fin;symm;rw[dF,dF,dF,dF,dF];have neg:∀ {x y:Int},¬x=y->¬decide (x=y)=true:=λz=>by rw[decide_eq_false z];decide
 rcases hb with⟨h0,h2,rfl,i,rfl,hi⟩|⟨rfl,rfl,j,rfl,hj⟩|⟨rfl,rfl,p,rfl,hp⟩|⟨rfl,w,m,rfl,hk,hm⟩
 ·refine⟨⟨rfl,rfl⟩,?_⟩
  have go:cK [.kp (bu b) n e (cw ps),.int i] λx=>(x∈XL/\gN x "NearError"=true)/\th {nx:=λaO=>N (aO.set 4 none),rt:=λ_ _=>False} [some (.sh (.int dr)),some (.sh (.kp (bu b) n e (cw ps))),some (.sh (.int i)),some (.own []),some (.sh (.exc x))]:=⟨_,_,_,_,i,rfl,hi,fin ∅⟩
  by_cases d0:dr=0
  ·exact(if_pos (decide_eq_true d0)).mpr ⟨⟨_,_,_,_,rfl⟩,go⟩
  refine(if_neg (neg d0)).mpr ⟨⟨rfl,rfl⟩,?_⟩
  by_cases d1:dr=1
  ·exact(if_pos (decide_eq_true d1)).mpr ⟨⟨_,_,_,_,rfl⟩,go⟩
  refine(if_neg (neg d1)).mpr ⟨⟨rfl,rfl⟩,?_⟩;exact(if_pos (decide_eq_true ⋯)).mpr ⟨⟨_,_,_,_,rfl⟩,go⟩
 ·refine⟨⟨rfl,rfl⟩,(if_neg ∅).mpr ⟨⟨rfl,rfl⟩,(if_neg ∅).mpr ⟨⟨rfl,rfl⟩,(if_neg ∅).mpr ⟨⟨rfl,rfl⟩,(if_pos ∅).mpr ⟨⟨_,_,_,_,rfl⟩,b,n,e,n,ps,j,rfl,ok,hj,fin ∅⟩⟩⟩⟩⟩
 ·refine⟨⟨rfl,rfl⟩,(if_neg ∅).mpr ⟨⟨rfl,rfl⟩,(if_neg ∅).mpr ⟨⟨rfl,rfl⟩,(if_neg ∅).mpr ⟨⟨rfl,rfl⟩,(if_neg ∅).mpr ⟨⟨rfl,rfl⟩,(if_pos ∅).mpr ⟨⟨_,_,_,_,rfl⟩,_,_,_,_,p,rfl,hp,fin ∅⟩⟩⟩⟩⟩⟩
 ·refine⟨⟨rfl,rfl⟩,(if_neg ∅).mpr ⟨⟨rfl,rfl⟩,(if_neg ∅).mpr ⟨⟨rfl,rfl⟩,(if_neg ∅).mpr ⟨⟨rfl,rfl⟩,(if_neg ∅).mpr ⟨⟨rfl,rfl⟩,(if_neg ∅).mpr ?_⟩⟩⟩⟩⟩
  refine eg (n:=0) rfl rfl (eg (n:=1) rfl rfl ⟨w,m,rfl,hk,?_⟩);rcases hm with⟨hm,rfl⟩|⟨h1,h3,hw,rfl⟩
  ·exact .inl ⟨hm,fin ∅⟩
  ·exact .inr ⟨h1,h3,hw,fin ∅⟩
def zi:bA:=λds Q=>∃(b:Bool) (c e:Int) (n:Nat) (ps:List (Int×List Int)) (k:Nat) (i dr:Int),ds=[.int dr,.kp (bu b) c e (cw ps),.int i]/\Iu n ps/\(ps.map (·.1))[k]?=some i/\(dr=1\/dr=2)/\Q (.own [])
theorem Zy(ds:List D)(Q:B->Prop)(h:zi ds Q):eQ jm lQ fH {nx:=λ_=>Q (.sh .aU),rt:=λb _=>Q b} (aJ oZ.length ds):=by
 obtain⟨b,c,e,n,ps,k,i,dr,rfl,ok,hk,hd,h⟩:=h;unfold eQ;refine ao λN hN=>?_;symm;refine⟨by decide,?_⟩
 subst hN;refine ao λN hN=>?_;have fin:N [some (.sh (.int dr)),some (.sh (.kp (bu b) c e (cw ps))),some (.sh (.int i)),some (.own []),none]:=by
  subst hN;symm;exact h
 have PL:k<ps.length:=by have:=(List.getElem?_eq_some_iff.mp hk).1;simpa using this
 have VE:dI (cw ps) i=some (fZ ps[k].2):=by
  rw[List.getElem?_map,List.getElem?_eq_getElem PL]at hk;have hk:ps[k].1=i:=by simpa using hk
  rw[<- hk,gZ ok.inc (List.getElem?_eq_getElem PL)]
 symm;rw[dF,dF,dF];refine⟨⟨rfl,rfl⟩,(if_neg (by rw[decide_eq_false ⋯];decide)).mpr ⟨⟨rfl,rfl⟩,?_⟩⟩
 by_cases d1:dr=1
 ·refine(if_pos (decide_eq_true d1)).mpr ⟨⟨_,_,_,_,rfl⟩,⟨List.nodup_nil,(λ_ h=>nomatch h),[.kp (bu b) c e (cw ps),.int i],rfl,bu b,c,e,cw ps,i,_,rfl,VE,.inl (by first|trivial|rfl),?_⟩⟩
  exact fin
 refine(if_neg (by rw[decide_eq_false d1];decide)).mpr ⟨⟨rfl,rfl⟩,?_⟩
 refine(if_pos (decide_eq_true ⋯)).mpr ⟨⟨_,_,_,_,rfl⟩,⟨List.nodup_nil,(λ_ h=>nomatch h),[.kp (bu b) c e (cw ps),.int i],rfl,b,c,e,n,ps,k,i,rfl,ok,hk,.inl (by first|trivial|rfl),?_⟩⟩
 exact fin
def uE:jN:=λbs Q=>∃(a dx ad:Addr) (w:Str) (c e i:Int) (kvs:List (Int×D)),bs=[.sh (.int 0),.obj (iJ a dx ad w c e kvs),.sh (.int i)]/\(dI kvs i).isSome=true/\Q (.own []) [.sh (.int 0),.obj (iJ a dx ad w c e (fN kvs i)),.sh (.int i)]
theorem kN(bs:List B)(Q:B->List B->Prop)(h:uE bs Q)(i:Nat)(xs:List D)(e:bs[i]?=some (.own xs)):i∈[1]:=by
 obtain⟨a,dx,ad,w,c,e',j,kvs,rfl,_⟩:=h;have:=yt 0 rfl e;cases this
theorem Zz(bs:List B)(Q:B->List B->Prop)(h:uE bs Q):eR mh fH {nx:=xV bs Q (.sh .aU),rt:=λb σ=>xV bs Q b σ} (cN oZ.length bs):=by
 obtain⟨a,dx,ad,w,c,e,i,kvs,rfl,hi,h⟩:=h;have XG:∀x3 x4,xV [.sh (.int 0),.obj (iJ a dx ad w c e kvs),.sh (.int i)] Q (.own []) [some (.sh (.int 0)),some (.obj (iJ a dx ad w c e (fN kvs i))),some (.sh (.int i)),x3,x4]:=λx3 x4 =>
  ⟨[.sh (.int 0),.obj (iJ a dx ad w c e (fN kvs i)),.sh (.int i)],.sh _ (.obj rfl rfl (λz=>nomatch z) (.sh _ .nil)),⟨rfl,trivial⟩,h⟩
 generalize xV _ Q=MQ at XG;unfold eR;refine ao λN hN=>?_;symm;refine⟨by decide,?_⟩
 subst hN;refine ao λN hN=>?_;symm;refine⟨⟨rfl,rfl⟩,(if_pos rfl).mpr ?_⟩;refine⟨⟨_,_,_,_,_,rfl,rfl⟩,by decide,(λ_ h=>nomatch h),a,dx,ad,w,c,e,i,kvs,rfl,hi,.inl (by first|trivial|rfl),?_⟩
 symm;subst hN;symm;exact⟨by decide,XG _ _⟩
def uZ(b:Bool)(ps:List (Int×List Int)):List D:=[.lst ((ps.map (·.1)).map D.int),m6 (ps.map (·.1)) (zx b (ps.map (·.2))),.lst (pP (ps.map (·.1)) b (ps.map (·.2)) 5),.lst (pP (ps.map (·.1)) b (ps.map (·.2)) (10^34-1))] ++
 (List.range ps.length).map λk=>.lst [fZ ((ps.map (·.2)).getD k []),m6 (ps.map (·.1)) (i9 b (ps.map (·.2)) k)]
def zj:bA:=λds Q=>∃(b:Bool) (c e:Int) (n:Nat) (ps:List (Int×List Int)),ds=[.kp (bu b) c e (cw ps)]/\nW n ps/\Q (.own (uZ b ps))
theorem ZH(ds:List D)(Q:B->Prop)(h:zj ds Q):Hu dQ uD zb jm lQ {nx:=λ_=>Q (.sh .aU),rt:=λb _=>Q b} (aJ C5.length ds):=by
 obtain⟨b,c,e,n,ps,rfl,kf,h⟩:=h;have ok:=kf.ok;have hl:=kf.len;unfold Hu;refine ao λN hN=>?_;symm;refine⟨⟨_,_,_,_,rfl⟩,⟨List.nodup_nil,(λ_ h=>nomatch h),[.kp (bu b) c e (cw ps)],rfl,bu b,c,e,n,ps,rfl,ok,.inl (by first|trivial|rfl),?_⟩⟩
 symm;refine⟨⟨_,_,_,_,rfl⟩,⟨List.nodup_nil,(λ_ h=>nomatch h),[.kp (bu b) c e (cw ps)],rfl,b,c,e,n,ps,rfl,ok,.inl (by first|trivial|rfl),?_⟩⟩
 symm;refine⟨⟨_,_,_,_,rfl⟩,⟨List.nodup_nil,(λ_ h=>nomatch h),[.kp (bu b) c e (cw ps),.int 5],rfl,b,c,e,n,ps,5,rfl,ok,by decide,.inl (by first|trivial|rfl),?_⟩⟩
 symm;have e34:(10:Int)^Int.toNat 34-1=10^34-1:=by decide
 rw[e34];refine⟨⟨_,_,_,_,rfl⟩,by unfold oU;decide,⟨List.nodup_nil,(λ_ h=>nomatch h),[.kp (bu b) c e (cw ps),.int (10^34-1)],rfl,b,c,e,n,ps,10^34-1,rfl,ok,by decide,.inl (by first|trivial|rfl),?_⟩⟩
 symm;refine⟨by decide,?_⟩
 rw[eo];subst hN;symm;refine⟨⟨_,_,_,_,rfl⟩,⟨List.nodup_nil,(λ_ h=>nomatch h),[.kp (bu b) c e (cw ps)],rfl,bu b,c,e,n,ps,rfl,ok,.inl (by first|trivial|rfl),?_⟩⟩
 symm;rw[eo];refine Br (λk:Nat=>D.int ((ps.map (·.1)).getD k 0)) (λk=>.lst [fZ ((ps.map (·.2)).getD k []),m6 (ps.map (·.1)) (i9 b (ps.map (·.2)) k)]) (List.range ps.length) (B1 ps) (λk hk A ha=>?_) (by rw[List.length_range,sz];omega) ?_
 ·have hk:=List.mem_range.mp hk
  have VF:(ps.map (·.1))[k]?=some ((ps.map (·.1)).getD k 0):=by
   rw[List.getD_eq_getElem?_getD,List.getElem?_eq_getElem (by rw[List.length_map];exact hk)];rfl
  walk_at "vg";symm;refine⟨⟨_,_,_,_,rfl⟩,⟨List.nodup_nil,(λ_ h=>nomatch h),[.kp (bu b) c e (cw ps),.int ((ps.map (·.1)).getD k 0)],rfl,bu b,c,e,cw ps,_,_,rfl,FC kf.inc hk,.inl (by first|trivial|rfl),?_⟩⟩
  symm;refine⟨⟨_,_,_,_,rfl⟩,⟨List.nodup_nil,(λ_ h=>nomatch h),[.kp (bu b) c e (cw ps),.int ((ps.map (·.1)).getD k 0)],rfl,b,c,e,n,ps,k,_,rfl,ok,VF,.inl (by first|trivial|rfl),?_⟩⟩
  symm;exact⟨by decide,ha⟩
 ·refine⟨by rw[List.length_map,List.length_range,sz];show 4+_<=_;omega,?_⟩
  exact h
def nv(t:Int×D×Int):D:=.tup [.int t.1,t.2.1,.int t.2.2]
def sx(n:Nat)(e:Int)(gs:List Int)(t:Int×D×Int):Prop:=
 (0<=t.1/\t.1<=2/\t.2.2=2/\∃i,t.2.1=.int i/\(i∈gs\/i<0\/e<=i))\/(t.1=3/\t.2.2=3/\∃j,t.2.1=.int j/\j<0)\/(t.1=4/\t.2.2=0/\∃p,t.2.1=fZ p/\(p.length:Int)≠n) \/
 (t.1=5/\∃(w:Str) (m:Int),t.2.1=.tup [.str w,.int m]/\bG 8 (.str w)=true/\(((m<1\/3<m)/\t.2.2=0)\/(1<=m/\m<=3/\¬Bk w/\t.2.2=1)))
def Dr(low:Int):List (Int×D×Int):=[(3,.int (-1),3),(3,.int low,3),(5,.tup [.str "streets",.int 0],0),(5,.tup [.str "squares",.int 4],0),(5,.tup [.str "way",.int low],0)]
def Ds(far:Int):List (Int×D×Int):=[(5,.tup [.str "streets",.int (4+far)],0),(5,.tup [.str "squares",.int (-1)],0)]
def y0:iE:=λxs ds Q=>dD xs/\∃(n:Nat) (e:Int) (gs:List Int),ds=[.int n,.int e,.lst (gs.map D.int)]/\1<=n/\n<=3/\gs.length<=100/\∀(bs:List (Int×D×Int)) ys,(∀t∈bs,sx n e gs t)->bs.length<=10000->dD ys->Q (.own (bs.map nv)) ys
theorem ku{n:Nat}{e:Int}{gs:List Int}{bs cs:List (Int×D×Int)}(h1:∀t∈bs,sx n e gs t)(h2:∀t∈cs,sx n e gs t):∀t∈bs++cs,sx n e gs t:=λt ht=>(List.mem_append.mp ht).elim (h1 t) (h2 t)
theorem Zr(xs ds:List D)(Q:B->List D->Prop)(h:y0 xs ds Q):Hz zc ng {nx:=qG Q (.sh .aU),rt:=λb σ=>qG Q b σ} (a8 C8.length xs ds):=by
 obtain⟨r0,n,e,gs,rfl,X9,hn3,hgl,h⟩:=h;unfold Hz;simp only[a8];refine ao λN hN=>?_;symm;refine⟨⟨_,rfl⟩,r0,rfl,λlow y1 acg r1=>?_⟩;symm;subst hN;refine ao λN hN=>?_;symm;subst hN;refine ao λN hN=>?_;symm;refine⟨by decide,?_⟩
 subst hN;refine ao λN hN=>?_;show fJ _ _ _ _ _;generalize ht:dw [0] 6 (aW cC _ _)=tb;symm;refine⟨by decide,by rw[List.length_map,sz];omega,?_⟩
 rw[show gs.map D.int++[D.int (-1),D.int low,D.int e,D.int (e+(-1-low)),D.int (e+1)]=(gs++[-1,low,e,e+(-1-low),e+1]).map D.int by rw[List.map_append];rfl]
 have hnm:∀i∈gs++[-1,low,e,e+(-1-low),e+1],i∈gs\/i<0\/e<=i:=λi hi=>by
  rcases List.mem_append.mp hi with hi|hi
  ·exact .inl hi
  ·simp only[List.mem_cons,List.not_mem_nil,or_false]at hi
   omega
 have hnl:(gs++[-1,low,e,e+(-1-low),e+1]).length<=105:=by rw[List.length_append];show _+5<=_;omega
 generalize gs++[-1,low,e,e+(-1-low),e+1]=nmL at hnm hnl;refine gU D.int nmL (λi σ=>∃(bs:List (Int×D×Int)) (x7 x8:Option B),σ=[some (.own y1),some (.sh (.int n)),some (.sh (.int e)),some (.sh (.lst (gs.map D.int))),some (.sh (.int low)),some (.sh (.int (-1-low))),some (.own (bs.map nv)),x7,x8]/\(∀t∈bs,sx n e gs t)/\bs.length<=3*i) (λi nm σ N' hx hI HZ=>?_) (λσ hI=>?_) ⟨[],_,_,rfl,nofun,by decide⟩
 ·obtain⟨bs,x7,x8,rfl,hb,VA⟩:=hI
  have hil:i<nmL.length:=(List.getElem?_eq_some_iff.mp hx).1;have hm:=hnm nm (List.mem_of_getElem? hx);walk_at "vg";subst ht;symm;refine⟨by decide,by decide,by decide,by decide,by rw[List.length_map,sz];omega,HZ _ ⟨bs++[(0,.int nm,2),(1,.int nm,2),(2,.int nm,2)],_,_,by rw[List.map_append];rfl,ku hb λt ht=>?_,by rw[List.length_append];show _+3<=_;omega⟩⟩
  simp only[List.mem_cons,List.not_mem_nil,or_false]at ht;rcases ht with rfl|rfl|rfl
  all_goals exact .inl ⟨Int.le_of_lt_add_one (by show(_:Int)<_;omega),by show(_:Int)<=_;omega,rfl,nm,rfl,hm⟩
 obtain⟨bs,x7,x8,rfl,hb,VA⟩:=hI;show N _;have aa8:bs.length<=400:=by omega
 clear VA hnm hnl ht;subst hN;refine ao λN hN=>?_;show fJ _ _ _ _ _;generalize ht:b4 _ _ _=tb;symm;refine⟨by decide,?_⟩
 refine gU (λi:Nat=>.int (0+(i:Nat))) (List.range 6) (λi σ=>∃(bs:List (Int×D×Int)) (x7 x8:Option B),σ=[some (.own y1),some (.sh (.int n)),some (.sh (.int e)),some (.sh (.lst (gs.map D.int))),some (.sh (.int low)),some (.sh (.int (-1-low))),some (.own (bs.map nv)),x7,x8]/\(∀t∈bs,sx n e gs t)/\bs.length<=400+i) (λi k σ N' hx hI HZ=>?_) (λσ hI=>?_) ⟨bs,_,_,rfl,hb,aa8⟩
 ·obtain⟨rfl,hi⟩:=jx hx
  obtain⟨bs,x7,x8,rfl,hb,VA⟩:=hI;walk_at "vg";subst ht;symm;refine⟨⟨rfl,rfl⟩,?_⟩;rw[dF]
  by_cases hkn:(k:Int)=n
  ·exact(if_neg (by rw[decide_eq_true hkn];decide)).mpr (HZ _ ⟨bs,_,_,rfl,hb,by omega⟩)
  ·refine(if_pos (decide_eq_false hkn)).mpr ⟨⟨_,rfl⟩,by decide,⟨by simp,by omega,by omega,by rw[sz];omega⟩,by decide,by rw[List.length_map,sz];omega,?_⟩
   rw[Int.toNat_natCast,yP];refine HZ _ ⟨bs++[(4,fZ (List.replicate k 7),0)],_,_,by rw[List.map_append];rfl,ku hb λt ht=>?_,by rw[List.length_append];show _+1<=_;omega⟩
   rw[List.mem_singleton.mp ht];exact .inr (.inr (.inl ⟨rfl,rfl,_,rfl,by rw[List.length_replicate];exact hkn⟩))
 obtain⟨bs,x7,x8,rfl,hb,VA⟩:=hI;show N _;rw[List.length_range]at VA;subst hN;refine ao λN hN=>?_;symm;have Zg:bG 8 (.str "way")=true:=by decide +kernel
 refine⟨by decide,by decide,by decide,by decide,by decide,by decide,by decide,by decide,by decide,by rw[List.length_map,sz];omega,?_⟩
 rw[show bs.map nv++[D.tup [D.int 3,D.int (-1),D.int 3],D.tup [D.int 3,D.int low,D.int 3],D.tup [D.int 5,D.tup [D.str "streets",D.int 0],D.int 0],D.tup [D.int 5,D.tup [D.str "squares",D.int 4],D.int 0],D.tup [D.int 5,D.tup [D.str "way",D.int low],D.int 0]]=(bs++Dr low).map nv by rw[List.map_append];rfl]
 have hb2:∀t∈bs++Dr low,sx n e gs t:=ku hb λt ht=>by
  simp only[Dr,List.mem_cons,List.not_mem_nil,or_false]at ht;rcases ht with rfl|rfl|rfl|rfl|rfl
  ·exact .inr (.inl ⟨rfl,rfl,_,rfl,by decide⟩)
  ·exact .inr (.inl ⟨rfl,rfl,_,rfl,by omega⟩)
  ·exact .inr (.inr (.inr ⟨rfl,_,_,rfl,fE,.inl ⟨by decide,rfl⟩⟩))
  ·exact .inr (.inr (.inr ⟨rfl,_,_,rfl,g9,.inl ⟨by decide,rfl⟩⟩))
  ·exact .inr (.inr (.inr ⟨rfl,_,_,rfl,Zg,.inl ⟨by omega,rfl⟩⟩))
 have rO:(bs++Dr low).length<=500:=by rw[List.length_append];show _+5<=_;omega
 generalize bs++Dr low=cs at hb2 rO;subst hN;refine ao λN hN=>?_;symm;refine⟨by decide,by decide,by decide,by decide,by decide,by rw[List.length_map,sz];omega,?_⟩
 rw[show cs.map nv++[D.tup [D.int 5,D.tup [D.str "streets",D.int (4+(-1-low))],D.int 0],D.tup [D.int 5,D.tup [D.str "squares",D.int (-1)],D.int 0]]=(cs++Ds (-1-low)).map nv by rw[List.map_append];rfl]
 have hb3:∀t∈cs++Ds (-1-low),sx n e gs t:=ku hb2 λt ht=>by
  simp only[Ds,List.mem_cons,List.not_mem_nil,or_false]at ht;rcases ht with rfl|rfl
  ·exact .inr (.inr (.inr ⟨rfl,_,_,rfl,fE,.inl ⟨by omega,rfl⟩⟩))
  ·exact .inr (.inr (.inr ⟨rfl,_,_,rfl,g9,.inl ⟨by decide,rfl⟩⟩))
 have hl3:(cs++Ds (-1-low)).length<=600:=by rw[List.length_append];show _+2<=_;omega
 generalize cs++Ds (-1-low)=us at hb3 hl3;subst hN;symm;refine⟨⟨_,rfl⟩,r1,rfl,λws y2 hws VJ hwu r2=>?_⟩;symm;refine dz D.str (λw=>nv (5,.tup [.str w,.int n],1)) ws (λw hw A ha=>?_) (by rw[sz];omega) ⟨by rw[List.length_map,List.length_map,sz];omega,?_⟩
 ·walk_at "vg"
  symm;exact⟨by decide,by decide,ha⟩
 ·rw[show us.map nv++ws.map (λw=>nv (5,.tup [.str w,.int n],1))=(us++ws.map λw=>((5:Int),D.tup [.str w,.int n],(1:Int))).map nv by rw[List.map_append,List.map_map];rfl]
  refine h _ y2 (ku hb3 λt ht=>?_) (by rw[List.length_append,List.length_map];omega) r2
  obtain⟨w,hw,rfl⟩:=List.mem_map.mp ht;exact .inr (.inr (.inr ⟨rfl,w,n,rfl,(hws w hw).1,.inr ⟨by omega,by omega,(hws w hw).2,rfl⟩⟩))
def G0:bA:=λds Q=>∃ns:List Int,ds=[.hW ns]/\ns.length<=63/\Q (.sh (.bl true))
theorem Av{xs:List D}{d:D}{Q:D->Prop}(q:Q d):JB (.lst (xs++[d])) (.int (-1)) Q:=by
 show(match L2.nY (xs++[d]) (-1)with|some d=>Q d|none=>False)
 have e:L2.nY (xs++[d]) (-1)=some d:=by
  unfold L2.nY L2.As;rw[if_neg ∅,if_pos (by rw[List.length_append,List.length_singleton];omega)]
  show(xs++[d])[(-1+((xs++[d]).length:Int)).toNat]?=_;rw[List.length_append,List.length_singleton,show(-1+((xs.length+1:Nat):Int)).toNat=xs.length by omega,List.getElem?_append_right (Nat.le_refl _),Nat.sub_self];rfl
 rw[e];exact q
theorem Ad{n:Nat}{ps:List (Int×List Int)}{e:Int}{p:List Int}(k:nW n ps)(hl:ps.length<60)(he:∀q∈ps,q.1<e)(hp:p.length=n)(hf:∀v∈p,Bh v):nW n (ps++[(e,p)]):=⟨k.n1,k.n3,λq hq=>by
 rcases List.mem_append.mp hq with hq|hq
 ·exact k.pt q hq
 ·rw[List.mem_singleton.mp hq];exact⟨hp,hf⟩,by
 rw[List.map_append,List.pairwise_append];refine⟨k.inc,List.pairwise_singleton _ _,λa ha c hc=>?_⟩;obtain⟨q,hq,rfl⟩:=List.mem_map.mp ha;rw[List.mem_singleton.mp hc];exact he q hq,by rw[List.length_append,List.length_singleton];omega⟩
theorem Ab(ps:List (Int×List Int))(i:Int):fN (cw ps) i=cw (ps.filter λq=>decide (q.1≠i)):=by
 unfold fN cw;rw[List.filter_map];rfl
theorem EE{n:Nat}{ps:List (Int×List Int)}(k:nW n ps)(i:Int):nW n (ps.filter λq=>decide (q.1≠i)):=⟨k.n1,k.n3,λq hq=>k.pt q (List.mem_filter.mp hq).1,k.inc.sublist (List.filter_sublist.map _),Nat.le_trans (List.length_filter_le _ _) k.len⟩
theorem wC{ps:List (Int×List Int)}{e:Int}{p:List Int}(he:∀q∈ps,q.1<e):dI (cw (ps++[(e,p)])) e=some (fZ p):=by
 unfold dI cw;rw[List.map_append,List.find?_append,List.find?_eq_none.mpr]
 ·rw[Option.none_or]
  show Option.map _ (List.find? _ [(e,fZ p)])=_;rw[List.find?_cons_of_pos (by simp)];rfl
 ·intro x hx
  obtain⟨q,hq,rfl⟩:=List.mem_map.mp hx;have:=he q hq;simp only[decide_eq_true_eq];omega
theorem oM:∀l:List Int,jH (l.map D.int)=true
 | []=>rfl
 | _::l=>oM l
theorem FV(p:List Int):CF (fZ p)=true:=oM p
theorem BR{ps:List (Int×List Int)}{i:Int}(h:∀q∈ps,q.1≠i):dI (cw ps) i=none:=by
 unfold dI cw;rw[List.find?_eq_none.mpr]
 ·rfl
 ·intro x hx
  obtain⟨q,hq,rfl⟩:=List.mem_map.mp hx;simp only[decide_eq_true_eq];exact h q hq
theorem Np{b:Bool}{n:Nat}{e:Int}{ps:List (Int×List Int)}{gs:List Int}{t:Int×D×Int}(h:sx n e gs t)(hp:∀q∈ps,0<=q.1/\q.1<e/\q.1∉gs):∃(c:Str) (k:Nat),t.2.2=k/\(c,k)∈[(("NoPoints":Str),0),("NoWay",1),("NoPlace",2),("NoBound",3),("NoNumber",4),("TooMany",5)]/\Bad b n e ps t.1 t.2.1 c:=by
 rcases h with⟨h0,h2,hk,i,hi,hg⟩|⟨h3,hk,j,hj,hj0⟩|⟨h4,hk,p,Fv,hl⟩|⟨h5,w,m,hw,ho,hm⟩
 ·refine⟨"NoPlace",2,hk,by decide,.inl ⟨h0,h2,rfl,i,hi,BR λq hq z=>?_⟩⟩
  have:=hp q hq;rw[z]at this;rcases hg with hg|hg|hg
  ·exact this.2.2 hg
  ·omega
  ·omega
 ·exact⟨"NoBound",3,hk,by decide,.inr (.inl ⟨h3,rfl,j,hj,hj0⟩)⟩
 ·exact⟨"NoPoints",0,hk,by decide,.inr (.inr (.inl ⟨h4,rfl,p,Fv,hl⟩))⟩
 ·rcases hm with⟨hm,hk⟩|⟨h1,h3,hw',hk⟩
  ·exact⟨"NoPoints",0,hk,by decide,.inr (.inr (.inr ⟨h5,w,m,hw,ho,.inl ⟨hm,rfl⟩⟩))⟩
  ·exact⟨"NoWay",1,hk,by decide,.inr (.inr (.inr ⟨h5,w,m,hw,ho,.inr ⟨h1,h3,hw',rfl⟩⟩))⟩
theorem kc(ks:List Int)(b:Bool)(pts:List (List Int))(j:Int):∀d∈pP ks b pts j,iW d:=λd hd=>by
 obtain⟨qs,eq,_,_⟩:=wW b pts j;rw[wU eq]at hd;obtain⟨p,hp,rfl⟩:=List.mem_map.mp hd;exact⟨[_,_],rfl⟩
theorem G2{n:Nat}{b:Bool}{ps:List (Int×List Int)}(kf:nW n ps):bG 8 (.lst (uZ b ps))=true:=by
 have Ft:(ps.map (·.1)).length=(ps.map (·.2)).length:=by rw[List.length_map,List.length_map]
 have nl:∀(j:Int),bG 7 (.lst (pP (ps.map (·.1)) b (ps.map (·.2)) j))=true:=λj=>List.all_eq_true.mpr λd hd=>ju (m:=4) (kc _ _ _ _ d hd)
 refine List.all_eq_true.mpr λd hd=>?_;rcases List.mem_append.mp hd with hd|hd
 ·simp only[List.mem_cons,List.not_mem_nil,or_false]at hd
  rcases hd with rfl|rfl|rfl|rfl
  ·exact List.all_eq_true.mpr λx hx=>by obtain⟨v,_,rfl⟩:=List.mem_map.mp hx;rfl
  ·exact ju (m:=5) (gT (by rw[Ft];exact Bf b _))
  ·exact nl 5
  ·exact nl _
 ·obtain⟨k,hk,rfl⟩:=List.mem_map.mp hd
  have hk:=List.mem_range.mp hk;show(bG 6 _&&(bG 6 _&&true))=true;rw[ju (m:=4) (show iW (fZ ((ps.map (·.2)).getD k []))from⟨_,rfl⟩),ju (m:=4) (gT (by rw[Ft];exact wV b _ k (by rw[List.length_map];exact hk)))];rfl
theorem tF{d:D}(h:iW d):CF d=true:=by
 unfold iW at h
 split at h
 ·rfl
 ·obtain⟨ns,rfl⟩:=h
  exact oM ns
 ·exact h.elim
theorem pk:∀ {ds:List D},(∀d∈ds,iW d)->jH ds=true
 | [],_=>rfl
 | d::ds,h=>by
  show(CF d&&jH ds)=true;rw[tF (h d (List.mem_cons_self ..)),pk λx hx=>h x (List.mem_cons_of_mem _ hx)];rfl
theorem wX:∀ {xs:List D},(∀d∈xs,CF d=true)->jH xs=true
 | [],_=>rfl
 | x::xs,h=>by
  show(CF x&&jH xs)=true;rw[h x (List.mem_cons_self ..),wX λy hy=>h y (List.mem_cons_of_mem _ hy)];rfl
theorem qm{n:Nat}{b:Bool}{ps:List (Int×List Int)}(kf:nW n ps):jH (uZ b ps)=true:=by
 have Ft:(ps.map (·.1)).length=(ps.map (·.2)).length:=by rw[List.length_map,List.length_map]
 refine wX λd hd=>?_;rcases List.mem_append.mp hd with hd|hd
 ·simp only[List.mem_cons,List.not_mem_nil,or_false]at hd
  rcases hd with rfl|rfl|rfl|rfl
  ·exact oM _
  ·exact tF (gT (by rw[Ft];exact Bf b _))
  ·exact pk (kc _ _ _ _)
  ·exact pk (kc _ _ _ _)
 ·obtain⟨k,hk,rfl⟩:=List.mem_map.mp hd
  have hk:=List.mem_range.mp hk;show(CF _&&(CF _&&true))=true;rw[FV,tF (gT (by rw[Ft];exact wV b _ k (by rw[List.length_map];exact hk)))];rfl
theorem ZG(ds:List D)(Q:B->Prop)(h:G0 ds Q):HC h7 uC uK zg uI mh zj y0 zh zi jm uE {nx:=λ_=>Q (.sh .aU),rt:=λb _=>Q b} (aJ Dd.length ds):=by
 obtain⟨ns,rfl,hns,h⟩:=h;unfold HC;refine ao λN hN=>?_;unfold Bb;generalize ht:bQ (dw [] 2 _) _=tb;symm;refine⟨⟨cut ns none (some 3),by rw[vK],Nat.le_trans (oC _ _ _) hns⟩,λm=>wt (λσ=>∃x1 x2 x3 x4 x5 x6 x7 x8 x9 CG CH,σ=[some (.sh (.hW ns)),x1,x2,x3,x4,x5,x6,x7,x8,x9,CG,CH]) (λi c σ N' hI HZ=>?_) (λσ hI=>?_) m 0 _ ⟨_,_,_,_,_,_,_,_,_,_,_,rfl⟩⟩
 ·obtain⟨x1,x2,x3,x4,x5,x6,x7,x8,x9,CG,CH,rfl⟩:=hI
  subst ht;have r0:dD [.int c,.int 0]:=⟨_,_,rfl⟩;unfold Tv;simp only[List.set_cons_zero,List.set_cons_succ];refine ao λN1 qE=>?_;symm;refine⟨⟨_,rfl⟩,r0,3,rfl,by decide,by decide,λa1 y1 a10 a11 r1=>?_⟩
  symm;obtain⟨n,X9,hn3,rfl⟩:∃n:Nat,1<=n/\n<=3/\a1=(n:Int)-1:=⟨(1+a1).toNat,by omega,by omega,by omega⟩
  rw[show 1+((n:Int)-1)=(n:Int)by omega]
  subst qE;refine ao λN1 qE=>?_;symm;refine⟨⟨_,rfl⟩,r1,rfl,λb y2 r2=>?_⟩;symm;refine⟨b,n,rfl,by omega,by omega,λa1 OH MO=>?_⟩
  subst qE;refine ao λN1 qE=>?_;symm;intro p6;subst qE;refine ao λN1 qE=>?_;symm;subst qE;refine ao λN1 qE=>?_;symm;refine⟨by decide,?_⟩
  subst qE;refine ao λN1 qE=>?_;show fJ _ _ _ _ _;generalize ht:b4 _ _ _=tb;symm;refine⟨⟨_,rfl⟩,r2,11,rfl,by decide,by decide,λma y3 ma0 ma1 r3=>?_⟩
  obtain⟨many,rfl⟩:∃k:Nat,ma=k:=⟨ma.toNat,by omega⟩
  symm;rw[Int.toNat_natCast,gH];have kf0:nW n []:=⟨X9,hn3,nofun,List.Pairwise.nil,by decide⟩
  refine⟨by omega,gU (λi:Nat=>.int (0+(i:Nat))) (List.range many) (λi σ=>∃y ps e gs x7 x8 x9 CG CH,σ=[some (.sh (.hW ns)),some (.own y),some (.sh (.int n)),some (.obj (iJ a1 OH MO (bu b) n e (cw ps))),some (.obj (Aa p6 (cw ps))),some (.sh (.int e)),some (.own ((gs:List Int).map D.int)),x7,x8,x9,CG,CH]/\dD y/\nW n ps/\0<=e/\(∀q∈ps,0<=q.1/\q.1<e/\q.1∉gs)/\(∀g∈gs,g<e)/\ps.length<=i/\gs.length<=i) (λi k σ N2 hx hI CA=>?_) (λσ hI=>?_) ⟨y3,[],0,[],_,_,_,_,_,rfl,r3,kf0,by decide,nofun,nofun,by decide,by decide⟩⟩
  ·obtain⟨rfl,hi⟩:=jx hx
   obtain⟨y,ps,e,gs,x7,x8,x9,CG,CH,rfl,ry,kf,he0,PX,hge,eY,hgl⟩:=hI;have tM:∀q∈ps,q.1<e:=λq hq=>(PX q hq).2.1;walk_at "vg";subst ht;show b4 _ _ _ _ _;generalize ht1:bQ (KL 4 _ _) _=t1;generalize ht2:bQ (gO (zl _ _)) _=t2;have put:∀y,dD y->t1 {nx:=N2,rt:=λb x=>Q b,bk:=N1,ct:=N2} [some (.sh (.hW ns)),some (.own y),some (.sh (.int n)),some (.obj (iJ a1 OH MO (bu b) n e (cw ps))),some (.obj (Aa p6 (cw ps))),some (.sh (.int e)),some (.own (gs.map D.int)),some (.sh (.int k)),x8,x9,CG,CH]:=by
    intro y ry;subst ht1;refine ao λN4 Pw=>?_;symm;refine⟨⟨_,rfl⟩,⟨_,rfl⟩,by decide,(λj hj=>by rw[List.mem_singleton.mp hj];decide),y,[.int n,.jt (cw ps)],rfl,ry,n,ps,rfl,kf,λp y6 hp hf r6=>?_⟩
    have PN:jH y6=true:=by obtain⟨_,_,rfl⟩:=r6;rfl
    refine⟨.inr ⟨FV p,YL PN _⟩,?_⟩;symm;refine⟨⟨_,_,rfl⟩,p6,cw ps,rfl,by rw[fX,sz];omega,?_⟩
    rw[wB tM];subst Pw;refine ao λN4 Pw=>?_;symm;refine⟨⟨_,_,_,_,_,rfl,rfl⟩,_,wC tM,by decide,(λ_ h=>h.elim),a1,OH,MO,b,n,e,n,ps,p,rfl,by rw[hp],by omega,tM,.inl trivial,?_⟩
    symm;subst Pw;symm;refine CA _ ⟨y6,ps++[(e,p)],e+1,gs,_,_,_,_,_,rfl,r6,Ad kf ⋯ tM hp hf,by omega,λq hq=>?_,λg hg=>by have:=hge g hg;omega,by rw[List.length_append,List.length_singleton];omega,by omega⟩
    rcases List.mem_append.mp hq with hq|hq
    ·have:=PX q hq
     exact⟨this.1,by omega,this.2.2⟩
    ·rw[List.mem_singleton.mp hq]
     exact⟨he0,by show e<e+1;omega,λz=>by have:=hge _ z;omega⟩
   symm
   by_cases L7:ps=[]
   ·subst L7;exact(if_pos rfl).mpr (put y ry)
   have PZ:0<ps.length:=List.length_pos_iff.mpr L7;refine(if_neg (by cases ps with|nil=>exact absurd rfl L7|cons _ _=>exactλz=>nomatch z)).mpr ?_
   refine⟨⟨_,rfl⟩,ry,3,rfl,by decide,by decide,λa3 y4 a30 a31 r4=>?_⟩
   symm
   split
   ·exact put y4 r4
   ·subst ht2
    refine ao λN4 Pw=>?_;symm;refine⟨⟨_,rfl⟩,by rw[fX];have:=kf.len;omega,⟨_,rfl⟩,r4,_,rfl,by rw[fX];omega,by rw[fX];omega,λr y5 q0 q1 r5=>?_⟩
    rw[fX]at q1;rw[oH,hZ kf.inc,<- eo];symm;obtain⟨j,rfl⟩:∃j:Nat,r=j:=⟨r.toNat,by omega⟩
    have hj:j<ps.length:=by omega
    refine bL (n:=j) rfl (by rw[List.getElem?_map,List.getElem?_eq_getElem hj];rfl) ?_
    have VE:=gZ kf.inc (List.getElem?_eq_getElem hj);have abg:=PX ps[j] (List.getElem_mem hj);refine⟨by rw[List.length_map,sz];omega,?_⟩
    subst Pw;refine ao λN4 Pw=>?_;symm;refine⟨⟨_,_,rfl⟩,Av ?_⟩;refine⟨p6,cw ps,rfl,by rw[VE];rfl,?_⟩
    subst Pw;symm;refine⟨⟨_,_,_,_,_,rfl,rfl⟩,Av ?_⟩;refine⟨by decide,(λ_ h=>nomatch h),a1,OH,MO,bu b,n,e,ps[j].1,cw ps,rfl,by rw[VE];rfl,.inl (by first|trivial|rfl),?_⟩
    symm;rw[Ab];refine CA _ ⟨y5,_,e,gs++[ps[j].1],_,_,_,_,_,by rw[List.map_append];rfl,r5,EE kf ps[j].1,he0,λq hq=>?_,λg hg=>?_,Nat.le_trans (List.length_filter_le _ _) ⋯,by rw[List.length_append,List.length_singleton];omega⟩
    ·obtain⟨hq1,Yc⟩:=List.mem_filter.mp hq
     have:=PX q hq1;refine⟨this.1,this.2.1,λz=>?_⟩;rcases List.mem_append.mp z with z|z
     ·exact this.2.2 z
     ·exact absurd (List.mem_singleton.mp z) (by simpa using Yc)
    ·rcases List.mem_append.mp hg with hg|hg
     ·exact hge g hg
     ·rw[List.mem_singleton.mp hg];exact abg.2.1
  ·obtain⟨y,ps,e,gs,x7,x8,x9,CG,CH,rfl,ry,kf,he0,PX,hge,eY,hgl⟩:=hI
   rw[List.length_range]at eY hgl;show N1 _;subst qE;refine ao λN1 qE=>?_;symm;refine⟨⟨_,rfl⟩,List.nodup_nil,λ_ _=>trivial,[.kp (bu b) n e (cw ps)],rfl,b,n,e,n,ps,rfl,kf,.inr ⟨qm kf,rfl⟩,?_⟩;symm;have Mg:=G2 (b:=b) kf;have eqS:=kB 8 _ Mg;subst qE;refine ao λN1 qE=>?_;show fJ _ _ _ _ _;clear ht;generalize ht:b4 _ _ _=tb;symm;refine⟨⟨_,rfl⟩,ry,n,e,gs,rfl,X9,hn3,by omega,λbs y4 hbs VA r4=>?_⟩
   symm;refine gU nv bs (λi σ=>∃x7 x9 CG CH,σ=[some (.sh (.hW ns)),some (.own y4),some (.sh (.int n)),some (.obj (iJ a1 OH MO (bu b) n e (cw ps))),some (.obj (Aa p6 (cw ps))),some (.sh (.int e)),some (.sh (.lst (gs.map D.int))),x7,some (.own (uZ b ps)),x9,CG,CH]) (λi t σ N2 hx hI CA=>?_) (λσ hI=>?_) ⟨_,_,_,_,rfl⟩
   ·obtain⟨x7,x9,CG,CH,rfl⟩:=hI
    obtain⟨c,k,hk,hck,aa7⟩:=Np (b:=b) (hbs t (List.mem_of_getElem? hx)) PX;unfold nv;rw[hk];walk_at "vg";subst ht;symm;refine⟨⟨_,rfl⟩,List.nodup_nil,λ_ _=>trivial,[.int t.1,.kp (bu b) n e (cw ps),t.2.1],rfl,b,n,e,ps,t.1,t.2.1,c,rfl,kf.ok,aa7,.inr ⟨rfl,rfl⟩,?_⟩;symm;refine⟨by decide,Ep k (λi A ha=>?_) ?_⟩
    ·walk_at "vg"
     symm;refine⟨⟨rfl,rfl⟩,?_⟩;rw[Jf];exact ha
    rw[<- BA hck];refine⟨⟨pj c,pj c⟩,?_⟩;rw[kB 8 _ (pj c)];refine(if_neg ∅).mpr ?_
    refine⟨⟨_,rfl⟩,List.nodup_nil,λ_ _=>trivial,[.kp (bu b) n e (cw ps)],rfl,b,n,e,n,ps,rfl,kf,.inr ⟨qm kf,rfl⟩,?_⟩;symm;refine⟨⟨Mg,Mg⟩,?_⟩;rw[eqS];exact(if_neg ∅).mpr (CA _ ⟨_,_,_,_,rfl⟩)
   ·obtain⟨x7,x9,CG,CH,rfl⟩:=hI
    show N1 _;subst qE;refine ao λN1 qE=>?_;symm;have tM:∀q∈ps,q.1<e:=λq hq=>(PX q hq).2.1;refine bL (n:=0) rfl rfl ⟨by rw[fX];have:=kf.len;omega,?_⟩
    rw[oH,hZ kf.inc];refine⟨⟨pF _,pF _⟩,?_⟩;rw[show fS (.lst ((ps.map (·.1)).map D.int)) (.lst ((ps.map (·.1)).map D.int))=true from mK _]
    refine(if_neg ∅).mpr ?_
    rw[Int.toNat_natCast,yP];have h9l:(List.replicate n (9:Int)).length=n:=List.length_replicate ..;have h9f:∀v∈List.replicate n (9:Int),Bh v:=λv hv=>by rw[(List.mem_replicate.mp hv).2];unfold Bh;omega
    generalize hp9:List.replicate n (9:Int)=p9 at h9l h9f;refine⟨⟨_,_,_,_,_,rfl,rfl⟩,by decide,⟨by simp,by omega,by omega,by rw[sz];omega⟩,by decide,(λ_ h=>nomatch h),a1,OH,MO,b,n,e,n,ps,p9,rfl,by rw[h9l],by omega,tM,.inl (by first|trivial|rfl),?_⟩
    symm;refine⟨⟨rfl,rfl⟩,?_⟩;rw[dF,decide_eq_true rfl];refine(if_neg ∅).mpr ?_
    have kf2:=Ad kf ⋯ tM h9l h9f
    have VF:((ps++[(e,p9)]).map (·.1))[ps.length]?=some e:=by
     rw[List.map_append,List.getElem?_append_right (by rw[List.length_map];omega),List.length_map,Nat.sub_self];rfl
    have X2:=wC (p:=p9) tM;subst qE;refine ao λN1 qE=>?_;symm;refine⟨by decide,iV D.int (λ_=>none) [1,2] (λi hi A Bn ha=>?_) ∅ ?_⟩
    ·walk_at "vg"
     symm;refine⟨b,n,e+1,n,_,ps.length,e,i,rfl,kf2.ok,VF,?_,?_⟩
     ·simp only[List.mem_cons,List.not_mem_nil,or_false]at hi
      exact hi
     symm;exact⟨by decide,⟨rfl,rfl⟩,(if_neg ∅).mpr ha⟩
    refine⟨rfl,by decide,⟨rfl,rfl⟩,(if_neg ∅).mpr ?_⟩
    subst qE;refine ao λN1 qE=>?_;symm;refine⟨⟨_,_,_,_,_,rfl,rfl⟩,List.nodup_nil,λ_ _=>trivial,[.kp (bu b) n (e+1) (cw (ps++[(e,p9)])),.int e],rfl,bu b,n,e+1,_,e,_,rfl,X2,.inr ⟨FV p9,rfl⟩,?_⟩;symm;rw[Int.toNat_natCast,yP,hp9];have fp:iW (fZ p9):=⟨_,rfl⟩;refine⟨by decide,⟨by simp,by omega,by omega,by rw[sz];omega⟩,⟨ju (m:=6) fp,ju (m:=6) fp⟩,?_⟩
    rw[show D.tup (p9.map D.int)=fZ p9 from rfl,Jh fp]
    refine(if_neg ∅).mpr ?_
    have XX:fN (cw (ps++[(e,p9)])) e=cw ps:=by
     rw[Ab,List.filter_append,show List.filter (λq:Int×List Int=>decide (q.1≠e)) ps=ps from List.filter_eq_self.mpr λq hq=>decide_eq_true (by have:=tM q hq;omega)]
     rw[show List.filter (λq:Int×List Int=>decide (q.1≠e)) [(e,p9)]=[]by simp,List.append_nil]
    subst qE;symm;refine⟨⟨_,rfl⟩,by decide,(λ_ h=>nomatch h),a1,OH,MO,bu b,n,e+1,e,_,rfl,by rw[X2];rfl,.inl (by first|trivial|rfl),?_⟩
    rw[XX];symm;refine⟨by decide,⟨rfl,rfl⟩,(if_neg ∅).mpr ?_⟩
    refine⟨⟨_,rfl⟩,List.nodup_nil,λ_ _=>trivial,[.kp (bu b) n (e+1) (cw ps)],rfl,b,n,e+1,n,ps,rfl,kf,.inr ⟨qm kf,rfl⟩,?_⟩;symm;refine⟨⟨Mg,Mg⟩,?_⟩;rw[eqS];exact(if_neg ∅).mpr (HZ _ ⟨_,_,_,_,_,_,_,_,_,_,_,rfl⟩)
 ·obtain⟨x1,x2,x3,x4,x5,x6,x7,x8,x9,CG,CH,rfl⟩:=hI
  subst hN;symm;exact h
end
def A6(K:PySem.W.Frag):Sp:=λvs H Q _=>∃(a:Addr) (ns:List Int),vs=[.ref a]/\jr K H a (ns.map V.int)/\ns.length<=63/\∀H',Q (.bl true) H'
-- level 6
section
variable [KF]{G:GE}{k:Nat}
local macro_rules|`(tactic| walk_at "8")=>`(tactic| (intro xs ds Q h;first|(obtain⟨e,_⟩:=h;rw[e];rfl) | (obtain⟨_,e,_⟩:=h;rw[e];rfl) | (obtain⟨_,_,e,_⟩:=h;rw[e];rfl) | (obtain⟨_,_,_,e,_⟩:=h;rw[e];rfl) | (obtain⟨_,_,_,_,e,_⟩:=h;rw[e];rfl) | (obtain⟨_,_,_,_,_,e,_⟩:=h;rw[e];rfl) | (obtain⟨_,_,_,_,_,_,e,_⟩:=h;rw[e];rfl) | (obtain⟨_,_,_,_,_,_,_,e,_⟩:=h;rw[e];rfl) | (obtain⟨_,_,_,_,_,_,_,_,e,_⟩:=h;rw[e];rfl) | (obtain⟨_,_,_,_,_,_,_,_,_,e,_⟩:=h;rw[e];rfl) | (obtain⟨_,_,_,_,_,_,_,_,_,_,e,_⟩:=h;rw[e];rfl)))
local macro_rules|`(tactic| walk_at "7")=>`(tactic| (intro ds Q h;first|(obtain⟨e,_⟩:=h;rw[e];rfl) | (obtain⟨_,e,_⟩:=h;rw[e];rfl) | (obtain⟨_,_,e,_⟩:=h;rw[e];rfl) | (obtain⟨_,_,_,e,_⟩:=h;rw[e];rfl) | (obtain⟨_,_,_,_,e,_⟩:=h;rw[e];rfl) | (obtain⟨_,_,_,_,_,e,_⟩:=h;rw[e];rfl) | (obtain⟨_,_,_,_,_,_,e,_⟩:=h;rw[e];rfl) | (obtain⟨_,_,_,_,_,_,_,e,_⟩:=h;rw[e];rfl) | (obtain⟨_,_,_,_,_,_,_,_,e,_⟩:=h;rw[e];rfl) | (obtain⟨_,_,_,_,_,_,_,_,_,e,_⟩:=h;rw[e];rfl) | (obtain⟨_,_,_,_,_,_,_,_,_,_,e,_⟩:=h;rw[e];rfl)))
theorem Sb(hK:G.K=KF.K)(hT:KF.tabs=[])(E:Gl G)
    {vY:Addr} {O4:FuncData} (zX:dy G "need_count" jh ["count"] vY O4)
    {Eu:Addr} {Xw:FuncData} (IV:dy G "need_as_many_numbers" pY ["point","count"] Eu Xw)
    {vU:Addr} {OY:FuncData} (D4:dy G "need_points" lh ["points"] vU OY)
    {we:Addr} {Pk:FuncData} (z9:dy G "need_way" jl ["way"] we Pk)
    {Ew:Addr} {Xx:FuncData} (N0:dy G "need_points_and_way" uh ["points","way"] Ew Xx)
    {vZ:Addr} {O5:FuncData} (D7:dy G "need_place" lu ["points","place"] vZ O5)
    {vX:Addr} {O3:FuncData} (zW:dy G "need_bound" jg ["bound"] vX O3)
    {EA:Addr} {XF:FuncData} (N8:dy G "far_between" ur ["way","point","other"] EA XF)
    {Ex:Addr} {Xz:FuncData} (N5:dy G "pairs_by_places" um ["points","way"] Ex Xz)
    {vV:Addr} {O1:FuncData} (zV:dy G "near_pairs" jf ["points","way","bound"] vV O1)
    {Ey:Addr} {XC:FuncData} (N6:dy G "nearest_among" uo ["points","way","point","places"] Ey XC)
    {Ez:Addr} {XD:FuncData} (N7:dy G "nearest_other" uq ["points","way","place"] Ez XD)
    {vT:Addr} {OX:FuncData} (D3:dy G "nearest_two" lg ["points","way"] vT OX)
    {vW:Addr} {O2:FuncData} (D6:dy G "nearest_of" lq ["points","way","place"] vW O2)
    {Bx:Addr} {XB:FuncData} (IX:Vo G "__init__" "Kept.__init__" p0 ["self","way","count"] Bx XB)
    {rH:Addr} {Pb:FuncData} (z0:oA G "put" "Kept.put" jk ["self","point"] rH Pb)
    {rG:Addr} {O7:FuncData} (zZ:oA G "take" "Kept.take" jj ["self","name"] rG O7)
    {rD:Addr} {OZ:FuncData} (D5:oA G "names" "Kept.names" lj ["self"] rD OZ)
    {rE:Addr} {O0:FuncData} (zU:oA G "point" "Kept.point" je ["self","name"] rE O0)
    {rJ:Addr} {Pg:FuncData} (Eb:oA G "two" "Kept.two" lE ["self"] rJ Pg)
    {Bz:Addr} {XE:FuncData} (IY:oA G "nearest" "Kept.nearest" p8 ["self","name"] Bz XE)
    {rF:Addr} {O6:FuncData} (zY:oA G "near" "Kept.near" ji ["self","bound"] rF O6)
    {Bw:Addr} {XA:FuncData} (IW:oA G "need_name" "Kept.need_name" pZ ["self","name"] Bw XA)
    {Bv:Addr} {Xy:FuncData} (N3:oA G "plain_points" "Kept.plain_points" uk ["self"] Bv Xy)
    {wc:Addr} {Ph:FuncData} (Ec:dy G "_law_next" lH ["pot","many"] wc Ph)
    {wd:Addr} {Pj:FuncData} (Ee:dy G "_law_pots" lJ ["script"] wd Pj)
    {wk:Addr} {Pn:FuncData} (Eh:dy G "_law_way" lM ["pot"] wk Pn)
    {v7:Addr} {O8:FuncData} (D8:dy G "_law_flags" lx ["e"] v7 O8)
    {vR:Addr} {OU:FuncData} (D2:dy G "_law_no_ways" k9 ["pot"] vR OU)
    {wj:Addr} {Pm:FuncData} (Eg:dy G "_law_low" lL ["pot"] wj Pm)
    {v8:Addr} {O9:FuncData} (D9:dy G "_law_point" ly ["pot","count","own"] v8 O9)
    {vS:Addr} {OW:FuncData} (vM:dy G "_law_refused" gI ["door","kept","thing"] vS OW)
    {v9:Addr} {Pa:FuncData} (Ea:dy G "_law_stood" lA ["kept"] v9 Pa)
    {wg:Addr} {Pl:FuncData} (Ef:dy G "_law_bad" lK ["pot","count","coming","gone"] wg Pl)
    {rK:Addr} {EF:FuncData} (Ei:dy G "law" iw ["script"] rK EF)
   :bW G.P G.w G.K G.mg G.base iL 7 rK EF ["script"] (A6 G.K):=by
  have Fd:iO G 1 "_law_pots":=Ee.yH (k:=0) hK Ue rfl rfl (Xp E);have cn:fj G 1 "_law_next" h7:=Ec.Vw (k:=0) hK Ud (Xo E) ∅ (by walk_at "8") Sy
  have rL:eX G 1 "need_count" jC:=zX.fg (k:=0) hK GR (Xf E) (by walk_at "7") Gb
  have rN:eX G 1 "need_way" oQ:=z9.fg (k:=0) hK GX (Xq E) (by walk_at "7") SA
  have Px:xX G 3 uC:=IX.fi (k:=1) hK Mu (aaY E (rL.mono ∅) (rN.mono ∅)) (by walk_at "7") Sv
  have Fg:fj G 2 "_law_way" uK:=Eh.Vw (k:=1) hK Ui (Xt E (cn.mono ∅)) ∅ (by walk_at "8") SD
  have Fb:fj G 2 "_law_point" zg:=D9.Vw (k:=1) hK Ua (Xk E (cn.mono ∅)) ∅ (by walk_at "8") Zw
  have BE:eX G 1 "need_as_many_numbers" uF:=IV.fg (k:=0) hK Ms (aaT E) (by walk_at "7") ZA
  have Aj:cv G 2 "put" uI:=z0.fmu (k:=1) (ios:=[0]) hK GW (Xm E (BE.mono ∅)) (by walk_at "7") JF ∅ ZF
  have tI:cv G 1 "need_name" (d6 xD):=IW.fg (k:=0) hK Mt (aaX E) (by walk_at "7") abR
  have rM:cv G 2 "take" mh:=zZ.fmu (k:=1) (ios:=[0]) hK GV (Xi E (tI.mono ∅)) (by walk_at "7") JE ∅ SE
  have dH:cv G 1 "names" (d6 dQ):=D5.fg (k:=0) hK T6 (Xa E) (by walk_at "7") J5
  have E5:eX G 2 "need_points" uH:=D4.fg (k:=1) hK T5 (W9 E (rL.mono ∅) (BE.mono ∅)) (by walk_at "7") Sz
  have om:eX G 3 "need_points_and_way" kl:=N0.fg (k:=2) hK aad (aaU E (E5.mono ∅) (rN.mono ∅)) (by walk_at "7") ZD
  have BH:eX G 1 "far_between" qf:=N8.fg (k:=0) hK aai (aa2 E) (by walk_at "7") Zt
  have BF:eX G 2 "pairs_by_places" lU:=N5.fg (k:=1) hK aaf (aaW E (BH.mono ∅)) (by walk_at "7") J7
  have E4:eX G 4 "nearest_two" zk:=D3.fg (k:=3) hK T4 (W8 E (om.mono ∅) (BF.mono ∅)) (by walk_at "7") ZI
  have oo:cv G 2 "plain_points" (d6 km):=N3.fg (k:=1) hK aae (aaV E (dH.mono ∅)) (by walk_at "7") ZE
  have Fc:cv G 5 "two" (d6 uD):=Eb.fg (k:=4) hK Uc (Xn E (E4.mono ∅) (oo.mono ∅) (dH.mono ∅)) (by walk_at "7") Sw
  have E8:eX G 1 "need_bound" nc:=zW.fg (k:=0) hK GQ (Xe E) (by walk_at "7") Ga
  have E6:eX G 4 "near_pairs" uG:=zV.fg (k:=3) hK GP (Xc E (om.mono ∅) (E8.mono ∅) (BF.mono ∅)) (by walk_at "7") Sx
  have Ai:cv G 5 "near" (d6 zb):=zY.fg (k:=4) hK GU (Xh E (dH.mono ∅) (E6.mono ∅) (oo.mono ∅)) (by walk_at "7") Zu
  have kJ:cv G 2 "point" (d6 jm):=zU.fg (k:=1) hK GO (Xb E (tI.mono ∅)) (by walk_at "7") J8
  have E9:eX G 1 "need_place" nh:=D7.fg (k:=0) hK T8 (Xg E) (by walk_at "7") Ge
  have Py:eX G 2 "nearest_among" qe:=N6.fg (k:=1) hK aag (aaZ E (BH.mono ∅)) (by walk_at "7") JZ
  have Pz:eX G 3 "nearest_other" gL:=N7.fg (k:=2) hK aah (aa0 E (Py.mono ∅)) (by walk_at "7") J6
  have E7:eX G 4 "nearest_of" gL:=D6.fg (k:=3) hK T7 (Xd E (om.mono ∅) (E9.mono ∅) (Pz.mono ∅)) (by walk_at "7") ZC
  have BG:cv G 5 "nearest" (d6 lQ):=IY.fg (k:=4) hK Mv (aa1 E (tI.mono ∅) (dH.mono ∅) (E7.mono ∅) (oo.mono ∅)) (by walk_at "7") J4
  have wy:eX G 6 "_law_stood" zj:=Ea.fg (k:=5) hK Ub (Xl E (dH.mono ∅) (Fc.mono ∅) (Ai.mono ∅) (kJ.mono ∅) (BG.mono ∅)) (by walk_at "7") ZH
  have Ff:fj G 2 "_law_low" zc:=Eg.Vw (k:=1) hK Uh (Xs E (cn.mono ∅)) ∅ (by walk_at "8") Zv
  have E2:fj G 2 "_law_no_ways" ng:=D2.Vw (k:=1) hK T1 (W6 E (cn.mono ∅)) ∅ (by walk_at "8") Gd
  have Fe:fj G 3 "_law_bad" y0:=Ef.Vw (k:=2) hK Ug (Xr E (Ff.mono ∅) (E2.mono ∅)) ∅ (by walk_at "8") Zr
  have aX:gQ G 1 "need_name" cK:=IW.fx (k:=0) (t:=λex=>cJ ex) hK Mt (λEd=>j4 E _) (by walk_at "7") ab7
  have fV:gQ G 2 "take" cK:=zZ.fx (k:=1) (t:=λex=>eF ex cK) hK GV (λEd=>qD E _ (aX.mono ∅)) (by walk_at "7") Vk
  have fu:gQ G 2 "point" cK:=zU.fx (k:=1) (t:=λex=>dX ex cK) hK GO (λEd=>o9 E _ (aX.mono ∅)) (by walk_at "7") x_point
  have d9:gQ G 2 "nearest" cK:=IY.fx (k:=1) (t:=λex=>c9 ex cK) hK Mv (λEd=>mJ E _ (aX.mono ∅)) (by walk_at "7") Vi
  have fw:xY G 1 "need_bound" xM:=zW.fx (k:=0) (t:=λex=>dZ ex) hK GQ (λEd=>pe E _) (λds Q E' h=>by first | (unfold xM at h;split at h<;>first|rfl|exact h.elim) | (obtain⟨e,_⟩:=h;rw[e];rfl) | (obtain⟨_,e,_⟩:=h;rw[e];rfl) | (obtain⟨_,_,e,_⟩:=h;rw[e];rfl) | (obtain⟨_,_,_,e,_⟩:=h;rw[e];rfl) | (obtain⟨_,_,_,_,e,_⟩:=h;rw[e];rfl) | (obtain⟨_,_,_,_,_,e,_⟩:=h;rw[e];rfl)) Cv
  have fv:xY G 4 "near_pairs" xO:=zV.fx (k:=3) (t:=λex=>dY ex kl xM) hK GP (λEd=>pd E _ (om.mono ∅) (fw.mono ∅)) (λds Q E' h=>by first | (unfold xO at h;split at h<;>first|rfl|exact h.elim) | (obtain⟨e,_⟩:=h;rw[e];rfl) | (obtain⟨_,e,_⟩:=h;rw[e];rfl) | (obtain⟨_,_,e,_⟩:=h;rw[e];rfl) | (obtain⟨_,_,_,e,_⟩:=h;rw[e];rfl) | (obtain⟨_,_,_,_,e,_⟩:=h;rw[e];rfl) | (obtain⟨_,_,_,_,_,e,_⟩:=h;rw[e];rfl)) K3
  have fU:gQ G 5 "near" HJ:=zY.fx (k:=4) (t:=λex=>eE ex dQ xO km) hK GU (λEd=>qC E _ (dH.mono ∅) (fv.mono ∅) (oo.mono ∅)) (by walk_at "7") HK
  have cc:xY G 1 "need_as_many_numbers" lR:=IV.fx (k:=0) (t:=λex=>bO ex) hK Ms (λEd=>fR E _) (λds Q E' h=>by first | (unfold lR at h;split at h<;>first|rfl|exact h.elim) | (obtain⟨e,_⟩:=h;rw[e];rfl) | (obtain⟨_,e,_⟩:=h;rw[e];rfl) | (obtain⟨_,_,e,_⟩:=h;rw[e];rfl) | (obtain⟨_,_,_,e,_⟩:=h;rw[e];rfl) | (obtain⟨_,_,_,_,e,_⟩:=h;rw[e];rfl) | (obtain⟨_,_,_,_,_,e,_⟩:=h;rw[e];rfl)) aaH
  have gX:gQ G 2 "put" uJ:=z0.fx (k:=1) (t:=λex=>e9 ex lR) hK GW (λEd=>tm E _ (cc.mono ∅)) (by walk_at "7") aaI
  have fy:xY G 1 "need_count" xN:=zX.fx (k:=0) (t:=λex=>d2 ex) hK GR (λEd=>pf E _) (λds Q E' h=>by first | (unfold xN at h;split at h<;>first|rfl|exact h.elim) | (obtain⟨e,_⟩:=h;rw[e];rfl) | (obtain⟨_,e,_⟩:=h;rw[e];rfl) | (obtain⟨_,_,e,_⟩:=h;rw[e];rfl) | (obtain⟨_,_,_,e,_⟩:=h;rw[e];rfl) | (obtain⟨_,_,_,_,e,_⟩:=h;rw[e];rfl) | (obtain⟨_,_,_,_,_,e,_⟩:=h;rw[e];rfl)) Cw
  have gY:xY G 1 "need_way" xP:=z9.fx (k:=0) (t:=λex=>fb ex) hK GX (λEd=>tu E _) (λds Q E' h=>by first | (unfold xP at h;split at h<;>first|rfl|exact h.elim) | (obtain⟨e,_⟩:=h;rw[e];rfl) | (obtain⟨_,e,_⟩:=h;rw[e];rfl) | (obtain⟨_,_,e,_⟩:=h;rw[e];rfl) | (obtain⟨_,_,_,e,_⟩:=h;rw[e];rfl) | (obtain⟨_,_,_,_,e,_⟩:=h;rw[e];rfl) | (obtain⟨_,_,_,_,_,e,_⟩:=h;rw[e];rfl)) K4
  have dG:oY G 3 HI:=IX.fx (k:=1) (t:=λex=>cO ex xN xP) hK Mu (λEd=>kA E _ (fy.mono ∅) (gY.mono ∅)) (by walk_at "7") K2
  have kK:Iq G 1 "_law_flags" fH:=D8.fh (k:=0) hK T9 (Xj E) (by walk_at "7") J0
  have E3:eX G 6 "_law_refused" zh:=vM.fg (k:=5) hK yU (W7 E (fV.mono ∅) (fu.mono ∅) (d9.mono ∅) (fU.mono ∅) (gX.mono ∅) (dG.mono ∅) (kK.mono ∅)) (by walk_at "7") Zx
  have eM:eX G 6 "_law_refused" zi:=vM.fg (k:=5) hK yU (og E (kJ.mono ∅) (BG.mono ∅) (kK.mono ∅)) (by walk_at "7") Zy
  have eN:sC G 3 "_law_refused" uE:=vM.fmu (k:=2) (ios:=[1]) hK yU (oh E (rM.mono ∅) (kK.mono ∅)) (by walk_at "7") kN ∅ Zz
  refine(EJ (k:=6) (sp:=G0) hK Ei.F Uj (Xu E (Fd.mono ∅) (cn.mono ∅) (Px.mono ∅) (Fg.mono ∅) (Fb.mono ∅) (Aj.mono ∅) (rM.mono ∅) (wy.mono ∅) (Fe.mono ∅) (E3.mono ∅) (eM.mono ∅) (kJ.mono ∅) (eN.mono ∅)) (by walk_at "7") ZG).imp λvs H Q E' h=>?_
  obtain⟨a,ns,rfl,hS,hl,q⟩:=h;refine⟨H,[.hW ns],λb=>b=.sh (.bl true),⟨au.refl _,λq hq=>by rw[hT]at hq;cases hq⟩,.cons (.hW (by rw[<- hK];exact hS)) .nil,⟨ns,rfl,hl,rfl⟩,λv H' F' b _ _ _ _ r e=>?_⟩
  subst e;have r:Rep F' v (.bl true):=r;cases r;exact q H'
end
open PySem.W in
theorem all_mk{l:OpenLaw}{w:World}{K:Frag}{h:Heap}{mg:Str->Option Value}{fa:Addr}(X:K.In h)(Gs:h.Ns mainGlobals mg)(hfa:mg "law"=some (.ref fa))
  {bf:Addr}
 {vY Eu vU we Ew vZ vX EA Ex vV Ey Ez vT vW Bx rH rG rD rE rJ Bz rF Bw Bv wc wd wk v7 vR wj v8 vS v9 wg rK:Addr}
 {RK M0 Y4 Wi RD MT RX Ng Y5 Wj RL M3 RJ MZ Zd Ws Y7 Wl RG MX Za Wo Zb Wq RC MS RH MY Y9 Wn RT M9 RN M5 RE MU RF MV RU Nb Zc Wr RM M4 Y8 Wm Y6 Wk RV Nc RW Nf R8 Nj RO M6 RA MP RZ Ni RP M7 RB MR RQ M8 RY Nh R9 Dk:Option Addr}
 {Uw aaj Uq UI aak Ux Uv aas aam Ut aap aaq Up Uu aao UD Uz Ur Us UE aar Uy aan aal UG UH UL UA Um UK UB Uo UC UJ UM:Array (Option Value)}
 {Rg Qu Om Ta DK NF YS Ym WU ZN LI WC Q8 Qo Oe S4 DE Ny Rv QF OB Tq DW NV YT Yn WV ZO LJ WD Rh Qv Oo Tb DL NI Rf Qt Ol S9 DJ ND Y3 Yv W4 ZW LV WQ YW Yp WX ZQ LL WH Rb Qr Oi S7 DH NB YZ Ys W0 ZT LQ WM Y0 Yt W2 ZU LR WN Q7 Qn Od S3 DC Nx Rc Qs Oj S8 DI NC YY Yr WZ ZS LO WL Rq QB Ox Ti DS NR Rl Qx Ot Td DN NM Q9 Qp Og S5 DF Nz Ra Qq Oh S6 DG NA Rr QC Oy Tj DT NS Y2 Yu W3 ZV LU WO Rj Qw Oq Tc DM NK YX Yq WY ZR LN WK YV Yo WW ZP LK WG Rt QD Oz Tn DU NT Ru QE OA Tp DV NU Ry QI OG Tt DZ NY Rm Qy Ou Te DP NN Q5 Ql Ob SY DA Nu Rx QH OD Ts DY NX Rn Qz Ov Tf DQ NP Q6 Qm Oc S2 DB Nv Rp QA Ow Tg DR NQ Rw QG OC Tr DX NW Rz FD Ek Gp yi D1:Value}
  {aR:Addr}
  {cA:Addr}
  {eW:Addr}
  {cX:Addr}
  {cV:Addr}
  {cz:Addr}
  {cZ:Addr}
  {cW:Addr}
  {dB:Addr}
  {dA:Addr}
  {cY:Addr}
  {zq:Tok}
  {zr:Tok}
  (g_Kept:nsIn K mainGlobals "Kept"=some (some (.ref bf))) (pg_Kept:plainGet K bf Str.empty=true) (hd_Kept:hasDictIn K bf=true) (po_Kept:plainOver K bf=true) (sa_Kept:findIn K (.ref bf) "__setattr__"=some (some (.builtin "object.__setattr__")))
  (n1_Kept:findIn K (.ref bf) "way"=some none) (n2_Kept:findIn K (.ref bf) "count"=some none) (n3_Kept:findIn K (.ref bf) "points_by_name"=some none) (n4_Kept:findIn K (.ref bf) "ever_put"=some none)
  (mk_Kept:makesIn K bf=true) (kp_Kept:keepIn K (.ref bf)=true)
  (a_q19:nsIn K mainGlobals "need_count"=some (some (.ref vY)))
  (l_q19:K.lookup vY=some ⟨Rg,RK,.func (fnOf "need_count" "need_count" (aP jh) (ak jh) (ae jh) .none Qu Om Ta M0 DK NF),Uw⟩)
  (c_q19:codeIn K DK "need_count"=true) (k_q19:keepIn K (.ref vY)=true)
  (a_q0:nsIn K mainGlobals "need_as_many_numbers"=some (some (.ref Eu)))
  (l_q0:K.lookup Eu=some ⟨YS,Y4,.func (fnOf "need_as_many_numbers" "need_as_many_numbers" (aP pY) (ak pY) (ae pY) .none Ym WU ZN Wi LI WC),aaj⟩)
  (c_q0:codeIn K LI "need_as_many_numbers"=true) (k_q0:keepIn K (.ref Eu)=true)
  (a_q13:nsIn K mainGlobals "need_points"=some (some (.ref vU)))
  (l_q13:K.lookup vU=some ⟨Q8,RD,.func (fnOf "need_points" "need_points" (aP lh) (ak lh) (ae lh) .none Qo Oe S4 MT DE Ny),Uq⟩)
  (c_q13:codeIn K DE "need_points"=true) (k_q13:keepIn K (.ref vU)=true)
  (a_q30:nsIn K mainGlobals "need_way"=some (some (.ref we)))
  (l_q30:K.lookup we=some ⟨Rv,RX,.func (fnOf "need_way" "need_way" (aP jl) (ak jl) (ae jl) .none QF OB Tq Ng DW NV),UI⟩)
  (c_q30:codeIn K DW "need_way"=true) (k_q30:keepIn K (.ref we)=true)
  (a_q1:nsIn K mainGlobals "need_points_and_way"=some (some (.ref Ew)))
  (l_q1:K.lookup Ew=some ⟨YT,Y5,.func (fnOf "need_points_and_way" "need_points_and_way" (aP uh) (ak uh) (ae uh) .none Yn WV ZO Wj LJ WD),aak⟩)
  (c_q1:codeIn K LJ "need_points_and_way"=true) (k_q1:keepIn K (.ref Ew)=true)
  (a_q20:nsIn K mainGlobals "need_place"=some (some (.ref vZ)))
  (l_q20:K.lookup vZ=some ⟨Rh,RL,.func (fnOf "need_place" "need_place" (aP lu) (ak lu) (ae lu) .none Qv Oo Tb M3 DL NI),Ux⟩)
  (c_q20:codeIn K DL "need_place"=true) (k_q20:keepIn K (.ref vZ)=true)
  (a_q18:nsIn K mainGlobals "need_bound"=some (some (.ref vX)))
  (l_q18:K.lookup vX=some ⟨Rf,RJ,.func (fnOf "need_bound" "need_bound" (aP jg) (ak jg) (ae jg) .none Qt Ol S9 MZ DJ ND),Uv⟩)
  (c_q18:codeIn K DJ "need_bound"=true) (k_q18:keepIn K (.ref vX)=true)
  (a_q9:nsIn K mainGlobals "far_between"=some (some (.ref EA)))
  (l_q9:K.lookup EA=some ⟨Y3,Zd,.func (fnOf "far_between" "far_between" (aP ur) (ak ur) (ae ur) .none Yv W4 ZW Ws LV WQ),aas⟩)
  (c_q9:codeIn K LV "far_between"=true) (k_q9:keepIn K (.ref EA)=true)
  (a_q3:nsIn K mainGlobals "pairs_by_places"=some (some (.ref Ex)))
  (l_q3:K.lookup Ex=some ⟨YW,Y7,.func (fnOf "pairs_by_places" "pairs_by_places" (aP um) (ak um) (ae um) .none Yp WX ZQ Wl LL WH),aam⟩)
  (c_q3:codeIn K LL "pairs_by_places"=true) (k_q3:keepIn K (.ref Ex)=true)
  (a_q16:nsIn K mainGlobals "near_pairs"=some (some (.ref vV)))
  (l_q16:K.lookup vV=some ⟨Rb,RG,.func (fnOf "near_pairs" "near_pairs" (aP jf) (ak jf) (ae jf) .none Qr Oi S7 MX DH NB),Ut⟩)
  (c_q16:codeIn K DH "near_pairs"=true) (k_q16:keepIn K (.ref vV)=true)
  (a_q6:nsIn K mainGlobals "nearest_among"=some (some (.ref Ey)))
  (l_q6:K.lookup Ey=some ⟨YZ,Za,.func (fnOf "nearest_among" "nearest_among" (aP uo) (ak uo) (ae uo) .none Ys W0 ZT Wo LQ WM),aap⟩)
  (c_q6:codeIn K LQ "nearest_among"=true) (k_q6:keepIn K (.ref Ey)=true)
  (a_q7:nsIn K mainGlobals "nearest_other"=some (some (.ref Ez)))
  (l_q7:K.lookup Ez=some ⟨Y0,Zb,.func (fnOf "nearest_other" "nearest_other" (aP uq) (ak uq) (ae uq) .none Yt W2 ZU Wq LR WN),aaq⟩)
  (c_q7:codeIn K LR "nearest_other"=true) (k_q7:keepIn K (.ref Ez)=true)
  (a_q12:nsIn K mainGlobals "nearest_two"=some (some (.ref vT)))
  (l_q12:K.lookup vT=some ⟨Q7,RC,.func (fnOf "nearest_two" "nearest_two" (aP lg) (ak lg) (ae lg) .none Qn Od S3 MS DC Nx),Up⟩)
  (c_q12:codeIn K DC "nearest_two"=true) (k_q12:keepIn K (.ref vT)=true)
  (a_q17:nsIn K mainGlobals "nearest_of"=some (some (.ref vW)))
  (l_q17:K.lookup vW=some ⟨Rc,RH,.func (fnOf "nearest_of" "nearest_of" (aP lq) (ak lq) (ae lq) .none Qs Oj S8 MY DI NC),Uu⟩)
  (c_q17:codeIn K DI "nearest_of"=true) (k_q17:keepIn K (.ref vW)=true)
  (a_q5:findIn K (.ref bf) "__init__"=some (some (.ref Bx)))
  (l_q5:K.lookup Bx=some ⟨YY,Y9,.func (fnOf "__init__" "Kept.__init__" (aP p0) (ak p0) (ae p0) .none Yr WZ ZS Wn LO WL),aao⟩)
  (c_q5:codeIn K LO "Kept.__init__"=true) (k_q5:keepIn K (.ref Bx)=true) (i_q5:isFn K (.ref Bx)=true)
  (a_q26:findIn K (.ref bf) "put"=some (some (.ref rH)))
  (l_q26:K.lookup rH=some ⟨Rq,RT,.func (fnOf "put" "Kept.put" (aP jk) (ak jk) (ae jk) .none QB Ox Ti M9 DS NR),UD⟩)
  (c_q26:codeIn K DS "Kept.put"=true) (k_q26:keepIn K (.ref rH)=true) (i_q26:isFn K (.ref rH)=true)
  (a_q22:findIn K (.ref bf) "take"=some (some (.ref rG)))
  (l_q22:K.lookup rG=some ⟨Rl,RN,.func (fnOf "take" "Kept.take" (aP jj) (ak jj) (ae jj) .none Qx Ot Td M5 DN NM),Uz⟩)
  (c_q22:codeIn K DN "Kept.take"=true) (k_q22:keepIn K (.ref rG)=true) (i_q22:isFn K (.ref rG)=true)
  (a_q14:findIn K (.ref bf) "names"=some (some (.ref rD)))
  (l_q14:K.lookup rD=some ⟨Q9,RE,.func (fnOf "names" "Kept.names" (aP lj) (ak lj) (ae lj) .none Qp Og S5 MU DF Nz),Ur⟩)
  (c_q14:codeIn K DF "Kept.names"=true) (k_q14:keepIn K (.ref rD)=true) (i_q14:isFn K (.ref rD)=true)
  (a_q15:findIn K (.ref bf) "point"=some (some (.ref rE)))
  (l_q15:K.lookup rE=some ⟨Ra,RF,.func (fnOf "point" "Kept.point" (aP je) (ak je) (ae je) .none Qq Oh S6 MV DG NA),Us⟩)
  (c_q15:codeIn K DG "Kept.point"=true) (k_q15:keepIn K (.ref rE)=true) (i_q15:isFn K (.ref rE)=true)
  (a_q27:findIn K (.ref bf) "two"=some (some (.ref rJ)))
  (l_q27:K.lookup rJ=some ⟨Rr,RU,.func (fnOf "two" "Kept.two" (aP lE) (ak lE) (ae lE) .none QC Oy Tj Nb DT NS),UE⟩)
  (c_q27:codeIn K DT "Kept.two"=true) (k_q27:keepIn K (.ref rJ)=true) (i_q27:isFn K (.ref rJ)=true)
  (a_q8:findIn K (.ref bf) "nearest"=some (some (.ref Bz)))
  (l_q8:K.lookup Bz=some ⟨Y2,Zc,.func (fnOf "nearest" "Kept.nearest" (aP p8) (ak p8) (ae p8) .none Yu W3 ZV Wr LU WO),aar⟩)
  (c_q8:codeIn K LU "Kept.nearest"=true) (k_q8:keepIn K (.ref Bz)=true) (i_q8:isFn K (.ref Bz)=true)
  (a_q21:findIn K (.ref bf) "near"=some (some (.ref rF)))
  (l_q21:K.lookup rF=some ⟨Rj,RM,.func (fnOf "near" "Kept.near" (aP ji) (ak ji) (ae ji) .none Qw Oq Tc M4 DM NK),Uy⟩)
  (c_q21:codeIn K DM "Kept.near"=true) (k_q21:keepIn K (.ref rF)=true) (i_q21:isFn K (.ref rF)=true)
  (a_q4:findIn K (.ref bf) "need_name"=some (some (.ref Bw)))
  (l_q4:K.lookup Bw=some ⟨YX,Y8,.func (fnOf "need_name" "Kept.need_name" (aP pZ) (ak pZ) (ae pZ) .none Yq WY ZR Wm LN WK),aan⟩)
  (c_q4:codeIn K LN "Kept.need_name"=true) (k_q4:keepIn K (.ref Bw)=true) (i_q4:isFn K (.ref Bw)=true)
  (a_q2:findIn K (.ref bf) "plain_points"=some (some (.ref Bv)))
  (l_q2:K.lookup Bv=some ⟨YV,Y6,.func (fnOf "plain_points" "Kept.plain_points" (aP uk) (ak uk) (ae uk) .none Yo WW ZP Wk LK WG),aal⟩)
  (c_q2:codeIn K LK "Kept.plain_points"=true) (k_q2:keepIn K (.ref Bv)=true) (i_q2:isFn K (.ref Bv)=true)
  (a_q28:nsIn K mainGlobals "_law_next"=some (some (.ref wc)))
  (l_q28:K.lookup wc=some ⟨Rt,RV,.func (fnOf "_law_next" "_law_next" (aP lH) (ak lH) (ae lH) .none QD Oz Tn Nc DU NT),UG⟩)
  (c_q28:codeIn K DU "_law_next"=true) (k_q28:keepIn K (.ref wc)=true)
  (a_q29:nsIn K mainGlobals "_law_pots"=some (some (.ref wd)))
  (l_q29:K.lookup wd=some ⟨Ru,RW,.func (fnOf "_law_pots" "_law_pots" (aP lJ) (ak lJ) (ae lJ) .none QE OA Tp Nf DV NU),UH⟩)
  (c_q29:codeIn K DV "_law_pots"=true) (k_q29:keepIn K (.ref wd)=true)
  (a_q33:nsIn K mainGlobals "_law_way"=some (some (.ref wk)))
  (l_q33:K.lookup wk=some ⟨Ry,R8,.func (fnOf "_law_way" "_law_way" (aP lM) (ak lM) (ae lM) .none QI OG Tt Nj DZ NY),UL⟩)
  (c_q33:codeIn K DZ "_law_way"=true) (k_q33:keepIn K (.ref wk)=true)
  (a_q23:nsIn K mainGlobals "_law_flags"=some (some (.ref v7)))
  (l_q23:K.lookup v7=some ⟨Rm,RO,.func (fnOf "_law_flags" "_law_flags" (aP lx) (ak lx) (ae lx) .none Qy Ou Te M6 DP NN),UA⟩)
  (c_q23:codeIn K DP "_law_flags"=true) (k_q23:keepIn K (.ref v7)=true)
  (a_q10:nsIn K mainGlobals "_law_no_ways"=some (some (.ref vR)))
  (l_q10:K.lookup vR=some ⟨Q5,RA,.func (fnOf "_law_no_ways" "_law_no_ways" (aP k9) (ak k9) (ae k9) .none Ql Ob SY MP DA Nu),Um⟩)
  (c_q10:codeIn K DA "_law_no_ways"=true) (k_q10:keepIn K (.ref vR)=true)
  (a_q32:nsIn K mainGlobals "_law_low"=some (some (.ref wj)))
  (l_q32:K.lookup wj=some ⟨Rx,RZ,.func (fnOf "_law_low" "_law_low" (aP lL) (ak lL) (ae lL) .none QH OD Ts Ni DY NX),UK⟩)
  (c_q32:codeIn K DY "_law_low"=true) (k_q32:keepIn K (.ref wj)=true)
  (a_q24:nsIn K mainGlobals "_law_point"=some (some (.ref v8)))
  (l_q24:K.lookup v8=some ⟨Rn,RP,.func (fnOf "_law_point" "_law_point" (aP ly) (ak ly) (ae ly) .none Qz Ov Tf M7 DQ NP),UB⟩)
  (c_q24:codeIn K DQ "_law_point"=true) (k_q24:keepIn K (.ref v8)=true)
  (a_q11:nsIn K mainGlobals "_law_refused"=some (some (.ref vS)))
  (l_q11:K.lookup vS=some ⟨Q6,RB,.func (fnOf "_law_refused" "_law_refused" (aP gI) (ak gI) (ae gI) .none Qm Oc S2 MR DB Nv),Uo⟩)
  (c_q11:codeIn K DB "_law_refused"=true) (k_q11:keepIn K (.ref vS)=true)
  (a_q25:nsIn K mainGlobals "_law_stood"=some (some (.ref v9)))
  (l_q25:K.lookup v9=some ⟨Rp,RQ,.func (fnOf "_law_stood" "_law_stood" (aP lA) (ak lA) (ae lA) .none QA Ow Tg M8 DR NQ),UC⟩)
  (c_q25:codeIn K DR "_law_stood"=true) (k_q25:keepIn K (.ref v9)=true)
  (a_q31:nsIn K mainGlobals "_law_bad"=some (some (.ref wg)))
  (l_q31:K.lookup wg=some ⟨Rw,RY,.func (fnOf "_law_bad" "_law_bad" (aP lK) (ak lK) (ae lK) .none QG OC Tr Nh DX NW),UJ⟩)
  (c_q31:codeIn K DX "_law_bad"=true) (k_q31:keepIn K (.ref wg)=true)
  (a_q34:nsIn K mainGlobals "law"=some (some (.ref rK)))
  (l_q34:K.lookup rK=some ⟨Rz,R9,.func (fnOf "law" "law" (aP iw) (ak iw) (ae iw) .none FD Ek Gp Dk yi D1),UM⟩)
  (c_q34:codeIn K yi "law"=true) (k_q34:keepIn K (.ref rK)=true)
  (g_NearError:nsIn K mainGlobals "NearError"=some (some (.ref aR)))
  (e_NearError:excIn K aR sR "ValueError.__new__"=true) (m_NearError:Vc.mroIn K aR=[.ref aR,.type "ValueError",.type "Exception",.type "BaseException",.type "object"]) (w_NearError:Vx.eK K aR=true)
  (g_NoPoints:nsIn K mainGlobals "NoPoints"=some (some (.ref cA)))
  (e_NoPoints:excIn K cA sR "ValueError.__new__"=true) (m_NoPoints:Vc.mroIn K cA=[.ref cA,.ref aR,.type "ValueError",.type "Exception",.type "BaseException",.type "object"]) (w_NoPoints:Vx.eK K cA=true)
  (g_NoWay:nsIn K mainGlobals "NoWay"=some (some (.ref eW)))
  (e_NoWay:excIn K eW sR "ValueError.__new__"=true) (m_NoWay:Vc.mroIn K eW=[.ref eW,.ref aR,.type "ValueError",.type "Exception",.type "BaseException",.type "object"]) (w_NoWay:Vx.eK K eW=true)
  (g_NoPlace:nsIn K mainGlobals "NoPlace"=some (some (.ref cX)))
  (e_NoPlace:excIn K cX sR "ValueError.__new__"=true) (m_NoPlace:Vc.mroIn K cX=[.ref cX,.ref aR,.type "ValueError",.type "Exception",.type "BaseException",.type "object"]) (w_NoPlace:Vx.eK K cX=true)
  (g_NoBound:nsIn K mainGlobals "NoBound"=some (some (.ref cV)))
  (e_NoBound:excIn K cV sR "ValueError.__new__"=true) (m_NoBound:Vc.mroIn K cV=[.ref cV,.ref aR,.type "ValueError",.type "Exception",.type "BaseException",.type "object"]) (w_NoBound:Vx.eK K cV=true)
  (g_NoNumber:nsIn K mainGlobals "NoNumber"=some (some (.ref cz)))
  (e_NoNumber:excIn K cz sR "ValueError.__new__"=true) (m_NoNumber:Vc.mroIn K cz=[.ref cz,.ref aR,.type "ValueError",.type "Exception",.type "BaseException",.type "object"]) (w_NoNumber:Vx.eK K cz=true)
  (g_TooMany:nsIn K mainGlobals "TooMany"=some (some (.ref cZ)))
  (e_TooMany:excIn K cZ sR "ValueError.__new__"=true) (m_TooMany:Vc.mroIn K cZ=[.ref cZ,.ref aR,.type "ValueError",.type "Exception",.type "BaseException",.type "object"]) (w_TooMany:Vx.eK K cZ=true)
  (g_NoPaper:nsIn K mainGlobals "NoPaper"=some (some (.ref cW)))
  (e_NoPaper:excIn K cW sR "ValueError.__new__"=true) (m_NoPaper:Vc.mroIn K cW=[.ref cW,.ref aR,.type "ValueError",.type "Exception",.type "BaseException",.type "object"]) (w_NoPaper:Vx.eK K cW=true)
  (g_NoText:nsIn K mainGlobals "NoText"=some (some (.ref dB)))
  (e_NoText:excIn K dB sR "ValueError.__new__"=true) (m_NoText:Vc.mroIn K dB=[.ref dB,.ref aR,.type "ValueError",.type "Exception",.type "BaseException",.type "object"]) (w_NoText:Vx.eK K dB=true)
  (g_NoForm:nsIn K mainGlobals "NoForm"=some (some (.ref dA)))
  (e_NoForm:excIn K dA sR "ValueError.__new__"=true) (m_NoForm:Vc.mroIn K dA=[.ref dA,.ref aR,.type "ValueError",.type "Exception",.type "BaseException",.type "object"]) (w_NoForm:Vx.eK K dA=true)
  (g_NoneYet:nsIn K mainGlobals "NoneYet"=some (some (.ref cY)))
  (e_NoneYet:excIn K cY sR "ValueError.__new__"=true) (m_NoneYet:Vc.mroIn K cY=[.ref cY,.ref aR,.type "ValueError",.type "Exception",.type "BaseException",.type "object"]) (w_NoneYet:Vx.eK K cY=true)
  (nd_cls:[aR,cA,eW,cX,cV,cz,cZ,cW,dB,dA,cY].Nodup)
  (z_ValueError:nsIn K mainGlobals "ValueError"=some none)
  (z_abs:nsIn K mainGlobals "abs"=some none)
  (z_isinstance:nsIn K mainGlobals "isinstance"=some none)
  (z_len:nsIn K mainGlobals "len"=some none)
  (z_list:nsIn K mainGlobals "list"=some none)
  (z_max:nsIn K mainGlobals "max"=some none)
  (z_min:nsIn K mainGlobals "min"=some none)
  (z_range:nsIn K mainGlobals "range"=some none)
  (z_sorted:nsIn K mainGlobals "sorted"=some none)
  (z_sum:nsIn K mainGlobals "sum"=some none)
  (z_tuple:nsIn K mainGlobals "tuple"=some none)
  (z_zip:nsIn K mainGlobals "zip"=some none)
  (u_SQUARES:nsIn K mainGlobals "SQUARES"=some (some (.str "squares" zq)))
  (u_STREETS:nsIn K mainGlobals "STREETS"=some (some (.str "streets" zr))):
  ∃fd:FuncData,(∀(s:Shared) (v:Value),BindsTo s fd ⟨[v],[]⟩ [("script",v)])/\∀base:Heap,K.In base->base.Ns mainGlobals mg->bW l.prog w K mg base iL 7 fa fd ["script"] (A6 K):=by
 have e:=hfa.symm.trans (mg_of X Gs a_q34);cases e;refine⟨fnOf "law" "law" (aP iw) (ak iw) (ae iw) .none FD Ek Gp Dk yi D1,λs v=>.of_eq rfl,λbase _ _=>?_⟩
 letI:KF:=⟨K,λx=>if x="NearError" then aR else if x="NoPoints" then cA else if x="NoWay" then eW else if x="NoPlace" then cX else if x="NoBound" then cV else if x="NoNumber" then cz else if x="TooMany" then cZ else if x="NoPaper" then cW else if x="NoText" then dB else if x="NoForm" then dA else if x="NoneYet" then cY else if x="Kept" then bf else 0,[]⟩
 have ei:KF.cls "Kept"=bf:=(if_neg ∅).trans<|(if_neg ∅).trans<|(if_neg ∅).trans<|(if_neg ∅).trans<|(if_neg ∅).trans<|(if_neg ∅).trans<|(if_neg ∅).trans<|(if_neg ∅).trans<|(if_neg ∅).trans<|(if_neg ∅).trans<|(if_neg ∅).trans<|if_pos rfl
 have kg:KG ⟨l.prog,w,K,mg,base⟩:=⟨by rw[show kC=bf from ei];exact⟨pg_Kept,hd_Kept,po_Kept,sa_Kept⟩,λf hf=>by
  rw[show kC=bf from ei]
  simp only[List.mem_cons,List.not_mem_nil,or_false]at hf;rcases hf with rfl|rfl|rfl|rfl
  ·exact n1_Kept
  ·exact n2_Kept
  ·exact n3_Kept
  ·exact n4_Kept⟩
 have bo:KF.cls "NearError"=aR:=if_pos rfl;have fB:KF.cls "NoPoints"=cA:=(if_neg ∅).trans<|if_pos rfl
 have kM:KF.cls "NoWay"=eW:=(if_neg ∅).trans<|(if_neg ∅).trans<|if_pos rfl
 have gq:KF.cls "NoPlace"=cX:=(if_neg ∅).trans<|(if_neg ∅).trans<|(if_neg ∅).trans<|if_pos rfl
 have gm:KF.cls "NoBound"=cV:=(if_neg ∅).trans<|(if_neg ∅).trans<|(if_neg ∅).trans<|(if_neg ∅).trans<|if_pos rfl
 have fA:KF.cls "NoNumber"=cz:=(if_neg ∅).trans<|(if_neg ∅).trans<|(if_neg ∅).trans<|(if_neg ∅).trans<|(if_neg ∅).trans<|if_pos rfl
 have gv:KF.cls "TooMany"=cZ:=(if_neg ∅).trans<|(if_neg ∅).trans<|(if_neg ∅).trans<|(if_neg ∅).trans<|(if_neg ∅).trans<|(if_neg ∅).trans<|if_pos rfl
 have gp:KF.cls "NoPaper"=cW:=(if_neg ∅).trans<|(if_neg ∅).trans<|(if_neg ∅).trans<|(if_neg ∅).trans<|(if_neg ∅).trans<|(if_neg ∅).trans<|(if_neg ∅).trans<|if_pos rfl
 have i6:KF.cls "NoText"=dB:=(if_neg ∅).trans<|(if_neg ∅).trans<|(if_neg ∅).trans<|(if_neg ∅).trans<|(if_neg ∅).trans<|(if_neg ∅).trans<|(if_neg ∅).trans<|(if_neg ∅).trans<|if_pos rfl
 have i3:KF.cls "NoForm"=dA:=(if_neg ∅).trans<|(if_neg ∅).trans<|(if_neg ∅).trans<|(if_neg ∅).trans<|(if_neg ∅).trans<|(if_neg ∅).trans<|(if_neg ∅).trans<|(if_neg ∅).trans<|(if_neg ∅).trans<|if_pos rfl
 have gu:KF.cls "NoneYet"=cY:=(if_neg ∅).trans<|(if_neg ∅).trans<|(if_neg ∅).trans<|(if_neg ∅).trans<|(if_neg ∅).trans<|(if_neg ∅).trans<|(if_neg ∅).trans<|(if_neg ∅).trans<|(if_neg ∅).trans<|(if_neg ∅).trans<|if_pos rfl
 have xc:kr ⟨l.prog,w,K,mg,base⟩ K32.XL:=by
  refine⟨⟨λc hc=>?_,λc hc=>?_,λc hc d hd e=>?_,by decide⟩,λc hc=>?_⟩
  ·simp only[K32.XL,List.mem_cons,List.not_mem_nil,or_false]at hc
   rcases hc with rfl|rfl|rfl|rfl|rfl|rfl|rfl|rfl|rfl|rfl|rfl
   ·exact⟨by rw[bo];exact mg_of X Gs g_NearError,by rw[bo];exact e_NearError⟩
   ·exact⟨by rw[fB];exact mg_of X Gs g_NoPoints,by rw[fB];exact e_NoPoints⟩
   ·exact⟨by rw[kM];exact mg_of X Gs g_NoWay,by rw[kM];exact e_NoWay⟩
   ·exact⟨by rw[gq];exact mg_of X Gs g_NoPlace,by rw[gq];exact e_NoPlace⟩
   ·exact⟨by rw[gm];exact mg_of X Gs g_NoBound,by rw[gm];exact e_NoBound⟩
   ·exact⟨by rw[fA];exact mg_of X Gs g_NoNumber,by rw[fA];exact e_NoNumber⟩
   ·exact⟨by rw[gv];exact mg_of X Gs g_TooMany,by rw[gv];exact e_TooMany⟩
   ·exact⟨by rw[gp];exact mg_of X Gs g_NoPaper,by rw[gp];exact e_NoPaper⟩
   ·exact⟨by rw[i6];exact mg_of X Gs g_NoText,by rw[i6];exact e_NoText⟩
   ·exact⟨by rw[i3];exact mg_of X Gs g_NoForm,by rw[i3];exact e_NoForm⟩
   ·exact⟨by rw[gu];exact mg_of X Gs g_NoneYet,by rw[gu];exact e_NoneYet⟩
  ·simp only[K32.XL,List.mem_cons,List.not_mem_nil,or_false]at hc
   rcases hc with rfl|rfl|rfl|rfl|rfl|rfl|rfl|rfl|rfl|rfl|rfl
   ·rw[bo];exact m_NearError
   ·rw[fB,bo];exact m_NoPoints
   ·rw[kM,bo];exact m_NoWay
   ·rw[gq,bo];exact m_NoPlace
   ·rw[gm,bo];exact m_NoBound
   ·rw[fA,bo];exact m_NoNumber
   ·rw[gv,bo];exact m_TooMany
   ·rw[gp,bo];exact m_NoPaper
   ·rw[i6,bo];exact m_NoText
   ·rw[i3,bo];exact m_NoForm
   ·rw[gu,bo];exact m_NoneYet
  ·exact IK (cs:=K32.XL) (as:=[aR,cA,eW,cX,cV,cz,cZ,cW,dB,dA,cY]) (by simp only[K32.XL,List.map_cons,List.map_nil,bo,fB,kM,gq,gm,fA,gv,gp,i6,i3,gu]) nd_cls hc hd e
  ·simp only[K32.XL,List.mem_cons,List.not_mem_nil,or_false]at hc
   rcases hc with rfl|rfl|rfl|rfl|rfl|rfl|rfl|rfl|rfl|rfl|rfl
   ·rw[bo];exact w_NearError
   ·rw[fB];exact w_NoPoints
   ·rw[kM];exact w_NoWay
   ·rw[gq];exact w_NoPlace
   ·rw[gm];exact w_NoBound
   ·rw[fA];exact w_NoNumber
   ·rw[gv];exact w_TooMany
   ·rw[gp];exact w_NoPaper
   ·rw[i6];exact w_NoText
   ·rw[i3];exact w_NoForm
   ·rw[gu];exact w_NoneYet
 have E:Gl ⟨l.prog,w,K,mg,base⟩:=⟨xc,kg,mg_none_of X Gs z_ValueError,mg_none_of X Gs z_abs,mg_none_of X Gs z_isinstance,mg_none_of X Gs z_len,mg_none_of X Gs z_list,mg_none_of X Gs z_max,mg_none_of X Gs z_min,mg_none_of X Gs z_range,mg_none_of X Gs z_sorted,mg_none_of X Gs z_sum,mg_none_of X Gs z_tuple,mg_none_of X Gs z_zip,⟨_,.str "squares",mg_of X Gs u_SQUARES,⟨_,rfl⟩,λF=>.str _⟩,⟨_,.str "streets",mg_of X Gs u_STREETS,⟨_,rfl⟩,λF=>.str _⟩⟩;have Lg:=bj (K:=K) (st:=jh) l_q19 c_q19 k_q19;have zX:dy ⟨l.prog,w,K,mg,base⟩ "need_count" jh ["count"] _ _:=⟨Lg,mg_of X Gs a_q19,Lg.binds λ_ _ _ _ _ _ us hl=>yu (λ_=>rfl) us hl⟩;have VZ:=bj (K:=K) (st:=pY) l_q0 c_q0 k_q0;have IV:dy ⟨l.prog,w,K,mg,base⟩ "need_as_many_numbers" pY ["point","count"] _ _:=⟨VZ,mg_of X Gs a_q0,VZ.binds λ_ _ _ _ _ _ us hl=>ln2 (λ_ _=>rfl) us hl⟩;have La:=bj (K:=K) (st:=lh) l_q13 c_q13 k_q13;have D4:dy ⟨l.prog,w,K,mg,base⟩ "need_points" lh ["points"] _ _:=⟨La,mg_of X Gs a_q13,La.binds λ_ _ _ _ _ _ us hl=>yu (λ_=>rfl) us hl⟩;have Lw:=bj (K:=K) (st:=jl) l_q30 c_q30 k_q30;have z9:dy ⟨l.prog,w,K,mg,base⟩ "need_way" jl ["way"] _ _:=⟨Lw,mg_of X Gs a_q30,Lw.binds λ_ _ _ _ _ _ us hl=>yu (λ_=>rfl) us hl⟩;have V0:=bj (K:=K) (st:=uh) l_q1 c_q1 k_q1;have N0:dy ⟨l.prog,w,K,mg,base⟩ "need_points_and_way" uh ["points","way"] _ _:=⟨V0,mg_of X Gs a_q1,V0.binds λ_ _ _ _ _ _ us hl=>ln2 (λ_ _=>rfl) us hl⟩;have Lh:=bj (K:=K) (st:=lu) l_q20 c_q20 k_q20;have D7:dy ⟨l.prog,w,K,mg,base⟩ "need_place" lu ["points","place"] _ _:=⟨Lh,mg_of X Gs a_q20,Lh.binds λ_ _ _ _ _ _ us hl=>ln2 (λ_ _=>rfl) us hl⟩;have Lf:=bj (K:=K) (st:=jg) l_q18 c_q18 k_q18;have zW:dy ⟨l.prog,w,K,mg,base⟩ "need_bound" jg ["bound"] _ _:=⟨Lf,mg_of X Gs a_q18,Lf.binds λ_ _ _ _ _ _ us hl=>yu (λ_=>rfl) us hl⟩;have V8:=bj (K:=K) (st:=ur) l_q9 c_q9 k_q9;have N8:dy ⟨l.prog,w,K,mg,base⟩ "far_between" ur ["way","point","other"] _ _:=⟨V8,mg_of X Gs a_q9,V8.binds λ_ _ _ _ _ _ us hl=>Md (λ_ _ _=>rfl) us hl⟩;have V2:=bj (K:=K) (st:=um) l_q3 c_q3 k_q3;have N5:dy ⟨l.prog,w,K,mg,base⟩ "pairs_by_places" um ["points","way"] _ _:=⟨V2,mg_of X Gs a_q3,V2.binds λ_ _ _ _ _ _ us hl=>ln2 (λ_ _=>rfl) us hl⟩;have Ld:=bj (K:=K) (st:=jf) l_q16 c_q16 k_q16;have zV:dy ⟨l.prog,w,K,mg,base⟩ "near_pairs" jf ["points","way","bound"] _ _:=⟨Ld,mg_of X Gs a_q16,Ld.binds λ_ _ _ _ _ _ us hl=>Md (λ_ _ _=>rfl) us hl⟩;have V5:=bj (K:=K) (st:=uo) l_q6 c_q6 k_q6;have N6:dy ⟨l.prog,w,K,mg,base⟩ "nearest_among" uo ["points","way","point","places"] _ _:=⟨V5,mg_of X Gs a_q6,V5.binds λ_ _ _ _ _ _ us hl=>ln4 (λ_ _ _ _=>rfl) us hl⟩
 have V6:=bj (K:=K) (st:=uq) l_q7 c_q7 k_q7;have N7:dy ⟨l.prog,w,K,mg,base⟩ "nearest_other" uq ["points","way","place"] _ _:=⟨V6,mg_of X Gs a_q7,V6.binds λ_ _ _ _ _ _ us hl=>Md (λ_ _ _=>rfl) us hl⟩;have K9:=bj (K:=K) (st:=lg) l_q12 c_q12 k_q12;have D3:dy ⟨l.prog,w,K,mg,base⟩ "nearest_two" lg ["points","way"] _ _:=⟨K9,mg_of X Gs a_q12,K9.binds λ_ _ _ _ _ _ us hl=>ln2 (λ_ _=>rfl) us hl⟩;have Le:=bj (K:=K) (st:=lq) l_q17 c_q17 k_q17;have D6:dy ⟨l.prog,w,K,mg,base⟩ "nearest_of" lq ["points","way","place"] _ _:=⟨Le,mg_of X Gs a_q17,Le.binds λ_ _ _ _ _ _ us hl=>Md (λ_ _ _=>rfl) us hl⟩;have V4:=bj (K:=K) (st:=p0) l_q5 c_q5 k_q5;have IX:Vo ⟨l.prog,w,K,mg,base⟩ "__init__" "Kept.__init__" p0 ["self","way","count"] _ _:=⟨V4,by rw[show kC=bf from ei];exact⟨mk_Kept,a_q5,i_q5,kp_Kept⟩,V4.binds λ_ _ _ _ _ _ us hl=>Md (λ_ _ _=>rfl) us hl,by rw[show kC=bf from ei];exact mg_of X Gs g_Kept⟩
 have Lq:=bj (K:=K) (st:=jk) l_q26 c_q26 k_q26;have z0:oA ⟨l.prog,w,K,mg,base⟩ "put" "Kept.put" jk ["self","point"] _ _:=⟨Lq,by rw[show kC=bf from ei];exact⟨a_q26,i_q26,k_q26⟩,Lq.binds λ_ _ _ _ _ _ us hl=>ln2 (λ_ _=>rfl) us hl⟩
 have Lj:=bj (K:=K) (st:=jj) l_q22 c_q22 k_q22;have zZ:oA ⟨l.prog,w,K,mg,base⟩ "take" "Kept.take" jj ["self","name"] _ _:=⟨Lj,by rw[show kC=bf from ei];exact⟨a_q22,i_q22,k_q22⟩,Lj.binds λ_ _ _ _ _ _ us hl=>ln2 (λ_ _=>rfl) us hl⟩
 have Lb:=bj (K:=K) (st:=lj) l_q14 c_q14 k_q14;have D5:oA ⟨l.prog,w,K,mg,base⟩ "names" "Kept.names" lj ["self"] _ _:=⟨Lb,by rw[show kC=bf from ei];exact⟨a_q14,i_q14,k_q14⟩,Lb.binds λ_ _ _ _ _ _ us hl=>yu (λ_=>rfl) us hl⟩
 have Lc:=bj (K:=K) (st:=je) l_q15 c_q15 k_q15;have zU:oA ⟨l.prog,w,K,mg,base⟩ "point" "Kept.point" je ["self","name"] _ _:=⟨Lc,by rw[show kC=bf from ei];exact⟨a_q15,i_q15,k_q15⟩,Lc.binds λ_ _ _ _ _ _ us hl=>ln2 (λ_ _=>rfl) us hl⟩
 have Lr:=bj (K:=K) (st:=lE) l_q27 c_q27 k_q27;have Eb:oA ⟨l.prog,w,K,mg,base⟩ "two" "Kept.two" lE ["self"] _ _:=⟨Lr,by rw[show kC=bf from ei];exact⟨a_q27,i_q27,k_q27⟩,Lr.binds λ_ _ _ _ _ _ us hl=>yu (λ_=>rfl) us hl⟩
 have V7:=bj (K:=K) (st:=p8) l_q8 c_q8 k_q8;have IY:oA ⟨l.prog,w,K,mg,base⟩ "nearest" "Kept.nearest" p8 ["self","name"] _ _:=⟨V7,by rw[show kC=bf from ei];exact⟨a_q8,i_q8,k_q8⟩,V7.binds λ_ _ _ _ _ _ us hl=>ln2 (λ_ _=>rfl) us hl⟩
 have Li:=bj (K:=K) (st:=ji) l_q21 c_q21 k_q21;have zY:oA ⟨l.prog,w,K,mg,base⟩ "near" "Kept.near" ji ["self","bound"] _ _:=⟨Li,by rw[show kC=bf from ei];exact⟨a_q21,i_q21,k_q21⟩,Li.binds λ_ _ _ _ _ _ us hl=>ln2 (λ_ _=>rfl) us hl⟩
 have V3:=bj (K:=K) (st:=pZ) l_q4 c_q4 k_q4;have IW:oA ⟨l.prog,w,K,mg,base⟩ "need_name" "Kept.need_name" pZ ["self","name"] _ _:=⟨V3,by rw[show kC=bf from ei];exact⟨a_q4,i_q4,k_q4⟩,V3.binds λ_ _ _ _ _ _ us hl=>ln2 (λ_ _=>rfl) us hl⟩
 have V1:=bj (K:=K) (st:=uk) l_q2 c_q2 k_q2;have N3:oA ⟨l.prog,w,K,mg,base⟩ "plain_points" "Kept.plain_points" uk ["self"] _ _:=⟨V1,by rw[show kC=bf from ei];exact⟨a_q2,i_q2,k_q2⟩,V1.binds λ_ _ _ _ _ _ us hl=>yu (λ_=>rfl) us hl⟩
 have Ls:=bj (K:=K) (st:=lH) l_q28 c_q28 k_q28;have Ec:dy ⟨l.prog,w,K,mg,base⟩ "_law_next" lH ["pot","many"] _ _:=⟨Ls,mg_of X Gs a_q28,Ls.binds λ_ _ _ _ _ _ us hl=>ln2 (λ_ _=>rfl) us hl⟩;have Lv:=bj (K:=K) (st:=lJ) l_q29 c_q29 k_q29;have Ee:dy ⟨l.prog,w,K,mg,base⟩ "_law_pots" lJ ["script"] _ _:=⟨Lv,mg_of X Gs a_q29,Lv.binds λ_ _ _ _ _ _ us hl=>yu (λ_=>rfl) us hl⟩;have Lz:=bj (K:=K) (st:=lM) l_q33 c_q33 k_q33;have Eh:dy ⟨l.prog,w,K,mg,base⟩ "_law_way" lM ["pot"] _ _:=⟨Lz,mg_of X Gs a_q33,Lz.binds λ_ _ _ _ _ _ us hl=>yu (λ_=>rfl) us hl⟩;have Lk:=bj (K:=K) (st:=lx) l_q23 c_q23 k_q23;have D8:dy ⟨l.prog,w,K,mg,base⟩ "_law_flags" lx ["e"] _ _:=⟨Lk,mg_of X Gs a_q23,Lk.binds λ_ _ _ _ _ _ us hl=>yu (λ_=>rfl) us hl⟩;have K7:=bj (K:=K) (st:=k9) l_q10 c_q10 k_q10;have D2:dy ⟨l.prog,w,K,mg,base⟩ "_law_no_ways" k9 ["pot"] _ _:=⟨K7,mg_of X Gs a_q10,K7.binds λ_ _ _ _ _ _ us hl=>yu (λ_=>rfl) us hl⟩;have Ly:=bj (K:=K) (st:=lL) l_q32 c_q32 k_q32;have Eg:dy ⟨l.prog,w,K,mg,base⟩ "_law_low" lL ["pot"] _ _:=⟨Ly,mg_of X Gs a_q32,Ly.binds λ_ _ _ _ _ _ us hl=>yu (λ_=>rfl) us hl⟩;have Ln:=bj (K:=K) (st:=ly) l_q24 c_q24 k_q24;have D9:dy ⟨l.prog,w,K,mg,base⟩ "_law_point" ly ["pot","count","own"] _ _:=⟨Ln,mg_of X Gs a_q24,Ln.binds λ_ _ _ _ _ _ us hl=>Md (λ_ _ _=>rfl) us hl⟩;have K8:=bj (K:=K) (st:=gI) l_q11 c_q11 k_q11;have vM:dy ⟨l.prog,w,K,mg,base⟩ "_law_refused" gI ["door","kept","thing"] _ _:=⟨K8,mg_of X Gs a_q11,K8.binds λ_ _ _ _ _ _ us hl=>Md (λ_ _ _=>rfl) us hl⟩;have Lp:=bj (K:=K) (st:=lA) l_q25 c_q25 k_q25;have Ea:dy ⟨l.prog,w,K,mg,base⟩ "_law_stood" lA ["kept"] _ _:=⟨Lp,mg_of X Gs a_q25,Lp.binds λ_ _ _ _ _ _ us hl=>yu (λ_=>rfl) us hl⟩;have Lx:=bj (K:=K) (st:=lK) l_q31 c_q31 k_q31;have Ef:dy ⟨l.prog,w,K,mg,base⟩ "_law_bad" lK ["pot","count","coming","gone"] _ _:=⟨Lx,mg_of X Gs a_q31,Lx.binds λ_ _ _ _ _ _ us hl=>ln4 (λ_ _ _ _=>rfl) us hl⟩;have LA:=bj (K:=K) (st:=iw) l_q34 c_q34 k_q34;have Ei:dy ⟨l.prog,w,K,mg,base⟩ "law" iw ["script"] _ _:=⟨LA,mg_of X Gs a_q34,LA.binds λ_ _ _ _ _ _ us hl=>yu (λ_=>rfl) us hl⟩;exact Sb rfl rfl E zX IV D4 z9 N0 D7 zW N8 N5 zV N6 N7 D3 D6 IX z0 zZ D5 zU Eb IY zY IW N3 Ec Ee Eh D8 D2 Eg D9 vM Ea Ef Ei
theorem walk{l:PySem.W.OpenLaw}{q:Program}{loose:List Str}{XP:(Str->Option Value)->Heap->Prop}{YP:World->Heap->Prop}{d:DefRec}{K:Params->PySem.W.Frag}(hn:l.most=some 63)(XW:d.params.defaults=[])
  (hY:∀(w:World) (h:Heap),YP w h->(K w.params).In h)
  (F:∀(w:World) (mg:Str->Option Value) (fa:Addr) (h:Heap),(K w.params).In h->h.Ns mainGlobals mg->mg d.name=some (.ref fa) ->
   ∃fd:FuncData,(∀(s:Shared) (u:Value),BindsTo s fd ⟨[u],[]⟩ [("script",u)])/\∀base:Heap,(K w.params).In base->base.Ns mainGlobals mg->bW l.prog w (K w.params) mg base iL 7 fa fd ["script"] (A6 (K w.params))):
  PySem.W.WalkO q loose XP YP l.row.toRowW d [] (λf vs=>PySem.call f vs):=
 L2.K0 (n:=63) (k:=7) (x:="script") (CX:=λ_=>iL) (sp:=λw=>A6 (K w.params)) hn ∅ XW ⟨rfl,by decide,by decide⟩ hY F (λ_ _ a ns hl _ hS=>⟨a,ns,rfl,hS,hl,λ_=>rfl⟩) λ_ _ _ _ _ z=>z
end K32
namespace PySem.W.Fast
theorem tw10017084597199858242:True:=⟨⟩
theorem tw10116803173789279444:True:=⟨⟩
theorem tw1014468893154254730:True:=⟨⟩
theorem tw10252218068697679994:True:=⟨⟩
theorem tw10257066635111102830:True:=⟨⟩
theorem tw10265561357522608849:True:=⟨⟩
theorem tw10442626741622623775:True:=⟨⟩
theorem tw10446941891218025521:True:=⟨⟩
theorem tw10722142912893326186:True:=⟨⟩
theorem tw10851958002526837034:True:=⟨⟩
theorem tw10852151307155424496:True:=⟨⟩
theorem tw10865842739254788736:True:=⟨⟩
theorem tw10885320993042615169:True:=⟨⟩
theorem tw1094363542277285051:True:=⟨⟩
theorem tw11215322262457679117:True:=⟨⟩
theorem tw11377177074979788391:True:=⟨⟩
theorem tw11410622508240714638:True:=⟨⟩
theorem tw11598420675861351082:True:=⟨⟩
theorem tw11643541633134591404:True:=⟨⟩
theorem tw11791541953848437347:True:=⟨⟩
theorem tw11801158551174350193:True:=⟨⟩
theorem tw11861480658126987580:True:=⟨⟩
theorem tw11904855963560935568:True:=⟨⟩
theorem tw11930446078487229252:True:=⟨⟩
theorem tw11968535915606925849:True:=⟨⟩
theorem tw12126117147535726305:True:=⟨⟩
theorem tw12175153902428164361:True:=⟨⟩
theorem tw12389795994733170089:True:=⟨⟩
theorem tw12461214483594320545:True:=⟨⟩
theorem tw12677841682491314225:True:=⟨⟩
theorem tw12735287068731900513:True:=⟨⟩
theorem tw12824965121754983054:True:=⟨⟩
theorem tw12878342141932506250:True:=⟨⟩
theorem tw12887733829715856480:True:=⟨⟩
theorem tw12939075434718569228:True:=⟨⟩
theorem tw13088526966032839352:True:=⟨⟩
theorem tw13140702477722674497:True:=⟨⟩
theorem tw13169988829413922493:True:=⟨⟩
theorem tw13603291537696221803:True:=⟨⟩
theorem tw13607773852945320590:True:=⟨⟩
theorem tw13653209559631923689:True:=⟨⟩
theorem tw13733832528667079498:True:=⟨⟩
theorem tw13747929507375106867:True:=⟨⟩
theorem tw13822039075455693225:True:=⟨⟩
theorem tw13984515533428702128:True:=⟨⟩
theorem tw14225217167573736927:True:=⟨⟩
theorem tw14225802509515961011:True:=⟨⟩
theorem tw14228182234932417012:True:=⟨⟩
theorem tw143235498635655178:True:=⟨⟩
theorem tw14329881124796058673:True:=⟨⟩
theorem tw14420141908540161100:True:=⟨⟩
theorem tw14438295731077867194:True:=⟨⟩
theorem tw14473768342492749196:True:=⟨⟩
theorem tw14496651549204117465:True:=⟨⟩
theorem tw14533281655205273794:True:=⟨⟩
theorem tw14534777802623191439:True:=⟨⟩
theorem tw14599837250233925643:True:=⟨⟩
theorem tw14623434498135358024:True:=⟨⟩
theorem tw14639445061420401439:True:=⟨⟩
theorem tw14646158450384559161:True:=⟨⟩
theorem tw14694275638485719569:True:=⟨⟩
theorem tw14764568015537792010:True:=⟨⟩
theorem tw14811040939097325448:True:=⟨⟩
theorem tw14821091703354945196:True:=⟨⟩
theorem tw14833988377483669662:True:=⟨⟩
theorem tw14851055398351371732:True:=⟨⟩
theorem tw14894897796923840388:True:=⟨⟩
theorem tw14956429118820045667:True:=⟨⟩
theorem tw15008761988535492012:True:=⟨⟩
theorem tw15184483234465723059:True:=⟨⟩
theorem tw15271492253584256145:True:=⟨⟩
theorem tw15306184363959388121:True:=⟨⟩
theorem tw15309608560143925491:True:=⟨⟩
theorem tw15336153241102881159:True:=⟨⟩
theorem tw15339961596377635237:True:=⟨⟩
theorem tw15359797872714486165:True:=⟨⟩
theorem tw15363704447467389828:True:=⟨⟩
theorem tw15368826799770006063:True:=⟨⟩
theorem tw15476226061490646313:True:=⟨⟩
theorem tw15645252269896173963:True:=⟨⟩
theorem tw15931069894180716597:True:=⟨⟩
theorem tw15961671409050397552:True:=⟨⟩
theorem tw1615839227634150453:True:=⟨⟩
theorem tw16237305226322975049:True:=⟨⟩
theorem tw16314503113633448454:True:=⟨⟩
theorem tw16444377084472071966:True:=⟨⟩
theorem tw16462647687844785754:True:=⟨⟩
theorem tw16464005607862674423:True:=⟨⟩
theorem tw16499945204408635758:True:=⟨⟩
theorem tw1652496941160324337:True:=⟨⟩
theorem tw16541821035529893014:True:=⟨⟩
theorem tw16607108301752210195:True:=⟨⟩
theorem tw16723618592514671788:True:=⟨⟩
theorem tw16828478147514871625:True:=⟨⟩
theorem tw16993937892822279548:True:=⟨⟩
theorem tw1703808347881088511:True:=⟨⟩
theorem tw17132159696247885459:True:=⟨⟩
theorem tw17137820225834303009:True:=⟨⟩
theorem tw17315979471352166485:True:=⟨⟩
theorem tw17343239453484700665:True:=⟨⟩
theorem tw17402732284864347053:True:=⟨⟩
theorem tw17537615045717873947:True:=⟨⟩
theorem tw17568983950385799838:True:=⟨⟩
theorem tw17599426441683266689:True:=⟨⟩
theorem tw17892013065173368471:True:=⟨⟩
theorem tw17898660267308191446:True:=⟨⟩
theorem tw17950960484407615628:True:=⟨⟩
theorem tw17962206863035060287:True:=⟨⟩
theorem tw17966620245599380668:True:=⟨⟩
theorem tw18191207320291613809:True:=⟨⟩
theorem tw18349984632707278545:True:=⟨⟩
theorem tw1917745068003833018:True:=⟨⟩
theorem tw1922668251970416000:True:=⟨⟩
theorem tw200815862577061494:True:=⟨⟩
theorem tw2015533454295410344:True:=⟨⟩
theorem tw2041343388436270406:True:=⟨⟩
theorem tw206740061161222380:True:=⟨⟩
theorem tw2106574693001248127:True:=⟨⟩
theorem tw2137412476515463115:True:=⟨⟩
theorem tw2267934820818571412:True:=⟨⟩
theorem tw2321937609844437819:True:=⟨⟩
theorem tw232218906560953604:True:=⟨⟩
theorem tw2333488635861563342:True:=⟨⟩
theorem tw2478618011688607047:True:=⟨⟩
theorem tw2503696611977422227:True:=⟨⟩
theorem tw2521717515031635364:True:=⟨⟩
theorem tw2632781315049150760:True:=⟨⟩
theorem tw2642018592712390473:True:=⟨⟩
theorem tw2661613454331620152:True:=⟨⟩
theorem tw2685627377447976352:True:=⟨⟩
theorem tw2694553107458273038:True:=⟨⟩
theorem tw2806576001452959126:True:=⟨⟩
theorem tw2925454741702537773:True:=⟨⟩
theorem tw2958392382089178728:True:=⟨⟩
theorem tw3123847020613603534:True:=⟨⟩
theorem tw3144164144676389662:True:=⟨⟩
theorem tw3225845812498525789:True:=⟨⟩
theorem tw3226701725287805274:True:=⟨⟩
theorem tw3373387119115111105:True:=⟨⟩
theorem tw3401329585365846176:True:=⟨⟩
theorem tw3431022710345039551:True:=⟨⟩
theorem tw3491696409022581149:True:=⟨⟩
theorem tw3493626443522295255:True:=⟨⟩
theorem tw3503173237577999502:True:=⟨⟩
theorem tw3523757333383122795:True:=⟨⟩
theorem tw3719776993623369761:True:=⟨⟩
theorem tw3727280274579404671:True:=⟨⟩
theorem tw3754511006901357059:True:=⟨⟩
theorem tw4039153500194660164:True:=⟨⟩
theorem tw4061835059687811403:True:=⟨⟩
theorem tw4115126712348674088:True:=⟨⟩
theorem tw4172795498481988560:True:=⟨⟩
theorem tw4321134208219663807:True:=⟨⟩
theorem tw4339604157632323538:True:=⟨⟩
theorem tw4384916313547872438:True:=⟨⟩
theorem tw4518241249557119878:True:=⟨⟩
theorem tw4569177706380678690:True:=⟨⟩
theorem tw4704781287261931397:True:=⟨⟩
theorem tw4816983514578147867:True:=⟨⟩
theorem tw541095917779733503:True:=⟨⟩
theorem tw5419663355356891612:True:=⟨⟩
theorem tw5448287762076740734:True:=⟨⟩
theorem tw5469394955618088193:True:=⟨⟩
theorem tw548635224730982808:True:=⟨⟩
theorem tw5508382392830832424:True:=⟨⟩
theorem tw5509089624208326847:True:=⟨⟩
theorem tw5560391363827953481:True:=⟨⟩
theorem tw5568888632722138484:True:=⟨⟩
theorem tw5611664448194675541:True:=⟨⟩
theorem tw5675572221751960426:True:=⟨⟩
theorem tw5711082311988416063:True:=⟨⟩
theorem tw583844462500061993:True:=⟨⟩
theorem tw5905427464433074131:True:=⟨⟩
theorem tw5974761477147742441:True:=⟨⟩
theorem tw6099551266341880644:True:=⟨⟩
theorem tw6140771529102741886:True:=⟨⟩
theorem tw6153706123062684469:True:=⟨⟩
theorem tw6160653158425184167:True:=⟨⟩
theorem tw6168114532045748856:True:=⟨⟩
theorem tw6314817181647139516:True:=⟨⟩
theorem tw6325035863929026256:True:=⟨⟩
theorem tw6450771729589446960:True:=⟨⟩
theorem tw6558585115524771059:True:=⟨⟩
theorem tw6596342775884079038:True:=⟨⟩
theorem tw6612219931913165917:True:=⟨⟩
theorem tw6684213232716804829:True:=⟨⟩
theorem tw6692084252435284760:True:=⟨⟩
theorem tw6785382593374240537:True:=⟨⟩
theorem tw6807149659093980431:True:=⟨⟩
theorem tw7226845603084478976:True:=⟨⟩
theorem tw7263280128298793643:True:=⟨⟩
theorem tw7309942954661116353:True:=⟨⟩
theorem tw7346050655193984958:True:=⟨⟩
theorem tw7360943010946303399:True:=⟨⟩
theorem tw7415215885439699168:True:=⟨⟩
theorem tw7487347411308808405:True:=⟨⟩
theorem tw7561203783170049214:True:=⟨⟩
theorem tw756504284112054772:True:=⟨⟩
theorem tw7565984797149343233:True:=⟨⟩
theorem tw7767665802997977130:True:=⟨⟩
theorem tw789139141344062392:True:=⟨⟩
theorem tw7937329897747774200:True:=⟨⟩
theorem tw7949607409339583524:True:=⟨⟩
theorem tw7952149143178367014:True:=⟨⟩
theorem tw802202808664188950:True:=⟨⟩
theorem tw8042893344594669106:True:=⟨⟩
theorem tw8066883119943227882:True:=⟨⟩
theorem tw8098610912876006001:True:=⟨⟩
theorem tw8124823937201765069:True:=⟨⟩
theorem tw8156411110449917847:True:=⟨⟩
theorem tw8379206291872331792:True:=⟨⟩
theorem tw8469270169247371513:True:=⟨⟩
theorem tw8496104539351791116:True:=⟨⟩
theorem tw8516756452402762758:True:=⟨⟩
theorem tw8725119526911422233:True:=⟨⟩
theorem tw873218184413804532:True:=⟨⟩
theorem tw8785529088835624808:True:=⟨⟩
theorem tw8837117110387911863:True:=⟨⟩
theorem tw8905745256902923857:True:=⟨⟩
theorem tw890733228678146537:True:=⟨⟩
theorem tw900941899977968058:True:=⟨⟩
theorem tw9022078255027745378:True:=⟨⟩
theorem tw9057012101991947478:True:=⟨⟩
theorem tw9315283346770784350:True:=⟨⟩
theorem tw935580661117775873:True:=⟨⟩
theorem tw9409457122718310980:True:=⟨⟩
theorem tw9456028036838854680:True:=⟨⟩
theorem tw9525361013158948314:True:=⟨⟩
theorem tw9699041144074915982:True:=⟨⟩
theorem tw9707197366036270092:True:=⟨⟩
theorem tw9745250501323271072:True:=⟨⟩
theorem tw9763704468292422568:True:=⟨⟩
theorem tw9807748748008150630:True:=⟨⟩
theorem tw9890295791087796198:True:=⟨⟩
theorem tw9913792395184162191:True:=⟨⟩
end PySem.W.Fast
open PySem PySem.W PyProof.Rows
set_option maxRecDepth 100000 in
set_option maxHeartbeats 0 in
theorem PySem.Challenge.cw_closepoints_k32_kept_refused_holds : PySem.Challenge.rw_closepoints_k32_kept_refused.Holds := by
 w_on;o_law;z_head;(case hw=>w_witness2)
 k_fill
 refine Vc.Vj (λ_=>by kernel_rfl) (K32.walk (l:=PySem.Challenge.rw_closepoints_k32_kept_refused) rfl rfl (λw h Y=>Y) ?F)
 case F =>
  intro w mg fa h KX G hmg;refine' K32.all_mk KX G hmg ?g_Kept ?pg_Kept ?hd_Kept ?po_Kept ?sa_Kept ?n1_Kept ?n2_Kept ?n3_Kept ?n4_Kept ?mk_Kept ?kp_Kept ?a_q19 ?l_q19 ?c_q19 ?k_q19 ?a_q0 ?l_q0 ?c_q0 ?k_q0 ?a_q13 ?l_q13 ?c_q13 ?k_q13 ?a_q30 ?l_q30 ?c_q30 ?k_q30 ?a_q1 ?l_q1 ?c_q1 ?k_q1 ?a_q20 ?l_q20 ?c_q20 ?k_q20 ?a_q18 ?l_q18 ?c_q18 ?k_q18 ?a_q9 ?l_q9 ?c_q9 ?k_q9 ?a_q3 ?l_q3 ?c_q3 ?k_q3 ?a_q16 ?l_q16 ?c_q16 ?k_q16 ?a_q6 ?l_q6 ?c_q6 ?k_q6 ?a_q7 ?l_q7 ?c_q7 ?k_q7 ?a_q12 ?l_q12 ?c_q12 ?k_q12 ?a_q17 ?l_q17 ?c_q17 ?k_q17 ?a_q5 ?l_q5 ?c_q5 ?k_q5 ?i_q5 ?a_q26 ?l_q26 ?c_q26 ?k_q26 ?i_q26 ?a_q22 ?l_q22 ?c_q22 ?k_q22 ?i_q22 ?a_q14 ?l_q14 ?c_q14 ?k_q14 ?i_q14 ?a_q15 ?l_q15 ?c_q15 ?k_q15 ?i_q15 ?a_q27 ?l_q27 ?c_q27 ?k_q27 ?i_q27 ?a_q8 ?l_q8 ?c_q8 ?k_q8 ?i_q8 ?a_q21 ?l_q21 ?c_q21 ?k_q21 ?i_q21 ?a_q4 ?l_q4 ?c_q4 ?k_q4 ?i_q4 ?a_q2 ?l_q2 ?c_q2 ?k_q2 ?i_q2 ?a_q28 ?l_q28 ?c_q28 ?k_q28 ?a_q29 ?l_q29 ?c_q29 ?k_q29 ?a_q33 ?l_q33 ?c_q33 ?k_q33 ?a_q23 ?l_q23 ?c_q23 ?k_q23 ?a_q10 ?l_q10 ?c_q10 ?k_q10 ?a_q32 ?l_q32 ?c_q32 ?k_q32 ?a_q24 ?l_q24 ?c_q24 ?k_q24 ?a_q11 ?l_q11 ?c_q11 ?k_q11 ?a_q25 ?l_q25 ?c_q25 ?k_q25 ?a_q31 ?l_q31 ?c_q31 ?k_q31 ?a_q34 ?l_q34 ?c_q34 ?k_q34 ?g_NearError ?e_NearError ?m_NearError ?w_NearError ?g_NoPoints ?e_NoPoints ?m_NoPoints ?w_NoPoints ?g_NoWay ?e_NoWay ?m_NoWay ?w_NoWay ?g_NoPlace ?e_NoPlace ?m_NoPlace ?w_NoPlace ?g_NoBound ?e_NoBound ?m_NoBound ?w_NoBound ?g_NoNumber ?e_NoNumber ?m_NoNumber ?w_NoNumber ?g_TooMany ?e_TooMany ?m_TooMany ?w_TooMany ?g_NoPaper ?e_NoPaper ?m_NoPaper ?w_NoPaper ?g_NoText ?e_NoText ?m_NoText ?w_NoText ?g_NoForm ?e_NoForm ?m_NoForm ?w_NoForm ?g_NoneYet ?e_NoneYet ?m_NoneYet ?w_NoneYet ?nd_cls ?z_ValueError ?z_abs ?z_isinstance ?z_len ?z_list ?z_max ?z_min ?z_range ?z_sorted ?z_sum ?z_tuple ?z_zip ?u_SQUARES ?u_STREETS
  (case g_Kept=>ac_rfl)
  (case pg_Kept=>ac_rfl)
  (case hd_Kept=>ac_rfl)
  (case po_Kept=>ac_rfl)
  (case sa_Kept=>ac_rfl)
  (case n1_Kept=>ac_rfl)
  (case n2_Kept=>ac_rfl)
  (case n3_Kept=>ac_rfl)
  (case n4_Kept=>ac_rfl)
  (case mk_Kept=>ac_rfl)
  (case kp_Kept=>ac_rfl)
  (case a_q19=>ac_rfl)
  (case l_q19=>ac_rfl)
  (case c_q19=>ac_rfl)
  (case k_q19=>ac_rfl)
  (case a_q0=>ac_rfl)
  (case l_q0=>ac_rfl)
  (case c_q0=>ac_rfl)
  (case k_q0=>ac_rfl)
  (case a_q13=>ac_rfl)
  (case l_q13=>ac_rfl)
  (case c_q13=>ac_rfl)
  (case k_q13=>ac_rfl)
  (case a_q30=>ac_rfl)
  (case l_q30=>ac_rfl)
  (case c_q30=>ac_rfl)
  (case k_q30=>ac_rfl)
  (case a_q1=>ac_rfl)
  (case l_q1=>ac_rfl)
  (case c_q1=>ac_rfl)
  (case k_q1=>ac_rfl)
  (case a_q20=>ac_rfl)
  (case l_q20=>ac_rfl)
  (case c_q20=>ac_rfl)
  (case k_q20=>ac_rfl)
  (case a_q18=>ac_rfl)
  (case l_q18=>ac_rfl)
  (case c_q18=>ac_rfl)
  (case k_q18=>ac_rfl)
  (case a_q9=>ac_rfl)
  (case l_q9=>ac_rfl)
  (case c_q9=>ac_rfl)
  (case k_q9=>ac_rfl)
  (case a_q3=>ac_rfl)
  (case l_q3=>ac_rfl)
  (case c_q3=>ac_rfl)
  (case k_q3=>ac_rfl)
  (case a_q16=>ac_rfl)
  (case l_q16=>ac_rfl)
  (case c_q16=>ac_rfl)
  (case k_q16=>ac_rfl)
  (case a_q6=>ac_rfl)
  (case l_q6=>ac_rfl)
  (case c_q6=>ac_rfl)
  (case k_q6=>ac_rfl)
  (case a_q7=>ac_rfl)
  (case l_q7=>ac_rfl)
  (case c_q7=>ac_rfl)
  (case k_q7=>ac_rfl)
  (case a_q12=>ac_rfl)
  (case l_q12=>ac_rfl)
  (case c_q12=>ac_rfl)
  (case k_q12=>ac_rfl)
  (case a_q17=>ac_rfl)
  (case l_q17=>ac_rfl)
  (case c_q17=>ac_rfl)
  (case k_q17=>ac_rfl)
  (case a_q5=>ac_rfl)
  (case l_q5=>ac_rfl)
  (case c_q5=>ac_rfl)
  (case k_q5=>ac_rfl)
  (case i_q5=>ac_rfl)
  (case a_q26=>ac_rfl)
  (case l_q26=>ac_rfl)
  (case c_q26=>ac_rfl)
  (case k_q26=>ac_rfl)
  (case i_q26=>ac_rfl)
  (case a_q22=>ac_rfl)
  (case l_q22=>ac_rfl)
  (case c_q22=>ac_rfl)
  (case k_q22=>ac_rfl)
  (case i_q22=>ac_rfl)
  (case a_q14=>ac_rfl)
  (case l_q14=>ac_rfl)
  (case c_q14=>ac_rfl)
  (case k_q14=>ac_rfl)
  (case i_q14=>ac_rfl)
  (case a_q15=>ac_rfl)
  (case l_q15=>ac_rfl)
  (case c_q15=>ac_rfl)
  (case k_q15=>ac_rfl)
  (case i_q15=>ac_rfl)
  (case a_q27=>ac_rfl)
  (case l_q27=>ac_rfl)
  (case c_q27=>ac_rfl)
  (case k_q27=>ac_rfl)
  (case i_q27=>ac_rfl)
  (case a_q8=>ac_rfl)
  (case l_q8=>ac_rfl)
  (case c_q8=>ac_rfl)
  (case k_q8=>ac_rfl)
  (case i_q8=>ac_rfl)
  (case a_q21=>ac_rfl)
  (case l_q21=>ac_rfl)
  (case c_q21=>ac_rfl)
  (case k_q21=>ac_rfl)
  (case i_q21=>ac_rfl)
  (case a_q4=>ac_rfl)
  (case l_q4=>ac_rfl)
  (case c_q4=>ac_rfl)
  (case k_q4=>ac_rfl)
  (case i_q4=>ac_rfl)
  (case a_q2=>ac_rfl)
  (case l_q2=>ac_rfl)
  (case c_q2=>ac_rfl)
  (case k_q2=>ac_rfl)
  (case i_q2=>ac_rfl)
  (case a_q28=>ac_rfl)
  (case l_q28=>ac_rfl)
  (case c_q28=>ac_rfl)
  (case k_q28=>ac_rfl)
  (case a_q29=>ac_rfl)
  (case l_q29=>ac_rfl)
  (case c_q29=>ac_rfl)
  (case k_q29=>ac_rfl)
  (case a_q33=>ac_rfl)
  (case l_q33=>ac_rfl)
  (case c_q33=>ac_rfl)
  (case k_q33=>ac_rfl)
  (case a_q23=>ac_rfl)
  (case l_q23=>ac_rfl)
  (case c_q23=>ac_rfl)
  (case k_q23=>ac_rfl)
  (case a_q10=>ac_rfl)
  (case l_q10=>ac_rfl)
  (case c_q10=>ac_rfl)
  (case k_q10=>ac_rfl)
  (case a_q32=>ac_rfl)
  (case l_q32=>ac_rfl)
  (case c_q32=>ac_rfl)
  (case k_q32=>ac_rfl)
  (case a_q24=>ac_rfl)
  (case l_q24=>ac_rfl)
  (case c_q24=>ac_rfl)
  (case k_q24=>ac_rfl)
  (case a_q11=>ac_rfl)
  (case l_q11=>ac_rfl)
  (case c_q11=>ac_rfl)
  (case k_q11=>ac_rfl)
  (case a_q25=>ac_rfl)
  (case l_q25=>ac_rfl)
  (case c_q25=>ac_rfl)
  (case k_q25=>ac_rfl)
  (case a_q31=>ac_rfl)
  (case l_q31=>ac_rfl)
  (case c_q31=>ac_rfl)
  (case k_q31=>ac_rfl)
  (case a_q34=>ac_rfl)
  (case l_q34=>ac_rfl)
  (case c_q34=>ac_rfl)
  (case k_q34=>ac_rfl)
  (case g_NearError=>ac_rfl)
  (case e_NearError=>ac_rfl)
  (case m_NearError=>ac_rfl)
  (case w_NearError=>ac_rfl)
  (case g_NoPoints=>ac_rfl)
  (case e_NoPoints=>ac_rfl)
  (case m_NoPoints=>ac_rfl)
  (case w_NoPoints=>ac_rfl)
  (case g_NoWay=>ac_rfl)
  (case e_NoWay=>ac_rfl)
  (case m_NoWay=>ac_rfl)
  (case w_NoWay=>ac_rfl)
  (case g_NoPlace=>ac_rfl)
  (case e_NoPlace=>ac_rfl)
  (case m_NoPlace=>ac_rfl)
  (case w_NoPlace=>ac_rfl)
  (case g_NoBound=>ac_rfl)
  (case e_NoBound=>ac_rfl)
  (case m_NoBound=>ac_rfl)
  (case w_NoBound=>ac_rfl)
  (case g_NoNumber=>ac_rfl)
  (case e_NoNumber=>ac_rfl)
  (case m_NoNumber=>ac_rfl)
  (case w_NoNumber=>ac_rfl)
  (case g_TooMany=>ac_rfl)
  (case e_TooMany=>ac_rfl)
  (case m_TooMany=>ac_rfl)
  (case w_TooMany=>ac_rfl)
  (case g_NoPaper=>ac_rfl)
  (case e_NoPaper=>ac_rfl)
  (case m_NoPaper=>ac_rfl)
  (case w_NoPaper=>ac_rfl)
  (case g_NoText=>ac_rfl)
  (case e_NoText=>ac_rfl)
  (case m_NoText=>ac_rfl)
  (case w_NoText=>ac_rfl)
  (case g_NoForm=>ac_rfl)
  (case e_NoForm=>ac_rfl)
  (case m_NoForm=>ac_rfl)
  (case w_NoForm=>ac_rfl)
  (case g_NoneYet=>ac_rfl)
  (case e_NoneYet=>ac_rfl)
  (case m_NoneYet=>ac_rfl)
  (case w_NoneYet=>ac_rfl)
  (case nd_cls=>ac_rfl)
  (case z_ValueError=>ac_rfl)
  (case z_abs=>ac_rfl)
  (case z_isinstance=>ac_rfl)
  (case z_len=>ac_rfl)
  (case z_list=>ac_rfl)
  (case z_max=>ac_rfl)
  (case z_min=>ac_rfl)
  (case z_range=>ac_rfl)
  (case z_sorted=>ac_rfl)
  (case z_sum=>ac_rfl)
  (case z_tuple=>ac_rfl)
  (case z_zip=>ac_rfl)
  (case u_SQUARES=>ac_rfl)
  (case u_STREETS=>ac_rfl)
