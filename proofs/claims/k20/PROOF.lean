import PyProof.Rows.All
import Wide.All
import OpenK.AllK
import Wide.FinOn
import Lean
import PyProof.EqAt
import PyProof.EqKinds
import PyProof.TupleCall
import PySem.Challenge.RW_closepoints_k20_whole_cells_and_near
noncomputable section
set_option Elab.async false
set_option linter.all false
set_option hygiene false
local macro_rules | `(tactic| omega) => `(tactic| first | lia | omega +splitNatSub)
local macro_rules | `(⋯) => `((by omega))
local macro_rules | `(∅) => `((by decide))
set_option maxRecDepth 100000
local macro_rules|`(tactic| walk_at "9")=>`(tactic| first|k_is|kernel_rfl|decide)
local macro_rules | `(tactic| ac_rfl) => `(tactic| walk_at "9")
set_option compiler.extract_closed false
-- CHANGE: your row's module here,as the last of these rows
namespace L2
open PySem PySem.Spec PyProof.Rows
abbrev Key:=Sum Int Str
def o5:Key->Value->Bool
 | .inl k,v=>Value.isInt k v
 | .inr x,v=>Value.isStrOf x v
def aan(w:World):Key->Int
 | .inl k=>hashInt k
 | .inr x=>hashStr w x
theorem bW:∀ {k:Key} {v:Value},o5 k v=true->(∃i t,k=Sum.inl i/\v=Value.int i t)\/(∃x t,k=Sum.inr x/\v=Value.str x t)
 | .inl i,v,h=>by
  obtain⟨t,e⟩:=Value.isInt_shape (k:=i) (v:=v) h;exact .inl ⟨i,t,rfl,e⟩
 | .inr x,v,h=>by
  obtain⟨t,e⟩:=Value.isStrOf_shape (x:=x) (v:=v) h;exact .inr ⟨x,t,rfl,e⟩
theorem yG(i:Int)(t:Tok):o5 (.inl i) (.int i t)=true:=by simp [o5,Value.isInt]
theorem yH(x:Str)(t:Tok):o5 (.inr x) (.str x t)=true:=by simp [o5,Value.isStrOf]
theorem NU(a b:Int):decide ((Sum.inl a:Key)=Sum.inl b)=(a==b):=by
 by_cases e:a=b
 ·subst e;simp
 ·have h:¬(Sum.inl a:Key)=Sum.inl b:=λq=>e (Sum.inl.inj q)
  rw[decide_eq_false h];exact(beq_eq_false_iff_ne.mpr e).symm
theorem NY(a b:Str):decide ((Sum.inr a:Key)=Sum.inr b)=decide (a=b):=by
 by_cases e:a=b
 ·subst e;simp
 ·have h:¬(Sum.inr a:Key)=Sum.inr b:=λq=>e (Sum.inr.inj q)
  rw[decide_eq_false h,decide_eq_false e]
theorem NV(a:Int)(b:Str):decide ((Sum.inl a:Key)=Sum.inr b)=false:=decide_eq_false (λq=>nomatch q)
theorem NX(a:Str)(b:Int):decide ((Sum.inr a:Key)=Sum.inl b)=false:=decide_eq_false (λq=>nomatch q)
def cN(prog:Program)(w:World):PySem.KeyKind prog w Key where
 is:=o5
 hash:=aan w
 inj:=λv a b ha hb=>by
  rcases bW ha with⟨i,t,rfl,rfl⟩|⟨x,t,rfl,rfl⟩
  ·rcases bW hb with⟨j,u,rfl,e⟩|⟨y,u,rfl,e⟩
   ·injection e with e1 _;rw[e1]
   ·exact nomatch e
  ·rcases bW hb with⟨j,u,rfl,e⟩|⟨y,u,rfl,e⟩
   ·exact nomatch e
   ·injection e with e1 _;rw[e1]
 byValue:=λk v h=>by
  rcases bW h with⟨i,t,rfl,rfl⟩|⟨x,t,rfl,rfl⟩<;>rfl
 pyHash:=λhv h=>by
  rcases bW hv with⟨i,t,rfl,rfl⟩|⟨x,t,rfl,rfl⟩
  ·exact wpAny_pyHash_int h
  ·exact wpAny_pyHash_str h
 eqBool:=λhu hv h=>by
  rcases bW hu with⟨i,t,rfl,rfl⟩|⟨x,t,rfl,rfl⟩
  ·rcases bW hv with⟨j,u,rfl,rfl⟩|⟨y,u,rfl,rfl⟩
   ·rw[NU]at h;exact wpAny_eqBool_int h
   ·rw[NV]at h;exact SeqAt.EqAt.int_str i t y u _ _ _ _ h
  ·rcases bW hv with⟨j,u,rfl,rfl⟩|⟨y,u,rfl,rfl⟩
   ·rw[NX]at h;exact SeqAt.EqAt.str_int x t j u _ _ _ _ h
   ·rw[NY]at h;exact wpAny_eqBool_str h
 «strs»:=λk x t v h=>by
  rcases bW h with⟨i,u,rfl,e⟩|⟨y,u,rfl,e⟩
  ·exact nomatch e
  ·injection e with e1 _
   subst e1;cases v<;>rfl
theorem uf(prog:Program)(w:World)(i:Int)(t:Tok):(cN prog w).is (.inl i) (.int i t)=true:=yG i t
theorem ug(prog:Program)(w:World)(x:Str)(t:Tok):(cN prog w).is (.inr x) (.str x t)=true:=yH x t
end L2
namespace L2
open PySem PySem.Spec PyProof.Rows
inductive V where
 | aX|bl (b:Bool)|int (i:Int)|str (x:Str)|Ui (b:Array UInt8)|SR (b:UInt64)|ref (a:Addr)|ty (n:String)
 deriving DecidableEq
def RelV:V->Value->Prop
 | .aX,u=>u=Value.none
 | .bl b,u=>u=Value.bool b
 | .int i,u=>∃t,u=Value.int i t
 | .str x,u=>∃t,u=Value.str x t
 | .Ui b,u=>∃t,u=Value.bytes b t
 | .SR b,u=>∃t,u=Value.float b t
 | .ref a,u=>u=Value.ref a
 | .ty n,u=>u=Value.type n
abbrev Vals:List V->List Value->Prop:=Paired RelV
theorem Vals.length{xs:List V}{us:List Value}(r:Vals xs us):xs.length=us.length:=Paired.length r
theorem Vals.get:∀ {xs:List V} {us:List Value} {i:Nat} {x:V},Vals xs us->xs[i]?=some x->∃u,us[i]?=some u/\RelV x u
 | _,_,_,_,.nil,e=>by simp at e
 | _,_,0,_,.cons r _,e=>by simp at e;subst e;exact⟨_,rfl,r⟩
 | _,_,i+1,x,.cons _ t,e=>by
  obtain⟨u,h1,h2⟩:=Vals.get (i:=i) (x:=x) t (by simpa using e)
  exact⟨u,by simpa using h1,h2⟩
theorem Vals.set{x:V}{u:Value}(r:RelV x u):∀ {xs:List V} {us:List Value} (i:Nat),Vals xs us->Vals (xs.set i x) (us.set i u)
 | _,_,_,.nil=>.nil
 | _,_,0,.cons _ t=>.cons r t
 | _,_,i+1,.cons q t=>.cons q (Vals.set r i t)
theorem Vals.append:∀ {xs ys:List V} {us ws:List Value},Vals xs us->Vals ys ws->Vals (xs++ys) (us++ws)
 | _,_,_,_,.nil,s=>s
 | _,_,_,_,.cons r t,s=>.cons r (Vals.append t s)
theorem Vals.take:∀ {xs:List V} {us:List Value} (n:Nat),Vals xs us->Vals (xs.take n) (us.take n)
 | _,_,0,_=>.nil
 | _,_,_+1,.nil=>.nil
 | _,_,n+1,.cons r t=>.cons r (Vals.take n t)
theorem Vals.drop:∀ {xs:List V} {us:List Value} (n:Nat),Vals xs us->Vals (xs.drop n) (us.drop n)
 | _,_,0,r=>r
 | _,_,_+1,.nil=>.nil
 | _,_,n+1,.cons _ t=>Vals.drop n t
def mC:Option V->Option Value->Prop
 | some v,some u=>RelV v u
 | none,none=>True
 | _,_=>False
def KV{κ:Type}:List (κ×V)->List (κ×Value)->Prop:=Paired λ(p:κ×V) (q:κ×Value)=>p.1=q.1/\RelV p.2 q.2
def kV:Key->V
 | .inl i=>.int i
 | .inr x=>.str x
inductive HO where
 /-- a list -/
 | lst (xs:List V)
 /-- a tuple (never changes) -/
 | tup (xs:List V)
 /-- a dict whose keys are ints and texts;one whose keys are tuples of ints and texts (the empty one is both) -/
 | dK (kvs:List (Key×V))|dT (kvs:List (List Key×V))
 /-- a set of ints: its members,its size -/
 | set (S:Int->Bool) (n:Nat)
 /-- an instance of the class at C,its dict at dx,its attributes -/
 | ins (C dx:Addr) (fs:List (Str×V))
 /-- the dict of the instance at x -/
 | own (x:Addr)
 /-- the dict of an exception -/
 | xd (fs:List (Str×V))
 /-- a bound method,f of x -/
 | met (f x:Addr)
 /-- a range object lo,lo+1,.. below hi -/
 | YL (lo hi:Int)
 /-- a thing that is known to the object (the script;a dict while a loop walks it): read,never written while it is so -/
 | qg (o:Obj) (u:HO)
 /-- a code object's table -/
 | Ka (ps:Array Value)
 /-- the same,and it may grow by the code of one lambda: as it was,the lambda's place,its name -/
 | lam (ps:Array Value) (pos:Pos) (qual:Str)
 /-- any other thing,by what is true of its one object (a def of one's own: SetO a S n:=HO.ext λh=>..) -/
 | ext (φ:Heap->Prop)
abbrev Hp:=Addr->Option HO
def upd(H:Hp)(a:Addr)(o:HO):Hp:=λb=>if b=a then some o else H b
theorem ay{H:Hp}{a:Addr}{o:HO}:upd H a o a=some o:=by unfold upd;rw[if_pos rfl]
theorem ak{H:Hp}{a b:Addr}{o:HO}(h:b≠a):upd H a o b=H b:=by unfold upd;rw[if_neg h]
theorem Wr{H:Hp}{a b:Addr}{o u:HO}(h:H a=some o)(h':H b=some u)(d:o≠u):a≠b:=by
 intro e;subst e;rw[h]at h';exact d (Option.some.inj h')
theorem cm{H:Hp}{a b:Addr}{o:HO}(h:H a=some o)(h':H b=none):a≠b:=by
 intro e;subst e;rw[h]at h';cases h'
section
variable (P:Program)(w:World)
def bR(H:Hp)(h:Heap)(a:Addr):HO->Prop
 | .lst xs=>xs.length<=sizeLine/\∃(its:List Value) (n:Nat),Vals xs its/\h.get? a=some {cls:=.type "list",data:=.seq its.toArray n}
 | .tup xs=>xs.length<=sizeLine/\∃its:List Value,Vals xs its/\IsTup h a its.toArray
 | .dK kvs=>kvs.length<=sizeLine/\(a==sysModules)=false/\∃vs,KV kvs vs/\h.DictOf (cN P w) a vs
 | .dT kvs=>kvs.length<=sizeLine/\(a==sysModules)=false/\∃xs:List (List Key×Addr×Value),
   Paired (λ(p:List Key×V) (q:List Key×Addr×Value)=>p.1=q.1/\H q.2.1=some (.tup (p.1.map kV))/\RelV p.2 q.2.2) kvs xs /\
   ∃o es ep,h.get? a=some o/\o.ExactDict/\o.data=.dict es ep/\es.toList=xs.map (entryOfKey (tupleKind (cN P w)))/\(xs.map (·.1)).Nodup
 | .set S n=>h.SetOf (intKind P w) a S n
 | .ins C dx fs=>H dx=some (.own a)/\fs.length<=1000/\dx≠a/\h.get? a=some (PySem.W.instObj C dx) /\
   ∃mA,h.Ns1 dx mA/\(∀f,mC (fs.lookup f) (mA f))/\PySem.Within mA (fs.map (·.1))
 | .own _=>∃o,h.get? a=some o
 | .xd fs=>∃mA,h.Ns1 a mA/\∀f,mC (fs.lookup f) (mA f)
 | .YL lo hi=>∃t u v,h.get? a=some {cls:=.type "range",data:=.fields #[.int lo t,.int hi u,.int 1 v]}
 | .qg o u=>h.get? a=some o/\bR H h a u
 | .Ka ps=>h.get? a=some {cls:=.none,data:=.fields ps}
 | .lam ps pos qual=>∃more,h.get? a=some {cls:=.none,data:=.fields (ps++more)}/\TriplesOk (ps++more).toList/\(codeAmong pos (ps++more).toList=none\/∃c' o vs t,codeAmong pos (ps++more).toList=some (.ref c')/\H c'=some (.qg o (.own a))/\o.data=.fields vs/\vs[1]?=some (.str qual t))
 | .met f x=>h.get? a=some (PySem.W.methodObj (.ref f) (.ref x))
 | .ext φ=>φ h/\(∃o,h.get? a=some o)/\∀h1 h2:Heap,φ h1->(∀o,h1.get? a=some o->h2.get? a=some o)->φ h2
def fe(H:Hp)(h:Heap):Prop:=∀a o,H a=some o->bR P w H h a o
end
section
variable {P:Program}{w:World}{H H':Hp}{h h':Heap}{a:Addr}{o:HO}
theorem bR.lt(x:bR P w H h a o):a<h.objs.size:=by
 cases o with
 | lst xs=>obtain⟨_,_,_,_,e⟩:=x;exact Heap.lt_size e
 | tup xs=>obtain⟨_,_,_,p⟩:=x;exact p.lt
 | dK kvs=>obtain⟨_,_,_,_,o,_,_,e,_⟩:=x;exact Heap.lt_size e
 | dT kvs=>obtain⟨_,_,_,_,o,_,_,e,_⟩:=x;exact Heap.lt_size e
 | set S n=>obtain⟨o,_,_,_,e,_⟩:=x;exact Heap.lt_size e
 | ins C dx fs=>obtain⟨_,_,_,e,_⟩:=x;exact Heap.lt_size e
 | own y=>obtain⟨_,e⟩:=x;exact Heap.lt_size e
 | xd fs=>obtain⟨_,⟨_,_,_,e,_⟩,_⟩:=x;exact Heap.lt_size e
 | YL lo hi=>obtain⟨_,_,_,e⟩:=x;exact Heap.lt_size e
 | qg ob u=>obtain⟨e,_⟩:=x;exact Heap.lt_size e
 | Ka ps=>exact Heap.lt_size (show h.get? a=some _ from x)
 | lam ps pos qual=>obtain⟨_,e,_⟩:=x;exact Heap.lt_size e
 | met f y=>exact Heap.lt_size (show h.get? a=some _ from x)
 | ext φ=>obtain⟨_,⟨_,e⟩,_⟩:=x;exact Heap.lt_size e
theorem Paired.N7{α β:Type}{F G:α->β->Prop}:∀ {Dd:List α} {Df:List β},Paired F Dd Df->(∀a b,F a b->G a b)->Paired G Dd Df
 | _,_,.nil,_=>.nil
 | _,_,.cons r t,f=>.cons (f _ _ r) (Paired.N7 t f)
theorem bR.nH(x:bR P w H h a o)(k:∀b u,(b=a\/H b=some (.own a))->h.get? b=some u->h'.get? b=some u)
  (ho:∀b,H b=some (.own a)->H' b=some (.own a)) (ht:∀b xs,H b=some (.tup xs)->H' b=some (.tup xs)) (hf:∀b o u,H b=some (.qg o u)->H' b=some (.qg o u):=by exactλ_ _ _ q=>q):bR P w H' h' a o:=by
 induction o with
 | lst xs=>obtain⟨z,its,n,r,e⟩:=x;exact⟨z,its,n,r,k _ _ (.inl rfl) e⟩
 | tup xs=>obtain⟨z,its,r,ob,e,c⟩:=x;exact⟨z,its,r,ob,k _ _ (.inl rfl) e,c⟩
 | dK kvs=>obtain⟨z,y,vs,r,ob,es,ep,e,c⟩:=x;exact⟨z,y,vs,r,ob,es,ep,k _ _ (.inl rfl) e,c⟩
 | dT kvs =>
  obtain⟨z,y,xs,r,ob,es,ep,e,c⟩:=x;exact⟨z,y,xs,Paired.N7 r λp q z=>⟨z.1,ht _ _ z.2.1,z.2.2⟩,ob,es,ep,k _ _ (.inl rfl) e,c⟩
 | set S n=>obtain⟨ob,es,ep,t,e,c⟩:=x;exact⟨ob,es,ep,t,k _ _ (.inl rfl) e,c⟩
 | ins C dx fs =>
  obtain⟨d,z,ne,e,mA,⟨od,es,ep,e2,c⟩,r⟩:=x;exact⟨ho _ d,z,ne,k _ _ (.inl rfl) e,mA,⟨od,es,ep,k _ _ (.inr d) e2,c⟩,r⟩
 | own y=>obtain⟨ob,e⟩:=x;exact⟨ob,k _ _ (.inl rfl) e⟩
 | xd fs=>obtain⟨mA,⟨od,es,ep,e,c⟩,r⟩:=x;exact⟨mA,⟨od,es,ep,k _ _ (.inl rfl) e,c⟩,r⟩
 | YL lo hi=>obtain⟨t,u,v,e⟩:=x;exact⟨t,u,v,k _ _ (.inl rfl) e⟩
 | qg ob u ih=>obtain⟨e,q⟩:=x;exact⟨k _ _ (.inl rfl) e,ih q⟩
 | lam ps pos qual =>
  obtain⟨more,e,tr,c⟩:=x;refine⟨more,k _ _ (.inl rfl) e,tr,?_⟩;rcases c with c|⟨c',o,vs,t,c1,c2,c3⟩
  ·exact .inl c
  ·exact .inr ⟨c',o,vs,t,c1,hf _ _ _ c2,c3⟩
 | Ka ps =>
  have e:h.get? a=some {cls:=.none,data:=.fields ps}:=x;show h'.get? a=some {cls:=.none,data:=.fields ps};exact k a _ (.inl rfl) e
 | met f y =>
  have e:h.get? a=some (PySem.W.methodObj (.ref f) (.ref y)):=x;show h'.get? a=some (PySem.W.methodObj (.ref f) (.ref y));exact k a _ (.inl rfl) e
 | ext φ=>obtain⟨p,⟨o,e⟩,st⟩:=x;exact⟨st _ _ p λo q=>k _ _ (.inl rfl) q,⟨o,k _ _ (.inl rfl) e⟩,st⟩
theorem fe.lt(x:fe P w H h)(e:H a=some o):a<h.objs.size:=(x a o e).lt
theorem fe.fresh(x:fe P w H h)(e:h.objs.size<=a):H a=none:=by
 cases q:H a with
 | none=>rfl
 | some u=>exact absurd (Nat.lt_of_lt_of_le (x.lt q) e) (Nat.lt_irrefl _)
theorem fe.kept(x:fe P w H h)(k:∀b u,h.get? b=some u->h'.get? b=some u):fe P w H h':=λa o e =>
 (x a o e).nH (λb u _ q=>k b u q) (λ_ q=>q) λ_ _ q=>q
theorem fe.laid(x:fe P w H h)(k:∀b u,h.get? b=some u->h'.get? b=some u)(hp:h.objs.size<=a)(new:bR P w (upd H a o) h' a o):fe P w (upd H a o) h':=λb u e=>by
 have hn:=x.fresh hp
 by_cases hb:b=a
 ·subst hb;rw[ay]at e;cases e;exact new
 ·rw[ak hb]at e
  exact(x b u e).nH (λc v _ q=>k c v q) (λc q=>by rw[ak (cm q hn)];exact q) (λc xs q=>by rw[ak (cm q hn)];exact q) λc o u q=>by rw[ak (cm q hn)];exact q
end
def Rd(H:Hp)(a:Addr)(u:HO):Prop:=H a=some u\/∃o,H a=some (.qg o u)
theorem Rd.of{H:Hp}{a:Addr}{u:HO}(h:H a=some u):Rd H a u:=.inl h
theorem Rd.ok{P:Program}{w:World}{H:Hp}{h:Heap}{a:Addr}{u:HO}(r:Rd H a u)(x:fe P w H h):bR P w H h a u:=by
 rcases r with r|⟨o,r⟩
 ·exact x a u r
 ·obtain⟨_,q⟩:=x a _ r
  exact q
def TQ:Option HO->Prop
 | some (.lst _)=>True
 | some (.dK _)=>True
 | some (.dT _)=>True
 | some (.set _ _)=>True
 | some (.ins _ _ _)=>True
 | some (.ext _)=>True
 | some (.lam _ _ _)=>True
 | _=>False
section
variable {P:Program}{w:World}{H:Hp}{h h':Heap}{x e:Addr}{o':HO}
theorem fe.write(ok:fe P w H h)(mu:TQ (H x))(he:e=x\/H e=some (.own x))(k:∀b u,b≠e->h.get? b=some u->h'.get? b=some u)(S2:∃u,h'.get? e=some u)
  (new:bR P w (upd H x o') h' x o'):fe P w (upd H x o') h':=λb u q=>by
 have Wu:∀c y,H c=some (.own y)->c≠x:=λc y r z=>by subst z;rw[r]at mu;exact mu
 have aat:∀c xs,H c=some (.tup xs)->c≠x:=λc xs r z=>by subst z;rw[r]at mu;exact mu
 by_cases hb:b=x
 ·subst hb;rw[ay]at q;cases q;exact new
 ·rw[ak hb]at q
  by_cases MX:b=e
  ·have q':H b=some (.own x):=by
    rcases he with z|z
    ·exact absurd (MX.trans z) hb
    ·rw[MX];exact z
   rw[q]at q';cases q';obtain⟨v,hv⟩:=S2;exact⟨v,by rw[MX];exact hv⟩
  ·refine(ok b u q).nH (λc v hc r=>k c v ?_ r) (λc r=>by rw[ak (Wu c b r)];exact r) (λc xs r=>by rw[ak (aat c xs r)];exact r) λc o u r=>by rw[ak (λz=>by subst z;rw[r]at mu;exact mu)];exact r
   rcases hc with rfl|hc
   ·exact MX
   ·rintro rfl
    rcases he with z|z
    ·exact Wu c b hc z
    ·rw[hc]at z;cases z;exact hb rfl
end
structure Un(fs ex:List Addr)(H H':Hp)(h h':Heap):Prop where
 keep:∀b o,h.get? b=some o->H b=none->b∉fs->b∉ex->h'.get? b=some o
 slot:∀b o,h.get? b=some o->H b=none->b∈fs->b∉ex->∃sl,h'.get? b=some {o with slots:=sl}
 free:∀b o,h.get? b=some o->H b=none->b∉ex->H' b=none
 there:∀b o,h.get? b=some o->b∉ex->∃o',h'.get? b=some o'
 nO:∀b xs,H b=some (.tup xs)->H' b=some (.tup xs)
 lF:∀b o u,H b=some (.qg o u)->H' b=some (.qg o u)
 nK:∀b ps,H b=some (.Ka ps)->∃more,H' b=some (.Ka (ps++more))
section
variable {fs fs' ex fM:List Addr}{H H1 H2:Hp}{h h1 h2 h':Heap}{a x e:Addr}{o:HO}
theorem Un.any(u:Un fs ex H H1 h h1){b:Addr}{ob:Obj}(q:h.get? b=some ob)(n:H b=none)(hx:b∉ex):∃sl,h1.get? b=some {ob with slots:=sl}:=by
 by_cases hb:b∈fs
 ·exact u.slot b ob q n hb hx
 ·exact⟨ob.slots,u.keep b ob q n hb hx⟩
theorem Un.kept(k:∀b u,h.get? b=some u->h'.get? b=some u):Un fs ex H H h h':=
 ⟨λb ob q _ _ _=>k b ob q,λb ob q _ _ _=>⟨ob.slots,k b ob q⟩,λ_ _ _ n _=>n,λb ob q _=>⟨ob,k b ob q⟩,λ_ _ q=>q,λ_ _ _ q=>q,λ_ ps q=>⟨#[],by rw[q];simp⟩⟩
theorem Un.refl:Un fs ex H H h h:=Un.kept λ_ _ q=>q
theorem Un.laid(k:∀b u,h.get? b=some u->h'.get? b=some u)(hp:h.objs.size<=a)(hn:H a=none):Un fs ex H (upd H a o) h h' where
 keep:=λb u q _ _ _=>k b u q
 slot:=λb u q _ _ _=>⟨u.slots,k b u q⟩
 free:=λb u q n _=>by rw[ak (Nat.ne_of_lt (Nat.lt_of_lt_of_le (Heap.lt_size q) hp))];exact n
 there:=λb u q _=>⟨u,k b u q⟩
 nO:=λb xs q=>by rw[ak (cm q hn)];exact q
 lF:=λb u xs q=>by rw[ak (cm q hn)];exact q
 nK:=λb ps q=>⟨#[],by rw[ak (cm q hn),q];simp⟩
theorem Un.write(mu:TQ (H x))(he:e=x\/H e=some (.own x))(k:∀b u,b≠e->h.get? b=some u->h'.get? b=some u)(S2:∃u,h'.get? e=some u):Un fs ex H (upd H x o) h h':=by
 have hx:∀b,H b=none->b≠x:=λb n z=>by subst z;rw[n]at mu;exact mu
 have hb:∀b,H b=none->b≠e:=λb n z=>by
  subst z;rcases he with r|r
  ·exact hx b n r
  ·rw[n]at r;cases r
 have hm:∀b u,H b=some u->¬TQ (some u)->b≠x:=λb u q nm z=>by subst z;rw[q]at mu;exact nm mu
 refine⟨λb u q n _ _=>k b u (hb b n) q,λb u q n _ _=>⟨u.slots,k b u (hb b n) q⟩,λb u q n _=>by rw[ak (hx b n)];exact n,λb u q _=>?_,
  λb xs q=>by rw[ak (hm b _ q λz=>z)];exact q,λb u xs q=>by rw[ak (hm b _ q λz=>z)];exact q,λb ps q=>⟨#[],by rw[ak (hm b _ q λz=>z),q];simp⟩⟩
 by_cases MX:b=e
 ·subst MX;exact S2
 ·exact⟨u,k b u MX q⟩
end
def YY(h:Heap)(H:Hp):List Addr:=(List.range h.objs.size).filter λa=>(H a).isSome
def qo(h:Heap)(H:Hp):Heap:=PySem.W.hideAll h (YY h H)
theorem yz(h:Heap)(H:Hp):(qo h H).objs.size=h.objs.size:=PySem.W.hideAll_size _ _
theorem CG{h:Heap}{H:Hp}{b:Addr}{o:Obj}(e:h.get? b=some o)(n:H b=none):(qo h H).get? b=some o:=
 PySem.W.hideAll_get _ e λhm=>by
  have q:(H b).isSome=true:=(List.mem_filter.mp hm).2;rw[n]at q;simp at q
theorem Ha{h:Heap}{H:Hp}{b:Addr}{o:Obj}(e:(qo h H).get? b=some o):h.get? b=some o/\H b=none:=by
 have e':h.get? b=some o:=PySem.W.of_hideAll (YY h H) e;refine⟨e',?_⟩;cases q:H b with
 | none=>rfl
 | some x =>
  have hm:b∈YY h H:=List.mem_filter.mpr ⟨List.mem_range.mpr (Heap.lt_size e'),by simp [q]⟩
  have z:(qo h H).get? b=none:=PySem.W.hideAll_none (YY h H) hm;rw[z]at e;cases e
def FQ(g h:Heap)(L:Addr):List (Addr×Obj):=(List.range h.objs.size).filterMap λa=>if a=L\/(g.get? a).isSome=true then none else(h.get? a).map λo=>(a,o)
def rest(g h:Heap)(L d:Addr):List (Addr×Obj):=(FQ g h L).filter λp=>decide (p.1≠d)
end L2
namespace L2
open PySem PySem.Spec PyProof.Rows
structure Mod(K:PySem.W.Frag)(mg:Str->Option Value)(base:Heap):Prop where
 Wm:K.In base
 glob:base.Ns mainGlobals mg
 blt:∃mb,base.Ns builtinsNs mb/\∀x:Str,x≠"__name__"->mb x=bootBuiltins x
 nolimit:base.NoLimit
structure Cx where
 prog:Program
 w:World
 K:PySem.W.Frag
 mg:Str->Option Value
 base:Heap
 A:Around
 N:List Str
 bP:Shared
 j8:Hp
 env:Env
 outer:List Env
 stack:List Env
 ex:List Addr
 fn:Str->Bool
 calm:Bool
 pn:List (Addr×Obj)
 xe:Value->Shared->Prop
def iM(l:List Env):List Addr:=l.filterMap (·.frame)
abbrev Cx.fs(X:Cx):List Addr:=iM X.outer
def FP(sc:Scope)(x:Str):Prop:=sc.names.lookup x=some .local\/sc.names.lookup x=some .cell\/sc.names.lookup x=some .free
def Loc(sc:Scope)(x:Str):Prop:=sc.names.lookup x=some .local\/sc.names.lookup x=some .cell
def Look(env:Env)(h:Heap)(m:Str->Option Value)(x:Str)(u:Value):Prop:=
 (env.kindOf x=some .local/\m x=some u)\/((env.kindOf x=some .cell\/env.kindOf x=some .free)/\∃c,env.cells.lookup x=some c/\h.IsCell c (some u))
structure Cx.Ok(X:Cx):Prop where
 mod:Mod X.K X.mg X.base
 kind:X.env.scope.kind=.function
 glob:X.env.globals=mainGlobals
 blt:X.env.builtins=builtinsNs
 above:X.bP.heap.objs.size<=X.env.locals
 inj:∀x y c,X.env.cells.lookup x=some c->X.env.cells.lookup y=some c->x=y
 has:∀x,(X.env.kindOf x=some .cell\/X.env.kindOf x=some .free)->∃c,X.env.cells.lookup x=some c
 Jp:∀x c,X.fn x=true->X.env.cells.lookup x=some c->X.bP.heap.objs.size<=c
 hd:X.calm=true->X.A.handled=none
 frames:X.A.frames=some X.stack
 RM:X.stack=X.outer\/(X.stack=X.env::X.outer/\X.env.frame=some X.env.locals)
 Vh:∀b∈X.ex,b≠X.env.locals/\∀x c,X.env.cells.lookup x=some c->c≠b
 bs:∀b o,X.base.get? b=some o->X.bP.heap.get? b=some o/\X.j8 b=none
 zr:X.base.objs.size<=X.bP.heap.objs.size
 um:∀b o,X.base.get? b=some o->b∉X.ex
 vG:∀b∈X.ex,b∉X.fs
 iO:X.bP.heap.FunFrames X.base X.outer
 Gu:∀b∈X.fs,X.j8 b=none
structure Inv(X:Cx)(pins:List (Addr×Obj))(σ:List (Option V))(H:Hp)(s:Shared):Prop where
 ok:X.Ok
 os:s.os=X.bP.os
 bare:AllBare s.gens
 base:Un X.fs X.ex X.j8 H X.bP.heap s.heap
 loc:∃m,s.heap.Ns X.env.locals m/\∀(i:Nat) (x:Str) (v:V),X.N[i]?=some x->σ[i]?=some (some v)->FP X.env.scope x->∃u,RelV v u/\Look X.env s.heap m x u
 cell:∀x c,X.env.cells.lookup x=some c->∃v,s.heap.IsCell c v
 free:H X.env.locals=none
 dy:∀x c,X.env.cells.lookup x=some c->H c=none
 pin:∀p∈X.pn++pins,s.heap.get? p.1=some p.2/\H p.1=none/\p.1≠X.env.locals/\p.1∉X.fs/\∀v,p.2.data≠.cell v
 bC:fe X.prog X.w H s.heap
 len:σ.length=X.N.length
section
variable {X:Cx}{pins:List (Addr×Obj)}{σ:List (Option V)}{H H':Hp}{s:Shared}{h':Heap}
theorem Cx.Ok.aaq(ok:X.Ok){b:Addr}{o:Obj}(e:X.base.get? b=some o):b∉X.fs:=λhb=>by
 have:=(ok.iO.mem hb).1;rw[e]at this;cases this
theorem Inv.bs(I:Inv X pins σ H s):∀b o,X.base.get? b=some o->s.heap.get? b=some o/\H b=none:=λb o e =>
 ⟨I.base.keep b o (I.ok.bs b o e).1 (I.ok.bs b o e).2 (I.ok.aaq e) (I.ok.um b o e),I.base.free b o (I.ok.bs b o e).1 (I.ok.bs b o e).2 (I.ok.um b o e)⟩
theorem Inv.bk(I:Inv X pins σ H s):∀b o,X.base.get? b=some o->s.heap.get? b=some o:=λb o e=>(I.bs b o e).1
theorem Inv.mod(I:Inv X pins σ H s):Mod X.K X.mg X.base:=I.ok.mod
theorem Inv.nY(I:Inv X pins σ H s):X.K.In s.heap:=I.ok.mod.Wm.keeps I.bk
theorem Inv.fr(I:Inv X pins σ H s):∃m,Fr X.base X.env.locals s.heap m:=
 let ⟨m,hn,_⟩:=I.loc
 ⟨m,hn,I.bk,Nat.le_trans I.ok.zr I.ok.above⟩
theorem Inv.lt(I:Inv X pins σ H s):X.env.locals<s.heap.objs.size:=let ⟨_,hn,_⟩:=I.loc;hn.lt
theorem Inv.sz(I:Inv X pins σ H s):X.bP.heap.objs.size<=s.heap.objs.size:=Nat.le_trans I.ok.above (Nat.le_of_lt I.lt)
theorem Inv.aar(I:Inv X pins σ H s){a:Addr}(h:s.heap.objs.size<=a):a∉X.fs:=λhb=>by
 obtain⟨_,o,ho,_⟩:=I.ok.iO.mem hb;exact absurd (Nat.lt_of_lt_of_le (Heap.lt_size ho) (Nat.le_trans I.sz h)) (Nat.lt_irrefl _)
theorem Inv.A8(I:Inv X pins σ H s):∀x c,X.env.cells.lookup x=some c->c≠X.env.locals:=λx c e z=>by
 obtain⟨v,o,ho,hd⟩:=I.cell x c e;obtain⟨m,⟨o',es,ep,GN,zt,_⟩,_⟩:=I.loc;rw[z,GN]at ho;cases ho;rw[zt]at hd;cases hd
theorem Inv.iO(I:Inv X pins σ H s):s.heap.FunFrames X.base X.outer:=by
 have all:∀(l:List Env),(∀b∈iM l,b∈X.fs)->X.bP.heap.FunFrames X.base l->s.heap.FunFrames X.base l:=by
  intro l
  induction l with
  | nil=>intro _ _;trivial
  | cons env r ih =>
   intro hs hl;obtain⟨hk,⟨L,o,hf,hn,ho,hd⟩,hr⟩:=hl;have hL:L∈X.fs:=hs L (by unfold iM;rw[List.filterMap_cons,hf];exact List.mem_cons_self)
   obtain⟨sl,e⟩:=I.base.slot L o ho (I.ok.Gu L hL) hL λz=>I.ok.vG L z hL;exact⟨hk,⟨L,_,hf,hn,e,hd⟩,ih (λb hb=>hs b (by unfold iM;rw[List.filterMap_cons,hf];exact List.mem_cons_of_mem _ hb)) hr⟩
 exact all X.outer (λ_ hb=>hb) I.ok.iO
theorem Inv.stack(I:Inv X pins σ H s):s.heap.FunFrames X.base X.stack:=by
 rcases I.ok.RM with e|⟨e,hf⟩
 ·rw[e];exact I.iO
 ·rw[e]
  obtain⟨m,hn,_⟩:=I.loc;refine .cons (by rw[I.ok.kind];decide) hf hn ?_ I.iO
  exact Heap.get?_none_of_le (Nat.le_trans I.ok.zr I.ok.above)
theorem Inv.rR(I:Inv X pins σ H s):∀b∈iM X.stack,b∈X.env.locals::X.fs:=λb hb=>by
 rcases I.ok.RM with e|⟨e,hf⟩
 ·rw[e]at hb;exact List.mem_cons_of_mem _ hb
 ·rw[e]at hb
  unfold iM at hb;rw[List.filterMap_cons,hf]at hb;exact hb
theorem Inv.jP(I:Inv X pins σ H s):∀b∈iM X.stack,H b=none:=λb hb=>by
 rcases List.mem_cons.mp (I.rR b hb)with e|hb
 ·rw[e];exact I.free
 ·obtain⟨_,o,ho,_⟩:=I.ok.iO.mem hb
  exact I.base.free b o ho (I.ok.Gu b hb) λz=>I.ok.vG b z hb
theorem Inv.step{g':Array GenState}{t':Nat}{d':Drawn}{ch:List Addr}(I:Inv X pins σ H s)
  (Fx:∀b∈ch,(b∈X.ex\/X.bP.heap.get? b=none)/\b≠X.env.locals/\(∀x c,X.env.cells.lookup x=some c->c≠b)/\∀p∈X.pn++pins,p.1≠b)
  (keep:∀b o,b≠X.env.locals->b∉X.fs->b∉ch->s.heap.get? b=some o->H b=none->h'.get? b=some o)
  (slot:∀b o,b≠X.env.locals->b∈X.fs->b∉ch->s.heap.get? b=some o->H b=none->∃sl,h'.get? b=some {o with slots:=sl}) (free:∀b o,b∉ch->s.heap.get? b=some o->H b=none->H' b=none)
  (there:∀b o,b∉ch->s.heap.get? b=some o->∃o',h'.get? b=some o')
  (nO:∀b xs,H b=some (.tup xs)->H' b=some (.tup xs)) (lF:∀b o u,H b=some (.qg o u)->H' b=some (.qg o u)) (nK:∀b ps,H b=some (.Ka ps)->∃more,H' b=some (.Ka (ps++more)))
  (ns:∀m,s.heap.Ns X.env.locals m->h'.Ns X.env.locals m) (bC:fe X.prog X.w H' h') (hg:AllBare g'):
  Inv X pins σ H' {s with heap:=h',gens:=g',drawn:=d',toks:=t'}:=by
 have neL:∀b o,X.bP.heap.get? b=some o->b≠X.env.locals:=λb o e=>Nat.ne_of_lt (Nat.lt_of_lt_of_le (Heap.lt_size e) I.ok.above);have YH:∀b o,X.bP.heap.get? b=some o->b∉X.ex->b∉ch:=λb o e hx hb=>by
  rcases(Fx b hb).1 with z|z
  ·exact hx z
  ·rw[e]at z;cases z
 have cellK:∀x c,X.env.cells.lookup x=some c->∀v,s.heap.IsCell c v->h'.IsCell c v:=λx c e v ⟨o,ho,hd⟩=>by
  have Dg:c∉ch:=λz=>(Fx c z).2.2.1 x c e rfl
  by_cases hc:c∈X.fs
  ·obtain⟨sl,q⟩:=slot c o (I.A8 x c e) hc Dg ho (I.dy x c e)
   exact⟨_,q,hd⟩
  ·exact⟨o,keep c o (I.A8 x c e) hc Dg ho (I.dy x c e),hd⟩
 refine⟨I.ok,I.os,hg,⟨λb o e n hb hx=>?_,λb o e n hb hx=>?_,λb o e n hx=>?_,λb o e hx=>?_,λb xs e=>nO b xs (I.base.nO b xs e),λb o xs e=>lF b o xs (I.base.lF b o xs e),λb ps e=>?_⟩,?_,λx c e=>?_,?_,λx c e=>?_,λp hp=>?_,bC,I.len⟩
 ·exact keep b o (neL b o e) hb (YH b o e hx) (I.base.keep b o e n hb hx) (I.base.free b o e n hx)
 ·obtain⟨sl,e1⟩:=I.base.slot b o e n hb hx
  obtain⟨sl',e2⟩:=slot b _ (neL b o e) hb (YH b o e hx) e1 (I.base.free b o e n hx);exact⟨sl',e2⟩
 ·obtain⟨o',e1⟩:=I.base.there b o e hx
  exact free b o' (YH b o e hx) e1 (I.base.free b o e n hx)
 ·obtain⟨o',e1⟩:=I.base.there b o e hx
  exact there b o' (YH b o e hx) e1
 ·obtain⟨m1,e1⟩:=I.base.nK b ps e
  obtain⟨m2,e2⟩:=nK b _ e1;exact⟨m1++m2,by rw[e2,Array.append_assoc]⟩
 ·obtain⟨m,hn,hl⟩:=I.loc
  refine⟨m,ns m hn,λi x v e1 e2 e3=>?_⟩;obtain⟨u,r,l⟩:=hl i x v e1 e2 e3;refine⟨u,r,?_⟩;rcases l with l|⟨k,c,e,z⟩
  ·exact .inl l
  ·exact .inr ⟨k,c,e,cellK x c e _ z⟩
 ·obtain⟨v,z⟩:=I.cell x c e
  exact⟨v,cellK x c e v z⟩
 ·obtain⟨m,⟨o,_,_,ho,_⟩,_⟩:=I.loc
  exact free _ o (λz=>(Fx _ z).2.1 rfl) ho I.free
 ·obtain⟨v,o,ho,hd⟩:=I.cell x c e
  exact free c o (λz=>(Fx c z).2.2.1 x c e rfl) ho (I.dy x c e)
 ·obtain⟨e,n,ne,nf,d⟩:=I.pin p hp
  have Dg:p.1∉ch:=λz=>(Fx p.1 z).2.2.2 p hp rfl;exact⟨keep p.1 p.2 ne nf Dg e n,free p.1 p.2 Dg e n,ne,nf,d⟩
theorem Inv.un{t':Nat}(I:Inv X pins σ H s)(u:Un X.fs [] H H' s.heap h')(bC:fe X.prog X.w H' h'):Inv X pins σ H' {s with heap:=h',toks:=t'}:=by
 obtain⟨m,⟨o,es,ep,ho,r⟩,_⟩:=id I.loc;obtain⟨sl,hL⟩:=u.any ho I.free (by simp)
 exact I.step (g':=s.gens) (d':=s.drawn) (ch:=[]) (λ_ z=>nomatch z) (λb o _ hb _ e n=>u.keep b o e n hb (by simp)) (λb o _ hb _ e n=>u.slot b o e n hb (by simp)) (λb o _ e n=>u.free b o e n (by simp)) (λb o _ e=>u.there b o e (by simp)) u.nO u.lF u.nK (λm' hm=>by
  obtain⟨o',Mr,ZC,GN,r'⟩:=hm;rw[ho]at GN;cases GN;exact⟨_,Mr,ZC,hL,r'⟩) bC I.bare
theorem Inv.call{g':Array GenState}{t':Nat}{d':Drawn}{ch:List Addr}(I:Inv X pins σ H s)(u:Un (iM X.stack) ch H H' s.heap h')(bC:fe X.prog X.w H' h')(hg:AllBare g')
  (Fx:∀b∈ch,(b∈X.ex\/X.bP.heap.get? b=none)/\b≠X.env.locals/\(∀x c,X.env.cells.lookup x=some c->c≠b)/\∀p∈X.pn++pins,p.1≠b):
  Inv X pins σ H' {s with heap:=h',gens:=g',drawn:=d',toks:=t'}:=by
 obtain⟨m,⟨o,es,ep,ho,r⟩,_⟩:=id I.loc;obtain⟨sl,hL⟩:=u.any ho I.free λz=>(Fx _ z).2.1 rfl;exact I.step (ch:=ch) Fx (λb o hL hb hc e n=>u.keep b o e n (λz=>(List.mem_cons.mp (I.rR b z)).elim hL hb) hc) (λb o _ _ hc e n=>u.any e n hc) (λb o hc e n=>u.free b o e n hc) (λb o hc e=>u.there b o e hc) u.nO u.lF u.nK (λm' hm=>by
  obtain⟨o',Mr,ZC,GN,r'⟩:=hm;rw[ho]at GN;cases GN;exact⟨_,Mr,ZC,hL,r'⟩) bC hg
theorem Inv.turned{t':Nat}{it:Addr}(I:Inv X pins σ H s)(k:∀b o,b≠it->s.heap.get? b=some o->h'.get? b=some o)(hn:H it=none)(hL:it≠X.env.locals)
  (h1:it∈X.ex\/X.bP.heap.objs.size<=it) (h2:∀x c,X.env.cells.lookup x=some c->c≠it) (h3:∀p∈X.pn++pins,p.1≠it):Inv X pins σ H {s with heap:=h',toks:=t'}:=by
 have nit:∀b u,H b=some u->b≠it:=λb u e z=>by rw[z,hn]at e;cases e
 refine I.step (g':=s.gens) (d':=s.drawn) (ch:=[it]) (λb hb=>?_) (λb o _ _ hc e _=>k b o (λz=>hc (by simp [z])) e) (λb o _ _ hc e _=>⟨o.slots,k b o (λz=>hc (by simp [z])) e⟩) (λ_ _ _ _ n=>n)
  (λb o hc e=>⟨o,k b o (λz=>hc (by simp [z])) e⟩) (λ_ _ e=>e) (λ_ _ _ e=>e) (λb ps e=>⟨#[],by rw[e];simp⟩) (λm hm=>?_) (λb u e=>?_) I.bare
 ·have e:b=it:=by simpa using hb
  subst e;exact⟨h1.imp id λz=>Heap.get?_none_of_le z,hL,h2,h3⟩
 ·obtain⟨o,es,ep,ho,r⟩:=hm
  exact⟨o,es,ep,k _ o (Ne.symm hL) ho,r⟩
 ·refine(I.bC b u e).nH (λc v hc q=>k c v ?_ q) (λ_ q=>q) λ_ _ q=>q
  rcases hc with z|z
  ·rw[z];exact nit b u e
  ·exact nit c _ z
theorem Inv.tok(I:Inv X pins σ H s)(t:Nat):Inv X pins σ H {s with toks:=t}:=I.un (h':=s.heap) (t':=t) Un.refl I.bC
theorem Inv.kept{t':Nat}(I:Inv X pins σ H s)(k:∀b u,s.heap.get? b=some u->h'.get? b=some u):Inv X pins σ H {s with heap:=h',toks:=t'}:=I.un (Un.kept k) (I.bC.kept k)
theorem Inv.laid{a:Addr}{o:HO}{t':Nat}(I:Inv X pins σ H s)(k:∀b u,s.heap.get? b=some u->h'.get? b=some u)(hp:s.heap.objs.size<=a)(new:bR X.prog X.w (upd H a o) h' a o):
  Inv X pins σ (upd H a o) {s with heap:=h',toks:=t'}:=I.un (Un.laid k hp (I.bC.fresh hp)) (I.bC.laid k hp new)
theorem Inv.write{x e:Addr}{o:HO}{t':Nat}(I:Inv X pins σ H s)(mu:TQ (H x))(he:e=x\/H e=some (.own x))(k:∀b u,b≠e->s.heap.get? b=some u->h'.get? b=some u)(S2:∃u,h'.get? e=some u)
  (new:bR X.prog X.w (upd H x o) h' x o):Inv X pins σ (upd H x o) {s with heap:=h',toks:=t'}:=I.un (Un.write mu he k S2) (I.bC.write mu he k S2 new)
theorem Inv.xF{xE:List (Addr×Obj)}(I:Inv X pins σ H s)(h:∀p∈xE,s.heap.get? p.1=some p.2/\H p.1=none/\p.1≠X.env.locals/\p.1∉X.fs/\∀v,p.2.data≠.cell v):Inv X xE σ H s:=
 ⟨I.ok,I.os,I.bare,I.base,I.loc,I.cell,I.free,I.dy,λp hp=>(List.mem_append.mp hp).elim (λz=>I.pin p (List.mem_append_left _ z)) (h p),I.bC,I.len⟩
theorem nc{N:List Str}(hN:N.Nodup){i j:Nat}{x:Str}(a:N[i]?=some x)(b:N[j]?=some x):i=j:=by
 obtain⟨h1,e1⟩:=List.getElem?_eq_some_iff.mp a;obtain⟨h2,e2⟩:=List.getElem?_eq_some_iff.mp b;exact(List.getElem_inj hN).mp (e1.trans e2.symm)
theorem zg{M:Model}{A:Around}{E:Value->Shared->Prop}{i:Nat}{x:Str}{v:V}{u:Value}{Q:Unit->Shared->Prop}(I:Inv X pins σ H s)(hN:X.N.Nodup)(hi:X.N[i]?=some x)(hx:Loc X.env.scope x)(r:RelV v u)
  (h:∀s',Inv X pins (σ.set i (some v)) H s'->(∃a,Heap.SameBut a s.heap s'.heap/\(a=X.env.locals\/X.env.cells.lookup x=some a))->Q () s') (hf:X.fn x=true\/X.env.scope.names.lookup x=some .local:=by first|exact .inl rfl|exact .inr rfl|assumption):wpAny M A (storeName X.env x u) Q E s:=by
 obtain⟨m,hn,hl⟩:=id I.loc;have CC:(X.env.scope.kind==.class||(X.env.scope.kind==.module&&X.env.locals != X.env.globals))=false:=by rw[I.ok.kind];rfl
 have VI:i<σ.length:=by rw[I.len];exact(List.getElem?_eq_some_iff.mp hi).1
 have A8:=I.A8;have tracked:∀ {a:Addr} {h':Heap},(∃o,s.heap.get? a=some o/\H a=none)->Heap.SameBut a s.heap h'->fe X.prog X.w H h':=λ{a h'} ha hs b ob e=>by
  obtain⟨_,_,xf⟩:=ha;refine(I.bC b ob e).nH (λc w' hc q=>(hs.2 c ?_).trans q) (λ_ q=>q) λ_ _ q=>q;rintro rfl;rcases hc with rfl|hc
  ·rw[xf]at e;cases e
  ·rw[xf]at hc;cases hc
 rcases hx with hk|hk
 ·refine wpAny_storeName_local hk hn (λh' Z6 hs=>?_) CC
  obtain⟨oL,_,_,CN,_⟩:=id hn;refine h _ ⟨I.ok,I.os,I.bare,⟨λb o e n hb hx=>?_,λb o e n hb hx=>?_,I.base.free,λb o e hx=>?_,I.base.nO,I.base.lF,I.base.nK⟩,⟨_,Z6,λj y v' e1 e2 e3=>?_⟩,λy c e=>?_,I.free,I.dy,λp hp=>?_,tracked ⟨oL,CN,I.free⟩ hs,by simpa using I.len⟩ ⟨_,hs,.inl rfl⟩
  ·exact(hs.2 b (Nat.ne_of_lt (Nat.lt_of_lt_of_le (Heap.lt_size e) I.ok.above))).trans (I.base.keep b o e n hb hx)
  ·obtain⟨sl,e1⟩:=I.base.slot b o e n hb hx
   exact⟨sl,(hs.2 b (Nat.ne_of_lt (Nat.lt_of_lt_of_le (Heap.lt_size e) I.ok.above))).trans e1⟩
  ·obtain⟨o',e1⟩:=I.base.there b o e hx
   exact⟨o',(hs.2 b (Nat.ne_of_lt (Nat.lt_of_lt_of_le (Heap.lt_size e) I.ok.above))).trans e1⟩
  ·by_cases hj:j=i
   ·subst hj
    rw[hi]at e1;cases e1;rw[List.getElem?_set_self VI]at e2;cases e2;exact⟨u,r,.inl ⟨hk,by simp⟩⟩
   ·rw[List.getElem?_set_ne (Ne.symm hj)]at e2
    obtain⟨u',r',q⟩:=hl j y v' e1 e2 e3;refine⟨u',r',?_⟩;rcases q with⟨k,e⟩|⟨k,c,e,z⟩
    ·refine .inl ⟨k,?_⟩
     have:y≠x:=λe=>hj (nc hN e1 (e ▸ hi));simp [this,e]
    ·exact .inr ⟨k,c,e,z.sameBut hs (A8 y c e)⟩
  ·obtain⟨w',z⟩:=I.cell y c e
   exact⟨w',z.sameBut hs (A8 y c e)⟩
  ·obtain⟨e,n,ne,nf,d⟩:=I.pin p hp
   exact⟨(hs.2 p.1 ne).trans e,n,ne,nf,d⟩
 ·have ZW:X.fn x=true:=by
   rcases hf with z|z
   ·exact z
   ·rw[z]at hk;cases hk
  obtain⟨c,hc⟩:=I.ok.has x (.inl hk);obtain⟨w',z⟩:=I.cell x c hc;refine wpAny_storeName_cell I.ok.kind hk hc z (λh' Fv hs=>?_);obtain⟨oc,hoc,Z9⟩:=id z;refine h {s with heap:=h'} ⟨I.ok,I.os,I.bare,⟨λb o e n hb hx=>?_,λb o e n hb hx=>?_,I.base.free,λb o e hx=>?_,I.base.nO,I.base.lF,I.base.nK⟩,⟨m,hn.sameBut hs (Ne.symm (A8 x c hc)),λj y v' e1 e2 e3=>?_⟩,λy c' e=>?_,I.free,I.dy,λp hp=>?_,tracked ⟨oc,hoc,I.dy x c hc⟩ hs,by simpa using I.len⟩ ⟨c,hs,.inr hc⟩
  ·exact(hs.2 b (Nat.ne_of_lt (Nat.lt_of_lt_of_le (Heap.lt_size e) (I.ok.Jp x c ZW hc)))).trans (I.base.keep b o e n hb hx)
  ·obtain⟨sl,e1⟩:=I.base.slot b o e n hb hx
   exact⟨sl,(hs.2 b (Nat.ne_of_lt (Nat.lt_of_lt_of_le (Heap.lt_size e) (I.ok.Jp x c ZW hc)))).trans e1⟩
  ·obtain⟨o',e1⟩:=I.base.there b o e hx
   exact⟨o',(hs.2 b (Nat.ne_of_lt (Nat.lt_of_lt_of_le (Heap.lt_size e) (I.ok.Jp x c ZW hc)))).trans e1⟩
  ·by_cases hj:j=i
   ·subst hj
    rw[hi]at e1;cases e1;rw[List.getElem?_set_self VI]at e2;cases e2;exact⟨u,r,.inr ⟨.inl hk,c,hc,Fv⟩⟩
   ·rw[List.getElem?_set_ne (Ne.symm hj)]at e2
    obtain⟨u',r',q⟩:=hl j y v' e1 e2 e3;refine⟨u',r',?_⟩;rcases q with q|⟨k,c',e,z'⟩
    ·exact .inl q
    ·refine .inr ⟨k,c',e,z'.sameBut hs ?_⟩
     rintro rfl;exact hj (nc hN e1 (I.ok.inj _ _ _ e hc ▸ hi))
  ·by_cases hcc:c'=c
   ·subst hcc;exact⟨_,Fv⟩
   ·obtain⟨w2,z2⟩:=I.cell y c' e
    exact⟨w2,z2.sameBut hs hcc⟩
  ·obtain⟨e,n,ne,nf,d⟩:=I.pin p hp
   refine⟨(hs.2 p.1 ?_).trans e,n,ne,nf,d⟩;intro q;rw[q,hoc]at e;have q':oc=p.2:=Option.some.inj e;exact d w' (by rw[<- q'];exact Z9)
theorem jQ{M:Model}{A:Around}{E:Value->Shared->Prop}{i:Nat}{x:Str}{v:V}{u:Value}{Q:Unit->Shared->Prop}(I:Inv X pins σ H s)(hN:X.N.Nodup)(hi:X.N[i]?=some x)(hx:Loc X.env.scope x)(r:RelV v u)
  (h:∀s',Inv X pins (σ.set i (some v)) H s'->Q () s') (hf:X.fn x=true\/X.env.scope.names.lookup x=some .local:=by first|exact .inl rfl|exact .inr rfl|assumption):wpAny M A (storeName X.env x u) Q E s:=
 zg I hN hi hx r (λs' I' _=>h s' I') hf
theorem Inv.su{s':Shared}{ch:List Addr}(I:Inv X pins σ H s)(ho:s'.os=s.os)(u:Un (iM X.stack) ch H H' s.heap s'.heap)(bC:fe X.prog X.w H' s'.heap)(hg:AllBare s'.gens)
  (Fx:∀b∈ch,(b∈X.ex\/X.bP.heap.get? b=none)/\b≠X.env.locals/\(∀x c,X.env.cells.lookup x=some c->c≠b)/\∀p∈X.pn++pins,p.1≠b):Inv X pins σ H' s':=by
 obtain⟨h',g',d',t',o'⟩:=s';have e:o'=s.os:=ho;subst e;exact I.call (g':=g') (t':=t') (d':=d') u bC hg Fx
end
abbrev XK:=Value->Option Addr->Hp->Prop
abbrev St:=List (Option V)
abbrev VK:=V->Hp->Prop
abbrev TE:=St->Hp->VK->Prop
abbrev TT:=St->Hp->(Bool->Hp->Prop)->Prop
abbrev TA:=St->Hp->(List V->Hp->Prop)->Prop
structure Ends where
 nx:St->Hp->Prop
 rt:VK
 bk:St->Hp->Prop:=λ_ _=>False
 ct:St->Hp->Prop:=λ_ _=>False
abbrev TS:=Ends->St->Hp->Prop
def EP(X:Cx)(pins:List (Addr×Obj))(σ:St)(Q:VK)(u:Value)(s':Shared):Prop:=∃v H',Inv X pins σ H' s'/\RelV v u/\Q v H'
def TP(X:Cx)(pins:List (Addr×Obj))(σ:St)(Q:Bool->Hp->Prop)(b:Bool)(s':Shared):Prop:=∃H',Inv X pins σ H' s'/\Q b H'
def AP(X:Cx)(pins:List (Addr×Obj))(σ:St)(Q:List V->Hp->Prop)(us:List Value)(s':Shared):Prop:=∃vs H',Inv X pins σ H' s'/\Vals vs us/\Q vs H'
def SP(X:Cx)(pins:List (Addr×Obj))(D:Ends)(f:Flow)(s':Shared):Prop:=
 match f with
 | .next=>∃bN H',Inv X pins bN H' s'/\D.nx bN H'
 | .brk=>∃bN H',Inv X pins bN H' s'/\D.bk bN H'
 | .cont=>∃bN H',Inv X pins bN H' s'/\D.ct bN H'
 | .ret u=>∃v bN H',Inv X pins bN H' s'/\RelV v u/\D.rt v H'
def PE(X:Cx)(e:Expr)(t:TE):Prop:=
 ∀(pins:List (Addr×Obj)) (s:Shared) (σ:St) (H:Hp) (Q:VK),Inv X pins σ H s->t σ H Q->wpAny (model X.prog X.w) X.A (eval e X.env) (EP X pins σ Q) X.xe s
def PT(X:Cx)(e:Expr)(t:TT):Prop:=
 ∀(pins:List (Addr×Obj)) (s:Shared) (σ:St) (H:Hp) (Q:Bool->Hp->Prop),Inv X pins σ H s->t σ H Q->wpAny (model X.prog X.w) X.A (isTrue e X.env (eval e X.env)) (TP X pins σ Q) X.xe s
def PW(X:Cx)(e:Expr)(t:TT):Prop:=
 ∀(whole:Sem Value) (pins:List (Addr×Obj)) (s:Shared) (σ:St) (H:Hp) (Q:Bool->Hp->Prop),Inv X pins σ H s->t σ H Q->wpAny (model X.prog X.w) X.A (isTrue e X.env whole) (TP X pins σ Q) X.xe s
theorem PW.pt{X:Cx}{e:Expr}{t:TT}(h:PW X e t):PT X e t:=h _
def PA(X:Cx)(es:List Expr)(t:TA):Prop:=
 ∀(pos:Pos) (pins:List (Addr×Obj)) (s:Shared) (σ:St) (H:Hp) (Q:List V->Hp->Prop),Inv X pins σ H s->t σ H Q->wpAny (model X.prog X.w) X.A (spliced (backTo pos (starEach es X.env))) (AP X pins σ Q) X.xe s
def PS(X:Cx)(st:Stmt)(t:TS):Prop:=
 ∀(pins:List (Addr×Obj)) (s:Shared) (σ:St) (H:Hp) (D:Ends),Inv X pins σ H s->t D σ H->wpAny (model X.prog X.w) X.A (exec st X.env) (SP X pins D) X.xe s
def pO(X:Cx)(st:List Stmt)(t:TS):Prop:=
 ∀(pins:List (Addr×Obj)) (s:Shared) (σ:St) (H:Hp) (D:Ends),Inv X pins σ H s->t D σ H->wpAny (model X.prog X.w) X.A (execs st X.env) (SP X pins D) X.xe s
theorem cD{α:Type}{t:Sem α}{Q Q':α->Shared->Prop}{M:Model}{A:Around}{E:Value->Shared->Prop}{s:Shared}(h:wpAny M A t Q E s)(hQ:∀a s,Q a s->Q' a s):wpAny M A t Q' E s:=wpAny_mono h hQ λ_ _ x=>x
end L2
namespace L2
open PySem PySem.Spec PyProof.Rows
section
variable {X:Cx}
def Em(i:Nat):TE:=λσ H Q=>∃v,σ[i]?=some (some v)/\Q v H
def tC(v:V):TE:=λ_ H Q=>Q v H
theorem hZ{i:Nat}{x:Str}{pos:Pos}(hN:X.N[i]?=some x)(hv:FP X.env.scope x)(hd:(x==("__debug__":Str))=false:=by decide)(ql:(x==("__classdict__":Str))=false:=by decide):PE X (.Name x pos) (Em i):=by
 intro pins s σ H Q I h;obtain⟨v,e,h⟩:=h;obtain⟨m,hn,hl⟩:=I.loc;obtain⟨u,r,l⟩:=hl i x v hN e hv;have fin:EP X pins σ Q u s:=⟨v,H,I,r,h⟩;rcases l with⟨hk,hm⟩|⟨hk,c,hc,xa⟩
 ·exact wpAny_Name (wpAny_loadName_local I.ok.kind hk hn hm fin) hd
 ·rcases hk with hk|hk
  ·exact wpAny_Name (wpAny_loadName_cell I.ok.kind hk hc xa fin) hd
  ·exact wpAny_Name (wpAny_loadName_free I.ok.kind hk hc xa fin ql) hd
theorem PJ{i j pos}:PE X (.Constant (.int i) j pos) (tC (.int i)):=λ_ _ _ H _ I h=>wpAny_Constant_int ⟨.int i,H,I.tok _,⟨_,rfl⟩,h⟩
theorem Xe{b j pos}:PE X (.Constant (.bool b) j pos) (tC (.bl b)):=λ_ _ _ H _ I h=>Constant_bool ⟨.bl b,H,I,rfl,h⟩
theorem PN{j pos}:PE X (.Constant .none j pos) (tC .aX):=λ_ _ _ H _ I h=>Constant_none ⟨.aX,H,I,rfl,h⟩
theorem PU{x j pos}:PE X (.Constant (.str x) j pos) (tC (.str x)):=λ_ _ _ H _ I h=>Calls.Constant_str ⟨.str x,H,I.tok _,⟨_,rfl⟩,h⟩
def Gl(X:Cx)(x:Str):Prop:=X.env.kindOf x=some .globalImplicit
theorem i3{E:Value->Shared->Prop}{pins:List (Addr×Obj)}{s:Shared}{σ:St}{H:Hp}{x:Str}{u:Value}{pos:Pos}{Q:Value->Shared->Prop}(I:Inv X pins σ H s)(hg:Gl X x)(hm:X.mg x=some u)(h:Q u s)
  (hd:(x==("__debug__":Str))=false:=by decide):wpAny (model X.prog X.w) X.A (eval (.Name x pos) X.env) Q E s:=
 Calls.Name_function_global I.ok.kind hg (Calls.loadGlobal_global (by rw[I.ok.glob];exact I.mod.glob.keeps I.bk) hm h) hd
theorem fR{E:Value->Shared->Prop}{pins:List (Addr×Obj)}{s:Shared}{σ:St}{H:Hp}{x:Str}{u:Value}{pos:Pos}{Q:Value->Shared->Prop}(I:Inv X pins σ H s)(hg:Gl X x)(hm:X.mg x=none)(hv:bootBuiltins x=some u)(h:Q u s)
  (hn:x≠"__name__":=by decide) (hd:(x==("__debug__":Str))=false:=by decide):wpAny (model X.prog X.w) X.A (eval (.Name x pos) X.env) Q E s:=by
 obtain⟨mb,h1,h2⟩:=I.mod.blt;exact Calls.Name_function_global I.ok.kind hg (Calls.loadGlobal_builtin (by rw[I.ok.glob];exact I.mod.glob.keeps I.bk) hm (by rw[I.ok.blt];exact h1.keeps I.bk) ((h2 x hn).trans hv) h) hd
theorem Hs{x:Str}{v:V}{u:Value}{pos:Pos}(hg:Gl X x)(hm:X.mg x=some u)(r:RelV v u)(hd:(x==("__debug__":Str))=false:=by decide):PE X (.Name x pos) (tC v):=
 λ_ _ _ H _ I h=>i3 I hg hm ⟨v,H,I,r,h⟩ hd
theorem Ho{x:Str}{v:V}{u:Value}{pos:Pos}(hg:Gl X x)(hm:X.mg x=none)(hv:bootBuiltins x=some u)(r:RelV v u)(hn:x≠"__name__":=by decide)(hd:(x==("__debug__":Str))=false:=by decide):PE X (.Name x pos) (tC v):=
 λ_ _ _ H _ I h=>fR I hg hm hv ⟨v,H,I,r,h⟩ hn hd
variable {a b:Expr}{ta tb:TE}{pos:Pos}
variable {tA YT:TT}{rest:List Expr}
def aaG(t u:TT):TT:=λσ H Q=>t σ H λc H1=>if c=true then u σ H1 Q else Q false H1
def tOr(t u:TT):TT:=λσ H Q=>t σ H λc H1=>if c=true then Q true H1 else u σ H1 Q
def aaK(t:TT):TT:=λσ H Q=>t σ H λc H1=>Q (!c) H1
theorem pw_and1(ha:PT X a tA):PW X (.BoolOp .And [a] pos) tA:=by
 intro wh pins s σ H Q I h;refine isTrue_and (cD (ha pins s σ H Q I h) λc s1 e=>?_);cases c with
 | true=>exact isTrue_and_nil e
 | false=>exact e
theorem pw_or1(ha:PT X a tA):PW X (.BoolOp .Or [a] pos) tA:=by
 intro wh pins s σ H Q I h;refine isTrue_or (cD (ha pins s σ H Q I h) λc s1 e=>?_);cases c with
 | false=>exact isTrue_or_nil e
 | true=>exact e
theorem pw_and(ha:PT X a tA)(hb:PW X (.BoolOp .And (b::rest) pos) YT):PW X (.BoolOp .And (a::b::rest) pos) (aaG tA YT):=by
 intro wh pins s σ H Q I h;refine isTrue_and (cD (ha pins s σ H _ I h) λc s1 ⟨H1,I1,q1⟩=>?_);cases c with
 | true=>exact hb wh pins s1 σ H1 Q I1 q1
 | false=>exact⟨H1,I1,q1⟩
theorem pw_or(ha:PT X a tA)(hb:PW X (.BoolOp .Or (b::rest) pos) YT):PW X (.BoolOp .Or (a::b::rest) pos) (tOr tA YT):=by
 intro wh pins s σ H Q I h;refine isTrue_or (cD (ha pins s σ H _ I h) λc s1 ⟨H1,I1,q1⟩=>?_);cases c with
 | true=>exact⟨H1,I1,q1⟩
 | false=>exact hb wh pins s1 σ H1 Q I1 q1
theorem QE(ha:PT X a tA):PT X (.UnaryOp .Not a pos) (aaK tA):=by
 intro pins s σ H Q I h;exact isTrue_not (ha pins s σ H (λc H1=>Q (!c) H1) I h)
def X7(ta tb:TE):TE:=λσ H Q=>ta σ H λx H1=>∃c,x=.bl c/\if c=true then tb σ H1 Q else Q (.bl false) H1
def Yc(ta:TE):TE:=λσ H Q=>ta σ H λx H1=>∃c,x=.bl c/\Q (.bl (!c)) H1
theorem PR{op}{t:TE}(h:PE X a t):PE X (.BoolOp op [a] pos) t:=λpins s σ H Q I hw=>BoolOp_one (h pins s σ H Q I hw)
theorem PF(ha:PE X a ta)(hb:PE X (.BoolOp .And (b::rest) pos) tb):PE X (.BoolOp .And (a::b::rest) pos) (X7 ta tb):=by
 intro pins s σ H Q I h;refine BoolOp_and (cD (ha pins s σ H _ I h) λv s1 ⟨x,H1,I1,r1,q1⟩=>?_);obtain⟨c,rfl,q1⟩:=q1;cases r1;refine wpAny_truthy_bool ?_;cases c with
 | true=>exact hb pins s1 σ H1 Q I1 q1
 | false=>exact⟨.bl false,H1,I1,rfl,q1⟩
theorem PQ(ha:PE X a ta):PE X (.UnaryOp .Not a pos) (Yc ta):=by
 intro pins s σ H Q I h;refine UnaryOp_ (cD (ha pins s σ H _ I h) λv s1 ⟨x,H1,I1,r1,q1⟩=>?_);obtain⟨c,rfl,q1⟩:=q1;cases r1;exact not_of (wpAny_truthy_bool ⟨.bl (!c),H1,I1,rfl,q1⟩)
def tIf(t:TT)(ta tb:TE):TE:=λσ H Q=>t σ H λc H1=>if c=true then ta σ H1 Q else tb σ H1 Q
theorem DI{c:Expr}(hc:PT X c tA)(ha:PE X a ta)(hb:PE X b tb):PE X (.IfExp c a b pos) (tIf tA ta tb):=by
 intro pins s σ H Q I h;refine wpAny_IfExp (cD (hc pins s σ H _ I h) λd s1 ⟨H1,I1,q1⟩=>?_);cases d with
 | true=>exact ha pins s1 σ H1 Q I1 q1
 | false=>exact hb pins s1 σ H1 Q I1 q1
end
end L2
namespace L2
open PySem PySem.Spec PyProof.Rows
def fm(K:PySem.W.Frag)(H:Hp)(a:Addr)(xs:List V):Prop:=
 Rd H a (.lst xs) \/
  ∃(o:Obj) (its:Array Value) (n:Nat),K.lookup a=some o/\o.cls=.type "list"/\o.dict=none/\o.data=.seq its n/\its.size<=sizeLine/\Vals xs its.toList
def iC(K:PySem.W.Frag)(H:Hp)(a:Addr)(xs:List V):Prop:=
 Rd H a (.tup xs) \/
  ∃(o:Obj) (its:Array Value) (n:Nat),K.lookup a=some o/\o.cls=.type "tuple"/\o.data=.seq its n/\its.size<=sizeLine/\Vals xs its.toList
def Zh:Value->Option V
 | .none=>some .aX
 | .bool b=>some (.bl b)
 | .int i _=>some (.int i)
 | .str x _=>some (.str x)
 | .bytes b _=>some (.Ui b)
 | .float b _=>some (.SR b)
 | .ref a=>some (.ref a)
 | .type n=>some (.ty n)
 | _=>none
theorem RelV.abs{x:V}{u:Value}(r:RelV x u):Zh u=some x:=by
 cases x with
 | aX=>cases r;rfl
 | bl _=>cases r;rfl
 | int _=>obtain⟨t,rfl⟩:=r;rfl
 | str _=>obtain⟨t,rfl⟩:=r;rfl
 | Ui _=>obtain⟨t,rfl⟩:=r;rfl
 | SR _=>obtain⟨t,rfl⟩:=r;rfl
 | ref _=>cases r;rfl
 | ty _=>cases r;rfl
theorem RelV.inj{x y:V}{u:Value}(r:RelV x u)(q:RelV y u):x=y:=Option.some.inj (r.abs.symm.trans q.abs)
theorem Vals.inj:∀ {xs ys:List V} {us:List Value},Vals xs us->Vals ys us->xs=ys
 | _,_,_,.nil,.nil=>rfl
 | _,_,_,.cons r t,.cons r' t'=>by rw[r.inj r',Vals.inj t t']
section
variable {X:Cx}{pins:List (Addr×Obj)}{σ:St}{H:Hp}{s:Shared}{a:Addr}{xs ys:List V}
theorem fm.of{K:PySem.W.Frag}(h:H a=some (.lst xs)):fm K H a xs:=.inl (.inl h)
theorem iC.of{K:PySem.W.Frag}(h:H a=some (.tup xs)):iC K H a xs:=.inl (.inl h)
theorem Inv.list(I:Inv X pins σ H s)(h:fm X.K H a xs):∃its:List Value,Vals xs its/\PlainL s.heap a its.toArray/\xs.length<=sizeLine:=by
 rcases h with h|⟨o,its,n,hk,hc,hd,hs,hz,r⟩
 ·obtain⟨z,its,n,r,e⟩:=h.ok I.bC
  exact⟨its,r,⟨_,n,e,rfl,rfl,rfl⟩,z⟩
 ·refine⟨its.toList,r,⟨o,n,I.nY a o hk,hc,hd,by simpa using hs⟩,?_⟩
  have e:=r.length;simp only[Array.length_toList]at e;omega
theorem Inv.tuple(I:Inv X pins σ H s)(h:iC X.K H a xs):∃its:List Value,Vals xs its/\IsTup s.heap a its.toArray/\xs.length<=sizeLine:=by
 rcases h with h|⟨o,its,n,hk,hc,hs,hz,r⟩
 ·obtain⟨z,its,r,p⟩:=h.ok I.bC
  exact⟨its,r,p,z⟩
 ·refine⟨its.toList,r,⟨o,I.nY a o hk,hc,n,by simpa using hs⟩,?_⟩
  have e:=r.length;simp only[Array.length_toList]at e;omega
theorem Inv.tZ(I:Inv X pins σ H s)(h:fm X.K H a xs)(h':fm X.K H a ys):xs=ys:=by
 obtain⟨its,r,⟨o,n,e,_,_,d⟩,_⟩:=I.list h;obtain⟨its',r',⟨o',n',e',_,_,d'⟩,_⟩:=I.list h';rw[e]at e';cases e';rw[d]at d'
 injection d' with d1 _
 have:its=its':=by simpa using congrArg Array.toList d1
 subst this;exact r.inj r'
theorem Inv.pI(I:Inv X pins σ H s)(h:iC X.K H a xs)(h':iC X.K H a ys):xs=ys:=by
 obtain⟨its,r,⟨o,e,_,n,d⟩,_⟩:=I.tuple h;obtain⟨its',r',⟨o',e',_,n',d'⟩,_⟩:=I.tuple h';rw[e]at e';cases e';rw[d]at d'
 injection d' with d1 _
 have:its=its':=by simpa using congrArg Array.toList d1
 subst this;exact r.inj r'
end
abbrev Cx.oo(X:Cx)(E:Value->Shared->Prop):Cx:={X with xe:=E}
abbrev Cx.Td(X:Cx):Cx:=X.oo λ_ _=>False
theorem Cx.Ok.oo{X:Cx}(ok:X.Ok)(E:Value->Shared->Prop):(X.oo E).Ok:=
 ⟨ok.mod,ok.kind,ok.glob,ok.blt,ok.above,ok.inj,ok.has,ok.Jp,ok.hd,ok.frames,ok.RM,ok.Vh,ok.bs,ok.zr,ok.um,ok.vG,ok.iO,ok.Gu⟩
theorem Cx.Ok.gd{X:Cx}{E:Value->Shared->Prop}(ok:(X.oo E).Ok):X.Ok:=
 ⟨ok.mod,ok.kind,ok.glob,ok.blt,ok.above,ok.inj,ok.has,ok.Jp,ok.hd,ok.frames,ok.RM,ok.Vh,ok.bs,ok.zr,ok.um,ok.vG,ok.iO,ok.Gu⟩
section
variable {X:Cx}{pins:List (Addr×Obj)}{σ:St}{H:Hp}{s:Shared}{E:Value->Shared->Prop}
theorem Inv.oo(I:Inv X pins σ H s)(E:Value->Shared->Prop):Inv (X.oo E) pins σ H s:=⟨I.ok.oo E,I.os,I.bare,I.base,I.loc,I.cell,I.free,I.dy,I.pin,I.bC,I.len⟩
theorem Inv.gd(I:Inv (X.oo E) pins σ H s):Inv X pins σ H s:=⟨I.ok.gd,I.os,I.bare,I.base,I.loc,I.cell,I.free,I.dy,I.pin,I.bC,I.len⟩
theorem SP.gd{D:Ends}{f:Flow}{s':Shared}(h:SP (X.oo E) pins D f s'):SP X pins D f s':=by
 cases f with
 | next=>obtain⟨bN,H',I,q⟩:=h;exact⟨bN,H',I.gd,q⟩
 | brk=>obtain⟨bN,H',I,q⟩:=h;exact⟨bN,H',I.gd,q⟩
 | cont=>obtain⟨bN,H',I,q⟩:=h;exact⟨bN,H',I.gd,q⟩
 | ret u=>obtain⟨v,bN,H',I,r,q⟩:=h;exact⟨v,bN,H',I.gd,r,q⟩
theorem pO.Td{st:List Stmt}{t:TS}(h:pO X.Td st t):pO X st t:=λpins s σ H D I hw =>
 wpAny_mono (h pins s σ H D (I.oo _) hw) (λ_ _ q=>q.gd) λ_ _ z=>False.elim z
end
section
variable {X:Cx}{st:Stmt}{rest:List Stmt}{t u:TS}{e:Expr}{te:TE}{pos:Pos}
def Yb:TS:=λD σ H=>D.nx σ H
def aaM(t u:TS):TS:=λD σ H=>t {D with nx:=u D} σ H
theorem Hz:pO X [] Yb:=λ_ _ σ H _ I h=>wpAny_execs_nil ⟨σ,H,I,h⟩
theorem DW(h1:PS X st t)(h2:pO X rest u):pO X (st::rest) (aaM t u):=by
 intro pins s σ H D I h;refine wpAny_execs_cons (cD (h1 pins s σ H {D with nx:=u D} I h) λf s1 q=>?_)
 cases f with
 | next =>
  obtain⟨bN,H',I',q⟩:=q;exact h2 pins s1 bN H' D I' q
 | ret v=>exact q
 | brk=>exact q
 | cont=>exact q
theorem HA(h1:PS X st t):pO X [st] t:=by
 intro pins s σ H D I h;refine wpAny_execs_cons (cD (h1 pins s σ H D I h) λf s1 q=>?_);cases f with
 | next=>exact wpAny_execs_nil q
 | ret v=>exact q
 | brk=>exact q
 | cont=>exact q
theorem Inv.quiet{pins:List (Addr×Obj)}{σ:St}{H:Hp}{s:Shared}(I:Inv X pins σ H s):interactive X.env=false:=by simp [interactive,I.ok.kind]
def Ya(te:TE):TS:=λD σ H=>te σ H λ_ H1=>D.nx σ H1
theorem mh(he:PE X e te)(hs:swapsWith e none pos.line X.env=pure false:=by rfl):PS X (.Expr e pos) (Ya te):=by
 intro pins s σ H D I h;exact wpAny_Expr_any (cD (he pins s σ H _ I h) λv s1 ⟨x,H1,I1,r1,q1⟩=>⟨σ,H1,I1,q1⟩) I.quiet hs
def aaL(te:TE):TS:=λD σ H=>te σ H D.rt
theorem QD(he:PE X e te):PS X (.Return (some e) pos) (aaL te):=by
 intro pins s σ H D I h;exact wpAny_Return_some (cD (he pins s σ H _ I h) λv s1 ⟨x,H1,I1,r1,q1⟩=>⟨x,σ,H1,I1,r1,q1⟩)
def aaI(c:TT)(t u:TS):TS:=λD σ H=>c σ H λb H1=>if b=true then t D σ H1 else u D σ H1
theorem Xs{c:Expr}{a b:List Stmt}{tc:TT}(hc:PT X c tc)(ha:pO X a t)(hb:pO X b u):PS X (.If c a b pos) (aaI tc t u):=by
 intro pins s σ H D I h;refine wpAny_If (cD (hc pins s σ H _ I h) λd s1 ⟨H1,I1,q1⟩=>?_);cases d with
 | true=>exact ha pins s1 σ H1 D I1 q1
 | false=>exact hb pins s1 σ H1 D I1 q1
def RY:TS:=λ_ _ _=>False
theorem DU:PS X st RY:=λ_ _ _ _ _ _ h=>h.elim
end
abbrev TG:=V->St->Hp->(St->Hp->Prop)->Prop
abbrev Jn:=List V->St->Hp->(St->Hp->Prop)->Prop
def PG(X:Cx)(target:Expr)(t:TG):Prop:=
 ∀(pins:List (Addr×Obj)) (s:Shared) (σ:St) (H:Hp) (v:V) (u:Value) (Q:St->Hp->Prop),Inv X pins σ H s->RelV v u->t v σ H Q ->
  wpAny (model X.prog X.w) X.A (assign target X.env u) (λ_ s'=>∃bN H',Inv X pins bN H' s'/\Q bN H') X.xe s
def SJ(X:Cx)(ts:List Expr)(t:Jn):Prop:=
 ∀(pins:List (Addr×Obj)) (s:Shared) (σ:St) (H:Hp) (vs:List V) (us:List Value) (Q:St->Hp->Prop),Inv X pins σ H s->Vals vs us->t vs σ H Q ->
  wpAny (model X.prog X.w) X.A (assignInOrder ((assignEach ts X.env).map (·.2)) us) (λ_ s'=>∃bN H',Inv X pins bN H' s'/\Q bN H') X.xe s
abbrev Kw:=V->V->V->Hp->(Hp->Prop)->Prop
def TR(X:Cx)(t:Kw):Prop:=
 ∀(pins:List (Addr×Obj)) (s:Shared) (σ:St) (H:Hp) (o i v:V) (ov iv u:Value) (Q:Hp->Prop),Inv X pins σ H s->RelV o ov->RelV i iv->RelV v u->t o i v H Q ->
  wpAny (model X.prog X.w) X.A (setItem ov iv u) (λ_ s'=>∃H',Inv X pins σ H' s'/\Q H') X.xe s
section
variable {X:Cx}{pos:Pos}
def oU(i:Nat):TG:=λv σ H Q=>Q (σ.set i (some v)) H
theorem Ht{i:Nat}{x:Str}(hN:X.N.Nodup)(hi:X.N[i]?=some x)(hx:Loc X.env.scope x)(hf:X.fn x=true\/X.env.scope.names.lookup x=some .local:=by first|exact .inl rfl|exact .inr rfl|assumption):PG X (.Name x pos) (oU i):=by
 intro pins s σ H v u Q I r h;exact wpAny_assign_Name (jQ I hN hi hx r (λs' I'=>⟨_,H,I',h⟩) hf)
def ZG:Jn:=λvs σ H Q=>vs=[]/\Q σ H
def Vv(t:TG)(u:Jn):Jn:=λvs σ H Q=>∃v r,vs=v::r/\t v σ H λbN H'=>u r bN H' Q
theorem Hu:SJ X [] ZG:=by
 intro pins s σ H vs us Q I r h;obtain⟨e,h⟩:=h;subst e;cases r;exact assignInOrder_nil ⟨σ,H,I,h⟩
theorem DN{e:Expr}{es:List Expr}{t:TG}{u:Jn}(h1:PG X e t)(h2:SJ X es u)
  (hs:(assignEach (e::es) X.env).map (·.2)=assign e X.env::(assignEach es X.env).map (·.2):=by rfl):SJ X (e::es) (Vv t u):=by
 intro pins s σ H vs us Q I r h;obtain⟨v,vr,e1,h⟩:=h;subst e1;cases r with
 | cons r rr =>
  rw[hs];refine assignInOrder_cons (cD (h1 pins s σ H _ _ _ I r h) λ_ s1 ⟨aA,H1,I1,q1⟩=>?_);exact h2 pins s1 aA H1 _ _ Q I1 rr q1
def ZI(K:PySem.W.Frag)(n:Nat)(t:Jn):TG:=λv σ H Q=>∃a xs,v=.ref a/\iC K H a xs/\xs.length=n/\t xs σ H Q
theorem PX{es:List Expr}{k:Nat}{t:Jn}{n:Nat}(hc:X.calm=true)(h:SJ X es t)
  (hn:(assignEach es X.env).length=n:=by rfl) (j7:(assignEach es X.env).findIdx? (·.1)=none:=by rfl):PG X (.Tuple es k pos) (ZI X.K n t):=by
 intro pins s σ H v u Q I r hw;obtain⟨a,xs,e1,hq,hl,hw⟩:=hw;subst e1;cases r;obtain⟨its,rv,ht,hz⟩:=I.tuple hq;refine assign_Tuple_tuple (I.ok.hd hc) ht (by simp [hn,<- hl,rv.length]) j7 λh' hx=>?_
 have I1:Inv X pins σ H {s with heap:=h'}:=I.kept (t':=s.toks) λb o e=>hx b o (Nat.ne_of_lt (Heap.lt_size e)) e
 exact h pins _ σ H xs _ Q I1 (by simpa using rv) hw
def ZH(to ti:TE)(t:Kw):TG:=λv σ H Q=>to σ H λo H1=>ti σ H1 λi H2=>t o i v H2 λH3=>Q σ H3
theorem PV{o i:Expr}{to ti:TE}{t:Kw}(ho:PE X o to)(hi:PE X i ti)(hs:TR X t)
  (ha:∀v,assign (.Subscript o i pos) X.env v=(do
   let ov <- holding [v] (eval o X.env)
   let iv <- holding [v,ov] (eval i X.env)
   standAt pos
   holding [v,ov,iv] (setItem ov iv v)
   release [v,ov,iv] []):=by intro _;rfl):PG X (.Subscript o i pos) (ZH to ti t):=by
 intro pins s σ H v u Q I r h;rw[ha];refine wpAny_bind (wpAny_holding (cD (ho pins s σ H _ I h) λov s1 ⟨x,H1,I1,r1,q1⟩=>?_));refine wpAny_bind (wpAny_holding (cD (hi pins s1 σ H1 _ I1 q1) λiv s2 ⟨y,H2,I2,r2,q2⟩=>?_));refine wpAny_bind (wpAny_standAt (wpAny_bind (wpAny_holding (cD (hs pins s2 σ H2 x y v ov iv u _ I2 r1 r2 r q2) λ_ s3 ⟨H3,I3,q3⟩=>?_))));exact wpAny_release ⟨σ,H3,I3,q3⟩
def Ej(te:TE)(g:TG):TS:=λD σ H=>te σ H λx H1=>g x σ H1 D.nx
theorem QB{tg e:Expr}{te:TE}{g:TG}(he:PE X e te)(hg:PG X tg g)(hs:swapsWithSole [tg] e pos.line X.env=pure false:=by rfl)(hw:swappedStores [tg] e X.env=pure none:=by rfl)
  (h1:(assignEach [tg] X.env).map (·.2)=[assign tg X.env]:=by rfl):PS X (.Assign [tg] e pos) (Ej te g):=by
 intro pins s σ H D I h;refine wpAny_Assign_stores (cD (he pins s σ H _ I h) λv s1 ⟨x,H1,I1,r1,q1⟩=>?_) hs hw;rw[h1];exact cD (hg pins s1 σ H1 x v _ I1 r1 q1) λ_ s2 q=>q
theorem vZ{i:Nat}{x:Str}{e:Expr}{te:TE}{pos':Pos}(hN:X.N.Nodup)(hi:X.N[i]?=some x)(hx:Loc X.env.scope x)(he:PE X e te)(hs:swapsWith e (some (.Name x pos')) pos.line X.env=pure false:=by rfl)(hf:X.fn x=true\/X.env.scope.names.lookup x=some .local:=by first|exact .inl rfl|exact .inr rfl|assumption):
  PS X (.Assign [.Name x pos'] e pos) (Ej te (oU i)):=by
 intro pins s σ H D I h;refine wpAny_Assign_Name (cD (he pins s σ H _ I h) λv s1 ⟨y,H1,I1,r1,q1⟩=>?_) hs;exact jQ I1 hN hi hx r1 (λs2 I2=>⟨_,H1,I2,q1⟩) hf
end
section
variable {X:Cx}{pos:Pos}
def R9(c:TT)(tb:TS):TS:=λD σ H=>∃W:Nat->St->Hp->Prop,(∃m,W m σ H)/\∀m σ H,W m σ H ->
 c σ H λb H1=>if b=true then∃N:St->Hp->Prop,(∀bN H',N bN H'->∃m',m'<m/\W m' bN H')/\tb {D with nx:=N,ct:=N,bk:=D.nx} σ H1 else D.nx σ H1
theorem DV{c:Expr}{body:List Stmt}{tc:TT}{tb:TS}(hp:PassesOwn (model X.prog X.w) X.A X.env X.xe)(hc:PT X c tc)(hb:pO X body tb):PS X (.While c body [] pos) (R9 tc tb):=by
 intro pins s σ H D I h;obtain⟨W,⟨m0,w0⟩,turn⟩:=h;refine wpAny_While (codeAny_whileLoop (λn s'=>∃bN H',Inv X pins bN H' s'/\W n bN H') ?_ m0 ⟨σ,H,I,w0⟩);rintro n s1 ⟨aA,H1,I1,w1⟩;refine wpAny_passesOwn hp (cD (hc pins s1 aA H1 _ I1 (turn n aA H1 w1)) λb s2 ⟨H2,I2,q2⟩=>?_);cases b with
 | true =>
  obtain⟨N,hN,q2⟩:=q2;rw[if_pos rfl];refine wpAny_passesOwn hp (cD (hb pins s2 aA H2 _ I2 q2) λf s3 q3=>?_);cases f with
  | next =>
   obtain⟨eB,H3,I3,n3⟩:=q3;obtain⟨m',hm,w3⟩:=hN eB H3 n3;exact⟨m',hm,eB,H3,I3,w3⟩
  | cont =>
   obtain⟨eB,H3,I3,n3⟩:=q3;obtain⟨m',hm,w3⟩:=hN eB H3 n3;exact⟨m',hm,eB,H3,I3,w3⟩
  | brk=>exact q3
  | ret v=>exact q3
 | false =>
  rw[if_neg Bool.false_ne_true];exact wpAny_execs_nil ⟨aA,H2,I2,q2⟩
end
structure It where
 go:Nat->Hp->Prop
 Yk:Nat->Hp->V->Hp->Prop
 stop:Nat->Hp->Prop
def gH(X:Cx)(pins:List (Addr×Obj))(H:Hp)(b:Addr):Prop:=
 H b=none/\b≠X.env.locals/\b∉X.fs/\(b∈X.ex\/X.bP.heap.objs.size<=b)/\(∀x c,X.env.cells.lookup x=some c->c≠b)/\∀p∈X.pn++pins,p.1≠b
theorem Inv.yq{X:Cx}{pins:List (Addr×Obj)}{σ:St}{H H':Hp}{s:Shared}{b:Addr}(I:Inv X pins σ H s)(hb:s.heap.objs.size<=b)(hn:H' b=none):gH X pins H' b:=by
 refine⟨hn,Nat.ne_of_gt (Nat.lt_of_lt_of_le I.lt hb),I.aar hb,.inr (Nat.le_trans I.sz hb),λx c e z=>?_,λp hp z=>?_⟩
 ·obtain⟨v,q⟩:=I.cell x c e
  exact absurd (Nat.lt_of_lt_of_le q.lt (by rw[z];exact hb)) (Nat.lt_irrefl _)
 ·exact absurd (Nat.lt_of_lt_of_le (Heap.lt_size (I.pin p hp).1) (by rw[z];exact hb)) (Nat.lt_irrefl _)
structure Turn(P:Program)(w:World)(K:PySem.W.Frag)(tg:Expr)(J:It)(fp:List Addr)(it:Addr)(tn:Nat->Heap->Prop):Prop where
 mem:it∈fp
 obj:∀i h,tn i h->∀b∈fp,∃o,h.get? b=some o/\∀v,o.data≠.cell v
 keep:∀i h h',tn i h->(∀b∈fp,∀o,h.get? b=some o->h'.get? b=some o)->tn i h'
 item:∀(X:Cx),X.prog=P->X.w=w->X.K=K->X.calm=true->∀(i:Nat) (pins:List (Addr×Obj)) (s:Shared) (σ:St) (H:Hp) (E:Value->Shared->Prop),Inv X pins σ H s->(∀b∈fp,gH X pins H b)->tn i s.heap->J.go i H ->
  wpAny (model P w) X.A (pyNext (.ref it)) (λr s1=>∃u,r=some u /\
   wpAny (model P w) X.A (letOwnedTupleGo tg (.ref it) u) (λ_ s2=>∃x H',Inv X pins σ H' s2/\RelV x u/\J.Yk i H x H'/\tn (i+1) s2.heap/\∀b∈fp,H' b=none) E s1) E s
 done:∀(X:Cx),X.prog=P->X.w=w->X.K=K->X.calm=true->∀(i:Nat) (pins:List (Addr×Obj)) (s:Shared) (σ:St) (H:Hp) (E:Value->Shared->Prop),Inv X pins σ H s->(∀b∈fp,gH X pins H b)->tn i s.heap->J.stop i H ->
  wpAny (model P w) X.A (pyNext (.ref it)) (λr s1=>r=none/\Inv X pins σ H s1) E s
 self:∀(A:Around) (i:Nat) (s:Shared) (Q:Value->Shared->Prop) (E:Value->Shared->Prop),tn i s.heap->Q (.ref it) s->wpAny (model P w) A (pyIter (.ref it)) Q E s
abbrev TI:=St->Hp->(It->Hp->Prop)->Prop
def Y9(X:Cx)(pins:List (Addr×Obj))(σ:St)(tg:Expr)(R:It->Hp->Prop)(YF:Value)(s2:Shared):Prop:=
 ∃(it:Addr) (fp:List Addr) (tn:Nat->Heap->Prop) (J:It) (H':Hp),YF=.ref it/\Inv X pins σ H' s2/\Turn X.prog X.w X.K tg J fp it tn/\tn 0 s2.heap/\(∀b∈fp,gH X pins H' b)/\R J H'
def PI(X:Cx)(tg iter:Expr)(wi:TI):Prop:=
 ∀(pins:List (Addr×Obj)) (s:Shared) (σ:St) (H:Hp) (R:It->Hp->Prop),Inv X pins σ H s->wi σ H R ->
  wpAny (model X.prog X.w) X.A (eval iter X.env) (λv s1=>wpAny (model X.prog X.w) X.A (pyIter v) (Y9 X pins σ tg R) X.xe s1) X.xe s
theorem Cd{M:Model}{A:Around}{E:Value->Shared->Prop}{s:Shared}{tg:Expr}{it:Addr}{u:Value}{o:Obj}{n:String}{vs:Array Value}{Q:Unit->Shared->Prop}(ho:s.heap.get? it=some o)(hc:o.cls=.type n)(hd:o.data=.fields vs)
    (hn:["enumerate","zip","dict_itemiterator","dict_reverseitemiterator","odict_iterator","itertools.zip_longest","itertools.pairwise"].contains n=false) (hQ:Q () s):wpAny M A (letOwnedTupleGo tg (.ref it) u) Q E s:=by
  unfold letOwnedTupleGo;cases tg<;>first
    | exact wpAny_pure hQ
    | (cases u<;>first
        | exact wpAny_pure hQ
        | (refine wpAny_bind (wpAny_load ho ?_)
           rw[hc,hd];show wpAny M A (if(["enumerate","zip","dict_itemiterator","dict_reverseitemiterator","odict_iterator","itertools.zip_longest","itertools.pairwise"].contains n&&vs[0]?==some (rawInt _))=true then _ else _) Q E s
           rw[if_neg (by intro h;rw[hn,Bool.false_and]at h;cases h)]
           exact wpAny_pure hQ))
def Y4(K:PySem.W.Frag)(a:Addr):It:=
 ⟨λi H=>∃xs x,fm K H a xs/\xs[i]?=some x,λi H x H'=>H'=H/\∀xs,fm K H a xs->xs[i]?=some x,λi H=>∃xs,fm K H a xs/\xs.length<=i⟩
def Y5(K:PySem.W.Frag)(a:Addr):It:=
 ⟨λi H=>∃xs x,iC K H a xs/\xs[i]?=some x,λi H x H'=>H'=H/\∀xs,iC K H a xs->xs[i]?=some x,λi H=>∃xs,iC K H a xs/\xs.length<=i⟩
def TN(lo:Int)(n:Nat):It:=⟨λi _=>i<n,λi H x H'=>H'=H/\x=.int (lo+i),λi _=>n<=i⟩
theorem zj{P:Program}{w:World}{K:PySem.W.Frag}{tg:Expr}(a it:Addr):Turn P w K tg (Y4 K a) [it] it (λi h=>h.IsListIter it a i) where
 mem:=by simp
 obj:=λi h st b hb=>by
  have e:b=it:=by simpa using hb
  subst e;obtain⟨o,e,c,d⟩:=st;exact⟨o,e,λv z=>by rw[d]at z;cases z⟩
 keep:=λi h h' st k=>st.at λo e=>k it (by simp) o e
 item:=by
  intro X hP hw hK hc i pins s σ H E I hf st hg;subst hP hw hK;obtain⟨xs,x,hq,hx⟩:=hg;obtain⟨its,rv,p,hz⟩:=I.list hq;obtain⟨u,hu,ru⟩:=rv.get hx;obtain⟨f0,f1,f2,f3,f4,f5⟩:=hf it (by simp)
  refine wpAny_pyNext_list_item st p.isList (x:=u) (by simpa using hu) λh' aC sb=>?_
  have I1:Inv X pins σ H {s with heap:=h'}:=I.turned (t':=s.toks) (λb o hb e=>(sb.2 b hb).trans e) f0 f1 f3 f4 f5
  obtain⟨o,e,c,d⟩:=id aC;exact⟨u,rfl,Cd (s:={s with heap:=h'}) e c d ∅ ⟨x,H,I1,ru,⟨rfl,λys hy=>by rw[I.tZ hy hq];exact hx⟩,aC,λb hb=>(hf b hb).1⟩⟩
 done:=by
  intro X hP hw hK hc i pins s σ H E I hf st hg;subst hP hw hK;obtain⟨xs,hq,hx⟩:=hg;obtain⟨its,rv,p,hz⟩:=I.list hq;obtain⟨f0,f1,f2,f3,f4,f5⟩:=hf it (by simp)
  have hl:=rv.length;exact wpAny_pyNext_list_end (I.ok.hd hc) st p.isList (by simp;omega) λh' eb=>⟨rfl,I.turned (t':=s.toks) (λb o hb e=>eb b o hb e) f0 f1 f3 f4 f5⟩
 self:=λ_ _ _ _ _ st h=>wpAny_pyIter_listiter st h
theorem wC{P:Program}{w:World}{K:PySem.W.Frag}{tg:Expr}(a it:Addr):Turn P w K tg (Y5 K a) [it] it (λi h=>h.IsTupleIter it a i) where
 mem:=by simp
 obj:=λi h st b hb=>by
  have e:b=it:=by simpa using hb
  subst e;obtain⟨o,e,c,d⟩:=st;exact⟨o,e,λv z=>by rw[d]at z;cases z⟩
 keep:=λi h h' st k=>st.at λo e=>k it (by simp) o e
 item:=by
  intro X hP hw hK hc i pins s σ H E I hf st hg;subst hP hw hK;obtain⟨xs,x,hq,hx⟩:=hg;obtain⟨its,rv,p,hz⟩:=I.tuple hq;obtain⟨u,hu,ru⟩:=rv.get hx;obtain⟨f0,f1,f2,f3,f4,f5⟩:=hf it (by simp)
  refine wpAny_pyNext_tuple_item st (show s.heap.IsTuple a its.toArray from p) (x:=u) (by simpa using hu) λh' aC sb=>?_
  have I1:Inv X pins σ H {s with heap:=h'}:=I.turned (t':=s.toks) (λb o hb e=>(sb.2 b hb).trans e) f0 f1 f3 f4 f5
  obtain⟨o,e,c,d⟩:=id aC;exact⟨u,rfl,Cd (s:={s with heap:=h'}) e c d ∅ ⟨x,H,I1,ru,⟨rfl,λys hy=>by rw[I.pI hy hq];exact hx⟩,aC,λb hb=>(hf b hb).1⟩⟩
 done:=by
  intro X hP hw hK hc i pins s σ H E I hf st hg;subst hP hw hK;obtain⟨xs,hq,hx⟩:=hg;obtain⟨its,rv,p,hz⟩:=I.tuple hq;obtain⟨f0,f1,f2,f3,f4,f5⟩:=hf it (by simp)
  have hl:=rv.length;exact wpAny_pyNext_tuple_end (I.ok.hd hc) st (show s.heap.IsTuple a its.toArray from p) (by simp;omega) λh' eb=>⟨rfl,I.turned (t':=s.toks) (λb o hb e=>eb b o hb e) f0 f1 f3 f4 f5⟩
 self:=λ_ _ _ _ _ st h=>wpAny_pyIter_tupleiter st h
theorem wB{P:Program}{w:World}{K:PySem.W.Frag}{tg:Expr}(it:Addr)(lo:Int)(n:Nat):Turn P w K tg (TN lo n) [it] it (λi h=>IsRangeIter h it (lo+(i:Nat)*1) ((n:Int)-(i:Nat)) 1) where
 mem:=by simp
 obj:=λi h st b hb=>by
  have e:b=it:=by simpa using hb
  subst e;exact⟨_,st,λv z=>by
   have z':Data.fields _=Data.cell v:=z;cases z'⟩
 keep:=λi h h' st k=>k it (by simp) _ st
 item:=by
  intro X hP hw hK hc i pins s σ H E I hf st hg;subst hP hw hK;obtain⟨f0,f1,f2,f3,f4,f5⟩:=hf it (by simp)
  have W:=Walks.range (prog:=X.prog) (w:=X.w) (I.ok.hd hc) it lo 1 n;refine W.item i s _ _ hg st λv h' tk hv aC kk=>?_;obtain⟨t,rfl⟩:=hv;have I1:Inv X pins σ H {s with heap:=h',toks:=tk}:=I.turned (λb o hb e=>kk b o (by simpa using hb) e) f0 f1 f3 f4 f5
  refine⟨_,rfl,Cd (s:={s with heap:=h',toks:=tk}) (n:="range_iterator") aC rfl rfl ∅ ⟨.int (lo+i),H,I1,⟨t,?_⟩,⟨rfl,rfl⟩,aC,λb hb=>(hf b hb).1⟩⟩
  rw[Int.mul_one]
 done:=by
  intro X hP hw hK hc i pins s σ H E I hf st hg;subst hP hw hK;obtain⟨f0,f1,f2,f3,f4,f5⟩:=hf it (by simp)
  exact wpAny_pyNext_range_end (I.ok.hd hc) st (by have:n<=i:=hg;omega) λh' eb=>⟨rfl,I.turned (t':=s.toks) (λb o hb e=>eb b o hb e) f0 f1 f3 f4 f5⟩
 self:=λ_ _ _ _ _ st h=>wpAny_pyIter_rangeiter st h
end L2
namespace L2
open PySem PySem.Spec PyProof.Rows
section
variable {X:Cx}{tg:Expr}
theorem uy{pins:List (Addr×Obj)}{σ:St}{H:Hp}{s:Shared}{R:It->Hp->Prop}{E:Value->Shared->Prop}{lo hi:Int}{t u v:Tok}{tk:Nat}(I:Inv X pins σ H s)(h1:-(2^62)<=lo)(h2:lo<2^62)(h3:-(2^62)<=hi)(h4:hi<2^62)
  (q:R (TN lo (hi-lo).toNat) H):wpAny (model X.prog X.w) X.A (pyIter (.ref s.heap.objs.size)) (Y9 X pins σ tg R) E {s with heap:=s.heap.push {cls:=.type "range",data:=.fields #[.int lo t,.int hi u,.int 1 v]},toks:=tk}:=by
 refine wpAny_pyIter_range (IsRange.new ..) (small_one h1 h2 h3 h4) ?_;have I1:Inv X pins σ H {s with heap:=s.heap.push {cls:=.type "range",data:=.fields #[.int lo t,.int hi u,.int 1 v]},toks:=tk}:=I.kept λb o e=>Heap.get?_push_of_some _ e
 refine⟨(s.heap.push {cls:=.type "range",data:=.fields #[.int lo t,.int hi u,.int 1 v]}).objs.size,[(s.heap.push {cls:=.type "range",data:=.fields #[.int lo t,.int hi u,.int 1 v]}).objs.size],_,_,H,rfl,
  I1.kept (t':=tk) λb o e=>Heap.get?_push_of_some _ e,wB _ lo (hi-lo).toNat,?_,λb hb=>?_,q⟩
 ·have e1:lo+((0:Nat):Int)*1=lo:=by simp
  have e2:(((hi-lo).toNat:Nat):Int)-((0:Nat):Int)=Builtin.Range.rangeSize lo hi 1:=by rw[rangeSize_one];split<;>omega
  show IsRangeIter _ _ (lo+((0:Nat):Int)*1) ((((hi-lo).toNat:Nat):Int)-((0:Nat):Int)) 1;rw[e1,e2];exact Heap.get?_push_size _ rfl
 ·have e:b=(s.heap.push {cls:=.type "range",data:=.fields #[.int lo t,.int hi u,.int 1 v]}).objs.size:=by simpa using hb
  subst e;exact I1.yq (Nat.le_refl _) (I1.bC.fresh (Nat.le_refl _))
def V5(ta:TA):TI:=λσ H R=>ta σ H λvs H1=>∃j:Int,vs=[.int j]/\-(2^62)<=j/\j<2^62/\R (TN 0 j.toNat) H1
def V6(ta:TA):TI:=λσ H R=>ta σ H λvs H1=>∃i j:Int,vs=[.int i,.int j]/\(-(2^62)<=i/\i<2^62/\-(2^62)<=j/\j<2^62)/\R (TN i (j-i).toNat) H1
theorem yT{a:Expr}{ta:TA}{p pos:Pos}(hg:Gl X "range")(hm:X.mg "range"=none)(ha:PA X [a] ta)(hs:starEach [a] X.env=[(false,eval a X.env)]:=by rfl):PI X tg (.Call (.Name "range" p) [a] [] pos) (V5 ta):=by
 intro pins s σ H R I h;refine Call_ (fR I hg hm boot_range (PyProof.Rows.callWith_type1 (cD (ha pos pins s σ H _ I h) λus s1 ⟨vs,H1,I1,r1,q1⟩=>?_) hs rfl));obtain⟨j,e,q1,q2,q⟩:=q1;subst e;cases r1 with
 | cons r rr =>
  cases rr;obtain⟨t,rfl⟩:=r;exact call_range_1 (uy I1 ⋯ ⋯ q1 q2 (by simpa using q))
theorem yU{a b:Expr}{ta:TA}{p pos:Pos}(hg:Gl X "range")(hm:X.mg "range"=none)(ha:PA X [a,b] ta)(hs:starEach [a,b] X.env=[(false,eval a X.env),(false,eval b X.env)]:=by rfl)(CT:starEach [b] X.env=[(false,eval b X.env)]:=by rfl):
  PI X tg (.Call (.Name "range" p) [a,b] [] pos) (V6 ta):=by
 intro pins s σ H R I h;refine Call_ (fR I hg hm boot_range (PyProof.Rows.callWith_type1 (cD (ha pos pins s σ H _ I h) λus s1 ⟨vs,H1,I1,r1,q1⟩=>?_) (by rw[hs,CT]) (by rw[CT];rfl)))
 obtain⟨i,j,e,⟨q1,q2,q3,q4⟩,q⟩:=q1;subst e;cases r1 with
 | cons r rr =>
  cases rr with
  | cons r' rr =>
   cases rr;obtain⟨t,rfl⟩:=r;obtain⟨t',rfl⟩:=r';exact call_range_2 (uy I1 q1 q2 q3 q4 q)
def aaH(wi:TI)(g:TG)(tb:TS):TS:=λD σ H=>wi σ H λJ H1=>∃W:Nat->Nat->St->Hp->Prop,(∃m,W 0 m σ H1)/\∀i m σ H,W i m σ H ->
 (J.stop i H/\D.nx σ H)\/(J.go i H/\∃N:St->Hp->Prop,(∀bN H',N bN H'->∃m',m'<m/\W (i+1) m' bN H')/\∀x H',J.Yk i H x H'->g x σ H' λbu H2=>tb {D with nx:=N,ct:=N,bk:=D.nx} bu H2)
def kH(fp:List Addr)(h:Heap):List (Addr×Obj):=fp.filterMap λb=>(h.get? b).map λo=>(b,o)
theorem d8{fp:List Addr}{h:Heap}{b:Addr}{o:Obj}(hb:b∈fp)(e:h.get? b=some o):(b,o)∈kH fp h:=List.mem_filterMap.mpr ⟨b,hb,by rw[e];rfl⟩
theorem yP{fp:List Addr}{h:Heap}{p:Addr×Obj}(hp:p∈kH fp h):p.1∈fp/\h.get? p.1=some p.2:=by
 obtain⟨b,hb,e⟩:=List.mem_filterMap.mp hp;cases q:h.get? b with
 | none=>rw[q]at e;cases e
 | some o =>
  rw[q]at e;have e':(b,o)=p:=Option.some.inj e;subst e';exact⟨hb,q⟩
theorem Inv.pinned{pins:List (Addr×Obj)}{σ:St}{H:Hp}{s:Shared}{fp:List Addr}(I:Inv X pins σ H s)(hf:∀b∈fp,gH X pins H b)(ho:∀b∈fp,∃o,s.heap.get? b=some o/\∀v,o.data≠.cell v):Inv X (pins++kH fp s.heap) σ H s:=
 I.xF λp hp=>(List.mem_append.mp hp).elim (λz=>I.pin p (List.mem_append_right _ z)) λz=>by
  obtain⟨hb,e⟩:=yP z;obtain⟨f0,f1,f2,_⟩:=hf p.1 hb;obtain⟨o,e',d⟩:=ho p.1 hb;rw[e]at e';cases e';exact⟨e,f0,f1,f2,d⟩
theorem Inv.f9{pins pl:List (Addr×Obj)}{σ:St}{H:Hp}{s:Shared}(I:Inv X (pins++pl) σ H s):Inv X pins σ H s:=I.xF λp hp=>I.pin p (List.mem_append_right _ (List.mem_append_left _ hp))
theorem QC{iter:Expr}{body:List Stmt}{wi:TI}{g:TG}{tb:TS}{pos:Pos}(hp:PassesOwn (model X.prog X.w) X.A X.env X.xe)(hc:X.calm=true)(hi:PI X tg iter wi)(hg:PG X tg g)(hb:pO X body tb)
  (hs:∀x,foldedSetIterable iter X.env x=pure x:=by intro _;rfl):PS X (.For tg iter body [] pos) (aaH wi g tb):=by
 intro pins s σ H D I h;refine wpAny_For (cD (hi pins s σ H _ I h) λv s1 h1=>cD h1 λYF s2 h2=>?_) hs;obtain⟨it,fp,tn,J,H2,e,I2,T,zc,f2,W,⟨m0,w0⟩,turn⟩:=h2;subst e
 -- what stays true of the iterator's objects through the loop
 have stat:∀ {H':Hp},(∀b∈fp,H' b=none)->∀b∈fp,gH X pins H' b:=λhn b hb=>⟨hn b hb,(f2 b hb).2⟩;refine codeAny_forLoop_any (λn s'=>∃i bN H',Inv X pins bN H' s'/\tn i s'.heap/\(∀b∈fp,H' b=none)/\W i n bN H') ?_ m0 ⟨0,σ,H2,I2,zc,λb hb=>(f2 b hb).1,w0⟩;rintro n s3 ⟨i,eB,H3,I3,st3,MQ,w3⟩;rcases turn i n eB H3 w3 with⟨stop,qn⟩|⟨go,N,hN,step⟩
 ·refine wpAny_passesOwn hp (cD (T.done X rfl rfl rfl hc i pins s3 eB H3 X.xe I3 (stat MQ) st3 stop) λr s4 ⟨hr,I4⟩=>?_)
  subst hr;exact wpAny_execs_nil ⟨eB,H3,I4,qn⟩
 ·refine wpAny_passesOwn hp (cD (T.item X rfl rfl rfl hc i pins s3 eB H3 X.xe I3 (stat MQ) st3 go) λr s4 ⟨u,hr,h4⟩=>?_)
  subst hr;refine wpAny_passesOwn hp (cD h4 λ_ s5 ⟨x,H5,I5,r5,y5,Tg,Fu⟩=>?_);have I5':=I5.pinned (stat Fu) (T.obj _ _ Tg);refine wpAny_passesOwn hp (cD (hg _ s5 eB H5 x u _ I5' r5 (step x H5 y5)) λ_ s6 ⟨σ6,H6,I6,q6⟩=>?_);refine wpAny_passesOwn hp (cD (hb _ s6 σ6 H6 _ I6 q6) λf s7 q7=>?_);have again:∀ {zG:St} {H7:Hp},Inv X (pins++kH fp s5.heap) zG H7 s7->N zG H7->∃m,m<n/\∃i bN H',Inv X pins bN H' s7/\tn i s7.heap/\(∀b∈fp,H' b=none)/\W i m bN H':=λ{zG H7} I7 n7=>by
   obtain⟨m',hm,w7⟩:=hN zG H7 n7;refine⟨m',hm,i+1,zG,H7,I7.f9,T.keep _ _ _ Tg λb hb o e=>(I7.pin (b,o) (List.mem_append_right _ (List.mem_append_right _ (d8 hb e)))).1,λb hb=>?_,w7⟩;obtain⟨o,e,d⟩:=T.obj _ _ Tg b hb;exact(I7.pin (b,o) (List.mem_append_right _ (List.mem_append_right _ (d8 hb e)))).2.1
  cases f with
  | next=>obtain⟨zG,H7,I7,n7⟩:=q7;exact again I7 n7
  | cont=>obtain⟨zG,H7,I7,n7⟩:=q7;exact again I7 n7
  | brk=>obtain⟨zG,H7,I7,q7⟩:=q7;exact⟨zG,H7,I7.f9,q7⟩
  | ret v=>obtain⟨x7,zG,H7,I7,r7,q7⟩:=q7;exact⟨x7,zG,H7,I7.f9,r7,q7⟩
end
end L2
namespace L2
open PySem PySem.Spec PyProof.Rows
abbrev R2:=V->V->Hp->VK->Prop
def gI(X:Cx)(f:Value->Value->Sem Value)(r:R2):Prop:=
 ∀(pins:List (Addr×Obj)) (s:Shared) (σ:St) (H:Hp) (x y:V) (v u:Value) (Q:VK),Inv X pins σ H s->RelV x v->RelV y u->r x y H Q ->
  wpAny (model X.prog X.w) X.A (f v u) (EP X pins σ Q) X.xe s
def Zf(X:Cx)(f:Value->Sem Value)(r:V->Hp->VK->Prop):Prop:=
 ∀(pins:List (Addr×Obj)) (s:Shared) (σ:St) (H:Hp) (x:V) (v:Value) (Q:VK),Inv X pins σ H s->RelV x v->r x H Q ->
  wpAny (model X.prog X.w) X.A (f v) (EP X pins σ Q) X.xe s
def cQ(X:Cx)(f:Value)(r:List V->Hp->VK->Prop):Prop:=
 ∀(pins:List (Addr×Obj)) (s:Shared) (σ:St) (H:Hp) (xs:List V) (us:List Value) (Q:VK),Inv X pins σ H s->Vals xs us->r xs H Q ->
  wpAny (model X.prog X.w) X.A (call f us) (EP X pins σ Q) X.xe s
def Ze(X:Cx)(r:V->Hp->(Bool->Hp->Prop)->Prop):Prop:=
 ∀(pins:List (Addr×Obj)) (s:Shared) (σ:St) (H:Hp) (x:V) (v:Value) (Q:Bool->Hp->Prop),Inv X pins σ H s->RelV x v->r x H Q ->
  wpAny (model X.prog X.w) X.A (truthy v) (TP X pins σ Q) X.xe s
def Ti(r:R2)(ta tb:TE):TE:=λσ H Q=>ta σ H λx H1=>tb σ H1 λy H2=>r x y H2 Q
def tUn(r:V->Hp->VK->Prop)(ta:TE):TE:=λσ H Q=>ta σ H λx H1=>r x H1 Q
def rI(C:Int->Int->Prop)(g:Int->Int->V):R2:=λx y H Q=>∃i j,x=.int i/\y=.int j/\C i j/\Q (g i j) H
def FC(g:Int->Int->V):R2:=λx y H Q=>∃i j,x=.int i/\y=.int j/\Q (g i j) H
def rU(g:Int->V):V->Hp->VK->Prop:=λx H Q=>∃i,x=.int i/\Q (g i) H
section
variable {X:Cx}{a b c:Expr}{ta tb tc:TE}{pos:Pos}
theorem K6(ha:PE X a ta)(hb:PE X b tb){pins:List (Addr×Obj)}{s:Shared}{σ:St}{H:Hp}{R:V->V->Hp->Prop}(I:Inv X pins σ H s)
  (h:ta σ H λx H1=>tb σ H1 λy H2=>R x y H2) {Q:Value->Shared->Prop} {f:Value->Value->Sem Value}
  (hf:∀v u s2 x y H2,Inv X pins σ H2 s2->RelV x v->RelV y u->R x y H2->wpAny (model X.prog X.w) X.A (f v u) Q X.xe s2):
  wpAny (model X.prog X.w) X.A (eval a X.env) (λv bL=>wpAny (model X.prog X.w) X.A (eval b X.env) (λu rS=>wpAny (model X.prog X.w) X.A (f v u) Q X.xe rS) X.xe bL) X.xe s:=by
 refine cD (ha pins s σ H _ I h) λv s1 ⟨x,H1,I1,r1,q1⟩=>?_;refine cD (hb pins s1 σ H1 _ I1 q1) λu s2 ⟨y,H2,I2,r2,q2⟩=>?_;exact hf v u s2 x y H2 I2 r1 r2 q2
theorem Xf{op:Operator}{r:R2}(ho:gI X (binaryOp op) r)(ha:PE X a ta)(hb:PE X b tb):PE X (.BinOp a op b pos) (Ti r ta tb):=by
 intro pins s σ H Q I h;exact wpAny_BinOp (K6 ha hb I h λv u s2 x y H2 I2 rx ry q=>ho pins s2 σ H2 x y v u Q I2 rx ry q)
theorem Xg{op:UnaryOp}{r:V->Hp->VK->Prop}(ho:Zf X (unaryOp op) r)(ha:PE X a ta):PE X (.UnaryOp op a pos) (tUn r ta):=by
 intro pins s σ H Q I h;exact UnaryOp_ (cD (ha pins s σ H _ I h) λv s1 ⟨x,H1,I1,r1,q1⟩=>ho pins s1 σ H1 x v Q I1 r1 q1)
theorem WX{f:Value->Value->Sem Value}{C:Int->Int->Prop}{g:Int->Int->Int}
  (rule:∀(i j:Int) (t u:Tok) (s:Shared) (Q:Value->Shared->Prop) (E:Value->Shared->Prop),C i j->Q (.int (g i j) s.toks) {s with toks:=s.toks+1}->wpAny (model X.prog X.w) X.A (f (.int i t) (.int j u)) Q E s):
  gI X f (rI C λi j=>.int (g i j)):=by
 intro pins s σ H x y v u Q I rx ry h;obtain⟨i,j,rfl,rfl,hc,q⟩:=h;obtain⟨t,rfl⟩:=rx;obtain⟨t',rfl⟩:=ry;exact rule i j t t' s _ _ hc ⟨.int (g i j),H,I.tok _,⟨_,rfl⟩,q⟩
theorem WY{f:Value->Value->Sem Value}{g:Int->Int->Int}
  (rule:∀(i j:Int) (t u:Tok) (s:Shared) (Q:Value->Shared->Prop) (E:Value->Shared->Prop),Q (.int (g i j) s.toks) {s with toks:=s.toks+1}->wpAny (model X.prog X.w) X.A (f (.int i t) (.int j u)) Q E s):
  gI X f (FC λi j=>.int (g i j)):=by
 intro pins s σ H x y v u Q I rx ry h;obtain⟨i,j,rfl,rfl,q⟩:=h;obtain⟨t,rfl⟩:=rx;obtain⟨t',rfl⟩:=ry;exact rule i j t t' s _ _ ⟨.int (g i j),H,I.tok _,⟨_,rfl⟩,q⟩
theorem Hc{f:Value->Value->Sem Value}{g:Int->Int->Bool}
  (rule:∀(i j:Int) (t u:Tok) (s:Shared) (Q:Value->Shared->Prop) (E:Value->Shared->Prop),Q (.bool (g i j)) s->wpAny (model X.prog X.w) X.A (f (.int i t) (.int j u)) Q E s):
  gI X f (FC λi j=>.bl (g i j)):=by
 intro pins s σ H x y v u Q I rx ry h;obtain⟨i,j,rfl,rfl,q⟩:=h;obtain⟨t,rfl⟩:=rx;obtain⟨t',rfl⟩:=ry;exact rule i j t t' s _ _ ⟨.bl (g i j),H,I,rfl,q⟩
def YZ(i j:Int):Prop:=0<j/\j<1073741824
def nU(i j:Int):Prop:=0<=j/\j<=1000000/\i.natAbs<2^64
def lx(i j:Int):Prop:=(-(2^64)<i/\i<2^64)\/(-(2^64)<j/\j<2^64)
theorem lx.ok{i j:Int}(h:lx i j):IntMulOk i j:=by
 rcases h with⟨h1,h2⟩|⟨h1,h2⟩
 ·exact .of_left (intBits_le_64 h1 h2)
 ·exact .of_right (intBits_le_64 h1 h2)
theorem Pj:gI X (binaryOp .Add) (FC λi j=>.int (i+j)):=WY λ_ _ _ _ _ _ _ q=>add_int q
theorem Pr:gI X (binaryOp .Sub) (FC λi j=>.int (i-j)):=WY λ_ _ _ _ _ _ _ q=>sub_int q
theorem Pn:gI X (binaryOp .Mult) (rI lx λi j=>.int (i*j)):=WX λ_ _ _ _ _ _ _ hc q=>mul_int q hc.ok
theorem Pm:gI X (binaryOp .Mod) (rI (λ_ j=>0<j) λi j=>.int (i%j)):=WX λi j _ _ _ _ _ hc q=>by
 have h1:(0:Int)<j:=hc;exact mod_int' ⋯ (by rw[Int.fmod_eq_emod_of_nonneg i ⋯];exact q)
theorem Pq:gI X (binaryOp .Pow) (rI nU λi j=>.int (i^j.toNat)):=WX λ_ _ _ _ _ _ _ hc q=>pow_int_small hc.1 hc.2.1 hc.2.2 q
theorem unI{f:Value->Sem Value}{g:Int->Int}
  (rule:∀(i:Int) (t:Tok) (s:Shared) (Q:Value->Shared->Prop) (E:Value->Shared->Prop),Q (.int (g i) s.toks) {s with toks:=s.toks+1}->wpAny (model X.prog X.w) X.A (f (.int i t)) Q E s):
  Zf X f (rU λi=>.int (g i)):=by
 intro pins s σ H x v Q I rx h;obtain⟨i,rfl,q⟩:=h;obtain⟨t,rfl⟩:=rx;exact rule i t s _ _ ⟨.int (g i),H,I.tok _,⟨_,rfl⟩,q⟩
theorem Sz:Zf X (unaryOp .USub) (rU λi=>.int (-i)):=unI λ_ _ _ _ _ q=>neg_int q
end
section
variable {X:Cx}{a b c:Expr}{ta tb tc:TE}{pos:Pos}
theorem vI{pins:List (Addr×Obj)}{σ:St}{H:Hp}{s:Shared}{Q:VK}{k k':Bool}(I:Inv X pins σ H s)(q:Q (.bl k) H)(e:k=k'):EP X pins σ Q (.bool k') s:=by
 subst e;exact⟨.bl k,H,I,rfl,q⟩
theorem W3:gI X (compareOp .Lt) (FC λi j=>.bl (decide (i<j))):=Hc λ_ _ _ _ _ _ _ q=>lt_int q
theorem W2:gI X (compareOp .LtE) (FC λi j=>.bl (decide (i<=j))):=Hc λ_ _ _ _ _ _ _ q=>le_int q
theorem W0:gI X (compareOp .Gt) (FC λi j=>.bl (decide (j<i))):=Hc λ_ _ _ _ _ _ _ q=>gt_int q
theorem WZ:gI X (compareOp .GtE) (FC λi j=>.bl (decide (j<=i))):=Hc λ_ _ _ _ _ _ _ q=>ge_int q
theorem Pl:gI X (compareOp .Is) (λx y H Q=>y=.aX/\Q (.bl (decide (x=.aX))) H):=by
 intro pins s σ H x y v u Q I rx ry h;obtain⟨rfl,q⟩:=h;cases ry;refine is_none_gen (vI I q ?_);cases x<;>first
  | (cases rx;rfl)
  | (obtain⟨t,rfl⟩:=rx;rfl)
theorem Hh:gI X (compareOp .IsNot) (λx y H Q=>y=.aX/\Q (.bl (!decide (x=.aX))) H):=by
 intro pins s σ H x y v u Q I rx ry h;obtain⟨rfl,q⟩:=h;cases ry;refine isnot_none_gen (vI I q ?_);cases x<;>first
  | (cases rx;rfl)
  | (obtain⟨t,rfl⟩:=rx;rfl)
theorem gI.or{f:Value->Value->Sem Value}{r r':R2}(h:gI X f r)(h':gI X f r'):gI X f (λx y H Q=>r x y H Q\/r' x y H Q):=by
 intro pins s σ H x y v u Q I rx ry q;rcases q with q|q
 ·exact h pins s σ H x y v u Q I rx ry q
 ·exact h' pins s σ H x y v u Q I rx ry q
theorem Dm(b:Expr){op:CmpOp}(h:op≠.In:=by decide)(h2:op≠.NotIn:=by decide):behindInMarks op b=false:=by
 have e1:(op==CmpOp.In)=false:=by cases op<;>first|rfl|exact absurd rfl h
 have e2:(op==CmpOp.NotIn)=false:=by cases op<;>first|rfl|exact absurd rfl h2
 cases b<;>simp [behindInMarks,e1,e2]
theorem Hq{op:CmpOp}{r:R2}(ho:gI X (compareOp op) r)(ha:PE X a ta)(hb:PE X b tb)(hm:behindInMarks op b=false):PE X (.Compare a [op] [b] pos) (Ti r ta tb):=by
 intro pins s σ H Q I h;exact wpAny_Compare1 (K6 ha hb I h λv u s2 x y H2 I2 rx ry q=>ho pins s2 σ H2 x y v u Q I2 rx ry q) hm
def Ye(t:TE):TT:=λσ H Q=>t σ H λx H'=>∃k,x=.bl k/\Q k H'
theorem HB{op:CmpOp}{r:R2}(ho:gI X (compareOp op) r)(ha:PE X a ta)(hb:PE X b tb)(hm:behindInMarks op b=false):PT X (.Compare a [op] [b] pos) (Ye (Ti r ta tb)):=by
 intro pins s σ H Q I h;refine wpAny_isTrue_Compare1 (cD (ha pins s σ H _ I h) λv s1 ⟨x,H1,I1,r1,q1⟩=>cD (hb pins s1 σ H1 _ I1 q1) λu s2 ⟨y,H2,I2,r2,q2⟩ =>
  cD (ho pins s2 σ H2 x y v u _ I2 r1 r2 q2) λc s3 ⟨z,H3,I3,r3,k,e,q3⟩=>?_) hm
 subst e;cases r3;exact wpAny_truthy_bool ⟨H3,I3,q3⟩
def TY(K:PySem.W.Frag)(x:V)(H:Hp)(k:Bool):Prop:=
 match x with
 | .aX=>k=false
 | .bl b=>k=b
 | .int i=>k=(i != 0)
 | .str y=>y.length<=sizeLine/\k=((y.length:Int) != 0)
 | .Ui y=>y.size<=sizeLine/\k=((y.size:Int) != 0)
 | .ref p=>(∃xs,fm K H p xs/\k=!xs.isEmpty)\/(∃xs,iC K H p xs/\k=!xs.isEmpty)\/∃kvs,H p=some (.dK kvs)/\k=!kvs.isEmpty
 | _=>False
theorem vP{κ:Type}{kvs:List (κ×V)}{vs:List (κ×Value)}(r:KV kvs vs):(!vs.isEmpty)=!kvs.isEmpty:=by
 cases r<;>rfl
theorem mV{xs:List V}{its:List Value}(r:Vals xs its):(!its.toArray.isEmpty)=!xs.isEmpty:=by
 cases r<;>simp
theorem hJ:(sizeLine:Nat)<2^63:=by rw[sizeLine_eq];decide
theorem Sw:Ze X (λx H Q=>∃k,TY X.K x H k/\Q k H):=by
 intro pins s σ H x v Q I rx h;obtain⟨k,e,q⟩:=h;have hl:=hJ;have hs:sizeLine=16777216:=sizeLine_eq;cases x with
 | aX =>
  cases rx;have e':k=false:=e;subst e';exact truthy_none ⟨H,I,q⟩
 | bl b =>
  cases rx;have e':k=b:=e;subst e';exact wpAny_truthy_bool ⟨H,I,q⟩
 | int i =>
  obtain⟨t,rfl⟩:=rx;have e':k=(i != 0):=e;subst e';exact PySem.P.truthy_int ⟨H,I,q⟩
 | str y =>
  obtain⟨t,rfl⟩:=rx;obtain⟨hy,e'⟩:y.length<=sizeLine/\k=((y.length:Int) != 0):=e;subst e';exact PySem.P.truthy_str ⋯ ⟨H,I.tok _,q⟩
 | Ui y =>
  obtain⟨t,rfl⟩:=rx;obtain⟨hy,e'⟩:y.size<=sizeLine/\k=((y.size:Int) != 0):=e;subst e';exact PySem.W.truthy_bytes ⋯ ⟨H,I.tok _,q⟩
 | ref p =>
  cases rx;have e':(∃xs,fm X.K H p xs/\k=!xs.isEmpty)\/(∃xs,iC X.K H p xs/\k=!xs.isEmpty)\/∃kvs,H p=some (.dK kvs)/\k=!kvs.isEmpty:=e;rcases e' with⟨xs,hx,e'⟩|⟨xs,hx,e'⟩|⟨kvs,hx,e'⟩
  ·subst e'
   obtain⟨its,r,pl,hz⟩:=I.list hx;have hlen:=r.length;exact wpAny_truthy_list pl.isList (by simp only[List.size_toArray];omega) ⟨H,I.tok _,by rw[mV r];exact q⟩
  ·subst e'
   obtain⟨its,r,pl,hz⟩:=I.tuple hx;have hlen:=r.length;exact truthy_tuple pl (by simp only[List.size_toArray];omega) ⟨H,I.tok _,by rw[mV r];exact q⟩
  ·subst e'
   obtain⟨hz,hS,vs,r,m⟩:kvs.length<=sizeLine/\(p==sysModules)=false/\∃vs,KV kvs vs/\s.heap.DictOf (cN X.prog X.w) p vs:=I.bC p _ hx;have hlen:kvs.length=vs.length:=Paired.length r;exact wpAny_truthy_dict hS m ⋯ ⟨H,I.tok _,by rw[vP r];exact q⟩
 | _=>exact(show False from e).elim
theorem DX(ha:PE X a ta)(he:∀whole,isTrue a X.env whole=(do let v <- whole;standAt a.pos;holding [v] (truthy v))):
  PT X a (λσ H Q=>ta σ H λx H'=>∃k,TY X.K x H' k/\Q k H'):=by
 intro pins s σ H Q I h;exact isTrue_plain (cD (ha pins s σ H _ I h) λv s1 ⟨x,H1,I1,r1,q1⟩=>Sw pins s1 σ H1 x v Q I1 r1 q1) (he _)
theorem vX:gI X (binaryOp .Add) (λx y H Q=>∃i j,x=.str i/\y=.str j/\i.length+j.length<=sizeLine/\Q (.str (i++j)) H):=by
 intro pins s σ H x y v u Q I rx ry h;obtain⟨i,j,rfl,rfl,hz,q⟩:=h;obtain⟨t,rfl⟩:=rx;obtain⟨t',rfl⟩:=ry;exact add_str (λt' tk=>⟨.str (i++j),H,I.tok _,⟨_,rfl⟩,q⟩) hz
theorem vals1{x:V}{us:List Value}(r:Vals [x] us):∃u,us=[u]/\RelV x u:=by
 cases r with
 | cons r1 r2=>cases r2;exact⟨_,rfl,r1⟩
theorem vals2{x y:V}{us:List Value}(r:Vals [x,y] us):∃u w',us=[u,w']/\RelV x u/\RelV y w':=by
 cases r with
 | cons r1 r2 =>
  cases r2 with
  | cons r3 r4=>cases r4;exact⟨_,_,rfl,r1,r3⟩
theorem Au:cQ X (.builtin "abs") (λxs H Q=>∃i,xs=[.int i]/\Q (.int (if i<0 then -i else i)) H):=by
 intro pins s σ H xs us Q I r h;obtain⟨i,rfl,q⟩:=h;obtain⟨u,rfl,t,rfl⟩:=vals1 r;exact call_abs_int λu tk=>⟨.int (if i<0 then -i else i),H,I.tok _,⟨_,rfl⟩,q⟩
theorem yj(hc:X.calm=true):cQ X (.builtin "max") (λxs H Q=>∃i j,xs=[.int i,.int j]/\Q (.int (if j>i then j else i)) H):=by
 intro pins s σ H xs us Q I r h;obtain⟨i,j,rfl,q⟩:=h;obtain⟨u,w',rfl,⟨t,rfl⟩,⟨t',rfl⟩⟩:=vals2 r;refine max_two_ints (I.ok.hd hc) λh' tk k=>⟨_,H,I.kept k,?_,q⟩
 by_cases hj:j>i
 ·rw[if_pos hj,if_pos hj];exact⟨_,rfl⟩
 ·rw[if_neg hj,if_neg hj];exact⟨_,rfl⟩
theorem yk(hc:X.calm=true):cQ X (.builtin "min") (λxs H Q=>∃i j,xs=[.int i,.int j]/\Q (.int (if j<i then j else i)) H):=by
 intro pins s σ H xs us Q I r h;obtain⟨i,j,rfl,q⟩:=h;obtain⟨u,w',rfl,⟨t,rfl⟩,⟨t',rfl⟩⟩:=vals2 r;refine min_two_ints (I.ok.hd hc) λh' tk k=>⟨_,H,I.kept k,?_,q⟩
 by_cases hj:j<i
 ·rw[if_pos hj,if_pos hj];exact⟨_,rfl⟩
 ·rw[if_neg hj,if_neg hj];exact⟨_,rfl⟩
theorem yi:cQ X (.type "int") (λxs H Q=>(∃i,xs=[.int i]/\Q (.int i) H)\/∃k,xs=[.bl k]/\Q (.int (if k then 1 else 0)) H):=by
 intro pins s σ H xs us Q I r h;rcases h with⟨i,rfl,q⟩|⟨k,rfl,q⟩
 ·obtain⟨u,rfl,t,rfl⟩:=vals1 r
  exact call_int_int ⟨.int i,H,I,⟨_,rfl⟩,q⟩
 ·obtain⟨u,rfl,r1⟩:=vals1 r
  cases r1;exact call_int_bool ⟨.int (if k then 1 else 0),H,I.tok _,⟨_,rfl⟩,q⟩
end
end L2
namespace L2
open PySem PySem.Spec PyProof.Rows
structure Kt(h:Heap)(x dx C:Addr)(mA:Str->Option Value):Prop where
 obj:h.get? x=some (PySem.W.instObj C dx)
 ns:h.Ns1 dx mA
 ne:dx≠x
theorem yL{h:Heap}{dx:Addr}{mA:Str->Option Value}(n:h.Ns1 dx mA):∃od,h.get? dx=some od/\∀name,PySem.W.lookIn name od=some (mA name):=by
 obtain⟨o,es,ep,ho,hd,hk,_,hm⟩:=n;refine⟨o,ho,λname=>?_⟩;have e:=hm name;unfold nsFind findBy at e;rw[<- Array.find?_toList]at e;unfold PySem.W.lookIn;rw[hd];dsimp only
 split
 ·rename_i y q
  rw[q]at e;exact congrArg some e
 ·rename_i q
  rw[q]at e;have a:es.toList.any (·.refKey)=false:=by
   rw[List.any_eq_false];intro y hy;obtain⟨z,t,Z3⟩:=hk y (Array.mem_toList_iff.mp hy);simp [DictEntry.refKey,Z3]
  have a':¬es.toList.any (·.refKey)=true:=by rw[a];exact Bool.false_ne_true
  rw[if_neg a'];exact congrArg some e
theorem Kt.look{h:Heap}{x dx C:Addr}{mA:Str->Option Value}(I:Kt h x dx C mA):∃od,PySem.W.InstAt h x (PySem.W.instObj C dx) C (some od)/\∀name,PySem.W.lookIn name od=some (mA name):=
 let ⟨od,ho,hl⟩:=yL I.ns
 ⟨od,⟨I.obj,rfl,rfl,ho⟩,hl⟩
theorem mC.some_of{v:V}{o:Option Value}(r:mC (some v) o):∃u,o=some u/\RelV v u:=by
 cases o with
 | none=>exact(show False from r).elim
 | some u=>exact⟨u,rfl,r⟩
section
variable {P:Program}{w:World}{H H':Hp}{h h':Heap}{a C dx:Addr}{fs fs':List (Str×V)}
theorem GV(bC:fe P w H h)(e:H a=some (.ins C dx fs)):∃mA,Kt h a dx C mA/\(∀f,mC (fs.lookup f) (mA f))/\PySem.Within mA (fs.map (·.1))/\fs.length<=1000/\H dx=some (.own a):=by
 obtain⟨d,z,ne,ob,mA,n,r,q⟩:=(show bR P w H h a (.ins C dx fs)from bC a _ e)
 exact⟨mA,⟨ob,n,ne⟩,r,q,z,d⟩
end
structure Y2(K:PySem.W.Frag)(C:Addr):Prop where
 pg:PySem.W.plainGet K C Str.empty=true
 hd:PySem.W.hasDictIn K C=true
 po:PySem.W.plainOver K C=true
 sa:PySem.W.findIn K (.ref C) "__setattr__"=some (some (.builtin "object.__setattr__"))
theorem Y2.get{K:PySem.W.Frag}{C:Addr}(c:Y2 K C)(f:Str):PySem.W.plainGet K C f=true:=c.pg
section
variable {X:Cx}{o e value:Expr}{f:Str}{pos pos' jV:Pos}{ta tv:TE}
def HE:V->V->Hp->VK->Prop:=λx y H Q=>∃i j,x=.int i/\y=.int j/\Q (.int (i+j)) H
end
section
variable {X:Cx}{pins:List (Addr×Obj)}{σ:St}{H:Hp}{s:Shared}{A:Around}{E:Value->Shared->Prop}{Q:Value->Shared->Prop}{c:Value}{b:Bool}
inductive kh (K:PySem.W.Frag)(H:Hp):V->Value->Prop where
 | aX:kh K H .aX (.type "NoneType")
 | bl (x:Bool):kh K H (.bl x) (.type "bool")
 | int (i:Int):kh K H (.int i) (.type "int")
 | str (x:Str):kh K H (.str x) (.type "str")
 | SR (x:UInt64):kh K H (.SR x) (.type "float")
 | lst {a:Addr} {xs:List V} (e:H a=some (.lst xs)):kh K H (.ref a) (.type "list")
 | qg {a:Addr} {o:Obj} {xs:List V} (e:H a=some (.qg o (.lst xs))):kh K H (.ref a) (.type "list")
 | tup {a:Addr} {xs:List V} (e:H a=some (.tup xs)):kh K H (.ref a) (.type "tuple")
 | dK {a:Addr} {kvs:List (Key×V)} (e:H a=some (.dK kvs)):kh K H (.ref a) (.type "dict")
 | dT {a:Addr} {kvs:List (List Key×V)} (e:H a=some (.dT kvs)):kh K H (.ref a) (.type "dict")
 | ins {a C dx:Addr} {fs:List (Str×V)} (e:H a=some (.ins C dx fs)) (cl:Y2 K C) (ha:PySem.W.findIn K (.ref C) "__class__"=some (some (.builtin "object.__class__")))
   (hn:PySem.W.specialIn K (.builtin "object.__class__") "__get__"=some (some (.builtin "getset_descriptor.__get__"))) (S7:PySem.W.takesIn K (.builtin "object.__class__")=some true)
   (hm:PySem.W.mroIn K C (.type "object")=some true):kh K H (.ref a) (.ref C)
theorem yF{x:V}{u t:Value}(I:Inv X pins σ H s)(rx:RelV x u)(ty:kh X.K H x t)(e:PySem.W.kitOne X.K t c=some b)(h:∀tk,Q (.bool b) {s with toks:=tk}):
  wpAny (model X.prog X.w) A (call (.builtin "isinstance") [u,c]) Q E s:=by
 cases ty with
 | aX=>cases(show u=Value.none from rx);exact PySem.W.kia_one PySem.W.kitx_none I.nY True.intro e (λz=>nomatch z) h
 | bl y=>cases(show u=Value.bool y from rx);exact PySem.W.kia_one PySem.W.kitx_bool I.nY True.intro e (λz=>nomatch z) h
 | int i=>obtain⟨t,q⟩:=(show∃t,u=Value.int i t from rx);cases q;exact PySem.W.kia_one PySem.W.kitx_int I.nY True.intro e (λz=>nomatch z) h
 | str y=>obtain⟨t,q⟩:=(show∃t,u=Value.str y t from rx);cases q;exact PySem.W.kia_one PySem.W.kitx_str I.nY True.intro e (λz=>nomatch z) h
 | SR y=>obtain⟨t,q⟩:=(show∃t,u=Value.float y t from rx);cases q;exact PySem.W.kia_one PySem.W.kitx_float I.nY True.intro e (λz=>nomatch z) h
 | @lst a xs ea =>
  cases(show u=Value.ref a from rx)
  obtain⟨_,_,n,_,h1⟩:=(show bR X.prog X.w H s.heap a (.lst xs)from I.bC a _ ea)
  exact PySem.W.kia_one PySem.W.kitx_list I.nY ⟨_,h1,rfl⟩ e (λz=>nomatch z) h
 | @qg a ob xs ea =>
  cases(show u=Value.ref a from rx)
  obtain⟨_,_,_,n,_,h1⟩:=(show bR X.prog X.w H s.heap a (.qg ob (.lst xs))from I.bC a _ ea)
  exact PySem.W.kia_one PySem.W.kitx_list I.nY ⟨_,h1,rfl⟩ e (λz=>nomatch z) h
 | @tup a xs ea =>
  cases(show u=Value.ref a from rx)
  obtain⟨_,_,_,p⟩:=(show bR X.prog X.w H s.heap a (.tup xs)from I.bC a _ ea)
  obtain⟨o,h1,h2,_⟩:=p;exact PySem.W.kia_one PySem.W.kitx_tuple I.nY ⟨o,h1,h2⟩ e (λz=>nomatch z) h
 | @dK a kvs ea =>
  cases(show u=Value.ref a from rx)
  obtain⟨_,_,vs,_,p⟩:=(show bR X.prog X.w H s.heap a (.dK kvs)from I.bC a _ ea)
  obtain⟨o,es,ep,h1,h2,_⟩:=p;exact PySem.W.kia_one PySem.W.kitx_dict I.nY ⟨o,h1,h2.1⟩ e (λz=>nomatch z) h
 | @dT a kvs ea =>
  cases(show u=Value.ref a from rx)
  obtain⟨_,_,xs,_,o,es,ep,h1,h2,_⟩:=(show bR X.prog X.w H s.heap a (.dT kvs)from I.bC a _ ea)
  exact PySem.W.kia_one PySem.W.kitx_dict I.nY ⟨o,h1,h2.1⟩ e (λz=>nomatch z) h
 | @ins a C dx fs ea cl ha hn S7 hm =>
  cases(show u=Value.ref a from rx)
  obtain⟨mA,O,_⟩:=GV I.bC ea;obtain⟨od,J,_⟩:=O.look;exact PySem.W.kia_one (PySem.W.kitx_own (cl.get _) cl.hd ha hn S7 hm) I.nY J e (λz=>nomatch z) h
end
end L2
namespace L2
open PySem PySem.Spec PyProof.Rows
structure gJ(k:Nat)(A:Around):Prop where
 hd:A.handled=none
 dp:A.depth+3*k+5<recursionLimit
 un:A.units+16*k+200<cLine
theorem gJ.mono{j k:Nat}{A:Around}(r:gJ k A)(h:j<=k):gJ j A:=⟨r.hd,by have:=r.dp;omega,by have:=r.un;omega⟩
theorem gJ.deeper{k:Nat}{A:Around}(r:gJ (k+1) A)(env:Env):gJ k (A.deeper env):=
 ⟨r.hd,by have:=r.dp;show A.depth+1+3*k+5<_;omega,by have:=r.un;show A.units+3+16*k+200<_;omega⟩
theorem gJ.depth{k:Nat}{A:Around}(r:gJ k A):A.depth<recursionLimit:=by have:=r.dp;omega
def wt:TA:=λ_ H Q=>Q [] H
def lh(ta:TE)(tr:TA):TA:=λσ H Q=>ta σ H λx H1=>tr σ H1 λxs H2=>Q (x::xs) H2
section
variable {X:Cx}{e:Expr}{es:List Expr}{te:TE}{t:TA}{pos:Pos}
theorem cZ:PA X [] wt:=λ_ _ _ _ H Q I h=>Calls.spliced_nil ⟨[],H,I,.nil,h⟩
theorem cn(ha:PE X e te)(hr:PA X es t)(hs:starEach (e::es) X.env=(false,eval e X.env)::starEach es X.env:=by rfl):PA X (e::es) (lh te t):=by
 intro pos pins s σ H Q I h;rw[hs];show wpAny _ _ (spliced ((false,eval e X.env)::backTo pos (starEach es X.env))) _ _ s;refine Calls.spliced_cons (cD (ha pins s σ H _ I h) λu s1 ⟨x,H1,I1,r1,q1⟩=>?_);exact cD (hr pos pins s1 σ H1 _ I1 q1) λus s2 ⟨xs,H2,I2,r2,q2⟩=>⟨x::xs,H2,I2,.cons r1 r2,q2⟩
def aaN(t:TA):TE:=λσ H Q=>t σ H λxs H1=>xs.length<=sizeLine/\∀p,H1 p=none->Q (.ref p) (upd H1 p (.tup xs))
def aaJ(t:TA):TE:=λσ H Q=>t σ H λxs H1=>xs.length<=sizeLine/\∀p,H1 p=none->Q (.ref p) (upd H1 p (.lst xs))
theorem DL{x1}(h:PA X es t):PE X (.Tuple es x1 pos) (aaN t):=by
 intro pins s σ H Q I hq;refine wpAny_Tuple_spliced (cD (h pos pins s σ H _ I hq) λus s1 ⟨xs,H1,I1,r,z,q⟩=>⟨by rw[<- r.length];exact z,?_⟩)
 have hf:H1 s1.heap.objs.size=none:=I1.bC.fresh (Nat.le_refl _);refine⟨.ref s1.heap.objs.size,upd H1 s1.heap.objs.size (.tup xs),I1.laid (t':=s1.toks) (λb u e=>Heap.get?_push_of_some _ e) (Nat.le_refl _) ?_,rfl,q _ hf⟩;exact⟨z,us,r,⟨_,Heap.get?_push_size _ rfl,rfl,_,rfl⟩⟩
theorem qE(h:PA X es t):PE X (.List es pos) (aaJ t):=by
 intro pins s σ H Q I hq;refine wpAny_List_spliced (cD (h pos pins s σ H _ I hq) λus s1 ⟨xs,H1,I1,r,z,q⟩=>⟨by rw[<- r.length];exact z,?_⟩)
 have hf:H1 s1.heap.objs.size=none:=I1.bC.fresh (Nat.le_refl _);refine⟨.ref s1.heap.objs.size,upd H1 s1.heap.objs.size (.lst xs),I1.laid (t':=s1.toks) (λb u e=>Heap.get?_push_of_some _ e) (Nat.le_refl _) ?_,rfl,q _ hf⟩;exact⟨z,us,0,r,Heap.get?_push_size _ rfl⟩
end
abbrev Sp:=List V->Hp->VK->XK->Prop
abbrev wF:=List Env->Hp->Shared->XK->Value->Shared->Prop
structure FJ(P:Program)(w:World)(K:PySem.W.Frag)(mg:Str->Option Value)(base:Heap)(A:Around)(outer:List Env)(s:Shared)(H:Hp):Prop where
 frames:A.frames=some outer
 mod:Mod K mg base
 bs:∀b o,base.get? b=some o->s.heap.get? b=some o/\H b=none
 zr:base.objs.size<=s.heap.objs.size
 iO:s.heap.FunFrames base outer
 Gu:∀b∈iM outer,H b=none
 bC:fe P w H s.heap
 bare:AllBare s.gens
def CE(outer:List Env)(P:Program)(w:World)(H:Hp)(s:Shared)(Q:VK)(u:Value)(s':Shared):Prop:=
 ∃v H',s'.os=s.os/\AllBare s'.gens/\Un (iM outer) [] H H' s.heap s'.heap/\fe P w H' s'.heap/\RelV v u/\Q v H'
def CR(CX:wF)(outer:List Env)(P:Program)(w:World)(H:Hp)(s:Shared)(Q:VK)(E:XK)(r:Result)(s':Shared):Prop:=
 match r with
 | .ok (.ret u)=>CE outer P w H s Q u s'
 | .ok _=>False
 | .error e=>CX outer H s E e s'
structure dQ(P:Program)(w:World)(K:PySem.W.Frag)(mg:Str->Option Value)(base:Heap)(CX:wF)(k:Nat)(f:Addr)(fd:FuncData)(ps:List Str)(sp:Sp):Prop where
 len:∀vs H Q E,sp vs H Q E->vs.length=ps.length
 run:∀(A:Around) (outer:List Env) (s:Shared) (H:Hp) (args:Args) (us:List Value) (vs:List V) (Q:VK) (E:XK),gJ k A->FJ P w K mg base A outer s H->BindsTo s fd args (ps.zip us)->Vals vs us->sp vs H Q E ->
  codeAny (model P w) A (.call (.ref f) args) (CR CX outer P w H s Q E) s
theorem dQ.mono{P:Program}{w:World}{K:PySem.W.Frag}{mg:Str->Option Value}{base:Heap}{CX:wF}{j k:Nat}{f:Addr}{fd:FuncData}{ps:List Str}{sp:Sp}(F:dQ P w K mg base CX j f fd ps sp)(h:j<=k):
  dQ P w K mg base CX k f fd ps sp:=⟨F.len,λA outer s H args us vs Q E hr=>F.run A outer s H args us vs Q E (hr.mono h)⟩
theorem dQ.imp{P:Program}{w:World}{K:PySem.W.Frag}{mg:Str->Option Value}{base:Heap}{CX:wF}{k:Nat}{f:Addr}{fd:FuncData}{ps:List Str}{sp sp':Sp}(F:dQ P w K mg base CX k f fd ps sp)
  (h:∀vs H Q E,sp' vs H Q E->sp vs H Q E):dQ P w K mg base CX k f fd ps sp':=
 ⟨λvs H Q E q=>F.len vs H Q E (h _ _ _ _ q),λA outer s H args us vs Q E hr he hb hv hs=>F.run A outer s H args us vs Q E hr he hb hv (h _ _ _ _ hs)⟩
section
variable {X:Cx}{pins:List (Addr×Obj)}{σ:St}{H:Hp}{s s':Shared}
theorem Inv.Vg(I:Inv X pins σ H s):FJ X.prog X.w X.K X.mg X.base X.A X.stack s H:=
 ⟨I.ok.frames,I.ok.mod,I.bs,Nat.le_trans I.ok.zr I.sz,I.stack,I.jP,I.bC,I.bare⟩
theorem Inv.after{Q:VK}{u:Value}(I:Inv X pins σ H s)(h:CE X.stack X.prog X.w H s Q u s'):EP X pins σ Q u s':=by
 obtain⟨v,H',os,bare,un,bC,r,q⟩:=h;obtain⟨hh,g,d,t,os'⟩:=s';obtain rfl:os'=s.os:=os;exact⟨v,H',I.call (h':=hh) (g':=g) (d':=d) (t':=t) (ch:=[]) un bC bare (λb z=>absurd z (by simp)),r,q⟩
end
def X8(sp:Sp)(dvs:List V)(E:XK)(t:TA):TE:=λσ H Q=>t σ H λvs H1=>sp (vs++dvs) H1 Q E
def Binds(K:PySem.W.Frag)(fd:FuncData)(ps:List Str)(ds:List Value):Prop:=
 ∀(s:Shared) (us:List Value),K.In s.heap->(us++ds).length=ps.length->BindsTo s fd ⟨us,[]⟩ (ps.zip (us++ds))
theorem Binds.all{K:PySem.W.Frag}{fd:FuncData}{ps:List Str}(h:∀us:List Value,us.length=ps.length->bindArgs fd ⟨us,[]⟩=pure (ps.zip us)):Binds K fd ps []:=λs us _ hl=>by
 rw[List.append_nil]at hl ⊢;exact .of_eq (h us hl)
def Passes(CX:wF)(X:Cx)(E:XK):Prop:=∀(pins:List (Addr×Obj)) (σ:St) (H:Hp) (s:Shared) (e:Value) (s':Shared),Inv X pins σ H s->CX X.stack H s E e s'->X.xe e s'
section
variable {X:Cx}{CX:wF}{k:Nat}{f C:Addr}{fd:FuncData}{ps:List Str}{sp:Sp}{dvs:List V}{ds:List Value}{E:XK}{x m:Str}{p pos apos:Pos}{e o:Expr}{es:List Expr}{ta:TE}{t:TA}
theorem QG{pins:List (Addr×Obj)}{σ:St}{H:Hp}{s:Shared}{Q:VK}{us:List Value}{vs:List V}(F:dQ X.prog X.w X.K X.mg X.base CX k f fd ps sp)(hr:gJ k X.A)(hb:Binds X.K fd ps ds)(hd:Vals dvs ds)(hx:Passes CX X E)
  (I:Inv X pins σ H s) (r:Vals vs us) (h:sp (vs++dvs) H Q E):wpAny (model X.prog X.w) X.A (call (.ref f) us) (EP X pins σ Q) X.xe s:=by
 have r2:Vals (vs++dvs) (us++ds):=r.append hd;have hl:(us++ds).length=ps.length:=by rw[<- r2.length];exact F.len _ _ _ _ h
 refine wpAny_call (codeAny_mono (F.run X.A X.stack s H ⟨us,[]⟩ (us++ds) (vs++dvs) Q E hr I.Vg (hb s us I.nY hl) r2 h) λr s' hq=>?_);cases r with
 | error e=>exact hx pins σ H s e s' I hq
 | ok fl =>
  cases fl with
  | ret u=>exact I.after hq
  | next=>exact False.elim hq
  | brk=>exact False.elim hq
  | cont=>exact False.elim hq
theorem xD(F:dQ X.prog X.w X.K X.mg X.base CX k f fd ps sp)(hr:gJ k X.A)(hg:Gl X x)(hm:X.mg x=some (.ref f))(hk:PySem.W.keepIn X.K (.ref f)=true)(hb:Binds X.K fd ps ds)(hd:Vals dvs ds)(hx:Passes CX X E)
  (ha:PA X (e::es) t) (qm:(x==("__debug__":Str))=false:=by decide) (he:starEach (e::es) X.env=(false,eval e X.env)::starEach es X.env:=by rfl) (fP:(backTo pos (starEach es X.env)).any (·.1)=false:=by rfl):
  PE X (.Call (.Name x p) (e::es) [] pos) (X8 sp dvs E t):=by
 intro pins s σ H Q I h;refine wpAny_Call_Name_kw (i3 I hg hm ?_ qm);refine PySem.W.callWith_K (h₀:=X.base) I.ok.mod.Wm hk (cD (ha pos pins s σ H _ I h) λus s1 ⟨vs,H1,I1,r,q⟩=>⟨I1.nY,?_⟩) he fP;exact QG F hr hb hd hx I1 r q
end
def PK(X:Cx)(Wn:List Keyword)(t:TA):Prop:=
 ∀(pos:Pos) (pins:List (Addr×Obj)) (s:Shared) (σ:St) (H:Hp) (Q:List V->Hp->Prop),Inv X pins σ H s->t σ H Q->wpAny (model X.prog X.w) X.A (evalAll ((backToKw pos (keywordEach Wn X.env)).map (·.2))) (AP X pins σ Q) X.xe s
section
variable {X:Cx}{CX:wF}{k:Nat}{f C:Addr}{fd:FuncData}{ps ks:List Str}{sp:Sp}{E:XK}{x m:Str}{p pos apos aao:Pos}{e o:Expr}{es:List Expr}{Wn:List Keyword}{te ta:TE}{t tk:TA}{nm:Option Str}
theorem Qb:PK X [] wt:=λ_ _ _ _ H Q I h=>wpAny_evalAll_nil ⟨[],H,I,.nil,h⟩
theorem Hv(ha:PE X e te)(hr:PK X Wn t):PK X (⟨nm,e,aao⟩::Wn) (lh te t):=by
 intro pos pins s σ H Q I h;show wpAny _ _ (evalAll ((do let v <- eval e X.env;standAt pos;pure v)::(backToKw pos (keywordEach Wn X.env)).map (·.2))) _ _ s
 refine wpAny_evalAll_cons (wpAny_bind (cD (ha pins s σ H _ I h) λu s1 ⟨x,H1,I1,r1,q1⟩=>wpAny_bind (wpAny_standAt (wpAny_pure ?_))));exact cD (hr pos pins s1 σ H1 _ I1 q1) λus s2 ⟨xs,H2,I2,r2,q2⟩=>⟨x::xs,H2,I2,.cons r1 r2,q2⟩
variable {g:List Value->List Value->List Value}{gV:List V->List V->List V}
end
structure aH(N P:List Str)(sc:Scope):Prop where
 kind:sc.kind=.function
 co:sc.isCoroutine=false
 gen:sc.isGenerator=false
 nd:N.Nodup
 pre:N.take P.length=P
 par:∀x∈P,sc.names.lookup x=some .local\/sc.names.lookup x=some .cell
 Oa:∀y∈sc.names,y.2≠.free
theorem oF{kindOf:Str->Option NameKind}{x:Str}:∀ {binds:List (Str×Value)} {m:Str->Option Value},(∀v,(x,v)∉binds)->bindL kindOf binds m x=m x
 | [],_,_=>rfl
 | (n,v)::r,m,h=>by
  unfold bindL;rw[oF λw hw=>h w (List.mem_cons_of_mem _ hw)]
  split
  ·have:x≠n:=by rintro rfl;exact h v List.mem_cons_self
   simp [this]
  ·rfl
theorem oD{kindOf:Str->Option NameKind}{x:Str}:∀ {binds:List (Str×Value)} {m:Str->Option Value},(∀v,(x,v)∉binds)->bindC kindOf binds m x=m x
 | [],_,_=>rfl
 | (n,v)::r,m,h=>by
  unfold bindC;rw[oD λw hw=>h w (List.mem_cons_of_mem _ hw)]
  split
  ·rfl
  ·have:x≠n:=by rintro rfl;exact h v List.mem_cons_self
   simp [this]
theorem oE{kindOf:Str->Option NameKind}{x:Str}{v:Value}:∀ {P:List Str} {vs:List Value} {i:Nat} {m:Str->Option Value},P.Nodup->P[i]?=some x->vs[i]?=some v->kindOf x=some .local ->
  bindL kindOf (P.zip vs) m x=some v
 | [],_,_,_,_,h,_,_=>by simp at h
 | _::_,[],_,_,_,_,h,_=>by simp at h
 | p::P,w::vs,0,m,nd,h1,h2,hk=>by
  simp at h1 h2;subst h1;subst h2;show bindL kindOf ((p,w)::P.zip vs) m p=_;unfold bindL;rw[oF λv hv=>(List.nodup_cons.mp nd).1 (List.of_mem_zip hv).1,if_pos hk];simp
 | p::P,w::vs,i+1,m,nd,h1,h2,hk=>by
  show bindL kindOf ((p,w)::P.zip vs) m x=_;unfold bindL;exact oE (i:=i) (List.nodup_cons.mp nd).2 (by simpa using h1) (by simpa using h2) hk
theorem oC{kindOf:Str->Option NameKind}{x:Str}{v:Value}:∀ {P:List Str} {vs:List Value} {i:Nat} {m:Str->Option Value},P.Nodup->P[i]?=some x->vs[i]?=some v->kindOf x≠some .local ->
  bindC kindOf (P.zip vs) m x=some v
 | [],_,_,_,_,h,_,_=>by simp at h
 | _::_,[],_,_,_,_,h,_=>by simp at h
 | p::P,w::vs,0,m,nd,h1,h2,hk=>by
  simp at h1 h2;subst h1;subst h2;show bindC kindOf ((p,w)::P.zip vs) m p=_;unfold bindC;rw[oD λv hv=>(List.nodup_cons.mp nd).1 (List.of_mem_zip hv).1,if_neg hk];simp
 | p::P,w::vs,i+1,m,nd,h1,h2,hk=>by
  show bindC kindOf ((p,w)::P.zip vs) m x=_;unfold bindC;exact oC (i:=i) (List.nodup_cons.mp nd).2 (by simpa using h1) (by simpa using h2) hk
def start(N:List Str)(vs:List V):St:=vs.map some++List.replicate (N.length-vs.length) none
def p7(CX:wF)(P:Program)(w:World)(K:PySem.W.Frag)(mg:Str->Option Value)(base:Heap)(N:List Str)(qual:Str)(scope:Scope)(f:Addr)(cd:Value)(A:Around)(outer:List Env)(s:Shared)(H:Hp)(E:XK):Cx where
 prog:=P
 w:=w
 K:=K
 mg:=mg
 base:=base
 A:=A.deeper (envOfC qual scope s.heap.objs.size f cd)
 N:=N
 bP:=s
 j8:=H
 env:=envOfC qual scope s.heap.objs.size f cd
 outer:=outer
 stack:=envOfC qual scope s.heap.objs.size f cd::outer
 ex:=[]
 calm:=true
 fn:=λ_=>true
 pn:=[]
 xe:=λe s'=>wpAny (model P w) (A.deeper (envOfC qual scope s.heap.objs.size f cd)) (leaving (envOfC qual scope s.heap.objs.size f cd) e) (λ_ XE=>CX outer H s E e XE) (λe' XE=>CX outer H s E e' XE) s'
theorem sx{sc:Scope}{n:Nat}{x:Str}(h:sc.names.lookup x=some .cell):∃c,(cellsFrom n sc.names []).lookup x=some c:=by
 have q:=PySem.W.cellsFrom_some sc.names n [] (.inl h);exact Option.isSome_iff_exists.mp q
theorem yD{CX:wF}{P:Program}{w:World}{K:PySem.W.Frag}{mg:Str->Option Value}{base:Heap}{N ps:List Str}{qual:Str}{scope:Scope}{f:Addr}{cd:Value}{A:Around}{outer:List Env}{s s1:Shared}{H:Hp}{E:XK}{us:List Value}{vs:List V}
  (S:aH N ps scope) (hd:A.handled=none) (e0:FJ P w K mg base A outer s H) (hl:vs.length=ps.length) (r:Vals vs us)
  (x:InCallC s s.heap.objs.size (bindL (envOfC qual scope s.heap.objs.size f cd).kindOf (ps.zip us) λ_=>none) (cellsFrom (s.heap.objs.size+1) scope.names []) (bindC (envOfC qual scope s.heap.objs.size f cd).kindOf (ps.zip us) λ_=>none) s1):
  Inv (p7 CX P w K mg base N qual scope f cd A outer s H E) [] (start N vs) H s1:=by
 have fP:ps.length<=N.length:=by have:=congrArg List.length S.pre;rw[List.length_take]at this;omega
 obtain⟨h1,tk,rfl,hk⟩:=x.done;have Ws:∀b:Addr,b∉(p7 CX P w K mg base N qual scope f cd A outer s H E).ex:=λb z=>absurd (show b∈([]:List Addr)from z) (by simp)
 refine⟨⟨e0.mod,S.kind,rfl,rfl,Nat.le_refl _,λy z c h1 h2=>?_,λy hy=>?_,λy c _ h=>?_,λ_=>hd,Around.frames_deeper e0.frames,.inr ⟨rfl,rfl⟩,λb z=>absurd z (Ws b),e0.bs,e0.zr,λb _ _=>Ws b,λb z=>absurd z (Ws b),e0.iO,e0.Gu⟩,
  rfl,e0.bare,Un.kept hk,⟨_,x.toInCall.ns,λi y v h1 h2 h3=>?_⟩,λy c h=>⟨_,x.cell y c h⟩,e0.bC.fresh (Nat.le_refl _),λy c h=>?_,λp hp=>absurd (show p∈([]:List (Addr×Obj))from hp) (by simp),e0.bC.kept hk,?_⟩
 ·exact name_of_addr x.apart (PySem.mem_of_lookup h1) (PySem.mem_of_lookup h2)
 ·have hy:scope.names.lookup y=some .cell\/scope.names.lookup y=some .free:=hy
  rcases hy with hy|hy
  ·exact sx hy
  ·exact absurd rfl (S.Oa _ (PySem.mem_of_lookup hy))
 ·exact Nat.le_of_lt (x.above y c (PySem.mem_of_lookup h))
 ·have hi:i<vs.length:=by
   unfold start at h2
   by_cases hi:i<vs.length
   ·exact hi
   ·rw[List.getElem?_append_right (by simpa using hi)]at h2
    rw[List.getElem?_replicate]at h2
    split at h2<;>cases h2
  have ha:vs[i]?=some v:=by
   unfold start at h2;rw[List.getElem?_append_left (by simpa using hi),List.getElem?_map]at h2
   cases e:vs[i]? with
   | none=>rw[e]at h2;cases h2
   | some a=>rw[e]at h2;cases h2;rfl
  obtain⟨u,hu,rv⟩:=r.get ha;have hp:ps[i]?=some y:=by
   rw[<- S.pre,List.getElem?_take_of_lt ⋯];exact h1
  have ndP:ps.Nodup:=by rw[<- S.pre];exact S.nd.sublist (List.take_sublist _ _)
  refine⟨u,rv,?_⟩;rcases S.par y (List.mem_of_getElem? hp)with k|k
  ·exact .inl ⟨k,oE ndP hp hu k⟩
  ·obtain⟨c,e⟩:=sx (n:=s.heap.objs.size+1) k
   refine .inr ⟨.inl k,c,e,?_⟩;have q:=x.cell y c e;rw[oC ndP hp hu (by show scope.names.lookup y≠_;rw[k];decide)]at q
   exact q
 ·exact e0.bC.fresh (Nat.le_of_lt (x.above y c (PySem.mem_of_lookup h)))
 ·unfold start
  show _=N.length;rw[List.length_append,List.length_map,List.length_replicate];omega
theorem JF{CX:wF}{P:Program}{w:World}{K:PySem.W.Frag}{mg:Str->Option Value}{base:Heap}{k:Nat}{f:Addr}{name qual:Str}{params:Arguments}{body:List Stmt}{scope:Scope}{dV kV doc pm iq ct oc:Value}{an od:Option Addr}
  {Hk:Array (Option Value)} {N ps:List Str} {sp:Sp} (lk:K.lookup f=some ⟨oc,od,.func (PySem.W.fnOf name qual params body scope dV kV doc pm an iq ct),Hk⟩) (ql:PySem.W.codeIn K iq qual=true) (S:aH N ps scope)
  (len:∀vs H Q E,sp vs H Q E->vs.length=ps.length)
  (CB:∀(A:Around) (outer:List Env) (s:Shared) (H:Hp) (vs:List V) (Q:VK) (E:XK),gJ k (A.deeper (envOfC qual scope s.heap.objs.size f iq))->sp vs H Q E ->
   ∃t,pO (p7 CX P w K mg base N qual scope f iq A outer s H E) body t/\t {nx:=λ_ H'=>Q .aX H',rt:=Q} (start N vs) H):
  dQ P w K mg base CX (k+1) f (PySem.W.fnOf name qual params body scope dV kV doc pm an iq ct) ps sp:=by
 refine⟨len,λA outer s H args us vs Q E hr e0 hb r CU=>?_⟩;have hl:=len _ _ _ _ CU;have KX:K.In s.heap:=e0.mod.Wm.keeps λb o e=>(e0.bs b o e).1;have lim:s.heap.NoLimit:=e0.mod.nolimit.keeps λb o e=>(e0.bs b o e).1;have VN:∀y∈ps.zip us,scope.names.lookup y.1=some .local\/(scope.names.lookup y.1=some .cell/\((cellsFrom (s.heap.objs.size+1) scope.names []).lookup y.1).isSome=true):=λ⟨n,v⟩ hy=>by
  rcases S.par n (List.of_mem_zip hy).1 with q|q
  ·exact .inl q
  ·exact .inr ⟨q,PySem.W.cellsFrom_some _ _ _ (.inl q)⟩
 refine codeAny_call_function hr.depth (KX _ _ lk) rfl S.co S.gen rfl (PySem.W.codeRec_of KX ql) (hb _ _ _ _ ?_);refine wpAny_newFunctionEnv_cells S.kind VN λenv he s1 x=>?_;subst he;refine⟨lim.keeps x.toInCall.keep,codeAny_func ?_⟩;obtain⟨t,ht,hq⟩:=CB A outer s H vs Q E (hr.deeper _) CU;have I:Inv (p7 CX P w K mg base N qual scope f iq A outer s H E) [] (start N vs) H s1:=yD S hr.hd e0 hl r x;refine wpAny_mono (ht [] s1 (start N vs) H _ I hq) (λfl s' hs=>?_) λe s' hs=>hs;have fin:∀ {bN:St} {H':Hp} {v:V} {u:Value},Inv (p7 CX P w K mg base N qual scope f iq A outer s H E) [] bN H' s'->RelV v u->Q v H'->CE outer P w H s Q u s':=
  λ{bN H' v u} J rv q=>⟨v,H',J.os,J.bare,J.base,J.bC,rv,q⟩
 cases fl with
 | ret u =>
  obtain⟨v,bN,H',J,rv,q⟩:=hs;exact fin J rv q
 | next =>
  obtain⟨bN,H',J,q⟩:=hs;exact fin (v:=V.aX) (u:=Value.none) J rfl q
 | brk =>
  obtain⟨_,_,_,q⟩:=hs;exact False.elim q
 | cont =>
  obtain⟨_,_,_,q⟩:=hs;exact False.elim q
end L2
namespace L2
open PySem PySem.Spec PyProof.Rows
section
variable {X:Cx}{x:Str}{p pos:Pos}{e:Expr}{es:List Expr}{t:TA}{id T:String}{r:List V->Hp->VK->Prop}
def tCB(r:List V->Hp->VK->Prop)(t:TA):TE:=λσ H Q=>t σ H λvs H1=>r vs H1 Q
theorem ng(hc:cQ X (.builtin id) r)(hg:Gl X x)(hm:X.mg x=none)(hv:bootBuiltins x=some (.builtin id))(ha:PA X (e::es) t)(hn:x≠"__name__":=by decide)(qm:(x==("__debug__":Str))=false:=by decide)
  (he:starEach (e::es) X.env=(false,eval e X.env)::starEach es X.env:=by rfl) (fP:(backTo pos (starEach es X.env)).any (·.1)=false:=by rfl):PE X (.Call (.Name x p) (e::es) [] pos) (tCB r t):=by
 intro pins s σ H Q I h;refine wpAny_Call_Name_kw (fR I hg hm hv ?_ hn qm);exact PyProof.Rows.callWith_builtin1 (cD (ha pos pins s σ H _ I h) λus s1 ⟨vs,H1,I1,r1,q1⟩=>hc pins s1 σ H1 vs us Q I1 r1 q1) he fP
theorem yS(hc:cQ X (.type T) r)(hg:Gl X x)(hm:X.mg x=none)(hv:bootBuiltins x=some (.type T))(ha:PA X (e::es) t)(hn:x≠"__name__":=by decide)(qm:(x==("__debug__":Str))=false:=by decide)
  (he:starEach (e::es) X.env=(false,eval e X.env)::starEach es X.env:=by rfl) (fP:(backTo pos (starEach es X.env)).any (·.1)=false:=by rfl):PE X (.Call (.Name x p) (e::es) [] pos) (tCB r t):=by
 intro pins s σ H Q I h;refine wpAny_Call_Name_kw (fR I hg hm hv ?_ hn qm);exact PyProof.Rows.callWith_type1 (cD (ha pos pins s σ H _ I h) λus s1 ⟨vs,H1,I1,r1,q1⟩=>hc pins s1 σ H1 vs us Q I1 r1 q1) he fP
end
end L2
namespace HT
open PySem PyProof.Rows
def lexLt:List Int->List Int->Bool
 | [],[]=>false
 | [],_::_=>true
 | _::_,[]=>false
 | x::xs,y::ys=>if x=y then lexLt xs ys else decide (x<y)
theorem bw(x y:Int)(xs ys:List Int):lexLt (x::xs) (y::ys)=if x=y then lexLt xs ys else decide (x<y):=rfl
theorem nZ:lexLt [] []=false:=rfl
theorem fV(y:Int)(ys:List Int):lexLt [] (y::ys)=true:=rfl
theorem fU(x:Int)(xs:List Int):lexLt (x::xs) []=false:=rfl
theorem BM(A:Around)(s:Shared)(a:Int)(t:Tok)(c:Int)(u:Tok):∃e,SeqAt.EqAt A s (.int a t) (.int c u) e/\(e=true ↔ a=c):=
 ⟨(a==c),SeqAt.EqAt.int_int a t c u,by simp⟩
theorem D6(A:Around)(s:Shared)(a:Int)(t:Tok)(c:Int)(u:Tok)(prog:Program)(w:World)(E:Value->Shared->Prop)(Q:Value->Shared->Prop)(h:Q (.bool (decide (a<c))) s):
  wpAny (model prog w) A (richCompare .Lt (.int a t) (.int c u)) Q E s:=
 (PyProof.Rows.lt_int h:wpAny (model prog w) A (compareOp .Lt (.int a t) (.int c u)) Q E s)
section
open PySem.SeqAt
open PySem.AutoSeq1 (wpAny_loadPart')
open PySem.MeetsSeq PySem.MeetsSeq2 PySem.MeetsSeq3
theorem oj(l b:Addr)(items eM:Array Value)(n n2:Nat)(dd SQ:Option Addr)(sl J6:Array (Option Value))(ns ms:List Int)(hi:IntsAre items.toList ns)(hj:IntsAre eM.toList ms):
  Meets (Builtin.«tuple.__lt__» ⟨[.ref l,.ref b],[]⟩)
   (λ_ R s=>s.heap.get? l=some {cls:=.type "tuple",dict:=dd,data:=.seq items n,slots:=sl}/\s.heap.get? b=some {cls:=.type "tuple",dict:=SQ,data:=.seq eM n2,slots:=J6} /\
    R (.ok (.ret (.bool (lexLt ns ms)))) s):=
 .of_wp λprog w A R s h=>by
  obtain⟨hp,g,d,tk,os⟩:=s;obtain⟨hl,hb,h⟩:=h;have f2:=AutoSeq1.sub_tuple_tuple;have z1:items.size=ns.length:=by rw[<- hi.length];simp
  have z2:eM.size=ms.length:=by rw[<- hj.length];simp
  wp_walk using wpAny_loadPart' hl,wpAny_loadPart' hb,wpAny_forIn_list _ (λrest b s'=>b.1=none/\s'=⟨hp,g,d,tk,os⟩/\∃(vs ws:List Value) (Te FA:List Int),rest=vs.zip ws /\
   IntsAre vs Te/\IntsAre ws FA/\Te.length+eM.size=FA.length+items.size/\R (.ok (.ret (.bool (lexLt Te FA)))) ⟨hp,g,d,tk,os⟩) _
  case turn =>
   rintro⟨y,x⟩ rest b s' ⟨k9,rfl,vs,ws,Te,FA,hz,hvi,Yz,hlen,hR⟩;cases hvi with
   | nil=>rw[List.zip_nil_left]at hz;cases hz
   | cons a t aah =>
    cases Yz with
    | nil=>rw[List.zip_nil_right]at hz;cases hz
    | cons c u aai =>
     rw[List.zip_cons_cons]at hz
     injection hz with hyx V0
     injection hyx with hy hx
     subst hy hx;rw[bw]at hR;simp only[List.length_cons]at hlen;obtain⟨e,he,VG⟩:=BM A.in1 ⟨hp,g,d,tk,os⟩ a t c u;refine wpAny_bind (he prog w _ _ ?_);cases e with
     | true =>
      rw[if_pos (VG.mp rfl)]at hR
      wp_walk
      exact⟨rfl,rfl,_,_,_,_,V0,aah,aai,by omega,hR⟩
     | false =>
      rw[if_neg (λq=>absurd (VG.mpr q) Bool.false_ne_true)]at hR;have hri:=D6 A.in1 ⟨hp,g,d,tk,os⟩ a t c u prog w
      wp_walk using hri
      exact⟨_,rfl,by simpa using hR⟩
  case fin =>
   rintro⟨b1,b2⟩ s' ⟨k9,rfl,vs,ws,Te,FA,hz,hvi,Yz,hlen,hR⟩;simp only at k9;subst k9;have hv:lexLt Te FA=decide (items.size<eM.size):=by
    cases hvi with
    | nil =>
     cases Yz with
     | nil =>
      simp only[List.length_nil]at hlen;rw[nZ];exact(decide_eq_false ⋯).symm
     | cons c u hw =>
      simp only[List.length_nil,List.length_cons]at hlen;rw[fV];exact(decide_eq_true ⋯).symm
    | cons a t hv =>
     cases Yz with
     | nil =>
      simp only[List.length_nil,List.length_cons]at hlen;rw[fU];exact(decide_eq_false ⋯).symm
     | cons c u hw =>
      rw[List.zip_cons_cons]at hz;cases hz
   rw[hv]at hR
   wp_walk
   exact⟨_,rfl,by simpa [Builtin.Tuple.tupleCompareSizes]using hR⟩
  case h =>
   exact⟨rfl,rfl,items.toList,eM.toList,ns,ms,rfl,hi,hj,by omega,h⟩
end
section
variable {prog:Program}{w:World}{A:Around}{E:Value->Shared->Prop}{s:Shared}
theorem mY{l b:Addr}{items eM:Array Value}{ns ms:List Int}{Q:Value->Shared->Prop}(hl:IsTup s.heap l items)(hb:IsTup s.heap b eM)(hi:IntsAre items.toList ns)(hj:IntsAre eM.toList ms)
  (hu:A.units<cLine) (h:Q (.bool (lexLt ns ms)) s):wpAny (model prog w) A (compareOp .Lt (.ref l) (.ref b)) Q E s:=by
 obtain⟨⟨cls,dd,data,sl⟩,ho,hc,n,hd⟩:=id hl;obtain⟨⟨Zm,SQ,data2,J6⟩,CM,JI,n2,hd2⟩:=id hb;simp only at hc hd JI hd2;subst hc hd JI hd2;exact richCompare_meets_room (op:=.Lt) ⟨_,ho,rfl⟩ ⟨_,CM,rfl⟩ PySem.F.slot_tuple_lt PySem.F.entry_tuple_lt (PySem.F.args_tuple_lt_2 _ _) (oj l b items eM n n2 dd SQ sl J6 ns ms hi hj)
  ⟨ho,CM,show Value.bool (lexLt ns ms)≠Value.notImplemented/\Q (.bool (lexLt ns ms)) s from⟨(λx=>nomatch x),h⟩⟩ hu
theorem FY{t b:Addr}{vs ws:List Value}{Q:Value->Shared->Prop}(ht:IsTup s.heap t vs.toArray)(hb:IsTup s.heap b ws.toArray)(hv:vs≠[])
  (h1:ws=[]->Q (.ref t) s) (h2:ws≠[]->Q (.ref s.heap.objs.size) {s with heap:=s.heap.push {cls:=.type "tuple",data:=.seq (vs++ws).toArray}})
  (kA:vs.length+ws.length<=sizeLine):wpAny (model prog w) A (binaryOp .Add (.ref t) (.ref b)) Q E s:=by
 obtain⟨⟨cls,dd,data,sl⟩,ho,hc,n,hd⟩:=id ht;obtain⟨⟨Zm,SQ,data2,J6⟩,CM,JI,n2,hd2⟩:=id hb;simp only at hc hd JI hd2;subst hc hd JI hd2;have e:vs.toArray++ws.toArray=(vs++ws).toArray:=by simp
 by_cases hw:ws=[]
 ·exact concat_meets ⟨_,ho,rfl⟩ ⟨_,CM,rfl⟩ noFill_tuple_add seq_tuple_add PySem.F.slot_tuple_add PySem.F.entry_tuple_add (PySem.F.args_tuple_add_2 _ _)
   (tuple_addW1 t b vs.toArray ws.toArray n n2 dd SQ sl J6 (by simpa using hv) (by simp [hw])) ⟨ho,CM,h1 hw⟩
 ·refine concat_meets ⟨_,ho,rfl⟩ ⟨_,CM,rfl⟩ noFill_tuple_add seq_tuple_add PySem.F.slot_tuple_add PySem.F.entry_tuple_add (PySem.F.args_tuple_add_2 _ _)
   (tuple_addW2 t b vs.toArray ws.toArray n n2 dd SQ sl J6 (by simpa using hv) (by simpa using hw) (by rw[List.size_toArray,List.size_toArray];exact kA)) ⟨ho,CM,?_⟩
  rw[e];exact h2 hw
def cK(n d:Nat):Option Int->Nat
 | none=>d
 | some v=>if v<0 then(v+(n:Int)).toNat else min v.toNat n
theorem D8(n d:Nat):cK n d none=d:=rfl
theorem HR(n d k:Nat):cK n d (some (k:Int))=min k n:=by
 show(if(k:Int)<0 then((k:Int)+(n:Int)).toNat else min (k:Int).toNat n)=min k n
 rw[if_neg ⋯,Int.toNat_natCast]
theorem QJ(n d:Nat)(hd:d<=n)(o:Option Int):cK n d o<=n:=by
 cases o with
 | none=>exact hd
 | some v =>
  show(if v<0 then(v+(n:Int)).toNat else min v.toNat n)<=n
  by_cases hv:v<0
  ·rw[if_pos hv];omega
  ·rw[if_neg hv];exact Nat.min_le_right _ _
theorem wO(v:Int)(n d:Nat):(if v<0 then max (v+(n:Int)) 0 else min v (n:Int))=((cK n d (some v):Nat):Int):=by
 show(if v<0 then max (v+(n:Int)) 0 else min v (n:Int))=(((if v<0 then(v+(n:Int)).toNat else min v.toNat n):Nat):Int)
 by_cases hv:v<0
 ·simp only[if_pos hv];omega
 ·simp only[if_neg hv];omega
theorem vo(lo hi:Option Int)(n:Nat):Builtin.Slice.sliceAdjust lo hi 1 (n:Int)=(((cK n 0 lo:Nat):Int),((cK n n hi:Nat):Int)):=by
 have h1:¬((1:Int)<0):=by omega
 unfold Builtin.Slice.sliceAdjust;simp only[h1,if_false];refine Prod.ext ?_ ?_
 ·cases lo with
  | none=>rfl
  | some v=>exact wO v n 0
 ·cases hi with
  | none=>rfl
  | some v=>exact wO v n n
theorem vY(i j:Nat):Builtin.Slice.slicePlaces (i:Int) (j:Int) 1=j-i:=by
 unfold Builtin.Slice.slicePlaces;have h1:(1:Int)>0:=by omega
 simp only[h1,if_true,Int.ediv_one]
 split<;>omega
theorem ny{v:Value}{o:Option Int}{Q:Option Int->Shared->Prop}(p:IsPart v o)(h:Q o s):wpAny (model prog w) A (Builtin.Slice.slicePartIndex v) Q E s:=by
 cases p with
 | none=>exact slicePart_none h
 | int i t=>exact slicePart_int h
theorem eZ{sl:Addr}{vl vu:Value}{lo hi:Option Int}{n:Nat}{Q:Int×Int×Nat->Shared->Prop}(hs:s.heap.IsSliceOf sl vl vu .none)(pl:IsPart vl lo)(pu:IsPart vu hi)
  (h:Q (((cK n 0 lo:Nat):Int),1,cK n n hi-cK n 0 lo) s):wpAny (model prog w) A (Builtin.Slice.sliceApplied (.ref sl) (pure (n:Int))) Q E s:=by
 obtain⟨os,M4,Yr,VD⟩:=id hs;unfold Builtin.Slice.sliceApplied Builtin.Slice.sliceFields;refine wpAny_bind (wpAny_bind (wpAny_field M4 VD (x:=vl) rfl (wpAny_bind (wpAny_field M4 VD (x:=vu) rfl (wpAny_bind (wpAny_field M4 VD (x:=.none) rfl (wpAny_pure ?_)))))));refine wpAny_bind (slicePart_none ?_);show wpAny _ _ (if((1:Int)==0)=true then _ else _) _ _ s
 rw[if_neg ∅]
 refine wpAny_bind (ny pl (wpAny_bind (ny pu (wpAny_bind (wpAny_pure ?_)))));show wpAny _ _ (match Builtin.Slice.sliceAdjust lo hi 1 (n:Int)with | (lo,hi)=>pure (lo,(1:Int),Builtin.Slice.slicePlaces lo hi 1)) _ _ s
 rw[vo lo hi n];show wpAny _ _ (pure (((cK n 0 lo:Nat):Int),(1:Int),Builtin.Slice.slicePlaces ((cK n 0 lo:Nat):Int) ((cK n n hi:Nat):Int) 1)) _ _ s;rw[vY];exact wpAny_pure h
theorem DQ(xs:Array Value)(i k:Nat):((List.range k).filterMap λ(m:Nat)=>xs[((i:Int)+(m:Int)*1).toNat]?).toArray=((xs.toList.drop i).take k).toArray:=by
 have e:(λ(m:Nat)=>xs[((i:Int)+(m:Int)*1).toNat]?)=λm=>xs[i+m]?:=by
  funext m;have:((i:Int)+(m:Int)*1).toNat=i+m:=by omega
  rw[this]
 rw[e];have:=pick_run xs i k;rw[List.filterMap_map]at this;have e2:((λx=>xs[x]?) ∘ λx=>i+x)=λm=>xs[i+m]?:=rfl;rw[e2]at this;rw[this]
theorem iQ{t sl:Addr}{items:Array Value}{vl vu:Value}{lo hi:Option Int}{Q:Value->Shared->Prop}(ht:IsTup s.heap t items)(hs:s.heap.IsSliceOf sl vl vu .none)(pl:IsPart vl lo)(pu:IsPart vu hi)
  (hw:¬(cK items.size 0 lo=0/\cK items.size items.size hi=items.size))
  (h:Q (.ref s.heap.objs.size) {s with heap:=s.heap.push {cls:=.type "tuple",data:=.seq ((items.toList.drop (cK items.size 0 lo)).take (cK items.size items.size hi-cK items.size 0 lo)).toArray}})
  (kA:items.size<=sizeLine):wpAny (model prog w) A (getItem (.ref t) (.ref sl)) Q E s:=by
 have xj:sizeOk (.seq ((items.toList.drop (cK items.size 0 lo)).take (cK items.size items.size hi-cK items.size 0 lo)).toArray):=by
  show((items.toList.drop (cK items.size 0 lo)).take (cK items.size items.size hi-cK items.size 0 lo)).toArray.size<=sizeLine;rw[List.size_toArray,List.length_take,List.length_drop,Array.length_toList];omega
 have hj:cK items.size items.size hi<=items.size:=QJ _ _ (Nat.le_refl _) hi;obtain⟨os,M4,Yr,VD⟩:=id hs;have ZP:s.TypeIs (.ref sl) "slice":=⟨os,M4,Yr⟩;unfold getItem
 try with_reducible refine wpAny_holding ?_
 first|refine wpAny_bind (wpAny_pure ?_)|skip
 refine wpAny_bind (wpAny_sequenceKey ht.typeIs ∅ ?_)
 refine wpAny_bind (wpAny_callSpecial?_slot (name:=Str.ofString "__getitem__") ht.typeIs PyProof.Rows.slot_tuple_getitem
  (wpAny_call_entry PyProof.Rows.slot_tuple_getitem ht.typeIs entry_tuple_getitem ?_ (args_tuple_getitem _ _)))
 show wpAny _ _ (Builtin.Tuple.tupleItemsOf (.ref t) >>= _) _ _ s;refine wpAny_bind (tupleItemsOf_ ht ?_);refine wpAny_bind (wpAny_typeOf ZP ?_);rw[if_pos ∅]
 refine wpAny_bind (eZ hs pl pu ?_);have hno:¬((((cK items.size 0 lo:Nat):Int)==0&&(1:Int)==1&&(cK items.size items.size hi-cK items.size 0 lo)==items.size)=true):=by
  intro q;rw[Bool.and_eq_true,Bool.and_eq_true]at q;have q1:((cK items.size 0 lo:Nat):Int)=0:=eq_of_beq q.1.1;have q2:cK items.size items.size hi-cK items.size 0 lo=items.size:=eq_of_beq q.2;exact hw ⟨by omega,by omega⟩
 show wpAny _ _ (if(((cK items.size 0 lo:Nat):Int)==0&&(1:Int)==1&&(cK items.size items.size hi-cK items.size 0 lo)==items.size)=true then _ else _) _ _ s
 rw[if_neg hno,DQ]
 first
  | exact wpAny_bind (m:=Builtin.Tuple.tupleExact _) (wpAny_newObj_type (wpAny_pure ⟨_,rfl,wpAny_pure h⟩) xj)
  | exact wpAny_bind (m:=Builtin.Tuple.tupleExact _) (wpAny_newObj_type (wpAny_bind (wpAny_pure (wpAny_pure ⟨_,rfl,wpAny_pure h⟩))) xj)
  | exact wpAny_bind (wpAny_bind (m:=Builtin.Tuple.tupleExact _) (wpAny_newObj_type (wpAny_pure (wpAny_pure ⟨_,rfl,wpAny_pure h⟩)) xj))
  | exact wpAny_bind (wpAny_bind (m:=Builtin.Tuple.tupleExact _) (wpAny_newObj_type (wpAny_pure ⟨_,rfl,wpAny_pure h⟩) xj))
end
end HT
namespace L2
open PySem PySem.Spec PyProof.Rows
abbrev TO:=St->Hp->(Option Int->Hp->Prop)->Prop
def PO(X:Cx)(e:Option Expr)(t:TO):Prop:=
 ∀(pins:List (Addr×Obj)) (s:Shared) (σ:St) (H:Hp) (Q:Option Int->Hp->Prop),Inv X pins σ H s->t σ H Q ->
  wpAny (model X.prog X.w) X.A (evalPart e X.env) (λu s'=>∃o H',Inv X pins σ H' s'/\IsPart u o/\Q o H') X.xe s
def Ih:TO:=λ_ H Q=>Q none H
def Yd(t:TE):TO:=λσ H Q=>t σ H λx H1=>∃i,x=.int i/\Q (some i) H1
theorem intsAre_of{ns:List Int}:∀ {us:List Value},Vals (ns.map V.int) us->IntsAre us ns:=by
 induction ns with
 | nil=>intro us r;rw[List.map_nil]at r;cases r;exact .nil
 | cons n ns ih =>
  intro us r;rw[List.map_cons]at r;cases r with
  | cons r1 r2 =>
   obtain⟨t,e⟩:=r1;subst e;exact .cons n t (ih r2)
section
variable {X:Cx}{e:Expr}{te:TE}{lo hi:Option Expr}{tl th:TO}{pos p2:Pos}
theorem Hw:PO X none Ih:=by
 intro pins s σ H Q I h;rw[evalPart_none];exact wpAny_pure ⟨none,H,I,.none,h⟩
theorem Hx(h:PE X e te):PO X (some e) (Yd te):=by
 intro pins s σ H Q I hw;rw[evalPart_some];refine cD (h pins s σ H _ I hw) λu s1 ⟨x,H1,I1,r1,q1⟩=>?_;obtain⟨i,rfl,q⟩:=q1;obtain⟨t,rfl⟩:=r1;exact⟨some i,H1,I1,.int i t,q⟩
def zo(X:Cx)(r:V->Option Int->Option Int->Hp->VK->Prop):Prop:=
 ∀(pins:List (Addr×Obj)) (s:Shared) (σ:St) (H:Hp) (x:V) (v vl vu:Value) (lo hi:Option Int) (sl:Addr) (Q:VK),Inv X pins σ H s->RelV x v->s.heap.IsSliceOf sl vl vu .none->IsPart vl lo->IsPart vu hi->r x lo hi H Q ->
  ∃T id,typeLookup (.type T) "__getitem__"=pure (some (.builtin id))/\s.TypeIs v T/\wpAny (model X.prog X.w) X.A (getItem v (.ref sl)) (EP X pins σ Q) X.xe s
theorem zo.or{r r':V->Option Int->Option Int->Hp->VK->Prop}(h:zo X r)(h':zo X r'):zo X (λx lo hi H Q=>r x lo hi H Q\/r' x lo hi H Q):=by
 intro pins s σ H x v vl vu lo hi sl Q I rx hs pl pu q;rcases q with q|q
 ·exact h pins s σ H x v vl vu lo hi sl Q I rx hs pl pu q
 ·exact h' pins s σ H x v vl vu lo hi sl Q I rx hs pl pu q
def tSl(r:V->Option Int->Option Int->Hp->VK->Prop)(te:TE)(tl th:TO):TE:=λσ H Q=>te σ H λx H1=>tl σ H1 λl H2=>th σ H2 λu H3=>r x l u H3 Q
theorem DK{r:V->Option Int->Option Int->Hp->VK->Prop}(hr:zo X r)(he:PE X e te)(hl:PO X lo tl)(hu:PO X hi th):PE X (.Subscript e (.Slice lo hi none p2) pos) (tSl r te tl th):=by
 intro pins s σ H Q I h;refine Subscript_ (cD (he pins s σ H _ I h) λv s1 ⟨x,H1,I1,r1,q1⟩=>?_);refine wpAny_Slice (cD (hl pins s1 σ H1 _ I1 q1) λvl s2 ⟨l,H2,I2,pl,q2⟩=>cD (hu pins s2 σ H2 _ I2 q2) λvu s3 ⟨u,H3,I3,pu,q3⟩=>?_);rw[evalPart_none];refine wpAny_pure ?_;have I4:Inv X pins σ H3 {s3 with heap:=s3.heap.push {cls:=.type "slice",data:=.fields #[vl,vu,.none]}}:=I3.kept (t':=s3.toks) λb ob q=>Heap.get?_push_of_some _ q
 obtain⟨T,id,hT,ht,hg⟩:=hr pins {s3 with heap:=s3.heap.push {cls:=.type "slice",data:=.fields #[vl,vu,.none]}} σ H3 x v vl vu l u s3.heap.objs.size Q I4 r1 (Heap.IsSliceOf.new ..) pl pu q3
 show wpAny (model X.prog X.w) X.A (subscriptTail e (.Slice lo hi none p2) v (.ref s3.heap.objs.size)) (EP X pins σ Q) X.xe {s3 with heap:=s3.heap.push {cls:=.type "slice",data:=.fields #[vl,vu,.none]}}
 exact tail_any (ops:=[.ref s3.heap.objs.size,v]) ht hT hg (by with_unfolding_all rfl)
def sD(xs:List V)(lo hi:Option Int):List V:=(xs.drop (HT.cK xs.length 0 lo)).take (HT.cK xs.length xs.length hi-HT.cK xs.length 0 lo)
theorem kZ(xs:List V)(lo hi:Option Int):(sD xs lo hi).length<=xs.length:=by
 unfold sD;rw[List.length_take,List.length_drop];omega
def aaC(K:PySem.W.Frag):V->Option Int->Option Int->Hp->VK->Prop:=λx lo hi H Q=>∃a xs,x=.ref a/\iC K H a xs /\
 ¬(HT.cK xs.length 0 lo=0/\HT.cK xs.length xs.length hi=xs.length)/\∀p,H p=none->Q (.ref p) (upd H p (.tup (sD xs lo hi)))
theorem RL:zo X (aaC X.K):=by
 intro pins s σ H x v vl vu lo hi sl Q I rx hs pl pu h;obtain⟨a,xs,rfl,hx,hw,q⟩:=h;cases rx;obtain⟨its,r,ht,hz⟩:=I.tuple hx;have hlen:its.toArray.size=xs.length:=by rw[List.size_toArray];exact r.length.symm
 refine⟨"tuple",_,PyProof.Rows.slot_tuple_getitem.lookup,ht.typeIs,?_⟩;refine HT.iQ ht hs pl pu (by rw[hlen];exact hw) ?_ (by rw[hlen];exact hz)
 rw[hlen];refine⟨.ref s.heap.objs.size,_,I.laid (t':=s.toks) (o:=.tup (sD xs lo hi)) (λb ob q=>Heap.get?_push_of_some _ q) (Nat.le_refl _) ?_,rfl,q _ (I.bC.fresh (Nat.le_refl _))⟩;exact⟨Nat.le_trans (kZ xs lo hi) hz,_,(r.drop (HT.cK xs.length 0 lo)).take (HT.cK xs.length xs.length hi-HT.cK xs.length 0 lo),IsTup.new _ _⟩
def JY(K:PySem.W.Frag):R2:=λx y H Q=>∃a b xs ys,x=.ref a/\y=.ref b/\iC K H a xs/\iC K H b ys/\xs≠[]/\xs.length+ys.length<=sizeLine /\
 (ys=[]->Q (.ref a) H)/\(ys≠[]->∀p,H p=none->Q (.ref p) (upd H p (.tup (xs++ys))))
theorem Vals.qz{xs:List V}{us:List Value}(r:Vals xs us):us=[] ↔ xs=[]:=by
 cases r with
 | nil=>simp
 | cons _ _=>simp
theorem He:gI X (binaryOp .Add) (JY X.K):=by
 intro pins s σ H x y v u Q I rx ry h;obtain⟨a,b,xs,ys,rfl,rfl,ha,hb,hx,hz,q1,q2⟩:=h;cases rx;cases ry;obtain⟨its,r1,p1,_⟩:=I.tuple ha;obtain⟨tQ,r2,p2,_⟩:=I.tuple hb;refine HT.FY p1 p2 (λz=>hx (r1.qz.mp z)) (λz=>⟨.ref a,H,I,rfl,q1 (r2.qz.mp z)⟩) (λz=>?_) (by rw[<- r1.length,<- r2.length];exact hz)
 refine⟨.ref s.heap.objs.size,_,I.laid (t':=s.toks) (o:=.tup (xs++ys)) (λb ob q=>Heap.get?_push_of_some _ q) (Nat.le_refl _) ?_,rfl,q2 (λw=>z (r2.qz.mpr w)) _ (I.bC.fresh (Nat.le_refl _))⟩;exact⟨by rw[List.length_append];exact hz,_,r1.append r2,IsTup.new _ _⟩
end
end L2
namespace L2
open PySem PySem.Spec PyProof.Rows
def xm(n:Nat)(i:Int):Option Nat:=if 0<=i then(if i<n then some i.toNat else none)else if -(n:Int)<=i then some (i+n).toNat else none
def lA{α:Type}(xs:List α)(i:Int):Option α:=(xm xs.length i).bind λj=>xs[j]?
theorem xn{n:Nat}{i:Int}{j:Nat}(h:xm n i=some j):seqIndex? i n=some j/\j<n/\-(n:Int)<=i/\i<n:=by
 unfold xm at h
 by_cases h0:0<=i
 ·rw[if_pos h0]at h
  by_cases h1:i<n
  ·rw[if_pos h1]at h
   have e:i.toNat=j:=Option.some.inj h;exact⟨by rw[seqIndex_of h0 h1,e],by omega,by omega,h1⟩
  ·rw[if_neg h1]at h;cases h
 ·rw[if_neg h0]at h
  by_cases h1:-(n:Int)<=i
  ·rw[if_pos h1]at h
   have e:(i+n).toNat=j:=Option.some.inj h;exact⟨by rw[seqIndex_neg ⋯ h1,e],by omega,h1,by omega⟩
  ·rw[if_neg h1]at h;cases h
theorem pR{α:Type}{xs:List α}{i:Int}{v:α}(h:lA xs i=some v):∃j,seqIndex? i xs.length=some j/\xs[j]?=some v/\j<xs.length/\-(xs.length:Int)<=i/\i<xs.length:=by
 unfold lA at h;cases e:xm xs.length i with
 | none=>rw[e]at h;cases h
 | some j =>
  rw[e]at h;obtain⟨h1,h2,h3,h4⟩:=xn e;exact⟨j,h1,h,h2,h3,h4⟩
def lQ(b:Expr):Prop:=∀o i,subscripted b false o i=operate [o,i] (getItem o i)
def FL(X:Cx)(r:R2):Prop:=
 ∀(value slice:Expr) (pins:List (Addr×Obj)) (s:Shared) (σ:St) (H:Hp) (x y:V) (v u:Value) (Q:VK),Inv X pins σ H s->RelV x v->RelV y u->r x y H Q ->
  subscripted slice false v u=operate [v,u] (getItem v u)->wpAny (model X.prog X.w) X.A (subscriptTail value slice v u) (EP X pins σ Q) X.xe s
def MtR(X:Cx)(id:String)(r:V->List V->Hp->VK->Prop):Prop:=
 ∀(pins:List (Addr×Obj)) (s:Shared) (σ:St) (H:Hp) (x:V) (xs:List V) (v:Value) (us:List Value) (Q:VK),Inv X pins σ H s->RelV x v->Vals xs us->r x xs H Q ->
  wpAny (model X.prog X.w) X.A (call (.builtin id) (v::us)) (EP X pins σ Q) X.xe s
section
variable {X:Cx}{a b:Expr}{ta tb:TE}{pos:Pos}
theorem FL.or{r r':R2}(h:FL X r)(h':FL X r'):FL X (λx y H Q=>r x y H Q\/r' x y H Q):=by
 intro value slice pins s σ H x y v u Q I rx ry q hs;rcases q with q|q
 ·exact h value slice pins s σ H x y v u Q I rx ry q hs
 ·exact h' value slice pins s σ H x y v u Q I rx ry q hs
theorem DJ{r:R2}(hr:FL X r)(ha:PE X a ta)(hb:PE X b tb)(hs:lQ b):PE X (.Subscript a b pos) (Ti r ta tb):=by
 intro pins s σ H Q I h;exact Subscript_ (K6 ha hb I h λv u s2 x y H2 I2 rx ry q=>hr a b pins s2 σ H2 x y v u Q I2 rx ry q (hs _ _))
def Xu(K:PySem.W.Frag):R2:=λx y H Q=>∃p xs i v,x=.ref p/\y=.int i/\fm K H p xs/\lA xs i=some v/\Q v H
def Xw(K:PySem.W.Frag):R2:=λx y H Q=>∃p xs i v,x=.ref p/\y=.int i/\iC K H p xs/\lA xs i=some v/\Q v H
def Xv:R2:=λx y H Q=>∃z i c,x=.str z/\y=.int i/\z.length<=sizeLine/\lA z.cps.toList i=some c/\Q (.str ⟨#[c]⟩) H
theorem xo:FL X (Xu X.K):=by
 intro value slice pins s σ H x y v u Q I rx ry h hs;obtain⟨p,xs,i,z,rfl,rfl,hq,he,q⟩:=h;cases rx;obtain⟨t,rfl⟩:=ry;obtain⟨its,r,pl,hz⟩:=I.list hq;obtain⟨j,h1,h2,h3,h4,h5⟩:=pR he;obtain⟨w,ew,HP⟩:=r.get h2;have hl:=r.length;have hn:=hJ;have fin:EP X pins σ Q w s:=⟨z,H,I,HP,q⟩
 by_cases h0:0<=i
 ·have hj:i.toNat=j:=by
   rw[seqIndex_of h0 h5]at h1;exact Option.some.inj h1
  exact item_listR pl.isList h0 ⋯ (by rw[hj];simpa using ew) fin hs
 ·have hj:(i+(its.toArray.size:Int)).toNat=j:=by
   rw[seqIndex_neg ⋯ h4]at h1
   rw[List.size_toArray,<- hl];exact Option.some.inj h1
  exact subscriptTail_builtinR (x:=w) pl.isList.typeIs slot_list_getitem.lookup
   (wpAny_getItem_list_neg (Q:=λr s'=>r=w/\EP X pins σ Q r s') pl.isList ⋯ (by rw[List.size_toArray]<;>omega) ⋯ (by rw[hj];simpa using ew) ⟨rfl,fin⟩) hs
theorem C5:FL X (Xw X.K):=by
 intro value slice pins s σ H x y v u Q I rx ry h hs;obtain⟨p,xs,i,z,rfl,rfl,hq,he,q⟩:=h;cases rx;obtain⟨t,rfl⟩:=ry;obtain⟨its,r,pl,hz⟩:=I.tuple hq;obtain⟨j,h1,h2,h3,h4,h5⟩:=pR he;obtain⟨w,ew,HP⟩:=r.get h2;have hl:=r.length;have hn:=hJ;have fin:EP X pins σ Q w s:=⟨z,H,I,HP,q⟩;exact subscriptTail_builtinR (x:=w) pl.typeIs slot_tuple_getitem.lookup
  (getItem_tuple (j:=j) (Q:=λr s'=>r=w/\EP X pins σ Q r s') pl ⋯ ⋯ (by rw[List.size_toArray,<- hl];exact h1) (by simpa using ew) ⟨rfl,fin⟩) hs
theorem Nm:FL X Xv:=by
 intro value slice pins s σ H x y v u Q I rx ry h hs;obtain⟨z,i,c,rfl,rfl,hz,he,q⟩:=h;obtain⟨t,rfl⟩:=rx;obtain⟨t',rfl⟩:=ry;obtain⟨j,h1,h2,h3,h4,h5⟩:=pR he;have hl:z.cps.toList.length=z.length:=by simp [Str.length]
 rw[hl]at h1 h4 h5;have hn:=hJ;exact tail_any (typeIs_str s z t) slot_str_getitem.lookup (getItem_str (c:=c) (by
  have e1:decide (i < -(2^63:Int))=false:=decide_eq_false ⋯
  have e2:decide (i>=2^63)=false:=decide_eq_false ⋯
  rw[e1,e2,Bool.or_false]) (by rw[h1];simpa using h2) ⟨.str ⟨#[c]⟩,H,I.tok _,⟨_,rfl⟩,q⟩) hs
def rIx(K:PySem.W.Frag):R2:=λx y H Q=>Xu K x y H Q\/Xw K x y H Q\/Xv x y H Q
theorem Nk:FL X (rIx X.K):=xo.or (C5.or Nm)
theorem vV(its:List Value)(n j:Nat)(u:Value):Obj.mapSeq (·.setIfInBounds j u) {cls:=.type "list",data:=.seq its.toArray n}={cls:=.type "list",data:=.seq (its.set j u).toArray n}:=by
 simp [Obj.mapSeq]
theorem Inv.lst{pins:List (Addr×Obj)}{σ:St}{H:Hp}{s:Shared}{p:Addr}{xs:List V}(I:Inv X pins σ H s)(h:H p=some (.lst xs)):
  ∃(its:List Value) (n:Nat),Vals xs its/\s.heap.get? p=some {cls:=.type "list",data:=.seq its.toArray n}/\xs.length<=sizeLine:=by
 obtain⟨z,its,n,r,e⟩:=I.bC p _ h;exact⟨its,n,r,e,z⟩
theorem Inv.N6{pins:List (Addr×Obj)}{σ:St}{H:Hp}{s:Shared}{p:Addr}{xs ys:List V}{its its':List Value}{n n':Nat}{f:Obj->Obj}(I:Inv X pins σ H s)(h:H p=some (.lst xs))
  (ho:s.heap.get? p=some {cls:=.type "list",data:=.seq its.toArray n}) (hf:f {cls:=.type "list",data:=.seq its.toArray n}={cls:=.type "list",data:=.seq its'.toArray n'}) (r:Vals ys its') (hz:ys.length<=sizeLine) (t:Nat):
  Inv X pins σ (upd H p (.lst ys)) {s with heap:=s.heap.update p f,toks:=t}:=by
 have e:(s.heap.update p f).get? p=some {cls:=.type "list",data:=.seq its'.toArray n'}:=by
  rw[Heap.get?_update_self f ho (by rw[hf]<;>rfl),hf]
 refine I.write (x:=p) (e:=p) (by rw[h];trivial) (.inl rfl) (λb u hb q=>(Heap.get?_update_other _ _ (Ne.symm hb)).trans q) ⟨_,e⟩ ?_
 exact⟨hz,its',n',r,e⟩
def Xy:V->V->V->Hp->(Hp->Prop)->Prop:=λo i v H Q=>∃p xs k j,o=.ref p/\i=.int k/\H p=some (.lst xs)/\xm xs.length k=some j/\Q (upd H p (.lst (xs.set j v)))
theorem set_list:TR X Xy:=by
 intro pins s σ H o i v ov iv u Q I ro ri rv h;obtain⟨p,xs,k,j,rfl,rfl,hp,hj,q⟩:=h;cases ro;obtain⟨t,rfl⟩:=ri;obtain⟨its,n,r,ho,hz⟩:=I.lst hp;obtain⟨h1,h2,h3,h4⟩:=xn hj;have hl:=r.length;have hn:=hJ;have I':Inv X pins σ (upd H p (.lst (xs.set j v))) {s with heap:=s.heap.update p (Obj.mapSeq (·.setIfInBounds j u))}:=
  I.N6 hp ho (vV its n j u) (r.set rv j) (by rw[List.length_set];exact hz) s.toks
 by_cases h0:0<=k
 ·have hk:k.toNat=j:=by
   rw[seqIndex_of h0 h4]at h1;exact Option.some.inj h1
  exact PySem.W.ki_setAt ho h0 ⋯ (by rw[List.size_toArray,<- hl];exact h4) (by rw[hk];exact⟨_,I',q⟩)
 ·have hk:(k+(its.toArray.size:Int)).toNat=j:=by
   rw[seqIndex_neg ⋯ h3]at h1
   rw[List.size_toArray,<- hl];exact Option.some.inj h1
  exact PySem.W.ki_setBack ho ⋯ (by rw[List.size_toArray,<- hl];exact h3) ⋯ (by rw[hk];exact⟨_,I',q⟩)
theorem qU(lo hi:Option Int)(n:Nat):(sliceBounds lo hi none n).1=((HT.cK n 0 lo:Nat):Int)/\(sliceBounds lo hi none n).2.1=((HT.cK n n hi:Nat):Int)/\(sliceBounds lo hi none n).2.2=1:=by
 refine⟨?_,?_,rfl⟩
 ·cases lo with
  | none=>simp [sliceBounds,HT.cK]
  | some i =>
   simp only[sliceBounds,HT.cK,Option.getD_none,show(1:Int)>0 by decide,if_true]
   by_cases h:i<0
   ·simp only[h,if_true]<;>omega
   ·simp only[h,if_false]<;>omega
 ·cases hi with
  | none=>simp [sliceBounds,HT.cK]
  | some i =>
   simp only[sliceBounds,HT.cK,Option.getD_none,show(1:Int)>0 by decide,if_true]
   by_cases h:i<0
   ·simp only[h,if_true]<;>omega
   ·simp only[h,if_false]<;>omega
theorem oh(its:List Value)(lo hi:Option Int):slicePick its.toArray lo hi none=((its.drop (HT.cK its.length 0 lo)).take (HT.cK its.length its.length hi-HT.cK its.length 0 lo)).toArray:=by
 obtain⟨h1,h2,h3⟩:=qU lo hi its.toArray.size;unfold slicePick;rw[h1,h2,h3];simp only[sliceRange_one,pick_run,List.size_toArray]<;>rfl
def aaA(K:PySem.W.Frag):V->Option Int->Option Int->Hp->VK->Prop:=λx lo hi H Q=>∃a xs,x=.ref a/\fm K H a xs/\∀p,H p=none->Q (.ref p) (upd H p (.lst (sD xs lo hi)))
theorem HZ:zo X (aaA X.K):=by
 intro pins s σ H x v vl vu lo hi sl Q I rx hs pl pu h;obtain⟨a,xs,rfl,hx,q⟩:=h;cases rx;obtain⟨its,r,ht,hz⟩:=I.list hx;have hlen:=r.length;refine⟨"list",_,slot_list_getitem.lookup,ht.isList.typeIs,?_⟩;refine wpAny_getItem_list_slice ht.isList hs pl pu .none (by simp) ?_ (by rw[List.size_toArray]<;>omega)
 rw[oh,<- hlen];refine⟨.ref s.heap.objs.size,_,I.laid (t':=s.toks) (o:=.lst (sD xs lo hi)) (λb ob q=>Heap.get?_push_of_some _ q) (Nat.le_refl _) ?_,rfl,q _ (I.bC.fresh (Nat.le_refl _))⟩;exact⟨Nat.le_trans (kZ xs lo hi) hz,_,0,(r.drop (HT.cK xs.length 0 lo)).take (HT.cK xs.length xs.length hi-HT.cK xs.length 0 lo),Heap.get?_push_size _ rfl⟩
theorem pU:cQ X (.builtin "len") (λxs H Q=>∃p ys,xs=[.ref p]/\(fm X.K H p ys\/iC X.K H p ys)/\Q (.int ys.length) H):=by
 intro pins s σ H xs us Q I r h;obtain⟨p,ys,rfl,hq,q⟩:=h;obtain⟨u,rfl,rx⟩:=vals1 r;cases rx;have hn:=hJ;rcases hq with hq|hq
 ·obtain⟨its,r',pl,hz⟩:=I.list hq
  have hlen:=r'.length;exact Calls.call_len_list pl.isList (by simp only[List.size_toArray]<;>omega) ⟨.int ys.length,H,I.tok _,⟨s.toks+1,by rw[List.size_toArray,hlen]⟩,q⟩
 ·obtain⟨its,r',pl,hz⟩:=I.tuple hq
  have hlen:=r'.length;exact len_tuple pl (by simp only[List.size_toArray]<;>omega) ⟨.int ys.length,H,I.tok _,⟨s.toks+1,by rw[List.size_toArray,hlen]⟩,q⟩
theorem pV:cQ X (.builtin "len") (λxs H Q=>∃z,xs=[.str z]/\z.length<=sizeLine/\Q (.int z.length) H):=by
 intro pins s σ H xs us Q I r h;obtain⟨z,rfl,hz,q⟩:=h;obtain⟨u,rfl,t,rfl⟩:=vals1 r;have hn:=hJ;exact len_str ⋯ ⟨.int z.length,H,I.tok _,⟨_,rfl⟩,q⟩
theorem cQ.or{f:Value}{r r':List V->Hp->VK->Prop}(h:cQ X f r)(h':cQ X f r'):cQ X f (λxs H Q=>r xs H Q\/r' xs H Q):=by
 intro pins s σ H xs us Q I rs q;rcases q with q|q
 ·exact h pins s σ H xs us Q I rs q
 ·exact h' pins s σ H xs us Q I rs q
theorem pW:cQ X (.type "list") (λxs H Q=>∃p ys,xs=[.ref p]/\(fm X.K H p ys\/iC X.K H p ys)/\∀l,H l=none->Q (.ref l) (upd H l (.lst ys))):=by
 intro pins s σ H xs us Q I r h;obtain⟨p,ys,rfl,hq,q⟩:=h;obtain⟨u,rfl,rx⟩:=vals1 r;cases rx;have fin:∀(its:List Value),Vals ys its->ys.length<=sizeLine->∀(h':Heap) (c':Nat),(∀b o',s.heap.get? b=some o'->h'.get? b=some o') ->
   h'.get? s.heap.objs.size=some {cls:=.type "list",dict:=none,data:=.seq its.toArray c',slots:=#[]}->EP X pins σ Q (.ref s.heap.objs.size) {s with heap:=h'}:=λits r' hz h' c' kp e =>
  ⟨.ref s.heap.objs.size,_,I.laid (t':=s.toks) kp (Nat.le_refl _) (show bR X.prog X.w _ h' _ (.lst ys)from⟨hz,its,c',r',e⟩),rfl,q _ (I.bC.fresh (Nat.le_refl _))⟩
 rcases hq with hq|hq
 ·obtain⟨its,r',pl,hz⟩:=I.list hq
  have hlen:=r'.length;obtain⟨o,ho,hc,n,hd⟩:=pl.isList;exact call_list_seq p (.inl rfl) ho hc hd (λh' c' kp e=>fin its r' hz h' c' kp e) (by simp only[List.size_toArray]<;>omega)
 ·obtain⟨its,r',pl,hz⟩:=I.tuple hq
  have hlen:=r'.length;obtain⟨o,ho,hc,n,hd⟩:=pl;exact call_list_seq p (.inr rfl) ho hc hd (λh' c' kp e=>fin its r' hz h' c' kp e) (by simp only[List.size_toArray]<;>omega)
theorem nX:cQ X (.type "tuple") (λxs H Q=>∃p ys,xs=[.ref p]/\((fm X.K H p ys/\∀l,H l=none->Q (.ref l) (upd H l (.tup ys)))\/(iC X.K H p ys/\Q (.ref p) H))):=by
 intro pins s σ H xs us Q I r h;obtain⟨p,ys,rfl,h⟩:=h;obtain⟨u,rfl,rx⟩:=vals1 r;cases rx;rcases h with⟨hq,q⟩|⟨hq,q⟩
 ·obtain⟨its,r',pl,hz⟩:=I.list hq
  have hlen:=r'.length;refine call_tuple_list pl.isList (λh' kp=>?_) (by simp only[List.size_toArray]<;>omega)
  have I1:Inv X pins σ H {s with heap:=h'}:=I.kept (t':=s.toks) kp
  have I2:Inv X pins σ (upd H h'.objs.size (.tup ys)) {s with heap:=h'.push {cls:=.type "tuple",data:=.seq its.toArray}}:=
   I1.laid (t':=s.toks) (λb o e=>Heap.get?_push_of_some _ e) (Nat.le_refl _) (show bR X.prog X.w _ _ _ (.tup ys)from⟨hz,its,r',IsTup.new _ _⟩)
  exact⟨.ref h'.objs.size,_,I2,rfl,q _ (I1.bC.fresh (Nat.le_refl _))⟩
 ·obtain⟨its,r',pl,hz⟩:=I.tuple hq
  exact call_tuple_same pl ⟨.ref p,H,I,rfl,q⟩
def tyV(K:PySem.W.Frag)(T:String)(x:V)(H:Hp):Prop:=match x with
 | .str _=>T="str"
 | .int _=>T="int"
 | .ref p=>(T="list"/\∃xs,fm K H p xs)\/(T="tuple"/\∃o,K.lookup p=some o/\o.cls=.type "tuple"/\o.dict=none) \/
   (T="dict"/\((∃kvs,H p=some (.dK kvs))\/∃kvs,H p=some (.dT kvs)))\/(T="set"/\∃S n,H p=some (.set S n))
 | _=>False
theorem Sy{pins:List (Addr×Obj)}{σ:St}{H:Hp}{s:Shared}{T:String}{x:V}{v:Value}(I:Inv X pins σ H s)(r:RelV x v)(ty:tyV X.K T x H):
  s.TypeIs v T/\∀a,v=.ref a->∃ob,s.heap.get? a=some ob/\ob.dict=none:=by
 cases x with
 | str z =>
  obtain⟨t,rfl⟩:=r;cases(show T="str" from ty)
  exact⟨typeIs_str s z t,λ_ e=>nomatch e⟩
 | int i =>
  obtain⟨t,rfl⟩:=r;cases(show T="int" from ty)
  exact⟨typeIs_int s i t,λ_ e=>nomatch e⟩
 | ref p =>
  cases r;rcases ty with⟨rfl,xs,hq⟩|⟨rfl,o,hk,hc,hd⟩|⟨rfl,hk⟩|⟨rfl,S,n,hk⟩
  ·obtain⟨its,_,pl,_⟩:=I.list hq
   refine⟨pl.isList.typeIs,λa e=>?_⟩;cases e;obtain⟨o,n,e,c,hd,_⟩:=pl;exact⟨o,e,hd⟩
  ·refine⟨⟨o,I.nY p o hk,hc⟩,λa e=>?_⟩
   cases e;exact⟨o,I.nY _ o hk,hd⟩
  ·have z:∃o,s.heap.get? p=some o/\o.ExactDict:=by
    rcases hk with⟨kvs,hk⟩|⟨kvs,hk⟩
    ·obtain⟨_,_,_,_,o,_,_,e,ex,_⟩:=I.bC p _ hk
     exact⟨o,e,ex⟩
    ·obtain⟨_,_,_,_,o,_,_,e,ex,_⟩:=I.bC p _ hk
     exact⟨o,e,ex⟩
   obtain⟨o,e,ex⟩:=z;refine⟨⟨o,e,ex.1⟩,λa e2=>?_⟩;cases e2;exact⟨o,e,ex.2.1⟩
  ·obtain⟨o,_,_,_,e,ex,_⟩:=I.bC p _ hk
   refine⟨⟨o,e,ex.1⟩,λa e2=>?_⟩;cases e2;exact⟨o,e,ex.2.1⟩
 | _=>exact False.elim ty
def tBM(K:PySem.W.Frag)(T:String)(r:V->List V->Hp->VK->Prop)(to:TE)(t:TA):TE:=λσ H Q=>to σ H λx H1=>tyV K T x H1/\t σ H1 λxs H2=>r x xs H2 Q
variable {o e:Expr}{es:List Expr}{to:TE}{t:TA}{name:Str}{apos cpos:Pos}{T id:String}{r:V->List V->Hp->VK->Prop}
theorem pj(pa:PlainAttrs T)(slot:Slot T name id)(hty:typeOf (.builtin id)=pure (.type "method_descriptor"))(hm:MtR X id r)(ho:PE X o to)(ha:PA X (e::es) t)
  (VA:attributeBase o name X.env (eval o X.env)=eval o X.env:=by rfl)
  (CF:((backTo cpos (starEach (e::es) X.env)).all (λx=>!x.1)&&(backToKw cpos (keywordEach [] X.env)).all (λx=>x.1.isSome)
  &&decide ((e::es).length+([]:List Keyword).length+(if([]:List Keyword).isEmpty then 0 else 1)<30))=true:=by rfl)
  (hline:(apos.endLine==cpos.line)=true:=by rfl) (hs:starEach (e::es) X.env=(false,eval e X.env)::starEach es X.env:=by rfl) (M6:(backTo cpos (starEach es X.env)).any (·.1)=false:=by rfl):
  PE X (.Call (.Attribute o name apos) (e::es) [] cpos) (tBM X.K T r to t):=by
 intro pins s σ H Q I h;refine wpAny_Call_method_late VA CF hline rfl (cD (ho pins s σ H _ I h) λv s1 ⟨x,H1,I1,r1,ty,q1⟩=>?_);obtain⟨h1,h2⟩:=Sy I1 r1 ty;refine⟨T,id,pa,slot,hty,h1,h2,?_⟩;have hA:=ha cpos pins s1 σ H1 _ I1 q1;rw[hs]at hA ⊢;refine Calls.callWith_builtin (by show(false||(backTo cpos (starEach es X.env)).any (·.1))=false;rw[M6]<;>rfl) (Calls.evalArgs_plain ?_)
 exact cD hA λus s2 ⟨vs,H2,I2,r2,q2⟩=>hm pins s2 σ H2 x vs v us Q I2 r1 r2 q2
end
end L2
namespace L2
open PySem PySem.Spec PyProof.Rows
def Y8(X:Cx)(id:String)(r:V->List V->Hp->VK->Prop):Prop:=
 ∀(pins:List (Addr×Obj)) (s:Shared) (σ:St) (H:Hp) (x:V) (xs:List V) (v:Value) (us:List Value) (Q:VK),Inv X pins σ H s->RelV x v->Vals xs us->r x xs H Q ->
  wpAny (model X.prog X.w) X.A (call (.builtin id) (v::us)) (EP X pins σ Q) X.xe s
theorem Vals.one:∀ {x:V} {us:List Value},Vals [x] us->∃u,us=[u]/\RelV x u
 | _,_,.cons r .nil=>⟨_,rfl,r⟩
theorem Vals.rep{xs:List V}{us:List Value}(h:Vals xs us):∀k:Nat,Vals (List.replicate k xs).flatten (List.replicate k us).flatten
 | 0=>.nil
 | k+1=>by
  rw[List.replicate_succ,List.replicate_succ,List.flatten_cons,List.flatten_cons];exact Vals.append h (Vals.rep h k)
theorem foldl_rep(its:List Value):∀(k:Nat) (acc:List Value),
  List.foldl (λx1 x2=>x1++x2) acc.toArray (List.replicate k its.toArray)=(acc++(List.replicate k its).flatten).toArray
 | 0,acc=>by simp
 | k+1,acc=>by
  have e:acc.toArray++its.toArray=(acc++its).toArray:=by simp
  have e2:(acc++its)++(List.replicate k its).flatten=acc++(List.replicate (k+1) its).flatten:=by
   rw[List.replicate_succ,List.flatten_cons,List.append_assoc]
  rw[<- e2,<- foldl_rep its k (acc++its),<- e,List.replicate_succ,List.foldl_cons]
section
variable {X:Cx}{pins:List (Addr×Obj)}{σ:St}{H:Hp}{s:Shared}{l b:Addr}{xs ys zs:List V}
theorem Inv.Wo{its its':List Value}{n:Nat}{f:Array Value->Array Value}{t':Nat}(I:Inv X pins σ H s)(hH:H l=some (.lst xs))
  (e:s.heap.get? l=some {cls:=.type "list",data:=.seq its.toArray n}) (hf:f its.toArray=its'.toArray) (hv:Vals ys its') (hz:ys.length<=sizeLine):
  Inv X pins σ (upd H l (.lst ys)) {s with heap:=s.heap.update l (Obj.mapSeq f),toks:=t'}:=by
 have q:=PySem.IsL.update e f;rw[hf]at q;refine I.write (x:=l) (e:=l) (by rw[hH];exact trivial) (.inl rfl) (λb' u hb hu=>(Heap.get?_update_other s.heap (Obj.mapSeq f) (Ne.symm hb)).trans hu) ⟨_,q⟩ ?_
 exact⟨hz,its',_,hv,q⟩
theorem Inv.N0{its:List Value}{t':Nat}(I:Inv X pins σ H s)(hv:Vals ys its)(hz:ys.length<=sizeLine):
  Inv X pins σ (upd H s.heap.objs.size (.lst ys)) {s with heap:=s.heap.push {cls:=.type "list",data:=.seq its.toArray},toks:=t'}:=
 I.laid (λ_ _ q=>Heap.get?_push_of_some _ q) (Nat.le_refl _) ⟨hz,its,0,hv,Heap.get?_push_size _ rfl⟩
theorem Inv.fresh(I:Inv X pins σ H s):H s.heap.objs.size=none:=I.bC.fresh (Nat.le_refl _)
theorem Inv.N5(I:Inv X pins σ H s)(hH:H l=some (.lst xs)):xs.length<=sizeLine/\∃(its:List Value) (n:Nat),Vals xs its/\xs.length=its.length/\s.heap.get? l=some {cls:=.type "list",data:=.seq its.toArray n}:=by
 obtain⟨z,its,n,r,e⟩:=I.bC l _ hH;exact⟨z,its,n,r,r.length,e⟩
theorem uq{n:Nat}(h:n<=sizeLine):Builtin.List.listTooLong n=false:=by
 unfold Builtin.List.listTooLong;exact decide_eq_false ⋯
end
section
variable {X:Cx}
def HF:V->List V->Hp->VK->Prop:=λx vs H Q=>∃l xs y,x=.ref l/\vs=[y]/\H l=some (.lst xs)/\xs.length<sizeLine/\Q .aX (upd H l (.lst (xs++[y])))
theorem eW:Y8 X "list.append" HF:=by
 intro pins s σ H x vs v us Q I rx rv h;obtain⟨l,xs,y,rfl,rfl,hH,hz,q⟩:=h;cases rx;obtain⟨u,rfl,ru⟩:=rv.one;obtain⟨z,its,n,r,hl,e⟩:=I.N5 hH;refine call_meets F.slot_list_append ⟨_,e,rfl⟩ F.entry_list_append (F.args_list_append_2 _ _) (PySem.list_append l its.toArray n u (by rw[List.size_toArray];omega)) ⟨e,?_⟩
 refine⟨.aX,_,I.Wo (its':=its++[u]) hH e (by simp) (r.append (.cons ru .nil)) ?_,rfl,q⟩
 rw[List.length_append,List.length_singleton];omega
def HH:V->List V->Hp->VK->Prop:=λx vs H Q=>∃l b xs zs,x=.ref l/\vs=[.ref b]/\H l=some (.lst xs)/\H b=some (.lst zs)/\xs.length+zs.length<=sizeLine/\Q .aX (upd H l (.lst (xs++zs)))
theorem yN:Y8 X "list.extend" HH:=by
 intro pins s σ H x vs v us Q I rx rv h;obtain⟨l,b,xs,zs,rfl,rfl,hH,hB,hz,q⟩:=h;cases rx;obtain⟨u,rfl,ru⟩:=rv.one;cases ru;obtain⟨z,its,n,r,hl,e⟩:=I.N5 hH;obtain⟨z2,tQ,n2,r2,GJ,e2⟩:=I.N5 hB;have kA:its.toArray.size+tQ.toArray.size<=sizeLine:=by rw[List.size_toArray,List.size_toArray];omega
 have CI:¬(!its.toArray.isEmpty&&Builtin.List.listTooLong (its.toArray.size+tQ.toArray.size))=true:=by
  rw[uq kA,Bool.and_false];exact Bool.false_ne_true
 refine call_meets F.slot_list_extend ⟨_,e,rfl⟩ F.entry_list_extend (F.args_list_extend_2 _ _)
  (AutoSeq1.list_extend_list_list_0 l its.toArray n b tQ.toArray n2 CI (by rw[List.size_toArray];omega) ⋯) ⟨e,e2,?_⟩
 refine⟨.aX,_,I.Wo (its':=its++tQ) hH e (by simp) (r.append r2) ?_,rfl,q⟩
 rw[List.length_append];omega
theorem len_rep{α:Type}(xs:List α)(k:Nat):(List.replicate k xs).flatten.length=k*xs.length:=by
 induction k with
 | zero=>simp
 | succ k ih=>rw[List.replicate_succ,List.flatten_cons,List.length_append,ih,Nat.succ_mul,Nat.add_comm]
end
end L2
namespace Att
open PySem PySem.W PySem.Calls PyProof.Rows
theorem lL{P:Params}{h:Heap}:∀(ns:List Int) (vs:List Value),WellAll P h vs (ns.map WData.int)->IntsAre vs ns:=by
 intro ns
 induction ns with
 | nil =>
  intro vs w;rw[List.map_nil]at w;cases w;exact .nil
 | cons n ns ih =>
  intro vs w;rw[List.map_cons]at w;cases w with
  | cons a b =>
   cases a;exact .cons _ _ (ih _ b)
theorem y0{l:OpenLaw}{n:Nat}(hn:l.most=some n){P:Params}{h:Heap}{args:List WData}{vals:List Value}
  (yB:l.row.toRowW.claim.pre args=true) (V3:WellAll P h vals args):
  ∃a vs ns,vals=[Value.ref a]/\args=[WData.list (ns.map WData.int)]/\h.get? a=some {cls:=.type "list",data:=.seq vs.toArray}/\IntsAre vs ns/\ns.length<=n:=by
 have hsh:WShape.hasAll [] args [.list .int]=true:=(pre_splitW yB).1;have hc:l.pre.holds [] {args:=args}=true:=(pre_splitW yB).2;obtain⟨d,r,rfl,h1,h2⟩:=hasAllW_cons hsh;obtain rfl:=hasAllW_nil h2;obtain⟨xs,rfl,h3⟩:=hasW_list h1;obtain⟨ns,rfl⟩:=items_int h3;have hlen:ns.length<=n:=by
  unfold OpenLaw.pre at hc;have h4:(WTm.not (.lt (.lit (.int (n:Int))) (.len (.arg 0)))).holds [] {args:=[.list (ns.map .int)]}=true:=by
   have h4:=(holds_andW hc).1;rw[hn]at h4;exact h4
  have h5:=condW_of h4 (w_not (w_lt w_lit (w_len_list (w_arg rfl))));rw[List.length_map]at h5;refine Nat.le_of_not_lt λq=>?_;have q':(n:Int)<((ns.length:Nat):Int):=by omega
  first
   | (rw[decide_eq_true q']at h5;exact absurd h5 ∅)
   | (simp at h5;omega)
 cases V3 with
 | cons w1 w2 =>
  cases w2;cases w1 with
  | list ho mS=>exact⟨_,_,ns,rfl,rfl,ho,lL ns _ mS,hlen⟩
theorem yV(l:OpenLaw)(args:List WData):l.row.toRowW.claim.post args (.bool true) args=true:=
 postW_of (r:=l.row.toRowW) (X:=(true==true))
  (show WShape.has [] (.bool true) .bool=true by first|rfl|decide|simp [WShape.has,WShape.arms,WShape.armsAll])
  (show(WTm.eq .res (.lit (.bool true))).value [] {args:=args,res:=some (.bool true),after:=args}=some (.bool (true==true))from w_eq_bool (w_res rfl) w_lit) rfl
theorem sk{l:OpenLaw}{n:Nat}{q:Program}{loose:List Str}{XP:(Str->Option Value)->Heap->Prop}{YP:World->Heap->Prop}{d:DefRec}
  (hn:l.most=some n) (VC:d.params.defaults=[])
  (call:∀(w:World) (bP bL:Shared) (mg mb:Str->Option Value) (fa:Addr) (o:Obj) (pm cd doc:Value) (a:Addr) (vs:List Value) (ns:List Int),
   Ground q loose [] XP w bP mg mb bL.heap->YP w bL.heap ->
   bL.heap.get? fa=some o->o.data=.func (docDef d.name d.params d.body d.scope pm cd doc)->bL.heap.CodeRec cd d.name->mg d.name=some (.ref fa) ->
   bL.heap.get? a=some {cls:=.type "list",data:=.seq vs.toArray}->IntsAre vs ns->ns.length<=n->bL.gens=#[] ->
   codeAny (model l.prog w) callerA (.call (.ref fa) ⟨[.ref a],[]⟩) (λr s'=>r=.ok (.ret (.bool true))/\OldK bL.heap s'.heap/\s'.os=bL.os/\AllBare s'.gens) bL):
  WalkO q loose XP YP l.row.toRowW d [] (λf vs=>PySem.call f vs):=by
 intro w bP bL mg mb G Y fa o pm cd doc dV kV ho hd ql hD hmg hg args vals as yB VP Yy V3 xi;obtain rfl:dV=.none:=Dflts.none hD VC;obtain rfl:kV=.none:=Dflts.noKw hD;obtain⟨a,vs,ns,rfl,rfl,M3,hints,hlen⟩:=y0 hn yB V3;refine enter_call (codeAny_mono (call w bP bL mg mb fa o pm cd doc a vs ns G Y ho (fd_plain hd) ql hmg M3 hints hlen hg) λr s' hq=>?_);obtain⟨rfl,h2,h3,h4⟩:=hq;exact⟨.inl ⟨.bool true,.bool true,[],rfl,λ_=>rfl,.bool true,yV l _,λ_=>⟨List.Pairwise.nil,λ_ hm=>(nomatch hm)⟩⟩,h2,h3,h4⟩
end Att
namespace L2
open PySem PySem.Spec PyProof.Rows
theorem pK:∀ {vs:List Value} {ns:List Int},IntsAre vs ns->Vals (ns.map V.int) vs
 | _,_,.nil=>.nil
 | _,_,.cons n t h=>.cons ⟨t,rfl⟩ (pK h)
def Only(H:Hp):Prop:=∀b,H b=none\/∃o xs,H b=some (.qg o (.lst xs))
theorem C9{P:Program}{w:World}{K:PySem.W.Frag}{mg mb:Str->Option Value}{CX:wF}{k:Nat}{fa a:Addr}{fd:FuncData}{x:Str}{sp:Sp}{bL:Shared}{vs:List Value}{ns:List Int}
  (KX:K.In bL.heap) (Z8:bL.heap.Ns mainGlobals mg) (hb:bL.heap.Ns builtinsNs mb) (hbb:∀x:Str,x≠"__name__"->mb x=bootBuiltins x) (Z4:bL.heap.NoLimit) (hg:bL.gens=#[])
  (ha:bL.heap.get? a=some {cls:=.type "list",data:=.seq vs.toArray}) (hi:IntsAre vs ns) (hl:ns.length<=sizeLine) (hr:gJ k callerA)
  (F:∀base:Heap,K.In base->base.Ns mainGlobals mg->dQ P w K mg base CX k fa fd [x] sp) (VB:∀(s:Shared) (u:Value),BindsTo s fd ⟨[u],[]⟩ [(x,u)])
  (CU:∀H:Hp,Only H->fm K H a (ns.map V.int)->sp [.ref a] H (λv _=>v=.bl true) λ_ _ _=>False)
  (ZJ:∀H e s',CX [] H bL (λ_ _ _=>False) e s'->False):
  codeAny (model P w) callerA (.call (.ref fa) ⟨[.ref a],[]⟩) (λr s'=>r=.ok (.ret (.bool true))/\OldK bL.heap s'.heap/\s'.os=bL.os/\AllBare s'.gens) bL:=by
 have rv:=pK hi;have aap:=hi.length
 -- from an abstract heap in which nothing but the script may be tracked
 have core:∀H:Hp,Only H->fm K H a (ns.map V.int)->fe P w H bL.heap->(∀b,H b≠none->b=a)->(H a≠none->K.lookup a=none) ->
   codeAny (model P w) callerA (.call (.ref fa) ⟨[.ref a],[]⟩) (λr s'=>r=.ok (.ret (.bool true))/\OldK bL.heap s'.heap/\s'.os=bL.os/\AllBare s'.gens) bL:=by
  intro H hO hS bC hA hK;have wL:∀ {b:Addr} {o:Obj},bL.heap.get? b=some o->H b=none->(qo bL.heap H).get? b=some o:=λe n=>CG e n;have Ws:∀ {b:Addr} {o:Obj} {es:Array DictEntry} {ep:Nat},bL.heap.get? b=some o->o.data=.dict es ep->H b=none:=λ{b o es ep} e d=>by
   cases q:H b with
   | none=>rfl
   | some u =>
    have e':b=a:=hA b (by rw[q];simp)
    subst e';rw[ha]at e;cases e;have d':Data.seq vs.toArray _=Data.dict es ep:=d;cases d'
  have YK:∀ {b:Addr} {m:Str->Option Value},bL.heap.Ns b m->(qo bL.heap H).Ns b m:=λ{b m} ⟨o,es,ep,e,d,r⟩=>⟨o,es,ep,wL e (Ws e d),d,r⟩;have hKb:K.In (qo bL.heap H):=λb o e=>wL (KX b o e) (by
   cases q:H b with
   | none=>rfl
   | some u =>
    have e':b=a:=hA b (by rw[q];simp)
    subst e';rw[hK (by rw[q];simp)]at e;cases e)
  have hM:Mod K mg (qo bL.heap H):=⟨hKb,YK Z8,⟨mb,YK hb,hbb⟩,let ⟨mc,h1,h2⟩:=Z4;⟨mc,YK h1,h2⟩⟩;have e0:FJ P w K mg (qo bL.heap H) callerA [] bL H:=⟨rfl,hM,λb o e=>Ha e,Nat.le_of_eq (yz _ _),trivial,λb hb=>absurd (show b∈([]:List Addr)from hb) (by simp),bC,.of_eq hg⟩
  refine codeAny_mono ((F _ hKb (YK Z8)).run callerA [] bL H ⟨[.ref a],[]⟩ [.ref a] [.ref a] _ _ hr e0 (VB bL (.ref a)) (.cons rfl .nil) (CU H hO hS)) λr s' h=>?_;cases r with
  | error e=>exact(ZJ H e s' h).elim
  | ok fl =>
   cases fl with
   | next=>exact False.elim h
   | brk=>exact False.elim h
   | cont=>exact False.elim h
   | ret u =>
    obtain⟨v,H',os,bare,un,aac,r',q⟩:=h;have q':v=.bl true:=q;subst q';obtain rfl:u=Value.bool true:=r';refine⟨rfl,OldK.of_keep λb o e=>?_,os,bare⟩;cases q:H b with
    | none=>exact un.keep b o e q (by intro z;exact absurd (show b∈([]:List Addr)from z) (by simp)) (by simp)
    | some u =>
     rcases hO b with z|⟨ob,xs,z⟩
     ·rw[q]at z;cases z
     ·have z2:=un.lF b ob _ z
      obtain⟨e1,_⟩:=bC b _ z;obtain⟨e2,_⟩:=aac b _ z2;rw[e]at e1;cases e1;exact e2
 cases hk:K.lookup a with
 | some o =>
  -- the script is one of the module's own objects
  have e:=KX a o hk;rw[ha]at e;cases e;refine core (λ_=>none) (λ_=>.inl rfl) (.inr ⟨_,vs.toArray,_,hk,rfl,rfl,rfl,by rw[List.size_toArray,aap];exact hl,by simpa using rv⟩) (λb u z=>by have z':(none:Option HO)=some u:=z;cases z') (λb z=>absurd rfl z) λz=>absurd rfl z
 | none =>
  refine core (λb=>if b=a then some (.qg {cls:=.type "list",data:=.seq vs.toArray} (.lst (ns.map V.int)))else none) (λb=>?_) (.inl (.inr ⟨{cls:=.type "list",data:=.seq vs.toArray},if_pos rfl⟩)) (λb u z=>?_) (λb z=>?_) λ_=>hk
  ·by_cases hb:b=a
   ·exact .inr ⟨_,_,if_pos hb⟩
   ·exact .inl (if_neg hb)
  ·by_cases hb:b=a
   ·have z':=(if_pos hb).symm.trans z
    cases z';subst hb;exact⟨ha,by rw[List.length_map];exact hl,vs,_,rv,ha⟩
   ·have z':=(if_neg hb).symm.trans z
    cases z'
  ·by_cases hb:b=a
   ·exact hb
   ·exact absurd (if_neg hb) z
end L2
namespace L2
open PySem PySem.Spec PyProof.Rows
theorem Io{l:PySem.W.OpenLaw}{n k:Nat}{q:Program}{loose:List Str}{XP:(Str->Option Value)->Heap->Prop}{YP:World->Heap->Prop}{d:DefRec}{K:Params->PySem.W.Frag}{CX:World->wF}{sp:World->Sp}{x:Str}
  (hn:l.most=some n) (S5:n<=sizeLine) (VC:d.params.defaults=[]) (hr:gJ k callerA)
  (hY:∀(w:World) (h:Heap),YP w h->(K w.params).In h)
  (F:∀(w:World) (mg:Str->Option Value) (fa:Addr) (h:Heap),(K w.params).In h->h.Ns mainGlobals mg->mg d.name=some (.ref fa) ->
   ∃fd:FuncData,(∀(s:Shared) (u:Value),BindsTo s fd ⟨[u],[]⟩ [(x,u)]) /\
    ∀base:Heap,(K w.params).In base->base.Ns mainGlobals mg->dQ l.prog w (K w.params) mg base (CX w) k fa fd [x] (sp w))
  (CU:∀(w:World) (H:Hp) (a:Addr) (ns:List Int),ns.length<=n->Only H->fm (K w.params) H a (ns.map V.int)->sp w [.ref a] H (λv _=>v=.bl true) λ_ _ _=>False)
  (ZJ:∀(w:World) (H:Hp) (s:Shared) (e:Value) (s':Shared),CX w [] H s (λ_ _ _=>False) e s'->False):
  PySem.W.WalkO q loose XP YP l.row.toRowW d [] (λf vs=>PySem.call f vs):=by
 refine Att.sk hn VC λw bP bL mg mb fa o pm cd doc a vs ns G Y ho hd ql hmg M3 hints hlen hg=>?_;have KX:=hY w _ Y;obtain⟨fd,hb,hF⟩:=F w mg fa _ KX G.T.g hmg;exact C9 KX G.T.g G.T.b G.T.builtins G.T.nolimit hg M3 hints (Nat.le_trans hlen S5) hr hF hb (λH hO hS=>CU w H a ns hlen hO hS) λH e s'=>ZJ w H bL e s'
end L2
namespace L2
open PySem PySem.Spec PyProof.Rows
def aK(s:Stmt):Arguments:=match s with
 | .FunctionDef _ a _ _ _ _ _ _ _ _=>a
 | _=>{posonlyargs:=[],args:=[],vararg:=none,kwonlyargs:=[],kw_defaults:=[],kwarg:=none,defaults:=[]}
def ax(s:Stmt):List Stmt:=match s with
 | .FunctionDef _ _ b _ _ _ _ _ _ _=>b
 | _=>[]
def ah(s:Stmt):Scope:=match s with
 | .FunctionDef _ _ _ _ _ _ sc _ _ _=>sc
 | _=>{kind:=.function,names:=[],isGenerator:=false,isCoroutine:=false}
abbrev vg:wF:=λ_ _ _ _ _ _=>False
abbrev E0:XK:=λ_ _ _=>False
theorem JW{X:Cx}:Passes vg X E0:=λ_ _ _ _ _ _ _ h=>h.elim
structure FK(K:PySem.W.Frag)(x qual:Str)(st:Stmt)(f:Addr)(fd:FuncData):Prop where
 ex:∃(oc:Value) (od:Option Addr) (kV doc pm:Value) (an:Option Addr) (iq ct:Value) (Hk:Array (Option Value)),
  fd=PySem.W.fnOf x qual (aK st) (ax st) (ah st) .none kV doc pm an iq ct/\K.lookup f=some ⟨oc,od,.func fd,Hk⟩/\PySem.W.codeIn K iq qual=true
 kp:PySem.W.keepIn K (.ref f)=true
section
variable {P:Program}{w:World}{K:PySem.W.Frag}{mg:Str->Option Value}{base:Heap}
theorem FK.ok{x qual:Str}{st:Stmt}{f:Addr}{fd:FuncData}{N ps:List Str}{k:Nat}{sp:Sp}(F:FK K x qual st f fd)(S:aH N ps (ah st))(len:∀vs H Q E,sp vs H Q E->vs.length=ps.length)
  (CB:∀(iq:Value) (A:Around) (outer:List Env) (s:Shared) (H:Hp) (vs:List V) (Q:VK) (E:XK),gJ k (A.deeper (envOfC qual (ah st) s.heap.objs.size f iq))->sp vs H Q E ->
   ∃t,pO (p7 vg P w K mg base N qual (ah st) f iq A outer s H E).Td (ax st) t/\t {nx:=λ_ H'=>Q .aX H',rt:=Q} (start N vs) H):dQ P w K mg base vg (k+1) f fd ps sp:=by
 obtain⟨oc,od,kV,doc,pm,an,iq,ct,Hk,rfl,lk,ql⟩:=F.ex;refine JF lk ql S len λA outer s H vs Q E hr CU=>?_;obtain⟨t,h,q⟩:=CB iq A outer s H vs Q E hr CU;exact⟨t,h.Td,q⟩
theorem FK.binds{x qual:Str}{st:Stmt}{f:Addr}{fd:FuncData}{ps:List Str}(F:FK K x qual st f fd)
  (h:∀(kV doc pm:Value) (an:Option Addr) (iq ct:Value) (us:List Value),us.length=ps.length->bindArgs (PySem.W.fnOf x qual (aK st) (ax st) (ah st) .none kV doc pm an iq ct) ⟨us,[]⟩=pure (ps.zip us)):Binds K fd ps []:=by
 obtain⟨oc,od,kV,doc,pm,an,iq,ct,Hk,rfl,lk,ql⟩:=F.ex;exact .all (h kV doc pm an iq ct)
theorem bh{x qual:Str}{st:Stmt}{f:Addr}{oc:Value}{od an:Option Addr}{Hk:Array (Option Value)}{kV doc pm iq ct:Value}(l:K.lookup f=some ⟨oc,od,.func (PySem.W.fnOf x qual (aK st) (ax st) (ah st) .none kV doc pm an iq ct),Hk⟩)
  (c:PySem.W.codeIn K iq qual=true) (k:PySem.W.keepIn K (.ref f)=true):FK K x qual st f (PySem.W.fnOf x qual (aK st) (ax st) (ah st) .none kV doc pm an iq ct):=⟨⟨oc,od,kV,doc,pm,an,iq,ct,Hk,rfl,l,c⟩,k⟩
end
def aw(H H':Hp):Prop:=∀b o,H b=some o->H' b=some o
theorem aw.refl(H:Hp):aw H H:=λ_ _ h=>h
theorem aw.trans{H H1 H2:Hp}(a:aw H H1)(b:aw H1 H2):aw H H2:=λc o h=>b c o (a c o h)
theorem aw.free{H H':Hp}(e:aw H H'){l:Addr}(h:H' l=Option.none):H l=Option.none:=by
 cases q:H l with
 | none=>rfl
 | some o =>
  rw[e l o q]at h;cases h
theorem aw.seq{K:PySem.W.Frag}{H H':Hp}{a:Addr}{xs:List V}(e:aw H H')(h:fm K H a xs):fm K H' a xs:=by
 rcases h with(h|⟨o,h⟩)|h
 ·exact .inl (.inl (e _ _ h))
 ·exact .inl (.inr ⟨o,e _ _ h⟩)
 ·exact .inr h
end L2
namespace L2
open PySem PySem.Spec PyProof.Rows
section
variable {κ:Type}[DecidableEq κ]
def dn(kvs:List (κ×V))(k:κ):Option V:=(kvs.find? λkv=>decide (kv.1=k)).map (·.2)
def putK(kvs:List (κ×V))(k:κ)(v:V):List (κ×V):=
 if(kvs.any λkv=>decide (kv.1=k))=true then kvs.map (λkv=>if kv.1=k then(kv.1,v)else kv)else kvs++[(k,v)]
theorem j4{p:κ×V}{r:List (κ×V)}{k:κ}(e:p.1=k):dn (p::r) k=some p.2:=by simp [dn,List.find?_cons,e]
theorem jZ{p:κ×V}{r:List (κ×V)}{k:κ}(e:¬p.1=k):dn (p::r) k=dn r k:=by simp [dn,List.find?_cons,e]
theorem nP(k:κ):∀kvs:List (κ×V),(kvs.any λkv=>decide (kv.1=k))=(dn kvs k).isSome
 | []=>rfl
 | p::r=>by
  rw[List.any_cons]
  by_cases e:p.1=k
  ·simp only[j4 e,decide_eq_true e,Bool.true_or,Option.isSome_some]
  ·rw[jZ e,decide_eq_false e,Bool.false_or];exact nP k r
theorem tY(kvs:List (κ×V))(k:κ)(v:V):(putK kvs k v).length<=kvs.length+1:=by
 unfold putK
 split
 ·rw[List.length_map];omega
 ·rw[List.length_append,List.length_cons,List.length_nil];omega
theorem DY{kvs:List (κ×V)}{k:κ}(v:V)(h:dn kvs k=none):putK kvs k v=kvs++[(k,v)]:=by
 unfold putK;rw[nP,h];exact if_neg ∅
theorem mC.yE{o:Option V}{u:Option Value}(r:mC o u):o.isSome=u.isSome:=by
 cases o with
 | none=>cases u with
  | none=>rfl
  | some _=>exact(show False from r).elim
 | some _=>cases u with
  | none=>exact(show False from r).elim
  | some _=>rfl
theorem KV.val{kvs:List (κ×V)}{vs:List (κ×Value)}(r:KV kvs vs)(k:κ):mC (dn kvs k) (valueAt vs k):=by
 unfold KV at r
 induction r with
 | nil=>exact True.intro
 | @cons p q ps qs h t ih =>
  obtain⟨h1,h2⟩:=h
  by_cases e:p.1=k
  ·have e':q.1=k:=h1.symm.trans e
   have b:valueAt (q::qs) k=some q.2:=by simp [valueAt,List.find?_cons,e']
   rw[j4 e,b];exact h2
  ·have e':¬q.1=k:=λz=>e (h1.trans z)
   have b:valueAt (q::qs) k=valueAt qs k:=by simp [valueAt,List.find?_cons,e']
   rw[jZ e,b];exact ih
end
theorem JS{P:Program}{w:World}{k:Key}{u:Value}(r:RelV (kV k) u):(cN P w).is k u=true:=by
 cases k with
 | inl i=>obtain⟨t,e⟩:=(show∃t,u=Value.int i t from r);subst e;exact uf P w i t
 | inr x=>obtain⟨t,e⟩:=(show∃t,u=Value.str x t from r);subst e;exact ug P w x t
theorem o4{P:Program}{w:World}:∀ {ks:List Key} {us:List Value},Vals (ks.map kV) us->ItemsAre (cN P w) ks us
 | [],_,r=>by rw[List.map_nil]at r;cases r;exact .nil
 | k::ks,_,r=>by
  rw[List.map_cons]at r;cases r with
  | cons h t=>exact .cons (JS h) (o4 t)
abbrev KT(H:Hp):List (List Key×V)->List (List Key×Addr×Value)->Prop:=Paired λp q=>p.1=q.1/\H q.2.1=some (.tup (p.1.map kV))/\RelV p.2 q.2.2
theorem KT.val{H:Hp}{kvs:List (List Key×V)}{xs:List (List Key×Addr×Value)}(r:KT H kvs xs)(k:List Key):mC (dn kvs k) ((atKey xs k).map (·.2)):=by
 induction r with
 | nil=>exact True.intro
 | @cons p q ps qs h t ih =>
  obtain⟨h1,_,h2⟩:=h
  by_cases e:p.1=k
  ·have e':q.1=k:=h1.symm.trans e
   have b:atKey (q::qs) k=some q.2:=by simp [atKey,List.find?_cons,e']
   rw[j4 e,b];exact h2
  ·have e':¬q.1=k:=λz=>e (h1.trans z)
   have b:atKey (q::qs) k=atKey qs k:=by simp [atKey,List.find?_cons,e']
   rw[jZ e,b];exact ih
theorem KT.repl{H:Hp}{kvs:List (List Key×V)}{xs:List (List Key×Addr×Value)}(r:KT H kvs xs)(k:List Key){y:V}{u:Value}(ry:RelV y u):
  KT H (kvs.map λkv=>if kv.1=k then(kv.1,y)else kv) (xs.map (putAt k u)):=by
 induction r with
 | nil=>exact .nil
 | @cons p q ps qs h t ih =>
  rw[List.map_cons,List.map_cons];refine .cons ?_ ih;obtain⟨h1,h2,h3⟩:=h;unfold putAt
  by_cases e:p.1=k
  ·rw[if_pos e,if_pos (h1.symm.trans e)];exact⟨h1,h2,ry⟩
  ·rw[if_neg e,if_neg (λz=>e (h1.trans z))];exact⟨h1,h2,h3⟩
theorem KT.put{H:Hp}{kvs:List (List Key×V)}{xs:List (List Key×Addr×Value)}(r:KT H kvs xs)(k:List Key){b:Addr}{y:V}{u:Value}(hb:H b=some (.tup (k.map kV)))(ry:RelV y u):
  KT H (putK kvs k y) (storedH xs k b u):=by
 have e:(kvs.any λkv=>decide (kv.1=k))=(atKey xs k).isSome:=by
  rw[nP,(r.val k).yE,Option.isSome_map]
 unfold putK storedH;rw[e]
 by_cases q:(atKey xs k).isSome=true
 ·rw[if_pos q,if_pos q];exact r.repl k ry
 ·rw[if_neg q,if_neg q];exact Paired.snoc r ⟨rfl,hb,ry⟩
theorem KT.keeps{H H':Hp}{kvs:List (List Key×V)}{xs:List (List Key×Addr×Value)}(r:KT H kvs xs)(ht:∀b ys,H b=some (.tup ys)->H' b=some (.tup ys)):KT H' kvs xs:=
 Paired.N7 r λ_ _ z=>⟨z.1,ht _ _ z.2.1,z.2.2⟩
section
variable {P:Program}{w:World}{H:Hp}{h:Heap}{a:Addr}
theorem J5{u:HO}(ok:fe P w H h)(e:Rd H a u):bR P w H h a u:=e.ok ok
theorem JC{kvs:List (Key×V)}(ok:fe P w H h)(e:Rd H a (.dK kvs)):kvs.length<=sizeLine/\(a==sysModules)=false/\∃vs,KV kvs vs/\h.DictOf (cN P w) a vs:=
 show bR P w H h a (.dK kvs)from J5 ok e
theorem vU{ks:List Key}(ok:fe P w H h)(e:H a=some (.tup (ks.map kV))):(tupleKind (cN P w)).is h ks a:=by
 obtain⟨_,its,r,o,h1,h2,n,h3⟩:=(show bR P w H h a (.tup (ks.map kV))from ok a _ e)
 exact⟨o,its.toArray,n,h1,h2,h3,by simpa using o4 r⟩
theorem wR{kvs:List (List Key×V)}(ok:fe P w H h)(e:Rd H a (.dT kvs)):kvs.length<=sizeLine/\(a==sysModules)=false /\
  ∃xs,KT H kvs xs/\h.DictOfH (tupleKind (cN P w)) a xs:=by
 obtain⟨z,y,xs,r,o,es,ep,h1,h2,h3,h4,h5⟩:=(show bR P w H h a (.dT kvs)from J5 ok e)
 refine⟨z,y,xs,r,o,es,ep,h1,h2,h3,h4,λx hx=>?_,h5⟩;have all:∀ {l:List (List Key×V)} {m:List (List Key×Addr×Value)},KT H l m->∀x∈m,(tupleKind (cN P w)).is h x.1 x.2.1:=by
  intro l m q
  induction q with
  | nil=>intro x hx;exact nomatch hx
  | @cons p q ps qs hq t ih =>
   intro x hx;rcases List.mem_cons.mp hx with e|hx
   ·subst e
    exact vU ok (by rw[<- hq.1];exact hq.2.1)
   ·exact ih x hx
 exact all r x hx
theorem UL{kvs:List (List Key×V)}(ok:fe P w H h)(e:H a=some (.dT kvs)):kvs.length<=sizeLine/\(a==sysModules)=false /\
  ∃xs,KT H kvs xs/\h.DictOfH (tupleKind (cN P w)) a xs:=wR ok (.inl e)
end
def zI(H:Hp)(a:Addr)(y:V)(r:Option V):Prop:=
 (∃kvs k,Rd H a (.dK kvs)/\y=kV k/\r=dn kvs k)\/∃kvs k b,Rd H a (.dT kvs)/\y=.ref b/\H b=some (.tup (k.map kV))/\r=dn kvs k
theorem zI.t{H:Hp}{a b:Addr}{kvs:List (List Key×V)}{k:List Key}(e:H a=some (.dT kvs))(eb:H b=some (.tup (k.map kV))):zI H a (.ref b) (dn kvs k):=.inr ⟨kvs,k,b,.inl e,rfl,eb,rfl⟩
section
variable {X:Cx}{pins:List (Addr×Obj)}{σ:St}{H:Hp}{s:Shared}{a:Addr}{y v:V}{u r:Value}{o:Option V}{A:Around}{E:Value->Shared->Prop}
theorem Inv.big(I:Inv X pins σ H s):sysModules<s.heap.objs.size:=by
 have h:mainGlobals<s.heap.objs.size:=(I.mod.glob.keeps I.bk).lt;exact Nat.lt_trans ∅ h
theorem yn{Q:Value->Shared->Prop}(hu:A.units+1<cLine)(I:Inv X pins σ H s)(g:zI H a y (some v))(ry:RelV y u)(h:∀w' s',Inv X pins σ H s'->RelV v w'->Q w' s'):
  wpAny (model X.prog X.w) A (getItem (.ref a) u) Q E s:=by
 rcases g with⟨kvs,k,e,ey,l⟩|⟨kvs,k,b,e,ey,eb,l⟩
 ·subst ey
  obtain⟨z,hd,vs,rel,dd⟩:=JC I.bC e;obtain⟨w',hw,HP⟩:=mC.some_of (v:=v) (o:=valueAt vs k) (by rw[l];exact rel.val k)
  exact wpAny_getItem_of (JS ry) dd.mapOf hw (h w' _ (I.tok _) HP)
 ·subst ey
  cases(show u=Value.ref b from ry)
  obtain⟨z,hd,xs,rel,dd⟩:=wR I.bC e;obtain⟨w',hw,HP⟩:=mC.some_of (v:=v) (o:=(atKey xs k).map (·.2)) (by rw[l];exact rel.val k)
  obtain⟨p,hp,hp2⟩:=Option.map_eq_some_iff.mp hw;refine wpAny_getItem_heap (tupleKind_room_in1 hu) (vU I.bC eb) dd hp ?_;rw[hp2];exact h w' _ (I.tok _) HP
theorem Gf{h':Heap}{t':Nat}{ob:HO}(I:Inv X pins σ H s)(mu:TQ (H a))(hs:Heap.SameBut a s.heap h')(he:∃q,h'.get? a=some q)(new:bR X.prog X.w (upd H a ob) h' a ob):
  Inv X pins σ (upd H a ob) {s with heap:=h',toks:=t'}:=
 I.write (x:=a) (e:=a) mu (.inl rfl) (λb q hb z=>(hs.2 b hb).trans z) he new
end
def Ks(i:Expr):Prop:=∀ov iv,subscripted i false ov iv=operate [ov,iv] (getItem ov iv)
theorem Ic{prog:Program}{w:World}{A:Around}{E:Value->Shared->Prop}{s:Shared}{env:Env}{value slice:Expr}{pos:Pos}{T id:String}{Q:Value->Shared->Prop}
  (hl:typeLookup (.type T) "__getitem__"=pure (some (.builtin id))) (hs:Ks slice)
  (h:wpAny (model prog w) A (eval value env) (λo bL=>wpAny (model prog w) A (eval slice env) (λi rS=>rS.TypeIs o T/\wpAny (model prog w) A (getItem o i) Q E rS) E bL) E s):
  wpAny (model prog w) A (eval (.Subscript value slice pos) env) Q E s:=by
 refine Subscript_ (wpAny_mono h (λo bL GQ=>wpAny_mono GQ (λi rS CW=>?_) λ_ _ x=>x) λ_ _ x=>x);obtain⟨hT,CW⟩:=CW;unfold subscriptTail;refine wpAny_bind ?_;rw[getitemInPython_of_ne hT.not_modules];refine wpAny_bind (wpAny_specialOf hT hl ?_);have fin:wpAny (model prog w) A (subscripted slice false o i) (λr uI=>wpAny (model prog w) A (letTemporaryGo value o r >>= λ_=>pure r) Q E uI) E rS:=by
  rw[hs o i];exact wpAny_operating (wpAny_mono CW (λr uI GR=>wpAny_bind (wpAny_letTemporaryGo (wpAny_pure GR))) λ_ _ x=>x)
 first
  | exact wpAny_pure (wpAny_bind fin)
  | exact wpAny_bind (wpAny_pure (wpAny_bind fin))
  | exact wpAny_bind fin
theorem sI{X:Cx}{pins:List (Addr×Obj)}{σ:St}{H:Hp}{s:Shared}{a:Addr}{y:V}{o:Option V}(I:Inv X pins σ H s)(g:zI H a y o):s.TypeIs (.ref a) "dict":=by
 rcases g with⟨kvs,k,e,_,_⟩|⟨kvs,k,b,e,_,_,_⟩
 ·obtain⟨_,_,vs,_,dd⟩:=JC I.bC e
  exact dd.typeIs
 ·obtain⟨_,_,xs,_,dd⟩:=wR I.bC e
  exact dd.typeIs
def X9(td ty:TE):TE:=λσ H Q=>td σ H λx H1=>ty σ H1 λy H2=>∃a v,x=.ref a/\zI H2 a y (some v)/\Q v H2
section
variable {X:Cx}{o i e value:Expr}{pos pos' jV:Pos}{td ty tv:TE}
theorem Hr(hu:X.A.units+1<cLine)(ho:PE X o td)(hi:PE X i ty)(hs:Ks i):PE X (.Subscript o i pos) (X9 td ty):=by
 intro pins s σ H Q I h;refine Ic PySem.F.slot_dict_getitem.lookup hs (cD (ho pins s σ H _ I h) λu s1 ⟨x,H1,I1,rx,q1⟩=>cD (hi pins s1 σ H1 _ I1 q1) λiv s2 ⟨y,H2,I2,ry,a,v,ex,g,q2⟩=>?_);subst ex;obtain rfl:u=Value.ref a:=rx;exact⟨sI I2 g,yn hu I2 g ry λw' s3 I3 HP=>⟨v,H2,I3,HP,q2⟩⟩
end
theorem BI{P:Program}{w:World}{H:Hp}(h:Heap)(hb:sysModules<h.objs.size):bR P w H (h.push {cls:=.type "dict",data:=.dict #[]}) h.objs.size (.dT []):=
 ⟨Nat.zero_le _,beq_eq_false_iff_ne.mpr (Ne.symm (Nat.ne_of_lt hb)),[],.nil,_,#[],0,Heap.get?_push_size _ rfl,⟨rfl,rfl,rfl⟩,rfl,rfl,List.nodup_nil⟩
def RQ:TE:=λ_ H Q=>∀p,H p=none->Q (.ref p) (upd H p (.dT []))
section
variable {X:Cx}{pos:Pos}
theorem DH:PE X (.Dict [] [] pos) RQ:=λpins s σ H Q I h =>
 wpAny_Dict_empty ⟨.ref s.heap.objs.size,_,I.laid (a:=s.heap.objs.size) (o:=.dT []) (t':=s.toks) (λ_ _ q=>Heap.get?_push_of_some _ q) (Nat.le_refl _) (BI s.heap I.big),rfl,h _ (I.bC.fresh (Nat.le_refl _))⟩
end
def rV:List (TE×TE)->St->Hp->(List (V×V)->Hp->Prop)->Prop
 | [],_,H,Q=>Q [] H
 | (tk,tv)::r,σ,H,Q=>tk σ H λx H1=>tv σ H1 λy H2=>rV r σ H2 λps H3=>Q ((x,y)::ps) H3
end L2
namespace Vc
open PySem L2
class KF where
 K:PySem.W.Frag
 /-- where the classes of exceptions stand -/
 cls:Str->Addr:=λ_=>0
 /-- the code tables that a lambda fills: where,as they were,the lambda's place,its name -/
 tabs:List (Addr×Array Value×Pos×Str):=[]
variable [KF]
inductive D where
 | aX|bl (b:Bool)|int (i:Int)|str (x:Str)|tup (xs:List D)|lst (xs:List D)|dct (kvs:List (D×D))|exc (c:Str)
 /-- the law's own list: read,never changed -/
 | gw (ns:List Int)
 /-- a dict with whole numbers for keys -/
 | sE (kvs:List (Int×D))
 /-- kept points: the word,the count,the next name,the points by their names -/
 | kp (w:Str) (c e:Int) (kvs:List (Int×D))
def yp(a:Addr)(c:Str):HO:=.ext λh=>∃o,h.get? a=some o/\o.cls=.ref (KF.cls c)
def kD:Key->D
 | .inl i=>.int i
 | .inr x=>.str x
def kpF(w:Str)(c e:Int)(ad:Addr):List (Str×V):=[("way",.str w),("count",.int c),("points_by_name",.ref ad),("ever_put",.int e)]
mutual
inductive Rep (F:Hp):V->D->Prop where
 | aX:Rep F .aX .aX
 | bl (b:Bool):Rep F (.bl b) (.bl b)
 | int (i:Int):Rep F (.int i) (.int i)
 | str (x:Str):Rep F (.str x) (.str x)
 | tup {a:Addr} {vs:List V} {ds:List D}:F a=some (.tup vs)->aG F vs ds->Rep F (.ref a) (.tup ds)
 | lst {a:Addr} {vs:List V} {ds:List D}:Rd F a (.lst vs)->aG F vs ds->Rep F (.ref a) (.lst ds)
 | gw {a:Addr} {ns:List Int}:fm KF.K F a (ns.map V.int)->Rep F (.ref a) (.gw ns)
 | exc {a:Addr} {c:Str}:F a=some (yp a c)->Rep F (.ref a) (.exc c)
 | vD {a:Addr} {ks:List (List Key×V)} {kvs:List (D×D)}:F a=some (.dT ks)->iB F ks kvs->Rep F (.ref a) (.dct kvs)
 | sE {a:Addr} {ks:List (Key×V)} {kvs:List (Int×D)}:F a=some (.dK ks)->j9 F ks kvs->Rep F (.ref a) (.sE kvs)
 | kp {a dx ad:Addr} {w:Str} {c e:Int} {ks:List (Key×V)} {kvs:List (Int×D)}:F a=some (.ins (KF.cls "Kept") dx (kpF w c e ad))->F ad=some (.dK ks)->j9 F ks kvs->Rep F (.ref a) (.kp w c e kvs)
inductive j9 (F:Hp):List (Key×V)->List (Int×D)->Prop where
 | nil:j9 F [] []
 | cons {i:Int} {v:V} {d:D} {ks:List (Key×V)} {kvs:List (Int×D)}:Rep F v d->j9 F ks kvs->j9 F ((.inl i,v)::ks) ((i,d)::kvs)
inductive vk (F:Hp):List (Key×V)->List (D×D)->Prop where
 | nil:vk F [] []
 | cons {k:Key} {v:V} {d:D} {ks:List (Key×V)} {kvs:List (D×D)}:Rep F v d->vk F ks kvs->vk F ((k,v)::ks) ((kD k,d)::kvs)
inductive iB (F:Hp):List (List Key×V)->List (D×D)->Prop where
 | nil:iB F [] []
 | cons {k:List Key} {v:V} {d:D} {ks:List (List Key×V)} {kvs:List (D×D)}:Rep F v d->iB F ks kvs->iB F ((k,v)::ks) ((.tup (k.map kD),d)::kvs)
inductive aG (F:Hp):List V->List D->Prop where
 | nil:aG F [] []
 | cons {v:V} {d:D} {vs:List V} {ds:List D}:Rep F v d->aG F vs ds->aG F (v::vs) (d::ds)
end
theorem Rd.mono{F F':Hp}(s:aw F F'){a:Addr}{u:HO}(h:Rd F a u):Rd F' a u:=by
 rcases h with h|⟨o,h⟩
 ·exact .inl (s a _ h)
 ·exact .inr ⟨o,s a _ h⟩
mutual
theorem Rep.mono{F F':Hp}(s:aw F F'){v:V}{d:D}:Rep F v d->Rep F' v d
 | .aX=>.aX
 | .bl b=>.bl b
 | .int i=>.int i
 | .str x=>.str x
 | .tup h r=>.tup (s _ _ h) (aG.mono s r)
 | .lst h r=>.lst (Rd.mono s h) (aG.mono s r)
 | .gw h=>.gw (s.seq h)
 | .exc h=>.exc (s _ _ h)
 | .vD h r=>.vD (s _ _ h) (iB.mono s r)
 | .sE h r=>.sE (s _ _ h) (j9.mono s r)
 | .kp h1 h2 r=>.kp (s _ _ h1) (s _ _ h2) (j9.mono s r)
theorem j9.mono{F F':Hp}(s:aw F F'){ks:List (Key×V)}{kvs:List (Int×D)}:j9 F ks kvs->j9 F' ks kvs
 | .nil=>.nil
 | .cons h r=>.cons (Rep.mono s h) (j9.mono s r)
theorem vk.mono{F F':Hp}(s:aw F F'){ks:List (Key×V)}{kvs:List (D×D)}:vk F ks kvs->vk F' ks kvs
 | .nil=>.nil
 | .cons h r=>.cons (Rep.mono s h) (vk.mono s r)
theorem iB.mono{F F':Hp}(s:aw F F'){ks:List (List Key×V)}{kvs:List (D×D)}:iB F ks kvs->iB F' ks kvs
 | .nil=>.nil
 | .cons h r=>.cons (Rep.mono s h) (iB.mono s r)
theorem aG.mono{F F':Hp}(s:aw F F'){vs:List V}{ds:List D}:aG F vs ds->aG F' vs ds
 | .nil=>.nil
 | .cons h r=>.cons (Rep.mono s h) (aG.mono s r)
end
theorem aG.length{F:Hp}:∀ {vs:List V} {ds:List D},aG F vs ds->vs.length=ds.length
 | _,_,.nil=>rfl
 | _,_,.cons _ r=>by simp [aG.length r]
theorem aG.append{F:Hp}:∀ {vs ws:List V} {ds es:List D},aG F vs ds->aG F ws es->aG F (vs++ws) (ds++es)
 | _,_,_,_,.nil,s=>s
 | _,_,_,_,.cons h r,s=>.cons h (aG.append r s)
theorem aG.get{F:Hp}:∀ {vs:List V} {ds:List D} {i:Nat} {d:D},aG F vs ds->ds[i]?=some d->∃v,vs[i]?=some v/\Rep F v d
 | _,_,_,_,.nil,e=>by simp at e
 | _,_,0,_,.cons h _,e=>by simp at e;subst e;exact⟨_,by simp,h⟩
 | _,_,i+1,_,.cons _ r,e=>by
  obtain⟨v,h1,h2⟩:=aG.get (i:=i) r (by simpa using e)
  exact⟨v,by simpa using h1,h2⟩
theorem aG.get'{F:Hp}:∀ {vs:List V} {ds:List D} {i:Nat} {v:V},aG F vs ds->vs[i]?=some v->∃d,ds[i]?=some d/\Rep F v d
 | _,_,_,_,.nil,e=>by simp at e
 | _,_,0,_,.cons h _,e=>by simp at e;subst e;exact⟨_,by simp,h⟩
 | _,_,i+1,_,.cons _ r,e=>by
  obtain⟨v,h1,h2⟩:=aG.get' (i:=i) r (by simpa using e)
  exact⟨v,by simpa using h1,h2⟩
theorem aG.set{F:Hp}{v:V}{d:D}(h:Rep F v d):∀ {vs:List V} {ds:List D} (i:Nat),aG F vs ds->aG F (vs.set i v) (ds.set i d)
 | _,_,_,.nil=>.nil
 | _,_,0,.cons _ t=>.cons h t
 | _,_,i+1,.cons q t=>.cons q (aG.set h i t)
theorem aG.take{F:Hp}:∀ {vs:List V} {ds:List D} (n:Nat),aG F vs ds->aG F (vs.take n) (ds.take n)
 | _,_,0,_=>.nil
 | _,_,_+1,.nil=>.nil
 | _,_,n+1,.cons h r=>.cons h (aG.take n r)
theorem aG.drop{F:Hp}:∀ {vs:List V} {ds:List D} (n:Nat),aG F vs ds->aG F (vs.drop n) (ds.drop n)
 | _,_,0,r=>r
 | _,_,_+1,.nil=>.nil
 | _,_,n+1,.cons _ r=>aG.drop n r
theorem aG.rep{F:Hp}{vs:List V}{ds:List D}(r:aG F vs ds):∀n:Nat,aG F (List.replicate n vs).flatten (List.replicate n ds).flatten
 | 0=>.nil
 | n+1=>by
  rw[List.replicate_succ,List.replicate_succ,List.flatten_cons,List.flatten_cons];exact r.append (aG.rep r n)
def cB(F H:Hp)(v:V)(d:D):Prop:=match d with
 | .lst xs=>∃a vs,v=.ref a/\Rd H a (.lst vs)/\aG F vs xs
 | .sE kvs=>∃a ks,v=.ref a/\H a=some (.dK ks)/\j9 F ks kvs
 | .kp w c e kvs=>∃a dx ad ks,v=.ref a/\H a=some (.ins (KF.cls "Kept") dx (kpF w c e ad))/\H ad=some (.dK ks)/\j9 F ks kvs
 | d=>Rep F v d
theorem aJ{H:Hp}{p:Addr}{o:HO}(h:H p=none):aw H (upd H p o):=λb u e=>by
 rw[ak (cm e h)];exact e
theorem vJ{F H:Hp}(s:aw F H){a:Addr}{o:HO}(e:H a=some o):∃F',aw F F'/\aw F' H/\F' a=some o/\∀c u,F' c=some u->F c=some u\/(c=a/\u=o):=by
 cases ef:F a with
 | none =>
  refine⟨upd F a o,aJ ef,λb u q=>?_,ay,λc u q=>?_⟩
  ·by_cases hb:b=a
   ·subst hb;rw[ay]at q;cases q;exact e
   ·rw[ak hb]at q;exact s b u q
  ·by_cases hb:c=a
   ·subst hb;rw[ay]at q;cases q;exact .inr ⟨rfl,rfl⟩
   ·rw[ak hb]at q;exact .inl q
 | some u =>
  have:=s a u ef;rw[e]at this;cases this;exact⟨F,aw.refl _,s,ef,λ_ _ z=>.inl z⟩
def dl:HO->Bool
 | .dK _=>true
 | .ins _ _ _=>true
 | _=>false
structure O where
 fp:Addr->List Addr
 rep:Hp->Hp->Addr->Prop
 self:∀a,a∈fp a
 solid:∀ {F H:Hp} {a b:Addr} {φ:Heap->Prop},rep F H a->b∈fp a->H b≠some (.ext φ)
 nt:∀ {F H:Hp} {a b:Addr} {vs:List V},rep F H a->b∈fp a->H b≠some (.tup vs)
 mono:∀ {F F' H H':Hp} {a:Addr},aw F F'->(∀b∈fp a,H' b=H b)->rep F H a->rep F' H' a
 /-- what it is as data,where it is that -/
 view:Option D:=none
 sees:∀ {F H:Hp} {a:Addr} {d:D},rep F H a->view=some d->cB F H (.ref a) d:=by intro _ _ _ _ _ e;cases e
 lend:∀ {F H:Hp} {a:Addr} {d:D},aw F H->rep F H a->view=some d->∃F',aw F F'/\aw F' H/\Rep F' (.ref a) d/\∀c u,F' c=some u->F c=some u\/(dl u=true/\c∈fp a):=by intro _ _ _ _ _ _ e;cases e
 /-- what it is as data when it is lent as a whole -/
 deep:Option D:=none
 JU:∀ {F H:Hp} {a:Addr} {d:D},aw F H->rep F H a->deep=some d->∃F',aw F F'/\aw F' H/\Rep F' (.ref a) d:=by intro _ _ _ _ _ _ e;cases e
 /-- where it stands -/
 loc:Option Addr:=none
 aa0:∀ {F H:Hp} {a b:Addr},rep F H a->loc=some b->a=b:=by intro _ _ _ _ _ e;cases e
inductive B where
 | sh (d:D)
 | own (xs:List D)
 | obj (o:O)
abbrev Sd:=List (Option B)
structure bI where
 H0:Hp
 F0:Hp
 io:List (Nat×Addr)
 /-- the addresses of things that were handed in to be changed -/
 ob:List Addr
def bI.S8(Y:bI):List Addr:=Y.io.map (·.2)
def bI.C1(Y:bI):List Addr:=Y.io.map (·.2)++Y.ob
theorem bI.xk{Y:bI}{a:Addr}(h:a∉Y.C1):a∉Y.S8:=λz=>h (List.mem_append_left _ z)
def fK(ao:Sd)(σ:St)(b:Addr):Prop:=∃(i:Nat) (o:O) (a:Addr),ao[i]?=some (some (.obj o))/\σ[i]?=some (some (.ref a))/\b∈o.fp a
def kc(F:Hp):Prop:=∀q∈KF.tabs,F q.1=some (.lam q.2.1 q.2.2.1 q.2.2.2)
theorem kc.mono{F F':Hp}(h:kc F)(s:aw F F'):kc F':=λq hq=>s _ _ (h q hq)
def sg(F H:Hp):Prop:=aw F H/\kc F
structure pN(Y:bI)(F:Hp)(ao:Sd)(σ:St)(H:Hp):Prop where
 obj:∀(i:Nat) (o:O),ao[i]?=some (some (.obj o))->∃a,σ[i]?=some (some (.ref a))/\o.rep F H a/\∀b∈o.fp a,F b=none/\H b≠none/\(Y.H0 b=none\/b∈Y.ob)
 yo:∀(i j:Nat) (o p:O) (a b:Addr),ao[i]?=some (some (.obj o))->ao[j]?=some (some (.obj p))->σ[i]?=some (some (.ref a))->σ[j]?=some (some (.ref b))->i≠j->∀c∈o.fp a,c∉p.fp b
 iK:∀(j:Nat) (xs:List D) (b:Addr),ao[j]?=some (some (.own xs))->σ[j]?=some (some (.ref b))->¬fK ao σ b
 there:∀b∈Y.ob,H b≠none
 FD:∀b∈Y.ob,Y.H0 b≠none
 tab:kc F
theorem pN.owned{Y:bI}{F:Hp}{ao:Sd}{σ:St}{H:Hp}(X:pN Y F ao σ H){b:Addr}(h:fK ao σ b):F b=none/\H b≠none/\(Y.H0 b=none\/b∈Y.ob):=by
 obtain⟨i,o,a,e1,e2,hb⟩:=h;obtain⟨a',e3,_,h3⟩:=X.obj i o e1;rw[e2]at e3;cases e3;exact h3 b hb
theorem pN.Dl{Y:bI}{F:Hp}{ao:Sd}{σ:St}{H:Hp}(X:pN Y F ao σ H){b:Addr}(h:fK ao σ b){φ:Heap->Prop}:H b≠some (.ext φ):=by
 obtain⟨i,o,a,e1,e2,hb⟩:=h;obtain⟨a',e3,h2,_⟩:=X.obj i o e1;rw[e2]at e3;cases e3;exact o.solid h2 hb
theorem pN.Ds{Y:bI}{F:Hp}{ao:Sd}{σ:St}{H:Hp}(X:pN Y F ao σ H){b:Addr}(h:fK ao σ b){vs:List V}:H b≠some (.tup vs):=by
 obtain⟨i,o,a,e1,e2,hb⟩:=h;obtain⟨a',e3,h2,_⟩:=X.obj i o e1;rw[e2]at e3;cases e3;exact o.nt h2 hb
theorem pN.step{Y Y':bI}{F F':Hp}{ao aR:Sd}{σ bN:St}{H H':Hp}(X:pN Y F ao σ H)(hs:aw F F')
  (YC:∀(i:Nat) (o:O),aR[i]?=some (some (.obj o))->ao[i]?=some (some (.obj o))/\bN[i]?=σ[i]?)
  (hb:∀b,fK ao σ b->H' b=H b/\F' b=none/\(Y'.H0 b=none\/b∈Y'.ob))
  (aae:∀(j:Nat) (ys:List D) (b:Addr),aR[j]?=some (some (.own ys))->bN[j]?=some (some (.ref b))->¬fK ao σ b)
  (hth:∀b∈Y'.ob,H' b≠none) (hz:∀b∈Y'.ob,b∈Y.ob/\(Y.H0 b≠none->Y'.H0 b≠none):=by exactλb hb=>⟨hb,id⟩):pN Y' F' aR bN H' where
 obj:=λi o e=>by
  obtain⟨e1,e2⟩:=YC i o e;obtain⟨a,h1,h2,h3⟩:=X.obj i o e1;have ow:∀b∈o.fp a,fK ao σ b:=λb z=>⟨i,o,a,e1,h1,z⟩;refine⟨a,by rw[e2];exact h1,o.mono hs (λb z=>(hb b (ow b z)).1) h2,λb z=>⟨(hb b (ow b z)).2.1,?_,(hb b (ow b z)).2.2⟩⟩
  rw[(hb b (ow b z)).1];exact(h3 b z).2.1
 yo:=λi j o p a b e1 e2 e3 e4=>by
  obtain⟨q1,q2⟩:=YC i o e1;obtain⟨q3,q4⟩:=YC j p e2;rw[q2]at e3;rw[q4]at e4;exact X.yo i j o p a b q1 q3 e3 e4
 iK:=λj xs b e1 e2 ⟨i,o,a,e3,e4,hm⟩=>by
  obtain⟨q1,q2⟩:=YC i o e3;rw[q2]at e4;exact aae j xs b e1 e2 ⟨i,o,a,q1,e4,hm⟩
 there:=hth
 FD:=λb hb=>(hz b hb).2 (X.FD b (hz b hb).1)
 tab:=X.tab.mono hs
theorem pN.put{Y:bI}{F:Hp}{ao:Sd}{σ bN:St}{H:Hp}{i:Nat}{b':Option B}(X:pN Y F ao σ H)(h1:∀j,j≠i->bN[j]?=σ[j]?)(hn:∀o,b'≠some (.obj o))
  (hw:∀ys a,b'=some (.own ys)->bN[i]?=some (some (.ref a))->¬fK ao σ a):pN Y F (ao.set i b') bN H:=by
 have gs:∀ {j:Nat} {y:Option B},(ao.set i b')[j]?=some y->(j=i/\y=b')\/(j≠i/\ao[j]?=some y):=λ{j y} h=>by
  by_cases hj:j=i
  ·subst hj
   by_cases hl:j<ao.length
   ·rw[List.getElem?_set_self hl]at h;exact .inl ⟨rfl,(Option.some.inj h).symm⟩
   ·have:(ao.set j b')[j]?=none:=by rw[List.getElem?_eq_none_iff];simp;omega
    rw[this]at h;cases h
  ·rw[List.getElem?_set_ne (Ne.symm hj)]at h;exact .inr ⟨hj,h⟩
 refine X.step (aw.refl _) (λj o e=>?_) (λb hb=>⟨rfl,(X.owned hb).1,(X.owned hb).2.2⟩) (λj ys b e1 e2=>?_) X.there
 ·rcases gs e with⟨_,z⟩|⟨hj,z⟩
  ·exact absurd z.symm (hn o)
  ·exact⟨z,h1 j hj⟩
 ·rcases gs e1 with⟨rfl,z⟩|⟨hj,z⟩
  ·exact hw ys b z.symm e2
  ·rw[h1 j hj]at e2;exact X.iK j ys b z e2
theorem pN.none{Y:bI}{F:Hp}{ao:Sd}{σ:St}{H:Hp}(h:∀(i:Nat) (o:O),ao[i]?≠some (some (.obj o)))(aag:kc F)(hth:∀b∈Y.ob,H b≠none)(hz:∀b∈Y.ob,Y.H0 b≠none:=by intro b hb;cases hb):pN Y F ao σ H where
 FD:=hz
 tab:=aag
 obj:=λi o e=>absurd e (h i o)
 yo:=λi _ o _ _ _ e=>absurd e (h i o)
 iK:=λ_ _ _ _ _ ⟨i,o,_,e,_⟩=>h i o e
 there:=hth
def Nw(H:Hp)(b:Addr)(o:HO):Prop:=H b=none\/∃vs,o=.tup vs
structure RS(Y:bI)(F:Hp)(ao:Sd)(σ:St)(H:Hp):Prop where
 len:ao.length=σ.length
 lo:aw Y.F0 F
 fr:aw F H
 eQ:∀b o,F b=some o->Y.F0 b=some o\/Nw Y.H0 b o
 old:∀b o,Y.H0 b=some o->b∉Y.C1->H b=some o
 sh:∀(i:Nat) (d:D),ao[i]?=some (some (.sh d))->∃v,σ[i]?=some (some v)/\Rep F v d
 own:∀(i:Nat) (xs:List D),ao[i]?=some (some (.own xs))->∃a vs,σ[i]?=some (some (.ref a))/\H a=some (.lst vs)/\aG F vs xs/\F a=none/\(Y.H0 a=none\/a∈Y.S8)
 dis:∀(i j:Nat) (xs ys:List D) (a:Addr),ao[i]?=some (some (.own xs))->ao[j]?=some (some (.own ys))->σ[i]?=some (some (.ref a))->σ[j]?=some (some (.ref a))->i=j
 io:∀p∈Y.io,σ[p.1]?=some (some (.ref p.2))/\∃xs,ao[p.1]?=some (some (.own xs))
 ob:pN Y F ao σ H
theorem Ea{F H:Hp}{p:Addr}{o:HO}(s:aw F H):aw (upd F p o) (upd H p o):=λb u e=>by
 by_cases hb:b=p
 ·subst hb;rw[ay]at e ⊢;exact e
 ·rw[ak hb]at e ⊢;exact s b u e
theorem same_none{F H:Hp}(s:aw F H){p:Addr}(h:H p=none):F p=none:=s.free h
theorem RS.bZ{Y:bI}{F:Hp}{ao:Sd}{σ:St}{H:Hp}{p:Addr}(R:RS Y F ao σ H)(h:H p=none):Y.H0 p=none/\p∉Y.C1:=by
 have cU:p∉Y.C1:=λhm=>by
  rcases List.mem_append.mp hm with hm|hm
  case inr=>exact R.ob.there p hm h
  obtain⟨q,hq,e⟩:=List.mem_map.mp hm;obtain⟨h1,xs,h2⟩:=R.io q hq;obtain⟨a,vs,h3,h4,_⟩:=R.own _ _ h2;rw[h1]at h3;cases h3;rw[e,h]at h4;cases h4
 refine⟨?_,cU⟩;cases e:Y.H0 p with
 | none=>rfl
 | some o=>rw[R.old p o e cU]at h;cases h
theorem RS.alloc{Y:bI}{F:Hp}{ao:Sd}{σ:St}{H:Hp}{p:Addr}{o:HO}(R:RS Y F ao σ H)(h:H p=none):RS Y (upd F p o) ao σ (upd H p o) where
 len:=R.len
 lo:=R.lo.trans (aJ (same_none R.fr h))
 fr:=Ea R.fr
 eQ:=λb u e=>by
  by_cases hb:b=p
  ·subst hb;exact .inr (.inl (R.bZ h).1)
  ·rw[ak hb]at e;exact R.eQ b u e
 old:=λb u e n=>by
  have:=R.old b u e n;rw[ak (cm this h)];exact this
 sh:=λi d e=>by
  obtain⟨v,h1,h2⟩:=R.sh i d e;exact⟨v,h1,h2.mono (aJ (same_none R.fr h))⟩
 own:=λi xs e=>by
  obtain⟨a,vs,h1,h2,h3,h4,h5⟩:=R.own i xs e;have df:=cm h2 h;exact⟨a,vs,h1,by rw[ak df];exact h2,h3.mono (aJ (same_none R.fr h)),by rw[ak df];exact h4,h5⟩
 dis:=R.dis
 io:=R.io
 ob:=R.ob.step (aJ (same_none R.fr h)) (λi o e=>⟨e,rfl⟩) (λb hb=>by
  obtain⟨w1,w2,w3⟩:=R.ob.owned hb;have df:b≠p:=λz=>w2 (z ▸ h);exact⟨ak df,by rw[ak df];exact w1,w3⟩) (λj ys b e1 e2=>R.ob.iK j ys b e1 e2) λb hb=>by
  have df:b≠p:=λz=>R.ob.there b hb (z ▸ h);rw[ak df];exact R.ob.there b hb
theorem RS.kj{Y:bI}{F:Hp}{ao:Sd}{σ:St}{H:Hp}{p:Addr}{o:HO}(R:RS Y F ao σ H)(h:H p=none):RS Y F ao σ (upd H p o) where
 len:=R.len
 lo:=R.lo
 fr:=R.fr.trans (aJ h)
 eQ:=R.eQ
 old:=λb u e n=>aJ h b u (R.old b u e n)
 sh:=R.sh
 own:=λi xs e=>by
  obtain⟨a,vs,h1,h2,h3,h4,h5⟩:=R.own i xs e;exact⟨a,vs,h1,aJ h a _ h2,h3,h4,h5⟩
 dis:=R.dis
 io:=R.io
 ob:=R.ob.step (aw.refl _) (λi o e=>⟨e,rfl⟩) (λb hb=>by
  obtain⟨w1,w2,w3⟩:=R.ob.owned hb;have df:b≠p:=λz=>w2 (z ▸ h);exact⟨ak df,w1,w3⟩) (λj ys b e1 e2=>R.ob.iK j ys b e1 e2) λb hb=>by
  have df:b≠p:=λz=>R.ob.there b hb (z ▸ h);rw[ak df];exact R.ob.there b hb
inductive EV where
 | val (d:D)|var (i:Nat)|own (xs:List D)|obj (o:O)|any
inductive OV where
 | val (d:D)|var (i:Nat)|any
abbrev TX:=Sd->(EV->Sd->Prop)->Prop
abbrev TV:=Sd->(OV->Sd->Prop)->Prop
abbrev TD:=Sd->(D->Sd->Prop)->Prop
abbrev TB:=Sd->(Bool->Sd->Prop)->Prop
abbrev fo:=Sd->(List D->Sd->Prop)->Prop
structure dH(ao:Sd)(σ:St)(a:Addr):Prop where
 own:∀(j:Nat) (ys:List D),ao[j]?=some (some (.own ys))->σ[j]?≠some (some (.ref a))
 Tc:¬fK ao σ a
instance {ao:Sd} {σ:St} {a:Addr}:CoeFun (dH ao σ a) λ_=>∀(j:Nat) (ys:List D),ao[j]?=some (some (.own ys))->σ[j]?≠some (some (.ref a)):=⟨dH.own⟩
theorem RS.cY{Y:bI}{F:Hp}{ao:Sd}{σ:St}{H:Hp}(R:RS Y F ao σ H){a:Addr}(h:H a=none):dH ao σ a:=by
 refine⟨λj ys e z=>?_,λz=>(R.ob.owned z).2.1 h⟩;obtain⟨b,us,e1,e2,_⟩:=R.own j ys e;rw[e1]at z;cases z;rw[h]at e2;cases e2
def vm(F:Hp)(σ:St)(v:V):OV->Prop
 | .val d=>Rep F v d
 | .var i=>σ[i]?=some (some v)
 | .any=>True
def Ku(Y:bI)(F H:Hp)(ao:Sd)(σ:St)(v:V):EV->Prop
 | .val d=>Rep F v d
 | .var i=>σ[i]?=some (some v)
 | .own xs=>∃a vs,v=.ref a/\H a=some (.lst vs)/\aG F vs xs/\F a=none/\Y.H0 a=none/\dH ao σ a
 | .obj o=>∃a,v=.ref a/\o.rep F H a/\∀b∈o.fp a,F b=none/\H b≠none/\Y.H0 b=none/\dH ao σ b
 | .any=>True
def lX(Y:bI)(t:TX):TE:=λσ H Q=>∃F ao Qd,RS Y F ao σ H/\t ao Qd/\∀v H' F' x aR,aw F F'->RS Y F' aR σ H'->Ku Y F' H' aR σ v x->Qd x aR->Q v H'
def lO(Y:bI)(t:TV):TE:=λσ H Q=>∃F ao Qd,RS Y F ao σ H/\t ao Qd/\∀v H' F' x aR,aw F F'->RS Y F' aR σ H'->vm F' σ v x->Qd x aR->Q v H'
def lD(Y:bI)(t:TD):TE:=λσ H Q=>∃F ao Qd,RS Y F ao σ H/\t ao Qd/\∀v H' F' x aR,aw F F'->RS Y F' aR σ H'->Rep F' v x->Qd x aR->Q v H'
def lB(Y:bI)(t:TB):TT:=λσ H Q=>∃F ao Qd,RS Y F ao σ H/\t ao Qd/\∀b H' F' aR,aw F F'->RS Y F' aR σ H'->Qd b aR->Q b H'
def lDs(Y:bI)(t:fo):TA:=λσ H Q=>∃F ao Qd,RS Y F ao σ H/\t ao Qd/\∀vs H' F' xs aR,aw F F'->RS Y F' aR σ H'->aG F' vs xs->Qd xs aR->Q vs H'
structure GE where
 P:Program
 w:World
 K:PySem.W.Frag
 mg:Str->Option Value
 base:Heap
structure Stat where
 N:List Str
 sc:List (Str×NameKind)
 ios:List Nat:=[]
 oG:Bool:=false
 /-- within an except suite -/
 lK:Bool:=false
 /-- a raise may stand here -/
 rs:Bool:=false
 /-- what is wanted where an exception of a class leaves -/
 ex:Str->Sd->Prop:=λ_ _=>False
def Gp(a T:Addr)(c:Str):HO:=.ext λh=>∃o vs a0,h.get? a=some o/\o.cls=.ref (KF.cls c)/\o.data=.fields vs/\vs[0]?=some a0/\vs[1]?=some (.ref T)
def YX(T:Addr):HO:=.ext λh=>∃o ts,h.get? T=some o/\o.data=.fields ts/\ts[3]?=some .none
structure TL(X:Cx)(Y:bI)(F H:Hp)(a T:Addr)(c:Str):Prop where
 fa:F a=none
 fT:F T=none
 ha:H a=some (Gp a T c)
 hT:H T=some (YX T)
 ne:a≠T
 na:Y.H0 a=none
 nT:Y.H0 T=none
 la:X.bP.heap.get? a=none
 lT:X.bP.heap.get? T=none
def N9(a:Addr)(c:Str):HO:=.ext λh=>∃o vs a0,h.get? a=some o/\o.cls=.ref (KF.cls c)/\o.data=.fields vs/\vs[0]?=some a0/\vs[1]?=some .none
structure dD(X:Cx)(G:GE)(k:Nat)(S:Stat)(Y:bI):Prop where
 P:X.prog=G.P
 w:X.w=G.w
 K:X.K=G.K
 kf:X.K=KF.K
 mg:X.mg=G.mg
 base:X.base=G.base
 N:X.N=S.N
 sc:X.env.scope.names=S.sc
 nd:S.N.Nodup
 ios:∀p∈Y.io,p.1∈S.ios
 obs:S.oG=false->S.ios=[]->Y.ob=[]
 calm:S.lK=false->X.calm=true
 kind:X.env.scope.kind=.function
 fn:S.oG=false->∀x,S.sc.lookup x=some .cell->X.fn x=true
 hd:S.lK=false->X.A.handled=none
 dp:X.A.depth+3*k+5<recursionLimit
 un:X.A.units+16*k+200<cLine
 po:S.lK=false->PassesOwn (model X.prog X.w) X.A X.env X.xe
 nx:S.oG=false->X.ex=[]/\X.stack=X.env::X.outer/\X.env.frame=some X.env.locals
 exc:∀c ao,S.ex c ao->∀pins σ H F s a T,L2.Inv X pins σ H s->RS Y F ao σ H->TL X Y F H a T c->X.xe (.ref a) s
 made:S.rs=true->∀c ao,S.ex c ao->∀pins σ H F s a,L2.Inv X pins σ H s->RS Y F ao σ H->H a=some (N9 a c)->Y.H0 a=none->X.bP.heap.get? a=none->X.xe (.ref a) s
theorem dD.room{X:Cx}{G:GE}{k:Nat}{S:Stat}{Y:bI}(ok:dD X G k S Y)(h:S.lK=false):gJ k X.A:=⟨ok.hd h,ok.dp,ok.un⟩
theorem dD.units{X:Cx}{G:GE}{k:Nat}{S:Stat}{Y:bI}(ok:dD X G k S Y):X.A.units+64<cLine:=by have:=ok.un;omega
variable {G:GE}{k:Nat}{S:Stat}
structure EX(G:GE)(k:Nat)(S:Stat)(e:Expr)(t:TX) :Prop where
 run:∀X Y,dD X G k S Y->PE X e (lX Y t)
instance {G:GE} {k:Nat} {S:Stat} {e:Expr} {t:TX} :CoeFun (EX G k S e t) λ_=>∀X Y,dD X G k S Y->PE X e (lX Y t):=⟨EX.run⟩
structure EO(G:GE)(k:Nat)(S:Stat)(e:Expr)(t:TV) :Prop where
 run:∀X Y,dD X G k S Y->PE X e (lO Y t)
instance {G:GE} {k:Nat} {S:Stat} {e:Expr} {t:TV} :CoeFun (EO G k S e t) λ_=>∀X Y,dD X G k S Y->PE X e (lO Y t):=⟨EO.run⟩
structure ED(G:GE)(k:Nat)(S:Stat)(e:Expr)(t:TD) :Prop where
 run:∀X Y,dD X G k S Y->PE X e (lD Y t)
instance {G:GE} {k:Nat} {S:Stat} {e:Expr} {t:TD} :CoeFun (ED G k S e t) λ_=>∀X Y,dD X G k S Y->PE X e (lD Y t):=⟨ED.run⟩
structure EB(G:GE)(k:Nat)(S:Stat)(e:Expr)(t:TB) :Prop where
 run:∀X Y,dD X G k S Y->PT X e (lB Y t)
instance {G:GE} {k:Nat} {S:Stat} {e:Expr} {t:TB} :CoeFun (EB G k S e t) λ_=>∀X Y,dD X G k S Y->PT X e (lB Y t):=⟨EB.run⟩
structure wG(G:GE)(k:Nat)(S:Stat)(es:List Expr)(t:fo) :Prop where
 run:∀X Y,dD X G k S Y->PA X es (lDs Y t)
instance {G:GE} {k:Nat} {S:Stat} {es:List Expr} {t:fo} :CoeFun (wG G k S es t) λ_=>∀X Y,dD X G k S Y->PA X es (lDs Y t):=⟨wG.run⟩
def Qc:Expr->Bool
 | .Starred _ _=>false
 | _=>true
theorem gy{e:Expr}{es:List Expr}{env:Env}(h:Qc e=true):starEach (e::es) env=(false,eval e env)::starEach es env:=by
 cases e<;>first|rfl|cases h
theorem bb{X:Cx}{e:Expr}{t t':TE}(h:PE X e t)(i:∀σ H Q,t' σ H Q->t σ H Q):PE X e t':=λpins s σ H Q I q=>h pins s σ H Q I (i σ H Q q)
theorem v7{X:Cx}{e:Expr}{t t':TT}(h:PT X e t)(i:∀σ H Q,t' σ H Q->t σ H Q):PT X e t':=λpins s σ H Q I q=>h pins s σ H Q I (i σ H Q q)
theorem qC{X:Cx}{e:List Expr}{t t':TA}(h:PA X e t)(i:∀σ H Q,t' σ H Q->t σ H Q):PA X e t':=λpos pins s σ H Q I q=>h pos pins s σ H Q I (i σ H Q q)
theorem c5{X:Cx}{e:Stmt}{t t':TS}(h:PS X e t)(i:∀D σ H,t' D σ H->t D σ H):PS X e t':=λpins s σ H D I q=>h pins s σ H D I (i D σ H q)
theorem xH{X:Cx}{e:List Stmt}{t t':TS}(h:pO X e t)(i:∀D σ H,t' D σ H->t D σ H):pO X e t':=λpins s σ H D I q=>h pins s σ H D I (i D σ H q)
theorem RS.yr{Y:bI}{F:Hp}{ao:Sd}{σ:St}{H:Hp}{a:Addr}{vs:List V}(R:RS Y F ao σ H)(h1:H a=some (.lst vs))(h2:F a=none)(h3:dH ao σ a)(h4:Y.H0 a=none):RS Y (upd F a (.lst vs)) ao σ H where
 len:=R.len
 lo:=R.lo.trans (aJ h2)
 fr:=λb o e=>by
  by_cases hb:b=a
  ·subst hb;rw[ay]at e;cases e;exact h1
  ·rw[ak hb]at e;exact R.fr b o e
 eQ:=λb u e=>by
  by_cases hb:b=a
  ·subst hb;exact .inr (.inl h4)
  ·rw[ak hb]at e;exact R.eQ b u e
 old:=R.old
 sh:=λi d e=>by
  obtain⟨v,q1,q2⟩:=R.sh i d e;exact⟨v,q1,q2.mono (aJ h2)⟩
 own:=λi xs e=>by
  obtain⟨b,us,q1,q2,q3,q4,q5⟩:=R.own i xs e;have df:b≠a:=λz=>h3 i xs e (by rw[q1,z])
  exact⟨b,us,q1,q2,q3.mono (aJ h2),by rw[ak df];exact q4,q5⟩
 dis:=R.dis
 io:=R.io
 ob:=R.ob.step (aJ h2) (λi o e=>⟨e,rfl⟩) (λb hb=>by
  obtain⟨w1,w2,w3⟩:=R.ob.owned hb;have df:b≠a:=λz=>h3.Tc (z ▸ hb);exact⟨rfl,by rw[ak df];exact w1,w3⟩) (λj ys b e1 e2=>R.ob.iK j ys b e1 e2) R.ob.there
def fzV:EV->OV
 | .val d=>.val d
 | .var i=>.var i
 | .own xs=>.val (.lst xs)
 | .obj _=>.any
 | .any=>.any
def aW(t:TX):TV:=λσ Q=>t σ λx aA=>Q (fzV x) aA
theorem aY{e:Expr}{t:TX}(h:EX G k S e t):EO G k S e (aW t):=.mk λX Y ok=>bb (h X Y ok) λσ H Q q=>by
 obtain⟨F,ao,Qd,R,q,K⟩:=q;refine⟨F,ao,_,R,q,λv H' F' x aR s R' r q'=>?_⟩;cases x with
 | val d=>exact K v H' F' (.val d) aR s R' r q'
 | var i=>exact K v H' F' (.var i) aR s R' r q'
 | own xs =>
  obtain⟨a,vs,rfl,h1,h2,h3,h4,h5⟩:=r;exact K _ H' _ (.val (.lst xs)) aR (s.trans (aJ h3)) (R'.yr h1 h3 h5 h4) (.lst (.inl ay) (h2.mono (aJ h3))) q'
 | obj o=>exact K v H' F' .any aR s R' trivial q'
 | any=>exact K v H' F' .any aR s R' trivial q'
def oxV:OV->EV
 | .val d=>.val d
 | .var i=>.var i
 | .any=>.any
def oX(t:TV):TX:=λσ Q=>t σ λx aA=>Q (oxV x) aA
theorem eA{e:Expr}{t:TV}(h:EO G k S e t):EX G k S e (oX t):=.mk λX Y ok=>bb (h X Y ok) λσ H Q q=>by
 obtain⟨F,ao,Qd,R,q,K⟩:=q;refine⟨F,ao,_,R,q,λv H' F' x aR s R' r q'=>?_⟩;cases x with
 | val d=>exact K v H' F' (.val d) aR s R' r q'
 | var i=>exact K v H' F' (.var i) aR s R' r q'
 | any=>exact K v H' F' .any aR s R' trivial q'
theorem aZ{α:Type}{l:List (Option α)}{i:Nat}{x:α}{y:Option α}(h:l[i]?=some (some x)):(l.set i y)[i]?=some y:=by
 have:=(List.getElem?_eq_some_iff.mp h).1;rw[List.getElem?_set_self this]
theorem bj{α:Type}{l:List (Option α)}{i j:Nat}{y:Option α}(h:j≠i):(l.set i y)[j]?=l[j]?:=by
 rw[List.getElem?_set_ne (Ne.symm h)]
theorem RS.ky{Y:bI}{F:Hp}{ao:Sd}{σ:St}{H:Hp}{i:Nat}{xs:List D}(R:RS Y F ao σ H)(h:ao[i]?=some (some (.own xs)))(cU:∀p∈Y.io,p.1≠i):
  ∃F' v,aw F F'/\RS Y F' (ao.set i (some (.sh (.lst xs)))) σ H/\σ[i]?=some (some v)/\Rep F' v (.lst xs):=by
 obtain⟨a,vs,q1,q2,q3,q4,q5⟩:=R.own i xs h;have sm:=aJ (o:=.lst vs) q4;have rep:Rep (upd F a (.lst vs)) (.ref a) (.lst xs):=.lst (.inl ay) (q3.mono sm);have nio:Y.H0 a=none:=by
  rcases q5 with q5|q5
  ·exact q5
  ·obtain⟨p,hp,e⟩:=List.mem_map.mp q5
   obtain⟨w1,ys,w2⟩:=R.io p hp;exact absurd (R.dis p.1 i ys xs a w2 h (by rw[w1,e]) q1) (cU p hp)
 have obF:pN Y (upd F a (.lst vs)) (ao.set i (some (.sh (.lst xs)))) σ H:=R.ob.step sm (λj o e=>by
  have hj:j≠i:=λz=>by subst z;rw[aZ h]at e;cases e
  rw[bj hj]at e;exact⟨e,rfl⟩) (λb hb=>by
  obtain⟨w1,w2,w3⟩:=R.ob.owned hb;have df:b≠a:=λz=>R.ob.iK i xs a h q1 (z ▸ hb);exact⟨rfl,by rw[ak df];exact w1,w3⟩) (λj ys b e1 e2=>by
  have hj:j≠i:=λz=>by subst z;rw[aZ h]at e1;cases e1
  rw[bj hj]at e1;exact R.ob.iK j ys b e1 e2) R.ob.there
 refine⟨upd F a (.lst vs),.ref a,sm,⟨by simpa using R.len,R.lo.trans sm,λb o e=>?_,λb o e=>?_,R.old,λj d e=>?_,λj ys e=>?_,λj l ys zs b e1 e2 e3 e4=>?_,λp hp=>?_,obF⟩,q1,rep⟩
 ·by_cases hb:b=a
  ·subst hb;rw[ay]at e;cases e;exact q2
  ·rw[ak hb]at e;exact R.fr b o e
 ·by_cases hb:b=a
  ·subst hb;exact .inr (.inl nio)
  ·rw[ak hb]at e;exact R.eQ b o e
 ·by_cases hj:j=i
  ·subst hj
   rw[aZ h]at e;cases e;exact⟨_,q1,rep⟩
  ·rw[bj hj]at e
   obtain⟨v,w1,w2⟩:=R.sh j d e;exact⟨v,w1,w2.mono sm⟩
 ·have hj:j≠i:=λz=>by subst z;rw[aZ h]at e;cases e
  rw[bj hj]at e;obtain⟨b,us,w1,w2,w3,w4,w5⟩:=R.own j ys e;have df:b≠a:=λz=>hj (R.dis j i ys xs a e h (z ▸ w1) q1);exact⟨b,us,w1,w2,w3.mono sm,by rw[ak df];exact w4,w5⟩
 ·have hj:j≠i:=λz=>by subst z;rw[aZ h]at e1;cases e1
  have hl:l≠i:=λz=>by subst z;rw[aZ h]at e2;cases e2
  rw[bj hj]at e1;rw[bj hl]at e2;exact R.dis j l ys zs b e1 e2 e3 e4
 ·obtain⟨w1,ys,w2⟩:=R.io p hp
  exact⟨w1,ys,by rw[bj (cU p hp)];exact w2⟩
def SD(ios:List Nat)(x:OV)(aA:Sd)(Q:D->Sd->Prop):Prop:=match x with
 | .val d=>Q d aA
 | .any=>False
 | .var i=>match aA[i]? with
  | some (some (.own xs))=>i∉ios/\Q (.lst xs) (aA.set i (some (.sh (.lst xs))))
  | some (some (.sh d))=>Q d aA
  | _=>False
theorem Fb{ios:List Nat}{d:D}{aA:Sd}{Q:D->Sd->Prop}:SD ios (.val d) aA Q=Q d aA:=rfl
theorem uP{ios:List Nat}{i:Nat}{aA:Sd}{Q:D->Sd->Prop}:SD ios (.var i) aA Q=(match aA[i]? with
  | some (some (.own xs))=>i∉ios/\Q (.lst xs) (aA.set i (some (.sh (.lst xs))))
  | some (some (.sh d))=>Q d aA
  | _=>False):=rfl
def aq(ios:List Nat)(t:TV):TD:=λσ Q=>t σ λx aA=>SD ios x aA Q
theorem aI{e:Expr}{t:TV}(h:EO G k S e t):ED G k S e (aq S.ios t):=.mk λX Y ok=>bb (h X Y ok) λσ H Q q=>by
 obtain⟨F,ao,Qd,R,q,K⟩:=q;refine⟨F,ao,_,R,q,λv H' F' x aR s R' r q'=>?_⟩;cases x with
 | val d=>exact K v H' F' d aR s R' r q'
 | any=>exact False.elim q'
 | var i =>
  have r:σ[i]?=some (some v):=r;rw[uP]at q'
  split at q'
  ·rename_i xs e
   obtain⟨hi,q'⟩:=q';obtain⟨F2,v2,s2,R2,e2,r2⟩:=R'.ky e λp hp z=>hi (z ▸ ok.ios p hp);rw[r]at e2;cases e2;exact K v H' F2 _ _ (s.trans s2) R2 r2 q'
  ·rename_i d e
   obtain⟨v2,e2,r2⟩:=R'.sh i d e;rw[r]at e2;cases e2;exact K v H' F' d aR s R' r2 q'
  ·exact q'.elim
def af(i:Nat):TV:=λσ Q=>match σ[i]? with
 | some (some (.sh d))=>Q (.val d) σ
 | some (some (.own _))=>Q (.var i) σ
 | _=>False
theorem ag(i:Nat){x:Str}{pos:Pos}(hN:S.N[i]?=some x:=by rfl)(hv:S.sc.lookup x=some .local\/S.sc.lookup x=some .cell\/S.sc.lookup x=some .free:=by first|exact Or.inl rfl|exact Or.inr (Or.inl rfl)|exact Or.inr (Or.inr rfl))
  (hd:(x==("__debug__":Str))=false:=by decide) (ql:(x==("__classdict__":Str))=false:=by decide):EO G k S (.Name x pos) (af i):=.mk λX Y ok =>
 bb (hZ (X:=X) (i:=i) (by rw[ok.N];exact hN) (by unfold FP;rw[ok.sc];exact hv) hd ql) λσ H Q q=>by
  obtain⟨F,ao,Qd,R,q,K⟩:=q;unfold af at q
  split at q
  ·rename_i d e
   obtain⟨v,e2,r2⟩:=R.sh i d e;exact⟨v,e2,K v H F (.val d) ao (aw.refl _) R r2 q⟩
  ·rename_i xs e
   obtain⟨a,vs,e2,_⟩:=R.own i xs e;exact⟨_,e2,K _ H F (.var i) ao (aw.refl _) R e2 q⟩
  ·exact q.elim
def aQ(d:D):TV:=λσ Q=>Q (.val d) σ
theorem mW{Y:bI}{v:V}{d:D}(r:∀F,Rep F v d)(σ:St)(H:Hp)(Q:VK)(q:lO Y (aQ d) σ H Q):tC v σ H Q:=by
 obtain⟨F,ao,Qd,R,q,K⟩:=q;exact K v H F (.val d) ao (aw.refl _) R (r F) q
theorem av{i j pos}:EO G k S (.Constant (.int i) j pos) (aQ (.int i)):=.mk λ_ _ _=>bb PJ (mW λ_=>.int i)
theorem je{b j pos}:EO G k S (.Constant (.bool b) j pos) (aQ (.bl b)):=.mk λ_ _ _=>bb Xe (mW λ_=>.bl b)
theorem eh{j pos}:EO G k S (.Constant .none j pos) (aQ .aX):=.mk λ_ _ _=>bb PN (mW λ_=>.aX)
theorem ux{x j pos}:EO G k S (.Constant (.str x) j pos) (aQ (.str x)):=.mk λ_ _ _=>bb PU (mW λ_=>.str x)
def Ke(G:GE)(x:Str)(d:D):Prop:=∃u v,G.mg x=some u/\RelV v u/\∀F,Rep F v d
theorem dI{X:Cx}{Y:bI}(ok:dD X G k S Y){x:Str}(h:S.sc.lookup x=some .globalImplicit):Gl X x:=by
 unfold Gl;show X.env.scope.names.lookup x=_;rw[ok.sc];exact h
theorem uw{x:Str}{d:D}{pos:Pos}(h:Ke G x d)(hg:S.sc.lookup x=some .globalImplicit:=by rfl)(hd:(x==("__debug__":Str))=false:=by decide):EO G k S (.Name x pos) (aQ d):=.mk λX Y ok=>by
 obtain⟨u,v,h1,h2,h3⟩:=h;exact bb (Hs (dI ok hg) (by rw[ok.mg];exact h1) h2 hd) (mW h3)
def fh(σ:Sd):OV->Option D
 | .val d=>some d
 | .any=>none
 | .var i=>match σ[i]? with
  | some (some (.sh d))=>some d
  | some (some (.own xs))=>some (.lst xs)
  | some (some (.obj o))=>o.view
  | _=>none
theorem Rep.h{F H:Hp}(s:aw F H){v:V}{d:D}(r:Rep F v d):cB F H v d:=by
 cases d with
 | lst xs =>
  cases r with
  | lst h r=>exact⟨_,_,rfl,Rd.mono s h,r⟩
 | sE kvs =>
  cases r with
  | sE h r=>exact⟨_,_,rfl,s _ _ h,r⟩
 | kp w c e kvs =>
  cases r with
  | kp h1 h2 r=>exact⟨_,_,_,_,rfl,s _ _ h1,s _ _ h2,r⟩
 | _=>exact r
theorem RS.fh{Y:bI}{F:Hp}{ao:Sd}{σ:St}{H:Hp}(R:RS Y F ao σ H){v:V}{x:OV}{d:D}(r:vm F σ v x)(e:fh ao x=some d):cB F H v d:=by
 cases x with
 | val d'=>cases e;exact Rep.h R.fr r
 | any=>cases e
 | var i =>
  have r:σ[i]?=some (some v):=r;have e:(match ao[i]? with|some (some (.sh d))=>some d|some (some (.own xs))=>some (.lst xs)|some (some (.obj o))=>o.view|_=>none)=some d:=e
  split at e
  ·rename_i d' q
   cases e;obtain⟨v2,e2,r2⟩:=R.sh i d q;rw[r]at e2;cases e2;exact Rep.h R.fr r2
  ·rename_i xs q
   cases e;obtain⟨a,vs,e2,h2,h3,_⟩:=R.own i xs q;rw[r]at e2;cases e2;exact⟨a,vs,rfl,.inl h2,h3⟩
  ·rename_i o q
   obtain⟨a,e2,h2,_⟩:=R.ob.obj i o q;rw[r]at e2;cases e2;exact o.sees h2 e
  ·cases e
theorem cB.int{F H:Hp}{v:V}{i:Int}(r:cB F H v (.int i)):v=.int i:=by cases(show Rep F v (.int i)from r);rfl
theorem cB.bl{F H:Hp}{v:V}{i:Bool}(r:cB F H v (.bl i)):v=.bl i:=by cases(show Rep F v (.bl i)from r);rfl
theorem cB.str{F H:Hp}{v:V}{i:Str}(r:cB F H v (.str i)):v=.str i:=by cases(show Rep F v (.str i)from r);rfl
theorem cB.aX{F H:Hp}{v:V}(r:cB F H v .aX):v=.aX:=by cases(show Rep F v .aX from r);rfl
theorem cB.tup{F H:Hp}(s:aw F H){v:V}{xs:List D}(r:cB F H v (.tup xs)):∃a vs,v=.ref a/\H a=some (.tup vs)/\aG F vs xs:=by
 cases(show Rep F v (.tup xs)from r)with
 | tup h r=>exact⟨_,_,rfl,s _ _ h,r⟩
theorem cB.lst{F H:Hp}{v:V}{xs:List D}(r:cB F H v (.lst xs)):∃a vs,v=.ref a/\Rd H a (.lst vs)/\aG F vs xs:=r
def Goes(Y:bI)(F:Hp)(ao:Sd)(σ:St)(Qd:EV->Prop)(Q:VK):Prop:=∀v H' F' r,aw F F'->RS Y F' ao σ H'->Ku Y F' H' ao σ v r->Qd r->Q v H'
theorem Goes.val{Y:bI}{F:Hp}{ao:Sd}{σ:St}{Qd:EV->Prop}{Q:VK}(g:Goes Y F ao σ Qd Q){H:Hp}(R:RS Y F ao σ H){v:V}{d:D}(r:Rep F v d)(q:Qd (.val d)):Q v H:=g v H F (.val d) (aw.refl _) R r q
theorem Goes.own{Y:bI}{F:Hp}{ao:Sd}{σ:St}{Qd:EV->Prop}{Q:VK}(g:Goes Y F ao σ Qd Q){H:Hp}(R:RS Y F ao σ H){vs:List V}{xs:List D}(r:aG F vs xs)(q:Qd (.own xs)):∀p,H p=none->Q (.ref p) (upd H p (.lst vs)):=λp hp=>by
 refine g (.ref p) _ F (.own xs) (aw.refl _) (R.kj hp) ⟨p,vs,rfl,ay,r,same_none R.fr hp,(R.bZ hp).1,⟨λj ys e z=>?_,λz=>(R.ob.owned z).2.1 hp⟩⟩ q;obtain⟨a,us,e1,e2,_⟩:=R.own j ys e;rw[e1]at z;cases z;rw[hp]at e2;cases e2
theorem Goes.tup{Y:bI}{F:Hp}{ao:Sd}{σ:St}{Qd:EV->Prop}{Q:VK}(g:Goes Y F ao σ Qd Q){H:Hp}(R:RS Y F ao σ H){vs:List V}{xs:List D}(r:aG F vs xs)(q:Qd (.val (.tup xs))):∀p,H p=none->Q (.ref p) (upd H p (.tup vs)):=λp hp=>by
 have sm:=aJ (o:=.tup vs) (same_none R.fr hp);exact g (.ref p) _ _ (.val (.tup xs)) sm (R.alloc hp) (.tup ay (r.mono sm)) q
def gh(r:R2)(f:D->D->(EV->Prop)->Prop):Prop:=
 ∀Y F H ao σ v u x y Qd Q,RS Y F ao σ H->cB F H v x->cB F H u y->f x y Qd->Goes Y F ao σ Qd Q->r v u H Q
def a7(f:D->D->(EV->Prop)->Prop)(ta tb:TV):TX:=λσ Q=>ta σ λx aA=>tb aA λy bu=>match fh bu x,fh bu y with
 | some a,some b=>f a b λr=>Q r bu
 | _,_=>False
theorem vm.mono{F F':Hp}(s:aw F F'){σ:St}{v:V}{x:OV}(r:vm F σ v x):vm F' σ v x:=by
 cases x with
 | val d=>exact Rep.mono s r
 | var i=>exact r
 | any=>trivial
theorem wm{Y:bI}{r:R2}{f:D->D->(EV->Prop)->Prop}(hs:gh r f){ta tb:TV}{σ:St}{H:Hp}{Q:VK}(q:lX Y (a7 f ta tb) σ H Q):Ti r (lO Y ta) (lO Y tb) σ H Q:=by
 obtain⟨F,ao,Qd,R,q,K⟩:=q;refine⟨F,ao,_,R,q,λv1 H1 F1 x aA s1 R1 r1 q1=>?_⟩;refine⟨F1,aA,_,R1,q1,λv2 H2 F2 y bu s2 R2 r2 q2=>?_⟩
 split at q2
 ·rename_i a b ea eb
  exact hs Y F2 H2 bu σ v1 v2 a b _ Q R2 (R2.fh (r1.mono s2) ea) (R2.fh r2 eb) q2 λv H' F' r s R' rr qq=>K v H' F' r bu ((s1.trans s2).trans s) R' rr qq
 ·exact q2.elim
theorem nk{op:Operator}{f:D->D->(EV->Prop)->Prop}{r:PySem.W.Frag->R2}(ho:∀X,gI X (binaryOp op) (r X.K))(hs:∀K,gh (r K) f){a b:Expr}{ta tb:TV}{pos:Pos}(ha:EO G k S a ta)(hb:EO G k S b tb):
  EX G k S (.BinOp a op b pos) (a7 f ta tb):=.mk λX Y ok=>bb (Xf (ho X) (ha X Y ok) (hb X Y ok)) λσ H Q q=>wm (hs X.K) q
def eC:D->D->(EV->Prop)->Prop
 | .int i,.int j,Q=>Q (.val (.int (i+j)))
 | .str a,.str b,Q=>a.length+b.length<=sizeLine/\Q (.val (.str (a++b)))
 | .lst a,.lst b,Q=>a.length+b.length<=sizeLine/\Q (.own (a++b))
 | .tup a,.tup b,Q=>(a≠[]/\a.length+b.length<=sizeLine)/\Q (.val (.tup (a++b)))
 | _,_,_=>False
def JX:R2:=λx y H Q=>∃l b xs zs,x=.ref l/\y=.ref b/\Rd H l (.lst xs)/\Rd H b (.lst zs)/\xs.length+zs.length<=sizeLine/\∀p,H p=none->Q (.ref p) (upd H p (.lst (xs++zs)))
theorem Inv.rdL{X:Cx}{pins:List (Addr×Obj)}{σ:St}{H:Hp}{s:Shared}{l:Addr}{xs:List V}(I:L2.Inv X pins σ H s)(h:Rd H l (.lst xs)):
  xs.length<=sizeLine/\∃(its:List Value) (n:Nat),Vals xs its/\xs.length=its.length/\s.heap.get? l=some {cls:=.type "list",data:=.seq its.toArray n}:=by
 obtain⟨z,its,n,r,e⟩:=L2.Rd.ok h I.bC;exact⟨z,its,n,r,r.length,e⟩
theorem Hd{X:Cx}:gI X (binaryOp .Add) JX:=by
 intro pins s σ H x y v u Q I rx ry h;obtain⟨l,b,xs,zs,rfl,rfl,hH,hB,hz,q⟩:=h;cases rx;cases ry;obtain⟨z,its,n,r,hl,e⟩:=Inv.rdL I hH;obtain⟨z2,tQ,n2,r2,GJ,e2⟩:=Inv.rdL I hB;refine PySem.P.add_list e e2 ?_ (by rw[List.size_toArray,List.size_toArray];omega)
 have ea:its.toArray++tQ.toArray=(its++tQ).toArray:=by simp
 rw[ea];exact⟨.ref _,_,I.N0 (t':=s.toks) (r.append r2) (by rw[List.length_append];omega),rfl,q _ I.fresh⟩
def HE(K:PySem.W.Frag):R2:=λx y H Q=>(∃i j,x=.int i/\y=.int j/\Q (.int (i+j)) H)\/(∃i j,x=.str i/\y=.str j/\i.length+j.length<=sizeLine/\Q (.str (i++j)) H)\/JX x y H Q\/JY K x y H Q
theorem yQ{X:Cx}:gI X (binaryOp .Add) (HE X.K):=Pj.or (vX.or (Hd.or He))
theorem ye(K:PySem.W.Frag):gh (HE K) eC:=by
 intro Y F H ao σ v u x y Qd Q R rx ry q g;unfold eC at q
 split at q
 ·obtain rfl:=rx.int;obtain rfl:=ry.int
  exact .inl ⟨_,_,rfl,rfl,g.val R (.int _) q⟩
 ·obtain rfl:=rx.str;obtain rfl:=ry.str
  exact .inr (.inl ⟨_,_,rfl,rfl,q.1,g.val R (.str _) q.2⟩)
 ·obtain⟨a,vs,rfl,h1,r1⟩:=rx.lst;obtain⟨b,us,rfl,h2,r2⟩:=ry.lst
  exact .inr (.inr (.inl ⟨a,b,vs,us,rfl,rfl,h1,h2,by rw[r1.length,r2.length];exact q.1,g.own R (r1.append r2) q.2⟩))
 ·have rx':=rx
  obtain⟨a,vs,rfl,h1,r1⟩:=rx.tup R.fr;obtain⟨b,us,rfl,h2,r2⟩:=ry.tup R.fr;refine .inr (.inr (.inr ⟨a,b,vs,us,rfl,rfl,.of h1,.of h2,λz=>?_,by rw[r1.length,r2.length];exact q.1.2,λz=>?_,λ_=>g.tup R (r1.append r2) q.2⟩))
  ·subst z
   cases r1;exact q.1.1 rfl
  ·subst z
   cases r2;rw[List.append_nil]at q;exact g.val R rx' q.2
 ·exact q.elim
theorem dA{a b:Expr}{ta tb:TV}{pos:Pos}(ha:EO G k S a ta)(hb:EO G k S b tb):EX G k S (.BinOp a .Add b pos) (a7 eC ta tb):=nk (r:=HE) (λ_=>yQ) ye ha hb
def Nf(C:Int->Int->Prop)(g:Int->Int->Int):D->D->(EV->Prop)->Prop
 | .int i,.int j,Q=>C i j/\Q (.val (.int (g i j)))
 | _,_,_=>False
theorem iX{C:Int->Int->Prop}{g:Int->Int->Int}:gh (rI C λi j=>.int (g i j)) (Nf C g):=by
 intro Y F H ao σ v u x y Qd Q R rx ry q gg;unfold Nf at q
 split at q
 ·obtain rfl:=rx.int;obtain rfl:=ry.int
  exact⟨_,_,rfl,rfl,q.1,gg.val R (.int _) q.2⟩
 ·exact q.elim
def GU(g:Int->Int->Int):D->D->(EV->Prop)->Prop
 | .int i,.int j,Q=>Q (.val (.int (g i j)))
 | _,_,_=>False
theorem yC{g:Int->Int->Int}:gh (FC λi j=>.int (g i j)) (GU g):=by
 intro Y F H ao σ v u x y Qd Q R rx ry q gg;unfold GU at q
 split at q
 ·obtain rfl:=rx.int;obtain rfl:=ry.int
  exact⟨_,_,rfl,rfl,gg.val R (.int _) q⟩
 ·exact q.elim
section
variable {a b:Expr}{ta tb:TV}{pos:Pos}
def il:=GU λi j=>i-j
def qy:=Nf (λ_ j=>0<j) λi j=>i%j
def qF:=Nf nU λi j=>i^j.toNat
theorem eY(ha:EO G k S a ta)(hb:EO G k S b tb):EX G k S (.BinOp a .Sub b pos) (a7 il ta tb):=nk (r:=λ_=>_) (λ_=>Pr) (λ_=>yC) ha hb
theorem nq(ha:EO G k S a ta)(hb:EO G k S b tb):EX G k S (.BinOp a .Mod b pos) (a7 qy ta tb):=nk (r:=λ_=>_) (λ_=>Pm) (λ_=>iX) ha hb
theorem nr(ha:EO G k S a ta)(hb:EO G k S b tb):EX G k S (.BinOp a .Pow b pos) (a7 qF ta tb):=nk (r:=λ_=>_) (λ_=>Pq) (λ_=>iX) ha hb
end
def kF:D->D->(EV->Prop)->Prop
 | .int i,.int j,Q=>lx i j/\Q (.val (.int (i*j)))
 | .lst xs,.int j,Q=>(-(2^63)<=j/\j<2^63/\xs.length*j.toNat<=sizeLine)/\Q (.own (List.replicate j.toNat xs).flatten)
 | _,_,_=>False
def JZ:R2:=λx y H Q=>∃l k xs,x=.ref l/\y=.int k/\Rd H l (.lst xs)/\-(2^63)<=k/\k<2^63/\xs.length*k.toNat<=sizeLine /\
 ∀p,H p=none->Q (.ref p) (upd H p (.lst (List.replicate k.toNat xs).flatten))
theorem Hj{X:Cx}:gI X (binaryOp .Mult) JZ:=by
 intro pins s σ H x y v u Q I rx ry h;obtain⟨l,k,xs,rfl,rfl,hH,h1,h2,hz,q⟩:=h;cases rx;obtain⟨t,rfl⟩:=ry;obtain⟨z,its,n,r,hl,e⟩:=Inv.rdL I hH;have hlen:its.toArray.size*k.toNat<=sizeLine:=by rw[List.size_toArray,<- hl];exact hz
 have vM:¬its.toArray.size*k.toNat>(2^63-1)/8:=by
  have:(sizeLine:Nat)<=(2^63-1)/8:=by decide
  omega
 have ZV:¬(!Builtin.List.listFitsIndex k)=true:=by
  rw[fitsIndex_both h1 h2];exact Bool.false_ne_true
 have CI:¬Builtin.List.listTooLong (its.toArray.size*k.toNat)=true:=by
  rw[uq hlen];exact Bool.false_ne_true
 have CK:List.foldl (λx1 x2=>x1++x2) #[] (List.replicate (if its.toArray.isEmpty=true then 0 else k.toNat) its.toArray)=(List.replicate k.toNat its).flatten.toArray:=by
  have f0:∀m:Nat,List.foldl (λx1 x2=>x1++x2) #[] (List.replicate m its.toArray)=(List.replicate m its).flatten.toArray:=λm=>by
   have:=foldl_rep its m [];rw[List.nil_append]at this;exact this
  rw[f0];cases its with
  | nil=>simp
  | cons a r'=>rw[if_neg (by simp)]
 refine wpAny_binaryOp_repeat_ref (T:="list") (U:="int") ∅ ⟨_,e,rfl⟩ (λs'=>typeIs_int s' k t) noFill_list_mul F.fills_int_mul F.slot_int_rmul repeat_list F.slot_int_index.lookup
  (call_meets F.slot_int_rmul (typeIs_int s k t) F.entry_int_rmul (F.args_int_rmul_2 _ _) (int___rmul___int_list k t l its.toArray n)
   ⟨e,rfl,⟨_,e,rfl⟩,call_meets F.slot_list_mul ⟨_,e,rfl⟩ F.entry_list_mul (F.args_list_mul_2 _ _) (AutoListH.list___mul___list_int_3 l its.toArray n k t ZV vM CI) ⟨e,?_⟩⟩)
 rw[CK];exact⟨.ref _,_,I.N0 (t':=s.toks) (r.rep k.toNat) (by rw[len_rep,Nat.mul_comm];exact hz),rfl,q _ I.fresh⟩
def Xx:R2:=λx y H Q=>rI lx (λi j=>.int (i*j)) x y H Q\/JZ x y H Q
theorem yO:gh Xx kF:=by
 intro Y F H ao σ v u x y Qd Q R rx ry q g;unfold kF at q
 split at q
 ·obtain rfl:=rx.int;obtain rfl:=ry.int
  exact .inl ⟨_,_,rfl,rfl,q.1,g.val R (.int _) q.2⟩
 ·obtain⟨a,vs,rfl,h1,r1⟩:=rx.lst;obtain rfl:=ry.int
  exact .inr ⟨a,_,vs,rfl,rfl,h1,q.1.1,q.1.2.1,by rw[r1.length];exact q.1.2.2,g.own R (r1.rep _) q.2⟩
 ·exact q.elim
theorem jf{a b:Expr}{ta tb:TV}{pos:Pos}(ha:EO G k S a ta)(hb:EO G k S b tb):EX G k S (.BinOp a .Mult b pos) (a7 kF ta tb):=nk (r:=λ_=>Xx) (λ_=>Pn.or Hj) (λ_=>yO) ha hb
def RX(t:TV):TV:=λσ Q=>t σ λx aA=>match fh aA x with
 | some (.int i)=>Q (.val (.int (-i))) aA
 | _=>False
theorem J0{a:Expr}{ta:TV}{pos:Pos}(ha:EO G k S a ta):EO G k S (.UnaryOp .USub a pos) (RX ta):=.mk λX Y ok=>bb (Xg Sz (ha X Y ok)) λσ H Q q=>by
 obtain⟨F,ao,Qd,R,q,K⟩:=q;refine⟨F,ao,_,R,q,λv1 H1 F1 x aA s1 R1 r1 q1=>?_⟩
 split at q1
 ·rename_i i e
  obtain rfl:=(R1.fh r1 e).int;exact⟨i,rfl,K _ H1 F1 (.val (.int (-i))) aA s1 R1 (.int _) q1⟩
 ·exact q1.elim
end Vc
namespace Vc
open PySem L2
variable [KF]
variable {G:GE}{k:Nat}{S:Stat}
mutual
def fD:D->D->Bool
 | .aX,.aX=>true
 | .bl a,.bl b=>a==b
 | .bl a,.int j=>(if a then 1 else 0)==j
 | .int i,.bl b=>i==(if b then 1 else 0)
 | .int i,.int j=>i==j
 | .str x,.str y=>x==y
 | .lst xs,.lst ys=>ku xs ys
 | .tup xs,.tup ys=>ku xs ys
 | _,_=>false
def ku:List D->List D->Bool
 | [],[]=>true
 | x::xs,y::ys=>fD x y&&ku xs ys
 | _,_=>false
end
def bG:Nat->D->Bool
 | _,.aX=>true
 | _,.bl _=>true
 | _,.int _=>true
 | _,.str x=>x.cps.all (· < 0x110000)
 | n+1,.tup xs=>xs.all (bG n)
 | n+1,.lst xs=>xs.all (bG n)
 | _,_=>false
mutual
def toPy:D->PyData
 | .aX=>.none
 | .bl b=>.bool b
 | .int i=>.int i
 | .str x=>.str x
 | .tup xs=>.tuple (fG xs)
 | .lst xs=>.list (fG xs)
 | _=>.none
def fG:List D->List PyData
 | []=>[]
 | x::xs=>toPy x::fG xs
end
theorem qd{n m:Nat}(ih:∀x y,bG n x=true->bG m y=true->fD x y=PyData.eqv (toPy x) (toPy y)):∀xs ys:List D,xs.all (bG n)=true->ys.all (bG m)=true->ku xs ys=PyData.eqvAll (fG xs) (fG ys)
 | [],[],_,_=>rfl
 | [],_::_,_,_=>rfl
 | _::_,[],_,_=>rfl
 | x::xs,y::ys,h1,h2=>by
  rw[List.all_cons,Bool.and_eq_true]at h1 h2;show(fD x y&&ku xs ys)=(PyData.eqv (toPy x) (toPy y)&&PyData.eqvAll (fG xs) (fG ys));rw[ih x y h1.1 h2.1,qd ih xs ys h1.2 h2.2]
theorem vF:∀(n m:Nat) (x y:D),bG n x=true->bG m y=true->fD x y=PyData.eqv (toPy x) (toPy y):=by
 intro n
 induction n with
 | zero =>
  intro m x y h1 h2;cases x with
  | tup _=>exact absurd h1 (by simp [bG])
  | lst _=>exact absurd h1 (by simp [bG])
  | dct _=>exact absurd h1 (by simp [bG])
  | exc _=>exact absurd h1 (by simp [bG])
  | gw _=>exact absurd h1 (by simp [bG])
  | sE _=>exact absurd h1 (by simp [bG])
  | kp _ _ _ _=>exact absurd h1 (by simp [bG])
  | _=>cases y<;>first|rfl | (cases m<;>exact absurd h2 (by simp [bG]))
 | succ n ih =>
  intro m x y h1 h2;cases x with
  | tup xs =>
   cases y with
   | tup ys =>
    cases m with
    | zero=>exact absurd h2 (by simp [bG])
    | succ m=>exact qd (ih m) xs ys h1 h2
   | _=>first|rfl | (cases m<;>exact absurd h2 (by simp [bG]))
  | lst xs =>
   cases y with
   | lst ys =>
    cases m with
    | zero=>exact absurd h2 (by simp [bG])
    | succ m=>exact qd (ih m) xs ys h1 h2
   | _=>first|rfl | (cases m<;>exact absurd h2 (by simp [bG]))
  | dct _=>exact absurd h1 (by simp [bG])
  | exc _=>exact absurd h1 (by simp [bG])
  | gw _=>exact absurd h1 (by simp [bG])
  | sE _=>exact absurd h1 (by simp [bG])
  | kp _ _ _ _=>exact absurd h1 (by simp [bG])
  | _=>cases y<;>first|rfl | (cases m<;>exact absurd h2 (by simp [bG]))
theorem hW{n:Nat}(ih:∀x,bG n x=true->(toPy x).canLay0=true/\(toPy x).depth<=n):∀xs:List D,xs.all (bG n)=true->PyData.canLayAll0 (fG xs)=true/\PyData.depthAll (fG xs)<=n
 | [],_=>⟨rfl,Nat.zero_le _⟩
 | x::xs,h=>by
  rw[List.all_cons,Bool.and_eq_true]at h;have h1:=ih x h.1;have h2:=hW ih xs h.2;refine⟨?_,?_⟩
  ·show((toPy x).canLay0&&PyData.canLayAll0 (fG xs))=true
   rw[h1.1,h2.1];rfl
  ·show max (toPy x).depth (PyData.depthAll (fG xs))<=n
   exact Nat.max_le.mpr ⟨h1.2,h2.2⟩
theorem Hb:∀(n:Nat) (x:D),bG n x=true->(toPy x).canLay0=true/\(toPy x).depth<=n:=by
 intro n
 induction n with
 | zero =>
  intro x h;cases x with
  | tup _=>exact absurd h (by simp [bG])
  | lst _=>exact absurd h (by simp [bG])
  | dct _=>exact absurd h (by simp [bG])
  | exc _=>exact absurd h (by simp [bG])
  | gw _=>exact absurd h (by simp [bG])
  | sE _=>exact absurd h (by simp [bG])
  | kp _ _ _ _=>exact absurd h (by simp [bG])
  | _=>first|exact⟨rfl,Nat.zero_le _⟩ | (exact⟨by simpa [bG,toPy,PyData.canLay0,PyData.strOk]using h,Nat.zero_le _⟩)
 | succ n ih =>
  intro x h;cases x with
  | tup xs =>
   have:=hW ih xs h;exact⟨this.1,Nat.succ_le_succ this.2⟩
  | lst xs =>
   have:=hW ih xs h;exact⟨this.1,Nat.succ_le_succ this.2⟩
  | dct _=>exact absurd h (by simp [bG])
  | exc _=>exact absurd h (by simp [bG])
  | gw _=>exact absurd h (by simp [bG])
  | sE _=>exact absurd h (by simp [bG])
  | kp _ _ _ _=>exact absurd h (by simp [bG])
  | _=>first|exact⟨rfl,Nat.zero_le _⟩ | (exact⟨by simpa [bG,toPy,PyData.canLay0,PyData.strOk]using h,Nat.zero_le _⟩)
section
variable {P:Program}{w:World}{F H:Hp}{h:Heap}
mutual
theorem Rep.reads(ok:fe P w H h)(s:aw F H):∀ {v:V} {d:D} {u:Value} (n:Nat),Rep F v d->RelV v u->bG n d=true->∃as,Reads h u (toPy d) as
 | _,_,_,_,.aX,e,_=>by cases e;exact⟨_,.none⟩
 | _,_,_,_,.bl b,e,_=>by cases e;exact⟨_,.bool b⟩
 | _,_,_,_,.int i,e,_=>by obtain⟨t,rfl⟩:=e;exact⟨_,.int i t⟩
 | _,_,_,_,.str x,e,_=>by obtain⟨t,rfl⟩:=e;exact⟨_,.str x t⟩
 | _,_,_,0,.tup _ _,_,o=>by exact absurd o (by simp [bG])
 | _,_,_,0,.lst _ _,_,o=>by exact absurd o (by simp [bG])
 | _,_,_,n+1,.tup (a:=a) (vs:=vs) hf r,e,o=>by
  cases e;obtain⟨_,its,rv,ob,ho,hc,m,hd⟩:=ok a _ (s a _ hf);obtain⟨as,q⟩:=aG.reads ok s n r rv o;exact⟨as,.tuple ho hc hd q⟩
 | _,_,_,n+1,.lst (a:=a) (vs:=vs) hf r,e,o=>by
  cases e;obtain⟨_,its,m,rv,ho⟩:=L2.Rd.ok (Rd.mono s hf) ok;obtain⟨as,q⟩:=aG.reads ok s n r rv o;exact⟨_,.list ho rfl rfl q⟩
 | _,_,_,n,.gw _,_,o=>by cases n<;>exact absurd o (by simp [bG])
 | _,_,_,n,.exc _,_,o=>by cases n<;>exact absurd o (by simp [bG])
 | _,_,_,n,.vD _ _,_,o=>by cases n<;>exact absurd o (by simp [bG])
 | _,_,_,n,.sE _ _,_,o=>by cases n<;>exact absurd o (by simp [bG])
 | _,_,_,n,.kp _ _ _,_,o=>by cases n<;>exact absurd o (by simp [bG])
theorem aG.reads(ok:fe P w H h)(s:aw F H):∀ {vs:List V} {ds:List D} {us:List Value} (n:Nat),aG F vs ds->Vals vs us->ds.all (bG n)=true->∃as,ReadsAll h us (fG ds) as
 | _,_,_,_,.nil,.nil,_=>⟨_,.nil⟩
 | _,_,_,n,.cons r t,.cons e f,o=>by
  rw[List.all_cons,Bool.and_eq_true]at o;obtain⟨as,h1⟩:=Rep.reads ok s n r e o.1;obtain⟨bs,h2⟩:=aG.reads ok s n t f o.2;exact⟨_,.cons h1 h2⟩
end
theorem cB.reads(ok:fe P w H h)(s:aw F H){v:V}{d:D}{u:Value}(r:cB F H v d)(e:RelV v u)(o:bG 8 d=true):∃as,Reads h u (toPy d) as:=by
 cases d with
 | lst xs =>
  obtain⟨a,vs,rfl,hf,r⟩:=r;cases e;obtain⟨_,its,n,rv,ho⟩:=L2.Rd.ok hf ok;obtain⟨as,q⟩:=aG.reads ok s 7 r rv o;exact⟨_,.list ho rfl rfl q⟩
 | sE _=>exact absurd o (by simp [bG])
 | kp _ _ _ _=>exact absurd o (by simp [bG])
 | _=>exact Rep.reads ok s 8 r e o
end
theorem dY{x:D}(h:bG 8 x=true):PySem.SeqAt.shaped (toPy x)=true:=by
 obtain⟨h1,h2⟩:=Hb 8 x h;unfold PySem.SeqAt.shaped;rw[h1,decide_eq_true ⋯];rfl
def HG(neg:Bool):R2:=λv u H Q=>∃F x y,aw F H/\cB F H v x/\cB F H u y/\bG 8 x=true/\bG 8 y=true/\Q (.bl (if neg then !fD x y else fD x y)) H
theorem Pk{X:Cx}(hu:X.A.units+64<cLine):gI X (compareOp .Eq) (HG false):=by
 intro pins s σ H v u v' u' Q I rv ru h;obtain⟨F,x,y,sm,rx,ry,ox,oy,q⟩:=h;obtain⟨as,r1⟩:=rx.reads I.bC sm rv ox;obtain⟨bs,r2⟩:=ry.reads I.bC sm ru oy;refine PyProof.Rows.eq_dataH r1 r2 (dY ox) (dY oy) hu ⟨.bl (fD x y),H,I,?_,q⟩;rw[vF 8 8 x y ox oy];rfl
theorem Pp{X:Cx}(hu:X.A.units+64<cLine):gI X (compareOp .NotEq) (HG true):=by
 intro pins s σ H v u v' u' Q I rv ru h;obtain⟨F,x,y,sm,rx,ry,ox,oy,q⟩:=h;obtain⟨as,r1⟩:=rx.reads I.bC sm rv ox;obtain⟨bs,r2⟩:=ry.reads I.bC sm ru oy;refine PyProof.Rows.ne_dataH r1 r2 (dY ox) (dY oy) hu ⟨.bl (!fD x y),H,I,?_,q⟩;rw[vF 8 8 x y ox oy];rfl
end Vc
namespace Vc
open PySem L2
variable [KF]
variable {G:GE}{k:Nat}{S:Stat}
def mx(r:R2)(f:D->D->(Bool->Prop)->Prop):Prop:=
 ∀Y F H ao σ v u x y (Qd:Bool->Prop) (Q:VK),RS Y F ao σ H->cB F H v x->cB F H u y->f x y Qd->(∀b,Qd b->Q (.bl b) H)->r v u H Q
def aS(f:D->D->(Bool->Prop)->Prop)(ta tb:TV):TB:=λσ Q=>ta σ λx aA=>tb aA λy bu=>match fh bu x,fh bu y with
 | some a,some b=>f a b λr=>Q r bu
 | _,_=>False
def bV(t:TB):TV:=λσ Q=>t σ λb aA=>Q (.val (.bl b)) aA
theorem oJ{Y:bI}{r:R2}{f:D->D->(Bool->Prop)->Prop}(hs:mx r f){ta tb:TV}{σ:St}{H:Hp}{Q:VK}{F:Hp}{ao:Sd}{Qd:Bool->Sd->Prop}(R:RS Y F ao σ H)(q:aS f ta tb ao Qd)
  (K:∀b H' F' aR,aw F F'->RS Y F' aR σ H'->Qd b aR->Q (.bl b) H'):Ti r (lO Y ta) (lO Y tb) σ H Q:=by
 refine⟨F,ao,_,R,q,λv1 H1 F1 x aA s1 R1 r1 q1=>?_⟩;refine⟨F1,aA,_,R1,q1,λv2 H2 F2 y bu s2 R2 r2 q2=>?_⟩
 split at q2
 ·rename_i a b ea eb
  exact hs Y F2 H2 bu σ v1 v2 a b _ Q R2 (R2.fh (r1.mono s2) ea) (R2.fh r2 eb) q2 λc qc=>K c H2 F2 bu (s1.trans s2) R2 qc
 ·exact q2.elim
def mw(G:GE)(k:Nat)(S:Stat)(op:CmpOp)(f:D->D->(Bool->Prop)->Prop):Prop:=∃r:R2,(∀X Y,dD X G k S Y->gI X (compareOp op) r)/\mx r f
theorem aV{op:CmpOp}{f:D->D->(Bool->Prop)->Prop}(h:mw G k S op f){a b:Expr}{ta tb:TV}{pos:Pos}(ha:EO G k S a ta)(hb:EO G k S b tb)(hm:behindInMarks op b=false:=by first|exact Dm _|with_unfolding_all rfl):
  EB G k S (.Compare a [op] [b] pos) (aS f ta tb):=.mk λX Y ok=>by
 obtain⟨r,ho,hs⟩:=h;refine v7 (HB (ho X Y ok) (ha X Y ok) (hb X Y ok) hm) λσ H Q q=>?_;obtain⟨F,ao,Qd,R,q,K⟩:=q;exact oJ hs R q λb H' F' aR s R' qq=>⟨b,rfl,K b H' F' aR s R' qq⟩
theorem fE{op:CmpOp}{f:D->D->(Bool->Prop)->Prop}(h:mw G k S op f){a b:Expr}{ta tb:TV}{pos:Pos}(ha:EO G k S a ta)(hb:EO G k S b tb)(hm:behindInMarks op b=false:=by first|exact Dm _|with_unfolding_all rfl):
  EO G k S (.Compare a [op] [b] pos) (bV (aS f ta tb)):=.mk λX Y ok=>by
 obtain⟨r,ho,hs⟩:=h;refine bb (Hq (ho X Y ok) (ha X Y ok) (hb X Y ok) hm) λσ H Q q=>?_;obtain⟨F,ao,Qd,R,q,K⟩:=q;exact oJ hs R q λb H' F' aR s R' qq=>K _ H' F' (.val (.bl b)) aR s R' (.bl b) qq
def eqT(x y:D)(Q:Bool->Prop):Prop:=(bG 8 x=true/\bG 8 y=true)/\Q (fD x y)
def neT(x y:D)(Q:Bool->Prop):Prop:=(bG 8 x=true/\bG 8 y=true)/\Q (!fD x y)
theorem iD:mw G k S .Eq eqT:=⟨HG false,λX Y ok=>Pk ok.units,λY F H ao σ v u x y Qd Q R rx ry q K=>⟨F,x,y,R.fr,rx,ry,q.1.1,q.1.2,K _ q.2⟩⟩
theorem km:mw G k S .NotEq neT:=⟨HG true,λX Y ok=>Pp ok.units,λY F H ao σ v u x y Qd Q R rx ry q K=>⟨F,x,y,R.fr,rx,ry,q.1.1,q.1.2,K _ q.2⟩⟩
def Ng(p:Int->Int->Bool):D->D->(Bool->Prop)->Prop
 | .int i,.int j,Q=>Q (p i j)
 | _,_,_=>False
theorem gn{p:Int->Int->Bool}:mx (FC λi j=>.bl (p i j)) (Ng p):=λY F H ao σ v u x y Qd Q R rx ry q K=>by
 unfold Ng at q
 split at q
 ·obtain rfl:=rx.int;obtain rfl:=ry.int
  exact⟨_,_,rfl,rfl,K _ q⟩
 ·exact q.elim
def Fz:=Ng λi j=>decide (i<j)
def YG:=Ng λi j=>decide (i<=j)
def SV:=Ng λi j=>decide (j<i)
def SU:=Ng λi j=>decide (j<=i)
theorem yh:mw G k S .Lt Fz:=⟨_,λ_ _ _=>W3,gn⟩
theorem Uj:mw G k S .LtE YG:=⟨_,λ_ _ _=>W2,gn⟩
theorem FW:mw G k S .Gt SV:=⟨_,λ_ _ _=>W0,gn⟩
theorem FV:mw G k S .GtE SU:=⟨_,λ_ _ _=>WZ,gn⟩
def isNone:D->Bool
 | .aX=>true
 | _=>false
def S9(x y:D)(Q:Bool->Prop):Prop:=isNone y=true/\Q (isNone x)
def vQ(x y:D)(Q:Bool->Prop):Prop:=isNone y=true/\Q (!isNone x)
theorem cB.isNone{F H:Hp}{v:V}{x:D}(r:cB F H v x):decide (v=.aX)=isNone x:=by
 cases x with
 | lst xs=>obtain⟨a,vs,rfl,_⟩:=r;rfl
 | dct _=>cases(show Rep F v (.dct _)from r);rfl
 | exc _=>cases(show Rep F v (.exc _)from r);rfl
 | gw _=>cases(show Rep F v (.gw _)from r);rfl
 | sE _=>obtain⟨a,ks,rfl,_⟩:=r;rfl
 | kp _ _ _ _=>obtain⟨a,dx,ad,ks,rfl,_⟩:=r;rfl
 | aX=>obtain rfl:=r.aX;rfl
 | bl _=>obtain rfl:=r.bl;rfl
 | int _=>obtain rfl:=r.int;rfl
 | str _=>obtain rfl:=r.str;rfl
 | tup _=>cases(show Rep F v (.tup _)from r);rfl
theorem cB.Dp{F H:Hp}{v:V}{x:D}(r:cB F H v x)(h:Vc.isNone x=true):v=.aX:=by
 cases x<;>first|exact r.aX|cases h
theorem FX:mw G k S .Is S9:=⟨_,λ_ _ _=>Pl,λY F H ao σ v u x y Qd Q R rx ry q K=>⟨ry.Dp q.1,by rw[rx.isNone];exact K _ q.2⟩⟩
theorem sr:mw G k S .IsNot vQ:=⟨_,λ_ _ _=>Hh,λY F H ao σ v u x y Qd Q R rx ry q K=>⟨ry.Dp q.1,by rw[rx.isNone];exact K _ q.2⟩⟩
def Sv:D->(Bool->Prop)->Prop
 | .aX,Q=>Q false
 | .bl b,Q=>Q b
 | .int i,Q=>Q (i != 0)
 | .lst xs,Q=>Q (!xs.isEmpty)
 | .tup xs,Q=>Q (!xs.isEmpty)
 | _,_=>False
def kS(t:TV):TB:=λσ Q=>t σ λx aA=>match fh aA x with
 | some d=>Sv d λb=>Q b aA
 | none=>False
theorem iY{F:Hp}{vs:List V}{xs:List D}(r:aG F vs xs):(!xs.isEmpty)=!vs.isEmpty:=by cases r<;>rfl
theorem eO{e:Expr}{t:TV}(h:EO G k S e t)(he:∀env whole,isTrue e env whole=(do let v <- whole;standAt e.pos;holding [v] (truthy v)):=by intro _ _;rfl):EB G k S e (kS t):=.mk λX Y ok=>by
 refine v7 (DX (h X Y ok) (he _)) λσ H Q q=>?_;obtain⟨F,ao,Qd,R,q,K⟩:=q;refine⟨F,ao,_,R,q,λv1 H1 F1 x aA s1 R1 r1 q1=>?_⟩
 split at q1
 ·rename_i d ed
  have r:=R1.fh r1 ed;unfold Sv at q1
  split at q1
  ·obtain rfl:=r.aX;exact⟨false,rfl,K _ H1 F1 aA s1 R1 q1⟩
  ·rename_i b;obtain rfl:=r.bl;exact⟨b,rfl,K _ H1 F1 aA s1 R1 q1⟩
  ·rename_i i;obtain rfl:=r.int;exact⟨_,rfl,K _ H1 F1 aA s1 R1 q1⟩
  ·rename_i xs;obtain⟨a,vs,rfl,h1,h2⟩:=r.lst
   exact⟨!xs.isEmpty,.inl ⟨vs,.inl h1,iY h2⟩,K _ H1 F1 aA s1 R1 q1⟩
  ·rename_i xs;obtain⟨a,vs,rfl,h1,h2⟩:=r.tup R1.fr
   exact⟨!xs.isEmpty,.inr (.inl ⟨vs,.inl (.inl h1),iY h2⟩),K _ H1 F1 aA s1 R1 q1⟩
  ·exact q1.elim
 ·exact q1.elim
def eo(t u:TB):TB:=λσ Q=>t σ λc aA=>if c=true then u aA Q else Q false aA
def lN(t u:TB):TB:=λσ Q=>t σ λc aA=>if c=true then Q true aA else u aA Q
def dM(t:TB):TB:=λσ Q=>t σ λc aA=>Q (!c) aA
structure EW(G:GE)(k:Nat)(S:Stat)(e:Expr)(t:TB) :Prop where
 run:∀X Y,dD X G k S Y->PW X e (lB Y t)
instance {G:GE} {k:Nat} {S:Stat} {e:Expr} {t:TB} :CoeFun (EW G k S e t) λ_=>∀X Y,dD X G k S Y->PW X e (lB Y t):=⟨EW.run⟩
theorem pw_imp{X:Cx}{e:Expr}{t t':TT}(h:PW X e t)(i:∀σ H Q,t' σ H Q->t σ H Q):PW X e t':=λwh pins s σ H Q I q=>h wh pins s σ H Q I (i σ H Q q)
section
variable {a b:Expr}{rest:List Expr}{ta tb:TB}{pos:Pos}
theorem xI(h:EW G k S a ta):EB G k S a ta:=.mk λX Y ok=>(h X Y ok).pt
theorem qH(ha:EB G k S a ta):EW G k S (.BoolOp .And [a] pos) ta:=.mk λX Y ok=>pw_and1 (ha X Y ok)
theorem gS(ha:EB G k S a ta):EW G k S (.BoolOp .Or [a] pos) ta:=.mk λX Y ok=>pw_or1 (ha X Y ok)
theorem pA(ha:EB G k S a ta)(hb:EW G k S (.BoolOp .And (b::rest) pos) tb):EW G k S (.BoolOp .And (a::b::rest) pos) (eo ta tb):=.mk λX Y ok=>pw_imp (pw_and (ha X Y ok) (hb X Y ok)) λσ H Q q=>by
 obtain⟨F,ao,Qd,R,q,K⟩:=q;refine⟨F,ao,_,R,q,λc H1 F1 aA s1 R1 q1=>?_⟩;cases c with
 | true=>exact⟨F1,aA,Qd,R1,q1,λb H' F' aR s R' qq=>K b H' F' aR (s1.trans s) R' qq⟩
 | false=>exact K false H1 F1 aA s1 R1 q1
theorem og(ha:EB G k S a ta)(hb:EW G k S (.BoolOp .Or (b::rest) pos) tb):EW G k S (.BoolOp .Or (a::b::rest) pos) (lN ta tb):=.mk λX Y ok=>pw_imp (pw_or (ha X Y ok) (hb X Y ok)) λσ H Q q=>by
 obtain⟨F,ao,Qd,R,q,K⟩:=q;refine⟨F,ao,_,R,q,λc H1 F1 aA s1 R1 q1=>?_⟩;cases c with
 | false=>exact⟨F1,aA,Qd,R1,q1,λb H' F' aR s R' qq=>K b H' F' aR (s1.trans s) R' qq⟩
 | true=>exact K true H1 F1 aA s1 R1 q1
theorem fv(ha:EB G k S a ta):EB G k S (.UnaryOp .Not a pos) (dM ta):=.mk λX Y ok=>v7 (QE (ha X Y ok)) λσ H Q q=>by
 obtain⟨F,ao,Qd,R,q,K⟩:=q;exact⟨F,ao,_,R,q,λc H1 F1 aA s1 R1 q1=>K _ H1 F1 aA s1 R1 q1⟩
end
structure Fq(G:GE)(k:Nat)(S:Stat)(e:Expr)(t:TB) :Prop where
 run:∀X Y,dD X G k S Y->PE X e (λσ H Q=>lB Y t σ H λb H'=>Q (.bl b) H')
instance {G:GE} {k:Nat} {S:Stat} {e:Expr} {t:TB} :CoeFun (Fq G k S e t) λ_=>∀X Y,dD X G k S Y->PE X e (λσ H Q=>lB Y t σ H λb H'=>Q (.bl b) H'):=⟨Fq.run⟩
section
variable {a b:Expr}{rest:List Expr}{ta tb:TB}{pos:Pos}
def dB(t:TV):TB:=λσ Q=>t σ λx aA=>match fh aA x with
 | some (.bl b)=>Q b aA
 | _=>False
theorem ip{t:TV}(h:EO G k S a t):Fq G k S a (dB t):=.mk λX Y ok=>bb (h X Y ok) λσ H Q q=>by
 obtain⟨F,ao,Qd,R,q,K⟩:=q;refine⟨F,ao,_,R,q,λv1 H1 F1 x aA s1 R1 r1 q1=>?_⟩
 split at q1
 ·rename_i b eb
  obtain rfl:=(R1.fh r1 eb).bl;exact K b H1 F1 aA s1 R1 q1
 ·exact q1.elim
theorem pJ{op:BoolOp}(h:Fq G k S a ta):Fq G k S (.BoolOp op [a] pos) ta:=.mk λX Y ok=>PR (h X Y ok)
theorem v_and(ha:Fq G k S a ta)(hb:Fq G k S (.BoolOp .And (b::rest) pos) tb):Fq G k S (.BoolOp .And (a::b::rest) pos) (eo ta tb):=.mk λX Y ok=>bb (PF (ha X Y ok) (hb X Y ok)) λσ H Q q=>by
 obtain⟨F,ao,Qd,R,q,K⟩:=q;refine⟨F,ao,_,R,q,λc H1 F1 aA s1 R1 q1=>⟨c,rfl,?_⟩⟩;cases c with
 | true=>exact⟨F1,aA,Qd,R1,q1,λb H' F' aR s R' qq=>K b H' F' aR (s1.trans s) R' qq⟩
 | false=>exact K false H1 F1 aA s1 R1 q1
theorem yW(h:Fq G k S a ta):EO G k S a (bV ta):=.mk λX Y ok=>bb (h X Y ok) λσ H Q q=>by
 obtain⟨F,ao,Qd,R,q,K⟩:=q;exact⟨F,ao,_,R,q,λb H1 F1 aA s1 R1 q1=>K _ H1 F1 (.val (.bl b)) aA s1 R1 (.bl b) q1⟩
theorem D5(ha:Fq G k S a ta):EO G k S (.UnaryOp .Not a pos) (bV (dM ta)):=.mk λX Y ok=>bb (PQ (ha X Y ok)) λσ H Q q=>by
 obtain⟨F,ao,Qd,R,q,K⟩:=q;exact⟨F,ao,_,R,q,λc H1 F1 aA s1 R1 q1=>⟨c,rfl,K _ H1 F1 (.val (.bl (!c))) aA s1 R1 (.bl _) q1⟩⟩
end
end Vc
namespace Vc
open PySem L2
variable [KF]
variable {G:GE}{k:Nat}{S:Stat}
theorem aG.lA{F:Hp}{vs:List V}{xs:List D}{i:Int}{d:D}(r:aG F vs xs)(h:L2.lA xs i=some d):∃v,L2.lA vs i=some v/\Rep F v d:=by
 unfold L2.lA at h ⊢;rw[r.length];cases e:xm xs.length i with
 | none=>rw[e]at h;cases h
 | some j =>
  rw[e]at h;exact r.get (i:=j) h
def vR:D->D->(D->Prop)->Prop
 | .lst xs,.int i,Q=>match lA xs i with
  | some d=>Q d
  | none=>False
 | .tup xs,.int i,Q=>match lA xs i with
  | some d=>Q d
  | none=>False
 | .str z,.int i,Q=>z.length<=sizeLine/\match lA z.cps.toList i with
  | some c=>Q (.str ⟨#[c]⟩)
  | none=>False
 | .gw ns,.int i,Q=>match lA ns i with
  | some n=>Q (.int n)
  | none=>False
 | _,_,_=>False
theorem FR{α β:Type}(f:α->β){xs:List α}{i:Int}{a:α}(h:L2.lA xs i=some a):L2.lA (xs.map f) i=some (f a):=by
 unfold L2.lA at h ⊢;rw[List.length_map];cases e:xm xs.length i with
 | none=>rw[e]at h;cases h
 | some j =>
  rw[e]at h;have h:xs[j]?=some a:=h;show(xs.map f)[j]?=_;rw[List.getElem?_map,h];rfl
def er(ta tb:TV):TV:=λσ Q=>ta σ λx aA=>tb aA λy bu=>match fh bu x,fh bu y with
 | some a,some b=>vR a b λr=>Q (.val r) bu
 | _,_=>False
theorem b7{a b:Expr}{ta tb:TV}{pos:Pos}(ha:EO G k S a ta)(hb:EO G k S b tb)(hs:lQ b:=by intro _ _;rfl):EO G k S (.Subscript a b pos) (er ta tb):=.mk λX Y ok =>
 bb (DJ Nk (ha X Y ok) (hb X Y ok) hs) λσ H Q q=>by
  obtain⟨F,ao,Qd,R,q,K⟩:=q;refine⟨F,ao,_,R,q,λv1 H1 F1 x aA s1 R1 r1 q1=>?_⟩;refine⟨F1,aA,_,R1,q1,λv2 H2 F2 y bu s2 R2 r2 q2=>?_⟩
  split at q2
  ·rename_i a b ea eb
   have rx:=R2.fh (r1.mono s2) ea;have ry:=R2.fh r2 eb;have fin:∀ {v d},Rep F2 v d->Qd (.val d) bu->Q v H2:=λr qq=>K _ H2 F2 (.val _) bu (s1.trans s2) R2 r qq;unfold vR at q2
   split at q2
   ·obtain⟨p,vs,rfl,h1,r1⟩:=rx.lst;obtain rfl:=ry.int
    split at q2
    ·rename_i d e
     obtain⟨v,ev,rv⟩:=r1.lA e;exact .inl ⟨p,vs,_,v,rfl,rfl,.inl h1,ev,fin rv q2⟩
    ·exact q2.elim
   ·obtain⟨p,vs,rfl,h1,r1⟩:=rx.tup R2.fr;obtain rfl:=ry.int
    split at q2
    ·rename_i d e
     obtain⟨v,ev,rv⟩:=r1.lA e;exact .inr (.inl ⟨p,vs,_,v,rfl,rfl,.of h1,ev,fin rv q2⟩)
    ·exact q2.elim
   ·obtain rfl:=rx.str;obtain rfl:=ry.int
    obtain⟨hz,q2⟩:=q2
    split at q2
    ·rename_i c e
     exact .inr (.inr ⟨_,_,c,rfl,rfl,hz,e,fin (.str _) q2⟩)
    ·exact q2.elim
   ·rename_i ns i
    have rx:Rep F2 v1 (.gw ns):=rx;obtain rfl:=ry.int;cases rx with
    | gw h =>
     split at q2
     ·rename_i n e
      exact .inl ⟨_,ns.map V.int,_,.int n,rfl,rfl,by rw[ok.kf];exact R2.fr.seq h,FR V.int e,fin (.int _) q2⟩
     ·exact q2.elim
   ·exact q2.elim
  ·exact q2.elim
theorem pB{F:Hp}:∀ns:List Int,aG F (ns.map V.int) (ns.map D.int)
 | []=>.nil
 | n::ns=>.cons (.int n) (pB ns)
theorem cB.gw{F H:Hp}(s:aw F H){v:V}{ns:List Int}(r:cB F H v (.gw ns)):∃a,v=.ref a/\fm KF.K H a (ns.map V.int):=by
 cases(show Rep F v (.gw ns)from r)with
 | gw h=>exact⟨_,rfl,s.seq h⟩
abbrev Kv:=Sd->(Option Int->Sd->Prop)->Prop
def lP(Y:bI)(t:Kv):TO:=λσ H Q=>∃F ao Qd,RS Y F ao σ H/\t ao Qd/\∀o H' F' aR,aw F F'->RS Y F' aR σ H'->Qd o aR->Q o H'
structure SH(G:GE)(k:Nat)(S:Stat)(e:Option Expr)(t:Kv) :Prop where
 run:∀X Y,dD X G k S Y->PO X e (lP Y t)
instance {G:GE} {k:Nat} {S:Stat} {e:Option Expr} {t:Kv} :CoeFun (SH G k S e t) λ_=>∀X Y,dD X G k S Y->PO X e (lP Y t):=⟨SH.run⟩
theorem DT{X:Cx}{e:Option Expr}{t t':TO}(h:PO X e t)(i:∀σ H Q,t' σ H Q->t σ H Q):PO X e t':=λpins s σ H Q I q=>h pins s σ H Q I (i σ H Q q)
def YV:Kv:=λσ Q=>Q none σ
def YW(t:TV):Kv:=λσ Q=>t σ λx aA=>match fh aA x with
 | some (.int i)=>Q (some i) aA
 | _=>False
theorem DB:SH G k S none YV:=.mk λX Y ok=>DT Hw λσ H Q q=>by
 obtain⟨F,ao,Qd,R,q,K⟩:=q;exact K none H F ao (aw.refl _) R q
theorem DC{e:Expr}{t:TV}(h:EO G k S e t):SH G k S (some e) (YW t):=.mk λX Y ok=>DT (Hx (h X Y ok)) λσ H Q q=>by
 obtain⟨F,ao,Qd,R,q,K⟩:=q;refine⟨F,ao,_,R,q,λv1 H1 F1 x aA s1 R1 r1 q1=>?_⟩
 split at q1
 ·rename_i i e
  obtain rfl:=(R1.fh r1 e).int;exact⟨i,rfl,K _ H1 F1 aA s1 R1 q1⟩
 ·exact q1.elim
def cut{α:Type}(xs:List α)(lo hi:Option Int):List α:=(xs.drop (HT.cK xs.length 0 lo)).take (HT.cK xs.length xs.length hi-HT.cK xs.length 0 lo)
theorem aG.cut{F:Hp}{vs:List V}{xs:List D}(r:aG F vs xs)(lo hi:Option Int):aG F (sD vs lo hi) (cut xs lo hi):=by
 unfold sD Vc.cut;rw[r.length];exact(r.drop _).take _
def tN:fo:=λσ Q=>Q [] σ
def aL(t:TD)(u:fo):fo:=λσ Q=>t σ λx aA=>u aA λxs bu=>Q (x::xs) bu
theorem aB:wG G k S [] tN:=.mk λX Y ok=>qC cZ λσ H Q q=>by
 obtain⟨F,ao,Qd,R,q,K⟩:=q;exact K [] H F [] ao (aw.refl _) R .nil q
theorem ai{e:Expr}{es:List Expr}{t:TD}{u:fo}(h:ED G k S e t)(hs:wG G k S es u)(he:∀env,starEach (e::es) env=(false,eval e env)::starEach es env:=by exactλ_=>Vc.gy rfl):wG G k S (e::es) (aL t u):=.mk λX Y ok =>
 qC (cn (h X Y ok) (hs X Y ok) (he _)) λσ H Q q=>by
  obtain⟨F,ao,Qd,R,q,K⟩:=q;refine⟨F,ao,_,R,q,λv1 H1 F1 x aA s1 R1 r1 q1=>?_⟩;exact⟨F1,aA,_,R1,q1,λvs H2 F2 xs bu s2 R2 r2 q2=>K _ H2 F2 (x::xs) bu (s1.trans s2) R2 (.cons (r1.mono s2) r2) q2⟩
def mn(t:fo):TX:=λσ Q=>t σ λxs aA=>xs.length<=sizeLine/\Q (.own xs) aA
def El(t:fo):TV:=λσ Q=>t σ λxs aA=>xs.length<=sizeLine/\Q (.val (.tup xs)) aA
theorem cR{es:List Expr}{t:fo}{pos:Pos}(h:wG G k S es t):EX G k S (.List es pos) (mn t):=.mk λX Y ok=>bb (qE (h X Y ok)) λσ H Q q=>by
 obtain⟨F,ao,Qd,R,q,K⟩:=q;refine⟨F,ao,_,R,q,λvs H1 F1 xs aA s1 R1 r1 q1=>⟨by rw[r1.length];exact q1.1,?_⟩⟩
 have g:Goes Y F1 aA σ (λr=>Qd r aA) Q:=λv H' F' r s R' rr qq=>K v H' F' r aA (s1.trans s) R' rr qq;exact g.own R1 r1 q1.2
theorem lg{es:List Expr}{t:fo}{x1}{pos:Pos}(h:wG G k S es t):EO G k S (.Tuple es x1 pos) (El t):=.mk λX Y ok=>bb (DL (h X Y ok)) λσ H Q q=>by
 obtain⟨F,ao,Qd,R,q,K⟩:=q;refine⟨F,ao,_,R,q,λvs H1 F1 xs aA s1 R1 r1 q1=>⟨by rw[r1.length];exact q1.1,λp hp=>?_⟩⟩
 have sm:=aJ (o:=.tup vs) (same_none R1.fr hp);exact K _ _ _ (.val (.tup xs)) aA (s1.trans sm) (R1.alloc hp) (.tup ay (r1.mono sm)) q1.2
abbrev wI:=Sd->(List OV->Sd->Prop)->Prop
inductive sf (F:Hp)(σ:St):List V->List OV->Prop where
 | nil:sf F σ [] []
 | cons {v:V} {x:OV} {vs:List V} {xs:List OV}:vm F σ v x->sf F σ vs xs->sf F σ (v::vs) (x::xs)
def lOs(Y:bI)(t:wI):TA:=λσ H Q=>∃F ao Qd,RS Y F ao σ H/\t ao Qd/\∀vs H' F' xs aR,aw F F'->RS Y F' aR σ H'->sf F' σ vs xs->Qd xs aR->Q vs H'
structure FI(G:GE)(k:Nat)(S:Stat)(es:List Expr)(t:wI) :Prop where
 run:∀X Y,dD X G k S Y->PA X es (lOs Y t)
instance {G:GE} {k:Nat} {S:Stat} {es:List Expr} {t:wI} :CoeFun (FI G k S es t) λ_=>∀X Y,dD X G k S Y->PA X es (lOs Y t):=⟨FI.run⟩
def eD:wI:=λσ Q=>Q [] σ
def bK(t:TV)(u:wI):wI:=λσ Q=>t σ λx aA=>u aA λxs bu=>Q (x::xs) bu
theorem bD:FI G k S [] eD:=.mk λX Y ok=>qC cZ λσ H Q q=>by
 obtain⟨F,ao,Qd,R,q,K⟩:=q;exact K [] H F [] ao (aw.refl _) R .nil q
theorem aM{e:Expr}{es:List Expr}{t:TV}{u:wI}(h:EO G k S e t)(hs:FI G k S es u)(he:∀env,starEach (e::es) env=(false,eval e env)::starEach es env:=by exactλ_=>Vc.gy rfl):FI G k S (e::es) (bK t u):=.mk λX Y ok =>
 qC (cn (h X Y ok) (hs X Y ok) (he _)) λσ H Q q=>by
  obtain⟨F,ao,Qd,R,q,K⟩:=q;refine⟨F,ao,_,R,q,λv1 H1 F1 x aA s1 R1 r1 q1=>?_⟩;exact⟨F1,aA,_,R1,q1,λvs H2 F2 xs bu s2 R2 r2 q2=>K _ H2 F2 (x::xs) bu (s1.trans s2) R2 (.cons (r1.mono s2) r2) q2⟩
def lE(σ:Sd):List OV->Option (List D)
 | []=>some []
 | x::xs=>match fh σ x,lE σ xs with
  | some d,some ds=>some (d::ds)
  | _,_=>none
inductive iA (F H:Hp):List V->List D->Prop where
 | nil:iA F H [] []
 | cons {v:V} {x:D} {vs:List V} {xs:List D}:cB F H v x->iA F H vs xs->iA F H (v::vs) (x::xs)
theorem RS.lE{Y:bI}{F:Hp}{ao:Sd}{σ:St}{H:Hp}(R:RS Y F ao σ H):∀ {vs:List V} {xs:List OV} {ds:List D},sf F σ vs xs->Vc.lE ao xs=some ds->iA F H vs ds
 | _,_,_,.nil,e=>by cases e;exact .nil
 | _,_,_,.cons (x:=x) (xs:=xs) r t,e=>by
  have e:(match Vc.fh ao x,Vc.lE ao xs with|some d,some ds=>some (d::ds)|_,_=>none)=some _:=e
  split at e
  ·rename_i d ds e1 e2
   cases e;exact .cons (R.fh r e1) (RS.lE R t e2)
  ·cases e
theorem iA.one{F H:Hp}{vs:List V}{d:D}(r:iA F H vs [d]):∃v,vs=[v]/\cB F H v d:=by
 cases r with
 | cons r t=>cases t;exact⟨_,rfl,r⟩
theorem iA.two{F H:Hp}{vs:List V}{d e:D}(r:iA F H vs [d,e]):∃v u,vs=[v,u]/\cB F H v d/\cB F H u e:=by
 cases r with
 | cons r t =>
  obtain⟨u,rfl,q⟩:=t.one;exact⟨_,u,rfl,r,q⟩
def oz(r:List V->Hp->VK->Prop)(f:List D->(EV->Prop)->Prop):Prop:=
 ∀Y F H ao σ vs ds (Qd:EV->Prop) (Q:VK),RS Y F ao σ H->iA F H vs ds->f ds Qd->Goes Y F ao σ Qd Q->r vs H Q
def fj(f:List D->(EV->Prop)->Prop)(t:wI):TX:=λσ Q=>t σ λxs aA=>match lE aA xs with
 | some ds=>f ds λr=>Q r aA
 | none=>False
theorem pG{Y:bI}{r:List V->Hp->VK->Prop}{f:List D->(EV->Prop)->Prop}(hs:oz r f){t:wI}{σ:St}{H:Hp}{Q:VK}(q:lX Y (fj f t) σ H Q):tCB r (lOs Y t) σ H Q:=by
 obtain⟨F,ao,Qd,R,q,K⟩:=q;refine⟨F,ao,_,R,q,λvs H1 F1 xs aA s1 R1 r1 q1=>?_⟩
 split at q1
 ·rename_i ds e
  exact hs Y F1 H1 aA σ vs ds _ Q R1 (R1.lE r1 e) q1 λv H' F' r s R' rr qq=>K v H' F' r aA (s1.trans s) R' rr qq
 ·exact q1.elim
def ya(G:GE)(k:Nat)(S:Stat)(f:Value)(g:List D->(EV->Prop)->Prop):Prop:=∃r:PySem.W.Frag->List V->Hp->VK->Prop,(∀X Y,dD X G k S Y->cQ X f (r X.K))/\oz (r KF.K) g
section
variable {x:Str}{p pos:Pos}{e:Expr}{es:List Expr}{t:wI}{id T:String}{g:List D->(EV->Prop)->Prop}
theorem c9(h:ya G k S (.builtin id) g)(hm:G.mg x=none)(ha:FI G k S (e::es) t)(hv:bootBuiltins x=some (.builtin id))(hg:S.sc.lookup x=some .globalImplicit:=by rfl)(hn:x≠"__name__":=by decide)(qm:(x==("__debug__":Str))=false:=by decide)
  (he:∀env,starEach (e::es) env=(false,eval e env)::starEach es env:=by exactλ_=>Vc.gy rfl) (fP:∀env,(backTo pos (starEach es env)).any (·.1)=false:=by intro _;rfl):EX G k S (.Call (.Name x p) (e::es) [] pos) (fj g t):=.mk λX Y ok=>by
 obtain⟨r,hc,hs⟩:=h;exact bb (ng (hc X Y ok) (dI ok hg) (by rw[ok.mg];exact hm) hv (ha X Y ok) hn qm (he _) (fP _)) λσ H Q q=>pG (by rw[ok.kf];exact hs) q
theorem D1(h:ya G k S (.type T) g)(hm:G.mg x=none)(ha:FI G k S (e::es) t)(hv:bootBuiltins x=some (.type T))(hg:S.sc.lookup x=some .globalImplicit:=by rfl)(hn:x≠"__name__":=by decide)(qm:(x==("__debug__":Str))=false:=by decide)
  (he:∀env,starEach (e::es) env=(false,eval e env)::starEach es env:=by exactλ_=>Vc.gy rfl) (fP:∀env,(backTo pos (starEach es env)).any (·.1)=false:=by intro _;rfl):EX G k S (.Call (.Name x p) (e::es) [] pos) (fj g t):=.mk λX Y ok=>by
 obtain⟨r,hc,hs⟩:=h;exact bb (yS (hc X Y ok) (dI ok hg) (by rw[ok.mg];exact hm) hv (ha X Y ok) hn qm (he _) (fP _)) λσ H Q q=>pG (by rw[ok.kf];exact hs) q
end
def gL:List D->(EV->Prop)->Prop
 | [.lst xs],Q=>Q (.val (.int xs.length))
 | [.tup xs],Q=>Q (.val (.int xs.length))
 | [.gw ns],Q=>Q (.val (.int ns.length))
 | [.str z],Q=>z.length<=sizeLine/\Q (.val (.int z.length))
 | _,_=>False
theorem f_len:ya G k S (.builtin "len") gL:=⟨λK xs H Q=>(∃p ys,xs=[V.ref p]/\(fm K H p ys\/iC K H p ys)/\Q (V.int ys.length) H)\/∃z,xs=[V.str z]/\z.length<=sizeLine/\Q (V.int z.length) H,λ_ _ _=>pU.or pV,λY F H ao σ vs ds Qd Q R r q g=>by
 unfold gL at q
 split at q
 ·obtain⟨v,rfl,rv⟩:=r.one
  obtain⟨p,us,rfl,h1,h2⟩:=rv.lst;exact .inl ⟨p,us,rfl,.inl (.inl h1),by rw[h2.length];exact g.val R (.int _) q⟩
 ·obtain⟨v,rfl,rv⟩:=r.one
  obtain⟨p,us,rfl,h1,h2⟩:=rv.tup R.fr;exact .inl ⟨p,us,rfl,.inr (.of h1),by rw[h2.length];exact g.val R (.int _) q⟩
 ·obtain⟨v,rfl,rv⟩:=r.one
  obtain⟨p,rfl,h1⟩:=rv.gw R.fr;exact .inl ⟨p,_,rfl,.inl h1,by rw[List.length_map];exact g.val R (.int _) q⟩
 ·obtain⟨v,rfl,rv⟩:=r.one
  obtain rfl:=rv.str;exact .inr ⟨_,rfl,q.1,g.val R (.int _) q.2⟩
 ·exact q.elim⟩
def yc:List D->(EV->Prop)->Prop
 | [.int i],Q=>Q (.val (.int (if i<0 then -i else i)))
 | _,_=>False
theorem BP:ya G k S (.builtin "abs") yc:=⟨λ_=>_,λ_ _ _=>Au,λY F H ao σ vs ds Qd Q R r q g=>by
 unfold yc at q
 split at q
 ·obtain⟨v,rfl,rv⟩:=r.one
  obtain rfl:=rv.int;exact⟨_,rfl,g.val R (.int _) q⟩
 ·exact q.elim⟩
def mZ:List D->(EV->Prop)->Prop
 | [.int i,.int j],Q=>Q (.val (.int (if j>i then j else i)))
 | _,_=>False
def pe:List D->(EV->Prop)->Prop
 | [.int i,.int j],Q=>Q (.val (.int (if j<i then j else i)))
 | _,_=>False
theorem qe(hh:S.lK=false:=by rfl):ya G k S (.builtin "max") mZ:=⟨λ_=>_,λ_ _ ok=>yj (ok.calm hh),λY F H ao σ vs ds Qd Q R r q g=>by
 unfold mZ at q
 split at q
 ·obtain⟨v,u,rfl,rv,ru⟩:=r.two
  obtain rfl:=rv.int;obtain rfl:=ru.int;exact⟨_,_,rfl,g.val R (.int _) q⟩
 ·exact q.elim⟩
theorem vH(hh:S.lK=false:=by rfl):ya G k S (.builtin "min") pe:=⟨λ_=>_,λ_ _ ok=>yk (ok.calm hh),λY F H ao σ vs ds Qd Q R r q g=>by
 unfold pe at q
 split at q
 ·obtain⟨v,u,rfl,rv,ru⟩:=r.two
  obtain rfl:=rv.int;obtain rfl:=ru.int;exact⟨_,_,rfl,g.val R (.int _) q⟩
 ·exact q.elim⟩
def CY:List D->(EV->Prop)->Prop
 | [.int i],Q=>Q (.val (.int i))
 | [.bl b],Q=>Q (.val (.int (if b then 1 else 0)))
 | _,_=>False
theorem f_int:ya G k S (.type "int") CY:=⟨λ_=>_,λ_ _ ok=>yi,λY F H ao σ vs ds Qd Q R r q g=>by
 unfold CY at q
 split at q
 ·obtain⟨v,rfl,rv⟩:=r.one
  obtain rfl:=rv.int;exact .inl ⟨_,rfl,g.val R (.int _) q⟩
 ·obtain⟨v,rfl,rv⟩:=r.one
  obtain rfl:=rv.bl;exact .inr ⟨_,rfl,g.val R (.int _) q⟩
 ·exact q.elim⟩
def xx:List D->(EV->Prop)->Prop
 | [.lst xs],Q=>Q (.own xs)
 | [.tup xs],Q=>Q (.own xs)
 | _,_=>False
theorem f_list:ya G k S (.type "list") xx:=⟨λK xs H Q=>∃p ys,xs=[V.ref p]/\(fm K H p ys\/iC K H p ys)/\∀l,H l=none->Q (.ref l) (upd H l (.lst ys)),λ_ _ ok=>pW,λY F H ao σ vs ds Qd Q R r q g=>by
 unfold xx at q
 split at q
 ·obtain⟨v,rfl,rv⟩:=r.one
  obtain⟨p,us,rfl,h1,h2⟩:=rv.lst;exact⟨p,us,rfl,.inl (.inl h1),g.own R h2 q⟩
 ·obtain⟨v,rfl,rv⟩:=r.one
  obtain⟨p,us,rfl,h1,h2⟩:=rv.tup R.fr;exact⟨p,us,rfl,.inr (.of h1),g.own R h2 q⟩
 ·exact q.elim⟩
def nN:List D->(EV->Prop)->Prop
 | [.lst xs],Q=>Q (.val (.tup xs))
 | [.tup xs],Q=>Q (.val (.tup xs))
 | _,_=>False
theorem wX:ya G k S (.type "tuple") nN:=⟨λK xs H Q=>∃p ys,xs=[V.ref p]/\((fm K H p ys/\∀l,H l=none->Q (.ref l) (upd H l (.tup ys)))\/(iC K H p ys/\Q (.ref p) H)),λ_ _ ok=>nX,λY F H ao σ vs ds Qd Q R r q g=>by
 unfold nN at q
 split at q
 ·obtain⟨v,rfl,rv⟩:=r.one
  obtain⟨p,us,rfl,h1,h2⟩:=rv.lst;exact⟨p,us,rfl,.inl ⟨.inl h1,g.tup R h2 q⟩⟩
 ·obtain⟨v,rfl,rv⟩:=r.one
  have QH:=rv;obtain⟨p,us,rfl,h1,h2⟩:=rv.tup R.fr;exact⟨p,us,rfl,.inr ⟨.of h1,g.val R QH q⟩⟩
 ·exact q.elim⟩
end Vc
namespace Vc
open PySem L2
variable [KF]
variable {G:GE}{k:Nat}{S:Stat}
structure iw where
 nx:Sd->Prop
 rt:B->Sd->Prop
 bk:Sd->Prop:=λ_=>False
 ct:Sd->Prop:=λ_=>False
abbrev cu:=iw->Sd->Prop
def Zc(Y:bI)(F H:Hp)(ao:Sd)(σ:St)(v:V):B->Prop
 | .sh d=>Rep F v d
 | .own xs=>∃a vs,v=.ref a/\H a=some (.lst vs)/\aG F vs xs/\F a=none/\Y.H0 a=none/\dH ao σ a
 | .obj o=>∃a,v=.ref a/\o.rep F H a/\∀b∈o.fp a,F b=none/\H b≠none/\Y.H0 b=none/\dH ao σ b
structure sd(Y:bI)(F:Hp)(De:iw)(Dn:Ends):Prop where
 nx:∀σ H F' ao,aw F F'->RS Y F' ao σ H->De.nx ao->Dn.nx σ H
 rt:∀v σ H F' ao b,aw F F'->RS Y F' ao σ H->Zc Y F' H ao σ v b->De.rt b ao->Dn.rt v H
 bk:∀σ H F' ao,aw F F'->RS Y F' ao σ H->De.bk ao->Dn.bk σ H
 ct:∀σ H F' ao,aw F F'->RS Y F' ao σ H->De.ct ao->Dn.ct σ H
theorem sd.mono{Y:bI}{F F':Hp}{De:iw}{Dn:Ends}(h:sd Y F De Dn)(s:aw F F'):sd Y F' De Dn:=
 ⟨λσ H F2 ao s2=>h.nx σ H F2 ao (s.trans s2),λv σ H F2 ao b s2=>h.rt v σ H F2 ao b (s.trans s2),λσ H F2 ao s2=>h.bk σ H F2 ao (s.trans s2),λσ H F2 ao s2=>h.ct σ H F2 ao (s.trans s2)⟩
def lS(Y:bI)(t:cu):TS:=λDn σ H=>∃F ao De,RS Y F ao σ H/\t De ao/\sd Y F De Dn
structure ES(G:GE)(k:Nat)(S:Stat)(st:Stmt)(t:cu) :Prop where
 run:∀X Y,dD X G k S Y->PS X st (lS Y t)
instance {G:GE} {k:Nat} {S:Stat} {st:Stmt} {t:cu} :CoeFun (ES G k S st t) λ_=>∀X Y,dD X G k S Y->PS X st (lS Y t):=⟨ES.run⟩
structure dC(G:GE)(k:Nat)(S:Stat)(st:List Stmt)(t:cu) :Prop where
 run:∀X Y,dD X G k S Y->pO X st (lS Y t)
instance {G:GE} {k:Nat} {S:Stat} {st:List Stmt} {t:cu} :CoeFun (dC G k S st t) λ_=>∀X Y,dD X G k S Y->pO X st (lS Y t):=⟨dC.run⟩
section
variable {st:Stmt}{rest:List Stmt}{t u:cu}{pos:Pos}
def gE:cu:=λDe σ=>De.nx σ
def bX(t u:cu):cu:=λDe σ=>t {De with nx:=u De} σ
theorem bO:dC G k S [] gE:=.mk λX Y ok=>xH Hz λDn σ H q=>by
 obtain⟨F,ao,De,R,q,K⟩:=q;exact K.nx σ H F ao (aw.refl _) R q
theorem az(h1:ES G k S st t)(h2:dC G k S rest u):dC G k S (st::rest) (bX t u):=.mk λX Y ok=>xH (DW (h1 X Y ok) (h2 X Y ok)) λDn σ H q=>by
 obtain⟨F,ao,De,R,q,K⟩:=q;refine⟨F,ao,_,R,q,⟨λbN H' F' aR s R' q'=>?_,K.rt,K.bk,K.ct⟩⟩;exact⟨F',aR,De,R',q',K.mono s⟩
theorem aE(h1:ES G k S st t):dC G k S [st] t:=.mk λX Y ok=>HA (h1 X Y ok)
def wq:cu:=λ_ _=>False
theorem jj:ES G k S st wq:=.mk λX Y ok=>c5 DU λDn σ H q=>by
 obtain⟨F,ao,De,R,q,K⟩:=q;exact q
def cC(c:TB)(t u:cu):cu:=λDe σ=>c σ λb aA=>if b=true then t De aA else u De aA
theorem cS{c:Expr}{a b:List Stmt}{tc:TB}(hc:EB G k S c tc)(ha:dC G k S a t)(hb:dC G k S b u):ES G k S (.If c a b pos) (cC tc t u):=.mk λX Y ok=>c5 (Xs (hc X Y ok) (ha X Y ok) (hb X Y ok)) λDn σ H q=>by
 obtain⟨F,ao,De,R,q,K⟩:=q;refine⟨F,ao,_,R,q,λb H1 F1 aA s1 R1 q1=>?_⟩;cases b with
 | true=>exact⟨F1,aA,De,R1,q1,K.mono s1⟩
 | false=>exact⟨F1,aA,De,R1,q1,K.mono s1⟩
def pH(t:TX):cu:=λDe σ=>t σ λ_ aA=>De.nx aA
theorem cH{e:Expr}{te:TX}(he:EX G k S e te)(hs:∀line env,swapsWith e none line env=pure false:=by intro _ _;rfl):ES G k S (.Expr e pos) (pH te):=.mk λX Y ok=>c5 (mh (he X Y ok) (hs _ _)) λDn σ H q=>by
 obtain⟨F,ao,De,R,q,K⟩:=q;exact⟨F,ao,_,R,q,λv H1 F1 x aA s1 R1 r1 q1=>K.nx σ H1 F1 aA s1 R1 q1⟩
def dN(ios:List Nat)(t:TX):cu:=λDe σ=>t σ λx aA=>match x with
 | .val d=>De.rt (.sh d) aA
 | .own xs=>De.rt (.own xs) aA
 | .obj o=>De.rt (.obj o) aA
 | .any=>False
 | .var i=>match aA[i]? with
  | some (some (.own xs))=>i∉ios/\De.rt (.own xs) (aA.set i none)
  | some (some (.sh d))=>De.rt (.sh d) aA
  | some (some (.obj o))=>ios=[]/\De.rt (.obj o) (aA.set i none)
  | _=>False
theorem RS.forget{Y:bI}{F:Hp}{ao:Sd}{σ:St}{H:Hp}{i:Nat}{b:B}(R:RS Y F ao σ H)(e:ao[i]?=some (some b))(cU:∀p∈Y.io,p.1≠i):RS Y F (ao.set i none) σ H where
 len:=by simpa using R.len
 lo:=R.lo
 fr:=R.fr
 eQ:=R.eQ
 old:=R.old
 sh:=λj d q=>by
  by_cases hj:j=i
  ·subst hj;rw[aZ e]at q;cases q
  ·rw[bj hj]at q;exact R.sh j d q
 own:=λj xs q=>by
  by_cases hj:j=i
  ·subst hj;rw[aZ e]at q;cases q
  ·rw[bj hj]at q;exact R.own j xs q
 dis:=λj l xs ys a q1 q2 q3 q4=>by
  have hj:j≠i:=λz=>by subst z;rw[aZ e]at q1;cases q1
  have hl:l≠i:=λz=>by subst z;rw[aZ e]at q2;cases q2
  rw[bj hj]at q1;rw[bj hl]at q2;exact R.dis j l xs ys a q1 q2 q3 q4
 io:=λp hp=>by
  obtain⟨w1,ys,w2⟩:=R.io p hp;exact⟨w1,ys,by rw[bj (cU p hp)];exact w2⟩
 ob:=R.ob.put (λ_ _=>rfl) (λ_ z=>nomatch z) λ_ _ z=>nomatch z
theorem RS.nio{Y:bI}{F:Hp}{ao:Sd}{σ:St}{H:Hp}{i:Nat}{xs:List D}(R:RS Y F ao σ H)(h:ao[i]?=some (some (.own xs)))(cU:∀p∈Y.io,p.1≠i){a:Addr}(q1:σ[i]?=some (some (.ref a))):Y.H0 a=none/\a∉Y.S8:=by
 obtain⟨b,vs,w1,w2,w3,w4,w5⟩:=R.own i xs h;rw[q1]at w1;cases w1;have nin:a∉Y.S8:=λq5=>by
  obtain⟨p,hp,e⟩:=List.mem_map.mp q5;obtain⟨z1,ys,z2⟩:=R.io p hp;exact absurd (R.dis p.1 i ys xs a z2 h (by rw[z1,e]) q1) (cU p hp)
 rcases w5 with w5|w5
 ·exact⟨w5,nin⟩
 ·exact absurd w5 nin
theorem bf{e:Expr}{te:TX}(he:EX G k S e te)(ZS:S.oG=false:=by rfl):ES G k S (.Return (some e) pos) (dN S.ios te):=.mk λX Y ok=>c5 (QD (he X Y ok)) λDn σ H q=>by
 obtain⟨F,ao,De,R,q,K⟩:=q;refine⟨F,ao,_,R,q,λv H1 F1 x aA s1 R1 r1 q1=>?_⟩;cases x with
 | val d=>exact K.rt v σ H1 F1 aA (.sh d) s1 R1 r1 q1
 | own xs=>exact K.rt v σ H1 F1 aA (.own xs) s1 R1 r1 q1
 | obj o=>exact K.rt v σ H1 F1 aA (.obj o) s1 R1 r1 q1
 | any=>exact False.elim q1
 | var i =>
  have r1:σ[i]?=some (some v):=r1;dsimp only at q1
  split at q1
  ·rename_i xs e
   obtain⟨a,vs,w1,w2,w3,w4,w5⟩:=R1.own i xs e;rw[r1]at w1;cases w1;have cU:∀p∈Y.io,p.1≠i:=λp hp z=>q1.1 (z ▸ ok.ios p hp);refine K.rt _ σ H1 F1 _ (.own xs) s1 (R1.forget e cU) ⟨a,vs,rfl,w2,w3,w4,(R1.nio e cU r1).1,⟨λj ys e2 z=>?_,λ⟨j,o,c,e2,e3,hm⟩=>?_⟩⟩ q1.2
   ·by_cases hj:j=i
    ·subst hj;rw[aZ e]at e2;cases e2
    ·rw[bj hj]at e2
     exact hj (R1.dis j i ys xs a e2 e z r1)
   ·have hj:j≠i:=λz=>by subst z;rw[aZ e]at e2;cases e2
    rw[bj hj]at e2;exact R1.ob.iK i xs a e r1 ⟨j,o,c,e2,e3,hm⟩
  ·rename_i d e
   obtain⟨v2,e2,r2⟩:=R1.sh i d e;rw[r1]at e2;cases e2;exact K.rt v σ H1 F1 aA (.sh d) s1 R1 r2 q1
  ·rename_i o e
   obtain⟨a,w1,w2,w3⟩:=R1.ob.obj i o e;rw[r1]at w1;cases w1;have CO:=ok.obs ZS q1.1;have cU:∀p∈Y.io,p.1≠i:=λp hp z=>by
    have:=ok.ios p hp;rw[q1.1]at this;cases this
   refine K.rt _ σ H1 F1 _ (.obj o) s1 (R1.forget e cU) ⟨a,rfl,w2,λb hb=>⟨(w3 b hb).1,(w3 b hb).2.1,?_,⟨λj ys e2 z=>?_,λ⟨j,o2,c,e2,e3,hm⟩=>?_⟩⟩⟩ q1.2
   ·rcases(w3 b hb).2.2 with z|z
    ·exact z
    ·rw[CO]at z;cases z
   ·have hj:j≠i:=λz=>by subst z;rw[aZ e]at e2;cases e2
    rw[bj hj]at e2;exact R1.ob.iK j ys b e2 z ⟨i,o,a,e,r1,hb⟩
   ·have hj:j≠i:=λz=>by subst z;rw[aZ e]at e2;cases e2
    rw[bj hj]at e2;exact R1.ob.yo j i o2 o c a e2 e e3 r1 hj b hm hb
  ·exact q1.elim
end
theorem gs{α:Type}{l:List α}{i j:Nat}{x y:α}(h:(l.set i x)[j]?=some y):(j=i/\y=x)\/(j≠i/\l[j]?=some y):=by
 by_cases hj:j=i
 ·subst hj
  by_cases hl:j<l.length
  ·rw[List.getElem?_set_self hl]at h;exact .inl ⟨rfl,(Option.some.inj h).symm⟩
  ·have:(l.set j x)[j]?=none:=by rw[List.getElem?_eq_none_iff];simp;omega
   rw[this]at h;cases h
 ·rw[List.getElem?_set_ne (Ne.symm hj)]at h;exact .inr ⟨hj,h⟩
theorem bB{α:Type}{l:List α}{i j:Nat}{x:α}(h:j≠i):(l.set i x)[j]?=l[j]?:=List.getElem?_set_ne (Ne.symm h)
theorem k8{α:Type}{l:List α}{i:Nat}{x:α}(h:i<l.length):(l.set i x)[i]?=some x:=List.getElem?_set_self h
theorem Ce{α:Type}{l:List α}{i j:Nat}{x y:α}(h:(l.set i x)[j]?=some y):j<l.length:=by
 have:=(List.getElem?_eq_some_iff.mp h).1;simpa using this
theorem RS.nv{Y:bI}{F:Hp}{ao:Sd}{σ:St}{H:Hp}{i:Nat}{d:D}{v:V}(R:RS Y F ao σ H)(r:Rep F v d)(cU:∀p∈Y.io,p.1≠i):RS Y F (ao.set i (some (.sh d))) (σ.set i (some v)) H where
 len:=by simpa using R.len
 lo:=R.lo
 fr:=R.fr
 eQ:=R.eQ
 old:=R.old
 sh:=λj e q=>by
  rcases gs q with⟨rfl,z⟩|⟨hj,q'⟩
  ·cases z
   exact⟨v,k8 (by rw[<- R.len];exact Ce q),r⟩
  ·obtain⟨u,w1,w2⟩:=R.sh j e q'
   exact⟨u,by rw[bB hj];exact w1,w2⟩
 own:=λj xs q=>by
  rcases gs q with⟨_,z⟩|⟨hj,q'⟩
  ·cases z
  ·obtain⟨a,vs,w1,w2⟩:=R.own j xs q'
   exact⟨a,vs,by rw[bB hj];exact w1,w2⟩
 dis:=λj l xs ys a q1 q2 q3 q4=>by
  rcases gs q1 with⟨_,z⟩|⟨hj,q1⟩
  ·cases z
  rcases gs q2 with⟨_,z⟩|⟨hl,q2⟩
  ·cases z
  rw[bB hj]at q3;rw[bB hl]at q4;exact R.dis j l xs ys a q1 q2 q3 q4
 io:=λp hp=>by
  obtain⟨w1,ys,w2⟩:=R.io p hp;exact⟨by rw[bB (cU p hp)];exact w1,ys,by rw[bB (cU p hp)];exact w2⟩
 ob:=R.ob.put (λ_ hj=>bB hj) (λ_ z=>nomatch z) λ_ _ z=>nomatch z
theorem RS.Rf{Y:bI}{F:Hp}{ao:Sd}{σ:St}{H:Hp}{i:Nat}{xs:List D}{a:Addr}{vs:List V}(R:RS Y F ao σ H)(h1:H a=some (.lst vs))(h2:aG F vs xs)(h3:F a=none)(h4:Y.H0 a=none)(h5:dH ao σ a)
  (cU:∀p∈Y.io,p.1≠i):RS Y F (ao.set i (some (.own xs))) (σ.set i (some (.ref a))) H where
 len:=by simpa using R.len
 lo:=R.lo
 fr:=R.fr
 eQ:=R.eQ
 old:=R.old
 sh:=λj e q=>by
  rcases gs q with⟨_,z⟩|⟨hj,q'⟩
  ·cases z
  ·obtain⟨u,w1,w2⟩:=R.sh j e q'
   exact⟨u,by rw[bB hj];exact w1,w2⟩
 own:=λj ys q=>by
  rcases gs q with⟨rfl,z⟩|⟨hj,q'⟩
  ·cases z
   exact⟨a,vs,k8 (by rw[<- R.len];exact Ce q),h1,h2,h3,.inl h4⟩
  ·obtain⟨b,us,w1,w2⟩:=R.own j ys q'
   exact⟨b,us,by rw[bB hj];exact w1,w2⟩
 dis:=λj l ys zs b q1 q2 q3 q4=>by
  rcases gs q1 with⟨rfl,z⟩|⟨hj,q1⟩
  ·rcases gs q2 with⟨e,z⟩|⟨hl,q2⟩
   ·exact e.symm
   ·rw[bB hl]at q4
    rcases gs q3 with⟨_,z3⟩|⟨hc,_⟩
    ·cases z3
     exact absurd q4 (h5 l zs q2)
    ·exact absurd rfl hc
  ·rw[bB hj]at q3
   rcases gs q2 with⟨e2,z⟩|⟨hl,q2⟩
   ·rcases gs q4 with⟨_,z4⟩|⟨hc,_⟩
    ·cases z4
     exact absurd q3 (h5 j ys (by assumption))
    ·exact absurd e2 hc
   ·rw[bB hl]at q4
    exact R.dis j l ys zs b (by assumption) q2 q3 q4
 io:=λp hp=>by
  obtain⟨w1,ys,w2⟩:=R.io p hp;exact⟨by rw[bB (cU p hp)];exact w1,ys,by rw[bB (cU p hp)];exact w2⟩
 ob:=R.ob.put (λ_ hj=>bB hj) (λ_ z=>nomatch z) λys b _ z=>by
  rcases gs z with⟨_,z2⟩|⟨hc,_⟩
  ·cases z2;exact h5.Tc
  ·exact absurd rfl hc
theorem RS.Rc{Y:bI}{F:Hp}{ao:Sd}{σ:St}{H:Hp}{i:Nat}{o:O}{a:Addr}(R:RS Y F ao σ H)(h1:o.rep F H a)(h2:∀b∈o.fp a,F b=none/\H b≠none/\Y.H0 b=none/\dH ao σ b)
  (cU:∀p∈Y.io,p.1≠i):RS Y F (ao.set i (some (.obj o))) (σ.set i (some (.ref a))) H where
 len:=by simpa using R.len
 lo:=R.lo
 fr:=R.fr
 eQ:=R.eQ
 old:=R.old
 sh:=λj e q=>by
  rcases gs q with⟨_,z⟩|⟨hj,q'⟩
  ·cases z
  ·obtain⟨u,w1,w2⟩:=R.sh j e q'
   exact⟨u,by rw[bB hj];exact w1,w2⟩
 own:=λj ys q=>by
  rcases gs q with⟨_,z⟩|⟨hj,q'⟩
  ·cases z
  ·obtain⟨b,us,w1,w2⟩:=R.own j ys q'
   exact⟨b,us,by rw[bB hj];exact w1,w2⟩
 dis:=λj l ys zs b q1 q2 q3 q4=>by
  rcases gs q1 with⟨_,z⟩|⟨hj,q1⟩
  ·cases z
  rcases gs q2 with⟨_,z⟩|⟨hl,q2⟩
  ·cases z
  rw[bB hj]at q3;rw[bB hl]at q4;exact R.dis j l ys zs b q1 q2 q3 q4
 io:=λp hp=>by
  obtain⟨w1,ys,w2⟩:=R.io p hp;exact⟨by rw[bB (cU p hp)];exact w1,ys,by rw[bB (cU p hp)];exact w2⟩
 ob:=by
  have at':∀ {j:Nat} {c:Addr},j=i->(σ.set i (some (.ref a)))[j]?=some (some (.ref c))->c=a:=λ{j c} e z=>by
   subst e;rcases gs z with⟨_,z2⟩|⟨hc,_⟩
   ·cases z2;rfl
   ·exact absurd rfl hc
  refine⟨λj p q=>?_,λj l p p2 c d q1 q2 q3 q4 df x hx zu=>?_,λj ys b q1 q2 ⟨l,p,c,q3,q4,hm⟩=>?_,R.ob.there,R.ob.FD,R.ob.tab⟩
  ·rcases gs q with⟨rfl,z⟩|⟨hj,q'⟩
   ·cases z
    exact⟨a,k8 (by rw[<- R.len];exact Ce q),h1,λb hb=>⟨(h2 b hb).1,(h2 b hb).2.1,.inl (h2 b hb).2.2.1⟩⟩
   ·obtain⟨c,w1,w2⟩:=R.ob.obj j p q'
    exact⟨c,by rw[bB hj];exact w1,w2⟩
  ·rcases gs q1 with⟨e1,z⟩|⟨hj,Xt⟩
   ·cases z
    rcases gs q2 with⟨e2,z⟩|⟨hl,q2'⟩
    ·exact df (e1.trans e2.symm)
    ·rw[bB hl]at q4
     have:=at' e1 q3;subst this;exact(h2 x hx).2.2.2.Tc ⟨l,p2,d,q2',q4,zu⟩
   ·rw[bB hj]at q3
    rcases gs q2 with⟨e2,z⟩|⟨hl,q2'⟩
    ·cases z
     have:=at' e2 q4;subst this;exact(h2 x zu).2.2.2.Tc ⟨j,p,c,Xt,q3,hx⟩
    ·rw[bB hl]at q4
     exact R.ob.yo j l p p2 c d Xt q2' q3 q4 df x hx zu
  ·rcases gs q1 with⟨_,z⟩|⟨hj,Xt⟩
   ·cases z
   rw[bB hj]at q2;rcases gs q3 with⟨e3,z⟩|⟨hl,q3'⟩
   ·cases z
    have:=at' e3 q4;subst this;exact(h2 b hm).2.2.2 j ys Xt q2
   ·rw[bB hl]at q4
    exact R.ob.iK j ys b Xt q2 ⟨l,p,c,q3',q4,hm⟩
def YS(ios:List Nat)(i:Nat)(x:EV)(σ:Sd)(Q:Sd->Prop):Prop:=match x with
 | .val d=>Q (σ.set i (some (.sh d)))
 | .own xs=>Q (σ.set i (some (.own xs)))
 | .obj o=>Q (σ.set i (some (.obj o)))
 | .any=>False
 | .var j=>match σ[j]? with
  | some (some (.own xs))=>j∉ios/\Q ((σ.set j (some (.sh (.lst xs)))).set i (some (.sh (.lst xs))))
  | some (some (.sh d))=>Q (σ.set i (some (.sh d)))
  | _=>False
theorem kN{Y:bI}{F:Hp}{ao:Sd}{σ:St}{H:Hp}{i:Nat}{v:V}{x:EV}{ios:List Nat}{Q:Sd->Prop}(R:RS Y F ao σ H)(r:Ku Y F H ao σ v x)(hi:i∉ios)(cU:∀p∈Y.io,p.1∈ios)(q:YS ios i x ao Q):
  ∃F' aR,aw F F'/\RS Y F' aR (σ.set i (some v)) H/\Q aR:=by
 have h0:∀p∈Y.io,p.1≠i:=λp hp z=>hi (z ▸ cU p hp);cases x with
 | val d=>exact⟨F,_,aw.refl _,R.nv r h0,q⟩
 | own xs =>
  obtain⟨a,vs,rfl,h1,h2,h3,h4,h5⟩:=r;exact⟨F,_,aw.refl _,R.Rf h1 h2 h3 h4 h5 h0,q⟩
 | obj o =>
  obtain⟨a,rfl,h1,h2⟩:=r;exact⟨F,_,aw.refl _,R.Rc h1 h2 h0,q⟩
 | any=>exact False.elim q
 | var j =>
  have r:σ[j]?=some (some v):=r;unfold YS at q;dsimp only at q
  split at q
  ·rename_i xs e
   obtain⟨F2,v2,s2,R2,e2,r2⟩:=R.ky e λp hp z=>q.1 (z ▸ cU p hp);rw[r]at e2;cases e2;exact⟨F2,_,s2,R2.nv r2 h0,q.2⟩
  ·rename_i d e
   obtain⟨v2,e2,r2⟩:=R.sh j d e;rw[r]at e2;cases e2;exact⟨F,_,aw.refl _,R.nv r2 h0,q⟩
  ·exact q.elim
def dF(ios:List Nat)(i:Nat)(t:TX):cu:=λDe σ=>t σ λx aA=>YS ios i x aA De.nx
theorem mX{X:Cx}{Y:bI}(ok:dD X G k S Y){x:Str}(h:S.sc.lookup x=some .local\/(S.sc.lookup x=some .cell/\S.oG=false)):L2.Loc X.env.scope x:=by
 unfold L2.Loc;rw[ok.sc];exact h.imp id (·.1)
theorem mP{X:Cx}{Y:bI}(ok:dD X G k S Y){x:Str}(h:S.sc.lookup x=some .local\/(S.sc.lookup x=some .cell/\S.oG=false)):X.fn x=true\/X.env.scope.names.lookup x=some .local:=by
 rcases h with h|h
 ·right;rw[ok.sc];exact h
 ·left;exact ok.fn h.2 x h.1
theorem bH(i:Nat){x:Str}{e:Expr}{te:TX}{pos pos':Pos}(he:EX G k S e te)(hi:S.N[i]?=some x:=by rfl)(hx:S.sc.lookup x=some .local\/(S.sc.lookup x=some .cell/\S.oG=false):=by first|exact Or.inl rfl|exact Or.inr ⟨rfl,rfl⟩)(hn:i∉S.ios:=by first|decide|exact List.not_mem_nil | (dsimp only;decide))
  (hs:∀line env,swapsWith e (some (.Name x pos')) line env=pure false:=by intro _ _;rfl):ES G k S (.Assign [.Name x pos'] e pos) (dF S.ios i te):=.mk λX Y ok =>
 c5 (L2.vZ (i:=i) (by rw[ok.N];exact ok.nd) (by rw[ok.N];exact hi) (mX ok hx) (he X Y ok) (hs _ _) (mP ok hx)) λDn σ H q=>by
  obtain⟨F,ao,De,R,q,K⟩:=q;refine⟨F,ao,_,R,q,λv H1 F1 y aA s1 R1 r1 q1=>?_⟩;obtain⟨F2,bu,s2,R2,q2⟩:=kN R1 r1 hn ok.ios q1;exact K.nx _ H1 F2 bu (s1.trans s2) R2 q2
theorem RS.write{Y:bI}{F:Hp}{ao:Sd}{σ:St}{H:Hp}{i:Nat}{xs ys:List D}{a:Addr}{us:List V}(R:RS Y F ao σ H)(e:ao[i]?=some (some (.own xs)))(h:σ[i]?=some (some (.ref a)))(r:aG F us ys):
  RS Y F (ao.set i (some (.own ys))) σ (upd H a (.lst us)):=by
 obtain⟨b,vs,w1,w2,w3,w4,w5⟩:=R.own i xs e;rw[h]at w1;cases w1;have hl:i<ao.length:=(List.getElem?_eq_some_iff.mp e).1;have CO:pN Y F (ao.set i (some (.own ys))) σ (upd H a (.lst us)):=R.ob.step (aw.refl _) (λj o q=>by
  rcases gs q with⟨_,z⟩|⟨hj,q⟩
  ·cases z
  ·exact⟨q,rfl⟩) (λb hb=>by
  obtain⟨z1,z2,z3⟩:=R.ob.owned hb;have df:b≠a:=λz=>R.ob.iK i xs a e h (z ▸ hb);exact⟨ak df,z1,z3⟩) (λj zs b q1 q2=>by
  rcases gs q1 with⟨e1,_⟩|⟨hj,q1⟩
  ·subst e1
   rw[h]at q2;cases q2;exact R.ob.iK j xs a e h
  ·exact R.ob.iK j zs b q1 q2) λb hb=>by
  by_cases df:b=a
  ·rw[df,ay];exactλz=>nomatch z
  ·rw[ak df];exact R.ob.there b hb
 refine⟨by simpa using R.len,R.lo,λb o q=>?_,R.eQ,λb o q n=>?_,λj d q=>?_,λj zs q=>?_,λj l zs qs b q1 q2 q3 q4=>?_,λp hp=>?_,CO⟩
 ·have:b≠a:=λz=>by rw[z,w4]at q;cases q
  rw[ak this];exact R.fr b o q
 ·have:b≠a:=λz=>by
   subst z;rcases w5 with w5|w5
   ·rw[w5]at q;cases q
   ·exact bI.xk n w5
  rw[ak this];exact R.old b o q n
 ·rcases gs q with⟨_,z⟩|⟨hj,q⟩
  ·cases z
  ·exact R.sh j d q
 ·rcases gs q with⟨rfl,z⟩|⟨hj,q⟩
  ·cases z
   exact⟨a,us,h,ay,r,w4,w5⟩
  ·obtain⟨b,ws,z1,z2,z3,z4,z5⟩:=R.own j zs q
   have:b≠a:=λz=>hj (R.dis j i zs xs a q e (z ▸ z1) h);exact⟨b,ws,z1,by rw[ak this];exact z2,z3,z4,z5⟩
 ·have f:∀ {m:Nat} {ms:List D},(ao.set i (some (B.own ys)))[m]?=some (some (B.own ms))->∃FA,ao[m]?=some (some (B.own FA)):=λ{m ms} q=>by
   rcases gs q with⟨rfl,z⟩|⟨hj,q⟩
   ·exact⟨xs,e⟩
   ·exact⟨_,q⟩
  obtain⟨_,q1⟩:=f q1;obtain⟨_,q2⟩:=f q2;exact R.dis j l _ _ b q1 q2 q3 q4
 ·obtain⟨z1,zs,z2⟩:=R.io p hp
  refine⟨z1,?_⟩
  by_cases VS:p.1=i
  ·exact⟨ys,by rw[VS,k8 hl]⟩
  ·exact⟨zs,by rw[bB VS];exact z2⟩
def tP(σ:Sd)(i:Nat):Prop:=∃xs,σ[i]?=some (some (B.own xs))
def K5(i:Nat)(d:D)(σ:Sd)(Q:Sd->Prop):Prop:=match σ[i]? with
 | some (some (.own xs))=>xs.length<sizeLine/\Q (σ.set i (some (.own (xs++[d]))))
 | _=>False
def zh(to:TV)(te:TD):TX:=λσ Q=>to σ λx aA=>match x with
 | .var i=>tP aA i/\te aA λd bu=>K5 i d bu λeB=>Q (.val .aX) eB
 | _=>False
theorem nj{o e:Expr}{to:TV}{te:TD}{apos cpos:Pos}(ho:EO G k S o to)(he:ED G k S e te)(hb:∀env,attributeBase o "append" env (eval o env)=eval o env:=by intro _;rfl)
  (CF:∀env,((backTo cpos (starEach [e] env)).all (λx=>!x.1)&&(backToKw cpos (keywordEach [] env)).all (λx=>x.1.isSome)&&decide (([e]:List Expr).length+([]:List Keyword).length+(if([]:List Keyword).isEmpty then 0 else 1)<30))=true:=by intro _;rfl)
  (hline:(apos.endLine==cpos.line)=true:=by rfl) (hs:∀env,starEach [e] env=[(false,eval e env)]:=by intro _;rfl):EX G k S (.Call (.Attribute o "append" apos) [e] [] cpos) (zh to te):=.mk λX Y ok=>by
 have ha:PA X [e] (lh (lD Y te) wt):=cn (he X Y ok) cZ (by rw[hs];rfl)
 refine bb (pj F.plainAttrs_list F.slot_list_append F.type_list_append eW (ho X Y ok) ha (hb _) (CF _) hline (by rw[hs];rfl) (by rfl)) λσ H Q q=>?_
 obtain⟨F,ao,Qd,R,q,K⟩:=q;refine⟨F,ao,_,R,q,λv1 H1 F1 x aA s1 R1 r1 q1=>?_⟩;cases x with
 | val d=>exact q1.elim
 | any=>exact q1.elim
 | var i =>
  obtain⟨⟨ys,e0⟩,q1⟩:=q1;have r1:σ[i]?=some (some v1):=r1;obtain⟨a,vs,w1,w2,w3,w4,w5⟩:=R1.own i ys e0;rw[r1]at w1;cases w1;refine⟨.inl ⟨rfl,vs,.of w2⟩,F1,aA,_,R1,q1,λv2 H2 F2 d bu s2 R2 r2 q2=>?_⟩;unfold K5 at q2
  split at q2
  ·rename_i xs e2
   obtain⟨b,us,z1,z2,z3,z4,z5⟩:=R2.own i xs e2;rw[r1]at z1;cases z1;exact⟨a,us,v2,rfl,rfl,z2,by rw[z3.length];exact q2.1,K .aX _ F2 (.val .aX) _ (s1.trans s2) (R2.write e2 r1 (z3.append (.cons r2 .nil))) .aX q2.2⟩
  ·exact q2.elim
end Vc
namespace Vc
open PySem L2
variable [KF]
variable {G:GE}{k:Nat}{S:Stat}
abbrev bA:=List D->(B->Prop)->Prop
def FO(H F H':Hp)(v:V):B->Prop
 | .sh d=>Rep F v d
 | .own xs=>∃a vs,v=.ref a/\H' a=some (.lst vs)/\aG F vs xs/\F a=none/\H a=none
 | .obj o=>∃a,v=.ref a/\o.rep F H' a/\∀b∈o.fp a,F b=none/\H' b≠none/\H b=none
def Ia(sp:bA):Sp:=λvs H Q _=>∃F ds Qd,sg F H/\aG F vs ds/\sp ds Qd /\
 ∀v H' F' b,aw F F'->aw F' H'->aw H H'->(∀c o,F' c=some o->F c=some o\/Nw H c o)->FO H F' H' v b->Qd b->Q v H'
theorem RS.call{Y:bI}{F F':Hp}{ao:Sd}{σ:St}{H H':Hp}(R:RS Y F ao σ H)(s1:aw F F')(s2:aw F' H')(s3:aw H H')(fr:∀c o,F' c=some o->F c=some o\/Nw H c o):RS Y F' ao σ H' where
 len:=R.len
 lo:=R.lo.trans s1
 fr:=s2
 eQ:=λb o e=>by
  rcases fr b o e with h|h
  ·exact R.eQ b o h
  ·exact .inr (h.imp (λh=>(R.bZ h).1) id)
 old:=λb o e n=>s3 b o (R.old b o e n)
 sh:=λi d e=>by
  obtain⟨v,h1,h2⟩:=R.sh i d e;exact⟨v,h1,h2.mono s1⟩
 own:=λi xs e=>by
  obtain⟨a,vs,h1,h2,h3,h4,h5⟩:=R.own i xs e;refine⟨a,vs,h1,s3 a _ h2,h3.mono s1,?_,h5⟩;cases q:F' a with
  | none=>rfl
  | some o =>
   rcases fr a o q with h|h
   ·rw[h4]at h;cases h
   ·rcases h with h|⟨ws,rfl⟩
    ·rw[h2]at h;cases h
    ·have z:=s2 a _ q;rw[s3 a _ h2]at z;cases z
 dis:=R.dis
 io:=R.io
 ob:=by
  have up:∀b,H b≠none->H' b=H b:=λb hb=>by
   cases q:H b with
   | none=>exact absurd q hb
   | some o=>exact s3 b o q
  refine R.ob.step s1 (λ_ _ e=>⟨e,rfl⟩) (λb hb=>?_) R.ob.iK λb hb=>by rw[up b (R.ob.there b hb)];exact R.ob.there b hb
  obtain⟨w1,w2,w3⟩:=R.ob.owned hb;refine⟨up b w2,?_,w3⟩;cases q:F' b with
  | none=>rfl
  | some o =>
   rcases fr b o q with h|h
   ·rw[w1]at h;cases h
   ·rcases h with h|⟨ws,rfl⟩
    ·exact absurd h w2
    ·exact absurd (by rw[<- up b w2];exact s2 b _ q) (R.ob.Ds hb)
def cy(G:GE)(k:Nat)(x:Str)(sp:bA):Prop:=∃f fd ps,dQ G.P G.w G.K G.mg G.base vg k f fd ps (Ia sp)/\G.mg x=some (.ref f)/\PySem.W.keepIn G.K (.ref f)=true/\Binds G.K fd ps []
theorem cy.mono{x:Str}{sp:bA}{j:Nat}(h:cy G j x sp)(l:j<=k):cy G k x sp:=by
 obtain⟨f,fd,ps,h1,h2,h3,h4⟩:=h;exact⟨f,fd,ps,h1.mono l,h2,h3,h4⟩
def bE:B->EV
 | .sh d=>.val d
 | .own xs=>.own xs
 | .obj o=>.obj o
def Cl(sp:bA)(ds:List D)(Q:B->Prop):Prop:=sp ds Q
def dJ(sp:bA)(t:fo):TX:=λσ Q=>t σ λds aA=>Cl sp ds λb=>Q (bE b) aA
theorem aO{x:Str}{sp:bA}{e:Expr}{es:List Expr}{t:fo}{p pos:Pos}(h:cy G k x sp)(ha:wG G k S (e::es) t)(hg:S.sc.lookup x=some .globalImplicit:=by rfl)(qm:(x==("__debug__":Str))=false:=by decide)
  (he:∀env,starEach (e::es) env=(false,eval e env)::starEach es env:=by exactλ_=>Vc.gy rfl) (fP:∀env,(backTo pos (starEach es env)).any (·.1)=false:=by intro _;rfl) (hh:S.lK=false:=by rfl):EX G k S (.Call (.Name x p) (e::es) [] pos) (dJ sp t):=.mk λX Y ok=>by
 obtain⟨f,fd,ps,h1,h2,h3,h4⟩:=h;have SW:dQ X.prog X.w X.K X.mg X.base vg k f fd ps (Ia sp):=by rw[ok.P,ok.w,ok.K,ok.mg,ok.base];exact h1
 refine bb (xD (E:=E0) (dvs:=[]) (ds:=[]) SW (ok.room hh) (dI ok hg) (by rw[ok.mg];exact h2) (by rw[ok.K];exact h3) (by rw[ok.K];exact h4) .nil JW (ha X Y ok) qm (he _) (fP _)) λσ H Q q=>?_
 obtain⟨F,ao,Qd,R,q,K⟩:=q;refine⟨F,ao,_,R,q,λvs H1 F1 ds aA s1 R1 r1 q1=>?_⟩;show Ia sp (vs++[]) H1 Q E0;rw[List.append_nil];refine⟨F1,ds,_,⟨R1.fr,R1.ob.tab⟩,r1,q1,λv H' F' b s2 s3 s4 fr r2 q2=>?_⟩;have R2:=R1.call s2 s3 s4 fr;cases b with
 | sh d=>exact K v H' F' (.val d) aA (s1.trans s2) R2 r2 q2
 | own xs =>
  obtain⟨a,us,rfl,w1,w2,w3,w4⟩:=r2;refine K _ H' F' (.own xs) aA (s1.trans s2) R2 ⟨a,us,rfl,w1,w2,w3,(R1.bZ w4).1,R1.cY w4⟩ q2
 | obj o =>
  obtain⟨a,rfl,w1,w2⟩:=r2;exact K _ H' F' (.obj o) aA (s1.trans s2) R2 ⟨a,rfl,w1,λb hb=>⟨(w2 b hb).1,(w2 b hb).2.1,(R1.bZ (w2 b hb).2.2).1,R1.cY (w2 b hb).2.2⟩⟩ q2
def aP(n:Nat)(ds:List D):Sd:=ds.map (λd=>some (.sh d))++List.replicate (n-ds.length) none
theorem nG{F:Hp}:∀ {vs:List V} {ds:List D} (m:Nat) {i:Nat} {d:D},aG F vs ds->(ds.map (λd=>some (B.sh d))++List.replicate m none)[i]?=some (some (.sh d))->∃v,(vs.map some++List.replicate m none)[i]?=some (some v)/\Rep F v d
 | [],[],m,i,d,.nil,e=>by
  simp only[List.map_nil,List.nil_append,List.getElem?_replicate]at e
  split at e<;>cases e
 | v::vs,x::ds,m,0,d,.cons r t,e=>by
  simp at e;subst e;exact⟨v,by simp,r⟩
 | v::vs,x::ds,m,i+1,d,.cons r t,e=>by
  obtain⟨u,h1,h2⟩:=nG (i:=i) m t (by simpa using e)
  exact⟨u,by simpa using h1,h2⟩
theorem e9:∀(ds:List D) (m i:Nat) (xs:List D),(ds.map (λd=>some (B.sh d))++List.replicate m none)[i]?≠some (some (.own xs))
 | [],m,i,xs=>by
  simp only[List.map_nil,List.nil_append,List.getElem?_replicate];intro e
  split at e<;>cases e
 | x::ds,m,0,xs=>by simp
 | x::ds,m,i+1,xs=>by
  have:=e9 ds m i xs;simpa using this
theorem kO:∀(ds:List D) (m i:Nat) (o:O),(ds.map (λd=>some (B.sh d))++List.replicate m none)[i]?≠some (some (.obj o))
 | [],m,i,o=>by
  simp only[List.map_nil,List.nil_append,List.getElem?_replicate];intro e
  split at e<;>cases e
 | x::ds,m,0,o=>by simp
 | x::ds,m,i+1,o=>by
  have:=kO ds m i o;simpa using this
theorem RS.start{F H:Hp}{vs:List V}{ds:List D}(n:Nat)(s:sg F H)(r:aG F vs ds):RS ⟨H,F,[],[]⟩ F (aP n ds) (vs.map some++List.replicate (n-vs.length) none) H where
 len:=by unfold aP;simp [r.length]
 lo:=aw.refl _
 fr:=s.1
 eQ:=λb o e=>.inl e
 old:=λb o e _=>e
 sh:=λi d e=>by
  rw[r.length];exact nG _ r e
 own:=λi xs e=>absurd e (e9 _ _ _ _)
 dis:=λi j xs ys a e=>absurd e (e9 _ _ _ _)
 io:=λp hp=>absurd hp (by simp)
 ob:=.none (λi o=>kO _ _ _ _) s.2 λb hb=>by cases hb
theorem JG{x qual:Str}{st:Stmt}{f:Addr}{fd:FuncData}{N ps:List Str}{sp:bA}{t:cu}(hK:G.K=KF.K)(Fn:FK G.K x qual st f fd)(Sc:aH N ps (ah st))(ht:dC G k ⟨N,(ah st).names,[],false,false,false,λ_ _=>False⟩ (ax st) t)
  (len:∀ds Q,sp ds Q->ds.length=ps.length)
  (body:∀ds Q,sp ds Q->t {nx:=λ_=>Q (.sh .aX),rt:=λb _=>Q b} (aP N.length ds)):dQ G.P G.w G.K G.mg G.base vg (k+1) f fd ps (Ia sp):=by
 refine Fn.ok Sc (λvs H Q E h=>?_) (λiq A outer s H vs Q E hr h=>?_)
 ·obtain⟨F,ds,Qd,s,r,q,K⟩:=h
  rw[r.length];exact len _ _ q
 ·obtain⟨F,ds,Qd,sm,r,q,K⟩:=h
  refine⟨_,ht (p7 vg G.P G.w G.K G.mg G.base N qual (ah st) f iq A outer s H E).Td ⟨H,F,[],[]⟩ ⟨rfl,rfl,rfl,hK,rfl,rfl,rfl,rfl,Sc.nd,λp hp=>absurd hp (by simp),λ_ _=>rfl,λ_=>rfl,Sc.kind,λ_ _ _=>rfl,λ_=>hr.hd,hr.dp,hr.un,λ_=>PassesOwn.never,λ_=>⟨rfl,rfl,rfl⟩,λ_ _ h=>h.elim,λh=>nomatch h⟩,F,aP N.length ds,_,RS.start _ sm r,body ds Qd q,?_⟩
  have same:∀ {F':Hp} {ao:Sd} {σ:St} {H':Hp},RS ⟨H,F,[],[]⟩ F' ao σ H'->aw H H':=λR b o e=>R.old b o e (by simp [bI.C1])
  refine⟨λσ H' F' ao s' R' q'=>?_,λv σ H' F' ao b s' R' r' q'=>?_,λ_ _ _ _ _ _ h=>h.elim,λ_ _ _ _ _ _ h=>h.elim⟩
  ·exact K .aX H' F' (.sh .aX) s' R'.fr (same R') R'.eQ .aX q'
  ·refine K v H' F' b s' R'.fr (same R') R'.eQ ?_ q'
   cases b with
   | sh d=>exact r'
   | own xs =>
    obtain⟨a,us,rfl,w1,w2,w3,w4,w5⟩:=r';exact⟨a,us,rfl,w1,w2,w3,w4⟩
   | obj o =>
    obtain⟨a,rfl,w1,w2⟩:=r';exact⟨a,rfl,w1,λb hb=>⟨(w2 b hb).1,(w2 b hb).2.1,(w2 b hb).2.2.1⟩⟩
end Vc
namespace Vc
open PySem L2
variable [KF]
variable {G:GE}{k:Nat}{S:Stat}
abbrev lR:=D->Sd->(Sd->Prop)->Prop
def lG(Y:bI)(g:lR):TG:=λv σ H Q=>∃F ao d Qd,RS Y F ao σ H/\Rep F v d/\g d ao Qd/\∀bN H' F' aR,aw F F'->RS Y F' aR bN H'->Qd aR->Q bN H'
structure EG(G:GE)(k:Nat)(S:Stat)(tg:Expr)(g:lR) :Prop where
 run:∀X Y,dD X G k S Y->PG X tg (lG Y g)
instance {G:GE} {k:Nat} {S:Stat} {tg:Expr} {g:lR} :CoeFun (EG G k S tg g) λ_=>∀X Y,dD X G k S Y->PG X tg (lG Y g):=⟨EG.run⟩
theorem DM{X:Cx}{e:Expr}{t t':TG}(h:PG X e t)(i:∀v σ H Q,t' v σ H Q->t v σ H Q):PG X e t':=λpins s σ H v u Q I r q=>h pins s σ H v u Q I r (i v σ H Q q)
def eR(i:Nat):lR:=λd σ Q=>Q (σ.set i (some (.sh d)))
theorem a9(i:Nat){x:Str}{pos:Pos}(hi:S.N[i]?=some x:=by rfl)(hx:S.sc.lookup x=some .local\/(S.sc.lookup x=some .cell/\S.oG=false):=by first|exact Or.inl rfl|exact Or.inr ⟨rfl,rfl⟩)(hn:i∉S.ios:=by first|decide|exact List.not_mem_nil | (dsimp only;decide)):EG G k S (.Name x pos) (eR i):=.mk λX Y ok =>
 DM (Ht (i:=i) (by rw[ok.N];exact ok.nd) (by rw[ok.N];exact hi) (mX ok hx) (mP ok hx)) λv σ H Q q=>by
  obtain⟨F,ao,d,Qd,R,r,q,K⟩:=q;exact K _ H F _ (aw.refl _) (R.nv r λp hp z=>hn (z ▸ ok.ios p hp)) q
abbrev pP:=List D->Sd->(Sd->Prop)->Prop
def lGs(Y:bI)(g:pP):Jn:=λvs σ H Q=>∃F ao ds Qd,RS Y F ao σ H/\aG F vs ds/\g ds ao Qd/\∀bN H' F' aR,aw F F'->RS Y F' aR bN H'->Qd aR->Q bN H'
structure SG(G:GE)(k:Nat)(S:Stat)(ts:List Expr)(g:pP) :Prop where
 run:∀X Y,dD X G k S Y->SJ X ts (lGs Y g)
instance {G:GE} {k:Nat} {S:Stat} {ts:List Expr} {g:pP} :CoeFun (SG G k S ts g) λ_=>∀X Y,dD X G k S Y->SJ X ts (lGs Y g):=⟨SG.run⟩
def B9:pP:=λds σ Q=>match ds with
 | []=>Q σ
 | _=>False
def gC(g:lR)(u:pP):pP:=λds σ Q=>match ds with
 | d::r=>g d σ λaA=>u r aA Q
 | []=>False
theorem fO:SG G k S [] B9:=.mk λX Y ok pins s σ H vs us Q I r q=>Hu pins s σ H vs us Q I r (by
 obtain⟨F,ao,ds,Qd,R,rr,q,K⟩:=q;cases rr with
 | nil=>exact⟨rfl,K σ H F ao (aw.refl _) R q⟩
 | cons _ _=>exact q.elim)
theorem bS{e:Expr}{es:List Expr}{g:lR}{u:pP}(h1:EG G k S e g)(h2:SG G k S es u)(hs:∀env,(assignEach (e::es) env).map (·.2)=assign e env::(assignEach es env).map (·.2):=by intro _;rfl):SG G k S (e::es) (gC g u):=.mk λX Y ok pins s σ H vs us Q I r q =>
 DN (h1 X Y ok) (h2 X Y ok) (hs _) pins s σ H vs us Q I r (by
  obtain⟨F,ao,ds,Qd,R,rr,q,K⟩:=q;cases rr with
  | nil=>exact q.elim
  | cons r1 rs =>
   refine⟨_,_,rfl,F,ao,_,_,R,r1,q,λaA H1 F1 zm s1 R1 q1=>?_⟩;exact⟨F1,zm,_,_,R1,rs.mono s1,q1,λbu H2 F2 cJ s2 R2 q2=>K bu H2 F2 cJ (s1.trans s2) R2 q2⟩)
def Ca(n:Nat)(u:pP):lR:=λd σ Q=>match d with
 | .tup xs=>xs.length=n/\u xs σ Q
 | _=>False
theorem k7{es:List Expr}{kk:Nat}{u:pP}{n:Nat}{pos:Pos}(h:SG G k S es u)(hn:∀env,(assignEach es env).length=n:=by intro _;rfl)(j7:∀env,(assignEach es env).findIdx? (·.1)=none:=by intro _;rfl)(hh:S.lK=false:=by rfl):EG G k S (.Tuple es kk pos) (Ca n u):=.mk λX Y ok =>
 DM (PX (ok.calm hh) (h X Y ok) (hn _) (j7 _)) λv σ H Q q=>by
  obtain⟨F,ao,d,Qd,R,r,q,K⟩:=q;cases d with
  | tup xs =>
   cases r with
   | tup hf rl =>
    exact⟨_,_,rfl,.of (R.fr _ _ hf),by rw[rl.length];exact q.1,F,ao,xs,Qd,R,rl,q.2,K⟩
  | _=>exact q.elim
def zK(F1 H1 F2 H2:Hp):Prop:=(F2=F1/\H2=H1)\/∃p o,H1 p=none/\F2=upd F1 p o/\H2=upd H1 p o
theorem zK.same{F1 H1 F2 H2:Hp}(g:zK F1 H1 F2 H2)(s:aw F1 H1):aw F1 F2:=by
 rcases g with⟨rfl,rfl⟩|⟨p,o,h,rfl,rfl⟩
 ·exact aw.refl _
 ·exact aJ (same_none s h)
theorem zK.rs{Y:bI}{F1 H1 F2 H2:Hp}{ao:Sd}{σ:St}(g:zK F1 H1 F2 H2)(R:RS Y F1 ao σ H1):RS Y F2 ao σ H2:=by
 rcases g with⟨rfl,rfl⟩|⟨p,o,h,rfl,rfl⟩
 ·exact R
 ·exact R.alloc h
def iy(F:Hp)(J:It)(items:List D):Prop:=∀F1 H1,aw F F1->aw F1 H1->∀i:Nat,
 (∀x,items[i]?=some x->J.go i H1/\∀v H2,J.Yk i H1 v H2->∃F2,zK F1 H1 F2 H2/\Rep F2 v x)/\(i=items.length->J.stop i H1)
theorem iy.mono{F F':Hp}{J:It}{items:List D}(h:iy F J items)(s:aw F F'):iy F' J items:=λF1 H1 s1=>h F1 H1 (s.trans s1)
def lI(Y:bI)(t:fo):TI:=λσ H R=>∃F ao Qd,RS Y F ao σ H/\t ao Qd/\∀H' F' aR J items,aw F F'->RS Y F' aR σ H'->iy F' J items->Qd items aR->R J H'
structure EI(G:GE)(k:Nat)(S:Stat)(tg iter:Expr)(t:fo) :Prop where
 run:∀X Y,dD X G k S Y->PI X tg iter (lI Y t)
instance {G:GE} {k:Nat} {S:Stat} {tg iter:Expr} {t:fo} :CoeFun (EI G k S tg iter t) λ_=>∀X Y,dD X G k S Y->PI X tg iter (lI Y t):=⟨EI.run⟩
theorem nh{X:Cx}{tg e:Expr}{t t':TI}(h:PI X tg e t)(i:∀σ H Q,t' σ H Q->t σ H Q):PI X tg e t':=λpins s σ H Q I q=>h pins s σ H Q I (i σ H Q q)
theorem PY{X:Cx}{tg l:Expr}{tl:TE}(hl:PE X l tl):PI X tg l (λσ H R=>tl σ H λx H1=>(∃a,x=.ref a/\(∃xs,fm X.K H1 a xs)/\R (Y4 X.K a) H1)\/(∃a,x=.ref a/\(∃xs,iC X.K H1 a xs)/\R (Y5 X.K a) H1)):=by
 intro pins s σ H R I h;refine cD (hl pins s σ H _ I h) λv s1 ⟨x,H1,I1,r1,q1⟩=>?_;rcases q1 with⟨a,e,⟨xs,hq⟩,q⟩|⟨a,e,⟨xs,hq⟩,q⟩
 ·subst e
  cases r1;obtain⟨its,rv,p,hz⟩:=I1.list hq;refine wpAny_pyIter_list p.isList ?_;refine⟨s1.heap.objs.size,[s1.heap.objs.size],_,_,H1,rfl,I1.kept (t':=s1.toks) λb o e=>Heap.get?_push_of_some _ e,zj a _,⟨_,Heap.get?_push_size _ rfl,rfl,rfl⟩,λb hb=>?_,q⟩;have e:b=s1.heap.objs.size:=by simpa using hb
  subst e;exact I1.yq (Nat.le_refl _) (I1.bC.fresh (Nat.le_refl _))
 ·subst e
  cases r1;obtain⟨its,rv,p,hz⟩:=I1.tuple hq;refine wpAny_pyIter_tuple (show s1.heap.IsTuple a its.toArray from p) ?_
  refine⟨s1.heap.objs.size,[s1.heap.objs.size],_,_,H1,rfl,I1.kept (t':=s1.toks) λb o e=>Heap.get?_push_of_some _ e,wC a _,⟨_,Heap.get?_push_size _ rfl,rfl,rfl⟩,λb hb=>?_,q⟩;have e:b=s1.heap.objs.size:=by simpa using hb
  subst e;exact I1.yq (Nat.le_refl _) (I1.bC.fresh (Nat.le_refl _))
theorem G0{K:PySem.W.Frag}{F:Hp}{a:Addr}{vs:List V}{xs:List D}(h:Rd F a (.lst vs))(r:aG F vs xs):iy F (Y4 K a) xs:=λF1 H1 s1 s2 i=>by
 have hs:fm K H1 a vs:=.inl (Rd.mono (s1.trans s2) h);refine⟨λx e=>?_,λhl=>⟨vs,hs,by rw[r.length,hl];exact Nat.le_refl _⟩⟩
 obtain⟨v,e1,r1⟩:=r.get e;refine⟨⟨vs,v,hs,e1⟩,λv2 H2 y=>?_⟩;obtain⟨rfl,y⟩:=y;have:=y vs hs;rw[e1]at this;cases this;exact⟨F1,.inl ⟨rfl,rfl⟩,r1.mono s1⟩
theorem G1{K:PySem.W.Frag}{F:Hp}{a:Addr}{vs:List V}{xs:List D}(h:F a=some (.tup vs))(r:aG F vs xs):iy F (Y5 K a) xs:=λF1 H1 s1 s2 i=>by
 have hs:iC K H1 a vs:=.of (s2 _ _ (s1 _ _ h));refine⟨λx e=>?_,λhl=>⟨vs,hs,by rw[r.length,hl];exact Nat.le_refl _⟩⟩
 obtain⟨v,e1,r1⟩:=r.get e;refine⟨⟨vs,v,hs,e1⟩,λv2 H2 y=>?_⟩;obtain⟨rfl,y⟩:=y;have:=y vs hs;rw[e1]at this;cases this;exact⟨F1,.inl ⟨rfl,rfl⟩,r1.mono s1⟩
def cv(t:TD):fo:=λσ Q=>t σ λd aA=>match d with
 | .lst xs=>Q xs aA
 | .tup xs=>Q xs aA
 | _=>False
theorem d5{tg l:Expr}{t:TD}(h:ED G k S l t):EI G k S tg l (cv t):=.mk λX Y ok=>nh (PY (h X Y ok)) λσ H Q q=>by
 obtain⟨F,ao,Qd,R,q,K⟩:=q;refine⟨F,ao,_,R,q,λv H1 F1 d aA s1 R1 r1 q1=>?_⟩;cases d with
 | lst xs =>
  cases r1 with
  | lst hf rl=>exact .inl ⟨_,rfl,⟨_,.inl (Rd.mono R1.fr hf)⟩,K H1 F1 aA _ xs s1 R1 (G0 hf rl) q1⟩
 | tup xs =>
  cases r1 with
  | tup hf rl=>exact .inr ⟨_,rfl,⟨_,.of (R1.fr _ _ hf)⟩,K H1 F1 aA _ xs s1 R1 (G1 hf rl) q1⟩
 | _=>exact q1.elim
def yY(lo:Int)(n:Nat):List D:=(List.range n).map λi=>.int (lo+(i:Nat))
theorem xl{F:Hp}(lo:Int)(n:Nat):iy F (TN lo n) (yY lo n):=λF1 H1 s1 s2 i=>by
 refine⟨λx e=>?_,λhl=>?_⟩
 ·unfold yY at e
  rw[List.getElem?_map]at e;have hi:i<n:=by
   by_cases hi:i<n
   ·exact hi
   ·rw[List.getElem?_eq_none_iff.mpr (by simpa using hi)]at e;cases e
  rw[List.getElem?_range hi]at e;cases e;refine⟨hi,λv H2 y=>?_⟩;obtain⟨rfl,rfl⟩:=y;exact⟨F1,.inl ⟨rfl,rfl⟩,.int _⟩
 ·unfold yY at hl
  rw[List.length_map,List.length_range]at hl;exact Nat.le_of_eq hl.symm
def v8(t:wI):fo:=λσ Q=>t σ λxs aA=>match lE aA xs with
 | some [.int j]=>(-(2^62)<=j/\j<2^62)/\Q (yY 0 j.toNat) aA
 | _=>False
def HN(t:wI):fo:=λσ Q=>t σ λxs aA=>match lE aA xs with
 | some [.int i,.int j]=>(-(2^62)<=i/\i<2^62/\-(2^62)<=j/\j<2^62)/\Q (yY i (j-i).toNat) aA
 | _=>False
theorem qt{tg a:Expr}{t:wI}{p pos:Pos}(h:FI G k S [a] t)(hm:G.mg "range"=none)(hg:S.sc.lookup ("range":Str)=some .globalImplicit:=by rfl)(hs:∀env,starEach [a] env=[(false,eval a env)]:=by intro _;rfl):EI G k S tg (.Call (.Name "range" p) [a] [] pos) (v8 t):=.mk λX Y ok =>
 nh (yT (dI ok hg) (by rw[ok.mg];exact hm) (h X Y ok) (hs _)) λσ H Q q=>by
  obtain⟨F,ao,Qd,R,q,K⟩:=q;refine⟨F,ao,_,R,q,λvs H1 F1 xs aA s1 R1 r1 q1=>?_⟩
  split at q1
  ·rename_i j e
   obtain⟨v,rfl,rv⟩:=(R1.lE r1 e).one;obtain rfl:=rv.int;exact⟨j,rfl,q1.1.1,q1.1.2,K H1 F1 aA _ _ s1 R1 (xl 0 _) q1.2⟩
  ·exact q1.elim
theorem Nb{tg a b:Expr}{t:wI}{p pos:Pos}(h:FI G k S [a,b] t)(hm:G.mg "range"=none)(hg:S.sc.lookup ("range":Str)=some .globalImplicit:=by rfl)(hs:∀env,starEach [a,b] env=[(false,eval a env),(false,eval b env)]:=by intro _;rfl)(CT:∀env,starEach [b] env=[(false,eval b env)]:=by intro _;rfl):EI G k S tg (.Call (.Name "range" p) [a,b] [] pos) (HN t):=.mk λX Y ok =>
 nh (yU (dI ok hg) (by rw[ok.mg];exact hm) (h X Y ok) (hs _) (CT _)) λσ H Q q=>by
  obtain⟨F,ao,Qd,R,q,K⟩:=q;refine⟨F,ao,_,R,q,λvs H1 F1 xs aA s1 R1 r1 q1=>?_⟩
  split at q1
  ·rename_i i j e
   obtain⟨v,u,rfl,rv,ru⟩:=(R1.lE r1 e).two;obtain rfl:=rv.int;obtain rfl:=ru.int;exact⟨i,j,rfl,q1.1,K H1 F1 aA _ _ s1 R1 (xl i _) q1.2⟩
  ·exact q1.elim
def tI(g:lR)(tb:cu)(De:iw):List D->Sd->Prop
 | [],σ=>De.nx σ
 | x::xs,σ=>g x σ λaA=>tb {De with nx:=tI g tb De xs,ct:=tI g tb De xs,bk:=De.nx} aA
def dj(ti:fo)(g:lR)(tb:cu):cu:=λDe σ=>ti σ λitems aA=>tI g tb De items aA
theorem fZ{tg iter:Expr}{body:List Stmt}{ti:fo}{g:lR}{tb:cu}{pos:Pos}(hi:EI G k S tg iter ti)(hg:EG G k S tg g)(hb:dC G k S body tb)(hs:∀env x,foldedSetIterable iter env x=pure x:=by intro _ _;rfl)(hh:S.lK=false:=by rfl):
  ES G k S (.For tg iter body [] pos) (dj ti g tb):=.mk λX Y ok=>c5 (QC (ok.po hh) (ok.calm hh) (hi X Y ok) (hg X Y ok) (hb X Y ok) (hs _)) λDn σ H q=>by
 obtain⟨F,ao,De,R,q,K⟩:=q;refine⟨F,ao,_,R,q,λH1 F1 zm J items s1 R1 it q1=>?_⟩;refine⟨λi m bN H'=>∃F' aR,aw F1 F'/\RS Y F' aR bN H'/\tI g tb De (items.drop i) aR/\m=items.length-i/\i<=items.length,⟨items.length,F1,zm,aw.refl _,R1,q1,rfl,Nat.zero_le _⟩,?_⟩;rintro i m bN H' ⟨F',aR,s',R',q',rfl,hi⟩;have vf:=it F' H' s' R'.fr i
 by_cases hl:i<items.length
 ·right
  have hd:items.drop i=items[i]::items.drop (i+1):=by rw[List.drop_eq_getElem_cons hl]
  rw[hd]at q';obtain⟨go,yl⟩:=vf.1 items[i] (by rw[List.getElem?_eq_getElem hl])
  refine⟨go,λbu H2=>∃F2 cJ,aw F1 F2/\RS Y F2 cJ bu H2/\tI g tb De (items.drop (i+1)) cJ,λbu H2 ⟨F2,cJ,s2,R2,q2⟩=>⟨items.length-(i+1),by omega,F2,cJ,s2,R2,q2,rfl,hl⟩,λv H2 y=>?_⟩
  obtain⟨F2,gr,rep⟩:=yl v H2 y;have s2:aw F1 F2:=s'.trans (gr.same R'.fr);refine⟨F2,aR,items[i],_,gr.rs R',rep,q',λeB H3 F3 aaP s3 R3 q3=>⟨F3,aaP,_,R3,q3,?_⟩⟩;refine⟨λzl H4 F4 fB s4 R4 q4=>⟨F4,fB,(s2.trans s3).trans s4,R4,q4⟩,λv4 zl H4 F4 fB b s4 R4 r4 q4=>K.rt v4 zl H4 F4 fB b (((s1.trans s2).trans s3).trans s4) R4 r4 q4,
   λzl H4 F4 fB s4 R4 q4=>K.nx zl H4 F4 fB (((s1.trans s2).trans s3).trans s4) R4 q4,λzl H4 F4 fB s4 R4 q4=>⟨F4,fB,(s2.trans s3).trans s4,R4,q4⟩⟩
 ·left
  have e:i=items.length:=by omega
  subst e;rw[List.drop_length]at q';exact⟨vf.2 rfl,K.nx bN H' F' aR (s1.trans s') R' q'⟩
end Vc
namespace Vc
open PySem L2
variable [KF]
theorem pY{prog:Program}{w:World}{A:Around}{R:Result->Shared->Prop}{s:Shared}{elt target iter:Expr}{ifs:List Expr}{scope:Scope}{pos:Pos}{it acc:Value}{env:Env}(I:Nat->Shared->Prop)
  (turn:∀n s,I n s->wpAny (model prog w) A (pyNext it) (λr bL=>match r with
   | none=>R (.ok .next) bL
   | some v=>wpAny (model prog w) A (letOwnedTupleGo target it v) (λ_ J8=>wpAny (model prog w) A (assign target env v) (λ_ rS =>
     wpAny (model prog w) A (forIn ifs true λc r=>if r=true then do let ok <- isTrue c env (eval c env);pure (ForInStep.yield ok)else pure (ForInStep.yield r)) (λok uI =>
      if ok=true then wpAny (model prog w) A (eval elt env) (λx Ig =>
       wpAny (model prog w) A (call (.builtin "list.append") [acc,x]) (λ_ X6=>∃m,m<n/\I m X6) (λ_ _=>False) Ig) (λ_ _=>False) uI
      else∃m,m<n/\I m uI) (λ_ _=>False) rS) (λ_ _=>False) J8) (λ_ _=>False) bL) (λ_ _=>False) s)
  (n:Nat) (h:I n s):codeAny (model prog w) A (.compLoop (.ListComp elt [⟨target,iter,ifs,0⟩] scope pos) 0 it acc env) R s:=by
 refine codeAny_loop rfl I (λn s hI=>?_) n h;show wpAny _ A ((compTurn (.ListComp elt [⟨target,iter,ifs,0⟩] scope pos) 0 it acc env).onRaise (λx=>do noteFrame x env;theTreesLotGoes x)) _ _ s
 refine wpAny_noted ?_;rw[compTurn_list];refine wpAny_bind (wpAny_standAt (wpAny_bind (wpAny_mono (turn n s hI) (λr bL GQ=>?_) λ_ _ h'=>h'.elim)));cases r with
 | none=>exact wpAny_pure GQ
 | some v =>
  refine wpAny_bind (wpAny_mono GQ (λ_ J8 V4=>?_) λ_ _ h'=>h'.elim);refine wpAny_bind (wpAny_mono V4 (λ_ rS CW=>wpAny_bind (wpAny_mono CW (λok uI GR=>?_) λ_ _ h'=>h'.elim)) λ_ _ h'=>h'.elim);cases ok with
  | false=>exact wpAny_pure ⟨rfl,GR⟩
  | true =>
   exact wpAny_bind (wpAny_bind (wpAny_mono GR (λx Ig aak=>wpAny_bind (wpAny_mono aak (λ_ X6 aal=>wpAny_pure (wpAny_pure ⟨rfl,aal⟩)) λ_ _ h'=>h'.elim)) λ_ _ h'=>h'.elim))
def gT(env:Env):List (Str×NameKind)->List (Str×Addr)->List (Str×Addr)
 | [],cs=>cs
 | (n,k)::r,cs=>if k==.free then gT env r ((n,(env.cells.lookup n).getD 0)::cs)else gT env r cs
theorem mG{env:Env}{scope:Scope}(h:∀x∈scope.names,x.2=.free->∃c,env.cells.lookup x.1=some c):closureFor scope env=pure (gT env scope.names []):=by
 have all:∀(l:List (Str×NameKind)) (cs:List (Str×Addr)),(∀x∈l,x.2=.free->∃c,env.cells.lookup x.1=some c) ->
   (forIn l cs λx cs=>if(x.2==NameKind.free)=true then(do let a <- cellOf env x.1;pure (ForInStep.yield ((x.1,a)::cs)))else pure (ForInStep.yield cs):Sem (List (Str×Addr)))=pure (gT env l cs):=by
  intro l
  induction l with
  | nil=>intro cs _;rfl
  | cons x l ih =>
   intro cs hl;obtain⟨n,k⟩:=x;rw[List.forIn_cons];unfold gT
   by_cases hk:k=.free
   ·subst hk
    obtain⟨c,e⟩:=hl (n,.free) List.mem_cons_self rfl;have e':env.cells.lookup n=some c:=e;simp only[beq_self_eq_true,if_true,cellOf,e',Option.getD_some,pure_bind];exact ih _ λy hy=>hl y (List.mem_cons_of_mem _ hy)
   ·have hb:(k==NameKind.free)=false:=by simpa using hk
    simp only[hb,Bool.false_eq_true,if_false,pure_bind];exact ih _ λy hy=>hl y (List.mem_cons_of_mem _ hy)
 have h1:=all scope.names [] h;have h2:closureFor scope env=((forIn scope.names ([]:List (Str×Addr)) λx cs=>if(x.2==NameKind.free)=true then(do let a <- cellOf env x.1;pure (ForInStep.yield ((x.1,a)::cs)))else pure (ForInStep.yield cs):Sem (List (Str×Addr))) >>= λcs=>pure cs):=rfl
 rw[h2,h1,pure_bind]
theorem b9{env:Env}:∀(l:List (Str×NameKind)) (cs:List (Str×Addr)) (x:Str) (c:Addr),(∀y∈l,y.2=.free->∃c,env.cells.lookup y.1=some c)->(gT env l cs).lookup x=some c->env.cells.lookup x=some c\/cs.lookup x=some c
 | [],cs,x,c,_,h=>.inr h
 | (n,k)::r,cs,x,c,hl,h=>by
  unfold gT at h
  by_cases hk:k=.free
  ·subst hk
   simp only[beq_self_eq_true,if_true]at h;obtain⟨c',e⟩:=hl (n,.free) List.mem_cons_self rfl;have e':env.cells.lookup n=some c':=e;rcases b9 r _ x c (λy hy=>hl y (List.mem_cons_of_mem _ hy)) h with q|q
   ·exact .inl q
   ·rw[List.lookup_cons]at q
    cases hx:x==n with
    | true =>
     rw[hx]at q;have:=eq_of_beq hx;subst this;rw[e',Option.getD_some]at q;exact .inl (e'.trans q)
    | false=>rw[hx]at q;exact .inr q
  ·have hb:(k==NameKind.free)=false:=by simpa using hk
   simp only[hb,Bool.false_eq_true,if_false]at h;exact b9 r cs x c (λy hy=>hl y (List.mem_cons_of_mem _ hy)) h
theorem kr{env:Env}:∀(l:List (Str×NameKind)) (cs:List (Str×Addr)) (x:Str),(cs.lookup x).isSome=true->((gT env l cs).lookup x).isSome=true
 | [],cs,x,h=>h
 | (n,k)::r,cs,x,h=>by
  unfold gT
  by_cases hk:k=.free
  ·subst hk
   simp only[beq_self_eq_true,if_true];refine kr r _ x ?_;rw[List.lookup_cons];cases hx:x==n with
   | true=>rfl
   | false=>exact h
  ·have hb:(k==NameKind.free)=false:=by simpa using hk
   simp only[hb,Bool.false_eq_true,if_false];exact kr r cs x h
theorem iE{env:Env}:∀(l:List (Str×NameKind)) (cs:List (Str×Addr)) (x:Str),(x,NameKind.free)∈l->((gT env l cs).lookup x).isSome=true
 | (n,k)::r,cs,x,h=>by
  unfold gT;rcases List.mem_cons.mp h with e|e
  ·cases e
   simp only[beq_self_eq_true,if_true];refine kr r _ _ ?_;rw[List.lookup_cons,beq_self_eq_true];rfl
  ·split
   ·exact iE r _ x e
   ·exact iE r cs x e
structure kX(X X':Cx)(scope:Scope)(N':List Str):Prop where
 P:X'.prog=X.prog
 w:X'.w=X.w
 K:X'.K=X.K
 mg:X'.mg=X.mg
 base:X'.base=X.base
 A:X'.A=X.A
 N:X'.N=N'
 sc:X'.env.scope=relabel scope X.env
 calm:X'.calm=true
 xe:X'.xe=λ_ _=>False
def FN(X:Cx)(ifs:List Expr)(t:TT):Prop:=∀(pins:List (Addr×Obj)) (s:Shared) (σ:St) (H:Hp) (Q:Bool->Hp->Prop),L2.Inv X pins σ H s->t σ H Q ->
 wpAny (model X.prog X.w) X.A (forIn ifs true λc r=>if r=true then do let ok <- isTrue c X.env (eval c X.env);pure (ForInStep.yield ok)else pure (ForInStep.yield r)) (TP X pins σ Q) X.xe s
theorem HC{X:Cx}:FN X [] (λ_ H Q=>Q true H):=λpins s σ H Q I h=>wpAny_tests_nil ⟨H,I,h⟩
theorem HD{X:Cx}{c:Expr}{t:TT}(h:PT X c t):FN X [c] t:=λpins s σ H Q I q=>wpAny_tests_one (h pins s σ H Q I q)
def fC(caps:List (Option Nat))(σ:St):St:=caps.map λc=>match c with
 | some j=>(σ[j]?).join
 | none=>none
def kQ(wi:TI)(caps:List (Option Nat))(g:TG)(tc:TT)(te:TE):TE:=λσ H Q=>wi σ H λJ H1=>∀acc,H1 acc=none->∃W:Nat->Nat->St->Hp->Prop,(∃m,W 0 m (fC caps σ) (upd H1 acc (.lst [])))/\∀i m aA H,W i m aA H ->
 (J.stop i H/\Q (.ref acc) H)\/(J.go i H/\∀x H',J.Yk i H x H'->g x aA H' λbu H2=>tc bu H2 λb H3=>if b=true then te bu H3 λv H4=>∃ys m',H4 acc=some (.lst ys)/\ys.length<sizeLine/\m'<m/\W (i+1) m' bu (upd H4 acc (.lst (ys++[v])))else∃m',m'<m/\W (i+1) m' bu H3)
theorem fw{env:Env}:∀ {names:List (Str×NameKind)} {x:Str} {k:NameKind},(names.map λ(n,k)=>if(k==NameKind.free&&env.scope.kind==.function&&env.kindOf n==some .cell)then(n,NameKind.cell)else(n,k)).lookup x=some k ->
  names.lookup x=some k\/(k=.cell/\names.lookup x=some .free)
 | [],_,_,h=>by simp at h
 | (n,k')::r,x,k,h=>by
  have ih:=@fw env r x k;have h:List.lookup x ((if(k'==NameKind.free&&env.scope.kind==.function&&env.kindOf n==some .cell)=true then(n,NameKind.cell)else(n,k'))::_)=some k:=h
  cases hx:x==n with
  | true =>
   by_cases hc:(k'==NameKind.free&&env.scope.kind==.function&&env.kindOf n==some .cell)=true
   ·rw[if_pos hc]at h
    simp only[List.lookup_cons,hx]at h ⊢;cases h;simp only[Bool.and_eq_true,beq_iff_eq]at hc;exact .inr ⟨rfl,by rw[hc.1.1]⟩
   ·rw[if_neg hc]at h
    simp only[List.lookup_cons,hx]at h ⊢;exact .inl h
  | false =>
   by_cases hc:(k'==NameKind.free&&env.scope.kind==.function&&env.kindOf n==some .cell)=true
   ·rw[if_pos hc]at h
    simp only[List.lookup_cons,hx]at h ⊢;exact ih h
   ·rw[if_neg hc]at h
    simp only[List.lookup_cons,hx]at h ⊢;exact ih h
theorem jh{env:Env}:∀ {names:List (Str×NameKind)} {x:Str},names.lookup x=some .free ->
  (names.map λ(n,k)=>if(k==NameKind.free&&env.scope.kind==.function&&env.kindOf n==some .cell)then(n,NameKind.cell)else(n,k)).lookup x=some .cell \/
  (names.map λ(n,k)=>if(k==NameKind.free&&env.scope.kind==.function&&env.kindOf n==some .cell)then(n,NameKind.cell)else(n,k)).lookup x=some .free
 | [],_,h=>by simp at h
 | (n,k')::r,x,h=>by
  have ih:=@jh env r x;show List.lookup x ((if(k'==NameKind.free&&env.scope.kind==.function&&env.kindOf n==some .cell)=true then(n,NameKind.cell)else(n,k'))::_)=some .cell\/List.lookup x ((if(k'==NameKind.free&&env.scope.kind==.function&&env.kindOf n==some .cell)=true then(n,NameKind.cell)else(n,k'))::_)=some .free
  cases hx:x==n with
  | true =>
   simp only[List.lookup_cons,hx]at h
   by_cases hc:(k'==NameKind.free&&env.scope.kind==.function&&env.kindOf n==some .cell)=true
   ·rw[if_pos hc];left;simp only[List.lookup_cons,hx]
   ·rw[if_neg hc];right;simp only[List.lookup_cons,hx];exact h
  | false =>
   simp only[List.lookup_cons,hx]at h
   by_cases hc:(k'==NameKind.free&&env.scope.kind==.function&&env.kindOf n==some .cell)=true
   ·rw[if_pos hc];simp only[List.lookup_cons,hx];exact ih h
   ·rw[if_neg hc];simp only[List.lookup_cons,hx];exact ih h
structure fJ(X:Cx)(scope:Scope)(N':List Str)(caps:List (Option Nat)):Prop where
 kind:scope.kind=.function
 m9:∀y∈scope.names,y.2≠.cell
 names:∀y∈scope.names,y.2=.local->scope.names.lookup y.1=some .local
 free:∀y∈scope.names,y.2=.free->X.env.kindOf y.1=some .cell\/X.env.kindOf y.1=some .free
 len:caps.length=N'.length
 SM:∀(i:Nat) (j:Nat),caps[i]?=some (some j)->∃x,N'[i]?=some x/\X.N[j]?=some x/\scope.names.lookup x=some .free
section
variable {X:Cx}{pins:List (Addr×Obj)}{σ:St}{H:Hp}{s:Shared}{elt target iter:Expr}{ifs:List Expr}{scope:Scope}{pos:Pos}{N':List Str}{caps:List (Option Nat)}
theorem fJ.cells(SC:fJ X scope N' caps)(ok:X.Ok):∀x∈scope.names,x.2=.free->∃c,X.env.cells.lookup x.1=some c:=λx hx hf=>ok.has x.1 (SC.free x hx hf)
def Ft(X:Cx)(scope:Scope)(N':List Str)(bP:Shared)(j8:Hp)(C:Addr)(fp:List Addr):Cx:=
 {X with N:=N',bP:=bP,j8:=j8,env:=compEnvC scope (gT X.env scope.names []) C X.env,outer:=X.stack,ex:=fp,fn:=λ_=>false,calm:=true,pn:=[],xe:=λ_ _=>False}
theorem LC(I:L2.Inv X pins σ H s)(SC:fJ X scope N' caps)(hc:X.calm=true){fp:List Addr}(hf:∀b∈fp,gH X pins H b)(gK:∀b∈fp,b<s.heap.objs.size):(Ft X scope N' s H s.heap.objs.size fp).Ok where
 mod:=I.ok.mod
 kind:=SC.kind
 glob:=I.ok.glob
 blt:=I.ok.blt
 above:=Nat.le_refl _
 inj:=λx y c h1 h2=>by
  have f:∀z,(gT X.env scope.names []).lookup z=some c->X.env.cells.lookup z=some c:=λz h=>by
   rcases b9 scope.names [] z c (SC.cells I.ok) h with q|q
   ·exact q
   ·cases q
  exact I.ok.inj x y c (f x h1) (f y h2)
 has:=λx hx=>by
  have hx:(relabel scope X.env).names.lookup x=some .cell\/(relabel scope X.env).names.lookup x=some .free:=hx;have xf:scope.names.lookup x=some .free:=by
   rcases hx with hx|hx
   ·rcases fw hx with q|⟨_,q⟩
    ·exact absurd rfl (SC.m9 _ (PySem.mem_of_lookup q))
    ·exact q
   ·rcases fw hx with q|⟨q,_⟩
    ·exact q
    ·cases q
  exact Option.isSome_iff_exists.mp (iE scope.names [] x (PySem.mem_of_lookup xf))
 Jp:=λx c h=>by cases h
 hd:=λ_=>I.ok.hd hc
 frames:=I.ok.frames
 RM:=.inl rfl
 Vh:=λb hb=>⟨Nat.ne_of_lt (gK b hb),λx c h=>by
  rcases b9 scope.names [] x c (SC.cells I.ok) h with q|q
  ·exact(hf b hb).2.2.2.2.1 x c q
  ·cases q⟩
 bs:=I.bs
 zr:=Nat.le_trans I.ok.zr I.sz
 um:=λb o e hb=>by
  rcases(hf b hb).2.2.2.1 with q|q
  ·exact I.ok.um b o e q
  ·exact absurd (Nat.lt_of_lt_of_le (Heap.lt_size e) (Nat.le_trans I.ok.zr q)) (Nat.lt_irrefl _)
 vG:=λb hb z=>by
  rcases List.mem_cons.mp (I.rR b z)with q|q
  ·exact(hf b hb).2.1 q
  ·exact(hf b hb).2.2.1 q
 iO:=I.stack
 Gu:=I.jP
theorem Ge(I:L2.Inv X pins σ H s)(SC:fJ X scope N' caps)(hc:X.calm=true){fp:List Addr}(hf:∀b∈fp,gH X pins H b)(gK:∀b∈fp,b<s.heap.objs.size){h1:Heap}{t1:Nat}(hn:h1.Ns s.heap.objs.size (λ_=>none))(hk:∀b o,s.heap.get? b=some o->h1.get? b=some o):
  L2.Inv (Ft X scope N' s H s.heap.objs.size fp) [] (fC caps σ) H {s with heap:=h1,toks:=t1} where
 ok:=LC I SC hc hf gK
 os:=rfl
 bare:=I.bare
 base:=Un.kept hk
 loc:=by
  refine⟨_,hn,λi x v e1 e2 _=>?_⟩;have e2:(caps.map λc=>match c with|some j=>(σ[j]?).join|none=>none)[i]?=some (some v):=e2
  rw[List.getElem?_map]at e2;cases ec:caps[i]? with
  | none=>rw[ec]at e2;cases e2
  | some c =>
   rw[ec]at e2;cases c with
   | none=>cases e2
   | some j =>
    have e2:(σ[j]?).join=some v:=Option.some.inj e2;have e3:σ[j]?=some (some v):=by
     cases q:σ[j]? with
     | none=>rw[q]at e2;cases e2
     | some w =>
      rw[q]at e2;cases w with
      | none=>cases e2
      | some z=>cases e2;rfl
    obtain⟨y,w1,w2,w3⟩:=SC.SM i j ec;have e1:N'[i]?=some x:=e1;rw[w1]at e1;cases e1;have VJ:=SC.free (x,.free) (PySem.mem_of_lookup w3) rfl;obtain⟨m,hm,hl⟩:=I.loc;obtain⟨u,r,l⟩:=hl j x v w2 e3 (.inr VJ);refine⟨u,r,?_⟩;rcases l with⟨k1,_⟩|⟨_,c,Fv,xa⟩
    ·have VJ:X.env.kindOf x=some .cell\/X.env.kindOf x=some .free:=VJ
     rw[k1]at VJ;rcases VJ with z|z<;>cases z
    ·right
     refine⟨jh w3,c,?_,?_⟩
     ·obtain⟨c',e'⟩:=Option.isSome_iff_exists.mp (iE (env:=X.env) scope.names [] x (PySem.mem_of_lookup w3))
      rcases b9 scope.names [] x c' (SC.cells I.ok) e' with q|q
      ·rw[Fv]at q;cases q
       exact e'
      ·cases q
     ·obtain⟨o,ho,hd⟩:=xa
      exact⟨o,hk _ _ ho,hd⟩
 cell:=λx c h=>by
  rcases b9 scope.names [] x c (SC.cells I.ok) h with q|q
  ·obtain⟨v,o,ho,hd⟩:=I.cell x c q
   exact⟨v,o,hk _ _ ho,hd⟩
  ·cases q
 free:=I.bC.fresh (Nat.le_refl _)
 dy:=λx c h=>by
  rcases b9 scope.names [] x c (SC.cells I.ok) h with q|q
  ·exact I.dy x c q
  ·cases q
 pin:=λp hp=>absurd (show p∈([]:List (Addr×Obj))from hp) (by simp)
 bC:=I.bC.kept hk
 len:=by
  show(caps.map _).length=N'.length;rw[List.length_map];exact SC.len
theorem sC(I:L2.Inv X pins σ H s)(SC:fJ X scope N' caps)(hc:X.calm=true){it:Addr}{fp:List Addr}{tn:Nat->Heap->Prop}{J:It}(T:Turn X.prog X.w X.K target J fp it tn)(t0:tn 0 s.heap)(hf:∀b∈fp,gH X pins H b)
  {g:TG} {tc:TT} {te:TE} (CH:∀X',kX X X' scope N'->PG X' target g/\FN X' ifs tc/\PE X' elt te) {Q:VK}
  (q:∀acc,H acc=none->∃W:Nat->Nat->St->Hp->Prop,(∃m,W 0 m (fC caps σ) (upd H acc (.lst [])))/\∀i m aA H,W i m aA H ->
   (J.stop i H/\Q (.ref acc) H)\/(J.go i H/\∀x H',J.Yk i H x H'->g x aA H' λbu H2=>tc bu H2 λb H3=>if b=true then te bu H3 λv H4=>∃ys m',H4 acc=some (.lst ys)/\ys.length<sizeLine/\m'<m/\W (i+1) m' bu (upd H4 acc (.lst (ys++[v])))else∃m',m'<m/\W (i+1) m' bu H3))
  {E:Value->Shared->Prop} {RR:Value->Addr->Result->Shared->Prop}
  (hRR:∀acc C H' s',L2.Inv X pins σ H' s'->gH X pins H' C->(∃m,s'.heap.Ns C m)->Q (.ref acc) H'->RR (.ref acc) C (.ok .next) s'):
  wpAny (model X.prog X.w) X.A (newList []) (λacc uI=>wpAny (model X.prog X.w) X.A (newFunctionEnv scope X.env.globals (gT X.env scope.names []) [] X.env.qual none .none (some X.env)) (λUk Ig =>
   codeAny (model X.prog X.w) X.A (.compStart (.ListComp elt [⟨target,iter,ifs,0⟩] scope pos) 0 (.ref it) acc {Uk with scope:=relabel scope X.env}) (RR acc Uk.locals) Ig) E uI) E s:=by
 refine wpAny_newObj_type ?_;have iU:H s.heap.objs.size=none:=I.bC.fresh (Nat.le_refl _);have I3:L2.Inv X pins σ (upd H s.heap.objs.size (.lst [])) {s with heap:=s.heap.push {cls:=.type "list",dict:=none,data:=.seq ([]:List Value).toArray}}:=I.N0 (t':=s.toks) (its:=[]) (ys:=[]) .nil (Nat.zero_le _)
 obtain⟨W,⟨m0,w0⟩,step⟩:=q _ iU;generalize hs3:({s with heap:=s.heap.push {cls:=.type "list",dict:=none,data:=.seq ([]:List Value).toArray}}:Shared)=s3 at I3 ⊢
 generalize hH3:upd H s.heap.objs.size (.lst [])=H3 at I3 w0;generalize Vz:s.heap.objs.size=acc at *;have up3:∀b o,s.heap.get? b=some o->s3.heap.get? b=some o:=λb o e=>by rw[<- hs3];exact Heap.get?_push_of_some _ e
 have Vu:∀b∈fp,b<s3.heap.objs.size:=λb hb=>by
  obtain⟨o,e,_⟩:=T.obj 0 _ t0 b hb;exact Heap.lt_size (up3 b o e)
 have Yt:∀b∈fp,gH X pins H3 b:=λb hb=>by
  obtain⟨f0,f⟩:=hf b hb;refine⟨?_,f⟩;obtain⟨o,e,_⟩:=T.obj 0 _ t0 b hb;have:b≠acc:=by rw[<- Vz];exact Nat.ne_of_lt (Heap.lt_size e)
  rw[<- hH3,ak this];exact f0
 have t3:tn 0 s3.heap:=T.keep 0 _ _ t0 λb _ o e=>up3 b o e;refine wpAny_newFunctionEnv SC.m9 (by intro y hy;simp at hy) (λh1 Yx sb1=>?_) SC.kind
 have nQ:∀b o,s3.heap.get? b=some o->h1.get? b=some o:=λb o e=>sb1.extBut b o (Nat.ne_of_lt (Heap.lt_size e)) (Heap.get?_push_of_some _ e);have cx:kX X (Ft X scope N' s3 H3 s3.heap.objs.size fp) scope N':=⟨rfl,rfl,rfl,rfl,rfl,rfl,rfl,rfl,rfl,rfl⟩;obtain⟨hg,ht,he⟩:=CH _ cx;have M1:h1.Ns s3.heap.objs.size (λ_=>none):=by simpa using Yx
 have ZF:∀ {H':Hp},(∀b∈fp,H' b=none)->∀b∈fp,gH (Ft X scope N' s3 H3 s3.heap.objs.size fp) [] H' b:=λ{H'} hn b hb=>by
  obtain⟨f0,f1,f2,f3,f4,f5⟩:=Yt b hb;refine⟨hn b hb,Nat.ne_of_lt (Vu b hb),?_,.inl hb,λx c h=>?_,λp hp=>absurd (show p∈([]:List (Addr×Obj))from hp) (by simp)⟩
  ·intro z
   rcases List.mem_cons.mp (I3.rR b z)with q|q
   ·exact f1 q
   ·exact f2 q
  ·rcases b9 scope.names [] x c (SC.cells I.ok) h with q|q
   ·exact f4 x c q
   ·cases q
 have loop:∀s4:Shared,L2.Inv (Ft X scope N' s3 H3 s3.heap.objs.size fp) [] (fC caps σ) H3 s4->tn 0 s4.heap->codeAny (model X.prog X.w) X.A (.compLoop (.ListComp elt [⟨target,iter,ifs,0⟩] scope pos) 0 (.ref it) (.ref acc) (compEnvC scope (gT X.env scope.names []) s3.heap.objs.size X.env)) (RR (.ref acc) s3.heap.objs.size) s4:=by
  intro s4 I4 t4;refine pY (λn s'=>∃i aA H',L2.Inv (Ft X scope N' s3 H3 s3.heap.objs.size fp) [] aA H' s'/\tn i s'.heap/\(∀b∈fp,H' b=none)/\W i n aA H') ?_ m0 ⟨0,_,H3,I4,t4,λb hb=>(Yt b hb).1,w0⟩;rintro n s5 ⟨i,aA,H5,I5,Tg,Fu,w5⟩;rcases step i n aA H5 w5 with⟨stop,qn⟩|⟨go,body⟩
  ·refine cD (T.done (Ft X scope N' s3 H3 s3.heap.objs.size fp) rfl rfl rfl rfl i [] s5 aA H5 _ I5 (ZF Fu) Tg stop) λr s6 ⟨hr,I6⟩=>?_
   subst hr;have u:=I6.base;refine hRR acc _ H5 s6 (I3.su (ch:=fp) I6.os u I6.bC I6.bare λb hb=>?_) (I3.yq (Nat.le_refl _) I6.free) ?_ qn
   ·obtain⟨f0,f1,f2,f3,f4,f5⟩:=Yt b hb
    exact⟨f3.imp id λz=>Heap.get?_none_of_le z,f1,f4,f5⟩
   ·obtain⟨m,hm,_⟩:=I6.loc
    exact⟨m,hm⟩
  ·refine cD (T.item (Ft X scope N' s3 H3 s3.heap.objs.size fp) rfl rfl rfl rfl i [] s5 aA H5 _ I5 (ZF Fu) Tg go) λr s6 ⟨u,hr,h6⟩=>?_
   subst hr;refine cD h6 λ_ s7 ⟨x,H7,I7,r7,y7,st7,fr7⟩=>?_;have I7':=I7.pinned (ZF fr7) (T.obj _ _ st7);have back:∀ {FG:St} {H8:Hp} {s8:Shared},L2.Inv (Ft X scope N' s3 H3 s3.heap.objs.size fp) ([]++kH fp s7.heap) FG H8 s8->L2.Inv (Ft X scope N' s3 H3 s3.heap.objs.size fp) [] FG H8 s8/\tn (i+1) s8.heap/\∀b∈fp,H8 b=none:=λ{FG H8 s8} I8=>by
    refine⟨I8.f9,T.keep _ _ _ st7 λb hb o e=>(I8.pin (b,o) (List.mem_append_right _ (List.mem_append_right _ (d8 hb e)))).1,λb hb=>?_⟩;obtain⟨o,e,d⟩:=T.obj _ _ st7 b hb;exact(I8.pin (b,o) (List.mem_append_right _ (List.mem_append_right _ (d8 hb e)))).2.1
   refine cD (hg _ s7 aA H7 x u _ I7' r7 (body x H7 y7)) λ_ s8 ⟨FG,H8,I8,q8⟩=>?_;refine cD (ht _ s8 FG H8 _ I8 q8) λb s9 ⟨H9,I9,q9⟩=>?_;cases b with
   | false =>
    obtain⟨m',hm,w9⟩:=q9;obtain⟨J1,J2,J3⟩:=back I9;exact⟨m',hm,i+1,FG,H9,J1,J2,J3,w9⟩
   | true =>
    refine cD (he _ s9 FG H9 _ I9 q9) λy s10 ⟨v,H10,I10,r10,ys,m',e10,hz,hm,w10⟩=>?_;refine cD (eW _ s10 FG H10 (.ref acc) [v] (.ref acc) [y] (λz Y3=>z=.aX/\W (i+1) m' FG Y3) I10 rfl (.cons r10 .nil) ⟨acc,ys,v,rfl,rfl,e10,hz,rfl,w10⟩) λ_ s11 ⟨_,Y3,I11,_,_,w11⟩=>?_;obtain⟨J1,J2,J3⟩:=back I11;exact⟨m',hm,i+1,FG,Y3,J1,J2,J3,w11⟩
 have I4:=Ge (caps:=caps) (N':=N') I3 SC hc Yt Vu (t1:=s3.toks+([]:List (Str×Value)).length) M1 nQ;have t4:tn 0 h1:=T.keep 0 _ _ t3 λb _ o e=>nQ b o e;exact codeAny_compStart_list (loop _ I4 t4) (T.self X.A 0 _ _ _ t4 (loop _ I4 t4))
end
end Vc
namespace Vc
open PySem L2
variable [KF]
section
variable {X:Cx}{elt target iter:Expr}{ifs:List Expr}{scope:Scope}{pos:Pos}{N':List Str}{caps:List (Option Nat)}{wi:TI}{g:TG}{tc:TT}{te:TE}
theorem wY{pins:List (Addr×Obj)}{σ:St}{H:Hp}{s:Shared}{C:Addr}{h':Heap}(f:gH X pins H C)(I:L2.Inv X pins σ H s)(hs:Heap.SameBut C s.heap h'):L2.Inv X pins σ H {s with heap:=h'}:=by
 obtain⟨f0,f1,f2,f3,f4,f5⟩:=f;exact I.turned (t':=s.toks) (λb o hb e=>hs.extBut b o hb e) f0 f1 f3 f4 f5
theorem qD(hc:X.calm=true)(hi:PI X target iter wi)(SC:fJ X scope N' caps)(CH:∀X',kX X X' scope N'->PG X' target g/\FN X' ifs tc/\PE X' elt te)(hs:∀x,foldedSetIterable iter X.env x=pure x):
  PE X (.ListComp elt [⟨target,iter,ifs,0⟩] scope pos) (kQ wi caps g tc te):=by
 intro pins s σ H Q I h;rw[eval_ListComp];refine wpAny_comprehension_free (use:=none) rfl hs (mG (SC.cells I.ok)) SC.kind SC.names (cD (hi pins s σ H _ I h) λv s1 h1=>cD h1 λYF s2 h2=>?_);obtain⟨it,fp,tn,J,H2,rfl,I2,T,t0,f2,q2⟩:=h2;exact sC I2 SC hc T t0 f2 CH q2 (RR:=λacc C=>compPost (model X.prog X.w) X.A X.xe none (EP X pins σ Q) acc C) λacc C H' s' I' f' ⟨m,hm⟩ q'=>⟨m,hm,λh' j6=>⟨.ref acc,H',wY f' I' j6,rfl,q'⟩⟩
theorem xG{i:Nat}{y:Str}{py fH:Pos}(hc:X.calm=true)(hi:PI X target iter wi)(SC:fJ X scope N' caps)(CH:∀X',kX X X' scope N'->PG X' target g/\FN X' ifs tc/\PE X' elt te)(hs:∀x,foldedSetIterable iter X.env x=pure x)
  (hN:X.N.Nodup) (hy:X.N[i]?=some y) (hx:X.env.scope.names.lookup y=some .local) (hsw:swapsWith (.ListComp elt [⟨target,iter,ifs,0⟩] scope pos) (some (.Name y py)) fH.line X.env=pure true):
  PS X (.Assign [.Name y py] (.ListComp elt [⟨target,iter,ifs,0⟩] scope pos) fH) (Ej (kQ wi caps g tc te) (oU i)):=by
 intro pins s σ H D I h;rw[exec_Assign_Name_used _ _ _ _ hsw];refine wpAny_bind (wpAny_standAt (wpAny_bind ?_));show wpAny _ X.A (do let _ <- comprehension (.ListComp elt [⟨target,iter,ifs,0⟩] scope pos) scope X.env _ (newList []) false (eval iter X.env) (some (assign (.Name y py) X.env))) _ _ s
 refine wpAny_bind (wpAny_mono (wpAny_comprehension_free (use:=some (assign (.Name y py) X.env)) (Q:=λ_ s'=>SP X pins D .next s') rfl hs (mG (SC.cells I.ok)) SC.kind SC.names (cD (hi pins s σ H _ I h) λv s1 h1=>cD h1 λYF s2 h2=>?_))
  (λ_ s' hq=>wpAny_pure (wpAny_pure hq)) λ_ _ e=>e)
 obtain⟨it,fp,tn,J,H2,rfl,I2,T,t0,f2,q2⟩:=h2;refine sC (Q:=λx H1=>oU i x σ H1 D.nx) I2 SC hc T t0 f2 CH q2 (RR:=λacc C=>compPost (model X.prog X.w) X.A X.xe (some (assign (.Name y py) X.env)) (λ_ s'=>SP X pins D .next s') acc C) λacc C H' s' I' f' ⟨m,hm⟩ q'=>?_;show wpAny _ X.A (assign (.Name y py) X.env (.ref acc)) _ _ s';obtain⟨o,es,ep,ho,hd,r⟩:=id hm;have Ip:L2.Inv X (pins++kH [C] s'.heap) σ H' s':=I'.pinned (fp:=[C]) (λb hb=>(show b=C by simpa using hb) ▸ f') (λb hb=>by
  have e:b=C:=by simpa using hb
  subst e;exact⟨o,ho,λv z=>by rw[hd]at z;cases z⟩)
 refine wpAny_assign_Name (jQ Ip hN hy (.inl hx) (show RelV (.ref acc) (.ref acc)from rfl) (λXE I''=>?_) (.inr hx))
 have hC:XE.heap.get? C=some o:=(I''.pin (C,o) (List.mem_append_right _ (List.mem_append_right _ (d8 (by simp) ho)))).1
 exact⟨m,⟨o,es,ep,hC,hd,r⟩,λh' j6=>⟨_,H',wY f' I''.f9 j6,q'⟩⟩
end
variable {G:GE}{k:Nat}{S:Stat}
def jg(names sc:List (Str×NameKind)):List (Str×NameKind):=names.map λ(n,k)=>if(k==.free&&sc.lookup n==some .cell)then(n,.cell)else(n,k)
def aU(S:Stat)(scope:Scope)(N':List Str):Stat:=⟨N',jg scope.names S.sc,[],true,false,false,λ_ _=>False⟩
structure iu(S:Stat)(scope:Scope)(N':List Str)(caps:List (Option Nat)):Prop where
 kind:scope.kind=.function
 nd:N'.Nodup
 m9:scope.names.all (λy=>y.2 != .cell)=true
 names:scope.names.all (λy=>y.2 != .local||scope.names.lookup y.1==some .local)=true
 free:scope.names.all (λy=>y.2 != .free||S.sc.lookup y.1==some .cell||S.sc.lookup y.1==some .free)=true
 len:caps.length=N'.length
 SM:(caps.zip N').all (λp=>match p.1 with|some j=>S.N[j]?==some p.2&&scope.names.lookup p.2==some .free|none=>true)=true
theorem iu.sc{scope:Scope}{N':List Str}{caps:List (Option Nat)}(b:iu S scope N' caps){X:Cx}{Y:bI}(ok:dD X G k S Y):fJ X scope N' caps where
 kind:=b.kind
 m9:=λy hy z=>by
  have:=List.all_eq_true.mp b.m9 y hy;rw[z]at this;cases this
 names:=λy hy z=>by
  have:=List.all_eq_true.mp b.names y hy;rw[z]at this;simpa using this
 free:=λy hy z=>by
  have:=List.all_eq_true.mp b.free y hy;rw[z]at this;have kd:X.env.kindOf y.1=S.sc.lookup y.1:=by
   show X.env.scope.names.lookup y.1=_;rw[ok.sc]
  rw[kd];simpa using this
 len:=b.len
 SM:=λi j e=>by
  have hl:i<caps.length:=(List.getElem?_eq_some_iff.mp e).1;have JM:i<N'.length:=by rw[<- b.len];exact hl
  have hz:(caps.zip N')[i]?=some (some j,N'[i]):=by
   rw[List.getElem?_zip_eq_some];exact⟨e,by rw[List.getElem?_eq_getElem JM]⟩
  have:=List.all_eq_true.mp b.SM _ (List.mem_of_getElem? hz);simp only[Bool.and_eq_true,beq_iff_eq]at this;exact⟨N'[i],by rw[List.getElem?_eq_getElem JM],by rw[ok.N];exact this.1,this.2⟩
theorem iI{X X':Cx}{Y:bI}{scope:Scope}{N':List Str}{caps:List (Option Nat)}(hh:S.lK=false)(ok:dD X G k S Y)(b:iu S scope N' caps)(c:kX X X' scope N')(Y':bI)(cU:Y'.io=[]):dD X' G k (aU S scope N') Y' where
 P:=c.P.trans ok.P
 w:=c.w.trans ok.w
 K:=c.K.trans ok.K
 kf:=c.K.trans ok.kf
 mg:=c.mg.trans ok.mg
 obs:=λh=>nomatch h
 base:=c.base.trans ok.base
 N:=c.N
 sc:=by
  rw[c.sc];show scope.names.map _=jg scope.names S.sc;unfold jg;refine List.map_congr_left λy _=>?_;obtain⟨n,kk⟩:=y;have kd:X.env.kindOf n=S.sc.lookup n:=by
   show X.env.scope.names.lookup n=_;rw[ok.sc]
  simp only[ok.kind,kd,beq_self_eq_true,Bool.and_true]
 nd:=b.nd
 ios:=λp hp=>by rw[cU]at hp;cases hp
 calm:=λ_=>c.calm
 kind:=by rw[c.sc];exact b.kind
 fn:=λh=>by cases h
 hd:=λ_=>by rw[c.A];exact ok.hd hh
 dp:=by rw[c.A];exact ok.dp
 un:=by rw[c.A];exact ok.un
 po:=λ_=>by rw[c.xe];exact PassesOwn.never
 nx:=λh=>nomatch h
 exc:=λ_ _ h=>h.elim
 made:=λh=>nomatch h
def lb:Sd->Sd->Prop
 | [],[]=>True
 | none::r,_::s=>lb r s
 | some b::r,c::s=>c=some b/\lb r s
 | _,_=>False
theorem lY:∀ {a b:Sd} {i:Nat} {x:B},lb a b->a[i]?=some (some x)->b[i]?=some (some x)
 | [],[],_,_,_,e=>by simp at e
 | none::r,c::s,0,_,h,e=>by simp at e
 | none::r,c::s,i+1,x,h,e=>by
  have h:lb r s:=h;simpa using lY (i:=i) h (by simpa using e)
 | some b::r,c::s,0,x,h,e=>by
  obtain⟨h1,h2⟩:c=some b/\lb r s:=h;simp at e;subst e;simp [h1]
 | some b::r,c::s,i+1,x,h,e=>by
  obtain⟨h1,h2⟩:c=some b/\lb r s:=h;simpa using lY (i:=i) h2 (by simpa using e)
 | [],_::_,_,_,h,_=>h.elim
 | none::_,[],_,_,h,_=>h.elim
 | some _::_,[],_,_,h,_=>h.elim
theorem lZ:∀ {a b:Sd},lb a b->a.length=b.length
 | [],[],_=>rfl
 | none::r,c::s,h=>by
  have h:lb r s:=h;simp [lZ h]
 | some b::r,c::s,h=>by
  obtain⟨_,h2⟩:c=some b/\lb r s:=h;simp [lZ h2]
 | [],_::_,h=>h.elim
 | none::_,[],h=>h.elim
 | some _::_,[],h=>h.elim
def tJ(ios:List Nat):List (Option Nat)->Sd->(Sd->Prop)->Prop
 | [],σ,Q=>Q σ
 | none::r,σ,Q=>tJ ios r σ Q
 | some j::r,σ,Q=>match σ[j]? with
  | some (some (.own xs))=>j∉ios/\tJ ios r (σ.set j (some (.sh (.lst xs)))) Q
  | _=>tJ ios r σ Q
def dw(caps:List (Option Nat))(σ:Sd):Sd:=caps.map λc=>match c with
 | some j=>match σ[j]? with
  | some (some (.sh d))=>some (.sh d)
  | _=>none
 | none=>none
def fL(g:lR)(tc:TB)(te:TD)(σ0:Sd):List D->List D->(List D->Prop)->Prop
 | [],acc,Q=>Q acc
 | x::xs,acc,Q=>g x σ0 λaA=>tc aA λb bu=>if b=true then te bu λd eB=>lb σ0 eB/\acc.length<sizeLine/\fL g tc te σ0 xs (acc++[d]) Q else lb σ0 bu/\fL g tc te σ0 xs acc Q
def di(ios:List Nat)(caps:List (Option Nat))(ti:fo)(g:lR)(tc:TB)(te:TD):TX:=λσ Q=>ti σ λitems aA=>tJ ios caps aA λbu=>fL g tc te (dw caps bu) items [] λds=>Q (.own ds) bu
theorem d4{ios:List Nat}{Y:bI}(cU:∀p∈Y.io,p.1∈ios):∀ {caps:List (Option Nat)} {F:Hp} {ao:Sd} {σ:St} {H:Hp} {Q:Sd->Prop},RS Y F ao σ H->tJ ios caps ao Q->∃F' aR,aw F F'/\RS Y F' aR σ H/\Q aR
 | [],F,ao,σ,H,Q,R,q=>⟨F,ao,aw.refl _,R,q⟩
 | none::r,F,ao,σ,H,Q,R,q=>d4 cU (caps:=r) R q
 | some j::r,F,ao,σ,H,Q,R,q=>by
  unfold tJ at q
  split at q
  ·rename_i xs e
   obtain⟨F2,v2,s2,R2,e2,r2⟩:=R.ky e λp hp z=>q.1 (z ▸ cU p hp);obtain⟨F3,eB,s3,R3,q3⟩:=d4 cU (caps:=r) R2 q.2;exact⟨F3,eB,s2.trans s3,R3,q3⟩
  ·exact d4 cU (caps:=r) R q
theorem cj(caps:List (Option Nat))(ao:Sd):∀(i:Nat) (o:O),(dw caps ao)[i]?≠some (some (.obj o)):=λi o e=>by
 unfold dw at e;rw[List.getElem?_map]at e;cases ec:caps[i]? with
 | none=>rw[ec]at e;cases e
 | some c =>
  rw[ec]at e;cases c with
  | none=>cases e
  | some j =>
   have e:(match ao[j]? with|some (some (.sh d))=>some (B.sh d)|_=>none)=some (.obj o):=Option.some.inj e
   split at e<;>cases e
theorem wM{Y:bI}{F:Hp}{ao:Sd}{σ:St}{H:Hp}(R:RS Y F ao σ H)(caps:List (Option Nat)){F' H':Hp}(s1:aw F F')(s2:aw F' H'):RS ⟨H',F',[],[]⟩ F' (dw caps ao) (fC caps σ) H' where
 len:=by unfold dw fC;simp
 lo:=aw.refl _
 fr:=s2
 eQ:=λb o e=>.inl e
 old:=λb o e _=>e
 sh:=λi d e=>by
  unfold dw at e;rw[List.getElem?_map]at e;unfold fC;rw[List.getElem?_map];cases ec:caps[i]? with
  | none=>rw[ec]at e;cases e
  | some c =>
   rw[ec]at e;cases c with
   | none=>cases e
   | some j =>
    have e:(match ao[j]? with|some (some (.sh d))=>some (B.sh d)|_=>none)=some (.sh d):=Option.some.inj e
    split at e
    ·rename_i d' q
     cases e;obtain⟨v,h1,h2⟩:=R.sh j d q;exact⟨v,by show some ((σ[j]?).join)=_;rw[h1];rfl,h2.mono s1⟩
    ·cases e
 own:=λi xs e=>by
  unfold dw at e;rw[List.getElem?_map]at e;cases ec:caps[i]? with
  | none=>rw[ec]at e;cases e
  | some c =>
   rw[ec]at e;cases c with
   | none=>cases e
   | some j =>
    have e:(match ao[j]? with|some (some (.sh d))=>some (B.sh d)|_=>none)=some (.own xs):=Option.some.inj e
    split at e<;>cases e
 dis:=λi j xs ys a e=>by
  exfalso;unfold dw at e;rw[List.getElem?_map]at e;cases ec:caps[i]? with
  | none=>rw[ec]at e;cases e
  | some c =>
   rw[ec]at e;cases c with
   | none=>cases e
   | some j =>
    have e:(match ao[j]? with|some (some (.sh d))=>some (B.sh d)|_=>none)=some (.own xs):=Option.some.inj e
    split at e<;>cases e
 io:=λp hp=>by cases hp
 ob:=.none (cj _ _) (R.ob.tab.mono s1) λb hb=>by cases hb
theorem RS.less{Y:bI}{F:Hp}{σ0 ao:Sd}{σ:St}{H:Hp}(R:RS Y F ao σ H)(l:lb σ0 ao)(uo:∀(i:Nat) (xs:List D),σ0[i]?≠some (some (.own xs)))(Dq:∀(i:Nat) (o:O),σ0[i]?≠some (some (.obj o))){H':Hp}(s:aw F H'):RS ⟨H',F,[],[]⟩ F σ0 σ H' where
 len:=(lZ l).trans R.len
 lo:=aw.refl _
 fr:=s
 eQ:=λb o e=>.inl e
 old:=λb o e _=>e
 sh:=λi d e=>R.sh i d (lY l e)
 own:=λi xs e=>absurd e (uo i xs)
 dis:=λi j xs ys a e=>absurd e (uo i xs)
 io:=λp hp=>by cases hp
 ob:=.none Dq R.ob.tab λb hb=>by cases hb
theorem ck(caps:List (Option Nat))(ao:Sd):∀(i:Nat) (xs:List D),(dw caps ao)[i]?≠some (some (.own xs)):=λi xs e=>by
 unfold dw at e;rw[List.getElem?_map]at e;cases ec:caps[i]? with
 | none=>rw[ec]at e;cases e
 | some c =>
  rw[ec]at e;cases c with
  | none=>cases e
  | some j =>
   have e:(match ao[j]? with|some (some (.sh d))=>some (B.sh d)|_=>none)=some (.own xs):=Option.some.inj e
   split at e<;>cases e
theorem fS:∀a:Sd,lb a a
 | []=>trivial
 | none::r=>fS r
 | some b::r=>⟨rfl,fS r⟩
theorem RS.other{Y:bI}{F:Hp}{ao:Sd}{σ:St}{H:Hp}{a:Addr}{o:HO}(R:RS Y F ao σ H)(h1:F a=none)(h2:Y.H0 a=none)(h3:dH ao σ a):RS Y F ao σ (upd H a o) where
 len:=R.len
 lo:=R.lo
 fr:=λb u e=>by
  have:b≠a:=λz=>by rw[z,h1]at e;cases e
  rw[ak this];exact R.fr b u e
 eQ:=R.eQ
 old:=λb u e n=>by
  have:b≠a:=λz=>by rw[z,h2]at e;cases e
  rw[ak this];exact R.old b u e n
 sh:=R.sh
 own:=λi xs e=>by
  obtain⟨b,vs,w1,w2,w3⟩:=R.own i xs e;have:b≠a:=λz=>h3 i xs e (by rw[w1,z])
  exact⟨b,vs,w1,by rw[ak this];exact w2,w3⟩
 dis:=R.dis
 io:=R.io
 ob:=R.ob.step (aw.refl _) (λ_ _ e=>⟨e,rfl⟩) (λb hb=>by
  obtain⟨w1,w2,w3⟩:=R.ob.owned hb;have df:b≠a:=λz=>h3.Tc (z ▸ hb);exact⟨ak df,w1,w3⟩) R.ob.iK λb hb=>by
  by_cases df:b=a
  ·rw[df,ay];exactλz=>nomatch z
  ·rw[ak df];exact R.ob.there b hb
def lGe(g:lR):TG:=λv σ H Q=>∃Y:bI,Y.io=[]/\lG Y g v σ H Q
def lBe(t:TB):TT:=λσ H Q=>∃Y:bI,Y.io=[]/\lB Y t σ H Q
def lDe(t:TD):TE:=λσ H Q=>∃Y:bI,Y.io=[]/\lD Y t σ H Q
structure FH(G:GE)(k:Nat)(S:Stat)(ifs:List Expr)(t:TB) :Prop where
 run:∀X Y,dD X G k S Y->FN X ifs (lB Y t)
instance {G:GE} {k:Nat} {S:Stat} {ifs:List Expr} {t:TB} :CoeFun (FH G k S ifs t) λ_=>∀X Y,dD X G k S Y->FN X ifs (lB Y t):=⟨FH.run⟩
def cO:TB:=λσ Q=>Q true σ
theorem eG:FH G k S [] cO:=.mk λX Y ok pins s σ H Q I q=>HC pins s σ H Q I (by
 obtain⟨F,ao,Qd,R,q,K⟩:=q;exact K true H F ao (aw.refl _) R q)
theorem Ug{c:Expr}{t:TB}(h:EB G k S c t):FH G k S [c] t:=.mk λX Y ok=>HD (h X Y ok)
section
variable {elt target iter:Expr}{ifs:List Expr}{scope:Scope}{pos:Pos}{N':List Str}{caps:List (Option Nat)}{ti:fo}{g:lR}{tc:TB}{te:TD}
theorem pZ{X:Cx}{Y:bI}(hh:S.lK=false)(ok:dD X G k S Y)(b:iu S scope N' caps)(hg:EG G k (aU S scope N') target g)(ht:FH G k (aU S scope N') ifs tc)(he:ED G k (aU S scope N') elt te):
  ∀X',kX X X' scope N'->PG X' target (lGe g)/\FN X' ifs (lBe tc)/\PE X' elt (lDe te):=λX' c =>
 ⟨λpins s σ H v u Q I r ⟨Y',cU,q⟩=>hg X' Y' (iI hh ok b c Y' cU) pins s σ H v u Q I r q,λpins s σ H Q I ⟨Y',cU,q⟩=>ht X' Y' (iI hh ok b c Y' cU) pins s σ H Q I q,λpins s σ H Q I ⟨Y',cU,q⟩=>he X' Y' (iI hh ok b c Y' cU) pins s σ H Q I q⟩
theorem mI{Y:bI}{ios:List Nat}(cU:∀p∈Y.io,p.1∈ios){σ:St}{H:Hp}{Q:VK}(q:lX Y (di ios caps ti g tc te) σ H Q):kQ (lI Y ti) caps (lGe g) (lBe tc) (lDe te) σ H Q:=by
 obtain⟨F,ao,Qd,R,q,K⟩:=q;refine⟨F,ao,_,R,q,λH1 F1 zm J items s1 R1 it q1 acc iU=>?_⟩;obtain⟨F2,cJ,s2,R2,q2⟩:=d4 cU R1 q1;have it2:=it.mono s2;have a0:Y.H0 acc=none:=(R2.bZ iU).1;have aF:F2 acc=none:=same_none R2.fr iU;have aN:dH cJ σ acc:=R2.cY iU;have sw:∀ {F5 H5:Hp} {o:HO},aw F5 H5->F5 acc=none->aw F5 (upd H5 acc o):=λ{F5 H5 o} s5 h b u e=>by
  have:b≠acc:=λz=>by rw[z,h]at e;cases e
  rw[ak this];exact s5 b u e
 refine⟨λi m aA H'=>∃Fi ds ys,aw F2 Fi/\RS Y Fi cJ σ H'/\H' acc=some (.lst ys)/\aG Fi ys ds/\Fi acc=none/\RS ⟨H',Fi,[],[]⟩ Fi (dw caps cJ) aA H'/\fL g tc te (dw caps cJ) (items.drop i) ds (λds=>Qd (.own ds) cJ)/\m=items.length-i/\i<=items.length,
  ⟨items.length,F2,[],[],aw.refl _,R2.other aF a0 aN,ay,.nil,aF,wM R2 caps (aw.refl _) (sw R2.fr aF),q2,rfl,Nat.zero_le _⟩,?_⟩
 rintro i m aA Hi ⟨Fi,ds,ys,si,Ri,iV,ri,fi,Zd,qi,rfl,hi⟩;have vf:=it2 Fi Hi si Ri.fr i
 by_cases hl:i<items.length
 ·right
  have hd:items.drop i=items[i]::items.drop (i+1):=by rw[List.drop_eq_getElem_cons hl]
  rw[hd]at qi;obtain⟨go,yl⟩:=vf.1 items[i] (by rw[List.getElem?_eq_getElem hl])
  refine⟨go,λv H' y=>?_⟩;obtain⟨F3,gr,rep⟩:=yl v H' y;have sF:aw Fi F3:=gr.same Ri.fr;have R3:=gr.rs Zd;have Zb:RS ⟨H',F3,[],[]⟩ F3 (dw caps cJ) aA H':=R3.less (fS _) (ck _ _) (cj _ _) R3.fr;have sH:aw Hi H':=by
   rcases gr with⟨_,rfl⟩|⟨p,o,hp,_,rfl⟩
   ·exact aw.refl _
   ·exact aJ hp
  have MQ:∀c o,F3 c=some o->Fi c=some o\/Nw Hi c o:=λc o e=>by
   rcases gr with⟨rfl,_⟩|⟨p,o',hp,rfl,_⟩
   ·exact .inl e
   ·by_cases hc:c=p
    ·subst hc;exact .inr (.inl hp)
    ·rw[ak hc]at e;exact .inl e
  -- behind the turn
  have back:∀ {F5 H5:Hp} {ou:Sd} {Tq:St},aw F3 F5->RS ⟨H',F3,[],[]⟩ F5 ou Tq H5->RS Y F5 cJ σ H5/\H5 acc=some (.lst ys)/\F5 acc=none/\aw Fi F5:=λ{F5 H5 ou Tq} s5 R5=>by
   have QI:aw Hi H5:=sH.trans λb o e=>R5.old b o e (by simp [bI.C1])
   have Fu:∀c o,F5 c=some o->Fi c=some o\/Nw Hi c o:=λc o e=>by
    rcases R5.eQ c o e with z|z
    ·exact MQ c o z
    ·exact .inr (z.imp sH.free id)
   refine⟨Ri.call (sF.trans s5) R5.fr QI Fu,QI _ _ iV,?_,sF.trans s5⟩;cases e:F5 acc with
   | none=>rfl
   | some o =>
    rcases Fu acc o e with z|z
    ·rw[fi]at z;cases z
    ·rcases z with z|⟨ws,rfl⟩
     ·rw[iV]at z;cases z
     ·have y:=R5.fr acc _ e;rw[QI _ _ iV]at y;cases y
  refine⟨⟨H',F3,[],[]⟩,rfl,F3,_,items[i],_,Zb,rep,qi,λzl H4 F4 fB s4 R4 q4=>?_⟩;refine⟨⟨H',F3,[],[]⟩,rfl,F4,fB,_,R4,q4,λb H5 F5 ou s5 R5 q5=>?_⟩;cases b with
  | false =>
   obtain⟨le,q5⟩:=q5;obtain⟨w1,w2,w3,w4⟩:=back (s4.trans s5) R5;exact⟨items.length-(i+1),by omega,F5,ds,ys,si.trans w4,w1,w2,ri.mono w4,w3,R5.less le (ck _ _) (cj _ _) R5.fr,q5,rfl,hl⟩
  | true =>
   refine⟨⟨H',F3,[],[]⟩,rfl,F5,ou,_,R5,q5,λv6 H6 F6 d aaQ s6 R6 r6 q6=>?_⟩;obtain⟨le,hz,q6⟩:=q6;obtain⟨w1,w2,w3,w4⟩:=back ((s4.trans s5).trans s6) R6;exact⟨ys,items.length-(i+1),w2,by rw[ri.length];exact hz,by omega,F6,ds++[d],ys++[v6],si.trans w4,w1.other w3 a0 aN,ay,(ri.mono w4).append (.cons r6 .nil),w3,R6.less le (ck _ _) (cj _ _) (sw R6.fr w3),q6,rfl,hl⟩
 ·left
  have e:i=items.length:=by omega
  subst e;rw[List.drop_length]at qi;exact⟨vf.2 rfl,K _ Hi Fi (.own ds) cJ ((s1.trans s2).trans si) Ri ⟨acc,ys,rfl,iV,ri,fi,a0,aN⟩ qi⟩
theorem d9(hi:EI G k S target iter ti)(b:iu S scope N' caps)(hg:EG G k (aU S scope N') target g)(ht:FH G k (aU S scope N') ifs tc)(he:ED G k (aU S scope N') elt te)(hs:∀env x,foldedSetIterable iter env x=pure x:=by intro _ _;rfl)(hh:S.lK=false:=by rfl):
  EX G k S (.ListComp elt [⟨target,iter,ifs,0⟩] scope pos) (di S.ios caps ti g tc te):=.mk λX Y ok =>
 bb (qD (ok.calm hh) (hi X Y ok) (b.sc ok) (pZ hh ok b hg ht he) (hs _)) λσ H Q q=>mI ok.ios q
theorem D9(i:Nat){y:Str}{py fH:Pos}(hi:EI G k S target iter ti)(b:iu S scope N' caps)(hg:EG G k (aU S scope N') target g)(ht:FH G k (aU S scope N') ifs tc)(he:ED G k (aU S scope N') elt te)
  (hy:S.N[i]?=some y:=by rfl) (hx:S.sc.lookup y=some .local\/(S.sc.lookup y=some .cell/\S.oG=false):=by first|exact Or.inl rfl|exact Or.inr ⟨rfl,rfl⟩) (hn:i∉S.ios:=by first|decide|exact List.not_mem_nil | (dsimp only;decide)) (hl:(py.line==pos.line)=true:=by rfl) (JO:(scope.names.any λ(n,k)=>n==y&&(k==.local||k==.cell))=false:=by decide +kernel)
  (hs:∀env x,foldedSetIterable iter env x=pure x:=by intro _ _;rfl) (hh:S.lK=false:=by rfl):ES G k S (.Assign [.Name y py] (.ListComp elt [⟨target,iter,ifs,0⟩] scope pos) fH) (dF S.ios i (di S.ios caps ti g tc te)):=.mk λX Y ok=>by
 have sw:swapsWith (.ListComp elt [⟨target,iter,ifs,0⟩] scope pos) (some (.Name y py)) fH.line X.env=pure (S.sc.lookup y==some .local):=by
  have e:swapsWith (.ListComp elt [⟨target,iter,ifs,0⟩] scope pos) (some (.Name y py)) fH.line X.env=pure (X.env.blockKind==.function&&X.env.kindOf y==some .local&&py.line==pos.line&&!(scope.names.any λ(n,k)=>n==y&&(k==.local||k==.cell))):=rfl
  have kb:X.env.blockKind=.function:=by unfold Env.blockKind;rw[ok.kind];rfl
  have kd:X.env.kindOf y=S.sc.lookup y:=by
   show X.env.scope.names.lookup y=_;rw[ok.sc]
  rw[e,kb,kd,hl,JO];simp
 have fin:∀Dn σ H,lS Y (dF S.ios i (di S.ios caps ti g tc te)) Dn σ H->Ej (kQ (lI Y ti) caps (lGe g) (lBe tc) (lDe te)) (oU i) Dn σ H:=λDn σ H q=>by
  obtain⟨F,ao,De,R,q,K⟩:=q;refine mI ok.ios ⟨F,ao,_,R,q,λv H1 F1 y aA s1 R1 r1 q1=>?_⟩;obtain⟨F2,bu,s2,R2,q2⟩:=kN R1 r1 hn ok.ios q1;exact K.nx _ H1 F2 bu (s1.trans s2) R2 q2
 rcases hx with hx|hx
 ·refine c5 (xG (i:=i) (ok.calm hh) (hi X Y ok) (b.sc ok) (pZ hh ok b hg ht he) (hs _) (by rw[ok.N];exact ok.nd) (by rw[ok.N];exact hy) (by rw[ok.sc];exact hx) (by rw[sw,hx];rfl)) fin
 ·refine c5 (L2.vZ (i:=i) (by rw[ok.N];exact ok.nd) (by rw[ok.N];exact hy) (mX ok (.inr hx)) (qD (ok.calm hh) (hi X Y ok) (b.sc ok) (pZ hh ok b hg ht he) (hs _)) (by rw[sw,hx.1];rfl) (mP ok (.inr hx))) fin
end
end Vc
namespace Vc
open PySem L2
variable [KF]
section
variable {prog:Program}{w:World}{A:Around}{E:Value->Shared->Prop}{s:Shared}
theorem BG{j t:Addr}{i:Nat}{xs:Array Value}{x:Value}{Q:Value->Shared->Prop}(hj:s.heap.IsTupleIter j t i)(ht:s.heap.IsTuple t xs)(hx:xs[i]?=some x)
  (q:∀g,g.IsTupleIter j t (i+1)->Heap.SameBut j s.heap g->Q x {s with heap:=g}):wpAny (model prog w) A (Builtin.SmallTypes.nextOf (.ref j)) Q E s:=by
 obtain⟨ob,h1,h2,h3⟩:=id hj;obtain⟨ot,h4,_,nt,h5⟩:=ht;unfold Builtin.SmallTypes.nextOf;refine wpAny_bind (wpAny_callSpecial?_slot (name:=Str.ofString "__next__") hj.typeIs F.slot_tuple_iterator_next (wpAny_call_entry F.slot_tuple_iterator_next hj.typeIs F.entry_tuple_iterator_next ?_ (F.args_tuple_iterator_next_1 _)));show wpAny _ _ (field (.ref j) 0 >>= _) _ _ s;refine wpAny_bind (wpAny_field h1 h3 (x:=.ref t) rfl ?_);show wpAny _ _ (if(Value.ref t==Value.none)=true then _ else _) _ _ s
 rw[if_neg (by intro z;exact absurd z Bool.false_ne_true)]
 show wpAny _ _ (field (.ref j) 1 >>= _) _ _ s;refine wpAny_bind (wpAny_field h1 h3 (x:=.int i 0) rfl ?_);show wpAny _ _ (seqItems? (.ref t) >>= _) _ _ s;refine wpAny_bind (wpAny_seqItems h4 h5 ?_);simp only[Int.toNat_natCast,hx];refine wpAny_bind (wpAny_setField h1 h3 (by simp) (wpAny_pure ⟨x,rfl,wpAny_pure (q _ ?_ (Heap.SameBut.update ..))⟩))
 refine⟨_,Heap.get?_update_self _ h1 (Obj.isFreed_of_fields (Obj.data_mapFields h3 _)),(Obj.cls_mapFields ..).trans h2,?_⟩;rw[Obj.data_mapFields h3];simp [rawInt]
theorem p9{j t:Addr}{i:Nat}{xs:Array Value}{Q:Value->Shared->Prop}(hh:A.handled=none)(hj:s.heap.IsTupleIter j t i)(ht:s.heap.IsTuple t xs)(hx:xs[i]?=none)
  (q:∀g e,Heap.ExtBut j s.heap g->(∃o,g.get? e=some o/\o.cls=.type "StopIteration")->E (.ref e) {s with heap:=g}):wpAny (model prog w) A (Builtin.SmallTypes.nextOf (.ref j)) Q E s:=by
 obtain⟨ob,h1,h2,h3⟩:=id hj;obtain⟨ot,h4,_,nt,h5⟩:=ht;unfold Builtin.SmallTypes.nextOf;refine wpAny_bind (wpAny_callSpecial?_slot (name:=Str.ofString "__next__") hj.typeIs F.slot_tuple_iterator_next (wpAny_call_entry F.slot_tuple_iterator_next hj.typeIs F.entry_tuple_iterator_next ?_ (F.args_tuple_iterator_next_1 _)));show wpAny _ _ (field (.ref j) 0 >>= _) _ _ s;refine wpAny_bind (wpAny_field h1 h3 (x:=.ref t) rfl ?_);show wpAny _ _ (if(Value.ref t==Value.none)=true then _ else _) _ _ s
 rw[if_neg (by intro z;exact absurd z Bool.false_ne_true)]
 show wpAny _ _ (field (.ref j) 1 >>= _) _ _ s;refine wpAny_bind (wpAny_field h1 h3 (x:=.int i 0) rfl ?_);show wpAny _ _ (seqItems? (.ref t) >>= _) _ _ s;refine wpAny_bind (wpAny_seqItems h4 h5 ?_);simp only[Int.toNat_natCast,hx];refine wpAny_bind (wpAny_rule (wpAny_bind (wpAny_setField h1 h3 (by simp) ?_)))
 show wpAny _ _ (newExc (.type "StopIteration") [] >>= _) _ _ _;refine wpAny_bind ?_;simp only[newExc,newTuple];refine wpAny_bind (wpAny_newObj_type ?_ (by size_fits))
 refine wpAny_bind (m:=firstArgMember _ _) (wpAny_of_eq (a:=Value.none) (by first|rfl | (simp only[firstArgMember];rfl)) ?_)
 refine wpAny_newObj_type ?_ (by size_fits)
 simp only[raiseNew];refine wpAny_bind (wpAny_handled ?_)
 first|rw[show A.in1.handled=none from hh]|rw[hh]
 refine wpAny_bind (wpAny_pure (wpAny_throw ?_));exact q _ _ (((Heap.SameBut.update ..).extBut.push _).push _) ⟨_,Heap.get?_push_size _ rfl,rfl⟩
end
def ly(tp:Bool)(h:Heap)(j a:Addr)(i:Nat):Prop:=if tp=true then h.IsTupleIter j a i else h.IsListIter j a i
def vn(tp:Bool)(h:Heap)(a:Addr)(xs:Array Value):Prop:=if tp=true then h.IsTuple a xs else h.IsList a xs
theorem ly.live{tp:Bool}{h:Heap}{j a:Addr}{i:Nat}(q:ly tp h j a i):∃o,h.get? j=some o/\∀v,o.data≠.cell v:=by
 cases tp with
 | true=>obtain⟨o,e,c,d⟩:=(show h.IsTupleIter j a i from q);exact⟨o,e,λv z=>by rw[d]at z;cases z⟩
 | false=>obtain⟨o,e,c,d⟩:=(show h.IsListIter j a i from q);exact⟨o,e,λv z=>by rw[d]at z;cases z⟩
theorem ly.at{tp:Bool}{h h':Heap}{j a:Addr}{i:Nat}(q:ly tp h j a i)(k:∀o,h.get? j=some o->h'.get? j=some o):ly tp h' j a i:=by
 cases tp with
 | true=>obtain⟨o,e,r⟩:=(show h.IsTupleIter j a i from q);exact(show h'.IsTupleIter j a i from⟨o,k o e,r⟩)
 | false=>obtain⟨o,e,r⟩:=(show h.IsListIter j a i from q);exact(show h'.IsListIter j a i from⟨o,k o e,r⟩)
theorem vn.at{tp:Bool}{h h':Heap}{a:Addr}{xs:Array Value}(q:vn tp h a xs)(k:∀o,h.get? a=some o->h'.get? a=some o):vn tp h' a xs:=by
 cases tp with
 | true=>obtain⟨o,e,r⟩:=(show h.IsTuple a xs from q);exact(show h'.IsTuple a xs from⟨o,k o e,r⟩)
 | false=>obtain⟨o,e,r⟩:=(show h.IsList a xs from q);exact(show h'.IsList a xs from⟨o,k o e,r⟩)
section
variable {prog:Program}{w:World}{A:Around}{E:Value->Shared->Prop}{s:Shared}
theorem draw{tp:Bool}{j a:Addr}{i:Nat}{xs:Array Value}{x:Value}{Q:Value->Shared->Prop}(hj:ly tp s.heap j a i)(ha:vn tp s.heap a xs)(hx:xs[i]?=some x)
  (q:∀g,ly tp g j a (i+1)->Heap.SameBut j s.heap g->Q x {s with heap:=g}):wpAny (model prog w) A (Builtin.SmallTypes.nextOf (.ref j)) Q E s:=by
 cases tp with
 | true=>exact BG hj ha hx q
 | false=>exact wpAny_nextOf_list_item hj ha hx q
theorem mJ{tp:Bool}{j a:Addr}{i:Nat}{xs:Array Value}{Q:Value->Shared->Prop}(hh:A.handled=none)(hj:ly tp s.heap j a i)(ha:vn tp s.heap a xs)(hx:xs[i]?=none)
  (q:∀g e,Heap.ExtBut j s.heap g->(∃o,g.get? e=some o/\o.cls=.type "StopIteration")->E (.ref e) {s with heap:=g}):wpAny (model prog w) A (Builtin.SmallTypes.nextOf (.ref j)) Q E s:=by
 cases tp with
 | true=>exact p9 hh hj ha hx q
 | false=>exact wpAny_nextOf_list_end hh hj ha hx q
structure Ym(z U V i j:Addr):Prop where
 uz:U≠z
 vz:V≠z
 iz:i≠z
 jz:j≠z
 uv:U≠V
 ui:U≠i
 uj:U≠j
 vi:V≠i
 vj:V≠j
 ij:i≠j
theorem IG{tp tq:Bool}{z U V i j l m:Addr}{n:Nat}{xs ys:Array Value}{x y a b:Value}{Q:Option Value->Shared->Prop}(D:Ym z U V i j)(lz:l≠z/\l≠V/\l≠i/\l≠j)(mz:m≠z/\m≠V/\m≠i/\m≠j)
  (hz:IsZip s.heap z U V .none) (hU:IsPair s.heap U (.ref i) (.ref j)) (hV:IsPair s.heap V a b) (h1:ly tp s.heap i l n) (h2:ly tq s.heap j m n) (hl:vn tp s.heap l xs) (hm:vn tq s.heap m ys) (hx:xs[n]?=some x) (hy:ys[n]?=some y)
  (q:∀g,IsZip g z U V (rawInt s.heap.objs.size)->IsPair g V x y->ly tp g i l (n+1)->ly tq g j m (n+1)->IsPair g s.heap.objs.size x y->g.objs.size=s.heap.objs.size+1 ->
   (∀c o,c≠z->c≠V->c≠i->c≠j->s.heap.get? c=some o->g.get? c=some o)->Q (some (.ref s.heap.objs.size)) {s with heap:=g}):wpAny (model prog w) A (pyNext (.ref z)) Q E s:=by
 have hT:s.TypeIs (.ref z) "zip":=⟨_,hz,rfl⟩;unfold pyNext;refine wpAny_bind (wpAny_attempt (wpAny_callSpecial?_slot (name:=Str.ofString "__next__") hT F.slot_zip_next (wpAny_call_entry F.slot_zip_next hT F.entry_zip_next ?_ (F.args_zip_next_1 _))));show wpAny _ _ (field (.ref z) 2 >>= _) _ _ _;refine wpAny_bind (wpAny_field hz rfl (x:=.bool false) rfl ?_);show wpAny _ _ (field (.ref z) 3 >>= _) _ _ _;refine wpAny_bind (wpAny_field hz rfl (x:=.ref U) rfl (wpAny_bind (wpAny_seqItems hU rfl ?_)));show wpAny _ _ (Builtin.SmallTypes.ownedTupleIsFree (.ref z) >>= _) _ _ _;refine wpAny_bind ?_;unfold Builtin.SmallTypes.ownedTupleIsFree;refine wpAny_bind (wpAny_field hz rfl (x:=.none) rfl (wpAny_pure ?_));simp only[if_true];refine wpAny_bind (wpAny_rule (wpAny_bind (wpAny_field hz rfl (x:=.ref V) rfl (wpAny_bind (wpAny_setField_rec hz (by simp) λg1 z1 e1=>?_)))))
 replace z1:IsZip g1 z U V .ellipsis:=z1
 refine wpAny_bind ?_;simp only[List.zipIdx_cons,List.zipIdx_nil,List.forIn_cons,List.forIn_nil];refine wpAny_bind (wpAny_bind (wpAny_onRaise ?_));show wpAny _ _ (Builtin.SmallTypes.nextOf (.ref i) >>= _) _ _ _;refine wpAny_bind (draw (s:={s with heap:=g1}) (h1.at λo e=>e1.extBut _ _ D.iz e) (hl.at λo e=>e1.extBut _ _ lz.1 e) hx λg2 w2 e2=>wpAny_pure ?_)
 have v2:IsPair g2 V a b:=e2.extBut _ _ D.vi (e1.extBut _ _ D.vz hV);refine wpAny_bind (wpAny_seqItems v2 rfl (wpAny_bind (wpAny_updateSeq_pair v2 λg3 v3 e3=>?_)))
 replace v3:IsPair g3 V x b:=v3
 refine wpAny_bind (wpAny_letGo (wpAny_pure (wpAny_bind (wpAny_bind (wpAny_onRaise ?_)))));show wpAny _ _ (Builtin.SmallTypes.nextOf (.ref j) >>= _) _ _ _;have to3:∀c o,c≠z->c≠i->c≠V->s.heap.get? c=some o->g3.get? c=some o:=λc o c1 c2 c3 e=>e3.extBut _ _ c3 (e2.extBut _ _ c2 (e1.extBut _ _ c1 e));refine wpAny_bind (draw (s:={s with heap:=g3}) (h2.at λo e=>to3 j o D.jz D.ij.symm D.vj.symm e) (hm.at λo e=>to3 m o mz.1 mz.2.2.1 mz.2.1 e) hy λg4 w4 e4=>wpAny_pure ?_)
 have v4:IsPair g4 V x b:=e4.extBut _ _ D.vj v3;refine wpAny_bind (wpAny_seqItems v4 rfl (wpAny_bind (wpAny_updateSeq_pair v4 λg5 v5 e5=>?_)))
 replace v5:IsPair g5 V x y:=v5
 refine wpAny_bind (wpAny_letGo (wpAny_pure (wpAny_pure (wpAny_bind (wpAny_seqItems v5 rfl (wpAny_bind (wpAny_newTuple ?_)))))));have sz:g5.objs.size=s.heap.objs.size:=by rw[e5.1,e4.1,e3.1,e2.1,e1.1]
 have z5:IsZip g5 z U V .ellipsis:=e5.extBut _ _ D.vz.symm (e4.extBut _ _ D.jz.symm (e3.extBut _ _ D.vz.symm (e2.extBut _ _ D.iz.symm z1)));have k5:∀c o,c≠z->c≠V->c≠i->c≠j->s.heap.get? c=some o->g5.get? c=some o:=λc o c1 c2 c3 c4 e=>e5.extBut _ _ c2 (e4.extBut _ _ c4 (to3 c o c1 c3 c2 e));have i5:ly tp g5 i l (n+1):=w2.at λo e=>e5.extBut _ _ D.vi.symm (e4.extBut _ _ D.ij (e3.extBut _ _ D.vi.symm e));have j5:ly tq g5 j m (n+1):=w4.at λo e=>e5.extBut _ _ D.vj.symm e;have zlt:z<g5.objs.size:=Heap.lt_size z5;show wpAny _ _ (Builtin.SmallTypes.ownedTupleHandOut (.ref z) (.ref g5.objs.size) >>= _) _ _ _;refine wpAny_bind ?_;unfold Builtin.SmallTypes.ownedTupleHandOut;have z6:IsZip (g5.push {cls:=.type "tuple",data:=.seq #[x,y]}) z U V .ellipsis:=Heap.get?_push_of_some _ z5;refine wpAny_bind (wpAny_setField_rec z6 (by simp) λg7 z7 e7=>?_)
 replace z7:IsZip g7 z U V (rawInt g5.objs.size):=z7
 refine wpAny_setField_rec z7 (by simp) λg8 z8 e8=>?_
 replace z8:IsZip g8 z U V (rawInt g5.objs.size):=z8
 have up:∀c o,c≠z->g5.get? c=some o->g8.get? c=some o:=λc o c1 e=>e8.extBut _ _ c1 (e7.extBut _ _ c1 (Heap.get?_push_of_some _ e));have t8:IsPair g8 g5.objs.size x y:=e8.extBut _ _ (Nat.ne_of_gt zlt) (e7.extBut _ _ (Nat.ne_of_gt zlt) (Heap.get?_push_size _ rfl));have s8:g8.objs.size=g5.objs.size+1:=by rw[e8.1,e7.1,Heap.size_push]
 rw[sz]at z8 t8 s8;refine wpAny_pure ⟨_,rfl,wpAny_pure ?_⟩;show Q (some (.ref g5.objs.size)) _;rw[sz];exact q g8 z8 (up _ _ D.vz v5) (i5.at λo e=>up _ o D.iz e) (j5.at λo e=>up _ o D.jz e) t8 s8 λc o c1 c2 c3 c4 e=>up c o c1 (k5 c o c1 c2 c3 c4 e)
end
end Vc
namespace Vc
open PySem L2
variable [KF]
abbrev itN(tp:Bool):String:=if tp=true then "tuple_iterator" else "list_iterator"
abbrev zA(tp:Bool)(h:Heap)(l:Addr):Heap:=h.push {cls:=.type (itN tp),data:=.fields #[.ref l,.int 0 0]}
abbrev zB(tp tq:Bool)(h:Heap)(l m:Addr):Heap:=zA tq (zA tp h l) m
abbrev zC(tp tq:Bool)(h:Heap)(l m:Addr):Heap:=(zB tp tq h l m).push {cls:=.type "tuple",data:=.seq #[.ref h.objs.size,.ref (zA tp h l).objs.size]}
abbrev zD(tp tq:Bool)(h:Heap)(l m:Addr):Heap:=(zC tp tq h l m).push {cls:=.type "tuple",data:=.seq #[.none,.none]}
abbrev zE(tp tq:Bool)(h:Heap)(l m:Addr):Heap:=(zD tp tq h l m).push {cls:=.type "zip",data:=.fields #[.none,.bool false,.bool false,.ref (zB tp tq h l m).objs.size,.ref (zC tp tq h l m).objs.size]}
set_option maxHeartbeats 4000000 in
theorem Fm(tp tq:Bool)(l m:Addr)(xs ys:Array Value):
  Meets (Builtin.«zip.__new__» ⟨[.type "zip",.ref l,.ref m],[]⟩) (λ_ R s=>vn tp s.heap l xs/\vn tq s.heap m ys/\R (.ok (.ret (.ref (zD tp tq s.heap l m).objs.size))) {s with heap:=zE tp tq s.heap l m}):=
 .of_wp λprog w A R s h=>by
  obtain⟨hp,g,d,tk,os⟩:=s;obtain⟨hl,hm,h⟩:=h;have sub:=sub_zip;cases tp with
  | true =>
   have L1:Heap.IsTuple (Shared.heap ⟨hp,g,d,tk,os⟩) l xs:=hl;cases tq with
   | true =>
    have L2:Heap.IsTuple (Shared.heap ⟨hp.push {cls:=.type "tuple_iterator",data:=.fields #[.ref l,.int 0 0]},g,d,tk,os⟩) m ys:=by
     obtain⟨o,e,r⟩:=(show hp.IsTuple m ys from hm);exact⟨o,Heap.get?_push_of_some _ e,r⟩
    wp_walk using wpAny_pyIter_tuple L1,wpAny_pyIter_tuple L2
    exact⟨_,rfl,h⟩
   | false =>
    have L2:Heap.IsList (Shared.heap ⟨hp.push {cls:=.type "tuple_iterator",data:=.fields #[.ref l,.int 0 0]},g,d,tk,os⟩) m ys:=by
     obtain⟨o,e,r⟩:=(show hp.IsList m ys from hm);exact⟨o,Heap.get?_push_of_some _ e,r⟩
    wp_walk using wpAny_pyIter_tuple L1,wpAny_pyIter_list L2
    exact⟨_,rfl,h⟩
  | false =>
   have L1:Heap.IsList (Shared.heap ⟨hp,g,d,tk,os⟩) l xs:=hl;cases tq with
   | true =>
    have L2:Heap.IsTuple (Shared.heap ⟨hp.push {cls:=.type "list_iterator",data:=.fields #[.ref l,.int 0 0]},g,d,tk,os⟩) m ys:=by
     obtain⟨o,e,r⟩:=(show hp.IsTuple m ys from hm);exact⟨o,Heap.get?_push_of_some _ e,r⟩
    wp_walk using wpAny_pyIter_list L1,wpAny_pyIter_tuple L2
    exact⟨_,rfl,h⟩
   | false =>
    have L2:Heap.IsList (Shared.heap ⟨hp.push {cls:=.type "list_iterator",data:=.fields #[.ref l,.int 0 0]},g,d,tk,os⟩) m ys:=by
     obtain⟨o,e,r⟩:=(show hp.IsList m ys from hm);exact⟨o,Heap.get?_push_of_some _ e,r⟩
    wp_walk using wpAny_pyIter_list L1,wpAny_pyIter_list L2
    exact⟨_,rfl,h⟩
theorem xU{tp:Bool}{h:Heap}{j a:Addr}(e:h.get? j=some {cls:=.type (itN tp),data:=.fields #[.ref a,.int 0 0]}):ly tp h j a 0:=by
 cases tp with
 | true=>exact⟨_,e,rfl,rfl⟩
 | false=>exact⟨_,e,rfl,rfl⟩
section
variable {prog:Program}{w:World}{A:Around}{E:Value->Shared->Prop}{s:Shared}
theorem Fl{tp tq:Bool}{l m:Addr}{xs ys:Array Value}{Q:Value->Shared->Prop}(hl:vn tp s.heap l xs)(hm:vn tq s.heap m ys)
  (q:∀g,IsZip g (s.heap.objs.size+4) (s.heap.objs.size+2) (s.heap.objs.size+3) .none->IsPair g (s.heap.objs.size+2) (.ref s.heap.objs.size) (.ref (s.heap.objs.size+1))->IsPair g (s.heap.objs.size+3) .none .none ->
   ly tp g s.heap.objs.size l 0->ly tq g (s.heap.objs.size+1) m 0->(∀c o,s.heap.get? c=some o->g.get? c=some o)->Q (.ref (s.heap.objs.size+4)) {s with heap:=g}):
  wpAny (model prog w) A (call (.type "zip") [.ref l,.ref m]) Q E s:=by
 refine callType_new F.called_zip ∅ (F.typeCall_zip_2 _ _) (F.newCall_zip_2 _ _) (λob=>F.args_object_init_3 ob _ _) F.entry_zip_new (Fm tp tq l m xs ys) ⟨hl,hm,?_⟩
 have n1:(zA tp s.heap l).objs.size=s.heap.objs.size+1:=Heap.size_push ..;have n2:(zB tp tq s.heap l m).objs.size=s.heap.objs.size+2:=by rw[Heap.size_push,n1]
 have n3:(zC tp tq s.heap l m).objs.size=s.heap.objs.size+3:=by rw[Heap.size_push,n2]
 have n4:(zD tp tq s.heap l m).objs.size=s.heap.objs.size+4:=by rw[Heap.size_push,n3]
 have p5:(zE tp tq s.heap l m).get? (zD tp tq s.heap l m).objs.size=some _:=Heap.get?_push_size _ rfl;have p4:(zE tp tq s.heap l m).get? (zC tp tq s.heap l m).objs.size=some _:=Heap.get?_push_of_some _ (Heap.get?_push_size _ rfl);have p3:(zE tp tq s.heap l m).get? (zB tp tq s.heap l m).objs.size=some _:=Heap.get?_push_of_some _ (Heap.get?_push_of_some _ (Heap.get?_push_size _ rfl));have p2:(zE tp tq s.heap l m).get? (zA tp s.heap l).objs.size=some _:=Heap.get?_push_of_some _ (Heap.get?_push_of_some _ (Heap.get?_push_of_some _ (Heap.get?_push_size _ rfl)));have p1:(zE tp tq s.heap l m).get? s.heap.objs.size=some _:=Heap.get?_push_of_some _ (Heap.get?_push_of_some _ (Heap.get?_push_of_some _ (Heap.get?_push_of_some _ (Heap.get?_push_size _ rfl))));show _/\_;rw[n2,n3,n4]at p5;rw[n1,n2]at p3;rw[n3]at p4;rw[n1]at p2;rw[n4];refine⟨⟨_,p5,rfl⟩,q _ p5 p3 p4 (xU p1) (xU p2) λc o x=>?_⟩;exact Heap.get?_push_of_some _ (Heap.get?_push_of_some _ (Heap.get?_push_of_some _ (Heap.get?_push_of_some _ (Heap.get?_push_of_some _ x))))
theorem Fo{tp tq:Bool}{z U V i j l m:Addr}{n:Nat}{xs ys:Array Value}{a b:Value}{Q:Option Value->Shared->Prop}(hh:A.handled=none)(D:Ym z U V i j)(lz:l≠z/\l≠V/\l≠i/\l≠j)(mz:m≠z/\m≠V/\m≠i/\m≠j)
  (hz:IsZip s.heap z U V .none) (hU:IsPair s.heap U (.ref i) (.ref j)) (hV:IsPair s.heap V a b) (h1:ly tp s.heap i l n) (h2:ly tq s.heap j m n) (hl:vn tp s.heap l xs) (hm:vn tq s.heap m ys) (CD:xs[n]?=none\/ys[n]?=none)
  (q:∀g,(∀c o,c≠z->c≠V->c≠i->c≠j->s.heap.get? c=some o->g.get? c=some o)->Q none {s with heap:=g}):wpAny (model prog w) A (pyNext (.ref z)) Q E s:=by
 have hT:s.TypeIs (.ref z) "zip":=⟨_,hz,rfl⟩;unfold pyNext;refine wpAny_bind (wpAny_attempt (wpAny_callSpecial?_slot (name:=Str.ofString "__next__") hT F.slot_zip_next (wpAny_call_entry F.slot_zip_next hT F.entry_zip_next ?_ (F.args_zip_next_1 _))));show wpAny _ _ (field (.ref z) 2 >>= _) _ _ _;refine wpAny_bind (wpAny_field hz rfl (x:=.bool false) rfl ?_);show wpAny _ _ (field (.ref z) 3 >>= _) _ _ _;refine wpAny_bind (wpAny_field hz rfl (x:=.ref U) rfl (wpAny_bind (wpAny_seqItems hU rfl ?_)));show wpAny _ _ (Builtin.SmallTypes.ownedTupleIsFree (.ref z) >>= _) _ _ _;refine wpAny_bind ?_;unfold Builtin.SmallTypes.ownedTupleIsFree;refine wpAny_bind (wpAny_field hz rfl (x:=.none) rfl (wpAny_pure ?_));simp only[if_true];refine wpAny_bind (wpAny_rule (wpAny_bind (wpAny_field hz rfl (x:=.ref V) rfl (wpAny_bind (wpAny_setField_rec hz (by simp) λg1 z1 e1=>?_)))))
 replace z1:IsZip g1 z U V .ellipsis:=z1
 refine wpAny_bind ?_;simp only[List.zipIdx_cons,List.zipIdx_nil,List.forIn_cons,List.forIn_nil];refine wpAny_bind (wpAny_bind (wpAny_onRaise ?_));show wpAny _ _ (Builtin.SmallTypes.nextOf (.ref i) >>= _) _ _ _;cases hx:xs[n]? with
 | none =>
  refine wpAny_bind (mJ (s:={s with heap:=g1}) hh (h1.at λo e=>e1.extBut _ _ D.iz e) (hl.at λo e=>e1.extBut _ _ lz.1 e) hx λg2 e x2 he=>?_)
  obtain⟨oe,MY,VE⟩:=he;have z2:IsZip g2 z U V .ellipsis:=x2 _ _ D.iz.symm z1;have ez:e≠z:=λx=>by subst x;rw[z2]at MY;cases MY;simp at VE
  refine wpAny_setField_rec z2 (by simp) λg3 _ e3=>?_
  refine wpAny_bind (wpAny_isInstance (T:="StopIteration") (b:=true) ⟨oe,e3.extBut _ _ ez MY,VE⟩ isSubtype_stop (wpAny_pure (q _ λc o c1 _ c3 _ x=>?_)));exact e3.extBut _ _ c1 (x2 _ _ c3 (e1.extBut _ _ c1 x))
 | some x =>
  have hy:ys[n]?=none:=by
   rcases CD with h|h
   ·rw[hx]at h;cases h
   ·exact h
  refine wpAny_bind (draw (s:={s with heap:=g1}) (h1.at λo e=>e1.extBut _ _ D.iz e) (hl.at λo e=>e1.extBut _ _ lz.1 e) hx λg2 w2 e2=>wpAny_pure ?_)
  have v2:IsPair g2 V a b:=e2.extBut _ _ D.vi (e1.extBut _ _ D.vz hV);refine wpAny_bind (wpAny_seqItems v2 rfl (wpAny_bind (wpAny_updateSeq_pair v2 λg3 v3 e3=>?_)));refine wpAny_bind (wpAny_letGo (wpAny_pure (wpAny_bind (wpAny_bind (wpAny_onRaise ?_)))));show wpAny _ _ (Builtin.SmallTypes.nextOf (.ref j) >>= _) _ _ _;have to3:∀c o,c≠z->c≠i->c≠V->s.heap.get? c=some o->g3.get? c=some o:=λc o c1 c2 c3 e=>e3.extBut _ _ c3 (e2.extBut _ _ c2 (e1.extBut _ _ c1 e));refine wpAny_bind (mJ (s:={s with heap:=g3}) hh (h2.at λo e=>to3 j o D.jz D.ij.symm D.vj.symm e) (hm.at λo e=>to3 m o mz.1 mz.2.2.1 mz.2.1 e) hy λg4 e x4 he=>?_)
  obtain⟨oe,MY,VE⟩:=he;have z4:IsZip g4 z U V .ellipsis:=x4 _ _ D.jz.symm (e3.extBut _ _ D.vz.symm (e2.extBut _ _ D.iz.symm z1));have ez:e≠z:=λx=>by subst x;rw[z4]at MY;cases MY;simp at VE
  refine wpAny_setField_rec z4 (by simp) λg5 _ e5=>?_
  refine wpAny_bind (wpAny_isInstance (T:="StopIteration") (b:=true) ⟨oe,e5.extBut _ _ ez MY,VE⟩ isSubtype_stop (wpAny_pure (q _ λc o c1 c2 c3 c4 x=>?_)));exact e5.extBut _ _ c1 (x4 _ _ c4 (to3 c o c1 c3 c2 x))
end
end Vc
namespace Vc
open PySem L2
variable [KF]
section
variable {X:Cx}{pins:List (Addr×Obj)}{σ:St}{H:Hp}{s:Shared}
theorem xX(I:L2.Inv X pins σ H s){ch:List Addr}(hf:∀b∈ch,gH X pins H b){h':Heap}{t':Nat}(kp:∀b o,b∉ch->s.heap.get? b=some o->h'.get? b=some o){T:Addr}{o:HO}(hT:s.heap.objs.size<=T)(new:bR X.prog X.w (upd H T o) h' T o):
  L2.Inv X pins σ (upd H T o) {s with heap:=h',toks:=t'}:=by
 have Fz:∀ {b u},s.heap.get? b=some u->b≠T:=λe=>Nat.ne_of_lt (Nat.lt_of_lt_of_le (Heap.lt_size e) hT);have Tj:∀ {b u},H b=some u->b≠T:=λe=>Nat.ne_of_lt (Nat.lt_of_lt_of_le (I.bC.lt e) hT);have Dg:∀ {b u},H b=some u->b∉ch:=λ{b u} e z=>by rw[(hf b z).1]at e;cases e
 refine I.step (g':=s.gens) (d':=s.drawn) (ch:=ch) (λb hb=>?_) (λb u _ _ hc e _=>kp b u hc e) (λb u _ _ hc e _=>⟨u.slots,kp b u hc e⟩) (λb u hc e n=>by rw[ak (Fz e)];exact n) (λb u hc e=>⟨u,kp b u hc e⟩)
  (λb xs e=>by rw[ak (Tj e)];exact e) (λb u w e=>by rw[ak (Tj e)];exact e) (λb ps e=>⟨#[],by rw[ak (Tj e),e];simp⟩) (λm hm=>?_) (λb u e=>?_) I.bare
 ·obtain⟨f0,f1,f2,f3,f4,f5⟩:=hf b hb
  exact⟨f3.imp id λz=>Heap.get?_none_of_le z,f1,f4,f5⟩
 ·obtain⟨ob,es,ep,ho,r⟩:=hm
  refine⟨ob,es,ep,kp _ ob (λz=>?_) ho,r⟩;exact(hf _ z).2.1 rfl
 ·by_cases hb:b=T
  ·subst hb;rw[ay]at e;cases e;exact new
  ·rw[ak hb]at e
   refine(I.bC b u e).nH (λc v hc q=>?_) (λc q=>by rw[ak (Tj q)];exact q) (λc xs q=>by rw[ak (Tj q)];exact q) λc o u q=>by rw[ak (Tj q)];exact q
   rcases hc with z|z
   ·subst z;exact kp _ v (Dg e) q
   ·exact kp _ v (Dg z) q
theorem xW(I:L2.Inv X pins σ H s){ch:List Addr}(hf:∀b∈ch,gH X pins H b){h':Heap}{t':Nat}(kp:∀b o,b∉ch->s.heap.get? b=some o->h'.get? b=some o):L2.Inv X pins σ H {s with heap:=h',toks:=t'}:=by
 have Dg:∀ {b u},H b=some u->b∉ch:=λ{b u} e z=>by rw[(hf b z).1]at e;cases e
 refine I.step (g':=s.gens) (d':=s.drawn) (ch:=ch) (λb hb=>?_) (λb u _ _ hc e _=>kp b u hc e) (λb u _ _ hc e _=>⟨u.slots,kp b u hc e⟩) (λb u hc e n=>n) (λb u hc e=>⟨u,kp b u hc e⟩)
  (λb xs e=>e) (λb u w e=>e) (λb ps e=>⟨#[],by rw[e];simp⟩) (λm hm=>?_) (λb u e=>?_) I.bare
 ·obtain⟨f0,f1,f2,f3,f4,f5⟩:=hf b hb
  exact⟨f3.imp id λz=>Heap.get?_none_of_le z,f1,f4,f5⟩
 ·obtain⟨ob,es,ep,ho,r⟩:=hm
  refine⟨ob,es,ep,kp _ ob (λz=>?_) ho,r⟩;exact(hf _ z).2.1 rfl
 ·refine(I.bC b u e).nH (λc v hc q=>?_) (λc q=>q) λc xs q=>q
  rcases hc with z|z
  ·subst z;exact kp _ v (Dg e) q
  ·exact kp _ v (Dg z) q
end
def Sq(tp:Bool)(K:PySem.W.Frag)(H:Hp)(a:Addr)(xs:List V):Prop:=if tp=true then iC K H a xs else fm K H a xs
theorem Sq.is{tp:Bool}{X:Cx}{pins:List (Addr×Obj)}{σ:St}{H:Hp}{s:Shared}{a:Addr}{xs:List V}(I:L2.Inv X pins σ H s)(h:Sq tp X.K H a xs):∃its:List Value,Vals xs its/\vn tp s.heap a its.toArray/\a<s.heap.objs.size:=by
 cases tp with
 | true =>
  obtain⟨its,r,p,_⟩:=I.tuple (show iC X.K H a xs from h)
  exact⟨its,r,p,by obtain⟨o,e,_⟩:=p;exact Heap.lt_size e⟩
 | false =>
  obtain⟨its,r,p,_⟩:=I.list (show fm X.K H a xs from h)
  exact⟨its,r,p.isList,p.lt⟩
theorem Sq.inj{tp:Bool}{X:Cx}{pins:List (Addr×Obj)}{σ:St}{H:Hp}{s:Shared}{a:Addr}{xs ys:List V}(I:L2.Inv X pins σ H s)(h:Sq tp X.K H a xs)(h':Sq tp X.K H a ys):xs=ys:=by
 cases tp with
 | true=>exact I.pI h h'
 | false=>exact I.tZ h h'
def Y6(tp tq:Bool)(K:PySem.W.Frag)(l m:Addr):It:=
  ⟨λn H=>∃xs ys x y,Sq tp K H l xs/\Sq tq K H m ys/\xs[n]?=some x/\ys[n]?=some y,
   λn H v H'=>∃p x y,H p=none/\v=.ref p/\H'=upd H p (.tup [x,y])/\(∀xs,Sq tp K H l xs->xs[n]?=some x)/\∀ys,Sq tq K H m ys->ys[n]?=some y,
   λn H=>∃xs ys,Sq tp K H l xs/\Sq tq K H m ys/\(xs.length<=n\/ys.length<=n)⟩
theorem E7{P:Program}{w:World}{K:PySem.W.Frag}{elts:List Expr}{kk:Nat}{jV:Pos}(tp tq:Bool)(z U V i j l m:Addr)(D:Ym z U V i j)(lz:l≠z/\l≠V/\l≠i/\l≠j)(mz:m≠z/\m≠V/\m≠i/\m≠j):
  Turn P w K (.Tuple elts kk jV) (Y6 tp tq K l m) [z,U,V,i,j] z (λn h=>IsZip h z U V .none/\IsPair h U (.ref i) (.ref j)/\(∃a b,IsPair h V a b)/\ly tp h i l n/\ly tq h j m n) where
 mem:=by simp
 obj:=λn h st b hb=>by
  obtain⟨h1,h2,⟨a,c,h3⟩,h4,h5⟩:=st;simp only[List.mem_cons,List.not_mem_nil,or_false]at hb;rcases hb with rfl|rfl|rfl|rfl|rfl
  ·exact⟨_,h1,λv q=>by cases q⟩
  ·exact⟨_,h2,λv q=>by cases q⟩
  ·exact⟨_,h3,λv q=>by cases q⟩
  ·exact h4.live
  ·exact h5.live
 keep:=λn h h' st kp=>by
  obtain⟨h1,h2,⟨a,c,h3⟩,h4,h5⟩:=st;exact⟨kp z (by simp) _ h1,kp U (by simp) _ h2,⟨a,c,kp V (by simp) _ h3⟩,h4.at λo e=>kp i (by simp) o e,h5.at λo e=>kp j (by simp) o e⟩
 item:=by
  intro X hP hw hK hc n pins s σ H E I hf st hg;subst hP hw hK;obtain⟨h1,h2,⟨a,c,h3⟩,h4,h5⟩:=st;obtain⟨xs,ys,x,y,q1,q2,e1,e2⟩:=hg;obtain⟨its,r1,p1,_⟩:=q1.is I;obtain⟨jts,r2,p2,_⟩:=q2.is I;obtain⟨u,hu,ru⟩:=r1.get e1;obtain⟨v,hv,rv⟩:=r2.get e2;refine IG D lz mz h1 h2 h3 h4 h5 p1 p2 (x:=u) (y:=v) (by simpa using hu) (by simpa using hv) λg z1 v1 i1 j1 t1 s1 k1=>⟨_,rfl,?_⟩
  refine wpAny_letOwnedTupleGo_zip z1 λg' z2 Gi=>?_;have kp:∀b o,b∉[z,V,i,j]->s.heap.get? b=some o->g'.get? b=some o:=λb o hb e=>by
   simp only[List.mem_cons,List.not_mem_nil,or_false,not_or]at hb;exact Gi.extBut _ _ hb.1 (k1 b o hb.1 hb.2.1 hb.2.2.1 hb.2.2.2 e)
  have zT:s.heap.objs.size≠z:=Nat.ne_of_gt (Heap.lt_size h1);have Ys:∀b∈[z,V,i,j],gH X pins H b:=λb hb=>hf b (by
   simp only[List.mem_cons,List.not_mem_nil,or_false]at hb ⊢;rcases hb with e|e|e|e<;>simp [e])
  have t2:IsPair g' s.heap.objs.size u v:=Gi.extBut _ _ zT t1;have I':=xX (t':=s.toks) (o:=.tup [x,y]) I Ys kp (Nat.le_refl _) ⟨by show 2<=sizeLine;decide,[u,v],.cons ru (.cons rv .nil),⟨_,t2,rfl,_,rfl⟩⟩
  have yy:H s.heap.objs.size=none:=I.bC.fresh (Nat.le_refl _);refine⟨.ref s.heap.objs.size,upd H s.heap.objs.size (.tup [x,y]),I',rfl,⟨_,x,y,yy,rfl,rfl,λzs hz=>by rw[hz.inj I q1];exact e1,λzs hz=>by rw[hz.inj I q2];exact e2⟩,⟨z2,Gi.extBut _ _ D.uz (k1 _ _ D.uz D.uv D.ui D.uj h2),⟨u,v,Gi.extBut _ _ D.vz v1⟩,i1.at λo e=>Gi.extBut _ _ D.iz e,j1.at λo e=>Gi.extBut _ _ D.jz e⟩,λb hb=>?_⟩
  have k9:=(hf b hb).1;have:b≠s.heap.objs.size:=by
   obtain⟨o,e,_⟩:∃o,s.heap.get? b=some o/\True:=by
    simp only[List.mem_cons,List.not_mem_nil,or_false]at hb;rcases hb with rfl|rfl|rfl|rfl|rfl
    ·exact⟨_,h1,trivial⟩
    ·exact⟨_,h2,trivial⟩
    ·exact⟨_,h3,trivial⟩
    ·obtain⟨o,e,_⟩:=h4.live;exact⟨o,e,trivial⟩
    ·obtain⟨o,e,_⟩:=h5.live;exact⟨o,e,trivial⟩
   exact Nat.ne_of_lt (Heap.lt_size e)
  rw[ak this];exact k9
 done:=by
  intro X hP hw hK hc n pins s σ H E I hf st hg;subst hP hw hK;obtain⟨h1,h2,⟨a,c,h3⟩,h4,h5⟩:=st;obtain⟨xs,ys,q1,q2,hl⟩:=hg;obtain⟨its,r1,p1,_⟩:=q1.is I;obtain⟨jts,r2,p2,_⟩:=q2.is I;have n1:=r1.length;have n2:=r2.length;refine Fo (I.ok.hd hc) D lz mz h1 h2 h3 h4 h5 p1 p2 (hl.imp (λq=>by simp;omega) λq=>by simp;omega) λg k1=>⟨rfl,?_⟩
  refine xW (t':=s.toks) (ch:=[z,V,i,j]) I (λb hb=>hf b ?_) λb o hb e=>?_
  ·simp only[List.mem_cons,List.not_mem_nil,or_false]at hb ⊢
   rcases hb with e|e|e|e<;>simp [e]
  ·simp only[List.mem_cons,List.not_mem_nil,or_false,not_or]at hb
   exact k1 b o hb.1 hb.2.1 hb.2.2.1 hb.2.2.2 e
 self:=λ_ _ _ _ _ st h=>wpAny_pyIter_zip st.1 h
theorem IE(n:Nat):Ym (n+4) (n+2) (n+3) n (n+1):=
  ⟨show(n+2:Nat)≠n+4 by omega,show(n+3:Nat)≠n+4 by omega,show(n:Nat)≠n+4 by omega,show(n+1:Nat)≠n+4 by omega,show(n+2:Nat)≠n+3 by omega,
   show(n+2:Nat)≠n by omega,show(n+2:Nat)≠n+1 by omega,show(n+3:Nat)≠n by omega,show(n+3:Nat)≠n+1 by omega,show(n:Nat)≠n+1 by omega⟩
theorem oA{l n:Nat}(h:l<n):l≠n+4/\l≠n+3/\l≠n/\l≠n+1:=by omega
def aam(K:PySem.W.Frag)(ta:TA):TI:=λσ H R=>ta σ H λvs H1=>∃tp tq l m xs ys,vs=[.ref l,.ref m]/\Sq tp K H1 l xs/\Sq tq K H1 m ys/\R (Y6 tp tq K l m) H1
theorem PZ{X:Cx}{elts:List Expr}{kk:Nat}{jV:Pos}{a b:Expr}{ta:TA}{p pos:Pos}(hg:Gl X "zip")(hm:X.mg "zip"=none)(ha:PA X [a,b] ta)(hs:starEach [a,b] X.env=[(false,eval a X.env),(false,eval b X.env)])(CT:starEach [b] X.env=[(false,eval b X.env)]):
  PI X (.Tuple elts kk jV) (.Call (.Name "zip" p) [a,b] [] pos) (aam X.K ta):=by
 intro pins s σ H R I h;refine PyProof.Rows.Call_ (fR I hg hm PyProof.Rows.boot_zip (PyProof.Rows.callWith_type1 (cD (ha pos pins s σ H _ I h) λus s1 ⟨vs,H1,I1,r1,q1⟩=>?_) (by rw[hs,CT]) (by rw[CT];rfl)))
 obtain⟨tp,tq,l,m,xs,ys,e,q1,q2,q⟩:=q1;subst e;obtain⟨u,v,rfl,ru,rv⟩:=vals2 r1;cases ru;cases rv;obtain⟨its,_,p1,ll⟩:=q1.is I1;obtain⟨jts,_,p2,lm⟩:=q2.is I1;refine Fl p1 p2 λg z1 u1 v1 i1 j1 k1=>?_;refine wpAny_pyIter_zip z1 ?_;have N:∀n:Nat,s1.heap.objs.size<=s1.heap.objs.size+n:=λn=>Nat.le_add_right _ _;refine⟨s1.heap.objs.size+4,[s1.heap.objs.size+4,s1.heap.objs.size+2,s1.heap.objs.size+3,s1.heap.objs.size,s1.heap.objs.size+1],_,_,H1,rfl,I1.kept (t':=s1.toks) k1,
  E7 tp tq _ _ _ _ _ l m (IE _) (oA ll) (oA lm),⟨z1,u1,⟨_,_,v1⟩,i1,j1⟩,λb hb=>?_,q⟩
 have k9:s1.heap.objs.size<=b:=by
  simp only[List.mem_cons,List.not_mem_nil,or_false]at hb;rcases hb with rfl|rfl|rfl|rfl|rfl
  ·exact N 4
  ·exact N 2
  ·exact N 3
  ·exact N 0
  ·exact N 1
 exact I1.yq k9 (I1.bC.fresh k9)
end Vc
namespace Vc
open PySem L2
variable [KF]
theorem sJ{prog:Program}{w:World}{A:Around}(hh:A.handled=none)(tp:Bool)(j a:Addr)(df:a≠j)(xs:Array Value):
  Draws prog w A j [j,a] xs.size (λi v=>xs[i]?=some v) (λi h=>ly tp h j a i/\vn tp h a xs) where
 live:=λ_ _ st=>let ⟨o,e,_⟩:=st.1.live;⟨o,e⟩
 frame:=λ_ _ _ st kp=>⟨st.1.at λo e=>kp j (by simp) o e,st.2.at λo e=>kp a (by simp) o e⟩
 item:=λi s Q E hi st q=>by
  refine draw st.1 st.2 (x:=xs[i]) (by simp [hi]) λg w1 e1=>?_
  exact q _ g s.toks (by simp [hi]) ⟨w1,st.2.at λo e=>e1.extBut _ _ df e⟩ e1
 done:=λs Q E st q=>mJ hh st.1 st.2 (by simp) q
def Yl(tp:Bool)(K:PySem.W.Frag)(a:Addr):It:=
 ⟨λn H=>∃xs x,Sq tp K H a xs/\xs[n]?=some x,λn H v H'=>∃p x,H p=none/\v=.ref p/\H'=upd H p (.tup [.int n,x])/\∀xs,Sq tp K H a xs->xs[n]?=some x,λn H=>∃xs,Sq tp K H a xs/\xs.length=n⟩
theorem zi{P:Program}{w:World}{K:PySem.W.Frag}{elts:List Expr}{kk:Nat}{jV:Pos}(tp:Bool)(e j a:Addr)(ej:e≠j)(ae:a≠e)(aj:a≠j):
  Turn P w K (.Tuple elts kk jV) (Yl tp K a) [e,j] e (λn h=>(∃old,IsEnum h e j n old)/\ly tp h j a n) where
 mem:=by simp
 obj:=λn h st b hb=>by
  obtain⟨⟨old,h1⟩,h2⟩:=st;simp only[List.mem_cons,List.not_mem_nil,or_false]at hb;rcases hb with rfl|rfl
  ·exact⟨_,h1,λv q=>by cases q⟩
  ·exact h2.live
 keep:=λn h h' st kp=>by
  obtain⟨⟨old,h1⟩,h2⟩:=st;exact⟨⟨old,kp e (by simp) _ h1⟩,h2.at λo q=>kp j (by simp) o q⟩
 item:=by
  intro X hP hw hK hc n pins s σ H E I hf st hg;subst hP hw hK;obtain⟨⟨old,h1⟩,h2⟩:=st;obtain⟨xs,x,q1,e1⟩:=hg;obtain⟨its,r1,p1,_⟩:=q1.is I;obtain⟨u,hu,ru⟩:=r1.get e1;have hn:n<its.toArray.size:=by
   have:=(List.getElem?_eq_some_iff.mp hu).1;simpa using this
  have Dr:=sJ (prog:=X.prog) (w:=X.w) (A:=X.A.in1) (show X.A.in1.handled=none from I.ok.hd hc) tp j a aj its.toArray
  refine wpAny_pyNext_enum_itemD Dr h1 ⟨h2,p1⟩ hn ej (by simp only[List.mem_cons,List.not_mem_nil,or_false,not_or];exact⟨ej,ae.symm⟩) λx' g tk hx' ho aC t1 s1 k1=>⟨_,rfl,?_⟩
  have hxu:x'=u:=by
   have:its.toArray[n]?=some u:=by simpa using hu
   rw[this]at hx';exact(Option.some.inj hx').symm
  subst hxu;refine wpAny_letOwnedTupleGo_enum ho λg' he' Mr=>?_;have kp:∀b o,b∉[e,j]->s.heap.get? b=some o->g'.get? b=some o:=λb o hb q=>by
   simp only[List.mem_cons,List.not_mem_nil,or_false,not_or]at hb;exact Mr.extBut _ _ hb.1 (k1 b o hb.1 hb.2 q)
  have eT:s.heap.objs.size≠e:=Nat.ne_of_gt (Heap.lt_size h1);have t2:=Mr.extBut _ _ eT t1;have I':=xX (t':=tk+1) (o:=.tup [.int n,x]) I hf kp (Nat.le_refl _) ⟨by show 2<=sizeLine;decide,[.int n tk,x'],.cons ⟨tk,rfl⟩ (.cons ru .nil),⟨_,t2,rfl,_,rfl⟩⟩
  have yy:H s.heap.objs.size=none:=I.bC.fresh (Nat.le_refl _);refine⟨.ref s.heap.objs.size,upd H s.heap.objs.size (.tup [.int n,x]),I',rfl,⟨_,x,yy,rfl,rfl,λzs hz=>by rw[hz.inj I q1];exact e1⟩,⟨⟨x',by simpa using he'⟩,aC.1.at λo q=>Mr.extBut _ _ ej.symm q⟩,λb hb=>?_⟩
  have k9:=(hf b hb).1;have:b≠s.heap.objs.size:=by
   simp only[List.mem_cons,List.not_mem_nil,or_false]at hb;rcases hb with rfl|rfl
   ·exact eT.symm
   ·obtain⟨o,q,_⟩:=h2.live;exact Nat.ne_of_lt (Heap.lt_size q)
  rw[ak this];exact k9
 done:=by
  intro X hP hw hK hc n pins s σ H E I hf st hg;subst hP hw hK;obtain⟨⟨old,h1⟩,h2⟩:=st;obtain⟨xs,q1,hl⟩:=hg;obtain⟨its,r1,p1,_⟩:=q1.is I;have n1:=r1.length;have Dr:=sJ (prog:=X.prog) (w:=X.w) (A:=X.A.in1) (show X.A.in1.handled=none from I.ok.hd hc) tp j a aj its.toArray
  have hn:its.toArray.size=n:=by rw[List.size_toArray,<- n1,hl]
  rw[hn]at Dr;refine wpAny_pyNext_enum_endD Dr h1 ⟨h2,p1⟩ λg x1=>⟨rfl,?_⟩;refine xW (t':=s.toks) (ch:=[e,j]) I hf λb o hb q=>?_;simp only[List.mem_cons,List.not_mem_nil,or_false,not_or]at hb;exact x1 b o hb.2 q
 self:=λ_ _ _ _ _ st h=>by
  obtain⟨⟨old,h1⟩,_⟩:=st;exact wpAny_pyIter_enum h1 h
variable {G:GE}{k:Nat}{S:Stat}
def X5:D->Option (List D)
 | .lst xs=>some xs
 | .tup xs=>some xs
 | _=>none
def u6(xs ys:List D):List D:=(xs.zip ys).map λp=>.tup [p.1,p.2]
def k6(xs:List D):List D:=xs.mapIdx λi x=>.tup [.int i,x]
def Ij(t:fo):fo:=λσ Q=>t σ λds aA=>match ds with
 | [a,b]=>match X5 a,X5 b with
  | some xs,some ys=>Q (u6 xs ys) aA
  | _,_=>False
 | _=>False
theorem Rep.sq{F:Hp}{v:V}{d:D}{xs:List D}(r:Rep F v d)(e:X5 d=some xs)(K:PySem.W.Frag):∃tp a vs,v=.ref a/\(∀H,aw F H->Sq tp K H a vs)/\aG F vs xs:=by
 cases d with
 | lst ys =>
  cases e;cases r with
  | lst h r=>exact⟨false,_,_,rfl,λH s=>(show fm K H _ _ from .inl (Rd.mono s h)),r⟩
 | tup ys =>
  cases e;cases r with
  | tup h r=>exact⟨true,_,_,rfl,λH s=>(show iC K H _ _ from .of (s _ _ h)),r⟩
 | _=>cases e
theorem Fh{xs ys:List D}{i:Nat}{d:D}(h:(u6 xs ys)[i]?=some d):∃x y,xs[i]?=some x/\ys[i]?=some y/\d=.tup [x,y]:=by
 unfold u6 at h;rw[List.getElem?_map]at h;cases e:(xs.zip ys)[i]? with
 | none=>rw[e]at h;cases h
 | some p =>
  rw[e]at h;obtain⟨e1,e2⟩:=List.getElem?_zip_eq_some.mp e;exact⟨p.1,p.2,e1,e2,(Option.some.inj h).symm⟩
theorem G2{K:PySem.W.Frag}{F:Hp}{tp tq:Bool}{l m:Addr}{vs us:List V}{xs ys:List D}(h1:∀H,aw F H->Sq tp K H l vs)(h2:∀H,aw F H->Sq tq K H m us)(r1:aG F vs xs)(r2:aG F us ys):iy F (Y6 tp tq K l m) (u6 xs ys):=λF1 H1 s1 s2 i=>by
 have a1:=h1 H1 (s1.trans s2);have a2:=h2 H1 (s1.trans s2);refine⟨λd e=>?_,λhl=>⟨vs,us,a1,a2,?_⟩⟩
 ·obtain⟨x,y,e1,e2,rfl⟩:=Fh e
  obtain⟨v,w1,q1⟩:=r1.get e1;obtain⟨u,w2,q2⟩:=r2.get e2;refine⟨⟨vs,us,v,u,a1,a2,w1,w2⟩,λz H2 yl=>?_⟩;obtain⟨p,v',u',hp,rfl,rfl,f1,f2⟩:=yl;have UM:=f1 vs a1;have Gi:=f2 us a2;rw[w1]at UM;cases UM;rw[w2]at Gi;cases Gi;have sm:=aJ (o:=.tup [v,u]) (same_none s2 hp);exact⟨upd F1 p (.tup [v,u]),.inr ⟨p,_,hp,rfl,rfl⟩,.tup ay (.cons ((q1.mono s1).mono sm) (.cons ((q2.mono s1).mono sm) .nil))⟩
 ·have:(u6 xs ys).length=min xs.length ys.length:=by unfold u6;simp
  have n1:=r1.length;have n2:=r2.length;omega
theorem JR{elts:List Expr}{kk:Nat}{jV:Pos}{a b:Expr}{t:fo}{p pos:Pos}(h:wG G k S [a,b] t)(hm:G.mg "zip"=none)(hg:S.sc.lookup ("zip":Str)=some .globalImplicit:=by rfl)(hs:∀env,starEach [a,b] env=[(false,eval a env),(false,eval b env)]:=by intro _;rfl)(CT:∀env,starEach [b] env=[(false,eval b env)]:=by intro _;rfl):
  EI G k S (.Tuple elts kk jV) (.Call (.Name "zip" p) [a,b] [] pos) (Ij t):=.mk λX Y ok=>nh (PZ (dI ok hg) (by rw[ok.mg];exact hm) (h X Y ok) (hs _) (CT _)) λσ H Q q=>by
 obtain⟨F,ao,Qd,R,q,K⟩:=q;refine⟨F,ao,_,R,q,λvs H1 F1 ds aA s1 R1 r1 q1=>?_⟩
 split at q1
 ·rename_i x y
  split at q1
  ·rename_i xs ys ex ey
   cases r1 with
   | cons rx r1 =>
    cases r1 with
    | cons ry r1 =>
     cases r1;obtain⟨tp,l,us,rfl,a1,b1⟩:=rx.sq ex X.K;obtain⟨tq,m,ws,rfl,a2,b2⟩:=ry.sq ey X.K;exact⟨tp,tq,l,m,us,ws,rfl,a1 H1 R1.fr,a2 H1 R1.fr,K H1 F1 aA _ _ s1 R1 (G2 a1 a2 b1 b2) q1⟩
  ·exact q1.elim
 ·exact q1.elim
theorem GZ{K:PySem.W.Frag}{F:Hp}{tp:Bool}{l:Addr}{vs:List V}{xs:List D}(h1:∀H,aw F H->Sq tp K H l vs)(r1:aG F vs xs):iy F (Yl tp K l) (k6 xs):=λF1 H1 s1 s2 i=>by
 have a1:=h1 H1 (s1.trans s2);refine⟨λd e=>?_,λhl=>⟨vs,a1,?_⟩⟩
 ·unfold k6 at e
  rw[List.getElem?_mapIdx]at e;cases ex:xs[i]? with
  | none=>rw[ex]at e;cases e
  | some x =>
   rw[ex]at e;cases e;obtain⟨v,w1,q1⟩:=r1.get ex;refine⟨⟨vs,v,a1,w1⟩,λz H2 yl=>?_⟩;obtain⟨p,v',hp,rfl,rfl,f1⟩:=yl;have UM:=f1 vs a1;rw[w1]at UM;cases UM;have sm:=aJ (o:=.tup [.int i,v]) (same_none s2 hp);exact⟨upd F1 p (.tup [.int i,v]),.inr ⟨p,_,hp,rfl,rfl⟩,.tup ay (.cons (.int _) (.cons ((q1.mono s1).mono sm) .nil))⟩
 ·rw[r1.length,hl];unfold k6;simp
end Vc
namespace Vc
open PySem L2
variable [KF]
section
variable {prog:Program}{w:World}{A:Around}{R:Result->Shared->Prop}
def cW(bt:Nat->Nat->Bool):Nat->Nat
 | 0=>0
 | n+1=>if bt (n+1) (cW bt n)=true then n+1 else cW bt n
def zH(prog:Program)(w:World)(A:Around)(op:CmpOp)(h0:Heap)(its:Array Value)(bt:Nat->Nat->Bool):Prop:=
 ∀(i j:Nat) (x y:Value) (s:Shared) (Q:Value->Shared->Prop) (E:Value->Shared->Prop),its[i]?=some x->its[j]?=some y->(∀b o,h0.get? b=some o->s.heap.get? b=some o)->Q (.bool (bt i j)) s->wpAny (model prog w) A (richCompare op x y) Q E s
theorem N8{h0:Heap}{its:Array Value}{bt:Nat->Nat->Bool}(hh:A.handled=none)(hc:zH prog w A.in1 .Lt h0 its bt){I l S:Addr}(Yv:h0.IsList l its)(IS:I≠S)(n0:h0.get? I=none)(n1:h0.get? S=none)(kw:List (Str×Value)):
  ∀(d j:Nat) (s:Shared) (v:Value) (c:Nat),its.size-(j+1)=d->j+1<=its.size->s.heap.IsListIter I l (j+1)->its[cW bt j]?=some v->s.heap.get? S=some {cls:=.type "list",dict:=none,data:=.seq #[v,v] c,slots:=#[]} ->
  (∀b o,h0.get? b=some o->s.heap.get? b=some o) ->
  (∀v g tk,its[cW bt (its.size-1)]?=some v->(∀b o,h0.get? b=some o->g.get? b=some o)->R (.ok (.ret v)) {s with heap:=g,toks:=tk}) ->
  codeAny (model prog w) A (.builtin "min.loop" ⟨[.ref I,.none,.ref S],kw⟩) R s:=by
 have nm:(toString "min"++toString ".loop":String)="min.loop":=by decide
 have lI:l≠I:=λz=>by obtain⟨o,e,_⟩:=Yv;rw[z,n0]at e;cases e
 have lS:l≠S:=λz=>by obtain⟨o,e,_⟩:=Yv;rw[z,n1]at e;cases e
 have nI:∀ {b o},h0.get? b=some o->b≠I:=λe z=>by rw[z,n0]at e;cases e
 have nS:∀ {b o},h0.get? b=some o->b≠S:=λe z=>by rw[z,n1]at e;cases e
 intro d
 induction d with
 | zero =>
  intro j s v c hd hj hI hv hS k0 hR;have e1:j+1=its.size:=by omega
  have hl:s.heap.IsList l its:=by obtain⟨o,e,r⟩:=Yv;exact⟨o,k0 _ _ e,r⟩
  refine codeAny_builtin F.entry_min_loop ?_;rw[Around.under_plainId F.plain_min_loop _];show wpAny _ A.in1 (seqItems? (.ref S) >>= _) _ _ s;refine wpAny_bind (wpAny_seqItems hS rfl ?_);show wpAny _ A.in1 (tryCatch (pyNext (.ref I)) _ >>= _) _ _ s;refine wpAny_bind (wpAny_tryCatch (wpAny_pyNext_list_end (show A.in1.handled=none from hh) hI hl (by simp;omega) λg x1=>?_))
  have S1:=x1 S _ IS.symm hS;show wpAny _ A.in1 (updateSeq S (λ_=>#[]) >>= _) _ _ _;refine wpAny_bind (wpAny_updateSeq (s:={s with heap:=g}) S1 rfl (wpAny_bind (wpAny_letGo (wpAny_pure ?_))))
  have e2:its.size-1=j:=by omega
  refine hR v _ s.toks (by rw[e2];exact hv) λb o e=>?_
  exact(Heap.get?_update_other _ _ (Ne.symm (nS e))).trans (x1 b o (nI e) (k0 b o e))
 | succ d ih =>
  intro j s v c hd hj hI hv hS k0 hR;have gK:j+1<its.size:=by omega
  have hl:s.heap.IsList l its:=by obtain⟨o,e,r⟩:=Yv;exact⟨o,k0 _ _ e,r⟩
  refine codeAny_builtin F.entry_min_loop ?_;rw[Around.under_plainId F.plain_min_loop _];show wpAny _ A.in1 (seqItems? (.ref S) >>= _) _ _ s;refine wpAny_bind (wpAny_seqItems hS rfl ?_);show wpAny _ A.in1 (tryCatch (pyNext (.ref I)) _ >>= _) _ _ s;have hx:its[j+1]?=some its[j+1]:=by simp [gK]
  refine wpAny_bind (wpAny_tryCatch (wpAny_pyNext_list_item hI hl hx λg I1 x1=>?_));have S1:=x1.extBut S _ IS.symm hS;have k1:∀b o,h0.get? b=some o->g.get? b=some o:=λb o e=>x1.extBut b o (nI e) (k0 b o e);show wpAny _ A.in1 (tryCatch (holding [its[j+1],its[j+1]] (richCompare .Lt its[j+1] v >>= _)) _ >>= _) _ _ _;refine wpAny_bind (wpAny_tryCatch (wpAny_holding (wpAny_bind (hc (j+1) (cW bt j) _ v {s with heap:=g} _ _ hx hv k1 ?_))))
  refine wpAny_bind (wpAny_holding (wpAny_truthy_bool (wpAny_bind (wpAny_letGo (wpAny_pure ?_)))));cases hb:bt (j+1) (cW bt j)with
  | true =>
   simp only[if_true];refine wpAny_bind (wpAny_updateSeq (s:={s with heap:=g}) S1 rfl (wpAny_bind (wpAny_letGo ?_)))
   rw[nm];refine wpAny_pure ⟨plainId_quiet F.plain_min_loop _,ih (j+1) _ its[j+1] _ ⋯ gK ?_ (by simp only[cW,hb,if_true];exact hx) (Heap.get?_update_self _ S1 rfl) (λb o e=>(Heap.get?_update_other _ _ (Ne.symm (nS e))).trans (k1 b o e)) λv' g' tk hv' k'=>?_⟩
   ·obtain⟨o,e,r⟩:=I1;exact⟨o,(Heap.get?_update_other _ _ (Ne.symm IS)).trans e,r⟩
   ·exact hR v' g' tk hv' k'
  | false =>
   simp only[Bool.false_eq_true,if_false];refine wpAny_bind (wpAny_letGo ?_);rw[nm];refine wpAny_pure ⟨plainId_quiet F.plain_min_loop _,ih (j+1) _ v c ⋯ gK I1 (by simp only[cW,hb,Bool.false_eq_true,if_false];exact hv) S1 k1 λv' g' tk hv' k'=>?_⟩
   exact hR v' g' tk hv' k'
theorem vq(a v:Value):argsOk "min" ⟨[a],[(Str.ofString "default",v)]⟩:=by unfold argsOk;kernel_rfl
theorem ud{E:Value->Shared->Prop}{s:Shared}{its:Array Value}{bt:Nat->Nat->Bool}(hh:A.handled=none)(hc:zH prog w A.in1 .Lt s.heap its bt){l:Addr}(hl:s.heap.IsList l its){dv:Value}{Q:Value->Shared->Prop}
  (q0:its.size=0->∀g tk,(∀b o,s.heap.get? b=some o->g.get? b=some o)->Q dv {s with heap:=g,toks:=tk})
  (q1:∀v g tk,its[cW bt (its.size-1)]?=some v->(∀b o,s.heap.get? b=some o->g.get? b=some o)->Q v {s with heap:=g,toks:=tk}):
  wpAny (model prog w) A (call (.builtin "min") [.ref l] [(Str.ofString "default",dv)]) Q E s:=by
 have nm:(toString "min"++toString ".loop":String)="min.loop":=by decide
 refine wpAny_call (codeAny_call_builtin F.plain_min F.entry_min ?_);have run:wpAny (model prog w) A.in1 (Builtin.«min» ⟨[.ref l],[(Str.ofString "default",dv)]⟩) (λfin s'=>match fin with
   | .done f=>(match(Except.ok f:Result)with|.ok (.ret v)=>Q v s'|.ok _=>False|.error e=>E e s')
   | .again c'=>c'.quiet=true/\codeAny (model prog w) A c' (λr s'=>match r with|.ok (.ret v)=>Q v s'|.ok _=>False|.error e=>E e s') s') E s:=by
  show wpAny _ A.in1 (Builtin.Builtins.bindParams "min" ["key","default"] 0 ⟨[],[(Str.ofString "default",dv)]⟩ >>= _) _ _ s;refine wpAny_bind (wpAny_of_eq (show Builtin.Builtins.bindParams "min" ["key","default"] 0 ⟨[],[(Str.ofString "default",dv)]⟩=pure [none,some dv]from rfl) (wpAny_bind (wpAny_pure ?_)))
  refine wpAny_bind (wpAny_pyIter_list hl (wpAny_bind (wpAny_newObj_type ?_)));generalize ZX:s.heap.push {cls:=.type "list_iterator",data:=.fields #[.ref l,.int 0 0]}=g1;have n1:g1.objs.size=s.heap.objs.size+1:=by rw[<- ZX];exact Heap.size_push ..
  have I0:(g1.push {cls:=.type "list",dict:=none,data:=.seq ([]:List Value).toArray}).IsListIter s.heap.objs.size l 0:=⟨_,Heap.get?_push_of_some _ (by rw[<- ZX];exact Heap.get?_push_size _ rfl),rfl,rfl⟩
  have S0:=Heap.get?_push_size g1 (o:={cls:=.type "list",dict:=none,data:=.seq ([]:List Value).toArray}) rfl;have k0:∀b o,s.heap.get? b=some o->(g1.push {cls:=.type "list",dict:=none,data:=.seq ([]:List Value).toArray}).get? b=some o:=λb o e=>Heap.get?_push_of_some _ (by rw[<- ZX];exact Heap.get?_push_of_some _ e)
  have fr:∀a,s.heap.objs.size<=a->s.heap.get? a=none:=λa ha=>by
   cases e:s.heap.get? a with
   | none=>rfl
   | some o=>exact absurd (Heap.lt_size e) (Nat.not_lt.mpr ha)
  have nI:s.heap.get? s.heap.objs.size=none:=fr _ (Nat.le_refl _);have nS:s.heap.get? g1.objs.size=none:=fr _ (by rw[n1];exact Nat.le_succ _)
  have IS:s.heap.objs.size≠g1.objs.size:=by rw[n1];exact Nat.ne_of_lt (Nat.lt_succ_self _)
  rw[nm];refine wpAny_pure ⟨plainId_quiet F.plain_min_loop _,?_⟩;generalize hg2:g1.push {cls:=.type "list",dict:=none,data:=.seq ([]:List Value).toArray}=g2 at I0 S0 k0;have GJ:g2.IsList l its:=by obtain⟨o,e,r⟩:=hl;exact⟨o,k0 _ _ e,r⟩
  refine codeAny_builtin F.entry_min_loop ?_;rw[Around.under_plainId F.plain_min_loop _];show wpAny _ A.in1 (seqItems? (.ref g1.objs.size) >>= _) _ _ _;refine wpAny_bind (wpAny_seqItems (s:={s with heap:=g2}) S0 rfl ?_)
  show wpAny _ A.in1 (tryCatch (pyNext (.ref s.heap.objs.size)) _ >>= _) _ _ _
  by_cases hz:its.size=0
  ·refine wpAny_bind (wpAny_tryCatch (wpAny_pyNext_list_end (show A.in1.handled=none from hh) I0 GJ (by simp [hz]) λg x1=>?_))
   refine wpAny_bind (wpAny_rule (wpAny_pure ?_));exact q0 hz g s.toks λb o e=>x1 b o (λz=>by rw[z,nI]at e;cases e) (k0 b o e)
  ·have hx:its[0]?=some its[0]:=by simp [Nat.pos_of_ne_zero hz]
   refine wpAny_bind (wpAny_tryCatch (wpAny_pyNext_list_item I0 GJ hx λg I1 x1=>?_));have S1:=x1.extBut _ _ IS.symm S0;have k1:∀b o,s.heap.get? b=some o->g.get? b=some o:=λb o e=>x1.extBut b o (λz=>by rw[z,nI]at e;cases e) (k0 b o e)
   show wpAny _ A.in1 (updateSeq g1.objs.size (λ_=>#[its[0],its[0]]) >>= _) _ _ _;refine wpAny_bind (wpAny_updateSeq (s:={s with heap:=g}) S1 rfl ?_)
   rw[nm];refine wpAny_pure ⟨plainId_quiet F.plain_min_loop _,N8 hh hc hl IS nI nS _ _ 0 _ its[0] _ rfl (Nat.pos_of_ne_zero hz) ?_ hx (Heap.get?_update_self _ S1 rfl) (λb o e=>(Heap.get?_update_other _ _ (λz=>by rw[<- z,nS]at e;cases e)).trans (k1 b o e)) λv g' tk hv k'=>q1 v g' tk hv k'⟩
   obtain⟨o,e,r⟩:=I1;exact⟨o,(Heap.get?_update_other _ _ (Ne.symm IS)).trans e,r⟩
 simp only[checkBuiltinCall,F.kind_min];cases aaf:Manifest.signature? "min" with
 | none=>exact wpAny_pure run
 | some sig =>
  have ha:argsOk "min" ⟨[.ref l],[(Str.ofString "default",dv)]⟩:=vq _ _;have ha':Bind.checkArgs "min" sig ⟨[.ref l],[(Str.ofString "default",dv)]⟩=pure ():=by simpa only[argsOk,aaf]using ha
  simp only[ha'];exact wpAny_pure run
end
end Vc
namespace Vc
open PySem L2
variable [KF]
variable {G:GE}{k:Nat}{S:Stat}
def isInt:D->Bool
 | .int _=>true
 | _=>false
def g9:D->Int
 | .int i=>i
 | _=>0
theorem aG.ints{F:Hp}:∀ {vs:List V} {xs:List D},aG F vs xs->xs.all isInt=true->vs=(xs.map g9).map V.int
 | _,_,.nil,_=>rfl
 | _,_,.cons (d:=d) r t,h=>by
  rw[List.all_cons,Bool.and_eq_true]at h;cases d with
  | int i =>
   cases r;rw[aG.ints t h.2];rfl
  | _=>exact absurd h.1 (by simp [isInt])
theorem Aw{X:Cx}(hc:X.calm=true):cQ X (.builtin "sum") (λxs H Q=>∃(a:Addr) (ns:List Int),xs=[.ref a]/\fm X.K H a (ns.map V.int)/\Q (.int ns.sum) H):=by
 intro pins s σ H xs us Q I r h;obtain⟨a,ns,rfl,hq,q⟩:=h;obtain⟨u,rfl,ru⟩:=vals1 r;cases ru;obtain⟨its,rv,p,_⟩:=I.list hq;obtain⟨m,F⟩:=I.fr;have hi:=L2.intsAre_of rv;obtain⟨ys,e⟩:=(hi.allInts).items;have pl:=p.isList;rw[e]at pl;refine sum_intListG (I.ok.hd hc) pl λg tk t' kp=>⟨.int ns.sum,H,I.kept kp,⟨t',?_⟩,q⟩;have e1:preSum (numAt ys) ys.size=(PySem.numsOf its.toArray.toList).sum:=by
  rw[e,nums_intItems,preSum_eq,List.take_of_length_le (by simp)]
 rw[e1,show its.toArray.toList=its from rfl,hi.numsOf]
def sumF:List D->(EV->Prop)->Prop
 | [.lst xs],Q=>xs.all isInt=true/\Q (.val (.int (xs.map g9).sum))
 | _,_=>False
theorem wW(hh:S.lK=false:=by rfl):ya G k S (.builtin "sum") sumF:=⟨λK xs H Q=>∃(a:Addr) (ns:List Int),xs=[V.ref a]/\fm K H a (ns.map V.int)/\Q (.int ns.sum) H,λ_ _ ok=>Aw (ok.calm hh),λY F H ao σ vs ds Qd Q R r q g=>by
 unfold sumF at q
 split at q
 ·obtain⟨v,rfl,rv⟩:=r.one
  obtain⟨p,us,rfl,h1,h2⟩:=rv.lst;refine⟨p,_,rfl,?_,g.val R (.int _) q.2⟩;rw[<- h2.ints q.1];exact .inl h1
 ·exact q.elim⟩
def Yh:D->Option String
 | .aX=>some "NoneType"
 | .bl _=>some "bool"
 | .int _=>some "int"
 | .str _=>some "str"
 | .lst _=>some "list"
 | .tup _=>some "tuple"
 | _=>none
def kP(T U:String):Bool:=T==U||(T=="bool"&&U=="int")
def fk(U:String):Prop:=∀K:PySem.W.Frag,PySem.W.kitOne K (.type "NoneType") (.type U)=some (kP "NoneType" U)/\PySem.W.kitOne K (.type "bool") (.type U)=some (kP "bool" U)/\PySem.W.kitOne K (.type "int") (.type U)=some (kP "int" U) /\
 PySem.W.kitOne K (.type "str") (.type U)=some (kP "str" U)/\PySem.W.kitOne K (.type "list") (.type U)=some (kP "list" U)/\PySem.W.kitOne K (.type "tuple") (.type U)=some (kP "tuple" U)
theorem G4:fk "int":=λK=>⟨by rfl,by rfl,by rfl,by rfl,by rfl,by rfl⟩
theorem C7:fk "bool":=λK=>⟨by rfl,by rfl,by rfl,by rfl,by rfl,by rfl⟩
theorem tT:fk "list":=λK=>⟨by rfl,by rfl,by rfl,by rfl,by rfl,by rfl⟩
theorem kit_tuple:fk "tuple":=λK=>⟨by rfl,by rfl,by rfl,by rfl,by rfl,by rfl⟩
theorem fk.of{U:String}(h:fk U)(K:PySem.W.Frag){d:D}{T:String}(e:Yh d=some T):PySem.W.kitOne K (.type T) (.type U)=some (kP T U):=by
 obtain⟨h1,h2,h3,h4,h5,h6⟩:=h K;cases d<;>cases e<;>assumption
theorem cB.ty{F H:Hp}{v:V}{d:D}{T:String}(r:cB F H v d)(s:aw F H)(K:PySem.W.Frag)(e:Yh d=some T):kh K H v (.type T):=by
 cases d with
 | aX=>cases e;obtain rfl:=r.aX;exact .aX
 | bl b=>cases e;obtain rfl:=r.bl;exact .bl b
 | int i=>cases e;obtain rfl:=r.int;exact .int i
 | str x=>cases e;obtain rfl:=r.str;exact .str x
 | lst xs =>
  cases e;obtain⟨a,vs,rfl,h,_⟩:=r.lst;rcases h with h|⟨o,h⟩
  ·exact .lst h
  ·exact .qg h
 | tup xs=>cases e;obtain⟨a,vs,rfl,h,_⟩:=r.tup s;exact .tup h
 | dct _=>cases e
 | exc _=>cases e
 | gw _=>cases e
 | sE _=>cases e
 | kp _ _ _ _=>cases e
def Nh(Us:List String)(d:D)(Q:Bool->Prop):Prop:=match Yh d with
 | some T=>Q (Us.any (kP T))
 | none=>False
def rT(Us:List String)(t:TV):TB:=λσ Q=>t σ λx aA=>match fh aA x with
 | some d=>Nh Us d λb=>Q b aA
 | none=>False
theorem h9{e:Expr}{t:TV}{u:Str}{U:String}{p p2 pos:Pos}(h:EO G k S e t)(kf:fk U)(hm:G.mg "isinstance"=none)(iW:G.mg u=none)(hv2:bootBuiltins u=some (.type U))(S5:u≠"__name__":=by decide)(hd2:(u==("__debug__":Str))=false:=by decide)
  (hg:S.sc.lookup ("isinstance":Str)=some .globalImplicit:=by rfl) (hg2:S.sc.lookup u=some .globalImplicit:=by rfl)
  (he:∀env,starEach [e,.Name u p2] env=(false,eval e env)::starEach [.Name u p2] env:=by intro _;rfl):EO G k S (.Call (.Name "isinstance" p) [e,.Name u p2] [] pos) (bV (rT [U] t)):=.mk λX Y ok=>by
 have ha:PA X [e,.Name u p2] (lh (lO Y t) (lh (tC (.ty U)) wt)):=cn (h X Y ok) (cn (Ho (dI ok hg2) (by rw[ok.mg];exact iW) hv2 (show RelV (.ty U) (.type U)from rfl) S5 hd2) cZ rfl) (he _)
 have hc:cQ X (.builtin "isinstance") (λvs H Q=>∃F x d T,vs=[x,.ty U]/\aw F H/\cB F H x d/\Yh d=some T/\Q (.bl (kP T U)) H):=by
  intro pins s σ H xs us Q I r q;obtain⟨F,x,d,T,rfl,sm,rx,et,q⟩:=q;obtain⟨a,b,rfl,ra,rb⟩:=vals2 r;cases rb;exact yF I ra (rx.ty sm X.K et) (kf.of X.K et) λtk=>⟨.bl _,H,I.tok tk,rfl,q⟩
 refine bb (ng hc (dI ok hg) (by rw[ok.mg];exact hm) (by decide +kernel) ha ∅ ∅ (he _) rfl) λσ H Q q=>?_
 obtain⟨F,ao,Qd,R,q,K⟩:=q;refine⟨F,ao,_,R,q,λv1 H1 F1 x aA s1 R1 r1 q1=>?_⟩
 split at q1
 ·rename_i d ed
  unfold Nh at q1
  split at q1
  ·rename_i T eT
   refine⟨F1,v1,d,T,rfl,R1.fr,R1.fh r1 ed,eT,?_⟩;have e1:([U].any (kP T))=kP T U:=by simp
   rw[e1]at q1;exact K _ H1 F1 (.val (.bl (kP T U))) aA s1 R1 (.bl _) q1
  ·exact q1.elim
 ·exact q1.elim
end Vc
namespace Vc
open PySem L2
variable [KF]
variable {G:GE}{k:Nat}{S:Stat}
def kB:D->Bool
 | .tup xs=>xs.all isInt
 | _=>false
def ltI:D->D->Bool
 | .int i,.int j=>decide (i<j)
 | .tup xs,.tup ys=>HT.lexLt (xs.map g9) (ys.map g9)
 | _,_=>false
def mD:List D->Option D
 | []=>none
 | x::xs=>some (xs.foldl (λb y=>if ltI y b=true then y else b) x)
def vd(xs:List D)(i j:Nat):Bool:=ltI (xs.getD i .aX) (xs.getD j .aX)
theorem mE(xs:List D)(x:D):∀n,n<(x::xs).length->(x::xs).getD (cW (vd (x::xs)) n) .aX=(xs.take n).foldl (λb y=>if ltI y b=true then y else b) x
 | 0,_=>rfl
 | n+1,h=>by
  have ih:=mE xs x n (by simp at h ⊢;omega)
  have hl:n<xs.length:=by simpa using h
  have gx:(x::xs).getD (n+1) .aX=xs[n]:=by
   rw[List.getD_eq_getElem?_getD,List.getElem?_cons_succ,List.getElem?_eq_getElem hl];rfl
  rw[List.take_add_one,List.getElem?_eq_getElem hl,Option.toList_some,List.foldl_append,List.foldl_cons,List.foldl_nil,<- ih];have e:vd (x::xs) (n+1) (cW (vd (x::xs)) n)=ltI xs[n] ((x::xs).getD (cW (vd (x::xs)) n) .aX):=by
   unfold vd;rw[gx]
  show(x::xs).getD (if vd (x::xs) (n+1) (cW (vd (x::xs)) n)=true then n+1 else cW (vd (x::xs)) n) .aX=_
  rw[e]
  split
  ·exact gx
  ·rfl
theorem FT{xs:List D}(h:xs≠[]):mD xs=some (xs.getD (cW (vd xs) (xs.length-1)) .aX):=by
 cases xs with
 | nil=>exact absurd rfl h
 | cons x xs =>
  have:=mE xs x xs.length (by simp)
  have e:(x::xs).length-1=xs.length:=by simp
  rw[e,this,List.take_length];rfl
theorem K8{X:Cx}{pins:List (Addr×Obj)}{σ:St}{H F:Hp}{s:Shared}(I:L2.Inv X pins σ H s)(sm:aw F H)(hu:X.A.in1.units<cLine){vs:List V}{xs:List D}{its:List Value}(rl:aG F vs xs)(rv:Vals vs its)(hc:xs.all isInt=true\/xs.all kB=true):
  zH X.prog X.w X.A.in1 .Lt s.heap its.toArray (vd xs):=by
 intro i j x y s' Q E ex ey kp q;have fM:its[i]?=some x:=by simpa using ex
 have ey':its[j]?=some y:=by simpa using ey
 have back:∀ {n z},its[n]?=some z->∃v d,vs[n]?=some v/\xs[n]?=some d/\RelV v z/\Rep F v d:=λ{n z} e=>by
  have hl:n<vs.length:=by rw[rv.length];exact(List.getElem?_eq_some_iff.mp e).1
  have ev:vs[n]?=some vs[n]:=List.getElem?_eq_getElem hl;obtain⟨d,e1,e2⟩:=rl.get' ev;obtain⟨u,e3,e4⟩:=rv.get ev;rw[e]at e3;cases e3;exact⟨_,d,ev,e1,e4,e2⟩
 obtain⟨v,d,_,hd,r1,p1⟩:=back fM;obtain⟨u,e,_,he,r2,p2⟩:=back ey';have bt:vd xs i j=ltI d e:=by
  unfold vd;rw[List.getD_eq_getElem?_getD,List.getD_eq_getElem?_getD,hd,he];rfl
 rw[bt]at q;have md:d∈xs:=List.mem_of_getElem? hd;have me:e∈xs:=List.mem_of_getElem? he;show wpAny _ _ (compareOp .Lt x y) _ _ _;rcases hc with hc|hc
 ·have h1:=List.all_eq_true.mp hc d md
  have h2:=List.all_eq_true.mp hc e me;cases d with
  | int a =>
   cases e with
   | int b =>
    cases p1;cases p2;obtain⟨t,rfl⟩:=r1;obtain⟨t',rfl⟩:=r2;exact PyProof.Rows.lt_int q
   | _=>exact absurd h2 (by simp [isInt])
  | _=>exact absurd h1 (by simp [isInt])
 ·have h1:=List.all_eq_true.mp hc d md
  have h2:=List.all_eq_true.mp hc e me;cases d with
  | tup as =>
   cases e with
   | tup bs =>
    cases p1 with
    | tup hf rf =>
     cases p2 with
     | tup hg rg =>
      cases r1;cases r2;rename_i va vas vb vbs;obtain⟨_,ia,wa,oa,ga,ca⟩:=I.bC _ _ (sm _ _ hf);obtain⟨_,ib,wb,ob,gb,cb⟩:=I.bC _ _ (sm _ _ hg);rw[rf.ints h1]at wa;rw[rg.ints h2]at wb;exact HT.mY ⟨oa,kp _ _ ga,ca⟩ ⟨ob,kp _ _ gb,cb⟩ (L2.intsAre_of wa) (L2.intsAre_of wb) hu q
   | _=>exact absurd h2 (by simp [kB])
  | _=>exact absurd h1 (by simp [kB])
def RW(t:TV)(td:TD):TV:=λσ Q=>t σ λx aA=>td aA λdv bu=>match fh bu x with
 | some (.lst xs)=>(xs.all isInt=true\/xs.all kB=true)/\Q (.val ((mD xs).getD dv)) bu
 | _=>False
theorem XD{e d:Expr}{t:TV}{td:TD}{p kp pos:Pos}(h:EO G k S e t)(hd:ED G k S d td)(hm:G.mg "min"=none)(hg:S.sc.lookup ("min":Str)=some .globalImplicit:=by rfl)
  (he:∀env,starEach [e] env=[(false,eval e env)]:=by intro _;rfl) (hh:S.lK=false:=by rfl):EO G k S (.Call (.Name "min" p) [e] [⟨some "default",d,kp⟩] pos) (RW t td):=.mk λX Y ok=>by
 intro pins s σ H Q I q;obtain⟨F,ao,Qd,R,q,K⟩:=q;refine wpAny_Call_Name_kw (fR (u:=.builtin "min") I (dI ok hg) (by rw[ok.mg];exact hm) (by decide +kernel) ?_ ∅ ∅)
 have ha:PA X [e] (lh (lO Y t) wt):=cn (h X Y ok) cZ (by rw[he];rfl)
 have hk:PK X [⟨some "default",d,kp⟩] (lh (lD Y td) wt):=Hv (hd X Y ok) Qb;have hA:=ha pos pins s σ H (λvs H1=>∃v1 F1 x aA,vs=[v1]/\aw F F1/\RS Y F1 aA σ H1/\vm F1 σ v1 x/\td aA (λdv bu=>match fh bu x with
   | some (.lst xs)=>(xs.all isInt=true\/xs.all kB=true)/\Qd (.val ((mD xs).getD dv)) bu
   | _=>False)) I ⟨F,ao,_,R,q,λv1 H1 F1 x aA s1 R1 r1 q1=>⟨v1,F1,x,aA,rfl,s1,R1,r1,q1⟩⟩
 refine PyProof.Rows.callWith_kw (env:=X.env) (cD hA λus s1 h1=>?_) (by rw[he];rfl) (by rw[he];rfl) rfl rfl
 obtain⟨vs,H1,I1,rvs,v1,F1,x,aA,rfl,Tf,R1,r1,q1⟩:=h1;obtain⟨u1,rfl,ru1⟩:=vals1 rvs;refine cD (hk pos pins s1 σ H1 (λvs H2=>∃v2 F2 dv bu,vs=[v2]/\aw F1 F2/\RS Y F2 bu σ H2/\Rep F2 v2 dv/\(match fh bu x with
   | some (.lst xs)=>(xs.all isInt=true\/xs.all kB=true)/\Qd (.val ((mD xs).getD dv)) bu
   | _=>False)) I1 ⟨F1,aA,_,R1,q1,λv2 H2 F2 dv bu s2 R2 r2 q2=>⟨v2,F2,dv,bu,rfl,s2,R2,r2,q2⟩⟩) λws s2 h2=>?_
 obtain⟨vs2,H2,I2,aaF,v2,F2,dv,bu,rfl,sm2,R2,r2,q2⟩:=h2;obtain⟨u2,rfl,ru2⟩:=vals1 aaF
 split at q2
 ·rename_i xs ex
  obtain⟨hc,q2⟩:=q2;obtain⟨a,vs,rfl,Yy,rl⟩:=(R2.fh (r1.mono sm2) ex).lst;cases ru1;obtain⟨its,rv,pl,_⟩:=I2.list (show fm X.K H2 a vs from .inl Yy)
  have hu:X.A.in1.units<cLine:=by
   have:=ok.units;show X.A.units+1<cLine;omega
  have Fv:=K8 I2 R2.fr hu rl rv hc;have len:its.toArray.size=xs.length:=by rw[List.size_toArray,<- rv.length,rl.length]
  refine ud (I2.ok.hd (ok.calm hh)) Fv pl.isList (λhz g tk kp=>?_) λz g tk hz kp=>?_
  ·have:xs=[]:=List.length_eq_zero_iff.mp (by rw[<- len];exact hz)
   subst this;exact⟨v2,H2,I2.kept kp,ru2,K v2 H2 F2 (.val dv) bu (Tf.trans sm2) R2 r2 q2⟩
  ·have YB:its[cW (vd xs) (xs.length-1)]?=some z:=by rw[len]at hz;simpa using hz
   have df:xs≠[]:=λe=>by
    subst e;have:its=[]:=List.length_eq_zero_iff.mp (by rw[<- rv.length,rl.length];rfl)
    rw[this]at YB;simp at YB
   have hl:cW (vd xs) (xs.length-1)<vs.length:=by rw[rv.length];exact(List.getElem?_eq_some_iff.mp YB).1
   have ev:vs[cW (vd xs) (xs.length-1)]?=some vs[cW (vd xs) (xs.length-1)]:=List.getElem?_eq_getElem hl;obtain⟨dd,e1,e2⟩:=rl.get' ev;obtain⟨zz,e3,e4⟩:=rv.get ev;rw[YB]at e3;cases e3;have eb:mD xs=some dd:=by rw[FT df,List.getD_eq_getElem?_getD,e1];rfl
   rw[eb]at q2;exact⟨_,H2,I2.kept kp,e4,K _ H2 F2 (.val dd) bu (Tf.trans sm2) R2 e2 q2⟩
 ·exact q2.elim
end Vc
namespace Vc
open PySem L2
variable [KF]
variable {G:GE}{k:Nat}{S:Stat}
theorem B8{g:lR}{tb:cu}{De:iw}{items:List D}(I:Nat->Sd->Prop)
  (CV:∀i x σ (N:Sd->Prop),items[i]?=some x->I i σ->(∀bN,I (i+1) bN->N bN)->g x σ λaA=>tb {nx:=N,rt:=De.rt,bk:=De.nx,ct:=N} aA)
  (CD:∀σ,I items.length σ->De.nx σ) {σ:Sd} (h0:I 0 σ):tI g tb De items σ:=by
 have key:∀(xs:List D) (i:Nat) (σ:Sd),items.drop i=xs->i<=items.length->I i σ->tI g tb De xs σ:=by
  intro xs
  induction xs with
  | nil =>
   intro i σ e l h;have:items.length<=i:=List.drop_eq_nil_iff.mp e;exact CD σ ((Nat.le_antisymm l this) ▸ h)
  | cons x r ih =>
   intro i σ e l h;have hx:items[i]?=some x:=by
    have:=congrArg (·[0]?) e
    simpa using this
   have hr:items.drop (i+1)=r:=by rw[<- List.drop_drop,e];rfl
   have hl:i<items.length:=(List.getElem?_eq_some_iff.mp hx).1;exact CV i x σ _ hx h λbN h'=>ih (i+1) bN hr hl h'
 exact key items 0 σ rfl (Nat.zero_le _) h0
theorem sA{α:Type}{g:lR}{tc:TB}{te:TD}{σ0:Sd}{Q:List D->Prop}(gi:α->D)(f:α->Option D)(l:List α)
  (h:∀a∈l,∀(A:D->Prop) (Bn:Prop),(match f a with|some d=>A d|none=>Bn)->g (gi a) σ0 λaA=>tc aA λb bu=>if b=true then te bu λd eB=>lb σ0 eB/\A d else lb σ0 bu/\Bn)
  (hl:l.length<=sizeLine) (q:Q (l.filterMap f)):fL g tc te σ0 (l.map gi) [] Q:=by
 have key:∀(l:List α) (acc:List D),(∀a∈l,∀(A:D->Prop) (Bn:Prop),(match f a with|some d=>A d|none=>Bn)->g (gi a) σ0 λaA=>tc aA λb bu=>if b=true then te bu λd eB=>lb σ0 eB/\A d else lb σ0 bu/\Bn) ->
   acc.length+l.length<=sizeLine->Q (acc++l.filterMap f)->fL g tc te σ0 (l.map gi) acc Q:=by
  intro l
  induction l with
  | nil=>intro acc _ _ q;simpa [fL]using q
  | cons a l ih =>
   intro acc h hl q;rw[List.length_cons]at hl;rw[List.map_cons];refine h a (List.mem_cons_self ..) (λd=>acc.length<sizeLine/\fL g tc te σ0 (l.map gi) (acc++[d]) Q) (fL g tc te σ0 (l.map gi) acc Q) ?_;have hr:=λy hy=>h y (List.mem_cons_of_mem _ hy);cases e:f a with
   | some d =>
    refine⟨by omega,ih _ hr (by rw[List.length_append,List.length_singleton];omega) ?_⟩
    rw[List.filterMap_cons_some e]at q
    rwa [List.append_assoc]
   | none =>
    refine ih acc hr ⋯ ?_
    rwa [List.filterMap_cons_none e]at q
 exact key l [] h (by simpa using hl) q
theorem dk{α:Type}{g:lR}{te:TD}{σ0:Sd}{Q:List D->Prop}(gi f:α->D)(l:List α)
  (h:∀a∈l,∀(A:D->Prop),A (f a)->g (gi a) σ0 λaA=>te aA λd eB=>lb σ0 eB/\A d)
  (hl:l.length<=sizeLine) (q:Q (l.map f)):fL g cO te σ0 (l.map gi) [] Q:=
 sA gi (λx=>some (f x)) l (λx hx A Bn ha=>h x hx A ha) hl (by simpa using q)
theorem cX{α:Type}{g:lR}{tb:cu}{De:iw}(gi:α->D)(l:List α)(I:Nat->Sd->Prop)
  (CV:∀i a σ (N:Sd->Prop),l[i]?=some a->I i σ->(∀bN,I (i+1) bN->N bN)->g (gi a) σ λaA=>tb {nx:=N,rt:=De.rt,bk:=De.nx,ct:=N} aA)
  (CD:∀σ,I l.length σ->De.nx σ) {σ:Sd} (h0:I 0 σ):tI g tb De (l.map gi) σ:=by
 refine B8 I (λi x σ N hx hI hN=>?_) (λσ h=>CD σ (by rwa [List.length_map]at h)) h0
 rw[List.getElem?_map]at hx;cases e:l[i]? with
 | none=>rw[e]at hx;cases hx
 | some a=>rw[e]at hx;cases hx;exact CV i a σ N e hI hN
theorem fX(lo:Int)(n:Nat):yY lo n=(List.range n).map λi=>.int (lo+(i:Nat)):=rfl
theorem Fj{α β:Type}(f:α->D)(g:β->D)(xs:List α)(ys:List β):u6 (xs.map f) (ys.map g)=(xs.zip ys).map λp=>.tup [f p.1,g p.2]:=by
 unfold u6;rw[List.zip_map,List.map_map];rfl
theorem gm{α:Type}(f:α->D)(xs:List α):k6 (xs.map f)=(xs.mapIdx λi x=>(i,x)).map λp=>.tup [.int (p.1:Nat),f p.2]:=by
 unfold k6;apply List.ext_getElem?;intro i;simp only[List.getElem?_mapIdx,List.getElem?_map];cases xs[i]?<;>rfl
theorem wK{α:Type}{xs:List α}{n:Nat}{d:α}(h:xs[n]?=some d):L2.lA xs (n:Int)=some d:=by
 have hn:=(List.getElem?_eq_some_iff.mp h).1;unfold L2.lA L2.xm;rw[if_pos (Int.natCast_nonneg n),if_pos ⋯]
 show xs[(n:Int).toNat]?=some d;rw[Int.toNat_natCast];exact h
theorem dm{xs:List D}{n:Nat}{i:Int}{d:D}{Q:D->Prop}(e:i=(n:Int))(h:xs[n]?=some d)(q:Q d):vR (.lst xs) (.int i) Q:=by
 subst e;show(match L2.lA xs (n:Int)with|some d=>Q d|none=>False)
 rw[wK h];exact q
theorem a8{xs:List D}{n:Nat}{i:Int}{d:D}{Q:D->Prop}(e:i=(n:Int))(h:xs[n]?=some d)(q:Q d):vR (.tup xs) (.int i) Q:=by
 subst e;show(match L2.lA xs (n:Int)with|some d=>Q d|none=>False)
 rw[wK h];exact q
theorem cF{xs:List D}{i:Int}{Q:D->Prop}(h0:0<=i)(h1:i<xs.length)(h:∀d∈xs,Q d):vR (.lst xs) (.int i) Q:=by
 have hn:i.toNat<xs.length:=by omega
 exact dm (n:=i.toNat) ⋯ (List.getElem?_eq_getElem hn) (h _ (List.getElem_mem hn))
structure cw(G:GE)(x:Str)(st:Stmt)(ps:List Str)(f:Addr)(fd:FuncData):Prop where
 F:FK G.K x x st f fd
 m:G.mg x=some (.ref f)
 b:Binds G.K fd ps []
theorem cw.fg{x:Str}{st:Stmt}{ps N:List Str}{f:Addr}{fd:FuncData}{t:cu}{sp:bA}(d:cw G x st ps f fd)(hK:G.K=KF.K)(Sc:aH N ps (ah st))(ht:dC G k ⟨N,(ah st).names,[],false,false,false,λ_ _=>False⟩ (ax st) t)
  (len:∀ds Q,sp ds Q->ds.length=ps.length) (body:∀ds Q,sp ds Q->t {nx:=λ_=>Q (.sh .aX),rt:=λb _=>Q b} (aP N.length ds)):cy G (k+1) x sp:=
 ⟨f,fd,ps,JG hK d.F Sc ht len body,d.m,d.F.kp,d.b⟩
theorem au{t u:cu}{De:iw}{σ:Sd}(h:∀N,N=u De->t {nx:=N,rt:=De.rt,bk:=De.bk,ct:=De.ct} σ):bX t u De σ:=h _ rfl
end Vc
namespace Vc
open PySem L2
variable [KF]
section
open AutoSeq1 (wpAny_loadPart')
theorem ub(l:Addr)(items:Array Value)(n:Nat)(dct:Option Addr)(sl:Array (Option Value)):
  Meets (Builtin.«enumerate.__new__» ⟨[.type "enumerate",.ref l],[]⟩) (λ_ R s=>s.heap.get? l=some {cls:=.type "tuple",dict:=dct,data:=.seq items n,slots:=sl} /\
   R (.ok (.ret (.ref (s.heap.push {cls:=.type "tuple_iterator",data:=.fields #[.ref l,.int 0 0]}).objs.size)))
    {s with heap:=(s.heap.push {cls:=.type "tuple_iterator",data:=.fields #[.ref l,.int 0 0]}).push {cls:=.type "enumerate",data:=.fields #[.none,.bool false,.ref s.heap.objs.size,rawInt 0,.none,.none]}}):=
 .of_wp λprog w A R s h=>by
  obtain⟨hp,g,d,tk,os⟩:=s;obtain⟨hl,h⟩:=h;have aaU:=sub_enumerate;have hL:Heap.IsTuple (Shared.heap ⟨hp,g,d,tk,os⟩) l items:=⟨_,hl,rfl,n,rfl⟩
  wp_walk using wpAny_loadPart' hl
  refine wpAny_stack_any λst=>wpAny_pure ?_
  split
  ·rename_i c _ _ _ _ _
   cases(c==Value.type "enumerate")
   ·wp_walk using wpAny_loadPart' hl,wpAny_pyIter_tuple hL
    exact⟨_,rfl,h⟩
   ·wp_walk using wpAny_loadPart' hl,wpAny_pyIter_tuple hL
    exact⟨_,rfl,h⟩
  ·wp_walk using wpAny_loadPart' hl,wpAny_pyIter_tuple hL
   exact⟨_,rfl,h⟩
theorem vw{prog:Program}{w:World}{A:Around}{E:Value->Shared->Prop}{s:Shared}{l:Addr}{items:Array Value}{Q:Value->Shared->Prop}(hL:s.heap.IsTuple l items)
  (h:∀h',IsEnum h' (s.heap.objs.size+1) s.heap.objs.size 0 .none->ly true h' s.heap.objs.size l 0->h'.objs.size=s.heap.objs.size+2 ->
   (∀b o,s.heap.get? b=some o->h'.get? b=some o)->Q (.ref (s.heap.objs.size+1)) {s with heap:=h'}):
  wpAny (model prog w) A (call (.type "enumerate") [.ref l]) Q E s:=by
 obtain⟨⟨c,dct,dt,sl⟩,hl,hc,n,hd⟩:=hL
 replace hc:c=.type "tuple":=hc
 replace hd:dt=.seq items n:=hd
 subst hc hd;refine callType_new F.called_enumerate ∅ (F.typeCall_enumerate_1 _) (F.newCall_enumerate_1 _) (λobj=>F.args_object_init_2 obj _) F.entry_enumerate_new
  (ub l items n dct sl) ⟨hl,?_⟩
 have hz:(s.heap.push {cls:=.type "tuple_iterator",data:=.fields #[.ref l,.int 0 0]}).objs.size=s.heap.objs.size+1:=Heap.size_push ..;show _/\_;rw[hz];have he:IsEnum ((s.heap.push {cls:=.type "tuple_iterator",data:=.fields #[.ref l,.int 0 0]}).push
   {cls:=.type "enumerate",data:=.fields #[.none,.bool false,.ref s.heap.objs.size,rawInt 0,.none,.none]}) (s.heap.objs.size+1) s.heap.objs.size 0 .none:=by
  have:=Heap.get?_push_size (s.heap.push {cls:=.type "tuple_iterator",data:=.fields #[.ref l,.int 0 0]})
   (o:={cls:=.type "enumerate",data:=.fields #[.none,.bool false,.ref s.heap.objs.size,rawInt 0,.none,.none]}) rfl
  rw[hz]at this;exact this
 refine⟨⟨_,he,rfl⟩,h _ he ⟨_,Heap.get?_push_of_some _ (Heap.get?_push_size _ rfl),rfl,rfl⟩ (by rw[Heap.size_push,hz]) λb o x=>Heap.get?_push_of_some _ (Heap.get?_push_of_some _ x)⟩
end
def M9(K:PySem.W.Frag)(ta:TA):TI:=λσ H R=>ta σ H λvs H1=>∃tp a xs,vs=[.ref a]/\Sq tp K H1 a xs/\R (Yl tp K a) H1
theorem DP{X:Cx}{elts:List Expr}{kk:Nat}{jV:Pos}{a:Expr}{ta:TA}{p pos:Pos}(hg:Gl X "enumerate")(hm:X.mg "enumerate"=none)(hv:bootBuiltins "enumerate"=some (.type "enumerate"))(ha:PA X [a] ta)(hs:starEach [a] X.env=[(false,eval a X.env)]):
  PI X (.Tuple elts kk jV) (.Call (.Name "enumerate" p) [a] [] pos) (M9 X.K ta):=by
 intro pins s σ H R I h;refine PyProof.Rows.Call_ (fR I hg hm hv (PyProof.Rows.callWith_type1 (cD (ha pos pins s σ H _ I h) λus s1 ⟨vs,H1,I1,r1,q1⟩=>?_) hs rfl));obtain⟨tp,l,xs,e,q1,q⟩:=q1;subst e;obtain⟨u,rfl,ru⟩:=vals1 r1;cases ru;obtain⟨its,_,p1,ll⟩:=q1.is I1;have fin:∀h',IsEnum h' (s1.heap.objs.size+1) s1.heap.objs.size 0 .none->ly tp h' s1.heap.objs.size l 0->h'.objs.size=s1.heap.objs.size+2 ->
   (∀b o,s1.heap.get? b=some o->h'.get? b=some o)->wpAny (model X.prog X.w) X.A (pyIter (.ref (s1.heap.objs.size+1))) (Y9 X pins σ (.Tuple elts kk jV) R) X.xe {s1 with heap:=h'}:=λg e1 i1 n1 k1=>by
  refine wpAny_pyIter_enum e1 ?_;refine⟨s1.heap.objs.size+1,[s1.heap.objs.size+1,s1.heap.objs.size],_,_,H1,rfl,I1.kept (t':=s1.toks) k1,
   zi tp _ _ l (show(s1.heap.objs.size+1:Nat)≠s1.heap.objs.size by omega) (Nat.ne_of_lt (Nat.lt_succ_of_lt ll)) (Nat.ne_of_lt ll),⟨⟨_,e1⟩,i1⟩,λb hb=>?_,q⟩
  have k9:s1.heap.objs.size<=b:=by
   simp only[List.mem_cons,List.not_mem_nil,or_false]at hb;rcases hb with rfl|rfl
   ·exact Nat.le_succ _
   ·exact Nat.le_refl _
  exact I1.yq k9 (I1.bC.fresh k9)
 cases tp with
 | true=>exact vw p1 fin
 | false=>exact call_enumerate_list p1 fin
variable {G:GE}{k:Nat}{S:Stat}
def kR(t:fo):fo:=λσ Q=>t σ λds aA=>match ds with
 | [.lst xs]=>Q (k6 xs) aA
 | [.tup xs]=>Q (k6 xs) aA
 | _=>False
theorem lU{elts:List Expr}{kk:Nat}{jV:Pos}{a:Expr}{t:fo}{p pos:Pos}(h:wG G k S [a] t)(hm:G.mg "enumerate"=none)(hg:S.sc.lookup ("enumerate":Str)=some .globalImplicit:=by rfl)(hs:∀env,starEach [a] env=[(false,eval a env)]:=by intro _;rfl):
  EI G k S (.Tuple elts kk jV) (.Call (.Name "enumerate" p) [a] [] pos) (kR t):=.mk λX Y ok=>nh (DP (dI ok hg) (by rw[ok.mg];exact hm) (by decide +kernel) (h X Y ok) (hs _)) λσ H Q q=>by
 obtain⟨F,ao,Qd,R,q,K⟩:=q;refine⟨F,ao,_,R,q,λvs H1 F1 ds aA s1 R1 r1 q1=>?_⟩;have go:∀d xs,X5 d=some xs->aG F1 vs [d]->Qd (k6 xs) aA->∃tp a us,vs=[.ref a]/\Sq tp X.K H1 a us/\Q (Yl tp X.K a) H1:=λd xs ex r1 q1=>by
  cases r1 with
  | cons rx r1 =>
   cases r1;obtain⟨tp,l,us,rfl,a1,b1⟩:=rx.sq ex X.K;exact⟨tp,l,us,rfl,a1 H1 R1.fr,K H1 F1 aA _ _ s1 R1 (GZ a1 b1) q1⟩
 split at q1
 ·exact go _ _ rfl r1 q1
 ·exact go _ _ rfl r1 q1
 ·exact q1.elim
end Vc
namespace Vs
open PySem PyProof.Rows
def R(ρ:Keyed->Nat)(xs:Array Keyed)(i:Nat):Nat:=match xs[i]? with
 | some p=>ρ p
 | none=>0
theorem gj{ρ:Keyed->Nat}{xs ys:Array Keyed}{i j:Nat}(h:xs[i]?=ys[j]?):R ρ xs i=R ρ ys j:=by unfold R;rw[h]
theorem cV{ρ:Keyed->Nat}{xs:Array Keyed}{i:Nat}{p:Keyed}(h:xs[i]?=some p):R ρ xs i=ρ p:=by unfold R;rw[h]
theorem se{ρ:Keyed->Nat}{xs:Array Keyed}{src d:Nat}(hs:src<xs.size)(hd:d<=src)(k:Nat):
  R ρ (bubble xs src d) k=if k=src-d then R ρ xs src else if src-d<k/\k<=src then R ρ xs (k-1)else R ρ xs k:=by
 have e:=getElem?_bubble hs d hd k
 repeat' split
 all_goals (rename_i h1;first | (rename_i h2;first|rw[if_neg h2,if_pos h1]at e|rw[if_neg h2,if_neg h1]at e)|rw[if_pos h1]at e)
 all_goals exact gj e
theorem mB{ρ:Keyed->Nat}{xs:Array Keyed}{i j:Nat}(hj:j<=xs.size)(k:Nat):
  R ρ (mirror xs i j ((j-i)/2)) k=if i<=k/\k<j then R ρ xs (i+j-1-k)else R ρ xs k:=by
 have e:=getElem?_mirror_all (i:=i) hj k
 split
 ·rename_i h1;rw[if_pos h1]at e;exact gj e
 ·rename_i h1;rw[if_neg h1]at e;exact gj e
theorem cE{ρ:Keyed->Nat}{xs:Array Keyed}{i j:Nat}(hj:j<=xs.size)(heq:∀k,i<=k->k<j->R ρ xs k=R ρ xs (j-1))(k:Nat):
  R ρ (mirror xs i j ((j-i)/2)) k=R ρ xs k:=by
 rw[mB hj]
 split
 ·rw[heq _ ⋯ ⋯,heq k ⋯ ⋯]
 ·rfl
def fI(M:Model)(A:Around)(E:Value->Shared->Prop)(s:Shared)(ρ:Keyed->Nat)(kd:SortKind)(P:Keyed->Prop):Prop:=
 ∀(x y:Keyed) (st:SortSt) (Q:Option Bool->SortSt->Prop),P x->P y->kindOf st=kd->Q (some (decide (ρ x<ρ y))) st->wpS M A E s (lt' x y) Q st
structure SI(kd:SortKind)(a₀:Array Keyed)(st:SortSt):Prop where
 perm:(arrOf st).Perm a₀
 kind:kindOf st=kd
 failed:failedOf st=none
theorem SI.size{kd:SortKind}{a₀:Array Keyed}{st:SortSt}(h:SI kd a₀ st):(arrOf st).size=a₀.size:=h.perm.size_eq
theorem SI.setArr{kd:SortKind}{a₀:Array Keyed}{st:SortSt}(h:SI kd a₀ st){xs:Array Keyed}(hp:xs.Perm (arrOf st)):SI kd a₀ (setArr st xs):=⟨hp.trans h.perm,h.kind,h.failed⟩
theorem SI.at{kd:SortKind}{a₀:Array Keyed}{st:SortSt}(h:SI kd a₀ st){P:Keyed->Prop}(h0:∀p∈a₀.toList,P p){i:Nat}(hi:i<a₀.size):∃p,(arrOf st)[i]?=some p/\P p:=by
 have kz:i<(arrOf st).size:=by rw[h.size];exact hi
 exact⟨(arrOf st)[i],getElem?_pos _ i kz,h0 _ ((Array.perm_iff_toList_perm.mp h.perm).mem_iff.mp (by simp))⟩
structure Fw(kd:SortKind)(a₀:Array Keyed)(lo:Nat)(st aC:SortSt):Prop where
 si:SI kd a₀ aC
 same:∀k,k<lo->(arrOf aC)[k]?=(arrOf st)[k]?
 pend:pendingOf aC=pendingOf st
theorem Fw.refl{kd:SortKind}{a₀:Array Keyed}{lo:Nat}{st:SortSt}(h:SI kd a₀ st):Fw kd a₀ lo st st:=⟨h,λ_ _=>rfl,rfl⟩
theorem Fw.mirror{kd:SortKind}{a₀:Array Keyed}{lo i j:Nat}{st aC:SortSt}(h:Fw kd a₀ lo st aC)(hi:lo<=i)(hj:j<=a₀.size):Fw kd a₀ lo st (setArr aC (mirror (arrOf aC) i j ((j-i)/2))):=
 ⟨h.si.setArr (mirror_perm _ _ _ _),λk hk=>by
  show(PyProof.Rows.mirror (arrOf aC) i j ((j-i)/2))[k]?=_;rw[getElem?_mirror_all (by rw[h.si.size];exact hj),if_neg ⋯];exact h.same k hk,h.pend⟩
theorem Fw.bubble{kd:SortKind}{a₀:Array Keyed}{lo src d:Nat}{st aC:SortSt}(h:Fw kd a₀ lo st aC)(hs:src<a₀.size)(hd:lo<=src-d)(hd2:d<=src):Fw kd a₀ lo st (setArr aC (bubble (arrOf aC) src d)):=
 ⟨h.si.setArr (bubble_perm _ _ _),λk hk=>by
  show(PyProof.Rows.bubble (arrOf aC) src d)[k]?=_;rw[getElem?_bubble (by rw[h.si.size];exact hs) d hd2,if_neg ⋯,if_neg ⋯];exact h.same k hk,h.pend⟩
section
variable {M:Model}{A:Around}{E:Value->Shared->Prop}{s:Shared}{ρ:Keyed->Nat}{kd:SortKind}{P:Keyed->Prop}{a₀:Array Keyed}
theorem bg{arr:Array Keyed}{i:Nat}{p:Keyed}{st:SortSt}{Q:Keyed->SortSt->Prop}(h:arr[i]?=some p)(q:Q p st):wpS M A E s (elem' arr i) Q st:=by
 rw[elem'_eq,h];exact wpS_pure q
theorem wpS_ltAt{st:SortSt}{i j:Nat}{Q:Option Bool->SortSt->Prop}(hL:fI M A E s ρ kd P)(h0:∀p∈a₀.toList,P p)(hB:SI kd a₀ st)(hi:i<a₀.size)(hj:j<a₀.size)
  (h:Q (some (decide (R ρ (arrOf st) i<R ρ (arrOf st) j))) st):wpS M A E s (ltAt' i j) Q st:=by
 obtain⟨p,e1,p1⟩:=hB.at h0 hi;obtain⟨q,e2,p2⟩:=hB.at h0 hj;rw[cV e1,cV e2]at h;rw[ltAt'_eq];refine wpS_bind (wpS_get ?_);show wpS _ _ _ _ (do let x <- elem' (arrOf st) i;let y <- elem' (arrOf st) j;lt' x y) Q st
 exact wpS_bind (bg e1 (wpS_bind (bg e2 (hL p q st Q p1 p2 hB.kind h))))
theorem wpS_reverse{st:SortSt}{i j:Nat}{Q:Unit->SortSt->Prop}(h:Q () (setArr st (mirror (arrOf st) i j ((j-i)/2)))):wpS M A E s (reverseSlice' i j) Q st:=by
 rw[reverseSlice'_eq];exact wpS_modify h
def Seg(ρ:Keyed->Nat)(xs:Array Keyed)(lo hi:Nat):Prop:=∀i j,lo<=i->i<=j->j<hi->R ρ xs i<=R ρ xs j
def Neg(ρ:Keyed->Nat)(xs:Array Keyed)(lo hi:Nat):Prop:=∀i j,lo<=i->i<=j->j<hi->R ρ xs j<=R ρ xs i
theorem Seg.one{xs:Array Keyed}{lo:Nat}:Seg ρ xs lo (lo+1):=λi j h1 h2 h3=>by
 have:i=j:=by omega
 subst this;exact Nat.le_refl _
theorem Seg.snoc{xs:Array Keyed}{lo hi:Nat}(h:Seg ρ xs lo hi)(hl:lo<hi)(hr:R ρ xs (hi-1)<=R ρ xs hi):Seg ρ xs lo (hi+1):=λi j h1 h2 h3=>by
 by_cases hj:j<hi
 ·exact h i j h1 h2 hj
 ·have:j=hi:=by omega
  subst this
  by_cases kz:i=j
  ·subst kz;exact Nat.le_refl _
  ·exact Nat.le_trans (h i (j-1) h1 ⋯ ⋯) hr
theorem Neg.snoc{xs:Array Keyed}{lo hi:Nat}(h:Neg ρ xs lo hi)(hl:lo<hi)(hr:R ρ xs hi<=R ρ xs (hi-1)):Neg ρ xs lo (hi+1):=λi j h1 h2 h3=>by
 by_cases hj:j<hi
 ·exact h i j h1 h2 hj
 ·have:j=hi:=by omega
  subst this
  by_cases kz:i=j
  ·subst kz;exact Nat.le_refl _
  ·exact Nat.le_trans hr (h i (j-1) h1 ⋯ ⋯)
def Ao(lo a bM:Nat):StateT SortSt Sem (Option (Option Nat)×Nat):=
 forIn [a:bM] ((none,a):Option (Option Nat)×Nat) λ_ d0=>do
  let Kx <- ltAt' (lo+d0.snd) (lo+d0.snd-1)
  match Kx with
  | some qV=>if qV=true then pure (ForInStep.done (none,d0.snd))else pure (ForInStep.yield (none,d0.snd+1))
  | _=>pure (ForInStep.done (some none,d0.snd))
theorem uS{st:SortSt}{lo a bM:Nat}{Q:Option (Option Nat)×Nat->SortSt->Prop}(hL:fI M A E s ρ kd P)(h0:∀p∈a₀.toList,P p)(hn:lo+bM<=a₀.size)(ha:1<=a)(Yq:a<=bM)(hB:SI kd a₀ st)
  (hs:Seg ρ (arrOf st) lo (lo+a))
  (h:∀n,a<=n->n<=bM->Seg ρ (arrOf st) lo (lo+n)->(n=bM\/R ρ (arrOf st) (lo+n)<R ρ (arrOf st) (lo+n-1))->Q (none,n) st):wpS M A E s (Ao lo a bM) Q st:=by
 unfold Ao;refine wpS_forRange (I:=λx c aC=>aC=st/\c=(none,x)/\Seg ρ (arrOf st) lo (lo+x)) ?step ?fin ⟨rfl,rfl,hs⟩
 case fin =>
  rintro c aC ⟨rfl,rfl,j6⟩;rw[show max a bM=bM by omega]at j6 ⊢
  exact h bM Yq (Nat.le_refl _) j6 (.inl rfl)
 case step =>
  rintro x c aC ZR hxn ⟨rfl,rfl,j6⟩;dsimp only;refine wpS_bind (wpS_ltAt hL h0 hB ⋯ ⋯ ?_)
  by_cases hl:R ρ (arrOf aC) (lo+x)<R ρ (arrOf aC) (lo+x-1)
  ·simp only[hl,decide_true,if_true]
   exact wpS_pure (h x ZR ⋯ j6 (.inr hl))
  ·simp only[hl,decide_false,Bool.false_eq_true,if_false]
   refine wpS_pure ⟨rfl,rfl,?_⟩;exact j6.snoc ⋯ ⋯
def uK(lo n bM:Nat):StateT SortSt Sem (Option Nat):=do
 reverseSlice' lo (lo+n)
 let d0 <- Ao lo n bM
 match d0.fst with
 | some r=>pure r
 | none=>pure (some d0.snd)
theorem pM{st cq:SortSt}{lo n bM:Nat}{Q:Option Nat->SortSt->Prop}(hL:fI M A E s ρ kd P)(h0:∀p∈a₀.toList,P p)(hn:lo+bM<=a₀.size)(h1:1<=n)(GK:n<=bM)(hB:Fw kd a₀ lo cq st)
  (hs:Neg ρ (arrOf st) lo (lo+n)) (h:∀m aC,Fw kd a₀ lo cq aC->1<=m->m<=bM->Seg ρ (arrOf aC) lo (lo+m)->Q (some m) aC):wpS M A E s (uK lo n bM) Q st:=by
 unfold uK;have kA:lo+n<=(arrOf st).size:=by rw[hB.si.size];omega
 refine wpS_bind (wpS_reverse ?_);have gZ:=hB.mirror (i:=lo) (j:=lo+n) (Nat.le_refl _) ⋯
 refine wpS_bind (uS hL h0 hn h1 GK gZ.si ?_ λm hm1 iW Fy _=>wpS_pure (h m _ gZ ⋯ iW Fy))
 intro i j hi qp hj;show R ρ (mirror (arrOf st) lo (lo+n) ((lo+n-lo)/2)) i<=R ρ (mirror (arrOf st) lo (lo+n) ((lo+n-lo)/2)) j;rw[mB kA,mB kA,if_pos ⋯,if_pos ⋯]
 exact hs _ _ ⋯ ⋯ ⋯
def wQ(lo n bM:Nat):StateT SortSt Sem (Option (Option Nat)×Nat×Nat):=
 forIn [n:bM] ((none,n,0):Option (Option Nat)×Nat×Nat) λ_ d0=>do
  let Kx <- ltAt' (lo+d0.snd.fst) (lo+d0.snd.fst-1)
  match Kx with
  | some qV =>
   if qV=true then
    if d0.snd.snd>0 then do
     reverseSlice' (lo+d0.snd.fst-(d0.snd.snd+1)) (lo+d0.snd.fst)
     pure (ForInStep.yield (none,d0.snd.fst+1,0))
    else pure (ForInStep.yield (none,d0.snd.fst+1,0))
   else do
    let Kx <- ltAt' (lo+d0.snd.fst-1) (lo+d0.snd.fst)
    match Kx with
    | some NZ =>
     if NZ=true then pure (ForInStep.done (none,d0.snd.fst,d0.snd.snd))
     else pure (ForInStep.yield (none,d0.snd.fst+1,d0.snd.snd+1))
    | _=>pure (ForInStep.done (some none,d0.snd.fst,d0.snd.snd))
  | _=>pure (ForInStep.done (some none,d0.snd.fst,d0.snd.snd))
theorem zk{st cq:SortSt}{lo n bM:Nat}{Q:Option (Option Nat)×Nat×Nat->SortSt->Prop}(hL:fI M A E s ρ kd P)(h0:∀p∈a₀.toList,P p)(hn:lo+bM<=a₀.size)(h1:1<=n)(GK:n<=bM)(hB:Fw kd a₀ lo cq st)
  (hs:Neg ρ (arrOf st) lo (lo+n))
  (h:∀m vW aC,Fw kd a₀ lo cq aC->n<=m->m<=bM->Neg ρ (arrOf aC) lo (lo+m)->vW+1<=m->(∀i,lo+m-(vW+1)<=i->i<lo+m->R ρ (arrOf aC) i=R ρ (arrOf aC) (lo+m-1))->Q (none,m,vW) aC):
  wpS M A E s (wQ lo n bM) Q st:=by
 unfold wQ;refine wpS_forRange (I:=λx c aC=>∃vW,c=(none,x,vW)/\Fw kd a₀ lo cq aC/\Neg ρ (arrOf aC) lo (lo+x)/\vW+1<=x /\
   (∀i,lo+x-(vW+1)<=i->i<lo+x->R ρ (arrOf aC) i=R ρ (arrOf aC) (lo+x-1))) ?step ?fin ⟨0,rfl,hB,hs,by omega,λi h1 h2=>by congr 1;omega⟩
 case fin =>
  rintro c aC ⟨vW,rfl,gZ,j6,hq,he⟩;rw[show max n bM=bM by omega]at j6 hq he ⊢
  exact h bM vW aC gZ GK (Nat.le_refl _) j6 hq he
 case step =>
  rintro x c aC ZR hxn ⟨vW,rfl,gZ,j6,hq,he⟩;dsimp only;have kA:lo+x<=(arrOf aC).size:=by rw[gZ.si.size];omega
  refine wpS_bind (wpS_ltAt hL h0 gZ.si ⋯ ⋯ ?_)
  by_cases hl:R ρ (arrOf aC) (lo+x)<R ρ (arrOf aC) (lo+x-1)
  ·simp only[hl,decide_true,if_true]
   have J7:∀xs:Array Keyed,(∀k,R ρ xs k=R ρ (arrOf aC) k)->Neg ρ xs lo (lo+(x+1)):=λxs hk=>by
    have:=j6.snoc ⋯ (Nat.le_of_lt hl)
    intro i j h1 h2 h3;rw[hk,hk];exact this i j h1 h2 h3
   by_cases CJ:vW>0
   ·rw[if_pos CJ]
    refine wpS_bind (wpS_reverse (wpS_pure ⟨0,rfl,gZ.mirror ⋯ ⋯,J7 _ (cE kA he),by omega,λi h1 h2=>by congr 1;omega⟩))
   ·rw[if_neg CJ]
    exact wpS_pure ⟨0,rfl,gZ,J7 _ (λ_=>rfl),by omega,λi h1 h2=>by congr 1;omega⟩
  ·simp only[hl,decide_false,Bool.false_eq_true,if_false]
   refine wpS_bind (wpS_ltAt hL h0 gZ.si ⋯ ⋯ ?_)
   by_cases hg:R ρ (arrOf aC) (lo+x-1)<R ρ (arrOf aC) (lo+x)
   ·simp only[hg,decide_true,if_true]
    exact wpS_pure (h x vW aC gZ ZR ⋯ j6 hq he)
   ·simp only[hg,decide_false,Bool.false_eq_true,if_false]
    have heq:R ρ (arrOf aC) (lo+x)=R ρ (arrOf aC) (lo+x-1):=by omega
    refine wpS_pure ⟨vW+1,rfl,gZ,j6.snoc ⋯ ⋯,by omega,λi h1 h2=>?_⟩
    rw[show lo+(x+1)-1=lo+x by omega]
    by_cases hix:i=lo+x
    ·rw[hix]
    ·rw[heq];exact he i ⋯ ⋯
def sG(lo n bM:Nat):StateT SortSt Sem (Option Nat):=do
 liftM (rule "list.sort.descending-run")
 let d0 <- wQ lo (n+1) bM
 match d0.fst with
 | some r=>pure r
 | none =>
  if d0.snd.snd>0 then do
   reverseSlice' (lo+d0.snd.fst-(d0.snd.snd+1)) (lo+d0.snd.fst)
   uK lo d0.snd.fst bM
  else uK lo d0.snd.fst bM
theorem pL{st cq:SortSt}{lo n bM:Nat}{Q:Option Nat->SortSt->Prop}(hL:fI M A E s ρ kd P)(h0:∀p∈a₀.toList,P p)(hn:lo+bM<=a₀.size)(GK:n+1<=bM)(hB:Fw kd a₀ lo cq st)
  (hs:Neg ρ (arrOf st) lo (lo+(n+1))) (h:∀m aC,Fw kd a₀ lo cq aC->1<=m->m<=bM->Seg ρ (arrOf aC) lo (lo+m)->Q (some m) aC):wpS M A E s (sG lo n bM) Q st:=by
 unfold sG;refine wpS_bind (wpS_lift (wpAny_rule ⟨rfl,?_⟩));refine wpS_bind (zk hL h0 hn ⋯ GK hB hs λm vW aC gZ hm1 iW j6 hq he=>?_)
 dsimp only;have kA:lo+m<=(arrOf aC).size:=by rw[gZ.si.size];omega
 by_cases CJ:vW>0
 ·rw[if_pos CJ]
  refine wpS_bind (wpS_reverse (pM hL h0 hn ⋯ iW (gZ.mirror ⋯ ⋯) ?_ h))
  intro i j h1 h2 h3;show R ρ (mirror (arrOf aC) _ _ _) j<=R ρ (mirror (arrOf aC) _ _ _) i;rw[cE kA he,cE kA he];exact j6 i j h1 h2 h3
 ·rw[if_neg CJ]
  exact pM hL h0 hn ⋯ iW gZ j6 h
local macro_rules|`(tactic| walk_at "s_tail")=>`(tactic| (funext s3;obtain⟨r3,n3⟩:=s3;cases r3<;>rfl))
local macro_rules|`(tactic| walk_at "s_t3")=>`(tactic| (congr 1;funext _w;congr 1;walk_at "s_tail"))
local macro_rules|`(tactic| walk_at "s_desc")=>`(tactic| (congr 1;funext _u;congr 1;congr 1;funext s2;obtain⟨r2,n2,q2⟩:=s2;cases r2 with
  | some r2=>rfl
  | none=>(dsimp only;split;(congr 1;funext _v;walk_at "s_t3");walk_at "s_t3")))
theorem p6(lo bM:Nat):countRun' lo bM=(do
  let d0 <- Ao lo 1 bM
  match d0.fst with
  | some r=>pure r
  | none =>
   if(d0.snd==bM)=true then pure (some d0.snd)
   else if d0.snd>1 then do
    let Kx <- ltAt' lo (lo+d0.snd-1)
    match Kx with
    | some aaE=>if aaE=true then pure (some d0.snd)else do
      reverseSlice' lo (lo+d0.snd)
      sG lo d0.snd bM
    | _=>pure none
   else sG lo d0.snd bM):=by
 rw[countRun'_eq];dsimp only;unfold sG uK wQ Ao;congr 1;funext d0;obtain⟨r,n⟩:=d0;cases r with
 | some r=>rfl
 | none =>
  dsimp only
  split
  ·rfl
  ·split
   ·congr 1
    funext x;cases x with
    | none=>rfl
    | some b =>
     dsimp only
     split
     ·rfl
     ·congr 1
      funext _z;walk_at "s_desc"
   ·walk_at "s_desc"
end
end Vs
namespace Vs
open PySem PyProof.Rows
section
variable {M:Model}{A:Around}{E:Value->Shared->Prop}{s:Shared}{ρ:Keyed->Nat}{kd:SortKind}{P:Keyed->Prop}{a₀:Array Keyed}
theorem wpS_countRun{st:SortSt}{lo bM:Nat}{Q:Option Nat->SortSt->Prop}(hL:fI M A E s ρ kd P)(h0:∀p∈a₀.toList,P p)(hn:lo+bM<=a₀.size)(h1:1<=bM)(hB:SI kd a₀ st)
  (h:∀m aC,Fw kd a₀ lo st aC->1<=m->m<=bM->Seg ρ (arrOf aC) lo (lo+m)->Q (some m) aC):wpS M A E s (countRun' lo bM) Q st:=by
 rw[p6];refine wpS_bind (uS hL h0 hn (Nat.le_refl 1) h1 hB Seg.one λn Yx S5 JO hor=>?_);dsimp only
 by_cases GK:n=bM
 ·rw[if_pos (by simpa using GK)]
  exact wpS_pure (h n st (.refl hB) Yx S5 JO)
 ·rw[if_neg (by simpa using GK)]
  have gK:=hor.resolve_left GK
  by_cases hgt:n>1
  ·rw[if_pos hgt]
   refine wpS_bind (wpS_ltAt hL h0 hB ⋯ ⋯ ?_)
   by_cases hr:R ρ (arrOf st) lo<R ρ (arrOf st) (lo+n-1)
   ·simp only[hr,decide_true,if_true]
    exact wpS_pure (h n st (.refl hB) Yx S5 JO)
   ·simp only[hr,decide_false,Bool.false_eq_true,if_false]
    have kA:lo+n<=(arrOf st).size:=by rw[hB.size];omega
    have mS:∀k,lo<=k->k<lo+n->R ρ (arrOf st) k=R ρ (arrOf st) (lo+n-1):=λk nQ VL=>by
     have a1:=JO lo k (Nat.le_refl _) nQ VL;have a2:=JO k (lo+n-1) nQ ⋯ ⋯
     omega
    refine wpS_bind (wpS_reverse (pL hL h0 hn ⋯ ((Fw.refl hB).mirror (Nat.le_refl _) ⋯) ?_ h))
    intro i j hi qp hj;show R ρ (mirror (arrOf st) _ _ _) j<=R ρ (mirror (arrOf st) _ _ _) i;rw[cE kA mS,cE kA mS]
    by_cases hjn:j<lo+n
    ·rw[mS i hi ⋯,mS j ⋯ hjn];exact Nat.le_refl _
    ·have MZ:j=lo+n:=by omega
     subst MZ
     by_cases kz:i=lo+n
     ·subst kz;exact Nat.le_refl _
     ·rw[mS i hi ⋯];exact Nat.le_of_lt gK
  ·rw[if_neg hgt]
   have M1:n=1:=by omega
   subst M1;refine pL hL h0 hn ⋯ (.refl hB) ?_ h
   intro i j hi qp hj
   by_cases kz:i=j
   ·subst kz;exact Nat.le_refl _
   ·have hi0:i=lo:=by omega
    have Z2:j=lo+1:=by omega
    subst hi0;subst Z2;exact Nat.le_of_lt gK
theorem wpS_binarySort{st:SortSt}{lo n ok:Nat}{Q:Bool->SortSt->Prop}(hL:fI M A E s ρ kd P)(h0:∀p∈a₀.toList,P p)(hn:lo+n<=a₀.size)(bC:ok<=n)(hB:SI kd a₀ st)(hs:Seg ρ (arrOf st) lo (lo+ok))
  (h:∀aC,Fw kd a₀ lo st aC->Seg ρ (arrOf aC) lo (lo+n)->Q true aC):wpS M A E s (binarySort' lo n ok) Q st:=by
 rw[binarySort'_eq];refine wpS_bind (wpS_mono (wpS_forRange (I:=λk c aC=>c=(none,())/\Fw kd a₀ lo st aC/\Seg ρ (arrOf aC) lo (lo+min k n))
  (Q:=λc aC=>c=(none,())/\Fw kd a₀ lo st aC/\Seg ρ (arrOf aC) lo (lo+n)) ?step ?fin ?init) ?post)
 case post =>
  rintro c aC ⟨rfl,gZ,j6⟩;exact wpS_pure (h aC gZ j6)
 case init =>
  refine⟨rfl,.refl hB,λi j hi qp hj=>?_⟩
  by_cases h1:ok=0
  ·have:i=j:=by omega
   subst this;exact Nat.le_refl _
  ·exact hs i j hi qp ⋯
 case fin =>
  rintro c aC ⟨hc,gZ,j6⟩;refine⟨hc,gZ,?_⟩
  rwa [show min (max (max ok 1) n) n=n by omega]at j6
 case step =>
  rintro k c aC hak hkn ⟨rfl,gZ,j6⟩;rw[show min k n=k by omega]at j6
  have hk:lo+k<a₀.size:=by omega
  refine wpS_bind (wpS_mono (wpS_forRange (I:=λx c dg=>dg=aC/\∃l r,c=(none,l,r)/\l<=r/\r<=k/\r-l<=k-x /\
    (∀i,i<l->R ρ (arrOf aC) (lo+i)<=R ρ (arrOf aC) (lo+k))/\(∀i,r<=i->i<k->R ρ (arrOf aC) (lo+k)<R ρ (arrOf aC) (lo+i)))
   (Q:=λc dg=>dg=aC/\∃l r,c=(none,l,r)/\l<=k /\
    (∀i,i<l->R ρ (arrOf aC) (lo+i)<=R ρ (arrOf aC) (lo+k))/\(∀i,l<=i->i<k->R ρ (arrOf aC) (lo+k)<R ρ (arrOf aC) (lo+i))) ?istep ?ifin ?iinit) ?ipost)
  case iinit=>exact⟨rfl,0,k,rfl,by omega,by omega,by omega,λi hi=>by omega,λi h1 h2=>by omega⟩
  case ifin =>
   rintro c dg ⟨rfl,l,r,rfl,hlr,hrk,hm,xi,S3⟩;have:l=r:=by omega
   subst this;exact⟨rfl,l,l,rfl,hrk,xi,S3⟩
  case istep =>
   rintro x c dg _ hxk ⟨rfl,l,r,rfl,hlr,hrk,hm,xi,S3⟩;dsimp only
   by_cases ve:l>=r
   ·rw[if_pos ve]
    have:l=r:=by omega
    subst this;exact wpS_pure ⟨rfl,l,l,rfl,hrk,xi,S3⟩
   ·rw[if_neg ve]
    refine wpS_bind (wpS_ltAt hL h0 gZ.si hk ⋯ ?_)
    by_cases xh:R ρ (arrOf dg) (lo+k)<R ρ (arrOf dg) (lo+(l+r)/2)
    ·simp only[xh,decide_true,if_true]
     refine wpS_pure ⟨rfl,l,(l+r)/2,rfl,by omega,by omega,by omega,xi,λi h1 h2=>?_⟩
     exact Nat.lt_of_lt_of_le xh (j6 _ _ ⋯ ⋯ ⋯)
    ·simp only[xh,decide_false,Bool.false_eq_true,if_false]
     refine wpS_pure ⟨rfl,(l+r)/2+1,r,rfl,by omega,by omega,by omega,λi h1=>?_,S3⟩
     exact Nat.le_trans (j6 (lo+i) (lo+(l+r)/2) ⋯ ⋯ ⋯) (Nat.not_lt.mp xh)
  case ipost =>
   rintro c dg ⟨rfl,l,r,rfl,hlk,xi,S3⟩;show wpS _ _ _ _ (do moveDown' (lo+k) (lo+l);pure (ForInStep.yield (none,()))) _ _
   rw[moveDown'_eq];refine wpS_bind (wpS_modify (wpS_pure ⟨rfl,gZ.bubble hk ⋯ ⋯,?_⟩))
   rw[show min (k+1) n=k+1 by omega]
   have hks:lo+k<(arrOf dg).size:=by rw[gZ.si.size];exact hk
   intro i j hi qp hj;show R ρ (bubble (arrOf dg) (lo+k) (lo+k-(lo+l))) i<=R ρ (bubble (arrOf dg) (lo+k) (lo+k-(lo+l))) j;rw[se hks ⋯,se hks ⋯,show lo+k-(lo+k-(lo+l))=lo+l by omega]
   have Z5:∀i,lo<=i->i<lo+l->R ρ (arrOf dg) i<=R ρ (arrOf dg) (lo+k):=λi h1 h2=>by
    have:=xi (i-lo) ⋯;rwa [show lo+(i-lo)=i by omega]at this
   have ZY:∀i,lo+l<=i->i<lo+k->R ρ (arrOf dg) (lo+k)<R ρ (arrOf dg) i:=λi h1 h2=>by
    have:=S3 (i-lo) ⋯ ⋯;rwa [show lo+(i-lo)=i by omega]at this
   repeat' split
   all_goals first
    | (exfalso;omega)
    | exact Nat.le_refl _
    | exact Z5 _ ⋯ ⋯
    | exact Nat.le_of_lt (ZY _ ⋯ ⋯)
    | exact j6 _ _ ⋯ ⋯ ⋯
def cA:Bool->Keyed->Array Keyed->Nat->Nat->Nat->StateT SortSt Sem (Option Nat):=sortPriv% PySem.Builtin.gallop
def fq(left:Bool)(key:Keyed)(arr:Array Keyed)(base i:Nat):StateT SortSt Sem (Option Bool):=do
 let x <- elem' arr (base+i)
 if left then lt' x key else return(<- lt' key x).map (!·)
theorem vK(left:Bool)(key:Keyed)(arr:Array Keyed)(base n hint:Nat):cA left key arr base n hint=(do
 let mut lW:=0
 let mut zF:=1
 let mut lo:=0
 let mut hi:=0
 let some right <- fq left key arr base hint|return none
 if right then
  let m6:=n-hint
  for _ in [0:n]do
   if zF>=m6 then break
   let some more <- fq left key arr base (hint+zF)|return none
   if !more then break
   lW:=zF
   zF:=2*zF+1
  lo:=hint+lW+1
  hi:=hint+min zF m6
 else
  let m6:=hint+1
  for _ in [0:n]do
   if zF>=m6 then break
   let some found <- fq left key arr base (hint-zF)|return none
   if found then break
   lW:=zF
   zF:=2*zF+1
  lo:=hint+1-min zF m6
  hi:=hint-lW
 for _ in [0:n]do
  if lo>=hi then break
  let m:=lo+(hi-lo)/2
  let some more <- fq left key arr base m|return none
  if more then lo:=m+1 else hi:=m
 return some hi):=rfl
end
end Vs
namespace Vs
open PySem PyProof.Rows
section
variable {M:Model}{A:Around}{E:Value->Shared->Prop}{s:Shared}{ρ:Keyed->Nat}{kd:SortKind}{P:Keyed->Prop}{a₀:Array Keyed}
def Vw(left:Bool)(key:Keyed)(arr:Array Keyed)(base n l h:Nat):StateT SortSt Sem (Option Nat):=do
 let mut lo:=l
 let mut hi:=h
 for _ in [0:n]do
  if lo>=hi then break
  let m:=lo+(hi-lo)/2
  let some more <- fq left key arr base m|return none
  if more then lo:=m+1 else hi:=m
 return some hi
def Tells(M:Model)(A:Around)(E:Value->Shared->Prop)(s:Shared)(left:Bool)(key:Keyed)(arr:Array Keyed)(base n:Nat)(st:SortSt)(p:Nat->Bool):Prop:=
 ∀i,i<n->∀Q:Option Bool->SortSt->Prop,Q (some (p i)) st->wpS M A E s (fq left key arr base i) Q st
theorem uT{left:Bool}{key:Keyed}{arr:Array Keyed}{base n l h:Nat}{st:SortSt}{p:Nat->Bool}{Q:Option Nat->SortSt->Prop}(hT:Tells M A E s left key arr base n st p)(hp:∀i j,i<=j->j<n->p j=true->p i=true)
  (hlh:l<=h) (hh:h<=n) (h1:∀i,i<l->p i=true) (h2:∀i,h<=i->i<n->p i=false)
  (q:∀k,k<=n->(∀i,i<k->p i=true)->(∀i,k<=i->i<n->p i=false)->Q (some k) st):wpS M A E s (Vw left key arr base n l h) Q st:=by
 unfold Vw;dsimp only;refine wpS_bind (wpS_mono (wpS_forRange (I:=λx c aC=>aC=st/\∃l h,c=(none,l,h)/\l<=h/\h<=n/\h-l<=n-x/\(∀i,i<l->p i=true)/\(∀i,h<=i->i<n->p i=false))
  (Q:=λc aC=>aC=st/\∃k,c=(none,k,k)/\k<=n/\(∀i,i<k->p i=true)/\(∀i,k<=i->i<n->p i=false)) ?step ?fin ⟨rfl,l,h,rfl,hlh,hh,by omega,h1,h2⟩) ?post)
 case post =>
  rintro c aC ⟨rfl,k,rfl,hk,q1,q2⟩;exact wpS_pure (q k hk q1 q2)
 case fin =>
  rintro c aC ⟨rfl,l,h,rfl,a1,a2,a3,a4,a5⟩;have:l=h:=by omega
  subst this;exact⟨rfl,l,rfl,a2,a4,a5⟩
 case step =>
  rintro x c aC _ hx ⟨rfl,l,h,rfl,a1,a2,a3,a4,a5⟩;dsimp only
  by_cases ve:l>=h
  ·rw[if_pos ve]
   have:l=h:=by omega
   subst this;exact wpS_pure ⟨rfl,l,rfl,a2,a4,a5⟩
  ·rw[if_neg ve]
   refine wpS_bind (hT _ ⋯ _ ?_)
   cases hm:p (l+(h-l)/2)with
   | true =>
    simp only[if_true];exact wpS_pure ⟨rfl,_,_,rfl,by omega,a2,by omega,λi hi=>hp i _ ⋯ ⋯ hm,a5⟩
   | false =>
    simp only[Bool.false_eq_true,if_false];refine wpS_pure ⟨rfl,_,_,rfl,by omega,by omega,by omega,a4,λi hi hn=>?_⟩
    cases e:p i with
    | false=>rfl
    | true=>rw[hp _ i hi hn e]at hm;cases hm
theorem dq{left:Bool}{key:Keyed}{arr:Array Keyed}{base n hint:Nat}{st:SortSt}{p:Nat->Bool}{Q:Option Nat->SortSt->Prop}(hT:Tells M A E s left key arr base n st p)(hp:∀i j,i<=j->j<n->p j=true->p i=true)(hn:hint<n)
  (q:∀k,k<=n->(∀i,i<k->p i=true)->(∀i,k<=i->i<n->p i=false)->Q (some k) st):wpS M A E s (cA left key arr base n hint) Q st:=by
 rw[vK];dsimp only;refine wpS_bind (hT hint hn _ ?_);have pf:∀i j,i<=j->j<n->p i=false->p j=false:=λi j h1 h2 h3=>by
  cases e:p j with
  | false=>rfl
  | true=>rw[hp i j h1 h2 e]at h3;cases h3
 cases h0:p hint with
 | true =>
  dsimp only;rw[if_pos rfl];refine wpS_bind (wpS_mono (wpS_forRange (I:=λx c aC=>aC=st/\∃l o,c=(none,l,o)/\l<o/\x+1<=o/\hint+l<n/\p (hint+l)=true)
   (Q:=λc aC=>aC=st/\∃l o,c=(none,l,o)/\l<o/\hint+l<n/\p (hint+l)=true/\(n-hint<=o\/(hint+o<n/\p (hint+o)=false))) ?step ?fin ⟨rfl,0,1,rfl,by omega,by omega,hn,h0⟩) ?post)
  case fin =>
   rintro c aC ⟨rfl,l,o,rfl,a1,a2,a3,a4⟩;exact⟨rfl,l,o,rfl,a1,a3,a4,.inl ⋯⟩
  case step =>
   rintro x c aC _ hx ⟨rfl,l,o,rfl,a1,a2,a3,a4⟩;dsimp only
   by_cases ve:o>=n-hint
   ·rw[if_pos ve]
    exact wpS_pure ⟨rfl,l,o,rfl,a1,a3,a4,.inl ve⟩
   ·rw[if_neg ve]
    refine wpS_bind (hT _ ⋯ _ ?_)
    cases hm:p (hint+o)with
    | true =>
     simp only[Bool.not_true,Bool.false_eq_true,if_false];exact wpS_pure ⟨rfl,_,_,rfl,by omega,by omega,by omega,hm⟩
    | false =>
     simp only[Bool.not_false,if_true];exact wpS_pure ⟨rfl,_,_,rfl,a1,a3,a4,.inr ⟨by omega,hm⟩⟩
  case post =>
   rintro c aC ⟨rfl,l,o,rfl,a1,a3,a4,a5⟩;refine uT (l:=hint+l+1) (h:=hint+min o (n-hint)) hT hp ⋯ ⋯ (λi hi=>hp i _ ⋯ a3 a4) (λi hi GH=>?_) q
   rcases a5 with a5|⟨a5,a6⟩
   ·omega
   ·exact pf (hint+o) i ⋯ GH a6
 | false =>
  dsimp only;rw[if_neg ∅]
  refine wpS_bind (wpS_mono (wpS_forRange (I:=λx c aC=>aC=st/\∃l o,c=(none,l,o)/\l<o/\x+1<=o/\l<=hint/\p (hint-l)=false)
   (Q:=λc aC=>aC=st/\∃l o,c=(none,l,o)/\l<o/\l<=hint/\p (hint-l)=false/\(hint+1<=o\/(o<=hint/\p (hint-o)=true))) ?step2 ?fin2 ⟨rfl,0,1,rfl,by omega,by omega,by omega,h0⟩) ?post2)
  case fin2 =>
   rintro c aC ⟨rfl,l,o,rfl,a1,a2,a3,a4⟩;exact⟨rfl,l,o,rfl,a1,a3,a4,.inl ⋯⟩
  case step2 =>
   rintro x c aC _ hx ⟨rfl,l,o,rfl,a1,a2,a3,a4⟩;dsimp only
   by_cases ve:o>=hint+1
   ·rw[if_pos ve]
    exact wpS_pure ⟨rfl,l,o,rfl,a1,a3,a4,.inl ve⟩
   ·rw[if_neg ve]
    refine wpS_bind (hT _ ⋯ _ ?_)
    cases hm:p (hint-o)with
    | true =>
     simp only[if_true];exact wpS_pure ⟨rfl,_,_,rfl,a1,a3,a4,.inr ⟨by omega,hm⟩⟩
    | false =>
     simp only[Bool.false_eq_true,if_false];exact wpS_pure ⟨rfl,_,_,rfl,by omega,by omega,by omega,hm⟩
  case post2 =>
   rintro c aC ⟨rfl,l,o,rfl,a1,a3,a4,a5⟩;refine uT (l:=hint+1-min o (hint+1)) (h:=hint-l) hT hp ⋯ ⋯ (λi hi=>?_) (λi hi GH=>pf (hint-l) i hi GH a4) q
   rcases a5 with a5|⟨a5,a6⟩
   ·omega
   ·exact hp i (hint-o) ⋯ ⋯ a6
def oH(ρ:Keyed->Nat)(left:Bool)(key:Keyed)(arr:Array Keyed)(base i:Nat):Bool:=if left=true then decide (R ρ arr (base+i)<ρ key)else !decide (ρ key<R ρ arr (base+i))
theorem tells{left:Bool}{key:Keyed}{arr:Array Keyed}{base n:Nat}{st:SortSt}(hL:fI M A E s ρ kd P)(hk:kindOf st=kd)(pk:P key)(pa:∀i,i<n->∃x,arr[base+i]?=some x/\P x):Tells M A E s left key arr base n st (oH ρ left key arr base):=λi hi Q q=>by
 obtain⟨x,e,px⟩:=pa i hi;unfold fq;refine wpS_bind (bg e ?_);unfold oH at q;rw[cV e]at q;cases left with
 | true =>
  simp only[if_true]at q ⊢;exact hL x key st Q px pk hk q
 | false =>
  simp only[Bool.false_eq_true,if_false]at q ⊢;exact wpS_bind (hL key x st _ pk px hk (wpS_pure q))
end
end Vs
namespace Vs
open PySem PyProof.Rows
def m8:Array Keyed->Array Keyed->StateT SortSt Sem (Array Keyed):=sortPriv% PySem.Builtin.mergeLo
def m7:Array Keyed->Array Keyed->StateT SortSt Sem (Array Keyed):=sortPriv% PySem.Builtin.mergeHi
def eK:Nat->StateT SortSt Sem Unit:=sortPriv% PySem.Builtin.setMinGallop
theorem ei(g:Nat):eK g=modify (λst=>SortSt.mk' (kindOf st) (arrOf st) (pendingOf st) g (failedOf st)):=rfl
def So(ρ:Keyed->Nat)(l:List Keyed):Prop:=l.Pairwise λx y=>ρ x<=ρ y
structure J(ρ:Keyed->Nat)(L O A B:List Keyed):Prop where
 o:So ρ O
 a:So ρ A
 b:So ρ B
 oa:∀x∈O,∀y∈A,ρ x<=ρ y
 ob:∀x∈O,∀y∈B,ρ x<=ρ y
 p:(O++(A++B)).Perm L
def Good(ρ:Keyed->Nat)(L r:List Keyed):Prop:=So ρ r/\r.Perm L
theorem So.app{ρ:Keyed->Nat}{A B:List Keyed}(h1:So ρ A)(h2:So ρ B)(h:∀x∈A,∀y∈B,ρ x<=ρ y):So ρ (A++B):=List.pairwise_append.mpr ⟨h1,h2,h⟩
section
variable {ρ:Keyed->Nat}{L O A B X:List Keyed}{x z:Keyed}
theorem J.i6(j:J ρ L O (X++A) B)(h:∀x∈X,∀y∈B,ρ x<=ρ y):J ρ L (O++X) A B:=by
 obtain⟨a1,a2,a3⟩:=List.pairwise_append.mp j.a;refine⟨j.o.app a1 λx hx y hy=>j.oa x hx y (List.mem_append_left _ hy),a2,j.b,λx hx y hy=>?_,λx hx y hy=>?_,?_⟩
 ·rcases List.mem_append.mp hx with hx|hx
  ·exact j.oa x hx y (List.mem_append_right _ hy)
  ·exact a3 x hx y hy
 ·rcases List.mem_append.mp hx with hx|hx
  ·exact j.ob x hx y hy
  ·exact h x hx y hy
 ·have:=j.p
  simpa [List.append_assoc]using this
theorem J.i7(j:J ρ L O A (X++B))(h:∀x∈X,∀y∈A,ρ x<=ρ y):J ρ L (O++X) A B:=by
 obtain⟨a1,a2,a3⟩:=List.pairwise_append.mp j.b;refine⟨j.o.app a1 λx hx y hy=>j.ob x hx y (List.mem_append_left _ hy),j.a,a2,λx hx y hy=>?_,λx hx y hy=>?_,?_⟩
 ·rcases List.mem_append.mp hx with hx|hx
  ·exact j.oa x hx y hy
  ·exact h x hx y hy
 ·rcases List.mem_append.mp hx with hx|hx
  ·exact j.ob x hx y (List.mem_append_right _ hy)
  ·exact a3 x hx y hy
 ·refine List.Perm.trans ?_ j.p
  rw[List.append_assoc];refine List.Perm.append_left O ?_;rw[<- List.append_assoc,<- List.append_assoc];exact List.Perm.append_right B List.perm_append_comm
theorem J.gP(j:J ρ L O A []):Good ρ L (O++A):=⟨j.o.app j.a j.oa,by simpa using j.p⟩
theorem J.gO(j:J ρ L O [] B):Good ρ L (O++B):=⟨j.o.app j.b j.ob,by simpa using j.p⟩
theorem J.last(j:J ρ L O [z] B)(h:∀y∈B,ρ y<=ρ z):Good ρ L (O++B++[z]):=by
 refine⟨(j.o.app j.b j.ob).app (List.pairwise_singleton ..) λx hx y hy=>?_,?_⟩
 ·rw[List.mem_singleton.mp hy]
  rcases List.mem_append.mp hx with hx|hx
  ·exact j.oa x hx z (List.mem_singleton.mpr rfl)
  ·exact h x hx
 ·refine List.Perm.trans ?_ j.p
  rw[List.append_assoc];exact List.Perm.append_left O List.perm_append_comm
end
theorem jU{a:Array Keyed}{i:Nat}{x:Keyed}(h:a[i]?=some x):a.toList.drop i=x::a.toList.drop (i+1):=by
 have hi:i<a.toList.length:=by
  have:=(Array.getElem?_eq_some_iff.mp h).1;simpa using this
 rw[List.drop_eq_getElem_cons hi];have:a.toList[i]=x:=by
  have:=(Array.getElem?_eq_some_iff.mp h).2;simpa using this
 rw[this]
theorem kU(a:Array Keyed)(i:Nat):(a.extract i a.size).toList=a.toList.drop i:=by
 rw[Array.toList_extract];show(a.toList.drop i).take (a.size-i)=_;exact List.take_of_length_le (by rw[List.length_drop];exact Nat.le_refl _)
theorem mv(a:Array Keyed)(i k:Nat):(a.extract i (i+k)).toList=(a.toList.drop i).take k:=by
 rw[Array.toList_extract];show(a.toList.drop i).take (i+k-i)=_;rw[Nat.add_sub_cancel_left]
theorem uN(a:Array Keyed)(i k:Nat):a.toList.drop i=(a.toList.drop i).take k++a.toList.drop (i+k):=by
 rw[<- List.drop_drop,List.take_append_drop]
theorem nM{a:Array Keyed}{i:Nat}(h:i=a.size):a.toList.drop i=[]:=by
 subst h;exact List.drop_length
theorem lj{a:Array Keyed}{i k:Nat}{x:Keyed}(h:x∈(a.toList.drop i).take k):∃m,m<k/\i+m<a.size/\a[i+m]?=some x:=by
 obtain⟨m,hm,e⟩:=List.mem_iff_getElem.mp h;rw[List.length_take,List.length_drop]at hm;rw[List.getElem_take,List.getElem_drop]at e;have hs:i+m<a.size:=by have:a.toList.length=a.size:=rfl;omega
 exact⟨m,by omega,hs,by rw[Array.getElem?_eq_getElem hs];exact congrArg some (by simpa using e)⟩
theorem E5{a:Array Keyed}{i:Nat}{x:Keyed}(h:x∈a.toList.drop i):∃m,i<=m/\m<a.size/\a[m]?=some x:=by
 obtain⟨m,hm,e⟩:=List.mem_iff_getElem.mp h;rw[List.length_drop]at hm;rw[List.getElem_drop]at e;have hs:i+m<a.size:=by have:a.toList.length=a.size:=rfl;omega
 exact⟨i+m,by omega,hs,by rw[Array.getElem?_eq_getElem hs];exact congrArg some (by simpa using e)⟩
theorem So.seg{ρ:Keyed->Nat}{a:Array Keyed}(h:So ρ a.toList):Seg ρ a 0 a.size:=λi j _ qp hj=>by
 by_cases e:i=j
 ·subst e;exact Nat.le_refl _
 ·have hi:i<a.size:=by omega
  rw[cV (Array.getElem?_eq_getElem hi),cV (Array.getElem?_eq_getElem hj)];have:=List.pairwise_iff_getElem.mp h i j (by simpa using hi) (by simpa using hj) ⋯
  simpa using this
structure Kp(st aC:SortSt):Prop where
 a:arrOf aC=arrOf st
 k:kindOf aC=kindOf st
 p:pendingOf aC=pendingOf st
 f:failedOf aC=failedOf st
theorem Kp.refl{st:SortSt}:Kp st st:=⟨rfl,rfl,rfl,rfl⟩
theorem Kp.min{st aC:SortSt}(h:Kp st aC)(g:Nat):Kp st (SortSt.mk' (kindOf aC) (arrOf aC) (pendingOf aC) g (failedOf aC)):=⟨h.a,h.k,h.p,h.f⟩
section
variable {M:Model}{A:Around}{E:Value->Shared->Prop}{s:Shared}{ρ:Keyed->Nat}{kd:SortKind}{P:Keyed->Prop}
theorem dh{a:Array Keyed}(pa:∀x∈a.toList,P x){i:Nat}(h:i<a.size):∃x,a[i]?=some x/\P x:=
 ⟨a[i],Array.getElem?_eq_getElem h,pa _ (by simp)⟩
theorem Fe{key:Keyed}{arr:Array Keyed}{base:Nat}{st:SortSt}{Q:Option Nat->SortSt->Prop}(hL:fI M A E s ρ kd P)(hk:kindOf st=kd)(pk:P key)(pa:∀x∈arr.toList,P x)(hs:So ρ arr.toList)(hb:base<arr.size)
  (q:∀k,base+k<=arr.size->(∀x∈(arr.toList.drop base).take k,ρ x<=ρ key)->(∀x∈arr.toList.drop (base+k),ρ key<ρ x)->Q (some k) st):wpS M A E s (cA false key arr base (arr.size-base) 0) Q st:=by
 refine dq (tells hL hk pk λi hi=>dh pa ⋯) (λi j qp hj h=>?_) ⋯ λk nQ h1 h2=>q k ⋯ (λx hx=>?_) λx hx=>?_
 ·have:=hs.seg (base+i) (base+j) (Nat.zero_le _) ⋯ ⋯
  simp only[oH,Bool.false_eq_true,if_false,Bool.not_eq_true',decide_eq_false_iff_not]at h ⊢;omega
 ·obtain⟨m,hm,iW,e⟩:=lj hx
  have:=h1 m hm;simp only[oH,Bool.false_eq_true,if_false,Bool.not_eq_true',decide_eq_false_iff_not,cV e]at this;omega
 ·obtain⟨m,hm,iW,e⟩:=E5 hx
  have:=h2 (m-base) ⋯ ⋯
  rw[show base+k=base+k from rfl]at hm
  simp only[oH,Bool.false_eq_true,if_false,show base+(m-base)=m by omega,cV e,Bool.not_eq_false',decide_eq_true_eq]at this
  exact this
theorem Fd{key:Keyed}{arr:Array Keyed}{base:Nat}{st:SortSt}{Q:Option Nat->SortSt->Prop}(hL:fI M A E s ρ kd P)(hk:kindOf st=kd)(pk:P key)(pa:∀x∈arr.toList,P x)(hs:So ρ arr.toList)(hb:base<arr.size)
  (q:∀k,base+k<=arr.size->(∀x∈(arr.toList.drop base).take k,ρ x<ρ key)->(∀x∈arr.toList.drop (base+k),ρ key<=ρ x)->Q (some k) st):wpS M A E s (cA true key arr base (arr.size-base) 0) Q st:=by
 refine dq (tells hL hk pk λi hi=>dh pa ⋯) (λi j qp hj h=>?_) ⋯ λk nQ h1 h2=>q k ⋯ (λx hx=>?_) λx hx=>?_
 ·have:=hs.seg (base+i) (base+j) (Nat.zero_le _) ⋯ ⋯
  simp only[oH,if_true,decide_eq_true_eq]at h ⊢;omega
 ·obtain⟨m,hm,iW,e⟩:=lj hx
  have:=h1 m hm;simp only[oH,if_true,decide_eq_true_eq,cV e]at this;omega
 ·obtain⟨m,hm,iW,e⟩:=E5 hx
  have:=h2 (m-base) ⋯ ⋯
  simp only[oH,if_true,show base+(m-base)=m by omega,cV e,decide_eq_false_iff_not]at this
  omega
end
end Vs
namespace Vs
open PySem PyProof.Rows
section
variable {M:Model}{Ar:Around}{E:Value->Shared->Prop}{s:Shared}{ρ:Keyed->Nat}{kd:SortKind}{P:Keyed->Prop}{a b out:Array Keyed}{L:List Keyed}{ia ib:Nat}
abbrev GS:=Option (Array Keyed)×Array Keyed×Nat×Nat×Nat×Nat×Nat
def Gz(a b out:Array Keyed)(ia ib g k k1:Nat):StateT SortSt Sem (ForInStep GS):=do
 let y <- elem' a ia
 if(ia+1+1==a.size)=true then pure (ForInStep.done (some (out.push y++b.extract ib b.size++a.extract (ia+1) a.size),out.push y,ia+1,ib,g,k,k1))
 else if(decide (k<7)&&decide (k1<7))=true then pure (ForInStep.done (none,out.push y,ia+1,ib,g,k,k1))
 else pure (ForInStep.yield (none,out.push y,ia+1,ib,g,k,k1))
def Gy(a b out:Array Keyed)(ia ib g k bc:Nat):StateT SortSt Sem (ForInStep GS):=do
 let x <- elem' b ib
 if(ib+1==b.size)=true then pure (ForInStep.done (some (out.push x++a.extract ia a.size++b.extract (ib+1) b.size),out.push x,ia,ib+1,g,k,bc))
 else do
  let y <- elem' a ia
  let r <- cA true y b (ib+1) (b.size-(ib+1)) 0
  match r with
  | some k1 =>
   if k1>0 then
    if(ib+1+k1==b.size)=true then pure (ForInStep.done (some (out.push x++b.extract (ib+1) (ib+1+k1)++a.extract ia a.size++b.extract (ib+1+k1) b.size),out.push x++b.extract (ib+1) (ib+1+k1),ia,ib+1+k1,g,k,k1))
    else Gz a b (out.push x++b.extract (ib+1) (ib+1+k1)) ia (ib+1+k1) g k k1
   else Gz a b (out.push x) ia (ib+1) g k k1
  | _=>pure (ForInStep.done (some (out.push x++a.extract ia a.size++b.extract (ib+1) b.size),out.push x,ia,ib+1,g,k,bc))
def Gx(a b out:Array Keyed)(ia ib g ac bc:Nat):StateT SortSt Sem (ForInStep GS):=do
 let x <- elem' b ib
 let r <- cA false x a ia (a.size-ia) 0
 match r with
 | some k =>
  if k>0 then
   if(ia+k+1==a.size)=true then pure (ForInStep.done (some (out++a.extract ia (ia+k)++b.extract ib b.size++a.extract (ia+k) a.size),out++a.extract ia (ia+k),ia+k,ib,g,k,bc))
   else if(ia+k==a.size)=true then pure (ForInStep.done (some (out++a.extract ia (ia+k)++a.extract (ia+k) a.size++b.extract ib b.size),out++a.extract ia (ia+k),ia+k,ib,g,k,bc))
   else Gy a b (out++a.extract ia (ia+k)) (ia+k) ib g k bc
  else Gy a b out ia ib g k bc
 | _=>pure (ForInStep.done (some (out++a.extract ia a.size++b.extract ib b.size),out,ia,ib,g,ac,bc))
def V(ρ:Keyed->Nat)(L:List Keyed)(a b out:Array Keyed)(ia ib:Nat):Prop:=J ρ L out.toList (a.toList.drop ia) (b.toList.drop ib)
theorem V.xu(j:V ρ L a b out ia ib)(e:ia+1=a.size)(hz:∀y∈b.toList,∀z,a[a.size-1]?=some z->ρ y<=ρ z):Good ρ L (out++b.extract ib b.size++a.extract ia a.size).toList:=by
 have ha:ia<a.size:=by omega
 have e1:a.toList.drop ia=[a[ia]]:=by rw[jU (Array.getElem?_eq_getElem ha),nM e]
 have j':J ρ L out.toList (a.toList.drop ia) (b.toList.drop ib):=j;rw[e1]at j';rw[Array.toList_append,Array.toList_append,kU,kU,e1];refine j'.last λy hy=>hz y (List.mem_of_mem_drop hy) _ ?_;rw[show a.size-1=ia by omega];exact Array.getElem?_eq_getElem ha
theorem V.gP(j:V ρ L a b out ia ib)(e:ib=b.size):Good ρ L (out++a.extract ia a.size++b.extract ib b.size).toList:=by
 have j':J ρ L out.toList (a.toList.drop ia) (b.toList.drop ib):=j;rw[nM e]at j';rw[Array.toList_append,Array.toList_append,kU,kU,nM e,List.append_nil];exact j'.gP
theorem V.gO(j:V ρ L a b out ia ib)(e:ia=a.size):Good ρ L (out++a.extract ia a.size++b.extract ib b.size).toList:=by
 have j':J ρ L out.toList (a.toList.drop ia) (b.toList.drop ib):=j;rw[nM e]at j';rw[Array.toList_append,Array.toList_append,kU,kU,nM e,List.append_nil];exact j'.gO
theorem V.pq{x:Keyed}(j:V ρ L a b out ia ib)(e:a[ia]?=some x)(h:∀y∈b.toList.drop ib,ρ x<=ρ y):V ρ L a b (out.push x) (ia+1) ib:=by
 have j':J ρ L out.toList (a.toList.drop ia) (b.toList.drop ib):=j;rw[jU e]at j';show J ρ L (out.push x).toList _ _;rw[Array.toList_push];exact J.i6 (X:=[x]) j' λz hz y hy=>by rw[List.mem_singleton.mp hz];exact h y hy
theorem V.pv{x:Keyed}(j:V ρ L a b out ia ib)(e:b[ib]?=some x)(h:∀y∈a.toList.drop ia,ρ x<=ρ y):V ρ L a b (out.push x) ia (ib+1):=by
 have j':J ρ L out.toList (a.toList.drop ia) (b.toList.drop ib):=j;rw[jU e]at j';show J ρ L (out.push x).toList _ _;rw[Array.toList_push];exact J.i7 (X:=[x]) j' λz hz y hy=>by rw[List.mem_singleton.mp hz];exact h y hy
theorem V.i6{k:Nat}(j:V ρ L a b out ia ib)(h:∀x∈(a.toList.drop ia).take k,∀y∈b.toList.drop ib,ρ x<=ρ y):V ρ L a b (out++a.extract ia (ia+k)) (ia+k) ib:=by
 have j':J ρ L out.toList (a.toList.drop ia) (b.toList.drop ib):=j;rw[uN a ia k]at j';show J ρ L (out++a.extract ia (ia+k)).toList _ _;rw[Array.toList_append,mv];exact J.i6 j' h
theorem V.i7{k:Nat}(j:V ρ L a b out ia ib)(h:∀x∈(b.toList.drop ib).take k,∀y∈a.toList.drop ia,ρ x<=ρ y):V ρ L a b (out++b.extract ib (ib+k)) ia (ib+k):=by
 have j':J ρ L out.toList (a.toList.drop ia) (b.toList.drop ib):=j;rw[uN b ib k]at j';show J ρ L (out++b.extract ib (ib+k)).toList _ _;rw[Array.toList_append,mv];exact J.i7 j' h
theorem V.JK{x:Keyed}(j:V ρ L a b out ia ib)(e:a[ia]?=some x):∀y∈a.toList.drop ia,ρ x<=ρ y:=λy hy=>by
 have:=j.a;rw[jU e]at this hy;rcases List.mem_cons.mp hy with rfl|hy
 ·exact Nat.le_refl _
 ·exact(List.pairwise_cons.mp this).1 y hy
theorem V.JL{x:Keyed}(j:V ρ L a b out ia ib)(e:b[ib]?=some x):∀y∈b.toList.drop ib,ρ x<=ρ y:=λy hy=>by
 have:=j.b;rw[jU e]at this hy;rcases List.mem_cons.mp hy with rfl|hy
 ·exact Nat.le_refl _
 ·exact(List.pairwise_cons.mp this).1 y hy
def Left(ρ:Keyed->Nat)(L:List Keyed)(a b:Array Keyed)(t:Nat)(out:Array Keyed)(ia ib:Nat):Prop:=V ρ L a b out ia ib/\ia+1<a.size/\ib<b.size/\t<=ia+ib
def PG(ρ:Keyed->Nat)(L:List Keyed)(a b:Array Keyed)(t:Nat)(cq:SortSt)(r:ForInStep GS)(st:SortSt):Prop:=Kp cq st/\match r with
 | .done c=>(∃arr,c.1=some arr/\Good ρ L arr.toList)\/(c.1=none/\Left ρ L a b t c.2.1 c.2.2.1 c.2.2.2.1)
 | .yield c=>c.1=none/\Left ρ L a b t c.2.1 c.2.2.1 c.2.2.2.1
structure u9(ρ:Keyed->Nat)(P:Keyed->Prop)(a b:Array Keyed):Prop where
 pa:∀x∈a.toList,P x
 pb:∀x∈b.toList,P x
 sa:So ρ a.toList
 sb:So ρ b.toList
 a1:1<=a.size
 b1:1<=b.size
 z:∀y∈b.toList,∀z,a[a.size-1]?=some z->ρ y<=ρ z
 y:∀y∈a.toList,∀z,b[0]?=some z->ρ z<=ρ y
theorem uY{st cq:SortSt}{g k k1 t:Nat}(T:u9 ρ P a b)(hK:Kp cq st)(j:V ρ L a b out ia ib)(h1:ia+1<a.size)(h2:ib<b.size)(ht:t<=ia+ib)
  (h:∀x,a[ia]?=some x->∀y∈b.toList.drop ib,ρ x<=ρ y):wpS M Ar E s (Gz a b out ia ib g k k1) (PG ρ L a b t cq) st:=by
 unfold Gz;obtain⟨y,ey,py⟩:=dh T.pa (show ia<a.size by omega)
 refine wpS_bind (bg ey ?_);have j':=j.pq ey (h y ey)
 by_cases e:ia+1+1=a.size
 ·rw[if_pos (by simpa using e)]
  exact wpS_pure ⟨hK,.inl ⟨_,rfl,j'.xu e T.z⟩⟩
 ·rw[if_neg (by simpa using e)]
  split
  ·exact wpS_pure ⟨hK,.inr ⟨rfl,j',by show ia+1+1<a.size;omega,h2,by show t<=ia+1+ib;omega⟩⟩
  ·exact wpS_pure ⟨hK,rfl,j',by show ia+1+1<a.size;omega,h2,by show t<=ia+1+ib;omega⟩
theorem uX{st cq:SortSt}{g k bc t:Nat}(hL:fI M Ar E s ρ kd P)(hk:kindOf cq=kd)(T:u9 ρ P a b)(hK:Kp cq st)(j:V ρ L a b out ia ib)(h1:ia+1<a.size)(h2:ib<b.size)(ht:t<=ia+ib)
  (h:∀x,b[ib]?=some x->∀y∈a.toList.drop ia,ρ x<=ρ y):wpS M Ar E s (Gy a b out ia ib g k bc) (PG ρ L a b t cq) st:=by
 unfold Gy;obtain⟨x,ex,px⟩:=dh T.pb h2;obtain⟨y,ey,py⟩:=dh T.pa (show ia<a.size by omega)
 refine wpS_bind (bg ex ?_);have j':=j.pv ex (h x ex)
 by_cases e:ib+1=b.size
 ·rw[if_pos (by simpa using e)]
  exact wpS_pure ⟨hK,.inl ⟨_,rfl,j'.gP e⟩⟩
 ·rw[if_neg (by simpa using e)]
  refine wpS_bind (bg ey ?_);refine wpS_bind (Fd hL (hK.k.trans hk) py T.pb T.sb ⋯ λk1 nQ q1 q2=>?_)
  dsimp only;have j2:=j'.i7 (k:=k1) λx hx z hz=>Nat.le_trans (Nat.le_of_lt (q1 x hx)) (j'.JK ey z hz)
  by_cases xg:k1>0
  ·rw[if_pos xg]
   by_cases e2:ib+1+k1=b.size
   ·rw[if_pos (by simpa using e2)]
    exact wpS_pure ⟨hK,.inl ⟨_,rfl,j2.gP e2⟩⟩
   ·rw[if_neg (by simpa using e2)]
    exact uY T hK j2 h1 ⋯ ⋯ λx' fM z hz=>by rw[ey]at fM;cases fM;exact q2 z hz
  ·rw[if_neg xg]
   have:k1=0:=by omega
   subst this;exact uY T hK j' h1 ⋯ ⋯ λx' fM z hz=>by rw[ey]at fM;cases fM;exact q2 z hz
theorem uW{st cq:SortSt}{g ac bc t:Nat}(hL:fI M Ar E s ρ kd P)(hk:kindOf cq=kd)(T:u9 ρ P a b)(hK:Kp cq st)(j:Left ρ L a b t out ia ib):wpS M Ar E s (Gx a b out ia ib g ac bc) (PG ρ L a b t cq) st:=by
 obtain⟨j,h1,h2,ht⟩:=j;unfold Gx;obtain⟨x,ex,px⟩:=dh T.pb h2;refine wpS_bind (bg ex ?_);refine wpS_bind (Fe hL (hK.k.trans hk) px T.pa T.sa ⋯ λk nQ q1 q2=>?_)
 dsimp only;have j2:=j.i6 (k:=k) λz hz y hy=>Nat.le_trans (q1 z hz) (j.JL ex y hy)
 by_cases xg:k>0
 ·rw[if_pos xg]
  by_cases e:ia+k+1=a.size
  ·rw[if_pos (by simpa using e)]
   exact wpS_pure ⟨hK,.inl ⟨_,rfl,j2.xu e T.z⟩⟩
  ·rw[if_neg (by simpa using e)]
   by_cases e2:ia+k=a.size
   ·rw[if_pos (by simpa using e2)]
    exact wpS_pure ⟨hK,.inl ⟨_,rfl,j2.gO e2⟩⟩
   ·rw[if_neg (by simpa using e2)]
    exact uX hL hk T hK j2 ⋯ h2 ⋯ λx' fM z hz=>by rw[ex]at fM;cases fM;exact Nat.le_of_lt (q2 z hz)
 ·rw[if_neg xg]
  have:k=0:=by omega
  subst this;exact uX hL hk T hK j h1 h2 ht λx' fM z hz=>by rw[ex]at fM;cases fM;exact Nat.le_of_lt (q2 z hz)
abbrev IS:=Option (Array Keyed)×Array Keyed×Nat×Nat×Nat×Nat
abbrev OS:=Option (Array Keyed)×Array Keyed×Nat×Nat×Nat
def loI(a b:Array Keyed)(g:Nat)(c:IS):StateT SortSt Sem (ForInStep IS):=do
 let x <- elem' b c.2.2.2.1
 let y <- elem' a c.2.2.1
 let r <- lt' x y
 match r with
 | some w =>
  if w=true then do
   let x <- elem' b c.2.2.2.1
   if(c.2.2.2.1+1==b.size)=true then pure (ForInStep.done (some (c.2.1.push x++a.extract c.2.2.1 a.size++b.extract (c.2.2.2.1+1) b.size),c.2.1.push x,c.2.2.1,c.2.2.2.1+1,0,c.2.2.2.2.2+1))
   else if c.2.2.2.2.2+1>=g then pure (ForInStep.done (none,c.2.1.push x,c.2.2.1,c.2.2.2.1+1,0,c.2.2.2.2.2+1))
   else pure (ForInStep.yield (none,c.2.1.push x,c.2.2.1,c.2.2.2.1+1,0,c.2.2.2.2.2+1))
  else do
   let y <- elem' a c.2.2.1
   if(c.2.2.1+1+1==a.size)=true then pure (ForInStep.done (some (c.2.1.push y++b.extract c.2.2.2.1 b.size++a.extract (c.2.2.1+1) a.size),c.2.1.push y,c.2.2.1+1,c.2.2.2.1,c.2.2.2.2.1+1,0))
   else if c.2.2.2.2.1+1>=g then pure (ForInStep.done (none,c.2.1.push y,c.2.2.1+1,c.2.2.2.1,c.2.2.2.2.1+1,0))
   else pure (ForInStep.yield (none,c.2.1.push y,c.2.2.1+1,c.2.2.2.1,c.2.2.2.2.1+1,0))
 | _=>pure (ForInStep.done (some (c.2.1++a.extract c.2.2.1 a.size++b.extract c.2.2.2.1 b.size),c.2.1,c.2.2.1,c.2.2.2.1,c.2.2.2.2.1,c.2.2.2.2.2))
def loG(a b:Array Keyed)(c:GS):StateT SortSt Sem (ForInStep GS):=
 if c.2.2.2.2.1>1 then do
  eK (c.2.2.2.2.1-1)
  Gx a b c.2.1 c.2.2.1 c.2.2.2.1 (c.2.2.2.2.1-1) c.2.2.2.2.2.1 c.2.2.2.2.2.2
 else do
  eK c.2.2.2.2.1
  Gx a b c.2.1 c.2.2.1 c.2.2.2.1 c.2.2.2.2.1 c.2.2.2.2.2.1 c.2.2.2.2.2.2
def loE(r:GS):StateT SortSt Sem (ForInStep OS):=
 match r.1 with
 | some arr=>pure (ForInStep.done (some arr,r.2.1,r.2.2.1,r.2.2.2.1,r.2.2.2.2.1))
 | none=>do
  eK (r.2.2.2.2.1+1)
  pure (ForInStep.yield (none,r.2.1,r.2.2.1,r.2.2.2.1,r.2.2.2.2.1+1))
def loN(a b:Array Keyed)(g:Nat)(r:IS):StateT SortSt Sem (ForInStep OS):=
 match r.1 with
 | some arr=>pure (ForInStep.done (some arr,r.2.1,r.2.2.1,r.2.2.2.1,g))
 | none=>do
  liftM (rule "list.sort.gallop")
  let r2 <- forIn [0:a.size+b.size] ((none,r.2.1,r.2.2.1,r.2.2.2.1,g+1,r.2.2.2.2.1,r.2.2.2.2.2):GS) λ_ t=>loG a b t
  loE r2
def loO(a b:Array Keyed)(c:OS):StateT SortSt Sem (ForInStep OS):=do
 let r <- forIn [0:a.size+b.size] ((none,c.2.1,c.2.2.1,c.2.2.2.1,0,0):IS) λ_ r=>loI a b c.2.2.2.2 r
 loN a b c.2.2.2.2 r
def loZ(r:OS):StateT SortSt Sem (Array Keyed):=
 match r.1 with
 | some arr=>pure arr
 | none=>unsupported "internal:list.sort.merge-bound"
theorem qx(a b:Array Keyed):m8 a b=(do
 liftM (rule "list.sort.merge-lo")
 let x <- elem' b 0
 if(1==b.size)=true then pure (#[x]++a.extract 0 a.size++b.extract 1 b.size)
 else if(0+1==a.size)=true then pure (#[x]++b.extract 1 b.size++a.extract 0 a.size)
 else do
  let st <- get
  let r <- forIn [0:a.size+b.size] ((none,#[x],0,1,gallopOf st):OS) λ_ r=>loO a b r
  loZ r):=by kernel_rfl
theorem Iz{cq st:SortSt}{g n m:Nat}{c:IS}(hL:fI M Ar E s ρ kd P)(hk:kindOf cq=kd)(T:u9 ρ P a b)(hK:Kp cq st)(j:Left ρ L a b (n+1+min m 1) c.2.1 c.2.2.1 c.2.2.2.1):
  wpS M Ar E s (loI a b g c) (λr aC=>Kp cq aC/\match r with
   | .done c=>(∃arr,c.1=some arr/\Good ρ L arr.toList)\/(c.1=none/\Left ρ L a b (n+1+1) c.2.1 c.2.2.1 c.2.2.2.1)
   | .yield c=>c.1=none/\Left ρ L a b (n+1+min (m+1) 1) c.2.1 c.2.2.1 c.2.2.2.1) st:=by
 obtain⟨ret,out,ia,ib,ac,bc⟩:=c;obtain⟨j,l1,l2,l3⟩:=j;dsimp only at j l1 l2 l3;unfold loI;dsimp only;obtain⟨x,ex,px⟩:=dh T.pb l2;obtain⟨y,ey,py⟩:=dh T.pa (show ia<a.size by omega)
 refine wpS_bind (bg ex (wpS_bind (bg ey (wpS_bind (hL x y st _ px py (hK.k.trans hk) ?_)))))
 by_cases gK:ρ x<ρ y
 ·rw[decide_eq_true gK]
  refine wpS_bind (bg ex ?_);have j':=j.pv ex λz hz=>Nat.le_trans (Nat.le_of_lt gK) (j.JK ey z hz)
  by_cases e:ib+1=b.size
  ·rw[if_pos (by simpa using e)]
   exact wpS_pure ⟨hK,.inl ⟨_,rfl,j'.gP e⟩⟩
  ·rw[if_neg (by simpa using e)]
   split
   ·exact wpS_pure ⟨hK,.inr ⟨rfl,j',by show ia+1<a.size;omega,by show ib+1<b.size;omega,by show n+1+1<=ia+(ib+1);omega⟩⟩
   ·exact wpS_pure ⟨hK,rfl,j',by show ia+1<a.size;omega,by show ib+1<b.size;omega,by show n+1+min (m+1) 1<=ia+(ib+1);omega⟩
 ·rw[decide_eq_false gK]
  refine wpS_bind (bg ey ?_);have j':=j.pq ey λz hz=>Nat.le_trans (Nat.not_lt.mp gK) (j.JL ex z hz)
  by_cases e:ia+1+1=a.size
  ·rw[if_pos (by simpa using e)]
   exact wpS_pure ⟨hK,.inl ⟨_,rfl,j'.xu e T.z⟩⟩
  ·rw[if_neg (by simpa using e)]
   split
   ·exact wpS_pure ⟨hK,.inr ⟨rfl,j',by show ia+1+1<a.size;omega,by show ib<b.size;omega,by show n+1+1<=ia+1+ib;omega⟩⟩
   ·exact wpS_pure ⟨hK,rfl,j',by show ia+1+1<a.size;omega,by show ib<b.size;omega,by show n+1+min (m+1) 1<=ia+1+ib;omega⟩
theorem Iy{cq st:SortSt}{t:Nat}{c:GS}(hL:fI M Ar E s ρ kd P)(hk:kindOf cq=kd)(T:u9 ρ P a b)(hK:Kp cq st)(j:Left ρ L a b t c.2.1 c.2.2.1 c.2.2.2.1):wpS M Ar E s (loG a b c) (PG ρ L a b t cq) st:=by
 unfold loG
 split
 ·rw[ei]
  exact wpS_bind (wpS_modify (uW hL hk T (hK.min _) j))
 ·rw[ei]
  exact wpS_bind (wpS_modify (uW hL hk T (hK.min _) j))
def PO(ρ:Keyed->Nat)(L:List Keyed)(a b:Array Keyed)(t:Nat)(cq:SortSt)(r:ForInStep OS)(st:SortSt):Prop:=match r with
 | .done c=>Kp cq st/\∃arr,c.1=some arr/\Good ρ L arr.toList
 | .yield c=>Kp cq st/\c.1=none/\Left ρ L a b t c.2.1 c.2.2.1 c.2.2.2.1
theorem IA{cq st:SortSt}{g n:Nat}{r:IS}(hL:fI M Ar E s ρ kd P)(hk:kindOf cq=kd)(T:u9 ρ P a b)(hK:Kp cq st)
  (h:(∃arr,r.1=some arr/\Good ρ L arr.toList)\/(r.1=none/\Left ρ L a b (n+1+1) r.2.1 r.2.2.1 r.2.2.2.1)):wpS M Ar E s (loN a b g r) (PO ρ L a b (n+1+1) cq) st:=by
 obtain⟨ret,r⟩:=r;unfold loN;rcases h with⟨arr,h1,h2⟩|⟨h1,hl⟩
 ·dsimp only at h1
  subst h1;exact wpS_pure ⟨hK,arr,rfl,h2⟩
 ·dsimp only at h1 hl
  subst h1;refine wpS_bind (wpS_lift (wpAny_rule ⟨rfl,?_⟩));refine wpS_bind (wpS_mono (wpS_forRange (I:=λx c aC=>Kp cq aC/\c.1=none/\Left ρ L a b (n+1+1) c.2.1 c.2.2.1 c.2.2.2.1)
   (Q:=λc aC=>Kp cq aC/\((∃arr,c.1=some arr/\Good ρ L arr.toList)\/(c.1=none/\Left ρ L a b (n+1+1) c.2.1 c.2.2.1 c.2.2.2.1))) ?gstep ?gfin ⟨hK,rfl,hl⟩) ?gpost)
  case gfin =>
   rintro c aC ⟨hK,h1,hl⟩;exact⟨hK,.inr ⟨h1,hl⟩⟩
  case gstep =>
   rintro m c aC _ hm ⟨hK,h1,hl⟩;refine wpS_mono (Iy hL hk T hK hl) λr dg hr=>?_;obtain⟨k1,k2⟩:=hr;cases r with
   | done c=>exact⟨k1,k2⟩
   | yield c=>exact⟨k1,k2⟩
  case gpost =>
   rintro⟨ret,r⟩ aC ⟨hK,⟨arr,h1,h2⟩|⟨h1,hl⟩⟩
   ·dsimp only at h1
    subst h1;exact wpS_pure ⟨hK,arr,rfl,h2⟩
   ·dsimp only at h1 hl
    subst h1;unfold loE;rw[ei];exact wpS_bind (wpS_modify (wpS_pure ⟨hK.min _,rfl,hl⟩))
theorem IB{cq st:SortSt}{n:Nat}{c:OS}(hL:fI M Ar E s ρ kd P)(hk:kindOf cq=kd)(T:u9 ρ P a b)(hn:0<a.size+b.size)(hK:Kp cq st)(hl:Left ρ L a b (n+1) c.2.1 c.2.2.1 c.2.2.2.1):wpS M Ar E s (loO a b c) (PO ρ L a b (n+1+1) cq) st:=by
 unfold loO;refine wpS_bind (wpS_mono (wpS_forRange (I:=λx c aC=>Kp cq aC/\c.1=none/\Left ρ L a b (n+1+min x 1) c.2.1 c.2.2.1 c.2.2.2.1)
  (Q:=λc aC=>Kp cq aC/\((∃arr,c.1=some arr/\Good ρ L arr.toList)\/(c.1=none/\Left ρ L a b (n+1+1) c.2.1 c.2.2.1 c.2.2.2.1))) ?istep ?ifin ⟨hK,rfl,by simpa using hl⟩) ?ipost)
 case ifin =>
  rintro c aC ⟨hK,h1,hl⟩;rw[show min (max 0 (a.size+b.size)) 1=1 by omega]at hl
  exact⟨hK,.inr ⟨h1,hl⟩⟩
 case istep =>
  rintro m c aC _ hm ⟨hK,h1,hl⟩;refine wpS_mono (Iz hL hk T hK hl) λr dg hr=>?_;obtain⟨k1,k2⟩:=hr;cases r with
  | done c=>exact⟨k1,k2⟩
  | yield c=>exact⟨k1,k2⟩
 case ipost =>
  rintro r aC ⟨hK,h⟩;exact IA hL hk T hK h
theorem u0{st:SortSt}{Q:Array Keyed->SortSt->Prop}(hL:fI M Ar E s ρ kd P)(hk:kindOf st=kd)(T:u9 ρ P a b)
  (q:∀r aC,Kp st aC->Good ρ (a.toList++b.toList) r.toList->Q r aC):wpS M Ar E s (m8 a b) Q st:=by
 rw[qx];refine wpS_bind (wpS_lift (wpAny_rule ⟨rfl,?_⟩));obtain⟨x,ex,px⟩:=dh T.pb (show 0<b.size from T.b1)
 refine wpS_bind (bg ex ?_);have j0:V ρ (a.toList++b.toList) a b #[] 0 0:=⟨List.Pairwise.nil,by simpa using T.sa,by simpa using T.sb,(λx hx=>by cases hx),(λx hx=>by cases hx),by simp⟩
 have j1:V ρ (a.toList++b.toList) a b #[x] 0 1:=by simpa using j0.pv ex λy hy=>T.y y (by simpa using hy) x ex
 by_cases e:1=b.size
 ·rw[if_pos (by simpa using e)]
  exact wpS_pure (q _ st .refl (j1.gP e))
 ·rw[if_neg (by simpa using e)]
  by_cases e2:0+1=a.size
  ·rw[if_pos (by simpa using e2)]
   exact wpS_pure (q _ st .refl (j1.xu e2 T.z))
  ·rw[if_neg (by simpa using e2)]
   have b1:=T.b1;have a1:=T.a1;refine wpS_bind (wpS_get ?_);refine wpS_bind (wpS_mono (wpS_forRange (I:=λx c aC=>Kp st aC/\c.1=none/\Left ρ (a.toList++b.toList) a b (x+1) c.2.1 c.2.2.1 c.2.2.2.1)
    (Q:=λc aC=>Kp st aC/\∃arr,c.1=some arr/\Good ρ (a.toList++b.toList) arr.toList) ?step ?fin ⟨.refl,rfl,j1,by show 0+1<a.size;omega,by show 1<b.size;omega,by show 0+1<=0+1;omega⟩) ?post)
   case fin =>
    rintro⟨ret,out,ia,ib,g⟩ aC ⟨hK,h1,j,h2,h3,h4⟩;dsimp only at h2 h3 h4;omega
   case post =>
    rintro⟨ret,r⟩ aC ⟨hK,arr,h1,h2⟩;dsimp only at h1;subst h1;exact wpS_pure (q arr aC hK h2)
   case step =>
    rintro n c aC _ hn ⟨hK,h1,hl⟩;refine wpS_mono (IB hL hk T ⋯ hK hl) λr dg hr=>?_
    cases r with
    | done c=>exact hr
    | yield c=>exact hr
end
end Vs
namespace Vs
open PySem PyProof.Rows
structure H(ρ:Keyed->Nat)(L O A B:List Keyed):Prop where
 o:So ρ O
 a:So ρ A
 b:So ρ B
 oa:∀x∈A,∀y∈O,ρ x<=ρ y
 ob:∀x∈B,∀y∈O,ρ x<=ρ y
 p:(A++(B++O)).Perm L
section
variable {ρ:Keyed->Nat}{L O A B X:List Keyed}{x z:Keyed}
theorem H.i7(j:H ρ L O A (B++X))(h:∀x∈X,∀y∈A,ρ y<=ρ x):H ρ L (X++O) A B:=by
 obtain⟨a1,a2,a3⟩:=List.pairwise_append.mp j.b;refine⟨So.app a2 j.o λx hx y hy=>j.ob x (List.mem_append_right _ hx) y hy,j.a,a1,λx hx y hy=>?_,λx hx y hy=>?_,?_⟩
 ·rcases List.mem_append.mp hy with hy|hy
  ·exact h y hy x hx
  ·exact j.oa x hx y hy
 ·rcases List.mem_append.mp hy with hy|hy
  ·exact a3 x hx y hy
  ·exact j.ob x (List.mem_append_left _ hx) y hy
 ·have:=j.p
  simpa [List.append_assoc]using this
theorem H.i6(j:H ρ L O (A++X) B)(h:∀x∈X,∀y∈B,ρ y<=ρ x):H ρ L (X++O) A B:=by
 obtain⟨a1,a2,a3⟩:=List.pairwise_append.mp j.a;refine⟨So.app a2 j.o λx hx y hy=>j.oa x (List.mem_append_right _ hx) y hy,a1,j.b,λx hx y hy=>?_,λx hx y hy=>?_,?_⟩
 ·rcases List.mem_append.mp hy with hy|hy
  ·exact a3 x hx y hy
  ·exact j.oa x (List.mem_append_left _ hx) y hy
 ·rcases List.mem_append.mp hy with hy|hy
  ·exact h y hy x hx
  ·exact j.ob x hx y hy
 ·refine List.Perm.trans ?_ j.p
  rw[List.append_assoc];refine List.Perm.append_left A ?_;rw[<- List.append_assoc,<- List.append_assoc];exact List.Perm.append_right O List.perm_append_comm
theorem H.gP(j:H ρ L O A []):Good ρ L (A++O):=⟨So.app j.a j.o j.oa,by simpa using j.p⟩
theorem H.gO(j:H ρ L O [] B):Good ρ L (B++O):=⟨So.app j.b j.o j.ob,by simpa using j.p⟩
theorem H.first(j:H ρ L O A [z])(h:∀y∈A,ρ z<=ρ y):Good ρ L ([z]++A++O):=by
 refine⟨So.app (So.app (List.pairwise_singleton ..) j.a λx hx y hy=>by rw[List.mem_singleton.mp hx];exact h y hy) j.o λx hx y hy=>?_,?_⟩
 ·rcases List.mem_append.mp hx with hx|hx
  ·exact j.ob x hx y hy
  ·exact j.oa x hx y hy
 ·refine List.Perm.trans ?_ j.p
  rw[<- List.append_assoc];exact List.Perm.append_right O List.perm_append_comm
end
theorem jT{a:Array Keyed}{n:Nat}{x:Keyed}(h1:1<=n)(h:a[n-1]?=some x):a.toList.take n=a.toList.take (n-1)++[x]:=by
 obtain⟨m,rfl⟩:∃m,n=m+1:=⟨n-1,by omega⟩
 rw[Nat.add_sub_cancel]at h ⊢;rw[List.take_add_one];have:a.toList[m]?=some x:=by simpa using h
 rw[this];rfl
theorem kT(a:Array Keyed)(n:Nat):(a.extract 0 n).toList=a.toList.take n:=by
 rw[Array.toList_extract];rfl
theorem mq(a:Array Keyed)(i n:Nat):(a.extract i n).toList=(a.toList.take n).drop i:=by
 rw[Array.toList_extract];show(a.toList.drop i).take (n-i)=_;rw[List.drop_take]
theorem uM(a:Array Keyed){i n:Nat}(h:i<=n):a.toList.take n=a.toList.take i++(a.toList.take n).drop i:=by
 have:=(List.take_append_drop i (a.toList.take n)).symm
 rwa [List.take_take,Nat.min_eq_left h]at this
theorem E3{a:Array Keyed}{n:Nat}{x:Keyed}(h:x∈a.toList.take n):∃m,m<n/\m<a.size/\a[m]?=some x:=by
 obtain⟨m,hm,e⟩:=List.mem_iff_getElem.mp h;rw[List.length_take]at hm;rw[List.getElem_take]at e;have hs:m<a.size:=by have:a.toList.length=a.size:=rfl;omega
 exact⟨m,by omega,hs,by rw[Array.getElem?_eq_getElem hs];exact congrArg some (by simpa using e)⟩
theorem f7{a:Array Keyed}{i n:Nat}{x:Keyed}(h:x∈(a.toList.take n).drop i):∃m,i<=m/\m<n/\m<a.size/\a[m]?=some x:=by
 obtain⟨m,hm,e⟩:=List.mem_iff_getElem.mp h;rw[List.length_drop,List.length_take]at hm;rw[List.getElem_drop,List.getElem_take]at e;have hs:i+m<a.size:=by have:a.toList.length=a.size:=rfl;omega
 exact⟨i+m,by omega,by omega,hs,by rw[Array.getElem?_eq_getElem hs];exact congrArg some (by simpa using e)⟩
section
variable {M:Model}{Ar:Around}{E:Value->Shared->Prop}{s:Shared}{ρ:Keyed->Nat}{kd:SortKind}{P:Keyed->Prop}{a b out:Array Keyed}{L:List Keyed}{na nb:Nat}
theorem Fg{key:Keyed}{arr:Array Keyed}{n:Nat}{st:SortSt}{Q:Option Nat->SortSt->Prop}(hL:fI M Ar E s ρ kd P)(hk:kindOf st=kd)(pk:P key)(pa:∀x∈arr.toList,P x)(hs:So ρ arr.toList)(hn:n<=arr.size)(h1:1<=n)
  (q:∀k,k<=n->(∀x∈arr.toList.take k,ρ x<=ρ key)->(∀x∈(arr.toList.take n).drop k,ρ key<ρ x)->Q (some k) st):wpS M Ar E s (cA false key arr 0 n (n-1)) Q st:=by
 refine dq (tells hL hk pk λi hi=>dh pa ⋯) (λi j qp hj h=>?_) ⋯ λk nQ h1 h2=>q k ⋯ (λx hx=>?_) λx hx=>?_
 ·have:=hs.seg (0+i) (0+j) (Nat.zero_le _) ⋯ ⋯
  simp only[oH,Bool.false_eq_true,if_false,Bool.not_eq_true',decide_eq_false_iff_not]at h ⊢;omega
 ·obtain⟨m,hm,iW,e⟩:=E3 hx
  have:=h1 m hm;simp only[oH,Bool.false_eq_true,if_false,Bool.not_eq_true',decide_eq_false_iff_not,Nat.zero_add,cV e]at this;omega
 ·obtain⟨m,hm,iW,hm3,e⟩:=f7 hx
  have:=h2 m hm iW;simp only[oH,Bool.false_eq_true,if_false,Nat.zero_add,cV e,Bool.not_eq_false',decide_eq_true_eq]at this;exact this
theorem Ff{key:Keyed}{arr:Array Keyed}{n:Nat}{st:SortSt}{Q:Option Nat->SortSt->Prop}(hL:fI M Ar E s ρ kd P)(hk:kindOf st=kd)(pk:P key)(pa:∀x∈arr.toList,P x)(hs:So ρ arr.toList)(hn:n<=arr.size)(h1:1<=n)
  (q:∀k,k<=n->(∀x∈arr.toList.take k,ρ x<ρ key)->(∀x∈(arr.toList.take n).drop k,ρ key<=ρ x)->Q (some k) st):wpS M Ar E s (cA true key arr 0 n (n-1)) Q st:=by
 refine dq (tells hL hk pk λi hi=>dh pa ⋯) (λi j qp hj h=>?_) ⋯ λk nQ h1 h2=>q k ⋯ (λx hx=>?_) λx hx=>?_
 ·have:=hs.seg (0+i) (0+j) (Nat.zero_le _) ⋯ ⋯
  simp only[oH,if_true,decide_eq_true_eq]at h ⊢;omega
 ·obtain⟨m,hm,iW,e⟩:=E3 hx
  have:=h1 m hm;simp only[oH,if_true,decide_eq_true_eq,Nat.zero_add,cV e]at this;omega
 ·obtain⟨m,hm,iW,hm3,e⟩:=f7 hx
  have:=h2 m hm iW;simp only[oH,if_true,Nat.zero_add,cV e,decide_eq_false_iff_not]at this;omega
abbrev HS:=Option (Array Keyed)×Nat×Nat×Array Keyed×Nat×Nat×Nat
def Gw(a b out:Array Keyed)(na nb g k k1:Nat):StateT SortSt Sem (ForInStep HS):=do
 let y <- elem' a (na-1)
 if(na-1==0)=true then pure (ForInStep.done (some (a.extract 0 (na-1)++b.extract 0 nb++(out.push y).reverse),na-1,nb,out.push y,g,k,k1))
 else if(decide (k<7)&&decide (k1<7))=true then pure (ForInStep.done (none,na-1,nb,out.push y,g,k,k1))
 else pure (ForInStep.yield (none,na-1,nb,out.push y,g,k,k1))
def Gv(a b out:Array Keyed)(na nb g k bc:Nat):StateT SortSt Sem (ForInStep HS):=do
 let x <- elem' b (nb-1)
 if(nb-1==1)=true then pure (ForInStep.done (some (b.extract 0 (nb-1)++a.extract 0 na++(out.push x).reverse),na,nb-1,out.push x,g,k,bc))
 else do
  let y <- elem' a (na-1)
  let r <- cA true y b 0 (nb-1) (nb-1-1)
  match r with
  | some at2 =>
   if nb-1-at2>0 then
    if(at2==1)=true then pure (ForInStep.done (some (b.extract 0 at2++a.extract 0 na++(out.push x++(b.extract at2 (nb-1)).reverse).reverse),na,at2,out.push x++(b.extract at2 (nb-1)).reverse,g,k,nb-1-at2))
    else if(at2==0)=true then pure (ForInStep.done (some (a.extract 0 na++b.extract 0 at2++(out.push x++(b.extract at2 (nb-1)).reverse).reverse),na,at2,out.push x++(b.extract at2 (nb-1)).reverse,g,k,nb-1-at2))
    else Gw a b (out.push x++(b.extract at2 (nb-1)).reverse) na at2 g k (nb-1-at2)
   else Gw a b (out.push x) na (nb-1) g k (nb-1-at2)
  | _=>pure (ForInStep.done (some (a.extract 0 na++b.extract 0 (nb-1)++(out.push x).reverse),na,nb-1,out.push x,g,k,bc))
def Cb(a b out:Array Keyed)(na nb g ac bc:Nat):StateT SortSt Sem (ForInStep HS):=do
 let x <- elem' b (nb-1)
 let r <- cA false x a 0 na (na-1)
 match r with
 | some Ap =>
  if na-Ap>0 then
   if(Ap==0)=true then pure (ForInStep.done (some (a.extract 0 Ap++b.extract 0 nb++(out++(a.extract Ap na).reverse).reverse),Ap,nb,out++(a.extract Ap na).reverse,g,na-Ap,bc))
   else Gv a b (out++(a.extract Ap na).reverse) Ap nb g (na-Ap) bc
  else Gv a b out na nb g (na-Ap) bc
 | _=>pure (ForInStep.done (some (a.extract 0 na++b.extract 0 nb++out.reverse),na,nb,out,g,ac,bc))
def W(ρ:Keyed->Nat)(L:List Keyed)(a b out:Array Keyed)(na nb:Nat):Prop:=H ρ L out.toList.reverse (a.toList.take na) (b.toList.take nb)
theorem W.qf(j:W ρ L a b out na nb)(e:nb=1)(hb:1<=b.size)(hz:∀y∈a.toList,∀z,b[0]?=some z->ρ z<=ρ y):Good ρ L (b.extract 0 nb++a.extract 0 na++out.reverse).toList:=by
 subst e;have eb:b[0]?=some b[0]:=Array.getElem?_eq_getElem hb;have e1:b.toList.take 1=[b[0]]:=by rw[jT (Nat.le_refl 1) eb];rfl
 have j':H ρ L out.toList.reverse (a.toList.take na) (b.toList.take 1):=j;rw[e1]at j';rw[Array.toList_append,Array.toList_append,kT,kT,e1,Array.toList_reverse];exact j'.first λy hy=>hz y (List.mem_of_mem_take hy) _ eb
theorem W.gO(j:W ρ L a b out na nb)(e:na=0):Good ρ L (a.extract 0 na++b.extract 0 nb++out.reverse).toList:=by
 subst e;have j':H ρ L out.toList.reverse [] (b.toList.take nb):=j;rw[Array.toList_append,Array.toList_append,kT,kT,Array.toList_reverse];exact j'.gO
theorem W.gP(j:W ρ L a b out na nb)(e:nb=0):Good ρ L (a.extract 0 na++b.extract 0 nb++out.reverse).toList:=by
 subst e;have j':H ρ L out.toList.reverse (a.toList.take na) []:=j;rw[Array.toList_append,Array.toList_append,kT,kT,Array.toList_reverse,List.take_zero,List.append_nil];exact j'.gP
theorem W.pq{x:Keyed}(j:W ρ L a b out na nb)(h1:1<=na)(e:a[na-1]?=some x)(h:∀y∈b.toList.take nb,ρ y<=ρ x):W ρ L a b (out.push x) (na-1) nb:=by
 have j':H ρ L out.toList.reverse (a.toList.take na) (b.toList.take nb):=j;rw[jT h1 e]at j';show H ρ L (out.push x).toList.reverse _ _;rw[Array.toList_push,List.reverse_append];exact H.i6 (X:=[x]) j' λz hz y hy=>by rw[List.mem_singleton.mp hz];exact h y hy
theorem W.pv{x:Keyed}(j:W ρ L a b out na nb)(h1:1<=nb)(e:b[nb-1]?=some x)(h:∀y∈a.toList.take na,ρ y<=ρ x):W ρ L a b (out.push x) na (nb-1):=by
 have j':H ρ L out.toList.reverse (a.toList.take na) (b.toList.take nb):=j;rw[jT h1 e]at j';show H ρ L (out.push x).toList.reverse _ _;rw[Array.toList_push,List.reverse_append];exact H.i7 (X:=[x]) j' λz hz y hy=>by rw[List.mem_singleton.mp hz];exact h y hy
theorem W.i6{k:Nat}(j:W ρ L a b out na nb)(hk:k<=na)(h:∀x∈(a.toList.take na).drop k,∀y∈b.toList.take nb,ρ y<=ρ x):W ρ L a b (out++(a.extract k na).reverse) k nb:=by
 have j':H ρ L out.toList.reverse (a.toList.take na) (b.toList.take nb):=j;rw[uM a hk]at j';show H ρ L (out++(a.extract k na).reverse).toList.reverse _ _;rw[Array.toList_append,List.reverse_append,Array.toList_reverse,List.reverse_reverse,mq];exact H.i6 j' h
theorem W.i7{k:Nat}(j:W ρ L a b out na nb)(hk:k<=nb)(h:∀x∈(b.toList.take nb).drop k,∀y∈a.toList.take na,ρ y<=ρ x):W ρ L a b (out++(b.extract k nb).reverse) na k:=by
 have j':H ρ L out.toList.reverse (a.toList.take na) (b.toList.take nb):=j;rw[uM b hk]at j';show H ρ L (out++(b.extract k nb).reverse).toList.reverse _ _;rw[Array.toList_append,List.reverse_append,Array.toList_reverse,List.reverse_reverse,mq];exact H.i7 j' h
theorem W.Ve{x:Keyed}(j:W ρ L a b out na nb)(h1:1<=na)(e:a[na-1]?=some x):∀y∈a.toList.take na,ρ y<=ρ x:=λy hy=>by
 have:=j.a;rw[jT h1 e]at this hy;rcases List.mem_append.mp hy with hy|hy
 ·exact(List.pairwise_append.mp this).2.2 y hy x (List.mem_singleton.mpr rfl)
 ·rw[List.mem_singleton.mp hy];exact Nat.le_refl _
theorem W.Vf{x:Keyed}(j:W ρ L a b out na nb)(h1:1<=nb)(e:b[nb-1]?=some x):∀y∈b.toList.take nb,ρ y<=ρ x:=λy hy=>by
 have:=j.b;rw[jT h1 e]at this hy;rcases List.mem_append.mp hy with hy|hy
 ·exact(List.pairwise_append.mp this).2.2 y hy x (List.mem_singleton.mpr rfl)
 ·rw[List.mem_singleton.mp hy];exact Nat.le_refl _
def du(ρ:Keyed->Nat)(L:List Keyed)(a b:Array Keyed)(t:Nat)(out:Array Keyed)(na nb:Nat):Prop:=W ρ L a b out na nb/\1<=na/\2<=nb/\na<=a.size/\nb<=b.size/\na+nb+t<=a.size+b.size
def PH(ρ:Keyed->Nat)(L:List Keyed)(a b:Array Keyed)(t:Nat)(cq:SortSt)(r:ForInStep HS)(st:SortSt):Prop:=Kp cq st/\match r with
 | .done c=>(∃arr,c.1=some arr/\Good ρ L arr.toList)\/(c.1=none/\du ρ L a b t c.2.2.2.1 c.2.1 c.2.2.1)
 | .yield c=>c.1=none/\du ρ L a b t c.2.2.2.1 c.2.1 c.2.2.1
theorem uV{st cq:SortSt}{g k k1 t:Nat}(T:u9 ρ P a b)(hK:Kp cq st)(j:W ρ L a b out na nb)(h1:1<=na)(h2:2<=nb)(h3:na<=a.size)(h4:nb<=b.size)(ht:na+nb+t<=a.size+b.size)
  (h:∀x,a[na-1]?=some x->∀y∈b.toList.take nb,ρ y<=ρ x):wpS M Ar E s (Gw a b out na nb g k k1) (PH ρ L a b t cq) st:=by
 unfold Gw;obtain⟨y,ey,py⟩:=dh T.pa (show na-1<a.size by omega)
 refine wpS_bind (bg ey ?_);have j':=j.pq h1 ey (h y ey)
 by_cases e:na-1=0
 ·rw[if_pos (by simpa using e)]
  exact wpS_pure ⟨hK,.inl ⟨_,rfl,j'.gO e⟩⟩
 ·rw[if_neg (by simpa using e)]
  have lf:du ρ L a b t (out.push y) (na-1) nb:=⟨j',by omega,h2,by omega,h4,by omega⟩
  split
  ·exact wpS_pure ⟨hK,.inr ⟨rfl,lf⟩⟩
  ·exact wpS_pure ⟨hK,rfl,lf⟩
theorem uU{st cq:SortSt}{g k bc t:Nat}(hL:fI M Ar E s ρ kd P)(hk:kindOf cq=kd)(T:u9 ρ P a b)(hK:Kp cq st)(j:W ρ L a b out na nb)(h1:1<=na)(h2:2<=nb)(h3:na<=a.size)(h4:nb<=b.size)(ht:na+nb+t<=a.size+b.size)
  (h:∀x,b[nb-1]?=some x->∀y∈a.toList.take na,ρ y<=ρ x):wpS M Ar E s (Gv a b out na nb g k bc) (PH ρ L a b t cq) st:=by
 unfold Gv;obtain⟨x,ex,px⟩:=dh T.pb (show nb-1<b.size by omega)
 obtain⟨y,ey,py⟩:=dh T.pa (show na-1<a.size by omega)
 refine wpS_bind (bg ex ?_);have j':=j.pv ⋯ ex (h x ex)
 by_cases e:nb-1=1
 ·rw[if_pos (by simpa using e)]
  exact wpS_pure ⟨hK,.inl ⟨_,rfl,j'.qf e T.b1 T.y⟩⟩
 ·rw[if_neg (by simpa using e)]
  refine wpS_bind (bg ey ?_);refine wpS_bind (Ff hL (hK.k.trans hk) py T.pb T.sb ⋯ ⋯ λk1 nQ q1 q2=>?_)
  dsimp only;have j2:=j'.i7 nQ λx hx z hz=>Nat.le_trans (j'.Ve h1 ey z hz) (q2 x hx)
  by_cases xg:nb-1-k1>0
  ·rw[if_pos xg]
   by_cases e2:k1=1
   ·rw[if_pos (by simpa using e2)]
    exact wpS_pure ⟨hK,.inl ⟨_,rfl,j2.qf e2 T.b1 T.y⟩⟩
   ·rw[if_neg (by simpa using e2)]
    by_cases e3:k1=0
    ·rw[if_pos (by simpa using e3)]
     exact wpS_pure ⟨hK,.inl ⟨_,rfl,j2.gP e3⟩⟩
    ·rw[if_neg (by simpa using e3)]
     exact uV T hK j2 h1 ⋯ h3 ⋯ ⋯ λx' fM z hz=>by rw[ey]at fM;cases fM;exact Nat.le_of_lt (q1 z hz)
  ·rw[if_neg xg]
   have:k1=nb-1:=by omega
   subst this;exact uV T hK j' h1 ⋯ h3 ⋯ ⋯ λx' fM z hz=>by rw[ey]at fM;cases fM;exact Nat.le_of_lt (q1 z hz)
theorem Fc{st cq:SortSt}{g ac bc t:Nat}(hL:fI M Ar E s ρ kd P)(hk:kindOf cq=kd)(T:u9 ρ P a b)(hK:Kp cq st)(j:du ρ L a b t out na nb):wpS M Ar E s (Cb a b out na nb g ac bc) (PH ρ L a b t cq) st:=by
 obtain⟨j,h1,h2,h3,h4,ht⟩:=j;unfold Cb;obtain⟨x,ex,px⟩:=dh T.pb (show nb-1<b.size by omega)
 refine wpS_bind (bg ex ?_);refine wpS_bind (Fg hL (hK.k.trans hk) px T.pa T.sa h3 h1 λk nQ q1 q2=>?_);dsimp only;have j2:=j.i6 nQ λz hz y hy=>Nat.le_trans (j.Vf ⋯ ex y hy) (Nat.le_of_lt (q2 z hz))
 by_cases xg:na-k>0
 ·rw[if_pos xg]
  by_cases e:k=0
  ·rw[if_pos (by simpa using e)]
   exact wpS_pure ⟨hK,.inl ⟨_,rfl,j2.gO e⟩⟩
  ·rw[if_neg (by simpa using e)]
   exact uU hL hk T hK j2 ⋯ h2 ⋯ h4 ⋯ λx' fM z hz=>by rw[ex]at fM;cases fM;exact q1 z hz
 ·rw[if_neg xg]
  have:k=na:=by omega
  subst this;exact uU hL hk T hK j h1 h2 h3 h4 ht λx' fM z hz=>by rw[ex]at fM;cases fM;exact q1 z hz
abbrev HI:=Option (Array Keyed)×Nat×Nat×Array Keyed×Nat×Nat
abbrev HQ:=Option (Array Keyed)×Nat×Nat×Array Keyed×Nat
def ZZ(a b:Array Keyed)(g:Nat)(c:HI):StateT SortSt Sem (ForInStep HI):=do
 let x <- elem' b (c.2.2.1-1)
 let y <- elem' a (c.2.1-1)
 let r <- lt' x y
 match r with
 | some w =>
  if w=true then do
   let y <- elem' a (c.2.1-1)
   if(c.2.1-1==0)=true then pure (ForInStep.done (some (a.extract 0 (c.2.1-1)++b.extract 0 c.2.2.1++(c.2.2.2.1.push y).reverse),c.2.1-1,c.2.2.1,c.2.2.2.1.push y,c.2.2.2.2.1+1,0))
   else if c.2.2.2.2.1+1>=g then pure (ForInStep.done (none,c.2.1-1,c.2.2.1,c.2.2.2.1.push y,c.2.2.2.2.1+1,0))
   else pure (ForInStep.yield (none,c.2.1-1,c.2.2.1,c.2.2.2.1.push y,c.2.2.2.2.1+1,0))
  else do
   let x <- elem' b (c.2.2.1-1)
   if(c.2.2.1-1==1)=true then pure (ForInStep.done (some (b.extract 0 (c.2.2.1-1)++a.extract 0 c.2.1++(c.2.2.2.1.push x).reverse),c.2.1,c.2.2.1-1,c.2.2.2.1.push x,0,c.2.2.2.2.2+1))
   else if c.2.2.2.2.2+1>=g then pure (ForInStep.done (none,c.2.1,c.2.2.1-1,c.2.2.2.1.push x,0,c.2.2.2.2.2+1))
   else pure (ForInStep.yield (none,c.2.1,c.2.2.1-1,c.2.2.2.1.push x,0,c.2.2.2.2.2+1))
 | _=>pure (ForInStep.done (some (a.extract 0 c.2.1++b.extract 0 c.2.2.1++c.2.2.2.1.reverse),c.2.1,c.2.2.1,c.2.2.2.1,c.2.2.2.2.1,c.2.2.2.2.2))
def hiG(a b:Array Keyed)(c:HS):StateT SortSt Sem (ForInStep HS):=
 if c.2.2.2.2.1>1 then do
  eK (c.2.2.2.2.1-1)
  Cb a b c.2.2.2.1 c.2.1 c.2.2.1 (c.2.2.2.2.1-1) c.2.2.2.2.2.1 c.2.2.2.2.2.2
 else do
  eK c.2.2.2.2.1
  Cb a b c.2.2.2.1 c.2.1 c.2.2.1 c.2.2.2.2.1 c.2.2.2.2.2.1 c.2.2.2.2.2.2
def hiE(r:HS):StateT SortSt Sem (ForInStep HQ):=
 match r.1 with
 | some arr=>pure (ForInStep.done (some arr,r.2.1,r.2.2.1,r.2.2.2.1,r.2.2.2.2.1))
 | none=>do
  eK (r.2.2.2.2.1+1)
  pure (ForInStep.yield (none,r.2.1,r.2.2.1,r.2.2.2.1,r.2.2.2.2.1+1))
def Z0(a b:Array Keyed)(g:Nat)(r:HI):StateT SortSt Sem (ForInStep HQ):=
 match r.1 with
 | some arr=>pure (ForInStep.done (some arr,r.2.1,r.2.2.1,r.2.2.2.1,g))
 | none=>do
  liftM (rule "list.sort.gallop")
  let r2 <- forIn [0:a.size+b.size] ((none,r.2.1,r.2.2.1,r.2.2.2.1,g+1,r.2.2.2.2.1,r.2.2.2.2.2):HS) λ_ t=>hiG a b t
  hiE r2
def Z1(a b:Array Keyed)(c:HQ):StateT SortSt Sem (ForInStep HQ):=do
 let r <- forIn [0:a.size+b.size] ((none,c.2.1,c.2.2.1,c.2.2.2.1,0,0):HI) λ_ r=>ZZ a b c.2.2.2.2 r
 Z0 a b c.2.2.2.2 r
def hiZ(r:HQ):StateT SortSt Sem (Array Keyed):=
 match r.1 with
 | some arr=>pure arr
 | none=>unsupported "internal:list.sort.merge-bound"
theorem qw(a b:Array Keyed):m7 a b=(do
 liftM (rule "list.sort.merge-hi")
 let x <- elem' a (a.size-1)
 if(a.size-1==0)=true then pure (a.extract 0 (a.size-1)++b.extract 0 b.size++(#[x]:Array Keyed).reverse)
 else if(b.size==1)=true then pure (b.extract 0 b.size++a.extract 0 (a.size-1)++(#[x]:Array Keyed).reverse)
 else do
  let st <- get
  let r <- forIn [0:a.size+b.size] ((none,a.size-1,b.size,#[x],gallopOf st):HQ) λ_ r=>Z1 a b r
  hiZ r):=by kernel_rfl
theorem Iu{cq st:SortSt}{g n m:Nat}{c:HI}(hL:fI M Ar E s ρ kd P)(hk:kindOf cq=kd)(T:u9 ρ P a b)(hK:Kp cq st)(j:du ρ L a b (n+1+min m 1) c.2.2.2.1 c.2.1 c.2.2.1):
  wpS M Ar E s (ZZ a b g c) (λr aC=>Kp cq aC/\match r with
   | .done c=>(∃arr,c.1=some arr/\Good ρ L arr.toList)\/(c.1=none/\du ρ L a b (n+1+1) c.2.2.2.1 c.2.1 c.2.2.1)
   | .yield c=>c.1=none/\du ρ L a b (n+1+min (m+1) 1) c.2.2.2.1 c.2.1 c.2.2.1) st:=by
 obtain⟨ret,na,nb,out,ac,bc⟩:=c;obtain⟨j,l1,l2,l3,l4,l5⟩:=j;dsimp only at j l1 l2 l3 l4 l5;unfold ZZ;dsimp only;obtain⟨x,ex,px⟩:=dh T.pb (show nb-1<b.size by omega)
 obtain⟨y,ey,py⟩:=dh T.pa (show na-1<a.size by omega)
 refine wpS_bind (bg ex (wpS_bind (bg ey (wpS_bind (hL x y st _ px py (hK.k.trans hk) ?_)))))
 by_cases gK:ρ x<ρ y
 ·rw[decide_eq_true gK]
  refine wpS_bind (bg ey ?_);have j':=j.pq l1 ey λz hz=>Nat.le_trans (j.Vf ⋯ ex z hz) (Nat.le_of_lt gK)
  by_cases e:na-1=0
  ·rw[if_pos (by simpa using e)]
   exact wpS_pure ⟨hK,.inl ⟨_,rfl,j'.gO e⟩⟩
  ·rw[if_neg (by simpa using e)]
   split
   ·exact wpS_pure ⟨hK,.inr ⟨rfl,j',by show 1<=na-1;omega,l2,by show na-1<=a.size;omega,l4,by show na-1+nb+(n+1+1)<=_;omega⟩⟩
   ·exact wpS_pure ⟨hK,rfl,j',by show 1<=na-1;omega,l2,by show na-1<=a.size;omega,l4,by show na-1+nb+(n+1+min (m+1) 1)<=_;omega⟩
 ·rw[decide_eq_false gK]
  refine wpS_bind (bg ex ?_);have j':=j.pv ⋯ ex λz hz=>Nat.le_trans (j.Ve l1 ey z hz) (Nat.not_lt.mp gK)
  by_cases e:nb-1=1
  ·rw[if_pos (by simpa using e)]
   exact wpS_pure ⟨hK,.inl ⟨_,rfl,j'.qf e T.b1 T.y⟩⟩
  ·rw[if_neg (by simpa using e)]
   split
   ·exact wpS_pure ⟨hK,.inr ⟨rfl,j',l1,by show 2<=nb-1;omega,l3,by show nb-1<=b.size;omega,by show na+(nb-1)+(n+1+1)<=_;omega⟩⟩
   ·exact wpS_pure ⟨hK,rfl,j',l1,by show 2<=nb-1;omega,l3,by show nb-1<=b.size;omega,by show na+(nb-1)+(n+1+min (m+1) 1)<=_;omega⟩
def PGH(ρ:Keyed->Nat)(L:List Keyed)(a b:Array Keyed)(t:Nat)(cq:SortSt)(r:ForInStep HQ)(st:SortSt):Prop:=match r with
 | .done c=>Kp cq st/\∃arr,c.1=some arr/\Good ρ L arr.toList
 | .yield c=>Kp cq st/\c.1=none/\du ρ L a b t c.2.2.2.1 c.2.1 c.2.2.1
theorem Iv{cq st:SortSt}{g n:Nat}{r:HI}(hL:fI M Ar E s ρ kd P)(hk:kindOf cq=kd)(T:u9 ρ P a b)(hK:Kp cq st)
  (h:(∃arr,r.1=some arr/\Good ρ L arr.toList)\/(r.1=none/\du ρ L a b (n+1+1) r.2.2.2.1 r.2.1 r.2.2.1)):wpS M Ar E s (Z0 a b g r) (PGH ρ L a b (n+1+1) cq) st:=by
 obtain⟨ret,r⟩:=r;unfold Z0;rcases h with⟨arr,h1,h2⟩|⟨h1,hl⟩
 ·dsimp only at h1
  subst h1;exact wpS_pure ⟨hK,arr,rfl,h2⟩
 ·dsimp only at h1 hl
  subst h1;refine wpS_bind (wpS_lift (wpAny_rule ⟨rfl,?_⟩));refine wpS_bind (wpS_mono (wpS_forRange (I:=λx c aC=>Kp cq aC/\c.1=none/\du ρ L a b (n+1+1) c.2.2.2.1 c.2.1 c.2.2.1)
   (Q:=λc aC=>Kp cq aC/\((∃arr,c.1=some arr/\Good ρ L arr.toList)\/(c.1=none/\du ρ L a b (n+1+1) c.2.2.2.1 c.2.1 c.2.2.1))) ?gstep ?gfin ⟨hK,rfl,hl⟩) ?gpost)
  case gfin =>
   rintro c aC ⟨hK,h1,hl⟩;exact⟨hK,.inr ⟨h1,hl⟩⟩
  case gstep =>
   rintro m c aC _ hm ⟨hK,h1,hl⟩;have go:∀g,wpS M Ar E s (do eK g;Cb a b c.2.2.2.1 c.2.1 c.2.2.1 g c.2.2.2.2.2.1 c.2.2.2.2.2.2) (λr dg=>match r with
     | .done c=>Kp cq dg/\((∃arr,c.1=some arr/\Good ρ L arr.toList)\/(c.1=none/\du ρ L a b (n+1+1) c.2.2.2.1 c.2.1 c.2.2.1))
     | .yield c=>Kp cq dg/\c.1=none/\du ρ L a b (n+1+1) c.2.2.2.1 c.2.1 c.2.2.1) aC:=λg=>by
    rw[ei];refine wpS_bind (wpS_modify (wpS_mono (Fc hL hk T (hK.min g) hl) λr dg hr=>?_));obtain⟨k1,k2⟩:=hr;cases r with
    | done c=>exact⟨k1,k2⟩
    | yield c=>exact⟨k1,k2⟩
   unfold hiG
   split
   ·refine wpS_mono (go _) λr dg hr=>?_
    cases r<;>exact hr
   ·refine wpS_mono (go _) λr dg hr=>?_
    cases r<;>exact hr
  case gpost =>
   rintro⟨ret,r⟩ aC ⟨hK,⟨arr,h1,h2⟩|⟨h1,hl⟩⟩
   ·dsimp only at h1
    subst h1;exact wpS_pure ⟨hK,arr,rfl,h2⟩
   ·dsimp only at h1 hl
    subst h1;unfold hiE;rw[ei];exact wpS_bind (wpS_modify (wpS_pure ⟨hK.min _,rfl,hl⟩))
theorem Iw{cq st:SortSt}{n:Nat}{c:HQ}(hL:fI M Ar E s ρ kd P)(hk:kindOf cq=kd)(T:u9 ρ P a b)(hn:0<a.size+b.size)(hK:Kp cq st)(hl:du ρ L a b (n+1) c.2.2.2.1 c.2.1 c.2.2.1):wpS M Ar E s (Z1 a b c) (PGH ρ L a b (n+1+1) cq) st:=by
 unfold Z1;refine wpS_bind (wpS_mono (wpS_forRange (I:=λx c aC=>Kp cq aC/\c.1=none/\du ρ L a b (n+1+min x 1) c.2.2.2.1 c.2.1 c.2.2.1)
  (Q:=λc aC=>Kp cq aC/\((∃arr,c.1=some arr/\Good ρ L arr.toList)\/(c.1=none/\du ρ L a b (n+1+1) c.2.2.2.1 c.2.1 c.2.2.1))) ?istep ?ifin ⟨hK,rfl,by simpa using hl⟩) ?ipost)
 case ifin =>
  rintro c aC ⟨hK,h1,hl⟩;rw[show min (max 0 (a.size+b.size)) 1=1 by omega]at hl
  exact⟨hK,.inr ⟨h1,hl⟩⟩
 case istep =>
  rintro m c aC _ hm ⟨hK,h1,hl⟩;refine wpS_mono (Iu hL hk T hK hl) λr dg hr=>?_;obtain⟨k1,k2⟩:=hr;cases r with
  | done c=>exact⟨k1,k2⟩
  | yield c=>exact⟨k1,k2⟩
 case ipost =>
  rintro r aC ⟨hK,h⟩;exact Iv hL hk T hK h
theorem uZ{st:SortSt}{Q:Array Keyed->SortSt->Prop}(hL:fI M Ar E s ρ kd P)(hk:kindOf st=kd)(T:u9 ρ P a b)
  (q:∀r aC,Kp st aC->Good ρ (a.toList++b.toList) r.toList->Q r aC):wpS M Ar E s (m7 a b) Q st:=by
 rw[qw];have b1:=T.b1;have a1:=T.a1;refine wpS_bind (wpS_lift (wpAny_rule ⟨rfl,?_⟩));obtain⟨x,ex,px⟩:=dh T.pa (show a.size-1<a.size by omega)
 refine wpS_bind (bg ex ?_);have j0:W ρ (a.toList++b.toList) a b #[] a.size b.size:=by
  have e1:a.toList.take a.size=a.toList:=List.take_of_length_le (Nat.le_refl _);have e2:b.toList.take b.size=b.toList:=List.take_of_length_le (Nat.le_refl _);unfold W;rw[e1,e2];exact⟨List.Pairwise.nil,T.sa,T.sb,(λx hx y hy=>by cases hy),(λx hx y hy=>by cases hy),by simp⟩
 have j1:W ρ (a.toList++b.toList) a b #[x] (a.size-1) b.size:=by simpa using j0.pq a1 ex λy hy=>T.z y (List.mem_of_mem_take hy) x ex
 by_cases e:a.size-1=0
 ·rw[if_pos (by simpa using e)]
  exact wpS_pure (q _ st .refl (by simpa using j1.gO e))
 ·rw[if_neg (by simpa using e)]
  by_cases e2:b.size=1
  ·rw[if_pos (by simpa using e2)]
   exact wpS_pure (q _ st .refl (by simpa using j1.qf e2 T.b1 T.y))
  ·rw[if_neg (by simpa using e2)]
   refine wpS_bind (wpS_get ?_);refine wpS_bind (wpS_mono (wpS_forRange (I:=λx c aC=>Kp st aC/\c.1=none/\du ρ (a.toList++b.toList) a b (x+1) c.2.2.2.1 c.2.1 c.2.2.1)
    (Q:=λc aC=>Kp st aC/\∃arr,c.1=some arr/\Good ρ (a.toList++b.toList) arr.toList) ?step ?fin ⟨.refl,rfl,j1,by show 1<=a.size-1;omega,by show 2<=b.size;omega,by show a.size-1<=a.size;omega,by show b.size<=b.size;omega,by show a.size-1+b.size+(0+1)<=_;omega⟩) ?post)
   case fin =>
    rintro⟨ret,na,nb,out,g⟩ aC ⟨hK,h1,j,h2,h3,h4,h5,h6⟩;dsimp only at h2 h3 h4 h5 h6;omega
   case post =>
    rintro⟨ret,r⟩ aC ⟨hK,arr,h1,h2⟩;dsimp only at h1;subst h1;exact wpS_pure (q arr aC hK h2)
   case step =>
    rintro n c aC _ hn ⟨hK,h1,hl⟩;refine wpS_mono (Iw hL hk T ⋯ hK hl) λr dg hr=>?_
    cases r with
    | done c=>exact hr
    | yield c=>exact hr
end
end Vs
namespace Vs
open PySem PyProof.Rows
abbrev Run:=Nat×Nat×Nat
theorem uc(i:Nat):mergeAt' i=(do
 let s <- get
 let (some (sa,na,power),some (sb,nb,_)):=((pendingOf s)[i]?,(pendingOf s)[i+1]?)|unsupported "internal:list.sort.pending"
 set (setPending s (((pendingOf s).setIfInBounds i (sa,na+nb,power)).eraseIdxIfInBounds (i+1)))
 let some k <- cA false (<- elem' (arrOf s) sb) (arrOf s) sa na 0|return false
 let (sa,na):=(sa+k,na-k)
 if na==0 then return true
 let some nb <- cA true (<- elem' (arrOf s) (sa+na-1)) (arrOf s) sb nb (nb-1)|return false
 if nb==0 then return true
 let x:=(arrOf s).extract sa sb
 let y:=(arrOf s).extract sb (sb+nb)
 let merged <- if na<=nb then m8 x y else m7 x y
 modify λs=>setArr s (merged.toList.zipIdx.foldl (λa (p,j)=>a.setIfInBounds (sa+j) p) (arrOf s))
 return(failedOf (<- get)).isNone):=rfl
def Ch(ρ:Keyed->Nat)(xs:Array Keyed):Nat->Nat->List Run->Prop
 | s,e,[]=>s=e
 | s,e,r::rs=>r.1=s/\1<=r.2.1/\Seg ρ xs s (s+r.2.1)/\Ch ρ xs (s+r.2.1) e rs
theorem Ch.app{ρ:Keyed->Nat}{xs:Array Keyed}:∀ {l m:List Run} {s e:Nat},Ch ρ xs s e (l++m) ↔ ∃t,Ch ρ xs s t l/\Ch ρ xs t e m
 | [],m,s,e=>⟨λh=>⟨s,rfl,h⟩,λ⟨t,h1,h2⟩=>by cases h1;exact h2⟩
 | r::l,m,s,e=>by
  constructor
  ·rintro⟨h1,h2,h3,h4⟩
   obtain⟨t,h5,h6⟩:=Ch.app.mp h4;exact⟨t,⟨h1,h2,h3,h5⟩,h6⟩
  ·rintro⟨t,⟨h1,h2,h3,h5⟩,h6⟩
   exact⟨h1,h2,h3,Ch.app.mpr ⟨t,h5,h6⟩⟩
theorem Ch.le{ρ:Keyed->Nat}{xs:Array Keyed}:∀ {l:List Run} {s e:Nat},Ch ρ xs s e l->s+l.length<=e
 | [],s,e,h=>by cases h;exact Nat.le_refl _
 | r::l,s,e,⟨_,h2,_,h4⟩=>by have:=Ch.le h4;simp only[List.length_cons];omega
theorem Seg.congr{ρ:Keyed->Nat}{xs ys:Array Keyed}{lo hi:Nat}(h:Seg ρ xs lo hi)(e:∀k,lo<=k->k<hi->ys[k]?=xs[k]?):Seg ρ ys lo hi:=λi j h1 h2 h3=>by
 rw[gj (e i h1 ⋯),gj (e j ⋯ h3)];exact h i j h1 h2 h3
theorem Ch.congr{ρ:Keyed->Nat}{xs ys:Array Keyed}:∀ {l:List Run} {s e:Nat},Ch ρ xs s e l->(∀k,s<=k->k<e->ys[k]?=xs[k]?)->Ch ρ ys s e l
 | [],s,e,h,_=>h
 | r::l,s,e,⟨h1,h2,h3,h4⟩,q=>by
  have:=Ch.le h4;exact⟨h1,h2,h3.congr λk a b=>q k a ⋯,Ch.congr h4 λk a b=>q k ⋯ b⟩
theorem qG(off:Nat):∀(m:List Keyed) (n:Nat) (xs:Array Keyed),off+n+m.length<=xs.size->∀k:Nat,
  ((m.zipIdx n).foldl (λa (p,j)=>a.setIfInBounds (off+j) p) xs)[k]?=(if off+n<=k/\k<off+n+m.length then m[k-(off+n)]? else xs[k]?)/\((m.zipIdx n).foldl (λa (p,j)=>a.setIfInBounds (off+j) p) xs).size=xs.size
 | [],n,xs,h,k=>⟨by rw[if_neg (by simp only[List.length_nil];omega)];rfl,rfl⟩
 | p::m,n,xs,h,k=>by
  simp only[List.length_cons]at h;rw[List.zipIdx_cons,List.foldl_cons];have ih:=qG off m (n+1) (xs.setIfInBounds (off+n) p) (by rw[Array.size_setIfInBounds];omega) k
  refine⟨?_,by rw[ih.2,Array.size_setIfInBounds]⟩
  rw[ih.1];simp only[List.length_cons]
  by_cases h1:off+(n+1)<=k/\k<off+(n+1)+m.length
  ·rw[if_pos h1,if_pos ⋯,show k-(off+n)=k-(off+(n+1))+1 by omega,List.getElem?_cons_succ]
  ·rw[if_neg h1]
   by_cases h2:k=off+n
   ·subst h2
    rw[if_pos ⋯,Nat.sub_self,List.getElem?_cons_zero,Array.getElem?_setIfInBounds_self_of_lt ⋯]
   ·rw[if_neg ⋯,Array.getElem?_setIfInBounds_ne ⋯]
theorem DZ{off:Nat}{m:List Keyed}{xs:Array Keyed}(h:off+m.length<=xs.size)(hp:m.Perm ((xs.toList.drop off).take m.length)):(m.zipIdx.foldl (λa (p,j)=>a.setIfInBounds (off+j) p) xs).Perm xs:=by
 rw[Array.perm_iff_toList_perm];have e:(m.zipIdx.foldl (λa (p,j)=>a.setIfInBounds (off+j) p) xs).toList=xs.toList.take off++(m++xs.toList.drop (off+m.length)):=by
  apply List.ext_getElem?;intro k;have:=(qG off m 0 xs (by simpa using h) k).1
  rw[Nat.add_zero]at this;rw[Array.getElem?_toList,this];have hl:(xs.toList.take off).length=off:=by rw[List.length_take];have:xs.toList.length=xs.size:=rfl;omega
  by_cases h1:k<off
  ·rw[if_neg ⋯,List.getElem?_append_left ⋯,List.getElem?_take_of_lt h1,Array.getElem?_toList]
  ·rw[List.getElem?_append_right ⋯,hl]
   by_cases h2:k<off+m.length
   ·rw[if_pos ⋯,List.getElem?_append_left ⋯]
   ·rw[if_neg ⋯,List.getElem?_append_right ⋯,List.getElem?_drop,show off+m.length+(k-off-m.length)=k by omega,Array.getElem?_toList]
 rw[e];have e2:xs.toList=xs.toList.take off++((xs.toList.drop off).take m.length++xs.toList.drop (off+m.length)):=by
  rw[<- List.drop_drop,List.take_append_drop,List.take_append_drop]
 exact(List.Perm.append_left _ (List.Perm.append_right _ hp)).trans (by rw[<- e2])
theorem nz{ρ:Keyed->Nat}{xs:Array Keyed}{i j:Nat}(h:Seg ρ xs i j)(hj:j<=xs.size):So ρ (xs.extract i j).toList:=by
 refine List.pairwise_iff_getElem.mpr λp q hp hq VY=>?_;rw[mq,List.length_drop,List.length_take]at hq;have hs:xs.toList.length=xs.size:=rfl;have:=h (i+p) (i+q) ⋯ ⋯ ⋯
 have e1:xs[i+p]?=some ((xs.extract i j).toList[p]):=by
  rw[Array.getElem?_eq_getElem ⋯];simp
 have e2:xs[i+q]?=some ((xs.extract i j).toList[q]):=by
  rw[Array.getElem?_eq_getElem ⋯];simp
 rw[cV e1,cV e2]at this;exact this
theorem BO{xs:Array Keyed}{i j m:Nat}(h:i+m<j)(hj:j<=xs.size):(xs.extract i j)[m]?=xs[i+m]?:=by
 rw[Array.getElem?_extract];rw[if_pos ⋯]
theorem gY{xs:Array Keyed}{i j:Nat}{x:Keyed}(h:x∈(xs.extract i j).toList):∃m,i<=m/\m<j/\m<xs.size/\xs[m]?=some x:=by
 rw[mq]at h;exact f7 h
section
variable {M:Model}{Ar:Around}{E:Value->Shared->Prop}{s:Shared}{ρ:Keyed->Nat}{kd:SortKind}{P:Keyed->Prop}{a₀:Array Keyed}
theorem Ir{key:Keyed}{arr:Array Keyed}{base n hint:Nat}{st:SortSt}{Q:Option Nat->SortSt->Prop}(hL:fI M Ar E s ρ kd P)(hk:kindOf st=kd)(pk:P key)(pa:∀i,i<n->∃x,arr[base+i]?=some x/\P x)(hs:Seg ρ arr base (base+n))(hn:hint<n)
  (q:∀k,k<=n->(∀i,base<=i->i<base+k->R ρ arr i<=ρ key)->(∀i,base+k<=i->i<base+n->ρ key<R ρ arr i)->Q (some k) st):wpS M Ar E s (cA false key arr base n hint) Q st:=by
 refine dq (tells hL hk pk pa) (λi j qp hj h=>?_) hn λk nQ h1 h2=>q k nQ (λi hi GH=>?_) λi hi GH=>?_
 ·have:=hs (base+i) (base+j) ⋯ ⋯ ⋯
  simp only[oH,Bool.false_eq_true,if_false,Bool.not_eq_true',decide_eq_false_iff_not]at h ⊢;omega
 ·have:=h1 (i-base) ⋯
  simp only[oH,Bool.false_eq_true,if_false,Bool.not_eq_true',decide_eq_false_iff_not,show base+(i-base)=i by omega]at this
  omega
 ·have:=h2 (i-base) ⋯ ⋯
  simp only[oH,Bool.false_eq_true,if_false,show base+(i-base)=i by omega,Bool.not_eq_false',decide_eq_true_eq]at this
  exact this
theorem Iq{key:Keyed}{arr:Array Keyed}{base n hint:Nat}{st:SortSt}{Q:Option Nat->SortSt->Prop}(hL:fI M Ar E s ρ kd P)(hk:kindOf st=kd)(pk:P key)(pa:∀i,i<n->∃x,arr[base+i]?=some x/\P x)(hs:Seg ρ arr base (base+n))(hn:hint<n)
  (q:∀k,k<=n->(∀i,base<=i->i<base+k->R ρ arr i<ρ key)->(∀i,base+k<=i->i<base+n->ρ key<=R ρ arr i)->Q (some k) st):wpS M Ar E s (cA true key arr base n hint) Q st:=by
 refine dq (tells hL hk pk pa) (λi j qp hj h=>?_) hn λk nQ h1 h2=>q k nQ (λi hi GH=>?_) λi hi GH=>?_
 ·have:=hs (base+i) (base+j) ⋯ ⋯ ⋯
  simp only[oH,if_true,decide_eq_true_eq]at h ⊢;omega
 ·have:=h1 (i-base) ⋯
  simp only[oH,if_true,decide_eq_true_eq,show base+(i-base)=i by omega]at this
  exact this
 ·have:=h2 (i-base) ⋯ ⋯
  simp only[oH,if_true,show base+(i-base)=i by omega,decide_eq_false_iff_not]at this
  omega
theorem IC{st aC:SortSt}{Q:PUnit->SortSt->Prop}(h:Q ⟨⟩ aC):wpS M Ar E s (set aC:StateT SortSt Sem PUnit) Q st:=by
 unfold wpS;rw[StateT.run_set];exact wpAny_pure ⟨rfl,h⟩
theorem Sx{l:List Run}{i:Nat}(h:i+1<l.length):∃pre x y post,l=pre++x::y::post/\pre.length=i:=by
 refine⟨l.take i,l[i],l[i+1],l.drop (i+2),?_,by rw[List.length_take];omega⟩
 have e:=(List.take_append_drop i l).symm;rw[List.drop_eq_getElem_cons ⋯,List.drop_eq_getElem_cons h]at e
 exact e
theorem lr{st:SortSt}{i lo:Nat}{Q:Bool->SortSt->Prop}(hL:fI M Ar E s ρ kd P)(h0:∀p∈a₀.toList,P p)(hB:SI kd a₀ st)(xi:lo<=a₀.size)(hc:Ch ρ (arrOf st) 0 lo (pendingOf st).toList)(hi:i+1<(pendingOf st).size)
  (q:∀aC,SI kd a₀ aC->Ch ρ (arrOf aC) 0 lo (pendingOf aC).toList->(pendingOf aC).size+1=(pendingOf st).size->(∀k,lo<=k->(arrOf aC)[k]?=(arrOf st)[k]?)->Q true aC):wpS M Ar E s (mergeAt' i) Q st:=by
 rw[uc];refine wpS_bind (wpS_get ?_);obtain⟨pre,⟨sa,na,pw⟩,⟨sb,nb,pw2⟩,post,el,fP⟩:=Sx (l:=(pendingOf st).toList) (i:=i) (by simpa using hi)
 have e1:(pendingOf st)[i]?=some (sa,na,pw):=by
  rw[<- Array.getElem?_toList,el,List.getElem?_append_right ⋯,fP,Nat.sub_self];rfl
 have e2:(pendingOf st)[i+1]?=some (sb,nb,pw2):=by
  rw[<- Array.getElem?_toList,el,List.getElem?_append_right ⋯,fP,Nat.add_sub_cancel_left];rfl
 have CK:(((pendingOf st).setIfInBounds i (sa,na+nb,pw)).eraseIdxIfInBounds (i+1)).toList=pre++(sa,na+nb,pw)::post:=by
  have hs:i+1<((pendingOf st).setIfInBounds i (sa,na+nb,pw)).size:=by rw[Array.size_setIfInBounds];exact hi
  rw[Array.eraseIdxIfInBounds,dif_pos hs,Array.toList_eraseIdx,Array.toList_setIfInBounds,el,<- fP];rw[List.set_append_right _ _ (Nat.le_refl _),Nat.sub_self,List.set_cons_zero,List.eraseIdx_append_of_length_le (Nat.le_succ _),show pre.length.succ-pre.length=1 by omega]
  rfl
 have V2:(((pendingOf st).setIfInBounds i (sa,na+nb,pw)).eraseIdxIfInBounds (i+1)).size+1=(pendingOf st).size:=by
  have a1:(((pendingOf st).setIfInBounds i (sa,na+nb,pw)).eraseIdxIfInBounds (i+1)).toList.length=(pre++(sa,na+nb,pw)::post).length:=by rw[CK]
  have a2:(pendingOf st).toList.length=(pre++(sa,na,pw)::(sb,nb,pw2)::post).length:=by rw[el]
  simp only[List.length_append,List.length_cons,Array.length_toList]at a1 a2;omega
 rw[e1,e2];dsimp only;refine wpS_bind (IC ?_);rw[el]at hc;obtain⟨t,c1,⟨rfl,c3,c4,rfl,c6,c7,c8⟩⟩:=Ch.app.mp hc;dsimp only at c1 c3 c4 c6 c7 c8 CK e1 e2 V2 ⊢;have hle:=Ch.le c8;have kA:=hB.size;have Ue:∀k,k<a₀.size->∃x,(arrOf st)[k]?=some x/\P x:=λk hk=>hB.at h0 hk;obtain⟨b0,eb,pb⟩:=Ue (sa+na) ⋯
 refine wpS_bind (bg eb ?_);refine wpS_bind (Ir hL hB.kind pb (λi hi=>Ue _ ⋯) c4 ⋯ λk hk g1 g2=>?_)
 dsimp only
 -- the whole of both,from what becomes of the array
 have fin:∀(ys:Array Keyed) (aC:SortSt),arrOf aC=ys->pendingOf aC=((pendingOf st).setIfInBounds i (sa,na+nb,pw)).eraseIdxIfInBounds (i+1)->kindOf aC=kd->failedOf aC=none->ys.Perm (arrOf st) ->
   (∀k,k<sa\/sa+na+nb<=k->ys[k]?=(arrOf st)[k]?)->Seg ρ ys sa (sa+na+nb)->Q true aC:=λys aC h1 h2 h3 h4 h5 h6 h7=>by
  refine q aC ⟨by rw[h1];exact h5.trans hB.perm,h3,h4⟩ ?_ (by rw[h2];exact V2) (λk hk=>by rw[h1];exact h6 k (.inr ⋯))
  rw[h1,h2,CK];refine Ch.app.mpr ⟨sa,c1.congr λk _ hk=>h6 k (.inl hk),rfl,?_,?_,?_⟩
  ·show 1<=na+nb;omega
  ·show Seg ρ ys sa (sa+(na+nb));rw[<- Nat.add_assoc];exact h7
  ·show Ch ρ ys (sa+(na+nb)) lo post
   rw[<- Nat.add_assoc];exact c8.congr λk hk _=>h6 k (.inr hk)
 have rb0:R ρ (arrOf st) (sa+na)=ρ b0:=cV eb
 by_cases xg:na-k=0
 ·rw[if_pos (by simpa using xg)]
  refine wpS_pure (fin (arrOf st) _ rfl rfl hB.kind hB.failed (Array.Perm.refl _) (λ_ _=>rfl) λi j h1 h2 h3=>?_)
  by_cases hj:j<sa+na
  ·exact c4 i j h1 h2 hj
  ·by_cases kz:i<sa+na
   ·have:=g1 i h1 ⋯
    have:=c7 (sa+na) j ⋯ ⋯ h3
    omega
   ·exact c7 i j ⋯ h2 h3
 ·rw[if_neg (by simpa using xg)]
  obtain⟨al,ea,pa⟩:=Ue (sa+k+(na-k)-1) ⋯
  have ral:R ρ (arrOf st) (sa+na-1)=ρ al:=by rw[show sa+na-1=sa+k+(na-k)-1 by omega];exact cV ea
  refine wpS_bind (bg ea ?_);refine wpS_bind (Iq hL hB.kind pa (λi hi=>Ue _ ⋯) c7 ⋯ λk2 VL g3 g4=>?_)
  dsimp only
  by_cases VM:k2=0
  ·subst VM
   rw[if_pos (by simp)]
   refine wpS_pure (fin (arrOf st) _ rfl rfl hB.kind hB.failed (Array.Perm.refl _) (λ_ _=>rfl) λi j h1 h2 h3=>?_)
   by_cases hj:j<sa+na
   ·exact c4 i j h1 h2 hj
   ·by_cases kz:i<sa+na
    ·have:=g4 j ⋯ h3
     have:=c4 i (sa+na-1) h1 ⋯ ⋯
     omega
    ·exact c7 i j ⋯ h2 h3
  ·rw[if_neg (by simpa using VM)]
   have hPx:∀i j,j<=a₀.size->∀x∈((arrOf st).extract i j).toList,P x:=λi j hj x hx=>by
    obtain⟨m,m1,m2,m3,m4⟩:=gY hx;obtain⟨y,ey,py⟩:=Ue m ⋯
    rw[m4]at ey;cases ey;exact py
   have zx:((arrOf st).extract (sa+k) (sa+na)).size=na-k:=by rw[Array.size_extract];omega
   have zy:((arrOf st).extract (sa+na) (sa+na+k2)).size=k2:=by rw[Array.size_extract];omega
   have T:u9 ρ P ((arrOf st).extract (sa+k) (sa+na)) ((arrOf st).extract (sa+na) (sa+na+k2)):=
    ⟨hPx _ _ ⋯,hPx _ _ ⋯,nz (λi j h1 h2 h3=>c4 i j ⋯ h2 h3) ⋯,nz (λi j h1 h2 h3=>c7 i j h1 h2 ⋯) ⋯,by omega,by omega,
     λy hy z hz=>by
      obtain⟨m,m1,m2,m3,m4⟩:=gY hy;rw[zx,BO ⋯ ⋯,show sa+k+(na-k-1)=sa+k+(na-k)-1 by omega,ea]at hz
      cases hz;have:=g3 m m1 m2;rw[cV m4]at this;omega,
     λy hy z hz=>by
      obtain⟨m,m1,m2,m3,m4⟩:=gY hy;rw[BO ⋯ ⋯,Nat.add_zero,eb]at hz
      cases hz;have:=g2 m m1 m2;rw[cV m4]at this;omega⟩
   have done:∀(r:Array Keyed) (aC:SortSt),Kp (setPending st (((pendingOf st).setIfInBounds i (sa,na+nb,pw)).eraseIdxIfInBounds (i+1))) aC->Good ρ (((arrOf st).extract (sa+k) (sa+na)).toList++((arrOf st).extract (sa+na) (sa+na+k2)).toList) r.toList ->
     wpS M Ar E s (do
      modify λs=>setArr s (r.toList.zipIdx.foldl (λa (p,j)=>a.setIfInBounds (sa+k+j) p) (arrOf s))
      let x <- get
      pure (failedOf x).isNone) Q aC:=λr aC hK hG=>by
    refine wpS_bind (wpS_modify (wpS_bind (wpS_get (wpS_pure ?_))));have ka:arrOf aC=arrOf st:=hK.a;have kp:pendingOf aC=_:=hK.p;have kf:failedOf aC=none:=hK.f.trans hB.failed;have kk:kindOf aC=kd:=hK.k.trans hB.kind;show Q (failedOf aC).isNone _;rw[kf];have hlen:r.toList.length=na-k+k2:=by
     have:=hG.2.length_eq;simp only[List.length_append,Array.length_toList,zx,zy]at this ⊢;exact this
    have hbd:sa+k+r.toList.length<=(arrOf st).size:=by omega
    have get:=λm=>(qG (sa+k) r.toList 0 (arrOf st) (by simpa using hbd) m).1
    simp only[Nat.add_zero]at get;have hX:((arrOf st).extract (sa+k) (sa+na)).toList++((arrOf st).extract (sa+na) (sa+na+k2)).toList=((arrOf st).toList.drop (sa+k)).take r.toList.length:=by
     rw[hlen,List.take_add,List.drop_drop,show sa+k+(na-k)=sa+na by omega]
     rw[show sa+na=sa+k+(na-k)by omega,mv,show sa+k+(na-k)=sa+na by omega,mv]
    refine fin _ _ (by show _=r.toList.zipIdx.foldl _ (arrOf st);rw[ka]) kp kk kf (DZ hbd (by rw[<- hX];exact hG.2)) (λm hm=>by rw[get m,if_neg ⋯]) ?_
    have ry:∀m,¬(sa+k<=m/\m<sa+k+r.toList.length)->R ρ (r.toList.zipIdx.foldl (λa (p,j)=>a.setIfInBounds (sa+k+j) p) (arrOf st)) m=R ρ (arrOf st) m:=λm hm=>gj (by rw[get m,if_neg hm])
    have rz:∀m (h:m-(sa+k)<r.toList.length),sa+k<=m->R ρ (r.toList.zipIdx.foldl (λa (p,j)=>a.setIfInBounds (sa+k+j) p) (arrOf st)) m=ρ (r.toList[m-(sa+k)]):=λm h hm=>by
     refine cV ?_;rw[get m,if_pos ⋯,List.getElem?_eq_getElem h]
    have low:∀z∈r.toList,∀i,sa<=i->i<sa+k->R ρ (arrOf st) i<=ρ z:=λz hz i i1 i2=>by
     rcases List.mem_append.mp (hG.2.mem_iff.mp hz)with hz|hz
     ·obtain⟨m,m1,m2,m3,m4⟩:=gY hz
      rw[<- cV (ρ:=ρ) m4];exact c4 i m i1 ⋯ m2
     ·obtain⟨m,m1,m2,m3,m4⟩:=gY hz
      have:=g1 i i1 i2;have:=c7 (sa+na) m ⋯ m1 ⋯
      rw[<- cV (ρ:=ρ) m4];omega
    have high:∀z∈r.toList,∀j,sa+na+k2<=j->j<sa+na+nb->ρ z<=R ρ (arrOf st) j:=λz hz j j1 j2=>by
     rcases List.mem_append.mp (hG.2.mem_iff.mp hz)with hz|hz
     ·obtain⟨m,m1,m2,m3,m4⟩:=gY hz
      have:=g4 j j1 j2;have:=c4 m (sa+na-1) ⋯ ⋯ ⋯
      rw[<- cV (ρ:=ρ) m4];omega
     ·obtain⟨m,m1,m2,m3,m4⟩:=gY hz
      rw[<- cV (ρ:=ρ) m4];exact c7 m j m1 ⋯ j2
    intro i j h1 h2 h3
    by_cases i1:i<sa+k
    ·rw[ry i ⋯]
     by_cases j1:j<sa+k
     ·rw[ry j ⋯];exact c4 i j h1 h2 ⋯
     ·by_cases j2:j<sa+k+r.toList.length
      ·rw[rz j ⋯ ⋯];exact low _ (List.getElem_mem _) i h1 i1
      ·rw[ry j ⋯]
       have:=g1 i h1 i1;have:=c7 (sa+na) j ⋯ ⋯ h3
       omega
    ·by_cases i2:i<sa+k+r.toList.length
     ·rw[rz i ⋯ ⋯]
      by_cases j2:j<sa+k+r.toList.length
      ·rw[rz j ⋯ ⋯]
       by_cases e:i=j
       ·subst e;exact Nat.le_refl _
       ·exact List.pairwise_iff_getElem.mp hG.1 _ _ ⋯ ⋯ ⋯
      ·rw[ry j ⋯];exact high _ (List.getElem_mem _) j ⋯ h3
     ·rw[ry i ⋯,ry j ⋯];exact c7 i j ⋯ h2 h3
   by_cases VQ:na-k<=k2
   ·rw[if_pos VQ]
    exact wpS_bind (u0 hL hB.kind T done)
   ·rw[if_neg VQ]
    exact wpS_bind (uZ hL hB.kind T done)
end
end Vs
namespace Vs
open PySem PyProof.Rows
theorem Ch.modify{ρ:Keyed->Nat}{xs:Array Keyed}{f:Run->Run}(hf:∀r,(f r).1=r.1/\(f r).2.1=r.2.1):∀(l:List Run) (i s e:Nat),Ch ρ xs s e l->Ch ρ xs s e (l.modify i f)
 | [],i,s,e,h=>by rw[List.modify_nil];exact h
 | r::l,0,s,e,⟨h1,h2,h3,h4⟩=>by
  rw[List.modify_zero_cons];exact⟨(hf r).1.trans h1,by rw[(hf r).2];exact h2,by rw[(hf r).2];exact h3,by rw[(hf r).2];exact h4⟩
 | r::l,i+1,s,e,⟨h1,h2,h3,h4⟩=>by
  rw[List.modify_succ_cons];exact⟨h1,h2,h3,Ch.modify hf l i _ _ h4⟩
section
variable {M:Model}{Ar:Around}{E:Value->Shared->Prop}{s:Shared}{ρ:Keyed->Nat}{kd:SortKind}{P:Keyed->Prop}{a₀:Array Keyed}
theorem SI.xK{st:SortSt}(h:SI kd a₀ st)(p:Array Run):SI kd a₀ (setPending st p):=⟨h.perm,h.kind,h.failed⟩
def jd(lo n:Nat):StateT SortSt Sem (ForInStep (Option Unit×Nat)):=do
 modify λs=>setPending s ((pendingOf s).push (lo,n,0))
 pure (ForInStep.yield (none,lo+n))
def gp(size pw:Nat):StateT SortSt Sem (Option Unit×Unit):=
 forIn [:size] ((none,()):Option Unit×Unit) λ_ _=>do
  let x <- get
  match(if(pendingOf x).size>1 then(pendingOf x)[(pendingOf x).size-2]? else none)with
  | some (_,_,WW) =>
   if WW<=pw then pure (ForInStep.done (none,()))
   else do
    let r <- mergeAt' ((pendingOf x).size-2)
    if(!r)=true then pure (ForInStep.done (some (),()))else pure (ForInStep.yield (none,()))
  | _=>pure (ForInStep.done (none,()))
def gv(size lo n:Nat):StateT SortSt Sem (ForInStep (Option Unit×Nat)):=do
 let x <- get
 match(pendingOf x).back? with
 | some (s1,n1,_)=>do
  let r <- gp size (power' size (2*s1+n1) (2*s1+n1+n1+n) size)
  match r.fst with
  | some r=>pure (ForInStep.done (some r,lo))
  | none=>do
   modify λs=>setPending s ((pendingOf s).modify ((pendingOf s).size-1) λx=>(x.fst,x.2.fst,power' size (2*s1+n1) (2*s1+n1+n1+n) size))
   jd lo n
 | _=>jd lo n
theorem lu{st:SortSt}{lo n:Nat}{Q:ForInStep (Option Unit×Nat)->SortSt->Prop}(hB:SI kd a₀ st)(hc:Ch ρ (arrOf st) 0 lo (pendingOf st).toList)(hn:1<=n)(hs:Seg ρ (arrOf st) lo (lo+n))
  (q:∀aC,SI kd a₀ aC->Ch ρ (arrOf aC) 0 (lo+n) (pendingOf aC).toList->Q (.yield (none,lo+n)) aC):wpS M Ar E s (jd lo n) Q st:=by
 unfold jd;refine wpS_bind (wpS_modify (wpS_pure (q _ (hB.xK _) ?_)));show Ch ρ (arrOf st) 0 (lo+n) ((pendingOf st).push (lo,n,0)).toList;rw[Array.toList_push];exact Ch.app.mpr ⟨lo,hc,rfl,hn,hs,rfl⟩
theorem oq{st:SortSt}{pw lo n:Nat}{Q:Option Unit×Unit->SortSt->Prop}(hL:fI M Ar E s ρ kd P)(h0:∀p∈a₀.toList,P p)(hB:SI kd a₀ st)(xi:lo<=a₀.size)(hc:Ch ρ (arrOf st) 0 lo (pendingOf st).toList)(hs:Seg ρ (arrOf st) lo (lo+n))
  (q:∀aC,SI kd a₀ aC->Ch ρ (arrOf aC) 0 lo (pendingOf aC).toList->Seg ρ (arrOf aC) lo (lo+n)->Q (none,()) aC):wpS M Ar E s (gp a₀.size pw) Q st:=by
 unfold gp;refine wpS_forRange (I:=λx c aC=>c=(none,())/\SI kd a₀ aC/\Ch ρ (arrOf aC) 0 lo (pendingOf aC).toList/\Seg ρ (arrOf aC) lo (lo+n)) ?step ?fin ⟨rfl,hB,hc,hs⟩
 case fin =>
  rintro c aC ⟨rfl,h1,h2,h3⟩;exact q aC h1 h2 h3
 case step =>
  rintro x c aC _ hx ⟨rfl,h1,h2,h3⟩;refine wpS_bind (wpS_get ?_)
  by_cases hz:(pendingOf aC).size>1
  ·rw[if_pos hz]
   have e:(pendingOf aC)[(pendingOf aC).size-2]?=some (pendingOf aC)[(pendingOf aC).size-2]:=Array.getElem?_eq_getElem ⋯
   rw[e];dsimp only
   split
   ·exact wpS_pure (q aC h1 h2 h3)
   ·refine wpS_bind (lr hL h0 h1 xi h2 ⋯ λzc b1 b2 b3 b4=>?_)
    simp only[Bool.not_true,Bool.false_eq_true,if_false];exact wpS_pure ⟨rfl,b1,b2,h3.congr λk hk _=>b4 k hk⟩
  ·rw[if_neg hz]
   exact wpS_pure (q aC h1 h2 h3)
theorem u3{st:SortSt}{lo n:Nat}{Q:ForInStep (Option Unit×Nat)->SortSt->Prop}(hL:fI M Ar E s ρ kd P)(h0:∀p∈a₀.toList,P p)(hB:SI kd a₀ st)(xi:lo<=a₀.size)(hc:Ch ρ (arrOf st) 0 lo (pendingOf st).toList)(hn:1<=n)(hs:Seg ρ (arrOf st) lo (lo+n))
  (q:∀aC,SI kd a₀ aC->Ch ρ (arrOf aC) 0 (lo+n) (pendingOf aC).toList->Q (.yield (none,lo+n)) aC):wpS M Ar E s (gv a₀.size lo n) Q st:=by
 unfold gv;refine wpS_bind (wpS_get ?_)
 split
 ·refine wpS_bind (oq hL h0 hB xi hc hs λaC b1 b2 b3=>?_)
  dsimp only;refine wpS_bind (wpS_modify (lu (b1.xK _) ?_ hn b3 q));show Ch ρ (arrOf aC) 0 lo ((pendingOf aC).modify _ _).toList;rw[Array.toList_modify];refine Ch.modify ?_ _ _ _ _ b2;intro r;exact⟨rfl,rfl⟩
 ·exact lu hB hc hn hs q
theorem Nc(c:Prop)[Decidable c]{n:Nat}(h:2<=n):(if c then n-2-1 else n-2)+1<n:=by split<;>omega
local macro_rules|`(tactic| walk_at "s_rest")=>`(tactic| (unfold gv gp jd;congr 1;funext x;cases e:(pendingOf x).back? with
  | none=>rfl
  | some y=>(obtain⟨s1,n1,p1⟩:=y;dsimp only;congr 1;funext r;obtain⟨r1,r2⟩:=r;cases r1<;>rfl)))
theorem wpS_sortRuns{st:SortSt}{Q:Unit->SortSt->Prop}(hL:fI M Ar E s ρ kd P)(h0:∀p∈a₀.toList,P p)(hB:SI kd a₀ st)(hp:pendingOf st=#[])(h2:2<=a₀.size)
  (h:∀aC,SI kd a₀ aC->Seg ρ (arrOf aC) 0 a₀.size->Q () aC):wpS M Ar E s sortRuns' Q st:=by
 rw[sortRuns'_eq];refine wpS_bind (wpS_get ?_);dsimp only;rw[hB.size];generalize minRun' a₀.size a₀.size 0=mr;refine wpS_bind (wpS_mono (wpS_forRange (I:=λx c aC=>SI kd a₀ aC/\∃lo,c=(none,lo)/\lo<=a₀.size/\(x<=lo\/lo=a₀.size)/\Ch ρ (arrOf aC) 0 lo (pendingOf aC).toList)
  (Q:=λc aC=>SI kd a₀ aC/\c=(none,a₀.size)/\Ch ρ (arrOf aC) 0 a₀.size (pendingOf aC).toList) ?step ?fin ⟨hB,0,rfl,Nat.zero_le _,.inl (Nat.le_refl _),by rw[hp];rfl⟩) ?post)
 case fin =>
  rintro c aC ⟨gZ,lo,rfl,l1,l2,hc⟩;have:lo=a₀.size:=by omega
  subst this;exact⟨gZ,rfl,hc⟩
 case step =>
  rintro x c aC _ hx ⟨gZ,lo,rfl,l1,l2,hc⟩;dsimp only
  by_cases ve:lo>=a₀.size
  ·rw[if_pos ve]
   have:lo=a₀.size:=by omega
   subst this;exact wpS_pure ⟨gZ,rfl,hc⟩
  ·rw[if_neg ve]
   refine wpS_bind (wpS_countRun hL h0 ⋯ ⋯ gZ λm YR f1 m1 m2 s1=>?_)
   dsimp only;have SY:Ch ρ (arrOf YR) 0 lo (pendingOf YR).toList:=by rw[f1.pend];exact hc.congr λk _ hk=>f1.same k hk
   have go:∀n zc,1<=n->lo+n<=a₀.size->SI kd a₀ zc->Ch ρ (arrOf zc) 0 lo (pendingOf zc).toList->Seg ρ (arrOf zc) lo (lo+n)->wpS M Ar E s (gv a₀.size lo n) (λr aC =>
     match r with
     | ForInStep.done c'=>SI kd a₀ aC/\c'=(none,a₀.size)/\Ch ρ (arrOf aC) 0 a₀.size (pendingOf aC).toList
     | ForInStep.yield c'=>SI kd a₀ aC/\∃lo,c'=(none,lo)/\lo<=a₀.size/\(x+1<=lo\/lo=a₀.size)/\Ch ρ (arrOf aC) 0 lo (pendingOf aC).toList) zc:=λn zc n1 n2 b1 b2 b3 =>
    u3 hL h0 b1 l1 b2 n1 b3 λaC b1 b2=>⟨b1,lo+n,rfl,n2,by omega,b2⟩
   by_cases gK:m<mr
   ·rw[if_pos gK]
    refine wpS_bind (wpS_lift (wpAny_rule ⟨rfl,?_⟩));refine wpS_bind (wpS_binarySort hL h0 ⋯ ⋯ f1.si s1 λzc f2 s2=>?_)
    simp only[Bool.not_true,Bool.false_eq_true,if_false];have z:=go (min (a₀.size-lo) mr) zc ⋯ ⋯ f2.si (by rw[f2.pend];exact SY.congr λk _ hk=>f2.same k hk) s2
    refine wpS_mono (Q:=_) (Eq.mpr (congrArg (λt=>wpS M Ar E s t _ zc) (?_:_=gv a₀.size lo (min (a₀.size-lo) mr))) z) ?_
    ·walk_at "s_rest"
    ·intro r dg hr
     cases r<;>exact hr
   ·rw[if_neg gK]
    have z:=go m YR m1 ⋯ f1.si SY s1
    refine wpS_mono (Q:=_) (Eq.mpr (congrArg (λt=>wpS M Ar E s t _ YR) (?_:_=gv a₀.size lo m)) z) ?_
    ·walk_at "s_rest"
    ·intro r dg hr
     cases r<;>exact hr
 case post =>
  rintro c aC ⟨gZ,rfl,hc⟩;dsimp only;have fP:(pendingOf aC).size<=a₀.size:=by have:=Ch.le hc;simp only[Array.length_toList]at this;omega
  refine wpS_bind (wpS_mono (wpS_forRange (I:=λx c aC=>c=(none,())/\SI kd a₀ aC/\Ch ρ (arrOf aC) 0 a₀.size (pendingOf aC).toList/\((pendingOf aC).size+x<=a₀.size\/(pendingOf aC).size<=1))
   (Q:=λc aC=>c=(none,())/\SI kd a₀ aC/\Ch ρ (arrOf aC) 0 a₀.size (pendingOf aC).toList/\(pendingOf aC).size<=1) ?fstep ?ffin ⟨rfl,gZ,hc,.inl ⋯⟩) ?fpost)
  case ffin =>
   rintro c aC ⟨rfl,b1,b2,b3⟩;exact⟨rfl,b1,b2,by omega⟩
  case fstep =>
   rintro x c aC _ hx ⟨rfl,b1,b2,b3⟩;refine wpS_bind (wpS_get ?_)
   try dsimp only
   by_cases hz:(pendingOf aC).size<=1
   ·rw[if_pos hz]
    exact wpS_pure ⟨rfl,b1,b2,hz⟩
   ·rw[if_neg hz]
    refine wpS_bind (lr hL h0 b1 (Nat.le_refl _) b2 ?_ λzc c1 c2 c3 c4=>?_)
    ·exact Nc _ ⋯
    ·simp only[Bool.not_true,Bool.false_eq_true,if_false]
     exact wpS_pure ⟨rfl,c1,c2,by omega⟩
  case fpost =>
   rintro c aC ⟨rfl,b1,b2,b3⟩;refine wpS_pure (h aC b1 ?_);have hl:(pendingOf aC).toList.length<=1:=by simpa using b3
   generalize (pendingOf aC).toList=l at b2 hl
   match l,b2,hl with
   | [],b2,_=>have:0=a₀.size:=b2;omega
   | [r],⟨_,_,h3,h4⟩,_ =>
    have h4:0+r.2.1=a₀.size:=h4;rw[h4]at h3;exact h3
   | _::_::_,_,hl=>simp at hl
end
end Vs
namespace Vs
open PySem PyProof.Rows PySem.W
theorem dW:∀a:List Int,HT.lexLt a a=false
 | []=>rfl
 | x::a=>by rw[HT.bw,if_pos rfl];exact dW a
theorem eV:∀a b c:List Int,HT.lexLt a b=true->HT.lexLt b c=true->HT.lexLt a c=true
 | [],[],_,h,_=>by cases h
 | [],_::_,[],_,h=>by cases h
 | [],_::_,_::_,_,_=>rfl
 | _::_,[],_,h,_=>by cases h
 | _::_,_::_,[],_,h=>by cases h
 | x::a,y::b,z::c,h1,h2=>by
  rw[HT.bw]at h1 h2 ⊢
  by_cases e1:x=y
  ·rw[if_pos e1]at h1
   by_cases e2:y=z
   ·rw[if_pos e2]at h2
    rw[if_pos (e1.trans e2)];exact eV a b c h1 h2
   ·rw[if_neg e2]at h2
    have:=of_decide_eq_true h2;rw[if_neg ⋯];exact decide_eq_true ⋯
  ·rw[if_neg e1]at h1
   have h1:=of_decide_eq_true h1
   by_cases e2:y=z
   ·rw[if_neg ⋯];exact decide_eq_true ⋯
   ·rw[if_neg e2]at h2
    have:=of_decide_eq_true h2;rw[if_neg ⋯];exact decide_eq_true ⋯
theorem kE:∀a b:List Int,HT.lexLt a b=false->HT.lexLt b a=false->a=b
 | [],[],_,_=>rfl
 | [],_::_,h,_=>by cases h
 | _::_,[],_,h=>by cases h
 | x::a,y::b,h1,h2=>by
  rw[HT.bw]at h1 h2
  by_cases e1:x=y
  ·rw[if_pos e1]at h1
   rw[if_pos e1.symm]at h2;rw[e1,kE a b h1 h2]
  ·rw[if_neg e1]at h1
   rw[if_neg (Ne.symm e1)]at h2;have:=of_decide_eq_false h1;have:=of_decide_eq_false h2;omega
def rk(d:Keyed->List Int)(l:List Keyed)(x:Keyed):Nat:=l.countP λp=>HT.lexLt (d p) (d x)
theorem oO{α:Type}{p q:α->Bool}:∀ {l:List α} {x:α},(∀y,p y=true->q y=true)->x∈l->p x=false->q x=true->l.countP p<l.countP q
 | y::l,x,h,hx,h1,h2=>by
  rcases List.mem_cons.mp hx with rfl|hx
  ·rw[List.countP_cons_of_neg (by rw[h1];decide),List.countP_cons_of_pos h2]
   exact Nat.lt_succ_of_le (List.countP_mono_left λy _=>h y)
  ·have ih:=oO h hx h1 h2
   rw[List.countP_cons,List.countP_cons];cases e:p y with
   | true=>rw[h y e];simpa using ih
   | false=>split<;>split<;>first|omega | (exfalso;simp_all)
theorem uB{d:Keyed->List Int}{l:List Keyed}{x y:Keyed}(hx:x∈l):decide (rk d l x<rk d l y)=HT.lexLt (d x) (d y):=by
 cases e:HT.lexLt (d x) (d y)with
 | true =>
  refine decide_eq_true (oO (x:=x) (λp hp=>eV _ _ _ hp e) hx (dW _) e)
 | false =>
  refine decide_eq_false (Nat.not_lt.mpr (List.countP_mono_left λp _ hp=>?_));cases e2:HT.lexLt (d p) (d x)with
  | true=>rfl
  | false =>
   cases e3:HT.lexLt (d x) (d p)with
   | true=>rw[eV _ _ _ e3 hp]at e;cases e
   | false =>
    rw[kE _ _ e2 e3]at hp;rw[hp]at e;cases e
section
variable {prog:Program}{w:World}{A:Around}{E:Value->Shared->Prop}{s:Shared}
theorem fQ{b:Bool}{Q:Bool->Shared->Prop}:∀ {vs ws:List Value} {ns ms:List Int} (i:Nat) (fin:Bool),IntsAre vs ns->IntsAre ws ms->fin=decide (vs.length<ws.length)->Q (HT.lexLt ns ms) s->KatLex prog w A b fin Q (vs.zip ws) i s
 | _,_,_,_,i,fin,.nil,.nil,e,q=>by subst e;exact kat_nil q
 | _,_,_,_,i,fin,.nil,.cons _ _ _,e,q=>by subst e;rw[HT.fV]at q;exact kat_nil (by simpa using q)
 | _,_,_,_,i,fin,.cons _ _ _,.nil,e,q=>by subst e;rw[HT.fU]at q;exact kat_nil (by simpa using q)
 | _,_,_,_,i,fin,.cons n t h1,.cons m u h2,e,q=>by
  rw[List.zip_cons_cons];refine kat_cons (wpAny_eqBool_int ?_);rw[HT.bw]at q
  by_cases h:n=m
  ·rw[if_pos h]at q
   rw[show(n==m)=true from by simpa using h]
   exact kat_yes (fQ (i+1) fin h1 h2 (by rw[e];simp) q)
  ·rw[if_neg h]at q
   rw[show(n==m)=false from by simpa using h]
   refine kat_no ?_;cases(b&&i==0)with
   | true=>exact oneLt_int q
   | false=>exact kat_one _ _ (lt_int q)
def nV(h:Heap)(v:Value)(ns:List Int):Prop:=∃a o xs n,v=.ref a/\h.get? a=some o/\o.cls=.type "tuple"/\o.data=.seq xs n/\IntsAre xs.toList ns
theorem nV.kept{h g:Heap}{v:Value}{ns:List Int}(t:nV h v ns)(k:∀b o,h.get? b=some o->g.get? b=some o):nV g v ns:=by
 obtain⟨a,o,xs,n,e,ho,r⟩:=t;exact⟨a,o,xs,n,e,k _ _ ho,r⟩
theorem yI{b:Bool}{v u:Value}{ns ms:List Int}{Q:Bool->Shared->Prop}(h1:nV s.heap v ns)(h2:nV s.heap u ms)(q:Q (HT.lexLt ns ms) s):wpAny (model prog w) A (keyLt' (tuples' b) v u) Q E s:=by
 obtain⟨a,o,xs,n,rfl,ho,hc,hd,hi⟩:=h1;obtain⟨a2,o2,xs2,n2,rfl,CM,JI,hd2,GH⟩:=h2;exact kat_lt ho hd CM hd2 (fQ 0 _ hi GH (by simp) q)
theorem xA{b:Bool}{l:List Keyed}{d:Keyed->List Int}(h:∀x∈l,nV s.heap x.1 (d x)):fI (model prog w) A E s (rk d l) (tuples' b) (λx=>x∈l):=λx y st Q hx hy hk q=>by
 rw[uB hx]at q;rw[lt'_eq];refine wpS_bind (wpS_get ?_);rw[hk];exact wpS_bind (wpS_lift (wpAny_attempt (yI (h x hx) (h y hy) ⟨rfl,wpS_pure q⟩)))
theorem tS{vs:List Value}{Q:SortKind->Shared->Prop}(hl:0<vs.length)(h:∀v∈vs,∃ns,nV s.heap v ns/\ns≠[])(q:Q (tuples' true) s):wpAny (model prog w) A (keyKind' vs.toArray) Q E s:=by
 have key:∀vs:List Value,(∀v∈vs,∃ns,nV s.heap v ns/\ns≠[])->∃fs,KatTups s.heap vs fs/\fs.length=vs.length/\∀v∈fs,∃n t,v=Value.int n t:=by
  intro vs
  induction vs with
  | nil=>intro _;exact⟨[],KatTups.nil,rfl,λv hv=>by cases hv⟩
  | cons v vs ih =>
   intro h;obtain⟨ns,⟨a,o,xs,n,rfl,ho,hc,hd,hi⟩,df⟩:=h v (List.mem_cons_self ..);obtain⟨fs,f1,f2,f3⟩:=ih λu hu=>h u (List.mem_cons_of_mem _ hu);obtain⟨f,hf,hn⟩:∃f,xs[0]?=some f/\∃n t,f=Value.int n t:=by
    rw[<- Array.getElem?_toList];generalize xs.toList=ys at hi;cases hi with
    | nil=>exact absurd rfl df
    | cons n t _=>exact⟨_,rfl,n,t,rfl⟩
   refine⟨f::fs,KatTups.cons ho hc hd hf f1,by simp [f2],λv hv=>?_⟩
   rcases List.mem_cons.mp hv with rfl|hv
   ·exact hn
   ·exact f3 v hv
 obtain⟨fs,f1,f2,f3⟩:=key vs h;refine kat_kind (T:=.type "int") f1 ⋯ (λv hv=>?_) rfl q
 obtain⟨n,t,rfl⟩:=f3 v hv;exact Looks.now
theorem eN{a:Addr}{vs:List Value}{n:Nat}{kd:SortKind}{ρ:Keyed->Nat}{P:Keyed->Prop}{Pf:PySem.Fin->Shared->Prop}(ho:s.heap.get? a=some (seqObj "list" vs.toArray n))(hz:vs.length<=sizeLine)(h0:∀p∈(pairsOf vs).toList,P p)
  (hk:2<=vs.length->∀g:Heap,(∀b o,b≠a->s.heap.get? b=some o->g.get? b=some o)->(∀Q:SortKind->Shared->Prop,Q kd {s with heap:=g}->wpAny (model prog w) A (keyKind' vs.toArray) Q E {s with heap:=g})/\fI (model prog w) A E {s with heap:=g} ρ kd P)
  (h:∀(xs:Array Keyed) (g:Heap) (c:Nat),xs.Perm (pairsOf vs)->Seg ρ xs 0 vs.length->(∀b o,b≠a->s.heap.get? b=some o->g.get? b=some o)->g.get? a=some (seqObj "list" (xs.map (·.2)) c)->Pf (.done (.ret .none)) {s with heap:=g}):
  wpAny (model prog w) A (Builtin.«list.sort» ⟨[.ref a],[]⟩) Pf E s:=by
 rw[list_sort_plain];have ha:a<s.heap.objs.size:=Heap.lt_size ho;have kA:vs.toArray.size=vs.length:=by simp
 refine wpAny_bind (listItems_at ho rfl ?_);refine wpAny_bind (listUpdate_at ho rfl ?_ (by rw[kA];exact hz) (Nat.zero_le _))
 obtain⟨e1,ho1⟩:∃e1,(s.heap.update a (Obj.mapSeq λ_=>#[])).get? a=some (seqObj "list" #[] e1):=⟨_,get?_update_seq ho (λ_=>#[])⟩;refine wpAny_bind (seqEpoch_at ho1 rfl ?_);refine wpAny_bind (wpAny_newTuple ?_ (by show vs.length<=_;exact hz))
 refine wpAny_bind (wpAny_newList ?_ (Nat.zero_le _));refine wpAny_holding ?_;have keep:∀b o,b≠a->s.heap.get? b=some o->(((s.heap.update a (Obj.mapSeq λ_=>#[])).push (seqObj "tuple" vs.toArray 0)).push (seqObj "list" #[] 0)).get? b=some o:=λb o hb e =>
  Heap.get?_push_of_some _ (Heap.get?_push_of_some _ ((Heap.get?_update_other _ _ (Ne.symm hb)).trans e))
 have S6:(((s.heap.update a (Obj.mapSeq λ_=>#[])).push (seqObj "tuple" vs.toArray 0)).push (seqObj "list" #[] 0)).get? a=some (seqObj "list" #[] e1):=Heap.get?_push_of_some _ (Heap.get?_push_of_some _ ho1);show wpAny (model prog w) A _ Pf E {s with heap:=((s.heap.update a (Obj.mapSeq λ_=>#[])).push (seqObj "tuple" vs.toArray 0)).push (seqObj "list" #[] 0)}
 dsimp only;generalize hg6:((s.heap.update a (Obj.mapSeq λ_=>#[])).push (seqObj "tuple" vs.toArray 0)).push (seqObj "list" #[] 0)=g6 at keep S6;have fin:∀xs:Array Keyed,xs.Perm (pairsOf vs)->Seg ρ xs 0 vs.length->Pf (.done (.ret .none)) {s with heap:=g6.update a (Obj.mapSeq λ_=>xs.map (·.2))}:=λxs hp hs =>
  h xs _ _ hp hs (λb o hb e=>(Heap.get?_update_other _ _ (Ne.symm hb)).trans (keep b o hb e)) (get?_update_seq S6 λ_=>xs.map (·.2))
 by_cases h2:vs.toArray.size<2
 ·rw[if_pos h2,if_pos h2]
  refine wpAny_bind (wpAny_pure ?_);rw[StateT.run_pure];refine wpAny_bind (wpAny_pure ?_);dsimp only;refine wpAny_bind (seqEpoch_at S6 rfl ?_);refine wpAny_bind (listUpdate_at S6 rfl ?_ (Nat.zero_le _) (by rw[Array.size_map];show(pairsOf vs).size<=_;rw[pairsOf_size];exact Nat.le_succ_of_le hz))
  simp only[bne_self_eq_false,Bool.false_eq_true,if_false];refine wpAny_pure (fin _ (Array.Perm.refl _) λi j _ qp hj=>?_);have:i=j:=by omega
  subst this;exact Nat.le_refl _
 ·rw[if_neg h2,if_neg h2]
  obtain⟨k1,k2⟩:=hk ⋯ g6 keep
  refine wpAny_bind (k1 _ ?_);refine wpAny_bind (wpAny_mono (wpS_sortRuns (a₀:=pairsOf vs) (kd:=kd) (st:=SortSt.mk' kd (vs.toArray.zip vs.toArray) #[] 7 none)
   (Q:=λ_ aC=>SI kd (pairsOf vs) aC/\Seg ρ (arrOf aC) 0 (pairsOf vs).size) k2 h0 ⟨Array.Perm.refl _,rfl,rfl⟩ rfl (by rw[pairsOf_size];omega) λaC a1 a2=>⟨a1,a2⟩) ?_ λ_ _ e=>e)
  rintro⟨⟨⟩,aC⟩ s' ⟨rfl,hp,hs⟩;dsimp only;refine wpAny_bind (seqEpoch_at S6 rfl ?_);refine wpAny_bind (listUpdate_at S6 rfl ?_ (Nat.zero_le _) (by refine Nat.le_trans (Nat.le_of_eq ((Array.size_map ..).trans (hp.size.trans (pairsOf_size _)))) ?_;exact Nat.le_succ_of_le hz))
  rw[hp.failed];simp only[bne_self_eq_false,Bool.false_eq_true,if_false];rw[pairsOf_size]at hs;exact wpAny_pure (fin _ hp.perm hs)
theorem wc{l:Addr}{vs:List Value}{kd:SortKind}{ρ:Keyed->Nat}{P:Keyed->Prop}{Q:Value->Shared->Prop}(hl:s.heap.IsList l vs.toArray)(hz:vs.length<=sizeLine)(h0:∀p∈(pairsOf vs).toList,P p)
  (hk:2<=vs.length->∀(A':Around) (E':Value->Shared->Prop) (g:Heap),(∀b o,s.heap.get? b=some o->g.get? b=some o)->(∀Q:SortKind->Shared->Prop,Q kd {s with heap:=g}->wpAny (model prog w) A' (keyKind' vs.toArray) Q E' {s with heap:=g})/\fI (model prog w) A' E' {s with heap:=g} ρ kd P)
  (h:∀(xs:Array Keyed) (g:Heap) (c:Nat),xs.Perm (pairsOf vs)->Seg ρ xs 0 vs.length->(∀b o,s.heap.get? b=some o->g.get? b=some o)->g.get? (s.heap.objs.size+1)=some (seqObj "list" (xs.map (·.2)) c)->Q (.ref (s.heap.objs.size+1)) {s with heap:=g}):
  wpAny (model prog w) A (call (.builtin "sorted") [.ref l]) Q E s:=by
 refine Calls.call_function_entry kind_sorted plain_sorted entry_sorted (args_sorted1 _) ?_;unfold Builtin.«sorted»;refine wpAny_bind (m:=checkCount "sorted" 1 1 _) (wpAny_pure ?_);refine wpAny_bind (collect_list hl ?_ hz);refine wpAny_bind (wpAny_newList ?_ hz);have kA:((s.heap.push (seqObj "list" #[] 0)).update s.heap.objs.size (Obj.mapSeq (·++vs.toArray))).objs.size=s.heap.objs.size+1:=by
  rw[Heap.size_update,size_push']
 have CN:(((s.heap.push (seqObj "list" #[] 0)).update s.heap.objs.size (Obj.mapSeq (·++vs.toArray))).push (seqObj "list" vs.toArray 0)).get? (s.heap.objs.size+1)=some (seqObj "list" vs.toArray 0):=by
  rw[<- kA];exact Heap.get?_push_size _ rfl
 have keep:∀b o,s.heap.get? b=some o->(((s.heap.push (seqObj "list" #[] 0)).update s.heap.objs.size (Obj.mapSeq (·++vs.toArray))).push (seqObj "list" vs.toArray 0)).get? b=some o:=λb o e=>by
  have gK:b<s.heap.objs.size:=Heap.lt_size e;exact Heap.get?_push_of_some _ ((Heap.get?_update_other _ _ (Ne.symm (Nat.ne_of_lt gK))).trans (Heap.get?_push_of_some _ e))
 have ne:∀b o,s.heap.get? b=some o->b≠s.heap.objs.size+1:=λb o e=>Nat.ne_of_lt (Nat.lt_succ_of_lt (Heap.lt_size e));show wpAny _ _ _ _ _ {s with heap:=((s.heap.push (seqObj "list" #[] 0)).update s.heap.objs.size (Obj.mapSeq (·++vs.toArray))).push (seqObj "list" vs.toArray 0)}
 rw[kA];refine wpAny_bind (wpAny_holding (wpAny_call_entry slot_list_sort ⟨_,CN,rfl⟩ entry_list_sort (eN (kd:=kd) (ρ:=ρ) (P:=P) CN hz h0 (λh2 g kg=>hk h2 _ _ g λb o e=>kg b o (ne b o e) (keep b o e)) λxs g c a1 a2 a3 a4=>⟨_,rfl,?_⟩) (args_list_sort _)));exact wpAny_pure ⟨_,rfl,h xs g c a1 a2 (λb o e=>a3 b o (ne b o e) (keep b o e)) a4⟩
end
end Vs
namespace Vc
open PySem L2
def toV:Value->V
 | .ref a=>.ref a
 | _=>.aX
theorem uQ{us:List V}{its:List Value}(r:Vals us its)(h:∀u∈us,∃a,u=.ref a):us=its.map toV:=by
 induction r with
 | nil=>rfl
 | cons r _ ih =>
  obtain⟨a,rfl⟩:=h _ (List.mem_cons_self ..);cases r;rw[List.map_cons,<- ih λu hu=>h u (List.mem_cons_of_mem _ hu)];rfl
theorem rX{its:List Value}(h:∀v∈its,∃a,v=.ref a):Vals (its.map toV) its:=by
 induction its with
 | nil=>exact .nil
 | cons v its ih =>
  obtain⟨a,rfl⟩:=h _ (List.mem_cons_self ..);exact .cons rfl (ih λu hu=>h u (List.mem_cons_of_mem _ hu))
theorem dr{α:Type}:∀l:List α,l.zip l=l.map λx=>(x,x)
 | []=>rfl
 | x::l=>by rw[List.zip_cons_cons,List.map_cons,dr l]
theorem sv{X:Cx}:cQ X (.builtin "sorted") (λxs H Q=>∃(p:Addr) (us:List V) (dd:V->List Int),xs=[.ref p]/\fm X.K H p us/\(∀u∈us,(∃a,u=.ref a/\iC X.K H a ((dd u).map V.int))/\dd u≠[]) /\
  ∀(jY:List V),jY.Perm us->jY.Pairwise (λx y=>HT.lexLt (dd y) (dd x)=false)->∀l,H l=none->Q (.ref l) (upd H l (.lst jY))):=by
 intro pins s σ H xs Tp Q I r h;obtain⟨p,us,dd,rfl,hq,hu,q⟩:=h;obtain⟨u,rfl,rx⟩:=vals1 r;cases rx;obtain⟨its,rv,pl,hz⟩:=I.list hq;have hlen:=rv.length;have JD:us=its.map toV:=uQ rv λu h=>by obtain⟨⟨a,e,_⟩,_⟩:=hu u h;exact⟨a,e⟩
 have vf:∀v∈its,∃a,v=.ref a:=λv hv=>by
  obtain⟨i,hi,e⟩:=List.mem_iff_getElem.mp hv;obtain⟨u,M8,ru⟩:=rv.get (i:=i) (x:=us[i]'⋯) (List.getElem?_eq_getElem _)
  rw[List.getElem?_eq_getElem hi]at M8;cases M8;obtain⟨⟨a,e2,_⟩,_⟩:=hu (us[i]'⋯) (List.getElem_mem _)
  rw[e2]at ru;exact⟨a,by rw[<- e];exact ru⟩
 have tup:∀v∈its,Vs.nV s.heap v (dd (toV v))/\dd (toV v)≠[]:=λv hv=>by
  obtain⟨a,rfl⟩:=vf v hv;have hm:toV (.ref a)∈us:=by rw[JD];exact List.mem_map.mpr ⟨_,hv,rfl⟩
  obtain⟨⟨b,e,hT⟩,df⟩:=hu _ hm;cases e;obtain⟨ts,r1,⟨o,ho,hc,n,hd⟩,_⟩:=I.tuple hT;exact⟨⟨a,o,ts.toArray,n,rfl,ho,hc,hd,intsAre_of r1⟩,df⟩
 have mem:∀x:PyProof.Rows.Keyed,x∈(PyProof.Rows.pairsOf its).toList->x.1∈its/\x.1=x.2:=λx hx=>by
  rw[PyProof.Rows.pairsOf_toList,dr]at hx;obtain⟨v,hv,rfl⟩:=List.mem_map.mp hx;exact⟨hv,rfl⟩
 refine Vs.wc (kd:=PyProof.Rows.tuples' true) (ρ:=Vs.rk (λx=>dd (toV x.1)) (PyProof.Rows.pairsOf its).toList) (P:=λx=>x∈(PyProof.Rows.pairsOf its).toList) pl.isList ⋯ (λ_ h=>h) (λh2 A' E' g kg=>⟨λQ hQ=>?_,?_⟩) λxs g c hp hs kg hg=>?_
 ·exact Vs.tS (s:={s with heap:=g}) ⋯ (λv hv=>⟨_,(tup v hv).1.kept kg,(tup v hv).2⟩) hQ
 ·exact Vs.xA (s:={s with heap:=g}) λx hx=>(tup x.1 (mem x hx).1).1.kept kg
 ·have fP:xs.toList.Perm (PyProof.Rows.pairsOf its).toList:=Array.perm_iff_toList_perm.mp hp
  have kA:xs.size=its.length:=by have:=hp.size_eq;rw[PyProof.Rows.pairsOf_size]at this;exact this
  have iW:∀x∈xs.toList,x.1∈its/\x.1=x.2:=λx hx=>mem x (fP.mem_iff.mp hx);have perm:(xs.toList.map λx=>toV x.2).Perm us:=by
   rw[JD];refine(fP.map λx=>toV x.2).trans ?_;rw[PyProof.Rows.pairsOf_toList,dr,List.map_map];exact List.Perm.refl _
  have eq2:xs.toList.map (λx=>toV x.2)=(xs.map (·.2)).toList.map toV:=by
   rw[Array.toList_map,List.map_map];rfl
  refine⟨.ref (s.heap.objs.size+1),_,I.laid (t':=s.toks) (o:=.lst (xs.toList.map λx=>toV x.2)) kg (Nat.le_succ _) ⟨?_,(xs.map (·.2)).toList,c,?_,hg⟩,rfl,q _ perm ?_ _ (I.bC.fresh (Nat.le_succ _))⟩
  ·rw[perm.length_eq];exact hz
  ·rw[eq2]
   refine rX λv hv=>?_;rw[Array.toList_map]at hv;obtain⟨x,hx,rfl⟩:=List.mem_map.mp hv;have:=iW x hx;exact vf _ (this.2 ▸ this.1)
  ·rw[List.pairwise_map]
   refine List.pairwise_iff_getElem.mpr λi j hi hj qp=>?_;have kz:i<xs.size:=by simpa using hi
   have MZ:j<xs.size:=by simpa using hj
   have h1:=hs i j (Nat.zero_le _) (Nat.le_of_lt qp) ⋯
   rw[Vs.cV (Array.getElem?_eq_getElem kz),Vs.cV (Array.getElem?_eq_getElem MZ)]at h1;have e1:xs.toList[i]=xs[i]:=rfl;have e2:xs.toList[j]=xs[j]:=rfl;rw[e1,e2];have m1:=iW xs[i] (by simp)
   have m2:=iW xs[j] (by simp)
   have:=Vs.uB (d:=λx=>dd (toV x.1)) (l:=(PyProof.Rows.pairsOf its).toList) (x:=xs[j]) (y:=xs[i]) (fP.mem_iff.mp (by simp))
   rw[decide_eq_false ⋯]at this
   rw[<- m1.2,<- m2.2];exact this.symm
variable [KF]
variable {G:GE}{k:Nat}{S:Stat}
def bU:D->List Int
 | .tup xs=>xs.map g9
 | .int i=>[i]
 | _=>[]
def lM(x y:D):Bool:=!HT.lexLt (bU y) (bU x)
def b8(xs:List D):List D:=xs.mergeSort lM
def d6:D->Bool
 | .tup xs=>xs.all isInt&&!xs.isEmpty
 | _=>false
theorem kC(a b c:D)(h1:lM a b=true)(h2:lM b c=true):lM a c=true:=by
 unfold lM at *;simp only[Bool.not_eq_true']at *;cases e:HT.lexLt (bU c) (bU a)with
 | false=>rfl
 | true =>
  cases e2:HT.lexLt (bU c) (bU b)with
  | true=>rw[h2]at e2;cases e2
  | false =>
   cases e3:HT.lexLt (bU b) (bU c)with
   | true=>rw[Vs.eV _ _ _ e3 e]at h1;cases h1
   | false=>rw[Vs.kE _ _ e2 e3]at e;rw[e]at h1;cases h1
theorem yJ(a b:D):(lM a b||lM b a)=true:=by
 unfold lM;cases e:HT.lexLt (bU b) (bU a)with
 | false=>rfl
 | true =>
  cases e2:HT.lexLt (bU a) (bU b)with
  | false=>rfl
  | true=>have:=Vs.eV _ _ _ e e2;rw[Vs.dW]at this;cases this
theorem bF(xs:List D):(b8 xs).Perm xs:=List.mergeSort_perm xs lM
theorem da(xs:List D):(b8 xs).Pairwise λx y=>lM x y=true:=List.pairwise_mergeSort kC yJ xs
theorem ints_map:∀ {xs:List D},xs.all isInt=true->(xs.map g9).map D.int=xs
 | [],_=>rfl
 | x::xs,h=>by
  rw[List.all_cons,Bool.and_eq_true]at h;cases x with
  | int i=>rw[List.map_cons,List.map_cons,ints_map h.2];rfl
  | _=>exact absurd h.1 (by simp [isInt])
theorem dR{d:D}(h:d6 d=true):d=.tup ((bU d).map D.int):=by
 cases d with
 | tup xs =>
  unfold d6 at h;rw[Bool.and_eq_true]at h;show D.tup xs=.tup ((xs.map g9).map D.int);rw[ints_map h.1]
 | _=>exact absurd h (by simp [d6])
theorem fW{α:Type}{r:α->α->Prop}:∀ {l m:List α},l.Perm m->(∀a∈l,∀b∈l,r a b->r b a->a=b)->l.Pairwise r->m.Pairwise r->l=m
 | [],m,h,_,_,_=>(List.nil_perm.mp h).symm
 | a::l,[],h,_,_,_=>by have:=h.length_eq;simp at this
 | a::l,b::m,h,Ud,h1,h2=>by
  have hb:b∈a::l:=h.symm.mem_iff.mp (List.mem_cons_self ..);have ha:a∈b::m:=h.mem_iff.mp (List.mem_cons_self ..);rw[List.pairwise_cons]at h1 h2;have e:a=b:=by
   rcases List.mem_cons.mp hb with e|hb
   ·exact e.symm
   ·rcases List.mem_cons.mp ha with e|ha
    ·exact e
    ·exact Ud a (List.mem_cons_self ..) b (List.mem_cons_of_mem _ hb) (h1.1 b hb) (h2.1 a ha)
  subst e;rw[fW h.cons_inv (λx hx y hy=>Ud x (List.mem_cons_of_mem _ hx) y (List.mem_cons_of_mem _ hy)) h1.2 h2.2]
theorem nB{xs ys:List D}(h:xs.all d6=true)(hp:ys.Perm xs)(hs:ys.Pairwise λx y=>lM x y=true):ys=b8 xs:=by
 refine fW (hp.trans (bF xs).symm) (λa ha b hb h1 h2=>?_) hs (da xs);have ia:=dR (List.all_eq_true.mp h a (hp.mem_iff.mp ha));have ib:=dR (List.all_eq_true.mp h b (hp.mem_iff.mp hb));unfold lM at h1 h2;simp only[Bool.not_eq_true']at h1 h2;rw[ia,ib,Vs.kE _ _ h2 h1]
def mj:List D->(EV->Prop)->Prop
 | [.lst xs],Q=>xs.all d6=true/\Q (.own (b8 xs))
 | _,_=>False
def iJ(F:Hp):V->List Int
 | .ref a=>match F a with
  | some (.tup vs)=>vs.map λv=>match v with|.int i=>i|_=>0
  | _=>[]
 | _=>[]
theorem p8{F:Hp}{v:V}{d:D}(r:Rep F v d)(h:d6 d=true):iJ F v=bU d/\∃a,v=.ref a/\F a=some (.tup ((bU d).map V.int)):=by
 cases r with
 | tup hf rl =>
  unfold d6 at h;rw[Bool.and_eq_true]at h;have e:=rl.ints h.1;subst e;refine⟨?_,_,rfl,hf⟩;unfold iJ;dsimp only;rw[hf];dsimp only;rw[List.map_map];exact(List.map_congr_left (λx _=>rfl)).trans (List.map_id _)
 | _=>exact absurd h (by simp [d6])
theorem uA{F:Hp}:∀ {vs:List V} {xs:List D},aG F vs xs->xs.all d6=true->xs=vs.map λv=>.tup ((iJ F v).map D.int)
 | _,_,.nil,_=>rfl
 | _,_,.cons r t,h=>by
  rw[List.all_cons,Bool.and_eq_true]at h;rw[List.map_cons,<- uA t h.2,(p8 r h.1).1,<- dR h.1]
theorem aG.mem{F:Hp}:∀ {vs:List V} {xs:List D},aG F vs xs->∀v∈vs,∃d∈xs,Rep F v d
 | _,_,.cons r t,v,hv=>by
  rcases List.mem_cons.mp hv with rfl|hv
  ·exact⟨_,List.mem_cons_self ..,r⟩
  ·obtain⟨d,hd,rd⟩:=aG.mem t v hv
   exact⟨d,List.mem_cons_of_mem _ hd,rd⟩
theorem qI{F:Hp}{f:V->D}:∀ {vs:List V},(∀v∈vs,Rep F v (f v))->aG F vs (vs.map f)
 | [],_=>.nil
 | v::vs,h=>.cons (h v (List.mem_cons_self ..)) (qI λu hu=>h u (List.mem_cons_of_mem _ hu))
theorem B4:ya G k S (.builtin "sorted") mj:=⟨λK xs H Q=>∃(p:Addr) (us:List V) (dd:V->List Int),xs=[.ref p]/\fm K H p us/\(∀u∈us,(∃a,u=.ref a/\iC K H a ((dd u).map V.int))/\dd u≠[]) /\
  ∀(jY:List V),jY.Perm us->jY.Pairwise (λx y=>HT.lexLt (dd y) (dd x)=false)->∀l,H l=none->Q (.ref l) (upd H l (.lst jY)),λ_ _ ok=>sv,λY F H ao σ vs ds Qd Q R r q g=>by
 unfold mj at q
 split at q
 ·rename_i xs
  obtain⟨v,rfl,rv⟩:=r.one;obtain⟨p,us,rfl,h1,h2⟩:=rv.lst;have all:=List.all_eq_true.mp q.1;refine⟨p,us,iJ F,rfl,.inl h1,λu hu=>?_,λjY hp hs=>?_⟩
  ·obtain⟨d,hd,rd⟩:=h2.mem u hu
   obtain⟨e1,a,rfl,e2⟩:=p8 rd (all d hd);refine⟨⟨a,rfl,.of (by rw[e1];exact R.fr _ _ e2)⟩,?_⟩
   rw[e1];have hi:=all d hd;cases d with
   | tup ys =>
    unfold d6 at hi;rw[Bool.and_eq_true]at hi;intro z;have:ys=[]:=by simpa [bU]using z
    subst this;exact absurd hi.2 ∅
   | _=>exact absurd hi (by simp [d6])
  ·have ex:=uA h2 q.1
   have rep:∀v∈jY,Rep F v (.tup ((iJ F v).map D.int)):=λv hv=>by
    obtain⟨d,hd,rd⟩:=h2.mem v (hp.mem_iff.mp hv);rw[(p8 rd (all d hd)).1,<- dR (all d hd)];exact rd
   have key:∀v,bU (.tup ((iJ F v).map D.int))=iJ F v:=λv=>by
    show((iJ F v).map D.int).map g9=_;rw[List.map_map];exact(List.map_congr_left (λx _=>rfl)).trans (List.map_id _)
   have e:jY.map (λv=>D.tup ((iJ F v).map D.int))=b8 xs:=by
    refine nB q.1 (by rw[ex];exact hp.map _) ?_
    rw[List.pairwise_map];refine hs.imp λ{x y} h=>?_;unfold lM;rw[key,key,h];rfl
   have rl:=qI rep;rw[e]at rl;exact g.own R rl q.2
 ·exact q.elim⟩
end Vc
namespace Vc
open PySem L2
variable [KF]
variable {G:GE}{k:Nat}{S:Stat}
def C3(i:Nat)(j:Int)(d:D)(σ:Sd)(Q:Sd->Prop):Prop:=match σ[i]? with
 | some (some (.own xs))=>match xm xs.length j with
  | some m=>Q (σ.set i (some (.own (xs.set m d))))
  | none=>False
 | _=>False
def uJ(i:Nat)(tx:TV)(te:TD):cu:=λDe σ=>te σ λd aA=>tP aA i/\tx aA λy bu=>match fh bu y with
 | some (.int j)=>C3 i j d bu De.nx
 | _=>False
theorem Hy{X:Cx}{st:Stmt}{t t':TS}(h:PS X st t)(i:∀Dn σ H,t' Dn σ H->t Dn σ H):PS X st t':=λpins s σ H Dn I q=>h pins s σ H Dn I (i Dn σ H q)
theorem v9(i:Nat){x:Str}{ix e:Expr}{tx:TV}{te:TD}{pos fH kG:Pos}(he:ED G k S e te)(hx:EO G k S ix tx)(ho:EO G k S (.Name x kG) (af i))
  (hs:∀line env,swapsWithSole [.Subscript (.Name x kG) ix fH] e line env=pure false:=by intro _ _;rfl) (hw:∀env,swappedStores [.Subscript (.Name x kG) ix fH] e env=pure none:=by intro _;rfl)
  (h1:∀env,(assignEach [.Subscript (.Name x kG) ix fH] env).map (·.2)=[assign (.Subscript (.Name x kG) ix fH) env]:=by intro _;rfl)
  (ha:∀env v,assign (.Subscript (.Name x kG) ix fH) env v=(do
   let ov <- holding [v] (eval (.Name x kG) env)
   let iv <- holding [v,ov] (eval ix env)
   standAt fH
   holding [v,ov,iv] (setItem ov iv v)
   release [v,ov,iv] []):=by intro _ _;rfl):ES G k S (.Assign [.Subscript (.Name x kG) ix fH] e pos) (uJ i tx te):=.mk λX Y ok =>
 Hy (QB (he X Y ok) (PV (ho X Y ok) (hx X Y ok) set_list (ha _)) (hs _ _) (hw _) (h1 _)) λDn σ H q=>by
  obtain⟨F,ao,De,R,q,K⟩:=q;refine⟨F,ao,_,R,q,λv H1 F1 d aA s1 R1 r1 q1=>?_⟩;obtain⟨⟨ys,e0⟩,q1⟩:=q1;refine⟨F1,aA,λov bu=>ov=.var i/\bu=aA,R1,?_,λv2 H2 F2 ov bu s2 R2 r2 q2=>?_⟩
  ·unfold af;rw[e0];exact⟨rfl,rfl⟩
  ·obtain⟨rfl,rfl⟩:=q2
   have r2:σ[i]?=some (some v2):=r2;refine⟨F2,bu,_,R2,q1,λv3 H3 F3 y eB s3 R3 r3 q3=>?_⟩
   split at q3
   ·rename_i j ej
    unfold C3 at q3
    split at q3
    ·rename_i xs ex
     split at q3
     ·rename_i m em
      obtain⟨a,vs,w1,w2,w3,w4,w5⟩:=R3.own i xs ex;rw[r2]at w1;cases w1;have rj:=(R3.fh r3 ej).int;subst rj;refine⟨a,vs,j,m,rfl,rfl,w2,by rw[w3.length];exact em,?_⟩
      exact K.nx _ _ F3 _ ((s1.trans s2).trans s3) (R3.write ex r2 (aG.set ((r1.mono s2).mono s3) m w3)) q3
     ·exact q3.elim
    ·exact q3.elim
   ·exact q3.elim
abbrev kY:=List D->List D->(B->List D->Prop)->Prop
def qX(sp:kY):Sp:=λvs H Q _=>∃F xs ds a us rest Qd,vs=.ref a::rest/\sg F H/\H a=some (.lst us)/\aG F us xs/\F a=none/\aG F rest ds/\sp xs ds Qd /\
 ∀v H' F' b ys jY,aw F F'->aw F' H'->(∀c o,c≠a->H c=some o->H' c=some o)->H' a=some (.lst jY)->aG F' jY ys->F' a=none->(∀c o,F' c=some o->F c=some o\/Nw H c o)->FO H F' H' v b->Qd b ys->Q v H'
def gG(G:GE)(k:Nat)(x:Str)(sp:kY):Prop:=∃f fd ps,dQ G.P G.w G.K G.mg G.base vg k f fd ps (qX sp)/\G.mg x=some (.ref f)/\PySem.W.keepIn G.K (.ref f)=true/\Binds G.K fd ps []
theorem gG.mono{x:Str}{sp:kY}{j:Nat}(h:gG G j x sp)(l:j<=k):gG G k x sp:=by
 obtain⟨f,fd,ps,h1,h2,h3,h4⟩:=h;exact⟨f,fd,ps,h1.mono l,h2,h3,h4⟩
theorem dH.D7{ao:Sd}{σ:St}{a:Addr}{i:Nat}{xs ys:List D}(h:dH ao σ a)(e:ao[i]?=some (some (.own xs))):dH (ao.set i (some (.own ys))) σ a:=by
 refine⟨λj js e1 z=>?_,λ⟨j,o,c,e1,e2,hm⟩=>?_⟩
 ·rcases gs e1 with⟨rfl,_⟩|⟨_,e1⟩
  ·exact h j xs e z
  ·exact h j js e1 z
 ·rcases gs e1 with⟨_,z⟩|⟨_,e1⟩
  ·cases z
  ·exact h.Tc ⟨j,o,c,e1,e2,hm⟩
theorem RS.As{Y:bI}{F F':Hp}{ao:Sd}{σ:St}{H H':Hp}{i:Nat}{xs ys:List D}{a:Addr}{us:List V}(R:RS Y F ao σ H)(e:ao[i]?=some (some (.own xs)))(h:σ[i]?=some (some (.ref a)))(s1:aw F F')(s2:aw F' H')(s3:∀c o,c≠a->H c=some o->H' c=some o)
  (ha:H' a=some (.lst us)) (r:aG F' us ys) (fa:F' a=none) (fr:∀c o,F' c=some o->F c=some o\/Nw H c o):RS Y F' (ao.set i (some (.own ys))) σ H':=by
 obtain⟨b,vs,w1,w2,w3,w4,w5⟩:=R.own i xs e;rw[h]at w1;cases w1;have hl:i<ao.length:=(List.getElem?_eq_some_iff.mp e).1;have CO:pN Y F' (ao.set i (some (.own ys))) σ H':=R.ob.step s1 (λj o q=>by
  rcases gs q with⟨_,z⟩|⟨hj,q⟩
  ·cases z
  ·exact⟨q,rfl⟩) (λb hb=>by
  obtain⟨z1,z2,z3⟩:=R.ob.owned hb;have df:b≠a:=λz=>R.ob.iK i xs a e h (z ▸ hb);refine⟨?_,?_,z3⟩
  ·cases q:H b with
   | none=>exact absurd q z2
   | some o=>exact s3 b o df q
  ·cases q:F' b with
   | none=>rfl
   | some o =>
    rcases fr b o q with w|w
    ·rw[z1]at w;cases w
    ·rcases w with w|⟨ws,rfl⟩
     ·exact absurd w z2
     ·cases q3:H b with
      | none=>exact absurd q3 z2
      | some o3 =>
       have y:=s2 b _ q;rw[s3 b o3 df q3]at y;cases y;exact absurd q3 (R.ob.Ds hb)) (λj zs b q1 q2=>by
  rcases gs q1 with⟨e1,_⟩|⟨hj,q1⟩
  ·subst e1
   rw[h]at q2;cases q2;exact R.ob.iK j xs a e h
  ·exact R.ob.iK j zs b q1 q2) λb hb=>by
  by_cases df:b=a
  ·rw[df,ha];exactλz=>nomatch z
  ·cases q:H b with
   | none=>exact absurd q (R.ob.there b hb)
   | some o=>rw[s3 b o df q];exactλz=>nomatch z
 refine⟨by simpa using R.len,R.lo.trans s1,s2,λb o q=>?_,λb o q n=>?_,λj d q=>?_,λj zs q=>?_,λj l zs qs b q1 q2 q3 q4=>?_,λp hp=>?_,CO⟩
 ·rcases fr b o q with h|h
  ·exact R.eQ b o h
  ·exact .inr (h.imp (λh=>(R.bZ h).1) id)
 ·have:b≠a:=λz=>by
   subst z;rcases w5 with w5|w5
   ·rw[w5]at q;cases q
   ·exact bI.xk n w5
  exact s3 b o this (R.old b o q n)
 ·rcases gs q with⟨_,z⟩|⟨hj,q⟩
  ·cases z
  ·obtain⟨v,h1,h2⟩:=R.sh j d q
   exact⟨v,h1,h2.mono s1⟩
 ·rcases gs q with⟨rfl,z⟩|⟨hj,q⟩
  ·cases z
   exact⟨a,us,h,ha,r,fa,w5⟩
  ·obtain⟨b,ws,z1,z2,z3,z4,z5⟩:=R.own j zs q
   have:b≠a:=λz=>hj (R.dis j i zs xs a q e (z ▸ z1) h);refine⟨b,ws,z1,s3 b _ this z2,z3.mono s1,?_,z5⟩;cases q':F' b with
   | none=>rfl
   | some o =>
    rcases fr b o q' with h|h
    ·rw[z4]at h;cases h
    ·rcases h with h|⟨ws',rfl⟩
     ·rw[z2]at h;cases h
     ·have y:=s2 b _ q';rw[s3 b _ this z2]at y;cases y
 ·have f:∀ {m:Nat} {ms:List D},(ao.set i (some (B.own ys)))[m]?=some (some (B.own ms))->∃FA,ao[m]?=some (some (B.own FA)):=λ{m ms} q=>by
   rcases gs q with⟨rfl,z⟩|⟨hj,q⟩
   ·exact⟨xs,e⟩
   ·exact⟨_,q⟩
  obtain⟨_,q1⟩:=f q1;obtain⟨_,q2⟩:=f q2;exact R.dis j l _ _ b q1 q2 q3 q4
 ·obtain⟨z1,zs,z2⟩:=R.io p hp
  refine⟨z1,?_⟩
  by_cases VS:p.1=i
  ·exact⟨ys,by rw[VS,k8 hl]⟩
  ·exact⟨zs,by rw[bB VS];exact z2⟩
def Y0(sp:kY)(xs ds:List D)(Q:B->List D->Prop):Prop:=sp xs ds Q
def dE(sp:kY)(i:Nat)(t:fo):TX:=λσ Q=>tP σ i/\t σ λds aA=>match aA[i]? with
 | some (some (.own xs))=>Y0 sp xs ds λb ys=>Q (bE b) (aA.set i (some (.own ys)))
 | _=>False
theorem bq{x y:Str}{sp:kY}{i:Nat}{es:List Expr}{t:fo}{p pos kG:Pos}(h:gG G k x sp)(ho:EO G k S (.Name y kG) (af i))(ha:wG G k S es t)(hg:S.sc.lookup x=some .globalImplicit:=by rfl)(qm:(x==("__debug__":Str))=false:=by decide)
  (he:∀env,starEach (.Name y kG::es) env=(false,eval (.Name y kG) env)::starEach es env:=by intro _;rfl) (fP:∀env,(backTo pos (starEach es env)).any (·.1)=false:=by intro _;rfl) (hh:S.lK=false:=by rfl):EX G k S (.Call (.Name x p) (.Name y kG::es) [] pos) (dE sp i t):=.mk λX Y ok=>by
 obtain⟨f,fd,ps,h1,h2,h3,h4⟩:=h;have SW:dQ X.prog X.w X.K X.mg X.base vg k f fd ps (qX sp):=by rw[ok.P,ok.w,ok.K,ok.mg,ok.base];exact h1
 refine bb (xD (E:=E0) (dvs:=[]) (ds:=[]) SW (ok.room hh) (dI ok hg) (by rw[ok.mg];exact h2) (by rw[ok.K];exact h3) (by rw[ok.K];exact h4) .nil JW (cn (ho X Y ok) (ha X Y ok) (he _)) qm (he _) (fP _)) λσ H Q q=>?_
 obtain⟨F,ao,Qd,R,⟨⟨ys,e0⟩,q⟩,K⟩:=q;refine⟨F,ao,λov bu=>ov=.var i/\bu=ao,R,?_,λv1 H1 F1 ov aA s1 R1 r1 q1=>?_⟩
 ·unfold af;rw[e0];exact⟨rfl,rfl⟩
 obtain⟨rfl,rfl⟩:=q1;have r1:σ[i]?=some (some v1):=r1;refine⟨F1,aA,_,R1,q,λvs H2 F2 ds bu s2 R2 r2 q2=>?_⟩
 split at q2
 ·rename_i xs ex
  obtain⟨a,us,w1,w2,w3,w4,w5⟩:=R2.own i xs ex;rw[r1]at w1;cases w1;show qX sp ((.ref a::vs)++[]) H2 Q E0;rw[List.append_nil];refine⟨F2,xs,ds,a,us,vs,_,rfl,⟨R2.fr,R2.ob.tab⟩,w2,w3,w4,r2,q2,λv H' F' b zs jY t1 t2 t3 t4 t5 t6 t7 t8 t9=>?_⟩;have R3:=R2.As ex r1 t1 t2 t3 t4 t5 t6 t7;cases b with
  | sh d=>exact K v H' F' (.val d) _ ((s1.trans s2).trans t1) R3 t8 t9
  | own ws =>
   obtain⟨c,cs,rfl,z1,z2,z3,z4⟩:=t8;refine K _ H' F' (.own ws) _ ((s1.trans s2).trans t1) R3 ⟨c,cs,rfl,z1,z2,z3,(R2.bZ z4).1,(R2.cY z4).D7 ex⟩ t9
  | obj o =>
   obtain⟨c,rfl,z1,z2⟩:=t8;exact K _ H' F' (.obj o) _ ((s1.trans s2).trans t1) R3 ⟨c,rfl,z1,λb hb=>⟨(z2 b hb).1,(z2 b hb).2.1,(R2.bZ (z2 b hb).2.2).1,(R2.cY (z2 b hb).2.2).D7 ex⟩⟩ t9
 ·exact q2.elim
def bz(n:Nat)(xs ds:List D):Sd:=some (.own xs)::aP (n-1) ds
def vO(Q:B->List D->Prop)(b:B)(σ:Sd):Prop:=match σ[(0:Nat)]? with
 | some (some (.own ys))=>Q b ys
 | _=>False
theorem RS.bz{F H:Hp}{a:Addr}{us rest:List V}{xs ds:List D}(n:Nat)(hn:1<=n)(s:sg F H)(ha:H a=some (.lst us))(ru:aG F us xs)(fa:F a=none)(r:aG F rest ds):
  RS ⟨H,F,[(0,a)],[]⟩ F (bz n xs ds) ((V.ref a::rest).map some++List.replicate (n-(V.ref a::rest).length) none) H where
 len:=by unfold Vc.bz aP;simp [r.length];omega
 lo:=aw.refl _
 fr:=s.1
 eQ:=λb o e=>.inl e
 old:=λb o e _=>e
 sh:=λi d e=>by
  cases i with
  | zero=>unfold Vc.bz at e;simp at e
  | succ i =>
   have e':(aP (n-1) ds)[i]?=some (some (.sh d)):=by unfold Vc.bz at e;simpa using e
   obtain⟨v,h1,h2⟩:=nG (n-1-ds.length) r e';refine⟨v,?_,h2⟩;have:n-(V.ref a::rest).length=n-1-ds.length:=by rw[List.length_cons,r.length];omega
   rw[this];simpa using h1
 own:=λi zs e=>by
  cases i with
  | zero =>
   unfold Vc.bz at e;simp at e;subst e;exact⟨a,us,by simp,ha,ru,fa,.inr (by simp [bI.S8])⟩
  | succ i =>
   have e':(aP (n-1) ds)[i]?=some (some (.own zs)):=by unfold Vc.bz at e;simpa using e
   exact absurd e' (e9 _ _ _ _)
 dis:=λi j zs ys b e1 e2 _ _=>by
  have z:∀ {i:Nat} {zs:List D},(Vc.bz n xs ds)[i]?=some (some (.own zs))->i=0:=λ{i zs} e=>by
   cases i with
   | zero=>rfl
   | succ i =>
    have e':(aP (n-1) ds)[i]?=some (some (.own zs)):=by unfold Vc.bz at e;simpa using e
    exact absurd e' (e9 _ _ _ _)
  rw[z e1,z e2]
 io:=λp hp=>by
  have:p=(0,a):=by simpa using hp
  subst this;exact⟨by simp,xs,rfl⟩
 ob:=.none (λi o e=>by
  cases i with
  | zero=>unfold Vc.bz at e;simp at e
  | succ i =>
   have e':(aP (n-1) ds)[i]?=some (some (.obj o)):=by unfold Vc.bz at e;simpa using e
   exact absurd e' (kO _ _ _ _)) s.2 λb hb=>by cases hb
theorem Gr{x qual:Str}{st:Stmt}{f:Addr}{fd:FuncData}{N ps:List Str}{sp:kY}{t:cu}(hK:G.K=KF.K)(Fn:FK G.K x qual st f fd)(Sc:aH N ps (ah st))(ht:dC G k ⟨N,(ah st).names,[0],false,false,false,λ_ _=>False⟩ (ax st) t)(hn:1<=N.length)
  (len:∀xs ds Q,sp xs ds Q->ds.length+1=ps.length)
  (body:∀xs ds Q,sp xs ds Q->t {nx:=vO Q (.sh .aX),rt:=λb σ=>vO Q b σ} (bz N.length xs ds)):dQ G.P G.w G.K G.mg G.base vg (k+1) f fd ps (qX sp):=by
 refine Fn.ok Sc (λvs H Q E h=>?_) (λiq A outer s H vs Q E hr h=>?_)
 ·obtain⟨F,xs,ds,a,us,rest,Qd,rfl,s,h1,h2,h3,r,q,K⟩:=h
  rw[List.length_cons,r.length];exact len _ _ _ q
 ·obtain⟨F,xs,ds,a,us,rest,Qd,rfl,sm,h1,h2,h3,r,q,K⟩:=h
  refine⟨_,ht (p7 vg G.P G.w G.K G.mg G.base N qual (ah st) f iq A outer s H E).Td ⟨H,F,[(0,a)],[]⟩ ⟨rfl,rfl,rfl,hK,rfl,rfl,rfl,rfl,Sc.nd,λp hp=>by
   have:p=(0,a):=by simpa using hp
   subst this;simp,(λ_ h=>nomatch h),λ_=>rfl,Sc.kind,λ_ _ _=>rfl,λ_=>hr.hd,hr.dp,hr.un,λ_=>PassesOwn.never,λ_=>⟨rfl,rfl,rfl⟩,λ_ _ h=>h.elim,λh=>nomatch h⟩,F,bz N.length xs ds,_,RS.bz _ hn sm h1 h2 h3 r,body xs ds Qd q,?_⟩
  have same:∀ {F':Hp} {ao:Sd} {σ:St} {H':Hp},RS ⟨H,F,[(0,a)],[]⟩ F' ao σ H'->∀c o,c≠a->H c=some o->H' c=some o:=λR c o hc e=>R.old c o e (by simpa [bI.C1]using hc)
  have fin:∀ {F':Hp} {ao:Sd} {σ:St} {H':Hp} {v:V} {b:B},aw F F'->RS ⟨H,F,[(0,a)],[]⟩ F' ao σ H'->FO H F' H' v b->vO Qd b ao->Q v H':=λ{F' ao σ H' v b} s' R' r' q'=>by
   unfold vO at q'
   split at q'
   ·rename_i ys ey
    obtain⟨c,jY,w1,w2,w3,w4,w5⟩:=R'.own 0 ys ey;have i0:=(R'.io (0,a) (by simp)).1
    rw[i0]at w1;cases w1;exact K v H' F' b ys jY s' R'.fr (same R') w2 w3 w4 R'.eQ r' q'
   ·exact q'.elim
  refine⟨λσ H' F' ao s' R' q'=>?_,λv σ H' F' ao b s' R' r' q'=>?_,λ_ _ _ _ _ _ h=>h.elim,λ_ _ _ _ _ _ h=>h.elim⟩
  ·exact fin (b:=.sh .aX) s' R' .aX q'
  ·refine fin (b:=b) s' R' ?_ q'
   cases b with
   | sh d=>exact r'
   | own xs =>
    obtain⟨a,us,rfl,w1,w2,w3,w4,w5⟩:=r';exact⟨a,us,rfl,w1,w2,w3,w4⟩
   | obj o =>
    obtain⟨a,rfl,w1,w2⟩:=r';exact⟨a,rfl,w1,λb hb=>⟨(w2 b hb).1,(w2 b hb).2.1,(w2 b hb).2.2.1⟩⟩
theorem cw.Yp{x:Str}{st:Stmt}{ps N:List Str}{f:Addr}{fd:FuncData}{t:cu}{sp:kY}(d:cw G x st ps f fd)(hK:G.K=KF.K)(Sc:aH N ps (ah st))(ht:dC G k ⟨N,(ah st).names,[0],false,false,false,λ_ _=>False⟩ (ax st) t)(hn:1<=N.length)
  (len:∀xs ds Q,sp xs ds Q->ds.length+1=ps.length) (body:∀xs ds Q,sp xs ds Q->t {nx:=vO Q (.sh .aX),rt:=λb σ=>vO Q b σ} (bz N.length xs ds)):gG G (k+1) x sp:=
 ⟨f,fd,ps,Gr hK d.F Sc ht hn len body,d.m,d.F.kp,d.b⟩
end Vc
namespace Vc
open PySem L2
variable [KF]
variable {G:GE}{k:Nat}{S:Stat}
def aD(S:Stat)(scope:Scope)(N':List Str)(m:Nat):Stat:=⟨N',jg scope.names S.sc,[m],true,false,false,λ_ _=>False⟩
theorem gW{X X':Cx}{Y:bI}{scope:Scope}{N':List Str}{caps:List (Option Nat)}{m:Nat}(hh:S.lK=false)(ok:dD X G k S Y)(b:iu S scope N' caps)(c:kX X X' scope N')(Y':bI)(cU:∀p∈Y'.io,p.1=m):dD X' G k (aD S scope N' m) Y':=
 have z:=iI hh ok b c ⟨Y'.H0,Y'.F0,[],[]⟩ rfl
 ⟨z.P,z.w,z.K,z.kf,z.mg,z.base,z.N,z.sc,z.nd,λp hp=>by rw[cU p hp];exact List.mem_singleton.mpr rfl,(λh=>nomatch h),z.calm,z.kind,(λh=>by cases h),z.hd,z.dp,z.un,z.po,(λh=>nomatch h),(λ_ _ h=>h.elim),λh=>nomatch h⟩
def ownAt(m:Nat)(σ:Sd)(Q:List D->Prop):Prop:=match σ[m]? with
 | some (some (.own ys))=>Q ys
 | _=>False
def gU(g:lR)(tc:TB)(te:TD)(r9:Sd)(m:Nat):List D->List D->List D->(List D->List D->Prop)->Prop
 | [],acc,xs,Q=>Q acc xs
 | x::r,acc,xs,Q=>g x (r9.set m (some (.own xs))) λaA=>tc aA λb bu=>if b=true then te bu λd eB=>lb r9 eB/\acc.length<sizeLine/\ownAt m eB λys=>gU g tc te r9 m r (acc++[d]) ys Q
  else lb r9 bu/\ownAt m bu λys=>gU g tc te r9 m r acc ys Q
def gD(ios:List Nat)(caps:List (Option Nat))(j m:Nat)(ti:fo)(g:lR)(tc:TB)(te:TD):TX:=λσ Q=>ti σ λitems aA=>tJ ios (caps.set m none) aA λbu=>ownAt j bu λxs=>gU g tc te (dw (caps.set m none) bu) m items [] xs λds ys=>Q (.own ds) (bu.set j (some (.own ys)))
theorem Ax{Y:bI}{F:Hp}{ao:Sd}{σ:St}{H:Hp}(R:RS Y F ao σ H)(caps:List (Option Nat))(m:Nat){F' H':Hp}(s1:aw F F')(s2:aw F' H'):RS ⟨H',F',[],[]⟩ F' (dw (caps.set m none) ao) (fC caps σ) H':=by
 have R0:=wM R (caps.set m none) s1 s2;refine⟨by unfold dw fC;simp,R0.lo,R0.fr,R0.eQ,R0.old,λi d e=>?_,λi xs e=>absurd e (ck _ _ _ _),λi j xs ys a e=>absurd e (ck _ _ _ _),λp hp=>(by cases hp),.none (cj _ _) R0.ob.tab λb hb=>by cases hb⟩
 obtain⟨v,h1,h2⟩:=R0.sh i d e;refine⟨v,?_,h2⟩
 by_cases hi:i=m
 ·subst hi
  unfold dw at e;rw[List.getElem?_map]at e
  by_cases hl:i<caps.length
  ·rw[List.getElem?_set_self hl]at e;cases e
  ·rw[List.getElem?_eq_none (by rw[List.length_set];omega)]at e;cases e
 ·unfold fC at h1 ⊢
  rw[List.getElem?_map]at h1 ⊢;rw[List.getElem?_set_ne (Ne.symm hi)]at h1;exact h1
theorem RS.inner{Y:bI}{F:Hp}{r9 ao:Sd}{σ:St}{H:Hp}{m:Nat}{a:Addr}{us:List V}{xs:List D}(R:RS Y F ao σ H)(l:lb r9 ao)(uo:∀(i:Nat) (xs:List D),r9[i]?≠some (some (.own xs)))(Dq:∀(i:Nat) (o:O),r9[i]?≠some (some (.obj o)))(hm:m<r9.length)(h:σ[m]?=some (some (.ref a)))(r:aG F us xs)(fa:F a=none){H':Hp}(s:aw F H')(ha:H' a=some (.lst us)):
  RS ⟨H',F,[(m,a)],[]⟩ F (r9.set m (some (.own xs))) σ H' where
 len:=by rw[List.length_set];exact(lZ l).trans R.len
 lo:=aw.refl _
 fr:=s
 eQ:=λb o e=>.inl e
 old:=λb o e _=>e
 sh:=λi d e=>by
  rcases gs e with⟨_,z⟩|⟨_,e⟩
  ·cases z
  ·exact R.sh i d (lY l e)
 own:=λi zs e=>by
  rcases gs e with⟨rfl,z⟩|⟨_,e⟩
  ·cases z
   exact⟨a,us,h,ha,r,fa,.inr (by simp [bI.S8])⟩
  ·exact absurd e (uo i zs)
 dis:=λi j zs ys b e1 e2 _ _=>by
  have z:∀ {i:Nat} {zs:List D},(r9.set m (some (B.own xs)))[i]?=some (some (.own zs))->i=m:=λ{i zs} e=>by
   rcases gs e with⟨rfl,_⟩|⟨_,e⟩
   ·rfl
   ·exact absurd e (uo i zs)
  rw[z e1,z e2]
 io:=λp hp=>by
  have:p=(m,a):=by simpa using hp
  subst this;exact⟨h,xs,by rw[k8 hm]⟩
 ob:=.none (λi o e=>by
  rcases gs e with⟨_,z⟩|⟨_,e⟩
  ·cases z
  ·exact Dq i o e) R.ob.tab λb hb=>by cases hb
def lGm(m:Nat)(g:lR):TG:=λv σ H Q=>∃Y:bI,(∀p∈Y.io,p.1=m)/\lG Y g v σ H Q
def lBm(m:Nat)(t:TB):TT:=λσ H Q=>∃Y:bI,(∀p∈Y.io,p.1=m)/\lB Y t σ H Q
def lDm(m:Nat)(t:TD):TE:=λσ H Q=>∃Y:bI,(∀p∈Y.io,p.1=m)/\lD Y t σ H Q
section
variable {elt target iter:Expr}{ifs:List Expr}{scope:Scope}{pos:Pos}{N':List Str}{caps:List (Option Nat)}{ti:fo}{g:lR}{tc:TB}{te:TD}{j m:Nat}
theorem oN{X:Cx}{Y:bI}(hh:S.lK=false)(ok:dD X G k S Y)(b:iu S scope N' caps)(hg:EG G k (aD S scope N' m) target g)(ht:FH G k (aD S scope N' m) ifs tc)(he:ED G k (aD S scope N' m) elt te):
  ∀X',kX X X' scope N'->PG X' target (lGm m g)/\FN X' ifs (lBm m tc)/\PE X' elt (lDm m te):=λX' c =>
 ⟨λpins s σ H v u Q I r ⟨Y',cU,q⟩=>hg X' Y' (gW hh ok b c Y' cU) pins s σ H v u Q I r q,λpins s σ H Q I ⟨Y',cU,q⟩=>ht X' Y' (gW hh ok b c Y' cU) pins s σ H Q I q,λpins s σ H Q I ⟨Y',cU,q⟩=>he X' Y' (gW hh ok b c Y' cU) pins s σ H Q I q⟩
theorem qT{α:Type}(l:List α)(i:Nat)(a b:α):(l.set i a).set i b=l.set i b:=by simp
theorem p0{Y:bI}{ios:List Nat}(cU:∀p∈Y.io,p.1∈ios)(vM:caps[m]?=some (some j)){σ:St}{H:Hp}{Q:VK}(q:lX Y (gD ios caps j m ti g tc te) σ H Q):kQ (lI Y ti) caps (lGm m g) (lBm m tc) (lDm m te) σ H Q:=by
 obtain⟨F,ao,Qd,R,q,K⟩:=q;refine⟨F,ao,_,R,q,λH1 F1 zm J items s1 R1 it q1 acc iU=>?_⟩;obtain⟨F2,cJ,s2,R2,q2⟩:=d4 cU R1 q1;unfold ownAt at q2
 split at q2
 ·rename_i Kd e0
  have it2:=it.mono s2;have a0:Y.H0 acc=none:=(R2.bZ iU).1;have aF:F2 acc=none:=same_none R2.fr iU;obtain⟨a,Tp,ha1,JH,SX,ha4,ha5⟩:=R2.own j Kd e0;have SK:a≠acc:=λz=>by rw[z,iU]at JH;cases JH
  have hj:j<cJ.length:=(List.getElem?_eq_some_iff.mp e0).1;have aN:∀(xs:List D),dH (cJ.set j (some (.own xs))) σ acc:=λxs=>(R2.cY iU).D7 e0;have sw:∀ {F5 H5:Hp} {o:HO},aw F5 H5->F5 acc=none->aw F5 (upd H5 acc o):=λ{F5 H5 o} s5 h b u e=>by
   have:b≠acc:=λz=>by rw[z,h]at e;cases e
   rw[ak this];exact s5 b u e
  have hm:m<(dw (caps.set m none) cJ).length:=by
   unfold dw;rw[List.length_map,List.length_set];exact(List.getElem?_eq_some_iff.mp vM).1
  have hcm:(fC caps σ)[m]?=some (some (.ref a)):=by
   unfold fC;rw[List.getElem?_map,vM];show some ((σ[j]?).join)=_;rw[ha1];rfl
  have e00:cJ.set j (some (.own Kd))=cJ:=by
   apply List.ext_getElem?;intro i
   by_cases hi:i=j
   ·subst hi;rw[k8 hj,e0]
   ·rw[bB hi]
  refine⟨λi mm aA H'=>∃Fi ds ys xs us,aw F2 Fi/\RS Y Fi (cJ.set j (some (.own xs))) σ H'/\H' acc=some (.lst ys)/\aG Fi ys ds/\Fi acc=none/\H' a=some (.lst us)/\aG Fi us xs/\Fi a=none/\aA[m]?=some (some (.ref a))/\RS ⟨H',Fi,[(m,a)],[]⟩ Fi ((dw (caps.set m none) cJ).set m (some (.own xs))) aA H'/\gU g tc te (dw (caps.set m none) cJ) m (items.drop i) ds xs (λds ys=>Qd (.own ds) (cJ.set j (some (.own ys))))/\mm=items.length-i/\i<=items.length,
   ⟨items.length,F2,[],[],Kd,Tp,aw.refl _,by rw[e00];exact R2.other aF a0 (e00 ▸ aN Kd),ay,.nil,aF,by rw[ak SK];exact JH,SX,ha4,hcm,?_,q2,rfl,Nat.zero_le _⟩,?_⟩
  ·exact(Ax R2 caps m (aw.refl _) (sw (o:=.lst []) R2.fr aF)).inner (fS _) (ck _ _) (cj _ _) hm hcm SX ha4 (sw R2.fr aF) (by rw[ak SK];exact JH)
  rintro i mm aA Hi ⟨Fi,ds,ys,xs,us,si,Ri,iV,ri,fi,ZQ,rui,fai,hmi,Zd,qi,rfl,hi⟩;have vf:=it2 Fi Hi si Ri.fr i
  by_cases hl:i<items.length
  ·right
   have hd:items.drop i=items[i]::items.drop (i+1):=by rw[List.drop_eq_getElem_cons hl]
   rw[hd]at qi;obtain⟨go,yl⟩:=vf.1 items[i] (by rw[List.getElem?_eq_getElem hl])
   refine⟨go,λv H' y=>?_⟩;obtain⟨F3,gr,rep⟩:=yl v H' y;have sF:aw Fi F3:=gr.same Ri.fr;have R3:=gr.rs Zd;have sH:aw Hi H':=by
    rcases gr with⟨_,rfl⟩|⟨p,o,hp,_,rfl⟩
    ·exact aw.refl _
    ·exact aJ hp
   have MQ:∀c o,F3 c=some o->Fi c=some o\/Nw Hi c o:=λc o e=>by
    rcases gr with⟨rfl,_⟩|⟨p,o',hp,rfl,_⟩
    ·exact .inl e
    ·by_cases hc:c=p
     ·subst hc;exact .inr (.inl hp)
     ·rw[ak hc]at e;exact .inl e
   have fa3:F3 a=none:=by
    cases e:F3 a with
    | none=>rfl
    | some o =>
     rcases MQ a o e with z|z
     ·rw[fai]at z;cases z
     ·rcases z with z|⟨ws,rfl⟩
      ·rw[ZQ]at z;cases z
      ·have y:=R3.fr a _ e;rw[sH a _ ZQ]at y;cases y
   have lec:lb (dw (caps.set m none) cJ) ((dw (caps.set m none) cJ).set m (some (.own xs))):=by
    have:∀(l:Sd) (n:Nat),l[n]?=some none->∀b,lb l (l.set n b):=by
     intro l
     induction l with
     | nil=>intro n h;cases h
     | cons c l ih =>
      intro n h b;cases n with
      | zero =>
       simp at h;subst h;exact fS l
      | succ n =>
       have h:l[n]?=some none:=by simpa using h
       cases c with
       | none=>exact ih n h b
       | some c=>exact⟨rfl,ih n h b⟩
    refine this _ m ?_ _;unfold dw;rw[List.getElem?_map,List.getElem?_set_self (List.getElem?_eq_some_iff.mp vM).1];rfl
   have Zb:RS ⟨H',F3,[(m,a)],[]⟩ F3 ((dw (caps.set m none) cJ).set m (some (.own xs))) aA H':=R3.inner lec (ck _ _) (cj _ _) hm hmi (rui.mono sF) fa3 R3.fr (sH _ _ ZQ)
   -- behind the turn
   have back:∀ {F5 H5:Hp} {ou:Sd} {Tq:St} {zs:List D},aw F3 F5->RS ⟨H',F3,[(m,a)],[]⟩ F5 ou Tq H5->ou[m]?=some (some (.own zs))->RS Y F5 (cJ.set j (some (.own zs))) σ H5/\H5 acc=some (.lst ys)/\F5 acc=none/\aw Fi F5/\∃ws,H5 a=some (.lst ws)/\aG F5 ws zs/\F5 a=none/\Tq[m]?=some (some (.ref a)):=λ{F5 H5 ou Tq zs} s5 R5 ez=>by
    have i5:=(R5.io (m,a) (by simp)).1
    obtain⟨c,ws,w1,w2,w3,w4,_⟩:=R5.own m zs ez;rw[i5]at w1;cases w1;have QI:∀c o,c≠a->Hi c=some o->H5 c=some o:=λc o hc e=>R5.old c o (sH c o e) (by simpa [bI.C1]using hc)
    have Fu:∀c o,F5 c=some o->Fi c=some o\/Nw Hi c o:=λc o e=>by
     rcases R5.eQ c o e with z|z
     ·exact MQ c o z
     ·exact .inr (z.imp sH.free id)
    have Ro:=Ri.As (i:=j) (xs:=xs) (ys:=zs) (by rw[k8 hj]) ha1 (sF.trans s5) R5.fr QI w2 w3 w4 Fu
    rw[qT]at Ro;refine⟨Ro,QI acc _ (Ne.symm SK) iV,?_,sF.trans s5,ws,w2,w3,w4,i5⟩;cases e:F5 acc with
    | none=>rfl
    | some o =>
     rcases Fu acc o e with z|z
     ·rw[fi]at z;cases z
     ·rcases z with z|⟨ws,rfl⟩
      ·rw[iV]at z;cases z
      ·have y:=R5.fr acc _ e;rw[QI acc _ (Ne.symm SK) iV]at y;cases y
   refine⟨⟨H',F3,[(m,a)],[]⟩,λp hp=>by rw[List.mem_singleton.mp hp],F3,_,items[i],_,Zb,rep,qi,λzl H4 F4 fB s4 R4 q4=>?_⟩
   refine⟨⟨H',F3,[(m,a)],[]⟩,λp hp=>by rw[List.mem_singleton.mp hp],F4,fB,_,R4,q4,λb H5 F5 ou s5 R5 q5=>?_⟩
   cases b with
   | false =>
    obtain⟨le,q5⟩:=q5;unfold ownAt at q5
    split at q5
    ·rename_i zs ez
     obtain⟨w1,w2,w3,w4,ws,v1,v2,v3,v4⟩:=back (s4.trans s5) R5 ez;exact⟨items.length-(i+1),by omega,F5,ds,ys,zs,ws,si.trans w4,w1,w2,ri.mono w4,w3,v1,v2,v3,v4,R5.inner le (ck _ _) (cj _ _) hm v4 v2 v3 R5.fr v1,q5,rfl,hl⟩
    ·exact q5.elim
   | true =>
    refine⟨⟨H',F3,[(m,a)],[]⟩,λp hp=>by rw[List.mem_singleton.mp hp],F5,ou,_,R5,q5,λv6 H6 F6 d aaQ s6 R6 r6 q6=>?_⟩
    obtain⟨le,hz,q6⟩:=q6;unfold ownAt at q6
    split at q6
    ·rename_i zs ez
     obtain⟨w1,w2,w3,w4,ws,v1,v2,v3,v4⟩:=back ((s4.trans s5).trans s6) R6 ez;exact⟨ys,items.length-(i+1),w2,by rw[ri.length];exact hz,by omega,F6,ds++[d],ys++[v6],zs,ws,si.trans w4,w1.other w3 a0 (aN zs),ay,(ri.mono w4).append (.cons r6 .nil),w3,by rw[ak SK];exact v1,v2,v3,v4,
      R6.inner le (ck _ _) (cj _ _) hm v4 v2 v3 (sw R6.fr w3) (by rw[ak SK];exact v1),q6,rfl,hl⟩
    ·exact q6.elim
  ·left
   have e:i=items.length:=by omega
   subst e;rw[List.drop_length]at qi;exact⟨vf.2 rfl,K _ Hi Fi (.own ds) _ ((s1.trans s2).trans si) Ri ⟨acc,ys,rfl,iV,ri,fi,a0,aN xs⟩ qi⟩
 ·exact q2.elim
theorem uF(i j m:Nat){y:Str}{py fH:Pos}(hi:EI G k S target iter ti)(b:iu S scope N' caps)(hg:EG G k (aD S scope N' m) target g)(ht:FH G k (aD S scope N' m) ifs tc)(he:ED G k (aD S scope N' m) elt te)
  (vM:caps[m]?=some (some j):=by rfl) (hy:S.N[i]?=some y:=by rfl) (hx:S.sc.lookup y=some .local\/(S.sc.lookup y=some .cell/\S.oG=false):=by first|exact Or.inl rfl|exact Or.inr ⟨rfl,rfl⟩) (hn:i∉S.ios:=by first|decide|exact List.not_mem_nil | (dsimp only;decide)) (hl:(py.line==pos.line)=true:=by rfl) (JO:(scope.names.any λ(n,k)=>n==y&&(k==.local||k==.cell))=false:=by decide +kernel)
  (hs:∀env x,foldedSetIterable iter env x=pure x:=by intro _ _;rfl) (hh:S.lK=false:=by rfl):ES G k S (.Assign [.Name y py] (.ListComp elt [⟨target,iter,ifs,0⟩] scope pos) fH) (dF S.ios i (gD S.ios caps j m ti g tc te)):=.mk λX Y ok=>by
 have sw:swapsWith (.ListComp elt [⟨target,iter,ifs,0⟩] scope pos) (some (.Name y py)) fH.line X.env=pure (S.sc.lookup y==some .local):=by
  have e:swapsWith (.ListComp elt [⟨target,iter,ifs,0⟩] scope pos) (some (.Name y py)) fH.line X.env=pure (X.env.blockKind==.function&&X.env.kindOf y==some .local&&py.line==pos.line&&!(scope.names.any λ(n,k)=>n==y&&(k==.local||k==.cell))):=rfl
  have kb:X.env.blockKind=.function:=by unfold Env.blockKind;rw[ok.kind];rfl
  have kd:X.env.kindOf y=S.sc.lookup y:=by
   show X.env.scope.names.lookup y=_;rw[ok.sc]
  rw[e,kb,kd,hl,JO];simp
 have fin:∀Dn σ H,lS Y (dF S.ios i (gD S.ios caps j m ti g tc te)) Dn σ H->Ej (kQ (lI Y ti) caps (lGm m g) (lBm m tc) (lDm m te)) (oU i) Dn σ H:=λDn σ H q=>by
  obtain⟨F,ao,De,R,q,K⟩:=q;refine p0 ok.ios vM ⟨F,ao,_,R,q,λv H1 F1 y aA s1 R1 r1 q1=>?_⟩;obtain⟨F2,bu,s2,R2,q2⟩:=kN R1 r1 hn ok.ios q1;exact K.nx _ H1 F2 bu (s1.trans s2) R2 q2
 rcases hx with hx|hx
 ·refine c5 (xG (i:=i) (ok.calm hh) (hi X Y ok) (b.sc ok) (oN hh ok b hg ht he) (hs _) (by rw[ok.N];exact ok.nd) (by rw[ok.N];exact hy) (by rw[ok.sc];exact hx) (by rw[sw,hx];rfl)) fin
 ·refine c5 (L2.vZ (i:=i) (by rw[ok.N];exact ok.nd) (by rw[ok.N];exact hy) (mX ok (.inr hx)) (qD (ok.calm hh) (hi X Y ok) (b.sc ok) (oN hh ok b hg ht he) (hs _)) (by rw[sw,hx.1];rfl) (mP ok (.inr hx))) fin
end
end Vc
namespace Vc
open PySem L2
variable [KF]
variable {G:GE}{k:Nat}{S:Stat}
def Gm(i:Nat)(ys:List D)(σ:Sd)(Q:Sd->Prop):Prop:=match σ[i]? with
 | some (some (.own xs))=>xs.length+ys.length<=sizeLine/\Q (σ.set i (some (.own (xs++ys))))
 | _=>False
def RT(to:TV)(te:TX):TX:=λσ Q=>to σ λx aA=>match x with
 | .var i=>tP aA i/\te aA λd bu=>match d with
  | .own ys=>Gm i ys bu λeB=>Q (.val .aX) eB
  | _=>False
 | _=>False
theorem D3{o e:Expr}{to:TV}{te:TX}{apos cpos:Pos}(ho:EO G k S o to)(he:EX G k S e te)(hb:∀env,attributeBase o "extend" env (eval o env)=eval o env:=by intro _;rfl)
  (CF:∀env,((backTo cpos (starEach [e] env)).all (λx=>!x.1)&&(backToKw cpos (keywordEach [] env)).all (λx=>x.1.isSome)&&decide (([e]:List Expr).length+([]:List Keyword).length+(if([]:List Keyword).isEmpty then 0 else 1)<30))=true:=by intro _;rfl)
  (hline:(apos.endLine==cpos.line)=true:=by rfl) (hs:∀env,starEach [e] env=[(false,eval e env)]:=by intro _;rfl):EX G k S (.Call (.Attribute o "extend" apos) [e] [] cpos) (RT to te):=.mk λX Y ok=>by
 have ha:PA X [e] (lh (lX Y te) wt):=cn (he X Y ok) cZ (by rw[hs];rfl)
 refine bb (pj F.plainAttrs_list F.slot_list_extend F.type_list_extend yN (ho X Y ok) ha (hb _) (CF _) hline (by rw[hs];rfl) (by rfl)) λσ H Q q=>?_
 obtain⟨F,ao,Qd,R,q,K⟩:=q;refine⟨F,ao,_,R,q,λv1 H1 F1 x aA s1 R1 r1 q1=>?_⟩;cases x with
 | val d=>exact q1.elim
 | any=>exact q1.elim
 | var i =>
  obtain⟨⟨ys,e0⟩,q1⟩:=q1;have r1:σ[i]?=some (some v1):=r1;obtain⟨a,vs,w1,w2,w3,w4,w5⟩:=R1.own i ys e0;rw[r1]at w1;cases w1;refine⟨.inl ⟨rfl,vs,.of w2⟩,F1,aA,_,R1,q1,λv2 H2 F2 d bu s2 R2 r2 q2=>?_⟩;cases d with
  | val _=>exact q2.elim
  | var _=>exact q2.elim
  | obj _=>exact q2.elim
  | any=>exact q2.elim
  | own zs =>
   have q2:Gm i zs bu λeB=>Qd (.val .aX) eB:=q2;unfold Gm at q2
   split at q2
   ·rename_i xs e2
    obtain⟨b,us,z1,z2,z3,z4,z5⟩:=R2.own i xs e2;rw[r1]at z1;cases z1;obtain⟨c,cs,rfl,y1,y2,y3⟩:=r2;exact⟨a,c,us,cs,rfl,rfl,z2,y1,by rw[z3.length,y2.length];exact q2.1,K .aX _ F2 (.val .aX) _ (s1.trans s2) (R2.write e2 r1 (z3.append y2)) .aX q2.2⟩
   ·exact q2.elim
def gM(i j:Int):Prop:=0<j/\j<2^200
theorem Dw{X:Cx}:gI X (binaryOp .FloorDiv) (rI gM λi j=>.int (i/j)):=WX λi j _ _ _ _ _ hc q=>by
 have h1:(0:Int)<j:=hc.1;have h2:j<2^200:=hc.2;refine PyProof.Rows.floordiv_int ⋯ (by rw[Int.fdiv_eq_ediv_of_nonneg i ⋯];exact q) (.inl (PyProof.noPylong_of_log2 ?_))
 have h3:j.natAbs<2^200:=by omega
 exact(Nat.log2_lt ⋯).mpr (Nat.lt_of_lt_of_le h3 (Nat.pow_le_pow_right ∅ ∅))
def gQ:=Nf gM λi j=>i/j
theorem eJ{a b:Expr}{ta tb:TV}{pos:Pos}(ha:EO G k S a ta)(hb:EO G k S b tb):EX G k S (.BinOp a .FloorDiv b pos) (a7 gQ ta tb):=nk (r:=λ_=>_) (λ_=>Dw) (λ_=>iX) ha hb
end Vc
namespace Vc
open PySem L2
variable [KF]
variable {G:GE}{k:Nat}{S:Stat}
structure Za(H H':Hp)(p:Addr)(as:List Addr)(cs:List Int):Prop where
 same:aw H H'
 list:H' p=some (.lst (as.map V.ref))
 fresh:∀b∈p::as,H b=none
 nd:(p::as).Nodup
 len:as.length=cs.length
 pot:∀(i:Nat) (a:Addr) (c:Int),as[i]?=some a->cs[i]?=some c->H' a=some (.lst [.int c,.int 0])
end Vc
namespace Vc
open PySem L2
variable [KF]
variable {G:GE}{k:Nat}{S:Stat}
def JT(Y:bI):TS:=λDn σ H=>∃F ns,RS Y F [some (.sh (.lst (List.map D.int ns)))] σ H/\Y.H0=H/\(Y.io=[]/\Y.ob=[])/\ns.length<=63/\∀p as cs H',Za H H' p as cs->Dn.rt (.ref p) H'
structure II(G:GE)(k:Nat)(S:Stat)(b:List Stmt) :Prop where
 run:∀X Y,dD X G k S Y->pO X b (JT Y)
instance {G:GE} {k:Nat} {S:Stat} {b:List Stmt} :CoeFun (II G k S b) λ_=>∀X Y,dD X G k S Y->pO X b (JT Y):=⟨II.run⟩
end Vc
namespace Vc
open PySem L2
variable [KF]
variable {G:GE}{k:Nat}{S:Stat}
theorem V8(a b:D)(Q:D->Prop):vR (.lst [a,b]) (.int 0) Q=Q a:=rfl
theorem V9(a b:D)(Q:D->Prop):vR (.lst [a,b]) (.int 1) Q=Q b:=rfl
theorem Ni:xm 2 0=some 0:=rfl
theorem Nj:xm 2 1=some 1:=rfl
theorem oM{α:Type}{g:lR}{te:TD}{r9:Sd}{m:Nat}{Q:List D->List D->Prop}{Kd:List D}(gi:α->D)(P:D->Prop)(Rk:List D->Prop)(l:List α)
  (h:∀a∈l,∀xs,Rk xs->∀(A:D->List D->Prop) (Z:Prop),Z->(∀d ys,P d->Rk ys->A d ys)->g (gi a) (r9.set m (some (.own xs))) λaA=>te aA λd eB=>lb r9 eB/\Z/\ownAt m eB λys=>A d ys)
  (hl:l.length<=sizeLine) (h0:Rk Kd) (q:∀ds ys,ds.length=l.length->(∀d∈ds,P d)->Rk ys->Q ds ys):gU g cO te r9 m (l.map gi) [] Kd Q:=by
 have key:∀(l2:List α) (acc xs:List D),(∀a∈l2,a∈l)->acc.length+l2.length=l.length->(∀d∈acc,P d)->Rk xs->gU g cO te r9 m (l2.map gi) acc xs Q:=by
  intro l2
  induction l2 with
  | nil=>intro acc xs _ hlen iU hr;exact q acc xs (by simpa using hlen) iU hr
  | cons a l2 ih =>
   intro acc xs hm hlen iU hr;have aaS:acc.length+(l2.length+1)=l.length:=by simpa using hlen
   show g (gi a) _ λaA=>cO aA λb bu=>_;exact h a (hm a (List.mem_cons_self ..)) xs hr (λd ys=>gU g cO te r9 m (l2.map gi) (acc++[d]) ys Q) (acc.length<sizeLine) ⋯ λd ys hd hy =>
    ih _ ys (λx hx=>hm x (List.mem_cons_of_mem _ hx)) (by rw[List.length_append,List.length_singleton];omega) (λx hx=>by
     rcases List.mem_append.mp hx with hx|hx
     ·exact iU x hx
     ·rw[List.mem_singleton.mp hx];exact hd) hy
 exact key l [] Kd (λ_ h=>h) (by simp) (λd hd=>by cases hd) h0
end Vc
namespace Vc
open PySem L2
variable [KF]
variable {G:GE}{k:Nat}{S:Stat}
def RU(c:TB)(ta tb:TV):TV:=λσ Q=>c σ λb aA=>if b=true then ta aA Q else tb aA Q
theorem XB{c a b:Expr}{tc:TB}{ta tb:TV}{pos:Pos}(hc:EB G k S c tc)(ha:EO G k S a ta)(hb:EO G k S b tb):EO G k S (.IfExp c a b pos) (RU tc ta tb):=.mk λX Y ok=>bb (DI (hc X Y ok) (ha X Y ok) (hb X Y ok)) λσ H Q q=>by
 obtain⟨F,ao,Qd,R,q,K⟩:=q;refine⟨F,ao,_,R,q,λb H1 F1 aA s1 R1 q1=>?_⟩;cases b with
 | true=>exact⟨F1,aA,Qd,R1,q1,λv H' F' x aR s'=>K v H' F' x aR (s1.trans s')⟩
 | false=>exact⟨F1,aA,Qd,R1,q1,λv H' F' x aR s'=>K v H' F' x aR (s1.trans s')⟩
end Vc
namespace Vc
open PySem L2 PySem.Spec PyProof.Rows PySem.SeqAt PySem.MeetsSeq PySem.MeetsSeq2 PySem.MeetsSeq3
section
variable {prog:Program}{w:World}{A:Around}{E:Value->Shared->Prop}{s:Shared}
theorem iP{t sl:Addr}{items:Array Value}{vl vu:Value}{lo hi:Option Int}{Q:Value->Shared->Prop}(ht:IsTup s.heap t items)(hs:s.heap.IsSliceOf sl vl vu .none)(pl:IsPart vl lo)(pu:IsPart vu hi)
  (hw:HT.cK items.size 0 lo=0/\HT.cK items.size items.size hi=items.size)
  (h:Q (.ref t) s):wpAny (model prog w) A (getItem (.ref t) (.ref sl)) Q E s:=by
 obtain⟨os,M4,Yr,VD⟩:=id hs;have ZP:s.TypeIs (.ref sl) "slice":=⟨os,M4,Yr⟩;unfold getItem
 try with_reducible refine wpAny_holding ?_
 first|refine wpAny_bind (wpAny_pure ?_)|skip
 refine wpAny_bind (wpAny_sequenceKey ht.typeIs ∅ ?_)
 refine wpAny_bind (wpAny_callSpecial?_slot (name:=Str.ofString "__getitem__") ht.typeIs PyProof.Rows.slot_tuple_getitem
  (wpAny_call_entry PyProof.Rows.slot_tuple_getitem ht.typeIs entry_tuple_getitem ?_ (args_tuple_getitem _ _)))
 show wpAny _ _ (Builtin.Tuple.tupleItemsOf (.ref t) >>= _) _ _ s;refine wpAny_bind (tupleItemsOf_ ht ?_);refine wpAny_bind (wpAny_typeOf ZP ?_);rw[if_pos ∅]
 refine wpAny_bind (HT.eZ hs pl pu ?_);have aaj:((((HT.cK items.size 0 lo:Nat):Int)==0&&(1:Int)==1&&(HT.cK items.size items.size hi-HT.cK items.size 0 lo)==items.size)=true):=by
  rw[hw.1,hw.2,Nat.sub_zero];simp
 show wpAny _ _ (if(((HT.cK items.size 0 lo:Nat):Int)==0&&(1:Int)==1&&(HT.cK items.size items.size hi-HT.cK items.size 0 lo)==items.size)=true then _ else _) _ _ s
 rw[if_pos aaj];refine wpAny_bind (m:=Builtin.Tuple.tupleIsExact (.ref t)) ?_;unfold Builtin.Tuple.tupleIsExact;refine wpAny_bind (wpAny_typeOf ht.typeIs (wpAny_pure ?_));rw[if_pos ∅]
 refine wpAny_bind (wpAny_rule ?_);exact wpAny_pure ⟨_,rfl,wpAny_pure h⟩
end
section
variable {X:Cx}
theorem Rg:zo X (λx lo hi H Q=>∃a xs,x=.ref a/\iC X.K H a xs/\(HT.cK xs.length 0 lo=0/\HT.cK xs.length xs.length hi=xs.length)/\Q (.ref a) H):=by
 intro pins s σ H x v vl vu lo hi sl Q I rx hs pl pu h;obtain⟨a,xs,rfl,hx,hw,q⟩:=h;cases rx;obtain⟨its,r,ht,hz⟩:=I.tuple hx;have hlen:its.toArray.size=xs.length:=by rw[List.size_toArray];exact r.length.symm
 refine⟨"tuple",_,PyProof.Rows.slot_tuple_getitem.lookup,ht.typeIs,?_⟩;exact iP ht hs pl pu (by rw[hlen];exact hw) ⟨.ref a,H,I,rfl,q⟩
end
variable [KF]
variable {G:GE}{k:Nat}{S:Stat}
theorem Ga{α:Type}{xs:List α}{lo hi:Option Int}(h:HT.cK xs.length 0 lo=0/\HT.cK xs.length xs.length hi=xs.length):cut xs lo hi=xs:=by
 unfold cut;rw[h.1,h.2,List.drop_zero,Nat.sub_zero,List.take_of_length_le (Nat.le_refl _)]
end Vc
namespace Vc
open PySem L2
variable [KF]
structure wH(h:Heap)(a T:Addr)(c:Str):Prop where
 ex:∃o vs a0,h.get? a=some o/\o.cls=.ref (KF.cls c)/\o.data=.fields vs/\vs[0]?=some a0/\vs[1]?=some (.ref T)
 tb:∃o ts,h.get? T=some o/\o.data=.fields ts/\ts[3]?=some .none
structure Moved(fs:List Addr)(a T:Addr)(h h':Heap)(T':Addr):Prop where
 keep:∀b o,h.get? b=some o->b≠a->b≠T->b∉fs->h'.get? b=some o
 slot:∀b o,h.get? b=some o->b∈fs->∃sl,h'.get? b=some {o with slots:=sl}
 ne:T'≠a
 new:h.get? T'=none\/T'=T
theorem ja{h h' base:Heap}{l l':List Env}{a T:Addr}{c:Str}{a0:Value}(ff:h.FunFrames base l)
  (x:Heap.FlyingW (PySem.W.hideAll h (a::T::iM l)) l' a (.ref (KF.cls c)) a0 h') (u:h.UpToSlots h'):∃T',Moved (iM l) a T h h' T'/\wH h' a T' c:=by
 obtain⟨x1,x2,x3,oe,vs,T',oT,ts,y1,⟨y2,y3⟩,y4,y5,y6,y7,y8,y9,y10⟩:=x;have sl:∀b o,h.get? b=some o->b∈iM l->∃sl,h'.get? b=some {o with slots:=sl}:=λb o e hb=>by
  obtain⟨_,o',e',d⟩:=ff.mem hb;rw[e]at e';cases e';exact u b o e d
 refine⟨T',⟨λb o e n1 n2 n3=>x1 b o (PySem.W.hideAll_get _ e λz=>?_),sl,y7,?_⟩,⟨oe,vs,a0,y1,y2,y4,y3,y5⟩,⟨oT,ts,y8,y9,y10⟩⟩
 ·rcases List.mem_cons.mp z with z|z
  ·exact n1 z
  ·rcases List.mem_cons.mp z with z|z
   ·exact n2 z
   ·exact n3 z
 ·cases e:h.get? T' with
  | none=>exact .inl rfl
  | some o =>
   by_cases z:T'=T
   ·exact .inr z
   by_cases zf:T'∈iM l
   ·obtain⟨_,o',e',d⟩:=ff.mem zf
    obtain⟨s2,e2⟩:=sl T' o' e' zf;rw[y8]at e2;cases e2;exact absurd y9 (d _)
   ·have:=PySem.W.hideAll_get (a::T::iM l) e λw=>by
     rcases List.mem_cons.mp w with w|w
     ·exact y7 w
     ·rcases List.mem_cons.mp w with w|w
      ·exact z w
      ·exact zf w
    rw[y6]at this;cases this
theorem kx{h base:Heap}{l:List Env}{a T:Addr}{c:Str}(ff:h.FunFrames base l)(f:wH h a T c)(ne:a≠T):∃a0,Heap.FlyingW (PySem.W.hideAll h (a::T::iM l)) l a (.ref (KF.cls c)) a0 h:=by
 obtain⟨o,vs,a0,e1,e2,e3,e4,e5⟩:=f.ex;obtain⟨oT,ts,t1,t2,t3⟩:=f.tb;exact⟨a0,λb o e=>PySem.W.of_hideAll _ e,PySem.W.hideAll_none _ (.head _),PySem.W.funFrames_hide ff λenv he b hb=>.tail _ (.tail _ (List.mem_filterMap.mpr ⟨env,he,hb⟩)),
  o,vs,T,oT,ts,e1,⟨e2,e4⟩,e3,e5,PySem.W.hideAll_none _ (.tail _ (.head _)),Ne.symm ne,t1,t2,t3⟩
section
variable {M:Model}{A:Around}{E:Value->Shared->Prop}{s:Shared}{base:Heap}{env:Env}{outer:List Env}{L a T:Addr}{c:Str}{Q:Unit->Shared->Prop}
theorem yK(yy:A.frames=some (env::outer))(hf:env.frame=some L)(ff:s.heap.FunFrames base (env::outer))(f:wH s.heap a T c)(ne:a≠T)
  (q:∀h' T',Moved (iM (env::outer)) a T s.heap h' T'->wH h' a T' c->Q () {s with heap:=h'}):wpAny M A (leaving env (.ref a)) Q E s:=by
 obtain⟨a0,x⟩:=kx ff f ne;refine wpAny_leaves_onW yy hf x λh' y u=>?_;obtain⟨T',m,f'⟩:=ja ff y u;exact q h' T' m f'
theorem C8(yy:A.frames=some (env::outer))(hf:env.frame=some L)(ff:s.heap.FunFrames base (env::outer))(f:wH s.heap a T c)(ne:a≠T)
  (q:∀h' T',Moved (iM (env::outer)) a T s.heap h' T'->wH h' a T' c->Q () {s with heap:=h'}):wpAny M A (noteFrame (.ref a) env) (λ_ s2=>wpAny M A (setFlight (.ref a) none) Q E s2) E s:=by
 obtain⟨a0,x⟩:=kx ff f ne;refine wpAny_looks_onW yy hf x λh1 y u=>?_;refine wpAny_landsW y λh2 z u2=>?_;obtain⟨T',m,f'⟩:=ja ff z (u.trans u2);exact q h2 T' m f'
theorem yf(ff:s.heap.FunFrames base (env::outer))(f:wH s.heap a T c)(ne:a≠T)
  (q:∀h' T',Moved (iM (env::outer)) a T s.heap h' T'->wH h' a T' c->Q () {s with heap:=h'}):wpAny M A (setFlight (.ref a) none) Q E s:=by
 obtain⟨a0,x⟩:=kx ff f ne;refine PyProof.Rows.lands_againW x λh2 z u2=>?_;obtain⟨T',m,f'⟩:=ja ff z u2;exact q h2 T' m f'
theorem leave_new(yy:A.frames=some (env::outer))(hf:env.frame=some L)(ff:s.heap.FunFrames base (env::outer))
  (f:∃o vs a0,s.heap.get? a=some o/\o.cls=.ref (KF.cls c)/\o.data=.fields vs/\vs[0]?=some a0/\vs[1]?=some .none)
  (q:∀h' T',Moved (iM (env::outer)) a a s.heap h' T'->wH h' a T' c->Q () {s with heap:=h'}):wpAny M A (leaving env (.ref a)) Q E s:=by
 obtain⟨o,vs,a0,e1,e2,e3,e4,e5⟩:=f;have ff2:s.heap.FunFrames (PySem.W.hideAll s.heap (a::a::iM (env::outer))) (env::outer):=PySem.W.funFrames_hide ff λenv he b hb=>.tail _ (.tail _ (List.mem_filterMap.mpr ⟨env,he,hb⟩));refine wpAny_leaving_firstW (base:=PySem.W.hideAll s.heap (a::a::iM (env::outer))) yy ff2 hf e1 (λb o e=>PySem.W.of_hideAll _ e) (PySem.W.hideAll_none _ (.head _)) e3 e5 e4 λh' y=>?_;obtain⟨k1,k2,k3,k4⟩:=y;rw[e2]at k3;obtain⟨T',m,f'⟩:=ja (T:=a) ff ⟨k1,PySem.W.hideAll_none _ (.head _),k2,k3⟩ k4;exact q h' T' m f'
end
theorem uL{P:Program}{w:World}{H:Hp}{h:Heap}{a:Addr}{o:HO}(x:bR P w H h a o):∃u,h.get? a=some u:=by
 cases o with
 | lst xs=>obtain⟨_,_,_,_,e⟩:=x;exact⟨_,e⟩
 | tup xs=>obtain⟨_,_,_,o,e,_⟩:=x;exact⟨_,e⟩
 | dK kvs=>obtain⟨_,_,_,_,o,_,_,e,_⟩:=x;exact⟨_,e⟩
 | dT kvs=>obtain⟨_,_,_,_,o,_,_,e,_⟩:=x;exact⟨_,e⟩
 | set S n=>obtain⟨o,_,_,_,e,_⟩:=x;exact⟨_,e⟩
 | ins C dx fs=>obtain⟨_,_,_,e,_⟩:=x;exact⟨_,e⟩
 | own y=>exact x
 | xd fs=>obtain⟨mA,⟨o,es,ep,e,_⟩,_⟩:=x;exact⟨_,e⟩
 | YL lo hi=>obtain⟨_,_,_,e⟩:=x;exact⟨_,e⟩
 | qg o u=>exact⟨_,x.1⟩
 | Ka ps=>exact⟨_,x⟩
 | lam ps pos qual=>obtain⟨_,e,_⟩:=x;exact⟨_,e⟩
 | met f y=>exact⟨_,x⟩
 | ext φ=>exact x.2.1
def cT(H:Hp)(a T T':Addr)(c:Str):Hp:=λb=>if b=a then some (Gp a T' c)else if b=T' then some (YX T')else if b=T then none else H b
def dG(o:Option HO):Prop:=∃φ,o=some (.ext φ)
theorem Gq{P:Program}{w:World}{H:Hp}{h:Heap}{a T:Addr}{c:Str}(f:wH h a T c):bR P w H h a (Gp a T c):=by
 obtain⟨o,vs,a0,e1,e2⟩:=f.ex;exact⟨⟨o,vs,a0,e1,e2⟩,⟨o,e1⟩,λh1 h2 ⟨o,vs,a0,z1,z2⟩ k=>⟨o,vs,a0,k o z1,z2⟩⟩
theorem Sr{P:Program}{w:World}{H:Hp}{h:Heap}{a T:Addr}{c:Str}(f:wH h a T c):bR P w H h T (YX T):=by
 obtain⟨o,vs,e1,e2⟩:=f.tb;exact⟨⟨o,vs,e1,e2⟩,⟨o,e1⟩,λh1 h2 ⟨o,vs,z1,z2⟩ k=>⟨o,vs,k o z1,z2⟩⟩
theorem mO{P:Program}{w:World}{fs:List Addr}{H:Hp}{h h':Heap}{a T T':Addr}{c:Str}(bC:fe P w H h)(m:Moved fs a T h h' T')(f:wH h' a T' c)(hfs:∀b∈fs,H b=none)
  (ea:dG (H a)) (eT:dG (H T)):fe P w (cT H a T T' c) h'/\Un fs [a,T] H (cT H a T T' c) h h':=by
 obtain⟨φ,ea⟩:=ea;obtain⟨ψ,eT⟩:=eT;have Wq:∀b o,H b=some o->(∀φ,o≠.ext φ)->b≠T':=λb o e n z=>by
  subst z;rcases m.new with z|z
  ·obtain⟨u,hu⟩:=uL (bC b o e)
   rw[z]at hu;cases hu
  ·subst z;rw[eT]at e;cases e;exact n _ rfl
 have other:∀b o,H b=some o->(∀φ,o≠.ext φ)->cT H a T T' c b=some o:=λb o e n=>by
  unfold cT;rw[if_neg (λz=>by subst z;rw[ea]at e;cases e;exact n _ rfl),if_neg (Wq b o e n),if_neg (λz=>by subst z;rw[eT]at e;cases e;exact n _ rfl)]
  exact e
 refine⟨λb o e=>?_,⟨λb o e n n1 n2=>?_,λb o e n hb n2=>m.slot b o e hb,λb o e n n2=>?_,λb o e n2=>?_,λb xs e=>other b _ e (λφ z=>by cases z),λb o u e=>other b _ e (λφ z=>by cases z),λb ps e=>⟨#[],by rw[other b _ e (λφ z=>by cases z)];simp⟩⟩⟩
 ·unfold cT at e
  split at e
  ·rename_i z;subst z;cases e;exact Gq f
  ·rename_i za
   split at e
   ·rename_i z;subst z;cases e;exact Sr f
   ·rename_i zT'
    split at e
    ·cases e
    ·rename_i zT
     refine(bC b o e).nH (λd u hd q=>?_) (λd q=>other d _ q (λφ z=>by cases z)) (λd xs q=>other d _ q (λφ z=>by cases z)) λd o u q=>other d _ q (λφ z=>by cases z)
     have hdn:H d≠none:=λz=>by
      rcases hd with hd|hd
      ·subst hd;rw[e]at z;cases z
      ·rw[hd]at z;cases z
     refine m.keep d u q (λz=>?_) (λz=>?_) λz=>hdn (hfs d z)
     ·rcases hd with hd|hd
      ·exact za (hd ▸ z)
      ·rw[z,ea]at hd;cases hd
     ·rcases hd with hd|hd
      ·exact zT (hd ▸ z)
      ·rw[z,eT]at hd;cases hd
 ·simp only[List.mem_cons,List.not_mem_nil,or_false,not_or]at n2
  exact m.keep b o e n2.1 n2.2 n1
 ·simp only[List.mem_cons,List.not_mem_nil,or_false,not_or]at n2
  unfold cT;rw[if_neg n2.1,if_neg (λz=>?_),if_neg n2.2]
  ·exact n
  ·subst z
   rcases m.new with z|z
   ·rw[e]at z;cases z
   ·exact n2.2 z
 ·simp only[List.mem_cons,List.not_mem_nil,or_false,not_or]at n2
  by_cases hb:b∈fs
  ·obtain⟨sl,q⟩:=m.slot b o e hb
   exact⟨_,q⟩
  ·exact⟨o,m.keep b o e n2.1 n2.2 hb⟩
theorem Il{fs:List Addr}{j8 H H':Hp}{h₀ h h':Heap}{L a T:Addr}(u1:Un fs [] j8 H h₀ h)(u2:Un (L::fs) [a,T] H H' h h')(hL:h₀.objs.size<=L)(ha:h₀.get? a=none)(hT:h₀.get? T=none):Un fs [] j8 H' h₀ h':=by
 have nL:∀ {b:Addr} {o:Obj},h₀.get? b=some o->b≠L:=λe z=>by
  have:=Heap.lt_size e;rw[z]at this;exact absurd (Nat.lt_of_lt_of_le this hL) (Nat.lt_irrefl _)
 have nx:∀ {b:Addr} {o:Obj},h₀.get? b=some o->b∉[a,T]:=λe z=>by
  simp only[List.mem_cons,List.not_mem_nil,or_false]at z;rcases z with z|z
  ·rw[z,ha]at e;cases e
  ·rw[z,hT]at e;cases e
 have n0:∀b:Addr,b∉([]:List Addr):=λb=>by simp
 refine⟨λb o e n nf _=>?_,λb o e n hf _=>?_,λb o e n _=>?_,λb o e _=>?_,λb xs e=>u2.nO b xs (u1.nO b xs e),λb o u e=>u2.lF b o u (u1.lF b o u e),λb ps e=>?_⟩
 ·exact u2.keep b o (u1.keep b o e n nf (n0 b)) (u1.free b o e n (n0 b)) (λz=>by rcases List.mem_cons.mp z with z|z;exact nL e z;exact nf z) (nx e)
 ·obtain⟨sl,e1⟩:=u1.slot b o e n hf (n0 b)
  obtain⟨J6,e2⟩:=u2.slot b _ e1 (u1.free b o e n (n0 b)) (.tail _ hf) (nx e);exact⟨J6,e2⟩
 ·obtain⟨sl,e1⟩:=u1.any e n (n0 b)
  exact u2.free b _ e1 (u1.free b o e n (n0 b)) (nx e)
 ·obtain⟨o1,e1⟩:=u1.there b o e (n0 b)
  exact u2.there b o1 e1 (nx e)
 ·obtain⟨m1,e1⟩:=u1.nK b ps e
  obtain⟨m2,e2⟩:=u2.nK b _ e1;exact⟨m1++m2,by rw[e2,Array.append_assoc]⟩
end Vc
namespace Vc
open PySem L2
variable [KF]
variable {G:GE}{k:Nat}{S:Stat}
def Tr(P:Program)(w:World):wF:=λouter H s E e s'=>∃a T c H',e=.ref a/\s'.os=s.os/\PyProof.Rows.AllBare s'.gens/\Un (iM outer) [] H H' s.heap s'.heap/\fe P w H' s'.heap/\aw H H' /\
 H a=none/\H T=none/\s.heap.get? a=none/\s.heap.get? T=none/\a≠T/\H' a=some (Gp a T c)/\H' T=some (YX T)/\∀t,E (.str c t) none H'
abbrev zJ:=List D->(B->Prop)->(Str->Prop)->Prop
def YQ(sp:zJ):Sp:=λvs H Q E=>∃F ds Qd Ed,sg F H/\aG F vs ds/\sp ds Qd Ed /\
 (∀v H' F' b,aw F F'->aw F' H'->aw H H'->(∀c o,F' c=some o->F c=some o\/Nw H c o)->FO H F' H' v b->Qd b->Q v H')/\∀c t H',Ed c->E (.str c t) none H'
def Kf(G:GE)(k:Nat)(x:Str)(sp:zJ):Prop:=∃f fd ps,dQ G.P G.w G.K G.mg G.base (Tr G.P G.w) k f fd ps (YQ sp)/\G.mg x=some (.ref f)/\PySem.W.keepIn G.K (.ref f)=true/\Binds G.K fd ps []
theorem Kf.mono{x:Str}{sp:zJ}{j:Nat}(h:Kf G j x sp)(l:j<=k):Kf G k x sp:=by
 obtain⟨f,fd,ps,h1,h2,h3,h4⟩:=h;exact⟨f,fd,ps,h1.mono l,h2,h3,h4⟩
def ClX(sp:zJ)(ds:List D)(Q:B->Prop)(E:Str->Prop):Prop:=sp ds Q E
def RN(ex:Str->Sd->Prop)(sp:zJ)(t:fo):TX:=λσ Q=>t σ λds aA=>ClX sp ds (λb=>Q (bE b) aA) λc=>ex c aA
theorem HJ{x:Str}{sp:zJ}{e:Expr}{es:List Expr}{t:fo}{p pos:Pos}(h:Kf G k x sp)(ha:wG G k S (e::es) t)(hg:S.sc.lookup x=some .globalImplicit:=by rfl)(qm:(x==("__debug__":Str))=false:=by decide)
  (he:∀env,starEach (e::es) env=(false,eval e env)::starEach es env:=by exactλ_=>Vc.gy rfl) (fP:∀env,(backTo pos (starEach es env)).any (·.1)=false:=by intro _;rfl) (hh:S.lK=false:=by rfl) (GF:S.oG=false:=by rfl):
  EX G k S (.Call (.Name x p) (e::es) [] pos) (RN S.ex sp t):=.mk λX Y ok pins s σ H Q I q=>by
 obtain⟨f,fd,ps,h1,h2,h3,h4⟩:=h;have SW:dQ X.prog X.w X.K X.mg X.base (Tr X.prog X.w) k f fd ps (YQ sp):=by rw[ok.P,ok.w,ok.K,ok.mg,ok.base];exact h1
 obtain⟨F,ao,Qd,R,q,K⟩:=q;refine wpAny_Call_Name_kw (i3 I (dI ok hg) (by rw[ok.mg];exact h2) ?_ qm)
 refine PySem.W.callWith_K (h₀:=X.base) I.ok.mod.Wm (by rw[ok.K];exact h3) (cD (ha X Y ok pos pins s σ H (λvs H1=>∃F1 ds aA,aw F F1/\RS Y F1 aA σ H1/\aG F1 vs ds/\ClX sp ds (λb=>Qd (bE b) aA) λc=>S.ex c aA) I
  ⟨F,ao,_,R,q,λvs H1 F1 ds aA s1 R1 r1 q1=>⟨F1,ds,aA,s1,R1,r1,q1⟩⟩) λus s1 ⟨vs,H1,I1,r,F1,ds,aA,Tf,R1,r1,q1⟩=>⟨I1.nY,?_⟩) (he _) (fP _)
 let E:XK:=λv _ _=>∃c t,v=.str c t/\S.ex c aA
 have CU:YQ sp vs H1 Q E:=by
  refine⟨F1,ds,_,_,⟨R1.fr,R1.ob.tab⟩,r1,q1,λv H' F' b s2 s3 s4 fr r2 q2=>?_,λc t H' hx=>⟨c,t,rfl,hx⟩⟩;have R2:=R1.call s2 s3 s4 fr;cases b with
  | sh d=>exact K v H' F' (.val d) aA (Tf.trans s2) R2 r2 q2
  | own xs =>
   obtain⟨a,us,rfl,w1,w2,w3,w4⟩:=r2;refine K _ H' F' (.own xs) aA (Tf.trans s2) R2 ⟨a,us,rfl,w1,w2,w3,(R1.bZ w4).1,R1.cY w4⟩ q2
  | obj o =>
   obtain⟨a,rfl,w1,w2⟩:=r2;exact K _ H' F' (.obj o) aA (Tf.trans s2) R2 ⟨a,rfl,w1,λb hb=>⟨(w2 b hb).1,(w2 b hb).2.1,(R1.bZ (w2 b hb).2.2).1,R1.cY (w2 b hb).2.2⟩⟩ q2
 have hl:us.length=ps.length:=by rw[<- r.length];exact SW.len _ _ _ _ CU
 have hb:=h4 s1 us (by rw[<- ok.K];exact I1.nY) (by rw[List.append_nil];exact hl)
 rw[List.append_nil]at hb;refine wpAny_call (codeAny_mono (SW.run X.A X.stack s1 H1 ⟨us,[]⟩ us vs Q E (ok.room hh) I1.Vg hb r CU) λr s' hq=>?_);cases r with
 | error e =>
  obtain⟨a,T,c,H',rfl,os,bare,un,bC,sm,na,nT,la,lT,ne,fa,fT,ed⟩:=hq;obtain⟨c',t',ec,hx⟩:=ed 0;cases ec;have I2:L2.Inv X pins σ H' s':=I1.su os un bC bare λb z=>absurd z (by simp)
  have R2:RS Y F1 aA σ H':=R1.call (aw.refl _) (R1.fr.trans sm) sm λc o e=>.inl e;have old:∀b,s1.heap.get? b=none->X.bP.heap.get? b=none:=λb e=>by
   cases e0:X.bP.heap.get? b with
   | none=>rfl
   | some o =>
    obtain⟨o',e1⟩:=I1.base.there b o e0 (by rw[(ok.nx GF).1];simp)
    rw[e]at e1;cases e1
  exact ok.exc c aA hx pins σ H' F1 s' a T I2 R2 ⟨same_none R1.fr na,same_none R1.fr nT,fa,fT,ne,(R1.bZ na).1,(R1.bZ nT).1,old a la,old T lT⟩
 | ok fl =>
  cases fl with
  | ret u=>exact I1.after hq
  | next=>exact False.elim hq
  | brk=>exact False.elim hq
  | cont=>exact False.elim hq
theorem eX{P:Program}{w:World}{H:Hp}{h:Heap}(ok:fe P w H h){a:Addr}(e:h.get? a=none):H a=none:=by
 cases q:H a with
 | none=>rfl
 | some o =>
  obtain⟨u,z⟩:=uL (ok a o q);rw[e]at z;cases z
theorem jb{X:Cx}{pins:List (Addr×Obj)}{σ:St}{H:Hp}{s:Shared}(I:L2.Inv X pins σ H s)(hex:X.ex=[]){b:Addr}(e:s.heap.get? b=none):X.bP.heap.get? b=none:=by
 cases e0:X.bP.heap.get? b with
 | none=>rfl
 | some o =>
  obtain⟨o',e1⟩:=I.base.there b o e0 (by rw[hex];simp)
  rw[e]at e1;cases e1
theorem Dx{X:Cx}{Y:bI}{pins:List (Addr×Obj)}{σ:St}{ao:Sd}{H F:Hp}{s:Shared}{a T T':Addr}{h':Heap}{c:Str}{E:XK}(cU:Y.io=[]/\Y.ob=[])(hY:Y.H0=X.j8)(hex:X.ex=[])(j7:X.stack=X.env::X.outer)(yy:X.env.frame=some X.env.locals)
  (I:L2.Inv X pins σ H s) (R:RS Y F ao σ H) (ea:dG (H a)) (eT:dG (H T)) (na:Y.H0 a=none) (nT:Y.H0 T=none) (la:X.bP.heap.get? a=none) (lT:X.bP.heap.get? T=none)
  (m:Moved (iM X.stack) a T s.heap h' T') (f:wH h' a T' c) (hE:∀t H',E (.str c t) none H'):Tr X.prog X.w X.outer X.j8 X.bP E (.ref a) {s with heap:=h'}:=by
 obtain⟨yA,Tn⟩:=mO I.bC m f I.jP ea eT;have un3:Un (X.env.locals::X.fs) [a,T] H (cT H a T T' c) s.heap h':=by
  have e:iM X.stack=X.env.locals::iM X.outer:=by
   rw[j7];unfold iM;rw[List.filterMap_cons,yy]
  rw[e]at Tn;exact Tn
 have hb:Un X.fs [] X.j8 H X.bP.heap s.heap:=by
  have:=I.base;rw[hex]at this;exact this
 have Wq:Y.H0 T'=none/\X.bP.heap.get? T'=none:=by
  rcases m.new with z|z
  ·exact⟨(R.bZ (eX I.bC z)).1,jb I hex z⟩
  ·rw[z];exact⟨nT,lT⟩
 refine⟨a,T',c,cT H a T T' c,rfl,I.os,I.bare,Il hb un3 I.ok.above la lT,yA,λb o e=>?_,by rw[<- hY];exact na,by rw[<- hY];exact Wq.1,la,Wq.2,m.ne.symm,?_,?_,λt=>hE t _⟩
 ·have e':Y.H0 b=some o:=by rw[hY];exact e
  unfold cT;rw[if_neg (λz=>by rw[z,na]at e';cases e'),if_neg (λz=>by rw[z,Wq.1]at e';cases e'),if_neg (λz=>by rw[z,nT]at e';cases e')]
  exact R.old b o e' (by simp [bI.C1,cU.1,cU.2])
 ·unfold cT;rw[if_pos rfl]
 ·unfold cT;rw[if_neg m.ne,if_pos rfl]
theorem MP{x qual:Str}{st:Stmt}{f:Addr}{fd:FuncData}{N ps:List Str}{sp:zJ}{t:(Str->Sd->Prop)->cu}(hK:G.K=KF.K)(Fn:FK G.K x qual st f fd)(Sc:aH N ps (ah st))
  (ht:∀Ed:Str->Prop,dC G k ⟨N,(ah st).names,[],false,false,true,λc _=>Ed c⟩ (ax st) (t λc _=>Ed c))
  (len:∀ds Q E,sp ds Q E->ds.length=ps.length)
  (body:∀ds Q E,sp ds Q E->t (λc _=>E c) {nx:=λ_=>Q (.sh .aX),rt:=λb _=>Q b} (aP N.length ds)):dQ G.P G.w G.K G.mg G.base (Tr G.P G.w) (k+1) f fd ps (YQ sp):=by
 obtain⟨oc,od,kV,doc,pm,an,iq,ct,Hk,rfl,lk,ql⟩:=Fn.ex;refine JF lk ql Sc (λvs H Q E h=>?_) λA outer s H vs Q E hr h=>?_
 ·obtain⟨F,ds,Qd,Ed,s,r,q,K,_⟩:=h
  rw[r.length];exact len _ _ _ q
 ·obtain⟨F,ds,Qd,Ed,sm,r,q,K,KE⟩:=h
  refine⟨_,ht Ed (p7 (Tr G.P G.w) G.P G.w G.K G.mg G.base N qual (ah st) f iq A outer s H E) ⟨H,F,[],[]⟩ ⟨rfl,rfl,rfl,hK,rfl,rfl,rfl,rfl,Sc.nd,λp hp=>absurd hp (by simp),λ_ _=>rfl,λ_=>rfl,Sc.kind,λ_ _ _=>rfl,λ_=>hr.hd,hr.dp,hr.un,λ_=>PassesOwn.leaving,λ_=>⟨rfl,rfl,rfl⟩,
   λc ao hx pins σ H1 F1 s1 a T I R fl=>?_,λ_ c ao hx pins σ H1 F1 s1 a I R ha na la=>?_⟩,F,aP N.length ds,_,RS.start _ sm r,body ds Qd Ed q,?_⟩
  ·refine yK (c:=c) (T:=T) I.ok.frames rfl I.stack ⟨(I.bC a _ fl.ha).1,(I.bC T _ fl.hT).1⟩ fl.ne λh' T' m f'=>?_
   exact Dx ⟨rfl,rfl⟩ rfl rfl rfl rfl I R ⟨_,fl.ha⟩ ⟨_,fl.hT⟩ fl.na fl.nT fl.la fl.lT m f' λt H'=>KE c t H' hx
  ·refine leave_new (c:=c) I.ok.frames rfl I.stack (I.bC a _ ha).1 λh' T' m f'=>?_
   exact Dx ⟨rfl,rfl⟩ rfl rfl rfl rfl I R ⟨_,ha⟩ ⟨_,ha⟩ na na la la m f' λt H'=>KE c t H' hx
  have same:∀ {F':Hp} {ao:Sd} {σ:St} {H':Hp},RS ⟨H,F,[],[]⟩ F' ao σ H'->aw H H':=λR b o e=>R.old b o e (by simp [bI.C1])
  refine⟨λσ H' F' ao s' R' q'=>?_,λv σ H' F' ao b s' R' r' q'=>?_,λ_ _ _ _ _ _ h=>h.elim,λ_ _ _ _ _ _ h=>h.elim⟩
  ·exact K .aX H' F' (.sh .aX) s' R'.fr (same R') R'.eQ .aX q'
  ·refine K v H' F' b s' R'.fr (same R') R'.eQ ?_ q'
   cases b with
   | sh d=>exact r'
   | own xs =>
    obtain⟨a,us,rfl,w1,w2,w3,w4,w5⟩:=r';exact⟨a,us,rfl,w1,w2,w3,w4⟩
   | obj o =>
    obtain⟨a,rfl,w1,w2⟩:=r';exact⟨a,rfl,w1,λb hb=>⟨(w2 b hb).1,(w2 b hb).2.1,(w2 b hb).2.2.1⟩⟩
theorem cw.fx{x:Str}{st:Stmt}{ps N:List Str}{f:Addr}{fd:FuncData}{t:(Str->Sd->Prop)->cu}{sp:zJ}(d:cw G x st ps f fd)(hK:G.K=KF.K)(Sc:aH N ps (ah st))
  (ht:∀Ed:Str->Prop,dC G k ⟨N,(ah st).names,[],false,false,true,λc _=>Ed c⟩ (ax st) (t λc _=>Ed c))
  (len:∀ds Q E,sp ds Q E->ds.length=ps.length) (body:∀ds Q E,sp ds Q E->t (λc _=>E c) {nx:=λ_=>Q (.sh .aX),rt:=λb _=>Q b} (aP N.length ds)):Kf G (k+1) x sp:=
 ⟨f,fd,ps,MP hK d.F Sc ht len body,d.m,d.F.kp,d.b⟩
end Vc
namespace Vc
open PySem L2
variable [KF]
variable {G:GE}{k:Nat}{S:Stat}
def zq:List Value:=[.type "ValueError",.type "Exception",.type "BaseException",.type "object"]
def mroIn(K:PySem.W.Frag)(C:Addr):List Value:=match K.lookup C with
 | some ⟨_,_,.cls cd,_⟩=>cd.mro
 | _=>[]
structure Ts(G:GE)(x:Str):Prop where
 mg:G.mg x=some (.ref (KF.cls x))
 exc:PySem.W.excIn G.K (KF.cls x) zq "ValueError.__new__"=true
theorem pX{K:PySem.W.Frag}{h:Heap}{C:Addr}{l:List Value}{id:String}(Z:K.In h)(q:PySem.W.excIn K C l id=true):
  ∃(bm:List Value) (N:Addr) (nm qn:Str) (bs:List Value) (hd:Bool) (sn:List Str) (sub:List Value) (ab:Bool) (col:Option Bool) (dd:Option Addr) (k0 k1 k2 k3 k5:Option Value) (mN:Str->Option Value),
   mroIn K C=.ref C::bm/\h.get? C=some (excClassObj nm qn C N bs bm hd sn sub ab col dd k0 k1 k2 k3 k5 id)/\h.Ns N mN/\mN "__init__"=none/\OwnTail h l bm:=by
 have q0:=q;unfold PySem.W.excIn at q
 split at q
 ·rename_i o1 c1 s1 e1
  split at q
  ·rename_i C2 tl j0 j1 j2 j3 id2 j5 em es
   simp only[Bool.and_eq_true,beq_iff_eq,Bool.not_eq_true']at q;obtain⟨⟨⟨⟨⟨z1,z2⟩,z3⟩,z4⟩,z5⟩,z6⟩:=q;subst z1 z2;obtain⟨n1,n2,n3,n4,n5,n6,n7,n8,n9,n10,n11⟩:=c1;dsimp only at em z3 z5 z6;subst em z3;obtain rfl:s1=#[j0,j1,j2,j3,some (.builtin id2),j5]:=by
    cases s1;simp only at es;rw[es]
   refine⟨tl,n4,n1,n5,n2,n6,n7,n8,n9,n10,o1,j0,j1,j2,j3,j5,_,?_,Z _ _ e1,Heap.Ns.of_isNs (PySem.W.isNs_of_in Z z5),PySem.W.nsMap_none_of_in Z z5 z6,PySem.W.tail_of_in Z z4⟩;unfold mroIn;rw[e1]
  ·cases q
 ·cases q
theorem GO{P:Program}{w:World}{H:Hp}{h h':Heap}{a:Addr}{c:Str}(ok:fe P w H h)(kp:∀b u,h.get? b=some u->h'.get? b=some u)(e:h.get? a=none)
  (f:∃o vs a0,h'.get? a=some o/\o.cls=.ref (KF.cls c)/\o.data=.fields vs/\vs[0]?=some a0/\vs[1]?=some .none) {fs ex:List Addr}:fe P w (upd H a (N9 a c)) h'/\Un fs ex H (upd H a (N9 a c)) h h':=by
 have na:=eX ok e;have ne:∀ {b:Addr} {u:HO},H b=some u->b≠a:=λq z=>by rw[z,na]at q;cases q
 refine⟨λb u q=>?_,⟨λb u q _ _ _=>kp b u q,λb u q _ _ _=>⟨u.slots,kp b u q⟩,λb u q n _=>?_,λb u q _=>⟨u,kp b u q⟩,λb xs q=>by rw[ak (ne q)];exact q,λb o u q=>by rw[ak (ne q)];exact q,λb ps q=>⟨#[],by rw[ak (ne q),q];simp⟩⟩⟩
 ·by_cases hb:b=a
  ·subst hb;rw[ay]at q;cases q
   obtain⟨o,vs,a0,z1,z2⟩:=f;exact⟨⟨o,vs,a0,z1,z2⟩,⟨o,z1⟩,λh1 h2 ⟨o,vs,a0,y1,y2⟩ k=>⟨o,vs,a0,k o y1,y2⟩⟩
  ·rw[ak hb]at q
   exact(ok b u q).nH (λd v _ r=>kp d v r) (λd r=>by rw[ak (ne r)];exact r) (λd xs r=>by rw[ak (ne r)];exact r) λd o u r=>by rw[ak (ne r)];exact r
 ·rw[ak λz=>by rw[z,e]at q;cases q];exact n
def tRz(ex:Str->Sd->Prop)(x:Str)(t:fo):cu:=λ_ σ=>t σ λds aA=>ds.length<=sizeLine/\ex x aA
theorem HW{x:Str}{e:Expr}{t:fo}{np cpos pos:Pos}(hc:Ts G x)(ha:wG G k S [e] t)(hg:S.sc.lookup x=some .globalImplicit:=by rfl)(qm:(x==("__debug__":Str))=false:=by decide)
  (he:∀env,starEach [e] env=(false,eval e env)::starEach [] env:=by intro _;rfl) (hh:S.lK=false:=by rfl) (hrs:S.rs=true:=by rfl) (GF:S.oG=false:=by rfl):
  ES G k S (.Raise (some (.Call (.Name x np) [e] [] cpos)) none pos) (tRz S.ex x t):=.mk λX Y ok pins s σ H D I q=>by
 obtain⟨F,ao,De,R,q,K⟩:=q;have hq:PySem.W.excIn X.K (KF.cls x) zq "ValueError.__new__"=true:=by rw[ok.K];exact hc.exc
 obtain⟨Uh,N',YJ,qn',Yo,zt,YN,Ib,Yn,F8,SN,k0',k1',k2',k3',k5',mN',hm',hC,hN,Z7,hT⟩:=pX I.ok.mod.Wm hq;have fP:(backTo cpos (starEach [e] X.env)).any (·.1)=false:=by rw[he];rfl
 refine wpAny_Raise_call_subU (C:=KF.cls x) (nm:=YJ) (q:=qn') (N:=N') (bs:=Yo) (bm:=Uh) (hdct:=zt) (sn:=YN) (sub:=Ib) (ab:=Yn) (col:=F8) (dd:=SN) (k0:=k0') (k1:=k1') (k2:=k2') (k3:=k3') (k5:=k5') (mN:=mN') (bmB:=zq)
  PySem.F.excBase_ValueError ∅ PySem.F.excBase_ValueError (hT.hasType ∅) (ok.hd hh) fP Z7 ?_
 refine i3 I (dI ok hg) (by rw[ok.mg];exact hc.mg) ⟨rfl,?_⟩ qm
 have go:=ha X Y ok cpos pins s σ H (λvs H1=>∃F1 aA,RS Y F1 aA σ H1/\vs.length<=sizeLine/\S.ex x aA) I ⟨F,ao,_,R,q,λvs H1 F1 ds aA s1 R1 r1 q1=>⟨F1,aA,R1,by rw[r1.length];exact q1.1,q1.2⟩⟩
 rw[he]at go ⊢;refine Calls.evalArgs_plain (cD go λus s1 ⟨vs,H1,I1,r1,F1,aA,R1,hl,hx⟩=>⟨rfl,by rw[<- r1.length];exact hl,I1.bk _ _ hC,hN.keeps I1.bk,hT.keeps I1.bk,λh' a m=>?_⟩)
 obtain⟨t0,y1,y2,y3⟩:=m.there;have hf:∃o vs a0,h'.get? a=some o/\o.cls=.ref (KF.cls x)/\o.data=.fields vs/\vs[0]?=some a0/\vs[1]?=some .none:=⟨_,_,_,y1,rfl,rfl,rfl,rfl⟩;obtain⟨yA,Tn⟩:=GO (fs:=X.fs) (ex:=[]) I1.bC m.keeps m.new hf;have na:=eX I1.bC m.new;exact ok.made hrs x aA hx pins σ _ F1 _ a (I1.un (t':=s1.toks) Tn yA) (R1.kj na) ay (R1.bZ na).1 (jb I1 (ok.nx GF).1 m.new)
end Vc
namespace Vc
open PySem L2
variable [KF]
variable {G:GE}{k:Nat}{S:Stat}
structure XCls(G:GE)(L:List Str):Prop where
 cls:∀c∈L,Ts G c
 mro:∀c∈L,mroIn G.K (KF.cls c)=.ref (KF.cls c)::((if c="NearError" then []else [.ref (KF.cls "NearError")])++zq)
 inj:∀c∈L,∀d∈L,KF.cls c=KF.cls d->c=d
 near:("NearError":Str)∈L
def Ie(c d:Str):Bool:=c==d||d=="NearError"
theorem XCls.sub{L:List Str}(Z:XCls G L){c d:Str}(hc:c∈L)(hd:d∈L):(mroIn G.K (KF.cls c)).contains (.ref (KF.cls d))=Ie c d:=by
 rw[Bool.eq_iff_iff,List.contains_iff_mem,Z.mro c hc];unfold Ie;rw[Bool.or_eq_true,beq_iff_eq,beq_iff_eq,List.mem_cons,List.mem_append];constructor
 ·rintro(h|h|h)
  ·injection h with h
   exact .inl (Z.inj d hd c hc h).symm
  ·split at h
   ·cases h
   ·rw[List.mem_singleton]at h
    injection h with h
    exact .inr (Z.inj d hd _ Z.near h)
  ·simp [zq]at h
 ·rintro(h|h)
  ·subst h;exact .inl rfl
  ·subst h
   by_cases z:c="NearError"
   ·subst z;exact .inl rfl
   ·rw[if_neg z];exact .inr (.inl (List.mem_singleton.mpr rfl))
section
variable {M:Model}{A:Around}{E:Value->Shared->Prop}{h:Heap}{g:Array GenState}{d:Drawn}{t:Nat}{os:OsState}
theorem ZD{e C D' N N':Addr}{oe:Obj}{nm q YJ q':Str}{bs bm Yo Uh sub Ib:List Value}{hd zt ab Yn:Bool}{sn YN:List Str}{col F8:Option Bool}{dd SN:Option Addr}{k0 k1 k2 k3 k5 l0 l1 l2 l3 l5:Option Value}{id YD:String}{Q:Bool->Shared->Prop}
    (hC:h.get? C=some (excClassObj nm q C N bs bm hd sn sub ab col dd k0 k1 k2 k3 k5 id)) (hD:h.get? D'=some (excClassObj YJ q' D' N' Yo Uh zt YN Ib Yn F8 SN l0 l1 l2 l3 l5 YD)) (he:h.get? e=some oe) (CC:oe.cls=.ref C)
    (hb:(Value.ref D'::Uh).contains (.type "BaseException")=true) (hi:(Value.ref C::bm).contains (.ref D')=true) (hq:Q true ⟨h,g,d,t,os⟩):wpAny M A (excMatches (.ref e) (.ref D')) Q E ⟨h,g,d,t,os⟩:=by
  have nt:=tc_notTuple;unfold excMatches
  repeat (first
    | (with_reducible refine wpAny_loadPart_at he ?_
       rw[CC])
    | with_reducible refine wpAny_loadPart_at hD ?_
    | (with_reducible refine wpAny_isSubtype_exc hD ?_
       rw[hb])
    | (with_reducible refine wpAny_isSubtype_exc hC ?_
       rw[hi])
    | wp_step)
  exact hq
end
end Vc
namespace Vc
open PySem L2
variable [KF]
variable {G:GE}{k:Nat}{S:Stat}
def vN(X:Cx)(a:Addr):Cx:={X with A:=X.A.mark (some (.ref a)),calm:=false,xe:=λ_ _=>False}
def DR(X:Cx)(pins:List (Addr×Obj))(xe:Value->Shared->Prop):Cx:={X with pn:=X.pn++pins,xe:=xe}
section
variable {X:Cx}{pins:List (Addr×Obj)}{σ:St}{H:Hp}{s:Shared}{a:Addr}{xe:Value->Shared->Prop}
theorem M5(ok:X.Ok):(vN X a).Ok:=
 ⟨ok.mod,ok.kind,ok.glob,ok.blt,ok.above,ok.inj,ok.has,ok.Jp,(λh=>nomatch h),ok.frames,ok.RM,ok.Vh,ok.bs,ok.zr,ok.um,ok.vG,ok.iO,ok.Gu⟩
theorem Qa(ok:X.Ok):(DR X pins xe).Ok:=
 ⟨ok.mod,ok.kind,ok.glob,ok.blt,ok.above,ok.inj,ok.has,ok.Jp,ok.hd,ok.frames,ok.RM,ok.Vh,ok.bs,ok.zr,ok.um,ok.vG,ok.iO,ok.Gu⟩
theorem CP(I:L2.Inv X pins σ H s):L2.Inv (vN X a) pins σ H s:=⟨M5 I.ok,I.os,I.bare,I.base,I.loc,I.cell,I.free,I.dy,I.pin,I.bC,I.len⟩
theorem GP(ok:X.Ok)(I:L2.Inv (vN X a) pins σ H s):L2.Inv X pins σ H s:=⟨ok,I.os,I.bare,I.base,I.loc,I.cell,I.free,I.dy,I.pin,I.bC,I.len⟩
theorem P0(I:L2.Inv X pins σ H s):L2.Inv (DR X pins xe) [] σ H s:=
 ⟨Qa I.ok,I.os,I.bare,I.base,I.loc,I.cell,I.free,I.dy,λp hp=>I.pin p (by rw[List.append_nil]at hp;exact hp),I.bC,I.len⟩
theorem jc{xE:List (Addr×Obj)}(ok:X.Ok)(I:L2.Inv (DR X pins xe) xE σ H s):L2.Inv X pins σ H s:=
 ⟨ok,I.os,I.bare,I.base,I.loc,I.cell,I.free,I.dy,λp hp=>I.pin p (List.mem_append_left _ hp),I.bC,I.len⟩
theorem Eh{D:Ends}{f:Flow}(ok:X.Ok)(h:SP (DR X pins xe) [] D f s):SP X pins D f s:=by
 cases f with
 | next=>obtain⟨bN,H',I,q⟩:=h;exact⟨bN,H',jc ok I,q⟩
 | brk=>obtain⟨bN,H',I,q⟩:=h;exact⟨bN,H',jc ok I,q⟩
 | cont=>obtain⟨bN,H',I,q⟩:=h;exact⟨bN,H',jc ok I,q⟩
 | ret u=>obtain⟨v,bN,H',I,r,q⟩:=h;exact⟨v,bN,H',jc ok I,r,q⟩
theorem GB{M:Model}{A:Around}{E:Value->Shared->Prop}{i:Nat}{n:Str}{pos:Pos}{Q:Unit->Shared->Prop}(I:L2.Inv X pins σ H s)(hN:X.N.Nodup)(hi:X.N[i]?=some n)(hx:X.env.kindOf n=some .local)
  (h:∀s',L2.Inv X pins (σ.set i none) H s'->Q () s'):wpAny M A (do bindName X.env n .none;unbindBehindTheSuite X.env n pos) Q E s:=by
 obtain⟨m,hn,hl⟩:=id I.loc;have CC:(X.env.scope.kind==.class||(X.env.scope.kind==.module&&X.env.locals != X.env.globals))=false:=by rw[I.ok.kind];rfl
 have A8:=I.A8;refine wpAny_nameGoes_keeps hx hn CC λh' v Z6 hs=>h _ ?_;obtain⟨oL,_,_,CN,_⟩:=id hn;have nl:∀ {b:Addr} {o:Obj},X.bP.heap.get? b=some o->b≠X.env.locals:=λe=>Nat.ne_of_lt (Nat.lt_of_lt_of_le (Heap.lt_size e) I.ok.above);refine⟨I.ok,I.os,I.bare,⟨λb o e n0 hb JQ=>(hs.2 b (nl e)).trans (I.base.keep b o e n0 hb JQ),λb o e n0 hb JQ=>?_,I.base.free,λb o e JQ=>?_,I.base.nO,I.base.lF,I.base.nK⟩,⟨_,Z6,λj y w e1 e2 e3=>?_⟩,λy c e=>?_,I.free,I.dy,λp hp=>?_,λb ob e=>?_,by simpa using I.len⟩
 ·obtain⟨sl,e1⟩:=I.base.slot b o e n0 hb JQ
  exact⟨sl,(hs.2 b (nl e)).trans e1⟩
 ·obtain⟨o',e1⟩:=I.base.there b o e JQ
  exact⟨o',(hs.2 b (nl e)).trans e1⟩
 ·have hj:j≠i:=λz=>by
   subst z;rw[List.getElem?_set]at e2;simp only[if_true]at e2
   split at e2<;>cases e2
  rw[List.getElem?_set_ne (Ne.symm hj)]at e2;obtain⟨u,r,q⟩:=hl j y w e1 e2 e3;refine⟨u,r,?_⟩;rcases q with⟨kk,e⟩|⟨kk,c,e,z⟩
  ·have:y≠n:=λz=>hj (nc hN e1 (z ▸ hi))
   exact .inl ⟨kk,by simp [this,e]⟩
  ·exact .inr ⟨kk,c,e,z.sameBut hs (A8 y c e)⟩
 ·obtain⟨w,z⟩:=I.cell y c e
  exact⟨w,z.sameBut hs (A8 y c e)⟩
 ·obtain⟨e,n0,ne,nf,d⟩:=I.pin p hp
  exact⟨(hs.2 p.1 ne).trans e,n0,ne,nf,d⟩
 ·refine(I.bC b ob e).nH (λc w hc q=>(hs.2 c ?_).trans q) (λ_ q=>q) λ_ _ q=>q
  rintro rfl;rcases hc with z|z
  ·rw[<- z,I.free]at e;cases e
  ·rw[I.free]at z;cases z
end
theorem RS.gone{Y:bI}{F:Hp}{ao:Sd}{σ:St}{H:Hp}{i:Nat}(R:RS Y F ao σ H)(cU:∀p∈Y.io,p.1≠i):RS Y F (ao.set i none) (σ.set i none) H:=by
 have ne:∀ {j:Nat} {b:B},(ao.set i none)[j]?=some (some b)->j≠i:=λe z=>by
  rcases gs e with⟨_,w⟩|⟨w,_⟩
  ·cases w
  ·exact w z
 refine⟨by simpa using R.len,R.lo,R.fr,R.eQ,R.old,λj d e=>?_,λj xs e=>?_,λj l xs ys a e1 e2 e3 e4=>?_,λp hp=>?_,R.ob.put (λ_ hj=>bB hj) (λ_ z=>nomatch z) (λ_ _ z=>nomatch z)⟩
 ·have:=ne e
  rw[bB this]at e ⊢;exact R.sh j d e
 ·have:=ne e
  rw[bB this]at e ⊢;exact R.own j xs e
 ·have h1:=ne e1
  have h2:=ne e2;rw[bB h1]at e1 e3;rw[bB h2]at e2 e4;exact R.dis j l xs ys a e1 e2 e3 e4
 ·have:=cU p hp
  rw[bB this,bB this];exact R.io p hp
theorem RS.fly{Y:bI}{F:Hp}{ao:Sd}{σ:St}{H:Hp}{a T T':Addr}{c:Str}(R:RS Y F ao σ H)(fa:F a=none)(fT:F T=none)(na:Y.H0 a=none)(nT:Y.H0 T=none)(ea:dG (H a))(eT:dG (H T))(new:H T'=none\/T'=T):
  RS Y F ao σ (cT H a T T' c)/\F T'=none/\Y.H0 T'=none:=by
 have Vy:F T'=none/\Y.H0 T'=none:=by
  rcases new with z|z
  ·exact⟨same_none R.fr z,(R.bZ z).1⟩
  ·rw[z];exact⟨fT,nT⟩
 have same:∀b o,b≠a->b≠T->b≠T'->H b=some o->cT H a T T' c b=some o:=λb o n1 n2 n3 e=>by
  unfold cT;rw[if_neg n1,if_neg n3,if_neg n2];exact e
 obtain⟨φ,ea⟩:=ea;obtain⟨ψ,eT⟩:=eT;refine⟨⟨R.len,R.lo,λb o e=>?_,R.eQ,λb o e n=>?_,R.sh,λj xs e=>?_,R.dis,R.io,?_⟩,Vy⟩
 case refine_4 =>
  have up:∀b,H b≠none->(∀φ,H b≠some (.ext φ))->cT H a T T' c b=H b:=λb h1 h2=>by
   cases q:H b with
   | none=>exact absurd q h1
   | some o =>
    refine same b o (λz=>h2 φ (z ▸ ea)) (λz=>h2 ψ (z ▸ eT)) (λz=>?_) q;rcases new with y|y
    ·rw[z,y]at q;cases q
    ·exact h2 ψ (by rw[z,y];exact eT)
  refine R.ob.step (aw.refl _) (λ_ _ e=>⟨e,rfl⟩) (λb hb=>⟨up b (R.ob.owned hb).2.1 λ_=>R.ob.Dl hb,(R.ob.owned hb).1,(R.ob.owned hb).2.2⟩) R.ob.iK λb hb=>?_;unfold cT
  split
  ·exactλz=>nomatch z
  split
  ·exactλz=>nomatch z
  split
  ·rename_i z;exact absurd (by rw[z];exact nT) (R.ob.FD b hb)
  ·exact R.ob.there b hb
 ·exact same b o (λz=>by rw[z,fa]at e;cases e) (λz=>by rw[z,fT]at e;cases e) (λz=>by rw[z,Vy.1]at e;cases e) (R.fr b o e)
 ·exact same b o (λz=>by rw[z,na]at e;cases e) (λz=>by rw[z,nT]at e;cases e) (λz=>by rw[z,Vy.2]at e;cases e) (R.old b o e n)
 ·obtain⟨b,vs,w1,w2,w3,w4,w5⟩:=R.own j xs e
  refine⟨b,vs,w1,same b _ (λz=>by rw[z,ea]at w2;cases w2) (λz=>by rw[z,eT]at w2;cases w2) (λz=>?_) w2,w3,w4,w5⟩
  rcases new with y|y
  ·rw[z,y]at w2;cases w2
  ·rw[z,y,eT]at w2;cases w2
end Vc
namespace Vc
open PySem L2
variable [KF]
variable {G:GE}{k:Nat}{S:Stat}
def lC(H:Hp)(a T:Addr)(c:Str):Hp:=λb=>if b=a then some (yp a c)else if b=T then none else H b
theorem Ay{P:Program}{w:World}{fs:List Addr}{H:Hp}{h:Heap}{a T:Addr}{c:Str}(bC:fe P w H h)(f:wH h a T c)(ea:dG (H a))(eT:dG (H T)):fe P w (lC H a T c) h/\Un fs [a,T] H (lC H a T c) h h:=by
 obtain⟨φ,ea⟩:=ea;obtain⟨ψ,eT⟩:=eT;have other:∀b o,H b=some o->(∀φ,o≠.ext φ)->lC H a T c b=some o:=λb o e n=>by
  unfold lC;rw[if_neg (λz=>by subst z;rw[ea]at e;cases e;exact n _ rfl),if_neg (λz=>by subst z;rw[eT]at e;cases e;exact n _ rfl)]
  exact e
 refine⟨λb o e=>?_,⟨λb o e n n1 n2=>e,λb o e n hb n2=>⟨o.slots,e⟩,λb o e n n2=>?_,λb o e n2=>⟨o,e⟩,λb xs e=>other b _ e (λφ z=>by cases z),λb o u e=>other b _ e (λφ z=>by cases z),λb ps e=>⟨#[],by rw[other b _ e (λφ z=>by cases z)];simp⟩⟩⟩
 ·unfold lC at e
  split at e
  ·rename_i z;subst z;cases e
   obtain⟨o,vs,a0,y1,y2,_⟩:=f.ex;exact⟨⟨o,y1,y2⟩,⟨o,y1⟩,λh1 h2 ⟨o,z1,z2⟩ k=>⟨o,k o z1,z2⟩⟩
  ·split at e
   ·cases e
   ·exact(bC b o e).nH (λd u hd q=>q) (λd q=>other d _ q (λφ z=>by cases z)) (λd xs q=>other d _ q (λφ z=>by cases z)) λd o u q=>other d _ q (λφ z=>by cases z)
 ·simp only[List.mem_cons,List.not_mem_nil,or_false,not_or]at n2
  unfold lC;rw[if_neg n2.1,if_neg n2.2];exact n
theorem RS.SM{Y:bI}{F:Hp}{ao:Sd}{σ:St}{H:Hp}{a T:Addr}{c:Str}(R:RS Y F ao σ H)(fa:F a=none)(fT:F T=none)(na:Y.H0 a=none)(nT:Y.H0 T=none)(ea:dG (H a))(eT:dG (H T)):RS Y (upd F a (yp a c)) ao σ (lC H a T c):=by
 obtain⟨φ,ea⟩:=ea;obtain⟨ψ,eT⟩:=eT;have sm:=aJ (o:=yp a c) fa;have same:∀b o,b≠a->b≠T->H b=some o->lC H a T c b=some o:=λb o n1 n2 e=>by
  unfold lC;rw[if_neg n1,if_neg n2];exact e
 refine⟨R.len,R.lo.trans sm,λb o e=>?_,λb o e=>?_,λb o e n=>?_,λj d e=>?_,λj xs e=>?_,R.dis,R.io,?_⟩
 case refine_6 =>
  refine R.ob.step sm (λ_ _ e=>⟨e,rfl⟩) (λb hb=>?_) R.ob.iK λb hb=>?_
  ·obtain⟨w1,w2,w3⟩:=R.ob.owned hb
   have n1:b≠a:=λz=>R.ob.Dl hb (z ▸ ea);have n2:b≠T:=λz=>R.ob.Dl hb (z ▸ eT);refine⟨?_,by rw[ak n1];exact w1,w3⟩
   cases q:H b with
   | none=>exact absurd q w2
   | some o=>exact same b o n1 n2 q
  ·unfold lC
   split
   ·exactλz=>nomatch z
   split
   ·rename_i z;exact absurd (by rw[z];exact nT) (R.ob.FD b hb)
   ·exact R.ob.there b hb
 ·by_cases hb:b=a
  ·subst hb;rw[ay]at e;cases e
   unfold lC;rw[if_pos rfl]
  ·rw[ak hb]at e
   exact same b o hb (λz=>by rw[z,fT]at e;cases e) (R.fr b o e)
 ·by_cases hb:b=a
  ·rw[hb];exact .inr (.inl na)
  ·rw[ak hb]at e;exact R.eQ b o e
 ·exact same b o (λz=>by rw[z,na]at e;cases e) (λz=>by rw[z,nT]at e;cases e) (R.old b o e n)
 ·obtain⟨v,h1,h2⟩:=R.sh j d e
  exact⟨v,h1,h2.mono sm⟩
 ·obtain⟨b,vs,w1,w2,w3,w4,w5⟩:=R.own j xs e
  have nb:b≠a:=λz=>by rw[z,ea]at w2;cases w2
  exact⟨b,vs,w1,same b _ nb (λz=>by rw[z,eT]at w2;cases w2) w2,w3.mono sm,by rw[ak nb];exact w4,w5⟩
theorem JA{X:Cx}{pins:List (Addr×Obj)}{σ:St}{H:Hp}{s:Shared}(I:L2.Inv X pins σ H s){b:Addr}{φ:Heap->Prop}(e:H b=some (.ext φ))(l:X.bP.heap.get? b=none):
  (b∈X.ex\/X.bP.heap.get? b=none)/\b≠X.env.locals/\(∀x c,X.env.cells.lookup x=some c->c≠b)/\∀p∈X.pn++pins,p.1≠b:=
 ⟨.inr l,(λz=>by rw[z,I.free]at e;cases e),(λx c q z=>by rw[<- z,I.dy x c q]at e;cases e),λp hp z=>by rw[<- z,(I.pin p hp).2.1]at e;cases e⟩
theorem vC{X:Cx}{pins:List (Addr×Obj)}{σ:St}{H:Hp}{s:Shared}(I:L2.Inv X pins σ H s){a T:Addr}(ea:dG (H a))(eT:dG (H T))(la:X.bP.heap.get? a=none)(lT:X.bP.heap.get? T=none):
  ∀b∈[a,T],(b∈X.ex\/X.bP.heap.get? b=none)/\b≠X.env.locals/\(∀x c,X.env.cells.lookup x=some c->c≠b)/\∀p∈X.pn++pins,p.1≠b:=λb hb=>by
 obtain⟨φ,ea⟩:=ea;obtain⟨ψ,eT⟩:=eT;simp only[List.mem_cons,List.not_mem_nil,or_false]at hb;rcases hb with rfl|rfl
 ·exact JA I ea la
 ·exact JA I eT lT
def R8(L:List Str)(x:Str)(i:Nat)(tb:(Str->Sd->Prop)->cu)(th:cu):cu:=λDe σ =>
 tb (λc aA=>(c∈L/\Ie c x=true)/\th {nx:=λbu=>De.nx (bu.set i none),rt:=λ_ _=>False} (aA.set i (some (.sh (.exc c))))) De σ
theorem XG{L:List Str}{x n:Str}(i:Nat){body Ei:List Stmt}{b0:Stmt}{tb:(Str->Sd->Prop)->cu}{th:cu}{np VX pos:Pos}(Z:XCls G L)(hxL:x∈L)
  (hb:∀fM,dC G k ⟨S.N,S.sc,S.ios,S.oG,false,false,fM⟩ body (tb fM)) (hs:dC G k ⟨S.N,S.sc,S.ios,S.oG,true,false,λ_ _=>False⟩ (b0::Ei) th)
  (hi:S.N[i]?=some n:=by rfl) (hn:S.sc.lookup n=some .local:=by rfl) (hg:S.sc.lookup x=some .globalImplicit:=by rfl) (qm:(x==("__debug__":Str))=false:=by decide) (cU:i∉S.ios:=by first|decide|exact List.not_mem_nil | (dsimp only;decide)) (hh:S.lK=false:=by rfl) (GF:S.oG=false:=by rfl):
  ES G k S (.Try body [.ExceptHandler (some (.Name x np)) (some n) (b0::Ei) VX] [] [] pos) (R8 L x i tb th):=.mk λX Y ok pins s σ H D I q=>by
 obtain⟨F,ao,De,R,q,K⟩:=q;obtain⟨hex,j7,yy⟩:=ok.nx GF;have VH:∀p∈Y.io,p.1≠i:=λp hp z=>cU (z ▸ ok.ios p hp);refine wpAny_Try_except ?_
 let Y1:bI:=⟨Y.H0,F,Y.io,Y.ob⟩
 have toY:∀ {F':Hp} {aR:Sd} {bN:St} {H':Hp},RS Y1 F' aR bN H'->RS Y F' aR bN H':=λR'=>⟨R'.len,R.lo.trans R'.lo,R'.fr,λb o e=>by
  rcases R'.eQ b o e with z|z
  ·exact R.eQ b o z
  ·exact .inr z,R'.old,R'.sh,R'.own,R'.dis,R'.io,⟨R'.ob.obj,R'.ob.yo,R'.ob.iK,R'.ob.there,R'.ob.FD,R'.ob.tab⟩⟩
 have R0:RS Y1 F ao σ H:=⟨R.len,aw.refl _,R.fr,λb o e=>.inl e,R.old,R.sh,R.own,R.dis,R.io,⟨R.ob.obj,R.ob.yo,R.ob.iK,R.ob.there,R.ob.FD,R.ob.tab⟩⟩;have K1:sd Y1 F De D:=⟨λσ H F' ao s R' q=>K.nx σ H F' ao s (toY R') q,λv σ H F' ao b s R' r q=>K.rt v σ H F' ao b s (toY R') (by cases b<;>exact r) q,λσ H F' ao s R' q=>K.bk σ H F' ao s (toY R') q,λσ H F' ao s R' q=>K.ct σ H F' ao s (toY R') q⟩
 let xe':Value->Shared->Prop:=λe s1=>wpAny (model X.prog X.w) X.A (noteFrame e X.env) (λ_ s2=>wpAny (model X.prog X.w) X.A (setFlight e none) (λ_ s3 =>
  wpAny (model X.prog X.w) X.A (handleBy e X.env [.ExceptHandler (some (.Name x np)) (some n) (b0::Ei) VX]) (SP X pins D) X.xe s3) X.xe s2) X.xe s1
 let fM:Str->Sd->Prop:=λc aA=>(c∈L/\Ie c x=true)/\th {nx:=λbu=>De.nx (bu.set i none),rt:=λ_ _=>False} (aA.set i (some (.sh (.exc c))))
 have ok':dD (DR X pins xe') G k ⟨S.N,S.sc,S.ios,S.oG,false,false,fM⟩ Y1:=by
  refine⟨ok.P,ok.w,ok.K,ok.kf,ok.mg,ok.base,ok.N,ok.sc,ok.nd,ok.ios,ok.obs,λ_=>ok.calm hh,ok.kind,ok.fn,λ_=>ok.hd hh,ok.dp,ok.un,λ_=>PassesOwn.looking,ok.nx,λc zm hx aaT aA H1 F1 s1 a T I1 R1' fl=>?_,λh=>nomatch h⟩;obtain⟨⟨hcL,hcx⟩,hq⟩:=hx;have R1:=toY R1';have sF:aw F F1:=R1'.lo;have I2:L2.Inv X pins aA H1 s1:=jc I.ok I1;have fr1:X.A.frames=some (X.env::X.outer):=by rw[<- j7];exact I.ok.frames
  have ff1:s1.heap.FunFrames X.base (X.env::X.outer):=by rw[<- j7];exact I2.stack
  refine C8 fr1 yy ff1 ⟨(I2.bC a _ fl.ha).1,(I2.bC T _ fl.hT).1⟩ fl.ne λh2 T2 m2 f2=>?_;obtain⟨yA,Tn⟩:=mO I2.bC m2 f2 (by rw[<- j7];exact I2.jP) ⟨_,fl.ha⟩ ⟨_,fl.hT⟩
  have I3:L2.Inv X pins aA (cT H1 a T T2 c) {s1 with heap:=h2}:=I2.su rfl (by rw[j7];exact Tn) yA I2.bare (vC I2 ⟨_,fl.ha⟩ ⟨_,fl.hT⟩ fl.la fl.lT)
  obtain⟨R3,fT2,nT2⟩:=R1.fly (T':=T2) (c:=c) fl.fa fl.fT fl.na fl.nT ⟨_,fl.ha⟩ ⟨_,fl.hT⟩ (m2.new.imp (eX I2.bC) id);have lT2:X.bP.heap.get? T2=none:=m2.new.elim (λz=>jb I2 hex z) λz=>by rw[z];exact fl.lT
  have JH:dG (cT H1 a T T2 c a):=⟨_,by unfold cT;rw[if_pos rfl];rfl⟩
  have ZN:dG (cT H1 a T T2 c T2):=⟨_,by unfold cT;rw[if_neg m2.ne,if_pos rfl];rfl⟩
  have hqc:PySem.W.excIn X.K (KF.cls c) zq "ValueError.__new__"=true:=by rw[ok.K];exact(Z.cls c hcL).exc
  have hqx:PySem.W.excIn X.K (KF.cls x) zq "ValueError.__new__"=true:=by rw[ok.K];exact(Z.cls x hxL).exc
  obtain⟨bm,N,nm,qn,bs,hd,sn,sub,ab,col,dd,k0,k1,k2,k3,k5,mN,hm,hC,_,_,_⟩:=pX I3.nY hqc;obtain⟨Uh,N',YJ,qn',Yo,zt,YN,Ib,Yn,F8,SN,k0',k1',k2',k3',k5',mN',hm',hD,_,_,Vy⟩:=pX I3.nY hqx;obtain⟨oe,vs,a0,e1,e2,_⟩:=f2.ex;refine wpAny_handleBy_cons (codeAny_handlers_test ?_) (by intro z;cases z)
  refine i3 (X:=vN X a) (CP I3) (dI ok hg) (show X.mg x=some (.ref (KF.cls x))by rw[ok.mg];exact(Z.cls x hxL).mg) ?_ qm
  refine ZD hC hD e1 e2 (by rw[List.contains_cons,Vy.hasType (b:=true) ∅,Bool.or_true]) (by rw[<- hm,ok.K,Z.sub hcL hxL];exact hcx) ?_
  refine codeAny_handlers_suite_as ?_;have ff3:h2.FunFrames X.base (X.env::X.outer):=by have:=I3.stack;rw[j7]at this;exact this
  refine yf (outer:=X.outer) (env:=X.env) (base:=X.base) ff3 f2 m2.ne.symm λh3 T3 m3 f3=>?_;obtain⟨VR,un3⟩:=mO yA m3 f3 (by rw[<- j7];exact I3.jP) JH ZN
  have I4:L2.Inv X pins aA (cT (cT H1 a T T2 c) a T2 T3 c) {s1 with heap:=h3}:=I3.su rfl (by rw[j7];exact un3) VR I3.bare (vC I3 JH ZN fl.la lT2)
  obtain⟨R4,fT3,nT3⟩:=R3.fly (T':=T3) (c:=c) fl.fa fT2 fl.na nT2 JH ZN (m3.new.imp (eX I3.bC) id);have lT3:X.bP.heap.get? T3=none:=m3.new.elim (λz=>jb I3 hex z) λz=>by rw[z];exact lT2
  have SX:dG (cT (cT H1 a T T2 c) a T2 T3 c a):=⟨_,by unfold cT;rw[if_pos rfl];rfl⟩
  have ZO:dG (cT (cT H1 a T T2 c) a T2 T3 c T3):=⟨_,by unfold cT;rw[if_neg m3.ne,if_pos rfl];rfl⟩
  obtain⟨aad,un5⟩:=Ay (fs:=iM X.stack) VR f3 SX ZO;have I5:L2.Inv X pins aA (lC (cT (cT H1 a T T2 c) a T2 T3 c) a T3 c) {s1 with heap:=h3}:=I4.su rfl un5 aad I4.bare (vC I4 SX ZO fl.la lT3)
  have R5:=R4.SM (c:=c) fl.fa fT3 fl.na nT3 SX ZO;have sF5:aw F (upd F1 a (yp a c)):=sF.trans (aJ fl.fa);have lc:S.sc.lookup n=some .local\/(S.sc.lookup n=some .cell/\S.oG=false):=.inl hn;refine jQ (X:=vN X a) (i:=i) (v:=.ref a) (CP I5) (by show X.N.Nodup;rw[ok.N];exact ok.nd) (by show X.N[i]?=some n;rw[ok.N];exact hi) (mX ok lc) rfl (λs4 I6=>?_) (mP ok lc)
  have R6:=R5.nv (i:=i) (d:=.exc c) (v:=.ref a) (.exc ay) VH;have okh:dD (vN X a) G k ⟨S.N,S.sc,S.ios,S.oG,true,false,λ_ _=>False⟩ Y:=
   ⟨ok.P,ok.w,ok.K,ok.kf,ok.mg,ok.base,ok.N,ok.sc,ok.nd,ok.ios,ok.obs,(λh=>nomatch h),ok.kind,ok.fn,(λh=>nomatch h),ok.dp,ok.un,(λh=>nomatch h),ok.nx,(λ_ _ h=>h.elim),λh=>nomatch h⟩
  let Dh:Ends:={nx:=λσ H=>∃F' aR,aw (upd F1 a (yp a c)) F'/\RS Y F' aR σ H/\De.nx (aR.set i none),rt:=λ_ _=>False}
  have run:=hs (vN X a) Y okh pins s4 _ _ Dh I6 ⟨_,_,_,R6,hq,⟨λσ H F' ao s R q=>⟨F',ao,s,R,q⟩,λ_ _ _ _ _ _ _ _ _ h=>h,λ_ _ _ _ _ _ h=>h,λ_ _ _ _ _ _ h=>h⟩⟩;refine wpAny_mono run (λf s5 h=>?_) λ_ _ z=>z.elim;cases f with
  | next =>
   obtain⟨zG,H7,I7,F7,aaR,sm7,R7,q7⟩:=h;exact GB (GP I.ok I7) (by rw[ok.N];exact ok.nd) (by rw[ok.N];exact hi) (by show X.env.scope.names.lookup n=_;rw[ok.sc];exact hn) λs8 I8=>⟨_,H7,I8,K.nx _ _ F7 (aaR.set i none) (sF5.trans sm7) (R7.gone VH) q7⟩
  | brk=>obtain⟨_,_,_,z⟩:=h;exact False.elim z
  | cont=>obtain⟨_,_,_,z⟩:=h;exact False.elim z
  | ret u=>obtain⟨_,_,_,_,_,z⟩:=h;exact False.elim z
 have run:=hb fM _ Y1 ok' [] s σ H D (P0 I) ⟨F,ao,De,R0,q,K1⟩;refine wpAny_mono run (λf s1 h=>?_) λe s1 h=>h;have h:=Eh I.ok h;cases f with
 | next=>exact wpAny_execs_nil h
 | brk=>exact h
 | cont=>exact h
 | ret u=>exact h
end Vc
namespace Vx
open PySem PySem.W PySem.Calls PySem.Spec PyProof.Rows Builtin Builtin.ObjectAttr Builtin.Getset_descriptor
def pd(K:PySem.W.Frag)(C:Addr):Bool:=
 PySem.W.findIn K (.ref C) "__getattribute__"==some (some (.builtin "BaseException.__getattribute__"))&&PySem.W.findIn K (.ref C) "__getattr__"==some none&&PySem.W.findIn K (.ref C) "__class__"==some (some (.builtin "object.__class__")) &&
 PySem.W.mroIn K C (.type "object")==some true&&PySem.W.mroIn K C (.type "BaseException")==some true&&PySem.W.typeIn K (.ref C)==some (.type "type")
end Vx
namespace Vc
open PySem L2
variable [KF]
variable {G:GE}{k:Nat}{S:Stat}
structure Jo(G:GE)(L:List Str):Prop extends XCls G L where
 look:∀c∈L,Vx.pd G.K (KF.cls c)=true
end Vc
namespace Vc
theorem FZ{α β:Type}{f:α->β}{cs:List α}{as:List β}(h:cs.map f=as)(nd:as.Nodup){c d:α}(hc:c∈cs)(hd:d∈cs)(e:f c=f d):c=d:=by
 subst h
 induction cs with
 | nil=>cases hc
 | cons x r ih =>
  rw[List.map_cons,List.nodup_cons]at nd;rcases List.mem_cons.mp hc with rfl|Fv
  ·rcases List.mem_cons.mp hd with rfl|zt
   ·rfl
   ·exact absurd (e ▸ List.mem_map_of_mem zt) nd.1
  ·rcases List.mem_cons.mp hd with rfl|zt
   ·exact absurd (e ▸ List.mem_map_of_mem Fv) nd.1
   ·exact ih Fv zt nd.2
end Vc
namespace Vc
open PySem L2
section
variable {X:Cx}
def aaB:V->Option Int->Option Int->Hp->VK->Prop:=λx lo hi H Q=>∃z,x=.str z/\z.length<=sizeLine/\Q (.str (Txt.slice z lo hi)) H
theorem part_of{v:Value}{o:Option Int}(h:IsPart v o):∃l:Option (Int×Tok),v=partValue l/\l.map (·.1)=o:=by
 cases h with
 | none=>exact⟨none,rfl,rfl⟩
 | int i t=>exact⟨some (i,t),rfl,rfl⟩
theorem RK:zo X aaB:=by
 intro pins s σ H x v vl vu lo hi sl Q I rx hs pl pu h;obtain⟨z,rfl,hz,q⟩:=h;obtain⟨t,rfl⟩:=rx;obtain⟨l,rfl,el⟩:=part_of pl;obtain⟨u,rfl,eu⟩:=part_of pu;refine⟨"str",_,F.slot_str_getitem.lookup,typeIs_str _ _ _,wpAny_getItem_str_slice (l:=l) (u:=u) (st:=none) hs rfl ?_⟩;subst el eu;cases l<;>cases u<;>exact post_val_or_str ⟨Nat.le_trans (Txt.slice_le z _ _) hz,λt' k=>⟨.str _,H,I.tok k,⟨t',rfl⟩,q⟩⟩
end
variable [KF]
variable {G:GE}{k:Nat}{S:Stat}
def slA:D->Option Int->Option Int->(EV->Prop)->Prop
 | .str z,lo,hi,Q=>z.length<=sizeLine/\Q (.val (.str (Txt.slice z lo hi)))
 | .lst xs,lo,hi,Q=>Q (.own (cut xs lo hi))
 | .gw ns,lo,hi,Q=>Q (.own (cut (ns.map D.int) lo hi))
 | .tup xs,lo,hi,Q=>Q (.val (.tup (cut xs lo hi)))
 | _,_,_,_=>False
def Ii(t:TV)(tl th:Kv):TX:=λσ Q=>t σ λx aA=>tl aA λl bu=>th bu λu eB=>match fh eB x with
 | some d=>slA d l u λr=>Q r eB
 | none=>False
theorem J4{e:Expr}{lo hi:Option Expr}{t:TV}{tl th:Kv}{p2 pos:Pos}(h:EO G k S e t)(hl:SH G k S lo tl)(hh:SH G k S hi th):EX G k S (.Subscript e (.Slice lo hi none p2) pos) (Ii t tl th):=.mk λX Y ok =>
 bb (DK (zo.or RK (zo.or HZ (zo.or RL Rg))) (h X Y ok) (hl X Y ok) (hh X Y ok)) λσ H Q q=>by
  obtain⟨F,ao,Qd,R,q,K⟩:=q;refine⟨F,ao,_,R,q,λv1 H1 F1 x aA s1 R1 r1 q1=>?_⟩;refine⟨F1,aA,_,R1,q1,λl H2 F2 bu s2 R2 q2=>?_⟩;refine⟨F2,bu,_,R2,q2,λu H3 F3 eB s3 R3 q3=>?_⟩
  split at q3
  ·rename_i d e
   have rx:=R3.fh (r1.mono (s2.trans s3)) e;have g:Goes Y F3 eB σ (λr=>Qd r eB) Q:=λv H' F' r s R' rr qq=>K v H' F' r eB (((s1.trans s2).trans s3).trans s) R' rr qq;cases d with
   | str z =>
    obtain rfl:=rx.str;exact .inl ⟨z,rfl,q3.1,g.val R3 (.str _) q3.2⟩
   | lst xs =>
    obtain⟨p,vs,rfl,h1,r1⟩:=rx.lst;exact .inr (.inl ⟨p,vs,rfl,.inl h1,g.own R3 (r1.cut _ _) q3⟩)
   | gw ns =>
    obtain⟨p,rfl,h1⟩:=rx.gw R3.fr;exact .inr (.inl ⟨p,_,rfl,by rw[ok.kf];exact h1,g.own R3 ((pB _).cut _ _) q3⟩)
   | tup xs =>
    have rx':=rx;obtain⟨p,vs,rfl,h1,r1⟩:=rx.tup R3.fr
    replace q3:Qd (.val (.tup (cut xs l u))) eB:=q3
    by_cases hw:HT.cK xs.length 0 l=0/\HT.cK xs.length xs.length u=xs.length
    ·rw[Ga hw]at q3
     exact .inr (.inr (.inr ⟨p,vs,rfl,.of h1,by rw[r1.length];exact hw,g.val R3 rx' q3⟩))
    ·exact .inr (.inr (.inl ⟨p,vs,rfl,.of h1,by rw[r1.length];exact hw,g.tup R3 (r1.cut _ _) q3⟩))
   | _=>exact q3.elim
  ·exact q3.elim
end Vc
set_option maxHeartbeats 0
namespace Vc
open PySem PySem.W
@[elab_as_elim] theorem aaV{α:Type} {P:List α->Prop} (h:∀a,P [a]):∀us:List α,us.length=1->P us
 | [a],_=>h a
@[elab_as_elim] theorem aaW{α:Type} {P:List α->Prop} (h:∀a b,P [a,b]):∀us:List α,us.length=2->P us
 | [a,b],_=>h a b
@[elab_as_elim] theorem aaX{α:Type} {P:List α->Prop} (h:∀a b c,P [a,b,c]):∀us:List α,us.length=3->P us
 | [a,b,c],_=>h a b c
@[elab_as_elim] theorem aaY{α:Type} {P:List α->Prop} (h:∀a b c d,P [a,b,c,d]):∀us:List α,us.length=4->P us
 | [a,b,c,d],_=>h a b c d
@[elab_as_elim] theorem aaZ{α:Type} {P:List α->Prop} (h:∀a b c d e,P [a,b,c,d,e]):∀us:List α,us.length=5->P us
 | [a,b,c,d,e],_=>h a b c d e
theorem SE{q:Program}{loose:List Str}{XP:(Str->Option Value)->Heap->Prop}{K:Params->Frag}{as:List Addr}{n t:Nat}{r:RowW}{d:DefRec}{kwd:List (Str×Expr)}{run:Value->List Value->Sem Value}
  (e:∀P,as=(K P).map (·.1)) (h:WalkO q loose XP (λw h=>(K w.params).In h) r d kwd run):WalkX q loose XP (X.obsZ as) (X.valZ K n t) r d kwd run:=
 λw bP bL mg mb G y a o pm cd doc dV kV ho hd ql hD hmg hg args vals as' L yB VP Yy V3 xi =>
  h w bP bL mg mb G (InK.keeps w _ _ (X.z_facts e y).2.1 L.keeps) a o pm cd doc dV kV ho hd ql hD hmg hg args vals as' yB VP Yy V3 xi
end Vc
namespace Vc
open PySem L2
variable [KF]
variable {G:GE}{k:Nat}{S:Stat}
def GX:D->Bool
 | .bl _=>true
 | _=>false
def Zk:D->Bool
 | .bl b=>b
 | _=>false
theorem aG.bls{F:Hp}:∀ {vs:List V} {xs:List D},aG F vs xs->xs.all GX=true->vs=(xs.map Zk).map V.bl
 | _,_,.nil,_=>rfl
 | _,_,.cons (d:=d) r t,h=>by
  rw[List.all_cons,Bool.and_eq_true]at h;cases d with
  | bl i =>
   cases r;rw[aG.bls t h.2];rfl
  | _=>exact absurd h.1 (by simp [GX])
theorem FU{bs:List Bool}:∀ {us:List Value},Vals (bs.map V.bl) us->us=bs.map Value.bool:=by
 induction bs with
 | nil=>intro us r;rw[List.map_nil]at r;cases r;rfl
 | cons n ns ih =>
  intro us r;rw[List.map_cons]at r;cases r with
  | cons r1 r2 =>
   cases r1;rw[ih r2];rfl
theorem range_all{α:Type}(l:List α)(f:α->Bool)(g:Nat->Bool)(h:∀i a,l[i]?=some a->g i=f a):(List.range l.length).all g=l.all f:=by
 induction l generalizing g with
 | nil=>rfl
 | cons a l ih =>
  rw[List.length_cons,List.range_succ_eq_map,List.all_cons,List.all_cons,List.all_map,h 0 a rfl];rw[ih (g ∘ Nat.succ) λi b e=>h (i+1) b e]
theorem Av{X:Cx}(hc:X.calm=true):cQ X (.builtin "all") (λxs H Q=>∃(a:Addr) (bs:List Bool),xs=[.ref a]/\fm X.K H a (bs.map V.bl)/\Q (.bl (bs.all id)) H):=by
 intro pins s σ H xs us Q I r h;obtain⟨a,bs,rfl,hq,q⟩:=h;obtain⟨u,rfl,ru⟩:=vals1 r;cases ru;obtain⟨its,rv,pl,_⟩:=I.list hq;have e:=FU rv;subst e;have hl:=pl.isList;obtain⟨o,ho,_⟩:=id hl;have df:a≠s.heap.objs.size:=Nat.ne_of_lt (Heap.lt_size ho);refine call_all_walk (wpAny_pyIter_list hl ?_);have W:=Walks.list (prog:=X.prog) (w:=X.w) (A:=X.A.in1) (show X.A.in1.handled=none from I.ok.hd hc) s.heap.objs.size a df (bs.map Value.bool).toArray
 refine⟨s.heap.objs.size,_,_,_,_,_,λi=>bs.getD i true,rfl,W,⟨⟨_,Heap.get?_push_size _ rfl,rfl,rfl⟩,?_⟩,λi v s' Q' E' hP hQ=>?_,λh' tk kp=>?_⟩
 ·obtain⟨o2,e1,e2⟩:=hl
  exact⟨o2,Heap.get?_push_of_some _ e1,e2⟩
 ·have hv:bs[i]?.map Value.bool=some v:=by simpa using hP
  cases hb:bs[i]? with
  | none=>rw[hb]at hv;cases hv
  | some b =>
   rw[hb]at hv;cases hv;have hQ:Q' (bs.getD i true) s':=hQ;rw[List.getD_eq_getElem?_getD,hb]at hQ;exact wpAny_truthy_bool hQ
 ·refine⟨.bl _,H,I.kept λb o e=>kp b o ?_ (Heap.get?_push_of_some _ e),rfl,?_⟩
  ·intro z
   rw[List.mem_singleton.mp z]at e;exact absurd (Heap.lt_size e) (Nat.lt_irrefl _)
  ·have e2:(List.range (bs.map Value.bool).toArray.size).all (λi=>bs.getD i true)=bs.all id:=by
    rw[List.size_toArray,List.length_map];exact range_all bs id _ λi b e=>by rw[List.getD_eq_getElem?_getD,e];rfl
   rw[e2];exact q
def Am:List D->(EV->Prop)->Prop
 | [.lst xs],Q=>xs.all GX=true/\Q (.val (.bl ((xs.map Zk).all id)))
 | _,_=>False
theorem JE(hh:S.lK=false:=by rfl):ya G k S (.builtin "all") Am:=⟨λK xs H Q=>∃(a:Addr) (bs:List Bool),xs=[V.ref a]/\fm K H a (bs.map V.bl)/\Q (.bl (bs.all id)) H,λ_ _ ok=>Av (ok.calm hh),λY F H ao σ vs ds Qd Q R r q g=>by
 unfold Am at q
 split at q
 ·obtain⟨v,rfl,rv⟩:=r.one
  obtain⟨p,us,rfl,h1,h2⟩:=rv.lst;rw[h2.bls q.1]at h1;exact⟨p,_,rfl,.inl h1,g.val R (.bl _) q.2⟩
 ·exact q.elim⟩
end Vc
namespace Vc
open PySem L2
variable [KF]
variable {G:GE}{k:Nat}{S:Stat}
def Wl:D->Option Key
 | .int i=>some (.inl i)
 | .str x=>some (.inr x)
 | _=>none
def o6:List D->Option (List Key)
 | []=>some []
 | d::ds=>match Wl d,o6 ds with
  | some k,some ks=>some (k::ks)
  | _,_=>none
def vT:D->Option (List Key)
 | .tup ds=>o6 ds
 | _=>none
theorem G3{d:D}{k:Key}(h:Wl d=some k):d=kD k:=by
 cases d<;>cases h<;>rfl
theorem tR:∀ {ds:List D} {ks:List Key},o6 ds=some ks->ds=ks.map kD
 | [],ks,h=>by cases h;rfl
 | d::ds,ks,h=>by
  unfold o6 at h
  split at h
  ·rename_i k ks' e1 e2
   cases h;rw[G3 e1,tR e2];rfl
  ·cases h
theorem xq{d:D}{ks:List Key}(h:vT d=some ks):d=.tup (ks.map kD):=by
 cases d with
 | tup ds=>rw[tR h]
 | _=>cases h
theorem Rep.key{F:Hp}{v:V}{k:Key}(r:Rep F v (kD k)):v=kV k:=by
 cases k with
 | inl i=>cases(show Rep F v (.int i)from r);rfl
 | inr x=>cases(show Rep F v (.str x)from r);rfl
theorem aG.keys{F:Hp}:∀ {ks:List Key} {vs:List V},aG F vs (ks.map kD)->vs=ks.map kV
 | [],_,r=>by cases r;rfl
 | k::ks,_,r=>by
  cases r with
  | cons h t=>rw[h.key,aG.keys t];rfl
theorem Rep.vT{F:Hp}{v:V}{ks:List Key}(r:Rep F v (.tup (ks.map kD))):∃b,v=.ref b/\F b=some (.tup (ks.map kV)):=by
 cases r with
 | tup h r=>exact⟨_,rfl,by rw[<- r.keys];exact h⟩
theorem Mq(a b:Key):fD (kD a) (kD b)=decide (a=b):=by
 cases a<;>cases b<;>simp [kD,fD]<;>rfl
theorem qb:∀as bs:List Key,ku (as.map kD) (bs.map kD)=decide (as=bs)
 | [],[]=>rfl
 | [],b::bs=>rfl
 | a::as,[]=>rfl
 | a::as,b::bs=>by
  show(fD (kD a) (kD b)&&ku (as.map kD) (bs.map kD))=_;rw[Mq,qb as bs]
  by_cases h1:a=b
  ·subst h1
   by_cases h2:as=bs
   ·subst h2;simp
   ·simp [h2]
  ·simp [h1]
theorem mL(as bs:List Key):fD (.tup (as.map kD)) (.tup (bs.map kD))=decide (as=bs):=qb as bs
def qa(kvs:List (D×D))(d:D):Option D:=(kvs.find? λkv=>fD kv.1 d).map (·.2)
theorem iB.val{F:Hp}(k:List Key):∀ {ks:List (List Key×V)} {kvs:List (D×D)},iB F ks kvs->(dn ks k=none/\qa kvs (.tup (k.map kD))=none)\/∃v d,dn ks k=some v/\qa kvs (.tup (k.map kD))=some d/\Rep F v d
 | _,_,.nil=>.inl ⟨rfl,rfl⟩
 | _,_,.cons (k:=k') (v:=v) (d:=d) (ks:=ks) (kvs:=kvs) h r=>by
  by_cases e:k'=k
  ·subst e
   refine .inr ⟨v,d,?_,?_,h⟩
   ·unfold dn;rw[List.find?_cons_of_pos (by simp)];rfl
   ·unfold qa;rw[List.find?_cons_of_pos (by rw[mL];simp)];rfl
  ·have e1:dn ((k',v)::ks) k=dn ks k:=by unfold dn;rw[List.find?_cons_of_neg (by simpa using e)]
   have e2:qa ((D.tup (k'.map kD),d)::kvs) (.tup (k.map kD))=qa kvs (.tup (k.map kD)):=by unfold qa;rw[List.find?_cons_of_neg (by rw[mL];simpa using e)]
   rw[e1,e2];exact iB.val k r
end Vc
namespace Vc
open PySem PyProof.Rows
section
variable {prog:Program}{w:World}{A:Around}{R:Result->Shared->Prop}
def Kp(h g:Heap):Prop:=∀b o,h.get? b=some o->g.get? b=some o
end
end Vc
namespace Vc
open PySem PySem.W L2
section
variable {P:Addr}{K:Frag}(hP:K.lookup P=some (tabObj #[]))
include hP
end
end Vc
namespace Vc
open PySem L2
variable [KF]
theorem RS.qB{Y:bI}{F:Hp}{ao:Sd}{σ:St}{H H':Hp}{i:Nat}{o o':O}{a:Addr}(R:RS Y F ao σ H)(e:ao[i]?=some (some (.obj o)))(h:σ[i]?=some (some (.ref a)))
  (keep:∀b,b∉o.fp a->H b≠none->H' b=H b) (live:∀b,H b≠none->H' b≠none) (Yu:∀b∈o'.fp a,b∈o.fp a\/H b=none) (hn:∀b∈o'.fp a,H' b≠none)
  (hr:o'.rep F H' a):RS Y F (ao.set i (some (.obj o'))) σ H':=by
 obtain⟨a',w1,w2,w3⟩:=R.ob.obj i o e;rw[h]at w1;cases w1;have ow:∀b∈o.fp a,fK ao σ b:=λb hb=>⟨i,o,a,e,h,hb⟩;have hl:i<ao.length:=(List.getElem?_eq_some_iff.mp e).1;refine⟨by simpa using R.len,R.lo,λb q z=>?_,R.eQ,λb q z n=>?_,λj d z=>?_,λj xs z=>?_,λj l xs ys b z1 z2 z3 z4=>?_,λp hp=>?_,⟨λj p z=>?_,λj l p p2 b d z1 z2 z3 z4 df x hx zu=>?_,λj ys b z1 z2 ⟨l,p,d,z3,z4,hm⟩=>?_,λb hb=>live b (R.ob.there b hb),R.ob.FD,R.ob.tab⟩⟩
 ·have hb:b∉o.fp a:=λy=>by rw[(w3 b y).1]at z;cases z
  have:=R.fr b q z;rw[keep b hb (by rw[this];exactλy=>nomatch y)];exact this
 ·have hb:b∉o.fp a:=λy=>by
   rcases(w3 b y).2.2 with y|y
   ·rw[y]at z;cases z
   ·exact n (List.mem_append_right _ y)
  have:=R.old b q z n;rw[keep b hb (by rw[this];exactλy=>nomatch y)];exact this
 ·rcases gs z with⟨_,y⟩|⟨_,z⟩
  ·cases y
  ·exact R.sh j d z
 ·rcases gs z with⟨_,y⟩|⟨_,z⟩
  ·cases y
  ·obtain⟨b,vs,y1,y2,y3⟩:=R.own j xs z
   have hb:b∉o.fp a:=λy=>R.ob.iK j xs b z y1 (ow b y);exact⟨b,vs,y1,by rw[keep b hb (by rw[y2];exactλy=>nomatch y)];exact y2,y3⟩
 ·rcases gs z1 with⟨_,y⟩|⟨_,z1⟩
  ·cases y
  rcases gs z2 with⟨_,y⟩|⟨_,z2⟩
  ·cases y
  exact R.dis j l xs ys b z1 z2 z3 z4
 ·obtain⟨y1,xs,y2⟩:=R.io p hp
  have:p.1≠i:=λy=>by rw[y,e]at y2;cases y2
  exact⟨y1,xs,by rw[bB this];exact y2⟩
 ·rcases gs z with⟨rfl,y⟩|⟨hj,z⟩
  ·cases y
   refine⟨a,h,hr,λb hb=>?_⟩;rcases Yu b hb with y|y
   ·exact⟨(w3 b y).1,hn b hb,(w3 b y).2.2⟩
   ·exact⟨same_none R.fr y,hn b hb,.inl (R.bZ y).1⟩
  ·obtain⟨b,y1,y2,y3⟩:=R.ob.obj j p z
   have kp:∀d∈p.fp b,H' d=H d:=λd hd=>keep d (λy=>R.ob.yo i j o p a b e z h y1 (Ne.symm hj) d y hd) (y3 d hd).2.1;exact⟨b,y1,p.mono (aw.refl _) kp y2,λd hd=>⟨(y3 d hd).1,live d (y3 d hd).2.1,(y3 d hd).2.2⟩⟩
 ·rcases gs z1 with⟨e1,y⟩|⟨hj,y1⟩
  ·cases y
   subst e1;rw[h]at z3;cases z3;rcases gs z2 with⟨e2,_⟩|⟨GJ,y2⟩
   ·exact df e2.symm
   ·rcases Yu x hx with y|y
    ·exact R.ob.yo j l o p2 a d e y2 h z4 df x y zu
    ·exact(R.ob.owned ⟨l,p2,d,y2,z4,zu⟩).2.1 y
  ·rcases gs z2 with⟨e2,y⟩|⟨GJ,y2⟩
   ·cases y
    subst e2;rw[h]at z4;cases z4;rcases Yu x zu with y|y
    ·exact R.ob.yo j l p o b a y1 e z3 h df x hx y
    ·exact(R.ob.owned ⟨j,p,b,y1,z3,hx⟩).2.1 y
   ·exact R.ob.yo j l p p2 b d y1 y2 z3 z4 df x hx zu
 ·rcases gs z1 with⟨_,y⟩|⟨_,y1⟩
  ·cases y
  rcases gs z3 with⟨e3,y⟩|⟨_,y3⟩
  ·cases y
   subst e3;rw[h]at z4;cases z4;rcases Yu b hm with y|y
   ·exact R.ob.iK j ys b y1 z2 (ow b y)
   ·obtain⟨c,vs,u1,u2,_⟩:=R.own j ys y1
    rw[z2]at u1;cases u1;rw[y]at u2;cases u2
  ·exact R.ob.iK j ys b y1 z2 ⟨l,p,d,y3,z4,hm⟩
theorem RS.xB{Y:bI}{F F':Hp}{ao:Sd}{σ:St}{H:Hp}{i:Nat}{o:O}{a:Addr}(R:RS Y F ao σ H)(e:ao[i]?=some (some (.obj o)))(h:σ[i]?=some (some (.ref a)))(CO:Y.ob=[])(sm:aw F F')
  (hF:∀b u,F' b=some u->F b=some u\/(b∈o.fp a/\H b=some u)):RS Y F' (ao.set i none) σ H:=by
 obtain⟨a',w1,w2,w3⟩:=R.ob.obj i o e;rw[h]at w1;cases w1;have ow:∀b∈o.fp a,fK ao σ b:=λb hb=>⟨i,o,a,e,h,hb⟩;have hl:i<ao.length:=(List.getElem?_eq_some_iff.mp e).1;refine⟨by simpa using R.len,R.lo.trans sm,λb q z=>?_,λb q z=>?_,R.old,λj d z=>?_,λj xs z=>?_,λj l xs ys b z1 z2 z3 z4=>?_,λp hp=>?_,⟨λj p z=>?_,λj l p p2 b d z1 z2=>?_,λj ys b z1 z2 ⟨l,p,d,z3,z4,hm⟩=>?_,R.ob.there,R.ob.FD,R.ob.tab.mono sm⟩⟩
 ·rcases hF b q z with y|y
  ·exact R.fr b q y
  ·exact y.2
 ·rcases hF b q z with y|y
  ·exact R.eQ b q y
  ·exact .inr (.inl ((w3 b y.1).2.2.elim id λx=>by rw[CO]at x;cases x))
 ·rcases gs z with⟨_,y⟩|⟨_,z⟩
  ·cases y
  ·obtain⟨v,y1,y2⟩:=R.sh j d z
   exact⟨v,y1,y2.mono sm⟩
 ·rcases gs z with⟨_,y⟩|⟨_,z⟩
  ·cases y
  ·obtain⟨b,vs,y1,y2,y3,y4,y5⟩:=R.own j xs z
   refine⟨b,vs,y1,y2,y3.mono sm,?_,y5⟩;cases q:F' b with
   | none=>rfl
   | some u =>
    rcases hF b u q with y|y
    ·rw[y4]at y;cases y
    ·exact absurd (ow b y.1) (R.ob.iK j xs b z y1)
 ·rcases gs z1 with⟨_,y⟩|⟨_,z1⟩
  ·cases y
  rcases gs z2 with⟨_,y⟩|⟨_,z2⟩
  ·cases y
  exact R.dis j l xs ys b z1 z2 z3 z4
 ·obtain⟨y1,xs,y2⟩:=R.io p hp
  have:p.1≠i:=λy=>by rw[y,e]at y2;cases y2
  exact⟨y1,xs,by rw[bB this];exact y2⟩
 ·rcases gs z with⟨_,y⟩|⟨hj,z⟩
  ·cases y
  obtain⟨b,y1,y2,y3⟩:=R.ob.obj j p z;refine⟨b,y1,p.mono sm (λ_ _=>rfl) y2,λd hd=>⟨?_,(y3 d hd).2⟩⟩;cases q:F' d with
  | none=>rfl
  | some u =>
   rcases hF d u q with y|y
   ·rw[(y3 d hd).1]at y;cases y
   ·exact absurd hd (R.ob.yo i j o p a b e z h y1 (Ne.symm hj) d y.1)
 ·rcases gs z1 with⟨_,y⟩|⟨_,z1⟩
  ·cases y
  rcases gs z2 with⟨_,y⟩|⟨_,z2⟩
  ·cases y
  exact R.ob.yo j l p p2 b d z1 z2
 ·rcases gs z1 with⟨_,y⟩|⟨_,z1⟩
  ·cases y
  rcases gs z3 with⟨_,y⟩|⟨_,z3⟩
  ·cases y
  exact R.ob.iK j ys b z1 z2 ⟨l,p,d,z3,z4,hm⟩
end Vc
namespace Vc
open PySem L2
variable [KF]
variable {G:GE}{k:Nat}{S:Stat}
theorem gq{α β:Type}(f:α->β):∀ {l:List α},(l.map f).Nodup->∀ {x y:α},x∈l->y∈l->f x=f y->x=y
 | a::l,h,x,y,hx,hy,e=>by
  rw[List.map_cons,List.nodup_cons]at h;rcases List.mem_cons.mp hx with hx|hx
  ·rcases List.mem_cons.mp hy with hy|hy
   ·rw[hx,hy]
   ·exact absurd (by rw[<- hx,e];exact List.mem_map_of_mem hy) h.1
  ·rcases List.mem_cons.mp hy with hy|hy
   ·exact absurd (by rw[<- hy,<- e];exact List.mem_map_of_mem hx) h.1
   ·exact gq f h.2 hx hy e
end Vc
set_option maxHeartbeats 400000
set_option maxHeartbeats 400000
namespace Vc
open PySem L2
section
variable {prog:Program}{w:World}{K:Type}[DecidableEq K]{kn:HeapKind prog w K}{A:Around}{E:Value->Shared->Prop}{s:Shared}
theorem BH{d b:Addr}{xs:List (K×Addr×Value)}{k:K}{z:Value}{Q:Value->Shared->Prop}(r0:kn.room A)(i0:kn.is s.heap k b)(m0:s.heap.DictOfH kn d xs)(z0:xs.length<=sizeLine)
  (q1:∀p,atKey xs k=some p->Q p.2 {s with toks:=s.toks+kn.draws k})
  (q2:atKey xs k=none->∀h',h'.DictOfH kn d (storedH xs k b z)->Heap.SameBut d s.heap h'->Q z {s with heap:=h',toks:=s.toks+kn.draws k}):
  wpAny (model prog w) A (dictSetDefault d (.ref b) z) Q E s:=by
 obtain⟨ob,en,c,e1,e2,e3,e4,e5,e6⟩:=m0;unfold dictSetDefault;refine wpAny_holding (wpAny_bind (kn.pyHash r0 i0 (wpAny_bind (wpAny_dictFind_heap (s:={s with toks:=s.toks+kn.draws k}) r0 i0 e1 e3 e4 e5 e6 (λn0=>?_) λj p hj=>?_))))
 ·have nn:=atKey_none_of_get n0
  have ni:k∉xs.map (·.1):=not_mem_keys_of_get n0
  refine wpAny_bind (wpAny_rule (wpAny_bind (wpAny_updateDictKeys (hz:=by have:=size_of_entries e4;omega) (s:={s with toks:=s.toks+kn.draws k}) e1 e3 (wpAny_pure (q2 nn _ ⟨_,_,c+1,Heap.get?_update_self _ e1 (Obj.isFreed_of_dict (Obj.data_mapDictKeys e3 _)),e2.mapDictKeys _,Obj.data_mapDictKeys e3 _,?_,?_,?_⟩ (Heap.SameBut.update ..))))))
  ·rw[storedH_new nn,Array.toList_push,e4,List.map_append];rfl
  ·rw[storedH_new nn]
   intro x hx;refine(List.mem_append.mp hx).elim (λhx=>kn.keeps (e5 x hx) e1 e3 (Heap.SameBut.update ..)) λhx=>?_;rw[List.mem_singleton.mp hx];exact kn.keeps i0 e1 e3 (Heap.SameBut.update ..)
  ·rw[storedH_new nn,List.map_append,List.nodup_append]
   refine⟨e6,by simp,λx hx y hy z=>ni ?_⟩
   have hy:y=k:=by simpa using hy
   rw[<- hy,<- z];exact hx
 ·refine wpAny_bind (wpAny_dictEntries (s:={s with toks:=s.toks+kn.draws k}) e1 e3 ?_)
  rw[entry_at e4 j,hj];exact wpAny_bind (wpAny_rule (wpAny_pure (q1 p (atKey_of_get e6 hj))))
theorem yM(d b:Addr)(lo:(d==sysModules)=false)(z:Value):
  MeetsIn prog w (Builtin.«dict.setdefault» ⟨[.ref d,.ref b,z],[]⟩) (λA R s=>kn.room A.in1/\∃k xs,kn.is s.heap k b/\s.heap.DictOfH kn d xs/\xs.length<=sizeLine /\
   (∀p,atKey xs k=some p->R (.ok (.ret p.2)) {s with toks:=s.toks+kn.draws k}) /\
   (atKey xs k=none->∀h',h'.DictOfH kn d (storedH xs k b z)->Heap.SameBut d s.heap h'->R (.ok (.ret z)) {s with heap:=h',toks:=s.toks+kn.draws k})):=
 .of_wp λA R s ⟨r0,k,xs,i0,m0,z0,q1,q2⟩=>by
  unfold Builtin.«dict.setdefault» Builtin.Dict.keyAndDefault;refine wpAny_bind (wpAny_bind (wpAny_notOrdered_dict m0.typeIs ?_));show wpAny _ _ (pure (d,Value.ref b,some z)) _ _ s;refine wpAny_pure ?_;show wpAny _ _ (if(d==sysModules)=true then _ else(dictSetDefault d (.ref b) z >>= _)) _ _ s
  rw[lo,if_neg Bool.false_ne_true];exact wpAny_bind (BH r0 i0 m0 z0 (λp hp=>wpAny_pure ⟨p.2,rfl,q1 p hp⟩) λhn h' m' s'=>wpAny_pure ⟨z,rfl,q2 hn h' m' s'⟩)
end
end Vc
namespace Vc
open PySem L2
section
variable {prog:Program}{w:World}{A:Around}{E:Value->Shared->Prop}{s:Shared}{d it:Addr}{en:Array DictEntry}{c i:Nat}
def Fp(h:Heap)(d:Addr)(en:Array DictEntry)(c:Nat):Prop:=∃ob,h.get? d=some ob/\ob.ExactDict/\ob.data=.dict en c
theorem Fp.ty(h:Fp s.heap d en c):s.TypeIs (.ref d) "dict":=let ⟨ob,e,x,_⟩:=h;⟨ob,e,x.1⟩
theorem Gg{Q:Value->Shared->Prop}(lo:(d==sysModules)=false)(m:Fp s.heap d en c)
  (q:Q (.ref s.heap.objs.size) {s with heap:=s.heap.push {cls:=.type "dict_keyiterator",data:=.fields #[.ref d,.int 0 0,.int en.size 0,.int c 0]}}):wpAny (model prog w) A (pyIter (.ref d)) Q E s:=by
 obtain⟨ob,e1,e2,e3⟩:=id m;refine wpAny_pyIter_slot m.ty F.slot_dict_iter (wpAny_call_entry F.slot_dict_iter m.ty F.entry_dict_iter ?_ (F.args_dict_iter_1 _));unfold Builtin.«dict.__iter__» Builtin.Dict.dictSlotNone;refine wpAny_bind (wpAny_bind (wpAny_notOrdered_dict m.ty ?_));show wpAny _ _ (pure (Value.ref d)) _ _ _;refine wpAny_pure ?_;show wpAny _ _ (Builtin.Dict.showsAll d >>= _) _ _ _;unfold Builtin.Dict.showsAll;rw[lo,if_neg Bool.false_ne_true];refine wpAny_bind (wpAny_pure (wpAny_bind (wpAny_dictEntries e1 e3 (wpAny_bind (wpAny_dictEpoch e1 e3 (wpAny_bind (wpAny_newObj_type (wpAny_pure ⟨_,rfl,"dict_keyiterator",_,⟨_,Heap.get?_push_size _ rfl,rfl⟩,F.slot_dict_keyiterator_next.lookup,?_⟩))))))));simpa [rawInt]using q
theorem Gh{e:DictEntry}{Q:Option Value->Shared->Prop}(t:s.heap.IsKeyIter it d i en.size c)(m:Fp s.heap d en c)(x:en[i]?=some e)
  (q:∀h',h'.IsKeyIter it d (i+1) en.size c->Heap.SameBut it s.heap h'->Q (some e.key) {s with heap:=h'}):wpAny (model prog w) A (pyNext (.ref it)) Q E s:=by
 obtain⟨o1,t1,t2,t3⟩:=id t;obtain⟨ob,e1,e2,e3⟩:=id m;unfold pyNext;refine wpAny_bind (wpAny_attempt (wpAny_callSpecial?_slot (name:=Str.ofString "__next__") t.typeIs F.slot_dict_keyiterator_next (wpAny_call_entry F.slot_dict_keyiterator_next t.typeIs F.entry_dict_keyiterator_next ?_ (F.args_dict_keyiterator_next_1 _))));refine wpAny_bind (wpAny_pure (wpAny_bind (wpAny_bind ?_)))
 first|refine wpAny_bind (wpAny_typeNameOfWhole_keyiter t.typeIs (wpAny_pure ?_))|refine wpAny_bind (wpAny_typeNameOf_keyiter t.typeIs (wpAny_pure ?_))
 refine wpAny_bind (wpAny_fieldsOf t1 t3 ?_);rw[show Builtin.Dict_items.ownsTuple "dict_keyiterator"=false by decide,if_neg Bool.false_ne_true]
 show wpAny _ _ (if(Value.ref d==Value.none)=true then _ else _) _ _ s
 rw[if_neg (show¬((Value.ref d==Value.none)=true)from Bool.false_ne_true)]
 refine wpAny_bind (wpAny_pure (wpAny_bind (wpAny_dictEntries e1 e3 ?_)));rw[if_neg (by simp)]
 refine wpAny_bind (wpAny_pure (wpAny_bind (wpAny_dictEpoch e1 e3 ?_)));rw[if_neg (by simp)]
 refine wpAny_pure ?_;simp only[show¬((i:Int)<0)from by omega,if_false,Int.toNat_natCast,x]
 refine wpAny_bind ?_
 first|refine wpAny_bind (wpAny_typeNameOfWhole_keyiter t.typeIs (wpAny_pure ?_))|refine wpAny_bind (wpAny_typeNameOf_keyiter t.typeIs (wpAny_pure ?_))
 refine wpAny_bind (wpAny_isOneOf_keyiter t.typeIs ?_);show wpAny _ _ (setField (.ref it) 1 (rawInt ((i:Int)+1)) >>= _) _ _ s;refine wpAny_bind (wpAny_setField t1 t3 (by simp) ?_)
 have t':(s.heap.update it (Obj.mapFields (·.setIfInBounds 1 (rawInt ((i:Int)+1))))).IsKeyIter it d (i+1) en.size c:=
  ⟨_,Heap.get?_update_self _ t1 (Obj.isFreed_of_fields (Obj.data_mapFields t3 _)),(Obj.cls_mapFields ..).trans t2,by rw[Obj.data_mapFields t3];simp [rawInt]⟩
 refine wpAny_bind (wpAny_holding (wpAny_bind (wpAny_isOneOf_keyiter (s:={s with heap:=s.heap.update it (Obj.mapFields (·.setIfInBounds 1 (rawInt ((i:Int)+1))))}) t'.typeIs ?_)))
 show wpAny _ _ (pure e.key) _ _ _;exact wpAny_pure (wpAny_pure ⟨_,rfl,wpAny_pure (q _ t' (Heap.SameBut.update ..))⟩)
theorem LV{Q:Option Value->Shared->Prop}(hh:A.handled=none)(t:s.heap.IsKeyIter it d i en.size c)(m:Fp s.heap d en c)(x:en.size<=i)
  (q:∀h',Heap.ExtBut it s.heap h'->Q none {s with heap:=h'}):wpAny (model prog w) A (pyNext (.ref it)) Q E s:=by
 obtain⟨o1,t1,t2,t3⟩:=id t;obtain⟨ob,e1,e2,e3⟩:=id m;unfold pyNext;refine wpAny_bind (wpAny_attempt (wpAny_callSpecial?_slot (name:=Str.ofString "__next__") t.typeIs F.slot_dict_keyiterator_next (wpAny_call_entry F.slot_dict_keyiterator_next t.typeIs F.entry_dict_keyiterator_next ?_ (F.args_dict_keyiterator_next_1 _))));refine wpAny_bind (wpAny_pure (wpAny_bind (wpAny_bind ?_)))
 first|refine wpAny_bind (wpAny_typeNameOfWhole_keyiter t.typeIs (wpAny_pure ?_))|refine wpAny_bind (wpAny_typeNameOf_keyiter t.typeIs (wpAny_pure ?_))
 refine wpAny_bind (wpAny_fieldsOf t1 t3 ?_);rw[show Builtin.Dict_items.ownsTuple "dict_keyiterator"=false by decide,if_neg Bool.false_ne_true]
 show wpAny _ _ (if(Value.ref d==Value.none)=true then _ else _) _ _ s
 rw[if_neg (show¬((Value.ref d==Value.none)=true)from Bool.false_ne_true)]
 refine wpAny_bind (wpAny_pure (wpAny_bind (wpAny_dictEntries e1 e3 ?_)));rw[if_neg (by simp)]
 refine wpAny_bind (wpAny_pure (wpAny_bind (wpAny_dictEpoch e1 e3 ?_)));rw[if_neg (by simp)]
 refine wpAny_pure ?_;simp only[show¬((i:Int)<0)from by omega,if_false,Int.toNat_natCast,Array.getElem?_eq_none x]
 refine wpAny_bind ?_
 first|refine wpAny_bind (wpAny_typeNameOfWhole_keyiter t.typeIs (wpAny_pure ?_))|refine wpAny_bind (wpAny_typeNameOf_keyiter t.typeIs (wpAny_pure ?_))
 show wpAny _ _ (setField (.ref it) 0 .none >>= _) _ _ s;refine wpAny_bind (wpAny_setField t1 t3 (by simp) ?_)
 show wpAny _ _ (newExc (.type "StopIteration") [] >>= _) _ _ _;refine wpAny_bind ?_;simp only[newExc,newTuple];refine wpAny_bind (wpAny_newObj_type ?_ (by size_fits))
 refine wpAny_bind (m:=firstArgMember _ _) (wpAny_of_eq (a:=Value.none) (by first|rfl | (simp only[firstArgMember];rfl)) (wpAny_newObj_type ?_ (by size_fits)))
 simp only[raiseNew];refine wpAny_bind (wpAny_handled ?_);rw[show A.in1.handled=none from hh]
 refine wpAny_bind (wpAny_pure (wpAny_throw ?_));refine wpAny_bind (wpAny_isInstance (T:="StopIteration") (b:=true) ⟨_,Heap.get?_push_size _ rfl,rfl⟩ isSubtype_stop ?_);exact wpAny_pure (q _ (((Heap.SameBut.update ..).extBut.push _).push _))
theorem Fp.at{h h':Heap}(x:Fp h d en c)(e:∀o,h.get? d=some o->h'.get? d=some o):Fp h' d en c:=let ⟨o,a,r⟩:=x;⟨o,e _ a,r⟩
theorem BE(hh:A.handled=none)(I d:Addr)(ne:d≠I)(en:Array DictEntry)(c:Nat):
  Walks prog w A I [I,d] [I] en.size (λi v=>∃e,en[i]?=some e/\v=e.key) (λi h=>h.IsKeyIter I d i en.size c/\Fp h d en c) where
 sub:=λb hb=>List.mem_cons.mpr (.inl (List.mem_singleton.mp hb))
 frame:=λ_ _ _ st kp=>⟨st.1.at λo e=>kp I (.head _) o e,st.2.at λo e=>kp d (.tail _ (.head _)) o e⟩
 item:=λi s Q E hi st q=>by
  have x:en[i]?=some en[i]:=Array.getElem?_eq_getElem hi;refine Gh st.1 st.2 x λh' t' sb=>q _ h' s.toks ⟨_,x,rfl⟩ ⟨t',st.2.at λo e=>(sb.2 d ne).trans e⟩ λb o hb e=>(sb.2 b λy=>hb (List.mem_singleton.mpr y)).trans e
 done:=λs Q E st q=>LV hh st.1 st.2 (Nat.le_refl _) λh' ex=>q h' s.toks λb o hb e=>ex b o (λy=>hb (List.mem_singleton.mpr y)) e
 self:=λ_ _ _ _ st q=>wpAny_pyIter_keyiter st.1 q
theorem LW(lo:(d==sysModules)=false):PySem.W.KdlSrc prog w "dict" d d en.size (λi v=>∃e,en[i]?=some e/\v=e.key) (λh=>Fp h d en c) where
 type:=λ_ m=>m.ty
 there:=λ_ m=>let ⟨_,e,_⟩:=m;⟨Heap.lt_size e,Heap.lt_size e⟩
 keep:=λ_ _ m kp=>m.at λo e=>kp d (.inl rfl) o e
 notList:=by decide
 notTuple:=by decide
 hint:=λ_ _ _ _ m q=>PySem.W.kdl_hint_dict m.ty q
 iter:=λ_ s hh m=>⟨_,_,(λ_ _ q=>Gg lo m q),BE hh _ d (let ⟨_,e,_⟩:=m;Nat.ne_of_lt (Heap.lt_size e)) en c,⟨⟨_,Heap.get?_push_size _ rfl,rfl,rfl⟩,m.at λo e=>Heap.get?_push_of_some _ e⟩⟩
end
end Vc
namespace Vs
open PySem PySem.Calls PyProof.Rows PyProof.V PySem.Spec
section
variable {prog:Program}{w:World}{A:Around}{E:Value->Shared->Prop}{s:Shared}
theorem we{T:String}{r d:Addr}{n:Nat}{P:Nat->Value->Prop}{OK:Heap->Prop}{vs:List Value}{kd:SortKind}{ρ:Keyed->Nat}{P':Keyed->Prop}{Q:Value->Shared->Prop}(K:PySem.W.KdlSrc prog w T r d n P OK)(hh:A.handled=none)(ok:OK s.heap)(hn:n<=sizeLine)
  (hv:∀acc:Array Value,ItemsOf P acc n->acc.toList=vs) (hz:vs.length<=sizeLine) (h0:∀p∈(pairsOf vs).toList,P' p)
  (hk:2<=vs.length->∀(A':Around) (E':Value->Shared->Prop) (g:Heap) (t:Nat),(∀b o,s.heap.get? b=some o->g.get? b=some o)->(∀Q:SortKind->Shared->Prop,Q kd {s with heap:=g,toks:=t}->wpAny (model prog w) A' (keyKind' vs.toArray) Q E' {s with heap:=g,toks:=t})/\fI (model prog w) A' E' {s with heap:=g,toks:=t} ρ kd P')
  (h:∀(xs:Array Keyed) (h1 g:Heap) (c t:Nat),xs.Perm (pairsOf vs)->Seg ρ xs 0 vs.length->(∀b o,s.heap.get? b=some o->h1.get? b=some o)->(∀b o,h1.get? b=some o->g.get? b=some o)->g.get? h1.objs.size=some (seqObj "list" (xs.map (·.2)) c)->Q (.ref h1.objs.size) {s with heap:=g,toks:=t}):
  wpAny (model prog w) A (call (.builtin "sorted") [.ref r]) Q E s:=by
 refine Calls.call_function_entry kind_sorted plain_sorted entry_sorted (args_sorted1 _) ?_;unfold Builtin.«sorted»;refine wpAny_bind (m:=checkCount "sorted" 1 1 _) (wpAny_pure (wpAny_bind (PySem.W.kdu_collect (A:=A.in1) K hh ok hn λh1 t acc k1 items=>?_)));rw[hv acc items];refine wpAny_bind (wpAny_newList ?_ hz);have CN:(h1.push (seqObj "list" vs.toArray 0)).get? h1.objs.size=some (seqObj "list" vs.toArray 0):=Heap.get?_push_size _ rfl;have keep:∀b o,h1.get? b=some o->(h1.push (seqObj "list" vs.toArray 0)).get? b=some o:=λb o e=>Heap.get?_push_of_some _ e;have ne:∀b o,h1.get? b=some o->b≠h1.objs.size:=λb o e=>Nat.ne_of_lt (Heap.lt_size e);show wpAny _ _ _ _ _ {s with heap:=h1.push (seqObj "list" vs.toArray 0),toks:=t}
 refine wpAny_bind (wpAny_holding (wpAny_call_entry slot_list_sort ⟨_,CN,rfl⟩ entry_list_sort (eN (s:={s with heap:=h1.push (seqObj "list" vs.toArray 0),toks:=t}) (kd:=kd) (ρ:=ρ) (P:=P') CN hz h0 (λh2 g kg=>hk h2 _ _ g t λb o e=>kg b o (ne b o (k1 b o e)) (keep b o (k1 b o e))) λxs g c a1 a2 a3 a4=>⟨_,rfl,?_⟩) (args_list_sort _)))
 exact wpAny_pure ⟨_,rfl,h xs h1 g c t a1 a2 k1 (λb o e=>a3 b o (ne b o e) (keep b o e)) a4⟩
end
end Vs
namespace Vc
open PySem L2
section
variable {X:Cx}
def Xz:V->List V->Hp->VK->Prop:=λx vs H Q=>∃a b z kvs k,x=.ref a/\vs=[.ref b,z]/\H b=some (.tup (k.map kV))/\H a=some (.dT kvs)/\kvs.length<sizeLine/\(∀v,dn kvs k=some v->Q v H)/\(dn kvs k=none->Q z (upd H a (.dT (putK kvs k z))))
theorem G8(hu:X.A.units+1<cLine):Y8 X "dict.setdefault" Xz:=by
 intro pins s σ H x vs v us Q I rx rv h;obtain⟨a,b,z,kvs,k,rfl,rfl,eb,e,hl,h1,h2⟩:=h;cases rx;cases rv with
 | cons ry rr =>
 cases rr with
 | cons rz rr =>
 cases rr;cases ry;obtain⟨hz,hd,xs,rel,dd⟩:=UL I.bC e;have hv:=rel.val k;have hlp:(putK kvs k z).length<=sizeLine:=by have:=tY kvs k z;omega
 refine call_meetsIn F.slot_dict_setdefault dd.typeIs F.entry_dict_setdefault (F.args_dict_setdefault_3 _ _ _) (yM (kn:=tupleKind (cN X.prog X.w)) a b hd _) ⟨tupleKind_room_in1 hu,k,xs,vU I.bC eb,dd,by rw[<- Paired.length rel];exact hz,λp hp=>?_,λhn h' SN hs=>?_⟩
 ·rw[hp]at hv
  cases l:dn kvs k with
  | none=>rw[l]at hv;exact False.elim hv
  | some v=>rw[l]at hv;exact⟨v,H,I.tok _,hv,h1 v l⟩
 ·rw[hn]at hv
  cases l:dn kvs k with
  | some v=>rw[l]at hv;exact False.elim hv
  | none =>
   obtain⟨q,es,ep,hq,g2,g3,g4,_,g5⟩:=SN;refine⟨z,_,Gf (ob:=.dT (putK kvs k z)) I (by rw[e];exact True.intro) hs ⟨q,hq⟩ ⟨hlp,hd,_,(rel.put k eb rz).keeps λc ys ec=>?_,q,es,ep,hq,g2,g3,g4,g5⟩,rz,h2 l⟩
   rw[ak (Wr ec e (λz=>nomatch z))];exact ec
def QF:List V->Hp->VK->Prop:=λxs H Q=>∃a kvs,∃ks:List (List Int),xs=[.ref a]/\Rd H a (.dT kvs)/\kvs.map (·.1)=ks.map (·.map Sum.inl)/\(∀k∈ks,k≠[]) /\
 ∀us:List V,(us.map (iJ H)).Perm ks->(us.map (iJ H)).Pairwise (λx y=>HT.lexLt y x=false)->(∀u∈us,∃b,u=.ref b/\H b=some (.tup ((iJ H u).map V.int)))->∀l,H l=none->Q (.ref l) (upd H l (.lst us))
theorem vA(hc:X.calm=true):cQ X (.builtin "sorted") QF:=by
 intro pins s σ H xs Tp Q I r h;obtain⟨a,kvs,ks,rfl,ha,ek,df,q⟩:=h;obtain⟨u,rfl,rx⟩:=vals1 r;cases rx;obtain⟨hz,hd,xs,rel,ob,en,c,e1,e2,e3,e4,e5,e6⟩:=wR I.bC ha;have hlx:en.size=xs.length:=size_of_entries e4;have hlk:kvs.length=xs.length:=Paired.length rel
 -- the keys' values
 obtain⟨its,Gj⟩:∃its:List Value,its=xs.map λx=>.ref x.2.1:=⟨_,rfl⟩;have lits:its.length=xs.length:=by rw[Gj,List.length_map]
 have key:∀ {l:List (List Key×V)} {m:List (List Key×Addr×Value)},KT H l m->∀js:List (List Int),l.map (·.1)=js.map (·.map Sum.inl)->((m.map λx=>V.ref x.2.1).map (iJ H))=js/\∀x∈m,H x.2.1=some (.tup ((iJ H (.ref x.2.1)).map V.int)):=by
  intro l m p
  induction p with
  | nil=>intro js ej;cases js with
   | nil=>exact⟨rfl,λx hx=>nomatch hx⟩
   | cons _ _=>cases ej
  | @cons p x ps qs hq t ih =>
   intro js ej;cases js with
   | nil=>cases ej
   | cons j js =>
    rw[List.map_cons,List.map_cons]at ej;obtain⟨ej1,ej2⟩:=List.cons.inj ej;obtain⟨h1,h2,h3⟩:=hq;obtain⟨i1,i2⟩:=ih js ej2;have hb:H x.2.1=some (.tup (j.map V.int)):=by
     rw[h2,ej1,List.map_map];rfl
    have hd:iJ H (.ref x.2.1)=j:=by
     unfold iJ;dsimp only;rw[hb];dsimp only;rw[List.map_map];exact(List.map_congr_left (λx _=>rfl)).trans (List.map_id _)
    refine⟨by rw[List.map_cons,List.map_cons,i1,hd],λy hy=>?_⟩
    rcases List.mem_cons.mp hy with rfl|hy
    ·rw[hd];exact hb
    ·exact i2 y hy
 obtain⟨kk1,kk2⟩:=key rel ks ek;have im:∀v∈its,∃x∈xs,v=.ref x.2.1:=λv hv=>by
  rw[Gj]at hv;obtain⟨x,hx,rfl⟩:=List.mem_map.mp hv;exact⟨x,hx,rfl⟩
 have tup:∀v∈its,Vs.nV s.heap v (iJ H (toV v))/\iJ H (toV v)≠[]:=λv hv=>by
  obtain⟨x,hx,rfl⟩:=im v hv;obtain⟨ts,r1,⟨o,ho,yx,m,hdt⟩,_⟩:=I.tuple (.of (kk2 x hx));refine⟨⟨x.2.1,o,ts.toArray,m,rfl,ho,yx,hdt,intsAre_of r1⟩,df _ ?_⟩;rw[<- kk1];exact List.mem_map.mpr ⟨.ref x.2.1,List.mem_map.mpr ⟨x,hx,rfl⟩,rfl⟩
 have mem:∀x:PyProof.Rows.Keyed,x∈(PyProof.Rows.pairsOf its).toList->x.1∈its/\x.1=x.2:=λx hx=>by
  rw[PyProof.Rows.pairsOf_toList,dr]at hx;obtain⟨v,hv,rfl⟩:=List.mem_map.mp hx;exact⟨hv,rfl⟩
 refine Vs.we (vs:=its) (kd:=PyProof.Rows.tuples' true) (ρ:=Vs.rk (λx=>iJ H (toV x.1)) (PyProof.Rows.pairsOf its).toList) (P':=λx=>x∈(PyProof.Rows.pairsOf its).toList) (LW (en:=en) (c:=c) hd) (I.ok.hd hc) ⟨ob,e1,e2,e3⟩ ⋯ (λacc it=>?_) ⋯ (λ_ h=>h) (λh2 A' E' g t kg=>⟨λQ hQ=>?_,?_⟩) λys h1 g c' t hp hs k1 kg hg=>?_
 ·refine List.ext_getElem? λj=>?_
  rw[Array.getElem?_toList];cases ej:acc[j]? with
  | none =>
   have:acc.size<=j:=Array.getElem?_eq_none_iff.mp ej;rw[it.1]at this;rw[List.getElem?_eq_none ⋯]
  | some v =>
   obtain⟨e,he,rfl⟩:=it.2 j v ej;rw[entry_at e4 j]at he;obtain⟨x,hx,rfl⟩:=Option.map_eq_some_iff.mp he;rw[Gj,List.getElem?_map,hx];rfl
 ·exact Vs.tS (s:={s with heap:=g,toks:=t}) ⋯ (λv hv=>⟨_,(tup v hv).1.kept kg,(tup v hv).2⟩) hQ
 ·exact Vs.xA (s:={s with heap:=g,toks:=t}) λx hx=>(tup x.1 (mem x hx).1).1.kept kg
 ·have fP:ys.toList.Perm (PyProof.Rows.pairsOf its).toList:=Array.perm_iff_toList_perm.mp hp
  have kA:ys.size=its.length:=by have:=hp.size_eq;rw[PyProof.Rows.pairsOf_size]at this;exact this
  have iW:∀x∈ys.toList,x.1∈its/\x.1=x.2:=λx hx=>mem x (fP.mem_iff.mp hx);obtain⟨us,JD⟩:∃us,us=ys.toList.map λx=>toV x.2:=⟨_,rfl⟩;have perm:us.Perm (its.map toV):=by
   rw[JD];refine(fP.map λx=>toV x.2).trans ?_;rw[PyProof.Rows.pairsOf_toList,dr,List.map_map];exact List.Perm.refl _
  have eit:its.map toV=xs.map λx=>V.ref x.2.1:=by rw[Gj,List.map_map];rfl
  have eq2:us=(ys.map (·.2)).toList.map toV:=by
   rw[JD,Array.toList_map,List.map_map];rfl
  have I1:=I.kept (h':=h1) (t':=s.toks) k1;have fr:H h1.objs.size=none:=I1.fresh;refine⟨.ref h1.objs.size,_,I1.laid (h':=g) (t':=t) (o:=.lst us) kg (Nat.le_refl _) ⟨?_,(ys.map (·.2)).toList,c',?_,hg⟩,rfl,q us ?_ ?_ (λu hu=>?_) _ fr⟩
  ·rw[perm.length_eq,List.length_map];omega
  ·rw[eq2]
   refine rX λv hv=>?_;rw[Array.toList_map]at hv;obtain⟨x,hx,rfl⟩:=List.mem_map.mp hv;have:=iW x hx;obtain⟨y,_,e⟩:=im _ (this.2 ▸ this.1);exact⟨_,e⟩
  ·rw[<- kk1,<- eit];exact perm.map _
  ·rw[JD,List.map_map,List.pairwise_map]
   refine List.pairwise_iff_getElem.mpr λi j hi hj qp=>?_;have kz:i<ys.size:=by simpa using hi
   have MZ:j<ys.size:=by simpa using hj
   have h1:=hs i j (Nat.zero_le _) (Nat.le_of_lt qp) ⋯
   rw[Vs.cV (Array.getElem?_eq_getElem kz),Vs.cV (Array.getElem?_eq_getElem MZ)]at h1;show HT.lexLt (iJ H (toV ys[j].2)) (iJ H (toV ys[i].2))=false;have m1:=iW ys[i] (by simp)
   have m2:=iW ys[j] (by simp)
   have:=Vs.uB (d:=λx=>iJ H (toV x.1)) (l:=(PyProof.Rows.pairsOf its).toList) (x:=ys[j]) (y:=ys[i]) (fP.mem_iff.mp (by simp))
   rw[decide_eq_false ⋯]at this
   rw[<- m1.2,<- m2.2];exact this.symm
  ·have hu:=perm.mem_iff.mp hu
   rw[eit]at hu;obtain⟨x,hx,rfl⟩:=List.mem_map.mp hu;exact⟨x.2.1,rfl,kk2 x hx⟩
end
end Vc
namespace Vc
open PySem L2
variable [KF]
variable {G:GE}{k:Nat}{S:Stat}
abbrev zp:=List (List Key×Addr×List D)
def wA(ts:zp):List (List Key×V):=ts.map λt=>(t.1,.ref t.2.1)
def oi(ts:zp):O where
 fp:=λa=>a::ts.map (·.2.1)
 rep:=λF H a=>H a=some (.dT (wA ts))/\(a::ts.map (·.2.1)).Nodup/\(ts.map (·.1)).Nodup/\∀t∈ts,∃vs,H t.2.1=some (.lst vs)/\aG F vs t.2.2
 self:=λa=>List.mem_cons_self ..
 solid:=λ{F H a b φ} ⟨h,_,_,hs⟩ hb z=>by
  rcases List.mem_cons.mp hb with rfl|hb
  ·rw[h]at z;cases z
  ·obtain⟨t,ht,rfl⟩:=List.mem_map.mp hb
   obtain⟨vs,e,_⟩:=hs t ht;rw[e]at z;cases z
 nt:=λ{F H a b vs'} ⟨h,_,_,hs⟩ hb z=>by
  rcases List.mem_cons.mp hb with rfl|hb
  ·rw[h]at z;cases z
  ·obtain⟨t,ht,rfl⟩:=List.mem_map.mp hb
   obtain⟨vs,e,_⟩:=hs t ht;rw[e]at z;cases z
 mono:=λ{F F' H H' a} s e ⟨h,n1,n2,hs⟩=>⟨by rw[e a (List.mem_cons_self ..)];exact h,n1,n2,λt ht=>by
  obtain⟨vs,h1,h2⟩:=hs t ht;exact⟨vs,by rw[e _ (List.mem_cons_of_mem _ (List.mem_map_of_mem ht))];exact h1,h2.mono s⟩⟩
def eE(ts:zp)(k:List Key)(p:Addr)(d:D):zp:=if(ts.any λt=>decide (t.1=k))=true then ts.map (λt=>if t.1=k then(t.1,t.2.1,t.2.2++[d])else t)else ts++[(k,p,[d])]
theorem rW(k:List Key):∀ts:zp,(dn (wA ts) k=none/\(ts.any λt=>decide (t.1=k))=false)\/∃t∈ts,t.1=k/\dn (wA ts) k=some (.ref t.2.1)/\(ts.any λt=>decide (t.1=k))=true
 | []=>.inl ⟨rfl,rfl⟩
 | t::ts=>by
  by_cases e:t.1=k
  ·refine .inr ⟨t,.head _,e,?_,?_⟩
   ·show dn ((t.1,V.ref t.2.1)::wA ts) k=_
    rw[j4 (show t.1=k by rw[e])]
   ·rw[List.any_cons,decide_eq_true e];rfl
  ·have hv:dn (wA (t::ts)) k=dn (wA ts) k:=jZ (p:=(t.1,V.ref t.2.1)) e
   rw[hv,List.any_cons,decide_eq_false e,Bool.false_or];rcases rW k ts with h|⟨u,hu,h⟩
   ·exact .inl h
   ·exact .inr ⟨u,.tail _ hu,h⟩
def Ek:TX:=λσ Q=>Q (.obj (oi [])) σ
theorem D2{pos:Pos}:EX G k S (.Dict [] [] pos) Ek:=.mk λX Y ok=>bb DH λσ H Q q=>by
 obtain⟨F,ao,Qd,R,q,K⟩:=q;intro p hp;refine K _ _ F (.obj (oi [])) ao (aw.refl _) (R.kj hp) ⟨p,rfl,⟨ay,(by simp),List.nodup_nil,λt ht=>by cases ht⟩,λb hb=>?_⟩ q
 rw[List.mem_singleton.mp hb];exact⟨same_none R.fr hp,(by rw[ay];exactλz=>nomatch z),(R.bZ hp).1,R.cY hp⟩
def RZ(i j:Nat)(tk:TD):cu:=λDe σ=>(∃ts,σ[i]?=some (some (.obj (oi ts))))/\tk σ λkd aA=>∃ts k d,aA[i]?=some (some (.obj (oi ts)))/\vT kd=some k/\aA[j]?=some (some (.sh d))/\ts.length<1000000/\(∀t∈ts,t.2.2.length<1000000)/\∀p,De.nx (aA.set i (some (.obj (oi (eE ts k p d)))))
theorem yZ(i j:Nat){x z:Str}{ke:Expr}{tk:TD}{np lp vp Zi Zn Zj Zo pos:Pos}(hk:ED G k S ke tk)(hx:S.N[i]?=some x:=by rfl)(hz:S.N[j]?=some z:=by rfl)
  (vx:S.sc.lookup x=some .local\/S.sc.lookup x=some .cell\/S.sc.lookup x=some .free:=by first|exact Or.inl rfl|exact Or.inr (Or.inl rfl)|exact Or.inr (Or.inr rfl))
  (vz:S.sc.lookup z=some .local\/S.sc.lookup z=some .cell\/S.sc.lookup z=some .free:=by first|exact Or.inl rfl|exact Or.inr (Or.inl rfl)|exact Or.inr (Or.inr rfl))
  (dx:(x==("__debug__":Str))=false:=by decide) (cx:(x==("__classdict__":Str))=false:=by decide)
  (dz:(z==("__debug__":Str))=false:=by decide) (cz:(z==("__classdict__":Str))=false:=by decide)
  (VO:(Zi.endLine==Zn.line)=true:=by rfl) (GJ:(Zj.endLine==Zo.line)=true:=by rfl) (j7:∀env,starEach [ke,.List [] lp] env=[(false,eval ke env),(false,eval (.List [] lp) env)]:=by intro _;rfl):
  ES G k S (.Expr (.Call (.Attribute (.Call (.Attribute (.Name x np) "setdefault" Zi) [ke,.List [] lp] [] Zn) "append" Zj) [.Name z vp] [] Zo) pos) (RZ i j tk):=.mk λX Y ok=>by
 have px:PE X (.Name x np) (Em i):=hZ (by rw[ok.N];exact hx) (by unfold FP;rw[ok.sc];exact vx) dx cx
 have pz:PE X (.Name z vp) (Em j):=hZ (by rw[ok.N];exact hz) (by unfold FP;rw[ok.sc];exact vz) dz cz
 have pa1:=cn (hk X Y ok) (cn (qE (pos:=lp) cZ) cZ rfl) (j7 _);have p1:=pj (apos:=Zi) (cpos:=Zn) F.plainAttrs_dict F.slot_dict_setdefault F.type_dict_setdefault (G8 (by have:=ok.units;omega)) px pa1 rfl (by rw[j7];rfl) VO (by rw[j7];rfl) rfl
 have p2:=pj (apos:=Zj) (cpos:=Zo) F.plainAttrs_list F.slot_list_append F.type_list_append eW p1 (cn pz cZ rfl:PA X [.Name z vp] _) rfl rfl GJ rfl rfl;refine c5 (mh p2 rfl) λDn σ H0 q=>?_;obtain⟨F0,σ0,De,R0,⟨⟨FE,e0⟩,q⟩,K⟩:=q;obtain⟨a,w1,⟨w20,_⟩,_⟩:=R0.ob.obj i _ e0;refine⟨.ref a,w1,.inr (.inr (.inl ⟨rfl,.inr ⟨_,w20⟩⟩)),F0,σ0,_,R0,q,λkv H F kd ao s1 R rk q=>?_⟩;obtain⟨ts,k,d,e1,ek,e3,hl,gK,q⟩:=q;obtain⟨a',xY,⟨w2,n1,n2,w3⟩,w4⟩:=R.ob.obj i _ e1;rw[w1]at xY;cases xY;obtain rfl:=xq ek;obtain⟨kb,rfl,hkb⟩:=rk.vT;obtain⟨v3,y3,y4⟩:=R.sh j _ e3;have ha:H a≠none:=by rw[w2];exactλz=>nomatch z
 have CH:∀t∈ts,H t.2.1≠none:=λt ht=>by obtain⟨vs,h1,_⟩:=w3 t ht;rw[h1];exactλz=>nomatch z
 have Yq:∀t∈ts,t.2.1≠a:=λt ht z=>(List.nodup_cons.mp n1).1 (z ▸ List.mem_map_of_mem ht);have nA:=(List.nodup_cons.mp n1).2;refine⟨Nat.zero_le _,λp hp=>?_⟩;have GD:a≠p:=λz=>ha (z ▸ hp);have CL:∀ {b:Addr},H b≠none->b≠p:=λ{b} hb z=>hb (z ▸ hp);have kl:(wA ts).length<sizeLine:=by unfold wA;rw[List.length_map,sizeLine_eq];omega
 have hkH:H kb=some (.tup (k.map kV)):=R.fr _ _ hkb;refine⟨a,kb,.ref p,wA ts,k,rfl,rfl,by rw[ak (CL (by rw[hkH];exactλz=>nomatch z))];exact hkH,by rw[ak GD];exact w2,kl,λv hv=>?_,λhv=>?_⟩
 ·rcases rW k ts with⟨h1,_⟩|⟨t0,JP,ek,h1,h2⟩
  ·rw[h1]at hv;cases hv
  rw[h1]at hv;cases hv;obtain⟨vs,g1,g2⟩:=w3 t0 JP;have hb:=CL (CH t0 JP);refine⟨.inl ⟨rfl,vs,.inl (.inl (by rw[ak hb];exact g1))⟩,v3,y3,t0.2.1,vs,v3,rfl,rfl,by rw[ak hb];exact g1,by rw[sizeLine_eq,g2.length];have:=gK t0 JP;omega,?_⟩
  have ea:eE ts k p d=ts.map (λt=>if t.1=k then(t.1,t.2.1,t.2.2++[d])else t):=if_pos h2
  have m1:(eE ts k p d).map (·.2.1)=ts.map (·.2.1):=by
   rw[ea,List.map_map];refine List.map_congr_left λt _=>?_;show(if t.1=k then(t.1,t.2.1,t.2.2++[d])else t).2.1=t.2.1
   split<;>rfl
  have m2:(eE ts k p d).map (·.1)=ts.map (·.1):=by
   rw[ea,List.map_map];refine List.map_congr_left λt _=>?_;show(if t.1=k then(t.1,t.2.1,t.2.2++[d])else t).1=t.1
   split<;>rfl
  have m3:wA (eE ts k p d)=wA ts:=by
   unfold wA;rw[ea,List.map_map];refine List.map_congr_left λt _=>?_;show((if t.1=k then(t.1,t.2.1,t.2.2++[d])else t).1,V.ref (if t.1=k then(t.1,t.2.1,t.2.2++[d])else t).2.1)=(t.1,V.ref t.2.1)
   split<;>rfl
  have Vt:(oi (eE ts k p d)).fp a=(oi ts).fp a:=by show a::_=a::_;rw[m1]
  have live:∀b,H b≠none->upd (upd H p (.lst [])) t0.2.1 (.lst (vs++[v3])) b≠none:=λb hn=>by
   by_cases z:b=t0.2.1
   ·rw[z,ay];exactλy=>nomatch y
   ·rw[ak z,ak (CL hn)];exact hn
  refine K.nx σ _ F _ s1 (R.qB (o':=oi (eE ts k p d)) e1 w1 (λb k9 hn=>?_) live (λb k9=>.inl (by rw[<- Vt];exact k9)) (λb k9=>?_) ⟨?_,by rw[m1];exact n1,by rw[m2];exact n2,λt' ht'=>?_⟩) (q p)
  ·have z1:b≠t0.2.1:=λz=>k9 (List.mem_cons_of_mem _ (z ▸ List.mem_map_of_mem JP))
   rw[ak z1,ak (CL hn)]
  ·rw[Vt]at k9
   exact live b (w4 b k9).2.1
  ·rw[ak (Ne.symm (Yq t0 JP)),ak GD,m3];exact w2
  ·rw[ea]at ht'
   obtain⟨t,ht,rfl⟩:=List.mem_map.mp ht'
   by_cases hk:t.1=k
   ·rw[if_pos hk]
    obtain rfl:t=t0:=gq (·.1) n2 ht JP (hk.trans ek.symm)
    exact⟨_,ay,g2.append (.cons y4 .nil)⟩
   ·rw[if_neg hk]
    have df:t.2.1≠t0.2.1:=λz=>hk (by rw[gq (·.2.1) nA ht JP z];exact ek)
    obtain⟨us,h3,h4⟩:=w3 t ht;exact⟨us,by rw[ak df,ak (CL (CH t ht))];exact h3,h4⟩
 ·rcases rW k ts with⟨h1,h2⟩|⟨t0,JP,ek,h1,h2⟩
  case inr=>rw[h1]at hv;cases hv
  have hpa:p≠a:=Ne.symm GD;have ea:eE ts k p d=ts++[(k,p,[d])]:=if_neg (by rw[h2];decide)
  have g0:upd (upd H p (.lst [])) a (.dT (putK (wA ts) k (.ref p))) p=some (.lst []):=by rw[ak hpa,ay]
  refine⟨.inl ⟨rfl,[],.inl (.inl g0)⟩,v3,y3,p,[],v3,rfl,rfl,g0,by rw[sizeLine_eq];exact Nat.succ_pos _,?_⟩
  have hpi:p∉ts.map (·.2.1):=λz=>by obtain⟨t,ht,e⟩:=List.mem_map.mp z;exact CH t ht (e ▸ hp)
  have hki:k∉ts.map (·.1):=λz=>by
   obtain⟨t,ht,e⟩:=List.mem_map.mp z;have:=List.any_eq_false.mp h2 t ht;exact this (decide_eq_true e)
  have live:∀b,H b≠none->upd (upd (upd H p (.lst [])) a (.dT (putK (wA ts) k (.ref p)))) p (.lst ([]++[v3])) b≠none:=λb hn=>by
   rw[ak (CL hn)]
   by_cases z:b=a
   ·rw[z,ay];exactλy=>nomatch y
   ·rw[ak z,ak (CL hn)];exact hn
  have m1:(eE ts k p d).map (·.2.1)=ts.map (·.2.1)++[p]:=by rw[ea,List.map_append];rfl
  have Vt:∀b,b∈(oi (eE ts k p d)).fp a->b∈(oi ts).fp a\/b=p:=λb hb=>by
   have hb:b∈a::(eE ts k p d).map (·.2.1):=hb
   rw[m1]at hb;rcases List.mem_cons.mp hb with rfl|hb
   ·exact .inl (List.mem_cons_self ..)
   ·rcases List.mem_append.mp hb with hb|hb
    ·exact .inl (List.mem_cons_of_mem _ hb)
    ·exact .inr (List.mem_singleton.mp hb)
  refine K.nx σ _ F _ s1 (R.qB (o':=oi (eE ts k p d)) e1 w1 (λb k9 hn=>?_) live (λb k9=>(Vt b k9).imp id λ(z:b=p)=>by rw[z];exact hp) (λb k9=>?_) ⟨?_,?_,?_,λt ht=>?_⟩) (q p)
  ·have z1:b≠a:=λz=>k9 (z ▸ List.mem_cons_self ..)
   rw[ak (CL hn),ak z1,ak (CL hn)]
  ·rcases Vt b k9 with hb|rfl
   ·exact live b (w4 b hb).2.1
   ·rw[ay];exactλy=>nomatch y
  ·rw[ak GD,ay,DY _ hv,ea]
   show _=some (HO.dT ((ts++[(k,p,[d])]).map _));rw[List.map_append];rfl
  ·rw[m1,<- List.cons_append,List.nodup_append]
   refine⟨n1,by simp,λx hx y hy=>?_⟩
   rw[List.mem_singleton.mp hy];intro z;rw[z]at hx;rcases List.mem_cons.mp hx with hx|hx
   ·exact hpa hx
   ·exact hpi hx
  ·rw[ea,List.map_append,List.nodup_append]
   refine⟨n2,by simp,λx hx y hy=>?_⟩
   have hy:y=k:=by simpa using hy
   intro z;rw[z,hy]at hx;exact hki hx
  ·rw[ea]at ht
   rcases List.mem_append.mp ht with ht|ht
   ·obtain⟨us,h3,h4⟩:=w3 t ht
    exact⟨us,by rw[ak (CL (CH t ht)),ak (Yq t ht),ak (CL (CH t ht))];exact h3,h4⟩
   ·rw[List.mem_singleton.mp ht]
    exact⟨_,ay,.cons y4 .nil⟩
end Vc
namespace Vc
open PySem L2
variable [KF]
variable {G:GE}{k:Nat}{S:Stat}
def Ik(ts:zp):List (D×D):=ts.map λt=>(.tup (t.1.map kD),.lst t.2.2)
theorem RS.E4{Y:bI}{F:Hp}{ao:Sd}{σ:St}{H:Hp}{i:Nat}{ts:zp}(R:RS Y F ao σ H)(e:ao[i]?=some (some (.obj (oi ts))))(CO:Y.ob=[]):
  ∃F' v,aw F F'/\RS Y F' (ao.set i (some (.sh (.dct (Ik ts))))) σ H/\σ[i]?=some (some v)/\Rep F' v (.dct (Ik ts)):=by
 obtain⟨a,w1,⟨w2,n1,n2,w3⟩,w4⟩:=R.ob.obj i _ e;obtain⟨F',eF⟩:∃F':Hp,F'=λb=>if b∈(oi ts).fp a then H b else F b:=⟨_,rfl⟩
 have sF:aw F F':=λb u z=>by
  have:b∉(oi ts).fp a:=λy=>by rw[(w4 b y).1]at z;cases z
  rw[eF];show(if b∈(oi ts).fp a then H b else F b)=some u
  rw[if_neg this];exact z
 have V7:∀b∈(oi ts).fp a,F' b=H b:=λb hb=>by
  rw[eF];show(if b∈(oi ts).fp a then H b else F b)=H b
  rw[if_pos hb]
 have R1:=R.xB (F':=F') e w1 CO sF λb u z=>by
  rw[eF]at z;have z:(if b∈(oi ts).fp a then H b else F b)=some u:=z
  split at z
  ·rename_i hb;exact .inr ⟨hb,z⟩
  ·exact .inl z
 have key:∀us:zp,(∀t∈us,t∈ts)->iB F' (wA us) (Ik us):=by
  intro us
  induction us with
  | nil=>intro _;exact .nil
  | cons t us ih =>
   intro hu;obtain⟨vs,h1,h2⟩:=w3 t (hu t (.head _));have hb:t.2.1∈(oi ts).fp a:=List.mem_cons_of_mem _ (List.mem_map_of_mem (hu t (.head _)));exact .cons (.lst (.inl ((V7 _ hb).trans h1)) (h2.mono sF)) (ih λx hx=>hu x (.tail _ hx))
 have rep:Rep F' (.ref a) (.dct (Ik ts)):=.vD ((V7 a (List.mem_cons_self ..)).trans w2) (key ts λ_ h=>h);have hl:i<σ.length:=(List.getElem?_eq_some_iff.mp w1).1;have R2:=R1.nv (i:=i) rep λp hp y=>by
  obtain⟨_,xs,y2⟩:=R.io p hp;rw[y,e]at y2;cases y2
 have es:σ.set i (some (.ref a))=σ:=List.ext_getElem? λj=>by
  by_cases hj:i=j
  ·subst hj;rw[List.getElem?_set_self hl,w1]
  ·rw[List.getElem?_set_ne hj]
 rw[List.set_set,es]at R2;exact⟨F',.ref a,sF,R2,w1,rep⟩
def tTz(i:Nat):TD:=λσ Q=>∃ts,σ[i]?=some (some (.obj (oi ts)))/\Q (.dct (Ik ts)) (σ.set i (some (.sh (.dct (Ik ts)))))
theorem aaD(i:Nat){x:Str}{pos:Pos}(hN:S.N[i]?=some x:=by rfl)(hv:S.sc.lookup x=some .local\/S.sc.lookup x=some .cell\/S.sc.lookup x=some .free:=by first|exact Or.inl rfl|exact Or.inr (Or.inl rfl)|exact Or.inr (Or.inr rfl))
  (hd:(x==("__debug__":Str))=false:=by decide) (ql:(x==("__classdict__":Str))=false:=by decide) (GF:S.oG=false:=by rfl) (cU:S.ios=[]:=by rfl):ED G k S (.Name x pos) (tTz i):=.mk λX Y ok =>
 bb (hZ (X:=X) (i:=i) (by rw[ok.N];exact hN) (by unfold FP;rw[ok.sc];exact hv) hd ql) λσ H Q q=>by
  obtain⟨F,ao,Qd,R,⟨ts,e,q⟩,K⟩:=q;obtain⟨F',v,s,R',e2,r⟩:=R.E4 e (ok.obs GF cU);exact⟨v,e2,K v H F' (.dct (Ik ts)) _ s R' r q⟩
theorem xt{F:Hp}:∀ {ks:List (List Key×V)} {kvs:List (D×D)},iB F ks kvs->(kvs.all λkv=>d6 kv.1)=true->ks.map (·.1)=(kvs.map λkv=>bU kv.1).map (·.map Sum.inl)/\∀kv∈kvs,kv.1=.tup ((bU kv.1).map D.int)/\bU kv.1≠[]
 | _,_,.nil,_=>⟨rfl,λ_ h=>nomatch h⟩
 | _,_,.cons (k:=k) (d:=d) h r,ha=>by
  rw[List.all_cons,Bool.and_eq_true]at ha;obtain⟨i1,i2⟩:=xt r ha.2;have e:=dR ha.1;have ek:k=(bU (.tup (k.map kD))).map Sum.inl:=by
   have hi:(k.map kD).all isInt=true:=by
    have:=ha.1;unfold d6 at this;rw[Bool.and_eq_true]at this;exact this.1
   show k=((k.map kD).map g9).map Sum.inl;clear i1 i2 e r h ha
   induction k with
   | nil=>rfl
   | cons x k ih =>
    rw[List.map_cons,List.all_cons,Bool.and_eq_true]at hi;cases x with
    | inl x=>rw[List.map_cons,List.map_cons,List.map_cons,<- ih hi.2];rfl
    | inr x=>exact absurd hi.1 (by simp [kD,isInt])
  refine⟨?_,λkv GI=>?_⟩
  ·rw[List.map_cons,List.map_cons,List.map_cons,i1,<- ek]
  ·rcases List.mem_cons.mp GI with rfl|GI
   ·refine⟨e,λz=>?_⟩
    have:=ha.1;rw[e,z]at this;exact absurd this ∅
   ·exact i2 kv GI
theorem RS.Kc{Y:bI}{F:Hp}{ao:Sd}{σ:St}{H:Hp}{b:Addr}{vs:List V}(R:RS Y F ao σ H)(h:H b=some (.tup vs)):∃F',aw F F'/\RS Y F' ao σ H/\F' b=some (.tup vs):=by
 cases fb:F b with
 | some o =>
  have:=R.fr b o fb;rw[h]at this;cases this;exact⟨F,aw.refl _,R,fb⟩
 | none =>
  have sm:=aJ (o:=HO.tup vs) fb;have up:∀ {c:Addr},c≠b->upd F b (.tup vs) c=F c:=λ{c} hc=>ak hc;refine⟨upd F b (.tup vs),sm,⟨R.len,R.lo.trans sm,λc o e=>?_,λc o e=>?_,R.old,λi d e=>?_,λi xs e=>?_,R.dis,R.io,R.ob.step sm (λ_ _ e=>⟨e,rfl⟩) (λc hc=>?_) R.ob.iK R.ob.there⟩,ay⟩
  ·by_cases hc:c=b
   ·subst hc;rw[ay]at e;cases e;exact h
   ·rw[up hc]at e;exact R.fr c o e
  ·by_cases hc:c=b
   ·subst hc;rw[ay]at e;cases e;exact .inr (.inr ⟨_,rfl⟩)
   ·rw[up hc]at e;exact R.eQ c o e
  ·obtain⟨v,h1,h2⟩:=R.sh i d e
   exact⟨v,h1,h2.mono sm⟩
  ·obtain⟨a,us,h1,h2,h3,h4,h5⟩:=R.own i xs e
   have hc:a≠b:=λz=>by rw[z,h]at h2;cases h2
   exact⟨a,us,h1,h2,h3.mono sm,by rw[up hc];exact h4,h5⟩
  ·obtain⟨w1,w2,w3⟩:=R.ob.owned hc
   have hc:c≠b:=λz=>R.ob.Ds hc (z ▸ h);exact⟨rfl,by rw[up hc];exact w1,w3⟩
theorem RS.E6{Y:bI}{ao:Sd}{σ:St}{H:Hp}:∀(us:List V) {F:Hp},RS Y F ao σ H->(∀u∈us,∃b,u=.ref b/\H b=some (.tup ((iJ H u).map V.int)))->∃F',aw F F'/\RS Y F' ao σ H/\∀u∈us,Rep F' u (.tup ((iJ H u).map D.int))
 | [],F,R,_=>⟨F,aw.refl _,R,λ_ h=>nomatch h⟩
 | u::us,F,R,h=>by
  obtain⟨b,rfl,hb⟩:=h u (.head _);obtain⟨F1,s1,R1,e1⟩:=R.Kc hb;obtain⟨F2,s2,R2,r2⟩:=RS.E6 us R1 λx hx=>h x (.tail _ hx);refine⟨F2,s1.trans s2,R2,λx hx=>?_⟩;rcases List.mem_cons.mp hx with rfl|hx
  ·refine .tup (s2 _ _ e1) ?_
   generalize iJ H (.ref b)=ns
   induction ns with
   | nil=>exact .nil
   | cons n ns ih=>exact .cons (.int n) ih
  ·exact r2 x hx
def wu(t:fo):TX:=λσ Q=>t σ λds aA=>match ds with
 | [.dct kvs]=>(kvs.all λkv=>d6 kv.1)=true/\Q (.own (b8 (kvs.map (·.1)))) aA
 | _=>False
theorem HM{a:Expr}{t:fo}{p pos:Pos}(h:wG G k S [a] t)(hm:G.mg "sorted"=none)(hg:S.sc.lookup ("sorted":Str)=some .globalImplicit:=by rfl)
  (hs:∀env,starEach [a] env=[(false,eval a env)]:=by intro _;rfl) (hh:S.lK=false:=by rfl):EX G k S (.Call (.Name "sorted" p) [a] [] pos) (wu t):=.mk λX Y ok =>
 bb (ng (vA (ok.calm hh)) (dI ok hg) (by rw[ok.mg];exact hm) (by decide +kernel) (h X Y ok) ∅ ∅ (hs _) (by rfl)) λσ H Q q=>by
  obtain⟨F,ao,Qd,R,q,K⟩:=q;refine⟨F,ao,_,R,q,λvs H1 F1 ds aA s1 R1 r1 q1=>?_⟩
  split at q1
  ·rename_i kvs
   cases r1 with
   | @cons v _ _ _ rv r1 =>
   cases r1;cases(show Rep F1 v (.dct kvs)from rv)with
   | @vD _ ks _ hd rt =>
    obtain⟨k1,k2⟩:=xt rt q1.1;refine⟨_,ks,kvs.map λkv=>bU kv.1,rfl,.inl (R1.fr _ _ hd),k1,λk hk=>?_,λus hp hs hu l hl=>?_⟩
    ·obtain⟨kv,GI,rfl⟩:=List.mem_map.mp hk
     exact(k2 kv GI).2
    ·obtain⟨F2,s2,R2,r2⟩:=RS.E6 us R1 hu
     have key:∀v,bU (.tup ((iJ H1 v).map D.int))=iJ H1 v:=λv=>by
      show((iJ H1 v).map D.int).map g9=_;rw[List.map_map];exact(List.map_congr_left (λx _=>rfl)).trans (List.map_id _)
     have all:(kvs.map (·.1)).all d6=true:=by rw[List.all_map];exact q1.1
     have e:us.map (λv=>D.tup ((iJ H1 v).map D.int))=b8 (kvs.map (·.1)):=by
      refine nB all ?_ ?_
      ·have e1:kvs.map (·.1)=(kvs.map λkv=>bU kv.1).map λk=>D.tup (k.map D.int):=by
        rw[List.map_map];exact List.map_congr_left λkv GI=>(k2 kv GI).1
       rw[e1];have:=hp.map λk:List Int=>D.tup (k.map D.int);rw[List.map_map]at this;exact this
      ·rw[List.pairwise_map]at hs ⊢
       refine hs.imp λ{x y} h=>?_;unfold lM;rw[key,key,h];rfl
     have rl:=qI r2;rw[e]at rl;exact K (.ref l) _ F2 (.own _) aA (s1.trans s2) (R2.kj hl) ⟨l,_,rfl,ay,rl,same_none R2.fr hl,(R2.bZ hl).1,R2.cY hl⟩ q1.2
  ·exact q1.elim
def RV(ta tb:TV):TV:=λσ Q=>ta σ λx aA=>tb aA λy bu=>match fh bu x,fh bu y with
 | some (.dct kvs),some kd=>∃d,(vT kd).isSome=true/\qa kvs kd=some d/\Q (.val d) bu
 | _,_=>False
theorem XC{a b:Expr}{ta tb:TV}{pos:Pos}(ha:EO G k S a ta)(hb:EO G k S b tb)(hs:Ks b:=by intro _ _;rfl):EO G k S (.Subscript a b pos) (RV ta tb):=.mk λX Y ok =>
 bb (Hr (by have:=ok.units;omega) (ha X Y ok) (hb X Y ok) hs) λσ H Q q=>by
  obtain⟨F,ao,Qd,R,q,K⟩:=q;refine⟨F,ao,_,R,q,λv1 H1 F1 x aA s1 R1 r1 q1=>?_⟩;refine⟨F1,aA,_,R1,q1,λv2 H2 F2 y bu s2 R2 r2 q2=>?_⟩
  split at q2
  ·rename_i kvs kd ea eb
   have rx:=R2.fh (r1.mono s2) ea;have ry:=R2.fh r2 eb;obtain⟨d,hk,hd,q2⟩:=q2;obtain⟨ks,ek⟩:=Option.isSome_iff_exists.mp hk;obtain rfl:=xq ek;obtain⟨b,rfl,hb⟩:=(show Rep F2 v2 (.tup (ks.map kD))from ry).vT
   cases(show Rep F2 v1 (.dct kvs)from rx)with
   | vD h r =>
    rcases r.val ks with⟨_,e2⟩|⟨v,d',e1,e2,rd⟩
    ·rw[e2]at hd;cases hd
    ·rw[e2]at hd;cases hd
     exact⟨_,v,rfl,e1 ▸ .t (R2.fr _ _ h) (R2.fr _ _ hb),K v H2 F2 (.val d) bu (s1.trans s2) R2 rd q2⟩
  ·exact q2.elim
def Yf(c:TB)(tb:cu):cu:=λDe σ=>∃W:Nat->Sd->Prop,(∃m,W m σ)/\∀m σ,W m σ ->
 c σ λb aA=>if b=true then∃N:Sd->Prop,(∀bN,N bN->∃m',m'<m/\W m' bN)/\tb {De with nx:=N,ct:=N,bk:=De.nx} aA else De.nx aA
theorem HX{c:Expr}{body:List Stmt}{tc:TB}{tb:cu}{pos:Pos}(hc:EB G k S c tc)(hb:dC G k S body tb)(hh:S.lK=false:=by rfl):ES G k S (.While c body [] pos) (Yf tc tb):=.mk λX Y ok =>
 c5 (DV (ok.po hh) (hc X Y ok) (hb X Y ok)) λDn σ H q=>by
  obtain⟨F,ao,De,R,⟨W,⟨m0,w0⟩,turn⟩,K⟩:=q;refine⟨λm bN H'=>∃F' aR,aw F F'/\RS Y F' aR bN H'/\W m aR,⟨m0,F,ao,aw.refl _,R,w0⟩,?_⟩;rintro m bN H' ⟨F',aR,s',R',w'⟩;refine⟨F',aR,_,R',turn m aR w',λb H1 F1 aA s1 R1 q1=>?_⟩;cases b with
  | true =>
   obtain⟨N,hN,q1⟩:=q1;refine⟨λbu H2=>∃F2 cJ,aw F F2/\RS Y F2 cJ bu H2/\N cJ,λbu H2 ⟨F2,cJ,s2,R2,n2⟩=>?_,F1,aA,_,R1,q1,?_⟩
   ·obtain⟨m',hm,w2⟩:=hN cJ n2
    exact⟨m',hm,F2,cJ,s2,R2,w2⟩
   ·have YM:=s'.trans s1
    exact⟨λzl H4 F4 fB s4 R4 q4=>⟨F4,fB,YM.trans s4,R4,q4⟩,λv4 zl H4 F4 fB b s4 R4 r4 q4=>K.rt v4 zl H4 F4 fB b (YM.trans s4) R4 r4 q4,λzl H4 F4 fB s4 R4 q4=>K.nx zl H4 F4 fB (YM.trans s4) R4 q4,λzl H4 F4 fB s4 R4 q4=>⟨F4,fB,YM.trans s4,R4,q4⟩⟩
  | false=>exact K.nx bN H1 F1 aA (s'.trans s1) R1 q1
end Vc
namespace Vc
open PySem L2
def IH(i j:Int):Prop:=(-(2^300)<i/\i<2^300)/\-(2^300)<j/\j<2^300
theorem Aq{i:Int}(h:-(2^300)<i/\i<2^300):Builtin.Int.intBits i<=2^20:=by
 have:i.natAbs<2^300:=by omega
 unfold Builtin.Int.intBits
 split
 ·exact Nat.zero_le _
 ·rcases Nat.eq_zero_or_pos i.natAbs with h0|hp
  ·rw[h0];decide
  ·exact Nat.le_trans ((Nat.log2_lt (Nat.ne_of_gt hp)).mpr this) ∅
theorem Hg{X:Cx}:gI X (binaryOp .Mult) (rI IH λi j=>.int (i*j)):=WX λ_ _ _ _ _ _ _ hc q=>PyProof.Rows.mul_int q (IntMulOk.of_bits (Aq hc.1) (Aq hc.2))
variable [KF]
variable {G:GE}{k:Nat}{S:Stat}
def G9:=Nf IH λi j=>i*j
theorem D4{a b:Expr}{ta tb:TV}{pos:Pos}(ha:EO G k S a ta)(hb:EO G k S b tb):EX G k S (.BinOp a .Mult b pos) (a7 G9 ta tb):=nk (r:=λ_=>_) (λ_=>Hg) (λ_=>iX) ha hb
end Vc
namespace Vc
open PySem L2
def BK(e:List Int×List Int):List Int:=(e.1.flatMap λk=>[1,k])++0::e.2
def Tb(a b:List Int×List Int):Bool:=if a.1=b.1 then HT.lexLt a.2 b.2 else HT.lexLt a.1 b.1
theorem wU(as bs:List Int):∀ks js:List Int,HT.lexLt (BK (ks,as)) (BK (js,bs))=Tb (ks,as) (js,bs)
 | [],[]=>by
  show HT.lexLt (0::as) (0::bs)=_;rw[HT.bw,if_pos rfl];unfold Tb;rw[if_pos rfl]
 | [],j::js=>by
  show HT.lexLt (0::as) (1::_)=_;rw[HT.bw,if_neg ∅]
  unfold Tb;rw[if_neg (by simp)];rfl
 | k::ks,[]=>by
  show HT.lexLt (1::_) (0::bs)=_;rw[HT.bw,if_neg ∅]
  unfold Tb;rw[if_neg (by simp)];rfl
 | k::ks,j::js=>by
  show HT.lexLt (1::k::BK (ks,as)) (1::j::BK (js,bs))=_;rw[HT.bw,if_pos rfl,HT.bw,wU as bs ks js];unfold Tb;show(if k=j then(if ks=js then HT.lexLt as bs else HT.lexLt ks js)else decide (k<j))=if k::ks=j::js then HT.lexLt as bs else HT.lexLt (k::ks) (j::js)
  by_cases e:k=j
  ·subst e
   rw[if_pos rfl]
   by_cases e2:ks=js
   ·rw[if_pos e2,if_pos (by rw[e2])]
   ·rw[if_neg e2,if_neg (by simpa using e2),HT.bw,if_pos rfl]
  ·rw[if_neg e,if_neg (by simp [e]),HT.bw,if_neg e]
variable [KF]
open Classical in
theorem C0(ns:List Int):(ns.map D.int).all isInt=true:=by rw[List.all_map];exact List.all_eq_true.mpr λ_ _=>rfl
theorem tO(ns:List Int)(m:Nat):bG (m+1) (.tup (ns.map D.int))=true/\bG (m+1) (.lst (ns.map D.int))=true:=by
 have:(ns.map D.int).all (bG m)=true:=by
  rw[List.all_map];exact List.all_eq_true.mpr λ_ _=>by cases m<;>rfl
 exact⟨this,this⟩
theorem oP(as bs:List Int):ku (as.map D.int) (bs.map D.int)=decide (as=bs):=by
 have e:∀l:List Int,l.map D.int=(l.map (Sum.inl:Int->Key)).map kD:=λl=>by rw[List.map_map];rfl
 rw[e,e,qb];have inj:∀ {a b:List Int},a.map (Sum.inl:Int->Key)=b.map Sum.inl->a=b:=λ{a b} h=>by
  have:=congrArg (List.map λk:Key=>match k with|.inl i=>i|.inr _=>0) h
  rw[List.map_map,List.map_map]at this;have YD:∀l:List Int,l.map ((λk:Key=>match k with|.inl i=>i|.inr _=>0) ∘ Sum.inl)=l:=λl=>(List.map_congr_left λx _=>rfl).trans (List.map_id _)
  rwa [YD,YD]at this
 by_cases h:as=bs
 ·rw[h,decide_eq_true rfl,decide_eq_true rfl]
 ·rw[decide_eq_false h,decide_eq_false λz=>h (inj z)]
theorem mU:∀ {a b:List Int},a.map V.int=b.map V.int->a=b
 | [],[],_=>rfl
 | [],_::_,h=>by cases h
 | _::_,[],h=>by cases h
 | x::a,y::b,h=>by
  rw[List.map_cons,List.map_cons]at h;obtain⟨h1,h2⟩:=List.cons.inj h;rw[V.int.inj h1,mU h2]
theorem im(ns:List Int):(ns.map D.int).map g9=ns:=by
 rw[List.map_map];exact(List.map_congr_left λx _=>rfl).trans (List.map_id _)
end Vc
namespace Vc
open PySem L2
variable [KF]
theorem yX{F:Hp}{us jY:List V}(h:jY.Perm us):∀ {xs:List D},aG F us xs->∃ys,ys.Perm xs/\aG F jY ys:=by
 induction h with
 | nil=>intro xs r;exact⟨xs,.refl _,r⟩
 | cons v _ ih =>
  intro xs r;cases r with
  | cons r1 r2 =>
   obtain⟨ys,p,q⟩:=ih r2;exact⟨_::ys,p.cons _,.cons r1 q⟩
 | swap a b l =>
  intro xs r;cases r with
  | cons r1 r2 =>
  cases r2 with
  | cons r2 r3=>exact⟨_,.swap _ _ _,.cons r2 (.cons r1 r3)⟩
 | trans _ _ ih1 ih2 =>
  intro xs r;obtain⟨ys,p,q⟩:=ih2 r;obtain⟨zs,p2,q2⟩:=ih1 q;exact⟨zs,p2.trans p,q2⟩
variable {G:GE}{k:Nat}{S:Stat}
end Vc
namespace Vc
open PySem L2
variable [KF]
abbrev FMu:=List B->(B->List B->Prop)->Prop
variable {G:GE}{k:Nat}{S:Stat}
end Vc
namespace Vc
open PySem L2
variable [KF]
mutual
def noD:D->Bool
 | .aX=>true
 | .bl _=>true
 | .int _=>true
 | .str _=>true
 | .tup xs=>Dk xs
 | .lst xs=>Dk xs
 | _=>false
def Dk:List D->Bool
 | []=>true
 | x::xs=>noD x&&Dk xs
end
mutual
theorem Rep.E1{F F':Hp}(hs:∀c u,F c=some u->F' c=some u\/dl u=true):∀ {v:V} {d:D},Rep F v d->noD d=true->Rep F' v d
 | _,_,.aX,_=>.aX
 | _,_,.bl b,_=>.bl b
 | _,_,.int i,_=>.int i
 | _,_,.str x,_=>.str x
 | _,_,.tup h r,n=>.tup ((hs _ _ h).elim id λz=>by cases z) (aG.E1 hs r n)
 | _,_,.lst h r,n=>.lst (by
   rcases h with h|⟨o,h⟩
   ·exact .inl ((hs _ _ h).elim id λz=>by cases z)
   ·exact .inr ⟨o,(hs _ _ h).elim id λz=>by cases z⟩) (aG.E1 hs r n)
 | _,_,.gw _,n=>by cases n
 | _,_,.exc _,n=>by cases n
 | _,_,.vD _ _,n=>by cases n
 | _,_,.sE _ _,n=>by cases n
 | _,_,.kp _ _ _,n=>by cases n
theorem aG.E1{F F':Hp}(hs:∀c u,F c=some u->F' c=some u\/dl u=true):∀ {vs:List V} {ds:List D},aG F vs ds->Dk ds=true->aG F' vs ds
 | _,_,.nil,_=>.nil
 | _,_,.cons h r,n=>by
  have n:(noD _&&Dk _)=true:=n;rw[Bool.and_eq_true]at n;exact .cons (Rep.E1 hs h n.1) (aG.E1 hs r n.2)
end
inductive AV where
 | d (x:D)|n (j:Nat)|l (j:Nat)
abbrev TAv:=Sd->(List AV->Sd->Prop)->Prop
variable {G:GE}{k:Nat}{S:Stat}
def Kg(ao:Sd)(σ:St)(js:List Nat)(c:Addr):Prop:=∃j∈js,∃(o:O) (a:Addr),ao[j]?=some (some (.obj o))/\σ[j]?=some (some (.ref a))/\c∈o.fp a
theorem tW{Y:bI}{F:Hp}{ao:Sd}{σ:St}{H:Hp}(R:RS Y F ao σ H):∀js:List Nat,∃F2,aw F F2/\aw F2 H/\(∀j∈js,∀(o:O) (d:D) (a:Addr),ao[j]?=some (some (.obj o))->o.view=some d->σ[j]?=some (some (.ref a))->Rep F2 (.ref a) d) /\
  (∀c u,F2 c=some u->F c=some u\/(dl u=true/\Kg ao σ js c))/\(js=[]->F2=F)
 | []=>⟨F,aw.refl _,R.fr,(λj hj=>by cases hj),(λc u z=>.inl z),λ_=>rfl⟩
 | j::js=>by
  obtain⟨F2,s1,s2,h1,h2,_⟩:=tW R js
  by_cases hq:∃o d,ao[j]?=some (some (.obj o))/\o.view=some d
  ·obtain⟨o,d,e1,e2⟩:=hq
   obtain⟨a,w1,w2,w3⟩:=R.ob.obj j o e1;have w2':o.rep F2 H a:=o.mono s1 (λ_ _=>rfl) w2;obtain⟨F3,s3,s4,r3,h3⟩:=o.lend s2 w2' e2;refine⟨F3,s1.trans s3,s4,λi hi o' d' a' f1 f2 f3=>?_,λc u z=>?_,λz=>nomatch z⟩
   ·rcases List.mem_cons.mp hi with rfl|hi
    ·rw[e1]at f1;cases f1
     rw[e2]at f2;cases f2;rw[w1]at f3;cases f3;exact r3
    ·exact(h1 i hi o' d' a' f1 f2 f3).mono s3
   ·rcases h3 c u z with z|⟨z1,z2⟩
    ·rcases h2 c u z with z|⟨z1,i,hi,z2⟩
     ·exact .inl z
     ·exact .inr ⟨z1,i,.tail _ hi,z2⟩
    ·exact .inr ⟨z1,j,.head _,o,a,e1,w1,z2⟩
  ·refine⟨F2,s1,s2,λi hi o' d' a' f1 f2 f3=>?_,λc u z=>?_,λz=>nomatch z⟩
   ·rcases List.mem_cons.mp hi with rfl|hi
    ·exact absurd ⟨o',d',f1,f2⟩ hq
    ·exact h1 i hi o' d' a' f1 f2 f3
   ·rcases h2 c u z with z|⟨z1,i,hi,z2⟩
    ·exact .inl z
    ·exact .inr ⟨z1,i,.tail _ hi,z2⟩
end Vc
namespace Vc
open PySem L2
variable [KF]
variable {G:GE}{k:Nat}{S:Stat}
theorem ln0{α:Type}{P:List α->Prop}(h:P [])(us:List α)(e:us.length=0):P us:=List.eq_nil_of_length_eq_zero e ▸ h
theorem Ta{α:Type}{n:Nat}{P:List α->Prop}(h:∀(a:α) (r:List α),r.length=n->P (a::r)):∀us:List α,us.length=n+1->P us:=λus e=>by
 cases us with
 | nil=>cases e
 | cons a r=>exact h a r (Nat.succ.inj e)
@[elab_as_elim] theorem zv{α:Type} {P:List α->Prop} (h:∀a,P [a]) (us:List α) (e:us.length=1):P us:=Ta (λa=>ln0 (P:=λr=>P (a::r)) (h a)) us e
@[elab_as_elim] theorem ln2{α:Type} {P:List α->Prop} (h:∀a b,P [a,b]) (us:List α) (e:us.length=2):P us:=Ta (λa=>zv (P:=λr=>P (a::r)) (h a)) us e
@[elab_as_elim] theorem G5{α:Type} {P:List α->Prop} (h:∀a b c,P [a,b,c]) (us:List α) (e:us.length=3):P us:=Ta (λa=>ln2 (P:=λr=>P (a::r)) (h a)) us e
@[elab_as_elim] theorem ln4{α:Type} {P:List α->Prop} (h:∀a b c d,P [a,b,c,d]) (us:List α) (e:us.length=4):P us:=Ta (λa=>G5 (P:=λr=>P (a::r)) (h a)) us e
@[elab_as_elim] theorem ln5{α:Type} {P:List α->Prop} (h:∀a b c d e,P [a,b,c,d,e]) (us:List α) (e:us.length=5):P us:=Ta (λa=>ln4 (P:=λr=>P (a::r)) (h a)) us e
@[elab_as_elim] theorem ln6{α:Type} {P:List α->Prop} (h:∀a b c d e f,P [a,b,c,d,e,f]) (us:List α) (e:us.length=6):P us:=Ta (λa=>ln5 (P:=λr=>P (a::r)) (h a)) us e
end Vc
namespace Vc
open PySem L2
variable [KF]
variable {G:GE}{k:Nat}{S:Stat}
def xv(l:Bool)(d:Option D):Option B:=match l with
 | true=>d.map B.sh
 | false=>none
def tU(l:Bool):Option B->Option B
 | some (.sh d)=>some (.sh d)
 | some (.obj o)=>xv l (o.view.or o.deep)
 | some (.own xs)=>xv l (some (.lst xs))
 | none=>none
def gR(js:List Nat):Nat->Sd->Sd
 | _,[]=>[]
 | i,b::σ=>tU (js.contains i) b::gR js (i+1) σ
theorem o8(js:List Nat):∀(i:Nat) (σ:Sd),(gR js i σ).length=σ.length
 | _,[]=>rfl
 | i,b::σ=>congrArg (·+1) (o8 js (i+1) σ)
theorem o7(js:List Nat):∀(i j:Nat) (σ:Sd),(gR js i σ)[j]?=(σ[j]?).map (tU (js.contains (i+j)))
 | _,_,[]=>rfl
 | i,0,b::σ=>rfl
 | i,j+1,b::σ=>by
  show(gR js (i+1) σ)[j]?=_;rw[o7 js (i+1) j σ,show i+1+j=i+(j+1)by omega];rfl
theorem tV{l:Bool}{d:Option D}{b:B}(h:xv l d=some b):l=true/\∃x,d=some x/\b=.sh x:=by
 cases l with
 | false=>cases h
 | true =>
  obtain⟨x,h1,h2⟩:=Option.map_eq_some_iff.mp (show d.map B.sh=some b from h)
  exact⟨rfl,x,h1,h2.symm⟩
theorem Dc{l:Bool}{x:Option B}{b:B}(h:tU l x=some b):∃d,b=.sh d/\(x=some (.sh d)\/(l=true/\((∃o,x=some (.obj o)/\o.view.or o.deep=some d)\/∃xs,x=some (.own xs)/\d=.lst xs))):=by
 unfold tU at h
 split at h
 ·cases h;exact⟨_,rfl,.inl rfl⟩
 ·obtain⟨hl,d,h1,h2⟩:=tV h
  exact⟨d,h2,.inr ⟨hl,.inl ⟨_,rfl,h1⟩⟩⟩
 ·obtain⟨hl,d,h1,h2⟩:=tV h
  cases h1;exact⟨_,h2,.inr ⟨hl,.inr ⟨_,rfl,rfl⟩⟩⟩
 ·cases h
theorem tX{Y:bI}{F:Hp}{ao:Sd}{σ:St}{H:Hp}(R:RS Y F ao σ H):∀(js:List Nat) (F2:Hp),aw F F2->aw F2 H->∃F3,aw F2 F3/\aw F3 H/\∀j∈js,∀(xs:List D) (a:Addr),ao[j]?=some (some (.own xs))->σ[j]?=some (some (.ref a))->Rep F3 (.ref a) (.lst xs)
 | [],F2,_,s=>⟨F2,aw.refl _,s,λj hj=>by cases hj⟩
 | j::js,F2,s0,s=>by
  obtain⟨F3,s1,s2,h⟩:=tX R js F2 s0 s
  by_cases hq:∃xs,ao[j]?=some (some (.own xs))
  ·obtain⟨xs,e⟩:=hq
   obtain⟨a,vs,w1,w2,w3,_⟩:=R.own j xs e;obtain⟨F4,s3,s4,e4,_⟩:=vJ s2 w2;refine⟨F4,s1.trans s3,s4,λi hi ys b f1 f2=>?_⟩;rcases List.mem_cons.mp hi with rfl|hi
   ·rw[e]at f1;cases f1
    rw[w1]at f2;cases f2;exact .lst (.of e4) (w3.mono ((s0.trans s1).trans s3))
   ·exact(h i hi ys b f1 f2).mono s3
  ·refine⟨F3,s1,s2,λi hi ys b f1 f2=>?_⟩
   rcases List.mem_cons.mp hi with rfl|hi
   ·exact absurd ⟨ys,f1⟩ hq
   ·exact h i hi ys b f1 f2
theorem o9{Y:bI}{F:Hp}{ao:Sd}{σ:St}{H:Hp}(R:RS Y F ao σ H):∀(js:List Nat) (F2:Hp),aw F F2->aw F2 H->∃F3,aw F2 F3/\aw F3 H/\∀j∈js,∀(o:O) (d:D) (a:Addr),ao[j]?=some (some (.obj o))->o.deep=some d->σ[j]?=some (some (.ref a))->Rep F3 (.ref a) d
 | [],F2,_,s=>⟨F2,aw.refl _,s,λj hj=>by cases hj⟩
 | j::js,F2,s0,s=>by
  obtain⟨F3,s1,s2,h⟩:=o9 R js F2 s0 s
  by_cases hq:∃o d,ao[j]?=some (some (.obj o))/\o.deep=some d
  ·obtain⟨o,d,e,ed⟩:=hq
   obtain⟨a,w1,w2,_⟩:=R.ob.obj j o e;obtain⟨F4,s3,s4,r⟩:=o.JU s2 (o.mono (s0.trans s1) (λ_ _=>rfl) w2) ed;refine⟨F4,s1.trans s3,s4,λi hi p d' b f1 f2 f3=>?_⟩;rcases List.mem_cons.mp hi with rfl|hi
   ·rw[e]at f1;cases f1
    rw[w1]at f3;cases f3;rw[ed]at f2;cases f2;exact r
   ·exact(h i hi p d' b f1 f2 f3).mono s3
  ·refine⟨F3,s1,s2,λi hi p d' b f1 f2 f3=>?_⟩
   rcases List.mem_cons.mp hi with rfl|hi
   ·exact absurd ⟨p,d',f1,f2⟩ hq
   ·exact h i hi p d' b f1 f2 f3
end Vc
namespace Vc
open PySem L2
variable [KF]
variable {G:GE}{k:Nat}{S:Stat}
abbrev nR:=List (Addr×D×List D)
def Fs(ts:nR):D:=.lst (ts.map λt=>.tup [t.2.1,.lst t.2.2])
def SF(F:Hp)(u:V)(t:Addr×D×List D):Prop:=∃b v,u=V.ref b/\F b=some (.tup [v,.ref t.1])/\Rep F v t.2.1
theorem SF.mono{F F':Hp}(s:aw F F'){us:List V}{ts:nR}(h:Paired (SF F) us ts):Paired (SF F') us ts:=by
 induction h with
 | nil=>exact .nil
 | cons h _ ih =>
  obtain⟨b,v,e,h1,h2⟩:=h;exact .cons ⟨b,v,e,s _ _ h1,h2.mono s⟩ ih
def JB(ts:nR)(F H:Hp)(a:Addr):Prop:=(∃us:List V,H a=some (.lst us)/\Paired (SF F) us ts)/\(a::ts.map (·.1)).Nodup/\∀t∈ts,∃vs,H t.1=some (.lst vs)/\aG F vs t.2.2
theorem wN{F H:Hp}(s:aw F H){a:Addr}{ts:nR}(hr:JB ts F H a):∃F',aw F F'/\aw F' H/\Rep F' (.ref a) (Fs ts)/\F'=λb=>if b∈a::ts.map (·.1)then H b else F b:=by
 obtain⟨⟨us,w2,w5⟩,n1,w3⟩:=hr;obtain⟨F',eF⟩:∃F':Hp,F'=λb=>if b∈a::ts.map (·.1)then H b else F b:=⟨_,rfl⟩
 have sF:aw F F':=λb u z=>by
  rw[eF];show(if b∈a::ts.map (·.1)then H b else F b)=some u
  split
  ·exact s b u z
  ·exact z
 have V7:∀b∈a::ts.map (·.1),F' b=H b:=λb hb=>by
  rw[eF];show(if b∈a::ts.map (·.1)then H b else F b)=H b
  rw[if_pos hb]
 have sH:aw F' H:=λb u z=>by
  rw[eF]at z;have z:(if b∈a::ts.map (·.1)then H b else F b)=some u:=z
  split at z
  ·exact z
  ·exact s b u z
 have key:∀ {us:List V} {rs:nR},Paired (SF F) us rs->(∀t∈rs,t∈ts)->aG F' us (rs.map λt=>D.tup [t.2.1,.lst t.2.2]):=by
  intro us rs h
  induction h with
  | nil=>intro _;exact .nil
  | cons h _ ih =>
   rename_i u t us rs _;intro hu;obtain⟨b,v,rfl,h1,h2⟩:=h;obtain⟨vs,g1,g2⟩:=w3 t (hu t (.head _));have hb:t.1∈a::ts.map (·.1):=List.mem_cons_of_mem _ (List.mem_map_of_mem (hu t (.head _)))
   exact .cons (.tup (sF _ _ h1) (.cons (h2.mono sF) (.cons (.lst (.inl ((V7 _ hb).trans g1)) (g2.mono sF)) .nil))) (ih λx hx=>hu x (.tail _ hx))
 exact⟨F',sF,sH,.lst (.inl ((V7 a (List.mem_cons_self ..)).trans w2)) (key w5 λ_ h=>h),eF⟩
def mF(ts:nR):O where
 fp:=λa=>a::ts.map (·.1)
 rep:=JB ts
 self:=λa=>List.mem_cons_self ..
 solid:=λ{F H a b φ} ⟨⟨us,h,_⟩,_,hs⟩ hb z=>by
  rcases List.mem_cons.mp hb with rfl|hb
  ·rw[h]at z;cases z
  ·obtain⟨t,ht,rfl⟩:=List.mem_map.mp hb
   obtain⟨vs,e,_⟩:=hs t ht;rw[e]at z;cases z
 nt:=λ{F H a b vs'} ⟨⟨us,h,_⟩,_,hs⟩ hb z=>by
  rcases List.mem_cons.mp hb with rfl|hb
  ·rw[h]at z;cases z
  ·obtain⟨t,ht,rfl⟩:=List.mem_map.mp hb
   obtain⟨vs,e,_⟩:=hs t ht;rw[e]at z;cases z
 mono:=λ{F F' H H' a} s e ⟨⟨us,h,h'⟩,n1,hs⟩=>⟨⟨us,by rw[e a (List.mem_cons_self ..)];exact h,SF.mono s h'⟩,n1,λt ht=>by
  obtain⟨vs,h1,h2⟩:=hs t ht;exact⟨vs,by rw[e _ (List.mem_cons_of_mem _ (List.mem_map_of_mem ht))];exact h1,h2.mono s⟩⟩
 deep:=some (Fs ts)
 JU:=λ{F H a d} s hr e=>by
  cases e;obtain⟨F',s1,s2,r,_⟩:=wN s hr;exact⟨F',s1,s2,r⟩
def RO:TX:=λσ Q=>Q (.obj (mF [])) σ
theorem HK{pos:Pos}:EX G k S (.List [] pos) RO:=.mk λX Y ok=>bb (qE cZ) λσ H Q ⟨F,ao,Qd,R,q,K⟩=>by
 refine⟨Nat.zero_le _,λp hp=>?_⟩;refine K _ _ F (.obj (mF [])) ao (aw.refl _) (R.kj hp) ⟨p,rfl,⟨⟨[],ay,.nil⟩,List.nodup_cons.mpr ⟨List.not_mem_nil,List.nodup_nil⟩,λt ht=>by cases ht⟩,λb hb=>?_⟩ q
 rcases List.mem_cons.mp hb with rfl|hb
 ·exact⟨same_none R.fr hp,(by rw[ay];exactλz=>nomatch z),(R.bZ hp).1,R.cY hp⟩
 ·cases hb
theorem E8{H:Hp}{p q:Addr}{o u:HO}(h:p≠q):upd (upd H p o) q u=upd (upd H q u) p o:=by
 funext b
 by_cases h1:b=p
 ·subst h1;rw[ak h,ay,ay]
 ·by_cases h2:b=q
  ·subst h2;rw[ay,ak h1,ay]
  ·rw[ak h2,ak h1,ak h1,ak h2]
theorem RS.Ul{Y:bI}{F:Hp}{ao:Sd}{σ:St}{H:Hp}{i:Nat}{ts:nR}{a p q:Addr}{us:List V}{v:V}{d:D}(R:RS Y F ao σ H)(e:ao[i]?=some (some (.obj (mF ts))))(h:σ[i]?=some (some (.ref a)))(hu:H a=some (.lst us))(r:Rep F v d)(hp:H p=none)(hq:upd H p (.lst []) q=none):
  ∃F',aw F F'/\RS Y F' (ao.set i (some (.obj (mF (ts++[(p,d,[])]))))) σ (upd (upd (upd H p (.lst [])) q (.tup [v,.ref p])) a (.lst (us++[.ref q]))):=by
 have VY:p≠q:=λz=>by rw[z,ay]at hq;cases hq
 have hq0:H q=none:=by rwa [ak (Ne.symm VY)]at hq
 have GD:a≠p:=λz=>by rw[z,hp]at hu;cases hu
 have haq:a≠q:=λz=>by rw[z,hq0]at hu;cases hu
 have R1:=R.kj (o:=.tup [v,.ref p]) hq0;obtain⟨F',s1,R2,eq⟩:=R1.Kc ay;obtain⟨a',w1,⟨⟨jY,w2,w5⟩,n1,w3⟩,w4⟩:=R2.ob.obj i _ e;rw[h]at w1;cases w1;rw[ak haq,hu]at w2;cases w2;have hpn:p∉a::ts.map (·.1):=λz=>by
  have:=(w4 p z).2.1;rw[ak VY]at this;exact this hp
 refine⟨F',s1,?_⟩;rw[E8 (H:=H) (o:=.lst []) (u:=.tup [v,.ref p]) VY];generalize eH:upd H q (.tup [v,.ref p])=H1 at R1 R2 w3 w4;have hp1:H1 p=none:=by rw[<- eH,ak VY];exact hp
 have live:∀b,H1 b≠none->upd (upd H1 p (.lst [])) a (.lst (us++[.ref q])) b≠none:=λb hb=>by
  by_cases z:b=a
  ·rw[z,ay];exactλy=>nomatch y
  ·rw[ak z]
   by_cases z2:b=p
   ·rw[z2,ay];exactλy=>nomatch y
   ·rw[ak z2];exact hb
 have mp:(ts++[(p,d,[])]:nR).map (λt=>t.1)=ts.map (·.1)++[p]:=by rw[List.map_append];rfl
 refine R2.qB (o':=mF (ts++[(p,d,[])])) e h (λb hb hn=>?_) live (λb hb=>?_) (λb hb=>?_) ⟨⟨us++[.ref q],ay,w5.snoc ⟨q,v,rfl,eq,r.mono s1⟩⟩,?_,λt ht=>?_⟩
 ·have hb:b∉a::ts.map (·.1):=hb
  rw[ak (λz:b=a=>hb (z ▸ List.mem_cons_self ..)),ak (λz:b=p=>hn (by rw[z];exact hp1))]
 ·have hb:b∈a::(ts++[(p,d,[])]:nR).map (λt=>t.1):=hb
  rw[mp]at hb;rcases List.mem_cons.mp hb with rfl|hb
  ·exact .inl (List.mem_cons_self ..)
  ·rcases List.mem_append.mp hb with hb|hb
   ·exact .inl (List.mem_cons_of_mem _ hb)
   ·rw[List.mem_singleton.mp hb];exact .inr hp1
 ·have hb:b∈a::(ts++[(p,d,[])]:nR).map (λt=>t.1):=hb
  rw[mp]at hb
  by_cases z:b=a
  ·rw[z,ay];exactλy=>nomatch y
  ·rw[ak z]
   by_cases z2:b=p
   ·rw[z2,ay];exactλy=>nomatch y
   ·rw[ak z2]
    refine(w4 b ?_).2.1;rcases List.mem_cons.mp hb with rfl|hb
    ·exact absurd rfl z
    ·rcases List.mem_append.mp hb with hb|hb
     ·exact List.mem_cons_of_mem _ hb
     ·exact absurd (List.mem_singleton.mp hb) z2
 ·rw[mp]
  show(a::(ts.map (·.1)++[p])).Nodup
  rw[<- List.cons_append,List.nodup_append];exact⟨n1,List.nodup_cons.mpr ⟨List.not_mem_nil,List.nodup_nil⟩,λx hx y hy z=>by rw[List.mem_singleton.mp hy]at z;exact hpn (z ▸ hx)⟩
 ·rcases List.mem_append.mp ht with ht|ht
  ·obtain⟨vs,g1,g2⟩:=w3 t ht
   refine⟨vs,?_,g2⟩;have m:t.1∈ts.map (·.1):=List.mem_map_of_mem ht
   rw[ak (λz:t.1=a=>(List.nodup_cons.mp n1).1 (z ▸ m)),ak (λz:t.1=p=>hpn (z ▸ List.mem_cons_of_mem _ m))];exact g1
  ·rw[List.mem_singleton.mp ht]
   exact⟨[],by rw[ak (Ne.symm GD),ay],.nil⟩
def tCA(i:Nat)(te:TD):cu:=λDe σ=>(∃ts,σ[i]?=some (some (.obj (mF ts))))/\te σ λd bu=>∃ts,bu[i]?=some (some (.obj (mF ts)))/\ts.length<1000000/\∀p:Addr,De.nx (bu.set i (some (.obj (mF (ts++[(p,d,[])])))))
theorem HU(i:Nat){x:Str}{e:Expr}{te:TD}{np ap cp tp lp pos:Pos}{x1}(he:ED G k S e te)(hx:S.N[i]?=some x:=by rfl)
  (vx:S.sc.lookup x=some .local\/S.sc.lookup x=some .cell\/S.sc.lookup x=some .free:=by first|exact Or.inl rfl|exact Or.inr (Or.inl rfl)|exact Or.inr (Or.inr rfl))
  (dx:(x==("__debug__":Str))=false:=by decide) (cx:(x==("__classdict__":Str))=false:=by decide)
  (hl:(ap.endLine==cp.line)=true:=by rfl) (hs:∀env,starEach [e,.List [] lp] env=[(false,eval e env),(false,eval (.List [] lp) env)]:=by intro _;rfl):
  ES G k S (.Expr (.Call (.Attribute (.Name x np) "append" ap) [.Tuple [e,.List [] lp] x1 tp] [] cp) pos) (tCA i te):=.mk λX Y ok=>by
 have px:PE X (.Name x np) (Em i):=hZ (by rw[ok.N];exact hx) (by unfold FP;rw[ok.sc];exact vx) dx cx
 have pt:PE X (.Tuple [e,.List [] lp] x1 tp) _:=DL (cn (he X Y ok) (cn (qE (pos:=lp) cZ) cZ rfl) (by rw[hs];rfl))
 have p2:=pj (apos:=ap) (cpos:=cp) F.plainAttrs_list F.slot_list_append F.type_list_append eW px (cn pt cZ rfl) rfl rfl hl rfl rfl;refine c5 (mh p2 rfl) λDn σ H0 q=>?_;obtain⟨F0,σ0,De,R0,⟨⟨FE,e0⟩,q⟩,K⟩:=q;obtain⟨a,w1,⟨⟨Tp,u2,u5⟩,_,_⟩,_⟩:=R0.ob.obj i _ e0;refine⟨.ref a,w1,.inl ⟨rfl,Tp,.inl (.inl u2)⟩,F0,σ0,_,R0,q,λv1 H1 F1 d aA s1 R1 r1 q1=>?_⟩;obtain⟨ts,e1,hlen,q1⟩:=q1;obtain⟨a',xY,⟨⟨us,w2,w5⟩,n1,w3⟩,w4⟩:=R1.ob.obj i _ e1;rw[w1]at xY;cases xY;refine⟨Nat.zero_le _,λp hp=>⟨?_,λt ht=>?_⟩⟩
 ·rw[sizeLine_eq];exact Nat.le_of_ble_eq_true rfl
 obtain⟨F',s2,R2⟩:=R1.Ul e1 w1 w2 r1 hp ht;refine⟨a,us,.ref t,rfl,rfl,?_,by rw[sizeLine_eq,Paired.length w5];omega,K.nx σ _ F' _ (s1.trans s2) R2 (q1 p)⟩
 have GD:a≠p:=λz=>by rw[z,hp]at w2;cases w2
 have hat:a≠t:=λz=>by rw[<- z,ak GD,w2]at ht;cases ht
 rw[ak hat,ak GD];exact w2
end Vc
namespace Vc
open PySem L2
variable [KF]
variable {G:GE}{k:Nat}{S:Stat}
theorem sj{α:Type}(xs:List α)(x:α):L2.lA (xs++[x]) (-1)=some x:=by
 unfold L2.lA L2.xm;rw[if_neg ∅,if_pos (by rw[List.length_append,List.length_singleton];omega)]
 show(xs++[x])[(-1+((xs++[x]).length:Int)).toNat]?=_;rw[show(-1+((xs++[x]).length:Int)).toNat=xs.length by rw[List.length_append,List.length_singleton];omega,List.getElem?_append_right (Nat.le_refl _),Nat.sub_self];rfl
theorem Paired.wD{α β:Type}{F:α->β->Prop}{b:β}:∀ {Dd:List α} {Df:List β},Paired F Dd (Df++[b])->∃l a,Dd=l++[a]/\Paired F l Df/\F a b
 | _,[],.cons h .nil=>⟨[],_,rfl,.nil,h⟩
 | _,_::_,.cons h r=>by
  obtain⟨l,a,rfl,r',h'⟩:=Paired.wD r;exact⟨_::l,a,rfl,.cons h r',h'⟩
theorem RS.Um{Y:bI}{F:Hp}{ao:Sd}{σ:St}{H:Hp}{i:Nat}{ts:nR}{t:Addr×D×List D}{a:Addr}{vs:List V}{v:V}{d:D}(R:RS Y F ao σ H)(e:ao[i]?=some (some (.obj (mF (ts++[t])))))(h:σ[i]?=some (some (.ref a)))(hv:H t.1=some (.lst vs))(r:Rep F v d):
  RS Y F (ao.set i (some (.obj (mF (ts++[(t.1,t.2.1,t.2.2++[d])]))))) σ (upd H t.1 (.lst (vs++[v]))):=by
 obtain⟨a',w1,⟨⟨us,w2,w5⟩,n1,w3⟩,w4⟩:=R.ob.obj i _ e;rw[h]at w1;cases w1;have mp:(ts++[(t.1,t.2.1,t.2.2++[d])]:nR).map (λt=>t.1)=(ts++[t]).map (λt=>t.1):=by rw[List.map_append,List.map_append];rfl
 have hm:t.1∈(ts++[t]).map (λt=>t.1):=List.mem_map_of_mem (List.mem_append_right _ (List.mem_singleton.mpr rfl));have hta:t.1≠a:=λz=>(List.nodup_cons.mp n1).1 (z ▸ hm);have live:∀b,H b≠none->upd H t.1 (.lst (vs++[v])) b≠none:=λb hb=>by
  by_cases z:b=t.1
  ·rw[z,ay];exactλy=>nomatch y
  ·rw[ak z];exact hb
 obtain⟨jY,u,rfl,w6,w7⟩:=Paired.wD w5;refine R.qB (o':=mF (ts++[(t.1,t.2.1,t.2.2++[d])])) e h (λb hb hn=>?_) live (λb hb=>.inl ?_) (λb hb=>?_) ⟨⟨jY++[u],?_,w6.snoc w7⟩,?_,λx hx=>?_⟩
 ·have hb:b∉a::(ts++[t]).map (λt=>t.1):=hb
  exact ak (λz:b=t.1=>hb (z ▸ List.mem_cons_of_mem _ hm))
 ·have hb:b∈a::(ts++[(t.1,t.2.1,t.2.2++[d])]:nR).map (λt=>t.1):=hb
  rw[mp]at hb;exact hb
 ·have hb:b∈a::(ts++[(t.1,t.2.1,t.2.2++[d])]:nR).map (λt=>t.1):=hb
  rw[mp]at hb;exact live b (w4 b hb).2.1
 ·rw[ak (Ne.symm hta)];exact w2
 ·rw[mp];exact n1
 ·rcases List.mem_append.mp hx with hx|hx
  ·obtain⟨ws,g1,g2⟩:=w3 x (List.mem_append_left _ hx)
   refine⟨ws,?_,g2⟩;have n2:=(List.nodup_cons.mp n1).2;rw[List.map_append,List.nodup_append]at n2;rw[ak (λz:x.1=t.1=>n2.2.2 x.1 (List.mem_map_of_mem hx) t.1 (List.mem_singleton.mpr rfl) z)];exact g1
  ·rw[List.mem_singleton.mp hx]
   obtain⟨ws,g1,g2⟩:=w3 t (List.mem_append_right _ (List.mem_singleton.mpr rfl));rw[hv]at g1;cases g1;exact⟨_,ay,g2.append (.cons r .nil)⟩
def tCP(i:Nat)(te:TD):cu:=λDe σ=>∃FE t0,σ[i]?=some (some (.obj (mF (FE++[t0]))))/\te σ λd bu=>∃ts t,bu[i]?=some (some (.obj (mF (ts++[t]))))/\t.1=t0.1/\t.2.2.length<1000000/\De.nx (bu.set i (some (.obj (mF (ts++[(t.1,t.2.1,t.2.2++[d])])))))
theorem HV(i:Nat){x:Str}{b c e:Expr}{tb tc:TV}{te:TD}{np bp sp ap cp pos:Pos}(hb:EO G k S b tb)(hb1:∀(σ:Sd) (Q:OV->Sd->Prop),Q (.val (.int (-1))) σ->tb σ Q)(hc:EO G k S c tc)(SY:∀(σ:Sd) (Q:OV->Sd->Prop),Q (.val (.int 1)) σ->tc σ Q)(he:ED G k S e te)(hx:S.N[i]?=some x:=by rfl)
  (vx:S.sc.lookup x=some .local\/S.sc.lookup x=some .cell\/S.sc.lookup x=some .free:=by first|exact Or.inl rfl|exact Or.inr (Or.inl rfl)|exact Or.inr (Or.inr rfl))
  (dx:(x==("__debug__":Str))=false:=by decide) (cx:(x==("__classdict__":Str))=false:=by decide) (hs:lQ b:=by intro _ _;rfl) (CT:lQ c:=by intro _ _;rfl)
  (hl:(ap.endLine==cp.line)=true:=by rfl) (j7:∀env,starEach [e] env=[(false,eval e env)]:=by intro _;rfl):
  ES G k S (.Expr (.Call (.Attribute (.Subscript (.Subscript (.Name x np) b bp) c sp) "append" ap) [e] [] cp) pos) (tCP i te):=.mk λX Y ok=>by
 have px:PE X (.Name x np) (Em i):=hZ (by rw[ok.N];exact hx) (by unfold FP;rw[ok.sc];exact vx) dx cx
 have p1:=DJ (pos:=bp) xo px (hb X Y ok) hs;have p1':=DJ (pos:=sp) C5 p1 (hc X Y ok) CT;have p2:=pj (apos:=ap) (cpos:=cp) F.plainAttrs_list F.slot_list_append F.type_list_append eW p1' (cn (he X Y ok) cZ (j7 _)) rfl (by rw[j7];rfl) hl (j7 _) rfl
 refine c5 (mh p2 rfl) λDn σ H0 q=>?_;obtain⟨F0,σ0,De,R0,⟨FE,t0,e0,q⟩,K⟩:=q;obtain⟨a,w1,⟨⟨us,w2,w5⟩,n1,w3⟩,w4⟩:=R0.ob.obj i _ e0;refine⟨.ref a,w1,F0,σ0,λy aA=>y=.val (.int (-1))/\aA=σ0,R0,hb1 _ _ ⟨rfl,rfl⟩,λv1 H1 F1 y aA s1 R1 r1 q1=>?_⟩;obtain⟨rfl,rfl⟩:=q1;obtain rfl:v1=.int (-1):=by cases(show Rep F1 v1 (.int (-1))from r1);rfl
 obtain⟨a',xY,⟨⟨us1,x2,x5⟩,m1,x3⟩,x4⟩:=R1.ob.obj i _ e0;rw[w1]at xY;cases xY;obtain⟨jY,u,rfl,x6,bt,vt,rfl,f1,f2⟩:=Paired.wD x5;refine⟨a,_,_,.ref bt,rfl,rfl,.of x2,sj _ _,F1,_,λy bu=>y=.val (.int 1)/\bu=_,R1,SY _ _ ⟨rfl,rfl⟩,λv2 H2 F2 y bu s2 R2 r2 q2=>?_⟩;obtain⟨rfl,rfl⟩:=q2;obtain rfl:v2=.int 1:=by cases(show Rep F2 v2 (.int 1)from r2);rfl
 obtain⟨a',xY,⟨⟨us2,y2,y5⟩,m2,y3⟩,y4⟩:=R2.ob.obj i _ e0;rw[w1]at xY;cases xY;obtain⟨vs0,g1,g2⟩:=y3 t0 (List.mem_append_right _ (List.mem_singleton.mpr rfl));refine⟨bt,_,_,.ref t0.1,rfl,rfl,.of (R2.fr _ _ (s2 _ _ f1)),rfl,.inl ⟨rfl,vs0,.inl (.inl g1)⟩,F2,_,_,R2,q,λv3 H3 F3 d eB s3 R3 r3 q3=>?_⟩;obtain⟨ts,t,e3,et,hlen,q3⟩:=q3;obtain⟨a',xY,⟨⟨us3,z2,z5⟩,m3,z3⟩,z4⟩:=R3.ob.obj i _ e3;rw[w1]at xY;cases xY;obtain⟨vs,h1,h2⟩:=z3 t (List.mem_append_right _ (List.mem_singleton.mpr rfl));refine⟨t0.1,vs,v3,rfl,rfl,by rw[<- et];exact h1,by rw[sizeLine_eq,h2.length];omega,?_⟩
 rw[<- et];exact K.nx σ _ F3 _ ((s1.trans s2).trans s3) (R3.Um e3 w1 h1 r3) q3
theorem RS.A7{Y:bI}{F:Hp}{ao:Sd}{σ:St}{H:Hp}{i:Nat}{ts:nR}(R:RS Y F ao σ H)(e:ao[i]?=some (some (.obj (mF ts))))(CO:Y.ob=[]):
  ∃F' v,aw F F'/\RS Y F' (ao.set i (some (.sh (Fs ts)))) σ H/\σ[i]?=some (some v)/\Rep F' v (Fs ts):=by
 obtain⟨a,w1,w2,w4⟩:=R.ob.obj i _ e;obtain⟨F',sF,sH,rep,eF⟩:=wN R.fr w2;have R1:=R.xB (F':=F') e w1 CO sF λb u z=>by
  rw[eF]at z;have z:(if b∈a::ts.map (·.1)then H b else F b)=some u:=z
  split at z
  ·rename_i hb;exact .inr ⟨hb,z⟩
  ·exact .inl z
 have hl:i<σ.length:=(List.getElem?_eq_some_iff.mp w1).1;have R2:=R1.nv (i:=i) rep λp hp y=>by
  obtain⟨_,xs,y2⟩:=R.io p hp;rw[y,e]at y2;cases y2
 have es:σ.set i (some (.ref a))=σ:=List.ext_getElem? λj=>by
  by_cases hj:i=j
  ·subst hj;rw[List.getElem?_set_self hl,w1]
  ·rw[List.getElem?_set_ne hj]
 rw[List.set_set,es]at R2;exact⟨F',.ref a,sF,R2,w1,rep⟩
def RP(i:Nat):TD:=λσ Q=>∃ts,σ[i]?=some (some (.obj (mF ts)))/\Q (Fs ts) (σ.set i (some (.sh (Fs ts))))
theorem XA(i:Nat){x:Str}{pos:Pos}(hN:S.N[i]?=some x:=by rfl)(hv:S.sc.lookup x=some .local\/S.sc.lookup x=some .cell\/S.sc.lookup x=some .free:=by first|exact Or.inl rfl|exact Or.inr (Or.inl rfl)|exact Or.inr (Or.inr rfl))
  (hd:(x==("__debug__":Str))=false:=by decide) (ql:(x==("__classdict__":Str))=false:=by decide) (GF:S.oG=false:=by rfl) (cU:S.ios=[]:=by rfl):ED G k S (.Name x pos) (RP i):=.mk λX Y ok =>
 bb (hZ (X:=X) (i:=i) (by rw[ok.N];exact hN) (by unfold FP;rw[ok.sc];exact hv) hd ql) λσ H Q q=>by
  obtain⟨F,ao,Qd,R,⟨ts,e,q⟩,K⟩:=q;obtain⟨F',v,s,R',e2,r⟩:=R.A7 e (ok.obs GF cU);exact⟨v,e2,K v H F' (Fs ts) _ s R' r q⟩
end Vc
namespace Vs
open PySem PyProof.Rows PySem.W
section
variable {prog:Program}{w:World}{A:Around}{E:Value->Shared->Prop}{s:Shared}
theorem uH{l:Addr}{vs:List Value}{kd:SortKind}{ρ:Keyed->Nat}{P:Keyed->Prop}{Q:Value->Shared->Prop}(hl:s.heap.IsList l vs.toArray)(hz:vs.length<=sizeLine)(h0:∀p∈(pairsOf vs).toList,P p)
  (hk:2<=vs.length->∀(A':Around),A'.units<=A.units+8->∀(E':Value->Shared->Prop) (g:Heap),(∀b o,s.heap.get? b=some o->g.get? b=some o)->(∀Q:SortKind->Shared->Prop,Q kd {s with heap:=g}->wpAny (model prog w) A' (keyKind' vs.toArray) Q E' {s with heap:=g})/\fI (model prog w) A' E' {s with heap:=g} ρ kd P)
  (h:∀(xs:Array Keyed) (g:Heap) (c:Nat),xs.Perm (pairsOf vs)->Seg ρ xs 0 vs.length->(∀b o,s.heap.get? b=some o->g.get? b=some o)->g.get? (s.heap.objs.size+1)=some (seqObj "list" (xs.map (·.2)) c)->Q (.ref (s.heap.objs.size+1)) {s with heap:=g}):
  wpAny (model prog w) A (call (.builtin "sorted") [.ref l]) Q E s:=by
 refine Calls.call_function_entry kind_sorted plain_sorted entry_sorted (args_sorted1 _) ?_;unfold Builtin.«sorted»;refine wpAny_bind (m:=checkCount "sorted" 1 1 _) (wpAny_pure (wpAny_bind (collect_list hl (wpAny_bind (wpAny_newList ?_ hz)) hz)));have kA:((s.heap.push (seqObj "list" #[] 0)).update s.heap.objs.size (Obj.mapSeq (·++vs.toArray))).objs.size=s.heap.objs.size+1:=by
  rw[Heap.size_update,size_push']
 have CN:(((s.heap.push (seqObj "list" #[] 0)).update s.heap.objs.size (Obj.mapSeq (·++vs.toArray))).push (seqObj "list" vs.toArray 0)).get? (s.heap.objs.size+1)=some (seqObj "list" vs.toArray 0):=by
  rw[<- kA];exact Heap.get?_push_size _ rfl
 have keep:∀b o,s.heap.get? b=some o->(((s.heap.push (seqObj "list" #[] 0)).update s.heap.objs.size (Obj.mapSeq (·++vs.toArray))).push (seqObj "list" vs.toArray 0)).get? b=some o:=λb o e=>by
  have gK:b<s.heap.objs.size:=Heap.lt_size e;exact Heap.get?_push_of_some _ ((Heap.get?_update_other _ _ (Ne.symm (Nat.ne_of_lt gK))).trans (Heap.get?_push_of_some _ e))
 have ne:∀b o,s.heap.get? b=some o->b≠s.heap.objs.size+1:=λb o e=>Nat.ne_of_lt (Nat.lt_succ_of_lt (Heap.lt_size e));show wpAny _ _ _ _ _ {s with heap:=((s.heap.push (seqObj "list" #[] 0)).update s.heap.objs.size (Obj.mapSeq (·++vs.toArray))).push (seqObj "list" vs.toArray 0)}
 rw[kA];refine wpAny_bind (wpAny_holding (wpAny_call_entry slot_list_sort ⟨_,CN,rfl⟩ entry_list_sort (eN (kd:=kd) (ρ:=ρ) (P:=P) CN hz h0 (λh2 g kg=>hk h2 _ ?_ _ g λb o e=>kg b o (ne b o e) (keep b o e)) λxs g c a1 a2 a3 a4=>⟨_,rfl,?_⟩) (args_list_sort _)))
 ·have e1:∀B:Around,B.in1.units<=B.units+1:=λB=>by first|exact Nat.le_refl _|exact Nat.le_succ _ | (unfold Around.in1;dsimp only;omega)
  have:=e1 A;have:=e1 A.in1;omega
 ·exact wpAny_pure ⟨_,rfl,h xs g c a1 a2 (λb o e=>a3 b o (ne b o e) (keep b o e)) a4⟩
end
end Vs
namespace Vc
open PySem L2
variable [KF]
abbrev Nt:=List Int×Int
def qA(e:Nt):D:=.tup [.tup (e.1.map D.int),.int e.2]
def yb(F:Hp)(v:V)(e:Nt):Prop:=Rep F v (qA e)
open Classical in
def Dt(F:Hp)(v:V):Nt:=if h:∃e,yb F v e then Classical.choose h else([],0)
theorem Du{F:Hp}{v:V}(h:∃e,yb F v e):yb F v (Dt F v):=by
 unfold Dt;rw[dif_pos h];exact Classical.choose_spec h
def BL(e:Nt):List Int:=BK (e.1,[e.2])
def ltN(a b:Nt):Bool:=if a.1=b.1 then decide (a.2<b.2)else HT.lexLt a.1 b.1
theorem wV(a b:Nt):HT.lexLt (BL a) (BL b)=ltN a b:=by
 unfold BL;rw[wU];unfold Tb ltN;congr 1;rw[HT.bw]
 by_cases h:a.2=b.2
 ·rw[if_pos h,decide_eq_false ⋯];rfl
 ·rw[if_neg h]
theorem yb.parts{F:Hp}{v:V}{e:Nt}(h:yb F v e):∃a t,v=.ref a/\F a=some (.tup [.ref t,.int e.2])/\F t=some (.tup (e.1.map V.int)):=by
 cases(show Rep F v (.tup [.tup (e.1.map D.int),.int e.2])from h)with
 | tup hf rl =>
  cases rl with
  | cons r1 rl =>
  cases rl with
  | cons r2 rl =>
  cases rl;cases r1 with
  | tup h1 q1 =>
  cases r2 with
  | int i =>
   refine⟨_,_,rfl,hf,?_⟩;have z:=q1.ints (C0 e.1);rw[im]at z;rw[<- z];exact h1
theorem yb.uniq{F:Hp}{v:V}{e e':Nt}(h:yb F v e)(h':yb F v e'):e=e':=by
 obtain⟨a,t,rfl,f1,f2⟩:=h.parts;obtain⟨a',t',ea,g1,g2⟩:=h'.parts;cases ea;rw[f1]at g1;have z:=HO.tup.inj (Option.some.inj g1);obtain⟨z1,z2⟩:=List.cons.inj z;obtain⟨z2,_⟩:=List.cons.inj z2;cases z1;rw[f2]at g2;have y:=mU (HO.tup.inj (Option.some.inj g2));exact Prod.ext y (V.int.inj z2)
theorem NW{X:Cx}{pins:List (Addr×Obj)}{σ:St}{H F:Hp}{s:Shared}(I:L2.Inv X pins σ H s)(sm:aw F H){A:Around}(hu:A.units+64<cLine){v1 v2:V}{u1 u2:Value}{e1 e2:Nt}(p1:yb F v1 e1)(p2:yb F v2 e2)(r1:RelV v1 u1)(r2:RelV v2 u2)
  {Q:Bool->Shared->Prop} {E:Value->Shared->Prop} (q:Q (ltN e1 e2) s):wpAny (model X.prog X.w) A (PyProof.Rows.keyLt' (PyProof.Rows.tuples' false) u1 u2) Q E s:=by
 obtain⟨a,t,rfl,f1,f2⟩:=p1.parts;obtain⟨a',t',rfl,g1,g2⟩:=p2.parts;cases r1;cases r2;obtain⟨_,its,rv,o,ho,hc,n,hd⟩:=I.bC a _ (sm _ _ f1);obtain⟨_,its',QH,o',GN,Fv,n',zt⟩:=I.bC a' _ (sm _ _ g1);cases rv with
 | cons z1 rv =>
 cases rv with
 | cons z2 rv =>
 cases rv;cases z1;obtain⟨k1,rfl⟩:=z2;cases QH with
 | cons z1 QH =>
 cases QH with
 | cons z2 QH =>
 cases QH;cases z1;obtain⟨k2,rfl⟩:=z2;have rt:∀ {F:Hp} {t:Addr} {ns:List Int},F t=some (.tup (ns.map V.int))->Rep F (.ref t) (.tup (ns.map D.int)):=λ{F t ns} h=>.tup h (by
  clear h
  induction ns with
  | nil=>exact .nil
  | cons x ns ih=>exact .cons (.int x) ih)
 have eqd:∀ {x y:Addr} {d1 d2:D},Rep F (.ref x) d1->Rep F (.ref y) d2->bG 8 d1=true->bG 8 d2=true->(x=y->fD d1 d2=true)->∀ {B:Around},B.units+64<cLine->PySem.SeqAt.EqAt B s (.ref x) (.ref y) (fD d1 d2):=by
  intro x y d1 d2 q1 q2 o1 o2 hs B hB
  by_cases e:x=y
  ·rw[hs e,e];exact PySem.SeqAt.EqAt.same _
  ·refine PySem.SeqAt.EqAt.of_refs e λprog w E Q hq=>?_
   obtain⟨as,w1⟩:=q1.reads I.bC sm 8 rfl o1;obtain⟨bs,w2⟩:=q2.reads I.bC sm 8 rfl o2;exact PyProof.Rows.eq_dataH (E:=E) w1 w2 (dY o1) (dY o2) hB (by rw[<- vF 8 8 d1 d2 o1 o2];exact hq)
 have eT:=eqd (rt f2) (rt g2) (tO e1.1 7).1 (tO e2.1 7).1 (λe=>by
  subst e;rw[f2]at g2;have:=mU (HO.tup.inj (Option.some.inj g2));rw[this];show ku _ _=true;rw[oP,decide_eq_true rfl]) hu
 rw[show fD (.tup (e1.1.map D.int)) (.tup (e2.1.map D.int))=decide (e1.1=e2.1)from oP _ _]at eT
 have M8:A.units<cLine:=by omega
 have tL:∀ {E:Value->Shared->Prop} {Q:Value->Shared->Prop},Q (.bool (HT.lexLt e1.1 e2.1)) s->wpAny (model X.prog X.w) A (compareOp .Lt (.ref t) (.ref t')) Q E s:=λ{E Q} h=>by
  obtain⟨_,i1,w1,o1,k1,c1⟩:=I.bC t _ (sm _ _ f2);obtain⟨_,i2,w2,o2,k2,c2⟩:=I.bC t' _ (sm _ _ g2);exact HT.mY ⟨o1,k1,c1⟩ ⟨o2,k2,c2⟩ (L2.intsAre_of w1) (L2.intsAre_of w2) M8 h
 refine PySem.W.kat_lt ho hd GN zt ?_;show PySem.W.KatLex X.prog X.w A false false Q [(.ref t,.ref t'),(.int e1.2 k1,.int e2.2 k2)] 0 s;unfold ltN at q;refine PySem.W.kat_cons (eT _ _ _ _ (PySem.W.kat_go (λh=>PySem.W.kat_yes ?_) λh=>PySem.W.kat_no ?_))
 ·rw[if_pos (of_decide_eq_true h)]at q
  refine Vs.fQ (vs:=[.int e1.2 k1]) (ws:=[.int e2.2 k2]) 1 false (.cons _ _ .nil) (.cons _ _ .nil) rfl ?_;rw[HT.bw]
  by_cases z:e1.2=e2.2
  ·rw[if_pos z]
   rw[decide_eq_false ⋯]at q;exact q
  ·rw[if_neg z];exact q
 ·rw[if_neg (of_decide_eq_false h)]at q
  exact PySem.W.kat_one _ _ (tL q)
end Vc
namespace Vc
open PySem L2
variable [KF]
def D0:List V->Hp->VK->Prop:=λxs H Q=>∃(F:Hp) (p:Addr) (us:List V),xs=[.ref p]/\aw F H/\Rd H p (.lst us)/\(∀u∈us,∃e,yb F u e)/\∀jY:List V,jY.Perm us->jY.Pairwise (λu v=>ltN (Dt F v) (Dt F u)=false)->∀l,H l=none->Q (.ref l) (upd H l (.lst jY))
theorem vy{X:Cx}(hu:X.A.units+100<cLine):cQ X (.builtin "sorted") D0:=by
 intro pins s σ H xs Tp Q I r h;obtain⟨F,p,us,rfl,sm,hq,hu2,q⟩:=h;obtain⟨u,rfl,rx⟩:=vals1 r;cases rx;obtain⟨its,rv,pl,hz⟩:=I.list (.inl hq);have hlen:=rv.length;have JD:us=its.map toV:=uQ rv λu h=>by
  obtain⟨e,he⟩:=hu2 u h;obtain⟨a,_,rfl,_⟩:=he.parts;exact⟨a,rfl⟩
 have vf:∀v∈its,(∃a,v=.ref a)/\RelV (toV v) v/\yb F (toV v) (Dt F (toV v)):=λv hv=>by
  obtain⟨i,hi,e⟩:=List.mem_iff_getElem.mp hv;obtain⟨u,M8,ru⟩:=rv.get (i:=i) (x:=us[i]'⋯) (List.getElem?_eq_getElem _)
  rw[List.getElem?_eq_getElem hi]at M8;cases M8;have hm:us[i]'⋯∈us:=List.getElem_mem _
  obtain⟨x,hx⟩:=hu2 _ hm;obtain⟨a,_,ea,_⟩:=hx.parts;rw[ea]at ru;have ev:v=.ref a:=by rw[<- e];exact ru
  subst ev;refine⟨⟨a,rfl⟩,rfl,Du ⟨x,?_⟩⟩;rw[ea]at hx;exact hx
 have mem:∀x:PyProof.Rows.Keyed,x∈(PyProof.Rows.pairsOf its).toList->x.1∈its/\x.1=x.2:=λx hx=>by
  rw[PyProof.Rows.pairsOf_toList,dr]at hx;obtain⟨v,hv,rfl⟩:=List.mem_map.mp hx;exact⟨hv,rfl⟩
 refine Vs.uH (kd:=PyProof.Rows.tuples' false) (ρ:=Vs.rk (λx=>BL (Dt F (toV x.1))) (PyProof.Rows.pairsOf its).toList) (P:=λx=>x∈(PyProof.Rows.pairsOf its).toList) pl.isList ⋯ (λ_ h=>h) (λh2 A' hA E' g kg=>⟨λQ hQ=>?_,λx y st Q hx hy hk hq=>?_⟩) λys g c hp hs kg hg=>?_
 ·have I1:=I.kept (h':=g) (t':=s.toks) kg
  have key:∀vs:List Value,(∀v∈vs,v∈its)->∃fs,PySem.W.KatTups g vs fs/\fs.length=vs.length/\∀v∈fs,∃t o,v=.ref t/\g.get? t=some o/\o.cls=.type "tuple":=by
   intro vs
   induction vs with
   | nil=>intro _;exact⟨[],PySem.W.KatTups.nil,rfl,λv hv=>by cases hv⟩
   | cons v vs ih =>
    intro h;obtain⟨⟨a,rfl⟩,_,he⟩:=vf v (h v (.head _));obtain⟨a',t,ea,f1,f2⟩:=he.parts;cases ea;obtain⟨fs,k1,k2,k3⟩:=ih λu hu=>h u (.tail _ hu);obtain⟨_,i1,w1,o,ho,hc,n,hd⟩:=I1.bC a _ (sm _ _ f1);cases w1 with
    | cons z1 w1 =>
    cases w1 with
    | cons z2 w1 =>
    cases w1;cases z1;obtain⟨_,i2,w2,o2,CM,JI,_⟩:=I1.bC t _ (sm _ _ f2);refine⟨.ref t::fs,PySem.W.KatTups.cons ho hc hd rfl k1,by simp [k2],λv hv=>?_⟩
    rcases List.mem_cons.mp hv with rfl|hv
    ·exact⟨t,o2,rfl,CM,JI⟩
    ·exact k3 v hv
  obtain⟨fs,k1,k2,k3⟩:=key its λ_ h=>h;refine PySem.W.kat_kind (T:=.type "tuple") k1 ⋯ (λv hv=>?_) rfl hQ
  obtain⟨t,o,rfl,ho,hc⟩:=k3 v hv;exactλA2 Q2 E2 s2 kk q2=>wpAny_typeOf (T:="tuple") ⟨o,kk _ _ ho,hc⟩ q2
 ·rw[Vs.uB hx]at hq
  rw[PyProof.Rows.lt'_eq];refine PyProof.Rows.wpS_bind (PyProof.Rows.wpS_get ?_);rw[hk];have I1:=I.kept (h':=g) (t':=s.toks) kg;obtain⟨_,r1,p1⟩:=vf x.1 (mem x hx).1;obtain⟨_,r2,p2⟩:=vf y.1 (mem y hy).1;rw[wV]at hq;exact PyProof.Rows.wpS_bind (PyProof.Rows.wpS_lift (wpAny_attempt (NW I1 sm ⋯ p1 p2 r1 r2 ⟨rfl,PyProof.Rows.wpS_pure hq⟩)))
 ·have fP:ys.toList.Perm (PyProof.Rows.pairsOf its).toList:=Array.perm_iff_toList_perm.mp hp
  have iW:∀x∈ys.toList,x.1∈its/\x.1=x.2:=λx hx=>mem x (fP.mem_iff.mp hx);have perm:(ys.toList.map λx=>toV x.2).Perm us:=by
   rw[JD];refine(fP.map λx=>toV x.2).trans ?_;rw[PyProof.Rows.pairsOf_toList,dr,List.map_map];exact List.Perm.refl _
  have eq2:ys.toList.map (λx=>toV x.2)=(ys.map (·.2)).toList.map toV:=by
   rw[Array.toList_map,List.map_map];rfl
  refine⟨.ref (s.heap.objs.size+1),_,I.laid (t':=s.toks) (o:=.lst (ys.toList.map λx=>toV x.2)) kg (Nat.le_succ _) ⟨?_,(ys.map (·.2)).toList,c,?_,hg⟩,rfl,q _ perm ?_ _ (I.bC.fresh (Nat.le_succ _))⟩
  ·rw[perm.length_eq];exact hz
  ·rw[eq2]
   refine rX λv hv=>?_;rw[Array.toList_map]at hv;obtain⟨x,hx,rfl⟩:=List.mem_map.mp hv;have:=iW x hx;exact(vf _ (this.2 ▸ this.1)).1
  ·rw[List.pairwise_map]
   refine List.pairwise_iff_getElem.mpr λi j hi hj qp=>?_;have kz:i<ys.size:=by simpa using hi
   have MZ:j<ys.size:=by simpa using hj
   have kA:ys.size=its.length:=by have:=hp.size_eq;rw[PyProof.Rows.pairsOf_size]at this;exact this
   have h1:=hs i j (Nat.zero_le _) (Nat.le_of_lt qp) ⋯
   rw[Vs.cV (Array.getElem?_eq_getElem kz),Vs.cV (Array.getElem?_eq_getElem MZ)]at h1;show ltN (Dt F (toV ys[j].2)) (Dt F (toV ys[i].2))=false;have m1:=iW ys[i] (by simp)
   have m2:=iW ys[j] (by simp)
   have:=Vs.uB (d:=λx=>BL (Dt F (toV x.1))) (l:=(PyProof.Rows.pairsOf its).toList) (x:=ys[j]) (y:=ys[i]) (fP.mem_iff.mp (by simp))
   rw[decide_eq_false ⋯,wV]at this
   rw[<- m1.2,<- m2.2];exact this.symm
variable {G:GE}{k:Nat}{S:Stat}
def qW:List D->(EV->Prop)->Prop
 | [.lst xs],Q=>∃es:List Nt,xs=es.map qA/\∀fs:List Nt,fs.Perm es->fs.Pairwise (λa b=>ltN b a=false)->Q (.own (fs.map qA))
 | _,_=>False
theorem nu{F:Hp}:∀ {us:List V} {ds:List D},aG F us ds->(∀d∈ds,∃e,d=qA e)->ds=(us.map (Dt F)).map qA
 | _,_,.nil,_=>rfl
 | _,_,.cons (v:=v) (d:=d) r rs,h=>by
  obtain⟨e,rfl⟩:=h d (.head _);rw[List.map_cons,List.map_cons,<- nu rs λx hx=>h x (.tail _ hx),yb.uniq (Du ⟨e,r⟩) r]
theorem Gn:ya G k S (.builtin "sorted") qW:=⟨λ_=>D0,λ_ _ ok=>vy (by have:=ok.un;omega),λY F H ao σ vs ds Qd Q R r q g=>by
 unfold qW at q
 split at q
 ·rename_i xs
  obtain⟨es,rfl,q⟩:=q;obtain⟨v,rfl,rv⟩:=r.one;obtain⟨p,us,rfl,h1,h2⟩:=rv.lst;have all:∀d∈es.map qA,∃e,d=qA e:=λd hd=>by
   obtain⟨e,_,rfl⟩:=List.mem_map.mp hd;exact⟨e,rfl⟩
  have inj:∀ {a b:List Nt},a.map qA=b.map qA->a=b:=by
   intro a
   induction a with
   | nil=>intro b h;cases b with
    | nil=>rfl
    | cons _ _=>cases h
   | cons x a ih=>intro b h;cases b with
    | nil=>cases h
    | cons y b =>
     rw[List.map_cons,List.map_cons]at h;obtain⟨h1,h2⟩:=List.cons.inj h;have z:x=y:=by
      unfold qA at h1;simp only[D.tup.injEq,List.cons.injEq,D.int.injEq,and_true]at h1;refine Prod.ext ?_ h1.2;have:=congrArg (List.map g9) h1.1
      rwa [im,im]at this
     rw[z,ih h2]
  have hes:=inj (nu h2 all);refine⟨F,p,us,rfl,R.fr,h1,λu hu=>?_,λjY hp hpw=>?_⟩
  ·obtain⟨d,hd,rd⟩:=h2.mem u hu
   obtain⟨e,rfl⟩:=all d hd;exact⟨e,rd⟩
  ·obtain⟨ys,p2,rl⟩:=yX hp h2
   have ey:=nu rl λd hd=>all d (p2.mem_iff.mp hd);rw[ey]at rl;refine g.own R rl (q (jY.map (Dt F)) ?_ ?_)
   ·rw[hes];exact hp.map _
   ·rw[List.pairwise_map];exact hpw
 ·exact q.elim⟩
end Vc
namespace Vc
open PySem L2
variable [KF]
variable {G:GE}{k:Nat}{S:Stat}
def wo(js:List Nat)(t:TB):TB:=λσ Q=>t (gR js 0 σ) λb _=>Q b σ
theorem HL(js:List Nat){e:Expr}{t:TB}(h:EB G k S e t)(JQ:S.ex=λ_ _=>False:=by rfl):EB G k S e (wo js t):=.mk λX Y ok=>by
 intro pins s σ H Q I q;obtain⟨F,ao,Qd,R,q,K⟩:=q;obtain⟨F2,s1,s2,h1,_,_⟩:=tW R js;obtain⟨F3',s3',s4',h2'⟩:=tX R js F2 s1 s2;obtain⟨F3,XF,s4,h3⟩:=o9 R js F3' (s1.trans s3') s4';have s3:aw F2 F3:=s3'.trans XF;have h2:∀j∈js,∀(xs:List D) (a:Addr),ao[j]?=some (some (.own xs))->σ[j]?=some (some (.ref a))->Rep F3 (.ref a) (.lst xs):=λj hj xs a e1 e2=>(h2' j hj xs a e1 e2).mono XF;have only:∀ {i:Nat} {b:B},(gR js 0 ao)[i]?=some (some b)->∃d v,b=.sh d/\σ[i]?=some (some v)/\Rep F3 v d:=λ{i b} e=>by
  rw[o7,Nat.zero_add]at e;obtain⟨x,e1,e2⟩:=Option.map_eq_some_iff.mp e;obtain⟨d,rfl,e3⟩:=Dc e2;rcases e3 with rfl|⟨hl,⟨o,rfl,e4⟩|⟨xs,rfl,rfl⟩⟩
  ·obtain⟨v,g1,g2⟩:=R.sh i d e1
   exact⟨d,v,rfl,g1,g2.mono (s1.trans s3)⟩
  ·obtain⟨a,g1,_⟩:=R.ob.obj i o e1
   cases ev:o.view with
   | some x =>
    rw[ev]at e4;cases e4;exact⟨d,_,rfl,g1,(h1 i (List.contains_iff_mem.mp hl) o d a e1 ev g1).mono s3⟩
   | none =>
    rw[ev,Option.none_or]at e4;exact⟨d,_,rfl,g1,h3 i (List.contains_iff_mem.mp hl) o d a e1 e4 g1⟩
  ·obtain⟨a,vs,g1,_⟩:=R.own i xs e1
   exact⟨_,_,rfl,g1,h2 i (List.contains_iff_mem.mp hl) xs a e1 g1⟩
 have aas:∀(i:Nat) (o:O),(gR js 0 ao)[i]?≠some (some (.obj o)):=λi o e=>by
  obtain⟨d,v,z,_⟩:=only e;cases z
 have Wt:∀(i:Nat) (xs:List D),(gR js 0 ao)[i]?≠some (some (.own xs)):=λi xs e=>by
  obtain⟨d,v,z,_⟩:=only e;cases z
 have R2:RS ⟨H,F3,[],[]⟩ F3 (gR js 0 ao) σ H:=⟨by rw[o8];exact R.len,aw.refl _,s4,λb o e=>.inl e,λb o e _=>e,λi d e=>by
   obtain⟨d',v,z,g1,g2⟩:=only e;cases z;exact⟨v,g1,g2⟩,λi xs e=>absurd e (Wt i xs),λi _ xs _ _ e=>absurd e (Wt i xs),λp hp=>absurd hp (by simp),pN.none aas (R.ob.tab.mono (s1.trans s3)) λb hb=>absurd hb (by simp)⟩
 have ok2:dD X G k S ⟨H,F3,[],[]⟩:=⟨ok.P,ok.w,ok.K,ok.kf,ok.mg,ok.base,ok.N,ok.sc,ok.nd,λp hp=>absurd hp (by simp),λ_ _=>rfl,ok.calm,ok.kind,ok.fn,ok.hd,ok.dp,ok.un,ok.po,ok.nx,(λc ao h=>by rw[JQ]at h;exact h.elim),λ_ c ao h=>by rw[JQ]at h;exact h.elim⟩
 refine h.run X _ ok2 pins s σ H Q I ⟨F3,_,_,R2,q,λb H' F' aR s5 R5 q5=>?_⟩;have sm:aw H H':=λb o e=>R5.old b o e (by simp [bI.C1])
 have R6:RS Y F ao σ H':=R.call (aw.refl _) (R.fr.trans sm) sm λc o e=>.inl e;exact K b H' F ao (aw.refl _) R6 q5
end Vc
namespace Vc
variable [KF]
theorem Uo(ts:nR):(mF ts).view.or (mF ts).deep=some (Fs ts):=rfl
end Vc
namespace Vc
open PySem L2
variable [KF]
variable {G:GE}{k:Nat}{S:Stat}
theorem Hf{X:Cx}:gI X (compareOp .IsNot) (λx y H Q=>∃a b,x=.bl a/\y=.bl b/\Q (.bl (!(a==b))) H):=by
 intro pins s σ H x y v u Q I rx ry h;obtain⟨a,b,rfl,rfl,q⟩:=h;cases rx;cases ry;exact PySem.wpAny_isNot_plain (by rfl) (vI I q (by cases a<;>cases b<;>rfl))
def GY:D->D->(Bool->Prop)->Prop
 | .bl a,.bl b,Q=>Q (!(a==b))
 | _,_,_=>False
theorem K7:mw G k S .IsNot GY:=⟨_,λ_ _ _=>Hf,λY F H ao σ v u x y Qd Q R rx ry q K=>by
 unfold GY at q
 split at q
 ·obtain rfl:=rx.bl;obtain rfl:=ry.bl
  exact⟨_,_,rfl,rfl,K _ q⟩
 ·exact q.elim⟩
end Vc
set_option maxHeartbeats 0
namespace Y7
open PySem L2 Vc
section
def top(i:Nat):Stmt:=PySem.Challenge.pw_closepoints_k20_whole_cells_and_near.main.body.getD i (.Pass ⟨0,0,0,0⟩)
variable [KF]
abbrev XL:List Str:=["NearError","NoPoints","NoWay","NoBound","NoPaper"]
structure Gl(G:GE):Prop where
 Yj:Jo G XL
 z_abs:G.mg "abs"=none
 z_all:G.mg "all"=none
 z_bool:G.mg "bool"=none
 z_enumerate:G.mg "enumerate"=none
 z_int:G.mg "int"=none
 z_isinstance:G.mg "isinstance"=none
 z_len:G.mg "len"=none
 z_list:G.mg "list"=none
 z_max:G.mg "max"=none
 z_min:G.mg "min"=none
 z_range:G.mg "range"=none
 z_sorted:G.mg "sorted"=none
 z_sum:G.mg "sum"=none
 z_tuple:G.mg "tuple"=none
 z_zip:G.mg "zip"=none
 yg:Ke G "SQUARES" (.str "squares")
 gk:Ke G "STREETS" (.str "streets")
variable {G:GE}{k:Nat}
abbrev jx:Stmt:=top 9
abbrev zX:List Str:=["count"]
local macro_rules | `(tactic| walk_at "5") => `(tactic| exact ⟨rfl,rfl,rfl,by decide +kernel,rfl,by decide +kernel,by decide +kernel⟩)
theorem QV:aH zX ["count"] (ah jx):=by walk_at "5"
def Ez:cu:=(cC (lN (aS Fz (af 0) (aQ (.int 1))) (aS SV (af 0) (aQ (.int 3)))) wq gE)
theorem U0(E:Gl G):dC G k ⟨zX,(ah jx).names,[],false,false,false,λ_ _=>False⟩ (ax jx) (Ez):=(aE (cS (xI (og (aV yh (ag 0) av) (gS (aV FW (ag 0) av)))) (aE jj) bO))
abbrev qJ:Stmt:=top 10
abbrev Kh:List Str:=["point","count"]
theorem XH:aH Kh ["point","count"] (ah qJ):=by walk_at "5"
def Sb:cu:=(cC (aS neT (aW (fj gL (bK (af 0) eD))) (af 1)) wq gE)
theorem Zq(E:Gl G):dC G k ⟨Kh,(ah qJ).names,[],false,false,false,λ_ _=>False⟩ (ax qJ) (Sb):=(aE (cS (aV km (aY (c9 f_len E.z_len (aM (ag 0) bD) (by decide +kernel))) (ag 1)) (aE jj) bO))
abbrev jo:Stmt:=top 11
abbrev zP:List Str:=["points","point"]
theorem QO:aH zP ["points"] (ah jo):=by walk_at "5"
def Er(rE:bA)(xP:bA):cu:=(dj (cv (aq [] (af 0))) (eR 1) (bX (pH (dJ rE (aL (aq [] (aW (fj gL (bK (af 1) eD)))) tN))) (pH (dJ xP (aL (aq [] (af 1)) (aL (aq [] (aW (fj gL (bK (er (af 0) (aQ (.int 0))) eD)))) tN))))))
theorem UR(E:Gl G){rE:bA}(Cr:cy G k "need_count" rE){xP:bA}(MR:cy G k "need_as_many_numbers" xP):dC G k ⟨zP,(ah jo).names,[],false,false,false,λ_ _=>False⟩ (ax jo) (Er rE xP):=(aE (fZ (d5 (aI (ag 0))) (a9 1 (hn:=by first|decide|exact of_decide_eq_true rfl)) (az (cH (aO Cr (ai (aI (aY (c9 f_len E.z_len (aM (ag 1) bD) (by decide +kernel)))) aB))) (aE (cH (aO MR (ai (aI (ag 1)) (ai (aI (aY (c9 f_len E.z_len (aM (b7 (ag 0) av) bD) (by decide +kernel)))) aB))))))))
abbrev jG:Stmt:=top 12
abbrev Ae:List Str:=["way"]
theorem Q7:aH Ae ["way"] (ah jG):=by walk_at "5"
def EL:cu:=(cC (eo (aS neT (af 0) (aQ (.str "streets"))) (aS neT (af 0) (aQ (.str "squares")))) wq gE)
theorem U8(E:Gl G):dC G k ⟨Ae,(ah jG).names,[],false,false,false,λ_ _=>False⟩ (ax jG) (EL):=(aE (cS (xI (pA (aV km (ag 0) (uw E.gk)) (qH (aV km (ag 0) (uw E.yg))))) (aE jj) bO))
abbrev qM:Stmt:=top 13
abbrev Kk:List Str:=["points","way"]
theorem XM:aH Kk ["points","way"] (ah qM):=by walk_at "5"
def Sg(fA:bA)(rK:bA):cu:=(bX (pH (dJ fA (aL (aq [] (af 0)) tN))) (pH (dJ rK (aL (aq [] (af 1)) tN))))
theorem Zu(E:Gl G){fA:bA}(oZ:cy G k "need_points" fA){rK:bA}(Cy:cy G k "need_way" rK):dC G k ⟨Kk,(ah qM).names,[],false,false,false,λ_ _=>False⟩ (ax qM) (Sg fA rK):=(az (cH (aO oZ (ai (aI (ag 0)) aB))) (aE (cH (aO Cy (ai (aI (ag 1)) aB)))))
abbrev jw:Stmt:=top 14
abbrev zW:List Str:=["bound"]
theorem QU:aH zW ["bound"] (ah jw):=by walk_at "5"
def Ey:cu:=(cC (aS Fz (af 0) (aQ (.int 0))) wq gE)
theorem UZ(E:Gl G):dC G k ⟨zW,(ah jw).names,[],false,false,false,λ_ _=>False⟩ (ax jw) (Ey):=(aE (cS (aV yh (ag 0) av) (aE jj) bO))
abbrev qL:Stmt:=top 15
abbrev Kj:List Str:=["bound"]
theorem XJ:aH Kj ["bound"] (ah qL):=by walk_at "5"
def Sf:cu:=(cC (aS Fz (af 0) (aQ (.int 1))) wq gE)
theorem Zt(E:Gl G):dC G k ⟨Kj,(ah qL).names,[],false,false,false,λ_ _=>False⟩ (ax qL) (Sf):=(aE (cS (aV yh (ag 0) av) (aE jj) bO))
abbrev jm:Stmt:=top 17
abbrev zN:List Str:=["way","point","other","differences"]
theorem QM:aH zN ["way","point","other"] (ah jm):=by walk_at "5"
def Eo:cu:=(bX (dF [] 3 (di [] [none,none] (Ij (aL (aq [] (af 1)) (aL (aq [] (af 2)) tN))) (Ca 2 (gC (eR 0) (gC (eR 1) B9))) cO (aq [] (aW (fj yc (bK (aW (a7 il (af 0) (af 1))) eD)))))) (bX (cC (aS eqT (af 0) (aQ (.str "streets"))) (dN [] (fj sumF (bK (af 3) eD))) gE) (dN [] (fj sumF (bK (aW (di [] [none] (cv (aq [] (af 3))) (eR 0) cO (aq [] (aW (a7 kF (af 0) (af 0)))))) eD)))))
local macro_rules | `(tactic| walk_at "6") => `(tactic| first|decide +kernel | (dsimp only[aU,aD];decide +kernel))
theorem UP(E:Gl G):dC G k ⟨zN,(ah jm).names,[],false,false,false,λ_ _=>False⟩ (ax jm) (Eo):=(az (D9 3 (N':=["here","there"]) (JR (ai (aI (ag 1)) (ai (aI (ag 2)) aB)) E.z_zip) ⟨rfl,by walk_at "6",by walk_at "6",by walk_at "6",by walk_at "6",rfl,by walk_at "6"⟩ (k7 (bS (a9 0 (hn:=by first|decide|exact of_decide_eq_true rfl)) (bS (a9 1 (hn:=by first|decide|exact of_decide_eq_true rfl)) fO))) eG (aI (aY (c9 BP E.z_abs (aM (aY (eY (ag 0) (ag 1))) bD) (by decide +kernel))))) (az (cS (aV iD (ag 0) (uw E.gk)) (aE (bf (c9 wW E.z_sum (aM (ag 3) bD) (by decide +kernel)))) bO) (aE (bf (c9 wW E.z_sum (aM (aY (d9 (N':=["difference"]) (d5 (aI (ag 3))) ⟨rfl,by walk_at "6",by walk_at "6",by walk_at "6",by walk_at "6",rfl,by walk_at "6"⟩ (a9 0 (hn:=by first|decide|exact of_decide_eq_true rfl)) eG (aI (aY (jf (ag 0) (ag 0)))))) bD) (by decide +kernel))))))
abbrev qO:Stmt:=top 18
abbrev Km:List Str:=["points","way","pairs","i","j"]
theorem XO:aH Km ["points","way"] (ah qO):=by walk_at "5"
def Yg(rp:bA):cu:=(bX (dF [] 2 (mn tN)) (bX (dj (v8 (bK (aW (fj gL (bK (af 0) eD))) eD)) (eR 3) (dj (HN (bK (aW (a7 eC (af 3) (aQ (.int 1)))) (bK (aW (fj gL (bK (af 0) eD))) eD))) (eR 4) (pH (zh (af 2) (aq [] (El (aL (aq [] (aW (dJ rp (aL (aq [] (af 1)) (aL (aq [] (er (af 0) (af 3))) (aL (aq [] (er (af 0) (af 4))) tN)))))) (aL (aq [] (af 3)) (aL (aq [] (af 4)) tN))))))))) (dN [] (oX (af 2)))))
theorem Zw(E:Gl G){rp:bA}(Ci:cy G k "far_between" rp):dC G k ⟨Km,(ah qO).names,[],false,false,false,λ_ _=>False⟩ (ax qO) (Yg rp):=(az (bH 2 (cR aB)) (az (fZ (qt (aM (aY (c9 f_len E.z_len (aM (ag 0) bD) (by decide +kernel))) bD) E.z_range) (a9 3 (hn:=by first|decide|exact of_decide_eq_true rfl)) (aE (fZ (Nb (aM (aY (dA (ag 3) av)) (aM (aY (c9 f_len E.z_len (aM (ag 0) bD) (by decide +kernel))) bD)) E.z_range) (a9 4 (hn:=by first|decide|exact of_decide_eq_true rfl)) (aE (cH (nj (ag 2) (aI (lg (ai (aI (aY (aO Ci (ai (aI (ag 1)) (ai (aI (b7 (ag 0) (ag 3))) (ai (aI (b7 (ag 0) (ag 4))) aB)))))) (ai (aI (ag 3)) (ai (aI (ag 4)) aB))))))))))) (aE (bf (eA (ag 2))))))
abbrev jn:Stmt:=top 20
abbrev zO:List Str:=["points","way"]
theorem QN:aH zO ["points","way"] (ah jn):=by walk_at "5"
def Ep(de:bA)(jL:bA):cu:=(bX (pH (dJ de (aL (aq [] (af 0)) (aL (aq [] (af 1)) tN)))) (dN [] (oX (RW (aW (dJ jL (aL (aq [] (af 0)) (aL (aq [] (af 1)) tN)))) (aq [] (aQ .aX))))))
theorem UQ(E:Gl G){de:bA}(lJ:cy G k "need_points_and_way" de){jL:bA}(yu:cy G k "pairs_by_places" jL):dC G k ⟨zO,(ah jn).names,[],false,false,false,λ_ _=>False⟩ (ax jn) (Ep de jL):=(az (cH (aO lJ (ai (aI (ag 0)) (ai (aI (ag 1)) aB)))) (aE (bf (eA (XD (aY (aO yu (ai (aI (ag 0)) (ai (aI (ag 1)) aB)))) (aI eh) E.z_min)))))
abbrev jk:Stmt:=top 22
abbrev zL:List Str:=["point","side"]
theorem QK:aH zL ["point","side"] (ah jk):=by walk_at "5"
def En:cu:=(dN [] (fj nN (bK (aW (di [] [none,some 1] (cv (aq [] (af 0))) (eR 0) cO (aq [] (aW (a7 gQ (af 0) (af 1)))))) eD)))
theorem UN(E:Gl G):dC G k ⟨zL,(ah jk).names,[],false,false,false,λ_ _=>False⟩ (ax jk) (En):=(aE (bf (D1 wX E.z_tuple (aM (aY (d9 (N':=["number","side"]) (d5 (aI (ag 0))) ⟨rfl,by walk_at "6",by walk_at "6",by walk_at "6",by walk_at "6",rfl,by walk_at "6"⟩ (a9 0 (hn:=by first|decide|exact of_decide_eq_true rfl)) eG (aI (aY (eJ (ag 0) (ag 1)))))) bD) (by decide +kernel))))
abbrev qS:Stmt:=top 23
abbrev Kr:List Str:=["points","side","places","place","point"]
theorem XT:aH Kr ["points","side"] (ah qS):=by walk_at "5"
def Sn(fy:bA):cu:=(bX (dF [] 2 Ek) (bX (dj (kR (aL (aq [] (af 0)) tN)) (Ca 2 (gC (eR 3) (gC (eR 4) B9))) (RZ 2 3 (aq [] (aW (dJ fy (aL (aq [] (af 4)) (aL (aq [] (af 1)) tN))))))) (dN [] (di [] [none,some 2] (cv (aq [] (aW (wu (aL (tTz 2) tN))))) (eR 0) cO (aq [] (El (aL (aq [] (af 0)) (aL (aq [] (RV (af 1) (af 0))) tN))))))))
theorem ZA(E:Gl G){fy:bA}(oY:cy G k "cell_by_side" fy):dC G k ⟨Kr,(ah qS).names,[],false,false,false,λ_ _=>False⟩ (ax qS) (Sn fy):=(az (bH 2 D2) (az (fZ (lU (ai (aI (ag 0)) aB) E.z_enumerate) (k7 (bS (a9 3 (hn:=by first|decide|exact of_decide_eq_true rfl)) (bS (a9 4 (hn:=by first|decide|exact of_decide_eq_true rfl)) fO))) (aE (yZ 2 3 (aI (aY (aO oY (ai (aI (ag 4)) (ai (aI (ag 1)) aB)))))))) (aE (bf (d9 (N':=["cell","places"]) (d5 (aI (aY (HM (ai (aaD 2) aB) E.z_sorted)))) ⟨rfl,by walk_at "6",by walk_at "6",by walk_at "6",by walk_at "6",rfl,by walk_at "6"⟩ (a9 0 (hn:=by first|decide|exact of_decide_eq_true rfl)) eG (aI (lg (ai (aI (ag 0)) (ai (aI (XC (ag 1) (ag 0))) aB)))))))))
abbrev qR:Stmt:=top 24
abbrev Kq:List Str:=["way","side","bound"]
theorem XS:aH Kq ["way","side","bound"] (ah qR):=by walk_at "5"
def Sl:cu:=(bX (cC (aS Fz (af 1) (aQ (.int 1))) (dN [] (oX (aQ (.bl false)))) gE) (bX (cC (aS eqT (af 0) (aQ (.str "streets"))) (dN [] (oX (bV (aS SU (af 1) (af 2))))) gE) (dN [] (oX (bV (aS SU (aW (a7 G9 (af 1) (af 1))) (af 2)))))))
theorem Zz(E:Gl G):dC G k ⟨Kq,(ah qR).names,[],false,false,false,λ_ _=>False⟩ (ax qR) (Sl):=(az (cS (aV yh (ag 1) av) (aE (bf (eA je))) bO) (az (cS (aV iD (ag 0) (uw E.gk)) (aE (bf (eA (fE FV (ag 1) (ag 2))))) bO) (aE (bf (eA (fE FV (aY (D4 (ag 1) (ag 1))) (ag 2)))))))
abbrev jt:Stmt:=top 25
abbrev zS:List Str:=["bound","too_small","enough","half"]
theorem QR:aH zS ["bound"] (ah jt):=by walk_at "5"
def Eu:cu:=(bX (dF [] 1 (oX (aQ (.int 0)))) (bX (dF [] 2 (oX (af 0))) (bX (Yf (aS SV (aW (a7 il (af 2) (af 1))) (aQ (.int 1))) (bX (dF [] 3 (a7 gQ (aW (a7 eC (af 1) (af 2))) (aQ (.int 2)))) (cC (aS SU (aW (a7 G9 (af 3) (af 3))) (af 0)) (dF [] 2 (oX (af 3))) (dF [] 1 (oX (af 3)))))) (dN [] (oX (af 2))))))
theorem UW(E:Gl G):dC G k ⟨zS,(ah jt).names,[],false,false,false,λ_ _=>False⟩ (ax jt) (Eu):=(az (bH 1 (eA av)) (az (bH 2 (eA (ag 0))) (az (HX (aV FW (aY (eY (ag 2) (ag 1))) av) (az (bH 3 (eJ (aY (dA (ag 1) (ag 2))) av)) (aE (cS (aV FV (aY (D4 (ag 3) (ag 3))) (ag 0)) (aE (bH 2 (eA (ag 3)))) (aE (bH 1 (eA (ag 3)))))))) (aE (bf (eA (ag 2)))))))
abbrev ju:Stmt:=top 26
abbrev zU:List Str:=["way","bound"]
theorem QS:aH zU ["way","bound"] (ah ju):=by walk_at "5"
def Ew(rA:bA):cu:=(bX (cC (aS eqT (af 0) (aQ (.str "streets"))) (dN [] (oX (af 1))) gE) (dN [] (dJ rA (aL (aq [] (af 1)) tN))))
theorem UX(E:Gl G){rA:bA}(Ck:cy G k "least_root" rA):dC G k ⟨zU,(ah ju).names,[],false,false,false,λ_ _=>False⟩ (ax ju) (Ew rA):=(az (cS (aV iD (ag 0) (uw E.gk)) (aE (bf (eA (ag 1)))) bO) (aE (bf (aO Ck (ai (aI (ag 1)) aB)))))
abbrev qP:Stmt:=top 27
abbrev Kn:List Str:=["points","way","bound","found"]
theorem XQ:aH Kn ["points","way","bound"] (ah qP):=by walk_at "5"
def Si(dc:bA):cu:=(bX (dF [] 3 (dJ dc (aL (aq [] (af 0)) (aL (aq [] (af 1)) tN)))) (dN [] (oX (bV (eo (dB (bV (aS vQ (af 3) (aQ .aX)))) (dB (bV (aS Fz (er (af 3) (aQ (.int 0))) (af 2)))))))))
theorem Zx(E:Gl G){dc:bA}(iT:cy G k "nearest_two" dc):dC G k ⟨Kn,(ah qP).names,[],false,false,false,λ_ _=>False⟩ (ax qP) (Si dc):=(az (bH 3 (aO iT (ai (aI (ag 0)) (ai (aI (ag 1)) aB)))) (aE (bf (eA (yW (v_and (ip (fE sr (ag 3) eh)) (pJ (ip (fE yh (b7 (ag 3) av) (ag 2))))))))))
abbrev jy:Stmt:=top 28
abbrev zY:List Str:=["numbers"]
theorem QW:aH zY ["numbers"] (ah jy):=by walk_at "5"
def EA:cu:=(dN [] (fj Am (bK (aW (di [] [none] (cv (aq [] (af 0))) (eR 0) cO (aq [] (bV (eo (dB (bV (rT ["int"] (af 0)))) (dB (bV (dM (dB (bV (rT ["bool"] (af 0)))))))))))) eD)))
theorem U1(E:Gl G):dC G k ⟨zY,(ah jy).names,[],false,false,false,λ_ _=>False⟩ (ax jy) (EA):=(aE (bf (c9 JE E.z_all (aM (aY (d9 (N':=["number"]) (d5 (aI (ag 0))) ⟨rfl,by walk_at "6",by walk_at "6",by walk_at "6",by walk_at "6",rfl,by walk_at "6"⟩ (a9 0 (hn:=by first|decide|exact of_decide_eq_true rfl)) eG (aI (yW (v_and (ip (h9 (ag 0) G4 E.z_isinstance E.z_int (by decide +kernel))) (pJ (ip (D5 (ip (h9 (ag 0) C7 E.z_isinstance E.z_bool (by decide +kernel))))))))))) bD) (by decide +kernel))))
abbrev qK:Stmt:=top 29
abbrev Ki:List Str:=["entry"]
theorem XI:aH Ki ["entry"] (ah qK):=by walk_at "5"
def Se(eP:bA):cu:=(bX (cC (lN (dM (kS (bV (rT ["tuple"] (af 0))))) (aS neT (aW (fj gL (bK (af 0) eD))) (aQ (.int 2)))) (dN [] (oX (aQ (.bl false)))) gE) (bX (cC (lN (dM (kS (bV (rT ["tuple"] (er (af 0) (aQ (.int 0))))))) (dM (kS (bV (rT ["list"] (er (af 0) (aQ (.int 1)))))))) (dN [] (oX (aQ (.bl false)))) gE) (dN [] (oX (bV (eo (dB (aW (dJ eP (aL (aq [] (er (af 0) (aQ (.int 0)))) tN)))) (dB (aW (dJ eP (aL (aq [] (er (af 0) (aQ (.int 1)))) tN))))))))))
theorem Zr(E:Gl G){eP:bA}(mR:cy G k "are_whole" eP):dC G k ⟨Ki,(ah qK).names,[],false,false,false,λ_ _=>False⟩ (ax qK) (Se eP):=(az (cS (xI (og (fv (eO (h9 (ag 0) kit_tuple E.z_isinstance E.z_tuple (by decide +kernel)))) (gS (aV km (aY (c9 f_len E.z_len (aM (ag 0) bD) (by decide +kernel))) av)))) (aE (bf (eA je))) bO) (az (cS (xI (og (fv (eO (h9 (b7 (ag 0) av) kit_tuple E.z_isinstance E.z_tuple (by decide +kernel)))) (gS (fv (eO (h9 (b7 (ag 0) av) tT E.z_isinstance E.z_list (by decide +kernel))))))) (aE (bf (eA je))) bO) (aE (bf (eA (yW (v_and (ip (aY (aO mR (ai (aI (b7 (ag 0) av)) aB)))) (pJ (ip (aY (aO mR (ai (aI (b7 (ag 0) av)) aB))))))))))))
abbrev jC:Stmt:=top 30
abbrev Aa:List Str:=["paper"]
theorem QZ:aH Aa ["paper"] (ah jC):=by walk_at "5"
def EF(eP:bA)(xQ:bA):cu:=(bX (cC (lN (dM (kS (bV (rT ["tuple"] (af 0))))) (aS neT (aW (fj gL (bK (af 0) eD))) (aQ (.int 2)))) (dN [] (oX (aQ (.bl false)))) gE) (bX (cC (lN (dM (kS (aW (dJ eP (aL (aq [] (aW (mn (aL (aq [] (er (af 0) (aQ (.int 0)))) tN)))) tN))))) (dM (kS (bV (rT ["list"] (er (af 0) (aQ (.int 1)))))))) (dN [] (oX (aQ (.bl false)))) gE) (dN [] (fj Am (bK (aW (di [] [none] (cv (aq [] (er (af 0) (aQ (.int 1))))) (eR 0) cO (aq [] (aW (dJ xQ (aL (aq [] (af 0)) tN)))))) eD)))))
theorem U4(E:Gl G){eP:bA}(mR:cy G k "are_whole" eP){xQ:bA}(MS:cy G k "is_cell_with_places" xQ):dC G k ⟨Aa,(ah jC).names,[],false,false,false,λ_ _=>False⟩ (ax jC) (EF eP xQ):=(az (cS (xI (og (fv (eO (h9 (ag 0) kit_tuple E.z_isinstance E.z_tuple (by decide +kernel)))) (gS (aV km (aY (c9 f_len E.z_len (aM (ag 0) bD) (by decide +kernel))) av)))) (aE (bf (eA je))) bO) (az (cS (xI (og (fv (eO (aY (aO mR (ai (aI (aY (cR (ai (aI (b7 (ag 0) av)) aB)))) aB))))) (gS (fv (eO (h9 (b7 (ag 0) av) tT E.z_isinstance E.z_list (by decide +kernel))))))) (aE (bf (eA je))) bO) (aE (bf (c9 JE E.z_all (aM (aY (d9 (N':=["entry"]) (d5 (aI (b7 (ag 0) av))) ⟨rfl,by walk_at "6",by walk_at "6",by walk_at "6",by walk_at "6",rfl,by walk_at "6"⟩ (a9 0 (hn:=by first|decide|exact of_decide_eq_true rfl)) eG (aI (aY (aO MS (ai (aI (ag 0)) aB)))))) bD) (by decide +kernel))))))
abbrev jH:Stmt:=top 31
abbrev Af:List Str:=["point","side"]
theorem Q8:aH Af ["point","side"] (ah jH):=by walk_at "5"
def ER(fA:bA)(eL:bA)(fy:bA):cu:=(bX (pH (dJ fA (aL (aq [] (aW (mn (aL (aq [] (af 0)) tN)))) tN))) (bX (pH (dJ eL (aL (aq [] (af 1)) tN))) (dN [] (dJ fy (aL (aq [] (af 0)) (aL (aq [] (af 1)) tN))))))
theorem U9(E:Gl G){fA:bA}(oZ:cy G k "need_points" fA){eL:bA}(qk:cy G k "need_bound_from_one" eL){fy:bA}(oY:cy G k "cell_by_side" fy):dC G k ⟨Af,(ah jH).names,[],false,false,false,λ_ _=>False⟩ (ax jH) (ER fA eL fy):=(az (cH (aO oZ (ai (aI (aY (cR (ai (aI (ag 0)) aB)))) aB))) (az (cH (aO qk (ai (aI (ag 1)) aB))) (aE (bf (aO oY (ai (aI (ag 0)) (ai (aI (ag 1)) aB)))))))
abbrev jq:Stmt:=top 32
abbrev zQ:List Str:=["points","way","bound","paper"]
theorem QP:aH zQ ["points","way","bound","paper"] (ah jq):=by walk_at "5"
def Es(de:bA)(eL:bA)(rH:bA)(xT:bA)(jN:bA)(jM:bA):cu:=(bX (pH (dJ de (aL (aq [] (af 0)) (aL (aq [] (af 1)) tN)))) (bX (pH (dJ eL (aL (aq [] (af 2)) tN))) (bX (cC (lN (dM (kS (aW (dJ rH (aL (aq [] (af 3)) tN))))) (dM (kS (aW (dJ xT (aL (aq [] (af 1)) (aL (aq [] (er (af 3) (aQ (.int 0)))) (aL (aq [] (af 2)) tN)))))))) (dN [] (oX (aQ (.bl false)))) gE) (bX (cC (aS neT (er (af 3) (aQ (.int 1))) (aW (dJ jN (aL (aq [] (af 0)) (aL (aq [] (er (af 3) (aQ (.int 0)))) tN))))) (dN [] (oX (aQ (.bl false)))) gE) (dN [] (oX (bV (dM (dB (aW (dJ jM (aL (aq [] (af 0)) (aL (aq [] (af 1)) (aL (aq [] (af 2)) tN))))))))))))))
theorem UT(E:Gl G){de:bA}(lJ:cy G k "need_points_and_way" de){eL:bA}(qk:cy G k "need_bound_from_one" eL){rH:bA}(Cv:cy G k "has_form" rH){xT:bA}(MV:cy G k "side_is_enough" xT){jN:bA}(yw:cy G k "cells_by_side" jN){jM:bA}(yv:cy G k "some_are_nearer" jM):dC G k ⟨zQ,(ah jq).names,[],false,false,false,λ_ _=>False⟩ (ax jq) (Es de eL rH xT jN jM):=(az (cH (aO lJ (ai (aI (ag 0)) (ai (aI (ag 1)) aB)))) (az (cH (aO qk (ai (aI (ag 2)) aB))) (az (cS (xI (og (fv (eO (aY (aO Cv (ai (aI (ag 3)) aB))))) (gS (fv (eO (aY (aO MV (ai (aI (ag 1)) (ai (aI (b7 (ag 3) av)) (ai (aI (ag 2)) aB)))))))))) (aE (bf (eA je))) bO) (az (cS (aV km (b7 (ag 3) av) (aY (aO yw (ai (aI (ag 0)) (ai (aI (b7 (ag 3) av)) aB))))) (aE (bf (eA je))) bO) (aE (bf (eA (D5 (ip (aY (aO yv (ai (aI (ag 0)) (ai (aI (ag 1)) (ai (aI (ag 2)) aB))))))))))))))
abbrev jl:Stmt:=top 33
abbrev zM:List Str:=["points","way","bound","side"]
theorem QL:aH zM ["points","way","bound"] (ah jl):=by walk_at "5"
def xV(ex:Str->Sd->Prop)(de:bA)(eL:bA)(jM:bA)(rB:bA)(jN:bA):cu:=(bX (pH (dJ de (aL (aq [] (af 0)) (aL (aq [] (af 1)) tN)))) (bX (pH (dJ eL (aL (aq [] (af 2)) tN))) (bX (cC (kS (aW (dJ jM (aL (aq [] (af 0)) (aL (aq [] (af 1)) (aL (aq [] (af 2)) tN)))))) (tRz ex "NoPaper" (aL (aq [] (aQ (.str "two points are nearer than the bound"))) tN)) gE) (bX (dF [] 3 (dJ rB (aL (aq [] (af 1)) (aL (aq [] (af 2)) tN)))) (dN [] (oX (El (aL (aq [] (af 3)) (aL (aq [] (aW (dJ jN (aL (aq [] (af 0)) (aL (aq [] (af 3)) tN))))) tN)))))))))
theorem UO(E:Gl G)(ex:Str->Sd->Prop){de:bA}(lJ:cy G k "need_points_and_way" de){eL:bA}(qk:cy G k "need_bound_from_one" eL){jM:bA}(yv:cy G k "some_are_nearer" jM){rB:bA}(Cm:cy G k "least_side" rB){jN:bA}(yw:cy G k "cells_by_side" jN):dC G k ⟨zM,(ah jl).names,[],false,false,true,ex⟩ (ax jl) (xV ex de eL jM rB jN):=(az (cH (aO lJ (ai (aI (ag 0)) (ai (aI (ag 1)) aB)))) (az (cH (aO qk (ai (aI (ag 2)) aB))) (az (cS (eO (aY (aO yv (ai (aI (ag 0)) (ai (aI (ag 1)) (ai (aI (ag 2)) aB)))))) (aE (HW (E.Yj.cls "NoPaper" ∅) (ai (aI ux) aB))) bO) (az (bH 3 (aO Cm (ai (aI (ag 1)) (ai (aI (ag 2)) aB)))) (aE (bf (eA (lg (ai (aI (ag 3)) (ai (aI (aY (aO yw (ai (aI (ag 0)) (ai (aI (ag 3)) aB))))) aB))))))))))
abbrev qQ:Stmt:=top 34
abbrev Ko:List Str:=["points","way","found"]
theorem XR:aH Ko ["points","way"] (ah qQ):=by walk_at "5"
def Sj(dc:bA):cu:=(bX (dF [] 2 (dJ dc (aL (aq [] (af 0)) (aL (aq [] (af 1)) tN)))) (bX (cC (lN (aS S9 (af 2) (aQ .aX)) (aS Fz (er (af 2) (aQ (.int 0))) (aQ (.int 1)))) (dN [] (oX (aQ .aX))) gE) (dN [] (oX (er (af 2) (aQ (.int 0)))))))
theorem Zy(E:Gl G){dc:bA}(iT:cy G k "nearest_two" dc):dC G k ⟨Ko,(ah qQ).names,[],false,false,false,λ_ _=>False⟩ (ax qQ) (Sj dc):=(az (bH 2 (aO iT (ai (aI (ag 0)) (ai (aI (ag 1)) aB)))) (az (cS (xI (og (aV FX (ag 2) eh) (gS (aV yh (b7 (ag 2) av) av)))) (aE (bf (eA eh))) bO) (aE (bf (eA (b7 (ag 2) av))))))
abbrev jv:Stmt:=top 36
abbrev zV:List Str:=["points","way","bound"]
theorem QT:aH zV ["points","way","bound"] (ah jv):=by walk_at "5"
def Ex(de:bA)(rD:bA)(jL:bA):cu:=(bX (pH (dJ de (aL (aq [] (af 0)) (aL (aq [] (af 1)) tN)))) (bX (pH (dJ rD (aL (aq [] (af 2)) tN))) (dN [] (di [] [none,none,none,some 2] (cv (aq [] (aW (dJ jL (aL (aq [] (af 0)) (aL (aq [] (af 1)) tN)))))) (Ca 3 (gC (eR 0) (gC (eR 1) (gC (eR 2) B9)))) (aS YG (af 0) (af 3)) (aq [] (El (aL (aq [] (af 1)) (aL (aq [] (af 2)) tN))))))))
theorem UY(E:Gl G){de:bA}(lJ:cy G k "need_points_and_way" de){rD:bA}(Cq:cy G k "need_bound" rD){jL:bA}(yu:cy G k "pairs_by_places" jL):dC G k ⟨zV,(ah jv).names,[],false,false,false,λ_ _=>False⟩ (ax jv) (Ex de rD jL):=(az (cH (aO lJ (ai (aI (ag 0)) (ai (aI (ag 1)) aB)))) (az (cH (aO Cq (ai (aI (ag 2)) aB))) (aE (bf (d9 (N':=["far","i","j","bound"]) (d5 (aI (aY (aO yu (ai (aI (ag 0)) (ai (aI (ag 1)) aB)))))) ⟨rfl,by walk_at "6",by walk_at "6",by walk_at "6",by walk_at "6",rfl,by walk_at "6"⟩ (k7 (bS (a9 0 (hn:=by first|decide|exact of_decide_eq_true rfl)) (bS (a9 1 (hn:=by first|decide|exact of_decide_eq_true rfl)) (bS (a9 2 (hn:=by first|decide|exact of_decide_eq_true rfl)) fO)))) (Ug (aV Uj (ag 0) (ag 3))) (aI (lg (ai (aI (ag 1)) (ai (aI (ag 2)) aB)))))))))
abbrev jD:Stmt:=top 39
abbrev Ab:List Str:=["cell"]
theorem Q0:aH Ab ["cell"] (ah jD):=by walk_at "5"
def EH:cu:=(dN [] (mn (aL (aq [] (aW (fj yc (bK (af 0) eD)))) (aL (aq [] (aW (a7 qy (aW (a7 kF (aW (a7 eC (aW (a7 qy (af 0) (aQ (.int 2147483647)))) (aQ (.int 1)))) (aQ (.int 742938285)))) (aQ (.int 2147483647))))) tN))))
theorem U5(E:Gl G):dC G k ⟨Ab,(ah jD).names,[],false,false,false,λ_ _=>False⟩ (ax jD) (EH):=(aE (bf (cR (ai (aI (aY (c9 BP E.z_abs (aM (ag 0) bD) (by decide +kernel)))) (ai (aI (aY (nq (aY (jf (aY (dA (aY (nq (ag 0) av)) av)) av)) av))) aB)))))
abbrev jE:Stmt:=top 40
abbrev Ac:List Str:=["reel","many","found","stir"]
theorem Q5:aH Ac ["reel","many"] (ah jE):=by walk_at "5"
def EJ:cu:=(bX (cC (aS SU (er (af 0) (aQ (.int 0))) (aW (a7 qF (aQ (.int 10)) (aQ (.int 18))))) (bX (dF [0] 2 (a7 qy (er (af 0) (aQ (.int 0))) (af 1))) (bX (uJ 0 (aQ (.int 0)) (aq [0] (aW (a7 gQ (er (af 0) (aQ (.int 0))) (af 1))))) (dN [0] (oX (af 2))))) gE) (bX (uJ 0 (aQ (.int 1)) (aq [0] (aW (a7 qy (aW (a7 eC (aW (a7 kF (er (af 0) (aQ (.int 1))) (aQ (.int 48271)))) (aQ (.int 11)))) (aQ (.int 2147483647)))))) (bX (dF [0] 3 (a7 qy (aW (a7 kF (er (af 0) (aQ (.int 1))) (er (af 0) (aQ (.int 1))))) (aQ (.int 2147483629)))) (dN [0] (a7 qy (aW (a7 gQ (aW (a7 qy (aW (a7 kF (af 3) (aQ (.int 69621)))) (aQ (.int 2147483587)))) (aQ (.int 8)))) (af 1))))))
theorem U6(E:Gl G):dC G k ⟨Ac,(ah jE).names,[0],false,false,false,λ_ _=>False⟩ (ax jE) (EJ):=(az (cS (aV FV (b7 (ag 0) av) (aY (nr av av))) (az (bH 2 (nq (b7 (ag 0) av) (ag 1))) (az (v9 0 (aI (aY (eJ (b7 (ag 0) av) (ag 1)))) av (ag 0)) (aE (bf (eA (ag 2)))))) bO) (az (v9 0 (aI (aY (nq (aY (dA (aY (jf (b7 (ag 0) av) av)) av)) av))) av (ag 0)) (az (bH 3 (nq (aY (jf (b7 (ag 0) av) (b7 (ag 0) av))) av)) (aE (bf (nq (aY (eJ (aY (nq (aY (jf (ag 3) av)) av)) av)) (ag 1)))))))
abbrev jr:Stmt:=top 41
abbrev zR:List Str:=["reel","most","count","many","wide","kind","found","k","point","base"]
theorem QQ:aH zR ["reel","most"] (ah jr):=by walk_at "5"
def Et(bo:kY):cu:=(bX (dF [0] 2 (a7 eC (aQ (.int 1)) (aW (dE bo 0 (aL (aq [0] (aQ (.int 3))) tN))))) (bX (dF [0] 3 (oX (er (aW (mn (aL (aq [0] (aW (dE bo 0 (aL (aq [0] (aW (a7 eC (af 1) (aQ (.int 1))))) tN)))) (aL (aq [0] (af 1)) (aL (aq [0] (aW (dE bo 0 (aL (aq [0] (aW (a7 eC (aW (fj pe (bK (af 1) (bK (aQ (.int 4)) eD)))) (aQ (.int 1))))) tN)))) tN))))) (aW (dE bo 0 (aL (aq [0] (aQ (.int 3))) tN)))))) (bX (dF [0] 4 (oX (er (aW (mn (aL (aq [0] (aQ (.int 3))) (aL (aq [0] (aQ (.int 9))) (aL (aq [0] (aQ (.int 41))) (aL (aq [0] (aQ (.int 1001))) (aL (aq [0] (aW (a7 il (aW (a7 kF (aQ (.int 2)) (aW (a7 qF (aQ (.int 10)) (aQ (.int 15)))))) (aQ (.int 1))))) tN))))))) (aW (dE bo 0 (aL (aq [0] (aQ (.int 5))) tN)))))) (bX (dF [0] 5 (dE bo 0 (aL (aq [0] (aQ (.int 5))) tN))) (bX (dF [0] 6 (mn tN)) (bX (dj (v8 (bK (af 3) eD)) (eR 7) (bX (dF [0] 8 (gD [0] [none,some 0,some 4] 0 1 (v8 (bK (af 2) eD)) (eR 0) cO (aq [1] (aW (a7 il (aW (dE bo 1 (aL (aq [1] (af 2)) tN))) (aW (a7 gQ (af 2) (aQ (.int 2))))))))) (bX (cC (aS eqT (af 5) (aQ (.int 1))) (uJ 8 (aQ (.int 0)) (aq [0] (aW (a7 il (aQ (.int 0)) (aW (a7 gQ (af 4) (aQ (.int 2)))))))) gE) (bX (cC (eo (aS eqT (af 5) (aQ (.int 2))) (eo (aS neT (af 6) (aW (mn tN))) (aS SV (aW (dE bo 0 (aL (aq [0] (aQ (.int 3))) tN))) (aQ (.int 0))))) (bX (dF [0] 9 (oX (er (af 6) (aW (dE bo 0 (aL (aq [0] (aW (fj gL (bK (af 6) eD)))) tN)))))) (dF [0] 8 (gD [0] [none,some 0] 0 1 (cv (aq [0] (af 9))) (eR 0) cO (aq [1] (aW (fj mZ (bK (aW (a7 il (aQ (.int 1)) (aW (a7 qF (aQ (.int 10)) (aQ (.int 15)))))) (bK (aW (fj pe (bK (aW (a7 il (aW (a7 qF (aQ (.int 10)) (aQ (.int 15)))) (aQ (.int 1)))) (bK (aW (a7 il (aW (a7 eC (af 0) (aW (dE bo 1 (aL (aq [1] (aQ (.int 3))) tN))))) (aQ (.int 1)))) eD)))) eD)))))))) gE) (bX (cC (eo (aS eqT (af 5) (aQ (.int 3))) (eo (aS neT (af 6) (aW (mn tN))) (aS eqT (aW (dE bo 0 (aL (aq [0] (aQ (.int 4))) tN))) (aQ (.int 0))))) (dF [0] 8 (fj xx (bK (er (af 6) (aW (dE bo 0 (aL (aq [0] (aW (fj gL (bK (af 6) eD)))) tN)))) eD))) gE) (pH (zh (af 6) (aq [0] (aW (fj nN (bK (af 8) eD))))))))))) (dN [0] (oX (af 6)))))))))
theorem UU(E:Gl G){bo:kY}(cc:gG G k "_law_take" bo):dC G k ⟨zR,(ah jr).names,[0],false,false,false,λ_ _=>False⟩ (ax jr) (Et bo):=(az (bH 2 (dA av (aY (bq cc (ag 0) (ai (aI av) aB))))) (az (bH 3 (eA (b7 (aY (cR (ai (aI (aY (bq cc (ag 0) (ai (aI (aY (dA (ag 1) av))) aB)))) (ai (aI (ag 1)) (ai (aI (aY (bq cc (ag 0) (ai (aI (aY (dA (aY (c9 vH E.z_min (aM (ag 1) (aM av bD)) (by decide +kernel))) av))) aB)))) aB))))) (aY (bq cc (ag 0) (ai (aI av) aB)))))) (az (bH 4 (eA (b7 (aY (cR (ai (aI av) (ai (aI av) (ai (aI av) (ai (aI av) (ai (aI (aY (eY (aY (jf av (aY (nr av av)))) av))) aB))))))) (aY (bq cc (ag 0) (ai (aI av) aB)))))) (az (bH 5 (bq cc (ag 0) (ai (aI av) aB))) (az (bH 6 (cR aB)) (az (fZ (qt (aM (ag 3) bD) E.z_range) (a9 7 (hn:=by first|decide|exact of_decide_eq_true rfl)) (az (uF 8 0 1 (N':=["at","reel","wide"]) (qt (aM (ag 2) bD) E.z_range) ⟨rfl,by walk_at "6",by walk_at "6",by walk_at "6",by walk_at "6",rfl,by walk_at "6"⟩ (a9 0 (hn:=by first|decide|exact of_decide_eq_true rfl)) eG (aI (aY (eY (aY (bq cc (ag 1) (ai (aI (ag 2)) aB))) (aY (eJ (ag 2) av)))))) (az (cS (aV iD (ag 5) av) (aE (v9 8 (aI (aY (eY av (aY (eJ (ag 4) av))))) av (ag 8))) bO) (az (cS (xI (pA (aV iD (ag 5) av) (pA (aV km (ag 6) (aY (cR aB))) (qH (aV FW (aY (bq cc (ag 0) (ai (aI av) aB))) av))))) (az (bH 9 (eA (b7 (ag 6) (aY (bq cc (ag 0) (ai (aI (aY (c9 f_len E.z_len (aM (ag 6) bD) (by decide +kernel)))) aB)))))) (aE (uF 8 0 1 (N':=["number","reel"]) (d5 (aI (ag 9))) ⟨rfl,by walk_at "6",by walk_at "6",by walk_at "6",by walk_at "6",rfl,by walk_at "6"⟩ (a9 0 (hn:=by first|decide|exact of_decide_eq_true rfl)) eG (aI (aY (c9 qe E.z_max (aM (aY (eY av (aY (nr av av)))) (aM (aY (c9 vH E.z_min (aM (aY (eY (aY (nr av av)) av)) (aM (aY (eY (aY (dA (ag 0) (aY (bq cc (ag 1) (ai (aI av) aB))))) av)) bD)) (by decide +kernel))) bD)) (by decide +kernel))))))) bO) (az (cS (xI (pA (aV iD (ag 5) av) (pA (aV km (ag 6) (aY (cR aB))) (qH (aV iD (aY (bq cc (ag 0) (ai (aI av) aB))) av))))) (aE (bH 8 (D1 f_list E.z_list (aM (b7 (ag 6) (aY (bq cc (ag 0) (ai (aI (aY (c9 f_len E.z_len (aM (ag 6) bD) (by decide +kernel)))) aB)))) bD) (by decide +kernel)))) bO) (aE (cH (nj (ag 6) (aI (aY (D1 wX E.z_tuple (aM (ag 8) bD) (by decide +kernel)))))))))))) (aE (bf (eA (ag 6))))))))))
abbrev jI:Stmt:=top 42
abbrev Ag:List Str:=["way","one","other","apart"]
theorem Q9:aH Ag ["way","one","other"] (ah jI):=by walk_at "5"
def J9:cu:=(bX (dF [] 3 (di [] [none,none] (Ij (aL (aq [] (af 1)) (aL (aq [] (af 2)) tN))) (Ca 2 (gC (eR 0) (gC (eR 1) B9))) cO (aq [] (aW (fj yc (bK (aW (a7 il (af 0) (af 1))) eD)))))) (bX (cC (aS eqT (af 0) (aQ (.str "streets"))) (dN [] (fj sumF (bK (af 3) eD))) gE) (dN [] (fj sumF (bK (aW (di [] [none] (cv (aq [] (af 3))) (eR 0) cO (aq [] (aW (a7 kF (af 0) (af 0)))))) eD)))))
theorem Va(E:Gl G):dC G k ⟨Ag,(ah jI).names,[],false,false,false,λ_ _=>False⟩ (ax jI) (J9):=(az (D9 3 (N':=["a","b"]) (JR (ai (aI (ag 1)) (ai (aI (ag 2)) aB)) E.z_zip) ⟨rfl,by walk_at "6",by walk_at "6",by walk_at "6",by walk_at "6",rfl,by walk_at "6"⟩ (k7 (bS (a9 0 (hn:=by first|decide|exact of_decide_eq_true rfl)) (bS (a9 1 (hn:=by first|decide|exact of_decide_eq_true rfl)) fO))) eG (aI (aY (c9 BP E.z_abs (aM (aY (eY (ag 0) (ag 1))) bD) (by decide +kernel))))) (az (cS (aV iD (ag 0) ux) (aE (bf (c9 wW E.z_sum (aM (ag 3) bD) (by decide +kernel)))) bO) (aE (bf (c9 wW E.z_sum (aM (aY (d9 (N':=["number"]) (d5 (aI (ag 3))) ⟨rfl,by walk_at "6",by walk_at "6",by walk_at "6",by walk_at "6",rfl,by walk_at "6"⟩ (a9 0 (hn:=by first|decide|exact of_decide_eq_true rfl)) eG (aI (aY (jf (ag 0) (ag 0)))))) bD) (by decide +kernel))))))
abbrev jA:Stmt:=top 43
abbrev zZ:List Str:=["points","way","found","j","other"]
theorem QX:aH zZ ["points","way"] (ah jA):=by walk_at "5"
def EC(rM:bA):cu:=(bX (dF [] 2 (mn tN)) (bX (dj (kR (aL (aq [] (af 0)) tN)) (Ca 2 (gC (eR 3) (gC (eR 4) B9))) (pH (RT (af 2) (di [] [none,some 3,some 1,some 4,some 0] (v8 (bK (af 3) eD)) (eR 0) cO (aq [] (El (aL (aq [] (aW (dJ rM (aL (aq [] (af 2)) (aL (aq [] (er (af 4) (af 0))) (aL (aq [] (af 3)) tN)))))) (aL (aq [] (af 0)) (aL (aq [] (af 1)) tN))))))))) (dN [] (fj mj (bK (af 2) eD)))))
theorem U2(E:Gl G){rM:bA}(CA:cy G k "_law_far" rM):dC G k ⟨zZ,(ah jA).names,[],false,false,false,λ_ _=>False⟩ (ax jA) (EC rM):=(az (bH 2 (cR aB)) (az (fZ (lU (ai (aI (ag 0)) aB) E.z_enumerate) (k7 (bS (a9 3 (hn:=by first|decide|exact of_decide_eq_true rfl)) (bS (a9 4 (hn:=by first|decide|exact of_decide_eq_true rfl)) fO))) (aE (cH (D3 (ag 2) (d9 (N':=["i","j","way","other","points"]) (qt (aM (ag 3) bD) E.z_range) ⟨rfl,by walk_at "6",by walk_at "6",by walk_at "6",by walk_at "6",rfl,by walk_at "6"⟩ (a9 0 (hn:=by first|decide|exact of_decide_eq_true rfl)) eG (aI (lg (ai (aI (aY (aO CA (ai (aI (ag 2)) (ai (aI (b7 (ag 4) (ag 0))) (ai (aI (ag 3)) aB)))))) (ai (aI (ag 0)) (ai (aI (ag 1)) aB)))))))))) (aE (bf (c9 B4 E.z_sorted (aM (ag 2) bD) (by decide +kernel))))))
abbrev qN:Stmt:=top 44
abbrev Kl:List Str:=["reel","pairs","way","near","far","some"]
theorem XN:aH Kl ["reel","pairs","way"] (ah qN):=by walk_at "5"
def Sh(bo:kY):cu:=(bX (dF [0] 3 (oX (er (aW (a7 eC (aW (di [0] [none] (cv (aq [0] (aW (Ii (af 1) YV (YW (aQ (.int 1))))))) (eR 0) cO (aq [] (er (af 0) (aQ (.int 0)))))) (aW (mn (aL (aq [0] (aQ (.int 9))) tN))))) (aQ (.int 0))))) (bX (dF [0] 4 (oX (er (er (aW (a7 eC (aW (mn (aL (aq [0] (El (aL (aq [0] (aQ (.int 9))) (aL (aq [0] (aQ (.int 0))) (aL (aq [0] (aQ (.int 1))) tN))))) tN))) (af 1))) (aW (dE bo 0 (aL (aq [0] (aW (a7 eC (aW (fj gL (bK (af 1) eD))) (aQ (.int 1))))) tN)))) (aQ (.int 0))))) (bX (dF [0] 5 (mn (aL (aq [0] (aQ (.int 1))) (aL (aq [0] (aQ (.int 2))) (aL (aq [0] (aW (a7 eC (aQ (.int 1)) (aW (dE bo 0 (aL (aq [0] (aQ (.int 12))) tN)))))) (aL (aq [0] (af 3)) (aL (aq [0] (aW (a7 eC (af 3) (aQ (.int 1))))) (aL (aq [0] (aW (a7 il (af 3) (aQ (.int 1))))) (aL (aq [0] (aW (a7 gQ (af 3) (aQ (.int 2))))) (aL (aq [0] (af 4)) tN)))))))))) (bX (pH (zh (af 5) (aq [0] (er (aW (mn (aL (aq [0] (aW (a7 kF (aQ (.int 9)) (aW (a7 qF (aQ (.int 10)) (aQ (.int 33))))))) (aL (aq [0] (aW (a7 kF (aQ (.int 9)) (aW (a7 qF (aQ (.int 10)) (aQ (.int 9))))))) tN)))) (aW (fj CY (bK (bV (aS eqT (af 2) (aQ (.str "squares")))) eD))))))) (dN [0] (di [0] [none] (cv (aq [0] (af 5))) (eR 0) cO (aq [] (aW (fj mZ (bK (aQ (.int 1)) (bK (aW (fj pe (bK (aW (a7 il (aW (a7 qF (aQ (.int 10)) (aQ (.int 34)))) (aQ (.int 1)))) (bK (af 0) eD)))) eD)))))))))))
theorem Zv(E:Gl G){bo:kY}(cc:gG G k "_law_take" bo):dC G k ⟨Kl,(ah qN).names,[0],false,false,false,λ_ _=>False⟩ (ax qN) (Sh bo):=(az (bH 3 (eA (b7 (aY (dA (aY (d9 (N':=["pair"]) (d5 (aI (aY (J4 (ag 1) DB (DC av))))) ⟨rfl,by walk_at "6",by walk_at "6",by walk_at "6",by walk_at "6",rfl,by walk_at "6"⟩ (a9 0 (hn:=by first|decide|exact of_decide_eq_true rfl)) eG (aI (b7 (ag 0) av)))) (aY (cR (ai (aI av) aB))))) av))) (az (bH 4 (eA (b7 (b7 (aY (dA (aY (cR (ai (aI (lg (ai (aI av) (ai (aI av) (ai (aI av) aB))))) aB))) (ag 1))) (aY (bq cc (ag 0) (ai (aI (aY (dA (aY (c9 f_len E.z_len (aM (ag 1) bD) (by decide +kernel))) av))) aB)))) av))) (az (bH 5 (cR (ai (aI av) (ai (aI av) (ai (aI (aY (dA av (aY (bq cc (ag 0) (ai (aI av) aB)))))) (ai (aI (ag 3)) (ai (aI (aY (dA (ag 3) av))) (ai (aI (aY (eY (ag 3) av))) (ai (aI (aY (eJ (ag 3) av))) (ai (aI (ag 4)) aB)))))))))) (az (cH (nj (ag 5) (aI (b7 (aY (cR (ai (aI (aY (jf av (aY (nr av av))))) (ai (aI (aY (jf av (aY (nr av av))))) aB)))) (aY (D1 f_int E.z_int (aM (fE iD (ag 2) ux) bD) (by decide +kernel))))))) (aE (bf (d9 (N':=["bound"]) (d5 (aI (ag 5))) ⟨rfl,by walk_at "6",by walk_at "6",by walk_at "6",by walk_at "6",rfl,by walk_at "6"⟩ (a9 0 (hn:=by first|decide|exact of_decide_eq_true rfl)) eG (aI (aY (c9 qe E.z_max (aM av (aM (aY (c9 vH E.z_min (aM (aY (eY (aY (nr av av)) av)) (aM (ag 0) bD)) (by decide +kernel))) bD)) (by decide +kernel)))))))))))
abbrev jF:Stmt:=top 45
abbrev Ad:List Str:=["points","way","bound","found","caught","e"]
theorem Q6:aH Ad ["points","way","bound"] (ah jF):=by walk_at "5"
def EK(rn:zJ):cu:=(bX (dF [] 3 (oX (aQ .aX))) (bX (dF [] 4 (oX (aQ .aX))) (bX (R8 XL "NoPaper" 5 (λfM=>(dF [] 3 (RN fM rn (aL (aq [] (af 0)) (aL (aq [] (af 1)) (aL (aq [] (af 2)) tN)))))) (dF [] 4 (oX (af 5)))) (bX (cC (aS vQ (af 4) (aQ .aX)) (dN [] (oX (aQ .aX))) gE) (dN [] (oX (af 3)))))))
theorem U7(E:Gl G){rn:zJ}(Cg:Kf G k "cells_paper" rn):dC G k ⟨Ad,(ah jF).names,[],false,false,false,λ_ _=>False⟩ (ax jF) (EK rn):=(az (bH 3 (eA eh)) (az (bH 4 (eA eh)) (az (XG 5 E.Yj.toXCls ∅ (λfM=>(aE (bH 3 (HJ Cg (ai (aI (ag 0)) (ai (aI (ag 1)) (ai (aI (ag 2)) aB))))))) (aE (bH 4 (eA (ag 5))))) (az (cS (aV sr (ag 4) eh) (aE (bf (eA eh))) bO) (aE (bf (eA (ag 3))))))))
abbrev jJ:Stmt:=top 46
abbrev Ah:List Str:=["points","side","some","cells","cell","place"]
theorem Ra:aH Ah ["points","side"] (ah jJ):=by walk_at "5"
def EY(rL:bA):cu:=(bX (dF [] 2 (fj qW (bK (aW (di [] [none,none,some 1] (kR (aL (aq [] (af 0)) tN)) (Ca 2 (gC (eR 0) (gC (eR 1) B9))) cO (aq [] (El (aL (aq [] (aW (dJ rL (aL (aq [] (af 1)) (aL (aq [] (af 2)) tN))))) (aL (aq [] (af 0)) tN)))))) eD))) (bX (dF [] 3 RO) (bX (dj (cv (aq [] (af 2))) (Ca 2 (gC (eR 4) (gC (eR 5) B9))) (bX (cC (wo [3] (lN (aS eqT (af 3) (aW (mn tN))) (aS neT (er (er (af 3) (RX (aQ (.int 1)))) (aQ (.int 0))) (af 4)))) (tCA 3 (aq [] (af 4))) gE) (tCP 3 (aq [] (af 5))))) (dN [] (oX (El (aL (aq [] (af 1)) (aL (RP 3) tN))))))))
theorem Vb(E:Gl G){rL:bA}(Cz:cy G k "cell_of" rL):dC G k ⟨Ah,(ah jJ).names,[],false,false,false,λ_ _=>False⟩ (ax jJ) (EY rL):=(az (bH 2 (c9 Gn E.z_sorted (aM (aY (d9 (N':=["place","point","side"]) (lU (ai (aI (ag 0)) aB) E.z_enumerate) ⟨rfl,by walk_at "6",by walk_at "6",by walk_at "6",by walk_at "6",rfl,by walk_at "6"⟩ (k7 (bS (a9 0 (hn:=by first|decide|exact of_decide_eq_true rfl)) (bS (a9 1 (hn:=by first|decide|exact of_decide_eq_true rfl)) fO))) eG (aI (lg (ai (aI (aY (aO Cz (ai (aI (ag 1)) (ai (aI (ag 2)) aB))))) (ai (aI (ag 0)) aB)))))) bD) (by decide +kernel))) (az (bH 3 HK) (az (fZ (d5 (aI (ag 2))) (k7 (bS (a9 4 (hn:=by first|decide|exact of_decide_eq_true rfl)) (bS (a9 5 (hn:=by first|decide|exact of_decide_eq_true rfl)) fO))) (az (cS (HL [3] (xI (og (aV iD (ag 3) (aY (cR aB))) (gS (aV km (b7 (b7 (ag 3) (J0 av)) av) (ag 4)))))) (aE (HU 3 (aI (ag 4)))) bO) (aE (HV 3 (J0 av) (λσ Q h=>h) av (λσ Q h=>h) (aI (ag 5)))))) (aE (bf (eA (lg (ai (aI (ag 1)) (ai (XA 3) aB)))))))))
abbrev jB:Stmt:=top 47
abbrev z9:List Str:=["reel","points","way","bound","most","paper","wider","some","lesser","less"]
theorem QY:aH z9 ["reel","points","way","bound","most"] (ah jB):=by walk_at "5"
def EE(nD:bA)(nC:bA)(kM:bA)(bo:kY)(rC:bA):cu:=(bX (dF [0] 5 (dJ nD (aL (aq [0] (af 1)) (aL (aq [0] (af 2)) (aL (aq [0] (af 3)) tN))))) (bX (cC (aS neT (bV (aS S9 (af 5) (aQ .aX))) (bV (eo (dB (bV (aS vQ (af 4) (aQ .aX)))) (dB (bV (aS SV (af 3) (af 4))))))) (dN [0] (oX (aQ (.bl false)))) gE) (bX (cC (aS S9 (af 5) (aQ .aX)) (dN [0] (oX (bV (dM (dB (aW (dJ nC (aL (aq [0] (af 1)) (aL (aq [0] (af 2)) (aL (aq [0] (af 3)) (aL (aq [0] (aW (dJ kM (aL (aq [0] (af 1)) (aL (aq [0] (aW (a7 eC (af 3) (aW (dE bo 0 (aL (aq [0] (aQ (.int 100))) tN)))))) tN))))) tN))))))))))) gE) (bX (cC (lN (aS neT (af 5) (aW (dJ kM (aL (aq [0] (af 1)) (aL (aq [0] (er (af 5) (aQ (.int 0)))) tN))))) (aS neT (aW (dJ rC (aL (aq [0] (af 1)) (aL (aq [0] (af 2)) (aL (aq [0] (aW (a7 il (af 3) (aQ (.int 1))))) tN))))) (aW (mn tN)))) (dN [0] (oX (aQ (.bl false)))) gE) (bX (dF [0] 6 (dJ kM (aL (aq [0] (af 1)) (aL (aq [0] (aW (a7 eC (aW (a7 eC (er (af 5) (aQ (.int 0))) (aQ (.int 1)))) (aW (dE bo 0 (aL (aq [0] (aQ (.int 100))) tN)))))) tN)))) (bX (dj (cv (aq [0] (aW (mn (aL (aq [0] (af 5)) (aL (aq [0] (af 6)) tN)))))) (eR 7) (dj (cv (aq [0] (aW (mn (aL (aq [0] (af 3)) (aL (aq [0] (aW (fj mZ (bK (aQ (.int 1)) (bK (aW (a7 gQ (af 3) (aQ (.int 2)))) eD))))) (aL (aq [0] (aQ (.int 1))) tN))))))) (eR 8) (cC (aS GY (aW (dJ nC (aL (aq [0] (af 1)) (aL (aq [0] (af 2)) (aL (aq [0] (af 8)) (aL (aq [0] (af 7)) tN)))))) (aQ (.bl true))) (dN [0] (oX (aQ (.bl false)))) gE))) (bX (dF [0] 9 (dJ nD (aL (aq [0] (af 1)) (aL (aq [0] (af 2)) (aL (aq [0] (aW (fj mZ (bK (aQ (.int 1)) (bK (aW (a7 il (af 3) (aQ (.int 1)))) eD))))) tN))))) (dN [0] (oX (bV (eo (dB (bV (aS vQ (af 9) (aQ .aX)))) (dB (bV (aS YG (er (af 9) (aQ (.int 0))) (er (af 5) (aQ (.int 0)))))))))))))))))
theorem U3(E:Gl G){nD:bA}(w8:cy G k "_law_told" nD){nC:bA}(wZ:cy G k "cells_show" nC){kM:bA}(tM:cy G k "_law_by" kM){bo:kY}(cc:gG G k "_law_take" bo){rC:bA}(Cp:cy G k "near_pairs" rC):dC G k ⟨z9,(ah jB).names,[0],false,false,false,λ_ _=>False⟩ (ax jB) (EE nD nC kM bo rC):=(az (bH 5 (aO w8 (ai (aI (ag 1)) (ai (aI (ag 2)) (ai (aI (ag 3)) aB))))) (az (cS (aV km (fE FX (ag 5) eh) (yW (v_and (ip (fE sr (ag 4) eh)) (pJ (ip (fE FW (ag 3) (ag 4))))))) (aE (bf (eA je))) bO) (az (cS (aV FX (ag 5) eh) (aE (bf (eA (D5 (ip (aY (aO wZ (ai (aI (ag 1)) (ai (aI (ag 2)) (ai (aI (ag 3)) (ai (aI (aY (aO tM (ai (aI (ag 1)) (ai (aI (aY (dA (ag 3) (aY (bq cc (ag 0) (ai (aI av) aB)))))) aB))))) aB))))))))))) bO) (az (cS (xI (og (aV km (ag 5) (aY (aO tM (ai (aI (ag 1)) (ai (aI (b7 (ag 5) av)) aB))))) (gS (aV km (aY (aO Cp (ai (aI (ag 1)) (ai (aI (ag 2)) (ai (aI (aY (eY (ag 3) av))) aB))))) (aY (cR aB)))))) (aE (bf (eA je))) bO) (az (bH 6 (aO tM (ai (aI (ag 1)) (ai (aI (aY (dA (aY (dA (b7 (ag 5) av) av)) (aY (bq cc (ag 0) (ai (aI av) aB)))))) aB)))) (az (fZ (d5 (aI (aY (cR (ai (aI (ag 5)) (ai (aI (ag 6)) aB)))))) (a9 7 (hn:=by first|decide|exact of_decide_eq_true rfl)) (aE (fZ (d5 (aI (aY (cR (ai (aI (ag 3)) (ai (aI (aY (c9 qe E.z_max (aM av (aM (aY (eJ (ag 3) av)) bD)) (by decide +kernel)))) (ai (aI av) aB))))))) (a9 8 (hn:=by first|decide|exact of_decide_eq_true rfl)) (aE (cS (aV K7 (aY (aO wZ (ai (aI (ag 1)) (ai (aI (ag 2)) (ai (aI (ag 8)) (ai (aI (ag 7)) aB)))))) je) (aE (bf (eA je))) bO))))) (az (bH 9 (aO w8 (ai (aI (ag 1)) (ai (aI (ag 2)) (ai (aI (aY (c9 qe E.z_max (aM av (aM (aY (eY (ag 3) av)) bD)) (by decide +kernel)))) aB))))) (aE (bf (eA (yW (v_and (ip (fE sr (ag 9) eh)) (pJ (ip (fE Uj (b7 (ag 9) av) (b7 (ag 5) av))))))))))))))))
abbrev fF:Stmt:=top 48
abbrev Ai:List Str:=["script","k","cell","reel","points","way","most","two","bound"]
theorem Rb:aH Ai ["script"] (ah fF):=by walk_at "5"
def EZ(rJ:bA)(rq:kY)(bo:kY)(xS:bA)(dc:bA)(xR:kY)(rF:bA)(rG:kY):cu:=(bX (dj (kR (aL (aq [] (aW (a7 eC (aW (Ii (af 0) YV (YW (aQ (.int 3))))) (aW (mn (aL (aq [] (aW (fj gL (bK (af 0) eD)))) tN)))))) tN)) (Ca 2 (gC (eR 1) (gC (eR 2) B9))) (bX (dF [] 3 (dJ rJ (aL (aq [] (af 2)) tN))) (bX (dF [] 4 (dE rq 3 (aL (aq [] (er (aW (mn (aL (aq [] (aQ (.int 20))) (aL (aq [] (aQ (.int 40))) tN)))) (aW (fj CY (bK (bV (eo (dB (bV (aS eqT (af 1) (aQ (.int 0))))) (dB (bV (aS eqT (aW (dE bo 3 (aL (aq [] (aQ (.int 8))) tN))) (aQ (.int 0))))))) eD))))) tN))) (bX (dF [] 5 (oX (er (aW (mn (aL (aq [] (aQ (.str "streets"))) (aL (aq [] (aQ (.str "squares"))) tN)))) (aW (dE bo 3 (aL (aq [] (aQ (.int 2))) tN)))))) (bX (dF [] 6 (dJ xS (aL (aq [] (af 4)) (aL (aq [] (af 5)) tN)))) (bX (dF [] 7 (dJ dc (aL (aq [] (af 4)) (aL (aq [] (af 5)) tN)))) (bX (cC (aS neT (af 6) (RU (lN (aS S9 (af 7) (aQ .aX)) (aS eqT (er (af 7) (aQ (.int 0))) (aQ (.int 0)))) (aQ .aX) (er (af 7) (aQ (.int 0))))) (dN [] (oX (aQ (.bl false)))) gE) (bX (cC (eo (aS vQ (af 7) (aQ .aX)) (aS eqT (er (af 7) (aQ (.int 0))) (aQ (.int 0)))) (dF [] 6 (oX (aQ (.int 0)))) gE) (dj (cv (aq [] (aW (dE xR 3 (aL (aq [] (aW (dJ rF (aL (aq [] (af 4)) (aL (aq [] (af 5)) tN))))) (aL (aq [] (af 5)) tN)))))) (eR 8) (cC (dM (kS (aW (dE rG 3 (aL (aq [] (af 4)) (aL (aq [] (af 5)) (aL (aq [] (af 8)) (aL (aq [] (af 6)) tN)))))))) (dN [] (oX (aQ (.bl false)))) gE)))))))))) (dN [] (oX (aQ (.bl true)))))
theorem Vd(E:Gl G){rJ:bA}(Cw:cy G k "_law_reel" rJ){rq:kY}(Cj:gG G k "_law_points" rq){bo:kY}(cc:gG G k "_law_take" bo){xS:bA}(MU:cy G k "greatest_bound" xS){dc:bA}(iT:cy G k "nearest_two" dc){xR:kY}(MT:gG G k "_law_some_bounds" xR){rF:bA}(Ct:cy G k "_law_pairs" rF){rG:kY}(Cu:gG G k "_law_right" rG):dC G k ⟨Ai,(ah fF).names,[],false,false,false,λ_ _=>False⟩ (ax fF) (EZ rJ rq bo xS dc xR rF rG):=(az (fZ (lU (ai (aI (aY (dA (aY (J4 (ag 0) DB (DC av))) (aY (cR (ai (aI (aY (c9 f_len E.z_len (aM (ag 0) bD) (by decide +kernel)))) aB)))))) aB) E.z_enumerate) (k7 (bS (a9 1 (hn:=by first|decide|exact of_decide_eq_true rfl)) (bS (a9 2 (hn:=by first|decide|exact of_decide_eq_true rfl)) fO))) (az (bH 3 (aO Cw (ai (aI (ag 2)) aB))) (az (bH 4 (bq Cj (ag 3) (ai (aI (b7 (aY (cR (ai (aI av) (ai (aI av) aB)))) (aY (D1 f_int E.z_int (aM (yW (v_and (ip (fE iD (ag 1) av)) (pJ (ip (fE iD (aY (bq cc (ag 3) (ai (aI av) aB))) av))))) bD) (by decide +kernel))))) aB))) (az (bH 5 (eA (b7 (aY (cR (ai (aI ux) (ai (aI ux) aB)))) (aY (bq cc (ag 3) (ai (aI av) aB)))))) (az (bH 6 (aO MU (ai (aI (ag 4)) (ai (aI (ag 5)) aB)))) (az (bH 7 (aO iT (ai (aI (ag 4)) (ai (aI (ag 5)) aB)))) (az (cS (aV km (ag 6) (XB (xI (og (aV FX (ag 7) eh) (gS (aV iD (b7 (ag 7) av) av)))) eh (b7 (ag 7) av))) (aE (bf (eA je))) bO) (az (cS (xI (pA (aV sr (ag 7) eh) (qH (aV iD (b7 (ag 7) av) av)))) (aE (bH 6 (eA av))) bO) (aE (fZ (d5 (aI (aY (bq MT (ag 3) (ai (aI (aY (aO Ct (ai (aI (ag 4)) (ai (aI (ag 5)) aB))))) (ai (aI (ag 5)) aB)))))) (a9 8 (hn:=by first|decide|exact of_decide_eq_true rfl)) (aE (cS (fv (eO (aY (bq Cu (ag 3) (ai (aI (ag 4)) (ai (aI (ag 5)) (ai (aI (ag 8)) (ai (aI (ag 6)) aB)))))))) (aE (bf (eA je))) bO)))))))))))) (aE (bf (eA je))))
end
section
local macro_rules|`(tactic| walk_at "vx")=>`(tactic| ((try simp only[aP,bz,List.map_cons,List.map_nil,List.length_cons,List.length_nil,List.replicate_succ,List.replicate_zero,List.cons_append,List.nil_append,Nat.reduceAdd,Nat.reduceSub]);(try dsimp only[bX,Vc.RU,gE,wq,cC,pH,dN,dF,YS,zh,K5,tP,aW,oX,fzV,oxV,Fb,uP,aq,af,aQ,fh,lE,a7,eC,il,kF,qy,qF,Nf,GU,RX,aS,bV,eqT,neT,Ng,Fz,YG,SV,SU,isNone,S9,vQ,GY,Sv,kS,eo,lN,dM,dB,er,YV,YW,tN,aL,mn,El,eD,bK,fj,gL,yc,mZ,pe,CY,xx,nN,bE,dJ,eR,B9,gC,Ca,cv,v8,HN,dj,cO,di,tJ,dw,lb,slA,Ii,RN,tRz,R8,X5,Ij,kR,mj,gQ,Vc.V8,Vc.V9,Vc.Ni,Vc.Nj,vO,bz,C3,uJ,dE,gD,ownAt,RT,Gm,sumF,Yh,kP,Nh,rT,RW,Am,Ek,RZ,tTz,wu,RV,G9,qW,wo,gR,tU,xv,List.contains,List.elem,Nat.reduceBEq,Option.map_some,Uo,RO,tCA,tCP,RP,aP,List.getElem?_cons_zero,List.getElem?_cons_succ,List.getElem?_nil,List.set_cons_zero,List.set_cons_succ,List.map_cons,List.map_nil,List.length_cons,List.length_nil,List.replicate_succ,List.replicate_zero,List.cons_append,List.nil_append,Nat.reduceAdd,Nat.reduceSub]);try simp only[List.append_nil,Nat.add_sub_cancel,Nat.zero_add,List.not_mem_nil,not_false_eq_true,true_and,and_true,decide_eq_true_eq,ite_true,ite_false,Bool.not_eq_true',decide_eq_false_iff_not,List.getElem?_cons_zero,List.getElem?_cons_succ]))
local macro_rules | `(tactic| symm) => `(tactic| walk_at "vx")
local macro_rules|`(tactic| walk_at "vc")=>`(tactic| repeat (refine And.intro (by first|assumption|decide|omega | (unfold lx;omega) | (unfold YZ;omega) | (unfold nU;omega)) ?_))
local macro_rules|`(tactic| walk_at "vg")=>`(tactic| simp only[eR,Ca,gC,B9,List.length_cons,List.length_nil,Nat.reduceAdd,Nat.zero_add,true_and,List.set_cons_zero,List.set_cons_succ,Int.zero_add])
local macro_rules|`(tactic| walk_at "vd")=>`(tactic| symm)
variable [KF]
theorem Gd{α β:Type}(f:α->β)(xs:List α)(lo hi:Option Int):cut (xs.map f) lo hi=(cut xs lo hi).map f:=by
 unfold cut;rw[List.length_map,List.map_take,List.map_drop]
theorem Gb{α:Type}(xs:List α)(lo hi:Option Int):(cut xs lo hi).length<=xs.length:=by
 unfold cut;rw[List.length_take,List.length_drop];omega
def aaO(b:Bool):Str:=if b=true then "squares" else "streets"
def cI(b:Bool):D:=.str (aaO b)
def bQ(p:List Int):D:=.tup (p.map D.int)
def Bd(p:List Int):Prop:=p.length<=3/\∀x∈p,-(2^60)<x/\x<2^60
def pQ(x:Int):Int:=if x<0 then -x else x
def stepI(b:Bool)(x y:Int):Int:=if b=true then pQ (x-y)*pQ (x-y)else pQ (x-y)
def fN(b:Bool)(p q:List Int):Int:=((p.zip q).map λxy=>stepI b xy.1 xy.2).sum
def ie:bA:=λds Q=>∃b p q,ds=[cI b,bQ p,bQ q]/\Bd p/\Bd q/\Q (.sh (.int (fN b p q)))
theorem rY(b:Bool):bG 8 (cI b)=true:=by cases b<;>decide +kernel
theorem cG:bG 8 (.str "streets")=true:=by decide +kernel
theorem ft:bG 8 (.str "squares")=true:=by decide +kernel
theorem lq(b:Bool):fD (cI b) (.str "streets")=!b:=by cases b<;>decide +kernel
theorem uR(b:Bool):fD (cI b) (.str "squares")=b:=by cases b<;>decide +kernel
theorem sz:sizeLine=2^24:=rfl
theorem xZ{p q:List Int}(h:Bd p):(p.zip q).length<=3:=by
 rw[List.length_zip];have:=h.1;omega
theorem wJ{α:Type}(l:List α)(f:α->Int):(l.map λa=>D.int (f a)).all isInt=true:=by
 rw[List.all_map];exact List.all_eq_true.mpr λ_ _=>rfl
theorem ua{α:Type}(l:List α)(f:α->Int):(l.map λa=>D.int (f a)).map g9=l.map f:=by
 rw[List.map_map];rfl
theorem JV(ds:List D)(Q:B->Prop)(h:ie ds Q):Eo {nx:=λ_=>Q (.sh .aX),rt:=λb _=>Q b} (aP zN.length ds):=by
 obtain⟨b,p,q,rfl,hp,hq,h⟩:=h;unfold Eo bQ;symm;rw[Fj];refine dk (λp=>.tup [.int p.1,.int p.2]) (λxy:Int×Int=>D.int (pQ (xy.1-xy.2))) _ (λxy hxy A ha=>?_) (by have:=xZ (q:=q) hp;rw[sz];omega) ?_
 ·symm
  exact ha
 ·symm
  rw[lq];refine⟨⟨rY b,cG⟩,?_⟩;cases b with
  | false =>
   refine(if_pos rfl).mpr ?_;refine⟨wJ _ _,?_⟩;rw[ua];exact h
  | true =>
   refine(if_neg ∅).mpr ?_
   rw[show(List.map (λxy:Int×Int=>D.int (pQ (xy.1-xy.2))) (p.zip q))=(List.map (λxy:Int×Int=>(pQ (xy.1-xy.2))) (p.zip q)).map D.int from by rw[List.map_map];rfl]
   refine dk D.int (λd:Int=>D.int (d*d)) _ (λd hd A ha=>?_) (by have:=xZ (q:=q) hp;rw[sz,List.length_map];omega) ?_
   ·symm
    refine⟨?_,ha⟩;obtain⟨xy,hxy,rfl⟩:=List.mem_map.mp hd;have h1:=hp.2 _ (List.of_mem_zip hxy).1;have h2:=hq.2 _ (List.of_mem_zip hxy).2;unfold lx pQ;left
    split<;>omega
   ·symm
    refine⟨wJ _ _,?_⟩;rw[ua,List.map_map];exact h
def Good(n:Nat)(pts:List (List Int)):Prop:=(1<=n/\n<=3)/\∀p∈pts,p.length=n/\∀x∈p,-(2^59)<x/\x<2^59
theorem Good.bd{n:Nat}{pts:List (List Int)}(g:Good n pts){p:List Int}(h:p∈pts):Bd p:=⟨by have:=(g.2 p h).1;have:=g.1.2;omega,λx hx=>by have:=(g.2 p h).2 x hx;omega⟩
theorem kI{n i a:Nat}(h:(List.range n)[i]?=some a):a=i/\i<n:=by
 have hi:i<n:=by
  have:=(List.getElem?_eq_some_iff.mp h).1
  rwa [List.length_range]at this
 rw[List.getElem?_range hi]at h;cases h;exact⟨rfl,hi⟩
theorem Pu(ds:List D)(Q:B->Prop)(h:ie ds Q):J9 {nx:=λ_=>Q (.sh .aX),rt:=λb _=>Q b} (aP Ag.length ds):=JV ds Q h
def dS(pts:List (List Int)):D:=.lst (pts.map bQ)
theorem gu{pts:List (List Int)}{j:Nat}(h:j<pts.length):(pts.map bQ)[j]?=some (bQ (pts.getD j [])):=by
 rw[List.getElem?_map,List.getD_eq_getElem?_getD,List.getElem?_eq_getElem h];rfl
theorem getD_mem{pts:List (List Int)}{j:Nat}(h:j<pts.length):pts.getD j []∈pts:=by
 rw[List.getD_eq_getElem?_getD,List.getElem?_eq_getElem h];exact List.getElem_mem h
theorem mK{α:Type}{xs:List α}{i:Nat}{q:Nat×α}(h:(xs.mapIdx λi x=>(i,x))[i]?=some q):q.1=i/\xs[i]?=some q.2:=by
 rw[List.getElem?_mapIdx]at h;cases e:xs[i]? with
 | none=>rw[e]at h;cases h
 | some x=>rw[e]at h;cases h;exact⟨rfl,rfl⟩
def Shape(n:Nat)(pts:List (List Int)):Prop:=(1<=n/\n<=3)/\∀p∈pts,p.length=n
theorem Good.shape{n:Nat}{pts:List (List Int)}(g:Good n pts):Shape n pts:=⟨g.1,λp hp=>(g.2 p hp).1⟩
def kL:bA:=λds Q=>∃c:Int,ds=[.int c]/\1<=c/\c<=3/\Q (.sh .aX)
theorem DA(ds:List D)(Q:B->Prop)(h:kL ds Q):Ez {nx:=λ_=>Q (.sh .aX),rt:=λb _=>Q b} (aP zX.length ds):=by
 obtain⟨c,rfl,h1,h2,h⟩:=h;unfold Ez;symm;rw[if_neg ⋯,if_neg ⋯]
 exact h
def wj:bA:=λds Q=>∃(p:List Int) (c:Int),ds=[bQ p,.int c]/\(p.length:Int)=c/\Q (.sh .aX)
theorem W6(ds:List D)(Q:B->Prop)(h:wj ds Q):Sb {nx:=λ_=>Q (.sh .aX),rt:=λb _=>Q b} (aP Kh.length ds):=by
 obtain⟨p,c,rfl,rfl,h⟩:=h;unfold Sb bQ;symm;rw[List.length_map];refine⟨⟨rfl,rfl⟩,?_⟩;have e:fD (.int (p.length:Nat)) (.int (p.length:Nat))=true:=by simp [fD]
 rw[if_neg (by rw[e];decide)]
 exact h
def ml:bA:=λds Q=>∃n pts,ds=[dS pts]/\Shape n pts/\Q (.sh .aX)
theorem Px(ds:List D)(Q:B->Prop)(h:ml ds Q):Er kL wj {nx:=λ_=>Q (.sh .aX),rt:=λb _=>Q b} (aP zP.length ds):=by
 obtain⟨n,pts,rfl,hg,h⟩:=h;unfold Er dS;symm;refine cX bQ pts (λi σ=>∃x,σ=[some (.sh (.lst (pts.map bQ))),x]) (λi p σ N' hx hI oW=>?_) (λσ hI=>h) ⟨none,rfl⟩;obtain⟨x,rfl⟩:=hI;have hp:=hg.2 p (List.mem_of_getElem? hx);have h1:=hg.1;have h0:0<pts.length:=Nat.lt_of_le_of_lt (Nat.zero_le _) (List.getElem?_eq_some_iff.mp hx).1;have h00:=hg.2 _ (getD_mem h0);walk_at "vg";refine au λN2 mQ=>?_;rw[show bQ p=.tup (p.map D.int)from rfl]
 symm;rw[List.length_map];refine⟨_,rfl,by omega,by omega,?_⟩
 symm;subst mQ;symm;refine dm (n:=0) rfl (gu h0) ?_;rw[show bQ (pts.getD 0 [])=.tup ((pts.getD 0 []).map D.int)from rfl]
 symm;rw[List.length_map];refine⟨p,_,rfl,by rw[hp,h00],?_⟩
 exact oW _ ⟨_,rfl⟩
def rm:bA:=λds Q=>∃b,ds=[cI b]/\Q (.sh .aX)
theorem Py(ds:List D)(Q:B->Prop)(h:rm ds Q):EL {nx:=λ_=>Q (.sh .aX),rt:=λb _=>Q b} (aP Ae.length ds):=by
 obtain⟨b,rfl,h⟩:=h;unfold EL;symm;refine⟨⟨rY b,cG⟩,?_⟩;rw[lq];cases b with
 | false=>exact h
 | true =>
  refine(if_pos rfl).mpr ⟨⟨rY true,ft⟩,?_⟩;rw[uR];exact h
def ig:bA:=λds Q=>∃n b pts,ds=[dS pts,cI b]/\Shape n pts/\Q (.sh .aX)
theorem W8(ds:List D)(Q:B->Prop)(h:ig ds Q):Sg ml rm {nx:=λ_=>Q (.sh .aX),rt:=λb _=>Q b} (aP Kk.length ds):=by
 obtain⟨n,b,pts,rfl,hg,h⟩:=h;unfold Sg;symm;refine⟨n,pts,rfl,hg,?_⟩;symm;exact⟨b,rfl,h⟩
theorem Gk(i:Int):fD (.int i) (.int i)=true:=by simp [fD]
theorem Dv(pts:List (List Int)):bG 8 (.lst (pts.map bQ))=true:=by
 show(pts.map bQ).all (bG 7)=true;rw[List.all_map];refine List.all_eq_true.mpr λp _=>?_;show(p.map D.int).all (bG 6)=true;rw[List.all_map];exact List.all_eq_true.mpr λ_ _=>rfl
theorem ne_nil(pts:List (List Int)):fD (.lst (pts.map bQ)) (.lst [])=decide (pts=[]):=by cases pts<;>rfl
def pairD(b:Bool)(pts:List (List Int))(i j:Nat):D:=.tup [.int (fN b (pts.getD i []) (pts.getD j [])),.int i,.int j]
def ic(b:Bool)(pts:List (List Int))(i m:Nat):List D:=(List.range m).map λt=>pairD b pts i (i+1+t)
def fY(b:Bool)(pts:List (List Int)):Nat->List D
 | 0=>[]
 | i+1=>fY b pts i++ic b pts i (pts.length-(i+1))
def bJ(b:Bool)(pts:List (List Int)):List D:=fY b pts pts.length
theorem uC(b:Bool)(pts:List (List Int))(i m:Nat):(ic b pts i m).length=m:=by unfold ic;rw[List.length_map,List.length_range]
theorem pC(b:Bool)(pts:List (List Int))(i m:Nat):ic b pts i (m+1)=ic b pts i m++[pairD b pts i (i+1+m)]:=by unfold ic;rw[List.range_succ,List.map_append];rfl
theorem pD(b:Bool)(pts:List (List Int)):∀i,(fY b pts i).length<=i*pts.length
 | 0=>Nat.zero_le _
 | i+1=>by
  have ih:=pD b pts i;show(fY b pts i++ic b pts i (pts.length-(i+1))).length<=_;rw[List.length_append,uC,Nat.succ_mul];omega
theorem xJ{b:Bool}{pts:List (List Int)}{i:Nat}(hl:pts.length<=1000)(hi:i<=pts.length):(fY b pts i).length<=1000000:=
 Nat.le_trans (pD b pts i) (Nat.mul_le_mul (show i<=1000 by omega) hl)
theorem ur{b:Bool}{pts:List (List Int)}(hl:pts.length<=1000):(bJ b pts).length<=1000000:=xJ hl (Nat.le_refl _)
theorem uE{b:Bool}{pts:List (List Int)}:∀ {i:Nat} {d:D},d∈fY b pts i->∃p q,p<i/\p<q/\(i<=pts.length->q<pts.length)/\d=pairD b pts p q
 | i+1,d,h=>by
  rcases List.mem_append.mp (show d∈fY b pts i++ic b pts i (pts.length-(i+1))from h)with h|h
  ·obtain⟨p,q,h1,h2,h3,h4⟩:=uE h
   exact⟨p,q,by omega,h2,λz=>h3 ⋯,h4⟩
  ·obtain⟨t,ht,rfl⟩:=List.mem_map.mp h
   have ht:=List.mem_range.mp ht;exact⟨i,i+1+t,by omega,by omega,λz=>by omega,rfl⟩
theorem dX{b:Bool}{pts:List (List Int)}{d:D}(h:d∈bJ b pts):∃p q,p<q/\q<pts.length/\d=pairD b pts p q:=by
 obtain⟨p,q,h1,h2,h3,h4⟩:=uE h;exact⟨p,q,h2,h3 (Nat.le_refl _),h4⟩
theorem fu(b:Bool)(pts:List (List Int)):(bJ b pts).all d6=true:=List.all_eq_true.mpr λd hd=>by
 obtain⟨p,q,_,_,rfl⟩:=dX hd;rfl
def jK:bA:=λds Q=>∃b n pts,ds=[dS pts,cI b]/\Good n pts/\pts.length<=1000/\Q (.own (bJ b pts))
def rV(sp:bA)(rest:cu):cu:=(bX (dF [] 2 (mn tN)) (bX (dj (v8 (bK (aW (fj gL (bK (af 0) eD))) eD)) (eR 3) (dj (HN (bK (aW (a7 eC (af 3) (aQ (.int 1)))) (bK (aW (fj gL (bK (af 0) eD))) eD))) (eR 4) (pH (zh (af 2) (aq [] (El (aL (aq [] (aW (dJ sp (aL (aq [] (af 1)) (aL (aq [] (er (af 0) (af 3))) (aL (aq [] (er (af 0) (af 4))) tN)))))) (aL (aq [] (af 3)) (aL (aq [] (af 4)) tN))))))))) rest))
theorem DE{b:Bool}{n:Nat}{pts:List (List Int)}{rest:cu}{De:iw}(hg:Good n pts)(hl:pts.length<=1000)(h:∀x3 x4,rest De [some (.sh (dS pts)),some (.sh (cI b)),some (.own (bJ b pts)),x3,x4]):
  rV ie rest De [some (.sh (dS pts)),some (.sh (cI b)),none,none,none]:=by
 unfold rV;refine au λN hN=>?_;symm;refine⟨by decide,?_⟩
 subst hN;refine au λN hN=>?_;rw[show dS pts=.lst (pts.map bQ)from rfl]
 symm;rw[List.length_map,Int.toNat_natCast,fX];refine⟨by omega,cX (λi:Nat=>.int (0+(i:Nat))) (List.range pts.length) (λi σ=>∃x3 x4,σ=[some (.sh (.lst (pts.map bQ))),some (.sh (cI b)),some (.own (fY b pts i)),x3,x4]) (λi a σ N' hx hI oW=>?_) (λσ hI=>?_) ⟨none,none,rfl⟩⟩
 ·obtain⟨rfl,hi⟩:=kI hx
  obtain⟨x3,x4,rfl⟩:=hI;walk_at "vg";symm;rw[List.length_map,fX];refine⟨by omega,?_⟩
  rw[show((pts.length:Int)-((a:Int)+1)).toNat=pts.length-(a+1)by omega]
  refine cX (λt:Nat=>.int ((a:Int)+1+(t:Nat))) (List.range (pts.length-(a+1))) (λm σ=>∃x4,σ=[some (.sh (.lst (pts.map bQ))),some (.sh (cI b)),some (.own (fY b pts a++ic b pts a m)),some (.sh (.int a)),x4]) (λm t σ N2 zu ZK mQ=>?_) (λσ ZK=>?_) ⟨x4,by rw[show ic b pts a 0=[]from rfl,List.append_nil]⟩
  ·obtain⟨rfl,ht⟩:=kI zu
   obtain⟨x4,rfl⟩:=ZK;symm;have hj:a+1+t<pts.length:=by omega
   refine⟨⟨_,rfl⟩,?_⟩;refine dm (n:=a) rfl (gu hi) ?_;refine dm (n:=a+1+t) ⋯ (gu hj) ?_
   symm;refine⟨b,_,_,rfl,hg.bd (getD_mem hi),hg.bd (getD_mem hj),?_⟩;symm;have hz:=xJ (b:=b) hl (show a<=pts.length by omega)
   refine⟨by decide,by rw[sz,List.length_append,uC];omega,mQ _ ⟨some (.sh (.int ((a:Int)+1+(t:Int)))),?_⟩⟩
   rw[pC,List.append_assoc];unfold pairD;rw[show((a+1+t:Nat):Int)=(a:Int)+1+(t:Int)by omega]
  ·obtain⟨x4,rfl⟩:=ZK
   rw[List.length_range];exact oW _ ⟨some (.sh (.int a)),x4,rfl⟩
 ·obtain⟨x3,x4,rfl⟩:=hI
  subst hN;rw[List.length_range];exact h x3 x4
theorem Hm(ds:List D)(Q:B->Prop)(h:jK ds Q):Yg ie {nx:=λ_=>Q (.sh .aX),rt:=λb _=>Q b} (aP Km.length ds):=by
 obtain⟨b,n,pts,rfl,hg,hl,h⟩:=h;exact DE hg hl λx3 x4=>by symm;exact h
def cg(xs:List D):Prop:=∃x y:Int,xs=[.int x,.int y]/\0<=x/\0<=y/\y<2147483647
def rN:bA:=λds Q=>∃c:Int,ds=[.int c]/\∀xs,cg xs->Q (.own xs)
theorem Pz(ds:List D)(Q:B->Prop)(h:rN ds Q):EH {nx:=λ_=>Q (.sh .aX),rt:=λb _=>Q b} (aP Ab.length ds):=by
 obtain⟨c,rfl,h⟩:=h;unfold EH;symm;refine⟨by decide,by unfold lx;omega,by decide,by decide,?_⟩
 exact h _ ⟨_,_,rfl,by split<;>omega,by omega,by omega⟩
def gB:kY:=λxs ds Q=>cg xs/\∃m:Int,ds=[.int m]/\1<=m/\m<2^200/\∀r ys,0<=r->r<m->cg ys->Q (.sh (.int r)) ys
theorem PC(xs ds:List D)(Q:B->List D->Prop)(h:gB xs ds Q):EJ {nx:=vO Q (.sh .aX),rt:=λb σ=>vO Q b σ} (bz Ac.length xs ds):=by
 obtain⟨⟨x,y,rfl,hx,hy,hy2⟩,m,rfl,hm,iW,h⟩:=h;unfold EJ;refine au λN hN=>?_;simp only[bz];symm;refine⟨by unfold nU;decide,?_⟩
 split
 ·refine⟨by omega,by unfold gM;omega,⟨_,rfl⟩,?_⟩
  exact h _ _ (Int.emod_nonneg _ ⋯) (Int.emod_lt_of_pos _ ⋯) ⟨_,_,rfl,Int.ediv_nonneg hx ⋯,hy,hy2⟩
 ·subst hN
  refine au λN hN=>?_;symm;refine⟨by unfold lx;omega,by decide,⟨_,rfl⟩,?_⟩
  have hz0:0<=(y*48271+11)%2147483647:=Int.emod_nonneg _ ∅
  have hz1:(y*48271+11)%2147483647<2147483647:=Int.emod_lt_of_pos _ ∅
  generalize (y*48271+11)%2147483647=z at hz0 hz1;subst hN;refine au λN hN=>?_;symm;refine⟨by unfold lx;omega,by decide,?_⟩
  have hs0:0<=z*z%2147483629:=Int.emod_nonneg _ ∅
  have hs1:z*z%2147483629<2147483629:=Int.emod_lt_of_pos _ ∅
  generalize z*z%2147483629=s at hs0 hs1;subst hN;symm;refine⟨by unfold lx;omega,by decide,by unfold gM;decide,by omega,?_⟩
  exact h _ _ (Int.emod_nonneg _ ⋯) (Int.emod_lt_of_pos _ ⋯) ⟨_,_,rfl,hx,hz0,hz1⟩
def ik:kY:=λxs ds Q=>cg xs/\∃m:Nat,ds=[.int m]/\m<=150/\∀pts n ys,Good n pts->pts.length<=m->cg ys->Q (.own (pts.map bQ)) ys
def vh(v:Int):Prop:=-(10^15)<=v/\v<=10^15
theorem qu:∀ds:List D,(∀d∈ds,∃v,d=.int v/\vh v)->∃p:List Int,ds=p.map D.int/\p.length=ds.length/\∀v∈p,vh v
 | [],_=>⟨[],rfl,rfl,λv hv=>by cases hv⟩
 | d::ds,h=>by
  obtain⟨v,rfl,hv⟩:=h d (List.mem_cons_self ..);obtain⟨p,e,hl,hp⟩:=qu ds λx hx=>h x (List.mem_cons_of_mem _ hx);refine⟨v::p,by rw[e];rfl,by simp [hl],λw hw=>?_⟩
  rcases List.mem_cons.mp hw with rfl|hw
  ·exact hv
  ·exact hp w hw
theorem C4{n:Nat}(h:0<n):xm n 0=some 0:=by unfold xm;rw[if_pos ⋯,if_pos ⋯];rfl
theorem yR(xs ds:List D)(Q:B->List D->Prop)(h:ik xs ds Q):Et gB {nx:=vO Q (.sh .aX),rt:=λb σ=>vO Q b σ} (bz zR.length xs ds):=by
 obtain⟨r0,m,rfl,hm,h⟩:=h;unfold Et
 -- count
 refine au λN hN=>?_;symm;refine⟨⟨_,rfl⟩,r0,3,rfl,by decide,by decide,λc x1 c0 c3 r1=>?_⟩
 symm;subst hN
 -- many
 refine au λN hN=>?_;walk_at "vd";refine⟨⟨_,rfl⟩,r1,_,rfl,by omega,by omega,λa1 x2 Zg a11 r2=>?_⟩
 symm;refine⟨⟨_,rfl⟩,r2,_,rfl,by split<;>omega,by split<;>omega,λa2 x3 a20 a21 r3=>?_⟩
 symm;refine⟨by decide,⟨_,rfl⟩,r3,3,rfl,by decide,by decide,λa3 x4 a30 a31 r4=>?_⟩
 symm;refine cF a30 (by simp only[List.length_cons,List.length_nil];omega) λd hd=>?_
 obtain⟨many,rfl,hmn⟩:∃v:Nat,d=.int v/\v<=m:=by
  simp only[List.mem_cons,List.not_mem_nil,or_false]at hd;rcases hd with rfl|rfl|rfl
  ·exact⟨a1.toNat,by rw[Int.toNat_of_nonneg Zg],by omega⟩
  ·exact⟨m,rfl,Nat.le_refl _⟩
  ·exact⟨a2.toNat,by rw[Int.toNat_of_nonneg a20],by split at a21<;>omega⟩
 subst hN
 -- wide
 refine au λN hN=>?_;symm;refine⟨by unfold nU;decide,by unfold lx;decide,by decide,⟨_,rfl⟩,r4,5,rfl,by decide,by decide,λa4 x5 a40 a41 r5=>?_⟩
 symm;refine cF a40 (by simp only[List.length_cons,List.length_nil];omega) λd hd=>?_
 obtain⟨wide,rfl,hw1,hw2⟩:∃v:Int,d=.int v/\3<=v/\v<=2*10^15-1:=by
  simp only[List.mem_cons,List.not_mem_nil,or_false]at hd;rcases hd with rfl|rfl|rfl|rfl|rfl
  ·exact⟨_,rfl,by decide,by decide⟩
  ·exact⟨_,rfl,by decide,by decide⟩
  ·exact⟨_,rfl,by decide,by decide⟩
  ·exact⟨_,rfl,by decide,by decide⟩
  ·exact⟨_,rfl,by decide,by decide⟩
 subst hN
 -- kind
 refine au λN hN=>?_;symm;refine⟨⟨_,rfl⟩,r5,5,rfl,by decide,by decide,λkind x6 _ _ r6=>?_⟩
 symm;subst hN
 -- found
 refine au λN hN=>?_;symm;refine⟨by decide,?_⟩
 subst hN;obtain⟨cnt,SY,hc3,ec⟩:∃n:Nat,1<=n/\n<=3/\1+c=(n:Int):=⟨(1+c).toNat,by omega,by omega,by omega⟩
 rw[ec]
 -- the loop
 refine au λN hN=>?_;show dj _ _ _ _ _;generalize ht:bX (dF [0] 8 _) _=tb;symm;rw[Int.toNat_natCast,fX];refine⟨by omega,cX (λi:Nat=>.int (0+(i:Nat))) (List.range many) (λi σ=>∃x pts k pt b,σ=[some (.own x),some (.sh (.int m)),some (.sh (.int cnt)),some (.sh (.int many)),some (.sh (.int wide)),some (.sh (.int kind)),some (.own (pts.map bQ)),k,pt,b]/\cg x/\pts.length=i/\Good cnt pts/\∀p∈pts,∀v∈p,vh v) (λi a σ N' hx hI oW=>?_) (λσ hI=>?_) ⟨x6,[],none,none,none,rfl,r6,rfl,⟨⟨SY,hc3⟩,λp hp=>by cases hp⟩,λp hp=>by cases hp⟩⟩
 ·obtain⟨rfl,hi⟩:=kI hx
  obtain⟨x,pts,k,pt,b,rfl,rx,hl,hg,hf⟩:=hI;walk_at "vg";subst ht
  -- the last: append
  have last:∀(x:List D) (p:List Int) b,cg x->p.length=cnt->(∀v∈p,vh v)->N' [some (.own x),some (.sh (.int m)),some (.sh (.int cnt)),some (.sh (.int many)),some (.sh (.int wide)),some (.sh (.int kind)),some (.own ((pts++[p]).map bQ)),some (.sh (.int (a:Nat))),some (.sh (.lst (p.map D.int))),b]/\N' [some (.own x),some (.sh (.int m)),some (.sh (.int cnt)),some (.sh (.int many)),some (.sh (.int wide)),some (.sh (.int kind)),some (.own ((pts++[p]).map bQ)),some (.sh (.int (a:Nat))),some (.own (p.map D.int)),b]:=λx p b rx hp hb=>by
   have hg':Good cnt (pts++[p]):=⟨hg.1,λq hq=>by
    rcases List.mem_append.mp hq with hq|hq
    ·exact hg.2 q hq
    ·rw[List.mem_singleton.mp hq]
     exact⟨hp,λv hv=>by have:=hb v hv;unfold vh at this;omega⟩⟩
   have Ys:∀q∈pts++[p],∀v∈q,vh v:=λq hq=>by
    rcases List.mem_append.mp hq with hq|hq
    ·exact hf q hq
    ·rw[List.mem_singleton.mp hq];exact hb
   exact⟨oW _ ⟨x,pts++[p],_,_,_,rfl,rx,by simp [hl],hg',Ys⟩,oW _ ⟨x,pts++[p],_,_,_,rfl,rx,by simp [hl],hg',Ys⟩⟩
  refine au λN1 GC=>?_;have k1:∀(x:List D) (p:List Int) b,cg x->p.length=cnt->(∀v∈p,vh v)->N1 [some (.own x),some (.sh (.int m)),some (.sh (.int cnt)),some (.sh (.int many)),some (.sh (.int wide)),some (.sh (.int kind)),some (.own (pts.map bQ)),some (.sh (.int (a:Nat))),some (.own (p.map D.int)),b]:=by
   intro x p b rx hp hb;subst GC;refine au λN2 mQ=>?_;have k2:∀(x:List D) (p:List Int) b,cg x->p.length=cnt->(∀v∈p,vh v)->N2 [some (.own x),some (.sh (.int m)),some (.sh (.int cnt)),some (.sh (.int many)),some (.sh (.int wide)),some (.sh (.int kind)),some (.own (pts.map bQ)),some (.sh (.int (a:Nat))),some (.own (p.map D.int)),b]:=by
    intro x p b rx hp hb;subst mQ;refine au λN3 ZM=>?_;have k3:∀(x:List D) (p:List Int) b,cg x->p.length=cnt->(∀v∈p,vh v)->N3 [some (.own x),some (.sh (.int m)),some (.sh (.int cnt)),some (.sh (.int many)),some (.sh (.int wide)),some (.sh (.int kind)),some (.own (pts.map bQ)),some (.sh (.int (a:Nat))),some (.own (p.map D.int)),b]:=by
     intro x p b rx hp hb;subst ZM;refine au λN4 hN4=>?_;have k4:∀(x:List D) (p:List Int) b,cg x->p.length=cnt->(∀v∈p,vh v)->N4 [some (.own x),some (.sh (.int m)),some (.sh (.int cnt)),some (.sh (.int many)),some (.sh (.int wide)),some (.sh (.int kind)),some (.own (pts.map bQ)),some (.sh (.int (a:Nat))),some (.own (p.map D.int)),b]:=by
      intro x p b rx hp hb;subst hN4;symm;refine⟨⟨_,rfl⟩,by rw[List.length_map,sz];omega,?_⟩
      have:=(last x p b rx hp hb);rw[List.map_append]at this
      first|exact this.1|exact this.2
     -- kind 3
     symm;refine⟨⟨rfl,rfl⟩,?_⟩
     split
     ·refine⟨Nat.zero_le _,⟨Dv pts,rfl⟩,?_⟩
      rw[ne_nil]
      by_cases CQ:pts=[]
      ·refine(if_neg (by simp [CQ])).mpr ?_
       exact k4 x p b rx hp hb
      ·have h0:0<pts.length:=List.length_pos_iff.mpr CQ
       refine(if_pos (by simp [CQ])).mpr ⟨⟨_,rfl⟩,rx,4,rfl,by decide,by decide,λr y _ _ ry=>?_⟩
       symm;refine⟨⟨by rfl,rfl⟩,?_⟩
       split
       ·rw[List.length_map]
        refine⟨⟨_,rfl⟩,ry,_,rfl,by omega,by omega,λr2 y2 q0 q1 ry2=>?_⟩
        have hj:r2.toNat<pts.length:=by omega
        symm;refine dm (n:=r2.toNat) ⋯ (gu hj) ?_
        rw[show bQ (pts.getD r2.toNat [])=.tup ((pts.getD r2.toNat []).map D.int)from rfl]
        exact k4 y2 _ b ry2 (hg.2 _ (getD_mem hj)).1 (hf _ (getD_mem hj))
       ·exact k4 y p b ry hp hb
     ·exact k4 x p b rx hp hb
    -- kind 2
    symm;refine⟨⟨rfl,rfl⟩,?_⟩
    split
    ·refine⟨Nat.zero_le _,⟨Dv pts,rfl⟩,?_⟩
     rw[ne_nil]
     by_cases CQ:pts=[]
     ·refine(if_neg (by simp [CQ])).mpr ?_
      exact k3 x p b rx hp hb
     ·have h0:0<pts.length:=List.length_pos_iff.mpr CQ
      refine(if_pos (by simp [CQ])).mpr ⟨⟨_,rfl⟩,rx,3,rfl,by decide,by decide,λr y _ _ ry=>?_⟩
      symm
      split
      ·rw[List.length_map]
       refine⟨⟨_,rfl⟩,ry,_,rfl,by omega,by omega,λr2 y2 q0 q1 ry2=>?_⟩
       have hj:r2.toNat<pts.length:=by omega
       symm;refine dm (n:=r2.toNat) ⋯ (gu hj) ?_
       rw[show bQ (pts.getD r2.toNat [])=.tup ((pts.getD r2.toNat []).map D.int)from rfl]
       symm;have gl:=(hg.2 _ (getD_mem hj)).1;have gf:=hf _ (getD_mem hj);generalize pts.getD r2.toNat []=base at gl gf;refine oM D.int (λd=>∃v,d=.int v/\vh v) cg base (λv hv z rz A Z hz ha=>?_) (by rw[sz];omega) ry2 (λds ys VO ZU ry3=>?_)
       ·symm
        refine⟨by unfold nU;decide,by unfold nU;decide,⟨_,rfl⟩,rz,3,rfl,by decide,by decide,λr3 z3 w0 w1 rz3=>?_⟩
        symm;refine⟨hz,ha _ _ ⟨_,rfl,?_⟩ rz3⟩;unfold vh;rw[show(10:Int)^Int.toNat 15=10^15 from rfl]
        split<;>split<;>omega
       ·obtain⟨p2,rfl,pl,pf⟩:=qu ds ZU
        exact k3 ys p2 _ ry3 (by rw[pl,VO,gl]) pf
      ·exact k3 y p b ry hp hb
    ·exact k3 x p b rx hp hb
   -- kind 1
   symm;refine⟨⟨rfl,rfl⟩,?_⟩
   split
   ·refine⟨by unfold gM;decide,⟨_,rfl⟩,?_⟩
    rw[C4 (by rw[List.length_map];omega)]
    dsimp only;have e:(p.map D.int).set 0 (D.int (0-wide/2))=(p.set 0 (0-wide/2)).map D.int:=by rw[List.map_set]
    rw[e];refine k2 x _ b rx (by rw[List.length_set];exact hp) λv hv=>?_
    rcases List.mem_or_eq_of_mem_set hv with hv|rfl
    ·exact hb v hv
    ·unfold vh;omega
   ·exact k2 x p b rx hp hb
  -- the point
  symm;rw[Int.toNat_natCast,fX];refine⟨by omega,oM (λi:Nat=>.int (0+(i:Nat))) (λd=>∃v,d=.int v/\vh v) cg _ (λv hv z rz A Z hz ha=>?_) (by rw[List.length_range,sz];omega) rx (λds ys VO ZU ry3=>?_)⟩
  ·symm
   refine⟨⟨_,rfl⟩,rz,wide,rfl,by omega,by omega,λr3 z3 w0 w1 rz3=>?_⟩
   symm;refine⟨by unfold gM;decide,hz,ha _ _ ⟨_,rfl,?_⟩ rz3⟩
   unfold vh;omega
  ·obtain⟨p2,rfl,pl,pf⟩:=qu ds ZU
   exact k1 ys p2 _ ry3 (by rw[pl,VO,List.length_range]) pf
 ·obtain⟨x,pts,k,pt,b,rfl,rx,hl,hg,hf⟩:=hI
  subst hN;rw[List.length_range]at hl;symm;exact⟨by decide,h pts cnt x hg ⋯ rx⟩
def F9(b:Bool)(pts:List (List Int))(j:Nat):List D:=(List.range j).map λi=>pairD b pts i j
def iG(b:Bool)(pts:List (List Int)):Nat->List D
 | 0=>[]
 | j+1=>iG b pts j++F9 b pts j
theorem sy(b:Bool)(pts:List (List Int)):∀j,(iG b pts j).length<=j*j
 | 0=>Nat.zero_le _
 | j+1=>by
  have ih:=sy b pts j;show(iG b pts j++F9 b pts j).length<=_;rw[List.length_append,F9,List.length_map,List.length_range,Nat.succ_mul,Nat.mul_succ];omega
def ji(b:Bool)(pts:List (List Int))(n:Nat):Nat->List D
 | 0=>[]
 | i+1=>ji b pts n i++ic b pts i (n-(i+1))
theorem uD(b:Bool)(pts:List (List Int)):∀i,ji b pts pts.length i=fY b pts i
 | 0=>rfl
 | i+1=>by show ji b pts pts.length i++_=fY b pts i++_;rw[uD b pts i]
theorem Xh{α:Type}(A C R X:List α):((A++C)++(R++X)).Perm ((A++R)++(C++X)):=by
 rw[List.append_assoc,List.append_assoc];refine List.Perm.append_left A ?_;rw[<- List.append_assoc,<- List.append_assoc];exact List.Perm.append_right X List.perm_append_comm
theorem pE(b:Bool)(pts:List (List Int))(n:Nat):∀i,i<=n->(ji b pts (n+1) i).Perm (ji b pts n i++(List.range i).map λt=>pairD b pts t n)
 | 0,_=>List.Perm.refl _
 | i+1,h=>by
  have ih:=pE b pts n i ⋯
  show(ji b pts (n+1) i++ic b pts i (n+1-(i+1))).Perm ((ji b pts n i++ic b pts i (n-(i+1)))++(List.range (i+1)).map λt=>pairD b pts t n);rw[show n+1-(i+1)=n-(i+1)+1 by omega,pC,show i+1+(n-(i+1))=n by omega,List.range_succ,List.map_append]
  exact(List.Perm.append_right _ ih).trans (Xh _ _ _ _)
theorem oK(b:Bool)(pts:List (List Int)):∀n,(iG b pts n).Perm (ji b pts n n)
 | 0=>List.Perm.refl _
 | n+1=>by
  have ih:=oK b pts n;show(iG b pts n++F9 b pts n).Perm (ji b pts (n+1) n++ic b pts n (n+1-(n+1)));rw[Nat.sub_self,show ic b pts n 0=[]from rfl,List.append_nil]
  exact(List.Perm.append_right _ ih).trans (pE b pts n n (Nat.le_refl _)).symm
theorem mH(b:Bool)(pts:List (List Int)):(iG b pts pts.length).Perm (bJ b pts):=by
 have:=oK b pts pts.length
 rwa [uD]at this
theorem zb(b:Bool)(pts:List (List Int)):b8 (iG b pts pts.length)=b8 (bJ b pts):=
 nB (fu b pts) ((bF _).trans (mH b pts)) (da _)
theorem ym(b:Bool)(pts:List (List Int)):(iG b pts pts.length).all d6=true:=List.all_eq_true.mpr λd hd =>
 List.all_eq_true.mp (fu b pts) d ((mH b pts).mem_iff.mp hd)
def gA:bA:=λds Q=>∃b n pts,ds=[dS pts,cI b]/\Good n pts/\pts.length<=1000/\Q (.own (b8 (bJ b pts)))
theorem Dy(ds:List D)(Q:B->Prop)(h:gA ds Q):EC ie {nx:=λ_=>Q (.sh .aX),rt:=λb _=>Q b} (aP zZ.length ds):=by
 obtain⟨b,n,pts,rfl,hg,hl,h⟩:=h;unfold EC;refine au λN hN=>?_;symm;refine⟨by decide,?_⟩
 subst hN;refine au λN hN=>?_;rw[show dS pts=.lst (pts.map bQ)from rfl]
 symm;rw[gm];refine cX (λq:Nat×List Int=>.tup [.int (q.1:Nat),bQ q.2]) _ (λi σ=>∃x3 x4,σ=[some (.sh (.lst (pts.map bQ))),some (.sh (cI b)),some (.own (iG b pts i)),x3,x4]) (λi q σ N' hx hI oW=>?_) (λσ hI=>?_) ⟨none,none,rfl⟩
 ·obtain⟨x3,x4,rfl⟩:=hI
  obtain⟨e1,e2⟩:=mK hx;obtain⟨j,r⟩:=q;cases e1;have e2:pts[j]?=some r:=e2;have hj:j<pts.length:=(List.getElem?_eq_some_iff.mp e2).1;have hr:r=pts.getD j []:=by rw[List.getD_eq_getElem?_getD,e2];rfl
  walk_at "vg";symm;rw[Int.toNat_natCast,fX];refine⟨⟨_,rfl⟩,by omega,dk (λi:Nat=>.int (0+(i:Nat))) (λi=>pairD b pts i j) _ (λi hi A ha=>?_) (by rw[List.length_range,sz];omega) ?_⟩
  ·have hi:=List.mem_range.mp hi
   symm;rw[Int.zero_add];refine dm (n:=i) rfl (gu ⋯) ?_
   symm;refine⟨b,_,r,rfl,hg.bd (getD_mem ⋯),hg.bd (List.mem_of_getElem? e2),?_⟩
   symm;refine⟨by decide,?_⟩
   unfold pairD at ha;rw[<- hr]at ha;exact ha
  ·have hz:=sy b pts j
   have hz2:j*j<=1000*1000:=Nat.mul_le_mul ⋯ ⋯
   refine⟨by rw[List.length_map,List.length_range,sz];omega,oW _ ⟨some (.sh (.int (j:Nat))),some (.sh (bQ r)),rfl⟩⟩
 ·obtain⟨x3,x4,rfl⟩:=hI
  subst hN;rw[List.length_mapIdx];symm;refine⟨ym b pts,?_⟩;rw[zb];exact h
theorem Ba{α:Type}(xs:List α)(k:Nat):cut xs none (some (k:Int))=xs.take k:=by
 unfold cut;rw[HT.D8,HT.HR,List.drop_zero,Nat.sub_zero]
 by_cases h:k<=xs.length
 ·rw[Nat.min_eq_left h]
 ·rw[Nat.min_eq_right ⋯,List.take_of_length_le (Nat.le_refl _),List.take_of_length_le ⋯]
theorem oB{xs:List D}(h:xs.all d6=true):mD xs=(b8 xs).head?:=by
 have key:∀(l:List D) (b:D),(∀x∈l,d6 x=true)->d6 b=true->∃m,l.foldl (λb y=>if ltI y b=true then y else b) b=m/\(m=b\/m∈l)/\d6 m=true/\lM m b=true/\∀x∈l,lM m x=true:=by
  intro l
  induction l with
  | nil=>intro b _ hb;exact⟨b,rfl,.inl rfl,hb,by unfold lM;rw[Vs.dW];rfl,λx hx=>by cases hx⟩
  | cons y l ih =>
   intro b hl hb;have hy:=hl y (List.mem_cons_self ..);have lt:ltI y b=HT.lexLt (bU y) (bU b):=by
    rw[dR hy,dR hb];rfl
   rw[List.foldl_cons]
   by_cases e:ltI y b=true
   ·rw[if_pos e]
    obtain⟨m,m1,m2,m3,m4,m5⟩:=ih y (λx hx=>hl x (List.mem_cons_of_mem _ hx)) hy;refine⟨m,m1,?_,m3,?_,λx hx=>?_⟩
    ·rcases m2 with rfl|m2
     ·exact .inr (List.mem_cons_self ..)
     ·exact .inr (List.mem_cons_of_mem _ m2)
    ·refine kC m y b m4 ?_
     unfold lM;rw[lt]at e;cases e2:HT.lexLt (bU b) (bU y)with
     | false=>rfl
     | true=>have:=Vs.eV _ _ _ e e2;rw[Vs.dW]at this;cases this
    ·rcases List.mem_cons.mp hx with rfl|hx
     ·exact m4
     ·exact m5 x hx
   ·rw[if_neg e]
    obtain⟨m,m1,m2,m3,m4,m5⟩:=ih b (λx hx=>hl x (List.mem_cons_of_mem _ hx)) hb;refine⟨m,m1,?_,m3,m4,λx hx=>?_⟩
    ·rcases m2 with rfl|m2
     ·exact .inl rfl
     ·exact .inr (List.mem_cons_of_mem _ m2)
    ·rcases List.mem_cons.mp hx with rfl|hx
     ·refine kC m b x m4 ?_
      unfold lM;rw[lt]at e;simpa using e
     ·exact m5 x hx
 have hp:=bF xs;have hs:=da xs;cases xs with
 | nil=>rw[List.perm_nil.mp hp];rfl
 | cons x xs =>
  have all:=List.all_eq_true.mp h;obtain⟨m,m1,m2,m3,m4,m5⟩:=key xs x (λy hy=>all y (List.mem_cons_of_mem _ hy)) (all x (List.mem_cons_self ..));have hm:m∈x::xs:=by rcases m2 with rfl|m2;exact List.mem_cons_self ..;exact List.mem_cons_of_mem _ m2
  have mS:∀y∈x::xs,lM m y=true:=λy hy=>by
   rcases List.mem_cons.mp hy with rfl|hy
   ·exact m4
   ·exact m5 y hy
  show some _=_;rw[m1];cases e:b8 (x::xs)with
  | nil=>rw[e]at hp;exact absurd hp.length_eq (by simp)
  | cons a l =>
   rw[e]at hp hs;have ha:a∈x::xs:=hp.mem_iff.mp (List.mem_cons_self ..);have h1:=mS a ha;have h2:lM a m=true:=by
    rcases List.mem_cons.mp (hp.mem_iff.mpr hm)with rfl|hm
    ·unfold lM;rw[Vs.dW];rfl
    ·exact(List.pairwise_cons.mp hs).1 m hm
   unfold lM at h1 h2;simp only[Bool.not_eq_true']at h1 h2;show some m=some a;rw[dR m3,dR (all a ha),Vs.kE _ _ h2 h1]
def jW(b:Bool)(pts:List (List Int)):D:=(mD (bJ b pts)).getD .aX
def nF:bA:=λds Q=>∃b n pts,ds=[dS pts,cI b]/\Good n pts/\pts.length<=1000/\Q (.sh (jW b pts))
theorem Xd(ds:List D)(Q:B->Prop)(h:nF ds Q):Ep ig jK {nx:=λ_=>Q (.sh .aX),rt:=λb _=>Q b} (aP zO.length ds):=by
 obtain⟨b,n,pts,rfl,hg,hl,h⟩:=h;unfold Ep;refine au λN hN=>?_;symm;refine⟨n,b,pts,rfl,hg.shape,?_⟩;symm;subst hN;symm;refine⟨b,n,pts,rfl,hg,hl,?_⟩;symm;refine⟨.inr (List.all_eq_true.mpr λd hd=>?_),h⟩;obtain⟨p,q,_,_,rfl⟩:=dX hd;rfl
theorem jX(b:Bool)(pts:List (List Int)):jW b pts=.aX\/∃p q,jW b pts=pairD b pts p q:=by
 unfold jW;rw[oB (fu b pts)];cases e:b8 (bJ b pts)with
 | nil=>exact .inl rfl
 | cons a l =>
  have:a∈bJ b pts:=(bF _).mem_iff.mp (by rw[e];exact List.mem_cons_self ..)
  obtain⟨p,q,_,_,h⟩:=dX this;exact .inr ⟨p,q,h⟩
def eI(p:List Int)(side:Int):List Int:=p.map λx=>x/side
def qY:bA:=λds Q=>∃(p:List Int) (side:Int),ds=[bQ p,.int side]/\p.length<=1000/\1<=side/\side<2^200/\Q (.sh (bQ (eI p side)))
theorem W4(ds:List D)(Q:B->Prop)(h:qY ds Q):En {nx:=λ_=>Q (.sh .aX),rt:=λb _=>Q b} (aP zL.length ds):=by
 obtain⟨p,side,rfl,hl,h1,h2,h⟩:=h;unfold En;rw[show bQ p=.tup (p.map D.int)from rfl]
 symm;refine dk D.int (λx:Int=>D.int (x/side)) p (λx hx A ha=>?_) (by rw[sz];omega) ?_
 ·symm
  exact⟨by unfold gM;omega,ha⟩
 ·symm
  have e:bQ (eI p side)=.tup (p.map λx:Int=>D.int (x/side)):=by unfold bQ eI;rw[List.map_map];rfl
  rw[e]at h;exact h
def gX(b:Bool)(side j:Int):Bool:=decide (1<=side)&&(if b=true then decide (j<=side*side)else decide (j<=side))
def wk:bA:=λds Q=>∃(b:Bool) (side j:Int),ds=[cI b,.int side,.int j]/\(-(2^300)<side/\side<2^300)/\Q (.sh (.bl (gX b side j)))
theorem Xc(ds:List D)(Q:B->Prop)(h:wk ds Q):Sl {nx:=λ_=>Q (.sh .aX),rt:=λb _=>Q b} (aP Kq.length ds):=by
 obtain⟨b,side,j,rfl,hs,h⟩:=h;unfold Sl;unfold gX at h;refine au λN hN=>?_;symm
 by_cases h1:side<1
 ·rw[decide_eq_false ⋯]at h
  exact(if_pos h1).mpr h
 rw[decide_eq_true (show 1<=side by omega),Bool.true_and]at h
 refine(if_neg h1).mpr ?_;subst hN;refine au λN hN=>?_;cases b
 ·rw[show cI false=.str "streets" from rfl]
  symm;refine⟨⟨cG,cG⟩,?_⟩;refine(if_pos (by simp [fD])).mpr ?_
  exact h
 ·rw[show cI true=.str "squares" from rfl]
  symm;refine⟨⟨ft,cG⟩,?_⟩;refine(if_neg (by decide +kernel)).mpr ?_
  subst hN;symm;exact⟨⟨hs,hs⟩,h⟩
def my(j r:Int):Prop:=1<=r/\r<=j/\j<=r*r/\(r-1)*(r-1)<j
def Ef:bA:=λds Q=>∃j:Int,ds=[.int j]/\1<=j/\j<2^200/\∀r,my j r->Q (.sh (.int r))
theorem aay(ds:List D)(Q:B->Prop)(h:Ef ds Q):Eu {nx:=λ_=>Q (.sh .aX),rt:=λb _=>Q b} (aP zS.length ds):=by
 obtain⟨j,rfl,h1,h2,h⟩:=h;unfold Eu;refine au λN hN=>?_;symm;subst hN;refine au λN hN=>?_;symm;subst hN;refine au λN hN=>?_;refine⟨λm σ=>∃lo hi x3,σ=[some (.sh (.int j)),some (.sh (.int lo)),some (.sh (.int hi)),x3]/\0<=lo/\lo<hi/\hi<=j/\lo*lo<j/\j<=hi*hi/\m=(hi-lo).toNat,⟨(j-0).toNat,0,j,none,rfl,by decide,by omega,by omega,by omega,?_,rfl⟩,λm σ=>?_⟩
 ·have:=Int.mul_le_mul_of_nonneg_left (show 1<=j by omega) (show 0<=j by omega)
  omega
 rintro⟨lo,hi,x3,rfl,a1,a2,a3,a4,a5,rfl⟩;symm
 split
 ·rename_i gK
  refine⟨λσ=>∃G6 kz x3,σ=[some (.sh (.int j)),some (.sh (.int G6)),some (.sh (.int kz)),x3]/\0<=G6/\G6<kz/\kz<=j/\G6*G6<j/\j<=kz*kz/\kz-G6<hi-lo,λbN=>?_,?_⟩
  ·rintro⟨G6,kz,y3,rfl,b1,b2,b3,b4,b5,b6⟩
   exact⟨(kz-G6).toNat,by omega,G6,kz,y3,rfl,b1,b2,b3,b4,b5,rfl⟩
  have hd:lo<(lo+hi)/2/\(lo+hi)/2<hi:=by omega
  generalize (lo+hi)/2=half at hd;refine⟨by unfold gM;omega,⟨⟨by omega,by omega⟩,by omega,by omega⟩,?_⟩
  split
  ·rename_i hq
   exact⟨lo,half,_,rfl,a1,hd.1,by omega,a4,by omega,by omega⟩
  ·rename_i hq
   exact⟨half,hi,_,rfl,by omega,hd.2,a3,by omega,a5,by omega⟩
 ·rename_i gK
  have e:lo=hi-1:=by omega
  subst hN;symm;exact h hi ⟨by omega,a3,a5,by rw[<- e];exact a4⟩
def dZ(b:Bool)(j r:Int):Prop:=if b=true then my j r else r=j
theorem dZ.pos{b:Bool}{j r:Int}(h:dZ b j r)(hj:1<=j):1<=r/\r<=j:=by
 unfold dZ at h
 split at h
 ·exact⟨h.1,h.2.1⟩
 ·omega
def xO:bA:=λds Q=>∃(b:Bool) (j:Int),ds=[cI b,.int j]/\1<=j/\j<2^200/\∀r,dZ b j r->Q (.sh (.int r))
theorem aaz(ds:List D)(Q:B->Prop)(h:xO ds Q):Ew Ef {nx:=λ_=>Q (.sh .aX),rt:=λb _=>Q b} (aP zU.length ds):=by
 obtain⟨b,j,rfl,h1,h2,h⟩:=h;unfold Ew;refine au λN hN=>?_;cases b
 ·rw[show cI false=.str "streets" from rfl]
  symm;refine⟨⟨cG,cG⟩,?_⟩;refine(if_pos (by simp [fD])).mpr ?_
  exact h j rfl
 ·rw[show cI true=.str "squares" from rfl]
  symm;refine⟨⟨ft,cG⟩,?_⟩;refine(if_neg (by decide +kernel)).mpr ?_
  subst hN;symm;refine⟨j,rfl,h1,h2,λr hr=>?_⟩;symm;exact h r hr
abbrev PL:=List (List Int×List D)
def ki(l:PL)(k:List Int)(d:D):PL:=if(l.any λt=>decide (t.1=k))=true then l.map (λt=>if t.1=k then(t.1,t.2++[d])else t)else l++[(k,[d])]
def dU(pts:List (List Int))(s:Int):Nat->PL
 | 0=>[]
 | i+1=>ki (dU pts s i) (eI (pts.getD i []) s) (.int (i:Nat))
def kW(l:PL)(k:List Int):List D:=((l.find? λt=>decide (t.1=k)).map (·.2)).getD []
def cellsOf(pts:List (List Int))(s:Int):List D:=(b8 ((dU pts s pts.length).map λt=>bQ t.1)).map λkd=>.tup [kd,.lst (kW (dU pts s pts.length) (bU kd))]
theorem Ak(l:PL)(k:List Int)(d:D):(ki l k d).length<=l.length+1:=by
 unfold ki
 split
 ·rw[List.length_map];omega
 ·rw[List.length_append];exact Nat.le_refl _
theorem Al{l:PL}{k:List Int}{d:D}{t:List Int×List D}(h:t∈ki l k d):(t.1=k\/∃u∈l,t.1=u.1)/\((∃u∈l,t.2.length<=u.2.length+1)\/t.2.length=1):=by
 unfold ki at h
 split at h
 ·obtain⟨u,hu,rfl⟩:=List.mem_map.mp h
  split
  ·exact⟨.inr ⟨u,hu,rfl⟩,.inl ⟨u,hu,by rw[List.length_append];exact Nat.le_refl _⟩⟩
  ·exact⟨.inr ⟨u,hu,rfl⟩,.inl ⟨u,hu,by omega⟩⟩
 ·rcases List.mem_append.mp h with h|h
  ·exact⟨.inr ⟨t,h,rfl⟩,.inl ⟨t,h,by omega⟩⟩
  ·rw[List.mem_singleton.mp h]
   exact⟨.inl rfl,.inr rfl⟩
theorem jS(pts:List (List Int))(s:Int):∀i,(dU pts s i).length<=i
 | 0=>Nat.le_refl _
 | i+1=>Nat.le_trans (Ak _ _ _) (Nat.succ_le_succ (jS pts s i))
theorem fc{pts:List (List Int)}{s:Int}:∀ {i:Nat} {t:List Int×List D},t∈dU pts s i->t.2.length<=i/\∃j<i,t.1=eI (pts.getD j []) s
 | 0,t,h=>nomatch h
 | i+1,t,h=>by
  obtain⟨h1,h2⟩:=Al h;refine⟨?_,?_⟩
  ·rcases h2 with⟨u,hu,e⟩|e
   ·have:=(fc hu).1;omega
   ·omega
  ·rcases h1 with e|⟨u,hu,e⟩
   ·exact⟨i,by omega,e⟩
   ·obtain⟨j,hj,e2⟩:=(fc hu).2
    exact⟨j,by omega,e.trans e2⟩
def gN(ts:zp)(l:PL):Prop:=ts.map (λt=>(t.1,t.2.2))=l.map λt=>(t.1.map Sum.inl,t.2)
theorem lV:∀ {a b:List Int},a.map (Sum.inl:Int->Key)=b.map Sum.inl->a=b
 | [],[],_=>rfl
 | [],_::_,h=>by cases h
 | _::_,[],h=>by cases h
 | x::a,y::b,h=>by
  rw[List.map_cons,List.map_cons]at h;obtain⟨h1,h2⟩:=List.cons.inj h;rw[Sum.inl.inj h1,lV h2]
theorem gN.any{ts:zp}{l:PL}(h:gN ts l)(k:List Int):(ts.any λt=>decide (t.1=k.map Sum.inl))=l.any λt=>decide (t.1=k):=by
 have e1:(ts.any λt=>decide (t.1=k.map Sum.inl))=(ts.map λt=>(t.1,t.2.2)).any λt=>decide (t.1=k.map Sum.inl):=by rw[List.any_map];rfl
 rw[e1,h,List.any_map];congr 1;funext t;show decide (t.1.map Sum.inl=k.map (Sum.inl:Int->Key))=decide (t.1=k)
 by_cases e:t.1=k
 ·rw[e,decide_eq_true rfl,decide_eq_true rfl]
 ·rw[decide_eq_false e,decide_eq_false λz=>e (lV z)]
theorem gN.add{ts:zp}{l:PL}(h:gN ts l)(k:List Int)(p:Addr)(d:D):gN (eE ts (k.map Sum.inl) p d) (ki l k d):=by
 unfold gN eE ki;rw[h.any k]
 split
 ·have e1:(ts.map λt=>if t.1=k.map Sum.inl then(t.1,t.2.1,t.2.2++[d])else t).map (λt=>(t.1,t.2.2))=(ts.map λt=>(t.1,t.2.2)).map λt=>if t.1=k.map Sum.inl then(t.1,t.2++[d])else t:=by
   rw[List.map_map,List.map_map];refine List.map_congr_left λt _=>?_;show((if t.1=k.map Sum.inl then(t.1,t.2.1,t.2.2++[d])else t).1,(if t.1=k.map Sum.inl then(t.1,t.2.1,t.2.2++[d])else t).2.2)=if t.1=k.map Sum.inl then(t.1,t.2.2++[d])else(t.1,t.2.2)
   split<;>rfl
  rw[e1,h,List.map_map,List.map_map];refine List.map_congr_left λt _=>?_;show(if t.1.map Sum.inl=k.map (Sum.inl:Int->Key)then(t.1.map Sum.inl,t.2++[d])else(t.1.map Sum.inl,t.2))=((if t.1=k then(t.1,t.2++[d])else t).1.map Sum.inl,(if t.1=k then(t.1,t.2++[d])else t).2)
  by_cases e:t.1=k
  ·rw[if_pos e,if_pos (by rw[e])]
  ·rw[if_neg e,if_neg λz=>e (lV z)]
 ·rw[List.map_append,List.map_append,h];rfl
theorem vS(k:List Int):(k.map (Sum.inl:Int->Key)).map kD=k.map D.int:=by rw[List.map_map];rfl
theorem xr(k:List Int):vT (bQ k)=some (k.map Sum.inl):=by
 show o6 (k.map D.int)=_
 induction k with
 | nil=>rfl
 | cons x k ih=>rw[List.map_cons,List.map_cons,o6,ih];rfl
theorem qv(k:List Int):bU (bQ k)=k:=by
 show(k.map D.int).map g9=k;rw[List.map_map];exact(List.map_congr_left (λx _=>rfl)).trans (List.map_id _)
theorem gN.fz{ts:zp}{l:PL}(h:gN ts l):Ik ts=l.map λt=>(bQ t.1,.lst t.2):=by
 have e1:Ik ts=(ts.map λt=>(t.1,t.2.2)).map λt=>(.tup (t.1.map kD),.lst t.2):=by rw[List.map_map];rfl
 rw[e1,h,List.map_map];refine List.map_congr_left λt _=>?_;show(D.tup ((t.1.map Sum.inl).map kD),D.lst t.2)=_;rw[vS];rfl
theorem vE(a b:List Int):fD (bQ a) (bQ b)=decide (a=b):=by
 rw[show bQ a=.tup ((a.map Sum.inl).map kD)by rw[vS];rfl,show bQ b=.tup ((b.map Sum.inl).map kD)by rw[vS];rfl,mL]
 by_cases e:a=b
 ·rw[e,decide_eq_true rfl,decide_eq_true rfl]
 ·rw[decide_eq_false e,decide_eq_false λz=>e (lV z)]
theorem BJ(l:PL)(k:List Int)(h:∃t∈l,t.1=k):qa (l.map λt=>(bQ t.1,D.lst t.2)) (bQ k)=some (.lst (kW l k)):=by
 unfold qa kW
 induction l with
 | nil=>obtain⟨t,ht,_⟩:=h;cases ht
 | cons t l ih =>
  rw[List.map_cons]
  by_cases e:t.1=k
  ·rw[List.find?_cons_of_pos (by rw[vE];simpa using e),List.find?_cons_of_pos (by simpa using e)];rfl
  ·rw[List.find?_cons_of_neg (by rw[vE];simpa using e),List.find?_cons_of_neg (by simpa using e)]
   obtain⟨u,hu,eu⟩:=h;rcases List.mem_cons.mp hu with rfl|hu
   ·exact absurd eu e
   ·exact ih ⟨u,hu,eu⟩
theorem GW{k:List Int}(h:k≠[]):d6 (bQ k)=true:=by
 show((k.map D.int).all isInt&&!(k.map D.int).isEmpty)=true;rw[List.all_map];cases k with
 | nil=>exact absurd rfl h
 | cons x k=>simp [isInt]
theorem iH{g:lR}{te:TD}{σ0:Sd}{Q:List D->Prop}(f:D->D)(l:List D)
  (h:∀a∈l,∀(A:D->Prop),A (f a)->g a σ0 λaA=>te aA λd eB=>lb σ0 eB/\A d)
  (hl:l.length<=sizeLine) (q:Q (l.map f)):fL g cO te σ0 l [] Q:=by
 have:=dk (g:=g) (te:=te) (σ0:=σ0) (Q:=Q) (λa:D=>a) f l h hl q
 rwa [List.map_id']at this
def f6:bA:=λds Q=>∃(n:Nat) (pts:List (List Int)) (s:Int),ds=[dS pts,.int s]/\Good n pts/\pts.length<=1000/\1<=s/\s<2^200/\Q (.own (cellsOf pts s))
theorem Hl(ds:List D)(Q:B->Prop)(h:f6 ds Q):Sn qY {nx:=λ_=>Q (.sh .aX),rt:=λb _=>Q b} (aP Kr.length ds):=by
 obtain⟨n,pts,s,rfl,hg,hl,h1,h2,h⟩:=h;unfold Sn;rw[show dS pts=.lst (pts.map bQ)from rfl]
 refine au λN hN=>?_;symm;subst hN;refine au λN hN=>?_;symm;rw[gm];refine cX (λq:Nat×List Int=>.tup [.int (q.1:Nat),bQ q.2]) _ (λi σ=>∃ts x3 x4,σ=[some (.sh (.lst (pts.map bQ))),some (.sh (.int s)),some (.obj (oi ts)),x3,x4]/\gN ts (dU pts s i)) (λi q σ N' hx hI oW=>?_) (λσ hI=>?_) ⟨[],none,none,rfl,rfl⟩
 ·obtain⟨ts,x3,x4,rfl,j7⟩:=hI
  obtain⟨e1,e2⟩:=mK hx;obtain⟨i',p⟩:=q;cases e1;have e2:pts[i']?=some p:=e2;have hi:i'<pts.length:=(List.getElem?_eq_some_iff.mp e2).1;have hp:p=pts.getD i' []:=by rw[List.getD_eq_getElem?_getD,e2];rfl
  have hpm:=List.mem_of_getElem? e2;walk_at "vg";symm;have lts:ts.length<=i':=by
   have l1:=congrArg List.length j7;simp only[List.length_map]at l1;have l2:=jS pts s i';rw[l1];exact l2
  refine⟨⟨ts,rfl⟩,p,s,rfl,by have:=(hg.2 p hpm).1;have:=hg.1;omega,h1,h2,?_⟩
  symm;refine⟨ts,_,_,rfl,xr _,rfl,by omega,λt ht=>?_,λa=>oW _ ⟨_,_,_,rfl,?_⟩⟩
  ·have:(t.1,t.2.2)∈(dU pts s i').map λt=>(t.1.map (Sum.inl:Int->Key),t.2):=by rw[<- j7];exact List.mem_map_of_mem ht
   obtain⟨u,hu,eu⟩:=List.mem_map.mp this;have e3:u.2=t.2.2:=(Prod.mk.inj eu).2;have:=(fc hu).1;rw[e3]at this;omega
  ·show gN _ (ki _ _ _)
   rw[<- hp];exact j7.add _ a _
 ·obtain⟨ts,x3,x4,rfl,j7⟩:=hI
  subst hN;rw[show(pts.mapIdx λi x=>(i,x)).length=pts.length from List.length_mapIdx]at j7
  symm;refine⟨ts,rfl,?_⟩;rw[j7.fz];symm;have hn0:∀t∈dU pts s pts.length,t.1≠[]/\t.1.length<=3:=λt ht=>by
   obtain⟨j,hj,e⟩:=(fc ht).2;have:=(hg.2 _ (getD_mem hj)).1;have:=hg.1;rw[e];unfold eI;refine⟨λz=>?_,by rw[List.length_map];omega⟩
   have:=congrArg List.length z;rw[List.length_map]at this;simp only[List.length_nil]at this;omega
  refine⟨List.all_eq_true.mpr λkv GI=>?_,?_⟩
  ·obtain⟨t,ht,rfl⟩:=List.mem_map.mp GI
   show d6 (bQ t.1)=true;exact GW (hn0 t ht).1
  have hk:(dU pts s pts.length).map (λt=>bQ t.1)=((dU pts s pts.length).map λt=>(bQ t.1,D.lst t.2)).map (·.1):=by rw[List.map_map];rfl
  rw[<- hk];have hsl:(b8 ((dU pts s pts.length).map λt=>bQ t.1)).length<=1000:=by
   rw[(bF _).length_eq,List.length_map];have:=jS pts s pts.length;omega
  have Fy:∀kd∈b8 ((dU pts s pts.length).map λt=>bQ t.1),∃t∈dU pts s pts.length,bQ t.1=kd:=λkd M0=>List.mem_map.mp ((bF _).mem_iff.mp M0);refine iH (λkd=>.tup [kd,.lst (kW (dU pts s pts.length) (bU kd))]) _ (λkd M0 A ha=>?_) (by rw[sz];omega) h
  obtain⟨t,ht,rfl⟩:=Fy kd M0;walk_at "vg";symm;refine⟨.lst (kW (dU pts s pts.length) t.1),by rw[xr];rfl,BJ _ _ ⟨t,ht,rfl⟩,?_⟩
  rw[qv]at ha;exact⟨by decide,ha⟩
def TU(es:List D):Prop:=∀e∈es,∃ks ps,e=.tup [.tup ks,.lst ps]/\ks.all isInt=true/\ps.all isInt=true/\ks.length<=1000000/\ps.length<=1000000
theorem CZ{xs:List D}(h:xs.all isInt=true)(n:Nat):xs.all (bG n)=true:=List.all_eq_true.mpr λd hd=>by
 have:=List.all_eq_true.mp h d hd;cases d with
 | int i=>cases n<;>rfl
 | _=>exact absurd this (by simp [isInt])
theorem TU.ok{es:List D}(h:TU es):bG 8 (.lst es)=true:=List.all_eq_true.mpr λe he=>by
 obtain⟨ks,ps,rfl,h1,h2,_⟩:=h e he;show(bG 6 (.tup ks)&&(bG 6 (.lst ps)&&true))=true;rw[show bG 6 (.tup ks)=ks.all (bG 5)from rfl,show bG 6 (.lst ps)=ps.all (bG 5)from rfl,CZ h1,CZ h2];rfl
theorem nJ{pts:List (List Int)}{s:Int}:∀ {i:Nat} {t:List Int×List D},t∈dU pts s i->t.2.all isInt=true
 | 0,t,h=>nomatch h
 | i+1,t,h=>by
  have h:t∈ki (dU pts s i) (eI (pts.getD i []) s) (.int (i:Nat)):=h;unfold ki at h
  split at h
  ·obtain⟨u,hu,rfl⟩:=List.mem_map.mp h
   have:=nJ hu
   split
   ·show(u.2++[D.int (i:Nat)]).all isInt=true
    rw[List.all_append,this];rfl
   ·exact this
  ·rcases List.mem_append.mp h with h|h
   ·exact nJ h
   ·rw[List.mem_singleton.mp h];rfl
theorem E9{l:PL}{k:List Int}:kW l k=[]\/∃t∈l,kW l k=t.2:=by
 unfold kW;cases e:l.find? λt=>decide (t.1=k)with
 | none=>exact .inl rfl
 | some t=>exact .inr ⟨t,List.mem_of_find?_eq_some e,rfl⟩
theorem kq{n:Nat}{pts:List (List Int)}{s:Int}(hg:Good n pts)(hl:pts.length<=1000):TU (cellsOf pts s)/\(cellsOf pts s).length<=1000:=by
 refine⟨λe he=>?_,?_⟩
 ·obtain⟨kd,M0,rfl⟩:=List.mem_map.mp he
  obtain⟨t,ht,rfl⟩:=List.mem_map.mp ((bF _).mem_iff.mp M0);obtain⟨j,hj,e⟩:=(fc ht).2;have hlen:t.1.length=n:=by
   rw[e];unfold eI;rw[List.length_map];exact(hg.2 _ (getD_mem hj)).1
  have hv:(kW (dU pts s pts.length) (bU (bQ t.1))).all isInt=true/\(kW (dU pts s pts.length) (bU (bQ t.1))).length<=1000:=by
   rcases E9 (l:=dU pts s pts.length) (k:=bU (bQ t.1))with e|⟨u,hu,e⟩
   ·rw[e];exact⟨rfl,by decide⟩
   ·rw[e];exact⟨nJ hu,by have:=(fc hu).1;omega⟩
  refine⟨t.1.map D.int,_,rfl,by rw[List.all_map];exact List.all_eq_true.mpr λ_ _=>rfl,hv.1,by rw[List.length_map];have:=hg.1;omega,by omega⟩
 ·unfold cellsOf
  rw[List.length_map,(bF _).length_eq,List.length_map];have:=jS pts s pts.length;omega
def xN:bA:=λds Q=>∃d xs,ds=[d]/\(d=.lst xs\/d=.tup xs)/\xs.all isInt=true/\xs.length<=1000000/\Q (.sh (.bl true))
theorem pS(xs:List D):(xs.map λ_=>D.bl true).all GX=true/\((xs.map λ_=>D.bl true).map Zk).all id=true:=by
 induction xs with
 | nil=>exact⟨rfl,rfl⟩
 | cons x xs ih=>exact⟨by rw[List.map_cons,List.all_cons,ih.1];rfl,by rw[List.map_cons,List.map_cons,List.all_cons,ih.2];rfl⟩
theorem aau(ds:List D)(Q:B->Prop)(h:xN ds Q):EA {nx:=λ_=>Q (.sh .aX),rt:=λb _=>Q b} (aP zY.length ds):=by
 obtain⟨d,xs,rfl,hd,hi,hl,h⟩:=h;unfold EA;rcases hd with rfl|rfl
 all_goals
  symm;refine iH (λ_=>.bl true) xs (λd hd A ha=>?_) (by rw[sz];omega) ?_
  ·have:=List.all_eq_true.mp hi d hd
   cases d with
   | int i =>
    walk_at "vg";symm;exact ha
   | _=>exact absurd this (by simp [isInt])
  rw[(pS xs).2];exact⟨(pS xs).1,h⟩
def wg:bA:=λds Q=>∃ks ps,ds=[.tup [.tup ks,.lst ps]]/\ks.all isInt=true/\ps.all isInt=true/\ks.length<=1000000/\ps.length<=1000000/\Q (.sh (.bl true))
theorem W5(ds:List D)(Q:B->Prop)(h:wg ds Q):Se xN {nx:=λ_=>Q (.sh .aX),rt:=λb _=>Q b} (aP Ki.length ds):=by
 obtain⟨ks,ps,rfl,h1,h2,h3,h4,h⟩:=h;unfold Se;refine au λN hN=>?_;symm;refine(if_neg (by decide +kernel)).mpr ⟨⟨rfl,rfl⟩,(if_neg (by decide +kernel)).mpr ?_⟩
 subst hN;have i0:∀P:D->Prop,P (.tup ks)->vR (D.tup [D.tup ks,D.lst ps]) (D.int 0) P:=λP hP=>a8 (n:=0) rfl rfl hP;have i1:∀P:D->Prop,P (.lst ps)->vR (D.tup [D.tup ks,D.lst ps]) (D.int 1) P:=λP hP=>a8 (n:=1) rfl rfl hP;refine au λN hN=>?_;symm;refine i0 _ ?_;symm;refine(if_neg (by decide +kernel)).mpr ?_
 refine i1 _ ?_;symm;refine(if_neg (by decide +kernel)).mpr ?_
 subst hN;symm;refine i0 _ ⟨_,ks,rfl,.inr rfl,h1,h3,?_⟩;symm;refine i1 _ ⟨_,ps,rfl,.inl rfl,h2,h4,?_⟩;symm;exact h
def Ee:bA:=λds Q=>∃(side:Int) (es:List D),ds=[.tup [.int side,.lst es]]/\TU es/\es.length<=1000000/\Q (.sh (.bl true))
theorem aax(ds:List D)(Q:B->Prop)(h:Ee ds Q):EF xN wg {nx:=λ_=>Q (.sh .aX),rt:=λb _=>Q b} (aP Aa.length ds):=by
 obtain⟨side,es,rfl,hp,hl,h⟩:=h;unfold EF;refine au λN hN=>?_;symm;refine(if_neg (by decide +kernel)).mpr ⟨⟨rfl,rfl⟩,(if_neg (by decide +kernel)).mpr ?_⟩
 subst hN;have i0:∀P:D->Prop,P (.int side)->vR (D.tup [D.int side,D.lst es]) (D.int 0) P:=λP hP=>a8 (n:=0) rfl rfl hP;have i1:∀P:D->Prop,P (.lst es)->vR (D.tup [D.int side,D.lst es]) (D.int 1) P:=λP hP=>a8 (n:=1) rfl rfl hP;refine au λN hN=>?_;symm;refine i0 _ ⟨by decide,_,[.int side],rfl,.inl rfl,rfl,by show 1<=1000000;decide,?_⟩
 symm;refine(if_neg (by decide +kernel)).mpr ?_
 refine i1 _ ?_;symm;refine(if_neg (by decide +kernel)).mpr ?_
 subst hN;symm;refine i1 _ ?_;symm;refine iH (λ_=>.bl true) es (λd hd A ha=>?_) (by rw[sz];omega) ?_
 ·obtain⟨ks,ps,rfl,a1,a2,a3,a4⟩:=hp d hd
  walk_at "vg";symm;refine⟨ks,ps,rfl,a1,a2,a3,a4,?_⟩;symm;exact ha
 rw[(pS es).2];exact⟨(pS es).1,h⟩
def cP(b:Bool)(pts:List (List Int))(j:Int):Bool:=match jW b pts with
 | .tup [.int f,_,_]=>decide (f<j)
 | _=>false
def pF(b:Bool)(pts:List (List Int))(j side:Int)(es:List D):Bool:=gX b side j&&fD (.lst es) (.lst (cellsOf pts side))&&!cP b pts j
def kJ:bA:=λds Q=>∃j:Int,ds=[.int j]/\1<=j/\Q (.sh .aX)
theorem W7(ds:List D)(Q:B->Prop)(h:kJ ds Q):Sf {nx:=λ_=>Q (.sh .aX),rt:=λb _=>Q b} (aP Kj.length ds):=by
 obtain⟨j,rfl,hj,h⟩:=h;unfold Sf;symm;rw[if_neg ⋯]
 exact h
def nE:bA:=λds Q=>∃(b:Bool) (n:Nat) (pts:List (List Int)) (j:Int),ds=[dS pts,cI b,.int j]/\Good n pts/\pts.length<=1000/\Q (.sh (.bl (cP b pts j)))
theorem Xa(ds:List D)(Q:B->Prop)(h:nE ds Q):Si nF {nx:=λ_=>Q (.sh .aX),rt:=λb _=>Q b} (aP Kn.length ds):=by
 obtain⟨b,n,pts,j,rfl,hg,hl,h⟩:=h;unfold Si;unfold cP at h;refine au λN hN=>?_;symm;refine⟨b,n,pts,rfl,hg,hl,?_⟩;rcases jX b pts with e|⟨p,q,e⟩
 ·rw[e]at h ⊢
  symm;subst hN;symm;exact h
 ·rw[e]at h ⊢
  unfold pairD at h ⊢;symm;subst hN;symm;refine a8 (n:=0) rfl rfl ?_;exact h
def rP:bA:=λds Q=>∃(n:Nat) (b:Bool) (pts:List (List Int)) (j side:Int) (es:List D),ds=[dS pts,cI b,.int j,.tup [.int side,.lst es]]/\Good n pts/\pts.length<=1000/\TU es/\es.length<=1000000/\(-(2^200)<side/\side<2^200)/\1<=j/\Q (.sh (.bl (pF b pts j side es)))
theorem PB(ds:List D)(Q:B->Prop)(h:rP ds Q):Es ig kJ Ee wk f6 nE {nx:=λ_=>Q (.sh .aX),rt:=λb _=>Q b} (aP zQ.length ds):=by
 obtain⟨n,b,pts,j,side,es,rfl,hg,hl,VU,hel,hs,hj,h⟩:=h;unfold Es;refine au λN hN=>?_;symm;refine⟨n,b,pts,rfl,hg.shape,?_⟩;symm;subst hN;refine au λN hN=>?_;symm;refine⟨j,rfl,hj,?_⟩;symm;subst hN;have i0:∀P:D->Prop,P (.int side)->vR (D.tup [D.int side,D.lst es]) (D.int 0) P:=λP hP=>a8 (n:=0) rfl rfl hP;have i1:∀P:D->Prop,P (.lst es)->vR (D.tup [D.int side,D.lst es]) (D.int 1) P:=λP hP=>a8 (n:=1) rfl rfl hP;refine au λN hN=>?_;symm;refine⟨side,es,rfl,VU,hel,?_⟩;symm;refine(if_neg ∅).mpr ?_
 refine i0 _ ?_;refine⟨b,side,j,rfl,by omega,?_⟩
 unfold pF at h;symm;cases he:gX b side j with
 | false =>
  rw[he,Bool.false_and,Bool.false_and]at h;exact(if_pos rfl).mpr h
 | true =>
  rw[he,Bool.true_and]at h;refine(if_neg ∅).mpr ?_
  have hs1:1<=side:=by
   unfold gX at he;rw[Bool.and_eq_true]at he;exact of_decide_eq_true he.1
  subst hN;refine au λN hN=>?_;symm;refine i1 _ ?_;refine i0 _ ?_;refine⟨n,pts,side,rfl,hg,hl,hs1,hs.2,?_⟩;symm;refine⟨⟨VU.ok,(kq hg hl).1.ok⟩,?_⟩;cases hq:fD (.lst es) (.lst (cellsOf pts side))with
  | false =>
   rw[hq,Bool.false_and]at h;exact(if_pos rfl).mpr h
  | true =>
   rw[hq,Bool.true_and]at h;refine(if_neg ∅).mpr ?_
   subst hN;symm;refine⟨b,n,pts,j,rfl,hg,hl,?_⟩;symm;exact h
def Ss(t:Int×Nat×Nat):D:=.tup [.int t.1,.int (t.2.1:Nat),.int (t.2.2:Nat)]
theorem Kb{b:Bool}{pts:List (List Int)}:∀l:List D,(∀d∈l,∃i j,d=pairD b pts i j)->∃ts:List (Int×Nat×Nat),l=ts.map Ss
 | [],_=>⟨[],rfl⟩
 | d::l,h=>by
  obtain⟨i,j,rfl⟩:=h d (List.mem_cons_self ..);obtain⟨ts,e⟩:=Kb l λx hx=>h x (List.mem_cons_of_mem _ hx);exact⟨(_,i,j)::ts,by rw[e];rfl⟩
theorem DF(b:Bool)(pts:List (List Int)):∃ts:List (Int×Nat×Nat),bJ b pts=ts.map Ss:=Kb (b:=b) (pts:=pts) _ λd hd=>by
 obtain⟨p,q,_,_,h⟩:=dX hd;exact⟨p,q,h⟩
def nearF(bound:Int):D->Option D
 | .tup [.int f,.int i,.int j]=>if f<=bound then some (.tup [.int i,.int j])else none
 | _=>none
theorem uh(bound:Int)(t:Int×Nat×Nat):nearF bound (Ss t)=if decide (t.1<=bound)=true then some (.tup [.int (t.2.1:Nat),.int (t.2.2:Nat)])else none:=by
 show(if t.1<=bound then _ else _)=_
 by_cases h:t.1<=bound
 ·rw[if_pos h,if_pos (decide_eq_true h)]
 ·rw[if_neg h,if_neg (by rw[decide_eq_false h];decide)]
def Di(b:Bool)(pts:List (List Int))(bound:Int):List D:=(bJ b pts).filterMap (nearF bound)
def kK:bA:=λds Q=>∃j:Int,ds=[.int j]/\0<=j/\Q (.sh .aX)
theorem Dz(ds:List D)(Q:B->Prop)(h:kK ds Q):Ey {nx:=λ_=>Q (.sh .aX),rt:=λb _=>Q b} (aP zW.length ds):=by
 obtain⟨j,rfl,hj,h⟩:=h;unfold Ey;symm;rw[if_neg ⋯]
 exact h
def rh:bA:=λds Q=>∃b n pts j,ds=[dS pts,cI b,.int j]/\Good n pts/\pts.length<=1000/\0<=j/\Q (.own (Di b pts j))
theorem Pw(ds:List D)(Q:B->Prop)(h:rh ds Q):Ex ig kK jK {nx:=λ_=>Q (.sh .aX),rt:=λb _=>Q b} (aP zV.length ds):=by
 obtain⟨b,n,pts,j,rfl,hg,hl,hj,h⟩:=h;unfold Ex;refine au λN hN=>?_;symm;refine⟨n,b,pts,rfl,hg.shape,?_⟩;symm;subst hN;refine au λN hN=>?_;symm;refine⟨j,rfl,hj,?_⟩;symm;subst hN;symm;refine⟨b,n,pts,rfl,hg,hl,?_⟩;symm;have hz:=ur (b:=b) hl;obtain⟨ts,e⟩:=DF b pts;unfold Di at h;rw[e]at h hz ⊢;rw[List.length_map]at hz;refine sA Ss (λt=>nearF j (Ss t)) ts (λt ht A Bn ha=>?_) (by rw[sz];omega) ?_
 ·rw[uh]at ha
  unfold Ss;symm
  by_cases hb:t.1<=j
  ·rw[if_pos (decide_eq_true hb)]at ha
   refine(if_pos hb).mpr ⟨by decide,ha⟩
  ·rw[if_neg (by rw[decide_eq_false hb];decide)]at ha
   exact(if_neg hb).mpr ha
 ·rw[List.filterMap_map]at h
  exact h
theorem iL:∀(n:Nat) (x:D),bG n x=true->fD x x=true
 | _,.aX,_=>rfl
 | _,.bl b,_=>by simp [fD]
 | _,.int i,_=>by simp [fD]
 | _,.str s,_=>by simp [fD]
 | 0,.tup _,h=>by simp [bG]at h
 | 0,.lst _,h=>by simp [bG]at h
 | n+1,.tup xs,h=>by
  have h':xs.all (bG n)=true:=h;show ku xs xs=true
  induction xs with
  | nil=>rfl
  | cons x r ih =>
   rw[List.all_cons,Bool.and_eq_true]at h';show(fD x x&&ku r r)=true;rw[iL n x h'.1,ih (by show r.all (bG n)=true;exact h'.2) h'.2];rfl
 | n+1,.lst xs,h=>by
  have h':xs.all (bG n)=true:=h;show ku xs xs=true
  induction xs with
  | nil=>rfl
  | cons x r ih =>
   rw[List.all_cons,Bool.and_eq_true]at h';show(fD x x&&ku r r)=true;rw[iL n x h'.1,ih (by show r.all (bG n)=true;exact h'.2) h'.2];rfl
 | 0,.dct _,h=>by simp [bG]at h
 | 0,.exc _,h=>by simp [bG]at h
 | 0,.gw _,h=>by simp [bG]at h
 | n+1,.dct _,h=>by simp [bG]at h
 | n+1,.exc _,h=>by simp [bG]at h
 | n+1,.gw _,h=>by simp [bG]at h
 | _,.sE _,h=>by simp [bG]at h
 | _,.kp ..,h=>by simp [bG]at h
def qZ:bA:=λds Q=>∃(p:List Int) (side:Int),ds=[bQ p,.int side]/\(1<=p.length/\p.length<=3)/\1<=side/\side<2^200/\Q (.sh (bQ (eI p side)))
theorem Pt(ds:List D)(Q:B->Prop)(h:qZ ds Q):ER ml kJ qY {nx:=λ_=>Q (.sh .aX),rt:=λb _=>Q b} (aP Af.length ds):=by
 obtain⟨p,side,rfl,hl,h1,h2,h⟩:=h;unfold ER;refine au λN hN=>?_;symm;refine⟨by decide,p.length,[p],rfl,⟨hl,λq hq=>by rw[List.mem_singleton.mp hq]⟩,?_⟩
 symm;subst hN;refine au λN hN=>?_;symm;refine⟨side,rfl,h1,?_⟩;symm;subst hN;symm;refine⟨p,side,rfl,by omega,h1,h2,?_⟩
 symm;exact h
def pT:D->D
 | .tup [.int f,_,_]=>if f<1 then .aX else .int f
 | _=>.aX
def Ec:bA:=λds Q=>∃b n pts,ds=[dS pts,cI b]/\Good n pts/\pts.length<=1000/\Q (.sh (pT (jW b pts)))
theorem aaw(ds:List D)(Q:B->Prop)(h:Ec ds Q):Sj nF {nx:=λ_=>Q (.sh .aX),rt:=λb _=>Q b} (aP Ko.length ds):=by
 obtain⟨b,n,pts,rfl,hg,hl,h⟩:=h;unfold Sj;refine au λN hN=>?_;symm;refine⟨b,n,pts,rfl,hg,hl,?_⟩;rcases jX b pts with e|⟨p,q,e⟩
 ·rw[e]at h ⊢
  symm;subst hN;symm;exact h
 ·rw[e]at h ⊢
  unfold pairD at h ⊢;symm;subst hN;refine au λN hN=>?_;symm;have h:Q (.sh (if fN b (pts.getD p []) (pts.getD q [])<1 then .aX else .int (fN b (pts.getD p []) (pts.getD q [])))):=h
  try simp only[Bool.false_eq_true,if_false]
  have step:∀P:D->Prop,P (.int (fN b (pts.getD p []) (pts.getD q [])))->vR (D.tup [D.int (fN b (pts.getD p []) (pts.getD q [])),D.int (p:Nat),D.int (q:Nat)]) (D.int 0) P:=λP hP=>a8 (n:=0) rfl rfl hP;refine step _ ?_;symm
  by_cases e1:fN b (pts.getD p []) (pts.getD q [])<1
  ·rw[if_pos e1]at h
   exact(if_pos e1).mpr h
  ·rw[if_neg e1]at h
   refine(if_neg e1).mpr ?_;subst hN;symm;refine step _ ?_;exact h
theorem B5{b:Bool}{pts:List (List Int)}{a:D}{l:List D}(e:b8 (bJ b pts)=a::l):∃p q,a=pairD b pts p q/\∀d∈b8 (bJ b pts),∃p' q',d=pairD b pts p' q'/\fN b (pts.getD p []) (pts.getD q [])<=fN b (pts.getD p' []) (pts.getD q' []):=by
 have hm:∀a∈b8 (bJ b pts),∃p q,a=pairD b pts p q:=λa ha=>by
  obtain⟨p,q,_,_,e⟩:=dX ((bF _).mem_iff.mp ha);exact⟨p,q,e⟩
 obtain⟨p,q,rfl⟩:=hm a (by rw[e];exact .head _)
 refine⟨p,q,rfl,λd hd=>?_⟩;obtain⟨p',q',rfl⟩:=hm d hd;refine⟨p',q',rfl,?_⟩;have hs:=da (bJ b pts);rw[e]at hs hd;rcases List.mem_cons.mp hd with e2|hd
 ·have:D.int (fN b (pts.getD p' []) (pts.getD q' []))=D.int (fN b (pts.getD p []) (pts.getD q [])):=by
   unfold pairD at e2
   injection e2 with e2
   exact(List.cons.inj e2).1
  injection this with this
  omega
 ·have:=(List.pairwise_cons.mp hs).1 _ hd
  unfold lM pairD bU at this;simp only[List.map_cons,List.map_nil,g9,HT.bw,Bool.not_eq_true']at this
  split at this
  ·omega
  ·have:=of_decide_eq_false this;omega
abbrev GL:=List (List Int×List Int)
def d3(g:GL):List Nt:=g.flatMap λe=>e.2.map λp=>(e.1,p)
def oV(g:GL)(e:Nt):GL:=match g.getLast? with
 | some l=>if l.1=e.1 then g.dropLast++[(l.1,l.2++[e.2])]else g++[(e.1,[e.2])]
 | none=>[(e.1,[e.2])]
theorem qj(g:GL)(c ps:List Int)(p:Int):oV (g++[(c,ps)]) (c,p)=g++[(c,ps++[p])]:=by
 unfold oV;rw[List.getLast?_concat];show(if c=c then _ else _)=_
 rw[if_pos rfl,List.dropLast_concat]
theorem qh(g:GL)(c ps:List Int)(e:Nt)(h:c≠e.1):oV (g++[(c,ps)]) e=(g++[(c,ps)])++[(e.1,[e.2])]:=by
 unfold oV;rw[List.getLast?_concat];show(if c=e.1 then _ else _)=_
 rw[if_neg h]
theorem fold_same(g:GL)(c:List Int):∀(ps qs:List Int),(qs.map λp=>((c,p):Nt)).foldl oV (g++[(c,ps)])=g++[(c,ps++qs)]
 | ps,[]=>by rw[List.append_nil];rfl
 | ps,q::qs=>by rw[List.map_cons,List.foldl_cons,qj,fold_same g c (ps++[q]) qs,List.append_assoc];rfl
theorem oS:∀(g h:GL),(∀e∈g,e.2≠[])->((h++g).map (·.1)).Nodup->(d3 g).foldl oV h=h++g
 | [],h,_,_=>by rw[List.append_nil];rfl
 | (c,[])::g,h,hn,hd=>absurd rfl (hn _ (List.mem_cons_self ..))
 | (c,p::qs)::g,h,hn,hd=>by
  have e1:oV h (c,p)=h++[(c,[p])]:=by
   rcases List.eq_nil_or_concat h with rfl|⟨h',l,rfl⟩
   ·rfl
   ·rw[List.concat_eq_append]at hd ⊢
    refine qh h' l.1 l.2 (c,p) λz=>?_;rw[List.map_append,List.map_append,List.nodup_append]at hd;exact hd.2.2 l.1 (by simp) c (by simp) z
  have ih:=oS g (h++[(c,p::qs)]) (λe he=>hn e (List.mem_cons_of_mem _ he)) (by rw[List.append_assoc];exact hd)
  show(((p::qs).map λp=>((c,p):Nt))++d3 g).foldl oV h=_;rw[List.map_cons,List.cons_append,List.foldl_cons,e1,List.foldl_append,fold_same];show(d3 g).foldl oV (h++[(c,p::qs)])=_;rw[ih,List.append_assoc];rfl
def nW(l:GL)(k:List Int)(p:Int):GL:=if(l.any λt=>decide (t.1=k))=true then l.map (λt=>if t.1=k then(t.1,t.2++[p])else t)else l++[(k,[p])]
def tabI(pts:List (List Int))(s:Int):Nat->GL
 | 0=>[]
 | i+1=>nW (tabI pts s i) (eI (pts.getD i []) s) (i:Nat)
def toPL(g:GL):PL:=g.map λt=>(t.1,t.2.map D.int)
theorem Ky(l:GL)(k:List Int)(p:Int):ki (toPL l) k (.int p)=toPL (nW l k p):=by
 have e:((toPL l).any λt=>decide (t.1=k))=l.any λt=>decide (t.1=k):=by unfold toPL;rw[List.any_map];rfl
 unfold ki nW;rw[e]
 split
 ·unfold toPL
  rw[List.map_map,List.map_map];refine List.map_congr_left λt _=>?_;show(if t.1=k then(t.1,t.2.map D.int++[D.int p])else(t.1,t.2.map D.int))=((if t.1=k then(t.1,t.2++[p])else t).1,(if t.1=k then(t.1,t.2++[p])else t).2.map D.int)
  split
  ·rw[List.map_append];rfl
  ·rfl
 ·unfold toPL
  rw[List.map_append];rfl
theorem wx(pts:List (List Int))(s:Int):∀i,dU pts s i=toPL (tabI pts s i)
 | 0=>rfl
 | i+1=>by
  show ki (dU pts s i) _ _=toPL (nW (tabI pts s i) _ _);rw[wx pts s i,Ky]
theorem yd(l:GL)(k:List Int)(d:Int)(h:(l.map (·.1)).Nodup):((nW l k d).map (·.1)).Nodup:=by
 unfold nW
 split
 ·have e:(l.map λt=>if t.1=k then(t.1,t.2++[d])else t).map (·.1)=l.map (·.1):=by
   rw[List.map_map];refine List.map_congr_left λt _=>?_;show(if t.1=k then(t.1,t.2++[d])else t).1=t.1
   split<;>rfl
  rw[e];exact h
 ·rename_i hn
  rw[List.map_append,List.nodup_append];refine⟨h,by simp,λx hx y hy z=>hn ?_⟩
  obtain⟨t,ht,e⟩:=List.mem_map.mp hx;have hy:y=k:=by simpa using hy
  exact List.any_eq_true.mpr ⟨t,ht,decide_eq_true (e.trans (z.trans hy))⟩
theorem gF(pts:List (List Int))(s:Int):∀i,((tabI pts s i).map (·.1)).Nodup
 | 0=>List.nodup_nil
 | i+1=>yd _ _ _ (gF pts s i)
theorem uO{k:List Int}{p:Int}:∀ {l:GL},k∉l.map (·.1)->(l.map λt=>if t.1=k then(t.1,t.2++[p])else t)=l
 | [],_=>rfl
 | t::l,h=>by
  rw[List.map_cons,List.mem_cons]at h;rw[List.map_cons,if_neg (λz=>h (.inl z.symm)),uO λz=>h (.inr z)]
theorem tH{k:List Int}{p:Int}:∀ {l:GL},(l.map (·.1)).Nodup->k∈l.map (·.1)->(d3 (l.map λt=>if t.1=k then(t.1,t.2++[p])else t)).Perm (d3 l++[(k,p)])
 | [],_,h=>absurd h List.not_mem_nil
 | t::l,hd,h=>by
  rw[List.map_cons,List.nodup_cons]at hd;show(((if t.1=k then(t.1,t.2++[p])else t).2.map λx=>(((if t.1=k then(t.1,t.2++[p])else t).1,x):Nt))++d3 (l.map λt=>if t.1=k then(t.1,t.2++[p])else t)).Perm ((t.2.map λp=>((t.1,p):Nt))++d3 l++[(k,p)])
  by_cases e:t.1=k
  ·rw[uO (e ▸ hd.1)]
   simp only[if_pos e];rw[List.map_append,List.append_assoc,List.append_assoc];refine List.Perm.append_left _ ?_;rw[e];exact List.perm_append_comm
  ·simp only[if_neg e]
   rw[List.append_assoc];refine List.Perm.append_left _ (tH hd.2 ?_);rw[List.map_cons,List.mem_cons]at h;exact h.resolve_left λz=>e z.symm
theorem B7(l:GL)(k:List Int)(p:Int)(hd:(l.map (·.1)).Nodup):(d3 (nW l k p)).Perm (d3 l++[(k,p)]):=by
 unfold nW
 split
 ·rename_i h
  obtain⟨t,ht,e⟩:=List.any_eq_true.mp h;exact tH hd (List.mem_map.mpr ⟨t,ht,of_decide_eq_true e⟩)
 ·unfold d3
  rw[List.flatMap_append];exact List.Perm.refl _
def ko(pts:List (List Int))(s:Int)(n:Nat):List Nt:=(List.range n).map λi=>(eI (pts.getD i []) s,((i:Nat):Int))
theorem tG(pts:List (List Int))(s:Int):∀i,(d3 (tabI pts s i)).Perm (ko pts s i)
 | 0=>List.Perm.refl _
 | i+1=>by
  refine(B7 _ _ _ (gF pts s i)).trans ?_;unfold ko;rw[List.range_succ,List.map_append];exact List.Perm.append_right _ (tG pts s i)
theorem Aj{l:GL}{k:List Int}{d:Int}{t:List Int×List Int}(h:t∈nW l k d):(∃u∈l,t.2=u.2)\/(∃u∈l,t.2=u.2++[d])\/t.2=[d]:=by
 unfold nW at h
 split at h
 ·obtain⟨u,hu,rfl⟩:=List.mem_map.mp h
  split
  ·exact .inr (.inl ⟨u,hu,rfl⟩)
  ·exact .inl ⟨u,hu,rfl⟩
 ·rcases List.mem_append.mp h with h|h
  ·exact .inl ⟨t,h,rfl⟩
  ·rw[List.mem_singleton.mp h]
   exact .inr (.inr rfl)
theorem jR{pts:List (List Int)}{s:Int}:∀ {i:Nat} {t:List Int×List Int},t∈tabI pts s i->t.2≠[]/\t.2.Pairwise (· < ·)/\∀p∈t.2,p<(i:Int)
 | 0,t,h=>nomatch h
 | i+1,t,h=>by
  rcases Aj h with⟨u,hu,e⟩|⟨u,hu,e⟩|e
  ·obtain⟨h1,h2,h3⟩:=jR hu
   rw[e];exact⟨h1,h2,λp hp=>by have:=h3 p hp;omega⟩
  ·obtain⟨h1,h2,h3⟩:=jR hu
   rw[e];refine⟨by simp,?_,λp hp=>?_⟩
   ·rw[List.pairwise_append]
    exact⟨h2,List.pairwise_singleton _ _,λa ha b hb=>by rw[List.mem_singleton.mp hb];exact h3 a ha⟩
   ·rcases List.mem_append.mp hp with hp|hp
    ·have:=h3 p hp;omega
    ·rw[List.mem_singleton.mp hp];omega
  ·rw[e]
   exact⟨by simp,List.pairwise_singleton _ _,λp hp=>by rw[List.mem_singleton.mp hp];omega⟩
def om(l:GL)(k:List Int):List Int:=((l.find? λt=>decide (t.1=k)).map (·.2)).getD []
theorem Im{l:GL}(hd:(l.map (·.1)).Nodup):l.map (λt=>(t.1,om l t.1))=l:=by
 conv=>rhs;rw[<- List.map_id l]
 refine List.map_congr_left λt ht=>?_;show(t.1,om l t.1)=t;unfold om;cases hf:l.find? λu=>decide (u.1=t.1)with
 | none=>exact absurd (List.find?_eq_none.mp hf t ht) (by simp)
 | some u =>
  have h1:=List.mem_of_find?_eq_some hf;have h2:u.1=t.1:=by simpa using List.find?_some hf
  have:u=t:=gq (·.1) hd h1 ht h2
  rw[this];rfl
theorem SA(l:GL)(k:List Int):kW (toPL l) k=(om l k).map D.int:=by
 unfold kW om toPL;rw[List.find?_map];show((Option.map _ (l.find? λt=>decide (t.1=k))).map _).getD []=_;cases l.find? λt=>decide (t.1=k)<;>rfl
def lH(pts:List (List Int))(s:Int):GL:=(b8 ((tabI pts s pts.length).map λt=>bQ t.1)).map λkd=>(bU kd,om (tabI pts s pts.length) (bU kd))
def GA(g:GL):List D:=g.map λe=>.tup [bQ e.1,.lst (e.2.map D.int)]
theorem oI(pts:List (List Int))(s:Int):cellsOf pts s=GA (lH pts s):=by
 unfold cellsOf lH GA;have e:(dU pts s pts.length).map (λt=>bQ t.1)=(tabI pts s pts.length).map λt=>bQ t.1:=by rw[wx];unfold toPL;rw[List.map_map];rfl
 rw[e,List.map_map];refine List.map_congr_left λkd M0=>?_;obtain⟨t,_,rfl⟩:=List.mem_map.mp ((bF _).mem_iff.mp M0);show D.tup [bQ t.1,.lst (kW (dU pts s pts.length) (bU (bQ t.1)))]=.tup [bQ (bU (bQ t.1)),.lst ((om _ (bU (bQ t.1))).map D.int)];rw[qv,wx,SA]
theorem iR(pts:List (List Int))(s:Int):(lH pts s).Perm (tabI pts s pts.length):=by
 unfold lH;refine((bF _).map _).trans ?_;rw[List.map_map];have e:((λkd=>(bU kd,om (tabI pts s pts.length) (bU kd))) ∘ λt:List Int×List Int=>bQ t.1)=λt=>(t.1,om (tabI pts s pts.length) t.1):=by
  funext t;show(bU (bQ t.1),om _ (bU (bQ t.1)))=_;rw[qv]
 rw[e,Im (gF pts s _)]
theorem tK(pts:List (List Int))(s:Int):((lH pts s).map (·.1)).Nodup/\(lH pts s).Pairwise λa b=>HT.lexLt b.1 a.1=false:=by
 refine⟨((iR pts s).map _).nodup_iff.mpr (gF pts s _),?_⟩;unfold lH;rw[List.pairwise_map];exact(da _).imp λh=>by unfold lM at h;simpa using h
theorem vL(pts:List (List Int))(s:Int):(d3 (lH pts s)).Pairwise λa b=>ltN b a=false:=by
 obtain⟨h1,h2⟩:=tK pts s;unfold d3;rw[List.pairwise_flatMap];refine⟨λe he=>?_,?_⟩
 ·have:=(jR ((iR pts s).mem_iff.mp he)).2.1
  rw[List.pairwise_map];refine this.imp λ{a b} h=>?_;unfold ltN;rw[if_pos rfl];exact decide_eq_false (by show¬b<a;omega)
 ·have h1:(lH pts s).Pairwise λa b=>a.1≠b.1:=List.pairwise_map.mp h1
  refine(h1.and h2).imp λ{a b} h x hx y hy=>?_;obtain⟨p,_,rfl⟩:=List.mem_map.mp hx;obtain⟨q,_,rfl⟩:=List.mem_map.mp hy;unfold ltN;rw[if_neg (λz=>h.1 z.symm)];exact h.2
theorem G7{a b:Nt}(h1:ltN a b=false)(h2:ltN b a=false):a=b:=by
 unfold ltN at h1 h2
 by_cases e:a.1=b.1
 ·rw[if_pos e]at h1
  rw[if_pos e.symm]at h2;have:=of_decide_eq_false h1;have:=of_decide_eq_false h2;exact Prod.ext e ⋯
 ·rw[if_neg e]at h1
  rw[if_neg (λz=>e z.symm)]at h2;exact absurd (Vs.kE _ _ h1 h2) e
theorem wd{pts:List (List Int)}{s:Int}{fs:List Nt}(hp:fs.Perm (ko pts s pts.length))(hs:fs.Pairwise λa b=>ltN b a=false):fs.foldl oV []=lH pts s:=by
 have p:fs.Perm (d3 (lH pts s)):=hp.trans ((tG pts s pts.length).symm.trans ((iR pts s).symm.flatMap_right _));have e:fs=d3 (lH pts s):=p.eq_of_pairwise (λa b _ _ h1 h2=>G7 h2 h1) hs (vL pts s);rw[e,oS _ [] (λt ht=>(jR ((iR pts s).mem_iff.mp ht)).1) (tK pts s).1];rfl
def rZ:zJ:=λds Q E=>∃(n:Nat) (b:Bool) (pts:List (List Int)) (j:Int),ds=[dS pts,cI b,.int j]/\Good n pts/\pts.length<=1000/\1<=j/\j<2^200/\((cP b pts j=true/\E "NoPaper")\/(cP b pts j=false/\∀r,dZ b j r->Q (.sh (.tup [.int r,.lst (cellsOf pts r)]))))
theorem Yi(ds:List D)(Q:B->Prop)(E:Str->Prop)(h:rZ ds Q E):xV (λc _=>E c) ig kJ nE xO f6 {nx:=λ_=>Q (.sh .aX),rt:=λb _=>Q b} (aP zM.length ds):=by
 obtain⟨n,b,pts,j,rfl,hg,hl,hj,S4,h⟩:=h;unfold xV;refine au λN hN=>?_;symm;refine⟨n,b,pts,rfl,hg.shape,?_⟩;symm;subst hN;refine au λN hN=>?_;symm;refine⟨j,rfl,hj,?_⟩;symm;subst hN;refine au λN hN=>?_;symm;refine⟨b,n,pts,j,rfl,hg,hl,?_⟩;symm;rcases h with⟨hn,h⟩|⟨hn,h⟩
 ·rw[hn]
  exact(if_pos rfl).mpr ⟨by decide,h⟩
 rw[hn];refine(if_neg ∅).mpr ?_
 subst hN;refine au λN hN=>?_;symm;refine⟨b,j,rfl,hj,S4,λr hr=>?_⟩;symm;subst hN;symm;have VZ:=hr.pos hj;refine⟨n,pts,r,rfl,hg,hl,VZ.1,by omega,?_⟩
 symm;exact⟨by decide,h r hr⟩
def rQ:bA:=λds Q=>∃(n:Nat) (b:Bool) (pts:List (List Int)) (j:Int),ds=[dS pts,cI b,.int j]/\Good n pts/\pts.length<=1000/\1<=j/\j<2^200/\((cP b pts j=true/\Q (.sh .aX))\/(cP b pts j=false/\∀r,dZ b j r->Q (.sh (.tup [.int r,.lst (cellsOf pts r)]))))
theorem PD(ds:List D)(Q:B->Prop)(h:rQ ds Q):EK rZ {nx:=λ_=>Q (.sh .aX),rt:=λb _=>Q b} (aP Ad.length ds):=by
 obtain⟨n,b,pts,j,rfl,hg,hl,hj,S4,h⟩:=h;unfold EK;refine au λN hN=>?_;symm;subst hN;refine au λN hN=>?_;symm;subst hN;refine au λN hN=>?_;symm;refine⟨n,b,pts,j,rfl,hg,hl,hj,S4,?_⟩;rcases h with⟨hn,h⟩|⟨hn,h⟩
 ·refine .inl ⟨hn,?_⟩
  refine⟨⟨by decide,by decide +kernel⟩,?_⟩
  symm;subst hN;symm;exact h
 ·refine .inr ⟨hn,λr hr=>?_⟩
  symm;subst hN;symm;exact h r hr
def x9(ts:nR)(g:GL):Prop:=ts.map (λt=>(t.2.1,t.2.2))=g.map λe=>(bQ e.1,e.2.map D.int)
theorem x9.d{ts:nR}{g:GL}(h:x9 ts g):Fs ts=.lst (GA g):=by
 have:ts.map (λt=>D.tup [t.2.1,.lst t.2.2])=g.map λe=>D.tup [bQ e.1,.lst (e.2.map D.int)]:=by
  have:=congrArg (List.map λ(x:D×List D)=>D.tup [x.1,.lst x.2]) h
  rwa [List.map_map,List.map_map]at this
 unfold Fs GA;rw[this]
theorem x9.snoc{ts:nR}{t:Addr×D×List D}{g:GL}(h:x9 (ts++[t]) g):∃g' e,g=g'++[e]/\x9 ts g'/\t.2.1=bQ e.1/\t.2.2=e.2.map D.int:=by
 unfold x9 at h;rw[List.map_append]at h;rcases List.eq_nil_or_concat g with rfl|⟨g',e,rfl⟩
 ·have:=congrArg List.length h
  simp at this
 ·rw[List.concat_eq_append,List.map_append]at h
  obtain⟨h1,h2⟩:=List.append_inj' h (by rfl)
  have h2:((t.2.1,t.2.2):D×List D)=(bQ e.1,e.2.map D.int):=by simpa using h2
  exact⟨g',e,List.concat_eq_append ..,h1,congrArg Prod.fst h2,congrArg Prod.snd h2⟩
theorem x9.add{ts:nR}{t:Addr×D×List D}{g:GL}{e:List Int×List Int}(h:x9 ts g)(h1:t.2.1=bQ e.1)(h2:t.2.2=e.2.map D.int):x9 (ts++[t]) (g++[e]):=by
 unfold x9 at h ⊢;rw[List.map_append,List.map_append,h];show _++[(t.2.1,t.2.2)]=_++[(bQ e.1,e.2.map D.int)];rw[h1,h2]
def Small(g:GL)(i:Nat):Prop:=g.length<=i/\∀e∈g,e.2.length<=i
theorem yt{g:GL}{i:Nat}(e:Nt)(h:Small g i):Small (oV g e) (i+1):=by
 have new:Small (g++[(e.1,[e.2])]) (i+1):=⟨by rw[List.length_append];have:=h.1;simp only[List.length_cons,List.length_nil];omega,λx hx=>by
  rcases List.mem_append.mp hx with hx|hx
  ·have:=h.2 x hx;omega
  ·rw[List.mem_singleton.mp hx];show 1<=i+1;omega⟩
 rcases List.eq_nil_or_concat g with rfl|⟨g',l,rfl⟩
 ·exact new
 ·rw[List.concat_eq_append]at h new ⊢
  by_cases z:l.1=e.1
  ·have:oV (g'++[l]) e=g'++[(l.1,l.2++[e.2])]:=by rw[show e=(l.1,e.2)from Prod.ext z.symm rfl];exact qj g' l.1 l.2 e.2
   rw[this];have hl:=h.1;rw[List.length_append]at hl;refine⟨by rw[List.length_append];simp only[List.length_cons,List.length_nil]at hl ⊢;omega,λx hx=>?_⟩
   rcases List.mem_append.mp hx with hx|hx
   ·have:=h.2 x (by simp [hx]);omega
   ·rw[List.mem_singleton.mp hx]
    have:=h.2 l (by simp)
    show(l.2++[e.2]).length<=_;rw[List.length_append];simp only[List.length_cons,List.length_nil];omega
  ·have:oV (g'++[l]) e=(g'++[l])++[(e.1,[e.2])]:=qh g' l.1 l.2 e z
   rw[this];exact new
theorem Pg(g:GL):bG 8 (.lst (GA g))=true:=List.all_eq_true.mpr λd hd=>by
 obtain⟨e,_,rfl⟩:=List.mem_map.mp hd;have hi:∀(m:Nat) (l:List Int),(l.map D.int).all (bG m)=true:=λm l=>by
  rw[List.all_map];exact List.all_eq_true.mpr λ_ _=>by cases m<;>rfl
 show(bG 6 (.tup (e.1.map D.int))&&(bG 6 (.lst (e.2.map D.int))&&true))=true;rw[show bG 6 (.tup (e.1.map D.int))=(e.1.map D.int).all (bG 5)from rfl,show bG 6 (.lst (e.2.map D.int))=(e.2.map D.int).all (bG 5)from rfl,hi,hi];rfl
theorem xC(l:List Int):bG 8 (bQ l)=true:=by
 show(l.map D.int).all (bG 7)=true;rw[List.all_map];exact List.all_eq_true.mpr λ_ _=>rfl
def Eb:bA:=λds Q=>∃(n:Nat) (pts:List (List Int)) (s:Int),ds=[dS pts,.int s]/\Good n pts/\pts.length<=1000/\1<=s/\s<2^200/\Q (.sh (.tup [.int s,.lst (cellsOf pts s)]))
theorem aav(ds:List D)(Q:B->Prop)(h:Eb ds Q):EY qZ {nx:=λ_=>Q (.sh .aX),rt:=λb _=>Q b} (aP Ah.length ds):=by
 obtain⟨n,pts,s,rfl,hg,hl,h1,h2,h⟩:=h;unfold EY;rw[show dS pts=.lst (pts.map bQ)from rfl]
 refine au λN hN=>?_;symm;rw[gm];have hlen:(pts.mapIdx λi x=>(i,x)).length=pts.length:=List.length_mapIdx;refine dk (λq:Nat×List Int=>.tup [.int (q.1:Nat),bQ q.2]) (λq=>qA (eI q.2 s,((q.1:Nat):Int))) _ (λq hq A ha=>?_) (by rw[sz,hlen];omega) ?_
 ·walk_at "vg"
  symm;have hp:q.2∈pts:=by
   obtain⟨i,hi⟩:=List.getElem?_of_mem hq;exact List.mem_of_getElem? (mK hi).2
  have hp2:=(hg.2 _ hp).1;refine⟨q.2,s,rfl,by rw[hp2];exact hg.1,h1,h2,?_⟩
  symm;exact⟨by decide,ha⟩
 symm;have VW:(pts.mapIdx λi x=>(i,x)).map (λq=>((eI q.2 s,((q.1:Nat):Int)):Nt))=ko pts s pts.length:=by
  unfold ko;refine List.ext_getElem (by rw[List.length_map,List.length_map,hlen,List.length_range]) λi a1 a2=>?_
  rw[List.length_map,hlen]at a1;rw[List.getElem_map,List.getElem_map,List.getElem_mapIdx,List.getElem_range,List.getD_eq_getElem?_getD,List.getElem?_eq_getElem a1];rfl
 refine⟨_,(List.map_map (f:=λq:Nat×List Int=>((eI q.2 s,((q.1:Nat):Int)):Nt)) (g:=qA)).symm,λfs hp hpw=>?_⟩;rw[VW]at hp;have hfl:fs.length=pts.length:=by rw[hp.length_eq];unfold ko;rw[List.length_map,List.length_range]
 have VF:=wd hp hpw;subst hN;refine au λN hN=>?_;symm;subst hN;refine au λN hN=>?_;symm;refine cX qA fs (λi σ=>∃ts x4 x5,σ=[some (.sh (.lst (pts.map bQ))),some (.sh (.int s)),some (.sh (.lst (fs.map qA))),some (.obj (mF ts)),x4,x5]/\x9 ts ((fs.take i).foldl oV [])/\Small ((fs.take i).foldl oV []) i) (λi q σ N' hx hI oW=>?_) (λσ hI=>?_) ⟨[],none,none,rfl,rfl,Nat.le_refl _,λe he=>by cases he⟩
 ·obtain⟨ts,x4,x5,rfl,yx,Fy⟩:=hI
  obtain⟨c,p⟩:=q;have hi:i<fs.length:=(List.getElem?_eq_some_iff.mp hx).1;have S7:fs.take (i+1)=fs.take i++[(c,p)]:=by rw[List.take_succ,hx];rfl
  rw[S7,List.foldl_append]at oW;generalize (fs.take i).foldl oV []=g at yx Fy oW;have oW:∀bN,(∃ts x4 x5,bN=[some (.sh (.lst (pts.map bQ))),some (.sh (.int s)),some (.sh (.lst (fs.map qA))),some (.obj (mF ts)),x4,x5]/\x9 ts (oV g (c,p))/\Small (oV g (c,p)) (i+1))->N' bN:=oW;rw[show qA (c,p)=.tup [.tup (c.map D.int),.int p]from rfl]
  walk_at "vg";refine au λN1 GC=>?_;have put:∀(FE:nR) (t0:Addr×D×List D),t0.2.2.length<1000000->N' [some (.sh (.lst (pts.map bQ))),some (.sh (.int s)),some (.sh (.lst (fs.map qA))),some (.obj (mF (FE++[(t0.1,t0.2.1,t0.2.2++[.int p])]))),some (.sh (.tup (c.map D.int))),some (.sh (.int p))]->N1 [some (.sh (.lst (pts.map bQ))),some (.sh (.int s)),some (.sh (.lst (fs.map qA))),some (.obj (mF (FE++[t0]))),some (.sh (.tup (c.map D.int))),some (.sh (.int p))]:=by
   intro FE t0 gK q;subst GC;symm;exact⟨FE,t0,rfl,FE,t0,rfl,rfl,gK,q⟩
  have M7:=yt (c,p) Fy;symm;rw[yx.d];refine⟨by decide,⟨Pg g,rfl⟩,?_⟩
  have htl:ts.length<1000000:=by
   have:=congrArg List.length yx;rw[List.length_map,List.length_map]at this;have:=Fy.1;omega
  have new:oV g (c,p)=g++[(c,[p])]->∀p1:Addr,N1 [some (.sh (.lst (pts.map bQ))),some (.sh (.int s)),some (.sh (.lst (fs.map qA))),some (.obj (mF (ts++[(p1,.tup (c.map D.int),[])]))),some (.sh (.tup (c.map D.int))),some (.sh (.int p))]:=λe p1=>by
   refine put ts (p1,.tup (c.map D.int),[]) (by show 0<1000000;decide) (oW _ ⟨_,_,_,rfl,?_,M7⟩)
   rw[e];exact x9.add yx rfl rfl
  rcases List.eq_nil_or_concat g with rfl|⟨g',l,rfl⟩
  ·refine(if_pos rfl).mpr ⟨⟨_,rfl⟩,ts,rfl,htl,new rfl⟩
  ·rw[List.concat_eq_append]at yx Fy M7 oW new ⊢
   have eg:GA (g'++[l])=GA g'++[.tup [bQ l.1,.lst (l.2.map D.int)]]:=by unfold GA;rw[List.map_append];rfl
   have ne:∀(xs:List D) (x:D),fD (.lst (xs++[x])) (.lst [])=false:=λxs x=>by cases xs<;>rfl
   refine(if_neg (by rw[eg,ne];decide)).mpr ?_
   rw[eg];show(match L2.lA (GA g'++[.tup [bQ l.1,.lst (l.2.map D.int)]]) (-1)with|some d=>vR d (D.int 0) _|none=>False)
   rw[Vc.sj];refine a8 (n:=0) rfl rfl ?_;refine⟨⟨xC _,xC _⟩,?_⟩;rw[show D.tup (c.map D.int)=bQ c from rfl,vE]
   by_cases z:l.1=c
   ·refine(if_neg (by rw[decide_eq_true z];decide)).mpr ?_
    rcases List.eq_nil_or_concat ts with rfl|⟨ts',t,rfl⟩
    ·have:=congrArg List.length yx
     simp at this
    rw[List.concat_eq_append]at yx ⊢;obtain⟨g2,e2,h3,h4,h5,h6⟩:=yx.snoc;obtain⟨h7,h8⟩:=List.append_inj' h3 rfl;have h8:l=e2:=by simpa using h8
    subst h7 h8;have GJ:=Fy.2 l (by simp)
    refine put ts' t (by rw[h6,List.length_map];omega) (oW _ ⟨_,_,_,rfl,?_,M7⟩)
    have:oV (g'++[l]) (c,p)=g'++[(l.1,l.2++[p])]:=by rw[<- z];exact qj g' l.1 l.2 p
    rw[this];refine h4.add h5 ?_;show t.2.2++[D.int p]=(l.2++[p]).map D.int;rw[h6,List.map_append];rfl
   ·exact(if_pos (decide_eq_false z)).mpr ⟨⟨_,rfl⟩,ts,rfl,htl,new (qh g' l.1 l.2 (c,p) z)⟩
 ·obtain⟨ts,x4,x5,rfl,yx,Fy⟩:=hI
  rw[List.take_of_length_le (Nat.le_refl _),VF]at yx;subst hN;symm;refine⟨ts,rfl,?_⟩;rw[yx.d,<- oI];exact⟨by decide,h⟩
def rO:kY:=λxs ds Q=>cg xs/\∃b pts,ds=[.lst (b8 (bJ b pts)),cI b]/\pts.length<=1000/\∀(js:List Int) ys,(∀j∈js,1<=j/\j<10^34)->js.length<=9->cg ys->Q (.own (js.map D.int)) ys
theorem Xb(xs ds:List D)(Q:B->List D->Prop)(h:rO xs ds Q):Sh gB {nx:=vO Q (.sh .aX),rt:=λb σ=>vO Q b σ} (bz Kl.length xs ds):=by
 obtain⟨r0,b,pts,rfl,hl,h⟩:=h;have hz:=ur (b:=b) hl;have hz2:=(bF (bJ b pts)).length_eq;have hm:∀a∈b8 (bJ b pts),∃p q,a=pairD b pts p q:=λa ha=>by
  obtain⟨p,q,_,_,e⟩:=dX ((bF _).mem_iff.mp ha);exact⟨p,q,e⟩
 have mid:b8 (bJ b pts)=(b8 (bJ b pts)).map id:=(List.map_id _).symm;unfold Sh
 -- near
 refine au λN hN=>?_;simp only[bz];symm;rw[show(1:Int)=((1:Nat):Int)from rfl,Ba]
 have S7:((b8 (bJ b pts)).take 1).length<=1:=by rw[List.length_take];omega
 refine iH (λd=>match d with|.tup [.int f,_,_]=>.int f|_=>.int 0) _ (λd hd A ha=>?_) (by rw[sz];omega) ?_
 ·obtain⟨p,q,rfl⟩:=hm d (List.mem_of_mem_take hd)
  unfold pairD at ha ⊢;walk_at "vg";symm;refine a8 (n:=0) rfl rfl ?_;exact ha
 refine⟨by decide,by rw[List.length_map,sz];omega,?_⟩
 refine cF ∅ (by rw[List.length_append];show(0:Int)<_;simp only[List.length_cons,List.length_nil];omega) λd hd=>?_
 obtain⟨near,rfl⟩:∃near:Int,d=.int near:=by
  rcases List.mem_append.mp hd with hd|hd
  ·obtain⟨x,hx,rfl⟩:=List.mem_map.mp hd
   obtain⟨p,q,rfl⟩:=hm x (List.mem_of_mem_take hx);exact⟨_,rfl⟩
  ·exact⟨9,List.mem_singleton.mp hd⟩
 clear hd S7;subst hN
 -- far
 refine au λN hN=>?_;symm;refine⟨by decide,by decide,by rw[sz];omega,⟨_,rfl⟩,r0,_,rfl,by omega,by omega,λa1 x1 Zg a11 r1=>?_⟩
 symm;refine cF Zg (by rw[List.length_cons];omega) λd hd=>?_
 obtain⟨ZE,i,j,rfl⟩:∃f i j,d=.tup [.int f,.int i,.int j]:=by
  rcases List.mem_cons.mp hd with rfl|hd
  ·exact⟨_,_,_,rfl⟩
  ·obtain⟨p,q,rfl⟩:=hm d hd
   exact⟨_,_,_,rfl⟩
 clear hd;refine a8 (n:=0) rfl rfl ?_;symm;subst hN
 -- some
 refine au λN hN=>?_;symm;refine⟨⟨_,rfl⟩,r1,12,rfl,by decide,by decide,λa2 x2 _ _ r2=>?_⟩
 symm;refine⟨by unfold gM;omega,by decide,?_⟩
 subst hN;refine au λN hN=>?_;obtain⟨so,eso,V1⟩:∃so:List Int,[D.int 1,D.int 2,D.int (1+a2),D.int near,D.int (near+1),D.int (near-1),D.int (near/2),D.int ZE]=so.map D.int/\so.length=8:=⟨[1,2,1+a2,near,near+1,near-1,near/2,ZE],rfl,rfl⟩;rw[eso];have go:∀so:List Int,so.length=9->N [some (.own x2),some (.sh (.lst (b8 (bJ b pts)))),some (.sh (cI b)),some (.sh (.int near)),some (.sh (.int ZE)),some (.own (so.map D.int))]:=by
  intro so V1;subst hN;symm;refine⟨by decide,?_⟩
  refine dk D.int (λj:Int=>D.int (max 1 (min (10^34-1) j))) so (λj _ A ha=>?_) (by rw[V1];decide) ?_
  ·walk_at "vg"
   symm;refine⟨by unfold nU;decide,?_⟩
   rw[show(10:Int)^Int.toNat 34=10^34 from rfl]
   have e:(if(if j<10^34-1 then j else 10^34-1)>1 then if j<10^34-1 then j else 10^34-1 else 1)=max 1 (min (10^34-1) j):=by
    by_cases h1:j<10^34-1
    ·rw[if_pos h1,Int.min_eq_right ⋯]
     by_cases h2:j>1
     ·rw[if_pos h2,Int.max_eq_right ⋯]
     ·rw[if_neg h2,Int.max_eq_left ⋯]
    ·rw[if_neg h1,if_pos ∅,Int.min_eq_left ⋯];decide
   rw[e];exact ha
  have e:so.map (λj:Int=>D.int (max 1 (min (10^34-1) j)))=(so.map λj:Int=>max 1 (min (10^34-1) j)).map D.int:=by rw[List.map_map];rfl
  rw[e];refine h _ _ (λj hj=>?_) (by rw[List.length_map,V1];decide) r2
  obtain⟨i,_,rfl⟩:=List.mem_map.mp hj;show 1<=max 1 (min (10^34-1) i)/\max 1 (min (10^34-1) i)<10^34;omega
 symm;refine⟨⟨_,rfl⟩,by unfold nU;decide,.inl ∅,by unfold nU;decide,.inl ∅,by decide,⟨rY b,ft⟩,?_⟩
 refine cF (by split<;>omega) (by simp only[List.length_cons,List.length_nil];split<;>omega) λd hd=>?_
 obtain⟨m,rfl⟩:∃m:Int,d=.int m:=by
  simp only[List.mem_cons,List.not_mem_nil,or_false]at hd;rcases hd with rfl|rfl<;>exact⟨_,rfl⟩
 refine⟨by rw[List.length_map,V1];decide,?_⟩
 rw[show so.map D.int++[D.int m]=(so++[m]).map D.int by rw[List.map_append];rfl]
 exact go _ (by rw[List.length_append,V1];rfl)
theorem mM(b:Bool):∀p q:List Int,0<=fN b p q
 | [],_=>Int.le_refl _
 | _::_,[]=>Int.le_refl _
 | x::p,y::q=>by
  show 0<=stepI b x y+fN b p q;have h1:0<=stepI b x y:=by
   have ha:0<=pQ (x-y):=by unfold pQ;split<;>omega
   cases b
   ·exact ha
   ·exact Int.mul_nonneg ha ha
  have:=mM b p q;omega
def i9(b:Bool)(pts:List (List Int)):D:=match jW b pts with
 | .tup [.int f,_,_]=>.int f
 | _=>.aX
theorem ph{b:Bool}{pts:List (List Int)}{j i:Int}(h:cP b pts j=false)(hi:i<=j):cP b pts i=false:=by
 unfold cP at h ⊢;rcases jX b pts with e|⟨p,q,e⟩
 ·rw[e]
 ·rw[e]at h ⊢
  have h:decide (fN b (pts.getD p []) (pts.getD q [])<j)=false:=h;show decide (fN b (pts.getD p []) (pts.getD q [])<i)=false;have:=of_decide_eq_false h;exact decide_eq_false ⋯
theorem Dj{b:Bool}{pts:List (List Int)}{j:Int}(h:cP b pts j=false):Di b pts (j-1)=[]:=by
 have e2:jW b pts=((b8 (bJ b pts)).head?).getD .aX:=by unfold jW;rw[oB (fu b pts)]
 unfold cP at h;rw[e2]at h;refine List.filterMap_eq_nil_iff.mpr λd hd=>?_;have hd:=(bF (bJ b pts)).mem_iff.mpr hd;cases e:b8 (bJ b pts)with
 | nil=>rw[e]at hd;cases hd
 | cons a l =>
  obtain⟨p,q,rfl,mS⟩:=B5 e;rw[e]at h;obtain⟨p',q',rfl,hle⟩:=mS d hd;have h:decide (fN b (pts.getD p []) (pts.getD q [])<j)=false:=h;have:=of_decide_eq_false h;show nearF (j-1) (Ss (fN b (pts.getD p' []) (pts.getD q' []),p',q'))=none;rw[uh];exact if_neg (by simp only[decide_eq_true_eq];omega)
theorem uG{b:Bool}{j r i s:Int}(hj:1<=j)(h:dZ b j r)(hi:i<=j)(hs:r<=s):gX b s i=true:=by
 have hp:=h.pos hj;unfold gX;rw[decide_eq_true (show 1<=s by omega),Bool.true_and]
 unfold dZ at h;cases b
 ·have h:r=j:=h
  exact decide_eq_true (by show i<=s;omega)
 ·have h:my j r:=h
  have h1:r*r<=s*s:=Int.mul_le_mul hs hs ⋯ ⋯
  have:=h.2.2.1;exact decide_eq_true (by show i<=s*s;omega)
theorem HY{b:Bool}{j r i s:Int}(hi:1<=i)(hj:i<=j)(h:dZ b j r)(h':dZ b i s):s<=r:=by
 unfold dZ at h h';cases b
 ·have h:r=j:=h
  have h':s=i:=h';omega
 ·have h:my j r:=h
  have h':my i s:=h';refine Classical.byContradiction λhc=>?_;have h1:r<=s-1:=by omega
  have h2:r*r<=(s-1)*(s-1):=Int.mul_le_mul h1 h1 (by have:=h.1;omega) (by have:=h'.1;omega)
  have:=h.2.2.1;have:=h'.2.2.2;omega
theorem DG{n:Nat}{pts:List (List Int)}{s:Int}(hg:Good n pts)(hl:pts.length<=1000)(r:Int):bG 8 (.tup [.int r,.lst (cellsOf pts s)])=true:=by
 have hi:∀(m:Nat) (l:List Int),(l.map D.int).all (bG m)=true:=λm l=>by
  rw[List.all_map];exact List.all_eq_true.mpr λ_ _=>by cases m<;>rfl
 have:bG 7 (.lst (cellsOf pts s))=true:=by
  rw[oI];refine List.all_eq_true.mpr λd hd=>?_;obtain⟨e,_,rfl⟩:=List.mem_map.mp hd;show(bG 5 (.tup (e.1.map D.int))&&(bG 5 (.lst (e.2.map D.int))&&true))=true;rw[show bG 5 (.tup (e.1.map D.int))=(e.1.map D.int).all (bG 4)from rfl,show bG 5 (.lst (e.2.map D.int))=(e.2.map D.int).all (bG 4)from rfl,hi,hi];rfl
 show(true&&(bG 7 (.lst (cellsOf pts s))&&true))=true;rw[this];rfl
theorem uk(b:Bool)(pts:List (List Int))(j:Int):(i9 b pts=.aX/\cP b pts j=false)\/∃f:Int,i9 b pts=.int f/\cP b pts j=decide (f<j):=by
 unfold i9 cP;rcases jX b pts with e|⟨p,q,e⟩
 ·rw[e];exact .inl ⟨rfl,rfl⟩
 ·rw[e];exact .inr ⟨_,rfl,rfl⟩
def jO:kY:=λxs ds Q=>cg xs/\∃(n:Nat) (b:Bool) (pts:List (List Int)) (j:Int),ds=[dS pts,cI b,.int j,i9 b pts]/\Good n pts/\pts.length<=1000/\1<=j/\j<10^34/\∀ys,cg ys->Q (.sh (.bl true)) ys
theorem Hn(xs ds:List D)(Q:B->List D->Prop)(h:jO xs ds Q):EE rQ rP Eb gB rh {nx:=vO Q (.sh .aX),rt:=λb σ=>vO Q b σ} (bz z9.length xs ds):=by
 obtain⟨r0,n,b,pts,j,rfl,hg,hl,hj,S4,h⟩:=h;unfold EE;refine au λN hN=>?_;simp only[bz];symm;refine⟨n,b,pts,j,rfl,hg,hl,hj,by omega,?_⟩
 have hm:=uk b pts j;generalize i9 b pts=md at hm ⊢;cases hn:cP b pts j with
 | true =>
  rw[hn]at hm;obtain⟨f,rfl,hf⟩:∃f:Int,md=.int f/\true=decide (f<j):=by
   rcases hm with⟨_,z⟩|z
   ·cases z
   ·exact z
  refine .inl ⟨rfl,?_⟩;symm;subst hN;refine au λN hN=>?_;symm;rw[<- hf];refine⟨⟨rfl,rfl⟩,(if_neg ∅).mpr ?_⟩
  subst hN;refine au λN hN=>?_;symm;refine⟨⟨_,rfl⟩,r0,100,rfl,by decide,by decide,λt r1 t0 t1 JN=>?_⟩
  symm;refine⟨n,pts,j+t,rfl,hg,hl,by omega,by omega,?_⟩
  symm;have hp:=(kq (s:=j+t) hg hl);refine⟨n,b,pts,j,j+t,_,rfl,hg,hl,hp.1,by have:=hp.2;omega,⟨by omega,by omega⟩,hj,?_⟩
  symm;have e:pF b pts j (j+t) (cellsOf pts (j+t))=false:=by unfold pF;rw[hn,Bool.not_true,Bool.and_false]
  rw[e];exact h _ JN
 | false =>
  refine .inr ⟨rfl,λr hr=>?_⟩;rw[hn]at hm;have VZ:=hr.pos hj;have CQ:=DG (s:=r) hg hl r;symm;subst hN;refine au λN hN=>?_;have go:N [some (B.own xs),some (B.sh (dS pts)),some (B.sh (cI b)),some (B.sh (D.int j)),some (B.sh md),some (B.sh (D.tup [D.int r,D.lst (cellsOf pts r)])),none,none,none,none]:=by
   subst hN;refine au λN hN=>?_;symm;refine(if_neg ∅).mpr ?_
   subst hN;refine au λN hN=>?_;symm;refine a8 (n:=0) rfl rfl ?_;refine⟨n,pts,r,rfl,hg,hl,VZ.1,by omega,?_⟩
   symm;refine⟨⟨CQ,CQ⟩,?_⟩;rw[iL 8 _ CQ];refine(if_neg ∅).mpr ?_
   refine⟨b,n,pts,j-1,rfl,hg,hl,by omega,?_⟩
   rw[Dj hn];symm;refine⟨by decide,⟨rfl,rfl⟩,(if_neg ∅).mpr ?_⟩
   subst hN
   -- wider
   refine au λN hN=>?_;symm;refine a8 (n:=0) rfl rfl ?_;refine⟨⟨_,rfl⟩,r0,100,rfl,by decide,by decide,λt r1 t0 t1 JN=>?_⟩
   symm;refine⟨n,pts,r+1+t,rfl,hg,hl,by omega,by omega,?_⟩
   symm;subst hN;refine au λN hN=>?_;symm;rw[show [D.tup [D.int r,D.lst (cellsOf pts r)],D.tup [D.int (r+1+t),D.lst (cellsOf pts (r+1+t))]]=[r,r+1+t].map (λs=>D.tup [D.int s,D.lst (cellsOf pts s)])from rfl]
   refine⟨by decide,?_⟩
   refine cX (λs:Int=>D.tup [D.int s,D.lst (cellsOf pts s)]) [r,r+1+t] (λi σ=>∃x6 x7 x8,σ=[some (B.own r1),some (B.sh (dS pts)),some (B.sh (cI b)),some (B.sh (D.int j)),some (B.sh md),some (B.sh (D.tup [D.int r,D.lst (cellsOf pts r)])),x6,x7,x8,none]) (λi s σ N1 hx hI GC=>?_) (λσ hI=>?_) ⟨_,_,_,rfl⟩
   ·obtain⟨x6,x7,x8,rfl⟩:=hI
    have hs:r<=s/\s<=r+200:=by
     have:=List.mem_of_getElem? hx;simp only[List.mem_cons,List.not_mem_nil,or_false]at this;rcases this with rfl|rfl<;>omega
    walk_at "vg";symm;obtain⟨h2,e2,h20,h21⟩:∃h2:Int,(if j/2>1 then j/2 else 1)=h2/\1<=h2/\h2<=j:=⟨_,rfl,by split<;>omega,by split<;>omega⟩
    rw[e2,show [D.int j,D.int h2,D.int 1]=[j,h2,1].map D.int from rfl]
    refine⟨by unfold gM;omega,by decide,?_⟩
    refine cX D.int [j,h2,1] (λi σ=>∃x6 x8,σ=[some (B.own r1),some (B.sh (dS pts)),some (B.sh (cI b)),some (B.sh (D.int j)),some (B.sh md),some (B.sh (D.tup [D.int r,D.lst (cellsOf pts r)])),x6,some (.sh (.tup [.int s,.lst (cellsOf pts s)])),x8,none]) (λi k σ N2 zu hI mQ=>?_) (λσ hI=>?_) ⟨_,_,rfl⟩
    ·obtain⟨x6,x8,rfl⟩:=hI
     have hk:1<=k/\k<=j:=by
      have:=List.mem_of_getElem? zu;simp only[List.mem_cons,List.not_mem_nil,or_false]at this;rcases this with rfl|rfl|rfl<;>omega
     walk_at "vg";symm;have hp:=kq (s:=s) hg hl;refine⟨n,b,pts,k,s,_,rfl,hg,hl,hp.1,by have:=hp.2;omega,⟨by omega,by omega⟩,hk.1,?_⟩
     have e:pF b pts k s (cellsOf pts s)=true:=by
      unfold pF;rw[uG hj hr hk.2 hs.1,ph hn hk.2,iL 8 _ hp.1.ok];rfl
     rw[e];symm
     try refine(if_neg ∅).mpr ?_
     exact mQ _ ⟨_,_,rfl⟩
    ·obtain⟨x6,x8,rfl⟩:=hI
     exact GC _ ⟨_,_,_,rfl⟩
   ·obtain⟨x6,x7,x8,rfl⟩:=hI
    show N _;subst hN;refine au λN hN=>?_;symm;obtain⟨k,ek,nQ,VL⟩:∃k:Int,(if j-1>1 then j-1 else 1)=k/\1<=k/\k<=j:=⟨_,rfl,by split<;>omega,by split<;>omega⟩
    rw[ek];refine⟨n,b,pts,k,rfl,hg,hl,nQ,by omega,.inr ⟨ph hn VL,λr' hr'=>?_⟩⟩
    symm;subst hN;symm;refine a8 (n:=0) rfl rfl ?_;refine a8 (n:=0) rfl rfl ?_;symm;rw[decide_eq_true (HY nQ VL hr hr')];exact h _ JN
  rcases hm with⟨rfl,_⟩|⟨f,rfl,hf⟩
  ·symm
   refine⟨⟨rfl,rfl⟩,(if_neg ∅).mpr go⟩
  ·symm
   rw[<- hf];refine⟨⟨rfl,rfl⟩,(if_neg ∅).mpr go⟩
theorem vv(b:Bool)(pts:List (List Int)):(jW b pts=.aX/\i9 b pts=.aX/\pT (jW b pts)=.aX)\/∃(f:Int) (p q:D),0<=f/\jW b pts=.tup [.int f,p,q]/\i9 b pts=.int f/\pT (jW b pts)=(if f<1 then .aX else .int f):=by
 unfold i9;rcases jX b pts with e|⟨p,q,e⟩
 ·rw[e];exact .inl ⟨rfl,rfl,rfl⟩
 ·rw[e];exact .inr ⟨_,_,_,mM b _ _,rfl,rfl,rfl⟩
def Eg:bA:=λds Q=>∃ns:List Int,ds=[.gw ns]/\ns.length<=63/\Q (.sh (.bl true))
theorem W9(ds:List D)(Q:B->Prop)(h:Eg ds Q):EZ rN ik gB Ec nF rO gA jO {nx:=λ_=>Q (.sh .aX),rt:=λb _=>Q b} (aP Ai.length ds):=by
 obtain⟨ns,rfl,Z8,h⟩:=h;unfold EZ;refine au λN hN=>?_;show dj _ _ _ _ _;generalize ht:bX (dF [] 3 _) _=tb;symm;rw[Gd,show([D.int (ns.length:Int)]:List D)=[(ns.length:Int)].map D.int from rfl,<- List.map_append,gm]
 have hz:=Gb ns none (some 3);refine⟨by decide,by rw[sz,List.length_map];omega,?_⟩
 refine cX (λq:Nat×Int=>.tup [.int (q.1:Nat),.int q.2]) _ (λi σ=>∃x1 x2 x3 x4 x5 x6 x7 x8,σ=[some (.sh (.gw ns)),x1,x2,x3,x4,x5,x6,x7,x8]) (λi q σ N' hx hI oW=>?_) (λσ hI=>?_) ⟨none,none,none,none,none,none,none,none,rfl⟩
 ·obtain⟨x1,x2,x3,x4,x5,x6,x7,x8,rfl⟩:=hI
  obtain⟨i',c⟩:=q;walk_at "vg";subst ht
  -- reel
  refine au λN1 GC=>?_;symm;refine⟨c,rfl,λr0 hr0=>?_⟩;symm;subst GC
  -- points
  refine au λN1 GC=>?_;have key:∀pts n r,Good n pts->pts.length<=40->cg r->N1 [some (.sh (.gw ns)),some (.sh (.int (i':Nat))),some (.sh (.int c)),some (.own r),some (.own (pts.map bQ)),x5,x6,x7,x8]:=by
   intro pts n r hg hl hr;subst GC;have JM:pts.length<=1000:=by omega
   -- way
   refine au λN2 mQ=>?_;symm;refine⟨by decide,⟨_,rfl⟩,hr,2,rfl,by decide,by decide,λw r1 w0 w1 JN=>?_⟩
   symm;refine cF w0 (by simp only[List.length_cons,List.length_nil];omega) λd hd=>?_
   obtain⟨b,rfl⟩:∃b,d=cI b:=by
    simp only[List.mem_cons,List.not_mem_nil,or_false]at hd;rcases hd with rfl|rfl
    ·exact⟨false,rfl⟩
    ·exact⟨true,rfl⟩
   subst mQ
   -- most
   refine au λN2 mQ=>?_;symm;refine⟨b,n,pts,rfl,hg,JM,?_⟩;symm;subst mQ
   -- two
   refine au λN2 mQ=>?_;symm;refine⟨b,n,pts,rfl,hg,JM,?_⟩;symm;subst mQ;refine au λN2 mQ=>?_;have ZT:=vv b pts;have Yw:∃md,i9 b pts=md:=⟨_,rfl⟩;obtain⟨md,Yw⟩:=Yw;rw[Yw]at ZT;generalize jW b pts=td at ZT;have go:∀(De:iw) (x7:Option B),(∀σ,N' σ->De.nx σ)->(dj (cv (aq [] (aW (dE rO 3 (aL (aq [] (aW (dJ gA (aL (aq [] (af 4)) (aL (aq [] (af 5)) tN))))) (aL (aq [] (af 5)) tN)))))) (eR 8) (cC (dM (kS (aW (dE jO 3 (aL (aq [] (af 4)) (aL (aq [] (af 5)) (aL (aq [] (af 8)) (aL (aq [] (af 6)) tN)))))))) (dN [] (oX (aQ (.bl false)))) gE)) De [some (.sh (.gw ns)),some (.sh (.int (i':Nat))),some (.sh (.int c)),some (.own r1),some (.sh (.lst (pts.map bQ))),some (.sh (cI b)),some (.sh md),x7,x8]:=by
    intro De x7 hDe;generalize ht:cC _ _ _=tb;symm;refine⟨⟨_,rfl⟩,b,n,pts,rfl,hg,JM,?_⟩;symm;refine⟨JN,b,pts,rfl,JM,λjs r2 hjs hjl VZ=>?_⟩;symm;refine cX D.int js (λk σ=>∃rr y8,σ=[some (.sh (.gw ns)),some (.sh (.int (i':Nat))),some (.sh (.int c)),some (.own rr),some (.sh (.lst (pts.map bQ))),some (.sh (cI b)),some (.sh md),x7,y8]/\cg rr) (λk j σ N3 hx3 ZL ZM=>?_) (λσ ZL=>?_) ⟨r2,_,rfl,VZ⟩
    ·obtain⟨rr,y8,rfl,hrr⟩:=ZL
     obtain⟨Z2,S4⟩:=hjs j (List.mem_of_getElem? hx3);walk_at "vg";subst ht;symm;refine⟨⟨_,rfl⟩,hrr,n,b,pts,j,by rw[Yw];rfl,hg,JM,Z2,S4,λys hys=>?_⟩
     symm
     try refine(if_neg ∅).mpr ?_
     exact ZM _ ⟨_,_,rfl,hys⟩
    ·obtain⟨rr,y8,rfl,hrr⟩:=ZL
     exact hDe _ (oW _ ⟨_,_,_,_,_,_,_,_,rfl⟩)
   rcases ZT with⟨rfl,rfl,eb⟩|⟨f,p,q,hf0,rfl,rfl,eb⟩
   ·rw[eb]
    symm;refine⟨⟨rfl,rfl⟩,(if_neg ∅).mpr ?_⟩
    subst mQ;refine au λN2 mQ=>?_;symm;subst mQ;refine(if_neg ∅).mpr ?_
    exact go _ _ λ_ z=>z
   ·rw[eb]
    by_cases hf:f<1
    ·rw[if_pos hf]
     have hf:f=0:=by omega
     subst hf;symm;refine(if_neg ∅).mpr ?_
     refine a8 (n:=0) rfl rfl ⟨⟨rfl,rfl⟩,(if_pos rfl).mpr ⟨⟨rfl,rfl⟩,(if_neg ∅).mpr ?_⟩⟩
     subst mQ;refine au λN2 mQ=>?_;symm;refine a8 (n:=0) rfl rfl ⟨⟨rfl,rfl⟩,(if_pos rfl).mpr ?_⟩;subst mQ;exact go _ _ λ_ z=>z
    ·rw[if_neg hf]
     have e0:fD (.int f) (.int 0)=false:=by
      show decide (f=0)=false;exact decide_eq_false ⋯
     symm;refine(if_neg ∅).mpr ?_
     refine a8 (n:=0) rfl rfl ⟨⟨rfl,rfl⟩,(if_neg (by rw[e0];decide)).mpr ?_⟩
     refine a8 (n:=0) rfl rfl ⟨⟨rfl,rfl⟩,(if_neg (by rw[Gk];decide)).mpr ?_⟩
     subst mQ;refine au λN2 mQ=>?_;symm;refine a8 (n:=0) rfl rfl ⟨⟨rfl,rfl⟩,(if_neg (by rw[e0];decide)).mpr ?_⟩
     subst mQ;exact go _ _ λ_ z=>z
  symm;refine⟨⟨_,rfl⟩,by decide,⟨rfl,rfl⟩,?_⟩
  split
  ·refine⟨⟨_,rfl⟩,hr0,8,rfl,by decide,by decide,λt r1 _ _ JN=>?_⟩
   symm;refine⟨⟨rfl,rfl⟩,?_⟩;refine cF (by split<;>omega) (by simp only[List.length_cons,List.length_nil];split<;>omega) λd hd=>?_
   simp only[List.mem_cons,List.not_mem_nil,or_false]at hd;rcases hd with rfl|rfl
   ·exact⟨JN,20,rfl,by decide,λpts n ys hg hl hy=>key pts n ys hg ⋯ hy⟩
   ·exact⟨JN,40,rfl,by decide,λpts n ys hg hl hy=>key pts n ys hg ⋯ hy⟩
  ·refine cF (by first|decide | (split<;>omega)) (by simp only[List.length_cons,List.length_nil];first|decide | (split<;>omega)) λd hd=>?_
   simp only[List.mem_cons,List.not_mem_nil,or_false]at hd;rcases hd with rfl|rfl
   ·exact⟨hr0,20,rfl,by decide,λpts n ys hg hl hy=>key pts n ys hg ⋯ hy⟩
   ·exact⟨hr0,40,rfl,by decide,λpts n ys hg hl hy=>key pts n ys hg ⋯ hy⟩
 ·obtain⟨x1,x2,x3,x4,x5,x6,x7,x8,rfl⟩:=hI
  subst hN;symm;exact h
end
def xM(K:PySem.W.Frag):Sp:=λvs H Q _=>∃(a:Addr) (ns:List Int),vs=[.ref a]/\fm K H a (ns.map V.int)/\ns.length<=63/\∀H',Q (.bl true) H'
-- level 8
section
variable [KF]{G:GE}{k:Nat}
local macro_rules|`(tactic| walk_at "8")=>`(tactic| (intro xs ds Q h;first|(obtain⟨e,_⟩:=h;rw[e];rfl) | (obtain⟨_,e,_⟩:=h;rw[e];rfl) | (obtain⟨_,_,e,_⟩:=h;rw[e];rfl) | (obtain⟨_,_,_,e,_⟩:=h;rw[e];rfl) | (obtain⟨_,_,_,_,e,_⟩:=h;rw[e];rfl) | (obtain⟨_,_,_,_,_,e,_⟩:=h;rw[e];rfl) | (obtain⟨_,_,_,_,_,_,e,_⟩:=h;rw[e];rfl) | (obtain⟨_,_,_,_,_,_,_,e,_⟩:=h;rw[e];rfl) | (obtain⟨_,_,_,_,_,_,_,_,e,_⟩:=h;rw[e];rfl) | (obtain⟨_,_,_,_,_,_,_,_,_,e,_⟩:=h;rw[e];rfl) | (obtain⟨_,_,_,_,_,_,_,_,_,_,e,_⟩:=h;rw[e];rfl)))
local macro_rules|`(tactic| walk_at "7")=>`(tactic| (intro ds Q h;first|(obtain⟨e,_⟩:=h;rw[e];rfl) | (obtain⟨_,e,_⟩:=h;rw[e];rfl) | (obtain⟨_,_,e,_⟩:=h;rw[e];rfl) | (obtain⟨_,_,_,e,_⟩:=h;rw[e];rfl) | (obtain⟨_,_,_,_,e,_⟩:=h;rw[e];rfl) | (obtain⟨_,_,_,_,_,e,_⟩:=h;rw[e];rfl) | (obtain⟨_,_,_,_,_,_,e,_⟩:=h;rw[e];rfl) | (obtain⟨_,_,_,_,_,_,_,e,_⟩:=h;rw[e];rfl) | (obtain⟨_,_,_,_,_,_,_,_,e,_⟩:=h;rw[e];rfl) | (obtain⟨_,_,_,_,_,_,_,_,_,e,_⟩:=h;rw[e];rfl) | (obtain⟨_,_,_,_,_,_,_,_,_,_,e,_⟩:=h;rw[e];rfl)))
theorem Ph(hK:G.K=KF.K)(hT:KF.tabs=[])(E:Gl G)
    {sW:Addr} {MD:FuncData} (Bo:cw G "need_count" jx ["count"] sW MD)
    {BQ:Addr} {Vi:FuncData} (LD:cw G "need_as_many_numbers" qJ ["point","count"] BQ Vi)
    {sP:Addr} {Mw:FuncData} (Bg:cw G "need_points" jo ["points"] sP Mw)
    {tB:Addr} {ML:FuncData} (Bw:cw G "need_way" jG ["way"] tB ML)
    {BV:Addr} {Vl:FuncData} (LK:cw G "need_points_and_way" qM ["points","way"] BV Vl)
    {sV:Addr} {MC:FuncData} (Bm:cw G "need_bound" jw ["bound"] sV MC)
    {BU:Addr} {Vk:FuncData} (LJ:cw G "need_bound_from_one" qL ["bound"] BU Vk)
    {sN:Addr} {Mu:FuncData} (Be:cw G "far_between" jm ["way","point","other"] sN Mu)
    {BX:Addr} {Vn:FuncData} (LN:cw G "pairs_by_places" qO ["points","way"] BX Vn)
    {sO:Addr} {Mv:FuncData} (Bf:cw G "nearest_two" jn ["points","way"] sO Mv)
    {sL:Addr} {Ms:FuncData} (Bb:cw G "cell_by_side" jk ["point","side"] sL Ms)
    {B3:Addr} {Vr:FuncData} (LU:cw G "cells_by_side" qS ["points","side"] B3 Vr)
    {B2:Addr} {Vq:FuncData} (LR:cw G "side_is_enough" qR ["way","side","bound"] B2 Vq)
    {sS:Addr} {Mz:FuncData} (Bj:cw G "least_root" jt ["bound"] sS Mz)
    {sT:Addr} {MA:FuncData} (Bk:cw G "least_side" ju ["way","bound"] sT MA)
    {BZ:Addr} {Vo:FuncData} (LO:cw G "some_are_nearer" qP ["points","way","bound"] BZ Vo)
    {sX:Addr} {ME:FuncData} (Bp:cw G "are_whole" jy ["numbers"] sX ME)
    {BR:Addr} {Vj:FuncData} (LI:cw G "is_cell_with_places" qK ["entry"] BR Vj)
    {tf:Addr} {MH:FuncData} (Bs:cw G "has_form" jC ["paper"] tf MH)
    {tD:Addr} {MM:FuncData} (Bx:cw G "cell_of" jH ["point","side"] tD MM)
    {sQ:Addr} {Mx:FuncData} (Bh:cw G "cells_show" jq ["points","way","bound","paper"] sQ Mx)
    {sM:Addr} {Mt:FuncData} (Bc:cw G "cells_paper" jl ["points","way","bound"] sM Mt)
    {B1:Addr} {Vp:FuncData} (LQ:cw G "greatest_bound" qQ ["points","way"] B1 Vp)
    {sU:Addr} {MB:FuncData} (Bl:cw G "near_pairs" jv ["points","way","bound"] sU MB)
    {tj:Addr} {MI:FuncData} (Bt:cw G "_law_reel" jD ["cell"] tj MI)
    {tm:Addr} {MJ:FuncData} (Bu:cw G "_law_take" jE ["reel","many"] tm MJ)
    {sR:Addr} {My:FuncData} (Bi:cw G "_law_points" jr ["reel","most"] sR My)
    {tE:Addr} {MN:FuncData} (Bz:cw G "_law_far" jI ["way","one","other"] tE MN)
    {sY:Addr} {MF:FuncData} (Bq:cw G "_law_pairs" jA ["points","way"] sY MF)
    {BW:Addr} {Vm:FuncData} (LL:cw G "_law_some_bounds" qN ["reel","pairs","way"] BW Vm)
    {tu:Addr} {MK:FuncData} (Bv:cw G "_law_told" jF ["points","way","bound"] tu MK)
    {tF:Addr} {MO:FuncData} (BA:cw G "_law_by" jJ ["points","side"] tF MO)
    {sZ:Addr} {MG:FuncData} (Br:cw G "_law_right" jB ["reel","points","way","bound","most"] sZ MG)
    {oQ:Addr} {B6:FuncData} (BD:cw G "law" fF ["script"] oQ B6)
   :dQ G.P G.w G.K G.mg G.base vg 9 oQ B6 ["script"] (xM G.K):=by
  have Cw:cy G 1 "_law_reel" rN:=Bt.fg (k:=0) hK Q0 (U5 E) (by walk_at "7") Pz
  have cc:gG G 1 "_law_take" gB:=Bu.Yp (k:=0) hK Q5 (U6 E) ∅ (by walk_at "8") PC
  have Cj:gG G 2 "_law_points" ik:=Bi.Yp (k:=1) hK QQ (UU E (cc.mono ∅)) ∅ (by walk_at "8") yR
  have Cr:cy G 1 "need_count" kL:=Bo.fg (k:=0) hK QV (U0 E) (by walk_at "7") DA
  have MR:cy G 1 "need_as_many_numbers" wj:=LD.fg (k:=0) hK XH (Zq E) (by walk_at "7") W6
  have oZ:cy G 2 "need_points" ml:=Bg.fg (k:=1) hK QO (UR E (Cr.mono ∅) (MR.mono ∅)) (by walk_at "7") Px
  have Cy:cy G 1 "need_way" rm:=Bw.fg (k:=0) hK Q7 (U8 E) (by walk_at "7") Py
  have lJ:cy G 3 "need_points_and_way" ig:=LK.fg (k:=2) hK XM (Zu E (oZ.mono ∅) (Cy.mono ∅)) (by walk_at "7") W8
  have Ci:cy G 1 "far_between" ie:=Be.fg (k:=0) hK QM (UP E) (by walk_at "7") JV
  have yu:cy G 2 "pairs_by_places" jK:=LN.fg (k:=1) hK XO (Zw E (Ci.mono ∅)) (by walk_at "7") Hm
  have iT:cy G 4 "nearest_two" nF:=Bf.fg (k:=3) hK QN (UQ E (lJ.mono ∅) (yu.mono ∅)) (by walk_at "7") Xd
  have MU:cy G 5 "greatest_bound" Ec:=LQ.fg (k:=4) hK XR (Zy E (iT.mono ∅)) (by walk_at "7") aaw
  have MT:gG G 2 "_law_some_bounds" rO:=LL.Yp (k:=1) hK XN (Zv E (cc.mono ∅)) ∅ (by walk_at "8") Xb
  have CA:cy G 1 "_law_far" ie:=Bz.fg (k:=0) hK Q9 (Va E) (by walk_at "7") Pu
  have Ct:cy G 2 "_law_pairs" gA:=Bq.fg (k:=1) hK QX (U2 E (CA.mono ∅)) (by walk_at "7") Dy
  have qk:cy G 1 "need_bound_from_one" kJ:=LJ.fg (k:=0) hK XJ (Zt E) (by walk_at "7") W7
  have yv:cy G 5 "some_are_nearer" nE:=LO.fg (k:=4) hK XQ (Zx E (iT.mono ∅)) (by walk_at "7") Xa
  have Ck:cy G 1 "least_root" Ef:=Bj.fg (k:=0) hK QR (UW E) (by walk_at "7") aay
  have Cm:cy G 2 "least_side" xO:=Bk.fg (k:=1) hK QS (UX E (Ck.mono ∅)) (by walk_at "7") aaz
  have oY:cy G 1 "cell_by_side" qY:=Bb.fg (k:=0) hK QK (UN E) (by walk_at "7") W4
  have yw:cy G 2 "cells_by_side" f6:=LU.fg (k:=1) hK XT (ZA E (oY.mono ∅)) (by walk_at "7") Hl
  have Cg:Kf G 6 "cells_paper" rZ:=Bc.fx (k:=5) (t:=λex=>xV ex ig kJ nE xO f6) hK QL (λEd=>UO E _ (lJ.mono ∅) (qk.mono ∅) (yv.mono ∅) (Cm.mono ∅) (yw.mono ∅)) (λds Q E' h=>by first | (unfold rZ at h;split at h<;>first|rfl|exact h.elim) | (obtain⟨e,_⟩:=h;rw[e];rfl) | (obtain⟨_,e,_⟩:=h;rw[e];rfl) | (obtain⟨_,_,e,_⟩:=h;rw[e];rfl) | (obtain⟨_,_,_,e,_⟩:=h;rw[e];rfl) | (obtain⟨_,_,_,_,e,_⟩:=h;rw[e];rfl) | (obtain⟨_,_,_,_,_,e,_⟩:=h;rw[e];rfl)) Yi
  have w8:cy G 7 "_law_told" rQ:=Bv.fg (k:=6) hK Q6 (U7 E (Cg.mono ∅)) (by walk_at "7") PD
  have mR:cy G 1 "are_whole" xN:=Bp.fg (k:=0) hK QW (U1 E) (by walk_at "7") aau
  have MS:cy G 2 "is_cell_with_places" wg:=LI.fg (k:=1) hK XI (Zr E (mR.mono ∅)) (by walk_at "7") W5
  have Cv:cy G 3 "has_form" Ee:=Bs.fg (k:=2) hK QZ (U4 E (mR.mono ∅) (MS.mono ∅)) (by walk_at "7") aax
  have MV:cy G 1 "side_is_enough" wk:=LR.fg (k:=0) hK XS (Zz E) (by walk_at "7") Xc
  have wZ:cy G 6 "cells_show" rP:=Bh.fg (k:=5) hK QP (UT E (lJ.mono ∅) (qk.mono ∅) (Cv.mono ∅) (MV.mono ∅) (yw.mono ∅) (yv.mono ∅)) (by walk_at "7") PB
  have Cz:cy G 3 "cell_of" qZ:=Bx.fg (k:=2) hK Q8 (U9 E (oZ.mono ∅) (qk.mono ∅) (oY.mono ∅)) (by walk_at "7") Pt
  have tM:cy G 4 "_law_by" Eb:=BA.fg (k:=3) hK Ra (Vb E (Cz.mono ∅)) (by walk_at "7") aav
  have Cq:cy G 1 "need_bound" kK:=Bm.fg (k:=0) hK QU (UZ E) (by walk_at "7") Dz
  have Cp:cy G 4 "near_pairs" rh:=Bl.fg (k:=3) hK QT (UY E (lJ.mono ∅) (Cq.mono ∅) (yu.mono ∅)) (by walk_at "7") Pw
  have Cu:gG G 8 "_law_right" jO:=Br.Yp (k:=7) hK QY (U3 E (w8.mono ∅) (wZ.mono ∅) (tM.mono ∅) (cc.mono ∅) (Cp.mono ∅)) ∅ (by walk_at "8") Hn
  refine(JG (k:=8) (sp:=Eg) hK BD.F Rb (Vd E (Cw.mono ∅) (Cj.mono ∅) (cc.mono ∅) (MU.mono ∅) (iT.mono ∅) (MT.mono ∅) (Ct.mono ∅) (Cu.mono ∅)) (by walk_at "7") W9).imp λvs H Q E' h=>?_
  obtain⟨a,ns,rfl,hS,hl,q⟩:=h;refine⟨H,[.gw ns],λb=>b=.sh (.bl true),⟨aw.refl _,λq hq=>by rw[hT]at hq;cases hq⟩,.cons (.gw (by rw[<- hK];exact hS)) .nil,⟨ns,rfl,hl,rfl⟩,λv H' F' b _ _ _ _ r e=>?_⟩
  subst e;have r:Rep F' v (.bl true):=r;cases r;exact q H'
end
open PySem.W in
theorem all_mk{l:OpenLaw}{w:World}{K:Frag}{h:Heap}{mg:Str->Option Value}{fa:Addr}(X:K.In h)(Gs:h.Ns mainGlobals mg)(hfa:mg "law"=some (.ref fa))
 {sW BQ sP tB BV sV BU sN BX sO sL B3 B2 sS sT BZ sX BR tf tD sQ sM B1 sU tj tm sR tE sY BW tu tF sZ oQ:Addr}
 {OZ KP WK T1 OO KG O7 K0 WN T6 OY KO WM T5 OJ KC WQ T8 OM KD OH Kz WV Uc WU Ub OU KJ OW KL WR T9 O0 KQ WL T4 O3 KU O8 K2 OQ KH OI KA WT Ua OX KN O4 KW O5 KY OT KI O9 K3 O1 KR WO T7 O6 KZ Pa K4 O2 KS Pb An:Option Addr}
 {Rw XU Rn RE XY Rv XX Rl X0 Rm Rh X4 X3 Rr Rt X1 Rx XW RA RF Rp Rj X2 Ru RB RC Rq RG Ry XZ RD RH Rz RJ:Array (Option Value)}
 {Oq NC Ma Qp AR Lk Wv Wa UA Xi Jq Up Og Nu L3 Qi AG Ld OA NQ Mk Qx A3 Lx Wy Wd UD Xl Jt Ut Oo NB L9 Qo AQ Lj Wx Wc UC Xk Js Ur Od Nq LZ Qg AB Lb WB Wg UG Xn Jv Uv Oe Nr L0 Qh AF Lc Ob Nn LX Qe Az K9 WH Wk UK Xr Jz Uz WG Wj UJ Xq Jy Uy Oj Ny L6 Ql AJ Lg Ol Nz L7 Qm AK Lh WC Wh UH Xo Jw Uw Ot ND Mb Qq AU Ln Ww Wb UB Xj Jr Uq Ow NK Mg Qt AY Lr OB NR Ml Qy A4 Ly Oh Nv L4 Qj AH Le Oc Np LY Qf AA La WD Wi UI Xp Jx Ux Om NA L8 Qn AO Li Ox NM Mh Qu AZ Ls Oy NN Mi Qv A0 Lv Oi Nx L5 Qk AI Lf OC NS Mm Qz A5 Lz Ou NF Md Qr AW Lp Wz Wf UE Xm Ju Uu Oz NP Mj Qw A1 Lw OD NT Mp QA A6 LA Ov NI Mf Qs AX Lq OG C6 BF DS vB A9:Value}
  {bx:Addr}
  {cf:Addr}
  {dP:Addr}
  {cL:Addr}
  {cM:Addr}
  {wy:Tok}
  {wz:Tok}
  (a_q22:nsIn K mainGlobals "need_count"=some (some (.ref sW)))
  (l_q22:K.lookup sW=some ⟨Oq,OZ,.func (fnOf "need_count" "need_count" (aK jx) (ax jx) (ah jx) .none NC Ma Qp KP AR Lk),Rw⟩)
  (c_q22:codeIn K AR "need_count"=true) (k_q22:keepIn K (.ref sW)=true)
  (a_q0:nsIn K mainGlobals "need_as_many_numbers"=some (some (.ref BQ)))
  (l_q0:K.lookup BQ=some ⟨Wv,WK,.func (fnOf "need_as_many_numbers" "need_as_many_numbers" (aK qJ) (ax qJ) (ah qJ) .none Wa UA Xi T1 Jq Up),XU⟩)
  (c_q0:codeIn K Jq "need_as_many_numbers"=true) (k_q0:keepIn K (.ref BQ)=true)
  (a_q15:nsIn K mainGlobals "need_points"=some (some (.ref sP)))
  (l_q15:K.lookup sP=some ⟨Og,OO,.func (fnOf "need_points" "need_points" (aK jo) (ax jo) (ah jo) .none Nu L3 Qi KG AG Ld),Rn⟩)
  (c_q15:codeIn K AG "need_points"=true) (k_q15:keepIn K (.ref sP)=true)
  (a_q30:nsIn K mainGlobals "need_way"=some (some (.ref tB)))
  (l_q30:K.lookup tB=some ⟨OA,O7,.func (fnOf "need_way" "need_way" (aK jG) (ax jG) (ah jG) .none NQ Mk Qx K0 A3 Lx),RE⟩)
  (c_q30:codeIn K A3 "need_way"=true) (k_q30:keepIn K (.ref tB)=true)
  (a_q3:nsIn K mainGlobals "need_points_and_way"=some (some (.ref BV)))
  (l_q3:K.lookup BV=some ⟨Wy,WN,.func (fnOf "need_points_and_way" "need_points_and_way" (aK qM) (ax qM) (ah qM) .none Wd UD Xl T6 Jt Ut),XY⟩)
  (c_q3:codeIn K Jt "need_points_and_way"=true) (k_q3:keepIn K (.ref BV)=true)
  (a_q21:nsIn K mainGlobals "need_bound"=some (some (.ref sV)))
  (l_q21:K.lookup sV=some ⟨Oo,OY,.func (fnOf "need_bound" "need_bound" (aK jw) (ax jw) (ah jw) .none NB L9 Qo KO AQ Lj),Rv⟩)
  (c_q21:codeIn K AQ "need_bound"=true) (k_q21:keepIn K (.ref sV)=true)
  (a_q2:nsIn K mainGlobals "need_bound_from_one"=some (some (.ref BU)))
  (l_q2:K.lookup BU=some ⟨Wx,WM,.func (fnOf "need_bound_from_one" "need_bound_from_one" (aK qL) (ax qL) (ah qL) .none Wc UC Xk T5 Js Ur),XX⟩)
  (c_q2:codeIn K Js "need_bound_from_one"=true) (k_q2:keepIn K (.ref BU)=true)
  (a_q12:nsIn K mainGlobals "far_between"=some (some (.ref sN)))
  (l_q12:K.lookup sN=some ⟨Od,OJ,.func (fnOf "far_between" "far_between" (aK jm) (ax jm) (ah jm) .none Nq LZ Qg KC AB Lb),Rl⟩)
  (c_q12:codeIn K AB "far_between"=true) (k_q12:keepIn K (.ref sN)=true)
  (a_q5:nsIn K mainGlobals "pairs_by_places"=some (some (.ref BX)))
  (l_q5:K.lookup BX=some ⟨WB,WQ,.func (fnOf "pairs_by_places" "pairs_by_places" (aK qO) (ax qO) (ah qO) .none Wg UG Xn T8 Jv Uv),X0⟩)
  (c_q5:codeIn K Jv "pairs_by_places"=true) (k_q5:keepIn K (.ref BX)=true)
  (a_q14:nsIn K mainGlobals "nearest_two"=some (some (.ref sO)))
  (l_q14:K.lookup sO=some ⟨Oe,OM,.func (fnOf "nearest_two" "nearest_two" (aK jn) (ax jn) (ah jn) .none Nr L0 Qh KD AF Lc),Rm⟩)
  (c_q14:codeIn K AF "nearest_two"=true) (k_q14:keepIn K (.ref sO)=true)
  (a_q10:nsIn K mainGlobals "cell_by_side"=some (some (.ref sL)))
  (l_q10:K.lookup sL=some ⟨Ob,OH,.func (fnOf "cell_by_side" "cell_by_side" (aK jk) (ax jk) (ah jk) .none Nn LX Qe Kz Az K9),Rh⟩)
  (c_q10:codeIn K Az "cell_by_side"=true) (k_q10:keepIn K (.ref sL)=true)
  (a_q9:nsIn K mainGlobals "cells_by_side"=some (some (.ref B3)))
  (l_q9:K.lookup B3=some ⟨WH,WV,.func (fnOf "cells_by_side" "cells_by_side" (aK qS) (ax qS) (ah qS) .none Wk UK Xr Uc Jz Uz),X4⟩)
  (c_q9:codeIn K Jz "cells_by_side"=true) (k_q9:keepIn K (.ref B3)=true)
  (a_q8:nsIn K mainGlobals "side_is_enough"=some (some (.ref B2)))
  (l_q8:K.lookup B2=some ⟨WG,WU,.func (fnOf "side_is_enough" "side_is_enough" (aK qR) (ax qR) (ah qR) .none Wj UJ Xq Ub Jy Uy),X3⟩)
  (c_q8:codeIn K Jy "side_is_enough"=true) (k_q8:keepIn K (.ref B2)=true)
  (a_q18:nsIn K mainGlobals "least_root"=some (some (.ref sS)))
  (l_q18:K.lookup sS=some ⟨Oj,OU,.func (fnOf "least_root" "least_root" (aK jt) (ax jt) (ah jt) .none Ny L6 Ql KJ AJ Lg),Rr⟩)
  (c_q18:codeIn K AJ "least_root"=true) (k_q18:keepIn K (.ref sS)=true)
  (a_q19:nsIn K mainGlobals "least_side"=some (some (.ref sT)))
  (l_q19:K.lookup sT=some ⟨Ol,OW,.func (fnOf "least_side" "least_side" (aK ju) (ax ju) (ah ju) .none Nz L7 Qm KL AK Lh),Rt⟩)
  (c_q19:codeIn K AK "least_side"=true) (k_q19:keepIn K (.ref sT)=true)
  (a_q6:nsIn K mainGlobals "some_are_nearer"=some (some (.ref BZ)))
  (l_q6:K.lookup BZ=some ⟨WC,WR,.func (fnOf "some_are_nearer" "some_are_nearer" (aK qP) (ax qP) (ah qP) .none Wh UH Xo T9 Jw Uw),X1⟩)
  (c_q6:codeIn K Jw "some_are_nearer"=true) (k_q6:keepIn K (.ref BZ)=true)
  (a_q23:nsIn K mainGlobals "are_whole"=some (some (.ref sX)))
  (l_q23:K.lookup sX=some ⟨Ot,O0,.func (fnOf "are_whole" "are_whole" (aK jy) (ax jy) (ah jy) .none ND Mb Qq KQ AU Ln),Rx⟩)
  (c_q23:codeIn K AU "are_whole"=true) (k_q23:keepIn K (.ref sX)=true)
  (a_q1:nsIn K mainGlobals "is_cell_with_places"=some (some (.ref BR)))
  (l_q1:K.lookup BR=some ⟨Ww,WL,.func (fnOf "is_cell_with_places" "is_cell_with_places" (aK qK) (ax qK) (ah qK) .none Wb UB Xj T4 Jr Uq),XW⟩)
  (c_q1:codeIn K Jr "is_cell_with_places"=true) (k_q1:keepIn K (.ref BR)=true)
  (a_q26:nsIn K mainGlobals "has_form"=some (some (.ref tf)))
  (l_q26:K.lookup tf=some ⟨Ow,O3,.func (fnOf "has_form" "has_form" (aK jC) (ax jC) (ah jC) .none NK Mg Qt KU AY Lr),RA⟩)
  (c_q26:codeIn K AY "has_form"=true) (k_q26:keepIn K (.ref tf)=true)
  (a_q31:nsIn K mainGlobals "cell_of"=some (some (.ref tD)))
  (l_q31:K.lookup tD=some ⟨OB,O8,.func (fnOf "cell_of" "cell_of" (aK jH) (ax jH) (ah jH) .none NR Ml Qy K2 A4 Ly),RF⟩)
  (c_q31:codeIn K A4 "cell_of"=true) (k_q31:keepIn K (.ref tD)=true)
  (a_q16:nsIn K mainGlobals "cells_show"=some (some (.ref sQ)))
  (l_q16:K.lookup sQ=some ⟨Oh,OQ,.func (fnOf "cells_show" "cells_show" (aK jq) (ax jq) (ah jq) .none Nv L4 Qj KH AH Le),Rp⟩)
  (c_q16:codeIn K AH "cells_show"=true) (k_q16:keepIn K (.ref sQ)=true)
  (a_q11:nsIn K mainGlobals "cells_paper"=some (some (.ref sM)))
  (l_q11:K.lookup sM=some ⟨Oc,OI,.func (fnOf "cells_paper" "cells_paper" (aK jl) (ax jl) (ah jl) .none Np LY Qf KA AA La),Rj⟩)
  (c_q11:codeIn K AA "cells_paper"=true) (k_q11:keepIn K (.ref sM)=true)
  (a_q7:nsIn K mainGlobals "greatest_bound"=some (some (.ref B1)))
  (l_q7:K.lookup B1=some ⟨WD,WT,.func (fnOf "greatest_bound" "greatest_bound" (aK qQ) (ax qQ) (ah qQ) .none Wi UI Xp Ua Jx Ux),X2⟩)
  (c_q7:codeIn K Jx "greatest_bound"=true) (k_q7:keepIn K (.ref B1)=true)
  (a_q20:nsIn K mainGlobals "near_pairs"=some (some (.ref sU)))
  (l_q20:K.lookup sU=some ⟨Om,OX,.func (fnOf "near_pairs" "near_pairs" (aK jv) (ax jv) (ah jv) .none NA L8 Qn KN AO Li),Ru⟩)
  (c_q20:codeIn K AO "near_pairs"=true) (k_q20:keepIn K (.ref sU)=true)
  (a_q27:nsIn K mainGlobals "_law_reel"=some (some (.ref tj)))
  (l_q27:K.lookup tj=some ⟨Ox,O4,.func (fnOf "_law_reel" "_law_reel" (aK jD) (ax jD) (ah jD) .none NM Mh Qu KW AZ Ls),RB⟩)
  (c_q27:codeIn K AZ "_law_reel"=true) (k_q27:keepIn K (.ref tj)=true)
  (a_q28:nsIn K mainGlobals "_law_take"=some (some (.ref tm)))
  (l_q28:K.lookup tm=some ⟨Oy,O5,.func (fnOf "_law_take" "_law_take" (aK jE) (ax jE) (ah jE) .none NN Mi Qv KY A0 Lv),RC⟩)
  (c_q28:codeIn K A0 "_law_take"=true) (k_q28:keepIn K (.ref tm)=true)
  (a_q17:nsIn K mainGlobals "_law_points"=some (some (.ref sR)))
  (l_q17:K.lookup sR=some ⟨Oi,OT,.func (fnOf "_law_points" "_law_points" (aK jr) (ax jr) (ah jr) .none Nx L5 Qk KI AI Lf),Rq⟩)
  (c_q17:codeIn K AI "_law_points"=true) (k_q17:keepIn K (.ref sR)=true)
  (a_q32:nsIn K mainGlobals "_law_far"=some (some (.ref tE)))
  (l_q32:K.lookup tE=some ⟨OC,O9,.func (fnOf "_law_far" "_law_far" (aK jI) (ax jI) (ah jI) .none NS Mm Qz K3 A5 Lz),RG⟩)
  (c_q32:codeIn K A5 "_law_far"=true) (k_q32:keepIn K (.ref tE)=true)
  (a_q24:nsIn K mainGlobals "_law_pairs"=some (some (.ref sY)))
  (l_q24:K.lookup sY=some ⟨Ou,O1,.func (fnOf "_law_pairs" "_law_pairs" (aK jA) (ax jA) (ah jA) .none NF Md Qr KR AW Lp),Ry⟩)
  (c_q24:codeIn K AW "_law_pairs"=true) (k_q24:keepIn K (.ref sY)=true)
  (a_q4:nsIn K mainGlobals "_law_some_bounds"=some (some (.ref BW)))
  (l_q4:K.lookup BW=some ⟨Wz,WO,.func (fnOf "_law_some_bounds" "_law_some_bounds" (aK qN) (ax qN) (ah qN) .none Wf UE Xm T7 Ju Uu),XZ⟩)
  (c_q4:codeIn K Ju "_law_some_bounds"=true) (k_q4:keepIn K (.ref BW)=true)
  (a_q29:nsIn K mainGlobals "_law_told"=some (some (.ref tu)))
  (l_q29:K.lookup tu=some ⟨Oz,O6,.func (fnOf "_law_told" "_law_told" (aK jF) (ax jF) (ah jF) .none NP Mj Qw KZ A1 Lw),RD⟩)
  (c_q29:codeIn K A1 "_law_told"=true) (k_q29:keepIn K (.ref tu)=true)
  (a_q33:nsIn K mainGlobals "_law_by"=some (some (.ref tF)))
  (l_q33:K.lookup tF=some ⟨OD,Pa,.func (fnOf "_law_by" "_law_by" (aK jJ) (ax jJ) (ah jJ) .none NT Mp QA K4 A6 LA),RH⟩)
  (c_q33:codeIn K A6 "_law_by"=true) (k_q33:keepIn K (.ref tF)=true)
  (a_q25:nsIn K mainGlobals "_law_right"=some (some (.ref sZ)))
  (l_q25:K.lookup sZ=some ⟨Ov,O2,.func (fnOf "_law_right" "_law_right" (aK jB) (ax jB) (ah jB) .none NI Mf Qs KS AX Lq),Rz⟩)
  (c_q25:codeIn K AX "_law_right"=true) (k_q25:keepIn K (.ref sZ)=true)
  (a_q34:nsIn K mainGlobals "law"=some (some (.ref oQ)))
  (l_q34:K.lookup oQ=some ⟨OG,Pb,.func (fnOf "law" "law" (aK fF) (ax fF) (ah fF) .none C6 BF DS An vB A9),RJ⟩)
  (c_q34:codeIn K vB "law"=true) (k_q34:keepIn K (.ref oQ)=true)
  (g_NearError:nsIn K mainGlobals "NearError"=some (some (.ref bx)))
  (e_NearError:excIn K bx zq "ValueError.__new__"=true) (m_NearError:Vc.mroIn K bx=[.ref bx,.type "ValueError",.type "Exception",.type "BaseException",.type "object"]) (w_NearError:Vx.pd K bx=true)
  (g_NoPoints:nsIn K mainGlobals "NoPoints"=some (some (.ref cf)))
  (e_NoPoints:excIn K cf zq "ValueError.__new__"=true) (m_NoPoints:Vc.mroIn K cf=[.ref cf,.ref bx,.type "ValueError",.type "Exception",.type "BaseException",.type "object"]) (w_NoPoints:Vx.pd K cf=true)
  (g_NoWay:nsIn K mainGlobals "NoWay"=some (some (.ref dP)))
  (e_NoWay:excIn K dP zq "ValueError.__new__"=true) (m_NoWay:Vc.mroIn K dP=[.ref dP,.ref bx,.type "ValueError",.type "Exception",.type "BaseException",.type "object"]) (w_NoWay:Vx.pd K dP=true)
  (g_NoBound:nsIn K mainGlobals "NoBound"=some (some (.ref cL)))
  (e_NoBound:excIn K cL zq "ValueError.__new__"=true) (m_NoBound:Vc.mroIn K cL=[.ref cL,.ref bx,.type "ValueError",.type "Exception",.type "BaseException",.type "object"]) (w_NoBound:Vx.pd K cL=true)
  (g_NoPaper:nsIn K mainGlobals "NoPaper"=some (some (.ref cM)))
  (e_NoPaper:excIn K cM zq "ValueError.__new__"=true) (m_NoPaper:Vc.mroIn K cM=[.ref cM,.ref bx,.type "ValueError",.type "Exception",.type "BaseException",.type "object"]) (w_NoPaper:Vx.pd K cM=true)
  (nd_cls:[bx,cf,dP,cL,cM].Nodup)
  (z_abs:nsIn K mainGlobals "abs"=some none)
  (z_all:nsIn K mainGlobals "all"=some none)
  (z_bool:nsIn K mainGlobals "bool"=some none)
  (z_enumerate:nsIn K mainGlobals "enumerate"=some none)
  (z_int:nsIn K mainGlobals "int"=some none)
  (z_isinstance:nsIn K mainGlobals "isinstance"=some none)
  (z_len:nsIn K mainGlobals "len"=some none)
  (z_list:nsIn K mainGlobals "list"=some none)
  (z_max:nsIn K mainGlobals "max"=some none)
  (z_min:nsIn K mainGlobals "min"=some none)
  (z_range:nsIn K mainGlobals "range"=some none)
  (z_sorted:nsIn K mainGlobals "sorted"=some none)
  (z_sum:nsIn K mainGlobals "sum"=some none)
  (z_tuple:nsIn K mainGlobals "tuple"=some none)
  (z_zip:nsIn K mainGlobals "zip"=some none)
  (u_SQUARES:nsIn K mainGlobals "SQUARES"=some (some (.str "squares" wy)))
  (u_STREETS:nsIn K mainGlobals "STREETS"=some (some (.str "streets" wz))):
  ∃fd:FuncData,(∀(s:Shared) (v:Value),BindsTo s fd ⟨[v],[]⟩ [("script",v)])/\∀base:Heap,K.In base->base.Ns mainGlobals mg->dQ l.prog w K mg base vg 9 fa fd ["script"] (xM K):=by
 have e:=hfa.symm.trans (mg_of X Gs a_q34);cases e;refine⟨fnOf "law" "law" (aK fF) (ax fF) (ah fF) .none C6 BF DS An vB A9,λs v=>.of_eq rfl,λbase _ _=>?_⟩
 letI:KF:=⟨K,λx=>if x="NearError" then bx else if x="NoPoints" then cf else if x="NoWay" then dP else if x="NoBound" then cL else if x="NoPaper" then cM else 0,[]⟩
 have bT:KF.cls "NearError"=bx:=if_pos rfl;have d7:KF.cls "NoPoints"=cf:=(if_neg ∅).trans<|if_pos rfl
 have iZ:KF.cls "NoWay"=dP:=(if_neg ∅).trans<|(if_neg ∅).trans<|if_pos rfl
 have eS:KF.cls "NoBound"=cL:=(if_neg ∅).trans<|(if_neg ∅).trans<|(if_neg ∅).trans<|if_pos rfl
 have eU:KF.cls "NoPaper"=cM:=(if_neg ∅).trans<|(if_neg ∅).trans<|(if_neg ∅).trans<|(if_neg ∅).trans<|if_pos rfl
 have xc:Jo ⟨l.prog,w,K,mg,base⟩ Y7.XL:=by
  refine⟨⟨λc hc=>?_,λc hc=>?_,λc hc d hd e=>?_,by decide⟩,λc hc=>?_⟩
  ·simp only[Y7.XL,List.mem_cons,List.not_mem_nil,or_false]at hc
   rcases hc with rfl|rfl|rfl|rfl|rfl
   ·exact⟨by rw[bT];exact mg_of X Gs g_NearError,by rw[bT];exact e_NearError⟩
   ·exact⟨by rw[d7];exact mg_of X Gs g_NoPoints,by rw[d7];exact e_NoPoints⟩
   ·exact⟨by rw[iZ];exact mg_of X Gs g_NoWay,by rw[iZ];exact e_NoWay⟩
   ·exact⟨by rw[eS];exact mg_of X Gs g_NoBound,by rw[eS];exact e_NoBound⟩
   ·exact⟨by rw[eU];exact mg_of X Gs g_NoPaper,by rw[eU];exact e_NoPaper⟩
  ·simp only[Y7.XL,List.mem_cons,List.not_mem_nil,or_false]at hc
   rcases hc with rfl|rfl|rfl|rfl|rfl
   ·rw[bT];exact m_NearError
   ·rw[d7,bT];exact m_NoPoints
   ·rw[iZ,bT];exact m_NoWay
   ·rw[eS,bT];exact m_NoBound
   ·rw[eU,bT];exact m_NoPaper
  ·exact FZ (cs:=Y7.XL) (as:=[bx,cf,dP,cL,cM]) (by simp only[Y7.XL,List.map_cons,List.map_nil,bT,d7,iZ,eS,eU]) nd_cls hc hd e
  ·simp only[Y7.XL,List.mem_cons,List.not_mem_nil,or_false]at hc
   rcases hc with rfl|rfl|rfl|rfl|rfl
   ·rw[bT];exact w_NearError
   ·rw[d7];exact w_NoPoints
   ·rw[iZ];exact w_NoWay
   ·rw[eS];exact w_NoBound
   ·rw[eU];exact w_NoPaper
 have E:Gl ⟨l.prog,w,K,mg,base⟩:=⟨xc,mg_none_of X Gs z_abs,mg_none_of X Gs z_all,mg_none_of X Gs z_bool,mg_none_of X Gs z_enumerate,mg_none_of X Gs z_int,mg_none_of X Gs z_isinstance,mg_none_of X Gs z_len,mg_none_of X Gs z_list,mg_none_of X Gs z_max,mg_none_of X Gs z_min,mg_none_of X Gs z_range,mg_none_of X Gs z_sorted,mg_none_of X Gs z_sum,mg_none_of X Gs z_tuple,mg_none_of X Gs z_zip,⟨_,.str "squares",mg_of X Gs u_SQUARES,⟨_,rfl⟩,λF=>.str _⟩,⟨_,.str "streets",mg_of X Gs u_STREETS,⟨_,rfl⟩,λF=>.str _⟩⟩;have Ja:=bh (K:=K) (st:=jx) l_q22 c_q22 k_q22;have Bo:cw ⟨l.prog,w,K,mg,base⟩ "need_count" jx ["count"] _ _:=⟨Ja,mg_of X Gs a_q22,Ja.binds λ_ _ _ _ _ _ us hl=>zv (λ_=>rfl) us hl⟩;have Tt:=bh (K:=K) (st:=qJ) l_q0 c_q0 k_q0;have LD:cw ⟨l.prog,w,K,mg,base⟩ "need_as_many_numbers" qJ ["point","count"] _ _:=⟨Tt,mg_of X Gs a_q0,Tt.binds λ_ _ _ _ _ _ us hl=>ln2 (λ_ _=>rfl) us hl⟩;have IQ:=bh (K:=K) (st:=jo) l_q15 c_q15 k_q15;have Bg:cw ⟨l.prog,w,K,mg,base⟩ "need_points" jo ["points"] _ _:=⟨IQ,mg_of X Gs a_q15,IQ.binds λ_ _ _ _ _ _ us hl=>zv (λ_=>rfl) us hl⟩;have Ji:=bh (K:=K) (st:=jG) l_q30 c_q30 k_q30;have Bw:cw ⟨l.prog,w,K,mg,base⟩ "need_way" jG ["way"] _ _:=⟨Ji,mg_of X Gs a_q30,Ji.binds λ_ _ _ _ _ _ us hl=>zv (λ_=>rfl) us hl⟩;have Tx:=bh (K:=K) (st:=qM) l_q3 c_q3 k_q3;have LK:cw ⟨l.prog,w,K,mg,base⟩ "need_points_and_way" qM ["points","way"] _ _:=⟨Tx,mg_of X Gs a_q3,Tx.binds λ_ _ _ _ _ _ us hl=>ln2 (λ_ _=>rfl) us hl⟩;have IZ:=bh (K:=K) (st:=jw) l_q21 c_q21 k_q21;have Bm:cw ⟨l.prog,w,K,mg,base⟩ "need_bound" jw ["bound"] _ _:=⟨IZ,mg_of X Gs a_q21,IZ.binds λ_ _ _ _ _ _ us hl=>zv (λ_=>rfl) us hl⟩;have Tw:=bh (K:=K) (st:=qL) l_q2 c_q2 k_q2;have LJ:cw ⟨l.prog,w,K,mg,base⟩ "need_bound_from_one" qL ["bound"] _ _:=⟨Tw,mg_of X Gs a_q2,Tw.binds λ_ _ _ _ _ _ us hl=>zv (λ_=>rfl) us hl⟩;have IL:=bh (K:=K) (st:=jm) l_q12 c_q12 k_q12;have Be:cw ⟨l.prog,w,K,mg,base⟩ "far_between" jm ["way","point","other"] _ _:=⟨IL,mg_of X Gs a_q12,IL.binds λ_ _ _ _ _ _ us hl=>G5 (λ_ _ _=>rfl) us hl⟩;have TC:=bh (K:=K) (st:=qO) l_q5 c_q5 k_q5;have LN:cw ⟨l.prog,w,K,mg,base⟩ "pairs_by_places" qO ["points","way"] _ _:=⟨TC,mg_of X Gs a_q5,TC.binds λ_ _ _ _ _ _ us hl=>ln2 (λ_ _=>rfl) us hl⟩;have IP:=bh (K:=K) (st:=jn) l_q14 c_q14 k_q14;have Bf:cw ⟨l.prog,w,K,mg,base⟩ "nearest_two" jn ["points","way"] _ _:=⟨IP,mg_of X Gs a_q14,IP.binds λ_ _ _ _ _ _ us hl=>ln2 (λ_ _=>rfl) us hl⟩;have IJ:=bh (K:=K) (st:=jk) l_q10 c_q10 k_q10;have Bb:cw ⟨l.prog,w,K,mg,base⟩ "cell_by_side" jk ["point","side"] _ _:=⟨IJ,mg_of X Gs a_q10,IJ.binds λ_ _ _ _ _ _ us hl=>ln2 (λ_ _=>rfl) us hl⟩
 have TK:=bh (K:=K) (st:=qS) l_q9 c_q9 k_q9;have LU:cw ⟨l.prog,w,K,mg,base⟩ "cells_by_side" qS ["points","side"] _ _:=⟨TK,mg_of X Gs a_q9,TK.binds λ_ _ _ _ _ _ us hl=>ln2 (λ_ _=>rfl) us hl⟩;have TJ:=bh (K:=K) (st:=qR) l_q8 c_q8 k_q8;have LR:cw ⟨l.prog,w,K,mg,base⟩ "side_is_enough" qR ["way","side","bound"] _ _:=⟨TJ,mg_of X Gs a_q8,TJ.binds λ_ _ _ _ _ _ us hl=>G5 (λ_ _ _=>rfl) us hl⟩;have IW:=bh (K:=K) (st:=jt) l_q18 c_q18 k_q18;have Bj:cw ⟨l.prog,w,K,mg,base⟩ "least_root" jt ["bound"] _ _:=⟨IW,mg_of X Gs a_q18,IW.binds λ_ _ _ _ _ _ us hl=>zv (λ_=>rfl) us hl⟩;have IX:=bh (K:=K) (st:=ju) l_q19 c_q19 k_q19;have Bk:cw ⟨l.prog,w,K,mg,base⟩ "least_side" ju ["way","bound"] _ _:=⟨IX,mg_of X Gs a_q19,IX.binds λ_ _ _ _ _ _ us hl=>ln2 (λ_ _=>rfl) us hl⟩;have TF:=bh (K:=K) (st:=qP) l_q6 c_q6 k_q6;have LO:cw ⟨l.prog,w,K,mg,base⟩ "some_are_nearer" qP ["points","way","bound"] _ _:=⟨TF,mg_of X Gs a_q6,TF.binds λ_ _ _ _ _ _ us hl=>G5 (λ_ _ _=>rfl) us hl⟩;have Jb:=bh (K:=K) (st:=jy) l_q23 c_q23 k_q23;have Bp:cw ⟨l.prog,w,K,mg,base⟩ "are_whole" jy ["numbers"] _ _:=⟨Jb,mg_of X Gs a_q23,Jb.binds λ_ _ _ _ _ _ us hl=>zv (λ_=>rfl) us hl⟩;have Tv:=bh (K:=K) (st:=qK) l_q1 c_q1 k_q1;have LI:cw ⟨l.prog,w,K,mg,base⟩ "is_cell_with_places" qK ["entry"] _ _:=⟨Tv,mg_of X Gs a_q1,Tv.binds λ_ _ _ _ _ _ us hl=>zv (λ_=>rfl) us hl⟩;have Je:=bh (K:=K) (st:=jC) l_q26 c_q26 k_q26;have Bs:cw ⟨l.prog,w,K,mg,base⟩ "has_form" jC ["paper"] _ _:=⟨Je,mg_of X Gs a_q26,Je.binds λ_ _ _ _ _ _ us hl=>zv (λ_=>rfl) us hl⟩;have Jj:=bh (K:=K) (st:=jH) l_q31 c_q31 k_q31;have Bx:cw ⟨l.prog,w,K,mg,base⟩ "cell_of" jH ["point","side"] _ _:=⟨Jj,mg_of X Gs a_q31,Jj.binds λ_ _ _ _ _ _ us hl=>ln2 (λ_ _=>rfl) us hl⟩;have IU:=bh (K:=K) (st:=jq) l_q16 c_q16 k_q16;have Bh:cw ⟨l.prog,w,K,mg,base⟩ "cells_show" jq ["points","way","bound","paper"] _ _:=⟨IU,mg_of X Gs a_q16,IU.binds λ_ _ _ _ _ _ us hl=>ln4 (λ_ _ _ _=>rfl) us hl⟩;have IK:=bh (K:=K) (st:=jl) l_q11 c_q11 k_q11;have Bc:cw ⟨l.prog,w,K,mg,base⟩ "cells_paper" jl ["points","way","bound"] _ _:=⟨IK,mg_of X Gs a_q11,IK.binds λ_ _ _ _ _ _ us hl=>G5 (λ_ _ _=>rfl) us hl⟩;have TH:=bh (K:=K) (st:=qQ) l_q7 c_q7 k_q7;have LQ:cw ⟨l.prog,w,K,mg,base⟩ "greatest_bound" qQ ["points","way"] _ _:=⟨TH,mg_of X Gs a_q7,TH.binds λ_ _ _ _ _ _ us hl=>ln2 (λ_ _=>rfl) us hl⟩;have IY:=bh (K:=K) (st:=jv) l_q20 c_q20 k_q20;have Bl:cw ⟨l.prog,w,K,mg,base⟩ "near_pairs" jv ["points","way","bound"] _ _:=⟨IY,mg_of X Gs a_q20,IY.binds λ_ _ _ _ _ _ us hl=>G5 (λ_ _ _=>rfl) us hl⟩;have Jf:=bh (K:=K) (st:=jD) l_q27 c_q27 k_q27;have Bt:cw ⟨l.prog,w,K,mg,base⟩ "_law_reel" jD ["cell"] _ _:=⟨Jf,mg_of X Gs a_q27,Jf.binds λ_ _ _ _ _ _ us hl=>zv (λ_=>rfl) us hl⟩
 have Jg:=bh (K:=K) (st:=jE) l_q28 c_q28 k_q28;have Bu:cw ⟨l.prog,w,K,mg,base⟩ "_law_take" jE ["reel","many"] _ _:=⟨Jg,mg_of X Gs a_q28,Jg.binds λ_ _ _ _ _ _ us hl=>ln2 (λ_ _=>rfl) us hl⟩;have IV:=bh (K:=K) (st:=jr) l_q17 c_q17 k_q17;have Bi:cw ⟨l.prog,w,K,mg,base⟩ "_law_points" jr ["reel","most"] _ _:=⟨IV,mg_of X Gs a_q17,IV.binds λ_ _ _ _ _ _ us hl=>ln2 (λ_ _=>rfl) us hl⟩;have Jk:=bh (K:=K) (st:=jI) l_q32 c_q32 k_q32;have Bz:cw ⟨l.prog,w,K,mg,base⟩ "_law_far" jI ["way","one","other"] _ _:=⟨Jk,mg_of X Gs a_q32,Jk.binds λ_ _ _ _ _ _ us hl=>G5 (λ_ _ _=>rfl) us hl⟩;have Jc:=bh (K:=K) (st:=jA) l_q24 c_q24 k_q24;have Bq:cw ⟨l.prog,w,K,mg,base⟩ "_law_pairs" jA ["points","way"] _ _:=⟨Jc,mg_of X Gs a_q24,Jc.binds λ_ _ _ _ _ _ us hl=>ln2 (λ_ _=>rfl) us hl⟩;have Tz:=bh (K:=K) (st:=qN) l_q4 c_q4 k_q4;have LL:cw ⟨l.prog,w,K,mg,base⟩ "_law_some_bounds" qN ["reel","pairs","way"] _ _:=⟨Tz,mg_of X Gs a_q4,Tz.binds λ_ _ _ _ _ _ us hl=>G5 (λ_ _ _=>rfl) us hl⟩;have Jh:=bh (K:=K) (st:=jF) l_q29 c_q29 k_q29;have Bv:cw ⟨l.prog,w,K,mg,base⟩ "_law_told" jF ["points","way","bound"] _ _:=⟨Jh,mg_of X Gs a_q29,Jh.binds λ_ _ _ _ _ _ us hl=>G5 (λ_ _ _=>rfl) us hl⟩;have Jl:=bh (K:=K) (st:=jJ) l_q33 c_q33 k_q33;have BA:cw ⟨l.prog,w,K,mg,base⟩ "_law_by" jJ ["points","side"] _ _:=⟨Jl,mg_of X Gs a_q33,Jl.binds λ_ _ _ _ _ _ us hl=>ln2 (λ_ _=>rfl) us hl⟩;have Jd:=bh (K:=K) (st:=jB) l_q25 c_q25 k_q25;have Br:cw ⟨l.prog,w,K,mg,base⟩ "_law_right" jB ["reel","points","way","bound","most"] _ _:=⟨Jd,mg_of X Gs a_q25,Jd.binds λ_ _ _ _ _ _ us hl=>ln5 (λ_ _ _ _ _=>rfl) us hl⟩;have Jm:=bh (K:=K) (st:=fF) l_q34 c_q34 k_q34;have BD:cw ⟨l.prog,w,K,mg,base⟩ "law" fF ["script"] _ _:=⟨Jm,mg_of X Gs a_q34,Jm.binds λ_ _ _ _ _ _ us hl=>zv (λ_=>rfl) us hl⟩;exact Ph rfl rfl E Bo LD Bg Bw LK Bm LJ Be LN Bf Bb LU LR Bj Bk LO Bp LI Bs Bx Bh Bc LQ Bl Bt Bu Bi Bz Bq LL Bv BA Br BD
theorem walk{l:PySem.W.OpenLaw}{q:Program}{loose:List Str}{XP:(Str->Option Value)->Heap->Prop}{YP:World->Heap->Prop}{d:DefRec}{K:Params->PySem.W.Frag}(hn:l.most=some 63)(VC:d.params.defaults=[])
  (hY:∀(w:World) (h:Heap),YP w h->(K w.params).In h)
  (F:∀(w:World) (mg:Str->Option Value) (fa:Addr) (h:Heap),(K w.params).In h->h.Ns mainGlobals mg->mg d.name=some (.ref fa) ->
   ∃fd:FuncData,(∀(s:Shared) (u:Value),BindsTo s fd ⟨[u],[]⟩ [("script",u)])/\∀base:Heap,(K w.params).In base->base.Ns mainGlobals mg->dQ l.prog w (K w.params) mg base vg 9 fa fd ["script"] (xM (K w.params))):
  PySem.W.WalkO q loose XP YP l.row.toRowW d [] (λf vs=>PySem.call f vs):=
 L2.Io (n:=63) (k:=9) (x:="script") (CX:=λ_=>vg) (sp:=λw=>xM (K w.params)) hn ∅ VC ⟨rfl,by decide,by decide⟩ hY F (λ_ _ a ns hl _ hS=>⟨a,ns,rfl,hS,hl,λ_=>rfl⟩) λ_ _ _ _ _ z=>z
end Y7
namespace PySem.W.Fast
theorem tw10204843298496515369:True:=⟨⟩
theorem tw10443718255788182839:True:=⟨⟩
theorem tw10481954634212426062:True:=⟨⟩
theorem tw10487248037047403073:True:=⟨⟩
theorem tw10524333381794219570:True:=⟨⟩
theorem tw1057119780825079612:True:=⟨⟩
theorem tw10676383447163007212:True:=⟨⟩
theorem tw1072231378441130356:True:=⟨⟩
theorem tw11102570354142244755:True:=⟨⟩
theorem tw11301370623208682977:True:=⟨⟩
theorem tw11349417664694733204:True:=⟨⟩
theorem tw11477807340219186752:True:=⟨⟩
theorem tw11542399269964520294:True:=⟨⟩
theorem tw11557423316319356647:True:=⟨⟩
theorem tw11621642658642691085:True:=⟨⟩
theorem tw11686807623524724796:True:=⟨⟩
theorem tw11784162224302506888:True:=⟨⟩
theorem tw11931580670109855853:True:=⟨⟩
theorem tw12101032292248155125:True:=⟨⟩
theorem tw12376396950931121453:True:=⟨⟩
theorem tw12438604177292957170:True:=⟨⟩
theorem tw12591006277203817082:True:=⟨⟩
theorem tw12714023394134095539:True:=⟨⟩
theorem tw12735014820747899201:True:=⟨⟩
theorem tw13031966270666636901:True:=⟨⟩
theorem tw13059408856828853609:True:=⟨⟩
theorem tw13064328680457975899:True:=⟨⟩
theorem tw13077293661426898497:True:=⟨⟩
theorem tw13164032005975100434:True:=⟨⟩
theorem tw13213954490940739072:True:=⟨⟩
theorem tw13215060228483397430:True:=⟨⟩
theorem tw13339757834342273175:True:=⟨⟩
theorem tw13351969724064680739:True:=⟨⟩
theorem tw13375221373658906189:True:=⟨⟩
theorem tw13476898191741527192:True:=⟨⟩
theorem tw13686386316086672412:True:=⟨⟩
theorem tw13708123268899264491:True:=⟨⟩
theorem tw13781262466083549020:True:=⟨⟩
theorem tw13846290906290302237:True:=⟨⟩
theorem tw14054141682764763977:True:=⟨⟩
theorem tw14219173057202320299:True:=⟨⟩
theorem tw1422190508947022343:True:=⟨⟩
theorem tw14301960397092931238:True:=⟨⟩
theorem tw14332624026369910797:True:=⟨⟩
theorem tw14347774376282046909:True:=⟨⟩
theorem tw1475480273504481079:True:=⟨⟩
theorem tw14906483207176491618:True:=⟨⟩
theorem tw14935783395686985733:True:=⟨⟩
theorem tw15120382420116305442:True:=⟨⟩
theorem tw15157384668261072198:True:=⟨⟩
theorem tw15170749578988903523:True:=⟨⟩
theorem tw15259726041423974584:True:=⟨⟩
theorem tw15284853382255289781:True:=⟨⟩
theorem tw15334318092606226123:True:=⟨⟩
theorem tw15429129521409554912:True:=⟨⟩
theorem tw15488555014065064945:True:=⟨⟩
theorem tw15593488480040274736:True:=⟨⟩
theorem tw15594763145250317710:True:=⟨⟩
theorem tw15649310484678143675:True:=⟨⟩
theorem tw15723846301570026560:True:=⟨⟩
theorem tw15774967178834660546:True:=⟨⟩
theorem tw15961947066819941312:True:=⟨⟩
theorem tw16001106905899763798:True:=⟨⟩
theorem tw16146960167444658472:True:=⟨⟩
theorem tw16188256423882892417:True:=⟨⟩
theorem tw16250465165840350977:True:=⟨⟩
theorem tw1627649450739776469:True:=⟨⟩
theorem tw16301124037266418204:True:=⟨⟩
theorem tw16410946125769919026:True:=⟨⟩
theorem tw16527683761446880962:True:=⟨⟩
theorem tw16691368948826342627:True:=⟨⟩
theorem tw16692619576720858922:True:=⟨⟩
theorem tw16906912158658142373:True:=⟨⟩
theorem tw17050832078814463218:True:=⟨⟩
theorem tw17124518692798871856:True:=⟨⟩
theorem tw17384641741463103219:True:=⟨⟩
theorem tw17407130894922597120:True:=⟨⟩
theorem tw17457286379318885417:True:=⟨⟩
theorem tw17493577017760796857:True:=⟨⟩
theorem tw17538901175088140038:True:=⟨⟩
theorem tw17651213442696827799:True:=⟨⟩
theorem tw17652995095121641389:True:=⟨⟩
theorem tw17781376159176310819:True:=⟨⟩
theorem tw17939671379039282683:True:=⟨⟩
theorem tw17989032810714412984:True:=⟨⟩
theorem tw18071093828401349331:True:=⟨⟩
theorem tw18119655818562706024:True:=⟨⟩
theorem tw18139745325465811866:True:=⟨⟩
theorem tw1822136293625026566:True:=⟨⟩
theorem tw18343845487346376781:True:=⟨⟩
theorem tw18406228768303237172:True:=⟨⟩
theorem tw18437921171585204031:True:=⟨⟩
theorem tw1970357457012937457:True:=⟨⟩
theorem tw2040313079075507051:True:=⟨⟩
theorem tw2216389460346249988:True:=⟨⟩
theorem tw2249089357755663789:True:=⟨⟩
theorem tw2329766326129051916:True:=⟨⟩
theorem tw2375611071813957931:True:=⟨⟩
theorem tw2384613493293328055:True:=⟨⟩
theorem tw2444409154932859502:True:=⟨⟩
theorem tw2500202254692231335:True:=⟨⟩
theorem tw2570395109261552719:True:=⟨⟩
theorem tw2584180315205861527:True:=⟨⟩
theorem tw2615173235359383771:True:=⟨⟩
theorem tw2644901266805751855:True:=⟨⟩
theorem tw2835190112721334198:True:=⟨⟩
theorem tw2857009755892612592:True:=⟨⟩
theorem tw2969198179198763283:True:=⟨⟩
theorem tw3021526360179588210:True:=⟨⟩
theorem tw3065057737998609118:True:=⟨⟩
theorem tw3095043150666815688:True:=⟨⟩
theorem tw3148288792747763013:True:=⟨⟩
theorem tw3612465555204533227:True:=⟨⟩
theorem tw3615648143551546253:True:=⟨⟩
theorem tw3993322582890542547:True:=⟨⟩
theorem tw4041482463089268050:True:=⟨⟩
theorem tw4049129666013005128:True:=⟨⟩
theorem tw4111586504684300385:True:=⟨⟩
theorem tw413807117082424592:True:=⟨⟩
theorem tw4359123633251634937:True:=⟨⟩
theorem tw4482241851368376602:True:=⟨⟩
theorem tw4549183636846659894:True:=⟨⟩
theorem tw4604383460758909657:True:=⟨⟩
theorem tw4665729203037580521:True:=⟨⟩
theorem tw4861762890523632170:True:=⟨⟩
theorem tw4923515658855346197:True:=⟨⟩
theorem tw5043782804947944782:True:=⟨⟩
theorem tw5102828535972245398:True:=⟨⟩
theorem tw5163599096167528699:True:=⟨⟩
theorem tw5209796304774150841:True:=⟨⟩
theorem tw5272553487652550518:True:=⟨⟩
theorem tw5469593204726642959:True:=⟨⟩
theorem tw5499994395662688636:True:=⟨⟩
theorem tw5640798525480425465:True:=⟨⟩
theorem tw5664485788726409555:True:=⟨⟩
theorem tw5936716210868418686:True:=⟨⟩
theorem tw5979850268369919412:True:=⟨⟩
theorem tw6042464155644416956:True:=⟨⟩
theorem tw6100735406203006433:True:=⟨⟩
theorem tw6238075955750068144:True:=⟨⟩
theorem tw6364492426008948294:True:=⟨⟩
theorem tw6387944256266151397:True:=⟨⟩
theorem tw6463744024673466150:True:=⟨⟩
theorem tw6465580477012404018:True:=⟨⟩
theorem tw6514093794823235778:True:=⟨⟩
theorem tw655624070552707004:True:=⟨⟩
theorem tw6792261255534512483:True:=⟨⟩
theorem tw6926875709630496032:True:=⟨⟩
theorem tw6983404701218494620:True:=⟨⟩
theorem tw7033695252596903897:True:=⟨⟩
theorem tw7176017435619485212:True:=⟨⟩
theorem tw7400693026528747009:True:=⟨⟩
theorem tw7492103366271964370:True:=⟨⟩
theorem tw7644826107651163369:True:=⟨⟩
theorem tw7720169413213767021:True:=⟨⟩
theorem tw7722715407313990272:True:=⟨⟩
theorem tw78498392951114166:True:=⟨⟩
theorem tw7993333107500869490:True:=⟨⟩
theorem tw8007686439392357497:True:=⟨⟩
theorem tw8049026606301153003:True:=⟨⟩
theorem tw8218619561815811329:True:=⟨⟩
theorem tw826253793584238914:True:=⟨⟩
theorem tw8565810302392913913:True:=⟨⟩
theorem tw8601632593505801467:True:=⟨⟩
theorem tw8691733953754909378:True:=⟨⟩
theorem tw8756551566335612793:True:=⟨⟩
theorem tw884127187170083690:True:=⟨⟩
theorem tw9003502372549347566:True:=⟨⟩
theorem tw9014385672252184853:True:=⟨⟩
theorem tw9037958217817732375:True:=⟨⟩
theorem tw9213297288571003297:True:=⟨⟩
theorem tw9215543904796548770:True:=⟨⟩
theorem tw9393778971965788110:True:=⟨⟩
theorem tw9462398973790426722:True:=⟨⟩
theorem tw9578697577760115850:True:=⟨⟩
theorem tw9624580164497522169:True:=⟨⟩
theorem tw9647462713847634536:True:=⟨⟩
theorem tw9766806796780846965:True:=⟨⟩
theorem tw9841162868345708001:True:=⟨⟩
theorem tw9869855772871679651:True:=⟨⟩
theorem tw9884990540838832753:True:=⟨⟩
theorem tw9917192924958603532:True:=⟨⟩
end PySem.W.Fast
open PySem PySem.W PyProof.Rows
set_option maxRecDepth 100000 in
set_option maxHeartbeats 0 in
theorem PySem.Challenge.cw_closepoints_k20_whole_cells_and_near_holds : PySem.Challenge.rw_closepoints_k20_whole_cells_and_near.Holds := by
 w_on;o_law;z_head;(case hw=>w_witness2)
 k_fill
 refine Vc.SE (λ_=>by kernel_rfl) (Y7.walk (l:=PySem.Challenge.rw_closepoints_k20_whole_cells_and_near) rfl rfl (λw h Y=>Y) ?F)
 case F =>
  intro w mg fa h KX G hmg;refine' Y7.all_mk KX G hmg ?a_q22 ?l_q22 ?c_q22 ?k_q22 ?a_q0 ?l_q0 ?c_q0 ?k_q0 ?a_q15 ?l_q15 ?c_q15 ?k_q15 ?a_q30 ?l_q30 ?c_q30 ?k_q30 ?a_q3 ?l_q3 ?c_q3 ?k_q3 ?a_q21 ?l_q21 ?c_q21 ?k_q21 ?a_q2 ?l_q2 ?c_q2 ?k_q2 ?a_q12 ?l_q12 ?c_q12 ?k_q12 ?a_q5 ?l_q5 ?c_q5 ?k_q5 ?a_q14 ?l_q14 ?c_q14 ?k_q14 ?a_q10 ?l_q10 ?c_q10 ?k_q10 ?a_q9 ?l_q9 ?c_q9 ?k_q9 ?a_q8 ?l_q8 ?c_q8 ?k_q8 ?a_q18 ?l_q18 ?c_q18 ?k_q18 ?a_q19 ?l_q19 ?c_q19 ?k_q19 ?a_q6 ?l_q6 ?c_q6 ?k_q6 ?a_q23 ?l_q23 ?c_q23 ?k_q23 ?a_q1 ?l_q1 ?c_q1 ?k_q1 ?a_q26 ?l_q26 ?c_q26 ?k_q26 ?a_q31 ?l_q31 ?c_q31 ?k_q31 ?a_q16 ?l_q16 ?c_q16 ?k_q16 ?a_q11 ?l_q11 ?c_q11 ?k_q11 ?a_q7 ?l_q7 ?c_q7 ?k_q7 ?a_q20 ?l_q20 ?c_q20 ?k_q20 ?a_q27 ?l_q27 ?c_q27 ?k_q27 ?a_q28 ?l_q28 ?c_q28 ?k_q28 ?a_q17 ?l_q17 ?c_q17 ?k_q17 ?a_q32 ?l_q32 ?c_q32 ?k_q32 ?a_q24 ?l_q24 ?c_q24 ?k_q24 ?a_q4 ?l_q4 ?c_q4 ?k_q4 ?a_q29 ?l_q29 ?c_q29 ?k_q29 ?a_q33 ?l_q33 ?c_q33 ?k_q33 ?a_q25 ?l_q25 ?c_q25 ?k_q25 ?a_q34 ?l_q34 ?c_q34 ?k_q34 ?g_NearError ?e_NearError ?m_NearError ?w_NearError ?g_NoPoints ?e_NoPoints ?m_NoPoints ?w_NoPoints ?g_NoWay ?e_NoWay ?m_NoWay ?w_NoWay ?g_NoBound ?e_NoBound ?m_NoBound ?w_NoBound ?g_NoPaper ?e_NoPaper ?m_NoPaper ?w_NoPaper ?nd_cls ?z_abs ?z_all ?z_bool ?z_enumerate ?z_int ?z_isinstance ?z_len ?z_list ?z_max ?z_min ?z_range ?z_sorted ?z_sum ?z_tuple ?z_zip ?u_SQUARES ?u_STREETS
  (case a_q22=>ac_rfl)
  (case l_q22=>ac_rfl)
  (case c_q22=>ac_rfl)
  (case k_q22=>ac_rfl)
  (case a_q0=>ac_rfl)
  (case l_q0=>ac_rfl)
  (case c_q0=>ac_rfl)
  (case k_q0=>ac_rfl)
  (case a_q15=>ac_rfl)
  (case l_q15=>ac_rfl)
  (case c_q15=>ac_rfl)
  (case k_q15=>ac_rfl)
  (case a_q30=>ac_rfl)
  (case l_q30=>ac_rfl)
  (case c_q30=>ac_rfl)
  (case k_q30=>ac_rfl)
  (case a_q3=>ac_rfl)
  (case l_q3=>ac_rfl)
  (case c_q3=>ac_rfl)
  (case k_q3=>ac_rfl)
  (case a_q21=>ac_rfl)
  (case l_q21=>ac_rfl)
  (case c_q21=>ac_rfl)
  (case k_q21=>ac_rfl)
  (case a_q2=>ac_rfl)
  (case l_q2=>ac_rfl)
  (case c_q2=>ac_rfl)
  (case k_q2=>ac_rfl)
  (case a_q12=>ac_rfl)
  (case l_q12=>ac_rfl)
  (case c_q12=>ac_rfl)
  (case k_q12=>ac_rfl)
  (case a_q5=>ac_rfl)
  (case l_q5=>ac_rfl)
  (case c_q5=>ac_rfl)
  (case k_q5=>ac_rfl)
  (case a_q14=>ac_rfl)
  (case l_q14=>ac_rfl)
  (case c_q14=>ac_rfl)
  (case k_q14=>ac_rfl)
  (case a_q10=>ac_rfl)
  (case l_q10=>ac_rfl)
  (case c_q10=>ac_rfl)
  (case k_q10=>ac_rfl)
  (case a_q9=>ac_rfl)
  (case l_q9=>ac_rfl)
  (case c_q9=>ac_rfl)
  (case k_q9=>ac_rfl)
  (case a_q8=>ac_rfl)
  (case l_q8=>ac_rfl)
  (case c_q8=>ac_rfl)
  (case k_q8=>ac_rfl)
  (case a_q18=>ac_rfl)
  (case l_q18=>ac_rfl)
  (case c_q18=>ac_rfl)
  (case k_q18=>ac_rfl)
  (case a_q19=>ac_rfl)
  (case l_q19=>ac_rfl)
  (case c_q19=>ac_rfl)
  (case k_q19=>ac_rfl)
  (case a_q6=>ac_rfl)
  (case l_q6=>ac_rfl)
  (case c_q6=>ac_rfl)
  (case k_q6=>ac_rfl)
  (case a_q23=>ac_rfl)
  (case l_q23=>ac_rfl)
  (case c_q23=>ac_rfl)
  (case k_q23=>ac_rfl)
  (case a_q1=>ac_rfl)
  (case l_q1=>ac_rfl)
  (case c_q1=>ac_rfl)
  (case k_q1=>ac_rfl)
  (case a_q26=>ac_rfl)
  (case l_q26=>ac_rfl)
  (case c_q26=>ac_rfl)
  (case k_q26=>ac_rfl)
  (case a_q31=>ac_rfl)
  (case l_q31=>ac_rfl)
  (case c_q31=>ac_rfl)
  (case k_q31=>ac_rfl)
  (case a_q16=>ac_rfl)
  (case l_q16=>ac_rfl)
  (case c_q16=>ac_rfl)
  (case k_q16=>ac_rfl)
  (case a_q11=>ac_rfl)
  (case l_q11=>ac_rfl)
  (case c_q11=>ac_rfl)
  (case k_q11=>ac_rfl)
  (case a_q7=>ac_rfl)
  (case l_q7=>ac_rfl)
  (case c_q7=>ac_rfl)
  (case k_q7=>ac_rfl)
  (case a_q20=>ac_rfl)
  (case l_q20=>ac_rfl)
  (case c_q20=>ac_rfl)
  (case k_q20=>ac_rfl)
  (case a_q27=>ac_rfl)
  (case l_q27=>ac_rfl)
  (case c_q27=>ac_rfl)
  (case k_q27=>ac_rfl)
  (case a_q28=>ac_rfl)
  (case l_q28=>ac_rfl)
  (case c_q28=>ac_rfl)
  (case k_q28=>ac_rfl)
  (case a_q17=>ac_rfl)
  (case l_q17=>ac_rfl)
  (case c_q17=>ac_rfl)
  (case k_q17=>ac_rfl)
  (case a_q32=>ac_rfl)
  (case l_q32=>ac_rfl)
  (case c_q32=>ac_rfl)
  (case k_q32=>ac_rfl)
  (case a_q24=>ac_rfl)
  (case l_q24=>ac_rfl)
  (case c_q24=>ac_rfl)
  (case k_q24=>ac_rfl)
  (case a_q4=>ac_rfl)
  (case l_q4=>ac_rfl)
  (case c_q4=>ac_rfl)
  (case k_q4=>ac_rfl)
  (case a_q29=>ac_rfl)
  (case l_q29=>ac_rfl)
  (case c_q29=>ac_rfl)
  (case k_q29=>ac_rfl)
  (case a_q33=>ac_rfl)
  (case l_q33=>ac_rfl)
  (case c_q33=>ac_rfl)
  (case k_q33=>ac_rfl)
  (case a_q25=>ac_rfl)
  (case l_q25=>ac_rfl)
  (case c_q25=>ac_rfl)
  (case k_q25=>ac_rfl)
  (case a_q34=>ac_rfl)
  (case l_q34=>ac_rfl)
  (case c_q34=>ac_rfl)
  (case k_q34=>ac_rfl)
  (case g_NearError=>ac_rfl)
  (case e_NearError=>ac_rfl)
  (case m_NearError=>ac_rfl)
  (case w_NearError=>ac_rfl)
  (case g_NoPoints=>ac_rfl)
  (case e_NoPoints=>ac_rfl)
  (case m_NoPoints=>ac_rfl)
  (case w_NoPoints=>ac_rfl)
  (case g_NoWay=>ac_rfl)
  (case e_NoWay=>ac_rfl)
  (case m_NoWay=>ac_rfl)
  (case w_NoWay=>ac_rfl)
  (case g_NoBound=>ac_rfl)
  (case e_NoBound=>ac_rfl)
  (case m_NoBound=>ac_rfl)
  (case w_NoBound=>ac_rfl)
  (case g_NoPaper=>ac_rfl)
  (case e_NoPaper=>ac_rfl)
  (case m_NoPaper=>ac_rfl)
  (case w_NoPaper=>ac_rfl)
  (case nd_cls=>ac_rfl)
  (case z_abs=>ac_rfl)
  (case z_all=>ac_rfl)
  (case z_bool=>ac_rfl)
  (case z_enumerate=>ac_rfl)
  (case z_int=>ac_rfl)
  (case z_isinstance=>ac_rfl)
  (case z_len=>ac_rfl)
  (case z_list=>ac_rfl)
  (case z_max=>ac_rfl)
  (case z_min=>ac_rfl)
  (case z_range=>ac_rfl)
  (case z_sorted=>ac_rfl)
  (case z_sum=>ac_rfl)
  (case z_tuple=>ac_rfl)
  (case z_zip=>ac_rfl)
  (case u_SQUARES=>ac_rfl)
  (case u_STREETS=>ac_rfl)
