import PyProof.Rows.All
import Wide.All
import OpenK.AllK
import Wide.FinOn
import Lean
import PyProof.EqAt
import PyProof.EqKinds
import PyProof.TupleCall
import PySem.Challenge.RW_closepoints_k30_whole_parts_and_trees
open PySem renaming wpAny_bind → aaO
open PySem.Heap renaming get?_push_of_some → aaP
open List renaming getElem?_eq_getElem → aaQ
open List renaming length_map → aaR
noncomputable section
set_option Elab.async false
set_option linter.all false
set_option hygiene false
local macro_rules | `(tactic| omega) => `(tactic| first | lia | omega +splitNatSub)
local macro_rules | `(⋯) => `((by omega))
local macro_rules | `(∅) => `((by decide))
set_option maxRecDepth 100000
local macro_rules|`(tactic| walk_at "9")=>`(tactic| first|k_is|kernel_rfl|decide)
local macro_rules | `(tactic| ac_rfl) => `(tactic| walk_at "9")
set_option compiler.extract_closed false
-- CHANGE: your row's module here,as the last of these rows
namespace L2
open PySem PySem.Spec PyProof.Rows
abbrev Key:=Sum Int Str
def pC:Key->Value->Bool
 | .inl k,v=>Value.isInt k v
 | .inr x,v=>Value.isStrOf x v
def aah(w:World):Key->Int
 | .inl k=>hashInt k
 | .inr x=>hashStr w x
theorem b9:∀ {k:Key} {v:Value},pC k v=true->(∃i t,k=Sum.inl i/\v=Value.int i t)\/(∃x t,k=Sum.inr x/\v=Value.str x t)
 | .inl i,v,h=>by
  obtain⟨t,e⟩:=Value.isInt_shape (k:=i) (v:=v) h;exact .inl ⟨i,t,rfl,e⟩
 | .inr x,v,h=>by
  obtain⟨t,e⟩:=Value.isStrOf_shape (x:=x) (v:=v) h;exact .inr ⟨x,t,rfl,e⟩
theorem Ao(i:Int)(t:Tok):pC (.inl i) (.int i t)=true:=by simp [pC,Value.isInt]
theorem Ap(x:Str)(t:Tok):pC (.inr x) (.str x t)=true:=by simp [pC,Value.isStrOf]
theorem NU(a b:Int):decide ((Sum.inl a:Key)=Sum.inl b)=(a==b):=by
 by_cases e:a=b
 ·subst e;simp
 ·have h:¬(Sum.inl a:Key)=Sum.inl b:=λq=>e (Sum.inl.inj q)
  rw[decide_eq_false h];exact(beq_eq_false_iff_ne.mpr e).symm
theorem NX(a b:Str):decide ((Sum.inr a:Key)=Sum.inr b)=decide (a=b):=by
 by_cases e:a=b
 ·subst e;simp
 ·have h:¬(Sum.inr a:Key)=Sum.inr b:=λq=>e (Sum.inr.inj q)
  rw[decide_eq_false h,decide_eq_false e]
theorem NV(a:Int)(b:Str):decide ((Sum.inl a:Key)=Sum.inr b)=false:=decide_eq_false (λq=>nomatch q)
theorem NW(a:Str)(b:Int):decide ((Sum.inr a:Key)=Sum.inl b)=false:=decide_eq_false (λq=>nomatch q)
def bR(prog:Program)(w:World):PySem.KeyKind prog w Key where
 is:=pC
 hash:=aah w
 inj:=λv a b ha hb=>by
  rcases b9 ha with⟨i,t,rfl,rfl⟩|⟨x,t,rfl,rfl⟩
  ·rcases b9 hb with⟨j,u,rfl,e⟩|⟨y,u,rfl,e⟩
   ·injection e with e1 _;rw[e1]
   ·exact nomatch e
  ·rcases b9 hb with⟨j,u,rfl,e⟩|⟨y,u,rfl,e⟩
   ·exact nomatch e
   ·injection e with e1 _;rw[e1]
 byValue:=λk v h=>by
  rcases b9 h with⟨i,t,rfl,rfl⟩|⟨x,t,rfl,rfl⟩<;>rfl
 pyHash:=λhv h=>by
  rcases b9 hv with⟨i,t,rfl,rfl⟩|⟨x,t,rfl,rfl⟩
  ·exact wpAny_pyHash_int h
  ·exact wpAny_pyHash_str h
 eqBool:=λhu hv h=>by
  rcases b9 hu with⟨i,t,rfl,rfl⟩|⟨x,t,rfl,rfl⟩
  ·rcases b9 hv with⟨j,u,rfl,rfl⟩|⟨y,u,rfl,rfl⟩
   ·rw[NU]at h;exact wpAny_eqBool_int h
   ·rw[NV]at h;exact SeqAt.EqAt.int_str i t y u _ _ _ _ h
  ·rcases b9 hv with⟨j,u,rfl,rfl⟩|⟨y,u,rfl,rfl⟩
   ·rw[NW]at h;exact SeqAt.EqAt.str_int x t j u _ _ _ _ h
   ·rw[NX]at h;exact wpAny_eqBool_str h
 «strs»:=λk x t v h=>by
  rcases b9 h with⟨i,u,rfl,e⟩|⟨y,u,rfl,e⟩
  ·exact nomatch e
  ·injection e with e1 _
   subst e1;cases v<;>rfl
theorem vf(prog:Program)(w:World)(i:Int)(t:Tok):(bR prog w).is (.inl i) (.int i t)=true:=Ao i t
theorem vg(prog:Program)(w:World)(x:Str)(t:Tok):(bR prog w).is (.inr x) (.str x t)=true:=Ap x t
end L2
namespace L2
open PySem PySem.Spec PyProof.Rows
inductive V where
 | bD|bl (b:Bool)|int (i:Int)|str (x:Str)|T4 (b:Array UInt8)|Zo (b:UInt64)|ref (a:Addr)|ty (n:String)
 deriving DecidableEq
def RelV:V->Value->Prop
 | .bD,u=>u=Value.none
 | .bl b,u=>u=Value.bool b
 | .int i,u=>∃t,u=Value.int i t
 | .str x,u=>∃t,u=Value.str x t
 | .T4 b,u=>∃t,u=Value.bytes b t
 | .Zo b,u=>∃t,u=Value.float b t
 | .ref a,u=>u=Value.ref a
 | .ty n,u=>u=Value.type n
abbrev Vals:List V->List Value->Prop:=Paired RelV
theorem Vals.length{xs:List V}{us:List Value}(r:Vals xs us):xs.length=us.length:=Paired.length r
theorem Vals.get:∀ {xs:List V} {us:List Value} {i:Nat} {x:V},Vals xs us->xs[i]?=some x->∃u,us[i]?=some u/\RelV x u
 | _,_,_,_,.nil,e=>by simp at e
 | _,_,0,_,.cons r _,e=>by simp at e;subst e;exact⟨_,rfl,r⟩
 | _,_,i+1,x,.cons _ t,e=>by
  obtain⟨u,h1,h2⟩:=Vals.get (i:=i) (x:=x) t (by simpa using e)
  exact⟨u,by simpa using h1,h2⟩
theorem Vals.set{x:V}{u:Value}(r:RelV x u):∀ {xs:List V} {us:List Value} (i:Nat),Vals xs us->Vals (xs.set i x) (us.set i u)
 | _,_,_,.nil=>.nil
 | _,_,0,.cons _ t=>.cons r t
 | _,_,i+1,.cons q t=>.cons q (Vals.set r i t)
theorem Vals.append:∀ {xs ys:List V} {us ws:List Value},Vals xs us->Vals ys ws->Vals (xs++ys) (us++ws)
 | _,_,_,_,.nil,s=>s
 | _,_,_,_,.cons r t,s=>.cons r (Vals.append t s)
theorem Vals.take:∀ {xs:List V} {us:List Value} (n:Nat),Vals xs us->Vals (xs.take n) (us.take n)
 | _,_,0,_=>.nil
 | _,_,_+1,.nil=>.nil
 | _,_,n+1,.cons r t=>.cons r (Vals.take n t)
theorem Vals.drop:∀ {xs:List V} {us:List Value} (n:Nat),Vals xs us->Vals (xs.drop n) (us.drop n)
 | _,_,0,r=>r
 | _,_,_+1,.nil=>.nil
 | _,_,n+1,.cons _ t=>Vals.drop n t
def ou:Option V->Option Value->Prop
 | some v,some u=>RelV v u
 | none,none=>True
 | _,_=>False
def KV{κ:Type}:List (κ×V)->List (κ×Value)->Prop:=Paired λ(p:κ×V) (q:κ×Value)=>p.1=q.1/\RelV p.2 q.2
def kV:Key->V
 | .inl i=>.int i
 | .inr x=>.str x
inductive HO where
 /-- a list -/
 | lst (xs:List V)
 /-- a tuple (never changes) -/
 | tup (xs:List V)
 /-- a dict whose keys are ints and texts;one whose keys are tuples of ints and texts (the empty one is both) -/
 | dK (kvs:List (Key×V))|dT (kvs:List (List Key×V))
 /-- a set of ints: its members,its size -/
 | set (S:Int->Bool) (n:Nat)
 /-- an instance of the class at C,its dict at dx,its attributes -/
 | ins (C dx:Addr) (fs:List (Str×V))
 /-- the dict of the instance at x -/
 | own (x:Addr)
 /-- the dict of an exception -/
 | xd (fs:List (Str×V))
 /-- a bound method,f of x -/
 | met (f x:Addr)
 /-- a range object lo,lo+1,.. below hi -/
 | QA (lo hi:Int)
 /-- a thing that is known to the object (the script;a dict while a loop walks it): read,never written while it is so -/
 | yA (o:Obj) (u:HO)
 /-- a code object's table -/
 | RX (ps:Array Value)
 /-- the same,and it may grow by the code of one lambda: as it was,the lambda's place,its name -/
 | lam (ps:Array Value) (pos:Pos) (qual:Str)
 /-- any other thing,by what is true of its one object (a def of one's own: SetO a S n:=HO.ext λh=>..) -/
 | ext (φ:Heap->Prop)
abbrev Hp:=Addr->Option HO
def upd(H:Hp)(a:Addr)(o:HO):Hp:=λb=>if b=a then some o else H b
theorem ay{H:Hp}{a:Addr}{o:HO}:upd H a o a=some o:=by unfold upd;rw[if_pos rfl]
theorem aq{H:Hp}{a b:Addr}{o:HO}(h:b≠a):upd H a o b=H b:=by unfold upd;rw[if_neg h]
theorem Wj{H:Hp}{a b:Addr}{o u:HO}(h:H a=some o)(h':H b=some u)(d:o≠u):a≠b:=by
 intro e;subst e;rw[h]at h';exact d (Option.some.inj h')
theorem ck{H:Hp}{a b:Addr}{o:HO}(h:H a=some o)(h':H b=none):a≠b:=by
 intro e;subst e;rw[h]at h';cases h'
section
variable (P:Program)(w:World)
def cu(H:Hp)(h:Heap)(a:Addr):HO->Prop
 | .lst xs=>xs.length<=sizeLine/\∃(its:List Value) (n:Nat),Vals xs its/\h.get? a=some {cls:=.type "list",data:=.seq its.toArray n}
 | .tup xs=>xs.length<=sizeLine/\∃its:List Value,Vals xs its/\IsTup h a its.toArray
 | .dK kvs=>kvs.length<=sizeLine/\(a==sysModules)=false/\∃vs,KV kvs vs/\h.DictOf (bR P w) a vs
 | .dT kvs=>kvs.length<=sizeLine/\(a==sysModules)=false/\∃xs:List (List Key×Addr×Value),
   Paired (λ(p:List Key×V) (q:List Key×Addr×Value)=>p.1=q.1/\H q.2.1=some (.tup (p.1.map kV))/\RelV p.2 q.2.2) kvs xs /\
   ∃o es ep,h.get? a=some o/\o.ExactDict/\o.data=.dict es ep/\es.toList=xs.map (entryOfKey (tupleKind (bR P w)))/\(xs.map (·.1)).Nodup
 | .set S n=>h.SetOf (intKind P w) a S n
 | .ins C dx fs=>H dx=some (.own a)/\fs.length<=1000/\dx≠a/\h.get? a=some (PySem.W.instObj C dx) /\
   ∃mA,h.Ns1 dx mA/\(∀f,ou (fs.lookup f) (mA f))/\PySem.Within mA (fs.map (·.1))
 | .own _=>∃o,h.get? a=some o
 | .xd fs=>∃mA,h.Ns1 a mA/\∀f,ou (fs.lookup f) (mA f)
 | .QA lo hi=>∃t u v,h.get? a=some {cls:=.type "range",data:=.fields #[.int lo t,.int hi u,.int 1 v]}
 | .yA o u=>h.get? a=some o/\cu H h a u
 | .RX ps=>h.get? a=some {cls:=.none,data:=.fields ps}
 | .lam ps pos qual=>∃more,h.get? a=some {cls:=.none,data:=.fields (ps++more)}/\TriplesOk (ps++more).toList/\(codeAmong pos (ps++more).toList=none\/∃c' o vs t,codeAmong pos (ps++more).toList=some (.ref c')/\H c'=some (.yA o (.own a))/\o.data=.fields vs/\vs[1]?=some (.str qual t))
 | .met f x=>h.get? a=some (PySem.W.methodObj (.ref f) (.ref x))
 | .ext φ=>φ h/\(∃o,h.get? a=some o)/\∀h1 h2:Heap,φ h1->(∀o,h1.get? a=some o->h2.get? a=some o)->φ h2
def iI(H:Hp)(h:Heap):Prop:=∀a o,H a=some o->cu P w H h a o
end
section
variable {P:Program}{w:World}{H H':Hp}{h h':Heap}{a:Addr}{o:HO}
theorem cu.lt(x:cu P w H h a o):a<h.objs.size:=by
 cases o with
 | lst xs=>obtain⟨_,_,_,_,e⟩:=x;exact Heap.lt_size e
 | tup xs=>obtain⟨_,_,_,p⟩:=x;exact p.lt
 | dK kvs=>obtain⟨_,_,_,_,o,_,_,e,_⟩:=x;exact Heap.lt_size e
 | dT kvs=>obtain⟨_,_,_,_,o,_,_,e,_⟩:=x;exact Heap.lt_size e
 | set S n=>obtain⟨o,_,_,_,e,_⟩:=x;exact Heap.lt_size e
 | ins C dx fs=>obtain⟨_,_,_,e,_⟩:=x;exact Heap.lt_size e
 | own y=>obtain⟨_,e⟩:=x;exact Heap.lt_size e
 | xd fs=>obtain⟨_,⟨_,_,_,e,_⟩,_⟩:=x;exact Heap.lt_size e
 | QA lo hi=>obtain⟨_,_,_,e⟩:=x;exact Heap.lt_size e
 | yA ob u=>obtain⟨e,_⟩:=x;exact Heap.lt_size e
 | RX ps=>exact Heap.lt_size (show h.get? a=some _ from x)
 | lam ps pos qual=>obtain⟨_,e,_⟩:=x;exact Heap.lt_size e
 | met f y=>exact Heap.lt_size (show h.get? a=some _ from x)
 | ext φ=>obtain⟨_,⟨_,e⟩,_⟩:=x;exact Heap.lt_size e
theorem Paired.N8{α β:Type}{F G:α->β->Prop}:∀ {Wg:List α} {Wh:List β},Paired F Wg Wh->(∀a b,F a b->G a b)->Paired G Wg Wh
 | _,_,.nil,_=>.nil
 | _,_,.cons r t,f=>.cons (f _ _ r) (Paired.N8 t f)
theorem cu.xS(x:cu P w H h a o)(k:∀b u,(b=a\/H b=some (.own a))->h.get? b=some u->h'.get? b=some u)
  (ho:∀b,H b=some (.own a)->H' b=some (.own a)) (ht:∀b xs,H b=some (.tup xs)->H' b=some (.tup xs)) (hf:∀b o u,H b=some (.yA o u)->H' b=some (.yA o u):=by exactλ_ _ _ q=>q):cu P w H' h' a o:=by
 induction o with
 | lst xs=>obtain⟨z,its,n,r,e⟩:=x;exact⟨z,its,n,r,k _ _ (.inl rfl) e⟩
 | tup xs=>obtain⟨z,its,r,ob,e,c⟩:=x;exact⟨z,its,r,ob,k _ _ (.inl rfl) e,c⟩
 | dK kvs=>obtain⟨z,y,vs,r,ob,es,ep,e,c⟩:=x;exact⟨z,y,vs,r,ob,es,ep,k _ _ (.inl rfl) e,c⟩
 | dT kvs =>
  obtain⟨z,y,xs,r,ob,es,ep,e,c⟩:=x;exact⟨z,y,xs,Paired.N8 r λp q z=>⟨z.1,ht _ _ z.2.1,z.2.2⟩,ob,es,ep,k _ _ (.inl rfl) e,c⟩
 | set S n=>obtain⟨ob,es,ep,t,e,c⟩:=x;exact⟨ob,es,ep,t,k _ _ (.inl rfl) e,c⟩
 | ins C dx fs =>
  obtain⟨d,z,ne,e,mA,⟨od,es,ep,e2,c⟩,r⟩:=x;exact⟨ho _ d,z,ne,k _ _ (.inl rfl) e,mA,⟨od,es,ep,k _ _ (.inr d) e2,c⟩,r⟩
 | own y=>obtain⟨ob,e⟩:=x;exact⟨ob,k _ _ (.inl rfl) e⟩
 | xd fs=>obtain⟨mA,⟨od,es,ep,e,c⟩,r⟩:=x;exact⟨mA,⟨od,es,ep,k _ _ (.inl rfl) e,c⟩,r⟩
 | QA lo hi=>obtain⟨t,u,v,e⟩:=x;exact⟨t,u,v,k _ _ (.inl rfl) e⟩
 | yA ob u ih=>obtain⟨e,q⟩:=x;exact⟨k _ _ (.inl rfl) e,ih q⟩
 | lam ps pos qual =>
  obtain⟨more,e,tr,c⟩:=x;refine⟨more,k _ _ (.inl rfl) e,tr,?_⟩;rcases c with c|⟨c',o,vs,t,c1,c2,c3⟩
  ·exact .inl c
  ·exact .inr ⟨c',o,vs,t,c1,hf _ _ _ c2,c3⟩
 | RX ps =>
  have e:h.get? a=some {cls:=.none,data:=.fields ps}:=x;show h'.get? a=some {cls:=.none,data:=.fields ps};exact k a _ (.inl rfl) e
 | met f y =>
  have e:h.get? a=some (PySem.W.methodObj (.ref f) (.ref y)):=x;show h'.get? a=some (PySem.W.methodObj (.ref f) (.ref y));exact k a _ (.inl rfl) e
 | ext φ=>obtain⟨p,⟨o,e⟩,st⟩:=x;exact⟨st _ _ p λo q=>k _ _ (.inl rfl) q,⟨o,k _ _ (.inl rfl) e⟩,st⟩
theorem iI.lt(x:iI P w H h)(e:H a=some o):a<h.objs.size:=(x a o e).lt
theorem iI.fresh(x:iI P w H h)(e:h.objs.size<=a):H a=none:=by
 cases q:H a with
 | none=>rfl
 | some u=>exact absurd (Nat.lt_of_lt_of_le (x.lt q) e) (Nat.lt_irrefl _)
theorem iI.kept(x:iI P w H h)(k:∀b u,h.get? b=some u->h'.get? b=some u):iI P w H h':=λa o e =>
 (x a o e).xS (λb u _ q=>k b u q) (λ_ q=>q) λ_ _ q=>q
theorem iI.laid(x:iI P w H h)(k:∀b u,h.get? b=some u->h'.get? b=some u)(hp:h.objs.size<=a)(new:cu P w (upd H a o) h' a o):iI P w (upd H a o) h':=λb u e=>by
 have hn:=x.fresh hp
 by_cases hb:b=a
 ·subst hb;rw[ay]at e;cases e;exact new
 ·rw[aq hb]at e
  exact(x b u e).xS (λc v _ q=>k c v q) (λc q=>by rw[aq (ck q hn)];exact q) (λc xs q=>by rw[aq (ck q hn)];exact q) λc o u q=>by rw[aq (ck q hn)];exact q
end
def Rd(H:Hp)(a:Addr)(u:HO):Prop:=H a=some u\/∃o,H a=some (.yA o u)
theorem Rd.of{H:Hp}{a:Addr}{u:HO}(h:H a=some u):Rd H a u:=.inl h
theorem Rd.ok{P:Program}{w:World}{H:Hp}{h:Heap}{a:Addr}{u:HO}(r:Rd H a u)(x:iI P w H h):cu P w H h a u:=by
 rcases r with r|⟨o,r⟩
 ·exact x a u r
 ·obtain⟨_,q⟩:=x a _ r
  exact q
def Tq:Option HO->Prop
 | some (.lst _)=>True
 | some (.dK _)=>True
 | some (.dT _)=>True
 | some (.set _ _)=>True
 | some (.ins _ _ _)=>True
 | some (.ext _)=>True
 | some (.lam _ _ _)=>True
 | _=>False
section
variable {P:Program}{w:World}{H:Hp}{h h':Heap}{x e:Addr}{o':HO}
theorem iI.write(ok:iI P w H h)(mu:Tq (H x))(he:e=x\/H e=some (.own x))(k:∀b u,b≠e->h.get? b=some u->h'.get? b=some u)(SD:∃u,h'.get? e=some u)
  (new:cu P w (upd H x o') h' x o'):iI P w (upd H x o') h':=λb u q=>by
 have Wo:∀c y,H c=some (.own y)->c≠x:=λc y r z=>by subst z;rw[r]at mu;exact mu
 have aao:∀c xs,H c=some (.tup xs)->c≠x:=λc xs r z=>by subst z;rw[r]at mu;exact mu
 by_cases hb:b=x
 ·subst hb;rw[ay]at q;cases q;exact new
 ·rw[aq hb]at q
  by_cases MU:b=e
  ·have q':H b=some (.own x):=by
    rcases he with z|z
    ·exact absurd (MU.trans z) hb
    ·rw[MU];exact z
   rw[q]at q';cases q';obtain⟨v,hv⟩:=SD;exact⟨v,by rw[MU];exact hv⟩
  ·refine(ok b u q).xS (λc v hc r=>k c v ?_ r) (λc r=>by rw[aq (Wo c b r)];exact r) (λc xs r=>by rw[aq (aao c xs r)];exact r) λc o u r=>by rw[aq (λz=>by subst z;rw[r]at mu;exact mu)];exact r
   rcases hc with rfl|hc
   ·exact MU
   ·rintro rfl
    rcases he with z|z
    ·exact Wo c b hc z
    ·rw[hc]at z;cases z;exact hb rfl
end
structure Un(fs ex:List Addr)(H H':Hp)(h h':Heap):Prop where
 keep:∀b o,h.get? b=some o->H b=none->b∉fs->b∉ex->h'.get? b=some o
 slot:∀b o,h.get? b=some o->H b=none->b∈fs->b∉ex->∃sl,h'.get? b=some {o with slots:=sl}
 free:∀b o,h.get? b=some o->H b=none->b∉ex->H' b=none
 there:∀b o,h.get? b=some o->b∉ex->∃o',h'.get? b=some o'
 v9:∀b xs,H b=some (.tup xs)->H' b=some (.tup xs)
 qD:∀b o u,H b=some (.yA o u)->H' b=some (.yA o u)
 vZ:∀b ps,H b=some (.RX ps)->∃more,H' b=some (.RX (ps++more))
section
variable {fs fs' ex kr:List Addr}{H H1 H2:Hp}{h h1 h2 h':Heap}{a x e:Addr}{o:HO}
theorem Un.any(u:Un fs ex H H1 h h1){b:Addr}{ob:Obj}(q:h.get? b=some ob)(n:H b=none)(hx:b∉ex):∃sl,h1.get? b=some {ob with slots:=sl}:=by
 by_cases hb:b∈fs
 ·exact u.slot b ob q n hb hx
 ·exact⟨ob.slots,u.keep b ob q n hb hx⟩
theorem Un.kept(k:∀b u,h.get? b=some u->h'.get? b=some u):Un fs ex H H h h':=
 ⟨λb ob q _ _ _=>k b ob q,λb ob q _ _ _=>⟨ob.slots,k b ob q⟩,λ_ _ _ n _=>n,λb ob q _=>⟨ob,k b ob q⟩,λ_ _ q=>q,λ_ _ _ q=>q,λ_ ps q=>⟨#[],by rw[q];simp⟩⟩
theorem Un.refl:Un fs ex H H h h:=Un.kept λ_ _ q=>q
theorem Un.laid(k:∀b u,h.get? b=some u->h'.get? b=some u)(hp:h.objs.size<=a)(hn:H a=none):Un fs ex H (upd H a o) h h' where
 keep:=λb u q _ _ _=>k b u q
 slot:=λb u q _ _ _=>⟨u.slots,k b u q⟩
 free:=λb u q n _=>by rw[aq (Nat.ne_of_lt (Nat.lt_of_lt_of_le (Heap.lt_size q) hp))];exact n
 there:=λb u q _=>⟨u,k b u q⟩
 v9:=λb xs q=>by rw[aq (ck q hn)];exact q
 qD:=λb u xs q=>by rw[aq (ck q hn)];exact q
 vZ:=λb ps q=>⟨#[],by rw[aq (ck q hn),q];simp⟩
theorem Un.write(mu:Tq (H x))(he:e=x\/H e=some (.own x))(k:∀b u,b≠e->h.get? b=some u->h'.get? b=some u)(SD:∃u,h'.get? e=some u):Un fs ex H (upd H x o) h h':=by
 have hx:∀b,H b=none->b≠x:=λb n z=>by subst z;rw[n]at mu;exact mu
 have hb:∀b,H b=none->b≠e:=λb n z=>by
  subst z;rcases he with r|r
  ·exact hx b n r
  ·rw[n]at r;cases r
 have hm:∀b u,H b=some u->¬Tq (some u)->b≠x:=λb u q nm z=>by subst z;rw[q]at mu;exact nm mu
 refine⟨λb u q n _ _=>k b u (hb b n) q,λb u q n _ _=>⟨u.slots,k b u (hb b n) q⟩,λb u q n _=>by rw[aq (hx b n)];exact n,λb u q _=>?_,
  λb xs q=>by rw[aq (hm b _ q λz=>z)];exact q,λb u xs q=>by rw[aq (hm b _ q λz=>z)];exact q,λb ps q=>⟨#[],by rw[aq (hm b _ q λz=>z),q];simp⟩⟩
 by_cases MU:b=e
 ·subst MU;exact SD
 ·exact⟨u,k b u MU q⟩
end
def YG(h:Heap)(H:Hp):List Addr:=(List.range h.objs.size).filter λa=>(H a).isSome
def qI(h:Heap)(H:Hp):Heap:=PySem.W.hideAll h (YG h H)
theorem Ae(h:Heap)(H:Hp):(qI h H).objs.size=h.objs.size:=PySem.W.hideAll_size _ _
theorem DE{h:Heap}{H:Hp}{b:Addr}{o:Obj}(e:h.get? b=some o)(n:H b=none):(qI h H).get? b=some o:=
 PySem.W.hideAll_get _ e λhm=>by
  have q:(H b).isSome=true:=(List.mem_filter.mp hm).2;rw[n]at q;simp at q
theorem HK{h:Heap}{H:Hp}{b:Addr}{o:Obj}(e:(qI h H).get? b=some o):h.get? b=some o/\H b=none:=by
 have e':h.get? b=some o:=PySem.W.of_hideAll (YG h H) e;refine⟨e',?_⟩;cases q:H b with
 | none=>rfl
 | some x =>
  have hm:b∈YG h H:=List.mem_filter.mpr ⟨List.mem_range.mpr (Heap.lt_size e'),by simp [q]⟩
  have z:(qI h H).get? b=none:=PySem.W.hideAll_none (YG h H) hm;rw[z]at e;cases e
def GK(g h:Heap)(L:Addr):List (Addr×Obj):=(List.range h.objs.size).filterMap λa=>if a=L\/(g.get? a).isSome=true then none else(h.get? a).map λo=>(a,o)
def rest(g h:Heap)(L d:Addr):List (Addr×Obj):=(GK g h L).filter λp=>decide (p.1≠d)
end L2
namespace L2
open PySem PySem.Spec PyProof.Rows
structure Mod(K:PySem.W.Frag)(mg:Str->Option Value)(base:Heap):Prop where
 kin:K.In base
 glob:base.Ns mainGlobals mg
 blt:∃mb,base.Ns builtinsNs mb/\∀x:Str,x≠"__name__"->mb x=bootBuiltins x
 nolimit:base.NoLimit
structure Cx where
 prog:Program
 w:World
 K:PySem.W.Frag
 mg:Str->Option Value
 base:Heap
 A:Around
 N:List Str
 dr:Shared
 wI:Hp
 env:Env
 outer:List Env
 stack:List Env
 ex:List Addr
 fn:Str->Bool
 calm:Bool
 pn:List (Addr×Obj)
 xe:Value->Shared->Prop
def Dd(l:List Env):List Addr:=l.filterMap (·.frame)
abbrev Cx.fs(X:Cx):List Addr:=Dd X.outer
def BE(sc:Scope)(x:Str):Prop:=sc.names.lookup x=some .local\/sc.names.lookup x=some .cell\/sc.names.lookup x=some .free
def Loc(sc:Scope)(x:Str):Prop:=sc.names.lookup x=some .local\/sc.names.lookup x=some .cell
def Look(env:Env)(h:Heap)(m:Str->Option Value)(x:Str)(u:Value):Prop:=
 (env.kindOf x=some .local/\m x=some u)\/((env.kindOf x=some .cell\/env.kindOf x=some .free)/\∃c,env.cells.lookup x=some c/\h.IsCell c (some u))
structure Cx.Ok(X:Cx):Prop where
 mod:Mod X.K X.mg X.base
 kind:X.env.scope.kind=.function
 glob:X.env.globals=mainGlobals
 blt:X.env.builtins=builtinsNs
 above:X.dr.heap.objs.size<=X.env.locals
 inj:∀x y c,X.env.cells.lookup x=some c->X.env.cells.lookup y=some c->x=y
 has:∀x,(X.env.kindOf x=some .cell\/X.env.kindOf x=some .free)->∃c,X.env.cells.lookup x=some c
 Ss:∀x c,X.fn x=true->X.env.cells.lookup x=some c->X.dr.heap.objs.size<=c
 hd:X.calm=true->X.A.handled=none
 frames:X.A.frames=some X.stack
 XY:X.stack=X.outer\/(X.stack=X.env::X.outer/\X.env.frame=some X.env.locals)
 Zm:∀b∈X.ex,b≠X.env.locals/\∀x c,X.env.cells.lookup x=some c->c≠b
 bs:∀b o,X.base.get? b=some o->X.dr.heap.get? b=some o/\X.wI b=none
 Gh:X.base.objs.size<=X.dr.heap.objs.size
 Aw:∀b o,X.base.get? b=some o->b∉X.ex
 CU:∀b∈X.ex,b∉X.fs
 lN:X.dr.heap.FunFrames X.base X.outer
 MN:∀b∈X.fs,X.wI b=none
structure Inv(X:Cx)(pins:List (Addr×Obj))(σ:List (Option V))(H:Hp)(s:Shared):Prop where
 ok:X.Ok
 os:s.os=X.dr.os
 bare:AllBare s.gens
 base:Un X.fs X.ex X.wI H X.dr.heap s.heap
 loc:∃m,s.heap.Ns X.env.locals m/\∀(i:Nat) (x:Str) (v:V),X.N[i]?=some x->σ[i]?=some (some v)->BE X.env.scope x->∃u,RelV v u/\Look X.env s.heap m x u
 cell:∀x c,X.env.cells.lookup x=some c->∃v,s.heap.IsCell c v
 free:H X.env.locals=none
 gH:∀x c,X.env.cells.lookup x=some c->H c=none
 pin:∀p∈X.pn++pins,s.heap.get? p.1=some p.2/\H p.1=none/\p.1≠X.env.locals/\p.1∉X.fs/\∀v,p.2.data≠.cell v
 bU:iI X.prog X.w H s.heap
 len:σ.length=X.N.length
section
variable {X:Cx}{pins:List (Addr×Obj)}{σ:List (Option V)}{H H':Hp}{s:Shared}{h':Heap}
theorem Cx.Ok.aal(ok:X.Ok){b:Addr}{o:Obj}(e:X.base.get? b=some o):b∉X.fs:=λhb=>by
 have:=(ok.lN.mem hb).1;rw[e]at this;cases this
theorem Inv.bs(I:Inv X pins σ H s):∀b o,X.base.get? b=some o->s.heap.get? b=some o/\H b=none:=λb o e =>
 ⟨I.base.keep b o (I.ok.bs b o e).1 (I.ok.bs b o e).2 (I.ok.aal e) (I.ok.Aw b o e),I.base.free b o (I.ok.bs b o e).1 (I.ok.bs b o e).2 (I.ok.Aw b o e)⟩
theorem Inv.bk(I:Inv X pins σ H s):∀b o,X.base.get? b=some o->s.heap.get? b=some o:=λb o e=>(I.bs b o e).1
theorem Inv.mod(I:Inv X pins σ H s):Mod X.K X.mg X.base:=I.ok.mod
theorem Inv.SU(I:Inv X pins σ H s):X.K.In s.heap:=I.ok.mod.kin.keeps I.bk
theorem Inv.fr(I:Inv X pins σ H s):∃m,Fr X.base X.env.locals s.heap m:=
 let ⟨m,hn,_⟩:=I.loc
 ⟨m,hn,I.bk,Nat.le_trans I.ok.Gh I.ok.above⟩
theorem Inv.lt(I:Inv X pins σ H s):X.env.locals<s.heap.objs.size:=let ⟨_,hn,_⟩:=I.loc;hn.lt
theorem Inv.sz(I:Inv X pins σ H s):X.dr.heap.objs.size<=s.heap.objs.size:=Nat.le_trans I.ok.above (Nat.le_of_lt I.lt)
theorem Inv.aam(I:Inv X pins σ H s){a:Addr}(h:s.heap.objs.size<=a):a∉X.fs:=λhb=>by
 obtain⟨_,o,ho,_⟩:=I.ok.lN.mem hb;exact absurd (Nat.lt_of_lt_of_le (Heap.lt_size ho) (Nat.le_trans I.sz h)) (Nat.lt_irrefl _)
theorem Inv.yn(I:Inv X pins σ H s):∀x c,X.env.cells.lookup x=some c->c≠X.env.locals:=λx c e z=>by
 obtain⟨v,o,ho,hd⟩:=I.cell x c e;obtain⟨m,⟨o',es,ep,Gw,hd',_⟩,_⟩:=I.loc;rw[z,Gw]at ho;cases ho;rw[hd']at hd;cases hd
theorem Inv.lN(I:Inv X pins σ H s):s.heap.FunFrames X.base X.outer:=by
 have all:∀(l:List Env),(∀b∈Dd l,b∈X.fs)->X.dr.heap.FunFrames X.base l->s.heap.FunFrames X.base l:=by
  intro l
  induction l with
  | nil=>intro _ _;trivial
  | cons env r ih =>
   intro hs hl;obtain⟨hk,⟨L,o,hf,hn,ho,hd⟩,hr⟩:=hl;have hL:L∈X.fs:=hs L (by unfold Dd;rw[List.filterMap_cons,hf];exact List.mem_cons_self)
   obtain⟨sl,e⟩:=I.base.slot L o ho (I.ok.MN L hL) hL λz=>I.ok.CU L z hL;exact⟨hk,⟨L,_,hf,hn,e,hd⟩,ih (λb hb=>hs b (by unfold Dd;rw[List.filterMap_cons,hf];exact List.mem_cons_of_mem _ hb)) hr⟩
 exact all X.outer (λ_ hb=>hb) I.ok.lN
theorem Inv.stack(I:Inv X pins σ H s):s.heap.FunFrames X.base X.stack:=by
 rcases I.ok.XY with e|⟨e,hf⟩
 ·rw[e];exact I.lN
 ·rw[e]
  obtain⟨m,hn,_⟩:=I.loc;refine .cons (by rw[I.ok.kind];decide) hf hn ?_ I.lN
  exact Heap.get?_none_of_le (Nat.le_trans I.ok.Gh I.ok.above)
theorem Inv.sE(I:Inv X pins σ H s):∀b∈Dd X.stack,b∈X.env.locals::X.fs:=λb hb=>by
 rcases I.ok.XY with e|⟨e,hf⟩
 ·rw[e]at hb;exact List.mem_cons_of_mem _ hb
 ·rw[e]at hb
  unfold Dd at hb;rw[List.filterMap_cons,hf]at hb;exact hb
theorem Inv.zq(I:Inv X pins σ H s):∀b∈Dd X.stack,H b=none:=λb hb=>by
 rcases List.mem_cons.mp (I.sE b hb)with e|hb
 ·rw[e];exact I.free
 ·obtain⟨_,o,ho,_⟩:=I.ok.lN.mem hb
  exact I.base.free b o ho (I.ok.MN b hb) λz=>I.ok.CU b z hb
theorem Inv.step{g':Array GenState}{t':Nat}{d':Drawn}{ch:List Addr}(I:Inv X pins σ H s)
  (Gp:∀b∈ch,(b∈X.ex\/X.dr.heap.get? b=none)/\b≠X.env.locals/\(∀x c,X.env.cells.lookup x=some c->c≠b)/\∀p∈X.pn++pins,p.1≠b)
  (keep:∀b o,b≠X.env.locals->b∉X.fs->b∉ch->s.heap.get? b=some o->H b=none->h'.get? b=some o)
  (slot:∀b o,b≠X.env.locals->b∈X.fs->b∉ch->s.heap.get? b=some o->H b=none->∃sl,h'.get? b=some {o with slots:=sl}) (free:∀b o,b∉ch->s.heap.get? b=some o->H b=none->H' b=none)
  (there:∀b o,b∉ch->s.heap.get? b=some o->∃o',h'.get? b=some o')
  (v9:∀b xs,H b=some (.tup xs)->H' b=some (.tup xs)) (qD:∀b o u,H b=some (.yA o u)->H' b=some (.yA o u)) (vZ:∀b ps,H b=some (.RX ps)->∃more,H' b=some (.RX (ps++more)))
  (ns:∀m,s.heap.Ns X.env.locals m->h'.Ns X.env.locals m) (bU:iI X.prog X.w H' h') (hg:AllBare g'):
  Inv X pins σ H' {s with heap:=h',gens:=g',drawn:=d',toks:=t'}:=by
 have neL:∀b o,X.dr.heap.get? b=some o->b≠X.env.locals:=λb o e=>Nat.ne_of_lt (Nat.lt_of_lt_of_le (Heap.lt_size e) I.ok.above);have Yx:∀b o,X.dr.heap.get? b=some o->b∉X.ex->b∉ch:=λb o e hx hb=>by
  rcases(Gp b hb).1 with z|z
  ·exact hx z
  ·rw[e]at z;cases z
 have cellK:∀x c,X.env.cells.lookup x=some c->∀v,s.heap.IsCell c v->h'.IsCell c v:=λx c e v ⟨o,ho,hd⟩=>by
  have DZ:c∉ch:=λz=>(Gp c z).2.2.1 x c e rfl
  by_cases hc:c∈X.fs
  ·obtain⟨sl,q⟩:=slot c o (I.yn x c e) hc DZ ho (I.gH x c e)
   exact⟨_,q,hd⟩
  ·exact⟨o,keep c o (I.yn x c e) hc DZ ho (I.gH x c e),hd⟩
 refine⟨I.ok,I.os,hg,⟨λb o e n hb hx=>?_,λb o e n hb hx=>?_,λb o e n hx=>?_,λb o e hx=>?_,λb xs e=>v9 b xs (I.base.v9 b xs e),λb o xs e=>qD b o xs (I.base.qD b o xs e),λb ps e=>?_⟩,?_,λx c e=>?_,?_,λx c e=>?_,λp hp=>?_,bU,I.len⟩
 ·exact keep b o (neL b o e) hb (Yx b o e hx) (I.base.keep b o e n hb hx) (I.base.free b o e n hx)
 ·obtain⟨sl,e1⟩:=I.base.slot b o e n hb hx
  obtain⟨sl',e2⟩:=slot b _ (neL b o e) hb (Yx b o e hx) e1 (I.base.free b o e n hx);exact⟨sl',e2⟩
 ·obtain⟨o',e1⟩:=I.base.there b o e hx
  exact free b o' (Yx b o e hx) e1 (I.base.free b o e n hx)
 ·obtain⟨o',e1⟩:=I.base.there b o e hx
  exact there b o' (Yx b o e hx) e1
 ·obtain⟨m1,e1⟩:=I.base.vZ b ps e
  obtain⟨m2,e2⟩:=vZ b _ e1;exact⟨m1++m2,by rw[e2,Array.append_assoc]⟩
 ·obtain⟨m,hn,hl⟩:=I.loc
  refine⟨m,ns m hn,λi x v e1 e2 e3=>?_⟩;obtain⟨u,r,l⟩:=hl i x v e1 e2 e3;refine⟨u,r,?_⟩;rcases l with l|⟨k,c,e,z⟩
  ·exact .inl l
  ·exact .inr ⟨k,c,e,cellK x c e _ z⟩
 ·obtain⟨v,z⟩:=I.cell x c e
  exact⟨v,cellK x c e v z⟩
 ·obtain⟨m,⟨o,_,_,ho,_⟩,_⟩:=I.loc
  exact free _ o (λz=>(Gp _ z).2.1 rfl) ho I.free
 ·obtain⟨v,o,ho,hd⟩:=I.cell x c e
  exact free c o (λz=>(Gp c z).2.2.1 x c e rfl) ho (I.gH x c e)
 ·obtain⟨e,n,ne,nf,d⟩:=I.pin p hp
  have DZ:p.1∉ch:=λz=>(Gp p.1 z).2.2.2 p hp rfl;exact⟨keep p.1 p.2 ne nf DZ e n,free p.1 p.2 DZ e n,ne,nf,d⟩
theorem Inv.un{t':Nat}(I:Inv X pins σ H s)(u:Un X.fs [] H H' s.heap h')(bU:iI X.prog X.w H' h'):Inv X pins σ H' {s with heap:=h',toks:=t'}:=by
 obtain⟨m,⟨o,es,ep,ho,r⟩,_⟩:=id I.loc;obtain⟨sl,hL⟩:=u.any ho I.free (by simp)
 exact I.step (g':=s.gens) (d':=s.drawn) (ch:=[]) (λ_ z=>nomatch z) (λb o _ hb _ e n=>u.keep b o e n hb (by simp)) (λb o _ hb _ e n=>u.slot b o e n hb (by simp)) (λb o _ e n=>u.free b o e n (by simp)) (λb o _ e=>u.there b o e (by simp)) u.v9 u.qD u.vZ (λm' hm=>by
  obtain⟨o',Ms,Zj,Gw,r'⟩:=hm;rw[ho]at Gw;cases Gw;exact⟨_,Ms,Zj,hL,r'⟩) bU I.bare
theorem Inv.call{g':Array GenState}{t':Nat}{d':Drawn}{ch:List Addr}(I:Inv X pins σ H s)(u:Un (Dd X.stack) ch H H' s.heap h')(bU:iI X.prog X.w H' h')(hg:AllBare g')
  (Gp:∀b∈ch,(b∈X.ex\/X.dr.heap.get? b=none)/\b≠X.env.locals/\(∀x c,X.env.cells.lookup x=some c->c≠b)/\∀p∈X.pn++pins,p.1≠b):
  Inv X pins σ H' {s with heap:=h',gens:=g',drawn:=d',toks:=t'}:=by
 obtain⟨m,⟨o,es,ep,ho,r⟩,_⟩:=id I.loc;obtain⟨sl,hL⟩:=u.any ho I.free λz=>(Gp _ z).2.1 rfl;exact I.step (ch:=ch) Gp (λb o hL hb hc e n=>u.keep b o e n (λz=>(List.mem_cons.mp (I.sE b z)).elim hL hb) hc) (λb o _ _ hc e n=>u.any e n hc) (λb o hc e n=>u.free b o e n hc) (λb o hc e=>u.there b o e hc) u.v9 u.qD u.vZ (λm' hm=>by
  obtain⟨o',Ms,Zj,Gw,r'⟩:=hm;rw[ho]at Gw;cases Gw;exact⟨_,Ms,Zj,hL,r'⟩) bU hg
theorem Inv.turned{t':Nat}{it:Addr}(I:Inv X pins σ H s)(k:∀b o,b≠it->s.heap.get? b=some o->h'.get? b=some o)(hn:H it=none)(hL:it≠X.env.locals)
  (h1:it∈X.ex\/X.dr.heap.objs.size<=it) (h2:∀x c,X.env.cells.lookup x=some c->c≠it) (h3:∀p∈X.pn++pins,p.1≠it):Inv X pins σ H {s with heap:=h',toks:=t'}:=by
 have nit:∀b u,H b=some u->b≠it:=λb u e z=>by rw[z,hn]at e;cases e
 refine I.step (g':=s.gens) (d':=s.drawn) (ch:=[it]) (λb hb=>?_) (λb o _ _ hc e _=>k b o (λz=>hc (by simp [z])) e) (λb o _ _ hc e _=>⟨o.slots,k b o (λz=>hc (by simp [z])) e⟩) (λ_ _ _ _ n=>n)
  (λb o hc e=>⟨o,k b o (λz=>hc (by simp [z])) e⟩) (λ_ _ e=>e) (λ_ _ _ e=>e) (λb ps e=>⟨#[],by rw[e];simp⟩) (λm hm=>?_) (λb u e=>?_) I.bare
 ·have e:b=it:=by simpa using hb
  subst e;exact⟨h1.imp id λz=>Heap.get?_none_of_le z,hL,h2,h3⟩
 ·obtain⟨o,es,ep,ho,r⟩:=hm
  exact⟨o,es,ep,k _ o (Ne.symm hL) ho,r⟩
 ·refine(I.bU b u e).xS (λc v hc q=>k c v ?_ q) (λ_ q=>q) λ_ _ q=>q
  rcases hc with z|z
  ·rw[z];exact nit b u e
  ·exact nit c _ z
theorem Inv.tok(I:Inv X pins σ H s)(t:Nat):Inv X pins σ H {s with toks:=t}:=I.un (h':=s.heap) (t':=t) Un.refl I.bU
theorem Inv.kept{t':Nat}(I:Inv X pins σ H s)(k:∀b u,s.heap.get? b=some u->h'.get? b=some u):Inv X pins σ H {s with heap:=h',toks:=t'}:=I.un (Un.kept k) (I.bU.kept k)
theorem Inv.laid{a:Addr}{o:HO}{t':Nat}(I:Inv X pins σ H s)(k:∀b u,s.heap.get? b=some u->h'.get? b=some u)(hp:s.heap.objs.size<=a)(new:cu X.prog X.w (upd H a o) h' a o):
  Inv X pins σ (upd H a o) {s with heap:=h',toks:=t'}:=I.un (Un.laid k hp (I.bU.fresh hp)) (I.bU.laid k hp new)
theorem Inv.write{x e:Addr}{o:HO}{t':Nat}(I:Inv X pins σ H s)(mu:Tq (H x))(he:e=x\/H e=some (.own x))(k:∀b u,b≠e->s.heap.get? b=some u->h'.get? b=some u)(SD:∃u,h'.get? e=some u)
  (new:cu X.prog X.w (upd H x o) h' x o):Inv X pins σ (upd H x o) {s with heap:=h',toks:=t'}:=I.un (Un.write mu he k SD) (I.bU.write mu he k SD new)
theorem Inv.yW{Kb:List (Addr×Obj)}(I:Inv X pins σ H s)(h:∀p∈Kb,s.heap.get? p.1=some p.2/\H p.1=none/\p.1≠X.env.locals/\p.1∉X.fs/\∀v,p.2.data≠.cell v):Inv X Kb σ H s:=
 ⟨I.ok,I.os,I.bare,I.base,I.loc,I.cell,I.free,I.gH,λp hp=>(List.mem_append.mp hp).elim (λz=>I.pin p (List.mem_append_left _ z)) (h p),I.bU,I.len⟩
theorem vk{N:List Str}(hN:N.Nodup){i j:Nat}{x:Str}(a:N[i]?=some x)(b:N[j]?=some x):i=j:=by
 obtain⟨h1,e1⟩:=List.getElem?_eq_some_iff.mp a;obtain⟨h2,e2⟩:=List.getElem?_eq_some_iff.mp b;exact(List.getElem_inj hN).mp (e1.trans e2.symm)
theorem AY{M:Model}{A:Around}{E:Value->Shared->Prop}{i:Nat}{x:Str}{v:V}{u:Value}{Q:Unit->Shared->Prop}(I:Inv X pins σ H s)(hN:X.N.Nodup)(hi:X.N[i]?=some x)(hx:Loc X.env.scope x)(r:RelV v u)
  (h:∀s',Inv X pins (σ.set i (some v)) H s'->(∃a,Heap.SameBut a s.heap s'.heap/\(a=X.env.locals\/X.env.cells.lookup x=some a))->Q () s') (hf:X.fn x=true\/X.env.scope.names.lookup x=some .local:=by first|exact .inl rfl|exact .inr rfl|assumption):wpAny M A (storeName X.env x u) Q E s:=by
 obtain⟨m,hn,hl⟩:=id I.loc;have ZH:(X.env.scope.kind==.class||(X.env.scope.kind==.module&&X.env.locals != X.env.globals))=false:=by rw[I.ok.kind];rfl
 have Vr:i<σ.length:=by rw[I.len];exact(List.getElem?_eq_some_iff.mp hi).1
 have yn:=I.yn;have tracked:∀ {a:Addr} {h':Heap},(∃o,s.heap.get? a=some o/\H a=none)->Heap.SameBut a s.heap h'->iI X.prog X.w H h':=λ{a h'} ha hs b ob e=>by
  obtain⟨_,_,yE⟩:=ha;refine(I.bU b ob e).xS (λc w' hc q=>(hs.2 c ?_).trans q) (λ_ q=>q) λ_ _ q=>q;rintro rfl;rcases hc with rfl|hc
  ·rw[yE]at e;cases e
  ·rw[yE]at hc;cases hc
 rcases hx with hk|hk
 ·refine wpAny_storeName_local hk hn (λh' hn' hs=>?_) ZH
  obtain⟨oL,_,_,MZ,_⟩:=id hn;refine h _ ⟨I.ok,I.os,I.bare,⟨λb o e n hb hx=>?_,λb o e n hb hx=>?_,I.base.free,λb o e hx=>?_,I.base.v9,I.base.qD,I.base.vZ⟩,⟨_,hn',λj y v' e1 e2 e3=>?_⟩,λy c e=>?_,I.free,I.gH,λp hp=>?_,tracked ⟨oL,MZ,I.free⟩ hs,by simpa using I.len⟩ ⟨_,hs,.inl rfl⟩
  ·exact(hs.2 b (Nat.ne_of_lt (Nat.lt_of_lt_of_le (Heap.lt_size e) I.ok.above))).trans (I.base.keep b o e n hb hx)
  ·obtain⟨sl,e1⟩:=I.base.slot b o e n hb hx
   exact⟨sl,(hs.2 b (Nat.ne_of_lt (Nat.lt_of_lt_of_le (Heap.lt_size e) I.ok.above))).trans e1⟩
  ·obtain⟨o',e1⟩:=I.base.there b o e hx
   exact⟨o',(hs.2 b (Nat.ne_of_lt (Nat.lt_of_lt_of_le (Heap.lt_size e) I.ok.above))).trans e1⟩
  ·by_cases hj:j=i
   ·subst hj
    rw[hi]at e1;cases e1;rw[List.getElem?_set_self Vr]at e2;cases e2;exact⟨u,r,.inl ⟨hk,by simp⟩⟩
   ·rw[List.getElem?_set_ne (Ne.symm hj)]at e2
    obtain⟨u',r',q⟩:=hl j y v' e1 e2 e3;refine⟨u',r',?_⟩;rcases q with⟨k,e⟩|⟨k,c,e,z⟩
    ·refine .inl ⟨k,?_⟩
     have:y≠x:=λe=>hj (vk hN e1 (e ▸ hi));simp [this,e]
    ·exact .inr ⟨k,c,e,z.sameBut hs (yn y c e)⟩
  ·obtain⟨w',z⟩:=I.cell y c e
   exact⟨w',z.sameBut hs (yn y c e)⟩
  ·obtain⟨e,n,ne,nf,d⟩:=I.pin p hp
   exact⟨(hs.2 p.1 ne).trans e,n,ne,nf,d⟩
 ·have ZJ:X.fn x=true:=by
   rcases hf with z|z
   ·exact z
   ·rw[z]at hk;cases hk
  obtain⟨c,hc⟩:=I.ok.has x (.inl hk);obtain⟨w',z⟩:=I.cell x c hc;refine wpAny_storeName_cell I.ok.kind hk hc z (λh' JX hs=>?_);obtain⟨oc,hoc,ZV⟩:=id z;refine h {s with heap:=h'} ⟨I.ok,I.os,I.bare,⟨λb o e n hb hx=>?_,λb o e n hb hx=>?_,I.base.free,λb o e hx=>?_,I.base.v9,I.base.qD,I.base.vZ⟩,⟨m,hn.sameBut hs (Ne.symm (yn x c hc)),λj y v' e1 e2 e3=>?_⟩,λy c' e=>?_,I.free,I.gH,λp hp=>?_,tracked ⟨oc,hoc,I.gH x c hc⟩ hs,by simpa using I.len⟩ ⟨c,hs,.inr hc⟩
  ·exact(hs.2 b (Nat.ne_of_lt (Nat.lt_of_lt_of_le (Heap.lt_size e) (I.ok.Ss x c ZJ hc)))).trans (I.base.keep b o e n hb hx)
  ·obtain⟨sl,e1⟩:=I.base.slot b o e n hb hx
   exact⟨sl,(hs.2 b (Nat.ne_of_lt (Nat.lt_of_lt_of_le (Heap.lt_size e) (I.ok.Ss x c ZJ hc)))).trans e1⟩
  ·obtain⟨o',e1⟩:=I.base.there b o e hx
   exact⟨o',(hs.2 b (Nat.ne_of_lt (Nat.lt_of_lt_of_le (Heap.lt_size e) (I.ok.Ss x c ZJ hc)))).trans e1⟩
  ·by_cases hj:j=i
   ·subst hj
    rw[hi]at e1;cases e1;rw[List.getElem?_set_self Vr]at e2;cases e2;exact⟨u,r,.inr ⟨.inl hk,c,hc,JX⟩⟩
   ·rw[List.getElem?_set_ne (Ne.symm hj)]at e2
    obtain⟨u',r',q⟩:=hl j y v' e1 e2 e3;refine⟨u',r',?_⟩;rcases q with q|⟨k,c',e,z'⟩
    ·exact .inl q
    ·refine .inr ⟨k,c',e,z'.sameBut hs ?_⟩
     rintro rfl;exact hj (vk hN e1 (I.ok.inj _ _ _ e hc ▸ hi))
  ·by_cases Yh:c'=c
   ·subst Yh;exact⟨_,JX⟩
   ·obtain⟨w2,z2⟩:=I.cell y c' e
    exact⟨w2,z2.sameBut hs Yh⟩
  ·obtain⟨e,n,ne,nf,d⟩:=I.pin p hp
   refine⟨(hs.2 p.1 ?_).trans e,n,ne,nf,d⟩;intro q;rw[q,hoc]at e;have q':oc=p.2:=Option.some.inj e;exact d w' (by rw[<- q'];exact ZV)
theorem nW{M:Model}{A:Around}{E:Value->Shared->Prop}{i:Nat}{x:Str}{v:V}{u:Value}{Q:Unit->Shared->Prop}(I:Inv X pins σ H s)(hN:X.N.Nodup)(hi:X.N[i]?=some x)(hx:Loc X.env.scope x)(r:RelV v u)
  (h:∀s',Inv X pins (σ.set i (some v)) H s'->Q () s') (hf:X.fn x=true\/X.env.scope.names.lookup x=some .local:=by first|exact .inl rfl|exact .inr rfl|assumption):wpAny M A (storeName X.env x u) Q E s:=
 AY I hN hi hx r (λs' I' _=>h s' I') hf
theorem Inv.T6{s':Shared}{ch:List Addr}(I:Inv X pins σ H s)(ho:s'.os=s.os)(u:Un (Dd X.stack) ch H H' s.heap s'.heap)(bU:iI X.prog X.w H' s'.heap)(hg:AllBare s'.gens)
  (Gp:∀b∈ch,(b∈X.ex\/X.dr.heap.get? b=none)/\b≠X.env.locals/\(∀x c,X.env.cells.lookup x=some c->c≠b)/\∀p∈X.pn++pins,p.1≠b):Inv X pins σ H' s':=by
 obtain⟨h',g',d',t',o'⟩:=s';have e:o'=s.os:=ho;subst e;exact I.call (g':=g') (t':=t') (d':=d') u bU hg Gp
end
abbrev XK:=Value->Option Addr->Hp->Prop
abbrev St:=List (Option V)
abbrev VK:=V->Hp->Prop
abbrev TE:=St->Hp->VK->Prop
abbrev TT:=St->Hp->(Bool->Hp->Prop)->Prop
abbrev TA:=St->Hp->(List V->Hp->Prop)->Prop
structure Ends where
 nx:St->Hp->Prop
 rt:VK
 bk:St->Hp->Prop:=λ_ _=>False
 ct:St->Hp->Prop:=λ_ _=>False
abbrev TS:=Ends->St->Hp->Prop
def EP(X:Cx)(pins:List (Addr×Obj))(σ:St)(Q:VK)(u:Value)(s':Shared):Prop:=∃v H',Inv X pins σ H' s'/\RelV v u/\Q v H'
def TP(X:Cx)(pins:List (Addr×Obj))(σ:St)(Q:Bool->Hp->Prop)(b:Bool)(s':Shared):Prop:=∃H',Inv X pins σ H' s'/\Q b H'
def AP(X:Cx)(pins:List (Addr×Obj))(σ:St)(Q:List V->Hp->Prop)(us:List Value)(s':Shared):Prop:=∃vs H',Inv X pins σ H' s'/\Vals vs us/\Q vs H'
def SP(X:Cx)(pins:List (Addr×Obj))(D:Ends)(f:Flow)(s':Shared):Prop:=
 match f with
 | .next=>∃cq H',Inv X pins cq H' s'/\D.nx cq H'
 | .brk=>∃cq H',Inv X pins cq H' s'/\D.bk cq H'
 | .cont=>∃cq H',Inv X pins cq H' s'/\D.ct cq H'
 | .ret u=>∃v cq H',Inv X pins cq H' s'/\RelV v u/\D.rt v H'
def PE(X:Cx)(e:Expr)(t:TE):Prop:=
 ∀(pins:List (Addr×Obj)) (s:Shared) (σ:St) (H:Hp) (Q:VK),Inv X pins σ H s->t σ H Q->wpAny (model X.prog X.w) X.A (eval e X.env) (EP X pins σ Q) X.xe s
def PT(X:Cx)(e:Expr)(t:TT):Prop:=
 ∀(pins:List (Addr×Obj)) (s:Shared) (σ:St) (H:Hp) (Q:Bool->Hp->Prop),Inv X pins σ H s->t σ H Q->wpAny (model X.prog X.w) X.A (isTrue e X.env (eval e X.env)) (TP X pins σ Q) X.xe s
def PW(X:Cx)(e:Expr)(t:TT):Prop:=
 ∀(whole:Sem Value) (pins:List (Addr×Obj)) (s:Shared) (σ:St) (H:Hp) (Q:Bool->Hp->Prop),Inv X pins σ H s->t σ H Q->wpAny (model X.prog X.w) X.A (isTrue e X.env whole) (TP X pins σ Q) X.xe s
theorem PW.pt{X:Cx}{e:Expr}{t:TT}(h:PW X e t):PT X e t:=h _
def PA(X:Cx)(es:List Expr)(t:TA):Prop:=
 ∀(pos:Pos) (pins:List (Addr×Obj)) (s:Shared) (σ:St) (H:Hp) (Q:List V->Hp->Prop),Inv X pins σ H s->t σ H Q->wpAny (model X.prog X.w) X.A (spliced (backTo pos (starEach es X.env))) (AP X pins σ Q) X.xe s
def PS(X:Cx)(st:Stmt)(t:TS):Prop:=
 ∀(pins:List (Addr×Obj)) (s:Shared) (σ:St) (H:Hp) (D:Ends),Inv X pins σ H s->t D σ H->wpAny (model X.prog X.w) X.A (exec st X.env) (SP X pins D) X.xe s
def qe(X:Cx)(st:List Stmt)(t:TS):Prop:=
 ∀(pins:List (Addr×Obj)) (s:Shared) (σ:St) (H:Hp) (D:Ends),Inv X pins σ H s->t D σ H->wpAny (model X.prog X.w) X.A (execs st X.env) (SP X pins D) X.xe s
theorem cO{α:Type}{t:Sem α}{Q Q':α->Shared->Prop}{M:Model}{A:Around}{E:Value->Shared->Prop}{s:Shared}(h:wpAny M A t Q E s)(hQ:∀a s,Q a s->Q' a s):wpAny M A t Q' E s:=wpAny_mono h hQ λ_ _ x=>x
end L2
namespace L2
open PySem PySem.Spec PyProof.Rows
section
variable {X:Cx}
def xV(i:Nat):TE:=λσ H Q=>∃v,σ[i]?=some (some v)/\Q v H
def tC(v:V):TE:=λ_ H Q=>Q v H
theorem fY{i:Nat}{x:Str}{pos:Pos}(hN:X.N[i]?=some x)(hv:BE X.env.scope x)(hd:(x==("__debug__":Str))=false:=by decide)(qG:(x==("__classdict__":Str))=false:=by decide):PE X (.Name x pos) (xV i):=by
 intro pins s σ H Q I h;obtain⟨v,e,h⟩:=h;obtain⟨m,hn,hl⟩:=I.loc;obtain⟨u,r,l⟩:=hl i x v hN e hv;have fin:EP X pins σ Q u s:=⟨v,H,I,r,h⟩;rcases l with⟨hk,hm⟩|⟨hk,c,hc,yD⟩
 ·exact wpAny_Name (wpAny_loadName_local I.ok.kind hk hn hm fin) hd
 ·rcases hk with hk|hk
  ·exact wpAny_Name (wpAny_loadName_cell I.ok.kind hk hc yD fin) hd
  ·exact wpAny_Name (wpAny_loadName_free I.ok.kind hk hc yD fin qG) hd
theorem PC{i j pos}:PE X (.Constant (.int i) j pos) (tC (.int i)):=λ_ _ _ H _ I h=>wpAny_Constant_int ⟨.int i,H,I.tok _,⟨_,rfl⟩,h⟩
theorem W5{b j pos}:PE X (.Constant (.bool b) j pos) (tC (.bl b)):=λ_ _ _ H _ I h=>Constant_bool ⟨.bl b,H,I,rfl,h⟩
theorem PD{j pos}:PE X (.Constant .none j pos) (tC .bD):=λ_ _ _ H _ I h=>Constant_none ⟨.bD,H,I,rfl,h⟩
theorem PF{x j pos}:PE X (.Constant (.str x) j pos) (tC (.str x)):=λ_ _ _ H _ I h=>Calls.Constant_str ⟨.str x,H,I.tok _,⟨_,rfl⟩,h⟩
def Gl(X:Cx)(x:Str):Prop:=X.env.kindOf x=some .globalImplicit
theorem yR{E:Value->Shared->Prop}{pins:List (Addr×Obj)}{s:Shared}{σ:St}{H:Hp}{x:Str}{u:Value}{pos:Pos}{Q:Value->Shared->Prop}(I:Inv X pins σ H s)(hg:Gl X x)(hm:X.mg x=some u)(h:Q u s)
  (hd:(x==("__debug__":Str))=false:=by decide):wpAny (model X.prog X.w) X.A (eval (.Name x pos) X.env) Q E s:=
 Calls.Name_function_global I.ok.kind hg (Calls.loadGlobal_global (by rw[I.ok.glob];exact I.mod.glob.keeps I.bk) hm h) hd
theorem gJ{E:Value->Shared->Prop}{pins:List (Addr×Obj)}{s:Shared}{σ:St}{H:Hp}{x:Str}{u:Value}{pos:Pos}{Q:Value->Shared->Prop}(I:Inv X pins σ H s)(hg:Gl X x)(hm:X.mg x=none)(hv:bootBuiltins x=some u)(h:Q u s)
  (hn:x≠"__name__":=by decide) (hd:(x==("__debug__":Str))=false:=by decide):wpAny (model X.prog X.w) X.A (eval (.Name x pos) X.env) Q E s:=by
 obtain⟨mb,h1,h2⟩:=I.mod.blt;exact Calls.Name_function_global I.ok.kind hg (Calls.loadGlobal_builtin (by rw[I.ok.glob];exact I.mod.glob.keeps I.bk) hm (by rw[I.ok.blt];exact h1.keeps I.bk) ((h2 x hn).trans hv) h) hd
theorem Ib{x:Str}{v:V}{u:Value}{pos:Pos}(hg:Gl X x)(hm:X.mg x=some u)(r:RelV v u)(hd:(x==("__debug__":Str))=false:=by decide):PE X (.Name x pos) (tC v):=
 λ_ _ _ H _ I h=>yR I hg hm ⟨v,H,I,r,h⟩ hd
variable {a b:Expr}{ta tb:TE}{pos:Pos}
variable {tA YF:TT}{rest:List Expr}
def aav(t u:TT):TT:=λσ H Q=>t σ H λc H1=>if c=true then u σ H1 Q else Q false H1
def tOr(t u:TT):TT:=λσ H Q=>t σ H λc H1=>if c=true then Q true H1 else u σ H1 Q
def aay(t:TT):TT:=λσ H Q=>t σ H λc H1=>Q (!c) H1
theorem pw_and1(ha:PT X a tA):PW X (.BoolOp .And [a] pos) tA:=by
 intro wh pins s σ H Q I h;refine isTrue_and (cO (ha pins s σ H Q I h) λc s1 e=>?_);cases c with
 | true=>exact isTrue_and_nil e
 | false=>exact e
theorem pw_or1(ha:PT X a tA):PW X (.BoolOp .Or [a] pos) tA:=by
 intro wh pins s σ H Q I h;refine isTrue_or (cO (ha pins s σ H Q I h) λc s1 e=>?_);cases c with
 | false=>exact isTrue_or_nil e
 | true=>exact e
theorem pw_and(ha:PT X a tA)(hb:PW X (.BoolOp .And (b::rest) pos) YF):PW X (.BoolOp .And (a::b::rest) pos) (aav tA YF):=by
 intro wh pins s σ H Q I h;refine isTrue_and (cO (ha pins s σ H _ I h) λc s1 ⟨H1,I1,q1⟩=>?_);cases c with
 | true=>exact hb wh pins s1 σ H1 Q I1 q1
 | false=>exact⟨H1,I1,q1⟩
theorem pw_or(ha:PT X a tA)(hb:PW X (.BoolOp .Or (b::rest) pos) YF):PW X (.BoolOp .Or (a::b::rest) pos) (tOr tA YF):=by
 intro wh pins s σ H Q I h;refine isTrue_or (cO (ha pins s σ H _ I h) λc s1 ⟨H1,I1,q1⟩=>?_);cases c with
 | true=>exact⟨H1,I1,q1⟩
 | false=>exact hb wh pins s1 σ H1 Q I1 q1
theorem Qs(ha:PT X a tA):PT X (.UnaryOp .Not a pos) (aay tA):=by
 intro pins s σ H Q I h;exact isTrue_not (ha pins s σ H (λc H1=>Q (!c) H1) I h)
def tIf(t:TT)(ta tb:TE):TE:=λσ H Q=>t σ H λc H1=>if c=true then ta σ H1 Q else tb σ H1 Q
theorem Ek{c:Expr}(hc:PT X c tA)(ha:PE X a ta)(hb:PE X b tb):PE X (.IfExp c a b pos) (tIf tA ta tb):=by
 intro pins s σ H Q I h;refine wpAny_IfExp (cO (hc pins s σ H _ I h) λd s1 ⟨H1,I1,q1⟩=>?_);cases d with
 | true=>exact ha pins s1 σ H1 Q I1 q1
 | false=>exact hb pins s1 σ H1 Q I1 q1
end
end L2
namespace L2
open PySem PySem.Spec PyProof.Rows
def gn(K:PySem.W.Frag)(H:Hp)(a:Addr)(xs:List V):Prop:=
 Rd H a (.lst xs) \/
  ∃(o:Obj) (its:Array Value) (n:Nat),K.lookup a=some o/\o.cls=.type "list"/\o.dict=none/\o.data=.seq its n/\its.size<=sizeLine/\Vals xs its.toList
def kq(K:PySem.W.Frag)(H:Hp)(a:Addr)(xs:List V):Prop:=
 Rd H a (.tup xs) \/
  ∃(o:Obj) (its:Array Value) (n:Nat),K.lookup a=some o/\o.cls=.type "tuple"/\o.data=.seq its n/\its.size<=sizeLine/\Vals xs its.toList
def YZ:Value->Option V
 | .none=>some .bD
 | .bool b=>some (.bl b)
 | .int i _=>some (.int i)
 | .str x _=>some (.str x)
 | .bytes b _=>some (.T4 b)
 | .float b _=>some (.Zo b)
 | .ref a=>some (.ref a)
 | .type n=>some (.ty n)
 | _=>none
theorem RelV.abs{x:V}{u:Value}(r:RelV x u):YZ u=some x:=by
 cases x with
 | bD=>cases r;rfl
 | bl _=>cases r;rfl
 | int _=>obtain⟨t,rfl⟩:=r;rfl
 | str _=>obtain⟨t,rfl⟩:=r;rfl
 | T4 _=>obtain⟨t,rfl⟩:=r;rfl
 | Zo _=>obtain⟨t,rfl⟩:=r;rfl
 | ref _=>cases r;rfl
 | ty _=>cases r;rfl
theorem RelV.inj{x y:V}{u:Value}(r:RelV x u)(q:RelV y u):x=y:=Option.some.inj (r.abs.symm.trans q.abs)
theorem Vals.inj:∀ {xs ys:List V} {us:List Value},Vals xs us->Vals ys us->xs=ys
 | _,_,_,.nil,.nil=>rfl
 | _,_,_,.cons r t,.cons r' t'=>by rw[r.inj r',Vals.inj t t']
section
variable {X:Cx}{pins:List (Addr×Obj)}{σ:St}{H:Hp}{s:Shared}{a:Addr}{xs ys:List V}
theorem gn.of{K:PySem.W.Frag}(h:H a=some (.lst xs)):gn K H a xs:=.inl (.inl h)
theorem kq.of{K:PySem.W.Frag}(h:H a=some (.tup xs)):kq K H a xs:=.inl (.inl h)
theorem Inv.list(I:Inv X pins σ H s)(h:gn X.K H a xs):∃its:List Value,Vals xs its/\PlainL s.heap a its.toArray/\xs.length<=sizeLine:=by
 rcases h with h|⟨o,its,n,hk,hc,hd,hs,hz,r⟩
 ·obtain⟨z,its,n,r,e⟩:=h.ok I.bU
  exact⟨its,r,⟨_,n,e,rfl,rfl,rfl⟩,z⟩
 ·refine⟨its.toList,r,⟨o,n,I.SU a o hk,hc,hd,by simpa using hs⟩,?_⟩
  have e:=r.length;simp only[Array.length_toList]at e;omega
theorem Inv.tuple(I:Inv X pins σ H s)(h:kq X.K H a xs):∃its:List Value,Vals xs its/\IsTup s.heap a its.toArray/\xs.length<=sizeLine:=by
 rcases h with h|⟨o,its,n,hk,hc,hs,hz,r⟩
 ·obtain⟨z,its,r,p⟩:=h.ok I.bU
  exact⟨its,r,p,z⟩
 ·refine⟨its.toList,r,⟨o,I.SU a o hk,hc,n,by simpa using hs⟩,?_⟩
  have e:=r.length;simp only[Array.length_toList]at e;omega
theorem Inv.uY(I:Inv X pins σ H s)(h:gn X.K H a xs)(h':gn X.K H a ys):xs=ys:=by
 obtain⟨its,r,⟨o,n,e,_,_,d⟩,_⟩:=I.list h;obtain⟨its',r',⟨o',n',e',_,_,d'⟩,_⟩:=I.list h';rw[e]at e';cases e';rw[d]at d'
 injection d' with d1 _
 have:its=its':=by simpa using congrArg Array.toList d1
 subst this;exact r.inj r'
theorem Inv.pZ(I:Inv X pins σ H s)(h:kq X.K H a xs)(h':kq X.K H a ys):xs=ys:=by
 obtain⟨its,r,⟨o,e,_,n,d⟩,_⟩:=I.tuple h;obtain⟨its',r',⟨o',e',_,n',d'⟩,_⟩:=I.tuple h';rw[e]at e';cases e';rw[d]at d'
 injection d' with d1 _
 have:its=its':=by simpa using congrArg Array.toList d1
 subst this;exact r.inj r'
end
abbrev Cx.oJ(X:Cx)(E:Value->Shared->Prop):Cx:={X with xe:=E}
abbrev Cx.Oh(X:Cx):Cx:=X.oJ λ_ _=>False
theorem Cx.Ok.oJ{X:Cx}(ok:X.Ok)(E:Value->Shared->Prop):(X.oJ E).Ok:=
 ⟨ok.mod,ok.kind,ok.glob,ok.blt,ok.above,ok.inj,ok.has,ok.Ss,ok.hd,ok.frames,ok.XY,ok.Zm,ok.bs,ok.Gh,ok.Aw,ok.CU,ok.lN,ok.MN⟩
theorem Cx.Ok.gY{X:Cx}{E:Value->Shared->Prop}(ok:(X.oJ E).Ok):X.Ok:=
 ⟨ok.mod,ok.kind,ok.glob,ok.blt,ok.above,ok.inj,ok.has,ok.Ss,ok.hd,ok.frames,ok.XY,ok.Zm,ok.bs,ok.Gh,ok.Aw,ok.CU,ok.lN,ok.MN⟩
section
variable {X:Cx}{pins:List (Addr×Obj)}{σ:St}{H:Hp}{s:Shared}{E:Value->Shared->Prop}
theorem Inv.oJ(I:Inv X pins σ H s)(E:Value->Shared->Prop):Inv (X.oJ E) pins σ H s:=⟨I.ok.oJ E,I.os,I.bare,I.base,I.loc,I.cell,I.free,I.gH,I.pin,I.bU,I.len⟩
theorem Inv.gY(I:Inv (X.oJ E) pins σ H s):Inv X pins σ H s:=⟨I.ok.gY,I.os,I.bare,I.base,I.loc,I.cell,I.free,I.gH,I.pin,I.bU,I.len⟩
theorem SP.gY{D:Ends}{f:Flow}{s':Shared}(h:SP (X.oJ E) pins D f s'):SP X pins D f s':=by
 cases f with
 | next=>obtain⟨cq,H',I,q⟩:=h;exact⟨cq,H',I.gY,q⟩
 | brk=>obtain⟨cq,H',I,q⟩:=h;exact⟨cq,H',I.gY,q⟩
 | cont=>obtain⟨cq,H',I,q⟩:=h;exact⟨cq,H',I.gY,q⟩
 | ret u=>obtain⟨v,cq,H',I,r,q⟩:=h;exact⟨v,cq,H',I.gY,r,q⟩
theorem qe.Oh{st:List Stmt}{t:TS}(h:qe X.Oh st t):qe X st t:=λpins s σ H D I hw =>
 wpAny_mono (h pins s σ H D (I.oJ _) hw) (λ_ _ q=>q.gY) λ_ _ z=>False.elim z
end
section
variable {X:Cx}{st:Stmt}{rest:List Stmt}{t u:TS}{e:Expr}{te:TE}{pos:Pos}
def X4:TS:=λD σ H=>D.nx σ H
def aaA(t u:TS):TS:=λD σ H=>t {D with nx:=u D} σ H
theorem yZ:qe X [] X4:=λ_ _ σ H _ I h=>wpAny_execs_nil ⟨σ,H,I,h⟩
theorem vA(h1:PS X st t)(h2:qe X rest u):qe X (st::rest) (aaA t u):=by
 intro pins s σ H D I h;refine wpAny_execs_cons (cO (h1 pins s σ H {D with nx:=u D} I h) λf s1 q=>?_)
 cases f with
 | next =>
  obtain⟨cq,H',I',q⟩:=q;exact h2 pins s1 cq H' D I' q
 | ret v=>exact q
 | brk=>exact q
 | cont=>exact q
theorem rp(h1:PS X st t):qe X [st] t:=by
 intro pins s σ H D I h;refine wpAny_execs_cons (cO (h1 pins s σ H D I h) λf s1 q=>?_);cases f with
 | next=>exact wpAny_execs_nil q
 | ret v=>exact q
 | brk=>exact q
 | cont=>exact q
theorem Inv.quiet{pins:List (Addr×Obj)}{σ:St}{H:Hp}{s:Shared}(I:Inv X pins σ H s):interactive X.env=false:=by simp [interactive,I.ok.kind]
def X2(te:TE):TS:=λD σ H=>te σ H λ_ H1=>D.nx σ H1
theorem rm(he:PE X e te)(hs:swapsWith e none pos.line X.env=pure false:=by rfl):PS X (.Expr e pos) (X2 te):=by
 intro pins s σ H D I h;exact wpAny_Expr_any (cO (he pins s σ H _ I h) λv s1 ⟨x,H1,I1,r1,q1⟩=>⟨σ,H1,I1,q1⟩) I.quiet hs
def aaz(te:TE):TS:=λD σ H=>te σ H D.rt
theorem xG(he:PE X e te):PS X (.Return (some e) pos) (aaz te):=by
 intro pins s σ H D I h;exact wpAny_Return_some (cO (he pins s σ H _ I h) λv s1 ⟨x,H1,I1,r1,q1⟩=>⟨x,σ,H1,I1,r1,q1⟩)
def aax(c:TT)(t u:TS):TS:=λD σ H=>c σ H λb H1=>if b=true then t D σ H1 else u D σ H1
theorem Kc{c:Expr}{a b:List Stmt}{tc:TT}(hc:PT X c tc)(ha:qe X a t)(hb:qe X b u):PS X (.If c a b pos) (aax tc t u):=by
 intro pins s σ H D I h;refine wpAny_If (cO (hc pins s σ H _ I h) λd s1 ⟨H1,I1,q1⟩=>?_);cases d with
 | true=>exact ha pins s1 σ H1 D I1 q1
 | false=>exact hb pins s1 σ H1 D I1 q1
def RJ:TS:=λ_ _ _=>False
theorem Ez:PS X st RJ:=λ_ _ _ _ _ _ h=>h.elim
end
abbrev TG:=V->St->Hp->(St->Hp->Prop)->Prop
abbrev JI:=List V->St->Hp->(St->Hp->Prop)->Prop
def PG(X:Cx)(target:Expr)(t:TG):Prop:=
 ∀(pins:List (Addr×Obj)) (s:Shared) (σ:St) (H:Hp) (v:V) (u:Value) (Q:St->Hp->Prop),Inv X pins σ H s->RelV v u->t v σ H Q ->
  wpAny (model X.prog X.w) X.A (assign target X.env u) (λ_ s'=>∃cq H',Inv X pins cq H' s'/\Q cq H') X.xe s
def Sn(X:Cx)(ts:List Expr)(t:JI):Prop:=
 ∀(pins:List (Addr×Obj)) (s:Shared) (σ:St) (H:Hp) (vs:List V) (us:List Value) (Q:St->Hp->Prop),Inv X pins σ H s->Vals vs us->t vs σ H Q ->
  wpAny (model X.prog X.w) X.A (assignInOrder ((assignEach ts X.env).map (·.2)) us) (λ_ s'=>∃cq H',Inv X pins cq H' s'/\Q cq H') X.xe s
abbrev KQ:=V->V->V->Hp->(Hp->Prop)->Prop
def Ts(X:Cx)(t:KQ):Prop:=
 ∀(pins:List (Addr×Obj)) (s:Shared) (σ:St) (H:Hp) (o i v:V) (ov iv u:Value) (Q:Hp->Prop),Inv X pins σ H s->RelV o ov->RelV i iv->RelV v u->t o i v H Q ->
  wpAny (model X.prog X.w) X.A (setItem ov iv u) (λ_ s'=>∃H',Inv X pins σ H' s'/\Q H') X.xe s
section
variable {X:Cx}{pos:Pos}
def mV(i:Nat):TG:=λv σ H Q=>Q (σ.set i (some v)) H
theorem yV{i:Nat}{x:Str}(hN:X.N.Nodup)(hi:X.N[i]?=some x)(hx:Loc X.env.scope x)(hf:X.fn x=true\/X.env.scope.names.lookup x=some .local:=by first|exact .inl rfl|exact .inr rfl|assumption):PG X (.Name x pos) (mV i):=by
 intro pins s σ H v u Q I r h;exact wpAny_assign_Name (nW I hN hi hx r (λs' I'=>⟨_,H,I',h⟩) hf)
def Zt:JI:=λvs σ H Q=>vs=[]/\Q σ H
def Vb(t:TG)(u:JI):JI:=λvs σ H Q=>∃v r,vs=v::r/\t v σ H λcq H'=>u r cq H' Q
theorem Ie:Sn X [] Zt:=by
 intro pins s σ H vs us Q I r h;obtain⟨e,h⟩:=h;subst e;cases r;exact assignInOrder_nil ⟨σ,H,I,h⟩
theorem En{e:Expr}{es:List Expr}{t:TG}{u:JI}(h1:PG X e t)(h2:Sn X es u)
  (hs:(assignEach (e::es) X.env).map (·.2)=assign e X.env::(assignEach es X.env).map (·.2):=by rfl):Sn X (e::es) (Vb t u):=by
 intro pins s σ H vs us Q I r h;obtain⟨v,vr,e1,h⟩:=h;subst e1;cases r with
 | cons r rr =>
  rw[hs];refine assignInOrder_cons (cO (h1 pins s σ H _ _ _ I r h) λ_ s1 ⟨aA,H1,I1,q1⟩=>?_);exact h2 pins s1 aA H1 _ _ Q I1 rr q1
def Zv(K:PySem.W.Frag)(n:Nat)(t:JI):TG:=λv σ H Q=>∃a xs,v=.ref a/\kq K H a xs/\xs.length=n/\t xs σ H Q
theorem PN{es:List Expr}{k:Nat}{t:JI}{n:Nat}(hc:X.calm=true)(h:Sn X es t)
  (hn:(assignEach es X.env).length=n:=by rfl) (VI:(assignEach es X.env).findIdx? (·.1)=none:=by rfl):PG X (.Tuple es k pos) (Zv X.K n t):=by
 intro pins s σ H v u Q I r hw;obtain⟨a,xs,e1,hq,hl,hw⟩:=hw;subst e1;cases r;obtain⟨its,rv,ht,hz⟩:=I.tuple hq;refine assign_Tuple_tuple (I.ok.hd hc) ht (by simp [hn,<- hl,rv.length]) VI λh' hx=>?_
 have I1:Inv X pins σ H {s with heap:=h'}:=I.kept (t':=s.toks) λb o e=>hx b o (Nat.ne_of_lt (Heap.lt_size e)) e
 exact h pins _ σ H xs _ Q I1 (by simpa using rv) hw
def Zu(to ti:TE)(t:KQ):TG:=λv σ H Q=>to σ H λo H1=>ti σ H1 λi H2=>t o i v H2 λH3=>Q σ H3
theorem PL{o i:Expr}{to ti:TE}{t:KQ}(ho:PE X o to)(hi:PE X i ti)(hs:Ts X t)
  (ha:∀v,assign (.Subscript o i pos) X.env v=(do
   let ov <- holding [v] (eval o X.env)
   let iv <- holding [v,ov] (eval i X.env)
   standAt pos
   holding [v,ov,iv] (setItem ov iv v)
   release [v,ov,iv] []):=by intro _;rfl):PG X (.Subscript o i pos) (Zu to ti t):=by
 intro pins s σ H v u Q I r h;rw[ha];refine aaO (wpAny_holding (cO (ho pins s σ H _ I h) λov s1 ⟨x,H1,I1,r1,q1⟩=>?_));refine aaO (wpAny_holding (cO (hi pins s1 σ H1 _ I1 q1) λiv s2 ⟨y,H2,I2,r2,q2⟩=>?_));refine aaO (wpAny_standAt (aaO (wpAny_holding (cO (hs pins s2 σ H2 x y v ov iv u _ I2 r1 r2 r q2) λ_ s3 ⟨H3,I3,q3⟩=>?_))));exact wpAny_release ⟨σ,H3,I3,q3⟩
def Fe(te:TE)(g:TG):TS:=λD σ H=>te σ H λx H1=>g x σ H1 D.nx
theorem Qr{tg e:Expr}{te:TE}{g:TG}(he:PE X e te)(hg:PG X tg g)(hs:swapsWithSole [tg] e pos.line X.env=pure false:=by rfl)(hw:swappedStores [tg] e X.env=pure none:=by rfl)
  (h1:(assignEach [tg] X.env).map (·.2)=[assign tg X.env]:=by rfl):PS X (.Assign [tg] e pos) (Fe te g):=by
 intro pins s σ H D I h;refine wpAny_Assign_stores (cO (he pins s σ H _ I h) λv s1 ⟨x,H1,I1,r1,q1⟩=>?_) hs hw;rw[h1];exact cO (hg pins s1 σ H1 x v _ I1 r1 q1) λ_ s2 q=>q
theorem xH{i:Nat}{x:Str}{e:Expr}{te:TE}{pos':Pos}(hN:X.N.Nodup)(hi:X.N[i]?=some x)(hx:Loc X.env.scope x)(he:PE X e te)(hs:swapsWith e (some (.Name x pos')) pos.line X.env=pure false:=by rfl)(hf:X.fn x=true\/X.env.scope.names.lookup x=some .local:=by first|exact .inl rfl|exact .inr rfl|assumption):
  PS X (.Assign [.Name x pos'] e pos) (Fe te (mV i)):=by
 intro pins s σ H D I h;refine wpAny_Assign_Name (cO (he pins s σ H _ I h) λv s1 ⟨y,H1,I1,r1,q1⟩=>?_) hs;exact nW I1 hN hi hx r1 (λs2 I2=>⟨_,H1,I2,q1⟩) hf
end
structure It where
 go:Nat->Hp->Prop
 S7:Nat->Hp->V->Hp->Prop
 stop:Nat->Hp->Prop
def iA(X:Cx)(pins:List (Addr×Obj))(H:Hp)(b:Addr):Prop:=
 H b=none/\b≠X.env.locals/\b∉X.fs/\(b∈X.ex\/X.dr.heap.objs.size<=b)/\(∀x c,X.env.cells.lookup x=some c->c≠b)/\∀p∈X.pn++pins,p.1≠b
theorem Inv.Aa{X:Cx}{pins:List (Addr×Obj)}{σ:St}{H H':Hp}{s:Shared}{b:Addr}(I:Inv X pins σ H s)(hb:s.heap.objs.size<=b)(hn:H' b=none):iA X pins H' b:=by
 refine⟨hn,Nat.ne_of_gt (Nat.lt_of_lt_of_le I.lt hb),I.aam hb,.inr (Nat.le_trans I.sz hb),λx c e z=>?_,λp hp z=>?_⟩
 ·obtain⟨v,q⟩:=I.cell x c e
  exact absurd (Nat.lt_of_lt_of_le q.lt (by rw[z];exact hb)) (Nat.lt_irrefl _)
 ·exact absurd (Nat.lt_of_lt_of_le (Heap.lt_size (I.pin p hp).1) (by rw[z];exact hb)) (Nat.lt_irrefl _)
structure Turn(P:Program)(w:World)(K:PySem.W.Frag)(tg:Expr)(J:It)(fp:List Addr)(it:Addr)(tn:Nat->Heap->Prop):Prop where
 mem:it∈fp
 obj:∀i h,tn i h->∀b∈fp,∃o,h.get? b=some o/\∀v,o.data≠.cell v
 keep:∀i h h',tn i h->(∀b∈fp,∀o,h.get? b=some o->h'.get? b=some o)->tn i h'
 item:∀(X:Cx),X.prog=P->X.w=w->X.K=K->X.calm=true->∀(i:Nat) (pins:List (Addr×Obj)) (s:Shared) (σ:St) (H:Hp) (E:Value->Shared->Prop),Inv X pins σ H s->(∀b∈fp,iA X pins H b)->tn i s.heap->J.go i H ->
  wpAny (model P w) X.A (pyNext (.ref it)) (λr s1=>∃u,r=some u /\
   wpAny (model P w) X.A (letOwnedTupleGo tg (.ref it) u) (λ_ s2=>∃x H',Inv X pins σ H' s2/\RelV x u/\J.S7 i H x H'/\tn (i+1) s2.heap/\∀b∈fp,H' b=none) E s1) E s
 done:∀(X:Cx),X.prog=P->X.w=w->X.K=K->X.calm=true->∀(i:Nat) (pins:List (Addr×Obj)) (s:Shared) (σ:St) (H:Hp) (E:Value->Shared->Prop),Inv X pins σ H s->(∀b∈fp,iA X pins H b)->tn i s.heap->J.stop i H ->
  wpAny (model P w) X.A (pyNext (.ref it)) (λr s1=>r=none/\Inv X pins σ H s1) E s
 self:∀(A:Around) (i:Nat) (s:Shared) (Q:Value->Shared->Prop) (E:Value->Shared->Prop),tn i s.heap->Q (.ref it) s->wpAny (model P w) A (pyIter (.ref it)) Q E s
abbrev TI:=St->Hp->(It->Hp->Prop)->Prop
def YS(X:Cx)(pins:List (Addr×Obj))(σ:St)(tg:Expr)(R:It->Hp->Prop)(Yr:Value)(s2:Shared):Prop:=
 ∃(it:Addr) (fp:List Addr) (tn:Nat->Heap->Prop) (J:It) (H':Hp),Yr=.ref it/\Inv X pins σ H' s2/\Turn X.prog X.w X.K tg J fp it tn/\tn 0 s2.heap/\(∀b∈fp,iA X pins H' b)/\R J H'
def PI(X:Cx)(tg iter:Expr)(wi:TI):Prop:=
 ∀(pins:List (Addr×Obj)) (s:Shared) (σ:St) (H:Hp) (R:It->Hp->Prop),Inv X pins σ H s->wi σ H R ->
  wpAny (model X.prog X.w) X.A (eval iter X.env) (λv s1=>wpAny (model X.prog X.w) X.A (pyIter v) (YS X pins σ tg R) X.xe s1) X.xe s
theorem Dg{M:Model}{A:Around}{E:Value->Shared->Prop}{s:Shared}{tg:Expr}{it:Addr}{u:Value}{o:Obj}{n:String}{vs:Array Value}{Q:Unit->Shared->Prop}(ho:s.heap.get? it=some o)(hc:o.cls=.type n)(hd:o.data=.fields vs)
    (hn:["enumerate","zip","dict_itemiterator","dict_reverseitemiterator","odict_iterator","itertools.zip_longest","itertools.pairwise"].contains n=false) (hQ:Q () s):wpAny M A (letOwnedTupleGo tg (.ref it) u) Q E s:=by
  unfold letOwnedTupleGo;cases tg<;>first
    | exact wpAny_pure hQ
    | (cases u<;>first
        | exact wpAny_pure hQ
        | (refine aaO (wpAny_load ho ?_)
           rw[hc,hd];show wpAny M A (if(["enumerate","zip","dict_itemiterator","dict_reverseitemiterator","odict_iterator","itertools.zip_longest","itertools.pairwise"].contains n&&vs[0]?==some (rawInt _))=true then _ else _) Q E s
           rw[if_neg (by intro h;rw[hn,Bool.false_and]at h;cases h)]
           exact wpAny_pure hQ))
def Yb(K:PySem.W.Frag)(a:Addr):It:=
 ⟨λi H=>∃xs x,gn K H a xs/\xs[i]?=some x,λi H x H'=>H'=H/\∀xs,gn K H a xs->xs[i]?=some x,λi H=>∃xs,gn K H a xs/\xs.length<=i⟩
def YM(K:PySem.W.Frag)(a:Addr):It:=
 ⟨λi H=>∃xs x,kq K H a xs/\xs[i]?=some x,λi H x H'=>H'=H/\∀xs,kq K H a xs->xs[i]?=some x,λi H=>∃xs,kq K H a xs/\xs.length<=i⟩
def Tn(lo:Int)(n:Nat):It:=⟨λi _=>i<n,λi H x H'=>H'=H/\x=.int (lo+i),λi _=>n<=i⟩
theorem A7{P:Program}{w:World}{K:PySem.W.Frag}{tg:Expr}(a it:Addr):Turn P w K tg (Yb K a) [it] it (λi h=>h.IsListIter it a i) where
 mem:=by simp
 obj:=λi h st b hb=>by
  have e:b=it:=by simpa using hb
  subst e;obtain⟨o,e,c,d⟩:=st;exact⟨o,e,λv z=>by rw[d]at z;cases z⟩
 keep:=λi h h' st k=>st.at λo e=>k it (by simp) o e
 item:=by
  intro X hP hw hK hc i pins s σ H E I hf st hg;subst hP hw hK;obtain⟨xs,x,hq,hx⟩:=hg;obtain⟨its,rv,p,hz⟩:=I.list hq;obtain⟨u,hu,ru⟩:=rv.get hx;obtain⟨f0,f1,f2,f3,f4,f5⟩:=hf it (by simp)
  refine wpAny_pyNext_list_item st p.isList (x:=u) (by simpa using hu) λh' aC sb=>?_
  have I1:Inv X pins σ H {s with heap:=h'}:=I.turned (t':=s.toks) (λb o hb e=>(sb.2 b hb).trans e) f0 f1 f3 f4 f5
  obtain⟨o,e,c,d⟩:=id aC;exact⟨u,rfl,Dg (s:={s with heap:=h'}) e c d ∅ ⟨x,H,I1,ru,⟨rfl,λys hy=>by rw[I.uY hy hq];exact hx⟩,aC,λb hb=>(hf b hb).1⟩⟩
 done:=by
  intro X hP hw hK hc i pins s σ H E I hf st hg;subst hP hw hK;obtain⟨xs,hq,hx⟩:=hg;obtain⟨its,rv,p,hz⟩:=I.list hq;obtain⟨f0,f1,f2,f3,f4,f5⟩:=hf it (by simp)
  have hl:=rv.length;exact wpAny_pyNext_list_end (I.ok.hd hc) st p.isList (by simp;omega) λh' eb=>⟨rfl,I.turned (t':=s.toks) (λb o hb e=>eb b o hb e) f0 f1 f3 f4 f5⟩
 self:=λ_ _ _ _ _ st h=>wpAny_pyIter_listiter st h
theorem yc{P:Program}{w:World}{K:PySem.W.Frag}{tg:Expr}(a it:Addr):Turn P w K tg (YM K a) [it] it (λi h=>h.IsTupleIter it a i) where
 mem:=by simp
 obj:=λi h st b hb=>by
  have e:b=it:=by simpa using hb
  subst e;obtain⟨o,e,c,d⟩:=st;exact⟨o,e,λv z=>by rw[d]at z;cases z⟩
 keep:=λi h h' st k=>st.at λo e=>k it (by simp) o e
 item:=by
  intro X hP hw hK hc i pins s σ H E I hf st hg;subst hP hw hK;obtain⟨xs,x,hq,hx⟩:=hg;obtain⟨its,rv,p,hz⟩:=I.tuple hq;obtain⟨u,hu,ru⟩:=rv.get hx;obtain⟨f0,f1,f2,f3,f4,f5⟩:=hf it (by simp)
  refine wpAny_pyNext_tuple_item st (show s.heap.IsTuple a its.toArray from p) (x:=u) (by simpa using hu) λh' aC sb=>?_
  have I1:Inv X pins σ H {s with heap:=h'}:=I.turned (t':=s.toks) (λb o hb e=>(sb.2 b hb).trans e) f0 f1 f3 f4 f5
  obtain⟨o,e,c,d⟩:=id aC;exact⟨u,rfl,Dg (s:={s with heap:=h'}) e c d ∅ ⟨x,H,I1,ru,⟨rfl,λys hy=>by rw[I.pZ hy hq];exact hx⟩,aC,λb hb=>(hf b hb).1⟩⟩
 done:=by
  intro X hP hw hK hc i pins s σ H E I hf st hg;subst hP hw hK;obtain⟨xs,hq,hx⟩:=hg;obtain⟨its,rv,p,hz⟩:=I.tuple hq;obtain⟨f0,f1,f2,f3,f4,f5⟩:=hf it (by simp)
  have hl:=rv.length;exact wpAny_pyNext_tuple_end (I.ok.hd hc) st (show s.heap.IsTuple a its.toArray from p) (by simp;omega) λh' eb=>⟨rfl,I.turned (t':=s.toks) (λb o hb e=>eb b o hb e) f0 f1 f3 f4 f5⟩
 self:=λ_ _ _ _ _ st h=>wpAny_pyIter_tupleiter st h
theorem yb{P:Program}{w:World}{K:PySem.W.Frag}{tg:Expr}(it:Addr)(lo:Int)(n:Nat):Turn P w K tg (Tn lo n) [it] it (λi h=>IsRangeIter h it (lo+(i:Nat)*1) ((n:Int)-(i:Nat)) 1) where
 mem:=by simp
 obj:=λi h st b hb=>by
  have e:b=it:=by simpa using hb
  subst e;exact⟨_,st,λv z=>by
   have z':Data.fields _=Data.cell v:=z;cases z'⟩
 keep:=λi h h' st k=>k it (by simp) _ st
 item:=by
  intro X hP hw hK hc i pins s σ H E I hf st hg;subst hP hw hK;obtain⟨f0,f1,f2,f3,f4,f5⟩:=hf it (by simp)
  have W:=Walks.range (prog:=X.prog) (w:=X.w) (I.ok.hd hc) it lo 1 n;refine W.item i s _ _ hg st λv h' tk hv aC kk=>?_;obtain⟨t,rfl⟩:=hv;have I1:Inv X pins σ H {s with heap:=h',toks:=tk}:=I.turned (λb o hb e=>kk b o (by simpa using hb) e) f0 f1 f3 f4 f5
  refine⟨_,rfl,Dg (s:={s with heap:=h',toks:=tk}) (n:="range_iterator") aC rfl rfl ∅ ⟨.int (lo+i),H,I1,⟨t,?_⟩,⟨rfl,rfl⟩,aC,λb hb=>(hf b hb).1⟩⟩
  rw[Int.mul_one]
 done:=by
  intro X hP hw hK hc i pins s σ H E I hf st hg;subst hP hw hK;obtain⟨f0,f1,f2,f3,f4,f5⟩:=hf it (by simp)
  exact wpAny_pyNext_range_end (I.ok.hd hc) st (by have:n<=i:=hg;omega) λh' eb=>⟨rfl,I.turned (t':=s.toks) (λb o hb e=>eb b o hb e) f0 f1 f3 f4 f5⟩
 self:=λ_ _ _ _ _ st h=>wpAny_pyIter_rangeiter st h
end L2
namespace L2
open PySem PySem.Spec PyProof.Rows
section
variable {X:Cx}{tg:Expr}
theorem vG{pins:List (Addr×Obj)}{σ:St}{H:Hp}{s:Shared}{R:It->Hp->Prop}{E:Value->Shared->Prop}{lo hi:Int}{t u v:Tok}{tk:Nat}(I:Inv X pins σ H s)(h1:-(2^62)<=lo)(h2:lo<2^62)(h3:-(2^62)<=hi)(h4:hi<2^62)
  (q:R (Tn lo (hi-lo).toNat) H):wpAny (model X.prog X.w) X.A (pyIter (.ref s.heap.objs.size)) (YS X pins σ tg R) E {s with heap:=s.heap.push {cls:=.type "range",data:=.fields #[.int lo t,.int hi u,.int 1 v]},toks:=tk}:=by
 refine wpAny_pyIter_range (IsRange.new ..) (small_one h1 h2 h3 h4) ?_;have I1:Inv X pins σ H {s with heap:=s.heap.push {cls:=.type "range",data:=.fields #[.int lo t,.int hi u,.int 1 v]},toks:=tk}:=I.kept λb o e=>aaP _ e
 refine⟨(s.heap.push {cls:=.type "range",data:=.fields #[.int lo t,.int hi u,.int 1 v]}).objs.size,[(s.heap.push {cls:=.type "range",data:=.fields #[.int lo t,.int hi u,.int 1 v]}).objs.size],_,_,H,rfl,
  I1.kept (t':=tk) λb o e=>aaP _ e,yb _ lo (hi-lo).toNat,?_,λb hb=>?_,q⟩
 ·have e1:lo+((0:Nat):Int)*1=lo:=by simp
  have e2:(((hi-lo).toNat:Nat):Int)-((0:Nat):Int)=Builtin.Range.rangeSize lo hi 1:=by rw[rangeSize_one];split<;>omega
  show IsRangeIter _ _ (lo+((0:Nat):Int)*1) ((((hi-lo).toNat:Nat):Int)-((0:Nat):Int)) 1;rw[e1,e2];exact Heap.get?_push_size _ rfl
 ·have e:b=(s.heap.push {cls:=.type "range",data:=.fields #[.int lo t,.int hi u,.int 1 v]}).objs.size:=by simpa using hb
  subst e;exact I1.Aa (Nat.le_refl _) (I1.bU.fresh (Nat.le_refl _))
def VP(ta:TA):TI:=λσ H R=>ta σ H λvs H1=>∃j:Int,vs=[.int j]/\-(2^62)<=j/\j<2^62/\R (Tn 0 j.toNat) H1
def VQ(ta:TA):TI:=λσ H R=>ta σ H λvs H1=>∃i j:Int,vs=[.int i,.int j]/\(-(2^62)<=i/\i<2^62/\-(2^62)<=j/\j<2^62)/\R (Tn i (j-i).toNat) H1
theorem AK{a:Expr}{ta:TA}{p pos:Pos}(hg:Gl X "range")(hm:X.mg "range"=none)(ha:PA X [a] ta)(hs:starEach [a] X.env=[(false,eval a X.env)]:=by rfl):PI X tg (.Call (.Name "range" p) [a] [] pos) (VP ta):=by
 intro pins s σ H R I h;refine Call_ (gJ I hg hm boot_range (PyProof.Rows.callWith_type1 (cO (ha pos pins s σ H _ I h) λus s1 ⟨vs,H1,I1,r1,q1⟩=>?_) hs rfl));obtain⟨j,e,q1,q2,q⟩:=q1;subst e;cases r1 with
 | cons r rr =>
  cases rr;obtain⟨t,rfl⟩:=r;exact call_range_1 (vG I1 ⋯ ⋯ q1 q2 (by simpa using q))
theorem AO{a b:Expr}{ta:TA}{p pos:Pos}(hg:Gl X "range")(hm:X.mg "range"=none)(ha:PA X [a,b] ta)(hs:starEach [a,b] X.env=[(false,eval a X.env),(false,eval b X.env)]:=by rfl)(yI:starEach [b] X.env=[(false,eval b X.env)]:=by rfl):
  PI X tg (.Call (.Name "range" p) [a,b] [] pos) (VQ ta):=by
 intro pins s σ H R I h;refine Call_ (gJ I hg hm boot_range (PyProof.Rows.callWith_type1 (cO (ha pos pins s σ H _ I h) λus s1 ⟨vs,H1,I1,r1,q1⟩=>?_) (by rw[hs,yI]) (by rw[yI];rfl)))
 obtain⟨i,j,e,⟨q1,q2,q3,q4⟩,q⟩:=q1;subst e;cases r1 with
 | cons r rr =>
  cases rr with
  | cons r' rr =>
   cases rr;obtain⟨t,rfl⟩:=r;obtain⟨t',rfl⟩:=r';exact call_range_2 (vG I1 q1 q2 q3 q4 q)
def X3(wi:TI)(g:TG)(tb:TS):TS:=λD σ H=>wi σ H λJ H1=>∃W:Nat->Nat->St->Hp->Prop,(∃m,W 0 m σ H1)/\∀i m σ H,W i m σ H ->
 (J.stop i H/\D.nx σ H)\/(J.go i H/\∃N:St->Hp->Prop,(∀cq H',N cq H'->∃m',m'<m/\W (i+1) m' cq H')/\∀x H',J.S7 i H x H'->g x σ H' λbh H2=>tb {D with nx:=N,ct:=N,bk:=D.nx} bh H2)
def kS(fp:List Addr)(h:Heap):List (Addr×Obj):=fp.filterMap λb=>(h.get? b).map λo=>(b,o)
theorem eR{fp:List Addr}{h:Heap}{b:Addr}{o:Obj}(hb:b∈fp)(e:h.get? b=some o):(b,o)∈kS fp h:=List.mem_filterMap.mpr ⟨b,hb,by rw[e];rfl⟩
theorem Ax{fp:List Addr}{h:Heap}{p:Addr×Obj}(hp:p∈kS fp h):p.1∈fp/\h.get? p.1=some p.2:=by
 obtain⟨b,hb,e⟩:=List.mem_filterMap.mp hp;cases q:h.get? b with
 | none=>rw[q]at e;cases e
 | some o =>
  rw[q]at e;have e':(b,o)=p:=Option.some.inj e;subst e';exact⟨hb,q⟩
theorem Inv.pinned{pins:List (Addr×Obj)}{σ:St}{H:Hp}{s:Shared}{fp:List Addr}(I:Inv X pins σ H s)(hf:∀b∈fp,iA X pins H b)(ho:∀b∈fp,∃o,s.heap.get? b=some o/\∀v,o.data≠.cell v):Inv X (pins++kS fp s.heap) σ H s:=
 I.yW λp hp=>(List.mem_append.mp hp).elim (λz=>I.pin p (List.mem_append_right _ z)) λz=>by
  obtain⟨hb,e⟩:=Ax z;obtain⟨f0,f1,f2,_⟩:=hf p.1 hb;obtain⟨o,e',d⟩:=ho p.1 hb;rw[e]at e';cases e';exact⟨e,f0,f1,f2,d⟩
theorem Inv.gX{pins pl:List (Addr×Obj)}{σ:St}{H:Hp}{s:Shared}(I:Inv X (pins++pl) σ H s):Inv X pins σ H s:=I.yW λp hp=>I.pin p (List.mem_append_right _ (List.mem_append_left _ hp))
theorem Ey{iter:Expr}{body:List Stmt}{wi:TI}{g:TG}{tb:TS}{pos:Pos}(hp:PassesOwn (model X.prog X.w) X.A X.env X.xe)(hc:X.calm=true)(hi:PI X tg iter wi)(hg:PG X tg g)(hb:qe X body tb)
  (hs:∀x,foldedSetIterable iter X.env x=pure x:=by intro _;rfl):PS X (.For tg iter body [] pos) (X3 wi g tb):=by
 intro pins s σ H D I h;refine wpAny_For (cO (hi pins s σ H _ I h) λv s1 h1=>cO h1 λYr s2 h2=>?_) hs;obtain⟨it,fp,tn,J,H2,e,I2,T,wF,f2,W,⟨m0,w0⟩,turn⟩:=h2;subst e
 -- what stays true of the iterator's objects through the loop
 have stat:∀ {H':Hp},(∀b∈fp,H' b=none)->∀b∈fp,iA X pins H' b:=λhn b hb=>⟨hn b hb,(f2 b hb).2⟩;refine codeAny_forLoop_any (λn s'=>∃i cq H',Inv X pins cq H' s'/\tn i s'.heap/\(∀b∈fp,H' b=none)/\W i n cq H') ?_ m0 ⟨0,σ,H2,I2,wF,λb hb=>(f2 b hb).1,w0⟩;rintro n s3 ⟨i,gk,H3,I3,st3,G3,w3⟩;rcases turn i n gk H3 w3 with⟨stop,qn⟩|⟨go,N,hN,step⟩
 ·refine wpAny_passesOwn hp (cO (T.done X rfl rfl rfl hc i pins s3 gk H3 X.xe I3 (stat G3) st3 stop) λr s4 ⟨hr,I4⟩=>?_)
  subst hr;exact wpAny_execs_nil ⟨gk,H3,I4,qn⟩
 ·refine wpAny_passesOwn hp (cO (T.item X rfl rfl rfl hc i pins s3 gk H3 X.xe I3 (stat G3) st3 go) λr s4 ⟨u,hr,h4⟩=>?_)
  subst hr;refine wpAny_passesOwn hp (cO h4 λ_ s5 ⟨x,H5,I5,r5,y5,SX,Gn⟩=>?_);have I5':=I5.pinned (stat Gn) (T.obj _ _ SX);refine wpAny_passesOwn hp (cO (hg _ s5 gk H5 x u _ I5' r5 (step x H5 y5)) λ_ s6 ⟨σ6,H6,I6,q6⟩=>?_);refine wpAny_passesOwn hp (cO (hb _ s6 σ6 H6 _ I6 q6) λf s7 q7=>?_);have again:∀ {Ga:St} {H7:Hp},Inv X (pins++kS fp s5.heap) Ga H7 s7->N Ga H7->∃m,m<n/\∃i cq H',Inv X pins cq H' s7/\tn i s7.heap/\(∀b∈fp,H' b=none)/\W i m cq H':=λ{Ga H7} I7 n7=>by
   obtain⟨m',hm,w7⟩:=hN Ga H7 n7;refine⟨m',hm,i+1,Ga,H7,I7.gX,T.keep _ _ _ SX λb hb o e=>(I7.pin (b,o) (List.mem_append_right _ (List.mem_append_right _ (eR hb e)))).1,λb hb=>?_,w7⟩;obtain⟨o,e,d⟩:=T.obj _ _ SX b hb;exact(I7.pin (b,o) (List.mem_append_right _ (List.mem_append_right _ (eR hb e)))).2.1
  cases f with
  | next=>obtain⟨Ga,H7,I7,n7⟩:=q7;exact again I7 n7
  | cont=>obtain⟨Ga,H7,I7,n7⟩:=q7;exact again I7 n7
  | brk=>obtain⟨Ga,H7,I7,q7⟩:=q7;exact⟨Ga,H7,I7.gX,q7⟩
  | ret v=>obtain⟨x7,Ga,H7,I7,r7,q7⟩:=q7;exact⟨x7,Ga,H7,I7.gX,r7,q7⟩
end
end L2
namespace L2
open PySem PySem.Spec PyProof.Rows
abbrev R2:=V->V->Hp->VK->Prop
def iU(X:Cx)(f:Value->Value->Sem Value)(r:R2):Prop:=
 ∀(pins:List (Addr×Obj)) (s:Shared) (σ:St) (H:Hp) (x y:V) (v u:Value) (Q:VK),Inv X pins σ H s->RelV x v->RelV y u->r x y H Q ->
  wpAny (model X.prog X.w) X.A (f v u) (EP X pins σ Q) X.xe s
def YX(X:Cx)(f:Value->Sem Value)(r:V->Hp->VK->Prop):Prop:=
 ∀(pins:List (Addr×Obj)) (s:Shared) (σ:St) (H:Hp) (x:V) (v:Value) (Q:VK),Inv X pins σ H s->RelV x v->r x H Q ->
  wpAny (model X.prog X.w) X.A (f v) (EP X pins σ Q) X.xe s
def cK(X:Cx)(f:Value)(r:List V->Hp->VK->Prop):Prop:=
 ∀(pins:List (Addr×Obj)) (s:Shared) (σ:St) (H:Hp) (xs:List V) (us:List Value) (Q:VK),Inv X pins σ H s->Vals xs us->r xs H Q ->
  wpAny (model X.prog X.w) X.A (call f us) (EP X pins σ Q) X.xe s
def YW(X:Cx)(r:V->Hp->(Bool->Hp->Prop)->Prop):Prop:=
 ∀(pins:List (Addr×Obj)) (s:Shared) (σ:St) (H:Hp) (x:V) (v:Value) (Q:Bool->Hp->Prop),Inv X pins σ H s->RelV x v->r x H Q ->
  wpAny (model X.prog X.w) X.A (truthy v) (TP X pins σ Q) X.xe s
def S4(r:R2)(ta tb:TE):TE:=λσ H Q=>ta σ H λx H1=>tb σ H1 λy H2=>r x y H2 Q
def tUn(r:V->Hp->VK->Prop)(ta:TE):TE:=λσ H Q=>ta σ H λx H1=>r x H1 Q
def rI(C:Int->Int->Prop)(g:Int->Int->V):R2:=λx y H Q=>∃i j,x=.int i/\y=.int j/\C i j/\Q (g i j) H
def Gy(g:Int->Int->V):R2:=λx y H Q=>∃i j,x=.int i/\y=.int j/\Q (g i j) H
def rU(g:Int->V):V->Hp->VK->Prop:=λx H Q=>∃i,x=.int i/\Q (g i) H
section
variable {X:Cx}{a b c:Expr}{ta tb tc:TE}{pos:Pos}
theorem Le(ha:PE X a ta)(hb:PE X b tb){pins:List (Addr×Obj)}{s:Shared}{σ:St}{H:Hp}{R:V->V->Hp->Prop}(I:Inv X pins σ H s)
  (h:ta σ H λx H1=>tb σ H1 λy H2=>R x y H2) {Q:Value->Shared->Prop} {f:Value->Value->Sem Value}
  (hf:∀v u s2 x y H2,Inv X pins σ H2 s2->RelV x v->RelV y u->R x y H2->wpAny (model X.prog X.w) X.A (f v u) Q X.xe s2):
  wpAny (model X.prog X.w) X.A (eval a X.env) (λv bQ=>wpAny (model X.prog X.w) X.A (eval b X.env) (λu sG=>wpAny (model X.prog X.w) X.A (f v u) Q X.xe sG) X.xe bQ) X.xe s:=by
 refine cO (ha pins s σ H _ I h) λv s1 ⟨x,H1,I1,r1,q1⟩=>?_;refine cO (hb pins s1 σ H1 _ I1 q1) λu s2 ⟨y,H2,I2,r2,q2⟩=>?_;exact hf v u s2 x y H2 I2 r1 r2 q2
theorem W7{op:Operator}{r:R2}(ho:iU X (binaryOp op) r)(ha:PE X a ta)(hb:PE X b tb):PE X (.BinOp a op b pos) (S4 r ta tb):=by
 intro pins s σ H Q I h;exact wpAny_BinOp (Le ha hb I h λv u s2 x y H2 I2 rx ry q=>ho pins s2 σ H2 x y v u Q I2 rx ry q)
theorem W8{op:UnaryOp}{r:V->Hp->VK->Prop}(ho:YX X (unaryOp op) r)(ha:PE X a ta):PE X (.UnaryOp op a pos) (tUn r ta):=by
 intro pins s σ H Q I h;exact UnaryOp_ (cO (ha pins s σ H _ I h) λv s1 ⟨x,H1,I1,r1,q1⟩=>ho pins s1 σ H1 x v Q I1 r1 q1)
theorem Yz{f:Value->Value->Sem Value}{C:Int->Int->Prop}{g:Int->Int->Int}
  (rule:∀(i j:Int) (t u:Tok) (s:Shared) (Q:Value->Shared->Prop) (E:Value->Shared->Prop),C i j->Q (.int (g i j) s.toks) {s with toks:=s.toks+1}->wpAny (model X.prog X.w) X.A (f (.int i t) (.int j u)) Q E s):
  iU X f (rI C λi j=>.int (g i j)):=by
 intro pins s σ H x y v u Q I rx ry h;obtain⟨i,j,rfl,rfl,hc,q⟩:=h;obtain⟨t,rfl⟩:=rx;obtain⟨t',rfl⟩:=ry;exact rule i j t t' s _ _ hc ⟨.int (g i j),H,I.tok _,⟨_,rfl⟩,q⟩
theorem WR{f:Value->Value->Sem Value}{g:Int->Int->Int}
  (rule:∀(i j:Int) (t u:Tok) (s:Shared) (Q:Value->Shared->Prop) (E:Value->Shared->Prop),Q (.int (g i j) s.toks) {s with toks:=s.toks+1}->wpAny (model X.prog X.w) X.A (f (.int i t) (.int j u)) Q E s):
  iU X f (Gy λi j=>.int (g i j)):=by
 intro pins s σ H x y v u Q I rx ry h;obtain⟨i,j,rfl,rfl,q⟩:=h;obtain⟨t,rfl⟩:=rx;obtain⟨t',rfl⟩:=ry;exact rule i j t t' s _ _ ⟨.int (g i j),H,I.tok _,⟨_,rfl⟩,q⟩
theorem HM{f:Value->Value->Sem Value}{g:Int->Int->Bool}
  (rule:∀(i j:Int) (t u:Tok) (s:Shared) (Q:Value->Shared->Prop) (E:Value->Shared->Prop),Q (.bool (g i j)) s->wpAny (model X.prog X.w) X.A (f (.int i t) (.int j u)) Q E s):
  iU X f (Gy λi j=>.bl (g i j)):=by
 intro pins s σ H x y v u Q I rx ry h;obtain⟨i,j,rfl,rfl,q⟩:=h;obtain⟨t,rfl⟩:=rx;obtain⟨t',rfl⟩:=ry;exact rule i j t t' s _ _ ⟨.bl (g i j),H,I,rfl,q⟩
def YJ(i j:Int):Prop:=0<j/\j<1073741824
def sV(i j:Int):Prop:=0<=j/\j<=1000000/\i.natAbs<2^64
def iw(i j:Int):Prop:=(-(2^64)<i/\i<2^64)\/(-(2^64)<j/\j<2^64)
theorem iw.ok{i j:Int}(h:iw i j):IntMulOk i j:=by
 rcases h with⟨h1,h2⟩|⟨h1,h2⟩
 ·exact .of_left (intBits_le_64 h1 h2)
 ·exact .of_right (intBits_le_64 h1 h2)
theorem Pa:iU X (binaryOp .Add) (Gy λi j=>.int (i+j)):=WR λ_ _ _ _ _ _ _ q=>add_int q
theorem Pl:iU X (binaryOp .Sub) (Gy λi j=>.int (i-j)):=WR λ_ _ _ _ _ _ _ q=>sub_int q
theorem Ph:iU X (binaryOp .Mult) (rI iw λi j=>.int (i*j)):=Yz λ_ _ _ _ _ _ _ hc q=>mul_int q hc.ok
theorem Pg:iU X (binaryOp .Mod) (rI (λ_ j=>0<j) λi j=>.int (i%j)):=Yz λi j _ _ _ _ _ hc q=>by
 have h1:(0:Int)<j:=hc;exact mod_int' ⋯ (by rw[Int.fmod_eq_emod_of_nonneg i ⋯];exact q)
theorem Pk:iU X (binaryOp .Pow) (rI sV λi j=>.int (i^j.toNat)):=Yz λ_ _ _ _ _ _ _ hc q=>pow_int_small hc.1 hc.2.1 hc.2.2 q
theorem unI{f:Value->Sem Value}{g:Int->Int}
  (rule:∀(i:Int) (t:Tok) (s:Shared) (Q:Value->Shared->Prop) (E:Value->Shared->Prop),Q (.int (g i) s.toks) {s with toks:=s.toks+1}->wpAny (model X.prog X.w) X.A (f (.int i t)) Q E s):
  YX X f (rU λi=>.int (g i)):=by
 intro pins s σ H x v Q I rx h;obtain⟨i,rfl,q⟩:=h;obtain⟨t,rfl⟩:=rx;exact rule i t s _ _ ⟨.int (g i),H,I.tok _,⟨_,rfl⟩,q⟩
theorem Se:YX X (unaryOp .USub) (rU λi=>.int (-i)):=unI λ_ _ _ _ _ q=>neg_int q
end
section
variable {X:Cx}{a b c:Expr}{ta tb tc:TE}{pos:Pos}
theorem MM{pins:List (Addr×Obj)}{σ:St}{H:Hp}{s:Shared}{Q:VK}{k k':Bool}(I:Inv X pins σ H s)(q:Q (.bl k) H)(e:k=k'):EP X pins σ Q (.bool k') s:=by
 subst e;exact⟨.bl k,H,I,rfl,q⟩
theorem WW:iU X (compareOp .Lt) (Gy λi j=>.bl (decide (i<j))):=HM λ_ _ _ _ _ _ _ q=>lt_int q
theorem WV:iU X (compareOp .LtE) (Gy λi j=>.bl (decide (i<=j))):=HM λ_ _ _ _ _ _ _ q=>le_int q
theorem WU:iU X (compareOp .Gt) (Gy λi j=>.bl (decide (j<i))):=HM λ_ _ _ _ _ _ _ q=>gt_int q
theorem WT:iU X (compareOp .GtE) (Gy λi j=>.bl (decide (j<=i))):=HM λ_ _ _ _ _ _ _ q=>ge_int q
theorem HR:iU X (compareOp .IsNot) (λx y H Q=>y=.bD/\Q (.bl (!decide (x=.bD))) H):=by
 intro pins s σ H x y v u Q I rx ry h;obtain⟨rfl,q⟩:=h;cases ry;refine isnot_none_gen (MM I q ?_);cases x<;>first
  | (cases rx;rfl)
  | (obtain⟨t,rfl⟩:=rx;rfl)
theorem iU.or{f:Value->Value->Sem Value}{r r':R2}(h:iU X f r)(h':iU X f r'):iU X f (λx y H Q=>r x y H Q\/r' x y H Q):=by
 intro pins s σ H x y v u Q I rx ry q;rcases q with q|q
 ·exact h pins s σ H x y v u Q I rx ry q
 ·exact h' pins s σ H x y v u Q I rx ry q
theorem D5(b:Expr){op:CmpOp}(h:op≠.In:=by decide)(h2:op≠.NotIn:=by decide):behindInMarks op b=false:=by
 have e1:(op==CmpOp.In)=false:=by cases op<;>first|rfl|exact absurd rfl h
 have e2:(op==CmpOp.NotIn)=false:=by cases op<;>first|rfl|exact absurd rfl h2
 cases b<;>simp [behindInMarks,e1,e2]
theorem HZ{op:CmpOp}{r:R2}(ho:iU X (compareOp op) r)(ha:PE X a ta)(hb:PE X b tb)(hm:behindInMarks op b=false):PE X (.Compare a [op] [b] pos) (S4 r ta tb):=by
 intro pins s σ H Q I h;exact wpAny_Compare1 (Le ha hb I h λv u s2 x y H2 I2 rx ry q=>ho pins s2 σ H2 x y v u Q I2 rx ry q) hm
def X6(t:TE):TT:=λσ H Q=>t σ H λx H'=>∃k,x=.bl k/\Q k H'
theorem Im{op:CmpOp}{r:R2}(ho:iU X (compareOp op) r)(ha:PE X a ta)(hb:PE X b tb)(hm:behindInMarks op b=false):PT X (.Compare a [op] [b] pos) (X6 (S4 r ta tb)):=by
 intro pins s σ H Q I h;refine wpAny_isTrue_Compare1 (cO (ha pins s σ H _ I h) λv s1 ⟨x,H1,I1,r1,q1⟩=>cO (hb pins s1 σ H1 _ I1 q1) λu s2 ⟨y,H2,I2,r2,q2⟩ =>
  cO (ho pins s2 σ H2 x y v u _ I2 r1 r2 q2) λc s3 ⟨z,H3,I3,r3,k,e,q3⟩=>?_) hm
 subst e;cases r3;exact wpAny_truthy_bool ⟨H3,I3,q3⟩
def Tx(K:PySem.W.Frag)(x:V)(H:Hp)(k:Bool):Prop:=
 match x with
 | .bD=>k=false
 | .bl b=>k=b
 | .int i=>k=(i != 0)
 | .str y=>y.length<=sizeLine/\k=((y.length:Int) != 0)
 | .T4 y=>y.size<=sizeLine/\k=((y.size:Int) != 0)
 | .ref p=>(∃xs,gn K H p xs/\k=!xs.isEmpty)\/(∃xs,kq K H p xs/\k=!xs.isEmpty)\/∃kvs,H p=some (.dK kvs)/\k=!kvs.isEmpty
 | _=>False
theorem xn{κ:Type}{kvs:List (κ×V)}{vs:List (κ×Value)}(r:KV kvs vs):(!vs.isEmpty)=!kvs.isEmpty:=by
 cases r<;>rfl
theorem m6{xs:List V}{its:List Value}(r:Vals xs its):(!its.toArray.isEmpty)=!xs.isEmpty:=by
 cases r<;>simp
theorem i9:(sizeLine:Nat)<2^63:=by rw[sizeLine_eq];decide
theorem RZ:YW X (λx H Q=>∃k,Tx X.K x H k/\Q k H):=by
 intro pins s σ H x v Q I rx h;obtain⟨k,e,q⟩:=h;have hl:=i9;have hs:sizeLine=16777216:=sizeLine_eq;cases x with
 | bD =>
  cases rx;have e':k=false:=e;subst e';exact truthy_none ⟨H,I,q⟩
 | bl b =>
  cases rx;have e':k=b:=e;subst e';exact wpAny_truthy_bool ⟨H,I,q⟩
 | int i =>
  obtain⟨t,rfl⟩:=rx;have e':k=(i != 0):=e;subst e';exact PySem.P.truthy_int ⟨H,I,q⟩
 | str y =>
  obtain⟨t,rfl⟩:=rx;obtain⟨hy,e'⟩:y.length<=sizeLine/\k=((y.length:Int) != 0):=e;subst e';exact PySem.P.truthy_str ⋯ ⟨H,I.tok _,q⟩
 | T4 y =>
  obtain⟨t,rfl⟩:=rx;obtain⟨hy,e'⟩:y.size<=sizeLine/\k=((y.size:Int) != 0):=e;subst e';exact PySem.W.truthy_bytes ⋯ ⟨H,I.tok _,q⟩
 | ref p =>
  cases rx;have e':(∃xs,gn X.K H p xs/\k=!xs.isEmpty)\/(∃xs,kq X.K H p xs/\k=!xs.isEmpty)\/∃kvs,H p=some (.dK kvs)/\k=!kvs.isEmpty:=e;rcases e' with⟨xs,hx,e'⟩|⟨xs,hx,e'⟩|⟨kvs,hx,e'⟩
  ·subst e'
   obtain⟨its,r,pl,hz⟩:=I.list hx;have hlen:=r.length;exact wpAny_truthy_list pl.isList (by simp only[List.size_toArray];omega) ⟨H,I.tok _,by rw[m6 r];exact q⟩
  ·subst e'
   obtain⟨its,r,pl,hz⟩:=I.tuple hx;have hlen:=r.length;exact truthy_tuple pl (by simp only[List.size_toArray];omega) ⟨H,I.tok _,by rw[m6 r];exact q⟩
  ·subst e'
   obtain⟨hz,hS,vs,r,m⟩:kvs.length<=sizeLine/\(p==sysModules)=false/\∃vs,KV kvs vs/\s.heap.DictOf (bR X.prog X.w) p vs:=I.bU p _ hx;have hlen:kvs.length=vs.length:=Paired.length r;exact wpAny_truthy_dict hS m ⋯ ⟨H,I.tok _,by rw[xn r];exact q⟩
 | _=>exact(show False from e).elim
theorem EA(ha:PE X a ta)(he:∀whole,isTrue a X.env whole=(do let v <- whole;standAt a.pos;holding [v] (truthy v))):
  PT X a (λσ H Q=>ta σ H λx H'=>∃k,Tx X.K x H' k/\Q k H'):=by
 intro pins s σ H Q I h;exact isTrue_plain (cO (ha pins s σ H _ I h) λv s1 ⟨x,H1,I1,r1,q1⟩=>RZ pins s1 σ H1 x v Q I1 r1 q1) (he _)
theorem xB:iU X (binaryOp .Add) (λx y H Q=>∃i j,x=.str i/\y=.str j/\i.length+j.length<=sizeLine/\Q (.str (i++j)) H):=by
 intro pins s σ H x y v u Q I rx ry h;obtain⟨i,j,rfl,rfl,hz,q⟩:=h;obtain⟨t,rfl⟩:=rx;obtain⟨t',rfl⟩:=ry;exact add_str (λt' tk=>⟨.str (i++j),H,I.tok _,⟨_,rfl⟩,q⟩) hz
theorem vals1{x:V}{us:List Value}(r:Vals [x] us):∃u,us=[u]/\RelV x u:=by
 cases r with
 | cons r1 r2=>cases r2;exact⟨_,rfl,r1⟩
theorem vals2{x y:V}{us:List Value}(r:Vals [x,y] us):∃u w',us=[u,w']/\RelV x u/\RelV y w':=by
 cases r with
 | cons r1 r2 =>
  cases r2 with
  | cons r3 r4=>cases r4;exact⟨_,_,rfl,r1,r3⟩
theorem BM:cK X (.builtin "abs") (λxs H Q=>∃i,xs=[.int i]/\Q (.int (if i<0 then -i else i)) H):=by
 intro pins s σ H xs us Q I r h;obtain⟨i,rfl,q⟩:=h;obtain⟨u,rfl,t,rfl⟩:=vals1 r;exact call_abs_int λu tk=>⟨.int (if i<0 then -i else i),H,I.tok _,⟨_,rfl⟩,q⟩
theorem zS(hc:X.calm=true):cK X (.builtin "max") (λxs H Q=>∃i j,xs=[.int i,.int j]/\Q (.int (if j>i then j else i)) H):=by
 intro pins s σ H xs us Q I r h;obtain⟨i,j,rfl,q⟩:=h;obtain⟨u,w',rfl,⟨t,rfl⟩,⟨t',rfl⟩⟩:=vals2 r;refine max_two_ints (I.ok.hd hc) λh' tk k=>⟨_,H,I.kept k,?_,q⟩
 by_cases hj:j>i
 ·rw[if_pos hj,if_pos hj];exact⟨_,rfl⟩
 ·rw[if_neg hj,if_neg hj];exact⟨_,rfl⟩
theorem zU(hc:X.calm=true):cK X (.builtin "min") (λxs H Q=>∃i j,xs=[.int i,.int j]/\Q (.int (if j<i then j else i)) H):=by
 intro pins s σ H xs us Q I r h;obtain⟨i,j,rfl,q⟩:=h;obtain⟨u,w',rfl,⟨t,rfl⟩,⟨t',rfl⟩⟩:=vals2 r;refine min_two_ints (I.ok.hd hc) λh' tk k=>⟨_,H,I.kept k,?_,q⟩
 by_cases hj:j<i
 ·rw[if_pos hj,if_pos hj];exact⟨_,rfl⟩
 ·rw[if_neg hj,if_neg hj];exact⟨_,rfl⟩
theorem zR:cK X (.type "int") (λxs H Q=>(∃i,xs=[.int i]/\Q (.int i) H)\/∃k,xs=[.bl k]/\Q (.int (if k then 1 else 0)) H):=by
 intro pins s σ H xs us Q I r h;rcases h with⟨i,rfl,q⟩|⟨k,rfl,q⟩
 ·obtain⟨u,rfl,t,rfl⟩:=vals1 r
  exact call_int_int ⟨.int i,H,I,⟨_,rfl⟩,q⟩
 ·obtain⟨u,rfl,r1⟩:=vals1 r
  cases r1;exact call_int_bool ⟨.int (if k then 1 else 0),H,I.tok _,⟨_,rfl⟩,q⟩
end
end L2
namespace L2
open PySem PySem.Spec PyProof.Rows
theorem ou.some_of{v:V}{o:Option Value}(r:ou (some v) o):∃u,o=some u/\RelV v u:=by
 cases o with
 | none=>exact(show False from r).elim
 | some u=>exact⟨u,rfl,r⟩
section
variable {X:Cx}{o e value:Expr}{f:Str}{pos pos' km:Pos}{ta tv:TE}
def Ir:V->V->Hp->VK->Prop:=λx y H Q=>∃i j,x=.int i/\y=.int j/\Q (.int (i+j)) H
end
end L2
namespace L2
open PySem PySem.Spec PyProof.Rows
structure iB(k:Nat)(A:Around):Prop where
 hd:A.handled=none
 dp:A.depth+3*k+5<recursionLimit
 un:A.units+16*k+200<cLine
theorem iB.mono{j k:Nat}{A:Around}(r:iB k A)(h:j<=k):iB j A:=⟨r.hd,by have:=r.dp;omega,by have:=r.un;omega⟩
theorem iB.deeper{k:Nat}{A:Around}(r:iB (k+1) A)(env:Env):iB k (A.deeper env):=
 ⟨r.hd,by have:=r.dp;show A.depth+1+3*k+5<_;omega,by have:=r.un;show A.units+3+16*k+200<_;omega⟩
theorem iB.depth{k:Nat}{A:Around}(r:iB k A):A.depth<recursionLimit:=by have:=r.dp;omega
def oH:TA:=λ_ H Q=>Q [] H
def iT(ta:TE)(tr:TA):TA:=λσ H Q=>ta σ H λx H1=>tr σ H1 λxs H2=>Q (x::xs) H2
section
variable {X:Cx}{e:Expr}{es:List Expr}{te:TE}{t:TA}{pos:Pos}
theorem cV:PA X [] oH:=λ_ _ _ _ H Q I h=>Calls.spliced_nil ⟨[],H,I,.nil,h⟩
theorem cf(ha:PE X e te)(hr:PA X es t)(hs:starEach (e::es) X.env=(false,eval e X.env)::starEach es X.env:=by rfl):PA X (e::es) (iT te t):=by
 intro pos pins s σ H Q I h;rw[hs];show wpAny _ _ (spliced ((false,eval e X.env)::backTo pos (starEach es X.env))) _ _ s;refine Calls.spliced_cons (cO (ha pins s σ H _ I h) λu s1 ⟨x,H1,I1,r1,q1⟩=>?_);exact cO (hr pos pins s1 σ H1 _ I1 q1) λus s2 ⟨xs,H2,I2,r2,q2⟩=>⟨x::xs,H2,I2,.cons r1 r2,q2⟩
def aaB(t:TA):TE:=λσ H Q=>t σ H λxs H1=>xs.length<=sizeLine/\∀p,H1 p=none->Q (.ref p) (upd H1 p (.tup xs))
def RG(t:TA):TE:=λσ H Q=>t σ H λxs H1=>xs.length<=sizeLine/\∀p,H1 p=none->Q (.ref p) (upd H1 p (.lst xs))
theorem PJ{x1}(h:PA X es t):PE X (.Tuple es x1 pos) (aaB t):=by
 intro pins s σ H Q I hq;refine wpAny_Tuple_spliced (cO (h pos pins s σ H _ I hq) λus s1 ⟨xs,H1,I1,r,z,q⟩=>⟨by rw[<- r.length];exact z,?_⟩)
 have hf:H1 s1.heap.objs.size=none:=I1.bU.fresh (Nat.le_refl _);refine⟨.ref s1.heap.objs.size,upd H1 s1.heap.objs.size (.tup xs),I1.laid (t':=s1.toks) (λb u e=>aaP _ e) (Nat.le_refl _) ?_,rfl,q _ hf⟩;exact⟨z,us,r,⟨_,Heap.get?_push_size _ rfl,rfl,_,rfl⟩⟩
theorem kQ(h:PA X es t):PE X (.List es pos) (RG t):=by
 intro pins s σ H Q I hq;refine wpAny_List_spliced (cO (h pos pins s σ H _ I hq) λus s1 ⟨xs,H1,I1,r,z,q⟩=>⟨by rw[<- r.length];exact z,?_⟩)
 have hf:H1 s1.heap.objs.size=none:=I1.bU.fresh (Nat.le_refl _);refine⟨.ref s1.heap.objs.size,upd H1 s1.heap.objs.size (.lst xs),I1.laid (t':=s1.toks) (λb u e=>aaP _ e) (Nat.le_refl _) ?_,rfl,q _ hf⟩;exact⟨z,us,0,r,Heap.get?_push_size _ rfl⟩
end
abbrev Sp:=List V->Hp->VK->XK->Prop
abbrev zJ:=List Env->Hp->Shared->XK->Value->Shared->Prop
structure GF(P:Program)(w:World)(K:PySem.W.Frag)(mg:Str->Option Value)(base:Heap)(A:Around)(outer:List Env)(s:Shared)(H:Hp):Prop where
 frames:A.frames=some outer
 mod:Mod K mg base
 bs:∀b o,base.get? b=some o->s.heap.get? b=some o/\H b=none
 Gh:base.objs.size<=s.heap.objs.size
 lN:s.heap.FunFrames base outer
 MN:∀b∈Dd outer,H b=none
 bU:iI P w H s.heap
 bare:AllBare s.gens
def CE(outer:List Env)(P:Program)(w:World)(H:Hp)(s:Shared)(Q:VK)(u:Value)(s':Shared):Prop:=
 ∃v H',s'.os=s.os/\AllBare s'.gens/\Un (Dd outer) [] H H' s.heap s'.heap/\iI P w H' s'.heap/\RelV v u/\Q v H'
def CR(CX:zJ)(outer:List Env)(P:Program)(w:World)(H:Hp)(s:Shared)(Q:VK)(E:XK)(r:Result)(s':Shared):Prop:=
 match r with
 | .ok (.ret u)=>CE outer P w H s Q u s'
 | .ok _=>False
 | .error e=>CX outer H s E e s'
structure eI(P:Program)(w:World)(K:PySem.W.Frag)(mg:Str->Option Value)(base:Heap)(CX:zJ)(k:Nat)(f:Addr)(fd:FuncData)(ps:List Str)(sp:Sp):Prop where
 len:∀vs H Q E,sp vs H Q E->vs.length=ps.length
 run:∀(A:Around) (outer:List Env) (s:Shared) (H:Hp) (args:Args) (us:List Value) (vs:List V) (Q:VK) (E:XK),iB k A->GF P w K mg base A outer s H->BindsTo s fd args (ps.zip us)->Vals vs us->sp vs H Q E ->
  codeAny (model P w) A (.call (.ref f) args) (CR CX outer P w H s Q E) s
theorem eI.mono{P:Program}{w:World}{K:PySem.W.Frag}{mg:Str->Option Value}{base:Heap}{CX:zJ}{j k:Nat}{f:Addr}{fd:FuncData}{ps:List Str}{sp:Sp}(F:eI P w K mg base CX j f fd ps sp)(h:j<=k):
  eI P w K mg base CX k f fd ps sp:=⟨F.len,λA outer s H args us vs Q E hr=>F.run A outer s H args us vs Q E (hr.mono h)⟩
theorem eI.imp{P:Program}{w:World}{K:PySem.W.Frag}{mg:Str->Option Value}{base:Heap}{CX:zJ}{k:Nat}{f:Addr}{fd:FuncData}{ps:List Str}{sp sp':Sp}(F:eI P w K mg base CX k f fd ps sp)
  (h:∀vs H Q E,sp' vs H Q E->sp vs H Q E):eI P w K mg base CX k f fd ps sp':=
 ⟨λvs H Q E q=>F.len vs H Q E (h _ _ _ _ q),λA outer s H args us vs Q E hr he hb hv hs=>F.run A outer s H args us vs Q E hr he hb hv (h _ _ _ _ hs)⟩
section
variable {X:Cx}{pins:List (Addr×Obj)}{σ:St}{H:Hp}{s s':Shared}
theorem Inv.Zi(I:Inv X pins σ H s):GF X.prog X.w X.K X.mg X.base X.A X.stack s H:=
 ⟨I.ok.frames,I.ok.mod,I.bs,Nat.le_trans I.ok.Gh I.sz,I.stack,I.zq,I.bU,I.bare⟩
theorem Inv.after{Q:VK}{u:Value}(I:Inv X pins σ H s)(h:CE X.stack X.prog X.w H s Q u s'):EP X pins σ Q u s':=by
 obtain⟨v,H',os,bare,un,bU,r,q⟩:=h;obtain⟨hh,g,d,t,os'⟩:=s';obtain rfl:os'=s.os:=os;exact⟨v,H',I.call (h':=hh) (g':=g) (d':=d) (t':=t) (ch:=[]) un bU bare (λb z=>absurd z (by simp)),r,q⟩
end
def X0(sp:Sp)(dvs:List V)(E:XK)(t:TA):TE:=λσ H Q=>t σ H λvs H1=>sp (vs++dvs) H1 Q E
def Binds(K:PySem.W.Frag)(fd:FuncData)(ps:List Str)(ds:List Value):Prop:=
 ∀(s:Shared) (us:List Value),K.In s.heap->(us++ds).length=ps.length->BindsTo s fd ⟨us,[]⟩ (ps.zip (us++ds))
theorem Binds.all{K:PySem.W.Frag}{fd:FuncData}{ps:List Str}(h:∀us:List Value,us.length=ps.length->bindArgs fd ⟨us,[]⟩=pure (ps.zip us)):Binds K fd ps []:=λs us _ hl=>by
 rw[List.append_nil]at hl ⊢;exact .of_eq (h us hl)
def Passes(CX:zJ)(X:Cx)(E:XK):Prop:=∀(pins:List (Addr×Obj)) (σ:St) (H:Hp) (s:Shared) (e:Value) (s':Shared),Inv X pins σ H s->CX X.stack H s E e s'->X.xe e s'
section
variable {X:Cx}{CX:zJ}{k:Nat}{f C:Addr}{fd:FuncData}{ps:List Str}{sp:Sp}{dvs:List V}{ds:List Value}{E:XK}{x m:Str}{p pos apos:Pos}{e o:Expr}{es:List Expr}{ta:TE}{t:TA}
theorem QB{pins:List (Addr×Obj)}{σ:St}{H:Hp}{s:Shared}{Q:VK}{us:List Value}{vs:List V}(F:eI X.prog X.w X.K X.mg X.base CX k f fd ps sp)(hr:iB k X.A)(hb:Binds X.K fd ps ds)(hd:Vals dvs ds)(hx:Passes CX X E)
  (I:Inv X pins σ H s) (r:Vals vs us) (h:sp (vs++dvs) H Q E):wpAny (model X.prog X.w) X.A (call (.ref f) us) (EP X pins σ Q) X.xe s:=by
 have r2:Vals (vs++dvs) (us++ds):=r.append hd;have hl:(us++ds).length=ps.length:=by rw[<- r2.length];exact F.len _ _ _ _ h
 refine wpAny_call (codeAny_mono (F.run X.A X.stack s H ⟨us,[]⟩ (us++ds) (vs++dvs) Q E hr I.Zi (hb s us I.SU hl) r2 h) λr s' hq=>?_);cases r with
 | error e=>exact hx pins σ H s e s' I hq
 | ok fl =>
  cases fl with
  | ret u=>exact I.after hq
  | next=>exact False.elim hq
  | brk=>exact False.elim hq
  | cont=>exact False.elim hq
theorem qZ(F:eI X.prog X.w X.K X.mg X.base CX k f fd ps sp)(hr:iB k X.A)(hg:Gl X x)(hm:X.mg x=some (.ref f))(hk:PySem.W.keepIn X.K (.ref f)=true)(hb:Binds X.K fd ps ds)(hd:Vals dvs ds)(hx:Passes CX X E)
  (ha:PA X (e::es) t) (uK:(x==("__debug__":Str))=false:=by decide) (he:starEach (e::es) X.env=(false,eval e X.env)::starEach es X.env:=by rfl) (fC:(backTo pos (starEach es X.env)).any (·.1)=false:=by rfl):
  PE X (.Call (.Name x p) (e::es) [] pos) (X0 sp dvs E t):=by
 intro pins s σ H Q I h;refine wpAny_Call_Name_kw (yR I hg hm ?_ uK);refine PySem.W.callWith_K (h₀:=X.base) I.ok.mod.kin hk (cO (ha pos pins s σ H _ I h) λus s1 ⟨vs,H1,I1,r,q⟩=>⟨I1.SU,?_⟩) he fC;exact QB F hr hb hd hx I1 r q
end
def PK(X:Cx)(V9:List Keyword)(t:TA):Prop:=
 ∀(pos:Pos) (pins:List (Addr×Obj)) (s:Shared) (σ:St) (H:Hp) (Q:List V->Hp->Prop),Inv X pins σ H s->t σ H Q->wpAny (model X.prog X.w) X.A (evalAll ((backToKw pos (keywordEach V9 X.env)).map (·.2))) (AP X pins σ Q) X.xe s
section
variable {X:Cx}{CX:zJ}{k:Nat}{f C:Addr}{fd:FuncData}{ps ks:List Str}{sp:Sp}{E:XK}{x m:Str}{p pos apos aai:Pos}{e o:Expr}{es:List Expr}{V9:List Keyword}{te ta:TE}{t tk:TA}{nm:Option Str}
theorem Es:PK X [] oH:=λ_ _ _ _ H Q I h=>wpAny_evalAll_nil ⟨[],H,I,.nil,h⟩
theorem yX(ha:PE X e te)(hr:PK X V9 t):PK X (⟨nm,e,aai⟩::V9) (iT te t):=by
 intro pos pins s σ H Q I h;show wpAny _ _ (evalAll ((do let v <- eval e X.env;standAt pos;pure v)::(backToKw pos (keywordEach V9 X.env)).map (·.2))) _ _ s
 refine wpAny_evalAll_cons (aaO (cO (ha pins s σ H _ I h) λu s1 ⟨x,H1,I1,r1,q1⟩=>aaO (wpAny_standAt (wpAny_pure ?_))));exact cO (hr pos pins s1 σ H1 _ I1 q1) λus s2 ⟨xs,H2,I2,r2,q2⟩=>⟨x::xs,H2,I2,.cons r1 r2,q2⟩
variable {g:List Value->List Value->List Value}{gV:List V->List V->List V}
end
structure aR(N P:List Str)(sc:Scope):Prop where
 kind:sc.kind=.function
 co:sc.isCoroutine=false
 gen:sc.isGenerator=false
 nd:N.Nodup
 pre:N.take P.length=P
 par:∀x∈P,sc.names.lookup x=some .local\/sc.names.lookup x=some .cell
 Oe:∀y∈sc.names,y.2≠.free
theorem oT{kindOf:Str->Option NameKind}{x:Str}:∀ {binds:List (Str×Value)} {m:Str->Option Value},(∀v,(x,v)∉binds)->bindL kindOf binds m x=m x
 | [],_,_=>rfl
 | (n,v)::r,m,h=>by
  unfold bindL;rw[oT λw hw=>h w (List.mem_cons_of_mem _ hw)]
  split
  ·have:x≠n:=by rintro rfl;exact h v List.mem_cons_self
   simp [this]
  ·rfl
theorem oQ{kindOf:Str->Option NameKind}{x:Str}:∀ {binds:List (Str×Value)} {m:Str->Option Value},(∀v,(x,v)∉binds)->bindC kindOf binds m x=m x
 | [],_,_=>rfl
 | (n,v)::r,m,h=>by
  unfold bindC;rw[oQ λw hw=>h w (List.mem_cons_of_mem _ hw)]
  split
  ·rfl
  ·have:x≠n:=by rintro rfl;exact h v List.mem_cons_self
   simp [this]
theorem oS{kindOf:Str->Option NameKind}{x:Str}{v:Value}:∀ {P:List Str} {vs:List Value} {i:Nat} {m:Str->Option Value},P.Nodup->P[i]?=some x->vs[i]?=some v->kindOf x=some .local ->
  bindL kindOf (P.zip vs) m x=some v
 | [],_,_,_,_,h,_,_=>by simp at h
 | _::_,[],_,_,_,_,h,_=>by simp at h
 | p::P,w::vs,0,m,nd,h1,h2,hk=>by
  simp at h1 h2;subst h1;subst h2;show bindL kindOf ((p,w)::P.zip vs) m p=_;unfold bindL;rw[oT λv hv=>(List.nodup_cons.mp nd).1 (List.of_mem_zip hv).1,if_pos hk];simp
 | p::P,w::vs,i+1,m,nd,h1,h2,hk=>by
  show bindL kindOf ((p,w)::P.zip vs) m x=_;unfold bindL;exact oS (i:=i) (List.nodup_cons.mp nd).2 (by simpa using h1) (by simpa using h2) hk
theorem oP{kindOf:Str->Option NameKind}{x:Str}{v:Value}:∀ {P:List Str} {vs:List Value} {i:Nat} {m:Str->Option Value},P.Nodup->P[i]?=some x->vs[i]?=some v->kindOf x≠some .local ->
  bindC kindOf (P.zip vs) m x=some v
 | [],_,_,_,_,h,_,_=>by simp at h
 | _::_,[],_,_,_,_,h,_=>by simp at h
 | p::P,w::vs,0,m,nd,h1,h2,hk=>by
  simp at h1 h2;subst h1;subst h2;show bindC kindOf ((p,w)::P.zip vs) m p=_;unfold bindC;rw[oQ λv hv=>(List.nodup_cons.mp nd).1 (List.of_mem_zip hv).1,if_neg hk];simp
 | p::P,w::vs,i+1,m,nd,h1,h2,hk=>by
  show bindC kindOf ((p,w)::P.zip vs) m x=_;unfold bindC;exact oP (i:=i) (List.nodup_cons.mp nd).2 (by simpa using h1) (by simpa using h2) hk
def start(N:List Str)(vs:List V):St:=vs.map some++List.replicate (N.length-vs.length) none
def qv(CX:zJ)(P:Program)(w:World)(K:PySem.W.Frag)(mg:Str->Option Value)(base:Heap)(N:List Str)(qual:Str)(scope:Scope)(f:Addr)(cd:Value)(A:Around)(outer:List Env)(s:Shared)(H:Hp)(E:XK):Cx where
 prog:=P
 w:=w
 K:=K
 mg:=mg
 base:=base
 A:=A.deeper (envOfC qual scope s.heap.objs.size f cd)
 N:=N
 dr:=s
 wI:=H
 env:=envOfC qual scope s.heap.objs.size f cd
 outer:=outer
 stack:=envOfC qual scope s.heap.objs.size f cd::outer
 ex:=[]
 calm:=true
 fn:=λ_=>true
 pn:=[]
 xe:=λe s'=>wpAny (model P w) (A.deeper (envOfC qual scope s.heap.objs.size f cd)) (leaving (envOfC qual scope s.heap.objs.size f cd) e) (λ_ Xv=>CX outer H s E e Xv) (λe' Xv=>CX outer H s E e' Xv) s'
theorem tI{sc:Scope}{n:Nat}{x:Str}(h:sc.names.lookup x=some .cell):∃c,(cellsFrom n sc.names []).lookup x=some c:=by
 have q:=PySem.W.cellsFrom_some sc.names n [] (.inl h);exact Option.isSome_iff_exists.mp q
theorem Al{CX:zJ}{P:Program}{w:World}{K:PySem.W.Frag}{mg:Str->Option Value}{base:Heap}{N ps:List Str}{qual:Str}{scope:Scope}{f:Addr}{cd:Value}{A:Around}{outer:List Env}{s s1:Shared}{H:Hp}{E:XK}{us:List Value}{vs:List V}
  (S:aR N ps scope) (hd:A.handled=none) (e0:GF P w K mg base A outer s H) (hl:vs.length=ps.length) (r:Vals vs us)
  (x:InCallC s s.heap.objs.size (bindL (envOfC qual scope s.heap.objs.size f cd).kindOf (ps.zip us) λ_=>none) (cellsFrom (s.heap.objs.size+1) scope.names []) (bindC (envOfC qual scope s.heap.objs.size f cd).kindOf (ps.zip us) λ_=>none) s1):
  Inv (qv CX P w K mg base N qual scope f cd A outer s H E) [] (start N vs) H s1:=by
 have fC:ps.length<=N.length:=by have:=congrArg List.length S.pre;rw[List.length_take]at this;omega
 obtain⟨h1,tk,rfl,hk⟩:=x.done;have Wk:∀b:Addr,b∉(qv CX P w K mg base N qual scope f cd A outer s H E).ex:=λb z=>absurd (show b∈([]:List Addr)from z) (by simp)
 refine⟨⟨e0.mod,S.kind,rfl,rfl,Nat.le_refl _,λy z c h1 h2=>?_,λy hy=>?_,λy c _ h=>?_,λ_=>hd,Around.frames_deeper e0.frames,.inr ⟨rfl,rfl⟩,λb z=>absurd z (Wk b),e0.bs,e0.Gh,λb _ _=>Wk b,λb z=>absurd z (Wk b),e0.lN,e0.MN⟩,
  rfl,e0.bare,Un.kept hk,⟨_,x.toInCall.ns,λi y v h1 h2 h3=>?_⟩,λy c h=>⟨_,x.cell y c h⟩,e0.bU.fresh (Nat.le_refl _),λy c h=>?_,λp hp=>absurd (show p∈([]:List (Addr×Obj))from hp) (by simp),e0.bU.kept hk,?_⟩
 ·exact name_of_addr x.apart (PySem.mem_of_lookup h1) (PySem.mem_of_lookup h2)
 ·have hy:scope.names.lookup y=some .cell\/scope.names.lookup y=some .free:=hy
  rcases hy with hy|hy
  ·exact tI hy
  ·exact absurd rfl (S.Oe _ (PySem.mem_of_lookup hy))
 ·exact Nat.le_of_lt (x.above y c (PySem.mem_of_lookup h))
 ·have hi:i<vs.length:=by
   unfold start at h2
   by_cases hi:i<vs.length
   ·exact hi
   ·rw[List.getElem?_append_right (by simpa using hi)]at h2
    rw[List.getElem?_replicate]at h2
    split at h2<;>cases h2
  have ha:vs[i]?=some v:=by
   unfold start at h2;rw[List.getElem?_append_left (by simpa using hi),List.getElem?_map]at h2
   cases e:vs[i]? with
   | none=>rw[e]at h2;cases h2
   | some a=>rw[e]at h2;cases h2;rfl
  obtain⟨u,hu,rv⟩:=r.get ha;have hp:ps[i]?=some y:=by
   rw[<- S.pre,List.getElem?_take_of_lt ⋯];exact h1
  have ndP:ps.Nodup:=by rw[<- S.pre];exact S.nd.sublist (List.take_sublist _ _)
  refine⟨u,rv,?_⟩;rcases S.par y (List.mem_of_getElem? hp)with k|k
  ·exact .inl ⟨k,oS ndP hp hu k⟩
  ·obtain⟨c,e⟩:=tI (n:=s.heap.objs.size+1) k
   refine .inr ⟨.inl k,c,e,?_⟩;have q:=x.cell y c e;rw[oP ndP hp hu (by show scope.names.lookup y≠_;rw[k];decide)]at q
   exact q
 ·exact e0.bU.fresh (Nat.le_of_lt (x.above y c (PySem.mem_of_lookup h)))
 ·unfold start
  show _=N.length;rw[List.length_append,aaR,List.length_replicate];omega
theorem U8{CX:zJ}{P:Program}{w:World}{K:PySem.W.Frag}{mg:Str->Option Value}{base:Heap}{k:Nat}{f:Addr}{name qual:Str}{params:Arguments}{body:List Stmt}{scope:Scope}{dV kV doc pm jh ct oc:Value}{an od:Option Addr}
  {Ka:Array (Option Value)} {N ps:List Str} {sp:Sp} (lk:K.lookup f=some ⟨oc,od,.func (PySem.W.fnOf name qual params body scope dV kV doc pm an jh ct),Ka⟩) (qG:PySem.W.codeIn K jh qual=true) (S:aR N ps scope)
  (len:∀vs H Q E,sp vs H Q E->vs.length=ps.length)
  (Dy:∀(A:Around) (outer:List Env) (s:Shared) (H:Hp) (vs:List V) (Q:VK) (E:XK),iB k (A.deeper (envOfC qual scope s.heap.objs.size f jh))->sp vs H Q E ->
   ∃t,qe (qv CX P w K mg base N qual scope f jh A outer s H E) body t/\t {nx:=λ_ H'=>Q .bD H',rt:=Q} (start N vs) H):
  eI P w K mg base CX (k+1) f (PySem.W.fnOf name qual params body scope dV kV doc pm an jh ct) ps sp:=by
 refine⟨len,λA outer s H args us vs Q E hr e0 hb r J5=>?_⟩;have hl:=len _ _ _ _ J5;have KX:K.In s.heap:=e0.mod.kin.keeps λb o e=>(e0.bs b o e).1;have lim:s.heap.NoLimit:=e0.mod.nolimit.keeps λb o e=>(e0.bs b o e).1;have Vw:∀y∈ps.zip us,scope.names.lookup y.1=some .local\/(scope.names.lookup y.1=some .cell/\((cellsFrom (s.heap.objs.size+1) scope.names []).lookup y.1).isSome=true):=λ⟨n,v⟩ hy=>by
  rcases S.par n (List.of_mem_zip hy).1 with q|q
  ·exact .inl q
  ·exact .inr ⟨q,PySem.W.cellsFrom_some _ _ _ (.inl q)⟩
 refine codeAny_call_function hr.depth (KX _ _ lk) rfl S.co S.gen rfl (PySem.W.codeRec_of KX qG) (hb _ _ _ _ ?_);refine wpAny_newFunctionEnv_cells S.kind Vw λenv he s1 x=>?_;subst he;refine⟨lim.keeps x.toInCall.keep,codeAny_func ?_⟩;obtain⟨t,ht,hq⟩:=Dy A outer s H vs Q E (hr.deeper _) J5;have I:Inv (qv CX P w K mg base N qual scope f jh A outer s H E) [] (start N vs) H s1:=Al S hr.hd e0 hl r x;refine wpAny_mono (ht [] s1 (start N vs) H _ I hq) (λfl s' hs=>?_) λe s' hs=>hs;have fin:∀ {cq:St} {H':Hp} {v:V} {u:Value},Inv (qv CX P w K mg base N qual scope f jh A outer s H E) [] cq H' s'->RelV v u->Q v H'->CE outer P w H s Q u s':=
  λ{cq H' v u} J rv q=>⟨v,H',J.os,J.bare,J.base,J.bU,rv,q⟩
 cases fl with
 | ret u =>
  obtain⟨v,cq,H',J,rv,q⟩:=hs;exact fin J rv q
 | next =>
  obtain⟨cq,H',J,q⟩:=hs;exact fin (v:=V.bD) (u:=Value.none) J rfl q
 | brk =>
  obtain⟨_,_,_,q⟩:=hs;exact False.elim q
 | cont =>
  obtain⟨_,_,_,q⟩:=hs;exact False.elim q
end L2
namespace L2
open PySem PySem.Spec PyProof.Rows
section
variable {X:Cx}{x:Str}{p pos:Pos}{e:Expr}{es:List Expr}{t:TA}{id T:String}{r:List V->Hp->VK->Prop}
def tCB(r:List V->Hp->VK->Prop)(t:TA):TE:=λσ H Q=>t σ H λvs H1=>r vs H1 Q
theorem vt(hc:cK X (.builtin id) r)(hg:Gl X x)(hm:X.mg x=none)(hv:bootBuiltins x=some (.builtin id))(ha:PA X (e::es) t)(hn:x≠"__name__":=by decide)(uK:(x==("__debug__":Str))=false:=by decide)
  (he:starEach (e::es) X.env=(false,eval e X.env)::starEach es X.env:=by rfl) (fC:(backTo pos (starEach es X.env)).any (·.1)=false:=by rfl):PE X (.Call (.Name x p) (e::es) [] pos) (tCB r t):=by
 intro pins s σ H Q I h;refine wpAny_Call_Name_kw (gJ I hg hm hv ?_ hn uK);exact PyProof.Rows.callWith_builtin1 (cO (ha pos pins s σ H _ I h) λus s1 ⟨vs,H1,I1,r1,q1⟩=>hc pins s1 σ H1 vs us Q I1 r1 q1) he fC
theorem fL(hc:cK X (.type T) r)(hg:Gl X x)(hm:X.mg x=none)(hv:bootBuiltins x=some (.type T))(ha:PA X (e::es) t)(hn:x≠"__name__":=by decide)(uK:(x==("__debug__":Str))=false:=by decide)
  (he:starEach (e::es) X.env=(false,eval e X.env)::starEach es X.env:=by rfl) (fC:(backTo pos (starEach es X.env)).any (·.1)=false:=by rfl):PE X (.Call (.Name x p) (e::es) [] pos) (tCB r t):=by
 intro pins s σ H Q I h;refine wpAny_Call_Name_kw (gJ I hg hm hv ?_ hn uK);exact PyProof.Rows.callWith_type1 (cO (ha pos pins s σ H _ I h) λus s1 ⟨vs,H1,I1,r1,q1⟩=>hc pins s1 σ H1 vs us Q I1 r1 q1) he fC
end
end L2
namespace HT
open PySem PyProof.Rows
def lexLt:List Int->List Int->Bool
 | [],[]=>false
 | [],_::_=>true
 | _::_,[]=>false
 | x::xs,y::ys=>if x=y then lexLt xs ys else decide (x<y)
theorem cj(x y:Int)(xs ys:List Int):lexLt (x::xs) (y::ys)=if x=y then lexLt xs ys else decide (x<y):=rfl
theorem iO:lexLt [] []=false:=rfl
theorem eQ(y:Int)(ys:List Int):lexLt [] (y::ys)=true:=rfl
theorem eP(x:Int)(xs:List Int):lexLt (x::xs) []=false:=rfl
theorem tX(A:Around)(s:Shared)(a:Int)(t:Tok)(c:Int)(u:Tok):∃e,SeqAt.EqAt A s (.int a t) (.int c u) e/\(e=true ↔ a=c):=
 ⟨(a==c),SeqAt.EqAt.int_int a t c u,by simp⟩
theorem vH(A:Around)(s:Shared)(a:Int)(t:Tok)(c:Int)(u:Tok)(prog:Program)(w:World)(E:Value->Shared->Prop)(Q:Value->Shared->Prop)(h:Q (.bool (decide (a<c))) s):
  wpAny (model prog w) A (richCompare .Lt (.int a t) (.int c u)) Q E s:=
 (PyProof.Rows.lt_int h:wpAny (model prog w) A (compareOp .Lt (.int a t) (.int c u)) Q E s)
section
open PySem.SeqAt
open PySem.AutoSeq1 (wpAny_loadPart')
open PySem.MeetsSeq PySem.MeetsSeq2 PySem.MeetsSeq3
theorem oI(l b:Addr)(items fy:Array Value)(n n2:Nat)(dd z0:Option Addr)(sl E8:Array (Option Value))(ns ms:List Int)(hi:IntsAre items.toList ns)(hj:IntsAre fy.toList ms):
  Meets (Builtin.«tuple.__lt__» ⟨[.ref l,.ref b],[]⟩)
   (λ_ R s=>s.heap.get? l=some {cls:=.type "tuple",dict:=dd,data:=.seq items n,slots:=sl}/\s.heap.get? b=some {cls:=.type "tuple",dict:=z0,data:=.seq fy n2,slots:=E8} /\
    R (.ok (.ret (.bool (lexLt ns ms)))) s):=
 .of_wp λprog w A R s h=>by
  obtain⟨hp,g,d,tk,os⟩:=s;obtain⟨hl,hb,h⟩:=h;have f2:=AutoSeq1.sub_tuple_tuple;have z1:items.size=ns.length:=by rw[<- hi.length];simp
  have z2:fy.size=ms.length:=by rw[<- hj.length];simp
  wp_walk using wpAny_loadPart' hl,wpAny_loadPart' hb,wpAny_forIn_list _ (λrest b s'=>b.1=none/\s'=⟨hp,g,d,tk,os⟩/\∃(vs ws:List Value) (SW Gx:List Int),rest=vs.zip ws /\
   IntsAre vs SW/\IntsAre ws Gx/\SW.length+fy.size=Gx.length+items.size/\R (.ok (.ret (.bool (lexLt SW Gx)))) ⟨hp,g,d,tk,os⟩) _
  case turn =>
   rintro⟨y,x⟩ rest b s' ⟨lu,rfl,vs,ws,SW,Gx,hz,Z8,Yp,hlen,hR⟩;cases Z8 with
   | nil=>rw[List.zip_nil_left]at hz;cases hz
   | cons a t Z9 =>
    cases Yp with
    | nil=>rw[List.zip_nil_right]at hz;cases hz
    | cons c u aac =>
     rw[List.zip_cons_cons]at hz
     injection hz with hyx VH
     injection hyx with hy hx
     subst hy hx;rw[cj]at hR;simp only[List.length_cons]at hlen;obtain⟨e,he,DF⟩:=tX A.in1 ⟨hp,g,d,tk,os⟩ a t c u;refine aaO (he prog w _ _ ?_);cases e with
     | true =>
      rw[if_pos (DF.mp rfl)]at hR
      wp_walk
      exact⟨rfl,rfl,_,_,_,_,VH,Z9,aac,by omega,hR⟩
     | false =>
      rw[if_neg (λq=>absurd (DF.mpr q) Bool.false_ne_true)]at hR;have Yo:=vH A.in1 ⟨hp,g,d,tk,os⟩ a t c u prog w
      wp_walk using Yo
      exact⟨_,rfl,by simpa using hR⟩
  case fin =>
   rintro⟨b1,b2⟩ s' ⟨lu,rfl,vs,ws,SW,Gx,hz,Z8,Yp,hlen,hR⟩;simp only at lu;subst lu;have hv:lexLt SW Gx=decide (items.size<fy.size):=by
    cases Z8 with
    | nil =>
     cases Yp with
     | nil =>
      simp only[List.length_nil]at hlen;rw[iO];exact(decide_eq_false ⋯).symm
     | cons c u hw =>
      simp only[List.length_nil,List.length_cons]at hlen;rw[eQ];exact(decide_eq_true ⋯).symm
    | cons a t hv =>
     cases Yp with
     | nil =>
      simp only[List.length_nil,List.length_cons]at hlen;rw[eP];exact(decide_eq_false ⋯).symm
     | cons c u hw =>
      rw[List.zip_cons_cons]at hz;cases hz
   rw[hv]at hR
   wp_walk
   exact⟨_,rfl,by simpa [Builtin.Tuple.tupleCompareSizes]using hR⟩
  case h =>
   exact⟨rfl,rfl,items.toList,fy.toList,ns,ms,rfl,hi,hj,by omega,h⟩
end
section
variable {prog:Program}{w:World}{A:Around}{E:Value->Shared->Prop}{s:Shared}
theorem xr{l b:Addr}{items fy:Array Value}{ns ms:List Int}{Q:Value->Shared->Prop}(hl:IsTup s.heap l items)(hb:IsTup s.heap b fy)(hi:IntsAre items.toList ns)(hj:IntsAre fy.toList ms)
  (hu:A.units<cLine) (h:Q (.bool (lexLt ns ms)) s):wpAny (model prog w) A (compareOp .Lt (.ref l) (.ref b)) Q E s:=by
 obtain⟨⟨cls,dd,data,sl⟩,ho,hc,n,hd⟩:=id hl;obtain⟨⟨Y6,z0,data2,E8⟩,Hd,Dz,n2,hd2⟩:=id hb;simp only at hc hd Dz hd2;subst hc hd Dz hd2;exact richCompare_meets_room (op:=.Lt) ⟨_,ho,rfl⟩ ⟨_,Hd,rfl⟩ PySem.F.slot_tuple_lt PySem.F.entry_tuple_lt (PySem.F.args_tuple_lt_2 _ _) (oI l b items fy n n2 dd z0 sl E8 ns ms hi hj)
  ⟨ho,Hd,show Value.bool (lexLt ns ms)≠Value.notImplemented/\Q (.bool (lexLt ns ms)) s from⟨(λx=>nomatch x),h⟩⟩ hu
theorem GR{t b:Addr}{vs ws:List Value}{Q:Value->Shared->Prop}(ht:IsTup s.heap t vs.toArray)(hb:IsTup s.heap b ws.toArray)(hv:vs≠[])
  (h1:ws=[]->Q (.ref t) s) (h2:ws≠[]->Q (.ref s.heap.objs.size) {s with heap:=s.heap.push {cls:=.type "tuple",data:=.seq (vs++ws).toArray}})
  (hsz:vs.length+ws.length<=sizeLine):wpAny (model prog w) A (binaryOp .Add (.ref t) (.ref b)) Q E s:=by
 obtain⟨⟨cls,dd,data,sl⟩,ho,hc,n,hd⟩:=id ht;obtain⟨⟨Y6,z0,data2,E8⟩,Hd,Dz,n2,hd2⟩:=id hb;simp only at hc hd Dz hd2;subst hc hd Dz hd2;have e:vs.toArray++ws.toArray=(vs++ws).toArray:=by simp
 by_cases hw:ws=[]
 ·exact concat_meets ⟨_,ho,rfl⟩ ⟨_,Hd,rfl⟩ noFill_tuple_add seq_tuple_add PySem.F.slot_tuple_add PySem.F.entry_tuple_add (PySem.F.args_tuple_add_2 _ _)
   (tuple_addW1 t b vs.toArray ws.toArray n n2 dd z0 sl E8 (by simpa using hv) (by simp [hw])) ⟨ho,Hd,h1 hw⟩
 ·refine concat_meets ⟨_,ho,rfl⟩ ⟨_,Hd,rfl⟩ noFill_tuple_add seq_tuple_add PySem.F.slot_tuple_add PySem.F.entry_tuple_add (PySem.F.args_tuple_add_2 _ _)
   (tuple_addW2 t b vs.toArray ws.toArray n n2 dd z0 sl E8 (by simpa using hv) (by simpa using hw) (by rw[List.size_toArray,List.size_toArray];exact hsz)) ⟨ho,Hd,?_⟩
  rw[e];exact h2 hw
def dM(n d:Nat):Option Int->Nat
 | none=>d
 | some v=>if v<0 then(v+(n:Int)).toNat else min v.toNat n
theorem vO(n d:Nat):dM n d none=d:=rfl
theorem zf(n d k:Nat):dM n d (some (k:Int))=min k n:=by
 show(if(k:Int)<0 then((k:Int)+(n:Int)).toNat else min (k:Int).toNat n)=min k n
 rw[if_neg ⋯,Int.toNat_natCast]
theorem QE(n d:Nat)(hd:d<=n)(o:Option Int):dM n d o<=n:=by
 cases o with
 | none=>exact hd
 | some v =>
  show(if v<0 then(v+(n:Int)).toNat else min v.toNat n)<=n
  by_cases hv:v<0
  ·rw[if_pos hv];omega
  ·rw[if_neg hv];exact Nat.min_le_right _ _
theorem ym(v:Int)(n d:Nat):(if v<0 then max (v+(n:Int)) 0 else min v (n:Int))=((dM n d (some v):Nat):Int):=by
 show(if v<0 then max (v+(n:Int)) 0 else min v (n:Int))=(((if v<0 then(v+(n:Int)).toNat else min v.toNat n):Nat):Int)
 by_cases hv:v<0
 ·simp only[if_pos hv];omega
 ·simp only[if_neg hv];omega
theorem wN(lo hi:Option Int)(n:Nat):Builtin.Slice.sliceAdjust lo hi 1 (n:Int)=(((dM n 0 lo:Nat):Int),((dM n n hi:Nat):Int)):=by
 have h1:¬((1:Int)<0):=by omega
 unfold Builtin.Slice.sliceAdjust;simp only[h1,if_false];refine Prod.ext ?_ ?_
 ·cases lo with
  | none=>rfl
  | some v=>exact ym v n 0
 ·cases hi with
  | none=>rfl
  | some v=>exact ym v n n
theorem xD(i j:Nat):Builtin.Slice.slicePlaces (i:Int) (j:Int) 1=j-i:=by
 unfold Builtin.Slice.slicePlaces;have h1:(1:Int)>0:=by omega
 simp only[h1,if_true,Int.ediv_one]
 split<;>omega
theorem nJ{v:Value}{o:Option Int}{Q:Option Int->Shared->Prop}(p:IsPart v o)(h:Q o s):wpAny (model prog w) A (Builtin.Slice.slicePartIndex v) Q E s:=by
 cases p with
 | none=>exact slicePart_none h
 | int i t=>exact slicePart_int h
theorem kU{sl:Addr}{vl vu:Value}{lo hi:Option Int}{n:Nat}{Q:Int×Int×Nat->Shared->Prop}(hs:s.heap.IsSliceOf sl vl vu .none)(pl:IsPart vl lo)(pu:IsPart vu hi)
  (h:Q (((dM n 0 lo:Nat):Int),1,dM n n hi-dM n 0 lo) s):wpAny (model prog w) A (Builtin.Slice.sliceApplied (.ref sl) (pure (n:Int))) Q E s:=by
 obtain⟨os,VC,Gq,Yi⟩:=id hs;unfold Builtin.Slice.sliceApplied Builtin.Slice.sliceFields;refine aaO (aaO (wpAny_field VC Yi (x:=vl) rfl (aaO (wpAny_field VC Yi (x:=vu) rfl (aaO (wpAny_field VC Yi (x:=.none) rfl (wpAny_pure ?_)))))));refine aaO (slicePart_none ?_);show wpAny _ _ (if((1:Int)==0)=true then _ else _) _ _ s
 rw[if_neg ∅]
 refine aaO (nJ pl (aaO (nJ pu (aaO (wpAny_pure ?_)))));show wpAny _ _ (match Builtin.Slice.sliceAdjust lo hi 1 (n:Int)with | (lo,hi)=>pure (lo,(1:Int),Builtin.Slice.slicePlaces lo hi 1)) _ _ s
 rw[wN lo hi n];show wpAny _ _ (pure (((dM n 0 lo:Nat):Int),(1:Int),Builtin.Slice.slicePlaces ((dM n 0 lo:Nat):Int) ((dM n n hi:Nat):Int) 1)) _ _ s;rw[xD];exact wpAny_pure h
theorem Er(xs:Array Value)(i k:Nat):((List.range k).filterMap λ(m:Nat)=>xs[((i:Int)+(m:Int)*1).toNat]?).toArray=((xs.toList.drop i).take k).toArray:=by
 have e:(λ(m:Nat)=>xs[((i:Int)+(m:Int)*1).toNat]?)=λm=>xs[i+m]?:=by
  funext m;have:((i:Int)+(m:Int)*1).toNat=i+m:=by omega
  rw[this]
 rw[e];have:=pick_run xs i k;rw[List.filterMap_map]at this;have e2:((λx=>xs[x]?) ∘ λx=>i+x)=λm=>xs[i+m]?:=rfl;rw[e2]at this;rw[this]
theorem jq{t sl:Addr}{items:Array Value}{vl vu:Value}{lo hi:Option Int}{Q:Value->Shared->Prop}(ht:IsTup s.heap t items)(hs:s.heap.IsSliceOf sl vl vu .none)(pl:IsPart vl lo)(pu:IsPart vu hi)
  (hw:¬(dM items.size 0 lo=0/\dM items.size items.size hi=items.size))
  (h:Q (.ref s.heap.objs.size) {s with heap:=s.heap.push {cls:=.type "tuple",data:=.seq ((items.toList.drop (dM items.size 0 lo)).take (dM items.size items.size hi-dM items.size 0 lo)).toArray}})
  (hsz:items.size<=sizeLine):wpAny (model prog w) A (getItem (.ref t) (.ref sl)) Q E s:=by
 have yJ:sizeOk (.seq ((items.toList.drop (dM items.size 0 lo)).take (dM items.size items.size hi-dM items.size 0 lo)).toArray):=by
  show((items.toList.drop (dM items.size 0 lo)).take (dM items.size items.size hi-dM items.size 0 lo)).toArray.size<=sizeLine;rw[List.size_toArray,List.length_take,List.length_drop,Array.length_toList];omega
 have hj:dM items.size items.size hi<=items.size:=QE _ _ (Nat.le_refl _) hi;obtain⟨os,VC,Gq,Yi⟩:=id hs;have hTs:s.TypeIs (.ref sl) "slice":=⟨os,VC,Gq⟩;unfold getItem
 try with_reducible refine wpAny_holding ?_
 first|refine aaO (wpAny_pure ?_)|skip
 refine aaO (wpAny_sequenceKey ht.typeIs ∅ ?_)
 refine aaO (wpAny_callSpecial?_slot (name:=Str.ofString "__getitem__") ht.typeIs PyProof.Rows.slot_tuple_getitem
  (wpAny_call_entry PyProof.Rows.slot_tuple_getitem ht.typeIs entry_tuple_getitem ?_ (args_tuple_getitem _ _)))
 show wpAny _ _ (Builtin.Tuple.tupleItemsOf (.ref t) >>= _) _ _ s;refine aaO (tupleItemsOf_ ht ?_);refine aaO (wpAny_typeOf hTs ?_);rw[if_pos ∅]
 refine aaO (kU hs pl pu ?_);have hno:¬((((dM items.size 0 lo:Nat):Int)==0&&(1:Int)==1&&(dM items.size items.size hi-dM items.size 0 lo)==items.size)=true):=by
  intro q;rw[Bool.and_eq_true,Bool.and_eq_true]at q;have q1:((dM items.size 0 lo:Nat):Int)=0:=eq_of_beq q.1.1;have q2:dM items.size items.size hi-dM items.size 0 lo=items.size:=eq_of_beq q.2;exact hw ⟨by omega,by omega⟩
 show wpAny _ _ (if(((dM items.size 0 lo:Nat):Int)==0&&(1:Int)==1&&(dM items.size items.size hi-dM items.size 0 lo)==items.size)=true then _ else _) _ _ s
 rw[if_neg hno,Er]
 first
  | exact aaO (m:=Builtin.Tuple.tupleExact _) (wpAny_newObj_type (wpAny_pure ⟨_,rfl,wpAny_pure h⟩) yJ)
  | exact aaO (m:=Builtin.Tuple.tupleExact _) (wpAny_newObj_type (aaO (wpAny_pure (wpAny_pure ⟨_,rfl,wpAny_pure h⟩))) yJ)
  | exact aaO (aaO (m:=Builtin.Tuple.tupleExact _) (wpAny_newObj_type (wpAny_pure (wpAny_pure ⟨_,rfl,wpAny_pure h⟩)) yJ))
  | exact aaO (aaO (m:=Builtin.Tuple.tupleExact _) (wpAny_newObj_type (wpAny_pure ⟨_,rfl,wpAny_pure h⟩) yJ))
end
end HT
namespace L2
open PySem PySem.Spec PyProof.Rows
abbrev TO:=St->Hp->(Option Int->Hp->Prop)->Prop
def PO(X:Cx)(e:Option Expr)(t:TO):Prop:=
 ∀(pins:List (Addr×Obj)) (s:Shared) (σ:St) (H:Hp) (Q:Option Int->Hp->Prop),Inv X pins σ H s->t σ H Q ->
  wpAny (model X.prog X.w) X.A (evalPart e X.env) (λu s'=>∃o H',Inv X pins σ H' s'/\IsPart u o/\Q o H') X.xe s
def IP:TO:=λ_ H Q=>Q none H
def X5(t:TE):TO:=λσ H Q=>t σ H λx H1=>∃i,x=.int i/\Q (some i) H1
theorem intsAre_of{ns:List Int}:∀ {us:List Value},Vals (ns.map V.int) us->IntsAre us ns:=by
 induction ns with
 | nil=>intro us r;rw[List.map_nil]at r;cases r;exact .nil
 | cons n ns ih =>
  intro us r;rw[List.map_cons]at r;cases r with
  | cons r1 r2 =>
   obtain⟨t,e⟩:=r1;subst e;exact .cons n t (ih r2)
section
variable {X:Cx}{e:Expr}{te:TE}{lo hi:Option Expr}{tl th:TO}{pos p2:Pos}
theorem Ih:PO X none IP:=by
 intro pins s σ H Q I h;rw[evalPart_none];exact wpAny_pure ⟨none,H,I,.none,h⟩
theorem Ii(h:PE X e te):PO X (some e) (X5 te):=by
 intro pins s σ H Q I hw;rw[evalPart_some];refine cO (h pins s σ H _ I hw) λu s1 ⟨x,H1,I1,r1,q1⟩=>?_;obtain⟨i,rfl,q⟩:=q1;obtain⟨t,rfl⟩:=r1;exact⟨some i,H1,I1,.int i t,q⟩
def JH(X:Cx)(r:V->Option Int->Option Int->Hp->VK->Prop):Prop:=
 ∀(pins:List (Addr×Obj)) (s:Shared) (σ:St) (H:Hp) (x:V) (v vl vu:Value) (lo hi:Option Int) (sl:Addr) (Q:VK),Inv X pins σ H s->RelV x v->s.heap.IsSliceOf sl vl vu .none->IsPart vl lo->IsPart vu hi->r x lo hi H Q ->
  ∃T id,typeLookup (.type T) "__getitem__"=pure (some (.builtin id))/\s.TypeIs v T/\wpAny (model X.prog X.w) X.A (getItem v (.ref sl)) (EP X pins σ Q) X.xe s
theorem JH.or{r r':V->Option Int->Option Int->Hp->VK->Prop}(h:JH X r)(h':JH X r'):JH X (λx lo hi H Q=>r x lo hi H Q\/r' x lo hi H Q):=by
 intro pins s σ H x v vl vu lo hi sl Q I rx hs pl pu q;rcases q with q|q
 ·exact h pins s σ H x v vl vu lo hi sl Q I rx hs pl pu q
 ·exact h' pins s σ H x v vl vu lo hi sl Q I rx hs pl pu q
def tSl(r:V->Option Int->Option Int->Hp->VK->Prop)(te:TE)(tl th:TO):TE:=λσ H Q=>te σ H λx H1=>tl σ H1 λl H2=>th σ H2 λu H3=>r x l u H3 Q
theorem El{r:V->Option Int->Option Int->Hp->VK->Prop}(hr:JH X r)(he:PE X e te)(hl:PO X lo tl)(hu:PO X hi th):PE X (.Subscript e (.Slice lo hi none p2) pos) (tSl r te tl th):=by
 intro pins s σ H Q I h;refine Subscript_ (cO (he pins s σ H _ I h) λv s1 ⟨x,H1,I1,r1,q1⟩=>?_);refine wpAny_Slice (cO (hl pins s1 σ H1 _ I1 q1) λvl s2 ⟨l,H2,I2,pl,q2⟩=>cO (hu pins s2 σ H2 _ I2 q2) λvu s3 ⟨u,H3,I3,pu,q3⟩=>?_);rw[evalPart_none];refine wpAny_pure ?_;have I4:Inv X pins σ H3 {s3 with heap:=s3.heap.push {cls:=.type "slice",data:=.fields #[vl,vu,.none]}}:=I3.kept (t':=s3.toks) λb ob q=>aaP _ q
 obtain⟨T,id,hT,ht,hg⟩:=hr pins {s3 with heap:=s3.heap.push {cls:=.type "slice",data:=.fields #[vl,vu,.none]}} σ H3 x v vl vu l u s3.heap.objs.size Q I4 r1 (Heap.IsSliceOf.new ..) pl pu q3
 show wpAny (model X.prog X.w) X.A (subscriptTail e (.Slice lo hi none p2) v (.ref s3.heap.objs.size)) (EP X pins σ Q) X.xe {s3 with heap:=s3.heap.push {cls:=.type "slice",data:=.fields #[vl,vu,.none]}}
 exact tail_any (ops:=[.ref s3.heap.objs.size,v]) ht hT hg (by with_unfolding_all rfl)
def tK(xs:List V)(lo hi:Option Int):List V:=(xs.drop (HT.dM xs.length 0 lo)).take (HT.dM xs.length xs.length hi-HT.dM xs.length 0 lo)
theorem lr(xs:List V)(lo hi:Option Int):(tK xs lo hi).length<=xs.length:=by
 unfold tK;rw[List.length_take,List.length_drop];omega
def aar(K:PySem.W.Frag):V->Option Int->Option Int->Hp->VK->Prop:=λx lo hi H Q=>∃a xs,x=.ref a/\kq K H a xs /\
 ¬(HT.dM xs.length 0 lo=0/\HT.dM xs.length xs.length hi=xs.length)/\∀p,H p=none->Q (.ref p) (upd H p (.tup (tK xs lo hi)))
theorem Rt:JH X (aar X.K):=by
 intro pins s σ H x v vl vu lo hi sl Q I rx hs pl pu h;obtain⟨a,xs,rfl,hx,hw,q⟩:=h;cases rx;obtain⟨its,r,ht,hz⟩:=I.tuple hx;have hlen:its.toArray.size=xs.length:=by rw[List.size_toArray];exact r.length.symm
 refine⟨"tuple",_,PyProof.Rows.slot_tuple_getitem.lookup,ht.typeIs,?_⟩;refine HT.jq ht hs pl pu (by rw[hlen];exact hw) ?_ (by rw[hlen];exact hz)
 rw[hlen];refine⟨.ref s.heap.objs.size,_,I.laid (t':=s.toks) (o:=.tup (tK xs lo hi)) (λb ob q=>aaP _ q) (Nat.le_refl _) ?_,rfl,q _ (I.bU.fresh (Nat.le_refl _))⟩;exact⟨Nat.le_trans (lr xs lo hi) hz,_,(r.drop (HT.dM xs.length 0 lo)).take (HT.dM xs.length xs.length hi-HT.dM xs.length 0 lo),IsTup.new _ _⟩
def Ke(K:PySem.W.Frag):R2:=λx y H Q=>∃a b xs ys,x=.ref a/\y=.ref b/\kq K H a xs/\kq K H b ys/\xs≠[]/\xs.length+ys.length<=sizeLine /\
 (ys=[]->Q (.ref a) H)/\(ys≠[]->∀p,H p=none->Q (.ref p) (upd H p (.tup (xs++ys))))
theorem Vals.qX{xs:List V}{us:List Value}(r:Vals xs us):us=[] ↔ xs=[]:=by
 cases r with
 | nil=>simp
 | cons _ _=>simp
theorem HP:iU X (binaryOp .Add) (Ke X.K):=by
 intro pins s σ H x y v u Q I rx ry h;obtain⟨a,b,xs,ys,rfl,rfl,ha,hb,hx,hz,q1,q2⟩:=h;cases rx;cases ry;obtain⟨its,r1,p1,_⟩:=I.tuple ha;obtain⟨Nm,r2,p2,_⟩:=I.tuple hb;refine HT.GR p1 p2 (λz=>hx (r1.qX.mp z)) (λz=>⟨.ref a,H,I,rfl,q1 (r2.qX.mp z)⟩) (λz=>?_) (by rw[<- r1.length,<- r2.length];exact hz)
 refine⟨.ref s.heap.objs.size,_,I.laid (t':=s.toks) (o:=.tup (xs++ys)) (λb ob q=>aaP _ q) (Nat.le_refl _) ?_,rfl,q2 (λw=>z (r2.qX.mpr w)) _ (I.bU.fresh (Nat.le_refl _))⟩;exact⟨by rw[List.length_append];exact hz,_,r1.append r2,IsTup.new _ _⟩
end
end L2
namespace L2
open PySem PySem.Spec PyProof.Rows
def yN(n:Nat)(i:Int):Option Nat:=if 0<=i then(if i<n then some i.toNat else none)else if -(n:Int)<=i then some (i+n).toNat else none
def og{α:Type}(xs:List α)(i:Int):Option α:=(yN xs.length i).bind λj=>xs[j]?
theorem qP{n:Nat}{i:Int}{j:Nat}(h:yN n i=some j):seqIndex? i n=some j/\j<n/\-(n:Int)<=i/\i<n:=by
 unfold yN at h
 by_cases h0:0<=i
 ·rw[if_pos h0]at h
  by_cases h1:i<n
  ·rw[if_pos h1]at h
   have e:i.toNat=j:=Option.some.inj h;exact⟨by rw[seqIndex_of h0 h1,e],by omega,by omega,h1⟩
  ·rw[if_neg h1]at h;cases h
 ·rw[if_neg h0]at h
  by_cases h1:-(n:Int)<=i
  ·rw[if_pos h1]at h
   have e:(i+n).toNat=j:=Option.some.inj h;exact⟨by rw[seqIndex_neg ⋯ h1,e],by omega,h1,by omega⟩
  ·rw[if_neg h1]at h;cases h
theorem qj{α:Type}{xs:List α}{i:Int}{v:α}(h:og xs i=some v):∃j,seqIndex? i xs.length=some j/\xs[j]?=some v/\j<xs.length/\-(xs.length:Int)<=i/\i<xs.length:=by
 unfold og at h;cases e:yN xs.length i with
 | none=>rw[e]at h;cases h
 | some j =>
  rw[e]at h;obtain⟨h1,h2,h3,h4⟩:=qP e;exact⟨j,h1,h,h2,h3,h4⟩
def yh(b:Expr):Prop:=∀o i,subscripted b false o i=operate [o,i] (getItem o i)
def GH(X:Cx)(r:R2):Prop:=
 ∀(value slice:Expr) (pins:List (Addr×Obj)) (s:Shared) (σ:St) (H:Hp) (x y:V) (v u:Value) (Q:VK),Inv X pins σ H s->RelV x v->RelV y u->r x y H Q ->
  subscripted slice false v u=operate [v,u] (getItem v u)->wpAny (model X.prog X.w) X.A (subscriptTail value slice v u) (EP X pins σ Q) X.xe s
def MtR(X:Cx)(id:String)(r:V->List V->Hp->VK->Prop):Prop:=
 ∀(pins:List (Addr×Obj)) (s:Shared) (σ:St) (H:Hp) (x:V) (xs:List V) (v:Value) (us:List Value) (Q:VK),Inv X pins σ H s->RelV x v->Vals xs us->r x xs H Q ->
  wpAny (model X.prog X.w) X.A (call (.builtin id) (v::us)) (EP X pins σ Q) X.xe s
section
variable {X:Cx}{a b:Expr}{ta tb:TE}{pos:Pos}
theorem GH.or{r r':R2}(h:GH X r)(h':GH X r'):GH X (λx y H Q=>r x y H Q\/r' x y H Q):=by
 intro value slice pins s σ H x y v u Q I rx ry q hs;rcases q with q|q
 ·exact h value slice pins s σ H x y v u Q I rx ry q hs
 ·exact h' value slice pins s σ H x y v u Q I rx ry q hs
theorem W6{r:R2}(hr:GH X r)(ha:PE X a ta)(hb:PE X b tb)(hs:yh b):PE X (.Subscript a b pos) (S4 r ta tb):=by
 intro pins s σ H Q I h;exact Subscript_ (Le ha hb I h λv u s2 x y H2 I2 rx ry q=>hr a b pins s2 σ H2 x y v u Q I2 rx ry q (hs _ _))
def Xk(K:PySem.W.Frag):R2:=λx y H Q=>∃p xs i v,x=.ref p/\y=.int i/\gn K H p xs/\og xs i=some v/\Q v H
def Xm(K:PySem.W.Frag):R2:=λx y H Q=>∃p xs i v,x=.ref p/\y=.int i/\kq K H p xs/\og xs i=some v/\Q v H
def Xl:R2:=λx y H Q=>∃z i c,x=.str z/\y=.int i/\z.length<=sizeLine/\og z.cps.toList i=some c/\Q (.str ⟨#[c]⟩) H
theorem Hr:GH X (Xk X.K):=by
 intro value slice pins s σ H x y v u Q I rx ry h hs;obtain⟨p,xs,i,z,rfl,rfl,hq,he,q⟩:=h;cases rx;obtain⟨t,rfl⟩:=ry;obtain⟨its,r,pl,hz⟩:=I.list hq;obtain⟨j,h1,h2,h3,h4,h5⟩:=qj he;obtain⟨w,ew,E2⟩:=r.get h2;have hl:=r.length;have hn:=i9;have fin:EP X pins σ Q w s:=⟨z,H,I,E2,q⟩
 by_cases h0:0<=i
 ·have hj:i.toNat=j:=by
   rw[seqIndex_of h0 h5]at h1;exact Option.some.inj h1
  exact item_listR pl.isList h0 ⋯ (by rw[hj];simpa using ew) fin hs
 ·have hj:(i+(its.toArray.size:Int)).toNat=j:=by
   rw[seqIndex_neg ⋯ h4]at h1
   rw[List.size_toArray,<- hl];exact Option.some.inj h1
  exact subscriptTail_builtinR (x:=w) pl.isList.typeIs slot_list_getitem.lookup
   (wpAny_getItem_list_neg (Q:=λr s'=>r=w/\EP X pins σ Q r s') pl.isList ⋯ (by rw[List.size_toArray]<;>omega) ⋯ (by rw[hj];simpa using ew) ⟨rfl,fin⟩) hs
theorem Nu:GH X (Xm X.K):=by
 intro value slice pins s σ H x y v u Q I rx ry h hs;obtain⟨p,xs,i,z,rfl,rfl,hq,he,q⟩:=h;cases rx;obtain⟨t,rfl⟩:=ry;obtain⟨its,r,pl,hz⟩:=I.tuple hq;obtain⟨j,h1,h2,h3,h4,h5⟩:=qj he;obtain⟨w,ew,E2⟩:=r.get h2;have hl:=r.length;have hn:=i9;have fin:EP X pins σ Q w s:=⟨z,H,I,E2,q⟩;exact subscriptTail_builtinR (x:=w) pl.typeIs slot_tuple_getitem.lookup
  (getItem_tuple (j:=j) (Q:=λr s'=>r=w/\EP X pins σ Q r s') pl ⋯ ⋯ (by rw[List.size_toArray,<- hl];exact h1) (by simpa using ew) ⟨rfl,fin⟩) hs
theorem Nt:GH X Xl:=by
 intro value slice pins s σ H x y v u Q I rx ry h hs;obtain⟨z,i,c,rfl,rfl,hz,he,q⟩:=h;obtain⟨t,rfl⟩:=rx;obtain⟨t',rfl⟩:=ry;obtain⟨j,h1,h2,h3,h4,h5⟩:=qj he;have hl:z.cps.toList.length=z.length:=by simp [Str.length]
 rw[hl]at h1 h4 h5;have hn:=i9;exact tail_any (typeIs_str s z t) slot_str_getitem.lookup (getItem_str (c:=c) (by
  have e1:decide (i < -(2^63:Int))=false:=decide_eq_false ⋯
  have e2:decide (i>=2^63)=false:=decide_eq_false ⋯
  rw[e1,e2,Bool.or_false]) (by rw[h1];simpa using h2) ⟨.str ⟨#[c]⟩,H,I.tok _,⟨_,rfl⟩,q⟩) hs
def rIx(K:PySem.W.Frag):R2:=λx y H Q=>Xk K x y H Q\/Xm K x y H Q\/Xl x y H Q
theorem Nr:GH X (rIx X.K):=Hr.or (Nu.or Nt)
theorem xt(its:List Value)(n j:Nat)(u:Value):Obj.mapSeq (·.setIfInBounds j u) {cls:=.type "list",data:=.seq its.toArray n}={cls:=.type "list",data:=.seq (its.set j u).toArray n}:=by
 simp [Obj.mapSeq]
theorem Inv.lst{pins:List (Addr×Obj)}{σ:St}{H:Hp}{s:Shared}{p:Addr}{xs:List V}(I:Inv X pins σ H s)(h:H p=some (.lst xs)):
  ∃(its:List Value) (n:Nat),Vals xs its/\s.heap.get? p=some {cls:=.type "list",data:=.seq its.toArray n}/\xs.length<=sizeLine:=by
 obtain⟨z,its,n,r,e⟩:=I.bU p _ h;exact⟨its,n,r,e,z⟩
theorem Inv.N7{pins:List (Addr×Obj)}{σ:St}{H:Hp}{s:Shared}{p:Addr}{xs ys:List V}{its its':List Value}{n n':Nat}{f:Obj->Obj}(I:Inv X pins σ H s)(h:H p=some (.lst xs))
  (ho:s.heap.get? p=some {cls:=.type "list",data:=.seq its.toArray n}) (hf:f {cls:=.type "list",data:=.seq its.toArray n}={cls:=.type "list",data:=.seq its'.toArray n'}) (r:Vals ys its') (hz:ys.length<=sizeLine) (t:Nat):
  Inv X pins σ (upd H p (.lst ys)) {s with heap:=s.heap.update p f,toks:=t}:=by
 have e:(s.heap.update p f).get? p=some {cls:=.type "list",data:=.seq its'.toArray n'}:=by
  rw[Heap.get?_update_self f ho (by rw[hf]<;>rfl),hf]
 refine I.write (x:=p) (e:=p) (by rw[h];trivial) (.inl rfl) (λb u hb q=>(Heap.get?_update_other _ _ (Ne.symm hb)).trans q) ⟨_,e⟩ ?_
 exact⟨hz,its',n',r,e⟩
def Xo:V->V->V->Hp->(Hp->Prop)->Prop:=λo i v H Q=>∃p xs k j,o=.ref p/\i=.int k/\H p=some (.lst xs)/\yN xs.length k=some j/\Q (upd H p (.lst (xs.set j v)))
theorem set_list:Ts X Xo:=by
 intro pins s σ H o i v ov iv u Q I ro ri rv h;obtain⟨p,xs,k,j,rfl,rfl,hp,hj,q⟩:=h;cases ro;obtain⟨t,rfl⟩:=ri;obtain⟨its,n,r,ho,hz⟩:=I.lst hp;obtain⟨h1,h2,h3,h4⟩:=qP hj;have hl:=r.length;have hn:=i9;have I':Inv X pins σ (upd H p (.lst (xs.set j v))) {s with heap:=s.heap.update p (Obj.mapSeq (·.setIfInBounds j u))}:=
  I.N7 hp ho (xt its n j u) (r.set rv j) (by rw[List.length_set];exact hz) s.toks
 by_cases h0:0<=k
 ·have hk:k.toNat=j:=by
   rw[seqIndex_of h0 h4]at h1;exact Option.some.inj h1
  exact PySem.W.ki_setAt ho h0 ⋯ (by rw[List.size_toArray,<- hl];exact h4) (by rw[hk];exact⟨_,I',q⟩)
 ·have hk:(k+(its.toArray.size:Int)).toNat=j:=by
   rw[seqIndex_neg ⋯ h3]at h1
   rw[List.size_toArray,<- hl];exact Option.some.inj h1
  exact PySem.W.ki_setBack ho ⋯ (by rw[List.size_toArray,<- hl];exact h3) ⋯ (by rw[hk];exact⟨_,I',q⟩)
theorem rV(lo hi:Option Int)(n:Nat):(sliceBounds lo hi none n).1=((HT.dM n 0 lo:Nat):Int)/\(sliceBounds lo hi none n).2.1=((HT.dM n n hi:Nat):Int)/\(sliceBounds lo hi none n).2.2=1:=by
 refine⟨?_,?_,rfl⟩
 ·cases lo with
  | none=>simp [sliceBounds,HT.dM]
  | some i =>
   simp only[sliceBounds,HT.dM,Option.getD_none,show(1:Int)>0 by decide,if_true]
   by_cases h:i<0
   ·simp only[h,if_true]<;>omega
   ·simp only[h,if_false]<;>omega
 ·cases hi with
  | none=>simp [sliceBounds,HT.dM]
  | some i =>
   simp only[sliceBounds,HT.dM,Option.getD_none,show(1:Int)>0 by decide,if_true]
   by_cases h:i<0
   ·simp only[h,if_true]<;>omega
   ·simp only[h,if_false]<;>omega
theorem oF(its:List Value)(lo hi:Option Int):slicePick its.toArray lo hi none=((its.drop (HT.dM its.length 0 lo)).take (HT.dM its.length its.length hi-HT.dM its.length 0 lo)).toArray:=by
 obtain⟨h1,h2,h3⟩:=rV lo hi its.toArray.size;unfold slicePick;rw[h1,h2,h3];simp only[sliceRange_one,pick_run,List.size_toArray]<;>rfl
def aaq(K:PySem.W.Frag):V->Option Int->Option Int->Hp->VK->Prop:=λx lo hi H Q=>∃a xs,x=.ref a/\gn K H a xs/\∀p,H p=none->Q (.ref p) (upd H p (.lst (tK xs lo hi)))
theorem IH:JH X (aaq X.K):=by
 intro pins s σ H x v vl vu lo hi sl Q I rx hs pl pu h;obtain⟨a,xs,rfl,hx,q⟩:=h;cases rx;obtain⟨its,r,ht,hz⟩:=I.list hx;have hlen:=r.length;refine⟨"list",_,slot_list_getitem.lookup,ht.isList.typeIs,?_⟩;refine wpAny_getItem_list_slice ht.isList hs pl pu .none (by simp) ?_ (by rw[List.size_toArray]<;>omega)
 rw[oF,<- hlen];refine⟨.ref s.heap.objs.size,_,I.laid (t':=s.toks) (o:=.lst (tK xs lo hi)) (λb ob q=>aaP _ q) (Nat.le_refl _) ?_,rfl,q _ (I.bU.fresh (Nat.le_refl _))⟩;exact⟨Nat.le_trans (lr xs lo hi) hz,_,0,(r.drop (HT.dM xs.length 0 lo)).take (HT.dM xs.length xs.length hi-HT.dM xs.length 0 lo),Heap.get?_push_size _ rfl⟩
theorem qk:cK X (.builtin "len") (λxs H Q=>∃p ys,xs=[.ref p]/\(gn X.K H p ys\/kq X.K H p ys)/\Q (.int ys.length) H):=by
 intro pins s σ H xs us Q I r h;obtain⟨p,ys,rfl,hq,q⟩:=h;obtain⟨u,rfl,rx⟩:=vals1 r;cases rx;have hn:=i9;rcases hq with hq|hq
 ·obtain⟨its,r',pl,hz⟩:=I.list hq
  have hlen:=r'.length;exact Calls.call_len_list pl.isList (by simp only[List.size_toArray]<;>omega) ⟨.int ys.length,H,I.tok _,⟨s.toks+1,by rw[List.size_toArray,hlen]⟩,q⟩
 ·obtain⟨its,r',pl,hz⟩:=I.tuple hq
  have hlen:=r'.length;exact len_tuple pl (by simp only[List.size_toArray]<;>omega) ⟨.int ys.length,H,I.tok _,⟨s.toks+1,by rw[List.size_toArray,hlen]⟩,q⟩
theorem ql:cK X (.builtin "len") (λxs H Q=>∃z,xs=[.str z]/\z.length<=sizeLine/\Q (.int z.length) H):=by
 intro pins s σ H xs us Q I r h;obtain⟨z,rfl,hz,q⟩:=h;obtain⟨u,rfl,t,rfl⟩:=vals1 r;have hn:=i9;exact len_str ⋯ ⟨.int z.length,H,I.tok _,⟨_,rfl⟩,q⟩
theorem cK.or{f:Value}{r r':List V->Hp->VK->Prop}(h:cK X f r)(h':cK X f r'):cK X f (λxs H Q=>r xs H Q\/r' xs H Q):=by
 intro pins s σ H xs us Q I rs q;rcases q with q|q
 ·exact h pins s σ H xs us Q I rs q
 ·exact h' pins s σ H xs us Q I rs q
theorem qm:cK X (.type "list") (λxs H Q=>∃p ys,xs=[.ref p]/\(gn X.K H p ys\/kq X.K H p ys)/\∀l,H l=none->Q (.ref l) (upd H l (.lst ys))):=by
 intro pins s σ H xs us Q I r h;obtain⟨p,ys,rfl,hq,q⟩:=h;obtain⟨u,rfl,rx⟩:=vals1 r;cases rx;have fin:∀(its:List Value),Vals ys its->ys.length<=sizeLine->∀(h':Heap) (c':Nat),(∀b o',s.heap.get? b=some o'->h'.get? b=some o') ->
   h'.get? s.heap.objs.size=some {cls:=.type "list",dict:=none,data:=.seq its.toArray c',slots:=#[]}->EP X pins σ Q (.ref s.heap.objs.size) {s with heap:=h'}:=λits r' hz h' c' kp e =>
  ⟨.ref s.heap.objs.size,_,I.laid (t':=s.toks) kp (Nat.le_refl _) (show cu X.prog X.w _ h' _ (.lst ys)from⟨hz,its,c',r',e⟩),rfl,q _ (I.bU.fresh (Nat.le_refl _))⟩
 rcases hq with hq|hq
 ·obtain⟨its,r',pl,hz⟩:=I.list hq
  have hlen:=r'.length;obtain⟨o,ho,hc,n,hd⟩:=pl.isList;exact call_list_seq p (.inl rfl) ho hc hd (λh' c' kp e=>fin its r' hz h' c' kp e) (by simp only[List.size_toArray]<;>omega)
 ·obtain⟨its,r',pl,hz⟩:=I.tuple hq
  have hlen:=r'.length;obtain⟨o,ho,hc,n,hd⟩:=pl;exact call_list_seq p (.inr rfl) ho hc hd (λh' c' kp e=>fin its r' hz h' c' kp e) (by simp only[List.size_toArray]<;>omega)
theorem oA:cK X (.type "tuple") (λxs H Q=>∃p ys,xs=[.ref p]/\((gn X.K H p ys/\∀l,H l=none->Q (.ref l) (upd H l (.tup ys)))\/(kq X.K H p ys/\Q (.ref p) H))):=by
 intro pins s σ H xs us Q I r h;obtain⟨p,ys,rfl,h⟩:=h;obtain⟨u,rfl,rx⟩:=vals1 r;cases rx;rcases h with⟨hq,q⟩|⟨hq,q⟩
 ·obtain⟨its,r',pl,hz⟩:=I.list hq
  have hlen:=r'.length;refine call_tuple_list pl.isList (λh' kp=>?_) (by simp only[List.size_toArray]<;>omega)
  have I1:Inv X pins σ H {s with heap:=h'}:=I.kept (t':=s.toks) kp
  have I2:Inv X pins σ (upd H h'.objs.size (.tup ys)) {s with heap:=h'.push {cls:=.type "tuple",data:=.seq its.toArray}}:=
   I1.laid (t':=s.toks) (λb o e=>aaP _ e) (Nat.le_refl _) (show cu X.prog X.w _ _ _ (.tup ys)from⟨hz,its,r',IsTup.new _ _⟩)
  exact⟨.ref h'.objs.size,_,I2,rfl,q _ (I1.bU.fresh (Nat.le_refl _))⟩
 ·obtain⟨its,r',pl,hz⟩:=I.tuple hq
  exact call_tuple_same pl ⟨.ref p,H,I,rfl,q⟩
def tyV(K:PySem.W.Frag)(T:String)(x:V)(H:Hp):Prop:=match x with
 | .str _=>T="str"
 | .int _=>T="int"
 | .ref p=>(T="list"/\∃xs,gn K H p xs)\/(T="tuple"/\∃o,K.lookup p=some o/\o.cls=.type "tuple"/\o.dict=none) \/
   (T="dict"/\((∃kvs,H p=some (.dK kvs))\/∃kvs,H p=some (.dT kvs)))\/(T="set"/\∃S n,H p=some (.set S n))
 | _=>False
theorem FO{pins:List (Addr×Obj)}{σ:St}{H:Hp}{s:Shared}{T:String}{x:V}{v:Value}(I:Inv X pins σ H s)(r:RelV x v)(ty:tyV X.K T x H):
  s.TypeIs v T/\∀a,v=.ref a->∃ob,s.heap.get? a=some ob/\ob.dict=none:=by
 cases x with
 | str z =>
  obtain⟨t,rfl⟩:=r;cases(show T="str" from ty)
  exact⟨typeIs_str s z t,λ_ e=>nomatch e⟩
 | int i =>
  obtain⟨t,rfl⟩:=r;cases(show T="int" from ty)
  exact⟨typeIs_int s i t,λ_ e=>nomatch e⟩
 | ref p =>
  cases r;rcases ty with⟨rfl,xs,hq⟩|⟨rfl,o,hk,hc,hd⟩|⟨rfl,hk⟩|⟨rfl,S,n,hk⟩
  ·obtain⟨its,_,pl,_⟩:=I.list hq
   refine⟨pl.isList.typeIs,λa e=>?_⟩;cases e;obtain⟨o,n,e,c,hd,_⟩:=pl;exact⟨o,e,hd⟩
  ·refine⟨⟨o,I.SU p o hk,hc⟩,λa e=>?_⟩
   cases e;exact⟨o,I.SU _ o hk,hd⟩
  ·have z:∃o,s.heap.get? p=some o/\o.ExactDict:=by
    rcases hk with⟨kvs,hk⟩|⟨kvs,hk⟩
    ·obtain⟨_,_,_,_,o,_,_,e,ex,_⟩:=I.bU p _ hk
     exact⟨o,e,ex⟩
    ·obtain⟨_,_,_,_,o,_,_,e,ex,_⟩:=I.bU p _ hk
     exact⟨o,e,ex⟩
   obtain⟨o,e,ex⟩:=z;refine⟨⟨o,e,ex.1⟩,λa e2=>?_⟩;cases e2;exact⟨o,e,ex.2.1⟩
  ·obtain⟨o,_,_,_,e,ex,_⟩:=I.bU p _ hk
   refine⟨⟨o,e,ex.1⟩,λa e2=>?_⟩;cases e2;exact⟨o,e,ex.2.1⟩
 | _=>exact False.elim ty
def aaw(K:PySem.W.Frag)(T:String)(r:V->List V->Hp->VK->Prop)(to:TE):TE:=λσ H Q=>to σ H λx H1=>tyV K T x H1/\r x [] H1 Q
def tBM(K:PySem.W.Frag)(T:String)(r:V->List V->Hp->VK->Prop)(to:TE)(t:TA):TE:=λσ H Q=>to σ H λx H1=>tyV K T x H1/\t σ H1 λxs H2=>r x xs H2 Q
variable {o e:Expr}{es:List Expr}{to:TE}{t:TA}{name:Str}{apos cpos:Pos}{T id:String}{r:V->List V->Hp->VK->Prop}
theorem PB(pa:PlainAttrs T)(slot:Slot T name id)(Z7:typeOf (.builtin id)=pure (.type "method_descriptor"))(hm:MtR X id r)(ho:PE X o to)
  (Dx:attributeBase o name X.env (eval o X.env)=eval o X.env:=by rfl) (hline:(apos.endLine==cpos.line)=true:=by rfl):PE X (.Call (.Attribute o name apos) [] [] cpos) (aaw X.K T r to):=by
 intro pins s σ H Q I h;refine wpAny_Call_method0_late Dx hline (cO (ho pins s σ H _ I h) λv s1 ⟨x,H1,I1,r1,ty,q1⟩=>?_);obtain⟨h1,h2⟩:=FO I1 r1 ty;exact⟨T,id,pa,slot,Z7,h1,h2,Calls.callWith_builtin rfl (PySem.evalArgs_none (hm pins s1 σ H1 x [] v [] Q I1 r1 .nil q1))⟩
theorem vq(pa:PlainAttrs T)(slot:Slot T name id)(Z7:typeOf (.builtin id)=pure (.type "method_descriptor"))(hm:MtR X id r)(ho:PE X o to)(ha:PA X (e::es) t)
  (Dx:attributeBase o name X.env (eval o X.env)=eval o X.env:=by rfl)
  (DB:((backTo cpos (starEach (e::es) X.env)).all (λx=>!x.1)&&(backToKw cpos (keywordEach [] X.env)).all (λx=>x.1.isSome)
  &&decide ((e::es).length+([]:List Keyword).length+(if([]:List Keyword).isEmpty then 0 else 1)<30))=true:=by rfl)
  (hline:(apos.endLine==cpos.line)=true:=by rfl) (hs:starEach (e::es) X.env=(false,eval e X.env)::starEach es X.env:=by rfl) (M1:(backTo cpos (starEach es X.env)).any (·.1)=false:=by rfl):
  PE X (.Call (.Attribute o name apos) (e::es) [] cpos) (tBM X.K T r to t):=by
 intro pins s σ H Q I h;refine wpAny_Call_method_late Dx DB hline rfl (cO (ho pins s σ H _ I h) λv s1 ⟨x,H1,I1,r1,ty,q1⟩=>?_);obtain⟨h1,h2⟩:=FO I1 r1 ty;refine⟨T,id,pa,slot,Z7,h1,h2,?_⟩;have hA:=ha cpos pins s1 σ H1 _ I1 q1;rw[hs]at hA ⊢;refine Calls.callWith_builtin (by show(false||(backTo cpos (starEach es X.env)).any (·.1))=false;rw[M1]<;>rfl) (Calls.evalArgs_plain ?_)
 exact cO hA λus s2 ⟨vs,H2,I2,r2,q2⟩=>hm pins s2 σ H2 x vs v us Q I2 r1 r2 q2
end
end L2
namespace L2
open PySem PySem.Spec PyProof.Rows
def Tp(X:Cx)(id:String)(r:V->List V->Hp->VK->Prop):Prop:=
 ∀(pins:List (Addr×Obj)) (s:Shared) (σ:St) (H:Hp) (x:V) (xs:List V) (v:Value) (us:List Value) (Q:VK),Inv X pins σ H s->RelV x v->Vals xs us->r x xs H Q ->
  wpAny (model X.prog X.w) X.A (call (.builtin id) (v::us)) (EP X pins σ Q) X.xe s
theorem Vals.one:∀ {x:V} {us:List Value},Vals [x] us->∃u,us=[u]/\RelV x u
 | _,_,.cons r .nil=>⟨_,rfl,r⟩
theorem Vals.two:∀ {x y:V} {us:List Value},Vals [x,y] us->∃u v,us=[u,v]/\RelV x u/\RelV y v
 | _,_,_,.cons r (.cons q .nil)=>⟨_,_,rfl,r,q⟩
theorem Vals.zero:∀ {us:List Value},Vals [] us->us=[]
 | _,.nil=>rfl
theorem Vals.eraseIdx:∀ {xs:List V} {us:List Value} (i:Nat),Vals xs us->Vals (xs.eraseIdx i) (us.eraseIdx i)
 | _,_,_,.nil=>.nil
 | _,_,0,.cons _ t=>t
 | _,_,i+1,.cons r t=>.cons r (Vals.eraseIdx i t)
theorem Vals.rep{xs:List V}{us:List Value}(h:Vals xs us):∀k:Nat,Vals (List.replicate k xs).flatten (List.replicate k us).flatten
 | 0=>.nil
 | k+1=>by
  rw[List.replicate_succ,List.replicate_succ,List.flatten_cons,List.flatten_cons];exact Vals.append h (Vals.rep h k)
theorem pE{α:Type}:∀(l:List α) (i:Nat),(l.eraseIdx i).length<=l.length
 | [],_=>Nat.le_refl _
 | _::_,0=>Nat.le_succ _
 | _::r,i+1=>Nat.succ_le_succ (pE r i)
theorem foldl_rep(its:List Value):∀(k:Nat) (acc:List Value),
  List.foldl (λx1 x2=>x1++x2) acc.toArray (List.replicate k its.toArray)=(acc++(List.replicate k its).flatten).toArray
 | 0,acc=>by simp
 | k+1,acc=>by
  have e:acc.toArray++its.toArray=(acc++its).toArray:=by simp
  have e2:(acc++its)++(List.replicate k its).flatten=acc++(List.replicate (k+1) its).flatten:=by
   rw[List.replicate_succ,List.flatten_cons,List.append_assoc]
  rw[<- e2,<- foldl_rep its k (acc++its),<- e,List.replicate_succ,List.foldl_cons]
section
variable {X:Cx}{pins:List (Addr×Obj)}{σ:St}{H:Hp}{s:Shared}{l b:Addr}{xs ys zs:List V}
theorem Inv.Wd{its its':List Value}{n:Nat}{f:Array Value->Array Value}{t':Nat}(I:Inv X pins σ H s)(hH:H l=some (.lst xs))
  (e:s.heap.get? l=some {cls:=.type "list",data:=.seq its.toArray n}) (hf:f its.toArray=its'.toArray) (hv:Vals ys its') (hz:ys.length<=sizeLine):
  Inv X pins σ (upd H l (.lst ys)) {s with heap:=s.heap.update l (Obj.mapSeq f),toks:=t'}:=by
 have q:=PySem.IsL.update e f;rw[hf]at q;refine I.write (x:=l) (e:=l) (by rw[hH];exact trivial) (.inl rfl) (λb' u hb hu=>(Heap.get?_update_other s.heap (Obj.mapSeq f) (Ne.symm hb)).trans hu) ⟨_,q⟩ ?_
 exact⟨hz,its',_,hv,q⟩
theorem Inv.N6{its:List Value}{t':Nat}(I:Inv X pins σ H s)(hv:Vals ys its)(hz:ys.length<=sizeLine):
  Inv X pins σ (upd H s.heap.objs.size (.lst ys)) {s with heap:=s.heap.push {cls:=.type "list",data:=.seq its.toArray},toks:=t'}:=
 I.laid (λ_ _ q=>aaP _ q) (Nat.le_refl _) ⟨hz,its,0,hv,Heap.get?_push_size _ rfl⟩
theorem Inv.fresh(I:Inv X pins σ H s):H s.heap.objs.size=none:=I.bU.fresh (Nat.le_refl _)
theorem Inv.Wf(I:Inv X pins σ H s)(hH:H l=some (.lst xs)):xs.length<=sizeLine/\∃(its:List Value) (n:Nat),Vals xs its/\xs.length=its.length/\s.heap.get? l=some {cls:=.type "list",data:=.seq its.toArray n}:=by
 obtain⟨z,its,n,r,e⟩:=I.bU l _ hH;exact⟨z,its,n,r,r.length,e⟩
theorem D7{n:Nat}(h:n<=sizeLine):Builtin.List.listTooLong n=false:=by
 unfold Builtin.List.listTooLong;exact decide_eq_false ⋯
end
section
variable {X:Cx}
def Iu:V->List V->Hp->VK->Prop:=λx vs H Q=>∃l xs y,x=.ref l/\vs=[y]/\H l=some (.lst xs)/\xs.length<sizeLine/\Q .bD (upd H l (.lst (xs++[y])))
theorem kN:Tp X "list.append" Iu:=by
 intro pins s σ H x vs v us Q I rx rv h;obtain⟨l,xs,y,rfl,rfl,hH,hz,q⟩:=h;cases rx;obtain⟨u,rfl,ru⟩:=rv.one;obtain⟨z,its,n,r,hl,e⟩:=I.Wf hH;refine call_meets F.slot_list_append ⟨_,e,rfl⟩ F.entry_list_append (F.args_list_append_2 _ _) (PySem.list_append l its.toArray n u (by rw[List.size_toArray];omega)) ⟨e,?_⟩
 refine⟨.bD,_,I.Wd (its':=its++[u]) hH e (by simp) (r.append (.cons ru .nil)) ?_,rfl,q⟩
 rw[List.length_append,List.length_singleton];omega
def Qv:V->List V->Hp->VK->Prop:=λx vs H Q=>∃l xs i k y,x=.ref l/\vs=[.int i]/\H l=some (.lst xs)/\-(2^63)<=i/\i<2^63/\seqIndex? i xs.length=some k/\xs[k]?=some y/\Q y (upd H l (.lst (xs.eraseIdx k)))
theorem DY:Tp X "list.pop" Qv:=by
 intro pins s σ H x vs v us Q I rx rv h;obtain⟨l,xs,i,k,y,rfl,rfl,hH,h1,h2,hk,hy,q⟩:=h;cases rx;obtain⟨u,rfl,ru⟩:=rv.one;obtain⟨t,rfl⟩:=ru;obtain⟨z,its,n,r,hl,e⟩:=I.Wf hH;obtain⟨w,hw,E2⟩:=r.get hy;refine call_meets F.slot_list_pop ⟨_,e,rfl⟩ F.entry_list_pop (F.args_list_pop_2 _ _)
  (MeetsSeq.list_pop_at l its.toArray n i t k w (fitsIndex_both h1 h2) (by rw[List.size_toArray,<- hl];exact hk) (by rw[<- Array.getElem?_toList];exact hw) (by rw[List.size_toArray];omega)) ⟨e,?_⟩
 refine⟨y,_,I.Wd (its':=its.eraseIdx k) hH e ?_ (r.eraseIdx k) ?_,E2,q⟩
 ·show its.toArray.eraseIdxIfInBounds k=(its.eraseIdx k).toArray
  rw[List.eraseIdxIfInBounds_toArray]
 ·have:=pE xs k
  omega
theorem len_rep{α:Type}(xs:List α)(k:Nat):(List.replicate k xs).flatten.length=k*xs.length:=by
 induction k with
 | zero=>simp
 | succ k ih=>rw[List.replicate_succ,List.flatten_cons,List.length_append,ih,Nat.succ_mul,Nat.add_comm]
end
end L2
namespace Att
open PySem PySem.W PySem.Calls PyProof.Rows
theorem lR{P:Params}{h:Heap}:∀(ns:List Int) (vs:List Value),WellAll P h vs (ns.map WData.int)->IntsAre vs ns:=by
 intro ns
 induction ns with
 | nil =>
  intro vs w;rw[List.map_nil]at w;cases w;exact .nil
 | cons n ns ih =>
  intro vs w;rw[List.map_cons]at w;cases w with
  | cons a b =>
   cases a;exact .cons _ _ (ih _ b)
theorem AX{l:OpenLaw}{n:Nat}(hn:l.most=some n){P:Params}{h:Heap}{args:List WData}{vals:List Value}
  (Ah:l.row.toRowW.claim.pre args=true) (VM:WellAll P h vals args):
  ∃a vs ns,vals=[Value.ref a]/\args=[WData.list (ns.map WData.int)]/\h.get? a=some {cls:=.type "list",data:=.seq vs.toArray}/\IntsAre vs ns/\ns.length<=n:=by
 have hsh:WShape.hasAll [] args [.list .int]=true:=(pre_splitW Ah).1;have hc:l.pre.holds [] {args:=args}=true:=(pre_splitW Ah).2;obtain⟨d,r,rfl,h1,h2⟩:=hasAllW_cons hsh;obtain rfl:=hasAllW_nil h2;obtain⟨xs,rfl,h3⟩:=hasW_list h1;obtain⟨ns,rfl⟩:=items_int h3;have hlen:ns.length<=n:=by
  unfold OpenLaw.pre at hc;have h4:(WTm.not (.lt (.lit (.int (n:Int))) (.len (.arg 0)))).holds [] {args:=[.list (ns.map .int)]}=true:=by
   have h4:=(holds_andW hc).1;rw[hn]at h4;exact h4
  have h5:=condW_of h4 (w_not (w_lt w_lit (w_len_list (w_arg rfl))));rw[aaR]at h5;refine Nat.le_of_not_lt λq=>?_;have q':(n:Int)<((ns.length:Nat):Int):=by omega
  first
   | (rw[decide_eq_true q']at h5;exact absurd h5 ∅)
   | (simp at h5;omega)
 cases VM with
 | cons w1 w2 =>
  cases w2;cases w1 with
  | list ho fH=>exact⟨_,_,ns,rfl,rfl,ho,lR ns _ fH,hlen⟩
theorem AQ(l:OpenLaw)(args:List WData):l.row.toRowW.claim.post args (.bool true) args=true:=
 postW_of (r:=l.row.toRowW) (X:=(true==true))
  (show WShape.has [] (.bool true) .bool=true by first|rfl|decide|simp [WShape.has,WShape.arms,WShape.armsAll])
  (show(WTm.eq .res (.lit (.bool true))).value [] {args:=args,res:=some (.bool true),after:=args}=some (.bool (true==true))from w_eq_bool (w_res rfl) w_lit) rfl
theorem tm{l:OpenLaw}{n:Nat}{q:Program}{loose:List Str}{XP:(Str->Option Value)->Heap->Prop}{YP:World->Heap->Prop}{d:DefRec}
  (hn:l.most=some n) (Vp:d.params.defaults=[])
  (call:∀(w:World) (dr bQ:Shared) (mg mb:Str->Option Value) (fa:Addr) (o:Obj) (pm cd doc:Value) (a:Addr) (vs:List Value) (ns:List Int),
   Ground q loose [] XP w dr mg mb bQ.heap->YP w bQ.heap ->
   bQ.heap.get? fa=some o->o.data=.func (docDef d.name d.params d.body d.scope pm cd doc)->bQ.heap.CodeRec cd d.name->mg d.name=some (.ref fa) ->
   bQ.heap.get? a=some {cls:=.type "list",data:=.seq vs.toArray}->IntsAre vs ns->ns.length<=n->bQ.gens=#[] ->
   codeAny (model l.prog w) callerA (.call (.ref fa) ⟨[.ref a],[]⟩) (λr s'=>r=.ok (.ret (.bool true))/\OldK bQ.heap s'.heap/\s'.os=bQ.os/\AllBare s'.gens) bQ):
  WalkO q loose XP YP l.row.toRowW d [] (λf vs=>PySem.call f vs):=by
 intro w dr bQ mg mb G Y fa o pm cd doc dV kV ho hd qG hD hmg hg args vals as Ah Vx SK VM wD;obtain rfl:dV=.none:=Dflts.none hD Vp;obtain rfl:kV=.none:=Dflts.noKw hD;obtain⟨a,vs,ns,rfl,rfl,M0,hints,hlen⟩:=AX hn Ah VM;refine enter_call (codeAny_mono (call w dr bQ mg mb fa o pm cd doc a vs ns G Y ho (fd_plain hd) qG hmg M0 hints hlen hg) λr s' hq=>?_);obtain⟨rfl,h2,h3,h4⟩:=hq;exact⟨.inl ⟨.bool true,.bool true,[],rfl,λ_=>rfl,.bool true,AQ l _,λ_=>⟨List.Pairwise.nil,λ_ hm=>(nomatch hm)⟩⟩,h2,h3,h4⟩
end Att
namespace L2
open PySem PySem.Spec PyProof.Rows
theorem fQ:∀ {vs:List Value} {ns:List Int},IntsAre vs ns->Vals (ns.map V.int) vs
 | _,_,.nil=>.nil
 | _,_,.cons n t h=>.cons ⟨t,rfl⟩ (fQ h)
def Only(H:Hp):Prop:=∀b,H b=none\/∃o xs,H b=some (.yA o (.lst xs))
theorem DV{P:Program}{w:World}{K:PySem.W.Frag}{mg mb:Str->Option Value}{CX:zJ}{k:Nat}{fa a:Addr}{fd:FuncData}{x:Str}{sp:Sp}{bQ:Shared}{vs:List Value}{ns:List Int}
  (KX:K.In bQ.heap) (Yn:bQ.heap.Ns mainGlobals mg) (hb:bQ.heap.Ns builtinsNs mb) (hbb:∀x:Str,x≠"__name__"->mb x=bootBuiltins x) (ZR:bQ.heap.NoLimit) (hg:bQ.gens=#[])
  (ha:bQ.heap.get? a=some {cls:=.type "list",data:=.seq vs.toArray}) (hi:IntsAre vs ns) (hl:ns.length<=sizeLine) (hr:iB k callerA)
  (F:∀base:Heap,K.In base->base.Ns mainGlobals mg->eI P w K mg base CX k fa fd [x] sp) (Vm:∀(s:Shared) (u:Value),BindsTo s fd ⟨[u],[]⟩ [(x,u)])
  (J5:∀H:Hp,Only H->gn K H a (ns.map V.int)->sp [.ref a] H (λv _=>v=.bl true) λ_ _ _=>False)
  (Zw:∀H e s',CX [] H bQ (λ_ _ _=>False) e s'->False):
  codeAny (model P w) callerA (.call (.ref fa) ⟨[.ref a],[]⟩) (λr s'=>r=.ok (.ret (.bool true))/\OldK bQ.heap s'.heap/\s'.os=bQ.os/\AllBare s'.gens) bQ:=by
 have rv:=fQ hi;have aaj:=hi.length
 -- from an abstract heap in which nothing but the script may be tracked
 have core:∀H:Hp,Only H->gn K H a (ns.map V.int)->iI P w H bQ.heap->(∀b,H b≠none->b=a)->(H a≠none->K.lookup a=none) ->
   codeAny (model P w) callerA (.call (.ref fa) ⟨[.ref a],[]⟩) (λr s'=>r=.ok (.ret (.bool true))/\OldK bQ.heap s'.heap/\s'.os=bQ.os/\AllBare s'.gens) bQ:=by
  intro H hO hS bU hA hK;have yj:∀ {b:Addr} {o:Obj},bQ.heap.get? b=some o->H b=none->(qI bQ.heap H).get? b=some o:=λe n=>DE e n;have Wk:∀ {b:Addr} {o:Obj} {es:Array DictEntry} {ep:Nat},bQ.heap.get? b=some o->o.data=.dict es ep->H b=none:=λ{b o es ep} e d=>by
   cases q:H b with
   | none=>rfl
   | some u =>
    have e':b=a:=hA b (by rw[q];simp)
    subst e';rw[ha]at e;cases e;have d':Data.seq vs.toArray _=Data.dict es ep:=d;cases d'
  have Yy:∀ {b:Addr} {m:Str->Option Value},bQ.heap.Ns b m->(qI bQ.heap H).Ns b m:=λ{b m} ⟨o,es,ep,e,d,r⟩=>⟨o,es,ep,yj e (Wk e d),d,r⟩;have hKb:K.In (qI bQ.heap H):=λb o e=>yj (KX b o e) (by
   cases q:H b with
   | none=>rfl
   | some u =>
    have e':b=a:=hA b (by rw[q];simp)
    subst e';rw[hK (by rw[q];simp)]at e;cases e)
  have hM:Mod K mg (qI bQ.heap H):=⟨hKb,Yy Yn,⟨mb,Yy hb,hbb⟩,let ⟨mc,h1,h2⟩:=ZR;⟨mc,Yy h1,h2⟩⟩;have e0:GF P w K mg (qI bQ.heap H) callerA [] bQ H:=⟨rfl,hM,λb o e=>HK e,Nat.le_of_eq (Ae _ _),trivial,λb hb=>absurd (show b∈([]:List Addr)from hb) (by simp),bU,.of_eq hg⟩
  refine codeAny_mono ((F _ hKb (Yy Yn)).run callerA [] bQ H ⟨[.ref a],[]⟩ [.ref a] [.ref a] _ _ hr e0 (Vm bQ (.ref a)) (.cons rfl .nil) (J5 H hO hS)) λr s' h=>?_;cases r with
  | error e=>exact(Zw H e s' h).elim
  | ok fl =>
   cases fl with
   | next=>exact False.elim h
   | brk=>exact False.elim h
   | cont=>exact False.elim h
   | ret u =>
    obtain⟨v,H',os,bare,un,ZW,r',q⟩:=h;have q':v=.bl true:=q;subst q';obtain rfl:u=Value.bool true:=r';refine⟨rfl,OldK.of_keep λb o e=>?_,os,bare⟩;cases q:H b with
    | none=>exact un.keep b o e q (by intro z;exact absurd (show b∈([]:List Addr)from z) (by simp)) (by simp)
    | some u =>
     rcases hO b with z|⟨ob,xs,z⟩
     ·rw[q]at z;cases z
     ·have z2:=un.qD b ob _ z
      obtain⟨e1,_⟩:=bU b _ z;obtain⟨e2,_⟩:=ZW b _ z2;rw[e]at e1;cases e1;exact e2
 cases hk:K.lookup a with
 | some o =>
  -- the script is one of the module's own objects
  have e:=KX a o hk;rw[ha]at e;cases e;refine core (λ_=>none) (λ_=>.inl rfl) (.inr ⟨_,vs.toArray,_,hk,rfl,rfl,rfl,by rw[List.size_toArray,aaj];exact hl,by simpa using rv⟩) (λb u z=>by have z':(none:Option HO)=some u:=z;cases z') (λb z=>absurd rfl z) λz=>absurd rfl z
 | none =>
  refine core (λb=>if b=a then some (.yA {cls:=.type "list",data:=.seq vs.toArray} (.lst (ns.map V.int)))else none) (λb=>?_) (.inl (.inr ⟨{cls:=.type "list",data:=.seq vs.toArray},if_pos rfl⟩)) (λb u z=>?_) (λb z=>?_) λ_=>hk
  ·by_cases hb:b=a
   ·exact .inr ⟨_,_,if_pos hb⟩
   ·exact .inl (if_neg hb)
  ·by_cases hb:b=a
   ·have z':=(if_pos hb).symm.trans z
    cases z';subst hb;exact⟨ha,by rw[aaR];exact hl,vs,_,rv,ha⟩
   ·have z':=(if_neg hb).symm.trans z
    cases z'
  ·by_cases hb:b=a
   ·exact hb
   ·exact absurd (if_neg hb) z
end L2
namespace L2
open PySem PySem.Spec PyProof.Rows
theorem IY{l:PySem.W.OpenLaw}{n k:Nat}{q:Program}{loose:List Str}{XP:(Str->Option Value)->Heap->Prop}{YP:World->Heap->Prop}{d:DefRec}{K:Params->PySem.W.Frag}{CX:World->zJ}{sp:World->Sp}{x:Str}
  (hn:l.most=some n) (Ym:n<=sizeLine) (Vp:d.params.defaults=[]) (hr:iB k callerA)
  (hY:∀(w:World) (h:Heap),YP w h->(K w.params).In h)
  (F:∀(w:World) (mg:Str->Option Value) (fa:Addr) (h:Heap),(K w.params).In h->h.Ns mainGlobals mg->mg d.name=some (.ref fa) ->
   ∃fd:FuncData,(∀(s:Shared) (u:Value),BindsTo s fd ⟨[u],[]⟩ [(x,u)]) /\
    ∀base:Heap,(K w.params).In base->base.Ns mainGlobals mg->eI l.prog w (K w.params) mg base (CX w) k fa fd [x] (sp w))
  (J5:∀(w:World) (H:Hp) (a:Addr) (ns:List Int),ns.length<=n->Only H->gn (K w.params) H a (ns.map V.int)->sp w [.ref a] H (λv _=>v=.bl true) λ_ _ _=>False)
  (Zw:∀(w:World) (H:Hp) (s:Shared) (e:Value) (s':Shared),CX w [] H s (λ_ _ _=>False) e s'->False):
  PySem.W.WalkO q loose XP YP l.row.toRowW d [] (λf vs=>PySem.call f vs):=by
 refine Att.tm hn Vp λw dr bQ mg mb fa o pm cd doc a vs ns G Y ho hd qG hmg M0 hints hlen hg=>?_;have KX:=hY w _ Y;obtain⟨fd,hb,hF⟩:=F w mg fa _ KX G.T.g hmg;exact DV KX G.T.g G.T.b G.T.builtins G.T.nolimit hg M0 hints (Nat.le_trans hlen Ym) hr hF hb (λH hO hS=>J5 w H a ns hlen hO hS) λH e s'=>Zw w H bQ e s'
end L2
namespace L2
open PySem PySem.Spec PyProof.Rows
def aU(s:Stmt):Arguments:=match s with
 | .FunctionDef _ a _ _ _ _ _ _ _ _=>a
 | _=>{posonlyargs:=[],args:=[],vararg:=none,kwonlyargs:=[],kw_defaults:=[],kwarg:=none,defaults:=[]}
def aw(s:Stmt):List Stmt:=match s with
 | .FunctionDef _ _ b _ _ _ _ _ _ _=>b
 | _=>[]
def ai(s:Stmt):Scope:=match s with
 | .FunctionDef _ _ _ _ _ _ sc _ _ _=>sc
 | _=>{kind:=.function,names:=[],isGenerator:=false,isCoroutine:=false}
abbrev sR:zJ:=λ_ _ _ _ _ _=>False
abbrev E0:XK:=λ_ _ _=>False
theorem Ei{X:Cx}:Passes sR X E0:=λ_ _ _ _ _ _ _ h=>h.elim
structure JF(K:PySem.W.Frag)(x qual:Str)(st:Stmt)(f:Addr)(fd:FuncData):Prop where
 ex:∃(oc:Value) (od:Option Addr) (kV doc pm:Value) (an:Option Addr) (jh ct:Value) (Ka:Array (Option Value)),
  fd=PySem.W.fnOf x qual (aU st) (aw st) (ai st) .none kV doc pm an jh ct/\K.lookup f=some ⟨oc,od,.func fd,Ka⟩/\PySem.W.codeIn K jh qual=true
 kp:PySem.W.keepIn K (.ref f)=true
section
variable {P:Program}{w:World}{K:PySem.W.Frag}{mg:Str->Option Value}{base:Heap}
theorem JF.ok{x qual:Str}{st:Stmt}{f:Addr}{fd:FuncData}{N ps:List Str}{k:Nat}{sp:Sp}(F:JF K x qual st f fd)(S:aR N ps (ai st))(len:∀vs H Q E,sp vs H Q E->vs.length=ps.length)
  (Dy:∀(jh:Value) (A:Around) (outer:List Env) (s:Shared) (H:Hp) (vs:List V) (Q:VK) (E:XK),iB k (A.deeper (envOfC qual (ai st) s.heap.objs.size f jh))->sp vs H Q E ->
   ∃t,qe (qv sR P w K mg base N qual (ai st) f jh A outer s H E).Oh (aw st) t/\t {nx:=λ_ H'=>Q .bD H',rt:=Q} (start N vs) H):eI P w K mg base sR (k+1) f fd ps sp:=by
 obtain⟨oc,od,kV,doc,pm,an,jh,ct,Ka,rfl,lk,qG⟩:=F.ex;refine U8 lk qG S len λA outer s H vs Q E hr J5=>?_;obtain⟨t,h,q⟩:=Dy jh A outer s H vs Q E hr J5;exact⟨t,h.Oh,q⟩
theorem JF.binds{x qual:Str}{st:Stmt}{f:Addr}{fd:FuncData}{ps:List Str}(F:JF K x qual st f fd)
  (h:∀(kV doc pm:Value) (an:Option Addr) (jh ct:Value) (us:List Value),us.length=ps.length->bindArgs (PySem.W.fnOf x qual (aU st) (aw st) (ai st) .none kV doc pm an jh ct) ⟨us,[]⟩=pure (ps.zip us)):Binds K fd ps []:=by
 obtain⟨oc,od,kV,doc,pm,an,jh,ct,Ka,rfl,lk,qG⟩:=F.ex;exact .all (h kV doc pm an jh ct)
theorem bF{x qual:Str}{st:Stmt}{f:Addr}{oc:Value}{od an:Option Addr}{Ka:Array (Option Value)}{kV doc pm jh ct:Value}(l:K.lookup f=some ⟨oc,od,.func (PySem.W.fnOf x qual (aU st) (aw st) (ai st) .none kV doc pm an jh ct),Ka⟩)
  (c:PySem.W.codeIn K jh qual=true) (k:PySem.W.keepIn K (.ref f)=true):JF K x qual st f (PySem.W.fnOf x qual (aU st) (aw st) (ai st) .none kV doc pm an jh ct):=⟨⟨oc,od,kV,doc,pm,an,jh,ct,Ka,rfl,l,c⟩,k⟩
end
def av(H H':Hp):Prop:=∀b o,H b=some o->H' b=some o
theorem av.refl(H:Hp):av H H:=λ_ _ h=>h
theorem av.trans{H H1 H2:Hp}(a:av H H1)(b:av H1 H2):av H H2:=λc o h=>b c o (a c o h)
theorem av.free{H H':Hp}(e:av H H'){l:Addr}(h:H' l=Option.none):H l=Option.none:=by
 cases q:H l with
 | none=>rfl
 | some o =>
  rw[e l o q]at h;cases h
theorem av.seq{K:PySem.W.Frag}{H H':Hp}{a:Addr}{xs:List V}(e:av H H')(h:gn K H a xs):gn K H' a xs:=by
 rcases h with(h|⟨o,h⟩)|h
 ·exact .inl (.inl (e _ _ h))
 ·exact .inl (.inr ⟨o,e _ _ h⟩)
 ·exact .inr h
end L2
namespace L2
open PySem PySem.Spec PyProof.Rows
section
variable {κ:Type}[DecidableEq κ]
def c5(kvs:List (κ×V))(k:κ):Option V:=(kvs.find? λkv=>decide (kv.1=k)).map (·.2)
def putK(kvs:List (κ×V))(k:κ)(v:V):List (κ×V):=
 if(kvs.any λkv=>decide (kv.1=k))=true then kvs.map (λkv=>if kv.1=k then(kv.1,v)else kv)else kvs++[(k,v)]
theorem g9{p:κ×V}{r:List (κ×V)}{k:κ}(e:p.1=k):c5 (p::r) k=some p.2:=by simp [c5,List.find?_cons,e]
theorem gZ{p:κ×V}{r:List (κ×V)}{k:κ}(e:¬p.1=k):c5 (p::r) k=c5 r k:=by simp [c5,List.find?_cons,e]
theorem n9(k:κ):∀kvs:List (κ×V),(kvs.any λkv=>decide (kv.1=k))=(c5 kvs k).isSome
 | []=>rfl
 | p::r=>by
  rw[List.any_cons]
  by_cases e:p.1=k
  ·simp only[g9 e,decide_eq_true e,Bool.true_or,Option.isSome_some]
  ·rw[gZ e,decide_eq_false e,Bool.false_or];exact n9 k r
theorem fm(kvs:List (κ×V))(k:κ)(v:V):(putK kvs k v).length<=kvs.length+1:=by
 unfold putK
 split
 ·rw[aaR];omega
 ·rw[List.length_append,List.length_cons,List.length_nil];omega
theorem EC{kvs:List (κ×V)}{k:κ}(v:V)(h:c5 kvs k=none):putK kvs k v=kvs++[(k,v)]:=by
 unfold putK;rw[n9,h];exact if_neg ∅
theorem ou.kH{o:Option V}{u:Option Value}(r:ou o u):o.isSome=u.isSome:=by
 cases o with
 | none=>cases u with
  | none=>rfl
  | some _=>exact(show False from r).elim
 | some _=>cases u with
  | none=>exact(show False from r).elim
  | some _=>rfl
theorem KV.val{kvs:List (κ×V)}{vs:List (κ×Value)}(r:KV kvs vs)(k:κ):ou (c5 kvs k) (valueAt vs k):=by
 unfold KV at r
 induction r with
 | nil=>exact True.intro
 | @cons p q ps qs h t ih =>
  obtain⟨h1,h2⟩:=h
  by_cases e:p.1=k
  ·have e':q.1=k:=h1.symm.trans e
   have b:valueAt (q::qs) k=some q.2:=by simp [valueAt,List.find?_cons,e']
   rw[g9 e,b];exact h2
  ·have e':¬q.1=k:=λz=>e (h1.trans z)
   have b:valueAt (q::qs) k=valueAt qs k:=by simp [valueAt,List.find?_cons,e']
   rw[gZ e,b];exact ih
theorem KV.any{kvs:List (κ×V)}{vs:List (κ×Value)}(r:KV kvs vs)(k:κ):(kvs.any λkv=>decide (kv.1=k))=vs.any λkv=>decide (kv.1=k):=by
 unfold KV at r
 induction r with
 | nil=>rfl
 | cons h t ih=>rw[List.any_cons,List.any_cons,ih,h.1]
theorem KV.repl{kvs:List (κ×V)}{vs:List (κ×Value)}(r:KV kvs vs)(k:κ){y:V}{u:Value}(ry:RelV y u):
  KV (kvs.map λkv=>if kv.1=k then(kv.1,y)else kv) (vs.map λkv=>if kv.1=k then(kv.1,u)else kv):=by
 unfold KV at r ⊢
 induction r with
 | nil=>exact .nil
 | @cons p q ps qs h t ih =>
  rw[List.map_cons,List.map_cons];refine .cons ?_ ih;obtain⟨h1,h2⟩:=h
  by_cases e:p.1=k
  ·rw[if_pos e,if_pos (h1.symm.trans e)];exact⟨h1,ry⟩
  ·rw[if_neg e,if_neg (λz=>e (h1.trans z))];exact⟨h1,h2⟩
theorem KV.put{kvs:List (κ×V)}{vs:List (κ×Value)}(r:KV kvs vs)(k:κ){y:V}{u:Value}(ry:RelV y u):KV (putK kvs k y) (stored vs k u):=by
 unfold putK stored;rw[r.any k]
 by_cases e:(vs.any λkv=>decide (kv.1=k))=true
 ·rw[if_pos e,if_pos e];exact r.repl k ry
 ·rw[if_neg e,if_neg e];exact Paired.snoc r ⟨rfl,ry⟩
theorem KV.length{kvs:List (κ×V)}{vs:List (κ×Value)}(r:KV kvs vs):kvs.length=vs.length:=Paired.length r
end
theorem pB{P:Program}{w:World}{k:Key}{u:Value}(r:RelV (kV k) u):(bR P w).is k u=true:=by
 cases k with
 | inl i=>obtain⟨t,e⟩:=(show∃t,u=Value.int i t from r);subst e;exact vf P w i t
 | inr x=>obtain⟨t,e⟩:=(show∃t,u=Value.str x t from r);subst e;exact vg P w x t
theorem pA{P:Program}{w:World}:∀ {ks:List Key} {us:List Value},Vals (ks.map kV) us->ItemsAre (bR P w) ks us
 | [],_,r=>by rw[List.map_nil]at r;cases r;exact .nil
 | k::ks,_,r=>by
  rw[List.map_cons]at r;cases r with
  | cons h t=>exact .cons (pB h) (pA t)
abbrev KT(H:Hp):List (List Key×V)->List (List Key×Addr×Value)->Prop:=Paired λp q=>p.1=q.1/\H q.2.1=some (.tup (p.1.map kV))/\RelV p.2 q.2.2
theorem KT.val{H:Hp}{kvs:List (List Key×V)}{xs:List (List Key×Addr×Value)}(r:KT H kvs xs)(k:List Key):ou (c5 kvs k) ((atKey xs k).map (·.2)):=by
 induction r with
 | nil=>exact True.intro
 | @cons p q ps qs h t ih =>
  obtain⟨h1,_,h2⟩:=h
  by_cases e:p.1=k
  ·have e':q.1=k:=h1.symm.trans e
   have b:atKey (q::qs) k=some q.2:=by simp [atKey,List.find?_cons,e']
   rw[g9 e,b];exact h2
  ·have e':¬q.1=k:=λz=>e (h1.trans z)
   have b:atKey (q::qs) k=atKey qs k:=by simp [atKey,List.find?_cons,e']
   rw[gZ e,b];exact ih
theorem KT.repl{H:Hp}{kvs:List (List Key×V)}{xs:List (List Key×Addr×Value)}(r:KT H kvs xs)(k:List Key){y:V}{u:Value}(ry:RelV y u):
  KT H (kvs.map λkv=>if kv.1=k then(kv.1,y)else kv) (xs.map (putAt k u)):=by
 induction r with
 | nil=>exact .nil
 | @cons p q ps qs h t ih =>
  rw[List.map_cons,List.map_cons];refine .cons ?_ ih;obtain⟨h1,h2,h3⟩:=h;unfold putAt
  by_cases e:p.1=k
  ·rw[if_pos e,if_pos (h1.symm.trans e)];exact⟨h1,h2,ry⟩
  ·rw[if_neg e,if_neg (λz=>e (h1.trans z))];exact⟨h1,h2,h3⟩
theorem KT.put{H:Hp}{kvs:List (List Key×V)}{xs:List (List Key×Addr×Value)}(r:KT H kvs xs)(k:List Key){b:Addr}{y:V}{u:Value}(hb:H b=some (.tup (k.map kV)))(ry:RelV y u):
  KT H (putK kvs k y) (storedH xs k b u):=by
 have e:(kvs.any λkv=>decide (kv.1=k))=(atKey xs k).isSome:=by
  rw[n9,(r.val k).kH,Option.isSome_map]
 unfold putK storedH;rw[e]
 by_cases q:(atKey xs k).isSome=true
 ·rw[if_pos q,if_pos q];exact r.repl k ry
 ·rw[if_neg q,if_neg q];exact Paired.snoc r ⟨rfl,hb,ry⟩
theorem KT.keeps{H H':Hp}{kvs:List (List Key×V)}{xs:List (List Key×Addr×Value)}(r:KT H kvs xs)(ht:∀b ys,H b=some (.tup ys)->H' b=some (.tup ys)):KT H' kvs xs:=
 Paired.N8 r λ_ _ z=>⟨z.1,ht _ _ z.2.1,z.2.2⟩
section
variable {P:Program}{w:World}{H:Hp}{h:Heap}{a:Addr}
theorem Ki{u:HO}(ok:iI P w H h)(e:Rd H a u):cu P w H h a u:=e.ok ok
theorem yr{kvs:List (Key×V)}(ok:iI P w H h)(e:Rd H a (.dK kvs)):kvs.length<=sizeLine/\(a==sysModules)=false/\∃vs,KV kvs vs/\h.DictOf (bR P w) a vs:=
 show cu P w H h a (.dK kvs)from Ki ok e
theorem o6{kvs:List (Key×V)}(ok:iI P w H h)(e:H a=some (.dK kvs)):kvs.length<=sizeLine/\(a==sysModules)=false/\∃vs,KV kvs vs/\h.DictOf (bR P w) a vs:=yr ok (.inl e)
theorem qQ{ks:List Key}(ok:iI P w H h)(e:H a=some (.tup (ks.map kV))):(tupleKind (bR P w)).is h ks a:=by
 obtain⟨_,its,r,o,h1,h2,n,h3⟩:=(show cu P w H h a (.tup (ks.map kV))from ok a _ e)
 exact⟨o,its.toArray,n,h1,h2,h3,by simpa using pA r⟩
theorem yt{kvs:List (List Key×V)}(ok:iI P w H h)(e:Rd H a (.dT kvs)):kvs.length<=sizeLine/\(a==sysModules)=false /\
  ∃xs,KT H kvs xs/\h.DictOfH (tupleKind (bR P w)) a xs:=by
 obtain⟨z,y,xs,r,o,es,ep,h1,h2,h3,h4,h5⟩:=(show cu P w H h a (.dT kvs)from Ki ok e)
 refine⟨z,y,xs,r,o,es,ep,h1,h2,h3,h4,λx hx=>?_,h5⟩;have all:∀ {l:List (List Key×V)} {m:List (List Key×Addr×Value)},KT H l m->∀x∈m,(tupleKind (bR P w)).is h x.1 x.2.1:=by
  intro l m q
  induction q with
  | nil=>intro x hx;exact nomatch hx
  | @cons p q ps qs hq t ih =>
   intro x hx;rcases List.mem_cons.mp hx with e|hx
   ·subst e
    exact qQ ok (by rw[<- hq.1];exact hq.2.1)
   ·exact ih x hx
 exact all r x hx
theorem Uu{kvs:List (List Key×V)}(ok:iI P w H h)(e:H a=some (.dT kvs)):kvs.length<=sizeLine/\(a==sysModules)=false /\
  ∃xs,KT H kvs xs/\h.DictOfH (tupleKind (bR P w)) a xs:=yt ok (.inl e)
end
def mC(H:Hp)(a:Addr)(y:V)(r:Option V):Prop:=
 (∃kvs k,Rd H a (.dK kvs)/\y=kV k/\r=c5 kvs k)\/∃kvs k b,Rd H a (.dT kvs)/\y=.ref b/\H b=some (.tup (k.map kV))/\r=c5 kvs k
def GC(H:Hp)(a:Addr)(y v:V)(H':Hp):Prop:=
 (∃kvs k,H a=some (.dK kvs)/\y=kV k/\kvs.length<sizeLine/\H'=upd H a (.dK (putK kvs k v))) \/
 ∃kvs k b,H a=some (.dT kvs)/\y=.ref b/\H b=some (.tup (k.map kV))/\kvs.length<sizeLine/\H'=upd H a (.dT (putK kvs k v))
theorem mC.k{H:Hp}{a:Addr}{kvs:List (Key×V)}{k:Key}(e:H a=some (.dK kvs)):mC H a (kV k) (c5 kvs k):=.inl ⟨kvs,k,.inl e,rfl,rfl⟩
theorem mC.t{H:Hp}{a b:Addr}{kvs:List (List Key×V)}{k:List Key}(e:H a=some (.dT kvs))(eb:H b=some (.tup (k.map kV))):mC H a (.ref b) (c5 kvs k):=.inr ⟨kvs,k,b,.inl e,rfl,eb,rfl⟩
theorem GC.t{H:Hp}{a b:Addr}{kvs:List (List Key×V)}{k:List Key}{v:V}(e:H a=some (.dT kvs))(eb:H b=some (.tup (k.map kV)))(hl:kvs.length<sizeLine):
  GC H a (.ref b) v (upd H a (.dT (putK kvs k v))):=.inr ⟨kvs,k,b,e,rfl,eb,hl,rfl⟩
section
variable {X:Cx}{pins:List (Addr×Obj)}{σ:St}{H:Hp}{s:Shared}{a:Addr}{y v:V}{u r:Value}{o:Option V}{A:Around}{E:Value->Shared->Prop}
theorem Inv.big(I:Inv X pins σ H s):sysModules<s.heap.objs.size:=by
 have h:mainGlobals<s.heap.objs.size:=(I.mod.glob.keeps I.bk).lt;exact Nat.lt_trans ∅ h
theorem zW{Q:Value->Shared->Prop}(hu:A.units+1<cLine)(I:Inv X pins σ H s)(g:mC H a y (some v))(ry:RelV y u)(h:∀w' s',Inv X pins σ H s'->RelV v w'->Q w' s'):
  wpAny (model X.prog X.w) A (getItem (.ref a) u) Q E s:=by
 rcases g with⟨kvs,k,e,ey,l⟩|⟨kvs,k,b,e,ey,eb,l⟩
 ·subst ey
  obtain⟨z,hd,vs,rel,dd⟩:=yr I.bU e;obtain⟨w',hw,E2⟩:=ou.some_of (v:=v) (o:=valueAt vs k) (by rw[l];exact rel.val k)
  exact wpAny_getItem_of (pB ry) dd.mapOf hw (h w' _ (I.tok _) E2)
 ·subst ey
  cases(show u=Value.ref b from ry)
  obtain⟨z,hd,xs,rel,dd⟩:=yt I.bU e;obtain⟨w',hw,E2⟩:=ou.some_of (v:=v) (o:=(atKey xs k).map (·.2)) (by rw[l];exact rel.val k)
  obtain⟨p,hp,ZY⟩:=Option.map_eq_some_iff.mp hw;refine wpAny_getItem_heap (tupleKind_room_in1 hu) (qQ I.bU eb) dd hp ?_;rw[ZY];exact h w' _ (I.tok _) E2
theorem GW{Q:Value->Shared->Prop}(hu:A.units+1<cLine)(I:Inv X pins σ H s)(g:mC H a y o)(ry:RelV y u)(h:∀s',Inv X pins σ H s'->Q (.bool (!o.isSome)) s'):
  wpAny (model X.prog X.w) A (compareOp .NotIn u (.ref a)) Q E s:=by
 rcases g with⟨kvs,k,e,ey,l⟩|⟨kvs,k,b,e,ey,eb,l⟩
 ·subst ey
  obtain⟨z,hd,vs,rel,dd⟩:=yr I.bU e;refine wpAny_notIn_of (pB ry) hd dd.mapOf ?_;rw[<- (rel.val k).kH,<- l];exact h _ (I.tok _)
 ·subst ey
  cases(show u=Value.ref b from ry)
  obtain⟨z,hd,xs,rel,dd⟩:=yt I.bU e;refine wpAny_notIn_heap (tupleKind_room_in1 hu) (qQ I.bU eb) hd dd ?_;have q:=(rel.val k).kH;rw[Option.isSome_map]at q;rw[<- q,<- l];exact h _ (I.tok _)
theorem mj{h':Heap}{t':Nat}{ob:HO}(I:Inv X pins σ H s)(mu:Tq (H a))(hs:Heap.SameBut a s.heap h')(he:∃q,h'.get? a=some q)(new:cu X.prog X.w (upd H a ob) h' a ob):
  Inv X pins σ (upd H a ob) {s with heap:=h',toks:=t'}:=
 I.write (x:=a) (e:=a) mu (.inl rfl) (λb q hb z=>(hs.2 b hb).trans z) he new
theorem xg{P:Program}{w:World}{H':Hp}{h':Heap}{kvs:List (Key×V)}{vs:List (Key×Value)}(z:kvs.length<=sizeLine)(hd:(a==sysModules)=false)(rel:KV kvs vs)(dd:h'.DictOf (bR P w) a vs):
  cu P w H' h' a (.dK kvs):=⟨z,hd,vs,rel,dd⟩
theorem zX{H':Hp}{Q:Unit->Shared->Prop}(hu:A.units+1<cLine)(I:Inv X pins σ H s)(g:GC H a y v H')(ry:RelV y u)(rv:RelV v r)(h:∀s',Inv X pins σ H' s'->Q () s'):
  wpAny (model X.prog X.w) A (setItem (.ref a) u r) Q E s:=by
 rcases g with⟨kvs,k,e,ey,l,eH⟩|⟨kvs,k,b,e,ey,eb,l,eH⟩
 ·subst ey eH
  obtain⟨z,hd,vs,rel,dd⟩:=o6 I.bU e;have hz:vs.length<=sizeLine:=by rw[<- rel.length];exact z
  have hl:(putK kvs k v).length<=sizeLine:=by have:=fm kvs k v;omega
  refine wpAny_setItem_pairs (hsz:=hz) (pB ry) dd λh' Gj hs=>h _ ?_;have he:∃q,h'.get? a=some q:=let ⟨q,_,_,hq,_⟩:=Gj;⟨q,hq⟩;exact mj I (by rw[e];exact True.intro) hs he (xg hl hd (rel.put k rv) Gj)
 ·subst ey eH
  cases(show u=Value.ref b from ry)
  obtain⟨z,hd,xs,rel,dd⟩:=Uu I.bU e;have hz:xs.length<=sizeLine:=by rw[<- Paired.length rel];exact z
  have hl:(putK kvs k v).length<=sizeLine:=by have:=fm kvs k v;omega
  refine wpAny_setItem_heap (hsz:=hz) (tupleKind_room_in1 hu) (qQ I.bU eb) dd λh' Gj hs=>h _ ?_;obtain⟨q,es,ep,hq,h2,h3,h4,_,h5⟩:=Gj;refine mj I (by rw[e];exact True.intro) hs ⟨q,hq⟩ ⟨hl,hd,_,(rel.put k eb rv).keeps λc ys ec=>?_,q,es,ep,hq,h2,h3,h4,h5⟩
  rw[aq (Wj ec e (λz=>nomatch z))];exact ec
end
def KJ(i:Expr):Prop:=∀ov iv,subscripted i false ov iv=operate [ov,iv] (getItem ov iv)
theorem IJ{prog:Program}{w:World}{A:Around}{E:Value->Shared->Prop}{s:Shared}{env:Env}{value slice:Expr}{pos:Pos}{T id:String}{Q:Value->Shared->Prop}
  (hl:typeLookup (.type T) "__getitem__"=pure (some (.builtin id))) (hs:KJ slice)
  (h:wpAny (model prog w) A (eval value env) (λo bQ=>wpAny (model prog w) A (eval slice env) (λi sG=>sG.TypeIs o T/\wpAny (model prog w) A (getItem o i) Q E sG) E bQ) E s):
  wpAny (model prog w) A (eval (.Subscript value slice pos) env) Q E s:=by
 refine Subscript_ (wpAny_mono h (λo bQ Ai=>wpAny_mono Ai (λi sG DI=>?_) λ_ _ x=>x) λ_ _ x=>x);obtain⟨hT,DI⟩:=DI;unfold subscriptTail;refine aaO ?_;rw[getitemInPython_of_ne hT.not_modules];refine aaO (wpAny_specialOf hT hl ?_);have fin:wpAny (model prog w) A (subscripted slice false o i) (λr vU=>wpAny (model prog w) A (letTemporaryGo value o r >>= λ_=>pure r) Q E vU) E sG:=by
  rw[hs o i];exact wpAny_operating (wpAny_mono DI (λr vU Hh=>aaO (wpAny_letTemporaryGo (wpAny_pure Hh))) λ_ _ x=>x)
 first
  | exact wpAny_pure (aaO fin)
  | exact aaO (wpAny_pure (aaO fin))
  | exact aaO fin
theorem tQ{X:Cx}{pins:List (Addr×Obj)}{σ:St}{H:Hp}{s:Shared}{a:Addr}{y:V}{o:Option V}(I:Inv X pins σ H s)(g:mC H a y o):s.TypeIs (.ref a) "dict":=by
 rcases g with⟨kvs,k,e,_,_⟩|⟨kvs,k,b,e,_,_,_⟩
 ·obtain⟨_,_,vs,_,dd⟩:=yr I.bU e
  exact dd.typeIs
 ·obtain⟨_,_,xs,_,dd⟩:=yt I.bU e
  exact dd.typeIs
def X1(td ty:TE):TE:=λσ H Q=>td σ H λx H1=>ty σ H1 λy H2=>∃a v,x=.ref a/\mC H2 a y (some v)/\Q v H2
def Xx(td ty tv:TE):TS:=λD σ H=>tv σ H λv H1=>td σ H1 λx H2=>ty σ H2 λy H3=>∃a H4,x=.ref a/\GC H3 a y v H4/\D.nx σ H4
section
variable {X:Cx}{o i e value:Expr}{pos pos' km:Pos}{td ty tv:TE}
theorem Ia(hu:X.A.units+1<cLine)(ho:PE X o td)(hi:PE X i ty)(hs:KJ i):PE X (.Subscript o i pos) (X1 td ty):=by
 intro pins s σ H Q I h;refine IJ PySem.F.slot_dict_getitem.lookup hs (cO (ho pins s σ H _ I h) λu s1 ⟨x,H1,I1,rx,q1⟩=>cO (hi pins s1 σ H1 _ I1 q1) λiv s2 ⟨y,H2,I2,ry,a,v,ex,g,q2⟩=>?_);subst ex;obtain rfl:u=Value.ref a:=rx;exact⟨tQ I2 g,zW hu I2 g ry λw' s3 I3 E2=>⟨v,H2,I3,E2,q2⟩⟩
theorem Ik(hu:X.A.units+1<cLine)(ho:PE X o td)(hi:PE X i ty)(hv:PE X value tv)(hs:swapsWith value (some (.Subscript o i pos')) pos.line X.env=pure false):
  PS X (.Assign [.Subscript o i pos'] value pos) (Xx td ty tv):=by
 intro pins s σ H D I h;refine wpAny_Assign_Subscript (cO (hv pins s σ H _ I h) λr s1 ⟨v,H1,I1,rv,q1⟩=>cO (ho pins s1 σ H1 _ I1 q1) λu s2 ⟨x,H2,I2,rx,q2⟩=>cO (hi pins s2 σ H2 _ I2 q2) λiv s3 ⟨y,H3,I3,ry,a,H4,ex,g,q3⟩=>?_) hs;subst ex;obtain rfl:u=Value.ref a:=rx;exact zX hu I3 g ry rv λs4 I4=>⟨σ,H4,I4,q3⟩
end
theorem CL{P:Program}{w:World}{H:Hp}(h:Heap)(hb:sysModules<h.objs.size):cu P w H (h.push {cls:=.type "dict",data:=.dict #[]}) h.objs.size (.dK []):=
 ⟨Nat.zero_le _,beq_eq_false_iff_ne.mpr (Ne.symm (Nat.ne_of_lt hb)),[],.nil,Heap.DictOf.new h⟩
theorem CP{P:Program}{w:World}{H:Hp}(h:Heap)(hb:sysModules<h.objs.size):cu P w H (h.push {cls:=.type "dict",data:=.dict #[]}) h.objs.size (.dT []):=
 ⟨Nat.zero_le _,beq_eq_false_iff_ne.mpr (Ne.symm (Nat.ne_of_lt hb)),[],.nil,_,#[],0,Heap.get?_push_size _ rfl,⟨rfl,rfl,rfl⟩,rfl,rfl,List.nodup_nil⟩
def RA:TE:=λ_ H Q=>∀p,H p=none->Q (.ref p) (upd H p (.dK []))
def RB:TE:=λ_ H Q=>∀p,H p=none->Q (.ref p) (upd H p (.dT []))
section
variable {X:Cx}{pos:Pos}
theorem vv:PE X (.Dict [] [] pos) RA:=λpins s σ H Q I h =>
 wpAny_Dict_empty ⟨.ref s.heap.objs.size,_,I.laid (a:=s.heap.objs.size) (o:=.dK []) (t':=s.toks) (λ_ _ q=>aaP _ q) (Nat.le_refl _) (CL s.heap I.big),rfl,h _ (I.bU.fresh (Nat.le_refl _))⟩
theorem Ej:PE X (.Dict [] [] pos) RB:=λpins s σ H Q I h =>
 wpAny_Dict_empty ⟨.ref s.heap.objs.size,_,I.laid (a:=s.heap.objs.size) (o:=.dT []) (t':=s.toks) (λ_ _ q=>aaP _ q) (Nat.le_refl _) (CP s.heap I.big),rfl,h _ (I.bU.fresh (Nat.le_refl _))⟩
end
def sM:List (TE×TE)->St->Hp->(List (V×V)->Hp->Prop)->Prop
 | [],_,H,Q=>Q [] H
 | (tk,tv)::r,σ,H,Q=>tk σ H λx H1=>tv σ H1 λy H2=>sM r σ H2 λps H3=>Q ((x,y)::ps) H3
def eu(kvs more:List (Key×V)):List (Key×V):=more.foldl (λacc kv=>putK acc kv.1 kv.2) kvs
theorem KV.merge:∀ {more:List (Key×V)} {rs:List (Key×Value)} {kvs:List (Key×V)} {vs:List (Key×Value)},KV more rs->KV kvs vs->KV (eu kvs more) (merged vs rs):=by
 intro more rs kvs vs r;unfold KV at r
 induction r generalizing kvs vs with
 | nil=>intro q;exact q
 | @cons p q ps qs h t ih =>
  intro r0;have e:KV (putK kvs p.1 p.2) (stored vs q.1 q.2):=by
   have:=r0.put p.1 h.2;rw[<- h.1];exact this
  exact ih e
theorem d3:∀(more kvs:List (Key×V)),(eu kvs more).length<=kvs.length+more.length
 | [],kvs=>by show kvs.length<=kvs.length+0;omega
 | p::r,kvs=>by
  have h1:=d3 r (putK kvs p.1 p.2);have h2:=fm kvs p.1 p.2;show(eu (putK kvs p.1 p.2) r).length<=_;rw[List.length_cons];omega
end L2
namespace Vc
open PySem L2
class KF where
 K:PySem.W.Frag
 /-- where the classes of exceptions stand -/
 cls:Str->Addr:=λ_=>0
 /-- the code tables that a lambda fills: where,as they were,the lambda's place,its name -/
 tabs:List (Addr×Array Value×Pos×Str):=[]
variable [KF]
inductive D where
 | bD|bl (b:Bool)|int (i:Int)|str (x:Str)|tup (xs:List D)|lst (xs:List D)|dct (kvs:List (D×D))|exc (c:Str)
 /-- the law's own list: read,never changed -/
 | j6 (ns:List Int)
 /-- a dict with whole numbers for keys -/
 | o5 (kvs:List (Int×D))
 /-- kept points: the word,the count,the next name,the points by their names -/
 | kp (w:Str) (c e:Int) (kvs:List (Int×D))
def Zk(a:Addr)(c:Str):HO:=.ext λh=>∃o,h.get? a=some o/\o.cls=.ref (KF.cls c)
def kD:Key->D
 | .inl i=>.int i
 | .inr x=>.str x
def kpF(w:Str)(c e:Int)(ad:Addr):List (Str×V):=[("way",.str w),("count",.int c),("points_by_name",.ref ad),("ever_put",.int e)]
mutual
inductive Rep (F:Hp):V->D->Prop where
 | bD:Rep F .bD .bD
 | bl (b:Bool):Rep F (.bl b) (.bl b)
 | int (i:Int):Rep F (.int i) (.int i)
 | str (x:Str):Rep F (.str x) (.str x)
 | tup {a:Addr} {vs:List V} {ds:List D}:F a=some (.tup vs)->aD F vs ds->Rep F (.ref a) (.tup ds)
 | lst {a:Addr} {vs:List V} {ds:List D}:Rd F a (.lst vs)->aD F vs ds->Rep F (.ref a) (.lst ds)
 | j6 {a:Addr} {ns:List Int}:gn KF.K F a (ns.map V.int)->Rep F (.ref a) (.j6 ns)
 | exc {a:Addr} {c:Str}:F a=some (Zk a c)->Rep F (.ref a) (.exc c)
 | zZ {a:Addr} {ks:List (List Key×V)} {kvs:List (D×D)}:F a=some (.dT ks)->cX F ks kvs->Rep F (.ref a) (.dct kvs)
 | o5 {a:Addr} {ks:List (Key×V)} {kvs:List (Int×D)}:F a=some (.dK ks)->b7 F ks kvs->Rep F (.ref a) (.o5 kvs)
 | kp {a dx ad:Addr} {w:Str} {c e:Int} {ks:List (Key×V)} {kvs:List (Int×D)}:F a=some (.ins (KF.cls "Kept") dx (kpF w c e ad))->F ad=some (.dK ks)->b7 F ks kvs->Rep F (.ref a) (.kp w c e kvs)
inductive b7 (F:Hp):List (Key×V)->List (Int×D)->Prop where
 | nil:b7 F [] []
 | cons {i:Int} {v:V} {d:D} {ks:List (Key×V)} {kvs:List (Int×D)}:Rep F v d->b7 F ks kvs->b7 F ((.inl i,v)::ks) ((i,d)::kvs)
inductive wL (F:Hp):List (Key×V)->List (D×D)->Prop where
 | nil:wL F [] []
 | cons {k:Key} {v:V} {d:D} {ks:List (Key×V)} {kvs:List (D×D)}:Rep F v d->wL F ks kvs->wL F ((k,v)::ks) ((kD k,d)::kvs)
inductive cX (F:Hp):List (List Key×V)->List (D×D)->Prop where
 | nil:cX F [] []
 | cons {k:List Key} {v:V} {d:D} {ks:List (List Key×V)} {kvs:List (D×D)}:Rep F v d->cX F ks kvs->cX F ((k,v)::ks) ((.tup (k.map kD),d)::kvs)
inductive aD (F:Hp):List V->List D->Prop where
 | nil:aD F [] []
 | cons {v:V} {d:D} {vs:List V} {ds:List D}:Rep F v d->aD F vs ds->aD F (v::vs) (d::ds)
end
theorem Rd.mono{F F':Hp}(s:av F F'){a:Addr}{u:HO}(h:Rd F a u):Rd F' a u:=by
 rcases h with h|⟨o,h⟩
 ·exact .inl (s a _ h)
 ·exact .inr ⟨o,s a _ h⟩
mutual
theorem Rep.mono{F F':Hp}(s:av F F'){v:V}{d:D}:Rep F v d->Rep F' v d
 | .bD=>.bD
 | .bl b=>.bl b
 | .int i=>.int i
 | .str x=>.str x
 | .tup h r=>.tup (s _ _ h) (aD.mono s r)
 | .lst h r=>.lst (Rd.mono s h) (aD.mono s r)
 | .j6 h=>.j6 (s.seq h)
 | .exc h=>.exc (s _ _ h)
 | .zZ h r=>.zZ (s _ _ h) (cX.mono s r)
 | .o5 h r=>.o5 (s _ _ h) (b7.mono s r)
 | .kp h1 h2 r=>.kp (s _ _ h1) (s _ _ h2) (b7.mono s r)
theorem b7.mono{F F':Hp}(s:av F F'){ks:List (Key×V)}{kvs:List (Int×D)}:b7 F ks kvs->b7 F' ks kvs
 | .nil=>.nil
 | .cons h r=>.cons (Rep.mono s h) (b7.mono s r)
theorem wL.mono{F F':Hp}(s:av F F'){ks:List (Key×V)}{kvs:List (D×D)}:wL F ks kvs->wL F' ks kvs
 | .nil=>.nil
 | .cons h r=>.cons (Rep.mono s h) (wL.mono s r)
theorem cX.mono{F F':Hp}(s:av F F'){ks:List (List Key×V)}{kvs:List (D×D)}:cX F ks kvs->cX F' ks kvs
 | .nil=>.nil
 | .cons h r=>.cons (Rep.mono s h) (cX.mono s r)
theorem aD.mono{F F':Hp}(s:av F F'){vs:List V}{ds:List D}:aD F vs ds->aD F' vs ds
 | .nil=>.nil
 | .cons h r=>.cons (Rep.mono s h) (aD.mono s r)
end
theorem aD.length{F:Hp}:∀ {vs:List V} {ds:List D},aD F vs ds->vs.length=ds.length
 | _,_,.nil=>rfl
 | _,_,.cons _ r=>by simp [aD.length r]
theorem aD.append{F:Hp}:∀ {vs ws:List V} {ds es:List D},aD F vs ds->aD F ws es->aD F (vs++ws) (ds++es)
 | _,_,_,_,.nil,s=>s
 | _,_,_,_,.cons h r,s=>.cons h (aD.append r s)
theorem aD.get{F:Hp}:∀ {vs:List V} {ds:List D} {i:Nat} {d:D},aD F vs ds->ds[i]?=some d->∃v,vs[i]?=some v/\Rep F v d
 | _,_,_,_,.nil,e=>by simp at e
 | _,_,0,_,.cons h _,e=>by simp at e;subst e;exact⟨_,by simp,h⟩
 | _,_,i+1,_,.cons _ r,e=>by
  obtain⟨v,h1,h2⟩:=aD.get (i:=i) r (by simpa using e)
  exact⟨v,by simpa using h1,h2⟩
theorem aD.get'{F:Hp}:∀ {vs:List V} {ds:List D} {i:Nat} {v:V},aD F vs ds->vs[i]?=some v->∃d,ds[i]?=some d/\Rep F v d
 | _,_,_,_,.nil,e=>by simp at e
 | _,_,0,_,.cons h _,e=>by simp at e;subst e;exact⟨_,by simp,h⟩
 | _,_,i+1,_,.cons _ r,e=>by
  obtain⟨v,h1,h2⟩:=aD.get' (i:=i) r (by simpa using e)
  exact⟨v,by simpa using h1,h2⟩
theorem aD.set{F:Hp}{v:V}{d:D}(h:Rep F v d):∀ {vs:List V} {ds:List D} (i:Nat),aD F vs ds->aD F (vs.set i v) (ds.set i d)
 | _,_,_,.nil=>.nil
 | _,_,0,.cons _ t=>.cons h t
 | _,_,i+1,.cons q t=>.cons q (aD.set h i t)
theorem aD.take{F:Hp}:∀ {vs:List V} {ds:List D} (n:Nat),aD F vs ds->aD F (vs.take n) (ds.take n)
 | _,_,0,_=>.nil
 | _,_,_+1,.nil=>.nil
 | _,_,n+1,.cons h r=>.cons h (aD.take n r)
theorem aD.drop{F:Hp}:∀ {vs:List V} {ds:List D} (n:Nat),aD F vs ds->aD F (vs.drop n) (ds.drop n)
 | _,_,0,r=>r
 | _,_,_+1,.nil=>.nil
 | _,_,n+1,.cons _ r=>aD.drop n r
theorem aD.rep{F:Hp}{vs:List V}{ds:List D}(r:aD F vs ds):∀n:Nat,aD F (List.replicate n vs).flatten (List.replicate n ds).flatten
 | 0=>.nil
 | n+1=>by
  rw[List.replicate_succ,List.replicate_succ,List.flatten_cons,List.flatten_cons];exact r.append (aD.rep r n)
def cQ(F H:Hp)(v:V)(d:D):Prop:=match d with
 | .lst xs=>∃a vs,v=.ref a/\Rd H a (.lst vs)/\aD F vs xs
 | .o5 kvs=>∃a ks,v=.ref a/\H a=some (.dK ks)/\b7 F ks kvs
 | .kp w c e kvs=>∃a dx ad ks,v=.ref a/\H a=some (.ins (KF.cls "Kept") dx (kpF w c e ad))/\H ad=some (.dK ks)/\b7 F ks kvs
 | d=>Rep F v d
theorem aK{H:Hp}{p:Addr}{o:HO}(h:H p=none):av H (upd H p o):=λb u e=>by
 rw[aq (ck e h)];exact e
theorem fW{F H:Hp}(s:av F H){a:Addr}{o:HO}(e:H a=some o):∃F',av F F'/\av F' H/\F' a=some o/\∀c u,F' c=some u->F c=some u\/(c=a/\u=o):=by
 cases ef:F a with
 | none =>
  refine⟨upd F a o,aK ef,λb u q=>?_,ay,λc u q=>?_⟩
  ·by_cases hb:b=a
   ·subst hb;rw[ay]at q;cases q;exact e
   ·rw[aq hb]at q;exact s b u q
  ·by_cases hb:c=a
   ·subst hb;rw[ay]at q;cases q;exact .inr ⟨rfl,rfl⟩
   ·rw[aq hb]at q;exact .inl q
 | some u =>
  have:=s a u ef;rw[e]at this;cases this;exact⟨F,av.refl _,s,ef,λ_ _ z=>.inl z⟩
def dl:HO->Bool
 | .dK _=>true
 | .ins _ _ _=>true
 | _=>false
structure O where
 fp:Addr->List Addr
 rep:Hp->Hp->Addr->Prop
 solid:∀ {F H:Hp} {a b:Addr} {φ:Heap->Prop},rep F H a->b∈fp a->H b≠some (.ext φ)
 nt:∀ {F H:Hp} {a b:Addr} {vs:List V},rep F H a->b∈fp a->H b≠some (.tup vs)
 mono:∀ {F F' H H':Hp} {a:Addr},av F F'->(∀b∈fp a,H' b=H b)->rep F H a->rep F' H' a
 /-- what it is as data,where it is that -/
 view:Option D:=none
 sees:∀ {F H:Hp} {a:Addr} {d:D},rep F H a->view=some d->cQ F H (.ref a) d:=by intro _ _ _ _ _ e;cases e
 lend:∀ {F H:Hp} {a:Addr} {d:D},av F H->rep F H a->view=some d->∃F',av F F'/\av F' H/\Rep F' (.ref a) d/\∀c u,F' c=some u->F c=some u\/(dl u=true/\c∈fp a):=by intro _ _ _ _ _ _ e;cases e
 /-- what it is as data when it is lent as a whole -/
 deep:Option D:=none
 J8:∀ {F H:Hp} {a:Addr} {d:D},av F H->rep F H a->deep=some d->∃F',av F F'/\av F' H/\Rep F' (.ref a) d:=by intro _ _ _ _ _ _ e;cases e
 /-- where it stands -/
 loc:Option Addr:=none
 Wc:∀ {F H:Hp} {a b:Addr},rep F H a->loc=some b->a=b:=by intro _ _ _ _ _ e;cases e
inductive B where
 | sh (d:D)
 | own (xs:List D)
 | obj (o:O)
abbrev Sd:=List (Option B)
structure bK where
 H0:Hp
 F0:Hp
 io:List (Nat×Addr)
 /-- the addresses of things that were handed in to be changed -/
 ob:List Addr
def bK.Ng(Y:bK):List Addr:=Y.io.map (·.2)
def bK.Be(Y:bK):List Addr:=Y.io.map (·.2)++Y.ob
theorem bK.yL{Y:bK}{a:Addr}(h:a∉Y.Be):a∉Y.Ng:=λz=>h (List.mem_append_left _ z)
def gm(ak:Sd)(σ:St)(b:Addr):Prop:=∃(i:Nat) (o:O) (a:Addr),ak[i]?=some (some (.obj o))/\σ[i]?=some (some (.ref a))/\b∈o.fp a
def ky(F:Hp):Prop:=∀q∈KF.tabs,F q.1=some (.lam q.2.1 q.2.2.1 q.2.2.2)
theorem ky.mono{F F':Hp}(h:ky F)(s:av F F'):ky F':=λq hq=>s _ _ (h q hq)
def tj(F H:Hp):Prop:=av F H/\ky F
structure sX(Y:bK)(F:Hp)(ak:Sd)(σ:St)(H:Hp):Prop where
 obj:∀(i:Nat) (o:O),ak[i]?=some (some (.obj o))->∃a,σ[i]?=some (some (.ref a))/\o.rep F H a/\∀b∈o.fp a,F b=none/\H b≠none/\(Y.H0 b=none\/b∈Y.ob)
 tU:∀(i j:Nat) (o p:O) (a b:Addr),ak[i]?=some (some (.obj o))->ak[j]?=some (some (.obj p))->σ[i]?=some (some (.ref a))->σ[j]?=some (some (.ref b))->i≠j->∀c∈o.fp a,c∉p.fp b
 iY:∀(j:Nat) (xs:List D) (b:Addr),ak[j]?=some (some (.own xs))->σ[j]?=some (some (.ref b))->¬gm ak σ b
 there:∀b∈Y.ob,H b≠none
 Kr:∀b∈Y.ob,Y.H0 b≠none
 tab:ky F
theorem sX.owned{Y:bK}{F:Hp}{ak:Sd}{σ:St}{H:Hp}(X:sX Y F ak σ H){b:Addr}(h:gm ak σ b):F b=none/\H b≠none/\(Y.H0 b=none\/b∈Y.ob):=by
 obtain⟨i,o,a,e1,e2,hb⟩:=h;obtain⟨a',e3,_,h3⟩:=X.obj i o e1;rw[e2]at e3;cases e3;exact h3 b hb
theorem sX.J9{Y:bK}{F:Hp}{ak:Sd}{σ:St}{H:Hp}(X:sX Y F ak σ H){b:Addr}(h:gm ak σ b){vs:List V}:H b≠some (.tup vs):=by
 obtain⟨i,o,a,e1,e2,hb⟩:=h;obtain⟨a',e3,h2,_⟩:=X.obj i o e1;rw[e2]at e3;cases e3;exact o.nt h2 hb
theorem sX.step{Y Y':bK}{F F':Hp}{ak aL:Sd}{σ cq:St}{H H':Hp}(X:sX Y F ak σ H)(hs:av F F')
  (Yq:∀(i:Nat) (o:O),aL[i]?=some (some (.obj o))->ak[i]?=some (some (.obj o))/\cq[i]?=σ[i]?)
  (hb:∀b,gm ak σ b->H' b=H b/\F' b=none/\(Y'.H0 b=none\/b∈Y'.ob))
  (ZX:∀(j:Nat) (ys:List D) (b:Addr),aL[j]?=some (some (.own ys))->cq[j]?=some (some (.ref b))->¬gm ak σ b)
  (Z6:∀b∈Y'.ob,H' b≠none) (hz:∀b∈Y'.ob,b∈Y.ob/\(Y.H0 b≠none->Y'.H0 b≠none):=by exactλb hb=>⟨hb,id⟩):sX Y' F' aL cq H' where
 obj:=λi o e=>by
  obtain⟨e1,e2⟩:=Yq i o e;obtain⟨a,h1,h2,h3⟩:=X.obj i o e1;have ow:∀b∈o.fp a,gm ak σ b:=λb z=>⟨i,o,a,e1,h1,z⟩;refine⟨a,by rw[e2];exact h1,o.mono hs (λb z=>(hb b (ow b z)).1) h2,λb z=>⟨(hb b (ow b z)).2.1,?_,(hb b (ow b z)).2.2⟩⟩
  rw[(hb b (ow b z)).1];exact(h3 b z).2.1
 tU:=λi j o p a b e1 e2 e3 e4=>by
  obtain⟨q1,q2⟩:=Yq i o e1;obtain⟨q3,q4⟩:=Yq j p e2;rw[q2]at e3;rw[q4]at e4;exact X.tU i j o p a b q1 q3 e3 e4
 iY:=λj xs b e1 e2 ⟨i,o,a,e3,e4,hm⟩=>by
  obtain⟨q1,q2⟩:=Yq i o e3;rw[q2]at e4;exact ZX j xs b e1 e2 ⟨i,o,a,q1,e4,hm⟩
 there:=Z6
 Kr:=λb hb=>(hz b hb).2 (X.Kr b (hz b hb).1)
 tab:=X.tab.mono hs
theorem sX.put{Y:bK}{F:Hp}{ak:Sd}{σ cq:St}{H:Hp}{i:Nat}{b':Option B}(X:sX Y F ak σ H)(h1:∀j,j≠i->cq[j]?=σ[j]?)(hn:∀o,b'≠some (.obj o))
  (hw:∀ys a,b'=some (.own ys)->cq[i]?=some (some (.ref a))->¬gm ak σ a):sX Y F (ak.set i b') cq H:=by
 have gs:∀ {j:Nat} {y:Option B},(ak.set i b')[j]?=some y->(j=i/\y=b')\/(j≠i/\ak[j]?=some y):=λ{j y} h=>by
  by_cases hj:j=i
  ·subst hj
   by_cases hl:j<ak.length
   ·rw[List.getElem?_set_self hl]at h;exact .inl ⟨rfl,(Option.some.inj h).symm⟩
   ·have:(ak.set j b')[j]?=none:=by rw[List.getElem?_eq_none_iff];simp;omega
    rw[this]at h;cases h
  ·rw[List.getElem?_set_ne (Ne.symm hj)]at h;exact .inr ⟨hj,h⟩
 refine X.step (av.refl _) (λj o e=>?_) (λb hb=>⟨rfl,(X.owned hb).1,(X.owned hb).2.2⟩) (λj ys b e1 e2=>?_) X.there
 ·rcases gs e with⟨_,z⟩|⟨hj,z⟩
  ·exact absurd z.symm (hn o)
  ·exact⟨z,h1 j hj⟩
 ·rcases gs e1 with⟨rfl,z⟩|⟨hj,z⟩
  ·exact hw ys b z.symm e2
  ·rw[h1 j hj]at e2;exact X.iY j ys b z e2
theorem sX.none{Y:bK}{F:Hp}{ak:Sd}{σ:St}{H:Hp}(h:∀(i:Nat) (o:O),ak[i]?≠some (some (.obj o)))(Z5:ky F)(Z6:∀b∈Y.ob,H b≠none)(hz:∀b∈Y.ob,Y.H0 b≠none:=by intro b hb;cases hb):sX Y F ak σ H where
 Kr:=hz
 tab:=Z5
 obj:=λi o e=>absurd e (h i o)
 tU:=λi _ o _ _ _ e=>absurd e (h i o)
 iY:=λ_ _ _ _ _ ⟨i,o,_,e,_⟩=>h i o e
 there:=Z6
def Nw(H:Hp)(b:Addr)(o:HO):Prop:=H b=none\/∃vs,o=.tup vs
structure RS(Y:bK)(F:Hp)(ak:Sd)(σ:St)(H:Hp):Prop where
 len:ak.length=σ.length
 lo:av Y.F0 F
 fr:av F H
 fE:∀b o,F b=some o->Y.F0 b=some o\/Nw Y.H0 b o
 old:∀b o,Y.H0 b=some o->b∉Y.Be->H b=some o
 sh:∀(i:Nat) (d:D),ak[i]?=some (some (.sh d))->∃v,σ[i]?=some (some v)/\Rep F v d
 own:∀(i:Nat) (xs:List D),ak[i]?=some (some (.own xs))->∃a vs,σ[i]?=some (some (.ref a))/\H a=some (.lst vs)/\aD F vs xs/\F a=none/\(Y.H0 a=none\/a∈Y.Ng)
 dis:∀(i j:Nat) (xs ys:List D) (a:Addr),ak[i]?=some (some (.own xs))->ak[j]?=some (some (.own ys))->σ[i]?=some (some (.ref a))->σ[j]?=some (some (.ref a))->i=j
 io:∀p∈Y.io,σ[p.1]?=some (some (.ref p.2))/\∃xs,ak[p.1]?=some (some (.own xs))
 ob:sX Y F ak σ H
theorem E5{F H:Hp}{p:Addr}{o:HO}(s:av F H):av (upd F p o) (upd H p o):=λb u e=>by
 by_cases hb:b=p
 ·subst hb;rw[ay]at e ⊢;exact e
 ·rw[aq hb]at e ⊢;exact s b u e
theorem same_none{F H:Hp}(s:av F H){p:Addr}(h:H p=none):F p=none:=s.free h
theorem RS.cv{Y:bK}{F:Hp}{ak:Sd}{σ:St}{H:Hp}{p:Addr}(R:RS Y F ak σ H)(h:H p=none):Y.H0 p=none/\p∉Y.Be:=by
 have cY:p∉Y.Be:=λhm=>by
  rcases List.mem_append.mp hm with hm|hm
  case inr=>exact R.ob.there p hm h
  obtain⟨q,hq,e⟩:=List.mem_map.mp hm;obtain⟨h1,xs,h2⟩:=R.io q hq;obtain⟨a,vs,h3,h4,_⟩:=R.own _ _ h2;rw[h1]at h3;cases h3;rw[e,h]at h4;cases h4
 refine⟨?_,cY⟩;cases e:Y.H0 p with
 | none=>rfl
 | some o=>rw[R.old p o e cY]at h;cases h
theorem RS.alloc{Y:bK}{F:Hp}{ak:Sd}{σ:St}{H:Hp}{p:Addr}{o:HO}(R:RS Y F ak σ H)(h:H p=none):RS Y (upd F p o) ak σ (upd H p o) where
 len:=R.len
 lo:=R.lo.trans (aK (same_none R.fr h))
 fr:=E5 R.fr
 fE:=λb u e=>by
  by_cases hb:b=p
  ·subst hb;exact .inr (.inl (R.cv h).1)
  ·rw[aq hb]at e;exact R.fE b u e
 old:=λb u e n=>by
  have:=R.old b u e n;rw[aq (ck this h)];exact this
 sh:=λi d e=>by
  obtain⟨v,h1,h2⟩:=R.sh i d e;exact⟨v,h1,h2.mono (aK (same_none R.fr h))⟩
 own:=λi xs e=>by
  obtain⟨a,vs,h1,h2,h3,h4,h5⟩:=R.own i xs e;have cU:=ck h2 h;exact⟨a,vs,h1,by rw[aq cU];exact h2,h3.mono (aK (same_none R.fr h)),by rw[aq cU];exact h4,h5⟩
 dis:=R.dis
 io:=R.io
 ob:=R.ob.step (aK (same_none R.fr h)) (λi o e=>⟨e,rfl⟩) (λb hb=>by
  obtain⟨w1,w2,w3⟩:=R.ob.owned hb;have cU:b≠p:=λz=>w2 (z ▸ h);exact⟨aq cU,by rw[aq cU];exact w1,w3⟩) (λj ys b e1 e2=>R.ob.iY j ys b e1 e2) λb hb=>by
  have cU:b≠p:=λz=>R.ob.there b hb (z ▸ h);rw[aq cU];exact R.ob.there b hb
theorem RS.fw{Y:bK}{F:Hp}{ak:Sd}{σ:St}{H:Hp}{p:Addr}{o:HO}(R:RS Y F ak σ H)(h:H p=none):RS Y F ak σ (upd H p o) where
 len:=R.len
 lo:=R.lo
 fr:=R.fr.trans (aK h)
 fE:=R.fE
 old:=λb u e n=>aK h b u (R.old b u e n)
 sh:=R.sh
 own:=λi xs e=>by
  obtain⟨a,vs,h1,h2,h3,h4,h5⟩:=R.own i xs e;exact⟨a,vs,h1,aK h a _ h2,h3,h4,h5⟩
 dis:=R.dis
 io:=R.io
 ob:=R.ob.step (av.refl _) (λi o e=>⟨e,rfl⟩) (λb hb=>by
  obtain⟨w1,w2,w3⟩:=R.ob.owned hb;have cU:b≠p:=λz=>w2 (z ▸ h);exact⟨aq cU,w1,w3⟩) (λj ys b e1 e2=>R.ob.iY j ys b e1 e2) λb hb=>by
  have cU:b≠p:=λz=>R.ob.there b hb (z ▸ h);rw[aq cU];exact R.ob.there b hb
inductive EV where
 | val (d:D)|var (i:Nat)|own (xs:List D)|obj (o:O)|any
inductive OV where
 | val (d:D)|var (i:Nat)|any
abbrev TX:=Sd->(EV->Sd->Prop)->Prop
abbrev TV:=Sd->(OV->Sd->Prop)->Prop
abbrev TD:=Sd->(D->Sd->Prop)->Prop
abbrev TB:=Sd->(Bool->Sd->Prop)->Prop
abbrev fc:=Sd->(List D->Sd->Prop)->Prop
structure dQ(ak:Sd)(σ:St)(a:Addr):Prop where
 own:∀(j:Nat) (ys:List D),ak[j]?=some (some (.own ys))->σ[j]?≠some (some (.ref a))
 Od:¬gm ak σ a
instance {ak:Sd} {σ:St} {a:Addr}:CoeFun (dQ ak σ a) λ_=>∀(j:Nat) (ys:List D),ak[j]?=some (some (.own ys))->σ[j]?≠some (some (.ref a)):=⟨dQ.own⟩
theorem RS.c9{Y:bK}{F:Hp}{ak:Sd}{σ:St}{H:Hp}(R:RS Y F ak σ H){a:Addr}(h:H a=none):dQ ak σ a:=by
 refine⟨λj ys e z=>?_,λz=>(R.ob.owned z).2.1 h⟩;obtain⟨b,us,e1,e2,_⟩:=R.own j ys e;rw[e1]at z;cases z;rw[h]at e2;cases e2
def sZ(F:Hp)(σ:St)(v:V):OV->Prop
 | .val d=>Rep F v d
 | .var i=>σ[i]?=some (some v)
 | .any=>True
def KO(Y:bK)(F H:Hp)(ak:Sd)(σ:St)(v:V):EV->Prop
 | .val d=>Rep F v d
 | .var i=>σ[i]?=some (some v)
 | .own xs=>∃a vs,v=.ref a/\H a=some (.lst vs)/\aD F vs xs/\F a=none/\Y.H0 a=none/\dQ ak σ a
 | .obj o=>∃a,v=.ref a/\o.rep F H a/\∀b∈o.fp a,F b=none/\H b≠none/\Y.H0 b=none/\dQ ak σ b
 | .any=>True
def lX(Y:bK)(t:TX):TE:=λσ H Q=>∃F ak Qd,RS Y F ak σ H/\t ak Qd/\∀v H' F' x aL,av F F'->RS Y F' aL σ H'->KO Y F' H' aL σ v x->Qd x aL->Q v H'
def lO(Y:bK)(t:TV):TE:=λσ H Q=>∃F ak Qd,RS Y F ak σ H/\t ak Qd/\∀v H' F' x aL,av F F'->RS Y F' aL σ H'->sZ F' σ v x->Qd x aL->Q v H'
def lD(Y:bK)(t:TD):TE:=λσ H Q=>∃F ak Qd,RS Y F ak σ H/\t ak Qd/\∀v H' F' x aL,av F F'->RS Y F' aL σ H'->Rep F' v x->Qd x aL->Q v H'
def lB(Y:bK)(t:TB):TT:=λσ H Q=>∃F ak Qd,RS Y F ak σ H/\t ak Qd/\∀b H' F' aL,av F F'->RS Y F' aL σ H'->Qd b aL->Q b H'
def lDs(Y:bK)(t:fc):TA:=λσ H Q=>∃F ak Qd,RS Y F ak σ H/\t ak Qd/\∀vs H' F' xs aL,av F F'->RS Y F' aL σ H'->aD F' vs xs->Qd xs aL->Q vs H'
structure GE where
 P:Program
 w:World
 K:PySem.W.Frag
 mg:Str->Option Value
 base:Heap
structure Stat where
 N:List Str
 sc:List (Str×NameKind)
 ios:List Nat:=[]
 zP:Bool:=false
 /-- within an except suite -/
 kF:Bool:=false
 /-- a raise may stand here -/
 rs:Bool:=false
 /-- what is wanted where an exception of a class leaves -/
 ex:Str->Sd->Prop:=λ_ _=>False
def Zq(a T:Addr)(c:Str):HO:=.ext λh=>∃o vs a0,h.get? a=some o/\o.cls=.ref (KF.cls c)/\o.data=.fields vs/\vs[0]?=some a0/\vs[1]?=some (.ref T)
def tbO(T:Addr):HO:=.ext λh=>∃o ts,h.get? T=some o/\o.data=.fields ts/\ts[3]?=some .none
structure Tj(X:Cx)(Y:bK)(F H:Hp)(a T:Addr)(c:Str):Prop where
 fa:F a=none
 fT:F T=none
 ha:H a=some (Zq a T c)
 hT:H T=some (tbO T)
 ne:a≠T
 na:Y.H0 a=none
 nT:Y.H0 T=none
 la:X.dr.heap.get? a=none
 lT:X.dr.heap.get? T=none
def aak(a:Addr)(c:Str):HO:=.ext λh=>∃o vs a0,h.get? a=some o/\o.cls=.ref (KF.cls c)/\o.data=.fields vs/\vs[0]?=some a0/\vs[1]?=some .none
structure en(X:Cx)(G:GE)(k:Nat)(S:Stat)(Y:bK):Prop where
 P:X.prog=G.P
 w:X.w=G.w
 K:X.K=G.K
 kf:X.K=KF.K
 mg:X.mg=G.mg
 base:X.base=G.base
 N:X.N=S.N
 sc:X.env.scope.names=S.sc
 nd:S.N.Nodup
 ios:∀p∈Y.io,p.1∈S.ios
 obs:S.zP=false->S.ios=[]->Y.ob=[]
 calm:S.kF=false->X.calm=true
 kind:X.env.scope.kind=.function
 fn:S.zP=false->∀x,S.sc.lookup x=some .cell->X.fn x=true
 hd:S.kF=false->X.A.handled=none
 dp:X.A.depth+3*k+5<recursionLimit
 un:X.A.units+16*k+200<cLine
 po:S.kF=false->PassesOwn (model X.prog X.w) X.A X.env X.xe
 nx:S.zP=false->X.ex=[]/\X.stack=X.env::X.outer/\X.env.frame=some X.env.locals
 exc:∀c ak,S.ex c ak->∀pins σ H F s a T,L2.Inv X pins σ H s->RS Y F ak σ H->Tj X Y F H a T c->X.xe (.ref a) s
 made:S.rs=true->∀c ak,S.ex c ak->∀pins σ H F s a,L2.Inv X pins σ H s->RS Y F ak σ H->H a=some (aak a c)->Y.H0 a=none->X.dr.heap.get? a=none->X.xe (.ref a) s
theorem en.room{X:Cx}{G:GE}{k:Nat}{S:Stat}{Y:bK}(ok:en X G k S Y)(h:S.kF=false):iB k X.A:=⟨ok.hd h,ok.dp,ok.un⟩
theorem en.units{X:Cx}{G:GE}{k:Nat}{S:Stat}{Y:bK}(ok:en X G k S Y):X.A.units+64<cLine:=by have:=ok.un;omega
variable {G:GE}{k:Nat}{S:Stat}
structure EX(G:GE)(k:Nat)(S:Stat)(e:Expr)(t:TX) :Prop where
 run:∀X Y,en X G k S Y->PE X e (lX Y t)
instance {G:GE} {k:Nat} {S:Stat} {e:Expr} {t:TX} :CoeFun (EX G k S e t) λ_=>∀X Y,en X G k S Y->PE X e (lX Y t):=⟨EX.run⟩
structure EO(G:GE)(k:Nat)(S:Stat)(e:Expr)(t:TV) :Prop where
 run:∀X Y,en X G k S Y->PE X e (lO Y t)
instance {G:GE} {k:Nat} {S:Stat} {e:Expr} {t:TV} :CoeFun (EO G k S e t) λ_=>∀X Y,en X G k S Y->PE X e (lO Y t):=⟨EO.run⟩
structure ED(G:GE)(k:Nat)(S:Stat)(e:Expr)(t:TD) :Prop where
 run:∀X Y,en X G k S Y->PE X e (lD Y t)
instance {G:GE} {k:Nat} {S:Stat} {e:Expr} {t:TD} :CoeFun (ED G k S e t) λ_=>∀X Y,en X G k S Y->PE X e (lD Y t):=⟨ED.run⟩
structure EB(G:GE)(k:Nat)(S:Stat)(e:Expr)(t:TB) :Prop where
 run:∀X Y,en X G k S Y->PT X e (lB Y t)
instance {G:GE} {k:Nat} {S:Stat} {e:Expr} {t:TB} :CoeFun (EB G k S e t) λ_=>∀X Y,en X G k S Y->PT X e (lB Y t):=⟨EB.run⟩
structure wG(G:GE)(k:Nat)(S:Stat)(es:List Expr)(t:fc) :Prop where
 run:∀X Y,en X G k S Y->PA X es (lDs Y t)
instance {G:GE} {k:Nat} {S:Stat} {es:List Expr} {t:fc} :CoeFun (wG G k S es t) λ_=>∀X Y,en X G k S Y->PA X es (lDs Y t):=⟨wG.run⟩
def PR:Expr->Bool
 | .Starred _ _=>false
 | _=>true
theorem ig{e:Expr}{es:List Expr}{env:Env}(h:PR e=true):starEach (e::es) env=(false,eval e env)::starEach es env:=by
 cases e<;>first|rfl|cases h
theorem bo{X:Cx}{e:Expr}{t t':TE}(h:PE X e t)(i:∀σ H Q,t' σ H Q->t σ H Q):PE X e t':=λpins s σ H Q I q=>h pins s σ H Q I (i σ H Q q)
theorem xI{X:Cx}{e:Expr}{t t':TT}(h:PT X e t)(i:∀σ H Q,t' σ H Q->t σ H Q):PT X e t':=λpins s σ H Q I q=>h pins s σ H Q I (i σ H Q q)
theorem qY{X:Cx}{e:List Expr}{t t':TA}(h:PA X e t)(i:∀σ H Q,t' σ H Q->t σ H Q):PA X e t':=λpos pins s σ H Q I q=>h pos pins s σ H Q I (i σ H Q q)
theorem dE{X:Cx}{e:Stmt}{t t':TS}(h:PS X e t)(i:∀D σ H,t' D σ H->t D σ H):PS X e t':=λpins s σ H D I q=>h pins s σ H D I (i D σ H q)
theorem rn{X:Cx}{e:List Stmt}{t t':TS}(h:qe X e t)(i:∀D σ H,t' D σ H->t D σ H):qe X e t':=λpins s σ H D I q=>h pins s σ H D I (i D σ H q)
theorem RS.Ab{Y:bK}{F:Hp}{ak:Sd}{σ:St}{H:Hp}{a:Addr}{vs:List V}(R:RS Y F ak σ H)(h1:H a=some (.lst vs))(h2:F a=none)(h3:dQ ak σ a)(h4:Y.H0 a=none):RS Y (upd F a (.lst vs)) ak σ H where
 len:=R.len
 lo:=R.lo.trans (aK h2)
 fr:=λb o e=>by
  by_cases hb:b=a
  ·subst hb;rw[ay]at e;cases e;exact h1
  ·rw[aq hb]at e;exact R.fr b o e
 fE:=λb u e=>by
  by_cases hb:b=a
  ·subst hb;exact .inr (.inl h4)
  ·rw[aq hb]at e;exact R.fE b u e
 old:=R.old
 sh:=λi d e=>by
  obtain⟨v,q1,q2⟩:=R.sh i d e;exact⟨v,q1,q2.mono (aK h2)⟩
 own:=λi xs e=>by
  obtain⟨b,us,q1,q2,q3,q4,q5⟩:=R.own i xs e;have cU:b≠a:=λz=>h3 i xs e (by rw[q1,z])
  exact⟨b,us,q1,q2,q3.mono (aK h2),by rw[aq cU];exact q4,q5⟩
 dis:=R.dis
 io:=R.io
 ob:=R.ob.step (aK h2) (λi o e=>⟨e,rfl⟩) (λb hb=>by
  obtain⟨w1,w2,w3⟩:=R.ob.owned hb;have cU:b≠a:=λz=>h3.Od (z ▸ hb);exact⟨rfl,by rw[aq cU];exact w1,w3⟩) (λj ys b e1 e2=>R.ob.iY j ys b e1 e2) R.ob.there
def Yf:EV->OV
 | .val d=>.val d
 | .var i=>.var i
 | .own xs=>.val (.lst xs)
 | .obj _=>.any
 | .any=>.any
def aZ(t:TX):TV:=λσ Q=>t σ λx aA=>Q (Yf x) aA
theorem bf{e:Expr}{t:TX}(h:EX G k S e t):EO G k S e (aZ t):=.mk λX Y ok=>bo (h X Y ok) λσ H Q q=>by
 obtain⟨F,ak,Qd,R,q,K⟩:=q;refine⟨F,ak,_,R,q,λv H' F' x aL s R' r q'=>?_⟩;cases x with
 | val d=>exact K v H' F' (.val d) aL s R' r q'
 | var i=>exact K v H' F' (.var i) aL s R' r q'
 | own xs =>
  obtain⟨a,vs,rfl,h1,h2,h3,h4,h5⟩:=r;exact K _ H' _ (.val (.lst xs)) aL (s.trans (aK h3)) (R'.Ab h1 h3 h5 h4) (.lst (.inl ay) (h2.mono (aK h3))) q'
 | obj o=>exact K v H' F' .any aL s R' trivial q'
 | any=>exact K v H' F' .any aL s R' trivial q'
def oxV:OV->EV
 | .val d=>.val d
 | .var i=>.var i
 | .any=>.any
def oX(t:TV):TX:=λσ Q=>t σ λx aA=>Q (oxV x) aA
theorem jj{e:Expr}{t:TV}(h:EO G k S e t):EX G k S e (oX t):=.mk λX Y ok=>bo (h X Y ok) λσ H Q q=>by
 obtain⟨F,ak,Qd,R,q,K⟩:=q;refine⟨F,ak,_,R,q,λv H' F' x aL s R' r q'=>?_⟩;cases x with
 | val d=>exact K v H' F' (.val d) aL s R' r q'
 | var i=>exact K v H' F' (.var i) aL s R' r q'
 | any=>exact K v H' F' .any aL s R' trivial q'
theorem bg{α:Type}{l:List (Option α)}{i:Nat}{x:α}{y:Option α}(h:l[i]?=some (some x)):(l.set i y)[i]?=some y:=by
 have:=(List.getElem?_eq_some_iff.mp h).1;rw[List.getElem?_set_self this]
theorem bu{α:Type}{l:List (Option α)}{i j:Nat}{y:Option α}(h:j≠i):(l.set i y)[j]?=l[j]?:=by
 rw[List.getElem?_set_ne (Ne.symm h)]
theorem RS.kE{Y:bK}{F:Hp}{ak:Sd}{σ:St}{H:Hp}{i:Nat}{xs:List D}(R:RS Y F ak σ H)(h:ak[i]?=some (some (.own xs)))(cY:∀p∈Y.io,p.1≠i):
  ∃F' v,av F F'/\RS Y F' (ak.set i (some (.sh (.lst xs)))) σ H/\σ[i]?=some (some v)/\Rep F' v (.lst xs):=by
 obtain⟨a,vs,q1,q2,q3,q4,q5⟩:=R.own i xs h;have sm:=aK (o:=.lst vs) q4;have rep:Rep (upd F a (.lst vs)) (.ref a) (.lst xs):=.lst (.inl ay) (q3.mono sm);have Oc:Y.H0 a=none:=by
  rcases q5 with q5|q5
  ·exact q5
  ·obtain⟨p,hp,e⟩:=List.mem_map.mp q5
   obtain⟨w1,ys,w2⟩:=R.io p hp;exact absurd (R.dis p.1 i ys xs a w2 h (by rw[w1,e]) q1) (cY p hp)
 have obF:sX Y (upd F a (.lst vs)) (ak.set i (some (.sh (.lst xs)))) σ H:=R.ob.step sm (λj o e=>by
  have hj:j≠i:=λz=>by subst z;rw[bg h]at e;cases e
  rw[bu hj]at e;exact⟨e,rfl⟩) (λb hb=>by
  obtain⟨w1,w2,w3⟩:=R.ob.owned hb;have cU:b≠a:=λz=>R.ob.iY i xs a h q1 (z ▸ hb);exact⟨rfl,by rw[aq cU];exact w1,w3⟩) (λj ys b e1 e2=>by
  have hj:j≠i:=λz=>by subst z;rw[bg h]at e1;cases e1
  rw[bu hj]at e1;exact R.ob.iY j ys b e1 e2) R.ob.there
 refine⟨upd F a (.lst vs),.ref a,sm,⟨by simpa using R.len,R.lo.trans sm,λb o e=>?_,λb o e=>?_,R.old,λj d e=>?_,λj ys e=>?_,λj l ys zs b e1 e2 e3 e4=>?_,λp hp=>?_,obF⟩,q1,rep⟩
 ·by_cases hb:b=a
  ·subst hb;rw[ay]at e;cases e;exact q2
  ·rw[aq hb]at e;exact R.fr b o e
 ·by_cases hb:b=a
  ·subst hb;exact .inr (.inl Oc)
  ·rw[aq hb]at e;exact R.fE b o e
 ·by_cases hj:j=i
  ·subst hj
   rw[bg h]at e;cases e;exact⟨_,q1,rep⟩
  ·rw[bu hj]at e
   obtain⟨v,w1,w2⟩:=R.sh j d e;exact⟨v,w1,w2.mono sm⟩
 ·have hj:j≠i:=λz=>by subst z;rw[bg h]at e;cases e
  rw[bu hj]at e;obtain⟨b,us,w1,w2,w3,w4,w5⟩:=R.own j ys e;have cU:b≠a:=λz=>hj (R.dis j i ys xs a e h (z ▸ w1) q1);exact⟨b,us,w1,w2,w3.mono sm,by rw[aq cU];exact w4,w5⟩
 ·have hj:j≠i:=λz=>by subst z;rw[bg h]at e1;cases e1
  have hl:l≠i:=λz=>by subst z;rw[bg h]at e2;cases e2
  rw[bu hj]at e1;rw[bu hl]at e2;exact R.dis j l ys zs b e1 e2 e3 e4
 ·obtain⟨w1,ys,w2⟩:=R.io p hp
  exact⟨w1,ys,by rw[bu (cY p hp)];exact w2⟩
def Sf(ios:List Nat)(x:OV)(aA:Sd)(Q:D->Sd->Prop):Prop:=match x with
 | .val d=>Q d aA
 | .any=>False
 | .var i=>match aA[i]? with
  | some (some (.own xs))=>i∉ios/\Q (.lst xs) (aA.set i (some (.sh (.lst xs))))
  | some (some (.sh d))=>Q d aA
  | _=>False
theorem kn{ios:List Nat}{d:D}{aA:Sd}{Q:D->Sd->Prop}:Sf ios (.val d) aA Q=Q d aA:=rfl
theorem ko{ios:List Nat}{i:Nat}{aA:Sd}{Q:D->Sd->Prop}:Sf ios (.var i) aA Q=(match aA[i]? with
  | some (some (.own xs))=>i∉ios/\Q (.lst xs) (aA.set i (some (.sh (.lst xs))))
  | some (some (.sh d))=>Q d aA
  | _=>False):=rfl
def ao(ios:List Nat)(t:TV):TD:=λσ Q=>t σ λx aA=>Sf ios x aA Q
theorem aJ{e:Expr}{t:TV}(h:EO G k S e t):ED G k S e (ao S.ios t):=.mk λX Y ok=>bo (h X Y ok) λσ H Q q=>by
 obtain⟨F,ak,Qd,R,q,K⟩:=q;refine⟨F,ak,_,R,q,λv H' F' x aL s R' r q'=>?_⟩;cases x with
 | val d=>exact K v H' F' d aL s R' r q'
 | any=>exact False.elim q'
 | var i =>
  have r:σ[i]?=some (some v):=r;rw[ko]at q'
  split at q'
  ·rename_i xs e
   obtain⟨hi,q'⟩:=q';obtain⟨F2,v2,s2,R2,e2,r2⟩:=R'.kE e λp hp z=>hi (z ▸ ok.ios p hp);rw[r]at e2;cases e2;exact K v H' F2 _ _ (s.trans s2) R2 r2 q'
  ·rename_i d e
   obtain⟨v2,e2,r2⟩:=R'.sh i d e;rw[r]at e2;cases e2;exact K v H' F' d aL s R' r2 q'
  ·exact q'.elim
def ag(i:Nat):TV:=λσ Q=>match σ[i]? with
 | some (some (.sh d))=>Q (.val d) σ
 | some (some (.own _))=>Q (.var i) σ
 | _=>False
theorem af(i:Nat){x:Str}{pos:Pos}(hN:S.N[i]?=some x:=by rfl)(hv:S.sc.lookup x=some .local\/S.sc.lookup x=some .cell\/S.sc.lookup x=some .free:=by first|exact Or.inl rfl|exact Or.inr (Or.inl rfl)|exact Or.inr (Or.inr rfl))
  (hd:(x==("__debug__":Str))=false:=by decide) (qG:(x==("__classdict__":Str))=false:=by decide):EO G k S (.Name x pos) (ag i):=.mk λX Y ok =>
 bo (fY (X:=X) (i:=i) (by rw[ok.N];exact hN) (by unfold BE;rw[ok.sc];exact hv) hd qG) λσ H Q q=>by
  obtain⟨F,ak,Qd,R,q,K⟩:=q;unfold ag at q
  split at q
  ·rename_i d e
   obtain⟨v,e2,r2⟩:=R.sh i d e;exact⟨v,e2,K v H F (.val d) ak (av.refl _) R r2 q⟩
  ·rename_i xs e
   obtain⟨a,vs,e2,_⟩:=R.own i xs e;exact⟨_,e2,K _ H F (.var i) ak (av.refl _) R e2 q⟩
  ·exact q.elim
def bJ(d:D):TV:=λσ Q=>Q (.val d) σ
theorem m9{Y:bK}{v:V}{d:D}(r:∀F,Rep F v d)(σ:St)(H:Hp)(Q:VK)(q:lO Y (bJ d) σ H Q):tC v σ H Q:=by
 obtain⟨F,ak,Qd,R,q,K⟩:=q;exact K v H F (.val d) ak (av.refl _) R (r F) q
theorem aH{i j pos}:EO G k S (.Constant (.int i) j pos) (bJ (.int i)):=.mk λ_ _ _=>bo PC (m9 λ_=>.int i)
theorem jI{b j pos}:EO G k S (.Constant (.bool b) j pos) (bJ (.bl b)):=.mk λ_ _ _=>bo W5 (m9 λ_=>.bl b)
theorem EK{j pos}:EO G k S (.Constant .none j pos) (bJ .bD):=.mk λ_ _ _=>bo PD (m9 λ_=>.bD)
theorem Kh{x j pos}:EO G k S (.Constant (.str x) j pos) (bJ (.str x)):=.mk λ_ _ _=>bo PF (m9 λ_=>.str x)
def GB(G:GE)(x:Str)(d:D):Prop:=∃u v,G.mg x=some u/\RelV v u/\∀F,Rep F v d
theorem d7{X:Cx}{Y:bK}(ok:en X G k S Y){x:Str}(h:S.sc.lookup x=some .globalImplicit):Gl X x:=by
 unfold Gl;show X.env.scope.names.lookup x=_;rw[ok.sc];exact h
theorem y8{x:Str}{d:D}{pos:Pos}(h:GB G x d)(hg:S.sc.lookup x=some .globalImplicit:=by rfl)(hd:(x==("__debug__":Str))=false:=by decide):EO G k S (.Name x pos) (bJ d):=.mk λX Y ok=>by
 obtain⟨u,v,h1,h2,h3⟩:=h;exact bo (Ib (d7 ok hg) (by rw[ok.mg];exact h1) h2 hd) (m9 h3)
def eW(σ:Sd):OV->Option D
 | .val d=>some d
 | .any=>none
 | .var i=>match σ[i]? with
  | some (some (.sh d))=>some d
  | some (some (.own xs))=>some (.lst xs)
  | some (some (.obj o))=>o.view
  | _=>none
theorem Rep.h{F H:Hp}(s:av F H){v:V}{d:D}(r:Rep F v d):cQ F H v d:=by
 cases d with
 | lst xs =>
  cases r with
  | lst h r=>exact⟨_,_,rfl,Rd.mono s h,r⟩
 | o5 kvs =>
  cases r with
  | o5 h r=>exact⟨_,_,rfl,s _ _ h,r⟩
 | kp w c e kvs =>
  cases r with
  | kp h1 h2 r=>exact⟨_,_,_,_,rfl,s _ _ h1,s _ _ h2,r⟩
 | _=>exact r
theorem RS.eW{Y:bK}{F:Hp}{ak:Sd}{σ:St}{H:Hp}(R:RS Y F ak σ H){v:V}{x:OV}{d:D}(r:sZ F σ v x)(e:eW ak x=some d):cQ F H v d:=by
 cases x with
 | val d'=>cases e;exact Rep.h R.fr r
 | any=>cases e
 | var i =>
  have r:σ[i]?=some (some v):=r;have e:(match ak[i]? with|some (some (.sh d))=>some d|some (some (.own xs))=>some (.lst xs)|some (some (.obj o))=>o.view|_=>none)=some d:=e
  split at e
  ·rename_i d' q
   cases e;obtain⟨v2,e2,r2⟩:=R.sh i d q;rw[r]at e2;cases e2;exact Rep.h R.fr r2
  ·rename_i xs q
   cases e;obtain⟨a,vs,e2,h2,h3,_⟩:=R.own i xs q;rw[r]at e2;cases e2;exact⟨a,vs,rfl,.inl h2,h3⟩
  ·rename_i o q
   obtain⟨a,e2,h2,_⟩:=R.ob.obj i o q;rw[r]at e2;cases e2;exact o.sees h2 e
  ·cases e
theorem cQ.int{F H:Hp}{v:V}{i:Int}(r:cQ F H v (.int i)):v=.int i:=by cases(show Rep F v (.int i)from r);rfl
theorem cQ.bl{F H:Hp}{v:V}{i:Bool}(r:cQ F H v (.bl i)):v=.bl i:=by cases(show Rep F v (.bl i)from r);rfl
theorem cQ.str{F H:Hp}{v:V}{i:Str}(r:cQ F H v (.str i)):v=.str i:=by cases(show Rep F v (.str i)from r);rfl
theorem cQ.bD{F H:Hp}{v:V}(r:cQ F H v .bD):v=.bD:=by cases(show Rep F v .bD from r);rfl
theorem cQ.tup{F H:Hp}(s:av F H){v:V}{xs:List D}(r:cQ F H v (.tup xs)):∃a vs,v=.ref a/\H a=some (.tup vs)/\aD F vs xs:=by
 cases(show Rep F v (.tup xs)from r)with
 | tup h r=>exact⟨_,_,rfl,s _ _ h,r⟩
theorem cQ.lst{F H:Hp}{v:V}{xs:List D}(r:cQ F H v (.lst xs)):∃a vs,v=.ref a/\Rd H a (.lst vs)/\aD F vs xs:=r
def Goes(Y:bK)(F:Hp)(ak:Sd)(σ:St)(Qd:EV->Prop)(Q:VK):Prop:=∀v H' F' r,av F F'->RS Y F' ak σ H'->KO Y F' H' ak σ v r->Qd r->Q v H'
theorem Goes.val{Y:bK}{F:Hp}{ak:Sd}{σ:St}{Qd:EV->Prop}{Q:VK}(g:Goes Y F ak σ Qd Q){H:Hp}(R:RS Y F ak σ H){v:V}{d:D}(r:Rep F v d)(q:Qd (.val d)):Q v H:=g v H F (.val d) (av.refl _) R r q
theorem Goes.own{Y:bK}{F:Hp}{ak:Sd}{σ:St}{Qd:EV->Prop}{Q:VK}(g:Goes Y F ak σ Qd Q){H:Hp}(R:RS Y F ak σ H){vs:List V}{xs:List D}(r:aD F vs xs)(q:Qd (.own xs)):∀p,H p=none->Q (.ref p) (upd H p (.lst vs)):=λp hp=>by
 refine g (.ref p) _ F (.own xs) (av.refl _) (R.fw hp) ⟨p,vs,rfl,ay,r,same_none R.fr hp,(R.cv hp).1,⟨λj ys e z=>?_,λz=>(R.ob.owned z).2.1 hp⟩⟩ q;obtain⟨a,us,e1,e2,_⟩:=R.own j ys e;rw[e1]at z;cases z;rw[hp]at e2;cases e2
theorem Goes.tup{Y:bK}{F:Hp}{ak:Sd}{σ:St}{Qd:EV->Prop}{Q:VK}(g:Goes Y F ak σ Qd Q){H:Hp}(R:RS Y F ak σ H){vs:List V}{xs:List D}(r:aD F vs xs)(q:Qd (.val (.tup xs))):∀p,H p=none->Q (.ref p) (upd H p (.tup vs)):=λp hp=>by
 have sm:=aK (o:=.tup vs) (same_none R.fr hp);exact g (.ref p) _ _ (.val (.tup xs)) sm (R.alloc hp) (.tup ay (r.mono sm)) q
def hW(r:R2)(f:D->D->(EV->Prop)->Prop):Prop:=
 ∀Y F H ak σ v u x y Qd Q,RS Y F ak σ H->cQ F H v x->cQ F H u y->f x y Qd->Goes Y F ak σ Qd Q->r v u H Q
def bI(f:D->D->(EV->Prop)->Prop)(ta tb:TV):TX:=λσ Q=>ta σ λx aA=>tb aA λy bh=>match eW bh x,eW bh y with
 | some a,some b=>f a b λr=>Q r bh
 | _,_=>False
theorem sZ.mono{F F':Hp}(s:av F F'){σ:St}{v:V}{x:OV}(r:sZ F σ v x):sZ F' σ v x:=by
 cases x with
 | val d=>exact Rep.mono s r
 | var i=>exact r
 | any=>trivial
theorem xT{Y:bK}{r:R2}{f:D->D->(EV->Prop)->Prop}(hs:hW r f){ta tb:TV}{σ:St}{H:Hp}{Q:VK}(q:lX Y (bI f ta tb) σ H Q):S4 r (lO Y ta) (lO Y tb) σ H Q:=by
 obtain⟨F,ak,Qd,R,q,K⟩:=q;refine⟨F,ak,_,R,q,λv1 H1 F1 x aA s1 R1 r1 q1=>?_⟩;refine⟨F1,aA,_,R1,q1,λv2 H2 F2 y bh s2 R2 r2 q2=>?_⟩
 split at q2
 ·rename_i a b ea eb
  exact hs Y F2 H2 bh σ v1 v2 a b _ Q R2 (R2.eW (r1.mono s2) ea) (R2.eW r2 eb) q2 λv H' F' r s R' rr qq=>K v H' F' r bh ((s1.trans s2).trans s) R' rr qq
 ·exact q2.elim
theorem pR{op:Operator}{f:D->D->(EV->Prop)->Prop}{r:PySem.W.Frag->R2}(ho:∀X,iU X (binaryOp op) (r X.K))(hs:∀K,hW (r K) f){a b:Expr}{ta tb:TV}{pos:Pos}(ha:EO G k S a ta)(hb:EO G k S b tb):
  EX G k S (.BinOp a op b pos) (bI f ta tb):=.mk λX Y ok=>bo (W7 (ho X) (ha X Y ok) (hb X Y ok)) λσ H Q q=>xT (hs X.K) q
def eY:D->D->(EV->Prop)->Prop
 | .int i,.int j,Q=>Q (.val (.int (i+j)))
 | .str a,.str b,Q=>a.length+b.length<=sizeLine/\Q (.val (.str (a++b)))
 | .lst a,.lst b,Q=>a.length+b.length<=sizeLine/\Q (.own (a++b))
 | .tup a,.tup b,Q=>(a≠[]/\a.length+b.length<=sizeLine)/\Q (.val (.tup (a++b)))
 | _,_,_=>False
def Kd:R2:=λx y H Q=>∃l b xs zs,x=.ref l/\y=.ref b/\Rd H l (.lst xs)/\Rd H b (.lst zs)/\xs.length+zs.length<=sizeLine/\∀p,H p=none->Q (.ref p) (upd H p (.lst (xs++zs)))
theorem Inv.rdL{X:Cx}{pins:List (Addr×Obj)}{σ:St}{H:Hp}{s:Shared}{l:Addr}{xs:List V}(I:L2.Inv X pins σ H s)(h:Rd H l (.lst xs)):
  xs.length<=sizeLine/\∃(its:List Value) (n:Nat),Vals xs its/\xs.length=its.length/\s.heap.get? l=some {cls:=.type "list",data:=.seq its.toArray n}:=by
 obtain⟨z,its,n,r,e⟩:=L2.Rd.ok h I.bU;exact⟨z,its,n,r,r.length,e⟩
theorem HN{X:Cx}:iU X (binaryOp .Add) Kd:=by
 intro pins s σ H x y v u Q I rx ry h;obtain⟨l,b,xs,zs,rfl,rfl,hH,hB,hz,q⟩:=h;cases rx;cases ry;obtain⟨z,its,n,r,hl,e⟩:=Inv.rdL I hH;obtain⟨z2,Nm,n2,r2,pj,e2⟩:=Inv.rdL I hB;refine PySem.P.add_list e e2 ?_ (by rw[List.size_toArray,List.size_toArray];omega)
 have ea:its.toArray++Nm.toArray=(its++Nm).toArray:=by simp
 rw[ea];exact⟨.ref _,_,I.N6 (t':=s.toks) (r.append r2) (by rw[List.length_append];omega),rfl,q _ I.fresh⟩
def Ir(K:PySem.W.Frag):R2:=λx y H Q=>(∃i j,x=.int i/\y=.int j/\Q (.int (i+j)) H)\/(∃i j,x=.str i/\y=.str j/\i.length+j.length<=sizeLine/\Q (.str (i++j)) H)\/Kd x y H Q\/Ke K x y H Q
theorem Az{X:Cx}:iU X (binaryOp .Add) (Ir X.K):=Pa.or (xB.or (HN.or HP))
theorem zM(K:PySem.W.Frag):hW (Ir K) eY:=by
 intro Y F H ak σ v u x y Qd Q R rx ry q g;unfold eY at q
 split at q
 ·obtain rfl:=rx.int;obtain rfl:=ry.int
  exact .inl ⟨_,_,rfl,rfl,g.val R (.int _) q⟩
 ·obtain rfl:=rx.str;obtain rfl:=ry.str
  exact .inr (.inl ⟨_,_,rfl,rfl,q.1,g.val R (.str _) q.2⟩)
 ·obtain⟨a,vs,rfl,h1,r1⟩:=rx.lst;obtain⟨b,us,rfl,h2,r2⟩:=ry.lst
  exact .inr (.inr (.inl ⟨a,b,vs,us,rfl,rfl,h1,h2,by rw[r1.length,r2.length];exact q.1,g.own R (r1.append r2) q.2⟩))
 ·have rx':=rx
  obtain⟨a,vs,rfl,h1,r1⟩:=rx.tup R.fr;obtain⟨b,us,rfl,h2,r2⟩:=ry.tup R.fr;refine .inr (.inr (.inr ⟨a,b,vs,us,rfl,rfl,.of h1,.of h2,λz=>?_,by rw[r1.length,r2.length];exact q.1.2,λz=>?_,λ_=>g.tup R (r1.append r2) q.2⟩))
  ·subst z
   cases r1;exact q.1.1 rfl
  ·subst z
   cases r2;rw[List.append_nil]at q;exact g.val R rx' q.2
 ·exact q.elim
theorem d9{a b:Expr}{ta tb:TV}{pos:Pos}(ha:EO G k S a ta)(hb:EO G k S b tb):EX G k S (.BinOp a .Add b pos) (bI eY ta tb):=pR (r:=Ir) (λ_=>Az) zM ha hb
def SQ(C:Int->Int->Prop)(g:Int->Int->Int):D->D->(EV->Prop)->Prop
 | .int i,.int j,Q=>C i j/\Q (.val (.int (g i j)))
 | _,_,_=>False
theorem mX{C:Int->Int->Prop}{g:Int->Int->Int}:hW (rI C λi j=>.int (g i j)) (SQ C g):=by
 intro Y F H ak σ v u x y Qd Q R rx ry q gg;unfold SQ at q
 split at q
 ·obtain rfl:=rx.int;obtain rfl:=ry.int
  exact⟨_,_,rfl,rfl,q.1,gg.val R (.int _) q.2⟩
 ·exact q.elim
def Hj(g:Int->Int->Int):D->D->(EV->Prop)->Prop
 | .int i,.int j,Q=>Q (.val (.int (g i j)))
 | _,_,_=>False
theorem Aj{g:Int->Int->Int}:hW (Gy λi j=>.int (g i j)) (Hj g):=by
 intro Y F H ak σ v u x y Qd Q R rx ry q gg;unfold Hj at q
 split at q
 ·obtain rfl:=rx.int;obtain rfl:=ry.int
  exact⟨_,_,rfl,rfl,gg.val R (.int _) q⟩
 ·exact q.elim
section
variable {a b:Expr}{ta tb:TV}{pos:Pos}
def lY:=Hj λi j=>i-j
def xu:=SQ (λ_ j=>0<j) λi j=>i%j
def xF:=SQ sV λi j=>i^j.toNat
theorem iR(ha:EO G k S a ta)(hb:EO G k S b tb):EX G k S (.BinOp a .Sub b pos) (bI lY ta tb):=pR (r:=λ_=>_) (λ_=>Pl) (λ_=>Aj) ha hb
theorem vC(ha:EO G k S a ta)(hb:EO G k S b tb):EX G k S (.BinOp a .Mod b pos) (bI xu ta tb):=pR (r:=λ_=>_) (λ_=>Pg) (λ_=>mX) ha hb
theorem vE(ha:EO G k S a ta)(hb:EO G k S b tb):EX G k S (.BinOp a .Pow b pos) (bI xF ta tb):=pR (r:=λ_=>_) (λ_=>Pk) (λ_=>mX) ha hb
end
def jF:D->D->(EV->Prop)->Prop
 | .int i,.int j,Q=>iw i j/\Q (.val (.int (i*j)))
 | .lst xs,.int j,Q=>(-(2^63)<=j/\j<2^63/\xs.length*j.toNat<=sizeLine)/\Q (.own (List.replicate j.toNat xs).flatten)
 | _,_,_=>False
def Kf:R2:=λx y H Q=>∃l k xs,x=.ref l/\y=.int k/\Rd H l (.lst xs)/\-(2^63)<=k/\k<2^63/\xs.length*k.toNat<=sizeLine /\
 ∀p,H p=none->Q (.ref p) (upd H p (.lst (List.replicate k.toNat xs).flatten))
theorem HU{X:Cx}:iU X (binaryOp .Mult) Kf:=by
 intro pins s σ H x y v u Q I rx ry h;obtain⟨l,k,xs,rfl,rfl,hH,h1,h2,hz,q⟩:=h;cases rx;obtain⟨t,rfl⟩:=ry;obtain⟨z,its,n,r,hl,e⟩:=Inv.rdL I hH;have hlen:its.toArray.size*k.toNat<=sizeLine:=by rw[List.size_toArray,<- hl];exact hz
 have Ad:¬its.toArray.size*k.toNat>(2^63-1)/8:=by
  have:(sizeLine:Nat)<=(2^63-1)/8:=by decide
  omega
 have ZI:¬(!Builtin.List.listFitsIndex k)=true:=by
  rw[fitsIndex_both h1 h2];exact Bool.false_ne_true
 have Vz:¬Builtin.List.listTooLong (its.toArray.size*k.toNat)=true:=by
  rw[D7 hlen];exact Bool.false_ne_true
 have qK:List.foldl (λx1 x2=>x1++x2) #[] (List.replicate (if its.toArray.isEmpty=true then 0 else k.toNat) its.toArray)=(List.replicate k.toNat its).flatten.toArray:=by
  have f0:∀m:Nat,List.foldl (λx1 x2=>x1++x2) #[] (List.replicate m its.toArray)=(List.replicate m its).flatten.toArray:=λm=>by
   have:=foldl_rep its m [];rw[List.nil_append]at this;exact this
  rw[f0];cases its with
  | nil=>simp
  | cons a r'=>rw[if_neg (by simp)]
 refine wpAny_binaryOp_repeat_ref (T:="list") (U:="int") ∅ ⟨_,e,rfl⟩ (λs'=>typeIs_int s' k t) noFill_list_mul F.fills_int_mul F.slot_int_rmul repeat_list F.slot_int_index.lookup
  (call_meets F.slot_int_rmul (typeIs_int s k t) F.entry_int_rmul (F.args_int_rmul_2 _ _) (int___rmul___int_list k t l its.toArray n)
   ⟨e,rfl,⟨_,e,rfl⟩,call_meets F.slot_list_mul ⟨_,e,rfl⟩ F.entry_list_mul (F.args_list_mul_2 _ _) (AutoListH.list___mul___list_int_3 l its.toArray n k t ZI Ad Vz) ⟨e,?_⟩⟩)
 rw[qK];exact⟨.ref _,_,I.N6 (t':=s.toks) (r.rep k.toNat) (by rw[len_rep,Nat.mul_comm];exact hz),rfl,q _ I.fresh⟩
def Xn:R2:=λx y H Q=>rI iw (λi j=>.int (i*j)) x y H Q\/Kf x y H Q
theorem Av:hW Xn jF:=by
 intro Y F H ak σ v u x y Qd Q R rx ry q g;unfold jF at q
 split at q
 ·obtain rfl:=rx.int;obtain rfl:=ry.int
  exact .inl ⟨_,_,rfl,rfl,q.1,g.val R (.int _) q.2⟩
 ·obtain⟨a,vs,rfl,h1,r1⟩:=rx.lst;obtain rfl:=ry.int
  exact .inr ⟨a,_,vs,rfl,rfl,h1,q.1.1,q.1.2.1,by rw[r1.length];exact q.1.2.2,g.own R (r1.rep _) q.2⟩
 ·exact q.elim
theorem iQ{a b:Expr}{ta tb:TV}{pos:Pos}(ha:EO G k S a ta)(hb:EO G k S b tb):EX G k S (.BinOp a .Mult b pos) (bI jF ta tb):=pR (r:=λ_=>Xn) (λ_=>Ph.or HU) (λ_=>Av) ha hb
def IL(t:TV):TV:=λσ Q=>t σ λx aA=>match eW aA x with
 | some (.int i)=>Q (.val (.int (-i))) aA
 | _=>False
theorem Kg{a:Expr}{ta:TV}{pos:Pos}(ha:EO G k S a ta):EO G k S (.UnaryOp .USub a pos) (IL ta):=.mk λX Y ok=>bo (W8 Se (ha X Y ok)) λσ H Q q=>by
 obtain⟨F,ak,Qd,R,q,K⟩:=q;refine⟨F,ak,_,R,q,λv1 H1 F1 x aA s1 R1 r1 q1=>?_⟩
 split at q1
 ·rename_i i e
  obtain rfl:=(R1.eW r1 e).int;exact⟨i,rfl,K _ H1 F1 (.val (.int (-i))) aA s1 R1 (.int _) q1⟩
 ·exact q1.elim
end Vc
namespace Vc
open PySem L2
variable [KF]
variable {G:GE}{k:Nat}{S:Stat}
mutual
def fB:D->D->Bool
 | .bD,.bD=>true
 | .bl a,.bl b=>a==b
 | .bl a,.int j=>(if a then 1 else 0)==j
 | .int i,.bl b=>i==(if b then 1 else 0)
 | .int i,.int j=>i==j
 | .str x,.str y=>x==y
 | .lst xs,.lst ys=>mP xs ys
 | .tup xs,.tup ys=>mP xs ys
 | _,_=>false
def mP:List D->List D->Bool
 | [],[]=>true
 | x::xs,y::ys=>fB x y&&mP xs ys
 | _,_=>false
end
def cc:Nat->D->Bool
 | _,.bD=>true
 | _,.bl _=>true
 | _,.int _=>true
 | _,.str x=>x.cps.all (· < 0x110000)
 | n+1,.tup xs=>xs.all (cc n)
 | n+1,.lst xs=>xs.all (cc n)
 | _,_=>false
mutual
def toPy:D->PyData
 | .bD=>.none
 | .bl b=>.bool b
 | .int i=>.int i
 | .str x=>.str x
 | .tup xs=>.tuple (gw xs)
 | .lst xs=>.list (gw xs)
 | _=>.none
def gw:List D->List PyData
 | []=>[]
 | x::xs=>toPy x::gw xs
end
theorem qz{n m:Nat}(ih:∀x y,cc n x=true->cc m y=true->fB x y=PyData.eqv (toPy x) (toPy y)):∀xs ys:List D,xs.all (cc n)=true->ys.all (cc m)=true->mP xs ys=PyData.eqvAll (gw xs) (gw ys)
 | [],[],_,_=>rfl
 | [],_::_,_,_=>rfl
 | _::_,[],_,_=>rfl
 | x::xs,y::ys,h1,h2=>by
  rw[List.all_cons,Bool.and_eq_true]at h1 h2;show(fB x y&&mP xs ys)=(PyData.eqv (toPy x) (toPy y)&&PyData.eqvAll (gw xs) (gw ys));rw[ih x y h1.1 h2.1,qz ih xs ys h1.2 h2.2]
theorem CQ:∀(n m:Nat) (x y:D),cc n x=true->cc m y=true->fB x y=PyData.eqv (toPy x) (toPy y):=by
 intro n
 induction n with
 | zero =>
  intro m x y h1 h2;cases x with
  | tup _=>exact absurd h1 (by simp [cc])
  | lst _=>exact absurd h1 (by simp [cc])
  | dct _=>exact absurd h1 (by simp [cc])
  | exc _=>exact absurd h1 (by simp [cc])
  | j6 _=>exact absurd h1 (by simp [cc])
  | o5 _=>exact absurd h1 (by simp [cc])
  | kp _ _ _ _=>exact absurd h1 (by simp [cc])
  | _=>cases y<;>first|rfl | (cases m<;>exact absurd h2 (by simp [cc]))
 | succ n ih =>
  intro m x y h1 h2;cases x with
  | tup xs =>
   cases y with
   | tup ys =>
    cases m with
    | zero=>exact absurd h2 (by simp [cc])
    | succ m=>exact qz (ih m) xs ys h1 h2
   | _=>first|rfl | (cases m<;>exact absurd h2 (by simp [cc]))
  | lst xs =>
   cases y with
   | lst ys =>
    cases m with
    | zero=>exact absurd h2 (by simp [cc])
    | succ m=>exact qz (ih m) xs ys h1 h2
   | _=>first|rfl | (cases m<;>exact absurd h2 (by simp [cc]))
  | dct _=>exact absurd h1 (by simp [cc])
  | exc _=>exact absurd h1 (by simp [cc])
  | j6 _=>exact absurd h1 (by simp [cc])
  | o5 _=>exact absurd h1 (by simp [cc])
  | kp _ _ _ _=>exact absurd h1 (by simp [cc])
  | _=>cases y<;>first|rfl | (cases m<;>exact absurd h2 (by simp [cc]))
theorem ja{n:Nat}(ih:∀x,cc n x=true->(toPy x).canLay0=true/\(toPy x).depth<=n):∀xs:List D,xs.all (cc n)=true->PyData.canLayAll0 (gw xs)=true/\PyData.depthAll (gw xs)<=n
 | [],_=>⟨rfl,Nat.zero_le _⟩
 | x::xs,h=>by
  rw[List.all_cons,Bool.and_eq_true]at h;have h1:=ih x h.1;have h2:=ja ih xs h.2;refine⟨?_,?_⟩
  ·show((toPy x).canLay0&&PyData.canLayAll0 (gw xs))=true
   rw[h1.1,h2.1];rfl
  ·show max (toPy x).depth (PyData.depthAll (gw xs))<=n
   exact Nat.max_le.mpr ⟨h1.2,h2.2⟩
theorem HL:∀(n:Nat) (x:D),cc n x=true->(toPy x).canLay0=true/\(toPy x).depth<=n:=by
 intro n
 induction n with
 | zero =>
  intro x h;cases x with
  | tup _=>exact absurd h (by simp [cc])
  | lst _=>exact absurd h (by simp [cc])
  | dct _=>exact absurd h (by simp [cc])
  | exc _=>exact absurd h (by simp [cc])
  | j6 _=>exact absurd h (by simp [cc])
  | o5 _=>exact absurd h (by simp [cc])
  | kp _ _ _ _=>exact absurd h (by simp [cc])
  | _=>first|exact⟨rfl,Nat.zero_le _⟩ | (exact⟨by simpa [cc,toPy,PyData.canLay0,PyData.strOk]using h,Nat.zero_le _⟩)
 | succ n ih =>
  intro x h;cases x with
  | tup xs =>
   have:=ja ih xs h;exact⟨this.1,Nat.succ_le_succ this.2⟩
  | lst xs =>
   have:=ja ih xs h;exact⟨this.1,Nat.succ_le_succ this.2⟩
  | dct _=>exact absurd h (by simp [cc])
  | exc _=>exact absurd h (by simp [cc])
  | j6 _=>exact absurd h (by simp [cc])
  | o5 _=>exact absurd h (by simp [cc])
  | kp _ _ _ _=>exact absurd h (by simp [cc])
  | _=>first|exact⟨rfl,Nat.zero_le _⟩ | (exact⟨by simpa [cc,toPy,PyData.canLay0,PyData.strOk]using h,Nat.zero_le _⟩)
section
variable {P:Program}{w:World}{F H:Hp}{h:Heap}
mutual
theorem Rep.reads(ok:iI P w H h)(s:av F H):∀ {v:V} {d:D} {u:Value} (n:Nat),Rep F v d->RelV v u->cc n d=true->∃as,Reads h u (toPy d) as
 | _,_,_,_,.bD,e,_=>by cases e;exact⟨_,.none⟩
 | _,_,_,_,.bl b,e,_=>by cases e;exact⟨_,.bool b⟩
 | _,_,_,_,.int i,e,_=>by obtain⟨t,rfl⟩:=e;exact⟨_,.int i t⟩
 | _,_,_,_,.str x,e,_=>by obtain⟨t,rfl⟩:=e;exact⟨_,.str x t⟩
 | _,_,_,0,.tup _ _,_,o=>by exact absurd o (by simp [cc])
 | _,_,_,0,.lst _ _,_,o=>by exact absurd o (by simp [cc])
 | _,_,_,n+1,.tup (a:=a) (vs:=vs) hf r,e,o=>by
  cases e;obtain⟨_,its,rv,ob,ho,hc,m,hd⟩:=ok a _ (s a _ hf);obtain⟨as,q⟩:=aD.reads ok s n r rv o;exact⟨as,.tuple ho hc hd q⟩
 | _,_,_,n+1,.lst (a:=a) (vs:=vs) hf r,e,o=>by
  cases e;obtain⟨_,its,m,rv,ho⟩:=L2.Rd.ok (Rd.mono s hf) ok;obtain⟨as,q⟩:=aD.reads ok s n r rv o;exact⟨_,.list ho rfl rfl q⟩
 | _,_,_,n,.j6 _,_,o=>by cases n<;>exact absurd o (by simp [cc])
 | _,_,_,n,.exc _,_,o=>by cases n<;>exact absurd o (by simp [cc])
 | _,_,_,n,.zZ _ _,_,o=>by cases n<;>exact absurd o (by simp [cc])
 | _,_,_,n,.o5 _ _,_,o=>by cases n<;>exact absurd o (by simp [cc])
 | _,_,_,n,.kp _ _ _,_,o=>by cases n<;>exact absurd o (by simp [cc])
theorem aD.reads(ok:iI P w H h)(s:av F H):∀ {vs:List V} {ds:List D} {us:List Value} (n:Nat),aD F vs ds->Vals vs us->ds.all (cc n)=true->∃as,ReadsAll h us (gw ds) as
 | _,_,_,_,.nil,.nil,_=>⟨_,.nil⟩
 | _,_,_,n,.cons r t,.cons e f,o=>by
  rw[List.all_cons,Bool.and_eq_true]at o;obtain⟨as,h1⟩:=Rep.reads ok s n r e o.1;obtain⟨bs,h2⟩:=aD.reads ok s n t f o.2;exact⟨_,.cons h1 h2⟩
end
theorem cQ.reads(ok:iI P w H h)(s:av F H){v:V}{d:D}{u:Value}(r:cQ F H v d)(e:RelV v u)(o:cc 8 d=true):∃as,Reads h u (toPy d) as:=by
 cases d with
 | lst xs =>
  obtain⟨a,vs,rfl,hf,r⟩:=r;cases e;obtain⟨_,its,n,rv,ho⟩:=L2.Rd.ok hf ok;obtain⟨as,q⟩:=aD.reads ok s 7 r rv o;exact⟨_,.list ho rfl rfl q⟩
 | o5 _=>exact absurd o (by simp [cc])
 | kp _ _ _ _=>exact absurd o (by simp [cc])
 | _=>exact Rep.reads ok s 8 r e o
end
theorem ik{x:D}(h:cc 8 x=true):PySem.SeqAt.shaped (toPy x)=true:=by
 obtain⟨h1,h2⟩:=HL 8 x h;unfold PySem.SeqAt.shaped;rw[h1,decide_eq_true ⋯];rfl
def Iv(neg:Bool):R2:=λv u H Q=>∃F x y,av F H/\cQ F H v x/\cQ F H u y/\cc 8 x=true/\cc 8 y=true/\Q (.bl (if neg then !fB x y else fB x y)) H
theorem Pb{X:Cx}(hu:X.A.units+64<cLine):iU X (compareOp .Eq) (Iv false):=by
 intro pins s σ H v u v' u' Q I rv ru h;obtain⟨F,x,y,sm,rx,ry,ox,oy,q⟩:=h;obtain⟨as,r1⟩:=rx.reads I.bU sm rv ox;obtain⟨bs,r2⟩:=ry.reads I.bU sm ru oy;refine PyProof.Rows.eq_dataH r1 r2 (ik ox) (ik oy) hu ⟨.bl (fB x y),H,I,?_,q⟩;rw[CQ 8 8 x y ox oy];rfl
theorem Pj{X:Cx}(hu:X.A.units+64<cLine):iU X (compareOp .NotEq) (Iv true):=by
 intro pins s σ H v u v' u' Q I rv ru h;obtain⟨F,x,y,sm,rx,ry,ox,oy,q⟩:=h;obtain⟨as,r1⟩:=rx.reads I.bU sm rv ox;obtain⟨bs,r2⟩:=ry.reads I.bU sm ru oy;refine PyProof.Rows.ne_dataH r1 r2 (ik ox) (ik oy) hu ⟨.bl (!fB x y),H,I,?_,q⟩;rw[CQ 8 8 x y ox oy];rfl
end Vc
namespace Vc
open PySem L2
variable [KF]
variable {G:GE}{k:Nat}{S:Stat}
def mB(r:R2)(f:D->D->(Bool->Prop)->Prop):Prop:=
 ∀Y F H ak σ v u x y (Qd:Bool->Prop) (Q:VK),RS Y F ak σ H->cQ F H v x->cQ F H u y->f x y Qd->(∀b,Qd b->Q (.bl b) H)->r v u H Q
def a8(f:D->D->(Bool->Prop)->Prop)(ta tb:TV):TB:=λσ Q=>ta σ λx aA=>tb aA λy bh=>match eW bh x,eW bh y with
 | some a,some b=>f a b λr=>Q r bh
 | _,_=>False
def bV(t:TB):TV:=λσ Q=>t σ λb aA=>Q (.val (.bl b)) aA
theorem oY{Y:bK}{r:R2}{f:D->D->(Bool->Prop)->Prop}(hs:mB r f){ta tb:TV}{σ:St}{H:Hp}{Q:VK}{F:Hp}{ak:Sd}{Qd:Bool->Sd->Prop}(R:RS Y F ak σ H)(q:a8 f ta tb ak Qd)
  (K:∀b H' F' aL,av F F'->RS Y F' aL σ H'->Qd b aL->Q (.bl b) H'):S4 r (lO Y ta) (lO Y tb) σ H Q:=by
 refine⟨F,ak,_,R,q,λv1 H1 F1 x aA s1 R1 r1 q1=>?_⟩;refine⟨F1,aA,_,R1,q1,λv2 H2 F2 y bh s2 R2 r2 q2=>?_⟩
 split at q2
 ·rename_i a b ea eb
  exact hs Y F2 H2 bh σ v1 v2 a b _ Q R2 (R2.eW (r1.mono s2) ea) (R2.eW r2 eb) q2 λc qc=>K c H2 F2 bh (s1.trans s2) R2 qc
 ·exact q2.elim
def oq(G:GE)(k:Nat)(S:Stat)(op:CmpOp)(f:D->D->(Bool->Prop)->Prop):Prop:=∃r:R2,(∀X Y,en X G k S Y->iU X (compareOp op) r)/\mB r f
theorem aW{op:CmpOp}{f:D->D->(Bool->Prop)->Prop}(h:oq G k S op f){a b:Expr}{ta tb:TV}{pos:Pos}(ha:EO G k S a ta)(hb:EO G k S b tb)(hm:behindInMarks op b=false:=by first|exact D5 _|with_unfolding_all rfl):
  EB G k S (.Compare a [op] [b] pos) (a8 f ta tb):=.mk λX Y ok=>by
 obtain⟨r,ho,hs⟩:=h;refine xI (Im (ho X Y ok) (ha X Y ok) (hb X Y ok) hm) λσ H Q q=>?_;obtain⟨F,ak,Qd,R,q,K⟩:=q;exact oY hs R q λb H' F' aL s R' qq=>⟨b,rfl,K b H' F' aL s R' qq⟩
theorem EJ{op:CmpOp}{f:D->D->(Bool->Prop)->Prop}(h:oq G k S op f){a b:Expr}{ta tb:TV}{pos:Pos}(ha:EO G k S a ta)(hb:EO G k S b tb)(hm:behindInMarks op b=false:=by first|exact D5 _|with_unfolding_all rfl):
  EO G k S (.Compare a [op] [b] pos) (bV (a8 f ta tb)):=.mk λX Y ok=>by
 obtain⟨r,ho,hs⟩:=h;refine bo (HZ (ho X Y ok) (ha X Y ok) (hb X Y ok) hm) λσ H Q q=>?_;obtain⟨F,ak,Qd,R,q,K⟩:=q;exact oY hs R q λb H' F' aL s R' qq=>K _ H' F' (.val (.bl b)) aL s R' (.bl b) qq
def eqT(x y:D)(Q:Bool->Prop):Prop:=(cc 8 x=true/\cc 8 y=true)/\Q (fB x y)
def neT(x y:D)(Q:Bool->Prop):Prop:=(cc 8 x=true/\cc 8 y=true)/\Q (!fB x y)
theorem wV:oq G k S .Eq eqT:=⟨Iv false,λX Y ok=>Pb ok.units,λY F H ak σ v u x y Qd Q R rx ry q K=>⟨F,x,y,R.fr,rx,ry,q.1.1,q.1.2,K _ q.2⟩⟩
theorem fS:oq G k S .NotEq neT:=⟨Iv true,λX Y ok=>Pj ok.units,λY F H ak σ v u x y Qd Q R rx ry q K=>⟨F,x,y,R.fr,rx,ry,q.1.1,q.1.2,K _ q.2⟩⟩
def Nb(p:Int->Int->Bool):D->D->(Bool->Prop)->Prop
 | .int i,.int j,Q=>Q (p i j)
 | _,_,_=>False
theorem h8{p:Int->Int->Bool}:mB (Gy λi j=>.bl (p i j)) (Nb p):=λY F H ak σ v u x y Qd Q R rx ry q K=>by
 unfold Nb at q
 split at q
 ·obtain rfl:=rx.int;obtain rfl:=ry.int
  exact⟨_,_,rfl,rfl,K _ q⟩
 ·exact q.elim
def HB:=Nb λi j=>decide (i<j)
def N5:=Nb λi j=>decide (i<=j)
def Sw:=Nb λi j=>decide (j<i)
def Ve:=Nb λi j=>decide (j<=i)
theorem BK:oq G k S .Lt HB:=⟨_,λ_ _ _=>WW,h8⟩
theorem BJ:oq G k S .LtE N5:=⟨_,λ_ _ _=>WV,h8⟩
theorem GQ:oq G k S .Gt Sw:=⟨_,λ_ _ _=>WU,h8⟩
theorem Lg:oq G k S .GtE Ve:=⟨_,λ_ _ _=>WT,h8⟩
def isNone:D->Bool
 | .bD=>true
 | _=>false
def Nk(x y:D)(Q:Bool->Prop):Prop:=isNone y=true/\Q (!isNone x)
theorem cQ.isNone{F H:Hp}{v:V}{x:D}(r:cQ F H v x):decide (v=.bD)=isNone x:=by
 cases x with
 | lst xs=>obtain⟨a,vs,rfl,_⟩:=r;rfl
 | dct _=>cases(show Rep F v (.dct _)from r);rfl
 | exc _=>cases(show Rep F v (.exc _)from r);rfl
 | j6 _=>cases(show Rep F v (.j6 _)from r);rfl
 | o5 _=>obtain⟨a,ks,rfl,_⟩:=r;rfl
 | kp _ _ _ _=>obtain⟨a,dx,ad,ks,rfl,_⟩:=r;rfl
 | bD=>obtain rfl:=r.bD;rfl
 | bl _=>obtain rfl:=r.bl;rfl
 | int _=>obtain rfl:=r.int;rfl
 | str _=>obtain rfl:=r.str;rfl
 | tup _=>cases(show Rep F v (.tup _)from r);rfl
theorem cQ.Og{F H:Hp}{v:V}{x:D}(r:cQ F H v x)(h:Vc.isNone x=true):v=.bD:=by
 cases x<;>first|exact r.bD|cases h
theorem T5:oq G k S .IsNot Nk:=⟨_,λ_ _ _=>HR,λY F H ak σ v u x y Qd Q R rx ry q K=>⟨ry.Og q.1,by rw[rx.isNone];exact K _ q.2⟩⟩
def RY:D->(Bool->Prop)->Prop
 | .bD,Q=>Q false
 | .bl b,Q=>Q b
 | .int i,Q=>Q (i != 0)
 | .lst xs,Q=>Q (!xs.isEmpty)
 | .tup xs,Q=>Q (!xs.isEmpty)
 | _,_=>False
def A1(t:TV):TB:=λσ Q=>t σ λx aA=>match eW aA x with
 | some d=>RY d λb=>Q b aA
 | none=>False
theorem jx{F:Hp}{vs:List V}{xs:List D}(r:aD F vs xs):(!xs.isEmpty)=!vs.isEmpty:=by cases r<;>rfl
theorem rF{e:Expr}{t:TV}(h:EO G k S e t)(he:∀env whole,isTrue e env whole=(do let v <- whole;standAt e.pos;holding [v] (truthy v)):=by intro _ _;rfl):EB G k S e (A1 t):=.mk λX Y ok=>by
 refine xI (EA (h X Y ok) (he _)) λσ H Q q=>?_;obtain⟨F,ak,Qd,R,q,K⟩:=q;refine⟨F,ak,_,R,q,λv1 H1 F1 x aA s1 R1 r1 q1=>?_⟩
 split at q1
 ·rename_i d ed
  have r:=R1.eW r1 ed;unfold RY at q1
  split at q1
  ·obtain rfl:=r.bD;exact⟨false,rfl,K _ H1 F1 aA s1 R1 q1⟩
  ·rename_i b;obtain rfl:=r.bl;exact⟨b,rfl,K _ H1 F1 aA s1 R1 q1⟩
  ·rename_i i;obtain rfl:=r.int;exact⟨_,rfl,K _ H1 F1 aA s1 R1 q1⟩
  ·rename_i xs;obtain⟨a,vs,rfl,h1,h2⟩:=r.lst
   exact⟨!xs.isEmpty,.inl ⟨vs,.inl h1,jx h2⟩,K _ H1 F1 aA s1 R1 q1⟩
  ·rename_i xs;obtain⟨a,vs,rfl,h1,h2⟩:=r.tup R1.fr
   exact⟨!xs.isEmpty,.inr (.inl ⟨vs,.inl (.inl h1),jx h2⟩),K _ H1 F1 aA s1 R1 q1⟩
  ·exact q1.elim
 ·exact q1.elim
def nY(t u:TB):TB:=λσ Q=>t σ λc aA=>if c=true then u aA Q else Q false aA
def xU(t u:TB):TB:=λσ Q=>t σ λc aA=>if c=true then Q true aA else u aA Q
def pY(t:TB):TB:=λσ Q=>t σ λc aA=>Q (!c) aA
structure EW(G:GE)(k:Nat)(S:Stat)(e:Expr)(t:TB) :Prop where
 run:∀X Y,en X G k S Y->PW X e (lB Y t)
instance {G:GE} {k:Nat} {S:Stat} {e:Expr} {t:TB} :CoeFun (EW G k S e t) λ_=>∀X Y,en X G k S Y->PW X e (lB Y t):=⟨EW.run⟩
theorem pw_imp{X:Cx}{e:Expr}{t t':TT}(h:PW X e t)(i:∀σ H Q,t' σ H Q->t σ H Q):PW X e t':=λwh pins s σ H Q I q=>h wh pins s σ H Q I (i σ H Q q)
section
variable {a b:Expr}{rest:List Expr}{ta tb:TB}{pos:Pos}
theorem IC(h:EW G k S a ta):EB G k S a ta:=.mk λX Y ok=>(h X Y ok).pt
theorem rB(ha:EB G k S a ta):EW G k S (.BoolOp .And [a] pos) ta:=.mk λX Y ok=>pw_and1 (ha X Y ok)
theorem vD(ha:EB G k S a ta):EW G k S (.BoolOp .Or [a] pos) ta:=.mk λX Y ok=>pw_or1 (ha X Y ok)
theorem vB(ha:EB G k S a ta)(hb:EW G k S (.BoolOp .And (b::rest) pos) tb):EW G k S (.BoolOp .And (a::b::rest) pos) (nY ta tb):=.mk λX Y ok=>pw_imp (pw_and (ha X Y ok) (hb X Y ok)) λσ H Q q=>by
 obtain⟨F,ak,Qd,R,q,K⟩:=q;refine⟨F,ak,_,R,q,λc H1 F1 aA s1 R1 q1=>?_⟩;cases c with
 | true=>exact⟨F1,aA,Qd,R1,q1,λb H' F' aL s R' qq=>K b H' F' aL (s1.trans s) R' qq⟩
 | false=>exact K false H1 F1 aA s1 R1 q1
theorem EL(ha:EB G k S a ta)(hb:EW G k S (.BoolOp .Or (b::rest) pos) tb):EW G k S (.BoolOp .Or (a::b::rest) pos) (xU ta tb):=.mk λX Y ok=>pw_imp (pw_or (ha X Y ok) (hb X Y ok)) λσ H Q q=>by
 obtain⟨F,ak,Qd,R,q,K⟩:=q;refine⟨F,ak,_,R,q,λc H1 F1 aA s1 R1 q1=>?_⟩;cases c with
 | false=>exact⟨F1,aA,Qd,R1,q1,λb H' F' aL s R' qq=>K b H' F' aL (s1.trans s) R' qq⟩
 | true=>exact K true H1 F1 aA s1 R1 q1
theorem rE(ha:EB G k S a ta):EB G k S (.UnaryOp .Not a pos) (pY ta):=.mk λX Y ok=>xI (Qs (ha X Y ok)) λσ H Q q=>by
 obtain⟨F,ak,Qd,R,q,K⟩:=q;exact⟨F,ak,_,R,q,λc H1 F1 aA s1 R1 q1=>K _ H1 F1 aA s1 R1 q1⟩
end
structure EV'(G:GE)(k:Nat)(S:Stat)(e:Expr)(t:TB) :Prop where
 run:∀X Y,en X G k S Y->PE X e (λσ H Q=>lB Y t σ H λb H'=>Q (.bl b) H')
instance {G:GE} {k:Nat} {S:Stat} {e:Expr} {t:TB} :CoeFun (EV' G k S e t) λ_=>∀X Y,en X G k S Y->PE X e (λσ H Q=>lB Y t σ H λb H'=>Q (.bl b) H'):=⟨EV'.run⟩
end Vc
namespace Vc
open PySem L2
variable [KF]
variable {G:GE}{k:Nat}{S:Stat}
theorem aD.og{F:Hp}{vs:List V}{xs:List D}{i:Int}{d:D}(r:aD F vs xs)(h:L2.og xs i=some d):∃v,L2.og vs i=some v/\Rep F v d:=by
 unfold L2.og at h ⊢;rw[r.length];cases e:yN xs.length i with
 | none=>rw[e]at h;cases h
 | some j =>
  rw[e]at h;exact r.get (i:=j) h
def Nn:D->D->(D->Prop)->Prop
 | .lst xs,.int i,Q=>match og xs i with
  | some d=>Q d
  | none=>False
 | .tup xs,.int i,Q=>match og xs i with
  | some d=>Q d
  | none=>False
 | .str z,.int i,Q=>z.length<=sizeLine/\match og z.cps.toList i with
  | some c=>Q (.str ⟨#[c]⟩)
  | none=>False
 | .j6 ns,.int i,Q=>match og ns i with
  | some n=>Q (.int n)
  | none=>False
 | _,_,_=>False
theorem GL{α β:Type}(f:α->β){xs:List α}{i:Int}{a:α}(h:L2.og xs i=some a):L2.og (xs.map f) i=some (f a):=by
 unfold L2.og at h ⊢;rw[aaR];cases e:yN xs.length i with
 | none=>rw[e]at h;cases h
 | some j =>
  rw[e]at h;have h:xs[j]?=some a:=h;show(xs.map f)[j]?=_;rw[List.getElem?_map,h];rfl
def je(ta tb:TV):TV:=λσ Q=>ta σ λx aA=>tb aA λy bh=>match eW bh x,eW bh y with
 | some a,some b=>Nn a b λr=>Q (.val r) bh
 | _,_=>False
theorem dX{a b:Expr}{ta tb:TV}{pos:Pos}(ha:EO G k S a ta)(hb:EO G k S b tb)(hs:yh b:=by intro _ _;rfl):EO G k S (.Subscript a b pos) (je ta tb):=.mk λX Y ok =>
 bo (W6 Nr (ha X Y ok) (hb X Y ok) hs) λσ H Q q=>by
  obtain⟨F,ak,Qd,R,q,K⟩:=q;refine⟨F,ak,_,R,q,λv1 H1 F1 x aA s1 R1 r1 q1=>?_⟩;refine⟨F1,aA,_,R1,q1,λv2 H2 F2 y bh s2 R2 r2 q2=>?_⟩
  split at q2
  ·rename_i a b ea eb
   have rx:=R2.eW (r1.mono s2) ea;have ry:=R2.eW r2 eb;have fin:∀ {v d},Rep F2 v d->Qd (.val d) bh->Q v H2:=λr qq=>K _ H2 F2 (.val _) bh (s1.trans s2) R2 r qq;unfold Nn at q2
   split at q2
   ·obtain⟨p,vs,rfl,h1,r1⟩:=rx.lst;obtain rfl:=ry.int
    split at q2
    ·rename_i d e
     obtain⟨v,ev,rv⟩:=r1.og e;exact .inl ⟨p,vs,_,v,rfl,rfl,.inl h1,ev,fin rv q2⟩
    ·exact q2.elim
   ·obtain⟨p,vs,rfl,h1,r1⟩:=rx.tup R2.fr;obtain rfl:=ry.int
    split at q2
    ·rename_i d e
     obtain⟨v,ev,rv⟩:=r1.og e;exact .inr (.inl ⟨p,vs,_,v,rfl,rfl,.of h1,ev,fin rv q2⟩)
    ·exact q2.elim
   ·obtain rfl:=rx.str;obtain rfl:=ry.int
    obtain⟨hz,q2⟩:=q2
    split at q2
    ·rename_i c e
     exact .inr (.inr ⟨_,_,c,rfl,rfl,hz,e,fin (.str _) q2⟩)
    ·exact q2.elim
   ·rename_i ns i
    have rx:Rep F2 v1 (.j6 ns):=rx;obtain rfl:=ry.int;cases rx with
    | j6 h =>
     split at q2
     ·rename_i n e
      exact .inl ⟨_,ns.map V.int,_,.int n,rfl,rfl,by rw[ok.kf];exact R2.fr.seq h,GL V.int e,fin (.int _) q2⟩
     ·exact q2.elim
   ·exact q2.elim
  ·exact q2.elim
theorem pU{F:Hp}:∀ns:List Int,aD F (ns.map V.int) (ns.map D.int)
 | []=>.nil
 | n::ns=>.cons (.int n) (pU ns)
theorem cQ.j6{F H:Hp}(s:av F H){v:V}{ns:List Int}(r:cQ F H v (.j6 ns)):∃a,v=.ref a/\gn KF.K H a (ns.map V.int):=by
 cases(show Rep F v (.j6 ns)from r)with
 | j6 h=>exact⟨_,rfl,s.seq h⟩
abbrev KP:=Sd->(Option Int->Sd->Prop)->Prop
def lP(Y:bK)(t:KP):TO:=λσ H Q=>∃F ak Qd,RS Y F ak σ H/\t ak Qd/\∀o H' F' aL,av F F'->RS Y F' aL σ H'->Qd o aL->Q o H'
structure Sl(G:GE)(k:Nat)(S:Stat)(e:Option Expr)(t:KP) :Prop where
 run:∀X Y,en X G k S Y->PO X e (lP Y t)
instance {G:GE} {k:Nat} {S:Stat} {e:Option Expr} {t:KP} :CoeFun (Sl G k S e t) λ_=>∀X Y,en X G k S Y->PO X e (lP Y t):=⟨Sl.run⟩
theorem Eu{X:Cx}{e:Option Expr}{t t':TO}(h:PO X e t)(i:∀σ H Q,t' σ H Q->t σ H Q):PO X e t':=λpins s σ H Q I q=>h pins s σ H Q I (i σ H Q q)
def Km:KP:=λσ Q=>Q none σ
def Kn(t:TV):KP:=λσ Q=>t σ λx aA=>match eW aA x with
 | some (.int i)=>Q (some i) aA
 | _=>False
theorem nz:Sl G k S none Km:=.mk λX Y ok=>Eu Ih λσ H Q q=>by
 obtain⟨F,ak,Qd,R,q,K⟩:=q;exact K none H F ak (av.refl _) R q
theorem nB{e:Expr}{t:TV}(h:EO G k S e t):Sl G k S (some e) (Kn t):=.mk λX Y ok=>Eu (Ii (h X Y ok)) λσ H Q q=>by
 obtain⟨F,ak,Qd,R,q,K⟩:=q;refine⟨F,ak,_,R,q,λv1 H1 F1 x aA s1 R1 r1 q1=>?_⟩
 split at q1
 ·rename_i i e
  obtain rfl:=(R1.eW r1 e).int;exact⟨i,rfl,K _ H1 F1 aA s1 R1 q1⟩
 ·exact q1.elim
def cut{α:Type}(xs:List α)(lo hi:Option Int):List α:=(xs.drop (HT.dM xs.length 0 lo)).take (HT.dM xs.length xs.length hi-HT.dM xs.length 0 lo)
theorem aD.cut{F:Hp}{vs:List V}{xs:List D}(r:aD F vs xs)(lo hi:Option Int):aD F (tK vs lo hi) (cut xs lo hi):=by
 unfold tK Vc.cut;rw[r.length];exact(r.drop _).take _
def YC:D->Option Int->Option Int->(EV->Prop)->Prop
 | .lst xs,lo,hi,Q=>Q (.own (cut xs lo hi))
 | .j6 ns,lo,hi,Q=>Q (.own (cut (ns.map D.int) lo hi))
 | .tup xs,lo,hi,Q=>¬(HT.dM xs.length 0 lo=0/\HT.dM xs.length xs.length hi=xs.length)/\Q (.val (.tup (cut xs lo hi)))
 | _,_,_,_=>False
def vW(t:TV)(tl th:KP):TX:=λσ Q=>t σ λx aA=>tl aA λl bh=>th bh λu gk=>match eW gk x with
 | some d=>YC d l u λr=>Q r gk
 | none=>False
theorem ER{e:Expr}{lo hi:Option Expr}{t:TV}{tl th:KP}{p2 pos:Pos}(h:EO G k S e t)(hl:Sl G k S lo tl)(hh:Sl G k S hi th):EX G k S (.Subscript e (.Slice lo hi none p2) pos) (vW t tl th):=.mk λX Y ok =>
 bo (El (JH.or IH Rt) (h X Y ok) (hl X Y ok) (hh X Y ok)) λσ H Q q=>by
  obtain⟨F,ak,Qd,R,q,K⟩:=q;refine⟨F,ak,_,R,q,λv1 H1 F1 x aA s1 R1 r1 q1=>?_⟩;refine⟨F1,aA,_,R1,q1,λl H2 F2 bh s2 R2 q2=>?_⟩;refine⟨F2,bh,_,R2,q2,λu H3 F3 gk s3 R3 q3=>?_⟩
  split at q3
  ·rename_i d e
   have rx:=R3.eW (r1.mono (s2.trans s3)) e;have g:Goes Y F3 gk σ (λr=>Qd r gk) Q:=λv H' F' r s R' rr qq=>K v H' F' r gk (((s1.trans s2).trans s3).trans s) R' rr qq;unfold YC at q3
   split at q3
   ·obtain⟨p,vs,rfl,h1,r1⟩:=rx.lst
    exact .inl ⟨p,vs,rfl,.inl h1,g.own R3 (r1.cut _ _) q3⟩
   ·obtain⟨p,rfl,h1⟩:=rx.j6 R3.fr
    exact .inl ⟨p,_,rfl,by rw[ok.kf];exact h1,g.own R3 ((pU _).cut _ _) q3⟩
   ·obtain⟨p,vs,rfl,h1,r1⟩:=rx.tup R3.fr
    exact .inr ⟨p,vs,rfl,.of h1,by rw[r1.length];exact q3.1,g.tup R3 (r1.cut _ _) q3.2⟩
   ·exact q3.elim
  ·exact q3.elim
def tN:fc:=λσ Q=>Q [] σ
def aS(t:TD)(u:fc):fc:=λσ Q=>t σ λx aA=>u aA λxs bh=>Q (x::xs) bh
theorem aB:wG G k S [] tN:=.mk λX Y ok=>qY cV λσ H Q q=>by
 obtain⟨F,ak,Qd,R,q,K⟩:=q;exact K [] H F [] ak (av.refl _) R .nil q
theorem ah{e:Expr}{es:List Expr}{t:TD}{u:fc}(h:ED G k S e t)(hs:wG G k S es u)(he:∀env,starEach (e::es) env=(false,eval e env)::starEach es env:=by exactλ_=>Vc.ig rfl):wG G k S (e::es) (aS t u):=.mk λX Y ok =>
 qY (cf (h X Y ok) (hs X Y ok) (he _)) λσ H Q q=>by
  obtain⟨F,ak,Qd,R,q,K⟩:=q;refine⟨F,ak,_,R,q,λv1 H1 F1 x aA s1 R1 r1 q1=>?_⟩;exact⟨F1,aA,_,R1,q1,λvs H2 F2 xs bh s2 R2 r2 q2=>K _ H2 F2 (x::xs) bh (s1.trans s2) R2 (.cons (r1.mono s2) r2) q2⟩
def sU(t:fc):TX:=λσ Q=>t σ λxs aA=>xs.length<=sizeLine/\Q (.own xs) aA
def Kq(t:fc):TV:=λσ Q=>t σ λxs aA=>xs.length<=sizeLine/\Q (.val (.tup xs)) aA
theorem eS{es:List Expr}{t:fc}{pos:Pos}(h:wG G k S es t):EX G k S (.List es pos) (sU t):=.mk λX Y ok=>bo (kQ (h X Y ok)) λσ H Q q=>by
 obtain⟨F,ak,Qd,R,q,K⟩:=q;refine⟨F,ak,_,R,q,λvs H1 F1 xs aA s1 R1 r1 q1=>⟨by rw[r1.length];exact q1.1,?_⟩⟩
 have g:Goes Y F1 aA σ (λr=>Qd r aA) Q:=λv H' F' r s R' rr qq=>K v H' F' r aA (s1.trans s) R' rr qq;exact g.own R1 r1 q1.2
theorem vF{es:List Expr}{t:fc}{x1}{pos:Pos}(h:wG G k S es t):EO G k S (.Tuple es x1 pos) (Kq t):=.mk λX Y ok=>bo (PJ (h X Y ok)) λσ H Q q=>by
 obtain⟨F,ak,Qd,R,q,K⟩:=q;refine⟨F,ak,_,R,q,λvs H1 F1 xs aA s1 R1 r1 q1=>⟨by rw[r1.length];exact q1.1,λp hp=>?_⟩⟩
 have sm:=aK (o:=.tup vs) (same_none R1.fr hp);exact K _ _ _ (.val (.tup xs)) aA (s1.trans sm) (R1.alloc hp) (.tup ay (r1.mono sm)) q1.2
abbrev wz:=Sd->(List OV->Sd->Prop)->Prop
inductive tf (F:Hp)(σ:St):List V->List OV->Prop where
 | nil:tf F σ [] []
 | cons {v:V} {x:OV} {vs:List V} {xs:List OV}:sZ F σ v x->tf F σ vs xs->tf F σ (v::vs) (x::xs)
def lOs(Y:bK)(t:wz):TA:=λσ H Q=>∃F ak Qd,RS Y F ak σ H/\t ak Qd/\∀vs H' F' xs aL,av F F'->RS Y F' aL σ H'->tf F' σ vs xs->Qd xs aL->Q vs H'
structure Gd(G:GE)(k:Nat)(S:Stat)(es:List Expr)(t:wz) :Prop where
 run:∀X Y,en X G k S Y->PA X es (lOs Y t)
instance {G:GE} {k:Nat} {S:Stat} {es:List Expr} {t:wz} :CoeFun (Gd G k S es t) λ_=>∀X Y,en X G k S Y->PA X es (lOs Y t):=⟨Gd.run⟩
def dc:wz:=λσ Q=>Q [] σ
def bj(t:TV)(u:wz):wz:=λσ Q=>t σ λx aA=>u aA λxs bh=>Q (x::xs) bh
theorem aX:Gd G k S [] dc:=.mk λX Y ok=>qY cV λσ H Q q=>by
 obtain⟨F,ak,Qd,R,q,K⟩:=q;exact K [] H F [] ak (av.refl _) R .nil q
theorem aG{e:Expr}{es:List Expr}{t:TV}{u:wz}(h:EO G k S e t)(hs:Gd G k S es u)(he:∀env,starEach (e::es) env=(false,eval e env)::starEach es env:=by exactλ_=>Vc.ig rfl):Gd G k S (e::es) (bj t u):=.mk λX Y ok =>
 qY (cf (h X Y ok) (hs X Y ok) (he _)) λσ H Q q=>by
  obtain⟨F,ak,Qd,R,q,K⟩:=q;refine⟨F,ak,_,R,q,λv1 H1 F1 x aA s1 R1 r1 q1=>?_⟩;exact⟨F1,aA,_,R1,q1,λvs H2 F2 xs bh s2 R2 r2 q2=>K _ H2 F2 (x::xs) bh (s1.trans s2) R2 (.cons (r1.mono s2) r2) q2⟩
def iX(σ:Sd):List OV->Option (List D)
 | []=>some []
 | x::xs=>match eW σ x,iX σ xs with
  | some d,some ds=>some (d::ds)
  | _,_=>none
inductive jm (F H:Hp):List V->List D->Prop where
 | nil:jm F H [] []
 | cons {v:V} {x:D} {vs:List V} {xs:List D}:cQ F H v x->jm F H vs xs->jm F H (v::vs) (x::xs)
theorem RS.iX{Y:bK}{F:Hp}{ak:Sd}{σ:St}{H:Hp}(R:RS Y F ak σ H):∀ {vs:List V} {xs:List OV} {ds:List D},tf F σ vs xs->Vc.iX ak xs=some ds->jm F H vs ds
 | _,_,_,.nil,e=>by cases e;exact .nil
 | _,_,_,.cons (x:=x) (xs:=xs) r t,e=>by
  have e:(match Vc.eW ak x,Vc.iX ak xs with|some d,some ds=>some (d::ds)|_,_=>none)=some _:=e
  split at e
  ·rename_i d ds e1 e2
   cases e;exact .cons (R.eW r e1) (RS.iX R t e2)
  ·cases e
theorem jm.one{F H:Hp}{vs:List V}{d:D}(r:jm F H vs [d]):∃v,vs=[v]/\cQ F H v d:=by
 cases r with
 | cons r t=>cases t;exact⟨_,rfl,r⟩
theorem jm.two{F H:Hp}{vs:List V}{d e:D}(r:jm F H vs [d,e]):∃v u,vs=[v,u]/\cQ F H v d/\cQ F H u e:=by
 cases r with
 | cons r t =>
  obtain⟨u,rfl,q⟩:=t.one;exact⟨_,u,rfl,r,q⟩
def oM(r:List V->Hp->VK->Prop)(f:List D->(EV->Prop)->Prop):Prop:=
 ∀Y F H ak σ vs ds (Qd:EV->Prop) (Q:VK),RS Y F ak σ H->jm F H vs ds->f ds Qd->Goes Y F ak σ Qd Q->r vs H Q
def dY(f:List D->(EV->Prop)->Prop)(t:wz):TX:=λσ Q=>t σ λxs aA=>match iX aA xs with
 | some ds=>f ds λr=>Q r aA
 | none=>False
theorem pX{Y:bK}{r:List V->Hp->VK->Prop}{f:List D->(EV->Prop)->Prop}(hs:oM r f){t:wz}{σ:St}{H:Hp}{Q:VK}(q:lX Y (dY f t) σ H Q):tCB r (lOs Y t) σ H Q:=by
 obtain⟨F,ak,Qd,R,q,K⟩:=q;refine⟨F,ak,_,R,q,λvs H1 F1 xs aA s1 R1 r1 q1=>?_⟩
 split at q1
 ·rename_i ds e
  exact hs Y F1 H1 aA σ vs ds _ Q R1 (R1.iX r1 e) q1 λv H' F' r s R' rr qq=>K v H' F' r aA (s1.trans s) R' rr qq
 ·exact q1.elim
def zK(G:GE)(k:Nat)(S:Stat)(f:Value)(g:List D->(EV->Prop)->Prop):Prop:=∃r:PySem.W.Frag->List V->Hp->VK->Prop,(∀X Y,en X G k S Y->cK X f (r X.K))/\oM (r KF.K) g
section
variable {x:Str}{p pos:Pos}{e:Expr}{es:List Expr}{t:wz}{id T:String}{g:List D->(EV->Prop)->Prop}
theorem cm(h:zK G k S (.builtin id) g)(hm:G.mg x=none)(ha:Gd G k S (e::es) t)(hv:bootBuiltins x=some (.builtin id))(hg:S.sc.lookup x=some .globalImplicit:=by rfl)(hn:x≠"__name__":=by decide)(uK:(x==("__debug__":Str))=false:=by decide)
  (he:∀env,starEach (e::es) env=(false,eval e env)::starEach es env:=by exactλ_=>Vc.ig rfl) (fC:∀env,(backTo pos (starEach es env)).any (·.1)=false:=by intro _;rfl):EX G k S (.Call (.Name x p) (e::es) [] pos) (dY g t):=.mk λX Y ok=>by
 obtain⟨r,hc,hs⟩:=h;exact bo (vt (hc X Y ok) (d7 ok hg) (by rw[ok.mg];exact hm) hv (ha X Y ok) hn uK (he _) (fC _)) λσ H Q q=>pX (by rw[ok.kf];exact hs) q
theorem Iw(h:zK G k S (.type T) g)(hm:G.mg x=none)(ha:Gd G k S (e::es) t)(hv:bootBuiltins x=some (.type T))(hg:S.sc.lookup x=some .globalImplicit:=by rfl)(hn:x≠"__name__":=by decide)(uK:(x==("__debug__":Str))=false:=by decide)
  (he:∀env,starEach (e::es) env=(false,eval e env)::starEach es env:=by exactλ_=>Vc.ig rfl) (fC:∀env,(backTo pos (starEach es env)).any (·.1)=false:=by intro _;rfl):EX G k S (.Call (.Name x p) (e::es) [] pos) (dY g t):=.mk λX Y ok=>by
 obtain⟨r,hc,hs⟩:=h;exact bo (fL (hc X Y ok) (d7 ok hg) (by rw[ok.mg];exact hm) hv (ha X Y ok) hn uK (he _) (fC _)) λσ H Q q=>pX (by rw[ok.kf];exact hs) q
end
def cN:List D->(EV->Prop)->Prop
 | [.lst xs],Q=>Q (.val (.int xs.length))
 | [.tup xs],Q=>Q (.val (.int xs.length))
 | [.j6 ns],Q=>Q (.val (.int ns.length))
 | [.str z],Q=>z.length<=sizeLine/\Q (.val (.int z.length))
 | _,_=>False
theorem f_len:zK G k S (.builtin "len") cN:=⟨λK xs H Q=>(∃p ys,xs=[V.ref p]/\(gn K H p ys\/kq K H p ys)/\Q (V.int ys.length) H)\/∃z,xs=[V.str z]/\z.length<=sizeLine/\Q (V.int z.length) H,λ_ _ _=>qk.or ql,λY F H ak σ vs ds Qd Q R r q g=>by
 unfold cN at q
 split at q
 ·obtain⟨v,rfl,rv⟩:=r.one
  obtain⟨p,us,rfl,h1,h2⟩:=rv.lst;exact .inl ⟨p,us,rfl,.inl (.inl h1),by rw[h2.length];exact g.val R (.int _) q⟩
 ·obtain⟨v,rfl,rv⟩:=r.one
  obtain⟨p,us,rfl,h1,h2⟩:=rv.tup R.fr;exact .inl ⟨p,us,rfl,.inr (.of h1),by rw[h2.length];exact g.val R (.int _) q⟩
 ·obtain⟨v,rfl,rv⟩:=r.one
  obtain⟨p,rfl,h1⟩:=rv.j6 R.fr;exact .inl ⟨p,_,rfl,.inl h1,by rw[aaR];exact g.val R (.int _) q⟩
 ·obtain⟨v,rfl,rv⟩:=r.one
  obtain rfl:=rv.str;exact .inr ⟨_,rfl,q.1,g.val R (.int _) q.2⟩
 ·exact q.elim⟩
def GI:List D->(EV->Prop)->Prop
 | [.int i],Q=>Q (.val (.int (if i<0 then -i else i)))
 | _,_=>False
theorem UW:zK G k S (.builtin "abs") GI:=⟨λ_=>_,λ_ _ _=>BM,λY F H ak σ vs ds Qd Q R r q g=>by
 unfold GI at q
 split at q
 ·obtain⟨v,rfl,rv⟩:=r.one
  obtain rfl:=rv.int;exact⟨_,rfl,g.val R (.int _) q⟩
 ·exact q.elim⟩
def u0:List D->(EV->Prop)->Prop
 | [.int i,.int j],Q=>Q (.val (.int (if j>i then j else i)))
 | _,_=>False
def nj:List D->(EV->Prop)->Prop
 | [.int i,.int j],Q=>Q (.val (.int (if j<i then j else i)))
 | _,_=>False
theorem CV(hh:S.kF=false:=by rfl):zK G k S (.builtin "max") u0:=⟨λ_=>_,λ_ _ ok=>zS (ok.calm hh),λY F H ak σ vs ds Qd Q R r q g=>by
 unfold u0 at q
 split at q
 ·obtain⟨v,u,rfl,rv,ru⟩:=r.two
  obtain rfl:=rv.int;obtain rfl:=ru.int;exact⟨_,_,rfl,g.val R (.int _) q⟩
 ·exact q.elim⟩
theorem qA(hh:S.kF=false:=by rfl):zK G k S (.builtin "min") nj:=⟨λ_=>_,λ_ _ ok=>zU (ok.calm hh),λY F H ak σ vs ds Qd Q R r q g=>by
 unfold nj at q
 split at q
 ·obtain⟨v,u,rfl,rv,ru⟩:=r.two
  obtain rfl:=rv.int;obtain rfl:=ru.int;exact⟨_,_,rfl,g.val R (.int _) q⟩
 ·exact q.elim⟩
def Hl:List D->(EV->Prop)->Prop
 | [.int i],Q=>Q (.val (.int i))
 | [.bl b],Q=>Q (.val (.int (if b then 1 else 0)))
 | _,_=>False
theorem f_int:zK G k S (.type "int") Hl:=⟨λ_=>_,λ_ _ ok=>zR,λY F H ak σ vs ds Qd Q R r q g=>by
 unfold Hl at q
 split at q
 ·obtain⟨v,rfl,rv⟩:=r.one
  obtain rfl:=rv.int;exact .inl ⟨_,rfl,g.val R (.int _) q⟩
 ·obtain⟨v,rfl,rv⟩:=r.one
  obtain rfl:=rv.bl;exact .inr ⟨_,rfl,g.val R (.int _) q⟩
 ·exact q.elim⟩
def uX:List D->(EV->Prop)->Prop
 | [.lst xs],Q=>Q (.own xs)
 | [.tup xs],Q=>Q (.own xs)
 | _,_=>False
theorem f_list:zK G k S (.type "list") uX:=⟨λK xs H Q=>∃p ys,xs=[V.ref p]/\(gn K H p ys\/kq K H p ys)/\∀l,H l=none->Q (.ref l) (upd H l (.lst ys)),λ_ _ ok=>qm,λY F H ak σ vs ds Qd Q R r q g=>by
 unfold uX at q
 split at q
 ·obtain⟨v,rfl,rv⟩:=r.one
  obtain⟨p,us,rfl,h1,h2⟩:=rv.lst;exact⟨p,us,rfl,.inl (.inl h1),g.own R h2 q⟩
 ·obtain⟨v,rfl,rv⟩:=r.one
  obtain⟨p,us,rfl,h1,h2⟩:=rv.tup R.fr;exact⟨p,us,rfl,.inr (.of h1),g.own R h2 q⟩
 ·exact q.elim⟩
def sP:List D->(EV->Prop)->Prop
 | [.lst xs],Q=>Q (.val (.tup xs))
 | [.tup xs],Q=>Q (.val (.tup xs))
 | _,_=>False
theorem G0:zK G k S (.type "tuple") sP:=⟨λK xs H Q=>∃p ys,xs=[V.ref p]/\((gn K H p ys/\∀l,H l=none->Q (.ref l) (upd H l (.tup ys)))\/(kq K H p ys/\Q (.ref p) H)),λ_ _ ok=>oA,λY F H ak σ vs ds Qd Q R r q g=>by
 unfold sP at q
 split at q
 ·obtain⟨v,rfl,rv⟩:=r.one
  obtain⟨p,us,rfl,h1,h2⟩:=rv.lst;exact⟨p,us,rfl,.inl ⟨.inl h1,g.tup R h2 q⟩⟩
 ·obtain⟨v,rfl,rv⟩:=r.one
  have rv':=rv;obtain⟨p,us,rfl,h1,h2⟩:=rv.tup R.fr;exact⟨p,us,rfl,.inr ⟨.of h1,g.val R rv' q⟩⟩
 ·exact q.elim⟩
end Vc
namespace Vc
open PySem L2
variable [KF]
variable {G:GE}{k:Nat}{S:Stat}
structure iH where
 nx:Sd->Prop
 rt:B->Sd->Prop
 bk:Sd->Prop:=λ_=>False
 ct:Sd->Prop:=λ_=>False
abbrev cS:=iH->Sd->Prop
def YT(Y:bK)(F H:Hp)(ak:Sd)(σ:St)(v:V):B->Prop
 | .sh d=>Rep F v d
 | .own xs=>∃a vs,v=.ref a/\H a=some (.lst vs)/\aD F vs xs/\F a=none/\Y.H0 a=none/\dQ ak σ a
 | .obj o=>∃a,v=.ref a/\o.rep F H a/\∀b∈o.fp a,F b=none/\H b≠none/\Y.H0 b=none/\dQ ak σ b
structure yg(Y:bK)(F:Hp)(De:iH)(Dn:Ends):Prop where
 nx:∀σ H F' ak,av F F'->RS Y F' ak σ H->De.nx ak->Dn.nx σ H
 rt:∀v σ H F' ak b,av F F'->RS Y F' ak σ H->YT Y F' H ak σ v b->De.rt b ak->Dn.rt v H
 bk:∀σ H F' ak,av F F'->RS Y F' ak σ H->De.bk ak->Dn.bk σ H
 ct:∀σ H F' ak,av F F'->RS Y F' ak σ H->De.ct ak->Dn.ct σ H
theorem yg.mono{Y:bK}{F F':Hp}{De:iH}{Dn:Ends}(h:yg Y F De Dn)(s:av F F'):yg Y F' De Dn:=
 ⟨λσ H F2 ak s2=>h.nx σ H F2 ak (s.trans s2),λv σ H F2 ak b s2=>h.rt v σ H F2 ak b (s.trans s2),λσ H F2 ak s2=>h.bk σ H F2 ak (s.trans s2),λσ H F2 ak s2=>h.ct σ H F2 ak (s.trans s2)⟩
def lS(Y:bK)(t:cS):TS:=λDn σ H=>∃F ak De,RS Y F ak σ H/\t De ak/\yg Y F De Dn
structure ES(G:GE)(k:Nat)(S:Stat)(st:Stmt)(t:cS) :Prop where
 run:∀X Y,en X G k S Y->PS X st (lS Y t)
instance {G:GE} {k:Nat} {S:Stat} {st:Stmt} {t:cS} :CoeFun (ES G k S st t) λ_=>∀X Y,en X G k S Y->PS X st (lS Y t):=⟨ES.run⟩
structure fv(G:GE)(k:Nat)(S:Stat)(st:List Stmt)(t:cS) :Prop where
 run:∀X Y,en X G k S Y->qe X st (lS Y t)
instance {G:GE} {k:Nat} {S:Stat} {st:List Stmt} {t:cS} :CoeFun (fv G k S st t) λ_=>∀X Y,en X G k S Y->qe X st (lS Y t):=⟨fv.run⟩
section
variable {st:Stmt}{rest:List Stmt}{t u:cS}{pos:Pos}
def jf:cS:=λDe σ=>De.nx σ
def b8(t u:cS):cS:=λDe σ=>t {De with nx:=u De} σ
theorem cg:fv G k S [] jf:=.mk λX Y ok=>rn yZ λDn σ H q=>by
 obtain⟨F,ak,De,R,q,K⟩:=q;exact K.nx σ H F ak (av.refl _) R q
theorem ax(h1:ES G k S st t)(h2:fv G k S rest u):fv G k S (st::rest) (b8 t u):=.mk λX Y ok=>rn (vA (h1 X Y ok) (h2 X Y ok)) λDn σ H q=>by
 obtain⟨F,ak,De,R,q,K⟩:=q;refine⟨F,ak,_,R,q,⟨λcq H' F' aL s R' q'=>?_,K.rt,K.bk,K.ct⟩⟩;exact⟨F',aL,De,R',q',K.mono s⟩
theorem aM(h1:ES G k S st t):fv G k S [st] t:=.mk λX Y ok=>rp (h1 X Y ok)
def sL:cS:=λ_ _=>False
theorem gd:ES G k S st sL:=.mk λX Y ok=>dE Ez λDn σ H q=>by
 obtain⟨F,ak,De,R,q,K⟩:=q;exact q
def cT(c:TB)(t u:cS):cS:=λDe σ=>c σ λb aA=>if b=true then t De aA else u De aA
theorem dF{c:Expr}{a b:List Stmt}{tc:TB}(hc:EB G k S c tc)(ha:fv G k S a t)(hb:fv G k S b u):ES G k S (.If c a b pos) (cT tc t u):=.mk λX Y ok=>dE (Kc (hc X Y ok) (ha X Y ok) (hb X Y ok)) λDn σ H q=>by
 obtain⟨F,ak,De,R,q,K⟩:=q;refine⟨F,ak,_,R,q,λb H1 F1 aA s1 R1 q1=>?_⟩;cases b with
 | true=>exact⟨F1,aA,De,R1,q1,K.mono s1⟩
 | false=>exact⟨F1,aA,De,R1,q1,K.mono s1⟩
def oj(t:TX):cS:=λDe σ=>t σ λ_ aA=>De.nx aA
theorem cE{e:Expr}{te:TX}(he:EX G k S e te)(hs:∀line env,swapsWith e none line env=pure false:=by intro _ _;rfl):ES G k S (.Expr e pos) (oj te):=.mk λX Y ok=>dE (rm (he X Y ok) (hs _ _)) λDn σ H q=>by
 obtain⟨F,ak,De,R,q,K⟩:=q;exact⟨F,ak,_,R,q,λv H1 F1 x aA s1 R1 r1 q1=>K.nx σ H1 F1 aA s1 R1 q1⟩
def gj(ios:List Nat)(t:TX):cS:=λDe σ=>t σ λx aA=>match x with
 | .val d=>De.rt (.sh d) aA
 | .own xs=>De.rt (.own xs) aA
 | .obj o=>De.rt (.obj o) aA
 | .any=>False
 | .var i=>match aA[i]? with
  | some (some (.own xs))=>i∉ios/\De.rt (.own xs) (aA.set i none)
  | some (some (.sh d))=>De.rt (.sh d) aA
  | some (some (.obj o))=>ios=[]/\De.rt (.obj o) (aA.set i none)
  | _=>False
theorem RS.forget{Y:bK}{F:Hp}{ak:Sd}{σ:St}{H:Hp}{i:Nat}{b:B}(R:RS Y F ak σ H)(e:ak[i]?=some (some b))(cY:∀p∈Y.io,p.1≠i):RS Y F (ak.set i none) σ H where
 len:=by simpa using R.len
 lo:=R.lo
 fr:=R.fr
 fE:=R.fE
 old:=R.old
 sh:=λj d q=>by
  by_cases hj:j=i
  ·subst hj;rw[bg e]at q;cases q
  ·rw[bu hj]at q;exact R.sh j d q
 own:=λj xs q=>by
  by_cases hj:j=i
  ·subst hj;rw[bg e]at q;cases q
  ·rw[bu hj]at q;exact R.own j xs q
 dis:=λj l xs ys a q1 q2 q3 q4=>by
  have hj:j≠i:=λz=>by subst z;rw[bg e]at q1;cases q1
  have hl:l≠i:=λz=>by subst z;rw[bg e]at q2;cases q2
  rw[bu hj]at q1;rw[bu hl]at q2;exact R.dis j l xs ys a q1 q2 q3 q4
 io:=λp hp=>by
  obtain⟨w1,ys,w2⟩:=R.io p hp;exact⟨w1,ys,by rw[bu (cY p hp)];exact w2⟩
 ob:=R.ob.put (λ_ _=>rfl) (λ_ z=>nomatch z) λ_ _ z=>nomatch z
theorem RS.Oc{Y:bK}{F:Hp}{ak:Sd}{σ:St}{H:Hp}{i:Nat}{xs:List D}(R:RS Y F ak σ H)(h:ak[i]?=some (some (.own xs)))(cY:∀p∈Y.io,p.1≠i){a:Addr}(q1:σ[i]?=some (some (.ref a))):Y.H0 a=none/\a∉Y.Ng:=by
 obtain⟨b,vs,w1,w2,w3,w4,w5⟩:=R.own i xs h;rw[q1]at w1;cases w1;have nin:a∉Y.Ng:=λq5=>by
  obtain⟨p,hp,e⟩:=List.mem_map.mp q5;obtain⟨z1,ys,z2⟩:=R.io p hp;exact absurd (R.dis p.1 i ys xs a z2 h (by rw[z1,e]) q1) (cY p hp)
 rcases w5 with w5|w5
 ·exact⟨w5,nin⟩
 ·exact absurd w5 nin
theorem bM{e:Expr}{te:TX}(he:EX G k S e te)(ZF:S.zP=false:=by rfl):ES G k S (.Return (some e) pos) (gj S.ios te):=.mk λX Y ok=>dE (xG (he X Y ok)) λDn σ H q=>by
 obtain⟨F,ak,De,R,q,K⟩:=q;refine⟨F,ak,_,R,q,λv H1 F1 x aA s1 R1 r1 q1=>?_⟩;cases x with
 | val d=>exact K.rt v σ H1 F1 aA (.sh d) s1 R1 r1 q1
 | own xs=>exact K.rt v σ H1 F1 aA (.own xs) s1 R1 r1 q1
 | obj o=>exact K.rt v σ H1 F1 aA (.obj o) s1 R1 r1 q1
 | any=>exact False.elim q1
 | var i =>
  have r1:σ[i]?=some (some v):=r1;dsimp only at q1
  split at q1
  ·rename_i xs e
   obtain⟨a,vs,w1,w2,w3,w4,w5⟩:=R1.own i xs e;rw[r1]at w1;cases w1;have cY:∀p∈Y.io,p.1≠i:=λp hp z=>q1.1 (z ▸ ok.ios p hp);refine K.rt _ σ H1 F1 _ (.own xs) s1 (R1.forget e cY) ⟨a,vs,rfl,w2,w3,w4,(R1.Oc e cY r1).1,⟨λj ys e2 z=>?_,λ⟨j,o,c,e2,e3,hm⟩=>?_⟩⟩ q1.2
   ·by_cases hj:j=i
    ·subst hj;rw[bg e]at e2;cases e2
    ·rw[bu hj]at e2
     exact hj (R1.dis j i ys xs a e2 e z r1)
   ·have hj:j≠i:=λz=>by subst z;rw[bg e]at e2;cases e2
    rw[bu hj]at e2;exact R1.ob.iY i xs a e r1 ⟨j,o,c,e2,e3,hm⟩
  ·rename_i d e
   obtain⟨v2,e2,r2⟩:=R1.sh i d e;rw[r1]at e2;cases e2;exact K.rt v σ H1 F1 aA (.sh d) s1 R1 r2 q1
  ·rename_i o e
   obtain⟨a,w1,w2,w3⟩:=R1.ob.obj i o e;rw[r1]at w1;cases w1;have Af:=ok.obs ZF q1.1;have cY:∀p∈Y.io,p.1≠i:=λp hp z=>by
    have:=ok.ios p hp;rw[q1.1]at this;cases this
   refine K.rt _ σ H1 F1 _ (.obj o) s1 (R1.forget e cY) ⟨a,rfl,w2,λb hb=>⟨(w3 b hb).1,(w3 b hb).2.1,?_,⟨λj ys e2 z=>?_,λ⟨j,o2,c,e2,e3,hm⟩=>?_⟩⟩⟩ q1.2
   ·rcases(w3 b hb).2.2 with z|z
    ·exact z
    ·rw[Af]at z;cases z
   ·have hj:j≠i:=λz=>by subst z;rw[bg e]at e2;cases e2
    rw[bu hj]at e2;exact R1.ob.iY j ys b e2 z ⟨i,o,a,e,r1,hb⟩
   ·have hj:j≠i:=λz=>by subst z;rw[bg e]at e2;cases e2
    rw[bu hj]at e2;exact R1.ob.tU j i o2 o c a e2 e e3 r1 hj b hm hb
  ·exact q1.elim
end
theorem gs{α:Type}{l:List α}{i j:Nat}{x y:α}(h:(l.set i x)[j]?=some y):(j=i/\y=x)\/(j≠i/\l[j]?=some y):=by
 by_cases hj:j=i
 ·subst hj
  by_cases hl:j<l.length
  ·rw[List.getElem?_set_self hl]at h;exact .inl ⟨rfl,(Option.some.inj h).symm⟩
  ·have:(l.set j x)[j]?=none:=by rw[List.getElem?_eq_none_iff];simp;omega
   rw[this]at h;cases h
 ·rw[List.getElem?_set_ne (Ne.symm hj)]at h;exact .inr ⟨hj,h⟩
theorem bC{α:Type}{l:List α}{i j:Nat}{x:α}(h:j≠i):(l.set i x)[j]?=l[j]?:=List.getElem?_set_ne (Ne.symm h)
theorem jr{α:Type}{l:List α}{i:Nat}{x:α}(h:i<l.length):(l.set i x)[i]?=some x:=List.getElem?_set_self h
theorem Dh{α:Type}{l:List α}{i j:Nat}{x y:α}(h:(l.set i x)[j]?=some y):j<l.length:=by
 have:=(List.getElem?_eq_some_iff.mp h).1;simpa using this
theorem RS.zh{Y:bK}{F:Hp}{ak:Sd}{σ:St}{H:Hp}{i:Nat}{d:D}{v:V}(R:RS Y F ak σ H)(r:Rep F v d)(cY:∀p∈Y.io,p.1≠i):RS Y F (ak.set i (some (.sh d))) (σ.set i (some v)) H where
 len:=by simpa using R.len
 lo:=R.lo
 fr:=R.fr
 fE:=R.fE
 old:=R.old
 sh:=λj e q=>by
  rcases gs q with⟨rfl,z⟩|⟨hj,q'⟩
  ·cases z
   exact⟨v,jr (by rw[<- R.len];exact Dh q),r⟩
  ·obtain⟨u,w1,w2⟩:=R.sh j e q'
   exact⟨u,by rw[bC hj];exact w1,w2⟩
 own:=λj xs q=>by
  rcases gs q with⟨_,z⟩|⟨hj,q'⟩
  ·cases z
  ·obtain⟨a,vs,w1,w2⟩:=R.own j xs q'
   exact⟨a,vs,by rw[bC hj];exact w1,w2⟩
 dis:=λj l xs ys a q1 q2 q3 q4=>by
  rcases gs q1 with⟨_,z⟩|⟨hj,q1⟩
  ·cases z
  rcases gs q2 with⟨_,z⟩|⟨hl,q2⟩
  ·cases z
  rw[bC hj]at q3;rw[bC hl]at q4;exact R.dis j l xs ys a q1 q2 q3 q4
 io:=λp hp=>by
  obtain⟨w1,ys,w2⟩:=R.io p hp;exact⟨by rw[bC (cY p hp)];exact w1,ys,by rw[bC (cY p hp)];exact w2⟩
 ob:=R.ob.put (λ_ hj=>bC hj) (λ_ z=>nomatch z) λ_ _ z=>nomatch z
theorem RS.E6{Y:bK}{F:Hp}{ak:Sd}{σ:St}{H:Hp}{i:Nat}{xs:List D}{a:Addr}{vs:List V}(R:RS Y F ak σ H)(h1:H a=some (.lst vs))(h2:aD F vs xs)(h3:F a=none)(h4:Y.H0 a=none)(h5:dQ ak σ a)
  (cY:∀p∈Y.io,p.1≠i):RS Y F (ak.set i (some (.own xs))) (σ.set i (some (.ref a))) H where
 len:=by simpa using R.len
 lo:=R.lo
 fr:=R.fr
 fE:=R.fE
 old:=R.old
 sh:=λj e q=>by
  rcases gs q with⟨_,z⟩|⟨hj,q'⟩
  ·cases z
  ·obtain⟨u,w1,w2⟩:=R.sh j e q'
   exact⟨u,by rw[bC hj];exact w1,w2⟩
 own:=λj ys q=>by
  rcases gs q with⟨rfl,z⟩|⟨hj,q'⟩
  ·cases z
   exact⟨a,vs,jr (by rw[<- R.len];exact Dh q),h1,h2,h3,.inl h4⟩
  ·obtain⟨b,us,w1,w2⟩:=R.own j ys q'
   exact⟨b,us,by rw[bC hj];exact w1,w2⟩
 dis:=λj l ys zs b q1 q2 q3 q4=>by
  rcases gs q1 with⟨rfl,z⟩|⟨hj,q1⟩
  ·rcases gs q2 with⟨e,z⟩|⟨hl,q2⟩
   ·exact e.symm
   ·rw[bC hl]at q4
    rcases gs q3 with⟨_,z3⟩|⟨hc,_⟩
    ·cases z3
     exact absurd q4 (h5 l zs q2)
    ·exact absurd rfl hc
  ·rw[bC hj]at q3
   rcases gs q2 with⟨e2,z⟩|⟨hl,q2⟩
   ·rcases gs q4 with⟨_,z4⟩|⟨hc,_⟩
    ·cases z4
     exact absurd q3 (h5 j ys (by assumption))
    ·exact absurd e2 hc
   ·rw[bC hl]at q4
    exact R.dis j l ys zs b (by assumption) q2 q3 q4
 io:=λp hp=>by
  obtain⟨w1,ys,w2⟩:=R.io p hp;exact⟨by rw[bC (cY p hp)];exact w1,ys,by rw[bC (cY p hp)];exact w2⟩
 ob:=R.ob.put (λ_ hj=>bC hj) (λ_ z=>nomatch z) λys b _ z=>by
  rcases gs z with⟨_,z2⟩|⟨hc,_⟩
  ·cases z2;exact h5.Od
  ·exact absurd rfl hc
theorem RS.Q0{Y:bK}{F:Hp}{ak:Sd}{σ:St}{H:Hp}{i:Nat}{o:O}{a:Addr}(R:RS Y F ak σ H)(h1:o.rep F H a)(h2:∀b∈o.fp a,F b=none/\H b≠none/\Y.H0 b=none/\dQ ak σ b)
  (cY:∀p∈Y.io,p.1≠i):RS Y F (ak.set i (some (.obj o))) (σ.set i (some (.ref a))) H where
 len:=by simpa using R.len
 lo:=R.lo
 fr:=R.fr
 fE:=R.fE
 old:=R.old
 sh:=λj e q=>by
  rcases gs q with⟨_,z⟩|⟨hj,q'⟩
  ·cases z
  ·obtain⟨u,w1,w2⟩:=R.sh j e q'
   exact⟨u,by rw[bC hj];exact w1,w2⟩
 own:=λj ys q=>by
  rcases gs q with⟨_,z⟩|⟨hj,q'⟩
  ·cases z
  ·obtain⟨b,us,w1,w2⟩:=R.own j ys q'
   exact⟨b,us,by rw[bC hj];exact w1,w2⟩
 dis:=λj l ys zs b q1 q2 q3 q4=>by
  rcases gs q1 with⟨_,z⟩|⟨hj,q1⟩
  ·cases z
  rcases gs q2 with⟨_,z⟩|⟨hl,q2⟩
  ·cases z
  rw[bC hj]at q3;rw[bC hl]at q4;exact R.dis j l ys zs b q1 q2 q3 q4
 io:=λp hp=>by
  obtain⟨w1,ys,w2⟩:=R.io p hp;exact⟨by rw[bC (cY p hp)];exact w1,ys,by rw[bC (cY p hp)];exact w2⟩
 ob:=by
  have at':∀ {j:Nat} {c:Addr},j=i->(σ.set i (some (.ref a)))[j]?=some (some (.ref c))->c=a:=λ{j c} e z=>by
   subst e;rcases gs z with⟨_,z2⟩|⟨hc,_⟩
   ·cases z2;rfl
   ·exact absurd rfl hc
  refine⟨λj p q=>?_,λj l p p2 c d q1 q2 q3 q4 cU x hx sT=>?_,λj ys b q1 q2 ⟨l,p,c,q3,q4,hm⟩=>?_,R.ob.there,R.ob.Kr,R.ob.tab⟩
  ·rcases gs q with⟨rfl,z⟩|⟨hj,q'⟩
   ·cases z
    exact⟨a,jr (by rw[<- R.len];exact Dh q),h1,λb hb=>⟨(h2 b hb).1,(h2 b hb).2.1,.inl (h2 b hb).2.2.1⟩⟩
   ·obtain⟨c,w1,w2⟩:=R.ob.obj j p q'
    exact⟨c,by rw[bC hj];exact w1,w2⟩
  ·rcases gs q1 with⟨e1,z⟩|⟨hj,Xj⟩
   ·cases z
    rcases gs q2 with⟨e2,z⟩|⟨hl,q2'⟩
    ·exact cU (e1.trans e2.symm)
    ·rw[bC hl]at q4
     have:=at' e1 q3;subst this;exact(h2 x hx).2.2.2.Od ⟨l,p2,d,q2',q4,sT⟩
   ·rw[bC hj]at q3
    rcases gs q2 with⟨e2,z⟩|⟨hl,q2'⟩
    ·cases z
     have:=at' e2 q4;subst this;exact(h2 x sT).2.2.2.Od ⟨j,p,c,Xj,q3,hx⟩
    ·rw[bC hl]at q4
     exact R.ob.tU j l p p2 c d Xj q2' q3 q4 cU x hx sT
  ·rcases gs q1 with⟨_,z⟩|⟨hj,Xj⟩
   ·cases z
   rw[bC hj]at q2;rcases gs q3 with⟨e3,z⟩|⟨hl,q3'⟩
   ·cases z
    have:=at' e3 q4;subst this;exact(h2 b hm).2.2.2 j ys Xj q2
   ·rw[bC hl]at q4
    exact R.ob.iY j ys b Xj q2 ⟨l,p,c,q3',q4,hm⟩
def YD(ios:List Nat)(i:Nat)(x:EV)(σ:Sd)(Q:Sd->Prop):Prop:=match x with
 | .val d=>Q (σ.set i (some (.sh d)))
 | .own xs=>Q (σ.set i (some (.own xs)))
 | .obj o=>Q (σ.set i (some (.obj o)))
 | .any=>False
 | .var j=>match σ[j]? with
  | some (some (.own xs))=>j∉ios/\Q ((σ.set j (some (.sh (.lst xs)))).set i (some (.sh (.lst xs))))
  | some (some (.sh d))=>Q (σ.set i (some (.sh d)))
  | _=>False
theorem k8{Y:bK}{F:Hp}{ak:Sd}{σ:St}{H:Hp}{i:Nat}{v:V}{x:EV}{ios:List Nat}{Q:Sd->Prop}(R:RS Y F ak σ H)(r:KO Y F H ak σ v x)(hi:i∉ios)(cY:∀p∈Y.io,p.1∈ios)(q:YD ios i x ak Q):
  ∃F' aL,av F F'/\RS Y F' aL (σ.set i (some v)) H/\Q aL:=by
 have h0:∀p∈Y.io,p.1≠i:=λp hp z=>hi (z ▸ cY p hp);cases x with
 | val d=>exact⟨F,_,av.refl _,R.zh r h0,q⟩
 | own xs =>
  obtain⟨a,vs,rfl,h1,h2,h3,h4,h5⟩:=r;exact⟨F,_,av.refl _,R.E6 h1 h2 h3 h4 h5 h0,q⟩
 | obj o =>
  obtain⟨a,rfl,h1,h2⟩:=r;exact⟨F,_,av.refl _,R.Q0 h1 h2 h0,q⟩
 | any=>exact False.elim q
 | var j =>
  have r:σ[j]?=some (some v):=r;unfold YD at q;dsimp only at q
  split at q
  ·rename_i xs e
   obtain⟨F2,v2,s2,R2,e2,r2⟩:=R.kE e λp hp z=>q.1 (z ▸ cY p hp);rw[r]at e2;cases e2;exact⟨F2,_,s2,R2.zh r2 h0,q.2⟩
  ·rename_i d e
   obtain⟨v2,e2,r2⟩:=R.sh j d e;rw[r]at e2;cases e2;exact⟨F,_,av.refl _,R.zh r2 h0,q⟩
  ·exact q.elim
def ei(ios:List Nat)(i:Nat)(t:TX):cS:=λDe σ=>t σ λx aA=>YD ios i x aA De.nx
theorem nc{X:Cx}{Y:bK}(ok:en X G k S Y){x:Str}(h:S.sc.lookup x=some .local\/(S.sc.lookup x=some .cell/\S.zP=false)):L2.Loc X.env.scope x:=by
 unfold L2.Loc;rw[ok.sc];exact h.imp id (·.1)
theorem mS{X:Cx}{Y:bK}(ok:en X G k S Y){x:Str}(h:S.sc.lookup x=some .local\/(S.sc.lookup x=some .cell/\S.zP=false)):X.fn x=true\/X.env.scope.names.lookup x=some .local:=by
 rcases h with h|h
 ·right;rw[ok.sc];exact h
 ·left;exact ok.fn h.2 x h.1
theorem bH(i:Nat){x:Str}{e:Expr}{te:TX}{pos pos':Pos}(he:EX G k S e te)(hi:S.N[i]?=some x:=by rfl)(hx:S.sc.lookup x=some .local\/(S.sc.lookup x=some .cell/\S.zP=false):=by first|exact Or.inl rfl|exact Or.inr ⟨rfl,rfl⟩)(hn:i∉S.ios:=by first|decide|exact List.not_mem_nil | (dsimp only;decide))
  (hs:∀line env,swapsWith e (some (.Name x pos')) line env=pure false:=by intro _ _;rfl):ES G k S (.Assign [.Name x pos'] e pos) (ei S.ios i te):=.mk λX Y ok =>
 dE (L2.xH (i:=i) (by rw[ok.N];exact ok.nd) (by rw[ok.N];exact hi) (nc ok hx) (he X Y ok) (hs _ _) (mS ok hx)) λDn σ H q=>by
  obtain⟨F,ak,De,R,q,K⟩:=q;refine⟨F,ak,_,R,q,λv H1 F1 y aA s1 R1 r1 q1=>?_⟩;obtain⟨F2,bh,s2,R2,q2⟩:=k8 R1 r1 hn ok.ios q1;exact K.nx _ H1 F2 bh (s1.trans s2) R2 q2
theorem RS.write{Y:bK}{F:Hp}{ak:Sd}{σ:St}{H:Hp}{i:Nat}{xs ys:List D}{a:Addr}{us:List V}(R:RS Y F ak σ H)(e:ak[i]?=some (some (.own xs)))(h:σ[i]?=some (some (.ref a)))(r:aD F us ys):
  RS Y F (ak.set i (some (.own ys))) σ (upd H a (.lst us)):=by
 obtain⟨b,vs,w1,w2,w3,w4,w5⟩:=R.own i xs e;rw[h]at w1;cases w1;have hl:i<ak.length:=(List.getElem?_eq_some_iff.mp e).1;have Af:sX Y F (ak.set i (some (.own ys))) σ (upd H a (.lst us)):=R.ob.step (av.refl _) (λj o q=>by
  rcases gs q with⟨_,z⟩|⟨hj,q⟩
  ·cases z
  ·exact⟨q,rfl⟩) (λb hb=>by
  obtain⟨z1,z2,z3⟩:=R.ob.owned hb;have cU:b≠a:=λz=>R.ob.iY i xs a e h (z ▸ hb);exact⟨aq cU,z1,z3⟩) (λj zs b q1 q2=>by
  rcases gs q1 with⟨e1,_⟩|⟨hj,q1⟩
  ·subst e1
   rw[h]at q2;cases q2;exact R.ob.iY j xs a e h
  ·exact R.ob.iY j zs b q1 q2) λb hb=>by
  by_cases cU:b=a
  ·rw[cU,ay];exactλz=>nomatch z
  ·rw[aq cU];exact R.ob.there b hb
 refine⟨by simpa using R.len,R.lo,λb o q=>?_,R.fE,λb o q n=>?_,λj d q=>?_,λj zs q=>?_,λj l zs qs b q1 q2 q3 q4=>?_,λp hp=>?_,Af⟩
 ·have:b≠a:=λz=>by rw[z,w4]at q;cases q
  rw[aq this];exact R.fr b o q
 ·have:b≠a:=λz=>by
   subst z;rcases w5 with w5|w5
   ·rw[w5]at q;cases q
   ·exact bK.yL n w5
  rw[aq this];exact R.old b o q n
 ·rcases gs q with⟨_,z⟩|⟨hj,q⟩
  ·cases z
  ·exact R.sh j d q
 ·rcases gs q with⟨rfl,z⟩|⟨hj,q⟩
  ·cases z
   exact⟨a,us,h,ay,r,w4,w5⟩
  ·obtain⟨b,ws,z1,z2,z3,z4,z5⟩:=R.own j zs q
   have:b≠a:=λz=>hj (R.dis j i zs xs a q e (z ▸ z1) h);exact⟨b,ws,z1,by rw[aq this];exact z2,z3,z4,z5⟩
 ·have f:∀ {m:Nat} {ms:List D},(ak.set i (some (B.own ys)))[m]?=some (some (B.own ms))->∃Gx,ak[m]?=some (some (B.own Gx)):=λ{m ms} q=>by
   rcases gs q with⟨rfl,z⟩|⟨hj,q⟩
   ·exact⟨xs,e⟩
   ·exact⟨_,q⟩
  obtain⟨_,q1⟩:=f q1;obtain⟨_,q2⟩:=f q2;exact R.dis j l _ _ b q1 q2 q3 q4
 ·obtain⟨z1,zs,z2⟩:=R.io p hp
  refine⟨z1,?_⟩
  by_cases VD:p.1=i
  ·exact⟨ys,by rw[VD,jr hl]⟩
  ·exact⟨zs,by rw[bC VD];exact z2⟩
def uO(σ:Sd)(i:Nat):Prop:=∃xs,σ[i]?=some (some (B.own xs))
def Ld(i:Nat)(d:D)(σ:Sd)(Q:Sd->Prop):Prop:=match σ[i]? with
 | some (some (.own xs))=>xs.length<sizeLine/\Q (σ.set i (some (.own (xs++[d]))))
 | _=>False
def sI(to:TV)(te:TD):TX:=λσ Q=>to σ λx aA=>match x with
 | .var i=>uO aA i/\te aA λd bh=>Ld i d bh λgk=>Q (.val .bD) gk
 | _=>False
theorem fM{o e:Expr}{to:TV}{te:TD}{apos cpos:Pos}(ho:EO G k S o to)(he:ED G k S e te)(hb:∀env,attributeBase o "append" env (eval o env)=eval o env:=by intro _;rfl)
  (DB:∀env,((backTo cpos (starEach [e] env)).all (λx=>!x.1)&&(backToKw cpos (keywordEach [] env)).all (λx=>x.1.isSome)&&decide (([e]:List Expr).length+([]:List Keyword).length+(if([]:List Keyword).isEmpty then 0 else 1)<30))=true:=by intro _;rfl)
  (hline:(apos.endLine==cpos.line)=true:=by rfl) (hs:∀env,starEach [e] env=[(false,eval e env)]:=by intro _;rfl):EX G k S (.Call (.Attribute o "append" apos) [e] [] cpos) (sI to te):=.mk λX Y ok=>by
 have ha:PA X [e] (iT (lD Y te) oH):=cf (he X Y ok) cV (by rw[hs];rfl)
 refine bo (vq F.plainAttrs_list F.slot_list_append F.type_list_append kN (ho X Y ok) ha (hb _) (DB _) hline (by rw[hs];rfl) (by rfl)) λσ H Q q=>?_
 obtain⟨F,ak,Qd,R,q,K⟩:=q;refine⟨F,ak,_,R,q,λv1 H1 F1 x aA s1 R1 r1 q1=>?_⟩;cases x with
 | val d=>exact q1.elim
 | any=>exact q1.elim
 | var i =>
  obtain⟨⟨ys,e0⟩,q1⟩:=q1;have r1:σ[i]?=some (some v1):=r1;obtain⟨a,vs,w1,w2,w3,w4,w5⟩:=R1.own i ys e0;rw[r1]at w1;cases w1;refine⟨.inl ⟨rfl,vs,.of w2⟩,F1,aA,_,R1,q1,λv2 H2 F2 d bh s2 R2 r2 q2=>?_⟩;unfold Ld at q2
  split at q2
  ·rename_i xs e2
   obtain⟨b,us,z1,z2,z3,z4,z5⟩:=R2.own i xs e2;rw[r1]at z1;cases z1;exact⟨a,us,v2,rfl,rfl,z2,by rw[z3.length];exact q2.1,K .bD _ F2 (.val .bD) _ (s1.trans s2) (R2.write e2 r1 (z3.append (.cons r2 .nil))) .bD q2.2⟩
  ·exact q2.elim
end Vc
namespace Vc
open PySem L2
variable [KF]
variable {G:GE}{k:Nat}{S:Stat}
abbrev bN:=List D->(B->Prop)->Prop
def KN(H F H':Hp)(v:V):B->Prop
 | .sh d=>Rep F v d
 | .own xs=>∃a vs,v=.ref a/\H' a=some (.lst vs)/\aD F vs xs/\F a=none/\H a=none
 | .obj o=>∃a,v=.ref a/\o.rep F H' a/\∀b∈o.fp a,F b=none/\H' b≠none/\H b=none
def II(sp:bN):Sp:=λvs H Q _=>∃F ds Qd,tj F H/\aD F vs ds/\sp ds Qd /\
 ∀v H' F' b,av F F'->av F' H'->av H H'->(∀c o,F' c=some o->F c=some o\/Nw H c o)->KN H F' H' v b->Qd b->Q v H'
theorem RS.call{Y:bK}{F F':Hp}{ak:Sd}{σ:St}{H H':Hp}(R:RS Y F ak σ H)(s1:av F F')(s2:av F' H')(s3:av H H')(fr:∀c o,F' c=some o->F c=some o\/Nw H c o):RS Y F' ak σ H' where
 len:=R.len
 lo:=R.lo.trans s1
 fr:=s2
 fE:=λb o e=>by
  rcases fr b o e with h|h
  ·exact R.fE b o h
  ·exact .inr (h.imp (λh=>(R.cv h).1) id)
 old:=λb o e n=>s3 b o (R.old b o e n)
 sh:=λi d e=>by
  obtain⟨v,h1,h2⟩:=R.sh i d e;exact⟨v,h1,h2.mono s1⟩
 own:=λi xs e=>by
  obtain⟨a,vs,h1,h2,h3,h4,h5⟩:=R.own i xs e;refine⟨a,vs,h1,s3 a _ h2,h3.mono s1,?_,h5⟩;cases q:F' a with
  | none=>rfl
  | some o =>
   rcases fr a o q with h|h
   ·rw[h4]at h;cases h
   ·rcases h with h|⟨ws,rfl⟩
    ·rw[h2]at h;cases h
    ·have z:=s2 a _ q;rw[s3 a _ h2]at z;cases z
 dis:=R.dis
 io:=R.io
 ob:=by
  have up:∀b,H b≠none->H' b=H b:=λb hb=>by
   cases q:H b with
   | none=>exact absurd q hb
   | some o=>exact s3 b o q
  refine R.ob.step s1 (λ_ _ e=>⟨e,rfl⟩) (λb hb=>?_) R.ob.iY λb hb=>by rw[up b (R.ob.there b hb)];exact R.ob.there b hb
  obtain⟨w1,w2,w3⟩:=R.ob.owned hb;refine⟨up b w2,?_,w3⟩;cases q:F' b with
  | none=>rfl
  | some o =>
   rcases fr b o q with h|h
   ·rw[w1]at h;cases h
   ·rcases h with h|⟨ws,rfl⟩
    ·exact absurd h w2
    ·exact absurd (by rw[<- up b w2];exact s2 b _ q) (R.ob.J9 hb)
def cR(G:GE)(k:Nat)(x:Str)(sp:bN):Prop:=∃f fd ps,eI G.P G.w G.K G.mg G.base sR k f fd ps (II sp)/\G.mg x=some (.ref f)/\PySem.W.keepIn G.K (.ref f)=true/\Binds G.K fd ps []
theorem cR.mono{x:Str}{sp:bN}{j:Nat}(h:cR G j x sp)(l:j<=k):cR G k x sp:=by
 obtain⟨f,fd,ps,h1,h2,h3,h4⟩:=h;exact⟨f,fd,ps,h1.mono l,h2,h3,h4⟩
def bE:B->EV
 | .sh d=>.val d
 | .own xs=>.own xs
 | .obj o=>.obj o
def Cl(sp:bN)(ds:List D)(Q:B->Prop):Prop:=sp ds Q
def eh(sp:bN)(t:fc):TX:=λσ Q=>t σ λds aA=>Cl sp ds λb=>Q (bE b) aA
theorem aO{x:Str}{sp:bN}{e:Expr}{es:List Expr}{t:fc}{p pos:Pos}(h:cR G k x sp)(ha:wG G k S (e::es) t)(hg:S.sc.lookup x=some .globalImplicit:=by rfl)(uK:(x==("__debug__":Str))=false:=by decide)
  (he:∀env,starEach (e::es) env=(false,eval e env)::starEach es env:=by exactλ_=>Vc.ig rfl) (fC:∀env,(backTo pos (starEach es env)).any (·.1)=false:=by intro _;rfl) (hh:S.kF=false:=by rfl):EX G k S (.Call (.Name x p) (e::es) [] pos) (eh sp t):=.mk λX Y ok=>by
 obtain⟨f,fd,ps,h1,h2,h3,h4⟩:=h;have Vf:eI X.prog X.w X.K X.mg X.base sR k f fd ps (II sp):=by rw[ok.P,ok.w,ok.K,ok.mg,ok.base];exact h1
 refine bo (qZ (E:=E0) (dvs:=[]) (ds:=[]) Vf (ok.room hh) (d7 ok hg) (by rw[ok.mg];exact h2) (by rw[ok.K];exact h3) (by rw[ok.K];exact h4) .nil Ei (ha X Y ok) uK (he _) (fC _)) λσ H Q q=>?_
 obtain⟨F,ak,Qd,R,q,K⟩:=q;refine⟨F,ak,_,R,q,λvs H1 F1 ds aA s1 R1 r1 q1=>?_⟩;show II sp (vs++[]) H1 Q E0;rw[List.append_nil];refine⟨F1,ds,_,⟨R1.fr,R1.ob.tab⟩,r1,q1,λv H' F' b s2 s3 s4 fr r2 q2=>?_⟩;have R2:=R1.call s2 s3 s4 fr;cases b with
 | sh d=>exact K v H' F' (.val d) aA (s1.trans s2) R2 r2 q2
 | own xs =>
  obtain⟨a,us,rfl,w1,w2,w3,w4⟩:=r2;refine K _ H' F' (.own xs) aA (s1.trans s2) R2 ⟨a,us,rfl,w1,w2,w3,(R1.cv w4).1,R1.c9 w4⟩ q2
 | obj o =>
  obtain⟨a,rfl,w1,w2⟩:=r2;exact K _ H' F' (.obj o) aA (s1.trans s2) R2 ⟨a,rfl,w1,λb hb=>⟨(w2 b hb).1,(w2 b hb).2.1,(R1.cv (w2 b hb).2.2).1,R1.c9 (w2 b hb).2.2⟩⟩ q2
def a9(n:Nat)(ds:List D):Sd:=ds.map (λd=>some (.sh d))++List.replicate (n-ds.length) none
theorem nV{F:Hp}:∀ {vs:List V} {ds:List D} (m:Nat) {i:Nat} {d:D},aD F vs ds->(ds.map (λd=>some (B.sh d))++List.replicate m none)[i]?=some (some (.sh d))->∃v,(vs.map some++List.replicate m none)[i]?=some (some v)/\Rep F v d
 | [],[],m,i,d,.nil,e=>by
  simp only[List.map_nil,List.nil_append,List.getElem?_replicate]at e
  split at e<;>cases e
 | v::vs,x::ds,m,0,d,.cons r t,e=>by
  simp at e;subst e;exact⟨v,by simp,r⟩
 | v::vs,x::ds,m,i+1,d,.cons r t,e=>by
  obtain⟨u,h1,h2⟩:=nV (i:=i) m t (by simpa using e)
  exact⟨u,by simpa using h1,h2⟩
theorem fP:∀(ds:List D) (m i:Nat) (xs:List D),(ds.map (λd=>some (B.sh d))++List.replicate m none)[i]?≠some (some (.own xs))
 | [],m,i,xs=>by
  simp only[List.map_nil,List.nil_append,List.getElem?_replicate];intro e
  split at e<;>cases e
 | x::ds,m,0,xs=>by simp
 | x::ds,m,i+1,xs=>by
  have:=fP ds m i xs;simpa using this
theorem k9:∀(ds:List D) (m i:Nat) (o:O),(ds.map (λd=>some (B.sh d))++List.replicate m none)[i]?≠some (some (.obj o))
 | [],m,i,o=>by
  simp only[List.map_nil,List.nil_append,List.getElem?_replicate];intro e
  split at e<;>cases e
 | x::ds,m,0,o=>by simp
 | x::ds,m,i+1,o=>by
  have:=k9 ds m i o;simpa using this
theorem RS.start{F H:Hp}{vs:List V}{ds:List D}(n:Nat)(s:tj F H)(r:aD F vs ds):RS ⟨H,F,[],[]⟩ F (a9 n ds) (vs.map some++List.replicate (n-vs.length) none) H where
 len:=by unfold a9;simp [r.length]
 lo:=av.refl _
 fr:=s.1
 fE:=λb o e=>.inl e
 old:=λb o e _=>e
 sh:=λi d e=>by
  rw[r.length];exact nV _ r e
 own:=λi xs e=>absurd e (fP _ _ _ _)
 dis:=λi j xs ys a e=>absurd e (fP _ _ _ _)
 io:=λp hp=>absurd hp (by simp)
 ob:=.none (λi o=>k9 _ _ _ _) s.2 λb hb=>by cases hb
theorem JW{x qual:Str}{st:Stmt}{f:Addr}{fd:FuncData}{N ps:List Str}{sp:bN}{t:cS}(hK:G.K=KF.K)(Fn:JF G.K x qual st f fd)(Sc:aR N ps (ai st))(ht:fv G k ⟨N,(ai st).names,[],false,false,false,λ_ _=>False⟩ (aw st) t)
  (len:∀ds Q,sp ds Q->ds.length=ps.length)
  (body:∀ds Q,sp ds Q->t {nx:=λ_=>Q (.sh .bD),rt:=λb _=>Q b} (a9 N.length ds)):eI G.P G.w G.K G.mg G.base sR (k+1) f fd ps (II sp):=by
 refine Fn.ok Sc (λvs H Q E h=>?_) (λjh A outer s H vs Q E hr h=>?_)
 ·obtain⟨F,ds,Qd,s,r,q,K⟩:=h
  rw[r.length];exact len _ _ q
 ·obtain⟨F,ds,Qd,sm,r,q,K⟩:=h
  refine⟨_,ht (qv sR G.P G.w G.K G.mg G.base N qual (ai st) f jh A outer s H E).Oh ⟨H,F,[],[]⟩ ⟨rfl,rfl,rfl,hK,rfl,rfl,rfl,rfl,Sc.nd,λp hp=>absurd hp (by simp),λ_ _=>rfl,λ_=>rfl,Sc.kind,λ_ _ _=>rfl,λ_=>hr.hd,hr.dp,hr.un,λ_=>PassesOwn.never,λ_=>⟨rfl,rfl,rfl⟩,λ_ _ h=>h.elim,λh=>nomatch h⟩,F,a9 N.length ds,_,RS.start _ sm r,body ds Qd q,?_⟩
  have same:∀ {F':Hp} {ak:Sd} {σ:St} {H':Hp},RS ⟨H,F,[],[]⟩ F' ak σ H'->av H H':=λR b o e=>R.old b o e (by simp [bK.Be])
  refine⟨λσ H' F' ak s' R' q'=>?_,λv σ H' F' ak b s' R' r' q'=>?_,λ_ _ _ _ _ _ h=>h.elim,λ_ _ _ _ _ _ h=>h.elim⟩
  ·exact K .bD H' F' (.sh .bD) s' R'.fr (same R') R'.fE .bD q'
  ·refine K v H' F' b s' R'.fr (same R') R'.fE ?_ q'
   cases b with
   | sh d=>exact r'
   | own xs =>
    obtain⟨a,us,rfl,w1,w2,w3,w4,w5⟩:=r';exact⟨a,us,rfl,w1,w2,w3,w4⟩
   | obj o =>
    obtain⟨a,rfl,w1,w2⟩:=r';exact⟨a,rfl,w1,λb hb=>⟨(w2 b hb).1,(w2 b hb).2.1,(w2 b hb).2.2.1⟩⟩
end Vc
namespace Vc
open PySem L2
variable [KF]
variable {G:GE}{k:Nat}{S:Stat}
abbrev lM:=D->Sd->(Sd->Prop)->Prop
def lG(Y:bK)(g:lM):TG:=λv σ H Q=>∃F ak d Qd,RS Y F ak σ H/\Rep F v d/\g d ak Qd/\∀cq H' F' aL,av F F'->RS Y F' aL cq H'->Qd aL->Q cq H'
structure EG(G:GE)(k:Nat)(S:Stat)(tg:Expr)(g:lM) :Prop where
 run:∀X Y,en X G k S Y->PG X tg (lG Y g)
instance {G:GE} {k:Nat} {S:Stat} {tg:Expr} {g:lM} :CoeFun (EG G k S tg g) λ_=>∀X Y,en X G k S Y->PG X tg (lG Y g):=⟨EG.run⟩
theorem Em{X:Cx}{e:Expr}{t t':TG}(h:PG X e t)(i:∀v σ H Q,t' v σ H Q->t v σ H Q):PG X e t':=λpins s σ H v u Q I r q=>h pins s σ H v u Q I r (i v σ H Q q)
def dC(i:Nat):lM:=λd σ Q=>Q (σ.set i (some (.sh d)))
theorem aP(i:Nat){x:Str}{pos:Pos}(hi:S.N[i]?=some x:=by rfl)(hx:S.sc.lookup x=some .local\/(S.sc.lookup x=some .cell/\S.zP=false):=by first|exact Or.inl rfl|exact Or.inr ⟨rfl,rfl⟩)(hn:i∉S.ios:=by first|decide|exact List.not_mem_nil | (dsimp only;decide)):EG G k S (.Name x pos) (dC i):=.mk λX Y ok =>
 Em (yV (i:=i) (by rw[ok.N];exact ok.nd) (by rw[ok.N];exact hi) (nc ok hx) (mS ok hx)) λv σ H Q q=>by
  obtain⟨F,ak,d,Qd,R,r,q,K⟩:=q;exact K _ H F _ (av.refl _) (R.zh r λp hp z=>hn (z ▸ ok.ios p hp)) q
abbrev qf:=List D->Sd->(Sd->Prop)->Prop
def lGs(Y:bK)(g:qf):JI:=λvs σ H Q=>∃F ak ds Qd,RS Y F ak σ H/\aD F vs ds/\g ds ak Qd/\∀cq H' F' aL,av F F'->RS Y F' aL cq H'->Qd aL->Q cq H'
structure Sj(G:GE)(k:Nat)(S:Stat)(ts:List Expr)(g:qf) :Prop where
 run:∀X Y,en X G k S Y->Sn X ts (lGs Y g)
instance {G:GE} {k:Nat} {S:Stat} {ts:List Expr} {g:qf} :CoeFun (Sj G k S ts g) λ_=>∀X Y,en X G k S Y->Sn X ts (lGs Y g):=⟨Sj.run⟩
def uH:qf:=λds σ Q=>match ds with
 | []=>Q σ
 | _=>False
def gC(g:lM)(u:qf):qf:=λds σ Q=>match ds with
 | d::r=>g d σ λaA=>u r aA Q
 | []=>False
theorem dU:Sj G k S [] uH:=.mk λX Y ok pins s σ H vs us Q I r q=>Ie pins s σ H vs us Q I r (by
 obtain⟨F,ak,ds,Qd,R,rr,q,K⟩:=q;cases rr with
 | nil=>exact⟨rfl,K σ H F ak (av.refl _) R q⟩
 | cons _ _=>exact q.elim)
theorem aV{e:Expr}{es:List Expr}{g:lM}{u:qf}(h1:EG G k S e g)(h2:Sj G k S es u)(hs:∀env,(assignEach (e::es) env).map (·.2)=assign e env::(assignEach es env).map (·.2):=by intro _;rfl):Sj G k S (e::es) (gC g u):=.mk λX Y ok pins s σ H vs us Q I r q =>
 En (h1 X Y ok) (h2 X Y ok) (hs _) pins s σ H vs us Q I r (by
  obtain⟨F,ak,ds,Qd,R,rr,q,K⟩:=q;cases rr with
  | nil=>exact q.elim
  | cons r1 rs =>
   refine⟨_,_,rfl,F,ak,_,_,R,r1,q,λaA H1 F1 ye s1 R1 q1=>?_⟩;exact⟨F1,ye,_,_,R1,rs.mono s1,q1,λbh H2 F2 b6 s2 R2 q2=>K bh H2 F2 b6 (s1.trans s2) R2 q2⟩)
def uI(n:Nat)(u:qf):lM:=λd σ Q=>match d with
 | .tup xs=>xs.length=n/\u xs σ Q
 | _=>False
theorem fF{es:List Expr}{kk:Nat}{u:qf}{n:Nat}{pos:Pos}(h:Sj G k S es u)(hn:∀env,(assignEach es env).length=n:=by intro _;rfl)(VI:∀env,(assignEach es env).findIdx? (·.1)=none:=by intro _;rfl)(hh:S.kF=false:=by rfl):EG G k S (.Tuple es kk pos) (uI n u):=.mk λX Y ok =>
 Em (PN (ok.calm hh) (h X Y ok) (hn _) (VI _)) λv σ H Q q=>by
  obtain⟨F,ak,d,Qd,R,r,q,K⟩:=q;cases d with
  | tup xs =>
   cases r with
   | tup hf rl =>
    exact⟨_,_,rfl,.of (R.fr _ _ hf),by rw[rl.length];exact q.1,F,ak,xs,Qd,R,rl,q.2,K⟩
  | _=>exact q.elim
def Bg(F1 H1 F2 H2:Hp):Prop:=(F2=F1/\H2=H1)\/∃p o,H1 p=none/\F2=upd F1 p o/\H2=upd H1 p o
theorem Bg.same{F1 H1 F2 H2:Hp}(g:Bg F1 H1 F2 H2)(s:av F1 H1):av F1 F2:=by
 rcases g with⟨rfl,rfl⟩|⟨p,o,h,rfl,rfl⟩
 ·exact av.refl _
 ·exact aK (same_none s h)
theorem Bg.rs{Y:bK}{F1 H1 F2 H2:Hp}{ak:Sd}{σ:St}(g:Bg F1 H1 F2 H2)(R:RS Y F1 ak σ H1):RS Y F2 ak σ H2:=by
 rcases g with⟨rfl,rfl⟩|⟨p,o,h,rfl,rfl⟩
 ·exact R
 ·exact R.alloc h
def jl(F:Hp)(J:It)(items:List D):Prop:=∀F1 H1,av F F1->av F1 H1->∀i:Nat,
 (∀x,items[i]?=some x->J.go i H1/\∀v H2,J.S7 i H1 v H2->∃F2,Bg F1 H1 F2 H2/\Rep F2 v x)/\(i=items.length->J.stop i H1)
theorem jl.mono{F F':Hp}{J:It}{items:List D}(h:jl F J items)(s:av F F'):jl F' J items:=λF1 H1 s1=>h F1 H1 (s.trans s1)
def lI(Y:bK)(t:fc):TI:=λσ H R=>∃F ak Qd,RS Y F ak σ H/\t ak Qd/\∀H' F' aL J items,av F F'->RS Y F' aL σ H'->jl F' J items->Qd items aL->R J H'
structure EI(G:GE)(k:Nat)(S:Stat)(tg iter:Expr)(t:fc) :Prop where
 run:∀X Y,en X G k S Y->PI X tg iter (lI Y t)
instance {G:GE} {k:Nat} {S:Stat} {tg iter:Expr} {t:fc} :CoeFun (EI G k S tg iter t) λ_=>∀X Y,en X G k S Y->PI X tg iter (lI Y t):=⟨EI.run⟩
theorem nD{X:Cx}{tg e:Expr}{t t':TI}(h:PI X tg e t)(i:∀σ H Q,t' σ H Q->t σ H Q):PI X tg e t':=λpins s σ H Q I q=>h pins s σ H Q I (i σ H Q q)
theorem Ep{X:Cx}{tg l:Expr}{tl:TE}(hl:PE X l tl):PI X tg l (λσ H R=>tl σ H λx H1=>(∃a,x=.ref a/\(∃xs,gn X.K H1 a xs)/\R (Yb X.K a) H1)\/(∃a,x=.ref a/\(∃xs,kq X.K H1 a xs)/\R (YM X.K a) H1)):=by
 intro pins s σ H R I h;refine cO (hl pins s σ H _ I h) λv s1 ⟨x,H1,I1,r1,q1⟩=>?_;rcases q1 with⟨a,e,⟨xs,hq⟩,q⟩|⟨a,e,⟨xs,hq⟩,q⟩
 ·subst e
  cases r1;obtain⟨its,rv,p,hz⟩:=I1.list hq;refine wpAny_pyIter_list p.isList ?_;refine⟨s1.heap.objs.size,[s1.heap.objs.size],_,_,H1,rfl,I1.kept (t':=s1.toks) λb o e=>aaP _ e,A7 a _,⟨_,Heap.get?_push_size _ rfl,rfl,rfl⟩,λb hb=>?_,q⟩;have e:b=s1.heap.objs.size:=by simpa using hb
  subst e;exact I1.Aa (Nat.le_refl _) (I1.bU.fresh (Nat.le_refl _))
 ·subst e
  cases r1;obtain⟨its,rv,p,hz⟩:=I1.tuple hq;refine wpAny_pyIter_tuple (show s1.heap.IsTuple a its.toArray from p) ?_
  refine⟨s1.heap.objs.size,[s1.heap.objs.size],_,_,H1,rfl,I1.kept (t':=s1.toks) λb o e=>aaP _ e,yc a _,⟨_,Heap.get?_push_size _ rfl,rfl,rfl⟩,λb hb=>?_,q⟩;have e:b=s1.heap.objs.size:=by simpa using hb
  subst e;exact I1.Aa (Nat.le_refl _) (I1.bU.fresh (Nat.le_refl _))
theorem Hn{K:PySem.W.Frag}{F:Hp}{a:Addr}{vs:List V}{xs:List D}(h:Rd F a (.lst vs))(r:aD F vs xs):jl F (Yb K a) xs:=λF1 H1 s1 s2 i=>by
 have hs:gn K H1 a vs:=.inl (Rd.mono (s1.trans s2) h);refine⟨λx e=>?_,λhl=>⟨vs,hs,by rw[r.length,hl];exact Nat.le_refl _⟩⟩
 obtain⟨v,e1,r1⟩:=r.get e;refine⟨⟨vs,v,hs,e1⟩,λv2 H2 y=>?_⟩;obtain⟨rfl,y⟩:=y;have:=y vs hs;rw[e1]at this;cases this;exact⟨F1,.inl ⟨rfl,rfl⟩,r1.mono s1⟩
theorem Ho{K:PySem.W.Frag}{F:Hp}{a:Addr}{vs:List V}{xs:List D}(h:F a=some (.tup vs))(r:aD F vs xs):jl F (YM K a) xs:=λF1 H1 s1 s2 i=>by
 have hs:kq K H1 a vs:=.of (s2 _ _ (s1 _ _ h));refine⟨λx e=>?_,λhl=>⟨vs,hs,by rw[r.length,hl];exact Nat.le_refl _⟩⟩
 obtain⟨v,e1,r1⟩:=r.get e;refine⟨⟨vs,v,hs,e1⟩,λv2 H2 y=>?_⟩;obtain⟨rfl,y⟩:=y;have:=y vs hs;rw[e1]at this;cases this;exact⟨F1,.inl ⟨rfl,rfl⟩,r1.mono s1⟩
def bZ(t:TD):fc:=λσ Q=>t σ λd aA=>match d with
 | .lst xs=>Q xs aA
 | .tup xs=>Q xs aA
 | _=>False
theorem di{tg l:Expr}{t:TD}(h:ED G k S l t):EI G k S tg l (bZ t):=.mk λX Y ok=>nD (Ep (h X Y ok)) λσ H Q q=>by
 obtain⟨F,ak,Qd,R,q,K⟩:=q;refine⟨F,ak,_,R,q,λv H1 F1 d aA s1 R1 r1 q1=>?_⟩;cases d with
 | lst xs =>
  cases r1 with
  | lst hf rl=>exact .inl ⟨_,rfl,⟨_,.inl (Rd.mono R1.fr hf)⟩,K H1 F1 aA _ xs s1 R1 (Hn hf rl) q1⟩
 | tup xs =>
  cases r1 with
  | tup hf rl=>exact .inr ⟨_,rfl,⟨_,.of (R1.fr _ _ hf)⟩,K H1 F1 aA _ xs s1 R1 (Ho hf rl) q1⟩
 | _=>exact q1.elim
def nF(lo:Int)(n:Nat):List D:=(List.range n).map λi=>.int (lo+(i:Nat))
theorem yM{F:Hp}(lo:Int)(n:Nat):jl F (Tn lo n) (nF lo n):=λF1 H1 s1 s2 i=>by
 refine⟨λx e=>?_,λhl=>?_⟩
 ·unfold nF at e
  rw[List.getElem?_map]at e;have hi:i<n:=by
   by_cases hi:i<n
   ·exact hi
   ·rw[List.getElem?_eq_none_iff.mpr (by simpa using hi)]at e;cases e
  rw[List.getElem?_range hi]at e;cases e;refine⟨hi,λv H2 y=>?_⟩;obtain⟨rfl,rfl⟩:=y;exact⟨F1,.inl ⟨rfl,rfl⟩,.int _⟩
 ·unfold nF at hl
  rw[aaR,List.length_range]at hl;exact Nat.le_of_eq hl.symm
def xK(t:wz):fc:=λσ Q=>t σ λxs aA=>match iX aA xs with
 | some [.int j]=>(-(2^62)<=j/\j<2^62)/\Q (nF 0 j.toNat) aA
 | _=>False
def IE(t:wz):fc:=λσ Q=>t σ λxs aA=>match iX aA xs with
 | some [.int i,.int j]=>(-(2^62)<=i/\i<2^62/\-(2^62)<=j/\j<2^62)/\Q (nF i (j-i).toNat) aA
 | _=>False
theorem qL{tg a:Expr}{t:wz}{p pos:Pos}(h:Gd G k S [a] t)(hm:G.mg "range"=none)(hg:S.sc.lookup ("range":Str)=some .globalImplicit:=by rfl)(hs:∀env,starEach [a] env=[(false,eval a env)]:=by intro _;rfl):EI G k S tg (.Call (.Name "range" p) [a] [] pos) (xK t):=.mk λX Y ok =>
 nD (AK (d7 ok hg) (by rw[ok.mg];exact hm) (h X Y ok) (hs _)) λσ H Q q=>by
  obtain⟨F,ak,Qd,R,q,K⟩:=q;refine⟨F,ak,_,R,q,λvs H1 F1 xs aA s1 R1 r1 q1=>?_⟩
  split at q1
  ·rename_i j e
   obtain⟨v,rfl,rv⟩:=(R1.iX r1 e).one;obtain rfl:=rv.int;exact⟨j,rfl,q1.1.1,q1.1.2,K H1 F1 aA _ _ s1 R1 (yM 0 _) q1.2⟩
  ·exact q1.elim
theorem M8{tg a b:Expr}{t:wz}{p pos:Pos}(h:Gd G k S [a,b] t)(hm:G.mg "range"=none)(hg:S.sc.lookup ("range":Str)=some .globalImplicit:=by rfl)(hs:∀env,starEach [a,b] env=[(false,eval a env),(false,eval b env)]:=by intro _;rfl)(yI:∀env,starEach [b] env=[(false,eval b env)]:=by intro _;rfl):EI G k S tg (.Call (.Name "range" p) [a,b] [] pos) (IE t):=.mk λX Y ok =>
 nD (AO (d7 ok hg) (by rw[ok.mg];exact hm) (h X Y ok) (hs _) (yI _)) λσ H Q q=>by
  obtain⟨F,ak,Qd,R,q,K⟩:=q;refine⟨F,ak,_,R,q,λvs H1 F1 xs aA s1 R1 r1 q1=>?_⟩
  split at q1
  ·rename_i i j e
   obtain⟨v,u,rfl,rv,ru⟩:=(R1.iX r1 e).two;obtain rfl:=rv.int;obtain rfl:=ru.int;exact⟨i,j,rfl,q1.1,K H1 F1 aA _ _ s1 R1 (yM i _) q1.2⟩
  ·exact q1.elim
def uD(g:lM)(tb:cS)(De:iH):List D->Sd->Prop
 | [],σ=>De.nx σ
 | x::xs,σ=>g x σ λaA=>tb {De with nx:=uD g tb De xs,ct:=uD g tb De xs,bk:=De.nx} aA
def cZ(ti:fc)(g:lM)(tb:cS):cS:=λDe σ=>ti σ λitems aA=>uD g tb De items aA
theorem gQ{tg iter:Expr}{body:List Stmt}{ti:fc}{g:lM}{tb:cS}{pos:Pos}(hi:EI G k S tg iter ti)(hg:EG G k S tg g)(hb:fv G k S body tb)(hs:∀env x,foldedSetIterable iter env x=pure x:=by intro _ _;rfl)(hh:S.kF=false:=by rfl):
  ES G k S (.For tg iter body [] pos) (cZ ti g tb):=.mk λX Y ok=>dE (Ey (ok.po hh) (ok.calm hh) (hi X Y ok) (hg X Y ok) (hb X Y ok) (hs _)) λDn σ H q=>by
 obtain⟨F,ak,De,R,q,K⟩:=q;refine⟨F,ak,_,R,q,λH1 F1 ye J items s1 R1 it q1=>?_⟩;refine⟨λi m cq H'=>∃F' aL,av F1 F'/\RS Y F' aL cq H'/\uD g tb De (items.drop i) aL/\m=items.length-i/\i<=items.length,⟨items.length,F1,ye,av.refl _,R1,q1,rfl,Nat.zero_le _⟩,?_⟩;rintro i m cq H' ⟨F',aL,s',R',q',rfl,hi⟩;have uP:=it F' H' s' R'.fr i
 by_cases hl:i<items.length
 ·right
  have hd:items.drop i=items[i]::items.drop (i+1):=by rw[List.drop_eq_getElem_cons hl]
  rw[hd]at q';obtain⟨go,yl⟩:=uP.1 items[i] (by rw[aaQ hl])
  refine⟨go,λbh H2=>∃F2 b6,av F1 F2/\RS Y F2 b6 bh H2/\uD g tb De (items.drop (i+1)) b6,λbh H2 ⟨F2,b6,s2,R2,q2⟩=>⟨items.length-(i+1),by omega,F2,b6,s2,R2,q2,rfl,hl⟩,λv H2 y=>?_⟩
  obtain⟨F2,gr,rep⟩:=yl v H2 y;have s2:av F1 F2:=s'.trans (gr.same R'.fr);refine⟨F2,aL,items[i],_,gr.rs R',rep,q',λgk H3 F3 aaE s3 R3 q3=>⟨F3,aaE,_,R3,q3,?_⟩⟩;refine⟨λqb H4 F4 eV s4 R4 q4=>⟨F4,eV,(s2.trans s3).trans s4,R4,q4⟩,λv4 qb H4 F4 eV b s4 R4 r4 q4=>K.rt v4 qb H4 F4 eV b (((s1.trans s2).trans s3).trans s4) R4 r4 q4,
   λqb H4 F4 eV s4 R4 q4=>K.nx qb H4 F4 eV (((s1.trans s2).trans s3).trans s4) R4 q4,λqb H4 F4 eV s4 R4 q4=>⟨F4,eV,(s2.trans s3).trans s4,R4,q4⟩⟩
 ·left
  have e:i=items.length:=by omega
  subst e;rw[List.drop_length]at q';exact⟨uP.2 rfl,K.nx cq H' F' aL (s1.trans s') R' q'⟩
end Vc
namespace Vc
open PySem L2
variable [KF]
theorem qp{prog:Program}{w:World}{A:Around}{R:Result->Shared->Prop}{s:Shared}{elt target iter:Expr}{ifs:List Expr}{scope:Scope}{pos:Pos}{it acc:Value}{env:Env}(I:Nat->Shared->Prop)
  (turn:∀n s,I n s->wpAny (model prog w) A (pyNext it) (λr bQ=>match r with
   | none=>R (.ok .next) bQ
   | some v=>wpAny (model prog w) A (letOwnedTupleGo target it v) (λ_ Kl=>wpAny (model prog w) A (assign target env v) (λ_ sG =>
     wpAny (model prog w) A (forIn ifs true λc r=>if r=true then do let ok <- isTrue c env (eval c env);pure (ForInStep.yield ok)else pure (ForInStep.yield r)) (λok vU =>
      if ok=true then wpAny (model prog w) A (eval elt env) (λx IK =>
       wpAny (model prog w) A (call (.builtin "list.append") [acc,x]) (λ_ XZ=>∃m,m<n/\I m XZ) (λ_ _=>False) IK) (λ_ _=>False) vU
      else∃m,m<n/\I m vU) (λ_ _=>False) sG) (λ_ _=>False) Kl) (λ_ _=>False) bQ) (λ_ _=>False) s)
  (n:Nat) (h:I n s):codeAny (model prog w) A (.compLoop (.ListComp elt [⟨target,iter,ifs,0⟩] scope pos) 0 it acc env) R s:=by
 refine codeAny_loop rfl I (λn s hI=>?_) n h;show wpAny _ A ((compTurn (.ListComp elt [⟨target,iter,ifs,0⟩] scope pos) 0 it acc env).onRaise (λx=>do noteFrame x env;theTreesLotGoes x)) _ _ s
 refine wpAny_noted ?_;rw[compTurn_list];refine aaO (wpAny_standAt (aaO (wpAny_mono (turn n s hI) (λr bQ Ai=>?_) λ_ _ h'=>h'.elim)));cases r with
 | none=>exact wpAny_pure Ai
 | some v =>
  refine aaO (wpAny_mono Ai (λ_ Kl VO=>?_) λ_ _ h'=>h'.elim);refine aaO (wpAny_mono VO (λ_ sG DI=>aaO (wpAny_mono DI (λok vU Hh=>?_) λ_ _ h'=>h'.elim)) λ_ _ h'=>h'.elim);cases ok with
  | false=>exact wpAny_pure ⟨rfl,Hh⟩
  | true =>
   exact aaO (aaO (wpAny_mono Hh (λx IK aad=>aaO (wpAny_mono aad (λ_ XZ aae=>wpAny_pure (wpAny_pure ⟨rfl,aae⟩)) λ_ _ h'=>h'.elim)) λ_ _ h'=>h'.elim))
def iW(env:Env):List (Str×NameKind)->List (Str×Addr)->List (Str×Addr)
 | [],cs=>cs
 | (n,k)::r,cs=>if k==.free then iW env r ((n,(env.cells.lookup n).getD 0)::cs)else iW env r cs
theorem mH{env:Env}{scope:Scope}(h:∀x∈scope.names,x.2=.free->∃c,env.cells.lookup x.1=some c):closureFor scope env=pure (iW env scope.names []):=by
 have all:∀(l:List (Str×NameKind)) (cs:List (Str×Addr)),(∀x∈l,x.2=.free->∃c,env.cells.lookup x.1=some c) ->
   (forIn l cs λx cs=>if(x.2==NameKind.free)=true then(do let a <- cellOf env x.1;pure (ForInStep.yield ((x.1,a)::cs)))else pure (ForInStep.yield cs):Sem (List (Str×Addr)))=pure (iW env l cs):=by
  intro l
  induction l with
  | nil=>intro cs _;rfl
  | cons x l ih =>
   intro cs hl;obtain⟨n,k⟩:=x;rw[List.forIn_cons];unfold iW
   by_cases hk:k=.free
   ·subst hk
    obtain⟨c,e⟩:=hl (n,.free) List.mem_cons_self rfl;have e':env.cells.lookup n=some c:=e;simp only[beq_self_eq_true,if_true,cellOf,e',Option.getD_some,pure_bind];exact ih _ λy hy=>hl y (List.mem_cons_of_mem _ hy)
   ·have hb:(k==NameKind.free)=false:=by simpa using hk
    simp only[hb,Bool.false_eq_true,if_false,pure_bind];exact ih _ λy hy=>hl y (List.mem_cons_of_mem _ hy)
 have h1:=all scope.names [] h;have h2:closureFor scope env=((forIn scope.names ([]:List (Str×Addr)) λx cs=>if(x.2==NameKind.free)=true then(do let a <- cellOf env x.1;pure (ForInStep.yield ((x.1,a)::cs)))else pure (ForInStep.yield cs):Sem (List (Str×Addr))) >>= λcs=>pure cs):=rfl
 rw[h2,h1,pure_bind]
theorem cA{env:Env}:∀(l:List (Str×NameKind)) (cs:List (Str×Addr)) (x:Str) (c:Addr),(∀y∈l,y.2=.free->∃c,env.cells.lookup y.1=some c)->(iW env l cs).lookup x=some c->env.cells.lookup x=some c\/cs.lookup x=some c
 | [],cs,x,c,_,h=>.inr h
 | (n,k)::r,cs,x,c,hl,h=>by
  unfold iW at h
  by_cases hk:k=.free
  ·subst hk
   simp only[beq_self_eq_true,if_true]at h;obtain⟨c',e⟩:=hl (n,.free) List.mem_cons_self rfl;have e':env.cells.lookup n=some c':=e;rcases cA r _ x c (λy hy=>hl y (List.mem_cons_of_mem _ hy)) h with q|q
   ·exact .inl q
   ·rw[List.lookup_cons]at q
    cases hx:x==n with
    | true =>
     rw[hx]at q;have:=eq_of_beq hx;subst this;rw[e',Option.getD_some]at q;exact .inl (e'.trans q)
    | false=>rw[hx]at q;exact .inr q
  ·have hb:(k==NameKind.free)=false:=by simpa using hk
   simp only[hb,Bool.false_eq_true,if_false]at h;exact cA r cs x c (λy hy=>hl y (List.mem_cons_of_mem _ hy)) h
theorem kz{env:Env}:∀(l:List (Str×NameKind)) (cs:List (Str×Addr)) (x:Str),(cs.lookup x).isSome=true->((iW env l cs).lookup x).isSome=true
 | [],cs,x,h=>h
 | (n,k)::r,cs,x,h=>by
  unfold iW
  by_cases hk:k=.free
  ·subst hk
   simp only[beq_self_eq_true,if_true];refine kz r _ x ?_;rw[List.lookup_cons];cases hx:x==n with
   | true=>rfl
   | false=>exact h
  ·have hb:(k==NameKind.free)=false:=by simpa using hk
   simp only[hb,Bool.false_eq_true,if_false];exact kz r cs x h
theorem jo{env:Env}:∀(l:List (Str×NameKind)) (cs:List (Str×Addr)) (x:Str),(x,NameKind.free)∈l->((iW env l cs).lookup x).isSome=true
 | (n,k)::r,cs,x,h=>by
  unfold iW;rcases List.mem_cons.mp h with e|e
  ·cases e
   simp only[beq_self_eq_true,if_true];refine kz r _ _ ?_;rw[List.lookup_cons,beq_self_eq_true];rfl
  ·split
   ·exact jo r _ x e
   ·exact jo r cs x e
structure jk(X X':Cx)(scope:Scope)(N':List Str):Prop where
 P:X'.prog=X.prog
 w:X'.w=X.w
 K:X'.K=X.K
 mg:X'.mg=X.mg
 base:X'.base=X.base
 A:X'.A=X.A
 N:X'.N=N'
 sc:X'.env.scope=relabel scope X.env
 calm:X'.calm=true
 xe:X'.xe=λ_ _=>False
def Gg(X:Cx)(ifs:List Expr)(t:TT):Prop:=∀(pins:List (Addr×Obj)) (s:Shared) (σ:St) (H:Hp) (Q:Bool->Hp->Prop),L2.Inv X pins σ H s->t σ H Q ->
 wpAny (model X.prog X.w) X.A (forIn ifs true λc r=>if r=true then do let ok <- isTrue c X.env (eval c X.env);pure (ForInStep.yield ok)else pure (ForInStep.yield r)) (TP X pins σ Q) X.xe s
theorem Io{X:Cx}:Gg X [] (λ_ H Q=>Q true H):=λpins s σ H Q I h=>wpAny_tests_nil ⟨H,I,h⟩
theorem Iq{X:Cx}{c:Expr}{t:TT}(h:PT X c t):Gg X [c] t:=λpins s σ H Q I q=>wpAny_tests_one (h pins s σ H Q I q)
def fe(caps:List (Option Nat))(σ:St):St:=caps.map λc=>match c with
 | some j=>(σ[j]?).join
 | none=>none
def lb(wi:TI)(caps:List (Option Nat))(g:TG)(tc:TT)(te:TE):TE:=λσ H Q=>wi σ H λJ H1=>∀acc,H1 acc=none->∃W:Nat->Nat->St->Hp->Prop,(∃m,W 0 m (fe caps σ) (upd H1 acc (.lst [])))/\∀i m aA H,W i m aA H ->
 (J.stop i H/\Q (.ref acc) H)\/(J.go i H/\∀x H',J.S7 i H x H'->g x aA H' λbh H2=>tc bh H2 λb H3=>if b=true then te bh H3 λv H4=>∃ys m',H4 acc=some (.lst ys)/\ys.length<sizeLine/\m'<m/\W (i+1) m' bh (upd H4 acc (.lst (ys++[v])))else∃m',m'<m/\W (i+1) m' bh H3)
theorem f7{env:Env}:∀ {names:List (Str×NameKind)} {x:Str} {k:NameKind},(names.map λ(n,k)=>if(k==NameKind.free&&env.scope.kind==.function&&env.kindOf n==some .cell)then(n,NameKind.cell)else(n,k)).lookup x=some k ->
  names.lookup x=some k\/(k=.cell/\names.lookup x=some .free)
 | [],_,_,h=>by simp at h
 | (n,k')::r,x,k,h=>by
  have ih:=@f7 env r x k;have h:List.lookup x ((if(k'==NameKind.free&&env.scope.kind==.function&&env.kindOf n==some .cell)=true then(n,NameKind.cell)else(n,k'))::_)=some k:=h
  cases hx:x==n with
  | true =>
   by_cases hc:(k'==NameKind.free&&env.scope.kind==.function&&env.kindOf n==some .cell)=true
   ·rw[if_pos hc]at h
    simp only[List.lookup_cons,hx]at h ⊢;cases h;simp only[Bool.and_eq_true,beq_iff_eq]at hc;exact .inr ⟨rfl,by rw[hc.1.1]⟩
   ·rw[if_neg hc]at h
    simp only[List.lookup_cons,hx]at h ⊢;exact .inl h
  | false =>
   by_cases hc:(k'==NameKind.free&&env.scope.kind==.function&&env.kindOf n==some .cell)=true
   ·rw[if_pos hc]at h
    simp only[List.lookup_cons,hx]at h ⊢;exact ih h
   ·rw[if_neg hc]at h
    simp only[List.lookup_cons,hx]at h ⊢;exact ih h
theorem jJ{env:Env}:∀ {names:List (Str×NameKind)} {x:Str},names.lookup x=some .free ->
  (names.map λ(n,k)=>if(k==NameKind.free&&env.scope.kind==.function&&env.kindOf n==some .cell)then(n,NameKind.cell)else(n,k)).lookup x=some .cell \/
  (names.map λ(n,k)=>if(k==NameKind.free&&env.scope.kind==.function&&env.kindOf n==some .cell)then(n,NameKind.cell)else(n,k)).lookup x=some .free
 | [],_,h=>by simp at h
 | (n,k')::r,x,h=>by
  have ih:=@jJ env r x;show List.lookup x ((if(k'==NameKind.free&&env.scope.kind==.function&&env.kindOf n==some .cell)=true then(n,NameKind.cell)else(n,k'))::_)=some .cell\/List.lookup x ((if(k'==NameKind.free&&env.scope.kind==.function&&env.kindOf n==some .cell)=true then(n,NameKind.cell)else(n,k'))::_)=some .free
  cases hx:x==n with
  | true =>
   simp only[List.lookup_cons,hx]at h
   by_cases hc:(k'==NameKind.free&&env.scope.kind==.function&&env.kindOf n==some .cell)=true
   ·rw[if_pos hc];left;simp only[List.lookup_cons,hx]
   ·rw[if_neg hc];right;simp only[List.lookup_cons,hx];exact h
  | false =>
   simp only[List.lookup_cons,hx]at h
   by_cases hc:(k'==NameKind.free&&env.scope.kind==.function&&env.kindOf n==some .cell)=true
   ·rw[if_pos hc];simp only[List.lookup_cons,hx];exact ih h
   ·rw[if_neg hc];simp only[List.lookup_cons,hx];exact ih h
structure gD(X:Cx)(scope:Scope)(N':List Str)(caps:List (Option Nat)):Prop where
 kind:scope.kind=.function
 nu:∀y∈scope.names,y.2≠.cell
 names:∀y∈scope.names,y.2=.local->scope.names.lookup y.1=some .local
 free:∀y∈scope.names,y.2=.free->X.env.kindOf y.1=some .cell\/X.env.kindOf y.1=some .free
 len:caps.length=N'.length
 Yd:∀(i:Nat) (j:Nat),caps[i]?=some (some j)->∃x,N'[i]?=some x/\X.N[j]?=some x/\scope.names.lookup x=some .free
section
variable {X:Cx}{pins:List (Addr×Obj)}{σ:St}{H:Hp}{s:Shared}{elt target iter:Expr}{ifs:List Expr}{scope:Scope}{pos:Pos}{N':List Str}{caps:List (Option Nat)}
theorem gD.cells(SC:gD X scope N' caps)(ok:X.Ok):∀x∈scope.names,x.2=.free->∃c,X.env.cells.lookup x.1=some c:=λx hx hf=>ok.has x.1 (SC.free x hx hf)
def Gi(X:Cx)(scope:Scope)(N':List Str)(dr:Shared)(wI:Hp)(C:Addr)(fp:List Addr):Cx:=
 {X with N:=N',dr:=dr,wI:=wI,env:=compEnvC scope (iW X.env scope.names []) C X.env,outer:=X.stack,ex:=fp,fn:=λ_=>false,calm:=true,pn:=[],xe:=λ_ _=>False}
theorem LN(I:L2.Inv X pins σ H s)(SC:gD X scope N' caps)(hc:X.calm=true){fp:List Addr}(hf:∀b∈fp,iA X pins H b)(eX:∀b∈fp,b<s.heap.objs.size):(Gi X scope N' s H s.heap.objs.size fp).Ok where
 mod:=I.ok.mod
 kind:=SC.kind
 glob:=I.ok.glob
 blt:=I.ok.blt
 above:=Nat.le_refl _
 inj:=λx y c h1 h2=>by
  have f:∀z,(iW X.env scope.names []).lookup z=some c->X.env.cells.lookup z=some c:=λz h=>by
   rcases cA scope.names [] z c (SC.cells I.ok) h with q|q
   ·exact q
   ·cases q
  exact I.ok.inj x y c (f x h1) (f y h2)
 has:=λx hx=>by
  have hx:(relabel scope X.env).names.lookup x=some .cell\/(relabel scope X.env).names.lookup x=some .free:=hx;have yE:scope.names.lookup x=some .free:=by
   rcases hx with hx|hx
   ·rcases f7 hx with q|⟨_,q⟩
    ·exact absurd rfl (SC.nu _ (PySem.mem_of_lookup q))
    ·exact q
   ·rcases f7 hx with q|⟨q,_⟩
    ·exact q
    ·cases q
  exact Option.isSome_iff_exists.mp (jo scope.names [] x (PySem.mem_of_lookup yE))
 Ss:=λx c h=>by cases h
 hd:=λ_=>I.ok.hd hc
 frames:=I.ok.frames
 XY:=.inl rfl
 Zm:=λb hb=>⟨Nat.ne_of_lt (eX b hb),λx c h=>by
  rcases cA scope.names [] x c (SC.cells I.ok) h with q|q
  ·exact(hf b hb).2.2.2.2.1 x c q
  ·cases q⟩
 bs:=I.bs
 Gh:=Nat.le_trans I.ok.Gh I.sz
 Aw:=λb o e hb=>by
  rcases(hf b hb).2.2.2.1 with q|q
  ·exact I.ok.Aw b o e q
  ·exact absurd (Nat.lt_of_lt_of_le (Heap.lt_size e) (Nat.le_trans I.ok.Gh q)) (Nat.lt_irrefl _)
 CU:=λb hb z=>by
  rcases List.mem_cons.mp (I.sE b z)with q|q
  ·exact(hf b hb).2.1 q
  ·exact(hf b hb).2.2.1 q
 lN:=I.stack
 MN:=I.zq
theorem GV(I:L2.Inv X pins σ H s)(SC:gD X scope N' caps)(hc:X.calm=true){fp:List Addr}(hf:∀b∈fp,iA X pins H b)(eX:∀b∈fp,b<s.heap.objs.size){h1:Heap}{t1:Nat}(hn:h1.Ns s.heap.objs.size (λ_=>none))(hk:∀b o,s.heap.get? b=some o->h1.get? b=some o):
  L2.Inv (Gi X scope N' s H s.heap.objs.size fp) [] (fe caps σ) H {s with heap:=h1,toks:=t1} where
 ok:=LN I SC hc hf eX
 os:=rfl
 bare:=I.bare
 base:=Un.kept hk
 loc:=by
  refine⟨_,hn,λi x v e1 e2 _=>?_⟩;have e2:(caps.map λc=>match c with|some j=>(σ[j]?).join|none=>none)[i]?=some (some v):=e2
  rw[List.getElem?_map]at e2;cases ec:caps[i]? with
  | none=>rw[ec]at e2;cases e2
  | some c =>
   rw[ec]at e2;cases c with
   | none=>cases e2
   | some j =>
    have e2:(σ[j]?).join=some v:=Option.some.inj e2;have e3:σ[j]?=some (some v):=by
     cases q:σ[j]? with
     | none=>rw[q]at e2;cases e2
     | some w =>
      rw[q]at e2;cases w with
      | none=>cases e2
      | some z=>cases e2;rfl
    obtain⟨y,w1,w2,w3⟩:=SC.Yd i j ec;have e1:N'[i]?=some x:=e1;rw[w1]at e1;cases e1;have Vu:=SC.free (x,.free) (PySem.mem_of_lookup w3) rfl;obtain⟨m,hm,hl⟩:=I.loc;obtain⟨u,r,l⟩:=hl j x v w2 e3 (.inr Vu);refine⟨u,r,?_⟩;rcases l with⟨k1,_⟩|⟨_,c,JX,yD⟩
    ·have Vu:X.env.kindOf x=some .cell\/X.env.kindOf x=some .free:=Vu
     rw[k1]at Vu;rcases Vu with z|z<;>cases z
    ·right
     refine⟨jJ w3,c,?_,?_⟩
     ·obtain⟨c',e'⟩:=Option.isSome_iff_exists.mp (jo (env:=X.env) scope.names [] x (PySem.mem_of_lookup w3))
      rcases cA scope.names [] x c' (SC.cells I.ok) e' with q|q
      ·rw[JX]at q;cases q
       exact e'
      ·cases q
     ·obtain⟨o,ho,hd⟩:=yD
      exact⟨o,hk _ _ ho,hd⟩
 cell:=λx c h=>by
  rcases cA scope.names [] x c (SC.cells I.ok) h with q|q
  ·obtain⟨v,o,ho,hd⟩:=I.cell x c q
   exact⟨v,o,hk _ _ ho,hd⟩
  ·cases q
 free:=I.bU.fresh (Nat.le_refl _)
 gH:=λx c h=>by
  rcases cA scope.names [] x c (SC.cells I.ok) h with q|q
  ·exact I.gH x c q
  ·cases q
 pin:=λp hp=>absurd (show p∈([]:List (Addr×Obj))from hp) (by simp)
 bU:=I.bU.kept hk
 len:=by
  show(caps.map _).length=N'.length;rw[aaR];exact SC.len
theorem tJ(I:L2.Inv X pins σ H s)(SC:gD X scope N' caps)(hc:X.calm=true){it:Addr}{fp:List Addr}{tn:Nat->Heap->Prop}{J:It}(T:Turn X.prog X.w X.K target J fp it tn)(t0:tn 0 s.heap)(hf:∀b∈fp,iA X pins H b)
  {g:TG} {tc:TT} {te:TE} (uL:∀X',jk X X' scope N'->PG X' target g/\Gg X' ifs tc/\PE X' elt te) {Q:VK}
  (q:∀acc,H acc=none->∃W:Nat->Nat->St->Hp->Prop,(∃m,W 0 m (fe caps σ) (upd H acc (.lst [])))/\∀i m aA H,W i m aA H ->
   (J.stop i H/\Q (.ref acc) H)\/(J.go i H/\∀x H',J.S7 i H x H'->g x aA H' λbh H2=>tc bh H2 λb H3=>if b=true then te bh H3 λv H4=>∃ys m',H4 acc=some (.lst ys)/\ys.length<sizeLine/\m'<m/\W (i+1) m' bh (upd H4 acc (.lst (ys++[v])))else∃m',m'<m/\W (i+1) m' bh H3))
  {E:Value->Shared->Prop} {RR:Value->Addr->Result->Shared->Prop}
  (hRR:∀acc C H' s',L2.Inv X pins σ H' s'->iA X pins H' C->(∃m,s'.heap.Ns C m)->Q (.ref acc) H'->RR (.ref acc) C (.ok .next) s'):
  wpAny (model X.prog X.w) X.A (newList []) (λacc vU=>wpAny (model X.prog X.w) X.A (newFunctionEnv scope X.env.globals (iW X.env scope.names []) [] X.env.qual none .none (some X.env)) (λT7 IK =>
   codeAny (model X.prog X.w) X.A (.compStart (.ListComp elt [⟨target,iter,ifs,0⟩] scope pos) 0 (.ref it) acc {T7 with scope:=relabel scope X.env}) (RR acc T7.locals) IK) E vU) E s:=by
 refine wpAny_newObj_type ?_;have ju:H s.heap.objs.size=none:=I.bU.fresh (Nat.le_refl _);have I3:L2.Inv X pins σ (upd H s.heap.objs.size (.lst [])) {s with heap:=s.heap.push {cls:=.type "list",dict:=none,data:=.seq ([]:List Value).toArray}}:=I.N6 (t':=s.toks) (its:=[]) (ys:=[]) .nil (Nat.zero_le _)
 obtain⟨W,⟨m0,w0⟩,step⟩:=q _ ju;generalize hs3:({s with heap:=s.heap.push {cls:=.type "list",dict:=none,data:=.seq ([]:List Value).toArray}}:Shared)=s3 at I3 ⊢
 generalize hH3:upd H s.heap.objs.size (.lst [])=H3 at I3 w0;generalize Vk:s.heap.objs.size=acc at *;have up3:∀b o,s.heap.get? b=some o->s3.heap.get? b=some o:=λb o e=>by rw[<- hs3];exact aaP _ e
 have Va:∀b∈fp,b<s3.heap.objs.size:=λb hb=>by
  obtain⟨o,e,_⟩:=T.obj 0 _ t0 b hb;exact Heap.lt_size (up3 b o e)
 have Yj:∀b∈fp,iA X pins H3 b:=λb hb=>by
  obtain⟨f0,f⟩:=hf b hb;refine⟨?_,f⟩;obtain⟨o,e,_⟩:=T.obj 0 _ t0 b hb;have:b≠acc:=by rw[<- Vk];exact Nat.ne_of_lt (Heap.lt_size e)
  rw[<- hH3,aq this];exact f0
 have t3:tn 0 s3.heap:=T.keep 0 _ _ t0 λb _ o e=>up3 b o e;refine wpAny_newFunctionEnv SC.nu (by intro y hy;simp at hy) (λh1 J0 sb1=>?_) SC.kind
 have qJ:∀b o,s3.heap.get? b=some o->h1.get? b=some o:=λb o e=>sb1.extBut b o (Nat.ne_of_lt (Heap.lt_size e)) (aaP _ e);have cx:jk X (Gi X scope N' s3 H3 s3.heap.objs.size fp) scope N':=⟨rfl,rfl,rfl,rfl,rfl,rfl,rfl,rfl,rfl,rfl⟩;obtain⟨hg,ht,he⟩:=uL _ cx;have MY:h1.Ns s3.heap.objs.size (λ_=>none):=by simpa using J0
 have Zr:∀ {H':Hp},(∀b∈fp,H' b=none)->∀b∈fp,iA (Gi X scope N' s3 H3 s3.heap.objs.size fp) [] H' b:=λ{H'} hn b hb=>by
  obtain⟨f0,f1,f2,f3,f4,f5⟩:=Yj b hb;refine⟨hn b hb,Nat.ne_of_lt (Va b hb),?_,.inl hb,λx c h=>?_,λp hp=>absurd (show p∈([]:List (Addr×Obj))from hp) (by simp)⟩
  ·intro z
   rcases List.mem_cons.mp (I3.sE b z)with q|q
   ·exact f1 q
   ·exact f2 q
  ·rcases cA scope.names [] x c (SC.cells I.ok) h with q|q
   ·exact f4 x c q
   ·cases q
 have loop:∀s4:Shared,L2.Inv (Gi X scope N' s3 H3 s3.heap.objs.size fp) [] (fe caps σ) H3 s4->tn 0 s4.heap->codeAny (model X.prog X.w) X.A (.compLoop (.ListComp elt [⟨target,iter,ifs,0⟩] scope pos) 0 (.ref it) (.ref acc) (compEnvC scope (iW X.env scope.names []) s3.heap.objs.size X.env)) (RR (.ref acc) s3.heap.objs.size) s4:=by
  intro s4 I4 t4;refine qp (λn s'=>∃i aA H',L2.Inv (Gi X scope N' s3 H3 s3.heap.objs.size fp) [] aA H' s'/\tn i s'.heap/\(∀b∈fp,H' b=none)/\W i n aA H') ?_ m0 ⟨0,_,H3,I4,t4,λb hb=>(Yj b hb).1,w0⟩;rintro n s5 ⟨i,aA,H5,I5,SX,Gn,w5⟩;rcases step i n aA H5 w5 with⟨stop,qn⟩|⟨go,body⟩
  ·refine cO (T.done (Gi X scope N' s3 H3 s3.heap.objs.size fp) rfl rfl rfl rfl i [] s5 aA H5 _ I5 (Zr Gn) SX stop) λr s6 ⟨hr,I6⟩=>?_
   subst hr;have u:=I6.base;refine hRR acc _ H5 s6 (I3.T6 (ch:=fp) I6.os u I6.bU I6.bare λb hb=>?_) (I3.Aa (Nat.le_refl _) I6.free) ?_ qn
   ·obtain⟨f0,f1,f2,f3,f4,f5⟩:=Yj b hb
    exact⟨f3.imp id λz=>Heap.get?_none_of_le z,f1,f4,f5⟩
   ·obtain⟨m,hm,_⟩:=I6.loc
    exact⟨m,hm⟩
  ·refine cO (T.item (Gi X scope N' s3 H3 s3.heap.objs.size fp) rfl rfl rfl rfl i [] s5 aA H5 _ I5 (Zr Gn) SX go) λr s6 ⟨u,hr,h6⟩=>?_
   subst hr;refine cO h6 λ_ s7 ⟨x,H7,I7,r7,y7,st7,fr7⟩=>?_;have I7':=I7.pinned (Zr fr7) (T.obj _ _ st7);have back:∀ {GA:St} {H8:Hp} {s8:Shared},L2.Inv (Gi X scope N' s3 H3 s3.heap.objs.size fp) ([]++kS fp s7.heap) GA H8 s8->L2.Inv (Gi X scope N' s3 H3 s3.heap.objs.size fp) [] GA H8 s8/\tn (i+1) s8.heap/\∀b∈fp,H8 b=none:=λ{GA H8 s8} I8=>by
    refine⟨I8.gX,T.keep _ _ _ st7 λb hb o e=>(I8.pin (b,o) (List.mem_append_right _ (List.mem_append_right _ (eR hb e)))).1,λb hb=>?_⟩;obtain⟨o,e,d⟩:=T.obj _ _ st7 b hb;exact(I8.pin (b,o) (List.mem_append_right _ (List.mem_append_right _ (eR hb e)))).2.1
   refine cO (hg _ s7 aA H7 x u _ I7' r7 (body x H7 y7)) λ_ s8 ⟨GA,H8,I8,q8⟩=>?_;refine cO (ht _ s8 GA H8 _ I8 q8) λb s9 ⟨H9,I9,q9⟩=>?_;cases b with
   | false =>
    obtain⟨m',hm,w9⟩:=q9;obtain⟨J1,J2,J3⟩:=back I9;exact⟨m',hm,i+1,GA,H9,J1,J2,J3,w9⟩
   | true =>
    refine cO (he _ s9 GA H9 _ I9 q9) λy s10 ⟨v,H10,I10,r10,ys,m',Uw,hz,hm,w10⟩=>?_;refine cO (kN _ s10 GA H10 (.ref acc) [v] (.ref acc) [y] (λz YL=>z=.bD/\W (i+1) m' GA YL) I10 rfl (.cons r10 .nil) ⟨acc,ys,v,rfl,rfl,Uw,hz,rfl,w10⟩) λ_ s11 ⟨_,YL,I11,_,_,w11⟩=>?_;obtain⟨J1,J2,J3⟩:=back I11;exact⟨m',hm,i+1,GA,YL,J1,J2,J3,w11⟩
 have I4:=GV (caps:=caps) (N':=N') I3 SC hc Yj Va (t1:=s3.toks+([]:List (Str×Value)).length) MY qJ;have t4:tn 0 h1:=T.keep 0 _ _ t3 λb _ o e=>qJ b o e;exact codeAny_compStart_list (loop _ I4 t4) (T.self X.A 0 _ _ _ t4 (loop _ I4 t4))
end
end Vc
namespace Vc
open PySem L2
variable [KF]
section
variable {X:Cx}{elt target iter:Expr}{ifs:List Expr}{scope:Scope}{pos:Pos}{N':List Str}{caps:List (Option Nat)}{wi:TI}{g:TG}{tc:TT}{te:TE}
theorem yz{pins:List (Addr×Obj)}{σ:St}{H:Hp}{s:Shared}{C:Addr}{h':Heap}(f:iA X pins H C)(I:L2.Inv X pins σ H s)(hs:Heap.SameBut C s.heap h'):L2.Inv X pins σ H {s with heap:=h'}:=by
 obtain⟨f0,f1,f2,f3,f4,f5⟩:=f;exact I.turned (t':=s.toks) (λb o hb e=>hs.extBut b o hb e) f0 f1 f3 f4 f5
theorem mv(hc:X.calm=true)(hi:PI X target iter wi)(SC:gD X scope N' caps)(uL:∀X',jk X X' scope N'->PG X' target g/\Gg X' ifs tc/\PE X' elt te)(hs:∀x,foldedSetIterable iter X.env x=pure x):
  PE X (.ListComp elt [⟨target,iter,ifs,0⟩] scope pos) (lb wi caps g tc te):=by
 intro pins s σ H Q I h;rw[eval_ListComp];refine wpAny_comprehension_free (use:=none) rfl hs (mH (SC.cells I.ok)) SC.kind SC.names (cO (hi pins s σ H _ I h) λv s1 h1=>cO h1 λYr s2 h2=>?_);obtain⟨it,fp,tn,J,H2,rfl,I2,T,t0,f2,q2⟩:=h2;exact tJ I2 SC hc T t0 f2 uL q2 (RR:=λacc C=>compPost (model X.prog X.w) X.A X.xe none (EP X pins σ Q) acc C) λacc C H' s' I' f' ⟨m,hm⟩ q'=>⟨m,hm,λh' kx=>⟨.ref acc,H',yz f' I' kx,rfl,q'⟩⟩
theorem yY{i:Nat}{y:Str}{py gB:Pos}(hc:X.calm=true)(hi:PI X target iter wi)(SC:gD X scope N' caps)(uL:∀X',jk X X' scope N'->PG X' target g/\Gg X' ifs tc/\PE X' elt te)(hs:∀x,foldedSetIterable iter X.env x=pure x)
  (hN:X.N.Nodup) (hy:X.N[i]?=some y) (hx:X.env.scope.names.lookup y=some .local) (hsw:swapsWith (.ListComp elt [⟨target,iter,ifs,0⟩] scope pos) (some (.Name y py)) gB.line X.env=pure true):
  PS X (.Assign [.Name y py] (.ListComp elt [⟨target,iter,ifs,0⟩] scope pos) gB) (Fe (lb wi caps g tc te) (mV i)):=by
 intro pins s σ H D I h;rw[exec_Assign_Name_used _ _ _ _ hsw];refine aaO (wpAny_standAt (aaO ?_));show wpAny _ X.A (do let _ <- comprehension (.ListComp elt [⟨target,iter,ifs,0⟩] scope pos) scope X.env _ (newList []) false (eval iter X.env) (some (assign (.Name y py) X.env))) _ _ s
 refine aaO (wpAny_mono (wpAny_comprehension_free (use:=some (assign (.Name y py) X.env)) (Q:=λ_ s'=>SP X pins D .next s') rfl hs (mH (SC.cells I.ok)) SC.kind SC.names (cO (hi pins s σ H _ I h) λv s1 h1=>cO h1 λYr s2 h2=>?_))
  (λ_ s' hq=>wpAny_pure (wpAny_pure hq)) λ_ _ e=>e)
 obtain⟨it,fp,tn,J,H2,rfl,I2,T,t0,f2,q2⟩:=h2;refine tJ (Q:=λx H1=>mV i x σ H1 D.nx) I2 SC hc T t0 f2 uL q2 (RR:=λacc C=>compPost (model X.prog X.w) X.A X.xe (some (assign (.Name y py) X.env)) (λ_ s'=>SP X pins D .next s') acc C) λacc C H' s' I' f' ⟨m,hm⟩ q'=>?_;show wpAny _ X.A (assign (.Name y py) X.env (.ref acc)) _ _ s';obtain⟨o,es,ep,ho,hd,r⟩:=id hm;have Ip:L2.Inv X (pins++kS [C] s'.heap) σ H' s':=I'.pinned (fp:=[C]) (λb hb=>(show b=C by simpa using hb) ▸ f') (λb hb=>by
  have e:b=C:=by simpa using hb
  subst e;exact⟨o,ho,λv z=>by rw[hd]at z;cases z⟩)
 refine wpAny_assign_Name (nW Ip hN hy (.inl hx) (show RelV (.ref acc) (.ref acc)from rfl) (λXv I''=>?_) (.inr hx))
 have hC:Xv.heap.get? C=some o:=(I''.pin (C,o) (List.mem_append_right _ (List.mem_append_right _ (eR (by simp) ho)))).1
 exact⟨m,⟨o,es,ep,hC,hd,r⟩,λh' kx=>⟨_,H',yz f' I''.gX kx,q'⟩⟩
end
variable {G:GE}{k:Nat}{S:Stat}
def gN(names sc:List (Str×NameKind)):List (Str×NameKind):=names.map λ(n,k)=>if(k==.free&&sc.lookup n==some .cell)then(n,.cell)else(n,k)
def aQ(S:Stat)(scope:Scope)(N':List Str):Stat:=⟨N',gN scope.names S.sc,[],true,false,false,λ_ _=>False⟩
structure iG(S:Stat)(scope:Scope)(N':List Str)(caps:List (Option Nat)):Prop where
 kind:scope.kind=.function
 nd:N'.Nodup
 nu:scope.names.all (λy=>y.2 != .cell)=true
 names:scope.names.all (λy=>y.2 != .local||scope.names.lookup y.1==some .local)=true
 free:scope.names.all (λy=>y.2 != .free||S.sc.lookup y.1==some .cell||S.sc.lookup y.1==some .free)=true
 len:caps.length=N'.length
 Yd:(caps.zip N').all (λp=>match p.1 with|some j=>S.N[j]?==some p.2&&scope.names.lookup p.2==some .free|none=>true)=true
theorem iG.sc{scope:Scope}{N':List Str}{caps:List (Option Nat)}(b:iG S scope N' caps){X:Cx}{Y:bK}(ok:en X G k S Y):gD X scope N' caps where
 kind:=b.kind
 nu:=λy hy z=>by
  have:=List.all_eq_true.mp b.nu y hy;rw[z]at this;cases this
 names:=λy hy z=>by
  have:=List.all_eq_true.mp b.names y hy;rw[z]at this;simpa using this
 free:=λy hy z=>by
  have:=List.all_eq_true.mp b.free y hy;rw[z]at this;have kd:X.env.kindOf y.1=S.sc.lookup y.1:=by
   show X.env.scope.names.lookup y.1=_;rw[ok.sc]
  rw[kd];simpa using this
 len:=b.len
 Yd:=λi j e=>by
  have hl:i<caps.length:=(List.getElem?_eq_some_iff.mp e).1;have hl':i<N'.length:=by rw[<- b.len];exact hl
  have hz:(caps.zip N')[i]?=some (some j,N'[i]):=by
   rw[List.getElem?_zip_eq_some];exact⟨e,by rw[aaQ hl']⟩
  have:=List.all_eq_true.mp b.Yd _ (List.mem_of_getElem? hz);simp only[Bool.and_eq_true,beq_iff_eq]at this;exact⟨N'[i],by rw[aaQ hl'],by rw[ok.N];exact this.1,this.2⟩
theorem eL{X X':Cx}{Y:bK}{scope:Scope}{N':List Str}{caps:List (Option Nat)}(hh:S.kF=false)(ok:en X G k S Y)(b:iG S scope N' caps)(c:jk X X' scope N')(Y':bK)(cY:Y'.io=[]):en X' G k (aQ S scope N') Y' where
 P:=c.P.trans ok.P
 w:=c.w.trans ok.w
 K:=c.K.trans ok.K
 kf:=c.K.trans ok.kf
 mg:=c.mg.trans ok.mg
 obs:=λh=>nomatch h
 base:=c.base.trans ok.base
 N:=c.N
 sc:=by
  rw[c.sc];show scope.names.map _=gN scope.names S.sc;unfold gN;refine List.map_congr_left λy _=>?_;obtain⟨n,kk⟩:=y;have kd:X.env.kindOf n=S.sc.lookup n:=by
   show X.env.scope.names.lookup n=_;rw[ok.sc]
  simp only[ok.kind,kd,beq_self_eq_true,Bool.and_true]
 nd:=b.nd
 ios:=λp hp=>by rw[cY]at hp;cases hp
 calm:=λ_=>c.calm
 kind:=by rw[c.sc];exact b.kind
 fn:=λh=>by cases h
 hd:=λ_=>by rw[c.A];exact ok.hd hh
 dp:=by rw[c.A];exact ok.dp
 un:=by rw[c.A];exact ok.un
 po:=λ_=>by rw[c.xe];exact PassesOwn.never
 nx:=λh=>nomatch h
 exc:=λ_ _ h=>h.elim
 made:=λh=>nomatch h
def kJ:Sd->Sd->Prop
 | [],[]=>True
 | none::r,_::s=>kJ r s
 | some b::r,c::s=>c=some b/\kJ r s
 | _,_=>False
theorem mn:∀ {a b:Sd} {i:Nat} {x:B},kJ a b->a[i]?=some (some x)->b[i]?=some (some x)
 | [],[],_,_,_,e=>by simp at e
 | none::r,c::s,0,_,h,e=>by simp at e
 | none::r,c::s,i+1,x,h,e=>by
  have h:kJ r s:=h;simpa using mn (i:=i) h (by simpa using e)
 | some b::r,c::s,0,x,h,e=>by
  obtain⟨h1,h2⟩:c=some b/\kJ r s:=h;simp at e;subst e;simp [h1]
 | some b::r,c::s,i+1,x,h,e=>by
  obtain⟨h1,h2⟩:c=some b/\kJ r s:=h;simpa using mn (i:=i) h2 (by simpa using e)
 | [],_::_,_,_,h,_=>h.elim
 | none::_,[],_,_,h,_=>h.elim
 | some _::_,[],_,_,h,_=>h.elim
theorem mq:∀ {a b:Sd},kJ a b->a.length=b.length
 | [],[],_=>rfl
 | none::r,c::s,h=>by
  have h:kJ r s:=h;simp [mq h]
 | some b::r,c::s,h=>by
  obtain⟨_,h2⟩:c=some b/\kJ r s:=h;simp [mq h2]
 | [],_::_,h=>h.elim
 | none::_,[],h=>h.elim
 | some _::_,[],h=>h.elim
def uG(ios:List Nat):List (Option Nat)->Sd->(Sd->Prop)->Prop
 | [],σ,Q=>Q σ
 | none::r,σ,Q=>uG ios r σ Q
 | some j::r,σ,Q=>match σ[j]? with
  | some (some (.own xs))=>j∉ios/\uG ios r (σ.set j (some (.sh (.lst xs)))) Q
  | _=>uG ios r σ Q
def du(caps:List (Option Nat))(σ:Sd):Sd:=caps.map λc=>match c with
 | some j=>match σ[j]? with
  | some (some (.sh d))=>some (.sh d)
  | _=>none
 | none=>none
def gq(g:lM)(tc:TB)(te:TD)(σ0:Sd):List D->List D->(List D->Prop)->Prop
 | [],acc,Q=>Q acc
 | x::xs,acc,Q=>g x σ0 λaA=>tc aA λb bh=>if b=true then te bh λd gk=>kJ σ0 gk/\acc.length<sizeLine/\gq g tc te σ0 xs (acc++[d]) Q else kJ σ0 bh/\gq g tc te σ0 xs acc Q
def dk(ios:List Nat)(caps:List (Option Nat))(ti:fc)(g:lM)(tc:TB)(te:TD):TX:=λσ Q=>ti σ λitems aA=>uG ios caps aA λbh=>gq g tc te (du caps bh) items [] λds=>Q (.own ds) bh
theorem eN{ios:List Nat}{Y:bK}(cY:∀p∈Y.io,p.1∈ios):∀ {caps:List (Option Nat)} {F:Hp} {ak:Sd} {σ:St} {H:Hp} {Q:Sd->Prop},RS Y F ak σ H->uG ios caps ak Q->∃F' aL,av F F'/\RS Y F' aL σ H/\Q aL
 | [],F,ak,σ,H,Q,R,q=>⟨F,ak,av.refl _,R,q⟩
 | none::r,F,ak,σ,H,Q,R,q=>eN cY (caps:=r) R q
 | some j::r,F,ak,σ,H,Q,R,q=>by
  unfold uG at q
  split at q
  ·rename_i xs e
   obtain⟨F2,v2,s2,R2,e2,r2⟩:=R.kE e λp hp z=>q.1 (z ▸ cY p hp);obtain⟨F3,gk,s3,R3,q3⟩:=eN cY (caps:=r) R2 q.2;exact⟨F3,gk,s2.trans s3,R3,q3⟩
  ·exact eN cY (caps:=r) R q
theorem cB(caps:List (Option Nat))(ak:Sd):∀(i:Nat) (o:O),(du caps ak)[i]?≠some (some (.obj o)):=λi o e=>by
 unfold du at e;rw[List.getElem?_map]at e;cases ec:caps[i]? with
 | none=>rw[ec]at e;cases e
 | some c =>
  rw[ec]at e;cases c with
  | none=>cases e
  | some j =>
   have e:(match ak[j]? with|some (some (.sh d))=>some (B.sh d)|_=>none)=some (.obj o):=Option.some.inj e
   split at e<;>cases e
theorem qo{Y:bK}{F:Hp}{ak:Sd}{σ:St}{H:Hp}(R:RS Y F ak σ H)(caps:List (Option Nat)){F' H':Hp}(s1:av F F')(s2:av F' H'):RS ⟨H',F',[],[]⟩ F' (du caps ak) (fe caps σ) H' where
 len:=by unfold du fe;simp
 lo:=av.refl _
 fr:=s2
 fE:=λb o e=>.inl e
 old:=λb o e _=>e
 sh:=λi d e=>by
  unfold du at e;rw[List.getElem?_map]at e;unfold fe;rw[List.getElem?_map];cases ec:caps[i]? with
  | none=>rw[ec]at e;cases e
  | some c =>
   rw[ec]at e;cases c with
   | none=>cases e
   | some j =>
    have e:(match ak[j]? with|some (some (.sh d))=>some (B.sh d)|_=>none)=some (.sh d):=Option.some.inj e
    split at e
    ·rename_i d' q
     cases e;obtain⟨v,h1,h2⟩:=R.sh j d q;exact⟨v,by show some ((σ[j]?).join)=_;rw[h1];rfl,h2.mono s1⟩
    ·cases e
 own:=λi xs e=>by
  unfold du at e;rw[List.getElem?_map]at e;cases ec:caps[i]? with
  | none=>rw[ec]at e;cases e
  | some c =>
   rw[ec]at e;cases c with
   | none=>cases e
   | some j =>
    have e:(match ak[j]? with|some (some (.sh d))=>some (B.sh d)|_=>none)=some (.own xs):=Option.some.inj e
    split at e<;>cases e
 dis:=λi j xs ys a e=>by
  exfalso;unfold du at e;rw[List.getElem?_map]at e;cases ec:caps[i]? with
  | none=>rw[ec]at e;cases e
  | some c =>
   rw[ec]at e;cases c with
   | none=>cases e
   | some j =>
    have e:(match ak[j]? with|some (some (.sh d))=>some (B.sh d)|_=>none)=some (.own xs):=Option.some.inj e
    split at e<;>cases e
 io:=λp hp=>by cases hp
 ob:=.none (cB _ _) (R.ob.tab.mono s1) λb hb=>by cases hb
theorem RS.less{Y:bK}{F:Hp}{σ0 ak:Sd}{σ:St}{H:Hp}(R:RS Y F ak σ H)(l:kJ σ0 ak)(vm:∀(i:Nat) (xs:List D),σ0[i]?≠some (some (.own xs)))(D6:∀(i:Nat) (o:O),σ0[i]?≠some (some (.obj o))){H':Hp}(s:av F H'):RS ⟨H',F,[],[]⟩ F σ0 σ H' where
 len:=(mq l).trans R.len
 lo:=av.refl _
 fr:=s
 fE:=λb o e=>.inl e
 old:=λb o e _=>e
 sh:=λi d e=>R.sh i d (mn l e)
 own:=λi xs e=>absurd e (vm i xs)
 dis:=λi j xs ys a e=>absurd e (vm i xs)
 io:=λp hp=>by cases hp
 ob:=.none D6 R.ob.tab λb hb=>by cases hb
theorem cC(caps:List (Option Nat))(ak:Sd):∀(i:Nat) (xs:List D),(du caps ak)[i]?≠some (some (.own xs)):=λi xs e=>by
 unfold du at e;rw[List.getElem?_map]at e;cases ec:caps[i]? with
 | none=>rw[ec]at e;cases e
 | some c =>
  rw[ec]at e;cases c with
  | none=>cases e
  | some j =>
   have e:(match ak[j]? with|some (some (.sh d))=>some (B.sh d)|_=>none)=some (.own xs):=Option.some.inj e
   split at e<;>cases e
theorem gK:∀a:Sd,kJ a a
 | []=>trivial
 | none::r=>gK r
 | some b::r=>⟨rfl,gK r⟩
theorem RS.other{Y:bK}{F:Hp}{ak:Sd}{σ:St}{H:Hp}{a:Addr}{o:HO}(R:RS Y F ak σ H)(h1:F a=none)(h2:Y.H0 a=none)(h3:dQ ak σ a):RS Y F ak σ (upd H a o) where
 len:=R.len
 lo:=R.lo
 fr:=λb u e=>by
  have:b≠a:=λz=>by rw[z,h1]at e;cases e
  rw[aq this];exact R.fr b u e
 fE:=R.fE
 old:=λb u e n=>by
  have:b≠a:=λz=>by rw[z,h2]at e;cases e
  rw[aq this];exact R.old b u e n
 sh:=R.sh
 own:=λi xs e=>by
  obtain⟨b,vs,w1,w2,w3⟩:=R.own i xs e;have:b≠a:=λz=>h3 i xs e (by rw[w1,z])
  exact⟨b,vs,w1,by rw[aq this];exact w2,w3⟩
 dis:=R.dis
 io:=R.io
 ob:=R.ob.step (av.refl _) (λ_ _ e=>⟨e,rfl⟩) (λb hb=>by
  obtain⟨w1,w2,w3⟩:=R.ob.owned hb;have cU:b≠a:=λz=>h3.Od (z ▸ hb);exact⟨aq cU,w1,w3⟩) R.ob.iY λb hb=>by
  by_cases cU:b=a
  ·rw[cU,ay];exactλz=>nomatch z
  ·rw[aq cU];exact R.ob.there b hb
def Yw(g:lM):TG:=λv σ H Q=>∃Y:bK,Y.io=[]/\lG Y g v σ H Q
def Yv(t:TB):TT:=λσ H Q=>∃Y:bK,Y.io=[]/\lB Y t σ H Q
def lDe(t:TD):TE:=λσ H Q=>∃Y:bK,Y.io=[]/\lD Y t σ H Q
structure GD(G:GE)(k:Nat)(S:Stat)(ifs:List Expr)(t:TB) :Prop where
 run:∀X Y,en X G k S Y->Gg X ifs (lB Y t)
instance {G:GE} {k:Nat} {S:Stat} {ifs:List Expr} {t:TB} :CoeFun (GD G k S ifs t) λ_=>∀X Y,en X G k S Y->Gg X ifs (lB Y t):=⟨GD.run⟩
def dm:TB:=λσ Q=>Q true σ
theorem gp:GD G k S [] dm:=.mk λX Y ok pins s σ H Q I q=>Io pins s σ H Q I (by
 obtain⟨F,ak,Qd,R,q,K⟩:=q;exact K true H F ak (av.refl _) R q)
theorem tB{c:Expr}{t:TB}(h:EB G k S c t):GD G k S [c] t:=.mk λX Y ok=>Iq (h X Y ok)
section
variable {elt target iter:Expr}{ifs:List Expr}{scope:Scope}{pos:Pos}{N':List Str}{caps:List (Option Nat)}{ti:fc}{g:lM}{tc:TB}{te:TD}
theorem qt{X:Cx}{Y:bK}(hh:S.kF=false)(ok:en X G k S Y)(b:iG S scope N' caps)(hg:EG G k (aQ S scope N') target g)(ht:GD G k (aQ S scope N') ifs tc)(he:ED G k (aQ S scope N') elt te):
  ∀X',jk X X' scope N'->PG X' target (Yw g)/\Gg X' ifs (Yv tc)/\PE X' elt (lDe te):=λX' c =>
 ⟨λpins s σ H v u Q I r ⟨Y',cY,q⟩=>hg X' Y' (eL hh ok b c Y' cY) pins s σ H v u Q I r q,λpins s σ H Q I ⟨Y',cY,q⟩=>ht X' Y' (eL hh ok b c Y' cY) pins s σ H Q I q,λpins s σ H Q I ⟨Y',cY,q⟩=>he X' Y' (eL hh ok b c Y' cY) pins s σ H Q I q⟩
theorem mK{Y:bK}{ios:List Nat}(cY:∀p∈Y.io,p.1∈ios){σ:St}{H:Hp}{Q:VK}(q:lX Y (dk ios caps ti g tc te) σ H Q):lb (lI Y ti) caps (Yw g) (Yv tc) (lDe te) σ H Q:=by
 obtain⟨F,ak,Qd,R,q,K⟩:=q;refine⟨F,ak,_,R,q,λH1 F1 ye J items s1 R1 it q1 acc ju=>?_⟩;obtain⟨F2,b6,s2,R2,q2⟩:=eN cY R1 q1;have it2:=it.mono s2;have a0:Y.H0 acc=none:=(R2.cv ju).1;have aF:F2 acc=none:=same_none R2.fr ju;have aN:dQ b6 σ acc:=R2.c9 ju;have sw:∀ {F5 H5:Hp} {o:HO},av F5 H5->F5 acc=none->av F5 (upd H5 acc o):=λ{F5 H5 o} s5 h b u e=>by
  have:b≠acc:=λz=>by rw[z,h]at e;cases e
  rw[aq this];exact s5 b u e
 refine⟨λi m aA H'=>∃Fi ds ys,av F2 Fi/\RS Y Fi b6 σ H'/\H' acc=some (.lst ys)/\aD Fi ys ds/\Fi acc=none/\RS ⟨H',Fi,[],[]⟩ Fi (du caps b6) aA H'/\gq g tc te (du caps b6) (items.drop i) ds (λds=>Qd (.own ds) b6)/\m=items.length-i/\i<=items.length,
  ⟨items.length,F2,[],[],av.refl _,R2.other aF a0 aN,ay,.nil,aF,qo R2 caps (av.refl _) (sw R2.fr aF),q2,rfl,Nat.zero_le _⟩,?_⟩
 rintro i m aA Hi ⟨Fi,ds,ys,si,Ri,fG,ri,fi,Tw,qi,rfl,hi⟩;have uP:=it2 Fi Hi si Ri.fr i
 by_cases hl:i<items.length
 ·right
  have hd:items.drop i=items[i]::items.drop (i+1):=by rw[List.drop_eq_getElem_cons hl]
  rw[hd]at qi;obtain⟨go,yl⟩:=uP.1 items[i] (by rw[aaQ hl])
  refine⟨go,λv H' y=>?_⟩;obtain⟨F3,gr,rep⟩:=yl v H' y;have sF:av Fi F3:=gr.same Ri.fr;have R3:=gr.rs Tw;have Tv:RS ⟨H',F3,[],[]⟩ F3 (du caps b6) aA H':=R3.less (gK _) (cC _ _) (cB _ _) R3.fr;have sH:av Hi H':=by
   rcases gr with⟨_,rfl⟩|⟨p,o,hp,_,rfl⟩
   ·exact av.refl _
   ·exact aK hp
  have G3:∀c o,F3 c=some o->Fi c=some o\/Nw Hi c o:=λc o e=>by
   rcases gr with⟨rfl,_⟩|⟨p,o',hp,rfl,_⟩
   ·exact .inl e
   ·by_cases hc:c=p
    ·subst hc;exact .inr (.inl hp)
    ·rw[aq hc]at e;exact .inl e
  -- behind the turn
  have back:∀ {F5 H5:Hp} {l0:Sd} {Si:St},av F3 F5->RS ⟨H',F3,[],[]⟩ F5 l0 Si H5->RS Y F5 b6 σ H5/\H5 acc=some (.lst ys)/\F5 acc=none/\av Fi F5:=λ{F5 H5 l0 Si} s5 R5=>by
   have AU:av Hi H5:=sH.trans λb o e=>R5.old b o e (by simp [bK.Be])
   have Gn:∀c o,F5 c=some o->Fi c=some o\/Nw Hi c o:=λc o e=>by
    rcases R5.fE c o e with z|z
    ·exact G3 c o z
    ·exact .inr (z.imp sH.free id)
   refine⟨Ri.call (sF.trans s5) R5.fr AU Gn,AU _ _ fG,?_,sF.trans s5⟩;cases e:F5 acc with
   | none=>rfl
   | some o =>
    rcases Gn acc o e with z|z
    ·rw[fi]at z;cases z
    ·rcases z with z|⟨ws,rfl⟩
     ·rw[fG]at z;cases z
     ·have y:=R5.fr acc _ e;rw[AU _ _ fG]at y;cases y
  refine⟨⟨H',F3,[],[]⟩,rfl,F3,_,items[i],_,Tv,rep,qi,λqb H4 F4 eV s4 R4 q4=>?_⟩;refine⟨⟨H',F3,[],[]⟩,rfl,F4,eV,_,R4,q4,λb H5 F5 l0 s5 R5 q5=>?_⟩;cases b with
  | false =>
   obtain⟨le,q5⟩:=q5;obtain⟨w1,w2,w3,w4⟩:=back (s4.trans s5) R5;exact⟨items.length-(i+1),by omega,F5,ds,ys,si.trans w4,w1,w2,ri.mono w4,w3,R5.less le (cC _ _) (cB _ _) R5.fr,q5,rfl,hl⟩
  | true =>
   refine⟨⟨H',F3,[],[]⟩,rfl,F5,l0,_,R5,q5,λv6 H6 F6 d X9 s6 R6 r6 q6=>?_⟩;obtain⟨le,hz,q6⟩:=q6;obtain⟨w1,w2,w3,w4⟩:=back ((s4.trans s5).trans s6) R6;exact⟨ys,items.length-(i+1),w2,by rw[ri.length];exact hz,by omega,F6,ds++[d],ys++[v6],si.trans w4,w1.other w3 a0 aN,ay,(ri.mono w4).append (.cons r6 .nil),w3,R6.less le (cC _ _) (cB _ _) (sw R6.fr w3),q6,rfl,hl⟩
 ·left
  have e:i=items.length:=by omega
  subst e;rw[List.drop_length]at qi;exact⟨uP.2 rfl,K _ Hi Fi (.own ds) b6 ((s1.trans s2).trans si) Ri ⟨acc,ys,rfl,fG,ri,fi,a0,aN⟩ qi⟩
theorem dW(hi:EI G k S target iter ti)(b:iG S scope N' caps)(hg:EG G k (aQ S scope N') target g)(ht:GD G k (aQ S scope N') ifs tc)(he:ED G k (aQ S scope N') elt te)(hs:∀env x,foldedSetIterable iter env x=pure x:=by intro _ _;rfl)(hh:S.kF=false:=by rfl):
  EX G k S (.ListComp elt [⟨target,iter,ifs,0⟩] scope pos) (dk S.ios caps ti g tc te):=.mk λX Y ok =>
 bo (mv (ok.calm hh) (hi X Y ok) (b.sc ok) (qt hh ok b hg ht he) (hs _)) λσ H Q q=>mK ok.ios q
theorem E3(i:Nat){y:Str}{py gB:Pos}(hi:EI G k S target iter ti)(b:iG S scope N' caps)(hg:EG G k (aQ S scope N') target g)(ht:GD G k (aQ S scope N') ifs tc)(he:ED G k (aQ S scope N') elt te)
  (hy:S.N[i]?=some y:=by rfl) (hx:S.sc.lookup y=some .local\/(S.sc.lookup y=some .cell/\S.zP=false):=by first|exact Or.inl rfl|exact Or.inr ⟨rfl,rfl⟩) (hn:i∉S.ios:=by first|decide|exact List.not_mem_nil | (dsimp only;decide)) (hl:(py.line==pos.line)=true:=by rfl) (J4:(scope.names.any λ(n,k)=>n==y&&(k==.local||k==.cell))=false:=by decide +kernel)
  (hs:∀env x,foldedSetIterable iter env x=pure x:=by intro _ _;rfl) (hh:S.kF=false:=by rfl):ES G k S (.Assign [.Name y py] (.ListComp elt [⟨target,iter,ifs,0⟩] scope pos) gB) (ei S.ios i (dk S.ios caps ti g tc te)):=.mk λX Y ok=>by
 have sw:swapsWith (.ListComp elt [⟨target,iter,ifs,0⟩] scope pos) (some (.Name y py)) gB.line X.env=pure (S.sc.lookup y==some .local):=by
  have e:swapsWith (.ListComp elt [⟨target,iter,ifs,0⟩] scope pos) (some (.Name y py)) gB.line X.env=pure (X.env.blockKind==.function&&X.env.kindOf y==some .local&&py.line==pos.line&&!(scope.names.any λ(n,k)=>n==y&&(k==.local||k==.cell))):=rfl
  have kb:X.env.blockKind=.function:=by unfold Env.blockKind;rw[ok.kind];rfl
  have kd:X.env.kindOf y=S.sc.lookup y:=by
   show X.env.scope.names.lookup y=_;rw[ok.sc]
  rw[e,kb,kd,hl,J4];simp
 have fin:∀Dn σ H,lS Y (ei S.ios i (dk S.ios caps ti g tc te)) Dn σ H->Fe (lb (lI Y ti) caps (Yw g) (Yv tc) (lDe te)) (mV i) Dn σ H:=λDn σ H q=>by
  obtain⟨F,ak,De,R,q,K⟩:=q;refine mK ok.ios ⟨F,ak,_,R,q,λv H1 F1 y aA s1 R1 r1 q1=>?_⟩;obtain⟨F2,bh,s2,R2,q2⟩:=k8 R1 r1 hn ok.ios q1;exact K.nx _ H1 F2 bh (s1.trans s2) R2 q2
 rcases hx with hx|hx
 ·refine dE (yY (i:=i) (ok.calm hh) (hi X Y ok) (b.sc ok) (qt hh ok b hg ht he) (hs _) (by rw[ok.N];exact ok.nd) (by rw[ok.N];exact hy) (by rw[ok.sc];exact hx) (by rw[sw,hx];rfl)) fin
 ·refine dE (L2.xH (i:=i) (by rw[ok.N];exact ok.nd) (by rw[ok.N];exact hy) (nc ok (.inr hx)) (mv (ok.calm hh) (hi X Y ok) (b.sc ok) (qt hh ok b hg ht he) (hs _)) (by rw[sw,hx.1];rfl) (mS ok (.inr hx))) fin
end
end Vc
namespace Vc
open PySem L2
variable [KF]
section
variable {prog:Program}{w:World}{A:Around}{E:Value->Shared->Prop}{s:Shared}
theorem CO{j t:Addr}{i:Nat}{xs:Array Value}{x:Value}{Q:Value->Shared->Prop}(hj:s.heap.IsTupleIter j t i)(ht:s.heap.IsTuple t xs)(hx:xs[i]?=some x)
  (q:∀g,g.IsTupleIter j t (i+1)->Heap.SameBut j s.heap g->Q x {s with heap:=g}):wpAny (model prog w) A (Builtin.SmallTypes.nextOf (.ref j)) Q E s:=by
 obtain⟨ob,h1,h2,h3⟩:=id hj;obtain⟨ot,h4,_,nt,h5⟩:=ht;unfold Builtin.SmallTypes.nextOf;refine aaO (wpAny_callSpecial?_slot (name:=Str.ofString "__next__") hj.typeIs F.slot_tuple_iterator_next (wpAny_call_entry F.slot_tuple_iterator_next hj.typeIs F.entry_tuple_iterator_next ?_ (F.args_tuple_iterator_next_1 _)));show wpAny _ _ (field (.ref j) 0 >>= _) _ _ s;refine aaO (wpAny_field h1 h3 (x:=.ref t) rfl ?_);show wpAny _ _ (if(Value.ref t==Value.none)=true then _ else _) _ _ s
 rw[if_neg (by intro z;exact absurd z Bool.false_ne_true)]
 show wpAny _ _ (field (.ref j) 1 >>= _) _ _ s;refine aaO (wpAny_field h1 h3 (x:=.int i 0) rfl ?_);show wpAny _ _ (seqItems? (.ref t) >>= _) _ _ s;refine aaO (wpAny_seqItems h4 h5 ?_);simp only[Int.toNat_natCast,hx];refine aaO (wpAny_setField h1 h3 (by simp) (wpAny_pure ⟨x,rfl,wpAny_pure (q _ ?_ (Heap.SameBut.update ..))⟩))
 refine⟨_,Heap.get?_update_self _ h1 (Obj.isFreed_of_fields (Obj.data_mapFields h3 _)),(Obj.cls_mapFields ..).trans h2,?_⟩;rw[Obj.data_mapFields h3];simp [rawInt]
theorem qy{j t:Addr}{i:Nat}{xs:Array Value}{Q:Value->Shared->Prop}(hh:A.handled=none)(hj:s.heap.IsTupleIter j t i)(ht:s.heap.IsTuple t xs)(hx:xs[i]?=none)
  (q:∀g e,Heap.ExtBut j s.heap g->(∃o,g.get? e=some o/\o.cls=.type "StopIteration")->E (.ref e) {s with heap:=g}):wpAny (model prog w) A (Builtin.SmallTypes.nextOf (.ref j)) Q E s:=by
 obtain⟨ob,h1,h2,h3⟩:=id hj;obtain⟨ot,h4,_,nt,h5⟩:=ht;unfold Builtin.SmallTypes.nextOf;refine aaO (wpAny_callSpecial?_slot (name:=Str.ofString "__next__") hj.typeIs F.slot_tuple_iterator_next (wpAny_call_entry F.slot_tuple_iterator_next hj.typeIs F.entry_tuple_iterator_next ?_ (F.args_tuple_iterator_next_1 _)));show wpAny _ _ (field (.ref j) 0 >>= _) _ _ s;refine aaO (wpAny_field h1 h3 (x:=.ref t) rfl ?_);show wpAny _ _ (if(Value.ref t==Value.none)=true then _ else _) _ _ s
 rw[if_neg (by intro z;exact absurd z Bool.false_ne_true)]
 show wpAny _ _ (field (.ref j) 1 >>= _) _ _ s;refine aaO (wpAny_field h1 h3 (x:=.int i 0) rfl ?_);show wpAny _ _ (seqItems? (.ref t) >>= _) _ _ s;refine aaO (wpAny_seqItems h4 h5 ?_);simp only[Int.toNat_natCast,hx];refine aaO (wpAny_rule (aaO (wpAny_setField h1 h3 (by simp) ?_)))
 show wpAny _ _ (newExc (.type "StopIteration") [] >>= _) _ _ _;refine aaO ?_;simp only[newExc,newTuple];refine aaO (wpAny_newObj_type ?_ (by size_fits))
 refine aaO (m:=firstArgMember _ _) (wpAny_of_eq (a:=Value.none) (by first|rfl | (simp only[firstArgMember];rfl)) ?_)
 refine wpAny_newObj_type ?_ (by size_fits)
 simp only[raiseNew];refine aaO (wpAny_handled ?_)
 first|rw[show A.in1.handled=none from hh]|rw[hh]
 refine aaO (wpAny_pure (wpAny_throw ?_));exact q _ _ (((Heap.SameBut.update ..).extBut.push _).push _) ⟨_,Heap.get?_push_size _ rfl,rfl⟩
end
def lL(tp:Bool)(h:Heap)(j a:Addr)(i:Nat):Prop:=if tp=true then h.IsTupleIter j a i else h.IsListIter j a i
def wM(tp:Bool)(h:Heap)(a:Addr)(xs:Array Value):Prop:=if tp=true then h.IsTuple a xs else h.IsList a xs
theorem lL.live{tp:Bool}{h:Heap}{j a:Addr}{i:Nat}(q:lL tp h j a i):∃o,h.get? j=some o/\∀v,o.data≠.cell v:=by
 cases tp with
 | true=>obtain⟨o,e,c,d⟩:=(show h.IsTupleIter j a i from q);exact⟨o,e,λv z=>by rw[d]at z;cases z⟩
 | false=>obtain⟨o,e,c,d⟩:=(show h.IsListIter j a i from q);exact⟨o,e,λv z=>by rw[d]at z;cases z⟩
theorem lL.at{tp:Bool}{h h':Heap}{j a:Addr}{i:Nat}(q:lL tp h j a i)(k:∀o,h.get? j=some o->h'.get? j=some o):lL tp h' j a i:=by
 cases tp with
 | true=>obtain⟨o,e,r⟩:=(show h.IsTupleIter j a i from q);exact(show h'.IsTupleIter j a i from⟨o,k o e,r⟩)
 | false=>obtain⟨o,e,r⟩:=(show h.IsListIter j a i from q);exact(show h'.IsListIter j a i from⟨o,k o e,r⟩)
theorem wM.at{tp:Bool}{h h':Heap}{a:Addr}{xs:Array Value}(q:wM tp h a xs)(k:∀o,h.get? a=some o->h'.get? a=some o):wM tp h' a xs:=by
 cases tp with
 | true=>obtain⟨o,e,r⟩:=(show h.IsTuple a xs from q);exact(show h'.IsTuple a xs from⟨o,k o e,r⟩)
 | false=>obtain⟨o,e,r⟩:=(show h.IsList a xs from q);exact(show h'.IsList a xs from⟨o,k o e,r⟩)
section
variable {prog:Program}{w:World}{A:Around}{E:Value->Shared->Prop}{s:Shared}
theorem draw{tp:Bool}{j a:Addr}{i:Nat}{xs:Array Value}{x:Value}{Q:Value->Shared->Prop}(hj:lL tp s.heap j a i)(ha:wM tp s.heap a xs)(hx:xs[i]?=some x)
  (q:∀g,lL tp g j a (i+1)->Heap.SameBut j s.heap g->Q x {s with heap:=g}):wpAny (model prog w) A (Builtin.SmallTypes.nextOf (.ref j)) Q E s:=by
 cases tp with
 | true=>exact CO hj ha hx q
 | false=>exact wpAny_nextOf_list_item hj ha hx q
theorem mM{tp:Bool}{j a:Addr}{i:Nat}{xs:Array Value}{Q:Value->Shared->Prop}(hh:A.handled=none)(hj:lL tp s.heap j a i)(ha:wM tp s.heap a xs)(hx:xs[i]?=none)
  (q:∀g e,Heap.ExtBut j s.heap g->(∃o,g.get? e=some o/\o.cls=.type "StopIteration")->E (.ref e) {s with heap:=g}):wpAny (model prog w) A (Builtin.SmallTypes.nextOf (.ref j)) Q E s:=by
 cases tp with
 | true=>exact qy hh hj ha hx q
 | false=>exact wpAny_nextOf_list_end hh hj ha hx q
structure Yc(z U V i j:Addr):Prop where
 uz:U≠z
 vz:V≠z
 iz:i≠z
 jz:j≠z
 uv:U≠V
 ui:U≠i
 uj:U≠j
 vi:V≠i
 vj:V≠j
 ij:i≠j
theorem Jl{tp tq:Bool}{z U V i j l m:Addr}{n:Nat}{xs ys:Array Value}{x y a b:Value}{Q:Option Value->Shared->Prop}(D:Yc z U V i j)(lz:l≠z/\l≠V/\l≠i/\l≠j)(mz:m≠z/\m≠V/\m≠i/\m≠j)
  (hz:IsZip s.heap z U V .none) (hU:IsPair s.heap U (.ref i) (.ref j)) (hV:IsPair s.heap V a b) (h1:lL tp s.heap i l n) (h2:lL tq s.heap j m n) (hl:wM tp s.heap l xs) (hm:wM tq s.heap m ys) (hx:xs[n]?=some x) (hy:ys[n]?=some y)
  (q:∀g,IsZip g z U V (rawInt s.heap.objs.size)->IsPair g V x y->lL tp g i l (n+1)->lL tq g j m (n+1)->IsPair g s.heap.objs.size x y->g.objs.size=s.heap.objs.size+1 ->
   (∀c o,c≠z->c≠V->c≠i->c≠j->s.heap.get? c=some o->g.get? c=some o)->Q (some (.ref s.heap.objs.size)) {s with heap:=g}):wpAny (model prog w) A (pyNext (.ref z)) Q E s:=by
 have hT:s.TypeIs (.ref z) "zip":=⟨_,hz,rfl⟩;unfold pyNext;refine aaO (wpAny_attempt (wpAny_callSpecial?_slot (name:=Str.ofString "__next__") hT F.slot_zip_next (wpAny_call_entry F.slot_zip_next hT F.entry_zip_next ?_ (F.args_zip_next_1 _))));show wpAny _ _ (field (.ref z) 2 >>= _) _ _ _;refine aaO (wpAny_field hz rfl (x:=.bool false) rfl ?_);show wpAny _ _ (field (.ref z) 3 >>= _) _ _ _;refine aaO (wpAny_field hz rfl (x:=.ref U) rfl (aaO (wpAny_seqItems hU rfl ?_)));show wpAny _ _ (Builtin.SmallTypes.ownedTupleIsFree (.ref z) >>= _) _ _ _;refine aaO ?_;unfold Builtin.SmallTypes.ownedTupleIsFree;refine aaO (wpAny_field hz rfl (x:=.none) rfl (wpAny_pure ?_));simp only[if_true];refine aaO (wpAny_rule (aaO (wpAny_field hz rfl (x:=.ref V) rfl (aaO (wpAny_setField_rec hz (by simp) λg1 z1 e1=>?_)))))
 replace z1:IsZip g1 z U V .ellipsis:=z1
 refine aaO ?_;simp only[List.zipIdx_cons,List.zipIdx_nil,List.forIn_cons,List.forIn_nil];refine aaO (aaO (wpAny_onRaise ?_));show wpAny _ _ (Builtin.SmallTypes.nextOf (.ref i) >>= _) _ _ _;refine aaO (draw (s:={s with heap:=g1}) (h1.at λo e=>e1.extBut _ _ D.iz e) (hl.at λo e=>e1.extBut _ _ lz.1 e) hx λg2 w2 e2=>wpAny_pure ?_)
 have v2:IsPair g2 V a b:=e2.extBut _ _ D.vi (e1.extBut _ _ D.vz hV);refine aaO (wpAny_seqItems v2 rfl (aaO (wpAny_updateSeq_pair v2 λg3 v3 e3=>?_)))
 replace v3:IsPair g3 V x b:=v3
 refine aaO (wpAny_letGo (wpAny_pure (aaO (aaO (wpAny_onRaise ?_)))));show wpAny _ _ (Builtin.SmallTypes.nextOf (.ref j) >>= _) _ _ _;have to3:∀c o,c≠z->c≠i->c≠V->s.heap.get? c=some o->g3.get? c=some o:=λc o c1 c2 c3 e=>e3.extBut _ _ c3 (e2.extBut _ _ c2 (e1.extBut _ _ c1 e));refine aaO (draw (s:={s with heap:=g3}) (h2.at λo e=>to3 j o D.jz D.ij.symm D.vj.symm e) (hm.at λo e=>to3 m o mz.1 mz.2.2.1 mz.2.1 e) hy λg4 w4 e4=>wpAny_pure ?_)
 have v4:IsPair g4 V x b:=e4.extBut _ _ D.vj v3;refine aaO (wpAny_seqItems v4 rfl (aaO (wpAny_updateSeq_pair v4 λg5 v5 e5=>?_)))
 replace v5:IsPair g5 V x y:=v5
 refine aaO (wpAny_letGo (wpAny_pure (wpAny_pure (aaO (wpAny_seqItems v5 rfl (aaO (wpAny_newTuple ?_)))))));have sz:g5.objs.size=s.heap.objs.size:=by rw[e5.1,e4.1,e3.1,e2.1,e1.1]
 have z5:IsZip g5 z U V .ellipsis:=e5.extBut _ _ D.vz.symm (e4.extBut _ _ D.jz.symm (e3.extBut _ _ D.vz.symm (e2.extBut _ _ D.iz.symm z1)));have k5:∀c o,c≠z->c≠V->c≠i->c≠j->s.heap.get? c=some o->g5.get? c=some o:=λc o c1 c2 c3 c4 e=>e5.extBut _ _ c2 (e4.extBut _ _ c4 (to3 c o c1 c3 c2 e));have i5:lL tp g5 i l (n+1):=w2.at λo e=>e5.extBut _ _ D.vi.symm (e4.extBut _ _ D.ij (e3.extBut _ _ D.vi.symm e));have j5:lL tq g5 j m (n+1):=w4.at λo e=>e5.extBut _ _ D.vj.symm e;have zlt:z<g5.objs.size:=Heap.lt_size z5;show wpAny _ _ (Builtin.SmallTypes.ownedTupleHandOut (.ref z) (.ref g5.objs.size) >>= _) _ _ _;refine aaO ?_;unfold Builtin.SmallTypes.ownedTupleHandOut;have z6:IsZip (g5.push {cls:=.type "tuple",data:=.seq #[x,y]}) z U V .ellipsis:=aaP _ z5;refine aaO (wpAny_setField_rec z6 (by simp) λg7 z7 e7=>?_)
 replace z7:IsZip g7 z U V (rawInt g5.objs.size):=z7
 refine wpAny_setField_rec z7 (by simp) λg8 z8 e8=>?_
 replace z8:IsZip g8 z U V (rawInt g5.objs.size):=z8
 have up:∀c o,c≠z->g5.get? c=some o->g8.get? c=some o:=λc o c1 e=>e8.extBut _ _ c1 (e7.extBut _ _ c1 (aaP _ e));have t8:IsPair g8 g5.objs.size x y:=e8.extBut _ _ (Nat.ne_of_gt zlt) (e7.extBut _ _ (Nat.ne_of_gt zlt) (Heap.get?_push_size _ rfl));have s8:g8.objs.size=g5.objs.size+1:=by rw[e8.1,e7.1,Heap.size_push]
 rw[sz]at z8 t8 s8;refine wpAny_pure ⟨_,rfl,wpAny_pure ?_⟩;show Q (some (.ref g5.objs.size)) _;rw[sz];exact q g8 z8 (up _ _ D.vz v5) (i5.at λo e=>up _ o D.iz e) (j5.at λo e=>up _ o D.jz e) t8 s8 λc o c1 c2 c3 c4 e=>up c o c1 (k5 c o c1 c2 c3 c4 e)
end
end Vc
namespace Vc
open PySem L2
variable [KF]
abbrev itN(tp:Bool):String:=if tp=true then "tuple_iterator" else "list_iterator"
abbrev zA(tp:Bool)(h:Heap)(l:Addr):Heap:=h.push {cls:=.type (itN tp),data:=.fields #[.ref l,.int 0 0]}
abbrev zB(tp tq:Bool)(h:Heap)(l m:Addr):Heap:=zA tq (zA tp h l) m
abbrev zC(tp tq:Bool)(h:Heap)(l m:Addr):Heap:=(zB tp tq h l m).push {cls:=.type "tuple",data:=.seq #[.ref h.objs.size,.ref (zA tp h l).objs.size]}
abbrev zD(tp tq:Bool)(h:Heap)(l m:Addr):Heap:=(zC tp tq h l m).push {cls:=.type "tuple",data:=.seq #[.none,.none]}
abbrev zE(tp tq:Bool)(h:Heap)(l m:Addr):Heap:=(zD tp tq h l m).push {cls:=.type "zip",data:=.fields #[.none,.bool false,.bool false,.ref (zB tp tq h l m).objs.size,.ref (zC tp tq h l m).objs.size]}
set_option maxHeartbeats 4000000 in
theorem F7(tp tq:Bool)(l m:Addr)(xs ys:Array Value):
  Meets (Builtin.«zip.__new__» ⟨[.type "zip",.ref l,.ref m],[]⟩) (λ_ R s=>wM tp s.heap l xs/\wM tq s.heap m ys/\R (.ok (.ret (.ref (zD tp tq s.heap l m).objs.size))) {s with heap:=zE tp tq s.heap l m}):=
 .of_wp λprog w A R s h=>by
  obtain⟨hp,g,d,tk,os⟩:=s;obtain⟨hl,hm,h⟩:=h;have sub:=sub_zip;cases tp with
  | true =>
   have L1:Heap.IsTuple (Shared.heap ⟨hp,g,d,tk,os⟩) l xs:=hl;cases tq with
   | true =>
    have L2:Heap.IsTuple (Shared.heap ⟨hp.push {cls:=.type "tuple_iterator",data:=.fields #[.ref l,.int 0 0]},g,d,tk,os⟩) m ys:=by
     obtain⟨o,e,r⟩:=(show hp.IsTuple m ys from hm);exact⟨o,aaP _ e,r⟩
    wp_walk using wpAny_pyIter_tuple L1,wpAny_pyIter_tuple L2
    exact⟨_,rfl,h⟩
   | false =>
    have L2:Heap.IsList (Shared.heap ⟨hp.push {cls:=.type "tuple_iterator",data:=.fields #[.ref l,.int 0 0]},g,d,tk,os⟩) m ys:=by
     obtain⟨o,e,r⟩:=(show hp.IsList m ys from hm);exact⟨o,aaP _ e,r⟩
    wp_walk using wpAny_pyIter_tuple L1,wpAny_pyIter_list L2
    exact⟨_,rfl,h⟩
  | false =>
   have L1:Heap.IsList (Shared.heap ⟨hp,g,d,tk,os⟩) l xs:=hl;cases tq with
   | true =>
    have L2:Heap.IsTuple (Shared.heap ⟨hp.push {cls:=.type "list_iterator",data:=.fields #[.ref l,.int 0 0]},g,d,tk,os⟩) m ys:=by
     obtain⟨o,e,r⟩:=(show hp.IsTuple m ys from hm);exact⟨o,aaP _ e,r⟩
    wp_walk using wpAny_pyIter_list L1,wpAny_pyIter_tuple L2
    exact⟨_,rfl,h⟩
   | false =>
    have L2:Heap.IsList (Shared.heap ⟨hp.push {cls:=.type "list_iterator",data:=.fields #[.ref l,.int 0 0]},g,d,tk,os⟩) m ys:=by
     obtain⟨o,e,r⟩:=(show hp.IsList m ys from hm);exact⟨o,aaP _ e,r⟩
    wp_walk using wpAny_pyIter_list L1,wpAny_pyIter_list L2
    exact⟨_,rfl,h⟩
theorem zp{tp:Bool}{h:Heap}{j a:Addr}(e:h.get? j=some {cls:=.type (itN tp),data:=.fields #[.ref a,.int 0 0]}):lL tp h j a 0:=by
 cases tp with
 | true=>exact⟨_,e,rfl,rfl⟩
 | false=>exact⟨_,e,rfl,rfl⟩
section
variable {prog:Program}{w:World}{A:Around}{E:Value->Shared->Prop}{s:Shared}
theorem FZ{tp tq:Bool}{l m:Addr}{xs ys:Array Value}{Q:Value->Shared->Prop}(hl:wM tp s.heap l xs)(hm:wM tq s.heap m ys)
  (q:∀g,IsZip g (s.heap.objs.size+4) (s.heap.objs.size+2) (s.heap.objs.size+3) .none->IsPair g (s.heap.objs.size+2) (.ref s.heap.objs.size) (.ref (s.heap.objs.size+1))->IsPair g (s.heap.objs.size+3) .none .none ->
   lL tp g s.heap.objs.size l 0->lL tq g (s.heap.objs.size+1) m 0->(∀c o,s.heap.get? c=some o->g.get? c=some o)->Q (.ref (s.heap.objs.size+4)) {s with heap:=g}):
  wpAny (model prog w) A (call (.type "zip") [.ref l,.ref m]) Q E s:=by
 refine callType_new F.called_zip ∅ (F.typeCall_zip_2 _ _) (F.newCall_zip_2 _ _) (λob=>F.args_object_init_3 ob _ _) F.entry_zip_new (F7 tp tq l m xs ys) ⟨hl,hm,?_⟩
 have n1:(zA tp s.heap l).objs.size=s.heap.objs.size+1:=Heap.size_push ..;have n2:(zB tp tq s.heap l m).objs.size=s.heap.objs.size+2:=by rw[Heap.size_push,n1]
 have n3:(zC tp tq s.heap l m).objs.size=s.heap.objs.size+3:=by rw[Heap.size_push,n2]
 have n4:(zD tp tq s.heap l m).objs.size=s.heap.objs.size+4:=by rw[Heap.size_push,n3]
 have p5:(zE tp tq s.heap l m).get? (zD tp tq s.heap l m).objs.size=some _:=Heap.get?_push_size _ rfl;have p4:(zE tp tq s.heap l m).get? (zC tp tq s.heap l m).objs.size=some _:=aaP _ (Heap.get?_push_size _ rfl);have p3:(zE tp tq s.heap l m).get? (zB tp tq s.heap l m).objs.size=some _:=aaP _ (aaP _ (Heap.get?_push_size _ rfl));have p2:(zE tp tq s.heap l m).get? (zA tp s.heap l).objs.size=some _:=aaP _ (aaP _ (aaP _ (Heap.get?_push_size _ rfl)));have p1:(zE tp tq s.heap l m).get? s.heap.objs.size=some _:=aaP _ (aaP _ (aaP _ (aaP _ (Heap.get?_push_size _ rfl))));show _/\_;rw[n2,n3,n4]at p5;rw[n1,n2]at p3;rw[n3]at p4;rw[n1]at p2;rw[n4];refine⟨⟨_,p5,rfl⟩,q _ p5 p3 p4 (zp p1) (zp p2) λc o x=>?_⟩;exact aaP _ (aaP _ (aaP _ (aaP _ (aaP _ x))))
theorem F8{tp tq:Bool}{z U V i j l m:Addr}{n:Nat}{xs ys:Array Value}{a b:Value}{Q:Option Value->Shared->Prop}(hh:A.handled=none)(D:Yc z U V i j)(lz:l≠z/\l≠V/\l≠i/\l≠j)(mz:m≠z/\m≠V/\m≠i/\m≠j)
  (hz:IsZip s.heap z U V .none) (hU:IsPair s.heap U (.ref i) (.ref j)) (hV:IsPair s.heap V a b) (h1:lL tp s.heap i l n) (h2:lL tq s.heap j m n) (hl:wM tp s.heap l xs) (hm:wM tq s.heap m ys) (DA:xs[n]?=none\/ys[n]?=none)
  (q:∀g,(∀c o,c≠z->c≠V->c≠i->c≠j->s.heap.get? c=some o->g.get? c=some o)->Q none {s with heap:=g}):wpAny (model prog w) A (pyNext (.ref z)) Q E s:=by
 have hT:s.TypeIs (.ref z) "zip":=⟨_,hz,rfl⟩;unfold pyNext;refine aaO (wpAny_attempt (wpAny_callSpecial?_slot (name:=Str.ofString "__next__") hT F.slot_zip_next (wpAny_call_entry F.slot_zip_next hT F.entry_zip_next ?_ (F.args_zip_next_1 _))));show wpAny _ _ (field (.ref z) 2 >>= _) _ _ _;refine aaO (wpAny_field hz rfl (x:=.bool false) rfl ?_);show wpAny _ _ (field (.ref z) 3 >>= _) _ _ _;refine aaO (wpAny_field hz rfl (x:=.ref U) rfl (aaO (wpAny_seqItems hU rfl ?_)));show wpAny _ _ (Builtin.SmallTypes.ownedTupleIsFree (.ref z) >>= _) _ _ _;refine aaO ?_;unfold Builtin.SmallTypes.ownedTupleIsFree;refine aaO (wpAny_field hz rfl (x:=.none) rfl (wpAny_pure ?_));simp only[if_true];refine aaO (wpAny_rule (aaO (wpAny_field hz rfl (x:=.ref V) rfl (aaO (wpAny_setField_rec hz (by simp) λg1 z1 e1=>?_)))))
 replace z1:IsZip g1 z U V .ellipsis:=z1
 refine aaO ?_;simp only[List.zipIdx_cons,List.zipIdx_nil,List.forIn_cons,List.forIn_nil];refine aaO (aaO (wpAny_onRaise ?_));show wpAny _ _ (Builtin.SmallTypes.nextOf (.ref i) >>= _) _ _ _;cases hx:xs[n]? with
 | none =>
  refine aaO (mM (s:={s with heap:=g1}) hh (h1.at λo e=>e1.extBut _ _ D.iz e) (hl.at λo e=>e1.extBut _ _ lz.1 e) hx λg2 e x2 he=>?_)
  obtain⟨oe,MV,Vq⟩:=he;have z2:IsZip g2 z U V .ellipsis:=x2 _ _ D.iz.symm z1;have ez:e≠z:=λx=>by subst x;rw[z2]at MV;cases MV;simp at Vq
  refine wpAny_setField_rec z2 (by simp) λg3 _ e3=>?_
  refine aaO (wpAny_isInstance (T:="StopIteration") (b:=true) ⟨oe,e3.extBut _ _ ez MV,Vq⟩ isSubtype_stop (wpAny_pure (q _ λc o c1 _ c3 _ x=>?_)));exact e3.extBut _ _ c1 (x2 _ _ c3 (e1.extBut _ _ c1 x))
 | some x =>
  have hy:ys[n]?=none:=by
   rcases DA with h|h
   ·rw[hx]at h;cases h
   ·exact h
  refine aaO (draw (s:={s with heap:=g1}) (h1.at λo e=>e1.extBut _ _ D.iz e) (hl.at λo e=>e1.extBut _ _ lz.1 e) hx λg2 w2 e2=>wpAny_pure ?_)
  have v2:IsPair g2 V a b:=e2.extBut _ _ D.vi (e1.extBut _ _ D.vz hV);refine aaO (wpAny_seqItems v2 rfl (aaO (wpAny_updateSeq_pair v2 λg3 v3 e3=>?_)));refine aaO (wpAny_letGo (wpAny_pure (aaO (aaO (wpAny_onRaise ?_)))));show wpAny _ _ (Builtin.SmallTypes.nextOf (.ref j) >>= _) _ _ _;have to3:∀c o,c≠z->c≠i->c≠V->s.heap.get? c=some o->g3.get? c=some o:=λc o c1 c2 c3 e=>e3.extBut _ _ c3 (e2.extBut _ _ c2 (e1.extBut _ _ c1 e));refine aaO (mM (s:={s with heap:=g3}) hh (h2.at λo e=>to3 j o D.jz D.ij.symm D.vj.symm e) (hm.at λo e=>to3 m o mz.1 mz.2.2.1 mz.2.1 e) hy λg4 e x4 he=>?_)
  obtain⟨oe,MV,Vq⟩:=he;have z4:IsZip g4 z U V .ellipsis:=x4 _ _ D.jz.symm (e3.extBut _ _ D.vz.symm (e2.extBut _ _ D.iz.symm z1));have ez:e≠z:=λx=>by subst x;rw[z4]at MV;cases MV;simp at Vq
  refine wpAny_setField_rec z4 (by simp) λg5 _ e5=>?_
  refine aaO (wpAny_isInstance (T:="StopIteration") (b:=true) ⟨oe,e5.extBut _ _ ez MV,Vq⟩ isSubtype_stop (wpAny_pure (q _ λc o c1 c2 c3 c4 x=>?_)));exact e5.extBut _ _ c1 (x4 _ _ c4 (to3 c o c1 c3 c2 x))
end
end Vc
namespace Vc
open PySem L2
variable [KF]
section
variable {X:Cx}{pins:List (Addr×Obj)}{σ:St}{H:Hp}{s:Shared}
theorem zF(I:L2.Inv X pins σ H s){ch:List Addr}(hf:∀b∈ch,iA X pins H b){h':Heap}{t':Nat}(kp:∀b o,b∉ch->s.heap.get? b=some o->h'.get? b=some o){T:Addr}{o:HO}(hT:s.heap.objs.size<=T)(new:cu X.prog X.w (upd H T o) h' T o):
  L2.Inv X pins σ (upd H T o) {s with heap:=h',toks:=t'}:=by
 have HB:∀ {b u},s.heap.get? b=some u->b≠T:=λe=>Nat.ne_of_lt (Nat.lt_of_lt_of_le (Heap.lt_size e) hT);have S5:∀ {b u},H b=some u->b≠T:=λe=>Nat.ne_of_lt (Nat.lt_of_lt_of_le (I.bU.lt e) hT);have DZ:∀ {b u},H b=some u->b∉ch:=λ{b u} e z=>by rw[(hf b z).1]at e;cases e
 refine I.step (g':=s.gens) (d':=s.drawn) (ch:=ch) (λb hb=>?_) (λb u _ _ hc e _=>kp b u hc e) (λb u _ _ hc e _=>⟨u.slots,kp b u hc e⟩) (λb u hc e n=>by rw[aq (HB e)];exact n) (λb u hc e=>⟨u,kp b u hc e⟩)
  (λb xs e=>by rw[aq (S5 e)];exact e) (λb u w e=>by rw[aq (S5 e)];exact e) (λb ps e=>⟨#[],by rw[aq (S5 e),e];simp⟩) (λm hm=>?_) (λb u e=>?_) I.bare
 ·obtain⟨f0,f1,f2,f3,f4,f5⟩:=hf b hb
  exact⟨f3.imp id λz=>Heap.get?_none_of_le z,f1,f4,f5⟩
 ·obtain⟨ob,es,ep,ho,r⟩:=hm
  refine⟨ob,es,ep,kp _ ob (λz=>?_) ho,r⟩;exact(hf _ z).2.1 rfl
 ·by_cases hb:b=T
  ·subst hb;rw[ay]at e;cases e;exact new
  ·rw[aq hb]at e
   refine(I.bU b u e).xS (λc v hc q=>?_) (λc q=>by rw[aq (S5 q)];exact q) (λc xs q=>by rw[aq (S5 q)];exact q) λc o u q=>by rw[aq (S5 q)];exact q
   rcases hc with z|z
   ·subst z;exact kp _ v (DZ e) q
   ·exact kp _ v (DZ z) q
theorem zv(I:L2.Inv X pins σ H s){ch:List Addr}(hf:∀b∈ch,iA X pins H b){h':Heap}{t':Nat}(kp:∀b o,b∉ch->s.heap.get? b=some o->h'.get? b=some o):L2.Inv X pins σ H {s with heap:=h',toks:=t'}:=by
 have DZ:∀ {b u},H b=some u->b∉ch:=λ{b u} e z=>by rw[(hf b z).1]at e;cases e
 refine I.step (g':=s.gens) (d':=s.drawn) (ch:=ch) (λb hb=>?_) (λb u _ _ hc e _=>kp b u hc e) (λb u _ _ hc e _=>⟨u.slots,kp b u hc e⟩) (λb u hc e n=>n) (λb u hc e=>⟨u,kp b u hc e⟩)
  (λb xs e=>e) (λb u w e=>e) (λb ps e=>⟨#[],by rw[e];simp⟩) (λm hm=>?_) (λb u e=>?_) I.bare
 ·obtain⟨f0,f1,f2,f3,f4,f5⟩:=hf b hb
  exact⟨f3.imp id λz=>Heap.get?_none_of_le z,f1,f4,f5⟩
 ·obtain⟨ob,es,ep,ho,r⟩:=hm
  refine⟨ob,es,ep,kp _ ob (λz=>?_) ho,r⟩;exact(hf _ z).2.1 rfl
 ·refine(I.bU b u e).xS (λc v hc q=>?_) (λc q=>q) λc xs q=>q
  rcases hc with z|z
  ·subst z;exact kp _ v (DZ e) q
  ·exact kp _ v (DZ z) q
end
def Sq(tp:Bool)(K:PySem.W.Frag)(H:Hp)(a:Addr)(xs:List V):Prop:=if tp=true then kq K H a xs else gn K H a xs
theorem Sq.is{tp:Bool}{X:Cx}{pins:List (Addr×Obj)}{σ:St}{H:Hp}{s:Shared}{a:Addr}{xs:List V}(I:L2.Inv X pins σ H s)(h:Sq tp X.K H a xs):∃its:List Value,Vals xs its/\wM tp s.heap a its.toArray/\a<s.heap.objs.size:=by
 cases tp with
 | true =>
  obtain⟨its,r,p,_⟩:=I.tuple (show kq X.K H a xs from h)
  exact⟨its,r,p,by obtain⟨o,e,_⟩:=p;exact Heap.lt_size e⟩
 | false =>
  obtain⟨its,r,p,_⟩:=I.list (show gn X.K H a xs from h)
  exact⟨its,r,p.isList,p.lt⟩
theorem Sq.inj{tp:Bool}{X:Cx}{pins:List (Addr×Obj)}{σ:St}{H:Hp}{s:Shared}{a:Addr}{xs ys:List V}(I:L2.Inv X pins σ H s)(h:Sq tp X.K H a xs)(h':Sq tp X.K H a ys):xs=ys:=by
 cases tp with
 | true=>exact I.pZ h h'
 | false=>exact I.uY h h'
def YN(tp tq:Bool)(K:PySem.W.Frag)(l m:Addr):It:=
  ⟨λn H=>∃xs ys x y,Sq tp K H l xs/\Sq tq K H m ys/\xs[n]?=some x/\ys[n]?=some y,
   λn H v H'=>∃p x y,H p=none/\v=.ref p/\H'=upd H p (.tup [x,y])/\(∀xs,Sq tp K H l xs->xs[n]?=some x)/\∀ys,Sq tq K H m ys->ys[n]?=some y,
   λn H=>∃xs ys,Sq tp K H l xs/\Sq tq K H m ys/\(xs.length<=n\/ys.length<=n)⟩
theorem FN{P:Program}{w:World}{K:PySem.W.Frag}{elts:List Expr}{kk:Nat}{km:Pos}(tp tq:Bool)(z U V i j l m:Addr)(D:Yc z U V i j)(lz:l≠z/\l≠V/\l≠i/\l≠j)(mz:m≠z/\m≠V/\m≠i/\m≠j):
  Turn P w K (.Tuple elts kk km) (YN tp tq K l m) [z,U,V,i,j] z (λn h=>IsZip h z U V .none/\IsPair h U (.ref i) (.ref j)/\(∃a b,IsPair h V a b)/\lL tp h i l n/\lL tq h j m n) where
 mem:=by simp
 obj:=λn h st b hb=>by
  obtain⟨h1,h2,⟨a,c,h3⟩,h4,h5⟩:=st;simp only[List.mem_cons,List.not_mem_nil,or_false]at hb;rcases hb with rfl|rfl|rfl|rfl|rfl
  ·exact⟨_,h1,λv q=>by cases q⟩
  ·exact⟨_,h2,λv q=>by cases q⟩
  ·exact⟨_,h3,λv q=>by cases q⟩
  ·exact h4.live
  ·exact h5.live
 keep:=λn h h' st kp=>by
  obtain⟨h1,h2,⟨a,c,h3⟩,h4,h5⟩:=st;exact⟨kp z (by simp) _ h1,kp U (by simp) _ h2,⟨a,c,kp V (by simp) _ h3⟩,h4.at λo e=>kp i (by simp) o e,h5.at λo e=>kp j (by simp) o e⟩
 item:=by
  intro X hP hw hK hc n pins s σ H E I hf st hg;subst hP hw hK;obtain⟨h1,h2,⟨a,c,h3⟩,h4,h5⟩:=st;obtain⟨xs,ys,x,y,q1,q2,e1,e2⟩:=hg;obtain⟨its,r1,p1,_⟩:=q1.is I;obtain⟨jts,r2,p2,_⟩:=q2.is I;obtain⟨u,hu,ru⟩:=r1.get e1;obtain⟨v,hv,rv⟩:=r2.get e2;refine Jl D lz mz h1 h2 h3 h4 h5 p1 p2 (x:=u) (y:=v) (by simpa using hu) (by simpa using hv) λg z1 v1 i1 j1 t1 s1 k1=>⟨_,rfl,?_⟩
  refine wpAny_letOwnedTupleGo_zip z1 λg' z2 GZ=>?_;have kp:∀b o,b∉[z,V,i,j]->s.heap.get? b=some o->g'.get? b=some o:=λb o hb e=>by
   simp only[List.mem_cons,List.not_mem_nil,or_false,not_or]at hb;exact GZ.extBut _ _ hb.1 (k1 b o hb.1 hb.2.1 hb.2.2.1 hb.2.2.2 e)
  have zT:s.heap.objs.size≠z:=Nat.ne_of_gt (Heap.lt_size h1);have hf':∀b∈[z,V,i,j],iA X pins H b:=λb hb=>hf b (by
   simp only[List.mem_cons,List.not_mem_nil,or_false]at hb ⊢;rcases hb with e|e|e|e<;>simp [e])
  have t2:IsPair g' s.heap.objs.size u v:=GZ.extBut _ _ zT t1;have I':=zF (t':=s.toks) (o:=.tup [x,y]) I hf' kp (Nat.le_refl _) ⟨by show 2<=sizeLine;decide,[u,v],.cons ru (.cons rv .nil),⟨_,t2,rfl,_,rfl⟩⟩
  have ZK:H s.heap.objs.size=none:=I.bU.fresh (Nat.le_refl _);refine⟨.ref s.heap.objs.size,upd H s.heap.objs.size (.tup [x,y]),I',rfl,⟨_,x,y,ZK,rfl,rfl,λzs hz=>by rw[hz.inj I q1];exact e1,λzs hz=>by rw[hz.inj I q2];exact e2⟩,⟨z2,GZ.extBut _ _ D.uz (k1 _ _ D.uz D.uv D.ui D.uj h2),⟨u,v,GZ.extBut _ _ D.vz v1⟩,i1.at λo e=>GZ.extBut _ _ D.iz e,j1.at λo e=>GZ.extBut _ _ D.jz e⟩,λb hb=>?_⟩
  have lu:=(hf b hb).1;have:b≠s.heap.objs.size:=by
   obtain⟨o,e,_⟩:∃o,s.heap.get? b=some o/\True:=by
    simp only[List.mem_cons,List.not_mem_nil,or_false]at hb;rcases hb with rfl|rfl|rfl|rfl|rfl
    ·exact⟨_,h1,trivial⟩
    ·exact⟨_,h2,trivial⟩
    ·exact⟨_,h3,trivial⟩
    ·obtain⟨o,e,_⟩:=h4.live;exact⟨o,e,trivial⟩
    ·obtain⟨o,e,_⟩:=h5.live;exact⟨o,e,trivial⟩
   exact Nat.ne_of_lt (Heap.lt_size e)
  rw[aq this];exact lu
 done:=by
  intro X hP hw hK hc n pins s σ H E I hf st hg;subst hP hw hK;obtain⟨h1,h2,⟨a,c,h3⟩,h4,h5⟩:=st;obtain⟨xs,ys,q1,q2,hl⟩:=hg;obtain⟨its,r1,p1,_⟩:=q1.is I;obtain⟨jts,r2,p2,_⟩:=q2.is I;have n1:=r1.length;have n2:=r2.length;refine F8 (I.ok.hd hc) D lz mz h1 h2 h3 h4 h5 p1 p2 (hl.imp (λq=>by simp;omega) λq=>by simp;omega) λg k1=>⟨rfl,?_⟩
  refine zv (t':=s.toks) (ch:=[z,V,i,j]) I (λb hb=>hf b ?_) λb o hb e=>?_
  ·simp only[List.mem_cons,List.not_mem_nil,or_false]at hb ⊢
   rcases hb with e|e|e|e<;>simp [e]
  ·simp only[List.mem_cons,List.not_mem_nil,or_false,not_or]at hb
   exact k1 b o hb.1 hb.2.1 hb.2.2.1 hb.2.2.2 e
 self:=λ_ _ _ _ _ st h=>wpAny_pyIter_zip st.1 h
theorem Jk(n:Nat):Yc (n+4) (n+2) (n+3) n (n+1):=
  ⟨show(n+2:Nat)≠n+4 by omega,show(n+3:Nat)≠n+4 by omega,show(n:Nat)≠n+4 by omega,show(n+1:Nat)≠n+4 by omega,show(n+2:Nat)≠n+3 by omega,
   show(n+2:Nat)≠n by omega,show(n+2:Nat)≠n+1 by omega,show(n+3:Nat)≠n by omega,show(n+3:Nat)≠n+1 by omega,show(n:Nat)≠n+1 by omega⟩
theorem oO{l n:Nat}(h:l<n):l≠n+4/\l≠n+3/\l≠n/\l≠n+1:=by omega
def aaf(K:PySem.W.Frag)(ta:TA):TI:=λσ H R=>ta σ H λvs H1=>∃tp tq l m xs ys,vs=[.ref l,.ref m]/\Sq tp K H1 l xs/\Sq tq K H1 m ys/\R (YN tp tq K l m) H1
theorem PQ{X:Cx}{elts:List Expr}{kk:Nat}{km:Pos}{a b:Expr}{ta:TA}{p pos:Pos}(hg:Gl X "zip")(hm:X.mg "zip"=none)(ha:PA X [a,b] ta)(hs:starEach [a,b] X.env=[(false,eval a X.env),(false,eval b X.env)])(yI:starEach [b] X.env=[(false,eval b X.env)]):
  PI X (.Tuple elts kk km) (.Call (.Name "zip" p) [a,b] [] pos) (aaf X.K ta):=by
 intro pins s σ H R I h;refine PyProof.Rows.Call_ (gJ I hg hm PyProof.Rows.boot_zip (PyProof.Rows.callWith_type1 (cO (ha pos pins s σ H _ I h) λus s1 ⟨vs,H1,I1,r1,q1⟩=>?_) (by rw[hs,yI]) (by rw[yI];rfl)))
 obtain⟨tp,tq,l,m,xs,ys,e,q1,q2,q⟩:=q1;subst e;obtain⟨u,v,rfl,ru,rv⟩:=vals2 r1;cases ru;cases rv;obtain⟨its,_,p1,ll⟩:=q1.is I1;obtain⟨jts,_,p2,lm⟩:=q2.is I1;refine FZ p1 p2 λg z1 u1 v1 i1 j1 k1=>?_;refine wpAny_pyIter_zip z1 ?_;have N:∀n:Nat,s1.heap.objs.size<=s1.heap.objs.size+n:=λn=>Nat.le_add_right _ _;refine⟨s1.heap.objs.size+4,[s1.heap.objs.size+4,s1.heap.objs.size+2,s1.heap.objs.size+3,s1.heap.objs.size,s1.heap.objs.size+1],_,_,H1,rfl,I1.kept (t':=s1.toks) k1,
  FN tp tq _ _ _ _ _ l m (Jk _) (oO ll) (oO lm),⟨z1,u1,⟨_,_,v1⟩,i1,j1⟩,λb hb=>?_,q⟩
 have lu:s1.heap.objs.size<=b:=by
  simp only[List.mem_cons,List.not_mem_nil,or_false]at hb;rcases hb with rfl|rfl|rfl|rfl|rfl
  ·exact N 4
  ·exact N 2
  ·exact N 3
  ·exact N 0
  ·exact N 1
 exact I1.Aa lu (I1.bU.fresh lu)
end Vc
namespace Vc
open PySem L2
variable [KF]
theorem tS{prog:Program}{w:World}{A:Around}(hh:A.handled=none)(tp:Bool)(j a:Addr)(cU:a≠j)(xs:Array Value):
  Draws prog w A j [j,a] xs.size (λi v=>xs[i]?=some v) (λi h=>lL tp h j a i/\wM tp h a xs) where
 live:=λ_ _ st=>let ⟨o,e,_⟩:=st.1.live;⟨o,e⟩
 frame:=λ_ _ _ st kp=>⟨st.1.at λo e=>kp j (by simp) o e,st.2.at λo e=>kp a (by simp) o e⟩
 item:=λi s Q E hi st q=>by
  refine draw st.1 st.2 (x:=xs[i]) (by simp [hi]) λg w1 e1=>?_
  exact q _ g s.toks (by simp [hi]) ⟨w1,st.2.at λo e=>e1.extBut _ _ cU e⟩ e1
 done:=λs Q E st q=>mM hh st.1 st.2 (by simp) q
def Ya(tp:Bool)(K:PySem.W.Frag)(a:Addr):It:=
 ⟨λn H=>∃xs x,Sq tp K H a xs/\xs[n]?=some x,λn H v H'=>∃p x,H p=none/\v=.ref p/\H'=upd H p (.tup [.int n,x])/\∀xs,Sq tp K H a xs->xs[n]?=some x,λn H=>∃xs,Sq tp K H a xs/\xs.length=n⟩
theorem A6{P:Program}{w:World}{K:PySem.W.Frag}{elts:List Expr}{kk:Nat}{km:Pos}(tp:Bool)(e j a:Addr)(ej:e≠j)(ae:a≠e)(aj:a≠j):
  Turn P w K (.Tuple elts kk km) (Ya tp K a) [e,j] e (λn h=>(∃old,IsEnum h e j n old)/\lL tp h j a n) where
 mem:=by simp
 obj:=λn h st b hb=>by
  obtain⟨⟨old,h1⟩,h2⟩:=st;simp only[List.mem_cons,List.not_mem_nil,or_false]at hb;rcases hb with rfl|rfl
  ·exact⟨_,h1,λv q=>by cases q⟩
  ·exact h2.live
 keep:=λn h h' st kp=>by
  obtain⟨⟨old,h1⟩,h2⟩:=st;exact⟨⟨old,kp e (by simp) _ h1⟩,h2.at λo q=>kp j (by simp) o q⟩
 item:=by
  intro X hP hw hK hc n pins s σ H E I hf st hg;subst hP hw hK;obtain⟨⟨old,h1⟩,h2⟩:=st;obtain⟨xs,x,q1,e1⟩:=hg;obtain⟨its,r1,p1,_⟩:=q1.is I;obtain⟨u,hu,ru⟩:=r1.get e1;have hn:n<its.toArray.size:=by
   have:=(List.getElem?_eq_some_iff.mp hu).1;simpa using this
  have Dr:=tS (prog:=X.prog) (w:=X.w) (A:=X.A.in1) (show X.A.in1.handled=none from I.ok.hd hc) tp j a aj its.toArray
  refine wpAny_pyNext_enum_itemD Dr h1 ⟨h2,p1⟩ hn ej (by simp only[List.mem_cons,List.not_mem_nil,or_false,not_or];exact⟨ej,ae.symm⟩) λx' g tk hx' ho aC t1 s1 k1=>⟨_,rfl,?_⟩
  have hxu:x'=u:=by
   have:its.toArray[n]?=some u:=by simpa using hu
   rw[this]at hx';exact(Option.some.inj hx').symm
  subst hxu;refine wpAny_letOwnedTupleGo_enum ho λg' he' Ms=>?_;have kp:∀b o,b∉[e,j]->s.heap.get? b=some o->g'.get? b=some o:=λb o hb q=>by
   simp only[List.mem_cons,List.not_mem_nil,or_false,not_or]at hb;exact Ms.extBut _ _ hb.1 (k1 b o hb.1 hb.2 q)
  have eT:s.heap.objs.size≠e:=Nat.ne_of_gt (Heap.lt_size h1);have t2:=Ms.extBut _ _ eT t1;have I':=zF (t':=tk+1) (o:=.tup [.int n,x]) I hf kp (Nat.le_refl _) ⟨by show 2<=sizeLine;decide,[.int n tk,x'],.cons ⟨tk,rfl⟩ (.cons ru .nil),⟨_,t2,rfl,_,rfl⟩⟩
  have ZK:H s.heap.objs.size=none:=I.bU.fresh (Nat.le_refl _);refine⟨.ref s.heap.objs.size,upd H s.heap.objs.size (.tup [.int n,x]),I',rfl,⟨_,x,ZK,rfl,rfl,λzs hz=>by rw[hz.inj I q1];exact e1⟩,⟨⟨x',by simpa using he'⟩,aC.1.at λo q=>Ms.extBut _ _ ej.symm q⟩,λb hb=>?_⟩
  have lu:=(hf b hb).1;have:b≠s.heap.objs.size:=by
   simp only[List.mem_cons,List.not_mem_nil,or_false]at hb;rcases hb with rfl|rfl
   ·exact eT.symm
   ·obtain⟨o,q,_⟩:=h2.live;exact Nat.ne_of_lt (Heap.lt_size q)
  rw[aq this];exact lu
 done:=by
  intro X hP hw hK hc n pins s σ H E I hf st hg;subst hP hw hK;obtain⟨⟨old,h1⟩,h2⟩:=st;obtain⟨xs,q1,hl⟩:=hg;obtain⟨its,r1,p1,_⟩:=q1.is I;have n1:=r1.length;have Dr:=tS (prog:=X.prog) (w:=X.w) (A:=X.A.in1) (show X.A.in1.handled=none from I.ok.hd hc) tp j a aj its.toArray
  have hn:its.toArray.size=n:=by rw[List.size_toArray,<- n1,hl]
  rw[hn]at Dr;refine wpAny_pyNext_enum_endD Dr h1 ⟨h2,p1⟩ λg x1=>⟨rfl,?_⟩;refine zv (t':=s.toks) (ch:=[e,j]) I hf λb o hb q=>?_;simp only[List.mem_cons,List.not_mem_nil,or_false,not_or]at hb;exact x1 b o hb.2 q
 self:=λ_ _ _ _ _ st h=>by
  obtain⟨⟨old,h1⟩,_⟩:=st;exact wpAny_pyIter_enum h1 h
variable {G:GE}{k:Nat}{S:Stat}
def XX:D->Option (List D)
 | .lst xs=>some xs
 | .tup xs=>some xs
 | _=>none
def wy(xs ys:List D):List D:=(xs.zip ys).map λp=>.tup [p.1,p.2]
def iL(xs:List D):List D:=xs.mapIdx λi x=>.tup [.int i,x]
def RL(t:fc):fc:=λσ Q=>t σ λds aA=>match ds with
 | [a,b]=>match XX a,XX b with
  | some xs,some ys=>Q (wy xs ys) aA
  | _,_=>False
 | _=>False
theorem Rep.sq{F:Hp}{v:V}{d:D}{xs:List D}(r:Rep F v d)(e:XX d=some xs)(K:PySem.W.Frag):∃tp a vs,v=.ref a/\(∀H,av F H->Sq tp K H a vs)/\aD F vs xs:=by
 cases d with
 | lst ys =>
  cases e;cases r with
  | lst h r=>exact⟨false,_,_,rfl,λH s=>(show gn K H _ _ from .inl (Rd.mono s h)),r⟩
 | tup ys =>
  cases e;cases r with
  | tup h r=>exact⟨true,_,_,rfl,λH s=>(show kq K H _ _ from .of (s _ _ h)),r⟩
 | _=>cases e
theorem FX{xs ys:List D}{i:Nat}{d:D}(h:(wy xs ys)[i]?=some d):∃x y,xs[i]?=some x/\ys[i]?=some y/\d=.tup [x,y]:=by
 unfold wy at h;rw[List.getElem?_map]at h;cases e:(xs.zip ys)[i]? with
 | none=>rw[e]at h;cases h
 | some p =>
  rw[e]at h;obtain⟨e1,e2⟩:=List.getElem?_zip_eq_some.mp e;exact⟨p.1,p.2,e1,e2,(Option.some.inj h).symm⟩
theorem Hq{K:PySem.W.Frag}{F:Hp}{tp tq:Bool}{l m:Addr}{vs us:List V}{xs ys:List D}(h1:∀H,av F H->Sq tp K H l vs)(h2:∀H,av F H->Sq tq K H m us)(r1:aD F vs xs)(r2:aD F us ys):jl F (YN tp tq K l m) (wy xs ys):=λF1 H1 s1 s2 i=>by
 have a1:=h1 H1 (s1.trans s2);have a2:=h2 H1 (s1.trans s2);refine⟨λd e=>?_,λhl=>⟨vs,us,a1,a2,?_⟩⟩
 ·obtain⟨x,y,e1,e2,rfl⟩:=FX e
  obtain⟨v,w1,q1⟩:=r1.get e1;obtain⟨u,w2,q2⟩:=r2.get e2;refine⟨⟨vs,us,v,u,a1,a2,w1,w2⟩,λz H2 yl=>?_⟩;obtain⟨p,v',u',hp,rfl,rfl,f1,f2⟩:=yl;have Uv:=f1 vs a1;have GZ:=f2 us a2;rw[w1]at Uv;cases Uv;rw[w2]at GZ;cases GZ;have sm:=aK (o:=.tup [v,u]) (same_none s2 hp);exact⟨upd F1 p (.tup [v,u]),.inr ⟨p,_,hp,rfl,rfl⟩,.tup ay (.cons ((q1.mono s1).mono sm) (.cons ((q2.mono s1).mono sm) .nil))⟩
 ·have:(wy xs ys).length=min xs.length ys.length:=by unfold wy;simp
  have n1:=r1.length;have n2:=r2.length;omega
theorem VR{elts:List Expr}{kk:Nat}{km:Pos}{a b:Expr}{t:fc}{p pos:Pos}(h:wG G k S [a,b] t)(hm:G.mg "zip"=none)(hg:S.sc.lookup ("zip":Str)=some .globalImplicit:=by rfl)(hs:∀env,starEach [a,b] env=[(false,eval a env),(false,eval b env)]:=by intro _;rfl)(yI:∀env,starEach [b] env=[(false,eval b env)]:=by intro _;rfl):
  EI G k S (.Tuple elts kk km) (.Call (.Name "zip" p) [a,b] [] pos) (RL t):=.mk λX Y ok=>nD (PQ (d7 ok hg) (by rw[ok.mg];exact hm) (h X Y ok) (hs _) (yI _)) λσ H Q q=>by
 obtain⟨F,ak,Qd,R,q,K⟩:=q;refine⟨F,ak,_,R,q,λvs H1 F1 ds aA s1 R1 r1 q1=>?_⟩
 split at q1
 ·rename_i x y
  split at q1
  ·rename_i xs ys ex ey
   cases r1 with
   | cons rx r1 =>
    cases r1 with
    | cons ry r1 =>
     cases r1;obtain⟨tp,l,us,rfl,a1,b1⟩:=rx.sq ex X.K;obtain⟨tq,m,ws,rfl,a2,b2⟩:=ry.sq ey X.K;exact⟨tp,tq,l,m,us,ws,rfl,a1 H1 R1.fr,a2 H1 R1.fr,K H1 F1 aA _ _ s1 R1 (Hq a1 a2 b1 b2) q1⟩
  ·exact q1.elim
 ·exact q1.elim
theorem Hm{K:PySem.W.Frag}{F:Hp}{tp:Bool}{l:Addr}{vs:List V}{xs:List D}(h1:∀H,av F H->Sq tp K H l vs)(r1:aD F vs xs):jl F (Ya tp K l) (iL xs):=λF1 H1 s1 s2 i=>by
 have a1:=h1 H1 (s1.trans s2);refine⟨λd e=>?_,λhl=>⟨vs,a1,?_⟩⟩
 ·unfold iL at e
  rw[List.getElem?_mapIdx]at e;cases ex:xs[i]? with
  | none=>rw[ex]at e;cases e
  | some x =>
   rw[ex]at e;cases e;obtain⟨v,w1,q1⟩:=r1.get ex;refine⟨⟨vs,v,a1,w1⟩,λz H2 yl=>?_⟩;obtain⟨p,v',hp,rfl,rfl,f1⟩:=yl;have Uv:=f1 vs a1;rw[w1]at Uv;cases Uv;have sm:=aK (o:=.tup [.int i,v]) (same_none s2 hp);exact⟨upd F1 p (.tup [.int i,v]),.inr ⟨p,_,hp,rfl,rfl⟩,.tup ay (.cons (.int _) (.cons ((q1.mono s1).mono sm) .nil))⟩
 ·rw[r1.length,hl];unfold iL;simp
end Vc
namespace Vc
open PySem L2
variable [KF]
section
variable {prog:Program}{w:World}{A:Around}{R:Result->Shared->Prop}
def bO(bt:Nat->Nat->Bool):Nat->Nat
 | 0=>0
 | n+1=>if bt (n+1) (bO bt n)=true then n+1 else bO bt n
def oN(prog:Program)(w:World)(A:Around)(op:CmpOp)(h0:Heap)(its:Array Value)(bt:Nat->Nat->Bool):Prop:=
 ∀(i j:Nat) (x y:Value) (s:Shared) (Q:Value->Shared->Prop) (E:Value->Shared->Prop),its[i]?=some x->its[j]?=some y->(∀b o,h0.get? b=some o->s.heap.get? b=some o)->Q (.bool (bt i j)) s->wpAny (model prog w) A (richCompare op x y) Q E s
theorem Oa{h0:Heap}{its:Array Value}{bt:Nat->Nat->Bool}(hh:A.handled=none)(hc:oN prog w A.in1 .Lt h0 its bt){I l S:Addr}(Hb:h0.IsList l its)(IS:I≠S)(n0:h0.get? I=none)(n1:h0.get? S=none)(kw:List (Str×Value)):
  ∀(d j:Nat) (s:Shared) (v:Value) (c:Nat),its.size-(j+1)=d->j+1<=its.size->s.heap.IsListIter I l (j+1)->its[bO bt j]?=some v->s.heap.get? S=some {cls:=.type "list",dict:=none,data:=.seq #[v,v] c,slots:=#[]} ->
  (∀b o,h0.get? b=some o->s.heap.get? b=some o) ->
  (∀v g tk,its[bO bt (its.size-1)]?=some v->(∀b o,h0.get? b=some o->g.get? b=some o)->R (.ok (.ret v)) {s with heap:=g,toks:=tk}) ->
  codeAny (model prog w) A (.builtin "min.loop" ⟨[.ref I,.none,.ref S],kw⟩) R s:=by
 have nm:(toString "min"++toString ".loop":String)="min.loop":=by decide
 have lI:l≠I:=λz=>by obtain⟨o,e,_⟩:=Hb;rw[z,n0]at e;cases e
 have lS:l≠S:=λz=>by obtain⟨o,e,_⟩:=Hb;rw[z,n1]at e;cases e
 have nI:∀ {b o},h0.get? b=some o->b≠I:=λe z=>by rw[z,n0]at e;cases e
 have nS:∀ {b o},h0.get? b=some o->b≠S:=λe z=>by rw[z,n1]at e;cases e
 intro d
 induction d with
 | zero =>
  intro j s v c hd hj hI hv hS k0 hR;have e1:j+1=its.size:=by omega
  have hl:s.heap.IsList l its:=by obtain⟨o,e,r⟩:=Hb;exact⟨o,k0 _ _ e,r⟩
  refine codeAny_builtin F.entry_min_loop ?_;rw[Around.under_plainId F.plain_min_loop _];show wpAny _ A.in1 (seqItems? (.ref S) >>= _) _ _ s;refine aaO (wpAny_seqItems hS rfl ?_);show wpAny _ A.in1 (tryCatch (pyNext (.ref I)) _ >>= _) _ _ s;refine aaO (wpAny_tryCatch (wpAny_pyNext_list_end (show A.in1.handled=none from hh) hI hl (by simp;omega) λg x1=>?_))
  have S1:=x1 S _ IS.symm hS;show wpAny _ A.in1 (updateSeq S (λ_=>#[]) >>= _) _ _ _;refine aaO (wpAny_updateSeq (s:={s with heap:=g}) S1 rfl (aaO (wpAny_letGo (wpAny_pure ?_))))
  have e2:its.size-1=j:=by omega
  refine hR v _ s.toks (by rw[e2];exact hv) λb o e=>?_
  exact(Heap.get?_update_other _ _ (Ne.symm (nS e))).trans (x1 b o (nI e) (k0 b o e))
 | succ d ih =>
  intro j s v c hd hj hI hv hS k0 hR;have eX:j+1<its.size:=by omega
  have hl:s.heap.IsList l its:=by obtain⟨o,e,r⟩:=Hb;exact⟨o,k0 _ _ e,r⟩
  refine codeAny_builtin F.entry_min_loop ?_;rw[Around.under_plainId F.plain_min_loop _];show wpAny _ A.in1 (seqItems? (.ref S) >>= _) _ _ s;refine aaO (wpAny_seqItems hS rfl ?_);show wpAny _ A.in1 (tryCatch (pyNext (.ref I)) _ >>= _) _ _ s;have hx:its[j+1]?=some its[j+1]:=by simp [eX]
  refine aaO (wpAny_tryCatch (wpAny_pyNext_list_item hI hl hx λg I1 x1=>?_));have S1:=x1.extBut S _ IS.symm hS;have k1:∀b o,h0.get? b=some o->g.get? b=some o:=λb o e=>x1.extBut b o (nI e) (k0 b o e);show wpAny _ A.in1 (tryCatch (holding [its[j+1],its[j+1]] (richCompare .Lt its[j+1] v >>= _)) _ >>= _) _ _ _;refine aaO (wpAny_tryCatch (wpAny_holding (aaO (hc (j+1) (bO bt j) _ v {s with heap:=g} _ _ hx hv k1 ?_))))
  refine aaO (wpAny_holding (wpAny_truthy_bool (aaO (wpAny_letGo (wpAny_pure ?_)))));cases hb:bt (j+1) (bO bt j)with
  | true =>
   simp only[if_true];refine aaO (wpAny_updateSeq (s:={s with heap:=g}) S1 rfl (aaO (wpAny_letGo ?_)))
   rw[nm];refine wpAny_pure ⟨plainId_quiet F.plain_min_loop _,ih (j+1) _ its[j+1] _ ⋯ eX ?_ (by simp only[bO,hb,if_true];exact hx) (Heap.get?_update_self _ S1 rfl) (λb o e=>(Heap.get?_update_other _ _ (Ne.symm (nS e))).trans (k1 b o e)) λv' g' tk Hf k'=>?_⟩
   ·obtain⟨o,e,r⟩:=I1;exact⟨o,(Heap.get?_update_other _ _ (Ne.symm IS)).trans e,r⟩
   ·exact hR v' g' tk Hf k'
  | false =>
   simp only[Bool.false_eq_true,if_false];refine aaO (wpAny_letGo ?_);rw[nm];refine wpAny_pure ⟨plainId_quiet F.plain_min_loop _,ih (j+1) _ v c ⋯ eX I1 (by simp only[bO,hb,Bool.false_eq_true,if_false];exact hv) S1 k1 λv' g' tk Hf k'=>?_⟩
   exact hR v' g' tk Hf k'
theorem wR(a v:Value):argsOk "min" ⟨[a],[(Str.ofString "default",v)]⟩:=by unfold argsOk;kernel_rfl
theorem vd{E:Value->Shared->Prop}{s:Shared}{its:Array Value}{bt:Nat->Nat->Bool}(hh:A.handled=none)(hc:oN prog w A.in1 .Lt s.heap its bt){l:Addr}(hl:s.heap.IsList l its){dv:Value}{Q:Value->Shared->Prop}
  (q0:its.size=0->∀g tk,(∀b o,s.heap.get? b=some o->g.get? b=some o)->Q dv {s with heap:=g,toks:=tk})
  (q1:∀v g tk,its[bO bt (its.size-1)]?=some v->(∀b o,s.heap.get? b=some o->g.get? b=some o)->Q v {s with heap:=g,toks:=tk}):
  wpAny (model prog w) A (call (.builtin "min") [.ref l] [(Str.ofString "default",dv)]) Q E s:=by
 have nm:(toString "min"++toString ".loop":String)="min.loop":=by decide
 refine wpAny_call (codeAny_call_builtin F.plain_min F.entry_min ?_);have run:wpAny (model prog w) A.in1 (Builtin.«min» ⟨[.ref l],[(Str.ofString "default",dv)]⟩) (λfin s'=>match fin with
   | .done f=>(match(Except.ok f:Result)with|.ok (.ret v)=>Q v s'|.ok _=>False|.error e=>E e s')
   | .again c'=>c'.quiet=true/\codeAny (model prog w) A c' (λr s'=>match r with|.ok (.ret v)=>Q v s'|.ok _=>False|.error e=>E e s') s') E s:=by
  show wpAny _ A.in1 (Builtin.Builtins.bindParams "min" ["key","default"] 0 ⟨[],[(Str.ofString "default",dv)]⟩ >>= _) _ _ s;refine aaO (wpAny_of_eq (show Builtin.Builtins.bindParams "min" ["key","default"] 0 ⟨[],[(Str.ofString "default",dv)]⟩=pure [none,some dv]from rfl) (aaO (wpAny_pure ?_)))
  refine aaO (wpAny_pyIter_list hl (aaO (wpAny_newObj_type ?_)));generalize MX:s.heap.push {cls:=.type "list_iterator",data:=.fields #[.ref l,.int 0 0]}=g1;have n1:g1.objs.size=s.heap.objs.size+1:=by rw[<- MX];exact Heap.size_push ..
  have I0:(g1.push {cls:=.type "list",dict:=none,data:=.seq ([]:List Value).toArray}).IsListIter s.heap.objs.size l 0:=⟨_,aaP _ (by rw[<- MX];exact Heap.get?_push_size _ rfl),rfl,rfl⟩
  have S0:=Heap.get?_push_size g1 (o:={cls:=.type "list",dict:=none,data:=.seq ([]:List Value).toArray}) rfl;have k0:∀b o,s.heap.get? b=some o->(g1.push {cls:=.type "list",dict:=none,data:=.seq ([]:List Value).toArray}).get? b=some o:=λb o e=>aaP _ (by rw[<- MX];exact aaP _ e)
  have fr:∀a,s.heap.objs.size<=a->s.heap.get? a=none:=λa ha=>by
   cases e:s.heap.get? a with
   | none=>rfl
   | some o=>exact absurd (Heap.lt_size e) (Nat.not_lt.mpr ha)
  have nI:s.heap.get? s.heap.objs.size=none:=fr _ (Nat.le_refl _);have nS:s.heap.get? g1.objs.size=none:=fr _ (by rw[n1];exact Nat.le_succ _)
  have IS:s.heap.objs.size≠g1.objs.size:=by rw[n1];exact Nat.ne_of_lt (Nat.lt_succ_self _)
  rw[nm];refine wpAny_pure ⟨plainId_quiet F.plain_min_loop _,?_⟩;generalize ZL:g1.push {cls:=.type "list",dict:=none,data:=.seq ([]:List Value).toArray}=g2 at I0 S0 k0;have pj:g2.IsList l its:=by obtain⟨o,e,r⟩:=hl;exact⟨o,k0 _ _ e,r⟩
  refine codeAny_builtin F.entry_min_loop ?_;rw[Around.under_plainId F.plain_min_loop _];show wpAny _ A.in1 (seqItems? (.ref g1.objs.size) >>= _) _ _ _;refine aaO (wpAny_seqItems (s:={s with heap:=g2}) S0 rfl ?_)
  show wpAny _ A.in1 (tryCatch (pyNext (.ref s.heap.objs.size)) _ >>= _) _ _ _
  by_cases hz:its.size=0
  ·refine aaO (wpAny_tryCatch (wpAny_pyNext_list_end (show A.in1.handled=none from hh) I0 pj (by simp [hz]) λg x1=>?_))
   refine aaO (wpAny_rule (wpAny_pure ?_));exact q0 hz g s.toks λb o e=>x1 b o (λz=>by rw[z,nI]at e;cases e) (k0 b o e)
  ·have hx:its[0]?=some its[0]:=by simp [Nat.pos_of_ne_zero hz]
   refine aaO (wpAny_tryCatch (wpAny_pyNext_list_item I0 pj hx λg I1 x1=>?_));have S1:=x1.extBut _ _ IS.symm S0;have k1:∀b o,s.heap.get? b=some o->g.get? b=some o:=λb o e=>x1.extBut b o (λz=>by rw[z,nI]at e;cases e) (k0 b o e)
   show wpAny _ A.in1 (updateSeq g1.objs.size (λ_=>#[its[0],its[0]]) >>= _) _ _ _;refine aaO (wpAny_updateSeq (s:={s with heap:=g}) S1 rfl ?_)
   rw[nm];refine wpAny_pure ⟨plainId_quiet F.plain_min_loop _,Oa hh hc hl IS nI nS _ _ 0 _ its[0] _ rfl (Nat.pos_of_ne_zero hz) ?_ hx (Heap.get?_update_self _ S1 rfl) (λb o e=>(Heap.get?_update_other _ _ (λz=>by rw[<- z,nS]at e;cases e)).trans (k1 b o e)) λv g' tk hv k'=>q1 v g' tk hv k'⟩
   obtain⟨o,e,r⟩:=I1;exact⟨o,(Heap.get?_update_other _ _ (Ne.symm IS)).trans e,r⟩
 simp only[checkBuiltinCall,F.kind_min];cases M4:Manifest.signature? "min" with
 | none=>exact wpAny_pure run
 | some sig =>
  have ha:argsOk "min" ⟨[.ref l],[(Str.ofString "default",dv)]⟩:=wR _ _;have Zz:Bind.checkArgs "min" sig ⟨[.ref l],[(Str.ofString "default",dv)]⟩=pure ():=by simpa only[argsOk,M4]using ha
  simp only[Zz];exact wpAny_pure run
end
end Vc
namespace Vc
open PySem L2
variable [KF]
variable {G:GE}{k:Nat}{S:Stat}
def isInt:D->Bool
 | .int _=>true
 | _=>false
def fJ:D->Int
 | .int i=>i
 | _=>0
theorem aD.ints{F:Hp}:∀ {vs:List V} {xs:List D},aD F vs xs->xs.all isInt=true->vs=(xs.map fJ).map V.int
 | _,_,.nil,_=>rfl
 | _,_,.cons (d:=d) r t,h=>by
  rw[List.all_cons,Bool.and_eq_true]at h;cases d with
  | int i =>
   cases r;rw[aD.ints t h.2];rfl
  | _=>exact absurd h.1 (by simp [isInt])
theorem BP{X:Cx}(hc:X.calm=true):cK X (.builtin "sum") (λxs H Q=>∃(a:Addr) (ns:List Int),xs=[.ref a]/\gn X.K H a (ns.map V.int)/\Q (.int ns.sum) H):=by
 intro pins s σ H xs us Q I r h;obtain⟨a,ns,rfl,hq,q⟩:=h;obtain⟨u,rfl,ru⟩:=vals1 r;cases ru;obtain⟨its,rv,p,_⟩:=I.list hq;obtain⟨m,F⟩:=I.fr;have hi:=L2.intsAre_of rv;obtain⟨ys,e⟩:=(hi.allInts).items;have pl:=p.isList;rw[e]at pl;refine sum_intListG (I.ok.hd hc) pl λg tk t' kp=>⟨.int ns.sum,H,I.kept kp,⟨t',?_⟩,q⟩;have e1:preSum (numAt ys) ys.size=(PySem.numsOf its.toArray.toList).sum:=by
  rw[e,nums_intItems,preSum_eq,List.take_of_length_le (by simp)]
 rw[e1,show its.toArray.toList=its from rfl,hi.numsOf]
def sumF:List D->(EV->Prop)->Prop
 | [.lst xs],Q=>xs.all isInt=true/\Q (.val (.int (xs.map fJ).sum))
 | _,_=>False
theorem JU(hh:S.kF=false:=by rfl):zK G k S (.builtin "sum") sumF:=⟨λK xs H Q=>∃(a:Addr) (ns:List Int),xs=[V.ref a]/\gn K H a (ns.map V.int)/\Q (.int ns.sum) H,λ_ _ ok=>BP (ok.calm hh),λY F H ak σ vs ds Qd Q R r q g=>by
 unfold sumF at q
 split at q
 ·obtain⟨v,rfl,rv⟩:=r.one
  obtain⟨p,us,rfl,h1,h2⟩:=rv.lst;refine⟨p,_,rfl,?_,g.val R (.int _) q.2⟩;rw[<- h2.ints q.1];exact .inl h1
 ·exact q.elim⟩
end Vc
namespace Vc
open PySem L2
variable [KF]
variable {G:GE}{k:Nat}{S:Stat}
def kG:D->Bool
 | .tup xs=>xs.all isInt
 | _=>false
def ltI:D->D->Bool
 | .int i,.int j=>decide (i<j)
 | .tup xs,.tup ys=>HT.lexLt (xs.map fJ) (ys.map fJ)
 | _,_=>false
def mF:List D->Option D
 | []=>none
 | x::xs=>some (xs.foldl (λb y=>if ltI y b=true then y else b) x)
def wB(xs:List D)(i j:Nat):Bool:=ltI (xs.getD i .bD) (xs.getD j .bD)
theorem mG(xs:List D)(x:D):∀n,n<(x::xs).length->(x::xs).getD (bO (wB (x::xs)) n) .bD=(xs.take n).foldl (λb y=>if ltI y b=true then y else b) x
 | 0,_=>rfl
 | n+1,h=>by
  have ih:=mG xs x n (by simp at h ⊢;omega)
  have hl:n<xs.length:=by simpa using h
  have gx:(x::xs).getD (n+1) .bD=xs[n]:=by
   rw[List.getD_eq_getElem?_getD,List.getElem?_cons_succ,aaQ hl];rfl
  rw[List.take_add_one,aaQ hl,Option.toList_some,List.foldl_append,List.foldl_cons,List.foldl_nil,<- ih];have e:wB (x::xs) (n+1) (bO (wB (x::xs)) n)=ltI xs[n] ((x::xs).getD (bO (wB (x::xs)) n) .bD):=by
   unfold wB;rw[gx]
  show(x::xs).getD (if wB (x::xs) (n+1) (bO (wB (x::xs)) n)=true then n+1 else bO (wB (x::xs)) n) .bD=_
  rw[e]
  split
  ·exact gx
  ·rfl
theorem GO{xs:List D}(h:xs≠[]):mF xs=some (xs.getD (bO (wB xs) (xs.length-1)) .bD):=by
 cases xs with
 | nil=>exact absurd rfl h
 | cons x xs =>
  have:=mG xs x xs.length (by simp)
  have e:(x::xs).length-1=xs.length:=by simp
  rw[e,this,List.take_length];rfl
theorem Li{X:Cx}{pins:List (Addr×Obj)}{σ:St}{H F:Hp}{s:Shared}(I:L2.Inv X pins σ H s)(sm:av F H)(hu:X.A.in1.units<cLine){vs:List V}{xs:List D}{its:List Value}(rl:aD F vs xs)(rv:Vals vs its)(hc:xs.all isInt=true\/xs.all kG=true):
  oN X.prog X.w X.A.in1 .Lt s.heap its.toArray (wB xs):=by
 intro i j x y s' Q E ex ey kp q;have kr:its[i]?=some x:=by simpa using ex
 have Zn:its[j]?=some y:=by simpa using ey
 have back:∀ {n z},its[n]?=some z->∃v d,vs[n]?=some v/\xs[n]?=some d/\RelV v z/\Rep F v d:=λ{n z} e=>by
  have hl:n<vs.length:=by rw[rv.length];exact(List.getElem?_eq_some_iff.mp e).1
  have ev:vs[n]?=some vs[n]:=aaQ hl;obtain⟨d,e1,e2⟩:=rl.get' ev;obtain⟨u,e3,e4⟩:=rv.get ev;rw[e]at e3;cases e3;exact⟨_,d,ev,e1,e4,e2⟩
 obtain⟨v,d,_,hd,r1,p1⟩:=back kr;obtain⟨u,e,_,he,r2,p2⟩:=back Zn;have bt:wB xs i j=ltI d e:=by
  unfold wB;rw[List.getD_eq_getElem?_getD,List.getD_eq_getElem?_getD,hd,he];rfl
 rw[bt]at q;have md:d∈xs:=List.mem_of_getElem? hd;have me:e∈xs:=List.mem_of_getElem? he;show wpAny _ _ (compareOp .Lt x y) _ _ _;rcases hc with hc|hc
 ·have h1:=List.all_eq_true.mp hc d md
  have h2:=List.all_eq_true.mp hc e me;cases d with
  | int a =>
   cases e with
   | int b =>
    cases p1;cases p2;obtain⟨t,rfl⟩:=r1;obtain⟨t',rfl⟩:=r2;exact PyProof.Rows.lt_int q
   | _=>exact absurd h2 (by simp [isInt])
  | _=>exact absurd h1 (by simp [isInt])
 ·have h1:=List.all_eq_true.mp hc d md
  have h2:=List.all_eq_true.mp hc e me;cases d with
  | tup as =>
   cases e with
   | tup bs =>
    cases p1 with
    | tup hf rf =>
     cases p2 with
     | tup hg rg =>
      cases r1;cases r2;rename_i va vas vb vbs;obtain⟨_,ia,wa,oa,ga,ca⟩:=I.bU _ _ (sm _ _ hf);obtain⟨_,ib,wb,ob,gb,cb⟩:=I.bU _ _ (sm _ _ hg);rw[rf.ints h1]at wa;rw[rg.ints h2]at wb;exact HT.xr ⟨oa,kp _ _ ga,ca⟩ ⟨ob,kp _ _ gb,cb⟩ (L2.intsAre_of wa) (L2.intsAre_of wb) hu q
   | _=>exact absurd h2 (by simp [kG])
  | _=>exact absurd h1 (by simp [kG])
def RH(t:TV)(td:TD):TV:=λσ Q=>t σ λx aA=>td aA λdv bh=>match eW bh x with
 | some (.lst xs)=>(xs.all isInt=true\/xs.all kG=true)/\Q (.val ((mF xs).getD dv)) bh
 | _=>False
theorem Xu{e d:Expr}{t:TV}{td:TD}{p kp pos:Pos}(h:EO G k S e t)(hd:ED G k S d td)(hm:G.mg "min"=none)(hg:S.sc.lookup ("min":Str)=some .globalImplicit:=by rfl)
  (he:∀env,starEach [e] env=[(false,eval e env)]:=by intro _;rfl) (hh:S.kF=false:=by rfl):EO G k S (.Call (.Name "min" p) [e] [⟨some "default",d,kp⟩] pos) (RH t td):=.mk λX Y ok=>by
 intro pins s σ H Q I q;obtain⟨F,ak,Qd,R,q,K⟩:=q;refine wpAny_Call_Name_kw (gJ (u:=.builtin "min") I (d7 ok hg) (by rw[ok.mg];exact hm) (by decide +kernel) ?_ ∅ ∅)
 have ha:PA X [e] (iT (lO Y t) oH):=cf (h X Y ok) cV (by rw[he];rfl)
 have hk:PK X [⟨some "default",d,kp⟩] (iT (lD Y td) oH):=yX (hd X Y ok) Es;have hA:=ha pos pins s σ H (λvs H1=>∃v1 F1 x aA,vs=[v1]/\av F F1/\RS Y F1 aA σ H1/\sZ F1 σ v1 x/\td aA (λdv bh=>match eW bh x with
   | some (.lst xs)=>(xs.all isInt=true\/xs.all kG=true)/\Qd (.val ((mF xs).getD dv)) bh
   | _=>False)) I ⟨F,ak,_,R,q,λv1 H1 F1 x aA s1 R1 r1 q1=>⟨v1,F1,x,aA,rfl,s1,R1,r1,q1⟩⟩
 refine PyProof.Rows.callWith_kw (env:=X.env) (cO hA λus s1 h1=>?_) (by rw[he];rfl) (by rw[he];rfl) rfl rfl
 obtain⟨vs,H1,I1,rvs,v1,F1,x,aA,rfl,XW,R1,r1,q1⟩:=h1;obtain⟨u1,rfl,ru1⟩:=vals1 rvs;refine cO (hk pos pins s1 σ H1 (λvs H2=>∃v2 F2 dv bh,vs=[v2]/\av F1 F2/\RS Y F2 bh σ H2/\Rep F2 v2 dv/\(match eW bh x with
   | some (.lst xs)=>(xs.all isInt=true\/xs.all kG=true)/\Qd (.val ((mF xs).getD dv)) bh
   | _=>False)) I1 ⟨F1,aA,_,R1,q1,λv2 H2 F2 dv bh s2 R2 r2 q2=>⟨v2,F2,dv,bh,rfl,s2,R2,r2,q2⟩⟩) λws s2 h2=>?_
 obtain⟨vs2,H2,I2,QC,v2,F2,dv,bh,rfl,Ru,R2,r2,q2⟩:=h2;obtain⟨u2,rfl,ru2⟩:=vals1 QC
 split at q2
 ·rename_i xs ex
  obtain⟨hc,q2⟩:=q2;obtain⟨a,vs,rfl,SK,rl⟩:=(R2.eW (r1.mono Ru) ex).lst;cases ru1;obtain⟨its,rv,pl,_⟩:=I2.list (show gn X.K H2 a vs from .inl SK)
  have hu:X.A.in1.units<cLine:=by
   have:=ok.units;show X.A.units+1<cLine;omega
  have JX:=Li I2 R2.fr hu rl rv hc;have len:its.toArray.size=xs.length:=by rw[List.size_toArray,<- rv.length,rl.length]
  refine vd (I2.ok.hd (ok.calm hh)) JX pl.isList (λhz g tk kp=>?_) λz g tk hz kp=>?_
  ·have:xs=[]:=List.length_eq_zero_iff.mp (by rw[<- len];exact hz)
   subst this;exact⟨v2,H2,I2.kept kp,ru2,K v2 H2 F2 (.val dv) bh (XW.trans Ru) R2 r2 q2⟩
  ·have Hg:its[bO (wB xs) (xs.length-1)]?=some z:=by rw[len]at hz;simpa using hz
   have cU:xs≠[]:=λe=>by
    subst e;have:its=[]:=List.length_eq_zero_iff.mp (by rw[<- rv.length,rl.length];rfl)
    rw[this]at Hg;simp at Hg
   have hl:bO (wB xs) (xs.length-1)<vs.length:=by rw[rv.length];exact(List.getElem?_eq_some_iff.mp Hg).1
   have ev:vs[bO (wB xs) (xs.length-1)]?=some vs[bO (wB xs) (xs.length-1)]:=aaQ hl;obtain⟨dd,e1,e2⟩:=rl.get' ev;obtain⟨zz,e3,e4⟩:=rv.get ev;rw[Hg]at e3;cases e3;have eb:mF xs=some dd:=by rw[GO cU,List.getD_eq_getElem?_getD,e1];rfl
   rw[eb]at q2;exact⟨_,H2,I2.kept kp,e4,K _ H2 F2 (.val dd) bh (XW.trans Ru) R2 e2 q2⟩
 ·exact q2.elim
end Vc
namespace Vc
open PySem L2
variable [KF]
variable {G:GE}{k:Nat}{S:Stat}
theorem Dc{g:lM}{tb:cS}{De:iH}{items:List D}(I:Nat->Sd->Prop)
  (DH:∀i x σ (N:Sd->Prop),items[i]?=some x->I i σ->(∀cq,I (i+1) cq->N cq)->g x σ λaA=>tb {nx:=N,rt:=De.rt,bk:=De.nx,ct:=N} aA)
  (DA:∀σ,I items.length σ->De.nx σ) {σ:Sd} (h0:I 0 σ):uD g tb De items σ:=by
 have key:∀(xs:List D) (i:Nat) (σ:Sd),items.drop i=xs->i<=items.length->I i σ->uD g tb De xs σ:=by
  intro xs
  induction xs with
  | nil =>
   intro i σ e l h;have:items.length<=i:=List.drop_eq_nil_iff.mp e;exact DA σ ((Nat.le_antisymm l this) ▸ h)
  | cons x r ih =>
   intro i σ e l h;have hx:items[i]?=some x:=by
    have:=congrArg (·[0]?) e
    simpa using this
   have hr:items.drop (i+1)=r:=by rw[<- List.drop_drop,e];rfl
   have hl:i<items.length:=(List.getElem?_eq_some_iff.mp hx).1;exact DH i x σ _ hx h λcq h'=>ih (i+1) cq hr hl h'
 exact key items 0 σ rfl (Nat.zero_le _) h0
theorem eK{α:Type}{g:lM}{tc:TB}{te:TD}{σ0:Sd}{Q:List D->Prop}(gi:α->D)(f:α->Option D)(l:List α)
  (h:∀a∈l,∀(A:D->Prop) (Bn:Prop),(match f a with|some d=>A d|none=>Bn)->g (gi a) σ0 λaA=>tc aA λb bh=>if b=true then te bh λd gk=>kJ σ0 gk/\A d else kJ σ0 bh/\Bn)
  (hl:l.length<=sizeLine) (q:Q (l.filterMap f)):gq g tc te σ0 (l.map gi) [] Q:=by
 have key:∀(l:List α) (acc:List D),(∀a∈l,∀(A:D->Prop) (Bn:Prop),(match f a with|some d=>A d|none=>Bn)->g (gi a) σ0 λaA=>tc aA λb bh=>if b=true then te bh λd gk=>kJ σ0 gk/\A d else kJ σ0 bh/\Bn) ->
   acc.length+l.length<=sizeLine->Q (acc++l.filterMap f)->gq g tc te σ0 (l.map gi) acc Q:=by
  intro l
  induction l with
  | nil=>intro acc _ _ q;simpa [gq]using q
  | cons a l ih =>
   intro acc h hl q;rw[List.length_cons]at hl;rw[List.map_cons];refine h a (List.mem_cons_self ..) (λd=>acc.length<sizeLine/\gq g tc te σ0 (l.map gi) (acc++[d]) Q) (gq g tc te σ0 (l.map gi) acc Q) ?_;have hr:=λy hy=>h y (List.mem_cons_of_mem _ hy);cases e:f a with
   | some d =>
    refine⟨by omega,ih _ hr (by rw[List.length_append,List.length_singleton];omega) ?_⟩
    rw[List.filterMap_cons_some e]at q
    rwa [List.append_assoc]
   | none =>
    refine ih acc hr ⋯ ?_
    rwa [List.filterMap_cons_none e]at q
 exact key l [] h (by simpa using hl) q
theorem dh{α:Type}{g:lM}{te:TD}{σ0:Sd}{Q:List D->Prop}(gi f:α->D)(l:List α)
  (h:∀a∈l,∀(A:D->Prop),A (f a)->g (gi a) σ0 λaA=>te aA λd gk=>kJ σ0 gk/\A d)
  (hl:l.length<=sizeLine) (q:Q (l.map f)):gq g dm te σ0 (l.map gi) [] Q:=
 eK gi (λx=>some (f x)) l (λx hx A Bn ha=>h x hx A ha) hl (by simpa using q)
theorem dB{α:Type}{g:lM}{tb:cS}{De:iH}(gi:α->D)(l:List α)(I:Nat->Sd->Prop)
  (DH:∀i a σ (N:Sd->Prop),l[i]?=some a->I i σ->(∀cq,I (i+1) cq->N cq)->g (gi a) σ λaA=>tb {nx:=N,rt:=De.rt,bk:=De.nx,ct:=N} aA)
  (DA:∀σ,I l.length σ->De.nx σ) {σ:Sd} (h0:I 0 σ):uD g tb De (l.map gi) σ:=by
 refine Dc I (λi x σ N hx hI hN=>?_) (λσ h=>DA σ (by rwa [aaR]at h)) h0
 rw[List.getElem?_map]at hx;cases e:l[i]? with
 | none=>rw[e]at hx;cases hx
 | some a=>rw[e]at hx;cases hx;exact DH i a σ N e hI hN
theorem fN(lo:Int)(n:Nat):nF lo n=(List.range n).map λi=>.int (lo+(i:Nat)):=rfl
theorem FY{α β:Type}(f:α->D)(g:β->D)(xs:List α)(ys:List β):wy (xs.map f) (ys.map g)=(xs.zip ys).map λp=>.tup [f p.1,g p.2]:=by
 unfold wy;rw[List.zip_map,List.map_map];rfl
theorem o7{α:Type}(f:α->D)(xs:List α):iL (xs.map f)=(xs.mapIdx λi x=>(i,x)).map λp=>.tup [.int (p.1:Nat),f p.2]:=by
 unfold iL;apply List.ext_getElem?;intro i;simp only[List.getElem?_mapIdx,List.getElem?_map];cases xs[i]?<;>rfl
theorem yi{α:Type}{xs:List α}{n:Nat}{d:α}(h:xs[n]?=some d):L2.og xs (n:Int)=some d:=by
 have hn:=(List.getElem?_eq_some_iff.mp h).1;unfold L2.og L2.yN;rw[if_pos (Int.natCast_nonneg n),if_pos ⋯]
 show xs[(n:Int).toNat]?=some d;rw[Int.toNat_natCast];exact h
theorem bw{xs:List D}{n:Nat}{i:Int}{d:D}{Q:D->Prop}(e:i=(n:Int))(h:xs[n]?=some d)(q:Q d):Nn (.lst xs) (.int i) Q:=by
 subst e;show(match L2.og xs (n:Int)with|some d=>Q d|none=>False)
 rw[yi h];exact q
theorem An{xs:List D}{n:Nat}{i:Int}{d:D}{Q:D->Prop}(e:i=(n:Int))(h:xs[n]?=some d)(q:Q d):Nn (.tup xs) (.int i) Q:=by
 subst e;show(match L2.og xs (n:Int)with|some d=>Q d|none=>False)
 rw[yi h];exact q
theorem eO{xs:List D}{i:Int}{Q:D->Prop}(h0:0<=i)(h1:i<xs.length)(h:∀d∈xs,Q d):Nn (.lst xs) (.int i) Q:=by
 have hn:i.toNat<xs.length:=by omega
 exact bw (n:=i.toNat) ⋯ (aaQ hn) (h _ (List.getElem_mem hn))
structure cW(G:GE)(x:Str)(st:Stmt)(ps:List Str)(f:Addr)(fd:FuncData):Prop where
 F:JF G.K x x st f fd
 m:G.mg x=some (.ref f)
 b:Binds G.K fd ps []
theorem cW.fg{x:Str}{st:Stmt}{ps N:List Str}{f:Addr}{fd:FuncData}{t:cS}{sp:bN}(d:cW G x st ps f fd)(hK:G.K=KF.K)(Sc:aR N ps (ai st))(ht:fv G k ⟨N,(ai st).names,[],false,false,false,λ_ _=>False⟩ (aw st) t)
  (len:∀ds Q,sp ds Q->ds.length=ps.length) (body:∀ds Q,sp ds Q->t {nx:=λ_=>Q (.sh .bD),rt:=λb _=>Q b} (a9 N.length ds)):cR G (k+1) x sp:=
 ⟨f,fd,ps,JW hK d.F Sc ht len body,d.m,d.F.kp,d.b⟩
theorem au{t u:cS}{De:iH}{σ:Sd}(h:∀N,N=u De->t {nx:=N,rt:=De.rt,bk:=De.bk,ct:=De.ct} σ):b8 t u De σ:=h _ rfl
end Vc
namespace Vc
open PySem L2
variable [KF]
section
open AutoSeq1 (wpAny_loadPart')
theorem u5(l:Addr)(items:Array Value)(n:Nat)(dct:Option Addr)(sl:Array (Option Value)):
  Meets (Builtin.«enumerate.__new__» ⟨[.type "enumerate",.ref l],[]⟩) (λ_ R s=>s.heap.get? l=some {cls:=.type "tuple",dict:=dct,data:=.seq items n,slots:=sl} /\
   R (.ok (.ret (.ref (s.heap.push {cls:=.type "tuple_iterator",data:=.fields #[.ref l,.int 0 0]}).objs.size)))
    {s with heap:=(s.heap.push {cls:=.type "tuple_iterator",data:=.fields #[.ref l,.int 0 0]}).push {cls:=.type "enumerate",data:=.fields #[.none,.bool false,.ref s.heap.objs.size,rawInt 0,.none,.none]}}):=
 .of_wp λprog w A R s h=>by
  obtain⟨hp,g,d,tk,os⟩:=s;obtain⟨hl,h⟩:=h;have Z4:=sub_enumerate;have hL:Heap.IsTuple (Shared.heap ⟨hp,g,d,tk,os⟩) l items:=⟨_,hl,rfl,n,rfl⟩
  wp_walk using wpAny_loadPart' hl
  refine wpAny_stack_any λst=>wpAny_pure ?_
  split
  ·rename_i c _ _ _ _ _
   cases(c==Value.type "enumerate")
   ·wp_walk using wpAny_loadPart' hl,wpAny_pyIter_tuple hL
    exact⟨_,rfl,h⟩
   ·wp_walk using wpAny_loadPart' hl,wpAny_pyIter_tuple hL
    exact⟨_,rfl,h⟩
  ·wp_walk using wpAny_loadPart' hl,wpAny_pyIter_tuple hL
   exact⟨_,rfl,h⟩
theorem wY{prog:Program}{w:World}{A:Around}{E:Value->Shared->Prop}{s:Shared}{l:Addr}{items:Array Value}{Q:Value->Shared->Prop}(hL:s.heap.IsTuple l items)
  (h:∀h',IsEnum h' (s.heap.objs.size+1) s.heap.objs.size 0 .none->lL true h' s.heap.objs.size l 0->h'.objs.size=s.heap.objs.size+2 ->
   (∀b o,s.heap.get? b=some o->h'.get? b=some o)->Q (.ref (s.heap.objs.size+1)) {s with heap:=h'}):
  wpAny (model prog w) A (call (.type "enumerate") [.ref l]) Q E s:=by
 obtain⟨⟨c,dct,dt,sl⟩,hl,hc,n,hd⟩:=hL
 replace hc:c=.type "tuple":=hc
 replace hd:dt=.seq items n:=hd
 subst hc hd;refine callType_new F.called_enumerate ∅ (F.typeCall_enumerate_1 _) (F.newCall_enumerate_1 _) (λobj=>F.args_object_init_2 obj _) F.entry_enumerate_new
  (u5 l items n dct sl) ⟨hl,?_⟩
 have hz:(s.heap.push {cls:=.type "tuple_iterator",data:=.fields #[.ref l,.int 0 0]}).objs.size=s.heap.objs.size+1:=Heap.size_push ..;show _/\_;rw[hz];have he:IsEnum ((s.heap.push {cls:=.type "tuple_iterator",data:=.fields #[.ref l,.int 0 0]}).push
   {cls:=.type "enumerate",data:=.fields #[.none,.bool false,.ref s.heap.objs.size,rawInt 0,.none,.none]}) (s.heap.objs.size+1) s.heap.objs.size 0 .none:=by
  have:=Heap.get?_push_size (s.heap.push {cls:=.type "tuple_iterator",data:=.fields #[.ref l,.int 0 0]})
   (o:={cls:=.type "enumerate",data:=.fields #[.none,.bool false,.ref s.heap.objs.size,rawInt 0,.none,.none]}) rfl
  rw[hz]at this;exact this
 refine⟨⟨_,he,rfl⟩,h _ he ⟨_,aaP _ (Heap.get?_push_size _ rfl),rfl,rfl⟩ (by rw[Heap.size_push,hz]) λb o x=>aaP _ (aaP _ x)⟩
end
def M7(K:PySem.W.Frag)(ta:TA):TI:=λσ H R=>ta σ H λvs H1=>∃tp a xs,vs=[.ref a]/\Sq tp K H1 a xs/\R (Ya tp K a) H1
theorem Eo{X:Cx}{elts:List Expr}{kk:Nat}{km:Pos}{a:Expr}{ta:TA}{p pos:Pos}(hg:Gl X "enumerate")(hm:X.mg "enumerate"=none)(hv:bootBuiltins "enumerate"=some (.type "enumerate"))(ha:PA X [a] ta)(hs:starEach [a] X.env=[(false,eval a X.env)]):
  PI X (.Tuple elts kk km) (.Call (.Name "enumerate" p) [a] [] pos) (M7 X.K ta):=by
 intro pins s σ H R I h;refine PyProof.Rows.Call_ (gJ I hg hm hv (PyProof.Rows.callWith_type1 (cO (ha pos pins s σ H _ I h) λus s1 ⟨vs,H1,I1,r1,q1⟩=>?_) hs rfl));obtain⟨tp,l,xs,e,q1,q⟩:=q1;subst e;obtain⟨u,rfl,ru⟩:=vals1 r1;cases ru;obtain⟨its,_,p1,ll⟩:=q1.is I1;have fin:∀h',IsEnum h' (s1.heap.objs.size+1) s1.heap.objs.size 0 .none->lL tp h' s1.heap.objs.size l 0->h'.objs.size=s1.heap.objs.size+2 ->
   (∀b o,s1.heap.get? b=some o->h'.get? b=some o)->wpAny (model X.prog X.w) X.A (pyIter (.ref (s1.heap.objs.size+1))) (YS X pins σ (.Tuple elts kk km) R) X.xe {s1 with heap:=h'}:=λg e1 i1 n1 k1=>by
  refine wpAny_pyIter_enum e1 ?_;refine⟨s1.heap.objs.size+1,[s1.heap.objs.size+1,s1.heap.objs.size],_,_,H1,rfl,I1.kept (t':=s1.toks) k1,
   A6 tp _ _ l (show(s1.heap.objs.size+1:Nat)≠s1.heap.objs.size by omega) (Nat.ne_of_lt (Nat.lt_succ_of_lt ll)) (Nat.ne_of_lt ll),⟨⟨_,e1⟩,i1⟩,λb hb=>?_,q⟩
  have lu:s1.heap.objs.size<=b:=by
   simp only[List.mem_cons,List.not_mem_nil,or_false]at hb;rcases hb with rfl|rfl
   ·exact Nat.le_succ _
   ·exact Nat.le_refl _
  exact I1.Aa lu (I1.bU.fresh lu)
 cases tp with
 | true=>exact wY p1 fin
 | false=>exact call_enumerate_list p1 fin
variable {G:GE}{k:Nat}{S:Stat}
def sJ(t:fc):fc:=λσ Q=>t σ λds aA=>match ds with
 | [.lst xs]=>Q (iL xs) aA
 | [.tup xs]=>Q (iL xs) aA
 | _=>False
theorem yK{elts:List Expr}{kk:Nat}{km:Pos}{a:Expr}{t:fc}{p pos:Pos}(h:wG G k S [a] t)(hm:G.mg "enumerate"=none)(hg:S.sc.lookup ("enumerate":Str)=some .globalImplicit:=by rfl)(hs:∀env,starEach [a] env=[(false,eval a env)]:=by intro _;rfl):
  EI G k S (.Tuple elts kk km) (.Call (.Name "enumerate" p) [a] [] pos) (sJ t):=.mk λX Y ok=>nD (Eo (d7 ok hg) (by rw[ok.mg];exact hm) (by decide +kernel) (h X Y ok) (hs _)) λσ H Q q=>by
 obtain⟨F,ak,Qd,R,q,K⟩:=q;refine⟨F,ak,_,R,q,λvs H1 F1 ds aA s1 R1 r1 q1=>?_⟩;have go:∀d xs,XX d=some xs->aD F1 vs [d]->Qd (iL xs) aA->∃tp a us,vs=[.ref a]/\Sq tp X.K H1 a us/\Q (Ya tp X.K a) H1:=λd xs ex r1 q1=>by
  cases r1 with
  | cons rx r1 =>
   cases r1;obtain⟨tp,l,us,rfl,a1,b1⟩:=rx.sq ex X.K;exact⟨tp,l,us,rfl,a1 H1 R1.fr,K H1 F1 aA _ _ s1 R1 (Hm a1 b1) q1⟩
 split at q1
 ·exact go _ _ rfl r1 q1
 ·exact go _ _ rfl r1 q1
 ·exact q1.elim
theorem BO{X:Cx}:cK X (.type "range") (λxs H Q=>∃j:Int,xs=[.int j]/\∀l,H l=none->Q (.ref l) (upd H l (.QA 0 j))):=by
 intro pins s σ H xs us Q I r h;obtain⟨j,rfl,q⟩:=h;obtain⟨u,rfl,rx⟩:=vals1 r;obtain⟨t,rfl⟩:=rx;refine call_range_1 ?_;exact⟨.ref s.heap.objs.size,_,I.laid (t':=s.toks+1+1) (o:=.QA 0 j) (λb o e=>aaP _ e) (Nat.le_refl _) ⟨_,_,_,Heap.get?_push_size _ rfl⟩,rfl,q _ I.fresh⟩
def rJ(n:Nat):List V:=(List.range n).map λi=>.int (i:Nat)
theorem FQ{n:Nat}{acc:Array Value}(h:ItemsOf (λi v=>∃t,v=.int (0+i*1) t) acc n):Vals (rJ n) acc.toList:=by
 obtain⟨h1,h2⟩:=h;have:∀(xs:List V) (us:List Value),xs.length=us.length->(∀(i:Nat) v,us[i]?=some v->∃x,xs[i]?=some x/\RelV x v)->Vals xs us:=by
  intro xs
  induction xs with
  | nil=>intro us hl _;cases us with
   | nil=>exact .nil
   | cons _ _=>simp at hl
  | cons x xs ih=>intro us hl hr;cases us with
   | nil=>simp at hl
   | cons u us =>
    obtain⟨y,hy,ry⟩:=hr 0 u rfl;cases hy;exact .cons ry (ih us (by simpa using hl) λi v e=>hr (i+1) v e)
 refine this _ _ (by simp [rJ,h1]) λi v e=>?_
 have hi:i<n:=by
  have:=(List.getElem?_eq_some_iff.mp e).1;simpa [h1]using this
 obtain⟨t,rfl⟩:=h2 i v (by simpa using e)
 refine⟨.int (i:Nat),by simp [rJ,hi],⟨t,by simp⟩⟩
theorem oz{X:Cx}(hc:X.calm=true):cK X (.type "list") (λxs H Q=>∃p j,xs=[.ref p]/\H p=some (.QA 0 j)/\-(2^62)<=j/\j<=2^24/\∀l,H l=none->Q (.ref l) (upd H l (.lst (rJ j.toNat)))):=by
 intro pins s σ H xs us Q I r h;obtain⟨p,j,rfl,hp,h1,h2,q⟩:=h;obtain⟨u,rfl,rx⟩:=vals1 r;cases rx;obtain⟨t,u,v,e⟩:=I.bU p _ hp;refine call_list_range (n:=j.toNat) (I.ok.hd hc) (show IsRange s.heap p 0 j 1 t u v from e) (small_one ⋯ ⋯ ⋯ ⋯) (by rw[rangeSize_one];split<;>omega) ⋯ λh' tk Y0 c' kp e' it=>?_
 have hz:(rJ j.toNat).length<=sizeLine:=by simp [rJ,sizeLine];omega
 exact⟨.ref s.heap.objs.size,_,I.laid (t':=tk) kp (Nat.le_refl _) (show cu X.prog X.w _ h' _ (.lst (rJ j.toNat))from⟨hz,Y0.toList,c',FQ it,by simpa using e'⟩),rfl,q _ I.fresh⟩
def SY(t:wz):TX:=λσ Q=>t σ λxs aA=>match iX aA xs with
 | some [.int j]=>(-(2^62)<=j/\j<=2^24)/\Q (.own (nF 0 j.toNat)) aA
 | _=>False
theorem EZ{F:Hp}(n:Nat):aD F (rJ n) (nF 0 n):=by
 unfold rJ nF
 induction (List.range n)with
 | nil=>exact .nil
 | cons a as ih=>exact .cons (by simpa using Rep.int _) ih
theorem rC{a:Expr}{t:wz}{p p2 pos Qo:Pos}(h:Gd G k S [a] t)(hm:G.mg "list"=none)(ji:G.mg "range"=none)(hg:S.sc.lookup ("list":Str)=some .globalImplicit:=by rfl)(ZL:S.sc.lookup ("range":Str)=some .globalImplicit:=by rfl)
  (hs:∀env,starEach [a] env=[(false,eval a env)]:=by intro _;rfl) (yI:∀env,starEach [Expr.Call (.Name "range" p2) [a] [] Qo] env=[(false,eval (Expr.Call (.Name "range" p2) [a] [] Qo) env)]:=by intro _;rfl) (hh:S.kF=false:=by rfl):
  EX G k S (.Call (.Name "list" p) [.Call (.Name "range" p2) [a] [] Qo] [] pos) (SY t):=.mk λX Y ok =>
 bo (fL (oz (ok.calm hh)) (d7 ok hg) (by rw[ok.mg];exact hm) (by decide +kernel) (cf (fL BO (d7 ok ZL) (by rw[ok.mg];exact ji) (by decide +kernel) (h X Y ok) ∅ ∅ (hs _) (by rfl)) cV (yI _)) ∅ ∅ (yI _) (by rfl)) λσ H Q q=>by
  obtain⟨F,ak,Qd,R,q,K⟩:=q;refine⟨F,ak,_,R,q,λvs H1 F1 xs aA s1 R1 r1 q1=>?_⟩
  split at q1
  ·rename_i j e
   obtain⟨v,rfl,rv⟩:=(R1.iX r1 e).one;obtain rfl:=rv.int;refine⟨j,rfl,λl hl=>⟨l,j,rfl,ay,q1.1.1,q1.1.2,?_⟩⟩;have R2:RS Y F1 aA σ (upd H1 l (.QA 0 j)):=R1.fw hl;have g:Goes Y F1 aA σ (λr=>Qd r aA) Q:=λv H' F' r s R' rr qq=>K v H' F' r aA (s1.trans s) R' rr qq;exact g.own R2 (EZ _) q1.2
  ·exact q1.elim
end Vc
namespace Vs
open PySem PyProof.Rows
def R(ρ:Keyed->Nat)(xs:Array Keyed)(i:Nat):Nat:=match xs[i]? with
 | some p=>ρ p
 | none=>0
theorem hZ{ρ:Keyed->Nat}{xs ys:Array Keyed}{i j:Nat}(h:xs[i]?=ys[j]?):R ρ xs i=R ρ ys j:=by unfold R;rw[h]
theorem dq{ρ:Keyed->Nat}{xs:Array Keyed}{i:Nat}{p:Keyed}(h:xs[i]?=some p):R ρ xs i=ρ p:=by unfold R;rw[h]
theorem sY{ρ:Keyed->Nat}{xs:Array Keyed}{src d:Nat}(hs:src<xs.size)(hd:d<=src)(k:Nat):
  R ρ (bubble xs src d) k=if k=src-d then R ρ xs src else if src-d<k/\k<=src then R ρ xs (k-1)else R ρ xs k:=by
 have e:=getElem?_bubble hs d hd k
 repeat' split
 all_goals (rename_i h1;first | (rename_i h2;first|rw[if_neg h2,if_pos h1]at e|rw[if_neg h2,if_neg h1]at e)|rw[if_pos h1]at e)
 all_goals exact hZ e
theorem mD{ρ:Keyed->Nat}{xs:Array Keyed}{i j:Nat}(hj:j<=xs.size)(k:Nat):
  R ρ (mirror xs i j ((j-i)/2)) k=if i<=k/\k<j then R ρ xs (i+j-1-k)else R ρ xs k:=by
 have e:=getElem?_mirror_all (i:=i) hj k
 split
 ·rename_i h1;rw[if_pos h1]at e;exact hZ e
 ·rename_i h1;rw[if_neg h1]at e;exact hZ e
theorem cP{ρ:Keyed->Nat}{xs:Array Keyed}{i j:Nat}(hj:j<=xs.size)(heq:∀k,i<=k->k<j->R ρ xs k=R ρ xs (j-1))(k:Nat):
  R ρ (mirror xs i j ((j-i)/2)) k=R ρ xs k:=by
 rw[mD hj]
 split
 ·rw[heq _ ⋯ ⋯,heq k ⋯ ⋯]
 ·rfl
def gy(M:Model)(A:Around)(E:Value->Shared->Prop)(s:Shared)(ρ:Keyed->Nat)(kd:SortKind)(P:Keyed->Prop):Prop:=
 ∀(x y:Keyed) (st:SortSt) (Q:Option Bool->SortSt->Prop),P x->P y->kindOf st=kd->Q (some (decide (ρ x<ρ y))) st->wpS M A E s (lt' x y) Q st
structure SI(kd:SortKind)(a₀:Array Keyed)(st:SortSt):Prop where
 perm:(arrOf st).Perm a₀
 kind:kindOf st=kd
 failed:failedOf st=none
theorem SI.size{kd:SortKind}{a₀:Array Keyed}{st:SortSt}(h:SI kd a₀ st):(arrOf st).size=a₀.size:=h.perm.size_eq
theorem SI.setArr{kd:SortKind}{a₀:Array Keyed}{st:SortSt}(h:SI kd a₀ st){xs:Array Keyed}(hp:xs.Perm (arrOf st)):SI kd a₀ (setArr st xs):=⟨hp.trans h.perm,h.kind,h.failed⟩
theorem SI.at{kd:SortKind}{a₀:Array Keyed}{st:SortSt}(h:SI kd a₀ st){P:Keyed->Prop}(h0:∀p∈a₀.toList,P p){i:Nat}(hi:i<a₀.size):∃p,(arrOf st)[i]?=some p/\P p:=by
 have sS:i<(arrOf st).size:=by rw[h.size];exact hi
 exact⟨(arrOf st)[i],getElem?_pos _ i sS,h0 _ ((Array.perm_iff_toList_perm.mp h.perm).mem_iff.mp (by simp))⟩
structure Fw(kd:SortKind)(a₀:Array Keyed)(lo:Nat)(st aC:SortSt):Prop where
 si:SI kd a₀ aC
 same:∀k,k<lo->(arrOf aC)[k]?=(arrOf st)[k]?
 pend:pendingOf aC=pendingOf st
theorem Fw.refl{kd:SortKind}{a₀:Array Keyed}{lo:Nat}{st:SortSt}(h:SI kd a₀ st):Fw kd a₀ lo st st:=⟨h,λ_ _=>rfl,rfl⟩
theorem Fw.mirror{kd:SortKind}{a₀:Array Keyed}{lo i j:Nat}{st aC:SortSt}(h:Fw kd a₀ lo st aC)(hi:lo<=i)(hj:j<=a₀.size):Fw kd a₀ lo st (setArr aC (mirror (arrOf aC) i j ((j-i)/2))):=
 ⟨h.si.setArr (mirror_perm _ _ _ _),λk hk=>by
  show(PyProof.Rows.mirror (arrOf aC) i j ((j-i)/2))[k]?=_;rw[getElem?_mirror_all (by rw[h.si.size];exact hj),if_neg ⋯];exact h.same k hk,h.pend⟩
theorem Fw.bubble{kd:SortKind}{a₀:Array Keyed}{lo src d:Nat}{st aC:SortSt}(h:Fw kd a₀ lo st aC)(hs:src<a₀.size)(hd:lo<=src-d)(hd2:d<=src):Fw kd a₀ lo st (setArr aC (bubble (arrOf aC) src d)):=
 ⟨h.si.setArr (bubble_perm _ _ _),λk hk=>by
  show(PyProof.Rows.bubble (arrOf aC) src d)[k]?=_;rw[getElem?_bubble (by rw[h.si.size];exact hs) d hd2,if_neg ⋯,if_neg ⋯];exact h.same k hk,h.pend⟩
section
variable {M:Model}{A:Around}{E:Value->Shared->Prop}{s:Shared}{ρ:Keyed->Nat}{kd:SortKind}{P:Keyed->Prop}{a₀:Array Keyed}
theorem bp{arr:Array Keyed}{i:Nat}{p:Keyed}{st:SortSt}{Q:Keyed->SortSt->Prop}(h:arr[i]?=some p)(q:Q p st):wpS M A E s (elem' arr i) Q st:=by
 rw[elem'_eq,h];exact wpS_pure q
theorem wpS_ltAt{st:SortSt}{i j:Nat}{Q:Option Bool->SortSt->Prop}(hL:gy M A E s ρ kd P)(h0:∀p∈a₀.toList,P p)(hB:SI kd a₀ st)(hi:i<a₀.size)(hj:j<a₀.size)
  (h:Q (some (decide (R ρ (arrOf st) i<R ρ (arrOf st) j))) st):wpS M A E s (ltAt' i j) Q st:=by
 obtain⟨p,e1,p1⟩:=hB.at h0 hi;obtain⟨q,e2,p2⟩:=hB.at h0 hj;rw[dq e1,dq e2]at h;rw[ltAt'_eq];refine wpS_bind (wpS_get ?_);show wpS _ _ _ _ (do let x <- elem' (arrOf st) i;let y <- elem' (arrOf st) j;lt' x y) Q st
 exact wpS_bind (bp e1 (wpS_bind (bp e2 (hL p q st Q p1 p2 hB.kind h))))
theorem wpS_reverse{st:SortSt}{i j:Nat}{Q:Unit->SortSt->Prop}(h:Q () (setArr st (mirror (arrOf st) i j ((j-i)/2)))):wpS M A E s (reverseSlice' i j) Q st:=by
 rw[reverseSlice'_eq];exact wpS_modify h
def Seg(ρ:Keyed->Nat)(xs:Array Keyed)(lo hi:Nat):Prop:=∀i j,lo<=i->i<=j->j<hi->R ρ xs i<=R ρ xs j
def Neg(ρ:Keyed->Nat)(xs:Array Keyed)(lo hi:Nat):Prop:=∀i j,lo<=i->i<=j->j<hi->R ρ xs j<=R ρ xs i
theorem Seg.one{xs:Array Keyed}{lo:Nat}:Seg ρ xs lo (lo+1):=λi j h1 h2 h3=>by
 have:i=j:=by omega
 subst this;exact Nat.le_refl _
theorem Seg.snoc{xs:Array Keyed}{lo hi:Nat}(h:Seg ρ xs lo hi)(hl:lo<hi)(hr:R ρ xs (hi-1)<=R ρ xs hi):Seg ρ xs lo (hi+1):=λi j h1 h2 h3=>by
 by_cases hj:j<hi
 ·exact h i j h1 h2 hj
 ·have:j=hi:=by omega
  subst this
  by_cases sS:i=j
  ·subst sS;exact Nat.le_refl _
  ·exact Nat.le_trans (h i (j-1) h1 ⋯ ⋯) hr
theorem Neg.snoc{xs:Array Keyed}{lo hi:Nat}(h:Neg ρ xs lo hi)(hl:lo<hi)(hr:R ρ xs hi<=R ρ xs (hi-1)):Neg ρ xs lo (hi+1):=λi j h1 h2 h3=>by
 by_cases hj:j<hi
 ·exact h i j h1 h2 hj
 ·have:j=hi:=by omega
  subst this
  by_cases sS:i=j
  ·subst sS;exact Nat.le_refl _
  ·exact Nat.le_trans hr (h i (j-1) h1 ⋯ ⋯)
def BH(lo a bX:Nat):StateT SortSt Sem (Option (Option Nat)×Nat):=
 forIn [a:bX] ((none,a):Option (Option Nat)×Nat) λ_ eJ=>do
  let KR <- ltAt' (lo+eJ.snd) (lo+eJ.snd-1)
  match KR with
  | some rW=>if rW=true then pure (ForInStep.done (none,eJ.snd))else pure (ForInStep.yield (none,eJ.snd+1))
  | _=>pure (ForInStep.done (some none,eJ.snd))
theorem we{st:SortSt}{lo a bX:Nat}{Q:Option (Option Nat)×Nat->SortSt->Prop}(hL:gy M A E s ρ kd P)(h0:∀p∈a₀.toList,P p)(hn:lo+bX<=a₀.size)(ha:1<=a)(Yg:a<=bX)(hB:SI kd a₀ st)
  (hs:Seg ρ (arrOf st) lo (lo+a))
  (h:∀n,a<=n->n<=bX->Seg ρ (arrOf st) lo (lo+n)->(n=bX\/R ρ (arrOf st) (lo+n)<R ρ (arrOf st) (lo+n-1))->Q (none,n) st):wpS M A E s (BH lo a bX) Q st:=by
 unfold BH;refine wpS_forRange (I:=λx c aC=>aC=st/\c=(none,x)/\Seg ρ (arrOf st) lo (lo+x)) ?step ?fin ⟨rfl,rfl,hs⟩
 case fin =>
  rintro c aC ⟨rfl,rfl,kx⟩;rw[show max a bX=bX by omega]at kx ⊢
  exact h bX Yg (Nat.le_refl _) kx (.inl rfl)
 case step =>
  rintro x c aC ZD hxn ⟨rfl,rfl,kx⟩;dsimp only;refine wpS_bind (wpS_ltAt hL h0 hB ⋯ ⋯ ?_)
  by_cases hl:R ρ (arrOf aC) (lo+x)<R ρ (arrOf aC) (lo+x-1)
  ·simp only[hl,decide_true,if_true]
   exact wpS_pure (h x ZD ⋯ kx (.inr hl))
  ·simp only[hl,decide_false,Bool.false_eq_true,if_false]
   refine wpS_pure ⟨rfl,rfl,?_⟩;exact kx.snoc ⋯ ⋯
def vY(lo n bX:Nat):StateT SortSt Sem (Option Nat):=do
 reverseSlice' lo (lo+n)
 let eJ <- BH lo n bX
 match eJ.fst with
 | some r=>pure r
 | none=>pure (some eJ.snd)
theorem qa{st cG:SortSt}{lo n bX:Nat}{Q:Option Nat->SortSt->Prop}(hL:gy M A E s ρ kd P)(h0:∀p∈a₀.toList,P p)(hn:lo+bX<=a₀.size)(h1:1<=n)(Hc:n<=bX)(hB:Fw kd a₀ lo cG st)
  (hs:Neg ρ (arrOf st) lo (lo+n)) (h:∀m aC,Fw kd a₀ lo cG aC->1<=m->m<=bX->Seg ρ (arrOf aC) lo (lo+m)->Q (some m) aC):wpS M A E s (vY lo n bX) Q st:=by
 unfold vY;have hsz:lo+n<=(arrOf st).size:=by rw[hB.si.size];omega
 refine wpS_bind (wpS_reverse ?_);have i6:=hB.mirror (i:=lo) (j:=lo+n) (Nat.le_refl _) ⋯
 refine wpS_bind (we hL h0 hn h1 Hc i6.si ?_ λm Gr ji hsm _=>wpS_pure (h m _ i6 ⋯ ji hsm))
 intro i j hi ku hj;show R ρ (mirror (arrOf st) lo (lo+n) ((lo+n-lo)/2)) i<=R ρ (mirror (arrOf st) lo (lo+n) ((lo+n-lo)/2)) j;rw[mD hsz,mD hsz,if_pos ⋯,if_pos ⋯]
 exact hs _ _ ⋯ ⋯ ⋯
def yq(lo n bX:Nat):StateT SortSt Sem (Option (Option Nat)×Nat×Nat):=
 forIn [n:bX] ((none,n,0):Option (Option Nat)×Nat×Nat) λ_ eJ=>do
  let KR <- ltAt' (lo+eJ.snd.fst) (lo+eJ.snd.fst-1)
  match KR with
  | some rW =>
   if rW=true then
    if eJ.snd.snd>0 then do
     reverseSlice' (lo+eJ.snd.fst-(eJ.snd.snd+1)) (lo+eJ.snd.fst)
     pure (ForInStep.yield (none,eJ.snd.fst+1,0))
    else pure (ForInStep.yield (none,eJ.snd.fst+1,0))
   else do
    let KR <- ltAt' (lo+eJ.snd.fst-1) (lo+eJ.snd.fst)
    match KR with
    | some N4 =>
     if N4=true then pure (ForInStep.done (none,eJ.snd.fst,eJ.snd.snd))
     else pure (ForInStep.yield (none,eJ.snd.fst+1,eJ.snd.snd+1))
    | _=>pure (ForInStep.done (some none,eJ.snd.fst,eJ.snd.snd))
  | _=>pure (ForInStep.done (some none,eJ.snd.fst,eJ.snd.snd))
theorem A9{st cG:SortSt}{lo n bX:Nat}{Q:Option (Option Nat)×Nat×Nat->SortSt->Prop}(hL:gy M A E s ρ kd P)(h0:∀p∈a₀.toList,P p)(hn:lo+bX<=a₀.size)(h1:1<=n)(Hc:n<=bX)(hB:Fw kd a₀ lo cG st)
  (hs:Neg ρ (arrOf st) lo (lo+n))
  (h:∀m xv aC,Fw kd a₀ lo cG aC->n<=m->m<=bX->Neg ρ (arrOf aC) lo (lo+m)->xv+1<=m->(∀i,lo+m-(xv+1)<=i->i<lo+m->R ρ (arrOf aC) i=R ρ (arrOf aC) (lo+m-1))->Q (none,m,xv) aC):
  wpS M A E s (yq lo n bX) Q st:=by
 unfold yq;refine wpS_forRange (I:=λx c aC=>∃xv,c=(none,x,xv)/\Fw kd a₀ lo cG aC/\Neg ρ (arrOf aC) lo (lo+x)/\xv+1<=x /\
   (∀i,lo+x-(xv+1)<=i->i<lo+x->R ρ (arrOf aC) i=R ρ (arrOf aC) (lo+x-1))) ?step ?fin ⟨0,rfl,hB,hs,by omega,λi h1 h2=>by congr 1;omega⟩
 case fin =>
  rintro c aC ⟨xv,rfl,i6,kx,hq,he⟩;rw[show max n bX=bX by omega]at kx hq he ⊢
  exact h bX xv aC i6 Hc (Nat.le_refl _) kx hq he
 case step =>
  rintro x c aC ZD hxn ⟨xv,rfl,i6,kx,hq,he⟩;dsimp only;have hsz:lo+x<=(arrOf aC).size:=by rw[i6.si.size];omega
  refine wpS_bind (wpS_ltAt hL h0 i6.si ⋯ ⋯ ?_)
  by_cases hl:R ρ (arrOf aC) (lo+x)<R ρ (arrOf aC) (lo+x-1)
  ·simp only[hl,decide_true,if_true]
   have Kk:∀xs:Array Keyed,(∀k,R ρ xs k=R ρ (arrOf aC) k)->Neg ρ xs lo (lo+(x+1)):=λxs hk=>by
    have:=kx.snoc ⋯ (Nat.le_of_lt hl)
    intro i j h1 h2 h3;rw[hk,hk];exact this i j h1 h2 h3
   by_cases DG:xv>0
   ·rw[if_pos DG]
    refine wpS_bind (wpS_reverse (wpS_pure ⟨0,rfl,i6.mirror ⋯ ⋯,Kk _ (cP hsz he),by omega,λi h1 h2=>by congr 1;omega⟩))
   ·rw[if_neg DG]
    exact wpS_pure ⟨0,rfl,i6,Kk _ (λ_=>rfl),by omega,λi h1 h2=>by congr 1;omega⟩
  ·simp only[hl,decide_false,Bool.false_eq_true,if_false]
   refine wpS_bind (wpS_ltAt hL h0 i6.si ⋯ ⋯ ?_)
   by_cases hg:R ρ (arrOf aC) (lo+x-1)<R ρ (arrOf aC) (lo+x)
   ·simp only[hg,decide_true,if_true]
    exact wpS_pure (h x xv aC i6 ZD ⋯ kx hq he)
   ·simp only[hg,decide_false,Bool.false_eq_true,if_false]
    have heq:R ρ (arrOf aC) (lo+x)=R ρ (arrOf aC) (lo+x-1):=by omega
    refine wpS_pure ⟨xv+1,rfl,i6,kx.snoc ⋯ ⋯,by omega,λi h1 h2=>?_⟩
    rw[show lo+(x+1)-1=lo+x by omega]
    by_cases hix:i=lo+x
    ·rw[hix]
    ·rw[heq];exact he i ⋯ ⋯
def tO(lo n bX:Nat):StateT SortSt Sem (Option Nat):=do
 liftM (rule "list.sort.descending-run")
 let eJ <- yq lo (n+1) bX
 match eJ.fst with
 | some r=>pure r
 | none =>
  if eJ.snd.snd>0 then do
   reverseSlice' (lo+eJ.snd.fst-(eJ.snd.snd+1)) (lo+eJ.snd.fst)
   vY lo eJ.snd.fst bX
  else vY lo eJ.snd.fst bX
theorem p9{st cG:SortSt}{lo n bX:Nat}{Q:Option Nat->SortSt->Prop}(hL:gy M A E s ρ kd P)(h0:∀p∈a₀.toList,P p)(hn:lo+bX<=a₀.size)(Hc:n+1<=bX)(hB:Fw kd a₀ lo cG st)
  (hs:Neg ρ (arrOf st) lo (lo+(n+1))) (h:∀m aC,Fw kd a₀ lo cG aC->1<=m->m<=bX->Seg ρ (arrOf aC) lo (lo+m)->Q (some m) aC):wpS M A E s (tO lo n bX) Q st:=by
 unfold tO;refine wpS_bind (wpS_lift (wpAny_rule ⟨rfl,?_⟩));refine wpS_bind (A9 hL h0 hn ⋯ Hc hB hs λm xv aC i6 Gr ji kx hq he=>?_)
 dsimp only;have hsz:lo+m<=(arrOf aC).size:=by rw[i6.si.size];omega
 by_cases DG:xv>0
 ·rw[if_pos DG]
  refine wpS_bind (wpS_reverse (qa hL h0 hn ⋯ ji (i6.mirror ⋯ ⋯) ?_ h))
  intro i j h1 h2 h3;show R ρ (mirror (arrOf aC) _ _ _) j<=R ρ (mirror (arrOf aC) _ _ _) i;rw[cP hsz he,cP hsz he];exact kx i j h1 h2 h3
 ·rw[if_neg DG]
  exact qa hL h0 hn ⋯ ji i6 kx h
local macro_rules|`(tactic| walk_at "s_tail")=>`(tactic| (funext s3;obtain⟨r3,n3⟩:=s3;cases r3<;>rfl))
local macro_rules|`(tactic| walk_at "s_t3")=>`(tactic| (congr 1;funext _w;congr 1;walk_at "s_tail"))
local macro_rules|`(tactic| walk_at "s_desc")=>`(tactic| (congr 1;funext _u;congr 1;congr 1;funext s2;obtain⟨r2,n2,q2⟩:=s2;cases r2 with
  | some r2=>rfl
  | none=>(dsimp only;split;(congr 1;funext _v;walk_at "s_t3");walk_at "s_t3")))
theorem qu(lo bX:Nat):countRun' lo bX=(do
  let eJ <- BH lo 1 bX
  match eJ.fst with
  | some r=>pure r
  | none =>
   if(eJ.snd==bX)=true then pure (some eJ.snd)
   else if eJ.snd>1 then do
    let KR <- ltAt' lo (lo+eJ.snd-1)
    match KR with
    | some aau=>if aau=true then pure (some eJ.snd)else do
      reverseSlice' lo (lo+eJ.snd)
      tO lo eJ.snd bX
    | _=>pure none
   else tO lo eJ.snd bX):=by
 rw[countRun'_eq];dsimp only;unfold tO vY yq BH;congr 1;funext eJ;obtain⟨r,n⟩:=eJ;cases r with
 | some r=>rfl
 | none =>
  dsimp only
  split
  ·rfl
  ·split
   ·congr 1
    funext x;cases x with
    | none=>rfl
    | some b =>
     dsimp only
     split
     ·rfl
     ·congr 1
      funext _z;walk_at "s_desc"
   ·walk_at "s_desc"
end
end Vs
namespace Vs
open PySem PyProof.Rows
section
variable {M:Model}{A:Around}{E:Value->Shared->Prop}{s:Shared}{ρ:Keyed->Nat}{kd:SortKind}{P:Keyed->Prop}{a₀:Array Keyed}
theorem wpS_countRun{st:SortSt}{lo bX:Nat}{Q:Option Nat->SortSt->Prop}(hL:gy M A E s ρ kd P)(h0:∀p∈a₀.toList,P p)(hn:lo+bX<=a₀.size)(h1:1<=bX)(hB:SI kd a₀ st)
  (h:∀m aC,Fw kd a₀ lo st aC->1<=m->m<=bX->Seg ρ (arrOf aC) lo (lo+m)->Q (some m) aC):wpS M A E s (countRun' lo bX) Q st:=by
 rw[qu];refine wpS_bind (we hL h0 hn (Nat.le_refl 1) h1 hB Seg.one λn J0 Ym J4 hor=>?_);dsimp only
 by_cases Hc:n=bX
 ·rw[if_pos (by simpa using Hc)]
  exact wpS_pure (h n st (.refl hB) J0 Ym J4)
 ·rw[if_neg (by simpa using Hc)]
  have eX:=hor.resolve_left Hc
  by_cases hgt:n>1
  ·rw[if_pos hgt]
   refine wpS_bind (wpS_ltAt hL h0 hB ⋯ ⋯ ?_)
   by_cases hr:R ρ (arrOf st) lo<R ρ (arrOf st) (lo+n-1)
   ·simp only[hr,decide_true,if_true]
    exact wpS_pure (h n st (.refl hB) J0 Ym J4)
   ·simp only[hr,decide_false,Bool.false_eq_true,if_false]
    have hsz:lo+n<=(arrOf st).size:=by rw[hB.size];omega
    have fH:∀k,lo<=k->k<lo+n->R ρ (arrOf st) k=R ρ (arrOf st) (lo+n-1):=λk qJ hk2=>by
     have a1:=J4 lo k (Nat.le_refl _) qJ hk2;have a2:=J4 k (lo+n-1) qJ ⋯ ⋯
     omega
    refine wpS_bind (wpS_reverse (p9 hL h0 hn ⋯ ((Fw.refl hB).mirror (Nat.le_refl _) ⋯) ?_ h))
    intro i j hi ku hj;show R ρ (mirror (arrOf st) _ _ _) j<=R ρ (mirror (arrOf st) _ _ _) i;rw[cP hsz fH,cP hsz fH]
    by_cases hjn:j<lo+n
    ·rw[fH i hi ⋯,fH j ⋯ hjn];exact Nat.le_refl _
    ·have Bb:j=lo+n:=by omega
     subst Bb
     by_cases sS:i=lo+n
     ·subst sS;exact Nat.le_refl _
     ·rw[fH i hi ⋯];exact Nat.le_of_lt eX
  ·rw[if_neg hgt]
   have MY:n=1:=by omega
   subst MY;refine p9 hL h0 hn ⋯ (.refl hB) ?_ h
   intro i j hi ku hj
   by_cases sS:i=j
   ·subst sS;exact Nat.le_refl _
   ·have hi0:i=lo:=by omega
    have hj1:j=lo+1:=by omega
    subst hi0;subst hj1;exact Nat.le_of_lt eX
theorem wpS_binarySort{st:SortSt}{lo n ok:Nat}{Q:Bool->SortSt->Prop}(hL:gy M A E s ρ kd P)(h0:∀p∈a₀.toList,P p)(hn:lo+n<=a₀.size)(bU:ok<=n)(hB:SI kd a₀ st)(hs:Seg ρ (arrOf st) lo (lo+ok))
  (h:∀aC,Fw kd a₀ lo st aC->Seg ρ (arrOf aC) lo (lo+n)->Q true aC):wpS M A E s (binarySort' lo n ok) Q st:=by
 rw[binarySort'_eq];refine wpS_bind (wpS_mono (wpS_forRange (I:=λk c aC=>c=(none,())/\Fw kd a₀ lo st aC/\Seg ρ (arrOf aC) lo (lo+min k n))
  (Q:=λc aC=>c=(none,())/\Fw kd a₀ lo st aC/\Seg ρ (arrOf aC) lo (lo+n)) ?step ?fin ?init) ?post)
 case post =>
  rintro c aC ⟨rfl,i6,kx⟩;exact wpS_pure (h aC i6 kx)
 case init =>
  refine⟨rfl,.refl hB,λi j hi ku hj=>?_⟩
  by_cases h1:ok=0
  ·have:i=j:=by omega
   subst this;exact Nat.le_refl _
  ·exact hs i j hi ku ⋯
 case fin =>
  rintro c aC ⟨hc,i6,kx⟩;refine⟨hc,i6,?_⟩
  rwa [show min (max (max ok 1) n) n=n by omega]at kx
 case step =>
  rintro k c aC hak hkn ⟨rfl,i6,kx⟩;rw[show min k n=k by omega]at kx
  have hk:lo+k<a₀.size:=by omega
  refine wpS_bind (wpS_mono (wpS_forRange (I:=λx c dP=>dP=aC/\∃l r,c=(none,l,r)/\l<=r/\r<=k/\r-l<=k-x /\
    (∀i,i<l->R ρ (arrOf aC) (lo+i)<=R ρ (arrOf aC) (lo+k))/\(∀i,r<=i->i<k->R ρ (arrOf aC) (lo+k)<R ρ (arrOf aC) (lo+i)))
   (Q:=λc dP=>dP=aC/\∃l r,c=(none,l,r)/\l<=k /\
    (∀i,i<l->R ρ (arrOf aC) (lo+i)<=R ρ (arrOf aC) (lo+k))/\(∀i,l<=i->i<k->R ρ (arrOf aC) (lo+k)<R ρ (arrOf aC) (lo+i))) ?istep ?ifin ?iinit) ?ipost)
  case iinit=>exact⟨rfl,0,k,rfl,by omega,by omega,by omega,λi hi=>by omega,λi h1 h2=>by omega⟩
  case ifin =>
   rintro c dP ⟨rfl,l,r,rfl,hlr,Z3,hm,wD,SE⟩;have:l=r:=by omega
   subst this;exact⟨rfl,l,l,rfl,Z3,wD,SE⟩
  case istep =>
   rintro x c dP _ hxk ⟨rfl,l,r,rfl,hlr,Z3,hm,wD,SE⟩;dsimp only
   by_cases qH:l>=r
   ·rw[if_pos qH]
    have:l=r:=by omega
    subst this;exact wpS_pure ⟨rfl,l,l,rfl,Z3,wD,SE⟩
   ·rw[if_neg qH]
    refine wpS_bind (wpS_ltAt hL h0 i6.si hk ⋯ ?_)
    by_cases yG:R ρ (arrOf dP) (lo+k)<R ρ (arrOf dP) (lo+(l+r)/2)
    ·simp only[yG,decide_true,if_true]
     refine wpS_pure ⟨rfl,l,(l+r)/2,rfl,by omega,by omega,by omega,wD,λi h1 h2=>?_⟩
     exact Nat.lt_of_lt_of_le yG (kx _ _ ⋯ ⋯ ⋯)
    ·simp only[yG,decide_false,Bool.false_eq_true,if_false]
     refine wpS_pure ⟨rfl,(l+r)/2+1,r,rfl,by omega,by omega,by omega,λi h1=>?_,SE⟩
     exact Nat.le_trans (kx (lo+i) (lo+(l+r)/2) ⋯ ⋯ ⋯) (Nat.not_lt.mp yG)
  case ipost =>
   rintro c dP ⟨rfl,l,r,rfl,hlk,wD,SE⟩;show wpS _ _ _ _ (do moveDown' (lo+k) (lo+l);pure (ForInStep.yield (none,()))) _ _
   rw[moveDown'_eq];refine wpS_bind (wpS_modify (wpS_pure ⟨rfl,i6.bubble hk ⋯ ⋯,?_⟩))
   rw[show min (k+1) n=k+1 by omega]
   have hks:lo+k<(arrOf dP).size:=by rw[i6.si.size];exact hk
   intro i j hi ku hj;show R ρ (bubble (arrOf dP) (lo+k) (lo+k-(lo+l))) i<=R ρ (bubble (arrOf dP) (lo+k) (lo+k-(lo+l))) j;rw[sY hks ⋯,sY hks ⋯,show lo+k-(lo+k-(lo+l))=lo+l by omega]
   have ZS:∀i,lo<=i->i<lo+l->R ρ (arrOf dP) i<=R ρ (arrOf dP) (lo+k):=λi h1 h2=>by
    have:=wD (i-lo) ⋯;rwa [show lo+(i-lo)=i by omega]at this
   have ZM:∀i,lo+l<=i->i<lo+k->R ρ (arrOf dP) (lo+k)<R ρ (arrOf dP) i:=λi h1 h2=>by
    have:=SE (i-lo) ⋯ ⋯;rwa [show lo+(i-lo)=i by omega]at this
   repeat' split
   all_goals first
    | (exfalso;omega)
    | exact Nat.le_refl _
    | exact ZS _ ⋯ ⋯
    | exact Nat.le_of_lt (ZM _ ⋯ ⋯)
    | exact kx _ _ ⋯ ⋯ ⋯
def cL:Bool->Keyed->Array Keyed->Nat->Nat->Nat->StateT SortSt Sem (Option Nat):=sortPriv% PySem.Builtin.gallop
def fR(left:Bool)(key:Keyed)(arr:Array Keyed)(base i:Nat):StateT SortSt Sem (Option Bool):=do
 let x <- elem' arr (base+i)
 if left then lt' x key else return(<- lt' key x).map (!·)
theorem xi(left:Bool)(key:Keyed)(arr:Array Keyed)(base n hint:Nat):cL left key arr base n hint=(do
 let mut ml:=0
 let mut Bf:=1
 let mut lo:=0
 let mut hi:=0
 let some right <- fR left key arr base hint|return none
 if right then
  let ng:=n-hint
  for _ in [0:n]do
   if Bf>=ng then break
   let some more <- fR left key arr base (hint+Bf)|return none
   if !more then break
   ml:=Bf
   Bf:=2*Bf+1
  lo:=hint+ml+1
  hi:=hint+min Bf ng
 else
  let ng:=hint+1
  for _ in [0:n]do
   if Bf>=ng then break
   let some found <- fR left key arr base (hint-Bf)|return none
   if found then break
   ml:=Bf
   Bf:=2*Bf+1
  lo:=hint+1-min Bf ng
  hi:=hint-ml
 for _ in [0:n]do
  if lo>=hi then break
  let m:=lo+(hi-lo)/2
  let some more <- fR left key arr base m|return none
  if more then lo:=m+1 else hi:=m
 return some hi):=rfl
end
end Vs
namespace Vs
open PySem PyProof.Rows
section
variable {M:Model}{A:Around}{E:Value->Shared->Prop}{s:Shared}{ρ:Keyed->Nat}{kd:SortKind}{P:Keyed->Prop}{a₀:Array Keyed}
def Vd(left:Bool)(key:Keyed)(arr:Array Keyed)(base n l h:Nat):StateT SortSt Sem (Option Nat):=do
 let mut lo:=l
 let mut hi:=h
 for _ in [0:n]do
  if lo>=hi then break
  let m:=lo+(hi-lo)/2
  let some more <- fR left key arr base m|return none
  if more then lo:=m+1 else hi:=m
 return some hi
def Tells(M:Model)(A:Around)(E:Value->Shared->Prop)(s:Shared)(left:Bool)(key:Keyed)(arr:Array Keyed)(base n:Nat)(st:SortSt)(p:Nat->Bool):Prop:=
 ∀i,i<n->∀Q:Option Bool->SortSt->Prop,Q (some (p i)) st->wpS M A E s (fR left key arr base i) Q st
theorem wg{left:Bool}{key:Keyed}{arr:Array Keyed}{base n l h:Nat}{st:SortSt}{p:Nat->Bool}{Q:Option Nat->SortSt->Prop}(hT:Tells M A E s left key arr base n st p)(hp:∀i j,i<=j->j<n->p j=true->p i=true)
  (hlh:l<=h) (hh:h<=n) (h1:∀i,i<l->p i=true) (h2:∀i,h<=i->i<n->p i=false)
  (q:∀k,k<=n->(∀i,i<k->p i=true)->(∀i,k<=i->i<n->p i=false)->Q (some k) st):wpS M A E s (Vd left key arr base n l h) Q st:=by
 unfold Vd;dsimp only;refine wpS_bind (wpS_mono (wpS_forRange (I:=λx c aC=>aC=st/\∃l h,c=(none,l,h)/\l<=h/\h<=n/\h-l<=n-x/\(∀i,i<l->p i=true)/\(∀i,h<=i->i<n->p i=false))
  (Q:=λc aC=>aC=st/\∃k,c=(none,k,k)/\k<=n/\(∀i,i<k->p i=true)/\(∀i,k<=i->i<n->p i=false)) ?step ?fin ⟨rfl,l,h,rfl,hlh,hh,by omega,h1,h2⟩) ?post)
 case post =>
  rintro c aC ⟨rfl,k,rfl,hk,q1,q2⟩;exact wpS_pure (q k hk q1 q2)
 case fin =>
  rintro c aC ⟨rfl,l,h,rfl,a1,a2,a3,a4,a5⟩;have:l=h:=by omega
  subst this;exact⟨rfl,l,rfl,a2,a4,a5⟩
 case step =>
  rintro x c aC _ hx ⟨rfl,l,h,rfl,a1,a2,a3,a4,a5⟩;dsimp only
  by_cases qH:l>=h
  ·rw[if_pos qH]
   have:l=h:=by omega
   subst this;exact wpS_pure ⟨rfl,l,rfl,a2,a4,a5⟩
  ·rw[if_neg qH]
   refine wpS_bind (hT _ ⋯ _ ?_)
   cases hm:p (l+(h-l)/2)with
   | true =>
    simp only[if_true];exact wpS_pure ⟨rfl,_,_,rfl,by omega,a2,by omega,λi hi=>hp i _ ⋯ ⋯ hm,a5⟩
   | false =>
    simp only[Bool.false_eq_true,if_false];refine wpS_pure ⟨rfl,_,_,rfl,by omega,by omega,by omega,a4,λi hi hn=>?_⟩
    cases e:p i with
    | false=>rfl
    | true=>rw[hp _ i hi hn e]at hm;cases hm
theorem dZ{left:Bool}{key:Keyed}{arr:Array Keyed}{base n hint:Nat}{st:SortSt}{p:Nat->Bool}{Q:Option Nat->SortSt->Prop}(hT:Tells M A E s left key arr base n st p)(hp:∀i j,i<=j->j<n->p j=true->p i=true)(hn:hint<n)
  (q:∀k,k<=n->(∀i,i<k->p i=true)->(∀i,k<=i->i<n->p i=false)->Q (some k) st):wpS M A E s (cL left key arr base n hint) Q st:=by
 rw[xi];dsimp only;refine wpS_bind (hT hint hn _ ?_);have pf:∀i j,i<=j->j<n->p i=false->p j=false:=λi j h1 h2 h3=>by
  cases e:p j with
  | false=>rfl
  | true=>rw[hp i j h1 h2 e]at h3;cases h3
 cases h0:p hint with
 | true =>
  dsimp only;rw[if_pos rfl];refine wpS_bind (wpS_mono (wpS_forRange (I:=λx c aC=>aC=st/\∃l o,c=(none,l,o)/\l<o/\x+1<=o/\hint+l<n/\p (hint+l)=true)
   (Q:=λc aC=>aC=st/\∃l o,c=(none,l,o)/\l<o/\hint+l<n/\p (hint+l)=true/\(n-hint<=o\/(hint+o<n/\p (hint+o)=false))) ?step ?fin ⟨rfl,0,1,rfl,by omega,by omega,hn,h0⟩) ?post)
  case fin =>
   rintro c aC ⟨rfl,l,o,rfl,a1,a2,a3,a4⟩;exact⟨rfl,l,o,rfl,a1,a3,a4,.inl ⋯⟩
  case step =>
   rintro x c aC _ hx ⟨rfl,l,o,rfl,a1,a2,a3,a4⟩;dsimp only
   by_cases qH:o>=n-hint
   ·rw[if_pos qH]
    exact wpS_pure ⟨rfl,l,o,rfl,a1,a3,a4,.inl qH⟩
   ·rw[if_neg qH]
    refine wpS_bind (hT _ ⋯ _ ?_)
    cases hm:p (hint+o)with
    | true =>
     simp only[Bool.not_true,Bool.false_eq_true,if_false];exact wpS_pure ⟨rfl,_,_,rfl,by omega,by omega,by omega,hm⟩
    | false =>
     simp only[Bool.not_false,if_true];exact wpS_pure ⟨rfl,_,_,rfl,a1,a3,a4,.inr ⟨by omega,hm⟩⟩
  case post =>
   rintro c aC ⟨rfl,l,o,rfl,a1,a3,a4,a5⟩;refine wg (l:=hint+l+1) (h:=hint+min o (n-hint)) hT hp ⋯ ⋯ (λi hi=>hp i _ ⋯ a3 a4) (λi hi xl=>?_) q
   rcases a5 with a5|⟨a5,a6⟩
   ·omega
   ·exact pf (hint+o) i ⋯ xl a6
 | false =>
  dsimp only;rw[if_neg ∅]
  refine wpS_bind (wpS_mono (wpS_forRange (I:=λx c aC=>aC=st/\∃l o,c=(none,l,o)/\l<o/\x+1<=o/\l<=hint/\p (hint-l)=false)
   (Q:=λc aC=>aC=st/\∃l o,c=(none,l,o)/\l<o/\l<=hint/\p (hint-l)=false/\(hint+1<=o\/(o<=hint/\p (hint-o)=true))) ?step2 ?fin2 ⟨rfl,0,1,rfl,by omega,by omega,by omega,h0⟩) ?post2)
  case fin2 =>
   rintro c aC ⟨rfl,l,o,rfl,a1,a2,a3,a4⟩;exact⟨rfl,l,o,rfl,a1,a3,a4,.inl ⋯⟩
  case step2 =>
   rintro x c aC _ hx ⟨rfl,l,o,rfl,a1,a2,a3,a4⟩;dsimp only
   by_cases qH:o>=hint+1
   ·rw[if_pos qH]
    exact wpS_pure ⟨rfl,l,o,rfl,a1,a3,a4,.inl qH⟩
   ·rw[if_neg qH]
    refine wpS_bind (hT _ ⋯ _ ?_)
    cases hm:p (hint-o)with
    | true =>
     simp only[if_true];exact wpS_pure ⟨rfl,_,_,rfl,a1,a3,a4,.inr ⟨by omega,hm⟩⟩
    | false =>
     simp only[Bool.false_eq_true,if_false];exact wpS_pure ⟨rfl,_,_,rfl,by omega,by omega,by omega,hm⟩
  case post2 =>
   rintro c aC ⟨rfl,l,o,rfl,a1,a3,a4,a5⟩;refine wg (l:=hint+1-min o (hint+1)) (h:=hint-l) hT hp ⋯ ⋯ (λi hi=>?_) (λi hi xl=>pf (hint-l) i hi xl a4) q
   rcases a5 with a5|⟨a5,a6⟩
   ·omega
   ·exact hp i (hint-o) ⋯ ⋯ a6
def oU(ρ:Keyed->Nat)(left:Bool)(key:Keyed)(arr:Array Keyed)(base i:Nat):Bool:=if left=true then decide (R ρ arr (base+i)<ρ key)else !decide (ρ key<R ρ arr (base+i))
theorem tells{left:Bool}{key:Keyed}{arr:Array Keyed}{base n:Nat}{st:SortSt}(hL:gy M A E s ρ kd P)(hk:kindOf st=kd)(pk:P key)(pa:∀i,i<n->∃x,arr[base+i]?=some x/\P x):Tells M A E s left key arr base n st (oU ρ left key arr base):=λi hi Q q=>by
 obtain⟨x,e,px⟩:=pa i hi;unfold fR;refine wpS_bind (bp e ?_);unfold oU at q;rw[dq e]at q;cases left with
 | true =>
  simp only[if_true]at q ⊢;exact hL x key st Q px pk hk q
 | false =>
  simp only[Bool.false_eq_true,if_false]at q ⊢;exact wpS_bind (hL key x st _ pk px hk (wpS_pure q))
end
end Vs
namespace Vs
open PySem PyProof.Rows
def ni:Array Keyed->Array Keyed->StateT SortSt Sem (Array Keyed):=sortPriv% PySem.Builtin.mergeLo
def nh:Array Keyed->Array Keyed->StateT SortSt Sem (Array Keyed):=sortPriv% PySem.Builtin.mergeHi
def fq:Nat->StateT SortSt Sem Unit:=sortPriv% PySem.Builtin.setMinGallop
theorem eU(g:Nat):fq g=modify (λst=>SortSt.mk' (kindOf st) (arrOf st) (pendingOf st) g (failedOf st)):=rfl
def So(ρ:Keyed->Nat)(l:List Keyed):Prop:=l.Pairwise λx y=>ρ x<=ρ y
structure J(ρ:Keyed->Nat)(L O A B:List Keyed):Prop where
 o:So ρ O
 a:So ρ A
 b:So ρ B
 oa:∀x∈O,∀y∈A,ρ x<=ρ y
 ob:∀x∈O,∀y∈B,ρ x<=ρ y
 p:(O++(A++B)).Perm L
def Good(ρ:Keyed->Nat)(L r:List Keyed):Prop:=So ρ r/\r.Perm L
theorem So.app{ρ:Keyed->Nat}{A B:List Keyed}(h1:So ρ A)(h2:So ρ B)(h:∀x∈A,∀y∈B,ρ x<=ρ y):So ρ (A++B):=List.pairwise_append.mpr ⟨h1,h2,h⟩
section
variable {ρ:Keyed->Nat}{L O A B X:List Keyed}{x z:Keyed}
theorem J.jD(j:J ρ L O (X++A) B)(h:∀x∈X,∀y∈B,ρ x<=ρ y):J ρ L (O++X) A B:=by
 obtain⟨a1,a2,a3⟩:=List.pairwise_append.mp j.a;refine⟨j.o.app a1 λx hx y hy=>j.oa x hx y (List.mem_append_left _ hy),a2,j.b,λx hx y hy=>?_,λx hx y hy=>?_,?_⟩
 ·rcases List.mem_append.mp hx with hx|hx
  ·exact j.oa x hx y (List.mem_append_right _ hy)
  ·exact a3 x hx y hy
 ·rcases List.mem_append.mp hx with hx|hx
  ·exact j.ob x hx y hy
  ·exact h x hx y hy
 ·have:=j.p
  simpa [List.append_assoc]using this
theorem J.jE(j:J ρ L O A (X++B))(h:∀x∈X,∀y∈A,ρ x<=ρ y):J ρ L (O++X) A B:=by
 obtain⟨a1,a2,a3⟩:=List.pairwise_append.mp j.b;refine⟨j.o.app a1 λx hx y hy=>j.ob x hx y (List.mem_append_left _ hy),j.a,a2,λx hx y hy=>?_,λx hx y hy=>?_,?_⟩
 ·rcases List.mem_append.mp hx with hx|hx
  ·exact j.oa x hx y hy
  ·exact h x hx y hy
 ·rcases List.mem_append.mp hx with hx|hx
  ·exact j.ob x hx y (List.mem_append_right _ hy)
  ·exact a3 x hx y hy
 ·refine List.Perm.trans ?_ j.p
  rw[List.append_assoc];refine List.Perm.append_left O ?_;rw[<- List.append_assoc,<- List.append_assoc];exact List.Perm.append_right B List.perm_append_comm
theorem J.iK(j:J ρ L O A []):Good ρ L (O++A):=⟨j.o.app j.a j.oa,by simpa using j.p⟩
theorem J.iJ(j:J ρ L O [] B):Good ρ L (O++B):=⟨j.o.app j.b j.ob,by simpa using j.p⟩
theorem J.last(j:J ρ L O [z] B)(h:∀y∈B,ρ y<=ρ z):Good ρ L (O++B++[z]):=by
 refine⟨(j.o.app j.b j.ob).app (List.pairwise_singleton ..) λx hx y hy=>?_,?_⟩
 ·rw[List.mem_singleton.mp hy]
  rcases List.mem_append.mp hx with hx|hx
  ·exact j.oa x hx z (List.mem_singleton.mpr rfl)
  ·exact h x hx
 ·refine List.Perm.trans ?_ j.p
  rw[List.append_assoc];exact List.Perm.append_left O List.perm_append_comm
end
theorem kj{a:Array Keyed}{i:Nat}{x:Keyed}(h:a[i]?=some x):a.toList.drop i=x::a.toList.drop (i+1):=by
 have hi:i<a.toList.length:=by
  have:=(Array.getElem?_eq_some_iff.mp h).1;simpa using this
 rw[List.drop_eq_getElem_cons hi];have:a.toList[i]=x:=by
  have:=(Array.getElem?_eq_some_iff.mp h).2;simpa using this
 rw[this]
theorem lh(a:Array Keyed)(i:Nat):(a.extract i a.size).toList=a.toList.drop i:=by
 rw[Array.toList_extract];show(a.toList.drop i).take (a.size-i)=_;exact List.take_of_length_le (by rw[List.length_drop];exact Nat.le_refl _)
theorem my(a:Array Keyed)(i k:Nat):(a.extract i (i+k)).toList=(a.toList.drop i).take k:=by
 rw[Array.toList_extract];show(a.toList.drop i).take (i+k-i)=_;rw[Nat.add_sub_cancel_left]
theorem v8(a:Array Keyed)(i k:Nat):a.toList.drop i=(a.toList.drop i).take k++a.toList.drop (i+k):=by
 rw[<- List.drop_drop,List.take_append_drop]
theorem nZ{a:Array Keyed}{i:Nat}(h:i=a.size):a.toList.drop i=[]:=by
 subst h;exact List.drop_length
theorem lF{a:Array Keyed}{i k:Nat}{x:Keyed}(h:x∈(a.toList.drop i).take k):∃m,m<k/\i+m<a.size/\a[i+m]?=some x:=by
 obtain⟨m,hm,e⟩:=List.mem_iff_getElem.mp h;rw[List.length_take,List.length_drop]at hm;rw[List.getElem_take,List.getElem_drop]at e;have hs:i+m<a.size:=by have:a.toList.length=a.size:=rfl;omega
 exact⟨m,by omega,hs,by rw[Array.getElem?_eq_getElem hs];exact congrArg some (by simpa using e)⟩
theorem FL{a:Array Keyed}{i:Nat}{x:Keyed}(h:x∈a.toList.drop i):∃m,i<=m/\m<a.size/\a[m]?=some x:=by
 obtain⟨m,hm,e⟩:=List.mem_iff_getElem.mp h;rw[List.length_drop]at hm;rw[List.getElem_drop]at e;have hs:i+m<a.size:=by have:a.toList.length=a.size:=rfl;omega
 exact⟨i+m,by omega,hs,by rw[Array.getElem?_eq_getElem hs];exact congrArg some (by simpa using e)⟩
theorem So.seg{ρ:Keyed->Nat}{a:Array Keyed}(h:So ρ a.toList):Seg ρ a 0 a.size:=λi j _ ku hj=>by
 by_cases e:i=j
 ·subst e;exact Nat.le_refl _
 ·have hi:i<a.size:=by omega
  rw[dq (Array.getElem?_eq_getElem hi),dq (Array.getElem?_eq_getElem hj)];have:=List.pairwise_iff_getElem.mp h i j (by simpa using hi) (by simpa using hj) ⋯
  simpa using this
structure Kp(st aC:SortSt):Prop where
 a:arrOf aC=arrOf st
 k:kindOf aC=kindOf st
 p:pendingOf aC=pendingOf st
 f:failedOf aC=failedOf st
theorem Kp.refl{st:SortSt}:Kp st st:=⟨rfl,rfl,rfl,rfl⟩
theorem Kp.min{st aC:SortSt}(h:Kp st aC)(g:Nat):Kp st (SortSt.mk' (kindOf aC) (arrOf aC) (pendingOf aC) g (failedOf aC)):=⟨h.a,h.k,h.p,h.f⟩
section
variable {M:Model}{A:Around}{E:Value->Shared->Prop}{s:Shared}{ρ:Keyed->Nat}{kd:SortKind}{P:Keyed->Prop}
theorem dR{a:Array Keyed}(pa:∀x∈a.toList,P x){i:Nat}(h:i<a.size):∃x,a[i]?=some x/\P x:=
 ⟨a[i],Array.getElem?_eq_getElem h,pa _ (by simp)⟩
theorem FU{key:Keyed}{arr:Array Keyed}{base:Nat}{st:SortSt}{Q:Option Nat->SortSt->Prop}(hL:gy M A E s ρ kd P)(hk:kindOf st=kd)(pk:P key)(pa:∀x∈arr.toList,P x)(hs:So ρ arr.toList)(hb:base<arr.size)
  (q:∀k,base+k<=arr.size->(∀x∈(arr.toList.drop base).take k,ρ x<=ρ key)->(∀x∈arr.toList.drop (base+k),ρ key<ρ x)->Q (some k) st):wpS M A E s (cL false key arr base (arr.size-base) 0) Q st:=by
 refine dZ (tells hL hk pk λi hi=>dR pa ⋯) (λi j ku hj h=>?_) ⋯ λk qJ h1 h2=>q k ⋯ (λx hx=>?_) λx hx=>?_
 ·have:=hs.seg (base+i) (base+j) (Nat.zero_le _) ⋯ ⋯
  simp only[oU,Bool.false_eq_true,if_false,Bool.not_eq_true',decide_eq_false_iff_not]at h ⊢;omega
 ·obtain⟨m,hm,ji,e⟩:=lF hx
  have:=h1 m hm;simp only[oU,Bool.false_eq_true,if_false,Bool.not_eq_true',decide_eq_false_iff_not,dq e]at this;omega
 ·obtain⟨m,hm,ji,e⟩:=FL hx
  have:=h2 (m-base) ⋯ ⋯
  rw[show base+k=base+k from rfl]at hm
  simp only[oU,Bool.false_eq_true,if_false,show base+(m-base)=m by omega,dq e,Bool.not_eq_false',decide_eq_true_eq]at this
  exact this
theorem FT{key:Keyed}{arr:Array Keyed}{base:Nat}{st:SortSt}{Q:Option Nat->SortSt->Prop}(hL:gy M A E s ρ kd P)(hk:kindOf st=kd)(pk:P key)(pa:∀x∈arr.toList,P x)(hs:So ρ arr.toList)(hb:base<arr.size)
  (q:∀k,base+k<=arr.size->(∀x∈(arr.toList.drop base).take k,ρ x<ρ key)->(∀x∈arr.toList.drop (base+k),ρ key<=ρ x)->Q (some k) st):wpS M A E s (cL true key arr base (arr.size-base) 0) Q st:=by
 refine dZ (tells hL hk pk λi hi=>dR pa ⋯) (λi j ku hj h=>?_) ⋯ λk qJ h1 h2=>q k ⋯ (λx hx=>?_) λx hx=>?_
 ·have:=hs.seg (base+i) (base+j) (Nat.zero_le _) ⋯ ⋯
  simp only[oU,if_true,decide_eq_true_eq]at h ⊢;omega
 ·obtain⟨m,hm,ji,e⟩:=lF hx
  have:=h1 m hm;simp only[oU,if_true,decide_eq_true_eq,dq e]at this;omega
 ·obtain⟨m,hm,ji,e⟩:=FL hx
  have:=h2 (m-base) ⋯ ⋯
  simp only[oU,if_true,show base+(m-base)=m by omega,dq e,decide_eq_false_iff_not]at this
  omega
end
end Vs
namespace Vs
open PySem PyProof.Rows
section
variable {M:Model}{Ar:Around}{E:Value->Shared->Prop}{s:Shared}{ρ:Keyed->Nat}{kd:SortKind}{P:Keyed->Prop}{a b out:Array Keyed}{L:List Keyed}{ia ib:Nat}
abbrev GS:=Option (Array Keyed)×Array Keyed×Nat×Nat×Nat×Nat×Nat
def G8(a b out:Array Keyed)(ia ib g k k1:Nat):StateT SortSt Sem (ForInStep GS):=do
 let y <- elem' a ia
 if(ia+1+1==a.size)=true then pure (ForInStep.done (some (out.push y++b.extract ib b.size++a.extract (ia+1) a.size),out.push y,ia+1,ib,g,k,k1))
 else if(decide (k<7)&&decide (k1<7))=true then pure (ForInStep.done (none,out.push y,ia+1,ib,g,k,k1))
 else pure (ForInStep.yield (none,out.push y,ia+1,ib,g,k,k1))
def G7(a b out:Array Keyed)(ia ib g k bc:Nat):StateT SortSt Sem (ForInStep GS):=do
 let x <- elem' b ib
 if(ib+1==b.size)=true then pure (ForInStep.done (some (out.push x++a.extract ia a.size++b.extract (ib+1) b.size),out.push x,ia,ib+1,g,k,bc))
 else do
  let y <- elem' a ia
  let r <- cL true y b (ib+1) (b.size-(ib+1)) 0
  match r with
  | some k1 =>
   if k1>0 then
    if(ib+1+k1==b.size)=true then pure (ForInStep.done (some (out.push x++b.extract (ib+1) (ib+1+k1)++a.extract ia a.size++b.extract (ib+1+k1) b.size),out.push x++b.extract (ib+1) (ib+1+k1),ia,ib+1+k1,g,k,k1))
    else G8 a b (out.push x++b.extract (ib+1) (ib+1+k1)) ia (ib+1+k1) g k k1
   else G8 a b (out.push x) ia (ib+1) g k k1
  | _=>pure (ForInStep.done (some (out.push x++a.extract ia a.size++b.extract (ib+1) b.size),out.push x,ia,ib+1,g,k,bc))
def G6(a b out:Array Keyed)(ia ib g ac bc:Nat):StateT SortSt Sem (ForInStep GS):=do
 let x <- elem' b ib
 let r <- cL false x a ia (a.size-ia) 0
 match r with
 | some k =>
  if k>0 then
   if(ia+k+1==a.size)=true then pure (ForInStep.done (some (out++a.extract ia (ia+k)++b.extract ib b.size++a.extract (ia+k) a.size),out++a.extract ia (ia+k),ia+k,ib,g,k,bc))
   else if(ia+k==a.size)=true then pure (ForInStep.done (some (out++a.extract ia (ia+k)++a.extract (ia+k) a.size++b.extract ib b.size),out++a.extract ia (ia+k),ia+k,ib,g,k,bc))
   else G7 a b (out++a.extract ia (ia+k)) (ia+k) ib g k bc
  else G7 a b out ia ib g k bc
 | _=>pure (ForInStep.done (some (out++a.extract ia a.size++b.extract ib b.size),out,ia,ib,g,ac,bc))
def V(ρ:Keyed->Nat)(L:List Keyed)(a b out:Array Keyed)(ia ib:Nat):Prop:=J ρ L out.toList (a.toList.drop ia) (b.toList.drop ib)
theorem V.yQ(j:V ρ L a b out ia ib)(e:ia+1=a.size)(hz:∀y∈b.toList,∀z,a[a.size-1]?=some z->ρ y<=ρ z):Good ρ L (out++b.extract ib b.size++a.extract ia a.size).toList:=by
 have ha:ia<a.size:=by omega
 have e1:a.toList.drop ia=[a[ia]]:=by rw[kj (Array.getElem?_eq_getElem ha),nZ e]
 have j':J ρ L out.toList (a.toList.drop ia) (b.toList.drop ib):=j;rw[e1]at j';rw[Array.toList_append,Array.toList_append,lh,lh,e1];refine j'.last λy hy=>hz y (List.mem_of_mem_drop hy) _ ?_;rw[show a.size-1=ia by omega];exact Array.getElem?_eq_getElem ha
theorem V.iK(j:V ρ L a b out ia ib)(e:ib=b.size):Good ρ L (out++a.extract ia a.size++b.extract ib b.size).toList:=by
 have j':J ρ L out.toList (a.toList.drop ia) (b.toList.drop ib):=j;rw[nZ e]at j';rw[Array.toList_append,Array.toList_append,lh,lh,nZ e,List.append_nil];exact j'.iK
theorem V.iJ(j:V ρ L a b out ia ib)(e:ia=a.size):Good ρ L (out++a.extract ia a.size++b.extract ib b.size).toList:=by
 have j':J ρ L out.toList (a.toList.drop ia) (b.toList.drop ib):=j;rw[nZ e]at j';rw[Array.toList_append,Array.toList_append,lh,lh,nZ e,List.append_nil];exact j'.iJ
theorem V.pP{x:Keyed}(j:V ρ L a b out ia ib)(e:a[ia]?=some x)(h:∀y∈b.toList.drop ib,ρ x<=ρ y):V ρ L a b (out.push x) (ia+1) ib:=by
 have j':J ρ L out.toList (a.toList.drop ia) (b.toList.drop ib):=j;rw[kj e]at j';show J ρ L (out.push x).toList _ _;rw[Array.toList_push];exact J.jD (X:=[x]) j' λz hz y hy=>by rw[List.mem_singleton.mp hz];exact h y hy
theorem V.pQ{x:Keyed}(j:V ρ L a b out ia ib)(e:b[ib]?=some x)(h:∀y∈a.toList.drop ia,ρ x<=ρ y):V ρ L a b (out.push x) ia (ib+1):=by
 have j':J ρ L out.toList (a.toList.drop ia) (b.toList.drop ib):=j;rw[kj e]at j';show J ρ L (out.push x).toList _ _;rw[Array.toList_push];exact J.jE (X:=[x]) j' λz hz y hy=>by rw[List.mem_singleton.mp hz];exact h y hy
theorem V.jD{k:Nat}(j:V ρ L a b out ia ib)(h:∀x∈(a.toList.drop ia).take k,∀y∈b.toList.drop ib,ρ x<=ρ y):V ρ L a b (out++a.extract ia (ia+k)) (ia+k) ib:=by
 have j':J ρ L out.toList (a.toList.drop ia) (b.toList.drop ib):=j;rw[v8 a ia k]at j';show J ρ L (out++a.extract ia (ia+k)).toList _ _;rw[Array.toList_append,my];exact J.jD j' h
theorem V.jE{k:Nat}(j:V ρ L a b out ia ib)(h:∀x∈(b.toList.drop ib).take k,∀y∈a.toList.drop ia,ρ x<=ρ y):V ρ L a b (out++b.extract ib (ib+k)) ia (ib+k):=by
 have j':J ρ L out.toList (a.toList.drop ia) (b.toList.drop ib):=j;rw[v8 b ib k]at j';show J ρ L (out++b.extract ib (ib+k)).toList _ _;rw[Array.toList_append,my];exact J.jE j' h
theorem V.JY{x:Keyed}(j:V ρ L a b out ia ib)(e:a[ia]?=some x):∀y∈a.toList.drop ia,ρ x<=ρ y:=λy hy=>by
 have:=j.a;rw[kj e]at this hy;rcases List.mem_cons.mp hy with rfl|hy
 ·exact Nat.le_refl _
 ·exact(List.pairwise_cons.mp this).1 y hy
theorem V.JZ{x:Keyed}(j:V ρ L a b out ia ib)(e:b[ib]?=some x):∀y∈b.toList.drop ib,ρ x<=ρ y:=λy hy=>by
 have:=j.b;rw[kj e]at this hy;rcases List.mem_cons.mp hy with rfl|hy
 ·exact Nat.le_refl _
 ·exact(List.pairwise_cons.mp this).1 y hy
def Left(ρ:Keyed->Nat)(L:List Keyed)(a b:Array Keyed)(t:Nat)(out:Array Keyed)(ia ib:Nat):Prop:=V ρ L a b out ia ib/\ia+1<a.size/\ib<b.size/\t<=ia+ib
def PG(ρ:Keyed->Nat)(L:List Keyed)(a b:Array Keyed)(t:Nat)(cG:SortSt)(r:ForInStep GS)(st:SortSt):Prop:=Kp cG st/\match r with
 | .done c=>(∃arr,c.1=some arr/\Good ρ L arr.toList)\/(c.1=none/\Left ρ L a b t c.2.1 c.2.2.1 c.2.2.2.1)
 | .yield c=>c.1=none/\Left ρ L a b t c.2.1 c.2.2.1 c.2.2.2.1
structure wA(ρ:Keyed->Nat)(P:Keyed->Prop)(a b:Array Keyed):Prop where
 pa:∀x∈a.toList,P x
 pb:∀x∈b.toList,P x
 sa:So ρ a.toList
 sb:So ρ b.toList
 a1:1<=a.size
 b1:1<=b.size
 z:∀y∈b.toList,∀z,a[a.size-1]?=some z->ρ y<=ρ z
 y:∀y∈a.toList,∀z,b[0]?=some z->ρ z<=ρ y
theorem wq{st cG:SortSt}{g k k1 t:Nat}(T:wA ρ P a b)(hK:Kp cG st)(j:V ρ L a b out ia ib)(h1:ia+1<a.size)(h2:ib<b.size)(ht:t<=ia+ib)
  (h:∀x,a[ia]?=some x->∀y∈b.toList.drop ib,ρ x<=ρ y):wpS M Ar E s (G8 a b out ia ib g k k1) (PG ρ L a b t cG) st:=by
 unfold G8;obtain⟨y,ey,py⟩:=dR T.pa (show ia<a.size by omega)
 refine wpS_bind (bp ey ?_);have j':=j.pP ey (h y ey)
 by_cases e:ia+1+1=a.size
 ·rw[if_pos (by simpa using e)]
  exact wpS_pure ⟨hK,.inl ⟨_,rfl,j'.yQ e T.z⟩⟩
 ·rw[if_neg (by simpa using e)]
  split
  ·exact wpS_pure ⟨hK,.inr ⟨rfl,j',by show ia+1+1<a.size;omega,h2,by show t<=ia+1+ib;omega⟩⟩
  ·exact wpS_pure ⟨hK,rfl,j',by show ia+1+1<a.size;omega,h2,by show t<=ia+1+ib;omega⟩
theorem wo{st cG:SortSt}{g k bc t:Nat}(hL:gy M Ar E s ρ kd P)(hk:kindOf cG=kd)(T:wA ρ P a b)(hK:Kp cG st)(j:V ρ L a b out ia ib)(h1:ia+1<a.size)(h2:ib<b.size)(ht:t<=ia+ib)
  (h:∀x,b[ib]?=some x->∀y∈a.toList.drop ia,ρ x<=ρ y):wpS M Ar E s (G7 a b out ia ib g k bc) (PG ρ L a b t cG) st:=by
 unfold G7;obtain⟨x,ex,px⟩:=dR T.pb h2;obtain⟨y,ey,py⟩:=dR T.pa (show ia<a.size by omega)
 refine wpS_bind (bp ex ?_);have j':=j.pQ ex (h x ex)
 by_cases e:ib+1=b.size
 ·rw[if_pos (by simpa using e)]
  exact wpS_pure ⟨hK,.inl ⟨_,rfl,j'.iK e⟩⟩
 ·rw[if_neg (by simpa using e)]
  refine wpS_bind (bp ey ?_);refine wpS_bind (FT hL (hK.k.trans hk) py T.pb T.sb ⋯ λk1 qJ q1 q2=>?_)
  dsimp only;have j2:=j'.jE (k:=k1) λx hx z hz=>Nat.le_trans (Nat.le_of_lt (q1 x hx)) (j'.JY ey z hz)
  by_cases yF:k1>0
  ·rw[if_pos yF]
   by_cases e2:ib+1+k1=b.size
   ·rw[if_pos (by simpa using e2)]
    exact wpS_pure ⟨hK,.inl ⟨_,rfl,j2.iK e2⟩⟩
   ·rw[if_neg (by simpa using e2)]
    exact wq T hK j2 h1 ⋯ ⋯ λx' kr z hz=>by rw[ey]at kr;cases kr;exact q2 z hz
  ·rw[if_neg yF]
   have:k1=0:=by omega
   subst this;exact wq T hK j' h1 ⋯ ⋯ λx' kr z hz=>by rw[ey]at kr;cases kr;exact q2 z hz
theorem wm{st cG:SortSt}{g ac bc t:Nat}(hL:gy M Ar E s ρ kd P)(hk:kindOf cG=kd)(T:wA ρ P a b)(hK:Kp cG st)(j:Left ρ L a b t out ia ib):wpS M Ar E s (G6 a b out ia ib g ac bc) (PG ρ L a b t cG) st:=by
 obtain⟨j,h1,h2,ht⟩:=j;unfold G6;obtain⟨x,ex,px⟩:=dR T.pb h2;refine wpS_bind (bp ex ?_);refine wpS_bind (FU hL (hK.k.trans hk) px T.pa T.sa ⋯ λk qJ q1 q2=>?_)
 dsimp only;have j2:=j.jD (k:=k) λz hz y hy=>Nat.le_trans (q1 z hz) (j.JZ ex y hy)
 by_cases yF:k>0
 ·rw[if_pos yF]
  by_cases e:ia+k+1=a.size
  ·rw[if_pos (by simpa using e)]
   exact wpS_pure ⟨hK,.inl ⟨_,rfl,j2.yQ e T.z⟩⟩
  ·rw[if_neg (by simpa using e)]
   by_cases e2:ia+k=a.size
   ·rw[if_pos (by simpa using e2)]
    exact wpS_pure ⟨hK,.inl ⟨_,rfl,j2.iJ e2⟩⟩
   ·rw[if_neg (by simpa using e2)]
    exact wo hL hk T hK j2 ⋯ h2 ⋯ λx' kr z hz=>by rw[ex]at kr;cases kr;exact Nat.le_of_lt (q2 z hz)
 ·rw[if_neg yF]
  have:k=0:=by omega
  subst this;exact wo hL hk T hK j h1 h2 ht λx' kr z hz=>by rw[ex]at kr;cases kr;exact Nat.le_of_lt (q2 z hz)
abbrev IS:=Option (Array Keyed)×Array Keyed×Nat×Nat×Nat×Nat
abbrev OS:=Option (Array Keyed)×Array Keyed×Nat×Nat×Nat
def loI(a b:Array Keyed)(g:Nat)(c:IS):StateT SortSt Sem (ForInStep IS):=do
 let x <- elem' b c.2.2.2.1
 let y <- elem' a c.2.2.1
 let r <- lt' x y
 match r with
 | some w =>
  if w=true then do
   let x <- elem' b c.2.2.2.1
   if(c.2.2.2.1+1==b.size)=true then pure (ForInStep.done (some (c.2.1.push x++a.extract c.2.2.1 a.size++b.extract (c.2.2.2.1+1) b.size),c.2.1.push x,c.2.2.1,c.2.2.2.1+1,0,c.2.2.2.2.2+1))
   else if c.2.2.2.2.2+1>=g then pure (ForInStep.done (none,c.2.1.push x,c.2.2.1,c.2.2.2.1+1,0,c.2.2.2.2.2+1))
   else pure (ForInStep.yield (none,c.2.1.push x,c.2.2.1,c.2.2.2.1+1,0,c.2.2.2.2.2+1))
  else do
   let y <- elem' a c.2.2.1
   if(c.2.2.1+1+1==a.size)=true then pure (ForInStep.done (some (c.2.1.push y++b.extract c.2.2.2.1 b.size++a.extract (c.2.2.1+1) a.size),c.2.1.push y,c.2.2.1+1,c.2.2.2.1,c.2.2.2.2.1+1,0))
   else if c.2.2.2.2.1+1>=g then pure (ForInStep.done (none,c.2.1.push y,c.2.2.1+1,c.2.2.2.1,c.2.2.2.2.1+1,0))
   else pure (ForInStep.yield (none,c.2.1.push y,c.2.2.1+1,c.2.2.2.1,c.2.2.2.2.1+1,0))
 | _=>pure (ForInStep.done (some (c.2.1++a.extract c.2.2.1 a.size++b.extract c.2.2.2.1 b.size),c.2.1,c.2.2.1,c.2.2.2.1,c.2.2.2.2.1,c.2.2.2.2.2))
def loG(a b:Array Keyed)(c:GS):StateT SortSt Sem (ForInStep GS):=
 if c.2.2.2.2.1>1 then do
  fq (c.2.2.2.2.1-1)
  G6 a b c.2.1 c.2.2.1 c.2.2.2.1 (c.2.2.2.2.1-1) c.2.2.2.2.2.1 c.2.2.2.2.2.2
 else do
  fq c.2.2.2.2.1
  G6 a b c.2.1 c.2.2.1 c.2.2.2.1 c.2.2.2.2.1 c.2.2.2.2.2.1 c.2.2.2.2.2.2
def loE(r:GS):StateT SortSt Sem (ForInStep OS):=
 match r.1 with
 | some arr=>pure (ForInStep.done (some arr,r.2.1,r.2.2.1,r.2.2.2.1,r.2.2.2.2.1))
 | none=>do
  fq (r.2.2.2.2.1+1)
  pure (ForInStep.yield (none,r.2.1,r.2.2.1,r.2.2.2.1,r.2.2.2.2.1+1))
def loN(a b:Array Keyed)(g:Nat)(r:IS):StateT SortSt Sem (ForInStep OS):=
 match r.1 with
 | some arr=>pure (ForInStep.done (some arr,r.2.1,r.2.2.1,r.2.2.2.1,g))
 | none=>do
  liftM (rule "list.sort.gallop")
  let r2 <- forIn [0:a.size+b.size] ((none,r.2.1,r.2.2.1,r.2.2.2.1,g+1,r.2.2.2.2.1,r.2.2.2.2.2):GS) λ_ t=>loG a b t
  loE r2
def loO(a b:Array Keyed)(c:OS):StateT SortSt Sem (ForInStep OS):=do
 let r <- forIn [0:a.size+b.size] ((none,c.2.1,c.2.2.1,c.2.2.2.1,0,0):IS) λ_ r=>loI a b c.2.2.2.2 r
 loN a b c.2.2.2.2 r
def loZ(r:OS):StateT SortSt Sem (Array Keyed):=
 match r.1 with
 | some arr=>pure arr
 | none=>unsupported "internal:list.sort.merge-bound"
theorem qW(a b:Array Keyed):ni a b=(do
 liftM (rule "list.sort.merge-lo")
 let x <- elem' b 0
 if(1==b.size)=true then pure (#[x]++a.extract 0 a.size++b.extract 1 b.size)
 else if(0+1==a.size)=true then pure (#[x]++b.extract 1 b.size++a.extract 0 a.size)
 else do
  let st <- get
  let r <- forIn [0:a.size+b.size] ((none,#[x],0,1,gallopOf st):OS) λ_ r=>loO a b r
  loZ r):=by kernel_rfl
theorem Jf{cG st:SortSt}{g n m:Nat}{c:IS}(hL:gy M Ar E s ρ kd P)(hk:kindOf cG=kd)(T:wA ρ P a b)(hK:Kp cG st)(j:Left ρ L a b (n+1+min m 1) c.2.1 c.2.2.1 c.2.2.2.1):
  wpS M Ar E s (loI a b g c) (λr aC=>Kp cG aC/\match r with
   | .done c=>(∃arr,c.1=some arr/\Good ρ L arr.toList)\/(c.1=none/\Left ρ L a b (n+1+1) c.2.1 c.2.2.1 c.2.2.2.1)
   | .yield c=>c.1=none/\Left ρ L a b (n+1+min (m+1) 1) c.2.1 c.2.2.1 c.2.2.2.1) st:=by
 obtain⟨ret,out,ia,ib,ac,bc⟩:=c;obtain⟨j,l1,l2,l3⟩:=j;dsimp only at j l1 l2 l3;unfold loI;dsimp only;obtain⟨x,ex,px⟩:=dR T.pb l2;obtain⟨y,ey,py⟩:=dR T.pa (show ia<a.size by omega)
 refine wpS_bind (bp ex (wpS_bind (bp ey (wpS_bind (hL x y st _ px py (hK.k.trans hk) ?_)))))
 by_cases eX:ρ x<ρ y
 ·rw[decide_eq_true eX]
  refine wpS_bind (bp ex ?_);have j':=j.pQ ex λz hz=>Nat.le_trans (Nat.le_of_lt eX) (j.JY ey z hz)
  by_cases e:ib+1=b.size
  ·rw[if_pos (by simpa using e)]
   exact wpS_pure ⟨hK,.inl ⟨_,rfl,j'.iK e⟩⟩
  ·rw[if_neg (by simpa using e)]
   split
   ·exact wpS_pure ⟨hK,.inr ⟨rfl,j',by show ia+1<a.size;omega,by show ib+1<b.size;omega,by show n+1+1<=ia+(ib+1);omega⟩⟩
   ·exact wpS_pure ⟨hK,rfl,j',by show ia+1<a.size;omega,by show ib+1<b.size;omega,by show n+1+min (m+1) 1<=ia+(ib+1);omega⟩
 ·rw[decide_eq_false eX]
  refine wpS_bind (bp ey ?_);have j':=j.pP ey λz hz=>Nat.le_trans (Nat.not_lt.mp eX) (j.JZ ex z hz)
  by_cases e:ia+1+1=a.size
  ·rw[if_pos (by simpa using e)]
   exact wpS_pure ⟨hK,.inl ⟨_,rfl,j'.yQ e T.z⟩⟩
  ·rw[if_neg (by simpa using e)]
   split
   ·exact wpS_pure ⟨hK,.inr ⟨rfl,j',by show ia+1+1<a.size;omega,by show ib<b.size;omega,by show n+1+1<=ia+1+ib;omega⟩⟩
   ·exact wpS_pure ⟨hK,rfl,j',by show ia+1+1<a.size;omega,by show ib<b.size;omega,by show n+1+min (m+1) 1<=ia+1+ib;omega⟩
theorem Je{cG st:SortSt}{t:Nat}{c:GS}(hL:gy M Ar E s ρ kd P)(hk:kindOf cG=kd)(T:wA ρ P a b)(hK:Kp cG st)(j:Left ρ L a b t c.2.1 c.2.2.1 c.2.2.2.1):wpS M Ar E s (loG a b c) (PG ρ L a b t cG) st:=by
 unfold loG
 split
 ·rw[eU]
  exact wpS_bind (wpS_modify (wm hL hk T (hK.min _) j))
 ·rw[eU]
  exact wpS_bind (wpS_modify (wm hL hk T (hK.min _) j))
def PO(ρ:Keyed->Nat)(L:List Keyed)(a b:Array Keyed)(t:Nat)(cG:SortSt)(r:ForInStep OS)(st:SortSt):Prop:=match r with
 | .done c=>Kp cG st/\∃arr,c.1=some arr/\Good ρ L arr.toList
 | .yield c=>Kp cG st/\c.1=none/\Left ρ L a b t c.2.1 c.2.2.1 c.2.2.2.1
theorem Jg{cG st:SortSt}{g n:Nat}{r:IS}(hL:gy M Ar E s ρ kd P)(hk:kindOf cG=kd)(T:wA ρ P a b)(hK:Kp cG st)
  (h:(∃arr,r.1=some arr/\Good ρ L arr.toList)\/(r.1=none/\Left ρ L a b (n+1+1) r.2.1 r.2.2.1 r.2.2.2.1)):wpS M Ar E s (loN a b g r) (PO ρ L a b (n+1+1) cG) st:=by
 obtain⟨ret,r⟩:=r;unfold loN;rcases h with⟨arr,h1,h2⟩|⟨h1,hl⟩
 ·dsimp only at h1
  subst h1;exact wpS_pure ⟨hK,arr,rfl,h2⟩
 ·dsimp only at h1 hl
  subst h1;refine wpS_bind (wpS_lift (wpAny_rule ⟨rfl,?_⟩));refine wpS_bind (wpS_mono (wpS_forRange (I:=λx c aC=>Kp cG aC/\c.1=none/\Left ρ L a b (n+1+1) c.2.1 c.2.2.1 c.2.2.2.1)
   (Q:=λc aC=>Kp cG aC/\((∃arr,c.1=some arr/\Good ρ L arr.toList)\/(c.1=none/\Left ρ L a b (n+1+1) c.2.1 c.2.2.1 c.2.2.2.1))) ?gstep ?gfin ⟨hK,rfl,hl⟩) ?gpost)
  case gfin =>
   rintro c aC ⟨hK,h1,hl⟩;exact⟨hK,.inr ⟨h1,hl⟩⟩
  case gstep =>
   rintro m c aC _ hm ⟨hK,h1,hl⟩;refine wpS_mono (Je hL hk T hK hl) λr dP hr=>?_;obtain⟨k1,k2⟩:=hr;cases r with
   | done c=>exact⟨k1,k2⟩
   | yield c=>exact⟨k1,k2⟩
  case gpost =>
   rintro⟨ret,r⟩ aC ⟨hK,⟨arr,h1,h2⟩|⟨h1,hl⟩⟩
   ·dsimp only at h1
    subst h1;exact wpS_pure ⟨hK,arr,rfl,h2⟩
   ·dsimp only at h1 hl
    subst h1;unfold loE;rw[eU];exact wpS_bind (wpS_modify (wpS_pure ⟨hK.min _,rfl,hl⟩))
theorem Jh{cG st:SortSt}{n:Nat}{c:OS}(hL:gy M Ar E s ρ kd P)(hk:kindOf cG=kd)(T:wA ρ P a b)(hn:0<a.size+b.size)(hK:Kp cG st)(hl:Left ρ L a b (n+1) c.2.1 c.2.2.1 c.2.2.2.1):wpS M Ar E s (loO a b c) (PO ρ L a b (n+1+1) cG) st:=by
 unfold loO;refine wpS_bind (wpS_mono (wpS_forRange (I:=λx c aC=>Kp cG aC/\c.1=none/\Left ρ L a b (n+1+min x 1) c.2.1 c.2.2.1 c.2.2.2.1)
  (Q:=λc aC=>Kp cG aC/\((∃arr,c.1=some arr/\Good ρ L arr.toList)\/(c.1=none/\Left ρ L a b (n+1+1) c.2.1 c.2.2.1 c.2.2.2.1))) ?istep ?ifin ⟨hK,rfl,by simpa using hl⟩) ?ipost)
 case ifin =>
  rintro c aC ⟨hK,h1,hl⟩;rw[show min (max 0 (a.size+b.size)) 1=1 by omega]at hl
  exact⟨hK,.inr ⟨h1,hl⟩⟩
 case istep =>
  rintro m c aC _ hm ⟨hK,h1,hl⟩;refine wpS_mono (Jf hL hk T hK hl) λr dP hr=>?_;obtain⟨k1,k2⟩:=hr;cases r with
  | done c=>exact⟨k1,k2⟩
  | yield c=>exact⟨k1,k2⟩
 case ipost =>
  rintro r aC ⟨hK,h⟩;exact Jg hL hk T hK h
theorem wu{st:SortSt}{Q:Array Keyed->SortSt->Prop}(hL:gy M Ar E s ρ kd P)(hk:kindOf st=kd)(T:wA ρ P a b)
  (q:∀r aC,Kp st aC->Good ρ (a.toList++b.toList) r.toList->Q r aC):wpS M Ar E s (ni a b) Q st:=by
 rw[qW];refine wpS_bind (wpS_lift (wpAny_rule ⟨rfl,?_⟩));obtain⟨x,ex,px⟩:=dR T.pb (show 0<b.size from T.b1)
 refine wpS_bind (bp ex ?_);have j0:V ρ (a.toList++b.toList) a b #[] 0 0:=⟨List.Pairwise.nil,by simpa using T.sa,by simpa using T.sb,(λx hx=>by cases hx),(λx hx=>by cases hx),by simp⟩
 have j1:V ρ (a.toList++b.toList) a b #[x] 0 1:=by simpa using j0.pQ ex λy hy=>T.y y (by simpa using hy) x ex
 by_cases e:1=b.size
 ·rw[if_pos (by simpa using e)]
  exact wpS_pure (q _ st .refl (j1.iK e))
 ·rw[if_neg (by simpa using e)]
  by_cases e2:0+1=a.size
  ·rw[if_pos (by simpa using e2)]
   exact wpS_pure (q _ st .refl (j1.yQ e2 T.z))
  ·rw[if_neg (by simpa using e2)]
   have b1:=T.b1;have a1:=T.a1;refine wpS_bind (wpS_get ?_);refine wpS_bind (wpS_mono (wpS_forRange (I:=λx c aC=>Kp st aC/\c.1=none/\Left ρ (a.toList++b.toList) a b (x+1) c.2.1 c.2.2.1 c.2.2.2.1)
    (Q:=λc aC=>Kp st aC/\∃arr,c.1=some arr/\Good ρ (a.toList++b.toList) arr.toList) ?step ?fin ⟨.refl,rfl,j1,by show 0+1<a.size;omega,by show 1<b.size;omega,by show 0+1<=0+1;omega⟩) ?post)
   case fin =>
    rintro⟨ret,out,ia,ib,g⟩ aC ⟨hK,h1,j,h2,h3,h4⟩;dsimp only at h2 h3 h4;omega
   case post =>
    rintro⟨ret,r⟩ aC ⟨hK,arr,h1,h2⟩;dsimp only at h1;subst h1;exact wpS_pure (q arr aC hK h2)
   case step =>
    rintro n c aC _ hn ⟨hK,h1,hl⟩;refine wpS_mono (Jh hL hk T ⋯ hK hl) λr dP hr=>?_
    cases r with
    | done c=>exact hr
    | yield c=>exact hr
end
end Vs
namespace Vs
open PySem PyProof.Rows
structure H(ρ:Keyed->Nat)(L O A B:List Keyed):Prop where
 o:So ρ O
 a:So ρ A
 b:So ρ B
 oa:∀x∈A,∀y∈O,ρ x<=ρ y
 ob:∀x∈B,∀y∈O,ρ x<=ρ y
 p:(A++(B++O)).Perm L
section
variable {ρ:Keyed->Nat}{L O A B X:List Keyed}{x z:Keyed}
theorem H.jE(j:H ρ L O A (B++X))(h:∀x∈X,∀y∈A,ρ y<=ρ x):H ρ L (X++O) A B:=by
 obtain⟨a1,a2,a3⟩:=List.pairwise_append.mp j.b;refine⟨So.app a2 j.o λx hx y hy=>j.ob x (List.mem_append_right _ hx) y hy,j.a,a1,λx hx y hy=>?_,λx hx y hy=>?_,?_⟩
 ·rcases List.mem_append.mp hy with hy|hy
  ·exact h y hy x hx
  ·exact j.oa x hx y hy
 ·rcases List.mem_append.mp hy with hy|hy
  ·exact a3 x hx y hy
  ·exact j.ob x (List.mem_append_left _ hx) y hy
 ·have:=j.p
  simpa [List.append_assoc]using this
theorem H.jD(j:H ρ L O (A++X) B)(h:∀x∈X,∀y∈B,ρ y<=ρ x):H ρ L (X++O) A B:=by
 obtain⟨a1,a2,a3⟩:=List.pairwise_append.mp j.a;refine⟨So.app a2 j.o λx hx y hy=>j.oa x (List.mem_append_right _ hx) y hy,a1,j.b,λx hx y hy=>?_,λx hx y hy=>?_,?_⟩
 ·rcases List.mem_append.mp hy with hy|hy
  ·exact a3 x hx y hy
  ·exact j.oa x (List.mem_append_left _ hx) y hy
 ·rcases List.mem_append.mp hy with hy|hy
  ·exact h y hy x hx
  ·exact j.ob x hx y hy
 ·refine List.Perm.trans ?_ j.p
  rw[List.append_assoc];refine List.Perm.append_left A ?_;rw[<- List.append_assoc,<- List.append_assoc];exact List.Perm.append_right O List.perm_append_comm
theorem H.iK(j:H ρ L O A []):Good ρ L (A++O):=⟨So.app j.a j.o j.oa,by simpa using j.p⟩
theorem H.iJ(j:H ρ L O [] B):Good ρ L (B++O):=⟨So.app j.b j.o j.ob,by simpa using j.p⟩
theorem H.first(j:H ρ L O A [z])(h:∀y∈A,ρ z<=ρ y):Good ρ L ([z]++A++O):=by
 refine⟨So.app (So.app (List.pairwise_singleton ..) j.a λx hx y hy=>by rw[List.mem_singleton.mp hx];exact h y hy) j.o λx hx y hy=>?_,?_⟩
 ·rcases List.mem_append.mp hx with hx|hx
  ·exact j.ob x hx y hy
  ·exact j.oa x hx y hy
 ·refine List.Perm.trans ?_ j.p
  rw[<- List.append_assoc];exact List.Perm.append_right O List.perm_append_comm
end
theorem ki{a:Array Keyed}{n:Nat}{x:Keyed}(h1:1<=n)(h:a[n-1]?=some x):a.toList.take n=a.toList.take (n-1)++[x]:=by
 obtain⟨m,rfl⟩:∃m,n=m+1:=⟨n-1,by omega⟩
 rw[Nat.add_sub_cancel]at h ⊢;rw[List.take_add_one];have:a.toList[m]?=some x:=by simpa using h
 rw[this];rfl
theorem lg(a:Array Keyed)(n:Nat):(a.extract 0 n).toList=a.toList.take n:=by
 rw[Array.toList_extract];rfl
theorem mx(a:Array Keyed)(i n:Nat):(a.extract i n).toList=(a.toList.take n).drop i:=by
 rw[Array.toList_extract];show(a.toList.drop i).take (n-i)=_;rw[List.drop_take]
theorem v7(a:Array Keyed){i n:Nat}(h:i<=n):a.toList.take n=a.toList.take i++(a.toList.take n).drop i:=by
 have:=(List.take_append_drop i (a.toList.take n)).symm
 rwa [List.take_take,Nat.min_eq_left h]at this
theorem FK{a:Array Keyed}{n:Nat}{x:Keyed}(h:x∈a.toList.take n):∃m,m<n/\m<a.size/\a[m]?=some x:=by
 obtain⟨m,hm,e⟩:=List.mem_iff_getElem.mp h;rw[List.length_take]at hm;rw[List.getElem_take]at e;have hs:m<a.size:=by have:a.toList.length=a.size:=rfl;omega
 exact⟨m,by omega,hs,by rw[Array.getElem?_eq_getElem hs];exact congrArg some (by simpa using e)⟩
theorem gW{a:Array Keyed}{i n:Nat}{x:Keyed}(h:x∈(a.toList.take n).drop i):∃m,i<=m/\m<n/\m<a.size/\a[m]?=some x:=by
 obtain⟨m,hm,e⟩:=List.mem_iff_getElem.mp h;rw[List.length_drop,List.length_take]at hm;rw[List.getElem_drop,List.getElem_take]at e;have hs:i+m<a.size:=by have:a.toList.length=a.size:=rfl;omega
 exact⟨i+m,by omega,by omega,hs,by rw[Array.getElem?_eq_getElem hs];exact congrArg some (by simpa using e)⟩
section
variable {M:Model}{Ar:Around}{E:Value->Shared->Prop}{s:Shared}{ρ:Keyed->Nat}{kd:SortKind}{P:Keyed->Prop}{a b out:Array Keyed}{L:List Keyed}{na nb:Nat}
theorem FW{key:Keyed}{arr:Array Keyed}{n:Nat}{st:SortSt}{Q:Option Nat->SortSt->Prop}(hL:gy M Ar E s ρ kd P)(hk:kindOf st=kd)(pk:P key)(pa:∀x∈arr.toList,P x)(hs:So ρ arr.toList)(hn:n<=arr.size)(h1:1<=n)
  (q:∀k,k<=n->(∀x∈arr.toList.take k,ρ x<=ρ key)->(∀x∈(arr.toList.take n).drop k,ρ key<ρ x)->Q (some k) st):wpS M Ar E s (cL false key arr 0 n (n-1)) Q st:=by
 refine dZ (tells hL hk pk λi hi=>dR pa ⋯) (λi j ku hj h=>?_) ⋯ λk qJ h1 h2=>q k ⋯ (λx hx=>?_) λx hx=>?_
 ·have:=hs.seg (0+i) (0+j) (Nat.zero_le _) ⋯ ⋯
  simp only[oU,Bool.false_eq_true,if_false,Bool.not_eq_true',decide_eq_false_iff_not]at h ⊢;omega
 ·obtain⟨m,hm,ji,e⟩:=FK hx
  have:=h1 m hm;simp only[oU,Bool.false_eq_true,if_false,Bool.not_eq_true',decide_eq_false_iff_not,Nat.zero_add,dq e]at this;omega
 ·obtain⟨m,hm,ji,hm3,e⟩:=gW hx
  have:=h2 m hm ji;simp only[oU,Bool.false_eq_true,if_false,Nat.zero_add,dq e,Bool.not_eq_false',decide_eq_true_eq]at this;exact this
theorem FV{key:Keyed}{arr:Array Keyed}{n:Nat}{st:SortSt}{Q:Option Nat->SortSt->Prop}(hL:gy M Ar E s ρ kd P)(hk:kindOf st=kd)(pk:P key)(pa:∀x∈arr.toList,P x)(hs:So ρ arr.toList)(hn:n<=arr.size)(h1:1<=n)
  (q:∀k,k<=n->(∀x∈arr.toList.take k,ρ x<ρ key)->(∀x∈(arr.toList.take n).drop k,ρ key<=ρ x)->Q (some k) st):wpS M Ar E s (cL true key arr 0 n (n-1)) Q st:=by
 refine dZ (tells hL hk pk λi hi=>dR pa ⋯) (λi j ku hj h=>?_) ⋯ λk qJ h1 h2=>q k ⋯ (λx hx=>?_) λx hx=>?_
 ·have:=hs.seg (0+i) (0+j) (Nat.zero_le _) ⋯ ⋯
  simp only[oU,if_true,decide_eq_true_eq]at h ⊢;omega
 ·obtain⟨m,hm,ji,e⟩:=FK hx
  have:=h1 m hm;simp only[oU,if_true,decide_eq_true_eq,Nat.zero_add,dq e]at this;omega
 ·obtain⟨m,hm,ji,hm3,e⟩:=gW hx
  have:=h2 m hm ji;simp only[oU,if_true,Nat.zero_add,dq e,decide_eq_false_iff_not]at this;omega
abbrev HS:=Option (Array Keyed)×Nat×Nat×Array Keyed×Nat×Nat×Nat
def G5(a b out:Array Keyed)(na nb g k k1:Nat):StateT SortSt Sem (ForInStep HS):=do
 let y <- elem' a (na-1)
 if(na-1==0)=true then pure (ForInStep.done (some (a.extract 0 (na-1)++b.extract 0 nb++(out.push y).reverse),na-1,nb,out.push y,g,k,k1))
 else if(decide (k<7)&&decide (k1<7))=true then pure (ForInStep.done (none,na-1,nb,out.push y,g,k,k1))
 else pure (ForInStep.yield (none,na-1,nb,out.push y,g,k,k1))
def G4(a b out:Array Keyed)(na nb g k bc:Nat):StateT SortSt Sem (ForInStep HS):=do
 let x <- elem' b (nb-1)
 if(nb-1==1)=true then pure (ForInStep.done (some (b.extract 0 (nb-1)++a.extract 0 na++(out.push x).reverse),na,nb-1,out.push x,g,k,bc))
 else do
  let y <- elem' a (na-1)
  let r <- cL true y b 0 (nb-1) (nb-1-1)
  match r with
  | some at2 =>
   if nb-1-at2>0 then
    if(at2==1)=true then pure (ForInStep.done (some (b.extract 0 at2++a.extract 0 na++(out.push x++(b.extract at2 (nb-1)).reverse).reverse),na,at2,out.push x++(b.extract at2 (nb-1)).reverse,g,k,nb-1-at2))
    else if(at2==0)=true then pure (ForInStep.done (some (a.extract 0 na++b.extract 0 at2++(out.push x++(b.extract at2 (nb-1)).reverse).reverse),na,at2,out.push x++(b.extract at2 (nb-1)).reverse,g,k,nb-1-at2))
    else G5 a b (out.push x++(b.extract at2 (nb-1)).reverse) na at2 g k (nb-1-at2)
   else G5 a b (out.push x) na (nb-1) g k (nb-1-at2)
  | _=>pure (ForInStep.done (some (a.extract 0 na++b.extract 0 (nb-1)++(out.push x).reverse),na,nb-1,out.push x,g,k,bc))
def Df(a b out:Array Keyed)(na nb g ac bc:Nat):StateT SortSt Sem (ForInStep HS):=do
 let x <- elem' b (nb-1)
 let r <- cL false x a 0 na (na-1)
 match r with
 | some wU =>
  if na-wU>0 then
   if(wU==0)=true then pure (ForInStep.done (some (a.extract 0 wU++b.extract 0 nb++(out++(a.extract wU na).reverse).reverse),wU,nb,out++(a.extract wU na).reverse,g,na-wU,bc))
   else G4 a b (out++(a.extract wU na).reverse) wU nb g (na-wU) bc
  else G4 a b out na nb g (na-wU) bc
 | _=>pure (ForInStep.done (some (a.extract 0 na++b.extract 0 nb++out.reverse),na,nb,out,g,ac,bc))
def W(ρ:Keyed->Nat)(L:List Keyed)(a b out:Array Keyed)(na nb:Nat):Prop:=H ρ L out.toList.reverse (a.toList.take na) (b.toList.take nb)
theorem W.qC(j:W ρ L a b out na nb)(e:nb=1)(hb:1<=b.size)(hz:∀y∈a.toList,∀z,b[0]?=some z->ρ z<=ρ y):Good ρ L (b.extract 0 nb++a.extract 0 na++out.reverse).toList:=by
 subst e;have eb:b[0]?=some b[0]:=Array.getElem?_eq_getElem hb;have e1:b.toList.take 1=[b[0]]:=by rw[ki (Nat.le_refl 1) eb];rfl
 have j':H ρ L out.toList.reverse (a.toList.take na) (b.toList.take 1):=j;rw[e1]at j';rw[Array.toList_append,Array.toList_append,lg,lg,e1,Array.toList_reverse];exact j'.first λy hy=>hz y (List.mem_of_mem_take hy) _ eb
theorem W.iJ(j:W ρ L a b out na nb)(e:na=0):Good ρ L (a.extract 0 na++b.extract 0 nb++out.reverse).toList:=by
 subst e;have j':H ρ L out.toList.reverse [] (b.toList.take nb):=j;rw[Array.toList_append,Array.toList_append,lg,lg,Array.toList_reverse];exact j'.iJ
theorem W.iK(j:W ρ L a b out na nb)(e:nb=0):Good ρ L (a.extract 0 na++b.extract 0 nb++out.reverse).toList:=by
 subst e;have j':H ρ L out.toList.reverse (a.toList.take na) []:=j;rw[Array.toList_append,Array.toList_append,lg,lg,Array.toList_reverse,List.take_zero,List.append_nil];exact j'.iK
theorem W.pP{x:Keyed}(j:W ρ L a b out na nb)(h1:1<=na)(e:a[na-1]?=some x)(h:∀y∈b.toList.take nb,ρ y<=ρ x):W ρ L a b (out.push x) (na-1) nb:=by
 have j':H ρ L out.toList.reverse (a.toList.take na) (b.toList.take nb):=j;rw[ki h1 e]at j';show H ρ L (out.push x).toList.reverse _ _;rw[Array.toList_push,List.reverse_append];exact H.jD (X:=[x]) j' λz hz y hy=>by rw[List.mem_singleton.mp hz];exact h y hy
theorem W.pQ{x:Keyed}(j:W ρ L a b out na nb)(h1:1<=nb)(e:b[nb-1]?=some x)(h:∀y∈a.toList.take na,ρ y<=ρ x):W ρ L a b (out.push x) na (nb-1):=by
 have j':H ρ L out.toList.reverse (a.toList.take na) (b.toList.take nb):=j;rw[ki h1 e]at j';show H ρ L (out.push x).toList.reverse _ _;rw[Array.toList_push,List.reverse_append];exact H.jE (X:=[x]) j' λz hz y hy=>by rw[List.mem_singleton.mp hz];exact h y hy
theorem W.jD{k:Nat}(j:W ρ L a b out na nb)(hk:k<=na)(h:∀x∈(a.toList.take na).drop k,∀y∈b.toList.take nb,ρ y<=ρ x):W ρ L a b (out++(a.extract k na).reverse) k nb:=by
 have j':H ρ L out.toList.reverse (a.toList.take na) (b.toList.take nb):=j;rw[v7 a hk]at j';show H ρ L (out++(a.extract k na).reverse).toList.reverse _ _;rw[Array.toList_append,List.reverse_append,Array.toList_reverse,List.reverse_reverse,mx];exact H.jD j' h
theorem W.jE{k:Nat}(j:W ρ L a b out na nb)(hk:k<=nb)(h:∀x∈(b.toList.take nb).drop k,∀y∈a.toList.take na,ρ y<=ρ x):W ρ L a b (out++(b.extract k nb).reverse) na k:=by
 have j':H ρ L out.toList.reverse (a.toList.take na) (b.toList.take nb):=j;rw[v7 b hk]at j';show H ρ L (out++(b.extract k nb).reverse).toList.reverse _ _;rw[Array.toList_append,List.reverse_append,Array.toList_reverse,List.reverse_reverse,mx];exact H.jE j' h
theorem W.UR{x:Keyed}(j:W ρ L a b out na nb)(h1:1<=na)(e:a[na-1]?=some x):∀y∈a.toList.take na,ρ y<=ρ x:=λy hy=>by
 have:=j.a;rw[ki h1 e]at this hy;rcases List.mem_append.mp hy with hy|hy
 ·exact(List.pairwise_append.mp this).2.2 y hy x (List.mem_singleton.mpr rfl)
 ·rw[List.mem_singleton.mp hy];exact Nat.le_refl _
theorem W.UT{x:Keyed}(j:W ρ L a b out na nb)(h1:1<=nb)(e:b[nb-1]?=some x):∀y∈b.toList.take nb,ρ y<=ρ x:=λy hy=>by
 have:=j.b;rw[ki h1 e]at this hy;rcases List.mem_append.mp hy with hy|hy
 ·exact(List.pairwise_append.mp this).2.2 y hy x (List.mem_singleton.mpr rfl)
 ·rw[List.mem_singleton.mp hy];exact Nat.le_refl _
def d4(ρ:Keyed->Nat)(L:List Keyed)(a b:Array Keyed)(t:Nat)(out:Array Keyed)(na nb:Nat):Prop:=W ρ L a b out na nb/\1<=na/\2<=nb/\na<=a.size/\nb<=b.size/\na+nb+t<=a.size+b.size
def PH(ρ:Keyed->Nat)(L:List Keyed)(a b:Array Keyed)(t:Nat)(cG:SortSt)(r:ForInStep HS)(st:SortSt):Prop:=Kp cG st/\match r with
 | .done c=>(∃arr,c.1=some arr/\Good ρ L arr.toList)\/(c.1=none/\d4 ρ L a b t c.2.2.2.1 c.2.1 c.2.2.1)
 | .yield c=>c.1=none/\d4 ρ L a b t c.2.2.2.1 c.2.1 c.2.2.1
theorem wk{st cG:SortSt}{g k k1 t:Nat}(T:wA ρ P a b)(hK:Kp cG st)(j:W ρ L a b out na nb)(h1:1<=na)(h2:2<=nb)(h3:na<=a.size)(h4:nb<=b.size)(ht:na+nb+t<=a.size+b.size)
  (h:∀x,a[na-1]?=some x->∀y∈b.toList.take nb,ρ y<=ρ x):wpS M Ar E s (G5 a b out na nb g k k1) (PH ρ L a b t cG) st:=by
 unfold G5;obtain⟨y,ey,py⟩:=dR T.pa (show na-1<a.size by omega)
 refine wpS_bind (bp ey ?_);have j':=j.pP h1 ey (h y ey)
 by_cases e:na-1=0
 ·rw[if_pos (by simpa using e)]
  exact wpS_pure ⟨hK,.inl ⟨_,rfl,j'.iJ e⟩⟩
 ·rw[if_neg (by simpa using e)]
  have lf:d4 ρ L a b t (out.push y) (na-1) nb:=⟨j',by omega,h2,by omega,h4,by omega⟩
  split
  ·exact wpS_pure ⟨hK,.inr ⟨rfl,lf⟩⟩
  ·exact wpS_pure ⟨hK,rfl,lf⟩
theorem wj{st cG:SortSt}{g k bc t:Nat}(hL:gy M Ar E s ρ kd P)(hk:kindOf cG=kd)(T:wA ρ P a b)(hK:Kp cG st)(j:W ρ L a b out na nb)(h1:1<=na)(h2:2<=nb)(h3:na<=a.size)(h4:nb<=b.size)(ht:na+nb+t<=a.size+b.size)
  (h:∀x,b[nb-1]?=some x->∀y∈a.toList.take na,ρ y<=ρ x):wpS M Ar E s (G4 a b out na nb g k bc) (PH ρ L a b t cG) st:=by
 unfold G4;obtain⟨x,ex,px⟩:=dR T.pb (show nb-1<b.size by omega)
 obtain⟨y,ey,py⟩:=dR T.pa (show na-1<a.size by omega)
 refine wpS_bind (bp ex ?_);have j':=j.pQ ⋯ ex (h x ex)
 by_cases e:nb-1=1
 ·rw[if_pos (by simpa using e)]
  exact wpS_pure ⟨hK,.inl ⟨_,rfl,j'.qC e T.b1 T.y⟩⟩
 ·rw[if_neg (by simpa using e)]
  refine wpS_bind (bp ey ?_);refine wpS_bind (FV hL (hK.k.trans hk) py T.pb T.sb ⋯ ⋯ λk1 qJ q1 q2=>?_)
  dsimp only;have j2:=j'.jE qJ λx hx z hz=>Nat.le_trans (j'.UR h1 ey z hz) (q2 x hx)
  by_cases yF:nb-1-k1>0
  ·rw[if_pos yF]
   by_cases e2:k1=1
   ·rw[if_pos (by simpa using e2)]
    exact wpS_pure ⟨hK,.inl ⟨_,rfl,j2.qC e2 T.b1 T.y⟩⟩
   ·rw[if_neg (by simpa using e2)]
    by_cases e3:k1=0
    ·rw[if_pos (by simpa using e3)]
     exact wpS_pure ⟨hK,.inl ⟨_,rfl,j2.iK e3⟩⟩
    ·rw[if_neg (by simpa using e3)]
     exact wk T hK j2 h1 ⋯ h3 ⋯ ⋯ λx' kr z hz=>by rw[ey]at kr;cases kr;exact Nat.le_of_lt (q1 z hz)
  ·rw[if_neg yF]
   have:k1=nb-1:=by omega
   subst this;exact wk T hK j' h1 ⋯ h3 ⋯ ⋯ λx' kr z hz=>by rw[ey]at kr;cases kr;exact Nat.le_of_lt (q1 z hz)
theorem FR{st cG:SortSt}{g ac bc t:Nat}(hL:gy M Ar E s ρ kd P)(hk:kindOf cG=kd)(T:wA ρ P a b)(hK:Kp cG st)(j:d4 ρ L a b t out na nb):wpS M Ar E s (Df a b out na nb g ac bc) (PH ρ L a b t cG) st:=by
 obtain⟨j,h1,h2,h3,h4,ht⟩:=j;unfold Df;obtain⟨x,ex,px⟩:=dR T.pb (show nb-1<b.size by omega)
 refine wpS_bind (bp ex ?_);refine wpS_bind (FW hL (hK.k.trans hk) px T.pa T.sa h3 h1 λk qJ q1 q2=>?_);dsimp only;have j2:=j.jD qJ λz hz y hy=>Nat.le_trans (j.UT ⋯ ex y hy) (Nat.le_of_lt (q2 z hz))
 by_cases yF:na-k>0
 ·rw[if_pos yF]
  by_cases e:k=0
  ·rw[if_pos (by simpa using e)]
   exact wpS_pure ⟨hK,.inl ⟨_,rfl,j2.iJ e⟩⟩
  ·rw[if_neg (by simpa using e)]
   exact wj hL hk T hK j2 ⋯ h2 ⋯ h4 ⋯ λx' kr z hz=>by rw[ex]at kr;cases kr;exact q1 z hz
 ·rw[if_neg yF]
  have:k=na:=by omega
  subst this;exact wj hL hk T hK j h1 h2 h3 h4 ht λx' kr z hz=>by rw[ex]at kr;cases kr;exact q1 z hz
abbrev HI:=Option (Array Keyed)×Nat×Nat×Array Keyed×Nat×Nat
abbrev HQ:=Option (Array Keyed)×Nat×Nat×Array Keyed×Nat
def ZN(a b:Array Keyed)(g:Nat)(c:HI):StateT SortSt Sem (ForInStep HI):=do
 let x <- elem' b (c.2.2.1-1)
 let y <- elem' a (c.2.1-1)
 let r <- lt' x y
 match r with
 | some w =>
  if w=true then do
   let y <- elem' a (c.2.1-1)
   if(c.2.1-1==0)=true then pure (ForInStep.done (some (a.extract 0 (c.2.1-1)++b.extract 0 c.2.2.1++(c.2.2.2.1.push y).reverse),c.2.1-1,c.2.2.1,c.2.2.2.1.push y,c.2.2.2.2.1+1,0))
   else if c.2.2.2.2.1+1>=g then pure (ForInStep.done (none,c.2.1-1,c.2.2.1,c.2.2.2.1.push y,c.2.2.2.2.1+1,0))
   else pure (ForInStep.yield (none,c.2.1-1,c.2.2.1,c.2.2.2.1.push y,c.2.2.2.2.1+1,0))
  else do
   let x <- elem' b (c.2.2.1-1)
   if(c.2.2.1-1==1)=true then pure (ForInStep.done (some (b.extract 0 (c.2.2.1-1)++a.extract 0 c.2.1++(c.2.2.2.1.push x).reverse),c.2.1,c.2.2.1-1,c.2.2.2.1.push x,0,c.2.2.2.2.2+1))
   else if c.2.2.2.2.2+1>=g then pure (ForInStep.done (none,c.2.1,c.2.2.1-1,c.2.2.2.1.push x,0,c.2.2.2.2.2+1))
   else pure (ForInStep.yield (none,c.2.1,c.2.2.1-1,c.2.2.2.1.push x,0,c.2.2.2.2.2+1))
 | _=>pure (ForInStep.done (some (a.extract 0 c.2.1++b.extract 0 c.2.2.1++c.2.2.2.1.reverse),c.2.1,c.2.2.1,c.2.2.2.1,c.2.2.2.2.1,c.2.2.2.2.2))
def hiG(a b:Array Keyed)(c:HS):StateT SortSt Sem (ForInStep HS):=
 if c.2.2.2.2.1>1 then do
  fq (c.2.2.2.2.1-1)
  Df a b c.2.2.2.1 c.2.1 c.2.2.1 (c.2.2.2.2.1-1) c.2.2.2.2.2.1 c.2.2.2.2.2.2
 else do
  fq c.2.2.2.2.1
  Df a b c.2.2.2.1 c.2.1 c.2.2.1 c.2.2.2.2.1 c.2.2.2.2.2.1 c.2.2.2.2.2.2
def hiE(r:HS):StateT SortSt Sem (ForInStep HQ):=
 match r.1 with
 | some arr=>pure (ForInStep.done (some arr,r.2.1,r.2.2.1,r.2.2.2.1,r.2.2.2.2.1))
 | none=>do
  fq (r.2.2.2.2.1+1)
  pure (ForInStep.yield (none,r.2.1,r.2.2.1,r.2.2.2.1,r.2.2.2.2.1+1))
def ZO(a b:Array Keyed)(g:Nat)(r:HI):StateT SortSt Sem (ForInStep HQ):=
 match r.1 with
 | some arr=>pure (ForInStep.done (some arr,r.2.1,r.2.2.1,r.2.2.2.1,g))
 | none=>do
  liftM (rule "list.sort.gallop")
  let r2 <- forIn [0:a.size+b.size] ((none,r.2.1,r.2.2.1,r.2.2.2.1,g+1,r.2.2.2.2.1,r.2.2.2.2.2):HS) λ_ t=>hiG a b t
  hiE r2
def ZP(a b:Array Keyed)(c:HQ):StateT SortSt Sem (ForInStep HQ):=do
 let r <- forIn [0:a.size+b.size] ((none,c.2.1,c.2.2.1,c.2.2.2.1,0,0):HI) λ_ r=>ZN a b c.2.2.2.2 r
 ZO a b c.2.2.2.2 r
def hiZ(r:HQ):StateT SortSt Sem (Array Keyed):=
 match r.1 with
 | some arr=>pure arr
 | none=>unsupported "internal:list.sort.merge-bound"
theorem qV(a b:Array Keyed):nh a b=(do
 liftM (rule "list.sort.merge-hi")
 let x <- elem' a (a.size-1)
 if(a.size-1==0)=true then pure (a.extract 0 (a.size-1)++b.extract 0 b.size++(#[x]:Array Keyed).reverse)
 else if(b.size==1)=true then pure (b.extract 0 b.size++a.extract 0 (a.size-1)++(#[x]:Array Keyed).reverse)
 else do
  let st <- get
  let r <- forIn [0:a.size+b.size] ((none,a.size-1,b.size,#[x],gallopOf st):HQ) λ_ r=>ZP a b r
  hiZ r):=by kernel_rfl
theorem Jb{cG st:SortSt}{g n m:Nat}{c:HI}(hL:gy M Ar E s ρ kd P)(hk:kindOf cG=kd)(T:wA ρ P a b)(hK:Kp cG st)(j:d4 ρ L a b (n+1+min m 1) c.2.2.2.1 c.2.1 c.2.2.1):
  wpS M Ar E s (ZN a b g c) (λr aC=>Kp cG aC/\match r with
   | .done c=>(∃arr,c.1=some arr/\Good ρ L arr.toList)\/(c.1=none/\d4 ρ L a b (n+1+1) c.2.2.2.1 c.2.1 c.2.2.1)
   | .yield c=>c.1=none/\d4 ρ L a b (n+1+min (m+1) 1) c.2.2.2.1 c.2.1 c.2.2.1) st:=by
 obtain⟨ret,na,nb,out,ac,bc⟩:=c;obtain⟨j,l1,l2,l3,l4,l5⟩:=j;dsimp only at j l1 l2 l3 l4 l5;unfold ZN;dsimp only;obtain⟨x,ex,px⟩:=dR T.pb (show nb-1<b.size by omega)
 obtain⟨y,ey,py⟩:=dR T.pa (show na-1<a.size by omega)
 refine wpS_bind (bp ex (wpS_bind (bp ey (wpS_bind (hL x y st _ px py (hK.k.trans hk) ?_)))))
 by_cases eX:ρ x<ρ y
 ·rw[decide_eq_true eX]
  refine wpS_bind (bp ey ?_);have j':=j.pP l1 ey λz hz=>Nat.le_trans (j.UT ⋯ ex z hz) (Nat.le_of_lt eX)
  by_cases e:na-1=0
  ·rw[if_pos (by simpa using e)]
   exact wpS_pure ⟨hK,.inl ⟨_,rfl,j'.iJ e⟩⟩
  ·rw[if_neg (by simpa using e)]
   split
   ·exact wpS_pure ⟨hK,.inr ⟨rfl,j',by show 1<=na-1;omega,l2,by show na-1<=a.size;omega,l4,by show na-1+nb+(n+1+1)<=_;omega⟩⟩
   ·exact wpS_pure ⟨hK,rfl,j',by show 1<=na-1;omega,l2,by show na-1<=a.size;omega,l4,by show na-1+nb+(n+1+min (m+1) 1)<=_;omega⟩
 ·rw[decide_eq_false eX]
  refine wpS_bind (bp ex ?_);have j':=j.pQ ⋯ ex λz hz=>Nat.le_trans (j.UR l1 ey z hz) (Nat.not_lt.mp eX)
  by_cases e:nb-1=1
  ·rw[if_pos (by simpa using e)]
   exact wpS_pure ⟨hK,.inl ⟨_,rfl,j'.qC e T.b1 T.y⟩⟩
  ·rw[if_neg (by simpa using e)]
   split
   ·exact wpS_pure ⟨hK,.inr ⟨rfl,j',l1,by show 2<=nb-1;omega,l3,by show nb-1<=b.size;omega,by show na+(nb-1)+(n+1+1)<=_;omega⟩⟩
   ·exact wpS_pure ⟨hK,rfl,j',l1,by show 2<=nb-1;omega,l3,by show nb-1<=b.size;omega,by show na+(nb-1)+(n+1+min (m+1) 1)<=_;omega⟩
def PGH(ρ:Keyed->Nat)(L:List Keyed)(a b:Array Keyed)(t:Nat)(cG:SortSt)(r:ForInStep HQ)(st:SortSt):Prop:=match r with
 | .done c=>Kp cG st/\∃arr,c.1=some arr/\Good ρ L arr.toList
 | .yield c=>Kp cG st/\c.1=none/\d4 ρ L a b t c.2.2.2.1 c.2.1 c.2.2.1
theorem Jc{cG st:SortSt}{g n:Nat}{r:HI}(hL:gy M Ar E s ρ kd P)(hk:kindOf cG=kd)(T:wA ρ P a b)(hK:Kp cG st)
  (h:(∃arr,r.1=some arr/\Good ρ L arr.toList)\/(r.1=none/\d4 ρ L a b (n+1+1) r.2.2.2.1 r.2.1 r.2.2.1)):wpS M Ar E s (ZO a b g r) (PGH ρ L a b (n+1+1) cG) st:=by
 obtain⟨ret,r⟩:=r;unfold ZO;rcases h with⟨arr,h1,h2⟩|⟨h1,hl⟩
 ·dsimp only at h1
  subst h1;exact wpS_pure ⟨hK,arr,rfl,h2⟩
 ·dsimp only at h1 hl
  subst h1;refine wpS_bind (wpS_lift (wpAny_rule ⟨rfl,?_⟩));refine wpS_bind (wpS_mono (wpS_forRange (I:=λx c aC=>Kp cG aC/\c.1=none/\d4 ρ L a b (n+1+1) c.2.2.2.1 c.2.1 c.2.2.1)
   (Q:=λc aC=>Kp cG aC/\((∃arr,c.1=some arr/\Good ρ L arr.toList)\/(c.1=none/\d4 ρ L a b (n+1+1) c.2.2.2.1 c.2.1 c.2.2.1))) ?gstep ?gfin ⟨hK,rfl,hl⟩) ?gpost)
  case gfin =>
   rintro c aC ⟨hK,h1,hl⟩;exact⟨hK,.inr ⟨h1,hl⟩⟩
  case gstep =>
   rintro m c aC _ hm ⟨hK,h1,hl⟩;have go:∀g,wpS M Ar E s (do fq g;Df a b c.2.2.2.1 c.2.1 c.2.2.1 g c.2.2.2.2.2.1 c.2.2.2.2.2.2) (λr dP=>match r with
     | .done c=>Kp cG dP/\((∃arr,c.1=some arr/\Good ρ L arr.toList)\/(c.1=none/\d4 ρ L a b (n+1+1) c.2.2.2.1 c.2.1 c.2.2.1))
     | .yield c=>Kp cG dP/\c.1=none/\d4 ρ L a b (n+1+1) c.2.2.2.1 c.2.1 c.2.2.1) aC:=λg=>by
    rw[eU];refine wpS_bind (wpS_modify (wpS_mono (FR hL hk T (hK.min g) hl) λr dP hr=>?_));obtain⟨k1,k2⟩:=hr;cases r with
    | done c=>exact⟨k1,k2⟩
    | yield c=>exact⟨k1,k2⟩
   unfold hiG
   split
   ·refine wpS_mono (go _) λr dP hr=>?_
    cases r<;>exact hr
   ·refine wpS_mono (go _) λr dP hr=>?_
    cases r<;>exact hr
  case gpost =>
   rintro⟨ret,r⟩ aC ⟨hK,⟨arr,h1,h2⟩|⟨h1,hl⟩⟩
   ·dsimp only at h1
    subst h1;exact wpS_pure ⟨hK,arr,rfl,h2⟩
   ·dsimp only at h1 hl
    subst h1;unfold hiE;rw[eU];exact wpS_bind (wpS_modify (wpS_pure ⟨hK.min _,rfl,hl⟩))
theorem Jd{cG st:SortSt}{n:Nat}{c:HQ}(hL:gy M Ar E s ρ kd P)(hk:kindOf cG=kd)(T:wA ρ P a b)(hn:0<a.size+b.size)(hK:Kp cG st)(hl:d4 ρ L a b (n+1) c.2.2.2.1 c.2.1 c.2.2.1):wpS M Ar E s (ZP a b c) (PGH ρ L a b (n+1+1) cG) st:=by
 unfold ZP;refine wpS_bind (wpS_mono (wpS_forRange (I:=λx c aC=>Kp cG aC/\c.1=none/\d4 ρ L a b (n+1+min x 1) c.2.2.2.1 c.2.1 c.2.2.1)
  (Q:=λc aC=>Kp cG aC/\((∃arr,c.1=some arr/\Good ρ L arr.toList)\/(c.1=none/\d4 ρ L a b (n+1+1) c.2.2.2.1 c.2.1 c.2.2.1))) ?istep ?ifin ⟨hK,rfl,by simpa using hl⟩) ?ipost)
 case ifin =>
  rintro c aC ⟨hK,h1,hl⟩;rw[show min (max 0 (a.size+b.size)) 1=1 by omega]at hl
  exact⟨hK,.inr ⟨h1,hl⟩⟩
 case istep =>
  rintro m c aC _ hm ⟨hK,h1,hl⟩;refine wpS_mono (Jb hL hk T hK hl) λr dP hr=>?_;obtain⟨k1,k2⟩:=hr;cases r with
  | done c=>exact⟨k1,k2⟩
  | yield c=>exact⟨k1,k2⟩
 case ipost =>
  rintro r aC ⟨hK,h⟩;exact Jc hL hk T hK h
theorem wt{st:SortSt}{Q:Array Keyed->SortSt->Prop}(hL:gy M Ar E s ρ kd P)(hk:kindOf st=kd)(T:wA ρ P a b)
  (q:∀r aC,Kp st aC->Good ρ (a.toList++b.toList) r.toList->Q r aC):wpS M Ar E s (nh a b) Q st:=by
 rw[qV];have b1:=T.b1;have a1:=T.a1;refine wpS_bind (wpS_lift (wpAny_rule ⟨rfl,?_⟩));obtain⟨x,ex,px⟩:=dR T.pa (show a.size-1<a.size by omega)
 refine wpS_bind (bp ex ?_);have j0:W ρ (a.toList++b.toList) a b #[] a.size b.size:=by
  have e1:a.toList.take a.size=a.toList:=List.take_of_length_le (Nat.le_refl _);have e2:b.toList.take b.size=b.toList:=List.take_of_length_le (Nat.le_refl _);unfold W;rw[e1,e2];exact⟨List.Pairwise.nil,T.sa,T.sb,(λx hx y hy=>by cases hy),(λx hx y hy=>by cases hy),by simp⟩
 have j1:W ρ (a.toList++b.toList) a b #[x] (a.size-1) b.size:=by simpa using j0.pP a1 ex λy hy=>T.z y (List.mem_of_mem_take hy) x ex
 by_cases e:a.size-1=0
 ·rw[if_pos (by simpa using e)]
  exact wpS_pure (q _ st .refl (by simpa using j1.iJ e))
 ·rw[if_neg (by simpa using e)]
  by_cases e2:b.size=1
  ·rw[if_pos (by simpa using e2)]
   exact wpS_pure (q _ st .refl (by simpa using j1.qC e2 T.b1 T.y))
  ·rw[if_neg (by simpa using e2)]
   refine wpS_bind (wpS_get ?_);refine wpS_bind (wpS_mono (wpS_forRange (I:=λx c aC=>Kp st aC/\c.1=none/\d4 ρ (a.toList++b.toList) a b (x+1) c.2.2.2.1 c.2.1 c.2.2.1)
    (Q:=λc aC=>Kp st aC/\∃arr,c.1=some arr/\Good ρ (a.toList++b.toList) arr.toList) ?step ?fin ⟨.refl,rfl,j1,by show 1<=a.size-1;omega,by show 2<=b.size;omega,by show a.size-1<=a.size;omega,by show b.size<=b.size;omega,by show a.size-1+b.size+(0+1)<=_;omega⟩) ?post)
   case fin =>
    rintro⟨ret,na,nb,out,g⟩ aC ⟨hK,h1,j,h2,h3,h4,h5,h6⟩;dsimp only at h2 h3 h4 h5 h6;omega
   case post =>
    rintro⟨ret,r⟩ aC ⟨hK,arr,h1,h2⟩;dsimp only at h1;subst h1;exact wpS_pure (q arr aC hK h2)
   case step =>
    rintro n c aC _ hn ⟨hK,h1,hl⟩;refine wpS_mono (Jd hL hk T ⋯ hK hl) λr dP hr=>?_
    cases r with
    | done c=>exact hr
    | yield c=>exact hr
end
end Vs
namespace Vs
open PySem PyProof.Rows
abbrev Run:=Nat×Nat×Nat
theorem u9(i:Nat):mergeAt' i=(do
 let s <- get
 let (some (sa,na,power),some (sb,nb,_)):=((pendingOf s)[i]?,(pendingOf s)[i+1]?)|unsupported "internal:list.sort.pending"
 set (setPending s (((pendingOf s).setIfInBounds i (sa,na+nb,power)).eraseIdxIfInBounds (i+1)))
 let some k <- cL false (<- elem' (arrOf s) sb) (arrOf s) sa na 0|return false
 let (sa,na):=(sa+k,na-k)
 if na==0 then return true
 let some nb <- cL true (<- elem' (arrOf s) (sa+na-1)) (arrOf s) sb nb (nb-1)|return false
 if nb==0 then return true
 let x:=(arrOf s).extract sa sb
 let y:=(arrOf s).extract sb (sb+nb)
 let merged <- if na<=nb then ni x y else nh x y
 modify λs=>setArr s (merged.toList.zipIdx.foldl (λa (p,j)=>a.setIfInBounds (sa+j) p) (arrOf s))
 return(failedOf (<- get)).isNone):=rfl
def Ch(ρ:Keyed->Nat)(xs:Array Keyed):Nat->Nat->List Run->Prop
 | s,e,[]=>s=e
 | s,e,r::rs=>r.1=s/\1<=r.2.1/\Seg ρ xs s (s+r.2.1)/\Ch ρ xs (s+r.2.1) e rs
theorem Ch.app{ρ:Keyed->Nat}{xs:Array Keyed}:∀ {l m:List Run} {s e:Nat},Ch ρ xs s e (l++m) ↔ ∃t,Ch ρ xs s t l/\Ch ρ xs t e m
 | [],m,s,e=>⟨λh=>⟨s,rfl,h⟩,λ⟨t,h1,h2⟩=>by cases h1;exact h2⟩
 | r::l,m,s,e=>by
  constructor
  ·rintro⟨h1,h2,h3,h4⟩
   obtain⟨t,h5,h6⟩:=Ch.app.mp h4;exact⟨t,⟨h1,h2,h3,h5⟩,h6⟩
  ·rintro⟨t,⟨h1,h2,h3,h5⟩,h6⟩
   exact⟨h1,h2,h3,Ch.app.mpr ⟨t,h5,h6⟩⟩
theorem Ch.le{ρ:Keyed->Nat}{xs:Array Keyed}:∀ {l:List Run} {s e:Nat},Ch ρ xs s e l->s+l.length<=e
 | [],s,e,h=>by cases h;exact Nat.le_refl _
 | r::l,s,e,⟨_,h2,_,h4⟩=>by have:=Ch.le h4;simp only[List.length_cons];omega
theorem Seg.congr{ρ:Keyed->Nat}{xs ys:Array Keyed}{lo hi:Nat}(h:Seg ρ xs lo hi)(e:∀k,lo<=k->k<hi->ys[k]?=xs[k]?):Seg ρ ys lo hi:=λi j h1 h2 h3=>by
 rw[hZ (e i h1 ⋯),hZ (e j ⋯ h3)];exact h i j h1 h2 h3
theorem Ch.congr{ρ:Keyed->Nat}{xs ys:Array Keyed}:∀ {l:List Run} {s e:Nat},Ch ρ xs s e l->(∀k,s<=k->k<e->ys[k]?=xs[k]?)->Ch ρ ys s e l
 | [],s,e,h,_=>h
 | r::l,s,e,⟨h1,h2,h3,h4⟩,q=>by
  have:=Ch.le h4;exact⟨h1,h2,h3.congr λk a b=>q k a ⋯,Ch.congr h4 λk a b=>q k ⋯ b⟩
theorem rA(off:Nat):∀(m:List Keyed) (n:Nat) (xs:Array Keyed),off+n+m.length<=xs.size->∀k:Nat,
  ((m.zipIdx n).foldl (λa (p,j)=>a.setIfInBounds (off+j) p) xs)[k]?=(if off+n<=k/\k<off+n+m.length then m[k-(off+n)]? else xs[k]?)/\((m.zipIdx n).foldl (λa (p,j)=>a.setIfInBounds (off+j) p) xs).size=xs.size
 | [],n,xs,h,k=>⟨by rw[if_neg (by simp only[List.length_nil];omega)];rfl,rfl⟩
 | p::m,n,xs,h,k=>by
  simp only[List.length_cons]at h;rw[List.zipIdx_cons,List.foldl_cons];have ih:=rA off m (n+1) (xs.setIfInBounds (off+n) p) (by rw[Array.size_setIfInBounds];omega) k
  refine⟨?_,by rw[ih.2,Array.size_setIfInBounds]⟩
  rw[ih.1];simp only[List.length_cons]
  by_cases h1:off+(n+1)<=k/\k<off+(n+1)+m.length
  ·rw[if_pos h1,if_pos ⋯,show k-(off+n)=k-(off+(n+1))+1 by omega,List.getElem?_cons_succ]
  ·rw[if_neg h1]
   by_cases h2:k=off+n
   ·subst h2
    rw[if_pos ⋯,Nat.sub_self,List.getElem?_cons_zero,Array.getElem?_setIfInBounds_self_of_lt ⋯]
   ·rw[if_neg ⋯,Array.getElem?_setIfInBounds_ne ⋯]
theorem EE{off:Nat}{m:List Keyed}{xs:Array Keyed}(h:off+m.length<=xs.size)(hp:m.Perm ((xs.toList.drop off).take m.length)):(m.zipIdx.foldl (λa (p,j)=>a.setIfInBounds (off+j) p) xs).Perm xs:=by
 rw[Array.perm_iff_toList_perm];have e:(m.zipIdx.foldl (λa (p,j)=>a.setIfInBounds (off+j) p) xs).toList=xs.toList.take off++(m++xs.toList.drop (off+m.length)):=by
  apply List.ext_getElem?;intro k;have:=(rA off m 0 xs (by simpa using h) k).1
  rw[Nat.add_zero]at this;rw[Array.getElem?_toList,this];have hl:(xs.toList.take off).length=off:=by rw[List.length_take];have:xs.toList.length=xs.size:=rfl;omega
  by_cases h1:k<off
  ·rw[if_neg ⋯,List.getElem?_append_left ⋯,List.getElem?_take_of_lt h1,Array.getElem?_toList]
  ·rw[List.getElem?_append_right ⋯,hl]
   by_cases h2:k<off+m.length
   ·rw[if_pos ⋯,List.getElem?_append_left ⋯]
   ·rw[if_neg ⋯,List.getElem?_append_right ⋯,List.getElem?_drop,show off+m.length+(k-off-m.length)=k by omega,Array.getElem?_toList]
 rw[e];have e2:xs.toList=xs.toList.take off++((xs.toList.drop off).take m.length++xs.toList.drop (off+m.length)):=by
  rw[<- List.drop_drop,List.take_append_drop,List.take_append_drop]
 exact(List.Perm.append_left _ (List.Perm.append_right _ hp)).trans (by rw[<- e2])
theorem nK{ρ:Keyed->Nat}{xs:Array Keyed}{i j:Nat}(h:Seg ρ xs i j)(hj:j<=xs.size):So ρ (xs.extract i j).toList:=by
 refine List.pairwise_iff_getElem.mpr λp q hp hq hpq=>?_;rw[mx,List.length_drop,List.length_take]at hq;have hs:xs.toList.length=xs.size:=rfl;have:=h (i+p) (i+q) ⋯ ⋯ ⋯
 have e1:xs[i+p]?=some ((xs.extract i j).toList[p]):=by
  rw[Array.getElem?_eq_getElem ⋯];simp
 have e2:xs[i+q]?=some ((xs.extract i j).toList[q]):=by
  rw[Array.getElem?_eq_getElem ⋯];simp
 rw[dq e1,dq e2]at this;exact this
theorem CT{xs:Array Keyed}{i j m:Nat}(h:i+m<j)(hj:j<=xs.size):(xs.extract i j)[m]?=xs[i+m]?:=by
 rw[Array.getElem?_extract];rw[if_pos ⋯]
theorem iZ{xs:Array Keyed}{i j:Nat}{x:Keyed}(h:x∈(xs.extract i j).toList):∃m,i<=m/\m<j/\m<xs.size/\xs[m]?=some x:=by
 rw[mx]at h;exact gW h
section
variable {M:Model}{Ar:Around}{E:Value->Shared->Prop}{s:Shared}{ρ:Keyed->Nat}{kd:SortKind}{P:Keyed->Prop}{a₀:Array Keyed}
theorem Ja{key:Keyed}{arr:Array Keyed}{base n hint:Nat}{st:SortSt}{Q:Option Nat->SortSt->Prop}(hL:gy M Ar E s ρ kd P)(hk:kindOf st=kd)(pk:P key)(pa:∀i,i<n->∃x,arr[base+i]?=some x/\P x)(hs:Seg ρ arr base (base+n))(hn:hint<n)
  (q:∀k,k<=n->(∀i,base<=i->i<base+k->R ρ arr i<=ρ key)->(∀i,base+k<=i->i<base+n->ρ key<R ρ arr i)->Q (some k) st):wpS M Ar E s (cL false key arr base n hint) Q st:=by
 refine dZ (tells hL hk pk pa) (λi j ku hj h=>?_) hn λk qJ h1 h2=>q k qJ (λi hi xl=>?_) λi hi xl=>?_
 ·have:=hs (base+i) (base+j) ⋯ ⋯ ⋯
  simp only[oU,Bool.false_eq_true,if_false,Bool.not_eq_true',decide_eq_false_iff_not]at h ⊢;omega
 ·have:=h1 (i-base) ⋯
  simp only[oU,Bool.false_eq_true,if_false,Bool.not_eq_true',decide_eq_false_iff_not,show base+(i-base)=i by omega]at this
  omega
 ·have:=h2 (i-base) ⋯ ⋯
  simp only[oU,Bool.false_eq_true,if_false,show base+(i-base)=i by omega,Bool.not_eq_false',decide_eq_true_eq]at this
  exact this
theorem IZ{key:Keyed}{arr:Array Keyed}{base n hint:Nat}{st:SortSt}{Q:Option Nat->SortSt->Prop}(hL:gy M Ar E s ρ kd P)(hk:kindOf st=kd)(pk:P key)(pa:∀i,i<n->∃x,arr[base+i]?=some x/\P x)(hs:Seg ρ arr base (base+n))(hn:hint<n)
  (q:∀k,k<=n->(∀i,base<=i->i<base+k->R ρ arr i<ρ key)->(∀i,base+k<=i->i<base+n->ρ key<=R ρ arr i)->Q (some k) st):wpS M Ar E s (cL true key arr base n hint) Q st:=by
 refine dZ (tells hL hk pk pa) (λi j ku hj h=>?_) hn λk qJ h1 h2=>q k qJ (λi hi xl=>?_) λi hi xl=>?_
 ·have:=hs (base+i) (base+j) ⋯ ⋯ ⋯
  simp only[oU,if_true,decide_eq_true_eq]at h ⊢;omega
 ·have:=h1 (i-base) ⋯
  simp only[oU,if_true,decide_eq_true_eq,show base+(i-base)=i by omega]at this
  exact this
 ·have:=h2 (i-base) ⋯ ⋯
  simp only[oU,if_true,show base+(i-base)=i by omega,decide_eq_false_iff_not]at this
  omega
theorem Ji{st aC:SortSt}{Q:PUnit->SortSt->Prop}(h:Q ⟨⟩ aC):wpS M Ar E s (set aC:StateT SortSt Sem PUnit) Q st:=by
 unfold wpS;rw[StateT.run_set];exact wpAny_pure ⟨rfl,h⟩
theorem Sb{l:List Run}{i:Nat}(h:i+1<l.length):∃pre x y post,l=pre++x::y::post/\pre.length=i:=by
 refine⟨l.take i,l[i],l[i+1],l.drop (i+2),?_,by rw[List.length_take];omega⟩
 have e:=(List.take_append_drop i l).symm;rw[List.drop_eq_getElem_cons ⋯,List.drop_eq_getElem_cons h]at e
 exact e
theorem lJ{st:SortSt}{i lo:Nat}{Q:Bool->SortSt->Prop}(hL:gy M Ar E s ρ kd P)(h0:∀p∈a₀.toList,P p)(hB:SI kd a₀ st)(wD:lo<=a₀.size)(hc:Ch ρ (arrOf st) 0 lo (pendingOf st).toList)(hi:i+1<(pendingOf st).size)
  (q:∀aC,SI kd a₀ aC->Ch ρ (arrOf aC) 0 lo (pendingOf aC).toList->(pendingOf aC).size+1=(pendingOf st).size->(∀k,lo<=k->(arrOf aC)[k]?=(arrOf st)[k]?)->Q true aC):wpS M Ar E s (mergeAt' i) Q st:=by
 rw[u9];refine wpS_bind (wpS_get ?_);obtain⟨pre,⟨sa,na,pw⟩,⟨sb,nb,pw2⟩,post,el,fC⟩:=Sb (l:=(pendingOf st).toList) (i:=i) (by simpa using hi)
 have e1:(pendingOf st)[i]?=some (sa,na,pw):=by
  rw[<- Array.getElem?_toList,el,List.getElem?_append_right ⋯,fC,Nat.sub_self];rfl
 have e2:(pendingOf st)[i+1]?=some (sb,nb,pw2):=by
  rw[<- Array.getElem?_toList,el,List.getElem?_append_right ⋯,fC,Nat.add_sub_cancel_left];rfl
 have qK:(((pendingOf st).setIfInBounds i (sa,na+nb,pw)).eraseIdxIfInBounds (i+1)).toList=pre++(sa,na+nb,pw)::post:=by
  have hs:i+1<((pendingOf st).setIfInBounds i (sa,na+nb,pw)).size:=by rw[Array.size_setIfInBounds];exact hi
  rw[Array.eraseIdxIfInBounds,dif_pos hs,Array.toList_eraseIdx,Array.toList_setIfInBounds,el,<- fC];rw[List.set_append_right _ _ (Nat.le_refl _),Nat.sub_self,List.set_cons_zero,List.eraseIdx_append_of_length_le (Nat.le_succ _),show pre.length.succ-pre.length=1 by omega]
  rfl
 have VJ:(((pendingOf st).setIfInBounds i (sa,na+nb,pw)).eraseIdxIfInBounds (i+1)).size+1=(pendingOf st).size:=by
  have a1:(((pendingOf st).setIfInBounds i (sa,na+nb,pw)).eraseIdxIfInBounds (i+1)).toList.length=(pre++(sa,na+nb,pw)::post).length:=by rw[qK]
  have a2:(pendingOf st).toList.length=(pre++(sa,na,pw)::(sb,nb,pw2)::post).length:=by rw[el]
  simp only[List.length_append,List.length_cons,Array.length_toList]at a1 a2;omega
 rw[e1,e2];dsimp only;refine wpS_bind (Ji ?_);rw[el]at hc;obtain⟨t,c1,⟨rfl,c3,c4,rfl,c6,c7,c8⟩⟩:=Ch.app.mp hc;dsimp only at c1 c3 c4 c6 c7 c8 qK e1 e2 VJ ⊢;have hle:=Ch.le c8;have hsz:=hB.size;have T3:∀k,k<a₀.size->∃x,(arrOf st)[k]?=some x/\P x:=λk hk=>hB.at h0 hk;obtain⟨b0,eb,pb⟩:=T3 (sa+na) ⋯
 refine wpS_bind (bp eb ?_);refine wpS_bind (Ja hL hB.kind pb (λi hi=>T3 _ ⋯) c4 ⋯ λk hk g1 g2=>?_)
 dsimp only
 -- the whole of both,from what becomes of the array
 have fin:∀(ys:Array Keyed) (aC:SortSt),arrOf aC=ys->pendingOf aC=((pendingOf st).setIfInBounds i (sa,na+nb,pw)).eraseIdxIfInBounds (i+1)->kindOf aC=kd->failedOf aC=none->ys.Perm (arrOf st) ->
   (∀k,k<sa\/sa+na+nb<=k->ys[k]?=(arrOf st)[k]?)->Seg ρ ys sa (sa+na+nb)->Q true aC:=λys aC h1 h2 h3 h4 h5 h6 h7=>by
  refine q aC ⟨by rw[h1];exact h5.trans hB.perm,h3,h4⟩ ?_ (by rw[h2];exact VJ) (λk hk=>by rw[h1];exact h6 k (.inr ⋯))
  rw[h1,h2,qK];refine Ch.app.mpr ⟨sa,c1.congr λk _ hk=>h6 k (.inl hk),rfl,?_,?_,?_⟩
  ·show 1<=na+nb;omega
  ·show Seg ρ ys sa (sa+(na+nb));rw[<- Nat.add_assoc];exact h7
  ·show Ch ρ ys (sa+(na+nb)) lo post
   rw[<- Nat.add_assoc];exact c8.congr λk hk _=>h6 k (.inr hk)
 have rb0:R ρ (arrOf st) (sa+na)=ρ b0:=dq eb
 by_cases yF:na-k=0
 ·rw[if_pos (by simpa using yF)]
  refine wpS_pure (fin (arrOf st) _ rfl rfl hB.kind hB.failed (Array.Perm.refl _) (λ_ _=>rfl) λi j h1 h2 h3=>?_)
  by_cases hj:j<sa+na
  ·exact c4 i j h1 h2 hj
  ·by_cases sS:i<sa+na
   ·have:=g1 i h1 ⋯
    have:=c7 (sa+na) j ⋯ ⋯ h3
    omega
   ·exact c7 i j ⋯ h2 h3
 ·rw[if_neg (by simpa using yF)]
  obtain⟨al,ea,pa⟩:=T3 (sa+k+(na-k)-1) ⋯
  have ral:R ρ (arrOf st) (sa+na-1)=ρ al:=by rw[show sa+na-1=sa+k+(na-k)-1 by omega];exact dq ea
  refine wpS_bind (bp ea ?_);refine wpS_bind (IZ hL hB.kind pa (λi hi=>T3 _ ⋯) c7 ⋯ λk2 hk2 g3 g4=>?_)
  dsimp only
  by_cases Vv:k2=0
  ·subst Vv
   rw[if_pos (by simp)]
   refine wpS_pure (fin (arrOf st) _ rfl rfl hB.kind hB.failed (Array.Perm.refl _) (λ_ _=>rfl) λi j h1 h2 h3=>?_)
   by_cases hj:j<sa+na
   ·exact c4 i j h1 h2 hj
   ·by_cases sS:i<sa+na
    ·have:=g4 j ⋯ h3
     have:=c4 i (sa+na-1) h1 ⋯ ⋯
     omega
    ·exact c7 i j ⋯ h2 h3
  ·rw[if_neg (by simpa using Vv)]
   have hPx:∀i j,j<=a₀.size->∀x∈((arrOf st).extract i j).toList,P x:=λi j hj x hx=>by
    obtain⟨m,m1,m2,m3,m4⟩:=iZ hx;obtain⟨y,ey,py⟩:=T3 m ⋯
    rw[m4]at ey;cases ey;exact py
   have zx:((arrOf st).extract (sa+k) (sa+na)).size=na-k:=by rw[Array.size_extract];omega
   have zy:((arrOf st).extract (sa+na) (sa+na+k2)).size=k2:=by rw[Array.size_extract];omega
   have T:wA ρ P ((arrOf st).extract (sa+k) (sa+na)) ((arrOf st).extract (sa+na) (sa+na+k2)):=
    ⟨hPx _ _ ⋯,hPx _ _ ⋯,nK (λi j h1 h2 h3=>c4 i j ⋯ h2 h3) ⋯,nK (λi j h1 h2 h3=>c7 i j h1 h2 ⋯) ⋯,by omega,by omega,
     λy hy z hz=>by
      obtain⟨m,m1,m2,m3,m4⟩:=iZ hy;rw[zx,CT ⋯ ⋯,show sa+k+(na-k-1)=sa+k+(na-k)-1 by omega,ea]at hz
      cases hz;have:=g3 m m1 m2;rw[dq m4]at this;omega,
     λy hy z hz=>by
      obtain⟨m,m1,m2,m3,m4⟩:=iZ hy;rw[CT ⋯ ⋯,Nat.add_zero,eb]at hz
      cases hz;have:=g2 m m1 m2;rw[dq m4]at this;omega⟩
   have done:∀(r:Array Keyed) (aC:SortSt),Kp (setPending st (((pendingOf st).setIfInBounds i (sa,na+nb,pw)).eraseIdxIfInBounds (i+1))) aC->Good ρ (((arrOf st).extract (sa+k) (sa+na)).toList++((arrOf st).extract (sa+na) (sa+na+k2)).toList) r.toList ->
     wpS M Ar E s (do
      modify λs=>setArr s (r.toList.zipIdx.foldl (λa (p,j)=>a.setIfInBounds (sa+k+j) p) (arrOf s))
      let x <- get
      pure (failedOf x).isNone) Q aC:=λr aC hK hG=>by
    refine wpS_bind (wpS_modify (wpS_bind (wpS_get (wpS_pure ?_))));have ka:arrOf aC=arrOf st:=hK.a;have kp:pendingOf aC=_:=hK.p;have kf:failedOf aC=none:=hK.f.trans hB.failed;have kk:kindOf aC=kd:=hK.k.trans hB.kind;show Q (failedOf aC).isNone _;rw[kf];have hlen:r.toList.length=na-k+k2:=by
     have:=hG.2.length_eq;simp only[List.length_append,Array.length_toList,zx,zy]at this ⊢;exact this
    have hbd:sa+k+r.toList.length<=(arrOf st).size:=by omega
    have get:=λm=>(rA (sa+k) r.toList 0 (arrOf st) (by simpa using hbd) m).1
    simp only[Nat.add_zero]at get;have hX:((arrOf st).extract (sa+k) (sa+na)).toList++((arrOf st).extract (sa+na) (sa+na+k2)).toList=((arrOf st).toList.drop (sa+k)).take r.toList.length:=by
     rw[hlen,List.take_add,List.drop_drop,show sa+k+(na-k)=sa+na by omega]
     rw[show sa+na=sa+k+(na-k)by omega,my,show sa+k+(na-k)=sa+na by omega,my]
    refine fin _ _ (by show _=r.toList.zipIdx.foldl _ (arrOf st);rw[ka]) kp kk kf (EE hbd (by rw[<- hX];exact hG.2)) (λm hm=>by rw[get m,if_neg ⋯]) ?_
    have ry:∀m,¬(sa+k<=m/\m<sa+k+r.toList.length)->R ρ (r.toList.zipIdx.foldl (λa (p,j)=>a.setIfInBounds (sa+k+j) p) (arrOf st)) m=R ρ (arrOf st) m:=λm hm=>hZ (by rw[get m,if_neg hm])
    have rz:∀m (h:m-(sa+k)<r.toList.length),sa+k<=m->R ρ (r.toList.zipIdx.foldl (λa (p,j)=>a.setIfInBounds (sa+k+j) p) (arrOf st)) m=ρ (r.toList[m-(sa+k)]):=λm h hm=>by
     refine dq ?_;rw[get m,if_pos ⋯,aaQ h]
    have low:∀z∈r.toList,∀i,sa<=i->i<sa+k->R ρ (arrOf st) i<=ρ z:=λz hz i i1 i2=>by
     rcases List.mem_append.mp (hG.2.mem_iff.mp hz)with hz|hz
     ·obtain⟨m,m1,m2,m3,m4⟩:=iZ hz
      rw[<- dq (ρ:=ρ) m4];exact c4 i m i1 ⋯ m2
     ·obtain⟨m,m1,m2,m3,m4⟩:=iZ hz
      have:=g1 i i1 i2;have:=c7 (sa+na) m ⋯ m1 ⋯
      rw[<- dq (ρ:=ρ) m4];omega
    have high:∀z∈r.toList,∀j,sa+na+k2<=j->j<sa+na+nb->ρ z<=R ρ (arrOf st) j:=λz hz j j1 j2=>by
     rcases List.mem_append.mp (hG.2.mem_iff.mp hz)with hz|hz
     ·obtain⟨m,m1,m2,m3,m4⟩:=iZ hz
      have:=g4 j j1 j2;have:=c4 m (sa+na-1) ⋯ ⋯ ⋯
      rw[<- dq (ρ:=ρ) m4];omega
     ·obtain⟨m,m1,m2,m3,m4⟩:=iZ hz
      rw[<- dq (ρ:=ρ) m4];exact c7 m j m1 ⋯ j2
    intro i j h1 h2 h3
    by_cases i1:i<sa+k
    ·rw[ry i ⋯]
     by_cases j1:j<sa+k
     ·rw[ry j ⋯];exact c4 i j h1 h2 ⋯
     ·by_cases j2:j<sa+k+r.toList.length
      ·rw[rz j ⋯ ⋯];exact low _ (List.getElem_mem _) i h1 i1
      ·rw[ry j ⋯]
       have:=g1 i h1 i1;have:=c7 (sa+na) j ⋯ ⋯ h3
       omega
    ·by_cases i2:i<sa+k+r.toList.length
     ·rw[rz i ⋯ ⋯]
      by_cases j2:j<sa+k+r.toList.length
      ·rw[rz j ⋯ ⋯]
       by_cases e:i=j
       ·subst e;exact Nat.le_refl _
       ·exact List.pairwise_iff_getElem.mp hG.1 _ _ ⋯ ⋯ ⋯
      ·rw[ry j ⋯];exact high _ (List.getElem_mem _) j ⋯ h3
     ·rw[ry i ⋯,ry j ⋯];exact c7 i j ⋯ h2 h3
   by_cases Vy:na-k<=k2
   ·rw[if_pos Vy]
    exact wpS_bind (wu hL hB.kind T done)
   ·rw[if_neg Vy]
    exact wpS_bind (wt hL hB.kind T done)
end
end Vs
namespace Vs
open PySem PyProof.Rows
theorem Ch.modify{ρ:Keyed->Nat}{xs:Array Keyed}{f:Run->Run}(hf:∀r,(f r).1=r.1/\(f r).2.1=r.2.1):∀(l:List Run) (i s e:Nat),Ch ρ xs s e l->Ch ρ xs s e (l.modify i f)
 | [],i,s,e,h=>by rw[List.modify_nil];exact h
 | r::l,0,s,e,⟨h1,h2,h3,h4⟩=>by
  rw[List.modify_zero_cons];exact⟨(hf r).1.trans h1,by rw[(hf r).2];exact h2,by rw[(hf r).2];exact h3,by rw[(hf r).2];exact h4⟩
 | r::l,i+1,s,e,⟨h1,h2,h3,h4⟩=>by
  rw[List.modify_succ_cons];exact⟨h1,h2,h3,Ch.modify hf l i _ _ h4⟩
section
variable {M:Model}{Ar:Around}{E:Value->Shared->Prop}{s:Shared}{ρ:Keyed->Nat}{kd:SortKind}{P:Keyed->Prop}{a₀:Array Keyed}
theorem SI.zg{st:SortSt}(h:SI kd a₀ st)(p:Array Run):SI kd a₀ (setPending st p):=⟨h.perm,h.kind,h.failed⟩
def jH(lo n:Nat):StateT SortSt Sem (ForInStep (Option Unit×Nat)):=do
 modify λs=>setPending s ((pendingOf s).push (lo,n,0))
 pure (ForInStep.yield (none,lo+n))
def h9(size pw:Nat):StateT SortSt Sem (Option Unit×Unit):=
 forIn [:size] ((none,()):Option Unit×Unit) λ_ _=>do
  let x <- get
  match(if(pendingOf x).size>1 then(pendingOf x)[(pendingOf x).size-2]? else none)with
  | some (_,_,WQ) =>
   if WQ<=pw then pure (ForInStep.done (none,()))
   else do
    let r <- mergeAt' ((pendingOf x).size-2)
    if(!r)=true then pure (ForInStep.done (some (),()))else pure (ForInStep.yield (none,()))
  | _=>pure (ForInStep.done (none,()))
def ie(size lo n:Nat):StateT SortSt Sem (ForInStep (Option Unit×Nat)):=do
 let x <- get
 match(pendingOf x).back? with
 | some (s1,n1,_)=>do
  let r <- h9 size (power' size (2*s1+n1) (2*s1+n1+n1+n) size)
  match r.fst with
  | some r=>pure (ForInStep.done (some r,lo))
  | none=>do
   modify λs=>setPending s ((pendingOf s).modify ((pendingOf s).size-1) λx=>(x.fst,x.2.fst,power' size (2*s1+n1) (2*s1+n1+n1+n) size))
   jH lo n
 | _=>jH lo n
theorem lK{st:SortSt}{lo n:Nat}{Q:ForInStep (Option Unit×Nat)->SortSt->Prop}(hB:SI kd a₀ st)(hc:Ch ρ (arrOf st) 0 lo (pendingOf st).toList)(hn:1<=n)(hs:Seg ρ (arrOf st) lo (lo+n))
  (q:∀aC,SI kd a₀ aC->Ch ρ (arrOf aC) 0 (lo+n) (pendingOf aC).toList->Q (.yield (none,lo+n)) aC):wpS M Ar E s (jH lo n) Q st:=by
 unfold jH;refine wpS_bind (wpS_modify (wpS_pure (q _ (hB.zg _) ?_)));show Ch ρ (arrOf st) 0 (lo+n) ((pendingOf st).push (lo,n,0)).toList;rw[Array.toList_push];exact Ch.app.mpr ⟨lo,hc,rfl,hn,hs,rfl⟩
theorem oK{st:SortSt}{pw lo n:Nat}{Q:Option Unit×Unit->SortSt->Prop}(hL:gy M Ar E s ρ kd P)(h0:∀p∈a₀.toList,P p)(hB:SI kd a₀ st)(wD:lo<=a₀.size)(hc:Ch ρ (arrOf st) 0 lo (pendingOf st).toList)(hs:Seg ρ (arrOf st) lo (lo+n))
  (q:∀aC,SI kd a₀ aC->Ch ρ (arrOf aC) 0 lo (pendingOf aC).toList->Seg ρ (arrOf aC) lo (lo+n)->Q (none,()) aC):wpS M Ar E s (h9 a₀.size pw) Q st:=by
 unfold h9;refine wpS_forRange (I:=λx c aC=>c=(none,())/\SI kd a₀ aC/\Ch ρ (arrOf aC) 0 lo (pendingOf aC).toList/\Seg ρ (arrOf aC) lo (lo+n)) ?step ?fin ⟨rfl,hB,hc,hs⟩
 case fin =>
  rintro c aC ⟨rfl,h1,h2,h3⟩;exact q aC h1 h2 h3
 case step =>
  rintro x c aC _ hx ⟨rfl,h1,h2,h3⟩;refine wpS_bind (wpS_get ?_)
  by_cases hz:(pendingOf aC).size>1
  ·rw[if_pos hz]
   have e:(pendingOf aC)[(pendingOf aC).size-2]?=some (pendingOf aC)[(pendingOf aC).size-2]:=Array.getElem?_eq_getElem ⋯
   rw[e];dsimp only
   split
   ·exact wpS_pure (q aC h1 h2 h3)
   ·refine wpS_bind (lJ hL h0 h1 wD h2 ⋯ λwF b1 b2 b3 b4=>?_)
    simp only[Bool.not_true,Bool.false_eq_true,if_false];exact wpS_pure ⟨rfl,b1,b2,h3.congr λk hk _=>b4 k hk⟩
  ·rw[if_neg hz]
   exact wpS_pure (q aC h1 h2 h3)
theorem wx{st:SortSt}{lo n:Nat}{Q:ForInStep (Option Unit×Nat)->SortSt->Prop}(hL:gy M Ar E s ρ kd P)(h0:∀p∈a₀.toList,P p)(hB:SI kd a₀ st)(wD:lo<=a₀.size)(hc:Ch ρ (arrOf st) 0 lo (pendingOf st).toList)(hn:1<=n)(hs:Seg ρ (arrOf st) lo (lo+n))
  (q:∀aC,SI kd a₀ aC->Ch ρ (arrOf aC) 0 (lo+n) (pendingOf aC).toList->Q (.yield (none,lo+n)) aC):wpS M Ar E s (ie a₀.size lo n) Q st:=by
 unfold ie;refine wpS_bind (wpS_get ?_)
 split
 ·refine wpS_bind (oK hL h0 hB wD hc hs λaC b1 b2 b3=>?_)
  dsimp only;refine wpS_bind (wpS_modify (lK (b1.zg _) ?_ hn b3 q));show Ch ρ (arrOf aC) 0 lo ((pendingOf aC).modify _ _).toList;rw[Array.toList_modify];refine Ch.modify ?_ _ _ _ _ b2;intro r;exact⟨rfl,rfl⟩
 ·exact lK hB hc hn hs q
theorem M9(c:Prop)[Decidable c]{n:Nat}(h:2<=n):(if c then n-2-1 else n-2)+1<n:=by split<;>omega
local macro_rules|`(tactic| walk_at "s_rest")=>`(tactic| (unfold ie h9 jH;congr 1;funext x;cases e:(pendingOf x).back? with
  | none=>rfl
  | some y=>(obtain⟨s1,n1,p1⟩:=y;dsimp only;congr 1;funext r;obtain⟨r1,r2⟩:=r;cases r1<;>rfl)))
theorem wpS_sortRuns{st:SortSt}{Q:Unit->SortSt->Prop}(hL:gy M Ar E s ρ kd P)(h0:∀p∈a₀.toList,P p)(hB:SI kd a₀ st)(hp:pendingOf st=#[])(h2:2<=a₀.size)
  (h:∀aC,SI kd a₀ aC->Seg ρ (arrOf aC) 0 a₀.size->Q () aC):wpS M Ar E s sortRuns' Q st:=by
 rw[sortRuns'_eq];refine wpS_bind (wpS_get ?_);dsimp only;rw[hB.size];generalize minRun' a₀.size a₀.size 0=mr;refine wpS_bind (wpS_mono (wpS_forRange (I:=λx c aC=>SI kd a₀ aC/\∃lo,c=(none,lo)/\lo<=a₀.size/\(x<=lo\/lo=a₀.size)/\Ch ρ (arrOf aC) 0 lo (pendingOf aC).toList)
  (Q:=λc aC=>SI kd a₀ aC/\c=(none,a₀.size)/\Ch ρ (arrOf aC) 0 a₀.size (pendingOf aC).toList) ?step ?fin ⟨hB,0,rfl,Nat.zero_le _,.inl (Nat.le_refl _),by rw[hp];rfl⟩) ?post)
 case fin =>
  rintro c aC ⟨i6,lo,rfl,l1,l2,hc⟩;have:lo=a₀.size:=by omega
  subst this;exact⟨i6,rfl,hc⟩
 case step =>
  rintro x c aC _ hx ⟨i6,lo,rfl,l1,l2,hc⟩;dsimp only
  by_cases qH:lo>=a₀.size
  ·rw[if_pos qH]
   have:lo=a₀.size:=by omega
   subst this;exact wpS_pure ⟨i6,rfl,hc⟩
  ·rw[if_neg qH]
   refine wpS_bind (wpS_countRun hL h0 ⋯ ⋯ i6 λm Rv f1 m1 m2 s1=>?_)
   dsimp only;have SA:Ch ρ (arrOf Rv) 0 lo (pendingOf Rv).toList:=by rw[f1.pend];exact hc.congr λk _ hk=>f1.same k hk
   have go:∀n wF,1<=n->lo+n<=a₀.size->SI kd a₀ wF->Ch ρ (arrOf wF) 0 lo (pendingOf wF).toList->Seg ρ (arrOf wF) lo (lo+n)->wpS M Ar E s (ie a₀.size lo n) (λr aC =>
     match r with
     | ForInStep.done c'=>SI kd a₀ aC/\c'=(none,a₀.size)/\Ch ρ (arrOf aC) 0 a₀.size (pendingOf aC).toList
     | ForInStep.yield c'=>SI kd a₀ aC/\∃lo,c'=(none,lo)/\lo<=a₀.size/\(x+1<=lo\/lo=a₀.size)/\Ch ρ (arrOf aC) 0 lo (pendingOf aC).toList) wF:=λn wF n1 n2 b1 b2 b3 =>
    wx hL h0 b1 l1 b2 n1 b3 λaC b1 b2=>⟨b1,lo+n,rfl,n2,by omega,b2⟩
   by_cases eX:m<mr
   ·rw[if_pos eX]
    refine wpS_bind (wpS_lift (wpAny_rule ⟨rfl,?_⟩));refine wpS_bind (wpS_binarySort hL h0 ⋯ ⋯ f1.si s1 λwF f2 s2=>?_)
    simp only[Bool.not_true,Bool.false_eq_true,if_false];have z:=go (min (a₀.size-lo) mr) wF ⋯ ⋯ f2.si (by rw[f2.pend];exact SA.congr λk _ hk=>f2.same k hk) s2
    refine wpS_mono (Q:=_) (Eq.mpr (congrArg (λt=>wpS M Ar E s t _ wF) (?_:_=ie a₀.size lo (min (a₀.size-lo) mr))) z) ?_
    ·walk_at "s_rest"
    ·intro r dP hr
     cases r<;>exact hr
   ·rw[if_neg eX]
    have z:=go m Rv m1 ⋯ f1.si SA s1
    refine wpS_mono (Q:=_) (Eq.mpr (congrArg (λt=>wpS M Ar E s t _ Rv) (?_:_=ie a₀.size lo m)) z) ?_
    ·walk_at "s_rest"
    ·intro r dP hr
     cases r<;>exact hr
 case post =>
  rintro c aC ⟨i6,rfl,hc⟩;dsimp only;have fC:(pendingOf aC).size<=a₀.size:=by have:=Ch.le hc;simp only[Array.length_toList]at this;omega
  refine wpS_bind (wpS_mono (wpS_forRange (I:=λx c aC=>c=(none,())/\SI kd a₀ aC/\Ch ρ (arrOf aC) 0 a₀.size (pendingOf aC).toList/\((pendingOf aC).size+x<=a₀.size\/(pendingOf aC).size<=1))
   (Q:=λc aC=>c=(none,())/\SI kd a₀ aC/\Ch ρ (arrOf aC) 0 a₀.size (pendingOf aC).toList/\(pendingOf aC).size<=1) ?fstep ?ffin ⟨rfl,i6,hc,.inl ⋯⟩) ?fpost)
  case ffin =>
   rintro c aC ⟨rfl,b1,b2,b3⟩;exact⟨rfl,b1,b2,by omega⟩
  case fstep =>
   rintro x c aC _ hx ⟨rfl,b1,b2,b3⟩;refine wpS_bind (wpS_get ?_)
   try dsimp only
   by_cases hz:(pendingOf aC).size<=1
   ·rw[if_pos hz]
    exact wpS_pure ⟨rfl,b1,b2,hz⟩
   ·rw[if_neg hz]
    refine wpS_bind (lJ hL h0 b1 (Nat.le_refl _) b2 ?_ λwF c1 c2 c3 c4=>?_)
    ·exact M9 _ ⋯
    ·simp only[Bool.not_true,Bool.false_eq_true,if_false]
     exact wpS_pure ⟨rfl,c1,c2,by omega⟩
  case fpost =>
   rintro c aC ⟨rfl,b1,b2,b3⟩;refine wpS_pure (h aC b1 ?_);have hl:(pendingOf aC).toList.length<=1:=by simpa using b3
   generalize (pendingOf aC).toList=l at b2 hl
   match l,b2,hl with
   | [],b2,_=>have:0=a₀.size:=b2;omega
   | [r],⟨_,_,h3,h4⟩,_ =>
    have h4:0+r.2.1=a₀.size:=h4;rw[h4]at h3;exact h3
   | _::_::_,_,hl=>simp at hl
end
end Vs
namespace Vs
open PySem PyProof.Rows PySem.W
theorem eE:∀a:List Int,HT.lexLt a a=false
 | []=>rfl
 | x::a=>by rw[HT.cj,if_pos rfl];exact eE a
theorem fK:∀a b c:List Int,HT.lexLt a b=true->HT.lexLt b c=true->HT.lexLt a c=true
 | [],[],_,h,_=>by cases h
 | [],_::_,[],_,h=>by cases h
 | [],_::_,_::_,_,_=>rfl
 | _::_,[],_,h,_=>by cases h
 | _::_,_::_,[],_,h=>by cases h
 | x::a,y::b,z::c,h1,h2=>by
  rw[HT.cj]at h1 h2 ⊢
  by_cases e1:x=y
  ·rw[if_pos e1]at h1
   by_cases e2:y=z
   ·rw[if_pos e2]at h2
    rw[if_pos (e1.trans e2)];exact fK a b c h1 h2
   ·rw[if_neg e2]at h2
    have:=of_decide_eq_true h2;rw[if_neg ⋯];exact decide_eq_true ⋯
  ·rw[if_neg e1]at h1
   have h1:=of_decide_eq_true h1
   by_cases e2:y=z
   ·rw[if_neg ⋯];exact decide_eq_true ⋯
   ·rw[if_neg e2]at h2
    have:=of_decide_eq_true h2;rw[if_neg ⋯];exact decide_eq_true ⋯
theorem kK:∀a b:List Int,HT.lexLt a b=false->HT.lexLt b a=false->a=b
 | [],[],_,_=>rfl
 | [],_::_,h,_=>by cases h
 | _::_,[],_,h=>by cases h
 | x::a,y::b,h1,h2=>by
  rw[HT.cj]at h1 h2
  by_cases e1:x=y
  ·rw[if_pos e1]at h1
   rw[if_pos e1.symm]at h2;rw[e1,kK a b h1 h2]
  ·rw[if_neg e1]at h1
   rw[if_neg (Ne.symm e1)]at h2;have:=of_decide_eq_false h1;have:=of_decide_eq_false h2;omega
def rk(d:Keyed->List Int)(l:List Keyed)(x:Keyed):Nat:=l.countP λp=>HT.lexLt (d p) (d x)
theorem oZ{α:Type}{p q:α->Bool}:∀ {l:List α} {x:α},(∀y,p y=true->q y=true)->x∈l->p x=false->q x=true->l.countP p<l.countP q
 | y::l,x,h,hx,h1,h2=>by
  rcases List.mem_cons.mp hx with rfl|hx
  ·rw[List.countP_cons_of_neg (by rw[h1];decide),List.countP_cons_of_pos h2]
   exact Nat.lt_succ_of_le (List.countP_mono_left λy _=>h y)
  ·have ih:=oZ h hx h1 h2
   rw[List.countP_cons,List.countP_cons];cases e:p y with
   | true=>rw[h y e];simpa using ih
   | false=>split<;>split<;>first|omega | (exfalso;simp_all)
theorem pV{d:Keyed->List Int}{l:List Keyed}{x y:Keyed}(hx:x∈l):decide (rk d l x<rk d l y)=HT.lexLt (d x) (d y):=by
 cases e:HT.lexLt (d x) (d y)with
 | true =>
  refine decide_eq_true (oZ (x:=x) (λp hp=>fK _ _ _ hp e) hx (eE _) e)
 | false =>
  refine decide_eq_false (Nat.not_lt.mpr (List.countP_mono_left λp _ hp=>?_));cases e2:HT.lexLt (d p) (d x)with
  | true=>rfl
  | false =>
   cases e3:HT.lexLt (d x) (d p)with
   | true=>rw[fK _ _ _ e3 hp]at e;cases e
   | false =>
    rw[kK _ _ e2 e3]at hp;rw[hp]at e;cases e
section
variable {prog:Program}{w:World}{A:Around}{E:Value->Shared->Prop}{s:Shared}
theorem lA{b:Bool}{Q:Bool->Shared->Prop}:∀ {vs ws:List Value} {ns ms:List Int} (i:Nat) (fin:Bool),IntsAre vs ns->IntsAre ws ms->fin=decide (vs.length<ws.length)->Q (HT.lexLt ns ms) s->KatLex prog w A b fin Q (vs.zip ws) i s
 | _,_,_,_,i,fin,.nil,.nil,e,q=>by subst e;exact kat_nil q
 | _,_,_,_,i,fin,.nil,.cons _ _ _,e,q=>by subst e;rw[HT.eQ]at q;exact kat_nil (by simpa using q)
 | _,_,_,_,i,fin,.cons _ _ _,.nil,e,q=>by subst e;rw[HT.eP]at q;exact kat_nil (by simpa using q)
 | _,_,_,_,i,fin,.cons n t h1,.cons m u h2,e,q=>by
  rw[List.zip_cons_cons];refine kat_cons (wpAny_eqBool_int ?_);rw[HT.cj]at q
  by_cases h:n=m
  ·rw[if_pos h]at q
   rw[show(n==m)=true from by simpa using h]
   exact kat_yes (lA (i+1) fin h1 h2 (by rw[e];simp) q)
  ·rw[if_neg h]at q
   rw[show(n==m)=false from by simpa using h]
   refine kat_no ?_;cases(b&&i==0)with
   | true=>exact oneLt_int q
   | false=>exact kat_one _ _ (lt_int q)
def qg(h:Heap)(v:Value)(ns:List Int):Prop:=∃a o xs n,v=.ref a/\h.get? a=some o/\o.cls=.type "tuple"/\o.data=.seq xs n/\IntsAre xs.toList ns
theorem qg.kept{h g:Heap}{v:Value}{ns:List Int}(t:qg h v ns)(k:∀b o,h.get? b=some o->g.get? b=some o):qg g v ns:=by
 obtain⟨a,o,xs,n,e,ho,r⟩:=t;exact⟨a,o,xs,n,e,k _ _ ho,r⟩
theorem Aq{b:Bool}{v u:Value}{ns ms:List Int}{Q:Bool->Shared->Prop}(h1:qg s.heap v ns)(h2:qg s.heap u ms)(q:Q (HT.lexLt ns ms) s):wpAny (model prog w) A (keyLt' (tuples' b) v u) Q E s:=by
 obtain⟨a,o,xs,n,rfl,ho,hc,hd,hi⟩:=h1;obtain⟨a2,o2,X8,n2,rfl,Hd,Dz,hd2,xl⟩:=h2;exact kat_lt ho hd Hd hd2 (lA 0 _ hi xl (by simp) q)
theorem HA{b:Bool}{l:List Keyed}{d:Keyed->List Int}(h:∀x∈l,qg s.heap x.1 (d x)):gy (model prog w) A E s (rk d l) (tuples' b) (λx=>x∈l):=λx y st Q hx hy hk q=>by
 rw[pV hx]at q;rw[lt'_eq];refine wpS_bind (wpS_get ?_);rw[hk];exact wpS_bind (wpS_lift (wpAny_attempt (Aq (h x hx) (h y hy) ⟨rfl,wpS_pure q⟩)))
theorem DS{vs:List Value}{Q:SortKind->Shared->Prop}(hl:0<vs.length)(h:∀v∈vs,∃ns,qg s.heap v ns/\ns≠[])(q:Q (tuples' true) s):wpAny (model prog w) A (keyKind' vs.toArray) Q E s:=by
 have key:∀vs:List Value,(∀v∈vs,∃ns,qg s.heap v ns/\ns≠[])->∃fs,KatTups s.heap vs fs/\fs.length=vs.length/\∀v∈fs,∃n t,v=Value.int n t:=by
  intro vs
  induction vs with
  | nil=>intro _;exact⟨[],KatTups.nil,rfl,λv hv=>by cases hv⟩
  | cons v vs ih =>
   intro h;obtain⟨ns,⟨a,o,xs,n,rfl,ho,hc,hd,hi⟩,cU⟩:=h v (List.mem_cons_self ..);obtain⟨fs,f1,f2,f3⟩:=ih λu hu=>h u (List.mem_cons_of_mem _ hu);obtain⟨f,hf,hn⟩:∃f,xs[0]?=some f/\∃n t,f=Value.int n t:=by
    rw[<- Array.getElem?_toList];generalize xs.toList=ys at hi;cases hi with
    | nil=>exact absurd rfl cU
    | cons n t _=>exact⟨_,rfl,n,t,rfl⟩
   refine⟨f::fs,KatTups.cons ho hc hd hf f1,by simp [f2],λv hv=>?_⟩
   rcases List.mem_cons.mp hv with rfl|hv
   ·exact hn
   ·exact f3 v hv
 obtain⟨fs,f1,f2,f3⟩:=key vs h;refine kat_kind (T:=.type "int") f1 ⋯ (λv hv=>?_) rfl q
 obtain⟨n,t,rfl⟩:=f3 v hv;exact Looks.now
theorem iP{a:Addr}{vs:List Value}{n:Nat}{kd:SortKind}{ρ:Keyed->Nat}{P:Keyed->Prop}{Pf:PySem.Fin->Shared->Prop}(ho:s.heap.get? a=some (seqObj "list" vs.toArray n))(hz:vs.length<=sizeLine)(h0:∀p∈(pairsOf vs).toList,P p)
  (hk:2<=vs.length->∀g:Heap,(∀b o,b≠a->s.heap.get? b=some o->g.get? b=some o)->(∀Q:SortKind->Shared->Prop,Q kd {s with heap:=g}->wpAny (model prog w) A (keyKind' vs.toArray) Q E {s with heap:=g})/\gy (model prog w) A E {s with heap:=g} ρ kd P)
  (h:∀(xs:Array Keyed) (g:Heap) (c:Nat),xs.Perm (pairsOf vs)->Seg ρ xs 0 vs.length->(∀b o,b≠a->s.heap.get? b=some o->g.get? b=some o)->g.get? a=some (seqObj "list" (xs.map (·.2)) c)->Pf (.done (.ret .none)) {s with heap:=g}):
  wpAny (model prog w) A (Builtin.«list.sort» ⟨[.ref a],[]⟩) Pf E s:=by
 rw[list_sort_plain];have ha:a<s.heap.objs.size:=Heap.lt_size ho;have hsz:vs.toArray.size=vs.length:=by simp
 refine aaO (listItems_at ho rfl ?_);refine aaO (listUpdate_at ho rfl ?_ (by rw[hsz];exact hz) (Nat.zero_le _))
 obtain⟨e1,ho1⟩:∃e1,(s.heap.update a (Obj.mapSeq λ_=>#[])).get? a=some (seqObj "list" #[] e1):=⟨_,get?_update_seq ho (λ_=>#[])⟩;refine aaO (seqEpoch_at ho1 rfl ?_);refine aaO (wpAny_newTuple ?_ (by show vs.length<=_;exact hz))
 refine aaO (wpAny_newList ?_ (Nat.zero_le _));refine wpAny_holding ?_;have keep:∀b o,b≠a->s.heap.get? b=some o->(((s.heap.update a (Obj.mapSeq λ_=>#[])).push (seqObj "tuple" vs.toArray 0)).push (seqObj "list" #[] 0)).get? b=some o:=λb o hb e =>
  aaP _ (aaP _ ((Heap.get?_update_other _ _ (Ne.symm hb)).trans e))
 have SG:(((s.heap.update a (Obj.mapSeq λ_=>#[])).push (seqObj "tuple" vs.toArray 0)).push (seqObj "list" #[] 0)).get? a=some (seqObj "list" #[] e1):=aaP _ (aaP _ ho1);show wpAny (model prog w) A _ Pf E {s with heap:=((s.heap.update a (Obj.mapSeq λ_=>#[])).push (seqObj "tuple" vs.toArray 0)).push (seqObj "list" #[] 0)}
 dsimp only;generalize hg6:((s.heap.update a (Obj.mapSeq λ_=>#[])).push (seqObj "tuple" vs.toArray 0)).push (seqObj "list" #[] 0)=g6 at keep SG;have fin:∀xs:Array Keyed,xs.Perm (pairsOf vs)->Seg ρ xs 0 vs.length->Pf (.done (.ret .none)) {s with heap:=g6.update a (Obj.mapSeq λ_=>xs.map (·.2))}:=λxs hp hs =>
  h xs _ _ hp hs (λb o hb e=>(Heap.get?_update_other _ _ (Ne.symm hb)).trans (keep b o hb e)) (get?_update_seq SG λ_=>xs.map (·.2))
 by_cases h2:vs.toArray.size<2
 ·rw[if_pos h2,if_pos h2]
  refine aaO (wpAny_pure ?_);rw[StateT.run_pure];refine aaO (wpAny_pure ?_);dsimp only;refine aaO (seqEpoch_at SG rfl ?_);refine aaO (listUpdate_at SG rfl ?_ (Nat.zero_le _) (by rw[Array.size_map];show(pairsOf vs).size<=_;rw[pairsOf_size];exact Nat.le_succ_of_le hz))
  simp only[bne_self_eq_false,Bool.false_eq_true,if_false];refine wpAny_pure (fin _ (Array.Perm.refl _) λi j _ ku hj=>?_);have:i=j:=by omega
  subst this;exact Nat.le_refl _
 ·rw[if_neg h2,if_neg h2]
  obtain⟨k1,k2⟩:=hk ⋯ g6 keep
  refine aaO (k1 _ ?_);refine aaO (wpAny_mono (wpS_sortRuns (a₀:=pairsOf vs) (kd:=kd) (st:=SortSt.mk' kd (vs.toArray.zip vs.toArray) #[] 7 none)
   (Q:=λ_ aC=>SI kd (pairsOf vs) aC/\Seg ρ (arrOf aC) 0 (pairsOf vs).size) k2 h0 ⟨Array.Perm.refl _,rfl,rfl⟩ rfl (by rw[pairsOf_size];omega) λaC a1 a2=>⟨a1,a2⟩) ?_ λ_ _ e=>e)
  rintro⟨⟨⟩,aC⟩ s' ⟨rfl,hp,hs⟩;dsimp only;refine aaO (seqEpoch_at SG rfl ?_);refine aaO (listUpdate_at SG rfl ?_ (Nat.zero_le _) (by refine Nat.le_trans (Nat.le_of_eq ((Array.size_map ..).trans (hp.size.trans (pairsOf_size _)))) ?_;exact Nat.le_succ_of_le hz))
  rw[hp.failed];simp only[bne_self_eq_false,Bool.false_eq_true,if_false];rw[pairsOf_size]at hs;exact wpAny_pure (fin _ hp.perm hs)
theorem nN{l:Addr}{vs:List Value}{kd:SortKind}{ρ:Keyed->Nat}{P:Keyed->Prop}{Q:Value->Shared->Prop}(hl:s.heap.IsList l vs.toArray)(hz:vs.length<=sizeLine)(h0:∀p∈(pairsOf vs).toList,P p)
  (hk:2<=vs.length->∀(A':Around) (E':Value->Shared->Prop) (g:Heap),(∀b o,s.heap.get? b=some o->g.get? b=some o)->(∀Q:SortKind->Shared->Prop,Q kd {s with heap:=g}->wpAny (model prog w) A' (keyKind' vs.toArray) Q E' {s with heap:=g})/\gy (model prog w) A' E' {s with heap:=g} ρ kd P)
  (h:∀(xs:Array Keyed) (g:Heap) (c:Nat),xs.Perm (pairsOf vs)->Seg ρ xs 0 vs.length->(∀b o,s.heap.get? b=some o->g.get? b=some o)->g.get? (s.heap.objs.size+1)=some (seqObj "list" (xs.map (·.2)) c)->Q (.ref (s.heap.objs.size+1)) {s with heap:=g}):
  wpAny (model prog w) A (call (.builtin "sorted") [.ref l]) Q E s:=by
 refine Calls.call_function_entry kind_sorted plain_sorted entry_sorted (args_sorted1 _) ?_;unfold Builtin.«sorted»;refine aaO (m:=checkCount "sorted" 1 1 _) (wpAny_pure ?_);refine aaO (collect_list hl ?_ hz);refine aaO (wpAny_newList ?_ hz);have hsz:((s.heap.push (seqObj "list" #[] 0)).update s.heap.objs.size (Obj.mapSeq (·++vs.toArray))).objs.size=s.heap.objs.size+1:=by
  rw[Heap.size_update,size_push']
 have MZ:(((s.heap.push (seqObj "list" #[] 0)).update s.heap.objs.size (Obj.mapSeq (·++vs.toArray))).push (seqObj "list" vs.toArray 0)).get? (s.heap.objs.size+1)=some (seqObj "list" vs.toArray 0):=by
  rw[<- hsz];exact Heap.get?_push_size _ rfl
 have keep:∀b o,s.heap.get? b=some o->(((s.heap.push (seqObj "list" #[] 0)).update s.heap.objs.size (Obj.mapSeq (·++vs.toArray))).push (seqObj "list" vs.toArray 0)).get? b=some o:=λb o e=>by
  have eX:b<s.heap.objs.size:=Heap.lt_size e;exact aaP _ ((Heap.get?_update_other _ _ (Ne.symm (Nat.ne_of_lt eX))).trans (aaP _ e))
 have ne:∀b o,s.heap.get? b=some o->b≠s.heap.objs.size+1:=λb o e=>Nat.ne_of_lt (Nat.lt_succ_of_lt (Heap.lt_size e));show wpAny _ _ _ _ _ {s with heap:=((s.heap.push (seqObj "list" #[] 0)).update s.heap.objs.size (Obj.mapSeq (·++vs.toArray))).push (seqObj "list" vs.toArray 0)}
 rw[hsz];refine aaO (wpAny_holding (wpAny_call_entry slot_list_sort ⟨_,MZ,rfl⟩ entry_list_sort (iP (kd:=kd) (ρ:=ρ) (P:=P) MZ hz h0 (λh2 g kg=>hk h2 _ _ g λb o e=>kg b o (ne b o e) (keep b o e)) λxs g c a1 a2 a3 a4=>⟨_,rfl,?_⟩) (args_list_sort _)));exact wpAny_pure ⟨_,rfl,h xs g c a1 a2 (λb o e=>a3 b o (ne b o e) (keep b o e)) a4⟩
end
end Vs
namespace Vc
open PySem L2
def toV:Value->V
 | .ref a=>.ref a
 | _=>.bD
theorem wc{us:List V}{its:List Value}(r:Vals us its)(h:∀u∈us,∃a,u=.ref a):us=its.map toV:=by
 induction r with
 | nil=>rfl
 | cons r _ ih =>
  obtain⟨a,rfl⟩:=h _ (List.mem_cons_self ..);cases r;rw[List.map_cons,<- ih λu hu=>h u (List.mem_cons_of_mem _ hu)];rfl
theorem zG{its:List Value}(h:∀v∈its,∃a,v=.ref a):Vals (its.map toV) its:=by
 induction its with
 | nil=>exact .nil
 | cons v its ih =>
  obtain⟨a,rfl⟩:=h _ (List.mem_cons_self ..);exact .cons rfl (ih λu hu=>h u (List.mem_cons_of_mem _ hu))
theorem d0{α:Type}:∀l:List α,l.zip l=l.map λx=>(x,x)
 | []=>rfl
 | x::l=>by rw[List.zip_cons_cons,List.map_cons,d0 l]
theorem tG{X:Cx}:cK X (.builtin "sorted") (λxs H Q=>∃(p:Addr) (us:List V) (dd:V->List Int),xs=[.ref p]/\gn X.K H p us/\(∀u∈us,(∃a,u=.ref a/\kq X.K H a ((dd u).map V.int))/\dd u≠[]) /\
  ∀(om:List V),om.Perm us->om.Pairwise (λx y=>HT.lexLt (dd y) (dd x)=false)->∀l,H l=none->Q (.ref l) (upd H l (.lst om))):=by
 intro pins s σ H xs S6 Q I r h;obtain⟨p,us,dd,rfl,hq,hu,q⟩:=h;obtain⟨u,rfl,rx⟩:=vals1 r;cases rx;obtain⟨its,rv,pl,hz⟩:=I.list hq;have hlen:=rv.length;have UU:us=its.map toV:=wc rv λu h=>by obtain⟨⟨a,e,_⟩,_⟩:=hu u h;exact⟨a,e⟩
 have uP:∀v∈its,∃a,v=.ref a:=λv hv=>by
  obtain⟨i,hi,e⟩:=List.mem_iff_getElem.mp hv;obtain⟨u,VL,ru⟩:=rv.get (i:=i) (x:=us[i]'⋯) (aaQ _)
  rw[aaQ hi]at VL;cases VL;obtain⟨⟨a,e2,_⟩,_⟩:=hu (us[i]'⋯) (List.getElem_mem _)
  rw[e2]at ru;exact⟨a,by rw[<- e];exact ru⟩
 have tup:∀v∈its,Vs.qg s.heap v (dd (toV v))/\dd (toV v)≠[]:=λv hv=>by
  obtain⟨a,rfl⟩:=uP v hv;have hm:toV (.ref a)∈us:=by rw[UU];exact List.mem_map.mpr ⟨_,hv,rfl⟩
  obtain⟨⟨b,e,hT⟩,cU⟩:=hu _ hm;cases e;obtain⟨ts,r1,⟨o,ho,hc,n,hd⟩,_⟩:=I.tuple hT;exact⟨⟨a,o,ts.toArray,n,rfl,ho,hc,hd,intsAre_of r1⟩,cU⟩
 have mem:∀x:PyProof.Rows.Keyed,x∈(PyProof.Rows.pairsOf its).toList->x.1∈its/\x.1=x.2:=λx hx=>by
  rw[PyProof.Rows.pairsOf_toList,d0]at hx;obtain⟨v,hv,rfl⟩:=List.mem_map.mp hx;exact⟨hv,rfl⟩
 refine Vs.nN (kd:=PyProof.Rows.tuples' true) (ρ:=Vs.rk (λx=>dd (toV x.1)) (PyProof.Rows.pairsOf its).toList) (P:=λx=>x∈(PyProof.Rows.pairsOf its).toList) pl.isList ⋯ (λ_ h=>h) (λh2 A' E' g kg=>⟨λQ hQ=>?_,?_⟩) λxs g c hp hs kg hg=>?_
 ·exact Vs.DS (s:={s with heap:=g}) ⋯ (λv hv=>⟨_,(tup v hv).1.kept kg,(tup v hv).2⟩) hQ
 ·exact Vs.HA (s:={s with heap:=g}) λx hx=>(tup x.1 (mem x hx).1).1.kept kg
 ·have fC:xs.toList.Perm (PyProof.Rows.pairsOf its).toList:=Array.perm_iff_toList_perm.mp hp
  have hsz:xs.size=its.length:=by have:=hp.size_eq;rw[PyProof.Rows.pairsOf_size]at this;exact this
  have ji:∀x∈xs.toList,x.1∈its/\x.1=x.2:=λx hx=>mem x (fC.mem_iff.mp hx);have perm:(xs.toList.map λx=>toV x.2).Perm us:=by
   rw[UU];refine(fC.map λx=>toV x.2).trans ?_;rw[PyProof.Rows.pairsOf_toList,d0,List.map_map];exact List.Perm.refl _
  have eq2:xs.toList.map (λx=>toV x.2)=(xs.map (·.2)).toList.map toV:=by
   rw[Array.toList_map,List.map_map];rfl
  refine⟨.ref (s.heap.objs.size+1),_,I.laid (t':=s.toks) (o:=.lst (xs.toList.map λx=>toV x.2)) kg (Nat.le_succ _) ⟨?_,(xs.map (·.2)).toList,c,?_,hg⟩,rfl,q _ perm ?_ _ (I.bU.fresh (Nat.le_succ _))⟩
  ·rw[perm.length_eq];exact hz
  ·rw[eq2]
   refine zG λv hv=>?_;rw[Array.toList_map]at hv;obtain⟨x,hx,rfl⟩:=List.mem_map.mp hv;have:=ji x hx;exact uP _ (this.2 ▸ this.1)
  ·rw[List.pairwise_map]
   refine List.pairwise_iff_getElem.mpr λi j hi hj ku=>?_;have sS:i<xs.size:=by simpa using hi
   have Bb:j<xs.size:=by simpa using hj
   have h1:=hs i j (Nat.zero_le _) (Nat.le_of_lt ku) ⋯
   rw[Vs.dq (Array.getElem?_eq_getElem sS),Vs.dq (Array.getElem?_eq_getElem Bb)]at h1;have e1:xs.toList[i]=xs[i]:=rfl;have e2:xs.toList[j]=xs[j]:=rfl;rw[e1,e2];have m1:=ji xs[i] (by simp)
   have m2:=ji xs[j] (by simp)
   have:=Vs.pV (d:=λx=>dd (toV x.1)) (l:=(PyProof.Rows.pairsOf its).toList) (x:=xs[j]) (y:=xs[i]) (fC.mem_iff.mp (by simp))
   rw[decide_eq_false ⋯]at this
   rw[<- m1.2,<- m2.2];exact this.symm
variable [KF]
variable {G:GE}{k:Nat}{S:Stat}
def fz:D->List Int
 | .tup xs=>xs.map fJ
 | .int i=>[i]
 | _=>[]
def oi(x y:D):Bool:=!HT.lexLt (fz y) (fz x)
def eg(xs:List D):List D:=xs.mergeSort oi
def iD:D->Bool
 | .tup xs=>xs.all isInt&&!xs.isEmpty
 | _=>false
theorem kI(a b c:D)(h1:oi a b=true)(h2:oi b c=true):oi a c=true:=by
 unfold oi at *;simp only[Bool.not_eq_true']at *;cases e:HT.lexLt (fz c) (fz a)with
 | false=>rfl
 | true =>
  cases e2:HT.lexLt (fz c) (fz b)with
  | true=>rw[h2]at e2;cases e2
  | false =>
   cases e3:HT.lexLt (fz b) (fz c)with
   | true=>rw[Vs.fK _ _ _ e3 e]at h1;cases h1
   | false=>rw[Vs.kK _ _ e2 e3]at e;rw[e]at h1;cases h1
theorem As(a b:D):(oi a b||oi b a)=true:=by
 unfold oi;cases e:HT.lexLt (fz b) (fz a)with
 | false=>rfl
 | true =>
  cases e2:HT.lexLt (fz a) (fz b)with
  | false=>rfl
  | true=>have:=Vs.fK _ _ _ e e2;rw[Vs.eE]at this;cases this
theorem cF(xs:List D):(eg xs).Perm xs:=List.mergeSort_perm xs oi
theorem gf(xs:List D):(eg xs).Pairwise λx y=>oi x y=true:=List.pairwise_mergeSort kI As xs
theorem ints_map:∀ {xs:List D},xs.all isInt=true->(xs.map fJ).map D.int=xs
 | [],_=>rfl
 | x::xs,h=>by
  rw[List.all_cons,Bool.and_eq_true]at h;cases x with
  | int i=>rw[List.map_cons,List.map_cons,ints_map h.2];rfl
  | _=>exact absurd h.1 (by simp [isInt])
theorem fh{d:D}(h:iD d=true):d=.tup ((fz d).map D.int):=by
 cases d with
 | tup xs =>
  unfold iD at h;rw[Bool.and_eq_true]at h;show D.tup xs=.tup ((xs.map fJ).map D.int);rw[ints_map h.1]
 | _=>exact absurd h (by simp [iD])
theorem gL{α:Type}{r:α->α->Prop}:∀ {l m:List α},l.Perm m->(∀a∈l,∀b∈l,r a b->r b a->a=b)->l.Pairwise r->m.Pairwise r->l=m
 | [],m,h,_,_,_=>(List.nil_perm.mp h).symm
 | a::l,[],h,_,_,_=>by have:=h.length_eq;simp at this
 | a::l,b::m,h,TY,h1,h2=>by
  have hb:b∈a::l:=h.symm.mem_iff.mp (List.mem_cons_self ..);have ha:a∈b::m:=h.mem_iff.mp (List.mem_cons_self ..);rw[List.pairwise_cons]at h1 h2;have e:a=b:=by
   rcases List.mem_cons.mp hb with e|hb
   ·exact e.symm
   ·rcases List.mem_cons.mp ha with e|ha
    ·exact e
    ·exact TY a (List.mem_cons_self ..) b (List.mem_cons_of_mem _ hb) (h1.1 b hb) (h2.1 a ha)
  subst e;rw[gL h.cons_inv (λx hx y hy=>TY x (List.mem_cons_of_mem _ hx) y (List.mem_cons_of_mem _ hy)) h1.2 h2.2]
theorem E9{xs ys:List D}(h:xs.all iD=true)(hp:ys.Perm xs)(hs:ys.Pairwise λx y=>oi x y=true):ys=eg xs:=by
 refine gL (hp.trans (cF xs).symm) (λa ha b hb h1 h2=>?_) hs (gf xs);have ia:=fh (List.all_eq_true.mp h a (hp.mem_iff.mp ha));have ib:=fh (List.all_eq_true.mp h b (hp.mem_iff.mp hb));unfold oi at h1 h2;simp only[Bool.not_eq_true']at h1 h2;rw[ia,ib,Vs.kK _ _ h2 h1]
def mw:List D->(EV->Prop)->Prop
 | [.lst xs],Q=>xs.all iD=true/\Q (.own (eg xs))
 | _,_=>False
def GX(F:Hp):V->List Int
 | .ref a=>match F a with
  | some (.tup vs)=>vs.map λv=>match v with|.int i=>i|_=>0
  | _=>[]
 | _=>[]
theorem qw{F:Hp}{v:V}{d:D}(r:Rep F v d)(h:iD d=true):GX F v=fz d/\∃a,v=.ref a/\F a=some (.tup ((fz d).map V.int)):=by
 cases r with
 | tup hf rl =>
  unfold iD at h;rw[Bool.and_eq_true]at h;have e:=rl.ints h.1;subst e;refine⟨?_,_,rfl,hf⟩;unfold GX;dsimp only;rw[hf];dsimp only;rw[List.map_map];exact(List.map_congr_left (λx _=>rfl)).trans (List.map_id _)
 | _=>exact absurd h (by simp [iD])
theorem vJ{F:Hp}:∀ {vs:List V} {xs:List D},aD F vs xs->xs.all iD=true->xs=vs.map λv=>.tup ((GX F v).map D.int)
 | _,_,.nil,_=>rfl
 | _,_,.cons r t,h=>by
  rw[List.all_cons,Bool.and_eq_true]at h;rw[List.map_cons,<- vJ t h.2,(qw r h.1).1,<- fh h.1]
theorem aD.mem{F:Hp}:∀ {vs:List V} {xs:List D},aD F vs xs->∀v∈vs,∃d∈xs,Rep F v d
 | _,_,.cons r t,v,hv=>by
  rcases List.mem_cons.mp hv with rfl|hv
  ·exact⟨_,List.mem_cons_self ..,r⟩
  ·obtain⟨d,hd,rd⟩:=aD.mem t v hv
   exact⟨d,List.mem_cons_of_mem _ hd,rd⟩
theorem rG{F:Hp}{f:V->D}:∀ {vs:List V},(∀v∈vs,Rep F v (f v))->aD F vs (vs.map f)
 | [],_=>.nil
 | v::vs,h=>.cons (h v (List.mem_cons_self ..)) (rG λu hu=>h u (List.mem_cons_of_mem _ hu))
theorem C8:zK G k S (.builtin "sorted") mw:=⟨λK xs H Q=>∃(p:Addr) (us:List V) (dd:V->List Int),xs=[.ref p]/\gn K H p us/\(∀u∈us,(∃a,u=.ref a/\kq K H a ((dd u).map V.int))/\dd u≠[]) /\
  ∀(om:List V),om.Perm us->om.Pairwise (λx y=>HT.lexLt (dd y) (dd x)=false)->∀l,H l=none->Q (.ref l) (upd H l (.lst om)),λ_ _ ok=>tG,λY F H ak σ vs ds Qd Q R r q g=>by
 unfold mw at q
 split at q
 ·rename_i xs
  obtain⟨v,rfl,rv⟩:=r.one;obtain⟨p,us,rfl,h1,h2⟩:=rv.lst;have all:=List.all_eq_true.mp q.1;refine⟨p,us,GX F,rfl,.inl h1,λu hu=>?_,λom hp hs=>?_⟩
  ·obtain⟨d,hd,rd⟩:=h2.mem u hu
   obtain⟨e1,a,rfl,e2⟩:=qw rd (all d hd);refine⟨⟨a,rfl,.of (by rw[e1];exact R.fr _ _ e2)⟩,?_⟩
   rw[e1];have hi:=all d hd;cases d with
   | tup ys =>
    unfold iD at hi;rw[Bool.and_eq_true]at hi;intro z;have:ys=[]:=by simpa [fz]using z
    subst this;exact absurd hi.2 ∅
   | _=>exact absurd hi (by simp [iD])
  ·have ex:=vJ h2 q.1
   have rep:∀v∈om,Rep F v (.tup ((GX F v).map D.int)):=λv hv=>by
    obtain⟨d,hd,rd⟩:=h2.mem v (hp.mem_iff.mp hv);rw[(qw rd (all d hd)).1,<- fh (all d hd)];exact rd
   have key:∀v,fz (.tup ((GX F v).map D.int))=GX F v:=λv=>by
    show((GX F v).map D.int).map fJ=_;rw[List.map_map];exact(List.map_congr_left (λx _=>rfl)).trans (List.map_id _)
   have e:om.map (λv=>D.tup ((GX F v).map D.int))=eg xs:=by
    refine E9 q.1 (by rw[ex];exact hp.map _) ?_
    rw[List.pairwise_map];refine hs.imp λ{x y} h=>?_;unfold oi;rw[key,key,h];rfl
   have rl:=rG rep;rw[e]at rl;exact g.own R rl q.2
 ·exact q.elim⟩
end Vc
namespace Vc
open PySem L2
variable [KF]
variable {G:GE}{k:Nat}{S:Stat}
def DL(i:Nat)(j:Int)(d:D)(σ:Sd)(Q:Sd->Prop):Prop:=match σ[i]? with
 | some (some (.own xs))=>match yN xs.length j with
  | some m=>Q (σ.set i (some (.own (xs.set m d))))
  | none=>False
 | _=>False
def vV(i:Nat)(tx:TV)(te:TD):cS:=λDe σ=>te σ λd aA=>uO aA i/\tx aA λy bh=>match eW bh y with
 | some (.int j)=>DL i j d bh De.nx
 | _=>False
theorem Il{X:Cx}{st:Stmt}{t t':TS}(h:PS X st t)(i:∀Dn σ H,t' Dn σ H->t Dn σ H):PS X st t':=λpins s σ H Dn I q=>h pins s σ H Dn I (i Dn σ H q)
theorem xM(i:Nat){x:Str}{ix e:Expr}{tx:TV}{te:TD}{pos gB iE:Pos}(he:ED G k S e te)(hx:EO G k S ix tx)(ho:EO G k S (.Name x iE) (ag i))
  (hs:∀line env,swapsWithSole [.Subscript (.Name x iE) ix gB] e line env=pure false:=by intro _ _;rfl) (hw:∀env,swappedStores [.Subscript (.Name x iE) ix gB] e env=pure none:=by intro _;rfl)
  (h1:∀env,(assignEach [.Subscript (.Name x iE) ix gB] env).map (·.2)=[assign (.Subscript (.Name x iE) ix gB) env]:=by intro _;rfl)
  (ha:∀env v,assign (.Subscript (.Name x iE) ix gB) env v=(do
   let ov <- holding [v] (eval (.Name x iE) env)
   let iv <- holding [v,ov] (eval ix env)
   standAt gB
   holding [v,ov,iv] (setItem ov iv v)
   release [v,ov,iv] []):=by intro _ _;rfl):ES G k S (.Assign [.Subscript (.Name x iE) ix gB] e pos) (vV i tx te):=.mk λX Y ok =>
 Il (Qr (he X Y ok) (PL (ho X Y ok) (hx X Y ok) set_list (ha _)) (hs _ _) (hw _) (h1 _)) λDn σ H q=>by
  obtain⟨F,ak,De,R,q,K⟩:=q;refine⟨F,ak,_,R,q,λv H1 F1 d aA s1 R1 r1 q1=>?_⟩;obtain⟨⟨ys,e0⟩,q1⟩:=q1;refine⟨F1,aA,λov bh=>ov=.var i/\bh=aA,R1,?_,λv2 H2 F2 ov bh s2 R2 r2 q2=>?_⟩
  ·unfold ag;rw[e0];exact⟨rfl,rfl⟩
  ·obtain⟨rfl,rfl⟩:=q2
   have r2:σ[i]?=some (some v2):=r2;refine⟨F2,bh,_,R2,q1,λv3 H3 F3 y gk s3 R3 r3 q3=>?_⟩
   split at q3
   ·rename_i j ej
    unfold DL at q3
    split at q3
    ·rename_i xs ex
     split at q3
     ·rename_i m em
      obtain⟨a,vs,w1,w2,w3,w4,w5⟩:=R3.own i xs ex;rw[r2]at w1;cases w1;have rj:=(R3.eW r3 ej).int;subst rj;refine⟨a,vs,j,m,rfl,rfl,w2,by rw[w3.length];exact em,?_⟩
      exact K.nx _ _ F3 _ ((s1.trans s2).trans s3) (R3.write ex r2 (aD.set ((r1.mono s2).mono s3) m w3)) q3
     ·exact q3.elim
    ·exact q3.elim
   ·exact q3.elim
abbrev lq:=List D->List D->(B->List D->Prop)->Prop
def rY(sp:lq):Sp:=λvs H Q _=>∃F xs ds a us rest Qd,vs=.ref a::rest/\tj F H/\H a=some (.lst us)/\aD F us xs/\F a=none/\aD F rest ds/\sp xs ds Qd /\
 ∀v H' F' b ys om,av F F'->av F' H'->(∀c o,c≠a->H c=some o->H' c=some o)->H' a=some (.lst om)->aD F' om ys->F' a=none->(∀c o,F' c=some o->F c=some o\/Nw H c o)->KN H F' H' v b->Qd b ys->Q v H'
def iy(G:GE)(k:Nat)(x:Str)(sp:lq):Prop:=∃f fd ps,eI G.P G.w G.K G.mg G.base sR k f fd ps (rY sp)/\G.mg x=some (.ref f)/\PySem.W.keepIn G.K (.ref f)=true/\Binds G.K fd ps []
theorem iy.mono{x:Str}{sp:lq}{j:Nat}(h:iy G j x sp)(l:j<=k):iy G k x sp:=by
 obtain⟨f,fd,ps,h1,h2,h3,h4⟩:=h;exact⟨f,fd,ps,h1.mono l,h2,h3,h4⟩
theorem dQ.zb{ak:Sd}{σ:St}{a:Addr}{i:Nat}{xs ys:List D}(h:dQ ak σ a)(e:ak[i]?=some (some (.own xs))):dQ (ak.set i (some (.own ys))) σ a:=by
 refine⟨λj js e1 z=>?_,λ⟨j,o,c,e1,e2,hm⟩=>?_⟩
 ·rcases gs e1 with⟨rfl,_⟩|⟨_,e1⟩
  ·exact h j xs e z
  ·exact h j js e1 z
 ·rcases gs e1 with⟨_,z⟩|⟨_,e1⟩
  ·cases z
  ·exact h.Od ⟨j,o,c,e1,e2,hm⟩
theorem RS.BL{Y:bK}{F F':Hp}{ak:Sd}{σ:St}{H H':Hp}{i:Nat}{xs ys:List D}{a:Addr}{us:List V}(R:RS Y F ak σ H)(e:ak[i]?=some (some (.own xs)))(h:σ[i]?=some (some (.ref a)))(s1:av F F')(s2:av F' H')(s3:∀c o,c≠a->H c=some o->H' c=some o)
  (ha:H' a=some (.lst us)) (r:aD F' us ys) (fa:F' a=none) (fr:∀c o,F' c=some o->F c=some o\/Nw H c o):RS Y F' (ak.set i (some (.own ys))) σ H':=by
 obtain⟨b,vs,w1,w2,w3,w4,w5⟩:=R.own i xs e;rw[h]at w1;cases w1;have hl:i<ak.length:=(List.getElem?_eq_some_iff.mp e).1;have Af:sX Y F' (ak.set i (some (.own ys))) σ H':=R.ob.step s1 (λj o q=>by
  rcases gs q with⟨_,z⟩|⟨hj,q⟩
  ·cases z
  ·exact⟨q,rfl⟩) (λb hb=>by
  obtain⟨z1,z2,z3⟩:=R.ob.owned hb;have cU:b≠a:=λz=>R.ob.iY i xs a e h (z ▸ hb);refine⟨?_,?_,z3⟩
  ·cases q:H b with
   | none=>exact absurd q z2
   | some o=>exact s3 b o cU q
  ·cases q:F' b with
   | none=>rfl
   | some o =>
    rcases fr b o q with w|w
    ·rw[z1]at w;cases w
    ·rcases w with w|⟨ws,rfl⟩
     ·exact absurd w z2
     ·cases q3:H b with
      | none=>exact absurd q3 z2
      | some o3 =>
       have y:=s2 b _ q;rw[s3 b o3 cU q3]at y;cases y;exact absurd q3 (R.ob.J9 hb)) (λj zs b q1 q2=>by
  rcases gs q1 with⟨e1,_⟩|⟨hj,q1⟩
  ·subst e1
   rw[h]at q2;cases q2;exact R.ob.iY j xs a e h
  ·exact R.ob.iY j zs b q1 q2) λb hb=>by
  by_cases cU:b=a
  ·rw[cU,ha];exactλz=>nomatch z
  ·cases q:H b with
   | none=>exact absurd q (R.ob.there b hb)
   | some o=>rw[s3 b o cU q];exactλz=>nomatch z
 refine⟨by simpa using R.len,R.lo.trans s1,s2,λb o q=>?_,λb o q n=>?_,λj d q=>?_,λj zs q=>?_,λj l zs qs b q1 q2 q3 q4=>?_,λp hp=>?_,Af⟩
 ·rcases fr b o q with h|h
  ·exact R.fE b o h
  ·exact .inr (h.imp (λh=>(R.cv h).1) id)
 ·have:b≠a:=λz=>by
   subst z;rcases w5 with w5|w5
   ·rw[w5]at q;cases q
   ·exact bK.yL n w5
  exact s3 b o this (R.old b o q n)
 ·rcases gs q with⟨_,z⟩|⟨hj,q⟩
  ·cases z
  ·obtain⟨v,h1,h2⟩:=R.sh j d q
   exact⟨v,h1,h2.mono s1⟩
 ·rcases gs q with⟨rfl,z⟩|⟨hj,q⟩
  ·cases z
   exact⟨a,us,h,ha,r,fa,w5⟩
  ·obtain⟨b,ws,z1,z2,z3,z4,z5⟩:=R.own j zs q
   have:b≠a:=λz=>hj (R.dis j i zs xs a q e (z ▸ z1) h);refine⟨b,ws,z1,s3 b _ this z2,z3.mono s1,?_,z5⟩;cases q':F' b with
   | none=>rfl
   | some o =>
    rcases fr b o q' with h|h
    ·rw[z4]at h;cases h
    ·rcases h with h|⟨ws',rfl⟩
     ·rw[z2]at h;cases h
     ·have y:=s2 b _ q';rw[s3 b _ this z2]at y;cases y
 ·have f:∀ {m:Nat} {ms:List D},(ak.set i (some (B.own ys)))[m]?=some (some (B.own ms))->∃Gx,ak[m]?=some (some (B.own Gx)):=λ{m ms} q=>by
   rcases gs q with⟨rfl,z⟩|⟨hj,q⟩
   ·exact⟨xs,e⟩
   ·exact⟨_,q⟩
  obtain⟨_,q1⟩:=f q1;obtain⟨_,q2⟩:=f q2;exact R.dis j l _ _ b q1 q2 q3 q4
 ·obtain⟨z1,zs,z2⟩:=R.io p hp
  refine⟨z1,?_⟩
  by_cases VD:p.1=i
  ·exact⟨ys,by rw[VD,jr hl]⟩
  ·exact⟨zs,by rw[bC VD];exact z2⟩
def YK(sp:lq)(xs ds:List D)(Q:B->List D->Prop):Prop:=sp xs ds Q
def e6(sp:lq)(i:Nat)(t:fc):TX:=λσ Q=>uO σ i/\t σ λds aA=>match aA[i]? with
 | some (some (.own xs))=>YK sp xs ds λb ys=>Q (bE b) (aA.set i (some (.own ys)))
 | _=>False
theorem bA{x y:Str}{sp:lq}{i:Nat}{es:List Expr}{t:fc}{p pos iE:Pos}(h:iy G k x sp)(ho:EO G k S (.Name y iE) (ag i))(ha:wG G k S es t)(hg:S.sc.lookup x=some .globalImplicit:=by rfl)(uK:(x==("__debug__":Str))=false:=by decide)
  (he:∀env,starEach (.Name y iE::es) env=(false,eval (.Name y iE) env)::starEach es env:=by intro _;rfl) (fC:∀env,(backTo pos (starEach es env)).any (·.1)=false:=by intro _;rfl) (hh:S.kF=false:=by rfl):EX G k S (.Call (.Name x p) (.Name y iE::es) [] pos) (e6 sp i t):=.mk λX Y ok=>by
 obtain⟨f,fd,ps,h1,h2,h3,h4⟩:=h;have Vf:eI X.prog X.w X.K X.mg X.base sR k f fd ps (rY sp):=by rw[ok.P,ok.w,ok.K,ok.mg,ok.base];exact h1
 refine bo (qZ (E:=E0) (dvs:=[]) (ds:=[]) Vf (ok.room hh) (d7 ok hg) (by rw[ok.mg];exact h2) (by rw[ok.K];exact h3) (by rw[ok.K];exact h4) .nil Ei (cf (ho X Y ok) (ha X Y ok) (he _)) uK (he _) (fC _)) λσ H Q q=>?_
 obtain⟨F,ak,Qd,R,⟨⟨ys,e0⟩,q⟩,K⟩:=q;refine⟨F,ak,λov bh=>ov=.var i/\bh=ak,R,?_,λv1 H1 F1 ov aA s1 R1 r1 q1=>?_⟩
 ·unfold ag;rw[e0];exact⟨rfl,rfl⟩
 obtain⟨rfl,rfl⟩:=q1;have r1:σ[i]?=some (some v1):=r1;refine⟨F1,aA,_,R1,q,λvs H2 F2 ds bh s2 R2 r2 q2=>?_⟩
 split at q2
 ·rename_i xs ex
  obtain⟨a,us,w1,w2,w3,w4,w5⟩:=R2.own i xs ex;rw[r1]at w1;cases w1;show rY sp ((.ref a::vs)++[]) H2 Q E0;rw[List.append_nil];refine⟨F2,xs,ds,a,us,vs,_,rfl,⟨R2.fr,R2.ob.tab⟩,w2,w3,w4,r2,q2,λv H' F' b zs om t1 t2 t3 t4 t5 t6 t7 t8 t9=>?_⟩;have R3:=R2.BL ex r1 t1 t2 t3 t4 t5 t6 t7;cases b with
  | sh d=>exact K v H' F' (.val d) _ ((s1.trans s2).trans t1) R3 t8 t9
  | own ws =>
   obtain⟨c,cs,rfl,z1,z2,z3,z4⟩:=t8;refine K _ H' F' (.own ws) _ ((s1.trans s2).trans t1) R3 ⟨c,cs,rfl,z1,z2,z3,(R2.cv z4).1,(R2.c9 z4).zb ex⟩ t9
  | obj o =>
   obtain⟨c,rfl,z1,z2⟩:=t8;exact K _ H' F' (.obj o) _ ((s1.trans s2).trans t1) R3 ⟨c,rfl,z1,λb hb=>⟨(z2 b hb).1,(z2 b hb).2.1,(R2.cv (z2 b hb).2.2).1,(R2.c9 (z2 b hb).2.2).zb ex⟩⟩ t9
 ·exact q2.elim
def bz(n:Nat)(xs ds:List D):Sd:=some (.own xs)::a9 (n-1) ds
def xm(Q:B->List D->Prop)(b:B)(σ:Sd):Prop:=match σ[(0:Nat)]? with
 | some (some (.own ys))=>Q b ys
 | _=>False
theorem RS.bz{F H:Hp}{a:Addr}{us rest:List V}{xs ds:List D}(n:Nat)(hn:1<=n)(s:tj F H)(ha:H a=some (.lst us))(ru:aD F us xs)(fa:F a=none)(r:aD F rest ds):
  RS ⟨H,F,[(0,a)],[]⟩ F (bz n xs ds) ((V.ref a::rest).map some++List.replicate (n-(V.ref a::rest).length) none) H where
 len:=by unfold Vc.bz a9;simp [r.length];omega
 lo:=av.refl _
 fr:=s.1
 fE:=λb o e=>.inl e
 old:=λb o e _=>e
 sh:=λi d e=>by
  cases i with
  | zero=>unfold Vc.bz at e;simp at e
  | succ i =>
   have e':(a9 (n-1) ds)[i]?=some (some (.sh d)):=by unfold Vc.bz at e;simpa using e
   obtain⟨v,h1,h2⟩:=nV (n-1-ds.length) r e';refine⟨v,?_,h2⟩;have:n-(V.ref a::rest).length=n-1-ds.length:=by rw[List.length_cons,r.length];omega
   rw[this];simpa using h1
 own:=λi zs e=>by
  cases i with
  | zero =>
   unfold Vc.bz at e;simp at e;subst e;exact⟨a,us,by simp,ha,ru,fa,.inr (by simp [bK.Ng])⟩
  | succ i =>
   have e':(a9 (n-1) ds)[i]?=some (some (.own zs)):=by unfold Vc.bz at e;simpa using e
   exact absurd e' (fP _ _ _ _)
 dis:=λi j zs ys b e1 e2 _ _=>by
  have z:∀ {i:Nat} {zs:List D},(Vc.bz n xs ds)[i]?=some (some (.own zs))->i=0:=λ{i zs} e=>by
   cases i with
   | zero=>rfl
   | succ i =>
    have e':(a9 (n-1) ds)[i]?=some (some (.own zs)):=by unfold Vc.bz at e;simpa using e
    exact absurd e' (fP _ _ _ _)
  rw[z e1,z e2]
 io:=λp hp=>by
  have:p=(0,a):=by simpa using hp
  subst this;exact⟨by simp,xs,rfl⟩
 ob:=.none (λi o e=>by
  cases i with
  | zero=>unfold Vc.bz at e;simp at e
  | succ i =>
   have e':(a9 (n-1) ds)[i]?=some (some (.obj o)):=by unfold Vc.bz at e;simpa using e
   exact absurd e' (k9 _ _ _ _)) s.2 λb hb=>by cases hb
theorem G2{x qual:Str}{st:Stmt}{f:Addr}{fd:FuncData}{N ps:List Str}{sp:lq}{t:cS}(hK:G.K=KF.K)(Fn:JF G.K x qual st f fd)(Sc:aR N ps (ai st))(ht:fv G k ⟨N,(ai st).names,[0],false,false,false,λ_ _=>False⟩ (aw st) t)(hn:1<=N.length)
  (len:∀xs ds Q,sp xs ds Q->ds.length+1=ps.length)
  (body:∀xs ds Q,sp xs ds Q->t {nx:=xm Q (.sh .bD),rt:=λb σ=>xm Q b σ} (bz N.length xs ds)):eI G.P G.w G.K G.mg G.base sR (k+1) f fd ps (rY sp):=by
 refine Fn.ok Sc (λvs H Q E h=>?_) (λjh A outer s H vs Q E hr h=>?_)
 ·obtain⟨F,xs,ds,a,us,rest,Qd,rfl,s,h1,h2,h3,r,q,K⟩:=h
  rw[List.length_cons,r.length];exact len _ _ _ q
 ·obtain⟨F,xs,ds,a,us,rest,Qd,rfl,sm,h1,h2,h3,r,q,K⟩:=h
  refine⟨_,ht (qv sR G.P G.w G.K G.mg G.base N qual (ai st) f jh A outer s H E).Oh ⟨H,F,[(0,a)],[]⟩ ⟨rfl,rfl,rfl,hK,rfl,rfl,rfl,rfl,Sc.nd,λp hp=>by
   have:p=(0,a):=by simpa using hp
   subst this;simp,(λ_ h=>nomatch h),λ_=>rfl,Sc.kind,λ_ _ _=>rfl,λ_=>hr.hd,hr.dp,hr.un,λ_=>PassesOwn.never,λ_=>⟨rfl,rfl,rfl⟩,λ_ _ h=>h.elim,λh=>nomatch h⟩,F,bz N.length xs ds,_,RS.bz _ hn sm h1 h2 h3 r,body xs ds Qd q,?_⟩
  have same:∀ {F':Hp} {ak:Sd} {σ:St} {H':Hp},RS ⟨H,F,[(0,a)],[]⟩ F' ak σ H'->∀c o,c≠a->H c=some o->H' c=some o:=λR c o hc e=>R.old c o e (by simpa [bK.Be]using hc)
  have fin:∀ {F':Hp} {ak:Sd} {σ:St} {H':Hp} {v:V} {b:B},av F F'->RS ⟨H,F,[(0,a)],[]⟩ F' ak σ H'->KN H F' H' v b->xm Qd b ak->Q v H':=λ{F' ak σ H' v b} s' R' r' q'=>by
   unfold xm at q'
   split at q'
   ·rename_i ys ey
    obtain⟨c,om,w1,w2,w3,w4,w5⟩:=R'.own 0 ys ey;have i0:=(R'.io (0,a) (by simp)).1
    rw[i0]at w1;cases w1;exact K v H' F' b ys om s' R'.fr (same R') w2 w3 w4 R'.fE r' q'
   ·exact q'.elim
  refine⟨λσ H' F' ak s' R' q'=>?_,λv σ H' F' ak b s' R' r' q'=>?_,λ_ _ _ _ _ _ h=>h.elim,λ_ _ _ _ _ _ h=>h.elim⟩
  ·exact fin (b:=.sh .bD) s' R' .bD q'
  ·refine fin (b:=b) s' R' ?_ q'
   cases b with
   | sh d=>exact r'
   | own xs =>
    obtain⟨a,us,rfl,w1,w2,w3,w4,w5⟩:=r';exact⟨a,us,rfl,w1,w2,w3,w4⟩
   | obj o =>
    obtain⟨a,rfl,w1,w2⟩:=r';exact⟨a,rfl,w1,λb hb=>⟨(w2 b hb).1,(w2 b hb).2.1,(w2 b hb).2.2.1⟩⟩
theorem cW.Ye{x:Str}{st:Stmt}{ps N:List Str}{f:Addr}{fd:FuncData}{t:cS}{sp:lq}(d:cW G x st ps f fd)(hK:G.K=KF.K)(Sc:aR N ps (ai st))(ht:fv G k ⟨N,(ai st).names,[0],false,false,false,λ_ _=>False⟩ (aw st) t)(hn:1<=N.length)
  (len:∀xs ds Q,sp xs ds Q->ds.length+1=ps.length) (body:∀xs ds Q,sp xs ds Q->t {nx:=xm Q (.sh .bD),rt:=λb σ=>xm Q b σ} (bz N.length xs ds)):iy G (k+1) x sp:=
 ⟨f,fd,ps,G2 hK d.F Sc ht hn len body,d.m,d.F.kp,d.b⟩
end Vc
namespace Vc
open PySem L2
variable [KF]
variable {G:GE}{k:Nat}{S:Stat}
def aE(S:Stat)(scope:Scope)(N':List Str)(m:Nat):Stat:=⟨N',gN scope.names S.sc,[m],true,false,false,λ_ _=>False⟩
def ownAt(m:Nat)(σ:Sd)(Q:List D->Prop):Prop:=match σ[m]? with
 | some (some (.own ys))=>Q ys
 | _=>False
section
variable {elt target iter:Expr}{ifs:List Expr}{scope:Scope}{pos:Pos}{N':List Str}{caps:List (Option Nat)}{ti:fc}{g:lM}{tc:TB}{te:TD}{j m:Nat}
theorem j7{α:Type}(l:List α)(i:Nat)(a b:α):(l.set i a).set i b=l.set i b:=by simp
end
end Vc
namespace Vc
open PySem L2
variable [KF]
variable {G:GE}{k:Nat}{S:Stat}
def yf(i j:Int):Prop:=0<j/\j<2^200
theorem D9{X:Cx}:iU X (binaryOp .FloorDiv) (rI yf λi j=>.int (i/j)):=Yz λi j _ _ _ _ _ hc q=>by
 have h1:(0:Int)<j:=hc.1;have h2:j<2^200:=hc.2;refine PyProof.Rows.floordiv_int ⋯ (by rw[Int.fdiv_eq_ediv_of_nonneg i ⋯];exact q) (.inl (PyProof.noPylong_of_log2 ?_))
 have h3:j.natAbs<2^200:=by omega
 exact(Nat.log2_lt ⋯).mpr (Nat.lt_of_lt_of_le h3 (Nat.pow_le_pow_right ∅ ∅))
def yx:=SQ yf λi j=>i/j
theorem y9{a b:Expr}{ta tb:TV}{pos:Pos}(ha:EO G k S a ta)(hb:EO G k S b tb):EX G k S (.BinOp a .FloorDiv b pos) (bI yx ta tb):=pR (r:=λ_=>_) (λ_=>D9) (λ_=>mX) ha hb
end Vc
namespace Vc
open PySem L2
variable [KF]
variable {G:GE}{k:Nat}{S:Stat}
def bK.oE(Y:bK)(F H:Hp)(ps:List Addr):bK:=⟨λb=>if b∈ps then H b else Y.H0 b,F,Y.io,Y.ob⟩
structure oo(Y:bK)(F:Hp)(ak:Sd)(σ:St)(H:Hp)(b:Addr)(o:HO):Prop where
 h:H b=some o
 f:F b=none
 no:dQ ak σ b
 z:Y.H0 b=none
 nb:b∉Y.ob
 nt:∀vs,o≠.tup vs
theorem RS.Ij{Y:bK}{F:Hp}{ak:Sd}{σ:St}{H:Hp}(R:RS Y F ak σ H)(ps:List Addr)(hP:∀b∈ps,∃o,oo Y F ak σ H b o):RS (Y.oE F H ps) F ak σ H where
 len:=R.len
 lo:=av.refl _
 fr:=R.fr
 fE:=λb o e=>.inl e
 old:=λb o e n=>by
  have e:(if b∈ps then H b else Y.H0 b)=some o:=e
  split at e
  ·exact e
  ·exact R.old b o e n
 sh:=R.sh
 own:=λi xs e=>by
  obtain⟨a,vs,h1,h2,h3,h4,h5⟩:=R.own i xs e;refine⟨a,vs,h1,h2,h3,h4,?_⟩;rcases h5 with h5|h5
  ·left
   show(if a∈ps then H a else Y.H0 a)=none
   rw[if_neg λhp=>by obtain⟨o,ap⟩:=hP a hp;exact ap.no i xs e h1]
   exact h5
  ·exact .inr h5
 dis:=R.dis
 io:=R.io
 ob:=R.ob.step (av.refl _) (λ_ _ e=>⟨e,rfl⟩) (λb hb=>by
  obtain⟨w1,w2,w3⟩:=R.ob.owned hb;refine⟨rfl,w1,w3.imp (λz=>?_) id⟩;show(if b∈ps then H b else Y.H0 b)=none
  rw[if_neg λhp=>by obtain⟨o,ap⟩:=hP b hp;exact ap.no.Od hb]
  exact z) R.ob.iY R.ob.there λb hb=>⟨hb,λh=>by
  show(if b∈ps then H b else Y.H0 b)≠none
  split
  ·exact R.ob.there b hb
  ·exact h⟩
theorem RS.lj{Y:bK}{F F':Hp}{ak aL:Sd}{σ cq:St}{H H':Hp}(R0:RS Y F ak σ H){ps:List Addr}(hP:∀b∈ps,∃o,oo Y F ak σ H b o)(R:RS (Y.oE F H ps) F' aL cq H'):
  RS Y F' aL cq H'/\∀b o,b∈ps->oo Y F ak σ H b o->oo Y F' aL cq H' b o:=by
 have Y5:∀b,b∈ps->(Y.oE F H ps).H0 b=H b:=λb hb=>by show(if b∈ps then H b else Y.H0 b)=_;rw[if_pos hb]
 have wU:∀b,b∉ps->(Y.oE F H ps).H0 b=Y.H0 b:=λb hb=>by show(if b∈ps then H b else Y.H0 b)=_;rw[if_neg hb]
 have Oc:∀b,b∈ps->b∉Y.Be:=λb hb hm=>by
  obtain⟨o,ap⟩:=hP b hb;rcases List.mem_append.mp hm with hm|hm
  case inr=>exact ap.nb hm
  obtain⟨q,hq,e⟩:=List.mem_map.mp hm;obtain⟨h1,xs,h2⟩:=R0.io q hq;exact ap.no _ _ h2 (by rw[h1,e])
 have pM:∀b,(Y.oE F H ps).H0 b=none->b∉ps/\Y.H0 b=none:=λb e=>by
  by_cases hb:b∈ps
  ·obtain⟨o,ap⟩:=hP b hb
   rw[Y5 b hb,ap.h]at e;cases e
  ·exact⟨hb,by rw[wU b hb]at e;exact e⟩
 refine⟨⟨R.len,R0.lo.trans R.lo,R.fr,λb o e=>?_,λb o e n=>?_,R.sh,λi xs e=>?_,R.dis,R.io,R.ob.step (av.refl _) (λ_ _ e=>⟨e,rfl⟩) (λb hb=>⟨rfl,(R.ob.owned hb).1,(R.ob.owned hb).2.2.imp (λz=>(pM b z).2) id⟩) R.ob.iY R.ob.there (λb hb=>⟨hb,λh z=>h (by rw[wU b λhp=>by obtain⟨o',ap⟩:=hP b hp;exact ap.nb hb];exact z)⟩)⟩,λb o hb ap=>⟨?_,?_,⟨λj ys e z=>?_,λz=>?_⟩,ap.z,ap.nb,ap.nt⟩⟩
 ·rcases R.fE b o e with h|h
  ·exact R0.fE b o h
  ·exact .inr (h.imp (λh=>(pM b h).2) id)
 ·refine R.old b o ?_ n
  rw[wU b λhb=>by obtain⟨o',ap⟩:=hP b hb;rw[ap.z]at e;cases e]
  exact e
 ·obtain⟨a,vs,h1,h2,h3,h4,h5⟩:=R.own i xs e
  exact⟨a,vs,h1,h2,h3,h4,h5.elim (λh=>.inl (pM a h).2) .inr⟩
 ·exact R.old b o (by rw[Y5 b hb];exact ap.h) (Oc b hb)
 ·cases q:F' b with
  | none=>rfl
  | some o' =>
   rcases R.fE b o' q with h|h
   ·rw[show(Y.oE F H ps).F0 b=F b from rfl,ap.f]at h;cases h
   ·rcases h with h|⟨ws,rfl⟩
    ·exact absurd hb (pM b h).1
    ·have y:=R.fr b _ q;rw[R.old b o (by rw[Y5 b hb];exact ap.h) (Oc b hb)]at y;cases y;exact absurd rfl (ap.nt _)
 ·obtain⟨a,vs,h1,h2,h3,h4,h5⟩:=R.own j ys e
  rw[z]at h1;cases h1;rcases h5 with h5|h5
  ·exact absurd hb (pM b h5).1
  ·exact Oc b hb (List.mem_append_left _ h5)
 ·rcases(R.ob.owned z).2.2 with w|w
  ·exact absurd hb (pM b w).1
  ·exact ap.nb w
structure Tt(H H':Hp)(p:Addr)(as:List Addr)(cs:List Int):Prop where
 same:av H H'
 list:H' p=some (.lst (as.map V.ref))
 fresh:∀b∈p::as,H b=none
 nd:(p::as).Nodup
 len:as.length=cs.length
 pot:∀(i:Nat) (a:Addr) (c:Int),as[i]?=some a->cs[i]?=some c->H' a=some (.lst [.int c,.int 0])
def xO:Sp:=λvs H Q _=>∃F ns,tj F H/\aD F vs [.lst (List.map D.int ns)]/\ns.length<=63/\∀p as cs H',Tt H H' p as cs->Q (.ref p) H'
def gE(G:GE)(k:Nat)(x:Str):Prop:=∃f fd ps,eI G.P G.w G.K G.mg G.base sR k f fd ps xO/\G.mg x=some (.ref f)/\PySem.W.keepIn G.K (.ref f)=true/\Binds G.K fd ps []
theorem gE.mono{x:Str}{j:Nat}(h:gE G j x)(l:j<=k):gE G k x:=by
 obtain⟨f,fd,ps,h1,h2,h3,h4⟩:=h;exact⟨f,fd,ps,h1.mono l,h2,h3,h4⟩
def Ko(Y:bK)(t:fc):TE:=λσ H Q=>∃F ak Qd,RS Y F ak σ H/\t ak Qd/\(∀ds aL,Qd ds aL->∃ns:List Int,ds=[.lst (ns.map D.int)]/\ns.length<=63) /\
 ∀(p:Addr) (as:List Addr) (cs:List Int) H' F' ds aL,av F F'->RS Y F' aL σ H'->oo Y F' aL σ H' p (.lst (as.map V.ref))->(p::as).Nodup->as.length=cs.length ->
  (∀(i:Nat) (a:Addr) (c:Int),as[i]?=some a->cs[i]?=some c->oo Y F' aL σ H' a (.lst [.int c,.int 0]))->Qd ds aL->Q (.ref p) H'
theorem Ic{x:Str}{e:Expr}{t:fc}{p pos:Pos}(hh:S.kF=false)(h:gE G k x)(ha:wG G k S [e] t)(hg:S.sc.lookup x=some .globalImplicit:=by rfl)(uK:(x==("__debug__":Str))=false:=by decide)
  (he:∀env,starEach [e] env=(false,eval e env)::starEach [] env:=by intro _;rfl) (fC:∀env,(backTo pos (starEach [] env)).any (·.1)=false:=by intro _;rfl) {X:Cx} {Y:bK} (ok:en X G k S Y):PE X (.Call (.Name x p) [e] [] pos) (Ko Y t):=by
 obtain⟨f,fd,ps,h1,h2,h3,h4⟩:=h;have Vf:eI X.prog X.w X.K X.mg X.base sR k f fd ps xO:=by rw[ok.P,ok.w,ok.K,ok.mg,ok.base];exact h1
 refine bo (qZ (E:=E0) (dvs:=[]) (ds:=[]) Vf (ok.room hh) (d7 ok hg) (by rw[ok.mg];exact h2) (by rw[ok.K];exact h3) (by rw[ok.K];exact h4) .nil Ei (ha X Y ok) uK (he _) (fC _)) λσ H Q q=>?_
 obtain⟨F,ak,Qd,R,q,sh,K⟩:=q;refine⟨F,ak,_,R,q,λvs H1 F1 ds aA s1 R1 r1 q1=>?_⟩;show xO (vs++[]) H1 Q E0;rw[List.append_nil];obtain⟨ns,rfl,hl⟩:=sh _ _ q1;refine⟨F1,ns,⟨R1.fr,R1.ob.tab⟩,r1,hl,λp as cs H' P=>?_⟩;have R2:RS Y F1 aA σ H':=R1.call (av.refl _) (R1.fr.trans P.same) P.same λc o e=>.inl e;have apt:∀b∈p::as,∀o,H' b=some o->(∀vs,o≠.tup vs)->oo Y F1 aA σ H' b o:=λb hb o e nt=>by
  have hf:=P.fresh b hb;exact⟨e,same_none R1.fr hf,R1.c9 hf,(R1.cv hf).1,λz=>(R1.cv hf).2 (List.mem_append_right _ z),nt⟩
 exact K p as cs H' F1 _ aA s1 R2 (apt p (List.mem_cons_self ..) _ P.list λ_ z=>nomatch z) P.nd P.len (λi a c e1 e2=>apt a (List.mem_cons_of_mem _ (List.mem_of_getElem? e1)) _ (P.pot i a c e1 e2) λ_ z=>nomatch z) q1
def uE(pre:Nat->Int->Sd->Sd)(tb:cS)(De:iH):Nat->Nat->Sd->Prop
 | 0,_,σ=>De.nx σ
 | n+1,i,σ=>∀c:Int,tb {De with nx:=uE pre tb De n (i+1),ct:=uE pre tb De n (i+1),bk:=De.nx} (pre i c σ)
def zt(t:fc)(pre:Nat->Int->Sd->Sd)(tb:cS):cS:=λDe σ=>t σ λds aA=>(∃ns:List Int,ds=[.lst (ns.map D.int)]/\ns.length<=63)/\∀n,uE pre tb De n 0 aA
def Qq(j:Nat):Nat->Int->Sd->Sd:=λ_ c σ=>σ.set j (some (.own [.int c,.int 0]))
def lSP(Y:bK)(t:cS):TS:=λDn σ H=>∃Y':bK,(Y'.io=Y.io/\Y'.ob=Y.ob)/\lS Y' t Dn σ H
theorem Lf{X:Cx}{Y:bK}{body:List Stmt}{tb:cS}(M6:S.ex=λ_ _=>False)(ok:en X G k S Y)(hb:fv G k S body tb):qe X body (lSP Y tb):=λpins s σ H Dn I ⟨Y',⟨cY,Af⟩,q⟩ =>
 hb X Y' ⟨ok.P,ok.w,ok.K,ok.kf,ok.mg,ok.base,ok.N,ok.sc,ok.nd,λp hp=>ok.ios p (by rw[<- cY];exact hp),(λh1 h2=>Af.trans (ok.obs h1 h2)),ok.calm,ok.kind,ok.fn,ok.hd,ok.dp,ok.un,ok.po,ok.nx,(λc ak h=>by rw[M6]at h;exact h.elim),λ_ c ak h=>by rw[M6]at h;exact h.elim⟩ pins s σ H Dn I q
theorem Ex{X:Cx}{Y:bK}{t:fc}{pre:Nat->Int->Sd->Sd}{tb:cS}{J:Addr->It}{g:TG}{Dn:Ends}{σ:St}{H:Hp}
  (hgo:∀(p:Addr) (as:List Addr) (i:Nat) (a:Addr) (H:Hp),H p=some (.lst (as.map V.ref))->as[i]?=some a->(J p).go i H)
  (VI:∀(p:Addr) (as:List Addr) (H:Hp),H p=some (.lst (as.map V.ref))->(J p).stop as.length H)
  (hy:∀(p:Addr) (as:List Addr) (i:Nat) (a:Addr) (c:Int) (F H:Hp) (ak:Sd) (σ:St) (x:V) (H':Hp),RS Y F ak σ H->(p::as).Nodup->as[i]?=some a ->
   (∀b∈p::as.drop (i+1),∃o,oo Y F ak σ H b o)->H p=some (.lst (as.map V.ref))->oo Y F ak σ H a (.lst [.int c,.int 0])->(J p).S7 i H x H' ->
   ∃F',av F F'/\RS Y F' ak σ H'/\(∀b o,oo Y F ak σ H b o->oo Y F' ak σ H' b o)/\∀N:St->Hp->Prop,(∀bh,RS (Y.oE F' H' (p::as.drop (i+1))) F' (pre i c ak) bh H'->N bh H')->g x σ H' N)
  (q:lS Y (zt t pre tb) Dn σ H):
  X3 (λσ H R=>Ko Y t σ H λx H1=>∃p as,x=.ref p/\H1 p=some (.lst (List.map V.ref as))/\R (J p) H1) g (lSP Y tb) Dn σ H:=by
 obtain⟨F,ak,De,R,q,K⟩:=q;refine⟨F,ak,_,R,q,λds aL h=>h.1,λp as cs H1 F1 ds ye s1 R1 ap nd len xE q1=>⟨p,as,rfl,ap.h,?_⟩⟩;have q1:=q1.2 as.length;refine⟨λi m cq H'=>∃F' aL,av F1 F'/\RS Y F' aL cq H'/\oo Y F' aL cq H' p (.lst (as.map V.ref))/\(∀(j:Nat) (a:Addr) (c:Int),i<=j->as[j]?=some a->cs[j]?=some c->oo Y F' aL cq H' a (.lst [.int c,.int 0])) /\
  uE pre tb De (as.length-i) i aL/\m=as.length-i/\i<=as.length,⟨as.length,F1,ye,av.refl _,R1,ap,λj a c _=>xE j a c,q1,rfl,Nat.zero_le _⟩,?_⟩
 rintro i m cq H' ⟨F',aL,s',R',T2,Ew,q',rfl,hi⟩
 by_cases hl:i<as.length
 ·right
  have e1:as[i]?=some as[i]:=aaQ hl;have pj:i<cs.length:=by rw[<- len];exact hl
  have e2:cs[i]?=some cs[i]:=aaQ pj;refine⟨hgo p as i _ H' T2.h e1,λbh H2=>∃F2 b6,av F1 F2/\RS Y F2 b6 bh H2/\oo Y F2 b6 bh H2 p (.lst (as.map V.ref))/\(∀(j:Nat) (a:Addr) (c:Int),i+1<=j->as[j]?=some a->cs[j]?=some c->oo Y F2 b6 bh H2 a (.lst [.int c,.int 0])) /\
   uE pre tb De (as.length-(i+1)) (i+1) b6,λbh H2 ⟨F2,b6,w1,w2,w3,w4,w5⟩=>⟨as.length-(i+1),by omega,F2,b6,w1,w2,w3,w4,w5,rfl,hl⟩,λx H2 y=>?_⟩
  have Nf:∀(j:Nat) (a:Addr),i+1<=j->as[j]?=some a->a∈p::as.drop (i+1):=λj a hj e=>by
   refine List.mem_cons_of_mem _ (List.mem_of_getElem? (i:=j-(i+1)) ?_);rw[List.getElem?_drop,show i+1+(j-(i+1))=j by omega];exact e
  have hP:∀b∈p::as.drop (i+1),∃o,oo Y F' aL cq H' b o:=λb hb=>by
   rcases List.mem_cons.mp hb with rfl|hb
   ·exact⟨_,T2⟩
   ·obtain⟨j,hj,e⟩:=List.mem_iff_getElem.mp hb
    rw[List.getElem_drop]at e;have Bb:i+1+j<as.length:=by rw[List.length_drop]at hj;omega
    have Vt:i+1+j<cs.length:=by rw[<- len];exact Bb
    exact⟨_,Ew (i+1+j) b cs[i+1+j] ⋯ (by rw[aaQ Bb,e]) (aaQ Vt)⟩
  obtain⟨F2,sF,R2,keep,go⟩:=hy p as i _ cs[i] F' H' aL cq x H2 R' nd e1 hP T2.h (Ew i _ _ (Nat.le_refl _) e1 e2) y;refine go _ λbh R3=>?_;have hn:as.length-i=(as.length-(i+1))+1:=by omega
  rw[hn]at q';have q2:=q' cs[i];have Vi:∀b∈p::as.drop (i+1),∃o,oo Y F2 aL cq H2 b o:=λb hb=>by
   obtain⟨o,a⟩:=hP b hb;exact⟨o,keep b o a⟩
  have again:∀ {qb:St} {H4 F4:Hp} {eV:Sd},av F2 F4->RS (Y.oE F2 H2 (p::as.drop (i+1))) F4 eV qb H4->uE pre tb De (as.length-(i+1)) (i+1) eV->∃F2 b6,av F1 F2/\RS Y F2 b6 qb H4/\oo Y F2 b6 qb H4 p (.lst (as.map V.ref))/\(∀(j:Nat) (a:Addr) (c:Int),i+1<=j->as[j]?=some a->cs[j]?=some c->oo Y F2 b6 qb H4 a (.lst [.int c,.int 0]))/\uE pre tb De (as.length-(i+1)) (i+1) b6:=λ{qb H4 F4 eV} s4 R4 q4=>by
   obtain⟨R5,k5⟩:=R2.lj Vi R4;exact⟨F4,eV,(s'.trans sF).trans s4,R5,k5 _ _ (List.mem_cons_self ..) (keep _ _ T2),λj a c hj ea ec=>k5 _ _ (Nf j a hj ea) (keep _ _ (Ew j a c ⋯ ea ec)),q4⟩
  refine⟨Y.oE F2 H2 (p::as.drop (i+1)),⟨rfl,rfl⟩,F2,pre i cs[i] aL,_,R3,q2,⟨λqb H4 F4 eV s4 R4 q4=>again s4 R4 q4,λv4 qb H4 F4 eV b s4 R4 r4 q4=>?_,λqb H4 F4 eV s4 R4 q4=>?_,λqb H4 F4 eV s4 R4 q4=>again s4 R4 q4⟩⟩
  ·obtain⟨R5,k5⟩:=R2.lj Vi R4
   refine K.rt v4 qb H4 F4 eV b (((s1.trans s').trans sF).trans s4) R5 ?_ q4;cases b with
   | sh d=>exact r4
   | own xs =>
    obtain⟨a,vs,w1,w2,w3,w4,w5,w6⟩:=r4;refine⟨a,vs,w1,w2,w3,w4,?_,w6⟩;have w5:(if a∈p::as.drop (i+1)then H2 a else Y.H0 a)=none:=w5
    split at w5
    ·rename_i hm
     obtain⟨o,ap⟩:=Vi a hm;exact ap.z
    ·exact w5
   | obj o =>
    obtain⟨a,w1,w2,w3⟩:=r4;refine⟨a,w1,w2,λb hb=>⟨(w3 b hb).1,(w3 b hb).2.1,?_,(w3 b hb).2.2.2⟩⟩;have w5:(if b∈p::as.drop (i+1)then H2 b else Y.H0 b)=none:=(w3 b hb).2.2.1
    split at w5
    ·rename_i hm
     obtain⟨o,ap⟩:=Vi b hm;exact ap.z
    ·exact w5
  ·obtain⟨R5,k5⟩:=R2.lj Vi R4
   exact K.nx qb H4 F4 eV (((s1.trans s').trans sF).trans s4) R5 q4
 ·left
  have e:i=as.length:=by omega
  subst e;rw[Nat.sub_self]at q';exact⟨VI p as H' T2.h,K.nx cq H' F' aL (s1.trans s') R' q'⟩
theorem RS.IU{Y:bK}{F:Hp}{ak:Sd}{σ:St}{H:Hp}{j:Nat}{a:Addr}{c:Int}{ps:List Addr}(R:RS Y F ak σ H)(hP:∀b∈ps,∃o,oo Y F ak σ H b o)(ha:oo Y F ak σ H a (.lst [.int c,.int 0]))(hn:a∉ps)(cY:∀p∈Y.io,p.1≠j):
  RS (Y.oE F H ps) F (ak.set j (some (.own [.int c,.int 0]))) (σ.set j (some (.ref a))) H:=
 (R.Ij ps hP).E6 ha.h (.cons (.int _) (.cons (.int _) .nil)) ha.f (by show(if a∈ps then H a else Y.H0 a)=none;rw[if_neg hn];exact ha.z) ha.no cY
theorem HG{p:Addr}{as:List Addr}{i:Nat}{a:Addr}(nd:(p::as).Nodup)(e:as[i]?=some a):a∉p::as.drop (i+1):=by
 have hi:=(List.getElem?_eq_some_iff.mp e).1;have ea:as[i]=a:=(List.getElem?_eq_some_iff.mp e).2;intro h;rcases List.mem_cons.mp h with h|h
 ·exact(List.nodup_cons.mp nd).1 (by rw[<- h];exact List.mem_of_getElem? e)
 ·obtain⟨j,hj,e'⟩:=List.mem_iff_getElem.mp h
  rw[List.getElem_drop]at e';have Bb:i+1+j<as.length:=by rw[List.length_drop]at hj;omega
  have:=(List.nodup_cons.mp nd).2;exact List.pairwise_iff_getElem.mp this i (i+1+j) hi Bb ⋯ (by rw[ea,e'])
theorem QF(j:Nat){x y:Str}{e:Expr}{t:fc}{tb:cS}{body:List Stmt}{p cpos iE pos:Pos}(h:gE G k x)(ha:wG G k S [e] t)(hb:fv G k S body tb)(hj:S.N[j]?=some y:=by rfl)(hx:S.sc.lookup y=some .local\/(S.sc.lookup y=some .cell/\S.zP=false):=by first|exact Or.inl rfl|exact Or.inr ⟨rfl,rfl⟩)
  (hn:j∉S.ios:=by first|decide|exact List.not_mem_nil | (dsimp only;decide)) (hg:S.sc.lookup x=some .globalImplicit:=by rfl) (uK:(x==("__debug__":Str))=false:=by decide)
  (he:∀env,starEach [e] env=(false,eval e env)::starEach [] env:=by intro _;rfl) (fC:∀env,(backTo cpos (starEach [] env)).any (·.1)=false:=by intro _;rfl)
  (hs:∀env x',foldedSetIterable (.Call (.Name x p) [e] [] cpos) env x'=pure x':=by intro _ _;rfl) (M6:S.ex=λ_ _=>False:=by rfl) (hh:S.kF=false:=by rfl):
  ES G k S (.For (.Name y iE) (.Call (.Name x p) [e] [] cpos) body [] pos) (zt t (Qq j) tb):=.mk λX Y ok=>by
 have pi:=Ep (tg:=.Name y iE) (Ic (p:=p) (pos:=cpos) hh h ha hg uK he fC ok);refine dE (Ey (ok.po hh) (ok.calm hh) pi (L2.yV (i:=j) (by rw[ok.N];exact ok.nd) (by rw[ok.N];exact hj) (nc ok hx) (mS ok hx)) (Lf M6 ok hb) (hs _)) λDn σ H q=>?_
 have r:=Ex (X:=X) (J:=λa=>Yb X.K a) (g:=mV j) (λp as i a H h e=>⟨as.map V.ref,.ref a,.of h,by rw[List.getElem?_map,e];rfl⟩) (λp as H h=>⟨as.map V.ref,.of h,by rw[aaR];exact Nat.le_refl _⟩)
  (λp as i a c F H ak σ x H' R nd e hP hp ZZ y=>by
   obtain⟨rfl,y⟩:=y;have hx:=y _ (.of hp);rw[List.getElem?_map,e]at hx;cases hx;refine⟨F,av.refl _,R,λ_ _ a=>a,λN hN=>hN _ (R.IU hP ZZ (HG nd e) λq hq z=>hn (by rw[<- z];exact ok.ios q hq))⟩) q
 obtain⟨F,ak,Qd,w1,w2,w3,w4⟩:=r;exact⟨F,ak,Qd,w1,w2,w3,λp as cs H' F' ds aL a1 a2 a3 a4 a5 a6 a7=>by
  obtain⟨p',as',e,z1,z2⟩:=w4 p as cs H' F' ds aL a1 a2 a3 a4 a5 a6 a7;exact .inl ⟨p',e,⟨_,.of z1⟩,z2⟩⟩
theorem uF{pre:Nat->Int->Sd->Sd}{tb:cS}{De:iH}(I:Sd->Prop)(hb:∀i c σ (N:Sd->Prop),I σ->(∀cq,I cq->N cq)->tb {De with nx:=N,ct:=N,bk:=De.nx} (pre i c σ))(hn:∀σ,I σ->De.nx σ):∀n i σ,I σ->uE pre tb De n i σ
 | 0,_,σ,h=>hn σ h
 | n+1,i,σ,h=>λc=>hb i c σ _ h λcq h'=>uF I hb hn n (i+1) cq h'
end Vc
namespace Vc
open PySem L2
variable [KF]
variable {G:GE}{k:Nat}{S:Stat}
def J7(Y:bK):TS:=λDn σ H=>∃F ns,RS Y F [some (.sh (.lst (List.map D.int ns)))] σ H/\Y.H0=H/\(Y.io=[]/\Y.ob=[])/\ns.length<=63/\∀p as cs H',Tt H H' p as cs->Dn.rt (.ref p) H'
structure sW(G:GE)(k:Nat)(S:Stat)(b:List Stmt) :Prop where
 run:∀X Y,en X G k S Y->qe X b (J7 Y)
instance {G:GE} {k:Nat} {S:Stat} {b:List Stmt} :CoeFun (sW G k S b) λ_=>∀X Y,en X G k S Y->qe X b (J7 Y):=⟨sW.run⟩
def lLe(t:fc):TE:=λσ H Q=>∃Y:bK,Y.io=[]/\RG (lDs Y t) σ H Q
abbrev FH:TB:=a8 eqT (aZ (dY cN (bj (ag 0) dc))) (bJ (.int 0))
abbrev FP:fc:=aS (ao [] (bJ (.int 0))) (aS (ao [] (bJ (.int 0))) tN)
abbrev FJ:fc:=bZ (ao [] (aZ (vW (ag 0) Km (Kn (bJ (.int 63))))))
abbrev xW:fc:=aS (ao [] (ag 0)) (aS (ao [] (bJ (.int 0))) tN)
theorem yo{α:Type}(xs:List α)(lo hi:Option Int):(cut xs lo hi).length<=xs.length:=by
 unfold cut;rw[List.length_take,List.length_drop];omega
theorem tL(ns:List Int)(lo hi:Option Int):cut (ns.map D.int) lo hi=(cut ns lo hi).map D.int:=by
 unfold cut;rw[aaR,List.map_take,List.map_drop]
theorem aD.VS{F:Hp}{vs:List V}{a b:Int}(r:aD F vs [.int a,.int b]):vs=[.int a,.int b]:=by
 cases r with
 | cons h r =>
  cases h;cases r with
  | cons h r=>cases h;cases r;rfl
section
variable {c:Expr}{zs es:List Expr}{tg iter:Expr}{scope:Scope}{N':List Str}{p1 p2 p3 p4 p5 p6 p7:Pos}
theorem Mp(aaG:S.ios=[])(hc:EB G k S c FH)(hz:wG G k S zs FP)(hi:EI G k S tg iter FJ)(b:iG S scope N' [none])(hg:EG G k (aQ S scope N') tg (dC 0))(he:wG G k (aQ S scope N') es xW)(hs:∀env x,foldedSetIterable iter env x=pure x:=by intro _ _;rfl) 
  (h1:∀env,starEach [.List zs p1] env=(false,eval (.List zs p1) env)::starEach [] env:=by intro _;rfl) (hh:S.kF=false:=by rfl):
  sW G k S [.If c [.Return (some (.List [.List zs p1] p2)) p3] [] p4,.Return (some (.ListComp (.List es p5) [⟨tg,iter,[],0⟩] scope p6)) p7]:=.mk λX Y ok=>by
 have uL:∀X',jk X X' scope N'->PG X' tg (Yw (dC 0))/\Gg X' [] (Yv dm)/\PE X' (.List es p5) (lLe xW):=λX' cx =>
  ⟨λpins s σ H v u Q I r ⟨Y',cY,q⟩=>hg X' Y' (eL hh ok b cx Y' cY) pins s σ H v u Q I r q,λpins s σ H Q I ⟨Y',cY,q⟩=>gp X' Y' (eL hh ok b cx Y' cY) pins s σ H Q I q,λpins s σ H Q I ⟨Y',cY,q⟩=>kQ (he X' Y' (eL hh ok b cx Y' cY)) pins s σ H Q I q⟩
 refine rn (vA (L2.Kc (hc X Y ok) (rp (L2.xG (kQ (cf (kQ (hz X Y ok)) cV (h1 _))))) yZ) (rp (L2.xG (mv (ok.calm hh) (hi X Y ok) (b.sc ok) uL (hs _))))) λDn σ H q=>?_;obtain⟨F,ns,R,rfl,hY,hl,K⟩:=q;have same:∀ {F':Hp} {ak:Sd} {σ:St} {H':Hp},RS Y F' ak σ H'->av Y.H0 H':=λR b o e=>R.old b o e (by rw[bK.Be,hY.1,hY.2];simp)
 refine⟨F,_,λ_ aL=>aL=[some (.sh (.lst (List.map D.int ns)))],R,?_,λbb H1 F1 aA s1 R1 e1=>?_⟩
 ·simp only[FH,a8,aZ,Yf,dY,bj,ag,dc,iX,eW,List.getElem?_cons_zero,cN,bJ,eqT]
  exact⟨⟨rfl,rfl⟩,trivial⟩
 subst e1;cases bb with
 | true =>
  refine(if_pos rfl).mpr ?_;refine⟨F1,_,λds _=>ds=[.int 0,.int 0],R1,?_,λvs H2 F2 ds bh s2 R2 r2 e2=>?_⟩
  ·simp only[FP,aS,ao,kn,bJ,tN]
  subst e2;obtain rfl:=r2.VS;refine⟨by show 2<=sizeLine;decide,λa ha=>⟨by show 1<=sizeLine;decide,λp hp=>K p [a] [0] _ ?_⟩⟩
  have SH:p≠a:=λz=>by rw[z,ay]at hp;cases hp
  have ZY:H2 p=none:=by rw[aq SH]at hp;exact hp
  have sm:=same R2;refine⟨(sm.trans (aK ha)).trans (aK hp),ay,λb hb=>?_,by simp [SH],rfl,λi a' c' e1 e2=>?_⟩
  ·rcases List.mem_cons.mp hb with rfl|hb
   ·exact sm.free ZY
   ·rw[List.mem_singleton.mp hb];exact sm.free ha
  ·cases i with
   | zero =>
    cases e1;cases e2;rw[aq SH.symm,ay]
   | succ i=>simp at e1
 | false =>
  refine(if_neg ∅).mpr ?_
  refine⟨F1,_,λitems aL=>(∃ms:List Int,items=ms.map D.int/\ms.length<=63)/\aL=[some (.sh (.lst (List.map D.int ns)))],R1,?_,λH2 F2 bh J items s2 R2 it e2 acc ju=>?_⟩
  ·simp only[FJ,bZ,ao,kn,ko,aZ,Yf,vW,ag,Km,Kn,bJ,eW,List.getElem?_cons_zero,YC]
   exact⟨⟨cut ns none (some 63),tL _ _ _,Nat.le_trans (yo _ _ _) hl⟩,trivial⟩
  obtain⟨⟨ms,rfl,hm⟩,rfl⟩:=e2;have a0:Y.H0 acc=none:=(R2.cv ju).1;have aF:F2 acc=none:=same_none R2.fr ju;have noOwn:∀(σ:St) (a:Addr),dQ [some (.sh (.lst (List.map D.int ns)))] σ a:=λσ a=>⟨λj ys e=>by
   cases j with
   | zero=>cases e
   | succ j=>simp at e,λ⟨j,o,c,e,_⟩=>by
   cases j with
   | zero=>cases e
   | succ j=>simp at e⟩
  have sw:∀ {F5 H5:Hp} {o:HO},av F5 H5->F5 acc=none->av F5 (upd H5 acc o):=λ{F5 H5 o} s5 h b u e=>by
   have:b≠acc:=λz=>by rw[z,h]at e;cases e
   rw[aq this];exact s5 b u e
  have Wm:∀(i:Nat) (xs:List D),([none]:Sd)[i]?≠some (some (.own xs)):=λi xs e=>by
   cases i with
   | zero=>cases e
   | succ i=>simp at e
  have Wl:∀(i:Nat) (o:O),([none]:Sd)[i]?≠some (some (.obj o)):=λi o e=>by
   cases i with
   | zero=>cases e
   | succ i=>simp at e
  refine⟨λi m aA H'=>∃Fi as cs,av F2 Fi/\RS Y Fi [some (.sh (.lst (List.map D.int ns)))] σ H'/\H' acc=some (.lst (List.map V.ref as))/\(acc::as).Nodup/\(∀b∈acc::as,Y.H0 b=none/\Fi b=none) /\
    (∀(i:Nat) (a:Addr) (c:Int),as[i]?=some a->cs[i]?=some c->H' a=some (.lst [.int c,.int 0]))/\as.length=cs.length/\as.length=i/\RS ⟨H',Fi,[],[]⟩ Fi [none] aA H'/\m=ms.length-i/\i<=ms.length,
   ⟨ms.length,F2,[],[],av.refl _,R2.other aF a0 (noOwn _ _),ay,by simp,λb hb=>by rw[List.mem_singleton.mp hb];exact⟨a0,aF⟩,λi a c e=>by simp at e,rfl,rfl,qo R2 [none] (av.refl _) (sw R2.fr aF),rfl,Nat.zero_le _⟩,?_⟩
  rintro i m aA Hi ⟨Fi,as,cs,si,Ri,fG,nd,fr,xE,len,Wa,Tw,rfl,hi⟩;have uP:=it Fi Hi si Ri.fr i
  by_cases pj:i<ms.length
  ·right
   obtain⟨go,yl⟩:=uP.1 (.int ms[i]) (by rw[List.getElem?_map,aaQ pj];rfl)
   refine⟨go,λv H' y=>?_⟩;obtain⟨F3,gr,rep⟩:=yl v H' y;have sF:av Fi F3:=gr.same Ri.fr;have R3:=gr.rs Tw;have Tv:RS ⟨H',F3,[],[]⟩ F3 [none] aA H':=R3.less (gK _) Wm Wl R3.fr;have sH:av Hi H':=by
    rcases gr with⟨_,rfl⟩|⟨p,o,hp,_,rfl⟩
    ·exact av.refl _
    ·exact aK hp
   have G3:∀c o,F3 c=some o->Fi c=some o\/Nw Hi c o:=λc o e=>by
    rcases gr with⟨rfl,_⟩|⟨p,o',hp,rfl,_⟩
    ·exact .inl e
    ·by_cases hc:c=p
     ·subst hc;exact .inr (.inl hp)
     ·rw[aq hc]at e;exact .inl e
   refine⟨⟨H',F3,[],[]⟩,rfl,F3,_,.int ms[i],λak=>ak=[some (.sh (.int ms[i]))],Tv,rep,rfl,λqb H4 F4 eV s4 R4 q4=>?_⟩;subst q4;refine⟨⟨H',F3,[],[]⟩,rfl,F4,_,λbb ak=>bb=true/\ak=[some (.sh (.int ms[i]))],R4,⟨rfl,rfl⟩,λbb H5 F5 l0 s5 R5 q5=>?_⟩;obtain⟨rfl,rfl⟩:=q5;refine(if_pos rfl).mpr ?_;refine⟨⟨H',F3,[],[]⟩,rfl,F5,_,λds ak=>ds=[.int ms[i],.int 0]/\ak=[some (.sh (.int ms[i]))],R5,?_,λvs H6 F6 ds X9 s6 R6 r6 q6=>?_⟩
   ·simp only[xW,aS,ao,kn,ko,ag,bJ,tN,List.getElem?_cons_zero]
    exact⟨trivial,trivial⟩
   obtain⟨rfl,rfl⟩:=q6;obtain rfl:=r6.VS;refine⟨by show 2<=sizeLine;decide,λa ha=>?_⟩
   have s36:av F3 F6:=(s4.trans s5).trans s6;have AU:av Hi H6:=sH.trans λb o e=>R6.old b o e (by simp [bK.Be])
   have fr6:∀c o,F6 c=some o->Fi c=some o\/Nw Hi c o:=λc o e=>by
    rcases R6.fE c o e with z|z
    ·exact G3 c o z
    ·exact .inr (z.imp sH.free id)
   have w1:RS Y F6 [some (.sh (.lst (List.map D.int ns)))] σ H6:=Ri.call (sF.trans s36) R6.fr AU fr6;have live:∀b∈acc::as,∃o,Hi b=some (.lst o):=λb hb=>by
    rcases List.mem_cons.mp hb with rfl|hb
    ·exact⟨_,fG⟩
    ·obtain⟨j,hj,e⟩:=List.mem_iff_getElem.mp hb
     have Vt:j<cs.length:=by rw[<- len];exact hj
     exact⟨_,xE j b cs[j] (by rw[aaQ hj,e]) (aaQ Vt)⟩
   have w3:∀b∈acc::as,F6 b=none:=λb hb=>by
    cases e:F6 b with
    | none=>rfl
    | some o =>
     obtain⟨o',e'⟩:=live b hb;rcases fr6 b o e with z|z
     ·rw[(fr b hb).2]at z;cases z
     ·rcases z with z|⟨ws,rfl⟩
      ·rw[e']at z;cases z
      ·have y:=R6.fr b _ e;rw[AU _ _ e']at y;cases y
   have na:∀b∈acc::as,b≠a:=λb hb=>by
    obtain⟨o',e'⟩:=live b hb;exact ck (AU _ _ e') ha
   have Vl:(upd H6 a (.lst [.int ms[i],.int 0])) acc=some (.lst (List.map V.ref as)):=by rw[aq (na acc (List.mem_cons_self ..))];exact AU _ _ fG
   have R7:=w1.fw (o:=.lst [.int ms[i],.int 0]) ha;have YY:=w3 acc (List.mem_cons_self ..);have Wi:a≠acc:=(na acc (List.mem_cons_self ..)).symm;have Tz:F6 a=none:=same_none w1.fr ha;refine⟨List.map V.ref as,ms.length-(i+1),Vl,by rw[aaR,Wa];exact Nat.lt_of_lt_of_le pj (Nat.le_trans hm ∅),by omega,F6,as++[a],cs++[ms[i]],si.trans (sF.trans s36),R7.other YY a0 (noOwn _ _),?_,?_,?_,?_,by simp [len],by simp [Wa],R6.less (σ0:=[none]) trivial Wm Wl (sw (λb o e=>?_) YY),rfl,pj⟩
   ·rw[ay,List.map_append];rfl
   ·rw[List.nodup_cons]at nd ⊢
    refine⟨λh=>?_,?_⟩
    ·rcases List.mem_append.mp h with h|h
     ·exact nd.1 h
     ·exact Wi (List.mem_singleton.mp h).symm
    ·rw[List.nodup_append]
     refine⟨nd.2,by simp,λx hx y hy z=>?_⟩
     rw[List.mem_singleton.mp hy]at z;exact na x (List.mem_cons_of_mem _ hx) z
   ·intro b hb
    rcases List.mem_cons.mp hb with rfl|hb
    ·exact⟨a0,YY⟩
    ·rcases List.mem_append.mp hb with hb|hb
     ·exact⟨(fr b (List.mem_cons_of_mem _ hb)).1,w3 b (List.mem_cons_of_mem _ hb)⟩
     ·rw[List.mem_singleton.mp hb]
      exact⟨(w1.cv ha).1,Tz⟩
   ·intro t a' c' e1 e2
    by_cases ht:t<as.length
    ·rw[List.getElem?_append_left ht]at e1
     rw[List.getElem?_append_left (by rw[<- len];exact ht)]at e2
     have hm':=List.mem_of_getElem? e1;have:a'≠acc:=λz=>(List.nodup_cons.mp nd).1 (by rw[<- z];exact hm')
     rw[aq this,aq (na a' (List.mem_cons_of_mem _ hm'))];exact AU _ _ (xE t a' c' e1 e2)
    ·have h1:=(List.getElem?_eq_some_iff.mp e1).1
     rw[List.length_append,List.length_singleton]at h1;have h2:t=as.length:=by omega
     subst h2;rw[List.getElem?_append_right (Nat.le_refl _),Nat.sub_self]at e1;rw[List.getElem?_append_right (by rw[len];exact Nat.le_refl _),len,Nat.sub_self]at e2
     cases e1;cases e2;rw[aq Wi,ay]
   ·have:b≠a:=λz=>by rw[z,Tz]at e;cases e
    rw[aq this];exact R6.fr b o e
  ·left
   have e:i=ms.length:=by omega
   refine⟨uP.2 (by rw[aaR];exact e),K acc as cs Hi ⟨same Ri,fG,λb hb=>(fr b hb).1,nd,len,xE⟩⟩
end
theorem cW.xE{x:Str}{st:Stmt}{ps N:List Str}{f:Addr}{fd:FuncData}(d:cW G x st ps f fd)(hK:G.K=KF.K)(Sc:aR N ps (ai st))(hN:N.length=1)(SJ:ps.length=1)(ht:sW G k ⟨N,(ai st).names,[],false,false,false,λ_ _=>False⟩ (aw st)):gE G (k+1) x:=by
 refine⟨f,fd,ps,?_,d.m,d.F.kp,d.b⟩;refine d.F.ok Sc (λvs H Q E h=>?_) (λjh A outer s H vs Q E hr h=>?_)
 ·obtain⟨F,ns,s,r,_⟩:=h
  rw[r.length,SJ];rfl
 ·obtain⟨F,ns,sm,r,hl,K⟩:=h
  refine⟨_,ht (qv sR G.P G.w G.K G.mg G.base N x (ai st) f jh A outer s H E).Oh ⟨H,F,[],[]⟩ ⟨rfl,rfl,rfl,hK,rfl,rfl,rfl,rfl,Sc.nd,λp hp=>absurd hp (by simp),λ_ _=>rfl,λ_=>rfl,Sc.kind,λ_ _ _=>rfl,λ_=>hr.hd,hr.dp,hr.un,λ_=>PassesOwn.never,λ_=>⟨rfl,rfl,rfl⟩,λ_ _ h=>h.elim,λh=>nomatch h⟩,F,ns,?_,rfl,⟨rfl,rfl⟩,hl,λp as cs H' P=>K p as cs H' P⟩
  have:=RS.start N.length sm r;rw[hN]at this;show RS _ F _ (vs.map some++List.replicate (N.length-vs.length) none) H;rw[hN];exact this
end Vc
namespace Vc
open PySem L2
variable [KF]
variable {G:GE}{k:Nat}{S:Stat}
theorem VU(a b:D)(Q:D->Prop):Nn (.lst [a,b]) (.int 0) Q=Q a:=rfl
theorem VW(a b:D)(Q:D->Prop):Nn (.lst [a,b]) (.int 1) Q=Q b:=rfl
theorem Np:yN 2 0=some 0:=rfl
theorem Nq:yN 2 1=some 1:=rfl
theorem DM{n:Nat}(h:0<n):yN n (-1)=some (n-1):=by unfold yN;rw[if_neg ⋯,if_pos ⋯];congr 1;omega
end Vc
namespace Vc
open PySem L2
variable [KF]
section
variable {prog:Program}{w:World}{A:Around}{R:Result->Shared->Prop}
theorem N9{h0:Heap}{its:Array Value}{bt:Nat->Nat->Bool}(hh:A.handled=none)(hc:oN prog w A.in1 .Gt h0 its bt){I l S:Addr}(Hb:h0.IsList l its)(IS:I≠S)(n0:h0.get? I=none)(n1:h0.get? S=none)(kw:List (Str×Value)):
  ∀(d j:Nat) (s:Shared) (v:Value) (c:Nat),its.size-(j+1)=d->j+1<=its.size->s.heap.IsListIter I l (j+1)->its[bO bt j]?=some v->s.heap.get? S=some {cls:=.type "list",dict:=none,data:=.seq #[v,v] c,slots:=#[]} ->
  (∀b o,h0.get? b=some o->s.heap.get? b=some o) ->
  (∀v g tk,its[bO bt (its.size-1)]?=some v->(∀b o,h0.get? b=some o->g.get? b=some o)->R (.ok (.ret v)) {s with heap:=g,toks:=tk}) ->
  codeAny (model prog w) A (.builtin "max.loop" ⟨[.ref I,.none,.ref S],kw⟩) R s:=by
 have nm:(toString "max"++toString ".loop":String)="max.loop":=by decide
 have lI:l≠I:=λz=>by obtain⟨o,e,_⟩:=Hb;rw[z,n0]at e;cases e
 have lS:l≠S:=λz=>by obtain⟨o,e,_⟩:=Hb;rw[z,n1]at e;cases e
 have nI:∀ {b o},h0.get? b=some o->b≠I:=λe z=>by rw[z,n0]at e;cases e
 have nS:∀ {b o},h0.get? b=some o->b≠S:=λe z=>by rw[z,n1]at e;cases e
 intro d
 induction d with
 | zero =>
  intro j s v c hd hj hI hv hS k0 hR;have e1:j+1=its.size:=by omega
  have hl:s.heap.IsList l its:=by obtain⟨o,e,r⟩:=Hb;exact⟨o,k0 _ _ e,r⟩
  refine codeAny_builtin F.entry_max_loop ?_;rw[Around.under_plainId F.plain_max_loop _];show wpAny _ A.in1 (seqItems? (.ref S) >>= _) _ _ s;refine aaO (wpAny_seqItems hS rfl ?_);show wpAny _ A.in1 (tryCatch (pyNext (.ref I)) _ >>= _) _ _ s;refine aaO (wpAny_tryCatch (wpAny_pyNext_list_end (show A.in1.handled=none from hh) hI hl (by simp;omega) λg x1=>?_))
  have S1:=x1 S _ IS.symm hS;show wpAny _ A.in1 (updateSeq S (λ_=>#[]) >>= _) _ _ _;refine aaO (wpAny_updateSeq (s:={s with heap:=g}) S1 rfl (aaO (wpAny_letGo (wpAny_pure ?_))))
  have e2:its.size-1=j:=by omega
  refine hR v _ s.toks (by rw[e2];exact hv) λb o e=>?_
  exact(Heap.get?_update_other _ _ (Ne.symm (nS e))).trans (x1 b o (nI e) (k0 b o e))
 | succ d ih =>
  intro j s v c hd hj hI hv hS k0 hR;have eX:j+1<its.size:=by omega
  have hl:s.heap.IsList l its:=by obtain⟨o,e,r⟩:=Hb;exact⟨o,k0 _ _ e,r⟩
  refine codeAny_builtin F.entry_max_loop ?_;rw[Around.under_plainId F.plain_max_loop _];show wpAny _ A.in1 (seqItems? (.ref S) >>= _) _ _ s;refine aaO (wpAny_seqItems hS rfl ?_);show wpAny _ A.in1 (tryCatch (pyNext (.ref I)) _ >>= _) _ _ s;have hx:its[j+1]?=some its[j+1]:=by simp [eX]
  refine aaO (wpAny_tryCatch (wpAny_pyNext_list_item hI hl hx λg I1 x1=>?_));have S1:=x1.extBut S _ IS.symm hS;have k1:∀b o,h0.get? b=some o->g.get? b=some o:=λb o e=>x1.extBut b o (nI e) (k0 b o e);show wpAny _ A.in1 (tryCatch (holding [its[j+1],its[j+1]] (richCompare .Gt its[j+1] v >>= _)) _ >>= _) _ _ _;refine aaO (wpAny_tryCatch (wpAny_holding (aaO (hc (j+1) (bO bt j) _ v {s with heap:=g} _ _ hx hv k1 ?_))))
  refine aaO (wpAny_holding (wpAny_truthy_bool (aaO (wpAny_letGo (wpAny_pure ?_)))));cases hb:bt (j+1) (bO bt j)with
  | true =>
   simp only[if_true];refine aaO (wpAny_updateSeq (s:={s with heap:=g}) S1 rfl (aaO (wpAny_letGo ?_)))
   rw[nm];refine wpAny_pure ⟨plainId_quiet F.plain_max_loop _,ih (j+1) _ its[j+1] _ ⋯ eX ?_ (by simp only[bO,hb,if_true];exact hx) (Heap.get?_update_self _ S1 rfl) (λb o e=>(Heap.get?_update_other _ _ (Ne.symm (nS e))).trans (k1 b o e)) λv' g' tk Hf k'=>?_⟩
   ·obtain⟨o,e,r⟩:=I1;exact⟨o,(Heap.get?_update_other _ _ (Ne.symm IS)).trans e,r⟩
   ·exact hR v' g' tk Hf k'
  | false =>
   simp only[Bool.false_eq_true,if_false];refine aaO (wpAny_letGo ?_);rw[nm];refine wpAny_pure ⟨plainId_quiet F.plain_max_loop _,ih (j+1) _ v c ⋯ eX I1 (by simp only[bO,hb,Bool.false_eq_true,if_false];exact hv) S1 k1 λv' g' tk Hf k'=>?_⟩
   exact hR v' g' tk Hf k'
theorem wQ(a v:Value):argsOk "max" ⟨[a],[(Str.ofString "default",v)]⟩:=by unfold argsOk;kernel_rfl
theorem u3{E:Value->Shared->Prop}{s:Shared}{its:Array Value}{bt:Nat->Nat->Bool}(hh:A.handled=none)(hc:oN prog w A.in1 .Gt s.heap its bt){l:Addr}(hl:s.heap.IsList l its){dv:Value}{Q:Value->Shared->Prop}
  (q0:its.size=0->∀g tk,(∀b o,s.heap.get? b=some o->g.get? b=some o)->Q dv {s with heap:=g,toks:=tk})
  (q1:∀v g tk,its[bO bt (its.size-1)]?=some v->(∀b o,s.heap.get? b=some o->g.get? b=some o)->Q v {s with heap:=g,toks:=tk}):
  wpAny (model prog w) A (call (.builtin "max") [.ref l] [(Str.ofString "default",dv)]) Q E s:=by
 have nm:(toString "max"++toString ".loop":String)="max.loop":=by decide
 refine wpAny_call (codeAny_call_builtin F.plain_max F.entry_max ?_);have run:wpAny (model prog w) A.in1 (Builtin.«max» ⟨[.ref l],[(Str.ofString "default",dv)]⟩) (λfin s'=>match fin with
   | .done f=>(match(Except.ok f:Result)with|.ok (.ret v)=>Q v s'|.ok _=>False|.error e=>E e s')
   | .again c'=>c'.quiet=true/\codeAny (model prog w) A c' (λr s'=>match r with|.ok (.ret v)=>Q v s'|.ok _=>False|.error e=>E e s') s') E s:=by
  show wpAny _ A.in1 (Builtin.Builtins.bindParams "max" ["key","default"] 0 ⟨[],[(Str.ofString "default",dv)]⟩ >>= _) _ _ s;refine aaO (wpAny_of_eq (show Builtin.Builtins.bindParams "max" ["key","default"] 0 ⟨[],[(Str.ofString "default",dv)]⟩=pure [none,some dv]from rfl) (aaO (wpAny_pure ?_)))
  refine aaO (wpAny_pyIter_list hl (aaO (wpAny_newObj_type ?_)));generalize MX:s.heap.push {cls:=.type "list_iterator",data:=.fields #[.ref l,.int 0 0]}=g1;have n1:g1.objs.size=s.heap.objs.size+1:=by rw[<- MX];exact Heap.size_push ..
  have I0:(g1.push {cls:=.type "list",dict:=none,data:=.seq ([]:List Value).toArray}).IsListIter s.heap.objs.size l 0:=⟨_,aaP _ (by rw[<- MX];exact Heap.get?_push_size _ rfl),rfl,rfl⟩
  have S0:=Heap.get?_push_size g1 (o:={cls:=.type "list",dict:=none,data:=.seq ([]:List Value).toArray}) rfl;have k0:∀b o,s.heap.get? b=some o->(g1.push {cls:=.type "list",dict:=none,data:=.seq ([]:List Value).toArray}).get? b=some o:=λb o e=>aaP _ (by rw[<- MX];exact aaP _ e)
  have fr:∀a,s.heap.objs.size<=a->s.heap.get? a=none:=λa ha=>by
   cases e:s.heap.get? a with
   | none=>rfl
   | some o=>exact absurd (Heap.lt_size e) (Nat.not_lt.mpr ha)
  have nI:s.heap.get? s.heap.objs.size=none:=fr _ (Nat.le_refl _);have nS:s.heap.get? g1.objs.size=none:=fr _ (by rw[n1];exact Nat.le_succ _)
  have IS:s.heap.objs.size≠g1.objs.size:=by rw[n1];exact Nat.ne_of_lt (Nat.lt_succ_self _)
  rw[nm];refine wpAny_pure ⟨plainId_quiet F.plain_max_loop _,?_⟩;generalize ZL:g1.push {cls:=.type "list",dict:=none,data:=.seq ([]:List Value).toArray}=g2 at I0 S0 k0;have pj:g2.IsList l its:=by obtain⟨o,e,r⟩:=hl;exact⟨o,k0 _ _ e,r⟩
  refine codeAny_builtin F.entry_max_loop ?_;rw[Around.under_plainId F.plain_max_loop _];show wpAny _ A.in1 (seqItems? (.ref g1.objs.size) >>= _) _ _ _;refine aaO (wpAny_seqItems (s:={s with heap:=g2}) S0 rfl ?_)
  show wpAny _ A.in1 (tryCatch (pyNext (.ref s.heap.objs.size)) _ >>= _) _ _ _
  by_cases hz:its.size=0
  ·refine aaO (wpAny_tryCatch (wpAny_pyNext_list_end (show A.in1.handled=none from hh) I0 pj (by simp [hz]) λg x1=>?_))
   refine aaO (wpAny_rule (wpAny_pure ?_));exact q0 hz g s.toks λb o e=>x1 b o (λz=>by rw[z,nI]at e;cases e) (k0 b o e)
  ·have hx:its[0]?=some its[0]:=by simp [Nat.pos_of_ne_zero hz]
   refine aaO (wpAny_tryCatch (wpAny_pyNext_list_item I0 pj hx λg I1 x1=>?_));have S1:=x1.extBut _ _ IS.symm S0;have k1:∀b o,s.heap.get? b=some o->g.get? b=some o:=λb o e=>x1.extBut b o (λz=>by rw[z,nI]at e;cases e) (k0 b o e)
   show wpAny _ A.in1 (updateSeq g1.objs.size (λ_=>#[its[0],its[0]]) >>= _) _ _ _;refine aaO (wpAny_updateSeq (s:={s with heap:=g}) S1 rfl ?_)
   rw[nm];refine wpAny_pure ⟨plainId_quiet F.plain_max_loop _,N9 hh hc hl IS nI nS _ _ 0 _ its[0] _ rfl (Nat.pos_of_ne_zero hz) ?_ hx (Heap.get?_update_self _ S1 rfl) (λb o e=>(Heap.get?_update_other _ _ (λz=>by rw[<- z,nS]at e;cases e)).trans (k1 b o e)) λv g' tk hv k'=>q1 v g' tk hv k'⟩
   obtain⟨o,e,r⟩:=I1;exact⟨o,(Heap.get?_update_other _ _ (Ne.symm IS)).trans e,r⟩
 simp only[checkBuiltinCall,F.kind_max];cases M4:Manifest.signature? "max" with
 | none=>exact wpAny_pure run
 | some sig =>
  have ha:argsOk "max" ⟨[.ref l],[(Str.ofString "default",dv)]⟩:=wQ _ _;have Zz:Bind.checkArgs "max" sig ⟨[.ref l],[(Str.ofString "default",dv)]⟩=pure ():=by simpa only[argsOk,M4]using ha
  simp only[Zz];exact wpAny_pure run
end
end Vc
namespace Vc
open PySem L2
variable [KF]
variable {G:GE}{k:Nat}{S:Stat}
def RF(c:TB)(ta tb:TV):TV:=λσ Q=>c σ λb aA=>if b=true then ta aA Q else tb aA Q
theorem Xt{c a b:Expr}{tc:TB}{ta tb:TV}{pos:Pos}(hc:EB G k S c tc)(ha:EO G k S a ta)(hb:EO G k S b tb):EO G k S (.IfExp c a b pos) (RF tc ta tb):=.mk λX Y ok=>bo (Ek (hc X Y ok) (ha X Y ok) (hb X Y ok)) λσ H Q q=>by
 obtain⟨F,ak,Qd,R,q,K⟩:=q;refine⟨F,ak,_,R,q,λb H1 F1 aA s1 R1 q1=>?_⟩;cases b with
 | true=>exact⟨F1,aA,Qd,R1,q1,λv H' F' x aL s'=>K v H' F' x aL (s1.trans s')⟩
 | false=>exact⟨F1,aA,Qd,R1,q1,λv H' F' x aL s'=>K v H' F' x aL (s1.trans s')⟩
def Au:List D->Option D
 | []=>none
 | x::xs=>some (xs.foldl (λb y=>if ltI b y=true then y else b) x)
def wC(xs:List D)(i j:Nat):Bool:=ltI (xs.getD j .bD) (xs.getD i .bD)
theorem pJ(xs:List D)(x:D):∀n,n<(x::xs).length->(x::xs).getD (bO (wC (x::xs)) n) .bD=(xs.take n).foldl (λb y=>if ltI b y=true then y else b) x
 | 0,_=>rfl
 | n+1,h=>by
  have ih:=pJ xs x n (by simp at h ⊢;omega)
  have hl:n<xs.length:=by simpa using h
  have gx:(x::xs).getD (n+1) .bD=xs[n]:=by
   rw[List.getD_eq_getElem?_getD,List.getElem?_cons_succ,aaQ hl];rfl
  rw[List.take_add_one,aaQ hl,Option.toList_some,List.foldl_append,List.foldl_cons,List.foldl_nil,<- ih];have e:wC (x::xs) (n+1) (bO (wC (x::xs)) n)=ltI ((x::xs).getD (bO (wC (x::xs)) n) .bD) xs[n]:=by
   unfold wC;rw[gx]
  show(x::xs).getD (if wC (x::xs) (n+1) (bO (wC (x::xs)) n)=true then n+1 else bO (wC (x::xs)) n) .bD=_
  rw[e]
  split
  ·exact gx
  ·rfl
theorem HD{xs:List D}(h:xs≠[]):Au xs=some (xs.getD (bO (wC xs) (xs.length-1)) .bD):=by
 cases xs with
 | nil=>exact absurd rfl h
 | cons x xs =>
  have:=pJ xs x xs.length (by simp)
  have e:(x::xs).length-1=xs.length:=by simp
  rw[e,this,List.take_length];rfl
theorem GU{X:Cx}{pins:List (Addr×Obj)}{σ:St}{H F:Hp}{s:Shared}(I:L2.Inv X pins σ H s){vs:List V}{xs:List D}{its:List Value}(rl:aD F vs xs)(rv:Vals vs its)(hc:xs.all isInt=true):
  oN X.prog X.w X.A.in1 .Gt s.heap its.toArray (wC xs):=by
 intro i j x y s' Q E ex ey kp q;have kr:its[i]?=some x:=by simpa using ex
 have Zn:its[j]?=some y:=by simpa using ey
 have back:∀ {n z},its[n]?=some z->∃v d,vs[n]?=some v/\xs[n]?=some d/\RelV v z/\Rep F v d:=λ{n z} e=>by
  have hl:n<vs.length:=by rw[rv.length];exact(List.getElem?_eq_some_iff.mp e).1
  have ev:vs[n]?=some vs[n]:=aaQ hl;obtain⟨d,e1,e2⟩:=rl.get' ev;obtain⟨u,e3,e4⟩:=rv.get ev;rw[e]at e3;cases e3;exact⟨_,d,ev,e1,e4,e2⟩
 obtain⟨v,d,_,hd,r1,p1⟩:=back kr;obtain⟨u,e,_,he,r2,p2⟩:=back Zn;have bt:wC xs i j=ltI e d:=by
  unfold wC;rw[List.getD_eq_getElem?_getD,List.getD_eq_getElem?_getD,hd,he];rfl
 rw[bt]at q;have h1:=List.all_eq_true.mp hc d (List.mem_of_getElem? hd);have h2:=List.all_eq_true.mp hc e (List.mem_of_getElem? he);show wpAny _ _ (compareOp .Gt x y) _ _ _;cases d with
 | int a =>
  cases e with
  | int b =>
   cases p1;cases p2;obtain⟨t,rfl⟩:=r1;obtain⟨t',rfl⟩:=r2;exact PyProof.Rows.gt_int q
  | _=>exact absurd h2 (by simp [isInt])
 | _=>exact absurd h1 (by simp [isInt])
end Vc
set_option maxHeartbeats 0
namespace Vc
open PySem PySem.W
@[elab_as_elim] theorem aaI{α:Type} {P:List α->Prop} (h:∀a,P [a]):∀us:List α,us.length=1->P us
 | [a],_=>h a
@[elab_as_elim] theorem aaJ{α:Type} {P:List α->Prop} (h:∀a b,P [a,b]):∀us:List α,us.length=2->P us
 | [a,b],_=>h a b
@[elab_as_elim] theorem aaK{α:Type} {P:List α->Prop} (h:∀a b c,P [a,b,c]):∀us:List α,us.length=3->P us
 | [a,b,c],_=>h a b c
@[elab_as_elim] theorem aaL{α:Type} {P:List α->Prop} (h:∀a b c d,P [a,b,c,d]):∀us:List α,us.length=4->P us
 | [a,b,c,d],_=>h a b c d
@[elab_as_elim] theorem aaM{α:Type} {P:List α->Prop} (h:∀a b c d e,P [a,b,c,d,e]):∀us:List α,us.length=5->P us
 | [a,b,c,d,e],_=>h a b c d e
theorem Sh{q:Program}{loose:List Str}{XP:(Str->Option Value)->Heap->Prop}{K:Params->Frag}{as:List Addr}{n t:Nat}{r:RowW}{d:DefRec}{kwd:List (Str×Expr)}{run:Value->List Value->Sem Value}
  (e:∀P,as=(K P).map (·.1)) (h:WalkO q loose XP (λw h=>(K w.params).In h) r d kwd run):WalkX q loose XP (X.obsZ as) (X.valZ K n t) r d kwd run:=
 λw dr bQ mg mb G y a o pm cd doc dV kV ho hd qG hD hmg hg args vals as' L Ah Vx SK VM wD =>
  h w dr bQ mg mb G (InK.keeps w _ _ (X.z_facts e y).2.1 L.keeps) a o pm cd doc dV kV ho hd qG hD hmg hg args vals as' Ah Vx SK VM wD
end Vc
namespace Vc
open PySem L2
variable [KF]
variable {G:GE}{k:Nat}{S:Stat}
def V7:D->Option Key
 | .int i=>some (.inl i)
 | .str x=>some (.inr x)
 | _=>none
def yP:List D->Option (List Key)
 | []=>some []
 | d::ds=>match V7 d,yP ds with
  | some k,some ks=>some (k::ks)
  | _,_=>none
def uQ:D->Option (List Key)
 | .tup ds=>yP ds
 | _=>none
theorem Hs{d:D}{k:Key}(h:V7 d=some k):d=kD k:=by
 cases d<;>cases h<;>rfl
theorem uR:∀ {ds:List D} {ks:List Key},yP ds=some ks->ds=ks.map kD
 | [],ks,h=>by cases h;rfl
 | d::ds,ks,h=>by
  unfold yP at h
  split at h
  ·rename_i k ks' e1 e2
   cases h;rw[Hs e1,uR e2];rfl
  ·cases h
theorem yO{d:D}{ks:List Key}(h:uQ d=some ks):d=.tup (ks.map kD):=by
 cases d with
 | tup ds=>rw[uR h]
 | _=>cases h
theorem Rep.key{F:Hp}{v:V}{k:Key}(r:Rep F v (kD k)):v=kV k:=by
 cases k with
 | inl i=>cases(show Rep F v (.int i)from r);rfl
 | inr x=>cases(show Rep F v (.str x)from r);rfl
theorem aD.keys{F:Hp}:∀ {ks:List Key} {vs:List V},aD F vs (ks.map kD)->vs=ks.map kV
 | [],_,r=>by cases r;rfl
 | k::ks,_,r=>by
  cases r with
  | cons h t=>rw[h.key,aD.keys t];rfl
theorem Rep.uQ{F:Hp}{v:V}{ks:List Key}(r:Rep F v (.tup (ks.map kD))):∃b,v=.ref b/\F b=some (.tup (ks.map kV)):=by
 cases r with
 | tup h r=>exact⟨_,rfl,by rw[<- r.keys];exact h⟩
theorem Mq(a b:Key):fB (kD a) (kD b)=decide (a=b):=by
 cases a<;>cases b<;>simp [kD,fB]<;>rfl
theorem yu:∀as bs:List Key,mP (as.map kD) (bs.map kD)=decide (as=bs)
 | [],[]=>rfl
 | [],b::bs=>rfl
 | a::as,[]=>rfl
 | a::as,b::bs=>by
  show(fB (kD a) (kD b)&&mP (as.map kD) (bs.map kD))=_;rw[Mq,yu as bs]
  by_cases h1:a=b
  ·subst h1
   by_cases h2:as=bs
   ·subst h2;simp
   ·simp [h2]
  ·simp [h1]
theorem fD(as bs:List Key):fB (.tup (as.map kD)) (.tup (bs.map kD))=decide (as=bs):=yu as bs
def de(kvs:List (D×D))(d:D):Option D:=(kvs.find? λkv=>fB kv.1 d).map (·.2)
def dput(kvs:List (D×D))(d v:D):List (D×D):=
 if(kvs.any λkv=>fB kv.1 d)=true then kvs.map (λkv=>if fB kv.1 d=true then(kv.1,v)else kv)else kvs++[(d,v)]
theorem cX.length{F:Hp}:∀ {ks:List (List Key×V)} {kvs:List (D×D)},cX F ks kvs->ks.length=kvs.length
 | _,_,.nil=>rfl
 | _,_,.cons _ r=>by simp [cX.length r]
theorem cX.any{F:Hp}(k:List Key):∀ {ks:List (List Key×V)} {kvs:List (D×D)},cX F ks kvs->(kvs.any λkv=>fB kv.1 (.tup (k.map kD)))=(ks.any λkv=>decide (kv.1=k))
 | _,_,.nil=>rfl
 | _,_,.cons _ r=>by rw[List.any_cons,List.any_cons,cX.any k r,fD]
theorem cX.val{F:Hp}(k:List Key):∀ {ks:List (List Key×V)} {kvs:List (D×D)},cX F ks kvs->(c5 ks k=none/\de kvs (.tup (k.map kD))=none)\/∃v d,c5 ks k=some v/\de kvs (.tup (k.map kD))=some d/\Rep F v d
 | _,_,.nil=>.inl ⟨rfl,rfl⟩
 | _,_,.cons (k:=k') (v:=v) (d:=d) (ks:=ks) (kvs:=kvs) h r=>by
  by_cases e:k'=k
  ·subst e
   refine .inr ⟨v,d,?_,?_,h⟩
   ·unfold c5;rw[List.find?_cons_of_pos (by simp)];rfl
   ·unfold de;rw[List.find?_cons_of_pos (by rw[fD];simp)];rfl
  ·have e1:c5 ((k',v)::ks) k=c5 ks k:=by unfold c5;rw[List.find?_cons_of_neg (by simpa using e)]
   have e2:de ((D.tup (k'.map kD),d)::kvs) (.tup (k.map kD))=de kvs (.tup (k.map kD)):=by unfold de;rw[List.find?_cons_of_neg (by rw[fD];simpa using e)]
   rw[e1,e2];exact cX.val k r
theorem cX.append{F:Hp}:∀ {ks ks':List (List Key×V)} {kvs V8:List (D×D)},cX F ks kvs->cX F ks' V8->cX F (ks++ks') (kvs++V8)
 | _,_,_,_,.nil,s=>s
 | _,_,_,_,.cons h r,s=>.cons h (cX.append r s)
theorem cX.repl{F:Hp}{v:V}{d:D}(k:List Key)(hv:Rep F v d):∀ {ks:List (List Key×V)} {kvs:List (D×D)},cX F ks kvs->cX F (ks.map λkv=>if kv.1=k then(kv.1,v)else kv) (kvs.map λkv=>if fB kv.1 (.tup (k.map kD))=true then(kv.1,d)else kv)
 | _,_,.nil=>.nil
 | _,_,.cons (k:=k') h r=>by
  rw[List.map_cons,List.map_cons]
  by_cases e:k'=k
  ·rw[if_pos (show k'=k from e),if_pos (show fB (.tup (k'.map kD)) (.tup (k.map kD))=true by rw[fD];simpa using e)]
   exact .cons hv (cX.repl k hv r)
  ·rw[if_neg (show¬k'=k from e),if_neg (show¬fB (.tup (k'.map kD)) (.tup (k.map kD))=true by rw[fD];simpa using e)]
   exact .cons h (cX.repl k hv r)
theorem cX.put{F:Hp}{ks:List (List Key×V)}{kvs:List (D×D)}{v:V}{d:D}(k:List Key)(r:cX F ks kvs)(hv:Rep F v d):cX F (putK ks k v) (dput kvs (.tup (k.map kD)) d):=by
 unfold putK dput;rw[r.any k]
 split
 ·exact r.repl k hv
 ·exact r.append (.cons hv .nil)
def Gm(kvs:List (D×D)):O where
 fp:=λa=>[a]
 rep:=λF H a=>∃ks,H a=some (.dT ks)/\cX F ks kvs
 solid:=λ{F H a b φ} ⟨ks,h,_⟩ hb z=>by
  rw[List.mem_singleton.mp hb,h]at z;cases z
 nt:=λ{F H a b vs} ⟨ks,h,_⟩ hb z=>by
  rw[List.mem_singleton.mp hb,h]at z;cases z
 mono:=λ{F F' H H' a} s e ⟨ks,h,r⟩=>⟨ks,by rw[e a (List.mem_singleton.mpr rfl)];exact h,r.mono s⟩
theorem RS.vn{Y:bK}{F:Hp}{ak:Sd}{σ:St}{H:Hp}{i:Nat}{o o':O}{a c:Addr}{u:HO}(R:RS Y F ak σ H)(e:ak[i]?=some (some (.obj o)))(h:σ[i]?=some (some (.ref a)))(hc:c∈o.fp a)(DC:∀b,b∈o'.fp a->b∈o.fp a)
  (hr:o'.rep F (upd H c u) a):RS Y F (ak.set i (some (.obj o'))) σ (upd H c u):=by
 obtain⟨a',w1,w2,w3⟩:=R.ob.obj i o e;rw[h]at w1;cases w1;have ow:∀b∈o.fp a,gm ak σ b:=λb hb=>⟨i,o,a,e,h,hb⟩;have hl:i<ak.length:=(List.getElem?_eq_some_iff.mp e).1;have up:∀ {b:Addr},H b≠none->(upd H c u) b≠none:=λ{b} hb=>by
  by_cases z:b=c
  ·rw[z,ay];exactλy=>nomatch y
  ·rw[aq z];exact hb
 refine⟨by simpa using R.len,R.lo,λb q z=>?_,R.fE,λb q z n=>?_,λj d z=>?_,λj xs z=>?_,λj l xs ys b z1 z2 z3 z4=>?_,λp hp=>?_,⟨λj p z=>?_,λj l p p2 b d z1 z2 z3 z4 cU x hx sT=>?_,λj ys b z1 z2 ⟨l,p,d,z3,z4,hm⟩=>?_,λb hb=>up (R.ob.there b hb),R.ob.Kr,R.ob.tab⟩⟩
 ·have:b≠c:=λy=>by rw[y,(w3 c hc).1]at z;cases z
  rw[aq this];exact R.fr b q z
 ·have:b≠c:=λy=>by
   subst y;rcases(w3 b hc).2.2 with y|y
   ·rw[y]at z;cases z
   ·exact n (List.mem_append_right _ y)
  rw[aq this];exact R.old b q z n
 ·rcases gs z with⟨_,y⟩|⟨_,z⟩
  ·cases y
  ·exact R.sh j d z
 ·rcases gs z with⟨_,y⟩|⟨_,z⟩
  ·cases y
  ·obtain⟨b,vs,y1,y2,y3⟩:=R.own j xs z
   have:b≠c:=λy=>R.ob.iY j xs b z y1 (y ▸ ow c hc);exact⟨b,vs,y1,by rw[aq this];exact y2,y3⟩
 ·rcases gs z1 with⟨_,y⟩|⟨_,z1⟩
  ·cases y
  rcases gs z2 with⟨_,y⟩|⟨_,z2⟩
  ·cases y
  exact R.dis j l xs ys b z1 z2 z3 z4
 ·obtain⟨y1,xs,y2⟩:=R.io p hp
  have:p.1≠i:=λy=>by rw[y,e]at y2;cases y2
  exact⟨y1,xs,by rw[bC this];exact y2⟩
 ·rcases gs z with⟨rfl,y⟩|⟨hj,z⟩
  ·cases y
   exact⟨a,h,hr,λb hb=>⟨(w3 b (DC b hb)).1,up (w3 b (DC b hb)).2.1,(w3 b (DC b hb)).2.2⟩⟩
  ·obtain⟨b,y1,y2,y3⟩:=R.ob.obj j p z
   refine⟨b,y1,p.mono (av.refl _) (λd hd=>?_) y2,λd hd=>⟨(y3 d hd).1,up (y3 d hd).2.1,(y3 d hd).2.2⟩⟩;exact aq λy=>R.ob.tU i j o p a b e z h y1 (Ne.symm hj) c hc (y ▸ hd)
 ·rcases gs z1 with⟨e1,y⟩|⟨hj,y1⟩
  ·cases y
   subst e1;rw[h]at z3;cases z3;rcases gs z2 with⟨e2,_⟩|⟨pj,y2⟩
   ·exact cU e2.symm
   ·exact R.ob.tU j l o p2 a d e y2 h z4 cU x (DC x hx) sT
  ·rcases gs z2 with⟨e2,y⟩|⟨pj,y2⟩
   ·cases y
    subst e2;rw[h]at z4;cases z4;exact R.ob.tU j l p o b a y1 e z3 h cU x hx (DC x sT)
   ·exact R.ob.tU j l p p2 b d y1 y2 z3 z4 cU x hx sT
 ·rcases gs z1 with⟨_,y⟩|⟨_,y1⟩
  ·cases y
  rcases gs z3 with⟨e3,y⟩|⟨_,y3⟩
  ·cases y
   subst e3;rw[h]at z4;cases z4;exact R.ob.iY j ys b y1 z2 (ow b (DC b hm))
  ·exact R.ob.iY j ys b y1 z2 ⟨l,p,d,y3,z4,hm⟩
theorem RS.zY{Y:bK}{F:Hp}{ak:Sd}{σ:St}{H:Hp}{i:Nat}{kvs:List (D×D)}(R:RS Y F ak σ H)(e:ak[i]?=some (some (.obj (Gm kvs))))(Af:Y.ob=[]):
  ∃F' v,av F F'/\RS Y F' (ak.set i (some (.sh (.dct kvs)))) σ H/\σ[i]?=some (some v)/\Rep F' v (.dct kvs):=by
 obtain⟨a,w1,⟨ks,w2,w3⟩,w4⟩:=R.ob.obj i _ e;have ha:=w4 a (List.mem_singleton.mpr rfl);have hz:Y.H0 a=none:=ha.2.2.elim id λz=>by rw[Af]at z;cases z
 have sm:=aK (o:=.dT ks) ha.1;have ow:gm ak σ a:=⟨i,_,a,e,w1,List.mem_singleton.mpr rfl⟩;have hl:i<ak.length:=(List.getElem?_eq_some_iff.mp e).1;have rep:Rep (upd F a (.dT ks)) (.ref a) (.dct kvs):=.zZ ay (w3.mono sm);refine⟨upd F a (.dT ks),.ref a,sm,⟨by simpa using R.len,R.lo.trans sm,λb q z=>?_,λb q z=>?_,R.old,λj d z=>?_,λj xs z=>?_,λj l xs ys b z1 z2 z3 z4=>?_,λp hp=>?_,?_⟩,w1,rep⟩
 ·by_cases hb:b=a
  ·subst hb;rw[ay]at z;cases z;exact w2
  ·rw[aq hb]at z;exact R.fr b q z
 ·by_cases hb:b=a
  ·rw[hb];exact .inr (.inl hz)
  ·rw[aq hb]at z;exact R.fE b q z
 ·rcases gs z with⟨rfl,y⟩|⟨_,z⟩
  ·cases y;exact⟨_,w1,rep⟩
  ·obtain⟨v,y1,y2⟩:=R.sh j d z
   exact⟨v,y1,y2.mono sm⟩
 ·rcases gs z with⟨_,y⟩|⟨_,z⟩
  ·cases y
  ·obtain⟨b,vs,y1,y2,y3,y4,y5⟩:=R.own j xs z
   have:b≠a:=λy=>R.ob.iY j xs b z y1 (y ▸ ow);exact⟨b,vs,y1,y2,y3.mono sm,by rw[aq this];exact y4,y5⟩
 ·rcases gs z1 with⟨_,y⟩|⟨_,z1⟩
  ·cases y
  rcases gs z2 with⟨_,y⟩|⟨_,z2⟩
  ·cases y
  exact R.dis j l xs ys b z1 z2 z3 z4
 ·obtain⟨y1,xs,y2⟩:=R.io p hp
  have:p.1≠i:=λy=>by rw[y,e]at y2;cases y2
  exact⟨y1,xs,by rw[bC this];exact y2⟩
 ·refine⟨λj p z=>?_,λj l p p2 b d z1 z2=>?_,λj ys b z1 z2 ⟨l,p,d,z3,z4,hm⟩=>?_,R.ob.there,R.ob.Kr,R.ob.tab.mono sm⟩
  ·rcases gs z with⟨_,y⟩|⟨hj,z⟩
   ·cases y
   obtain⟨b,y1,y2,y3⟩:=R.ob.obj j p z;refine⟨b,y1,p.mono sm (λ_ _=>rfl) y2,λd hd=>⟨?_,(y3 d hd).2⟩⟩;have cU:d≠a:=λy=>R.ob.tU i j _ p a b e z w1 y1 (Ne.symm hj) a (List.mem_singleton.mpr rfl) (by rw[<- y];exact hd)
   rw[aq cU];exact(y3 d hd).1
  ·rcases gs z1 with⟨_,y⟩|⟨_,z1⟩
   ·cases y
   rcases gs z2 with⟨_,y⟩|⟨_,z2⟩
   ·cases y
   exact R.ob.tU j l p p2 b d z1 z2
  ·rcases gs z1 with⟨_,y⟩|⟨_,z1⟩
   ·cases y
   rcases gs z3 with⟨_,y⟩|⟨_,z3⟩
   ·cases y
   exact R.ob.iY j ys b z1 z2 ⟨l,p,d,z3,z4,hm⟩
def RD:TX:=λσ Q=>Q (.obj (Gm [])) σ
theorem IA{pos:Pos}:EX G k S (.Dict [] [] pos) RD:=.mk λX Y ok=>bo Ej λσ H Q q=>by
 obtain⟨F,ak,Qd,R,q,K⟩:=q;intro p hp;refine K _ _ F (.obj (Gm [])) ak (av.refl _) (R.fw hp) ⟨p,rfl,⟨[],ay,.nil⟩,λb hb=>?_⟩ q;rw[List.mem_singleton.mp hb];exact⟨same_none R.fr hp,(by rw[ay];exactλz=>nomatch z),(R.cv hp).1,R.c9 hp⟩
def tOv(i:Nat):TV:=λσ Q=>(∃o,σ[i]?=some (some (.obj o)))/\Q (.var i) σ
theorem aat(i:Nat){x:Str}{pos:Pos}(hN:S.N[i]?=some x:=by rfl)(hv:S.sc.lookup x=some .local\/S.sc.lookup x=some .cell\/S.sc.lookup x=some .free:=by first|exact Or.inl rfl|exact Or.inr (Or.inl rfl)|exact Or.inr (Or.inr rfl))
  (hd:(x==("__debug__":Str))=false:=by decide) (qG:(x==("__classdict__":Str))=false:=by decide):EO G k S (.Name x pos) (tOv i):=.mk λX Y ok =>
 bo (fY (X:=X) (i:=i) (by rw[ok.N];exact hN) (by unfold BE;rw[ok.sc];exact hv) hd qG) λσ H Q q=>by
  obtain⟨F,ak,Qd,R,⟨⟨o,e⟩,q⟩,K⟩:=q;obtain⟨a,w1,_⟩:=R.ob.obj i o e;exact⟨.ref a,w1,K _ H F (.var i) ak (av.refl _) R w1 q⟩
def tDz(i:Nat):TD:=λσ Q=>∃kvs,σ[i]?=some (some (.obj (Gm kvs)))/\Q (.dct kvs) (σ.set i (some (.sh (.dct kvs))))
theorem aas(i:Nat){x:Str}{pos:Pos}(hN:S.N[i]?=some x:=by rfl)(hv:S.sc.lookup x=some .local\/S.sc.lookup x=some .cell\/S.sc.lookup x=some .free:=by first|exact Or.inl rfl|exact Or.inr (Or.inl rfl)|exact Or.inr (Or.inr rfl))
  (hd:(x==("__debug__":Str))=false:=by decide) (qG:(x==("__classdict__":Str))=false:=by decide) (ZE:S.zP=false:=by rfl) (cY:S.ios=[]:=by rfl):ED G k S (.Name x pos) (tDz i):=.mk λX Y ok =>
 bo (fY (X:=X) (i:=i) (by rw[ok.N];exact hN) (by unfold BE;rw[ok.sc];exact hv) hd qG) λσ H Q q=>by
  obtain⟨F,ak,Qd,R,⟨kvs,e,q⟩,K⟩:=q;obtain⟨F',v,s,R',e2,r⟩:=R.zY e (ok.obs ZE cY);exact⟨v,e2,K v H F' (.dct kvs) _ s R' r q⟩
def RE(i:Nat)(tk tv:TD):cS:=λDe σ=>tv σ λd aA=>(∃o,aA[i]?=some (some (.obj o)))/\tk aA λkd bh=>∃kvs ks,bh[i]?=some (some (.obj (Gm kvs)))/\uQ kd=some ks/\kvs.length<sizeLine/\De.nx (bh.set i (some (.obj (Gm (dput kvs kd d)))))
theorem IG(i:Nat){x:Str}{ke ve:Expr}{tk tv:TD}{np pos' pos:Pos}(hv:ED G k S ve tv)(hk:ED G k S ke tk)(ho:EO G k S (.Name x np) (tOv i))(hs:∀line env,swapsWith ve (some (.Subscript (.Name x np) ke pos')) line env=pure false:=by intro _ _;rfl):
  ES G k S (.Assign [.Subscript (.Name x np) ke pos'] ve pos) (RE i tk tv):=.mk λX Y ok =>
 dE (Ik (by have:=ok.units;omega) (ho X Y ok) (hk X Y ok) (hv X Y ok) (hs _ _)) λDn σ H q=>by
  obtain⟨F,ak,De,R,q,K⟩:=q;refine⟨F,ak,_,R,q,λv H1 F1 d aA s1 R1 r1 q1=>?_⟩;refine⟨F1,aA,λx aaD=>x=.var i/\tk aaD λkd bh=>∃kvs ks,bh[i]?=some (some (.obj (Gm kvs)))/\uQ kd=some ks/\kvs.length<sizeLine/\De.nx (bh.set i (some (.obj (Gm (dput kvs kd d))))),R1,⟨q1.1,rfl,q1.2⟩,λv2 H2 F2 y bh s2 R2 r2 q2=>?_⟩;obtain⟨rfl,q2⟩:=q2;have r2:σ[i]?=some (some v2):=r2;refine⟨F2,bh,_,R2,q2,λv3 H3 F3 kd gk s3 R3 r3 q3=>?_⟩;obtain⟨kvs,ks,e,ek,hl,q3⟩:=q3;obtain⟨a,w1,⟨us,w2,w3⟩,w4⟩:=R3.ob.obj i _ e;rw[r2]at w1;cases w1;obtain rfl:=yO ek;obtain⟨b,rfl,hb⟩:=r3.uQ;refine⟨a,_,rfl,.t w2 (R3.fr b _ hb) (by rw[w3.length];exact hl),K.nx σ _ F3 _ ((s1.trans s2).trans s3) (R3.vn (o':=Gm (dput kvs (.tup (ks.map kD)) d)) e r2 (List.mem_singleton.mpr rfl) (λ_ z=>z) ⟨_,ay,w3.put ks (r1.mono (s2.trans s3))⟩) q3⟩
def Nc:D->D->(Bool->Prop)->Prop
 | x,.dct kvs,Q=>(uQ x).isSome=true/\Q (de kvs x).isSome
 | _,_,_=>False
def yU(x y:D)(Q:Bool->Prop):Prop:=Nc x y λb=>Q !b
def EF(neg:Bool):R2:=λy x H Q=>∃a o,x=.ref a/\mC H a y o/\Q (.bl (if neg then !o.isSome else o.isSome)) H
theorem AA{X:Cx}(hu:X.A.units+1<cLine):iU X (compareOp .NotIn) (EF true):=by
 intro pins s σ H x y v u Q I rx ry h;obtain⟨a,o,rfl,g,q⟩:=h;cases ry;exact GW hu I g rx λs' I'=>⟨.bl (!o.isSome),H,I',rfl,q⟩
theorem Ak{F H:Hp}(s:av F H){v u:V}{x:D}{kvs:List (D×D)}(rv:cQ F H v x)(ru:cQ F H u (.dct kvs))(hk:(uQ x).isSome=true):∃a o,u=.ref a/\mC H a v o/\o.isSome=(de kvs x).isSome:=by
 obtain⟨ks,ek⟩:=Option.isSome_iff_exists.mp hk;obtain rfl:=yO ek;obtain⟨b,rfl,hb⟩:=(show Rep F v (.tup (ks.map kD))from rv).uQ
 cases(show Rep F u (.dct kvs)from ru)with
 | zZ h r =>
  refine⟨_,_,rfl,.t (s _ _ h) (s _ _ hb),?_⟩;rcases r.val ks with⟨e1,e2⟩|⟨v,d,e1,e2,_⟩
  ·rw[e1,e2];rfl
  ·rw[e1,e2];rfl
theorem Lh:oq G k S .NotIn yU:=⟨EF true,λX Y ok=>AA (by have:=ok.units;omega),λY F H ak σ v u x y Qd Q R rx ry q K=>by
 unfold yU Nc at q
 split at q
 ·obtain⟨a,o,rfl,g,e⟩:=Ak R.fr rx ry q.1
  exact⟨a,o,rfl,g,K _ (by rw[if_pos rfl,e];exact q.2)⟩
 ·exact q.elim⟩
end Vc
namespace Vc
open PySem PyProof.Rows
section
variable {prog:Program}{w:World}{A:Around}{R:Result->Shared->Prop}
def Kp(h g:Heap):Prop:=∀b o,h.get? b=some o->g.get? b=some o
end
end Vc
namespace Vc
open PySem PySem.W L2
section
variable {P:Addr}{K:Frag}(hP:K.lookup P=some (tabObj #[]))
include hP
end
end Vc
namespace Vc
open PySem L2
variable [KF]
section
variable {X:Cx}
def Xp:V->List V->Hp->VK->Prop:=λx vs H Q=>∃a z kvs k,x=.ref a/\vs=[kV k,z]/\H a=some (.dK kvs)/\kvs.length<sizeLine/\(∀v,c5 kvs k=some v->Q v H)/\(c5 kvs k=none->Q z (upd H a (.dK (putK kvs k z))))
theorem HE:Tp X "dict.setdefault" Xp:=by
 intro pins s σ H x vs v us Q I rx rv h;obtain⟨a,z,kvs,k,rfl,rfl,e,hl,h1,h2⟩:=h;cases rx;cases rv with
 | cons ry rr =>
 cases rr with
 | cons rz rr =>
 cases rr;obtain⟨hz,hd,ws,rel,dd⟩:=o6 I.bU e;have hv:=rel.val k;have Yl:(putK kvs k z).length<=sizeLine:=by have:=fm kvs k z;omega
 refine call_meetsIn F.slot_dict_setdefault dd.typeIs F.entry_dict_setdefault (F.args_dict_setdefault_3 _ _ _) (kt_meets_setdefault (bR X.prog X.w) a (pB ry) hd _) ⟨ws,dd,by rw[<- rel.length];exact hz,λw hw=>?_,λhn h' Gj hs=>?_⟩
 ·rw[hw]at hv
  cases l:c5 kvs k with
  | none=>rw[l]at hv;exact False.elim hv
  | some v=>rw[l]at hv;exact⟨v,H,I.tok _,hv,h1 v l⟩
 ·rw[hn]at hv
  cases l:c5 kvs k with
  | some v=>rw[l]at hv;exact False.elim hv
  | none =>
   have he:∃q,h'.get? a=some q:=let ⟨q,_,_,hq,_⟩:=Gj;⟨q,hq⟩;exact⟨z,_,mj I (by rw[e];exact True.intro) hs he (xg Yl hd (rel.put k rz) Gj),rz,h2 l⟩
def YH(p a:Addr):HO:=.ext λh=>h.IsValuesView p a
def Xs:V->List V->Hp->VK->Prop:=λx vs H Q=>∃a kvs,x=.ref a/\vs=[]/\H a=some (.dK kvs)/\∀p,H p=none->Q (.ref p) (upd H p (YH p a))
theorem HF:Tp X "dict.values" Xs:=by
 intro pins s σ H x vs v us Q I rx rv h;obtain⟨a,kvs,rfl,rfl,e,q⟩:=h;cases rx;cases rv;obtain⟨hz,hd,ws,rel,dd⟩:=o6 I.bU e;refine call_meetsIn F.slot_dict_values dd.typeIs F.entry_dict_values (F.args_dict_values_1 _) (meets_dict_values (bR X.prog X.w) a hd) ⟨⟨ws,dd⟩,?_⟩;have hg:=Heap.get?_push_size s.heap (o:={cls:=.type "dict_values",data:=.fields #[.ref a]}) rfl;refine⟨.ref s.heap.objs.size,_,I.laid (t':=s.toks) (λb o e=>aaP _ e) (Nat.le_refl _) (show cu X.prog X.w _ _ _ (YH _ a)from⟨⟨_,hg,rfl,rfl⟩,⟨_,hg⟩,λh1 h2 ⟨o,ho,x⟩ k=>⟨o,k o ho,x⟩⟩),rfl,q _ I.fresh⟩
def Qu:List V->Hp->VK->Prop:=λxs H Q=>∃p a kvs,xs=[.ref p]/\H p=some (YH p a)/\H a=some (.dK kvs)/\∀l,H l=none->Q (.ref l) (upd H l (.lst (kvs.map (·.2))))
theorem wZ(hc:X.calm=true):cK X (.type "list") Qu:=by
 intro pins s σ H xs us Q I r h;obtain⟨p,a,kvs,rfl,hp,e,q⟩:=h;obtain⟨u,rfl,ru⟩:=vals1 r;cases ru;obtain⟨hz,hd,ws,rel,dd⟩:=o6 I.bU e;obtain⟨ep,da⟩:=dd.dictAt;obtain⟨hv,_⟩:=I.bU p _ hp;have hv:s.heap.IsValuesView p a:=hv;refine PySem.W.kdl_call (PySem.W.kdl_values (knd:=bR X.prog X.w) (r:=p) (d:=a) (kvs:=ws) (ep:=ep)) (I.ok.hd hc) ⟨hv,da⟩ (by rw[<- rel.length];exact hz) λh' tk acc c kp hl items=>?_
 have ea:acc.toList=ws.map (·.2):=PySem.W.kdl_vals_eq acc.toList (by rw[Array.length_toList];exact items.1) λj v hj=>items.2 j v (by simpa using hj)
 have rv:Vals (kvs.map (·.2)) acc.toList:=by
  rw[ea];clear ea items e da dd hz q
  induction rel with
  | nil=>exact .nil
  | cons hx _ ih=>exact .cons hx.2 ih
 refine⟨.ref _,_,I.laid (t':=tk) kp (Nat.le_refl _) (show cu X.prog X.w _ h' _ (.lst (kvs.map (·.2)))from⟨by rw[aaR];exact hz,acc.toList,c,rv,by simpa using hl⟩),rfl,q _ I.fresh⟩
end
theorem RS.D8{Y:bK}{F:Hp}{ak:Sd}{σ:St}{H H':Hp}{i:Nat}{o o':O}{a:Addr}(R:RS Y F ak σ H)(e:ak[i]?=some (some (.obj o)))(h:σ[i]?=some (some (.ref a)))
  (keep:∀b,b∉o.fp a->H b≠none->H' b=H b) (live:∀b,H b≠none->H' b≠none) (DC:∀b∈o'.fp a,b∈o.fp a\/H b=none) (hn:∀b∈o'.fp a,H' b≠none)
  (hr:o'.rep F H' a):RS Y F (ak.set i (some (.obj o'))) σ H':=by
 obtain⟨a',w1,w2,w3⟩:=R.ob.obj i o e;rw[h]at w1;cases w1;have ow:∀b∈o.fp a,gm ak σ b:=λb hb=>⟨i,o,a,e,h,hb⟩;have hl:i<ak.length:=(List.getElem?_eq_some_iff.mp e).1;refine⟨by simpa using R.len,R.lo,λb q z=>?_,R.fE,λb q z n=>?_,λj d z=>?_,λj xs z=>?_,λj l xs ys b z1 z2 z3 z4=>?_,λp hp=>?_,⟨λj p z=>?_,λj l p p2 b d z1 z2 z3 z4 cU x hx sT=>?_,λj ys b z1 z2 ⟨l,p,d,z3,z4,hm⟩=>?_,λb hb=>live b (R.ob.there b hb),R.ob.Kr,R.ob.tab⟩⟩
 ·have hb:b∉o.fp a:=λy=>by rw[(w3 b y).1]at z;cases z
  have:=R.fr b q z;rw[keep b hb (by rw[this];exactλy=>nomatch y)];exact this
 ·have hb:b∉o.fp a:=λy=>by
   rcases(w3 b y).2.2 with y|y
   ·rw[y]at z;cases z
   ·exact n (List.mem_append_right _ y)
  have:=R.old b q z n;rw[keep b hb (by rw[this];exactλy=>nomatch y)];exact this
 ·rcases gs z with⟨_,y⟩|⟨_,z⟩
  ·cases y
  ·exact R.sh j d z
 ·rcases gs z with⟨_,y⟩|⟨_,z⟩
  ·cases y
  ·obtain⟨b,vs,y1,y2,y3⟩:=R.own j xs z
   have hb:b∉o.fp a:=λy=>R.ob.iY j xs b z y1 (ow b y);exact⟨b,vs,y1,by rw[keep b hb (by rw[y2];exactλy=>nomatch y)];exact y2,y3⟩
 ·rcases gs z1 with⟨_,y⟩|⟨_,z1⟩
  ·cases y
  rcases gs z2 with⟨_,y⟩|⟨_,z2⟩
  ·cases y
  exact R.dis j l xs ys b z1 z2 z3 z4
 ·obtain⟨y1,xs,y2⟩:=R.io p hp
  have:p.1≠i:=λy=>by rw[y,e]at y2;cases y2
  exact⟨y1,xs,by rw[bC this];exact y2⟩
 ·rcases gs z with⟨rfl,y⟩|⟨hj,z⟩
  ·cases y
   refine⟨a,h,hr,λb hb=>?_⟩;rcases DC b hb with y|y
   ·exact⟨(w3 b y).1,hn b hb,(w3 b y).2.2⟩
   ·exact⟨same_none R.fr y,hn b hb,.inl (R.cv y).1⟩
  ·obtain⟨b,y1,y2,y3⟩:=R.ob.obj j p z
   have kp:∀d∈p.fp b,H' d=H d:=λd hd=>keep d (λy=>R.ob.tU i j o p a b e z h y1 (Ne.symm hj) d y hd) (y3 d hd).2.1;exact⟨b,y1,p.mono (av.refl _) kp y2,λd hd=>⟨(y3 d hd).1,live d (y3 d hd).2.1,(y3 d hd).2.2⟩⟩
 ·rcases gs z1 with⟨e1,y⟩|⟨hj,y1⟩
  ·cases y
   subst e1;rw[h]at z3;cases z3;rcases gs z2 with⟨e2,_⟩|⟨pj,y2⟩
   ·exact cU e2.symm
   ·rcases DC x hx with y|y
    ·exact R.ob.tU j l o p2 a d e y2 h z4 cU x y sT
    ·exact(R.ob.owned ⟨l,p2,d,y2,z4,sT⟩).2.1 y
  ·rcases gs z2 with⟨e2,y⟩|⟨pj,y2⟩
   ·cases y
    subst e2;rw[h]at z4;cases z4;rcases DC x sT with y|y
    ·exact R.ob.tU j l p o b a y1 e z3 h cU x hx y
    ·exact(R.ob.owned ⟨j,p,b,y1,z3,hx⟩).2.1 y
   ·exact R.ob.tU j l p p2 b d y1 y2 z3 z4 cU x hx sT
 ·rcases gs z1 with⟨_,y⟩|⟨_,y1⟩
  ·cases y
  rcases gs z3 with⟨e3,y⟩|⟨_,y3⟩
  ·cases y
   subst e3;rw[h]at z4;cases z4;rcases DC b hm with y|y
   ·exact R.ob.iY j ys b y1 z2 (ow b y)
   ·obtain⟨c,vs,u1,u2,_⟩:=R.own j ys y1
    rw[z2]at u1;cases u1;rw[y]at u2;cases u2
  ·exact R.ob.iY j ys b y1 z2 ⟨l,p,d,y3,z4,hm⟩
theorem RS.HJ{Y:bK}{F F':Hp}{ak:Sd}{σ:St}{H:Hp}{i:Nat}{o:O}{a:Addr}(R:RS Y F ak σ H)(e:ak[i]?=some (some (.obj o)))(h:σ[i]?=some (some (.ref a)))(Af:Y.ob=[])(sm:av F F')
  (hF:∀b u,F' b=some u->F b=some u\/(b∈o.fp a/\H b=some u)):RS Y F' (ak.set i none) σ H:=by
 obtain⟨a',w1,w2,w3⟩:=R.ob.obj i o e;rw[h]at w1;cases w1;have ow:∀b∈o.fp a,gm ak σ b:=λb hb=>⟨i,o,a,e,h,hb⟩;have hl:i<ak.length:=(List.getElem?_eq_some_iff.mp e).1;refine⟨by simpa using R.len,R.lo.trans sm,λb q z=>?_,λb q z=>?_,R.old,λj d z=>?_,λj xs z=>?_,λj l xs ys b z1 z2 z3 z4=>?_,λp hp=>?_,⟨λj p z=>?_,λj l p p2 b d z1 z2=>?_,λj ys b z1 z2 ⟨l,p,d,z3,z4,hm⟩=>?_,R.ob.there,R.ob.Kr,R.ob.tab.mono sm⟩⟩
 ·rcases hF b q z with y|y
  ·exact R.fr b q y
  ·exact y.2
 ·rcases hF b q z with y|y
  ·exact R.fE b q y
  ·exact .inr (.inl ((w3 b y.1).2.2.elim id λx=>by rw[Af]at x;cases x))
 ·rcases gs z with⟨_,y⟩|⟨_,z⟩
  ·cases y
  ·obtain⟨v,y1,y2⟩:=R.sh j d z
   exact⟨v,y1,y2.mono sm⟩
 ·rcases gs z with⟨_,y⟩|⟨_,z⟩
  ·cases y
  ·obtain⟨b,vs,y1,y2,y3,y4,y5⟩:=R.own j xs z
   refine⟨b,vs,y1,y2,y3.mono sm,?_,y5⟩;cases q:F' b with
   | none=>rfl
   | some u =>
    rcases hF b u q with y|y
    ·rw[y4]at y;cases y
    ·exact absurd (ow b y.1) (R.ob.iY j xs b z y1)
 ·rcases gs z1 with⟨_,y⟩|⟨_,z1⟩
  ·cases y
  rcases gs z2 with⟨_,y⟩|⟨_,z2⟩
  ·cases y
  exact R.dis j l xs ys b z1 z2 z3 z4
 ·obtain⟨y1,xs,y2⟩:=R.io p hp
  have:p.1≠i:=λy=>by rw[y,e]at y2;cases y2
  exact⟨y1,xs,by rw[bC this];exact y2⟩
 ·rcases gs z with⟨_,y⟩|⟨hj,z⟩
  ·cases y
  obtain⟨b,y1,y2,y3⟩:=R.ob.obj j p z;refine⟨b,y1,p.mono sm (λ_ _=>rfl) y2,λd hd=>⟨?_,(y3 d hd).2⟩⟩;cases q:F' d with
  | none=>rfl
  | some u =>
   rcases hF d u q with y|y
   ·rw[(y3 d hd).1]at y;cases y
   ·exact absurd hd (R.ob.tU i j o p a b e z h y1 (Ne.symm hj) d y.1)
 ·rcases gs z1 with⟨_,y⟩|⟨_,z1⟩
  ·cases y
  rcases gs z2 with⟨_,y⟩|⟨_,z2⟩
  ·cases y
  exact R.ob.tU j l p p2 b d z1 z2
 ·rcases gs z1 with⟨_,y⟩|⟨_,z1⟩
  ·cases y
  rcases gs z3 with⟨_,y⟩|⟨_,z3⟩
  ·cases y
  exact R.ob.iY j ys b z1 z2 ⟨l,p,d,z3,z4,hm⟩
abbrev Gb:=List (Int×Addr×List D)
def tR(ts:Gb):List (Key×V):=ts.map λt=>(.inl t.1,.ref t.2.1)
def Ba(ts:Gb):O where
 fp:=λa=>a::ts.map (·.2.1)
 rep:=λF H a=>H a=some (.dK (tR ts))/\(a::ts.map (·.2.1)).Nodup/\(ts.map (·.1)).Nodup/\∀t∈ts,∃vs,H t.2.1=some (.lst vs)/\aD F vs t.2.2
 solid:=λ{F H a b φ} ⟨h,_,_,hs⟩ hb z=>by
  rcases List.mem_cons.mp hb with rfl|hb
  ·rw[h]at z;cases z
  ·obtain⟨t,ht,rfl⟩:=List.mem_map.mp hb
   obtain⟨vs,e,_⟩:=hs t ht;rw[e]at z;cases z
 nt:=λ{F H a b vs'} ⟨h,_,_,hs⟩ hb z=>by
  rcases List.mem_cons.mp hb with rfl|hb
  ·rw[h]at z;cases z
  ·obtain⟨t,ht,rfl⟩:=List.mem_map.mp hb
   obtain⟨vs,e,_⟩:=hs t ht;rw[e]at z;cases z
 mono:=λ{F F' H H' a} s e ⟨h,n1,n2,hs⟩=>⟨by rw[e a (List.mem_cons_self ..)];exact h,n1,n2,λt ht=>by
  obtain⟨vs,h1,h2⟩:=hs t ht;exact⟨vs,by rw[e _ (List.mem_cons_of_mem _ (List.mem_map_of_mem ht))];exact h1,h2.mono s⟩⟩
def gF(ts:Gb)(k:Int)(p:Addr)(d:D):Gb:=if(ts.any λt=>decide (t.1=k))=true then ts.map (λt=>if t.1=k then(t.1,t.2.1,t.2.2++[d])else t)else ts++[(k,p,[d])]
theorem qx(k:Int):∀ts:Gb,(c5 (tR ts) (.inl k)=none/\(ts.any λt=>decide (t.1=k))=false)\/∃t∈ts,t.1=k/\c5 (tR ts) (.inl k)=some (.ref t.2.1)/\(ts.any λt=>decide (t.1=k))=true
 | []=>.inl ⟨rfl,rfl⟩
 | t::ts=>by
  by_cases e:t.1=k
  ·refine .inr ⟨t,.head _,e,?_,?_⟩
   ·show c5 ((Sum.inl t.1,V.ref t.2.1)::tR ts) (.inl k)=_
    rw[g9 (show(Sum.inl t.1:Key)=.inl k by rw[e])]
   ·rw[List.any_cons,decide_eq_true e];rfl
  ·have hv:c5 (tR (t::ts)) (.inl k)=c5 (tR ts) (.inl k):=gZ (p:=(Sum.inl t.1,V.ref t.2.1)) λz=>e (Sum.inl.inj z)
   rw[hv,List.any_cons,decide_eq_false e,Bool.false_or];rcases qx k ts with h|⟨u,hu,h⟩
   ·exact .inl h
   ·exact .inr ⟨u,.tail _ hu,h⟩
end Vc
namespace Vc
open PySem L2
variable [KF]
variable {G:GE}{k:Nat}{S:Stat}
def RC:TX:=λσ Q=>Q (.obj (Ba [])) σ
theorem Iz{pos:Pos}:EX G k S (.Dict [] [] pos) RC:=.mk λX Y ok=>bo vv λσ H Q q=>by
 obtain⟨F,ak,Qd,R,q,K⟩:=q;intro p hp;refine K _ _ F (.obj (Ba [])) ak (av.refl _) (R.fw hp) ⟨p,rfl,⟨ay,(by simp),List.nodup_nil,λt ht=>by cases ht⟩,λb hb=>?_⟩ q
 rw[List.mem_singleton.mp hb];exact⟨same_none R.fr hp,(by rw[ay];exactλz=>nomatch z),(R.cv hp).1,R.c9 hp⟩
def tSA(i l j:Nat):cS:=λDe σ=>∃ts k d,σ[i]?=some (some (.obj (Ba ts)))/\σ[l]?=some (some (.sh (.int k)))/\σ[j]?=some (some (.sh d))/\ts.length<1000000/\(∀t∈ts,t.2.2.length<1000000)/\∀p,De.nx (σ.set i (some (.obj (Ba (gF ts k p d)))))
theorem kO{α β:Type}(f:α->β):∀ {l:List α},(l.map f).Nodup->∀ {x y:α},x∈l->y∈l->f x=f y->x=y
 | a::l,h,x,y,hx,hy,e=>by
  rw[List.map_cons,List.nodup_cons]at h;rcases List.mem_cons.mp hx with hx|hx
  ·rcases List.mem_cons.mp hy with hy|hy
   ·rw[hx,hy]
   ·exact absurd (by rw[<- hx,e];exact List.mem_map_of_mem hy) h.1
  ·rcases List.mem_cons.mp hy with hy|hy
   ·exact absurd (by rw[<- hy,<- e];exact List.mem_map_of_mem hx) h.1
   ·exact kO f h.2 hx hy e
theorem E4(i l j:Nat){x y z:Str}{np kp lp vp Y3 Sv Y4 Lj pos:Pos}(hx:S.N[i]?=some x:=by rfl)(hy:S.N[l]?=some y:=by rfl)(hz:S.N[j]?=some z:=by rfl)
  (vx:S.sc.lookup x=some .local\/S.sc.lookup x=some .cell\/S.sc.lookup x=some .free:=by first|exact Or.inl rfl|exact Or.inr (Or.inl rfl)|exact Or.inr (Or.inr rfl))
  (vy:S.sc.lookup y=some .local\/S.sc.lookup y=some .cell\/S.sc.lookup y=some .free:=by first|exact Or.inl rfl|exact Or.inr (Or.inl rfl)|exact Or.inr (Or.inr rfl))
  (vz:S.sc.lookup z=some .local\/S.sc.lookup z=some .cell\/S.sc.lookup z=some .free:=by first|exact Or.inl rfl|exact Or.inr (Or.inl rfl)|exact Or.inr (Or.inr rfl))
  (dx:(x==("__debug__":Str))=false:=by decide) (cx:(x==("__classdict__":Str))=false:=by decide) (dy:(y==("__debug__":Str))=false:=by decide) (cy:(y==("__classdict__":Str))=false:=by decide)
  (dz:(z==("__debug__":Str))=false:=by decide) (cz:(z==("__classdict__":Str))=false:=by decide)
  (hl1:(Y3.endLine==Sv.line)=true:=by rfl) (pj:(Y4.endLine==Lj.line)=true:=by rfl):
  ES G k S (.Expr (.Call (.Attribute (.Call (.Attribute (.Name x np) "setdefault" Y3) [.Name y kp,.List [] lp] [] Sv) "append" Y4) [.Name z vp] [] Lj) pos) (tSA i l j):=.mk λX Y ok=>by
 have px:PE X (.Name x np) (xV i):=fY (by rw[ok.N];exact hx) (by unfold BE;rw[ok.sc];exact vx) dx cx
 have py:PE X (.Name y kp) (xV l):=fY (by rw[ok.N];exact hy) (by unfold BE;rw[ok.sc];exact vy) dy cy
 have pz:PE X (.Name z vp) (xV j):=fY (by rw[ok.N];exact hz) (by unfold BE;rw[ok.sc];exact vz) dz cz
 have pa1:PA X [.Name y kp,.List [] lp] (iT (xV l) (iT (RG oH) oH)):=cf py (cf (kQ cV) cV rfl) rfl;have p1:=vq (apos:=Y3) (cpos:=Sv) F.plainAttrs_dict F.slot_dict_setdefault F.type_dict_setdefault HE px pa1 rfl rfl hl1 rfl rfl;have p2:=vq (apos:=Y4) (cpos:=Lj) F.plainAttrs_list F.slot_list_append F.type_list_append kN p1 (cf pz cV rfl:PA X [.Name z vp] _) rfl rfl pj rfl rfl;refine dE (rm p2 rfl) λDn σ H q=>?_;obtain⟨F,ak,De,R,⟨ts,k,d,e1,e2,e3,hl,eX,q⟩,K⟩:=q;obtain⟨a,w1,⟨w2,n1,n2,w3⟩,w4⟩:=R.ob.obj i _ e1;obtain⟨v2,y1,y2⟩:=R.sh l _ e2;cases(show Rep F v2 (.int k)from y2)
 obtain⟨v3,y3,y4⟩:=R.sh j _ e3;have ha:H a≠none:=by rw[w2];exactλz=>nomatch z
 have uL:∀t∈ts,H t.2.1≠none:=λt ht=>by obtain⟨vs,h1,_⟩:=w3 t ht;rw[h1];exactλz=>nomatch z
 have Yg:∀t∈ts,t.2.1≠a:=λt ht z=>(List.nodup_cons.mp n1).1 (z ▸ List.mem_map_of_mem ht);have nA:=(List.nodup_cons.mp n1).2;refine⟨.ref a,w1,.inr (.inr (.inl ⟨rfl,.inl ⟨_,w2⟩⟩)),.int k,y1,Nat.zero_le _,λp hp=>?_⟩;have Sy:a≠p:=λz=>ha (z ▸ hp);have Gv:∀ {b:Addr},H b≠none->b≠p:=λ{b} hb z=>hb (z ▸ hp);have kl:(tR ts).length<sizeLine:=by unfold tR;rw[aaR,sizeLine_eq];omega
 refine⟨a,.ref p,tR ts,.inl k,rfl,rfl,by rw[aq Sy];exact w2,kl,λv hv=>?_,λhv=>?_⟩
 ·rcases qx k ts with⟨h1,_⟩|⟨t0,J6,ek,h1,h2⟩
  ·rw[h1]at hv;cases hv
  rw[h1]at hv;cases hv;obtain⟨vs,g1,g2⟩:=w3 t0 J6;have hb:=Gv (uL t0 J6);refine⟨.inl ⟨rfl,vs,.inl (.inl (by rw[aq hb];exact g1))⟩,v3,y3,t0.2.1,vs,v3,rfl,rfl,by rw[aq hb];exact g1,by rw[sizeLine_eq,g2.length];have:=eX t0 J6;omega,?_⟩
  have ea:gF ts k p d=ts.map (λt=>if t.1=k then(t.1,t.2.1,t.2.2++[d])else t):=if_pos h2
  have m1:(gF ts k p d).map (·.2.1)=ts.map (·.2.1):=by
   rw[ea,List.map_map];refine List.map_congr_left λt _=>?_;show(if t.1=k then(t.1,t.2.1,t.2.2++[d])else t).2.1=t.2.1
   split<;>rfl
  have m2:(gF ts k p d).map (·.1)=ts.map (·.1):=by
   rw[ea,List.map_map];refine List.map_congr_left λt _=>?_;show(if t.1=k then(t.1,t.2.1,t.2.2++[d])else t).1=t.1
   split<;>rfl
  have m3:tR (gF ts k p d)=tR ts:=by
   unfold tR;rw[ea,List.map_map];refine List.map_congr_left λt _=>?_;show(Sum.inl (if t.1=k then(t.1,t.2.1,t.2.2++[d])else t).1,V.ref (if t.1=k then(t.1,t.2.1,t.2.2++[d])else t).2.1)=(Sum.inl t.1,V.ref t.2.1)
   split<;>rfl
  have U9:(Ba (gF ts k p d)).fp a=(Ba ts).fp a:=by show a::_=a::_;rw[m1]
  have live:∀b,H b≠none->upd (upd H p (.lst [])) t0.2.1 (.lst (vs++[v3])) b≠none:=λb hn=>by
   by_cases z:b=t0.2.1
   ·rw[z,ay];exactλy=>nomatch y
   ·rw[aq z,aq (Gv hn)];exact hn
  refine K.nx σ _ F _ (av.refl _) (R.D8 (o':=Ba (gF ts k p d)) e1 w1 (λb lu hn=>?_) live (λb lu=>.inl (by rw[<- U9];exact lu)) (λb lu=>?_) ⟨?_,by rw[m1];exact n1,by rw[m2];exact n2,λt' ht'=>?_⟩) (q p)
  ·have z1:b≠t0.2.1:=λz=>lu (List.mem_cons_of_mem _ (z ▸ List.mem_map_of_mem J6))
   rw[aq z1,aq (Gv hn)]
  ·rw[U9]at lu
   exact live b (w4 b lu).2.1
  ·rw[aq (Ne.symm (Yg t0 J6)),aq Sy,m3];exact w2
  ·rw[ea]at ht'
   obtain⟨t,ht,rfl⟩:=List.mem_map.mp ht'
   by_cases hk:t.1=k
   ·rw[if_pos hk]
    obtain rfl:t=t0:=kO (·.1) n2 ht J6 (hk.trans ek.symm)
    exact⟨_,ay,g2.append (.cons y4 .nil)⟩
   ·rw[if_neg hk]
    have cU:t.2.1≠t0.2.1:=λz=>hk (by rw[kO (·.2.1) nA ht J6 z];exact ek)
    obtain⟨us,h3,h4⟩:=w3 t ht;exact⟨us,by rw[aq cU,aq (Gv (uL t ht))];exact h3,h4⟩
 ·rcases qx k ts with⟨h1,h2⟩|⟨t0,J6,ek,h1,h2⟩
  case inr=>rw[h1]at hv;cases hv
  have SH:p≠a:=Ne.symm Sy;have ea:gF ts k p d=ts++[(k,p,[d])]:=if_neg (by rw[h2];decide)
  have g0:upd (upd H p (.lst [])) a (.dK (putK (tR ts) (.inl k) (.ref p))) p=some (.lst []):=by rw[aq SH,ay]
  refine⟨.inl ⟨rfl,[],.inl (.inl g0)⟩,v3,y3,p,[],v3,rfl,rfl,g0,by rw[sizeLine_eq];exact Nat.succ_pos _,?_⟩
  have VF:p∉ts.map (·.2.1):=λz=>by obtain⟨t,ht,e⟩:=List.mem_map.mp z;exact uL t ht (e ▸ hp)
  have hki:k∉ts.map (·.1):=λz=>by
   obtain⟨t,ht,e⟩:=List.mem_map.mp z;have:=List.any_eq_false.mp h2 t ht;exact this (decide_eq_true e)
  have live:∀b,H b≠none->upd (upd (upd H p (.lst [])) a (.dK (putK (tR ts) (.inl k) (.ref p)))) p (.lst ([]++[v3])) b≠none:=λb hn=>by
   rw[aq (Gv hn)]
   by_cases z:b=a
   ·rw[z,ay];exactλy=>nomatch y
   ·rw[aq z,aq (Gv hn)];exact hn
  have m1:(gF ts k p d).map (·.2.1)=ts.map (·.2.1)++[p]:=by rw[ea,List.map_append];rfl
  have U9:∀b,b∈(Ba (gF ts k p d)).fp a->b∈(Ba ts).fp a\/b=p:=λb hb=>by
   have hb:b∈a::(gF ts k p d).map (·.2.1):=hb
   rw[m1]at hb;rcases List.mem_cons.mp hb with rfl|hb
   ·exact .inl (List.mem_cons_self ..)
   ·rcases List.mem_append.mp hb with hb|hb
    ·exact .inl (List.mem_cons_of_mem _ hb)
    ·exact .inr (List.mem_singleton.mp hb)
  refine K.nx σ _ F _ (av.refl _) (R.D8 (o':=Ba (gF ts k p d)) e1 w1 (λb lu hn=>?_) live (λb lu=>(U9 b lu).imp id λ(z:b=p)=>by rw[z];exact hp) (λb lu=>?_) ⟨?_,?_,?_,λt ht=>?_⟩) (q p)
  ·have z1:b≠a:=λz=>lu (z ▸ List.mem_cons_self ..)
   rw[aq (Gv hn),aq z1,aq (Gv hn)]
  ·rcases U9 b lu with hb|rfl
   ·exact live b (w4 b hb).2.1
   ·rw[ay];exactλy=>nomatch y
  ·rw[aq Sy,ay,EC _ hv,ea]
   show _=some (HO.dK ((ts++[(k,p,[d])]).map _));rw[List.map_append];rfl
  ·rw[m1,<- List.cons_append,List.nodup_append]
   refine⟨n1,by simp,λx hx y hy=>?_⟩
   rw[List.mem_singleton.mp hy];intro z;rw[z]at hx;rcases List.mem_cons.mp hx with hx|hx
   ·exact SH hx
   ·exact VF hx
  ·rw[ea,List.map_append,List.nodup_append]
   refine⟨n2,by simp,λx hx y hy=>?_⟩
   have hy:y=k:=by simpa using hy
   intro z;rw[z,hy]at hx;exact hki hx
  ·rw[ea]at ht
   rcases List.mem_append.mp ht with ht|ht
   ·obtain⟨us,h3,h4⟩:=w3 t ht
    exact⟨us,by rw[aq (Gv (uL t ht)),aq (Yg t ht),aq (Gv (uL t ht))];exact h3,h4⟩
   ·rw[List.mem_singleton.mp ht]
    exact⟨_,ay,.cons y4 .nil⟩
def tVl(i:Nat):TX:=λσ Q=>∃ts,σ[i]?=some (some (.obj (Ba ts)))/\Q (.own (ts.map λt=>.lst t.2.2)) (σ.set i none)
theorem Qz(i:Nat){x:Str}{lp np ap cp pos:Pos}(hm:G.mg "list"=none)(hx:S.N[i]?=some x:=by rfl)
  (vx:S.sc.lookup x=some .local\/S.sc.lookup x=some .cell\/S.sc.lookup x=some .free:=by first|exact Or.inl rfl|exact Or.inr (Or.inl rfl)|exact Or.inr (Or.inr rfl))
  (dx:(x==("__debug__":Str))=false:=by decide) (cx:(x==("__classdict__":Str))=false:=by decide) (hl:(ap.endLine==cp.line)=true:=by rfl) (hg:S.sc.lookup ("list":Str)=some .globalImplicit:=by rfl) (hh:S.kF=false:=by rfl) (ZE:S.zP=false:=by rfl) (cY:S.ios=[]:=by rfl):
  EX G k S (.Call (.Name "list" lp) [.Call (.Attribute (.Name x np) "values" ap) [] [] cp] [] pos) (tVl i):=.mk λX Y ok=>by
 have px:PE X (.Name x np) (xV i):=fY (by rw[ok.N];exact hx) (by unfold BE;rw[ok.sc];exact vx) dx cx
 have p1:=PB (apos:=ap) (cpos:=cp) F.plainAttrs_dict F.slot_dict_values F.type_dict_values HF px rfl hl;refine bo (fL (wZ (ok.calm hh)) (d7 ok hg) (by rw[ok.mg];exact hm) (by decide +kernel) (cf p1 cV rfl) ∅ ∅ rfl rfl) λσ H Q q=>?_
 obtain⟨F,ak,Qd,R,⟨ts,e,q⟩,K⟩:=q;obtain⟨a,w1,⟨w2,n1,n2,w3⟩,w4⟩:=R.ob.obj i _ e;refine⟨.ref a,w1,.inr (.inr (.inl ⟨rfl,.inl ⟨_,w2⟩⟩)),a,_,rfl,rfl,w2,λp hp=>?_⟩;have ha:H a≠none:=by rw[w2];exactλz=>nomatch z
 have Sy:a≠p:=λz=>ha (z ▸ hp);refine⟨p,a,_,rfl,ay,by rw[aq Sy];exact w2,λl hl=>?_⟩
 have Af:=ok.obs ZE cY;have sF:av F (λb=>if b∈ts.map (·.2.1)then H b else F b):=λb u z=>by
  have:b∉ts.map (·.2.1):=λy=>by rw[(w4 b (List.mem_cons_of_mem _ y)).1]at z;cases z
  show(if b∈ts.map (·.2.1)then H b else F b)=some u
  rw[if_neg this];exact z
 have R1:=R.HJ e w1 Af sF λb u z=>by
  have z:(if b∈ts.map (·.2.1)then H b else F b)=some u:=z
  split at z
  ·rename_i hb;exact .inr ⟨List.mem_cons_of_mem _ hb,z⟩
  ·exact .inl z
 have R2:=R1.fw (o:=YH p a) hp;have R3:=R2.fw (o:=.lst ((tR ts).map (·.2))) hl
 have rl:aD (λb=>if b∈ts.map (·.2.1)then H b else F b) ((tR ts).map (·.2)) (ts.map λt=>.lst t.2.2):=by
  have key:∀us:Gb,(∀t∈us,t∈ts)->aD (λb=>if b∈ts.map (·.2.1)then H b else F b) ((tR us).map (·.2)) (us.map λt=>.lst t.2.2):=by
   intro us
   induction us with
   | nil=>intro _;exact .nil
   | cons t us ih =>
    intro hu;obtain⟨vs,h1,h2⟩:=w3 t (hu t (.head _));refine .cons (.lst (.inl ?_) (h2.mono sF)) (ih λx hx=>hu x (.tail _ hx));show(if t.2.1∈ts.map (·.2.1)then H t.2.1 else F t.2.1)=_
    rw[if_pos (List.mem_map_of_mem (hu t (.head _)))];exact h1
  exact key ts λt ht=>ht
 refine K (.ref l) _ _ (.own (ts.map λt=>.lst t.2.2)) (ak.set i none) sF R3 ⟨l,_,rfl,ay,rl,same_none R2.fr hl,(R2.cv hl).1,R2.c9 hl⟩ q
end Vc
namespace Vc
open PySem L2
variable [KF]
variable {G:GE}{k:Nat}{S:Stat}
def Fg(t:TV)(td:TD):TV:=λσ Q=>t σ λx aA=>td aA λdv bh=>match eW bh x with
 | some (.lst xs)=>xs.all isInt=true/\Q (.val ((Au xs).getD dv)) bh
 | _=>False
theorem Qx{e d:Expr}{t:TV}{td:TD}{p kp pos:Pos}(h:EO G k S e t)(hd:ED G k S d td)(hm:G.mg "max"=none)(hg:S.sc.lookup ("max":Str)=some .globalImplicit:=by rfl)
  (he:∀env,starEach [e] env=[(false,eval e env)]:=by intro _;rfl) (hh:S.kF=false:=by rfl):EO G k S (.Call (.Name "max" p) [e] [⟨some "default",d,kp⟩] pos) (Fg t td):=.mk λX Y ok=>by
 intro pins s σ H Q I q;obtain⟨F,ak,Qd,R,q,K⟩:=q;refine wpAny_Call_Name_kw (gJ (u:=.builtin "max") I (d7 ok hg) (by rw[ok.mg];exact hm) (by decide +kernel) ?_ ∅ ∅)
 have ha:PA X [e] (iT (lO Y t) oH):=cf (h X Y ok) cV (by rw[he];rfl)
 have hk:PK X [⟨some "default",d,kp⟩] (iT (lD Y td) oH):=yX (hd X Y ok) Es;have hA:=ha pos pins s σ H (λvs H1=>∃v1 F1 x aA,vs=[v1]/\av F F1/\RS Y F1 aA σ H1/\sZ F1 σ v1 x/\td aA (λdv bh=>match eW bh x with
   | some (.lst xs)=>xs.all isInt=true/\Qd (.val ((Au xs).getD dv)) bh
   | _=>False)) I ⟨F,ak,_,R,q,λv1 H1 F1 x aA s1 R1 r1 q1=>⟨v1,F1,x,aA,rfl,s1,R1,r1,q1⟩⟩
 refine PyProof.Rows.callWith_kw (env:=X.env) (cO hA λus s1 h1=>?_) (by rw[he];rfl) (by rw[he];rfl) rfl rfl
 obtain⟨vs,H1,I1,rvs,v1,F1,x,aA,rfl,XW,R1,r1,q1⟩:=h1;obtain⟨u1,rfl,ru1⟩:=vals1 rvs;refine cO (hk pos pins s1 σ H1 (λvs H2=>∃v2 F2 dv bh,vs=[v2]/\av F1 F2/\RS Y F2 bh σ H2/\Rep F2 v2 dv/\(match eW bh x with
   | some (.lst xs)=>xs.all isInt=true/\Qd (.val ((Au xs).getD dv)) bh
   | _=>False)) I1 ⟨F1,aA,_,R1,q1,λv2 H2 F2 dv bh s2 R2 r2 q2=>⟨v2,F2,dv,bh,rfl,s2,R2,r2,q2⟩⟩) λws s2 h2=>?_
 obtain⟨vs2,H2,I2,QC,v2,F2,dv,bh,rfl,Ru,R2,r2,q2⟩:=h2;obtain⟨u2,rfl,ru2⟩:=vals1 QC
 split at q2
 ·rename_i xs ex
  obtain⟨hc,q2⟩:=q2;obtain⟨a,vs,rfl,SK,rl⟩:=(R2.eW (r1.mono Ru) ex).lst;cases ru1;obtain⟨its,rv,pl,_⟩:=I2.list (show gn X.K H2 a vs from .inl SK)
  have hu:X.A.in1.units<cLine:=by
   have:=ok.units;show X.A.units+1<cLine;omega
  have JX:=GU I2 rl rv hc;have len:its.toArray.size=xs.length:=by rw[List.size_toArray,<- rv.length,rl.length]
  refine u3 (I2.ok.hd (ok.calm hh)) JX pl.isList (λhz g tk kp=>?_) λz g tk hz kp=>?_
  ·have:xs=[]:=List.length_eq_zero_iff.mp (by rw[<- len];exact hz)
   subst this;exact⟨v2,H2,I2.kept kp,ru2,K v2 H2 F2 (.val dv) bh (XW.trans Ru) R2 r2 q2⟩
  ·have Hg:its[bO (wC xs) (xs.length-1)]?=some z:=by rw[len]at hz;simpa using hz
   have cU:xs≠[]:=λe=>by
    subst e;have:its=[]:=List.length_eq_zero_iff.mp (by rw[<- rv.length,rl.length];rfl)
    rw[this]at Hg;simp at Hg
   have hl:bO (wC xs) (xs.length-1)<vs.length:=by rw[rv.length];exact(List.getElem?_eq_some_iff.mp Hg).1
   have ev:vs[bO (wC xs) (xs.length-1)]?=some vs[bO (wC xs) (xs.length-1)]:=aaQ hl;obtain⟨dd,e1,e2⟩:=rl.get' ev;obtain⟨zz,e3,e4⟩:=rv.get ev;rw[Hg]at e3;cases e3;have eb:Au xs=some dd:=by rw[HD cU,List.getD_eq_getElem?_getD,e1];rfl
   rw[eb]at q2;exact⟨_,H2,I2.kept kp,e4,K _ H2 F2 (.val dd) bh (XW.trans Ru) R2 e2 q2⟩
 ·exact q2.elim
end Vc
set_option maxHeartbeats 400000
set_option maxHeartbeats 400000
namespace Vc
open PySem L2
variable [KF]
variable {G:GE}{k:Nat}{S:Stat}
abbrev YR:=List (Addr×List D)
def llO(ts:YR):O where
 fp:=λa=>a::ts.map (·.1)
 rep:=λF H a=>H a=some (.lst (ts.map λt=>V.ref t.1))/\(a::ts.map (·.1)).Nodup/\∀t∈ts,∃vs,H t.1=some (.lst vs)/\aD F vs t.2
 solid:=λ{F H a b φ} ⟨h,_,hs⟩ hb z=>by
  rcases List.mem_cons.mp hb with rfl|hb
  ·rw[h]at z;cases z
  ·obtain⟨t,ht,rfl⟩:=List.mem_map.mp hb
   obtain⟨vs,e,_⟩:=hs t ht;rw[e]at z;cases z
 nt:=λ{F H a b vs'} ⟨h,_,hs⟩ hb z=>by
  rcases List.mem_cons.mp hb with rfl|hb
  ·rw[h]at z;cases z
  ·obtain⟨t,ht,rfl⟩:=List.mem_map.mp hb
   obtain⟨vs,e,_⟩:=hs t ht;rw[e]at z;cases z
 mono:=λ{F F' H H' a} s e ⟨h,n1,hs⟩=>⟨by rw[e a (List.mem_cons_self ..)];exact h,n1,λt ht=>by
  obtain⟨vs,h1,h2⟩:=hs t ht;exact⟨vs,by rw[e _ (List.mem_cons_of_mem _ (List.mem_map_of_mem ht))];exact h1,h2.mono s⟩⟩
 deep:=some (.lst (ts.map λt=>.lst t.2))
 J8:=λ{F H a d} s hr e=>by
  cases e;obtain⟨w2,n1,w3⟩:=hr;obtain⟨F',eF⟩:∃F':Hp,F'=λb=>if b∈a::ts.map (·.1)then H b else F b:=⟨_,rfl⟩
  have sF:av F F':=λb u z=>by
   rw[eF];show(if b∈a::ts.map (·.1)then H b else F b)=some u
   split
   ·exact s b u z
   ·exact z
  have inF:∀b∈a::ts.map (·.1),F' b=H b:=λb hb=>by
   rw[eF];show(if b∈a::ts.map (·.1)then H b else F b)=H b
   rw[if_pos hb]
  have sH:av F' H:=λb u z=>by
   rw[eF]at z;have z:(if b∈a::ts.map (·.1)then H b else F b)=some u:=z
   split at z
   ·exact z
   ·exact s b u z
  have key:∀us:YR,(∀t∈us,t∈ts)->aD F' (us.map λt=>V.ref t.1) (us.map λt=>D.lst t.2):=by
   intro us
   induction us with
   | nil=>intro _;exact .nil
   | cons t us ih =>
    intro hu;obtain⟨vs,h1,h2⟩:=w3 t (hu t (.head _));have hb:t.1∈a::ts.map (·.1):=List.mem_cons_of_mem _ (List.mem_map_of_mem (hu t (.head _)))
    exact .cons (.lst (.inl ((inF _ hb).trans h1)) (h2.mono sF)) (ih λx hx=>hu x (.tail _ hx))
  exact⟨F',sF,sH,.lst (.inl ((inF a (List.mem_cons_self ..)).trans w2)) (key ts λ_ h=>h)⟩
end Vc
namespace HT
open PySem PyProof.Rows
section
open PySem.SeqAt
open PySem.AutoSeq1 (wpAny_loadPart')
open PySem.MeetsSeq PySem.MeetsSeq2 PySem.MeetsSeq3
theorem tT{xs:Array Value}{ns:List Int}(h:IntsAre xs.toList ns){i:Nat}(hi:i<xs.size):∃t,xs[i]=.int (ns.getD i 0) t/\ns.drop i=ns.getD i 0::ns.drop (i+1):=by
 have hl:xs.size=ns.length:=by rw[<- h.length];simp
 obtain⟨t,e⟩:=PyProof.Rows.IntsAre.int_at h i xs[i] (by simp [hi])
 refine⟨t,e,?_⟩;rw[List.drop_eq_getElem_cons ⋯,List.getD_eq_getElem?_getD,aaQ ⋯];rfl
theorem HC(l b:Addr)(xs ys:Array Value)(n n2:Nat)(dd z0:Option Addr)(sl E8:Array (Option Value))(ns ms:List Int)(hx:IntsAre xs.toList ns)(hy:IntsAre ys.toList ms)(k:Nat):
  ∀i:Nat,xs.size-i=k->i<=xs.size->i<=ys.size->Meets (Builtin.«list.__eq__.loop» ⟨[.ref l,.ref b,rawInt i,rawInt 0],[]⟩)
   (λA R s=>s.heap.get? l=some {cls:=.type "list",dict:=dd,data:=.seq xs n,slots:=sl}/\s.heap.get? b=some {cls:=.type "list",dict:=z0,data:=.seq ys n2,slots:=E8}/\R (.ok (.ret (.bool (lexLt (ns.drop i) (ms.drop i))))) s):=by
 have z1:xs.size=ns.length:=by rw[<- hx.length];simp
 have z2:ys.size=ms.length:=by rw[<- hy.length];simp
 have fin:∀i:Nat,i<=xs.size->i<=ys.size->(xs.size<=i\/ys.size<=i)->lexLt (ns.drop i) (ms.drop i)=decide (xs.size<ys.size):=λi h1 h2 h=>by
  by_cases e1:xs.size<=i
  ·rw[List.drop_of_length_le ⋯]
   by_cases e2:ys.size<=i
   ·rw[List.drop_of_length_le ⋯,iO,decide_eq_false ⋯]
   ·rw[List.drop_eq_getElem_cons ⋯,eQ,decide_eq_true ⋯]
  ·rw[List.drop_eq_getElem_cons (l:=ns) ⋯,List.drop_of_length_le (l:=ms) ⋯,eP,decide_eq_false ⋯]
 induction k with
 | zero =>
  intro i hk h1 h2 prog w A R s h;obtain⟨hp,g,d,tk,os⟩:=s;obtain⟨hl,hb,h⟩:=h
  wp_walk using wpAny_loadPart' hl,wpAny_loadPart' hb
  have e1:xs[((i:Nat):Int).toNat]?=none:=by simp;omega
  rw[e1]
  wp_walk using wpAny_loadPart' hl,wpAny_loadPart' hb
  show R (.ok (.ret (.bool (decide (xs.size<ys.size))))) _;rw[fin i h1 h2 (.inl ⋯)]at h
  exact h
 | succ k ih =>
  intro i hk h1 h2 prog w A R s h;obtain⟨hp,g,d,tk,os⟩:=s;obtain⟨hl,hb,h⟩:=h
  wp_walk using wpAny_loadPart' hl,wpAny_loadPart' hb
  have eX:i<xs.size:=by omega
  have e1:xs[((i:Nat):Int).toNat]?=some xs[i]:=by simp [eX]
  by_cases VA:i<ys.size
  ·have e2:ys[((i:Nat):Int).toNat]?=some ys[i]:=by simp [VA]
   have hc:((i:Int)+1)=((i+1:Nat):Int):=by push_cast;rfl
   obtain⟨t,v1,d1⟩:=tT hx eX;obtain⟨u,v2,d2⟩:=tT hy VA;rw[d1,d2,cj]at h;rw[e1,e2];obtain⟨e,he,DF⟩:=tX A.in1 ⟨hp,g,d,tk,os⟩ (ns.getD i 0) t (ms.getD i 0) u;rw[<- v1,<- v2]at he;refine aaO (he prog w _ _ ?_);cases e with
   | true =>
    rw[if_pos (DF.mp rfl)]at h
    wp_walk
    rw[hc];exact⟨plainId_quiet plain_eq_loop _,codeAny_builtin entry_eq_loop (by
     rw[Around.under_plainId plain_eq_loop _];exact ih (i+1) ⋯ ⋯ ⋯ prog w A R _ ⟨hl,hb,h⟩)⟩
   | false =>
    rw[if_neg (λq=>absurd (DF.mpr q) Bool.false_ne_true)]at h;have Yo:=vH A.in1 ⟨hp,g,d,tk,os⟩ (ns.getD i 0) t (ms.getD i 0) u prog w;rw[<- v1,<- v2]at Yo
    wp_walk using wpAny_loadPart' hl,wpAny_loadPart' hb
    rw[e1,e2]
    wp_walk using Yo
    exact h
  ·have e2:ys[((i:Nat):Int).toNat]?=none:=by simp;omega
   rw[e1,e2]
   wp_walk using wpAny_loadPart' hl,wpAny_loadPart' hb
   show R (.ok (.ret (.bool (decide (xs.size<ys.size))))) _;rw[fin i h1 h2 (.inr ⋯)]at h
   exact h
theorem qS(l b:Addr)(xs ys:Array Value)(n n2:Nat)(dd z0:Option Addr)(sl E8:Array (Option Value))(ns ms:List Int)(hx:IntsAre xs.toList ns)(hy:IntsAre ys.toList ms):
  Meets (Builtin.«list.__lt__» ⟨[.ref l,.ref b],[]⟩)
   (λA R s=>s.heap.get? l=some {cls:=.type "list",dict:=dd,data:=.seq xs n,slots:=sl}/\s.heap.get? b=some {cls:=.type "list",dict:=z0,data:=.seq ys n2,slots:=E8}/\R (.ok (.ret (.bool (lexLt ns ms)))) s):=by
 intro prog w A R s h;obtain⟨hp,g,d,tk,os⟩:=s;obtain⟨hl,hb,h⟩:=h;have f3:=AutoSeq1.sub_list_list
 wp_walk using wpAny_loadPart' hl,wpAny_loadPart' hb
 exact⟨plainId_quiet plain_eq_loop _,codeAny_builtin entry_eq_loop (by
  rw[Around.under_plainId plain_eq_loop _];exact HC l b xs ys n n2 dd z0 sl E8 ns ms hx hy _ 0 rfl (Nat.zero_le _) (Nat.zero_le _) prog w A R _ ⟨hl,hb,by simpa using h⟩)⟩
end
end HT
namespace Vc
open PySem L2
variable [KF]
variable {G:GE}{k:Nat}{S:Stat}
theorem aD.eraseIdx{F:Hp}{vs:List V}{xs:List D}(r:aD F vs xs)(n:Nat):aD F (vs.eraseIdx n) (xs.eraseIdx n):=by
 rw[List.eraseIdx_eq_take_drop_succ,List.eraseIdx_eq_take_drop_succ];exact(r.take _).append (r.drop _)
def Qn(i:Nat)(d:D)(σ:Sd)(Q:D->Sd->Prop):Prop:=match σ[i]?,d with
 | some (some (.own xs)),.int j=>0<=j/\j<xs.length/\j<2^62/\∀e,xs[j.toNat]?=some e->Q e (σ.set i (some (.own (xs.eraseIdx j.toNat))))
 | _,_=>False
def RK(to:TV)(te:TD):TX:=λσ Q=>to σ λx aA=>match x with
 | .var i=>uO aA i/\te aA λd bh=>Qn i d bh λe gk=>Q (.val e) gk
 | _=>False
theorem IB{o e:Expr}{to:TV}{te:TD}{apos cpos:Pos}(ho:EO G k S o to)(he:ED G k S e te)(hb:∀env,attributeBase o "pop" env (eval o env)=eval o env:=by intro _;rfl)
  (DB:∀env,((backTo cpos (starEach [e] env)).all (λx=>!x.1)&&(backToKw cpos (keywordEach [] env)).all (λx=>x.1.isSome)&&decide (([e]:List Expr).length+([]:List Keyword).length+(if([]:List Keyword).isEmpty then 0 else 1)<30))=true:=by intro _;rfl)
  (hline:(apos.endLine==cpos.line)=true:=by rfl) (hs:∀env,starEach [e] env=[(false,eval e env)]:=by intro _;rfl):EX G k S (.Call (.Attribute o "pop" apos) [e] [] cpos) (RK to te):=.mk λX Y ok=>by
 have ha:PA X [e] (iT (lD Y te) oH):=cf (he X Y ok) cV (by rw[hs];rfl)
 refine bo (vq F.plainAttrs_list F.slot_list_pop F.type_list_pop DY (ho X Y ok) ha (hb _) (DB _) hline (by rw[hs];rfl) (by rfl)) λσ H Q q=>?_
 obtain⟨F,ak,Qd,R,q,K⟩:=q;refine⟨F,ak,_,R,q,λv1 H1 F1 x aA s1 R1 r1 q1=>?_⟩;cases x with
 | val d=>exact q1.elim
 | any=>exact q1.elim
 | var i =>
  obtain⟨⟨ys,e0⟩,q1⟩:=q1;have r1:σ[i]?=some (some v1):=r1;obtain⟨a,vs,w1,w2,w3,w4,w5⟩:=R1.own i ys e0;rw[r1]at w1;cases w1;refine⟨.inl ⟨rfl,vs,.of w2⟩,F1,aA,_,R1,q1,λv2 H2 F2 d bh s2 R2 r2 q2=>?_⟩;unfold Qn at q2
  split at q2
  ·rename_i xs j e2
   obtain⟨b,us,z1,z2,z3,z4,z5⟩:=R2.own i xs e2;rw[r1]at z1;cases z1;obtain⟨h0,h1,h3,q2⟩:=q2;cases(show Rep F2 v2 (.int j)from r2)
   have eX:j.toNat<xs.length:=by omega
   obtain⟨y,hy,ry⟩:∃y,us[j.toNat]?=some y/\Rep F2 y xs[j.toNat]:=z3.get (aaQ eX);have hul:us.length=xs.length:=z3.length;refine⟨a,us,j,j.toNat,y,rfl,rfl,z2,?_,?_,?_,hy,K y _ F2 (.val xs[j.toNat]) _ (s1.trans s2) (R2.write e2 r1 (z3.eraseIdx j.toNat)) ry (q2 _ (aaQ eX))⟩
   ·omega
   ·omega
   ·refine(qP ?_).1
    unfold yN;rw[if_pos h0,if_pos ⋯]
  ·exact q2.elim
end Vc
namespace Vc
open PySem L2
variable [KF]
variable {G:GE}{k:Nat}{S:Stat}
def iV(S:Stat)(scope:Scope)(N':List Str)(m n:Nat):Stat:=⟨N',gN scope.names S.sc,[m,n],true,false,false,λ_ _=>False⟩
theorem gG{X X':Cx}{Y:bK}{scope:Scope}{N':List Str}{caps:List (Option Nat)}{m n:Nat}(hh:S.kF=false)(ok:en X G k S Y)(b:iG S scope N' caps)(c:jk X X' scope N')(Y':bK)(cY:∀p∈Y'.io,p.1=m\/p.1=n):en X' G k (iV S scope N' m n) Y':=
 have z:=eL hh ok b c ⟨Y'.H0,Y'.F0,[],[]⟩ rfl
 ⟨z.P,z.w,z.K,z.kf,z.mg,z.base,z.N,z.sc,z.nd,λp hp=>by
  rcases cY p hp with h|h
  ·rw[h];exact List.mem_cons_self ..
  ·rw[h];exact List.mem_cons_of_mem _ (List.mem_cons_self ..),(λh=>nomatch h),z.calm,z.kind,(λh=>by cases h),z.hd,z.dp,z.un,z.po,(λh=>nomatch h),(λ_ _ h=>h.elim),λh=>nomatch h⟩
def fU(g:lM)(tc:TB)(te:TD)(sQ:Sd)(m n:Nat):List D->List D->List D->List D->(List D->List D->List D->Prop)->Prop
 | [],acc,xs,zs,Q=>Q acc xs zs
 | x::r,acc,xs,zs,Q=>g x ((sQ.set m (some (.own xs))).set n (some (.own zs))) λaA=>tc aA λb bh=>if b=true then te bh λd gk=>kJ sQ gk/\acc.length<sizeLine/\ownAt m gk λys=>ownAt n gk λws=>fU g tc te sQ m n r (acc++[d]) ys ws Q
  else kJ sQ bh/\ownAt m bh λys=>ownAt n bh λws=>fU g tc te sQ m n r acc ys ws Q
def gT(ios:List Nat)(caps:List (Option Nat))(j m j2 n:Nat)(ti:fc)(g:lM)(tc:TB)(te:TD):TX:=λσ Q=>ti σ λitems aA=>uG ios ((caps.set m none).set n none) aA λbh=>ownAt j bh λxs=>ownAt j2 bh λzs=>fU g tc te (du ((caps.set m none).set n none) bh) m n items [] xs zs λds ys ws=>Q (.own ds) ((bh.set j (some (.own ys))).set j2 (some (.own ws)))
theorem BQ{Y:bK}{F:Hp}{ak:Sd}{σ:St}{H:Hp}(R:RS Y F ak σ H)(caps dw:List (Option Nat))(hl:dw.length=caps.length)(hc:∀i:Nat,dw[i]?=some none\/dw[i]?=caps[i]?){F' H':Hp}(s1:av F F')(s2:av F' H'):RS ⟨H',F',[],[]⟩ F' (du dw ak) (fe caps σ) H':=by
 have R0:=qo R dw s1 s2;refine⟨by unfold du fe;rw[aaR,aaR,hl],R0.lo,R0.fr,R0.fE,R0.old,λi d e=>?_,λi xs e=>absurd e (cC _ _ _ _),λi j xs ys a e=>absurd e (cC _ _ _ _),λp hp=>(by cases hp),.none (cB _ _) R0.ob.tab λb hb=>by cases hb⟩
 obtain⟨v,h1,h2⟩:=R0.sh i d e;refine⟨v,?_,h2⟩;rcases hc i with h|h
 ·unfold du at e
  rw[List.getElem?_map,h]at e;cases e
 ·unfold fe at h1 ⊢
  rw[List.getElem?_map]at h1 ⊢;rw[<- h];exact h1
theorem RS.qO{Y:bK}{F:Hp}{sQ ak:Sd}{σ:St}{H:Hp}{m n:Nat}{a a2:Addr}{us us2:List V}{xs X8:List D}(R:RS Y F ak σ H)(l:kJ sQ ak)(vm:∀(i:Nat) (xs:List D),sQ[i]?≠some (some (.own xs)))(D6:∀(i:Nat) (o:O),sQ[i]?≠some (some (.obj o)))(hm:m<sQ.length)(hn:n<sQ.length)(Gu:m≠n)(haa:a≠a2)
  (h:σ[m]?=some (some (.ref a))) (h2:σ[n]?=some (some (.ref a2))) (r:aD F us xs) (r2:aD F us2 X8) (fa:F a=none) (fa2:F a2=none) {H':Hp} (s:av F H') (ha:H' a=some (.lst us)) (Sx:H' a2=some (.lst us2)):
  RS ⟨H',F,[(m,a),(n,a2)],[]⟩ F ((sQ.set m (some (.own xs))).set n (some (.own X8))) σ H' where
 len:=by rw[List.length_set,List.length_set];exact(mq l).trans R.len
 lo:=av.refl _
 fr:=s
 fE:=λb o e=>.inl e
 old:=λb o e _=>e
 sh:=λi d e=>by
  rcases gs e with⟨_,z⟩|⟨_,e⟩
  ·cases z
  rcases gs e with⟨_,z⟩|⟨_,e⟩
  ·cases z
  ·exact R.sh i d (mn l e)
 own:=λi zs e=>by
  rcases gs e with⟨rfl,z⟩|⟨_,e⟩
  ·cases z
   exact⟨a2,us2,h2,Sx,r2,fa2,.inr (by simp [bK.Ng])⟩
  rcases gs e with⟨rfl,z⟩|⟨_,e⟩
  ·cases z
   exact⟨a,us,h,ha,r,fa,.inr (by simp [bK.Ng])⟩
  ·exact absurd e (vm i zs)
 dis:=λi j zs ys b e1 e2 e3 e4=>by
  have z:∀ {i:Nat} {zs:List D},((sQ.set m (some (B.own xs))).set n (some (B.own X8)))[i]?=some (some (.own zs))->i=m\/i=n:=λ{i zs} e=>by
   rcases gs e with⟨rfl,_⟩|⟨_,e⟩
   ·exact .inr rfl
   rcases gs e with⟨rfl,_⟩|⟨_,e⟩
   ·exact .inl rfl
   ·exact absurd e (vm i zs)
  rcases z e1 with rfl|rfl<;>rcases z e2 with rfl|rfl
  ·rfl
  ·rw[h]at e3;rw[h2]at e4;cases e3;cases e4;exact absurd rfl haa
  ·rw[h2]at e3;rw[h]at e4;cases e3;cases e4;exact absurd rfl haa
  ·rfl
 io:=λp hp=>by
  rcases List.mem_cons.mp hp with rfl|hp
  ·exact⟨h,xs,by rw[bC Gu,jr hm]⟩
  ·rw[List.mem_singleton.mp hp]
   exact⟨h2,X8,by rw[jr (by rw[List.length_set];exact hn)]⟩
 ob:=.none (λi o e=>by
  rcases gs e with⟨_,z⟩|⟨_,e⟩
  ·cases z
  rcases gs e with⟨_,z⟩|⟨_,e⟩
  ·cases z
  ·exact D6 i o e) R.ob.tab λb hb=>by cases hb
def N0(m n:Nat)(g:lM):TG:=λv σ H Q=>∃Y:bK,(∀p∈Y.io,p.1=m\/p.1=n)/\lG Y g v σ H Q
def NY(m n:Nat)(t:TB):TT:=λσ H Q=>∃Y:bK,(∀p∈Y.io,p.1=m\/p.1=n)/\lB Y t σ H Q
def NZ(m n:Nat)(t:TD):TE:=λσ H Q=>∃Y:bK,(∀p∈Y.io,p.1=m\/p.1=n)/\lD Y t σ H Q
section
variable {elt target iter:Expr}{ifs:List Expr}{scope:Scope}{pos:Pos}{N':List Str}{caps:List (Option Nat)}{ti:fc}{g:lM}{tc:TB}{te:TD}{j m j2 n:Nat}
theorem mJ{X:Cx}{Y:bK}(hh:S.kF=false)(ok:en X G k S Y)(b:iG S scope N' caps)(hg:EG G k (iV S scope N' m n) target g)(ht:GD G k (iV S scope N' m n) ifs tc)(he:ED G k (iV S scope N' m n) elt te):
  ∀X',jk X X' scope N'->PG X' target (N0 m n g)/\Gg X' ifs (NY m n tc)/\PE X' elt (NZ m n te):=λX' c =>
 ⟨λpins s σ H v u Q I r ⟨Y',cY,q⟩=>hg X' Y' (gG hh ok b c Y' cY) pins s σ H v u Q I r q,λpins s σ H Q I ⟨Y',cY,q⟩=>ht X' Y' (gG hh ok b c Y' cY) pins s σ H Q I q,λpins s σ H Q I ⟨Y',cY,q⟩=>he X' Y' (gG hh ok b c Y' cY) pins s σ H Q I q⟩
theorem xq:∀ {a b:Sd},a.length=b.length->(∀(i:Nat) (x:B),a[i]?=some (some x)->b[i]?=some (some x))->kJ a b
 | [],[],_,_=>trivial
 | [],_::_,h,_=>by cases h
 | _::_,[],h,_=>by cases h
 | none::a,c::b,h,g=>by
  show kJ a b;exact xq (by simpa using h) λi x e=>by have:=g (i+1) x (by simpa using e);simpa using this
 | some x::a,c::b,h,g=>by
  show c=some x/\kJ a b;refine⟨?_,xq (by simpa using h) λi x e=>by have:=g (i+1) x (by simpa using e);simpa using this⟩
  have:=g 0 x rfl;simpa using this
theorem DW{l:Sd}{m n:Nat}(h1:l[m]?=some none)(h2:l[n]?=some none)(b c:Option B):kJ l ((l.set m b).set n c):=xq (by simp) λi x e=>by
 have hm:i≠m:=λz=>by rw[z,h1]at e;cases e
 have hn:i≠n:=λz=>by rw[z,h2]at e;cases e
 rw[bC hn,bC hm];exact e
theorem oC{Y:bK}{ios:List Nat}(cY:∀p∈Y.io,p.1∈ios)(Ad:caps[m]?=some (some j))(yC:caps[n]?=some (some j2))(Gu:m≠n)(SF:j≠j2){σ:St}{H:Hp}{Q:VK}(q:lX Y (gT ios caps j m j2 n ti g tc te) σ H Q):lb (lI Y ti) caps (N0 m n g) (NY m n tc) (NZ m n te) σ H Q:=by
 obtain⟨F,ak,Qd,R,q,K⟩:=q;refine⟨F,ak,_,R,q,λH1 F1 ye J items s1 R1 it q1 acc ju=>?_⟩;obtain⟨F2,b6,s2,R2,q2⟩:=eN cY R1 q1;unfold ownAt at q2
 split at q2
 rotate_left
 ·exact q2.elim
 rename_i Jj e0
 split at q2
 rotate_left
 ·exact q2.elim
 rename_i Gz g0;have it2:=it.mono s2;have a0:Y.H0 acc=none:=(R2.cv ju).1;have aF:F2 acc=none:=same_none R2.fr ju;obtain⟨a,S6,ZA,Sx,ha3,ha4,ha5⟩:=R2.own j Jj e0;obtain⟨c,vs0,SA,Dz,hc3,hc4,hc5⟩:=R2.own j2 Gz g0;have Vj:a≠c:=λz=>SF (R2.dis j j2 Jj Gz a e0 g0 ZA (z ▸ SA));have Sr:a≠acc:=λz=>by rw[z,ju]at Sx;cases Sx
 have yn:c≠acc:=λz=>by rw[z,ju]at Dz;cases Dz
 have hj:j<b6.length:=(List.getElem?_eq_some_iff.mp e0).1;have Vt:j2<b6.length:=(List.getElem?_eq_some_iff.mp g0).1;have Rv:∀xs zs:List D,((b6.set j (some (B.own xs))).set j2 (some (B.own zs)))[j]?=some (some (.own xs)):=λxs zs=>by rw[bC SF,jr hj]
 have wF:∀xs zs:List D,((b6.set j (some (B.own xs))).set j2 (some (B.own zs)))[j2]?=some (some (.own zs)):=λxs zs=>by rw[jr (by rw[List.length_set];exact Vt)]
 have aN:∀(xs zs:List D),dQ ((b6.set j (some (.own xs))).set j2 (some (.own zs))) σ acc:=λxs zs=>((R2.c9 ju).zb (ys:=xs) e0).zb (xs:=Gz) (by rw[bC (Ne.symm SF)];exact g0)
 have sw:∀ {F5 H5:Hp} {o:HO},av F5 H5->F5 acc=none->av F5 (upd H5 acc o):=λ{F5 H5 o} s5 h b u e=>by
  have:b≠acc:=λz=>by rw[z,h]at e;cases e
  rw[aq this];exact s5 b u e
 generalize Gq:(caps.set m none).set n none=dw at q2;have ZT:m<caps.length:=(List.getElem?_eq_some_iff.mp Ad).1;have hnl:n<caps.length:=(List.getElem?_eq_some_iff.mp yC).1;have hlen:dw.length=caps.length:=by rw[<- Gq,List.length_set,List.length_set]
 have Vn:dw[m]?=some none:=by rw[<- Gq,List.getElem?_set_ne (Ne.symm Gu),List.getElem?_set_self ZT]
 have Vo:dw[n]?=some none:=by rw[<- Gq,List.getElem?_set_self (by rw[List.length_set];exact hnl)]
 have Yh:∀i:Nat,dw[i]?=some none\/dw[i]?=caps[i]?:=λi=>by
  by_cases hi:i=m
  ·rw[hi];exact .inl Vn
  by_cases xl:i=n
  ·rw[xl];exact .inl Vo
  rw[<- Gq,List.getElem?_set_ne (Ne.symm xl),List.getElem?_set_ne (Ne.symm hi)];exact .inr rfl
 have hm:m<(du dw b6).length:=by
  unfold du;rw[aaR,hlen];exact ZT
 have hn:n<(du dw b6).length:=by
  unfold du;rw[aaR,hlen];exact hnl
 have hm0:(du dw b6)[m]?=some none:=by unfold du;rw[List.getElem?_map,Vn];rfl
 have hn0:(du dw b6)[n]?=some none:=by unfold du;rw[List.getElem?_map,Vo];rfl
 have hcm:(fe caps σ)[m]?=some (some (.ref a)):=by
  unfold fe;rw[List.getElem?_map,Ad];show some ((σ[j]?).join)=_;rw[ZA];rfl
 have hcn:(fe caps σ)[n]?=some (some (.ref c)):=by
  unfold fe;rw[List.getElem?_map,yC];show some ((σ[j2]?).join)=_;rw[SA];rfl
 have e00:(b6.set j (some (.own Jj))).set j2 (some (.own Gz))=b6:=by
  apply List.ext_getElem?;intro i
  by_cases xl:i=j2
  ·subst xl;rw[wF,g0]
  by_cases hi:i=j
  ·subst hi;rw[Rv,e0]
  ·rw[bC xl,bC hi]
 refine⟨λi mm aA H'=>∃Fi ds ys xs us zs vs,av F2 Fi/\RS Y Fi ((b6.set j (some (.own xs))).set j2 (some (.own zs))) σ H'/\H' acc=some (.lst ys)/\aD Fi ys ds/\Fi acc=none/\(H' a=some (.lst us)/\aD Fi us xs/\Fi a=none/\aA[m]?=some (some (.ref a)))/\(H' c=some (.lst vs)/\aD Fi vs zs/\Fi c=none/\aA[n]?=some (some (.ref c)))/\RS ⟨H',Fi,[(m,a),(n,c)],[]⟩ Fi (((du dw b6).set m (some (.own xs))).set n (some (.own zs))) aA H'/\fU g tc te (du dw b6) m n (items.drop i) ds xs zs (λds ys ws=>Qd (.own ds) ((b6.set j (some (.own ys))).set j2 (some (.own ws))))/\mm=items.length-i/\i<=items.length,
  ⟨items.length,F2,[],[],Jj,S6,Gz,vs0,av.refl _,by rw[e00];exact R2.other aF a0 (e00 ▸ aN Jj Gz),ay,.nil,aF,⟨by rw[aq Sr];exact Sx,ha3,ha4,hcm⟩,⟨by rw[aq yn];exact Dz,hc3,hc4,hcn⟩,?_,q2,rfl,Nat.zero_le _⟩,?_⟩
 ·exact(BQ R2 caps dw hlen Yh (av.refl _) (sw (o:=.lst []) R2.fr aF)).qO (gK _) (cC _ _) (cB _ _) hm hn Gu Vj hcm hcn ha3 hc3 ha4 hc4 (sw R2.fr aF) (by rw[aq Sr];exact Sx) (by rw[aq yn];exact Dz)
 rintro i mm aA Hi ⟨Fi,ds,ys,xs,us,zs,vs,si,Ri,fG,ri,fi,⟨hai,rui,fai,hmi⟩,⟨ZG,rvi,fci,hni⟩,Tw,qi,rfl,hi⟩;have uP:=it2 Fi Hi si Ri.fr i
 by_cases hl:i<items.length
 ·right
  have hd:items.drop i=items[i]::items.drop (i+1):=by rw[List.drop_eq_getElem_cons hl]
  rw[hd]at qi;obtain⟨go,yl⟩:=uP.1 items[i] (by rw[aaQ hl])
  refine⟨go,λv H' y=>?_⟩;obtain⟨F3,gr,rep⟩:=yl v H' y;have sF:av Fi F3:=gr.same Ri.fr;have R3:=gr.rs Tw;have sH:av Hi H':=by
   rcases gr with⟨_,rfl⟩|⟨p,o,hp,_,rfl⟩
   ·exact av.refl _
   ·exact aK hp
  have G3:∀c o,F3 c=some o->Fi c=some o\/Nw Hi c o:=λc o e=>by
   rcases gr with⟨rfl,_⟩|⟨p,o',hp,rfl,_⟩
   ·exact .inl e
   ·by_cases hc:c=p
    ·subst hc;exact .inr (.inl hp)
    ·rw[aq hc]at e;exact .inl e
  have fx3:∀ {b:Addr} {ws:List V},Hi b=some (.lst ws)->Fi b=none->F3 b=none:=λ{b ws} hb fb=>by
   cases e:F3 b with
   | none=>rfl
   | some o =>
    rcases G3 b o e with z|z
    ·rw[fb]at z;cases z
    ·rcases z with z|⟨ws,rfl⟩
     ·rw[hb]at z;cases z
     ·have y:=R3.fr b _ e;rw[sH b _ hb]at y;cases y
  have fa3:F3 a=none:=fx3 hai fai;have fc3:F3 c=none:=fx3 ZG fci;have Tv:RS ⟨H',F3,[(m,a),(n,c)],[]⟩ F3 (((du dw b6).set m (some (.own xs))).set n (some (.own zs))) aA H':=R3.qO (DW hm0 hn0 _ _) (cC _ _) (cB _ _) hm hn Gu Vj hmi hni (rui.mono sF) (rvi.mono sF) fa3 fc3 R3.fr (sH _ _ hai) (sH _ _ ZG)
  -- behind the turn
  have back:∀ {F5 H5:Hp} {l0:Sd} {Si:St} {zH F9:List D},av F3 F5->RS ⟨H',F3,[(m,a),(n,c)],[]⟩ F5 l0 Si H5->l0[m]?=some (some (.own zH))->l0[n]?=some (some (.own F9))->RS Y F5 ((b6.set j (some (.own zH))).set j2 (some (.own F9))) σ H5/\H5 acc=some (.lst ys)/\F5 acc=none/\av Fi F5/\(∃ws,H5 a=some (.lst ws)/\aD F5 ws zH/\F5 a=none/\Si[m]?=some (some (.ref a)))/\∃ws,H5 c=some (.lst ws)/\aD F5 ws F9/\F5 c=none/\Si[n]?=some (some (.ref c)):=λ{F5 H5 l0 Si zH F9} s5 R5 ex ez=>by
   have i5:=(R5.io (m,a) (by simp)).1
   have k5:=(R5.io (n,c) (by simp)).1
   obtain⟨_,ws,w1,w2,w3,w4,_⟩:=R5.own m zH ex;rw[i5]at w1;cases w1;obtain⟨_,ts,t1,t2,t3,t4,_⟩:=R5.own n F9 ez;rw[k5]at t1;cases t1;have AU:∀b o,b≠a->b≠c->Hi b=some o->H5 b=some o:=λb o hb Sz e=>R5.old b o (sH b o e) (by simp [bK.Be];exact⟨hb,Sz⟩)
   have Gn:∀b o,F5 b=some o->Fi b=some o\/Nw Hi b o:=λb o e=>by
    rcases R5.fE b o e with z|z
    ·exact G3 b o z
    ·exact .inr (z.imp sH.free id)
   have sm:av F5 (upd H5 c (.lst vs)):=λb o e=>by
    have:b≠c:=λz=>by rw[z,t4]at e;cases e
    rw[aq this];exact R5.fr b o e
   have Ro:=Ri.BL (i:=j) (xs:=xs) (ys:=zH) (H':=upd H5 c (.lst vs)) (Rv xs zs) ZA (sF.trans s5) sm (λb o hb e=>by
    by_cases Sz:b=c
    ·rw[Sz,ay,<- ZG,<- Sz];exact e
    ·rw[aq Sz];exact AU b o hb Sz e) (by rw[aq Vj];exact w2) w3 w4 Gn
   have es:((b6.set j (some (B.own xs))).set j2 (some (B.own zs))).set j (some (.own zH))=(b6.set j (some (B.own zH))).set j2 (some (B.own zs)):=by
    rw[List.set_comm _ _ (Ne.symm SF),j7]
   rw[es]at Ro;have YV:=Ro.write (i:=j2) (xs:=zs) (ys:=F9) (us:=ts) (wF zH zs) SA t3;rw[j7]at YV;have eH:upd (upd H5 c (.lst vs)) c (.lst ts)=H5:=by
    funext b
    by_cases hb:b=c
    ·rw[hb,ay,t2]
    ·rw[aq hb,aq hb]
   rw[eH]at YV;refine⟨YV,AU acc _ (Ne.symm Sr) (Ne.symm yn) fG,?_,sF.trans s5,⟨ws,w2,w3,w4,i5⟩,ts,t2,t3,t4,k5⟩;cases e:F5 acc with
   | none=>rfl
   | some o =>
    rcases Gn acc o e with z|z
    ·rw[fi]at z;cases z
    ·rcases z with z|⟨ws,rfl⟩
     ·rw[fG]at z;cases z
     ·have y:=R5.fr acc _ e;rw[AU acc _ (Ne.symm Sr) (Ne.symm yn) fG]at y;cases y
  have Nh:∀p∈[(m,a),(n,c)],p.1=m\/p.1=n:=λp hp=>by
   rcases List.mem_cons.mp hp with rfl|hp
   ·exact .inl rfl
   ·rw[List.mem_singleton.mp hp];exact .inr rfl
  refine⟨⟨H',F3,[(m,a),(n,c)],[]⟩,Nh,F3,_,items[i],_,Tv,rep,qi,λqb H4 F4 eV s4 R4 q4=>?_⟩;refine⟨⟨H',F3,[(m,a),(n,c)],[]⟩,Nh,F4,eV,_,R4,q4,λb H5 F5 l0 s5 R5 q5=>?_⟩;cases b with
  | false =>
   obtain⟨le,q5⟩:=q5;unfold ownAt at q5
   split at q5
   rotate_left
   ·exact q5.elim
   rename_i zH ex
   split at q5
   rotate_left
   ·exact q5.elim
   rename_i F9 ez;obtain⟨w1,w2,w3,w4,⟨ws,v1,v2,v3,v4⟩,ts,t1,t2,t3,t4⟩:=back (s4.trans s5) R5 ex ez;exact⟨items.length-(i+1),by omega,F5,ds,ys,zH,ws,F9,ts,si.trans w4,w1,w2,ri.mono w4,w3,⟨v1,v2,v3,v4⟩,⟨t1,t2,t3,t4⟩,R5.qO le (cC _ _) (cB _ _) hm hn Gu Vj v4 t4 v2 t2 v3 t3 R5.fr v1 t1,q5,rfl,hl⟩
  | true =>
   refine⟨⟨H',F3,[(m,a),(n,c)],[]⟩,Nh,F5,l0,_,R5,q5,λv6 H6 F6 d X9 s6 R6 r6 q6=>?_⟩;obtain⟨le,hz,q6⟩:=q6;unfold ownAt at q6
   split at q6
   rotate_left
   ·exact q6.elim
   rename_i zH ex
   split at q6
   rotate_left
   ·exact q6.elim
   rename_i F9 ez;obtain⟨w1,w2,w3,w4,⟨ws,v1,v2,v3,v4⟩,ts,t1,t2,t3,t4⟩:=back ((s4.trans s5).trans s6) R6 ex ez;exact⟨ys,items.length-(i+1),w2,by rw[ri.length];exact hz,by omega,F6,ds++[d],ys++[v6],zH,ws,F9,ts,si.trans w4,w1.other w3 a0 (aN zH F9),ay,(ri.mono w4).append (.cons r6 .nil),w3,⟨by rw[aq Sr];exact v1,v2,v3,v4⟩,⟨by rw[aq yn];exact t1,t2,t3,t4⟩,
    R6.qO le (cC _ _) (cB _ _) hm hn Gu Vj v4 t4 v2 t2 v3 t3 (sw R6.fr w3) (by rw[aq Sr];exact v1) (by rw[aq yn];exact t1),q6,rfl,hl⟩
 ·left
  have e:i=items.length:=by omega
  subst e;rw[List.drop_length]at qi;exact⟨uP.2 rfl,K _ Hi Fi (.own ds) _ ((s1.trans s2).trans si) Ri ⟨acc,ys,rfl,fG,ri,fi,a0,aN xs zs⟩ qi⟩
end
end Vc
namespace Vc
open PySem L2
variable [KF]
def cJ(kvs:List (Int×D))(i:Int):Option D:=(kvs.find? λp=>decide (p.1=i)).map (·.2)
def gA(kvs:List (Int×D))(i:Int)(d:D):List (Int×D):=if(kvs.any λp=>decide (p.1=i))=true then kvs.map (λp=>if p.1=i then(p.1,d)else p)else kvs++[(i,d)]
theorem b7.length{F:Hp}:∀ {ks:List (Key×V)} {kvs:List (Int×D)},b7 F ks kvs->ks.length=kvs.length
 | _,_,.nil=>rfl
 | _,_,.cons _ r=>by simp [b7.length r]
theorem DP(i j:Int):((Sum.inl i:Key)=Sum.inl j)=(i=j):=by simp
theorem b7.val{F:Hp}(j:Int):∀ {ks:List (Key×V)} {kvs:List (Int×D)},b7 F ks kvs->(c5 ks (.inl j)=none/\cJ kvs j=none)\/∃v d,c5 ks (.inl j)=some v/\cJ kvs j=some d/\Rep F v d
 | _,_,.nil=>.inl ⟨rfl,rfl⟩
 | _,_,.cons (i:=i) (v:=v) (d:=d) (ks:=ks) (kvs:=kvs) h r=>by
  by_cases e:i=j
  ·subst e
   exact .inr ⟨v,d,g9 rfl,by unfold cJ;rw[List.find?_cons_of_pos (by simp)];rfl,h⟩
  ·have e1:c5 ((Sum.inl i,v)::ks) (Sum.inl j)=c5 ks (Sum.inl j):=gZ (by show¬(Sum.inl i:Key)=Sum.inl j;rw[DP];exact e)
   have e2:cJ ((i,d)::kvs) j=cJ kvs j:=by unfold cJ;rw[List.find?_cons_of_neg (by simpa using e)]
   rw[e1,e2];exact b7.val j r
theorem b7.append{F:Hp}:∀ {ks js:List (Key×V)} {kvs lvs:List (Int×D)},b7 F ks kvs->b7 F js lvs->b7 F (ks++js) (kvs++lvs)
 | _,_,_,_,.nil,s=>s
 | _,_,_,_,.cons h r,s=>.cons h (b7.append r s)
theorem b7.any{F:Hp}(j:Int):∀ {ks:List (Key×V)} {kvs:List (Int×D)},b7 F ks kvs->(ks.any λkv=>decide (kv.1=Sum.inl j))=(kvs.any λp=>decide (p.1=j))
 | _,_,.nil=>rfl
 | _,_,.cons (i:=i) _ r=>by
  rw[List.any_cons,List.any_cons,b7.any j r];congr 1;simp
theorem b7.repl{F:Hp}{v:V}{d:D}(j:Int)(hv:Rep F v d):∀ {ks:List (Key×V)} {kvs:List (Int×D)},b7 F ks kvs->b7 F (ks.map λkv=>if kv.1=Sum.inl j then(kv.1,v)else kv) (kvs.map λp=>if p.1=j then(p.1,d)else p)
 | _,_,.nil=>.nil
 | _,_,.cons (i:=i) h r=>by
  rw[List.map_cons,List.map_cons]
  by_cases e:i=j
  ·rw[if_pos (show(Sum.inl i:Key)=Sum.inl j by rw[e]),if_pos (show i=j from e)]
   exact .cons hv (b7.repl j hv r)
  ·rw[if_neg (show¬(Sum.inl i:Key)=Sum.inl j by rw[DP];exact e),if_neg (show¬i=j from e)]
   exact .cons h (b7.repl j hv r)
theorem b7.put{F:Hp}{ks:List (Key×V)}{kvs:List (Int×D)}{v:V}{d:D}(j:Int)(r:b7 F ks kvs)(hv:Rep F v d):b7 F (putK ks (.inl j) v) (gA kvs j d):=by
 unfold putK gA;rw[r.any j]
 split
 ·exact r.repl j hv
 ·exact r.append (.cons hv .nil)
def Gk(a:Addr)(kvs:List (Int×D)):O where
 fp:=λb=>[b]
 rep:=λF H b=>b=a/\∃ks,H b=some (.dK ks)/\b7 F ks kvs
 solid:=λ{F H a b φ} ⟨_,ks,h,_⟩ hb z=>by
  rw[List.mem_singleton.mp hb,h]at z;cases z
 nt:=λ{F H a b vs} ⟨_,ks,h,_⟩ hb z=>by
  rw[List.mem_singleton.mp hb,h]at z;cases z
 mono:=λ{F F' H H' a} s e ⟨e0,ks,h,r⟩=>⟨e0,ks,by rw[e a (List.mem_singleton.mpr rfl)];exact h,r.mono s⟩
 view:=some (.o5 kvs)
 sees:=λ{F H a d} ⟨_,ks,h,r⟩ e=>by cases e;exact⟨a,ks,rfl,h,r⟩
 lend:=λ{F H a d} s ⟨_,ks,h,r⟩ e=>by
  cases e;obtain⟨F',s1,s2,e1,e2⟩:=fW s h;refine⟨F',s1,s2,.o5 e1 (r.mono s1),λc u z=>?_⟩;rcases e2 c u z with z|⟨rfl,rfl⟩
  ·exact .inl z
  ·exact .inr ⟨rfl,List.mem_singleton.mpr rfl⟩
 loc:=some a
 Wc:=λ{F H a b} ⟨e,_⟩ q=>by cases q;exact e
variable {G:GE}{k:Nat}{S:Stat}
def vX(i:Nat):TV:=λσ Q=>match σ[i]? with
 | some (some (.sh d))=>Q (.val d) σ
 | some (some _)=>Q (.var i) σ
 | _=>False
theorem EY(i:Nat){x:Str}{pos:Pos}(hN:S.N[i]?=some x:=by rfl)(hv:S.sc.lookup x=some .local\/S.sc.lookup x=some .cell\/S.sc.lookup x=some .free:=by first|exact Or.inl rfl|exact Or.inr (Or.inl rfl)|exact Or.inr (Or.inr rfl))
  (hd:(x==("__debug__":Str))=false:=by decide) (qG:(x==("__classdict__":Str))=false:=by decide):EO G k S (.Name x pos) (vX i):=.mk λX Y ok =>
 bo (fY (X:=X) (i:=i) (by rw[ok.N];exact hN) (by unfold BE;rw[ok.sc];exact hv) hd qG) λσ H Q q=>by
  obtain⟨F,ak,Qd,R,q,K⟩:=q;unfold vX at q
  split at q
  ·rename_i d e
   obtain⟨v,e2,r2⟩:=R.sh i d e;exact⟨v,e2,K v H F (.val d) ak (av.refl _) R r2 q⟩
  ·rename_i b hb e
   cases b with
   | sh d=>exact absurd rfl (hb d)
   | own xs =>
    obtain⟨a,vs,e2,_⟩:=R.own i xs e;exact⟨_,e2,K _ H F (.var i) ak (av.refl _) R e2 q⟩
   | obj o =>
    obtain⟨a,e2,_⟩:=R.ob.obj i o e;exact⟨_,e2,K _ H F (.var i) ak (av.refl _) R e2 q⟩
  ·exact q.elim
def Rz:TX:=λσ Q=>∀p,Q (.obj (Gk p [])) σ
theorem Iy{pos:Pos}:EX G k S (.Dict [] [] pos) Rz:=.mk λX Y ok=>bo vv λσ H Q q=>by
 obtain⟨F,ak,Qd,R,q,K⟩:=q;intro p hp;refine K _ _ F (.obj (Gk p [])) ak (av.refl _) (R.fw hp) ⟨p,rfl,⟨rfl,[],ay,.nil⟩,λb hb=>?_⟩ (q p);rw[List.mem_singleton.mp hb];exact⟨same_none R.fr hp,(by rw[ay];exactλz=>nomatch z),(R.cv hp).1,R.c9 hp⟩
def A0(ta tb:TV):TV:=λσ Q=>ta σ λx aA=>tb aA λy bh=>match eW bh x,eW bh y with
 | some (.o5 kvs),some (.int i)=>∃d,cJ kvs i=some d/\Q (.val d) bh
 | _,_=>False
theorem za{a b:Expr}{ta tb:TV}{pos:Pos}(ha:EO G k S a ta)(hb:EO G k S b tb)(hs:KJ b:=by intro _ _;rfl):EO G k S (.Subscript a b pos) (A0 ta tb):=.mk λX Y ok =>
 bo (Ia (by have:=ok.units;omega) (ha X Y ok) (hb X Y ok) hs) λσ H Q q=>by
  obtain⟨F,ak,Qd,R,q,K⟩:=q;refine⟨F,ak,_,R,q,λv1 H1 F1 x aA s1 R1 r1 q1=>?_⟩;refine⟨F1,aA,_,R1,q1,λv2 H2 F2 y bh s2 R2 r2 q2=>?_⟩
  split at q2
  ·rename_i kvs i ea eb
   obtain⟨a,ks,rfl,h,r⟩:=R2.eW (r1.mono s2) ea;obtain rfl:=(R2.eW r2 eb).int;obtain⟨d,hd,q2⟩:=q2;rcases r.val i with⟨_,e2⟩|⟨v,d',e1,e2,rd⟩
   ·rw[e2]at hd;cases hd
   ·rw[e2]at hd;cases hd
    refine⟨a,v,rfl,?_,K v H2 F2 (.val d) bh (s1.trans s2) R2 rd q2⟩;rw[<- e1];exact mC.k (k:=.inl i) h
  ·exact q2.elim
end Vc
namespace Vs
open PySem PySem.Calls PyProof.Rows PyProof.V PySem.Spec
def uM:Value->Int
 | .int i _=>i
 | _=>0
section
variable {prog:Program}{w:World}{A:Around}{E:Value->Shared->Prop}{s:Shared}
theorem DQ{vs:List Value}{ns:List Int}{Q:SortKind->Shared->Prop}(hl:2<=vs.length)(h:IntsAre vs ns)(q:Q oneType' s):wpAny (model prog w) A (keyKind' vs.toArray) Q E s:=by
 match vs,hl,h with
 | IW::IX::r,_,h =>
  rw[keyKind_ints h];exact wpAny_pure q
theorem Hy{l:List Keyed}(h:∀x∈l,∃i t,x.1=Value.int i t):gy (model prog w) A E s (rk (λx=>[uM x.1]) l) oneType' (λx=>x∈l):=λx y st Q hx hy hk q=>by
 rw[pV hx]at q;rw[lt'_eq];refine wpS_bind (wpS_get ?_);rw[hk];obtain⟨i,t,e1⟩:=h x hx;obtain⟨j,u,e2⟩:=h y hy;rw[e1,e2,show HT.lexLt [uM (.int i t)] [uM (.int j u)]=decide (i<j)from by
  show(if i=j then HT.lexLt [] []else decide (i<j))=_
  by_cases e:i=j
  ·rw[if_pos e,decide_eq_false ⋯];rfl
  ·rw[if_neg e]]at q
 refine wpS_bind (wpS_lift (wpAny_attempt ?_));rw[e1,e2,keyLt'_oneType];exact oneLt_int ⟨rfl,wpS_pure q⟩
end
end Vs
namespace Vc
open PySem L2
variable [KF]
theorem mZ:∀ {vs:List Value} {ns:List Int},PyProof.Rows.IntsAre vs ns->vs.map Vs.uM=ns
 | _,_,.nil=>rfl
 | _,_,.cons n t h=>by rw[List.map_cons,mZ h];rfl
theorem ly:∀ {vs:List Value} {ns:List Int},PyProof.Rows.IntsAre vs ns->∀v∈vs,∃i t,v=Value.int i t
 | _,_,.nil,v,hv=>by cases hv
 | _,_,.cons n t h,v,hv=>by
  rcases List.mem_cons.mp hv with rfl|hv
  ·exact⟨n,t,rfl⟩
  ·exact ly h v hv
theorem fQ:∀ {vs:List Value},(∀v∈vs,∃i t,v=Value.int i t)->Vals ((vs.map Vs.uM).map V.int) vs
 | [],_=>.nil
 | v::vs,h=>by
  obtain⟨i,t,rfl⟩:=h v (.head _);exact .cons ⟨t,rfl⟩ (fQ λx hx=>h x (.tail _ hx))
variable {G:GE}{k:Nat}{S:Stat}
def lE(ns:List Int):List Int:=ns.mergeSort λx y=>decide (x<=y)
theorem nM(ns:List Int):(lE ns).Perm ns:=List.mergeSort_perm _ _
theorem j8(ns:List Int):(lE ns).Pairwise λx y=>x<=y:=by
 have:=List.pairwise_mergeSort (le:=λx y:Int=>decide (x<=y)) (λa b c h1 h2=>by simp only[decide_eq_true_eq]at *;omega) (λa b=>by simp only[Bool.or_eq_true,decide_eq_true_eq];omega) ns
 exact this.imp λh=>of_decide_eq_true h
theorem nL{ns ms:List Int}(h:ms.Perm ns)(hs:ms.Pairwise λx y=>x<=y):ms=lE ns:=
 (h.trans (nM ns).symm).eq_of_pairwise (le:=λx y:Int=>x<=y) (λa b _ _ h1 h2=>Int.le_antisymm h1 h2) hs (j8 ns)
theorem pT{F:Hp}:∀ms:List Int,aD F (ms.map V.int) (ms.map D.int)
 | []=>.nil
 | i::ms=>.cons (.int i) (pT ms)
end Vc
namespace Vc
open PySem L2
variable [KF]
abbrev FMu:=List B->(B->List B->Prop)->Prop
variable {G:GE}{k:Nat}{S:Stat}
end Vc
namespace Vc
open PySem L2
variable [KF]
mutual
def noD:D->Bool
 | .bD=>true
 | .bl _=>true
 | .int _=>true
 | .str _=>true
 | .tup xs=>D4 xs
 | .lst xs=>D4 xs
 | _=>false
def D4:List D->Bool
 | []=>true
 | x::xs=>noD x&&D4 xs
end
mutual
theorem Rep.FI{F F':Hp}(hs:∀c u,F c=some u->F' c=some u\/dl u=true):∀ {v:V} {d:D},Rep F v d->noD d=true->Rep F' v d
 | _,_,.bD,_=>.bD
 | _,_,.bl b,_=>.bl b
 | _,_,.int i,_=>.int i
 | _,_,.str x,_=>.str x
 | _,_,.tup h r,n=>.tup ((hs _ _ h).elim id λz=>by cases z) (aD.FI hs r n)
 | _,_,.lst h r,n=>.lst (by
   rcases h with h|⟨o,h⟩
   ·exact .inl ((hs _ _ h).elim id λz=>by cases z)
   ·exact .inr ⟨o,(hs _ _ h).elim id λz=>by cases z⟩) (aD.FI hs r n)
 | _,_,.j6 _,n=>by cases n
 | _,_,.exc _,n=>by cases n
 | _,_,.zZ _ _,n=>by cases n
 | _,_,.o5 _ _,n=>by cases n
 | _,_,.kp _ _ _,n=>by cases n
theorem aD.FI{F F':Hp}(hs:∀c u,F c=some u->F' c=some u\/dl u=true):∀ {vs:List V} {ds:List D},aD F vs ds->D4 ds=true->aD F' vs ds
 | _,_,.nil,_=>.nil
 | _,_,.cons h r,n=>by
  have n:(noD _&&D4 _)=true:=n;rw[Bool.and_eq_true]at n;exact .cons (Rep.FI hs h n.1) (aD.FI hs r n.2)
end
inductive AV where
 | d (x:D)|n (j:Nat)|l (j:Nat)
abbrev TAv:=Sd->(List AV->Sd->Prop)->Prop
variable {G:GE}{k:Nat}{S:Stat}
def Kt(ak:Sd)(σ:St)(js:List Nat)(c:Addr):Prop:=∃j∈js,∃(o:O) (a:Addr),ak[j]?=some (some (.obj o))/\σ[j]?=some (some (.ref a))/\c∈o.fp a
theorem uV{Y:bK}{F:Hp}{ak:Sd}{σ:St}{H:Hp}(R:RS Y F ak σ H):∀js:List Nat,∃F2,av F F2/\av F2 H/\(∀j∈js,∀(o:O) (d:D) (a:Addr),ak[j]?=some (some (.obj o))->o.view=some d->σ[j]?=some (some (.ref a))->Rep F2 (.ref a) d) /\
  (∀c u,F2 c=some u->F c=some u\/(dl u=true/\Kt ak σ js c))/\(js=[]->F2=F)
 | []=>⟨F,av.refl _,R.fr,(λj hj=>by cases hj),(λc u z=>.inl z),λ_=>rfl⟩
 | j::js=>by
  obtain⟨F2,s1,s2,h1,h2,_⟩:=uV R js
  by_cases hq:∃o d,ak[j]?=some (some (.obj o))/\o.view=some d
  ·obtain⟨o,d,e1,e2⟩:=hq
   obtain⟨a,w1,w2,w3⟩:=R.ob.obj j o e1;have w2':o.rep F2 H a:=o.mono s1 (λ_ _=>rfl) w2;obtain⟨F3,s3,s4,r3,h3⟩:=o.lend s2 w2' e2;refine⟨F3,s1.trans s3,s4,λi hi o' d' a' f1 f2 f3=>?_,λc u z=>?_,λz=>nomatch z⟩
   ·rcases List.mem_cons.mp hi with rfl|hi
    ·rw[e1]at f1;cases f1
     rw[e2]at f2;cases f2;rw[w1]at f3;cases f3;exact r3
    ·exact(h1 i hi o' d' a' f1 f2 f3).mono s3
   ·rcases h3 c u z with z|⟨z1,z2⟩
    ·rcases h2 c u z with z|⟨z1,i,hi,z2⟩
     ·exact .inl z
     ·exact .inr ⟨z1,i,.tail _ hi,z2⟩
    ·exact .inr ⟨z1,j,.head _,o,a,e1,w1,z2⟩
  ·refine⟨F2,s1,s2,λi hi o' d' a' f1 f2 f3=>?_,λc u z=>?_,λz=>nomatch z⟩
   ·rcases List.mem_cons.mp hi with rfl|hi
    ·exact absurd ⟨o',d',f1,f2⟩ hq
    ·exact h1 i hi o' d' a' f1 f2 f3
   ·rcases h2 c u z with z|⟨z1,i,hi,z2⟩
    ·exact .inl z
    ·exact .inr ⟨z1,i,.tail _ hi,z2⟩
end Vc
namespace Vc
open PySem L2
variable [KF]
abbrev kC:Addr:=KF.cls "Kept"
def kpO(a dx ad:Addr)(w:Str)(c e:Int)(kvs:List (Int×D)):O where
 fp:=λb=>[b,dx,ad]
 rep:=λF H b=>b=a/\H a=some (.ins kC dx (kpF w c e ad))/\H dx=some (.own a)/\∃ks,H ad=some (.dK ks)/\b7 F ks kvs
 solid:=λ{F H b c' φ} ⟨e0,h1,h2,ks,h3,_⟩ hb z=>by
  subst e0;simp only[List.mem_cons,List.not_mem_nil,or_false]at hb;rcases hb with rfl|rfl|rfl
  ·rw[h1]at z;cases z
  ·rw[h2]at z;cases z
  ·rw[h3]at z;cases z
 nt:=λ{F H b c' vs} ⟨e0,h1,h2,ks,h3,_⟩ hb z=>by
  subst e0;simp only[List.mem_cons,List.not_mem_nil,or_false]at hb;rcases hb with rfl|rfl|rfl
  ·rw[h1]at z;cases z
  ·rw[h2]at z;cases z
  ·rw[h3]at z;cases z
 mono:=λ{F F' H H' b} s e ⟨e0,h1,h2,ks,h3,r⟩=>by
  subst e0;exact⟨rfl,by rw[e b (by simp)];exact h1,by rw[e dx (by simp)];exact h2,ks,by rw[e ad (by simp)];exact h3,r.mono s⟩
 view:=some (.kp w c e kvs)
 sees:=λ{F H b d} ⟨e0,h1,h2,ks,h3,r⟩ q=>by cases q;subst e0;exact⟨b,dx,ad,ks,rfl,h1,h3,r⟩
 lend:=λ{F H b d} s ⟨e0,h1,h2,ks,h3,r⟩ q=>by
  cases q;subst e0;obtain⟨F1,s1,s2,e1,e2⟩:=fW s h1;obtain⟨F2,s3,s4,e3,e4⟩:=fW s2 h3;refine⟨F2,s1.trans s3,s4,.kp (s3 _ _ e1) e3 (r.mono (s1.trans s3)),λc u z=>?_⟩;rcases e4 c u z with z|⟨rfl,rfl⟩
  ·rcases e2 c u z with z|⟨rfl,rfl⟩
   ·exact .inl z
   ·exact .inr ⟨rfl,by simp⟩
  ·exact .inr ⟨rfl,by simp⟩
 loc:=some a
 Wc:=λ{F H b c'} ⟨e0,_⟩ q=>by cases q;exact e0
variable {G:GE}{k:Nat}{S:Stat}
end Vc
namespace Vc
open PySem L2
variable [KF]
variable {G:GE}{k:Nat}{S:Stat}
theorem ln0{α:Type}{P:List α->Prop}(h:P [])(us:List α)(e:us.length=0):P us:=List.eq_nil_of_length_eq_zero e ▸ h
theorem SV{α:Type}{n:Nat}{P:List α->Prop}(h:∀(a:α) (r:List α),r.length=n->P (a::r)):∀us:List α,us.length=n+1->P us:=λus e=>by
 cases us with
 | nil=>cases e
 | cons a r=>exact h a r (Nat.succ.inj e)
@[elab_as_elim] theorem Hv{α:Type} {P:List α->Prop} (h:∀a,P [a]) (us:List α) (e:us.length=1):P us:=SV (λa=>ln0 (P:=λr=>P (a::r)) (h a)) us e
@[elab_as_elim] theorem ln2{α:Type} {P:List α->Prop} (h:∀a b,P [a,b]) (us:List α) (e:us.length=2):P us:=SV (λa=>Hv (P:=λr=>P (a::r)) (h a)) us e
@[elab_as_elim] theorem Hw{α:Type} {P:List α->Prop} (h:∀a b c,P [a,b,c]) (us:List α) (e:us.length=3):P us:=SV (λa=>ln2 (P:=λr=>P (a::r)) (h a)) us e
@[elab_as_elim] theorem ln4{α:Type} {P:List α->Prop} (h:∀a b c d,P [a,b,c,d]) (us:List α) (e:us.length=4):P us:=SV (λa=>Hw (P:=λr=>P (a::r)) (h a)) us e
@[elab_as_elim] theorem ln5{α:Type} {P:List α->Prop} (h:∀a b c d e,P [a,b,c,d,e]) (us:List α) (e:us.length=5):P us:=SV (λa=>ln4 (P:=λr=>P (a::r)) (h a)) us e
@[elab_as_elim] theorem ln6{α:Type} {P:List α->Prop} (h:∀a b c d e f,P [a,b,c,d,e,f]) (us:List α) (e:us.length=6):P us:=SV (λa=>ln5 (P:=λr=>P (a::r)) (h a)) us e
theorem GY(p:Addr)(kvs:List (Int×D)):(Gk p kvs).view=some (.o5 kvs):=rfl
theorem Ht(a dx ad:Addr)(w:Str)(c e:Int)(kvs:List (Int×D)):(kpO a dx ad w c e kvs).view=some (.kp w c e kvs):=rfl
end Vc
namespace Vc
open PySem L2
variable [KF]
variable {G:GE}{k:Nat}{S:Stat}
def yS(l:Bool)(d:Option D):Option B:=match l with
 | true=>d.map B.sh
 | false=>none
def uT(l:Bool):Option B->Option B
 | some (.sh d)=>some (.sh d)
 | some (.obj o)=>yS l (o.view.or o.deep)
 | some (.own xs)=>yS l (some (.lst xs))
 | none=>none
def iM(js:List Nat):Nat->Sd->Sd
 | _,[]=>[]
 | i,b::σ=>uT (js.contains i) b::iM js (i+1) σ
theorem pG(js:List Nat):∀(i:Nat) (σ:Sd),(iM js i σ).length=σ.length
 | _,[]=>rfl
 | i,b::σ=>congrArg (·+1) (pG js (i+1) σ)
theorem pF(js:List Nat):∀(i j:Nat) (σ:Sd),(iM js i σ)[j]?=(σ[j]?).map (uT (js.contains (i+j)))
 | _,_,[]=>rfl
 | i,0,b::σ=>rfl
 | i,j+1,b::σ=>by
  show(iM js (i+1) σ)[j]?=_;rw[pF js (i+1) j σ,show i+1+j=i+(j+1)by omega];rfl
theorem uU{l:Bool}{d:Option D}{b:B}(h:yS l d=some b):l=true/\∃x,d=some x/\b=.sh x:=by
 cases l with
 | false=>cases h
 | true =>
  obtain⟨x,h1,h2⟩:=Option.map_eq_some_iff.mp (show d.map B.sh=some b from h)
  exact⟨rfl,x,h1,h2.symm⟩
theorem DX{l:Bool}{x:Option B}{b:B}(h:uT l x=some b):∃d,b=.sh d/\(x=some (.sh d)\/(l=true/\((∃o,x=some (.obj o)/\o.view.or o.deep=some d)\/∃xs,x=some (.own xs)/\d=.lst xs))):=by
 unfold uT at h
 split at h
 ·cases h;exact⟨_,rfl,.inl rfl⟩
 ·obtain⟨hl,d,h1,h2⟩:=uU h
  exact⟨d,h2,.inr ⟨hl,.inl ⟨_,rfl,h1⟩⟩⟩
 ·obtain⟨hl,d,h1,h2⟩:=uU h
  cases h1;exact⟨_,h2,.inr ⟨hl,.inr ⟨_,rfl,rfl⟩⟩⟩
 ·cases h
theorem uW{Y:bK}{F:Hp}{ak:Sd}{σ:St}{H:Hp}(R:RS Y F ak σ H):∀(js:List Nat) (F2:Hp),av F F2->av F2 H->∃F3,av F2 F3/\av F3 H/\∀j∈js,∀(xs:List D) (a:Addr),ak[j]?=some (some (.own xs))->σ[j]?=some (some (.ref a))->Rep F3 (.ref a) (.lst xs)
 | [],F2,_,s=>⟨F2,av.refl _,s,λj hj=>by cases hj⟩
 | j::js,F2,s0,s=>by
  obtain⟨F3,s1,s2,h⟩:=uW R js F2 s0 s
  by_cases hq:∃xs,ak[j]?=some (some (.own xs))
  ·obtain⟨xs,e⟩:=hq
   obtain⟨a,vs,w1,w2,w3,_⟩:=R.own j xs e;obtain⟨F4,s3,s4,e4,_⟩:=fW s2 w2;refine⟨F4,s1.trans s3,s4,λi hi ys b f1 f2=>?_⟩;rcases List.mem_cons.mp hi with rfl|hi
   ·rw[e]at f1;cases f1
    rw[w1]at f2;cases f2;exact .lst (.of e4) (w3.mono ((s0.trans s1).trans s3))
   ·exact(h i hi ys b f1 f2).mono s3
  ·refine⟨F3,s1,s2,λi hi ys b f1 f2=>?_⟩
   rcases List.mem_cons.mp hi with rfl|hi
   ·exact absurd ⟨ys,f1⟩ hq
   ·exact h i hi ys b f1 f2
theorem pH{Y:bK}{F:Hp}{ak:Sd}{σ:St}{H:Hp}(R:RS Y F ak σ H):∀(js:List Nat) (F2:Hp),av F F2->av F2 H->∃F3,av F2 F3/\av F3 H/\∀j∈js,∀(o:O) (d:D) (a:Addr),ak[j]?=some (some (.obj o))->o.deep=some d->σ[j]?=some (some (.ref a))->Rep F3 (.ref a) d
 | [],F2,_,s=>⟨F2,av.refl _,s,λj hj=>by cases hj⟩
 | j::js,F2,s0,s=>by
  obtain⟨F3,s1,s2,h⟩:=pH R js F2 s0 s
  by_cases hq:∃o d,ak[j]?=some (some (.obj o))/\o.deep=some d
  ·obtain⟨o,d,e,ed⟩:=hq
   obtain⟨a,w1,w2,_⟩:=R.ob.obj j o e;obtain⟨F4,s3,s4,r⟩:=o.J8 s2 (o.mono (s0.trans s1) (λ_ _=>rfl) w2) ed;refine⟨F4,s1.trans s3,s4,λi hi p d' b f1 f2 f3=>?_⟩;rcases List.mem_cons.mp hi with rfl|hi
   ·rw[e]at f1;cases f1
    rw[w1]at f3;cases f3;rw[ed]at f2;cases f2;exact r
   ·exact(h i hi p d' b f1 f2 f3).mono s3
  ·refine⟨F3,s1,s2,λi hi p d' b f1 f2 f3=>?_⟩
   rcases List.mem_cons.mp hi with rfl|hi
   ·exact absurd ⟨p,d',f1,f2⟩ hq
   ·exact h i hi p d' b f1 f2 f3
def yy:D->Bool
 | .bD=>true
 | .bl _=>true
 | .int _=>true
 | .str _=>true
 | _=>false
def JV:EV->Bool
 | .val d=>yy d
 | .own xs=>xs.all yy
 | _=>false
theorem Rep.flat{F F':Hp}{v:V}{d:D}(r:Rep F v d)(h:yy d=true):Rep F' v d:=by
 cases r with
 | bD=>exact .bD
 | bl b=>exact .bl b
 | int i=>exact .int i
 | str x=>exact .str x
 | _=>cases h
theorem aD.flat{F F':Hp}:∀ {vs:List V} {ds:List D},aD F vs ds->ds.all yy=true->aD F' vs ds
 | _,_,.nil,_=>.nil
 | _,_,.cons r rs,h=>by
  rw[List.all_cons,Bool.and_eq_true]at h;exact .cons (r.flat h.1) (aD.flat rs h.2)
def Ff(js:List Nat)(t:TX):TX:=λσ Q=>t (iM js 0 σ) λx _=>JV x=true/\Q x σ
theorem Qw(js:List Nat){e:Expr}{t:TX}(h:EX G k S e t)(M6:S.ex=λ_ _=>False:=by rfl):EX G k S e (Ff js t):=.mk λX Y ok pins s σ H Q I q=>by
 obtain⟨F,ak,Qd,R,q,K⟩:=q;obtain⟨F2,s1,s2,h1,_,_⟩:=uV R js;obtain⟨F3',s3',s4',h2'⟩:=uW R js F2 s1 s2;obtain⟨F3,Xw,s4,h3⟩:=pH R js F3' (s1.trans s3') s4';have s3:av F2 F3:=s3'.trans Xw;have h2:∀j∈js,∀(xs:List D) (a:Addr),ak[j]?=some (some (.own xs))->σ[j]?=some (some (.ref a))->Rep F3 (.ref a) (.lst xs):=λj hj xs a e1 e2=>(h2' j hj xs a e1 e2).mono Xw;have only:∀ {i:Nat} {b:B},(iM js 0 ak)[i]?=some (some b)->∃d v,b=.sh d/\σ[i]?=some (some v)/\Rep F3 v d:=λ{i b} e=>by
  rw[pF,Nat.zero_add]at e;obtain⟨x,e1,e2⟩:=Option.map_eq_some_iff.mp e;obtain⟨d,rfl,e3⟩:=DX e2;rcases e3 with rfl|⟨hl,⟨o,rfl,e4⟩|⟨xs,rfl,rfl⟩⟩
  ·obtain⟨v,g1,g2⟩:=R.sh i d e1
   exact⟨d,v,rfl,g1,g2.mono (s1.trans s3)⟩
  ·obtain⟨a,g1,_⟩:=R.ob.obj i o e1
   cases ev:o.view with
   | some x =>
    rw[ev]at e4;cases e4;exact⟨d,_,rfl,g1,(h1 i (List.contains_iff_mem.mp hl) o d a e1 ev g1).mono s3⟩
   | none =>
    rw[ev,Option.none_or]at e4;exact⟨d,_,rfl,g1,h3 i (List.contains_iff_mem.mp hl) o d a e1 e4 g1⟩
  ·obtain⟨a,vs,g1,_⟩:=R.own i xs e1
   exact⟨_,_,rfl,g1,h2 i (List.contains_iff_mem.mp hl) xs a e1 g1⟩
 have aan:∀(i:Nat) (o:O),(iM js 0 ak)[i]?≠some (some (.obj o)):=λi o e=>by
  obtain⟨d,v,z,_⟩:=only e;cases z
 have Wn:∀(i:Nat) (xs:List D),(iM js 0 ak)[i]?≠some (some (.own xs)):=λi xs e=>by
  obtain⟨d,v,z,_⟩:=only e;cases z
 have R2:RS ⟨H,F3,[],[]⟩ F3 (iM js 0 ak) σ H:=⟨by rw[pG];exact R.len,av.refl _,s4,λb o e=>.inl e,λb o e _=>e,λi d e=>by
   obtain⟨d',v,z,g1,g2⟩:=only e;cases z;exact⟨v,g1,g2⟩,λi xs e=>absurd e (Wn i xs),λi _ xs _ _ e=>absurd e (Wn i xs),λp hp=>absurd hp (by simp),sX.none aan (R.ob.tab.mono (s1.trans s3)) λb hb=>absurd hb (by simp)⟩
 have ok2:en X G k S ⟨H,F3,[],[]⟩:=⟨ok.P,ok.w,ok.K,ok.kf,ok.mg,ok.base,ok.N,ok.sc,ok.nd,λp hp=>absurd hp (by simp),λ_ _=>rfl,ok.calm,ok.kind,ok.fn,ok.hd,ok.dp,ok.un,ok.po,ok.nx,(λc ak h=>by rw[M6]at h;exact h.elim),λ_ c ak h=>by rw[M6]at h;exact h.elim⟩
 refine h.run X _ ok2 pins s σ H Q I ⟨F3,_,_,R2,q,λv H' F' x aL s5 R5 r5 q5=>?_⟩;obtain⟨hf,q5⟩:=q5;have sm:av H H':=λb o e=>R5.old b o e (by simp [bK.Be])
 have R6:RS Y F ak σ H':=R.call (av.refl _) (R.fr.trans sm) sm λc o e=>.inl e;refine K v H' F x ak (av.refl _) R6 ?_ q5;cases x with
 | val d=>exact(show Rep F' v d from r5).flat hf
 | own xs =>
  obtain⟨a,vs,rfl,e1,e2,e3,e4,e5⟩:=r5;have e4:H a=none:=e4;exact⟨a,vs,rfl,e1,e2.flat hf,same_none R.fr e4,(R.cv e4).1,R.c9 e4⟩
 | _=>cases hf
end Vc
namespace Vs
open PySem PyProof.Rows PySem.W
section
variable {prog:Program}{w:World}{A:Around}{E:Value->Shared->Prop}{s:Shared}
theorem vP{l:Addr}{vs:List Value}{kd:SortKind}{ρ:Keyed->Nat}{P:Keyed->Prop}{Q:Value->Shared->Prop}(hl:s.heap.IsList l vs.toArray)(hz:vs.length<=sizeLine)(h0:∀p∈(pairsOf vs).toList,P p)
  (hk:2<=vs.length->∀(A':Around),A'.units<=A.units+8->∀(E':Value->Shared->Prop) (g:Heap),(∀b o,s.heap.get? b=some o->g.get? b=some o)->(∀Q:SortKind->Shared->Prop,Q kd {s with heap:=g}->wpAny (model prog w) A' (keyKind' vs.toArray) Q E' {s with heap:=g})/\gy (model prog w) A' E' {s with heap:=g} ρ kd P)
  (h:∀(xs:Array Keyed) (g:Heap) (c:Nat),xs.Perm (pairsOf vs)->Seg ρ xs 0 vs.length->(∀b o,s.heap.get? b=some o->g.get? b=some o)->g.get? (s.heap.objs.size+1)=some (seqObj "list" (xs.map (·.2)) c)->Q (.ref (s.heap.objs.size+1)) {s with heap:=g}):
  wpAny (model prog w) A (call (.builtin "sorted") [.ref l]) Q E s:=by
 refine Calls.call_function_entry kind_sorted plain_sorted entry_sorted (args_sorted1 _) ?_;unfold Builtin.«sorted»;refine aaO (m:=checkCount "sorted" 1 1 _) (wpAny_pure (aaO (collect_list hl (aaO (wpAny_newList ?_ hz)) hz)));have hsz:((s.heap.push (seqObj "list" #[] 0)).update s.heap.objs.size (Obj.mapSeq (·++vs.toArray))).objs.size=s.heap.objs.size+1:=by
  rw[Heap.size_update,size_push']
 have MZ:(((s.heap.push (seqObj "list" #[] 0)).update s.heap.objs.size (Obj.mapSeq (·++vs.toArray))).push (seqObj "list" vs.toArray 0)).get? (s.heap.objs.size+1)=some (seqObj "list" vs.toArray 0):=by
  rw[<- hsz];exact Heap.get?_push_size _ rfl
 have keep:∀b o,s.heap.get? b=some o->(((s.heap.push (seqObj "list" #[] 0)).update s.heap.objs.size (Obj.mapSeq (·++vs.toArray))).push (seqObj "list" vs.toArray 0)).get? b=some o:=λb o e=>by
  have eX:b<s.heap.objs.size:=Heap.lt_size e;exact aaP _ ((Heap.get?_update_other _ _ (Ne.symm (Nat.ne_of_lt eX))).trans (aaP _ e))
 have ne:∀b o,s.heap.get? b=some o->b≠s.heap.objs.size+1:=λb o e=>Nat.ne_of_lt (Nat.lt_succ_of_lt (Heap.lt_size e));show wpAny _ _ _ _ _ {s with heap:=((s.heap.push (seqObj "list" #[] 0)).update s.heap.objs.size (Obj.mapSeq (·++vs.toArray))).push (seqObj "list" vs.toArray 0)}
 rw[hsz];refine aaO (wpAny_holding (wpAny_call_entry slot_list_sort ⟨_,MZ,rfl⟩ entry_list_sort (iP (kd:=kd) (ρ:=ρ) (P:=P) MZ hz h0 (λh2 g kg=>hk h2 _ ?_ _ g λb o e=>kg b o (ne b o e) (keep b o e)) λxs g c a1 a2 a3 a4=>⟨_,rfl,?_⟩) (args_list_sort _)))
 ·have e1:∀B:Around,B.in1.units<=B.units+1:=λB=>by first|exact Nat.le_refl _|exact Nat.le_succ _ | (unfold Around.in1;dsimp only;omega)
  have:=e1 A;have:=e1 A.in1;omega
 ·exact wpAny_pure ⟨_,rfl,h xs g c a1 a2 (λb o e=>a3 b o (ne b o e) (keep b o e)) a4⟩
end
end Vs
namespace Vc
open PySem L2
variable [KF]
variable {G:GE}{k:Nat}{S:Stat}
def EH:List V->Hp->VK->Prop:=λxs H Q=>∃p,∃ns:List Int,xs=[.ref p]/\Rd H p (.lst (ns.map V.int))/\∀ms:List Int,ms.Perm ns->ms.Pairwise (λx y=>x<=y)->∀l,H l=none->Q (.ref l) (upd H l (.lst (ms.map V.int)))
theorem jw:∀ {ns:List Int} {its:List Value},Vals (ns.map V.int) its->PyProof.Rows.IntsAre its ns
 | [],_,.nil=>.nil
 | n::ns,_,.cons h r=>by
  obtain⟨t,rfl⟩:=h;exact .cons _ t (jw r)
theorem w8{X:Cx}:cK X (.builtin "sorted") EH:=by
 intro pins s σ H xs S6 Q I r h;obtain⟨p,ns,rfl,hq,q⟩:=h;obtain⟨u,rfl,rx⟩:=vals1 r;cases rx;obtain⟨its,rv,pl,hz⟩:=I.list (.inl hq);have ii:=jw rv;have lits:its.length=ns.length:=by have:=rv.length;rw[aaR]at this;exact this.symm
 have hz:ns.length<=sizeLine:=by have:=hz;rw[aaR]at this;exact this
 have fH:=ly ii;have mem:∀x:PyProof.Rows.Keyed,x∈(PyProof.Rows.pairsOf its).toList->x.1∈its/\x.1=x.2:=λx hx=>by
  rw[PyProof.Rows.pairsOf_toList,d0]at hx;obtain⟨v,hv,rfl⟩:=List.mem_map.mp hx;exact⟨hv,rfl⟩
 refine Vs.nN (kd:=PyProof.Rows.oneType') (ρ:=Vs.rk (λx=>[Vs.uM x.1]) (PyProof.Rows.pairsOf its).toList) (P:=λx=>x∈(PyProof.Rows.pairsOf its).toList) pl.isList ⋯ (λ_ h=>h) (λh2 A' E' g kg=>⟨λQ hQ=>?_,?_⟩) λys g c' hp hs kg hg=>?_
 ·exact Vs.DQ (s:={s with heap:=g}) h2 ii hQ
 ·exact Vs.Hy (s:={s with heap:=g}) λx hx=>fH x.1 (mem x hx).1
 ·have fC:ys.toList.Perm (PyProof.Rows.pairsOf its).toList:=Array.perm_iff_toList_perm.mp hp
  have ji:∀x∈ys.toList,x.1∈its/\x.1=x.2:=λx hx=>mem x (fC.mem_iff.mp hx);obtain⟨ms,Zh⟩:∃ms,ms=(ys.map (·.2)).toList.map Vs.uM:=⟨_,rfl⟩
  have perm:ms.Perm ns:=by
   rw[Zh,Array.toList_map,List.map_map,<- mZ ii];refine(fC.map (Vs.uM ∘ λx=>x.2)).trans ?_;rw[PyProof.Rows.pairsOf_toList,d0,List.map_map];exact List.Perm.refl _
  refine⟨.ref (s.heap.objs.size+1),_,I.laid (t':=s.toks) (o:=.lst (ms.map V.int)) kg (Nat.le_succ _) ⟨?_,(ys.map (·.2)).toList,c',?_,hg⟩,rfl,q ms perm ?_ _ (I.bU.fresh (Nat.le_succ _))⟩
  ·rw[aaR,perm.length_eq];exact hz
  ·rw[Zh]
   refine fQ λv hv=>?_;rw[Array.toList_map]at hv;obtain⟨x,hx,rfl⟩:=List.mem_map.mp hv;have:=ji x hx;exact fH _ (this.2 ▸ this.1)
  ·rw[Zh,Array.toList_map,List.map_map,List.pairwise_map]
   refine List.pairwise_iff_getElem.mpr λi j hi hj ku=>?_;have sS:i<ys.size:=by simpa using hi
   have Bb:j<ys.size:=by simpa using hj
   have hsz:ys.size=its.length:=by have:=hp.size_eq;rw[PyProof.Rows.pairsOf_size]at this;exact this
   have h1:=hs i j (Nat.zero_le _) (Nat.le_of_lt ku) ⋯
   rw[Vs.dq (Array.getElem?_eq_getElem sS),Vs.dq (Array.getElem?_eq_getElem Bb)]at h1;show Vs.uM ys[i].2<=Vs.uM ys[j].2;have m1:=ji ys[i] (by simp)
   have m2:=ji ys[j] (by simp)
   have:=Vs.pV (d:=λx=>[Vs.uM x.1]) (l:=(PyProof.Rows.pairsOf its).toList) (x:=ys[j]) (y:=ys[i]) (fC.mem_iff.mp (by simp))
   rw[decide_eq_false ⋯]at this
   rw[<- m1.2,<- m2.2];have e:(if Vs.uM ys[j].1=Vs.uM ys[i].1 then HT.lexLt [] []else decide (Vs.uM ys[j].1<Vs.uM ys[i].1))=false:=this.symm
   by_cases z:Vs.uM ys[j].1=Vs.uM ys[i].1
   ·omega
   ·rw[if_neg z]at e
    have:=of_decide_eq_false e;omega
def kW:List D->(EV->Prop)->Prop
 | [.lst ds],Q=>ds.all isInt=true/\Q (.own ((lE (ds.map fJ)).map D.int))
 | _,_=>False
theorem kT{F:Hp}:∀ {us:List V} {ds:List D},aD F us ds->ds.all isInt=true->us=(ds.map fJ).map V.int
 | _,_,.nil,_=>rfl
 | _,_,.cons (d:=d) r rs,h=>by
  rw[List.all_cons,Bool.and_eq_true]at h;rw[List.map_cons,List.map_cons,<- kT rs h.2];cases r with
  | int i=>rfl
  | _=>cases h.1
theorem qB:zK G k S (.builtin "sorted") kW:=⟨λ_=>EH,λX Y ok=>w8,λY F H ak σ vs ds Qd Q R r q g=>by
 unfold kW at q
 split at q
 ·rename_i xs
  obtain⟨v,rfl,rv⟩:=r.one;obtain⟨p,us,rfl,h1,h2⟩:=rv.lst;refine⟨p,xs.map fJ,rfl,?_,λms hp hs l hl=>?_⟩
  ·rw[<- kT h2 q.1];exact h1
  ·have q2:=q.2
   rw[<- nL hp hs]at q2;exact g.own R (pT ms) q2 l hl
 ·exact q.elim⟩
end Vc
namespace Vc
variable [KF]
theorem Wb(ts:YR):(llO ts).view.or (llO ts).deep=some (.lst (ts.map λt=>.lst t.2)):=rfl
end Vc
namespace Vs
open PySem PySem.Calls PyProof.Rows PyProof.V PySem.Spec
section
variable {prog:Program}{w:World}{A:Around}{R:Result->Shared->Prop}
theorem Rw:isSubtype (.type "list") (.type "str")=pure false:=by rw[isSubtype_type];kernel_rfl
theorem Rx:isSubtype (.type "list") (.type "bytes")=pure false:=by rw[isSubtype_type];kernel_rfl
theorem Ry:isSubtype (.type "list") (.type "bytearray")=pure false:=by rw[isSubtype_type];kernel_rfl
theorem zN(a b:Value):argsOk "sum" ⟨[a,b],[]⟩:=by unfold argsOk;kernel_rfl
theorem AZ(hh:A.in1.handled=none){I l S:Addr}{vs:List Value}{cs:List (List Value)}(Gq:cs.length=vs.length)(n1:l≠S)(n2:l≠I)(n3:S≠I):
  ∀(k i:Nat) (s:Shared) (T:Addr) (acc:List Value) (n c:Nat),vs.length-i=k->i<=vs.length->s.heap.IsListIter I l i->s.heap.IsList l vs.toArray->(∀j v,vs[j]?=some v->∃b m,v=.ref b/\IsL s.heap b (cs.getD j []).toArray m/\b≠S/\b≠I) ->
  IsL s.heap T acc.toArray n->T≠S->T≠I->s.heap.get? S=some {cls:=.type "list",dict:=none,data:=.seq #[.ref T] c,slots:=#[]}->acc.length+(cs.drop i).flatten.length<=sizeLine ->
  (∀h' T' m,(∀b o,b≠S->b≠I->s.heap.get? b=some o->h'.get? b=some o)->IsL h' T' (acc++(cs.drop i).flatten).toArray m->(vs.length=i->T'=T)->(vs.length≠i->s.heap.objs.size<=T')->R (.ok (.ret (.ref T'))) {s with heap:=h'}) ->
  codeAny (model prog w) A (.builtin "sum.loop" ⟨[.ref I,.ref S,rawInt 2,rawInt 0],[]⟩) R s:=by
 intro k
 induction k with
 | zero =>
  intro i s T acc n c hk hi hit hl hv hT t1 t2 hS hz hR;have uL:i=vs.length:=by omega
  subst uL;refine codeAny_builtin F.entry_sum_loop ?_;rw[Around.under_plainId F.plain_sum_loop _];show wpAny _ A.in1 (seqItems? (.ref S) >>= _) _ _ s;refine aaO (wpAny_seqItems hS rfl ?_);show wpAny _ A.in1 (tryCatch (pyNext (.ref I)) _ >>= _) _ _ s;refine aaO (wpAny_tryCatch (wpAny_pyNext_list_end hh hit hl (by simp) λh' eb=>?_))
  have k1:∀b o,b≠S->b≠I->s.heap.get? b=some o->h'.get? b=some o:=λb o _ hb e=>eb b o hb e;refine wpAny_pure (hR h' T n k1 ?_ (λ_=>rfl) λz=>absurd rfl z);rw[List.drop_of_length_le ⋯,List.flatten_nil,List.append_nil]
  exact eb T _ t2 hT
 | succ k ih =>
  intro i s T acc n c hk hi hit hl hv hT t1 t2 hS hz hR;have eX:i<vs.length:=by omega
  have ev:vs[i]?=some vs[i]:=aaQ eX;obtain⟨b,m,eb,hb,b1,b2⟩:=hv i _ ev;have ec:cs.drop i=cs.getD i []::cs.drop (i+1):=by
   rw[List.drop_eq_getElem_cons ⋯,List.getD_eq_getElem?_getD,aaQ ⋯];rfl
  refine codeAny_builtin F.entry_sum_loop ?_;rw[Around.under_plainId F.plain_sum_loop _];show wpAny _ A.in1 (seqItems? (.ref S) >>= _) _ _ s;refine aaO (wpAny_seqItems hS rfl ?_);show wpAny _ A.in1 (tryCatch (pyNext (.ref I)) _ >>= _) _ _ s;refine aaO (wpAny_tryCatch (wpAny_pyNext_list_item hit hl (x:=vs[i]) (by simpa using ev) λh1 Ha sb=>?_))
  rw[eb];have T1:IsL h1 T acc.toArray n:=(sb.2 T t2).trans hT;have B1:IsL h1 b (cs.getD i []).toArray m:=(sb.2 b b2).trans hb;have S1:h1.get? S=some {cls:=.type "list",dict:=none,data:=.seq #[.ref T] c,slots:=#[]}:=(sb.2 S n3).trans hS;rw[ec,List.flatten_cons,List.length_append]at hz;show wpAny _ A.in1 ((holding [Value.ref b] (binaryOp .Add (.ref T) (.ref b))).attempt >>= _) _ _ _;refine aaO (wpAny_attempt (wpAny_holding (P.add_list (s:={s with heap:=h1}) T1 B1 ?_ (by rw[List.size_toArray,List.size_toArray];omega))))
  have hp:∀c o,h1.get? c=some o->(h1.push {cls:=.type "list",data:=.seq (acc.toArray++(cs.getD i []).toArray)}).get? c=some o:=λc o e=>aaP _ e;have S2:=hp S _ S1;show wpAny _ A.in1 (updateSeq S (λ_=>#[.ref h1.objs.size]) >>= _) _ _ _;refine aaO (wpAny_updateSeq S2 rfl ?_);have S3:=Heap.get?_update_self (Obj.mapSeq λ_=>#[Value.ref h1.objs.size]) S2 rfl;refine aaO (wpAny_letGo ?_);have Zy:S<h1.objs.size:=Heap.lt_size S1;refine aaO (wpAny_updateSeq S3 rfl (wpAny_pure ⟨plainId_quiet F.plain_sum_loop _,?_⟩));have kp:∀c o,c≠S->h1.get? c=some o->(((h1.push {cls:=.type "list",data:=.seq (acc.toArray++(cs.getD i []).toArray)}).update S (Obj.mapSeq λ_=>#[Value.ref h1.objs.size])).update S (Obj.mapSeq λ_=>#[Value.ref h1.objs.size])).get? c=some o:=λc o hc e =>
   (Heap.get?_update_other _ _ (Ne.symm hc)).trans ((Heap.get?_update_other _ _ (Ne.symm hc)).trans (hp c o e))
  have hsz:s.heap.objs.size<=h1.objs.size:=Nat.le_of_eq sb.1.symm;have hI1:I<h1.objs.size:=by obtain⟨o,e,_⟩:=id Ha;exact Heap.lt_size e
  have qK:(((h1.push {cls:=.type "list",data:=.seq (acc.toArray++(cs.getD i []).toArray)}).update S (Obj.mapSeq λ_=>#[Value.ref h1.objs.size])).update S (Obj.mapSeq λ_=>#[Value.ref h1.objs.size])).get? h1.objs.size=some {cls:=.type "list",data:=.seq (acc.toArray++(cs.getD i []).toArray)}:=by
   rw[Heap.get?_update_other _ _ (Nat.ne_of_lt Zy),Heap.get?_update_other _ _ (Nat.ne_of_lt Zy)];exact Heap.get?_push_size _ rfl
  refine ih (i+1) _ h1.objs.size (acc++cs.getD i []) 0 _ ⋯ eX ?_ ?_ (λj v e=>?_) ?_ (Nat.ne_of_gt Zy) (Nat.ne_of_gt hI1) (Heap.get?_update_self _ S3 rfl) (by rw[List.length_append];omega) λh' T' m' k' MP e1 e2=>?_
  ·exact Ha.at λo e=>kp I o (Ne.symm n3) e
  ·obtain⟨o,e,r⟩:=hl
   exact⟨o,kp l o n1 ((sb.2 l n2).trans e),r⟩
  ·obtain⟨b',m',z1,z2,z3,z4⟩:=hv j v e
   exact⟨b',m',z1,kp b' _ z3 ((sb.2 b' z4).trans z2),z3,z4⟩
  ·rw[show acc.toArray++(cs.getD i []).toArray=(acc++cs.getD i []).toArray by simp]at qK ⊢
   exact qK
  ·refine hR h' T' m' (λc o c1 c2 e=>k' c o c1 c2 (kp c o c1 ((sb.2 c c2).trans e))) ?_ (λz=>absurd z ⋯) λ_=>?_
   ·rw[ec,List.flatten_cons,<- List.append_assoc];exact MP
   ·by_cases z:vs.length=i+1
    ·rw[e1 z];exact hsz
    ·have:=e2 z
     exact Nat.le_trans hsz (Nat.le_trans (Nat.le_of_lt (Heap.lt_size qK)) this)
theorem zV{E:Value->Shared->Prop}{s:Shared}{l b0:Addr}{vs:List Value}{cs:List (List Value)}{n0:Nat}{Q:Value->Shared->Prop}(hh:A.handled=none)(hl:s.heap.IsList l vs.toArray)(Gq:cs.length=vs.length)
  (hv:∀j v,vs[j]?=some v->∃b m,v=.ref b/\IsL s.heap b (cs.getD j []).toArray m) (hb:IsL s.heap b0 #[] n0) (hz:cs.flatten.length<=sizeLine)
  (q:∀h' T' m,(∀b o,s.heap.get? b=some o->h'.get? b=some o)->IsL h' T' cs.flatten.toArray m->(vs.length=0->T'=b0)->(vs.length≠0->s.heap.objs.size<=T')->Q (.ref T') {s with heap:=h'}):
  wpAny (model prog w) A (call (.builtin "sum") [.ref l,.ref b0]) Q E s:=by
 refine call_function_tree F.kind_sum F.plain_sum F.entry_sum (zN _ _) ?_;unfold Builtin.«sum»;simp only[List.length_cons,List.length_nil];rw[if_neg ∅]
 refine aaO (wpAny_of_eq (show Builtin.Builtins.bindParams "sum" ["start"] 0 {pos:=[Value.ref b0]}=pure [some (Value.ref b0)]from rfl) ?_)
 refine aaO (wpAny_pyIter_list hl ?_);have kp:∀b o,s.heap.get? b=some o->(s.heap.push {cls:=.type "list_iterator",data:=.fields #[.ref l,.int 0 0]}).get? b=some o:=λb o e=>aaP _ e;have tb:({s with heap:=s.heap.push {cls:=.type "list_iterator",data:=.fields #[.ref l,.int 0 0]}}:Shared).TypeIs (.ref b0) "list":=⟨_,kp _ _ hb,rfl⟩
 refine aaO (wpAny_pure ?_);simp only[List.forIn_cons,List.forIn_nil];refine aaO (aaO (aaO (wpAny_isInstance (T:="list") (b:=false) tb Rw ?_)));simp only[Bool.false_eq_true,if_false];refine wpAny_pure (aaO (aaO (wpAny_isInstance (T:="list") (b:=false) tb Rx ?_)));simp only[Bool.false_eq_true,if_false];refine wpAny_pure (aaO (aaO (wpAny_isInstance (T:="list") (b:=false) tb Ry ?_)));simp only[Bool.false_eq_true,if_false];refine wpAny_pure (wpAny_pure ?_);refine aaO (wpAny_newObj_type ?_);obtain⟨h1,e1⟩:∃h1,h1=s.heap.push {cls:=.type "list_iterator",data:=.fields #[.ref l,.int 0 0]}:=⟨_,rfl⟩;rw[<- e1]at kp tb ⊢;have hI:h1.get? s.heap.objs.size=some {cls:=.type "list_iterator",data:=.fields #[.ref l,.int 0 0]}:=by rw[e1];exact Heap.get?_push_size _ rfl
 have hsz:h1.objs.size=s.heap.objs.size+1:=by rw[e1];exact Array.size_push ..
 have old:∀ {b:Addr} {o:Obj},s.heap.get? b=some o->b≠h1.objs.size/\b≠s.heap.objs.size:=λ{b o} e=>by
  have h2:b<s.heap.objs.size:=Heap.lt_size e;exact⟨Nat.ne_of_lt (Nat.lt_of_lt_of_le h2 (by rw[hsz];exact Nat.le_succ _)),Nat.ne_of_lt h2⟩
 obtain⟨ol,el,rl⟩:=id hl;have Yu:∀b o,s.heap.get? b=some o->(h1.push {cls:=.type "list",data:=.seq #[Value.ref b0]}).get? b=some o:=λb o e=>aaP _ (kp b o e);refine wpAny_pure ⟨plainId_quiet F.plain_sum_loop _,AZ (I:=s.heap.objs.size) (l:=l) (S:=h1.objs.size) (vs:=vs) (cs:=cs) hh Gq (old el).1 (old el).2 (by rw[hsz];exact Nat.succ_ne_self _) vs.length 0 _ b0 [] n0 0 rfl (Nat.zero_le _) ?_ ⟨ol,Yu _ _ el,rl⟩ (λj v e=>?_) (Yu _ _ hb) (old hb).1 (old hb).2 (Heap.get?_push_size _ rfl) (by rw[List.drop_zero];simpa using hz) λh' T' m k' MP z1 z2=>?_⟩
 ·exact⟨_,aaP _ hI,rfl,rfl⟩
 ·obtain⟨b,m,y1,y2⟩:=hv j v e
  exact⟨b,m,y1,Yu _ _ y2,(old y2).1,(old y2).2⟩
 ·refine q h' T' m (λb o e=>k' b o (old e).1 (old e).2 (Yu b o e)) (by rw[List.drop_zero]at MP;exact MP) (λz=>z1 z) λz=>?_
  refine Nat.le_trans (Nat.le_of_lt ?_) (z2 z);exact Nat.lt_of_lt_of_le (show s.heap.objs.size<h1.objs.size by rw[hsz];exact Nat.lt_succ_self _) (Nat.le_of_lt (Heap.lt_size (Heap.get?_push_size h1 (o:={cls:=.type "list",data:=.seq #[Value.ref b0]}) rfl)))
end
end Vs
namespace Vc
open PySem L2
variable [KF]
variable {G:GE}{k:Nat}{S:Stat}
def Ku(H:Hp)(u:V)(cs:List V):Prop:=∃q,u=.ref q/\Rd H q (.lst cs)
def Xq:List V->Hp->VK->Prop:=λxs H Q=>∃(p b:Addr) (us:List V) (o4:List (List V)),xs=[.ref p,.ref b]/\Rd H p (.lst us)/\Paired (Ku H) us o4/\H b=some (.lst [])/\o4.flatten.length<=sizeLine /\
 (o4=[]->Q (.ref b) H)/\(o4≠[]->∀l,H l=none->Q (.ref l) (upd H l (.lst o4.flatten)))
theorem zr{X:Cx}{pins:List (Addr×Obj)}{σ:St}{H:Hp}{s:Shared}(I:Inv X pins σ H s):∀ {us:List V} {o4:List (List V)} {its:List Value},Paired (Ku H) us o4->Vals us its ->
  ∃cs:List (List Value),cs.length=its.length/\(∀(j:Nat) v,its[j]?=some v->∃b m,v=Value.ref b/\PySem.IsL s.heap b (cs.getD j []).toArray m)/\Vals o4.flatten cs.flatten/\its.length=o4.length
 | _,_,_,.nil,.nil=>⟨[],rfl,λj v e=>by simp at e,.nil,rfl⟩
 | _,_,_,.cons ⟨q,e,hq⟩ ps,.cons r rs=>by
  obtain⟨cs,h1,h2,h3,h4⟩:=zr I ps rs;obtain⟨z,it0,n,rv,eo⟩:=hq.ok I.bU;subst e;cases r;refine⟨it0::cs,by simp [h1],λj v e=>?_,?_,by simp [h4]⟩
  ·cases j with
   | zero=>cases e;exact⟨q,n,rfl,eo⟩
   | succ j=>exact h2 j v e
  ·exact rv.append h3
theorem xa{X:Cx}(hc:X.calm=true):cK X (.builtin "sum") Xq:=by
 intro pins s σ H xs S6 Q I r h;obtain⟨p,b,us,o4,rfl,hp,hl,hb,hz,q0,q1⟩:=h;obtain⟨u,v,rfl,ru,rv⟩:=r.two;cases ru;cases rv;obtain⟨its,ri,pl,_⟩:=I.list (.inl hp);obtain⟨cs,c1,c2,c3,c4⟩:=zr I hl ri;obtain⟨_,ib,nb,rb,eb⟩:=I.bU b _ hb;obtain rfl:=rb.zero;refine Vs.zV (I.ok.hd hc) pl.isList c1 c2 eb (by rw[<- c3.length];exact hz) λh' T' m kp MP z1 z2=>?_
 by_cases e:o4=[]
 ·subst e
  obtain rfl:=z1 c4;exact⟨.ref T',H,I.kept (t':=s.toks) kp,rfl,q0 rfl⟩
 ·have hn:its.length≠0:=λz=>e (List.length_eq_zero_iff.mp (c4.symm.trans z))
  exact⟨.ref T',_,I.laid (t':=s.toks) kp (z2 hn) (show cu X.prog X.w _ h' _ (.lst o4.flatten)from⟨hz,cs.flatten,m,c3,MP⟩),rfl,q1 e _ (I.bU.fresh (z2 hn))⟩
def Nj:D->Bool
 | .lst _=>true
 | _=>false
def Hx:D->List D
 | .lst xs=>xs
 | _=>[]
theorem vT{F H:Hp}(s:av F H):∀ {us:List V} {ds:List D},aD F us ds->ds.all Nj=true->∃o4,Paired (Ku H) us o4/\aD F o4.flatten (ds.map Hx).flatten/\o4.length=ds.length
 | _,_,.nil,_=>⟨[],.nil,.nil,rfl⟩
 | _,_,.cons (d:=d) r rs,h=>by
  rw[List.all_cons,Bool.and_eq_true]at h;obtain⟨o4,h1,h2,h3⟩:=vT s rs h.2;cases r with
  | lst e rr=>exact⟨_::o4,.cons ⟨_,rfl,Rd.mono s e⟩ h1,rr.append h2,by simp [h3]⟩
  | _=>cases h.1
def Fh(to:TV):TX:=λσ Q=>to σ λx aA=>match eW aA x with
 | some (.lst ds)=>ds.all Nj=true/\(ds.map Hx).flatten.length<=sizeLine/\Q (.own (ds.map Hx).flatten) aA
 | _=>False
theorem Qy{o:Expr}{to:TV}{lp p2 pos:Pos}(ho:EO G k S o to)(hm:G.mg "sum"=none)
  (hs:∀env,starEach [o,.List [] p2] env=(false,eval o env)::starEach [.List [] p2] env:=by exactλ_=>Vc.ig rfl)
  (hg:S.sc.lookup ("sum":Str)=some .globalImplicit:=by rfl) (hh:S.kF=false:=by rfl):
  EX G k S (.Call (.Name "sum" lp) [o,.List [] p2] [] pos) (Fh to):=.mk λX Y ok=>by
 refine bo (vt (xa (ok.calm hh)) (d7 ok hg) (by rw[ok.mg];exact hm) (by decide +kernel) (cf (ho X Y ok) (cf (kQ cV) cV rfl) (hs _)) ∅ ∅ (hs _) rfl) λσ H Q q=>?_
 obtain⟨F,ak,Qd,R,q,K⟩:=q;refine⟨F,ak,_,R,q,λv H1 F1 x aA s1 R1 r1 q1=>?_⟩
 split at q1
 ·rename_i ds ed
  obtain⟨a,us,rfl,h,rr⟩:=(R1.eW r1 ed).lst;refine⟨Nat.zero_le _,λb hb=>?_⟩;have R2:RS Y F1 aA σ (upd H1 b (.lst [])):=R1.fw hb;have sm:av H1 (upd H1 b (.lst [])):=aK hb;obtain⟨o4,c1,c2,c3⟩:=vT R2.fr rr q1.1;have g:Goes Y F1 aA σ (λr=>Qd r aA) Q:=λv H' F' r s R' rr qq=>K v H' F' r aA (s1.trans s) R' rr qq;refine⟨a,b,us,o4,rfl,Rd.mono sm h,c1,ay,by rw[c2.length];exact q1.2.1,λe=>?_,λe=>?_⟩
  ·have e2:(ds.map Hx).flatten=[]:=by
    have:ds=[]:=List.length_eq_zero_iff.mp (by rw[<- c3,e];rfl)
    rw[this];rfl
   have q3:=q1.2.2;rw[e2]at q3;exact g.own R1 .nil q3 b hb
  ·exact g.own R2 c2 q1.2.2
 ·exact q1.elim
end Vc
namespace Vs
open PySem
section
variable {prog:Program}{w:World}{A:Around}{E:Value->Shared->Prop}{h:Heap}{g:Array GenState}{d:Drawn}{t:Nat}{os:OsState}{a:Addr}{o:Obj}{its:Array Value}{n:Nat}
theorem qT:typeLookup (.type "list") "keys"=pure none:=by rw[typeLookup_type,builtinLookup_eq_fast];kernel_rfl
theorem lV:typeLookup (.type "list") "__getattr__"=pure none:=by rw[typeLookup_type,builtinLookup_eq_fast];kernel_rfl
theorem nX:isSubtype (.type "AttributeError") (.type "AttributeError")=pure true:=by rw[isSubtype_type];kernel_rfl
theorem xJ{α:Type}{Q:α->Shared->Prop}{v:Value}{x m:Str}(hh:A.handled=none)(hm:m.length<=sizeLine)(hq:∀h' e t',(∀b u,h.get? b=some u->h'.get? b=some u)->(∃oe,h'.get? e=some oe/\oe.cls=.type "AttributeError")->E (.ref e) ⟨h',g,d,t',os⟩):
  wpAny (model prog w) A (raiseAttrError v x m:Sem α) Q E ⟨h,g,d,t,os⟩:=by
 unfold raiseAttrError;refine aaO (wpAny_mkStr (aaO ?_) hm);unfold newExc newTuple;refine aaO (wpAny_newObj_type ?_);refine aaO (m:=firstArgMember _ _) (wpAny_of_eq (a:=Value.none) (by rfl) ?_)
 refine wpAny_newObj_type ?_;refine aaO (wpAny_mkText (aaO ?_));unfold noteAttr;dsimp only;have f1:=nX
 repeat (any_goals (first|assumption|wp_step))
 refine wpAny_raiseNew_none hh (hq _ _ _ (λb u e=>?_) ?_)
 ·have hb:b<h.objs.size:=Heap.lt_size e
  refine(Heap.get?_update_other _ _ ?_).trans (aaP _ (aaP _ e));exact Ne.symm (Nat.ne_of_lt (Nat.lt_of_lt_of_le hb (by simp)))
 ·exact⟨_,Heap.get?_update_self _ (Heap.get?_push_size _ rfl) rfl,rfl⟩
theorem lU{tk:Tok}{Q:Fin->Shared->Prop}(hh:A.handled=none)(hx:h.get? a=some o)(hc:o.cls=.type "list")(hd:o.data=.seq its n)(hn:o.dict=none)(hq:∀h' e t',(∀b u,h.get? b=some u->h'.get? b=some u)->(∃oe,h'.get? e=some oe/\oe.cls=.type "AttributeError")->E (.ref e) ⟨h',g,d,t',os⟩):
  wpAny (model prog w) A (Builtin.«object.__getattribute__» ⟨[.ref a,.str "keys" tk],[]⟩) Q E ⟨h,g,d,t,os⟩:=by
 have hT:(⟨h,g,d,t,os⟩:Shared).TypeIs (.ref a) "list":=⟨_,hx,hc⟩;have f4:=qT
 repeat (any_goals (first|assumption|wp_step))
 rw[hd];dsimp only;unfold instanceDict
 repeat (any_goals (first|assumption|wp_step))
 rw[hc,hn];dsimp only
 repeat (any_goals (first|assumption|wp_step))
 exact xJ hh (by decide +kernel) hq
theorem m8{tk:Tok}{R:Result->Shared->Prop}(hh:A.handled=none)(hx:h.get? a=some o)(hc:o.cls=.type "list")(hd:o.data=.seq its n)(hn:o.dict=none)(hq:∀h' e t',(∀b u,h.get? b=some u->h'.get? b=some u)->(∃oe,h'.get? e=some oe/\oe.cls=.type "AttributeError")->R (.error (.ref e)) ⟨h',g,d,t',os⟩):
  codeAny (model prog w) A (.call (.builtin "list.__getattribute__") ⟨[.ref a,.str "keys" tk],[]⟩) R ⟨h,g,d,t,os⟩:=
 codeAny_call_builtin F.slot_list_getattribute.plain F.entry_list_ga (F.slot_list_getattribute.check _ _ _ _ _ _ _ _ (show(⟨h,g,d,t,os⟩:Shared).TypeIs (.ref a) "list" from⟨_,hx,hc⟩) (F.args_list_getattribute_2 _ _) (lU (A:=A.in1) hh hx hc hd hn hq))
theorem qR{tk:Tok}{Q:Value->Shared->Prop}(hh:A.handled=none)(hx:h.get? a=some o)(hc:o.cls=.type "list")(hd:o.data=.seq its n)(hn:o.dict=none)(hq:∀h' e t',(∀b u,h.get? b=some u->h'.get? b=some u)->(∃oe,h'.get? e=some oe/\oe.cls=.type "AttributeError")->E (.ref e) ⟨h',g,d,t',os⟩):
  wpAny (model prog w) A (getAttrBy (.ref a) (.str "keys" tk) false) Q E ⟨h,g,d,t,os⟩:=by
 have hT:(⟨h,g,d,t,os⟩:Shared).TypeIs (.ref a) "list":=⟨_,hx,hc⟩;have f2:=F.slot_list_getattribute.lookup;have f3:=F.slot_list_getattribute.bind (.ref a)
 repeat (any_goals (first|assumption|wp_step))
 refine m8 hh hx hc hd hn λh' e t' k x=>?_;obtain⟨oe,x1,x2⟩:=x;have MP:(⟨h',g,d,t',os⟩:Shared).TypeIs (.ref e) "AttributeError":=⟨_,x1,x2⟩;have f1:=nX;have f5:=lV;have hE:=hq h' e t' k ⟨oe,x1,x2⟩;dsimp only;unfold getattributeRaised
 repeat (any_goals (first|assumption|wp_step))
theorem m7{Q:Option Value->Shared->Prop}(hh:A.handled=none)(hx:h.get? a=some o)(hc:o.cls=.type "list")(hd:o.data=.seq its n)(hn:o.dict=none)(hq:∀h' t',(∀b u,h.get? b=some u->h'.get? b=some u)->Q none ⟨h',g,d,t',os⟩):
  wpAny (model prog w) A (getAttr? (.ref a) "keys") Q E ⟨h,g,d,t,os⟩:=by
 unfold getAttr? getAttrBy?;refine aaO (wpAny_mkText (aaO (wpAny_attempt ?_)));refine qR hh hx hc hd hn λh' e t' k ⟨oe,x1,x2⟩=>?_;dsimp only;refine aaO (wpAny_isInstance (T:="AttributeError") (b:=true) ⟨_,x1,x2⟩ nX ?_);exact wpAny_pure (hq h' t' k)
end
end Vs
namespace Vs
open PySem
theorem nk:mroOf (.type "dict")=pure [.type "dict",.type "object"]:=by rw[mroOf_type];kernel_rfl
theorem lW:typeLookup (.type "dict") "__new__"=pure (some (.builtin "dict.__new__")):=by rw[typeLookup_type,builtinLookup_eq_fast];kernel_rfl
theorem tH:TypeCalled "dict" "dict.__new__" "dict.__init__":=
 ⟨by decide +kernel,by decide +kernel,⟨_,_,nk⟩,madeBy_type nk lW (by decide +kernel),by decide +kernel,by rw[isSubtype_type];kernel_rfl,F.slot_dict_init⟩
theorem lZ(a:Value):checkTypeCall "dict" ⟨[a],[]⟩=pure ():=by kernel_rfl
theorem nq(a:Value):checkBuiltinCall "dict.__new__" ⟨[.type "dict",a],[]⟩=pure ():=by kernel_rfl
theorem mN:entryFor table "dict.__new__"=some Builtin.«dict.__new__»:=entryFor_of_tree (by kernel_rfl)
theorem gM:plainId "dict.__new__"=true:=by decide +kernel
theorem mO:entryFor table "dict.update.loop"=some Builtin.«dict.update.loop»:=entryFor_of_tree (by kernel_rfl)
theorem fZ:plainId "dict.update.loop"=true:=by decide +kernel
theorem oG:isSubtype (.type "dict") (.type "dict")=pure true:=by rw[isSubtype_type];kernel_rfl
section
variable {prog:Program}{w:World}{A:Around}{E:Value->Shared->Prop}{s:Shared}
theorem oB(a:Value){Q₁:Value->Shared->Prop}
  (h:Q₁ (.ref s.heap.objs.size) {s with heap:=s.heap.push {cls:=.type "dict",data:=.dict #[]}}):
  codeAny (model prog w) A (.call (.builtin "dict.__new__") ⟨[.type "dict",a],[]⟩) (wants Q₁ E) s:=by
 refine codeAny_of_tree ?_;show wpAny _ A.in1 (do checkBuiltinCall "dict.__new__" ⟨[.type "dict",a],[]⟩;again (.builtin "dict.__new__" ⟨[.type "dict",a],[]⟩)) _ _ s
 refine aaO (wpAny_of_eq (nq a) (wpAny_pure ⟨plainId_quiet gM _,codeAny_builtin mN ?_⟩));rw[Around.under_plainId gM _];have Z4:=oG;have hm:=nk;obtain⟨hp,g,d,tk,os⟩:=s
 wp_walk
 exact h
end
section
variable {prog:Program}{w:World}{A:Around}{R:Result->Shared->Prop}{K:Type}[DecidableEq K]{knd:KeyKind prog w K}
theorem z9(hh:A.in1.handled=none){I l D:Addr}{vs:List Value}{more:List (K×Value)}(hm:more.length=vs.length)(n1:l≠D)(n2:l≠I)(n3:D≠I):
  ∀(k i:Nat) (s:Shared) (kvs:List (K×Value)),vs.length-i=k->i<=vs.length->s.heap.IsListIter I l i->s.heap.IsList l vs.toArray ->
  (∀(j:Nat) (v:Value),vs[j]?=some v->∃(b:Addr) (key x:Value) (kk:K),v=Value.ref b/\PyProof.Rows.IsTup s.heap b #[key,x]/\knd.is kk key=true/\more[j]?=some (kk,x)/\b≠D/\b≠I) ->
  s.heap.DictOf knd D kvs->kvs.length+(more.drop i).length<=sizeLine ->
  (∀h' tk,(∀b o,b≠D->b≠I->s.heap.get? b=some o->h'.get? b=some o)->h'.DictOf knd D (merged kvs (more.drop i))->R (.ok (.ret .none)) {s with heap:=h',toks:=tk}) ->
  codeAny (model prog w) A (.builtin "dict.update.loop" ⟨[.ref D,.ref I,rawInt i,.none],[]⟩) R s:=by
 intro k
 induction k with
 | zero =>
  intro i s kvs hk hi hit hl hv hD hz hR;have uL:i=vs.length:=by omega
  subst uL;refine codeAny_builtin mO ?_;rw[Around.under_plainId fZ _];show wpAny _ A.in1 (pyNext (.ref I) >>= _) _ _ s;refine aaO (wpAny_pyNext_list_end hh hit hl (by simp) λh' eb=>?_)
  have k1:∀b o,b≠D->b≠I->s.heap.get? b=some o->h'.get? b=some o:=λb o _ hb e=>eb b o hb e;refine aaO ?_;refine wpAny_of_eq (a:=()) rfl ?_;refine wpAny_pure (hR h' _ k1 ?_);rw[List.drop_of_length_le ⋯]
  obtain⟨o,es,ep,e,r⟩:=hD;exact⟨o,es,ep,eb D o n3 e,r⟩
 | succ k ih =>
  intro i s kvs hk hi hit hl hv hD hz hR;have eX:i<vs.length:=by omega
  have ev:vs[i]?=some vs[i]:=aaQ eX;obtain⟨b,key,x,kk,eb,hb,ZQ,em,b1,b2⟩:=hv i _ ev;have ec:more.drop i=(kk,x)::more.drop (i+1):=by
   rw[List.drop_eq_getElem_cons ⋯]
   rw[aaQ ⋯]at em
   rw[Option.some.inj em]
  refine codeAny_builtin mO ?_;rw[Around.under_plainId fZ _];show wpAny _ A.in1 (pyNext (.ref I) >>= _) _ _ s;refine aaO (wpAny_pyNext_list_item hit hl (x:=vs[i]) (by simpa using ev) λh1 Ha sb=>?_)
  rw[eb];obtain⟨ob,eo,co,no,do_⟩:=id hb;have B1:h1.get? b=some ob:=(sb.2 b b2).trans eo;have D1:h1.DictOf knd D kvs:=by
   obtain⟨o,es,ep,e,r⟩:=hD;exact⟨o,es,ep,(sb.2 D n3).trans e,r⟩
  rw[ec,List.length_cons]at hz;dsimp only;refine aaO (wpAny_holding (aaO (wpAny_tryCatch ?_)));unfold Builtin.Dict.pairItems;refine aaO (wpAny_typeOf (T:="tuple") ⟨_,B1,co⟩ ?_);rw[if_pos ∅]
  refine aaO (wpAny_seqItems B1 do_ (wpAny_pure ?_));show wpAny _ _ (holding [key,x] (dictSet D key x)) _ _ _;refine wpAny_holding (wpAny_dictSet_pairs (hsz:=by omega) ZQ D1 λh2 D2 sb2=>?_)
  refine wpAny_pure ⟨plainId_quiet fZ _,?_⟩;have kp:∀c o,c≠D->c≠I->s.heap.get? c=some o->h2.get? c=some o:=λc o c1 c2 e=>(sb2.2 c c1).trans ((sb.2 c c2).trans e);have hz2:(stored kvs kk x).length<=kvs.length+1:=stored_length_le kvs kk x;refine ih (i+1) _ (stored kvs kk x) ⋯ eX ?_ ?_ (λj v e=>?_) D2 ⋯ λh' tk k' d'=>?_
  ·exact Ha.at λo e=>(sb2.2 I (Ne.symm n3)).trans e
  ·obtain⟨o,e,r⟩:=hl
   exact⟨o,kp l o n1 n2 e,r⟩
  ·obtain⟨b',aag,x',kk',z1,⟨o,z2,z3⟩,z4,z5,z6,z7⟩:=hv j v e
   exact⟨b',aag,x',kk',z1,⟨o,kp b' o z6 z7 z2,z3⟩,z4,z5,z6,z7⟩
  ·refine hR h' tk (λc o c1 c2 e=>k' c o c1 c2 (kp c o c1 c2 e)) ?_
   rw[ec];exact d'
theorem wW{E:Value->Shared->Prop}{s:Shared}{l:Addr}{ol:Obj}{nl:Nat}{vs:List Value}{more:List (K×Value)}{Q:Value->Shared->Prop}(hh:A.handled=none)(el:s.heap.get? l=some ol)(cl:ol.cls=.type "list")(dl:ol.data=.seq vs.toArray nl)(ul:ol.dict=none)
  (hm:more.length=vs.length) (hv:∀(j:Nat) (v:Value),vs[j]?=some v->∃(b:Addr) (key x:Value) (kk:K),v=Value.ref b/\PyProof.Rows.IsTup s.heap b #[key,x]/\knd.is kk key=true/\more[j]?=some (kk,x)) (hz:more.length<=sizeLine)
  (q:∀h' tk,(∀b o,s.heap.get? b=some o->h'.get? b=some o)->h'.DictOf knd s.heap.objs.size (merged [] more)->Q (.ref s.heap.objs.size) {s with heap:=h',toks:=tk}):
  wpAny (model prog w) A (call (.type "dict") [.ref l]) Q E s:=by
 refine callType_codes (Q₁:=λobj bQ=>obj=.ref s.heap.objs.size/\bQ={s with heap:=s.heap.push {cls:=.type "dict",data:=.dict #[]}}) tH (lZ _) F.entry_dict_init
  (oB _ ⟨rfl,rfl⟩) λobj bQ Ai=>?_
 obtain⟨rfl,rfl⟩:=Ai;have hD:(s.heap.push {cls:=.type "dict",data:=.dict #[]}).DictOf knd s.heap.objs.size []:=Heap.DictOf.new _;obtain⟨h1,e1⟩:∃h1,h1=s.heap.push {cls:=.type "dict",data:=.dict #[]}:=⟨_,rfl⟩;rw[<- e1]at hD ⊢;have kp:∀b o,s.heap.get? b=some o->h1.get? b=some o:=λb o e=>by rw[e1];exact aaP _ e
 have hsz:h1.objs.size=s.heap.objs.size+1:=by rw[e1];exact Array.size_push ..
 have hT:(⟨h1,s.gens,s.drawn,s.toks,s.os⟩:Shared).TypeIs (.ref s.heap.objs.size) "dict":=hD.typeIs;refine⟨hT,F.args_dict_init_2 _ _,?_⟩;unfold Builtin.«dict.__init__»;refine aaO ?_;unfold Builtin.Dict.selfAndRest;refine aaO (wpAny_notOrdered_dict hD.typeIs ?_);show wpAny _ _ (pure (s.heap.objs.size,[Value.ref l])) _ _ _;refine wpAny_pure ?_;show wpAny _ _ (Builtin.Dict.updateFrom "dict.__init__" s.heap.objs.size (.ref l) [] .none) _ _ _;unfold Builtin.Dict.updateFrom;refine aaO (wpAny_typeOf (T:="list") ⟨_,kp _ _ el,cl⟩ ?_);rw[if_pos ∅]
 refine aaO (m7 (A:=A.in1.in1) hh (kp _ _ el) cl dl ul λh2 t2 k2=>?_);simp only[Option.isNone_none,if_true];have L2:h2.IsList l vs.toArray:=⟨_,k2 _ _ (kp _ _ el),cl,_,dl⟩;refine aaO (wpAny_rule (aaO (wpAny_pyIter_list L2 ?_)));have Yt:∀b o,s.heap.get? b=some o->h2.get? b=some o:=λb o e=>k2 b o (kp b o e);obtain⟨oD,eD,rD⟩:∃oD,h1.get? s.heap.objs.size=some oD/\True:=by obtain⟨o,_,_,e,_⟩:=hD;exact⟨o,e,trivial⟩
 have yI:s.heap.objs.size<h2.objs.size:=Heap.lt_size (k2 _ _ eD);have hD2:h2.DictOf knd s.heap.objs.size []:=by
  obtain⟨o,es,ep,e,r⟩:=hD;exact⟨o,es,ep,k2 _ _ e,r⟩
 have nI:∀ {b:Addr} {o:Obj},s.heap.get? b=some o->b≠s.heap.objs.size/\b≠h2.objs.size:=λ{b o} e=>⟨Nat.ne_of_lt (Heap.lt_size e),Nat.ne_of_lt (Heap.lt_size (Yt _ _ e))⟩;obtain⟨h3,e3⟩:∃h3,h3=h2.push {cls:=.type "list_iterator",data:=.fields #[.ref l,.int 0 0]}:=⟨_,rfl⟩;have k3:∀b o,h2.get? b=some o->h3.get? b=some o:=λb o e=>by rw[e3];exact aaP _ e
 have hI3:h3.get? h2.objs.size=some {cls:=.type "list_iterator",data:=.fields #[.ref l,.int 0 0]}:=by rw[e3];exact Heap.get?_push_size _ rfl
 refine wpAny_pure ⟨plainId_quiet fZ _,?_⟩;rw[<- e3];refine z9 (A:=A.in1) (knd:=knd) (vs:=vs) (more:=more) hh hm (nI el).1 (nI el).2 (Nat.ne_of_lt yI) vs.length 0 _ [] rfl (Nat.zero_le _) ⟨_,hI3,rfl,rfl⟩ ⟨_,k3 _ _ (Yt _ _ el),cl,_,dl⟩ (λj v e=>?_) ?_ (by simpa using hz) λh' tk k' d'=>?_
 ·obtain⟨b,key,x,kk,z1,⟨o,z2,z3⟩,z4,z5⟩:=hv j v e
  exact⟨b,key,x,kk,z1,⟨o,k3 _ _ (Yt _ _ z2),z3⟩,z4,z5,(nI z2).1,(nI z2).2⟩
 ·obtain⟨o,es,ep,e,r⟩:=hD2
  exact⟨o,es,ep,k3 _ _ e,r⟩
 ·exact⟨rfl,q h' tk (λb o e=>k' b o (nI e).1 (nI e).2 (k3 _ _ (Yt _ _ e))) d'⟩
end
end Vs
namespace Vc
open PySem L2
variable [KF]
def KL(H:Hp)(u:V)(kv:Key×V):Prop:=∃t,u=.ref t/\H t=some (.tup [kV kv.1,kv.2])
def Qt:List V->Hp->VK->Prop:=λxs H Q=>∃(p:Addr) (us:List V) (more:List (Key×V)),xs=[.ref p]/\Rd H p (.lst us)/\Paired (KL H) us more/\more.length<=sizeLine/\∀l,H l=none->Q (.ref l) (upd H l (.dK (eu [] more)))
theorem tP{X:Cx}{pins:List (Addr×Obj)}{σ:St}{H:Hp}{s:Shared}(I:Inv X pins σ H s):∀ {us:List V} {more:List (Key×V)} {its:List Value},Paired (KL H) us more->Vals us its ->
  ∃ms:List (Key×Value),ms.length=its.length/\(∀(j:Nat) (v:Value),its[j]?=some v->∃(b:Addr) (key x:Value) (kk:Key),v=Value.ref b/\PyProof.Rows.IsTup s.heap b #[key,x]/\(bR X.prog X.w).is kk key=true/\ms[j]?=some (kk,x))/\KV more ms
 | _,_,_,.nil,.nil=>⟨[],rfl,λj v e=>by simp at e,.nil⟩
 | _,(kk,y)::_,_,.cons ⟨t,e,ht⟩ ps,.cons r rs=>by
  obtain⟨ms,h1,h2,h3⟩:=tP I ps rs;obtain⟨z,it0,rv,eo⟩:=I.bU t _ ht;obtain⟨u1,u2,rfl,r1,r2⟩:=rv.two;subst e;cases r;refine⟨(kk,u2)::ms,by simp [h1],λj v e=>?_,.cons ⟨rfl,r2⟩ h3⟩
  cases j with
  | zero=>cases e;exact⟨t,u1,u2,kk,rfl,eo,pB r1,rfl⟩
  | succ j=>exact h2 j v e
theorem wX{X:Cx}(hc:X.calm=true):cK X (.type "dict") Qt:=by
 intro pins s σ H xs S6 Q I r h;obtain⟨p,us,more,rfl,hp,hl,hz,q⟩:=h;obtain⟨u,rfl,ru⟩:=vals1 r;cases ru;obtain⟨its,ri,⟨o,n,e,cl,ud,dl⟩,_⟩:=I.list (.inl hp);obtain⟨ms,c1,c2,c3⟩:=tP I hl ri;refine Vs.wW (knd:=bR X.prog X.w) (I.ok.hd hc) e cl dl ud c1 c2 (by rw[<- c3.length];exact hz) λh' tk kp dd=>?_
 have hz2:(eu [] more).length<=sizeLine:=Nat.le_trans (d3 more []) (by simpa using hz)
 have hs:(s.heap.objs.size==sysModules)=false:=by
  have:=I.big;exact beq_eq_false_iff_ne.mpr (Nat.ne_of_gt this)
 exact⟨.ref s.heap.objs.size,_,I.laid (t':=tk) kp (Nat.le_refl _) (show cu X.prog X.w _ h' _ (.dK (eu [] more))from⟨hz2,hs,_,KV.merge c3 .nil,dd⟩),rfl,q _ I.fresh⟩
def Xr:V->List V->Hp->VK->Prop:=λx vs H Q=>∃(a b:Addr) (ks js:List (Key×V)),x=.ref a/\vs=[.ref b]/\a≠b/\H a=some (.dK ks)/\H b=some (.dK js)/\ks.length+js.length<=sizeLine/\Q .bD (upd H a (.dK (eu ks js)))
theorem Ob{X:Cx}:Tp X "dict.update" Xr:=by
 intro pins s σ H x vs v us Q I rx rv h;obtain⟨a,b,ks,js,rfl,rfl,cU,ea,eb,hz,q⟩:=h;cases rx;obtain⟨u,rfl,ru⟩:=rv.one;cases ru;obtain⟨z1,d1,w1,r1,dd1⟩:=o6 I.bU ea;obtain⟨z2,d2,w2,r2,z0⟩:=o6 I.bU eb;have hl:(eu ks js).length<=sizeLine:=Nat.le_trans (d3 js ks) hz;refine call_meetsIn F.slot_dict_update dd1.typeIs F.entry_dict_update (F.args_dict_update_2 _ _) (meets_dict_update (bR X.prog X.w) a b cU d2) ⟨w1,w2,dd1,z0,by rw[<- r1.length,<- r2.length];exact hz,λh' Gj _ hs=>?_⟩
 have he:∃q,h'.get? a=some q:=let ⟨q,_,_,hq,_⟩:=Gj;⟨q,hq⟩;exact⟨.bD,_,mj I (by rw[ea];exact True.intro) hs he (xg hl d1 (KV.merge r2 r1) Gj),rfl,q⟩
end Vc
namespace Vc
open PySem L2
variable [KF]
variable {G:GE}{k:Nat}{S:Stat}
def bS(kvs more:List (Int×D)):List (Int×D):=more.foldl (λacc p=>gA acc p.1 p.2) kvs
def Ni:D->Bool
 | .tup [.int _,_]=>true
 | _=>false
def xo:D->Int×D
 | .tup [.int i,d]=>(i,d)
 | _=>(0,.bD)
theorem b7.merge{F:Hp}:∀ {js:List (Key×V)} {more:List (Int×D)} {ks:List (Key×V)} {kvs:List (Int×D)},b7 F js more->b7 F ks kvs->b7 F (eu ks js) (bS kvs more)
 | _,_,_,_,.nil,h=>h
 | _,_,_,_,.cons (i:=i) (v:=v) (d:=d) (ks:=js) (kvs:=more) r rs,h=>by
  have:=b7.merge rs (b7.put i h r);exact this
theorem DT{F H:Hp}(s:av F H):∀ {us:List V} {ds:List D},aD F us ds->ds.all Ni=true->∃more:List (Key×V),Paired (KL H) us more/\b7 F more (ds.map xo)/\more.length=ds.length
 | _,_,.nil,_=>⟨[],.nil,.nil,rfl⟩
 | _,_,.cons (d:=d) r rs,h=>by
  rw[List.all_cons,Bool.and_eq_true]at h;obtain⟨more,h1,h2,h3⟩:=DT s rs h.2;have h0:=h.1;unfold Ni at h0
  split at h0
  ·rename_i i d
   cases r with
   | tup e rr =>
    cases rr with
    | cons ra rr =>
    cases rr with
    | cons rb rr =>
    cases rr;cases ra;exact⟨(.inl i,_)::more,.cons ⟨_,rfl,s _ _ e⟩ h1,.cons rb h2,by simp [h3]⟩
  ·cases h0
def IQ(i:Nat)(tl:TV):cS:=λDe σ=>(∃a kvs,σ[i]?=some (some (.obj (Gk a kvs))))/\tl σ λy aA=>match eW aA y with
 | some (.lst ds)=>∃a kvs,aA[i]?=some (some (.obj (Gk a kvs)))/\ds.all Ni=true/\kvs.length+ds.length<=sizeLine/\De.nx (aA.set i (some (.obj (Gk a (bS kvs (bS [] (ds.map xo)))))))
 | _=>False
theorem QG(i:Nat){x:Str}{le:Expr}{tl:TV}{np dp ap Sv Lj pos:Pos}(hl:EO G k S le tl)(hm:G.mg "dict"=none)(hx:S.N[i]?=some x:=by rfl)
  (vx:S.sc.lookup x=some .local\/S.sc.lookup x=some .cell\/S.sc.lookup x=some .free:=by first|exact Or.inl rfl|exact Or.inr (Or.inl rfl)|exact Or.inr (Or.inr rfl))
  (dx:(x==("__debug__":Str))=false:=by decide) (cx:(x==("__classdict__":Str))=false:=by decide)
  (hs:∀env,starEach [le] env=[(false,eval le env)]:=by intro _;rfl) (pj:(ap.endLine==Lj.line)=true:=by rfl) (hg:S.sc.lookup ("dict":Str)=some .globalImplicit:=by rfl) (hh:S.kF=false:=by rfl):
  ES G k S (.Expr (.Call (.Attribute (.Name x np) "update" ap) [.Call (.Name "dict" dp) [le] [] Sv] [] Lj) pos) (IQ i tl):=.mk λX Y ok=>by
 have px:PE X (.Name x np) (xV i):=fY (by rw[ok.N];exact hx) (by unfold BE;rw[ok.sc];exact vx) dx cx
 have pd:=fL (pos:=Sv) (p:=dp) (wX (ok.calm hh)) (d7 ok hg) (by rw[ok.mg];exact hm) (by decide +kernel) (cf (hl X Y ok) cV (hs _)) ∅ ∅ (hs _) (by rfl)
 have p2:=vq (apos:=ap) (cpos:=Lj) F.plainAttrs_dict F.slot_dict_update F.type_dict_update Ob px (cf pd cV rfl:PA X [_] _) rfl rfl pj rfl rfl;refine dE (rm p2 rfl) λDn σ H q=>?_;obtain⟨F,ak,De,R,⟨⟨a0,aaH,e0⟩,q⟩,K⟩:=q;obtain⟨a,w1,⟨rfl,ks0,w2,w3⟩,w4⟩:=R.ob.obj i _ e0;refine⟨.ref a,w1,.inr (.inr (.inl ⟨rfl,.inl ⟨_,w2⟩⟩)),?_⟩;refine⟨F,ak,_,R,q,λv3 H3 F3 y gk s3 R3 r3 q3=>?_⟩
 split at q3
 ·rename_i ds ed
  obtain⟨a1,kvs,e,hk,hz,q3⟩:=q3;obtain⟨p,us,rfl,h,rr⟩:=(R3.eW r3 ed).lst;obtain⟨more,c1,c2,c3⟩:=DT R3.fr rr hk;obtain⟨b,y1,⟨rfl,ks,y2,y3⟩,y4⟩:=R3.ob.obj i _ e;rw[w1]at y1;cases y1;refine⟨p,us,more,rfl,h,c1,by rw[c3];omega,λl hl=>?_⟩
  have hal:a≠l:=λz=>by rw[z,hl]at y2;cases y2
  have R4:RS Y F3 gk σ (upd H3 l (.dK (eu [] more))):=R3.fw hl;have lm:(eu [] more).length<=ds.length:=by
   have:=d3 more [];rw[c3]at this;simpa using this
  refine⟨a,l,ks,eu [] more,rfl,rfl,hal,by rw[aq hal];exact y2,ay,by rw[y3.length];omega,?_⟩
  exact K.nx σ _ F3 _ s3 (R4.vn (o':=Gk a (bS kvs (bS [] (ds.map xo)))) e w1 (List.mem_singleton.mpr rfl) (λ_ z=>z) ⟨rfl,_,ay,b7.merge (b7.merge c2 .nil) y3⟩) q3
 ·exact q3.elim
end Vc
namespace Vs
open PySem PyProof.Rows PySem.W
section
variable {prog:Program}{w:World}{A:Around}{E:Value->Shared->Prop}{s:Shared}
def wJ(h:Heap)(v:Value)(ns:List Int):Prop:=∃a xs n,v=.ref a/\h.get? a=some {cls:=.type "list",data:=.seq xs n}/\IntsAre xs.toList ns
theorem kL{β:Type}{f:Value->Sem β}{c:β}:∀ {vs:List Value} {Q:List β->Shared->Prop},(∀v∈vs,∀Q:β->Shared->Prop,Q c s->wpAny (model prog w) A (f v) Q E s)->Q (vs.map λ_=>c) s->wpAny (model prog w) A (vs.mapM f) Q E s
 | [],_,_,q=>by rw[List.mapM_nil];exact wpAny_pure q
 | v::vs,_,h,q=>by
  rw[List.mapM_cons];exact aaO (h v (.head _) _ (aaO (kL (λu hu=>h u (.tail _ hu)) (wpAny_pure q))))
theorem DR{vs:List Value}{Q:SortKind->Shared->Prop}(hl:2<=vs.length)(h:∀v∈vs,∃ns,wJ s.heap v ns)(q:Q oneType' s):wpAny (model prog w) A (keyKind' vs.toArray) Q E s:=by
 match vs,hl,h with
 | IW::IX::r,_,h =>
  have ty:∀v∈IW::IX::r,s.TypeIs v "list":=λv hv=>by
   obtain⟨ns,a,xs,n,rfl,ho,_⟩:=h v hv;exact⟨_,ho,rfl⟩
  rw[keyKind'_eq,List.mapM_toArray];refine aaO (wpAny_map (kL (c:=none) (λv hv Q q=>?_) ?_))
  ·show wpAny _ _ (typeOf v >>= _) _ _ _
   refine aaO (wpAny_typeOf (ty v hv) ?_);exact wpAny_pure q
  ·rw[if_neg (by simp),if_neg (by simp),oneTypeOnly'_eq,List.mapM_toArray]
   refine aaO (aaO (wpAny_map (kL (c:=Value.type "list") (λv hv Q q=>wpAny_typeOf (ty v hv) q) ?_)));have h0:(List.map (λ_=>Value.type "list") (IW::IX::r)).toArray[0]?=some (Value.type "list"):=by simp
   have fH:((List.map (λ_=>Value.type "list") (IW::IX::r)).toArray.all λx=>x==Value.type "list")=true:=by
    simp only[List.all_toArray,List.all_map,List.all_eq_true];intro _ _;rfl
   rw[h0];simp only[fH,if_true];exact wpAny_pure (wpAny_pure q)
theorem Ay{x y:Value}{ns ms:List Int}{Q:Bool->Shared->Prop}(hu:A.units<cLine)(hx:wJ s.heap x ns)(hy:wJ s.heap y ms)(h:Q (HT.lexLt ns ms) s):wpAny (model prog w) A (oneLt' true x y) Q E s:=by
 obtain⟨a,xs,n,rfl,ha,ia⟩:=hx;obtain⟨b,ys,m,rfl,hb,ib⟩:=hy;rw[oneLt'_eq];simp only[if_true];refine aaO (wpAny_cRoomFor hu ?_);have hT:s.TypeIs (.ref a) "list":=⟨_,ha,rfl⟩;refine aaO (wpAny_callSpecialIfBound?_slot hT PySem.F.slot_list_lt (call_meets PySem.F.slot_list_lt hT PySem.F.entry_list_lt (PySem.F.args_list_lt_2 _ _) (HT.qS a b xs ys n m none none #[] #[] ns ms ia ib) ⟨ha,hb,?_⟩));exact wpAny_truthy_bool h
theorem Hz(hu:A.units<cLine){l:List Keyed}{d:Keyed->List Int}(h:∀x∈l,wJ s.heap x.1 (d x)):gy (model prog w) A E s (rk d l) oneType' (λx=>x∈l):=λx y st Q hx hy hk q=>by
 rw[pV hx]at q;rw[lt'_eq];refine wpS_bind (wpS_get ?_);rw[hk];refine wpS_bind (wpS_lift (wpAny_attempt ?_));rw[keyLt'_oneType];exact Ay hu (h x hx) (h y hy) ⟨rfl,wpS_pure q⟩
end
end Vs
namespace Vc
open PySem L2
variable [KF]
variable {G:GE}{k:Nat}{S:Stat}
def y0:List V->Hp->VK->Prop:=λxs H Q=>∃(p:Addr) (us:List V) (dd:V->List Int),xs=[.ref p]/\Rd H p (.lst us)/\(∀u∈us,∃a,u=.ref a/\Rd H a (.lst ((dd u).map V.int))) /\
  ∀(om:List V),om.Perm us->om.Pairwise (λx y=>HT.lexLt (dd y) (dd x)=false)->∀l,H l=none->Q (.ref l) (upd H l (.lst om))
theorem pI{h g:Heap}{v:Value}{ns:List Int}(i:Vs.wJ h v ns)(kg:∀b o,h.get? b=some o->g.get? b=some o):Vs.wJ g v ns:=by
 obtain⟨a,xs,n,e,ho,r⟩:=i;exact⟨a,xs,n,e,kg _ _ ho,r⟩
theorem tF{X:Cx}(M5:X.A.units+100<cLine):cK X (.builtin "sorted") y0:=by
 intro pins s σ H xs S6 Q I r h;obtain⟨p,us,dd,rfl,hq,hu,q⟩:=h;obtain⟨u,rfl,rx⟩:=vals1 r;cases rx;obtain⟨its,rv,pl,hz⟩:=I.list (.inl hq);have hlen:=rv.length;have UU:us=its.map toV:=wc rv λu h=>by obtain⟨a,e,_⟩:=hu u h;exact⟨a,e⟩
 have uP:∀v∈its,∃a,v=.ref a:=λv hv=>by
  obtain⟨i,hi,e⟩:=List.mem_iff_getElem.mp hv;obtain⟨u,VL,ru⟩:=rv.get (i:=i) (x:=us[i]'⋯) (aaQ _)
  rw[aaQ hi]at VL;cases VL;obtain⟨a,e2,_⟩:=hu (us[i]'⋯) (List.getElem_mem _)
  rw[e2]at ru;exact⟨a,by rw[<- e];exact ru⟩
 have tup:∀v∈its,Vs.wJ s.heap v (dd (toV v)):=λv hv=>by
  obtain⟨a,rfl⟩:=uP v hv;have hm:toV (.ref a)∈us:=by rw[UU];exact List.mem_map.mpr ⟨_,hv,rfl⟩
  obtain⟨b,e,hT⟩:=hu _ hm;cases e;obtain⟨_,ts,n,r1,ho⟩:=hT.ok I.bU;exact⟨a,ts.toArray,n,rfl,ho,intsAre_of r1⟩
 have mem:∀x:PyProof.Rows.Keyed,x∈(PyProof.Rows.pairsOf its).toList->x.1∈its/\x.1=x.2:=λx hx=>by
  rw[PyProof.Rows.pairsOf_toList,d0]at hx;obtain⟨v,hv,rfl⟩:=List.mem_map.mp hx;exact⟨hv,rfl⟩
 refine Vs.vP (kd:=PyProof.Rows.oneType') (ρ:=Vs.rk (λx=>dd (toV x.1)) (PyProof.Rows.pairsOf its).toList) (P:=λx=>x∈(PyProof.Rows.pairsOf its).toList) pl.isList ⋯ (λ_ h=>h) (λh2 A' hA E' g kg=>⟨λQ hQ=>?_,?_⟩) λxs g c hp hs kg hg=>?_
 ·exact Vs.DR (s:={s with heap:=g}) h2 (λv hv=>⟨_,pI (tup v hv) kg⟩) hQ
 ·exact Vs.Hz (s:={s with heap:=g}) ⋯ λx hx=>pI (tup x.1 (mem x hx).1) kg
 ·have fC:xs.toList.Perm (PyProof.Rows.pairsOf its).toList:=Array.perm_iff_toList_perm.mp hp
  have hsz:xs.size=its.length:=by have:=hp.size_eq;rw[PyProof.Rows.pairsOf_size]at this;exact this
  have ji:∀x∈xs.toList,x.1∈its/\x.1=x.2:=λx hx=>mem x (fC.mem_iff.mp hx);have perm:(xs.toList.map λx=>toV x.2).Perm us:=by
   rw[UU];refine(fC.map λx=>toV x.2).trans ?_;rw[PyProof.Rows.pairsOf_toList,d0,List.map_map];exact List.Perm.refl _
  have eq2:xs.toList.map (λx=>toV x.2)=(xs.map (·.2)).toList.map toV:=by
   rw[Array.toList_map,List.map_map];rfl
  refine⟨.ref (s.heap.objs.size+1),_,I.laid (t':=s.toks) (o:=.lst (xs.toList.map λx=>toV x.2)) kg (Nat.le_succ _) ⟨?_,(xs.map (·.2)).toList,c,?_,hg⟩,rfl,q _ perm ?_ _ (I.bU.fresh (Nat.le_succ _))⟩
  ·rw[perm.length_eq];exact hz
  ·rw[eq2]
   refine zG λv hv=>?_;rw[Array.toList_map]at hv;obtain⟨x,hx,rfl⟩:=List.mem_map.mp hv;have:=ji x hx;exact uP _ (this.2 ▸ this.1)
  ·rw[List.pairwise_map]
   refine List.pairwise_iff_getElem.mpr λi j hi hj ku=>?_;have sS:i<xs.size:=by simpa using hi
   have Bb:j<xs.size:=by simpa using hj
   have h1:=hs i j (Nat.zero_le _) (Nat.le_of_lt ku) ⋯
   rw[Vs.dq (Array.getElem?_eq_getElem sS),Vs.dq (Array.getElem?_eq_getElem Bb)]at h1;have e1:xs.toList[i]=xs[i]:=rfl;have e2:xs.toList[j]=xs[j]:=rfl;rw[e1,e2];have m1:=ji xs[i] (by simp)
   have m2:=ji xs[j] (by simp)
   have:=Vs.pV (d:=λx=>dd (toV x.1)) (l:=(PyProof.Rows.pairsOf its).toList) (x:=xs[j]) (y:=xs[i]) (fC.mem_iff.mp (by simp))
   rw[decide_eq_false ⋯]at this
   rw[<- m1.2,<- m2.2];exact this.symm
def DK:D->Bool
 | .lst xs=>xs.all isInt
 | _=>false
def Bc(d:D):List Int:=(Hx d).map fJ
def SR(F:Hp):V->List Int
 | .ref a=>match F a with
  | some (.lst vs)=>vs.map λv=>match v with|.int i=>i|_=>0
  | some (.yA _ (.lst vs))=>vs.map λv=>match v with|.int i=>i|_=>0
  | _=>[]
 | _=>[]
theorem qM{F:Hp}{v:V}{d:D}(r:Rep F v d)(h:DK d=true):SR F v=Bc d/\∃a,v=.ref a/\Rd F a (.lst ((Bc d).map V.int)):=by
 cases r with
 | lst hf rl =>
  rename_i a vs ds;have e:vs=(ds.map fJ).map V.int:=kT rl h;have m:∀l:List Int,((l.map V.int).map λv=>match v with|.int i=>i|_=>0)=l:=λl=>by
   rw[List.map_map];exact(List.map_congr_left (λx _=>rfl)).trans (List.map_id _)
  refine⟨?_,a,rfl,e ▸ hf⟩;rcases hf with hf|⟨o,hf⟩
  ·unfold SR
   dsimp only;rw[hf];dsimp only;rw[e];exact m _
  ·unfold SR
   dsimp only;rw[hf];dsimp only;rw[e];exact m _
 | _=>cases h
def rX:List D->(EV->Prop)->Prop
 | [.lst xs],Q=>xs.all DK=true/\∀ys:List D,ys.Perm xs->ys.Pairwise (λa b=>HT.lexLt (Bc b) (Bc a)=false)->Q (.own ys)
 | _,_=>False
def Hk(ns:List Int):D:=.lst (ns.map D.int)
theorem qN{d:D}(h:DK d=true):Hk (Bc d)=d:=by
 cases d with
 | lst xs =>
  show D.lst ((xs.map fJ).map D.int)=_;rw[ints_map h]
 | _=>cases h
theorem vI{F:Hp}:∀ {us:List V} {xs:List D},aD F us xs->xs.all DK=true->us.map (λv=>Hk (SR F v))=xs
 | _,_,.nil,_=>rfl
 | _,_,.cons rd rs,h=>by
  rw[List.all_cons,Bool.and_eq_true]at h;rw[List.map_cons,(qM rd h.1).1,qN h.1,vI rs h.2]
theorem C7:zK G k S (.builtin "sorted") rX:=⟨λ_=>y0,λ_ _ ok=>tF (by have:=ok.un;omega),λY F H ak σ vs ds Qd Q R r q g=>by
 unfold rX at q
 split at q
 ·rename_i xs
  obtain⟨v,rfl,rv⟩:=r.one;obtain⟨p,us,rfl,h1,h2⟩:=rv.lst;have all:=List.all_eq_true.mp q.1;refine⟨p,us,SR F,rfl,h1,λu hu=>?_,λom hp hs=>?_⟩
  ·obtain⟨d,hd,rd⟩:=h2.mem u hu
   obtain⟨e1,a,rfl,e2⟩:=qM rd (all d hd);exact⟨a,rfl,by rw[e1];exact Rd.mono R.fr e2⟩
  ·have rep:∀v∈om,Rep F v (Hk (SR F v)):=λv hv=>by
    obtain⟨d,hd,rd⟩:=h2.mem v (hp.mem_iff.mp hv);rw[(qM rd (all d hd)).1,qN (all d hd)];exact rd
   have ex:=vI h2 q.1;have key:∀ns:List Int,Bc (Hk ns)=ns:=λns=>by
    show(ns.map D.int).map fJ=ns;rw[List.map_map];exact(List.map_congr_left (λx _=>rfl)).trans (List.map_id _)
   have rl:=rG rep;refine g.own R rl (q.2 _ (by rw[<- ex];exact hp.map _) ?_)
   rw[List.pairwise_map];refine hs.imp λ{x y} h=>?_;rw[key,key];exact h
 ·exact q.elim⟩
end Vc
namespace Vc
open PySem L2
variable [KF]
section
variable {G:GE}{k:Nat}{S:Stat}
variable {elt target iter:Expr}{ifs:List Expr}{scope:Scope}{pos:Pos}{N':List Str}{caps:List (Option Nat)}{ti:fc}{g:lM}{tc:TB}{te:TD}{j m j2 n:Nat}
theorem AW(i j m j2 n:Nat){y:Str}{py gB:Pos}(hi:EI G k S target iter ti)(b:iG S scope N' caps)(hg:EG G k (iV S scope N' m n) target g)(ht:GD G k (iV S scope N' m n) ifs tc)(he:ED G k (iV S scope N' m n) elt te)
  (Ad:caps[m]?=some (some j):=by rfl) (yC:caps[n]?=some (some j2):=by rfl) (Gu:m≠n:=by decide) (SF:j≠j2:=by decide) (hy:S.N[i]?=some y:=by rfl) (hx:S.sc.lookup y=some .local\/(S.sc.lookup y=some .cell/\S.zP=false):=by first|exact Or.inl rfl|exact Or.inr ⟨rfl,rfl⟩) (hn:i∉S.ios:=by first|decide|exact List.not_mem_nil | (dsimp only;decide)) (hl:(py.line==pos.line)=true:=by rfl) (J4:(scope.names.any λ(n,k)=>n==y&&(k==.local||k==.cell))=false:=by decide +kernel)
  (hs:∀env x,foldedSetIterable iter env x=pure x:=by intro _ _;rfl) (hh:S.kF=false:=by rfl):ES G k S (.Assign [.Name y py] (.ListComp elt [⟨target,iter,ifs,0⟩] scope pos) gB) (ei S.ios i (gT S.ios caps j m j2 n ti g tc te)):=.mk λX Y ok=>by
 have sw:swapsWith (.ListComp elt [⟨target,iter,ifs,0⟩] scope pos) (some (.Name y py)) gB.line X.env=pure (S.sc.lookup y==some .local):=by
  have e:swapsWith (.ListComp elt [⟨target,iter,ifs,0⟩] scope pos) (some (.Name y py)) gB.line X.env=pure (X.env.blockKind==.function&&X.env.kindOf y==some .local&&py.line==pos.line&&!(scope.names.any λ(n,k)=>n==y&&(k==.local||k==.cell))):=rfl
  have kb:X.env.blockKind=.function:=by unfold Env.blockKind;rw[ok.kind];rfl
  have kd:X.env.kindOf y=S.sc.lookup y:=by
   show X.env.scope.names.lookup y=_;rw[ok.sc]
  rw[e,kb,kd,hl,J4];simp
 have fin:∀Dn σ H,lS Y (ei S.ios i (gT S.ios caps j m j2 n ti g tc te)) Dn σ H->Fe (lb (lI Y ti) caps (N0 m n g) (NY m n tc) (NZ m n te)) (mV i) Dn σ H:=λDn σ H q=>by
  obtain⟨F,ak,De,R,q,K⟩:=q;refine oC ok.ios Ad yC Gu SF ⟨F,ak,_,R,q,λv H1 F1 y aA s1 R1 r1 q1=>?_⟩;obtain⟨F2,bh,s2,R2,q2⟩:=k8 R1 r1 hn ok.ios q1;exact K.nx _ H1 F2 bh (s1.trans s2) R2 q2
 rcases hx with hx|hx
 ·refine dE (yY (i:=i) (ok.calm hh) (hi X Y ok) (b.sc ok) (mJ hh ok b hg ht he) (hs _) (by rw[ok.N];exact ok.nd) (by rw[ok.N];exact hy) (by rw[ok.sc];exact hx) (by rw[sw,hx];rfl)) fin
 ·refine dE (L2.xH (i:=i) (by rw[ok.N];exact ok.nd) (by rw[ok.N];exact hy) (nc ok (.inr hx)) (mv (ok.calm hh) (hi X Y ok) (b.sc ok) (mJ hh ok b hg ht he) (hs _)) (by rw[sw,hx.1];rfl) (mS ok (.inr hx))) fin
end
end Vc
set_option maxHeartbeats 0
namespace YQ
open PySem L2 Vc
section
def top(i:Nat):Stmt:=PySem.Challenge.pw_closepoints_k30_whole_parts_and_trees.main.body.getD i (.Pass ⟨0,0,0,0⟩)
variable [KF]
structure Gl(G:GE):Prop where
 z_abs:G.mg "abs"=none
 z_dict:G.mg "dict"=none
 z_enumerate:G.mg "enumerate"=none
 z_int:G.mg "int"=none
 z_len:G.mg "len"=none
 z_list:G.mg "list"=none
 z_max:G.mg "max"=none
 z_min:G.mg "min"=none
 z_range:G.mg "range"=none
 z_sorted:G.mg "sorted"=none
 z_sum:G.mg "sum"=none
 z_tuple:G.mg "tuple"=none
 z_zip:G.mg "zip"=none
 iC:GB G "MOST_POINTS_APART" (.int 14)
 zQ:GB G "SQUARES" (.str "squares")
 oV:GB G "STREETS" (.str "streets")
variable {G:GE}{k:Nat}
abbrev jS:Stmt:=top 11
abbrev Br:List Str:=["count"]
local macro_rules | `(tactic| walk_at "5") => `(tactic| exact ⟨rfl,rfl,rfl,by decide +kernel,rfl,by decide +kernel,by decide +kernel⟩)
theorem QP:aR Br ["count"] (ai jS):=by walk_at "5"
def Fu:cS:=(cT (xU (a8 HB (ag 0) (bJ (.int 1))) (a8 Sw (ag 0) (bJ (.int 3)))) sL jf)
theorem UG(E:Gl G):fv G k ⟨Br,(ai jS).names,[],false,false,false,λ_ _=>False⟩ (aw jS) (Fu):=(aM (dF (IC (EL (aW BK (af 0) aH) (vD (aW GQ (af 0) aH)))) (aM gd) cg))
abbrev rK:Stmt:=top 12
abbrev Kw:List Str:=["point","count"]
theorem Xy:aR Kw ["point","count"] (ai rK):=by walk_at "5"
def RM:cS:=(cT (a8 neT (aZ (dY cN (bj (ag 0) dc))) (ag 1)) sL jf)
theorem Y7(E:Gl G):fv G k ⟨Kw,(ai rK).names,[],false,false,false,λ_ _=>False⟩ (aw rK) (RM):=(aM (dF (aW fS (bf (cm f_len E.z_len (aG (af 0) aX) (by decide +kernel))) (af 1)) (aM gd) cg))
abbrev jM:Stmt:=top 13
abbrev Bk:List Str:=["points","point"]
theorem QJ:aR Bk ["points"] (ai jM):=by walk_at "5"
def Fm(sx:bN)(zk:bN):cS:=(cZ (bZ (ao [] (ag 0))) (dC 1) (b8 (oj (eh sx (aS (ao [] (aZ (dY cN (bj (ag 1) dc)))) tN))) (oj (eh zk (aS (ao [] (ag 1)) (aS (ao [] (aZ (dY cN (bj (je (ag 0) (bJ (.int 0))) dc)))) tN))))))
theorem Uz(E:Gl G){sx:bN}(Dq:cR G k "need_count" sx){zk:bN}(MQ:cR G k "need_as_many_numbers" zk):fv G k ⟨Bk,(ai jM).names,[],false,false,false,λ_ _=>False⟩ (aw jM) (Fm sx zk):=(aM (gQ (di (aJ (af 0))) (aP 1 (hn:=by first|decide|exact of_decide_eq_true rfl)) (ax (cE (aO Dq (ah (aJ (bf (cm f_len E.z_len (aG (af 1) aX) (by decide +kernel)))) aB))) (aM (cE (aO MQ (ah (aJ (af 1)) (ah (aJ (bf (cm f_len E.z_len (aG (dX (af 0) aH) aX) (by decide +kernel)))) aB))))))))
abbrev jX:Stmt:=top 14
abbrev Bv:List Str:=["way"]
theorem QU:aR Bv ["way"] (ai jX):=by walk_at "5"
def Fz:cS:=(cT (nY (a8 neT (ag 0) (bJ (.str "streets"))) (a8 neT (ag 0) (bJ (.str "squares")))) sL jf)
theorem UL(E:Gl G):fv G k ⟨Bv,(ai jX).names,[],false,false,false,λ_ _=>False⟩ (aw jX) (Fz):=(aM (dF (IC (vB (aW fS (af 0) (y8 E.oV)) (rB (aW fS (af 0) (y8 E.zQ))))) (aM gd) cg))
abbrev rM:Stmt:=top 15
abbrev Ky:List Str:=["points","way"]
theorem XA:aR Ky ["points","way"] (ai rM):=by walk_at "5"
def RO(so:bN)(sA:bN):cS:=(b8 (oj (eh so (aS (ao [] (ag 0)) tN))) (oj (eh sA (aS (ao [] (ag 1)) tN))))
theorem Y9(E:Gl G){so:bN}(Dk:cR G k "need_points" so){sA:bN}(Du:cR G k "need_way" sA):fv G k ⟨Ky,(ai rM).names,[],false,false,false,λ_ _=>False⟩ (aw rM) (RO so sA):=(ax (cE (aO Dk (ah (aJ (af 0)) aB))) (aM (cE (aO Du (ah (aJ (af 1)) aB)))))
abbrev jT:Stmt:=top 16
abbrev Bs:List Str:=["points","place"]
theorem QQ:aR Bs ["points","place"] (ai jT):=by walk_at "5"
def Fv:cS:=(cT (xU (a8 HB (ag 1) (bJ (.int 0))) (a8 Ve (ag 1) (aZ (dY cN (bj (ag 0) dc))))) sL jf)
theorem UH(E:Gl G):fv G k ⟨Bs,(ai jT).names,[],false,false,false,λ_ _=>False⟩ (aw jT) (Fv):=(aM (dF (IC (EL (aW BK (af 1) aH) (vD (aW Lg (af 1) (bf (cm f_len E.z_len (aG (af 0) aX) (by decide +kernel))))))) (aM gd) cg))
abbrev jR:Stmt:=top 17
abbrev Bq:List Str:=["bound"]
theorem QO:aR Bq ["bound"] (ai jR):=by walk_at "5"
def Ft:cS:=(cT (a8 HB (ag 0) (bJ (.int 0))) sL jf)
theorem UE(E:Gl G):fv G k ⟨Bq,(ai jR).names,[],false,false,false,λ_ _=>False⟩ (aw jR) (Ft):=(aM (dF (aW BK (af 0) aH) (aM gd) cg))
abbrev jL:Stmt:=top 18
abbrev Bj:List Str:=["number"]
theorem QI:aR Bj ["number"] (ai jL):=by walk_at "5"
def Fl:cS:=(cT (a8 HB (ag 0) (bJ (.int 1))) sL jf)
theorem Uy(E:Gl G):fv G k ⟨Bj,(ai jL).names,[],false,false,false,λ_ _=>False⟩ (aw jL) (Fl):=(aM (dF (aW BK (af 0) aH) (aM gd) cg))
abbrev rR:Stmt:=top 19
abbrev KG:List Str:=["points","many"]
theorem XF:aR KG ["points","many"] (ai rR):=by walk_at "5"
def RU:cS:=(cT (a8 Sw (aZ (dY cN (bj (ag 0) dc))) (ag 1)) sL jf)
theorem Ze(E:Gl G):fv G k ⟨KG,(ai rR).names,[],false,false,false,λ_ _=>False⟩ (aw rR) (RU):=(aM (dF (aW GQ (bf (cm f_len E.z_len (aG (af 0) aX) (by decide +kernel))) (af 1)) (aM gd) cg))
abbrev rT:Stmt:=top 21
abbrev KI:List Str:=["way","point","other","differences"]
theorem XH:aR KI ["way","point","other"] (ai rT):=by walk_at "5"
def RW:cS:=(b8 (ei [] 3 (dk [] [none,none] (RL (aS (ao [] (ag 1)) (aS (ao [] (ag 2)) tN))) (uI 2 (gC (dC 0) (gC (dC 1) uH))) dm (ao [] (aZ (dY GI (bj (aZ (bI lY (ag 0) (ag 1))) dc)))))) (b8 (cT (a8 eqT (ag 0) (bJ (.str "streets"))) (gj [] (dY sumF (bj (ag 3) dc))) jf) (gj [] (dY sumF (bj (aZ (dk [] [none] (bZ (ao [] (ag 3))) (dC 0) dm (ao [] (aZ (bI jF (ag 0) (ag 0)))))) dc)))))
local macro_rules | `(tactic| walk_at "6") => `(tactic| first|decide +kernel | (dsimp only[aQ,aE];decide +kernel))
theorem Zg(E:Gl G):fv G k ⟨KI,(ai rT).names,[],false,false,false,λ_ _=>False⟩ (aw rT) (RW):=(ax (E3 3 (N':=["here","there"]) (VR (ah (aJ (af 1)) (ah (aJ (af 2)) aB)) E.z_zip) ⟨rfl,by walk_at "6",by walk_at "6",by walk_at "6",by walk_at "6",rfl,by walk_at "6"⟩ (fF (aV (aP 0 (hn:=by first|decide|exact of_decide_eq_true rfl)) (aV (aP 1 (hn:=by first|decide|exact of_decide_eq_true rfl)) dU))) gp (aJ (bf (cm UW E.z_abs (aG (bf (iR (af 0) (af 1))) aX) (by decide +kernel))))) (ax (dF (aW wV (af 0) (y8 E.oV)) (aM (bM (cm JU E.z_sum (aG (af 3) aX) (by decide +kernel)))) cg) (aM (bM (cm JU E.z_sum (aG (bf (dW (N':=["difference"]) (di (aJ (af 3))) ⟨rfl,by walk_at "6",by walk_at "6",by walk_at "6",by walk_at "6",rfl,by walk_at "6"⟩ (aP 0 (hn:=by first|decide|exact of_decide_eq_true rfl)) gp (aJ (bf (iQ (af 0) (af 0)))))) aX) (by decide +kernel))))))
abbrev rP:Stmt:=top 22
abbrev KC:List Str:=["points","way","pairs","i","j"]
theorem XD:aR KC ["points","way"] (ai rP):=by walk_at "5"
def X7(kh:bN):cS:=(b8 (ei [] 2 (sU tN)) (b8 (cZ (xK (bj (aZ (dY cN (bj (ag 0) dc))) dc)) (dC 3) (cZ (IE (bj (aZ (bI eY (ag 3) (bJ (.int 1)))) (bj (aZ (dY cN (bj (ag 0) dc))) dc))) (dC 4) (oj (sI (ag 2) (ao [] (Kq (aS (ao [] (aZ (eh kh (aS (ao [] (ag 1)) (aS (ao [] (je (ag 0) (ag 3))) (aS (ao [] (je (ag 0) (ag 4))) tN)))))) (aS (ao [] (ag 3)) (aS (ao [] (ag 4)) tN))))))))) (gj [] (oX (ag 2)))))
theorem Zc(E:Gl G){kh:bN}(Ac:cR G k "far_between" kh):fv G k ⟨KC,(ai rP).names,[],false,false,false,λ_ _=>False⟩ (aw rP) (X7 kh):=(ax (bH 2 (eS aB)) (ax (gQ (qL (aG (bf (cm f_len E.z_len (aG (af 0) aX) (by decide +kernel))) aX) E.z_range) (aP 3 (hn:=by first|decide|exact of_decide_eq_true rfl)) (aM (gQ (M8 (aG (bf (d9 (af 3) aH)) (aG (bf (cm f_len E.z_len (aG (af 0) aX) (by decide +kernel))) aX)) E.z_range) (aP 4 (hn:=by first|decide|exact of_decide_eq_true rfl)) (aM (cE (fM (af 2) (aJ (vF (ah (aJ (bf (aO Ac (ah (aJ (af 1)) (ah (aJ (dX (af 0) (af 3))) (ah (aJ (dX (af 0) (af 4))) aB)))))) (ah (aJ (af 3)) (ah (aJ (af 4)) aB))))))))))) (aM (bM (jj (af 2))))))
abbrev jY:Stmt:=top 23
abbrev Bw:List Str:=["points","way","one","other"]
theorem QV:aR Bw ["points","way","one","other"] (ai jY):=by walk_at "5"
def FA(dH:bN)(nR:bN)(kh:bN):cS:=(b8 (oj (eh dH (aS (ao [] (ag 0)) (aS (ao [] (ag 1)) tN)))) (b8 (oj (eh nR (aS (ao [] (ag 0)) (aS (ao [] (ag 2)) tN)))) (b8 (oj (eh nR (aS (ao [] (ag 0)) (aS (ao [] (ag 3)) tN)))) (gj [] (eh kh (aS (ao [] (ag 1)) (aS (ao [] (je (ag 0) (ag 2))) (aS (ao [] (je (ag 0) (ag 3))) tN))))))))
theorem UM(E:Gl G){dH:bN}(lQ:cR G k "need_points_and_way" dH){nR:bN}(yB:cR G k "need_place" nR){kh:bN}(Ac:cR G k "far_between" kh):fv G k ⟨Bw,(ai jY).names,[],false,false,false,λ_ _=>False⟩ (aw jY) (FA dH nR kh):=(ax (cE (aO lQ (ah (aJ (af 0)) (ah (aJ (af 1)) aB)))) (ax (cE (aO yB (ah (aJ (af 0)) (ah (aJ (af 2)) aB)))) (ax (cE (aO yB (ah (aJ (af 0)) (ah (aJ (af 3)) aB)))) (aM (bM (aO Ac (ah (aJ (af 1)) (ah (aJ (dX (af 0) (af 2))) (ah (aJ (dX (af 0) (af 3))) aB)))))))))
abbrev jU:Stmt:=top 24
abbrev Bt:List Str:=["points","way"]
theorem QR:aR Bt ["points","way"] (ai jU):=by walk_at "5"
def Fx(dH:bN)(fu:bN):cS:=(b8 (oj (eh dH (aS (ao [] (ag 0)) (aS (ao [] (ag 1)) tN)))) (gj [] (dY mw (bj (aZ (eh fu (aS (ao [] (ag 0)) (aS (ao [] (ag 1)) tN)))) dc))))
theorem UI(E:Gl G){dH:bN}(lQ:cR G k "need_points_and_way" dH){fu:bN}(qE:cR G k "pairs_by_places" fu):fv G k ⟨Bt,(ai jU).names,[],false,false,false,λ_ _=>False⟩ (aw jU) (Fx dH fu):=(ax (cE (aO lQ (ah (aJ (af 0)) (ah (aJ (af 1)) aB)))) (aM (bM (cm C8 E.z_sorted (aG (bf (aO qE (ah (aJ (af 0)) (ah (aJ (af 1)) aB)))) aX) (by decide +kernel)))))
abbrev jQ:Stmt:=top 27
abbrev Bp:List Str:=["points","way","bound"]
theorem QN:aR Bp ["points","way","bound"] (ai jQ):=by walk_at "5"
def Fs(dH:bN)(sv:bN)(fu:bN):cS:=(b8 (oj (eh dH (aS (ao [] (ag 0)) (aS (ao [] (ag 1)) tN)))) (b8 (oj (eh sv (aS (ao [] (ag 2)) tN))) (gj [] (dk [] [none,none,none,some 2] (bZ (ao [] (aZ (eh fu (aS (ao [] (ag 0)) (aS (ao [] (ag 1)) tN)))))) (uI 3 (gC (dC 0) (gC (dC 1) (gC (dC 2) uH)))) (a8 N5 (ag 0) (ag 3)) (ao [] (Kq (aS (ao [] (ag 1)) (aS (ao [] (ag 2)) tN))))))))
theorem UD(E:Gl G){dH:bN}(lQ:cR G k "need_points_and_way" dH){sv:bN}(Dp:cR G k "need_bound" sv){fu:bN}(qE:cR G k "pairs_by_places" fu):fv G k ⟨Bp,(ai jQ).names,[],false,false,false,λ_ _=>False⟩ (aw jQ) (Fs dH sv fu):=(ax (cE (aO lQ (ah (aJ (af 0)) (ah (aJ (af 1)) aB)))) (ax (cE (aO Dp (ah (aJ (af 2)) aB))) (aM (bM (dW (N':=["far","i","j","bound"]) (di (aJ (bf (aO qE (ah (aJ (af 0)) (ah (aJ (af 1)) aB)))))) ⟨rfl,by walk_at "6",by walk_at "6",by walk_at "6",by walk_at "6",rfl,by walk_at "6"⟩ (fF (aV (aP 0 (hn:=by first|decide|exact of_decide_eq_true rfl)) (aV (aP 1 (hn:=by first|decide|exact of_decide_eq_true rfl)) (aV (aP 2 (hn:=by first|decide|exact of_decide_eq_true rfl)) dU)))) (tB (aW BJ (af 0) (af 3))) (aJ (vF (ah (aJ (af 1)) (ah (aJ (af 2)) aB)))))))))
abbrev j3:Stmt:=top 28
abbrev Bz:List Str:=["places","near","first","rest","taken","left"]
theorem QX:aR Bz ["places","near"] (ai j3):=by walk_at "5"
def FD(fA:bN):cS:=(b8 (cT (pY (A1 (ag 0))) (gj [] (sU tN)) jf) (b8 (ei [] 2 (oX (je (ag 0) (bJ (.int 0))))) (b8 (ei [] 3 (vW (ag 0) (Kn (bJ (.int 1))) Km)) (b8 (ei [] 4 (bI eY (aZ (sU (aS (ao [] (ag 2)) tN))) (aZ (eh fA (aS (ao [] (aZ (dk [] [none,some 1,some 2] (bZ (ao [] (ag 3))) (dC 0) (a8 yU (Kq (aS (ao [] (ag 2)) (aS (ao [] (ag 0)) tN))) (ag 1)) (ao [] (ag 0))))) (aS (ao [] (ag 1)) tN)))))) (b8 (ei [] 5 (eh fA (aS (ao [] (ag 3)) (aS (ao [] (ag 1)) tN)))) (b8 (cT (a8 Ve (aZ (dY cN (bj (ag 4) dc))) (aZ (dY cN (bj (ag 5) dc)))) (gj [] (oX (ag 4))) jf) (gj [] (oX (ag 5)))))))))
theorem UO(E:Gl G){fA:bN}(pe:cR G k "most_of" fA):fv G k ⟨Bz,(ai j3).names,[],false,false,false,λ_ _=>False⟩ (aw j3) (FD fA):=(ax (dF (rE (rF (af 0))) (aM (bM (eS aB))) cg) (ax (bH 2 (jj (dX (af 0) aH))) (ax (bH 3 (ER (af 0) (nB aH) nz)) (ax (bH 4 (d9 (bf (eS (ah (aJ (af 2)) aB))) (bf (aO pe (ah (aJ (bf (dW (N':=["place","near","first"]) (di (aJ (af 3))) ⟨rfl,by walk_at "6",by walk_at "6",by walk_at "6",by walk_at "6",rfl,by walk_at "6"⟩ (aP 0 (hn:=by first|decide|exact of_decide_eq_true rfl)) (tB (aW Lh (vF (ah (aJ (af 2)) (ah (aJ (af 0)) aB))) (af 1))) (aJ (af 0))))) (ah (aJ (af 1)) aB)))))) (ax (bH 5 (aO pe (ah (aJ (af 3)) (ah (aJ (af 1)) aB)))) (ax (dF (aW Lg (bf (cm f_len E.z_len (aG (af 4) aX) (by decide +kernel))) (bf (cm f_len E.z_len (aG (af 5) aX) (by decide +kernel)))) (aM (bM (jj (af 4)))) cg) (aM (bM (jj (af 5))))))))))
abbrev jP:Stmt:=top 29
abbrev Bo:List Str:=["points","way","bound","pairs","near","pair"]
theorem QM:aR Bo ["points","way","bound"] (ai jP):=by walk_at "5"
def Fq(dG:bN)(zo:bN)(fA:bN):cS:=(b8 (ei [] 3 (eh dG (aS (ao [] (ag 0)) (aS (ao [] (ag 1)) (aS (ao [] (ag 2)) tN))))) (b8 (oj (eh zo (aS (ao [] (ag 0)) (aS (ao [] (bJ (.int 14))) tN)))) (b8 (ei [] 4 RD) (b8 (cZ (bZ (ao [] (ag 3))) (dC 5) (RE 4 (ao [] (ag 5)) (ao [] (bJ (.bl true))))) (gj [] (eh fA (aS (ao [] (aZ (SY (bj (aZ (dY cN (bj (ag 0) dc))) dc)))) (aS (tDz 4) tN))))))))
theorem UC(E:Gl G){dG:bN}(jt:cR G k "near_pairs" dG){zo:bN}(MT:cR G k "need_at_most" zo){fA:bN}(pe:cR G k "most_of" fA):fv G k ⟨Bo,(ai jP).names,[],false,false,false,λ_ _=>False⟩ (aw jP) (Fq dG zo fA):=(ax (bH 3 (aO jt (ah (aJ (af 0)) (ah (aJ (af 1)) (ah (aJ (af 2)) aB))))) (ax (cE (aO MT (ah (aJ (af 0)) (ah (aJ (y8 E.iC)) aB)))) (ax (bH 4 IA) (ax (gQ (di (aJ (af 3))) (aP 5 (hn:=by first|decide|exact of_decide_eq_true rfl)) (aM (IG 4 (aJ jI) (aJ (af 5)) (aat 4)))) (aM (bM (aO pe (ah (aJ (bf (rC (aG (bf (cm f_len E.z_len (aG (af 0) aX) (by decide +kernel))) aX) E.z_list E.z_range))) (ah (aas 4) aB)))))))))
abbrev j4:Stmt:=top 31
abbrev BA:List Str:=["leasts","i","j","low","high"]
theorem QY:aR BA ["leasts","i","j"] (ai j4):=by walk_at "5"
def FE:cS:=(b8 (ei [] 3 (dY nj (bj (je (ag 0) (ag 1)) (bj (je (ag 0) (ag 2)) dc)))) (b8 (ei [] 4 (dY u0 (bj (je (ag 0) (ag 1)) (bj (je (ag 0) (ag 2)) dc)))) (gj [] (dk [] [none,some 3,some 4] (bZ (ao [] (ag 0))) (dC 0) dm (ao [] (RF (a8 eqT (ag 0) (ag 2)) (ag 1) (ag 0)))))))
theorem UP(E:Gl G):fv G k ⟨BA,(ai j4).names,[],false,false,false,λ_ _=>False⟩ (aw j4) (FE):=(ax (bH 3 (cm qA E.z_min (aG (dX (af 0) (af 1)) (aG (dX (af 0) (af 2)) aX)) (by decide +kernel))) (ax (bH 4 (cm CV E.z_max (aG (dX (af 0) (af 1)) (aG (dX (af 0) (af 2)) aX)) (by decide +kernel))) (aM (bM (dW (N':=["least","low","high"]) (di (aJ (af 0))) ⟨rfl,by walk_at "6",by walk_at "6",by walk_at "6",by walk_at "6",rfl,by walk_at "6"⟩ (aP 0 (hn:=by first|decide|exact of_decide_eq_true rfl)) gp (aJ (Xt (aW wV (af 0) (af 2)) (af 1) (af 0))))))))
abbrev rS:Stmt:=top 32
abbrev KH:List Str:=["points","way","bound","leasts","i","j","parts","place","least"]
theorem XG:aR KH ["points","way","bound"] (ai rS):=by walk_at "5"
def RV(dG:bN)(dI:bN):cS:=(b8 (ei [] 3 (SY (bj (aZ (dY cN (bj (ag 0) dc))) dc))) (b8 (cZ (bZ (ao [] (aZ (eh dG (aS (ao [] (ag 0)) (aS (ao [] (ag 1)) (aS (ao [] (ag 2)) tN))))))) (uI 2 (gC (dC 4) (gC (dC 5) uH))) (cT (a8 neT (je (ag 3) (ag 4)) (je (ag 3) (ag 5))) (ei [] 3 (eh dI (aS (ao [] (ag 3)) (aS (ao [] (ag 4)) (aS (ao [] (ag 5)) tN))))) jf)) (b8 (ei [] 6 RC) (b8 (cZ (sJ (aS (ao [] (ag 3)) tN)) (uI 2 (gC (dC 7) (gC (dC 8) uH))) (tSA 6 8 7)) (gj [] (tVl 6))))))
theorem Zf(E:Gl G){dG:bN}(jt:cR G k "near_pairs" dG){dI:bN}(pg:cR G k "joined" dI):fv G k ⟨KH,(ai rS).names,[],false,false,false,λ_ _=>False⟩ (aw rS) (RV dG dI):=(ax (bH 3 (rC (aG (bf (cm f_len E.z_len (aG (af 0) aX) (by decide +kernel))) aX) E.z_list E.z_range)) (ax (gQ (di (aJ (bf (aO jt (ah (aJ (af 0)) (ah (aJ (af 1)) (ah (aJ (af 2)) aB))))))) (fF (aV (aP 4 (hn:=by first|decide|exact of_decide_eq_true rfl)) (aV (aP 5 (hn:=by first|decide|exact of_decide_eq_true rfl)) dU))) (aM (dF (aW fS (dX (af 3) (af 4)) (dX (af 3) (af 5))) (aM (bH 3 (aO pg (ah (aJ (af 3)) (ah (aJ (af 4)) (ah (aJ (af 5)) aB)))))) cg))) (ax (bH 6 Iz) (ax (gQ (yK (ah (aJ (af 3)) aB) E.z_enumerate) (fF (aV (aP 7 (hn:=by first|decide|exact of_decide_eq_true rfl)) (aV (aP 8 (hn:=by first|decide|exact of_decide_eq_true rfl)) dU))) (aM (E4 6 8 7))) (aM (bM (Qz 6 E.z_list)))))))
abbrev jO:Stmt:=top 33
abbrev Bm:List Str:=["points","way","leasts","tree","far","i","j"]
theorem QL:aR Bm ["points","way"] (ai jO):=by walk_at "5"
def Fp(sy:bN)(dI:bN):cS:=(b8 (ei [] 2 (SY (bj (aZ (dY cN (bj (ag 0) dc))) dc))) (b8 (ei [] 3 (sU tN)) (b8 (cZ (bZ (ao [] (aZ (eh sy (aS (ao [] (ag 0)) (aS (ao [] (ag 1)) tN)))))) (uI 3 (gC (dC 4) (gC (dC 5) (gC (dC 6) uH)))) (cT (a8 neT (je (ag 2) (ag 5)) (je (ag 2) (ag 6))) (b8 (ei [] 2 (eh dI (aS (ao [] (ag 2)) (aS (ao [] (ag 5)) (aS (ao [] (ag 6)) tN))))) (oj (sI (ag 3) (ao [] (Kq (aS (ao [] (ag 4)) (aS (ao [] (ag 5)) (aS (ao [] (ag 6)) tN)))))))) jf)) (gj [] (oX (ag 3))))))
theorem UB(E:Gl G){sy:bN}(Ds:cR G k "all_pairs" sy){dI:bN}(pg:cR G k "joined" dI):fv G k ⟨Bm,(ai jO).names,[],false,false,false,λ_ _=>False⟩ (aw jO) (Fp sy dI):=(ax (bH 2 (rC (aG (bf (cm f_len E.z_len (aG (af 0) aX) (by decide +kernel))) aX) E.z_list E.z_range)) (ax (bH 3 (eS aB)) (ax (gQ (di (aJ (bf (aO Ds (ah (aJ (af 0)) (ah (aJ (af 1)) aB)))))) (fF (aV (aP 4 (hn:=by first|decide|exact of_decide_eq_true rfl)) (aV (aP 5 (hn:=by first|decide|exact of_decide_eq_true rfl)) (aV (aP 6 (hn:=by first|decide|exact of_decide_eq_true rfl)) dU)))) (aM (dF (aW fS (dX (af 2) (af 5)) (dX (af 2) (af 6))) (ax (bH 2 (aO pg (ah (aJ (af 2)) (ah (aJ (af 5)) (ah (aJ (af 6)) aB))))) (aM (cE (fM (af 3) (aJ (vF (ah (aJ (af 4)) (ah (aJ (af 5)) (ah (aJ (af 6)) aB))))))))) cg))) (aM (bM (jj (af 3)))))))
abbrev rQ:Stmt:=top 34
abbrev KD:List Str:=["points","way","tree"]
theorem XE:aR KD ["points","way"] (ai rQ):=by walk_at "5"
def RT(bT:bN):cS:=(b8 (ei [] 2 (eh bT (aS (ao [] (ag 0)) (aS (ao [] (ag 1)) tN)))) (b8 (cT (pY (A1 (ag 0))) (gj [] (oX (bJ .bD))) jf) (gj [] (oX (Fg (aZ (dk [] [none,none,none] (bZ (ao [] (ag 2))) (uI 3 (gC (dC 0) (gC (dC 1) (gC (dC 2) uH)))) dm (ao [] (ag 0)))) (ao [] (bJ (.int 0))))))))
theorem Zd(E:Gl G){bT:bN}(eB:cR G k "least_tree" bT):fv G k ⟨KD,(ai rQ).names,[],false,false,false,λ_ _=>False⟩ (aw rQ) (RT bT):=(ax (bH 2 (aO eB (ah (aJ (af 0)) (ah (aJ (af 1)) aB)))) (ax (dF (rE (rF (af 0))) (aM (bM (jj EK))) cg) (aM (bM (jj (Qx (bf (dW (N':=["far","i","j"]) (di (aJ (af 2))) ⟨rfl,by walk_at "6",by walk_at "6",by walk_at "6",by walk_at "6",rfl,by walk_at "6"⟩ (fF (aV (aP 0 (hn:=by first|decide|exact of_decide_eq_true rfl)) (aV (aP 1 (hn:=by first|decide|exact of_decide_eq_true rfl)) (aV (aP 2 (hn:=by first|decide|exact of_decide_eq_true rfl)) dU)))) gp (aJ (af 0)))) (aJ aH) E.z_max))))))
abbrev rN:Stmt:=top 35
abbrev Kz:List Str:=["points","way","many","tree"]
theorem XB:aR Kz ["points","way","many"] (ai rN):=by walk_at "5"
def RP(bT:bN)(sk:bN):cS:=(b8 (ei [] 3 (eh bT (aS (ao [] (ag 0)) (aS (ao [] (ag 1)) tN)))) (b8 (oj (eh sk (aS (ao [] (ag 2)) tN))) (b8 (cT (a8 N5 (aZ (dY cN (bj (ag 0) dc))) (ag 2)) (gj [] (oX (bJ (.int 0)))) jf) (gj [] (oX (je (je (ag 3) (aZ (bI lY (aZ (bI lY (aZ (dY cN (bj (ag 0) dc))) (ag 2))) (bJ (.int 1))))) (bJ (.int 0))))))))
theorem Za(E:Gl G){bT:bN}(eB:cR G k "least_tree" bT){sk:bN}(Dj:cR G k "need_number" sk):fv G k ⟨Kz,(ai rN).names,[],false,false,false,λ_ _=>False⟩ (aw rN) (RP bT sk):=(ax (bH 3 (aO eB (ah (aJ (af 0)) (ah (aJ (af 1)) aB)))) (ax (cE (aO Dj (ah (aJ (af 2)) aB))) (ax (dF (aW BJ (bf (cm f_len E.z_len (aG (af 0) aX) (by decide +kernel))) (af 2)) (aM (bM (jj aH))) cg) (aM (bM (jj (dX (dX (af 3) (bf (iR (bf (iR (bf (cm f_len E.z_len (aG (af 0) aX) (by decide +kernel))) (af 2))) aH))) aH)))))))
abbrev jK:Stmt:=top 37
abbrev Bi:List Str:=["points","way"]
theorem QH:aR Bi ["points","way"] (ai jK):=by walk_at "5"
def Fj(dH:bN)(fu:bN):cS:=(b8 (oj (eh dH (aS (ao [] (ag 0)) (aS (ao [] (ag 1)) tN)))) (gj [] (oX (RH (aZ (eh fu (aS (ao [] (ag 0)) (aS (ao [] (ag 1)) tN)))) (ao [] (bJ .bD))))))
theorem Ux(E:Gl G){dH:bN}(lQ:cR G k "need_points_and_way" dH){fu:bN}(qE:cR G k "pairs_by_places" fu):fv G k ⟨Bi,(ai jK).names,[],false,false,false,λ_ _=>False⟩ (aw jK) (Fj dH fu):=(ax (cE (aO lQ (ah (aJ (af 0)) (ah (aJ (af 1)) aB)))) (aM (bM (jj (Xu (bf (aO qE (ah (aJ (af 0)) (ah (aJ (af 1)) aB)))) (aJ EK) E.z_min)))))
abbrev jV:Stmt:=top 39
abbrev Bu:List Str:=["pot","many","cell","stir"]
theorem QS:aR Bu ["pot","many"] (ai jV):=by walk_at "5"
def Fy:cS:=(b8 (vV 0 (bJ (.int 1)) (ao [0] (aZ (bI eY (je (ag 0) (bJ (.int 1))) (bJ (.int 1)))))) (b8 (ei [0] 2 (oX (je (ag 0) (bJ (.int 0))))) (b8 (cT (a8 Ve (ag 2) (aZ (bI xF (bJ (.int 10)) (bJ (.int 18))))) (b8 (vV 0 (bJ (.int 0)) (ao [0] (aZ (bI yx (ag 2) (ag 1))))) (gj [0] (bI xu (ag 2) (ag 1)))) jf) (b8 (ei [0] 3 (bI xu (aZ (bI eY (aZ (bI eY (aZ (bI jF (ag 2) (bJ (.int 69621)))) (aZ (bI jF (je (ag 0) (bJ (.int 1))) (bJ (.int 7919)))))) (bJ (.int 13)))) (bJ (.int 2147483647)))) (b8 (ei [0] 3 (bI xu (aZ (bI jF (ag 3) (ag 3))) (bJ (.int 2147483629)))) (gj [0] (bI xu (aZ (bI yx (aZ (bI xu (aZ (bI eY (aZ (bI jF (ag 3) (bJ (.int 48271)))) (aZ (bI jF (je (ag 0) (bJ (.int 1))) (bJ (.int 40692)))))) (bJ (.int 2147483587)))) (bJ (.int 8)))) (ag 1))))))))
theorem UJ(E:Gl G):fv G k ⟨Bu,(ai jV).names,[0],false,false,false,λ_ _=>False⟩ (aw jV) (Fy):=(ax (xM 0 (aJ (bf (d9 (dX (af 0) aH) aH))) aH (af 0)) (ax (bH 2 (jj (dX (af 0) aH))) (ax (dF (aW Lg (af 2) (bf (vE aH aH))) (ax (xM 0 (aJ (bf (y9 (af 2) (af 1)))) aH (af 0)) (aM (bM (vC (af 2) (af 1))))) cg) (ax (bH 3 (vC (bf (d9 (bf (d9 (bf (iQ (af 2) aH)) (bf (iQ (dX (af 0) aH) aH)))) aH)) aH)) (ax (bH 3 (vC (bf (iQ (af 3) (af 3))) aH)) (aM (bM (vC (bf (y9 (bf (vC (bf (d9 (bf (iQ (af 3) aH)) (bf (iQ (dX (af 0) aH) aH)))) aH)) aH)) (af 1)))))))))
abbrev jW:Stmt:=top 40
abbrev JG:List Str:=["script"]
theorem QT:aR JG ["script"] (ai jW):=by walk_at "5"
theorem UK(E:Gl G):sW G k ⟨JG,(ai jW).names,[],false,false,false,λ_ _=>False⟩ (aw jW):=Mp (N':=["cell"]) rfl (aW wV (bf (cm f_len E.z_len (aG (af 0) aX) (by decide +kernel))) aH) (ah (aJ aH) (ah (aJ aH) aB)) (di (aJ (bf (ER (af 0) nz (nB aH))))) ⟨rfl,by walk_at "6",by walk_at "6",by walk_at "6",by walk_at "6",rfl,by walk_at "6"⟩ (aP 0 (hn:=by first|decide|exact of_decide_eq_true rfl)) (ah (aJ (af 0)) (ah (aJ aH) aB))
abbrev jN:Stmt:=top 41
abbrev Bl:List Str:=["pot","count","most","many","kind","found","place","point","k","some","turned"]
theorem QK:aR Bl ["pot","count","most"] (ai jN):=by walk_at "5"
def Fo(bx:lq):cS:=(b8 (ei [0] 3 (e6 bx 0 (aS (ao [0] (je (aZ (sU (aS (ao [0] (aZ (dY nj (bj (bJ (.int 4)) (bj (aZ (bI eY (ag 2) (bJ (.int 1)))) dc))))) (aS (ao [0] (aZ (dY nj (bj (bJ (.int 9)) (bj (aZ (bI eY (ag 2) (bJ (.int 1)))) dc))))) (aS (ao [0] (aZ (bI eY (ag 2) (bJ (.int 1))))) tN))))) (aZ (e6 bx 0 (aS (ao [0] (bJ (.int 3))) tN))))) tN))) (b8 (ei [0] 4 (e6 bx 0 (aS (ao [0] (bJ (.int 6))) tN))) (b8 (ei [0] 5 (sU tN)) (b8 (cZ (xK (bj (ag 3) dc)) (dC 6) (b8 (ei [0] 7 (sU tN)) (b8 (cZ (xK (bj (ag 1) dc)) (dC 8) (b8 (ei [0] 9 (sU (aS (ao [0] (aZ (e6 bx 0 (aS (ao [0] (bJ (.int 4))) tN)))) (aS (ao [0] (aZ (bI lY (aZ (e6 bx 0 (aS (ao [0] (bJ (.int 41))) tN))) (bJ (.int 20))))) (aS (ao [0] (aZ (bI jF (ag 6) (aZ (bI eY (ag 8) (bJ (.int 1))))))) (aS (ao [0] (aZ (bI lY (aZ (bI lY (aZ (bI xF (bJ (.int 10)) (bJ (.int 15)))) (bJ (.int 1)))) (aZ (e6 bx 0 (aS (ao [0] (bJ (.int 3))) tN)))))) tN)))))) (b8 (oj (sI (ag 9) (ao [0] (aZ (bI eY (aZ (bI lY (aZ (e6 bx 0 (aS (ao [0] (aZ (bI lY (aZ (bI jF (bJ (.int 2)) (aZ (bI xF (bJ (.int 10)) (bJ (.int 15)))))) (bJ (.int 1))))) tN))) (aZ (bI xF (bJ (.int 10)) (bJ (.int 15)))))) (bJ (.int 1))))))) (b8 (ei [0] 10 (oX (je (aZ (sU (aS (ao [0] (bJ (.int 1))) (aS (ao [0] (IL (bJ (.int 1)))) tN)))) (aZ (bI jF (aZ (e6 bx 0 (aS (ao [0] (bJ (.int 2))) tN))) (aZ (dY Hl (bj (bV (a8 eqT (ag 4) (bJ (.int 3)))) dc)))))))) (oj (sI (ag 7) (ao [0] (aZ (bI jF (ag 10) (je (ag 9) (aZ (dY nj (bj (ag 4) (bj (bJ (.int 4)) dc)))))))))))))) (b8 (oj (sI (ag 5) (ao [0] (aZ (dY sP (bj (ag 7) dc)))))) (cT (nY (a8 eqT (ag 4) (bJ (.int 5))) (nY (a8 Sw (ag 6) (bJ (.int 0))) (a8 eqT (aZ (e6 bx 0 (aS (ao [0] (bJ (.int 2))) tN))) (bJ (.int 0))))) (vV 5 (IL (bJ (.int 1))) (ao [0] (je (ag 5) (aZ (e6 bx 0 (aS (ao [0] (ag 6)) tN)))))) jf))))) (gj [0] (oX (ag 5)))))))
theorem UA(E:Gl G){bx:lq}(cH:iy G k "_law_next" bx):fv G k ⟨Bl,(ai jN).names,[0],false,false,false,λ_ _=>False⟩ (aw jN) (Fo bx):=(ax (bH 3 (bA cH (af 0) (ah (aJ (dX (bf (eS (ah (aJ (bf (cm qA E.z_min (aG aH (aG (bf (d9 (af 2) aH)) aX)) (by decide +kernel)))) (ah (aJ (bf (cm qA E.z_min (aG aH (aG (bf (d9 (af 2) aH)) aX)) (by decide +kernel)))) (ah (aJ (bf (d9 (af 2) aH))) aB))))) (bf (bA cH (af 0) (ah (aJ aH) aB))))) aB))) (ax (bH 4 (bA cH (af 0) (ah (aJ aH) aB))) (ax (bH 5 (eS aB)) (ax (gQ (qL (aG (af 3) aX) E.z_range) (aP 6 (hn:=by first|decide|exact of_decide_eq_true rfl)) (ax (bH 7 (eS aB)) (ax (gQ (qL (aG (af 1) aX) E.z_range) (aP 8 (hn:=by first|decide|exact of_decide_eq_true rfl)) (ax (bH 9 (eS (ah (aJ (bf (bA cH (af 0) (ah (aJ aH) aB)))) (ah (aJ (bf (iR (bf (bA cH (af 0) (ah (aJ aH) aB))) aH))) (ah (aJ (bf (iQ (af 6) (bf (d9 (af 8) aH))))) (ah (aJ (bf (iR (bf (iR (bf (vE aH aH)) aH)) (bf (bA cH (af 0) (ah (aJ aH) aB)))))) aB)))))) (ax (cE (fM (af 9) (aJ (bf (d9 (bf (iR (bf (bA cH (af 0) (ah (aJ (bf (iR (bf (iQ aH (bf (vE aH aH)))) aH))) aB))) (bf (vE aH aH)))) aH))))) (ax (bH 10 (jj (dX (bf (eS (ah (aJ aH) (ah (aJ (Kg aH)) aB)))) (bf (iQ (bf (bA cH (af 0) (ah (aJ aH) aB))) (bf (Iw f_int E.z_int (aG (EJ wV (af 4) aH) aX) (by decide +kernel)))))))) (aM (cE (fM (af 7) (aJ (bf (iQ (af 10) (dX (af 9) (bf (cm qA E.z_min (aG (af 4) (aG aH aX)) (by decide +kernel)))))))))))))) (ax (cE (fM (af 5) (aJ (bf (Iw G0 E.z_tuple (aG (af 7) aX) (by decide +kernel)))))) (aM (dF (IC (vB (aW wV (af 4) aH) (vB (aW GQ (af 6) aH) (rB (aW wV (bf (bA cH (af 0) (ah (aJ aH) aB))) aH))))) (aM (xM 5 (aJ (dX (af 5) (bf (bA cH (af 0) (ah (aJ (af 6)) aB))))) (Kg aH) (af 5))) cg)))))) (aM (bM (jj (af 5))))))))
abbrev jZ:Stmt:=top 42
abbrev Bx:List Str:=["pot"]
theorem QW:aR Bx ["pot"] (ai jZ):=by walk_at "5"
def FC(bx:lq):cS:=(gj [0] (oX (je (aZ (sU (aS (ao [0] (bJ (.str "streets"))) (aS (ao [0] (bJ (.str "squares"))) tN)))) (aZ (e6 bx 0 (aS (ao [0] (bJ (.int 2))) tN))))))
theorem UN(E:Gl G){bx:lq}(cH:iy G k "_law_next" bx):fv G k ⟨Bx,(ai jZ).names,[0],false,false,false,λ_ _=>False⟩ (aw jZ) (FC bx):=(aM (bM (jj (dX (bf (eS (ah (aJ Kh) (ah (aJ Kh) aB)))) (bf (bA cH (af 0) (ah (aJ aH) aB)))))))
abbrev rO:Stmt:=top 43
abbrev KA:List Str:=["points","way","bound","parts","home","at","part","few","tree","far","one","other"]
theorem XC:aR KA ["points","way","bound"] (ai rO):=by walk_at "5"
def RQ(gS:bN)(dG:bN)(su:bN)(bT:bN)(ft:bN)(sC:bN)(sj:bN):cS:=(b8 (ei [] 3 (eh gS (aS (ao [] (ag 0)) (aS (ao [] (ag 1)) (aS (ao [] (ag 2)) tN))))) (b8 (cT (xU (a8 neT (aZ (dY kW (bj (aZ (Fh (ag 3))) dc))) (aZ (SY (bj (aZ (dY cN (bj (ag 0) dc))) dc)))) (a8 neT (ag 3) (aZ (dY rX (bj (ag 3) dc))))) (gj [] (oX (bJ (.bl false)))) jf) (b8 (ei [] 4 Rz) (b8 (cZ (sJ (aS (ao [] (ag 3)) tN)) (uI 2 (gC (dC 5) (gC (dC 6) uH))) (IQ 4 (aZ (dk [] [none,some 5] (bZ (ao [] (ag 6))) (dC 0) dm (ao [] (Kq (aS (ao [] (ag 0)) (aS (ao [] (ag 1)) tN)))))))) (b8 (cT (a8 neT (aZ (Ff [4] (dk [] [none,none,some 4] (bZ (ao [] (aZ (eh dG (aS (ao [] (ag 0)) (aS (ao [] (ag 1)) (aS (ao [] (ag 2)) tN))))))) (uI 2 (gC (dC 0) (gC (dC 1) uH))) (a8 neT (A0 (ag 2) (ag 0)) (A0 (ag 2) (ag 1))) (ao [] (ag 0))))) (aZ (sU tN))) (gj [] (oX (bJ (.bl false)))) jf) (b8 (ei [] 7 (vW (ag 0) Km (Kn (bJ (.int 12))))) (b8 (cT (a8 HB (aZ (dY cN (bj (aZ (eh su (aS (ao [] (ag 7)) (aS (ao [] (ag 1)) (aS (ao [] (ag 2)) tN))))) dc))) (aZ (dY cN (bj (aZ (eh gS (aS (ao [] (ag 7)) (aS (ao [] (ag 1)) (aS (ao [] (ag 2)) tN))))) dc)))) (gj [] (oX (bJ (.bl false)))) jf) (b8 (ei [] 8 (eh bT (aS (ao [] (ag 0)) (aS (ao [] (ag 1)) tN)))) (b8 (cT (a8 neT (aZ (dY cN (bj (aZ (dk [] [none,none,none,some 2] (bZ (ao [] (ag 8))) (uI 3 (gC (dC 0) (gC (dC 1) (gC (dC 2) uH)))) (a8 N5 (ag 0) (ag 3)) (ao [] (ag 0)))) dc))) (aZ (bI lY (aZ (dY cN (bj (ag 0) dc))) (aZ (dY cN (bj (ag 3) dc)))))) (gj [] (oX (bJ (.bl false)))) jf) (b8 (cT (nY (a8 neT (ag 0) (aZ (sU tN))) (a8 Sw (aZ (eh ft (aS (ao [] (ag 0)) (aS (ao [] (ag 1)) (aS (ao [] (aZ (dY cN (bj (ag 3) dc)))) tN))))) (ag 2))) (gj [] (oX (bJ (.bl false)))) jf) (b8 (cZ (bZ (ao [] (ag 8))) (uI 3 (gC (dC 9) (gC (dC 10) (gC (dC 11) uH)))) (cT (xU (a8 neT (aZ (eh sC (aS (ao [] (ag 0)) (aS (ao [] (ag 1)) (aS (ao [] (ag 10)) (aS (ao [] (ag 11)) tN)))))) (ag 9)) (nY (a8 N5 (ag 9) (ag 2)) (a8 neT (A0 (vX 4) (ag 10)) (A0 (vX 4) (ag 11))))) (gj [] (oX (bJ (.bl false)))) jf)) (gj [] (oX (bV (a8 eqT (aZ (vW (ag 8) Km (Kn (bJ (.int 1))))) (aZ (dk [] [none] (bZ (ao [] (aZ (sU (aS (ao [] (aZ (eh sj (aS (ao [] (ag 0)) (aS (ao [] (ag 1)) tN))))) tN))))) (dC 0) (a8 Nk (ag 0) (bJ .bD)) (ao [] (ag 0)))))))))))))))))))
theorem Zb(E:Gl G){gS:bN}(uJ:cR G k "parts_within" gS){dG:bN}(jt:cR G k "near_pairs" dG){su:bN}(Dm:cR G k "most_apart" su){bT:bN}(eB:cR G k "least_tree" bT){ft:bN}(mW:cR G k "bound_for_parts" ft){sC:bN}(Dv:cR G k "how_far" sC){sj:bN}(Di:cR G k "nearest_two" sj):fv G k ⟨KA,(ai rO).names,[],false,false,false,λ_ _=>False⟩ (aw rO) (RQ gS dG su bT ft sC sj):=(ax (bH 3 (aO uJ (ah (aJ (af 0)) (ah (aJ (af 1)) (ah (aJ (af 2)) aB))))) (ax (dF (IC (EL (aW fS (bf (cm qB E.z_sorted (aG (bf (Qy (af 3) E.z_sum)) aX) (by decide +kernel))) (bf (rC (aG (bf (cm f_len E.z_len (aG (af 0) aX) (by decide +kernel))) aX) E.z_list E.z_range))) (vD (aW fS (af 3) (bf (cm C7 E.z_sorted (aG (af 3) aX) (by decide +kernel))))))) (aM (bM (jj jI))) cg) (ax (bH 4 Iy) (ax (gQ (yK (ah (aJ (af 3)) aB) E.z_enumerate) (fF (aV (aP 5 (hn:=by first|decide|exact of_decide_eq_true rfl)) (aV (aP 6 (hn:=by first|decide|exact of_decide_eq_true rfl)) dU))) (aM (QG 4 (bf (dW (N':=["place","at"]) (di (aJ (af 6))) ⟨rfl,by walk_at "6",by walk_at "6",by walk_at "6",by walk_at "6",rfl,by walk_at "6"⟩ (aP 0 (hn:=by first|decide|exact of_decide_eq_true rfl)) gp (aJ (vF (ah (aJ (af 0)) (ah (aJ (af 1)) aB)))))) E.z_dict))) (ax (dF (aW fS (bf (Qw [4] (dW (N':=["one","other","home"]) (di (aJ (bf (aO jt (ah (aJ (af 0)) (ah (aJ (af 1)) (ah (aJ (af 2)) aB))))))) ⟨rfl,by walk_at "6",by walk_at "6",by walk_at "6",by walk_at "6",rfl,by walk_at "6"⟩ (fF (aV (aP 0 (hn:=by first|decide|exact of_decide_eq_true rfl)) (aV (aP 1 (hn:=by first|decide|exact of_decide_eq_true rfl)) dU))) (tB (aW fS (za (af 2) (af 0)) (za (af 2) (af 1)))) (aJ (af 0))))) (bf (eS aB))) (aM (bM (jj jI))) cg) (ax (bH 7 (ER (af 0) nz (nB aH))) (ax (dF (aW BK (bf (cm f_len E.z_len (aG (bf (aO Dm (ah (aJ (af 7)) (ah (aJ (af 1)) (ah (aJ (af 2)) aB))))) aX) (by decide +kernel))) (bf (cm f_len E.z_len (aG (bf (aO uJ (ah (aJ (af 7)) (ah (aJ (af 1)) (ah (aJ (af 2)) aB))))) aX) (by decide +kernel)))) (aM (bM (jj jI))) cg) (ax (bH 8 (aO eB (ah (aJ (af 0)) (ah (aJ (af 1)) aB)))) (ax (dF (aW fS (bf (cm f_len E.z_len (aG (bf (dW (N':=["far","one","other","bound"]) (di (aJ (af 8))) ⟨rfl,by walk_at "6",by walk_at "6",by walk_at "6",by walk_at "6",rfl,by walk_at "6"⟩ (fF (aV (aP 0 (hn:=by first|decide|exact of_decide_eq_true rfl)) (aV (aP 1 (hn:=by first|decide|exact of_decide_eq_true rfl)) (aV (aP 2 (hn:=by first|decide|exact of_decide_eq_true rfl)) dU)))) (tB (aW BJ (af 0) (af 3))) (aJ (af 0)))) aX) (by decide +kernel))) (bf (iR (bf (cm f_len E.z_len (aG (af 0) aX) (by decide +kernel))) (bf (cm f_len E.z_len (aG (af 3) aX) (by decide +kernel)))))) (aM (bM (jj jI))) cg) (ax (dF (IC (vB (aW fS (af 0) (bf (eS aB))) (rB (aW GQ (bf (aO mW (ah (aJ (af 0)) (ah (aJ (af 1)) (ah (aJ (bf (cm f_len E.z_len (aG (af 3) aX) (by decide +kernel)))) aB))))) (af 2))))) (aM (bM (jj jI))) cg) (ax (gQ (di (aJ (af 8))) (fF (aV (aP 9 (hn:=by first|decide|exact of_decide_eq_true rfl)) (aV (aP 10 (hn:=by first|decide|exact of_decide_eq_true rfl)) (aV (aP 11 (hn:=by first|decide|exact of_decide_eq_true rfl)) dU)))) (aM (dF (IC (EL (aW fS (bf (aO Dv (ah (aJ (af 0)) (ah (aJ (af 1)) (ah (aJ (af 10)) (ah (aJ (af 11)) aB)))))) (af 9)) (vD (IC (vB (aW BJ (af 9) (af 2)) (rB (aW fS (za (EY 4) (af 10)) (za (EY 4) (af 11))))))))) (aM (bM (jj jI))) cg))) (aM (bM (jj (EJ wV (bf (ER (af 8) nz (nB aH))) (bf (dW (N':=["pair"]) (di (aJ (bf (eS (ah (aJ (bf (aO Di (ah (aJ (af 0)) (ah (aJ (af 1)) aB))))) aB))))) ⟨rfl,by walk_at "6",by walk_at "6",by walk_at "6",by walk_at "6",rfl,by walk_at "6"⟩ (aP 0 (hn:=by first|decide|exact of_decide_eq_true rfl)) (tB (aW T5 (af 0) EK)) (aJ (af 0)))))))))))))))))))
abbrev rL:Stmt:=top 44
abbrev Kx:List Str:=["pot","points","way","bound","left","turned","sizes","fars","many","more"]
theorem Xz:aR Kx ["pot","points","way","bound"] (ai rL):=by walk_at "5"
def RN(bx:lq)(gS:bN)(bT:bN)(vR:bN)(ft:bN):cS:=(b8 (ei [0] 4 (dY uX (bj (ag 1) dc))) (b8 (ei [0] 5 (gT [0] [none,some 4,some 0] 0 2 4 1 (xK (bj (aZ (dY cN (bj (ag 1) dc))) dc)) (dC 0) dm (ao [2,1] (aZ (RK (ag 1) (ao [2,1] (aZ (e6 bx 2 (aS (ao [2,1] (aZ (dY cN (bj (ag 1) dc)))) tN))))))))) (b8 (ei [0] 6 (dY kW (bj (aZ (dk [0] [none] (bZ (ao [0] (aZ (eh gS (aS (ao [0] (ag 1)) (aS (ao [0] (ag 2)) (aS (ao [0] (ag 3)) tN))))))) (dC 0) dm (ao [] (aZ (dY cN (bj (ag 0) dc)))))) dc))) (b8 (cT (a8 neT (aZ (dY kW (bj (aZ (dk [0] [none] (bZ (ao [0] (aZ (eh gS (aS (ao [0] (ag 5)) (aS (ao [0] (ag 2)) (aS (ao [0] (ag 3)) tN))))))) (dC 0) dm (ao [] (aZ (dY cN (bj (ag 0) dc)))))) dc))) (ag 6)) (gj [0] (oX (bJ (.bl false)))) jf) (b8 (ei [0] 7 (dk [0] [none,none,none] (bZ (ao [0] (aZ (eh bT (aS (ao [0] (ag 1)) (aS (ao [0] (ag 2)) tN)))))) (uI 3 (gC (dC 0) (gC (dC 1) (gC (dC 2) uH)))) dm (ao [] (ag 0)))) (b8 (cT (a8 neT (aZ (dk [0] [none,none,none] (bZ (ao [0] (aZ (eh bT (aS (ao [0] (ag 5)) (aS (ao [0] (ag 2)) tN)))))) (uI 3 (gC (dC 0) (gC (dC 1) (gC (dC 2) uH)))) dm (ao [] (ag 0)))) (ag 7)) (gj [0] (oX (bJ (.bl false)))) jf) (b8 (cT (a8 neT (aZ (eh vR (aS (ao [0] (ag 1)) (aS (ao [0] (ag 2)) tN)))) (aZ (eh vR (aS (ao [0] (ag 5)) (aS (ao [0] (ag 2)) tN))))) (gj [0] (oX (bJ (.bl false)))) jf) (b8 (ei [0] 8 (bI eY (bJ (.int 1)) (aZ (e6 bx 0 (aS (ao [0] (aZ (bI eY (aZ (dY cN (bj (ag 1) dc))) (bJ (.int 1))))) tN))))) (b8 (cT (a8 neT (aZ (eh ft (aS (ao [0] (ag 1)) (aS (ao [0] (ag 2)) (aS (ao [0] (ag 8)) tN))))) (aZ (eh ft (aS (ao [0] (ag 5)) (aS (ao [0] (ag 2)) (aS (ao [0] (ag 8)) tN)))))) (gj [0] (oX (bJ (.bl false)))) jf) (b8 (ei [0] 9 (dY uX (bj (ag 1) dc))) (b8 (cT (a8 neT (ag 1) (aZ (sU tN))) (oj (sI (ag 9) (ao [0] (je (ag 1) (aZ (e6 bx 0 (aS (ao [0] (aZ (dY cN (bj (ag 1) dc)))) tN))))))) jf) (b8 (cT (a8 neT (aZ (eh ft (aS (ao [0] (ag 9)) (aS (ao [0] (ag 2)) (aS (ao [0] (ag 8)) tN))))) (aZ (eh ft (aS (ao [0] (ag 1)) (aS (ao [0] (ag 2)) (aS (ao [0] (ag 8)) tN)))))) (gj [0] (oX (bJ (.bl false)))) jf) (gj [0] (oX (bV (a8 N5 (aZ (eh ft (aS (ao [0] (ag 1)) (aS (ao [0] (ag 2)) (aS (ao [0] (aZ (bI eY (ag 8) (bJ (.int 1))))) tN))))) (aZ (eh ft (aS (ao [0] (ag 1)) (aS (ao [0] (ag 2)) (aS (ao [0] (ag 8)) tN)))))))))))))))))))))
theorem Y8(E:Gl G){bx:lq}(cH:iy G k "_law_next" bx){gS:bN}(uJ:cR G k "parts_within" gS){bT:bN}(eB:cR G k "least_tree" bT){vR:bN}(G9:cR G k "bound_for_all" vR){ft:bN}(mW:cR G k "bound_for_parts" ft):fv G k ⟨Kx,(ai rL).names,[0],false,false,false,λ_ _=>False⟩ (aw rL) (RN bx gS bT vR ft):=(ax (bH 4 (Iw f_list E.z_list (aG (af 1) aX) (by decide +kernel))) (ax (AW 5 0 2 4 1 (N':=["k","left","pot"]) (qL (aG (bf (cm f_len E.z_len (aG (af 1) aX) (by decide +kernel))) aX) E.z_range) ⟨rfl,by walk_at "6",by walk_at "6",by walk_at "6",by walk_at "6",rfl,by walk_at "6"⟩ (aP 0 (hn:=by first|decide|exact of_decide_eq_true rfl)) gp (aJ (bf (IB (af 1) (aJ (bf (bA cH (af 2) (ah (aJ (bf (cm f_len E.z_len (aG (af 1) aX) (by decide +kernel)))) aB)))))))) (ax (bH 6 (cm qB E.z_sorted (aG (bf (dW (N':=["part"]) (di (aJ (bf (aO uJ (ah (aJ (af 1)) (ah (aJ (af 2)) (ah (aJ (af 3)) aB))))))) ⟨rfl,by walk_at "6",by walk_at "6",by walk_at "6",by walk_at "6",rfl,by walk_at "6"⟩ (aP 0 (hn:=by first|decide|exact of_decide_eq_true rfl)) gp (aJ (bf (cm f_len E.z_len (aG (af 0) aX) (by decide +kernel)))))) aX) (by decide +kernel))) (ax (dF (aW fS (bf (cm qB E.z_sorted (aG (bf (dW (N':=["part"]) (di (aJ (bf (aO uJ (ah (aJ (af 5)) (ah (aJ (af 2)) (ah (aJ (af 3)) aB))))))) ⟨rfl,by walk_at "6",by walk_at "6",by walk_at "6",by walk_at "6",rfl,by walk_at "6"⟩ (aP 0 (hn:=by first|decide|exact of_decide_eq_true rfl)) gp (aJ (bf (cm f_len E.z_len (aG (af 0) aX) (by decide +kernel)))))) aX) (by decide +kernel))) (af 6)) (aM (bM (jj jI))) cg) (ax (E3 7 (N':=["far","one","other"]) (di (aJ (bf (aO eB (ah (aJ (af 1)) (ah (aJ (af 2)) aB)))))) ⟨rfl,by walk_at "6",by walk_at "6",by walk_at "6",by walk_at "6",rfl,by walk_at "6"⟩ (fF (aV (aP 0 (hn:=by first|decide|exact of_decide_eq_true rfl)) (aV (aP 1 (hn:=by first|decide|exact of_decide_eq_true rfl)) (aV (aP 2 (hn:=by first|decide|exact of_decide_eq_true rfl)) dU)))) gp (aJ (af 0))) (ax (dF (aW fS (bf (dW (N':=["far","one","other"]) (di (aJ (bf (aO eB (ah (aJ (af 5)) (ah (aJ (af 2)) aB)))))) ⟨rfl,by walk_at "6",by walk_at "6",by walk_at "6",by walk_at "6",rfl,by walk_at "6"⟩ (fF (aV (aP 0 (hn:=by first|decide|exact of_decide_eq_true rfl)) (aV (aP 1 (hn:=by first|decide|exact of_decide_eq_true rfl)) (aV (aP 2 (hn:=by first|decide|exact of_decide_eq_true rfl)) dU)))) gp (aJ (af 0)))) (af 7)) (aM (bM (jj jI))) cg) (ax (dF (aW fS (bf (aO G9 (ah (aJ (af 1)) (ah (aJ (af 2)) aB)))) (bf (aO G9 (ah (aJ (af 5)) (ah (aJ (af 2)) aB))))) (aM (bM (jj jI))) cg) (ax (bH 8 (d9 aH (bf (bA cH (af 0) (ah (aJ (bf (d9 (bf (cm f_len E.z_len (aG (af 1) aX) (by decide +kernel))) aH))) aB))))) (ax (dF (aW fS (bf (aO mW (ah (aJ (af 1)) (ah (aJ (af 2)) (ah (aJ (af 8)) aB))))) (bf (aO mW (ah (aJ (af 5)) (ah (aJ (af 2)) (ah (aJ (af 8)) aB)))))) (aM (bM (jj jI))) cg) (ax (bH 9 (Iw f_list E.z_list (aG (af 1) aX) (by decide +kernel))) (ax (dF (aW fS (af 1) (bf (eS aB))) (aM (cE (fM (af 9) (aJ (dX (af 1) (bf (bA cH (af 0) (ah (aJ (bf (cm f_len E.z_len (aG (af 1) aX) (by decide +kernel)))) aB)))))))) cg) (ax (dF (aW fS (bf (aO mW (ah (aJ (af 9)) (ah (aJ (af 2)) (ah (aJ (af 8)) aB))))) (bf (aO mW (ah (aJ (af 1)) (ah (aJ (af 2)) (ah (aJ (af 8)) aB)))))) (aM (bM (jj jI))) cg) (aM (bM (jj (EJ BJ (bf (aO mW (ah (aJ (af 1)) (ah (aJ (af 2)) (ah (aJ (bf (d9 (af 8) aH))) aB))))) (bf (aO mW (ah (aJ (af 1)) (ah (aJ (af 2)) (ah (aJ (af 8)) aB)))))))))))))))))))))
abbrev gv:Stmt:=top 45
abbrev BD:List Str:=["script","pot","points","way","fars","bound"]
theorem QZ:aR BD ["script"] (ai gv):=by walk_at "5"
def FG(sr:lq)(bx:lq)(sD:lq)(bT:bN)(zm:bN)(zl:lq):cS:=(b8 (zt (aS (ao [] (aZ (vW (ag 0) Km (Kn (bJ (.int 3)))))) tN) (Qq 1) (b8 (ei [] 2 (e6 sr 1 (aS (ao [] (aZ (bI eY (bJ (.int 1)) (aZ (e6 bx 1 (aS (ao [] (bJ (.int 3))) tN)))))) (aS (ao [] (bJ (.int 20))) tN)))) (b8 (ei [] 3 (e6 sD 1 tN)) (b8 (ei [] 4 (bI eY (aZ (dk [] [none,none,none] (bZ (ao [] (aZ (eh bT (aS (ao [] (ag 2)) (aS (ao [] (ag 3)) tN)))))) (uI 3 (gC (dC 0) (gC (dC 1) (gC (dC 2) uH)))) dm (ao [] (ag 0)))) (aZ (sU (aS (ao [] (bJ (.int 0))) (aS (ao [] (aZ (bI xF (bJ (.int 10)) (bJ (.int 30))))) tN)))))) (b8 (ei [] 5 (oX (je (ag 4) (aZ (e6 bx 1 (aS (ao [] (aZ (dY cN (bj (ag 4) dc)))) tN)))))) (b8 (ei [] 5 (dY u0 (bj (bJ (.int 0)) (bj (aZ (bI lY (aZ (bI eY (ag 5) (aZ (e6 bx 1 (aS (ao [] (bJ (.int 3))) tN))))) (bJ (.int 1)))) dc)))) (cT (xU (pY (A1 (aZ (eh zm (aS (ao [] (ag 2)) (aS (ao [] (ag 3)) (aS (ao [] (ag 5)) tN))))))) (pY (A1 (aZ (e6 zl 1 (aS (ao [] (ag 2)) (aS (ao [] (ag 3)) (aS (ao [] (ag 5)) tN)))))))) (gj [] (oX (bJ (.bl false)))) jf))))))) (gj [] (oX (bJ (.bl true)))))
theorem UQ(E:Gl G)(Dt:gE G k "_law_pots"){sr:lq}(Dl:iy G k "_law_points" sr){bx:lq}(cH:iy G k "_law_next" bx){sD:lq}(Dw:iy G k "_law_way" sD){bT:bN}(eB:cR G k "least_tree" bT){zm:bN}(MS:cR G k "_law_parts_right" zm){zl:lq}(MR:iy G k "_law_otherwise_right" zl):fv G k ⟨BD,(ai gv).names,[],false,false,false,λ_ _=>False⟩ (aw gv) (FG sr bx sD bT zm zl):=(ax (QF 1 Dt (ah (aJ (bf (ER (af 0) nz (nB aH)))) aB) (ax (bH 2 (bA Dl (af 1) (ah (aJ (bf (d9 aH (bf (bA cH (af 1) (ah (aJ aH) aB)))))) (ah (aJ aH) aB)))) (ax (bH 3 (bA Dw (af 1) aB)) (ax (bH 4 (d9 (bf (dW (N':=["far","one","other"]) (di (aJ (bf (aO eB (ah (aJ (af 2)) (ah (aJ (af 3)) aB)))))) ⟨rfl,by walk_at "6",by walk_at "6",by walk_at "6",by walk_at "6",rfl,by walk_at "6"⟩ (fF (aV (aP 0 (hn:=by first|decide|exact of_decide_eq_true rfl)) (aV (aP 1 (hn:=by first|decide|exact of_decide_eq_true rfl)) (aV (aP 2 (hn:=by first|decide|exact of_decide_eq_true rfl)) dU)))) gp (aJ (af 0)))) (bf (eS (ah (aJ aH) (ah (aJ (bf (vE aH aH))) aB)))))) (ax (bH 5 (jj (dX (af 4) (bf (bA cH (af 1) (ah (aJ (bf (cm f_len E.z_len (aG (af 4) aX) (by decide +kernel)))) aB)))))) (ax (bH 5 (cm CV E.z_max (aG aH (aG (bf (iR (bf (d9 (af 5) (bf (bA cH (af 1) (ah (aJ aH) aB))))) aH)) aX)) (by decide +kernel))) (aM (dF (IC (EL (rE (rF (bf (aO MS (ah (aJ (af 2)) (ah (aJ (af 3)) (ah (aJ (af 5)) aB))))))) (vD (rE (rF (bf (bA MR (af 1) (ah (aJ (af 2)) (ah (aJ (af 3)) (ah (aJ (af 5)) aB)))))))))) (aM (bM (jj jI))) cg)))))))) (aM (bM (jj jI))))
end
section
local macro_rules|`(tactic| walk_at "vx")=>`(tactic| ((try simp only[a9,bz,List.map_cons,List.map_nil,List.length_cons,List.length_nil,List.replicate_succ,List.replicate_zero,List.cons_append,List.nil_append,Nat.reduceAdd,Nat.reduceSub]);(try dsimp only[b8,Vc.RF,jf,sL,cT,oj,gj,ei,YD,sI,Ld,uO,aZ,oX,Yf,oxV,kn,ko,ao,ag,vX,bJ,eW,iX,bI,eY,lY,jF,xu,xF,SQ,Hj,IL,a8,bV,eqT,neT,Nb,HB,N5,Sw,Ve,isNone,Nk,RY,A1,nY,xU,pY,je,Km,Kn,YC,vW,tN,aS,sU,Kq,dc,bj,dY,cN,GI,u0,nj,Hl,uX,sP,bE,eh,dC,uH,gC,uI,bZ,xK,IE,cZ,dm,dk,uG,du,kJ,XX,RL,sJ,SY,mw,yx,Vc.VU,Vc.VW,Vc.Np,Vc.Nq,xm,bz,DL,vV,e6,ownAt,sumF,RH,RD,tOv,tDz,RE,Nc,yU,iM,uT,yS,List.contains,List.elem,Nat.reduceBEq,Option.map_some,Wb,kW,Fh,IQ,rX,Rz,A0,GY,Ht,Ff,JV,RK,Qn,gT,a9,List.getElem?_cons_zero,List.getElem?_cons_succ,List.getElem?_nil,List.set_cons_zero,List.set_cons_succ,List.map_cons,List.map_nil,List.length_cons,List.length_nil,List.replicate_succ,List.replicate_zero,List.cons_append,List.nil_append,Nat.reduceAdd,Nat.reduceSub]);try simp only[List.append_nil,Nat.add_sub_cancel,Nat.zero_add,List.not_mem_nil,not_false_eq_true,true_and,and_true,decide_eq_true_eq,ite_true,ite_false,Bool.not_eq_true',decide_eq_false_iff_not,List.getElem?_cons_zero,List.getElem?_cons_succ]))
local macro_rules | `(tactic| symm) => `(tactic| walk_at "vx")
local macro_rules|`(tactic| walk_at "vc")=>`(tactic| repeat (refine And.intro (by first|assumption|decide|omega | (unfold iw;omega) | (unfold YJ;omega) | (unfold sV;omega)) ?_))
local macro_rules|`(tactic| walk_at "vg")=>`(tactic| simp only[dC,uI,gC,uH,List.length_cons,List.length_nil,Nat.reduceAdd,Nat.zero_add,true_and,List.set_cons_zero,List.set_cons_succ,Int.zero_add])
local macro_rules|`(tactic| walk_at "vd")=>`(tactic| symm)
variable [KF]
def aaC(b:Bool):Str:=if b=true then "squares" else "streets"
def dg(b:Bool):D:=.str (aaC b)
def d8(p:List Int):D:=.tup (p.map D.int)
def Bd(p:List Int):Prop:=p.length<=3/\∀x∈p,-(2^60)<x/\x<2^60
def jn(x:Int):Int:=if x<0 then -x else x
def stepI(b:Bool)(x y:Int):Int:=if b=true then jn (x-y)*jn (x-y)else jn (x-y)
def eZ(b:Bool)(p q:List Int):Int:=((p.zip q).map λxy=>stepI b xy.1 xy.2).sum
def nP:bN:=λds Q=>∃b p q,ds=[dg b,d8 p,d8 q]/\Bd p/\Bd q/\Q (.sh (.int (eZ b p q)))
theorem yd(b:Bool):cc 8 (dg b)=true:=by cases b<;>decide +kernel
theorem ny:cc 8 (.str "streets")=true:=by decide +kernel
theorem xA:cc 8 (.str "squares")=true:=by decide +kernel
theorem lH(b:Bool):fB (dg b) (.str "streets")=!b:=by cases b<;>decide +kernel
theorem wd(b:Bool):fB (dg b) (.str "squares")=b:=by cases b<;>decide +kernel
theorem sz:sizeLine=2^24:=rfl
theorem zI{p q:List Int}(h:Bd p):(p.zip q).length<=3:=by
 rw[List.length_zip];have:=h.1;omega
theorem qh{α:Type}(l:List α)(f:α->Int):(l.map λa=>D.int (f a)).all isInt=true:=by
 rw[List.all_map];exact List.all_eq_true.mpr λ_ _=>rfl
theorem uZ{α:Type}(l:List α)(f:α->Int):(l.map λa=>D.int (f a)).map fJ=l.map f:=by
 rw[List.map_map];rfl
theorem WX(ds:List D)(Q:B->Prop)(h:nP ds Q):RW {nx:=λ_=>Q (.sh .bD),rt:=λb _=>Q b} (a9 KI.length ds):=by
 obtain⟨b,p,q,rfl,hp,hq,h⟩:=h;unfold RW d8;symm;rw[FY];refine dh (λp=>.tup [.int p.1,.int p.2]) (λxy:Int×Int=>D.int (jn (xy.1-xy.2))) _ (λxy VN A ha=>?_) (by have:=zI (q:=q) hp;rw[sz];omega) ?_
 ·symm
  exact ha
 ·symm
  rw[lH];refine⟨⟨yd b,ny⟩,?_⟩;cases b with
  | false =>
   refine(if_pos rfl).mpr ?_;refine⟨qh _ _,?_⟩;rw[uZ];exact h
  | true =>
   refine(if_neg ∅).mpr ?_
   rw[show(List.map (λxy:Int×Int=>D.int (jn (xy.1-xy.2))) (p.zip q))=(List.map (λxy:Int×Int=>(jn (xy.1-xy.2))) (p.zip q)).map D.int from by rw[List.map_map];rfl]
   refine dh D.int (λd:Int=>D.int (d*d)) _ (λd hd A ha=>?_) (by have:=zI (q:=q) hp;rw[sz,aaR];omega) ?_
   ·symm
    refine⟨?_,ha⟩;obtain⟨xy,VN,rfl⟩:=List.mem_map.mp hd;have h1:=hp.2 _ (List.of_mem_zip VN).1;have h2:=hq.2 _ (List.of_mem_zip VN).2;unfold iw jn;left
    split<;>omega
   ·symm
    refine⟨qh _ _,?_⟩;rw[uZ,List.map_map];exact h
def Good(n:Nat)(pts:List (List Int)):Prop:=(1<=n/\n<=3)/\∀p∈pts,p.length=n/\∀x∈p,-(2^59)<x/\x<2^59
theorem Good.bd{n:Nat}{pts:List (List Int)}(g:Good n pts){p:List Int}(h:p∈pts):Bd p:=⟨by have:=(g.2 p h).1;have:=g.1.2;omega,λx hx=>by have:=(g.2 p h).2 x hx;omega⟩
theorem ic{n i a:Nat}(h:(List.range n)[i]?=some a):a=i/\i<n:=by
 have hi:i<n:=by
  have:=(List.getElem?_eq_some_iff.mp h).1
  rwa [List.length_range]at this
 rw[List.getElem?_range hi]at h;cases h;exact⟨rfl,hi⟩
def df(pts:List (List Int)):D:=.lst (pts.map d8)
theorem f6{pts:List (List Int)}{j:Nat}(h:j<pts.length):(pts.map d8)[j]?=some (d8 (pts.getD j [])):=by
 rw[List.getElem?_map,List.getD_eq_getElem?_getD,aaQ h];rfl
theorem getD_mem{pts:List (List Int)}{j:Nat}(h:j<pts.length):pts.getD j []∈pts:=by
 rw[List.getD_eq_getElem?_getD,aaQ h];exact List.getElem_mem h
theorem tW{α:Type}{xs:List α}{i:Nat}{q:Nat×α}(h:(xs.mapIdx λi x=>(i,x))[i]?=some q):q.1=i/\xs[i]?=some q.2:=by
 rw[List.getElem?_mapIdx]at h;cases e:xs[i]? with
 | none=>rw[e]at h;cases h
 | some x=>rw[e]at h;cases h;exact⟨rfl,rfl⟩
def Shape(n:Nat)(pts:List (List Int)):Prop:=(1<=n/\n<=3)/\∀p∈pts,p.length=n
theorem Good.shape{n:Nat}{pts:List (List Int)}(g:Good n pts):Shape n pts:=⟨g.1,λp hp=>(g.2 p hp).1⟩
def kZ:bN:=λds Q=>∃c:Int,ds=[.int c]/\1<=c/\c<=3/\Q (.sh .bD)
theorem Eb(ds:List D)(Q:B->Prop)(h:kZ ds Q):Fu {nx:=λ_=>Q (.sh .bD),rt:=λb _=>Q b} (a9 Br.length ds):=by
 obtain⟨c,rfl,h1,h2,h⟩:=h;unfold Fu;symm;rw[if_neg ⋯,if_neg ⋯]
 exact h
def xQ:bN:=λds Q=>∃(p:List Int) (c:Int),ds=[d8 p,.int c]/\(p.length:Int)=c/\Q (.sh .bD)
theorem WZ(ds:List D)(Q:B->Prop)(h:xQ ds Q):RM {nx:=λ_=>Q (.sh .bD),rt:=λb _=>Q b} (a9 Kw.length ds):=by
 obtain⟨p,c,rfl,rfl,h⟩:=h;unfold RM d8;symm;rw[aaR];refine⟨⟨rfl,rfl⟩,?_⟩;have e:fB (.int (p.length:Nat)) (.int (p.length:Nat))=true:=by simp [fB]
 rw[if_neg (by rw[e];decide)]
 exact h
def se:bN:=λds Q=>∃n pts,ds=[df pts]/\Shape n pts/\Q (.sh .bD)
theorem Pw(ds:List D)(Q:B->Prop)(h:se ds Q):Fm kZ xQ {nx:=λ_=>Q (.sh .bD),rt:=λb _=>Q b} (a9 Bk.length ds):=by
 obtain⟨n,pts,rfl,hg,h⟩:=h;unfold Fm df;symm;refine dB d8 pts (λi σ=>∃x,σ=[some (.sh (.lst (pts.map d8))),x]) (λi p σ N' hx hI oh=>?_) (λσ hI=>h) ⟨none,rfl⟩;obtain⟨x,rfl⟩:=hI;have hp:=hg.2 p (List.mem_of_getElem? hx);have h1:=hg.1;have h0:0<pts.length:=Nat.lt_of_le_of_lt (Nat.zero_le _) (List.getElem?_eq_some_iff.mp hx).1;have h00:=hg.2 _ (getD_mem h0);walk_at "vg";refine au λN2 Vg=>?_;rw[show d8 p=.tup (p.map D.int)from rfl]
 symm;rw[aaR];refine⟨_,rfl,by omega,by omega,?_⟩
 symm;subst Vg;symm;refine bw (n:=0) rfl (f6 h0) ?_;rw[show d8 (pts.getD 0 [])=.tup ((pts.getD 0 []).map D.int)from rfl]
 symm;rw[aaR];refine⟨p,_,rfl,by rw[hp,h00],?_⟩
 exact oh _ ⟨_,rfl⟩
def sf:bN:=λds Q=>∃b,ds=[dg b]/\Q (.sh .bD)
theorem Px(ds:List D)(Q:B->Prop)(h:sf ds Q):Fz {nx:=λ_=>Q (.sh .bD),rt:=λb _=>Q b} (a9 Bv.length ds):=by
 obtain⟨b,rfl,h⟩:=h;unfold Fz;symm;refine⟨⟨yd b,ny⟩,?_⟩;rw[lH];cases b with
 | false=>exact h
 | true =>
  refine(if_pos rfl).mpr ⟨⟨yd true,xA⟩,?_⟩;rw[wd];exact h
def k7:bN:=λds Q=>∃n b pts,ds=[df pts,dg b]/\Shape n pts/\Q (.sh .bD)
theorem W0(ds:List D)(Q:B->Prop)(h:k7 ds Q):RO se sf {nx:=λ_=>Q (.sh .bD),rt:=λb _=>Q b} (a9 Ky.length ds):=by
 obtain⟨n,b,pts,rfl,hg,h⟩:=h;unfold RO;symm;refine⟨n,pts,rfl,hg,?_⟩;symm;exact⟨b,rfl,h⟩
def pairD(b:Bool)(pts:List (List Int))(i j:Nat):D:=.tup [.int (eZ b (pts.getD i []) (pts.getD j [])),.int i,.int j]
def nH(b:Bool)(pts:List (List Int))(i m:Nat):List D:=(List.range m).map λt=>pairD b pts i (i+1+t)
def gP(b:Bool)(pts:List (List Int)):Nat->List D
 | 0=>[]
 | i+1=>gP b pts i++nH b pts i (pts.length-(i+1))
def bP(b:Bool)(pts:List (List Int)):List D:=gP b pts pts.length
theorem vM(b:Bool)(pts:List (List Int))(i m:Nat):(nH b pts i m).length=m:=by unfold nH;rw[aaR,List.length_range]
theorem AR(b:Bool)(pts:List (List Int))(i m:Nat):nH b pts i (m+1)=nH b pts i m++[pairD b pts i (i+1+m)]:=by unfold nH;rw[List.range_succ,List.map_append];rfl
theorem pW(b:Bool)(pts:List (List Int)):∀i,(gP b pts i).length<=i*pts.length
 | 0=>Nat.zero_le _
 | i+1=>by
  have ih:=pW b pts i;show(gP b pts i++nH b pts i (pts.length-(i+1))).length<=_;rw[List.length_append,vM,Nat.succ_mul];omega
theorem zc{b:Bool}{pts:List (List Int)}{i:Nat}(hl:pts.length<=1000)(hi:i<=pts.length):(gP b pts i).length<=1000000:=
 Nat.le_trans (pW b pts i) (Nat.mul_le_mul (show i<=1000 by omega) hl)
theorem jG{b:Bool}{pts:List (List Int)}(hl:pts.length<=1000):(bP b pts).length<=1000000:=zc hl (Nat.le_refl _)
theorem vN{b:Bool}{pts:List (List Int)}:∀ {i:Nat} {d:D},d∈gP b pts i->∃p q,p<i/\p<q/\(i<=pts.length->q<pts.length)/\d=pairD b pts p q
 | i+1,d,h=>by
  rcases List.mem_append.mp (show d∈gP b pts i++nH b pts i (pts.length-(i+1))from h)with h|h
  ·obtain⟨p,q,h1,h2,h3,h4⟩:=vN h
   exact⟨p,q,by omega,h2,λz=>h3 ⋯,h4⟩
  ·obtain⟨t,ht,rfl⟩:=List.mem_map.mp h
   have ht:=List.mem_range.mp ht;exact⟨i,i+1+t,by omega,by omega,λz=>by omega,rfl⟩
theorem cI{b:Bool}{pts:List (List Int)}{d:D}(h:d∈bP b pts):∃p q,p<q/\q<pts.length/\d=pairD b pts p q:=by
 obtain⟨p,q,h1,h2,h3,h4⟩:=vN h;exact⟨p,q,h2,h3 (Nat.le_refl _),h4⟩
theorem nC(b:Bool)(pts:List (List Int)):(bP b pts).all iD=true:=List.all_eq_true.mpr λd hd=>by
 obtain⟨p,q,_,_,rfl⟩:=cI hd;rfl
def gR:bN:=λds Q=>∃b n pts,ds=[df pts,dg b]/\Good n pts/\pts.length<=1000/\Q (.own (bP b pts))
def sM(sp:bN)(rest:cS):cS:=(b8 (ei [] 2 (sU tN)) (b8 (cZ (xK (bj (aZ (dY cN (bj (ag 0) dc))) dc)) (dC 3) (cZ (IE (bj (aZ (bI eY (ag 3) (bJ (.int 1)))) (bj (aZ (dY cN (bj (ag 0) dc))) dc))) (dC 4) (oj (sI (ag 2) (ao [] (Kq (aS (ao [] (aZ (eh sp (aS (ao [] (ag 1)) (aS (ao [] (je (ag 0) (ag 3))) (aS (ao [] (je (ag 0) (ag 4))) tN)))))) (aS (ao [] (ag 3)) (aS (ao [] (ag 4)) tN))))))))) rest))
theorem Ed{b:Bool}{n:Nat}{pts:List (List Int)}{rest:cS}{De:iH}(hg:Good n pts)(hl:pts.length<=1000)(h:∀x3 x4,rest De [some (.sh (df pts)),some (.sh (dg b)),some (.own (bP b pts)),x3,x4]):
  sM nP rest De [some (.sh (df pts)),some (.sh (dg b)),none,none,none]:=by
 unfold sM;refine au λN hN=>?_;symm;refine⟨by decide,?_⟩
 subst hN;refine au λN hN=>?_;rw[show df pts=.lst (pts.map d8)from rfl]
 symm;rw[aaR,Int.toNat_natCast,fN];refine⟨by omega,dB (λi:Nat=>.int (0+(i:Nat))) (List.range pts.length) (λi σ=>∃x3 x4,σ=[some (.sh (.lst (pts.map d8))),some (.sh (dg b)),some (.own (gP b pts i)),x3,x4]) (λi a σ N' hx hI oh=>?_) (λσ hI=>?_) ⟨none,none,rfl⟩⟩
 ·obtain⟨rfl,hi⟩:=ic hx
  obtain⟨x3,x4,rfl⟩:=hI;walk_at "vg";symm;rw[aaR,fN];refine⟨by omega,?_⟩
  rw[show((pts.length:Int)-((a:Int)+1)).toNat=pts.length-(a+1)by omega]
  refine dB (λt:Nat=>.int ((a:Int)+1+(t:Nat))) (List.range (pts.length-(a+1))) (λm σ=>∃x4,σ=[some (.sh (.lst (pts.map d8))),some (.sh (dg b)),some (.own (gP b pts a++nH b pts a m)),some (.sh (.int a)),x4]) (λm t σ N2 sT Zx Vg=>?_) (λσ Zx=>?_) ⟨x4,by rw[show nH b pts a 0=[]from rfl,List.append_nil]⟩
  ·obtain⟨rfl,ht⟩:=ic sT
   obtain⟨x4,rfl⟩:=Zx;symm;have hj:a+1+t<pts.length:=by omega
   refine⟨⟨_,rfl⟩,?_⟩;refine bw (n:=a) rfl (f6 hi) ?_;refine bw (n:=a+1+t) ⋯ (f6 hj) ?_
   symm;refine⟨b,_,_,rfl,hg.bd (getD_mem hi),hg.bd (getD_mem hj),?_⟩;symm;have hz:=zc (b:=b) hl (show a<=pts.length by omega)
   refine⟨by decide,by rw[sz,List.length_append,vM];omega,Vg _ ⟨some (.sh (.int ((a:Int)+1+(t:Int)))),?_⟩⟩
   rw[AR,List.append_assoc];unfold pairD;rw[show((a+1+t:Nat):Int)=(a:Int)+1+(t:Int)by omega]
  ·obtain⟨x4,rfl⟩:=Zx
   rw[List.length_range];exact oh _ ⟨some (.sh (.int a)),x4,rfl⟩
 ·obtain⟨x3,x4,rfl⟩:=hI
  subst hN;rw[List.length_range];exact h x3 x4
theorem HX(ds:List D)(Q:B->Prop)(h:gR ds Q):X7 nP {nx:=λ_=>Q (.sh .bD),rt:=λb _=>Q b} (a9 KC.length ds):=by
 obtain⟨b,n,pts,rfl,hg,hl,h⟩:=h;exact Ed hg hl λx3 x4=>by symm;exact h
def e9(xs:List D):Prop:=∃c n:Int,xs=[.int c,.int n]
def ip:lq:=λxs ds Q=>e9 xs/\∃m:Int,ds=[.int m]/\1<=m/\m<2^200/\∀r ys,0<=r->r<m->e9 ys->Q (.sh (.int r)) ys
theorem Pt(xs ds:List D)(Q:B->List D->Prop)(h:ip xs ds Q):Fy {nx:=xm Q (.sh .bD),rt:=λb σ=>xm Q b σ} (bz Bu.length xs ds):=by
 obtain⟨⟨x,y,rfl⟩,m,rfl,hm,ji,h⟩:=h;unfold Fy;refine au λN hN=>?_;simp only[bz];symm;refine⟨⟨_,rfl⟩,?_⟩;subst hN;refine au λN hN=>?_;symm;subst hN;refine au λN hN=>?_;symm;refine⟨by unfold sV;decide,?_⟩
 split
 ·refine⟨by unfold yf;omega,⟨_,rfl⟩,by omega,?_⟩
  exact h _ _ (Int.emod_nonneg _ ⋯) (Int.emod_lt_of_pos _ ⋯) ⟨_,_,rfl⟩
 ·subst hN
  symm;refine⟨by unfold iw;omega,by unfold iw;omega,by decide,by unfold iw;omega,by decide,by unfold iw;omega,by unfold iw;omega,by decide,by unfold yf;decide,by omega,?_⟩
  exact h _ _ (Int.emod_nonneg _ ⋯) (Int.emod_lt_of_pos _ ⋯) ⟨_,_,rfl⟩
def sg:lq:=λxs ds Q=>e9 xs/\ds=[]/\∀b ys,e9 ys->Q (.sh (dg b)) ys
theorem Py(xs ds:List D)(Q:B->List D->Prop)(h:sg xs ds Q):FC ip {nx:=xm Q (.sh .bD),rt:=λb σ=>xm Q b σ} (bz Bx.length xs ds):=by
 obtain⟨r0,rfl,h⟩:=h;unfold FC;simp only[bz];symm;refine⟨by decide,⟨_,rfl⟩,r0,2,rfl,by decide,by decide,λr ys h0 h1 r1=>?_⟩
 symm;refine eO h0 (by simp only[List.length_cons,List.length_nil];omega) λd hd=>?_
 simp only[List.mem_cons,List.not_mem_nil,or_false]at hd;rcases hd with rfl|rfl
 ·exact h false ys r1
 ·exact h true ys r1
def Ge(v:Int):Prop:=-(10^15)<=v/\v<=10^15
def jd:lq:=λxs ds Q=>e9 xs/\∃n m:Nat,ds=[.int n,.int m]/\1<=n/\n<=3/\m<=150/\∀pts ys,Good n pts->(∀p∈pts,∀v∈p,Ge v)->pts.length<=m->e9 ys->Q (.own (pts.map d8)) ys
theorem E7{α:Type}(l:List α)(a b:α):(l++[a]).set l.length b=l++[b]:=by
 induction l with
 | nil=>rfl
 | cons x l ih=>simp
theorem AB(xs ds:List D)(Q:B->List D->Prop)(h:jd xs ds Q):Fo ip {nx:=xm Q (.sh .bD),rt:=λb σ=>xm Q b σ} (bz Bl.length xs ds):=by
 obtain⟨r0,n,m,rfl,J0,ZU,hm,h⟩:=h;unfold Fo
 -- many
 refine au λN hN=>?_;simp only[bz];symm;refine⟨⟨_,rfl⟩,by decide,⟨_,rfl⟩,r0,3,rfl,by decide,by decide,λa1 x1 a10 a11 r1=>?_⟩
 symm;refine eO a10 (by simp only[List.length_cons,List.length_nil];omega) λd hd=>?_
 obtain⟨top,rfl,ht1,ht2⟩:∃v:Int,d=.int v/\1<=v/\v<=m+1:=by
  simp only[List.mem_cons,List.not_mem_nil,or_false]at hd;rcases hd with rfl|rfl|rfl
  ·exact⟨_,rfl,by split<;>omega,by split<;>omega⟩
  ·exact⟨_,rfl,by split<;>omega,by split<;>omega⟩
  ·exact⟨_,rfl,by omega,by omega⟩
 symm;refine⟨r1,_,rfl,by omega,by omega,λa2 x2 a20 a21 r2=>?_⟩
 obtain⟨many,Gu,rfl⟩:∃v:Nat,v<=m/\a2=(v:Int):=⟨a2.toNat,by omega,by omega⟩
 symm;subst hN
 -- kind
 refine au λN hN=>?_;symm;refine⟨⟨_,rfl⟩,r2,6,rfl,by decide,by decide,λkind x3 kd0 kd1 r3=>?_⟩
 symm;subst hN;refine au λN hN=>?_;symm;refine⟨by decide,?_⟩
 subst hN
 -- the loop
 refine au λN hN=>?_;show cZ _ _ _ _ _;generalize ht:b8 (ei [0] 7 _) _=tb;symm;rw[Int.toNat_natCast,fN];refine⟨by omega,dB (λi:Nat=>.int (0+(i:Nat))) (List.range many) (λi σ=>∃x pts a b c d e,σ=[some (.own x),some (.sh (.int n)),some (.sh (.int m)),some (.sh (.int many)),some (.sh (.int kind)),some (.own (pts.map d8)),a,b,c,d,e]/\e9 x/\pts.length=i/\Good n pts/\∀p∈pts,∀v∈p,Ge v) (λi place σ N' hx hI oh=>?_) (λσ hI=>?_) ⟨x3,[],none,none,none,none,none,rfl,r3,rfl,⟨⟨J0,ZU⟩,λp hp=>by cases hp⟩,λp hp=>by cases hp⟩⟩
 ·obtain⟨rfl,hi⟩:=ic hx
  obtain⟨x,pts,a,b,c,d,e,rfl,rx,hl,hg,hf⟩:=hI;walk_at "vg";subst ht;refine au λN1 xj=>?_;symm;refine⟨by decide,?_⟩
  subst xj;refine au λN1 xj=>?_;show cZ _ _ _ _ _;generalize ht:b8 (ei [0] 9 _) _=tb;symm;rw[Int.toNat_natCast,fN];refine⟨by omega,dB (λi:Nat=>.int (0+(i:Nat))) (List.range n) (λi σ=>∃x p c d e,σ=[some (.own x),some (.sh (.int n)),some (.sh (.int m)),some (.sh (.int many)),some (.sh (.int kind)),some (.own (pts.map d8)),some (.sh (.int (place:Nat))),some (.own (p.map D.int)),c,d,e]/\e9 x/\p.length=i/\∀v∈p,Ge v) (λj kk σ N2 sT hI Vg=>?_) (λσ hI=>?_) ⟨x,[],_,_,_,rfl,rx,rfl,λv hv=>by cases hv⟩⟩
  ·obtain⟨rfl,hj⟩:=ic sT
   obtain⟨x,p,c,d,e,rfl,rx,fC,VE⟩:=hI;walk_at "vg";subst ht;refine au λN3 Vh=>?_;symm;refine⟨⟨_,rfl⟩,rx,4,rfl,by decide,by decide,λb1 y1 b10 b11 YB=>?_⟩
   symm;refine⟨⟨_,rfl⟩,YB,41,rfl,by decide,by decide,λb2 y2 b20 b21 QD=>?_⟩
   symm;refine⟨by unfold iw;omega,by unfold sV;decide,⟨_,rfl⟩,QD,3,rfl,by decide,by decide,λb3 y3 b30 b31 ry3=>?_⟩
   symm;refine⟨by decide,?_⟩
   subst Vh;refine au λN3 Vh=>?_;symm;refine⟨⟨_,rfl⟩,⟨_,rfl⟩,by unfold sV;decide,by unfold iw;decide,ry3,_,rfl,by decide,by decide,λb4 y4 b40 b41 ry4=>?_⟩
   symm;refine⟨by unfold sV;decide,by decide,?_⟩
   subst Vh;refine au λN3 Vh=>?_;symm;refine⟨by decide,⟨_,rfl⟩,ry4,2,rfl,by decide,by decide,λb5 y5 b50 b51 ry5=>?_⟩
   symm;have aaF:b4<2*10^15-1:=b41;have Yk:∀d∈[D.int b1,D.int (b2-20),D.int ((place:Int)*((kk:Int)+1)),D.int ((10:Int)^Int.toNat 15-1-b3),D.int (b4-(10:Int)^Int.toNat 15+1)],∃v,d=.int v/\Ge v:=by
    intro d hd;have hmul:0<=(place:Int)*((kk:Int)+1)/\(place:Int)*((kk:Int)+1)<=150*3:=⟨Int.mul_nonneg ⋯ ⋯,Int.mul_le_mul ⋯ ⋯ ⋯ ⋯⟩
    have Uw:(10:Int)^Int.toNat 15=10^15:=rfl;rw[Uw]at hd;simp only[List.mem_cons,List.not_mem_nil,or_false]at hd;unfold Ge;rcases hd with rfl|rfl|rfl|rfl|rfl
    all_goals exact⟨_,rfl,by omega,by omega⟩
   refine⟨⟨rfl,rfl⟩,by unfold iw;omega,?_⟩
   refine eO (by split<;>omega) (by simp only[List.length_cons,List.length_nil];split<;>omega) λd hd=>?_
   obtain⟨tu,rfl,htu⟩:∃v:Int,d=.int v/\(v=1\/v=-1):=by
    simp only[List.mem_cons,List.not_mem_nil,or_false]at hd;rcases hd with rfl|rfl
    ·exact⟨_,rfl,.inl rfl⟩
    ·exact⟨_,rfl,.inr rfl⟩
   subst Vh;symm;refine⟨⟨_,rfl⟩,?_⟩;refine eO (by split<;>omega) (by simp only[List.length_cons,List.length_nil];split<;>omega) λd hd=>?_
   obtain⟨v,rfl,hv⟩:=Yk d hd;symm;refine⟨by unfold iw;omega,by rw[aaR,sz];omega,Vg _ ⟨y5,p++[tu*v],_,_,_,by rw[List.map_append];rfl,ry5,by simp [fC],λw hw=>?_⟩⟩
   rcases List.mem_append.mp hw with hw|hw
   ·exact VE w hw
   ·rw[List.mem_singleton.mp hw]
    unfold Ge at hv ⊢;rcases htu with rfl|rfl<;>omega
  ·obtain⟨x,p,c,d,e,rfl,rx,fC,VE⟩:=hI
   rw[List.length_range]at fC;subst xj;have good:∀q:List Int,q.length=n->(∀v∈q,Ge v)->Good n (pts++[q])/\∀p∈pts++[q],∀v∈p,Ge v:=λq hq hv=>⟨⟨hg.1,λp hp=>by
    rcases List.mem_append.mp hp with hp|hp
    ·exact hg.2 p hp
    ·rw[List.mem_singleton.mp hp]
     exact⟨hq,λv Hf=>by have:=hv v Hf;unfold Ge at this;omega⟩⟩,λp hp=>by
    rcases List.mem_append.mp hp with hp|hp
    ·exact hf p hp
    ·rw[List.mem_singleton.mp hp];exact hv⟩
   have e1:pts.map d8++[D.tup (p.map D.int)]=(pts++[p]).map d8:=by rw[List.map_append];rfl
   dsimp only;refine au λN1 xj=>?_;symm;refine⟨⟨_,rfl⟩,by rw[aaR,sz];omega,?_⟩
   rw[e1];subst xj;symm;have done:∀(x:List D) (q:List Int) (e1 e2 e3 e4 e5:Option B),e9 x->q.length=n->(∀v∈q,Ge v)->N' [some (.own x),some (.sh (.int n)),some (.sh (.int m)),some (.sh (.int many)),some (.sh (.int kind)),some (.own ((pts++[q]).map d8)),e1,e2,e3,e4,e5]:=λx q e1 e2 e3 e4 e5 rx hq hv =>
    oh _ ⟨x,pts++[q],e1,e2,e3,e4,e5,rfl,rx,by simp [hl],(good q hq hv).1,(good q hq hv).2⟩
   refine⟨⟨rfl,rfl⟩,?_⟩
   split
   ·split
    ·rename_i VG
     have VG:(0:Int)<place:=by simpa using VG
     refine⟨⟨_,rfl⟩,rx,2,rfl,by decide,by decide,λr1 y1 _ _ YB=>?_⟩
     symm;refine⟨⟨rfl,rfl⟩,?_⟩
     split
     ·refine⟨⟨_,rfl⟩,YB,_,rfl,by omega,by omega,λr2 y2 c0 c1 QD=>?_⟩
      symm;have hj:r2.toNat<pts.length:=by omega
      refine bw (n:=r2.toNat) ⋯ (by rw[List.map_append,List.getElem?_append_left (by rw[aaR];exact hj)];exact f6 hj) ?_
      refine⟨⟨_,rfl⟩,?_⟩;rw[aaR,DM (by simp),List.length_append,List.length_singleton,Nat.add_sub_cancel,List.map_append]
      dsimp only;rw[<- aaR (f:=d8) (as:=pts),show List.map d8 [p]=[d8 p]from rfl,E7]
      have:=done y2 (pts.getD r2.toNat []) (some (.sh (.int (place:Nat)))) (some (.own (p.map D.int))) c d e QD (hg.2 _ (getD_mem hj)).1 (hf _ (getD_mem hj));rw[List.map_append]at this;exact this
     ·exact done y1 p _ _ _ _ _ YB fC VE
    ·exact done x p _ _ _ _ _ rx fC VE
   ·exact done x p _ _ _ _ _ rx fC VE
 ·obtain⟨x,pts,a,b,c,d,e,rfl,rx,hl,hg,hf⟩:=hI
  subst hN;rw[List.length_range]at hl;symm;exact⟨by decide,h pts x hg hf ⋯ rx⟩
def kX:bN:=λds Q=>∃b n pts,ds=[df pts,dg b]/\Good n pts/\pts.length<=1000/\Q (.own (eg (bP b pts)))
def eA(t:Int×Nat×Nat):D:=.tup [.int t.1,.int (t.2.1:Nat),.int (t.2.2:Nat)]
theorem Ks{b:Bool}{pts:List (List Int)}:∀l:List D,(∀d∈l,∃i j,d=pairD b pts i j)->∃ts:List (Int×Nat×Nat),l=ts.map eA
 | [],_=>⟨[],rfl⟩
 | d::l,h=>by
  obtain⟨i,j,rfl⟩:=h d (List.mem_cons_self ..);obtain⟨ts,e⟩:=Ks l λx hx=>h x (List.mem_cons_of_mem _ hx);exact⟨(_,i,j)::ts,by rw[e];rfl⟩
theorem Ef(b:Bool)(pts:List (List Int)):∃ts:List (Int×Nat×Nat),bP b pts=ts.map eA:=Ks (b:=b) (pts:=pts) _ λd hd=>by
 obtain⟨p,q,_,_,h⟩:=cI hd;exact⟨p,q,h⟩
def nearF(bound:Int):D->Option D
 | .tup [.int f,.int i,.int j]=>if f<=bound then some (.tup [.int i,.int j])else none
 | _=>none
theorem vh(bound:Int)(t:Int×Nat×Nat):nearF bound (eA t)=if decide (t.1<=bound)=true then some (.tup [.int (t.2.1:Nat),.int (t.2.2:Nat)])else none:=by
 show(if t.1<=bound then _ else _)=_
 by_cases h:t.1<=bound
 ·rw[if_pos h,if_pos (decide_eq_true h)]
 ·rw[if_neg h,if_neg (by rw[decide_eq_false h];decide)]
def lC(b:Bool)(pts:List (List Int))(bound:Int):List D:=(bP b pts).filterMap (nearF bound)
theorem D0(b:Bool)(pts:List (List Int))(bound:Int):(lC b pts bound).length<=(bP b pts).length:=List.length_filterMap_le _ _
def kY:bN:=λds Q=>∃j:Int,ds=[.int j]/\0<=j/\Q (.sh .bD)
theorem Ea(ds:List D)(Q:B->Prop)(h:kY ds Q):Ft {nx:=λ_=>Q (.sh .bD),rt:=λb _=>Q b} (a9 Bq.length ds):=by
 obtain⟨j,rfl,hj,h⟩:=h;unfold Ft;symm;rw[if_neg ⋯]
 exact h
def kc:bN:=λds Q=>∃b n pts j,ds=[df pts,dg b,.int j]/\Good n pts/\pts.length<=1000/\0<=j/\Q (.own (lC b pts j))
theorem Pr(ds:List D)(Q:B->Prop)(h:kc ds Q):Fs k7 kY gR {nx:=λ_=>Q (.sh .bD),rt:=λb _=>Q b} (a9 Bp.length ds):=by
 obtain⟨b,n,pts,j,rfl,hg,hl,hj,h⟩:=h;unfold Fs;refine au λN hN=>?_;symm;refine⟨n,b,pts,rfl,hg.shape,?_⟩;symm;subst hN;refine au λN hN=>?_;symm;refine⟨j,rfl,hj,?_⟩;symm;subst hN;symm;refine⟨b,n,pts,rfl,hg,hl,?_⟩;symm;have hz:=jG (b:=b) hl;obtain⟨ts,e⟩:=Ef b pts;unfold lC at h;rw[e]at h hz ⊢;rw[aaR]at hz;refine eK eA (λt=>nearF j (eA t)) ts (λt ht A Bn ha=>?_) (by rw[sz];omega) ?_
 ·rw[vh]at ha
  unfold eA;symm
  by_cases hb:t.1<=j
  ·rw[if_pos (decide_eq_true hb)]at ha
   refine(if_pos hb).mpr ⟨by decide,ha⟩
  ·rw[if_neg (by rw[decide_eq_false hb];decide)]at ha
   exact(if_neg hb).mpr ha
 ·rw[List.filterMap_map]at h
  exact h
theorem Fd:∀l:List Int,(∀x∈l,0<=x)->0<=l.sum
 | [],_=>by simp
 | x::l,h=>by
  rw[List.sum_cons];have:=Fd l λy hy=>h y (List.mem_cons_of_mem _ hy);have:=h x (List.mem_cons_self ..);omega
theorem Mt(b:Bool)(p q:List Int):0<=eZ b p q:=Fd _ λx hx=>by
 obtain⟨xy,_,rfl⟩:=List.mem_map.mp hx;unfold stepI jn
 split
 ·exact Int.mul_nonneg (by split<;>omega) (by split<;>omega)
 ·split<;>omega
theorem Pm(ds:List D)(Q:B->Prop)(h:kX ds Q):Fx k7 gR {nx:=λ_=>Q (.sh .bD),rt:=λb _=>Q b} (a9 Bt.length ds):=by
 obtain⟨b,n,pts,rfl,hg,hl,h⟩:=h;unfold Fx;refine au λN hN=>?_;symm;refine⟨n,b,pts,rfl,hg.shape,?_⟩;symm;subst hN;symm;refine⟨b,n,pts,rfl,hg,hl,?_⟩;symm;exact⟨nC b pts,h⟩
def qU(a b:Int):Int:=if b<a then b else a
def jv(a b:Int):Int:=if b>a then b else a
def dS(ls:List Int)(i j:Nat):List Int:=ls.map λx=>if x=jv (ls.getD i 0) (ls.getD j 0)then qU (ls.getD i 0) (ls.getD j 0)else x
theorem fj{ls:List Int}{j:Nat}(h:j<ls.length):(ls.map D.int)[j]?=some (.int (ls.getD j 0)):=by
 rw[List.getElem?_map,List.getD_eq_getElem?_getD,aaQ h];rfl
theorem dA(a b:Int):fB (.int a) (.int b)=decide (a=b):=by
 unfold fB
 by_cases h:a=b
 ·simp [h]
 ·simp [h]
def dI:bN:=λds Q=>∃(ls:List Int) (i j:Nat),ds=[.lst (ls.map D.int),.int i,.int j]/\i<ls.length/\j<ls.length/\ls.length<=1000/\Q (.own ((dS ls i j).map D.int))
theorem W2(ds:List D)(Q:B->Prop)(h:dI ds Q):FE {nx:=λ_=>Q (.sh .bD),rt:=λb _=>Q b} (a9 BA.length ds):=by
 obtain⟨ls,i,j,rfl,hi,hj,hl,h⟩:=h;unfold FE;refine au λN hN=>?_;symm;refine bw (n:=i) rfl (fj hi) ?_;refine bw (n:=j) rfl (fj hj) ?_;symm;subst hN;refine au λN hN=>?_;symm;refine bw (n:=i) rfl (fj hi) ?_;refine bw (n:=j) rfl (fj hj) ?_;symm;subst hN;symm;refine dh D.int (λx:Int=>D.int (if x=jv (ls.getD i 0) (ls.getD j 0)then qU (ls.getD i 0) (ls.getD j 0)else x)) ls (λx hx A ha=>?_) (by rw[sz];omega) ?_
 ·symm
  refine⟨⟨rfl,rfl⟩,?_⟩;rw[dA];unfold jv qU at ha
  by_cases e:x=if ls.getD j 0>ls.getD i 0 then ls.getD j 0 else ls.getD i 0
  ·rw[if_pos e]at ha
   exact(if_pos (decide_eq_true e)).mpr ha
  ·rw[if_neg e]at ha
   exact(if_neg (by rw[decide_eq_false e];decide)).mpr ha
 ·unfold dS at h
  rw[List.map_map]at h;exact h
abbrev Tr:=Int×Nat×Nat
def aI(s:List Int×List Tr)(t:Tr):List Int×List Tr:=if s.1.getD t.2.1 0=s.1.getD t.2.2 0 then s else(dS s.1 t.2.1 t.2.2,s.2++[t])
def bW(n:Nat):List Int:=(List.range n).map λi:Nat=>(i:Int)
def az(n:Nat)(ts:List Tr):List Int×List Tr:=ts.foldl aI (bW n,[])
theorem fold_succ{n:Nat}{ts:List Tr}{i:Nat}{t:Tr}(h:ts[i]?=some t):az n (ts.take (i+1))=aI (az n (ts.take i)) t:=by
 unfold az;rw[List.take_add_one,h,Option.toList_some,List.foldl_append];rfl
theorem eM(n:Nat):∀ts:List Tr,(az n ts).1.length=n/\(az n ts).2.length<=ts.length/\∀t∈(az n ts).2,t∈ts:=by
 have key:∀(ts:List Tr) (s:List Int×List Tr),s.1.length=n->(ts.foldl aI s).1.length=n/\(ts.foldl aI s).2.length<=s.2.length+ts.length/\∀t∈(ts.foldl aI s).2,t∈s.2\/t∈ts:=by
  intro ts
  induction ts with
  | nil=>intro s h;exact⟨h,by simp,λt ht=>.inl ht⟩
  | cons t ts ih =>
   intro s h;have h1:(aI s t).1.length=n/\(aI s t).2.length<=s.2.length+1/\∀u∈(aI s t).2,u∈s.2\/u=t:=by
    unfold aI
    split
    ·exact⟨h,by omega,λu hu=>.inl hu⟩
    ·refine⟨by unfold dS;rw[aaR];exact h,by simp,λu hu=>?_⟩
     rcases List.mem_append.mp hu with hu|hu
     ·exact .inl hu
     ·exact .inr (List.mem_singleton.mp hu)
   obtain⟨i1,i2,i3⟩:=ih (aI s t) h1.1;refine⟨i1,?_,λu hu=>?_⟩
   ·rw[List.foldl_cons,List.length_cons]
    have:=h1.2.1;omega
   ·rw[List.foldl_cons]at hu
    rcases i3 u hu with hu|hu
    ·rcases h1.2.2 u hu with hu|rfl
     ·exact .inl hu
     ·exact .inr (List.mem_cons_self ..)
    ·exact .inr (List.mem_cons_of_mem _ hu)
 intro ts;have:=key ts (bW n,[]) (by unfold bW;rw[aaR,List.length_range])
 refine⟨this.1,Nat.le_trans this.2.1 (by simp),λt ht=>?_⟩
 rcases this.2.2 t ht with h|h
 ·cases h
 ·exact h
theorem AF(b:Bool)(pts:List (List Int)):∃ts:List Tr,eg (bP b pts)=ts.map eA/\∀t∈ts,t.2.1<t.2.2/\t.2.2<pts.length:=by
 have key:∀l:List D,(∀d∈l,∃i j,i<j/\j<pts.length/\d=pairD b pts i j)->∃ts:List Tr,l=ts.map eA/\∀t∈ts,t.2.1<t.2.2/\t.2.2<pts.length:=by
  intro l
  induction l with
  | nil=>intro _;exact⟨[],rfl,λt ht=>by cases ht⟩
  | cons d l ih =>
   intro h;obtain⟨i,j,h1,h2,rfl⟩:=h d (List.mem_cons_self ..);obtain⟨ts,e,h3⟩:=ih λx hx=>h x (List.mem_cons_of_mem _ hx);refine⟨(_,i,j)::ts,by rw[e];rfl,λt ht=>?_⟩
   rcases List.mem_cons.mp ht with rfl|ht
   ·exact⟨h1,h2⟩
   ·exact h3 t ht
 refine key _ λd hd=>?_;obtain⟨p,q,h1,h2,h⟩:=cI ((cF _).mem_iff.mp hd);exact⟨p,q,h1,h2,h⟩
def Bh(b:Bool)(pts:List (List Int))(l:List D):Prop:=∃ts:List Tr,eg (bP b pts)=ts.map eA/\l=(az pts.length ts).2.map eA
theorem zu:∀ts us:List Tr,ts.map eA=us.map eA->ts=us
 | [],[],_=>rfl
 | [],_::_,h=>by simp at h
 | _::_,[],h=>by simp at h
 | t::ts,u::us,h=>by
  rw[List.map_cons,List.map_cons]at h
  injection h with h1 h2
  rw[zu ts us h2];congr 1;obtain⟨a,i,j⟩:=t;obtain⟨a',i',j'⟩:=u
  injection h1 with h1
  injection h1 with h3 h1
  injection h1 with h4 h1
  injection h1 with h5 _
  injection h3 with h3
  injection h4 with h4
  injection h5 with h5
  have h3:a=a':=h3;have h4:(i:Int)=(i':Int):=h4;have h5:(j:Int)=(j':Int):=h5;rw[h3,show i=i' by omega,show j=j' by omega]
theorem nG(n:Nat):nF 0 n=(bW n).map D.int:=by
 unfold bW;rw[fN,List.map_map];refine List.map_congr_left λi _=>?_;show D.int (0+(i:Int))=D.int (i:Int);rw[Int.zero_add]
def gh:bN:=λds Q=>∃b n pts,ds=[df pts,dg b]/\Good n pts/\pts.length<=1000/\∀l,Bh b pts l->l.length<=1000000->(∀d∈l,∃t:Tr,d=eA t)->Q (.own l)
theorem xZ{b:Bool}{pts:List (List Int)}(hl:pts.length<=1000){ts:List Tr}(e:eg (bP b pts)=ts.map eA):ts.length<=1000000:=by
 have h1:=(cF (bP b pts)).length_eq;have h2:=jG (b:=b) hl;rw[e,aaR]at h1;omega
theorem Pz(ds:List D)(Q:B->Prop)(h:gh ds Q):Fp kX dI {nx:=λ_=>Q (.sh .bD),rt:=λb _=>Q b} (a9 Bm.length ds):=by
 obtain⟨b,n,pts,rfl,hg,hl,h⟩:=h;unfold Fp;rw[show df pts=.lst (pts.map d8)from rfl]
 refine au λN hN=>?_;symm;rw[aaR,Int.toNat_natCast,nG];refine⟨by omega,?_⟩
 subst hN;refine au λN hN=>?_;symm;refine⟨by decide,?_⟩
 subst hN;refine au λN hN=>?_;show cZ _ _ _ _ _;generalize ht:cT _ _ _=tb;symm;refine⟨b,n,pts,rfl,hg,hl,?_⟩;symm;obtain⟨ts,e,SM⟩:=AF b pts;have hz:=xZ hl e;rw[e];refine dB eA ts (λi σ=>∃x4 x5 x6,σ=[some (.sh (.lst (pts.map d8))),some (.sh (dg b)),some (.own ((az pts.length (ts.take i)).1.map D.int)),some (.own ((az pts.length (ts.take i)).2.map eA)),x4,x5,x6]) (λi t σ N' hx hI oh=>?_) (λσ hI=>?_) ⟨_,_,_,rfl⟩
 ·obtain⟨x4,x5,x6,rfl⟩:=hI
  subst ht;obtain⟨ku,hjn⟩:=SM t (List.mem_of_getElem? hx);obtain⟨f1,f2,f3⟩:=eM pts.length (ts.take i);have hti:=List.length_take_le' i ts;unfold eA;walk_at "vg";symm;refine bw (n:=t.2.1) rfl (fj ⋯) ?_
  refine bw (n:=t.2.2) rfl (fj ⋯) ?_
  refine⟨⟨rfl,rfl⟩,?_⟩;rw[dA];have fs:=fold_succ (n:=pts.length) hx;unfold aI at fs
  by_cases hq:(az pts.length (ts.take i)).1.getD t.2.1 0=(az pts.length (ts.take i)).1.getD t.2.2 0
  ·rw[if_pos hq]at fs
   refine(if_neg (by rw[decide_eq_true hq];decide)).mpr ?_
   exact oh _ ⟨_,_,_,by rw[fs];rfl⟩
  ·rw[if_neg hq]at fs
   refine(if_pos (by rw[decide_eq_false hq])).mpr ?_
   refine⟨_,t.2.1,t.2.2,rfl,by omega,by omega,by omega,?_⟩
   symm;refine⟨⟨_,rfl⟩,by decide,by rw[aaR,sz];have:=List.length_take_le' i ts;omega,?_⟩
   exact oh _ ⟨_,_,_,by rw[fs,List.map_append];rfl⟩
 ·obtain⟨x4,x5,x6,rfl⟩:=hI
  subst hN;rw[List.take_length];symm;obtain⟨f1,f2,f3⟩:=eM pts.length ts;exact h _ ⟨ts,e,rfl⟩ (by rw[aaR];omega) λd hd=>by
   obtain⟨t,_,rfl⟩:=List.mem_map.mp hd;exact⟨t,rfl⟩
theorem u6{b:Bool}{pts:List (List Int)}{i j:Nat}(ku:i<j)(hj:j<pts.length):∀m,i<m->pairD b pts i j∈gP b pts m
 | m+1,h=>by
  show _∈gP b pts m++nH b pts m (pts.length-(m+1))
  by_cases e:i=m
  ·subst e
   exact List.mem_append_right _ (List.mem_map.mpr ⟨j-(i+1),List.mem_range.mpr ⋯,by rw[show i+1+(j-(i+1))=j by omega]⟩)
  ·exact List.mem_append_left _ (u6 ku hj m ⋯)
theorem kM{b:Bool}{pts:List (List Int)}{i j:Nat}(ku:i<j)(hj:j<pts.length):pairD b pts i j∈bP b pts:=u6 ku hj _ ⋯
theorem jA{ls:List Int}{i j x:Nat}(hx:x<ls.length):(dS ls i j).getD x 0=if ls.getD x 0=jv (ls.getD i 0) (ls.getD j 0)then qU (ls.getD i 0) (ls.getD j 0)else ls.getD x 0:=by
 unfold dS;rw[List.getD_eq_getElem?_getD,List.getElem?_map,List.getD_eq_getElem?_getD (l:=ls) (i:=x),aaQ hx];rfl
def Gf(ls:List Int):Prop:=∀x,x<ls.length->∃r:Nat,ls.getD x 0=(r:Int)/\r<=x/\ls.getD r 0=(r:Int)
def bq(ls:List Int):Nat:=(List.range ls.length).countP λx=>decide (ls.getD x 0=(x:Int))
theorem o1(P:Nat->Bool)(t0:Nat):∀m,(List.range m).countP (λt=>P t&&decide (t=t0))=if t0<m/\P t0=true then 1 else 0
 | 0=>by simp
 | m+1=>by
  rw[List.range_succ,List.countP_append,o1 P t0 m,List.countP_singleton]
  by_cases h:m=t0
  ·subst h
   rw[if_neg ⋯,decide_eq_true rfl,Bool.and_true]
   by_cases hp:P m=true
   ·rw[if_pos hp,if_pos ⟨Nat.lt_succ_self _,hp⟩]
   ·rw[if_neg hp,if_neg (λz=>hp z.2)]
  ·rw[decide_eq_false h,Bool.and_false,if_neg (show¬false=true by decide),Nat.add_zero]
   by_cases hc:t0<m/\P t0=true
   ·rw[if_pos hc,if_pos ⟨by omega,hc.2⟩]
   ·rw[if_neg hc,if_neg (λz=>hc ⟨by omega,z.2⟩)]
theorem mL(P:Nat->Bool)(h:Nat):∀n,(List.range n).countP P=(List.range n).countP (λx=>P x&&!decide (x=h))+if h<n/\P h=true then 1 else 0
 | 0=>by simp
 | n+1=>by
  rw[List.range_succ,List.countP_append,List.countP_append,mL P h n,List.countP_singleton,List.countP_singleton]
  by_cases e:n=h
  ·subst e
   rw[if_neg (show¬(n<n/\P n=true)by omega),decide_eq_true rfl,Bool.not_true,Bool.and_false,if_neg (show¬false=true by decide)]
   by_cases hp:P n=true
   ·rw[if_pos hp,if_pos ⟨Nat.lt_succ_self _,hp⟩]
   ·rw[if_neg hp,if_neg (λz=>hp z.2)]
  ·rw[decide_eq_false e,Bool.not_false,Bool.and_true]
   by_cases hc:h<n/\P h=true
   ·rw[if_pos hc,if_pos (show h<n+1/\P h=true from⟨by omega,hc.2⟩)];omega
   ·rw[if_neg hc,if_neg (show¬(h<n+1/\P h=true) fromλz=>hc ⟨by omega,z.2⟩)];omega
theorem DU{ls:List Int}{i j:Nat}(L:Gf ls)(hi:i<ls.length)(hj:j<ls.length)(cU:ls.getD i 0≠ls.getD j 0):Gf (dS ls i j)/\bq (dS ls i j)+1=bq ls:=by
 obtain⟨a,ea,ha,ra⟩:=L i hi;obtain⟨c,ec,hc,rc⟩:=L j hj;obtain⟨lo,hh,e1,e2,eX,wD,hhh,rl,rh⟩:∃lo hh:Nat,qU (ls.getD i 0) (ls.getD j 0)=(lo:Int)/\jv (ls.getD i 0) (ls.getD j 0)=(hh:Int)/\lo<hh/\lo<ls.length/\hh<ls.length/\ls.getD lo 0=(lo:Int)/\ls.getD hh 0=(hh:Int):=by
  rw[ea,ec]at cU ⊢;unfold qU jv
  by_cases h:c<a
  ·exact⟨c,a,by rw[if_pos ⋯],by rw[if_neg ⋯],h,by omega,by omega,rc,ra⟩
  ·exact⟨a,c,by rw[if_neg ⋯],by rw[if_pos ⋯],by omega,by omega,by omega,ra,rc⟩
 have len:(dS ls i j).length=ls.length:=by unfold dS;rw[aaR]
 have get:∀x,x<ls.length->(dS ls i j).getD x 0=if ls.getD x 0=(hh:Int)then(lo:Int)else ls.getD x 0:=λx hx=>by rw[jA hx,e1,e2]
 refine⟨λx hx=>?_,?_⟩
 ·rw[len]at hx
  obtain⟨r,er,hr,rr⟩:=L x hx;rw[get x hx,er]
  by_cases e:(r:Int)=(hh:Int)
  ·refine⟨lo,if_pos e,by omega,?_⟩
   rw[get lo wD,rl,if_neg ⋯]
  ·refine⟨r,if_neg e,hr,?_⟩
   rw[get r ⋯,rr,if_neg e]
 ·unfold bq
  rw[len,mL (λx=>decide (ls.getD x 0=(x:Int))) hh ls.length,if_pos ⟨hhh,decide_eq_true rh⟩];congr 1;refine List.countP_congr λx hx=>?_;have hx:=List.mem_range.mp hx;rw[get x hx]
  by_cases e:ls.getD x 0=(hh:Int)
  ·rw[if_pos e,e]
   by_cases z:x=hh
   ·subst z
    simp;omega
   ·simp [z]
    constructor
    ·intro y
     have:x=lo:=by omega
     rw[this,rl]at e;omega
    ·intro y;omega
  ·rw[if_neg e]
   by_cases z:x=hh
   ·rw[z,rh]at e;exact absurd rfl e
   ·simp [z]
theorem pS(n:Nat):Gf (bW n)/\bq (bW n)=n/\(bW n).length=n:=by
 have len:(bW n).length=n:=by unfold bW;rw[aaR,List.length_range]
 have get:∀x,x<n->(bW n).getD x 0=(x:Int):=λx hx=>by
  unfold bW;rw[List.getD_eq_getElem?_getD,List.getElem?_map,List.getElem?_range hx];rfl
 refine⟨λx hx=>?_,?_,len⟩
 ·rw[len]at hx
  exact⟨x,get x hx,Nat.le_refl _,get x hx⟩
 ·unfold bq
  rw[len,List.countP_eq_length.mpr λx hx=>decide_eq_true (get x (List.mem_range.mp hx)),List.length_range]
theorem d6(n:Nat)(ts:List Tr)(ht:∀t∈ts,t.2.1<n/\t.2.2<n):Gf (az n ts).1/\(az n ts).1.length=n/\(az n ts).2.length+bq (az n ts).1=n/\∀t∈ts,(az n ts).1.getD t.2.1 0=(az n ts).1.getD t.2.2 0:=by
 have key:∀(us:List Tr) (s:List Int×List Tr) (old:List Tr),(∀t∈us,t.2.1<n/\t.2.2<n)->(∀t∈old,t.2.1<n/\t.2.2<n)->Gf s.1->s.1.length=n->s.2.length+bq s.1=n->(∀t∈old,s.1.getD t.2.1 0=s.1.getD t.2.2 0) ->
   Gf (us.foldl aI s).1/\(us.foldl aI s).1.length=n/\(us.foldl aI s).2.length+bq (us.foldl aI s).1=n/\∀t,t∈old\/t∈us->(us.foldl aI s).1.getD t.2.1 0=(us.foldl aI s).1.getD t.2.2 0:=by
  intro us
  induction us with
  | nil=>intro s old _ _ L l c h;exact⟨L,l,c,λt ht=>ht.elim (h t) λz=>by cases z⟩
  | cons u us ih =>
   intro s old hu ho L l c h;have M5:=hu u (.head _);have Gw:∀t∈old++[u],t.2.1<n/\t.2.2<n:=λt ht=>(List.mem_append.mp ht).elim (ho t) λz=>by rw[List.mem_singleton.mp z];exact M5
   rw[List.foldl_cons];have go:Gf (aI s u).1/\(aI s u).1.length=n/\(aI s u).2.length+bq (aI s u).1=n/\∀t∈old++[u],(aI s u).1.getD t.2.1 0=(aI s u).1.getD t.2.2 0:=by
    unfold aI
    split
    ·rename_i e
     refine⟨L,l,c,λt ht=>?_⟩;rcases List.mem_append.mp ht with ht|ht
     ·exact h t ht
     ·rw[List.mem_singleton.mp ht];exact e
    ·rename_i e
     obtain⟨L',r'⟩:=DU L (by rw[l];exact M5.1) (by rw[l];exact M5.2) e
     refine⟨L',by unfold dS;rw[aaR];exact l,?_,λt ht=>?_⟩
     ·show(s.2++[u]).length+bq (dS s.1 u.2.1 u.2.2)=n
      rw[List.length_append,List.length_singleton];omega
     ·show(dS s.1 u.2.1 u.2.2).getD t.2.1 0=(dS s.1 u.2.1 u.2.2).getD t.2.2 0
      have hb:=Gw t ht;rw[jA (by rw[l];exact hb.1),jA (by rw[l];exact hb.2)]
      rcases List.mem_append.mp ht with ht|ht
      ·rw[h t ht]
      ·rw[List.mem_singleton.mp ht]
       unfold jv qU;generalize s.1.getD u.2.1 0=A at e ⊢;generalize s.1.getD u.2.2 0=C at e ⊢
       repeat' split
       all_goals omega
   obtain⟨g1,g2,g3,g4⟩:=go;obtain⟨i1,i2,i3,i4⟩:=ih (aI s u) (old++[u]) (λt ht=>hu t (.tail _ ht)) Gw g1 g2 g3 g4;refine⟨i1,i2,i3,λt ht=>i4 t ?_⟩;rcases ht with ht|ht
   ·exact .inl (List.mem_append_left _ ht)
   ·rcases List.mem_cons.mp ht with rfl|ht
    ·exact .inl (List.mem_append_right _ (List.mem_singleton.mpr rfl))
    ·exact .inr ht
 obtain⟨r1,r2,r3⟩:=pS n;obtain⟨k1,k2,k3,k4⟩:=key ts (bW n,[]) [] ht (λt ht=>by cases ht) r1 r3 (by show 0+bq (bW n)=n;omega) λt ht=>by cases ht
 exact⟨k1,k2,k3,λt ht=>k4 t (.inr ht)⟩
theorem A3{b:Bool}{pts:List (List Int)}{ts:List Tr}(e:eg (bP b pts)=ts.map eA)(SM:∀t∈ts,t.2.1<t.2.2/\t.2.2<pts.length)(h0:0<pts.length):(az pts.length ts).2.length+1=pts.length:=by
 obtain⟨L,l,c,h⟩:=d6 pts.length ts λt ht=>by have:=SM t ht;omega
 have all:∀x,x<pts.length->(az pts.length ts).1.getD x 0=0:=λx hx=>by
  obtain⟨r,er,hr,_⟩:=L 0 ⋯
  have e0:(az pts.length ts).1.getD 0 0=0:=by rw[er];omega
  by_cases z:x=0
  ·rw[z];exact e0
  have hm:pairD b pts 0 x∈eg (bP b pts):=(cF _).mem_iff.mpr (kM ⋯ hx)
  rw[e]at hm;obtain⟨t,ht,et⟩:=List.mem_map.mp hm;have:=h t ht;unfold eA pairD at et
  injection et with et
  injection et with _ et
  injection et with e1 et
  injection et with e2 _
  injection e1 with e1
  injection e2 with e2
  rw[show t.2.1=0 by omega,show t.2.2=x by omega,e0]at this
  exact this.symm
 have hr:bq (az pts.length ts).1=1:=by
  unfold bq;rw[l,show(λx=>decide ((az pts.length ts).1.getD x 0=(x:Int)))=λx=>decide ((az pts.length ts).1.getD x 0=(x:Int))from rfl]
  have:(List.range pts.length).countP (λx=>decide ((az pts.length ts).1.getD x 0=(x:Int)))=(List.range pts.length).countP (λx=>true&&decide (x=0)):=by
   refine List.countP_congr λx hx=>?_;rw[all x (List.mem_range.mp hx),Bool.true_and,decide_eq_true_iff,decide_eq_true_iff];omega
  rw[this,o1 (λ_=>true) 0,if_pos ⟨h0,rfl⟩]
 omega
def sd:bN:=λds Q=>∃j:Int,ds=[.int j]/\1<=j/\Q (.sh .bD)
theorem Pu(ds:List D)(Q:B->Prop)(h:sd ds Q):Fl {nx:=λ_=>Q (.sh .bD),rt:=λb _=>Q b} (a9 Bj.length ds):=by
 obtain⟨j,rfl,hj,h⟩:=h;unfold Fl;symm
 split
 ·omega
 ·exact h
theorem o9(n:Nat)(g:Nat->Int)(ts:List Tr)(ht:∀t∈ts,t.2.1<n/\t.2.2<n)(hg:∀t∈ts,g t.2.1=g t.2.2):∀x,x<n->g x=g ((az n ts).1.getD x 0).toNat:=by
 have key:∀(us:List Tr) (s:List Int×List Tr),(∀t∈us,t.2.1<n/\t.2.2<n)->(∀t∈us,g t.2.1=g t.2.2)->s.1.length=n->(∀x,x<n->g x=g (s.1.getD x 0).toNat)->∀x,x<n->g x=g ((us.foldl aI s).1.getD x 0).toNat:=by
  intro us
  induction us with
  | nil=>intro s _ _ _ h;exact h
  | cons u us ih =>
   intro s hu hgu l h;rw[List.foldl_cons];have M5:=hu u (.head _);have e:=hgu u (.head _);refine ih (aI s u) (λt ht=>hu t (.tail _ ht)) (λt ht=>hgu t (.tail _ ht)) ?_ ?_
   ·unfold aI
    split
    ·exact l
    ·show(dS s.1 u.2.1 u.2.2).length=n
     unfold dS;rw[aaR];exact l
   ·intro x hx
    unfold aI
    split
    ·exact h x hx
    ·show g x=g ((dS s.1 u.2.1 u.2.2).getD x 0).toNat
     rw[jA (by rw[l];exact hx)]
     have h1:=h u.2.1 M5.1;have h2:=h u.2.2 M5.2;have h3:=h x hx;have both:g (jv (s.1.getD u.2.1 0) (s.1.getD u.2.2 0)).toNat=g (qU (s.1.getD u.2.1 0) (s.1.getD u.2.2 0)).toNat:=by
      unfold jv qU
      by_cases q:s.1.getD u.2.2 0>s.1.getD u.2.1 0
      ·rw[if_pos q,if_neg ⋯,<- h1,<- h2,e]
      ·rw[if_neg q]
       by_cases q2:s.1.getD u.2.2 0<s.1.getD u.2.1 0
       ·rw[if_pos q2,<- h1,<- h2,e]
       ·rw[if_neg q2]
     split
     ·rename_i q
      rw[h3,q,both]
     ·exact h3
 exact key ts (bW n,[]) ht hg (pS n).2.2 λx hx=>by
  show g x=g ((bW n).getD x 0).toNat;unfold bW;rw[List.getD_eq_getElem?_getD,List.getElem?_map,List.getElem?_range hx];rfl
theorem xh{n:Nat}{ts us:List Tr}(h1:∀t∈ts,t.2.1<n/\t.2.2<n)(h2:∀t∈us,t.2.1<n/\t.2.2<n)(e:∀i j,(∃f,(f,i,j)∈ts) ↔ ∃f,(f,i,j)∈us):(az n ts).1=(az n us).1:=by
 obtain⟨L1,l1,_,a1⟩:=d6 n ts h1;obtain⟨L2,l2,_,a2⟩:=d6 n us h2;have le:∀(ts us:List Tr) (h1:∀t∈ts,t.2.1<n/\t.2.2<n) (L1:Gf (az n ts).1) (l1:(az n ts).1.length=n) (L2:Gf (az n us).1) (l2:(az n us).1.length=n) (a2:∀t∈us,(az n us).1.getD t.2.1 0=(az n us).1.getD t.2.2 0) (e:∀i j,(∃f,(f,i,j)∈ts)->∃f,(f,i,j)∈us),∀x,x<n->(az n us).1.getD x 0<=(az n ts).1.getD x 0:=by
  intro ts us h1 L1 l1 L2 l2 a2 e x hx;obtain⟨r,er,hr,_⟩:=L1 x (by rw[l1];exact hx)
  have:=o9 n (λy=>(az n us).1.getD y 0) ts h1 (λt ht=>by
   obtain⟨f,hf⟩:=e t.2.1 t.2.2 ⟨t.1,ht⟩;exact a2 (f,t.2.1,t.2.2) hf) x hx
  rw[er,Int.toNat_natCast]at this;rw[this,er];obtain⟨r2,er2,Z2,_⟩:=L2 r (by rw[l2];omega)
  rw[er2];omega
 apply List.ext_getElem
 ·rw[l1,l2]
 ·intro x SN sT
  have hx:x<n:=by rw[l1]at SN;exact SN
  have p:=le ts us h1 L1 l1 L2 l2 a2 (λi j=>(e i j).mp) x hx;have q:=le us ts h2 L2 l2 L1 l1 a1 (λi j=>(e i j).mpr) x hx;rw[List.getD_eq_getElem?_getD,List.getD_eq_getElem?_getD,aaQ SN,aaQ sT]at p q;exact Int.le_antisymm q p
def IV:D->Tr
 | .tup [.int f,.int i,.int j]=>(f,i.toNat,j.toNat)
 | _=>(0,0,0)
def n5(b:Bool)(pts:List (List Int)):List Tr:=(eg (bP b pts)).map IV
def A5(b:Bool)(pts:List (List Int)):List Tr:=(bP b pts).map IV
theorem p8(b:Bool)(pts:List (List Int))(i j:Nat):eA (IV (pairD b pts i j))=pairD b pts i j:=by
 show D.tup [.int _,.int ((((i:Int)).toNat:Nat):Int),.int ((((j:Int)).toNat:Nat):Int)]=_;rw[Int.toNat_natCast,Int.toNat_natCast];rfl
theorem n6(b:Bool)(pts:List (List Int)):eg (bP b pts)=(n5 b pts).map eA:=by
 unfold n5;rw[List.map_map]
 conv=>lhs;rw[<- List.map_id (eg (bP b pts))]
 refine List.map_congr_left λd hd=>?_;obtain⟨p,q,_,_,rfl⟩:=cI ((cF _).mem_iff.mp hd);exact(p8 b pts p q).symm
theorem R8(b:Bool)(pts:List (List Int)):bP b pts=(A5 b pts).map eA:=by
 unfold A5;rw[List.map_map]
 conv=>lhs;rw[<- List.map_id (bP b pts)]
 refine List.map_congr_left λd hd=>?_;obtain⟨p,q,_,_,rfl⟩:=cI hd;exact(p8 b pts p q).symm
theorem sO(b:Bool)(pts:List (List Int)):(n5 b pts).Perm (A5 b pts):=(cF (bP b pts)).map IV
theorem sN{b:Bool}{pts:List (List Int)}:∀t∈A5 b pts,t.2.1<t.2.2/\t.2.2<pts.length/\0<=t.1:=λt ht=>by
 obtain⟨d,hd,rfl⟩:=List.mem_map.mp ht;obtain⟨p,q,h1,h2,rfl⟩:=cI hd;exact⟨h1,h2,Mt b _ _⟩
theorem jg{b:Bool}{pts:List (List Int)}:∀t∈n5 b pts,t.2.1<t.2.2/\t.2.2<pts.length/\0<=t.1:=λt ht=>sN t ((sO b pts).mem_iff.mp ht)
theorem n8(b:Bool)(pts:List (List Int)):(n5 b pts).Pairwise λx y=>x.1<=y.1:=by
 have h:=gf (bP b pts);rw[n6 b pts,List.pairwise_map]at h;refine h.imp λ{x y} q=>?_;have q:(!HT.lexLt [y.1,(y.2.1:Int),(y.2.2:Int)] [x.1,(x.2.1:Int),(x.2.2:Int)])=true:=q;rw[HT.cj]at q
 by_cases e:y.1=x.1
 ·omega
 ·rw[if_neg e]at q
  by_cases g:y.1<x.1
  ·rw[decide_eq_true g]at q;cases q
  ·omega
theorem vS{l:List Tr}(h:l.Pairwise λx y=>x.1<=y.1)(c:Int):l=l.filter (λt=>decide (t.1<=c))++l.filter (λt=>decide (c<t.1)):=by
 induction l with
 | nil=>rfl
 | cons t l ih =>
  obtain⟨h1,h2⟩:=List.pairwise_cons.mp h
  by_cases e:t.1<=c
  ·rw[List.filter_cons_of_pos (by simpa using e),List.filter_cons_of_neg (by simp;omega),List.cons_append,<- ih h2]
  ·have n1:(t::l).filter (λt=>decide (t.1<=c))=[]:=List.filter_eq_nil_iff.mpr λx hx=>by
    rcases List.mem_cons.mp hx with rfl|hx
    ·simpa using e
    ·have:=h1 x hx;simp;omega
   rw[n1,List.nil_append];refine(List.filter_eq_self.mpr λx hx=>?_).symm;rcases List.mem_cons.mp hx with rfl|hx
   ·simp;omega
   ·have:=h1 x hx;simp;omega
theorem mU(n:Nat)(A B:List Tr):∃ex,(az n (A++B)).2=(az n A).2++ex/\∀t∈ex,t∈B:=by
 have key:∀(us:List Tr) (s:List Int×List Tr),∃ex,(us.foldl aI s).2=s.2++ex/\∀t∈ex,t∈us:=by
  intro us
  induction us with
  | nil=>intro s;exact⟨[],by simp,λt ht=>by cases ht⟩
  | cons u us ih =>
   intro s;rw[List.foldl_cons];obtain⟨ex,e1,e2⟩:=ih (aI s u);have hs:(aI s u).2=s.2\/(aI s u).2=s.2++[u]:=by
    unfold aI
    split
    ·exact .inl rfl
    ·exact .inr rfl
   rcases hs with hs|hs
   ·exact⟨ex,by rw[e1,hs],λt ht=>.tail _ (e2 t ht)⟩
   ·refine⟨u::ex,by rw[e1,hs,List.append_assoc];rfl,λt ht=>?_⟩
    rcases List.mem_cons.mp ht with rfl|ht
    ·exact .head _
    ·exact .tail _ (e2 t ht)
 unfold az;rw[List.foldl_append];exact key B _
def cD(b:Bool)(pts:List (List Int))(c:Int):List Tr:=(n5 b pts).filter λt=>decide (t.1<=c)
def eC(b:Bool)(pts:List (List Int))(c:Int):List Int:=(az pts.length (cD b pts c)).1
def bB(b:Bool)(pts:List (List Int)):List Tr:=(az pts.length (n5 b pts)).2
theorem fo{b:Bool}{pts:List (List Int)}{c:Int}:∀t∈cD b pts c,t.2.1<pts.length/\t.2.2<pts.length:=λt ht=>by
 have:=jg t (List.mem_filter.mp ht).1;omega
theorem jC(b:Bool)(pts:List (List Int))(c:Int):Gf (eC b pts c)/\(eC b pts c).length=pts.length:=by
 obtain⟨h1,h2,_,_⟩:=d6 pts.length (cD b pts c) fo;exact⟨h1,h2⟩
theorem uS(b:Bool)(pts:List (List Int))(c:Int):(az pts.length ((A5 b pts).filter λt=>decide (t.1<=c))).1=eC b pts c:=by
 refine xh (λt ht=>by have:=sN t (List.mem_filter.mp ht).1;omega) fo λi j=>?_
 have hp:=((sO b pts).filter λt=>decide (t.1<=c));exact⟨λ⟨f,h⟩=>⟨f,hp.mem_iff.mpr h⟩,λ⟨f,h⟩=>⟨f,hp.mem_iff.mp h⟩⟩
theorem xC(b:Bool)(pts:List (List Int))(c:Int){k:Nat}{t:Tr}(h:(bB b pts)[k]?=some t):(t.1<=c->bq (eC b pts c)+k+1<=pts.length)/\(c<t.1->pts.length<=bq (eC b pts c)+k):=by
 obtain⟨_,_,h3,_⟩:=d6 pts.length (cD b pts c) fo;obtain⟨ex,e1,e2⟩:=mU pts.length (cD b pts c) ((n5 b pts).filter λt=>decide (c<t.1));have es:n5 b pts=cD b pts c++(n5 b pts).filter (λt=>decide (c<t.1)):=vS (n8 b pts) c;rw[<- es]at e1;have e1:bB b pts=_:=e1;rw[e1]at h;have h3:(az pts.length (cD b pts c)).2.length+bq (eC b pts c)=pts.length:=h3;obtain⟨_,_,f3⟩:=eM pts.length (cD b pts c);refine⟨λhc=>?_,λhc=>?_⟩
 ·have hk:k<(az pts.length (cD b pts c)).2.length:=by
   apply Nat.lt_of_not_le;intro z;rw[List.getElem?_append_right z]at h;have:=(List.mem_filter.mp (e2 t (List.mem_of_getElem? h))).2;simp at this;omega
  omega
 ·have hk:(az pts.length (cD b pts c)).2.length<=k:=by
   apply Nat.le_of_not_lt;intro z;rw[List.getElem?_append_left z]at h;have:=(List.mem_filter.mp (f3 t (List.mem_of_getElem? h))).2;simp at this;omega
  omega
theorem dJ{b:Bool}{pts:List (List Int)}:(bB b pts).length=pts.length-1:=by
 unfold bB;rcases Nat.eq_zero_or_pos pts.length with z|z
 ·have:n5 b pts=[]:=by
   cases e:n5 b pts with
   | nil=>rfl
   | cons t r=>have:=(jg t (by rw[e];exact .head _)).2.1;omega
  rw[this,z];rfl
 ·have:=A3 (n6 b pts) (λt ht=>⟨(jg t ht).1,(jg t ht).2.1⟩) z
  omega
def pick(f:Nat->Int)(n:Nat)(r:Nat):List D:=((List.range n).filter λk=>decide (f k=(r:Int))).map λk:Nat=>D.int (k:Int)
def hJ(f:Nat->Int)(m:Nat):List (Int×List D):=(List.range m).filterMap λr=>if f r=(r:Int)then some ((r:Int),pick f m r)else none
def cM(f:Nat->Int)(n:Nat):List D:=(List.range n).filterMap λr=>if f r=(r:Int)then some (D.lst (pick f n r))else none
def BF(vs:List (Int×List D))(k:Int)(d:D):List (Int×List D):=if(vs.any λt=>decide (t.1=k))=true then vs.map (λt=>if t.1=k then(t.1,t.2++[d])else t)else vs++[(k,[d])]
def vw(ts:Gb):List (Int×List D):=ts.map λt=>(t.1,t.2.2)
theorem Sg(ts:Gb)(k:Int)(p:Addr)(d:D):vw (gF ts k p d)=BF (vw ts) k d:=by
 unfold gF BF vw;rw[List.any_map];have e:((λt:Int×List D=>decide (t.1=k)) ∘ λt:Int×Addr×List D=>(t.1,t.2.2))=λt=>decide (t.1=k):=rfl;rw[e]
 split
 ·rw[List.map_map,List.map_map]
  refine List.map_congr_left λt _=>?_;show((if t.1=k then(t.1,t.2.1,t.2.2++[d])else t).1,(if t.1=k then(t.1,t.2.1,t.2.2++[d])else t).2.2)=if t.1=k then(t.1,t.2.2++[d])else(t.1,t.2.2)
  split<;>rfl
 ·rw[List.map_append];rfl
theorem kR(f:Nat->Int)(m r:Nat):pick f (m+1) r=pick f m r++if f m=(r:Int)then [D.int (m:Int)]else []:=by
 unfold pick;rw[List.range_succ,List.filter_append,List.map_append];congr 1
 by_cases h:f m=(r:Int)
 ·rw[if_pos h,List.filter_cons_of_pos (by simpa using h)];rfl
 ·rw[if_neg h,List.filter_cons_of_neg (by simpa using h)];rfl
theorem fV{α β:Type}{f g:α->Option β}:∀ {l:List α},(∀x∈l,f x=g x)->l.filterMap f=l.filterMap g
 | [],_=>rfl
 | x::l,h=>by
  rw[List.filterMap_cons,List.filterMap_cons,h x (.head _),fV λy hy=>h y (.tail _ hy)]
theorem A8{f:Nat->Int}{m:Nat}(hf:∀x,x<=m->∃r:Nat,f x=(r:Int)/\r<=x/\f r=(r:Int)):BF (hJ f m) (f m) (.int (m:Int))=hJ f (m+1):=by
 obtain⟨r0,e0,h0,e1⟩:=hf m (Nat.le_refl _);have rhs:hJ f (m+1)=((List.range m).filterMap λr=>if f r=(r:Int)then some ((r:Int),pick f (m+1) r)else none)++if f m=(m:Int)then [((m:Int),pick f (m+1) m)]else []:=by
  unfold hJ;rw[List.range_succ,List.filterMap_append];congr 1
  by_cases h:f m=(m:Int)
  ·rw[if_pos h];simp [h]
  ·rw[if_neg h];simp [h]
 rw[rhs]
 by_cases h:r0=m
 ·subst h
  rw[if_pos e0];have Y1:((hJ f r0).any λt=>decide (t.1=f r0))=false:=List.any_eq_false.mpr λt ht=>by
   obtain⟨r,hr,e⟩:=List.mem_filterMap.mp ht;have hr:=List.mem_range.mp hr
   split at e
   ·cases e
    rw[e0];simp;omega
   ·cases e
  unfold BF;rw[if_neg (by rw[Y1];decide)]
  congr 1
  ·unfold hJ
   refine fV λr hr=>?_;have hr:=List.mem_range.mp hr;have hp:pick f (r0+1) r=pick f r0 r:=by rw[kR,if_neg (by rw[e0];omega),List.append_nil]
   rw[hp]
  ·rw[kR,if_pos e0,e0]
   have:pick f r0 r0=[]:=by
    unfold pick;rw[List.map_eq_nil_iff,List.filter_eq_nil_iff];intro k hk;have hk:=List.mem_range.mp hk;obtain⟨r,er,hr,_⟩:=hf k ⋯
    rw[er];simp;omega
   rw[this];rfl
 ·rw[if_neg (by rw[e0];omega),List.append_nil]
  have Y2:((hJ f m).any λt=>decide (t.1=f m))=true:=List.any_eq_true.mpr ⟨((r0:Int),pick f m r0),List.mem_filterMap.mpr ⟨r0,List.mem_range.mpr ⋯,by rw[if_pos e1]⟩,by rw[e0];simp⟩
  unfold BF;rw[if_pos Y2];unfold hJ;rw[List.map_filterMap];refine fV λr hr=>?_
  by_cases q:f r=(r:Int)
  ·rw[if_pos q,if_pos q,Option.map_some,kR,e0]
   by_cases z:(r:Int)=(r0:Int)
   ·rw[if_pos z,if_pos z.symm]
   ·rw[if_neg z,if_neg (λy=>z y.symm),List.append_nil]
  ·rw[if_neg q,if_neg q];rfl
theorem AJ(f:Nat->Int)(n:Nat):(hJ f n).map (λv=>D.lst v.2)=cM f n:=by
 unfold hJ cM;rw[List.map_filterMap];refine fV λr _=>?_
 split<;>rfl
theorem Eg(f:Nat->Int)(n:Nat):(cM f n).length=(List.range n).countP λr=>decide (f r=(r:Int)):=by
 unfold cM;have:∀l:List Nat,(l.filterMap λr=>if f r=(r:Int)then some (D.lst (pick f n r))else none).length=l.countP λr=>decide (f r=(r:Int)):=by
  intro l
  induction l with
  | nil=>rfl
  | cons x l ih =>
   by_cases h:f x=(x:Int)
   ·rw[List.filterMap_cons_some (by rw[if_pos h]),List.length_cons,ih,List.countP_cons_of_pos (by simpa using h)]
   ·rw[List.filterMap_cons_none (by rw[if_neg h]),ih,List.countP_cons_of_neg (by simpa using h)]
 exact this _
def aY(b:Bool)(pts:List (List Int))(c:Int)(x:Nat):Int:=(eC b pts c).getD x 0
theorem fk{b:Bool}{pts:List (List Int)}{c:Int}:∀x,x<pts.length->∃r:Nat,aY b pts c x=(r:Int)/\r<=x/\aY b pts c r=(r:Int):=λx hx=>by
 obtain⟨L,l⟩:=jC b pts c;exact L x (by rw[l];exact hx)
theorem jb(b:Bool)(pts:List (List Int))(c:Int):(cM (aY b pts c) pts.length).length=bq (eC b pts c):=by
 rw[Eg];unfold bq;rw[(jC b pts c).2];rfl
theorem iu{b:Bool}{pts:List (List Int)}{l:List D}(h:Bh b pts l):l=(bB b pts).map eA:=by
 obtain⟨ts,e,rfl⟩:=h;rw[n6 b pts]at e;rw[<- zu _ _ e];rfl
def Qp(t:Tr):D:=.tup [.int (t.2.1:Nat),.int (t.2.2:Nat)]
theorem yT(b:Bool)(pts:List (List Int))(c:Int):lC b pts c=((A5 b pts).filter λt=>decide (t.1<=c)).map Qp:=by
 unfold lC;rw[R8 b pts,List.filterMap_map];have:∀l:List Tr,l.filterMap (nearF c ∘ eA)=(l.filter λt=>decide (t.1<=c)).map Qp:=by
  intro l
  induction l with
  | nil=>rfl
  | cons t l ih =>
   have e:(nearF c ∘ eA) t=if decide (t.1<=c)=true then some (Qp t)else none:=vh c t
   by_cases h:t.1<=c
   ·rw[List.filterMap_cons_some (by rw[e,if_pos (decide_eq_true h)]),ih,List.filter_cons_of_pos (by simpa using h)];rfl
   ·rw[List.filterMap_cons_none (by rw[e,if_neg (by rw[decide_eq_false h];decide)]),ih,List.filter_cons_of_neg (by simpa using h)]
 exact this _
theorem GJ(ts:Gb)(k:Int)(p:Addr)(d:D)(m:Nat)(h1:ts.length<=m)(h2:∀t∈ts,t.2.2.length<=m):(gF ts k p d).length<=m+1/\∀t∈gF ts k p d,t.2.2.length<=m+1:=by
 unfold gF
 split
 ·refine⟨by rw[aaR];omega,λt ht=>?_⟩
  obtain⟨u,hu,rfl⟩:=List.mem_map.mp ht;have:=h2 u hu
  split
  ·show(u.2.2++[d]).length<=m+1
   rw[List.length_append,List.length_singleton];omega
  ·omega
 ·refine⟨by rw[List.length_append,List.length_singleton];omega,λt ht=>?_⟩
  rcases List.mem_append.mp ht with ht|ht
  ·have:=h2 t ht;omega
  ·rw[List.mem_singleton.mp ht];exact Nat.succ_le_succ (Nat.zero_le _)
def iq:bN:=λds Q=>∃b n pts c,ds=[df pts,dg b,.int c]/\Good n pts/\pts.length<=1000/\0<=c/\Q (.own (cM (aY b pts c) pts.length))
theorem Ee(ds:List D)(Q:B->Prop)(h:iq ds Q):RV kc dI {nx:=λ_=>Q (.sh .bD),rt:=λb _=>Q b} (a9 KH.length ds):=by
 obtain⟨b,n,pts,c,rfl,hg,hl,hc,h⟩:=h;unfold RV;rw[show df pts=.lst (pts.map d8)from rfl]
 refine au λN hN=>?_;symm;rw[aaR,Int.toNat_natCast,nG];refine⟨by omega,?_⟩
 subst hN;refine au λN hN=>?_;show cZ _ _ _ _ _;generalize ht:cT _ _ _=tb;symm;refine⟨b,n,pts,c,rfl,hg,hl,hc,?_⟩;rw[yT];symm;have bU:∀t∈(A5 b pts).filter (λt=>decide (t.1<=c)),t.2.1<pts.length/\t.2.2<pts.length:=λt ht=>by have:=sN t (List.mem_filter.mp ht).1;omega
 have hlb:=uS b pts c;generalize hes:(A5 b pts).filter (λt=>decide (t.1<=c))=es at bU hlb;refine dB Qp es (λi σ=>∃x4 x5,σ=[some (.sh (.lst (pts.map d8))),some (.sh (dg b)),some (.sh (.int c)),some (.own ((az pts.length (es.take i)).1.map D.int)),x4,x5,none,none,none]) (λi t σ N' hx hI oh=>?_) (λσ hI=>?_) ⟨none,none,rfl⟩
 ·obtain⟨x4,x5,rfl⟩:=hI
  subst ht;obtain⟨h1,h2⟩:=bU t (List.mem_of_getElem? hx);obtain⟨f1,_,_⟩:=eM pts.length (es.take i);unfold Qp;walk_at "vg";symm;refine bw (n:=t.2.1) rfl (fj ⋯) ?_
  refine bw (n:=t.2.2) rfl (fj ⋯) ?_
  refine⟨⟨rfl,rfl⟩,?_⟩;rw[dA];have fs:=fold_succ (n:=pts.length) hx;unfold aI at fs
  by_cases hq:(az pts.length (es.take i)).1.getD t.2.1 0=(az pts.length (es.take i)).1.getD t.2.2 0
  ·rw[if_pos hq]at fs
   exact(if_neg (by rw[decide_eq_true hq];decide)).mpr (oh _ ⟨_,_,by rw[fs]⟩)
  ·rw[if_neg hq]at fs
   refine(if_pos (by rw[decide_eq_false hq])).mpr ?_
   refine⟨_,t.2.1,t.2.2,rfl,by omega,by omega,by omega,?_⟩
   symm;exact oh _ ⟨_,_,by rw[fs]⟩
 ·obtain⟨x4,x5,rfl⟩:=hI
  rw[List.take_length,hlb];subst hN;clear ht;dsimp only;refine au λN hN=>?_;unfold RC;symm;subst hN;refine au λN hN=>?_;generalize ht:tSA 6 8 7=tb;symm;rw[o7];have ll:=(jC b pts c).2;refine dB (λq:Nat×Int=>.tup [.int (q.1:Nat),.int q.2]) _ (λi σ=>∃(ts:Gb) (x7 x8:Option B),σ=[some (.sh (.lst (pts.map d8))),some (.sh (dg b)),some (.sh (.int c)),some (.sh (.lst ((eC b pts c).map D.int))),x4,x5,some (.obj (Ba ts)),x7,x8]/\ts.length<=i/\(∀t∈ts,t.2.2.length<=i)/\vw ts=hJ (aY b pts c) i) (λi q σ N' hx hI oh=>?_) (λσ hI=>?_) ⟨[],none,none,rfl,Nat.zero_le _,(λt ht=>by cases ht),rfl⟩
  ·obtain⟨ts,x7,x8,rfl,l1,l2,hv⟩:=hI
   obtain⟨M3,He⟩:=tW hx;have hi:i<pts.length:=by rw[<- ll];exact(List.getElem?_eq_some_iff.mp He).1
   obtain⟨q1,q2⟩:=q;have M3:q1=i:=M3;subst M3;have He:(eC b pts c)[q1]?=some q2:=He;have hq3:aY b pts c q1=q2:=by unfold aY;rw[List.getD_eq_getElem?_getD,He];rfl
   walk_at "vg";subst ht;refine⟨ts,q2,.int (q1:Nat),rfl,rfl,rfl,by omega,λt ht=>by have:=l2 t ht;omega,λp=>?_⟩
   obtain⟨a1,a2⟩:=GJ ts q2 p (.int (q1:Nat)) q1 l1 l2;exact oh _ ⟨_,_,_,rfl,a1,a2,by rw[Sg,hv,<- hq3];exact A8 λx hx=>fk x ⋯⟩
  ·obtain⟨ts,x7,x8,rfl,l1,l2,hv⟩:=hI
   subst hN;refine⟨ts,rfl,?_⟩;rw[List.length_mapIdx,ll]at hv;have e:(ts.map λt=>D.lst t.2.2)=cM (aY b pts c) pts.length:=by
    rw[<- AJ,<- hv];unfold vw;rw[List.map_map];rfl
   rw[e];exact h
def mE(b:Bool)(pts:List (List Int)):D:=if pts=[]then .bD else(Au ((bB b pts).map λt=>.int t.1)).getD (.int 0)
theorem x9{b:Bool}{pts:List (List Int)}(hl:pts.length<=1000):(bB b pts).length<=1000:=by rw[dJ];omega
def rZ:bN:=λds Q=>∃b n pts,ds=[df pts,dg b]/\Good n pts/\pts.length<=1000/\Q (.sh (mE b pts))
theorem Pn(ds:List D)(Q:B->Prop)(h:rZ ds Q):RT gh {nx:=λ_=>Q (.sh .bD),rt:=λb _=>Q b} (a9 KD.length ds):=by
 obtain⟨b,n,pts,rfl,hg,hl,h⟩:=h;unfold RT;refine au λN hN=>?_;symm;refine⟨b,n,pts,rfl,hg,hl,λl hi _ _=>?_⟩;obtain rfl:=iu hi;symm;subst hN;rw[show df pts=.lst (pts.map d8)from rfl]
 refine au λN hN=>?_;symm;unfold mE at h
 by_cases hp:pts=[]
 ·rw[if_pos hp]at h
  subst hp;exact(if_pos ∅).mpr h
 ·rw[if_neg hp]at h
  refine(if_neg (by cases pts with|nil=>exact absurd rfl hp|cons=>simp)).mpr ?_
  subst hN;symm;unfold Fg;symm;refine dh eA (λt=>.int t.1) _ (λt _ A ha=>?_) (by rw[sz];have:=x9 (b:=b) hl;omega) ?_
  ·unfold eA
   walk_at "vg";symm;exact ha
  ·symm
   exact⟨qh (bB b pts) (·.1),h⟩
def yk(b:Bool)(pts:List (List Int))(m:Nat):Int:=if pts.length<=m then 0 else((bB b pts).getD (pts.length-m-1) (0,0,0)).1
def zj:bN:=λds Q=>∃b n pts,∃m:Nat,ds=[df pts,dg b,.int (m:Int)]/\Good n pts/\pts.length<=1000/\1<=m/\Q (.sh (.int (yk b pts m)))
theorem aap(ds:List D)(Q:B->Prop)(h:zj ds Q):RP gh sd {nx:=λ_=>Q (.sh .bD),rt:=λb _=>Q b} (a9 Kz.length ds):=by
 obtain⟨b,n,pts,m,rfl,hg,hl,hm,h⟩:=h;unfold RP;refine au λN hN=>?_;symm;refine⟨b,n,pts,rfl,hg,hl,λl hi _ _=>?_⟩;obtain rfl:=iu hi;symm;subst hN;refine au λN hN=>?_;symm;refine⟨_,rfl,by omega,?_⟩
 symm;subst hN;rw[show df pts=.lst (pts.map d8)from rfl]
 refine au λN hN=>?_;symm;rw[aaR];unfold yk at h
 by_cases hp:pts.length<=m
 ·rw[if_pos hp]at h
  exact(if_pos ⋯).mpr h
 ·rw[if_neg hp]at h
  refine(if_neg ⋯).mpr ?_
  subst hN;symm;rw[aaR];have hi:pts.length-m-1<(bB b pts).length:=by rw[dJ];omega
  refine bw (n:=pts.length-m-1) ⋯ (show _=some (eA ((bB b pts).getD (pts.length-m-1) (0,0,0)))by rw[List.getElem?_map,List.getD_eq_getElem?_getD,aaQ hi];rfl) ?_
  unfold eA;exact An (n:=0) rfl rfl h
theorem HH(b:Bool)(pts:List (List Int))(bound:Int):∃ps:List (Nat×Nat),lC b pts bound=ps.map (λp=>D.tup [.int (p.1:Nat),.int (p.2:Nat)])/\∀p∈ps,p.1<p.2/\p.2<pts.length:=by
 have:∀l:List D,(∀d∈l,∃p:Nat×Nat,d=.tup [.int (p.1:Nat),.int (p.2:Nat)]/\p.1<p.2/\p.2<pts.length)->∃ps:List (Nat×Nat),l=ps.map (λp=>D.tup [.int (p.1:Nat),.int (p.2:Nat)])/\∀p∈ps,p.1<p.2/\p.2<pts.length:=by
  intro l
  induction l with
  | nil=>intro _;exact⟨[],rfl,λp hp=>by cases hp⟩
  | cons d l ih =>
   intro h;obtain⟨p,rfl,hp⟩:=h d (List.mem_cons_self ..);obtain⟨ps,e,SJ⟩:=ih λx hx=>h x (List.mem_cons_of_mem _ hx);refine⟨p::ps,by rw[e];rfl,λx hx=>?_⟩
   rcases List.mem_cons.mp hx with rfl|hx
   ·exact hp
   ·exact SJ x hx
 refine this _ λd hd=>?_;obtain⟨x,hx,h⟩:=List.mem_filterMap.mp hd;obtain⟨p,q,h1,h2,rfl⟩:=cI hx;have:(if eZ b (pts.getD p []) (pts.getD q [])<=bound then some (D.tup [.int (p:Nat),.int (q:Nat)])else none)=some d:=h
 split at this
 ·exact⟨(p,q),(Option.some.inj this).symm,h1,h2⟩
 ·cases this
def MO(nr:Int->Int->Bool):Nat->List Int->List Int
 | 0,_=>[]
 | _+1,[]=>[]
 | k+1,x::r=>if(MO nr k r).length<=(x::MO nr k (r.filter λy=>!nr x y)).length then x::MO nr k (r.filter λy=>!nr x y)else MO nr k r
theorem qd(nr:Int->Int->Bool):∀(k:Nat) (l:List Int),l.length<=k->l.Pairwise (λx y:Int=>x<y) ->
  (MO nr k l).Sublist l/\(MO nr k l).Pairwise (λx y=>nr x y=false)/\∀qs:List Int,qs.Sublist l->qs.Pairwise (λx y=>nr x y=false)->qs.length<=(MO nr k l).length/\(qs.length=(MO nr k l).length->HT.lexLt qs (MO nr k l)=false)
 | 0,l,h,_=>by
  have:l=[]:=List.length_eq_zero_iff.mp ⋯
  subst this;refine⟨List.Sublist.refl _,List.Pairwise.nil,λqs hq _=>?_⟩;have:=List.eq_nil_of_sublist_nil hq;subst this;exact⟨Nat.le_refl _,λ_=>rfl⟩
 | k+1,[],_,_=>by
  refine⟨List.Sublist.refl _,List.Pairwise.nil,λqs hq _=>?_⟩;have:=List.eq_nil_of_sublist_nil hq;subst this;exact⟨Nat.le_refl _,λ_=>rfl⟩
 | k+1,x::r,h,hp=>by
  rw[List.length_cons]at h;rw[List.pairwise_cons]at hp;have Yk:(r.filter λy=>!nr x y).length<=r.length:=List.length_filter_le _ _;have hfs:(r.filter λy=>!nr x y).Sublist r:=List.filter_sublist;obtain⟨s1,p1,b1⟩:=qd nr k (r.filter λy=>!nr x y) ⋯ (hp.2.sublist hfs)
  obtain⟨s2,p2,b2⟩:=qd nr k r ⋯ hp.2
  have pt:(x::MO nr k (r.filter λy=>!nr x y)).Pairwise (λx y=>nr x y=false):=by
   rw[List.pairwise_cons];refine⟨λy hy=>?_,p1⟩;have:=(List.mem_filter.mp (s1.subset hy)).2;simpa using this
  have key:∀qs:List Int,qs.Sublist (x::r)->qs.Pairwise (λx y=>nr x y=false)->(qs.Sublist r\/∃q',qs=x::q'/\q'.Sublist (r.filter λy=>!nr x y)/\q'.Pairwise (λx y=>nr x y=false)):=by
   intro qs hq hi;cases hq with
   | cons _ hq=>exact .inl hq
   | cons_cons _ hq =>
    rename_i q';rw[List.pairwise_cons]at hi;refine .inr ⟨q',rfl,?_,hi.2⟩;have:q'.filter (λy=>!nr x y)=q':=List.filter_eq_self.mpr λy hy=>by rw[hi.1 y hy];rfl
    rw[<- this];exact hq.filter _
  show(if(MO nr k r).length<=(x::MO nr k (r.filter λy=>!nr x y)).length then x::MO nr k (r.filter λy=>!nr x y)else MO nr k r).Sublist (x::r)/\_
  rw[show MO nr (k+1) (x::r)=if(MO nr k r).length<=(x::MO nr k (r.filter λy=>!nr x y)).length then x::MO nr k (r.filter λy=>!nr x y)else MO nr k r from rfl]
  by_cases hc:(MO nr k r).length<=(x::MO nr k (r.filter λy=>!nr x y)).length
  ·rw[if_pos hc]
   refine⟨(s1.trans hfs).cons_cons x,pt,λqs hq hi=>?_⟩;rcases key qs hq hi with h1|⟨q',rfl,h1,h2⟩
   ·obtain⟨c1,c2⟩:=b2 qs h1 hi
    refine⟨by omega,λe=>?_⟩
    cases qs with
    | nil=>simp at e
    | cons q qs =>
     have:x<q:=hp.1 q (h1.subset (List.mem_cons_self ..));rw[HT.cj,if_neg ⋯,decide_eq_false ⋯]
   ·obtain⟨c1,c2⟩:=b1 q' h1 h2
    rw[List.length_cons,List.length_cons];refine⟨by omega,λe=>?_⟩
    rw[HT.cj,if_pos rfl];exact c2 ⋯
  ·rw[if_neg hc]
   refine⟨s2.cons x,p2,λqs hq hi=>?_⟩;rcases key qs hq hi with h1|⟨q',rfl,h1,h2⟩
   ·exact b2 qs h1 hi
   ·obtain⟨c1,c2⟩:=b1 q' h1 h2
    rw[List.length_cons]at hc ⊢;exact⟨by omega,λe=>by omega⟩
def pl(n b:Nat):List Int:=((List.range n).filter λi=>b.testBit i).map λi:Nat=>(i:Int)
def dN(n:Nat):List Int:=(List.range n).map λi:Nat=>(i:Int)
theorem rH(n:Nat):(dN n).Pairwise λx y:Int=>x<y:=by
 unfold dN;rw[List.pairwise_map];exact List.pairwise_lt_range.imp λh=>by omega
def Oi(b:Bool)(pts:List (List Int))(bd x y:Int):Bool:=decide (0<=x/\x<y/\y<pts.length/\eZ b (pts.getD x.toNat []) (pts.getD y.toNat [])<=bd)
theorem D3{b:Bool}{pts:List (List Int)}{bd:Int}{i j:Nat}:D.tup [.int (i:Nat),.int (j:Nat)]∈lC b pts bd ↔ i<j/\j<pts.length/\eZ b (pts.getD i []) (pts.getD j [])<=bd:=by
 unfold lC;rw[List.mem_filterMap];constructor
 ·rintro⟨x,hx,h⟩
  obtain⟨p,q,h1,h2,rfl⟩:=cI hx;have:(if eZ b (pts.getD p []) (pts.getD q [])<=bd then some (D.tup [.int (p:Nat),.int (q:Nat)])else none)=some (D.tup [.int (i:Nat),.int (j:Nat)]):=h
  split at this
  ·rename_i hf
   simp only[Option.some.injEq,D.tup.injEq,List.cons.injEq,D.int.injEq,and_true]at this;obtain⟨e1,e2⟩:=this;have e1:p=i:=by omega
   have e2:q=j:=by omega
   subst e1 e2;exact⟨h1,h2,hf⟩
  ·cases this
 ·rintro⟨h1,h2,hf⟩
  refine⟨pairD b pts i j,kM h1 h2,?_⟩;show(if eZ b (pts.getD i []) (pts.getD j [])<=bd then some (D.tup [.int (i:Nat),.int (j:Nat)])else none)=_
  rw[if_pos hf]
def j9:Nat->bN
 | 0=>λ_ _=>False
 | k+1=>λds Q=>∃(l:List Int) (kvs:List (D×D)),ds=[.lst (l.map D.int),.dct kvs]/\l.length<=k/\k<=1000/\Q (.own ((MO (λx y=>(de kvs (.tup [.int x,.int y])).isSome) k l).map D.int))
theorem Ck{α:Type}{xs:List α}{n:Nat}(h:n<=xs.length):cut xs (some (n:Int)) none=xs.drop n:=by
 unfold cut;rw[HT.vO,HT.zf,Nat.min_eq_left h,List.take_of_length_le (by rw[List.length_drop];omega)]
theorem Cm{α:Type}(x:α)(r:List α):cut (x::r) (some 1) none=r:=by
 have:=Ck (xs:=x::r) (n:=1) (by simp)
 exact this
theorem wK(nr:Int->Int->Bool):∀(k:Nat) (l:List Int),(MO nr k l).length<=l.length
 | 0,l=>Nat.zero_le _
 | k+1,[]=>Nat.le_refl _
 | k+1,x::r=>by
  have h1:=wK nr k r;have h2:=wK nr k (r.filter λy=>!nr x y);have h3:(r.filter λy=>!nr x y).length<=r.length:=List.length_filter_le _ _;rw[show MO nr (k+1) (x::r)=if(MO nr k r).length<=(x::MO nr k (r.filter λy=>!nr x y)).length then x::MO nr k (r.filter λy=>!nr x y)else MO nr k r from rfl]
  split
  ·rw[List.length_cons,List.length_cons];omega
  ·rw[List.length_cons];omega
theorem Pp(k:Nat)(ds:List D)(Q:B->Prop)(h:j9 (k+1) ds Q):FD (j9 k) {nx:=λ_=>Q (.sh .bD),rt:=λb _=>Q b} (a9 Bz.length ds):=by
 obtain⟨l,kvs,rfl,hl,hk,h⟩:=h;unfold FD;refine au λN hN=>?_;symm;cases l with
 | nil =>
  refine(if_pos rfl).mpr ⟨by decide,?_⟩
  have e:MO (λx y=>(de kvs (.tup [.int x,.int y])).isSome) k []=[]:=by cases k<;>rfl
  rw[e]at h;exact h
 | cons x r =>
 refine(if_neg (by intro z;cases z)).mpr ?_
 obtain⟨k,rfl⟩:∃k',k=k'+1:=⟨k-1,by rw[List.length_cons]at hl;omega⟩
 rw[List.length_cons]at hl;subst hN;refine au λN hN=>?_;symm;refine bw (n:=0) rfl (by rfl) ?_
 subst hN;refine au λN hN=>?_;symm;rw[Cm];subst hN;refine au λN hN=>?_;symm;have hz:r.length<=sizeLine:=by rw[sz];omega
 refine⟨by decide,eK D.int (λy=>if(de kvs (.tup [.int x,.int y])).isSome=true then none else some (D.int y)) r (λy hy A Bn ha=>?_) hz ?_⟩
 ·symm
  refine⟨by decide,rfl,?_⟩
  by_cases hd:(de kvs (.tup [.int x,.int y])).isSome=true
  ·rw[if_pos hd]at ha
   exact(if_neg (by rw[hd];decide)).mpr ha
  ·rw[if_neg hd]at ha
   exact(if_pos (by simpa using hd)).mpr ha
 ·rw[show(r.filterMap λy=>if(de kvs (.tup [.int x,.int y])).isSome=true then none else some (D.int y))=(r.filter λy=>!(de kvs (.tup [.int x,.int y])).isSome).map D.int from by
   clear hz hl h
   induction r with
   | nil=>rfl
   | cons y r ih =>
    rw[List.filterMap_cons,List.filter_cons];cases hd:(de kvs (.tup [.int x,.int y])).isSome with
    | true=>simp only[if_true,Bool.not_true,Bool.false_eq_true,if_false];exact ih
    | false=>simp only[Bool.false_eq_true,if_false,Bool.not_false,if_true,List.map_cons];rw[ih]]
  have hf:(r.filter λy=>!(de kvs (.tup [.int x,.int y])).isSome).length<=r.length:=List.length_filter_le _ _;refine⟨_,kvs,rfl,by omega,by omega,?_⟩
  try symm
  have m1:=wK (λx y=>(de kvs (.tup [.int x,.int y])).isSome) k (r.filter λy=>!(de kvs (.tup [.int x,.int y])).isSome);refine⟨by rw[aaR,sz];show 1+_<=_;omega,?_⟩
  subst hN;refine au λN hN=>?_;symm;refine⟨r,kvs,rfl,by omega,by omega,?_⟩
  try symm
  subst hN;symm;have e:MO (λx y=>(de kvs (.tup [.int x,.int y])).isSome) (k+1) (x::r)=if(MO (λx y=>(de kvs (.tup [.int x,.int y])).isSome) k r).length<=(x::MO (λx y=>(de kvs (.tup [.int x,.int y])).isSome) k (r.filter λy=>!(de kvs (.tup [.int x,.int y])).isSome)).length then x::MO (λx y=>(de kvs (.tup [.int x,.int y])).isSome) k (r.filter λy=>!(de kvs (.tup [.int x,.int y])).isSome)else MO (λx y=>(de kvs (.tup [.int x,.int y])).isSome) k r:=rfl
  rw[e]at h;simp only[aaR,List.length_cons]at h ⊢
  split
  ·rename_i hc
   rw[if_pos ⋯]at h
   exact h
  ·rename_i hc
   rw[if_neg ⋯]at h
   exact h
def r9:bN:=λds Q=>∃(pts:List (List Int)) (m:Nat),ds=[df pts,.int (m:Int)]/\pts.length<=m/\Q (.sh .bD)
theorem Pq(ds:List D)(Q:B->Prop)(h:r9 ds Q):RU {nx:=λ_=>Q (.sh .bD),rt:=λb _=>Q b} (a9 KG.length ds):=by
 obtain⟨pts,m,rfl,hm,h⟩:=h;unfold RU;rw[show df pts=.lst (pts.map d8)from rfl]
 symm;rw[aaR];exact(if_neg ⋯).mpr h
def prD(p:Nat×Nat):D:=.tup [.int (p.1:Nat),.int (p.2:Nat)]
theorem CN(kvs:List (D×D))(d v:D):(dput kvs d v).length<=kvs.length+1:=by
 unfold dput
 split
 ·rw[aaR];omega
 ·rw[List.length_append];exact Nat.le_refl _
theorem Mr(x y x' y':Int):fB (.tup [.int x,.int y]) (.tup [.int x',.int y'])=decide (x=x'/\y=y'):=by
 have:=fD [.inl x,.inl y] [.inl x',.inl y'];rw[show([Sum.inl x,Sum.inl y]:List Key).map kD=[.int x,.int y]from rfl,show([Sum.inl x',Sum.inl y']:List Key).map kD=[.int x',.int y']from rfl]at this
 rw[this];simp
theorem tV(kvs:List (D×D))(d:D):(de kvs d).isSome=kvs.any λkv=>fB kv.1 d:=by
 unfold de;rw[Option.isSome_map,Bool.eq_iff_iff,List.find?_isSome,List.any_eq_true]
theorem CM(kvs:List (D×D))(x y x' y':Int)(v:D):(de (dput kvs (.tup [.int x,.int y]) v) (.tup [.int x',.int y'])).isSome=((de kvs (.tup [.int x',.int y'])).isSome||decide (x=x'/\y=y')):=by
 rw[tV,tV];unfold dput
 by_cases ha:(kvs.any λkv=>fB kv.1 (.tup [.int x,.int y]))=true
 ·rw[if_pos ha,List.any_map]
  rw[show((λkv:D×D=>fB kv.1 (.tup [.int x',.int y'])) ∘ λkv:D×D=>if fB kv.1 (.tup [.int x,.int y])=true then(kv.1,v)else kv)=λkv=>fB kv.1 (.tup [.int x',.int y'])from by
   funext kv;show fB (if fB kv.1 (.tup [.int x,.int y])=true then(kv.1,v)else kv).1 _=_
   split<;>rfl]
  by_cases e:x=x'/\y=y'
  ·obtain⟨rfl,rfl⟩:=e
   rw[ha,Bool.true_or]
  ·rw[decide_eq_false e,Bool.or_false]
 ·rw[if_neg ha,List.any_append]
  congr 1;show(fB _ _||false)=_
  rw[Bool.or_false,Mr]
def nO:bN:=λds Q=>∃b n pts j,ds=[df pts,dg b,.int j]/\Good n pts/\pts.length<=14/\0<=j/\Q (.own ((MO (Oi b pts j) 14 (dN pts.length)).map D.int))
theorem HV(ds:List D)(Q:B->Prop)(h:nO ds Q):Fq kc r9 (j9 15) {nx:=λ_=>Q (.sh .bD),rt:=λb _=>Q b} (a9 Bo.length ds):=by
 obtain⟨b,n,pts,j,rfl,hg,hm,h0,h⟩:=h;unfold Fq;refine au λN hN=>?_;symm;refine⟨b,n,pts,j,rfl,hg,by omega,h0,?_⟩
 obtain⟨ps,e,SJ⟩:=HH b pts j;have VB:∀i k:Nat,(i,k)∈ps ↔ i<k/\k<pts.length/\eZ b (pts.getD i []) (pts.getD k [])<=j:=λi k=>by
  rw[<- D3,e,List.mem_map];constructor
  ·intro hq;exact⟨(i,k),hq,rfl⟩
  ·rintro⟨⟨a,c⟩,hq,e⟩
   simp only[D.tup.injEq,List.cons.injEq,D.int.injEq,and_true]at e;obtain⟨e1,e2⟩:=e;have e1:a=i:=by omega
   have e2:c=k:=by omega
   subst e1 e2;exact hq
 have hzz:=D0 b pts j;have hzp:=jG (b:=b) (show pts.length<=1000 by omega)
 rw[e]at hzz ⊢;rw[aaR]at hzz
 try symm
 subst hN;refine au λN hN=>?_;symm;refine⟨pts,14,rfl,hm,?_⟩
 try symm
 subst hN;refine au λN hN=>?_;symm;subst hN;refine au λN hN=>?_;symm;refine dB prD ps (λi σ=>∃kvs x5,σ=[some (.sh (df pts)),some (.sh (dg b)),some (.sh (.int j)),some (.sh (.lst (ps.map prD))),some (.obj (Gm kvs)),x5]/\kvs.length<=i/\∀x y:Int,(de kvs (.tup [.int x,.int y])).isSome=(ps.take i).any λp=>decide ((p.1:Int)=x/\(p.2:Int)=y)) (λi p σ N' hx hI oh=>?_) (λσ hI=>?_) ⟨[],none,rfl,Nat.le_refl _,λ_ _=>rfl⟩
 ·obtain⟨kvs,x5,rfl,hi,hk⟩:=hI
  have hip:i<ps.length:=(List.getElem?_eq_some_iff.mp hx).1;unfold prD;walk_at "vg";symm;refine⟨⟨_,rfl⟩,kvs,_,rfl,rfl,by rw[sz];omega,oh _ ⟨_,_,rfl,Nat.le_trans (CN ..) ⋯,λx y=>?_⟩⟩
  rw[CM,hk x y,List.take_add_one,hx,List.any_append];show _=(_||(_||false))
  rw[Bool.or_false]
 ·obtain⟨kvs,x5,rfl,hi,hk⟩:=hI
  subst hN;rw[show df pts=.lst (pts.map d8)from rfl]
  symm;rw[aaR];refine⟨⟨by omega,by omega⟩,kvs,rfl,?_⟩
  rw[Int.toNat_natCast];refine⟨dN pts.length,kvs,by unfold nF dN;simp,by unfold dN;rw[aaR,List.length_range];exact hm,by decide,?_⟩
  rw[show(λx y=>(de kvs (.tup [.int x,.int y])).isSome)=Oi b pts j from by
   funext x y;rw[hk,List.take_length];unfold Oi;rw[Bool.eq_iff_iff,List.any_eq_true,decide_eq_true_eq];constructor
   ·rintro⟨⟨a,c⟩,hq,e⟩
    obtain⟨e1,e2⟩:=of_decide_eq_true e;have e1:(a:Int)=x:=e1;have e2:(c:Int)=y:=e2;obtain⟨h1,h2,h3⟩:=(VB a c).mp hq;subst e1 e2;rw[Int.toNat_natCast,Int.toNat_natCast];exact⟨by omega,by omega,by omega,h3⟩
   ·rintro⟨h1,h2,h3,h4⟩
    refine⟨(x.toNat,y.toNat),(VB _ _).mpr ⟨by omega,by omega,h4⟩,decide_eq_true ⟨?_,?_⟩⟩
    ·show((x.toNat:Nat):Int)=x;omega
    ·show((y.toNat:Nat):Int)=y;omega]
  exact h
theorem tM{α:Type}(xs:List α)(k:Nat):cut xs none (some (k:Int))=xs.take k:=by
 unfold cut;rw[HT.vO,HT.zf,List.drop_zero,Nat.sub_zero]
 by_cases h:k<=xs.length
 ·rw[Nat.min_eq_left h]
 ·rw[Nat.min_eq_right ⋯,List.take_of_length_le (Nat.le_refl _),List.take_of_length_le ⋯]
theorem zO{xs:List D}(h:xs.all iD=true):mF xs=(eg xs).head?:=by
 have key:∀(l:List D) (b:D),(∀x∈l,iD x=true)->iD b=true->∃m,l.foldl (λb y=>if ltI y b=true then y else b) b=m/\(m=b\/m∈l)/\iD m=true/\oi m b=true/\∀x∈l,oi m x=true:=by
  intro l
  induction l with
  | nil=>intro b _ hb;exact⟨b,rfl,.inl rfl,hb,by unfold oi;rw[Vs.eE];rfl,λx hx=>by cases hx⟩
  | cons y l ih =>
   intro b hl hb;have hy:=hl y (List.mem_cons_self ..);have lt:ltI y b=HT.lexLt (fz y) (fz b):=by
    rw[fh hy,fh hb];rfl
   rw[List.foldl_cons]
   by_cases e:ltI y b=true
   ·rw[if_pos e]
    obtain⟨m,m1,m2,m3,m4,m5⟩:=ih y (λx hx=>hl x (List.mem_cons_of_mem _ hx)) hy;refine⟨m,m1,?_,m3,?_,λx hx=>?_⟩
    ·rcases m2 with rfl|m2
     ·exact .inr (List.mem_cons_self ..)
     ·exact .inr (List.mem_cons_of_mem _ m2)
    ·refine kI m y b m4 ?_
     unfold oi;rw[lt]at e;cases e2:HT.lexLt (fz b) (fz y)with
     | false=>rfl
     | true=>have:=Vs.fK _ _ _ e e2;rw[Vs.eE]at this;cases this
    ·rcases List.mem_cons.mp hx with rfl|hx
     ·exact m4
     ·exact m5 x hx
   ·rw[if_neg e]
    obtain⟨m,m1,m2,m3,m4,m5⟩:=ih b (λx hx=>hl x (List.mem_cons_of_mem _ hx)) hb;refine⟨m,m1,?_,m3,m4,λx hx=>?_⟩
    ·rcases m2 with rfl|m2
     ·exact .inl rfl
     ·exact .inr (List.mem_cons_of_mem _ m2)
    ·rcases List.mem_cons.mp hx with rfl|hx
     ·refine kI m b x m4 ?_
      unfold oi;rw[lt]at e;simpa using e
     ·exact m5 x hx
 have hp:=cF xs;have hs:=gf xs;cases xs with
 | nil=>rw[List.perm_nil.mp hp];rfl
 | cons x xs =>
  have all:=List.all_eq_true.mp h;obtain⟨m,m1,m2,m3,m4,m5⟩:=key xs x (λy hy=>all y (List.mem_cons_of_mem _ hy)) (all x (List.mem_cons_self ..));have hm:m∈x::xs:=by rcases m2 with rfl|m2;exact List.mem_cons_self ..;exact List.mem_cons_of_mem _ m2
  have fH:∀y∈x::xs,oi m y=true:=λy hy=>by
   rcases List.mem_cons.mp hy with rfl|hy
   ·exact m4
   ·exact m5 y hy
  show some _=_;rw[m1];cases e:eg (x::xs)with
  | nil=>rw[e]at hp;exact absurd hp.length_eq (by simp)
  | cons a l =>
   rw[e]at hp hs;have ha:a∈x::xs:=hp.mem_iff.mp (List.mem_cons_self ..);have h1:=fH a ha;have h2:oi a m=true:=by
    rcases List.mem_cons.mp (hp.mem_iff.mpr hm)with rfl|hm
    ·unfold oi;rw[Vs.eE];rfl
    ·exact(List.pairwise_cons.mp hs).1 m hm
   unfold oi at h1 h2;simp only[Bool.not_eq_true']at h1 h2;show some m=some a;rw[fh m3,fh (all a ha),Vs.kK _ _ h2 h1]
def R9(b:Bool)(pts:List (List Int)):D:=(mF (bP b pts)).getD .bD
def xR:bN:=λds Q=>∃b n pts,ds=[df pts,dg b]/\Good n pts/\pts.length<=1000/\Q (.sh (R9 b pts))
theorem W4(ds:List D)(Q:B->Prop)(h:xR ds Q):Fj k7 gR {nx:=λ_=>Q (.sh .bD),rt:=λb _=>Q b} (a9 Bi.length ds):=by
 obtain⟨b,n,pts,rfl,hg,hl,h⟩:=h;unfold Fj;refine au λN hN=>?_;symm;refine⟨n,b,pts,rfl,hg.shape,?_⟩;symm;subst hN;symm;refine⟨b,n,pts,rfl,hg,hl,?_⟩;symm;refine⟨.inr (List.all_eq_true.mpr λd hd=>?_),h⟩;obtain⟨p,q,_,_,rfl⟩:=cI hd;rfl
def k6:bN:=λds Q=>∃pts j,ds=[df pts,.int (j:Nat)]/\j<pts.length/\Q (.sh .bD)
theorem Ec(ds:List D)(Q:B->Prop)(h:k6 ds Q):Fv {nx:=λ_=>Q (.sh .bD),rt:=λb _=>Q b} (a9 Bs.length ds):=by
 obtain⟨pts,j,rfl,hj,h⟩:=h;unfold Fv df;symm;rw[aaR];rw[if_neg ⋯,if_neg ⋯]
 exact h
def xP:bN:=λds Q=>∃b n pts i j,ds=[df pts,dg b,.int (i:Nat),.int (j:Nat)]/\Good n pts/\i<pts.length/\j<pts.length/\Q (.sh (.int (eZ b (pts.getD i []) (pts.getD j []))))
theorem WY(ds:List D)(Q:B->Prop)(h:xP ds Q):FA k7 k6 nP {nx:=λ_=>Q (.sh .bD),rt:=λb _=>Q b} (a9 Bw.length ds):=by
 obtain⟨b,n,pts,i,j,rfl,hg,hi,hj,h⟩:=h;unfold FA;symm;refine⟨n,b,pts,rfl,hg.shape,?_⟩;symm;refine⟨pts,i,rfl,hi,?_⟩;symm;refine⟨pts,j,rfl,hj,?_⟩;rw[show df pts=.lst (pts.map d8)from rfl]
 symm;refine bw (n:=i) rfl (f6 hi) ?_;refine bw (n:=j) rfl (f6 hj) ?_;symm;exact⟨b,_,_,rfl,hg.bd (getD_mem hi),hg.bd (getD_mem hj),h⟩
theorem Fc(b:Bool)(x y:Int):stepI b y x=stepI b x y:=by
 have h:jn (y-x)=jn (x-y):=by unfold jn;split<;>split<;>omega
 unfold stepI;rw[h]
theorem kA(b:Bool)(x y:Int)(p q:List Int):eZ b (x::p) (y::q)=stepI b x y+eZ b p q:=rfl
theorem yv(b:Bool):∀p q:List Int,eZ b q p=eZ b p q
 | [],[]=>rfl
 | [],_::_=>rfl
 | _::_,[]=>rfl
 | x::p,y::q=>by rw[kA,kA,Fc,yv b p q]
theorem uC(b:Bool):∀p:List Int,eZ b p p=0
 | []=>rfl
 | x::p=>by
  rw[kA,uC b p];cases b
  ·show jn (x-x)+0=0
   rw[Int.sub_self];rfl
  ·show jn (x-x)*jn (x-x)+0=0
   rw[Int.sub_self];rfl
theorem gI{b:Bool}{pts:List (List Int)}{c:Int}{i j:Nat}(ku:i<j)(hj:j<pts.length)(hf:eZ b (pts.getD i []) (pts.getD j [])<=c):aY b pts c i=aY b pts c j:=by
 have hm:pairD b pts i j∈eg (bP b pts):=(cF _).mem_iff.mpr (kM ku hj);rw[n6 b pts]at hm;obtain⟨t,ht,et⟩:=List.mem_map.mp hm;unfold eA pairD at et;simp only[D.tup.injEq,List.cons.injEq,D.int.injEq,and_true]at et;obtain⟨e1,e2,e3⟩:=et;have:=(d6 pts.length (cD b pts c) fo).2.2.2 t (List.mem_filter.mpr ⟨ht,by rw[decide_eq_true_eq,e1];exact hf⟩)
 rw[show t.2.1=i by omega,show t.2.2=j by omega]at this
 exact this
theorem pD{b:Bool}{pts:List (List Int)}{c:Int}{i j:Nat}(hi:i<pts.length)(hj:j<pts.length)(hf:eZ b (pts.getD i []) (pts.getD j [])<=c):aY b pts c i=aY b pts c j:=by
 rcases Nat.lt_trichotomy i j with h|h|h
 ·exact gI h hj hf
 ·rw[h]
 ·rw[yv]at hf
  exact(gI h hi hf).symm
theorem ya{b:Bool}{pts:List (List Int)}{t:Tr}(h:t∈n5 b pts):t.1=eZ b (pts.getD t.2.1 []) (pts.getD t.2.2 []):=by
 obtain⟨d,hd,rfl⟩:=List.mem_map.mp h;obtain⟨p,q,_,_,rfl⟩:=cI ((cF _).mem_iff.mp hd);show eZ b _ _=eZ b (pts.getD (((p:Nat):Int)).toNat []) (pts.getD (((q:Nat):Int)).toNat []);rw[Int.toNat_natCast,Int.toNat_natCast]
theorem Hu{b:Bool}{pts:List (List Int)}{c:Int}(g:Nat->Int)(hg:∀t∈cD b pts c,g t.2.1=g t.2.2){x:Nat}(hx:x<pts.length):g x=g (aY b pts c x).toNat:=o9 pts.length g (cD b pts c) fo hg x hx
def zL(b:Bool)(c:Int)(pts:List (List Int))(p q:List Int):Prop:=∀g:List Int->Int,(∀a∈pts,∀d∈pts,eZ b a d<=c->g a=g d)->g p=g q
theorem qF{b:Bool}{c:Int}{pts qts:List (List Int)}(h:∀p,p∈pts ↔ p∈qts){p q:List Int}(k:zL b c pts p q):zL b c qts p q:=λg hg=>k g λa ha d hd=>hg a ((h a).mp ha) d ((h d).mp hd)
theorem rq{pts:List (List Int)}{i:Nat}(h:i<pts.length):pts.getD i []∈pts:=by
 rw[List.getD_eq_getElem?_getD,aaQ h];exact List.getElem_mem h
theorem jB{b:Bool}{c:Int}{pts:List (List Int)}(hc:0<=c){i j:Nat}(hi:i<pts.length)(hj:j<pts.length):aY b pts c i=aY b pts c j ↔ zL b c pts (pts.getD i []) (pts.getD j []):=by
 constructor
 ·intro e g hg
  have h:∀x,x<pts.length->g (pts.getD x [])=g (pts.getD (aY b pts c x).toNat []):=λx hx=>Hu (λx=>g (pts.getD x [])) (λt ht=>by
   obtain⟨h1,h2⟩:=List.mem_filter.mp ht;have h3:=fo t ht;rw[decide_eq_true_eq,ya h1]at h2;exact hg _ (rq h3.1) _ (rq h3.2) h2) hx
  rw[h i hi,h j hj,e]
 ·intro k
  have ix:∀x,x<pts.length->pts.idxOf (pts.getD x [])<pts.length/\pts.getD (pts.idxOf (pts.getD x [])) []=pts.getD x []:=λx hx=>by
   have:=List.idxOf_lt_length_iff.mpr (rq hx);refine⟨this,?_⟩
   conv=>lhs;rw[List.getD_eq_getElem?_getD,aaQ this]
   exact List.getElem_idxOf this
  have Ys:∀a∈pts,pts.idxOf a<pts.length/\pts.getD (pts.idxOf a) []=a:=λa ha=>by
   have:=List.idxOf_lt_length_iff.mpr ha;refine⟨this,?_⟩
   conv=>lhs;rw[List.getD_eq_getElem?_getD,aaQ this]
   exact List.getElem_idxOf this
  have one:∀x,x<pts.length->aY b pts c x=aY b pts c (pts.idxOf (pts.getD x [])):=λx hx=>pD hx (ix x hx).1 (by rw[(ix x hx).2,uC];exact hc)
  rw[one i hi,one j hj];exact k (λp=>aY b pts c (pts.idxOf p)) λa ha d hd hf=>pD (Ys a ha).1 (Ys d hd).1 (by rw[(Ys a ha).2,(Ys d hd).2];exact hf)
def bG(b:Bool)(pts:List (List Int))(c:Int):List Nat:=(List.range pts.length).filter λr=>decide (aY b pts c r=(r:Int))
theorem cw{b:Bool}{pts:List (List Int)}{c:Int}{r:Nat}:r∈bG b pts c ↔ r<pts.length/\aY b pts c r=(r:Int):=by
 unfold bG;rw[List.mem_filter,List.mem_range,decide_eq_true_eq]
theorem f9(b:Bool)(pts:List (List Int))(c:Int):(bG b pts c).Nodup:=List.nodup_range.filter _
theorem fO(b:Bool)(pts:List (List Int))(c:Int):(bG b pts c).length=bq (eC b pts c):=by
 unfold bG bq;rw[<- List.countP_eq_length_filter,(jC b pts c).2];rfl
theorem pL{l m:List Nat}(hd:l.Nodup)(h:∀x∈l,x∈m):l.length<=m.length:=hd.length_le_of_subset λ_ hx=>h _ hx
theorem pK{α β:Type}{f:α->β}:∀ {l:List α},l.Nodup->(∀x∈l,∀y∈l,f x=f y->x=y)->(l.map f).Nodup
 | [],_,_=>List.nodup_nil
 | x::l,h,hi=>by
  rw[List.nodup_cons]at h;rw[List.map_cons,List.nodup_cons];refine⟨λhm=>?_,pK h.2 λa ha d hd=>hi a (.tail _ ha) d (.tail _ hd)⟩;obtain⟨y,hy,e⟩:=List.mem_map.mp hm;have:=hi x (.head _) y (.tail _ hy) e.symm;exact h.1 (this ▸ hy)
theorem vL{b:Bool}{c:Int}{pts qts:List (List Int)}(hc:0<=c)(h:∀p,p∈pts ↔ p∈qts):bq (eC b pts c)<=bq (eC b qts c):=by
 rw[<- fO,<- fO];have pl:∀r∈bG b pts c,qts.idxOf (pts.getD r [])<qts.length/\qts.getD (qts.idxOf (pts.getD r [])) []=pts.getD r []:=λr hr=>by
  have:=List.idxOf_lt_length_iff.mpr ((h _).mp (rq (cw.mp hr).1));refine⟨this,?_⟩
  conv=>lhs;rw[List.getD_eq_getElem?_getD,aaQ this]
  exact List.getElem_idxOf this
 have hd:((bG b pts c).map λr=>(aY b qts c (qts.idxOf (pts.getD r []))).toNat).Nodup:=by
  refine pK (f9 b pts c) λx hx y hy e=>?_;have px:=pl x hx;have py:=pl y hy;obtain⟨r1,e1,_,_⟩:=fk (b:=b) (c:=c) _ px.1;obtain⟨r2,e2,_,_⟩:=fk (b:=b) (c:=c) _ py.1;have e3:aY b qts c (qts.idxOf (pts.getD x []))=aY b qts c (qts.idxOf (pts.getD y [])):=by
   have e:(aY b qts c (qts.idxOf (pts.getD x []))).toNat=(aY b qts c (qts.idxOf (pts.getD y []))).toNat:=e;rw[e1,e2]at e ⊢;omega
  have:=(jB hc px.1 py.1).mp e3;rw[px.2,py.2]at this;have e4:=(jB hc (cw.mp hx).1 (cw.mp hy).1).mpr (qF (λp=>(h p).symm) this);rw[(cw.mp hx).2,(cw.mp hy).2]at e4;omega
 have:=pL hd (m:=bG b qts c) λx hx=>by
  obtain⟨r,hr,rfl⟩:=List.mem_map.mp hx;obtain⟨r1,e1,h1,h2⟩:=fk (b:=b) (c:=c) _ (pl r hr).1;have:=(pl r hr).1;rw[e1,Int.toNat_natCast];exact cw.mpr ⟨by omega,h2⟩
 rwa [aaR]at this
theorem E1{b:Bool}{c:Int}{pts qts:List (List Int)}(hc:0<=c)(h:∀p,p∈pts ↔ p∈qts):bq (eC b pts c)=bq (eC b qts c):=Nat.le_antisymm (vL hc h) (vL hc λp=>(h p).symm)
theorem mh{b:Bool}{pts:List (List Int)}{m:Nat}(h:m<pts.length)(hm:1<=m):∃t,(bB b pts)[pts.length-m-1]?=some t/\yk b pts m=t.1/\t∈n5 b pts:=by
 have hi:pts.length-m-1<(bB b pts).length:=by rw[dJ];omega
 refine⟨(bB b pts)[pts.length-m-1],aaQ hi,?_,(eM pts.length (n5 b pts)).2.2 _ (List.getElem_mem hi)⟩;unfold yk;rw[if_neg ⋯,List.getD_eq_getElem?_getD,aaQ hi];rfl
theorem tE{b:Bool}{pts:List (List Int)}{m:Nat}(hm:1<=m):0<=yk b pts m:=by
 by_cases h:m<pts.length
 ·obtain⟨t,_,e,ht⟩:=mh (b:=b) h hm
  rw[e];exact(jg t ht).2.2
 ·unfold yk
  rw[if_pos ⋯];exact Int.le_refl _
theorem gO(b:Bool)(pts:List (List Int))(c:Int):bq (eC b pts c)<=pts.length:=by
 obtain⟨_,_,h3,_⟩:=d6 pts.length (cD b pts c) fo;have h3:_+bq (eC b pts c)=pts.length:=h3;omega
theorem tD{b:Bool}{pts:List (List Int)}{m:Nat}{c:Int}(hm:1<=m)(hc:0<=c):yk b pts m<=c ↔ bq (eC b pts c)<=m:=by
 by_cases h:m<pts.length
 ·obtain⟨t,h1,e,_⟩:=mh (b:=b) h hm
  obtain⟨p1,p2⟩:=xC b pts c h1;rw[e];constructor
  ·intro z;have:=p1 z;omega
  ·intro z
   apply Int.not_lt.mp;intro y;have:=p2 y;omega
 ·have:=gO b pts c
  unfold yk;rw[if_pos ⋯]
  exact⟨λ_=>by omega,λ_=>hc⟩
theorem BI{b:Bool}{pts qts:List (List Int)}{m:Nat}(hm:1<=m)(h:∀p,p∈pts ↔ p∈qts):yk b pts m=yk b qts m:=by
 have le:∀ {pts qts:List (List Int)},(∀p,p∈pts ↔ p∈qts)->yk b pts m<=yk b qts m:=λ{pts qts} h=>(tD hm (tE hm)).mpr (by
  rw[E1 (tE hm) h];exact(tD hm (tE hm)).mp (Int.le_refl _))
 exact Int.le_antisymm (le h) (le λp=>(h p).symm)
theorem GP{b:Bool}{pts:List (List Int)}{m:Nat}(hm:1<=m):yk b pts (m+1)<=yk b pts m:=(tD ⋯ (tE hm)).mpr (Nat.le_succ_of_le ((tD hm (tE hm)).mp (Int.le_refl _)))
theorem yw{b:Bool}{pts qts:List (List Int)}(hp:pts.Perm qts):(bB b pts).map (·.1)=(bB b qts).map (·.1):=by
 have hl:=hp.length_eq;apply List.ext_getElem?;intro k
 by_cases h:k+1<pts.length
 ·obtain⟨t,h1,e1,_⟩:=mh (b:=b) (pts:=pts) (m:=pts.length-k-1) ⋯ ⋯
  obtain⟨u,h2,e2,_⟩:=mh (b:=b) (pts:=qts) (m:=pts.length-k-1) ⋯ ⋯
  rw[show pts.length-(pts.length-k-1)-1=k by omega]at h1
  rw[show qts.length-(pts.length-k-1)-1=k by omega]at h2
  rw[List.getElem?_map,List.getElem?_map,h1,h2];show some t.1=some u.1;rw[<- e1,<- e2,BI ⋯ λp=>hp.mem_iff]
 ·rw[List.getElem?_eq_none (by rw[aaR,dJ];omega),List.getElem?_eq_none (by rw[aaR,dJ];omega)]
theorem GN{b:Bool}{pts qts:List (List Int)}(hp:pts.Perm qts):mE b pts=mE b qts:=by
 have e:∀pts:List (List Int),(bB b pts).map (λt=>D.int t.1)=((bB b pts).map (·.1)).map D.int:=λpts=>by rw[List.map_map];rfl
 unfold mE;rw[e,e,yw hp]
 by_cases h:pts=[]
 ·subst h
  rw[if_pos rfl,if_pos (List.nil_perm.mp hp)]
 ·rw[if_neg h,if_neg λz=>h (by subst z;exact List.perm_nil.mp hp)]
def bL(f:Nat->Int)(n r:Nat):List Nat:=(List.range n).filter λk=>decide (f k=(r:Int))
theorem dj{f:Nat->Int}{n r x:Nat}:x∈bL f n r ↔ x<n/\f x=(r:Int):=by
 unfold bL;rw[List.mem_filter,List.mem_range,decide_eq_true_eq]
theorem eG(b:Bool)(pts:List (List Int))(c:Int):cM (aY b pts c) pts.length=(bG b pts c).map λr=>D.lst ((bL (aY b pts c) pts.length r).map λk:Nat=>D.int (k:Int)):=by
 unfold cM bG;generalize List.range pts.length=l
 induction l with
 | nil=>rfl
 | cons x l ih =>
  by_cases h:aY b pts c x=(x:Int)
  ·rw[List.filterMap_cons_some (by rw[if_pos h]),List.filter_cons_of_pos (by simpa using h),List.map_cons,ih];rfl
  ·rw[List.filterMap_cons_none (by rw[if_neg h]),List.filter_cons_of_neg (by simpa using h),ih]
theorem mR(f:Nat->Int)(n:Nat):∀l:List Nat,l.Nodup->(l.flatMap (bL f n)).Nodup
 | [],_=>List.nodup_nil
 | r::l,h=>by
  rw[List.nodup_cons]at h;rw[List.flatMap_cons,List.nodup_append];refine⟨List.nodup_range.filter _,mR f n l h.2,λx hx y hy e=>?_⟩;obtain⟨r',Z0,hy⟩:=List.mem_flatMap.mp hy;have e1:=(dj.mp hx).2;rw[e,(dj.mp hy).2]at e1;have:r'=r:=by omega
  exact h.1 (this ▸ Z0)
theorem kB(b:Bool)(pts:List (List Int))(c:Int):((bG b pts c).flatMap (bL (aY b pts c) pts.length)).Perm (List.range pts.length):=by
 refine(List.perm_ext_iff_of_nodup (mR _ _ _ (f9 b pts c)) List.nodup_range).mpr λx=>?_;rw[List.mem_flatMap,List.mem_range];constructor
 ·rintro⟨r,_,h⟩;exact(dj.mp h).1
 ·intro h
  obtain⟨r,e,hr,e2⟩:=fk (b:=b) (c:=c) x h;exact⟨r,cw.mpr ⟨by omega,e2⟩,dj.mpr ⟨h,e⟩⟩
theorem kP(b:Bool)(pts:List (List Int))(c:Int):((cM (aY b pts c) pts.length).map Hx).flatten=((bG b pts c).flatMap (bL (aY b pts c) pts.length)).map λk:Nat=>D.int (k:Int):=by
 rw[eG,List.map_map];generalize bG b pts c=l
 induction l with
 | nil=>rfl
 | cons x l ih =>
  rw[List.map_cons,List.flatten_cons,ih,List.flatMap_cons,List.map_append];rfl
theorem Eh(b:Bool)(pts:List (List Int))(c:Int):(lE (((cM (aY b pts c) pts.length).map Hx).flatten.map fJ)).map D.int=(bW pts.length).map D.int:=by
 congr 1;refine(nL ?_ ?_).symm
 ·rw[kP,List.map_map]
  exact((kB b pts c).map λk:Nat=>(k:Int)).symm
 ·unfold bW
  rw[List.pairwise_map];exact List.pairwise_lt_range.imp λh=>by omega
theorem AH(b:Bool)(pts:List (List Int))(c:Int):((cM (aY b pts c) pts.length).map Hx).flatten.length=pts.length:=by
 rw[kP,aaR,(kB b pts c).length_eq,List.length_range]
theorem AG(b:Bool)(pts:List (List Int))(c:Int):((cM (aY b pts c) pts.length).map Hx).flatten.all isInt=true:=by
 rw[kP,List.all_map];exact List.all_eq_true.mpr λ_ _=>rfl
theorem AI(b:Bool)(pts:List (List Int))(c:Int):(cM (aY b pts c) pts.length).all Nj=true:=by
 rw[eG,List.all_map];exact List.all_eq_true.mpr λ_ _=>rfl
theorem pN(b:Bool)(pts:List (List Int))(c:Int):(cM (aY b pts c) pts.length).all DK=true:=by
 rw[eG,List.all_map];refine List.all_eq_true.mpr λr _=>?_;show((bL (aY b pts c) pts.length r).map λk:Nat=>D.int (k:Int)).all isInt=true;rw[List.all_map];exact List.all_eq_true.mpr λ_ _=>rfl
theorem jc{b:Bool}{pts:List (List Int)}{c:Int}{r:Nat}(h:r∈bG b pts c):∃l,bL (aY b pts c) pts.length r=r::l:=by
 obtain⟨h1,h2⟩:=cw.mp h;have hr:r∈bL (aY b pts c) pts.length r:=dj.mpr ⟨h1,h2⟩;have hs:(bL (aY b pts c) pts.length r).Pairwise λx y=>x<y:=List.pairwise_lt_range.filter _;have qH:∀x∈bL (aY b pts c) pts.length r,r<=x:=λx hx=>by
  obtain⟨h3,h4⟩:=dj.mp hx;obtain⟨r',e,Z0,_⟩:=fk (b:=b) (c:=c) x h3;omega
 cases e:bL (aY b pts c) pts.length r with
 | nil=>rw[e]at hr;cases hr
 | cons x l =>
  rw[e]at hr hs qH;have hx:=qH x (.head _);rcases List.mem_cons.mp hr with z|z
  ·exact⟨l,by rw[z]⟩
  ·have:=(List.pairwise_cons.mp hs).1 r z
   omega
theorem vo(b:Bool)(pts:List (List Int))(c:Int):(cM (aY b pts c) pts.length).Pairwise λx y=>HT.lexLt (Bc y) (Bc x)=false:=by
 rw[eG,List.pairwise_map];have hs:(bG b pts c).Pairwise λx y=>x<y:=List.pairwise_lt_range.filter _;refine hs.imp_of_mem λ{x y} hx hy h=>?_;obtain⟨l,e⟩:=jc hx;obtain⟨m,e2⟩:=jc hy;rw[e,e2];show HT.lexLt ((y:Int)::_) ((x:Int)::_)=false;rw[HT.cj,if_neg ⋯,decide_eq_false ⋯]
theorem vQ{b:Bool}{pts:List (List Int)}{c:Int}{ys:List D}(hp:ys.Perm (cM (aY b pts c) pts.length))(hs:ys.Pairwise λx y=>HT.lexLt (Bc y) (Bc x)=false):ys=cM (aY b pts c) pts.length:=by
 have il:=List.all_eq_true.mp (pN b pts c);exact hp.eq_of_pairwise (le:=λx y=>HT.lexLt (Bc y) (Bc x)=false) (λx y hx hy h1 h2=>by
  rw[<- qN (il x (hp.mem_iff.mp hx)),<- qN (il y hy),Vs.kK _ _ h2 h1]) hs (vo b pts c)
theorem jy(kvs:List (Int×D))(i j:Int)(d:D):cJ (gA kvs i d) j=if i=j then some d else cJ kvs j:=by
 unfold gA cJ
 by_cases ha:(kvs.any λp=>decide (p.1=i))=true
 ·rw[if_pos ha]
  obtain⟨p,hp,VF⟩:=List.any_eq_true.mp ha;have VF:=of_decide_eq_true VF;have key:∀l:List (Int×D),((l.map λp=>if p.1=i then(p.1,d)else p).find? λp=>decide (p.1=j))=(l.find? λp=>decide (p.1=j)).map λp=>if p.1=i then(p.1,d)else p:=by
   intro l
   induction l with
   | nil=>rfl
   | cons q l ih =>
    rw[List.map_cons,List.find?_cons,List.find?_cons];have:(if q.1=i then(q.1,d)else q).1=q.1:=by split<;>rfl
    rw[this,ih];cases decide (q.1=j)<;>rfl
  rw[key]
  by_cases e:i=j
  ·subst e
   rw[if_pos rfl];cases h:kvs.find? λp=>decide (p.1=i)with
   | none=>exact absurd (decide_eq_true VF) (List.find?_eq_none.mp h p hp)
   | some q =>
    have:=List.find?_some h;rw[decide_eq_true_eq]at this;show some (if q.1=i then(q.1,d)else q).2=some d
    rw[if_pos this]
  ·rw[if_neg e]
   cases h:kvs.find? λp=>decide (p.1=j)with
   | none=>rfl
   | some q =>
    have:=List.find?_some h;rw[decide_eq_true_eq]at this;show some (if q.1=i then(q.1,d)else q).2=some q.2
    rw[if_neg (by rw[this];exactλz=>e z.symm)]
 ·rw[if_neg ha,List.find?_append]
  have hn:∀p∈kvs,p.1≠i:=λp hp z=>ha (List.any_eq_true.mpr ⟨p,hp,decide_eq_true z⟩)
  by_cases e:i=j
  ·subst e
   rw[List.find?_eq_none.mpr λp hp=>by simpa using hn p hp,if_pos rfl]
   simp
  ·rw[if_neg e]
   cases h:kvs.find? λp=>decide (p.1=j)with
   | none=>simp [e]
   | some q=>rfl
theorem DJ(kvs:List (Int×D))(i:Int)(d:D):(gA kvs i d).length<=kvs.length+1:=by
 unfold gA
 split
 ·rw[aaR];omega
 ·rw[List.length_append];exact Nat.le_refl _
theorem i7:∀(more kvs:List (Int×D)),(bS kvs more).length<=kvs.length+more.length
 | [],_=>Nat.le_refl _
 | p::more,kvs=>by
  show(bS (gA kvs p.1 p.2) more).length<=_;have h1:=i7 more (gA kvs p.1 p.2);have h2:=DJ kvs p.1 p.2;rw[List.length_cons];omega
theorem fX(j:Int):∀(more kvs:List (Int×D)),cJ (bS kvs more) j=(cJ (bS [] more) j).or (cJ kvs j)
 | [],_=>rfl
 | p::more,kvs=>by
  show cJ (bS (gA kvs p.1 p.2) more) j=(cJ (bS (gA [] p.1 p.2) more) j).or _;rw[fX j more (gA kvs p.1 p.2),fX j more (gA [] p.1 p.2),jy,jy];cases cJ (bS [] more) j with
  | some d=>rfl
  | none =>
   by_cases e:p.1=j
   ·rw[if_pos e,if_pos e];rfl
   ·rw[if_neg e,if_neg e];rfl
theorem mY(v:D)(j:Int):∀xs:List Int,cJ (bS [] (xs.map λx=>(x,v))) j=if j∈xs then some v else none
 | []=>rfl
 | x::xs=>by
  show cJ (bS (gA [] x v) (xs.map λx=>(x,v))) j=_;rw[fX,mY v j xs,jy]
  by_cases h1:j∈xs
  ·rw[if_pos h1,if_pos (List.mem_cons_of_mem _ h1)];rfl
  ·rw[if_neg h1]
   by_cases e:x=j
   ·rw[if_pos e,if_pos (by rw[e];exact .head _)];rfl
   ·rw[if_neg e,if_neg λz=>(List.mem_cons.mp z).elim (λy=>e y.symm) h1];rfl
theorem Am{kvs:List (Int×D)}{i:Int}{d:D}(h:(kvs.map (·.1)).Nodup):((gA kvs i d).map (·.1)).Nodup:=by
 unfold gA
 split
 ·rw[List.map_map,show((λp:Int×D=>p.1) ∘ λp:Int×D=>if p.1=i then(p.1,d)else p)=λp=>p.1 from funext λp=>by show(if p.1=i then(p.1,d)else p).1=p.1;split<;>rfl]
  exact h
 ·rename_i ha
  rw[List.map_append,List.nodup_append];refine⟨h,List.nodup_cons.mpr ⟨List.not_mem_nil,List.nodup_nil⟩,λx hx y hy e=>?_⟩;obtain⟨p,hp,rfl⟩:=List.mem_map.mp hx;have:y=i:=List.mem_singleton.mp hy;exact ha (List.any_eq_true.mpr ⟨p,hp,decide_eq_true (e.trans this)⟩)
theorem lx:∀ {more kvs:List (Int×D)},(kvs.map (·.1)).Nodup->((bS kvs more).map (·.1)).Nodup
 | [],_,h=>h
 | p::more,kvs,h=>lx (more:=more) (kvs:=gA kvs p.1 p.2) (Am h)
theorem uN(j:Int)(kvs more:List (Int×D)):cJ (bS kvs (bS [] more)) j=(cJ (bS [] more) j).or (cJ kvs j):=by
 rw[fX];congr 1;have hd:((bS [] more).map (·.1)).Nodup:=lx List.nodup_nil
 generalize bS [] more=ms at hd;have key:∀(ms acc:List (Int×D)),(ms.map (·.1)).Nodup->cJ (bS acc ms) j=(cJ ms j).or (cJ acc j):=by
  intro ms
  induction ms with
  | nil=>intro acc _;rfl
  | cons p ms ih =>
   intro acc h;rw[List.map_cons,List.nodup_cons]at h;show cJ (bS (gA acc p.1 p.2) ms) j=_;rw[ih _ h.2,jy]
   by_cases e:p.1=j
   ·have h1:cJ ms j=none:=by
     unfold cJ;rw[List.find?_eq_none.mpr λq hq=>by
      rw[decide_eq_true_eq];intro z;exact h.1 (List.mem_map.mpr ⟨q,hq,z.trans e.symm⟩)];rfl
    have h2:cJ (p::ms) j=some p.2:=by unfold cJ;rw[List.find?_cons_of_pos (by simpa using e)];rfl
    rw[h1,h2,if_pos e];rfl
   ·have h2:cJ (p::ms) j=cJ ms j:=by unfold cJ;rw[List.find?_cons_of_neg (by simpa using e)]
    rw[h2,if_neg e]
 rw[key ms [] hd];show(cJ ms j).or none=_;cases cJ ms j<;>rfl
theorem pO(pts:List (List Int)):(List.range pts.length).map (λi=>pts.getD i [])=pts:=by
 apply List.ext_getElem?;intro i
 by_cases h:i<pts.length
 ·rw[List.getElem?_map,List.getElem?_range h,aaQ h]
  show some (pts.getD i [])=_;rw[List.getD_eq_getElem?_getD,aaQ h];rfl
 ·rw[List.getElem?_eq_none (by rw[aaR,List.length_range];omega),List.getElem?_eq_none ⋯]
def ph(b:Bool)(c:Int)(pts:List (List Int))(p q:List Int):Bool:=@decide (zL b c pts p q) (Classical.propDecidable _)
theorem fI{b:Bool}{c:Int}{pts:List (List Int)}{p q:List Int}:ph b c pts p q=true ↔ zL b c pts p q:=by unfold ph;simp
def fx(b:Bool)(c:Int)(pts:List (List Int))(p:List Int):Nat:=pts.countP (ph b c pts p)
theorem Ci{b:Bool}{c:Int}{pts qts:List (List Int)}(h:pts.Perm qts)(p:List Int):fx b c pts p=fx b c qts p:=by
 unfold fx;have e:ph b c pts p=ph b c qts p:=funext λq=>by
  rw[Bool.eq_iff_iff,fI,fI];exact⟨qF λ_=>h.mem_iff,qF λ_=>h.symm.mem_iff⟩
 rw[e,h.countP_eq]
theorem Cg{b:Bool}{c:Int}{pts:List (List Int)}{p q:List Int}(h:zL b c pts p q):fx b c pts p=fx b c pts q:=by
 unfold fx;congr 1;funext x;rw[Bool.eq_iff_iff,fI,fI];exact⟨λk g hg=>(h g hg).symm.trans (k g hg),λk g hg=>(h g hg).trans (k g hg)⟩
theorem mI{b:Bool}{c:Int}{pts:List (List Int)}(hc:0<=c){r:Nat}(h:r∈bG b pts c):(bL (aY b pts c) pts.length r).length=fx b c pts (pts.getD r []):=by
 obtain⟨h1,h2⟩:=cw.mp h;unfold bL fx;rw[<- List.countP_eq_length_filter]
 conv=>rhs;arg 2;rw[<- pO pts]
 rw[List.countP_map];refine List.countP_congr λx hx=>?_;show _ ↔ ph b c pts (pts.getD r []) (pts.getD x [])=true;rw[decide_eq_true_eq,fI,<- jB hc h1 (List.mem_range.mp hx),h2];exact eq_comm
theorem oW{b:Bool}{c:Int}{pts:List (List Int)}(hc:0<=c)(s:Nat):pts.countP (λp=>decide (fx b c pts p=s))=s*(bG b pts c).countP (λr=>decide (fx b c pts (pts.getD r [])=s)):=by
 have e1:pts.countP (λp=>decide (fx b c pts p=s))=(List.range pts.length).countP λx=>decide (fx b c pts (pts.getD x [])=s):=by
  conv=>lhs;arg 2;rw[<- pO pts]
  rw[List.countP_map];rfl
 rw[e1,<- (kB b pts c).countP_eq];have key:∀l:List Nat,(∀r∈l,r∈bG b pts c)->(l.flatMap (bL (aY b pts c) pts.length)).countP (λx=>decide (fx b c pts (pts.getD x [])=s))=s*l.countP λr=>decide (fx b c pts (pts.getD r [])=s):=by
  intro l
  induction l with
  | nil=>intro _;rfl
  | cons r l ih =>
   intro h;have hr:=h r (.head _);obtain⟨h1,h2⟩:=cw.mp hr;rw[List.flatMap_cons,List.countP_append,ih λx hx=>h x (.tail _ hx)];have same:∀x∈bL (aY b pts c) pts.length r,fx b c pts (pts.getD x [])=fx b c pts (pts.getD r []):=λx hx=>by
    obtain⟨h3,h4⟩:=dj.mp hx;exact Cg ((jB hc h3 h1).mp (h4.trans h2.symm))
   by_cases e:fx b c pts (pts.getD r [])=s
   ·rw[List.countP_cons_of_pos (by simpa using e),List.countP_eq_length.mpr λx hx=>by rw[decide_eq_true_eq,same x hx];exact e,mI hc hr,e,Nat.mul_add]
    omega
   ·rw[List.countP_cons_of_neg (by simpa using e),List.countP_eq_zero.mpr λx hx=>by rw[decide_eq_true_eq,same x hx];exact e,Nat.zero_add]
 exact key _ λr hr=>hr
theorem xN{b:Bool}{c:Int}{pts qts:List (List Int)}(hc:0<=c)(h:pts.Perm qts):((bG b pts c).map λr=>(bL (aY b pts c) pts.length r).length).Perm ((bG b qts c).map λr=>(bL (aY b qts c) qts.length r).length):=by
 have cn:∀(pts:List (List Int)) (s:Nat),((bG b pts c).map λr=>(bL (aY b pts c) pts.length r).length).count s=(bG b pts c).countP λr=>decide (fx b c pts (pts.getD r [])=s):=λpts s=>by
  rw[List.count_eq_countP,List.countP_map];refine List.countP_congr λr hr=>?_;show((bL (aY b pts c) pts.length r).length==s)=true ↔ _;rw[mI hc hr,beq_iff_eq,decide_eq_true_eq]
 rw[List.perm_iff_count];intro s;rw[cn,cn];rcases Nat.eq_zero_or_pos s with rfl|hs
 ·have z:∀pts:List (List Int),(bG b pts c).countP (λr=>decide (fx b c pts (pts.getD r [])=0))=0:=λpts=>List.countP_eq_zero.mpr λr hr=>by
   rw[decide_eq_true_eq,<- mI hc hr];obtain⟨l,e⟩:=jc hr;rw[e];simp
  rw[z,z]
 ·have e1:=oW (b:=b) (pts:=pts) hc s
  have e2:=oW (b:=b) (pts:=qts) hc s;have e3:pts.countP (λp=>decide (fx b c pts p=s))=qts.countP (λp=>decide (fx b c qts p=s)):=by
   rw[h.countP_eq];refine List.countP_congr λp _=>?_;rw[Ci h]
  rw[e1,e2]at e3;exact Nat.eq_of_mul_eq_mul_left hs e3
theorem d5:∀(n:Nat) (x:D),cc n x=true->fB x x=true
 | _,.bD,_=>rfl
 | _,.bl b,_=>by simp [fB]
 | _,.int i,_=>by simp [fB]
 | _,.str s,_=>by simp [fB]
 | 0,.tup _,h=>by simp [cc]at h
 | 0,.lst _,h=>by simp [cc]at h
 | n+1,.tup xs,h=>by
  have h':xs.all (cc n)=true:=h;show mP xs xs=true
  induction xs with
  | nil=>rfl
  | cons x r ih =>
   rw[List.all_cons,Bool.and_eq_true]at h';show(fB x x&&mP r r)=true;rw[d5 n x h'.1,ih (by show r.all (cc n)=true;exact h'.2) h'.2];rfl
 | n+1,.lst xs,h=>by
  have h':xs.all (cc n)=true:=h;show mP xs xs=true
  induction xs with
  | nil=>rfl
  | cons x r ih =>
   rw[List.all_cons,Bool.and_eq_true]at h';show(fB x x&&mP r r)=true;rw[d5 n x h'.1,ih (by show r.all (cc n)=true;exact h'.2) h'.2];rfl
 | 0,.dct _,h=>by simp [cc]at h
 | 0,.exc _,h=>by simp [cc]at h
 | 0,.j6 _,h=>by simp [cc]at h
 | n+1,.dct _,h=>by simp [cc]at h
 | n+1,.exc _,h=>by simp [cc]at h
 | n+1,.j6 _,h=>by simp [cc]at h
 | _,.o5 _,h=>by simp [cc]at h
 | _,.kp ..,h=>by simp [cc]at h
theorem mQ{T:List Int}{p:Int}(hp:p∉T):∀l:List Int,(l.filter (λx=>decide (x∈T))).length+(l.filter (λx=>decide (x=p))).length<=(l.filter (λx=>decide (x∈T)||decide (x=p))).length
 | []=>Nat.le_refl _
 | x::l=>by
  have ih:=mQ hp l
  by_cases h1:x∈T
  ·have h2:x≠p:=λz=>hp (z ▸ h1)
   rw[List.filter_cons_of_pos (by simpa using h1),List.filter_cons_of_neg (by simpa using h2),List.filter_cons_of_pos (by simp [h1]),List.length_cons,List.length_cons]
   omega
  ·by_cases h2:x=p
   ·rw[List.filter_cons_of_neg (by simpa using h1),List.filter_cons_of_pos (by simpa using h2),List.filter_cons_of_pos (by simp [h2]),List.length_cons,List.length_cons]
    omega
   ·rw[List.filter_cons_of_neg (by simpa using h1),List.filter_cons_of_neg (by simpa using h2),List.filter_cons_of_neg (by simp [h1,h2])]
    exact ih
theorem Kv(nr:Int->Int->Bool){k n:Nat}(hk:n<=k):(MO nr k (dN n)).Pairwise (λx y:Int=>x<y)/\(∀x∈MO nr k (dN n),x∈dN n) /\
  (∀x∈MO nr k (dN n),∀y∈MO nr k (dN n),x<y->nr x y=false)/\∀p∈dN n,p∉MO nr k (dN n)->∃q∈MO nr k (dN n),(p<q/\nr p q=true)\/(q<p/\nr q p=true):=by
 obtain⟨h1,h2,h3⟩:=qd nr k (dN n) (by unfold dN;rw[aaR,List.length_range];exact hk) (rH n)
 generalize MO nr k (dN n)=T at h1 h2 h3;have hT:=(rH n).sublist h1;have fH:∀x∈T,∀y∈T,x<y->nr x y=false:=by
  clear h1 h3
  induction T with
  | nil=>intro x hx;cases hx
  | cons t T ih =>
   rw[List.pairwise_cons]at h2 hT;intro x hx y hy VN;rcases List.mem_cons.mp hx with e1|SN
   ·rcases List.mem_cons.mp hy with e2|hy1
    ·omega
    ·exact e1 ▸ h2.1 y hy1
   ·rcases List.mem_cons.mp hy with e2|hy1
    ·have:=hT.1 x SN;omega
    ·exact ih h2.2 hT.2 x SN y hy1 VN
 refine⟨hT,λx hx=>h1.subset hx,fH,λp hp hpT=>Classical.byContradiction λhc=>?_⟩;have hq:∀q∈T,(p<q->nr p q=false)/\(q<p->nr q p=false):=λq hq=>⟨λl=>by
  cases e:nr p q with
  | false=>rfl
  | true=>exact absurd ⟨q,hq,.inl ⟨l,e⟩⟩ hc,λl=>by
  cases e:nr q p with
  | false=>rfl
  | true=>exact absurd ⟨q,hq,.inr ⟨l,e⟩⟩ hc⟩
 have hs:((dN n).filter (λx=>decide (x∈T)||decide (x=p))).Sublist (dN n):=List.filter_sublist
 obtain⟨h4,_⟩:=h3 _ hs (((rH n).sublist hs).imp_of_mem λ{a c} ha hb ZC=>by
  have ka:=(List.mem_filter.mp ha).2;have kb:=(List.mem_filter.mp hb).2;rw[Bool.or_eq_true,decide_eq_true_eq,decide_eq_true_eq]at ka kb;rcases ka with ka|ka<;>rcases kb with kb|kb
  ·exact fH a ka c kb ZC
  ·exact kb ▸ (hq a ka).2 (kb ▸ ZC)
  ·exact ka ▸ (hq c kb).1 (ka ▸ ZC)
  ·omega)
 have h5:=mQ hpT (dN n);have h6:T.length<=((dN n).filter (λx=>decide (x∈T))).length:=by
  have:=(h1.filter (λx=>decide (x∈T))).length_le
  rwa [List.filter_eq_self.mpr (λx hx=>decide_eq_true hx)]at this
 have h7:0<((dN n).filter (λx=>decide (x=p))).length:=List.length_pos_iff.mpr λz=>by
  have:p∈(dN n).filter (λx=>decide (x=p)):=List.mem_filter.mpr ⟨hp,decide_eq_true rfl⟩;rw[z]at this;cases this
 omega
theorem vK{n:Nat}{x:Int}:x∈dN n ↔ 0<=x/\x<n:=by
 unfold dN;rw[List.mem_map];constructor
 ·rintro⟨i,hi,rfl⟩
  have:=List.mem_range.mp hi;omega
 ·rintro⟨h1,h2⟩
  exact⟨x.toNat,List.mem_range.mpr ⋯,by omega⟩
theorem dD(ns:List Int):cc 8 (.lst (ns.map D.int))=true:=by
 show(ns.map D.int).all (cc 7)=true;rw[List.all_map];exact List.all_eq_true.mpr λ_ _=>rfl
theorem nv(f:Nat->Int)(n:Nat):cc 8 (.lst (cM f n))=true:=List.all_eq_true.mpr λd hd=>by
 obtain⟨r,_,e⟩:=List.mem_filterMap.mp hd
 split at e
 ·cases e
  exact List.all_eq_true.mpr λx hx=>by
   obtain⟨k,_,rfl⟩:=List.mem_map.mp hx;rfl
 ·cases e
theorem xx(l:List Tr):cc 8 (.lst (l.map eA))=true:=List.all_eq_true.mpr λd hd=>by
 obtain⟨t,_,rfl⟩:=List.mem_map.mp hd;rfl
theorem xf{α:Type}{g:lM}{te:TD}{sQ:Sd}{m n:Nat}{Q:List D->List D->List D->Prop}(gi:α->D)(I:Nat->List D->List D->List D->Prop)(l:List α)(hl:l.length<=sizeLine)
  (h:∀i a,l[i]?=some a->∀acc xs zs,I i acc xs zs->∀(Z:Prop),Z->∀(A:D->List D->List D->Prop),(∀d ys ws,I (i+1) (acc++[d]) ys ws->A d ys ws)->g (gi a) ((sQ.set m (some (.own xs))).set n (some (.own zs))) λaA=>te aA λd gk=>kJ sQ gk/\Z/\ownAt m gk λys=>ownAt n gk λws=>A d ys ws)
  (Jj Gz:List D) (h0:I 0 [] Jj Gz) (hlen:∀i acc xs zs,I i acc xs zs->acc.length=i) (q:∀acc xs zs,I l.length acc xs zs->Q acc xs zs):fU g dm te sQ m n (l.map gi) [] Jj Gz Q:=by
 have key:∀(l2:List α) (i:Nat) (acc xs zs:List D),(∀j:Nat,l2[j]?=l[i+j]?)->i+l2.length=l.length->I i acc xs zs->fU g dm te sQ m n (l2.map gi) acc xs zs Q:=by
  intro l2
  induction l2 with
  | nil =>
   intro i acc xs zs _ hi hI;have:i=l.length:=by simpa using hi
   exact q acc xs zs (this ▸ hI)
  | cons a l2 ih =>
   intro i acc xs zs hj hi hI;have hla:=hlen i acc xs zs hI;have sS:i+(l2.length+1)=l.length:=by simpa using hi
   show g (gi a) _ λaA=>_;refine h i a (by have:=hj 0;simpa using this.symm) acc xs zs hI _ (show acc.length<sizeLine by omega) (λd ys ws=>fU g dm te sQ m n (l2.map gi) (acc++[d]) ys ws Q) λd ys ws hI'=>?_
   refine ih (i+1) _ _ _ (λj=>?_) ⋯ hI'
   have:=hj (j+1);rw[show i+1+j=i+(j+1)by omega]
   simpa using this
 exact key l 0 [] Jj Gz (λj=>by rw[Nat.zero_add]) ⋯ h0
theorem A4(b:Bool)(pts:List (List Int))(c:Int):((bB b pts).filter λt=>decide (t.1<=c)).length+bq (eC b pts c)=pts.length:=by
 obtain⟨_,_,h3,_⟩:=d6 pts.length (cD b pts c) fo;obtain⟨ex,e1,e2⟩:=mU pts.length (cD b pts c) ((n5 b pts).filter λt=>decide (c<t.1));have es:n5 b pts=cD b pts c++(n5 b pts).filter (λt=>decide (c<t.1)):=vS (n8 b pts) c;rw[<- es]at e1;have e1:bB b pts=_:=e1;have h3:(az pts.length (cD b pts c)).2.length+bq (eC b pts c)=pts.length:=h3;obtain⟨_,_,f3⟩:=eM pts.length (cD b pts c);rw[e1,List.filter_append,List.filter_eq_self.mpr λt ht=>(List.mem_filter.mp (f3 t ht)).2,List.filter_eq_nil_iff.mpr (λt ht=>by have:=(List.mem_filter.mp (e2 t ht)).2;rw[decide_eq_true_eq]at this ⊢;omega),List.append_nil]
 exact h3
theorem nE{n x:Nat}(hx:x<n):(bW n).getD x 0=(x:Int):=by
 unfold bW;rw[List.getD_eq_getElem?_getD,List.getElem?_map,List.getElem?_range hx];rfl
theorem A2(b:Bool)(pts:List (List Int)):(bB b pts).head?=(n5 b pts).head?:=by
 unfold bB;cases e:n5 b pts with
 | nil=>rfl
 | cons t ts =>
  obtain⟨ex,e1,_⟩:=mU pts.length [t] ts;have ht:=jg t (by rw[e];exact .head _)
  have e2:(az pts.length [t]).2=[t]:=by
   show(aI (bW pts.length,[]) t).2=[t];have cU:(bW pts.length).getD t.2.1 0≠(bW pts.length).getD t.2.2 0:=by
    rw[nE ⋯,nE ⋯];omega
   unfold aI;rw[if_neg cU];rfl
  rw[show t::ts=[t]++ts from rfl,e1,e2];rfl
theorem wO{b:Bool}{pts:List (List Int)}{c:Int}(hl:pts.length<=14):bq (eC b pts c)<=(MO (Oi b pts c) 14 (dN pts.length)).length:=by
 obtain⟨_,h2,_,h4⟩:=Kv (Oi b pts c) hl;rw[<- fO];have key:=pL (f9 b pts c) (m:=(MO (Oi b pts c) 14 (dN pts.length)).map λx=>(aY b pts c x.toNat).toNat) λr hr=>by
  obtain⟨Z1,Z2⟩:=cw.mp hr
  by_cases h:(r:Int)∈MO (Oi b pts c) 14 (dN pts.length)
  ·exact List.mem_map.mpr ⟨_,h,by rw[Int.toNat_natCast,Z2,Int.toNat_natCast]⟩
  ·obtain⟨q,hq,k⟩:=h4 r (vK.mpr ⟨by omega,by omega⟩) h
   have hq0:=vK.mp (h2 q hq);refine List.mem_map.mpr ⟨q,hq,?_⟩;have:aY b pts c r=aY b pts c q.toNat:=by
    rcases k with⟨l,k⟩|⟨l,k⟩
    ·obtain⟨_,_,_,hf⟩:=of_decide_eq_true k
     rw[Int.toNat_natCast]at hf;exact gI ⋯ ⋯ hf
    ·obtain⟨_,_,_,hf⟩:=of_decide_eq_true k
     rw[Int.toNat_natCast]at hf;exact(gI ⋯ ⋯ hf).symm
   rw[<- this,Z2,Int.toNat_natCast]
 rwa [aaR]at key
def gu(b:Bool)(pts:List (List Int))(c:Int)(x:Nat):Nat:=(bG b pts c).idxOf (aY b pts c x).toNat
def wH(b:Bool)(pts:List (List Int))(c:Int)(m:Nat)(kvs:List (Int×D)):Prop:=∀x,x<pts.length->gu b pts c x<m->cJ kvs (x:Int)=some (.int (gu b pts c x:Nat))
theorem yH{b:Bool}{pts:List (List Int)}{c:Int}{x:Nat}(h:x<pts.length):gu b pts c x<(bG b pts c).length:=by
 obtain⟨r,e,hr,e2⟩:=fk (b:=b) (c:=c) x h;unfold gu;rw[e,Int.toNat_natCast];exact List.idxOf_lt_length_iff.mpr (cw.mpr ⟨by omega,e2⟩)
theorem pv{b:Bool}{pts:List (List Int)}{c:Int}{i r x:Nat}(hr:(bG b pts c)[i]?=some r)(h:x<pts.length):x∈bL (aY b pts c) pts.length r ↔ gu b pts c x=i:=by
 obtain⟨hi,er⟩:=List.getElem?_eq_some_iff.mp hr;rw[dj];constructor
 ·rintro⟨_,e⟩
  unfold gu;rw[e,Int.toNat_natCast,<- er];exact(f9 b pts c).idxOf_getElem i hi
 ·intro e
  refine⟨h,?_⟩;obtain⟨r',e',Z0,e2⟩:=fk (b:=b) (c:=c) x h;have hm:r'∈bG b pts c:=cw.mpr ⟨by omega,e2⟩
  unfold gu at e;rw[e',Int.toNat_natCast]at e;have:(bG b pts c)[(bG b pts c).idxOf r']'(List.idxOf_lt_length_iff.mpr hm)=r':=List.getElem_idxOf _;rw[e'];subst e;rw[er]at this;rw[this]
theorem Ag{b:Bool}{pts:List (List Int)}{c:Int}{i r:Nat}{kvs:List (Int×D)}(hr:(bG b pts c)[i]?=some r)(h:wH b pts c i kvs):
  wH b pts c (i+1) (bS kvs (bS [] (((bL (aY b pts c) pts.length r).map λk:Nat=>D.tup [.int (k:Int),.int (i:Int)]).map xo))):=λx hx hl=>by
 rw[uN,show((bL (aY b pts c) pts.length r).map λk:Nat=>D.tup [.int (k:Int),.int (i:Int)]).map xo=((bL (aY b pts c) pts.length r).map λk:Nat=>(k:Int)).map λk=>(k,D.int (i:Int))from by rw[List.map_map,List.map_map];rfl,mY]
 by_cases e:gu b pts c x=i
 ·rw[if_pos (List.mem_map.mpr ⟨x,(pv hr hx).mpr e,rfl⟩),e];rfl
 ·rw[if_neg λz=>by
   obtain⟨y,hy,ey⟩:=List.mem_map.mp z;have ey:y=x:=by omega
   subst ey;exact e ((pv hr hx).mp hy)]
  show cJ kvs (x:Int)=_;exact h x hx ⋯
theorem pq{b:Bool}{pts:List (List Int)}{c:Int}{i j:Nat}(ku:i<j)(hj:j<pts.length)(hf:eZ b (pts.getD i []) (pts.getD j [])<=c):gu b pts c i=gu b pts c j:=by
 unfold gu;rw[gI ku hj hf]
theorem Ig(b:Bool)(pts:List (List Int))(c:Int)(r:Nat):(bL (aY b pts c) pts.length r).length<=pts.length:=by
 have:=List.length_filter_le (λk=>decide (aY b pts c k=(r:Int))) (List.range pts.length);rw[List.length_range]at this;exact this
def nU:bN:=λds Q=>∃b n pts c,ds=[df pts,dg b,.int c]/\Good n pts/\pts.length<=150/\0<=c/\Q (.sh (.bl true))
theorem HY(ds:List D)(Q:B->Prop)(h:nU ds Q):RQ iq kc nO gh zj xP xR {nx:=λ_=>Q (.sh .bD),rt:=λb _=>Q b} (a9 KA.length ds):=by
 obtain⟨b,n,pts,c,rfl,hg,hl,hc,h⟩:=h;unfold RQ;rw[show df pts=.lst (pts.map d8)from rfl]
 refine au λN hN=>?_;symm;refine⟨b,n,pts,c,rfl,hg,by omega,hc,?_⟩
 symm;subst hN;refine au λN hN=>?_;symm;have ep:(pts.map d8).length=pts.length:=aaR _;rw[ep,Int.toNat_natCast,nG,Eh];refine⟨AI ..,by rw[AH,sz];omega,AG ..,⟨by omega,by omega⟩,⟨dD _,dD _⟩,?_⟩
 rw[d5 8 _ (dD _)];refine(if_neg ∅).mpr ⟨pN ..,λys hp hs=>?_⟩
 obtain rfl:=vQ hp hs;refine⟨⟨nv ..,nv ..⟩,?_⟩;rw[d5 8 _ (nv ..)];refine(if_neg ∅).mpr ?_
 subst hN
 -- the homes
 refine au λN hN=>?_;symm;subst hN;intro p0;refine au λN hN=>?_;show cZ _ _ _ _ _;generalize ht:IQ 4 _=tb;symm;have hrl:=fO b pts c;have hrs:=gO b pts c;rw[show iL (cM (aY b pts c) pts.length)=iL ((bG b pts c).map λr=>D.lst ((bL (aY b pts c) pts.length r).map λk:Nat=>D.int (k:Int)))from by rw[eG],o7]
 refine dB (λq:Nat×Nat=>.tup [.int (q.1:Nat),D.lst ((bL (aY b pts c) pts.length q.2).map λk:Nat=>D.int (k:Int))]) _ (λi σ=>∃(kvs:List (Int×D)) (x5 x6:Option B),σ=[some (.sh (.lst (pts.map d8))),some (.sh (dg b)),some (.sh (.int c)),some (.sh (.lst (cM (aY b pts c) pts.length))),some (.obj (Gk p0 kvs)),x5,x6,none,none,none,none,none]/\kvs.length<=150*i/\wH b pts c i kvs) (λi q σ N' hx hI oh=>?_) (λσ hI=>?_) ⟨[],none,none,rfl,Nat.zero_le _,λx _ h=>absurd h (Nat.not_lt_zero _)⟩
 ·obtain⟨kvs,x5,x6,rfl,hk,hh⟩:=hI
  obtain⟨M3,He⟩:=tW hx;obtain⟨q1,r⟩:=q;have M3:q1=i:=M3;subst M3;have He:(bG b pts c)[q1]?=some r:=He;have hi:q1<(bG b pts c).length:=(List.getElem?_eq_some_iff.mp He).1;walk_at "vg";subst ht;symm;have hpk:=Ig b pts c r;refine⟨⟨_,_,rfl⟩,dh (λk:Nat=>D.int (k:Int)) (λk:Nat=>D.tup [.int (k:Int),.int (q1:Int)]) (bL (aY b pts c) pts.length r) (λk hk A ha=>?_) (by rw[sz];omega) ?_⟩
  ·symm
   exact⟨by rw[sz];decide,ha⟩
  refine⟨_,_,rfl,by rw[List.all_map];exact List.all_eq_true.mpr λ_ _=>rfl,by rw[aaR,sz];omega,oh _ ⟨_,_,_,rfl,?_,Ag He hh⟩⟩
  have i1:=i7 (bS [] (((bL (aY b pts c) pts.length r).map λk:Nat=>D.tup [.int (k:Int),.int (q1:Int)]).map xo)) kvs;have i2:=i7 (((bL (aY b pts c) pts.length r).map λk:Nat=>D.tup [.int (k:Int),.int (q1:Int)]).map xo) [];rw[aaR,aaR,List.length_nil]at i2;omega
 ·obtain⟨kvs,x5,x6,rfl,hk,hh⟩:=hI
  rw[List.length_mapIdx]at hk hh;have hv:∀x,x<pts.length->cJ kvs (x:Int)=some (.int (gu b pts c x:Nat)):=λx hx=>hh x hx (yH hx);show N _;subst hN;clear ht;refine au λN hN=>?_;symm;refine⟨b,n,pts,c,rfl,hg,by omega,hc,?_⟩
  rw[yT];dsimp only[Option.or,Option.map];symm;have Yk:((A5 b pts).filter λt=>decide (t.1<=c)).length<=1000000:=by
   have h1:=List.length_filter_le (λt:Tr=>decide (t.1<=c)) (A5 b pts);have h2:=jG (b:=b) (show pts.length<=1000 by omega)
   unfold A5 at h1 ⊢;rw[aaR]at h1;omega
  refine eK Qp (λ_=>none) ((A5 b pts).filter λt=>decide (t.1<=c)) (λt ht A Bn ha=>?_) (by rw[sz];omega) ?_
  ·obtain⟨t1,t2⟩:=List.mem_filter.mp ht
   have t3:=sN t t1;have t4:=ya ((sO b pts).mem_iff.mpr t1);rw[decide_eq_true_eq]at t2;have he:=pq (b:=b) (c:=c) t3.1 t3.2.1 (by rw[<- t4];exact t2)
   unfold Qp;symm;refine⟨_,hv _ ⋯,_,hv _ t3.2.1,⟨rfl,rfl⟩,?_⟩
   rw[dA,he,decide_eq_true rfl];exact(if_neg ∅).mpr ha
  rw[show((A5 b pts).filter λt=>decide (t.1<=c)).filterMap (λ_:Tr=>(none:Option D))=[]from by simp]
  refine⟨rfl,Nat.zero_le _,⟨rfl,rfl⟩,?_⟩;refine(if_neg ∅).mpr ?_
  subst hN;refine au λN hN=>?_;symm;rw[show cut (pts.map d8) none (some 12)=(pts.take 12).map d8 from(tM (pts.map d8) 12).trans (List.map_take ..).symm]
  have hf:Good n (pts.take 12):=⟨hg.1,λp hp=>hg.2 p (List.mem_of_mem_take hp)⟩;have Yk:(pts.take 12).length<=12:=by rw[List.length_take];omega
  subst hN;refine au λN hN=>?_;symm;refine⟨b,n,pts.take 12,c,rfl,hf,by omega,hc,?_⟩
  symm;refine⟨b,n,pts.take 12,c,rfl,hf,by omega,hc,?_⟩
  symm;have ham:=wO (b:=b) (c:=c) (show(pts.take 12).length<=14 by omega)
  rw[aaR,jb];refine(if_neg ⋯).mpr ?_
  subst hN;refine au λN hN=>?_;symm;refine⟨b,n,pts,rfl,hg,by omega,λl hi _ _=>?_⟩
  obtain rfl:=iu hi;symm;subst hN;refine au λN hN=>?_;symm;refine eK eA (λt=>if t.1<=c then some (D.int t.1)else none) (bB b pts) (λt ht A Bn ha=>?_) (by rw[dJ,sz];omega) ?_
  ·unfold eA
   symm
   by_cases q:t.1<=c
   ·rw[if_pos q]at ha ⊢
    exact ha
   ·rw[if_neg q]at ha ⊢
    exact ha
  have tn:=A4 b pts c;have fl:((bB b pts).filterMap λt=>if t.1<=c then some (D.int t.1)else none).length=((bB b pts).filter λt=>decide (t.1<=c)).length:=by
   generalize bB b pts=l
   induction l with
   | nil=>rfl
   | cons t l ih =>
    by_cases q:t.1<=c
    ·rw[List.filterMap_cons_some (by rw[if_pos q]),List.filter_cons_of_pos (by simpa using q),List.length_cons,List.length_cons,ih]
    ·rw[List.filterMap_cons_none (by rw[if_neg q]),List.filter_cons_of_neg (by simpa using q),ih]
  rw[fl,jb,ep];refine⟨⟨rfl,rfl⟩,?_⟩;rw[dA,decide_eq_true ⋯]
  refine(if_neg ∅).mpr ?_
  subst hN;refine au λN hN=>?_;symm;have okp:cc 8 (.lst (pts.map d8))=true:=List.all_eq_true.mpr λd hd=>by
   obtain⟨p,_,rfl⟩:=List.mem_map.mp hd;exact List.all_eq_true.mpr λx hx=>by
    obtain⟨k,_,rfl⟩:=List.mem_map.mp hx;rfl
  have go:N [some (.sh (.lst (pts.map d8))),some (.sh (dg b)),some (.sh (.int c)),some (.sh (.lst (cM (aY b pts c) pts.length))),some (.obj (Gk p0 kvs)),x5,x6,some (.sh (.lst ((pts.take 12).map d8))),some (.sh (.lst ((bB b pts).map eA))),none,none,none]:=by
   subst hN;refine au λN hN=>?_;show cZ _ _ _ _ _;generalize ht:cT _ _ _=tb;symm;refine dB eA (bB b pts) (λi σ=>∃y1 y2 y3,σ=[some (.sh (.lst (pts.map d8))),some (.sh (dg b)),some (.sh (.int c)),some (.sh (.lst (cM (aY b pts c) pts.length))),some (.obj (Gk p0 kvs)),x5,x6,some (.sh (.lst ((pts.take 12).map d8))),some (.sh (.lst ((bB b pts).map eA))),y1,y2,y3]) (λi t σ N' hx hI oh=>?_) (λσ hI=>?_) ⟨none,none,none,rfl⟩
   ·obtain⟨y1,y2,y3,rfl⟩:=hI
    have SM:t∈n5 b pts:=(eM pts.length (n5 b pts)).2.2 t (List.mem_of_getElem? hx);have t3:=jg t SM;have t4:=ya SM;unfold eA;walk_at "vg";subst ht;symm;refine⟨b,n,pts,t.2.1,t.2.2,rfl,hg,by omega,t3.2.1,?_⟩
    symm;refine⟨⟨rfl,rfl⟩,?_⟩;rw[dA,<- t4,decide_eq_true rfl];refine(if_neg ∅).mpr ?_
    by_cases q:t.1<=c
    ·refine(if_pos q).mpr ⟨_,hv _ ⋯,_,hv _ t3.2.1,⟨rfl,rfl⟩,?_⟩
     rw[dA,pq (b:=b) (c:=c) t3.1 t3.2.1 (by rw[<- t4];exact q),decide_eq_true rfl]
     refine(if_neg ∅).mpr ?_
     exact oh _ ⟨_,_,_,rfl⟩
    ·refine(if_neg q).mpr ?_
     exact oh _ ⟨_,_,_,rfl⟩
   ·obtain⟨y1,y2,y3,rfl⟩:=hI
    show N _;subst hN;symm;refine⟨b,n,pts,rfl,hg,by omega,?_⟩
    have hb:=zO (nC b pts);have ed:R9 b pts=(((n5 b pts).head?).map eA).getD .bD:=by
     unfold R9;rw[hb,n6,List.head?_map]
    rw[<- A2]at ed;rw[ed];cases e:bB b pts with
    | nil =>
     symm;refine⟨by rw[sz];decide,eK (λ_:Unit=>D.bD) (λ_=>none) [()] (λt ht A Bn ha=>?_) (by rw[sz];decide) ⟨⟨rfl,rfl⟩,h⟩⟩
     symm;exact ha
    | cons t l =>
     rw[show cut ((t::l).map eA) none (some 1)=[eA t]from tM ((t::l).map eA) 1]
     symm;refine⟨by rw[sz];decide,eK (λ_:Unit=>eA t) (λ_=>some (eA t)) [()] (λu hu A Bn ha=>?_) (by rw[sz];decide) ⟨⟨xx [t],xx [t]⟩,?_⟩⟩
     ·symm
      exact ha
     ·rw[show [()].filterMap (λ_=>some (eA t))=[eA t]from rfl,d5 8 (.lst [eA t]) (xx [t])]
      exact h
  refine⟨Nat.zero_le _,⟨okp,rfl⟩,?_⟩
  by_cases hz:pts=[]
  ·refine(if_neg (by rw[hz];decide)).mpr ?_
   exact(if_neg ∅).mpr go
  ·refine(if_pos (by
    cases e:pts with
    | nil=>exact absurd e hz
    | cons p l=>rfl)).mpr ?_
   rw[jb];have Z1:1<=bq (eC b pts c):=by
    rw[<- fO];have Yl:0<pts.length:=List.length_pos_iff.mpr hz;exact Nat.lt_of_le_of_lt (Nat.zero_le _) (yH (b:=b) (c:=c) Yl)
   refine⟨b,n,pts,bq (eC b pts c),rfl,hg,by omega,Z1,?_⟩
   symm;have:=(tD Z1 hc).mpr (Nat.le_refl (bq (eC b pts c)));refine(if_neg ⋯).mpr go
def nQ:lq:=λxs ds Q=>e9 xs/\∃b n pts c,ds=[df pts,dg b,.int c]/\Good n pts/\pts.length<=150/\0<=c/\∀ys,e9 ys->Q (.sh (.bl true)) ys
theorem HW(xs ds:List D)(Q:B->List D->Prop)(h:nQ xs ds Q):RN ip iq gh rZ zj {nx:=xm Q (.sh .bD),rt:=λb σ=>xm Q b σ} (bz Kx.length xs ds):=by
 obtain⟨r0,b,n,pts,c,rfl,hg,hl,hc,h⟩:=h;unfold RN;rw[show df pts=.lst (pts.map d8)from rfl]
 refine au λN hN=>?_;simp only[bz];symm;subst hN;refine au λN hN=>?_;symm;rw[aaR,Int.toNat_natCast,fN];refine⟨by omega,?_⟩
 refine xf (λi:Nat=>.int (0+(i:Nat))) (λi acc xs zs=>e9 xs/\∃dn lf:List (List Int),acc=dn.map d8/\zs=lf.map d8/\(dn++lf).Perm pts/\dn.length=i) (List.range pts.length) (by rw[List.length_range,sz];omega) (λi a hx acc xs zs hI Z hz A hA=>?_) _ _ ⟨r0,[],pts,rfl,rfl,.refl _,rfl⟩ (λi acc xs zs hI=>?_) (λacc xs zs hI=>?_)
 ·obtain⟨rx,dn,lf,rfl,rfl,hp,hd⟩:=hI
  have hi:i<pts.length:=by have:=(List.getElem?_eq_some_iff.mp hx).1;rw[List.length_range]at this;exact this
  have hll:lf.length=pts.length-i:=by have:=hp.length_eq;rw[List.length_append]at this;omega
  walk_at "vg";symm;rw[aaR];refine⟨⟨_,rfl⟩,⟨_,rfl⟩,rx,_,rfl,by omega,by omega,λr ys r0' r1' ry=>?_⟩
  symm;rw[aaR];refine⟨r0',r1',by omega,λe he=>?_⟩
  have hr:r.toNat<lf.length:=by omega
  rw[List.getElem?_map,aaQ hr]at he;cases he;refine⟨hz,?_⟩;refine hA _ _ _ ⟨ry,dn++[lf[r.toNat]],lf.eraseIdx r.toNat,by rw[List.map_append];rfl,?_,?_,by rw[List.length_append,hd];rfl⟩
  ·rw[List.eraseIdx_eq_take_drop_succ,List.eraseIdx_eq_take_drop_succ,List.map_append,List.map_take,List.map_drop]
  ·rw[List.append_assoc]
   refine(List.Perm.append_left dn ?_).trans hp;show(lf[r.toNat]::lf.eraseIdx r.toNat).Perm lf;have e:lf=lf.take r.toNat++lf[r.toNat]::lf.drop (r.toNat+1):=by
    rw[List.getElem_cons_drop,List.take_append_drop]
   rw[List.eraseIdx_eq_take_drop_succ]
   conv=>rhs;rw[e]
   exact List.perm_middle.symm
 ·obtain⟨_,dn,lf,rfl,_,_,hd⟩:=hI
  rw[aaR];exact hd
 ·obtain⟨rx,qts,lf,rfl,rfl,hp,hd⟩:=hI
  rw[List.length_range]at hd;have hlf:lf=[]:=by
   have:=hp.length_eq;rw[List.length_append]at this;exact List.eq_nil_of_length_eq_zero ⋯
  subst hlf;rw[List.append_nil]at hp;have hq:Good n qts:=⟨hg.1,λp hq=>hg.2 p (hp.mem_iff.mp hq)⟩;subst hN;refine au λN hN=>?_;symm;refine⟨b,n,pts,c,rfl,hg,by omega,hc,?_⟩
  symm;have Kj:∀(ps:List (List Int)) (R:List D->Prop),ps.length<=150->R ((bG b ps c).map λr=>D.int ((bL (aY b ps c) ps.length r).length:Nat))->gq (dC 0) dm (ao [] (aZ (dY cN (bj (ag 0) dc)))) [none] (cM (aY b ps c) ps.length) [] R:=λps R SJ hR=>by
   rw[eG];refine dh (λr=>D.lst ((bL (aY b ps c) ps.length r).map λk:Nat=>D.int (k:Int))) (λr=>D.int ((bL (aY b ps c) ps.length r).length:Nat)) (bG b ps c) (λr hr A ha=>?_) (by rw[fO,sz];have:=gO b ps c;omega) hR
   symm;rw[aaR];exact ha
  have sint:∀ps:List (List Int),((bG b ps c).map λr=>D.int ((bL (aY b ps c) ps.length r).length:Nat)).all isInt=true:=λps=>by
   rw[List.all_map];exact List.all_eq_true.mpr λ_ _=>rfl
  refine Kj pts _ hl ⟨sint _,?_⟩;subst hN;refine au λN hN=>?_;symm;refine⟨by decide,b,n,qts,c,rfl,hq,by omega,hc,?_⟩
  symm;refine Kj qts _ ⋯ ⟨sint _,?_⟩
  have es:lE (((bG b qts c).map λr=>D.int ((bL (aY b qts c) qts.length r).length:Nat)).map fJ)=lE (((bG b pts c).map λr=>D.int ((bL (aY b pts c) pts.length r).length:Nat)).map fJ):=by
   have:=(xN (b:=b) hc hp).map λk:Nat=>(k:Int);rw[List.map_map,List.map_map]at this;rw[List.map_map,List.map_map];exact nL (((nM _).trans this)) (j8 _)
  rw[es];refine⟨⟨dD _,dD _⟩,?_⟩;rw[d5 8 _ (dD _)];refine(if_neg ∅).mpr ?_
  subst hN
  -- the tree's fars
  refine au λN hN=>?_;symm;have UX:∀(ps:List (List Int)) (R:List D->Prop),ps.length<=150->R (((bB b ps).map (·.1)).map D.int)->gq (uI 3 (gC (dC 0) (gC (dC 1) (gC (dC 2) uH)))) dm (ao [] (ag 0)) [none,none,none] ((bB b ps).map eA) [] R:=λps R SJ hR=>by
   refine dh eA (λt=>D.int t.1) (bB b ps) (λt ht A ha=>?_) (by rw[dJ,sz];omega) (by rw[List.map_map]at hR;exact hR)
   unfold eA;symm;exact ha
  refine⟨b,n,pts,rfl,hg,by omega,λl hi _ _=>?_⟩
  obtain rfl:=iu hi;symm;refine UX pts _ hl ?_;subst hN;refine au λN hN=>?_;symm;refine⟨b,n,qts,rfl,hq,by omega,λl hi _ _=>?_⟩
  obtain rfl:=iu hi;symm;refine UX qts _ ⋯ ?_
  rw[yw hp];refine⟨⟨dD _,dD _⟩,?_⟩;rw[d5 8 _ (dD _)];refine(if_neg ∅).mpr ?_
  subst hN;refine au λN hN=>?_;symm;refine⟨b,n,pts,rfl,hg,by omega,?_⟩
  symm;refine⟨b,n,qts,rfl,hq,by omega,?_⟩
  rw[GN hp];symm;have okb:cc 8 (mE b pts)=true:=by
   unfold mE
   split
   ·rfl
   ·cases e:(bB b pts).map λt=>D.int t.1 with
    | nil=>rfl
    | cons x l =>
     have hx:∀d∈x::l,cc 8 d=true:=λd hd=>by
      rw[<- e]at hd;obtain⟨t,_,rfl⟩:=List.mem_map.mp hd;rfl
     clear e;show cc 8 (l.foldl (λb y=>if ltI b y=true then y else b) x)=true
     induction l generalizing x with
     | nil=>exact hx x (.head _)
     | cons y l ih =>
      rw[List.foldl_cons];refine ih _ λd hd=>?_;rcases List.mem_cons.mp hd with e|hd
      ·rw[e]
       split
       ·exact hx y (.tail _ (.head _))
       ·exact hx x (.head _)
      ·exact hx d (.tail _ (.tail _ hd))
  refine⟨⟨okb,okb⟩,?_⟩;rw[d5 8 _ okb];refine(if_neg ∅).mpr ?_
  subst hN;refine au λN hN=>?_;symm;have ep:(pts.map d8).length=pts.length:=aaR _;rw[ep];refine⟨⟨_,rfl⟩,rx,_,rfl,by omega,by omega,λa y a0 a1 ry=>?_⟩
  symm;obtain⟨m,Gr,ji,rfl⟩:∃m:Nat,1<=m/\m<=151/\a=(m:Int)-1:=⟨(1+a).toNat,by omega,by omega,by omega⟩
  rw[show 1+((m:Int)-1)=(m:Int)by omega]
  subst hN;refine au λN hN=>?_;symm;refine⟨b,n,pts,m,rfl,hg,by omega,Gr,?_⟩
  symm;refine⟨b,n,qts,m,rfl,hq,by omega,Gr,?_⟩
  rw[BI (pts:=qts) (qts:=pts) Gr λp=>hp.mem_iff];symm;refine⟨⟨rfl,rfl⟩,?_⟩;rw[dA,decide_eq_true rfl];refine(if_neg ∅).mpr ?_
  subst hN;refine au λN hN=>?_;symm;subst hN;refine au λN hN=>?_;symm;have key:∀(y':List D) (more:List (List Int)),e9 y'->Good n more->more.length<=151->(∀p,p∈more ↔ p∈pts)->N [some (.own y'),some (.sh (.lst (pts.map d8))),some (.sh (dg b)),some (.sh (.int c)),some (.own []),some (.sh (.lst (qts.map d8))),some (.own ((lE (((bG b pts c).map λr=>D.int ((bL (aY b pts c) pts.length r).length:Nat)).map fJ)).map D.int)),some (.own (((bB b pts).map λx=>x.1).map D.int)),some (.sh (.int (m:Int))),some (.own (more.map d8))]:=by
   intro y' more ry' hgm ZT hmm;subst hN;refine au λN hN=>?_;symm;refine⟨by decide,b,n,more,m,rfl,hgm,by omega,Gr,?_⟩
   symm;refine⟨b,n,pts,m,rfl,hg,by omega,Gr,?_⟩
   rw[BI (pts:=more) (qts:=pts) Gr hmm];symm;refine⟨⟨rfl,rfl⟩,?_⟩;rw[dA,decide_eq_true rfl];refine(if_neg ∅).mpr ?_
   subst hN;symm;refine⟨b,n,pts,m+1,rfl,hg,by omega,by omega,?_⟩
   symm;refine⟨b,n,pts,m,rfl,hg,by omega,Gr,?_⟩
   symm;rw[decide_eq_true (GP Gr)];exact h _ ry'
  have okp:cc 8 (.lst (pts.map d8))=true:=List.all_eq_true.mpr λd hd=>by
   obtain⟨p,_,rfl⟩:=List.mem_map.mp hd;exact List.all_eq_true.mpr λx hx=>by
    obtain⟨k,_,rfl⟩:=List.mem_map.mp hx;rfl
  refine⟨Nat.zero_le _,⟨okp,rfl⟩,?_⟩
  by_cases hz:pts=[]
  ·refine(if_neg (by rw[hz];decide)).mpr ?_
   exact key _ _ ry hg ⋯ λ_=>Iff.rfl
  ·have Yl:0<pts.length:=List.length_pos_iff.mpr hz
   refine(if_pos (by
    cases e:pts with
    | nil=>exact absurd e hz
    | cons p l=>rfl)).mpr ?_
   rw[ep];refine⟨⟨_,rfl⟩,⟨_,rfl⟩,ry,_,rfl,by omega,by omega,λa y2 a0 a1 QD=>?_⟩
   symm;have ha:a.toNat<pts.length:=by omega
   refine bw (n:=a.toNat) ⋯ (f6 ha) ?_
   refine⟨by rw[sz];omega,?_⟩
   have hm:=getD_mem ha;have:=key y2 (pts++[pts.getD a.toNat []]) QD ⟨hg.1,λp hp=>by
    rcases List.mem_append.mp hp with hp|hp
    ·exact hg.2 p hp
    ·rw[List.mem_singleton.mp hp];exact hg.2 _ hm⟩ (by rw[List.length_append,List.length_singleton];omega) λp=>by
    rw[List.mem_append,List.mem_singleton];exact⟨λz=>z.elim id λe=>e ▸ hm,.inl⟩
   rw[List.map_append]at this;exact this
def Fb:bN:=λds Q=>∃ns:List Int,ds=[.j6 ns]/\ns.length<=63/\Q (.sh (.bl true))
theorem W3(ds:List D)(Q:B->Prop)(h:Fb ds Q):FG jd ip sg gh nU nQ {nx:=λ_=>Q (.sh .bD),rt:=λb _=>Q b} (a9 BD.length ds):=by
 obtain⟨ns,rfl,Yn,h⟩:=h;unfold FG;refine au λN hN=>?_;unfold zt;generalize ht:b8 (ei [] 2 _) _=tb;symm;refine⟨⟨cut ns none (some 3),by rw[tL],Nat.le_trans (yo _ _ _) Yn⟩,λm=>uF (λσ=>∃x1 x2 x3 x4 x5,σ=[some (.sh (.j6 ns)),x1,x2,x3,x4,x5]) (λi c σ N' hI oh=>?_) (λσ hI=>?_) m 0 _ ⟨_,_,_,_,_,rfl⟩⟩
 ·obtain⟨x1,x2,x3,x4,x5,rfl⟩:=hI
  subst ht;have r0:e9 [.int c,.int 0]:=⟨_,_,rfl⟩;unfold Qq;simp only[List.set_cons_zero,List.set_cons_succ];refine au λN1 xj=>?_;symm;refine⟨⟨_,rfl⟩,⟨_,rfl⟩,r0,3,rfl,by decide,by decide,λa1 y1 a10 a11 r1=>?_⟩
  symm;obtain⟨n,J0,ZU,rfl⟩:∃n:Nat,1<=n/\n<=3/\a1=(n:Int)-1:=⟨(1+a1).toNat,by omega,by omega,by omega⟩
  rw[show 1+((n:Int)-1)=(n:Int)by omega]
  refine⟨r1,n,20,rfl,J0,ZU,by decide,λpts y2 hg _ hl QD=>?_⟩
  symm;subst xj;refine au λN1 xj=>?_;symm;refine⟨⟨_,rfl⟩,QD,rfl,λb y3 ry3=>?_⟩;symm;subst xj;refine au λN1 xj=>?_;symm;refine⟨b,n,pts,rfl,hg,by omega,λl hi _ _=>?_⟩
  obtain rfl:=iu hi;symm;refine dh eA (λt=>D.int t.1) (bB b pts) (λt ht A ha=>?_) (by rw[dJ,sz];omega) ?_
  ·unfold eA
   symm;exact ha
  symm;have tl:(bB b pts).length<=19:=by rw[dJ];omega
  refine⟨by unfold sV;decide,by rw[sz];decide,by rw[aaR,sz];omega,?_⟩
  have Uw:(10:Int)^Int.toNat 30=10^30:=rfl;rw[Uw];have fH:∀d∈(bB b pts).map (λt=>D.int t.1)++[D.int 0,D.int (10^30)],∃v:Int,d=.int v:=λd hd=>by
   rcases List.mem_append.mp hd with hd|hd
   ·obtain⟨t,_,rfl⟩:=List.mem_map.mp hd
    exact⟨_,rfl⟩
   ·simp only[List.mem_cons,List.not_mem_nil,or_false]at hd
    rcases hd with rfl|rfl
    ·exact⟨_,rfl⟩
    ·exact⟨_,rfl⟩
  have hlen:((bB b pts).map (λt=>D.int t.1)++[D.int 0,D.int (10^30)]).length=(bB b pts).length+2:=by rw[List.length_append,aaR];rfl
  generalize (bB b pts).map (λt=>D.int t.1)++[D.int 0,D.int (10^30)]=fs at fH hlen;subst xj;refine au λN1 xj=>?_;symm;refine⟨⟨_,rfl⟩,ry3,_,rfl,by omega,by omega,λa y4 a0 a1 ry4=>?_⟩
  symm;refine eO a0 ⋯ λd hd=>?_
  obtain⟨v,rfl⟩:=fH d hd;subst xj;refine au λN1 xj=>?_;symm;refine⟨⟨_,rfl⟩,ry4,3,rfl,by decide,by decide,λa2 y5 a20 a21 ry5=>?_⟩
  symm;have hw:0<=(if v+a2-1>0 then v+a2-1 else 0):=by split<;>omega
  generalize (if v+a2-1>0 then v+a2-1 else 0)=w at hw
  subst xj;symm;refine⟨b,n,pts,w,rfl,hg,by omega,hw,?_⟩
  symm
  try refine(if_neg ∅).mpr ?_
  refine⟨⟨_,rfl⟩,ry5,b,n,pts,w,rfl,hg,by omega,hw,λy6 ry6=>?_⟩
  symm
  try refine(if_neg ∅).mpr ?_
  exact oh _ ⟨_,_,_,_,_,rfl⟩
 ·obtain⟨x1,x2,x3,x4,x5,rfl⟩:=hI
  show N _;subst hN;symm;exact h
end
def zi(K:PySem.W.Frag):Sp:=λvs H Q _=>∃(a:Addr) (ns:List Int),vs=[.ref a]/\gn K H a (ns.map V.int)/\ns.length<=63/\∀H',Q (.bl true) H'
-- level 17
section
variable [KF]{G:GE}{k:Nat}
theorem G1{x:Str}{st:Stmt}{ps:List Str}{f:Addr}{fd:FuncData}(d:cW G x st ps f fd):cR G k x λ_ _=>False:=
 ⟨f,fd,ps,⟨λvs H Q E h=>by obtain⟨_,_,_,_,_,z,_⟩:=h;exact z.elim,λA outer s H args us vs Q E _ _ _ _ h=>by obtain⟨_,_,_,_,_,z,_⟩:=h;exact z.elim⟩,d.m,d.F.kp,d.b⟩
local macro_rules|`(tactic| walk_at "8")=>`(tactic| (intro xs ds Q h;first|(obtain⟨e,_⟩:=h;rw[e];rfl) | (obtain⟨_,e,_⟩:=h;rw[e];rfl) | (obtain⟨_,_,e,_⟩:=h;rw[e];rfl) | (obtain⟨_,_,_,e,_⟩:=h;rw[e];rfl) | (obtain⟨_,_,_,_,e,_⟩:=h;rw[e];rfl) | (obtain⟨_,_,_,_,_,e,_⟩:=h;rw[e];rfl) | (obtain⟨_,_,_,_,_,_,e,_⟩:=h;rw[e];rfl) | (obtain⟨_,_,_,_,_,_,_,e,_⟩:=h;rw[e];rfl) | (obtain⟨_,_,_,_,_,_,_,_,e,_⟩:=h;rw[e];rfl) | (obtain⟨_,_,_,_,_,_,_,_,_,e,_⟩:=h;rw[e];rfl) | (obtain⟨_,_,_,_,_,_,_,_,_,_,e,_⟩:=h;rw[e];rfl)))
local macro_rules|`(tactic| walk_at "7")=>`(tactic| (intro ds Q h;first|(obtain⟨e,_⟩:=h;rw[e];rfl) | (obtain⟨_,e,_⟩:=h;rw[e];rfl) | (obtain⟨_,_,e,_⟩:=h;rw[e];rfl) | (obtain⟨_,_,_,e,_⟩:=h;rw[e];rfl) | (obtain⟨_,_,_,_,e,_⟩:=h;rw[e];rfl) | (obtain⟨_,_,_,_,_,e,_⟩:=h;rw[e];rfl) | (obtain⟨_,_,_,_,_,_,e,_⟩:=h;rw[e];rfl) | (obtain⟨_,_,_,_,_,_,_,e,_⟩:=h;rw[e];rfl) | (obtain⟨_,_,_,_,_,_,_,_,e,_⟩:=h;rw[e];rfl) | (obtain⟨_,_,_,_,_,_,_,_,_,e,_⟩:=h;rw[e];rfl) | (obtain⟨_,_,_,_,_,_,_,_,_,_,e,_⟩:=h;rw[e];rfl)))
theorem O9(hK:G.K=KF.K)(hT:KF.tabs=[])(E:Gl G)
    {uk:Addr} {MC:FuncData} (Cz:cW G "need_count" jS ["count"] uk MC)
    {CW:Addr} {UY:FuncData} (LO:cW G "need_as_many_numbers" rK ["point","count"] CW UY)
    {ua:Addr} {Mw:FuncData} (Cr:cW G "need_points" jM ["points"] ua Mw)
    {uw:Addr} {MH:FuncData} (CF:cW G "need_way" jX ["way"] uw MH)
    {CZ:Addr} {U0:FuncData} (LR:cW G "need_points_and_way" rM ["points","way"] CZ U0)
    {um:Addr} {MD:FuncData} (CA:cW G "need_place" jT ["points","place"] um MD)
    {uh:Addr} {MB:FuncData} (Cy:cW G "need_bound" jR ["bound"] uh MB)
    {tZ:Addr} {Mv:FuncData} (Cq:cW G "need_number" jL ["number"] tZ Mv)
    {C4:Addr} {U5:FuncData} (LY:cW G "need_at_most" rR ["points","many"] C4 U5)
    {C6:Addr} {U7:FuncData} (L0:cW G "far_between" rT ["way","point","other"] C6 U7)
    {C2:Addr} {U3:FuncData} (LW:cW G "pairs_by_places" rP ["points","way"] C2 U3)
    {ux:Addr} {MI:FuncData} (CG:cW G "how_far" jY ["points","way","one","other"] ux MI)
    {uo:Addr} {ME:FuncData} (CB:cW G "all_pairs" jU ["points","way"] uo ME)
    {ug:Addr} {MA:FuncData} (Cw:cW G "near_pairs" jQ ["points","way","bound"] ug MA)
    {uA:Addr} {MK:FuncData} (yp:cW G "most_of" j3 ["places","near"] uA MK)
    {uf:Addr} {Mz:FuncData} (Cv:cW G "most_apart" jP ["points","way","bound"] uf Mz)
    {uB:Addr} {ML:FuncData} (CI:cW G "joined" j4 ["leasts","i","j"] uB ML)
    {C5:Addr} {U6:FuncData} (LZ:cW G "parts_within" rS ["points","way","bound"] C5 U6)
    {uc:Addr} {My:FuncData} (Cu:cW G "least_tree" jO ["points","way"] uc My)
    {C3:Addr} {U4:FuncData} (LX:cW G "bound_for_all" rQ ["points","way"] C3 U4)
    {C0:Addr} {U1:FuncData} (LU:cW G "bound_for_parts" rN ["points","way","many"] C0 U1)
    {tY:Addr} {Mu:FuncData} (Cp:cW G "nearest_two" jK ["points","way"] tY Mu)
    {uq:Addr} {MF:FuncData} (CC:cW G "_law_next" jV ["pot","many"] uq MF)
    {ur:Addr} {MG:FuncData} (CD:cW G "_law_pots" jW ["script"] ur MG)
    {ub:Addr} {Mx:FuncData} (Ct:cW G "_law_points" jN ["pot","count","most"] ub Mx)
    {uy:Addr} {MJ:FuncData} (CH:cW G "_law_way" jZ ["pot"] uy MJ)
    {C1:Addr} {U2:FuncData} (LV:cW G "_law_parts_right" rO ["points","way","bound"] C1 U2)
    {CY:Addr} {UZ:FuncData} (LQ:cW G "_law_otherwise_right" rL ["pot","points","way","bound"] CY UZ)
    {o8:Addr} {C9:FuncData} (CJ:cW G "law" gv ["script"] o8 C9)
   :eI G.P G.w G.K G.mg G.base sR 18 o8 C9 ["script"] (zi G.K):=by
  have Dt:gE G 1 "_law_pots":=CD.xE (k:=0) hK QT rfl rfl (UK E);have cH:iy G 1 "_law_next" ip:=CC.Ye (k:=0) hK QS (UJ E) ∅ (by walk_at "8") Pt
  have Dl:iy G 2 "_law_points" jd:=Ct.Ye (k:=1) hK QK (UA E (cH.mono ∅)) ∅ (by walk_at "8") AB
  have Dw:iy G 2 "_law_way" sg:=CH.Ye (k:=1) hK QW (UN E (cH.mono ∅)) ∅ (by walk_at "8") Py
  have Dq:cR G 1 "need_count" kZ:=Cz.fg (k:=0) hK QP (UG E) (by walk_at "7") Eb
  have MQ:cR G 1 "need_as_many_numbers" xQ:=LO.fg (k:=0) hK Xy (Y7 E) (by walk_at "7") WZ
  have Dk:cR G 2 "need_points" se:=Cr.fg (k:=1) hK QJ (Uz E (Dq.mono ∅) (MQ.mono ∅)) (by walk_at "7") Pw
  have Du:cR G 1 "need_way" sf:=CF.fg (k:=0) hK QU (UL E) (by walk_at "7") Px
  have lQ:cR G 3 "need_points_and_way" k7:=LR.fg (k:=2) hK XA (Y9 E (Dk.mono ∅) (Du.mono ∅)) (by walk_at "7") W0
  have Ac:cR G 1 "far_between" nP:=L0.fg (k:=0) hK XH (Zg E) (by walk_at "7") WX
  have qE:cR G 2 "pairs_by_places" gR:=LW.fg (k:=1) hK XD (Zc E (Ac.mono ∅)) (by walk_at "7") HX
  have Ds:cR G 4 "all_pairs" kX:=CB.fg (k:=3) hK QR (UI E (lQ.mono ∅) (qE.mono ∅)) (by walk_at "7") Pm
  have pg:cR G 1 "joined" dI:=CI.fg (k:=0) hK QY (UP E) (by walk_at "7") W2
  have eB:cR G 5 "least_tree" gh:=Cu.fg (k:=4) hK QL (UB E (Ds.mono ∅) (pg.mono ∅)) (by walk_at "7") Pz
  have Dp:cR G 1 "need_bound" kY:=Cy.fg (k:=0) hK QO (UE E) (by walk_at "7") Ea
  have jt:cR G 4 "near_pairs" kc:=Cw.fg (k:=3) hK QN (UD E (lQ.mono ∅) (Dp.mono ∅) (qE.mono ∅)) (by walk_at "7") Pr
  have uJ:cR G 5 "parts_within" iq:=LZ.fg (k:=4) hK XG (Zf E (jt.mono ∅) (pg.mono ∅)) (by walk_at "7") Ee
  have MT:cR G 1 "need_at_most" r9:=LY.fg (k:=0) hK XF (Ze E) (by walk_at "7") Pq
  have xk:∀n,cR G (0+n) "most_of" (j9 n):=by
    intro n
    induction n with
    | zero=>exact G1 yp
    | succ n ih=>exact yp.fg (k:=0+n) hK QX (UO E ih) (by walk_at "7") (Pp n)
  have pe:cR G 15 "most_of" (j9 15):=xk 15;have Dm:cR G 16 "most_apart" nO:=Cv.fg (k:=15) hK QM (UC E (jt.mono ∅) (MT.mono ∅) (pe.mono ∅)) (by walk_at "7") HV
  have Dj:cR G 1 "need_number" sd:=Cq.fg (k:=0) hK QI (Uy E) (by walk_at "7") Pu
  have mW:cR G 6 "bound_for_parts" zj:=LU.fg (k:=5) hK XB (Za E (eB.mono ∅) (Dj.mono ∅)) (by walk_at "7") aap
  have yB:cR G 1 "need_place" k6:=CA.fg (k:=0) hK QQ (UH E) (by walk_at "7") Ec
  have Dv:cR G 4 "how_far" xP:=CG.fg (k:=3) hK QV (UM E (lQ.mono ∅) (yB.mono ∅) (Ac.mono ∅)) (by walk_at "7") WY
  have Di:cR G 4 "nearest_two" xR:=Cp.fg (k:=3) hK QH (Ux E (lQ.mono ∅) (qE.mono ∅)) (by walk_at "7") W4
  have MS:cR G 17 "_law_parts_right" nU:=LV.fg (k:=16) hK XC (Zb E (uJ.mono ∅) (jt.mono ∅) (Dm.mono ∅) (eB.mono ∅) (mW.mono ∅) (Dv.mono ∅) (Di.mono ∅)) (by walk_at "7") HY
  have G9:cR G 6 "bound_for_all" rZ:=LX.fg (k:=5) hK XE (Zd E (eB.mono ∅)) (by walk_at "7") Pn
  have MR:iy G 7 "_law_otherwise_right" nQ:=LQ.Ye (k:=6) hK Xz (Y8 E (cH.mono ∅) (uJ.mono ∅) (eB.mono ∅) (G9.mono ∅) (mW.mono ∅)) ∅ (by walk_at "8") HW
  refine(JW (k:=17) (sp:=Fb) hK CJ.F QZ (UQ E (Dt.mono ∅) (Dl.mono ∅) (cH.mono ∅) (Dw.mono ∅) (eB.mono ∅) (MS.mono ∅) (MR.mono ∅)) (by walk_at "7") W3).imp λvs H Q E' h=>?_
  obtain⟨a,ns,rfl,hS,hl,q⟩:=h;refine⟨H,[.j6 ns],λb=>b=.sh (.bl true),⟨av.refl _,λq hq=>by rw[hT]at hq;cases hq⟩,.cons (.j6 (by rw[<- hK];exact hS)) .nil,⟨ns,rfl,hl,rfl⟩,λv H' F' b _ _ _ _ r e=>?_⟩
  subst e;have r:Rep F' v (.bl true):=r;cases r;exact q H'
end
open PySem.W in
theorem all_mk{l:OpenLaw}{w:World}{K:Frag}{h:Heap}{mg:Str->Option Value}{fa:Addr}(X:K.In h)(Gs:h.Ns mainGlobals mg)(hfa:mg "law"=some (.ref fa))
 {uk CW ua uw CZ um uh tZ C4 C6 C2 ux uo ug uA uf uB C5 uc C3 C0 tY uq ur ub uy C1 CY o8:Addr}
 {OY K3 WB TC OO KW O3 K8 WD TH OZ K4 OX K2 OM KU WM TQ WO TU WK TL O4 K9 O0 K5 OW K1 O6 Lb OU K0 O7 Lc WN TR OT KZ WL TN WG TJ OJ KS O1 K6 O2 K7 OQ KY O5 La WH TK WC TF O8 BG:Option Addr}
 {Rf XI Q7 Rl XM Rg Rc Q6 XS XU XQ Rm Rh Rb Rp Ra Rq XT Q9 XR XN Q5 Rj Rk Q8 Rn XO XJ Rr:Array (Option Value)}
 {Ow NF Mb Qc B4 Lx Wq VX Uj W9 JK T8 Om Ny L5 PX BV Lp OB NP Mi Qi B9 LD Ws VZ Ul Xb JM Ua Ox NI Md Qe B5 Ly Ov ND Ma Qb B3 Lw Ol Nx L4 PV BU Ln Wx V4 Ur Xg JR Ug Wz V6 Ut Xi JT Ui Wv V2 Up Xe JP Ud OC NQ Mj Qj Ca LI Oy NK Mf Qf B6 Lz Ou NC L9 Qa B2 Lv OG NS Ml Ql Cd LK Ot NB L8 P0 BZ Ls OH NT Mm Qm Ce LL Wy V5 Us Xh JS Uh Oq NA L7 PZ BX Lr Ww V3 Uq Xf JQ Ue Wt V0 Um Xc JN Ub Oj Nv L3 PU BR Lk Oz NM Mg Qg B7 LA OA NN Mh Qh B8 LC Oo Nz L6 PY BW Lq OD NR Mk Qk Cb LJ Wu V1 Uo Xd JO Uc Wr VY Uk Xa JL T9 OI DN CK Et xc Cj:Value}
  {gU:Tok}
  {xX:Tok}
  {xY:Tok}
  (a_q18:nsIn K mainGlobals "need_count"=some (some (.ref uk)))
  (l_q18:K.lookup uk=some ⟨Ow,OY,.func (fnOf "need_count" "need_count" (aU jS) (aw jS) (ai jS) .none NF Mb Qc K3 B4 Lx),Rf⟩)
  (c_q18:codeIn K B4 "need_count"=true) (k_q18:keepIn K (.ref uk)=true)
  (a_q0:nsIn K mainGlobals "need_as_many_numbers"=some (some (.ref CW)))
  (l_q0:K.lookup CW=some ⟨Wq,WB,.func (fnOf "need_as_many_numbers" "need_as_many_numbers" (aU rK) (aw rK) (ai rK) .none VX Uj W9 TC JK T8),XI⟩)
  (c_q0:codeIn K JK "need_as_many_numbers"=true) (k_q0:keepIn K (.ref CW)=true)
  (a_q12:nsIn K mainGlobals "need_points"=some (some (.ref ua)))
  (l_q12:K.lookup ua=some ⟨Om,OO,.func (fnOf "need_points" "need_points" (aU jM) (aw jM) (ai jM) .none Ny L5 PX KW BV Lp),Q7⟩)
  (c_q12:codeIn K BV "need_points"=true) (k_q12:keepIn K (.ref ua)=true)
  (a_q23:nsIn K mainGlobals "need_way"=some (some (.ref uw)))
  (l_q23:K.lookup uw=some ⟨OB,O3,.func (fnOf "need_way" "need_way" (aU jX) (aw jX) (ai jX) .none NP Mi Qi K8 B9 LD),Rl⟩)
  (c_q23:codeIn K B9 "need_way"=true) (k_q23:keepIn K (.ref uw)=true)
  (a_q2:nsIn K mainGlobals "need_points_and_way"=some (some (.ref CZ)))
  (l_q2:K.lookup CZ=some ⟨Ws,WD,.func (fnOf "need_points_and_way" "need_points_and_way" (aU rM) (aw rM) (ai rM) .none VZ Ul Xb TH JM Ua),XM⟩)
  (c_q2:codeIn K JM "need_points_and_way"=true) (k_q2:keepIn K (.ref CZ)=true)
  (a_q19:nsIn K mainGlobals "need_place"=some (some (.ref um)))
  (l_q19:K.lookup um=some ⟨Ox,OZ,.func (fnOf "need_place" "need_place" (aU jT) (aw jT) (ai jT) .none NI Md Qe K4 B5 Ly),Rg⟩)
  (c_q19:codeIn K B5 "need_place"=true) (k_q19:keepIn K (.ref um)=true)
  (a_q17:nsIn K mainGlobals "need_bound"=some (some (.ref uh)))
  (l_q17:K.lookup uh=some ⟨Ov,OX,.func (fnOf "need_bound" "need_bound" (aU jR) (aw jR) (ai jR) .none ND Ma Qb K2 B3 Lw),Rc⟩)
  (c_q17:codeIn K B3 "need_bound"=true) (k_q17:keepIn K (.ref uh)=true)
  (a_q11:nsIn K mainGlobals "need_number"=some (some (.ref tZ)))
  (l_q11:K.lookup tZ=some ⟨Ol,OM,.func (fnOf "need_number" "need_number" (aU jL) (aw jL) (ai jL) .none Nx L4 PV KU BU Ln),Q6⟩)
  (c_q11:codeIn K BU "need_number"=true) (k_q11:keepIn K (.ref tZ)=true)
  (a_q7:nsIn K mainGlobals "need_at_most"=some (some (.ref C4)))
  (l_q7:K.lookup C4=some ⟨Wx,WM,.func (fnOf "need_at_most" "need_at_most" (aU rR) (aw rR) (ai rR) .none V4 Ur Xg TQ JR Ug),XS⟩)
  (c_q7:codeIn K JR "need_at_most"=true) (k_q7:keepIn K (.ref C4)=true)
  (a_q9:nsIn K mainGlobals "far_between"=some (some (.ref C6)))
  (l_q9:K.lookup C6=some ⟨Wz,WO,.func (fnOf "far_between" "far_between" (aU rT) (aw rT) (ai rT) .none V6 Ut Xi TU JT Ui),XU⟩)
  (c_q9:codeIn K JT "far_between"=true) (k_q9:keepIn K (.ref C6)=true)
  (a_q5:nsIn K mainGlobals "pairs_by_places"=some (some (.ref C2)))
  (l_q5:K.lookup C2=some ⟨Wv,WK,.func (fnOf "pairs_by_places" "pairs_by_places" (aU rP) (aw rP) (ai rP) .none V2 Up Xe TL JP Ud),XQ⟩)
  (c_q5:codeIn K JP "pairs_by_places"=true) (k_q5:keepIn K (.ref C2)=true)
  (a_q24:nsIn K mainGlobals "how_far"=some (some (.ref ux)))
  (l_q24:K.lookup ux=some ⟨OC,O4,.func (fnOf "how_far" "how_far" (aU jY) (aw jY) (ai jY) .none NQ Mj Qj K9 Ca LI),Rm⟩)
  (c_q24:codeIn K Ca "how_far"=true) (k_q24:keepIn K (.ref ux)=true)
  (a_q20:nsIn K mainGlobals "all_pairs"=some (some (.ref uo)))
  (l_q20:K.lookup uo=some ⟨Oy,O0,.func (fnOf "all_pairs" "all_pairs" (aU jU) (aw jU) (ai jU) .none NK Mf Qf K5 B6 Lz),Rh⟩)
  (c_q20:codeIn K B6 "all_pairs"=true) (k_q20:keepIn K (.ref uo)=true)
  (a_q16:nsIn K mainGlobals "near_pairs"=some (some (.ref ug)))
  (l_q16:K.lookup ug=some ⟨Ou,OW,.func (fnOf "near_pairs" "near_pairs" (aU jQ) (aw jQ) (ai jQ) .none NC L9 Qa K1 B2 Lv),Rb⟩)
  (c_q16:codeIn K B2 "near_pairs"=true) (k_q16:keepIn K (.ref ug)=true)
  (a_q26:nsIn K mainGlobals "most_of"=some (some (.ref uA)))
  (l_q26:K.lookup uA=some ⟨OG,O6,.func (fnOf "most_of" "most_of" (aU j3) (aw j3) (ai j3) .none NS Ml Ql Lb Cd LK),Rp⟩)
  (c_q26:codeIn K Cd "most_of"=true) (k_q26:keepIn K (.ref uA)=true)
  (a_q15:nsIn K mainGlobals "most_apart"=some (some (.ref uf)))
  (l_q15:K.lookup uf=some ⟨Ot,OU,.func (fnOf "most_apart" "most_apart" (aU jP) (aw jP) (ai jP) .none NB L8 P0 K0 BZ Ls),Ra⟩)
  (c_q15:codeIn K BZ "most_apart"=true) (k_q15:keepIn K (.ref uf)=true)
  (a_q27:nsIn K mainGlobals "joined"=some (some (.ref uB)))
  (l_q27:K.lookup uB=some ⟨OH,O7,.func (fnOf "joined" "joined" (aU j4) (aw j4) (ai j4) .none NT Mm Qm Lc Ce LL),Rq⟩)
  (c_q27:codeIn K Ce "joined"=true) (k_q27:keepIn K (.ref uB)=true)
  (a_q8:nsIn K mainGlobals "parts_within"=some (some (.ref C5)))
  (l_q8:K.lookup C5=some ⟨Wy,WN,.func (fnOf "parts_within" "parts_within" (aU rS) (aw rS) (ai rS) .none V5 Us Xh TR JS Uh),XT⟩)
  (c_q8:codeIn K JS "parts_within"=true) (k_q8:keepIn K (.ref C5)=true)
  (a_q14:nsIn K mainGlobals "least_tree"=some (some (.ref uc)))
  (l_q14:K.lookup uc=some ⟨Oq,OT,.func (fnOf "least_tree" "least_tree" (aU jO) (aw jO) (ai jO) .none NA L7 PZ KZ BX Lr),Q9⟩)
  (c_q14:codeIn K BX "least_tree"=true) (k_q14:keepIn K (.ref uc)=true)
  (a_q6:nsIn K mainGlobals "bound_for_all"=some (some (.ref C3)))
  (l_q6:K.lookup C3=some ⟨Ww,WL,.func (fnOf "bound_for_all" "bound_for_all" (aU rQ) (aw rQ) (ai rQ) .none V3 Uq Xf TN JQ Ue),XR⟩)
  (c_q6:codeIn K JQ "bound_for_all"=true) (k_q6:keepIn K (.ref C3)=true)
  (a_q3:nsIn K mainGlobals "bound_for_parts"=some (some (.ref C0)))
  (l_q3:K.lookup C0=some ⟨Wt,WG,.func (fnOf "bound_for_parts" "bound_for_parts" (aU rN) (aw rN) (ai rN) .none V0 Um Xc TJ JN Ub),XN⟩)
  (c_q3:codeIn K JN "bound_for_parts"=true) (k_q3:keepIn K (.ref C0)=true)
  (a_q10:nsIn K mainGlobals "nearest_two"=some (some (.ref tY)))
  (l_q10:K.lookup tY=some ⟨Oj,OJ,.func (fnOf "nearest_two" "nearest_two" (aU jK) (aw jK) (ai jK) .none Nv L3 PU KS BR Lk),Q5⟩)
  (c_q10:codeIn K BR "nearest_two"=true) (k_q10:keepIn K (.ref tY)=true)
  (a_q21:nsIn K mainGlobals "_law_next"=some (some (.ref uq)))
  (l_q21:K.lookup uq=some ⟨Oz,O1,.func (fnOf "_law_next" "_law_next" (aU jV) (aw jV) (ai jV) .none NM Mg Qg K6 B7 LA),Rj⟩)
  (c_q21:codeIn K B7 "_law_next"=true) (k_q21:keepIn K (.ref uq)=true)
  (a_q22:nsIn K mainGlobals "_law_pots"=some (some (.ref ur)))
  (l_q22:K.lookup ur=some ⟨OA,O2,.func (fnOf "_law_pots" "_law_pots" (aU jW) (aw jW) (ai jW) .none NN Mh Qh K7 B8 LC),Rk⟩)
  (c_q22:codeIn K B8 "_law_pots"=true) (k_q22:keepIn K (.ref ur)=true)
  (a_q13:nsIn K mainGlobals "_law_points"=some (some (.ref ub)))
  (l_q13:K.lookup ub=some ⟨Oo,OQ,.func (fnOf "_law_points" "_law_points" (aU jN) (aw jN) (ai jN) .none Nz L6 PY KY BW Lq),Q8⟩)
  (c_q13:codeIn K BW "_law_points"=true) (k_q13:keepIn K (.ref ub)=true)
  (a_q25:nsIn K mainGlobals "_law_way"=some (some (.ref uy)))
  (l_q25:K.lookup uy=some ⟨OD,O5,.func (fnOf "_law_way" "_law_way" (aU jZ) (aw jZ) (ai jZ) .none NR Mk Qk La Cb LJ),Rn⟩)
  (c_q25:codeIn K Cb "_law_way"=true) (k_q25:keepIn K (.ref uy)=true)
  (a_q4:nsIn K mainGlobals "_law_parts_right"=some (some (.ref C1)))
  (l_q4:K.lookup C1=some ⟨Wu,WH,.func (fnOf "_law_parts_right" "_law_parts_right" (aU rO) (aw rO) (ai rO) .none V1 Uo Xd TK JO Uc),XO⟩)
  (c_q4:codeIn K JO "_law_parts_right"=true) (k_q4:keepIn K (.ref C1)=true)
  (a_q1:nsIn K mainGlobals "_law_otherwise_right"=some (some (.ref CY)))
  (l_q1:K.lookup CY=some ⟨Wr,WC,.func (fnOf "_law_otherwise_right" "_law_otherwise_right" (aU rL) (aw rL) (ai rL) .none VY Uk Xa TF JL T9),XJ⟩)
  (c_q1:codeIn K JL "_law_otherwise_right"=true) (k_q1:keepIn K (.ref CY)=true)
  (a_q28:nsIn K mainGlobals "law"=some (some (.ref o8)))
  (l_q28:K.lookup o8=some ⟨OI,O8,.func (fnOf "law" "law" (aU gv) (aw gv) (ai gv) .none DN CK Et BG xc Cj),Rr⟩)
  (c_q28:codeIn K xc "law"=true) (k_q28:keepIn K (.ref o8)=true)
  (z_abs:nsIn K mainGlobals "abs"=some none)
  (z_dict:nsIn K mainGlobals "dict"=some none)
  (z_enumerate:nsIn K mainGlobals "enumerate"=some none)
  (z_int:nsIn K mainGlobals "int"=some none)
  (z_len:nsIn K mainGlobals "len"=some none)
  (z_list:nsIn K mainGlobals "list"=some none)
  (z_max:nsIn K mainGlobals "max"=some none)
  (z_min:nsIn K mainGlobals "min"=some none)
  (z_range:nsIn K mainGlobals "range"=some none)
  (z_sorted:nsIn K mainGlobals "sorted"=some none)
  (z_sum:nsIn K mainGlobals "sum"=some none)
  (z_tuple:nsIn K mainGlobals "tuple"=some none)
  (z_zip:nsIn K mainGlobals "zip"=some none)
  (u_MOST_POINTS_APART:nsIn K mainGlobals "MOST_POINTS_APART"=some (some (.int (14) gU)))
  (u_SQUARES:nsIn K mainGlobals "SQUARES"=some (some (.str "squares" xX)))
  (u_STREETS:nsIn K mainGlobals "STREETS"=some (some (.str "streets" xY))):
  ∃fd:FuncData,(∀(s:Shared) (v:Value),BindsTo s fd ⟨[v],[]⟩ [("script",v)])/\∀base:Heap,K.In base->base.Ns mainGlobals mg->eI l.prog w K mg base sR 18 fa fd ["script"] (zi K):=by
 have e:=hfa.symm.trans (mg_of X Gs a_q28);cases e;refine⟨fnOf "law" "law" (aU gv) (aw gv) (ai gv) .none DN CK Et BG xc Cj,λs v=>.of_eq rfl,λbase _ _=>?_⟩
 letI:KF:=⟨K,λ_=>0,[]⟩
 have E:Gl ⟨l.prog,w,K,mg,base⟩:=⟨mg_none_of X Gs z_abs,mg_none_of X Gs z_dict,mg_none_of X Gs z_enumerate,mg_none_of X Gs z_int,mg_none_of X Gs z_len,mg_none_of X Gs z_list,mg_none_of X Gs z_max,mg_none_of X Gs z_min,mg_none_of X Gs z_range,mg_none_of X Gs z_sorted,mg_none_of X Gs z_sum,mg_none_of X Gs z_tuple,mg_none_of X Gs z_zip,⟨_,.int (14),mg_of X Gs u_MOST_POINTS_APART,⟨_,rfl⟩,λF=>.int _⟩,⟨_,.str "squares",mg_of X Gs u_SQUARES,⟨_,rfl⟩,λF=>.str _⟩,⟨_,.str "streets",mg_of X Gs u_STREETS,⟨_,rfl⟩,λF=>.str _⟩⟩;have Ju:=bF (K:=K) (st:=jS) l_q18 c_q18 k_q18;have Cz:cW ⟨l.prog,w,K,mg,base⟩ "need_count" jS ["count"] _ _:=⟨Ju,mg_of X Gs a_q18,Ju.binds λ_ _ _ _ _ _ us hl=>Hv (λ_=>rfl) us hl⟩;have S8:=bF (K:=K) (st:=rK) l_q0 c_q0 k_q0;have LO:cW ⟨l.prog,w,K,mg,base⟩ "need_as_many_numbers" rK ["point","count"] _ _:=⟨S8,mg_of X Gs a_q0,S8.binds λ_ _ _ _ _ _ us hl=>ln2 (λ_ _=>rfl) us hl⟩;have Jo:=bF (K:=K) (st:=jM) l_q12 c_q12 k_q12;have Cr:cW ⟨l.prog,w,K,mg,base⟩ "need_points" jM ["points"] _ _:=⟨Jo,mg_of X Gs a_q12,Jo.binds λ_ _ _ _ _ _ us hl=>Hv (λ_=>rfl) us hl⟩;have Jz:=bF (K:=K) (st:=jX) l_q23 c_q23 k_q23;have CF:cW ⟨l.prog,w,K,mg,base⟩ "need_way" jX ["way"] _ _:=⟨Jz,mg_of X Gs a_q23,Jz.binds λ_ _ _ _ _ _ us hl=>Hv (λ_=>rfl) us hl⟩;have Ta:=bF (K:=K) (st:=rM) l_q2 c_q2 k_q2;have LR:cW ⟨l.prog,w,K,mg,base⟩ "need_points_and_way" rM ["points","way"] _ _:=⟨Ta,mg_of X Gs a_q2,Ta.binds λ_ _ _ _ _ _ us hl=>ln2 (λ_ _=>rfl) us hl⟩;have Jv:=bF (K:=K) (st:=jT) l_q19 c_q19 k_q19;have CA:cW ⟨l.prog,w,K,mg,base⟩ "need_place" jT ["points","place"] _ _:=⟨Jv,mg_of X Gs a_q19,Jv.binds λ_ _ _ _ _ _ us hl=>ln2 (λ_ _=>rfl) us hl⟩;have Jt:=bF (K:=K) (st:=jR) l_q17 c_q17 k_q17;have Cy:cW ⟨l.prog,w,K,mg,base⟩ "need_bound" jR ["bound"] _ _:=⟨Jt,mg_of X Gs a_q17,Jt.binds λ_ _ _ _ _ _ us hl=>Hv (λ_=>rfl) us hl⟩;have Jn:=bF (K:=K) (st:=jL) l_q11 c_q11 k_q11;have Cq:cW ⟨l.prog,w,K,mg,base⟩ "need_number" jL ["number"] _ _:=⟨Jn,mg_of X Gs a_q11,Jn.binds λ_ _ _ _ _ _ us hl=>Hv (λ_=>rfl) us hl⟩;have Tf:=bF (K:=K) (st:=rR) l_q7 c_q7 k_q7;have LY:cW ⟨l.prog,w,K,mg,base⟩ "need_at_most" rR ["points","many"] _ _:=⟨Tf,mg_of X Gs a_q7,Tf.binds λ_ _ _ _ _ _ us hl=>ln2 (λ_ _=>rfl) us hl⟩;have Ti:=bF (K:=K) (st:=rT) l_q9 c_q9 k_q9;have L0:cW ⟨l.prog,w,K,mg,base⟩ "far_between" rT ["way","point","other"] _ _:=⟨Ti,mg_of X Gs a_q9,Ti.binds λ_ _ _ _ _ _ us hl=>Hw (λ_ _ _=>rfl) us hl⟩;have Td:=bF (K:=K) (st:=rP) l_q5 c_q5 k_q5;have LW:cW ⟨l.prog,w,K,mg,base⟩ "pairs_by_places" rP ["points","way"] _ _:=⟨Td,mg_of X Gs a_q5,Td.binds λ_ _ _ _ _ _ us hl=>ln2 (λ_ _=>rfl) us hl⟩
 have JA:=bF (K:=K) (st:=jY) l_q24 c_q24 k_q24;have CG:cW ⟨l.prog,w,K,mg,base⟩ "how_far" jY ["points","way","one","other"] _ _:=⟨JA,mg_of X Gs a_q24,JA.binds λ_ _ _ _ _ _ us hl=>ln4 (λ_ _ _ _=>rfl) us hl⟩;have Jw:=bF (K:=K) (st:=jU) l_q20 c_q20 k_q20;have CB:cW ⟨l.prog,w,K,mg,base⟩ "all_pairs" jU ["points","way"] _ _:=⟨Jw,mg_of X Gs a_q20,Jw.binds λ_ _ _ _ _ _ us hl=>ln2 (λ_ _=>rfl) us hl⟩;have Js:=bF (K:=K) (st:=jQ) l_q16 c_q16 k_q16;have Cw:cW ⟨l.prog,w,K,mg,base⟩ "near_pairs" jQ ["points","way","bound"] _ _:=⟨Js,mg_of X Gs a_q16,Js.binds λ_ _ _ _ _ _ us hl=>Hw (λ_ _ _=>rfl) us hl⟩;have JC:=bF (K:=K) (st:=j3) l_q26 c_q26 k_q26;have yp:cW ⟨l.prog,w,K,mg,base⟩ "most_of" j3 ["places","near"] _ _:=⟨JC,mg_of X Gs a_q26,JC.binds λ_ _ _ _ _ _ us hl=>ln2 (λ_ _=>rfl) us hl⟩;have Jr:=bF (K:=K) (st:=jP) l_q15 c_q15 k_q15;have Cv:cW ⟨l.prog,w,K,mg,base⟩ "most_apart" jP ["points","way","bound"] _ _:=⟨Jr,mg_of X Gs a_q15,Jr.binds λ_ _ _ _ _ _ us hl=>Hw (λ_ _ _=>rfl) us hl⟩;have JD:=bF (K:=K) (st:=j4) l_q27 c_q27 k_q27;have CI:cW ⟨l.prog,w,K,mg,base⟩ "joined" j4 ["leasts","i","j"] _ _:=⟨JD,mg_of X Gs a_q27,JD.binds λ_ _ _ _ _ _ us hl=>Hw (λ_ _ _=>rfl) us hl⟩;have Tg:=bF (K:=K) (st:=rS) l_q8 c_q8 k_q8;have LZ:cW ⟨l.prog,w,K,mg,base⟩ "parts_within" rS ["points","way","bound"] _ _:=⟨Tg,mg_of X Gs a_q8,Tg.binds λ_ _ _ _ _ _ us hl=>Hw (λ_ _ _=>rfl) us hl⟩;have Jq:=bF (K:=K) (st:=jO) l_q14 c_q14 k_q14;have Cu:cW ⟨l.prog,w,K,mg,base⟩ "least_tree" jO ["points","way"] _ _:=⟨Jq,mg_of X Gs a_q14,Jq.binds λ_ _ _ _ _ _ us hl=>ln2 (λ_ _=>rfl) us hl⟩;have Te:=bF (K:=K) (st:=rQ) l_q6 c_q6 k_q6;have LX:cW ⟨l.prog,w,K,mg,base⟩ "bound_for_all" rQ ["points","way"] _ _:=⟨Te,mg_of X Gs a_q6,Te.binds λ_ _ _ _ _ _ us hl=>ln2 (λ_ _=>rfl) us hl⟩;have Tb:=bF (K:=K) (st:=rN) l_q3 c_q3 k_q3;have LU:cW ⟨l.prog,w,K,mg,base⟩ "bound_for_parts" rN ["points","way","many"] _ _:=⟨Tb,mg_of X Gs a_q3,Tb.binds λ_ _ _ _ _ _ us hl=>Hw (λ_ _ _=>rfl) us hl⟩;have Jm:=bF (K:=K) (st:=jK) l_q10 c_q10 k_q10;have Cp:cW ⟨l.prog,w,K,mg,base⟩ "nearest_two" jK ["points","way"] _ _:=⟨Jm,mg_of X Gs a_q10,Jm.binds λ_ _ _ _ _ _ us hl=>ln2 (λ_ _=>rfl) us hl⟩;have Jx:=bF (K:=K) (st:=jV) l_q21 c_q21 k_q21;have CC:cW ⟨l.prog,w,K,mg,base⟩ "_law_next" jV ["pot","many"] _ _:=⟨Jx,mg_of X Gs a_q21,Jx.binds λ_ _ _ _ _ _ us hl=>ln2 (λ_ _=>rfl) us hl⟩;have Jy:=bF (K:=K) (st:=jW) l_q22 c_q22 k_q22;have CD:cW ⟨l.prog,w,K,mg,base⟩ "_law_pots" jW ["script"] _ _:=⟨Jy,mg_of X Gs a_q22,Jy.binds λ_ _ _ _ _ _ us hl=>Hv (λ_=>rfl) us hl⟩;have Jp:=bF (K:=K) (st:=jN) l_q13 c_q13 k_q13
 have Ct:cW ⟨l.prog,w,K,mg,base⟩ "_law_points" jN ["pot","count","most"] _ _:=⟨Jp,mg_of X Gs a_q13,Jp.binds λ_ _ _ _ _ _ us hl=>Hw (λ_ _ _=>rfl) us hl⟩;have JB:=bF (K:=K) (st:=jZ) l_q25 c_q25 k_q25;have CH:cW ⟨l.prog,w,K,mg,base⟩ "_law_way" jZ ["pot"] _ _:=⟨JB,mg_of X Gs a_q25,JB.binds λ_ _ _ _ _ _ us hl=>Hv (λ_=>rfl) us hl⟩;have Tc:=bF (K:=K) (st:=rO) l_q4 c_q4 k_q4;have LV:cW ⟨l.prog,w,K,mg,base⟩ "_law_parts_right" rO ["points","way","bound"] _ _:=⟨Tc,mg_of X Gs a_q4,Tc.binds λ_ _ _ _ _ _ us hl=>Hw (λ_ _ _=>rfl) us hl⟩;have S9:=bF (K:=K) (st:=rL) l_q1 c_q1 k_q1;have LQ:cW ⟨l.prog,w,K,mg,base⟩ "_law_otherwise_right" rL ["pot","points","way","bound"] _ _:=⟨S9,mg_of X Gs a_q1,S9.binds λ_ _ _ _ _ _ us hl=>ln4 (λ_ _ _ _=>rfl) us hl⟩;have JE:=bF (K:=K) (st:=gv) l_q28 c_q28 k_q28;have CJ:cW ⟨l.prog,w,K,mg,base⟩ "law" gv ["script"] _ _:=⟨JE,mg_of X Gs a_q28,JE.binds λ_ _ _ _ _ _ us hl=>Hv (λ_=>rfl) us hl⟩;exact O9 rfl rfl E Cz LO Cr CF LR CA Cy Cq LY L0 LW CG CB Cw yp Cv CI LZ Cu LX LU Cp CC CD Ct CH LV LQ CJ
theorem walk{l:PySem.W.OpenLaw}{q:Program}{loose:List Str}{XP:(Str->Option Value)->Heap->Prop}{YP:World->Heap->Prop}{d:DefRec}{K:Params->PySem.W.Frag}(hn:l.most=some 63)(Vp:d.params.defaults=[])
  (hY:∀(w:World) (h:Heap),YP w h->(K w.params).In h)
  (F:∀(w:World) (mg:Str->Option Value) (fa:Addr) (h:Heap),(K w.params).In h->h.Ns mainGlobals mg->mg d.name=some (.ref fa) ->
   ∃fd:FuncData,(∀(s:Shared) (u:Value),BindsTo s fd ⟨[u],[]⟩ [("script",u)])/\∀base:Heap,(K w.params).In base->base.Ns mainGlobals mg->eI l.prog w (K w.params) mg base sR 18 fa fd ["script"] (zi (K w.params))):
  PySem.W.WalkO q loose XP YP l.row.toRowW d [] (λf vs=>PySem.call f vs):=
 L2.IY (n:=63) (k:=18) (x:="script") (CX:=λ_=>sR) (sp:=λw=>zi (K w.params)) hn ∅ Vp ⟨rfl,by decide,by decide⟩ hY F (λ_ _ a ns hl _ hS=>⟨a,ns,rfl,hS,hl,λ_=>rfl⟩) λ_ _ _ _ _ z=>z
end YQ
namespace PySem.W.Fast
theorem tw10058835886647406770:True:=⟨⟩
theorem tw10379903875665041025:True:=⟨⟩
theorem tw10464828424076546933:True:=⟨⟩
theorem tw10728863645073786076:True:=⟨⟩
theorem tw1076006387736226672:True:=⟨⟩
theorem tw10800076407467899746:True:=⟨⟩
theorem tw10942886116432864976:True:=⟨⟩
theorem tw11116979173407059218:True:=⟨⟩
theorem tw11157753452634193127:True:=⟨⟩
theorem tw11322783525409663272:True:=⟨⟩
theorem tw11401388660636289980:True:=⟨⟩
theorem tw11433556225908952352:True:=⟨⟩
theorem tw11546763024791195554:True:=⟨⟩
theorem tw11808854073880683633:True:=⟨⟩
theorem tw11810573796855105196:True:=⟨⟩
theorem tw11924809079176920315:True:=⟨⟩
theorem tw11998171672016348835:True:=⟨⟩
theorem tw12136844798197207343:True:=⟨⟩
theorem tw12411762032643726635:True:=⟨⟩
theorem tw12438422982043027651:True:=⟨⟩
theorem tw12448676094630633327:True:=⟨⟩
theorem tw1259017135344767344:True:=⟨⟩
theorem tw12605339917835380842:True:=⟨⟩
theorem tw1272170288439281361:True:=⟨⟩
theorem tw12783189538446539806:True:=⟨⟩
theorem tw128374488044371255:True:=⟨⟩
theorem tw13037960229092463452:True:=⟨⟩
theorem tw13320652092096277408:True:=⟨⟩
theorem tw13432620085077987686:True:=⟨⟩
theorem tw13564382319925666126:True:=⟨⟩
theorem tw13625359523394378027:True:=⟨⟩
theorem tw13725274713128093004:True:=⟨⟩
theorem tw13853667897335227983:True:=⟨⟩
theorem tw13880677795605369347:True:=⟨⟩
theorem tw13924179372750989714:True:=⟨⟩
theorem tw14048092338899479818:True:=⟨⟩
theorem tw14063546411650275708:True:=⟨⟩
theorem tw14084413862089943325:True:=⟨⟩
theorem tw14120719999326717573:True:=⟨⟩
theorem tw14154762821075884267:True:=⟨⟩
theorem tw14216573287330630787:True:=⟨⟩
theorem tw14507042023339881271:True:=⟨⟩
theorem tw1456590966833473588:True:=⟨⟩
theorem tw14651860181009655797:True:=⟨⟩
theorem tw14750649311149764722:True:=⟨⟩
theorem tw14785275070356003663:True:=⟨⟩
theorem tw14795460433874086516:True:=⟨⟩
theorem tw14807288203009512103:True:=⟨⟩
theorem tw14818115969863477094:True:=⟨⟩
theorem tw14820996999688866341:True:=⟨⟩
theorem tw1483841618397971351:True:=⟨⟩
theorem tw14851927525437943554:True:=⟨⟩
theorem tw14871753362267475878:True:=⟨⟩
theorem tw14883834536423069310:True:=⟨⟩
theorem tw14921218972414027626:True:=⟨⟩
theorem tw14999830416667486489:True:=⟨⟩
theorem tw15111248139830274802:True:=⟨⟩
theorem tw15202963219721525207:True:=⟨⟩
theorem tw15463388650373173002:True:=⟨⟩
theorem tw15561800650180339639:True:=⟨⟩
theorem tw15674397497416159050:True:=⟨⟩
theorem tw15824809818451605751:True:=⟨⟩
theorem tw15826758938256932513:True:=⟨⟩
theorem tw1588238633019030668:True:=⟨⟩
theorem tw158889138707872873:True:=⟨⟩
theorem tw15895088594722049118:True:=⟨⟩
theorem tw16000077256379751178:True:=⟨⟩
theorem tw16007499547806742161:True:=⟨⟩
theorem tw16291418456840024128:True:=⟨⟩
theorem tw16312075487719998195:True:=⟨⟩
theorem tw16315627366303653058:True:=⟨⟩
theorem tw164466449788228879:True:=⟨⟩
theorem tw1649826027961663863:True:=⟨⟩
theorem tw16578038192884593502:True:=⟨⟩
theorem tw16726652164877196146:True:=⟨⟩
theorem tw16807897268844980527:True:=⟨⟩
theorem tw16831079177596770183:True:=⟨⟩
theorem tw16985715955864398698:True:=⟨⟩
theorem tw17027172610657933136:True:=⟨⟩
theorem tw17137248693488590336:True:=⟨⟩
theorem tw17247603489328731402:True:=⟨⟩
theorem tw17264965832148902498:True:=⟨⟩
theorem tw17310942215097826910:True:=⟨⟩
theorem tw17313845244339501445:True:=⟨⟩
theorem tw17410454539822532598:True:=⟨⟩
theorem tw17417018116302541447:True:=⟨⟩
theorem tw17611003492890245165:True:=⟨⟩
theorem tw17772259502544471759:True:=⟨⟩
theorem tw17809154960909768300:True:=⟨⟩
theorem tw17992163001189691966:True:=⟨⟩
theorem tw18377326977178670351:True:=⟨⟩
theorem tw1872120820803066167:True:=⟨⟩
theorem tw1881083843753347653:True:=⟨⟩
theorem tw1922641795430340586:True:=⟨⟩
theorem tw2127668903143778448:True:=⟨⟩
theorem tw2153856056058686250:True:=⟨⟩
theorem tw2238485609083453940:True:=⟨⟩
theorem tw2406065892196213558:True:=⟨⟩
theorem tw2435907585933029058:True:=⟨⟩
theorem tw2803768440403594181:True:=⟨⟩
theorem tw2828595776612181703:True:=⟨⟩
theorem tw2875101960747869283:True:=⟨⟩
theorem tw2953054866083481326:True:=⟨⟩
theorem tw300139466270431331:True:=⟨⟩
theorem tw3212810077247612800:True:=⟨⟩
theorem tw3315614639570393691:True:=⟨⟩
theorem tw3329780333340457538:True:=⟨⟩
theorem tw3469974574222724452:True:=⟨⟩
theorem tw3637117818498915221:True:=⟨⟩
theorem tw3893463659232189061:True:=⟨⟩
theorem tw3897712434222488567:True:=⟨⟩
theorem tw3897800571785754996:True:=⟨⟩
theorem tw4111953679333288281:True:=⟨⟩
theorem tw4117862472810042690:True:=⟨⟩
theorem tw4149405144855169574:True:=⟨⟩
theorem tw4200980416274386934:True:=⟨⟩
theorem tw421026239267531961:True:=⟨⟩
theorem tw4356160440444124848:True:=⟨⟩
theorem tw4497321272541841909:True:=⟨⟩
theorem tw4508002909541068779:True:=⟨⟩
theorem tw4763424111795085853:True:=⟨⟩
theorem tw483497007067242166:True:=⟨⟩
theorem tw4854770113526927140:True:=⟨⟩
theorem tw5171676555865185394:True:=⟨⟩
theorem tw5214162833702866521:True:=⟨⟩
theorem tw5238325175252035580:True:=⟨⟩
theorem tw5357711987447699052:True:=⟨⟩
theorem tw5389782833416752770:True:=⟨⟩
theorem tw5567332046544350796:True:=⟨⟩
theorem tw5921686328973916782:True:=⟨⟩
theorem tw6012018364074517881:True:=⟨⟩
theorem tw6032436967790604424:True:=⟨⟩
theorem tw6039018667465425825:True:=⟨⟩
theorem tw6073205401212374716:True:=⟨⟩
theorem tw6529215231523235775:True:=⟨⟩
theorem tw6595194089194733352:True:=⟨⟩
theorem tw6759181045184127145:True:=⟨⟩
theorem tw6799508327276485645:True:=⟨⟩
theorem tw6880339697728050792:True:=⟨⟩
theorem tw699081206955381481:True:=⟨⟩
theorem tw721067659141142788:True:=⟨⟩
theorem tw7239319118766579334:True:=⟨⟩
theorem tw7242119891399417115:True:=⟨⟩
theorem tw7246426581887273885:True:=⟨⟩
theorem tw73554441861492434:True:=⟨⟩
theorem tw7418115449129028971:True:=⟨⟩
theorem tw7432411515866837965:True:=⟨⟩
theorem tw7726088706850557715:True:=⟨⟩
theorem tw7800386310663762641:True:=⟨⟩
theorem tw7822971724693277494:True:=⟨⟩
theorem tw8069154547754945310:True:=⟨⟩
theorem tw8073160422062344628:True:=⟨⟩
theorem tw8212331377937697210:True:=⟨⟩
theorem tw8290088962422833840:True:=⟨⟩
theorem tw8328204730011677323:True:=⟨⟩
theorem tw8331355509969319189:True:=⟨⟩
theorem tw8349418980297112966:True:=⟨⟩
theorem tw8421727746545958505:True:=⟨⟩
theorem tw8778022243863743607:True:=⟨⟩
theorem tw8803656209879374398:True:=⟨⟩
theorem tw8804843127853285951:True:=⟨⟩
theorem tw8856016157993993241:True:=⟨⟩
theorem tw8943226799470625031:True:=⟨⟩
theorem tw9007349272088626708:True:=⟨⟩
theorem tw9043855933164071303:True:=⟨⟩
theorem tw9185182095443372113:True:=⟨⟩
theorem tw9188294699317603661:True:=⟨⟩
theorem tw9202094626051059964:True:=⟨⟩
theorem tw9291386520011689536:True:=⟨⟩
theorem tw9328479480634604854:True:=⟨⟩
theorem tw9430564838426030794:True:=⟨⟩
theorem tw9454081750529428183:True:=⟨⟩
theorem tw9664029561692975561:True:=⟨⟩
theorem tw972074872821081676:True:=⟨⟩
theorem tw9829596363342220842:True:=⟨⟩
theorem tw9892426039560229770:True:=⟨⟩
end PySem.W.Fast
open PySem PySem.W PyProof.Rows
set_option maxRecDepth 100000 in
set_option maxHeartbeats 0 in
theorem PySem.Challenge.cw_closepoints_k30_whole_parts_and_trees_holds : PySem.Challenge.rw_closepoints_k30_whole_parts_and_trees.Holds := by
 w_on;o_law;z_head;(case hw=>w_witness2)
 k_fill
 refine Vc.Sh (λ_=>by kernel_rfl) (YQ.walk (l:=PySem.Challenge.rw_closepoints_k30_whole_parts_and_trees) rfl rfl (λw h Y=>Y) ?F)
 case F =>
  intro w mg fa h KX G hmg;refine' YQ.all_mk KX G hmg ?a_q18 ?l_q18 ?c_q18 ?k_q18 ?a_q0 ?l_q0 ?c_q0 ?k_q0 ?a_q12 ?l_q12 ?c_q12 ?k_q12 ?a_q23 ?l_q23 ?c_q23 ?k_q23 ?a_q2 ?l_q2 ?c_q2 ?k_q2 ?a_q19 ?l_q19 ?c_q19 ?k_q19 ?a_q17 ?l_q17 ?c_q17 ?k_q17 ?a_q11 ?l_q11 ?c_q11 ?k_q11 ?a_q7 ?l_q7 ?c_q7 ?k_q7 ?a_q9 ?l_q9 ?c_q9 ?k_q9 ?a_q5 ?l_q5 ?c_q5 ?k_q5 ?a_q24 ?l_q24 ?c_q24 ?k_q24 ?a_q20 ?l_q20 ?c_q20 ?k_q20 ?a_q16 ?l_q16 ?c_q16 ?k_q16 ?a_q26 ?l_q26 ?c_q26 ?k_q26 ?a_q15 ?l_q15 ?c_q15 ?k_q15 ?a_q27 ?l_q27 ?c_q27 ?k_q27 ?a_q8 ?l_q8 ?c_q8 ?k_q8 ?a_q14 ?l_q14 ?c_q14 ?k_q14 ?a_q6 ?l_q6 ?c_q6 ?k_q6 ?a_q3 ?l_q3 ?c_q3 ?k_q3 ?a_q10 ?l_q10 ?c_q10 ?k_q10 ?a_q21 ?l_q21 ?c_q21 ?k_q21 ?a_q22 ?l_q22 ?c_q22 ?k_q22 ?a_q13 ?l_q13 ?c_q13 ?k_q13 ?a_q25 ?l_q25 ?c_q25 ?k_q25 ?a_q4 ?l_q4 ?c_q4 ?k_q4 ?a_q1 ?l_q1 ?c_q1 ?k_q1 ?a_q28 ?l_q28 ?c_q28 ?k_q28 ?z_abs ?z_dict ?z_enumerate ?z_int ?z_len ?z_list ?z_max ?z_min ?z_range ?z_sorted ?z_sum ?z_tuple ?z_zip ?u_MOST_POINTS_APART ?u_SQUARES ?u_STREETS
  (case a_q18=>k_is)
  (case l_q18=>k_is)
  (case c_q18=>k_is)
  (case k_q18=>k_is)
  (case a_q0=>k_is)
  (case l_q0=>k_is)
  (case c_q0=>k_is)
  (case k_q0=>k_is)
  (case a_q12=>k_is)
  (case l_q12=>k_is)
  (case c_q12=>k_is)
  (case k_q12=>k_is)
  (case a_q23=>k_is)
  (case l_q23=>k_is)
  (case c_q23=>k_is)
  (case k_q23=>k_is)
  (case a_q2=>k_is)
  (case l_q2=>k_is)
  (case c_q2=>k_is)
  (case k_q2=>k_is)
  (case a_q19=>k_is)
  (case l_q19=>k_is)
  (case c_q19=>k_is)
  (case k_q19=>k_is)
  (case a_q17=>k_is)
  (case l_q17=>k_is)
  (case c_q17=>k_is)
  (case k_q17=>k_is)
  (case a_q11=>k_is)
  (case l_q11=>k_is)
  (case c_q11=>k_is)
  (case k_q11=>k_is)
  (case a_q7=>k_is)
  (case l_q7=>k_is)
  (case c_q7=>k_is)
  (case k_q7=>k_is)
  (case a_q9=>k_is)
  (case l_q9=>k_is)
  (case c_q9=>k_is)
  (case k_q9=>k_is)
  (case a_q5=>k_is)
  (case l_q5=>k_is)
  (case c_q5=>k_is)
  (case k_q5=>k_is)
  (case a_q24=>k_is)
  (case l_q24=>k_is)
  (case c_q24=>k_is)
  (case k_q24=>k_is)
  (case a_q20=>k_is)
  (case l_q20=>k_is)
  (case c_q20=>k_is)
  (case k_q20=>k_is)
  (case a_q16=>k_is)
  (case l_q16=>k_is)
  (case c_q16=>k_is)
  (case k_q16=>k_is)
  (case a_q26=>k_is)
  (case l_q26=>k_is)
  (case c_q26=>k_is)
  (case k_q26=>k_is)
  (case a_q15=>k_is)
  (case l_q15=>k_is)
  (case c_q15=>k_is)
  (case k_q15=>k_is)
  (case a_q27=>k_is)
  (case l_q27=>k_is)
  (case c_q27=>k_is)
  (case k_q27=>k_is)
  (case a_q8=>k_is)
  (case l_q8=>k_is)
  (case c_q8=>k_is)
  (case k_q8=>k_is)
  (case a_q14=>k_is)
  (case l_q14=>k_is)
  (case c_q14=>k_is)
  (case k_q14=>k_is)
  (case a_q6=>k_is)
  (case l_q6=>k_is)
  (case c_q6=>k_is)
  (case k_q6=>k_is)
  (case a_q3=>k_is)
  (case l_q3=>k_is)
  (case c_q3=>k_is)
  (case k_q3=>k_is)
  (case a_q10=>k_is)
  (case l_q10=>k_is)
  (case c_q10=>k_is)
  (case k_q10=>k_is)
  (case a_q21=>k_is)
  (case l_q21=>k_is)
  (case c_q21=>k_is)
  (case k_q21=>k_is)
  (case a_q22=>k_is)
  (case l_q22=>k_is)
  (case c_q22=>k_is)
  (case k_q22=>k_is)
  (case a_q13=>k_is)
  (case l_q13=>k_is)
  (case c_q13=>k_is)
  (case k_q13=>k_is)
  (case a_q25=>k_is)
  (case l_q25=>k_is)
  (case c_q25=>k_is)
  (case k_q25=>k_is)
  (case a_q4=>k_is)
  (case l_q4=>k_is)
  (case c_q4=>k_is)
  (case k_q4=>k_is)
  (case a_q1=>k_is)
  (case l_q1=>k_is)
  (case c_q1=>k_is)
  (case k_q1=>k_is)
  (case a_q28=>k_is)
  (case l_q28=>k_is)
  (case c_q28=>k_is)
  (case k_q28=>k_is)
  (case z_abs=>k_is)
  (case z_dict=>k_is)
  (case z_enumerate=>k_is)
  (case z_int=>k_is)
  (case z_len=>k_is)
  (case z_list=>k_is)
  (case z_max=>k_is)
  (case z_min=>k_is)
  (case z_range=>k_is)
  (case z_sorted=>k_is)
  (case z_sum=>k_is)
  (case z_tuple=>k_is)
  (case z_zip=>k_is)
  (case u_MOST_POINTS_APART=>k_is)
  (case u_SQUARES=>k_is)
  (case u_STREETS=>k_is)
