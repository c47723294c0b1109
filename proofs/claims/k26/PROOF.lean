import PyProof.Rows.All
import Wide.All
import OpenK.AllK
import Wide.FinOn
import Lean
import PyProof.EqAt
import PyProof.EqKinds
import PyProof.TupleCall
import PySem.Challenge.RW_closepoints_k26_parts_told
noncomputable section
set_option Elab.async false
set_option linter.all false
set_option hygiene false
local macro_rules | `(tactic| omega) => `(tactic| first | lia | omega +splitNatSub)
local macro_rules | `(⋯) => `((by omega))
local macro_rules | `(∅) => `((by decide))
set_option maxRecDepth 100000
local macro_rules|`(tactic| walk_at "9")=>`(tactic| first|k_is|kernel_rfl|decide)
local macro_rules | `(tactic| ac_rfl) => `(tactic| walk_at "9")
set_option compiler.extract_closed false
-- CHANGE: your row's module here,as the last of these rows
namespace L2
open PySem PySem.Spec PyProof.Rows
abbrev Key:=Sum Int Str
def mG:Key->Value->Bool
 | .inl k,v=>Value.isInt k v
 | .inr x,v=>Value.isStrOf x v
def Tb(w:World):Key->Int
 | .inl k=>hashInt k
 | .inr x=>hashStr w x
theorem bN:∀ {k:Key} {v:Value},mG k v=true->(∃i t,k=Sum.inl i/\v=Value.int i t)\/(∃x t,k=Sum.inr x/\v=Value.str x t)
 | .inl i,v,h=>by
  obtain⟨t,e⟩:=Value.isInt_shape (k:=i) (v:=v) h;exact .inl ⟨i,t,rfl,e⟩
 | .inr x,v,h=>by
  obtain⟨t,e⟩:=Value.isStrOf_shape (x:=x) (v:=v) h;exact .inr ⟨x,t,rfl,e⟩
theorem vM(i:Int)(t:Tok):mG (.inl i) (.int i t)=true:=by simp [mG,Value.isInt]
theorem vN(x:Str)(t:Tok):mG (.inr x) (.str x t)=true:=by simp [mG,Value.isStrOf]
theorem HD(a b:Int):decide ((Sum.inl a:Key)=Sum.inl b)=(a==b):=by
 by_cases e:a=b
 ·subst e;simp
 ·have h:¬(Sum.inl a:Key)=Sum.inl b:=λq=>e (Sum.inl.inj q)
  rw[decide_eq_false h];exact(beq_eq_false_iff_ne.mpr e).symm
theorem HG(a b:Str):decide ((Sum.inr a:Key)=Sum.inr b)=decide (a=b):=by
 by_cases e:a=b
 ·subst e;simp
 ·have h:¬(Sum.inr a:Key)=Sum.inr b:=λq=>e (Sum.inr.inj q)
  rw[decide_eq_false h,decide_eq_false e]
theorem HE(a:Int)(b:Str):decide ((Sum.inl a:Key)=Sum.inr b)=false:=decide_eq_false (λq=>nomatch q)
theorem HF(a:Str)(b:Int):decide ((Sum.inr a:Key)=Sum.inl b)=false:=decide_eq_false (λq=>nomatch q)
def bO(prog:Program)(w:World):PySem.KeyKind prog w Key where
 is:=mG
 hash:=Tb w
 inj:=λv a b ha hb=>by
  rcases bN ha with⟨i,t,rfl,rfl⟩|⟨x,t,rfl,rfl⟩
  ·rcases bN hb with⟨j,u,rfl,e⟩|⟨y,u,rfl,e⟩
   ·injection e with e1 _;rw[e1]
   ·exact nomatch e
  ·rcases bN hb with⟨j,u,rfl,e⟩|⟨y,u,rfl,e⟩
   ·exact nomatch e
   ·injection e with e1 _;rw[e1]
 byValue:=λk v h=>by
  rcases bN h with⟨i,t,rfl,rfl⟩|⟨x,t,rfl,rfl⟩<;>rfl
 pyHash:=λhv h=>by
  rcases bN hv with⟨i,t,rfl,rfl⟩|⟨x,t,rfl,rfl⟩
  ·exact wpAny_pyHash_int h
  ·exact wpAny_pyHash_str h
 eqBool:=λhu hv h=>by
  rcases bN hu with⟨i,t,rfl,rfl⟩|⟨x,t,rfl,rfl⟩
  ·rcases bN hv with⟨j,u,rfl,rfl⟩|⟨y,u,rfl,rfl⟩
   ·rw[HD]at h;exact wpAny_eqBool_int h
   ·rw[HE]at h;exact SeqAt.EqAt.int_str i t y u _ _ _ _ h
  ·rcases bN hv with⟨j,u,rfl,rfl⟩|⟨y,u,rfl,rfl⟩
   ·rw[HF]at h;exact SeqAt.EqAt.str_int x t j u _ _ _ _ h
   ·rw[HG]at h;exact wpAny_eqBool_str h
 «strs»:=λk x t v h=>by
  rcases bN h with⟨i,u,rfl,e⟩|⟨y,u,rfl,e⟩
  ·exact nomatch e
  ·injection e with e1 _
   subst e1;cases v<;>rfl
theorem qH(prog:Program)(w:World)(i:Int)(t:Tok):(bO prog w).is (.inl i) (.int i t)=true:=vM i t
theorem qI(prog:Program)(w:World)(x:Str)(t:Tok):(bO prog w).is (.inr x) (.str x t)=true:=vN x t
end L2
namespace L2
open PySem PySem.Spec PyProof.Rows
inductive V where
 | bB|bl (b:Bool)|int (i:Int)|str (x:Str)|LY (b:Array UInt8)|GU (b:UInt64)|ref (a:Addr)|ty (n:String)
 deriving DecidableEq
def RelV:V->Value->Prop
 | .bB,u=>u=Value.none
 | .bl b,u=>u=Value.bool b
 | .int i,u=>∃t,u=Value.int i t
 | .str x,u=>∃t,u=Value.str x t
 | .LY b,u=>∃t,u=Value.bytes b t
 | .GU b,u=>∃t,u=Value.float b t
 | .ref a,u=>u=Value.ref a
 | .ty n,u=>u=Value.type n
abbrev Vals:List V->List Value->Prop:=Paired RelV
theorem Vals.length{xs:List V}{us:List Value}(r:Vals xs us):xs.length=us.length:=Paired.length r
theorem Vals.get:∀ {xs:List V} {us:List Value} {i:Nat} {x:V},Vals xs us->xs[i]?=some x->∃u,us[i]?=some u/\RelV x u
 | _,_,_,_,.nil,e=>by simp at e
 | _,_,0,_,.cons r _,e=>by simp at e;subst e;exact⟨_,rfl,r⟩
 | _,_,i+1,x,.cons _ t,e=>by
  obtain⟨u,h1,h2⟩:=Vals.get (i:=i) (x:=x) t (by simpa using e)
  exact⟨u,by simpa using h1,h2⟩
theorem Vals.set{x:V}{u:Value}(r:RelV x u):∀ {xs:List V} {us:List Value} (i:Nat),Vals xs us->Vals (xs.set i x) (us.set i u)
 | _,_,_,.nil=>.nil
 | _,_,0,.cons _ t=>.cons r t
 | _,_,i+1,.cons q t=>.cons q (Vals.set r i t)
theorem Vals.append:∀ {xs ys:List V} {us ws:List Value},Vals xs us->Vals ys ws->Vals (xs++ys) (us++ws)
 | _,_,_,_,.nil,s=>s
 | _,_,_,_,.cons r t,s=>.cons r (Vals.append t s)
theorem Vals.take:∀ {xs:List V} {us:List Value} (n:Nat),Vals xs us->Vals (xs.take n) (us.take n)
 | _,_,0,_=>.nil
 | _,_,_+1,.nil=>.nil
 | _,_,n+1,.cons r t=>.cons r (Vals.take n t)
theorem Vals.drop:∀ {xs:List V} {us:List Value} (n:Nat),Vals xs us->Vals (xs.drop n) (us.drop n)
 | _,_,0,r=>r
 | _,_,_+1,.nil=>.nil
 | _,_,n+1,.cons _ t=>Vals.drop n t
def rS:Option V->Option Value->Prop
 | some v,some u=>RelV v u
 | none,none=>True
 | _,_=>False
def KV{κ:Type}:List (κ×V)->List (κ×Value)->Prop:=Paired λ(p:κ×V) (q:κ×Value)=>p.1=q.1/\RelV p.2 q.2
def kV:Key->V
 | .inl i=>.int i
 | .inr x=>.str x
inductive HO where
 /-- a list -/
 | lst (xs:List V)
 /-- a tuple (never changes) -/
 | tup (xs:List V)
 /-- a dict whose keys are ints and texts;one whose keys are tuples of ints and texts (the empty one is both) -/
 | dK (kvs:List (Key×V))|dT (kvs:List (List Key×V))
 /-- a set of ints: its members,its size -/
 | set (S:Int->Bool) (n:Nat)
 /-- an instance of the class at C,its dict at dx,its attributes -/
 | ins (C dx:Addr) (fs:List (Str×V))
 /-- the dict of the instance at x -/
 | own (x:Addr)
 /-- the dict of an exception -/
 | xd (fs:List (Str×V))
 /-- a bound method,f of x -/
 | met (f x:Addr)
 /-- a range object lo,lo+1,.. below hi -/
 | JC (lo hi:Int)
 /-- a thing that is known to the object (the script;a dict while a loop walks it): read,never written while it is so -/
 | mC (o:Obj) (u:HO)
 /-- a code object's table -/
 | Ku (ps:Array Value)
 /-- the same,and it may grow by the code of one lambda: as it was,the lambda's place,its name -/
 | lam (ps:Array Value) (pos:Pos) (qual:Str)
 /-- any other thing,by what is true of its one object (a def of one's own: SetO a S n:=HO.ext λh=>..) -/
 | ext (φ:Heap->Prop)
abbrev Hp:=Addr->Option HO
def upd(H:Hp)(a:Addr)(o:HO):Hp:=λb=>if b=a then some o else H b
theorem au{H:Hp}{a:Addr}{o:HO}:upd H a o a=some o:=by unfold upd;rw[if_pos rfl]
theorem ak{H:Hp}{a b:Addr}{o:HO}(h:b≠a):upd H a o b=H b:=by unfold upd;rw[if_neg h]
theorem N6{H:Hp}{a b:Addr}{o u:HO}(h:H a=some o)(h':H b=some u)(d:o≠u):a≠b:=by
 intro e;subst e;rw[h]at h';exact d (Option.some.inj h')
theorem bJ{H:Hp}{a b:Addr}{o:HO}(h:H a=some o)(h':H b=none):a≠b:=by
 intro e;subst e;rw[h]at h';cases h'
section
variable (P:Program)(w:World)
def bF(H:Hp)(h:Heap)(a:Addr):HO->Prop
 | .lst xs=>xs.length<=sizeLine/\∃(its:List Value) (n:Nat),Vals xs its/\h.get? a=some {cls:=.type "list",data:=.seq its.toArray n}
 | .tup xs=>xs.length<=sizeLine/\∃its:List Value,Vals xs its/\IsTup h a its.toArray
 | .dK kvs=>kvs.length<=sizeLine/\(a==sysModules)=false/\∃vs,KV kvs vs/\h.DictOf (bO P w) a vs
 | .dT kvs=>kvs.length<=sizeLine/\(a==sysModules)=false/\∃xs:List (List Key×Addr×Value),
   Paired (λ(p:List Key×V) (q:List Key×Addr×Value)=>p.1=q.1/\H q.2.1=some (.tup (p.1.map kV))/\RelV p.2 q.2.2) kvs xs /\
   ∃o es ep,h.get? a=some o/\o.ExactDict/\o.data=.dict es ep/\es.toList=xs.map (entryOfKey (tupleKind (bO P w)))/\(xs.map (·.1)).Nodup
 | .set S n=>h.SetOf (intKind P w) a S n
 | .ins C dx fs=>H dx=some (.own a)/\fs.length<=1000/\dx≠a/\h.get? a=some (PySem.W.instObj C dx) /\
   ∃mA,h.Ns1 dx mA/\(∀f,rS (fs.lookup f) (mA f))/\PySem.Within mA (fs.map (·.1))
 | .own _=>∃o,h.get? a=some o
 | .xd fs=>∃mA,h.Ns1 a mA/\∀f,rS (fs.lookup f) (mA f)
 | .JC lo hi=>∃t u v,h.get? a=some {cls:=.type "range",data:=.fields #[.int lo t,.int hi u,.int 1 v]}
 | .mC o u=>h.get? a=some o/\bF H h a u
 | .Ku ps=>h.get? a=some {cls:=.none,data:=.fields ps}
 | .lam ps pos qual=>∃more,h.get? a=some {cls:=.none,data:=.fields (ps++more)}/\TriplesOk (ps++more).toList/\(codeAmong pos (ps++more).toList=none\/∃c' o vs t,codeAmong pos (ps++more).toList=some (.ref c')/\H c'=some (.mC o (.own a))/\o.data=.fields vs/\vs[1]?=some (.str qual t))
 | .met f x=>h.get? a=some (PySem.W.methodObj (.ref f) (.ref x))
 | .ext φ=>φ h/\(∃o,h.get? a=some o)/\∀h1 h2:Heap,φ h1->(∀o,h1.get? a=some o->h2.get? a=some o)->φ h2
def fO(H:Hp)(h:Heap):Prop:=∀a o,H a=some o->bF P w H h a o
end
section
variable {P:Program}{w:World}{H H':Hp}{h h':Heap}{a:Addr}{o:HO}
theorem bF.lt(x:bF P w H h a o):a<h.objs.size:=by
 cases o with
 | lst xs=>obtain⟨_,_,_,_,e⟩:=x;exact Heap.lt_size e
 | tup xs=>obtain⟨_,_,_,p⟩:=x;exact p.lt
 | dK kvs=>obtain⟨_,_,_,_,o,_,_,e,_⟩:=x;exact Heap.lt_size e
 | dT kvs=>obtain⟨_,_,_,_,o,_,_,e,_⟩:=x;exact Heap.lt_size e
 | set S n=>obtain⟨o,_,_,_,e,_⟩:=x;exact Heap.lt_size e
 | ins C dx fs=>obtain⟨_,_,_,e,_⟩:=x;exact Heap.lt_size e
 | own y=>obtain⟨_,e⟩:=x;exact Heap.lt_size e
 | xd fs=>obtain⟨_,⟨_,_,_,e,_⟩,_⟩:=x;exact Heap.lt_size e
 | JC lo hi=>obtain⟨_,_,_,e⟩:=x;exact Heap.lt_size e
 | mC ob u=>obtain⟨e,_⟩:=x;exact Heap.lt_size e
 | Ku ps=>exact Heap.lt_size (show h.get? a=some _ from x)
 | lam ps pos qual=>obtain⟨_,e,_⟩:=x;exact Heap.lt_size e
 | met f y=>exact Heap.lt_size (show h.get? a=some _ from x)
 | ext φ=>obtain⟨_,⟨_,e⟩,_⟩:=x;exact Heap.lt_size e
theorem Paired.HN{α β:Type}{F G:α->β->Prop}:∀ {l₁:List α} {N4:List β},Paired F l₁ N4->(∀a b,F a b->G a b)->Paired G l₁ N4
 | _,_,.nil,_=>.nil
 | _,_,.cons r t,f=>.cons (f _ _ r) (Paired.HN t f)
theorem bF.sZ(x:bF P w H h a o)(k:∀b u,(b=a\/H b=some (.own a))->h.get? b=some u->h'.get? b=some u)
  (ho:∀b,H b=some (.own a)->H' b=some (.own a)) (ht:∀b xs,H b=some (.tup xs)->H' b=some (.tup xs)) (hf:∀b o u,H b=some (.mC o u)->H' b=some (.mC o u):=by exactλ_ _ _ q=>q):bF P w H' h' a o:=by
 induction o with
 | lst xs=>obtain⟨z,its,n,r,e⟩:=x;exact⟨z,its,n,r,k _ _ (.inl rfl) e⟩
 | tup xs=>obtain⟨z,its,r,ob,e,c⟩:=x;exact⟨z,its,r,ob,k _ _ (.inl rfl) e,c⟩
 | dK kvs=>obtain⟨z,y,vs,r,ob,es,ep,e,c⟩:=x;exact⟨z,y,vs,r,ob,es,ep,k _ _ (.inl rfl) e,c⟩
 | dT kvs =>
  obtain⟨z,y,xs,r,ob,es,ep,e,c⟩:=x;exact⟨z,y,xs,Paired.HN r λp q z=>⟨z.1,ht _ _ z.2.1,z.2.2⟩,ob,es,ep,k _ _ (.inl rfl) e,c⟩
 | set S n=>obtain⟨ob,es,ep,t,e,c⟩:=x;exact⟨ob,es,ep,t,k _ _ (.inl rfl) e,c⟩
 | ins C dx fs =>
  obtain⟨d,z,ne,e,mA,⟨od,es,ep,e2,c⟩,r⟩:=x;exact⟨ho _ d,z,ne,k _ _ (.inl rfl) e,mA,⟨od,es,ep,k _ _ (.inr d) e2,c⟩,r⟩
 | own y=>obtain⟨ob,e⟩:=x;exact⟨ob,k _ _ (.inl rfl) e⟩
 | xd fs=>obtain⟨mA,⟨od,es,ep,e,c⟩,r⟩:=x;exact⟨mA,⟨od,es,ep,k _ _ (.inl rfl) e,c⟩,r⟩
 | JC lo hi=>obtain⟨t,u,v,e⟩:=x;exact⟨t,u,v,k _ _ (.inl rfl) e⟩
 | mC ob u ih=>obtain⟨e,q⟩:=x;exact⟨k _ _ (.inl rfl) e,ih q⟩
 | lam ps pos qual =>
  obtain⟨more,e,tr,c⟩:=x;refine⟨more,k _ _ (.inl rfl) e,tr,?_⟩;rcases c with c|⟨c',o,vs,t,c1,c2,c3⟩
  ·exact .inl c
  ·exact .inr ⟨c',o,vs,t,c1,hf _ _ _ c2,c3⟩
 | Ku ps =>
  have e:h.get? a=some {cls:=.none,data:=.fields ps}:=x;show h'.get? a=some {cls:=.none,data:=.fields ps};exact k a _ (.inl rfl) e
 | met f y =>
  have e:h.get? a=some (PySem.W.methodObj (.ref f) (.ref y)):=x;show h'.get? a=some (PySem.W.methodObj (.ref f) (.ref y));exact k a _ (.inl rfl) e
 | ext φ=>obtain⟨p,⟨o,e⟩,st⟩:=x;exact⟨st _ _ p λo q=>k _ _ (.inl rfl) q,⟨o,k _ _ (.inl rfl) e⟩,st⟩
theorem fO.lt(x:fO P w H h)(e:H a=some o):a<h.objs.size:=(x a o e).lt
theorem fO.fresh(x:fO P w H h)(e:h.objs.size<=a):H a=none:=by
 cases q:H a with
 | none=>rfl
 | some u=>exact absurd (Nat.lt_of_lt_of_le (x.lt q) e) (Nat.lt_irrefl _)
theorem fO.kept(x:fO P w H h)(k:∀b u,h.get? b=some u->h'.get? b=some u):fO P w H h':=λa o e =>
 (x a o e).sZ (λb u _ q=>k b u q) (λ_ q=>q) λ_ _ q=>q
theorem fO.laid(x:fO P w H h)(k:∀b u,h.get? b=some u->h'.get? b=some u)(hp:h.objs.size<=a)(new:bF P w (upd H a o) h' a o):fO P w (upd H a o) h':=λb u e=>by
 have hn:=x.fresh hp
 by_cases hb:b=a
 ·subst hb;rw[au]at e;cases e;exact new
 ·rw[ak hb]at e
  exact(x b u e).sZ (λc v _ q=>k c v q) (λc q=>by rw[ak (bJ q hn)];exact q) (λc xs q=>by rw[ak (bJ q hn)];exact q) λc o u q=>by rw[ak (bJ q hn)];exact q
end
def Rd(H:Hp)(a:Addr)(u:HO):Prop:=H a=some u\/∃o,H a=some (.mC o u)
theorem Rd.of{H:Hp}{a:Addr}{u:HO}(h:H a=some u):Rd H a u:=.inl h
theorem Rd.ok{P:Program}{w:World}{H:Hp}{h:Heap}{a:Addr}{u:HO}(r:Rd H a u)(x:fO P w H h):bF P w H h a u:=by
 rcases r with r|⟨o,r⟩
 ·exact x a u r
 ·obtain⟨_,q⟩:=x a _ r
  exact q
def Lx:Option HO->Prop
 | some (.lst _)=>True
 | some (.dK _)=>True
 | some (.dT _)=>True
 | some (.set _ _)=>True
 | some (.ins _ _ _)=>True
 | some (.ext _)=>True
 | some (.lam _ _ _)=>True
 | _=>False
section
variable {P:Program}{w:World}{H:Hp}{h h':Heap}{x e:Addr}{o':HO}
theorem fO.write(ok:fO P w H h)(mu:Lx (H x))(he:e=x\/H e=some (.own x))(k:∀b u,b≠e->h.get? b=some u->h'.get? b=some u)(KW:∃u,h'.get? e=some u)
  (new:bF P w (upd H x o') h' x o'):fO P w (upd H x o') h':=λb u q=>by
 have Ob:∀c y,H c=some (.own y)->c≠x:=λc y r z=>by subst z;rw[r]at mu;exact mu
 have TC:∀c xs,H c=some (.tup xs)->c≠x:=λc xs r z=>by subst z;rw[r]at mu;exact mu
 by_cases hb:b=x
 ·subst hb;rw[au]at q;cases q;exact new
 ·rw[ak hb]at q
  by_cases G8:b=e
  ·have q':H b=some (.own x):=by
    rcases he with z|z
    ·exact absurd (G8.trans z) hb
    ·rw[G8];exact z
   rw[q]at q';cases q';obtain⟨v,hv⟩:=KW;exact⟨v,by rw[G8];exact hv⟩
  ·refine(ok b u q).sZ (λc v hc r=>k c v ?_ r) (λc r=>by rw[ak (Ob c b r)];exact r) (λc xs r=>by rw[ak (TC c xs r)];exact r) λc o u r=>by rw[ak (λz=>by subst z;rw[r]at mu;exact mu)];exact r
   rcases hc with rfl|hc
   ·exact G8
   ·rintro rfl
    rcases he with z|z
    ·exact Ob c b hc z
    ·rw[hc]at z;cases z;exact hb rfl
end
structure Un(fs ex:List Addr)(H H':Hp)(h h':Heap):Prop where
 keep:∀b o,h.get? b=some o->H b=none->b∉fs->b∉ex->h'.get? b=some o
 slot:∀b o,h.get? b=some o->H b=none->b∈fs->b∉ex->∃sl,h'.get? b=some {o with slots:=sl}
 free:∀b o,h.get? b=some o->H b=none->b∉ex->H' b=none
 there:∀b o,h.get? b=some o->b∉ex->∃o',h'.get? b=some o'
 rq:∀b xs,H b=some (.tup xs)->H' b=some (.tup xs)
 nM:∀b o u,H b=some (.mC o u)->H' b=some (.mC o u)
 rm:∀b ps,H b=some (.Ku ps)->∃more,H' b=some (.Ku (ps++more))
section
variable {fs VL ex jI:List Addr}{H H1 H2:Hp}{h h1 h2 h':Heap}{a x e:Addr}{o:HO}
theorem Un.any(u:Un fs ex H H1 h h1){b:Addr}{ob:Obj}(q:h.get? b=some ob)(n:H b=none)(hx:b∉ex):∃sl,h1.get? b=some {ob with slots:=sl}:=by
 by_cases hb:b∈fs
 ·exact u.slot b ob q n hb hx
 ·exact⟨ob.slots,u.keep b ob q n hb hx⟩
theorem Un.kept(k:∀b u,h.get? b=some u->h'.get? b=some u):Un fs ex H H h h':=
 ⟨λb ob q _ _ _=>k b ob q,λb ob q _ _ _=>⟨ob.slots,k b ob q⟩,λ_ _ _ n _=>n,λb ob q _=>⟨ob,k b ob q⟩,λ_ _ q=>q,λ_ _ _ q=>q,λ_ ps q=>⟨#[],by rw[q];simp⟩⟩
theorem Un.refl:Un fs ex H H h h:=Un.kept λ_ _ q=>q
theorem Un.laid(k:∀b u,h.get? b=some u->h'.get? b=some u)(hp:h.objs.size<=a)(hn:H a=none):Un fs ex H (upd H a o) h h' where
 keep:=λb u q _ _ _=>k b u q
 slot:=λb u q _ _ _=>⟨u.slots,k b u q⟩
 free:=λb u q n _=>by rw[ak (Nat.ne_of_lt (Nat.lt_of_lt_of_le (Heap.lt_size q) hp))];exact n
 there:=λb u q _=>⟨u,k b u q⟩
 rq:=λb xs q=>by rw[ak (bJ q hn)];exact q
 nM:=λb u xs q=>by rw[ak (bJ q hn)];exact q
 rm:=λb ps q=>⟨#[],by rw[ak (bJ q hn),q];simp⟩
theorem Un.write(mu:Lx (H x))(he:e=x\/H e=some (.own x))(k:∀b u,b≠e->h.get? b=some u->h'.get? b=some u)(KW:∃u,h'.get? e=some u):Un fs ex H (upd H x o) h h':=by
 have hx:∀b,H b=none->b≠x:=λb n z=>by subst z;rw[n]at mu;exact mu
 have hb:∀b,H b=none->b≠e:=λb n z=>by
  subst z;rcases he with r|r
  ·exact hx b n r
  ·rw[n]at r;cases r
 have hm:∀b u,H b=some u->¬Lx (some u)->b≠x:=λb u q nm z=>by subst z;rw[q]at mu;exact nm mu
 refine⟨λb u q n _ _=>k b u (hb b n) q,λb u q n _ _=>⟨u.slots,k b u (hb b n) q⟩,λb u q n _=>by rw[ak (hx b n)];exact n,λb u q _=>?_,
  λb xs q=>by rw[ak (hm b _ q λz=>z)];exact q,λb u xs q=>by rw[ak (hm b _ q λz=>z)];exact q,λb ps q=>⟨#[],by rw[ak (hm b _ q λz=>z),q];simp⟩⟩
 by_cases G8:b=e
 ·subst G8;exact KW
 ·exact⟨u,k b u G8 q⟩
end
def Q6(h:Heap)(H:Hp):List Addr:=(List.range h.objs.size).filter λa=>(H a).isSome
def nO(h:Heap)(H:Hp):Heap:=PySem.W.hideAll h (Q6 h H)
theorem vE(h:Heap)(H:Hp):(nO h H).objs.size=h.objs.size:=PySem.W.hideAll_size _ _
theorem yR{h:Heap}{H:Hp}{b:Addr}{o:Obj}(e:h.get? b=some o)(n:H b=none):(nO h H).get? b=some o:=
 PySem.W.hideAll_get _ e λhm=>by
  have q:(H b).isSome=true:=(List.mem_filter.mp hm).2;rw[n]at q;simp at q
theorem CF{h:Heap}{H:Hp}{b:Addr}{o:Obj}(e:(nO h H).get? b=some o):h.get? b=some o/\H b=none:=by
 have e':h.get? b=some o:=PySem.W.of_hideAll (Q6 h H) e;refine⟨e',?_⟩;cases q:H b with
 | none=>rfl
 | some x =>
  have hm:b∈Q6 h H:=List.mem_filter.mpr ⟨List.mem_range.mpr (Heap.lt_size e'),by simp [q]⟩
  have z:(nO h H).get? b=none:=PySem.W.hideAll_none (Q6 h H) hm;rw[z]at e;cases e
def BJ(g h:Heap)(L:Addr):List (Addr×Obj):=(List.range h.objs.size).filterMap λa=>if a=L\/(g.get? a).isSome=true then none else(h.get? a).map λo=>(a,o)
def rest(g h:Heap)(L d:Addr):List (Addr×Obj):=(BJ g h L).filter λp=>decide (p.1≠d)
end L2
namespace L2
open PySem PySem.Spec PyProof.Rows
structure Mod(K:PySem.W.Frag)(mg:Str->Option Value)(base:Heap):Prop where
 Tc:K.In base
 glob:base.Ns mainGlobals mg
 blt:∃mb,base.Ns builtinsNs mb/\∀x:Str,x≠"__name__"->mb x=bootBuiltins x
 nolimit:base.NoLimit
structure Cx where
 prog:Program
 w:World
 K:PySem.W.Frag
 mg:Str->Option Value
 base:Heap
 A:Around
 N:List Str
 cG:Shared
 rR:Hp
 env:Env
 outer:List Env
 stack:List Env
 ex:List Addr
 fn:Str->Bool
 calm:Bool
 pn:List (Addr×Obj)
 xe:Value->Shared->Prop
def yx(l:List Env):List Addr:=l.filterMap (·.frame)
abbrev Cx.fs(X:Cx):List Addr:=yx X.outer
def vg(sc:Scope)(x:Str):Prop:=sc.names.lookup x=some .local\/sc.names.lookup x=some .cell\/sc.names.lookup x=some .free
def Loc(sc:Scope)(x:Str):Prop:=sc.names.lookup x=some .local\/sc.names.lookup x=some .cell
def Look(env:Env)(h:Heap)(m:Str->Option Value)(x:Str)(u:Value):Prop:=
 (env.kindOf x=some .local/\m x=some u)\/((env.kindOf x=some .cell\/env.kindOf x=some .free)/\∃c,env.cells.lookup x=some c/\h.IsCell c (some u))
structure Cx.Ok(X:Cx):Prop where
 mod:Mod X.K X.mg X.base
 kind:X.env.scope.kind=.function
 glob:X.env.globals=mainGlobals
 blt:X.env.builtins=builtinsNs
 above:X.cG.heap.objs.size<=X.env.locals
 inj:∀x y c,X.env.cells.lookup x=some c->X.env.cells.lookup y=some c->x=y
 has:∀x,(X.env.kindOf x=some .cell\/X.env.kindOf x=some .free)->∃c,X.env.cells.lookup x=some c
 KP:∀x c,X.fn x=true->X.env.cells.lookup x=some c->X.cG.heap.objs.size<=c
 hd:X.calm=true->X.A.handled=none
 frames:X.A.frames=some X.stack
 Qf:X.stack=X.outer\/(X.stack=X.env::X.outer/\X.env.frame=some X.env.locals)
 RW:∀b∈X.ex,b≠X.env.locals/\∀x c,X.env.cells.lookup x=some c->c≠b
 bs:∀b o,X.base.get? b=some o->X.cG.heap.get? b=some o/\X.rR b=none
 Bm:X.base.objs.size<=X.cG.heap.objs.size
 vX:∀b o,X.base.get? b=some o->b∉X.ex
 yf:∀b∈X.ex,b∉X.fs
 jF:X.cG.heap.FunFrames X.base X.outer
 GW:∀b∈X.fs,X.rR b=none
structure Inv(X:Cx)(pins:List (Addr×Obj))(σ:List (Option V))(H:Hp)(s:Shared):Prop where
 ok:X.Ok
 os:s.os=X.cG.os
 bare:AllBare s.gens
 base:Un X.fs X.ex X.rR H X.cG.heap s.heap
 loc:∃m,s.heap.Ns X.env.locals m/\∀(i:Nat) (x:Str) (v:V),X.N[i]?=some x->σ[i]?=some (some v)->vg X.env.scope x->∃u,RelV v u/\Look X.env s.heap m x u
 cell:∀x c,X.env.cells.lookup x=some c->∃v,s.heap.IsCell c v
 free:H X.env.locals=none
 eX:∀x c,X.env.cells.lookup x=some c->H c=none
 pin:∀p∈X.pn++pins,s.heap.get? p.1=some p.2/\H p.1=none/\p.1≠X.env.locals/\p.1∉X.fs/\∀v,p.2.data≠.cell v
 bI:fO X.prog X.w H s.heap
 len:σ.length=X.N.length
section
variable {X:Cx}{pins:List (Addr×Obj)}{σ:List (Option V)}{H H':Hp}{s:Shared}{h':Heap}
theorem Cx.Ok.Tx(ok:X.Ok){b:Addr}{o:Obj}(e:X.base.get? b=some o):b∉X.fs:=λhb=>by
 have:=(ok.jF.mem hb).1;rw[e]at this;cases this
theorem Inv.bs(I:Inv X pins σ H s):∀b o,X.base.get? b=some o->s.heap.get? b=some o/\H b=none:=λb o e =>
 ⟨I.base.keep b o (I.ok.bs b o e).1 (I.ok.bs b o e).2 (I.ok.Tx e) (I.ok.vX b o e),I.base.free b o (I.ok.bs b o e).1 (I.ok.bs b o e).2 (I.ok.vX b o e)⟩
theorem Inv.bk(I:Inv X pins σ H s):∀b o,X.base.get? b=some o->s.heap.get? b=some o:=λb o e=>(I.bs b o e).1
theorem Inv.mod(I:Inv X pins σ H s):Mod X.K X.mg X.base:=I.ok.mod
theorem Inv.pq(I:Inv X pins σ H s):X.K.In s.heap:=I.ok.mod.Tc.keeps I.bk
theorem Inv.fr(I:Inv X pins σ H s):∃m,Fr X.base X.env.locals s.heap m:=
 let ⟨m,hn,_⟩:=I.loc
 ⟨m,hn,I.bk,Nat.le_trans I.ok.Bm I.ok.above⟩
theorem Inv.lt(I:Inv X pins σ H s):X.env.locals<s.heap.objs.size:=let ⟨_,hn,_⟩:=I.loc;hn.lt
theorem Inv.sz(I:Inv X pins σ H s):X.cG.heap.objs.size<=s.heap.objs.size:=Nat.le_trans I.ok.above (Nat.le_of_lt I.lt)
theorem Inv.Tz(I:Inv X pins σ H s){a:Addr}(h:s.heap.objs.size<=a):a∉X.fs:=λhb=>by
 obtain⟨_,o,ho,_⟩:=I.ok.jF.mem hb;exact absurd (Nat.lt_of_lt_of_le (Heap.lt_size ho) (Nat.le_trans I.sz h)) (Nat.lt_irrefl _)
theorem Inv.FN(I:Inv X pins σ H s):∀x c,X.env.cells.lookup x=some c->c≠X.env.locals:=λx c e z=>by
 obtain⟨v,o,ho,hd⟩:=I.cell x c e;obtain⟨m,⟨o',es,ep,Br,VY,_⟩,_⟩:=I.loc;rw[z,Br]at ho;cases ho;rw[VY]at hd;cases hd
theorem Inv.jF(I:Inv X pins σ H s):s.heap.FunFrames X.base X.outer:=by
 have all:∀(l:List Env),(∀b∈yx l,b∈X.fs)->X.cG.heap.FunFrames X.base l->s.heap.FunFrames X.base l:=by
  intro l
  induction l with
  | nil=>intro _ _;trivial
  | cons env r ih =>
   intro hs hl;obtain⟨hk,⟨L,o,hf,hn,ho,hd⟩,hr⟩:=hl;have hL:L∈X.fs:=hs L (by unfold yx;rw[List.filterMap_cons,hf];exact List.mem_cons_self)
   obtain⟨sl,e⟩:=I.base.slot L o ho (I.ok.GW L hL) hL λz=>I.ok.yf L z hL;exact⟨hk,⟨L,_,hf,hn,e,hd⟩,ih (λb hb=>hs b (by unfold yx;rw[List.filterMap_cons,hf];exact List.mem_cons_of_mem _ hb)) hr⟩
 exact all X.outer (λ_ hb=>hb) I.ok.jF
theorem Inv.stack(I:Inv X pins σ H s):s.heap.FunFrames X.base X.stack:=by
 rcases I.ok.Qf with e|⟨e,hf⟩
 ·rw[e];exact I.jF
 ·rw[e]
  obtain⟨m,hn,_⟩:=I.loc;refine .cons (by rw[I.ok.kind];decide) hf hn ?_ I.jF
  exact Heap.get?_none_of_le (Nat.le_trans I.ok.Bm I.ok.above)
theorem Inv.oY(I:Inv X pins σ H s):∀b∈yx X.stack,b∈X.env.locals::X.fs:=λb hb=>by
 rcases I.ok.Qf with e|⟨e,hf⟩
 ·rw[e]at hb;exact List.mem_cons_of_mem _ hb
 ·rw[e]at hb
  unfold yx at hb;rw[List.filterMap_cons,hf]at hb;exact hb
theorem Inv.u5(I:Inv X pins σ H s):∀b∈yx X.stack,H b=none:=λb hb=>by
 rcases List.mem_cons.mp (I.oY b hb)with e|hb
 ·rw[e];exact I.free
 ·obtain⟨_,o,ho,_⟩:=I.ok.jF.mem hb
  exact I.base.free b o ho (I.ok.GW b hb) λz=>I.ok.yf b z hb
theorem Inv.step{g':Array GenState}{t':Nat}{d':Drawn}{ch:List Addr}(I:Inv X pins σ H s)
  (Bp:∀b∈ch,(b∈X.ex\/X.cG.heap.get? b=none)/\b≠X.env.locals/\(∀x c,X.env.cells.lookup x=some c->c≠b)/\∀p∈X.pn++pins,p.1≠b)
  (keep:∀b o,b≠X.env.locals->b∉X.fs->b∉ch->s.heap.get? b=some o->H b=none->h'.get? b=some o)
  (slot:∀b o,b≠X.env.locals->b∈X.fs->b∉ch->s.heap.get? b=some o->H b=none->∃sl,h'.get? b=some {o with slots:=sl}) (free:∀b o,b∉ch->s.heap.get? b=some o->H b=none->H' b=none)
  (there:∀b o,b∉ch->s.heap.get? b=some o->∃o',h'.get? b=some o')
  (rq:∀b xs,H b=some (.tup xs)->H' b=some (.tup xs)) (nM:∀b o u,H b=some (.mC o u)->H' b=some (.mC o u)) (rm:∀b ps,H b=some (.Ku ps)->∃more,H' b=some (.Ku (ps++more)))
  (ns:∀m,s.heap.Ns X.env.locals m->h'.Ns X.env.locals m) (bI:fO X.prog X.w H' h') (hg:AllBare g'):
  Inv X pins σ H' {s with heap:=h',gens:=g',drawn:=d',toks:=t'}:=by
 have Vl:∀b o,X.cG.heap.get? b=some o->b≠X.env.locals:=λb o e=>Nat.ne_of_lt (Nat.lt_of_lt_of_le (Heap.lt_size e) I.ok.above);have QT:∀b o,X.cG.heap.get? b=some o->b∉X.ex->b∉ch:=λb o e hx hb=>by
  rcases(Bp b hb).1 with z|z
  ·exact hx z
  ·rw[e]at z;cases z
 have cellK:∀x c,X.env.cells.lookup x=some c->∀v,s.heap.IsCell c v->h'.IsCell c v:=λx c e v ⟨o,ho,hd⟩=>by
  have zg:c∉ch:=λz=>(Bp c z).2.2.1 x c e rfl
  by_cases hc:c∈X.fs
  ·obtain⟨sl,q⟩:=slot c o (I.FN x c e) hc zg ho (I.eX x c e)
   exact⟨_,q,hd⟩
  ·exact⟨o,keep c o (I.FN x c e) hc zg ho (I.eX x c e),hd⟩
 refine⟨I.ok,I.os,hg,⟨λb o e n hb hx=>?_,λb o e n hb hx=>?_,λb o e n hx=>?_,λb o e hx=>?_,λb xs e=>rq b xs (I.base.rq b xs e),λb o xs e=>nM b o xs (I.base.nM b o xs e),λb ps e=>?_⟩,?_,λx c e=>?_,?_,λx c e=>?_,λp hp=>?_,bI,I.len⟩
 ·exact keep b o (Vl b o e) hb (QT b o e hx) (I.base.keep b o e n hb hx) (I.base.free b o e n hx)
 ·obtain⟨sl,e1⟩:=I.base.slot b o e n hb hx
  obtain⟨Xh,e2⟩:=slot b _ (Vl b o e) hb (QT b o e hx) e1 (I.base.free b o e n hx);exact⟨Xh,e2⟩
 ·obtain⟨o',e1⟩:=I.base.there b o e hx
  exact free b o' (QT b o e hx) e1 (I.base.free b o e n hx)
 ·obtain⟨o',e1⟩:=I.base.there b o e hx
  exact there b o' (QT b o e hx) e1
 ·obtain⟨m1,e1⟩:=I.base.rm b ps e
  obtain⟨m2,e2⟩:=rm b _ e1;exact⟨m1++m2,by rw[e2,Array.append_assoc]⟩
 ·obtain⟨m,hn,hl⟩:=I.loc
  refine⟨m,ns m hn,λi x v e1 e2 e3=>?_⟩;obtain⟨u,r,l⟩:=hl i x v e1 e2 e3;refine⟨u,r,?_⟩;rcases l with l|⟨k,c,e,z⟩
  ·exact .inl l
  ·exact .inr ⟨k,c,e,cellK x c e _ z⟩
 ·obtain⟨v,z⟩:=I.cell x c e
  exact⟨v,cellK x c e v z⟩
 ·obtain⟨m,⟨o,_,_,ho,_⟩,_⟩:=I.loc
  exact free _ o (λz=>(Bp _ z).2.1 rfl) ho I.free
 ·obtain⟨v,o,ho,hd⟩:=I.cell x c e
  exact free c o (λz=>(Bp c z).2.2.1 x c e rfl) ho (I.eX x c e)
 ·obtain⟨e,n,ne,nf,d⟩:=I.pin p hp
  have zg:p.1∉ch:=λz=>(Bp p.1 z).2.2.2 p hp rfl;exact⟨keep p.1 p.2 ne nf zg e n,free p.1 p.2 zg e n,ne,nf,d⟩
theorem Inv.un{t':Nat}(I:Inv X pins σ H s)(u:Un X.fs [] H H' s.heap h')(bI:fO X.prog X.w H' h'):Inv X pins σ H' {s with heap:=h',toks:=t'}:=by
 obtain⟨m,⟨o,es,ep,ho,r⟩,_⟩:=id I.loc;obtain⟨sl,hL⟩:=u.any ho I.free (by simp)
 exact I.step (g':=s.gens) (d':=s.drawn) (ch:=[]) (λ_ z=>nomatch z) (λb o _ hb _ e n=>u.keep b o e n hb (by simp)) (λb o _ hb _ e n=>u.slot b o e n hb (by simp)) (λb o _ e n=>u.free b o e n (by simp)) (λb o _ e=>u.there b o e (by simp)) u.rq u.nM u.rm (λm' hm=>by
  obtain⟨o',GA,RU,Br,r'⟩:=hm;rw[ho]at Br;cases Br;exact⟨_,GA,RU,hL,r'⟩) bI I.bare
theorem Inv.call{g':Array GenState}{t':Nat}{d':Drawn}{ch:List Addr}(I:Inv X pins σ H s)(u:Un (yx X.stack) ch H H' s.heap h')(bI:fO X.prog X.w H' h')(hg:AllBare g')
  (Bp:∀b∈ch,(b∈X.ex\/X.cG.heap.get? b=none)/\b≠X.env.locals/\(∀x c,X.env.cells.lookup x=some c->c≠b)/\∀p∈X.pn++pins,p.1≠b):
  Inv X pins σ H' {s with heap:=h',gens:=g',drawn:=d',toks:=t'}:=by
 obtain⟨m,⟨o,es,ep,ho,r⟩,_⟩:=id I.loc;obtain⟨sl,hL⟩:=u.any ho I.free λz=>(Bp _ z).2.1 rfl;exact I.step (ch:=ch) Bp (λb o hL hb hc e n=>u.keep b o e n (λz=>(List.mem_cons.mp (I.oY b z)).elim hL hb) hc) (λb o _ _ hc e n=>u.any e n hc) (λb o hc e n=>u.free b o e n hc) (λb o hc e=>u.there b o e hc) u.rq u.nM u.rm (λm' hm=>by
  obtain⟨o',GA,RU,Br,r'⟩:=hm;rw[ho]at Br;cases Br;exact⟨_,GA,RU,hL,r'⟩) bI hg
theorem Inv.turned{t':Nat}{it:Addr}(I:Inv X pins σ H s)(k:∀b o,b≠it->s.heap.get? b=some o->h'.get? b=some o)(hn:H it=none)(hL:it≠X.env.locals)
  (h1:it∈X.ex\/X.cG.heap.objs.size<=it) (h2:∀x c,X.env.cells.lookup x=some c->c≠it) (h3:∀p∈X.pn++pins,p.1≠it):Inv X pins σ H {s with heap:=h',toks:=t'}:=by
 have Vm:∀b u,H b=some u->b≠it:=λb u e z=>by rw[z,hn]at e;cases e
 refine I.step (g':=s.gens) (d':=s.drawn) (ch:=[it]) (λb hb=>?_) (λb o _ _ hc e _=>k b o (λz=>hc (by simp [z])) e) (λb o _ _ hc e _=>⟨o.slots,k b o (λz=>hc (by simp [z])) e⟩) (λ_ _ _ _ n=>n)
  (λb o hc e=>⟨o,k b o (λz=>hc (by simp [z])) e⟩) (λ_ _ e=>e) (λ_ _ _ e=>e) (λb ps e=>⟨#[],by rw[e];simp⟩) (λm hm=>?_) (λb u e=>?_) I.bare
 ·have e:b=it:=by simpa using hb
  subst e;exact⟨h1.imp id λz=>Heap.get?_none_of_le z,hL,h2,h3⟩
 ·obtain⟨o,es,ep,ho,r⟩:=hm
  exact⟨o,es,ep,k _ o (Ne.symm hL) ho,r⟩
 ·refine(I.bI b u e).sZ (λc v hc q=>k c v ?_ q) (λ_ q=>q) λ_ _ q=>q
  rcases hc with z|z
  ·rw[z];exact Vm b u e
  ·exact Vm c _ z
theorem Inv.tok(I:Inv X pins σ H s)(t:Nat):Inv X pins σ H {s with toks:=t}:=I.un (h':=s.heap) (t':=t) Un.refl I.bI
theorem Inv.kept{t':Nat}(I:Inv X pins σ H s)(k:∀b u,s.heap.get? b=some u->h'.get? b=some u):Inv X pins σ H {s with heap:=h',toks:=t'}:=I.un (Un.kept k) (I.bI.kept k)
theorem Inv.laid{a:Addr}{o:HO}{t':Nat}(I:Inv X pins σ H s)(k:∀b u,s.heap.get? b=some u->h'.get? b=some u)(hp:s.heap.objs.size<=a)(new:bF X.prog X.w (upd H a o) h' a o):
  Inv X pins σ (upd H a o) {s with heap:=h',toks:=t'}:=I.un (Un.laid k hp (I.bI.fresh hp)) (I.bI.laid k hp new)
theorem Inv.write{x e:Addr}{o:HO}{t':Nat}(I:Inv X pins σ H s)(mu:Lx (H x))(he:e=x\/H e=some (.own x))(k:∀b u,b≠e->s.heap.get? b=some u->h'.get? b=some u)(KW:∃u,h'.get? e=some u)
  (new:bF X.prog X.w (upd H x o) h' x o):Inv X pins σ (upd H x o) {s with heap:=h',toks:=t'}:=I.un (Un.write mu he k KW) (I.bI.write mu he k KW new)
theorem Inv.uC{EC:List (Addr×Obj)}(I:Inv X pins σ H s)(h:∀p∈EC,s.heap.get? p.1=some p.2/\H p.1=none/\p.1≠X.env.locals/\p.1∉X.fs/\∀v,p.2.data≠.cell v):Inv X EC σ H s:=
 ⟨I.ok,I.os,I.bare,I.base,I.loc,I.cell,I.free,I.eX,λp hp=>(List.mem_append.mp hp).elim (λz=>I.pin p (List.mem_append_left _ z)) (h p),I.bI,I.len⟩
theorem qK{N:List Str}(hN:N.Nodup){i j:Nat}{x:Str}(a:N[i]?=some x)(b:N[j]?=some x):i=j:=by
 obtain⟨h1,e1⟩:=List.getElem?_eq_some_iff.mp a;obtain⟨h2,e2⟩:=List.getElem?_eq_some_iff.mp b;exact(List.getElem_inj hN).mp (e1.trans e2.symm)
theorem wx{M:Model}{A:Around}{E:Value->Shared->Prop}{i:Nat}{x:Str}{v:V}{u:Value}{Q:Unit->Shared->Prop}(I:Inv X pins σ H s)(hN:X.N.Nodup)(hi:X.N[i]?=some x)(hx:Loc X.env.scope x)(r:RelV v u)
  (h:∀s',Inv X pins (σ.set i (some v)) H s'->(∃a,Heap.SameBut a s.heap s'.heap/\(a=X.env.locals\/X.env.cells.lookup x=some a))->Q () s') (hf:X.fn x=true\/X.env.scope.names.lookup x=some .local:=by first|exact .inl rfl|exact .inr rfl|assumption):wpAny M A (storeName X.env x u) Q E s:=by
 obtain⟨m,hn,hl⟩:=id I.loc;have Sn:(X.env.scope.kind==.class||(X.env.scope.kind==.module&&X.env.locals != X.env.globals))=false:=by rw[I.ok.kind];rfl
 have Nb:i<σ.length:=by rw[I.len];exact(List.getElem?_eq_some_iff.mp hi).1
 have FN:=I.FN;have tracked:∀ {a:Addr} {h':Heap},(∃o,s.heap.get? a=some o/\H a=none)->Heap.SameBut a s.heap h'->fO X.prog X.w H h':=λ{a h'} ha hs b ob e=>by
  obtain⟨_,_,tX⟩:=ha;refine(I.bI b ob e).sZ (λc w' hc q=>(hs.2 c ?_).trans q) (λ_ q=>q) λ_ _ q=>q;rintro rfl;rcases hc with rfl|hc
  ·rw[tX]at e;cases e
  ·rw[tX]at hc;cases hc
 rcases hx with hk|hk
 ·refine wpAny_storeName_local hk hn (λh' Wj hs=>?_) Sn
  obtain⟨oL,_,_,QG,_⟩:=id hn;refine h _ ⟨I.ok,I.os,I.bare,⟨λb o e n hb hx=>?_,λb o e n hb hx=>?_,I.base.free,λb o e hx=>?_,I.base.rq,I.base.nM,I.base.rm⟩,⟨_,Wj,λj y v' e1 e2 e3=>?_⟩,λy c e=>?_,I.free,I.eX,λp hp=>?_,tracked ⟨oL,QG,I.free⟩ hs,by simpa using I.len⟩ ⟨_,hs,.inl rfl⟩
  ·exact(hs.2 b (Nat.ne_of_lt (Nat.lt_of_lt_of_le (Heap.lt_size e) I.ok.above))).trans (I.base.keep b o e n hb hx)
  ·obtain⟨sl,e1⟩:=I.base.slot b o e n hb hx
   exact⟨sl,(hs.2 b (Nat.ne_of_lt (Nat.lt_of_lt_of_le (Heap.lt_size e) I.ok.above))).trans e1⟩
  ·obtain⟨o',e1⟩:=I.base.there b o e hx
   exact⟨o',(hs.2 b (Nat.ne_of_lt (Nat.lt_of_lt_of_le (Heap.lt_size e) I.ok.above))).trans e1⟩
  ·by_cases hj:j=i
   ·subst hj
    rw[hi]at e1;cases e1;rw[List.getElem?_set_self Nb]at e2;cases e2;exact⟨u,r,.inl ⟨hk,by simp⟩⟩
   ·rw[List.getElem?_set_ne (Ne.symm hj)]at e2
    obtain⟨u',r',q⟩:=hl j y v' e1 e2 e3;refine⟨u',r',?_⟩;rcases q with⟨k,e⟩|⟨k,c,e,z⟩
    ·refine .inl ⟨k,?_⟩
     have:y≠x:=λe=>hj (qK hN e1 (e ▸ hi));simp [this,e]
    ·exact .inr ⟨k,c,e,z.sameBut hs (FN y c e)⟩
  ·obtain⟨w',z⟩:=I.cell y c e
   exact⟨w',z.sameBut hs (FN y c e)⟩
  ·obtain⟨e,n,ne,nf,d⟩:=I.pin p hp
   exact⟨(hs.2 p.1 ne).trans e,n,ne,nf,d⟩
 ·have Sw:X.fn x=true:=by
   rcases hf with z|z
   ·exact z
   ·rw[z]at hk;cases hk
  obtain⟨c,hc⟩:=I.ok.has x (.inl hk);obtain⟨w',z⟩:=I.cell x c hc;refine wpAny_storeName_cell I.ok.kind hk hc z (λh' QA hs=>?_);obtain⟨oc,U2,SQ⟩:=id z;refine h {s with heap:=h'} ⟨I.ok,I.os,I.bare,⟨λb o e n hb hx=>?_,λb o e n hb hx=>?_,I.base.free,λb o e hx=>?_,I.base.rq,I.base.nM,I.base.rm⟩,⟨m,hn.sameBut hs (Ne.symm (FN x c hc)),λj y v' e1 e2 e3=>?_⟩,λy c' e=>?_,I.free,I.eX,λp hp=>?_,tracked ⟨oc,U2,I.eX x c hc⟩ hs,by simpa using I.len⟩ ⟨c,hs,.inr hc⟩
  ·exact(hs.2 b (Nat.ne_of_lt (Nat.lt_of_lt_of_le (Heap.lt_size e) (I.ok.KP x c Sw hc)))).trans (I.base.keep b o e n hb hx)
  ·obtain⟨sl,e1⟩:=I.base.slot b o e n hb hx
   exact⟨sl,(hs.2 b (Nat.ne_of_lt (Nat.lt_of_lt_of_le (Heap.lt_size e) (I.ok.KP x c Sw hc)))).trans e1⟩
  ·obtain⟨o',e1⟩:=I.base.there b o e hx
   exact⟨o',(hs.2 b (Nat.ne_of_lt (Nat.lt_of_lt_of_le (Heap.lt_size e) (I.ok.KP x c Sw hc)))).trans e1⟩
  ·by_cases hj:j=i
   ·subst hj
    rw[hi]at e1;cases e1;rw[List.getElem?_set_self Nb]at e2;cases e2;exact⟨u,r,.inr ⟨.inl hk,c,hc,QA⟩⟩
   ·rw[List.getElem?_set_ne (Ne.symm hj)]at e2
    obtain⟨u',r',q⟩:=hl j y v' e1 e2 e3;refine⟨u',r',?_⟩;rcases q with q|⟨k,c',e,z'⟩
    ·exact .inl q
    ·refine .inr ⟨k,c',e,z'.sameBut hs ?_⟩
     rintro rfl;exact hj (qK hN e1 (I.ok.inj _ _ _ e hc ▸ hi))
  ·by_cases QB:c'=c
   ·subst QB;exact⟨_,QA⟩
   ·obtain⟨w2,z2⟩:=I.cell y c' e
    exact⟨w2,z2.sameBut hs QB⟩
  ·obtain⟨e,n,ne,nf,d⟩:=I.pin p hp
   refine⟨(hs.2 p.1 ?_).trans e,n,ne,nf,d⟩;intro q;rw[q,U2]at e;have q':oc=p.2:=Option.some.inj e;exact d w' (by rw[<- q'];exact SQ)
theorem kZ{M:Model}{A:Around}{E:Value->Shared->Prop}{i:Nat}{x:Str}{v:V}{u:Value}{Q:Unit->Shared->Prop}(I:Inv X pins σ H s)(hN:X.N.Nodup)(hi:X.N[i]?=some x)(hx:Loc X.env.scope x)(r:RelV v u)
  (h:∀s',Inv X pins (σ.set i (some v)) H s'->Q () s') (hf:X.fn x=true\/X.env.scope.names.lookup x=some .local:=by first|exact .inl rfl|exact .inr rfl|assumption):wpAny M A (storeName X.env x u) Q E s:=
 wx I hN hi hx r (λs' I' _=>h s' I') hf
theorem Inv.L5{s':Shared}{ch:List Addr}(I:Inv X pins σ H s)(ho:s'.os=s.os)(u:Un (yx X.stack) ch H H' s.heap s'.heap)(bI:fO X.prog X.w H' s'.heap)(hg:AllBare s'.gens)
  (Bp:∀b∈ch,(b∈X.ex\/X.cG.heap.get? b=none)/\b≠X.env.locals/\(∀x c,X.env.cells.lookup x=some c->c≠b)/\∀p∈X.pn++pins,p.1≠b):Inv X pins σ H' s':=by
 obtain⟨h',g',d',t',o'⟩:=s';have e:o'=s.os:=ho;subst e;exact I.call (g':=g') (t':=t') (d':=d') u bI hg Bp
end
abbrev XK:=Value->Option Addr->Hp->Prop
abbrev St:=List (Option V)
abbrev VK:=V->Hp->Prop
abbrev TE:=St->Hp->VK->Prop
abbrev TT:=St->Hp->(Bool->Hp->Prop)->Prop
abbrev TA:=St->Hp->(List V->Hp->Prop)->Prop
structure Ends where
 nx:St->Hp->Prop
 rt:VK
 bk:St->Hp->Prop:=λ_ _=>False
 ct:St->Hp->Prop:=λ_ _=>False
abbrev TS:=Ends->St->Hp->Prop
def EP(X:Cx)(pins:List (Addr×Obj))(σ:St)(Q:VK)(u:Value)(s':Shared):Prop:=∃v H',Inv X pins σ H' s'/\RelV v u/\Q v H'
def TP(X:Cx)(pins:List (Addr×Obj))(σ:St)(Q:Bool->Hp->Prop)(b:Bool)(s':Shared):Prop:=∃H',Inv X pins σ H' s'/\Q b H'
def AP(X:Cx)(pins:List (Addr×Obj))(σ:St)(Q:List V->Hp->Prop)(us:List Value)(s':Shared):Prop:=∃vs H',Inv X pins σ H' s'/\Vals vs us/\Q vs H'
def SP(X:Cx)(pins:List (Addr×Obj))(D:Ends)(f:Flow)(s':Shared):Prop:=
 match f with
 | .next=>∃bw H',Inv X pins bw H' s'/\D.nx bw H'
 | .brk=>∃bw H',Inv X pins bw H' s'/\D.bk bw H'
 | .cont=>∃bw H',Inv X pins bw H' s'/\D.ct bw H'
 | .ret u=>∃v bw H',Inv X pins bw H' s'/\RelV v u/\D.rt v H'
def PE(X:Cx)(e:Expr)(t:TE):Prop:=
 ∀(pins:List (Addr×Obj)) (s:Shared) (σ:St) (H:Hp) (Q:VK),Inv X pins σ H s->t σ H Q->wpAny (model X.prog X.w) X.A (eval e X.env) (EP X pins σ Q) X.xe s
def PT(X:Cx)(e:Expr)(t:TT):Prop:=
 ∀(pins:List (Addr×Obj)) (s:Shared) (σ:St) (H:Hp) (Q:Bool->Hp->Prop),Inv X pins σ H s->t σ H Q->wpAny (model X.prog X.w) X.A (isTrue e X.env (eval e X.env)) (TP X pins σ Q) X.xe s
def PW(X:Cx)(e:Expr)(t:TT):Prop:=
 ∀(whole:Sem Value) (pins:List (Addr×Obj)) (s:Shared) (σ:St) (H:Hp) (Q:Bool->Hp->Prop),Inv X pins σ H s->t σ H Q->wpAny (model X.prog X.w) X.A (isTrue e X.env whole) (TP X pins σ Q) X.xe s
theorem PW.pt{X:Cx}{e:Expr}{t:TT}(h:PW X e t):PT X e t:=h _
def PA(X:Cx)(es:List Expr)(t:TA):Prop:=
 ∀(pos:Pos) (pins:List (Addr×Obj)) (s:Shared) (σ:St) (H:Hp) (Q:List V->Hp->Prop),Inv X pins σ H s->t σ H Q->wpAny (model X.prog X.w) X.A (spliced (backTo pos (starEach es X.env))) (AP X pins σ Q) X.xe s
def PS(X:Cx)(st:Stmt)(t:TS):Prop:=
 ∀(pins:List (Addr×Obj)) (s:Shared) (σ:St) (H:Hp) (D:Ends),Inv X pins σ H s->t D σ H->wpAny (model X.prog X.w) X.A (exec st X.env) (SP X pins D) X.xe s
def lW(X:Cx)(st:List Stmt)(t:TS):Prop:=
 ∀(pins:List (Addr×Obj)) (s:Shared) (σ:St) (H:Hp) (D:Ends),Inv X pins σ H s->t D σ H->wpAny (model X.prog X.w) X.A (execs st X.env) (SP X pins D) X.xe s
theorem cq{α:Type}{t:Sem α}{Q Q':α->Shared->Prop}{M:Model}{A:Around}{E:Value->Shared->Prop}{s:Shared}(h:wpAny M A t Q E s)(hQ:∀a s,Q a s->Q' a s):wpAny M A t Q' E s:=wpAny_mono h hQ λ_ _ x=>x
end L2
namespace L2
open PySem PySem.Spec PyProof.Rows
section
variable {X:Cx}
def lQ(i:Nat):TE:=λσ H Q=>∃v,σ[i]?=some (some v)/\Q v H
def tC(v:V):TE:=λ_ H Q=>Q v H
theorem dA{i:Nat}{x:Str}{pos:Pos}(hN:X.N[i]?=some x)(hv:vg X.env.scope x)(hd:(x==("__debug__":Str))=false:=by decide)(qm:(x==("__classdict__":Str))=false:=by decide):PE X (.Name x pos) (lQ i):=by
 intro pins s σ H Q I h;obtain⟨v,e,h⟩:=h;obtain⟨m,hn,hl⟩:=I.loc;obtain⟨u,r,l⟩:=hl i x v hN e hv;have fin:EP X pins σ Q u s:=⟨v,H,I,r,h⟩;rcases l with⟨hk,hm⟩|⟨hk,c,hc,tW⟩
 ·exact wpAny_Name (wpAny_loadName_local I.ok.kind hk hn hm fin) hd
 ·rcases hk with hk|hk
  ·exact wpAny_Name (wpAny_loadName_cell I.ok.kind hk hc tW fin) hd
  ·exact wpAny_Name (wpAny_loadName_free I.ok.kind hk hc tW fin qm) hd
theorem Ja{i j pos}:PE X (.Constant (.int i) j pos) (tC (.int i)):=λ_ _ _ H _ I h=>wpAny_Constant_int ⟨.int i,H,I.tok _,⟨_,rfl⟩,h⟩
theorem OX{b j pos}:PE X (.Constant (.bool b) j pos) (tC (.bl b)):=λ_ _ _ H _ I h=>Constant_bool ⟨.bl b,H,I,rfl,h⟩
theorem Jb{j pos}:PE X (.Constant .none j pos) (tC .bB):=λ_ _ _ H _ I h=>Constant_none ⟨.bB,H,I,rfl,h⟩
theorem Jd{x j pos}:PE X (.Constant (.str x) j pos) (tC (.str x)):=λ_ _ _ H _ I h=>Calls.Constant_str ⟨.str x,H,I.tok _,⟨_,rfl⟩,h⟩
def Gl(X:Cx)(x:Str):Prop:=X.env.kindOf x=some .globalImplicit
theorem uq{E:Value->Shared->Prop}{pins:List (Addr×Obj)}{s:Shared}{σ:St}{H:Hp}{x:Str}{u:Value}{pos:Pos}{Q:Value->Shared->Prop}(I:Inv X pins σ H s)(hg:Gl X x)(hm:X.mg x=some u)(h:Q u s)
  (hd:(x==("__debug__":Str))=false:=by decide):wpAny (model X.prog X.w) X.A (eval (.Name x pos) X.env) Q E s:=
 Calls.Name_function_global I.ok.kind hg (Calls.loadGlobal_global (by rw[I.ok.glob];exact I.mod.glob.keeps I.bk) hm h) hd
theorem eZ{E:Value->Shared->Prop}{pins:List (Addr×Obj)}{s:Shared}{σ:St}{H:Hp}{x:Str}{u:Value}{pos:Pos}{Q:Value->Shared->Prop}(I:Inv X pins σ H s)(hg:Gl X x)(hm:X.mg x=none)(hv:bootBuiltins x=some u)(h:Q u s)
  (hn:x≠"__name__":=by decide) (hd:(x==("__debug__":Str))=false:=by decide):wpAny (model X.prog X.w) X.A (eval (.Name x pos) X.env) Q E s:=by
 obtain⟨mb,h1,h2⟩:=I.mod.blt;exact Calls.Name_function_global I.ok.kind hg (Calls.loadGlobal_builtin (by rw[I.ok.glob];exact I.mod.glob.keeps I.bk) hm (by rw[I.ok.blt];exact h1.keeps I.bk) ((h2 x hn).trans hv) h) hd
theorem CU{x:Str}{v:V}{u:Value}{pos:Pos}(hg:Gl X x)(hm:X.mg x=some u)(r:RelV v u)(hd:(x==("__debug__":Str))=false:=by decide):PE X (.Name x pos) (tC v):=
 λ_ _ _ H _ I h=>uq I hg hm ⟨v,H,I,r,h⟩ hd
theorem n6{x:Str}{v:V}{u:Value}{pos:Pos}(hg:Gl X x)(hm:X.mg x=none)(hv:bootBuiltins x=some u)(r:RelV v u)(hn:x≠"__name__":=by decide)(hd:(x==("__debug__":Str))=false:=by decide):PE X (.Name x pos) (tC v):=
 λ_ _ _ H _ I h=>eZ I hg hm hv ⟨v,H,I,r,h⟩ hn hd
variable {a b:Expr}{ta tb:TE}{pos:Pos}
variable {tA Q5:TT}{rest:List Expr}
def T5(t u:TT):TT:=λσ H Q=>t σ H λc H1=>if c=true then u σ H1 Q else Q false H1
def Xk(t u:TT):TT:=λσ H Q=>t σ H λc H1=>if c=true then Q true H1 else u σ H1 Q
def Ue(t:TT):TT:=λσ H Q=>t σ H λc H1=>Q (!c) H1
theorem pw_and1(ha:PT X a tA):PW X (.BoolOp .And [a] pos) tA:=by
 intro wh pins s σ H Q I h;refine isTrue_and (cq (ha pins s σ H Q I h) λc s1 e=>?_);cases c with
 | true=>exact isTrue_and_nil e
 | false=>exact e
theorem pw_or1(ha:PT X a tA):PW X (.BoolOp .Or [a] pos) tA:=by
 intro wh pins s σ H Q I h;refine isTrue_or (cq (ha pins s σ H Q I h) λc s1 e=>?_);cases c with
 | false=>exact isTrue_or_nil e
 | true=>exact e
theorem pw_and(ha:PT X a tA)(hb:PW X (.BoolOp .And (b::rest) pos) Q5):PW X (.BoolOp .And (a::b::rest) pos) (T5 tA Q5):=by
 intro wh pins s σ H Q I h;refine isTrue_and (cq (ha pins s σ H _ I h) λc s1 ⟨H1,I1,q1⟩=>?_);cases c with
 | true=>exact hb wh pins s1 σ H1 Q I1 q1
 | false=>exact⟨H1,I1,q1⟩
theorem pw_or(ha:PT X a tA)(hb:PW X (.BoolOp .Or (b::rest) pos) Q5):PW X (.BoolOp .Or (a::b::rest) pos) (Xk tA Q5):=by
 intro wh pins s σ H Q I h;refine isTrue_or (cq (ha pins s σ H _ I h) λc s1 ⟨H1,I1,q1⟩=>?_);cases c with
 | true=>exact⟨H1,I1,q1⟩
 | false=>exact hb wh pins s1 σ H1 Q I1 q1
theorem Jv(ha:PT X a tA):PT X (.UnaryOp .Not a pos) (Ue tA):=by
 intro pins s σ H Q I h;exact isTrue_not (ha pins s σ H (λc H1=>Q (!c) H1) I h)
def Qh(ta tb:TE):TE:=λσ H Q=>ta σ H λx H1=>∃c,x=.bl c/\if c=true then tb σ H1 Q else Q (.bl false) H1
theorem Jc{op}{t:TE}(h:PE X a t):PE X (.BoolOp op [a] pos) t:=λpins s σ H Q I hw=>BoolOp_one (h pins s σ H Q I hw)
theorem I0(ha:PE X a ta)(hb:PE X (.BoolOp .And (b::rest) pos) tb):PE X (.BoolOp .And (a::b::rest) pos) (Qh ta tb):=by
 intro pins s σ H Q I h;refine BoolOp_and (cq (ha pins s σ H _ I h) λv s1 ⟨x,H1,I1,r1,q1⟩=>?_);obtain⟨c,rfl,q1⟩:=q1;cases r1;refine wpAny_truthy_bool ?_;cases c with
 | true=>exact hb pins s1 σ H1 Q I1 q1
 | false=>exact⟨.bl false,H1,I1,rfl,q1⟩
def Xj(t:TT)(ta tb:TE):TE:=λσ H Q=>t σ H λc H1=>if c=true then ta σ H1 Q else tb σ H1 Q
theorem zH{c:Expr}(hc:PT X c tA)(ha:PE X a ta)(hb:PE X b tb):PE X (.IfExp c a b pos) (Xj tA ta tb):=by
 intro pins s σ H Q I h;refine wpAny_IfExp (cq (hc pins s σ H _ I h) λd s1 ⟨H1,I1,q1⟩=>?_);cases d with
 | true=>exact ha pins s1 σ H1 Q I1 q1
 | false=>exact hb pins s1 σ H1 Q I1 q1
end
end L2
namespace L2
open PySem PySem.Spec PyProof.Rows
def dP(K:PySem.W.Frag)(H:Hp)(a:Addr)(xs:List V):Prop:=
 Rd H a (.lst xs) \/
  ∃(o:Obj) (its:Array Value) (n:Nat),K.lookup a=some o/\o.cls=.type "list"/\o.dict=none/\o.data=.seq its n/\its.size<=sizeLine/\Vals xs its.toList
def iD(K:PySem.W.Frag)(H:Hp)(a:Addr)(xs:List V):Prop:=
 Rd H a (.tup xs) \/
  ∃(o:Obj) (its:Array Value) (n:Nat),K.lookup a=some o/\o.cls=.type "tuple"/\o.data=.seq its n/\its.size<=sizeLine/\Vals xs its.toList
def Rt:Value->Option V
 | .none=>some .bB
 | .bool b=>some (.bl b)
 | .int i _=>some (.int i)
 | .str x _=>some (.str x)
 | .bytes b _=>some (.LY b)
 | .float b _=>some (.GU b)
 | .ref a=>some (.ref a)
 | .type n=>some (.ty n)
 | _=>none
theorem RelV.abs{x:V}{u:Value}(r:RelV x u):Rt u=some x:=by
 cases x with
 | bB=>cases r;rfl
 | bl _=>cases r;rfl
 | int _=>obtain⟨t,rfl⟩:=r;rfl
 | str _=>obtain⟨t,rfl⟩:=r;rfl
 | LY _=>obtain⟨t,rfl⟩:=r;rfl
 | GU _=>obtain⟨t,rfl⟩:=r;rfl
 | ref _=>cases r;rfl
 | ty _=>cases r;rfl
theorem RelV.inj{x y:V}{u:Value}(r:RelV x u)(q:RelV y u):x=y:=Option.some.inj (r.abs.symm.trans q.abs)
theorem Vals.inj:∀ {xs ys:List V} {us:List Value},Vals xs us->Vals ys us->xs=ys
 | _,_,_,.nil,.nil=>rfl
 | _,_,_,.cons r t,.cons r' t'=>by rw[r.inj r',Vals.inj t t']
section
variable {X:Cx}{pins:List (Addr×Obj)}{σ:St}{H:Hp}{s:Shared}{a:Addr}{xs ys:List V}
theorem dP.of{K:PySem.W.Frag}(h:H a=some (.lst xs)):dP K H a xs:=.inl (.inl h)
theorem iD.of{K:PySem.W.Frag}(h:H a=some (.tup xs)):iD K H a xs:=.inl (.inl h)
theorem Inv.list(I:Inv X pins σ H s)(h:dP X.K H a xs):∃its:List Value,Vals xs its/\PlainL s.heap a its.toArray/\xs.length<=sizeLine:=by
 rcases h with h|⟨o,its,n,hk,hc,hd,hs,hz,r⟩
 ·obtain⟨z,its,n,r,e⟩:=h.ok I.bI
  exact⟨its,r,⟨_,n,e,rfl,rfl,rfl⟩,z⟩
 ·refine⟨its.toList,r,⟨o,n,I.pq a o hk,hc,hd,by simpa using hs⟩,?_⟩
  have e:=r.length;simp only[Array.length_toList]at e;omega
theorem Inv.tuple(I:Inv X pins σ H s)(h:iD X.K H a xs):∃its:List Value,Vals xs its/\IsTup s.heap a its.toArray/\xs.length<=sizeLine:=by
 rcases h with h|⟨o,its,n,hk,hc,hs,hz,r⟩
 ·obtain⟨z,its,r,p⟩:=h.ok I.bI
  exact⟨its,r,p,z⟩
 ·refine⟨its.toList,r,⟨o,I.pq a o hk,hc,n,by simpa using hs⟩,?_⟩
  have e:=r.length;simp only[Array.length_toList]at e;omega
theorem Inv.qD(I:Inv X pins σ H s)(h:dP X.K H a xs)(h':dP X.K H a ys):xs=ys:=by
 obtain⟨its,r,⟨o,n,e,_,_,d⟩,_⟩:=I.list h;obtain⟨its',r',⟨o',n',e',_,_,d'⟩,_⟩:=I.list h';rw[e]at e';cases e';rw[d]at d'
 injection d' with d1 _
 have:its=its':=by simpa using congrArg Array.toList d1
 subst this;exact r.inj r'
theorem Inv.mY(I:Inv X pins σ H s)(h:iD X.K H a xs)(h':iD X.K H a ys):xs=ys:=by
 obtain⟨its,r,⟨o,e,_,n,d⟩,_⟩:=I.tuple h;obtain⟨its',r',⟨o',e',_,n',d'⟩,_⟩:=I.tuple h';rw[e]at e';cases e';rw[d]at d'
 injection d' with d1 _
 have:its=its':=by simpa using congrArg Array.toList d1
 subst this;exact r.inj r'
end
abbrev Cx.lR(X:Cx)(E:Value->Shared->Prop):Cx:={X with xe:=E}
abbrev Cx.HX(X:Cx):Cx:=X.lR λ_ _=>False
theorem Cx.Ok.lR{X:Cx}(ok:X.Ok)(E:Value->Shared->Prop):(X.lR E).Ok:=
 ⟨ok.mod,ok.kind,ok.glob,ok.blt,ok.above,ok.inj,ok.has,ok.KP,ok.hd,ok.frames,ok.Qf,ok.RW,ok.bs,ok.Bm,ok.vX,ok.yf,ok.jF,ok.GW⟩
theorem Cx.Ok.fv{X:Cx}{E:Value->Shared->Prop}(ok:(X.lR E).Ok):X.Ok:=
 ⟨ok.mod,ok.kind,ok.glob,ok.blt,ok.above,ok.inj,ok.has,ok.KP,ok.hd,ok.frames,ok.Qf,ok.RW,ok.bs,ok.Bm,ok.vX,ok.yf,ok.jF,ok.GW⟩
section
variable {X:Cx}{pins:List (Addr×Obj)}{σ:St}{H:Hp}{s:Shared}{E:Value->Shared->Prop}
theorem Inv.lR(I:Inv X pins σ H s)(E:Value->Shared->Prop):Inv (X.lR E) pins σ H s:=⟨I.ok.lR E,I.os,I.bare,I.base,I.loc,I.cell,I.free,I.eX,I.pin,I.bI,I.len⟩
theorem Inv.fv(I:Inv (X.lR E) pins σ H s):Inv X pins σ H s:=⟨I.ok.fv,I.os,I.bare,I.base,I.loc,I.cell,I.free,I.eX,I.pin,I.bI,I.len⟩
theorem SP.fv{D:Ends}{f:Flow}{s':Shared}(h:SP (X.lR E) pins D f s'):SP X pins D f s':=by
 cases f with
 | next=>obtain⟨bw,H',I,q⟩:=h;exact⟨bw,H',I.fv,q⟩
 | brk=>obtain⟨bw,H',I,q⟩:=h;exact⟨bw,H',I.fv,q⟩
 | cont=>obtain⟨bw,H',I,q⟩:=h;exact⟨bw,H',I.fv,q⟩
 | ret u=>obtain⟨v,bw,H',I,r,q⟩:=h;exact⟨v,bw,H',I.fv,r,q⟩
theorem lW.HX{st:List Stmt}{t:TS}(h:lW X.HX st t):lW X st t:=λpins s σ H D I hw =>
 wpAny_mono (h pins s σ H D (I.lR _) hw) (λ_ _ q=>q.fv) λ_ _ z=>False.elim z
end
section
variable {X:Cx}{st:Stmt}{rest:List Stmt}{t u:TS}{e:Expr}{te:TE}{pos:Pos}
def Qm:TS:=λD σ H=>D.nx σ H
def Uj(t u:TS):TS:=λD σ H=>t {D with nx:=u D} σ H
theorem uE:lW X [] Qm:=λ_ _ σ H _ I h=>wpAny_execs_nil ⟨σ,H,I,h⟩
theorem qN(h1:PS X st t)(h2:lW X rest u):lW X (st::rest) (Uj t u):=by
 intro pins s σ H D I h;refine wpAny_execs_cons (cq (h1 pins s σ H {D with nx:=u D} I h) λf s1 q=>?_)
 cases f with
 | next =>
  obtain⟨bw,H',I',q⟩:=q;exact h2 pins s1 bw H' D I' q
 | ret v=>exact q
 | brk=>exact q
 | cont=>exact q
theorem jO(h1:PS X st t):lW X [st] t:=by
 intro pins s σ H D I h;refine wpAny_execs_cons (cq (h1 pins s σ H D I h) λf s1 q=>?_);cases f with
 | next=>exact wpAny_execs_nil q
 | ret v=>exact q
 | brk=>exact q
 | cont=>exact q
theorem Inv.quiet{pins:List (Addr×Obj)}{σ:St}{H:Hp}{s:Shared}(I:Inv X pins σ H s):interactive X.env=false:=by simp [interactive,I.ok.kind]
def Qj(te:TE):TS:=λD σ H=>te σ H λ_ H1=>D.nx σ H1
theorem gW(he:PE X e te)(hs:swapsWith e none pos.line X.env=pure false:=by rfl):PS X (.Expr e pos) (Qj te):=by
 intro pins s σ H D I h;exact wpAny_Expr_any (cq (he pins s σ H _ I h) λv s1 ⟨x,H1,I1,r1,q1⟩=>⟨σ,H1,I1,q1⟩) I.quiet hs
def Uh(te:TE):TS:=λD σ H=>te σ H D.rt
theorem sQ(he:PE X e te):PS X (.Return (some e) pos) (Uh te):=by
 intro pins s σ H D I h;exact wpAny_Return_some (cq (he pins s σ H _ I h) λv s1 ⟨x,H1,I1,r1,q1⟩=>⟨x,σ,H1,I1,r1,q1⟩)
def T9(c:TT)(t u:TS):TS:=λD σ H=>c σ H λb H1=>if b=true then t D σ H1 else u D σ H1
theorem EE{c:Expr}{a b:List Stmt}{tc:TT}(hc:PT X c tc)(ha:lW X a t)(hb:lW X b u):PS X (.If c a b pos) (T9 tc t u):=by
 intro pins s σ H D I h;refine wpAny_If (cq (hc pins s σ H _ I h) λd s1 ⟨H1,I1,q1⟩=>?_);cases d with
 | true=>exact ha pins s1 σ H1 D I1 q1
 | false=>exact hb pins s1 σ H1 D I1 q1
def Kf:TS:=λ_ _ _=>False
theorem zU:PS X st Kf:=λ_ _ _ _ _ _ h=>h.elim
end
abbrev TG:=V->St->Hp->(St->Hp->Prop)->Prop
abbrev D3:=List V->St->Hp->(St->Hp->Prop)->Prop
def PG(X:Cx)(target:Expr)(t:TG):Prop:=
 ∀(pins:List (Addr×Obj)) (s:Shared) (σ:St) (H:Hp) (v:V) (u:Value) (Q:St->Hp->Prop),Inv X pins σ H s->RelV v u->t v σ H Q ->
  wpAny (model X.prog X.w) X.A (assign target X.env u) (λ_ s'=>∃bw H',Inv X pins bw H' s'/\Q bw H') X.xe s
def KO(X:Cx)(ts:List Expr)(t:D3):Prop:=
 ∀(pins:List (Addr×Obj)) (s:Shared) (σ:St) (H:Hp) (vs:List V) (us:List Value) (Q:St->Hp->Prop),Inv X pins σ H s->Vals vs us->t vs σ H Q ->
  wpAny (model X.prog X.w) X.A (assignInOrder ((assignEach ts X.env).map (·.2)) us) (λ_ s'=>∃bw H',Inv X pins bw H' s'/\Q bw H') X.xe s
abbrev Fs:=V->V->V->Hp->(Hp->Prop)->Prop
def Ly(X:Cx)(t:Fs):Prop:=
 ∀(pins:List (Addr×Obj)) (s:Shared) (σ:St) (H:Hp) (o i v:V) (ov iv u:Value) (Q:Hp->Prop),Inv X pins σ H s->RelV o ov->RelV i iv->RelV v u->t o i v H Q ->
  wpAny (model X.prog X.w) X.A (setItem ov iv u) (λ_ s'=>∃H',Inv X pins σ H' s'/\Q H') X.xe s
section
variable {X:Cx}{pos:Pos}
def gK(i:Nat):TG:=λv σ H Q=>Q (σ.set i (some v)) H
theorem gV{i:Nat}{x:Str}(hN:X.N.Nodup)(hi:X.N[i]?=some x)(hx:Loc X.env.scope x)(hf:X.fn x=true\/X.env.scope.names.lookup x=some .local:=by first|exact .inl rfl|exact .inr rfl|assumption):PG X (.Name x pos) (gK i):=by
 intro pins s σ H v u Q I r h;exact wpAny_assign_Name (kZ I hN hi hx r (λs' I'=>⟨_,H,I',h⟩) hf)
def MZ:D3:=λvs σ H Q=>vs=[]/\Q σ H
def yy(t:TG)(u:D3):D3:=λvs σ H Q=>∃v r,vs=v::r/\t v σ H λbw H'=>u r bw H' Q
theorem uB:KO X [] MZ:=by
 intro pins s σ H vs us Q I r h;obtain⟨e,h⟩:=h;subst e;cases r;exact assignInOrder_nil ⟨σ,H,I,h⟩
theorem kN{e:Expr}{es:List Expr}{t:TG}{u:D3}(h1:PG X e t)(h2:KO X es u)
  (hs:(assignEach (e::es) X.env).map (·.2)=assign e X.env::(assignEach es X.env).map (·.2):=by rfl):KO X (e::es) (yy t u):=by
 intro pins s σ H vs us Q I r h;obtain⟨v,vr,e1,h⟩:=h;subst e1;cases r with
 | cons r rr =>
  rw[hs];refine assignInOrder_cons (cq (h1 pins s σ H _ _ _ I r h) λ_ s1 ⟨ax,H1,I1,q1⟩=>?_);exact h2 pins s1 ax H1 _ _ Q I1 rr q1
def M0(K:PySem.W.Frag)(n:Nat)(t:D3):TG:=λv σ H Q=>∃a xs,v=.ref a/\iD K H a xs/\xs.length=n/\t xs σ H Q
theorem zL{es:List Expr}{k:Nat}{t:D3}{n:Nat}(hc:X.calm=true)(h:KO X es t)
  (hn:(assignEach es X.env).length=n:=by rfl) (so:(assignEach es X.env).findIdx? (·.1)=none:=by rfl):PG X (.Tuple es k pos) (M0 X.K n t):=by
 intro pins s σ H v u Q I r hw;obtain⟨a,xs,e1,hq,hl,hw⟩:=hw;subst e1;cases r;obtain⟨its,rv,ht,hz⟩:=I.tuple hq;refine assign_Tuple_tuple (I.ok.hd hc) ht (by simp [hn,<- hl,rv.length]) so λh' hx=>?_
 have I1:Inv X pins σ H {s with heap:=h'}:=I.kept (t':=s.toks) λb o e=>hx b o (Nat.ne_of_lt (Heap.lt_size e)) e
 exact h pins _ σ H xs _ Q I1 (by simpa using rv) hw
def RZ(to ti:TE)(t:Fs):TG:=λv σ H Q=>to σ H λo H1=>ti σ H1 λi H2=>t o i v H2 λH3=>Q σ H3
theorem Je{o i:Expr}{to ti:TE}{t:Fs}(ho:PE X o to)(hi:PE X i ti)(hs:Ly X t)
  (ha:∀v,assign (.Subscript o i pos) X.env v=(do
   let ov <- holding [v] (eval o X.env)
   let iv <- holding [v,ov] (eval i X.env)
   standAt pos
   holding [v,ov,iv] (setItem ov iv v)
   release [v,ov,iv] []):=by intro _;rfl):PG X (.Subscript o i pos) (RZ to ti t):=by
 intro pins s σ H v u Q I r h;rw[ha];refine wpAny_bind (wpAny_holding (cq (ho pins s σ H _ I h) λov s1 ⟨x,H1,I1,r1,q1⟩=>?_));refine wpAny_bind (wpAny_holding (cq (hi pins s1 σ H1 _ I1 q1) λiv s2 ⟨y,H2,I2,r2,q2⟩=>?_));refine wpAny_bind (wpAny_standAt (wpAny_bind (wpAny_holding (cq (hs pins s2 σ H2 x y v ov iv u _ I2 r1 r2 r q2) λ_ s3 ⟨H3,I3,q3⟩=>?_))));exact wpAny_release ⟨σ,H3,I3,q3⟩
def Ds(te:TE)(g:TG):TS:=λD σ H=>te σ H λx H1=>g x σ H1 D.nx
theorem Ju{tg e:Expr}{te:TE}{g:TG}(he:PE X e te)(hg:PG X tg g)(hs:swapsWithSole [tg] e pos.line X.env=pure false:=by rfl)(hw:swappedStores [tg] e X.env=pure none:=by rfl)
  (h1:(assignEach [tg] X.env).map (·.2)=[assign tg X.env]:=by rfl):PS X (.Assign [tg] e pos) (Ds te g):=by
 intro pins s σ H D I h;refine wpAny_Assign_stores (cq (he pins s σ H _ I h) λv s1 ⟨x,H1,I1,r1,q1⟩=>?_) hs hw;rw[h1];exact cq (hg pins s1 σ H1 x v _ I1 r1 q1) λ_ s2 q=>q
theorem zV{i:Nat}{x:Str}{e:Expr}{te:TE}{pos':Pos}(hN:X.N.Nodup)(hi:X.N[i]?=some x)(hx:Loc X.env.scope x)(he:PE X e te)(hs:swapsWith e (some (.Name x pos')) pos.line X.env=pure false:=by rfl)(hf:X.fn x=true\/X.env.scope.names.lookup x=some .local:=by first|exact .inl rfl|exact .inr rfl|assumption):
  PS X (.Assign [.Name x pos'] e pos) (Ds te (gK i)):=by
 intro pins s σ H D I h;refine wpAny_Assign_Name (cq (he pins s σ H _ I h) λv s1 ⟨y,H1,I1,r1,q1⟩=>?_) hs;exact kZ I1 hN hi hx r1 (λs2 I2=>⟨_,H1,I2,q1⟩) hf
end
section
variable {X:Cx}{pos:Pos}
def Kj(c:TT)(tb:TS):TS:=λD σ H=>∃W:Nat->St->Hp->Prop,(∃m,W m σ H)/\∀m σ H,W m σ H ->
 c σ H λb H1=>if b=true then∃N:St->Hp->Prop,(∀bw H',N bw H'->∃m',m'<m/\W m' bw H')/\tb {D with nx:=N,ct:=N,bk:=D.nx} σ H1 else D.nx σ H1
theorem zW{c:Expr}{body:List Stmt}{tc:TT}{tb:TS}(hp:PassesOwn (model X.prog X.w) X.A X.env X.xe)(hc:PT X c tc)(hb:lW X body tb):PS X (.While c body [] pos) (Kj tc tb):=by
 intro pins s σ H D I h;obtain⟨W,⟨m0,w0⟩,turn⟩:=h;refine wpAny_While (codeAny_whileLoop (λn s'=>∃bw H',Inv X pins bw H' s'/\W n bw H') ?_ m0 ⟨σ,H,I,w0⟩);rintro n s1 ⟨ax,H1,I1,w1⟩;refine wpAny_passesOwn hp (cq (hc pins s1 ax H1 _ I1 (turn n ax H1 w1)) λb s2 ⟨H2,I2,q2⟩=>?_);cases b with
 | true =>
  obtain⟨N,hN,q2⟩:=q2;rw[if_pos rfl];refine wpAny_passesOwn hp (cq (hb pins s2 ax H2 _ I2 q2) λf s3 q3=>?_);cases f with
  | next =>
   obtain⟨eK,H3,I3,n3⟩:=q3;obtain⟨m',hm,w3⟩:=hN eK H3 n3;exact⟨m',hm,eK,H3,I3,w3⟩
  | cont =>
   obtain⟨eK,H3,I3,n3⟩:=q3;obtain⟨m',hm,w3⟩:=hN eK H3 n3;exact⟨m',hm,eK,H3,I3,w3⟩
  | brk=>exact q3
  | ret v=>exact q3
 | false =>
  rw[if_neg Bool.false_ne_true];exact wpAny_execs_nil ⟨ax,H2,I2,q2⟩
end
structure It where
 go:Nat->Hp->Prop
 Le:Nat->Hp->V->Hp->Prop
 stop:Nat->Hp->Prop
def fN(X:Cx)(pins:List (Addr×Obj))(H:Hp)(b:Addr):Prop:=
 H b=none/\b≠X.env.locals/\b∉X.fs/\(b∈X.ex\/X.cG.heap.objs.size<=b)/\(∀x c,X.env.cells.lookup x=some c->c≠b)/\∀p∈X.pn++pins,p.1≠b
theorem Inv.sf{X:Cx}{pins:List (Addr×Obj)}{σ:St}{H H':Hp}{s:Shared}{b:Addr}(I:Inv X pins σ H s)(hb:s.heap.objs.size<=b)(hn:H' b=none):fN X pins H' b:=by
 refine⟨hn,Nat.ne_of_gt (Nat.lt_of_lt_of_le I.lt hb),I.Tz hb,.inr (Nat.le_trans I.sz hb),λx c e z=>?_,λp hp z=>?_⟩
 ·obtain⟨v,q⟩:=I.cell x c e
  exact absurd (Nat.lt_of_lt_of_le q.lt (by rw[z];exact hb)) (Nat.lt_irrefl _)
 ·exact absurd (Nat.lt_of_lt_of_le (Heap.lt_size (I.pin p hp).1) (by rw[z];exact hb)) (Nat.lt_irrefl _)
structure Turn(P:Program)(w:World)(K:PySem.W.Frag)(tg:Expr)(J:It)(fp:List Addr)(it:Addr)(tn:Nat->Heap->Prop):Prop where
 mem:it∈fp
 obj:∀i h,tn i h->∀b∈fp,∃o,h.get? b=some o/\∀v,o.data≠.cell v
 keep:∀i h h',tn i h->(∀b∈fp,∀o,h.get? b=some o->h'.get? b=some o)->tn i h'
 item:∀(X:Cx),X.prog=P->X.w=w->X.K=K->X.calm=true->∀(i:Nat) (pins:List (Addr×Obj)) (s:Shared) (σ:St) (H:Hp) (E:Value->Shared->Prop),Inv X pins σ H s->(∀b∈fp,fN X pins H b)->tn i s.heap->J.go i H ->
  wpAny (model P w) X.A (pyNext (.ref it)) (λr s1=>∃u,r=some u /\
   wpAny (model P w) X.A (letOwnedTupleGo tg (.ref it) u) (λ_ s2=>∃x H',Inv X pins σ H' s2/\RelV x u/\J.Le i H x H'/\tn (i+1) s2.heap/\∀b∈fp,H' b=none) E s1) E s
 done:∀(X:Cx),X.prog=P->X.w=w->X.K=K->X.calm=true->∀(i:Nat) (pins:List (Addr×Obj)) (s:Shared) (σ:St) (H:Hp) (E:Value->Shared->Prop),Inv X pins σ H s->(∀b∈fp,fN X pins H b)->tn i s.heap->J.stop i H ->
  wpAny (model P w) X.A (pyNext (.ref it)) (λr s1=>r=none/\Inv X pins σ H s1) E s
 self:∀(A:Around) (i:Nat) (s:Shared) (Q:Value->Shared->Prop) (E:Value->Shared->Prop),tn i s.heap->Q (.ref it) s->wpAny (model P w) A (pyIter (.ref it)) Q E s
abbrev TI:=St->Hp->(It->Hp->Prop)->Prop
def Rk(X:Cx)(pins:List (Addr×Obj))(σ:St)(tg:Expr)(R:It->Hp->Prop)(QP:Value)(s2:Shared):Prop:=
 ∃(it:Addr) (fp:List Addr) (tn:Nat->Heap->Prop) (J:It) (H':Hp),QP=.ref it/\Inv X pins σ H' s2/\Turn X.prog X.w X.K tg J fp it tn/\tn 0 s2.heap/\(∀b∈fp,fN X pins H' b)/\R J H'
def PI(X:Cx)(tg iter:Expr)(wi:TI):Prop:=
 ∀(pins:List (Addr×Obj)) (s:Shared) (σ:St) (H:Hp) (R:It->Hp->Prop),Inv X pins σ H s->wi σ H R ->
  wpAny (model X.prog X.w) X.A (eval iter X.env) (λv s1=>wpAny (model X.prog X.w) X.A (pyIter v) (Rk X pins σ tg R) X.xe s1) X.xe s
theorem yA{M:Model}{A:Around}{E:Value->Shared->Prop}{s:Shared}{tg:Expr}{it:Addr}{u:Value}{o:Obj}{n:String}{vs:Array Value}{Q:Unit->Shared->Prop}(ho:s.heap.get? it=some o)(hc:o.cls=.type n)(hd:o.data=.fields vs)
    (hn:["enumerate","zip","dict_itemiterator","dict_reverseitemiterator","odict_iterator","itertools.zip_longest","itertools.pairwise"].contains n=false) (hQ:Q () s):wpAny M A (letOwnedTupleGo tg (.ref it) u) Q E s:=by
  unfold letOwnedTupleGo;cases tg<;>first
    | exact wpAny_pure hQ
    | (cases u<;>first
        | exact wpAny_pure hQ
        | (refine wpAny_bind (wpAny_load ho ?_)
           rw[hc,hd];show wpAny M A (if(["enumerate","zip","dict_itemiterator","dict_reverseitemiterator","odict_iterator","itertools.zip_longest","itertools.pairwise"].contains n&&vs[0]?==some (rawInt _))=true then _ else _) Q E s
           rw[if_neg (by intro h;rw[hn,Bool.false_and]at h;cases h)]
           exact wpAny_pure hQ))
def Rf(K:PySem.W.Frag)(a:Addr):It:=
 ⟨λi H=>∃xs x,dP K H a xs/\xs[i]?=some x,λi H x H'=>H'=H/\∀xs,dP K H a xs->xs[i]?=some x,λi H=>∃xs,dP K H a xs/\xs.length<=i⟩
def Rg(K:PySem.W.Frag)(a:Addr):It:=
 ⟨λi H=>∃xs x,iD K H a xs/\xs[i]?=some x,λi H x H'=>H'=H/\∀xs,iD K H a xs->xs[i]?=some x,λi H=>∃xs,iD K H a xs/\xs.length<=i⟩
def Lv(lo:Int)(n:Nat):It:=⟨λi _=>i<n,λi H x H'=>H'=H/\x=.int (lo+i),λi _=>n<=i⟩
theorem wA{P:Program}{w:World}{K:PySem.W.Frag}{tg:Expr}(a it:Addr):Turn P w K tg (Rf K a) [it] it (λi h=>h.IsListIter it a i) where
 mem:=by simp
 obj:=λi h st b hb=>by
  have e:b=it:=by simpa using hb
  subst e;obtain⟨o,e,c,d⟩:=st;exact⟨o,e,λv z=>by rw[d]at z;cases z⟩
 keep:=λi h h' st k=>st.at λo e=>k it (by simp) o e
 item:=by
  intro X hP hw hK hc i pins s σ H E I hf st hg;subst hP hw hK;obtain⟨xs,x,hq,hx⟩:=hg;obtain⟨its,rv,p,hz⟩:=I.list hq;obtain⟨u,hu,ru⟩:=rv.get hx;obtain⟨f0,f1,f2,f3,f4,f5⟩:=hf it (by simp)
  refine wpAny_pyNext_list_item st p.isList (x:=u) (by simpa using hu) λh' ay sb=>?_
  have I1:Inv X pins σ H {s with heap:=h'}:=I.turned (t':=s.toks) (λb o hb e=>(sb.2 b hb).trans e) f0 f1 f3 f4 f5
  obtain⟨o,e,c,d⟩:=id ay;exact⟨u,rfl,yA (s:={s with heap:=h'}) e c d ∅ ⟨x,H,I1,ru,⟨rfl,λys hy=>by rw[I.qD hy hq];exact hx⟩,ay,λb hb=>(hf b hb).1⟩⟩
 done:=by
  intro X hP hw hK hc i pins s σ H E I hf st hg;subst hP hw hK;obtain⟨xs,hq,hx⟩:=hg;obtain⟨its,rv,p,hz⟩:=I.list hq;obtain⟨f0,f1,f2,f3,f4,f5⟩:=hf it (by simp)
  have hl:=rv.length;exact wpAny_pyNext_list_end (I.ok.hd hc) st p.isList (by simp;omega) λh' eb=>⟨rfl,I.turned (t':=s.toks) (λb o hb e=>eb b o hb e) f0 f1 f3 f4 f5⟩
 self:=λ_ _ _ _ _ st h=>wpAny_pyIter_listiter st h
theorem tI{P:Program}{w:World}{K:PySem.W.Frag}{tg:Expr}(a it:Addr):Turn P w K tg (Rg K a) [it] it (λi h=>h.IsTupleIter it a i) where
 mem:=by simp
 obj:=λi h st b hb=>by
  have e:b=it:=by simpa using hb
  subst e;obtain⟨o,e,c,d⟩:=st;exact⟨o,e,λv z=>by rw[d]at z;cases z⟩
 keep:=λi h h' st k=>st.at λo e=>k it (by simp) o e
 item:=by
  intro X hP hw hK hc i pins s σ H E I hf st hg;subst hP hw hK;obtain⟨xs,x,hq,hx⟩:=hg;obtain⟨its,rv,p,hz⟩:=I.tuple hq;obtain⟨u,hu,ru⟩:=rv.get hx;obtain⟨f0,f1,f2,f3,f4,f5⟩:=hf it (by simp)
  refine wpAny_pyNext_tuple_item st (show s.heap.IsTuple a its.toArray from p) (x:=u) (by simpa using hu) λh' ay sb=>?_
  have I1:Inv X pins σ H {s with heap:=h'}:=I.turned (t':=s.toks) (λb o hb e=>(sb.2 b hb).trans e) f0 f1 f3 f4 f5
  obtain⟨o,e,c,d⟩:=id ay;exact⟨u,rfl,yA (s:={s with heap:=h'}) e c d ∅ ⟨x,H,I1,ru,⟨rfl,λys hy=>by rw[I.mY hy hq];exact hx⟩,ay,λb hb=>(hf b hb).1⟩⟩
 done:=by
  intro X hP hw hK hc i pins s σ H E I hf st hg;subst hP hw hK;obtain⟨xs,hq,hx⟩:=hg;obtain⟨its,rv,p,hz⟩:=I.tuple hq;obtain⟨f0,f1,f2,f3,f4,f5⟩:=hf it (by simp)
  have hl:=rv.length;exact wpAny_pyNext_tuple_end (I.ok.hd hc) st (show s.heap.IsTuple a its.toArray from p) (by simp;omega) λh' eb=>⟨rfl,I.turned (t':=s.toks) (λb o hb e=>eb b o hb e) f0 f1 f3 f4 f5⟩
 self:=λ_ _ _ _ _ st h=>wpAny_pyIter_tupleiter st h
theorem tH{P:Program}{w:World}{K:PySem.W.Frag}{tg:Expr}(it:Addr)(lo:Int)(n:Nat):Turn P w K tg (Lv lo n) [it] it (λi h=>IsRangeIter h it (lo+(i:Nat)*1) ((n:Int)-(i:Nat)) 1) where
 mem:=by simp
 obj:=λi h st b hb=>by
  have e:b=it:=by simpa using hb
  subst e;exact⟨_,st,λv z=>by
   have z':Data.fields _=Data.cell v:=z;cases z'⟩
 keep:=λi h h' st k=>k it (by simp) _ st
 item:=by
  intro X hP hw hK hc i pins s σ H E I hf st hg;subst hP hw hK;obtain⟨f0,f1,f2,f3,f4,f5⟩:=hf it (by simp)
  have W:=Walks.range (prog:=X.prog) (w:=X.w) (I.ok.hd hc) it lo 1 n;refine W.item i s _ _ hg st λv h' tk hv ay kk=>?_;obtain⟨t,rfl⟩:=hv;have I1:Inv X pins σ H {s with heap:=h',toks:=tk}:=I.turned (λb o hb e=>kk b o (by simpa using hb) e) f0 f1 f3 f4 f5
  refine⟨_,rfl,yA (s:={s with heap:=h',toks:=tk}) (n:="range_iterator") ay rfl rfl ∅ ⟨.int (lo+i),H,I1,⟨t,?_⟩,⟨rfl,rfl⟩,ay,λb hb=>(hf b hb).1⟩⟩
  rw[Int.mul_one]
 done:=by
  intro X hP hw hK hc i pins s σ H E I hf st hg;subst hP hw hK;obtain⟨f0,f1,f2,f3,f4,f5⟩:=hf it (by simp)
  exact wpAny_pyNext_range_end (I.ok.hd hc) st (by have:n<=i:=hg;omega) λh' eb=>⟨rfl,I.turned (t':=s.toks) (λb o hb e=>eb b o hb e) f0 f1 f3 f4 f5⟩
 self:=λ_ _ _ _ _ st h=>wpAny_pyIter_rangeiter st h
end L2
namespace L2
open PySem PySem.Spec PyProof.Rows
section
variable {X:Cx}{tg:Expr}
theorem qR{pins:List (Addr×Obj)}{σ:St}{H:Hp}{s:Shared}{R:It->Hp->Prop}{E:Value->Shared->Prop}{lo hi:Int}{t u v:Tok}{tk:Nat}(I:Inv X pins σ H s)(h1:-(2^62)<=lo)(h2:lo<2^62)(h3:-(2^62)<=hi)(h4:hi<2^62)
  (q:R (Lv lo (hi-lo).toNat) H):wpAny (model X.prog X.w) X.A (pyIter (.ref s.heap.objs.size)) (Rk X pins σ tg R) E {s with heap:=s.heap.push {cls:=.type "range",data:=.fields #[.int lo t,.int hi u,.int 1 v]},toks:=tk}:=by
 refine wpAny_pyIter_range (IsRange.new ..) (small_one h1 h2 h3 h4) ?_;have I1:Inv X pins σ H {s with heap:=s.heap.push {cls:=.type "range",data:=.fields #[.int lo t,.int hi u,.int 1 v]},toks:=tk}:=I.kept λb o e=>Heap.get?_push_of_some _ e
 refine⟨(s.heap.push {cls:=.type "range",data:=.fields #[.int lo t,.int hi u,.int 1 v]}).objs.size,[(s.heap.push {cls:=.type "range",data:=.fields #[.int lo t,.int hi u,.int 1 v]}).objs.size],_,_,H,rfl,
  I1.kept (t':=tk) λb o e=>Heap.get?_push_of_some _ e,tH _ lo (hi-lo).toNat,?_,λb hb=>?_,q⟩
 ·have e1:lo+((0:Nat):Int)*1=lo:=by simp
  have e2:(((hi-lo).toNat:Nat):Int)-((0:Nat):Int)=Builtin.Range.rangeSize lo hi 1:=by rw[rangeSize_one];split<;>omega
  show IsRangeIter _ _ (lo+((0:Nat):Int)*1) ((((hi-lo).toNat:Nat):Int)-((0:Nat):Int)) 1;rw[e1,e2];exact Heap.get?_push_size _ rfl
 ·have e:b=(s.heap.push {cls:=.type "range",data:=.fields #[.int lo t,.int hi u,.int 1 v]}).objs.size:=by simpa using hb
  subst e;exact I1.sf (Nat.le_refl _) (I1.bI.fresh (Nat.le_refl _))
def Nz(ta:TA):TI:=λσ H R=>ta σ H λvs H1=>∃j:Int,vs=[.int j]/\-(2^62)<=j/\j<2^62/\R (Lv 0 j.toNat) H1
def NA(ta:TA):TI:=λσ H R=>ta σ H λvs H1=>∃i j:Int,vs=[.int i,.int j]/\(-(2^62)<=i/\i<2^62/\-(2^62)<=j/\j<2^62)/\R (Lv i (j-i).toNat) H1
theorem mI{a:Expr}{ta:TA}{p pos:Pos}(hg:Gl X "range")(hm:X.mg "range"=none)(ha:PA X [a] ta)(hs:starEach [a] X.env=[(false,eval a X.env)]:=by rfl):PI X tg (.Call (.Name "range" p) [a] [] pos) (Nz ta):=by
 intro pins s σ H R I h;refine Call_ (eZ I hg hm boot_range (PyProof.Rows.callWith_type1 (cq (ha pos pins s σ H _ I h) λus s1 ⟨vs,H1,I1,r1,q1⟩=>?_) hs rfl));obtain⟨j,e,q1,q2,q⟩:=q1;subst e;cases r1 with
 | cons r rr =>
  cases rr;obtain⟨t,rfl⟩:=r;exact call_range_1 (qR I1 ⋯ ⋯ q1 q2 (by simpa using q))
theorem wk{a b:Expr}{ta:TA}{p pos:Pos}(hg:Gl X "range")(hm:X.mg "range"=none)(ha:PA X [a,b] ta)(hs:starEach [a,b] X.env=[(false,eval a X.env),(false,eval b X.env)]:=by rfl)(wR:starEach [b] X.env=[(false,eval b X.env)]:=by rfl):
  PI X tg (.Call (.Name "range" p) [a,b] [] pos) (NA ta):=by
 intro pins s σ H R I h;refine Call_ (eZ I hg hm boot_range (PyProof.Rows.callWith_type1 (cq (ha pos pins s σ H _ I h) λus s1 ⟨vs,H1,I1,r1,q1⟩=>?_) (by rw[hs,wR]) (by rw[wR];rfl)))
 obtain⟨i,j,e,⟨q1,q2,q3,q4⟩,q⟩:=q1;subst e;cases r1 with
 | cons r rr =>
  cases rr with
  | cons r' rr =>
   cases rr;obtain⟨t,rfl⟩:=r;obtain⟨t',rfl⟩:=r';exact call_range_2 (qR I1 q1 q2 q3 q4 q)
def Qk(wi:TI)(g:TG)(tb:TS):TS:=λD σ H=>wi σ H λJ H1=>∃W:Nat->Nat->St->Hp->Prop,(∃m,W 0 m σ H1)/\∀i m σ H,W i m σ H ->
 (J.stop i H/\D.nx σ H)\/(J.go i H/\∃N:St->Hp->Prop,(∀bw H',N bw H'->∃m',m'<m/\W (i+1) m' bw H')/\∀x H',J.Le i H x H'->g x σ H' λbx H2=>tb {D with nx:=N,ct:=N,bk:=D.nx} bx H2)
def iZ(fp:List Addr)(h:Heap):List (Addr×Obj):=fp.filterMap λb=>(h.get? b).map λo=>(b,o)
theorem dv{fp:List Addr}{h:Heap}{b:Addr}{o:Obj}(hb:b∈fp)(e:h.get? b=some o):(b,o)∈iZ fp h:=List.mem_filterMap.mpr ⟨b,hb,by rw[e];rfl⟩
theorem vY{fp:List Addr}{h:Heap}{p:Addr×Obj}(hp:p∈iZ fp h):p.1∈fp/\h.get? p.1=some p.2:=by
 obtain⟨b,hb,e⟩:=List.mem_filterMap.mp hp;cases q:h.get? b with
 | none=>rw[q]at e;cases e
 | some o =>
  rw[q]at e;have e':(b,o)=p:=Option.some.inj e;subst e';exact⟨hb,q⟩
theorem Inv.pinned{pins:List (Addr×Obj)}{σ:St}{H:Hp}{s:Shared}{fp:List Addr}(I:Inv X pins σ H s)(hf:∀b∈fp,fN X pins H b)(ho:∀b∈fp,∃o,s.heap.get? b=some o/\∀v,o.data≠.cell v):Inv X (pins++iZ fp s.heap) σ H s:=
 I.uC λp hp=>(List.mem_append.mp hp).elim (λz=>I.pin p (List.mem_append_right _ z)) λz=>by
  obtain⟨hb,e⟩:=vY z;obtain⟨f0,f1,f2,_⟩:=hf p.1 hb;obtain⟨o,e',d⟩:=ho p.1 hb;rw[e]at e';cases e';exact⟨e,f0,f1,f2,d⟩
theorem Inv.fu{pins pl:List (Addr×Obj)}{σ:St}{H:Hp}{s:Shared}(I:Inv X (pins++pl) σ H s):Inv X pins σ H s:=I.uC λp hp=>I.pin p (List.mem_append_right _ (List.mem_append_left _ hp))
theorem sP{iter:Expr}{body:List Stmt}{wi:TI}{g:TG}{tb:TS}{pos:Pos}(hp:PassesOwn (model X.prog X.w) X.A X.env X.xe)(hc:X.calm=true)(hi:PI X tg iter wi)(hg:PG X tg g)(hb:lW X body tb)
  (hs:∀x,foldedSetIterable iter X.env x=pure x:=by intro _;rfl):PS X (.For tg iter body [] pos) (Qk wi g tb):=by
 intro pins s σ H D I h;refine wpAny_For (cq (hi pins s σ H _ I h) λv s1 h1=>cq h1 λQP s2 h2=>?_) hs;obtain⟨it,fp,tn,J,H2,e,I2,T,wu,f2,W,⟨m0,w0⟩,turn⟩:=h2;subst e
 -- what stays true of the iterator's objects through the loop
 have stat:∀ {H':Hp},(∀b∈fp,H' b=none)->∀b∈fp,fN X pins H' b:=λhn b hb=>⟨hn b hb,(f2 b hb).2⟩;refine codeAny_forLoop_any (λn s'=>∃i bw H',Inv X pins bw H' s'/\tn i s'.heap/\(∀b∈fp,H' b=none)/\W i n bw H') ?_ m0 ⟨0,σ,H2,I2,wu,λb hb=>(f2 b hb).1,w0⟩;rintro n s3 ⟨i,eK,H3,I3,Vu,KR,w3⟩;rcases turn i n eK H3 w3 with⟨stop,qn⟩|⟨go,N,hN,step⟩
 ·refine wpAny_passesOwn hp (cq (T.done X rfl rfl rfl hc i pins s3 eK H3 X.xe I3 (stat KR) Vu stop) λr s4 ⟨hr,I4⟩=>?_)
  subst hr;exact wpAny_execs_nil ⟨eK,H3,I4,qn⟩
 ·refine wpAny_passesOwn hp (cq (T.item X rfl rfl rfl hc i pins s3 eK H3 X.xe I3 (stat KR) Vu go) λr s4 ⟨u,hr,h4⟩=>?_)
  subst hr;refine wpAny_passesOwn hp (cq h4 λ_ s5 ⟨x,H5,I5,r5,y5,K8,GV⟩=>?_);have VB:=I5.pinned (stat GV) (T.obj _ _ K8);refine wpAny_passesOwn hp (cq (hg _ s5 eK H5 x u _ VB r5 (step x H5 y5)) λ_ s6 ⟨Xx,H6,I6,q6⟩=>?_);refine wpAny_passesOwn hp (cq (hb _ s6 Xx H6 _ I6 q6) λf s7 q7=>?_);have again:∀ {Bi:St} {H7:Hp},Inv X (pins++iZ fp s5.heap) Bi H7 s7->N Bi H7->∃m,m<n/\∃i bw H',Inv X pins bw H' s7/\tn i s7.heap/\(∀b∈fp,H' b=none)/\W i m bw H':=λ{Bi H7} I7 n7=>by
   obtain⟨m',hm,w7⟩:=hN Bi H7 n7;refine⟨m',hm,i+1,Bi,H7,I7.fu,T.keep _ _ _ K8 λb hb o e=>(I7.pin (b,o) (List.mem_append_right _ (List.mem_append_right _ (dv hb e)))).1,λb hb=>?_,w7⟩;obtain⟨o,e,d⟩:=T.obj _ _ K8 b hb;exact(I7.pin (b,o) (List.mem_append_right _ (List.mem_append_right _ (dv hb e)))).2.1
  cases f with
  | next=>obtain⟨Bi,H7,I7,n7⟩:=q7;exact again I7 n7
  | cont=>obtain⟨Bi,H7,I7,n7⟩:=q7;exact again I7 n7
  | brk=>obtain⟨Bi,H7,I7,q7⟩:=q7;exact⟨Bi,H7,I7.fu,q7⟩
  | ret v=>obtain⟨x7,Bi,H7,I7,r7,q7⟩:=q7;exact⟨x7,Bi,H7,I7.fu,r7,q7⟩
end
end L2
namespace L2
open PySem PySem.Spec PyProof.Rows
abbrev R2:=V->V->Hp->VK->Prop
def f6(X:Cx)(f:Value->Value->Sem Value)(r:R2):Prop:=
 ∀(pins:List (Addr×Obj)) (s:Shared) (σ:St) (H:Hp) (x y:V) (v u:Value) (Q:VK),Inv X pins σ H s->RelV x v->RelV y u->r x y H Q ->
  wpAny (model X.prog X.w) X.A (f v u) (EP X pins σ Q) X.xe s
def Rq(X:Cx)(f:Value->Sem Value)(r:V->Hp->VK->Prop):Prop:=
 ∀(pins:List (Addr×Obj)) (s:Shared) (σ:St) (H:Hp) (x:V) (v:Value) (Q:VK),Inv X pins σ H s->RelV x v->r x H Q ->
  wpAny (model X.prog X.w) X.A (f v) (EP X pins σ Q) X.xe s
def b9(X:Cx)(f:Value)(r:List V->Hp->VK->Prop):Prop:=
 ∀(pins:List (Addr×Obj)) (s:Shared) (σ:St) (H:Hp) (xs:List V) (us:List Value) (Q:VK),Inv X pins σ H s->Vals xs us->r xs H Q ->
  wpAny (model X.prog X.w) X.A (call f us) (EP X pins σ Q) X.xe s
def Ro(X:Cx)(r:V->Hp->(Bool->Hp->Prop)->Prop):Prop:=
 ∀(pins:List (Addr×Obj)) (s:Shared) (σ:St) (H:Hp) (x:V) (v:Value) (Q:Bool->Hp->Prop),Inv X pins σ H s->RelV x v->r x H Q ->
  wpAny (model X.prog X.w) X.A (truthy v) (TP X pins σ Q) X.xe s
def K9(r:R2)(ta tb:TE):TE:=λσ H Q=>ta σ H λx H1=>tb σ H1 λy H2=>r x y H2 Q
def Xm(r:V->Hp->VK->Prop)(ta:TE):TE:=λσ H Q=>ta σ H λx H1=>r x H1 Q
def rI(C:Int->Int->Prop)(g:Int->Int->V):R2:=λx y H Q=>∃i j,x=.int i/\y=.int j/\C i j/\Q (g i j) H
def Bu(g:Int->Int->V):R2:=λx y H Q=>∃i j,x=.int i/\y=.int j/\Q (g i j) H
def rU(g:Int->V):V->Hp->VK->Prop:=λx H Q=>∃i,x=.int i/\Q (g i) H
section
variable {X:Cx}{a b c:Expr}{ta tb tc:TE}{pos:Pos}
theorem FJ(ha:PE X a ta)(hb:PE X b tb){pins:List (Addr×Obj)}{s:Shared}{σ:St}{H:Hp}{R:V->V->Hp->Prop}(I:Inv X pins σ H s)
  (h:ta σ H λx H1=>tb σ H1 λy H2=>R x y H2) {Q:Value->Shared->Prop} {f:Value->Value->Sem Value}
  (hf:∀v u s2 x y H2,Inv X pins σ H2 s2->RelV x v->RelV y u->R x y H2->wpAny (model X.prog X.w) X.A (f v u) Q X.xe s2):
  wpAny (model X.prog X.w) X.A (eval a X.env) (λv bL=>wpAny (model X.prog X.w) X.A (eval b X.env) (λu Dp=>wpAny (model X.prog X.w) X.A (f v u) Q X.xe Dp) X.xe bL) X.xe s:=by
 refine cq (ha pins s σ H _ I h) λv s1 ⟨x,H1,I1,r1,q1⟩=>?_;refine cq (hb pins s1 σ H1 _ I1 q1) λu s2 ⟨y,H2,I2,r2,q2⟩=>?_;exact hf v u s2 x y H2 I2 r1 r2 q2
theorem OY{op:Operator}{r:R2}(ho:f6 X (binaryOp op) r)(ha:PE X a ta)(hb:PE X b tb):PE X (.BinOp a op b pos) (K9 r ta tb):=by
 intro pins s σ H Q I h;exact wpAny_BinOp (FJ ha hb I h λv u s2 x y H2 I2 rx ry q=>ho pins s2 σ H2 x y v u Q I2 rx ry q)
theorem OZ{op:UnaryOp}{r:V->Hp->VK->Prop}(ho:Rq X (unaryOp op) r)(ha:PE X a ta):PE X (.UnaryOp op a pos) (Xm r ta):=by
 intro pins s σ H Q I h;exact UnaryOp_ (cq (ha pins s σ H _ I h) λv s1 ⟨x,H1,I1,r1,q1⟩=>ho pins s1 σ H1 x v Q I1 r1 q1)
theorem QV{f:Value->Value->Sem Value}{C:Int->Int->Prop}{g:Int->Int->Int}
  (rule:∀(i j:Int) (t u:Tok) (s:Shared) (Q:Value->Shared->Prop) (E:Value->Shared->Prop),C i j->Q (.int (g i j) s.toks) {s with toks:=s.toks+1}->wpAny (model X.prog X.w) X.A (f (.int i t) (.int j u)) Q E s):
  f6 X f (rI C λi j=>.int (g i j)):=by
 intro pins s σ H x y v u Q I rx ry h;obtain⟨i,j,rfl,rfl,hc,q⟩:=h;obtain⟨t,rfl⟩:=rx;obtain⟨t',rfl⟩:=ry;exact rule i j t t' s _ _ hc ⟨.int (g i j),H,I.tok _,⟨_,rfl⟩,q⟩
theorem OG{f:Value->Value->Sem Value}{g:Int->Int->Int}
  (rule:∀(i j:Int) (t u:Tok) (s:Shared) (Q:Value->Shared->Prop) (E:Value->Shared->Prop),Q (.int (g i j) s.toks) {s with toks:=s.toks+1}->wpAny (model X.prog X.w) X.A (f (.int i t) (.int j u)) Q E s):
  f6 X f (Bu λi j=>.int (g i j)):=by
 intro pins s σ H x y v u Q I rx ry h;obtain⟨i,j,rfl,rfl,q⟩:=h;obtain⟨t,rfl⟩:=rx;obtain⟨t',rfl⟩:=ry;exact rule i j t t' s _ _ ⟨.int (g i j),H,I.tok _,⟨_,rfl⟩,q⟩
theorem CK{f:Value->Value->Sem Value}{g:Int->Int->Bool}
  (rule:∀(i j:Int) (t u:Tok) (s:Shared) (Q:Value->Shared->Prop) (E:Value->Shared->Prop),Q (.bool (g i j)) s->wpAny (model X.prog X.w) X.A (f (.int i t) (.int j u)) Q E s):
  f6 X f (Bu λi j=>.bl (g i j)):=by
 intro pins s σ H x y v u Q I rx ry h;obtain⟨i,j,rfl,rfl,q⟩:=h;obtain⟨t,rfl⟩:=rx;obtain⟨t',rfl⟩:=ry;exact rule i j t t' s _ _ ⟨.bl (g i j),H,I,rfl,q⟩
def Q7(i j:Int):Prop:=0<j/\j<1073741824
def pA(i j:Int):Prop:=0<=j/\j<=1000000/\i.natAbs<2^64
def eP(i j:Int):Prop:=(-(2^64)<i/\i<2^64)\/(-(2^64)<j/\j<2^64)
theorem eP.ok{i j:Int}(h:eP i j):IntMulOk i j:=by
 rcases h with⟨h1,h2⟩|⟨h1,h2⟩
 ·exact .of_left (intBits_le_64 h1 h2)
 ·exact .of_right (intBits_le_64 h1 h2)
theorem IG:f6 X (binaryOp .Add) (Bu λi j=>.int (i+j)):=OG λ_ _ _ _ _ _ _ q=>add_int q
theorem IQ:f6 X (binaryOp .Sub) (Bu λi j=>.int (i-j)):=OG λ_ _ _ _ _ _ _ q=>sub_int q
theorem IK:f6 X (binaryOp .Mult) (rI eP λi j=>.int (i*j)):=QV λ_ _ _ _ _ _ _ hc q=>mul_int q hc.ok
theorem IJ:f6 X (binaryOp .Mod) (rI (λ_ j=>0<j) λi j=>.int (i%j)):=QV λi j _ _ _ _ _ hc q=>by
 have h1:(0:Int)<j:=hc;exact mod_int' ⋯ (by rw[Int.fmod_eq_emod_of_nonneg i ⋯];exact q)
theorem IP:f6 X (binaryOp .Pow) (rI pA λi j=>.int (i^j.toNat)):=QV λ_ _ _ _ _ _ _ hc q=>pow_int_small hc.1 hc.2.1 hc.2.2 q
theorem Xp{f:Value->Sem Value}{g:Int->Int}
  (rule:∀(i:Int) (t:Tok) (s:Shared) (Q:Value->Shared->Prop) (E:Value->Shared->Prop),Q (.int (g i) s.toks) {s with toks:=s.toks+1}->wpAny (model X.prog X.w) X.A (f (.int i t)) Q E s):
  Rq X f (rU λi=>.int (g i)):=by
 intro pins s σ H x v Q I rx h;obtain⟨i,rfl,q⟩:=h;obtain⟨t,rfl⟩:=rx;exact rule i t s _ _ ⟨.int (g i),H,I.tok _,⟨_,rfl⟩,q⟩
theorem KD:Rq X (unaryOp .USub) (rU λi=>.int (-i)):=Xp λ_ _ _ _ _ q=>neg_int q
end
section
variable {X:Cx}{a b c:Expr}{ta tb tc:TE}{pos:Pos}
theorem GR{pins:List (Addr×Obj)}{σ:St}{H:Hp}{s:Shared}{Q:VK}{k k':Bool}(I:Inv X pins σ H s)(q:Q (.bl k) H)(e:k=k'):EP X pins σ Q (.bool k') s:=by
 subst e;exact⟨.bl k,H,I,rfl,q⟩
theorem OM:f6 X (compareOp .Lt) (Bu λi j=>.bl (decide (i<j))):=CK λ_ _ _ _ _ _ _ q=>lt_int q
theorem OJ:f6 X (compareOp .LtE) (Bu λi j=>.bl (decide (i<=j))):=CK λ_ _ _ _ _ _ _ q=>le_int q
theorem OI:f6 X (compareOp .Gt) (Bu λi j=>.bl (decide (j<i))):=CK λ_ _ _ _ _ _ _ q=>gt_int q
theorem OH:f6 X (compareOp .GtE) (Bu λi j=>.bl (decide (j<=i))):=CK λ_ _ _ _ _ _ _ q=>ge_int q
theorem II:f6 X (compareOp .Is) (λx y H Q=>y=.bB/\Q (.bl (decide (x=.bB))) H):=by
 intro pins s σ H x y v u Q I rx ry h;obtain⟨rfl,q⟩:=h;cases ry;refine is_none_gen (GR I q ?_);cases x<;>first
  | (cases rx;rfl)
  | (obtain⟨t,rfl⟩:=rx;rfl)
theorem f6.or{f:Value->Value->Sem Value}{r r':R2}(h:f6 X f r)(h':f6 X f r'):f6 X f (λx y H Q=>r x y H Q\/r' x y H Q):=by
 intro pins s σ H x y v u Q I rx ry q;rcases q with q|q
 ·exact h pins s σ H x y v u Q I rx ry q
 ·exact h' pins s σ H x y v u Q I rx ry q
theorem zj(b:Expr){op:CmpOp}(h:op≠.In:=by decide)(h2:op≠.NotIn:=by decide):behindInMarks op b=false:=by
 have e1:(op==CmpOp.In)=false:=by cases op<;>first|rfl|exact absurd rfl h
 have e2:(op==CmpOp.NotIn)=false:=by cases op<;>first|rfl|exact absurd rfl h2
 cases b<;>simp [behindInMarks,e1,e2]
theorem CT{op:CmpOp}{r:R2}(ho:f6 X (compareOp op) r)(ha:PE X a ta)(hb:PE X b tb)(hm:behindInMarks op b=false):PE X (.Compare a [op] [b] pos) (K9 r ta tb):=by
 intro pins s σ H Q I h;exact wpAny_Compare1 (FJ ha hb I h λv u s2 x y H2 I2 rx ry q=>ho pins s2 σ H2 x y v u Q I2 rx ry q) hm
def Qo(t:TE):TT:=λσ H Q=>t σ H λx H'=>∃k,x=.bl k/\Q k H'
theorem C3{op:CmpOp}{r:R2}(ho:f6 X (compareOp op) r)(ha:PE X a ta)(hb:PE X b tb)(hm:behindInMarks op b=false):PT X (.Compare a [op] [b] pos) (Qo (K9 r ta tb)):=by
 intro pins s σ H Q I h;refine wpAny_isTrue_Compare1 (cq (ha pins s σ H _ I h) λv s1 ⟨x,H1,I1,r1,q1⟩=>cq (hb pins s1 σ H1 _ I1 q1) λu s2 ⟨y,H2,I2,r2,q2⟩ =>
  cq (ho pins s2 σ H2 x y v u _ I2 r1 r2 q2) λc s3 ⟨z,H3,I3,r3,k,e,q3⟩=>?_) hm
 subst e;cases r3;exact wpAny_truthy_bool ⟨H3,I3,q3⟩
def LA(K:PySem.W.Frag)(x:V)(H:Hp)(k:Bool):Prop:=
 match x with
 | .bB=>k=false
 | .bl b=>k=b
 | .int i=>k=(i != 0)
 | .str y=>y.length<=sizeLine/\k=((y.length:Int) != 0)
 | .LY y=>y.size<=sizeLine/\k=((y.size:Int) != 0)
 | .ref p=>(∃xs,dP K H p xs/\k=!xs.isEmpty)\/(∃xs,iD K H p xs/\k=!xs.isEmpty)\/∃kvs,H p=some (.dK kvs)/\k=!kvs.isEmpty
 | _=>False
theorem sv{κ:Type}{kvs:List (κ×V)}{vs:List (κ×Value)}(r:KV kvs vs):(!vs.isEmpty)=!kvs.isEmpty:=by
 cases r<;>rfl
theorem km{xs:List V}{its:List Value}(r:Vals xs its):(!its.toArray.isEmpty)=!xs.isEmpty:=by
 cases r<;>simp
theorem gm:(sizeLine:Nat)<2^63:=by rw[sizeLine_eq];decide
theorem Kw:Ro X (λx H Q=>∃k,LA X.K x H k/\Q k H):=by
 intro pins s σ H x v Q I rx h;obtain⟨k,e,q⟩:=h;have hl:=gm;have hs:sizeLine=16777216:=sizeLine_eq;cases x with
 | bB =>
  cases rx;have e':k=false:=e;subst e';exact truthy_none ⟨H,I,q⟩
 | bl b =>
  cases rx;have e':k=b:=e;subst e';exact wpAny_truthy_bool ⟨H,I,q⟩
 | int i =>
  obtain⟨t,rfl⟩:=rx;have e':k=(i != 0):=e;subst e';exact PySem.P.truthy_int ⟨H,I,q⟩
 | str y =>
  obtain⟨t,rfl⟩:=rx;obtain⟨hy,e'⟩:y.length<=sizeLine/\k=((y.length:Int) != 0):=e;subst e';exact PySem.P.truthy_str ⋯ ⟨H,I.tok _,q⟩
 | LY y =>
  obtain⟨t,rfl⟩:=rx;obtain⟨hy,e'⟩:y.size<=sizeLine/\k=((y.size:Int) != 0):=e;subst e';exact PySem.W.truthy_bytes ⋯ ⟨H,I.tok _,q⟩
 | ref p =>
  cases rx;have e':(∃xs,dP X.K H p xs/\k=!xs.isEmpty)\/(∃xs,iD X.K H p xs/\k=!xs.isEmpty)\/∃kvs,H p=some (.dK kvs)/\k=!kvs.isEmpty:=e;rcases e' with⟨xs,hx,e'⟩|⟨xs,hx,e'⟩|⟨kvs,hx,e'⟩
  ·subst e'
   obtain⟨its,r,pl,hz⟩:=I.list hx;have hlen:=r.length;exact wpAny_truthy_list pl.isList (by simp only[List.size_toArray];omega) ⟨H,I.tok _,by rw[km r];exact q⟩
  ·subst e'
   obtain⟨its,r,pl,hz⟩:=I.tuple hx;have hlen:=r.length;exact truthy_tuple pl (by simp only[List.size_toArray];omega) ⟨H,I.tok _,by rw[km r];exact q⟩
  ·subst e'
   obtain⟨hz,hS,vs,r,m⟩:kvs.length<=sizeLine/\(p==sysModules)=false/\∃vs,KV kvs vs/\s.heap.DictOf (bO X.prog X.w) p vs:=I.bI p _ hx;have hlen:kvs.length=vs.length:=Paired.length r;exact wpAny_truthy_dict hS m ⋯ ⟨H,I.tok _,by rw[sv r];exact q⟩
 | _=>exact(show False from e).elim
theorem zX(ha:PE X a ta)(he:∀whole,isTrue a X.env whole=(do let v <- whole;standAt a.pos;holding [v] (truthy v))):
  PT X a (λσ H Q=>ta σ H λx H'=>∃k,LA X.K x H' k/\Q k H'):=by
 intro pins s σ H Q I h;exact isTrue_plain (cq (ha pins s σ H _ I h) λv s1 ⟨x,H1,I1,r1,q1⟩=>Kw pins s1 σ H1 x v Q I1 r1 q1) (he _)
theorem sE:f6 X (binaryOp .Add) (λx y H Q=>∃i j,x=.str i/\y=.str j/\i.length+j.length<=sizeLine/\Q (.str (i++j)) H):=by
 intro pins s σ H x y v u Q I rx ry h;obtain⟨i,j,rfl,rfl,hz,q⟩:=h;obtain⟨t,rfl⟩:=rx;obtain⟨t',rfl⟩:=ry;exact add_str (λt' tk=>⟨.str (i++j),H,I.tok _,⟨_,rfl⟩,q⟩) hz
theorem vals1{x:V}{us:List Value}(r:Vals [x] us):∃u,us=[u]/\RelV x u:=by
 cases r with
 | cons r1 r2=>cases r2;exact⟨_,rfl,r1⟩
theorem vals2{x y:V}{us:List Value}(r:Vals [x,y] us):∃u w',us=[u,w']/\RelV x u/\RelV y w':=by
 cases r with
 | cons r1 r2 =>
  cases r2 with
  | cons r3 r4=>cases r4;exact⟨_,_,rfl,r1,r3⟩
theorem xt:b9 X (.builtin "abs") (λxs H Q=>∃i,xs=[.int i]/\Q (.int (if i<0 then -i else i)) H):=by
 intro pins s σ H xs us Q I r h;obtain⟨i,rfl,q⟩:=h;obtain⟨u,rfl,t,rfl⟩:=vals1 r;exact call_abs_int λu tk=>⟨.int (if i<0 then -i else i),H,I.tok _,⟨_,rfl⟩,q⟩
theorem vo(hc:X.calm=true):b9 X (.builtin "max") (λxs H Q=>∃i j,xs=[.int i,.int j]/\Q (.int (if j>i then j else i)) H):=by
 intro pins s σ H xs us Q I r h;obtain⟨i,j,rfl,q⟩:=h;obtain⟨u,w',rfl,⟨t,rfl⟩,⟨t',rfl⟩⟩:=vals2 r;refine max_two_ints (I.ok.hd hc) λh' tk k=>⟨_,H,I.kept k,?_,q⟩
 by_cases hj:j>i
 ·rw[if_pos hj,if_pos hj];exact⟨_,rfl⟩
 ·rw[if_neg hj,if_neg hj];exact⟨_,rfl⟩
theorem vq(hc:X.calm=true):b9 X (.builtin "min") (λxs H Q=>∃i j,xs=[.int i,.int j]/\Q (.int (if j<i then j else i)) H):=by
 intro pins s σ H xs us Q I r h;obtain⟨i,j,rfl,q⟩:=h;obtain⟨u,w',rfl,⟨t,rfl⟩,⟨t',rfl⟩⟩:=vals2 r;refine min_two_ints (I.ok.hd hc) λh' tk k=>⟨_,H,I.kept k,?_,q⟩
 by_cases hj:j<i
 ·rw[if_pos hj,if_pos hj];exact⟨_,rfl⟩
 ·rw[if_neg hj,if_neg hj];exact⟨_,rfl⟩
theorem vn:b9 X (.type "int") (λxs H Q=>(∃i,xs=[.int i]/\Q (.int i) H)\/∃k,xs=[.bl k]/\Q (.int (if k then 1 else 0)) H):=by
 intro pins s σ H xs us Q I r h;rcases h with⟨i,rfl,q⟩|⟨k,rfl,q⟩
 ·obtain⟨u,rfl,t,rfl⟩:=vals1 r
  exact call_int_int ⟨.int i,H,I,⟨_,rfl⟩,q⟩
 ·obtain⟨u,rfl,r1⟩:=vals1 r
  cases r1;exact call_int_bool ⟨.int (if k then 1 else 0),H,I.tok _,⟨_,rfl⟩,q⟩
end
end L2
namespace L2
open PySem PySem.Spec PyProof.Rows
structure Fo(h:Heap)(x dx C:Addr)(mA:Str->Option Value):Prop where
 obj:h.get? x=some (PySem.W.instObj C dx)
 ns:h.Ns1 dx mA
 ne:dx≠x
theorem vT{h:Heap}{dx:Addr}{mA:Str->Option Value}(n:h.Ns1 dx mA):∃od,h.get? dx=some od/\∀name,PySem.W.lookIn name od=some (mA name):=by
 obtain⟨o,es,ep,ho,hd,hk,_,hm⟩:=n;refine⟨o,ho,λname=>?_⟩;have e:=hm name;unfold nsFind findBy at e;rw[<- Array.find?_toList]at e;unfold PySem.W.lookIn;rw[hd];dsimp only
 split
 ·rename_i y q
  rw[q]at e;exact congrArg some e
 ·rename_i q
  rw[q]at e;have a:es.toList.any (·.refKey)=false:=by
   rw[List.any_eq_false];intro y hy;obtain⟨z,t,SG⟩:=hk y (Array.mem_toList_iff.mp hy);simp [DictEntry.refKey,SG]
  have a':¬es.toList.any (·.refKey)=true:=by rw[a];exact Bool.false_ne_true
  rw[if_neg a'];exact congrArg some e
theorem Fo.look{h:Heap}{x dx C:Addr}{mA:Str->Option Value}(I:Fo h x dx C mA):∃od,PySem.W.InstAt h x (PySem.W.instObj C dx) C (some od)/\∀name,PySem.W.lookIn name od=some (mA name):=
 let ⟨od,ho,hl⟩:=vT I.ns
 ⟨od,⟨I.obj,rfl,rfl,ho⟩,hl⟩
section
variable {P:Program}{w:World}{H H':Hp}{h h':Heap}{a C dx:Addr}{fs VL:List (Str×V)}
theorem Cg(bI:fO P w H h)(e:H a=some (.ins C dx fs)):∃mA,Fo h a dx C mA/\(∀f,rS (fs.lookup f) (mA f))/\PySem.Within mA (fs.map (·.1))/\fs.length<=1000/\H dx=some (.own a):=by
 obtain⟨d,z,ne,ob,mA,n,r,q⟩:=(show bF P w H h a (.ins C dx fs)from bI a _ e)
 exact⟨mA,⟨ob,n,ne⟩,r,q,z,d⟩
end
structure Q9(K:PySem.W.Frag)(C:Addr):Prop where
 pg:PySem.W.plainGet K C Str.empty=true
 hd:PySem.W.hasDictIn K C=true
 po:PySem.W.plainOver K C=true
 sa:PySem.W.findIn K (.ref C) "__setattr__"=some (some (.builtin "object.__setattr__"))
theorem Q9.get{K:PySem.W.Frag}{C:Addr}(c:Q9 K C)(f:Str):PySem.W.plainGet K C f=true:=c.pg
section
variable {X:Cx}{o e value:Expr}{f:Str}{pos pos' tpos:Pos}{ta tv:TE}
def C5:V->V->Hp->VK->Prop:=λx y H Q=>∃i j,x=.int i/\y=.int j/\Q (.int (i+j)) H
end
section
variable {X:Cx}{pins:List (Addr×Obj)}{σ:St}{H:Hp}{s:Shared}{A:Around}{E:Value->Shared->Prop}{Q:Value->Shared->Prop}{c:Value}{b:Bool}
inductive gE (K:PySem.W.Frag)(H:Hp):V->Value->Prop where
 | bB:gE K H .bB (.type "NoneType")
 | bl (x:Bool):gE K H (.bl x) (.type "bool")
 | int (i:Int):gE K H (.int i) (.type "int")
 | str (x:Str):gE K H (.str x) (.type "str")
 | GU (x:UInt64):gE K H (.GU x) (.type "float")
 | lst {a:Addr} {xs:List V} (e:H a=some (.lst xs)):gE K H (.ref a) (.type "list")
 | mC {a:Addr} {o:Obj} {xs:List V} (e:H a=some (.mC o (.lst xs))):gE K H (.ref a) (.type "list")
 | tup {a:Addr} {xs:List V} (e:H a=some (.tup xs)):gE K H (.ref a) (.type "tuple")
 | dK {a:Addr} {kvs:List (Key×V)} (e:H a=some (.dK kvs)):gE K H (.ref a) (.type "dict")
 | dT {a:Addr} {kvs:List (List Key×V)} (e:H a=some (.dT kvs)):gE K H (.ref a) (.type "dict")
 | ins {a C dx:Addr} {fs:List (Str×V)} (e:H a=some (.ins C dx fs)) (cl:Q9 K C) (ha:PySem.W.findIn K (.ref C) "__class__"=some (some (.builtin "object.__class__")))
   (hn:PySem.W.specialIn K (.builtin "object.__class__") "__get__"=some (some (.builtin "getset_descriptor.__get__"))) (QJ:PySem.W.takesIn K (.builtin "object.__class__")=some true)
   (hm:PySem.W.mroIn K C (.type "object")=some true):gE K H (.ref a) (.ref C)
theorem vK{x:V}{u t:Value}(I:Inv X pins σ H s)(rx:RelV x u)(ty:gE X.K H x t)(e:PySem.W.kitOne X.K t c=some b)(h:∀tk,Q (.bool b) {s with toks:=tk}):
  wpAny (model X.prog X.w) A (call (.builtin "isinstance") [u,c]) Q E s:=by
 cases ty with
 | bB=>cases(show u=Value.none from rx);exact PySem.W.kia_one PySem.W.kitx_none I.pq True.intro e (λz=>nomatch z) h
 | bl y=>cases(show u=Value.bool y from rx);exact PySem.W.kia_one PySem.W.kitx_bool I.pq True.intro e (λz=>nomatch z) h
 | int i=>obtain⟨t,q⟩:=(show∃t,u=Value.int i t from rx);cases q;exact PySem.W.kia_one PySem.W.kitx_int I.pq True.intro e (λz=>nomatch z) h
 | str y=>obtain⟨t,q⟩:=(show∃t,u=Value.str y t from rx);cases q;exact PySem.W.kia_one PySem.W.kitx_str I.pq True.intro e (λz=>nomatch z) h
 | GU y=>obtain⟨t,q⟩:=(show∃t,u=Value.float y t from rx);cases q;exact PySem.W.kia_one PySem.W.kitx_float I.pq True.intro e (λz=>nomatch z) h
 | @lst a xs ea =>
  cases(show u=Value.ref a from rx)
  obtain⟨_,_,n,_,h1⟩:=(show bF X.prog X.w H s.heap a (.lst xs)from I.bI a _ ea)
  exact PySem.W.kia_one PySem.W.kitx_list I.pq ⟨_,h1,rfl⟩ e (λz=>nomatch z) h
 | @mC a ob xs ea =>
  cases(show u=Value.ref a from rx)
  obtain⟨_,_,_,n,_,h1⟩:=(show bF X.prog X.w H s.heap a (.mC ob (.lst xs))from I.bI a _ ea)
  exact PySem.W.kia_one PySem.W.kitx_list I.pq ⟨_,h1,rfl⟩ e (λz=>nomatch z) h
 | @tup a xs ea =>
  cases(show u=Value.ref a from rx)
  obtain⟨_,_,_,p⟩:=(show bF X.prog X.w H s.heap a (.tup xs)from I.bI a _ ea)
  obtain⟨o,h1,h2,_⟩:=p;exact PySem.W.kia_one PySem.W.kitx_tuple I.pq ⟨o,h1,h2⟩ e (λz=>nomatch z) h
 | @dK a kvs ea =>
  cases(show u=Value.ref a from rx)
  obtain⟨_,_,vs,_,p⟩:=(show bF X.prog X.w H s.heap a (.dK kvs)from I.bI a _ ea)
  obtain⟨o,es,ep,h1,h2,_⟩:=p;exact PySem.W.kia_one PySem.W.kitx_dict I.pq ⟨o,h1,h2.1⟩ e (λz=>nomatch z) h
 | @dT a kvs ea =>
  cases(show u=Value.ref a from rx)
  obtain⟨_,_,xs,_,o,es,ep,h1,h2,_⟩:=(show bF X.prog X.w H s.heap a (.dT kvs)from I.bI a _ ea)
  exact PySem.W.kia_one PySem.W.kitx_dict I.pq ⟨o,h1,h2.1⟩ e (λz=>nomatch z) h
 | @ins a C dx fs ea cl ha hn QJ hm =>
  cases(show u=Value.ref a from rx)
  obtain⟨mA,O,_⟩:=Cg I.bI ea;obtain⟨od,J,_⟩:=O.look;exact PySem.W.kia_one (PySem.W.kitx_own (cl.get _) cl.hd ha hn QJ hm) I.pq J e (λz=>nomatch z) h
end
end L2
namespace L2
open PySem PySem.Spec PyProof.Rows
structure fP(k:Nat)(A:Around):Prop where
 hd:A.handled=none
 dp:A.depth+3*k+5<recursionLimit
 un:A.units+16*k+200<cLine
theorem fP.mono{j k:Nat}{A:Around}(r:fP k A)(h:j<=k):fP j A:=⟨r.hd,by have:=r.dp;omega,by have:=r.un;omega⟩
theorem fP.deeper{k:Nat}{A:Around}(r:fP (k+1) A)(env:Env):fP k (A.deeper env):=
 ⟨r.hd,by have:=r.dp;show A.depth+1+3*k+5<_;omega,by have:=r.un;show A.units+3+16*k+200<_;omega⟩
theorem fP.depth{k:Nat}{A:Around}(r:fP k A):A.depth<recursionLimit:=by have:=r.dp;omega
def lN:TA:=λ_ H Q=>Q [] H
def d2(ta:TE)(tr:TA):TA:=λσ H Q=>ta σ H λx H1=>tr σ H1 λxs H2=>Q (x::xs) H2
section
variable {X:Cx}{e:Expr}{es:List Expr}{te:TE}{t:TA}{pos:Pos}
theorem bS:PA X [] lN:=λ_ _ _ _ H Q I h=>Calls.spliced_nil ⟨[],H,I,.nil,h⟩
theorem bC(ha:PE X e te)(hr:PA X es t)(hs:starEach (e::es) X.env=(false,eval e X.env)::starEach es X.env:=by rfl):PA X (e::es) (d2 te t):=by
 intro pos pins s σ H Q I h;rw[hs];show wpAny _ _ (spliced ((false,eval e X.env)::backTo pos (starEach es X.env))) _ _ s;refine Calls.spliced_cons (cq (ha pins s σ H _ I h) λu s1 ⟨x,H1,I1,r1,q1⟩=>?_);exact cq (hr pos pins s1 σ H1 _ I1 q1) λus s2 ⟨xs,H2,I2,r2,q2⟩=>⟨x::xs,H2,I2,.cons r1 r2,q2⟩
def Kh(t:TA):TE:=λσ H Q=>t σ H λxs H1=>xs.length<=sizeLine/\∀p,H1 p=none->Q (.ref p) (upd H1 p (.tup xs))
def Dt(t:TA):TE:=λσ H Q=>t σ H λxs H1=>xs.length<=sizeLine/\∀p,H1 p=none->Q (.ref p) (upd H1 p (.lst xs))
theorem zJ{x1}(h:PA X es t):PE X (.Tuple es x1 pos) (Kh t):=by
 intro pins s σ H Q I hq;refine wpAny_Tuple_spliced (cq (h pos pins s σ H _ I hq) λus s1 ⟨xs,H1,I1,r,z,q⟩=>⟨by rw[<- r.length];exact z,?_⟩)
 have hf:H1 s1.heap.objs.size=none:=I1.bI.fresh (Nat.le_refl _);refine⟨.ref s1.heap.objs.size,upd H1 s1.heap.objs.size (.tup xs),I1.laid (t':=s1.toks) (λb u e=>Heap.get?_push_of_some _ e) (Nat.le_refl _) ?_,rfl,q _ hf⟩;exact⟨z,us,r,⟨_,Heap.get?_push_size _ rfl,rfl,_,rfl⟩⟩
theorem gq(h:PA X es t):PE X (.List es pos) (Dt t):=by
 intro pins s σ H Q I hq;refine wpAny_List_spliced (cq (h pos pins s σ H _ I hq) λus s1 ⟨xs,H1,I1,r,z,q⟩=>⟨by rw[<- r.length];exact z,?_⟩)
 have hf:H1 s1.heap.objs.size=none:=I1.bI.fresh (Nat.le_refl _);refine⟨.ref s1.heap.objs.size,upd H1 s1.heap.objs.size (.lst xs),I1.laid (t':=s1.toks) (λb u e=>Heap.get?_push_of_some _ e) (Nat.le_refl _) ?_,rfl,q _ hf⟩;exact⟨z,us,0,r,Heap.get?_push_size _ rfl⟩
end
abbrev Sp:=List V->Hp->VK->XK->Prop
abbrev wH:=List Env->Hp->Shared->XK->Value->Shared->Prop
structure BA(P:Program)(w:World)(K:PySem.W.Frag)(mg:Str->Option Value)(base:Heap)(A:Around)(outer:List Env)(s:Shared)(H:Hp):Prop where
 frames:A.frames=some outer
 mod:Mod K mg base
 bs:∀b o,base.get? b=some o->s.heap.get? b=some o/\H b=none
 Bm:base.objs.size<=s.heap.objs.size
 jF:s.heap.FunFrames base outer
 GW:∀b∈yx outer,H b=none
 bI:fO P w H s.heap
 bare:AllBare s.gens
def CE(outer:List Env)(P:Program)(w:World)(H:Hp)(s:Shared)(Q:VK)(u:Value)(s':Shared):Prop:=
 ∃v H',s'.os=s.os/\AllBare s'.gens/\Un (yx outer) [] H H' s.heap s'.heap/\fO P w H' s'.heap/\RelV v u/\Q v H'
def CR(CX:wH)(outer:List Env)(P:Program)(w:World)(H:Hp)(s:Shared)(Q:VK)(E:XK)(r:Result)(s':Shared):Prop:=
 match r with
 | .ok (.ret u)=>CE outer P w H s Q u s'
 | .ok _=>False
 | .error e=>CX outer H s E e s'
structure di(P:Program)(w:World)(K:PySem.W.Frag)(mg:Str->Option Value)(base:Heap)(CX:wH)(k:Nat)(f:Addr)(fd:FuncData)(ps:List Str)(sp:Sp):Prop where
 len:∀vs H Q E,sp vs H Q E->vs.length=ps.length
 run:∀(A:Around) (outer:List Env) (s:Shared) (H:Hp) (args:Args) (us:List Value) (vs:List V) (Q:VK) (E:XK),fP k A->BA P w K mg base A outer s H->BindsTo s fd args (ps.zip us)->Vals vs us->sp vs H Q E ->
  codeAny (model P w) A (.call (.ref f) args) (CR CX outer P w H s Q E) s
theorem di.mono{P:Program}{w:World}{K:PySem.W.Frag}{mg:Str->Option Value}{base:Heap}{CX:wH}{j k:Nat}{f:Addr}{fd:FuncData}{ps:List Str}{sp:Sp}(F:di P w K mg base CX j f fd ps sp)(h:j<=k):
  di P w K mg base CX k f fd ps sp:=⟨F.len,λA outer s H args us vs Q E hr=>F.run A outer s H args us vs Q E (hr.mono h)⟩
theorem di.imp{P:Program}{w:World}{K:PySem.W.Frag}{mg:Str->Option Value}{base:Heap}{CX:wH}{k:Nat}{f:Addr}{fd:FuncData}{ps:List Str}{sp Qc:Sp}(F:di P w K mg base CX k f fd ps sp)
  (h:∀vs H Q E,Qc vs H Q E->sp vs H Q E):di P w K mg base CX k f fd ps Qc:=
 ⟨λvs H Q E q=>F.len vs H Q E (h _ _ _ _ q),λA outer s H args us vs Q E hr he hb hv hs=>F.run A outer s H args us vs Q E hr he hb hv (h _ _ _ _ hs)⟩
section
variable {X:Cx}{pins:List (Addr×Obj)}{σ:St}{H:Hp}{s s':Shared}
theorem Inv.RT(I:Inv X pins σ H s):BA X.prog X.w X.K X.mg X.base X.A X.stack s H:=
 ⟨I.ok.frames,I.ok.mod,I.bs,Nat.le_trans I.ok.Bm I.sz,I.stack,I.u5,I.bI,I.bare⟩
theorem Inv.after{Q:VK}{u:Value}(I:Inv X pins σ H s)(h:CE X.stack X.prog X.w H s Q u s'):EP X pins σ Q u s':=by
 obtain⟨v,H',os,bare,un,bI,r,q⟩:=h;obtain⟨hh,g,d,t,W5⟩:=s';obtain rfl:W5=s.os:=os;exact⟨v,H',I.call (h':=hh) (g':=g) (d':=d) (t':=t) (ch:=[]) un bI bare (λb z=>absurd z (by simp)),r,q⟩
end
def Qi(sp:Sp)(dvs:List V)(E:XK)(t:TA):TE:=λσ H Q=>t σ H λvs H1=>sp (vs++dvs) H1 Q E
def Binds(K:PySem.W.Frag)(fd:FuncData)(ps:List Str)(ds:List Value):Prop:=
 ∀(s:Shared) (us:List Value),K.In s.heap->(us++ds).length=ps.length->BindsTo s fd ⟨us,[]⟩ (ps.zip (us++ds))
theorem Binds.all{K:PySem.W.Frag}{fd:FuncData}{ps:List Str}(h:∀us:List Value,us.length=ps.length->bindArgs fd ⟨us,[]⟩=pure (ps.zip us)):Binds K fd ps []:=λs us _ hl=>by
 rw[List.append_nil]at hl ⊢;exact .of_eq (h us hl)
def Passes(CX:wH)(X:Cx)(E:XK):Prop:=∀(pins:List (Addr×Obj)) (σ:St) (H:Hp) (s:Shared) (e:Value) (s':Shared),Inv X pins σ H s->CX X.stack H s E e s'->X.xe e s'
section
variable {X:Cx}{CX:wH}{k:Nat}{f C:Addr}{fd:FuncData}{ps:List Str}{sp:Sp}{dvs:List V}{ds:List Value}{E:XK}{x m:Str}{p pos apos:Pos}{e o:Expr}{es:List Expr}{ta:TE}{t:TA}
theorem JD{pins:List (Addr×Obj)}{σ:St}{H:Hp}{s:Shared}{Q:VK}{us:List Value}{vs:List V}(F:di X.prog X.w X.K X.mg X.base CX k f fd ps sp)(hr:fP k X.A)(hb:Binds X.K fd ps ds)(hd:Vals dvs ds)(hx:Passes CX X E)
  (I:Inv X pins σ H s) (r:Vals vs us) (h:sp (vs++dvs) H Q E):wpAny (model X.prog X.w) X.A (call (.ref f) us) (EP X pins σ Q) X.xe s:=by
 have r2:Vals (vs++dvs) (us++ds):=r.append hd;have hl:(us++ds).length=ps.length:=by rw[<- r2.length];exact F.len _ _ _ _ h
 refine wpAny_call (codeAny_mono (F.run X.A X.stack s H ⟨us,[]⟩ (us++ds) (vs++dvs) Q E hr I.RT (hb s us I.pq hl) r2 h) λr s' hq=>?_);cases r with
 | error e=>exact hx pins σ H s e s' I hq
 | ok fl =>
  cases fl with
  | ret u=>exact I.after hq
  | next=>exact False.elim hq
  | brk=>exact False.elim hq
  | cont=>exact False.elim hq
theorem jN(F:di X.prog X.w X.K X.mg X.base CX k f fd ps sp)(hr:fP k X.A)(hg:Gl X x)(hm:X.mg x=some (.ref f))(hk:PySem.W.keepIn X.K (.ref f)=true)(hb:Binds X.K fd ps ds)(hd:Vals dvs ds)(hx:Passes CX X E)
  (ha:PA X (e::es) t) (nN:(x==("__debug__":Str))=false:=by decide) (he:starEach (e::es) X.env=(false,eval e X.env)::starEach es X.env:=by rfl) (dQ:(backTo pos (starEach es X.env)).any (·.1)=false:=by rfl):
  PE X (.Call (.Name x p) (e::es) [] pos) (Qi sp dvs E t):=by
 intro pins s σ H Q I h;refine wpAny_Call_Name_kw (uq I hg hm ?_ nN);refine PySem.W.callWith_K (h₀:=X.base) I.ok.mod.Tc hk (cq (ha pos pins s σ H _ I h) λus s1 ⟨vs,H1,I1,r,q⟩=>⟨I1.pq,?_⟩) he dQ;exact JD F hr hb hd hx I1 r q
end
structure aP(N P:List Str)(sc:Scope):Prop where
 kind:sc.kind=.function
 co:sc.isCoroutine=false
 gen:sc.isGenerator=false
 nd:N.Nodup
 pre:N.take P.length=P
 par:∀x∈P,sc.names.lookup x=some .local\/sc.names.lookup x=some .cell
 HU:∀y∈sc.names,y.2≠.free
theorem mh{kindOf:Str->Option NameKind}{x:Str}:∀ {binds:List (Str×Value)} {m:Str->Option Value},(∀v,(x,v)∉binds)->bindL kindOf binds m x=m x
 | [],_,_=>rfl
 | (n,v)::r,m,h=>by
  unfold bindL;rw[mh λw hw=>h w (List.mem_cons_of_mem _ hw)]
  split
  ·have:x≠n:=by rintro rfl;exact h v List.mem_cons_self
   simp [this]
  ·rfl
theorem md{kindOf:Str->Option NameKind}{x:Str}:∀ {binds:List (Str×Value)} {m:Str->Option Value},(∀v,(x,v)∉binds)->bindC kindOf binds m x=m x
 | [],_,_=>rfl
 | (n,v)::r,m,h=>by
  unfold bindC;rw[md λw hw=>h w (List.mem_cons_of_mem _ hw)]
  split
  ·rfl
  ·have:x≠n:=by rintro rfl;exact h v List.mem_cons_self
   simp [this]
theorem me{kindOf:Str->Option NameKind}{x:Str}{v:Value}:∀ {P:List Str} {vs:List Value} {i:Nat} {m:Str->Option Value},P.Nodup->P[i]?=some x->vs[i]?=some v->kindOf x=some .local ->
  bindL kindOf (P.zip vs) m x=some v
 | [],_,_,_,_,h,_,_=>by simp at h
 | _::_,[],_,_,_,_,h,_=>by simp at h
 | p::P,w::vs,0,m,nd,h1,h2,hk=>by
  simp at h1 h2;subst h1;subst h2;show bindL kindOf ((p,w)::P.zip vs) m p=_;unfold bindL;rw[mh λv hv=>(List.nodup_cons.mp nd).1 (List.of_mem_zip hv).1,if_pos hk];simp
 | p::P,w::vs,i+1,m,nd,h1,h2,hk=>by
  show bindL kindOf ((p,w)::P.zip vs) m x=_;unfold bindL;exact me (i:=i) (List.nodup_cons.mp nd).2 (by simpa using h1) (by simpa using h2) hk
theorem l0{kindOf:Str->Option NameKind}{x:Str}{v:Value}:∀ {P:List Str} {vs:List Value} {i:Nat} {m:Str->Option Value},P.Nodup->P[i]?=some x->vs[i]?=some v->kindOf x≠some .local ->
  bindC kindOf (P.zip vs) m x=some v
 | [],_,_,_,_,h,_,_=>by simp at h
 | _::_,[],_,_,_,_,h,_=>by simp at h
 | p::P,w::vs,0,m,nd,h1,h2,hk=>by
  simp at h1 h2;subst h1;subst h2;show bindC kindOf ((p,w)::P.zip vs) m p=_;unfold bindC;rw[md λv hv=>(List.nodup_cons.mp nd).1 (List.of_mem_zip hv).1,if_neg hk];simp
 | p::P,w::vs,i+1,m,nd,h1,h2,hk=>by
  show bindC kindOf ((p,w)::P.zip vs) m x=_;unfold bindC;exact l0 (i:=i) (List.nodup_cons.mp nd).2 (by simpa using h1) (by simpa using h2) hk
def start(N:List Str)(vs:List V):St:=vs.map some++List.replicate (N.length-vs.length) none
def nC(CX:wH)(P:Program)(w:World)(K:PySem.W.Frag)(mg:Str->Option Value)(base:Heap)(N:List Str)(qual:Str)(scope:Scope)(f:Addr)(cd:Value)(A:Around)(outer:List Env)(s:Shared)(H:Hp)(E:XK):Cx where
 prog:=P
 w:=w
 K:=K
 mg:=mg
 base:=base
 A:=A.deeper (envOfC qual scope s.heap.objs.size f cd)
 N:=N
 cG:=s
 rR:=H
 env:=envOfC qual scope s.heap.objs.size f cd
 outer:=outer
 stack:=envOfC qual scope s.heap.objs.size f cd::outer
 ex:=[]
 calm:=true
 fn:=λ_=>true
 pn:=[]
 xe:=λe s'=>wpAny (model P w) (A.deeper (envOfC qual scope s.heap.objs.size f cd)) (leaving (envOfC qual scope s.heap.objs.size f cd) e) (λ_ Pu=>CX outer H s E e Pu) (λe' Pu=>CX outer H s E e' Pu) s'
theorem pH{sc:Scope}{n:Nat}{x:Str}(h:sc.names.lookup x=some .cell):∃c,(cellsFrom n sc.names []).lookup x=some c:=by
 have q:=PySem.W.cellsFrom_some sc.names n [] (.inl h);exact Option.isSome_iff_exists.mp q
theorem vI{CX:wH}{P:Program}{w:World}{K:PySem.W.Frag}{mg:Str->Option Value}{base:Heap}{N ps:List Str}{qual:Str}{scope:Scope}{f:Addr}{cd:Value}{A:Around}{outer:List Env}{s s1:Shared}{H:Hp}{E:XK}{us:List Value}{vs:List V}
  (S:aP N ps scope) (hd:A.handled=none) (e0:BA P w K mg base A outer s H) (hl:vs.length=ps.length) (r:Vals vs us)
  (x:InCallC s s.heap.objs.size (bindL (envOfC qual scope s.heap.objs.size f cd).kindOf (ps.zip us) λ_=>none) (cellsFrom (s.heap.objs.size+1) scope.names []) (bindC (envOfC qual scope s.heap.objs.size f cd).kindOf (ps.zip us) λ_=>none) s1):
  Inv (nC CX P w K mg base N qual scope f cd A outer s H E) [] (start N vs) H s1:=by
 have dQ:ps.length<=N.length:=by have:=congrArg List.length S.pre;rw[List.length_take]at this;omega
 obtain⟨h1,tk,rfl,hk⟩:=x.done;have N7:∀b:Addr,b∉(nC CX P w K mg base N qual scope f cd A outer s H E).ex:=λb z=>absurd (show b∈([]:List Addr)from z) (by simp)
 refine⟨⟨e0.mod,S.kind,rfl,rfl,Nat.le_refl _,λy z c h1 h2=>?_,λy hy=>?_,λy c _ h=>?_,λ_=>hd,Around.frames_deeper e0.frames,.inr ⟨rfl,rfl⟩,λb z=>absurd z (N7 b),e0.bs,e0.Bm,λb _ _=>N7 b,λb z=>absurd z (N7 b),e0.jF,e0.GW⟩,
  rfl,e0.bare,Un.kept hk,⟨_,x.toInCall.ns,λi y v h1 h2 h3=>?_⟩,λy c h=>⟨_,x.cell y c h⟩,e0.bI.fresh (Nat.le_refl _),λy c h=>?_,λp hp=>absurd (show p∈([]:List (Addr×Obj))from hp) (by simp),e0.bI.kept hk,?_⟩
 ·exact name_of_addr x.apart (PySem.mem_of_lookup h1) (PySem.mem_of_lookup h2)
 ·have hy:scope.names.lookup y=some .cell\/scope.names.lookup y=some .free:=hy
  rcases hy with hy|hy
  ·exact pH hy
  ·exact absurd rfl (S.HU _ (PySem.mem_of_lookup hy))
 ·exact Nat.le_of_lt (x.above y c (PySem.mem_of_lookup h))
 ·have hi:i<vs.length:=by
   unfold start at h2
   by_cases hi:i<vs.length
   ·exact hi
   ·rw[List.getElem?_append_right (by simpa using hi)]at h2
    rw[List.getElem?_replicate]at h2
    split at h2<;>cases h2
  have ha:vs[i]?=some v:=by
   unfold start at h2;rw[List.getElem?_append_left (by simpa using hi),List.getElem?_map]at h2
   cases e:vs[i]? with
   | none=>rw[e]at h2;cases h2
   | some a=>rw[e]at h2;cases h2;rfl
  obtain⟨u,hu,rv⟩:=r.get ha;have hp:ps[i]?=some y:=by
   rw[<- S.pre,List.getElem?_take_of_lt ⋯];exact h1
  have Vk:ps.Nodup:=by rw[<- S.pre];exact S.nd.sublist (List.take_sublist _ _)
  refine⟨u,rv,?_⟩;rcases S.par y (List.mem_of_getElem? hp)with k|k
  ·exact .inl ⟨k,me Vk hp hu k⟩
  ·obtain⟨c,e⟩:=pH (n:=s.heap.objs.size+1) k
   refine .inr ⟨.inl k,c,e,?_⟩;have q:=x.cell y c e;rw[l0 Vk hp hu (by show scope.names.lookup y≠_;rw[k];decide)]at q
   exact q
 ·exact e0.bI.fresh (Nat.le_of_lt (x.above y c (PySem.mem_of_lookup h)))
 ·unfold start
  show _=N.length;rw[List.length_append,List.length_map,List.length_replicate];omega
theorem MV{CX:wH}{P:Program}{w:World}{K:PySem.W.Frag}{mg:Str->Option Value}{base:Heap}{k:Nat}{f:Addr}{name qual:Str}{params:Arguments}{body:List Stmt}{scope:Scope}{dV kV doc pm gB ct oc:Value}{an od:Option Addr}
  {CO:Array (Option Value)} {N ps:List Str} {sp:Sp} (lk:K.lookup f=some ⟨oc,od,.func (PySem.W.fnOf name qual params body scope dV kV doc pm an gB ct),CO⟩) (qm:PySem.W.codeIn K gB qual=true) (S:aP N ps scope)
  (len:∀vs H Q E,sp vs H Q E->vs.length=ps.length)
  (yN:∀(A:Around) (outer:List Env) (s:Shared) (H:Hp) (vs:List V) (Q:VK) (E:XK),fP k (A.deeper (envOfC qual scope s.heap.objs.size f gB))->sp vs H Q E ->
   ∃t,lW (nC CX P w K mg base N qual scope f gB A outer s H E) body t/\t {nx:=λ_ H'=>Q .bB H',rt:=Q} (start N vs) H):
  di P w K mg base CX (k+1) f (PySem.W.fnOf name qual params body scope dV kV doc pm an gB ct) ps sp:=by
 refine⟨len,λA outer s H args us vs Q E hr e0 hb r Ep=>?_⟩;have hl:=len _ _ _ _ Ep;have KX:K.In s.heap:=e0.mod.Tc.keeps λb o e=>(e0.bs b o e).1;have lim:s.heap.NoLimit:=e0.mod.nolimit.keeps λb o e=>(e0.bs b o e).1;have Ni:∀y∈ps.zip us,scope.names.lookup y.1=some .local\/(scope.names.lookup y.1=some .cell/\((cellsFrom (s.heap.objs.size+1) scope.names []).lookup y.1).isSome=true):=λ⟨n,v⟩ hy=>by
  rcases S.par n (List.of_mem_zip hy).1 with q|q
  ·exact .inl q
  ·exact .inr ⟨q,PySem.W.cellsFrom_some _ _ _ (.inl q)⟩
 refine codeAny_call_function hr.depth (KX _ _ lk) rfl S.co S.gen rfl (PySem.W.codeRec_of KX qm) (hb _ _ _ _ ?_);refine wpAny_newFunctionEnv_cells S.kind Ni λenv he s1 x=>?_;subst he;refine⟨lim.keeps x.toInCall.keep,codeAny_func ?_⟩;obtain⟨t,ht,hq⟩:=yN A outer s H vs Q E (hr.deeper _) Ep;have I:Inv (nC CX P w K mg base N qual scope f gB A outer s H E) [] (start N vs) H s1:=vI S hr.hd e0 hl r x;refine wpAny_mono (ht [] s1 (start N vs) H _ I hq) (λfl s' hs=>?_) λe s' hs=>hs;have fin:∀ {bw:St} {H':Hp} {v:V} {u:Value},Inv (nC CX P w K mg base N qual scope f gB A outer s H E) [] bw H' s'->RelV v u->Q v H'->CE outer P w H s Q u s':=
  λ{bw H' v u} J rv q=>⟨v,H',J.os,J.bare,J.base,J.bI,rv,q⟩
 cases fl with
 | ret u =>
  obtain⟨v,bw,H',J,rv,q⟩:=hs;exact fin J rv q
 | next =>
  obtain⟨bw,H',J,q⟩:=hs;exact fin (v:=V.bB) (u:=Value.none) J rfl q
 | brk =>
  obtain⟨_,_,_,q⟩:=hs;exact False.elim q
 | cont =>
  obtain⟨_,_,_,q⟩:=hs;exact False.elim q
end L2
namespace L2
open PySem PySem.Spec PyProof.Rows
section
variable {X:Cx}{x:Str}{p pos:Pos}{e:Expr}{es:List Expr}{t:TA}{id T:String}{r:List V->Hp->VK->Prop}
def T7(r:List V->Hp->VK->Prop)(t:TA):TE:=λσ H Q=>t σ H λvs H1=>r vs H1 Q
theorem kM(hc:b9 X (.builtin id) r)(hg:Gl X x)(hm:X.mg x=none)(hv:bootBuiltins x=some (.builtin id))(ha:PA X (e::es) t)(hn:x≠"__name__":=by decide)(nN:(x==("__debug__":Str))=false:=by decide)
  (he:starEach (e::es) X.env=(false,eval e X.env)::starEach es X.env:=by rfl) (dQ:(backTo pos (starEach es X.env)).any (·.1)=false:=by rfl):PE X (.Call (.Name x p) (e::es) [] pos) (T7 r t):=by
 intro pins s σ H Q I h;refine wpAny_Call_Name_kw (eZ I hg hm hv ?_ hn nN);exact PyProof.Rows.callWith_builtin1 (cq (ha pos pins s σ H _ I h) λus s1 ⟨vs,H1,I1,r1,q1⟩=>hc pins s1 σ H1 vs us Q I1 r1 q1) he dQ
theorem fH(hc:b9 X (.type T) r)(hg:Gl X x)(hm:X.mg x=none)(hv:bootBuiltins x=some (.type T))(ha:PA X (e::es) t)(hn:x≠"__name__":=by decide)(nN:(x==("__debug__":Str))=false:=by decide)
  (he:starEach (e::es) X.env=(false,eval e X.env)::starEach es X.env:=by rfl) (dQ:(backTo pos (starEach es X.env)).any (·.1)=false:=by rfl):PE X (.Call (.Name x p) (e::es) [] pos) (T7 r t):=by
 intro pins s σ H Q I h;refine wpAny_Call_Name_kw (eZ I hg hm hv ?_ hn nN);exact PyProof.Rows.callWith_type1 (cq (ha pos pins s σ H _ I h) λus s1 ⟨vs,H1,I1,r1,q1⟩=>hc pins s1 σ H1 vs us Q I1 r1 q1) he dQ
end
end L2
namespace HT
open PySem PyProof.Rows
def lexLt:List Int->List Int->Bool
 | [],[]=>false
 | [],_::_=>true
 | _::_,[]=>false
 | x::xs,y::ys=>if x=y then lexLt xs ys else decide (x<y)
theorem eA(x y:Int)(xs ys:List Int):lexLt (x::xs) (y::ys)=if x=y then lexLt xs ys else decide (x<y):=rfl
theorem ku(y:Int)(ys:List Int):lexLt [] (y::ys)=true:=rfl
theorem kr(x:Int)(xs:List Int):lexLt (x::xs) []=false:=rfl
section
variable {prog:Program}{w:World}{A:Around}{E:Value->Shared->Prop}{s:Shared}
theorem BL{t b:Addr}{vs ws:List Value}{Q:Value->Shared->Prop}(ht:IsTup s.heap t vs.toArray)(hb:IsTup s.heap b ws.toArray)(hv:vs≠[])
  (h1:ws=[]->Q (.ref t) s) (h2:ws≠[]->Q (.ref s.heap.objs.size) {s with heap:=s.heap.push {cls:=.type "tuple",data:=.seq (vs++ws).toArray}})
  (hsz:vs.length+ws.length<=sizeLine):wpAny (model prog w) A (binaryOp .Add (.ref t) (.ref b)) Q E s:=by
 obtain⟨⟨cls,dd,data,sl⟩,ho,hc,n,hd⟩:=id ht;obtain⟨⟨VF,UC,data2,Vt⟩,KZ,Sj,n2,hd2⟩:=id hb;simp only at hc hd Sj hd2;subst hc hd Sj hd2;have e:vs.toArray++ws.toArray=(vs++ws).toArray:=by simp
 by_cases hw:ws=[]
 ·exact concat_meets ⟨_,ho,rfl⟩ ⟨_,KZ,rfl⟩ noFill_tuple_add seq_tuple_add PySem.F.slot_tuple_add PySem.F.entry_tuple_add (PySem.F.args_tuple_add_2 _ _)
   (tuple_addW1 t b vs.toArray ws.toArray n n2 dd UC sl Vt (by simpa using hv) (by simp [hw])) ⟨ho,KZ,h1 hw⟩
 ·refine concat_meets ⟨_,ho,rfl⟩ ⟨_,KZ,rfl⟩ noFill_tuple_add seq_tuple_add PySem.F.slot_tuple_add PySem.F.entry_tuple_add (PySem.F.args_tuple_add_2 _ _)
   (tuple_addW2 t b vs.toArray ws.toArray n n2 dd UC sl Vt (by simpa using hv) (by simpa using hw) (by rw[List.size_toArray,List.size_toArray];exact hsz)) ⟨ho,KZ,?_⟩
  rw[e];exact h2 hw
def cR(n d:Nat):Option Int->Nat
 | none=>d
 | some v=>if v<0 then(v+(n:Int)).toNat else min v.toNat n
theorem JE(n d:Nat)(hd:d<=n)(o:Option Int):cR n d o<=n:=by
 cases o with
 | none=>exact hd
 | some v =>
  show(if v<0 then(v+(n:Int)).toNat else min v.toNat n)<=n
  by_cases hv:v<0
  ·rw[if_pos hv];omega
  ·rw[if_neg hv];exact Nat.min_le_right _ _
theorem tP(v:Int)(n d:Nat):(if v<0 then max (v+(n:Int)) 0 else min v (n:Int))=((cR n d (some v):Nat):Int):=by
 show(if v<0 then max (v+(n:Int)) 0 else min v (n:Int))=(((if v<0 then(v+(n:Int)).toNat else min v.toNat n):Nat):Int)
 by_cases hv:v<0
 ·simp only[if_pos hv];omega
 ·simp only[if_neg hv];omega
theorem rW(lo hi:Option Int)(n:Nat):Builtin.Slice.sliceAdjust lo hi 1 (n:Int)=(((cR n 0 lo:Nat):Int),((cR n n hi:Nat):Int)):=by
 have h1:¬((1:Int)<0):=by omega
 unfold Builtin.Slice.sliceAdjust;simp only[h1,if_false];refine Prod.ext ?_ ?_
 ·cases lo with
  | none=>rfl
  | some v=>exact tP v n 0
 ·cases hi with
  | none=>rfl
  | some v=>exact tP v n n
theorem sL(i j:Nat):Builtin.Slice.slicePlaces (i:Int) (j:Int) 1=j-i:=by
 unfold Builtin.Slice.slicePlaces;have h1:(1:Int)>0:=by omega
 simp only[h1,if_true,Int.ediv_one]
 split<;>omega
theorem kR{v:Value}{o:Option Int}{Q:Option Int->Shared->Prop}(p:IsPart v o)(h:Q o s):wpAny (model prog w) A (Builtin.Slice.slicePartIndex v) Q E s:=by
 cases p with
 | none=>exact slicePart_none h
 | int i t=>exact slicePart_int h
theorem i6{sl:Addr}{vl vu:Value}{lo hi:Option Int}{n:Nat}{Q:Int×Int×Nat->Shared->Prop}(hs:s.heap.IsSliceOf sl vl vu .none)(pl:IsPart vl lo)(pu:IsPart vu hi)
  (h:Q (((cR n 0 lo:Nat):Int),1,cR n n hi-cR n 0 lo) s):wpAny (model prog w) A (Builtin.Slice.sliceApplied (.ref sl) (pure (n:Int))) Q E s:=by
 obtain⟨os,Np,UK,QC⟩:=id hs;unfold Builtin.Slice.sliceApplied Builtin.Slice.sliceFields;refine wpAny_bind (wpAny_bind (wpAny_field Np QC (x:=vl) rfl (wpAny_bind (wpAny_field Np QC (x:=vu) rfl (wpAny_bind (wpAny_field Np QC (x:=.none) rfl (wpAny_pure ?_)))))));refine wpAny_bind (slicePart_none ?_);show wpAny _ _ (if((1:Int)==0)=true then _ else _) _ _ s
 rw[if_neg ∅]
 refine wpAny_bind (kR pl (wpAny_bind (kR pu (wpAny_bind (wpAny_pure ?_)))));show wpAny _ _ (match Builtin.Slice.sliceAdjust lo hi 1 (n:Int)with | (lo,hi)=>pure (lo,(1:Int),Builtin.Slice.slicePlaces lo hi 1)) _ _ s
 rw[rW lo hi n];show wpAny _ _ (pure (((cR n 0 lo:Nat):Int),(1:Int),Builtin.Slice.slicePlaces ((cR n 0 lo:Nat):Int) ((cR n n hi:Nat):Int) 1)) _ _ s;rw[sL];exact wpAny_pure h
theorem zO(xs:Array Value)(i k:Nat):((List.range k).filterMap λ(m:Nat)=>xs[((i:Int)+(m:Int)*1).toNat]?).toArray=((xs.toList.drop i).take k).toArray:=by
 have e:(λ(m:Nat)=>xs[((i:Int)+(m:Int)*1).toNat]?)=λm=>xs[i+m]?:=by
  funext m;have:((i:Int)+(m:Int)*1).toNat=i+m:=by omega
  rw[this]
 rw[e];have:=pick_run xs i k;rw[List.filterMap_map]at this;have e2:((λx=>xs[x]?) ∘ λx=>i+x)=λm=>xs[i+m]?:=rfl;rw[e2]at this;rw[this]
theorem gM{t sl:Addr}{items:Array Value}{vl vu:Value}{lo hi:Option Int}{Q:Value->Shared->Prop}(ht:IsTup s.heap t items)(hs:s.heap.IsSliceOf sl vl vu .none)(pl:IsPart vl lo)(pu:IsPart vu hi)
  (hw:¬(cR items.size 0 lo=0/\cR items.size items.size hi=items.size))
  (h:Q (.ref s.heap.objs.size) {s with heap:=s.heap.push {cls:=.type "tuple",data:=.seq ((items.toList.drop (cR items.size 0 lo)).take (cR items.size items.size hi-cR items.size 0 lo)).toArray}})
  (hsz:items.size<=sizeLine):wpAny (model prog w) A (getItem (.ref t) (.ref sl)) Q E s:=by
 have ub:sizeOk (.seq ((items.toList.drop (cR items.size 0 lo)).take (cR items.size items.size hi-cR items.size 0 lo)).toArray):=by
  show((items.toList.drop (cR items.size 0 lo)).take (cR items.size items.size hi-cR items.size 0 lo)).toArray.size<=sizeLine;rw[List.size_toArray,List.length_take,List.length_drop,Array.length_toList];omega
 have hj:cR items.size items.size hi<=items.size:=JE _ _ (Nat.le_refl _) hi;obtain⟨os,Np,UK,QC⟩:=id hs;have VR:s.TypeIs (.ref sl) "slice":=⟨os,Np,UK⟩;unfold getItem
 try with_reducible refine wpAny_holding ?_
 first|refine wpAny_bind (wpAny_pure ?_)|skip
 refine wpAny_bind (wpAny_sequenceKey ht.typeIs ∅ ?_)
 refine wpAny_bind (wpAny_callSpecial?_slot (name:=Str.ofString "__getitem__") ht.typeIs PyProof.Rows.slot_tuple_getitem
  (wpAny_call_entry PyProof.Rows.slot_tuple_getitem ht.typeIs entry_tuple_getitem ?_ (args_tuple_getitem _ _)))
 show wpAny _ _ (Builtin.Tuple.tupleItemsOf (.ref t) >>= _) _ _ s;refine wpAny_bind (tupleItemsOf_ ht ?_);refine wpAny_bind (wpAny_typeOf VR ?_);rw[if_pos ∅]
 refine wpAny_bind (i6 hs pl pu ?_);have QE:¬((((cR items.size 0 lo:Nat):Int)==0&&(1:Int)==1&&(cR items.size items.size hi-cR items.size 0 lo)==items.size)=true):=by
  intro q;rw[Bool.and_eq_true,Bool.and_eq_true]at q;have q1:((cR items.size 0 lo:Nat):Int)=0:=eq_of_beq q.1.1;have q2:cR items.size items.size hi-cR items.size 0 lo=items.size:=eq_of_beq q.2;exact hw ⟨by omega,by omega⟩
 show wpAny _ _ (if(((cR items.size 0 lo:Nat):Int)==0&&(1:Int)==1&&(cR items.size items.size hi-cR items.size 0 lo)==items.size)=true then _ else _) _ _ s
 rw[if_neg QE,zO]
 first
  | exact wpAny_bind (m:=Builtin.Tuple.tupleExact _) (wpAny_newObj_type (wpAny_pure ⟨_,rfl,wpAny_pure h⟩) ub)
  | exact wpAny_bind (m:=Builtin.Tuple.tupleExact _) (wpAny_newObj_type (wpAny_bind (wpAny_pure (wpAny_pure ⟨_,rfl,wpAny_pure h⟩))) ub)
  | exact wpAny_bind (wpAny_bind (m:=Builtin.Tuple.tupleExact _) (wpAny_newObj_type (wpAny_pure (wpAny_pure ⟨_,rfl,wpAny_pure h⟩)) ub))
  | exact wpAny_bind (wpAny_bind (m:=Builtin.Tuple.tupleExact _) (wpAny_newObj_type (wpAny_pure ⟨_,rfl,wpAny_pure h⟩) ub))
end
end HT
namespace L2
open PySem PySem.Spec PyProof.Rows
abbrev TO:=St->Hp->(Option Int->Hp->Prop)->Prop
def PO(X:Cx)(e:Option Expr)(t:TO):Prop:=
 ∀(pins:List (Addr×Obj)) (s:Shared) (σ:St) (H:Hp) (Q:Option Int->Hp->Prop),Inv X pins σ H s->t σ H Q ->
  wpAny (model X.prog X.w) X.A (evalPart e X.env) (λu s'=>∃o H',Inv X pins σ H' s'/\IsPart u o/\Q o H') X.xe s
def Du:TO:=λ_ H Q=>Q none H
def Qn(t:TE):TO:=λσ H Q=>t σ H λx H1=>∃i,x=.int i/\Q (some i) H1
theorem intsAre_of{ns:List Int}:∀ {us:List Value},Vals (ns.map V.int) us->IntsAre us ns:=by
 induction ns with
 | nil=>intro us r;rw[List.map_nil]at r;cases r;exact .nil
 | cons n ns ih =>
  intro us r;rw[List.map_cons]at r;cases r with
  | cons r1 r2 =>
   obtain⟨t,e⟩:=r1;subst e;exact .cons n t (ih r2)
section
variable {X:Cx}{e:Expr}{te:TE}{lo hi:Option Expr}{tl th:TO}{pos p2:Pos}
theorem CY:PO X none Du:=by
 intro pins s σ H Q I h;rw[evalPart_none];exact wpAny_pure ⟨none,H,I,.none,h⟩
theorem CZ(h:PE X e te):PO X (some e) (Qn te):=by
 intro pins s σ H Q I hw;rw[evalPart_some];refine cq (h pins s σ H _ I hw) λu s1 ⟨x,H1,I1,r1,q1⟩=>?_;obtain⟨i,rfl,q⟩:=q1;obtain⟨t,rfl⟩:=r1;exact⟨some i,H1,I1,.int i t,q⟩
def D2(X:Cx)(r:V->Option Int->Option Int->Hp->VK->Prop):Prop:=
 ∀(pins:List (Addr×Obj)) (s:Shared) (σ:St) (H:Hp) (x:V) (v vl vu:Value) (lo hi:Option Int) (sl:Addr) (Q:VK),Inv X pins σ H s->RelV x v->s.heap.IsSliceOf sl vl vu .none->IsPart vl lo->IsPart vu hi->r x lo hi H Q ->
  ∃T id,typeLookup (.type T) "__getitem__"=pure (some (.builtin id))/\s.TypeIs v T/\wpAny (model X.prog X.w) X.A (getItem v (.ref sl)) (EP X pins σ Q) X.xe s
theorem D2.or{r r':V->Option Int->Option Int->Hp->VK->Prop}(h:D2 X r)(h':D2 X r'):D2 X (λx lo hi H Q=>r x lo hi H Q\/r' x lo hi H Q):=by
 intro pins s σ H x v vl vu lo hi sl Q I rx hs pl pu q;rcases q with q|q
 ·exact h pins s σ H x v vl vu lo hi sl Q I rx hs pl pu q
 ·exact h' pins s σ H x v vl vu lo hi sl Q I rx hs pl pu q
def Xl(r:V->Option Int->Option Int->Hp->VK->Prop)(te:TE)(tl th:TO):TE:=λσ H Q=>te σ H λx H1=>tl σ H1 λl H2=>th σ H2 λu H3=>r x l u H3 Q
theorem zI{r:V->Option Int->Option Int->Hp->VK->Prop}(hr:D2 X r)(he:PE X e te)(hl:PO X lo tl)(hu:PO X hi th):PE X (.Subscript e (.Slice lo hi none p2) pos) (Xl r te tl th):=by
 intro pins s σ H Q I h;refine Subscript_ (cq (he pins s σ H _ I h) λv s1 ⟨x,H1,I1,r1,q1⟩=>?_);refine wpAny_Slice (cq (hl pins s1 σ H1 _ I1 q1) λvl s2 ⟨l,H2,I2,pl,q2⟩=>cq (hu pins s2 σ H2 _ I2 q2) λvu s3 ⟨u,H3,I3,pu,q3⟩=>?_);rw[evalPart_none];refine wpAny_pure ?_;have I4:Inv X pins σ H3 {s3 with heap:=s3.heap.push {cls:=.type "slice",data:=.fields #[vl,vu,.none]}}:=I3.kept (t':=s3.toks) λb ob q=>Heap.get?_push_of_some _ q
 obtain⟨T,id,hT,ht,hg⟩:=hr pins {s3 with heap:=s3.heap.push {cls:=.type "slice",data:=.fields #[vl,vu,.none]}} σ H3 x v vl vu l u s3.heap.objs.size Q I4 r1 (Heap.IsSliceOf.new ..) pl pu q3
 show wpAny (model X.prog X.w) X.A (subscriptTail e (.Slice lo hi none p2) v (.ref s3.heap.objs.size)) (EP X pins σ Q) X.xe {s3 with heap:=s3.heap.push {cls:=.type "slice",data:=.fields #[vl,vu,.none]}}
 exact tail_any (ops:=[.ref s3.heap.objs.size,v]) ht hT hg (by with_unfolding_all rfl)
def pJ(xs:List V)(lo hi:Option Int):List V:=(xs.drop (HT.cR xs.length 0 lo)).take (HT.cR xs.length xs.length hi-HT.cR xs.length 0 lo)
theorem jk(xs:List V)(lo hi:Option Int):(pJ xs lo hi).length<=xs.length:=by
 unfold pJ;rw[List.length_take,List.length_drop];omega
def TN(K:PySem.W.Frag):V->Option Int->Option Int->Hp->VK->Prop:=λx lo hi H Q=>∃a xs,x=.ref a/\iD K H a xs /\
 ¬(HT.cR xs.length 0 lo=0/\HT.cR xs.length xs.length hi=xs.length)/\∀p,H p=none->Q (.ref p) (upd H p (.tup (pJ xs lo hi)))
theorem J8:D2 X (TN X.K):=by
 intro pins s σ H x v vl vu lo hi sl Q I rx hs pl pu h;obtain⟨a,xs,rfl,hx,hw,q⟩:=h;cases rx;obtain⟨its,r,ht,hz⟩:=I.tuple hx;have hlen:its.toArray.size=xs.length:=by rw[List.size_toArray];exact r.length.symm
 refine⟨"tuple",_,PyProof.Rows.slot_tuple_getitem.lookup,ht.typeIs,?_⟩;refine HT.gM ht hs pl pu (by rw[hlen];exact hw) ?_ (by rw[hlen];exact hz)
 rw[hlen];refine⟨.ref s.heap.objs.size,_,I.laid (t':=s.toks) (o:=.tup (pJ xs lo hi)) (λb ob q=>Heap.get?_push_of_some _ q) (Nat.le_refl _) ?_,rfl,q _ (I.bI.fresh (Nat.le_refl _))⟩;exact⟨Nat.le_trans (jk xs lo hi) hz,_,(r.drop (HT.cR xs.length 0 lo)).take (HT.cR xs.length xs.length hi-HT.cR xs.length 0 lo),IsTup.new _ _⟩
def EH(K:PySem.W.Frag):R2:=λx y H Q=>∃a b xs ys,x=.ref a/\y=.ref b/\iD K H a xs/\iD K H b ys/\xs≠[]/\xs.length+ys.length<=sizeLine /\
 (ys=[]->Q (.ref a) H)/\(ys≠[]->∀p,H p=none->Q (.ref p) (upd H p (.tup (xs++ys))))
theorem Vals.nZ{xs:List V}{us:List Value}(r:Vals xs us):us=[] ↔ xs=[]:=by
 cases r with
 | nil=>simp
 | cons _ _=>simp
theorem CM:f6 X (binaryOp .Add) (EH X.K):=by
 intro pins s σ H x y v u Q I rx ry h;obtain⟨a,b,xs,ys,rfl,rfl,ha,hb,hx,hz,q1,q2⟩:=h;cases rx;cases ry;obtain⟨its,r1,p1,_⟩:=I.tuple ha;obtain⟨qt,r2,p2,_⟩:=I.tuple hb;refine HT.BL p1 p2 (λz=>hx (r1.nZ.mp z)) (λz=>⟨.ref a,H,I,rfl,q1 (r2.nZ.mp z)⟩) (λz=>?_) (by rw[<- r1.length,<- r2.length];exact hz)
 refine⟨.ref s.heap.objs.size,_,I.laid (t':=s.toks) (o:=.tup (xs++ys)) (λb ob q=>Heap.get?_push_of_some _ q) (Nat.le_refl _) ?_,rfl,q2 (λw=>z (r2.nZ.mpr w)) _ (I.bI.fresh (Nat.le_refl _))⟩;exact⟨by rw[List.length_append];exact hz,_,r1.append r2,IsTup.new _ _⟩
end
end L2
namespace L2
open PySem PySem.Spec PyProof.Rows
def vL(n:Nat)(i:Int):Option Nat:=if 0<=i then(if i<n then some i.toNat else none)else if -(n:Int)<=i then some (i+n).toNat else none
def jB{α:Type}(xs:List α)(i:Int):Option α:=(vL xs.length i).bind λj=>xs[j]?
theorem ug{n:Nat}{i:Int}{j:Nat}(h:vL n i=some j):seqIndex? i n=some j/\j<n/\-(n:Int)<=i/\i<n:=by
 unfold vL at h
 by_cases h0:0<=i
 ·rw[if_pos h0]at h
  by_cases h1:i<n
  ·rw[if_pos h1]at h
   have e:i.toNat=j:=Option.some.inj h;exact⟨by rw[seqIndex_of h0 h1,e],by omega,by omega,h1⟩
  ·rw[if_neg h1]at h;cases h
 ·rw[if_neg h0]at h
  by_cases h1:-(n:Int)<=i
  ·rw[if_pos h1]at h
   have e:(i+n).toNat=j:=Option.some.inj h;exact⟨by rw[seqIndex_neg ⋯ h1,e],by omega,h1,by omega⟩
  ·rw[if_neg h1]at h;cases h
theorem nk{α:Type}{xs:List α}{i:Int}{v:α}(h:jB xs i=some v):∃j,seqIndex? i xs.length=some j/\xs[j]?=some v/\j<xs.length/\-(xs.length:Int)<=i/\i<xs.length:=by
 unfold jB at h;cases e:vL xs.length i with
 | none=>rw[e]at h;cases h
 | some j =>
  rw[e]at h;obtain⟨h1,h2,h3,h4⟩:=ug e;exact⟨j,h1,h,h2,h3,h4⟩
def m9(b:Expr):Prop:=∀o i,subscripted b false o i=operate [o,i] (getItem o i)
def BD(X:Cx)(r:R2):Prop:=
 ∀(value slice:Expr) (pins:List (Addr×Obj)) (s:Shared) (σ:St) (H:Hp) (x y:V) (v u:Value) (Q:VK),Inv X pins σ H s->RelV x v->RelV y u->r x y H Q ->
  subscripted slice false v u=operate [v,u] (getItem v u)->wpAny (model X.prog X.w) X.A (subscriptTail value slice v u) (EP X pins σ Q) X.xe s
def Uv(X:Cx)(id:String)(r:V->List V->Hp->VK->Prop):Prop:=
 ∀(pins:List (Addr×Obj)) (s:Shared) (σ:St) (H:Hp) (x:V) (xs:List V) (v:Value) (us:List Value) (Q:VK),Inv X pins σ H s->RelV x v->Vals xs us->r x xs H Q ->
  wpAny (model X.prog X.w) X.A (call (.builtin id) (v::us)) (EP X pins σ Q) X.xe s
section
variable {X:Cx}{a b:Expr}{ta tb:TE}{pos:Pos}
theorem BD.or{r r':R2}(h:BD X r)(h':BD X r'):BD X (λx y H Q=>r x y H Q\/r' x y H Q):=by
 intro value slice pins s σ H x y v u Q I rx ry q hs;rcases q with q|q
 ·exact h value slice pins s σ H x y v u Q I rx ry q hs
 ·exact h' value slice pins s σ H x y v u Q I rx ry q hs
theorem EA{r:R2}(hr:BD X r)(ha:PE X a ta)(hb:PE X b tb)(hs:m9 b):PE X (.Subscript a b pos) (K9 r ta tb):=by
 intro pins s σ H Q I h;exact Subscript_ (FJ ha hb I h λv u s2 x y H2 I2 rx ry q=>hr a b pins s2 σ H2 x y v u Q I2 rx ry q (hs _ _))
def Pg(K:PySem.W.Frag):R2:=λx y H Q=>∃p xs i v,x=.ref p/\y=.int i/\dP K H p xs/\jB xs i=some v/\Q v H
def Pj(K:PySem.W.Frag):R2:=λx y H Q=>∃p xs i v,x=.ref p/\y=.int i/\iD K H p xs/\jB xs i=some v/\Q v H
def Ph:R2:=λx y H Q=>∃z i c,x=.str z/\y=.int i/\z.length<=sizeLine/\jB z.cps.toList i=some c/\Q (.str ⟨#[c]⟩) H
theorem uh:BD X (Pg X.K):=by
 intro value slice pins s σ H x y v u Q I rx ry h hs;obtain⟨p,xs,i,z,rfl,rfl,hq,he,q⟩:=h;cases rx;obtain⟨t,rfl⟩:=ry;obtain⟨its,r,pl,hz⟩:=I.list hq;obtain⟨j,h1,h2,h3,h4,h5⟩:=nk he;obtain⟨w,ew,TY⟩:=r.get h2;have hl:=r.length;have hn:=gm;have fin:EP X pins σ Q w s:=⟨z,H,I,TY,q⟩
 by_cases h0:0<=i
 ·have hj:i.toNat=j:=by
   rw[seqIndex_of h0 h5]at h1;exact Option.some.inj h1
  exact item_listR pl.isList h0 ⋯ (by rw[hj];simpa using ew) fin hs
 ·have hj:(i+(its.toArray.size:Int)).toNat=j:=by
   rw[seqIndex_neg ⋯ h4]at h1
   rw[List.size_toArray,<- hl];exact Option.some.inj h1
  exact subscriptTail_builtinR (x:=w) pl.isList.typeIs slot_list_getitem.lookup
   (wpAny_getItem_list_neg (Q:=λr s'=>r=w/\EP X pins σ Q r s') pl.isList ⋯ (by rw[List.size_toArray]<;>omega) ⋯ (by rw[hj];simpa using ew) ⟨rfl,fin⟩) hs
theorem Hr:BD X (Pj X.K):=by
 intro value slice pins s σ H x y v u Q I rx ry h hs;obtain⟨p,xs,i,z,rfl,rfl,hq,he,q⟩:=h;cases rx;obtain⟨t,rfl⟩:=ry;obtain⟨its,r,pl,hz⟩:=I.tuple hq;obtain⟨j,h1,h2,h3,h4,h5⟩:=nk he;obtain⟨w,ew,TY⟩:=r.get h2;have hl:=r.length;have hn:=gm;have fin:EP X pins σ Q w s:=⟨z,H,I,TY,q⟩;exact subscriptTail_builtinR (x:=w) pl.typeIs slot_tuple_getitem.lookup
  (getItem_tuple (j:=j) (Q:=λr s'=>r=w/\EP X pins σ Q r s') pl ⋯ ⋯ (by rw[List.size_toArray,<- hl];exact h1) (by simpa using ew) ⟨rfl,fin⟩) hs
theorem Hq:BD X Ph:=by
 intro value slice pins s σ H x y v u Q I rx ry h hs;obtain⟨z,i,c,rfl,rfl,hz,he,q⟩:=h;obtain⟨t,rfl⟩:=rx;obtain⟨t',rfl⟩:=ry;obtain⟨j,h1,h2,h3,h4,h5⟩:=nk he;have hl:z.cps.toList.length=z.length:=by simp [Str.length]
 rw[hl]at h1 h4 h5;have hn:=gm;exact tail_any (typeIs_str s z t) slot_str_getitem.lookup (getItem_str (c:=c) (by
  have e1:decide (i < -(2^63:Int))=false:=decide_eq_false ⋯
  have e2:decide (i>=2^63)=false:=decide_eq_false ⋯
  rw[e1,e2,Bool.or_false]) (by rw[h1];simpa using h2) ⟨.str ⟨#[c]⟩,H,I.tok _,⟨_,rfl⟩,q⟩) hs
def Xa(K:PySem.W.Frag):R2:=λx y H Q=>Pg K x y H Q\/Pj K x y H Q\/Ph x y H Q
theorem Ho:BD X (Xa X.K):=uh.or (Hr.or Hq)
theorem sy(its:List Value)(n j:Nat)(u:Value):Obj.mapSeq (·.setIfInBounds j u) {cls:=.type "list",data:=.seq its.toArray n}={cls:=.type "list",data:=.seq (its.set j u).toArray n}:=by
 simp [Obj.mapSeq]
theorem Inv.lst{pins:List (Addr×Obj)}{σ:St}{H:Hp}{s:Shared}{p:Addr}{xs:List V}(I:Inv X pins σ H s)(h:H p=some (.lst xs)):
  ∃(its:List Value) (n:Nat),Vals xs its/\s.heap.get? p=some {cls:=.type "list",data:=.seq its.toArray n}/\xs.length<=sizeLine:=by
 obtain⟨z,its,n,r,e⟩:=I.bI p _ h;exact⟨its,n,r,e,z⟩
theorem Inv.HM{pins:List (Addr×Obj)}{σ:St}{H:Hp}{s:Shared}{p:Addr}{xs ys:List V}{its its':List Value}{n n':Nat}{f:Obj->Obj}(I:Inv X pins σ H s)(h:H p=some (.lst xs))
  (ho:s.heap.get? p=some {cls:=.type "list",data:=.seq its.toArray n}) (hf:f {cls:=.type "list",data:=.seq its.toArray n}={cls:=.type "list",data:=.seq its'.toArray n'}) (r:Vals ys its') (hz:ys.length<=sizeLine) (t:Nat):
  Inv X pins σ (upd H p (.lst ys)) {s with heap:=s.heap.update p f,toks:=t}:=by
 have e:(s.heap.update p f).get? p=some {cls:=.type "list",data:=.seq its'.toArray n'}:=by
  rw[Heap.get?_update_self f ho (by rw[hf]<;>rfl),hf]
 refine I.write (x:=p) (e:=p) (by rw[h];trivial) (.inl rfl) (λb u hb q=>(Heap.get?_update_other _ _ (Ne.symm hb)).trans q) ⟨_,e⟩ ?_
 exact⟨hz,its',n',r,e⟩
def Pl:V->V->V->Hp->(Hp->Prop)->Prop:=λo i v H Q=>∃p xs k j,o=.ref p/\i=.int k/\H p=some (.lst xs)/\vL xs.length k=some j/\Q (upd H p (.lst (xs.set j v)))
theorem set_list:Ly X Pl:=by
 intro pins s σ H o i v ov iv u Q I ro ri rv h;obtain⟨p,xs,k,j,rfl,rfl,hp,hj,q⟩:=h;cases ro;obtain⟨t,rfl⟩:=ri;obtain⟨its,n,r,ho,hz⟩:=I.lst hp;obtain⟨h1,h2,h3,h4⟩:=ug hj;have hl:=r.length;have hn:=gm;have I':Inv X pins σ (upd H p (.lst (xs.set j v))) {s with heap:=s.heap.update p (Obj.mapSeq (·.setIfInBounds j u))}:=
  I.HM hp ho (sy its n j u) (r.set rv j) (by rw[List.length_set];exact hz) s.toks
 by_cases h0:0<=k
 ·have hk:k.toNat=j:=by
   rw[seqIndex_of h0 h4]at h1;exact Option.some.inj h1
  exact PySem.W.ki_setAt ho h0 ⋯ (by rw[List.size_toArray,<- hl];exact h4) (by rw[hk];exact⟨_,I',q⟩)
 ·have hk:(k+(its.toArray.size:Int)).toNat=j:=by
   rw[seqIndex_neg ⋯ h3]at h1
   rw[List.size_toArray,<- hl];exact Option.some.inj h1
  exact PySem.W.ki_setBack ho ⋯ (by rw[List.size_toArray,<- hl];exact h3) ⋯ (by rw[hk];exact⟨_,I',q⟩)
theorem oF(lo hi:Option Int)(n:Nat):(sliceBounds lo hi none n).1=((HT.cR n 0 lo:Nat):Int)/\(sliceBounds lo hi none n).2.1=((HT.cR n n hi:Nat):Int)/\(sliceBounds lo hi none n).2.2=1:=by
 refine⟨?_,?_,rfl⟩
 ·cases lo with
  | none=>simp [sliceBounds,HT.cR]
  | some i =>
   simp only[sliceBounds,HT.cR,Option.getD_none,show(1:Int)>0 by decide,if_true]
   by_cases h:i<0
   ·simp only[h,if_true]<;>omega
   ·simp only[h,if_false]<;>omega
 ·cases hi with
  | none=>simp [sliceBounds,HT.cR]
  | some i =>
   simp only[sliceBounds,HT.cR,Option.getD_none,show(1:Int)>0 by decide,if_true]
   by_cases h:i<0
   ·simp only[h,if_true]<;>omega
   ·simp only[h,if_false]<;>omega
theorem lL(its:List Value)(lo hi:Option Int):slicePick its.toArray lo hi none=((its.drop (HT.cR its.length 0 lo)).take (HT.cR its.length its.length hi-HT.cR its.length 0 lo)).toArray:=by
 obtain⟨h1,h2,h3⟩:=oF lo hi its.toArray.size;unfold slicePick;rw[h1,h2,h3];simp only[sliceRange_one,pick_run,List.size_toArray]<;>rfl
def TL(K:PySem.W.Frag):V->Option Int->Option Int->Hp->VK->Prop:=λx lo hi H Q=>∃a xs,x=.ref a/\dP K H a xs/\∀p,H p=none->Q (.ref p) (upd H p (.lst (pJ xs lo hi)))
theorem Dm:D2 X (TL X.K):=by
 intro pins s σ H x v vl vu lo hi sl Q I rx hs pl pu h;obtain⟨a,xs,rfl,hx,q⟩:=h;cases rx;obtain⟨its,r,ht,hz⟩:=I.list hx;have hlen:=r.length;refine⟨"list",_,slot_list_getitem.lookup,ht.isList.typeIs,?_⟩;refine wpAny_getItem_list_slice ht.isList hs pl pu .none (by simp) ?_ (by rw[List.size_toArray]<;>omega)
 rw[lL,<- hlen];refine⟨.ref s.heap.objs.size,_,I.laid (t':=s.toks) (o:=.lst (pJ xs lo hi)) (λb ob q=>Heap.get?_push_of_some _ q) (Nat.le_refl _) ?_,rfl,q _ (I.bI.fresh (Nat.le_refl _))⟩;exact⟨Nat.le_trans (jk xs lo hi) hz,_,0,(r.drop (HT.cR xs.length 0 lo)).take (HT.cR xs.length xs.length hi-HT.cR xs.length 0 lo),Heap.get?_push_size _ rfl⟩
theorem nr:b9 X (.builtin "len") (λxs H Q=>∃p ys,xs=[.ref p]/\(dP X.K H p ys\/iD X.K H p ys)/\Q (.int ys.length) H):=by
 intro pins s σ H xs us Q I r h;obtain⟨p,ys,rfl,hq,q⟩:=h;obtain⟨u,rfl,rx⟩:=vals1 r;cases rx;have hn:=gm;rcases hq with hq|hq
 ·obtain⟨its,r',pl,hz⟩:=I.list hq
  have hlen:=r'.length;exact Calls.call_len_list pl.isList (by simp only[List.size_toArray]<;>omega) ⟨.int ys.length,H,I.tok _,⟨s.toks+1,by rw[List.size_toArray,hlen]⟩,q⟩
 ·obtain⟨its,r',pl,hz⟩:=I.tuple hq
  have hlen:=r'.length;exact len_tuple pl (by simp only[List.size_toArray]<;>omega) ⟨.int ys.length,H,I.tok _,⟨s.toks+1,by rw[List.size_toArray,hlen]⟩,q⟩
theorem nu:b9 X (.builtin "len") (λxs H Q=>∃z,xs=[.str z]/\z.length<=sizeLine/\Q (.int z.length) H):=by
 intro pins s σ H xs us Q I r h;obtain⟨z,rfl,hz,q⟩:=h;obtain⟨u,rfl,t,rfl⟩:=vals1 r;have hn:=gm;exact len_str ⋯ ⟨.int z.length,H,I.tok _,⟨_,rfl⟩,q⟩
theorem b9.or{f:Value}{r r':List V->Hp->VK->Prop}(h:b9 X f r)(h':b9 X f r'):b9 X f (λxs H Q=>r xs H Q\/r' xs H Q):=by
 intro pins s σ H xs us Q I rs q;rcases q with q|q
 ·exact h pins s σ H xs us Q I rs q
 ·exact h' pins s σ H xs us Q I rs q
theorem nv:b9 X (.type "list") (λxs H Q=>∃p ys,xs=[.ref p]/\(dP X.K H p ys\/iD X.K H p ys)/\∀l,H l=none->Q (.ref l) (upd H l (.lst ys))):=by
 intro pins s σ H xs us Q I r h;obtain⟨p,ys,rfl,hq,q⟩:=h;obtain⟨u,rfl,rx⟩:=vals1 r;cases rx;have fin:∀(its:List Value),Vals ys its->ys.length<=sizeLine->∀(h':Heap) (c':Nat),(∀b o',s.heap.get? b=some o'->h'.get? b=some o') ->
   h'.get? s.heap.objs.size=some {cls:=.type "list",dict:=none,data:=.seq its.toArray c',slots:=#[]}->EP X pins σ Q (.ref s.heap.objs.size) {s with heap:=h'}:=λits r' hz h' c' kp e =>
  ⟨.ref s.heap.objs.size,_,I.laid (t':=s.toks) kp (Nat.le_refl _) (show bF X.prog X.w _ h' _ (.lst ys)from⟨hz,its,c',r',e⟩),rfl,q _ (I.bI.fresh (Nat.le_refl _))⟩
 rcases hq with hq|hq
 ·obtain⟨its,r',pl,hz⟩:=I.list hq
  have hlen:=r'.length;obtain⟨o,ho,hc,n,hd⟩:=pl.isList;exact call_list_seq p (.inl rfl) ho hc hd (λh' c' kp e=>fin its r' hz h' c' kp e) (by simp only[List.size_toArray]<;>omega)
 ·obtain⟨its,r',pl,hz⟩:=I.tuple hq
  have hlen:=r'.length;obtain⟨o,ho,hc,n,hd⟩:=pl;exact call_list_seq p (.inr rfl) ho hc hd (λh' c' kp e=>fin its r' hz h' c' kp e) (by simp only[List.size_toArray]<;>omega)
theorem lu:b9 X (.type "tuple") (λxs H Q=>∃p ys,xs=[.ref p]/\((dP X.K H p ys/\∀l,H l=none->Q (.ref l) (upd H l (.tup ys)))\/(iD X.K H p ys/\Q (.ref p) H))):=by
 intro pins s σ H xs us Q I r h;obtain⟨p,ys,rfl,h⟩:=h;obtain⟨u,rfl,rx⟩:=vals1 r;cases rx;rcases h with⟨hq,q⟩|⟨hq,q⟩
 ·obtain⟨its,r',pl,hz⟩:=I.list hq
  have hlen:=r'.length;refine call_tuple_list pl.isList (λh' kp=>?_) (by simp only[List.size_toArray]<;>omega)
  have I1:Inv X pins σ H {s with heap:=h'}:=I.kept (t':=s.toks) kp
  have I2:Inv X pins σ (upd H h'.objs.size (.tup ys)) {s with heap:=h'.push {cls:=.type "tuple",data:=.seq its.toArray}}:=
   I1.laid (t':=s.toks) (λb o e=>Heap.get?_push_of_some _ e) (Nat.le_refl _) (show bF X.prog X.w _ _ _ (.tup ys)from⟨hz,its,r',IsTup.new _ _⟩)
  exact⟨.ref h'.objs.size,_,I2,rfl,q _ (I1.bI.fresh (Nat.le_refl _))⟩
 ·obtain⟨its,r',pl,hz⟩:=I.tuple hq
  exact call_tuple_same pl ⟨.ref p,H,I,rfl,q⟩
def Uk(K:PySem.W.Frag)(T:String)(x:V)(H:Hp):Prop:=match x with
 | .str _=>T="str"
 | .int _=>T="int"
 | .ref p=>(T="list"/\∃xs,dP K H p xs)\/(T="tuple"/\∃o,K.lookup p=some o/\o.cls=.type "tuple"/\o.dict=none) \/
   (T="dict"/\((∃kvs,H p=some (.dK kvs))\/∃kvs,H p=some (.dT kvs)))\/(T="set"/\∃S n,H p=some (.set S n))
 | _=>False
theorem A2{pins:List (Addr×Obj)}{σ:St}{H:Hp}{s:Shared}{T:String}{x:V}{v:Value}(I:Inv X pins σ H s)(r:RelV x v)(ty:Uk X.K T x H):
  s.TypeIs v T/\∀a,v=.ref a->∃ob,s.heap.get? a=some ob/\ob.dict=none:=by
 cases x with
 | str z =>
  obtain⟨t,rfl⟩:=r;cases(show T="str" from ty)
  exact⟨typeIs_str s z t,λ_ e=>nomatch e⟩
 | int i =>
  obtain⟨t,rfl⟩:=r;cases(show T="int" from ty)
  exact⟨typeIs_int s i t,λ_ e=>nomatch e⟩
 | ref p =>
  cases r;rcases ty with⟨rfl,xs,hq⟩|⟨rfl,o,hk,hc,hd⟩|⟨rfl,hk⟩|⟨rfl,S,n,hk⟩
  ·obtain⟨its,_,pl,_⟩:=I.list hq
   refine⟨pl.isList.typeIs,λa e=>?_⟩;cases e;obtain⟨o,n,e,c,hd,_⟩:=pl;exact⟨o,e,hd⟩
  ·refine⟨⟨o,I.pq p o hk,hc⟩,λa e=>?_⟩
   cases e;exact⟨o,I.pq _ o hk,hd⟩
  ·have z:∃o,s.heap.get? p=some o/\o.ExactDict:=by
    rcases hk with⟨kvs,hk⟩|⟨kvs,hk⟩
    ·obtain⟨_,_,_,_,o,_,_,e,ex,_⟩:=I.bI p _ hk
     exact⟨o,e,ex⟩
    ·obtain⟨_,_,_,_,o,_,_,e,ex,_⟩:=I.bI p _ hk
     exact⟨o,e,ex⟩
   obtain⟨o,e,ex⟩:=z;refine⟨⟨o,e,ex.1⟩,λa e2=>?_⟩;cases e2;exact⟨o,e,ex.2.1⟩
  ·obtain⟨o,_,_,_,e,ex,_⟩:=I.bI p _ hk
   refine⟨⟨o,e,ex.1⟩,λa e2=>?_⟩;cases e2;exact⟨o,e,ex.2.1⟩
 | _=>exact False.elim ty
def T6(K:PySem.W.Frag)(T:String)(r:V->List V->Hp->VK->Prop)(to:TE):TE:=λσ H Q=>to σ H λx H1=>Uk K T x H1/\r x [] H1 Q
def Xi(K:PySem.W.Frag)(T:String)(r:V->List V->Hp->VK->Prop)(to:TE)(t:TA):TE:=λσ H Q=>to σ H λx H1=>Uk K T x H1/\t σ H1 λxs H2=>r x xs H2 Q
variable {o e:Expr}{es:List Expr}{to:TE}{t:TA}{name:Str}{apos cpos:Pos}{T id:String}{r:V->List V->Hp->VK->Prop}
theorem zG(pa:PlainAttrs T)(slot:Slot T name id)(S3:typeOf (.builtin id)=pure (.type "method_descriptor"))(hm:Uv X id r)(ho:PE X o to)
  (yM:attributeBase o name X.env (eval o X.env)=eval o X.env:=by rfl) (hline:(apos.endLine==cpos.line)=true:=by rfl):PE X (.Call (.Attribute o name apos) [] [] cpos) (T6 X.K T r to):=by
 intro pins s σ H Q I h;refine wpAny_Call_method0_late yM hline (cq (ho pins s σ H _ I h) λv s1 ⟨x,H1,I1,r1,ty,q1⟩=>?_);obtain⟨h1,h2⟩:=A2 I1 r1 ty;exact⟨T,id,pa,slot,S3,h1,h2,Calls.callWith_builtin rfl (PySem.evalArgs_none (hm pins s1 σ H1 x [] v [] Q I1 r1 .nil q1))⟩
theorem kL(pa:PlainAttrs T)(slot:Slot T name id)(S3:typeOf (.builtin id)=pure (.type "method_descriptor"))(hm:Uv X id r)(ho:PE X o to)(ha:PA X (e::es) t)
  (yM:attributeBase o name X.env (eval o X.env)=eval o X.env:=by rfl)
  (yP:((backTo cpos (starEach (e::es) X.env)).all (λx=>!x.1)&&(backToKw cpos (keywordEach [] X.env)).all (λx=>x.1.isSome)
  &&decide ((e::es).length+([]:List Keyword).length+(if([]:List Keyword).isEmpty then 0 else 1)<30))=true:=by rfl)
  (hline:(apos.endLine==cpos.line)=true:=by rfl) (hs:starEach (e::es) X.env=(false,eval e X.env)::starEach es X.env:=by rfl) (Hf:(backTo cpos (starEach es X.env)).any (·.1)=false:=by rfl):
  PE X (.Call (.Attribute o name apos) (e::es) [] cpos) (Xi X.K T r to t):=by
 intro pins s σ H Q I h;refine wpAny_Call_method_late yM yP hline rfl (cq (ho pins s σ H _ I h) λv s1 ⟨x,H1,I1,r1,ty,q1⟩=>?_);obtain⟨h1,h2⟩:=A2 I1 r1 ty;refine⟨T,id,pa,slot,S3,h1,h2,?_⟩;have hA:=ha cpos pins s1 σ H1 _ I1 q1;rw[hs]at hA ⊢;refine Calls.callWith_builtin (by show(false||(backTo cpos (starEach es X.env)).any (·.1))=false;rw[Hf]<;>rfl) (Calls.evalArgs_plain ?_)
 exact cq hA λus s2 ⟨vs,H2,I2,r2,q2⟩=>hm pins s2 σ H2 x vs v us Q I2 r1 r2 q2
end
end L2
namespace L2
open PySem PySem.Spec PyProof.Rows
def Lw(X:Cx)(id:String)(r:V->List V->Hp->VK->Prop):Prop:=
 ∀(pins:List (Addr×Obj)) (s:Shared) (σ:St) (H:Hp) (x:V) (xs:List V) (v:Value) (us:List Value) (Q:VK),Inv X pins σ H s->RelV x v->Vals xs us->r x xs H Q ->
  wpAny (model X.prog X.w) X.A (call (.builtin id) (v::us)) (EP X pins σ Q) X.xe s
theorem Vals.one:∀ {x:V} {us:List Value},Vals [x] us->∃u,us=[u]/\RelV x u
 | _,_,.cons r .nil=>⟨_,rfl,r⟩
theorem Vals.zero:∀ {us:List Value},Vals [] us->us=[]
 | _,.nil=>rfl
theorem Vals.dropLast{xs:List V}{us:List Value}(h:Vals xs us):Vals xs.dropLast us.dropLast:=by
 induction h with
 | nil=>exact .nil
 | cons r t ih =>
  cases t with
  | nil=>exact .nil
  | cons q t'=>exact .cons r ih
theorem Vals.rep{xs:List V}{us:List Value}(h:Vals xs us):∀k:Nat,Vals (List.replicate k xs).flatten (List.replicate k us).flatten
 | 0=>.nil
 | k+1=>by
  rw[List.replicate_succ,List.replicate_succ,List.flatten_cons,List.flatten_cons];exact Vals.append h (Vals.rep h k)
theorem sd{α:Type}(l:List α):l.eraseIdx (l.length-1)=l.dropLast:=by
 induction l with
 | nil=>rfl
 | cons a r ih =>
  cases r with
  | nil=>rfl
  | cons b r =>
   have e:(a::b::r).length-1=((b::r).length-1)+1:=by
    have h1:(a::b::r).length=r.length+2:=rfl;have h2:(b::r).length=r.length+1:=rfl;omega
   rw[e,List.eraseIdx_cons_succ,ih]
   all_goals rfl
theorem foldl_rep(its:List Value):∀(k:Nat) (acc:List Value),
  List.foldl (λx1 x2=>x1++x2) acc.toArray (List.replicate k its.toArray)=(acc++(List.replicate k its).flatten).toArray
 | 0,acc=>by simp
 | k+1,acc=>by
  have e:acc.toArray++its.toArray=(acc++its).toArray:=by simp
  have e2:(acc++its)++(List.replicate k its).flatten=acc++(List.replicate (k+1) its).flatten:=by
   rw[List.replicate_succ,List.flatten_cons,List.append_assoc]
  rw[<- e2,<- foldl_rep its k (acc++its),<- e,List.replicate_succ,List.foldl_cons]
section
variable {X:Cx}{pins:List (Addr×Obj)}{σ:St}{H:Hp}{s:Shared}{l b:Addr}{xs ys zs:List V}
theorem Inv.HL{its its':List Value}{n:Nat}{f:Array Value->Array Value}{t':Nat}(I:Inv X pins σ H s)(hH:H l=some (.lst xs))
  (e:s.heap.get? l=some {cls:=.type "list",data:=.seq its.toArray n}) (hf:f its.toArray=its'.toArray) (hv:Vals ys its') (hz:ys.length<=sizeLine):
  Inv X pins σ (upd H l (.lst ys)) {s with heap:=s.heap.update l (Obj.mapSeq f),toks:=t'}:=by
 have q:=PySem.IsL.update e f;rw[hf]at q;refine I.write (x:=l) (e:=l) (by rw[hH];exact trivial) (.inl rfl) (λb' u hb hu=>(Heap.get?_update_other s.heap (Obj.mapSeq f) (Ne.symm hb)).trans hu) ⟨_,q⟩ ?_
 exact⟨hz,its',_,hv,q⟩
theorem Inv.HK{its:List Value}{t':Nat}(I:Inv X pins σ H s)(hv:Vals ys its)(hz:ys.length<=sizeLine):
  Inv X pins σ (upd H s.heap.objs.size (.lst ys)) {s with heap:=s.heap.push {cls:=.type "list",data:=.seq its.toArray},toks:=t'}:=
 I.laid (λ_ _ q=>Heap.get?_push_of_some _ q) (Nat.le_refl _) ⟨hz,its,0,hv,Heap.get?_push_size _ rfl⟩
theorem Inv.fresh(I:Inv X pins σ H s):H s.heap.objs.size=none:=I.bI.fresh (Nat.le_refl _)
theorem Inv.Cw(I:Inv X pins σ H s)(hH:H l=some (.lst xs)):xs.length<=sizeLine/\∃(its:List Value) (n:Nat),Vals xs its/\xs.length=its.length/\s.heap.get? l=some {cls:=.type "list",data:=.seq its.toArray n}:=by
 obtain⟨z,its,n,r,e⟩:=I.bI l _ hH;exact⟨z,its,n,r,r.length,e⟩
theorem qL{n:Nat}(h:n<=sizeLine):Builtin.List.listTooLong n=false:=by
 unfold Builtin.List.listTooLong;exact decide_eq_false ⋯
end
section
variable {X:Cx}
def C6:V->List V->Hp->VK->Prop:=λx vs H Q=>∃l xs y,x=.ref l/\vs=[y]/\H l=some (.lst xs)/\xs.length<sizeLine/\Q .bB (upd H l (.lst (xs++[y])))
theorem dn:Lw X "list.append" C6:=by
 intro pins s σ H x vs v us Q I rx rv h;obtain⟨l,xs,y,rfl,rfl,hH,hz,q⟩:=h;cases rx;obtain⟨u,rfl,ru⟩:=rv.one;obtain⟨z,its,n,r,hl,e⟩:=I.Cw hH;refine call_meets F.slot_list_append ⟨_,e,rfl⟩ F.entry_list_append (F.args_list_append_2 _ _) (PySem.list_append l its.toArray n u (by rw[List.size_toArray];omega)) ⟨e,?_⟩
 refine⟨.bB,_,I.HL (its':=its++[u]) hH e (by simp) (r.append (.cons ru .nil)) ?_,rfl,q⟩
 rw[List.length_append,List.length_singleton];omega
def C8:V->List V->Hp->VK->Prop:=λx vs H Q=>∃l b xs zs,x=.ref l/\vs=[.ref b]/\H l=some (.lst xs)/\H b=some (.lst zs)/\xs.length+zs.length<=sizeLine/\Q .bB (upd H l (.lst (xs++zs)))
theorem vU:Lw X "list.extend" C8:=by
 intro pins s σ H x vs v us Q I rx rv h;obtain⟨l,b,xs,zs,rfl,rfl,hH,hB,hz,q⟩:=h;cases rx;obtain⟨u,rfl,ru⟩:=rv.one;cases ru;obtain⟨z,its,n,r,hl,e⟩:=I.Cw hH;obtain⟨z2,qt,n2,r2,vF,e2⟩:=I.Cw hB;have hsz:its.toArray.size+qt.toArray.size<=sizeLine:=by rw[List.size_toArray,List.size_toArray];omega
 have yT:¬(!its.toArray.isEmpty&&Builtin.List.listTooLong (its.toArray.size+qt.toArray.size))=true:=by
  rw[qL hsz,Bool.and_false];exact Bool.false_ne_true
 refine call_meets F.slot_list_extend ⟨_,e,rfl⟩ F.entry_list_extend (F.args_list_extend_2 _ _)
  (AutoSeq1.list_extend_list_list_0 l its.toArray n b qt.toArray n2 yT (by rw[List.size_toArray];omega) ⋯) ⟨e,e2,?_⟩
 refine⟨.bB,_,I.HL (its':=its++qt) hH e (by simp) (r.append r2) ?_,rfl,q⟩
 rw[List.length_append];omega
def TK:V->List V->Hp->VK->Prop:=λx vs H Q=>∃l xs y,x=.ref l/\vs=[]/\H l=some (.lst xs)/\xs[xs.length-1]?=some y/\Q y (upd H l (.lst xs.dropLast))
theorem HP:Lw X "list.pop" TK:=by
 intro pins s σ H x vs v us Q I rx rv h;obtain⟨l,xs,y,rfl,rfl,hH,hy,q⟩:=h;cases rx;have WB:=rv.zero;subst WB;obtain⟨z,its,n,r,hl,e⟩:=I.Cw hH;obtain⟨u,hu,ru⟩:=r.get hy;have WL:its.toArray[its.toArray.size-1]?=some u:=by
  show its.toArray[its.length-1]?=some u;rw[<- Array.getElem?_toList,<- hl];exact hu
 refine call_meets F.slot_list_pop ⟨_,e,rfl⟩ F.entry_list_pop (F.args_list_pop_1 _) (MeetsSeq.list_pop_last l its.toArray n u WL (by rw[List.size_toArray];omega)) ⟨e,?_⟩
 refine⟨y,_,I.HL (its':=its.dropLast) hH e ?_ r.dropLast ?_,ru,q⟩
 ·show its.toArray.eraseIdxIfInBounds (its.toArray.size-1)=its.dropLast.toArray
  rw[List.size_toArray,List.eraseIdxIfInBounds_toArray,sd]
 ·rw[List.length_dropLast]
  omega
theorem len_rep{α:Type}(xs:List α)(k:Nat):(List.replicate k xs).flatten.length=k*xs.length:=by
 induction k with
 | zero=>simp
 | succ k ih=>rw[List.replicate_succ,List.flatten_cons,List.length_append,ih,Nat.succ_mul,Nat.add_comm]
end
end L2
namespace Ut
open PySem PySem.W PySem.Calls PyProof.Rows
theorem jG{P:Params}{h:Heap}:∀(ns:List Int) (vs:List Value),WellAll P h vs (ns.map WData.int)->IntsAre vs ns:=by
 intro ns
 induction ns with
 | nil =>
  intro vs w;rw[List.map_nil]at w;cases w;exact .nil
 | cons n ns ih =>
  intro vs w;rw[List.map_cons]at w;cases w with
  | cons a b =>
   cases a;exact .cons _ _ (ih _ b)
theorem wo{l:OpenLaw}{n:Nat}(hn:l.most=some n){P:Params}{h:Heap}{args:List WData}{vals:List Value}
  (vG:l.row.toRowW.claim.pre args=true) (Cb:WellAll P h vals args):
  ∃a vs ns,vals=[Value.ref a]/\args=[WData.list (ns.map WData.int)]/\h.get? a=some {cls:=.type "list",data:=.seq vs.toArray}/\IntsAre vs ns/\ns.length<=n:=by
 have Wt:WShape.hasAll [] args [.list .int]=true:=(pre_splitW vG).1;have hc:l.pre.holds [] {args:=args}=true:=(pre_splitW vG).2;obtain⟨d,r,rfl,h1,h2⟩:=hasAllW_cons Wt;obtain rfl:=hasAllW_nil h2;obtain⟨xs,rfl,h3⟩:=hasW_list h1;obtain⟨ns,rfl⟩:=items_int h3;have hlen:ns.length<=n:=by
  unfold OpenLaw.pre at hc;have h4:(WTm.not (.lt (.lit (.int (n:Int))) (.len (.arg 0)))).holds [] {args:=[.list (ns.map .int)]}=true:=by
   have h4:=(holds_andW hc).1;rw[hn]at h4;exact h4
  have h5:=condW_of h4 (w_not (w_lt w_lit (w_len_list (w_arg rfl))));rw[List.length_map]at h5;refine Nat.le_of_not_lt λq=>?_;have q':(n:Int)<((ns.length:Nat):Int):=by omega
  first
   | (rw[decide_eq_true q']at h5;exact absurd h5 ∅)
   | (simp at h5;omega)
 cases Cb with
 | cons w1 w2 =>
  cases w2;cases w1 with
  | list ho lx=>exact⟨_,_,ns,rfl,rfl,ho,jG ns _ lx,hlen⟩
theorem wm(l:OpenLaw)(args:List WData):l.row.toRowW.claim.post args (.bool true) args=true:=
 postW_of (r:=l.row.toRowW) (X:=(true==true))
  (show WShape.has [] (.bool true) .bool=true by first|rfl|decide|simp [WShape.has,WShape.arms,WShape.armsAll])
  (show(WTm.eq .res (.lit (.bool true))).value [] {args:=args,res:=some (.bool true),after:=args}=some (.bool (true==true))from w_eq_bool (w_res rfl) w_lit) rfl
theorem pF{l:OpenLaw}{n:Nat}{q:Program}{loose:List Str}{XP:(Str->Option Value)->Heap->Prop}{YP:World->Heap->Prop}{d:DefRec}
  (hn:l.most=some n) (M5:d.params.defaults=[])
  (call:∀(w:World) (cG bL:Shared) (mg mb:Str->Option Value) (fa:Addr) (o:Obj) (pm cd doc:Value) (a:Addr) (vs:List Value) (ns:List Int),
   Ground q loose [] XP w cG mg mb bL.heap->YP w bL.heap ->
   bL.heap.get? fa=some o->o.data=.func (docDef d.name d.params d.body d.scope pm cd doc)->bL.heap.CodeRec cd d.name->mg d.name=some (.ref fa) ->
   bL.heap.get? a=some {cls:=.type "list",data:=.seq vs.toArray}->IntsAre vs ns->ns.length<=n->bL.gens=#[] ->
   codeAny (model l.prog w) callerA (.call (.ref fa) ⟨[.ref a],[]⟩) (λr s'=>r=.ok (.ret (.bool true))/\OldK bL.heap s'.heap/\s'.os=bL.os/\AllBare s'.gens) bL):
  WalkO q loose XP YP l.row.toRowW d [] (λf vs=>PySem.call f vs):=by
 intro w cG bL mg mb G Y fa o pm cd doc dV kV ho hd qm hD hmg hg args vals as vG Nj U5 Cb rO;obtain rfl:dV=.none:=Dflts.none hD M5;obtain rfl:kV=.none:=Dflts.noKw hD;obtain⟨a,vs,ns,rfl,rfl,Hd,hints,hlen⟩:=wo hn vG Cb;refine enter_call (codeAny_mono (call w cG bL mg mb fa o pm cd doc a vs ns G Y ho (fd_plain hd) qm hmg Hd hints hlen hg) λr s' hq=>?_);obtain⟨rfl,h2,h3,h4⟩:=hq;exact⟨.inl ⟨.bool true,.bool true,[],rfl,λ_=>rfl,.bool true,wm l _,λ_=>⟨List.Pairwise.nil,λ_ hm=>(nomatch hm)⟩⟩,h2,h3,h4⟩
end Ut
namespace L2
open PySem PySem.Spec PyProof.Rows
theorem d4:∀ {vs:List Value} {ns:List Int},IntsAre vs ns->Vals (ns.map V.int) vs
 | _,_,.nil=>.nil
 | _,_,.cons n t h=>.cons ⟨t,rfl⟩ (d4 h)
def Only(H:Hp):Prop:=∀b,H b=none\/∃o xs,H b=some (.mC o (.lst xs))
theorem zf{P:Program}{w:World}{K:PySem.W.Frag}{mg mb:Str->Option Value}{CX:wH}{k:Nat}{fa a:Addr}{fd:FuncData}{x:Str}{sp:Sp}{bL:Shared}{vs:List Value}{ns:List Int}
  (KX:K.In bL.heap) (QF:bL.heap.Ns mainGlobals mg) (hb:bL.heap.Ns builtinsNs mb) (VW:∀x:Str,x≠"__name__"->mb x=bootBuiltins x) (SH:bL.heap.NoLimit) (hg:bL.gens=#[])
  (ha:bL.heap.get? a=some {cls:=.type "list",data:=.seq vs.toArray}) (hi:IntsAre vs ns) (hl:ns.length<=sizeLine) (hr:fP k callerA)
  (F:∀base:Heap,K.In base->base.Ns mainGlobals mg->di P w K mg base CX k fa fd [x] sp) (M4:∀(s:Shared) (u:Value),BindsTo s fd ⟨[u],[]⟩ [(x,u)])
  (Ep:∀H:Hp,Only H->dP K H a (ns.map V.int)->sp [.ref a] H (λv _=>v=.bl true) λ_ _ _=>False)
  (Sb:∀H e s',CX [] H bL (λ_ _ _=>False) e s'->False):
  codeAny (model P w) callerA (.call (.ref fa) ⟨[.ref a],[]⟩) (λr s'=>r=.ok (.ret (.bool true))/\OldK bL.heap s'.heap/\s'.os=bL.os/\AllBare s'.gens) bL:=by
 have rv:=d4 hi;have Ti:=hi.length
 -- from an abstract heap in which nothing but the script may be tracked
 have core:∀H:Hp,Only H->dP K H a (ns.map V.int)->fO P w H bL.heap->(∀b,H b≠none->b=a)->(H a≠none->K.lookup a=none) ->
   codeAny (model P w) callerA (.call (.ref fa) ⟨[.ref a],[]⟩) (λr s'=>r=.ok (.ret (.bool true))/\OldK bL.heap s'.heap/\s'.os=bL.os/\AllBare s'.gens) bL:=by
  intro H hO hS bI hA hK;have tM:∀ {b:Addr} {o:Obj},bL.heap.get? b=some o->H b=none->(nO bL.heap H).get? b=some o:=λe n=>yR e n;have N7:∀ {b:Addr} {o:Obj} {es:Array DictEntry} {ep:Nat},bL.heap.get? b=some o->o.data=.dict es ep->H b=none:=λ{b o es ep} e d=>by
   cases q:H b with
   | none=>rfl
   | some u =>
    have e':b=a:=hA b (by rw[q];simp)
    subst e';rw[ha]at e;cases e;have d':Data.seq vs.toArray _=Data.dict es ep:=d;cases d'
  have QU:∀ {b:Addr} {m:Str->Option Value},bL.heap.Ns b m->(nO bL.heap H).Ns b m:=λ{b m} ⟨o,es,ep,e,d,r⟩=>⟨o,es,ep,tM e (N7 e d),d,r⟩;have UG:K.In (nO bL.heap H):=λb o e=>tM (KX b o e) (by
   cases q:H b with
   | none=>rfl
   | some u =>
    have e':b=a:=hA b (by rw[q];simp)
    subst e';rw[hK (by rw[q];simp)]at e;cases e)
  have hM:Mod K mg (nO bL.heap H):=⟨UG,QU QF,⟨mb,QU hb,VW⟩,let ⟨mc,h1,h2⟩:=SH;⟨mc,QU h1,h2⟩⟩;have e0:BA P w K mg (nO bL.heap H) callerA [] bL H:=⟨rfl,hM,λb o e=>CF e,Nat.le_of_eq (vE _ _),trivial,λb hb=>absurd (show b∈([]:List Addr)from hb) (by simp),bI,.of_eq hg⟩
  refine codeAny_mono ((F _ UG (QU QF)).run callerA [] bL H ⟨[.ref a],[]⟩ [.ref a] [.ref a] _ _ hr e0 (M4 bL (.ref a)) (.cons rfl .nil) (Ep H hO hS)) λr s' h=>?_;cases r with
  | error e=>exact(Sb H e s' h).elim
  | ok fl =>
   cases fl with
   | next=>exact False.elim h
   | brk=>exact False.elim h
   | cont=>exact False.elim h
   | ret u =>
    obtain⟨v,H',os,bare,un,SR,r',q⟩:=h;have q':v=.bl true:=q;subst q';obtain rfl:u=Value.bool true:=r';refine⟨rfl,OldK.of_keep λb o e=>?_,os,bare⟩;cases q:H b with
    | none=>exact un.keep b o e q (by intro z;exact absurd (show b∈([]:List Addr)from z) (by simp)) (by simp)
    | some u =>
     rcases hO b with z|⟨ob,xs,z⟩
     ·rw[q]at z;cases z
     ·have z2:=un.nM b ob _ z
      obtain⟨e1,_⟩:=bI b _ z;obtain⟨e2,_⟩:=SR b _ z2;rw[e]at e1;cases e1;exact e2
 cases hk:K.lookup a with
 | some o =>
  -- the script is one of the module's own objects
  have e:=KX a o hk;rw[ha]at e;cases e;refine core (λ_=>none) (λ_=>.inl rfl) (.inr ⟨_,vs.toArray,_,hk,rfl,rfl,rfl,by rw[List.size_toArray,Ti];exact hl,by simpa using rv⟩) (λb u z=>by have z':(none:Option HO)=some u:=z;cases z') (λb z=>absurd rfl z) λz=>absurd rfl z
 | none =>
  refine core (λb=>if b=a then some (.mC {cls:=.type "list",data:=.seq vs.toArray} (.lst (ns.map V.int)))else none) (λb=>?_) (.inl (.inr ⟨{cls:=.type "list",data:=.seq vs.toArray},if_pos rfl⟩)) (λb u z=>?_) (λb z=>?_) λ_=>hk
  ·by_cases hb:b=a
   ·exact .inr ⟨_,_,if_pos hb⟩
   ·exact .inl (if_neg hb)
  ·by_cases hb:b=a
   ·have z':=(if_pos hb).symm.trans z
    cases z';subst hb;exact⟨ha,by rw[List.length_map];exact hl,vs,_,rv,ha⟩
   ·have z':=(if_neg hb).symm.trans z
    cases z'
  ·by_cases hb:b=a
   ·exact hb
   ·exact absurd (if_neg hb) z
end L2
namespace L2
open PySem PySem.Spec PyProof.Rows
theorem Dz{l:PySem.W.OpenLaw}{n k:Nat}{q:Program}{loose:List Str}{XP:(Str->Option Value)->Heap->Prop}{YP:World->Heap->Prop}{d:DefRec}{K:Params->PySem.W.Frag}{CX:World->wH}{sp:World->Sp}{x:Str}
  (hn:l.most=some n) (Bq:n<=sizeLine) (M5:d.params.defaults=[]) (hr:fP k callerA)
  (hY:∀(w:World) (h:Heap),YP w h->(K w.params).In h)
  (F:∀(w:World) (mg:Str->Option Value) (fa:Addr) (h:Heap),(K w.params).In h->h.Ns mainGlobals mg->mg d.name=some (.ref fa) ->
   ∃fd:FuncData,(∀(s:Shared) (u:Value),BindsTo s fd ⟨[u],[]⟩ [(x,u)]) /\
    ∀base:Heap,(K w.params).In base->base.Ns mainGlobals mg->di l.prog w (K w.params) mg base (CX w) k fa fd [x] (sp w))
  (Ep:∀(w:World) (H:Hp) (a:Addr) (ns:List Int),ns.length<=n->Only H->dP (K w.params) H a (ns.map V.int)->sp w [.ref a] H (λv _=>v=.bl true) λ_ _ _=>False)
  (Sb:∀(w:World) (H:Hp) (s:Shared) (e:Value) (s':Shared),CX w [] H s (λ_ _ _=>False) e s'->False):
  PySem.W.WalkO q loose XP YP l.row.toRowW d [] (λf vs=>PySem.call f vs):=by
 refine Ut.pF hn M5 λw cG bL mg mb fa o pm cd doc a vs ns G Y ho hd qm hmg Hd hints hlen hg=>?_;have KX:=hY w _ Y;obtain⟨fd,hb,hF⟩:=F w mg fa _ KX G.T.g hmg;exact zf KX G.T.g G.T.b G.T.builtins G.T.nolimit hg Hd hints (Nat.le_trans hlen Bq) hr hF hb (λH hO hS=>Ep w H a ns hlen hO hS) λH e s'=>Sb w H bL e s'
end L2
namespace L2
open PySem PySem.Spec PyProof.Rows
def aX(s:Stmt):Arguments:=match s with
 | .FunctionDef _ a _ _ _ _ _ _ _ _=>a
 | _=>{posonlyargs:=[],args:=[],vararg:=none,kwonlyargs:=[],kw_defaults:=[],kwarg:=none,defaults:=[]}
def az(s:Stmt):List Stmt:=match s with
 | .FunctionDef _ _ b _ _ _ _ _ _ _=>b
 | _=>[]
def ah(s:Stmt):Scope:=match s with
 | .FunctionDef _ _ _ _ _ _ sc _ _ _=>sc
 | _=>{kind:=.function,names:=[],isGenerator:=false,isCoroutine:=false}
abbrev m8:wH:=λ_ _ _ _ _ _=>False
abbrev E0:XK:=λ_ _ _=>False
theorem uA{X:Cx}:Passes m8 X E0:=λ_ _ _ _ _ _ _ h=>h.elim
structure D0(K:PySem.W.Frag)(x qual:Str)(st:Stmt)(f:Addr)(fd:FuncData):Prop where
 ex:∃(oc:Value) (od:Option Addr) (kV doc pm:Value) (an:Option Addr) (gB ct:Value) (CO:Array (Option Value)),
  fd=PySem.W.fnOf x qual (aX st) (az st) (ah st) .none kV doc pm an gB ct/\K.lookup f=some ⟨oc,od,.func fd,CO⟩/\PySem.W.codeIn K gB qual=true
 kp:PySem.W.keepIn K (.ref f)=true
section
variable {P:Program}{w:World}{K:PySem.W.Frag}{mg:Str->Option Value}{base:Heap}
theorem D0.ok{x qual:Str}{st:Stmt}{f:Addr}{fd:FuncData}{N ps:List Str}{k:Nat}{sp:Sp}(F:D0 K x qual st f fd)(S:aP N ps (ah st))(len:∀vs H Q E,sp vs H Q E->vs.length=ps.length)
  (yN:∀(gB:Value) (A:Around) (outer:List Env) (s:Shared) (H:Hp) (vs:List V) (Q:VK) (E:XK),fP k (A.deeper (envOfC qual (ah st) s.heap.objs.size f gB))->sp vs H Q E ->
   ∃t,lW (nC m8 P w K mg base N qual (ah st) f gB A outer s H E).HX (az st) t/\t {nx:=λ_ H'=>Q .bB H',rt:=Q} (start N vs) H):di P w K mg base m8 (k+1) f fd ps sp:=by
 obtain⟨oc,od,kV,doc,pm,an,gB,ct,CO,rfl,lk,qm⟩:=F.ex;refine MV lk qm S len λA outer s H vs Q E hr Ep=>?_;obtain⟨t,h,q⟩:=yN gB A outer s H vs Q E hr Ep;exact⟨t,h.HX,q⟩
theorem D0.binds{x qual:Str}{st:Stmt}{f:Addr}{fd:FuncData}{ps:List Str}(F:D0 K x qual st f fd)
  (h:∀(kV doc pm:Value) (an:Option Addr) (gB ct:Value) (us:List Value),us.length=ps.length->bindArgs (PySem.W.fnOf x qual (aX st) (az st) (ah st) .none kV doc pm an gB ct) ⟨us,[]⟩=pure (ps.zip us)):Binds K fd ps []:=by
 obtain⟨oc,od,kV,doc,pm,an,gB,ct,CO,rfl,lk,qm⟩:=F.ex;exact .all (h kV doc pm an gB ct)
theorem bM{x qual:Str}{st:Stmt}{f:Addr}{oc:Value}{od an:Option Addr}{CO:Array (Option Value)}{kV doc pm gB ct:Value}(l:K.lookup f=some ⟨oc,od,.func (PySem.W.fnOf x qual (aX st) (az st) (ah st) .none kV doc pm an gB ct),CO⟩)
  (c:PySem.W.codeIn K gB qual=true) (k:PySem.W.keepIn K (.ref f)=true):D0 K x qual st f (PySem.W.fnOf x qual (aX st) (az st) (ah st) .none kV doc pm an gB ct):=⟨⟨oc,od,kV,doc,pm,an,gB,ct,CO,rfl,l,c⟩,k⟩
end
def aq(H H':Hp):Prop:=∀b o,H b=some o->H' b=some o
theorem aq.refl(H:Hp):aq H H:=λ_ _ h=>h
theorem aq.trans{H H1 H2:Hp}(a:aq H H1)(b:aq H1 H2):aq H H2:=λc o h=>b c o (a c o h)
theorem aq.free{H H':Hp}(e:aq H H'){l:Addr}(h:H' l=Option.none):H l=Option.none:=by
 cases q:H l with
 | none=>rfl
 | some o =>
  rw[e l o q]at h;cases h
theorem aq.seq{K:PySem.W.Frag}{H H':Hp}{a:Addr}{xs:List V}(e:aq H H')(h:dP K H a xs):dP K H' a xs:=by
 rcases h with(h|⟨o,h⟩)|h
 ·exact .inl (.inl (e _ _ h))
 ·exact .inl (.inr ⟨o,e _ _ h⟩)
 ·exact .inr h
end L2
namespace L2
open PySem PySem.Spec PyProof.Rows
section
variable {κ:Type}[DecidableEq κ]
def de(kvs:List (κ×V))(k:κ):Option V:=(kvs.find? λkv=>decide (kv.1=k)).map (·.2)
def putK(kvs:List (κ×V))(k:κ)(v:V):List (κ×V):=
 if(kvs.any λkv=>decide (kv.1=k))=true then kvs.map (λkv=>if kv.1=k then(kv.1,v)else kv)else kvs++[(k,v)]
theorem fz{p:κ×V}{r:List (κ×V)}{k:κ}(e:p.1=k):de (p::r) k=some p.2:=by simp [de,List.find?_cons,e]
theorem fy{p:κ×V}{r:List (κ×V)}{k:κ}(e:¬p.1=k):de (p::r) k=de r k:=by simp [de,List.find?_cons,e]
theorem k8(k:κ):∀kvs:List (κ×V),(kvs.any λkv=>decide (kv.1=k))=(de kvs k).isSome
 | []=>rfl
 | p::r=>by
  rw[List.any_cons]
  by_cases e:p.1=k
  ·simp only[fz e,decide_eq_true e,Bool.true_or,Option.isSome_some]
  ·rw[fy e,decide_eq_false e,Bool.false_or];exact k8 k r
theorem e9(kvs:List (κ×V))(k:κ)(v:V):(putK kvs k v).length<=kvs.length+1:=by
 unfold putK
 split
 ·rw[List.length_map];omega
 ·rw[List.length_append,List.length_cons,List.length_nil];omega
theorem zY{kvs:List (κ×V)}{k:κ}(v:V)(h:de kvs k=none):putK kvs k v=kvs++[(k,v)]:=by
 unfold putK;rw[k8,h];exact if_neg ∅
theorem rS.iT{o:Option V}{u:Option Value}(r:rS o u):o.isSome=u.isSome:=by
 cases o with
 | none=>cases u with
  | none=>rfl
  | some _=>exact(show False from r).elim
 | some _=>cases u with
  | none=>exact(show False from r).elim
  | some _=>rfl
theorem KV.val{kvs:List (κ×V)}{vs:List (κ×Value)}(r:KV kvs vs)(k:κ):rS (de kvs k) (valueAt vs k):=by
 unfold KV at r
 induction r with
 | nil=>exact True.intro
 | @cons p q ps qs h t ih =>
  obtain⟨h1,h2⟩:=h
  by_cases e:p.1=k
  ·have e':q.1=k:=h1.symm.trans e
   have b:valueAt (q::qs) k=some q.2:=by simp [valueAt,List.find?_cons,e']
   rw[fz e,b];exact h2
  ·have e':¬q.1=k:=λz=>e (h1.trans z)
   have b:valueAt (q::qs) k=valueAt qs k:=by simp [valueAt,List.find?_cons,e']
   rw[fy e,b];exact ih
theorem KV.any{kvs:List (κ×V)}{vs:List (κ×Value)}(r:KV kvs vs)(k:κ):(kvs.any λkv=>decide (kv.1=k))=vs.any λkv=>decide (kv.1=k):=by
 unfold KV at r
 induction r with
 | nil=>rfl
 | cons h t ih=>rw[List.any_cons,List.any_cons,ih,h.1]
theorem KV.repl{kvs:List (κ×V)}{vs:List (κ×Value)}(r:KV kvs vs)(k:κ){y:V}{u:Value}(ry:RelV y u):
  KV (kvs.map λkv=>if kv.1=k then(kv.1,y)else kv) (vs.map λkv=>if kv.1=k then(kv.1,u)else kv):=by
 unfold KV at r ⊢
 induction r with
 | nil=>exact .nil
 | @cons p q ps qs h t ih =>
  rw[List.map_cons,List.map_cons];refine .cons ?_ ih;obtain⟨h1,h2⟩:=h
  by_cases e:p.1=k
  ·rw[if_pos e,if_pos (h1.symm.trans e)];exact⟨h1,ry⟩
  ·rw[if_neg e,if_neg (λz=>e (h1.trans z))];exact⟨h1,h2⟩
theorem KV.put{kvs:List (κ×V)}{vs:List (κ×Value)}(r:KV kvs vs)(k:κ){y:V}{u:Value}(ry:RelV y u):KV (putK kvs k y) (stored vs k u):=by
 unfold putK stored;rw[r.any k]
 by_cases e:(vs.any λkv=>decide (kv.1=k))=true
 ·rw[if_pos e,if_pos e];exact r.repl k ry
 ·rw[if_neg e,if_neg e];exact Paired.snoc r ⟨rfl,ry⟩
theorem KV.length{kvs:List (κ×V)}{vs:List (κ×Value)}(r:KV kvs vs):kvs.length=vs.length:=Paired.length r
end
theorem uk{P:Program}{w:World}{k:Key}{u:Value}(r:RelV (kV k) u):(bO P w).is k u=true:=by
 cases k with
 | inl i=>obtain⟨t,e⟩:=(show∃t,u=Value.int i t from r);subst e;exact qH P w i t
 | inr x=>obtain⟨t,e⟩:=(show∃t,u=Value.str x t from r);subst e;exact qI P w x t
theorem mE{P:Program}{w:World}:∀ {ks:List Key} {us:List Value},Vals (ks.map kV) us->ItemsAre (bO P w) ks us
 | [],_,r=>by rw[List.map_nil]at r;cases r;exact .nil
 | k::ks,_,r=>by
  rw[List.map_cons]at r;cases r with
  | cons h t=>exact .cons (uk h) (mE t)
abbrev KT(H:Hp):List (List Key×V)->List (List Key×Addr×Value)->Prop:=Paired λp q=>p.1=q.1/\H q.2.1=some (.tup (p.1.map kV))/\RelV p.2 q.2.2
theorem KT.val{H:Hp}{kvs:List (List Key×V)}{xs:List (List Key×Addr×Value)}(r:KT H kvs xs)(k:List Key):rS (de kvs k) ((atKey xs k).map (·.2)):=by
 induction r with
 | nil=>exact True.intro
 | @cons p q ps qs h t ih =>
  obtain⟨h1,_,h2⟩:=h
  by_cases e:p.1=k
  ·have e':q.1=k:=h1.symm.trans e
   have b:atKey (q::qs) k=some q.2:=by simp [atKey,List.find?_cons,e']
   rw[fz e,b];exact h2
  ·have e':¬q.1=k:=λz=>e (h1.trans z)
   have b:atKey (q::qs) k=atKey qs k:=by simp [atKey,List.find?_cons,e']
   rw[fy e,b];exact ih
theorem KT.repl{H:Hp}{kvs:List (List Key×V)}{xs:List (List Key×Addr×Value)}(r:KT H kvs xs)(k:List Key){y:V}{u:Value}(ry:RelV y u):
  KT H (kvs.map λkv=>if kv.1=k then(kv.1,y)else kv) (xs.map (putAt k u)):=by
 induction r with
 | nil=>exact .nil
 | @cons p q ps qs h t ih =>
  rw[List.map_cons,List.map_cons];refine .cons ?_ ih;obtain⟨h1,h2,h3⟩:=h;unfold putAt
  by_cases e:p.1=k
  ·rw[if_pos e,if_pos (h1.symm.trans e)];exact⟨h1,h2,ry⟩
  ·rw[if_neg e,if_neg (λz=>e (h1.trans z))];exact⟨h1,h2,h3⟩
theorem KT.put{H:Hp}{kvs:List (List Key×V)}{xs:List (List Key×Addr×Value)}(r:KT H kvs xs)(k:List Key){b:Addr}{y:V}{u:Value}(hb:H b=some (.tup (k.map kV)))(ry:RelV y u):
  KT H (putK kvs k y) (storedH xs k b u):=by
 have e:(kvs.any λkv=>decide (kv.1=k))=(atKey xs k).isSome:=by
  rw[k8,(r.val k).iT,Option.isSome_map]
 unfold putK storedH;rw[e]
 by_cases q:(atKey xs k).isSome=true
 ·rw[if_pos q,if_pos q];exact r.repl k ry
 ·rw[if_neg q,if_neg q];exact Paired.snoc r ⟨rfl,hb,ry⟩
theorem KT.keeps{H H':Hp}{kvs:List (List Key×V)}{xs:List (List Key×Addr×Value)}(r:KT H kvs xs)(ht:∀b ys,H b=some (.tup ys)->H' b=some (.tup ys)):KT H' kvs xs:=
 Paired.HN r λ_ _ z=>⟨z.1,ht _ _ z.2.1,z.2.2⟩
section
variable {P:Program}{w:World}{H:Hp}{h:Heap}{a:Addr}
theorem EL{u:HO}(ok:fO P w H h)(e:Rd H a u):bF P w H h a u:=e.ok ok
theorem Ee{kvs:List (Key×V)}(ok:fO P w H h)(e:Rd H a (.dK kvs)):kvs.length<=sizeLine/\(a==sysModules)=false/\∃vs,KV kvs vs/\h.DictOf (bO P w) a vs:=
 show bF P w H h a (.dK kvs)from EL ok e
theorem tS{kvs:List (Key×V)}(ok:fO P w H h)(e:H a=some (.dK kvs)):kvs.length<=sizeLine/\(a==sysModules)=false/\∃vs,KV kvs vs/\h.DictOf (bO P w) a vs:=Ee ok (.inl e)
theorem sx{ks:List Key}(ok:fO P w H h)(e:H a=some (.tup (ks.map kV))):(tupleKind (bO P w)).is h ks a:=by
 obtain⟨_,its,r,o,h1,h2,n,h3⟩:=(show bF P w H h a (.tup (ks.map kV))from ok a _ e)
 exact⟨o,its.toArray,n,h1,h2,h3,by simpa using mE r⟩
theorem Ef{kvs:List (List Key×V)}(ok:fO P w H h)(e:Rd H a (.dT kvs)):kvs.length<=sizeLine/\(a==sysModules)=false /\
  ∃xs,KT H kvs xs/\h.DictOfH (tupleKind (bO P w)) a xs:=by
 obtain⟨z,y,xs,r,o,es,ep,h1,h2,h3,h4,h5⟩:=(show bF P w H h a (.dT kvs)from EL ok e)
 refine⟨z,y,xs,r,o,es,ep,h1,h2,h3,h4,λx hx=>?_,h5⟩;have all:∀ {l:List (List Key×V)} {m:List (List Key×Addr×Value)},KT H l m->∀x∈m,(tupleKind (bO P w)).is h x.1 x.2.1:=by
  intro l m q
  induction q with
  | nil=>intro x hx;exact nomatch hx
  | @cons p q ps qs hq t ih =>
   intro x hx;rcases List.mem_cons.mp hx with e|hx
   ·subst e
    exact sx ok (by rw[<- hq.1];exact hq.2.1)
   ·exact ih x hx
 exact all r x hx
theorem Mv{kvs:List (List Key×V)}(ok:fO P w H h)(e:H a=some (.dT kvs)):kvs.length<=sizeLine/\(a==sysModules)=false /\
  ∃xs,KT H kvs xs/\h.DictOfH (tupleKind (bO P w)) a xs:=Ef ok (.inl e)
end
def wW(H:Hp)(a:Addr)(y:V)(r:Option V):Prop:=
 (∃kvs k,Rd H a (.dK kvs)/\y=kV k/\r=de kvs k)\/∃kvs k b,Rd H a (.dT kvs)/\y=.ref b/\H b=some (.tup (k.map kV))/\r=de kvs k
def Bx(H:Hp)(a:Addr)(y v:V)(H':Hp):Prop:=
 (∃kvs k,H a=some (.dK kvs)/\y=kV k/\kvs.length<sizeLine/\H'=upd H a (.dK (putK kvs k v))) \/
 ∃kvs k b,H a=some (.dT kvs)/\y=.ref b/\H b=some (.tup (k.map kV))/\kvs.length<sizeLine/\H'=upd H a (.dT (putK kvs k v))
theorem wW.k{H:Hp}{a:Addr}{kvs:List (Key×V)}{k:Key}(e:H a=some (.dK kvs)):wW H a (kV k) (de kvs k):=.inl ⟨kvs,k,.inl e,rfl,rfl⟩
theorem Bx.k{H:Hp}{a:Addr}{kvs:List (Key×V)}{k:Key}{v:V}(e:H a=some (.dK kvs))(hl:kvs.length<sizeLine):Bx H a (kV k) v (upd H a (.dK (putK kvs k v))):=.inl ⟨kvs,k,e,rfl,hl,rfl⟩
section
variable {X:Cx}{pins:List (Addr×Obj)}{σ:St}{H:Hp}{s:Shared}{a:Addr}{y v:V}{u r:Value}{o:Option V}{A:Around}{E:Value->Shared->Prop}
theorem Inv.big(I:Inv X pins σ H s):sysModules<s.heap.objs.size:=by
 have h:mainGlobals<s.heap.objs.size:=(I.mod.glob.keeps I.bk).lt;exact Nat.lt_trans ∅ h
theorem BP{Q:Value->Shared->Prop}(hu:A.units+1<cLine)(I:Inv X pins σ H s)(g:wW H a y o)(ry:RelV y u)(h:∀s',Inv X pins σ H s'->Q (.bool (!o.isSome)) s'):
  wpAny (model X.prog X.w) A (compareOp .NotIn u (.ref a)) Q E s:=by
 rcases g with⟨kvs,k,e,ey,l⟩|⟨kvs,k,b,e,ey,eb,l⟩
 ·subst ey
  obtain⟨z,hd,vs,rel,dd⟩:=Ee I.bI e;refine wpAny_notIn_of (uk ry) hd dd.mapOf ?_;rw[<- (rel.val k).iT,<- l];exact h _ (I.tok _)
 ·subst ey
  cases(show u=Value.ref b from ry)
  obtain⟨z,hd,xs,rel,dd⟩:=Ef I.bI e;refine wpAny_notIn_heap (tupleKind_room_in1 hu) (sx I.bI eb) hd dd ?_;have q:=(rel.val k).iT;rw[Option.isSome_map]at q;rw[<- q,<- l];exact h _ (I.tok _)
theorem nD{h':Heap}{t':Nat}{ob:HO}(I:Inv X pins σ H s)(mu:Lx (H a))(hs:Heap.SameBut a s.heap h')(he:∃q,h'.get? a=some q)(new:bF X.prog X.w (upd H a ob) h' a ob):
  Inv X pins σ (upd H a ob) {s with heap:=h',toks:=t'}:=
 I.write (x:=a) (e:=a) mu (.inl rfl) (λb q hb z=>(hs.2 b hb).trans z) he new
theorem ya{P:Program}{w:World}{H':Hp}{h':Heap}{kvs:List (Key×V)}{vs:List (Key×Value)}(z:kvs.length<=sizeLine)(hd:(a==sysModules)=false)(rel:KV kvs vs)(dd:h'.DictOf (bO P w) a vs):
  bF P w H' h' a (.dK kvs):=⟨z,hd,vs,rel,dd⟩
theorem vv{H':Hp}{Q:Unit->Shared->Prop}(hu:A.units+1<cLine)(I:Inv X pins σ H s)(g:Bx H a y v H')(ry:RelV y u)(rv:RelV v r)(h:∀s',Inv X pins σ H' s'->Q () s'):
  wpAny (model X.prog X.w) A (setItem (.ref a) u r) Q E s:=by
 rcases g with⟨kvs,k,e,ey,l,eH⟩|⟨kvs,k,b,e,ey,eb,l,eH⟩
 ·subst ey eH
  obtain⟨z,hd,vs,rel,dd⟩:=tS I.bI e;have hz:vs.length<=sizeLine:=by rw[<- rel.length];exact z
  have hl:(putK kvs k v).length<=sizeLine:=by have:=e9 kvs k v;omega
  refine wpAny_setItem_pairs (hsz:=hz) (uk ry) dd λh' Gy hs=>h _ ?_;have he:∃q,h'.get? a=some q:=let ⟨q,_,_,hq,_⟩:=Gy;⟨q,hq⟩;exact nD I (by rw[e];exact True.intro) hs he (ya hl hd (rel.put k rv) Gy)
 ·subst ey eH
  cases(show u=Value.ref b from ry)
  obtain⟨z,hd,xs,rel,dd⟩:=Mv I.bI e;have hz:xs.length<=sizeLine:=by rw[<- Paired.length rel];exact z
  have hl:(putK kvs k v).length<=sizeLine:=by have:=e9 kvs k v;omega
  refine wpAny_setItem_heap (hsz:=hz) (tupleKind_room_in1 hu) (sx I.bI eb) dd λh' Gy hs=>h _ ?_;obtain⟨q,es,ep,hq,h2,h3,h4,_,h5⟩:=Gy;refine nD I (by rw[e];exact True.intro) hs ⟨q,hq⟩ ⟨hl,hd,_,(rel.put k eb rv).keeps λc ys ec=>?_,q,es,ep,hq,h2,h3,h4,h5⟩
  rw[ak (N6 ec e (λz=>nomatch z))];exact ec
end
def Px(td ty tv:TE):TS:=λD σ H=>tv σ H λv H1=>td σ H1 λx H2=>ty σ H2 λy H3=>∃a H4,x=.ref a/\Bx H3 a y v H4/\D.nx σ H4
section
variable {X:Cx}{o i e value:Expr}{pos pos' tpos:Pos}{td ty tv:TE}
theorem C1(hu:X.A.units+1<cLine)(ho:PE X o td)(hi:PE X i ty)(hv:PE X value tv)(hs:swapsWith value (some (.Subscript o i pos')) pos.line X.env=pure false):
  PS X (.Assign [.Subscript o i pos'] value pos) (Px td ty tv):=by
 intro pins s σ H D I h;refine wpAny_Assign_Subscript (cq (hv pins s σ H _ I h) λr s1 ⟨v,H1,I1,rv,q1⟩=>cq (ho pins s1 σ H1 _ I1 q1) λu s2 ⟨x,H2,I2,rx,q2⟩=>cq (hi pins s2 σ H2 _ I2 q2) λiv s3 ⟨y,H3,I3,ry,a,H4,ex,g,q3⟩=>?_) hs;subst ex;obtain rfl:u=Value.ref a:=rx;exact vv hu I3 g ry rv λs4 I4=>⟨σ,H4,I4,q3⟩
end
theorem xZ{P:Program}{w:World}{H:Hp}(h:Heap)(hb:sysModules<h.objs.size):bF P w H (h.push {cls:=.type "dict",data:=.dict #[]}) h.objs.size (.dK []):=
 ⟨Nat.zero_le _,beq_eq_false_iff_ne.mpr (Ne.symm (Nat.ne_of_lt hb)),[],.nil,Heap.DictOf.new h⟩
def Ka:TE:=λ_ H Q=>∀p,H p=none->Q (.ref p) (upd H p (.dK []))
section
variable {X:Cx}{pos:Pos}
theorem qM:PE X (.Dict [] [] pos) Ka:=λpins s σ H Q I h =>
 wpAny_Dict_empty ⟨.ref s.heap.objs.size,_,I.laid (a:=s.heap.objs.size) (o:=.dK []) (t':=s.toks) (λ_ _ q=>Heap.get?_push_of_some _ q) (Nat.le_refl _) (xZ s.heap I.big),rfl,h _ (I.bI.fresh (Nat.le_refl _))⟩
end
def o5:List (TE×TE)->St->Hp->(List (V×V)->Hp->Prop)->Prop
 | [],_,H,Q=>Q [] H
 | (tk,tv)::r,σ,H,Q=>tk σ H λx H1=>tv σ H1 λy H2=>o5 r σ H2 λps H3=>Q ((x,y)::ps) H3
end L2
namespace Vc
open PySem L2
class KF where
 K:PySem.W.Frag
 /-- where the classes of exceptions stand -/
 cls:Str->Addr:=λ_=>0
 /-- the code tables that a lambda fills: where,as they were,the lambda's place,its name -/
 tabs:List (Addr×Array Value×Pos×Str):=[]
variable [KF]
inductive D where
 | bB|bl (b:Bool)|int (i:Int)|str (x:Str)|tup (xs:List D)|lst (xs:List D)|dct (kvs:List (D×D))|exc (c:Str)
 /-- the law's own list: read,never changed -/
 | gw (ns:List Int)
 /-- a dict with whole numbers for keys -/
 | jC (kvs:List (Int×D))
 /-- kept points: the word,the count,the next name,the points by their names -/
 | kp (w:Str) (c e:Int) (kvs:List (Int×D))
def RV(a:Addr)(c:Str):HO:=.ext λh=>∃o,h.get? a=some o/\o.cls=.ref (KF.cls c)
def kD:Key->D
 | .inl i=>.int i
 | .inr x=>.str x
def Td(w:Str)(c e:Int)(ad:Addr):List (Str×V):=[("way",.str w),("count",.int c),("points_by_name",.ref ad),("ever_put",.int e)]
mutual
inductive Rep (F:Hp):V->D->Prop where
 | bB:Rep F .bB .bB
 | bl (b:Bool):Rep F (.bl b) (.bl b)
 | int (i:Int):Rep F (.int i) (.int i)
 | str (x:Str):Rep F (.str x) (.str x)
 | tup {a:Addr} {vs:List V} {ds:List D}:F a=some (.tup vs)->aC F vs ds->Rep F (.ref a) (.tup ds)
 | lst {a:Addr} {vs:List V} {ds:List D}:Rd F a (.lst vs)->aC F vs ds->Rep F (.ref a) (.lst ds)
 | gw {a:Addr} {ns:List Int}:dP KF.K F a (ns.map V.int)->Rep F (.ref a) (.gw ns)
 | exc {a:Addr} {c:Str}:F a=some (RV a c)->Rep F (.ref a) (.exc c)
 | BQ {a:Addr} {ks:List (List Key×V)} {kvs:List (D×D)}:F a=some (.dT ks)->nc F ks kvs->Rep F (.ref a) (.dct kvs)
 | jC {a:Addr} {ks:List (Key×V)} {kvs:List (Int×D)}:F a=some (.dK ks)->bX F ks kvs->Rep F (.ref a) (.jC kvs)
 | kp {a dx ad:Addr} {w:Str} {c e:Int} {ks:List (Key×V)} {kvs:List (Int×D)}:F a=some (.ins (KF.cls "Kept") dx (Td w c e ad))->F ad=some (.dK ks)->bX F ks kvs->Rep F (.ref a) (.kp w c e kvs)
inductive bX (F:Hp):List (Key×V)->List (Int×D)->Prop where
 | nil:bX F [] []
 | cons {i:Int} {v:V} {d:D} {ks:List (Key×V)} {kvs:List (Int×D)}:Rep F v d->bX F ks kvs->bX F ((.inl i,v)::ks) ((i,d)::kvs)
inductive rT (F:Hp):List (Key×V)->List (D×D)->Prop where
 | nil:rT F [] []
 | cons {k:Key} {v:V} {d:D} {ks:List (Key×V)} {kvs:List (D×D)}:Rep F v d->rT F ks kvs->rT F ((k,v)::ks) ((kD k,d)::kvs)
inductive nc (F:Hp):List (List Key×V)->List (D×D)->Prop where
 | nil:nc F [] []
 | cons {k:List Key} {v:V} {d:D} {ks:List (List Key×V)} {kvs:List (D×D)}:Rep F v d->nc F ks kvs->nc F ((k,v)::ks) ((.tup (k.map kD),d)::kvs)
inductive aC (F:Hp):List V->List D->Prop where
 | nil:aC F [] []
 | cons {v:V} {d:D} {vs:List V} {ds:List D}:Rep F v d->aC F vs ds->aC F (v::vs) (d::ds)
end
theorem Rd.mono{F F':Hp}(s:aq F F'){a:Addr}{u:HO}(h:Rd F a u):Rd F' a u:=by
 rcases h with h|⟨o,h⟩
 ·exact .inl (s a _ h)
 ·exact .inr ⟨o,s a _ h⟩
mutual
theorem Rep.mono{F F':Hp}(s:aq F F'){v:V}{d:D}:Rep F v d->Rep F' v d
 | .bB=>.bB
 | .bl b=>.bl b
 | .int i=>.int i
 | .str x=>.str x
 | .tup h r=>.tup (s _ _ h) (aC.mono s r)
 | .lst h r=>.lst (Rd.mono s h) (aC.mono s r)
 | .gw h=>.gw (s.seq h)
 | .exc h=>.exc (s _ _ h)
 | .BQ h r=>.BQ (s _ _ h) (nc.mono s r)
 | .jC h r=>.jC (s _ _ h) (bX.mono s r)
 | .kp h1 h2 r=>.kp (s _ _ h1) (s _ _ h2) (bX.mono s r)
theorem bX.mono{F F':Hp}(s:aq F F'){ks:List (Key×V)}{kvs:List (Int×D)}:bX F ks kvs->bX F' ks kvs
 | .nil=>.nil
 | .cons h r=>.cons (Rep.mono s h) (bX.mono s r)
theorem rT.mono{F F':Hp}(s:aq F F'){ks:List (Key×V)}{kvs:List (D×D)}:rT F ks kvs->rT F' ks kvs
 | .nil=>.nil
 | .cons h r=>.cons (Rep.mono s h) (rT.mono s r)
theorem nc.mono{F F':Hp}(s:aq F F'){ks:List (List Key×V)}{kvs:List (D×D)}:nc F ks kvs->nc F' ks kvs
 | .nil=>.nil
 | .cons h r=>.cons (Rep.mono s h) (nc.mono s r)
theorem aC.mono{F F':Hp}(s:aq F F'){vs:List V}{ds:List D}:aC F vs ds->aC F' vs ds
 | .nil=>.nil
 | .cons h r=>.cons (Rep.mono s h) (aC.mono s r)
end
theorem aC.length{F:Hp}:∀ {vs:List V} {ds:List D},aC F vs ds->vs.length=ds.length
 | _,_,.nil=>rfl
 | _,_,.cons _ r=>by simp [aC.length r]
theorem aC.append{F:Hp}:∀ {vs ws:List V} {ds es:List D},aC F vs ds->aC F ws es->aC F (vs++ws) (ds++es)
 | _,_,_,_,.nil,s=>s
 | _,_,_,_,.cons h r,s=>.cons h (aC.append r s)
theorem aC.get{F:Hp}:∀ {vs:List V} {ds:List D} {i:Nat} {d:D},aC F vs ds->ds[i]?=some d->∃v,vs[i]?=some v/\Rep F v d
 | _,_,_,_,.nil,e=>by simp at e
 | _,_,0,_,.cons h _,e=>by simp at e;subst e;exact⟨_,by simp,h⟩
 | _,_,i+1,_,.cons _ r,e=>by
  obtain⟨v,h1,h2⟩:=aC.get (i:=i) r (by simpa using e)
  exact⟨v,by simpa using h1,h2⟩
theorem aC.set{F:Hp}{v:V}{d:D}(h:Rep F v d):∀ {vs:List V} {ds:List D} (i:Nat),aC F vs ds->aC F (vs.set i v) (ds.set i d)
 | _,_,_,.nil=>.nil
 | _,_,0,.cons _ t=>.cons h t
 | _,_,i+1,.cons q t=>.cons q (aC.set h i t)
theorem aC.take{F:Hp}:∀ {vs:List V} {ds:List D} (n:Nat),aC F vs ds->aC F (vs.take n) (ds.take n)
 | _,_,0,_=>.nil
 | _,_,_+1,.nil=>.nil
 | _,_,n+1,.cons h r=>.cons h (aC.take n r)
theorem aC.drop{F:Hp}:∀ {vs:List V} {ds:List D} (n:Nat),aC F vs ds->aC F (vs.drop n) (ds.drop n)
 | _,_,0,r=>r
 | _,_,_+1,.nil=>.nil
 | _,_,n+1,.cons _ r=>aC.drop n r
theorem aC.rep{F:Hp}{vs:List V}{ds:List D}(r:aC F vs ds):∀n:Nat,aC F (List.replicate n vs).flatten (List.replicate n ds).flatten
 | 0=>.nil
 | n+1=>by
  rw[List.replicate_succ,List.replicate_succ,List.flatten_cons,List.flatten_cons];exact r.append (aC.rep r n)
def bP(F H:Hp)(v:V)(d:D):Prop:=match d with
 | .lst xs=>∃a vs,v=.ref a/\Rd H a (.lst vs)/\aC F vs xs
 | .jC kvs=>∃a ks,v=.ref a/\H a=some (.dK ks)/\bX F ks kvs
 | .kp w c e kvs=>∃a dx ad ks,v=.ref a/\H a=some (.ins (KF.cls "Kept") dx (Td w c e ad))/\H ad=some (.dK ks)/\bX F ks kvs
 | d=>Rep F v d
theorem aH{H:Hp}{p:Addr}{o:HO}(h:H p=none):aq H (upd H p o):=λb u e=>by
 rw[ak (bJ e h)];exact e
theorem cE{F H:Hp}(s:aq F H){a:Addr}{o:HO}(e:H a=some o):∃F',aq F F'/\aq F' H/\F' a=some o/\∀c u,F' c=some u->F c=some u\/(c=a/\u=o):=by
 cases ef:F a with
 | none =>
  refine⟨upd F a o,aH ef,λb u q=>?_,au,λc u q=>?_⟩
  ·by_cases hb:b=a
   ·subst hb;rw[au]at q;cases q;exact e
   ·rw[ak hb]at q;exact s b u q
  ·by_cases hb:c=a
   ·subst hb;rw[au]at q;cases q;exact .inr ⟨rfl,rfl⟩
   ·rw[ak hb]at q;exact .inl q
 | some u =>
  have:=s a u ef;rw[e]at this;cases this;exact⟨F,aq.refl _,s,ef,λ_ _ z=>.inl z⟩
def dl:HO->Bool
 | .dK _=>true
 | .ins _ _ _=>true
 | _=>false
structure O where
 fp:Addr->List Addr
 rep:Hp->Hp->Addr->Prop
 solid:∀ {F H:Hp} {a b:Addr} {φ:Heap->Prop},rep F H a->b∈fp a->H b≠some (.ext φ)
 nt:∀ {F H:Hp} {a b:Addr} {vs:List V},rep F H a->b∈fp a->H b≠some (.tup vs)
 mono:∀ {F F' H H':Hp} {a:Addr},aq F F'->(∀b∈fp a,H' b=H b)->rep F H a->rep F' H' a
 /-- what it is as data,where it is that -/
 view:Option D:=none
 sees:∀ {F H:Hp} {a:Addr} {d:D},rep F H a->view=some d->bP F H (.ref a) d:=by intro _ _ _ _ _ e;cases e
 lend:∀ {F H:Hp} {a:Addr} {d:D},aq F H->rep F H a->view=some d->∃F',aq F F'/\aq F' H/\Rep F' (.ref a) d/\∀c u,F' c=some u->F c=some u\/(dl u=true/\c∈fp a):=by intro _ _ _ _ _ _ e;cases e
 /-- what it is as data when it is lent as a whole -/
 deep:Option D:=none
 Et:∀ {F H:Hp} {a:Addr} {d:D},aq F H->rep F H a->deep=some d->∃F',aq F F'/\aq F' H/\Rep F' (.ref a) d:=by intro _ _ _ _ _ _ e;cases e
 /-- where it stands -/
 loc:Option Addr:=none
 N0:∀ {F H:Hp} {a b:Addr},rep F H a->loc=some b->a=b:=by intro _ _ _ _ _ e;cases e
inductive B where
 | sh (d:D)
 | own (xs:List D)
 | obj (o:O)
abbrev Sd:=List (Option B)
structure bD where
 H0:Hp
 F0:Hp
 io:List (Nat×Addr)
 /-- the addresses of things that were handed in to be changed -/
 ob:List Addr
def bD.ND(Y:bD):List Addr:=Y.io.map (·.2)
def bD.wU(Y:bD):List Addr:=Y.io.map (·.2)++Y.ob
theorem bD.ud{Y:bD}{a:Addr}(h:a∉Y.wU):a∉Y.ND:=λz=>h (List.mem_append_left _ z)
def fU(ai:Sd)(σ:St)(b:Addr):Prop:=∃(i:Nat) (o:O) (a:Addr),ai[i]?=some (some (.obj o))/\σ[i]?=some (some (.ref a))/\b∈o.fp a
def iK(F:Hp):Prop:=∀q∈KF.tabs,F q.1=some (.lam q.2.1 q.2.2.1 q.2.2.2)
theorem iK.mono{F F':Hp}(h:iK F)(s:aq F F'):iK F':=λq hq=>s _ _ (h q hq)
def pE(F H:Hp):Prop:=aq F H/\iK F
structure o9(Y:bD)(F:Hp)(ai:Sd)(σ:St)(H:Hp):Prop where
 obj:∀(i:Nat) (o:O),ai[i]?=some (some (.obj o))->∃a,σ[i]?=some (some (.ref a))/\o.rep F H a/\∀b∈o.fp a,F b=none/\H b≠none/\(Y.H0 b=none\/b∈Y.ob)
 tT:∀(i j:Nat) (o p:O) (a b:Addr),ai[i]?=some (some (.obj o))->ai[j]?=some (some (.obj p))->σ[i]?=some (some (.ref a))->σ[j]?=some (some (.ref b))->i≠j->∀c∈o.fp a,c∉p.fp b
 iE:∀(j:Nat) (xs:List D) (b:Addr),ai[j]?=some (some (.own xs))->σ[j]?=some (some (.ref b))->¬fU ai σ b
 there:∀b∈Y.ob,H b≠none
 Lc:∀b∈Y.ob,Y.H0 b≠none
 tab:iK F
theorem o9.owned{Y:bD}{F:Hp}{ai:Sd}{σ:St}{H:Hp}(X:o9 Y F ai σ H){b:Addr}(h:fU ai σ b):F b=none/\H b≠none/\(Y.H0 b=none\/b∈Y.ob):=by
 obtain⟨i,o,a,e1,e2,hb⟩:=h;obtain⟨a',e3,_,h3⟩:=X.obj i o e1;rw[e2]at e3;cases e3;exact h3 b hb
theorem o9.Ez{Y:bD}{F:Hp}{ai:Sd}{σ:St}{H:Hp}(X:o9 Y F ai σ H){b:Addr}(h:fU ai σ b){vs:List V}:H b≠some (.tup vs):=by
 obtain⟨i,o,a,e1,e2,hb⟩:=h;obtain⟨a',e3,h2,_⟩:=X.obj i o e1;rw[e2]at e3;cases e3;exact o.nt h2 hb
theorem o9.step{Y Y':bD}{F F':Hp}{ai aD:Sd}{σ bw:St}{H H':Hp}(X:o9 Y F ai σ H)(hs:aq F F')
  (QN:∀(i:Nat) (o:O),aD[i]?=some (some (.obj o))->ai[i]?=some (some (.obj o))/\bw[i]?=σ[i]?)
  (hb:∀b,fU ai σ b->H' b=H b/\F' b=none/\(Y'.H0 b=none\/b∈Y'.ob))
  (SU:∀(j:Nat) (ys:List D) (b:Addr),aD[j]?=some (some (.own ys))->bw[j]?=some (some (.ref b))->¬fU ai σ b)
  (S1:∀b∈Y'.ob,H' b≠none) (hz:∀b∈Y'.ob,b∈Y.ob/\(Y.H0 b≠none->Y'.H0 b≠none):=by exactλb hb=>⟨hb,id⟩):o9 Y' F' aD bw H' where
 obj:=λi o e=>by
  obtain⟨e1,e2⟩:=QN i o e;obtain⟨a,h1,h2,h3⟩:=X.obj i o e1;have ow:∀b∈o.fp a,fU ai σ b:=λb z=>⟨i,o,a,e1,h1,z⟩;refine⟨a,by rw[e2];exact h1,o.mono hs (λb z=>(hb b (ow b z)).1) h2,λb z=>⟨(hb b (ow b z)).2.1,?_,(hb b (ow b z)).2.2⟩⟩
  rw[(hb b (ow b z)).1];exact(h3 b z).2.1
 tT:=λi j o p a b e1 e2 e3 e4=>by
  obtain⟨q1,q2⟩:=QN i o e1;obtain⟨q3,q4⟩:=QN j p e2;rw[q2]at e3;rw[q4]at e4;exact X.tT i j o p a b q1 q3 e3 e4
 iE:=λj xs b e1 e2 ⟨i,o,a,e3,e4,hm⟩=>by
  obtain⟨q1,q2⟩:=QN i o e3;rw[q2]at e4;exact SU j xs b e1 e2 ⟨i,o,a,q1,e4,hm⟩
 there:=S1
 Lc:=λb hb=>(hz b hb).2 (X.Lc b (hz b hb).1)
 tab:=X.tab.mono hs
theorem o9.put{Y:bD}{F:Hp}{ai:Sd}{σ bw:St}{H:Hp}{i:Nat}{b':Option B}(X:o9 Y F ai σ H)(h1:∀j,j≠i->bw[j]?=σ[j]?)(hn:∀o,b'≠some (.obj o))
  (hw:∀ys a,b'=some (.own ys)->bw[i]?=some (some (.ref a))->¬fU ai σ a):o9 Y F (ai.set i b') bw H:=by
 have gs:∀ {j:Nat} {y:Option B},(ai.set i b')[j]?=some y->(j=i/\y=b')\/(j≠i/\ai[j]?=some y):=λ{j y} h=>by
  by_cases hj:j=i
  ·subst hj
   by_cases hl:j<ai.length
   ·rw[List.getElem?_set_self hl]at h;exact .inl ⟨rfl,(Option.some.inj h).symm⟩
   ·have:(ai.set j b')[j]?=none:=by rw[List.getElem?_eq_none_iff];simp;omega
    rw[this]at h;cases h
  ·rw[List.getElem?_set_ne (Ne.symm hj)]at h;exact .inr ⟨hj,h⟩
 refine X.step (aq.refl _) (λj o e=>?_) (λb hb=>⟨rfl,(X.owned hb).1,(X.owned hb).2.2⟩) (λj ys b e1 e2=>?_) X.there
 ·rcases gs e with⟨_,z⟩|⟨hj,z⟩
  ·exact absurd z.symm (hn o)
  ·exact⟨z,h1 j hj⟩
 ·rcases gs e1 with⟨rfl,z⟩|⟨hj,z⟩
  ·exact hw ys b z.symm e2
  ·rw[h1 j hj]at e2;exact X.iE j ys b z e2
theorem o9.none{Y:bD}{F:Hp}{ai:Sd}{σ:St}{H:Hp}(h:∀(i:Nat) (o:O),ai[i]?≠some (some (.obj o)))(S0:iK F)(S1:∀b∈Y.ob,H b≠none)(hz:∀b∈Y.ob,Y.H0 b≠none:=by intro b hb;cases hb):o9 Y F ai σ H where
 Lc:=hz
 tab:=S0
 obj:=λi o e=>absurd e (h i o)
 tT:=λi _ o _ _ _ e=>absurd e (h i o)
 iE:=λ_ _ _ _ _ ⟨i,o,_,e,_⟩=>h i o e
 there:=S1
def Nw(H:Hp)(b:Addr)(o:HO):Prop:=H b=none\/∃vs,o=.tup vs
structure RS(Y:bD)(F:Hp)(ai:Sd)(σ:St)(H:Hp):Prop where
 len:ai.length=σ.length
 lo:aq Y.F0 F
 fr:aq F H
 eM:∀b o,F b=some o->Y.F0 b=some o\/Nw Y.H0 b o
 old:∀b o,Y.H0 b=some o->b∉Y.wU->H b=some o
 sh:∀(i:Nat) (d:D),ai[i]?=some (some (.sh d))->∃v,σ[i]?=some (some v)/\Rep F v d
 own:∀(i:Nat) (xs:List D),ai[i]?=some (some (.own xs))->∃a vs,σ[i]?=some (some (.ref a))/\H a=some (.lst vs)/\aC F vs xs/\F a=none/\(Y.H0 a=none\/a∈Y.ND)
 dis:∀(i j:Nat) (xs ys:List D) (a:Addr),ai[i]?=some (some (.own xs))->ai[j]?=some (some (.own ys))->σ[i]?=some (some (.ref a))->σ[j]?=some (some (.ref a))->i=j
 io:∀p∈Y.io,σ[p.1]?=some (some (.ref p.2))/\∃xs,ai[p.1]?=some (some (.own xs))
 ob:o9 Y F ai σ H
theorem An{F H:Hp}{p:Addr}{o:HO}(s:aq F H):aq (upd F p o) (upd H p o):=λb u e=>by
 by_cases hb:b=p
 ·subst hb;rw[au]at e ⊢;exact e
 ·rw[ak hb]at e ⊢;exact s b u e
theorem same_none{F H:Hp}(s:aq F H){p:Addr}(h:H p=none):F p=none:=s.free h
theorem RS.bQ{Y:bD}{F:Hp}{ai:Sd}{σ:St}{H:Hp}{p:Addr}(R:RS Y F ai σ H)(h:H p=none):Y.H0 p=none/\p∉Y.wU:=by
 have cO:p∉Y.wU:=λhm=>by
  rcases List.mem_append.mp hm with hm|hm
  case inr=>exact R.ob.there p hm h
  obtain⟨q,hq,e⟩:=List.mem_map.mp hm;obtain⟨h1,xs,h2⟩:=R.io q hq;obtain⟨a,vs,h3,h4,_⟩:=R.own _ _ h2;rw[h1]at h3;cases h3;rw[e,h]at h4;cases h4
 refine⟨?_,cO⟩;cases e:Y.H0 p with
 | none=>rfl
 | some o=>rw[R.old p o e cO]at h;cases h
theorem RS.alloc{Y:bD}{F:Hp}{ai:Sd}{σ:St}{H:Hp}{p:Addr}{o:HO}(R:RS Y F ai σ H)(h:H p=none):RS Y (upd F p o) ai σ (upd H p o) where
 len:=R.len
 lo:=R.lo.trans (aH (same_none R.fr h))
 fr:=An R.fr
 eM:=λb u e=>by
  by_cases hb:b=p
  ·subst hb;exact .inr (.inl (R.bQ h).1)
  ·rw[ak hb]at e;exact R.eM b u e
 old:=λb u e n=>by
  have:=R.old b u e n;rw[ak (bJ this h)];exact this
 sh:=λi d e=>by
  obtain⟨v,h1,h2⟩:=R.sh i d e;exact⟨v,h1,h2.mono (aH (same_none R.fr h))⟩
 own:=λi xs e=>by
  obtain⟨a,vs,h1,h2,h3,h4,h5⟩:=R.own i xs e;have ck:=bJ h2 h;exact⟨a,vs,h1,by rw[ak ck];exact h2,h3.mono (aH (same_none R.fr h)),by rw[ak ck];exact h4,h5⟩
 dis:=R.dis
 io:=R.io
 ob:=R.ob.step (aH (same_none R.fr h)) (λi o e=>⟨e,rfl⟩) (λb hb=>by
  obtain⟨w1,w2,w3⟩:=R.ob.owned hb;have ck:b≠p:=λz=>w2 (z ▸ h);exact⟨ak ck,by rw[ak ck];exact w1,w3⟩) (λj ys b e1 e2=>R.ob.iE j ys b e1 e2) λb hb=>by
  have ck:b≠p:=λz=>R.ob.there b hb (z ▸ h);rw[ak ck];exact R.ob.there b hb
theorem RS.dI{Y:bD}{F:Hp}{ai:Sd}{σ:St}{H:Hp}{p:Addr}{o:HO}(R:RS Y F ai σ H)(h:H p=none):RS Y F ai σ (upd H p o) where
 len:=R.len
 lo:=R.lo
 fr:=R.fr.trans (aH h)
 eM:=R.eM
 old:=λb u e n=>aH h b u (R.old b u e n)
 sh:=R.sh
 own:=λi xs e=>by
  obtain⟨a,vs,h1,h2,h3,h4,h5⟩:=R.own i xs e;exact⟨a,vs,h1,aH h a _ h2,h3,h4,h5⟩
 dis:=R.dis
 io:=R.io
 ob:=R.ob.step (aq.refl _) (λi o e=>⟨e,rfl⟩) (λb hb=>by
  obtain⟨w1,w2,w3⟩:=R.ob.owned hb;have ck:b≠p:=λz=>w2 (z ▸ h);exact⟨ak ck,w1,w3⟩) (λj ys b e1 e2=>R.ob.iE j ys b e1 e2) λb hb=>by
  have ck:b≠p:=λz=>R.ob.there b hb (z ▸ h);rw[ak ck];exact R.ob.there b hb
inductive EV where
 | val (d:D)|var (i:Nat)|own (xs:List D)|obj (o:O)|any
inductive OV where
 | val (d:D)|var (i:Nat)|any
abbrev TX:=Sd->(EV->Sd->Prop)->Prop
abbrev TV:=Sd->(OV->Sd->Prop)->Prop
abbrev TD:=Sd->(D->Sd->Prop)->Prop
abbrev TB:=Sd->(Bool->Sd->Prop)->Prop
abbrev d6:=Sd->(List D->Sd->Prop)->Prop
structure cH(ai:Sd)(σ:St)(a:Addr):Prop where
 own:∀(j:Nat) (ys:List D),ai[j]?=some (some (.own ys))->σ[j]?≠some (some (.ref a))
 Ex:¬fU ai σ a
instance {ai:Sd} {σ:St} {a:Addr}:CoeFun (cH ai σ a) λ_=>∀(j:Nat) (ys:List D),ai[j]?=some (some (.own ys))->σ[j]?≠some (some (.ref a)):=⟨cH.own⟩
theorem RS.cD{Y:bD}{F:Hp}{ai:Sd}{σ:St}{H:Hp}(R:RS Y F ai σ H){a:Addr}(h:H a=none):cH ai σ a:=by
 refine⟨λj ys e z=>?_,λz=>(R.ob.owned z).2.1 h⟩;obtain⟨b,us,e1,e2,_⟩:=R.own j ys e;rw[e1]at z;cases z;rw[h]at e2;cases e2
def vf(F:Hp)(σ:St)(v:V):OV->Prop
 | .val d=>Rep F v d
 | .var i=>σ[i]?=some (some v)
 | .any=>True
def BF(Y:bD)(F H:Hp)(ai:Sd)(σ:St)(v:V):EV->Prop
 | .val d=>Rep F v d
 | .var i=>σ[i]?=some (some v)
 | .own xs=>∃a vs,v=.ref a/\H a=some (.lst vs)/\aC F vs xs/\F a=none/\Y.H0 a=none/\cH ai σ a
 | .obj o=>∃a,v=.ref a/\o.rep F H a/\∀b∈o.fp a,F b=none/\H b≠none/\Y.H0 b=none/\cH ai σ b
 | .any=>True
def lX(Y:bD)(t:TX):TE:=λσ H Q=>∃F ai Qd,RS Y F ai σ H/\t ai Qd/\∀v H' F' x aD,aq F F'->RS Y F' aD σ H'->BF Y F' H' aD σ v x->Qd x aD->Q v H'
def lO(Y:bD)(t:TV):TE:=λσ H Q=>∃F ai Qd,RS Y F ai σ H/\t ai Qd/\∀v H' F' x aD,aq F F'->RS Y F' aD σ H'->vf F' σ v x->Qd x aD->Q v H'
def lD(Y:bD)(t:TD):TE:=λσ H Q=>∃F ai Qd,RS Y F ai σ H/\t ai Qd/\∀v H' F' x aD,aq F F'->RS Y F' aD σ H'->Rep F' v x->Qd x aD->Q v H'
def lB(Y:bD)(t:TB):TT:=λσ H Q=>∃F ai Qd,RS Y F ai σ H/\t ai Qd/\∀b H' F' aD,aq F F'->RS Y F' aD σ H'->Qd b aD->Q b H'
def Tf(Y:bD)(t:d6):TA:=λσ H Q=>∃F ai Qd,RS Y F ai σ H/\t ai Qd/\∀vs H' F' xs aD,aq F F'->RS Y F' aD σ H'->aC F' vs xs->Qd xs aD->Q vs H'
structure GE where
 P:Program
 w:World
 K:PySem.W.Frag
 mg:Str->Option Value
 base:Heap
structure Stat where
 N:List Str
 sc:List (Str×NameKind)
 ios:List Nat:=[]
 vk:Bool:=false
 /-- within an except suite -/
 jJ:Bool:=false
 /-- a raise may stand here -/
 rs:Bool:=false
 /-- what is wanted where an exception of a class leaves -/
 ex:Str->Sd->Prop:=λ_ _=>False
def RX(a T:Addr)(c:Str):HO:=.ext λh=>∃o vs a0,h.get? a=some o/\o.cls=.ref (KF.cls c)/\o.data=.fields vs/\vs[0]?=some a0/\vs[1]?=some (.ref T)
def Xn(T:Addr):HO:=.ext λh=>∃o ts,h.get? T=some o/\o.data=.fields ts/\ts[3]?=some .none
structure Ls(X:Cx)(Y:bD)(F H:Hp)(a T:Addr)(c:Str):Prop where
 fa:F a=none
 fT:F T=none
 ha:H a=some (RX a T c)
 hT:H T=some (Xn T)
 ne:a≠T
 na:Y.H0 a=none
 nT:Y.H0 T=none
 la:X.cG.heap.get? a=none
 lT:X.cG.heap.get? T=none
def Tv(a:Addr)(c:Str):HO:=.ext λh=>∃o vs a0,h.get? a=some o/\o.cls=.ref (KF.cls c)/\o.data=.fields vs/\vs[0]?=some a0/\vs[1]?=some .none
structure dk(X:Cx)(G:GE)(k:Nat)(S:Stat)(Y:bD):Prop where
 P:X.prog=G.P
 w:X.w=G.w
 K:X.K=G.K
 kf:X.K=KF.K
 mg:X.mg=G.mg
 base:X.base=G.base
 N:X.N=S.N
 sc:X.env.scope.names=S.sc
 nd:S.N.Nodup
 ios:∀p∈Y.io,p.1∈S.ios
 obs:S.vk=false->S.ios=[]->Y.ob=[]
 calm:S.jJ=false->X.calm=true
 kind:X.env.scope.kind=.function
 fn:S.vk=false->∀x,S.sc.lookup x=some .cell->X.fn x=true
 hd:S.jJ=false->X.A.handled=none
 dp:X.A.depth+3*k+5<recursionLimit
 un:X.A.units+16*k+200<cLine
 po:S.jJ=false->PassesOwn (model X.prog X.w) X.A X.env X.xe
 nx:S.vk=false->X.ex=[]/\X.stack=X.env::X.outer/\X.env.frame=some X.env.locals
 exc:∀c ai,S.ex c ai->∀pins σ H F s a T,L2.Inv X pins σ H s->RS Y F ai σ H->Ls X Y F H a T c->X.xe (.ref a) s
 made:S.rs=true->∀c ai,S.ex c ai->∀pins σ H F s a,L2.Inv X pins σ H s->RS Y F ai σ H->H a=some (Tv a c)->Y.H0 a=none->X.cG.heap.get? a=none->X.xe (.ref a) s
theorem dk.room{X:Cx}{G:GE}{k:Nat}{S:Stat}{Y:bD}(ok:dk X G k S Y)(h:S.jJ=false):fP k X.A:=⟨ok.hd h,ok.dp,ok.un⟩
theorem dk.units{X:Cx}{G:GE}{k:Nat}{S:Stat}{Y:bD}(ok:dk X G k S Y):X.A.units+64<cLine:=by have:=ok.un;omega
variable {G:GE}{k:Nat}{S:Stat}
structure EX(G:GE)(k:Nat)(S:Stat)(e:Expr)(t:TX) :Prop where
 run:∀X Y,dk X G k S Y->PE X e (lX Y t)
instance {G:GE} {k:Nat} {S:Stat} {e:Expr} {t:TX} :CoeFun (EX G k S e t) λ_=>∀X Y,dk X G k S Y->PE X e (lX Y t):=⟨EX.run⟩
structure EO(G:GE)(k:Nat)(S:Stat)(e:Expr)(t:TV) :Prop where
 run:∀X Y,dk X G k S Y->PE X e (lO Y t)
instance {G:GE} {k:Nat} {S:Stat} {e:Expr} {t:TV} :CoeFun (EO G k S e t) λ_=>∀X Y,dk X G k S Y->PE X e (lO Y t):=⟨EO.run⟩
structure ED(G:GE)(k:Nat)(S:Stat)(e:Expr)(t:TD) :Prop where
 run:∀X Y,dk X G k S Y->PE X e (lD Y t)
instance {G:GE} {k:Nat} {S:Stat} {e:Expr} {t:TD} :CoeFun (ED G k S e t) λ_=>∀X Y,dk X G k S Y->PE X e (lD Y t):=⟨ED.run⟩
structure EB(G:GE)(k:Nat)(S:Stat)(e:Expr)(t:TB) :Prop where
 run:∀X Y,dk X G k S Y->PT X e (lB Y t)
instance {G:GE} {k:Nat} {S:Stat} {e:Expr} {t:TB} :CoeFun (EB G k S e t) λ_=>∀X Y,dk X G k S Y->PT X e (lB Y t):=⟨EB.run⟩
structure rQ(G:GE)(k:Nat)(S:Stat)(es:List Expr)(t:d6) :Prop where
 run:∀X Y,dk X G k S Y->PA X es (Tf Y t)
instance {G:GE} {k:Nat} {S:Stat} {es:List Expr} {t:d6} :CoeFun (rQ G k S es t) λ_=>∀X Y,dk X G k S Y->PA X es (Tf Y t):=⟨rQ.run⟩
def Jg:Expr->Bool
 | .Starred _ _=>false
 | _=>true
theorem fJ{e:Expr}{es:List Expr}{env:Env}(h:Jg e=true):starEach (e::es) env=(false,eval e env)::starEach es env:=by
 cases e<;>first|rfl|cases h
theorem aO{X:Cx}{e:Expr}{t t':TE}(h:PE X e t)(i:∀σ H Q,t' σ H Q->t σ H Q):PE X e t':=λpins s σ H Q I q=>h pins s σ H Q I (i σ H Q q)
theorem sR{X:Cx}{e:Expr}{t t':TT}(h:PT X e t)(i:∀σ H Q,t' σ H Q->t σ H Q):PT X e t':=λpins s σ H Q I q=>h pins s σ H Q I (i σ H Q q)
theorem n5{X:Cx}{e:List Expr}{t t':TA}(h:PA X e t)(i:∀σ H Q,t' σ H Q->t σ H Q):PA X e t':=λpos pins s σ H Q I q=>h pos pins s σ H Q I (i σ H Q q)
theorem cu{X:Cx}{e:Stmt}{t t':TS}(h:PS X e t)(i:∀D σ H,t' D σ H->t D σ H):PS X e t':=λpins s σ H D I q=>h pins s σ H D I (i D σ H q)
theorem og{X:Cx}{e:List Stmt}{t t':TS}(h:lW X e t)(i:∀D σ H,t' D σ H->t D σ H):lW X e t':=λpins s σ H D I q=>h pins s σ H D I (i D σ H q)
theorem RS.vC{Y:bD}{F:Hp}{ai:Sd}{σ:St}{H:Hp}{a:Addr}{vs:List V}(R:RS Y F ai σ H)(h1:H a=some (.lst vs))(h2:F a=none)(h3:cH ai σ a)(h4:Y.H0 a=none):RS Y (upd F a (.lst vs)) ai σ H where
 len:=R.len
 lo:=R.lo.trans (aH h2)
 fr:=λb o e=>by
  by_cases hb:b=a
  ·subst hb;rw[au]at e;cases e;exact h1
  ·rw[ak hb]at e;exact R.fr b o e
 eM:=λb u e=>by
  by_cases hb:b=a
  ·subst hb;exact .inr (.inl h4)
  ·rw[ak hb]at e;exact R.eM b u e
 old:=R.old
 sh:=λi d e=>by
  obtain⟨v,q1,q2⟩:=R.sh i d e;exact⟨v,q1,q2.mono (aH h2)⟩
 own:=λi xs e=>by
  obtain⟨b,us,q1,q2,q3,q4,q5⟩:=R.own i xs e;have ck:b≠a:=λz=>h3 i xs e (by rw[q1,z])
  exact⟨b,us,q1,q2,q3.mono (aH h2),by rw[ak ck];exact q4,q5⟩
 dis:=R.dis
 io:=R.io
 ob:=R.ob.step (aH h2) (λi o e=>⟨e,rfl⟩) (λb hb=>by
  obtain⟨w1,w2,w3⟩:=R.ob.owned hb;have ck:b≠a:=λz=>h3.Ex (z ▸ hb);exact⟨rfl,by rw[ak ck];exact w1,w3⟩) (λj ys b e1 e2=>R.ob.iE j ys b e1 e2) R.ob.there
def Qx:EV->OV
 | .val d=>.val d
 | .var i=>.var i
 | .own xs=>.val (.lst xs)
 | .obj _=>.any
 | .any=>.any
def aZ(t:TX):TV:=λσ Q=>t σ λx ax=>Q (Qx x) ax
theorem bg{e:Expr}{t:TX}(h:EX G k S e t):EO G k S e (aZ t):=.mk λX Y ok=>aO (h X Y ok) λσ H Q q=>by
 obtain⟨F,ai,Qd,R,q,K⟩:=q;refine⟨F,ai,_,R,q,λv H' F' x aD s R' r q'=>?_⟩;cases x with
 | val d=>exact K v H' F' (.val d) aD s R' r q'
 | var i=>exact K v H' F' (.var i) aD s R' r q'
 | own xs =>
  obtain⟨a,vs,rfl,h1,h2,h3,h4,h5⟩:=r;exact K _ H' _ (.val (.lst xs)) aD (s.trans (aH h3)) (R'.vC h1 h3 h5 h4) (.lst (.inl au) (h2.mono (aH h3))) q'
 | obj o=>exact K v H' F' .any aD s R' trivial q'
 | any=>exact K v H' F' .any aD s R' trivial q'
def Vo:OV->EV
 | .val d=>.val d
 | .var i=>.var i
 | .any=>.any
def oX(t:TV):TX:=λσ Q=>t σ λx ax=>Q (Vo x) ax
theorem lH{e:Expr}{t:TV}(h:EO G k S e t):EX G k S e (oX t):=.mk λX Y ok=>aO (h X Y ok) λσ H Q q=>by
 obtain⟨F,ai,Qd,R,q,K⟩:=q;refine⟨F,ai,_,R,q,λv H' F' x aD s R' r q'=>?_⟩;cases x with
 | val d=>exact K v H' F' (.val d) aD s R' r q'
 | var i=>exact K v H' F' (.var i) aD s R' r q'
 | any=>exact K v H' F' .any aD s R' trivial q'
theorem aL{α:Type}{l:List (Option α)}{i:Nat}{x:α}{y:Option α}(h:l[i]?=some (some x)):(l.set i y)[i]?=some y:=by
 have:=(List.getElem?_eq_some_iff.mp h).1;rw[List.getElem?_set_self this]
theorem aQ{α:Type}{l:List (Option α)}{i j:Nat}{y:Option α}(h:j≠i):(l.set i y)[j]?=l[j]?:=by
 rw[List.getElem?_set_ne (Ne.symm h)]
theorem RS.iP{Y:bD}{F:Hp}{ai:Sd}{σ:St}{H:Hp}{i:Nat}{xs:List D}(R:RS Y F ai σ H)(h:ai[i]?=some (some (.own xs)))(cO:∀p∈Y.io,p.1≠i):
  ∃F' v,aq F F'/\RS Y F' (ai.set i (some (.sh (.lst xs)))) σ H/\σ[i]?=some (some v)/\Rep F' v (.lst xs):=by
 obtain⟨a,vs,q1,q2,q3,q4,q5⟩:=R.own i xs h;have sm:=aH (o:=.lst vs) q4;have rep:Rep (upd F a (.lst vs)) (.ref a) (.lst xs):=.lst (.inl au) (q3.mono sm);have HR:Y.H0 a=none:=by
  rcases q5 with q5|q5
  ·exact q5
  ·obtain⟨p,hp,e⟩:=List.mem_map.mp q5
   obtain⟨w1,ys,w2⟩:=R.io p hp;exact absurd (R.dis p.1 i ys xs a w2 h (by rw[w1,e]) q1) (cO p hp)
 have W4:o9 Y (upd F a (.lst vs)) (ai.set i (some (.sh (.lst xs)))) σ H:=R.ob.step sm (λj o e=>by
  have hj:j≠i:=λz=>by subst z;rw[aL h]at e;cases e
  rw[aQ hj]at e;exact⟨e,rfl⟩) (λb hb=>by
  obtain⟨w1,w2,w3⟩:=R.ob.owned hb;have ck:b≠a:=λz=>R.ob.iE i xs a h q1 (z ▸ hb);exact⟨rfl,by rw[ak ck];exact w1,w3⟩) (λj ys b e1 e2=>by
  have hj:j≠i:=λz=>by subst z;rw[aL h]at e1;cases e1
  rw[aQ hj]at e1;exact R.ob.iE j ys b e1 e2) R.ob.there
 refine⟨upd F a (.lst vs),.ref a,sm,⟨by simpa using R.len,R.lo.trans sm,λb o e=>?_,λb o e=>?_,R.old,λj d e=>?_,λj ys e=>?_,λj l ys zs b e1 e2 e3 e4=>?_,λp hp=>?_,W4⟩,q1,rep⟩
 ·by_cases hb:b=a
  ·subst hb;rw[au]at e;cases e;exact q2
  ·rw[ak hb]at e;exact R.fr b o e
 ·by_cases hb:b=a
  ·subst hb;exact .inr (.inl HR)
  ·rw[ak hb]at e;exact R.eM b o e
 ·by_cases hj:j=i
  ·subst hj
   rw[aL h]at e;cases e;exact⟨_,q1,rep⟩
  ·rw[aQ hj]at e
   obtain⟨v,w1,w2⟩:=R.sh j d e;exact⟨v,w1,w2.mono sm⟩
 ·have hj:j≠i:=λz=>by subst z;rw[aL h]at e;cases e
  rw[aQ hj]at e;obtain⟨b,us,w1,w2,w3,w4,w5⟩:=R.own j ys e;have ck:b≠a:=λz=>hj (R.dis j i ys xs a e h (z ▸ w1) q1);exact⟨b,us,w1,w2,w3.mono sm,by rw[ak ck];exact w4,w5⟩
 ·have hj:j≠i:=λz=>by subst z;rw[aL h]at e1;cases e1
  have hl:l≠i:=λz=>by subst z;rw[aL h]at e2;cases e2
  rw[aQ hj]at e1;rw[aQ hl]at e2;exact R.dis j l ys zs b e1 e2 e3 e4
 ·obtain⟨w1,ys,w2⟩:=R.io p hp
  exact⟨w1,ys,by rw[aQ (cO p hp)];exact w2⟩
def KG(ios:List Nat)(x:OV)(ax:Sd)(Q:D->Sd->Prop):Prop:=match x with
 | .val d=>Q d ax
 | .any=>False
 | .var i=>match ax[i]? with
  | some (some (.own xs))=>i∉ios/\Q (.lst xs) (ax.set i (some (.sh (.lst xs))))
  | some (some (.sh d))=>Q d ax
  | _=>False
theorem iB{ios:List Nat}{d:D}{ax:Sd}{Q:D->Sd->Prop}:KG ios (.val d) ax Q=Q d ax:=rfl
theorem iC{ios:List Nat}{i:Nat}{ax:Sd}{Q:D->Sd->Prop}:KG ios (.var i) ax Q=(match ax[i]? with
  | some (some (.own xs))=>i∉ios/\Q (.lst xs) (ax.set i (some (.sh (.lst xs))))
  | some (some (.sh d))=>Q d ax
  | _=>False):=rfl
def av(ios:List Nat)(t:TV):TD:=λσ Q=>t σ λx ax=>KG ios x ax Q
theorem aV{e:Expr}{t:TV}(h:EO G k S e t):ED G k S e (av S.ios t):=.mk λX Y ok=>aO (h X Y ok) λσ H Q q=>by
 obtain⟨F,ai,Qd,R,q,K⟩:=q;refine⟨F,ai,_,R,q,λv H' F' x aD s R' r q'=>?_⟩;cases x with
 | val d=>exact K v H' F' d aD s R' r q'
 | any=>exact False.elim q'
 | var i =>
  have r:σ[i]?=some (some v):=r;rw[iC]at q'
  split at q'
  ·rename_i xs e
   obtain⟨hi,q'⟩:=q';obtain⟨F2,v2,s2,R2,e2,r2⟩:=R'.iP e λp hp z=>hi (z ▸ ok.ios p hp);rw[r]at e2;cases e2;exact K v H' F2 _ _ (s.trans s2) R2 r2 q'
  ·rename_i d e
   obtain⟨v2,e2,r2⟩:=R'.sh i d e;rw[r]at e2;cases e2;exact K v H' F' d aD s R' r2 q'
  ·exact q'.elim
def ag(i:Nat):TV:=λσ Q=>match σ[i]? with
 | some (some (.sh d))=>Q (.val d) σ
 | some (some (.own _))=>Q (.var i) σ
 | _=>False
theorem af(i:Nat){x:Str}{pos:Pos}(hN:S.N[i]?=some x:=by rfl)(hv:S.sc.lookup x=some .local\/S.sc.lookup x=some .cell\/S.sc.lookup x=some .free:=by first|exact Or.inl rfl|exact Or.inr (Or.inl rfl)|exact Or.inr (Or.inr rfl))
  (hd:(x==("__debug__":Str))=false:=by decide) (qm:(x==("__classdict__":Str))=false:=by decide):EO G k S (.Name x pos) (ag i):=.mk λX Y ok =>
 aO (dA (X:=X) (i:=i) (by rw[ok.N];exact hN) (by unfold vg;rw[ok.sc];exact hv) hd qm) λσ H Q q=>by
  obtain⟨F,ai,Qd,R,q,K⟩:=q;unfold ag at q
  split at q
  ·rename_i d e
   obtain⟨v,e2,r2⟩:=R.sh i d e;exact⟨v,e2,K v H F (.val d) ai (aq.refl _) R r2 q⟩
  ·rename_i xs e
   obtain⟨a,vs,e2,_⟩:=R.own i xs e;exact⟨_,e2,K _ H F (.var i) ai (aq.refl _) R e2 q⟩
  ·exact q.elim
def bp(d:D):TV:=λσ Q=>Q (.val d) σ
theorem kn{Y:bD}{v:V}{d:D}(r:∀F,Rep F v d)(σ:St)(H:Hp)(Q:VK)(q:lO Y (bp d) σ H Q):tC v σ H Q:=by
 obtain⟨F,ai,Qd,R,q,K⟩:=q;exact K v H F (.val d) ai (aq.refl _) R (r F) q
theorem aA{i j pos}:EO G k S (.Constant (.int i) j pos) (bp (.int i)):=.mk λ_ _ _=>aO Ja (kn λ_=>.int i)
theorem sS{b j pos}:EO G k S (.Constant (.bool b) j pos) (bp (.bl b)):=.mk λ_ _ _=>aO OX (kn λ_=>.bl b)
theorem EK{j pos}:EO G k S (.Constant .none j pos) (bp .bB):=.mk λ_ _ _=>aO Jb (kn λ_=>.bB)
theorem uJ{x j pos}:EO G k S (.Constant (.str x) j pos) (bp (.str x)):=.mk λ_ _ _=>aO Jd (kn λ_=>.str x)
def E6(G:GE)(x:Str)(d:D):Prop:=∃u v,G.mg x=some u/\RelV v u/\∀F,Rep F v d
theorem cA{X:Cx}{Y:bD}(ok:dk X G k S Y){x:Str}(h:S.sc.lookup x=some .globalImplicit):Gl X x:=by
 unfold Gl;show X.env.scope.names.lookup x=_;rw[ok.sc];exact h
theorem Ac{x:Str}{d:D}{pos:Pos}(h:E6 G x d)(hg:S.sc.lookup x=some .globalImplicit:=by rfl)(hd:(x==("__debug__":Str))=false:=by decide):EO G k S (.Name x pos) (bp d):=.mk λX Y ok=>by
 obtain⟨u,v,h1,h2,h3⟩:=h;exact aO (CU (cA ok hg) (by rw[ok.mg];exact h1) h2 hd) (kn h3)
def d9(σ:Sd):OV->Option D
 | .val d=>some d
 | .any=>none
 | .var i=>match σ[i]? with
  | some (some (.sh d))=>some d
  | some (some (.own xs))=>some (.lst xs)
  | some (some (.obj o))=>o.view
  | _=>none
theorem Rep.h{F H:Hp}(s:aq F H){v:V}{d:D}(r:Rep F v d):bP F H v d:=by
 cases d with
 | lst xs =>
  cases r with
  | lst h r=>exact⟨_,_,rfl,Rd.mono s h,r⟩
 | jC kvs =>
  cases r with
  | jC h r=>exact⟨_,_,rfl,s _ _ h,r⟩
 | kp w c e kvs =>
  cases r with
  | kp h1 h2 r=>exact⟨_,_,_,_,rfl,s _ _ h1,s _ _ h2,r⟩
 | _=>exact r
theorem RS.d9{Y:bD}{F:Hp}{ai:Sd}{σ:St}{H:Hp}(R:RS Y F ai σ H){v:V}{x:OV}{d:D}(r:vf F σ v x)(e:d9 ai x=some d):bP F H v d:=by
 cases x with
 | val d'=>cases e;exact Rep.h R.fr r
 | any=>cases e
 | var i =>
  have r:σ[i]?=some (some v):=r;have e:(match ai[i]? with|some (some (.sh d))=>some d|some (some (.own xs))=>some (.lst xs)|some (some (.obj o))=>o.view|_=>none)=some d:=e
  split at e
  ·rename_i d' q
   cases e;obtain⟨v2,e2,r2⟩:=R.sh i d q;rw[r]at e2;cases e2;exact Rep.h R.fr r2
  ·rename_i xs q
   cases e;obtain⟨a,vs,e2,h2,h3,_⟩:=R.own i xs q;rw[r]at e2;cases e2;exact⟨a,vs,rfl,.inl h2,h3⟩
  ·rename_i o q
   obtain⟨a,e2,h2,_⟩:=R.ob.obj i o q;rw[r]at e2;cases e2;exact o.sees h2 e
  ·cases e
theorem bP.int{F H:Hp}{v:V}{i:Int}(r:bP F H v (.int i)):v=.int i:=by cases(show Rep F v (.int i)from r);rfl
theorem bP.bl{F H:Hp}{v:V}{i:Bool}(r:bP F H v (.bl i)):v=.bl i:=by cases(show Rep F v (.bl i)from r);rfl
theorem bP.str{F H:Hp}{v:V}{i:Str}(r:bP F H v (.str i)):v=.str i:=by cases(show Rep F v (.str i)from r);rfl
theorem bP.bB{F H:Hp}{v:V}(r:bP F H v .bB):v=.bB:=by cases(show Rep F v .bB from r);rfl
theorem bP.tup{F H:Hp}(s:aq F H){v:V}{xs:List D}(r:bP F H v (.tup xs)):∃a vs,v=.ref a/\H a=some (.tup vs)/\aC F vs xs:=by
 cases(show Rep F v (.tup xs)from r)with
 | tup h r=>exact⟨_,_,rfl,s _ _ h,r⟩
theorem bP.lst{F H:Hp}{v:V}{xs:List D}(r:bP F H v (.lst xs)):∃a vs,v=.ref a/\Rd H a (.lst vs)/\aC F vs xs:=r
def Goes(Y:bD)(F:Hp)(ai:Sd)(σ:St)(Qd:EV->Prop)(Q:VK):Prop:=∀v H' F' r,aq F F'->RS Y F' ai σ H'->BF Y F' H' ai σ v r->Qd r->Q v H'
theorem Goes.val{Y:bD}{F:Hp}{ai:Sd}{σ:St}{Qd:EV->Prop}{Q:VK}(g:Goes Y F ai σ Qd Q){H:Hp}(R:RS Y F ai σ H){v:V}{d:D}(r:Rep F v d)(q:Qd (.val d)):Q v H:=g v H F (.val d) (aq.refl _) R r q
theorem Goes.own{Y:bD}{F:Hp}{ai:Sd}{σ:St}{Qd:EV->Prop}{Q:VK}(g:Goes Y F ai σ Qd Q){H:Hp}(R:RS Y F ai σ H){vs:List V}{xs:List D}(r:aC F vs xs)(q:Qd (.own xs)):∀p,H p=none->Q (.ref p) (upd H p (.lst vs)):=λp hp=>by
 refine g (.ref p) _ F (.own xs) (aq.refl _) (R.dI hp) ⟨p,vs,rfl,au,r,same_none R.fr hp,(R.bQ hp).1,⟨λj ys e z=>?_,λz=>(R.ob.owned z).2.1 hp⟩⟩ q;obtain⟨a,us,e1,e2,_⟩:=R.own j ys e;rw[e1]at z;cases z;rw[hp]at e2;cases e2
theorem Goes.tup{Y:bD}{F:Hp}{ai:Sd}{σ:St}{Qd:EV->Prop}{Q:VK}(g:Goes Y F ai σ Qd Q){H:Hp}(R:RS Y F ai σ H){vs:List V}{xs:List D}(r:aC F vs xs)(q:Qd (.val (.tup xs))):∀p,H p=none->Q (.ref p) (upd H p (.tup vs)):=λp hp=>by
 have sm:=aH (o:=.tup vs) (same_none R.fr hp);exact g (.ref p) _ _ (.val (.tup xs)) sm (R.alloc hp) (.tup au (r.mono sm)) q
def fB(r:R2)(f:D->D->(EV->Prop)->Prop):Prop:=
 ∀Y F H ai σ v u x y Qd Q,RS Y F ai σ H->bP F H v x->bP F H u y->f x y Qd->Goes Y F ai σ Qd Q->r v u H Q
def aY(f:D->D->(EV->Prop)->Prop)(ta tb:TV):TX:=λσ Q=>ta σ λx ax=>tb ax λy bx=>match d9 bx x,d9 bx y with
 | some a,some b=>f a b λr=>Q r bx
 | _,_=>False
theorem vf.mono{F F':Hp}(s:aq F F'){σ:St}{v:V}{x:OV}(r:vf F σ v x):vf F' σ v x:=by
 cases x with
 | val d=>exact Rep.mono s r
 | var i=>exact r
 | any=>trivial
theorem tf{Y:bD}{r:R2}{f:D->D->(EV->Prop)->Prop}(hs:fB r f){ta tb:TV}{σ:St}{H:Hp}{Q:VK}(q:lX Y (aY f ta tb) σ H Q):K9 r (lO Y ta) (lO Y tb) σ H Q:=by
 obtain⟨F,ai,Qd,R,q,K⟩:=q;refine⟨F,ai,_,R,q,λv1 H1 F1 x ax s1 R1 r1 q1=>?_⟩;refine⟨F1,ax,_,R1,q1,λv2 H2 F2 y bx s2 R2 r2 q2=>?_⟩
 split at q2
 ·rename_i a b ea eb
  exact hs Y F2 H2 bx σ v1 v2 a b _ Q R2 (R2.d9 (r1.mono s2) ea) (R2.d9 r2 eb) q2 λv H' F' r s R' rr qq=>K v H' F' r bx ((s1.trans s2).trans s) R' rr qq
 ·exact q2.elim
theorem mL{op:Operator}{f:D->D->(EV->Prop)->Prop}{r:PySem.W.Frag->R2}(ho:∀X,f6 X (binaryOp op) (r X.K))(hs:∀K,fB (r K) f){a b:Expr}{ta tb:TV}{pos:Pos}(ha:EO G k S a ta)(hb:EO G k S b tb):
  EX G k S (.BinOp a op b pos) (aY f ta tb):=.mk λX Y ok=>aO (OY (ho X) (ha X Y ok) (hb X Y ok)) λσ H Q q=>tf (hs X.K) q
def cY:D->D->(EV->Prop)->Prop
 | .int i,.int j,Q=>Q (.val (.int (i+j)))
 | .str a,.str b,Q=>a.length+b.length<=sizeLine/\Q (.val (.str (a++b)))
 | .lst a,.lst b,Q=>a.length+b.length<=sizeLine/\Q (.own (a++b))
 | .tup a,.tup b,Q=>(a≠[]/\a.length+b.length<=sizeLine)/\Q (.val (.tup (a++b)))
 | _,_,_=>False
def EF:R2:=λx y H Q=>∃l b xs zs,x=.ref l/\y=.ref b/\Rd H l (.lst xs)/\Rd H b (.lst zs)/\xs.length+zs.length<=sizeLine/\∀p,H p=none->Q (.ref p) (upd H p (.lst (xs++zs)))
theorem Inv.TR{X:Cx}{pins:List (Addr×Obj)}{σ:St}{H:Hp}{s:Shared}{l:Addr}{xs:List V}(I:L2.Inv X pins σ H s)(h:Rd H l (.lst xs)):
  xs.length<=sizeLine/\∃(its:List Value) (n:Nat),Vals xs its/\xs.length=its.length/\s.heap.get? l=some {cls:=.type "list",data:=.seq its.toArray n}:=by
 obtain⟨z,its,n,r,e⟩:=L2.Rd.ok h I.bI;exact⟨z,its,n,r,r.length,e⟩
theorem CL{X:Cx}:f6 X (binaryOp .Add) EF:=by
 intro pins s σ H x y v u Q I rx ry h;obtain⟨l,b,xs,zs,rfl,rfl,hH,hB,hz,q⟩:=h;cases rx;cases ry;obtain⟨z,its,n,r,hl,e⟩:=Inv.TR I hH;obtain⟨z2,qt,n2,r2,vF,e2⟩:=Inv.TR I hB;refine PySem.P.add_list e e2 ?_ (by rw[List.size_toArray,List.size_toArray];omega)
 have ea:its.toArray++qt.toArray=(its++qt).toArray:=by simp
 rw[ea];exact⟨.ref _,_,I.HK (t':=s.toks) (r.append r2) (by rw[List.length_append];omega),rfl,q _ I.fresh⟩
def C5(K:PySem.W.Frag):R2:=λx y H Q=>(∃i j,x=.int i/\y=.int j/\Q (.int (i+j)) H)\/(∃i j,x=.str i/\y=.str j/\i.length+j.length<=sizeLine/\Q (.str (i++j)) H)\/EF x y H Q\/EH K x y H Q
theorem v8{X:Cx}:f6 X (binaryOp .Add) (C5 X.K):=IG.or (sE.or (CL.or CM))
theorem vh(K:PySem.W.Frag):fB (C5 K) cY:=by
 intro Y F H ai σ v u x y Qd Q R rx ry q g;unfold cY at q
 split at q
 ·obtain rfl:=rx.int;obtain rfl:=ry.int
  exact .inl ⟨_,_,rfl,rfl,g.val R (.int _) q⟩
 ·obtain rfl:=rx.str;obtain rfl:=ry.str
  exact .inr (.inl ⟨_,_,rfl,rfl,q.1,g.val R (.str _) q.2⟩)
 ·obtain⟨a,vs,rfl,h1,r1⟩:=rx.lst;obtain⟨b,us,rfl,h2,r2⟩:=ry.lst
  exact .inr (.inr (.inl ⟨a,b,vs,us,rfl,rfl,h1,h2,by rw[r1.length,r2.length];exact q.1,g.own R (r1.append r2) q.2⟩))
 ·have Xc:=rx
  obtain⟨a,vs,rfl,h1,r1⟩:=rx.tup R.fr;obtain⟨b,us,rfl,h2,r2⟩:=ry.tup R.fr;refine .inr (.inr (.inr ⟨a,b,vs,us,rfl,rfl,.of h1,.of h2,λz=>?_,by rw[r1.length,r2.length];exact q.1.2,λz=>?_,λ_=>g.tup R (r1.append r2) q.2⟩))
  ·subst z
   cases r1;exact q.1.1 rfl
  ·subst z
   cases r2;rw[List.append_nil]at q;exact g.val R Xc q.2
 ·exact q.elim
theorem cB{a b:Expr}{ta tb:TV}{pos:Pos}(ha:EO G k S a ta)(hb:EO G k S b tb):EX G k S (.BinOp a .Add b pos) (aY cY ta tb):=mL (r:=C5) (λ_=>v8) vh ha hb
def K4(C:Int->Int->Prop)(g:Int->Int->Int):D->D->(EV->Prop)->Prop
 | .int i,.int j,Q=>C i j/\Q (.val (.int (g i j)))
 | _,_,_=>False
theorem kh{C:Int->Int->Prop}{g:Int->Int->Int}:fB (rI C λi j=>.int (g i j)) (K4 C g):=by
 intro Y F H ai σ v u x y Qd Q R rx ry q gg;unfold K4 at q
 split at q
 ·obtain rfl:=rx.int;obtain rfl:=ry.int
  exact⟨_,_,rfl,rfl,q.1,gg.val R (.int _) q.2⟩
 ·exact q.elim
def Cd(g:Int->Int->Int):D->D->(EV->Prop)->Prop
 | .int i,.int j,Q=>Q (.val (.int (g i j)))
 | _,_,_=>False
theorem vH{g:Int->Int->Int}:fB (Bu λi j=>.int (g i j)) (Cd g):=by
 intro Y F H ai σ v u x y Qd Q R rx ry q gg;unfold Cd at q
 split at q
 ·obtain rfl:=rx.int;obtain rfl:=ry.int
  exact⟨_,_,rfl,rfl,gg.val R (.int _) q⟩
 ·exact q.elim
section
variable {a b:Expr}{ta tb:TV}{pos:Pos}
def jd:=Cd λi j=>i-j
def sA:=K4 (λ_ j=>0<j) λi j=>i%j
def sN:=K4 pA λi j=>i^j.toNat
theorem fk(ha:EO G k S a ta)(hb:EO G k S b tb):EX G k S (.BinOp a .Sub b pos) (aY jd ta tb):=mL (r:=λ_=>_) (λ_=>IQ) (λ_=>vH) ha hb
theorem qP(ha:EO G k S a ta)(hb:EO G k S b tb):EX G k S (.BinOp a .Mod b pos) (aY sA ta tb):=mL (r:=λ_=>_) (λ_=>IJ) (λ_=>kh) ha hb
theorem qQ(ha:EO G k S a ta)(hb:EO G k S b tb):EX G k S (.BinOp a .Pow b pos) (aY sN ta tb):=mL (r:=λ_=>_) (λ_=>IP) (λ_=>kh) ha hb
end
def fc:D->D->(EV->Prop)->Prop
 | .int i,.int j,Q=>eP i j/\Q (.val (.int (i*j)))
 | .lst xs,.int j,Q=>(-(2^63)<=j/\j<2^63/\xs.length*j.toNat<=sizeLine)/\Q (.own (List.replicate j.toNat xs).flatten)
 | _,_,_=>False
def EJ:R2:=λx y H Q=>∃l k xs,x=.ref l/\y=.int k/\Rd H l (.lst xs)/\-(2^63)<=k/\k<2^63/\xs.length*k.toNat<=sizeLine /\
 ∀p,H p=none->Q (.ref p) (upd H p (.lst (List.replicate k.toNat xs).flatten))
theorem CN{X:Cx}:f6 X (binaryOp .Mult) EJ:=by
 intro pins s σ H x y v u Q I rx ry h;obtain⟨l,k,xs,rfl,rfl,hH,h1,h2,hz,q⟩:=h;cases rx;obtain⟨t,rfl⟩:=ry;obtain⟨z,its,n,r,hl,e⟩:=Inv.TR I hH;have hlen:its.toArray.size*k.toNat<=sizeLine:=by rw[List.size_toArray,<- hl];exact hz
 have Sl:¬its.toArray.size*k.toNat>(2^63-1)/8:=by
  have:(sizeLine:Nat)<=(2^63-1)/8:=by decide
  omega
 have Sv:¬(!Builtin.List.listFitsIndex k)=true:=by
  rw[fitsIndex_both h1 h2];exact Bool.false_ne_true
 have yT:¬Builtin.List.listTooLong (its.toArray.size*k.toNat)=true:=by
  rw[qL hlen];exact Bool.false_ne_true
 have yV:List.foldl (λx1 x2=>x1++x2) #[] (List.replicate (if its.toArray.isEmpty=true then 0 else k.toNat) its.toArray)=(List.replicate k.toNat its).flatten.toArray:=by
  have f0:∀m:Nat,List.foldl (λx1 x2=>x1++x2) #[] (List.replicate m its.toArray)=(List.replicate m its).flatten.toArray:=λm=>by
   have:=foldl_rep its m [];rw[List.nil_append]at this;exact this
  rw[f0];cases its with
  | nil=>simp
  | cons a r'=>rw[if_neg (by simp)]
 refine wpAny_binaryOp_repeat_ref (T:="list") (U:="int") ∅ ⟨_,e,rfl⟩ (λs'=>typeIs_int s' k t) noFill_list_mul F.fills_int_mul F.slot_int_rmul repeat_list F.slot_int_index.lookup
  (call_meets F.slot_int_rmul (typeIs_int s k t) F.entry_int_rmul (F.args_int_rmul_2 _ _) (int___rmul___int_list k t l its.toArray n)
   ⟨e,rfl,⟨_,e,rfl⟩,call_meets F.slot_list_mul ⟨_,e,rfl⟩ F.entry_list_mul (F.args_list_mul_2 _ _) (AutoListH.list___mul___list_int_3 l its.toArray n k t Sv Sl yT) ⟨e,?_⟩⟩)
 rw[yV];exact⟨.ref _,_,I.HK (t':=s.toks) (r.rep k.toNat) (by rw[len_rep,Nat.mul_comm];exact hz),rfl,q _ I.fresh⟩
def Pk:R2:=λx y H Q=>rI eP (λi j=>.int (i*j)) x y H Q\/EJ x y H Q
theorem vV:fB Pk fc:=by
 intro Y F H ai σ v u x y Qd Q R rx ry q g;unfold fc at q
 split at q
 ·obtain rfl:=rx.int;obtain rfl:=ry.int
  exact .inl ⟨_,_,rfl,rfl,q.1,g.val R (.int _) q.2⟩
 ·obtain⟨a,vs,rfl,h1,r1⟩:=rx.lst;obtain rfl:=ry.int
  exact .inr ⟨a,_,vs,rfl,rfl,h1,q.1.1,q.1.2.1,by rw[r1.length];exact q.1.2.2,g.own R (r1.rep _) q.2⟩
 ·exact q.elim
theorem dW{a b:Expr}{ta tb:TV}{pos:Pos}(ha:EO G k S a ta)(hb:EO G k S b tb):EX G k S (.BinOp a .Mult b pos) (aY fc ta tb):=mL (r:=λ_=>Pk) (λ_=>IK.or CN) (λ_=>vV) ha hb
def Ax(t:TV):TV:=λσ Q=>t σ λx ax=>match d9 ax x with
 | some (.int i)=>Q (.val (.int (-i))) ax
 | _=>False
theorem uI{a:Expr}{ta:TV}{pos:Pos}(ha:EO G k S a ta):EO G k S (.UnaryOp .USub a pos) (Ax ta):=.mk λX Y ok=>aO (OZ KD (ha X Y ok)) λσ H Q q=>by
 obtain⟨F,ai,Qd,R,q,K⟩:=q;refine⟨F,ai,_,R,q,λv1 H1 F1 x ax s1 R1 r1 q1=>?_⟩
 split at q1
 ·rename_i i e
  obtain rfl:=(R1.d9 r1 e).int;exact⟨i,rfl,K _ H1 F1 (.val (.int (-i))) ax s1 R1 (.int _) q1⟩
 ·exact q1.elim
end Vc
namespace Vc
open PySem L2
variable [KF]
variable {G:GE}{k:Nat}{S:Stat}
mutual
def jD:D->D->Bool
 | .bB,.bB=>true
 | .bl a,.bl b=>a==b
 | .bl a,.int j=>(if a then 1 else 0)==j
 | .int i,.bl b=>i==(if b then 1 else 0)
 | .int i,.int j=>i==j
 | .str x,.str y=>x==y
 | .lst xs,.lst ys=>jE xs ys
 | .tup xs,.tup ys=>jE xs ys
 | _,_=>false
def jE:List D->List D->Bool
 | [],[]=>true
 | x::xs,y::ys=>jD x y&&jE xs ys
 | _,_=>false
end
def b8:Nat->D->Bool
 | _,.bB=>true
 | _,.bl _=>true
 | _,.int _=>true
 | _,.str x=>x.cps.all (· < 0x110000)
 | n+1,.tup xs=>xs.all (b8 n)
 | n+1,.lst xs=>xs.all (b8 n)
 | _,_=>false
mutual
def toPy:D->PyData
 | .bB=>.none
 | .bl b=>.bool b
 | .int i=>.int i
 | .str x=>.str x
 | .tup xs=>.tuple (eJ xs)
 | .lst xs=>.list (eJ xs)
 | _=>.none
def eJ:List D->List PyData
 | []=>[]
 | x::xs=>toPy x::eJ xs
end
theorem nH{n m:Nat}(ih:∀x y,b8 n x=true->b8 m y=true->jD x y=PyData.eqv (toPy x) (toPy y)):∀xs ys:List D,xs.all (b8 n)=true->ys.all (b8 m)=true->jE xs ys=PyData.eqvAll (eJ xs) (eJ ys)
 | [],[],_,_=>rfl
 | [],_::_,_,_=>rfl
 | _::_,[],_,_=>rfl
 | x::xs,y::ys,h1,h2=>by
  rw[List.all_cons,Bool.and_eq_true]at h1 h2;show(jD x y&&jE xs ys)=(PyData.eqv (toPy x) (toPy y)&&PyData.eqvAll (eJ xs) (eJ ys));rw[ih x y h1.1 h2.1,nH ih xs ys h1.2 h2.2]
theorem yd:∀(n m:Nat) (x y:D),b8 n x=true->b8 m y=true->jD x y=PyData.eqv (toPy x) (toPy y):=by
 intro n
 induction n with
 | zero =>
  intro m x y h1 h2;cases x with
  | tup _=>exact absurd h1 (by simp [b8])
  | lst _=>exact absurd h1 (by simp [b8])
  | dct _=>exact absurd h1 (by simp [b8])
  | exc _=>exact absurd h1 (by simp [b8])
  | gw _=>exact absurd h1 (by simp [b8])
  | jC _=>exact absurd h1 (by simp [b8])
  | kp _ _ _ _=>exact absurd h1 (by simp [b8])
  | _=>cases y<;>first|rfl | (cases m<;>exact absurd h2 (by simp [b8]))
 | succ n ih =>
  intro m x y h1 h2;cases x with
  | tup xs =>
   cases y with
   | tup ys =>
    cases m with
    | zero=>exact absurd h2 (by simp [b8])
    | succ m=>exact nH (ih m) xs ys h1 h2
   | _=>first|rfl | (cases m<;>exact absurd h2 (by simp [b8]))
  | lst xs =>
   cases y with
   | lst ys =>
    cases m with
    | zero=>exact absurd h2 (by simp [b8])
    | succ m=>exact nH (ih m) xs ys h1 h2
   | _=>first|rfl | (cases m<;>exact absurd h2 (by simp [b8]))
  | dct _=>exact absurd h1 (by simp [b8])
  | exc _=>exact absurd h1 (by simp [b8])
  | gw _=>exact absurd h1 (by simp [b8])
  | jC _=>exact absurd h1 (by simp [b8])
  | kp _ _ _ _=>exact absurd h1 (by simp [b8])
  | _=>cases y<;>first|rfl | (cases m<;>exact absurd h2 (by simp [b8]))
theorem gp{n:Nat}(ih:∀x,b8 n x=true->(toPy x).canLay0=true/\(toPy x).depth<=n):∀xs:List D,xs.all (b8 n)=true->PyData.canLayAll0 (eJ xs)=true/\PyData.depthAll (eJ xs)<=n
 | [],_=>⟨rfl,Nat.zero_le _⟩
 | x::xs,h=>by
  rw[List.all_cons,Bool.and_eq_true]at h;have h1:=ih x h.1;have h2:=gp ih xs h.2;refine⟨?_,?_⟩
  ·show((toPy x).canLay0&&PyData.canLayAll0 (eJ xs))=true
   rw[h1.1,h2.1];rfl
  ·show max (toPy x).depth (PyData.depthAll (eJ xs))<=n
   exact Nat.max_le.mpr ⟨h1.2,h2.2⟩
theorem CG:∀(n:Nat) (x:D),b8 n x=true->(toPy x).canLay0=true/\(toPy x).depth<=n:=by
 intro n
 induction n with
 | zero =>
  intro x h;cases x with
  | tup _=>exact absurd h (by simp [b8])
  | lst _=>exact absurd h (by simp [b8])
  | dct _=>exact absurd h (by simp [b8])
  | exc _=>exact absurd h (by simp [b8])
  | gw _=>exact absurd h (by simp [b8])
  | jC _=>exact absurd h (by simp [b8])
  | kp _ _ _ _=>exact absurd h (by simp [b8])
  | _=>first|exact⟨rfl,Nat.zero_le _⟩ | (exact⟨by simpa [b8,toPy,PyData.canLay0,PyData.strOk]using h,Nat.zero_le _⟩)
 | succ n ih =>
  intro x h;cases x with
  | tup xs =>
   have:=gp ih xs h;exact⟨this.1,Nat.succ_le_succ this.2⟩
  | lst xs =>
   have:=gp ih xs h;exact⟨this.1,Nat.succ_le_succ this.2⟩
  | dct _=>exact absurd h (by simp [b8])
  | exc _=>exact absurd h (by simp [b8])
  | gw _=>exact absurd h (by simp [b8])
  | jC _=>exact absurd h (by simp [b8])
  | kp _ _ _ _=>exact absurd h (by simp [b8])
  | _=>first|exact⟨rfl,Nat.zero_le _⟩ | (exact⟨by simpa [b8,toPy,PyData.canLay0,PyData.strOk]using h,Nat.zero_le _⟩)
section
variable {P:Program}{w:World}{F H:Hp}{h:Heap}
mutual
theorem Rep.reads(ok:fO P w H h)(s:aq F H):∀ {v:V} {d:D} {u:Value} (n:Nat),Rep F v d->RelV v u->b8 n d=true->∃as,Reads h u (toPy d) as
 | _,_,_,_,.bB,e,_=>by cases e;exact⟨_,.none⟩
 | _,_,_,_,.bl b,e,_=>by cases e;exact⟨_,.bool b⟩
 | _,_,_,_,.int i,e,_=>by obtain⟨t,rfl⟩:=e;exact⟨_,.int i t⟩
 | _,_,_,_,.str x,e,_=>by obtain⟨t,rfl⟩:=e;exact⟨_,.str x t⟩
 | _,_,_,0,.tup _ _,_,o=>by exact absurd o (by simp [b8])
 | _,_,_,0,.lst _ _,_,o=>by exact absurd o (by simp [b8])
 | _,_,_,n+1,.tup (a:=a) (vs:=vs) hf r,e,o=>by
  cases e;obtain⟨_,its,rv,ob,ho,hc,m,hd⟩:=ok a _ (s a _ hf);obtain⟨as,q⟩:=aC.reads ok s n r rv o;exact⟨as,.tuple ho hc hd q⟩
 | _,_,_,n+1,.lst (a:=a) (vs:=vs) hf r,e,o=>by
  cases e;obtain⟨_,its,m,rv,ho⟩:=L2.Rd.ok (Rd.mono s hf) ok;obtain⟨as,q⟩:=aC.reads ok s n r rv o;exact⟨_,.list ho rfl rfl q⟩
 | _,_,_,n,.gw _,_,o=>by cases n<;>exact absurd o (by simp [b8])
 | _,_,_,n,.exc _,_,o=>by cases n<;>exact absurd o (by simp [b8])
 | _,_,_,n,.BQ _ _,_,o=>by cases n<;>exact absurd o (by simp [b8])
 | _,_,_,n,.jC _ _,_,o=>by cases n<;>exact absurd o (by simp [b8])
 | _,_,_,n,.kp _ _ _,_,o=>by cases n<;>exact absurd o (by simp [b8])
theorem aC.reads(ok:fO P w H h)(s:aq F H):∀ {vs:List V} {ds:List D} {us:List Value} (n:Nat),aC F vs ds->Vals vs us->ds.all (b8 n)=true->∃as,ReadsAll h us (eJ ds) as
 | _,_,_,_,.nil,.nil,_=>⟨_,.nil⟩
 | _,_,_,n,.cons r t,.cons e f,o=>by
  rw[List.all_cons,Bool.and_eq_true]at o;obtain⟨as,h1⟩:=Rep.reads ok s n r e o.1;obtain⟨bs,h2⟩:=aC.reads ok s n t f o.2;exact⟨_,.cons h1 h2⟩
end
theorem bP.reads(ok:fO P w H h)(s:aq F H){v:V}{d:D}{u:Value}(r:bP F H v d)(e:RelV v u)(o:b8 8 d=true):∃as,Reads h u (toPy d) as:=by
 cases d with
 | lst xs =>
  obtain⟨a,vs,rfl,hf,r⟩:=r;cases e;obtain⟨_,its,n,rv,ho⟩:=L2.Rd.ok hf ok;obtain⟨as,q⟩:=aC.reads ok s 7 r rv o;exact⟨_,.list ho rfl rfl q⟩
 | jC _=>exact absurd o (by simp [b8])
 | kp _ _ _ _=>exact absurd o (by simp [b8])
 | _=>exact Rep.reads ok s 8 r e o
end
theorem fK{x:D}(h:b8 8 x=true):PySem.SeqAt.shaped (toPy x)=true:=by
 obtain⟨h1,h2⟩:=CG 8 x h;unfold PySem.SeqAt.shaped;rw[h1,decide_eq_true ⋯];rfl
def C7(neg:Bool):R2:=λv u H Q=>∃F x y,aq F H/\bP F H v x/\bP F H u y/\b8 8 x=true/\b8 8 y=true/\Q (.bl (if neg then !jD x y else jD x y)) H
theorem IH{X:Cx}(hu:X.A.units+64<cLine):f6 X (compareOp .Eq) (C7 false):=by
 intro pins s σ H v u v' u' Q I rv ru h;obtain⟨F,x,y,sm,rx,ry,ox,oy,q⟩:=h;obtain⟨as,r1⟩:=rx.reads I.bI sm rv ox;obtain⟨bs,r2⟩:=ry.reads I.bI sm ru oy;refine PyProof.Rows.eq_dataH r1 r2 (fK ox) (fK oy) hu ⟨.bl (jD x y),H,I,?_,q⟩;rw[yd 8 8 x y ox oy];rfl
theorem IL{X:Cx}(hu:X.A.units+64<cLine):f6 X (compareOp .NotEq) (C7 true):=by
 intro pins s σ H v u v' u' Q I rv ru h;obtain⟨F,x,y,sm,rx,ry,ox,oy,q⟩:=h;obtain⟨as,r1⟩:=rx.reads I.bI sm rv ox;obtain⟨bs,r2⟩:=ry.reads I.bI sm ru oy;refine PyProof.Rows.ne_dataH r1 r2 (fK ox) (fK oy) hu ⟨.bl (!jD x y),H,I,?_,q⟩;rw[yd 8 8 x y ox oy];rfl
end Vc
namespace Vc
open PySem L2
variable [KF]
variable {G:GE}{k:Nat}{S:Stat}
def jT(r:R2)(f:D->D->(Bool->Prop)->Prop):Prop:=
 ∀Y F H ai σ v u x y (Qd:Bool->Prop) (Q:VK),RS Y F ai σ H->bP F H v x->bP F H u y->f x y Qd->(∀b,Qd b->Q (.bl b) H)->r v u H Q
def bq(f:D->D->(Bool->Prop)->Prop)(ta tb:TV):TB:=λσ Q=>ta σ λx ax=>tb ax λy bx=>match d9 bx x,d9 bx y with
 | some a,some b=>f a b λr=>Q r bx
 | _,_=>False
def bV(t:TB):TV:=λσ Q=>t σ λb ax=>Q (.val (.bl b)) ax
theorem mm{Y:bD}{r:R2}{f:D->D->(Bool->Prop)->Prop}(hs:jT r f){ta tb:TV}{σ:St}{H:Hp}{Q:VK}{F:Hp}{ai:Sd}{Qd:Bool->Sd->Prop}(R:RS Y F ai σ H)(q:bq f ta tb ai Qd)
  (K:∀b H' F' aD,aq F F'->RS Y F' aD σ H'->Qd b aD->Q (.bl b) H'):K9 r (lO Y ta) (lO Y tb) σ H Q:=by
 refine⟨F,ai,_,R,q,λv1 H1 F1 x ax s1 R1 r1 q1=>?_⟩;refine⟨F1,ax,_,R1,q1,λv2 H2 F2 y bx s2 R2 r2 q2=>?_⟩
 split at q2
 ·rename_i a b ea eb
  exact hs Y F2 H2 bx σ v1 v2 a b _ Q R2 (R2.d9 (r1.mono s2) ea) (R2.d9 r2 eb) q2 λc qc=>K c H2 F2 bx (s1.trans s2) R2 qc
 ·exact q2.elim
def lh(G:GE)(k:Nat)(S:Stat)(op:CmpOp)(f:D->D->(Bool->Prop)->Prop):Prop:=∃r:R2,(∀X Y,dk X G k S Y->f6 X (compareOp op) r)/\jT r f
theorem bK{op:CmpOp}{f:D->D->(Bool->Prop)->Prop}(h:lh G k S op f){a b:Expr}{ta tb:TV}{pos:Pos}(ha:EO G k S a ta)(hb:EO G k S b tb)(hm:behindInMarks op b=false:=by first|exact zj _|with_unfolding_all rfl):
  EB G k S (.Compare a [op] [b] pos) (bq f ta tb):=.mk λX Y ok=>by
 obtain⟨r,ho,hs⟩:=h;refine sR (C3 (ho X Y ok) (ha X Y ok) (hb X Y ok) hm) λσ H Q q=>?_;obtain⟨F,ai,Qd,R,q,K⟩:=q;exact mm hs R q λb H' F' aD s R' qq=>⟨b,rfl,K b H' F' aD s R' qq⟩
theorem fj{op:CmpOp}{f:D->D->(Bool->Prop)->Prop}(h:lh G k S op f){a b:Expr}{ta tb:TV}{pos:Pos}(ha:EO G k S a ta)(hb:EO G k S b tb)(hm:behindInMarks op b=false:=by first|exact zj _|with_unfolding_all rfl):
  EO G k S (.Compare a [op] [b] pos) (bV (bq f ta tb)):=.mk λX Y ok=>by
 obtain⟨r,ho,hs⟩:=h;refine aO (CT (ho X Y ok) (ha X Y ok) (hb X Y ok) hm) λσ H Q q=>?_;obtain⟨F,ai,Qd,R,q,K⟩:=q;exact mm hs R q λb H' F' aD s R' qq=>K _ H' F' (.val (.bl b)) aD s R' (.bl b) qq
def eqT(x y:D)(Q:Bool->Prop):Prop:=(b8 8 x=true/\b8 8 y=true)/\Q (jD x y)
def neT(x y:D)(Q:Bool->Prop):Prop:=(b8 8 x=true/\b8 8 y=true)/\Q (!jD x y)
theorem iL:lh G k S .Eq eqT:=⟨C7 false,λX Y ok=>IH ok.units,λY F H ai σ v u x y Qd Q R rx ry q K=>⟨F,x,y,R.fr,rx,ry,q.1.1,q.1.2,K _ q.2⟩⟩
theorem lq:lh G k S .NotEq neT:=⟨C7 true,λX Y ok=>IL ok.units,λY F H ai σ v u x y Qd Q R rx ry q K=>⟨F,x,y,R.fr,rx,ry,q.1.1,q.1.2,K _ q.2⟩⟩
def Hk(p:Int->Int->Bool):D->D->(Bool->Prop)->Prop
 | .int i,.int j,Q=>Q (p i j)
 | _,_,_=>False
theorem fD{p:Int->Int->Bool}:jT (Bu λi j=>.bl (p i j)) (Hk p):=λY F H ai σ v u x y Qd Q R rx ry q K=>by
 unfold Hk at q
 split at q
 ·obtain rfl:=rx.int;obtain rfl:=ry.int
  exact⟨_,_,rfl,rfl,K _ q⟩
 ·exact q.elim
def K7:=Hk λi j=>decide (i<j)
def QS:=Hk λi j=>decide (i<=j)
def Qy:=Hk λi j=>decide (j<i)
def R8:=Hk λi j=>decide (j<=i)
theorem L4:lh G k S .Lt K7:=⟨_,λ_ _ _=>OM,fD⟩
theorem L3:lh G k S .LtE QS:=⟨_,λ_ _ _=>OJ,fD⟩
theorem LZ:lh G k S .Gt Qy:=⟨_,λ_ _ _=>OI,fD⟩
theorem RA:lh G k S .GtE R8:=⟨_,λ_ _ _=>OH,fD⟩
def isNone:D->Bool
 | .bB=>true
 | _=>false
def QO(x y:D)(Q:Bool->Prop):Prop:=isNone y=true/\Q (isNone x)
theorem bP.isNone{F H:Hp}{v:V}{x:D}(r:bP F H v x):decide (v=.bB)=isNone x:=by
 cases x with
 | lst xs=>obtain⟨a,vs,rfl,_⟩:=r;rfl
 | dct _=>cases(show Rep F v (.dct _)from r);rfl
 | exc _=>cases(show Rep F v (.exc _)from r);rfl
 | gw _=>cases(show Rep F v (.gw _)from r);rfl
 | jC _=>obtain⟨a,ks,rfl,_⟩:=r;rfl
 | kp _ _ _ _=>obtain⟨a,dx,ad,ks,rfl,_⟩:=r;rfl
 | bB=>obtain rfl:=r.bB;rfl
 | bl _=>obtain rfl:=r.bl;rfl
 | int _=>obtain rfl:=r.int;rfl
 | str _=>obtain rfl:=r.str;rfl
 | tup _=>cases(show Rep F v (.tup _)from r);rfl
theorem bP.HV{F H:Hp}{v:V}{x:D}(r:bP F H v x)(h:Vc.isNone x=true):v=.bB:=by
 cases x<;>first|exact r.bB|cases h
theorem L0:lh G k S .Is QO:=⟨_,λ_ _ _=>II,λY F H ai σ v u x y Qd Q R rx ry q K=>⟨ry.HV q.1,by rw[rx.isNone];exact K _ q.2⟩⟩
def Kv:D->(Bool->Prop)->Prop
 | .bB,Q=>Q false
 | .bl b,Q=>Q b
 | .int i,Q=>Q (i != 0)
 | .lst xs,Q=>Q (!xs.isEmpty)
 | .tup xs,Q=>Q (!xs.isEmpty)
 | _,_=>False
def tm(t:TV):TB:=λσ Q=>t σ λx ax=>match d9 ax x with
 | some d=>Kv d λb=>Q b ax
 | none=>False
theorem gP{F:Hp}{vs:List V}{xs:List D}(r:aC F vs xs):(!xs.isEmpty)=!vs.isEmpty:=by cases r<;>rfl
theorem kQ{e:Expr}{t:TV}(h:EO G k S e t)(he:∀env whole,isTrue e env whole=(do let v <- whole;standAt e.pos;holding [v] (truthy v)):=by intro _ _;rfl):EB G k S e (tm t):=.mk λX Y ok=>by
 refine sR (zX (h X Y ok) (he _)) λσ H Q q=>?_;obtain⟨F,ai,Qd,R,q,K⟩:=q;refine⟨F,ai,_,R,q,λv1 H1 F1 x ax s1 R1 r1 q1=>?_⟩
 split at q1
 ·rename_i d ed
  have r:=R1.d9 r1 ed;unfold Kv at q1
  split at q1
  ·obtain rfl:=r.bB;exact⟨false,rfl,K _ H1 F1 ax s1 R1 q1⟩
  ·rename_i b;obtain rfl:=r.bl;exact⟨b,rfl,K _ H1 F1 ax s1 R1 q1⟩
  ·rename_i i;obtain rfl:=r.int;exact⟨_,rfl,K _ H1 F1 ax s1 R1 q1⟩
  ·rename_i xs;obtain⟨a,vs,rfl,h1,h2⟩:=r.lst
   exact⟨!xs.isEmpty,.inl ⟨vs,.inl h1,gP h2⟩,K _ H1 F1 ax s1 R1 q1⟩
  ·rename_i xs;obtain⟨a,vs,rfl,h1,h2⟩:=r.tup R1.fr
   exact⟨!xs.isEmpty,.inr (.inl ⟨vs,.inl (.inl h1),gP h2⟩),K _ H1 F1 ax s1 R1 q1⟩
  ·exact q1.elim
 ·exact q1.elim
def iw(t u:TB):TB:=λσ Q=>t σ λc ax=>if c=true then u ax Q else Q false ax
def Ay(t u:TB):TB:=λσ Q=>t σ λc ax=>if c=true then Q true ax else u ax Q
def mX(t:TB):TB:=λσ Q=>t σ λc ax=>Q (!c) ax
structure EW(G:GE)(k:Nat)(S:Stat)(e:Expr)(t:TB) :Prop where
 run:∀X Y,dk X G k S Y->PW X e (lB Y t)
instance {G:GE} {k:Nat} {S:Stat} {e:Expr} {t:TB} :CoeFun (EW G k S e t) λ_=>∀X Y,dk X G k S Y->PW X e (lB Y t):=⟨EW.run⟩
theorem pw_imp{X:Cx}{e:Expr}{t t':TT}(h:PW X e t)(i:∀σ H Q,t' σ H Q->t σ H Q):PW X e t':=λwh pins s σ H Q I q=>h wh pins s σ H Q I (i σ H Q q)
section
variable {a b:Expr}{rest:List Expr}{ta tb:TB}{pos:Pos}
theorem Pr(h:EW G k S a ta):EB G k S a ta:=.mk λX Y ok=>(h X Y ok).pt
theorem Ab(ha:EB G k S a ta):EW G k S (.BoolOp .And [a] pos) ta:=.mk λX Y ok=>pw_and1 (ha X Y ok)
theorem Af(ha:EB G k S a ta):EW G k S (.BoolOp .Or [a] pos) ta:=.mk λX Y ok=>pw_or1 (ha X Y ok)
theorem Aa(ha:EB G k S a ta)(hb:EW G k S (.BoolOp .And (b::rest) pos) tb):EW G k S (.BoolOp .And (a::b::rest) pos) (iw ta tb):=.mk λX Y ok=>pw_imp (pw_and (ha X Y ok) (hb X Y ok)) λσ H Q q=>by
 obtain⟨F,ai,Qd,R,q,K⟩:=q;refine⟨F,ai,_,R,q,λc H1 F1 ax s1 R1 q1=>?_⟩;cases c with
 | true=>exact⟨F1,ax,Qd,R1,q1,λb H' F' aD s R' qq=>K b H' F' aD (s1.trans s) R' qq⟩
 | false=>exact K false H1 F1 ax s1 R1 q1
theorem Jz(ha:EB G k S a ta)(hb:EW G k S (.BoolOp .Or (b::rest) pos) tb):EW G k S (.BoolOp .Or (a::b::rest) pos) (Ay ta tb):=.mk λX Y ok=>pw_imp (pw_or (ha X Y ok) (hb X Y ok)) λσ H Q q=>by
 obtain⟨F,ai,Qd,R,q,K⟩:=q;refine⟨F,ai,_,R,q,λc H1 F1 ax s1 R1 q1=>?_⟩;cases c with
 | false=>exact⟨F1,ax,Qd,R1,q1,λb H' F' aD s R' qq=>K b H' F' aD (s1.trans s) R' qq⟩
 | true=>exact K true H1 F1 ax s1 R1 q1
theorem oi(ha:EB G k S a ta):EB G k S (.UnaryOp .Not a pos) (mX ta):=.mk λX Y ok=>sR (Jv (ha X Y ok)) λσ H Q q=>by
 obtain⟨F,ai,Qd,R,q,K⟩:=q;exact⟨F,ai,_,R,q,λc H1 F1 ax s1 R1 q1=>K _ H1 F1 ax s1 R1 q1⟩
end
structure Bz(G:GE)(k:Nat)(S:Stat)(e:Expr)(t:TB) :Prop where
 run:∀X Y,dk X G k S Y->PE X e (λσ H Q=>lB Y t σ H λb H'=>Q (.bl b) H')
instance {G:GE} {k:Nat} {S:Stat} {e:Expr} {t:TB} :CoeFun (Bz G k S e t) λ_=>∀X Y,dk X G k S Y->PE X e (λσ H Q=>lB Y t σ H λb H'=>Q (.bl b) H'):=⟨Bz.run⟩
section
variable {a b:Expr}{rest:List Expr}{ta tb:TB}{pos:Pos}
def k0(t:TV):TB:=λσ Q=>t σ λx ax=>match d9 ax x with
 | some (.bl b)=>Q b ax
 | _=>False
theorem A5{t:TV}(h:EO G k S a t):Bz G k S a (k0 t):=.mk λX Y ok=>aO (h X Y ok) λσ H Q q=>by
 obtain⟨F,ai,Qd,R,q,K⟩:=q;refine⟨F,ai,_,R,q,λv1 H1 F1 x ax s1 R1 r1 q1=>?_⟩
 split at q1
 ·rename_i b eb
  obtain rfl:=(R1.d9 r1 eb).bl;exact K b H1 F1 ax s1 R1 q1
 ·exact q1.elim
theorem E4{op:BoolOp}(h:Bz G k S a ta):Bz G k S (.BoolOp op [a] pos) ta:=.mk λX Y ok=>Jc (h X Y ok)
theorem v_and(ha:Bz G k S a ta)(hb:Bz G k S (.BoolOp .And (b::rest) pos) tb):Bz G k S (.BoolOp .And (a::b::rest) pos) (iw ta tb):=.mk λX Y ok=>aO (I0 (ha X Y ok) (hb X Y ok)) λσ H Q q=>by
 obtain⟨F,ai,Qd,R,q,K⟩:=q;refine⟨F,ai,_,R,q,λc H1 F1 ax s1 R1 q1=>⟨c,rfl,?_⟩⟩;cases c with
 | true=>exact⟨F1,ax,Qd,R1,q1,λb H' F' aD s R' qq=>K b H' F' aD (s1.trans s) R' qq⟩
 | false=>exact K false H1 F1 ax s1 R1 q1
theorem Pp(h:Bz G k S a ta):EO G k S a (bV ta):=.mk λX Y ok=>aO (h X Y ok) λσ H Q q=>by
 obtain⟨F,ai,Qd,R,q,K⟩:=q;exact⟨F,ai,_,R,q,λb H1 F1 ax s1 R1 q1=>K _ H1 F1 (.val (.bl b)) ax s1 R1 (.bl b) q1⟩
end
end Vc
namespace Vc
open PySem L2
variable [KF]
variable {G:GE}{k:Nat}{S:Stat}
theorem aC.jB{F:Hp}{vs:List V}{xs:List D}{i:Int}{d:D}(r:aC F vs xs)(h:L2.jB xs i=some d):∃v,L2.jB vs i=some v/\Rep F v d:=by
 unfold L2.jB at h ⊢;rw[r.length];cases e:vL xs.length i with
 | none=>rw[e]at h;cases h
 | some j =>
  rw[e]at h;exact r.get (i:=j) h
def Bt:D->D->(D->Prop)->Prop
 | .lst xs,.int i,Q=>match jB xs i with
  | some d=>Q d
  | none=>False
 | .tup xs,.int i,Q=>match jB xs i with
  | some d=>Q d
  | none=>False
 | .str z,.int i,Q=>z.length<=sizeLine/\match jB z.cps.toList i with
  | some c=>Q (.str ⟨#[c]⟩)
  | none=>False
 | .gw ns,.int i,Q=>match jB ns i with
  | some n=>Q (.int n)
  | none=>False
 | _,_,_=>False
theorem BK{α β:Type}(f:α->β){xs:List α}{i:Int}{a:α}(h:L2.jB xs i=some a):L2.jB (xs.map f) i=some (f a):=by
 unfold L2.jB at h ⊢;rw[List.length_map];cases e:vL xs.length i with
 | none=>rw[e]at h;cases h
 | some j =>
  rw[e]at h;have h:xs[j]?=some a:=h;show(xs.map f)[j]?=_;rw[List.getElem?_map,h];rfl
def fZ(ta tb:TV):TV:=λσ Q=>ta σ λx ax=>tb ax λy bx=>match d9 bx x,d9 bx y with
 | some a,some b=>Bt a b λr=>Q (.val r) bx
 | _,_=>False
theorem cL{a b:Expr}{ta tb:TV}{pos:Pos}(ha:EO G k S a ta)(hb:EO G k S b tb)(hs:m9 b:=by intro _ _;rfl):EO G k S (.Subscript a b pos) (fZ ta tb):=.mk λX Y ok =>
 aO (EA Ho (ha X Y ok) (hb X Y ok) hs) λσ H Q q=>by
  obtain⟨F,ai,Qd,R,q,K⟩:=q;refine⟨F,ai,_,R,q,λv1 H1 F1 x ax s1 R1 r1 q1=>?_⟩;refine⟨F1,ax,_,R1,q1,λv2 H2 F2 y bx s2 R2 r2 q2=>?_⟩
  split at q2
  ·rename_i a b ea eb
   have rx:=R2.d9 (r1.mono s2) ea;have ry:=R2.d9 r2 eb;have fin:∀ {v d},Rep F2 v d->Qd (.val d) bx->Q v H2:=λr qq=>K _ H2 F2 (.val _) bx (s1.trans s2) R2 r qq;unfold Bt at q2
   split at q2
   ·obtain⟨p,vs,rfl,h1,r1⟩:=rx.lst;obtain rfl:=ry.int
    split at q2
    ·rename_i d e
     obtain⟨v,ev,rv⟩:=r1.jB e;exact .inl ⟨p,vs,_,v,rfl,rfl,.inl h1,ev,fin rv q2⟩
    ·exact q2.elim
   ·obtain⟨p,vs,rfl,h1,r1⟩:=rx.tup R2.fr;obtain rfl:=ry.int
    split at q2
    ·rename_i d e
     obtain⟨v,ev,rv⟩:=r1.jB e;exact .inr (.inl ⟨p,vs,_,v,rfl,rfl,.of h1,ev,fin rv q2⟩)
    ·exact q2.elim
   ·obtain rfl:=rx.str;obtain rfl:=ry.int
    obtain⟨hz,q2⟩:=q2
    split at q2
    ·rename_i c e
     exact .inr (.inr ⟨_,_,c,rfl,rfl,hz,e,fin (.str _) q2⟩)
    ·exact q2.elim
   ·rename_i ns i
    have rx:Rep F2 v1 (.gw ns):=rx;obtain rfl:=ry.int;cases rx with
    | gw h =>
     split at q2
     ·rename_i n e
      exact .inl ⟨_,ns.map V.int,_,.int n,rfl,rfl,by rw[ok.kf];exact R2.fr.seq h,BK V.int e,fin (.int _) q2⟩
     ·exact q2.elim
   ·exact q2.elim
  ·exact q2.elim
theorem mP{F:Hp}:∀ns:List Int,aC F (ns.map V.int) (ns.map D.int)
 | []=>.nil
 | n::ns=>.cons (.int n) (mP ns)
theorem bP.gw{F H:Hp}(s:aq F H){v:V}{ns:List Int}(r:bP F H v (.gw ns)):∃a,v=.ref a/\dP KF.K H a (ns.map V.int):=by
 cases(show Rep F v (.gw ns)from r)with
 | gw h=>exact⟨_,rfl,s.seq h⟩
abbrev Fq:=Sd->(Option Int->Sd->Prop)->Prop
def lP(Y:bD)(t:Fq):TO:=λσ H Q=>∃F ai Qd,RS Y F ai σ H/\t ai Qd/\∀o H' F' aD,aq F F'->RS Y F' aD σ H'->Qd o aD->Q o H'
structure KL(G:GE)(k:Nat)(S:Stat)(e:Option Expr)(t:Fq) :Prop where
 run:∀X Y,dk X G k S Y->PO X e (lP Y t)
instance {G:GE} {k:Nat} {S:Stat} {e:Option Expr} {t:Fq} :CoeFun (KL G k S e t) λ_=>∀X Y,dk X G k S Y->PO X e (lP Y t):=⟨KL.run⟩
theorem zQ{X:Cx}{e:Option Expr}{t t':TO}(h:PO X e t)(i:∀σ H Q,t' σ H Q->t σ H Q):PO X e t':=λpins s σ H Q I q=>h pins s σ H Q I (i σ H Q q)
def La:Fq:=λσ Q=>Q none σ
def Lb(t:TV):Fq:=λσ Q=>t σ λx ax=>match d9 ax x with
 | some (.int i)=>Q (some i) ax
 | _=>False
theorem sG:KL G k S none La:=.mk λX Y ok=>zQ CY λσ H Q q=>by
 obtain⟨F,ai,Qd,R,q,K⟩:=q;exact K none H F ai (aq.refl _) R q
theorem sJ{e:Expr}{t:TV}(h:EO G k S e t):KL G k S (some e) (Lb t):=.mk λX Y ok=>zQ (CZ (h X Y ok)) λσ H Q q=>by
 obtain⟨F,ai,Qd,R,q,K⟩:=q;refine⟨F,ai,_,R,q,λv1 H1 F1 x ax s1 R1 r1 q1=>?_⟩
 split at q1
 ·rename_i i e
  obtain rfl:=(R1.d9 r1 e).int;exact⟨i,rfl,K _ H1 F1 ax s1 R1 q1⟩
 ·exact q1.elim
def cut{α:Type}(xs:List α)(lo hi:Option Int):List α:=(xs.drop (HT.cR xs.length 0 lo)).take (HT.cR xs.length xs.length hi-HT.cR xs.length 0 lo)
theorem aC.cut{F:Hp}{vs:List V}{xs:List D}(r:aC F vs xs)(lo hi:Option Int):aC F (pJ vs lo hi) (cut xs lo hi):=by
 unfold pJ Vc.cut;rw[r.length];exact(r.drop _).take _
def QY:D->Option Int->Option Int->(EV->Prop)->Prop
 | .lst xs,lo,hi,Q=>Q (.own (cut xs lo hi))
 | .gw ns,lo,hi,Q=>Q (.own (cut (ns.map D.int) lo hi))
 | .tup xs,lo,hi,Q=>¬(HT.cR xs.length 0 lo=0/\HT.cR xs.length xs.length hi=xs.length)/\Q (.val (.tup (cut xs lo hi)))
 | _,_,_,_=>False
def wz(t:TV)(tl th:Fq):TX:=λσ Q=>t σ λx ax=>tl ax λl bx=>th bx λu eK=>match d9 eK x with
 | some d=>QY d l u λr=>Q r eK
 | none=>False
theorem JB{e:Expr}{lo hi:Option Expr}{t:TV}{tl th:Fq}{p2 pos:Pos}(h:EO G k S e t)(hl:KL G k S lo tl)(hh:KL G k S hi th):EX G k S (.Subscript e (.Slice lo hi none p2) pos) (wz t tl th):=.mk λX Y ok =>
 aO (zI (D2.or Dm J8) (h X Y ok) (hl X Y ok) (hh X Y ok)) λσ H Q q=>by
  obtain⟨F,ai,Qd,R,q,K⟩:=q;refine⟨F,ai,_,R,q,λv1 H1 F1 x ax s1 R1 r1 q1=>?_⟩;refine⟨F1,ax,_,R1,q1,λl H2 F2 bx s2 R2 q2=>?_⟩;refine⟨F2,bx,_,R2,q2,λu H3 F3 eK s3 R3 q3=>?_⟩
  split at q3
  ·rename_i d e
   have rx:=R3.d9 (r1.mono (s2.trans s3)) e;have g:Goes Y F3 eK σ (λr=>Qd r eK) Q:=λv H' F' r s R' rr qq=>K v H' F' r eK (((s1.trans s2).trans s3).trans s) R' rr qq;unfold QY at q3
   split at q3
   ·obtain⟨p,vs,rfl,h1,r1⟩:=rx.lst
    exact .inl ⟨p,vs,rfl,.inl h1,g.own R3 (r1.cut _ _) q3⟩
   ·obtain⟨p,rfl,h1⟩:=rx.gw R3.fr
    exact .inl ⟨p,_,rfl,by rw[ok.kf];exact h1,g.own R3 ((mP _).cut _ _) q3⟩
   ·obtain⟨p,vs,rfl,h1,r1⟩:=rx.tup R3.fr
    exact .inr ⟨p,vs,rfl,.of h1,by rw[r1.length];exact q3.1,g.tup R3 (r1.cut _ _) q3.2⟩
   ·exact q3.elim
  ·exact q3.elim
def tN:d6:=λσ Q=>Q [] σ
def bt(t:TD)(u:d6):d6:=λσ Q=>t σ λx ax=>u ax λxs bx=>Q (x::xs) bx
theorem aG:rQ G k S [] tN:=.mk λX Y ok=>n5 bS λσ H Q q=>by
 obtain⟨F,ai,Qd,R,q,K⟩:=q;exact K [] H F [] ai (aq.refl _) R .nil q
theorem ao{e:Expr}{es:List Expr}{t:TD}{u:d6}(h:ED G k S e t)(hs:rQ G k S es u)(he:∀env,starEach (e::es) env=(false,eval e env)::starEach es env:=by exactλ_=>Vc.fJ rfl):rQ G k S (e::es) (bt t u):=.mk λX Y ok =>
 n5 (bC (h X Y ok) (hs X Y ok) (he _)) λσ H Q q=>by
  obtain⟨F,ai,Qd,R,q,K⟩:=q;refine⟨F,ai,_,R,q,λv1 H1 F1 x ax s1 R1 r1 q1=>?_⟩;exact⟨F1,ax,_,R1,q1,λvs H2 F2 xs bx s2 R2 r2 q2=>K _ H2 F2 (x::xs) bx (s1.trans s2) R2 (.cons (r1.mono s2) r2) q2⟩
def iI(t:d6):TX:=λσ Q=>t σ λxs ax=>xs.length<=sizeLine/\Q (.own xs) ax
def Kg(t:d6):TV:=λσ Q=>t σ λxs ax=>xs.length<=sizeLine/\Q (.val (.tup xs)) ax
theorem bU{es:List Expr}{t:d6}{pos:Pos}(h:rQ G k S es t):EX G k S (.List es pos) (iI t):=.mk λX Y ok=>aO (gq (h X Y ok)) λσ H Q q=>by
 obtain⟨F,ai,Qd,R,q,K⟩:=q;refine⟨F,ai,_,R,q,λvs H1 F1 xs ax s1 R1 r1 q1=>⟨by rw[r1.length];exact q1.1,?_⟩⟩
 have g:Goes Y F1 ax σ (λr=>Qd r ax) Q:=λv H' F' r s R' rr qq=>K v H' F' r ax (s1.trans s) R' rr qq;exact g.own R1 r1 q1.2
theorem uK{es:List Expr}{t:d6}{x1}{pos:Pos}(h:rQ G k S es t):EO G k S (.Tuple es x1 pos) (Kg t):=.mk λX Y ok=>aO (zJ (h X Y ok)) λσ H Q q=>by
 obtain⟨F,ai,Qd,R,q,K⟩:=q;refine⟨F,ai,_,R,q,λvs H1 F1 xs ax s1 R1 r1 q1=>⟨by rw[r1.length];exact q1.1,λp hp=>?_⟩⟩
 have sm:=aH (o:=.tup vs) (same_none R1.fr hp);exact K _ _ _ (.val (.tup xs)) ax (s1.trans sm) (R1.alloc hp) (.tup au (r1.mono sm)) q1.2
abbrev lY:=Sd->(List OV->Sd->Prop)->Prop
inductive pD (F:Hp)(σ:St):List V->List OV->Prop where
 | nil:pD F σ [] []
 | cons {v:V} {x:OV} {vs:List V} {xs:List OV}:vf F σ v x->pD F σ vs xs->pD F σ (v::vs) (x::xs)
def Tg(Y:bD)(t:lY):TA:=λσ H Q=>∃F ai Qd,RS Y F ai σ H/\t ai Qd/\∀vs H' F' xs aD,aq F F'->RS Y F' aD σ H'->pD F' σ vs xs->Qd xs aD->Q vs H'
structure wJ(G:GE)(k:Nat)(S:Stat)(es:List Expr)(t:lY) :Prop where
 run:∀X Y,dk X G k S Y->PA X es (Tg Y t)
instance {G:GE} {k:Nat} {S:Stat} {es:List Expr} {t:lY} :CoeFun (wJ G k S es t) λ_=>∀X Y,dk X G k S Y->PA X es (Tg Y t):=⟨wJ.run⟩
def c5:lY:=λσ Q=>Q [] σ
def a9(t:TV)(u:lY):lY:=λσ Q=>t σ λx ax=>u ax λxs bx=>Q (x::xs) bx
theorem aW:wJ G k S [] c5:=.mk λX Y ok=>n5 bS λσ H Q q=>by
 obtain⟨F,ai,Qd,R,q,K⟩:=q;exact K [] H F [] ai (aq.refl _) R .nil q
theorem aE{e:Expr}{es:List Expr}{t:TV}{u:lY}(h:EO G k S e t)(hs:wJ G k S es u)(he:∀env,starEach (e::es) env=(false,eval e env)::starEach es env:=by exactλ_=>Vc.fJ rfl):wJ G k S (e::es) (a9 t u):=.mk λX Y ok =>
 n5 (bC (h X Y ok) (hs X Y ok) (he _)) λσ H Q q=>by
  obtain⟨F,ai,Qd,R,q,K⟩:=q;refine⟨F,ai,_,R,q,λv1 H1 F1 x ax s1 R1 r1 q1=>?_⟩;exact⟨F1,ax,_,R1,q1,λvs H2 F2 xs bx s2 R2 r2 q2=>K _ H2 F2 (x::xs) bx (s1.trans s2) R2 (.cons (r1.mono s2) r2) q2⟩
def eg(σ:Sd):List OV->Option (List D)
 | []=>some []
 | x::xs=>match d9 σ x,eg σ xs with
  | some d,some ds=>some (d::ds)
  | _,_=>none
inductive fV (F H:Hp):List V->List D->Prop where
 | nil:fV F H [] []
 | cons {v:V} {x:D} {vs:List V} {xs:List D}:bP F H v x->fV F H vs xs->fV F H (v::vs) (x::xs)
theorem RS.eg{Y:bD}{F:Hp}{ai:Sd}{σ:St}{H:Hp}(R:RS Y F ai σ H):∀ {vs:List V} {xs:List OV} {ds:List D},pD F σ vs xs->Vc.eg ai xs=some ds->fV F H vs ds
 | _,_,_,.nil,e=>by cases e;exact .nil
 | _,_,_,.cons (x:=x) (xs:=xs) r t,e=>by
  have e:(match Vc.d9 ai x,Vc.eg ai xs with|some d,some ds=>some (d::ds)|_,_=>none)=some _:=e
  split at e
  ·rename_i d ds e1 e2
   cases e;exact .cons (R.d9 r e1) (RS.eg R t e2)
  ·cases e
theorem fV.one{F H:Hp}{vs:List V}{d:D}(r:fV F H vs [d]):∃v,vs=[v]/\bP F H v d:=by
 cases r with
 | cons r t=>cases t;exact⟨_,rfl,r⟩
theorem fV.two{F H:Hp}{vs:List V}{d e:D}(r:fV F H vs [d,e]):∃v u,vs=[v,u]/\bP F H v d/\bP F H u e:=by
 cases r with
 | cons r t =>
  obtain⟨u,rfl,q⟩:=t.one;exact⟨_,u,rfl,r,q⟩
def lV(r:List V->Hp->VK->Prop)(f:List D->(EV->Prop)->Prop):Prop:=
 ∀Y F H ai σ vs ds (Qd:EV->Prop) (Q:VK),RS Y F ai σ H->fV F H vs ds->f ds Qd->Goes Y F ai σ Qd Q->r vs H Q
def dM(f:List D->(EV->Prop)->Prop)(t:lY):TX:=λσ Q=>t σ λxs ax=>match eg ax xs with
 | some ds=>f ds λr=>Q r ax
 | none=>False
theorem mW{Y:bD}{r:List V->Hp->VK->Prop}{f:List D->(EV->Prop)->Prop}(hs:lV r f){t:lY}{σ:St}{H:Hp}{Q:VK}(q:lX Y (dM f t) σ H Q):T7 r (Tg Y t) σ H Q:=by
 obtain⟨F,ai,Qd,R,q,K⟩:=q;refine⟨F,ai,_,R,q,λvs H1 F1 xs ax s1 R1 r1 q1=>?_⟩
 split at q1
 ·rename_i ds e
  exact hs Y F1 H1 ax σ vs ds _ Q R1 (R1.eg r1 e) q1 λv H' F' r s R' rr qq=>K v H' F' r ax (s1.trans s) R' rr qq
 ·exact q1.elim
def wI(G:GE)(k:Nat)(S:Stat)(f:Value)(g:List D->(EV->Prop)->Prop):Prop:=∃r:PySem.W.Frag->List V->Hp->VK->Prop,(∀X Y,dk X G k S Y->b9 X f (r X.K))/\lV (r KF.K) g
section
variable {x:Str}{p pos:Pos}{e:Expr}{es:List Expr}{t:lY}{id T:String}{g:List D->(EV->Prop)->Prop}
theorem cT(h:wI G k S (.builtin id) g)(hm:G.mg x=none)(ha:wJ G k S (e::es) t)(hv:bootBuiltins x=some (.builtin id))(hg:S.sc.lookup x=some .globalImplicit:=by rfl)(hn:x≠"__name__":=by decide)(nN:(x==("__debug__":Str))=false:=by decide)
  (he:∀env,starEach (e::es) env=(false,eval e env)::starEach es env:=by exactλ_=>Vc.fJ rfl) (dQ:∀env,(backTo pos (starEach es env)).any (·.1)=false:=by intro _;rfl):EX G k S (.Call (.Name x p) (e::es) [] pos) (dM g t):=.mk λX Y ok=>by
 obtain⟨r,hc,hs⟩:=h;exact aO (kM (hc X Y ok) (cA ok hg) (by rw[ok.mg];exact hm) hv (ha X Y ok) hn nN (he _) (dQ _)) λσ H Q q=>mW (by rw[ok.kf];exact hs) q
theorem qO(h:wI G k S (.type T) g)(hm:G.mg x=none)(ha:wJ G k S (e::es) t)(hv:bootBuiltins x=some (.type T))(hg:S.sc.lookup x=some .globalImplicit:=by rfl)(hn:x≠"__name__":=by decide)(nN:(x==("__debug__":Str))=false:=by decide)
  (he:∀env,starEach (e::es) env=(false,eval e env)::starEach es env:=by exactλ_=>Vc.fJ rfl) (dQ:∀env,(backTo pos (starEach es env)).any (·.1)=false:=by intro _;rfl):EX G k S (.Call (.Name x p) (e::es) [] pos) (dM g t):=.mk λX Y ok=>by
 obtain⟨r,hc,hs⟩:=h;exact aO (fH (hc X Y ok) (cA ok hg) (by rw[ok.mg];exact hm) hv (ha X Y ok) hn nN (he _) (dQ _)) λσ H Q q=>mW (by rw[ok.kf];exact hs) q
end
def dR:List D->(EV->Prop)->Prop
 | [.lst xs],Q=>Q (.val (.int xs.length))
 | [.tup xs],Q=>Q (.val (.int xs.length))
 | [.gw ns],Q=>Q (.val (.int ns.length))
 | [.str z],Q=>z.length<=sizeLine/\Q (.val (.int z.length))
 | _,_=>False
theorem f_len:wI G k S (.builtin "len") dR:=⟨λK xs H Q=>(∃p ys,xs=[V.ref p]/\(dP K H p ys\/iD K H p ys)/\Q (V.int ys.length) H)\/∃z,xs=[V.str z]/\z.length<=sizeLine/\Q (V.int z.length) H,λ_ _ _=>nr.or nu,λY F H ai σ vs ds Qd Q R r q g=>by
 unfold dR at q
 split at q
 ·obtain⟨v,rfl,rv⟩:=r.one
  obtain⟨p,us,rfl,h1,h2⟩:=rv.lst;exact .inl ⟨p,us,rfl,.inl (.inl h1),by rw[h2.length];exact g.val R (.int _) q⟩
 ·obtain⟨v,rfl,rv⟩:=r.one
  obtain⟨p,us,rfl,h1,h2⟩:=rv.tup R.fr;exact .inl ⟨p,us,rfl,.inr (.of h1),by rw[h2.length];exact g.val R (.int _) q⟩
 ·obtain⟨v,rfl,rv⟩:=r.one
  obtain⟨p,rfl,h1⟩:=rv.gw R.fr;exact .inl ⟨p,_,rfl,.inl h1,by rw[List.length_map];exact g.val R (.int _) q⟩
 ·obtain⟨v,rfl,rv⟩:=r.one
  obtain rfl:=rv.str;exact .inr ⟨_,rfl,q.1,g.val R (.int _) q.2⟩
 ·exact q.elim⟩
def BG:List D->(EV->Prop)->Prop
 | [.int i],Q=>Q (.val (.int (if i<0 then -i else i)))
 | _,_=>False
theorem MK:wI G k S (.builtin "abs") BG:=⟨λ_=>_,λ_ _ _=>xt,λY F H ai σ vs ds Qd Q R r q g=>by
 unfold BG at q
 split at q
 ·obtain⟨v,rfl,rv⟩:=r.one
  obtain rfl:=rv.int;exact⟨_,rfl,g.val R (.int _) q⟩
 ·exact q.elim⟩
def ky:List D->(EV->Prop)->Prop
 | [.int i,.int j],Q=>Q (.val (.int (if j>i then j else i)))
 | _,_=>False
def kE:List D->(EV->Prop)->Prop
 | [.int i,.int j],Q=>Q (.val (.int (if j<i then j else i)))
 | _,_=>False
theorem nI(hh:S.jJ=false:=by rfl):wI G k S (.builtin "max") ky:=⟨λ_=>_,λ_ _ ok=>vo (ok.calm hh),λY F H ai σ vs ds Qd Q R r q g=>by
 unfold ky at q
 split at q
 ·obtain⟨v,u,rfl,rv,ru⟩:=r.two
  obtain rfl:=rv.int;obtain rfl:=ru.int;exact⟨_,_,rfl,g.val R (.int _) q⟩
 ·exact q.elim⟩
theorem nJ(hh:S.jJ=false:=by rfl):wI G k S (.builtin "min") kE:=⟨λ_=>_,λ_ _ ok=>vq (ok.calm hh),λY F H ai σ vs ds Qd Q R r q g=>by
 unfold kE at q
 split at q
 ·obtain⟨v,u,rfl,rv,ru⟩:=r.two
  obtain rfl:=rv.int;obtain rfl:=ru.int;exact⟨_,_,rfl,g.val R (.int _) q⟩
 ·exact q.elim⟩
def nQ:List D->(EV->Prop)->Prop
 | [.int i],Q=>Q (.val (.int i))
 | [.bl b],Q=>Q (.val (.int (if b then 1 else 0)))
 | _,_=>False
theorem f_int:wI G k S (.type "int") nQ:=⟨λ_=>_,λ_ _ ok=>vn,λY F H ai σ vs ds Qd Q R r q g=>by
 unfold nQ at q
 split at q
 ·obtain⟨v,rfl,rv⟩:=r.one
  obtain rfl:=rv.int;exact .inl ⟨_,rfl,g.val R (.int _) q⟩
 ·obtain⟨v,rfl,rv⟩:=r.one
  obtain rfl:=rv.bl;exact .inr ⟨_,rfl,g.val R (.int _) q⟩
 ·exact q.elim⟩
def uw:List D->(EV->Prop)->Prop
 | [.lst xs],Q=>Q (.own xs)
 | [.tup xs],Q=>Q (.own xs)
 | _,_=>False
theorem f_list:wI G k S (.type "list") uw:=⟨λK xs H Q=>∃p ys,xs=[V.ref p]/\(dP K H p ys\/iD K H p ys)/\∀l,H l=none->Q (.ref l) (upd H l (.lst ys)),λ_ _ ok=>nv,λY F H ai σ vs ds Qd Q R r q g=>by
 unfold uw at q
 split at q
 ·obtain⟨v,rfl,rv⟩:=r.one
  obtain⟨p,us,rfl,h1,h2⟩:=rv.lst;exact⟨p,us,rfl,.inl (.inl h1),g.own R h2 q⟩
 ·obtain⟨v,rfl,rv⟩:=r.one
  obtain⟨p,us,rfl,h1,h2⟩:=rv.tup R.fr;exact⟨p,us,rfl,.inr (.of h1),g.own R h2 q⟩
 ·exact q.elim⟩
def o7:List D->(EV->Prop)->Prop
 | [.lst xs],Q=>Q (.val (.tup xs))
 | [.tup xs],Q=>Q (.val (.tup xs))
 | _,_=>False
theorem BZ:wI G k S (.type "tuple") o7:=⟨λK xs H Q=>∃p ys,xs=[V.ref p]/\((dP K H p ys/\∀l,H l=none->Q (.ref l) (upd H l (.tup ys)))\/(iD K H p ys/\Q (.ref p) H)),λ_ _ ok=>lu,λY F H ai σ vs ds Qd Q R r q g=>by
 unfold o7 at q
 split at q
 ·obtain⟨v,rfl,rv⟩:=r.one
  obtain⟨p,us,rfl,h1,h2⟩:=rv.lst;exact⟨p,us,rfl,.inl ⟨.inl h1,g.tup R h2 q⟩⟩
 ·obtain⟨v,rfl,rv⟩:=r.one
  have Xb:=rv;obtain⟨p,us,rfl,h1,h2⟩:=rv.tup R.fr;exact⟨p,us,rfl,.inr ⟨.of h1,g.val R Xb q⟩⟩
 ·exact q.elim⟩
end Vc
namespace Vc
open PySem L2
variable [KF]
variable {G:GE}{k:Nat}{S:Stat}
structure fS where
 nx:Sd->Prop
 rt:B->Sd->Prop
 bk:Sd->Prop:=λ_=>False
 ct:Sd->Prop:=λ_=>False
abbrev cn:=fS->Sd->Prop
def Rm(Y:bD)(F H:Hp)(ai:Sd)(σ:St)(v:V):B->Prop
 | .sh d=>Rep F v d
 | .own xs=>∃a vs,v=.ref a/\H a=some (.lst vs)/\aC F vs xs/\F a=none/\Y.H0 a=none/\cH ai σ a
 | .obj o=>∃a,v=.ref a/\o.rep F H a/\∀b∈o.fp a,F b=none/\H b≠none/\Y.H0 b=none/\cH ai σ b
structure tK(Y:bD)(F:Hp)(De:fS)(Dn:Ends):Prop where
 nx:∀σ H F' ai,aq F F'->RS Y F' ai σ H->De.nx ai->Dn.nx σ H
 rt:∀v σ H F' ai b,aq F F'->RS Y F' ai σ H->Rm Y F' H ai σ v b->De.rt b ai->Dn.rt v H
 bk:∀σ H F' ai,aq F F'->RS Y F' ai σ H->De.bk ai->Dn.bk σ H
 ct:∀σ H F' ai,aq F F'->RS Y F' ai σ H->De.ct ai->Dn.ct σ H
theorem tK.mono{Y:bD}{F F':Hp}{De:fS}{Dn:Ends}(h:tK Y F De Dn)(s:aq F F'):tK Y F' De Dn:=
 ⟨λσ H F2 ai s2=>h.nx σ H F2 ai (s.trans s2),λv σ H F2 ai b s2=>h.rt v σ H F2 ai b (s.trans s2),λσ H F2 ai s2=>h.bk σ H F2 ai (s.trans s2),λσ H F2 ai s2=>h.ct σ H F2 ai (s.trans s2)⟩
def lS(Y:bD)(t:cn):TS:=λDn σ H=>∃F ai De,RS Y F ai σ H/\t De ai/\tK Y F De Dn
structure ES(G:GE)(k:Nat)(S:Stat)(st:Stmt)(t:cn) :Prop where
 run:∀X Y,dk X G k S Y->PS X st (lS Y t)
instance {G:GE} {k:Nat} {S:Stat} {st:Stmt} {t:cn} :CoeFun (ES G k S st t) λ_=>∀X Y,dk X G k S Y->PS X st (lS Y t):=⟨ES.run⟩
structure eL(G:GE)(k:Nat)(S:Stat)(st:List Stmt)(t:cn) :Prop where
 run:∀X Y,dk X G k S Y->lW X st (lS Y t)
instance {G:GE} {k:Nat} {S:Stat} {st:List Stmt} {t:cn} :CoeFun (eL G k S st t) λ_=>∀X Y,dk X G k S Y->lW X st (lS Y t):=⟨eL.run⟩
section
variable {st:Stmt}{rest:List Stmt}{t u:cn}{pos:Pos}
def pv:cn:=λDe σ=>De.nx σ
def bW(t u:cn):cn:=λDe σ=>t {De with nx:=u De} σ
theorem dh:eL G k S [] pv:=.mk λX Y ok=>og uE λDn σ H q=>by
 obtain⟨F,ai,De,R,q,K⟩:=q;exact K.nx σ H F ai (aq.refl _) R q
theorem aB(h1:ES G k S st t)(h2:eL G k S rest u):eL G k S (st::rest) (bW t u):=.mk λX Y ok=>og (qN (h1 X Y ok) (h2 X Y ok)) λDn σ H q=>by
 obtain⟨F,ai,De,R,q,K⟩:=q;refine⟨F,ai,_,R,q,⟨λbw H' F' aD s R' q'=>?_,K.rt,K.bk,K.ct⟩⟩;exact⟨F',aD,De,R',q',K.mono s⟩
theorem aM(h1:ES G k S st t):eL G k S [st] t:=.mk λX Y ok=>jO (h1 X Y ok)
def wy:cn:=λ_ _=>False
theorem jP:ES G k S st wy:=.mk λX Y ok=>cu zU λDn σ H q=>by
 obtain⟨F,ai,De,R,q,K⟩:=q;exact q
def d3(c:TB)(t u:cn):cn:=λDe σ=>c σ λb ax=>if b=true then t De ax else u De ax
theorem fR{c:Expr}{a b:List Stmt}{tc:TB}(hc:EB G k S c tc)(ha:eL G k S a t)(hb:eL G k S b u):ES G k S (.If c a b pos) (d3 tc t u):=.mk λX Y ok=>cu (EE (hc X Y ok) (ha X Y ok) (hb X Y ok)) λDn σ H q=>by
 obtain⟨F,ai,De,R,q,K⟩:=q;refine⟨F,ai,_,R,q,λb H1 F1 ax s1 R1 q1=>?_⟩;cases b with
 | true=>exact⟨F1,ax,De,R1,q1,K.mono s1⟩
 | false=>exact⟨F1,ax,De,R1,q1,K.mono s1⟩
def tj(t:TX):cn:=λDe σ=>t σ λ_ ax=>De.nx ax
theorem dc{e:Expr}{te:TX}(he:EX G k S e te)(hs:∀line env,swapsWith e none line env=pure false:=by intro _ _;rfl):ES G k S (.Expr e pos) (tj te):=.mk λX Y ok=>cu (gW (he X Y ok) (hs _ _)) λDn σ H q=>by
 obtain⟨F,ai,De,R,q,K⟩:=q;exact⟨F,ai,_,R,q,λv H1 F1 x ax s1 R1 r1 q1=>K.nx σ H1 F1 ax s1 R1 q1⟩
def jt(ios:List Nat)(t:TX):cn:=λDe σ=>t σ λx ax=>match x with
 | .val d=>De.rt (.sh d) ax
 | .own xs=>De.rt (.own xs) ax
 | .obj o=>De.rt (.obj o) ax
 | .any=>False
 | .var i=>match ax[i]? with
  | some (some (.own xs))=>i∉ios/\De.rt (.own xs) (ax.set i none)
  | some (some (.sh d))=>De.rt (.sh d) ax
  | some (some (.obj o))=>ios=[]/\De.rt (.obj o) (ax.set i none)
  | _=>False
theorem RS.forget{Y:bD}{F:Hp}{ai:Sd}{σ:St}{H:Hp}{i:Nat}{b:B}(R:RS Y F ai σ H)(e:ai[i]?=some (some b))(cO:∀p∈Y.io,p.1≠i):RS Y F (ai.set i none) σ H where
 len:=by simpa using R.len
 lo:=R.lo
 fr:=R.fr
 eM:=R.eM
 old:=R.old
 sh:=λj d q=>by
  by_cases hj:j=i
  ·subst hj;rw[aL e]at q;cases q
  ·rw[aQ hj]at q;exact R.sh j d q
 own:=λj xs q=>by
  by_cases hj:j=i
  ·subst hj;rw[aL e]at q;cases q
  ·rw[aQ hj]at q;exact R.own j xs q
 dis:=λj l xs ys a q1 q2 q3 q4=>by
  have hj:j≠i:=λz=>by subst z;rw[aL e]at q1;cases q1
  have hl:l≠i:=λz=>by subst z;rw[aL e]at q2;cases q2
  rw[aQ hj]at q1;rw[aQ hl]at q2;exact R.dis j l xs ys a q1 q2 q3 q4
 io:=λp hp=>by
  obtain⟨w1,ys,w2⟩:=R.io p hp;exact⟨w1,ys,by rw[aQ (cO p hp)];exact w2⟩
 ob:=R.ob.put (λ_ _=>rfl) (λ_ z=>nomatch z) λ_ _ z=>nomatch z
theorem RS.HR{Y:bD}{F:Hp}{ai:Sd}{σ:St}{H:Hp}{i:Nat}{xs:List D}(R:RS Y F ai σ H)(h:ai[i]?=some (some (.own xs)))(cO:∀p∈Y.io,p.1≠i){a:Addr}(q1:σ[i]?=some (some (.ref a))):Y.H0 a=none/\a∉Y.ND:=by
 obtain⟨b,vs,w1,w2,w3,w4,w5⟩:=R.own i xs h;rw[q1]at w1;cases w1;have nin:a∉Y.ND:=λq5=>by
  obtain⟨p,hp,e⟩:=List.mem_map.mp q5;obtain⟨z1,ys,z2⟩:=R.io p hp;exact absurd (R.dis p.1 i ys xs a z2 h (by rw[z1,e]) q1) (cO p hp)
 rcases w5 with w5|w5
 ·exact⟨w5,nin⟩
 ·exact absurd w5 nin
theorem b6{e:Expr}{te:TX}(he:EX G k S e te)(Si:S.vk=false:=by rfl):ES G k S (.Return (some e) pos) (jt S.ios te):=.mk λX Y ok=>cu (sQ (he X Y ok)) λDn σ H q=>by
 obtain⟨F,ai,De,R,q,K⟩:=q;refine⟨F,ai,_,R,q,λv H1 F1 x ax s1 R1 r1 q1=>?_⟩;cases x with
 | val d=>exact K.rt v σ H1 F1 ax (.sh d) s1 R1 r1 q1
 | own xs=>exact K.rt v σ H1 F1 ax (.own xs) s1 R1 r1 q1
 | obj o=>exact K.rt v σ H1 F1 ax (.obj o) s1 R1 r1 q1
 | any=>exact False.elim q1
 | var i =>
  have r1:σ[i]?=some (some v):=r1;dsimp only at q1
  split at q1
  ·rename_i xs e
   obtain⟨a,vs,w1,w2,w3,w4,w5⟩:=R1.own i xs e;rw[r1]at w1;cases w1;have cO:∀p∈Y.io,p.1≠i:=λp hp z=>q1.1 (z ▸ ok.ios p hp);refine K.rt _ σ H1 F1 _ (.own xs) s1 (R1.forget e cO) ⟨a,vs,rfl,w2,w3,w4,(R1.HR e cO r1).1,⟨λj ys e2 z=>?_,λ⟨j,o,c,e2,e3,hm⟩=>?_⟩⟩ q1.2
   ·by_cases hj:j=i
    ·subst hj;rw[aL e]at e2;cases e2
    ·rw[aQ hj]at e2
     exact hj (R1.dis j i ys xs a e2 e z r1)
   ·have hj:j≠i:=λz=>by subst z;rw[aL e]at e2;cases e2
    rw[aQ hj]at e2;exact R1.ob.iE i xs a e r1 ⟨j,o,c,e2,e3,hm⟩
  ·rename_i d e
   obtain⟨v2,e2,r2⟩:=R1.sh i d e;rw[r1]at e2;cases e2;exact K.rt v σ H1 F1 ax (.sh d) s1 R1 r2 q1
  ·rename_i o e
   obtain⟨a,w1,w2,w3⟩:=R1.ob.obj i o e;rw[r1]at w1;cases w1;have Ca:=ok.obs Si q1.1;have cO:∀p∈Y.io,p.1≠i:=λp hp z=>by
    have:=ok.ios p hp;rw[q1.1]at this;cases this
   refine K.rt _ σ H1 F1 _ (.obj o) s1 (R1.forget e cO) ⟨a,rfl,w2,λb hb=>⟨(w3 b hb).1,(w3 b hb).2.1,?_,⟨λj ys e2 z=>?_,λ⟨j,o2,c,e2,e3,hm⟩=>?_⟩⟩⟩ q1.2
   ·rcases(w3 b hb).2.2 with z|z
    ·exact z
    ·rw[Ca]at z;cases z
   ·have hj:j≠i:=λz=>by subst z;rw[aL e]at e2;cases e2
    rw[aQ hj]at e2;exact R1.ob.iE j ys b e2 z ⟨i,o,a,e,r1,hb⟩
   ·have hj:j≠i:=λz=>by subst z;rw[aL e]at e2;cases e2
    rw[aQ hj]at e2;exact R1.ob.tT j i o2 o c a e2 e e3 r1 hj b hm hb
  ·exact q1.elim
end
theorem gs{α:Type}{l:List α}{i j:Nat}{x y:α}(h:(l.set i x)[j]?=some y):(j=i/\y=x)\/(j≠i/\l[j]?=some y):=by
 by_cases hj:j=i
 ·subst hj
  by_cases hl:j<l.length
  ·rw[List.getElem?_set_self hl]at h;exact .inl ⟨rfl,(Option.some.inj h).symm⟩
  ·have:(l.set j x)[j]?=none:=by rw[List.getElem?_eq_none_iff];simp;omega
   rw[this]at h;cases h
 ·rw[List.getElem?_set_ne (Ne.symm hj)]at h;exact .inr ⟨hj,h⟩
theorem bo{α:Type}{l:List α}{i j:Nat}{x:α}(h:j≠i):(l.set i x)[j]?=l[j]?:=List.getElem?_set_ne (Ne.symm h)
theorem qg{α:Type}{l:List α}{i:Nat}{x:α}(h:i<l.length):(l.set i x)[i]?=some x:=List.getElem?_set_self h
theorem yB{α:Type}{l:List α}{i j:Nat}{x y:α}(h:(l.set i x)[j]?=some y):j<l.length:=by
 have:=(List.getElem?_eq_some_iff.mp h).1;simpa using this
theorem RS.jr{Y:bD}{F:Hp}{ai:Sd}{σ:St}{H:Hp}{i:Nat}{d:D}{v:V}(R:RS Y F ai σ H)(r:Rep F v d)(cO:∀p∈Y.io,p.1≠i):RS Y F (ai.set i (some (.sh d))) (σ.set i (some v)) H where
 len:=by simpa using R.len
 lo:=R.lo
 fr:=R.fr
 eM:=R.eM
 old:=R.old
 sh:=λj e q=>by
  rcases gs q with⟨rfl,z⟩|⟨hj,q'⟩
  ·cases z
   exact⟨v,qg (by rw[<- R.len];exact yB q),r⟩
  ·obtain⟨u,w1,w2⟩:=R.sh j e q'
   exact⟨u,by rw[bo hj];exact w1,w2⟩
 own:=λj xs q=>by
  rcases gs q with⟨_,z⟩|⟨hj,q'⟩
  ·cases z
  ·obtain⟨a,vs,w1,w2⟩:=R.own j xs q'
   exact⟨a,vs,by rw[bo hj];exact w1,w2⟩
 dis:=λj l xs ys a q1 q2 q3 q4=>by
  rcases gs q1 with⟨_,z⟩|⟨hj,q1⟩
  ·cases z
  rcases gs q2 with⟨_,z⟩|⟨hl,q2⟩
  ·cases z
  rw[bo hj]at q3;rw[bo hl]at q4;exact R.dis j l xs ys a q1 q2 q3 q4
 io:=λp hp=>by
  obtain⟨w1,ys,w2⟩:=R.io p hp;exact⟨by rw[bo (cO p hp)];exact w1,ys,by rw[bo (cO p hp)];exact w2⟩
 ob:=R.ob.put (λ_ hj=>bo hj) (λ_ z=>nomatch z) λ_ _ z=>nomatch z
theorem RS.Ao{Y:bD}{F:Hp}{ai:Sd}{σ:St}{H:Hp}{i:Nat}{xs:List D}{a:Addr}{vs:List V}(R:RS Y F ai σ H)(h1:H a=some (.lst vs))(h2:aC F vs xs)(h3:F a=none)(h4:Y.H0 a=none)(h5:cH ai σ a)
  (cO:∀p∈Y.io,p.1≠i):RS Y F (ai.set i (some (.own xs))) (σ.set i (some (.ref a))) H where
 len:=by simpa using R.len
 lo:=R.lo
 fr:=R.fr
 eM:=R.eM
 old:=R.old
 sh:=λj e q=>by
  rcases gs q with⟨_,z⟩|⟨hj,q'⟩
  ·cases z
  ·obtain⟨u,w1,w2⟩:=R.sh j e q'
   exact⟨u,by rw[bo hj];exact w1,w2⟩
 own:=λj ys q=>by
  rcases gs q with⟨rfl,z⟩|⟨hj,q'⟩
  ·cases z
   exact⟨a,vs,qg (by rw[<- R.len];exact yB q),h1,h2,h3,.inl h4⟩
  ·obtain⟨b,us,w1,w2⟩:=R.own j ys q'
   exact⟨b,us,by rw[bo hj];exact w1,w2⟩
 dis:=λj l ys zs b q1 q2 q3 q4=>by
  rcases gs q1 with⟨rfl,z⟩|⟨hj,q1⟩
  ·rcases gs q2 with⟨e,z⟩|⟨hl,q2⟩
   ·exact e.symm
   ·rw[bo hl]at q4
    rcases gs q3 with⟨_,z3⟩|⟨hc,_⟩
    ·cases z3
     exact absurd q4 (h5 l zs q2)
    ·exact absurd rfl hc
  ·rw[bo hj]at q3
   rcases gs q2 with⟨e2,z⟩|⟨hl,q2⟩
   ·rcases gs q4 with⟨_,z4⟩|⟨hc,_⟩
    ·cases z4
     exact absurd q3 (h5 j ys (by assumption))
    ·exact absurd e2 hc
   ·rw[bo hl]at q4
    exact R.dis j l ys zs b (by assumption) q2 q3 q4
 io:=λp hp=>by
  obtain⟨w1,ys,w2⟩:=R.io p hp;exact⟨by rw[bo (cO p hp)];exact w1,ys,by rw[bo (cO p hp)];exact w2⟩
 ob:=R.ob.put (λ_ hj=>bo hj) (λ_ z=>nomatch z) λys b _ z=>by
  rcases gs z with⟨_,z2⟩|⟨hc,_⟩
  ·cases z2;exact h5.Ex
  ·exact absurd rfl hc
theorem RS.JS{Y:bD}{F:Hp}{ai:Sd}{σ:St}{H:Hp}{i:Nat}{o:O}{a:Addr}(R:RS Y F ai σ H)(h1:o.rep F H a)(h2:∀b∈o.fp a,F b=none/\H b≠none/\Y.H0 b=none/\cH ai σ b)
  (cO:∀p∈Y.io,p.1≠i):RS Y F (ai.set i (some (.obj o))) (σ.set i (some (.ref a))) H where
 len:=by simpa using R.len
 lo:=R.lo
 fr:=R.fr
 eM:=R.eM
 old:=R.old
 sh:=λj e q=>by
  rcases gs q with⟨_,z⟩|⟨hj,q'⟩
  ·cases z
  ·obtain⟨u,w1,w2⟩:=R.sh j e q'
   exact⟨u,by rw[bo hj];exact w1,w2⟩
 own:=λj ys q=>by
  rcases gs q with⟨_,z⟩|⟨hj,q'⟩
  ·cases z
  ·obtain⟨b,us,w1,w2⟩:=R.own j ys q'
   exact⟨b,us,by rw[bo hj];exact w1,w2⟩
 dis:=λj l ys zs b q1 q2 q3 q4=>by
  rcases gs q1 with⟨_,z⟩|⟨hj,q1⟩
  ·cases z
  rcases gs q2 with⟨_,z⟩|⟨hl,q2⟩
  ·cases z
  rw[bo hj]at q3;rw[bo hl]at q4;exact R.dis j l ys zs b q1 q2 q3 q4
 io:=λp hp=>by
  obtain⟨w1,ys,w2⟩:=R.io p hp;exact⟨by rw[bo (cO p hp)];exact w1,ys,by rw[bo (cO p hp)];exact w2⟩
 ob:=by
  have at':∀ {j:Nat} {c:Addr},j=i->(σ.set i (some (.ref a)))[j]?=some (some (.ref c))->c=a:=λ{j c} e z=>by
   subst e;rcases gs z with⟨_,z2⟩|⟨hc,_⟩
   ·cases z2;rfl
   ·exact absurd rfl hc
  refine⟨λj p q=>?_,λj l p p2 c d q1 q2 q3 q4 ck x hx lA=>?_,λj ys b q1 q2 ⟨l,p,c,q3,q4,hm⟩=>?_,R.ob.there,R.ob.Lc,R.ob.tab⟩
  ·rcases gs q with⟨rfl,z⟩|⟨hj,q'⟩
   ·cases z
    exact⟨a,qg (by rw[<- R.len];exact yB q),h1,λb hb=>⟨(h2 b hb).1,(h2 b hb).2.1,.inl (h2 b hb).2.2.1⟩⟩
   ·obtain⟨c,w1,w2⟩:=R.ob.obj j p q'
    exact⟨c,by rw[bo hj];exact w1,w2⟩
  ·rcases gs q1 with⟨e1,z⟩|⟨hj,Pb⟩
   ·cases z
    rcases gs q2 with⟨e2,z⟩|⟨hl,TJ⟩
    ·exact ck (e1.trans e2.symm)
    ·rw[bo hl]at q4
     have:=at' e1 q3;subst this;exact(h2 x hx).2.2.2.Ex ⟨l,p2,d,TJ,q4,lA⟩
   ·rw[bo hj]at q3
    rcases gs q2 with⟨e2,z⟩|⟨hl,TJ⟩
    ·cases z
     have:=at' e2 q4;subst this;exact(h2 x lA).2.2.2.Ex ⟨j,p,c,Pb,q3,hx⟩
    ·rw[bo hl]at q4
     exact R.ob.tT j l p p2 c d Pb TJ q3 q4 ck x hx lA
  ·rcases gs q1 with⟨_,z⟩|⟨hj,Pb⟩
   ·cases z
   rw[bo hj]at q2;rcases gs q3 with⟨e3,z⟩|⟨hl,W8⟩
   ·cases z
    have:=at' e3 q4;subst this;exact(h2 b hm).2.2.2 j ys Pb q2
   ·rw[bo hl]at q4
    exact R.ob.iE j ys b Pb q2 ⟨l,p,c,W8,q4,hm⟩
def Q0(ios:List Nat)(i:Nat)(x:EV)(σ:Sd)(Q:Sd->Prop):Prop:=match x with
 | .val d=>Q (σ.set i (some (.sh d)))
 | .own xs=>Q (σ.set i (some (.own xs)))
 | .obj o=>Q (σ.set i (some (.obj o)))
 | .any=>False
 | .var j=>match σ[j]? with
  | some (some (.own xs))=>j∉ios/\Q ((σ.set j (some (.sh (.lst xs)))).set i (some (.sh (.lst xs))))
  | some (some (.sh d))=>Q (σ.set i (some (.sh d)))
  | _=>False
theorem jb{Y:bD}{F:Hp}{ai:Sd}{σ:St}{H:Hp}{i:Nat}{v:V}{x:EV}{ios:List Nat}{Q:Sd->Prop}(R:RS Y F ai σ H)(r:BF Y F H ai σ v x)(hi:i∉ios)(cO:∀p∈Y.io,p.1∈ios)(q:Q0 ios i x ai Q):
  ∃F' aD,aq F F'/\RS Y F' aD (σ.set i (some v)) H/\Q aD:=by
 have h0:∀p∈Y.io,p.1≠i:=λp hp z=>hi (z ▸ cO p hp);cases x with
 | val d=>exact⟨F,_,aq.refl _,R.jr r h0,q⟩
 | own xs =>
  obtain⟨a,vs,rfl,h1,h2,h3,h4,h5⟩:=r;exact⟨F,_,aq.refl _,R.Ao h1 h2 h3 h4 h5 h0,q⟩
 | obj o =>
  obtain⟨a,rfl,h1,h2⟩:=r;exact⟨F,_,aq.refl _,R.JS h1 h2 h0,q⟩
 | any=>exact False.elim q
 | var j =>
  have r:σ[j]?=some (some v):=r;unfold Q0 at q;dsimp only at q
  split at q
  ·rename_i xs e
   obtain⟨F2,v2,s2,R2,e2,r2⟩:=R.iP e λp hp z=>q.1 (z ▸ cO p hp);rw[r]at e2;cases e2;exact⟨F2,_,s2,R2.jr r2 h0,q.2⟩
  ·rename_i d e
   obtain⟨v2,e2,r2⟩:=R.sh j d e;rw[r]at e2;cases e2;exact⟨F,_,aq.refl _,R.jr r2 h0,q⟩
  ·exact q.elim
def dE(ios:List Nat)(i:Nat)(t:TX):cn:=λDe σ=>t σ λx ax=>Q0 ios i x ax De.nx
theorem gn{X:Cx}{Y:bD}(ok:dk X G k S Y){x:Str}(h:S.sc.lookup x=some .local\/(S.sc.lookup x=some .cell/\S.vk=false)):L2.Loc X.env.scope x:=by
 unfold L2.Loc;rw[ok.sc];exact h.imp id (·.1)
theorem gf{X:Cx}{Y:bD}(ok:dk X G k S Y){x:Str}(h:S.sc.lookup x=some .local\/(S.sc.lookup x=some .cell/\S.vk=false)):X.fn x=true\/X.env.scope.names.lookup x=some .local:=by
 rcases h with h|h
 ·right;rw[ok.sc];exact h
 ·left;exact ok.fn h.2 x h.1
theorem bz(i:Nat){x:Str}{e:Expr}{te:TX}{pos pos':Pos}(he:EX G k S e te)(hi:S.N[i]?=some x:=by rfl)(hx:S.sc.lookup x=some .local\/(S.sc.lookup x=some .cell/\S.vk=false):=by first|exact Or.inl rfl|exact Or.inr ⟨rfl,rfl⟩)(hn:i∉S.ios:=by first|decide|exact List.not_mem_nil | (dsimp only;decide))
  (hs:∀line env,swapsWith e (some (.Name x pos')) line env=pure false:=by intro _ _;rfl):ES G k S (.Assign [.Name x pos'] e pos) (dE S.ios i te):=.mk λX Y ok =>
 cu (L2.zV (i:=i) (by rw[ok.N];exact ok.nd) (by rw[ok.N];exact hi) (gn ok hx) (he X Y ok) (hs _ _) (gf ok hx)) λDn σ H q=>by
  obtain⟨F,ai,De,R,q,K⟩:=q;refine⟨F,ai,_,R,q,λv H1 F1 y ax s1 R1 r1 q1=>?_⟩;obtain⟨F2,bx,s2,R2,q2⟩:=jb R1 r1 hn ok.ios q1;exact K.nx _ H1 F2 bx (s1.trans s2) R2 q2
theorem RS.write{Y:bD}{F:Hp}{ai:Sd}{σ:St}{H:Hp}{i:Nat}{xs ys:List D}{a:Addr}{us:List V}(R:RS Y F ai σ H)(e:ai[i]?=some (some (.own xs)))(h:σ[i]?=some (some (.ref a)))(r:aC F us ys):
  RS Y F (ai.set i (some (.own ys))) σ (upd H a (.lst us)):=by
 obtain⟨b,vs,w1,w2,w3,w4,w5⟩:=R.own i xs e;rw[h]at w1;cases w1;have hl:i<ai.length:=(List.getElem?_eq_some_iff.mp e).1;have Ca:o9 Y F (ai.set i (some (.own ys))) σ (upd H a (.lst us)):=R.ob.step (aq.refl _) (λj o q=>by
  rcases gs q with⟨_,z⟩|⟨hj,q⟩
  ·cases z
  ·exact⟨q,rfl⟩) (λb hb=>by
  obtain⟨z1,z2,z3⟩:=R.ob.owned hb;have ck:b≠a:=λz=>R.ob.iE i xs a e h (z ▸ hb);exact⟨ak ck,z1,z3⟩) (λj zs b q1 q2=>by
  rcases gs q1 with⟨e1,_⟩|⟨hj,q1⟩
  ·subst e1
   rw[h]at q2;cases q2;exact R.ob.iE j xs a e h
  ·exact R.ob.iE j zs b q1 q2) λb hb=>by
  by_cases ck:b=a
  ·rw[ck,au];exactλz=>nomatch z
  ·rw[ak ck];exact R.ob.there b hb
 refine⟨by simpa using R.len,R.lo,λb o q=>?_,R.eM,λb o q n=>?_,λj d q=>?_,λj zs q=>?_,λj l zs qs b q1 q2 q3 q4=>?_,λp hp=>?_,Ca⟩
 ·have:b≠a:=λz=>by rw[z,w4]at q;cases q
  rw[ak this];exact R.fr b o q
 ·have:b≠a:=λz=>by
   subst z;rcases w5 with w5|w5
   ·rw[w5]at q;cases q
   ·exact bD.ud n w5
  rw[ak this];exact R.old b o q n
 ·rcases gs q with⟨_,z⟩|⟨hj,q⟩
  ·cases z
  ·exact R.sh j d q
 ·rcases gs q with⟨rfl,z⟩|⟨hj,q⟩
  ·cases z
   exact⟨a,us,h,au,r,w4,w5⟩
  ·obtain⟨b,ws,z1,z2,z3,z4,z5⟩:=R.own j zs q
   have:b≠a:=λz=>hj (R.dis j i zs xs a q e (z ▸ z1) h);exact⟨b,ws,z1,by rw[ak this];exact z2,z3,z4,z5⟩
 ·have f:∀ {m:Nat} {ms:List D},(ai.set i (some (B.own ys)))[m]?=some (some (B.own ms))->∃Tt,ai[m]?=some (some (B.own Tt)):=λ{m ms} q=>by
   rcases gs q with⟨rfl,z⟩|⟨hj,q⟩
   ·exact⟨xs,e⟩
   ·exact⟨_,q⟩
  obtain⟨_,q1⟩:=f q1;obtain⟨_,q2⟩:=f q2;exact R.dis j l _ _ b q1 q2 q3 q4
 ·obtain⟨z1,zs,z2⟩:=R.io p hp
  refine⟨z1,?_⟩
  by_cases He:p.1=i
  ·exact⟨ys,by rw[He,qg hl]⟩
  ·exact⟨zs,by rw[bo He];exact z2⟩
def qp(σ:Sd)(i:Nat):Prop:=∃xs,σ[i]?=some (some (B.own xs))
def FI(i:Nat)(d:D)(σ:Sd)(Q:Sd->Prop):Prop:=match σ[i]? with
 | some (some (.own xs))=>xs.length<sizeLine/\Q (σ.set i (some (.own (xs++[d]))))
 | _=>False
def qY(to:TV)(te:TD):TX:=λσ Q=>to σ λx ax=>match x with
 | .var i=>qp ax i/\te ax λd bx=>FI i d bx λeK=>Q (.val .bB) eK
 | _=>False
theorem fh{o e:Expr}{to:TV}{te:TD}{apos cpos:Pos}(ho:EO G k S o to)(he:ED G k S e te)(hb:∀env,attributeBase o "append" env (eval o env)=eval o env:=by intro _;rfl)
  (yP:∀env,((backTo cpos (starEach [e] env)).all (λx=>!x.1)&&(backToKw cpos (keywordEach [] env)).all (λx=>x.1.isSome)&&decide (([e]:List Expr).length+([]:List Keyword).length+(if([]:List Keyword).isEmpty then 0 else 1)<30))=true:=by intro _;rfl)
  (hline:(apos.endLine==cpos.line)=true:=by rfl) (hs:∀env,starEach [e] env=[(false,eval e env)]:=by intro _;rfl):EX G k S (.Call (.Attribute o "append" apos) [e] [] cpos) (qY to te):=.mk λX Y ok=>by
 have ha:PA X [e] (d2 (lD Y te) lN):=bC (he X Y ok) bS (by rw[hs];rfl)
 refine aO (kL F.plainAttrs_list F.slot_list_append F.type_list_append dn (ho X Y ok) ha (hb _) (yP _) hline (by rw[hs];rfl) (by rfl)) λσ H Q q=>?_
 obtain⟨F,ai,Qd,R,q,K⟩:=q;refine⟨F,ai,_,R,q,λv1 H1 F1 x ax s1 R1 r1 q1=>?_⟩;cases x with
 | val d=>exact q1.elim
 | any=>exact q1.elim
 | var i =>
  obtain⟨⟨ys,e0⟩,q1⟩:=q1;have r1:σ[i]?=some (some v1):=r1;obtain⟨a,vs,w1,w2,w3,w4,w5⟩:=R1.own i ys e0;rw[r1]at w1;cases w1;refine⟨.inl ⟨rfl,vs,.of w2⟩,F1,ax,_,R1,q1,λv2 H2 F2 d bx s2 R2 r2 q2=>?_⟩;unfold FI at q2
  split at q2
  ·rename_i xs e2
   obtain⟨b,us,z1,z2,z3,z4,z5⟩:=R2.own i xs e2;rw[r1]at z1;cases z1;exact⟨a,us,v2,rfl,rfl,z2,by rw[z3.length];exact q2.1,K .bB _ F2 (.val .bB) _ (s1.trans s2) (R2.write e2 r1 (z3.append (.cons r2 .nil))) .bB q2.2⟩
  ·exact q2.elim
end Vc
namespace Vc
open PySem L2
variable [KF]
variable {G:GE}{k:Nat}{S:Stat}
abbrev cw:=List D->(B->Prop)->Prop
def Fp(H F H':Hp)(v:V):B->Prop
 | .sh d=>Rep F v d
 | .own xs=>∃a vs,v=.ref a/\H' a=some (.lst vs)/\aC F vs xs/\F a=none/\H a=none
 | .obj o=>∃a,v=.ref a/\o.rep F H' a/\∀b∈o.fp a,F b=none/\H' b≠none/\H b=none
def wt(sp:cw):Sp:=λvs H Q _=>∃F ds Qd,pE F H/\aC F vs ds/\sp ds Qd /\
 ∀v H' F' b,aq F F'->aq F' H'->aq H H'->(∀c o,F' c=some o->F c=some o\/Nw H c o)->Fp H F' H' v b->Qd b->Q v H'
theorem RS.call{Y:bD}{F F':Hp}{ai:Sd}{σ:St}{H H':Hp}(R:RS Y F ai σ H)(s1:aq F F')(s2:aq F' H')(s3:aq H H')(fr:∀c o,F' c=some o->F c=some o\/Nw H c o):RS Y F' ai σ H' where
 len:=R.len
 lo:=R.lo.trans s1
 fr:=s2
 eM:=λb o e=>by
  rcases fr b o e with h|h
  ·exact R.eM b o h
  ·exact .inr (h.imp (λh=>(R.bQ h).1) id)
 old:=λb o e n=>s3 b o (R.old b o e n)
 sh:=λi d e=>by
  obtain⟨v,h1,h2⟩:=R.sh i d e;exact⟨v,h1,h2.mono s1⟩
 own:=λi xs e=>by
  obtain⟨a,vs,h1,h2,h3,h4,h5⟩:=R.own i xs e;refine⟨a,vs,h1,s3 a _ h2,h3.mono s1,?_,h5⟩;cases q:F' a with
  | none=>rfl
  | some o =>
   rcases fr a o q with h|h
   ·rw[h4]at h;cases h
   ·rcases h with h|⟨ws,rfl⟩
    ·rw[h2]at h;cases h
    ·have z:=s2 a _ q;rw[s3 a _ h2]at z;cases z
 dis:=R.dis
 io:=R.io
 ob:=by
  have up:∀b,H b≠none->H' b=H b:=λb hb=>by
   cases q:H b with
   | none=>exact absurd q hb
   | some o=>exact s3 b o q
  refine R.ob.step s1 (λ_ _ e=>⟨e,rfl⟩) (λb hb=>?_) R.ob.iE λb hb=>by rw[up b (R.ob.there b hb)];exact R.ob.there b hb
  obtain⟨w1,w2,w3⟩:=R.ob.owned hb;refine⟨up b w2,?_,w3⟩;cases q:F' b with
  | none=>rfl
  | some o =>
   rcases fr b o q with h|h
   ·rw[w1]at h;cases h
   ·rcases h with h|⟨ws,rfl⟩
    ·exact absurd h w2
    ·exact absurd (by rw[<- up b w2];exact s2 b _ q) (R.ob.Ez hb)
def dF(G:GE)(k:Nat)(x:Str)(sp:cw):Prop:=∃f fd ps,di G.P G.w G.K G.mg G.base m8 k f fd ps (wt sp)/\G.mg x=some (.ref f)/\PySem.W.keepIn G.K (.ref f)=true/\Binds G.K fd ps []
theorem dF.mono{x:Str}{sp:cw}{j:Nat}(h:dF G j x sp)(l:j<=k):dF G k x sp:=by
 obtain⟨f,fd,ps,h1,h2,h3,h4⟩:=h;exact⟨f,fd,ps,h1.mono l,h2,h3,h4⟩
def bE:B->EV
 | .sh d=>.val d
 | .own xs=>.own xs
 | .obj o=>.obj o
def Cl(sp:cw)(ds:List D)(Q:B->Prop):Prop:=sp ds Q
def mV(sp:cw)(t:d6):TX:=λσ Q=>t σ λds ax=>Cl sp ds λb=>Q (bE b) ax
theorem cg{x:Str}{sp:cw}{e:Expr}{es:List Expr}{t:d6}{p pos:Pos}(h:dF G k x sp)(ha:rQ G k S (e::es) t)(hg:S.sc.lookup x=some .globalImplicit:=by rfl)(nN:(x==("__debug__":Str))=false:=by decide)
  (he:∀env,starEach (e::es) env=(false,eval e env)::starEach es env:=by exactλ_=>Vc.fJ rfl) (dQ:∀env,(backTo pos (starEach es env)).any (·.1)=false:=by intro _;rfl) (hh:S.jJ=false:=by rfl):EX G k S (.Call (.Name x p) (e::es) [] pos) (mV sp t):=.mk λX Y ok=>by
 obtain⟨f,fd,ps,h1,h2,h3,h4⟩:=h;have GX:di X.prog X.w X.K X.mg X.base m8 k f fd ps (wt sp):=by rw[ok.P,ok.w,ok.K,ok.mg,ok.base];exact h1
 refine aO (jN (E:=E0) (dvs:=[]) (ds:=[]) GX (ok.room hh) (cA ok hg) (by rw[ok.mg];exact h2) (by rw[ok.K];exact h3) (by rw[ok.K];exact h4) .nil uA (ha X Y ok) nN (he _) (dQ _)) λσ H Q q=>?_
 obtain⟨F,ai,Qd,R,q,K⟩:=q;refine⟨F,ai,_,R,q,λvs H1 F1 ds ax s1 R1 r1 q1=>?_⟩;show wt sp (vs++[]) H1 Q E0;rw[List.append_nil];refine⟨F1,ds,_,⟨R1.fr,R1.ob.tab⟩,r1,q1,λv H' F' b s2 s3 s4 fr r2 q2=>?_⟩;have R2:=R1.call s2 s3 s4 fr;cases b with
 | sh d=>exact K v H' F' (.val d) ax (s1.trans s2) R2 r2 q2
 | own xs =>
  obtain⟨a,us,rfl,w1,w2,w3,w4⟩:=r2;refine K _ H' F' (.own xs) ax (s1.trans s2) R2 ⟨a,us,rfl,w1,w2,w3,(R1.bQ w4).1,R1.cD w4⟩ q2
 | obj o =>
  obtain⟨a,rfl,w1,w2⟩:=r2;exact K _ H' F' (.obj o) ax (s1.trans s2) R2 ⟨a,rfl,w1,λb hb=>⟨(w2 b hb).1,(w2 b hb).2.1,(R1.bQ (w2 b hb).2.2).1,R1.cD (w2 b hb).2.2⟩⟩ q2
def bj(n:Nat)(ds:List D):Sd:=ds.map (λd=>some (.sh d))++List.replicate (n-ds.length) none
theorem kY{F:Hp}:∀ {vs:List V} {ds:List D} (m:Nat) {i:Nat} {d:D},aC F vs ds->(ds.map (λd=>some (B.sh d))++List.replicate m none)[i]?=some (some (.sh d))->∃v,(vs.map some++List.replicate m none)[i]?=some (some v)/\Rep F v d
 | [],[],m,i,d,.nil,e=>by
  simp only[List.map_nil,List.nil_append,List.getElem?_replicate]at e
  split at e<;>cases e
 | v::vs,x::ds,m,0,d,.cons r t,e=>by
  simp at e;subst e;exact⟨v,by simp,r⟩
 | v::vs,x::ds,m,i+1,d,.cons r t,e=>by
  obtain⟨u,h1,h2⟩:=kY (i:=i) m t (by simpa using e)
  exact⟨u,by simpa using h1,h2⟩
theorem dZ:∀(ds:List D) (m i:Nat) (xs:List D),(ds.map (λd=>some (B.sh d))++List.replicate m none)[i]?≠some (some (.own xs))
 | [],m,i,xs=>by
  simp only[List.map_nil,List.nil_append,List.getElem?_replicate];intro e
  split at e<;>cases e
 | x::ds,m,0,xs=>by simp
 | x::ds,m,i+1,xs=>by
  have:=dZ ds m i xs;simpa using this
theorem jc:∀(ds:List D) (m i:Nat) (o:O),(ds.map (λd=>some (B.sh d))++List.replicate m none)[i]?≠some (some (.obj o))
 | [],m,i,o=>by
  simp only[List.map_nil,List.nil_append,List.getElem?_replicate];intro e
  split at e<;>cases e
 | x::ds,m,0,o=>by simp
 | x::ds,m,i+1,o=>by
  have:=jc ds m i o;simpa using this
theorem RS.start{F H:Hp}{vs:List V}{ds:List D}(n:Nat)(s:pE F H)(r:aC F vs ds):RS ⟨H,F,[],[]⟩ F (bj n ds) (vs.map some++List.replicate (n-vs.length) none) H where
 len:=by unfold bj;simp [r.length]
 lo:=aq.refl _
 fr:=s.1
 eM:=λb o e=>.inl e
 old:=λb o e _=>e
 sh:=λi d e=>by
  rw[r.length];exact kY _ r e
 own:=λi xs e=>absurd e (dZ _ _ _ _)
 dis:=λi j xs ys a e=>absurd e (dZ _ _ _ _)
 io:=λp hp=>absurd hp (by simp)
 ob:=.none (λi o=>jc _ _ _ _) s.2 λb hb=>by cases hb
theorem Ei{x qual:Str}{st:Stmt}{f:Addr}{fd:FuncData}{N ps:List Str}{sp:cw}{t:cn}(hK:G.K=KF.K)(Fn:D0 G.K x qual st f fd)(Sc:aP N ps (ah st))(ht:eL G k ⟨N,(ah st).names,[],false,false,false,λ_ _=>False⟩ (az st) t)
  (len:∀ds Q,sp ds Q->ds.length=ps.length)
  (body:∀ds Q,sp ds Q->t {nx:=λ_=>Q (.sh .bB),rt:=λb _=>Q b} (bj N.length ds)):di G.P G.w G.K G.mg G.base m8 (k+1) f fd ps (wt sp):=by
 refine Fn.ok Sc (λvs H Q E h=>?_) (λgB A outer s H vs Q E hr h=>?_)
 ·obtain⟨F,ds,Qd,s,r,q,K⟩:=h
  rw[r.length];exact len _ _ q
 ·obtain⟨F,ds,Qd,sm,r,q,K⟩:=h
  refine⟨_,ht (nC m8 G.P G.w G.K G.mg G.base N qual (ah st) f gB A outer s H E).HX ⟨H,F,[],[]⟩ ⟨rfl,rfl,rfl,hK,rfl,rfl,rfl,rfl,Sc.nd,λp hp=>absurd hp (by simp),λ_ _=>rfl,λ_=>rfl,Sc.kind,λ_ _ _=>rfl,λ_=>hr.hd,hr.dp,hr.un,λ_=>PassesOwn.never,λ_=>⟨rfl,rfl,rfl⟩,λ_ _ h=>h.elim,λh=>nomatch h⟩,F,bj N.length ds,_,RS.start _ sm r,body ds Qd q,?_⟩
  have same:∀ {F':Hp} {ai:Sd} {σ:St} {H':Hp},RS ⟨H,F,[],[]⟩ F' ai σ H'->aq H H':=λR b o e=>R.old b o e (by simp [bD.wU])
  refine⟨λσ H' F' ai s' R' q'=>?_,λv σ H' F' ai b s' R' r' q'=>?_,λ_ _ _ _ _ _ h=>h.elim,λ_ _ _ _ _ _ h=>h.elim⟩
  ·exact K .bB H' F' (.sh .bB) s' R'.fr (same R') R'.eM .bB q'
  ·refine K v H' F' b s' R'.fr (same R') R'.eM ?_ q'
   cases b with
   | sh d=>exact r'
   | own xs =>
    obtain⟨a,us,rfl,w1,w2,w3,w4,w5⟩:=r';exact⟨a,us,rfl,w1,w2,w3,w4⟩
   | obj o =>
    obtain⟨a,rfl,w1,w2⟩:=r';exact⟨a,rfl,w1,λb hb=>⟨(w2 b hb).1,(w2 b hb).2.1,(w2 b hb).2.2.1⟩⟩
end Vc
namespace Vc
open PySem L2
variable [KF]
variable {G:GE}{k:Nat}{S:Stat}
abbrev pd:=D->Sd->(Sd->Prop)->Prop
def lG(Y:bD)(g:pd):TG:=λv σ H Q=>∃F ai d Qd,RS Y F ai σ H/\Rep F v d/\g d ai Qd/\∀bw H' F' aD,aq F F'->RS Y F' aD bw H'->Qd aD->Q bw H'
structure EG(G:GE)(k:Nat)(S:Stat)(tg:Expr)(g:pd) :Prop where
 run:∀X Y,dk X G k S Y->PG X tg (lG Y g)
instance {G:GE} {k:Nat} {S:Stat} {tg:Expr} {g:pd} :CoeFun (EG G k S tg g) λ_=>∀X Y,dk X G k S Y->PG X tg (lG Y g):=⟨EG.run⟩
theorem zK{X:Cx}{e:Expr}{t t':TG}(h:PG X e t)(i:∀v σ H Q,t' v σ H Q->t v σ H Q):PG X e t':=λpins s σ H v u Q I r q=>h pins s σ H v u Q I r (i v σ H Q q)
def dJ(i:Nat):pd:=λd σ Q=>Q (σ.set i (some (.sh d)))
theorem aS(i:Nat){x:Str}{pos:Pos}(hi:S.N[i]?=some x:=by rfl)(hx:S.sc.lookup x=some .local\/(S.sc.lookup x=some .cell/\S.vk=false):=by first|exact Or.inl rfl|exact Or.inr ⟨rfl,rfl⟩)(hn:i∉S.ios:=by first|decide|exact List.not_mem_nil | (dsimp only;decide)):EG G k S (.Name x pos) (dJ i):=.mk λX Y ok =>
 zK (gV (i:=i) (by rw[ok.N];exact ok.nd) (by rw[ok.N];exact hi) (gn ok hx) (gf ok hx)) λv σ H Q q=>by
  obtain⟨F,ai,d,Qd,R,r,q,K⟩:=q;exact K _ H F _ (aq.refl _) (R.jr r λp hp z=>hn (z ▸ ok.ios p hp)) q
abbrev ng:=List D->Sd->(Sd->Prop)->Prop
def Vf(Y:bD)(g:ng):D3:=λvs σ H Q=>∃F ai ds Qd,RS Y F ai σ H/\aC F vs ds/\g ds ai Qd/\∀bw H' F' aD,aq F F'->RS Y F' aD bw H'->Qd aD->Q bw H'
structure KJ(G:GE)(k:Nat)(S:Stat)(ts:List Expr)(g:ng) :Prop where
 run:∀X Y,dk X G k S Y->KO X ts (Vf Y g)
instance {G:GE} {k:Nat} {S:Stat} {ts:List Expr} {g:ng} :CoeFun (KJ G k S ts g) λ_=>∀X Y,dk X G k S Y->KO X ts (Vf Y g):=⟨KJ.run⟩
def wM:ng:=λds σ Q=>match ds with
 | []=>Q σ
 | _=>False
def gC(g:pd)(u:ng):ng:=λds σ Q=>match ds with
 | d::r=>g d σ λax=>u r ax Q
 | []=>False
theorem eo:KJ G k S [] wM:=.mk λX Y ok pins s σ H vs us Q I r q=>uB pins s σ H vs us Q I r (by
 obtain⟨F,ai,ds,Qd,R,rr,q,K⟩:=q;cases rr with
 | nil=>exact⟨rfl,K σ H F ai (aq.refl _) R q⟩
 | cons _ _=>exact q.elim)
theorem bA{e:Expr}{es:List Expr}{g:pd}{u:ng}(h1:EG G k S e g)(h2:KJ G k S es u)(hs:∀env,(assignEach (e::es) env).map (·.2)=assign e env::(assignEach es env).map (·.2):=by intro _;rfl):KJ G k S (e::es) (gC g u):=.mk λX Y ok pins s σ H vs us Q I r q =>
 kN (h1 X Y ok) (h2 X Y ok) (hs _) pins s σ H vs us Q I r (by
  obtain⟨F,ai,ds,Qd,R,rr,q,K⟩:=q;cases rr with
  | nil=>exact q.elim
  | cons r1 rs =>
   refine⟨_,_,rfl,F,ai,_,_,R,r1,q,λax H1 F1 wG s1 R1 q1=>?_⟩;exact⟨F1,wG,_,_,R1,rs.mono s1,q1,λbx H2 F2 cv s2 R2 q2=>K bx H2 F2 cv (s1.trans s2) R2 q2⟩)
def wN(n:Nat)(u:ng):pd:=λd σ Q=>match d with
 | .tup xs=>xs.length=n/\u xs σ Q
 | _=>False
theorem gL{es:List Expr}{kk:Nat}{u:ng}{n:Nat}{pos:Pos}(h:KJ G k S es u)(hn:∀env,(assignEach es env).length=n:=by intro _;rfl)(so:∀env,(assignEach es env).findIdx? (·.1)=none:=by intro _;rfl)(hh:S.jJ=false:=by rfl):EG G k S (.Tuple es kk pos) (wN n u):=.mk λX Y ok =>
 zK (zL (ok.calm hh) (h X Y ok) (hn _) (so _)) λv σ H Q q=>by
  obtain⟨F,ai,d,Qd,R,r,q,K⟩:=q;cases d with
  | tup xs =>
   cases r with
   | tup hf rl =>
    exact⟨_,_,rfl,.of (R.fr _ _ hf),by rw[rl.length];exact q.1,F,ai,xs,Qd,R,rl,q.2,K⟩
  | _=>exact q.elim
def wX(F1 H1 F2 H2:Hp):Prop:=(F2=F1/\H2=H1)\/∃p o,H1 p=none/\F2=upd F1 p o/\H2=upd H1 p o
theorem wX.same{F1 H1 F2 H2:Hp}(g:wX F1 H1 F2 H2)(s:aq F1 H1):aq F1 F2:=by
 rcases g with⟨rfl,rfl⟩|⟨p,o,h,rfl,rfl⟩
 ·exact aq.refl _
 ·exact aH (same_none s h)
theorem wX.rs{Y:bD}{F1 H1 F2 H2:Hp}{ai:Sd}{σ:St}(g:wX F1 H1 F2 H2)(R:RS Y F1 ai σ H1):RS Y F2 ai σ H2:=by
 rcases g with⟨rfl,rfl⟩|⟨p,o,h,rfl,rfl⟩
 ·exact R
 ·exact R.alloc h
def gD(F:Hp)(J:It)(items:List D):Prop:=∀F1 H1,aq F F1->aq F1 H1->∀i:Nat,
 (∀x,items[i]?=some x->J.go i H1/\∀v H2,J.Le i H1 v H2->∃F2,wX F1 H1 F2 H2/\Rep F2 v x)/\(i=items.length->J.stop i H1)
theorem gD.mono{F F':Hp}{J:It}{items:List D}(h:gD F J items)(s:aq F F'):gD F' J items:=λF1 H1 s1=>h F1 H1 (s.trans s1)
def lI(Y:bD)(t:d6):TI:=λσ H R=>∃F ai Qd,RS Y F ai σ H/\t ai Qd/\∀H' F' aD J items,aq F F'->RS Y F' aD σ H'->gD F' J items->Qd items aD->R J H'
structure EI(G:GE)(k:Nat)(S:Stat)(tg iter:Expr)(t:d6) :Prop where
 run:∀X Y,dk X G k S Y->PI X tg iter (lI Y t)
instance {G:GE} {k:Nat} {S:Stat} {tg iter:Expr} {t:d6} :CoeFun (EI G k S tg iter t) λ_=>∀X Y,dk X G k S Y->PI X tg iter (lI Y t):=⟨EI.run⟩
theorem kO{X:Cx}{tg e:Expr}{t t':TI}(h:PI X tg e t)(i:∀σ H Q,t' σ H Q->t σ H Q):PI X tg e t':=λpins s σ H Q I q=>h pins s σ H Q I (i σ H Q q)
theorem zN{X:Cx}{tg l:Expr}{tl:TE}(hl:PE X l tl):PI X tg l (λσ H R=>tl σ H λx H1=>(∃a,x=.ref a/\(∃xs,dP X.K H1 a xs)/\R (Rf X.K a) H1)\/(∃a,x=.ref a/\(∃xs,iD X.K H1 a xs)/\R (Rg X.K a) H1)):=by
 intro pins s σ H R I h;refine cq (hl pins s σ H _ I h) λv s1 ⟨x,H1,I1,r1,q1⟩=>?_;rcases q1 with⟨a,e,⟨xs,hq⟩,q⟩|⟨a,e,⟨xs,hq⟩,q⟩
 ·subst e
  cases r1;obtain⟨its,rv,p,hz⟩:=I1.list hq;refine wpAny_pyIter_list p.isList ?_;refine⟨s1.heap.objs.size,[s1.heap.objs.size],_,_,H1,rfl,I1.kept (t':=s1.toks) λb o e=>Heap.get?_push_of_some _ e,wA a _,⟨_,Heap.get?_push_size _ rfl,rfl,rfl⟩,λb hb=>?_,q⟩;have e:b=s1.heap.objs.size:=by simpa using hb
  subst e;exact I1.sf (Nat.le_refl _) (I1.bI.fresh (Nat.le_refl _))
 ·subst e
  cases r1;obtain⟨its,rv,p,hz⟩:=I1.tuple hq;refine wpAny_pyIter_tuple (show s1.heap.IsTuple a its.toArray from p) ?_
  refine⟨s1.heap.objs.size,[s1.heap.objs.size],_,_,H1,rfl,I1.kept (t':=s1.toks) λb o e=>Heap.get?_push_of_some _ e,tI a _,⟨_,Heap.get?_push_size _ rfl,rfl,rfl⟩,λb hb=>?_,q⟩;have e:b=s1.heap.objs.size:=by simpa using hb
  subst e;exact I1.sf (Nat.le_refl _) (I1.bI.fresh (Nat.le_refl _))
theorem Ck{K:PySem.W.Frag}{F:Hp}{a:Addr}{vs:List V}{xs:List D}(h:Rd F a (.lst vs))(r:aC F vs xs):gD F (Rf K a) xs:=λF1 H1 s1 s2 i=>by
 have hs:dP K H1 a vs:=.inl (Rd.mono (s1.trans s2) h);refine⟨λx e=>?_,λhl=>⟨vs,hs,by rw[r.length,hl];exact Nat.le_refl _⟩⟩
 obtain⟨v,e1,r1⟩:=r.get e;refine⟨⟨vs,v,hs,e1⟩,λv2 H2 y=>?_⟩;obtain⟨rfl,y⟩:=y;have:=y vs hs;rw[e1]at this;cases this;exact⟨F1,.inl ⟨rfl,rfl⟩,r1.mono s1⟩
theorem Cm{K:PySem.W.Frag}{F:Hp}{a:Addr}{vs:List V}{xs:List D}(h:F a=some (.tup vs))(r:aC F vs xs):gD F (Rg K a) xs:=λF1 H1 s1 s2 i=>by
 have hs:iD K H1 a vs:=.of (s2 _ _ (s1 _ _ h));refine⟨λx e=>?_,λhl=>⟨vs,hs,by rw[r.length,hl];exact Nat.le_refl _⟩⟩
 obtain⟨v,e1,r1⟩:=r.get e;refine⟨⟨vs,v,hs,e1⟩,λv2 H2 y=>?_⟩;obtain⟨rfl,y⟩:=y;have:=y vs hs;rw[e1]at this;cases this;exact⟨F1,.inl ⟨rfl,rfl⟩,r1.mono s1⟩
def cF(t:TD):d6:=λσ Q=>t σ λd ax=>match d with
 | .lst xs=>Q xs ax
 | .tup xs=>Q xs ax
 | _=>False
theorem eG{tg l:Expr}{t:TD}(h:ED G k S l t):EI G k S tg l (cF t):=.mk λX Y ok=>kO (zN (h X Y ok)) λσ H Q q=>by
 obtain⟨F,ai,Qd,R,q,K⟩:=q;refine⟨F,ai,_,R,q,λv H1 F1 d ax s1 R1 r1 q1=>?_⟩;cases d with
 | lst xs =>
  cases r1 with
  | lst hf rl=>exact .inl ⟨_,rfl,⟨_,.inl (Rd.mono R1.fr hf)⟩,K H1 F1 ax _ xs s1 R1 (Ck hf rl) q1⟩
 | tup xs =>
  cases r1 with
  | tup hf rl=>exact .inr ⟨_,rfl,⟨_,.of (R1.fr _ _ hf)⟩,K H1 F1 ax _ xs s1 R1 (Cm hf rl) q1⟩
 | _=>exact q1.elim
def lK(lo:Int)(n:Nat):List D:=(List.range n).map λi=>.int (lo+(i:Nat))
theorem uf{F:Hp}(lo:Int)(n:Nat):gD F (Lv lo n) (lK lo n):=λF1 H1 s1 s2 i=>by
 refine⟨λx e=>?_,λhl=>?_⟩
 ·unfold lK at e
  rw[List.getElem?_map]at e;have hi:i<n:=by
   by_cases hi:i<n
   ·exact hi
   ·rw[List.getElem?_eq_none_iff.mpr (by simpa using hi)]at e;cases e
  rw[List.getElem?_range hi]at e;cases e;refine⟨hi,λv H2 y=>?_⟩;obtain⟨rfl,rfl⟩:=y;exact⟨F1,.inl ⟨rfl,rfl⟩,.int _⟩
 ·unfold lK at hl
  rw[List.length_map,List.length_range]at hl;exact Nat.le_of_eq hl.symm
def lJ(t:lY):d6:=λσ Q=>t σ λxs ax=>match eg ax xs with
 | some [.int j]=>(-(2^62)<=j/\j<2^62)/\Q (lK 0 j.toNat) ax
 | _=>False
def Dg(t:lY):d6:=λσ Q=>t σ λxs ax=>match eg ax xs with
 | some [.int i,.int j]=>(-(2^62)<=i/\i<2^62/\-(2^62)<=j/\j<2^62)/\Q (lK i (j-i).toNat) ax
 | _=>False
theorem gk{tg a:Expr}{t:lY}{p pos:Pos}(h:wJ G k S [a] t)(hm:G.mg "range"=none)(hg:S.sc.lookup ("range":Str)=some .globalImplicit:=by rfl)(hs:∀env,starEach [a] env=[(false,eval a env)]:=by intro _;rfl):EI G k S tg (.Call (.Name "range" p) [a] [] pos) (lJ t):=.mk λX Y ok =>
 kO (mI (cA ok hg) (by rw[ok.mg];exact hm) (h X Y ok) (hs _)) λσ H Q q=>by
  obtain⟨F,ai,Qd,R,q,K⟩:=q;refine⟨F,ai,_,R,q,λvs H1 F1 xs ax s1 R1 r1 q1=>?_⟩
  split at q1
  ·rename_i j e
   obtain⟨v,rfl,rv⟩:=(R1.eg r1 e).one;obtain rfl:=rv.int;exact⟨j,rfl,q1.1.1,q1.1.2,K H1 F1 ax _ _ s1 R1 (uf 0 _) q1.2⟩
  ·exact q1.elim
theorem Hh{tg a b:Expr}{t:lY}{p pos:Pos}(h:wJ G k S [a,b] t)(hm:G.mg "range"=none)(hg:S.sc.lookup ("range":Str)=some .globalImplicit:=by rfl)(hs:∀env,starEach [a,b] env=[(false,eval a env),(false,eval b env)]:=by intro _;rfl)(wR:∀env,starEach [b] env=[(false,eval b env)]:=by intro _;rfl):EI G k S tg (.Call (.Name "range" p) [a,b] [] pos) (Dg t):=.mk λX Y ok =>
 kO (wk (cA ok hg) (by rw[ok.mg];exact hm) (h X Y ok) (hs _) (wR _)) λσ H Q q=>by
  obtain⟨F,ai,Qd,R,q,K⟩:=q;refine⟨F,ai,_,R,q,λvs H1 F1 xs ax s1 R1 r1 q1=>?_⟩
  split at q1
  ·rename_i i j e
   obtain⟨v,u,rfl,rv,ru⟩:=(R1.eg r1 e).two;obtain rfl:=rv.int;obtain rfl:=ru.int;exact⟨i,j,rfl,q1.1,K H1 F1 ax _ _ s1 R1 (uf i _) q1.2⟩
  ·exact q1.elim
def qa(g:pd)(tb:cn)(De:fS):List D->Sd->Prop
 | [],σ=>De.nx σ
 | x::xs,σ=>g x σ λax=>tb {De with nx:=qa g tb De xs,ct:=qa g tb De xs,bk:=De.nx} ax
def b7(ti:d6)(g:pd)(tb:cn):cn:=λDe σ=>ti σ λitems ax=>qa g tb De items ax
theorem dY{tg iter:Expr}{body:List Stmt}{ti:d6}{g:pd}{tb:cn}{pos:Pos}(hi:EI G k S tg iter ti)(hg:EG G k S tg g)(hb:eL G k S body tb)(hs:∀env x,foldedSetIterable iter env x=pure x:=by intro _ _;rfl)(hh:S.jJ=false:=by rfl):
  ES G k S (.For tg iter body [] pos) (b7 ti g tb):=.mk λX Y ok=>cu (sP (ok.po hh) (ok.calm hh) (hi X Y ok) (hg X Y ok) (hb X Y ok) (hs _)) λDn σ H q=>by
 obtain⟨F,ai,De,R,q,K⟩:=q;refine⟨F,ai,_,R,q,λH1 F1 wG J items s1 R1 it q1=>?_⟩;refine⟨λi m bw H'=>∃F' aD,aq F1 F'/\RS Y F' aD bw H'/\qa g tb De (items.drop i) aD/\m=items.length-i/\i<=items.length,⟨items.length,F1,wG,aq.refl _,R1,q1,rfl,Nat.zero_le _⟩,?_⟩;rintro i m bw H' ⟨F',aD,s',R',q',rfl,hi⟩;have y6:=it F' H' s' R'.fr i
 by_cases hl:i<items.length
 ·right
  have hd:items.drop i=items[i]::items.drop (i+1):=by rw[List.drop_eq_getElem_cons hl]
  rw[hd]at q';obtain⟨go,yl⟩:=y6.1 items[i] (by rw[List.getElem?_eq_getElem hl])
  refine⟨go,λbx H2=>∃F2 cv,aq F1 F2/\RS Y F2 cv bx H2/\qa g tb De (items.drop (i+1)) cv,λbx H2 ⟨F2,cv,s2,R2,q2⟩=>⟨items.length-(i+1),by omega,F2,cv,s2,R2,q2,rfl,hl⟩,λv H2 y=>?_⟩
  obtain⟨F2,gr,rep⟩:=yl v H2 y;have s2:aq F1 F2:=s'.trans (gr.same R'.fr);refine⟨F2,aD,items[i],_,gr.rs R',rep,q',λeK H3 F3 Uq s3 R3 q3=>⟨F3,Uq,_,R3,q3,?_⟩⟩;refine⟨λjH H4 F4 cI s4 R4 q4=>⟨F4,cI,(s2.trans s3).trans s4,R4,q4⟩,λv4 jH H4 F4 cI b s4 R4 r4 q4=>K.rt v4 jH H4 F4 cI b (((s1.trans s2).trans s3).trans s4) R4 r4 q4,
   λjH H4 F4 cI s4 R4 q4=>K.nx jH H4 F4 cI (((s1.trans s2).trans s3).trans s4) R4 q4,λjH H4 F4 cI s4 R4 q4=>⟨F4,cI,(s2.trans s3).trans s4,R4,q4⟩⟩
 ·left
  have e:i=items.length:=by omega
  subst e;rw[List.drop_length]at q';exact⟨y6.2 rfl,K.nx bw H' F' aD (s1.trans s') R' q'⟩
end Vc
namespace Vc
open PySem L2
variable [KF]
theorem ny{prog:Program}{w:World}{A:Around}{R:Result->Shared->Prop}{s:Shared}{elt target iter:Expr}{ifs:List Expr}{scope:Scope}{pos:Pos}{it acc:Value}{env:Env}(I:Nat->Shared->Prop)
  (turn:∀n s,I n s->wpAny (model prog w) A (pyNext it) (λr bL=>match r with
   | none=>R (.ok .next) bL
   | some v=>wpAny (model prog w) A (letOwnedTupleGo target it v) (λ_ EZ=>wpAny (model prog w) A (assign target env v) (λ_ Dp =>
     wpAny (model prog w) A (forIn ifs true λc r=>if r=true then do let ok <- isTrue c env (eval c env);pure (ForInStep.yield ok)else pure (ForInStep.yield r)) (λok Av =>
      if ok=true then wpAny (model prog w) A (eval elt env) (λx Dq =>
       wpAny (model prog w) A (call (.builtin "list.append") [acc,x]) (λ_ Qg=>∃m,m<n/\I m Qg) (λ_ _=>False) Dq) (λ_ _=>False) Av
      else∃m,m<n/\I m Av) (λ_ _=>False) Dp) (λ_ _=>False) EZ) (λ_ _=>False) bL) (λ_ _=>False) s)
  (n:Nat) (h:I n s):codeAny (model prog w) A (.compLoop (.ListComp elt [⟨target,iter,ifs,0⟩] scope pos) 0 it acc env) R s:=by
 refine codeAny_loop rfl I (λn s hI=>?_) n h;show wpAny _ A ((compTurn (.ListComp elt [⟨target,iter,ifs,0⟩] scope pos) 0 it acc env).onRaise (λx=>do noteFrame x env;theTreesLotGoes x)) _ _ s
 refine wpAny_noted ?_;rw[compTurn_list];refine wpAny_bind (wpAny_standAt (wpAny_bind (wpAny_mono (turn n s hI) (λr bL Nu=>?_) λ_ _ h'=>h'.elim)));cases r with
 | none=>exact wpAny_pure Nu
 | some v =>
  refine wpAny_bind (wpAny_mono Nu (λ_ EZ Nv=>?_) λ_ _ h'=>h'.elim);refine wpAny_bind (wpAny_mono Nv (λ_ Dp S6=>wpAny_bind (wpAny_mono S6 (λok Av Nx=>?_) λ_ _ h'=>h'.elim)) λ_ _ h'=>h'.elim);cases ok with
  | false=>exact wpAny_pure ⟨rfl,Nx⟩
  | true =>
   exact wpAny_bind (wpAny_bind (wpAny_mono Nx (λx Dq S7=>wpAny_bind (wpAny_mono S7 (λ_ Qg S8=>wpAny_pure (wpAny_pure ⟨rfl,S8⟩)) λ_ _ h'=>h'.elim)) λ_ _ h'=>h'.elim))
def f9(env:Env):List (Str×NameKind)->List (Str×Addr)->List (Str×Addr)
 | [],cs=>cs
 | (n,k)::r,cs=>if k==.free then f9 env r ((n,(env.cells.lookup n).getD 0)::cs)else f9 env r cs
theorem jY{env:Env}{scope:Scope}(h:∀x∈scope.names,x.2=.free->∃c,env.cells.lookup x.1=some c):closureFor scope env=pure (f9 env scope.names []):=by
 have all:∀(l:List (Str×NameKind)) (cs:List (Str×Addr)),(∀x∈l,x.2=.free->∃c,env.cells.lookup x.1=some c) ->
   (forIn l cs λx cs=>if(x.2==NameKind.free)=true then(do let a <- cellOf env x.1;pure (ForInStep.yield ((x.1,a)::cs)))else pure (ForInStep.yield cs):Sem (List (Str×Addr)))=pure (f9 env l cs):=by
  intro l
  induction l with
  | nil=>intro cs _;rfl
  | cons x l ih =>
   intro cs hl;obtain⟨n,k⟩:=x;rw[List.forIn_cons];unfold f9
   by_cases hk:k=.free
   ·subst hk
    obtain⟨c,e⟩:=hl (n,.free) List.mem_cons_self rfl;have e':env.cells.lookup n=some c:=e;simp only[beq_self_eq_true,if_true,cellOf,e',Option.getD_some,pure_bind];exact ih _ λy hy=>hl y (List.mem_cons_of_mem _ hy)
   ·have hb:(k==NameKind.free)=false:=by simpa using hk
    simp only[hb,Bool.false_eq_true,if_false,pure_bind];exact ih _ λy hy=>hl y (List.mem_cons_of_mem _ hy)
 have h1:=all scope.names [] h;have h2:closureFor scope env=((forIn scope.names ([]:List (Str×Addr)) λx cs=>if(x.2==NameKind.free)=true then(do let a <- cellOf env x.1;pure (ForInStep.yield ((x.1,a)::cs)))else pure (ForInStep.yield cs):Sem (List (Str×Addr))) >>= λcs=>pure cs):=rfl
 rw[h2,h1,pure_bind]
theorem bR{env:Env}:∀(l:List (Str×NameKind)) (cs:List (Str×Addr)) (x:Str) (c:Addr),(∀y∈l,y.2=.free->∃c,env.cells.lookup y.1=some c)->(f9 env l cs).lookup x=some c->env.cells.lookup x=some c\/cs.lookup x=some c
 | [],cs,x,c,_,h=>.inr h
 | (n,k)::r,cs,x,c,hl,h=>by
  unfold f9 at h
  by_cases hk:k=.free
  ·subst hk
   simp only[beq_self_eq_true,if_true]at h;obtain⟨c',e⟩:=hl (n,.free) List.mem_cons_self rfl;have e':env.cells.lookup n=some c':=e;rcases bR r _ x c (λy hy=>hl y (List.mem_cons_of_mem _ hy)) h with q|q
   ·exact .inl q
   ·rw[List.lookup_cons]at q
    cases hx:x==n with
    | true =>
     rw[hx]at q;have:=eq_of_beq hx;subst this;rw[e',Option.getD_some]at q;exact .inl (e'.trans q)
    | false=>rw[hx]at q;exact .inr q
  ·have hb:(k==NameKind.free)=false:=by simpa using hk
   simp only[hb,Bool.false_eq_true,if_false]at h;exact bR r cs x c (λy hy=>hl y (List.mem_cons_of_mem _ hy)) h
theorem iM{env:Env}:∀(l:List (Str×NameKind)) (cs:List (Str×Addr)) (x:Str),(cs.lookup x).isSome=true->((f9 env l cs).lookup x).isSome=true
 | [],cs,x,h=>h
 | (n,k)::r,cs,x,h=>by
  unfold f9
  by_cases hk:k=.free
  ·subst hk
   simp only[beq_self_eq_true,if_true];refine iM r _ x ?_;rw[List.lookup_cons];cases hx:x==n with
   | true=>rfl
   | false=>exact h
  ·have hb:(k==NameKind.free)=false:=by simpa using hk
   simp only[hb,Bool.false_eq_true,if_false];exact iM r cs x h
theorem gG{env:Env}:∀(l:List (Str×NameKind)) (cs:List (Str×Addr)) (x:Str),(x,NameKind.free)∈l->((f9 env l cs).lookup x).isSome=true
 | (n,k)::r,cs,x,h=>by
  unfold f9;rcases List.mem_cons.mp h with e|e
  ·cases e
   simp only[beq_self_eq_true,if_true];refine iM r _ _ ?_;rw[List.lookup_cons,beq_self_eq_true];rfl
  ·split
   ·exact gG r _ x e
   ·exact gG r cs x e
structure jU(X X':Cx)(scope:Scope)(N':List Str):Prop where
 P:X'.prog=X.prog
 w:X'.w=X.w
 K:X'.K=X.K
 mg:X'.mg=X.mg
 base:X'.base=X.base
 A:X'.A=X.A
 N:X'.N=N'
 sc:X'.env.scope=relabel scope X.env
 calm:X'.calm=true
 xe:X'.xe=λ_ _=>False
def BE(X:Cx)(ifs:List Expr)(t:TT):Prop:=∀(pins:List (Addr×Obj)) (s:Shared) (σ:St) (H:Hp) (Q:Bool->Hp->Prop),L2.Inv X pins σ H s->t σ H Q ->
 wpAny (model X.prog X.w) X.A (forIn ifs true λc r=>if r=true then do let ok <- isTrue c X.env (eval c X.env);pure (ForInStep.yield ok)else pure (ForInStep.yield r)) (TP X pins σ Q) X.xe s
theorem uF{X:Cx}:BE X [] (λ_ H Q=>Q true H):=λpins s σ H Q I h=>wpAny_tests_nil ⟨H,I,h⟩
theorem C4{X:Cx}{c:Expr}{t:TT}(h:PT X c t):BE X [c] t:=λpins s σ H Q I q=>wpAny_tests_one (h pins s σ H Q I q)
def jX(caps:List (Option Nat))(σ:St):St:=caps.map λc=>match c with
 | some j=>(σ[j]?).join
 | none=>none
def oZ(wi:TI)(caps:List (Option Nat))(g:TG)(tc:TT)(te:TE):TE:=λσ H Q=>wi σ H λJ H1=>∀acc,H1 acc=none->∃W:Nat->Nat->St->Hp->Prop,(∃m,W 0 m (jX caps σ) (upd H1 acc (.lst [])))/\∀i m ax H,W i m ax H ->
 (J.stop i H/\Q (.ref acc) H)\/(J.go i H/\∀x H',J.Le i H x H'->g x ax H' λbx H2=>tc bx H2 λb H3=>if b=true then te bx H3 λv H4=>∃ys m',H4 acc=some (.lst ys)/\ys.length<sizeLine/\m'<m/\W (i+1) m' bx (upd H4 acc (.lst (ys++[v])))else∃m',m'<m/\W (i+1) m' bx H3)
theorem eD{env:Env}:∀ {names:List (Str×NameKind)} {x:Str} {k:NameKind},(names.map λ(n,k)=>if(k==NameKind.free&&env.scope.kind==.function&&env.kindOf n==some .cell)then(n,NameKind.cell)else(n,k)).lookup x=some k ->
  names.lookup x=some k\/(k=.cell/\names.lookup x=some .free)
 | [],_,_,h=>by simp at h
 | (n,k')::r,x,k,h=>by
  have ih:=@eD env r x k;have h:List.lookup x ((if(k'==NameKind.free&&env.scope.kind==.function&&env.kindOf n==some .cell)=true then(n,NameKind.cell)else(n,k'))::_)=some k:=h
  cases hx:x==n with
  | true =>
   by_cases hc:(k'==NameKind.free&&env.scope.kind==.function&&env.kindOf n==some .cell)=true
   ·rw[if_pos hc]at h
    simp only[List.lookup_cons,hx]at h ⊢;cases h;simp only[Bool.and_eq_true,beq_iff_eq]at hc;exact .inr ⟨rfl,by rw[hc.1.1]⟩
   ·rw[if_neg hc]at h
    simp only[List.lookup_cons,hx]at h ⊢;exact .inl h
  | false =>
   by_cases hc:(k'==NameKind.free&&env.scope.kind==.function&&env.kindOf n==some .cell)=true
   ·rw[if_pos hc]at h
    simp only[List.lookup_cons,hx]at h ⊢;exact ih h
   ·rw[if_neg hc]at h
    simp only[List.lookup_cons,hx]at h ⊢;exact ih h
theorem g9{env:Env}:∀ {names:List (Str×NameKind)} {x:Str},names.lookup x=some .free ->
  (names.map λ(n,k)=>if(k==NameKind.free&&env.scope.kind==.function&&env.kindOf n==some .cell)then(n,NameKind.cell)else(n,k)).lookup x=some .cell \/
  (names.map λ(n,k)=>if(k==NameKind.free&&env.scope.kind==.function&&env.kindOf n==some .cell)then(n,NameKind.cell)else(n,k)).lookup x=some .free
 | [],_,h=>by simp at h
 | (n,k')::r,x,h=>by
  have ih:=@g9 env r x;show List.lookup x ((if(k'==NameKind.free&&env.scope.kind==.function&&env.kindOf n==some .cell)=true then(n,NameKind.cell)else(n,k'))::_)=some .cell\/List.lookup x ((if(k'==NameKind.free&&env.scope.kind==.function&&env.kindOf n==some .cell)=true then(n,NameKind.cell)else(n,k'))::_)=some .free
  cases hx:x==n with
  | true =>
   simp only[List.lookup_cons,hx]at h
   by_cases hc:(k'==NameKind.free&&env.scope.kind==.function&&env.kindOf n==some .cell)=true
   ·rw[if_pos hc];left;simp only[List.lookup_cons,hx]
   ·rw[if_neg hc];right;simp only[List.lookup_cons,hx];exact h
  | false =>
   simp only[List.lookup_cons,hx]at h
   by_cases hc:(k'==NameKind.free&&env.scope.kind==.function&&env.kindOf n==some .cell)=true
   ·rw[if_pos hc];simp only[List.lookup_cons,hx];exact ih h
   ·rw[if_neg hc];simp only[List.lookup_cons,hx];exact ih h
structure eQ(X:Cx)(scope:Scope)(N':List Str)(caps:List (Option Nat)):Prop where
 kind:scope.kind=.function
 kF:∀y∈scope.names,y.2≠.cell
 names:∀y∈scope.names,y.2=.local->scope.names.lookup y.1=some .local
 free:∀y∈scope.names,y.2=.free->X.env.kindOf y.1=some .cell\/X.env.kindOf y.1=some .free
 len:caps.length=N'.length
 Qv:∀(i:Nat) (j:Nat),caps[i]?=some (some j)->∃x,N'[i]?=some x/\X.N[j]?=some x/\scope.names.lookup x=some .free
section
variable {X:Cx}{pins:List (Addr×Obj)}{σ:St}{H:Hp}{s:Shared}{elt target iter:Expr}{ifs:List Expr}{scope:Scope}{pos:Pos}{N':List Str}{caps:List (Option Nat)}
theorem eQ.cells(SC:eQ X scope N' caps)(ok:X.Ok):∀x∈scope.names,x.2=.free->∃c,X.env.cells.lookup x.1=some c:=λx hx hf=>ok.has x.1 (SC.free x hx hf)
def Bo(X:Cx)(scope:Scope)(N':List Str)(cG:Shared)(rR:Hp)(C:Addr)(fp:List Addr):Cx:=
 {X with N:=N',cG:=cG,rR:=rR,env:=compEnvC scope (f9 X.env scope.names []) C X.env,outer:=X.stack,ex:=fp,fn:=λ_=>false,calm:=true,pn:=[],xe:=λ_ _=>False}
theorem F7(I:L2.Inv X pins σ H s)(SC:eQ X scope N' caps)(hc:X.calm=true){fp:List Addr}(hf:∀b∈fp,fN X pins H b)(iG:∀b∈fp,b<s.heap.objs.size):(Bo X scope N' s H s.heap.objs.size fp).Ok where
 mod:=I.ok.mod
 kind:=SC.kind
 glob:=I.ok.glob
 blt:=I.ok.blt
 above:=Nat.le_refl _
 inj:=λx y c h1 h2=>by
  have f:∀z,(f9 X.env scope.names []).lookup z=some c->X.env.cells.lookup z=some c:=λz h=>by
   rcases bR scope.names [] z c (SC.cells I.ok) h with q|q
   ·exact q
   ·cases q
  exact I.ok.inj x y c (f x h1) (f y h2)
 has:=λx hx=>by
  have hx:(relabel scope X.env).names.lookup x=some .cell\/(relabel scope X.env).names.lookup x=some .free:=hx;have tX:scope.names.lookup x=some .free:=by
   rcases hx with hx|hx
   ·rcases eD hx with q|⟨_,q⟩
    ·exact absurd rfl (SC.kF _ (PySem.mem_of_lookup q))
    ·exact q
   ·rcases eD hx with q|⟨q,_⟩
    ·exact q
    ·cases q
  exact Option.isSome_iff_exists.mp (gG scope.names [] x (PySem.mem_of_lookup tX))
 KP:=λx c h=>by cases h
 hd:=λ_=>I.ok.hd hc
 frames:=I.ok.frames
 Qf:=.inl rfl
 RW:=λb hb=>⟨Nat.ne_of_lt (iG b hb),λx c h=>by
  rcases bR scope.names [] x c (SC.cells I.ok) h with q|q
  ·exact(hf b hb).2.2.2.2.1 x c q
  ·cases q⟩
 bs:=I.bs
 Bm:=Nat.le_trans I.ok.Bm I.sz
 vX:=λb o e hb=>by
  rcases(hf b hb).2.2.2.1 with q|q
  ·exact I.ok.vX b o e q
  ·exact absurd (Nat.lt_of_lt_of_le (Heap.lt_size e) (Nat.le_trans I.ok.Bm q)) (Nat.lt_irrefl _)
 yf:=λb hb z=>by
  rcases List.mem_cons.mp (I.oY b z)with q|q
  ·exact(hf b hb).2.1 q
  ·exact(hf b hb).2.2.1 q
 jF:=I.stack
 GW:=I.u5
theorem BO(I:L2.Inv X pins σ H s)(SC:eQ X scope N' caps)(hc:X.calm=true){fp:List Addr}(hf:∀b∈fp,fN X pins H b)(iG:∀b∈fp,b<s.heap.objs.size){h1:Heap}{t1:Nat}(hn:h1.Ns s.heap.objs.size (λ_=>none))(hk:∀b o,s.heap.get? b=some o->h1.get? b=some o):
  L2.Inv (Bo X scope N' s H s.heap.objs.size fp) [] (jX caps σ) H {s with heap:=h1,toks:=t1} where
 ok:=F7 I SC hc hf iG
 os:=rfl
 bare:=I.bare
 base:=Un.kept hk
 loc:=by
  refine⟨_,hn,λi x v e1 e2 _=>?_⟩;have e2:(caps.map λc=>match c with|some j=>(σ[j]?).join|none=>none)[i]?=some (some v):=e2
  rw[List.getElem?_map]at e2;cases ec:caps[i]? with
  | none=>rw[ec]at e2;cases e2
  | some c =>
   rw[ec]at e2;cases c with
   | none=>cases e2
   | some j =>
    have e2:(σ[j]?).join=some v:=Option.some.inj e2;have e3:σ[j]?=some (some v):=by
     cases q:σ[j]? with
     | none=>rw[q]at e2;cases e2
     | some w =>
      rw[q]at e2;cases w with
      | none=>cases e2
      | some z=>cases e2;rfl
    obtain⟨y,w1,w2,w3⟩:=SC.Qv i j ec;have e1:N'[i]?=some x:=e1;rw[w1]at e1;cases e1;have Ng:=SC.free (x,.free) (PySem.mem_of_lookup w3) rfl;obtain⟨m,hm,hl⟩:=I.loc;obtain⟨u,r,l⟩:=hl j x v w2 e3 (.inr Ng);refine⟨u,r,?_⟩;rcases l with⟨k1,_⟩|⟨_,c,QA,tW⟩
    ·have Ng:X.env.kindOf x=some .cell\/X.env.kindOf x=some .free:=Ng
     rw[k1]at Ng;rcases Ng with z|z<;>cases z
    ·right
     refine⟨g9 w3,c,?_,?_⟩
     ·obtain⟨c',e'⟩:=Option.isSome_iff_exists.mp (gG (env:=X.env) scope.names [] x (PySem.mem_of_lookup w3))
      rcases bR scope.names [] x c' (SC.cells I.ok) e' with q|q
      ·rw[QA]at q;cases q
       exact e'
      ·cases q
     ·obtain⟨o,ho,hd⟩:=tW
      exact⟨o,hk _ _ ho,hd⟩
 cell:=λx c h=>by
  rcases bR scope.names [] x c (SC.cells I.ok) h with q|q
  ·obtain⟨v,o,ho,hd⟩:=I.cell x c q
   exact⟨v,o,hk _ _ ho,hd⟩
  ·cases q
 free:=I.bI.fresh (Nat.le_refl _)
 eX:=λx c h=>by
  rcases bR scope.names [] x c (SC.cells I.ok) h with q|q
  ·exact I.eX x c q
  ·cases q
 pin:=λp hp=>absurd (show p∈([]:List (Addr×Obj))from hp) (by simp)
 bI:=I.bI.kept hk
 len:=by
  show(caps.map _).length=N'.length;rw[List.length_map];exact SC.len
theorem pI(I:L2.Inv X pins σ H s)(SC:eQ X scope N' caps)(hc:X.calm=true){it:Addr}{fp:List Addr}{tn:Nat->Heap->Prop}{J:It}(T:Turn X.prog X.w X.K target J fp it tn)(t0:tn 0 s.heap)(hf:∀b∈fp,fN X pins H b)
  {g:TG} {tc:TT} {te:TE} (lg:∀X',jU X X' scope N'->PG X' target g/\BE X' ifs tc/\PE X' elt te) {Q:VK}
  (q:∀acc,H acc=none->∃W:Nat->Nat->St->Hp->Prop,(∃m,W 0 m (jX caps σ) (upd H acc (.lst [])))/\∀i m ax H,W i m ax H ->
   (J.stop i H/\Q (.ref acc) H)\/(J.go i H/\∀x H',J.Le i H x H'->g x ax H' λbx H2=>tc bx H2 λb H3=>if b=true then te bx H3 λv H4=>∃ys m',H4 acc=some (.lst ys)/\ys.length<sizeLine/\m'<m/\W (i+1) m' bx (upd H4 acc (.lst (ys++[v])))else∃m',m'<m/\W (i+1) m' bx H3))
  {E:Value->Shared->Prop} {RR:Value->Addr->Result->Shared->Prop}
  (VQ:∀acc C H' s',L2.Inv X pins σ H' s'->fN X pins H' C->(∃m,s'.heap.Ns C m)->Q (.ref acc) H'->RR (.ref acc) C (.ok .next) s'):
  wpAny (model X.prog X.w) X.A (newList []) (λacc Av=>wpAny (model X.prog X.w) X.A (newFunctionEnv scope X.env.globals (f9 X.env scope.names []) [] X.env.qual none .none (some X.env)) (λL6 Dq =>
   codeAny (model X.prog X.w) X.A (.compStart (.ListComp elt [⟨target,iter,ifs,0⟩] scope pos) 0 (.ref it) acc {L6 with scope:=relabel scope X.env}) (RR acc L6.locals) Dq) E Av) E s:=by
 refine wpAny_newObj_type ?_;have iQ:H s.heap.objs.size=none:=I.bI.fresh (Nat.le_refl _);have I3:L2.Inv X pins σ (upd H s.heap.objs.size (.lst [])) {s with heap:=s.heap.push {cls:=.type "list",dict:=none,data:=.seq ([]:List Value).toArray}}:=I.HK (t':=s.toks) (its:=[]) (ys:=[]) .nil (Nat.zero_le _)
 obtain⟨W,⟨m0,w0⟩,step⟩:=q _ iQ;generalize Ws:({s with heap:=s.heap.push {cls:=.type "list",dict:=none,data:=.seq ([]:List Value).toArray}}:Shared)=s3 at I3 ⊢
 generalize VN:upd H s.heap.objs.size (.lst [])=H3 at I3 w0;generalize mD:s.heap.objs.size=acc at *;have Vv:∀b o,s.heap.get? b=some o->s3.heap.get? b=some o:=λb o e=>by rw[<- Ws];exact Heap.get?_push_of_some _ e
 have MX:∀b∈fp,b<s3.heap.objs.size:=λb hb=>by
  obtain⟨o,e,_⟩:=T.obj 0 _ t0 b hb;exact Heap.lt_size (Vv b o e)
 have QD:∀b∈fp,fN X pins H3 b:=λb hb=>by
  obtain⟨f0,f⟩:=hf b hb;refine⟨?_,f⟩;obtain⟨o,e,_⟩:=T.obj 0 _ t0 b hb;have:b≠acc:=by rw[<- mD];exact Nat.ne_of_lt (Heap.lt_size e)
  rw[<- VN,ak this];exact f0
 have t3:tn 0 s3.heap:=T.keep 0 _ _ t0 λb _ o e=>Vv b o e;refine wpAny_newFunctionEnv SC.kF (by intro y hy;simp at hy) (λh1 En Xf=>?_) SC.kind
 have nP:∀b o,s3.heap.get? b=some o->h1.get? b=some o:=λb o e=>Xf.extBut b o (Nat.ne_of_lt (Heap.lt_size e)) (Heap.get?_push_of_some _ e);have cx:jU X (Bo X scope N' s3 H3 s3.heap.objs.size fp) scope N':=⟨rfl,rfl,rfl,rfl,rfl,rfl,rfl,rfl,rfl,rfl⟩;obtain⟨hg,ht,he⟩:=lg _ cx;have Hc:h1.Ns s3.heap.objs.size (λ_=>none):=by simpa using En
 have RY:∀ {H':Hp},(∀b∈fp,H' b=none)->∀b∈fp,fN (Bo X scope N' s3 H3 s3.heap.objs.size fp) [] H' b:=λ{H'} hn b hb=>by
  obtain⟨f0,f1,f2,f3,f4,f5⟩:=QD b hb;refine⟨hn b hb,Nat.ne_of_lt (MX b hb),?_,.inl hb,λx c h=>?_,λp hp=>absurd (show p∈([]:List (Addr×Obj))from hp) (by simp)⟩
  ·intro z
   rcases List.mem_cons.mp (I3.oY b z)with q|q
   ·exact f1 q
   ·exact f2 q
  ·rcases bR scope.names [] x c (SC.cells I.ok) h with q|q
   ·exact f4 x c q
   ·cases q
 have loop:∀s4:Shared,L2.Inv (Bo X scope N' s3 H3 s3.heap.objs.size fp) [] (jX caps σ) H3 s4->tn 0 s4.heap->codeAny (model X.prog X.w) X.A (.compLoop (.ListComp elt [⟨target,iter,ifs,0⟩] scope pos) 0 (.ref it) (.ref acc) (compEnvC scope (f9 X.env scope.names []) s3.heap.objs.size X.env)) (RR (.ref acc) s3.heap.objs.size) s4:=by
  intro s4 I4 t4;refine ny (λn s'=>∃i ax H',L2.Inv (Bo X scope N' s3 H3 s3.heap.objs.size fp) [] ax H' s'/\tn i s'.heap/\(∀b∈fp,H' b=none)/\W i n ax H') ?_ m0 ⟨0,_,H3,I4,t4,λb hb=>(QD b hb).1,w0⟩;rintro n s5 ⟨i,ax,H5,I5,K8,GV,w5⟩;rcases step i n ax H5 w5 with⟨stop,qn⟩|⟨go,body⟩
  ·refine cq (T.done (Bo X scope N' s3 H3 s3.heap.objs.size fp) rfl rfl rfl rfl i [] s5 ax H5 _ I5 (RY GV) K8 stop) λr s6 ⟨hr,I6⟩=>?_
   subst hr;have u:=I6.base;refine VQ acc _ H5 s6 (I3.L5 (ch:=fp) I6.os u I6.bI I6.bare λb hb=>?_) (I3.sf (Nat.le_refl _) I6.free) ?_ qn
   ·obtain⟨f0,f1,f2,f3,f4,f5⟩:=QD b hb
    exact⟨f3.imp id λz=>Heap.get?_none_of_le z,f1,f4,f5⟩
   ·obtain⟨m,hm,_⟩:=I6.loc
    exact⟨m,hm⟩
  ·refine cq (T.item (Bo X scope N' s3 H3 s3.heap.objs.size fp) rfl rfl rfl rfl i [] s5 ax H5 _ I5 (RY GV) K8 go) λr s6 ⟨u,hr,h6⟩=>?_
   subst hr;refine cq h6 λ_ s7 ⟨x,H7,I7,r7,y7,T4,VJ⟩=>?_;have VC:=I7.pinned (RY VJ) (T.obj _ _ T4);have back:∀ {Bv:St} {H8:Hp} {s8:Shared},L2.Inv (Bo X scope N' s3 H3 s3.heap.objs.size fp) ([]++iZ fp s7.heap) Bv H8 s8->L2.Inv (Bo X scope N' s3 H3 s3.heap.objs.size fp) [] Bv H8 s8/\tn (i+1) s8.heap/\∀b∈fp,H8 b=none:=λ{Bv H8 s8} I8=>by
    refine⟨I8.fu,T.keep _ _ _ T4 λb hb o e=>(I8.pin (b,o) (List.mem_append_right _ (List.mem_append_right _ (dv hb e)))).1,λb hb=>?_⟩;obtain⟨o,e,d⟩:=T.obj _ _ T4 b hb;exact(I8.pin (b,o) (List.mem_append_right _ (List.mem_append_right _ (dv hb e)))).2.1
   refine cq (hg _ s7 ax H7 x u _ VC r7 (body x H7 y7)) λ_ s8 ⟨Bv,H8,I8,q8⟩=>?_;refine cq (ht _ s8 Bv H8 _ I8 q8) λb s9 ⟨H9,I9,q9⟩=>?_;cases b with
   | false =>
    obtain⟨m',hm,w9⟩:=q9;obtain⟨J1,J2,J3⟩:=back I9;exact⟨m',hm,i+1,Bv,H9,J1,J2,J3,w9⟩
   | true =>
    refine cq (he _ s9 Bv H9 _ I9 q9) λy Xe ⟨v,Vy,Vz,W9,ys,m',RD,hz,hm,w10⟩=>?_;refine cq (dn _ Xe Bv Vy (.ref acc) [v] (.ref acc) [y] (λz Rb=>z=.bB/\W (i+1) m' Bv Rb) Vz rfl (.cons W9 .nil) ⟨acc,ys,v,rfl,rfl,RD,hz,rfl,w10⟩) λ_ Yc ⟨_,Rb,VA,_,_,w11⟩=>?_;obtain⟨J1,J2,J3⟩:=back VA;exact⟨m',hm,i+1,Bv,Rb,J1,J2,J3,w11⟩
 have I4:=BO (caps:=caps) (N':=N') I3 SC hc QD MX (t1:=s3.toks+([]:List (Str×Value)).length) Hc nP;have t4:tn 0 h1:=T.keep 0 _ _ t3 λb _ o e=>nP b o e;exact codeAny_compStart_list (loop _ I4 t4) (T.self X.A 0 _ _ _ t4 (loop _ I4 t4))
end
end Vc
namespace Vc
open PySem L2
variable [KF]
section
variable {X:Cx}{elt target iter:Expr}{ifs:List Expr}{scope:Scope}{pos:Pos}{N':List Str}{caps:List (Option Nat)}{wi:TI}{g:TG}{tc:TT}{te:TE}
theorem tV{pins:List (Addr×Obj)}{σ:St}{H:Hp}{s:Shared}{C:Addr}{h':Heap}(f:fN X pins H C)(I:L2.Inv X pins σ H s)(hs:Heap.SameBut C s.heap h'):L2.Inv X pins σ H {s with heap:=h'}:=by
 obtain⟨f0,f1,f2,f3,f4,f5⟩:=f;exact I.turned (t':=s.toks) (λb o hb e=>hs.extBut b o hb e) f0 f1 f3 f4 f5
theorem n8(hc:X.calm=true)(hi:PI X target iter wi)(SC:eQ X scope N' caps)(lg:∀X',jU X X' scope N'->PG X' target g/\BE X' ifs tc/\PE X' elt te)(hs:∀x,foldedSetIterable iter X.env x=pure x):
  PE X (.ListComp elt [⟨target,iter,ifs,0⟩] scope pos) (oZ wi caps g tc te):=by
 intro pins s σ H Q I h;rw[eval_ListComp];refine wpAny_comprehension_free (use:=none) rfl hs (jY (SC.cells I.ok)) SC.kind SC.names (cq (hi pins s σ H _ I h) λv s1 h1=>cq h1 λQP s2 h2=>?_);obtain⟨it,fp,tn,J,H2,rfl,I2,T,t0,f2,q2⟩:=h2;exact pI I2 SC hc T t0 f2 lg q2 (RR:=λacc C=>compPost (model X.prog X.w) X.A X.xe none (EP X pins σ Q) acc C) λacc C H' s' I' f' ⟨m,hm⟩ q'=>⟨m,hm,λh' iH=>⟨.ref acc,H',tV f' I' iH,rfl,q'⟩⟩
theorem uD{i:Nat}{y:Str}{py eN:Pos}(hc:X.calm=true)(hi:PI X target iter wi)(SC:eQ X scope N' caps)(lg:∀X',jU X X' scope N'->PG X' target g/\BE X' ifs tc/\PE X' elt te)(hs:∀x,foldedSetIterable iter X.env x=pure x)
  (hN:X.N.Nodup) (hy:X.N[i]?=some y) (hx:X.env.scope.names.lookup y=some .local) (Ww:swapsWith (.ListComp elt [⟨target,iter,ifs,0⟩] scope pos) (some (.Name y py)) eN.line X.env=pure true):
  PS X (.Assign [.Name y py] (.ListComp elt [⟨target,iter,ifs,0⟩] scope pos) eN) (Ds (oZ wi caps g tc te) (gK i)):=by
 intro pins s σ H D I h;rw[exec_Assign_Name_used _ _ _ _ Ww];refine wpAny_bind (wpAny_standAt (wpAny_bind ?_));show wpAny _ X.A (do let _ <- comprehension (.ListComp elt [⟨target,iter,ifs,0⟩] scope pos) scope X.env _ (newList []) false (eval iter X.env) (some (assign (.Name y py) X.env))) _ _ s
 refine wpAny_bind (wpAny_mono (wpAny_comprehension_free (use:=some (assign (.Name y py) X.env)) (Q:=λ_ s'=>SP X pins D .next s') rfl hs (jY (SC.cells I.ok)) SC.kind SC.names (cq (hi pins s σ H _ I h) λv s1 h1=>cq h1 λQP s2 h2=>?_))
  (λ_ s' hq=>wpAny_pure (wpAny_pure hq)) λ_ _ e=>e)
 obtain⟨it,fp,tn,J,H2,rfl,I2,T,t0,f2,q2⟩:=h2;refine pI (Q:=λx H1=>gK i x σ H1 D.nx) I2 SC hc T t0 f2 lg q2 (RR:=λacc C=>compPost (model X.prog X.w) X.A X.xe (some (assign (.Name y py) X.env)) (λ_ s'=>SP X pins D .next s') acc C) λacc C H' s' I' f' ⟨m,hm⟩ q'=>?_;show wpAny _ X.A (assign (.Name y py) X.env (.ref acc)) _ _ s';obtain⟨o,es,ep,ho,hd,r⟩:=id hm;have Ip:L2.Inv X (pins++iZ [C] s'.heap) σ H' s':=I'.pinned (fp:=[C]) (λb hb=>(show b=C by simpa using hb) ▸ f') (λb hb=>by
  have e:b=C:=by simpa using hb
  subst e;exact⟨o,ho,λv z=>by rw[hd]at z;cases z⟩)
 refine wpAny_assign_Name (kZ Ip hN hy (.inl hx) (show RelV (.ref acc) (.ref acc)from rfl) (λPu Uu=>?_) (.inr hx))
 have hC:Pu.heap.get? C=some o:=(Uu.pin (C,o) (List.mem_append_right _ (List.mem_append_right _ (dv (by simp) ho)))).1
 exact⟨m,⟨o,es,ep,hC,hd,r⟩,λh' iH=>⟨_,H',tV f' Uu.fu iH,q'⟩⟩
end
variable {G:GE}{k:Nat}{S:Stat}
def gZ(names sc:List (Str×NameKind)):List (Str×NameKind):=names.map λ(n,k)=>if(k==.free&&sc.lookup n==some .cell)then(n,.cell)else(n,k)
def aR(S:Stat)(scope:Scope)(N':List Str):Stat:=⟨N',gZ scope.names S.sc,[],true,false,false,λ_ _=>False⟩
structure jh(S:Stat)(scope:Scope)(N':List Str)(caps:List (Option Nat)):Prop where
 kind:scope.kind=.function
 nd:N'.Nodup
 kF:scope.names.all (λy=>y.2 != .cell)=true
 names:scope.names.all (λy=>y.2 != .local||scope.names.lookup y.1==some .local)=true
 free:scope.names.all (λy=>y.2 != .free||S.sc.lookup y.1==some .cell||S.sc.lookup y.1==some .free)=true
 len:caps.length=N'.length
 Qv:(caps.zip N').all (λp=>match p.1 with|some j=>S.N[j]?==some p.2&&scope.names.lookup p.2==some .free|none=>true)=true
theorem jh.sc{scope:Scope}{N':List Str}{caps:List (Option Nat)}(b:jh S scope N' caps){X:Cx}{Y:bD}(ok:dk X G k S Y):eQ X scope N' caps where
 kind:=b.kind
 kF:=λy hy z=>by
  have:=List.all_eq_true.mp b.kF y hy;rw[z]at this;cases this
 names:=λy hy z=>by
  have:=List.all_eq_true.mp b.names y hy;rw[z]at this;simpa using this
 free:=λy hy z=>by
  have:=List.all_eq_true.mp b.free y hy;rw[z]at this;have kd:X.env.kindOf y.1=S.sc.lookup y.1:=by
   show X.env.scope.names.lookup y.1=_;rw[ok.sc]
  rw[kd];simpa using this
 len:=b.len
 Qv:=λi j e=>by
  have hl:i<caps.length:=(List.getElem?_eq_some_iff.mp e).1;have Hb:i<N'.length:=by rw[<- b.len];exact hl
  have hz:(caps.zip N')[i]?=some (some j,N'[i]):=by
   rw[List.getElem?_zip_eq_some];exact⟨e,by rw[List.getElem?_eq_getElem Hb]⟩
  have:=List.all_eq_true.mp b.Qv _ (List.mem_of_getElem? hz);simp only[Bool.and_eq_true,beq_iff_eq]at this;exact⟨N'[i],by rw[List.getElem?_eq_getElem Hb],by rw[ok.N];exact this.1,this.2⟩
theorem dr{X X':Cx}{Y:bD}{scope:Scope}{N':List Str}{caps:List (Option Nat)}(hh:S.jJ=false)(ok:dk X G k S Y)(b:jh S scope N' caps)(c:jU X X' scope N')(Y':bD)(cO:Y'.io=[]):dk X' G k (aR S scope N') Y' where
 P:=c.P.trans ok.P
 w:=c.w.trans ok.w
 K:=c.K.trans ok.K
 kf:=c.K.trans ok.kf
 mg:=c.mg.trans ok.mg
 obs:=λh=>nomatch h
 base:=c.base.trans ok.base
 N:=c.N
 sc:=by
  rw[c.sc];show scope.names.map _=gZ scope.names S.sc;unfold gZ;refine List.map_congr_left λy _=>?_;obtain⟨n,kk⟩:=y;have kd:X.env.kindOf n=S.sc.lookup n:=by
   show X.env.scope.names.lookup n=_;rw[ok.sc]
  simp only[ok.kind,kd,beq_self_eq_true,Bool.and_true]
 nd:=b.nd
 ios:=λp hp=>by rw[cO]at hp;cases hp
 calm:=λ_=>c.calm
 kind:=by rw[c.sc];exact b.kind
 fn:=λh=>by cases h
 hd:=λ_=>by rw[c.A];exact ok.hd hh
 dp:=by rw[c.A];exact ok.dp
 un:=by rw[c.A];exact ok.un
 po:=λ_=>by rw[c.xe];exact PassesOwn.never
 nx:=λh=>nomatch h
 exc:=λ_ _ h=>h.elim
 made:=λh=>nomatch h
def nR:Sd->Sd->Prop
 | [],[]=>True
 | none::r,_::s=>nR r s
 | some b::r,c::s=>c=some b/\nR r s
 | _,_=>False
theorem nS:∀ {a b:Sd} {i:Nat} {x:B},nR a b->a[i]?=some (some x)->b[i]?=some (some x)
 | [],[],_,_,_,e=>by simp at e
 | none::r,c::s,0,_,h,e=>by simp at e
 | none::r,c::s,i+1,x,h,e=>by
  have h:nR r s:=h;simpa using nS (i:=i) h (by simpa using e)
 | some b::r,c::s,0,x,h,e=>by
  obtain⟨h1,h2⟩:c=some b/\nR r s:=h;simp at e;subst e;simp [h1]
 | some b::r,c::s,i+1,x,h,e=>by
  obtain⟨h1,h2⟩:c=some b/\nR r s:=h;simpa using nS (i:=i) h2 (by simpa using e)
 | [],_::_,_,_,h,_=>h.elim
 | none::_,[],_,_,h,_=>h.elim
 | some _::_,[],_,_,h,_=>h.elim
theorem nU:∀ {a b:Sd},nR a b->a.length=b.length
 | [],[],_=>rfl
 | none::r,c::s,h=>by
  have h:nR r s:=h;simp [nU h]
 | some b::r,c::s,h=>by
  obtain⟨_,h2⟩:c=some b/\nR r s:=h;simp [nU h2]
 | [],_::_,h=>h.elim
 | none::_,[],h=>h.elim
 | some _::_,[],h=>h.elim
def sg(ios:List Nat):List (Option Nat)->Sd->(Sd->Prop)->Prop
 | [],σ,Q=>Q σ
 | none::r,σ,Q=>sg ios r σ Q
 | some j::r,σ,Q=>match σ[j]? with
  | some (some (.own xs))=>j∉ios/\sg ios r (σ.set j (some (.sh (.lst xs)))) Q
  | _=>sg ios r σ Q
def gF(caps:List (Option Nat))(σ:Sd):Sd:=caps.map λc=>match c with
 | some j=>match σ[j]? with
  | some (some (.sh d))=>some (.sh d)
  | _=>none
 | none=>none
def fW(g:pd)(tc:TB)(te:TD)(σ0:Sd):List D->List D->(List D->Prop)->Prop
 | [],acc,Q=>Q acc
 | x::xs,acc,Q=>g x σ0 λax=>tc ax λb bx=>if b=true then te bx λd eK=>nR σ0 eK/\acc.length<sizeLine/\fW g tc te σ0 xs (acc++[d]) Q else nR σ0 bx/\fW g tc te σ0 xs acc Q
def dD(ios:List Nat)(caps:List (Option Nat))(ti:d6)(g:pd)(tc:TB)(te:TD):TX:=λσ Q=>ti σ λitems ax=>sg ios caps ax λbx=>fW g tc te (gF caps bx) items [] λds=>Q (.own ds) bx
theorem ei{ios:List Nat}{Y:bD}(cO:∀p∈Y.io,p.1∈ios):∀ {caps:List (Option Nat)} {F:Hp} {ai:Sd} {σ:St} {H:Hp} {Q:Sd->Prop},RS Y F ai σ H->sg ios caps ai Q->∃F' aD,aq F F'/\RS Y F' aD σ H/\Q aD
 | [],F,ai,σ,H,Q,R,q=>⟨F,ai,aq.refl _,R,q⟩
 | none::r,F,ai,σ,H,Q,R,q=>ei cO (caps:=r) R q
 | some j::r,F,ai,σ,H,Q,R,q=>by
  unfold sg at q
  split at q
  ·rename_i xs e
   obtain⟨F2,v2,s2,R2,e2,r2⟩:=R.iP e λp hp z=>q.1 (z ▸ cO p hp);obtain⟨F3,eK,s3,R3,q3⟩:=ei cO (caps:=r) R2 q.2;exact⟨F3,eK,s2.trans s3,R3,q3⟩
  ·exact ei cO (caps:=r) R q
theorem d8(caps:List (Option Nat))(ai:Sd):∀(i:Nat) (o:O),(gF caps ai)[i]?≠some (some (.obj o)):=λi o e=>by
 unfold gF at e;rw[List.getElem?_map]at e;cases ec:caps[i]? with
 | none=>rw[ec]at e;cases e
 | some c =>
  rw[ec]at e;cases c with
  | none=>cases e
  | some j =>
   have e:(match ai[j]? with|some (some (.sh d))=>some (B.sh d)|_=>none)=some (.obj o):=Option.some.inj e
   split at e<;>cases e
theorem tO{Y:bD}{F:Hp}{ai:Sd}{σ:St}{H:Hp}(R:RS Y F ai σ H)(caps:List (Option Nat)){F' H':Hp}(s1:aq F F')(s2:aq F' H'):RS ⟨H',F',[],[]⟩ F' (gF caps ai) (jX caps σ) H' where
 len:=by unfold gF jX;simp
 lo:=aq.refl _
 fr:=s2
 eM:=λb o e=>.inl e
 old:=λb o e _=>e
 sh:=λi d e=>by
  unfold gF at e;rw[List.getElem?_map]at e;unfold jX;rw[List.getElem?_map];cases ec:caps[i]? with
  | none=>rw[ec]at e;cases e
  | some c =>
   rw[ec]at e;cases c with
   | none=>cases e
   | some j =>
    have e:(match ai[j]? with|some (some (.sh d))=>some (B.sh d)|_=>none)=some (.sh d):=Option.some.inj e
    split at e
    ·rename_i d' q
     cases e;obtain⟨v,h1,h2⟩:=R.sh j d q;exact⟨v,by show some ((σ[j]?).join)=_;rw[h1];rfl,h2.mono s1⟩
    ·cases e
 own:=λi xs e=>by
  unfold gF at e;rw[List.getElem?_map]at e;cases ec:caps[i]? with
  | none=>rw[ec]at e;cases e
  | some c =>
   rw[ec]at e;cases c with
   | none=>cases e
   | some j =>
    have e:(match ai[j]? with|some (some (.sh d))=>some (B.sh d)|_=>none)=some (.own xs):=Option.some.inj e
    split at e<;>cases e
 dis:=λi j xs ys a e=>by
  exfalso;unfold gF at e;rw[List.getElem?_map]at e;cases ec:caps[i]? with
  | none=>rw[ec]at e;cases e
  | some c =>
   rw[ec]at e;cases c with
   | none=>cases e
   | some j =>
    have e:(match ai[j]? with|some (some (.sh d))=>some (B.sh d)|_=>none)=some (.own xs):=Option.some.inj e
    split at e<;>cases e
 io:=λp hp=>by cases hp
 ob:=.none (d8 _ _) (R.ob.tab.mono s1) λb hb=>by cases hb
theorem RS.less{Y:bD}{F:Hp}{σ0 ai:Sd}{σ:St}{H:Hp}(R:RS Y F ai σ H)(l:nR σ0 ai)(Ey:∀(i:Nat) (xs:List D),σ0[i]?≠some (some (.own xs)))(Oa:∀(i:Nat) (o:O),σ0[i]?≠some (some (.obj o))){H':Hp}(s:aq F H'):RS ⟨H',F,[],[]⟩ F σ0 σ H' where
 len:=(nU l).trans R.len
 lo:=aq.refl _
 fr:=s
 eM:=λb o e=>.inl e
 old:=λb o e _=>e
 sh:=λi d e=>R.sh i d (nS l e)
 own:=λi xs e=>absurd e (Ey i xs)
 dis:=λi j xs ys a e=>absurd e (Ey i xs)
 io:=λp hp=>by cases hp
 ob:=.none Oa R.ob.tab λb hb=>by cases hb
theorem f7(caps:List (Option Nat))(ai:Sd):∀(i:Nat) (xs:List D),(gF caps ai)[i]?≠some (some (.own xs)):=λi xs e=>by
 unfold gF at e;rw[List.getElem?_map]at e;cases ec:caps[i]? with
 | none=>rw[ec]at e;cases e
 | some c =>
  rw[ec]at e;cases c with
  | none=>cases e
  | some j =>
   have e:(match ai[j]? with|some (some (.sh d))=>some (B.sh d)|_=>none)=some (.own xs):=Option.some.inj e
   split at e<;>cases e
theorem gR:∀a:Sd,nR a a
 | []=>trivial
 | none::r=>gR r
 | some b::r=>⟨rfl,gR r⟩
theorem RS.other{Y:bD}{F:Hp}{ai:Sd}{σ:St}{H:Hp}{a:Addr}{o:HO}(R:RS Y F ai σ H)(h1:F a=none)(h2:Y.H0 a=none)(h3:cH ai σ a):RS Y F ai σ (upd H a o) where
 len:=R.len
 lo:=R.lo
 fr:=λb u e=>by
  have:b≠a:=λz=>by rw[z,h1]at e;cases e
  rw[ak this];exact R.fr b u e
 eM:=R.eM
 old:=λb u e n=>by
  have:b≠a:=λz=>by rw[z,h2]at e;cases e
  rw[ak this];exact R.old b u e n
 sh:=R.sh
 own:=λi xs e=>by
  obtain⟨b,vs,w1,w2,w3⟩:=R.own i xs e;have:b≠a:=λz=>h3 i xs e (by rw[w1,z])
  exact⟨b,vs,w1,by rw[ak this];exact w2,w3⟩
 dis:=R.dis
 io:=R.io
 ob:=R.ob.step (aq.refl _) (λ_ _ e=>⟨e,rfl⟩) (λb hb=>by
  obtain⟨w1,w2,w3⟩:=R.ob.owned hb;have ck:b≠a:=λz=>h3.Ex (z ▸ hb);exact⟨ak ck,w1,w3⟩) R.ob.iE λb hb=>by
  by_cases ck:b=a
  ·rw[ck,au];exactλz=>nomatch z
  ·rw[ak ck];exact R.ob.there b hb
def QR(g:pd):TG:=λv σ H Q=>∃Y:bD,Y.io=[]/\lG Y g v σ H Q
def QQ(t:TB):TT:=λσ H Q=>∃Y:bD,Y.io=[]/\lB Y t σ H Q
def Te(t:TD):TE:=λσ H Q=>∃Y:bD,Y.io=[]/\lD Y t σ H Q
structure E7(G:GE)(k:Nat)(S:Stat)(ifs:List Expr)(t:TB) :Prop where
 run:∀X Y,dk X G k S Y->BE X ifs (lB Y t)
instance {G:GE} {k:Nat} {S:Stat} {ifs:List Expr} {t:TB} :CoeFun (E7 G k S ifs t) λ_=>∀X Y,dk X G k S Y->BE X ifs (lB Y t):=⟨E7.run⟩
def fq:TB:=λσ Q=>Q true σ
theorem jj:E7 G k S [] fq:=.mk λX Y ok pins s σ H Q I q=>uF pins s σ H Q I (by
 obtain⟨F,ai,Qd,R,q,K⟩:=q;exact K true H F ai (aq.refl _) R q)
theorem xq{c:Expr}{t:TB}(h:EB G k S c t):E7 G k S [c] t:=.mk λX Y ok=>C4 (h X Y ok)
section
variable {elt target iter:Expr}{ifs:List Expr}{scope:Scope}{pos:Pos}{N':List Str}{caps:List (Option Nat)}{ti:d6}{g:pd}{tc:TB}{te:TD}
theorem nz{X:Cx}{Y:bD}(hh:S.jJ=false)(ok:dk X G k S Y)(b:jh S scope N' caps)(hg:EG G k (aR S scope N') target g)(ht:E7 G k (aR S scope N') ifs tc)(he:ED G k (aR S scope N') elt te):
  ∀X',jU X X' scope N'->PG X' target (QR g)/\BE X' ifs (QQ tc)/\PE X' elt (Te te):=λX' c =>
 ⟨λpins s σ H v u Q I r ⟨Y',cO,q⟩=>hg X' Y' (dr hh ok b c Y' cO) pins s σ H v u Q I r q,λpins s σ H Q I ⟨Y',cO,q⟩=>ht X' Y' (dr hh ok b c Y' cO) pins s σ H Q I q,λpins s σ H Q I ⟨Y',cO,q⟩=>he X' Y' (dr hh ok b c Y' cO) pins s σ H Q I q⟩
theorem j3{Y:bD}{ios:List Nat}(cO:∀p∈Y.io,p.1∈ios){σ:St}{H:Hp}{Q:VK}(q:lX Y (dD ios caps ti g tc te) σ H Q):oZ (lI Y ti) caps (QR g) (QQ tc) (Te te) σ H Q:=by
 obtain⟨F,ai,Qd,R,q,K⟩:=q;refine⟨F,ai,_,R,q,λH1 F1 wG J items s1 R1 it q1 acc iQ=>?_⟩;obtain⟨F2,cv,s2,R2,q2⟩:=ei cO R1 q1;have WM:=it.mono s2;have a0:Y.H0 acc=none:=(R2.bQ iQ).1;have aF:F2 acc=none:=same_none R2.fr iQ;have aN:cH cv σ acc:=R2.cD iQ;have sw:∀ {F5 H5:Hp} {o:HO},aq F5 H5->F5 acc=none->aq F5 (upd H5 acc o):=λ{F5 H5 o} s5 h b u e=>by
  have:b≠acc:=λz=>by rw[z,h]at e;cases e
  rw[ak this];exact s5 b u e
 refine⟨λi m ax H'=>∃Fi ds ys,aq F2 Fi/\RS Y Fi cv σ H'/\H' acc=some (.lst ys)/\aC Fi ys ds/\Fi acc=none/\RS ⟨H',Fi,[],[]⟩ Fi (gF caps cv) ax H'/\fW g tc te (gF caps cv) (items.drop i) ds (λds=>Qd (.own ds) cv)/\m=items.length-i/\i<=items.length,
  ⟨items.length,F2,[],[],aq.refl _,R2.other aF a0 aN,au,.nil,aF,tO R2 caps (aq.refl _) (sw R2.fr aF),q2,rfl,Nat.zero_le _⟩,?_⟩
 rintro i m ax Hi ⟨Fi,ds,ys,si,Ri,jm,ri,fi,Rn,qi,rfl,hi⟩;have y6:=WM Fi Hi si Ri.fr i
 by_cases hl:i<items.length
 ·right
  have hd:items.drop i=items[i]::items.drop (i+1):=by rw[List.drop_eq_getElem_cons hl]
  rw[hd]at qi;obtain⟨go,yl⟩:=y6.1 items[i] (by rw[List.getElem?_eq_getElem hl])
  refine⟨go,λv H' y=>?_⟩;obtain⟨F3,gr,rep⟩:=yl v H' y;have sF:aq Fi F3:=gr.same Ri.fr;have R3:=gr.rs Rn;have Rl:RS ⟨H',F3,[],[]⟩ F3 (gF caps cv) ax H':=R3.less (gR _) (f7 _ _) (d8 _ _) R3.fr;have sH:aq Hi H':=by
   rcases gr with⟨_,rfl⟩|⟨p,o,hp,_,rfl⟩
   ·exact aq.refl _
   ·exact aH hp
  have KR:∀c o,F3 c=some o->Fi c=some o\/Nw Hi c o:=λc o e=>by
   rcases gr with⟨rfl,_⟩|⟨p,o',hp,rfl,_⟩
   ·exact .inl e
   ·by_cases hc:c=p
    ·subst hc;exact .inr (.inl hp)
    ·rw[ak hc]at e;exact .inl e
  -- behind the turn
  have back:∀ {F5 H5:Hp} {Bj:Sd} {Vx:St},aq F3 F5->RS ⟨H',F3,[],[]⟩ F5 Bj Vx H5->RS Y F5 cv σ H5/\H5 acc=some (.lst ys)/\F5 acc=none/\aq Fi F5:=λ{F5 H5 Bj Vx} s5 R5=>by
   have Dh:aq Hi H5:=sH.trans λb o e=>R5.old b o e (by simp [bD.wU])
   have GV:∀c o,F5 c=some o->Fi c=some o\/Nw Hi c o:=λc o e=>by
    rcases R5.eM c o e with z|z
    ·exact KR c o z
    ·exact .inr (z.imp sH.free id)
   refine⟨Ri.call (sF.trans s5) R5.fr Dh GV,Dh _ _ jm,?_,sF.trans s5⟩;cases e:F5 acc with
   | none=>rfl
   | some o =>
    rcases GV acc o e with z|z
    ·rw[fi]at z;cases z
    ·rcases z with z|⟨ws,rfl⟩
     ·rw[jm]at z;cases z
     ·have y:=R5.fr acc _ e;rw[Dh _ _ jm]at y;cases y
  refine⟨⟨H',F3,[],[]⟩,rfl,F3,_,items[i],_,Rl,rep,qi,λjH H4 F4 cI s4 R4 q4=>?_⟩;refine⟨⟨H',F3,[],[]⟩,rfl,F4,cI,_,R4,q4,λb H5 F5 Bj s5 R5 q5=>?_⟩;cases b with
  | false =>
   obtain⟨le,q5⟩:=q5;obtain⟨w1,w2,w3,w4⟩:=back (s4.trans s5) R5;exact⟨items.length-(i+1),by omega,F5,ds,ys,si.trans w4,w1,w2,ri.mono w4,w3,R5.less le (f7 _ _) (d8 _ _) R5.fr,q5,rfl,hl⟩
  | true =>
   refine⟨⟨H',F3,[],[]⟩,rfl,F5,Bj,_,R5,q5,λv6 H6 F6 d Ur s6 R6 r6 q6=>?_⟩;obtain⟨le,hz,q6⟩:=q6;obtain⟨w1,w2,w3,w4⟩:=back ((s4.trans s5).trans s6) R6;exact⟨ys,items.length-(i+1),w2,by rw[ri.length];exact hz,by omega,F6,ds++[d],ys++[v6],si.trans w4,w1.other w3 a0 aN,au,(ri.mono w4).append (.cons r6 .nil),w3,R6.less le (f7 _ _) (d8 _ _) (sw R6.fr w3),q6,rfl,hl⟩
 ·left
  have e:i=items.length:=by omega
  subst e;rw[List.drop_length]at qi;exact⟨y6.2 rfl,K _ Hi Fi (.own ds) cv ((s1.trans s2).trans si) Ri ⟨acc,ys,rfl,jm,ri,fi,a0,aN⟩ qi⟩
theorem eC(hi:EI G k S target iter ti)(b:jh S scope N' caps)(hg:EG G k (aR S scope N') target g)(ht:E7 G k (aR S scope N') ifs tc)(he:ED G k (aR S scope N') elt te)(hs:∀env x,foldedSetIterable iter env x=pure x:=by intro _ _;rfl)(hh:S.jJ=false:=by rfl):
  EX G k S (.ListComp elt [⟨target,iter,ifs,0⟩] scope pos) (dD S.ios caps ti g tc te):=.mk λX Y ok =>
 aO (n8 (ok.calm hh) (hi X Y ok) (b.sc ok) (nz hh ok b hg ht he) (hs _)) λσ H Q q=>j3 ok.ios q
theorem JF(i:Nat){y:Str}{py eN:Pos}(hi:EI G k S target iter ti)(b:jh S scope N' caps)(hg:EG G k (aR S scope N') target g)(ht:E7 G k (aR S scope N') ifs tc)(he:ED G k (aR S scope N') elt te)
  (hy:S.N[i]?=some y:=by rfl) (hx:S.sc.lookup y=some .local\/(S.sc.lookup y=some .cell/\S.vk=false):=by first|exact Or.inl rfl|exact Or.inr ⟨rfl,rfl⟩) (hn:i∉S.ios:=by first|decide|exact List.not_mem_nil | (dsimp only;decide)) (hl:(py.line==pos.line)=true:=by rfl) (Eo:(scope.names.any λ(n,k)=>n==y&&(k==.local||k==.cell))=false:=by decide +kernel)
  (hs:∀env x,foldedSetIterable iter env x=pure x:=by intro _ _;rfl) (hh:S.jJ=false:=by rfl):ES G k S (.Assign [.Name y py] (.ListComp elt [⟨target,iter,ifs,0⟩] scope pos) eN) (dE S.ios i (dD S.ios caps ti g tc te)):=.mk λX Y ok=>by
 have sw:swapsWith (.ListComp elt [⟨target,iter,ifs,0⟩] scope pos) (some (.Name y py)) eN.line X.env=pure (S.sc.lookup y==some .local):=by
  have e:swapsWith (.ListComp elt [⟨target,iter,ifs,0⟩] scope pos) (some (.Name y py)) eN.line X.env=pure (X.env.blockKind==.function&&X.env.kindOf y==some .local&&py.line==pos.line&&!(scope.names.any λ(n,k)=>n==y&&(k==.local||k==.cell))):=rfl
  have kb:X.env.blockKind=.function:=by unfold Env.blockKind;rw[ok.kind];rfl
  have kd:X.env.kindOf y=S.sc.lookup y:=by
   show X.env.scope.names.lookup y=_;rw[ok.sc]
  rw[e,kb,kd,hl,Eo];simp
 have fin:∀Dn σ H,lS Y (dE S.ios i (dD S.ios caps ti g tc te)) Dn σ H->Ds (oZ (lI Y ti) caps (QR g) (QQ tc) (Te te)) (gK i) Dn σ H:=λDn σ H q=>by
  obtain⟨F,ai,De,R,q,K⟩:=q;refine j3 ok.ios ⟨F,ai,_,R,q,λv H1 F1 y ax s1 R1 r1 q1=>?_⟩;obtain⟨F2,bx,s2,R2,q2⟩:=jb R1 r1 hn ok.ios q1;exact K.nx _ H1 F2 bx (s1.trans s2) R2 q2
 rcases hx with hx|hx
 ·refine cu (uD (i:=i) (ok.calm hh) (hi X Y ok) (b.sc ok) (nz hh ok b hg ht he) (hs _) (by rw[ok.N];exact ok.nd) (by rw[ok.N];exact hy) (by rw[ok.sc];exact hx) (by rw[sw,hx];rfl)) fin
 ·refine cu (L2.zV (i:=i) (by rw[ok.N];exact ok.nd) (by rw[ok.N];exact hy) (gn ok (.inr hx)) (n8 (ok.calm hh) (hi X Y ok) (b.sc ok) (nz hh ok b hg ht he) (hs _)) (by rw[sw,hx.1];rfl) (gf ok (.inr hx))) fin
end
end Vc
namespace Vc
open PySem L2
variable [KF]
section
variable {prog:Program}{w:World}{A:Around}{E:Value->Shared->Prop}{s:Shared}
theorem yb{j t:Addr}{i:Nat}{xs:Array Value}{x:Value}{Q:Value->Shared->Prop}(hj:s.heap.IsTupleIter j t i)(ht:s.heap.IsTuple t xs)(hx:xs[i]?=some x)
  (q:∀g,g.IsTupleIter j t (i+1)->Heap.SameBut j s.heap g->Q x {s with heap:=g}):wpAny (model prog w) A (Builtin.SmallTypes.nextOf (.ref j)) Q E s:=by
 obtain⟨ob,h1,h2,h3⟩:=id hj;obtain⟨ot,h4,_,nt,h5⟩:=ht;unfold Builtin.SmallTypes.nextOf;refine wpAny_bind (wpAny_callSpecial?_slot (name:=Str.ofString "__next__") hj.typeIs F.slot_tuple_iterator_next (wpAny_call_entry F.slot_tuple_iterator_next hj.typeIs F.entry_tuple_iterator_next ?_ (F.args_tuple_iterator_next_1 _)));show wpAny _ _ (field (.ref j) 0 >>= _) _ _ s;refine wpAny_bind (wpAny_field h1 h3 (x:=.ref t) rfl ?_);show wpAny _ _ (if(Value.ref t==Value.none)=true then _ else _) _ _ s
 rw[if_neg (by intro z;exact absurd z Bool.false_ne_true)]
 show wpAny _ _ (field (.ref j) 1 >>= _) _ _ s;refine wpAny_bind (wpAny_field h1 h3 (x:=.int i 0) rfl ?_);show wpAny _ _ (seqItems? (.ref t) >>= _) _ _ s;refine wpAny_bind (wpAny_seqItems h4 h5 ?_);simp only[Int.toNat_natCast,hx];refine wpAny_bind (wpAny_setField h1 h3 (by simp) (wpAny_pure ⟨x,rfl,wpAny_pure (q _ ?_ (Heap.SameBut.update ..))⟩))
 refine⟨_,Heap.get?_update_self _ h1 (Obj.isFreed_of_fields (Obj.data_mapFields h3 _)),(Obj.cls_mapFields ..).trans h2,?_⟩;rw[Obj.data_mapFields h3];simp [rawInt]
theorem nG{j t:Addr}{i:Nat}{xs:Array Value}{Q:Value->Shared->Prop}(hh:A.handled=none)(hj:s.heap.IsTupleIter j t i)(ht:s.heap.IsTuple t xs)(hx:xs[i]?=none)
  (q:∀g e,Heap.ExtBut j s.heap g->(∃o,g.get? e=some o/\o.cls=.type "StopIteration")->E (.ref e) {s with heap:=g}):wpAny (model prog w) A (Builtin.SmallTypes.nextOf (.ref j)) Q E s:=by
 obtain⟨ob,h1,h2,h3⟩:=id hj;obtain⟨ot,h4,_,nt,h5⟩:=ht;unfold Builtin.SmallTypes.nextOf;refine wpAny_bind (wpAny_callSpecial?_slot (name:=Str.ofString "__next__") hj.typeIs F.slot_tuple_iterator_next (wpAny_call_entry F.slot_tuple_iterator_next hj.typeIs F.entry_tuple_iterator_next ?_ (F.args_tuple_iterator_next_1 _)));show wpAny _ _ (field (.ref j) 0 >>= _) _ _ s;refine wpAny_bind (wpAny_field h1 h3 (x:=.ref t) rfl ?_);show wpAny _ _ (if(Value.ref t==Value.none)=true then _ else _) _ _ s
 rw[if_neg (by intro z;exact absurd z Bool.false_ne_true)]
 show wpAny _ _ (field (.ref j) 1 >>= _) _ _ s;refine wpAny_bind (wpAny_field h1 h3 (x:=.int i 0) rfl ?_);show wpAny _ _ (seqItems? (.ref t) >>= _) _ _ s;refine wpAny_bind (wpAny_seqItems h4 h5 ?_);simp only[Int.toNat_natCast,hx];refine wpAny_bind (wpAny_rule (wpAny_bind (wpAny_setField h1 h3 (by simp) ?_)))
 show wpAny _ _ (newExc (.type "StopIteration") [] >>= _) _ _ _;refine wpAny_bind ?_;simp only[newExc,newTuple];refine wpAny_bind (wpAny_newObj_type ?_ (by size_fits))
 refine wpAny_bind (m:=firstArgMember _ _) (wpAny_of_eq (a:=Value.none) (by first|rfl | (simp only[firstArgMember];rfl)) ?_)
 refine wpAny_newObj_type ?_ (by size_fits)
 simp only[raiseNew];refine wpAny_bind (wpAny_handled ?_)
 first|rw[show A.in1.handled=none from hh]|rw[hh]
 refine wpAny_bind (wpAny_pure (wpAny_throw ?_));exact q _ _ (((Heap.SameBut.update ..).extBut.push _).push _) ⟨_,Heap.get?_push_size _ rfl,rfl⟩
end
def jA(tp:Bool)(h:Heap)(j a:Addr)(i:Nat):Prop:=if tp=true then h.IsTupleIter j a i else h.IsListIter j a i
def rV(tp:Bool)(h:Heap)(a:Addr)(xs:Array Value):Prop:=if tp=true then h.IsTuple a xs else h.IsList a xs
theorem jA.live{tp:Bool}{h:Heap}{j a:Addr}{i:Nat}(q:jA tp h j a i):∃o,h.get? j=some o/\∀v,o.data≠.cell v:=by
 cases tp with
 | true=>obtain⟨o,e,c,d⟩:=(show h.IsTupleIter j a i from q);exact⟨o,e,λv z=>by rw[d]at z;cases z⟩
 | false=>obtain⟨o,e,c,d⟩:=(show h.IsListIter j a i from q);exact⟨o,e,λv z=>by rw[d]at z;cases z⟩
theorem jA.at{tp:Bool}{h h':Heap}{j a:Addr}{i:Nat}(q:jA tp h j a i)(k:∀o,h.get? j=some o->h'.get? j=some o):jA tp h' j a i:=by
 cases tp with
 | true=>obtain⟨o,e,r⟩:=(show h.IsTupleIter j a i from q);exact(show h'.IsTupleIter j a i from⟨o,k o e,r⟩)
 | false=>obtain⟨o,e,r⟩:=(show h.IsListIter j a i from q);exact(show h'.IsListIter j a i from⟨o,k o e,r⟩)
theorem rV.at{tp:Bool}{h h':Heap}{a:Addr}{xs:Array Value}(q:rV tp h a xs)(k:∀o,h.get? a=some o->h'.get? a=some o):rV tp h' a xs:=by
 cases tp with
 | true=>obtain⟨o,e,r⟩:=(show h.IsTuple a xs from q);exact(show h'.IsTuple a xs from⟨o,k o e,r⟩)
 | false=>obtain⟨o,e,r⟩:=(show h.IsList a xs from q);exact(show h'.IsList a xs from⟨o,k o e,r⟩)
section
variable {prog:Program}{w:World}{A:Around}{E:Value->Shared->Prop}{s:Shared}
theorem draw{tp:Bool}{j a:Addr}{i:Nat}{xs:Array Value}{x:Value}{Q:Value->Shared->Prop}(hj:jA tp s.heap j a i)(ha:rV tp s.heap a xs)(hx:xs[i]?=some x)
  (q:∀g,jA tp g j a (i+1)->Heap.SameBut j s.heap g->Q x {s with heap:=g}):wpAny (model prog w) A (Builtin.SmallTypes.nextOf (.ref j)) Q E s:=by
 cases tp with
 | true=>exact yb hj ha hx q
 | false=>exact wpAny_nextOf_list_item hj ha hx q
theorem j7{tp:Bool}{j a:Addr}{i:Nat}{xs:Array Value}{Q:Value->Shared->Prop}(hh:A.handled=none)(hj:jA tp s.heap j a i)(ha:rV tp s.heap a xs)(hx:xs[i]?=none)
  (q:∀g e,Heap.ExtBut j s.heap g->(∃o,g.get? e=some o/\o.cls=.type "StopIteration")->E (.ref e) {s with heap:=g}):wpAny (model prog w) A (Builtin.SmallTypes.nextOf (.ref j)) Q E s:=by
 cases tp with
 | true=>exact nG hh hj ha hx q
 | false=>exact wpAny_nextOf_list_end hh hj ha hx q
structure Qt(z U V i j:Addr):Prop where
 uz:U≠z
 vz:V≠z
 iz:i≠z
 jz:j≠z
 uv:U≠V
 ui:U≠i
 uj:U≠j
 vi:V≠i
 vj:V≠j
 ij:i≠j
theorem DM{tp tq:Bool}{z U V i j l m:Addr}{n:Nat}{xs ys:Array Value}{x y a b:Value}{Q:Option Value->Shared->Prop}(D:Qt z U V i j)(lz:l≠z/\l≠V/\l≠i/\l≠j)(mz:m≠z/\m≠V/\m≠i/\m≠j)
  (hz:IsZip s.heap z U V .none) (hU:IsPair s.heap U (.ref i) (.ref j)) (hV:IsPair s.heap V a b) (h1:jA tp s.heap i l n) (h2:jA tq s.heap j m n) (hl:rV tp s.heap l xs) (hm:rV tq s.heap m ys) (hx:xs[n]?=some x) (hy:ys[n]?=some y)
  (q:∀g,IsZip g z U V (rawInt s.heap.objs.size)->IsPair g V x y->jA tp g i l (n+1)->jA tq g j m (n+1)->IsPair g s.heap.objs.size x y->g.objs.size=s.heap.objs.size+1 ->
   (∀c o,c≠z->c≠V->c≠i->c≠j->s.heap.get? c=some o->g.get? c=some o)->Q (some (.ref s.heap.objs.size)) {s with heap:=g}):wpAny (model prog w) A (pyNext (.ref z)) Q E s:=by
 have hT:s.TypeIs (.ref z) "zip":=⟨_,hz,rfl⟩;unfold pyNext;refine wpAny_bind (wpAny_attempt (wpAny_callSpecial?_slot (name:=Str.ofString "__next__") hT F.slot_zip_next (wpAny_call_entry F.slot_zip_next hT F.entry_zip_next ?_ (F.args_zip_next_1 _))));show wpAny _ _ (field (.ref z) 2 >>= _) _ _ _;refine wpAny_bind (wpAny_field hz rfl (x:=.bool false) rfl ?_);show wpAny _ _ (field (.ref z) 3 >>= _) _ _ _;refine wpAny_bind (wpAny_field hz rfl (x:=.ref U) rfl (wpAny_bind (wpAny_seqItems hU rfl ?_)));show wpAny _ _ (Builtin.SmallTypes.ownedTupleIsFree (.ref z) >>= _) _ _ _;refine wpAny_bind ?_;unfold Builtin.SmallTypes.ownedTupleIsFree;refine wpAny_bind (wpAny_field hz rfl (x:=.none) rfl (wpAny_pure ?_));simp only[if_true];refine wpAny_bind (wpAny_rule (wpAny_bind (wpAny_field hz rfl (x:=.ref V) rfl (wpAny_bind (wpAny_setField_rec hz (by simp) λg1 z1 e1=>?_)))))
 replace z1:IsZip g1 z U V .ellipsis:=z1
 refine wpAny_bind ?_;simp only[List.zipIdx_cons,List.zipIdx_nil,List.forIn_cons,List.forIn_nil];refine wpAny_bind (wpAny_bind (wpAny_onRaise ?_));show wpAny _ _ (Builtin.SmallTypes.nextOf (.ref i) >>= _) _ _ _;refine wpAny_bind (draw (s:={s with heap:=g1}) (h1.at λo e=>e1.extBut _ _ D.iz e) (hl.at λo e=>e1.extBut _ _ lz.1 e) hx λg2 w2 e2=>wpAny_pure ?_)
 have v2:IsPair g2 V a b:=e2.extBut _ _ D.vi (e1.extBut _ _ D.vz hV);refine wpAny_bind (wpAny_seqItems v2 rfl (wpAny_bind (wpAny_updateSeq_pair v2 λg3 v3 e3=>?_)))
 replace v3:IsPair g3 V x b:=v3
 refine wpAny_bind (wpAny_letGo (wpAny_pure (wpAny_bind (wpAny_bind (wpAny_onRaise ?_)))));show wpAny _ _ (Builtin.SmallTypes.nextOf (.ref j) >>= _) _ _ _;have to3:∀c o,c≠z->c≠i->c≠V->s.heap.get? c=some o->g3.get? c=some o:=λc o c1 c2 c3 e=>e3.extBut _ _ c3 (e2.extBut _ _ c2 (e1.extBut _ _ c1 e));refine wpAny_bind (draw (s:={s with heap:=g3}) (h2.at λo e=>to3 j o D.jz D.ij.symm D.vj.symm e) (hm.at λo e=>to3 m o mz.1 mz.2.2.1 mz.2.1 e) hy λg4 w4 e4=>wpAny_pure ?_)
 have v4:IsPair g4 V x b:=e4.extBut _ _ D.vj v3;refine wpAny_bind (wpAny_seqItems v4 rfl (wpAny_bind (wpAny_updateSeq_pair v4 λg5 v5 e5=>?_)))
 replace v5:IsPair g5 V x y:=v5
 refine wpAny_bind (wpAny_letGo (wpAny_pure (wpAny_pure (wpAny_bind (wpAny_seqItems v5 rfl (wpAny_bind (wpAny_newTuple ?_)))))));have sz:g5.objs.size=s.heap.objs.size:=by rw[e5.1,e4.1,e3.1,e2.1,e1.1]
 have z5:IsZip g5 z U V .ellipsis:=e5.extBut _ _ D.vz.symm (e4.extBut _ _ D.jz.symm (e3.extBut _ _ D.vz.symm (e2.extBut _ _ D.iz.symm z1)));have k5:∀c o,c≠z->c≠V->c≠i->c≠j->s.heap.get? c=some o->g5.get? c=some o:=λc o c1 c2 c3 c4 e=>e5.extBut _ _ c2 (e4.extBut _ _ c4 (to3 c o c1 c3 c2 e));have i5:jA tp g5 i l (n+1):=w2.at λo e=>e5.extBut _ _ D.vi.symm (e4.extBut _ _ D.ij (e3.extBut _ _ D.vi.symm e));have j5:jA tq g5 j m (n+1):=w4.at λo e=>e5.extBut _ _ D.vj.symm e;have Vw:z<g5.objs.size:=Heap.lt_size z5;show wpAny _ _ (Builtin.SmallTypes.ownedTupleHandOut (.ref z) (.ref g5.objs.size) >>= _) _ _ _;refine wpAny_bind ?_;unfold Builtin.SmallTypes.ownedTupleHandOut;have z6:IsZip (g5.push {cls:=.type "tuple",data:=.seq #[x,y]}) z U V .ellipsis:=Heap.get?_push_of_some _ z5;refine wpAny_bind (wpAny_setField_rec z6 (by simp) λg7 z7 e7=>?_)
 replace z7:IsZip g7 z U V (rawInt g5.objs.size):=z7
 refine wpAny_setField_rec z7 (by simp) λg8 z8 e8=>?_
 replace z8:IsZip g8 z U V (rawInt g5.objs.size):=z8
 have up:∀c o,c≠z->g5.get? c=some o->g8.get? c=some o:=λc o c1 e=>e8.extBut _ _ c1 (e7.extBut _ _ c1 (Heap.get?_push_of_some _ e));have t8:IsPair g8 g5.objs.size x y:=e8.extBut _ _ (Nat.ne_of_gt Vw) (e7.extBut _ _ (Nat.ne_of_gt Vw) (Heap.get?_push_size _ rfl));have s8:g8.objs.size=g5.objs.size+1:=by rw[e8.1,e7.1,Heap.size_push]
 rw[sz]at z8 t8 s8;refine wpAny_pure ⟨_,rfl,wpAny_pure ?_⟩;show Q (some (.ref g5.objs.size)) _;rw[sz];exact q g8 z8 (up _ _ D.vz v5) (i5.at λo e=>up _ o D.iz e) (j5.at λo e=>up _ o D.jz e) t8 s8 λc o c1 c2 c3 c4 e=>up c o c1 (k5 c o c1 c2 c3 c4 e)
end
end Vc
namespace Vc
open PySem L2
variable [KF]
abbrev Vb(tp:Bool):String:=if tp=true then "tuple_iterator" else "list_iterator"
abbrev zA(tp:Bool)(h:Heap)(l:Addr):Heap:=h.push {cls:=.type (Vb tp),data:=.fields #[.ref l,.int 0 0]}
abbrev zB(tp tq:Bool)(h:Heap)(l m:Addr):Heap:=zA tq (zA tp h l) m
abbrev zC(tp tq:Bool)(h:Heap)(l m:Addr):Heap:=(zB tp tq h l m).push {cls:=.type "tuple",data:=.seq #[.ref h.objs.size,.ref (zA tp h l).objs.size]}
abbrev zD(tp tq:Bool)(h:Heap)(l m:Addr):Heap:=(zC tp tq h l m).push {cls:=.type "tuple",data:=.seq #[.none,.none]}
abbrev zE(tp tq:Bool)(h:Heap)(l m:Addr):Heap:=(zD tp tq h l m).push {cls:=.type "zip",data:=.fields #[.none,.bool false,.bool false,.ref (zB tp tq h l m).objs.size,.ref (zC tp tq h l m).objs.size]}
set_option maxHeartbeats 4000000 in
theorem Bg(tp tq:Bool)(l m:Addr)(xs ys:Array Value):
  Meets (Builtin.«zip.__new__» ⟨[.type "zip",.ref l,.ref m],[]⟩) (λ_ R s=>rV tp s.heap l xs/\rV tq s.heap m ys/\R (.ok (.ret (.ref (zD tp tq s.heap l m).objs.size))) {s with heap:=zE tp tq s.heap l m}):=
 .of_wp λprog w A R s h=>by
  obtain⟨hp,g,d,tk,os⟩:=s;obtain⟨hl,hm,h⟩:=h;have sub:=sub_zip;cases tp with
  | true =>
   have L1:Heap.IsTuple (Shared.heap ⟨hp,g,d,tk,os⟩) l xs:=hl;cases tq with
   | true =>
    have L2:Heap.IsTuple (Shared.heap ⟨hp.push {cls:=.type "tuple_iterator",data:=.fields #[.ref l,.int 0 0]},g,d,tk,os⟩) m ys:=by
     obtain⟨o,e,r⟩:=(show hp.IsTuple m ys from hm);exact⟨o,Heap.get?_push_of_some _ e,r⟩
    wp_walk using wpAny_pyIter_tuple L1,wpAny_pyIter_tuple L2
    exact⟨_,rfl,h⟩
   | false =>
    have L2:Heap.IsList (Shared.heap ⟨hp.push {cls:=.type "tuple_iterator",data:=.fields #[.ref l,.int 0 0]},g,d,tk,os⟩) m ys:=by
     obtain⟨o,e,r⟩:=(show hp.IsList m ys from hm);exact⟨o,Heap.get?_push_of_some _ e,r⟩
    wp_walk using wpAny_pyIter_tuple L1,wpAny_pyIter_list L2
    exact⟨_,rfl,h⟩
  | false =>
   have L1:Heap.IsList (Shared.heap ⟨hp,g,d,tk,os⟩) l xs:=hl;cases tq with
   | true =>
    have L2:Heap.IsTuple (Shared.heap ⟨hp.push {cls:=.type "list_iterator",data:=.fields #[.ref l,.int 0 0]},g,d,tk,os⟩) m ys:=by
     obtain⟨o,e,r⟩:=(show hp.IsTuple m ys from hm);exact⟨o,Heap.get?_push_of_some _ e,r⟩
    wp_walk using wpAny_pyIter_list L1,wpAny_pyIter_tuple L2
    exact⟨_,rfl,h⟩
   | false =>
    have L2:Heap.IsList (Shared.heap ⟨hp.push {cls:=.type "list_iterator",data:=.fields #[.ref l,.int 0 0]},g,d,tk,os⟩) m ys:=by
     obtain⟨o,e,r⟩:=(show hp.IsList m ys from hm);exact⟨o,Heap.get?_push_of_some _ e,r⟩
    wp_walk using wpAny_pyIter_list L1,wpAny_pyIter_list L2
    exact⟨_,rfl,h⟩
theorem u0{tp:Bool}{h:Heap}{j a:Addr}(e:h.get? j=some {cls:=.type (Vb tp),data:=.fields #[.ref a,.int 0 0]}):jA tp h j a 0:=by
 cases tp with
 | true=>exact⟨_,e,rfl,rfl⟩
 | false=>exact⟨_,e,rfl,rfl⟩
section
variable {prog:Program}{w:World}{A:Around}{E:Value->Shared->Prop}{s:Shared}
theorem Bf{tp tq:Bool}{l m:Addr}{xs ys:Array Value}{Q:Value->Shared->Prop}(hl:rV tp s.heap l xs)(hm:rV tq s.heap m ys)
  (q:∀g,IsZip g (s.heap.objs.size+4) (s.heap.objs.size+2) (s.heap.objs.size+3) .none->IsPair g (s.heap.objs.size+2) (.ref s.heap.objs.size) (.ref (s.heap.objs.size+1))->IsPair g (s.heap.objs.size+3) .none .none ->
   jA tp g s.heap.objs.size l 0->jA tq g (s.heap.objs.size+1) m 0->(∀c o,s.heap.get? c=some o->g.get? c=some o)->Q (.ref (s.heap.objs.size+4)) {s with heap:=g}):
  wpAny (model prog w) A (call (.type "zip") [.ref l,.ref m]) Q E s:=by
 refine callType_new F.called_zip ∅ (F.typeCall_zip_2 _ _) (F.newCall_zip_2 _ _) (λob=>F.args_object_init_3 ob _ _) F.entry_zip_new (Bg tp tq l m xs ys) ⟨hl,hm,?_⟩
 have n1:(zA tp s.heap l).objs.size=s.heap.objs.size+1:=Heap.size_push ..;have n2:(zB tp tq s.heap l m).objs.size=s.heap.objs.size+2:=by rw[Heap.size_push,n1]
 have n3:(zC tp tq s.heap l m).objs.size=s.heap.objs.size+3:=by rw[Heap.size_push,n2]
 have n4:(zD tp tq s.heap l m).objs.size=s.heap.objs.size+4:=by rw[Heap.size_push,n3]
 have p5:(zE tp tq s.heap l m).get? (zD tp tq s.heap l m).objs.size=some _:=Heap.get?_push_size _ rfl;have p4:(zE tp tq s.heap l m).get? (zC tp tq s.heap l m).objs.size=some _:=Heap.get?_push_of_some _ (Heap.get?_push_size _ rfl);have p3:(zE tp tq s.heap l m).get? (zB tp tq s.heap l m).objs.size=some _:=Heap.get?_push_of_some _ (Heap.get?_push_of_some _ (Heap.get?_push_size _ rfl));have p2:(zE tp tq s.heap l m).get? (zA tp s.heap l).objs.size=some _:=Heap.get?_push_of_some _ (Heap.get?_push_of_some _ (Heap.get?_push_of_some _ (Heap.get?_push_size _ rfl)));have p1:(zE tp tq s.heap l m).get? s.heap.objs.size=some _:=Heap.get?_push_of_some _ (Heap.get?_push_of_some _ (Heap.get?_push_of_some _ (Heap.get?_push_of_some _ (Heap.get?_push_size _ rfl))));show _/\_;rw[n2,n3,n4]at p5;rw[n1,n2]at p3;rw[n3]at p4;rw[n1]at p2;rw[n4];refine⟨⟨_,p5,rfl⟩,q _ p5 p3 p4 (u0 p1) (u0 p2) λc o x=>?_⟩;exact Heap.get?_push_of_some _ (Heap.get?_push_of_some _ (Heap.get?_push_of_some _ (Heap.get?_push_of_some _ (Heap.get?_push_of_some _ x))))
theorem Bh{tp tq:Bool}{z U V i j l m:Addr}{n:Nat}{xs ys:Array Value}{a b:Value}{Q:Option Value->Shared->Prop}(hh:A.handled=none)(D:Qt z U V i j)(lz:l≠z/\l≠V/\l≠i/\l≠j)(mz:m≠z/\m≠V/\m≠i/\m≠j)
  (hz:IsZip s.heap z U V .none) (hU:IsPair s.heap U (.ref i) (.ref j)) (hV:IsPair s.heap V a b) (h1:jA tp s.heap i l n) (h2:jA tq s.heap j m n) (hl:rV tp s.heap l xs) (hm:rV tq s.heap m ys) (yO:xs[n]?=none\/ys[n]?=none)
  (q:∀g,(∀c o,c≠z->c≠V->c≠i->c≠j->s.heap.get? c=some o->g.get? c=some o)->Q none {s with heap:=g}):wpAny (model prog w) A (pyNext (.ref z)) Q E s:=by
 have hT:s.TypeIs (.ref z) "zip":=⟨_,hz,rfl⟩;unfold pyNext;refine wpAny_bind (wpAny_attempt (wpAny_callSpecial?_slot (name:=Str.ofString "__next__") hT F.slot_zip_next (wpAny_call_entry F.slot_zip_next hT F.entry_zip_next ?_ (F.args_zip_next_1 _))));show wpAny _ _ (field (.ref z) 2 >>= _) _ _ _;refine wpAny_bind (wpAny_field hz rfl (x:=.bool false) rfl ?_);show wpAny _ _ (field (.ref z) 3 >>= _) _ _ _;refine wpAny_bind (wpAny_field hz rfl (x:=.ref U) rfl (wpAny_bind (wpAny_seqItems hU rfl ?_)));show wpAny _ _ (Builtin.SmallTypes.ownedTupleIsFree (.ref z) >>= _) _ _ _;refine wpAny_bind ?_;unfold Builtin.SmallTypes.ownedTupleIsFree;refine wpAny_bind (wpAny_field hz rfl (x:=.none) rfl (wpAny_pure ?_));simp only[if_true];refine wpAny_bind (wpAny_rule (wpAny_bind (wpAny_field hz rfl (x:=.ref V) rfl (wpAny_bind (wpAny_setField_rec hz (by simp) λg1 z1 e1=>?_)))))
 replace z1:IsZip g1 z U V .ellipsis:=z1
 refine wpAny_bind ?_;simp only[List.zipIdx_cons,List.zipIdx_nil,List.forIn_cons,List.forIn_nil];refine wpAny_bind (wpAny_bind (wpAny_onRaise ?_));show wpAny _ _ (Builtin.SmallTypes.nextOf (.ref i) >>= _) _ _ _;cases hx:xs[n]? with
 | none =>
  refine wpAny_bind (j7 (s:={s with heap:=g1}) hh (h1.at λo e=>e1.extBut _ _ D.iz e) (hl.at λo e=>e1.extBut _ _ lz.1 e) hx λg2 e x2 he=>?_)
  obtain⟨oe,Ha,M6⟩:=he;have z2:IsZip g2 z U V .ellipsis:=x2 _ _ D.iz.symm z1;have ez:e≠z:=λx=>by subst x;rw[z2]at Ha;cases Ha;simp at M6
  refine wpAny_setField_rec z2 (by simp) λg3 _ e3=>?_
  refine wpAny_bind (wpAny_isInstance (T:="StopIteration") (b:=true) ⟨oe,e3.extBut _ _ ez Ha,M6⟩ isSubtype_stop (wpAny_pure (q _ λc o c1 _ c3 _ x=>?_)));exact e3.extBut _ _ c1 (x2 _ _ c3 (e1.extBut _ _ c1 x))
 | some x =>
  have hy:ys[n]?=none:=by
   rcases yO with h|h
   ·rw[hx]at h;cases h
   ·exact h
  refine wpAny_bind (draw (s:={s with heap:=g1}) (h1.at λo e=>e1.extBut _ _ D.iz e) (hl.at λo e=>e1.extBut _ _ lz.1 e) hx λg2 w2 e2=>wpAny_pure ?_)
  have v2:IsPair g2 V a b:=e2.extBut _ _ D.vi (e1.extBut _ _ D.vz hV);refine wpAny_bind (wpAny_seqItems v2 rfl (wpAny_bind (wpAny_updateSeq_pair v2 λg3 v3 e3=>?_)));refine wpAny_bind (wpAny_letGo (wpAny_pure (wpAny_bind (wpAny_bind (wpAny_onRaise ?_)))));show wpAny _ _ (Builtin.SmallTypes.nextOf (.ref j) >>= _) _ _ _;have to3:∀c o,c≠z->c≠i->c≠V->s.heap.get? c=some o->g3.get? c=some o:=λc o c1 c2 c3 e=>e3.extBut _ _ c3 (e2.extBut _ _ c2 (e1.extBut _ _ c1 e));refine wpAny_bind (j7 (s:={s with heap:=g3}) hh (h2.at λo e=>to3 j o D.jz D.ij.symm D.vj.symm e) (hm.at λo e=>to3 m o mz.1 mz.2.2.1 mz.2.1 e) hy λg4 e x4 he=>?_)
  obtain⟨oe,Ha,M6⟩:=he;have z4:IsZip g4 z U V .ellipsis:=x4 _ _ D.jz.symm (e3.extBut _ _ D.vz.symm (e2.extBut _ _ D.iz.symm z1));have ez:e≠z:=λx=>by subst x;rw[z4]at Ha;cases Ha;simp at M6
  refine wpAny_setField_rec z4 (by simp) λg5 _ e5=>?_
  refine wpAny_bind (wpAny_isInstance (T:="StopIteration") (b:=true) ⟨oe,e5.extBut _ _ ez Ha,M6⟩ isSubtype_stop (wpAny_pure (q _ λc o c1 c2 c3 c4 x=>?_)));exact e5.extBut _ _ c1 (x4 _ _ c4 (to3 c o c1 c3 c2 x))
end
end Vc
namespace Vc
open PySem L2
variable [KF]
section
variable {X:Cx}{pins:List (Addr×Obj)}{σ:St}{H:Hp}{s:Shared}
theorem vb(I:L2.Inv X pins σ H s){ch:List Addr}(hf:∀b∈ch,fN X pins H b){h':Heap}{t':Nat}(kp:∀b o,b∉ch->s.heap.get? b=some o->h'.get? b=some o){T:Addr}{o:HO}(hT:s.heap.objs.size<=T)(new:bF X.prog X.w (upd H T o) h' T o):
  L2.Inv X pins σ (upd H T o) {s with heap:=h',toks:=t'}:=by
 have K7:∀ {b u},s.heap.get? b=some u->b≠T:=λe=>Nat.ne_of_lt (Nat.lt_of_lt_of_le (Heap.lt_size e) hT);have Ld:∀ {b u},H b=some u->b≠T:=λe=>Nat.ne_of_lt (Nat.lt_of_lt_of_le (I.bI.lt e) hT);have zg:∀ {b u},H b=some u->b∉ch:=λ{b u} e z=>by rw[(hf b z).1]at e;cases e
 refine I.step (g':=s.gens) (d':=s.drawn) (ch:=ch) (λb hb=>?_) (λb u _ _ hc e _=>kp b u hc e) (λb u _ _ hc e _=>⟨u.slots,kp b u hc e⟩) (λb u hc e n=>by rw[ak (K7 e)];exact n) (λb u hc e=>⟨u,kp b u hc e⟩)
  (λb xs e=>by rw[ak (Ld e)];exact e) (λb u w e=>by rw[ak (Ld e)];exact e) (λb ps e=>⟨#[],by rw[ak (Ld e),e];simp⟩) (λm hm=>?_) (λb u e=>?_) I.bare
 ·obtain⟨f0,f1,f2,f3,f4,f5⟩:=hf b hb
  exact⟨f3.imp id λz=>Heap.get?_none_of_le z,f1,f4,f5⟩
 ·obtain⟨ob,es,ep,ho,r⟩:=hm
  refine⟨ob,es,ep,kp _ ob (λz=>?_) ho,r⟩;exact(hf _ z).2.1 rfl
 ·by_cases hb:b=T
  ·subst hb;rw[au]at e;cases e;exact new
  ·rw[ak hb]at e
   refine(I.bI b u e).sZ (λc v hc q=>?_) (λc q=>by rw[ak (Ld q)];exact q) (λc xs q=>by rw[ak (Ld q)];exact q) λc o u q=>by rw[ak (Ld q)];exact q
   rcases hc with z|z
   ·subst z;exact kp _ v (zg e) q
   ·exact kp _ v (zg z) q
theorem va(I:L2.Inv X pins σ H s){ch:List Addr}(hf:∀b∈ch,fN X pins H b){h':Heap}{t':Nat}(kp:∀b o,b∉ch->s.heap.get? b=some o->h'.get? b=some o):L2.Inv X pins σ H {s with heap:=h',toks:=t'}:=by
 have zg:∀ {b u},H b=some u->b∉ch:=λ{b u} e z=>by rw[(hf b z).1]at e;cases e
 refine I.step (g':=s.gens) (d':=s.drawn) (ch:=ch) (λb hb=>?_) (λb u _ _ hc e _=>kp b u hc e) (λb u _ _ hc e _=>⟨u.slots,kp b u hc e⟩) (λb u hc e n=>n) (λb u hc e=>⟨u,kp b u hc e⟩)
  (λb xs e=>e) (λb u w e=>e) (λb ps e=>⟨#[],by rw[e];simp⟩) (λm hm=>?_) (λb u e=>?_) I.bare
 ·obtain⟨f0,f1,f2,f3,f4,f5⟩:=hf b hb
  exact⟨f3.imp id λz=>Heap.get?_none_of_le z,f1,f4,f5⟩
 ·obtain⟨ob,es,ep,ho,r⟩:=hm
  refine⟨ob,es,ep,kp _ ob (λz=>?_) ho,r⟩;exact(hf _ z).2.1 rfl
 ·refine(I.bI b u e).sZ (λc v hc q=>?_) (λc q=>q) λc xs q=>q
  rcases hc with z|z
  ·subst z;exact kp _ v (zg e) q
  ·exact kp _ v (zg z) q
end
def Sq(tp:Bool)(K:PySem.W.Frag)(H:Hp)(a:Addr)(xs:List V):Prop:=if tp=true then iD K H a xs else dP K H a xs
theorem Sq.is{tp:Bool}{X:Cx}{pins:List (Addr×Obj)}{σ:St}{H:Hp}{s:Shared}{a:Addr}{xs:List V}(I:L2.Inv X pins σ H s)(h:Sq tp X.K H a xs):∃its:List Value,Vals xs its/\rV tp s.heap a its.toArray/\a<s.heap.objs.size:=by
 cases tp with
 | true =>
  obtain⟨its,r,p,_⟩:=I.tuple (show iD X.K H a xs from h)
  exact⟨its,r,p,by obtain⟨o,e,_⟩:=p;exact Heap.lt_size e⟩
 | false =>
  obtain⟨its,r,p,_⟩:=I.list (show dP X.K H a xs from h)
  exact⟨its,r,p.isList,p.lt⟩
theorem Sq.inj{tp:Bool}{X:Cx}{pins:List (Addr×Obj)}{σ:St}{H:Hp}{s:Shared}{a:Addr}{xs ys:List V}(I:L2.Inv X pins σ H s)(h:Sq tp X.K H a xs)(h':Sq tp X.K H a ys):xs=ys:=by
 cases tp with
 | true=>exact I.mY h h'
 | false=>exact I.qD h h'
def Rh(tp tq:Bool)(K:PySem.W.Frag)(l m:Addr):It:=
  ⟨λn H=>∃xs ys x y,Sq tp K H l xs/\Sq tq K H m ys/\xs[n]?=some x/\ys[n]?=some y,
   λn H v H'=>∃p x y,H p=none/\v=.ref p/\H'=upd H p (.tup [x,y])/\(∀xs,Sq tp K H l xs->xs[n]?=some x)/\∀ys,Sq tq K H m ys->ys[n]?=some y,
   λn H=>∃xs ys,Sq tp K H l xs/\Sq tq K H m ys/\(xs.length<=n\/ys.length<=n)⟩
theorem A1{P:Program}{w:World}{K:PySem.W.Frag}{elts:List Expr}{kk:Nat}{tpos:Pos}(tp tq:Bool)(z U V i j l m:Addr)(D:Qt z U V i j)(lz:l≠z/\l≠V/\l≠i/\l≠j)(mz:m≠z/\m≠V/\m≠i/\m≠j):
  Turn P w K (.Tuple elts kk tpos) (Rh tp tq K l m) [z,U,V,i,j] z (λn h=>IsZip h z U V .none/\IsPair h U (.ref i) (.ref j)/\(∃a b,IsPair h V a b)/\jA tp h i l n/\jA tq h j m n) where
 mem:=by simp
 obj:=λn h st b hb=>by
  obtain⟨h1,h2,⟨a,c,h3⟩,h4,h5⟩:=st;simp only[List.mem_cons,List.not_mem_nil,or_false]at hb;rcases hb with rfl|rfl|rfl|rfl|rfl
  ·exact⟨_,h1,λv q=>by cases q⟩
  ·exact⟨_,h2,λv q=>by cases q⟩
  ·exact⟨_,h3,λv q=>by cases q⟩
  ·exact h4.live
  ·exact h5.live
 keep:=λn h h' st kp=>by
  obtain⟨h1,h2,⟨a,c,h3⟩,h4,h5⟩:=st;exact⟨kp z (by simp) _ h1,kp U (by simp) _ h2,⟨a,c,kp V (by simp) _ h3⟩,h4.at λo e=>kp i (by simp) o e,h5.at λo e=>kp j (by simp) o e⟩
 item:=by
  intro X hP hw hK hc n pins s σ H E I hf st hg;subst hP hw hK;obtain⟨h1,h2,⟨a,c,h3⟩,h4,h5⟩:=st;obtain⟨xs,ys,x,y,q1,q2,e1,e2⟩:=hg;obtain⟨its,r1,p1,_⟩:=q1.is I;obtain⟨Vd,r2,p2,_⟩:=q2.is I;obtain⟨u,hu,ru⟩:=r1.get e1;obtain⟨v,hv,rv⟩:=r2.get e2;refine DM D lz mz h1 h2 h3 h4 h5 p1 p2 (x:=u) (y:=v) (by simpa using hu) (by simpa using hv) λg z1 v1 i1 j1 t1 s1 k1=>⟨_,rfl,?_⟩
  refine wpAny_letOwnedTupleGo_zip z1 λg' z2 wL=>?_;have kp:∀b o,b∉[z,V,i,j]->s.heap.get? b=some o->g'.get? b=some o:=λb o hb e=>by
   simp only[List.mem_cons,List.not_mem_nil,or_false,not_or]at hb;exact wL.extBut _ _ hb.1 (k1 b o hb.1 hb.2.1 hb.2.2.1 hb.2.2.2 e)
  have zT:s.heap.objs.size≠z:=Nat.ne_of_gt (Heap.lt_size h1);have Ss:∀b∈[z,V,i,j],fN X pins H b:=λb hb=>hf b (by
   simp only[List.mem_cons,List.not_mem_nil,or_false]at hb ⊢;rcases hb with e|e|e|e<;>simp [e])
  have t2:IsPair g' s.heap.objs.size u v:=wL.extBut _ _ zT t1;have I':=vb (t':=s.toks) (o:=.tup [x,y]) I Ss kp (Nat.le_refl _) ⟨by show 2<=sizeLine;decide,[u,v],.cons ru (.cons rv .nil),⟨_,t2,rfl,_,rfl⟩⟩
  have Sx:H s.heap.objs.size=none:=I.bI.fresh (Nat.le_refl _);refine⟨.ref s.heap.objs.size,upd H s.heap.objs.size (.tup [x,y]),I',rfl,⟨_,x,y,Sx,rfl,rfl,λzs hz=>by rw[hz.inj I q1];exact e1,λzs hz=>by rw[hz.inj I q2];exact e2⟩,⟨z2,wL.extBut _ _ D.uz (k1 _ _ D.uz D.uv D.ui D.uj h2),⟨u,v,wL.extBut _ _ D.vz v1⟩,i1.at λo e=>wL.extBut _ _ D.iz e,j1.at λo e=>wL.extBut _ _ D.jz e⟩,λb hb=>?_⟩
  have eO:=(hf b hb).1;have:b≠s.heap.objs.size:=by
   obtain⟨o,e,_⟩:∃o,s.heap.get? b=some o/\True:=by
    simp only[List.mem_cons,List.not_mem_nil,or_false]at hb;rcases hb with rfl|rfl|rfl|rfl|rfl
    ·exact⟨_,h1,trivial⟩
    ·exact⟨_,h2,trivial⟩
    ·exact⟨_,h3,trivial⟩
    ·obtain⟨o,e,_⟩:=h4.live;exact⟨o,e,trivial⟩
    ·obtain⟨o,e,_⟩:=h5.live;exact⟨o,e,trivial⟩
   exact Nat.ne_of_lt (Heap.lt_size e)
  rw[ak this];exact eO
 done:=by
  intro X hP hw hK hc n pins s σ H E I hf st hg;subst hP hw hK;obtain⟨h1,h2,⟨a,c,h3⟩,h4,h5⟩:=st;obtain⟨xs,ys,q1,q2,hl⟩:=hg;obtain⟨its,r1,p1,_⟩:=q1.is I;obtain⟨Vd,r2,p2,_⟩:=q2.is I;have n1:=r1.length;have n2:=r2.length;refine Bh (I.ok.hd hc) D lz mz h1 h2 h3 h4 h5 p1 p2 (hl.imp (λq=>by simp;omega) λq=>by simp;omega) λg k1=>⟨rfl,?_⟩
  refine va (t':=s.toks) (ch:=[z,V,i,j]) I (λb hb=>hf b ?_) λb o hb e=>?_
  ·simp only[List.mem_cons,List.not_mem_nil,or_false]at hb ⊢
   rcases hb with e|e|e|e<;>simp [e]
  ·simp only[List.mem_cons,List.not_mem_nil,or_false,not_or]at hb
   exact k1 b o hb.1 hb.2.1 hb.2.2.1 hb.2.2.2 e
 self:=λ_ _ _ _ _ st h=>wpAny_pyIter_zip st.1 h
theorem DL(n:Nat):Qt (n+4) (n+2) (n+3) n (n+1):=
  ⟨show(n+2:Nat)≠n+4 by omega,show(n+3:Nat)≠n+4 by omega,show(n:Nat)≠n+4 by omega,show(n+1:Nat)≠n+4 by omega,show(n+2:Nat)≠n+3 by omega,
   show(n+2:Nat)≠n by omega,show(n+2:Nat)≠n+1 by omega,show(n+3:Nat)≠n by omega,show(n+3:Nat)≠n+1 by omega,show(n:Nat)≠n+1 by omega⟩
theorem lZ{l n:Nat}(h:l<n):l≠n+4/\l≠n+3/\l≠n/\l≠n+1:=by omega
def S9(K:PySem.W.Frag)(ta:TA):TI:=λσ H R=>ta σ H λvs H1=>∃tp tq l m xs ys,vs=[.ref l,.ref m]/\Sq tp K H1 l xs/\Sq tq K H1 m ys/\R (Rh tp tq K l m) H1
theorem Jf{X:Cx}{elts:List Expr}{kk:Nat}{tpos:Pos}{a b:Expr}{ta:TA}{p pos:Pos}(hg:Gl X "zip")(hm:X.mg "zip"=none)(ha:PA X [a,b] ta)(hs:starEach [a,b] X.env=[(false,eval a X.env),(false,eval b X.env)])(wR:starEach [b] X.env=[(false,eval b X.env)]):
  PI X (.Tuple elts kk tpos) (.Call (.Name "zip" p) [a,b] [] pos) (S9 X.K ta):=by
 intro pins s σ H R I h;refine PyProof.Rows.Call_ (eZ I hg hm PyProof.Rows.boot_zip (PyProof.Rows.callWith_type1 (cq (ha pos pins s σ H _ I h) λus s1 ⟨vs,H1,I1,r1,q1⟩=>?_) (by rw[hs,wR]) (by rw[wR];rfl)))
 obtain⟨tp,tq,l,m,xs,ys,e,q1,q2,q⟩:=q1;subst e;obtain⟨u,v,rfl,ru,rv⟩:=vals2 r1;cases ru;cases rv;obtain⟨its,_,p1,ll⟩:=q1.is I1;obtain⟨Vd,_,p2,lm⟩:=q2.is I1;refine Bf p1 p2 λg z1 u1 v1 i1 j1 k1=>?_;refine wpAny_pyIter_zip z1 ?_;have N:∀n:Nat,s1.heap.objs.size<=s1.heap.objs.size+n:=λn=>Nat.le_add_right _ _;refine⟨s1.heap.objs.size+4,[s1.heap.objs.size+4,s1.heap.objs.size+2,s1.heap.objs.size+3,s1.heap.objs.size,s1.heap.objs.size+1],_,_,H1,rfl,I1.kept (t':=s1.toks) k1,
  A1 tp tq _ _ _ _ _ l m (DL _) (lZ ll) (lZ lm),⟨z1,u1,⟨_,_,v1⟩,i1,j1⟩,λb hb=>?_,q⟩
 have eO:s1.heap.objs.size<=b:=by
  simp only[List.mem_cons,List.not_mem_nil,or_false]at hb;rcases hb with rfl|rfl|rfl|rfl|rfl
  ·exact N 4
  ·exact N 2
  ·exact N 3
  ·exact N 0
  ·exact N 1
 exact I1.sf eO (I1.bI.fresh eO)
end Vc
namespace Vc
open PySem L2
variable [KF]
theorem pL{prog:Program}{w:World}{A:Around}(hh:A.handled=none)(tp:Bool)(j a:Addr)(ck:a≠j)(xs:Array Value):
  Draws prog w A j [j,a] xs.size (λi v=>xs[i]?=some v) (λi h=>jA tp h j a i/\rV tp h a xs) where
 live:=λ_ _ st=>let ⟨o,e,_⟩:=st.1.live;⟨o,e⟩
 frame:=λ_ _ _ st kp=>⟨st.1.at λo e=>kp j (by simp) o e,st.2.at λo e=>kp a (by simp) o e⟩
 item:=λi s Q E hi st q=>by
  refine draw st.1 st.2 (x:=xs[i]) (by simp [hi]) λg w1 e1=>?_
  exact q _ g s.toks (by simp [hi]) ⟨w1,st.2.at λo e=>e1.extBut _ _ ck e⟩ e1
 done:=λs Q E st q=>j7 hh st.1 st.2 (by simp) q
def KN(tp:Bool)(K:PySem.W.Frag)(a:Addr):It:=
 ⟨λn H=>∃xs x,Sq tp K H a xs/\xs[n]?=some x,λn H v H'=>∃p x,H p=none/\v=.ref p/\H'=upd H p (.tup [.int n,x])/\∀xs,Sq tp K H a xs->xs[n]?=some x,λn H=>∃xs,Sq tp K H a xs/\xs.length=n⟩
theorem mZ{P:Program}{w:World}{K:PySem.W.Frag}{elts:List Expr}{kk:Nat}{tpos:Pos}(tp:Bool)(e j a:Addr)(ej:e≠j)(ae:a≠e)(aj:a≠j):
  Turn P w K (.Tuple elts kk tpos) (KN tp K a) [e,j] e (λn h=>(∃old,IsEnum h e j n old)/\jA tp h j a n) where
 mem:=by simp
 obj:=λn h st b hb=>by
  obtain⟨⟨old,h1⟩,h2⟩:=st;simp only[List.mem_cons,List.not_mem_nil,or_false]at hb;rcases hb with rfl|rfl
  ·exact⟨_,h1,λv q=>by cases q⟩
  ·exact h2.live
 keep:=λn h h' st kp=>by
  obtain⟨⟨old,h1⟩,h2⟩:=st;exact⟨⟨old,kp e (by simp) _ h1⟩,h2.at λo q=>kp j (by simp) o q⟩
 item:=by
  intro X hP hw hK hc n pins s σ H E I hf st hg;subst hP hw hK;obtain⟨⟨old,h1⟩,h2⟩:=st;obtain⟨xs,x,q1,e1⟩:=hg;obtain⟨its,r1,p1,_⟩:=q1.is I;obtain⟨u,hu,ru⟩:=r1.get e1;have hn:n<its.toArray.size:=by
   have:=(List.getElem?_eq_some_iff.mp hu).1;simpa using this
  have Dr:=pL (prog:=X.prog) (w:=X.w) (A:=X.A.in1) (show X.A.in1.handled=none from I.ok.hd hc) tp j a aj its.toArray
  refine wpAny_pyNext_enum_itemD Dr h1 ⟨h2,p1⟩ hn ej (by simp only[List.mem_cons,List.not_mem_nil,or_false,not_or];exact⟨ej,ae.symm⟩) λx' g tk Va ho ay t1 s1 k1=>⟨_,rfl,?_⟩
  have WK:x'=u:=by
   have:its.toArray[n]?=some u:=by simpa using hu
   rw[this]at Va;exact(Option.some.inj Va).symm
  subst WK;refine wpAny_letOwnedTupleGo_enum ho λg' V0 GA=>?_;have kp:∀b o,b∉[e,j]->s.heap.get? b=some o->g'.get? b=some o:=λb o hb q=>by
   simp only[List.mem_cons,List.not_mem_nil,or_false,not_or]at hb;exact GA.extBut _ _ hb.1 (k1 b o hb.1 hb.2 q)
  have eT:s.heap.objs.size≠e:=Nat.ne_of_gt (Heap.lt_size h1);have t2:=GA.extBut _ _ eT t1;have I':=vb (t':=tk+1) (o:=.tup [.int n,x]) I hf kp (Nat.le_refl _) ⟨by show 2<=sizeLine;decide,[.int n tk,x'],.cons ⟨tk,rfl⟩ (.cons ru .nil),⟨_,t2,rfl,_,rfl⟩⟩
  have Sx:H s.heap.objs.size=none:=I.bI.fresh (Nat.le_refl _);refine⟨.ref s.heap.objs.size,upd H s.heap.objs.size (.tup [.int n,x]),I',rfl,⟨_,x,Sx,rfl,rfl,λzs hz=>by rw[hz.inj I q1];exact e1⟩,⟨⟨x',by simpa using V0⟩,ay.1.at λo q=>GA.extBut _ _ ej.symm q⟩,λb hb=>?_⟩
  have eO:=(hf b hb).1;have:b≠s.heap.objs.size:=by
   simp only[List.mem_cons,List.not_mem_nil,or_false]at hb;rcases hb with rfl|rfl
   ·exact eT.symm
   ·obtain⟨o,q,_⟩:=h2.live;exact Nat.ne_of_lt (Heap.lt_size q)
  rw[ak this];exact eO
 done:=by
  intro X hP hw hK hc n pins s σ H E I hf st hg;subst hP hw hK;obtain⟨⟨old,h1⟩,h2⟩:=st;obtain⟨xs,q1,hl⟩:=hg;obtain⟨its,r1,p1,_⟩:=q1.is I;have n1:=r1.length;have Dr:=pL (prog:=X.prog) (w:=X.w) (A:=X.A.in1) (show X.A.in1.handled=none from I.ok.hd hc) tp j a aj its.toArray
  have hn:its.toArray.size=n:=by rw[List.size_toArray,<- n1,hl]
  rw[hn]at Dr;refine wpAny_pyNext_enum_endD Dr h1 ⟨h2,p1⟩ λg x1=>⟨rfl,?_⟩;refine va (t':=s.toks) (ch:=[e,j]) I hf λb o hb q=>?_;simp only[List.mem_cons,List.not_mem_nil,or_false,not_or]at hb;exact x1 b o hb.2 q
 self:=λ_ _ _ _ _ st h=>by
  obtain⟨⟨old,h1⟩,_⟩:=st;exact wpAny_pyIter_enum h1 h
def Ny(K:PySem.W.Frag)(ta:TA):TI:=λσ H R=>ta σ H λvs H1=>∃a xs,vs=[.ref a]/\dP K H1 a xs/\R (KN false K a) H1
theorem CW{X:Cx}{elts:List Expr}{kk:Nat}{tpos:Pos}{a:Expr}{ta:TA}{p pos:Pos}(hg:Gl X "enumerate")(hm:X.mg "enumerate"=none)(hv:bootBuiltins "enumerate"=some (.type "enumerate"))(ha:PA X [a] ta)(hs:starEach [a] X.env=[(false,eval a X.env)]):
  PI X (.Tuple elts kk tpos) (.Call (.Name "enumerate" p) [a] [] pos) (Ny X.K ta):=by
 intro pins s σ H R I h;refine PyProof.Rows.Call_ (eZ I hg hm hv (PyProof.Rows.callWith_type1 (cq (ha pos pins s σ H _ I h) λus s1 ⟨vs,H1,I1,r1,q1⟩=>?_) hs rfl));obtain⟨l,xs,e,q1,q⟩:=q1;subst e;obtain⟨u,rfl,ru⟩:=vals1 r1;cases ru;obtain⟨its,_,p1,_⟩:=I1.list q1;have ll:l<s1.heap.objs.size:=p1.lt;refine call_enumerate_list p1.isList λg e1 i1 n1 k1=>?_;refine wpAny_pyIter_enum e1 ?_;refine⟨s1.heap.objs.size+1,[s1.heap.objs.size+1,s1.heap.objs.size],_,_,H1,rfl,I1.kept (t':=s1.toks) k1,
  mZ false _ _ l (show(s1.heap.objs.size+1:Nat)≠s1.heap.objs.size by omega) (Nat.ne_of_lt (Nat.lt_succ_of_lt ll)) (Nat.ne_of_lt ll),⟨⟨_,e1⟩,i1⟩,λb hb=>?_,q⟩
 have eO:s1.heap.objs.size<=b:=by
  simp only[List.mem_cons,List.not_mem_nil,or_false]at hb;rcases hb with rfl|rfl
  ·exact Nat.le_succ _
  ·exact Nat.le_refl _
 exact I1.sf eO (I1.bI.fresh eO)
variable {G:GE}{k:Nat}{S:Stat}
def Qe:D->Option (List D)
 | .lst xs=>some xs
 | .tup xs=>some xs
 | _=>none
def rL(xs ys:List D):List D:=(xs.zip ys).map λp=>.tup [p.1,p.2]
def jl(xs:List D):List D:=xs.mapIdx λi x=>.tup [.int i,x]
def Dv(t:d6):d6:=λσ Q=>t σ λds ax=>match ds with
 | [a,b]=>match Qe a,Qe b with
  | some xs,some ys=>Q (rL xs ys) ax
  | _,_=>False
 | _=>False
theorem Rep.sq{F:Hp}{v:V}{d:D}{xs:List D}(r:Rep F v d)(e:Qe d=some xs)(K:PySem.W.Frag):∃tp a vs,v=.ref a/\(∀H,aq F H->Sq tp K H a vs)/\aC F vs xs:=by
 cases d with
 | lst ys =>
  cases e;cases r with
  | lst h r=>exact⟨false,_,_,rfl,λH s=>(show dP K H _ _ from .inl (Rd.mono s h)),r⟩
 | tup ys =>
  cases e;cases r with
  | tup h r=>exact⟨true,_,_,rfl,λH s=>(show iD K H _ _ from .of (s _ _ h)),r⟩
 | _=>cases e
theorem Be{xs ys:List D}{i:Nat}{d:D}(h:(rL xs ys)[i]?=some d):∃x y,xs[i]?=some x/\ys[i]?=some y/\d=.tup [x,y]:=by
 unfold rL at h;rw[List.getElem?_map]at h;cases e:(xs.zip ys)[i]? with
 | none=>rw[e]at h;cases h
 | some p =>
  rw[e]at h;obtain⟨e1,e2⟩:=List.getElem?_zip_eq_some.mp e;exact⟨p.1,p.2,e1,e2,(Option.some.inj h).symm⟩
theorem Cp{K:PySem.W.Frag}{F:Hp}{tp tq:Bool}{l m:Addr}{vs us:List V}{xs ys:List D}(h1:∀H,aq F H->Sq tp K H l vs)(h2:∀H,aq F H->Sq tq K H m us)(r1:aC F vs xs)(r2:aC F us ys):gD F (Rh tp tq K l m) (rL xs ys):=λF1 H1 s1 s2 i=>by
 have a1:=h1 H1 (s1.trans s2);have a2:=h2 H1 (s1.trans s2);refine⟨λd e=>?_,λhl=>⟨vs,us,a1,a2,?_⟩⟩
 ·obtain⟨x,y,e1,e2,rfl⟩:=Be e
  obtain⟨v,w1,q1⟩:=r1.get e1;obtain⟨u,w2,q2⟩:=r2.get e2;refine⟨⟨vs,us,v,u,a1,a2,w1,w2⟩,λz H2 yl=>?_⟩;obtain⟨p,v',u',hp,rfl,rfl,f1,f2⟩:=yl;have wK:=f1 vs a1;have wL:=f2 us a2;rw[w1]at wK;cases wK;rw[w2]at wL;cases wL;have sm:=aH (o:=.tup [v,u]) (same_none s2 hp);exact⟨upd F1 p (.tup [v,u]),.inr ⟨p,_,hp,rfl,rfl⟩,.tup au (.cons ((q1.mono s1).mono sm) (.cons ((q2.mono s1).mono sm) .nil))⟩
 ·have:(rL xs ys).length=min xs.length ys.length:=by unfold rL;simp
  have n1:=r1.length;have n2:=r2.length;omega
theorem Er{elts:List Expr}{kk:Nat}{tpos:Pos}{a b:Expr}{t:d6}{p pos:Pos}(h:rQ G k S [a,b] t)(hm:G.mg "zip"=none)(hg:S.sc.lookup ("zip":Str)=some .globalImplicit:=by rfl)(hs:∀env,starEach [a,b] env=[(false,eval a env),(false,eval b env)]:=by intro _;rfl)(wR:∀env,starEach [b] env=[(false,eval b env)]:=by intro _;rfl):
  EI G k S (.Tuple elts kk tpos) (.Call (.Name "zip" p) [a,b] [] pos) (Dv t):=.mk λX Y ok=>kO (Jf (cA ok hg) (by rw[ok.mg];exact hm) (h X Y ok) (hs _) (wR _)) λσ H Q q=>by
 obtain⟨F,ai,Qd,R,q,K⟩:=q;refine⟨F,ai,_,R,q,λvs H1 F1 ds ax s1 R1 r1 q1=>?_⟩
 split at q1
 ·rename_i x y
  split at q1
  ·rename_i xs ys ex ey
   cases r1 with
   | cons rx r1 =>
    cases r1 with
    | cons ry r1 =>
     cases r1;obtain⟨tp,l,us,rfl,a1,b1⟩:=rx.sq ex X.K;obtain⟨tq,m,ws,rfl,a2,b2⟩:=ry.sq ey X.K;exact⟨tp,tq,l,m,us,ws,rfl,a1 H1 R1.fr,a2 H1 R1.fr,K H1 F1 ax _ _ s1 R1 (Cp a1 a2 b1 b2) q1⟩
  ·exact q1.elim
 ·exact q1.elim
theorem Cj{K:PySem.W.Frag}{F:Hp}{tp:Bool}{l:Addr}{vs:List V}{xs:List D}(h1:∀H,aq F H->Sq tp K H l vs)(r1:aC F vs xs):gD F (KN tp K l) (jl xs):=λF1 H1 s1 s2 i=>by
 have a1:=h1 H1 (s1.trans s2);refine⟨λd e=>?_,λhl=>⟨vs,a1,?_⟩⟩
 ·unfold jl at e
  rw[List.getElem?_mapIdx]at e;cases ex:xs[i]? with
  | none=>rw[ex]at e;cases e
  | some x =>
   rw[ex]at e;cases e;obtain⟨v,w1,q1⟩:=r1.get ex;refine⟨⟨vs,v,a1,w1⟩,λz H2 yl=>?_⟩;obtain⟨p,v',hp,rfl,rfl,f1⟩:=yl;have wK:=f1 vs a1;rw[w1]at wK;cases wK;have sm:=aH (o:=.tup [.int i,v]) (same_none s2 hp);exact⟨upd F1 p (.tup [.int i,v]),.inr ⟨p,_,hp,rfl,rfl⟩,.tup au (.cons (.int _) (.cons ((q1.mono s1).mono sm) .nil))⟩
 ·rw[r1.length,hl];unfold jl;simp
end Vc
namespace Vc
open PySem L2
variable [KF]
variable {G:GE}{k:Nat}{S:Stat}
def isInt:D->Bool
 | .int _=>true
 | _=>false
def ki:D->Int
 | .int i=>i
 | _=>0
theorem aC.ints{F:Hp}:∀ {vs:List V} {xs:List D},aC F vs xs->xs.all isInt=true->vs=(xs.map ki).map V.int
 | _,_,.nil,_=>rfl
 | _,_,.cons (d:=d) r t,h=>by
  rw[List.all_cons,Bool.and_eq_true]at h;cases d with
  | int i =>
   cases r;rw[aC.ints t h.2];rfl
  | _=>exact absurd h.1 (by simp [isInt])
theorem xv{X:Cx}(hc:X.calm=true):b9 X (.builtin "sum") (λxs H Q=>∃(a:Addr) (ns:List Int),xs=[.ref a]/\dP X.K H a (ns.map V.int)/\Q (.int ns.sum) H):=by
 intro pins s σ H xs us Q I r h;obtain⟨a,ns,rfl,hq,q⟩:=h;obtain⟨u,rfl,ru⟩:=vals1 r;cases ru;obtain⟨its,rv,p,_⟩:=I.list hq;obtain⟨m,F⟩:=I.fr;have hi:=L2.intsAre_of rv;obtain⟨ys,e⟩:=(hi.allInts).items;have pl:=p.isList;rw[e]at pl;refine sum_intListG (I.ok.hd hc) pl λg tk t' kp=>⟨.int ns.sum,H,I.kept kp,⟨t',?_⟩,q⟩;have e1:preSum (numAt ys) ys.size=(PySem.numsOf its.toArray.toList).sum:=by
  rw[e,nums_intItems,preSum_eq,List.take_of_length_le (by simp)]
 rw[e1,show its.toArray.toList=its from rfl,hi.numsOf]
def sumF:List D->(EV->Prop)->Prop
 | [.lst xs],Q=>xs.all isInt=true/\Q (.val (.int (xs.map ki).sum))
 | _,_=>False
theorem Eg(hh:S.jJ=false:=by rfl):wI G k S (.builtin "sum") sumF:=⟨λK xs H Q=>∃(a:Addr) (ns:List Int),xs=[V.ref a]/\dP K H a (ns.map V.int)/\Q (.int ns.sum) H,λ_ _ ok=>xv (ok.calm hh),λY F H ai σ vs ds Qd Q R r q g=>by
 unfold sumF at q
 split at q
 ·obtain⟨v,rfl,rv⟩:=r.one
  obtain⟨p,us,rfl,h1,h2⟩:=rv.lst;refine⟨p,_,rfl,?_,g.val R (.int _) q.2⟩;rw[<- h2.ints q.1];exact .inl h1
 ·exact q.elim⟩
def KA:D->Option String
 | .bB=>some "NoneType"
 | .bl _=>some "bool"
 | .int _=>some "int"
 | .str _=>some "str"
 | .lst _=>some "list"
 | .tup _=>some "tuple"
 | _=>none
def dG(T U:String):Bool:=T==U||(T=="bool"&&U=="int")
def dj(U:String):Prop:=∀K:PySem.W.Frag,PySem.W.kitOne K (.type "NoneType") (.type U)=some (dG "NoneType" U)/\PySem.W.kitOne K (.type "bool") (.type U)=some (dG "bool" U)/\PySem.W.kitOne K (.type "int") (.type U)=some (dG "int" U) /\
 PySem.W.kitOne K (.type "str") (.type U)=some (dG "str" U)/\PySem.W.kitOne K (.type "list") (.type U)=some (dG "list" U)/\PySem.W.kitOne K (.type "tuple") (.type U)=some (dG "tuple" U)
theorem Ct:dj "int":=λK=>⟨by rfl,by rfl,by rfl,by rfl,by rfl,by rfl⟩
theorem qw:dj "bool":=λK=>⟨by rfl,by rfl,by rfl,by rfl,by rfl,by rfl⟩
theorem qx:dj "list":=λK=>⟨by rfl,by rfl,by rfl,by rfl,by rfl,by rfl⟩
theorem kit_tuple:dj "tuple":=λK=>⟨by rfl,by rfl,by rfl,by rfl,by rfl,by rfl⟩
theorem dj.of{U:String}(h:dj U)(K:PySem.W.Frag){d:D}{T:String}(e:KA d=some T):PySem.W.kitOne K (.type T) (.type U)=some (dG T U):=by
 obtain⟨h1,h2,h3,h4,h5,h6⟩:=h K;cases d<;>cases e<;>assumption
theorem bP.ty{F H:Hp}{v:V}{d:D}{T:String}(r:bP F H v d)(s:aq F H)(K:PySem.W.Frag)(e:KA d=some T):gE K H v (.type T):=by
 cases d with
 | bB=>cases e;obtain rfl:=r.bB;exact .bB
 | bl b=>cases e;obtain rfl:=r.bl;exact .bl b
 | int i=>cases e;obtain rfl:=r.int;exact .int i
 | str x=>cases e;obtain rfl:=r.str;exact .str x
 | lst xs =>
  cases e;obtain⟨a,vs,rfl,h,_⟩:=r.lst;rcases h with h|⟨o,h⟩
  ·exact .lst h
  ·exact .mC h
 | tup xs=>cases e;obtain⟨a,vs,rfl,h,_⟩:=r.tup s;exact .tup h
 | dct _=>cases e
 | exc _=>cases e
 | gw _=>cases e
 | jC _=>cases e
 | kp _ _ _ _=>cases e
theorem Cr{X:Cx}{pins:List (Addr×Obj)}{σ:St}{H:Hp}{s:Shared}{x:V}{u:Value}{T:String}(I:L2.Inv X pins σ H s)(rx:RelV x u)(ty:gE X.K H x (.type T))(ck:T≠"dict"):
  ∃Rc:Heap->Prop,PySem.W.KitX X.K u (.type T) Rc/\Rc s.heap/\u≠.builtin "__main__.__loader__#opaque":=by
 cases ty with
 | bB=>cases(show u=Value.none from rx);exact⟨_,PySem.W.kitx_none,True.intro,λz=>nomatch z⟩
 | bl y=>cases(show u=Value.bool y from rx);exact⟨_,PySem.W.kitx_bool,True.intro,λz=>nomatch z⟩
 | int i=>obtain⟨t,q⟩:=(show∃t,u=Value.int i t from rx);cases q;exact⟨_,PySem.W.kitx_int,True.intro,λz=>nomatch z⟩
 | str y=>obtain⟨t,q⟩:=(show∃t,u=Value.str y t from rx);cases q;exact⟨_,PySem.W.kitx_str,True.intro,λz=>nomatch z⟩
 | GU y=>obtain⟨t,q⟩:=(show∃t,u=Value.float y t from rx);cases q;exact⟨_,PySem.W.kitx_float,True.intro,λz=>nomatch z⟩
 | @lst a xs ea =>
  cases(show u=Value.ref a from rx)
  obtain⟨_,_,n,_,h1⟩:=(show bF X.prog X.w H s.heap a (.lst xs)from I.bI a _ ea)
  exact⟨_,PySem.W.kitx_list,⟨_,h1,rfl⟩,λz=>nomatch z⟩
 | @mC a ob xs ea =>
  cases(show u=Value.ref a from rx)
  obtain⟨_,_,_,n,_,h1⟩:=(show bF X.prog X.w H s.heap a (.mC ob (.lst xs))from I.bI a _ ea)
  exact⟨_,PySem.W.kitx_list,⟨_,h1,rfl⟩,λz=>nomatch z⟩
 | @tup a xs ea =>
  cases(show u=Value.ref a from rx)
  obtain⟨_,_,_,p⟩:=(show bF X.prog X.w H s.heap a (.tup xs)from I.bI a _ ea)
  obtain⟨o,h1,h2,_⟩:=p;exact⟨_,PySem.W.kitx_tuple,⟨o,h1,h2⟩,λz=>nomatch z⟩
 | dK _=>exact absurd rfl ck
 | dT _=>exact absurd rfl ck
theorem KC{d:D}{T:String}(e:KA d=some T):T≠"dict":=by cases d<;>cases e<;>decide
def Ci(Us:List String)(d:D)(Q:Bool->Prop):Prop:=match KA d with
 | some T=>Q (Us.any (dG T))
 | none=>False
def lM(Us:List String)(t:TV):TB:=λσ Q=>t σ λx ax=>match d9 ax x with
 | some d=>Ci Us d λb=>Q b ax
 | none=>False
theorem kP{e:Expr}{t:TV}{u:Str}{U:String}{p p2 pos:Pos}(h:EO G k S e t)(kf:dj U)(hm:G.mg "isinstance"=none)(gj:G.mg u=none)(S4:bootBuiltins u=some (.type U))(Bq:u≠"__name__":=by decide)(hd2:(u==("__debug__":Str))=false:=by decide)
  (hg:S.sc.lookup ("isinstance":Str)=some .globalImplicit:=by rfl) (M7:S.sc.lookup u=some .globalImplicit:=by rfl)
  (he:∀env,starEach [e,.Name u p2] env=(false,eval e env)::starEach [.Name u p2] env:=by intro _;rfl):EO G k S (.Call (.Name "isinstance" p) [e,.Name u p2] [] pos) (bV (lM [U] t)):=.mk λX Y ok=>by
 have ha:PA X [e,.Name u p2] (d2 (lO Y t) (d2 (tC (.ty U)) lN)):=bC (h X Y ok) (bC (n6 (cA ok M7) (by rw[ok.mg];exact gj) S4 (show RelV (.ty U) (.type U)from rfl) Bq hd2) bS rfl) (he _)
 have hc:b9 X (.builtin "isinstance") (λvs H Q=>∃F x d T,vs=[x,.ty U]/\aq F H/\bP F H x d/\KA d=some T/\Q (.bl (dG T U)) H):=by
  intro pins s σ H xs us Q I r q;obtain⟨F,x,d,T,rfl,sm,rx,et,q⟩:=q;obtain⟨a,b,rfl,ra,rb⟩:=vals2 r;cases rb;exact vK I ra (rx.ty sm X.K et) (kf.of X.K et) λtk=>⟨.bl _,H,I.tok tk,rfl,q⟩
 refine aO (kM hc (cA ok hg) (by rw[ok.mg];exact hm) (by decide +kernel) ha ∅ ∅ (he _) rfl) λσ H Q q=>?_
 obtain⟨F,ai,Qd,R,q,K⟩:=q;refine⟨F,ai,_,R,q,λv1 H1 F1 x ax s1 R1 r1 q1=>?_⟩
 split at q1
 ·rename_i d ed
  unfold Ci at q1
  split at q1
  ·rename_i T eT
   refine⟨F1,v1,d,T,rfl,R1.fr,R1.d9 r1 ed,eT,?_⟩;have e1:([U].any (dG T))=dG T U:=by simp
   rw[e1]at q1;exact K _ H1 F1 (.val (.bl (dG T U))) ax s1 R1 (.bl _) q1
  ·exact q1.elim
 ·exact q1.elim
theorem Ae{e:Expr}{t:TV}{u w:Str}{U W:String}{p p2 p3 p4 pos:Pos}{kk:Nat}(h:EO G k S e t)(kf:dj U)(kg:dj W)(hm:G.mg "isinstance"=none)(gj:G.mg u=none)(SK:G.mg w=none)(S4:bootBuiltins u=some (.type U))(WD:bootBuiltins w=some (.type W))(Bq:u≠"__name__":=by decide)(hd2:(u==("__debug__":Str))=false:=by decide)(Nm:w≠"__name__":=by decide)(VZ:(w==("__debug__":Str))=false:=by decide)
  (hg:S.sc.lookup ("isinstance":Str)=some .globalImplicit:=by rfl) (M7:S.sc.lookup u=some .globalImplicit:=by rfl) (V2:S.sc.lookup w=some .globalImplicit:=by rfl)
  (he:∀env,starEach [e,.Tuple [.Name u p2,.Name w p3] kk p4] env=(false,eval e env)::starEach [.Tuple [.Name u p2,.Name w p3] kk p4] env:=by intro _;rfl):EO G k S (.Call (.Name "isinstance" p) [e,.Tuple [.Name u p2,.Name w p3] kk p4] [] pos) (bV (lM [U,W] t)):=.mk λX Y ok=>by
 have hT:PE X (.Tuple [.Name u p2,.Name w p3] kk p4) (Kh (d2 (tC (.ty U)) (d2 (tC (.ty W)) lN))):=zJ (bC (n6 (cA ok M7) (by rw[ok.mg];exact gj) S4 (show RelV (.ty U) (.type U)from rfl) Bq hd2) (bC (n6 (cA ok V2) (by rw[ok.mg];exact SK) WD (show RelV (.ty W) (.type W)from rfl) Nm VZ) bS rfl) rfl)
 have ha:PA X [e,.Tuple [.Name u p2,.Name w p3] kk p4] (d2 (lO Y t) (d2 (Kh (d2 (tC (.ty U)) (d2 (tC (.ty W)) lN))) lN)):=bC (h X Y ok) (bC hT bS rfl) (he _);have hc:b9 X (.builtin "isinstance") (λvs H Q=>∃F x d T c,vs=[x,.ref c]/\H c=some (.tup [.ty U,.ty W])/\aq F H/\bP F H x d/\KA d=some T/\Q (.bl (dG T U||dG T W)) H):=by
  intro pins s σ H xs us Q I r q;obtain⟨F,x,d,T,c,rfl,QB,sm,rx,et,q⟩:=q;obtain⟨a,b,rfl,ra,rb⟩:=vals2 r;cases rb;obtain⟨_,its,rv,o,ho,B8,n,hd⟩:=I.bI c _ QB;obtain⟨z1,z2,rfl,w1,w2⟩:=vals2 rv;cases w1;cases w2;obtain⟨oc,od,X9,CO⟩:=o;simp only at B8 hd;subst B8 hd;obtain⟨Rc,kx,He,nb⟩:=Cr I ra (rx.ty sm X.K et) (KC et);refine PySem.W.kia_tup (b:=dG T U||dG T W) kx I.pq He ho ?_ nb λtk=>⟨.bl _,H,I.tok tk,rfl,q⟩
  unfold PySem.W.kitAny;rw[kf.of X.K et];cases dG T U with
  | true=>rfl
  | false =>
   show PySem.W.kitAny X.K (.type T) [.type W]=_;unfold PySem.W.kitAny;rw[kg.of X.K et];cases dG T W with
   | true=>rfl
   | false=>rfl
 refine aO (kM hc (cA ok hg) (by rw[ok.mg];exact hm) (by decide +kernel) ha ∅ ∅ (he _) rfl) λσ H Q q=>?_
 obtain⟨F,ai,Qd,R,q,K⟩:=q;refine⟨F,ai,_,R,q,λv1 H1 F1 x ax s1 R1 r1 q1=>⟨by show 2<=sizeLine;decide,λc hc=>?_⟩⟩
 split at q1
 ·rename_i d ed
  unfold Ci at q1
  split at q1
  ·rename_i T eT
   have R2:=R1.dI (o:=.tup [.ty U,.ty W]) hc;refine⟨F1,v1,d,T,c,rfl,au,R2.fr,R2.d9 r1 ed,eT,?_⟩;have e1:([U,W].any (dG T))=(dG T U||dG T W):=by simp
   rw[e1]at q1;exact K _ _ F1 (.val (.bl _)) ax s1 R2 (.bl _) q1
  ·exact q1.elim
 ·exact q1.elim
end Vc
namespace Vc
open PySem L2
variable [KF]
variable {G:GE}{k:Nat}{S:Stat}
def n9:D->Bool
 | .bB=>true
 | .bl _=>true
 | .int _=>true
 | .str _=>true
 | _=>false
theorem Rep.plain{F F':Hp}{v:V}{d:D}(r:Rep F v d)(h:n9 d=true):Rep F' v d:=by
 cases r with
 | bB=>exact .bB
 | bl b=>exact .bl b
 | int i=>exact .int i
 | str x=>exact .str x
 | _=>cases h
theorem qf{F H:Hp}(s:aq F H){v:V}{d:D}(r:bP F H v d):∃F',aq F F'/\aq F' H/\Rep F' v d:=by
 cases d with
 | lst xs =>
  obtain⟨a,vs,rfl,h,r⟩:=r;have key:∀o,H a=some o->∃F',aq F F'/\aq F' H/\F' a=some o:=λo e=>by
   cases ef:F a with
   | none =>
    refine⟨upd F a o,aH ef,λb u q=>?_,au⟩
    by_cases hb:b=a
    ·subst hb;rw[au]at q;cases q;exact e
    ·rw[ak hb]at q;exact s b u q
   | some u =>
    have:=s a u ef;rw[e]at this;cases this;exact⟨F,aq.refl _,s,ef⟩
  rcases h with h|⟨o,h⟩
  ·obtain⟨F',s1,s2,e⟩:=key _ h
   exact⟨F',s1,s2,.lst (.inl e) (r.mono s1)⟩
  ·obtain⟨F',s1,s2,e⟩:=key _ h
   exact⟨F',s1,s2,.lst (.inr ⟨o,e⟩) (r.mono s1)⟩
 | jC kvs =>
  obtain⟨a,ks,rfl,h,r⟩:=r;obtain⟨F',s1,s2,e,_⟩:=cE s h;exact⟨F',s1,s2,.jC e (r.mono s1)⟩
 | kp w c e kvs =>
  obtain⟨a,dx,ad,ks,rfl,h1,h2,r⟩:=r;obtain⟨F1,s1,s2,e1,_⟩:=cE s h1;obtain⟨F2,s3,s4,e2,_⟩:=cE s2 h2;exact⟨F2,s1.trans s3,s4,.kp (s3 _ _ e1) e2 (r.mono (s1.trans s3))⟩
 | _=>exact⟨F,aq.refl _,s,r⟩
theorem bP.mono{F F' H:Hp}(s:aq F F'){v:V}{d:D}(r:bP F H v d):bP F' H v d:=by
 cases d with
 | lst xs =>
  obtain⟨a,vs,rfl,h,r⟩:=r;exact⟨a,vs,rfl,h,r.mono s⟩
 | jC kvs =>
  obtain⟨a,ks,e,h,r⟩:=r;exact⟨a,ks,e,h,r.mono s⟩
 | kp w c e kvs =>
  obtain⟨a,dx,ad,ks,e,h1,h2,r⟩:=r;exact⟨a,dx,ad,ks,e,h1,h2,r.mono s⟩
 | _=>exact Rep.mono s r
theorem j9{F H:Hp}(s:aq F H):∀ {vs:List V} {ds:List D},fV F H vs ds->∃F',aq F F'/\aq F' H/\aC F' vs ds
 | _,_,.nil=>⟨F,aq.refl _,s,.nil⟩
 | _,_,.cons h r=>by
  obtain⟨F1,s1,s2,q⟩:=j9 s r;obtain⟨F2,s3,s4,p⟩:=qf s2 (h.mono s1);exact⟨F2,s1.trans s3,s4,.cons p (q.mono s3)⟩
def T8(sp:cw)(t:lY):TX:=λσ Q=>t σ λxs ax=>match eg ax xs with
 | some ds=>Cl sp ds λb=>match b with
  | .sh d=>n9 d=true/\Q (.val d) ax
  | .own _=>False
  | .obj _=>False
 | none=>False
theorem C9{x:Str}{sp:cw}{e:Expr}{es:List Expr}{t:lY}{p pos:Pos}(h:dF G k x sp)(ha:wJ G k S (e::es) t)(hg:S.sc.lookup x=some .globalImplicit:=by rfl)(nN:(x==("__debug__":Str))=false:=by decide)
  (he:∀env,starEach (e::es) env=(false,eval e env)::starEach es env:=by exactλ_=>Vc.fJ rfl) (dQ:∀env,(backTo pos (starEach es env)).any (·.1)=false:=by intro _;rfl) (hh:S.jJ=false:=by rfl):EX G k S (.Call (.Name x p) (e::es) [] pos) (T8 sp t):=.mk λX Y ok=>by
 obtain⟨f,fd,ps,h1,h2,h3,h4⟩:=h;have GX:di X.prog X.w X.K X.mg X.base m8 k f fd ps (wt sp):=by rw[ok.P,ok.w,ok.K,ok.mg,ok.base];exact h1
 refine aO (jN (E:=E0) (dvs:=[]) (ds:=[]) GX (ok.room hh) (cA ok hg) (by rw[ok.mg];exact h2) (by rw[ok.K];exact h3) (by rw[ok.K];exact h4) .nil uA (ha X Y ok) nN (he _) (dQ _)) λσ H Q q=>?_
 obtain⟨F,ai,Qd,R,q,K⟩:=q;refine⟨F,ai,_,R,q,λvs H1 F1 xs ax s1 R1 r1 q1=>?_⟩;show wt sp (vs++[]) H1 Q E0;rw[List.append_nil]
 split at q1
 ·rename_i ds ed
  obtain⟨F2,s2,s3,r2⟩:=j9 R1.fr (R1.eg r1 ed);refine⟨F2,ds,_,⟨s3,R1.ob.tab.mono s2⟩,r2,q1,λv H' F' b w1 w2 w3 fr r3 q2=>?_⟩;cases b with
  | own ys=>exact q2.elim
  | obj o=>exact q2.elim
  | sh d =>
   have r3:Rep F' v d:=r3;have q2:n9 d=true/\Qd (.val d) ax:=q2;exact K v H' F1 (.val d) ax s1 (R1.call (aq.refl _) ((s2.trans w1).trans w2) w3 λc o z=>.inl z) (r3.plain q2.1) q2.2
 ·exact q1.elim
theorem yw{g:pd}{tb:cn}{De:fS}{items:List D}(I:Nat->Sd->Prop)
  (yW:∀i x σ (N:Sd->Prop),items[i]?=some x->I i σ->(∀bw,I (i+1) bw->N bw)->g x σ λax=>tb {nx:=N,rt:=De.rt,bk:=De.nx,ct:=N} ax)
  (yO:∀σ,I items.length σ->De.nx σ) {σ:Sd} (h0:I 0 σ):qa g tb De items σ:=by
 have key:∀(xs:List D) (i:Nat) (σ:Sd),items.drop i=xs->i<=items.length->I i σ->qa g tb De xs σ:=by
  intro xs
  induction xs with
  | nil =>
   intro i σ e l h;have:items.length<=i:=List.drop_eq_nil_iff.mp e;exact yO σ ((Nat.le_antisymm l this) ▸ h)
  | cons x r ih =>
   intro i σ e l h;have hx:items[i]?=some x:=by
    have:=congrArg (·[0]?) e
    simpa using this
   have hr:items.drop (i+1)=r:=by rw[<- List.drop_drop,e];rfl
   have hl:i<items.length:=(List.getElem?_eq_some_iff.mp hx).1;exact yW i x σ _ hx h λbw h'=>ih (i+1) bw hr hl h'
 exact key items 0 σ rfl (Nat.zero_le _) h0
theorem eV{α:Type}{g:pd}{tc:TB}{te:TD}{σ0:Sd}{Q:List D->Prop}(gi:α->D)(f:α->Option D)(l:List α)
  (h:∀a∈l,∀(A:D->Prop) (Bn:Prop),(match f a with|some d=>A d|none=>Bn)->g (gi a) σ0 λax=>tc ax λb bx=>if b=true then te bx λd eK=>nR σ0 eK/\A d else nR σ0 bx/\Bn)
  (hl:l.length<=sizeLine) (q:Q (l.filterMap f)):fW g tc te σ0 (l.map gi) [] Q:=by
 have key:∀(l:List α) (acc:List D),(∀a∈l,∀(A:D->Prop) (Bn:Prop),(match f a with|some d=>A d|none=>Bn)->g (gi a) σ0 λax=>tc ax λb bx=>if b=true then te bx λd eK=>nR σ0 eK/\A d else nR σ0 bx/\Bn) ->
   acc.length+l.length<=sizeLine->Q (acc++l.filterMap f)->fW g tc te σ0 (l.map gi) acc Q:=by
  intro l
  induction l with
  | nil=>intro acc _ _ q;simpa [fW]using q
  | cons a l ih =>
   intro acc h hl q;rw[List.length_cons]at hl;rw[List.map_cons];refine h a (List.mem_cons_self ..) (λd=>acc.length<sizeLine/\fW g tc te σ0 (l.map gi) (acc++[d]) Q) (fW g tc te σ0 (l.map gi) acc Q) ?_;have hr:=λy hy=>h y (List.mem_cons_of_mem _ hy);cases e:f a with
   | some d =>
    refine⟨by omega,ih _ hr (by rw[List.length_append,List.length_singleton];omega) ?_⟩
    rw[List.filterMap_cons_some e]at q
    rwa [List.append_assoc]
   | none =>
    refine ih acc hr ⋯ ?_
    rwa [List.filterMap_cons_none e]at q
 exact key l [] h (by simpa using hl) q
theorem cS{α:Type}{g:pd}{te:TD}{σ0:Sd}{Q:List D->Prop}(gi f:α->D)(l:List α)
  (h:∀a∈l,∀(A:D->Prop),A (f a)->g (gi a) σ0 λax=>te ax λd eK=>nR σ0 eK/\A d)
  (hl:l.length<=sizeLine) (q:Q (l.map f)):fW g fq te σ0 (l.map gi) [] Q:=
 eV gi (λx=>some (f x)) l (λx hx A Bn ha=>h x hx A ha) hl (by simpa using q)
theorem cm{α:Type}{g:pd}{tb:cn}{De:fS}(gi:α->D)(l:List α)(I:Nat->Sd->Prop)
  (yW:∀i a σ (N:Sd->Prop),l[i]?=some a->I i σ->(∀bw,I (i+1) bw->N bw)->g (gi a) σ λax=>tb {nx:=N,rt:=De.rt,bk:=De.nx,ct:=N} ax)
  (yO:∀σ,I l.length σ->De.nx σ) {σ:Sd} (h0:I 0 σ):qa g tb De (l.map gi) σ:=by
 refine yw I (λi x σ N hx hI hN=>?_) (λσ h=>yO σ (by rwa [List.length_map]at h)) h0
 rw[List.getElem?_map]at hx;cases e:l[i]? with
 | none=>rw[e]at hx;cases hx
 | some a=>rw[e]at hx;cases hx;exact yW i a σ N e hI hN
theorem cC(lo:Int)(n:Nat):lK lo n=(List.range n).map λi=>.int (lo+(i:Nat)):=rfl
theorem rM{α β:Type}(f:α->D)(g:β->D)(xs:List α)(ys:List β):rL (xs.map f) (ys.map g)=(xs.zip ys).map λp=>.tup [f p.1,g p.2]:=by
 unfold rL;rw[List.zip_map,List.map_map];rfl
theorem mw{α:Type}(f:α->D)(xs:List α):jl (xs.map f)=(xs.mapIdx λi x=>(i,x)).map λp=>.tup [.int (p.1:Nat),f p.2]:=by
 unfold jl;apply List.ext_getElem?;intro i;simp only[List.getElem?_mapIdx,List.getElem?_map];cases xs[i]?<;>rfl
theorem nq{α:Type}{xs:List α}{n:Nat}{d:α}(h:xs[n]?=some d):L2.jB xs (n:Int)=some d:=by
 have hn:=(List.getElem?_eq_some_iff.mp h).1;unfold L2.jB L2.vL;rw[if_pos (Int.natCast_nonneg n),if_pos ⋯]
 show xs[(n:Int).toNat]?=some d;rw[Int.toNat_natCast];exact h
theorem bf{xs:List D}{n:Nat}{i:Int}{d:D}{Q:D->Prop}(e:i=(n:Int))(h:xs[n]?=some d)(q:Q d):Bt (.lst xs) (.int i) Q:=by
 subst e;show(match L2.jB xs (n:Int)with|some d=>Q d|none=>False)
 rw[nq h];exact q
theorem mF{xs:List D}{n:Nat}{i:Int}{d:D}{Q:D->Prop}(e:i=(n:Int))(h:xs[n]?=some d)(q:Q d):Bt (.tup xs) (.int i) Q:=by
 subst e;show(match L2.jB xs (n:Int)with|some d=>Q d|none=>False)
 rw[nq h];exact q
theorem cf{xs:List D}{i:Int}{Q:D->Prop}(h0:0<=i)(h1:i<xs.length)(h:∀d∈xs,Q d):Bt (.lst xs) (.int i) Q:=by
 have hn:i.toNat<xs.length:=by omega
 exact bf (n:=i.toNat) ⋯ (List.getElem?_eq_getElem hn) (h _ (List.getElem_mem hn))
structure c9(G:GE)(x:Str)(st:Stmt)(ps:List Str)(f:Addr)(fd:FuncData):Prop where
 F:D0 G.K x x st f fd
 m:G.mg x=some (.ref f)
 b:Binds G.K fd ps []
theorem c9.fg{x:Str}{st:Stmt}{ps N:List Str}{f:Addr}{fd:FuncData}{t:cn}{sp:cw}(d:c9 G x st ps f fd)(hK:G.K=KF.K)(Sc:aP N ps (ah st))(ht:eL G k ⟨N,(ah st).names,[],false,false,false,λ_ _=>False⟩ (az st) t)
  (len:∀ds Q,sp ds Q->ds.length=ps.length) (body:∀ds Q,sp ds Q->t {nx:=λ_=>Q (.sh .bB),rt:=λb _=>Q b} (bj N.length ds)):dF G (k+1) x sp:=
 ⟨f,fd,ps,Ei hK d.F Sc ht len body,d.m,d.F.kp,d.b⟩
theorem aw{t u:cn}{De:fS}{σ:Sd}(h:∀N,N=u De->t {nx:=N,rt:=De.rt,bk:=De.bk,ct:=De.ct} σ):bW t u De σ:=h _ rfl
end Vc
namespace Vc
open PySem L2
variable [KF]
section
open AutoSeq1 (wpAny_loadPart')
theorem qF(l:Addr)(items:Array Value)(n:Nat)(dct:Option Addr)(sl:Array (Option Value)):
  Meets (Builtin.«enumerate.__new__» ⟨[.type "enumerate",.ref l],[]⟩) (λ_ R s=>s.heap.get? l=some {cls:=.type "tuple",dict:=dct,data:=.seq items n,slots:=sl} /\
   R (.ok (.ret (.ref (s.heap.push {cls:=.type "tuple_iterator",data:=.fields #[.ref l,.int 0 0]}).objs.size)))
    {s with heap:=(s.heap.push {cls:=.type "tuple_iterator",data:=.fields #[.ref l,.int 0 0]}).push {cls:=.type "enumerate",data:=.fields #[.none,.bool false,.ref s.heap.objs.size,rawInt 0,.none,.none]}}):=
 .of_wp λprog w A R s h=>by
  obtain⟨hp,g,d,tk,os⟩:=s;obtain⟨hl,h⟩:=h;have Wv:=sub_enumerate;have hL:Heap.IsTuple (Shared.heap ⟨hp,g,d,tk,os⟩) l items:=⟨_,hl,rfl,n,rfl⟩
  wp_walk using wpAny_loadPart' hl
  refine wpAny_stack_any λst=>wpAny_pure ?_
  split
  ·rename_i c _ _ _ _ _
   cases(c==Value.type "enumerate")
   ·wp_walk using wpAny_loadPart' hl,wpAny_pyIter_tuple hL
    exact⟨_,rfl,h⟩
   ·wp_walk using wpAny_loadPart' hl,wpAny_pyIter_tuple hL
    exact⟨_,rfl,h⟩
  ·wp_walk using wpAny_loadPart' hl,wpAny_pyIter_tuple hL
   exact⟨_,rfl,h⟩
theorem rX{prog:Program}{w:World}{A:Around}{E:Value->Shared->Prop}{s:Shared}{l:Addr}{items:Array Value}{Q:Value->Shared->Prop}(hL:s.heap.IsTuple l items)
  (h:∀h',IsEnum h' (s.heap.objs.size+1) s.heap.objs.size 0 .none->jA true h' s.heap.objs.size l 0->h'.objs.size=s.heap.objs.size+2 ->
   (∀b o,s.heap.get? b=some o->h'.get? b=some o)->Q (.ref (s.heap.objs.size+1)) {s with heap:=h'}):
  wpAny (model prog w) A (call (.type "enumerate") [.ref l]) Q E s:=by
 obtain⟨⟨c,dct,dt,sl⟩,hl,hc,n,hd⟩:=hL
 replace hc:c=.type "tuple":=hc
 replace hd:dt=.seq items n:=hd
 subst hc hd;refine callType_new F.called_enumerate ∅ (F.typeCall_enumerate_1 _) (F.newCall_enumerate_1 _) (λobj=>F.args_object_init_2 obj _) F.entry_enumerate_new
  (qF l items n dct sl) ⟨hl,?_⟩
 have hz:(s.heap.push {cls:=.type "tuple_iterator",data:=.fields #[.ref l,.int 0 0]}).objs.size=s.heap.objs.size+1:=Heap.size_push ..;show _/\_;rw[hz];have he:IsEnum ((s.heap.push {cls:=.type "tuple_iterator",data:=.fields #[.ref l,.int 0 0]}).push
   {cls:=.type "enumerate",data:=.fields #[.none,.bool false,.ref s.heap.objs.size,rawInt 0,.none,.none]}) (s.heap.objs.size+1) s.heap.objs.size 0 .none:=by
  have:=Heap.get?_push_size (s.heap.push {cls:=.type "tuple_iterator",data:=.fields #[.ref l,.int 0 0]})
   (o:={cls:=.type "enumerate",data:=.fields #[.none,.bool false,.ref s.heap.objs.size,rawInt 0,.none,.none]}) rfl
  rw[hz]at this;exact this
 refine⟨⟨_,he,rfl⟩,h _ he ⟨_,Heap.get?_push_of_some _ (Heap.get?_push_size _ rfl),rfl,rfl⟩ (by rw[Heap.size_push,hz]) λb o x=>Heap.get?_push_of_some _ (Heap.get?_push_of_some _ x)⟩
end
def Hg(K:PySem.W.Frag)(ta:TA):TI:=λσ H R=>ta σ H λvs H1=>∃tp a xs,vs=[.ref a]/\Sq tp K H1 a xs/\R (KN tp K a) H1
theorem zM{X:Cx}{elts:List Expr}{kk:Nat}{tpos:Pos}{a:Expr}{ta:TA}{p pos:Pos}(hg:Gl X "enumerate")(hm:X.mg "enumerate"=none)(hv:bootBuiltins "enumerate"=some (.type "enumerate"))(ha:PA X [a] ta)(hs:starEach [a] X.env=[(false,eval a X.env)]):
  PI X (.Tuple elts kk tpos) (.Call (.Name "enumerate" p) [a] [] pos) (Hg X.K ta):=by
 intro pins s σ H R I h;refine PyProof.Rows.Call_ (eZ I hg hm hv (PyProof.Rows.callWith_type1 (cq (ha pos pins s σ H _ I h) λus s1 ⟨vs,H1,I1,r1,q1⟩=>?_) hs rfl));obtain⟨tp,l,xs,e,q1,q⟩:=q1;subst e;obtain⟨u,rfl,ru⟩:=vals1 r1;cases ru;obtain⟨its,_,p1,ll⟩:=q1.is I1;have fin:∀h',IsEnum h' (s1.heap.objs.size+1) s1.heap.objs.size 0 .none->jA tp h' s1.heap.objs.size l 0->h'.objs.size=s1.heap.objs.size+2 ->
   (∀b o,s1.heap.get? b=some o->h'.get? b=some o)->wpAny (model X.prog X.w) X.A (pyIter (.ref (s1.heap.objs.size+1))) (Rk X pins σ (.Tuple elts kk tpos) R) X.xe {s1 with heap:=h'}:=λg e1 i1 n1 k1=>by
  refine wpAny_pyIter_enum e1 ?_;refine⟨s1.heap.objs.size+1,[s1.heap.objs.size+1,s1.heap.objs.size],_,_,H1,rfl,I1.kept (t':=s1.toks) k1,
   mZ tp _ _ l (show(s1.heap.objs.size+1:Nat)≠s1.heap.objs.size by omega) (Nat.ne_of_lt (Nat.lt_succ_of_lt ll)) (Nat.ne_of_lt ll),⟨⟨_,e1⟩,i1⟩,λb hb=>?_,q⟩
  have eO:s1.heap.objs.size<=b:=by
   simp only[List.mem_cons,List.not_mem_nil,or_false]at hb;rcases hb with rfl|rfl
   ·exact Nat.le_succ _
   ·exact Nat.le_refl _
  exact I1.sf eO (I1.bI.fresh eO)
 cases tp with
 | true=>exact rX p1 fin
 | false=>exact call_enumerate_list p1 fin
variable {G:GE}{k:Nat}{S:Stat}
def o1(t:d6):d6:=λσ Q=>t σ λds ax=>match ds with
 | [.lst xs]=>Q (jl xs) ax
 | [.tup xs]=>Q (jl xs) ax
 | _=>False
theorem uc{elts:List Expr}{kk:Nat}{tpos:Pos}{a:Expr}{t:d6}{p pos:Pos}(h:rQ G k S [a] t)(hm:G.mg "enumerate"=none)(hg:S.sc.lookup ("enumerate":Str)=some .globalImplicit:=by rfl)(hs:∀env,starEach [a] env=[(false,eval a env)]:=by intro _;rfl):
  EI G k S (.Tuple elts kk tpos) (.Call (.Name "enumerate" p) [a] [] pos) (o1 t):=.mk λX Y ok=>kO (zM (cA ok hg) (by rw[ok.mg];exact hm) (by decide +kernel) (h X Y ok) (hs _)) λσ H Q q=>by
 obtain⟨F,ai,Qd,R,q,K⟩:=q;refine⟨F,ai,_,R,q,λvs H1 F1 ds ax s1 R1 r1 q1=>?_⟩;have go:∀d xs,Qe d=some xs->aC F1 vs [d]->Qd (jl xs) ax->∃tp a us,vs=[.ref a]/\Sq tp X.K H1 a us/\Q (KN tp X.K a) H1:=λd xs ex r1 q1=>by
  cases r1 with
  | cons rx r1 =>
   cases r1;obtain⟨tp,l,us,rfl,a1,b1⟩:=rx.sq ex X.K;exact⟨tp,l,us,rfl,a1 H1 R1.fr,K H1 F1 ax _ _ s1 R1 (Cj a1 b1) q1⟩
 split at q1
 ·exact go _ _ rfl r1 q1
 ·exact go _ _ rfl r1 q1
 ·exact q1.elim
theorem xu{X:Cx}:b9 X (.type "range") (λxs H Q=>∃j:Int,xs=[.int j]/\∀l,H l=none->Q (.ref l) (upd H l (.JC 0 j))):=by
 intro pins s σ H xs us Q I r h;obtain⟨j,rfl,q⟩:=h;obtain⟨u,rfl,rx⟩:=vals1 r;obtain⟨t,rfl⟩:=rx;refine call_range_1 ?_;exact⟨.ref s.heap.objs.size,_,I.laid (t':=s.toks+1+1) (o:=.JC 0 j) (λb o e=>Heap.get?_push_of_some _ e) (Nat.le_refl _) ⟨_,_,_,Heap.get?_push_size _ rfl⟩,rfl,q _ I.fresh⟩
def oj(n:Nat):List V:=(List.range n).map λi=>.int (i:Nat)
theorem A6{n:Nat}{acc:Array Value}(h:ItemsOf (λi v=>∃t,v=.int (0+i*1) t) acc n):Vals (oj n) acc.toList:=by
 obtain⟨h1,h2⟩:=h;have:∀(xs:List V) (us:List Value),xs.length=us.length->(∀(i:Nat) v,us[i]?=some v->∃x,xs[i]?=some x/\RelV x v)->Vals xs us:=by
  intro xs
  induction xs with
  | nil=>intro us hl _;cases us with
   | nil=>exact .nil
   | cons _ _=>simp at hl
  | cons x xs ih=>intro us hl hr;cases us with
   | nil=>simp at hl
   | cons u us =>
    obtain⟨y,hy,ry⟩:=hr 0 u rfl;cases hy;exact .cons ry (ih us (by simpa using hl) λi v e=>hr (i+1) v e)
 refine this _ _ (by simp [oj,h1]) λi v e=>?_
 have hi:i<n:=by
  have:=(List.getElem?_eq_some_iff.mp e).1;simpa [h1]using this
 obtain⟨t,rfl⟩:=h2 i v (by simpa using e)
 refine⟨.int (i:Nat),by simp [oj,hi],⟨t,by simp⟩⟩
theorem lr{X:Cx}(hc:X.calm=true):b9 X (.type "list") (λxs H Q=>∃p j,xs=[.ref p]/\H p=some (.JC 0 j)/\-(2^62)<=j/\j<=2^24/\∀l,H l=none->Q (.ref l) (upd H l (.lst (oj j.toNat)))):=by
 intro pins s σ H xs us Q I r h;obtain⟨p,j,rfl,hp,h1,h2,q⟩:=h;obtain⟨u,rfl,rx⟩:=vals1 r;cases rx;obtain⟨t,u,v,e⟩:=I.bI p _ hp;refine call_list_range (n:=j.toNat) (I.ok.hd hc) (show IsRange s.heap p 0 j 1 t u v from e) (small_one ⋯ ⋯ ⋯ ⋯) (by rw[rangeSize_one];split<;>omega) ⋯ λh' tk Ru c' kp e' it=>?_
 have hz:(oj j.toNat).length<=sizeLine:=by simp [oj,sizeLine];omega
 exact⟨.ref s.heap.objs.size,_,I.laid (t':=tk) kp (Nat.le_refl _) (show bF X.prog X.w _ h' _ (.lst (oj j.toNat))from⟨hz,Ru.toList,c',A6 it,by simpa using e'⟩),rfl,q _ I.fresh⟩
def Ud(t:lY):TX:=λσ Q=>t σ λxs ax=>match eg ax xs with
 | some [.int j]=>(-(2^62)<=j/\j<=2^24)/\Q (.own (lK 0 j.toNat)) ax
 | _=>False
theorem Ah{F:Hp}(n:Nat):aC F (oj n) (lK 0 n):=by
 unfold oj lK
 induction (List.range n)with
 | nil=>exact .nil
 | cons a as ih=>exact .cons (by simpa using Rep.int _) ih
theorem Jy{a:Expr}{t:lY}{p p2 pos Js:Pos}(h:wJ G k S [a] t)(hm:G.mg "list"=none)(gj:G.mg "range"=none)(hg:S.sc.lookup ("list":Str)=some .globalImplicit:=by rfl)(M7:S.sc.lookup ("range":Str)=some .globalImplicit:=by rfl)
  (hs:∀env,starEach [a] env=[(false,eval a env)]:=by intro _;rfl) (wR:∀env,starEach [Expr.Call (.Name "range" p2) [a] [] Js] env=[(false,eval (Expr.Call (.Name "range" p2) [a] [] Js) env)]:=by intro _;rfl) (hh:S.jJ=false:=by rfl):
  EX G k S (.Call (.Name "list" p) [.Call (.Name "range" p2) [a] [] Js] [] pos) (Ud t):=.mk λX Y ok =>
 aO (fH (lr (ok.calm hh)) (cA ok hg) (by rw[ok.mg];exact hm) (by decide +kernel) (bC (fH xu (cA ok M7) (by rw[ok.mg];exact gj) (by decide +kernel) (h X Y ok) ∅ ∅ (hs _) (by rfl)) bS (wR _)) ∅ ∅ (wR _) (by rfl)) λσ H Q q=>by
  obtain⟨F,ai,Qd,R,q,K⟩:=q;refine⟨F,ai,_,R,q,λvs H1 F1 xs ax s1 R1 r1 q1=>?_⟩
  split at q1
  ·rename_i j e
   obtain⟨v,rfl,rv⟩:=(R1.eg r1 e).one;obtain rfl:=rv.int;refine⟨j,rfl,λl hl=>⟨l,j,rfl,au,q1.1.1,q1.1.2,?_⟩⟩;have R2:RS Y F1 ax σ (upd H1 l (.JC 0 j)):=R1.dI hl;have g:Goes Y F1 ax σ (λr=>Qd r ax) Q:=λv H' F' r s R' rr qq=>K v H' F' r ax (s1.trans s) R' rr qq;exact g.own R2 (Ah _) q1.2
  ·exact q1.elim
end Vc
namespace Vs
open PySem PyProof.Rows
def R(ρ:Keyed->Nat)(xs:Array Keyed)(i:Nat):Nat:=match xs[i]? with
 | some p=>ρ p
 | none=>0
theorem fC{ρ:Keyed->Nat}{xs ys:Array Keyed}{i j:Nat}(h:xs[i]?=ys[j]?):R ρ xs i=R ρ ys j:=by unfold R;rw[h]
theorem cJ{ρ:Keyed->Nat}{xs:Array Keyed}{i:Nat}{p:Keyed}(h:xs[i]?=some p):R ρ xs i=ρ p:=by unfold R;rw[h]
theorem pC{ρ:Keyed->Nat}{xs:Array Keyed}{src d:Nat}(hs:src<xs.size)(hd:d<=src)(k:Nat):
  R ρ (bubble xs src d) k=if k=src-d then R ρ xs src else if src-d<k/\k<=src then R ρ xs (k-1)else R ρ xs k:=by
 have e:=getElem?_bubble hs d hd k
 repeat' split
 all_goals (rename_i h1;first | (rename_i h2;first|rw[if_neg h2,if_pos h1]at e|rw[if_neg h2,if_neg h1]at e)|rw[if_pos h1]at e)
 all_goals exact fC e
theorem jV{ρ:Keyed->Nat}{xs:Array Keyed}{i j:Nat}(hj:j<=xs.size)(k:Nat):
  R ρ (mirror xs i j ((j-i)/2)) k=if i<=k/\k<j then R ρ xs (i+j-1-k)else R ρ xs k:=by
 have e:=getElem?_mirror_all (i:=i) hj k
 split
 ·rename_i h1;rw[if_pos h1]at e;exact fC e
 ·rename_i h1;rw[if_neg h1]at e;exact fC e
theorem cb{ρ:Keyed->Nat}{xs:Array Keyed}{i j:Nat}(hj:j<=xs.size)(heq:∀k,i<=k->k<j->R ρ xs k=R ρ xs (j-1))(k:Nat):
  R ρ (mirror xs i j ((j-i)/2)) k=R ρ xs k:=by
 rw[jV hj]
 split
 ·rw[heq _ ⋯ ⋯,heq k ⋯ ⋯]
 ·rfl
def eS(M:Model)(A:Around)(E:Value->Shared->Prop)(s:Shared)(ρ:Keyed->Nat)(kd:SortKind)(P:Keyed->Prop):Prop:=
 ∀(x y:Keyed) (st:SortSt) (Q:Option Bool->SortSt->Prop),P x->P y->kindOf st=kd->Q (some (decide (ρ x<ρ y))) st->wpS M A E s (lt' x y) Q st
structure SI(kd:SortKind)(a₀:Array Keyed)(st:SortSt):Prop where
 perm:(arrOf st).Perm a₀
 kind:kindOf st=kd
 failed:failedOf st=none
theorem SI.size{kd:SortKind}{a₀:Array Keyed}{st:SortSt}(h:SI kd a₀ st):(arrOf st).size=a₀.size:=h.perm.size_eq
theorem SI.setArr{kd:SortKind}{a₀:Array Keyed}{st:SortSt}(h:SI kd a₀ st){xs:Array Keyed}(hp:xs.Perm (arrOf st)):SI kd a₀ (setArr st xs):=⟨hp.trans h.perm,h.kind,h.failed⟩
theorem SI.at{kd:SortKind}{a₀:Array Keyed}{st:SortSt}(h:SI kd a₀ st){P:Keyed->Prop}(h0:∀p∈a₀.toList,P p){i:Nat}(hi:i<a₀.size):∃p,(arrOf st)[i]?=some p/\P p:=by
 have sk:i<(arrOf st).size:=by rw[h.size];exact hi
 exact⟨(arrOf st)[i],getElem?_pos _ i sk,h0 _ ((Array.perm_iff_toList_perm.mp h.perm).mem_iff.mp (by simp))⟩
structure Fw(kd:SortKind)(a₀:Array Keyed)(lo:Nat)(st ay:SortSt):Prop where
 si:SI kd a₀ ay
 same:∀k,k<lo->(arrOf ay)[k]?=(arrOf st)[k]?
 pend:pendingOf ay=pendingOf st
theorem Fw.refl{kd:SortKind}{a₀:Array Keyed}{lo:Nat}{st:SortSt}(h:SI kd a₀ st):Fw kd a₀ lo st st:=⟨h,λ_ _=>rfl,rfl⟩
theorem Fw.mirror{kd:SortKind}{a₀:Array Keyed}{lo i j:Nat}{st ay:SortSt}(h:Fw kd a₀ lo st ay)(hi:lo<=i)(hj:j<=a₀.size):Fw kd a₀ lo st (setArr ay (mirror (arrOf ay) i j ((j-i)/2))):=
 ⟨h.si.setArr (mirror_perm _ _ _ _),λk hk=>by
  show(PyProof.Rows.mirror (arrOf ay) i j ((j-i)/2))[k]?=_;rw[getElem?_mirror_all (by rw[h.si.size];exact hj),if_neg ⋯];exact h.same k hk,h.pend⟩
theorem Fw.bubble{kd:SortKind}{a₀:Array Keyed}{lo src d:Nat}{st ay:SortSt}(h:Fw kd a₀ lo st ay)(hs:src<a₀.size)(hd:lo<=src-d)(hd2:d<=src):Fw kd a₀ lo st (setArr ay (bubble (arrOf ay) src d)):=
 ⟨h.si.setArr (bubble_perm _ _ _),λk hk=>by
  show(PyProof.Rows.bubble (arrOf ay) src d)[k]?=_;rw[getElem?_bubble (by rw[h.si.size];exact hs) d hd2,if_neg ⋯,if_neg ⋯];exact h.same k hk,h.pend⟩
section
variable {M:Model}{A:Around}{E:Value->Shared->Prop}{s:Shared}{ρ:Keyed->Nat}{kd:SortKind}{P:Keyed->Prop}{a₀:Array Keyed}
theorem aU{arr:Array Keyed}{i:Nat}{p:Keyed}{st:SortSt}{Q:Keyed->SortSt->Prop}(h:arr[i]?=some p)(q:Q p st):wpS M A E s (elem' arr i) Q st:=by
 rw[elem'_eq,h];exact wpS_pure q
theorem wpS_ltAt{st:SortSt}{i j:Nat}{Q:Option Bool->SortSt->Prop}(hL:eS M A E s ρ kd P)(h0:∀p∈a₀.toList,P p)(hB:SI kd a₀ st)(hi:i<a₀.size)(hj:j<a₀.size)
  (h:Q (some (decide (R ρ (arrOf st) i<R ρ (arrOf st) j))) st):wpS M A E s (ltAt' i j) Q st:=by
 obtain⟨p,e1,p1⟩:=hB.at h0 hi;obtain⟨q,e2,p2⟩:=hB.at h0 hj;rw[cJ e1,cJ e2]at h;rw[ltAt'_eq];refine wpS_bind (wpS_get ?_);show wpS _ _ _ _ (do let x <- elem' (arrOf st) i;let y <- elem' (arrOf st) j;lt' x y) Q st
 exact wpS_bind (aU e1 (wpS_bind (aU e2 (hL p q st Q p1 p2 hB.kind h))))
theorem wpS_reverse{st:SortSt}{i j:Nat}{Q:Unit->SortSt->Prop}(h:Q () (setArr st (mirror (arrOf st) i j ((j-i)/2)))):wpS M A E s (reverseSlice' i j) Q st:=by
 rw[reverseSlice'_eq];exact wpS_modify h
def Seg(ρ:Keyed->Nat)(xs:Array Keyed)(lo hi:Nat):Prop:=∀i j,lo<=i->i<=j->j<hi->R ρ xs i<=R ρ xs j
def Neg(ρ:Keyed->Nat)(xs:Array Keyed)(lo hi:Nat):Prop:=∀i j,lo<=i->i<=j->j<hi->R ρ xs j<=R ρ xs i
theorem Seg.one{xs:Array Keyed}{lo:Nat}:Seg ρ xs lo (lo+1):=λi j h1 h2 h3=>by
 have:i=j:=by omega
 subst this;exact Nat.le_refl _
theorem Seg.snoc{xs:Array Keyed}{lo hi:Nat}(h:Seg ρ xs lo hi)(hl:lo<hi)(hr:R ρ xs (hi-1)<=R ρ xs hi):Seg ρ xs lo (hi+1):=λi j h1 h2 h3=>by
 by_cases hj:j<hi
 ·exact h i j h1 h2 hj
 ·have:j=hi:=by omega
  subst this
  by_cases sk:i=j
  ·subst sk;exact Nat.le_refl _
  ·exact Nat.le_trans (h i (j-1) h1 ⋯ ⋯) hr
theorem Neg.snoc{xs:Array Keyed}{lo hi:Nat}(h:Neg ρ xs lo hi)(hl:lo<hi)(hr:R ρ xs hi<=R ρ xs (hi-1)):Neg ρ xs lo (hi+1):=λi j h1 h2 h3=>by
 by_cases hj:j<hi
 ·exact h i j h1 h2 hj
 ·have:j=hi:=by omega
  subst this
  by_cases sk:i=j
  ·subst sk;exact Nat.le_refl _
  ·exact Nat.le_trans hr (h i (j-1) h1 ⋯ ⋯)
def xo(lo a bH:Nat):StateT SortSt Sem (Option (Option Nat)×Nat):=
 forIn [a:bH] ((none,a):Option (Option Nat)×Nat) λ_ dq=>do
  let Ft <- ltAt' (lo+dq.snd) (lo+dq.snd-1)
  match Ft with
  | some oG=>if oG=true then pure (ForInStep.done (none,dq.snd))else pure (ForInStep.yield (none,dq.snd+1))
  | _=>pure (ForInStep.done (some none,dq.snd))
theorem rA{st:SortSt}{lo a bH:Nat}{Q:Option (Option Nat)×Nat->SortSt->Prop}(hL:eS M A E s ρ kd P)(h0:∀p∈a₀.toList,P p)(hn:lo+bH<=a₀.size)(ha:1<=a)(KU:a<=bH)(hB:SI kd a₀ st)
  (hs:Seg ρ (arrOf st) lo (lo+a))
  (h:∀n,a<=n->n<=bH->Seg ρ (arrOf st) lo (lo+n)->(n=bH\/R ρ (arrOf st) (lo+n)<R ρ (arrOf st) (lo+n-1))->Q (none,n) st):wpS M A E s (xo lo a bH) Q st:=by
 unfold xo;refine wpS_forRange (I:=λx c ay=>ay=st/\c=(none,x)/\Seg ρ (arrOf st) lo (lo+x)) ?step ?fin ⟨rfl,rfl,hs⟩
 case fin =>
  rintro c ay ⟨rfl,rfl,iH⟩;rw[show max a bH=bH by omega]at iH ⊢
  exact h bH KU (Nat.le_refl _) iH (.inl rfl)
 case step =>
  rintro x c ay Sh WH ⟨rfl,rfl,iH⟩;dsimp only;refine wpS_bind (wpS_ltAt hL h0 hB ⋯ ⋯ ?_)
  by_cases hl:R ρ (arrOf ay) (lo+x)<R ρ (arrOf ay) (lo+x-1)
  ·simp only[hl,decide_true,if_true]
   exact wpS_pure (h x Sh ⋯ iH (.inr hl))
  ·simp only[hl,decide_false,Bool.false_eq_true,if_false]
   refine wpS_pure ⟨rfl,rfl,?_⟩;exact iH.snoc ⋯ ⋯
def rg(lo n bH:Nat):StateT SortSt Sem (Option Nat):=do
 reverseSlice' lo (lo+n)
 let dq <- xo lo n bH
 match dq.fst with
 | some r=>pure r
 | none=>pure (some dq.snd)
theorem m7{st bT:SortSt}{lo n bH:Nat}{Q:Option Nat->SortSt->Prop}(hL:eS M A E s ρ kd P)(h0:∀p∈a₀.toList,P p)(hn:lo+bH<=a₀.size)(h1:1<=n)(wQ:n<=bH)(hB:Fw kd a₀ lo bT st)
  (hs:Neg ρ (arrOf st) lo (lo+n)) (h:∀m ay,Fw kd a₀ lo bT ay->1<=m->m<=bH->Seg ρ (arrOf ay) lo (lo+m)->Q (some m) ay):wpS M A E s (rg lo n bH) Q st:=by
 unfold rg;have hsz:lo+n<=(arrOf st).size:=by rw[hB.si.size];omega
 refine wpS_bind (wpS_reverse ?_);have gh:=hB.mirror (i:=lo) (j:=lo+n) (Nat.le_refl _) ⋯
 refine wpS_bind (rA hL h0 hn h1 wQ gh.si ?_ λm Wi gj Wu _=>wpS_pure (h m _ gh ⋯ gj Wu))
 intro i j hi ly hj;show R ρ (mirror (arrOf st) lo (lo+n) ((lo+n-lo)/2)) i<=R ρ (mirror (arrOf st) lo (lo+n) ((lo+n-lo)/2)) j;rw[jV hsz,jV hsz,if_pos ⋯,if_pos ⋯]
 exact hs _ _ ⋯ ⋯ ⋯
def tR(lo n bH:Nat):StateT SortSt Sem (Option (Option Nat)×Nat×Nat):=
 forIn [n:bH] ((none,n,0):Option (Option Nat)×Nat×Nat) λ_ dq=>do
  let Ft <- ltAt' (lo+dq.snd.fst) (lo+dq.snd.fst-1)
  match Ft with
  | some oG =>
   if oG=true then
    if dq.snd.snd>0 then do
     reverseSlice' (lo+dq.snd.fst-(dq.snd.snd+1)) (lo+dq.snd.fst)
     pure (ForInStep.yield (none,dq.snd.fst+1,0))
    else pure (ForInStep.yield (none,dq.snd.fst+1,0))
   else do
    let Ft <- ltAt' (lo+dq.snd.fst-1) (lo+dq.snd.fst)
    match Ft with
    | some HH =>
     if HH=true then pure (ForInStep.done (none,dq.snd.fst,dq.snd.snd))
     else pure (ForInStep.yield (none,dq.snd.fst+1,dq.snd.snd+1))
    | _=>pure (ForInStep.done (some none,dq.snd.fst,dq.snd.snd))
  | _=>pure (ForInStep.done (some none,dq.snd.fst,dq.snd.snd))
theorem wF{st bT:SortSt}{lo n bH:Nat}{Q:Option (Option Nat)×Nat×Nat->SortSt->Prop}(hL:eS M A E s ρ kd P)(h0:∀p∈a₀.toList,P p)(hn:lo+bH<=a₀.size)(h1:1<=n)(wQ:n<=bH)(hB:Fw kd a₀ lo bT st)
  (hs:Neg ρ (arrOf st) lo (lo+n))
  (h:∀m sD ay,Fw kd a₀ lo bT ay->n<=m->m<=bH->Neg ρ (arrOf ay) lo (lo+m)->sD+1<=m->(∀i,lo+m-(sD+1)<=i->i<lo+m->R ρ (arrOf ay) i=R ρ (arrOf ay) (lo+m-1))->Q (none,m,sD) ay):
  wpS M A E s (tR lo n bH) Q st:=by
 unfold tR;refine wpS_forRange (I:=λx c ay=>∃sD,c=(none,x,sD)/\Fw kd a₀ lo bT ay/\Neg ρ (arrOf ay) lo (lo+x)/\sD+1<=x /\
   (∀i,lo+x-(sD+1)<=i->i<lo+x->R ρ (arrOf ay) i=R ρ (arrOf ay) (lo+x-1))) ?step ?fin ⟨0,rfl,hB,hs,by omega,λi h1 h2=>by congr 1;omega⟩
 case fin =>
  rintro c ay ⟨sD,rfl,gh,iH,hq,he⟩;rw[show max n bH=bH by omega]at iH hq he ⊢
  exact h bH sD ay gh wQ (Nat.le_refl _) iH hq he
 case step =>
  rintro x c ay Sh WH ⟨sD,rfl,gh,iH,hq,he⟩;dsimp only;have hsz:lo+x<=(arrOf ay).size:=by rw[gh.si.size];omega
  refine wpS_bind (wpS_ltAt hL h0 gh.si ⋯ ⋯ ?_)
  by_cases hl:R ρ (arrOf ay) (lo+x)<R ρ (arrOf ay) (lo+x-1)
  ·simp only[hl,decide_true,if_true]
   have EY:∀xs:Array Keyed,(∀k,R ρ xs k=R ρ (arrOf ay) k)->Neg ρ xs lo (lo+(x+1)):=λxs hk=>by
    have:=iH.snoc ⋯ (Nat.le_of_lt hl)
    intro i j h1 h2 h3;rw[hk,hk];exact this i j h1 h2 h3
   by_cases yU:sD>0
   ·rw[if_pos yU]
    refine wpS_bind (wpS_reverse (wpS_pure ⟨0,rfl,gh.mirror ⋯ ⋯,EY _ (cb hsz he),by omega,λi h1 h2=>by congr 1;omega⟩))
   ·rw[if_neg yU]
    exact wpS_pure ⟨0,rfl,gh,EY _ (λ_=>rfl),by omega,λi h1 h2=>by congr 1;omega⟩
  ·simp only[hl,decide_false,Bool.false_eq_true,if_false]
   refine wpS_bind (wpS_ltAt hL h0 gh.si ⋯ ⋯ ?_)
   by_cases hg:R ρ (arrOf ay) (lo+x-1)<R ρ (arrOf ay) (lo+x)
   ·simp only[hg,decide_true,if_true]
    exact wpS_pure (h x sD ay gh Sh ⋯ iH hq he)
   ·simp only[hg,decide_false,Bool.false_eq_true,if_false]
    have heq:R ρ (arrOf ay) (lo+x)=R ρ (arrOf ay) (lo+x-1):=by omega
    refine wpS_pure ⟨sD+1,rfl,gh,iH.snoc ⋯ ⋯,by omega,λi h1 h2=>?_⟩
    rw[show lo+(x+1)-1=lo+x by omega]
    by_cases V8:i=lo+x
    ·rw[V8]
    ·rw[heq];exact he i ⋯ ⋯
def pK(lo n bH:Nat):StateT SortSt Sem (Option Nat):=do
 liftM (rule "list.sort.descending-run")
 let dq <- tR lo (n+1) bH
 match dq.fst with
 | some r=>pure r
 | none =>
  if dq.snd.snd>0 then do
   reverseSlice' (lo+dq.snd.fst-(dq.snd.snd+1)) (lo+dq.snd.fst)
   rg lo dq.snd.fst bH
  else rg lo dq.snd.fst bH
theorem m6{st bT:SortSt}{lo n bH:Nat}{Q:Option Nat->SortSt->Prop}(hL:eS M A E s ρ kd P)(h0:∀p∈a₀.toList,P p)(hn:lo+bH<=a₀.size)(wQ:n+1<=bH)(hB:Fw kd a₀ lo bT st)
  (hs:Neg ρ (arrOf st) lo (lo+(n+1))) (h:∀m ay,Fw kd a₀ lo bT ay->1<=m->m<=bH->Seg ρ (arrOf ay) lo (lo+m)->Q (some m) ay):wpS M A E s (pK lo n bH) Q st:=by
 unfold pK;refine wpS_bind (wpS_lift (wpAny_rule ⟨rfl,?_⟩));refine wpS_bind (wF hL h0 hn ⋯ wQ hB hs λm sD ay gh Wi gj iH hq he=>?_)
 dsimp only;have hsz:lo+m<=(arrOf ay).size:=by rw[gh.si.size];omega
 by_cases yU:sD>0
 ·rw[if_pos yU]
  refine wpS_bind (wpS_reverse (m7 hL h0 hn ⋯ gj (gh.mirror ⋯ ⋯) ?_ h))
  intro i j h1 h2 h3;show R ρ (mirror (arrOf ay) _ _ _) j<=R ρ (mirror (arrOf ay) _ _ _) i;rw[cb hsz he,cb hsz he];exact iH i j h1 h2 h3
 ·rw[if_neg yU]
  exact m7 hL h0 hn ⋯ gj gh iH h
local macro_rules|`(tactic| walk_at "s_tail")=>`(tactic| (funext s3;obtain⟨r3,n3⟩:=s3;cases r3<;>rfl))
local macro_rules|`(tactic| walk_at "s_t3")=>`(tactic| (congr 1;funext _w;congr 1;walk_at "s_tail"))
local macro_rules|`(tactic| walk_at "s_desc")=>`(tactic| (congr 1;funext _u;congr 1;congr 1;funext s2;obtain⟨r2,n2,q2⟩:=s2;cases r2 with
  | some r2=>rfl
  | none=>(dsimp only;split;(congr 1;funext _v;walk_at "s_t3");walk_at "s_t3")))
theorem nB(lo bH:Nat):countRun' lo bH=(do
  let dq <- xo lo 1 bH
  match dq.fst with
  | some r=>pure r
  | none =>
   if(dq.snd==bH)=true then pure (some dq.snd)
   else if dq.snd>1 then do
    let Ft <- ltAt' lo (lo+dq.snd-1)
    match Ft with
    | some TU=>if TU=true then pure (some dq.snd)else do
      reverseSlice' lo (lo+dq.snd)
      pK lo dq.snd bH
    | _=>pure none
   else pK lo dq.snd bH):=by
 rw[countRun'_eq];dsimp only;unfold pK rg tR xo;congr 1;funext dq;obtain⟨r,n⟩:=dq;cases r with
 | some r=>rfl
 | none =>
  dsimp only
  split
  ·rfl
  ·split
   ·congr 1
    funext x;cases x with
    | none=>rfl
    | some b =>
     dsimp only
     split
     ·rfl
     ·congr 1
      funext _z;walk_at "s_desc"
   ·walk_at "s_desc"
end
end Vs
namespace Vs
open PySem PyProof.Rows
section
variable {M:Model}{A:Around}{E:Value->Shared->Prop}{s:Shared}{ρ:Keyed->Nat}{kd:SortKind}{P:Keyed->Prop}{a₀:Array Keyed}
theorem wpS_countRun{st:SortSt}{lo bH:Nat}{Q:Option Nat->SortSt->Prop}(hL:eS M A E s ρ kd P)(h0:∀p∈a₀.toList,P p)(hn:lo+bH<=a₀.size)(h1:1<=bH)(hB:SI kd a₀ st)
  (h:∀m ay,Fw kd a₀ lo st ay->1<=m->m<=bH->Seg ρ (arrOf ay) lo (lo+m)->Q (some m) ay):wpS M A E s (countRun' lo bH) Q st:=by
 rw[nB];refine wpS_bind (rA hL h0 hn (Nat.le_refl 1) h1 hB Seg.one λn En Bq Eo Wl=>?_);dsimp only
 by_cases wQ:n=bH
 ·rw[if_pos (by simpa using wQ)]
  exact wpS_pure (h n st (.refl hB) En Bq Eo)
 ·rw[if_neg (by simpa using wQ)]
  have iG:=Wl.resolve_left wQ
  by_cases UM:n>1
  ·rw[if_pos UM]
   refine wpS_bind (wpS_ltAt hL h0 hB ⋯ ⋯ ?_)
   by_cases hr:R ρ (arrOf st) lo<R ρ (arrOf st) (lo+n-1)
   ·simp only[hr,decide_true,if_true]
    exact wpS_pure (h n st (.refl hB) En Bq Eo)
   ·simp only[hr,decide_false,Bool.false_eq_true,if_false]
    have hsz:lo+n<=(arrOf st).size:=by rw[hB.size];omega
    have lx:∀k,lo<=k->k<lo+n->R ρ (arrOf st) k=R ρ (arrOf st) (lo+n-1):=λk nP UW=>by
     have a1:=Eo lo k (Nat.le_refl _) nP UW;have a2:=Eo k (lo+n-1) nP ⋯ ⋯
     omega
    refine wpS_bind (wpS_reverse (m6 hL h0 hn ⋯ ((Fw.refl hB).mirror (Nat.le_refl _) ⋯) ?_ h))
    intro i j hi ly hj;show R ρ (mirror (arrOf st) _ _ _) j<=R ρ (mirror (arrOf st) _ _ _) i;rw[cb hsz lx,cb hsz lx]
    by_cases Wa:j<lo+n
    ·rw[lx i hi ⋯,lx j ⋯ Wa];exact Nat.le_refl _
    ·have yS:j=lo+n:=by omega
     subst yS
     by_cases sk:i=lo+n
     ·subst sk;exact Nat.le_refl _
     ·rw[lx i hi ⋯];exact Nat.le_of_lt iG
  ·rw[if_neg UM]
   have Hc:n=1:=by omega
   subst Hc;refine m6 hL h0 hn ⋯ (.refl hB) ?_ h
   intro i j hi ly hj
   by_cases sk:i=j
   ·subst sk;exact Nat.le_refl _
   ·have V5:i=lo:=by omega
    have V9:j=lo+1:=by omega
    subst V5;subst V9;exact Nat.le_of_lt iG
theorem wpS_binarySort{st:SortSt}{lo n ok:Nat}{Q:Bool->SortSt->Prop}(hL:eS M A E s ρ kd P)(h0:∀p∈a₀.toList,P p)(hn:lo+n<=a₀.size)(bI:ok<=n)(hB:SI kd a₀ st)(hs:Seg ρ (arrOf st) lo (lo+ok))
  (h:∀ay,Fw kd a₀ lo st ay->Seg ρ (arrOf ay) lo (lo+n)->Q true ay):wpS M A E s (binarySort' lo n ok) Q st:=by
 rw[binarySort'_eq];refine wpS_bind (wpS_mono (wpS_forRange (I:=λk c ay=>c=(none,())/\Fw kd a₀ lo st ay/\Seg ρ (arrOf ay) lo (lo+min k n))
  (Q:=λc ay=>c=(none,())/\Fw kd a₀ lo st ay/\Seg ρ (arrOf ay) lo (lo+n)) ?step ?fin ?init) ?post)
 case post =>
  rintro c ay ⟨rfl,gh,iH⟩;exact wpS_pure (h ay gh iH)
 case init =>
  refine⟨rfl,.refl hB,λi j hi ly hj=>?_⟩
  by_cases h1:ok=0
  ·have:i=j:=by omega
   subst this;exact Nat.le_refl _
  ·exact hs i j hi ly ⋯
 case fin =>
  rintro c ay ⟨hc,gh,iH⟩;refine⟨hc,gh,?_⟩
  rwa [show min (max (max ok 1) n) n=n by omega]at iH
 case step =>
  rintro k c ay XQ UX ⟨rfl,gh,iH⟩;rw[show min k n=k by omega]at iH
  have hk:lo+k<a₀.size:=by omega
  refine wpS_bind (wpS_mono (wpS_forRange (I:=λx c cM=>cM=ay/\∃l r,c=(none,l,r)/\l<=r/\r<=k/\r-l<=k-x /\
    (∀i,i<l->R ρ (arrOf ay) (lo+i)<=R ρ (arrOf ay) (lo+k))/\(∀i,r<=i->i<k->R ρ (arrOf ay) (lo+k)<R ρ (arrOf ay) (lo+i)))
   (Q:=λc cM=>cM=ay/\∃l r,c=(none,l,r)/\l<=k /\
    (∀i,i<l->R ρ (arrOf ay) (lo+i)<=R ρ (arrOf ay) (lo+k))/\(∀i,l<=i->i<k->R ρ (arrOf ay) (lo+k)<R ρ (arrOf ay) (lo+i))) ?istep ?ifin ?iinit) ?ipost)
  case iinit=>exact⟨rfl,0,k,rfl,by omega,by omega,by omega,λi hi=>by omega,λi h1 h2=>by omega⟩
  case ifin =>
   rintro c cM ⟨rfl,l,r,rfl,Wh,QI,hm,rO,KY⟩;have:l=r:=by omega
   subst this;exact⟨rfl,l,l,rfl,QI,rO,KY⟩
  case istep =>
   rintro x c cM _ X5 ⟨rfl,l,r,rfl,Wh,QI,hm,rO,KY⟩;dsimp only
   by_cases pj:l>=r
   ·rw[if_pos pj]
    have:l=r:=by omega
    subst this;exact wpS_pure ⟨rfl,l,l,rfl,QI,rO,KY⟩
   ·rw[if_neg pj]
    refine wpS_bind (wpS_ltAt hL h0 gh.si hk ⋯ ?_)
    by_cases tZ:R ρ (arrOf cM) (lo+k)<R ρ (arrOf cM) (lo+(l+r)/2)
    ·simp only[tZ,decide_true,if_true]
     refine wpS_pure ⟨rfl,l,(l+r)/2,rfl,by omega,by omega,by omega,rO,λi h1 h2=>?_⟩
     exact Nat.lt_of_lt_of_le tZ (iH _ _ ⋯ ⋯ ⋯)
    ·simp only[tZ,decide_false,Bool.false_eq_true,if_false]
     refine wpS_pure ⟨rfl,(l+r)/2+1,r,rfl,by omega,by omega,by omega,λi h1=>?_,KY⟩
     exact Nat.le_trans (iH (lo+i) (lo+(l+r)/2) ⋯ ⋯ ⋯) (Nat.not_lt.mp tZ)
  case ipost =>
   rintro c cM ⟨rfl,l,r,rfl,XW,rO,KY⟩;show wpS _ _ _ _ (do moveDown' (lo+k) (lo+l);pure (ForInStep.yield (none,()))) _ _
   rw[moveDown'_eq];refine wpS_bind (wpS_modify (wpS_pure ⟨rfl,gh.bubble hk ⋯ ⋯,?_⟩))
   rw[show min (k+1) n=k+1 by omega]
   have UY:lo+k<(arrOf cM).size:=by rw[gh.si.size];exact hk
   intro i j hi ly hj;show R ρ (bubble (arrOf cM) (lo+k) (lo+k-(lo+l))) i<=R ρ (bubble (arrOf cM) (lo+k) (lo+k-(lo+l))) j;rw[pC UY ⋯,pC UY ⋯,show lo+k-(lo+k-(lo+l))=lo+l by omega]
   have SJ:∀i,lo<=i->i<lo+l->R ρ (arrOf cM) i<=R ρ (arrOf cM) (lo+k):=λi h1 h2=>by
    have:=rO (i-lo) ⋯;rwa [show lo+(i-lo)=i by omega]at this
   have Sy:∀i,lo+l<=i->i<lo+k->R ρ (arrOf cM) (lo+k)<R ρ (arrOf cM) i:=λi h1 h2=>by
    have:=KY (i-lo) ⋯ ⋯;rwa [show lo+(i-lo)=i by omega]at this
   repeat' split
   all_goals first
    | (exfalso;omega)
    | exact Nat.le_refl _
    | exact SJ _ ⋯ ⋯
    | exact Nat.le_of_lt (Sy _ ⋯ ⋯)
    | exact iH _ _ ⋯ ⋯ ⋯
def bZ:Bool->Keyed->Array Keyed->Nat->Nat->Nat->StateT SortSt Sem (Option Nat):=sortPriv% PySem.Builtin.gallop
def d7(left:Bool)(key:Keyed)(arr:Array Keyed)(base i:Nat):StateT SortSt Sem (Option Bool):=do
 let x <- elem' arr (base+i)
 if left then lt' x key else return(<- lt' key x).map (!·)
theorem sj(left:Bool)(key:Keyed)(arr:Array Keyed)(base n hint:Nat):bZ left key arr base n hint=(do
 let mut jL:=0
 let mut wV:=1
 let mut lo:=0
 let mut hi:=0
 let some right <- d7 left key arr base hint|return none
 if right then
  let kz:=n-hint
  for _ in [0:n]do
   if wV>=kz then break
   let some more <- d7 left key arr base (hint+wV)|return none
   if !more then break
   jL:=wV
   wV:=2*wV+1
  lo:=hint+jL+1
  hi:=hint+min wV kz
 else
  let kz:=hint+1
  for _ in [0:n]do
   if wV>=kz then break
   let some found <- d7 left key arr base (hint-wV)|return none
   if found then break
   jL:=wV
   wV:=2*wV+1
  lo:=hint+1-min wV kz
  hi:=hint-jL
 for _ in [0:n]do
  if lo>=hi then break
  let m:=lo+(hi-lo)/2
  let some more <- d7 left key arr base m|return none
  if more then lo:=m+1 else hi:=m
 return some hi):=rfl
end
end Vs
namespace Vs
open PySem PyProof.Rows
section
variable {M:Model}{A:Around}{E:Value->Shared->Prop}{s:Shared}{ρ:Keyed->Nat}{kd:SortKind}{P:Keyed->Prop}{a₀:Array Keyed}
def MY(left:Bool)(key:Keyed)(arr:Array Keyed)(base n l h:Nat):StateT SortSt Sem (Option Nat):=do
 let mut lo:=l
 let mut hi:=h
 for _ in [0:n]do
  if lo>=hi then break
  let m:=lo+(hi-lo)/2
  let some more <- d7 left key arr base m|return none
  if more then lo:=m+1 else hi:=m
 return some hi
def Tells(M:Model)(A:Around)(E:Value->Shared->Prop)(s:Shared)(left:Bool)(key:Keyed)(arr:Array Keyed)(base n:Nat)(st:SortSt)(p:Nat->Bool):Prop:=
 ∀i,i<n->∀Q:Option Bool->SortSt->Prop,Q (some (p i)) st->wpS M A E s (d7 left key arr base i) Q st
theorem rB{left:Bool}{key:Keyed}{arr:Array Keyed}{base n l h:Nat}{st:SortSt}{p:Nat->Bool}{Q:Option Nat->SortSt->Prop}(hT:Tells M A E s left key arr base n st p)(hp:∀i j,i<=j->j<n->p j=true->p i=true)
  (Wf:l<=h) (hh:h<=n) (h1:∀i,i<l->p i=true) (h2:∀i,h<=i->i<n->p i=false)
  (q:∀k,k<=n->(∀i,i<k->p i=true)->(∀i,k<=i->i<n->p i=false)->Q (some k) st):wpS M A E s (MY left key arr base n l h) Q st:=by
 unfold MY;dsimp only;refine wpS_bind (wpS_mono (wpS_forRange (I:=λx c ay=>ay=st/\∃l h,c=(none,l,h)/\l<=h/\h<=n/\h-l<=n-x/\(∀i,i<l->p i=true)/\(∀i,h<=i->i<n->p i=false))
  (Q:=λc ay=>ay=st/\∃k,c=(none,k,k)/\k<=n/\(∀i,i<k->p i=true)/\(∀i,k<=i->i<n->p i=false)) ?step ?fin ⟨rfl,l,h,rfl,Wf,hh,by omega,h1,h2⟩) ?post)
 case post =>
  rintro c ay ⟨rfl,k,rfl,hk,q1,q2⟩;exact wpS_pure (q k hk q1 q2)
 case fin =>
  rintro c ay ⟨rfl,l,h,rfl,a1,a2,a3,a4,a5⟩;have:l=h:=by omega
  subst this;exact⟨rfl,l,rfl,a2,a4,a5⟩
 case step =>
  rintro x c ay _ hx ⟨rfl,l,h,rfl,a1,a2,a3,a4,a5⟩;dsimp only
  by_cases pj:l>=h
  ·rw[if_pos pj]
   have:l=h:=by omega
   subst this;exact wpS_pure ⟨rfl,l,rfl,a2,a4,a5⟩
  ·rw[if_neg pj]
   refine wpS_bind (hT _ ⋯ _ ?_)
   cases hm:p (l+(h-l)/2)with
   | true =>
    simp only[if_true];exact wpS_pure ⟨rfl,_,_,rfl,by omega,a2,by omega,λi hi=>hp i _ ⋯ ⋯ hm,a5⟩
   | false =>
    simp only[Bool.false_eq_true,if_false];refine wpS_pure ⟨rfl,_,_,rfl,by omega,by omega,by omega,a4,λi hi hn=>?_⟩
    cases e:p i with
    | false=>rfl
    | true=>rw[hp _ i hi hn e]at hm;cases hm
theorem cW{left:Bool}{key:Keyed}{arr:Array Keyed}{base n hint:Nat}{st:SortSt}{p:Nat->Bool}{Q:Option Nat->SortSt->Prop}(hT:Tells M A E s left key arr base n st p)(hp:∀i j,i<=j->j<n->p j=true->p i=true)(hn:hint<n)
  (q:∀k,k<=n->(∀i,i<k->p i=true)->(∀i,k<=i->i<n->p i=false)->Q (some k) st):wpS M A E s (bZ left key arr base n hint) Q st:=by
 rw[sj];dsimp only;refine wpS_bind (hT hint hn _ ?_);have pf:∀i j,i<=j->j<n->p i=false->p j=false:=λi j h1 h2 h3=>by
  cases e:p j with
  | false=>rfl
  | true=>rw[hp i j h1 h2 e]at h3;cases h3
 cases h0:p hint with
 | true =>
  dsimp only;rw[if_pos rfl];refine wpS_bind (wpS_mono (wpS_forRange (I:=λx c ay=>ay=st/\∃l o,c=(none,l,o)/\l<o/\x+1<=o/\hint+l<n/\p (hint+l)=true)
   (Q:=λc ay=>ay=st/\∃l o,c=(none,l,o)/\l<o/\hint+l<n/\p (hint+l)=true/\(n-hint<=o\/(hint+o<n/\p (hint+o)=false))) ?step ?fin ⟨rfl,0,1,rfl,by omega,by omega,hn,h0⟩) ?post)
  case fin =>
   rintro c ay ⟨rfl,l,o,rfl,a1,a2,a3,a4⟩;exact⟨rfl,l,o,rfl,a1,a3,a4,.inl ⋯⟩
  case step =>
   rintro x c ay _ hx ⟨rfl,l,o,rfl,a1,a2,a3,a4⟩;dsimp only
   by_cases pj:o>=n-hint
   ·rw[if_pos pj]
    exact wpS_pure ⟨rfl,l,o,rfl,a1,a3,a4,.inl pj⟩
   ·rw[if_neg pj]
    refine wpS_bind (hT _ ⋯ _ ?_)
    cases hm:p (hint+o)with
    | true =>
     simp only[Bool.not_true,Bool.false_eq_true,if_false];exact wpS_pure ⟨rfl,_,_,rfl,by omega,by omega,by omega,hm⟩
    | false =>
     simp only[Bool.not_false,if_true];exact wpS_pure ⟨rfl,_,_,rfl,a1,a3,a4,.inr ⟨by omega,hm⟩⟩
  case post =>
   rintro c ay ⟨rfl,l,o,rfl,a1,a3,a4,a5⟩;refine rB (l:=hint+l+1) (h:=hint+min o (n-hint)) hT hp ⋯ ⋯ (λi hi=>hp i _ ⋯ a3 a4) (λi hi B9=>?_) q
   rcases a5 with a5|⟨a5,a6⟩
   ·omega
   ·exact pf (hint+o) i ⋯ B9 a6
 | false =>
  dsimp only;rw[if_neg ∅]
  refine wpS_bind (wpS_mono (wpS_forRange (I:=λx c ay=>ay=st/\∃l o,c=(none,l,o)/\l<o/\x+1<=o/\l<=hint/\p (hint-l)=false)
   (Q:=λc ay=>ay=st/\∃l o,c=(none,l,o)/\l<o/\l<=hint/\p (hint-l)=false/\(hint+1<=o\/(o<=hint/\p (hint-o)=true))) ?step2 ?fin2 ⟨rfl,0,1,rfl,by omega,by omega,by omega,h0⟩) ?post2)
  case fin2 =>
   rintro c ay ⟨rfl,l,o,rfl,a1,a2,a3,a4⟩;exact⟨rfl,l,o,rfl,a1,a3,a4,.inl ⋯⟩
  case step2 =>
   rintro x c ay _ hx ⟨rfl,l,o,rfl,a1,a2,a3,a4⟩;dsimp only
   by_cases pj:o>=hint+1
   ·rw[if_pos pj]
    exact wpS_pure ⟨rfl,l,o,rfl,a1,a3,a4,.inl pj⟩
   ·rw[if_neg pj]
    refine wpS_bind (hT _ ⋯ _ ?_)
    cases hm:p (hint-o)with
    | true =>
     simp only[if_true];exact wpS_pure ⟨rfl,_,_,rfl,a1,a3,a4,.inr ⟨by omega,hm⟩⟩
    | false =>
     simp only[Bool.false_eq_true,if_false];exact wpS_pure ⟨rfl,_,_,rfl,by omega,by omega,by omega,hm⟩
  case post2 =>
   rintro c ay ⟨rfl,l,o,rfl,a1,a3,a4,a5⟩;refine rB (l:=hint+1-min o (hint+1)) (h:=hint-l) hT hp ⋯ ⋯ (λi hi=>?_) (λi hi B9=>pf (hint-l) i hi B9 a4) q
   rcases a5 with a5|⟨a5,a6⟩
   ·omega
   ·exact hp i (hint-o) ⋯ ⋯ a6
def mj(ρ:Keyed->Nat)(left:Bool)(key:Keyed)(arr:Array Keyed)(base i:Nat):Bool:=if left=true then decide (R ρ arr (base+i)<ρ key)else !decide (ρ key<R ρ arr (base+i))
theorem tells{left:Bool}{key:Keyed}{arr:Array Keyed}{base n:Nat}{st:SortSt}(hL:eS M A E s ρ kd P)(hk:kindOf st=kd)(pk:P key)(pa:∀i,i<n->∃x,arr[base+i]?=some x/\P x):Tells M A E s left key arr base n st (mj ρ left key arr base):=λi hi Q q=>by
 obtain⟨x,e,px⟩:=pa i hi;unfold d7;refine wpS_bind (aU e ?_);unfold mj at q;rw[cJ e]at q;cases left with
 | true =>
  simp only[if_true]at q ⊢;exact hL x key st Q px pk hk q
 | false =>
  simp only[Bool.false_eq_true,if_false]at q ⊢;exact wpS_bind (hL key x st _ pk px hk (wpS_pure q))
end
end Vs
namespace Vs
open PySem PyProof.Rows
def kB:Array Keyed->Array Keyed->StateT SortSt Sem (Array Keyed):=sortPriv% PySem.Builtin.mergeLo
def kA:Array Keyed->Array Keyed->StateT SortSt Sem (Array Keyed):=sortPriv% PySem.Builtin.mergeHi
def dH:Nat->StateT SortSt Sem Unit:=sortPriv% PySem.Builtin.setMinGallop
theorem dC(g:Nat):dH g=modify (λst=>SortSt.mk' (kindOf st) (arrOf st) (pendingOf st) g (failedOf st)):=rfl
def So(ρ:Keyed->Nat)(l:List Keyed):Prop:=l.Pairwise λx y=>ρ x<=ρ y
structure J(ρ:Keyed->Nat)(L O A B:List Keyed):Prop where
 o:So ρ O
 a:So ρ A
 b:So ρ B
 oa:∀x∈O,∀y∈A,ρ x<=ρ y
 ob:∀x∈O,∀y∈B,ρ x<=ρ y
 p:(O++(A++B)).Perm L
def Good(ρ:Keyed->Nat)(L r:List Keyed):Prop:=So ρ r/\r.Perm L
theorem So.app{ρ:Keyed->Nat}{A B:List Keyed}(h1:So ρ A)(h2:So ρ B)(h:∀x∈A,∀y∈B,ρ x<=ρ y):So ρ (A++B):=List.pairwise_append.mpr ⟨h1,h2,h⟩
section
variable {ρ:Keyed->Nat}{L O A B X:List Keyed}{x z:Keyed}
theorem J.gS(j:J ρ L O (X++A) B)(h:∀x∈X,∀y∈B,ρ x<=ρ y):J ρ L (O++X) A B:=by
 obtain⟨a1,a2,a3⟩:=List.pairwise_append.mp j.a;refine⟨j.o.app a1 λx hx y hy=>j.oa x hx y (List.mem_append_left _ hy),a2,j.b,λx hx y hy=>?_,λx hx y hy=>?_,?_⟩
 ·rcases List.mem_append.mp hx with hx|hx
  ·exact j.oa x hx y (List.mem_append_right _ hy)
  ·exact a3 x hx y hy
 ·rcases List.mem_append.mp hx with hx|hx
  ·exact j.ob x hx y hy
  ·exact h x hx y hy
 ·have:=j.p
  simpa [List.append_assoc]using this
theorem J.gT(j:J ρ L O A (X++B))(h:∀x∈X,∀y∈A,ρ x<=ρ y):J ρ L (O++X) A B:=by
 obtain⟨a1,a2,a3⟩:=List.pairwise_append.mp j.b;refine⟨j.o.app a1 λx hx y hy=>j.ob x hx y (List.mem_append_left _ hy),j.a,a2,λx hx y hy=>?_,λx hx y hy=>?_,?_⟩
 ·rcases List.mem_append.mp hx with hx|hx
  ·exact j.oa x hx y hy
  ·exact h x hx y hy
 ·rcases List.mem_append.mp hx with hx|hx
  ·exact j.ob x hx y (List.mem_append_right _ hy)
  ·exact a3 x hx y hy
 ·refine List.Perm.trans ?_ j.p
  rw[List.append_assoc];refine List.Perm.append_left O ?_;rw[<- List.append_assoc,<- List.append_assoc];exact List.Perm.append_right B List.perm_append_comm
theorem J.fY(j:J ρ L O A []):Good ρ L (O++A):=⟨j.o.app j.a j.oa,by simpa using j.p⟩
theorem J.fX(j:J ρ L O [] B):Good ρ L (O++B):=⟨j.o.app j.b j.ob,by simpa using j.p⟩
theorem J.last(j:J ρ L O [z] B)(h:∀y∈B,ρ y<=ρ z):Good ρ L (O++B++[z]):=by
 refine⟨(j.o.app j.b j.ob).app (List.pairwise_singleton ..) λx hx y hy=>?_,?_⟩
 ·rw[List.mem_singleton.mp hy]
  rcases List.mem_append.mp hx with hx|hx
  ·exact j.oa x hx z (List.mem_singleton.mpr rfl)
  ·exact h x hx
 ·refine List.Perm.trans ?_ j.p
  rw[List.append_assoc];exact List.Perm.append_left O List.perm_append_comm
end
theorem iA{a:Array Keyed}{i:Nat}{x:Keyed}(h:a[i]?=some x):a.toList.drop i=x::a.toList.drop (i+1):=by
 have hi:i<a.toList.length:=by
  have:=(Array.getElem?_eq_some_iff.mp h).1;simpa using this
 rw[List.drop_eq_getElem_cons hi];have:a.toList[i]=x:=by
  have:=(Array.getElem?_eq_some_iff.mp h).2;simpa using this
 rw[this]
theorem jf(a:Array Keyed)(i:Nat):(a.extract i a.size).toList=a.toList.drop i:=by
 rw[Array.toList_extract];show(a.toList.drop i).take (a.size-i)=_;exact List.take_of_length_le (by rw[List.length_drop];exact Nat.le_refl _)
theorem jS(a:Array Keyed)(i k:Nat):(a.extract i (i+k)).toList=(a.toList.drop i).take k:=by
 rw[Array.toList_extract];show(a.toList.drop i).take (i+k-i)=_;rw[Nat.add_sub_cancel_left]
theorem rp(a:Array Keyed)(i k:Nat):a.toList.drop i=(a.toList.drop i).take k++a.toList.drop (i+k):=by
 rw[<- List.drop_drop,List.take_append_drop]
theorem k6{a:Array Keyed}{i:Nat}(h:i=a.size):a.toList.drop i=[]:=by
 subst h;exact List.drop_length
theorem ju{a:Array Keyed}{i k:Nat}{x:Keyed}(h:x∈(a.toList.drop i).take k):∃m,m<k/\i+m<a.size/\a[i+m]?=some x:=by
 obtain⟨m,hm,e⟩:=List.mem_iff_getElem.mp h;rw[List.length_take,List.length_drop]at hm;rw[List.getElem_take,List.getElem_drop]at e;have hs:i+m<a.size:=by have:a.toList.length=a.size:=rfl;omega
 exact⟨m,by omega,hs,by rw[Array.getElem?_eq_getElem hs];exact congrArg some (by simpa using e)⟩
theorem AZ{a:Array Keyed}{i:Nat}{x:Keyed}(h:x∈a.toList.drop i):∃m,i<=m/\m<a.size/\a[m]?=some x:=by
 obtain⟨m,hm,e⟩:=List.mem_iff_getElem.mp h;rw[List.length_drop]at hm;rw[List.getElem_drop]at e;have hs:i+m<a.size:=by have:a.toList.length=a.size:=rfl;omega
 exact⟨i+m,by omega,hs,by rw[Array.getElem?_eq_getElem hs];exact congrArg some (by simpa using e)⟩
theorem So.seg{ρ:Keyed->Nat}{a:Array Keyed}(h:So ρ a.toList):Seg ρ a 0 a.size:=λi j _ ly hj=>by
 by_cases e:i=j
 ·subst e;exact Nat.le_refl _
 ·have hi:i<a.size:=by omega
  rw[cJ (Array.getElem?_eq_getElem hi),cJ (Array.getElem?_eq_getElem hj)];have:=List.pairwise_iff_getElem.mp h i j (by simpa using hi) (by simpa using hj) ⋯
  simpa using this
structure Kp(st ay:SortSt):Prop where
 a:arrOf ay=arrOf st
 k:kindOf ay=kindOf st
 p:pendingOf ay=pendingOf st
 f:failedOf ay=failedOf st
theorem Kp.refl{st:SortSt}:Kp st st:=⟨rfl,rfl,rfl,rfl⟩
theorem Kp.min{st ay:SortSt}(h:Kp st ay)(g:Nat):Kp st (SortSt.mk' (kindOf ay) (arrOf ay) (pendingOf ay) g (failedOf ay)):=⟨h.a,h.k,h.p,h.f⟩
section
variable {M:Model}{A:Around}{E:Value->Shared->Prop}{s:Shared}{ρ:Keyed->Nat}{kd:SortKind}{P:Keyed->Prop}
theorem cN{a:Array Keyed}(pa:∀x∈a.toList,P x){i:Nat}(h:i<a.size):∃x,a[i]?=some x/\P x:=
 ⟨a[i],Array.getElem?_eq_getElem h,pa _ (by simp)⟩
theorem Ba{key:Keyed}{arr:Array Keyed}{base:Nat}{st:SortSt}{Q:Option Nat->SortSt->Prop}(hL:eS M A E s ρ kd P)(hk:kindOf st=kd)(pk:P key)(pa:∀x∈arr.toList,P x)(hs:So ρ arr.toList)(hb:base<arr.size)
  (q:∀k,base+k<=arr.size->(∀x∈(arr.toList.drop base).take k,ρ x<=ρ key)->(∀x∈arr.toList.drop (base+k),ρ key<ρ x)->Q (some k) st):wpS M A E s (bZ false key arr base (arr.size-base) 0) Q st:=by
 refine cW (tells hL hk pk λi hi=>cN pa ⋯) (λi j ly hj h=>?_) ⋯ λk nP h1 h2=>q k ⋯ (λx hx=>?_) λx hx=>?_
 ·have:=hs.seg (base+i) (base+j) (Nat.zero_le _) ⋯ ⋯
  simp only[mj,Bool.false_eq_true,if_false,Bool.not_eq_true',decide_eq_false_iff_not]at h ⊢;omega
 ·obtain⟨m,hm,gj,e⟩:=ju hx
  have:=h1 m hm;simp only[mj,Bool.false_eq_true,if_false,Bool.not_eq_true',decide_eq_false_iff_not,cJ e]at this;omega
 ·obtain⟨m,hm,gj,e⟩:=AZ hx
  have:=h2 (m-base) ⋯ ⋯
  rw[show base+k=base+k from rfl]at hm
  simp only[mj,Bool.false_eq_true,if_false,show base+(m-base)=m by omega,cJ e,Bool.not_eq_false',decide_eq_true_eq]at this
  exact this
theorem A9{key:Keyed}{arr:Array Keyed}{base:Nat}{st:SortSt}{Q:Option Nat->SortSt->Prop}(hL:eS M A E s ρ kd P)(hk:kindOf st=kd)(pk:P key)(pa:∀x∈arr.toList,P x)(hs:So ρ arr.toList)(hb:base<arr.size)
  (q:∀k,base+k<=arr.size->(∀x∈(arr.toList.drop base).take k,ρ x<ρ key)->(∀x∈arr.toList.drop (base+k),ρ key<=ρ x)->Q (some k) st):wpS M A E s (bZ true key arr base (arr.size-base) 0) Q st:=by
 refine cW (tells hL hk pk λi hi=>cN pa ⋯) (λi j ly hj h=>?_) ⋯ λk nP h1 h2=>q k ⋯ (λx hx=>?_) λx hx=>?_
 ·have:=hs.seg (base+i) (base+j) (Nat.zero_le _) ⋯ ⋯
  simp only[mj,if_true,decide_eq_true_eq]at h ⊢;omega
 ·obtain⟨m,hm,gj,e⟩:=ju hx
  have:=h1 m hm;simp only[mj,if_true,decide_eq_true_eq,cJ e]at this;omega
 ·obtain⟨m,hm,gj,e⟩:=AZ hx
  have:=h2 (m-base) ⋯ ⋯
  simp only[mj,if_true,show base+(m-base)=m by omega,cJ e,decide_eq_false_iff_not]at this
  omega
end
end Vs
namespace Vs
open PySem PyProof.Rows
section
variable {M:Model}{Ar:Around}{E:Value->Shared->Prop}{s:Shared}{ρ:Keyed->Nat}{kd:SortKind}{P:Keyed->Prop}{a b out:Array Keyed}{L:List Keyed}{ia ib:Nat}
abbrev GS:=Option (Array Keyed)×Array Keyed×Nat×Nat×Nat×Nat×Nat
def B7(a b out:Array Keyed)(ia ib g k k1:Nat):StateT SortSt Sem (ForInStep GS):=do
 let y <- elem' a ia
 if(ia+1+1==a.size)=true then pure (ForInStep.done (some (out.push y++b.extract ib b.size++a.extract (ia+1) a.size),out.push y,ia+1,ib,g,k,k1))
 else if(decide (k<7)&&decide (k1<7))=true then pure (ForInStep.done (none,out.push y,ia+1,ib,g,k,k1))
 else pure (ForInStep.yield (none,out.push y,ia+1,ib,g,k,k1))
def B6(a b out:Array Keyed)(ia ib g k bc:Nat):StateT SortSt Sem (ForInStep GS):=do
 let x <- elem' b ib
 if(ib+1==b.size)=true then pure (ForInStep.done (some (out.push x++a.extract ia a.size++b.extract (ib+1) b.size),out.push x,ia,ib+1,g,k,bc))
 else do
  let y <- elem' a ia
  let r <- bZ true y b (ib+1) (b.size-(ib+1)) 0
  match r with
  | some k1 =>
   if k1>0 then
    if(ib+1+k1==b.size)=true then pure (ForInStep.done (some (out.push x++b.extract (ib+1) (ib+1+k1)++a.extract ia a.size++b.extract (ib+1+k1) b.size),out.push x++b.extract (ib+1) (ib+1+k1),ia,ib+1+k1,g,k,k1))
    else B7 a b (out.push x++b.extract (ib+1) (ib+1+k1)) ia (ib+1+k1) g k k1
   else B7 a b (out.push x) ia (ib+1) g k k1
  | _=>pure (ForInStep.done (some (out.push x++a.extract ia a.size++b.extract (ib+1) b.size),out.push x,ia,ib+1,g,k,bc))
def B5(a b out:Array Keyed)(ia ib g ac bc:Nat):StateT SortSt Sem (ForInStep GS):=do
 let x <- elem' b ib
 let r <- bZ false x a ia (a.size-ia) 0
 match r with
 | some k =>
  if k>0 then
   if(ia+k+1==a.size)=true then pure (ForInStep.done (some (out++a.extract ia (ia+k)++b.extract ib b.size++a.extract (ia+k) a.size),out++a.extract ia (ia+k),ia+k,ib,g,k,bc))
   else if(ia+k==a.size)=true then pure (ForInStep.done (some (out++a.extract ia (ia+k)++a.extract (ia+k) a.size++b.extract ib b.size),out++a.extract ia (ia+k),ia+k,ib,g,k,bc))
   else B6 a b (out++a.extract ia (ia+k)) (ia+k) ib g k bc
  else B6 a b out ia ib g k bc
 | _=>pure (ForInStep.done (some (out++a.extract ia a.size++b.extract ib b.size),out,ia,ib,g,ac,bc))
def V(ρ:Keyed->Nat)(L:List Keyed)(a b out:Array Keyed)(ia ib:Nat):Prop:=J ρ L out.toList (a.toList.drop ia) (b.toList.drop ib)
theorem V.uo(j:V ρ L a b out ia ib)(e:ia+1=a.size)(hz:∀y∈b.toList,∀z,a[a.size-1]?=some z->ρ y<=ρ z):Good ρ L (out++b.extract ib b.size++a.extract ia a.size).toList:=by
 have ha:ia<a.size:=by omega
 have e1:a.toList.drop ia=[a[ia]]:=by rw[iA (Array.getElem?_eq_getElem ha),k6 e]
 have j':J ρ L out.toList (a.toList.drop ia) (b.toList.drop ib):=j;rw[e1]at j';rw[Array.toList_append,Array.toList_append,jf,jf,e1];refine j'.last λy hy=>hz y (List.mem_of_mem_drop hy) _ ?_;rw[show a.size-1=ia by omega];exact Array.getElem?_eq_getElem ha
theorem V.fY(j:V ρ L a b out ia ib)(e:ib=b.size):Good ρ L (out++a.extract ia a.size++b.extract ib b.size).toList:=by
 have j':J ρ L out.toList (a.toList.drop ia) (b.toList.drop ib):=j;rw[k6 e]at j';rw[Array.toList_append,Array.toList_append,jf,jf,k6 e,List.append_nil];exact j'.fY
theorem V.fX(j:V ρ L a b out ia ib)(e:ia=a.size):Good ρ L (out++a.extract ia a.size++b.extract ib b.size).toList:=by
 have j':J ρ L out.toList (a.toList.drop ia) (b.toList.drop ib):=j;rw[k6 e]at j';rw[Array.toList_append,Array.toList_append,jf,jf,k6 e,List.append_nil];exact j'.fX
theorem V.mJ{x:Keyed}(j:V ρ L a b out ia ib)(e:a[ia]?=some x)(h:∀y∈b.toList.drop ib,ρ x<=ρ y):V ρ L a b (out.push x) (ia+1) ib:=by
 have j':J ρ L out.toList (a.toList.drop ia) (b.toList.drop ib):=j;rw[iA e]at j';show J ρ L (out.push x).toList _ _;rw[Array.toList_push];exact J.gS (X:=[x]) j' λz hz y hy=>by rw[List.mem_singleton.mp hz];exact h y hy
theorem V.mK{x:Keyed}(j:V ρ L a b out ia ib)(e:b[ib]?=some x)(h:∀y∈a.toList.drop ia,ρ x<=ρ y):V ρ L a b (out.push x) ia (ib+1):=by
 have j':J ρ L out.toList (a.toList.drop ia) (b.toList.drop ib):=j;rw[iA e]at j';show J ρ L (out.push x).toList _ _;rw[Array.toList_push];exact J.gT (X:=[x]) j' λz hz y hy=>by rw[List.mem_singleton.mp hz];exact h y hy
theorem V.gS{k:Nat}(j:V ρ L a b out ia ib)(h:∀x∈(a.toList.drop ia).take k,∀y∈b.toList.drop ib,ρ x<=ρ y):V ρ L a b (out++a.extract ia (ia+k)) (ia+k) ib:=by
 have j':J ρ L out.toList (a.toList.drop ia) (b.toList.drop ib):=j;rw[rp a ia k]at j';show J ρ L (out++a.extract ia (ia+k)).toList _ _;rw[Array.toList_append,jS];exact J.gS j' h
theorem V.gT{k:Nat}(j:V ρ L a b out ia ib)(h:∀x∈(b.toList.drop ib).take k,∀y∈a.toList.drop ia,ρ x<=ρ y):V ρ L a b (out++b.extract ib (ib+k)) ia (ib+k):=by
 have j':J ρ L out.toList (a.toList.drop ia) (b.toList.drop ib):=j;rw[rp b ib k]at j';show J ρ L (out++b.extract ib (ib+k)).toList _ _;rw[Array.toList_append,jS];exact J.gT j' h
theorem V.El{x:Keyed}(j:V ρ L a b out ia ib)(e:a[ia]?=some x):∀y∈a.toList.drop ia,ρ x<=ρ y:=λy hy=>by
 have:=j.a;rw[iA e]at this hy;rcases List.mem_cons.mp hy with rfl|hy
 ·exact Nat.le_refl _
 ·exact(List.pairwise_cons.mp this).1 y hy
theorem V.Em{x:Keyed}(j:V ρ L a b out ia ib)(e:b[ib]?=some x):∀y∈b.toList.drop ib,ρ x<=ρ y:=λy hy=>by
 have:=j.b;rw[iA e]at this hy;rcases List.mem_cons.mp hy with rfl|hy
 ·exact Nat.le_refl _
 ·exact(List.pairwise_cons.mp this).1 y hy
def Left(ρ:Keyed->Nat)(L:List Keyed)(a b:Array Keyed)(t:Nat)(out:Array Keyed)(ia ib:Nat):Prop:=V ρ L a b out ia ib/\ia+1<a.size/\ib<b.size/\t<=ia+ib
def PG(ρ:Keyed->Nat)(L:List Keyed)(a b:Array Keyed)(t:Nat)(bT:SortSt)(r:ForInStep GS)(st:SortSt):Prop:=Kp bT st/\match r with
 | .done c=>(∃arr,c.1=some arr/\Good ρ L arr.toList)\/(c.1=none/\Left ρ L a b t c.2.1 c.2.2.1 c.2.2.2.1)
 | .yield c=>c.1=none/\Left ρ L a b t c.2.1 c.2.2.1 c.2.2.2.1
structure rN(ρ:Keyed->Nat)(P:Keyed->Prop)(a b:Array Keyed):Prop where
 pa:∀x∈a.toList,P x
 pb:∀x∈b.toList,P x
 sa:So ρ a.toList
 sb:So ρ b.toList
 a1:1<=a.size
 b1:1<=b.size
 z:∀y∈b.toList,∀z,a[a.size-1]?=some z->ρ y<=ρ z
 y:∀y∈a.toList,∀z,b[0]?=some z->ρ z<=ρ y
theorem rG{st bT:SortSt}{g k k1 t:Nat}(T:rN ρ P a b)(hK:Kp bT st)(j:V ρ L a b out ia ib)(h1:ia+1<a.size)(h2:ib<b.size)(ht:t<=ia+ib)
  (h:∀x,a[ia]?=some x->∀y∈b.toList.drop ib,ρ x<=ρ y):wpS M Ar E s (B7 a b out ia ib g k k1) (PG ρ L a b t bT) st:=by
 unfold B7;obtain⟨y,ey,py⟩:=cN T.pa (show ia<a.size by omega)
 refine wpS_bind (aU ey ?_);have j':=j.mJ ey (h y ey)
 by_cases e:ia+1+1=a.size
 ·rw[if_pos (by simpa using e)]
  exact wpS_pure ⟨hK,.inl ⟨_,rfl,j'.uo e T.z⟩⟩
 ·rw[if_neg (by simpa using e)]
  split
  ·exact wpS_pure ⟨hK,.inr ⟨rfl,j',by show ia+1+1<a.size;omega,h2,by show t<=ia+1+ib;omega⟩⟩
  ·exact wpS_pure ⟨hK,rfl,j',by show ia+1+1<a.size;omega,h2,by show t<=ia+1+ib;omega⟩
theorem rF{st bT:SortSt}{g k bc t:Nat}(hL:eS M Ar E s ρ kd P)(hk:kindOf bT=kd)(T:rN ρ P a b)(hK:Kp bT st)(j:V ρ L a b out ia ib)(h1:ia+1<a.size)(h2:ib<b.size)(ht:t<=ia+ib)
  (h:∀x,b[ib]?=some x->∀y∈a.toList.drop ia,ρ x<=ρ y):wpS M Ar E s (B6 a b out ia ib g k bc) (PG ρ L a b t bT) st:=by
 unfold B6;obtain⟨x,ex,px⟩:=cN T.pb h2;obtain⟨y,ey,py⟩:=cN T.pa (show ia<a.size by omega)
 refine wpS_bind (aU ex ?_);have j':=j.mK ex (h x ex)
 by_cases e:ib+1=b.size
 ·rw[if_pos (by simpa using e)]
  exact wpS_pure ⟨hK,.inl ⟨_,rfl,j'.fY e⟩⟩
 ·rw[if_neg (by simpa using e)]
  refine wpS_bind (aU ey ?_);refine wpS_bind (A9 hL (hK.k.trans hk) py T.pb T.sb ⋯ λk1 nP q1 q2=>?_)
  dsimp only;have j2:=j'.gT (k:=k1) λx hx z hz=>Nat.le_trans (Nat.le_of_lt (q1 x hx)) (j'.El ey z hz)
  by_cases tY:k1>0
  ·rw[if_pos tY]
   by_cases e2:ib+1+k1=b.size
   ·rw[if_pos (by simpa using e2)]
    exact wpS_pure ⟨hK,.inl ⟨_,rfl,j2.fY e2⟩⟩
   ·rw[if_neg (by simpa using e2)]
    exact rG T hK j2 h1 ⋯ ⋯ λx' jI z hz=>by rw[ey]at jI;cases jI;exact q2 z hz
  ·rw[if_neg tY]
   have:k1=0:=by omega
   subst this;exact rG T hK j' h1 ⋯ ⋯ λx' jI z hz=>by rw[ey]at jI;cases jI;exact q2 z hz
theorem rE{st bT:SortSt}{g ac bc t:Nat}(hL:eS M Ar E s ρ kd P)(hk:kindOf bT=kd)(T:rN ρ P a b)(hK:Kp bT st)(j:Left ρ L a b t out ia ib):wpS M Ar E s (B5 a b out ia ib g ac bc) (PG ρ L a b t bT) st:=by
 obtain⟨j,h1,h2,ht⟩:=j;unfold B5;obtain⟨x,ex,px⟩:=cN T.pb h2;refine wpS_bind (aU ex ?_);refine wpS_bind (Ba hL (hK.k.trans hk) px T.pa T.sa ⋯ λk nP q1 q2=>?_)
 dsimp only;have j2:=j.gS (k:=k) λz hz y hy=>Nat.le_trans (q1 z hz) (j.Em ex y hy)
 by_cases tY:k>0
 ·rw[if_pos tY]
  by_cases e:ia+k+1=a.size
  ·rw[if_pos (by simpa using e)]
   exact wpS_pure ⟨hK,.inl ⟨_,rfl,j2.uo e T.z⟩⟩
  ·rw[if_neg (by simpa using e)]
   by_cases e2:ia+k=a.size
   ·rw[if_pos (by simpa using e2)]
    exact wpS_pure ⟨hK,.inl ⟨_,rfl,j2.fX e2⟩⟩
   ·rw[if_neg (by simpa using e2)]
    exact rF hL hk T hK j2 ⋯ h2 ⋯ λx' jI z hz=>by rw[ex]at jI;cases jI;exact Nat.le_of_lt (q2 z hz)
 ·rw[if_neg tY]
  have:k=0:=by omega
  subst this;exact rF hL hk T hK j h1 h2 ht λx' jI z hz=>by rw[ex]at jI;cases jI;exact Nat.le_of_lt (q2 z hz)
abbrev IS:=Option (Array Keyed)×Array Keyed×Nat×Nat×Nat×Nat
abbrev OS:=Option (Array Keyed)×Array Keyed×Nat×Nat×Nat
def Tp(a b:Array Keyed)(g:Nat)(c:IS):StateT SortSt Sem (ForInStep IS):=do
 let x <- elem' b c.2.2.2.1
 let y <- elem' a c.2.2.1
 let r <- lt' x y
 match r with
 | some w =>
  if w=true then do
   let x <- elem' b c.2.2.2.1
   if(c.2.2.2.1+1==b.size)=true then pure (ForInStep.done (some (c.2.1.push x++a.extract c.2.2.1 a.size++b.extract (c.2.2.2.1+1) b.size),c.2.1.push x,c.2.2.1,c.2.2.2.1+1,0,c.2.2.2.2.2+1))
   else if c.2.2.2.2.2+1>=g then pure (ForInStep.done (none,c.2.1.push x,c.2.2.1,c.2.2.2.1+1,0,c.2.2.2.2.2+1))
   else pure (ForInStep.yield (none,c.2.1.push x,c.2.2.1,c.2.2.2.1+1,0,c.2.2.2.2.2+1))
  else do
   let y <- elem' a c.2.2.1
   if(c.2.2.1+1+1==a.size)=true then pure (ForInStep.done (some (c.2.1.push y++b.extract c.2.2.2.1 b.size++a.extract (c.2.2.1+1) a.size),c.2.1.push y,c.2.2.1+1,c.2.2.2.1,c.2.2.2.2.1+1,0))
   else if c.2.2.2.2.1+1>=g then pure (ForInStep.done (none,c.2.1.push y,c.2.2.1+1,c.2.2.2.1,c.2.2.2.2.1+1,0))
   else pure (ForInStep.yield (none,c.2.1.push y,c.2.2.1+1,c.2.2.2.1,c.2.2.2.2.1+1,0))
 | _=>pure (ForInStep.done (some (c.2.1++a.extract c.2.2.1 a.size++b.extract c.2.2.2.1 b.size),c.2.1,c.2.2.1,c.2.2.2.1,c.2.2.2.2.1,c.2.2.2.2.2))
def Tn(a b:Array Keyed)(c:GS):StateT SortSt Sem (ForInStep GS):=
 if c.2.2.2.2.1>1 then do
  dH (c.2.2.2.2.1-1)
  B5 a b c.2.1 c.2.2.1 c.2.2.2.1 (c.2.2.2.2.1-1) c.2.2.2.2.2.1 c.2.2.2.2.2.2
 else do
  dH c.2.2.2.2.1
  B5 a b c.2.1 c.2.2.1 c.2.2.2.1 c.2.2.2.2.1 c.2.2.2.2.2.1 c.2.2.2.2.2.2
def Vi(r:GS):StateT SortSt Sem (ForInStep OS):=
 match r.1 with
 | some arr=>pure (ForInStep.done (some arr,r.2.1,r.2.2.1,r.2.2.2.1,r.2.2.2.2.1))
 | none=>do
  dH (r.2.2.2.2.1+1)
  pure (ForInStep.yield (none,r.2.1,r.2.2.1,r.2.2.2.1,r.2.2.2.2.1+1))
def Tq(a b:Array Keyed)(g:Nat)(r:IS):StateT SortSt Sem (ForInStep OS):=
 match r.1 with
 | some arr=>pure (ForInStep.done (some arr,r.2.1,r.2.2.1,r.2.2.2.1,g))
 | none=>do
  liftM (rule "list.sort.gallop")
  let r2 <- forIn [0:a.size+b.size] ((none,r.2.1,r.2.2.1,r.2.2.2.1,g+1,r.2.2.2.2.1,r.2.2.2.2.2):GS) λ_ t=>Tn a b t
  Vi r2
def Ts(a b:Array Keyed)(c:OS):StateT SortSt Sem (ForInStep OS):=do
 let r <- forIn [0:a.size+b.size] ((none,c.2.1,c.2.2.1,c.2.2.2.1,0,0):IS) λ_ r=>Tp a b c.2.2.2.2 r
 Tq a b c.2.2.2.2 r
def WZ(r:OS):StateT SortSt Sem (Array Keyed):=
 match r.1 with
 | some arr=>pure arr
 | none=>unsupported "internal:list.sort.merge-bound"
theorem nY(a b:Array Keyed):kB a b=(do
 liftM (rule "list.sort.merge-lo")
 let x <- elem' b 0
 if(1==b.size)=true then pure (#[x]++a.extract 0 a.size++b.extract 1 b.size)
 else if(0+1==a.size)=true then pure (#[x]++b.extract 1 b.size++a.extract 0 a.size)
 else do
  let st <- get
  let r <- forIn [0:a.size+b.size] ((none,#[x],0,1,gallopOf st):OS) λ_ r=>Ts a b r
  WZ r):=by kernel_rfl
theorem DH{bT st:SortSt}{g n m:Nat}{c:IS}(hL:eS M Ar E s ρ kd P)(hk:kindOf bT=kd)(T:rN ρ P a b)(hK:Kp bT st)(j:Left ρ L a b (n+1+min m 1) c.2.1 c.2.2.1 c.2.2.2.1):
  wpS M Ar E s (Tp a b g c) (λr ay=>Kp bT ay/\match r with
   | .done c=>(∃arr,c.1=some arr/\Good ρ L arr.toList)\/(c.1=none/\Left ρ L a b (n+1+1) c.2.1 c.2.2.1 c.2.2.2.1)
   | .yield c=>c.1=none/\Left ρ L a b (n+1+min (m+1) 1) c.2.1 c.2.2.1 c.2.2.2.1) st:=by
 obtain⟨ret,out,ia,ib,ac,bc⟩:=c;obtain⟨j,l1,l2,l3⟩:=j;dsimp only at j l1 l2 l3;unfold Tp;dsimp only;obtain⟨x,ex,px⟩:=cN T.pb l2;obtain⟨y,ey,py⟩:=cN T.pa (show ia<a.size by omega)
 refine wpS_bind (aU ex (wpS_bind (aU ey (wpS_bind (hL x y st _ px py (hK.k.trans hk) ?_)))))
 by_cases iG:ρ x<ρ y
 ·rw[decide_eq_true iG]
  refine wpS_bind (aU ex ?_);have j':=j.mK ex λz hz=>Nat.le_trans (Nat.le_of_lt iG) (j.El ey z hz)
  by_cases e:ib+1=b.size
  ·rw[if_pos (by simpa using e)]
   exact wpS_pure ⟨hK,.inl ⟨_,rfl,j'.fY e⟩⟩
  ·rw[if_neg (by simpa using e)]
   split
   ·exact wpS_pure ⟨hK,.inr ⟨rfl,j',by show ia+1<a.size;omega,by show ib+1<b.size;omega,by show n+1+1<=ia+(ib+1);omega⟩⟩
   ·exact wpS_pure ⟨hK,rfl,j',by show ia+1<a.size;omega,by show ib+1<b.size;omega,by show n+1+min (m+1) 1<=ia+(ib+1);omega⟩
 ·rw[decide_eq_false iG]
  refine wpS_bind (aU ey ?_);have j':=j.mJ ey λz hz=>Nat.le_trans (Nat.not_lt.mp iG) (j.Em ex z hz)
  by_cases e:ia+1+1=a.size
  ·rw[if_pos (by simpa using e)]
   exact wpS_pure ⟨hK,.inl ⟨_,rfl,j'.uo e T.z⟩⟩
  ·rw[if_neg (by simpa using e)]
   split
   ·exact wpS_pure ⟨hK,.inr ⟨rfl,j',by show ia+1+1<a.size;omega,by show ib<b.size;omega,by show n+1+1<=ia+1+ib;omega⟩⟩
   ·exact wpS_pure ⟨hK,rfl,j',by show ia+1+1<a.size;omega,by show ib<b.size;omega,by show n+1+min (m+1) 1<=ia+1+ib;omega⟩
theorem DG{bT st:SortSt}{t:Nat}{c:GS}(hL:eS M Ar E s ρ kd P)(hk:kindOf bT=kd)(T:rN ρ P a b)(hK:Kp bT st)(j:Left ρ L a b t c.2.1 c.2.2.1 c.2.2.2.1):wpS M Ar E s (Tn a b c) (PG ρ L a b t bT) st:=by
 unfold Tn
 split
 ·rw[dC]
  exact wpS_bind (wpS_modify (rE hL hk T (hK.min _) j))
 ·rw[dC]
  exact wpS_bind (wpS_modify (rE hL hk T (hK.min _) j))
def PO(ρ:Keyed->Nat)(L:List Keyed)(a b:Array Keyed)(t:Nat)(bT:SortSt)(r:ForInStep OS)(st:SortSt):Prop:=match r with
 | .done c=>Kp bT st/\∃arr,c.1=some arr/\Good ρ L arr.toList
 | .yield c=>Kp bT st/\c.1=none/\Left ρ L a b t c.2.1 c.2.2.1 c.2.2.2.1
theorem DI{bT st:SortSt}{g n:Nat}{r:IS}(hL:eS M Ar E s ρ kd P)(hk:kindOf bT=kd)(T:rN ρ P a b)(hK:Kp bT st)
  (h:(∃arr,r.1=some arr/\Good ρ L arr.toList)\/(r.1=none/\Left ρ L a b (n+1+1) r.2.1 r.2.2.1 r.2.2.2.1)):wpS M Ar E s (Tq a b g r) (PO ρ L a b (n+1+1) bT) st:=by
 obtain⟨ret,r⟩:=r;unfold Tq;rcases h with⟨arr,h1,h2⟩|⟨h1,hl⟩
 ·dsimp only at h1
  subst h1;exact wpS_pure ⟨hK,arr,rfl,h2⟩
 ·dsimp only at h1 hl
  subst h1;refine wpS_bind (wpS_lift (wpAny_rule ⟨rfl,?_⟩));refine wpS_bind (wpS_mono (wpS_forRange (I:=λx c ay=>Kp bT ay/\c.1=none/\Left ρ L a b (n+1+1) c.2.1 c.2.2.1 c.2.2.2.1)
   (Q:=λc ay=>Kp bT ay/\((∃arr,c.1=some arr/\Good ρ L arr.toList)\/(c.1=none/\Left ρ L a b (n+1+1) c.2.1 c.2.2.1 c.2.2.2.1))) ?gstep ?gfin ⟨hK,rfl,hl⟩) ?gpost)
  case gfin =>
   rintro c ay ⟨hK,h1,hl⟩;exact⟨hK,.inr ⟨h1,hl⟩⟩
  case gstep =>
   rintro m c ay _ hm ⟨hK,h1,hl⟩;refine wpS_mono (DG hL hk T hK hl) λr cM hr=>?_;obtain⟨k1,k2⟩:=hr;cases r with
   | done c=>exact⟨k1,k2⟩
   | yield c=>exact⟨k1,k2⟩
  case gpost =>
   rintro⟨ret,r⟩ ay ⟨hK,⟨arr,h1,h2⟩|⟨h1,hl⟩⟩
   ·dsimp only at h1
    subst h1;exact wpS_pure ⟨hK,arr,rfl,h2⟩
   ·dsimp only at h1 hl
    subst h1;unfold Vi;rw[dC];exact wpS_bind (wpS_modify (wpS_pure ⟨hK.min _,rfl,hl⟩))
theorem DJ{bT st:SortSt}{n:Nat}{c:OS}(hL:eS M Ar E s ρ kd P)(hk:kindOf bT=kd)(T:rN ρ P a b)(hn:0<a.size+b.size)(hK:Kp bT st)(hl:Left ρ L a b (n+1) c.2.1 c.2.2.1 c.2.2.2.1):wpS M Ar E s (Ts a b c) (PO ρ L a b (n+1+1) bT) st:=by
 unfold Ts;refine wpS_bind (wpS_mono (wpS_forRange (I:=λx c ay=>Kp bT ay/\c.1=none/\Left ρ L a b (n+1+min x 1) c.2.1 c.2.2.1 c.2.2.2.1)
  (Q:=λc ay=>Kp bT ay/\((∃arr,c.1=some arr/\Good ρ L arr.toList)\/(c.1=none/\Left ρ L a b (n+1+1) c.2.1 c.2.2.1 c.2.2.2.1))) ?istep ?ifin ⟨hK,rfl,by simpa using hl⟩) ?ipost)
 case ifin =>
  rintro c ay ⟨hK,h1,hl⟩;rw[show min (max 0 (a.size+b.size)) 1=1 by omega]at hl
  exact⟨hK,.inr ⟨h1,hl⟩⟩
 case istep =>
  rintro m c ay _ hm ⟨hK,h1,hl⟩;refine wpS_mono (DH hL hk T hK hl) λr cM hr=>?_;obtain⟨k1,k2⟩:=hr;cases r with
  | done c=>exact⟨k1,k2⟩
  | yield c=>exact⟨k1,k2⟩
 case ipost =>
  rintro r ay ⟨hK,h⟩;exact DI hL hk T hK h
theorem rJ{st:SortSt}{Q:Array Keyed->SortSt->Prop}(hL:eS M Ar E s ρ kd P)(hk:kindOf st=kd)(T:rN ρ P a b)
  (q:∀r ay,Kp st ay->Good ρ (a.toList++b.toList) r.toList->Q r ay):wpS M Ar E s (kB a b) Q st:=by
 rw[nY];refine wpS_bind (wpS_lift (wpAny_rule ⟨rfl,?_⟩));obtain⟨x,ex,px⟩:=cN T.pb (show 0<b.size from T.b1)
 refine wpS_bind (aU ex ?_);have j0:V ρ (a.toList++b.toList) a b #[] 0 0:=⟨List.Pairwise.nil,by simpa using T.sa,by simpa using T.sb,(λx hx=>by cases hx),(λx hx=>by cases hx),by simp⟩
 have j1:V ρ (a.toList++b.toList) a b #[x] 0 1:=by simpa using j0.mK ex λy hy=>T.y y (by simpa using hy) x ex
 by_cases e:1=b.size
 ·rw[if_pos (by simpa using e)]
  exact wpS_pure (q _ st .refl (j1.fY e))
 ·rw[if_neg (by simpa using e)]
  by_cases e2:0+1=a.size
  ·rw[if_pos (by simpa using e2)]
   exact wpS_pure (q _ st .refl (j1.uo e2 T.z))
  ·rw[if_neg (by simpa using e2)]
   have b1:=T.b1;have a1:=T.a1;refine wpS_bind (wpS_get ?_);refine wpS_bind (wpS_mono (wpS_forRange (I:=λx c ay=>Kp st ay/\c.1=none/\Left ρ (a.toList++b.toList) a b (x+1) c.2.1 c.2.2.1 c.2.2.2.1)
    (Q:=λc ay=>Kp st ay/\∃arr,c.1=some arr/\Good ρ (a.toList++b.toList) arr.toList) ?step ?fin ⟨.refl,rfl,j1,by show 0+1<a.size;omega,by show 1<b.size;omega,by show 0+1<=0+1;omega⟩) ?post)
   case fin =>
    rintro⟨ret,out,ia,ib,g⟩ ay ⟨hK,h1,j,h2,h3,h4⟩;dsimp only at h2 h3 h4;omega
   case post =>
    rintro⟨ret,r⟩ ay ⟨hK,arr,h1,h2⟩;dsimp only at h1;subst h1;exact wpS_pure (q arr ay hK h2)
   case step =>
    rintro n c ay _ hn ⟨hK,h1,hl⟩;refine wpS_mono (DJ hL hk T ⋯ hK hl) λr cM hr=>?_
    cases r with
    | done c=>exact hr
    | yield c=>exact hr
end
end Vs
namespace Vs
open PySem PyProof.Rows
structure H(ρ:Keyed->Nat)(L O A B:List Keyed):Prop where
 o:So ρ O
 a:So ρ A
 b:So ρ B
 oa:∀x∈A,∀y∈O,ρ x<=ρ y
 ob:∀x∈B,∀y∈O,ρ x<=ρ y
 p:(A++(B++O)).Perm L
section
variable {ρ:Keyed->Nat}{L O A B X:List Keyed}{x z:Keyed}
theorem H.gT(j:H ρ L O A (B++X))(h:∀x∈X,∀y∈A,ρ y<=ρ x):H ρ L (X++O) A B:=by
 obtain⟨a1,a2,a3⟩:=List.pairwise_append.mp j.b;refine⟨So.app a2 j.o λx hx y hy=>j.ob x (List.mem_append_right _ hx) y hy,j.a,a1,λx hx y hy=>?_,λx hx y hy=>?_,?_⟩
 ·rcases List.mem_append.mp hy with hy|hy
  ·exact h y hy x hx
  ·exact j.oa x hx y hy
 ·rcases List.mem_append.mp hy with hy|hy
  ·exact a3 x hx y hy
  ·exact j.ob x (List.mem_append_left _ hx) y hy
 ·have:=j.p
  simpa [List.append_assoc]using this
theorem H.gS(j:H ρ L O (A++X) B)(h:∀x∈X,∀y∈B,ρ y<=ρ x):H ρ L (X++O) A B:=by
 obtain⟨a1,a2,a3⟩:=List.pairwise_append.mp j.a;refine⟨So.app a2 j.o λx hx y hy=>j.oa x (List.mem_append_right _ hx) y hy,a1,j.b,λx hx y hy=>?_,λx hx y hy=>?_,?_⟩
 ·rcases List.mem_append.mp hy with hy|hy
  ·exact a3 x hx y hy
  ·exact j.oa x (List.mem_append_left _ hx) y hy
 ·rcases List.mem_append.mp hy with hy|hy
  ·exact h y hy x hx
  ·exact j.ob x hx y hy
 ·refine List.Perm.trans ?_ j.p
  rw[List.append_assoc];refine List.Perm.append_left A ?_;rw[<- List.append_assoc,<- List.append_assoc];exact List.Perm.append_right O List.perm_append_comm
theorem H.fY(j:H ρ L O A []):Good ρ L (A++O):=⟨So.app j.a j.o j.oa,by simpa using j.p⟩
theorem H.fX(j:H ρ L O [] B):Good ρ L (B++O):=⟨So.app j.b j.o j.ob,by simpa using j.p⟩
theorem H.first(j:H ρ L O A [z])(h:∀y∈A,ρ z<=ρ y):Good ρ L ([z]++A++O):=by
 refine⟨So.app (So.app (List.pairwise_singleton ..) j.a λx hx y hy=>by rw[List.mem_singleton.mp hx];exact h y hy) j.o λx hx y hy=>?_,?_⟩
 ·rcases List.mem_append.mp hx with hx|hx
  ·exact j.ob x hx y hy
  ·exact j.oa x hx y hy
 ·refine List.Perm.trans ?_ j.p
  rw[<- List.append_assoc];exact List.Perm.append_right O List.perm_append_comm
end
theorem iy{a:Array Keyed}{n:Nat}{x:Keyed}(h1:1<=n)(h:a[n-1]?=some x):a.toList.take n=a.toList.take (n-1)++[x]:=by
 obtain⟨m,rfl⟩:∃m,n=m+1:=⟨n-1,by omega⟩
 rw[Nat.add_sub_cancel]at h ⊢;rw[List.take_add_one];have:a.toList[m]?=some x:=by simpa using h
 rw[this];rfl
theorem je(a:Array Keyed)(n:Nat):(a.extract 0 n).toList=a.toList.take n:=by
 rw[Array.toList_extract];rfl
theorem jR(a:Array Keyed)(i n:Nat):(a.extract i n).toList=(a.toList.take n).drop i:=by
 rw[Array.toList_extract];show(a.toList.drop i).take (n-i)=_;rw[List.drop_take]
theorem rn(a:Array Keyed){i n:Nat}(h:i<=n):a.toList.take n=a.toList.take i++(a.toList.take n).drop i:=by
 have:=(List.take_append_drop i (a.toList.take n)).symm
 rwa [List.take_take,Nat.min_eq_left h]at this
theorem AY{a:Array Keyed}{n:Nat}{x:Keyed}(h:x∈a.toList.take n):∃m,m<n/\m<a.size/\a[m]?=some x:=by
 obtain⟨m,hm,e⟩:=List.mem_iff_getElem.mp h;rw[List.length_take]at hm;rw[List.getElem_take]at e;have hs:m<a.size:=by have:a.toList.length=a.size:=rfl;omega
 exact⟨m,by omega,hs,by rw[Array.getElem?_eq_getElem hs];exact congrArg some (by simpa using e)⟩
theorem ft{a:Array Keyed}{i n:Nat}{x:Keyed}(h:x∈(a.toList.take n).drop i):∃m,i<=m/\m<n/\m<a.size/\a[m]?=some x:=by
 obtain⟨m,hm,e⟩:=List.mem_iff_getElem.mp h;rw[List.length_drop,List.length_take]at hm;rw[List.getElem_drop,List.getElem_take]at e;have hs:i+m<a.size:=by have:a.toList.length=a.size:=rfl;omega
 exact⟨i+m,by omega,by omega,hs,by rw[Array.getElem?_eq_getElem hs];exact congrArg some (by simpa using e)⟩
section
variable {M:Model}{Ar:Around}{E:Value->Shared->Prop}{s:Shared}{ρ:Keyed->Nat}{kd:SortKind}{P:Keyed->Prop}{a b out:Array Keyed}{L:List Keyed}{na nb:Nat}
theorem Bc{key:Keyed}{arr:Array Keyed}{n:Nat}{st:SortSt}{Q:Option Nat->SortSt->Prop}(hL:eS M Ar E s ρ kd P)(hk:kindOf st=kd)(pk:P key)(pa:∀x∈arr.toList,P x)(hs:So ρ arr.toList)(hn:n<=arr.size)(h1:1<=n)
  (q:∀k,k<=n->(∀x∈arr.toList.take k,ρ x<=ρ key)->(∀x∈(arr.toList.take n).drop k,ρ key<ρ x)->Q (some k) st):wpS M Ar E s (bZ false key arr 0 n (n-1)) Q st:=by
 refine cW (tells hL hk pk λi hi=>cN pa ⋯) (λi j ly hj h=>?_) ⋯ λk nP h1 h2=>q k ⋯ (λx hx=>?_) λx hx=>?_
 ·have:=hs.seg (0+i) (0+j) (Nat.zero_le _) ⋯ ⋯
  simp only[mj,Bool.false_eq_true,if_false,Bool.not_eq_true',decide_eq_false_iff_not]at h ⊢;omega
 ·obtain⟨m,hm,gj,e⟩:=AY hx
  have:=h1 m hm;simp only[mj,Bool.false_eq_true,if_false,Bool.not_eq_true',decide_eq_false_iff_not,Nat.zero_add,cJ e]at this;omega
 ·obtain⟨m,hm,gj,SK,e⟩:=ft hx
  have:=h2 m hm gj;simp only[mj,Bool.false_eq_true,if_false,Nat.zero_add,cJ e,Bool.not_eq_false',decide_eq_true_eq]at this;exact this
theorem Bb{key:Keyed}{arr:Array Keyed}{n:Nat}{st:SortSt}{Q:Option Nat->SortSt->Prop}(hL:eS M Ar E s ρ kd P)(hk:kindOf st=kd)(pk:P key)(pa:∀x∈arr.toList,P x)(hs:So ρ arr.toList)(hn:n<=arr.size)(h1:1<=n)
  (q:∀k,k<=n->(∀x∈arr.toList.take k,ρ x<ρ key)->(∀x∈(arr.toList.take n).drop k,ρ key<=ρ x)->Q (some k) st):wpS M Ar E s (bZ true key arr 0 n (n-1)) Q st:=by
 refine cW (tells hL hk pk λi hi=>cN pa ⋯) (λi j ly hj h=>?_) ⋯ λk nP h1 h2=>q k ⋯ (λx hx=>?_) λx hx=>?_
 ·have:=hs.seg (0+i) (0+j) (Nat.zero_le _) ⋯ ⋯
  simp only[mj,if_true,decide_eq_true_eq]at h ⊢;omega
 ·obtain⟨m,hm,gj,e⟩:=AY hx
  have:=h1 m hm;simp only[mj,if_true,decide_eq_true_eq,Nat.zero_add,cJ e]at this;omega
 ·obtain⟨m,hm,gj,SK,e⟩:=ft hx
  have:=h2 m hm gj;simp only[mj,if_true,Nat.zero_add,cJ e,decide_eq_false_iff_not]at this;omega
abbrev HS:=Option (Array Keyed)×Nat×Nat×Array Keyed×Nat×Nat×Nat
def B4(a b out:Array Keyed)(na nb g k k1:Nat):StateT SortSt Sem (ForInStep HS):=do
 let y <- elem' a (na-1)
 if(na-1==0)=true then pure (ForInStep.done (some (a.extract 0 (na-1)++b.extract 0 nb++(out.push y).reverse),na-1,nb,out.push y,g,k,k1))
 else if(decide (k<7)&&decide (k1<7))=true then pure (ForInStep.done (none,na-1,nb,out.push y,g,k,k1))
 else pure (ForInStep.yield (none,na-1,nb,out.push y,g,k,k1))
def B3(a b out:Array Keyed)(na nb g k bc:Nat):StateT SortSt Sem (ForInStep HS):=do
 let x <- elem' b (nb-1)
 if(nb-1==1)=true then pure (ForInStep.done (some (b.extract 0 (nb-1)++a.extract 0 na++(out.push x).reverse),na,nb-1,out.push x,g,k,bc))
 else do
  let y <- elem' a (na-1)
  let r <- bZ true y b 0 (nb-1) (nb-1-1)
  match r with
  | some at2 =>
   if nb-1-at2>0 then
    if(at2==1)=true then pure (ForInStep.done (some (b.extract 0 at2++a.extract 0 na++(out.push x++(b.extract at2 (nb-1)).reverse).reverse),na,at2,out.push x++(b.extract at2 (nb-1)).reverse,g,k,nb-1-at2))
    else if(at2==0)=true then pure (ForInStep.done (some (a.extract 0 na++b.extract 0 at2++(out.push x++(b.extract at2 (nb-1)).reverse).reverse),na,at2,out.push x++(b.extract at2 (nb-1)).reverse,g,k,nb-1-at2))
    else B4 a b (out.push x++(b.extract at2 (nb-1)).reverse) na at2 g k (nb-1-at2)
   else B4 a b (out.push x) na (nb-1) g k (nb-1-at2)
  | _=>pure (ForInStep.done (some (a.extract 0 na++b.extract 0 (nb-1)++(out.push x).reverse),na,nb-1,out.push x,g,k,bc))
def yz(a b out:Array Keyed)(na nb g ac bc:Nat):StateT SortSt Sem (ForInStep HS):=do
 let x <- elem' b (nb-1)
 let r <- bZ false x a 0 na (na-1)
 match r with
 | some pe =>
  if na-pe>0 then
   if(pe==0)=true then pure (ForInStep.done (some (a.extract 0 pe++b.extract 0 nb++(out++(a.extract pe na).reverse).reverse),pe,nb,out++(a.extract pe na).reverse,g,na-pe,bc))
   else B3 a b (out++(a.extract pe na).reverse) pe nb g (na-pe) bc
  else B3 a b out na nb g (na-pe) bc
 | _=>pure (ForInStep.done (some (a.extract 0 na++b.extract 0 nb++out.reverse),na,nb,out,g,ac,bc))
def W(ρ:Keyed->Nat)(L:List Keyed)(a b out:Array Keyed)(na nb:Nat):Prop:=H ρ L out.toList.reverse (a.toList.take na) (b.toList.take nb)
theorem W.nK(j:W ρ L a b out na nb)(e:nb=1)(hb:1<=b.size)(hz:∀y∈a.toList,∀z,b[0]?=some z->ρ z<=ρ y):Good ρ L (b.extract 0 nb++a.extract 0 na++out.reverse).toList:=by
 subst e;have eb:b[0]?=some b[0]:=Array.getElem?_eq_getElem hb;have e1:b.toList.take 1=[b[0]]:=by rw[iy (Nat.le_refl 1) eb];rfl
 have j':H ρ L out.toList.reverse (a.toList.take na) (b.toList.take 1):=j;rw[e1]at j';rw[Array.toList_append,Array.toList_append,je,je,e1,Array.toList_reverse];exact j'.first λy hy=>hz y (List.mem_of_mem_take hy) _ eb
theorem W.fX(j:W ρ L a b out na nb)(e:na=0):Good ρ L (a.extract 0 na++b.extract 0 nb++out.reverse).toList:=by
 subst e;have j':H ρ L out.toList.reverse [] (b.toList.take nb):=j;rw[Array.toList_append,Array.toList_append,je,je,Array.toList_reverse];exact j'.fX
theorem W.fY(j:W ρ L a b out na nb)(e:nb=0):Good ρ L (a.extract 0 na++b.extract 0 nb++out.reverse).toList:=by
 subst e;have j':H ρ L out.toList.reverse (a.toList.take na) []:=j;rw[Array.toList_append,Array.toList_append,je,je,Array.toList_reverse,List.take_zero,List.append_nil];exact j'.fY
theorem W.mJ{x:Keyed}(j:W ρ L a b out na nb)(h1:1<=na)(e:a[na-1]?=some x)(h:∀y∈b.toList.take nb,ρ y<=ρ x):W ρ L a b (out.push x) (na-1) nb:=by
 have j':H ρ L out.toList.reverse (a.toList.take na) (b.toList.take nb):=j;rw[iy h1 e]at j';show H ρ L (out.push x).toList.reverse _ _;rw[Array.toList_push,List.reverse_append];exact H.gS (X:=[x]) j' λz hz y hy=>by rw[List.mem_singleton.mp hz];exact h y hy
theorem W.mK{x:Keyed}(j:W ρ L a b out na nb)(h1:1<=nb)(e:b[nb-1]?=some x)(h:∀y∈a.toList.take na,ρ y<=ρ x):W ρ L a b (out.push x) na (nb-1):=by
 have j':H ρ L out.toList.reverse (a.toList.take na) (b.toList.take nb):=j;rw[iy h1 e]at j';show H ρ L (out.push x).toList.reverse _ _;rw[Array.toList_push,List.reverse_append];exact H.gT (X:=[x]) j' λz hz y hy=>by rw[List.mem_singleton.mp hz];exact h y hy
theorem W.gS{k:Nat}(j:W ρ L a b out na nb)(hk:k<=na)(h:∀x∈(a.toList.take na).drop k,∀y∈b.toList.take nb,ρ y<=ρ x):W ρ L a b (out++(a.extract k na).reverse) k nb:=by
 have j':H ρ L out.toList.reverse (a.toList.take na) (b.toList.take nb):=j;rw[rn a hk]at j';show H ρ L (out++(a.extract k na).reverse).toList.reverse _ _;rw[Array.toList_append,List.reverse_append,Array.toList_reverse,List.reverse_reverse,jR];exact H.gS j' h
theorem W.gT{k:Nat}(j:W ρ L a b out na nb)(hk:k<=nb)(h:∀x∈(b.toList.take nb).drop k,∀y∈a.toList.take na,ρ y<=ρ x):W ρ L a b (out++(b.extract k nb).reverse) na k:=by
 have j':H ρ L out.toList.reverse (a.toList.take na) (b.toList.take nb):=j;rw[rn b hk]at j';show H ρ L (out++(b.extract k nb).reverse).toList.reverse _ _;rw[Array.toList_append,List.reverse_append,Array.toList_reverse,List.reverse_reverse,jR];exact H.gT j' h
theorem W.MI{x:Keyed}(j:W ρ L a b out na nb)(h1:1<=na)(e:a[na-1]?=some x):∀y∈a.toList.take na,ρ y<=ρ x:=λy hy=>by
 have:=j.a;rw[iy h1 e]at this hy;rcases List.mem_append.mp hy with hy|hy
 ·exact(List.pairwise_append.mp this).2.2 y hy x (List.mem_singleton.mpr rfl)
 ·rw[List.mem_singleton.mp hy];exact Nat.le_refl _
theorem W.MJ{x:Keyed}(j:W ρ L a b out na nb)(h1:1<=nb)(e:b[nb-1]?=some x):∀y∈b.toList.take nb,ρ y<=ρ x:=λy hy=>by
 have:=j.b;rw[iy h1 e]at this hy;rcases List.mem_append.mp hy with hy|hy
 ·exact(List.pairwise_append.mp this).2.2 y hy x (List.mem_singleton.mpr rfl)
 ·rw[List.mem_singleton.mp hy];exact Nat.le_refl _
def cX(ρ:Keyed->Nat)(L:List Keyed)(a b:Array Keyed)(t:Nat)(out:Array Keyed)(na nb:Nat):Prop:=W ρ L a b out na nb/\1<=na/\2<=nb/\na<=a.size/\nb<=b.size/\na+nb+t<=a.size+b.size
def PH(ρ:Keyed->Nat)(L:List Keyed)(a b:Array Keyed)(t:Nat)(bT:SortSt)(r:ForInStep HS)(st:SortSt):Prop:=Kp bT st/\match r with
 | .done c=>(∃arr,c.1=some arr/\Good ρ L arr.toList)\/(c.1=none/\cX ρ L a b t c.2.2.2.1 c.2.1 c.2.2.1)
 | .yield c=>c.1=none/\cX ρ L a b t c.2.2.2.1 c.2.1 c.2.2.1
theorem rD{st bT:SortSt}{g k k1 t:Nat}(T:rN ρ P a b)(hK:Kp bT st)(j:W ρ L a b out na nb)(h1:1<=na)(h2:2<=nb)(h3:na<=a.size)(h4:nb<=b.size)(ht:na+nb+t<=a.size+b.size)
  (h:∀x,a[na-1]?=some x->∀y∈b.toList.take nb,ρ y<=ρ x):wpS M Ar E s (B4 a b out na nb g k k1) (PH ρ L a b t bT) st:=by
 unfold B4;obtain⟨y,ey,py⟩:=cN T.pa (show na-1<a.size by omega)
 refine wpS_bind (aU ey ?_);have j':=j.mJ h1 ey (h y ey)
 by_cases e:na-1=0
 ·rw[if_pos (by simpa using e)]
  exact wpS_pure ⟨hK,.inl ⟨_,rfl,j'.fX e⟩⟩
 ·rw[if_neg (by simpa using e)]
  have lf:cX ρ L a b t (out.push y) (na-1) nb:=⟨j',by omega,h2,by omega,h4,by omega⟩
  split
  ·exact wpS_pure ⟨hK,.inr ⟨rfl,lf⟩⟩
  ·exact wpS_pure ⟨hK,rfl,lf⟩
theorem rC{st bT:SortSt}{g k bc t:Nat}(hL:eS M Ar E s ρ kd P)(hk:kindOf bT=kd)(T:rN ρ P a b)(hK:Kp bT st)(j:W ρ L a b out na nb)(h1:1<=na)(h2:2<=nb)(h3:na<=a.size)(h4:nb<=b.size)(ht:na+nb+t<=a.size+b.size)
  (h:∀x,b[nb-1]?=some x->∀y∈a.toList.take na,ρ y<=ρ x):wpS M Ar E s (B3 a b out na nb g k bc) (PH ρ L a b t bT) st:=by
 unfold B3;obtain⟨x,ex,px⟩:=cN T.pb (show nb-1<b.size by omega)
 obtain⟨y,ey,py⟩:=cN T.pa (show na-1<a.size by omega)
 refine wpS_bind (aU ex ?_);have j':=j.mK ⋯ ex (h x ex)
 by_cases e:nb-1=1
 ·rw[if_pos (by simpa using e)]
  exact wpS_pure ⟨hK,.inl ⟨_,rfl,j'.nK e T.b1 T.y⟩⟩
 ·rw[if_neg (by simpa using e)]
  refine wpS_bind (aU ey ?_);refine wpS_bind (Bb hL (hK.k.trans hk) py T.pb T.sb ⋯ ⋯ λk1 nP q1 q2=>?_)
  dsimp only;have j2:=j'.gT nP λx hx z hz=>Nat.le_trans (j'.MI h1 ey z hz) (q2 x hx)
  by_cases tY:nb-1-k1>0
  ·rw[if_pos tY]
   by_cases e2:k1=1
   ·rw[if_pos (by simpa using e2)]
    exact wpS_pure ⟨hK,.inl ⟨_,rfl,j2.nK e2 T.b1 T.y⟩⟩
   ·rw[if_neg (by simpa using e2)]
    by_cases e3:k1=0
    ·rw[if_pos (by simpa using e3)]
     exact wpS_pure ⟨hK,.inl ⟨_,rfl,j2.fY e3⟩⟩
    ·rw[if_neg (by simpa using e3)]
     exact rD T hK j2 h1 ⋯ h3 ⋯ ⋯ λx' jI z hz=>by rw[ey]at jI;cases jI;exact Nat.le_of_lt (q1 z hz)
  ·rw[if_neg tY]
   have:k1=nb-1:=by omega
   subst this;exact rD T hK j' h1 ⋯ h3 ⋯ ⋯ λx' jI z hz=>by rw[ey]at jI;cases jI;exact Nat.le_of_lt (q1 z hz)
theorem A8{st bT:SortSt}{g ac bc t:Nat}(hL:eS M Ar E s ρ kd P)(hk:kindOf bT=kd)(T:rN ρ P a b)(hK:Kp bT st)(j:cX ρ L a b t out na nb):wpS M Ar E s (yz a b out na nb g ac bc) (PH ρ L a b t bT) st:=by
 obtain⟨j,h1,h2,h3,h4,ht⟩:=j;unfold yz;obtain⟨x,ex,px⟩:=cN T.pb (show nb-1<b.size by omega)
 refine wpS_bind (aU ex ?_);refine wpS_bind (Bc hL (hK.k.trans hk) px T.pa T.sa h3 h1 λk nP q1 q2=>?_);dsimp only;have j2:=j.gS nP λz hz y hy=>Nat.le_trans (j.MJ ⋯ ex y hy) (Nat.le_of_lt (q2 z hz))
 by_cases tY:na-k>0
 ·rw[if_pos tY]
  by_cases e:k=0
  ·rw[if_pos (by simpa using e)]
   exact wpS_pure ⟨hK,.inl ⟨_,rfl,j2.fX e⟩⟩
  ·rw[if_neg (by simpa using e)]
   exact rC hL hk T hK j2 ⋯ h2 ⋯ h4 ⋯ λx' jI z hz=>by rw[ex]at jI;cases jI;exact q1 z hz
 ·rw[if_neg tY]
  have:k=na:=by omega
  subst this;exact rC hL hk T hK j h1 h2 h3 h4 ht λx' jI z hz=>by rw[ex]at jI;cases jI;exact q1 z hz
abbrev HI:=Option (Array Keyed)×Nat×Nat×Array Keyed×Nat×Nat
abbrev HQ:=Option (Array Keyed)×Nat×Nat×Array Keyed×Nat
def Sz(a b:Array Keyed)(g:Nat)(c:HI):StateT SortSt Sem (ForInStep HI):=do
 let x <- elem' b (c.2.2.1-1)
 let y <- elem' a (c.2.1-1)
 let r <- lt' x y
 match r with
 | some w =>
  if w=true then do
   let y <- elem' a (c.2.1-1)
   if(c.2.1-1==0)=true then pure (ForInStep.done (some (a.extract 0 (c.2.1-1)++b.extract 0 c.2.2.1++(c.2.2.2.1.push y).reverse),c.2.1-1,c.2.2.1,c.2.2.2.1.push y,c.2.2.2.2.1+1,0))
   else if c.2.2.2.2.1+1>=g then pure (ForInStep.done (none,c.2.1-1,c.2.2.1,c.2.2.2.1.push y,c.2.2.2.2.1+1,0))
   else pure (ForInStep.yield (none,c.2.1-1,c.2.2.1,c.2.2.2.1.push y,c.2.2.2.2.1+1,0))
  else do
   let x <- elem' b (c.2.2.1-1)
   if(c.2.2.1-1==1)=true then pure (ForInStep.done (some (b.extract 0 (c.2.2.1-1)++a.extract 0 c.2.1++(c.2.2.2.1.push x).reverse),c.2.1,c.2.2.1-1,c.2.2.2.1.push x,0,c.2.2.2.2.2+1))
   else if c.2.2.2.2.2+1>=g then pure (ForInStep.done (none,c.2.1,c.2.2.1-1,c.2.2.2.1.push x,0,c.2.2.2.2.2+1))
   else pure (ForInStep.yield (none,c.2.1,c.2.2.1-1,c.2.2.2.1.push x,0,c.2.2.2.2.2+1))
 | _=>pure (ForInStep.done (some (a.extract 0 c.2.1++b.extract 0 c.2.2.1++c.2.2.2.1.reverse),c.2.1,c.2.2.1,c.2.2.2.1,c.2.2.2.2.1,c.2.2.2.2.2))
def UQ(a b:Array Keyed)(c:HS):StateT SortSt Sem (ForInStep HS):=
 if c.2.2.2.2.1>1 then do
  dH (c.2.2.2.2.1-1)
  yz a b c.2.2.2.1 c.2.1 c.2.2.1 (c.2.2.2.2.1-1) c.2.2.2.2.2.1 c.2.2.2.2.2.2
 else do
  dH c.2.2.2.2.1
  yz a b c.2.2.2.1 c.2.1 c.2.2.1 c.2.2.2.2.1 c.2.2.2.2.2.1 c.2.2.2.2.2.2
def UP(r:HS):StateT SortSt Sem (ForInStep HQ):=
 match r.1 with
 | some arr=>pure (ForInStep.done (some arr,r.2.1,r.2.2.1,r.2.2.2.1,r.2.2.2.2.1))
 | none=>do
  dH (r.2.2.2.2.1+1)
  pure (ForInStep.yield (none,r.2.1,r.2.2.1,r.2.2.2.1,r.2.2.2.2.1+1))
def SA(a b:Array Keyed)(g:Nat)(r:HI):StateT SortSt Sem (ForInStep HQ):=
 match r.1 with
 | some arr=>pure (ForInStep.done (some arr,r.2.1,r.2.2.1,r.2.2.2.1,g))
 | none=>do
  liftM (rule "list.sort.gallop")
  let r2 <- forIn [0:a.size+b.size] ((none,r.2.1,r.2.2.1,r.2.2.2.1,g+1,r.2.2.2.2.1,r.2.2.2.2.2):HS) λ_ t=>UQ a b t
  UP r2
def SE(a b:Array Keyed)(c:HQ):StateT SortSt Sem (ForInStep HQ):=do
 let r <- forIn [0:a.size+b.size] ((none,c.2.1,c.2.2.1,c.2.2.2.1,0,0):HI) λ_ r=>Sz a b c.2.2.2.2 r
 SA a b c.2.2.2.2 r
def V6(r:HQ):StateT SortSt Sem (Array Keyed):=
 match r.1 with
 | some arr=>pure arr
 | none=>unsupported "internal:list.sort.merge-bound"
theorem nX(a b:Array Keyed):kA a b=(do
 liftM (rule "list.sort.merge-hi")
 let x <- elem' a (a.size-1)
 if(a.size-1==0)=true then pure (a.extract 0 (a.size-1)++b.extract 0 b.size++(#[x]:Array Keyed).reverse)
 else if(b.size==1)=true then pure (b.extract 0 b.size++a.extract 0 (a.size-1)++(#[x]:Array Keyed).reverse)
 else do
  let st <- get
  let r <- forIn [0:a.size+b.size] ((none,a.size-1,b.size,#[x],gallopOf st):HQ) λ_ r=>SE a b r
  V6 r):=by kernel_rfl
theorem DC{bT st:SortSt}{g n m:Nat}{c:HI}(hL:eS M Ar E s ρ kd P)(hk:kindOf bT=kd)(T:rN ρ P a b)(hK:Kp bT st)(j:cX ρ L a b (n+1+min m 1) c.2.2.2.1 c.2.1 c.2.2.1):
  wpS M Ar E s (Sz a b g c) (λr ay=>Kp bT ay/\match r with
   | .done c=>(∃arr,c.1=some arr/\Good ρ L arr.toList)\/(c.1=none/\cX ρ L a b (n+1+1) c.2.2.2.1 c.2.1 c.2.2.1)
   | .yield c=>c.1=none/\cX ρ L a b (n+1+min (m+1) 1) c.2.2.2.1 c.2.1 c.2.2.1) st:=by
 obtain⟨ret,na,nb,out,ac,bc⟩:=c;obtain⟨j,l1,l2,l3,l4,l5⟩:=j;dsimp only at j l1 l2 l3 l4 l5;unfold Sz;dsimp only;obtain⟨x,ex,px⟩:=cN T.pb (show nb-1<b.size by omega)
 obtain⟨y,ey,py⟩:=cN T.pa (show na-1<a.size by omega)
 refine wpS_bind (aU ex (wpS_bind (aU ey (wpS_bind (hL x y st _ px py (hK.k.trans hk) ?_)))))
 by_cases iG:ρ x<ρ y
 ·rw[decide_eq_true iG]
  refine wpS_bind (aU ey ?_);have j':=j.mJ l1 ey λz hz=>Nat.le_trans (j.MJ ⋯ ex z hz) (Nat.le_of_lt iG)
  by_cases e:na-1=0
  ·rw[if_pos (by simpa using e)]
   exact wpS_pure ⟨hK,.inl ⟨_,rfl,j'.fX e⟩⟩
  ·rw[if_neg (by simpa using e)]
   split
   ·exact wpS_pure ⟨hK,.inr ⟨rfl,j',by show 1<=na-1;omega,l2,by show na-1<=a.size;omega,l4,by show na-1+nb+(n+1+1)<=_;omega⟩⟩
   ·exact wpS_pure ⟨hK,rfl,j',by show 1<=na-1;omega,l2,by show na-1<=a.size;omega,l4,by show na-1+nb+(n+1+min (m+1) 1)<=_;omega⟩
 ·rw[decide_eq_false iG]
  refine wpS_bind (aU ex ?_);have j':=j.mK ⋯ ex λz hz=>Nat.le_trans (j.MI l1 ey z hz) (Nat.not_lt.mp iG)
  by_cases e:nb-1=1
  ·rw[if_pos (by simpa using e)]
   exact wpS_pure ⟨hK,.inl ⟨_,rfl,j'.nK e T.b1 T.y⟩⟩
  ·rw[if_neg (by simpa using e)]
   split
   ·exact wpS_pure ⟨hK,.inr ⟨rfl,j',l1,by show 2<=nb-1;omega,l3,by show nb-1<=b.size;omega,by show na+(nb-1)+(n+1+1)<=_;omega⟩⟩
   ·exact wpS_pure ⟨hK,rfl,j',l1,by show 2<=nb-1;omega,l3,by show nb-1<=b.size;omega,by show na+(nb-1)+(n+1+min (m+1) 1)<=_;omega⟩
def Uw(ρ:Keyed->Nat)(L:List Keyed)(a b:Array Keyed)(t:Nat)(bT:SortSt)(r:ForInStep HQ)(st:SortSt):Prop:=match r with
 | .done c=>Kp bT st/\∃arr,c.1=some arr/\Good ρ L arr.toList
 | .yield c=>Kp bT st/\c.1=none/\cX ρ L a b t c.2.2.2.1 c.2.1 c.2.2.1
theorem DE{bT st:SortSt}{g n:Nat}{r:HI}(hL:eS M Ar E s ρ kd P)(hk:kindOf bT=kd)(T:rN ρ P a b)(hK:Kp bT st)
  (h:(∃arr,r.1=some arr/\Good ρ L arr.toList)\/(r.1=none/\cX ρ L a b (n+1+1) r.2.2.2.1 r.2.1 r.2.2.1)):wpS M Ar E s (SA a b g r) (Uw ρ L a b (n+1+1) bT) st:=by
 obtain⟨ret,r⟩:=r;unfold SA;rcases h with⟨arr,h1,h2⟩|⟨h1,hl⟩
 ·dsimp only at h1
  subst h1;exact wpS_pure ⟨hK,arr,rfl,h2⟩
 ·dsimp only at h1 hl
  subst h1;refine wpS_bind (wpS_lift (wpAny_rule ⟨rfl,?_⟩));refine wpS_bind (wpS_mono (wpS_forRange (I:=λx c ay=>Kp bT ay/\c.1=none/\cX ρ L a b (n+1+1) c.2.2.2.1 c.2.1 c.2.2.1)
   (Q:=λc ay=>Kp bT ay/\((∃arr,c.1=some arr/\Good ρ L arr.toList)\/(c.1=none/\cX ρ L a b (n+1+1) c.2.2.2.1 c.2.1 c.2.2.1))) ?gstep ?gfin ⟨hK,rfl,hl⟩) ?gpost)
  case gfin =>
   rintro c ay ⟨hK,h1,hl⟩;exact⟨hK,.inr ⟨h1,hl⟩⟩
  case gstep =>
   rintro m c ay _ hm ⟨hK,h1,hl⟩;have go:∀g,wpS M Ar E s (do dH g;yz a b c.2.2.2.1 c.2.1 c.2.2.1 g c.2.2.2.2.2.1 c.2.2.2.2.2.2) (λr cM=>match r with
     | .done c=>Kp bT cM/\((∃arr,c.1=some arr/\Good ρ L arr.toList)\/(c.1=none/\cX ρ L a b (n+1+1) c.2.2.2.1 c.2.1 c.2.2.1))
     | .yield c=>Kp bT cM/\c.1=none/\cX ρ L a b (n+1+1) c.2.2.2.1 c.2.1 c.2.2.1) ay:=λg=>by
    rw[dC];refine wpS_bind (wpS_modify (wpS_mono (A8 hL hk T (hK.min g) hl) λr cM hr=>?_));obtain⟨k1,k2⟩:=hr;cases r with
    | done c=>exact⟨k1,k2⟩
    | yield c=>exact⟨k1,k2⟩
   unfold UQ
   split
   ·refine wpS_mono (go _) λr cM hr=>?_
    cases r<;>exact hr
   ·refine wpS_mono (go _) λr cM hr=>?_
    cases r<;>exact hr
  case gpost =>
   rintro⟨ret,r⟩ ay ⟨hK,⟨arr,h1,h2⟩|⟨h1,hl⟩⟩
   ·dsimp only at h1
    subst h1;exact wpS_pure ⟨hK,arr,rfl,h2⟩
   ·dsimp only at h1 hl
    subst h1;unfold UP;rw[dC];exact wpS_bind (wpS_modify (wpS_pure ⟨hK.min _,rfl,hl⟩))
theorem DF{bT st:SortSt}{n:Nat}{c:HQ}(hL:eS M Ar E s ρ kd P)(hk:kindOf bT=kd)(T:rN ρ P a b)(hn:0<a.size+b.size)(hK:Kp bT st)(hl:cX ρ L a b (n+1) c.2.2.2.1 c.2.1 c.2.2.1):wpS M Ar E s (SE a b c) (Uw ρ L a b (n+1+1) bT) st:=by
 unfold SE;refine wpS_bind (wpS_mono (wpS_forRange (I:=λx c ay=>Kp bT ay/\c.1=none/\cX ρ L a b (n+1+min x 1) c.2.2.2.1 c.2.1 c.2.2.1)
  (Q:=λc ay=>Kp bT ay/\((∃arr,c.1=some arr/\Good ρ L arr.toList)\/(c.1=none/\cX ρ L a b (n+1+1) c.2.2.2.1 c.2.1 c.2.2.1))) ?istep ?ifin ⟨hK,rfl,by simpa using hl⟩) ?ipost)
 case ifin =>
  rintro c ay ⟨hK,h1,hl⟩;rw[show min (max 0 (a.size+b.size)) 1=1 by omega]at hl
  exact⟨hK,.inr ⟨h1,hl⟩⟩
 case istep =>
  rintro m c ay _ hm ⟨hK,h1,hl⟩;refine wpS_mono (DC hL hk T hK hl) λr cM hr=>?_;obtain⟨k1,k2⟩:=hr;cases r with
  | done c=>exact⟨k1,k2⟩
  | yield c=>exact⟨k1,k2⟩
 case ipost =>
  rintro r ay ⟨hK,h⟩;exact DE hL hk T hK h
theorem rH{st:SortSt}{Q:Array Keyed->SortSt->Prop}(hL:eS M Ar E s ρ kd P)(hk:kindOf st=kd)(T:rN ρ P a b)
  (q:∀r ay,Kp st ay->Good ρ (a.toList++b.toList) r.toList->Q r ay):wpS M Ar E s (kA a b) Q st:=by
 rw[nX];have b1:=T.b1;have a1:=T.a1;refine wpS_bind (wpS_lift (wpAny_rule ⟨rfl,?_⟩));obtain⟨x,ex,px⟩:=cN T.pa (show a.size-1<a.size by omega)
 refine wpS_bind (aU ex ?_);have j0:W ρ (a.toList++b.toList) a b #[] a.size b.size:=by
  have e1:a.toList.take a.size=a.toList:=List.take_of_length_le (Nat.le_refl _);have e2:b.toList.take b.size=b.toList:=List.take_of_length_le (Nat.le_refl _);unfold W;rw[e1,e2];exact⟨List.Pairwise.nil,T.sa,T.sb,(λx hx y hy=>by cases hy),(λx hx y hy=>by cases hy),by simp⟩
 have j1:W ρ (a.toList++b.toList) a b #[x] (a.size-1) b.size:=by simpa using j0.mJ a1 ex λy hy=>T.z y (List.mem_of_mem_take hy) x ex
 by_cases e:a.size-1=0
 ·rw[if_pos (by simpa using e)]
  exact wpS_pure (q _ st .refl (by simpa using j1.fX e))
 ·rw[if_neg (by simpa using e)]
  by_cases e2:b.size=1
  ·rw[if_pos (by simpa using e2)]
   exact wpS_pure (q _ st .refl (by simpa using j1.nK e2 T.b1 T.y))
  ·rw[if_neg (by simpa using e2)]
   refine wpS_bind (wpS_get ?_);refine wpS_bind (wpS_mono (wpS_forRange (I:=λx c ay=>Kp st ay/\c.1=none/\cX ρ (a.toList++b.toList) a b (x+1) c.2.2.2.1 c.2.1 c.2.2.1)
    (Q:=λc ay=>Kp st ay/\∃arr,c.1=some arr/\Good ρ (a.toList++b.toList) arr.toList) ?step ?fin ⟨.refl,rfl,j1,by show 1<=a.size-1;omega,by show 2<=b.size;omega,by show a.size-1<=a.size;omega,by show b.size<=b.size;omega,by show a.size-1+b.size+(0+1)<=_;omega⟩) ?post)
   case fin =>
    rintro⟨ret,na,nb,out,g⟩ ay ⟨hK,h1,j,h2,h3,h4,h5,h6⟩;dsimp only at h2 h3 h4 h5 h6;omega
   case post =>
    rintro⟨ret,r⟩ ay ⟨hK,arr,h1,h2⟩;dsimp only at h1;subst h1;exact wpS_pure (q arr ay hK h2)
   case step =>
    rintro n c ay _ hn ⟨hK,h1,hl⟩;refine wpS_mono (DF hL hk T ⋯ hK hl) λr cM hr=>?_
    cases r with
    | done c=>exact hr
    | yield c=>exact hr
end
end Vs
namespace Vs
open PySem PyProof.Rows
abbrev Run:=Nat×Nat×Nat
theorem qG(i:Nat):mergeAt' i=(do
 let s <- get
 let (some (sa,na,power),some (sb,nb,_)):=((pendingOf s)[i]?,(pendingOf s)[i+1]?)|unsupported "internal:list.sort.pending"
 set (setPending s (((pendingOf s).setIfInBounds i (sa,na+nb,power)).eraseIdxIfInBounds (i+1)))
 let some k <- bZ false (<- elem' (arrOf s) sb) (arrOf s) sa na 0|return false
 let (sa,na):=(sa+k,na-k)
 if na==0 then return true
 let some nb <- bZ true (<- elem' (arrOf s) (sa+na-1)) (arrOf s) sb nb (nb-1)|return false
 if nb==0 then return true
 let x:=(arrOf s).extract sa sb
 let y:=(arrOf s).extract sb (sb+nb)
 let merged <- if na<=nb then kB x y else kA x y
 modify λs=>setArr s (merged.toList.zipIdx.foldl (λa (p,j)=>a.setIfInBounds (sa+j) p) (arrOf s))
 return(failedOf (<- get)).isNone):=rfl
def Ch(ρ:Keyed->Nat)(xs:Array Keyed):Nat->Nat->List Run->Prop
 | s,e,[]=>s=e
 | s,e,r::rs=>r.1=s/\1<=r.2.1/\Seg ρ xs s (s+r.2.1)/\Ch ρ xs (s+r.2.1) e rs
theorem Ch.app{ρ:Keyed->Nat}{xs:Array Keyed}:∀ {l m:List Run} {s e:Nat},Ch ρ xs s e (l++m) ↔ ∃t,Ch ρ xs s t l/\Ch ρ xs t e m
 | [],m,s,e=>⟨λh=>⟨s,rfl,h⟩,λ⟨t,h1,h2⟩=>by cases h1;exact h2⟩
 | r::l,m,s,e=>by
  constructor
  ·rintro⟨h1,h2,h3,h4⟩
   obtain⟨t,h5,h6⟩:=Ch.app.mp h4;exact⟨t,⟨h1,h2,h3,h5⟩,h6⟩
  ·rintro⟨t,⟨h1,h2,h3,h5⟩,h6⟩
   exact⟨h1,h2,h3,Ch.app.mpr ⟨t,h5,h6⟩⟩
theorem Ch.le{ρ:Keyed->Nat}{xs:Array Keyed}:∀ {l:List Run} {s e:Nat},Ch ρ xs s e l->s+l.length<=e
 | [],s,e,h=>by cases h;exact Nat.le_refl _
 | r::l,s,e,⟨_,h2,_,h4⟩=>by have:=Ch.le h4;simp only[List.length_cons];omega
theorem Seg.congr{ρ:Keyed->Nat}{xs ys:Array Keyed}{lo hi:Nat}(h:Seg ρ xs lo hi)(e:∀k,lo<=k->k<hi->ys[k]?=xs[k]?):Seg ρ ys lo hi:=λi j h1 h2 h3=>by
 rw[fC (e i h1 ⋯),fC (e j ⋯ h3)];exact h i j h1 h2 h3
theorem Ch.congr{ρ:Keyed->Nat}{xs ys:Array Keyed}:∀ {l:List Run} {s e:Nat},Ch ρ xs s e l->(∀k,s<=k->k<e->ys[k]?=xs[k]?)->Ch ρ ys s e l
 | [],s,e,h,_=>h
 | r::l,s,e,⟨h1,h2,h3,h4⟩,q=>by
  have:=Ch.le h4;exact⟨h1,h2,h3.congr λk a b=>q k a ⋯,Ch.congr h4 λk a b=>q k ⋯ b⟩
theorem oh(off:Nat):∀(m:List Keyed) (n:Nat) (xs:Array Keyed),off+n+m.length<=xs.size->∀k:Nat,
  ((m.zipIdx n).foldl (λa (p,j)=>a.setIfInBounds (off+j) p) xs)[k]?=(if off+n<=k/\k<off+n+m.length then m[k-(off+n)]? else xs[k]?)/\((m.zipIdx n).foldl (λa (p,j)=>a.setIfInBounds (off+j) p) xs).size=xs.size
 | [],n,xs,h,k=>⟨by rw[if_neg (by simp only[List.length_nil];omega)];rfl,rfl⟩
 | p::m,n,xs,h,k=>by
  simp only[List.length_cons]at h;rw[List.zipIdx_cons,List.foldl_cons];have ih:=oh off m (n+1) (xs.setIfInBounds (off+n) p) (by rw[Array.size_setIfInBounds];omega) k
  refine⟨?_,by rw[ih.2,Array.size_setIfInBounds]⟩
  rw[ih.1];simp only[List.length_cons]
  by_cases h1:off+(n+1)<=k/\k<off+(n+1)+m.length
  ·rw[if_pos h1,if_pos ⋯,show k-(off+n)=k-(off+(n+1))+1 by omega,List.getElem?_cons_succ]
  ·rw[if_neg h1]
   by_cases h2:k=off+n
   ·subst h2
    rw[if_pos ⋯,Nat.sub_self,List.getElem?_cons_zero,Array.getElem?_setIfInBounds_self_of_lt ⋯]
   ·rw[if_neg ⋯,Array.getElem?_setIfInBounds_ne ⋯]
theorem zZ{off:Nat}{m:List Keyed}{xs:Array Keyed}(h:off+m.length<=xs.size)(hp:m.Perm ((xs.toList.drop off).take m.length)):(m.zipIdx.foldl (λa (p,j)=>a.setIfInBounds (off+j) p) xs).Perm xs:=by
 rw[Array.perm_iff_toList_perm];have e:(m.zipIdx.foldl (λa (p,j)=>a.setIfInBounds (off+j) p) xs).toList=xs.toList.take off++(m++xs.toList.drop (off+m.length)):=by
  apply List.ext_getElem?;intro k;have:=(oh off m 0 xs (by simpa using h) k).1
  rw[Nat.add_zero]at this;rw[Array.getElem?_toList,this];have hl:(xs.toList.take off).length=off:=by rw[List.length_take];have:xs.toList.length=xs.size:=rfl;omega
  by_cases h1:k<off
  ·rw[if_neg ⋯,List.getElem?_append_left ⋯,List.getElem?_take_of_lt h1,Array.getElem?_toList]
  ·rw[List.getElem?_append_right ⋯,hl]
   by_cases h2:k<off+m.length
   ·rw[if_pos ⋯,List.getElem?_append_left ⋯]
   ·rw[if_neg ⋯,List.getElem?_append_right ⋯,List.getElem?_drop,show off+m.length+(k-off-m.length)=k by omega,Array.getElem?_toList]
 rw[e];have e2:xs.toList=xs.toList.take off++((xs.toList.drop off).take m.length++xs.toList.drop (off+m.length)):=by
  rw[<- List.drop_drop,List.take_append_drop,List.take_append_drop]
 exact(List.Perm.append_left _ (List.Perm.append_right _ hp)).trans (by rw[<- e2])
theorem kS{ρ:Keyed->Nat}{xs:Array Keyed}{i j:Nat}(h:Seg ρ xs i j)(hj:j<=xs.size):So ρ (xs.extract i j).toList:=by
 refine List.pairwise_iff_getElem.mpr λp q hp hq XY=>?_;rw[jR,List.length_drop,List.length_take]at hq;have hs:xs.toList.length=xs.size:=rfl;have:=h (i+p) (i+q) ⋯ ⋯ ⋯
 have e1:xs[i+p]?=some ((xs.extract i j).toList[p]):=by
  rw[Array.getElem?_eq_getElem ⋯];simp
 have e2:xs[i+q]?=some ((xs.extract i j).toList[q]):=by
  rw[Array.getElem?_eq_getElem ⋯];simp
 rw[cJ e1,cJ e2]at this;exact this
theorem ye{xs:Array Keyed}{i j m:Nat}(h:i+m<j)(hj:j<=xs.size):(xs.extract i j)[m]?=xs[i+m]?:=by
 rw[Array.getElem?_extract];rw[if_pos ⋯]
theorem gd{xs:Array Keyed}{i j:Nat}{x:Keyed}(h:x∈(xs.extract i j).toList):∃m,i<=m/\m<j/\m<xs.size/\xs[m]?=some x:=by
 rw[jR]at h;exact ft h
section
variable {M:Model}{Ar:Around}{E:Value->Shared->Prop}{s:Shared}{ρ:Keyed->Nat}{kd:SortKind}{P:Keyed->Prop}{a₀:Array Keyed}
theorem DB{key:Keyed}{arr:Array Keyed}{base n hint:Nat}{st:SortSt}{Q:Option Nat->SortSt->Prop}(hL:eS M Ar E s ρ kd P)(hk:kindOf st=kd)(pk:P key)(pa:∀i,i<n->∃x,arr[base+i]?=some x/\P x)(hs:Seg ρ arr base (base+n))(hn:hint<n)
  (q:∀k,k<=n->(∀i,base<=i->i<base+k->R ρ arr i<=ρ key)->(∀i,base+k<=i->i<base+n->ρ key<R ρ arr i)->Q (some k) st):wpS M Ar E s (bZ false key arr base n hint) Q st:=by
 refine cW (tells hL hk pk pa) (λi j ly hj h=>?_) hn λk nP h1 h2=>q k nP (λi hi B9=>?_) λi hi B9=>?_
 ·have:=hs (base+i) (base+j) ⋯ ⋯ ⋯
  simp only[mj,Bool.false_eq_true,if_false,Bool.not_eq_true',decide_eq_false_iff_not]at h ⊢;omega
 ·have:=h1 (i-base) ⋯
  simp only[mj,Bool.false_eq_true,if_false,Bool.not_eq_true',decide_eq_false_iff_not,show base+(i-base)=i by omega]at this
  omega
 ·have:=h2 (i-base) ⋯ ⋯
  simp only[mj,Bool.false_eq_true,if_false,show base+(i-base)=i by omega,Bool.not_eq_false',decide_eq_true_eq]at this
  exact this
theorem DA{key:Keyed}{arr:Array Keyed}{base n hint:Nat}{st:SortSt}{Q:Option Nat->SortSt->Prop}(hL:eS M Ar E s ρ kd P)(hk:kindOf st=kd)(pk:P key)(pa:∀i,i<n->∃x,arr[base+i]?=some x/\P x)(hs:Seg ρ arr base (base+n))(hn:hint<n)
  (q:∀k,k<=n->(∀i,base<=i->i<base+k->R ρ arr i<ρ key)->(∀i,base+k<=i->i<base+n->ρ key<=R ρ arr i)->Q (some k) st):wpS M Ar E s (bZ true key arr base n hint) Q st:=by
 refine cW (tells hL hk pk pa) (λi j ly hj h=>?_) hn λk nP h1 h2=>q k nP (λi hi B9=>?_) λi hi B9=>?_
 ·have:=hs (base+i) (base+j) ⋯ ⋯ ⋯
  simp only[mj,if_true,decide_eq_true_eq]at h ⊢;omega
 ·have:=h1 (i-base) ⋯
  simp only[mj,if_true,decide_eq_true_eq,show base+(i-base)=i by omega]at this
  exact this
 ·have:=h2 (i-base) ⋯ ⋯
  simp only[mj,if_true,show base+(i-base)=i by omega,decide_eq_false_iff_not]at this
  omega
theorem DK{st ay:SortSt}{Q:PUnit->SortSt->Prop}(h:Q ⟨⟩ ay):wpS M Ar E s (set ay:StateT SortSt Sem PUnit) Q st:=by
 unfold wpS;rw[StateT.run_set];exact wpAny_pure ⟨rfl,h⟩
theorem Kz{l:List Run}{i:Nat}(h:i+1<l.length):∃pre x y post,l=pre++x::y::post/\pre.length=i:=by
 refine⟨l.take i,l[i],l[i+1],l.drop (i+2),?_,by rw[List.length_take];omega⟩
 have e:=(List.take_append_drop i l).symm;rw[List.drop_eq_getElem_cons ⋯,List.drop_eq_getElem_cons h]at e
 exact e
theorem jx{st:SortSt}{i lo:Nat}{Q:Bool->SortSt->Prop}(hL:eS M Ar E s ρ kd P)(h0:∀p∈a₀.toList,P p)(hB:SI kd a₀ st)(rO:lo<=a₀.size)(hc:Ch ρ (arrOf st) 0 lo (pendingOf st).toList)(hi:i+1<(pendingOf st).size)
  (q:∀ay,SI kd a₀ ay->Ch ρ (arrOf ay) 0 lo (pendingOf ay).toList->(pendingOf ay).size+1=(pendingOf st).size->(∀k,lo<=k->(arrOf ay)[k]?=(arrOf st)[k]?)->Q true ay):wpS M Ar E s (mergeAt' i) Q st:=by
 rw[qG];refine wpS_bind (wpS_get ?_);obtain⟨pre,⟨sa,na,pw⟩,⟨sb,nb,Vp⟩,post,el,dQ⟩:=Kz (l:=(pendingOf st).toList) (i:=i) (by simpa using hi)
 have e1:(pendingOf st)[i]?=some (sa,na,pw):=by
  rw[<- Array.getElem?_toList,el,List.getElem?_append_right ⋯,dQ,Nat.sub_self];rfl
 have e2:(pendingOf st)[i+1]?=some (sb,nb,Vp):=by
  rw[<- Array.getElem?_toList,el,List.getElem?_append_right ⋯,dQ,Nat.add_sub_cancel_left];rfl
 have yV:(((pendingOf st).setIfInBounds i (sa,na+nb,pw)).eraseIdxIfInBounds (i+1)).toList=pre++(sa,na+nb,pw)::post:=by
  have hs:i+1<((pendingOf st).setIfInBounds i (sa,na+nb,pw)).size:=by rw[Array.size_setIfInBounds];exact hi
  rw[Array.eraseIdxIfInBounds,dif_pos hs,Array.toList_eraseIdx,Array.toList_setIfInBounds,el,<- dQ];rw[List.set_append_right _ _ (Nat.le_refl _),Nat.sub_self,List.set_cons_zero,List.eraseIdx_append_of_length_le (Nat.le_succ _),show pre.length.succ-pre.length=1 by omega]
  rfl
 have Nt:(((pendingOf st).setIfInBounds i (sa,na+nb,pw)).eraseIdxIfInBounds (i+1)).size+1=(pendingOf st).size:=by
  have a1:(((pendingOf st).setIfInBounds i (sa,na+nb,pw)).eraseIdxIfInBounds (i+1)).toList.length=(pre++(sa,na+nb,pw)::post).length:=by rw[yV]
  have a2:(pendingOf st).toList.length=(pre++(sa,na,pw)::(sb,nb,Vp)::post).length:=by rw[el]
  simp only[List.length_append,List.length_cons,Array.length_toList]at a1 a2;omega
 rw[e1,e2];dsimp only;refine wpS_bind (DK ?_);rw[el]at hc;obtain⟨t,c1,⟨rfl,c3,c4,rfl,c6,c7,c8⟩⟩:=Ch.app.mp hc;dsimp only at c1 c3 c4 c6 c7 c8 yV e1 e2 Nt ⊢;have hle:=Ch.le c8;have hsz:=hB.size;have LX:∀k,k<a₀.size->∃x,(arrOf st)[k]?=some x/\P x:=λk hk=>hB.at h0 hk;obtain⟨b0,eb,pb⟩:=LX (sa+na) ⋯
 refine wpS_bind (aU eb ?_);refine wpS_bind (DB hL hB.kind pb (λi hi=>LX _ ⋯) c4 ⋯ λk hk g1 g2=>?_)
 dsimp only
 -- the whole of both,from what becomes of the array
 have fin:∀(ys:Array Keyed) (ay:SortSt),arrOf ay=ys->pendingOf ay=((pendingOf st).setIfInBounds i (sa,na+nb,pw)).eraseIdxIfInBounds (i+1)->kindOf ay=kd->failedOf ay=none->ys.Perm (arrOf st) ->
   (∀k,k<sa\/sa+na+nb<=k->ys[k]?=(arrOf st)[k]?)->Seg ρ ys sa (sa+na+nb)->Q true ay:=λys ay h1 h2 h3 h4 h5 h6 h7=>by
  refine q ay ⟨by rw[h1];exact h5.trans hB.perm,h3,h4⟩ ?_ (by rw[h2];exact Nt) (λk hk=>by rw[h1];exact h6 k (.inr ⋯))
  rw[h1,h2,yV];refine Ch.app.mpr ⟨sa,c1.congr λk _ hk=>h6 k (.inl hk),rfl,?_,?_,?_⟩
  ·show 1<=na+nb;omega
  ·show Seg ρ ys sa (sa+(na+nb));rw[<- Nat.add_assoc];exact h7
  ·show Ch ρ ys (sa+(na+nb)) lo post
   rw[<- Nat.add_assoc];exact c8.congr λk hk _=>h6 k (.inr hk)
 have Yb:R ρ (arrOf st) (sa+na)=ρ b0:=cJ eb
 by_cases tY:na-k=0
 ·rw[if_pos (by simpa using tY)]
  refine wpS_pure (fin (arrOf st) _ rfl rfl hB.kind hB.failed (Array.Perm.refl _) (λ_ _=>rfl) λi j h1 h2 h3=>?_)
  by_cases hj:j<sa+na
  ·exact c4 i j h1 h2 hj
  ·by_cases sk:i<sa+na
   ·have:=g1 i h1 ⋯
    have:=c7 (sa+na) j ⋯ ⋯ h3
    omega
   ·exact c7 i j ⋯ h2 h3
 ·rw[if_neg (by simpa using tY)]
  obtain⟨al,ea,pa⟩:=LX (sa+k+(na-k)-1) ⋯
  have Ya:R ρ (arrOf st) (sa+na-1)=ρ al:=by rw[show sa+na-1=sa+k+(na-k)-1 by omega];exact cJ ea
  refine wpS_bind (aU ea ?_);refine wpS_bind (DA hL hB.kind pa (λi hi=>LX _ ⋯) c7 ⋯ λk2 UW g3 g4=>?_)
  dsimp only
  by_cases Nh:k2=0
  ·subst Nh
   rw[if_pos (by simp)]
   refine wpS_pure (fin (arrOf st) _ rfl rfl hB.kind hB.failed (Array.Perm.refl _) (λ_ _=>rfl) λi j h1 h2 h3=>?_)
   by_cases hj:j<sa+na
   ·exact c4 i j h1 h2 hj
   ·by_cases sk:i<sa+na
    ·have:=g4 j ⋯ h3
     have:=c4 i (sa+na-1) h1 ⋯ ⋯
     omega
    ·exact c7 i j ⋯ h2 h3
  ·rw[if_neg (by simpa using Nh)]
   have UH:∀i j,j<=a₀.size->∀x∈((arrOf st).extract i j).toList,P x:=λi j hj x hx=>by
    obtain⟨m,m1,m2,m3,m4⟩:=gd hx;obtain⟨y,ey,py⟩:=LX m ⋯
    rw[m4]at ey;cases ey;exact py
   have zx:((arrOf st).extract (sa+k) (sa+na)).size=na-k:=by rw[Array.size_extract];omega
   have zy:((arrOf st).extract (sa+na) (sa+na+k2)).size=k2:=by rw[Array.size_extract];omega
   have T:rN ρ P ((arrOf st).extract (sa+k) (sa+na)) ((arrOf st).extract (sa+na) (sa+na+k2)):=
    ⟨UH _ _ ⋯,UH _ _ ⋯,kS (λi j h1 h2 h3=>c4 i j ⋯ h2 h3) ⋯,kS (λi j h1 h2 h3=>c7 i j h1 h2 ⋯) ⋯,by omega,by omega,
     λy hy z hz=>by
      obtain⟨m,m1,m2,m3,m4⟩:=gd hy;rw[zx,ye ⋯ ⋯,show sa+k+(na-k-1)=sa+k+(na-k)-1 by omega,ea]at hz
      cases hz;have:=g3 m m1 m2;rw[cJ m4]at this;omega,
     λy hy z hz=>by
      obtain⟨m,m1,m2,m3,m4⟩:=gd hy;rw[ye ⋯ ⋯,Nat.add_zero,eb]at hz
      cases hz;have:=g2 m m1 m2;rw[cJ m4]at this;omega⟩
   have done:∀(r:Array Keyed) (ay:SortSt),Kp (setPending st (((pendingOf st).setIfInBounds i (sa,na+nb,pw)).eraseIdxIfInBounds (i+1))) ay->Good ρ (((arrOf st).extract (sa+k) (sa+na)).toList++((arrOf st).extract (sa+na) (sa+na+k2)).toList) r.toList ->
     wpS M Ar E s (do
      modify λs=>setArr s (r.toList.zipIdx.foldl (λa (p,j)=>a.setIfInBounds (sa+k+j) p) (arrOf s))
      let x <- get
      pure (failedOf x).isNone) Q ay:=λr ay hK hG=>by
    refine wpS_bind (wpS_modify (wpS_bind (wpS_get (wpS_pure ?_))));have ka:arrOf ay=arrOf st:=hK.a;have kp:pendingOf ay=_:=hK.p;have kf:failedOf ay=none:=hK.f.trans hB.failed;have kk:kindOf ay=kd:=hK.k.trans hB.kind;show Q (failedOf ay).isNone _;rw[kf];have hlen:r.toList.length=na-k+k2:=by
     have:=hG.2.length_eq;simp only[List.length_append,Array.length_toList,zx,zy]at this ⊢;exact this
    have UI:sa+k+r.toList.length<=(arrOf st).size:=by omega
    have get:=λm=>(oh (sa+k) r.toList 0 (arrOf st) (by simpa using UI) m).1
    simp only[Nat.add_zero]at get;have hX:((arrOf st).extract (sa+k) (sa+na)).toList++((arrOf st).extract (sa+na) (sa+na+k2)).toList=((arrOf st).toList.drop (sa+k)).take r.toList.length:=by
     rw[hlen,List.take_add,List.drop_drop,show sa+k+(na-k)=sa+na by omega]
     rw[show sa+na=sa+k+(na-k)by omega,jS,show sa+k+(na-k)=sa+na by omega,jS]
    refine fin _ _ (by show _=r.toList.zipIdx.foldl _ (arrOf st);rw[ka]) kp kk kf (zZ UI (by rw[<- hX];exact hG.2)) (λm hm=>by rw[get m,if_neg ⋯]) ?_
    have ry:∀m,¬(sa+k<=m/\m<sa+k+r.toList.length)->R ρ (r.toList.zipIdx.foldl (λa (p,j)=>a.setIfInBounds (sa+k+j) p) (arrOf st)) m=R ρ (arrOf st) m:=λm hm=>fC (by rw[get m,if_neg hm])
    have rz:∀m (h:m-(sa+k)<r.toList.length),sa+k<=m->R ρ (r.toList.zipIdx.foldl (λa (p,j)=>a.setIfInBounds (sa+k+j) p) (arrOf st)) m=ρ (r.toList[m-(sa+k)]):=λm h hm=>by
     refine cJ ?_;rw[get m,if_pos ⋯,List.getElem?_eq_getElem h]
    have low:∀z∈r.toList,∀i,sa<=i->i<sa+k->R ρ (arrOf st) i<=ρ z:=λz hz i i1 i2=>by
     rcases List.mem_append.mp (hG.2.mem_iff.mp hz)with hz|hz
     ·obtain⟨m,m1,m2,m3,m4⟩:=gd hz
      rw[<- cJ (ρ:=ρ) m4];exact c4 i m i1 ⋯ m2
     ·obtain⟨m,m1,m2,m3,m4⟩:=gd hz
      have:=g1 i i1 i2;have:=c7 (sa+na) m ⋯ m1 ⋯
      rw[<- cJ (ρ:=ρ) m4];omega
    have high:∀z∈r.toList,∀j,sa+na+k2<=j->j<sa+na+nb->ρ z<=R ρ (arrOf st) j:=λz hz j j1 j2=>by
     rcases List.mem_append.mp (hG.2.mem_iff.mp hz)with hz|hz
     ·obtain⟨m,m1,m2,m3,m4⟩:=gd hz
      have:=g4 j j1 j2;have:=c4 m (sa+na-1) ⋯ ⋯ ⋯
      rw[<- cJ (ρ:=ρ) m4];omega
     ·obtain⟨m,m1,m2,m3,m4⟩:=gd hz
      rw[<- cJ (ρ:=ρ) m4];exact c7 m j m1 ⋯ j2
    intro i j h1 h2 h3
    by_cases i1:i<sa+k
    ·rw[ry i ⋯]
     by_cases j1:j<sa+k
     ·rw[ry j ⋯];exact c4 i j h1 h2 ⋯
     ·by_cases j2:j<sa+k+r.toList.length
      ·rw[rz j ⋯ ⋯];exact low _ (List.getElem_mem _) i h1 i1
      ·rw[ry j ⋯]
       have:=g1 i h1 i1;have:=c7 (sa+na) j ⋯ ⋯ h3
       omega
    ·by_cases i2:i<sa+k+r.toList.length
     ·rw[rz i ⋯ ⋯]
      by_cases j2:j<sa+k+r.toList.length
      ·rw[rz j ⋯ ⋯]
       by_cases e:i=j
       ·subst e;exact Nat.le_refl _
       ·exact List.pairwise_iff_getElem.mp hG.1 _ _ ⋯ ⋯ ⋯
      ·rw[ry j ⋯];exact high _ (List.getElem_mem _) j ⋯ h3
     ·rw[ry i ⋯,ry j ⋯];exact c7 i j ⋯ h2 h3
   by_cases Nk:na-k<=k2
   ·rw[if_pos Nk]
    exact wpS_bind (rJ hL hB.kind T done)
   ·rw[if_neg Nk]
    exact wpS_bind (rH hL hB.kind T done)
end
end Vs
namespace Vs
open PySem PyProof.Rows
theorem Ch.modify{ρ:Keyed->Nat}{xs:Array Keyed}{f:Run->Run}(hf:∀r,(f r).1=r.1/\(f r).2.1=r.2.1):∀(l:List Run) (i s e:Nat),Ch ρ xs s e l->Ch ρ xs s e (l.modify i f)
 | [],i,s,e,h=>by rw[List.modify_nil];exact h
 | r::l,0,s,e,⟨h1,h2,h3,h4⟩=>by
  rw[List.modify_zero_cons];exact⟨(hf r).1.trans h1,by rw[(hf r).2];exact h2,by rw[(hf r).2];exact h3,by rw[(hf r).2];exact h4⟩
 | r::l,i+1,s,e,⟨h1,h2,h3,h4⟩=>by
  rw[List.modify_succ_cons];exact⟨h1,h2,h3,Ch.modify hf l i _ _ h4⟩
section
variable {M:Model}{Ar:Around}{E:Value->Shared->Prop}{s:Shared}{ρ:Keyed->Nat}{kd:SortKind}{P:Keyed->Prop}{a₀:Array Keyed}
theorem SI.uP{st:SortSt}(h:SI kd a₀ st)(p:Array Run):SI kd a₀ (setPending st p):=⟨h.perm,h.kind,h.failed⟩
def gY(lo n:Nat):StateT SortSt Sem (ForInStep (Option Unit×Nat)):=do
 modify λs=>setPending s ((pendingOf s).push (lo,n,0))
 pure (ForInStep.yield (none,lo+n))
def fF(size pw:Nat):StateT SortSt Sem (Option Unit×Unit):=
 forIn [:size] ((none,()):Option Unit×Unit) λ_ _=>do
  let x <- get
  match(if(pendingOf x).size>1 then(pendingOf x)[(pendingOf x).size-2]? else none)with
  | some (_,_,OD) =>
   if OD<=pw then pure (ForInStep.done (none,()))
   else do
    let r <- mergeAt' ((pendingOf x).size-2)
    if(!r)=true then pure (ForInStep.done (some (),()))else pure (ForInStep.yield (none,()))
  | _=>pure (ForInStep.done (none,()))
def fI(size lo n:Nat):StateT SortSt Sem (ForInStep (Option Unit×Nat)):=do
 let x <- get
 match(pendingOf x).back? with
 | some (s1,n1,_)=>do
  let r <- fF size (power' size (2*s1+n1) (2*s1+n1+n1+n) size)
  match r.fst with
  | some r=>pure (ForInStep.done (some r,lo))
  | none=>do
   modify λs=>setPending s ((pendingOf s).modify ((pendingOf s).size-1) λx=>(x.fst,x.2.fst,power' size (2*s1+n1) (2*s1+n1+n1+n) size))
   gY lo n
 | _=>gY lo n
theorem jy{st:SortSt}{lo n:Nat}{Q:ForInStep (Option Unit×Nat)->SortSt->Prop}(hB:SI kd a₀ st)(hc:Ch ρ (arrOf st) 0 lo (pendingOf st).toList)(hn:1<=n)(hs:Seg ρ (arrOf st) lo (lo+n))
  (q:∀ay,SI kd a₀ ay->Ch ρ (arrOf ay) 0 (lo+n) (pendingOf ay).toList->Q (.yield (none,lo+n)) ay):wpS M Ar E s (gY lo n) Q st:=by
 unfold gY;refine wpS_bind (wpS_modify (wpS_pure (q _ (hB.uP _) ?_)));show Ch ρ (arrOf st) 0 (lo+n) ((pendingOf st).push (lo,n,0)).toList;rw[Array.toList_push];exact Ch.app.mpr ⟨lo,hc,rfl,hn,hs,rfl⟩
theorem lU{st:SortSt}{pw lo n:Nat}{Q:Option Unit×Unit->SortSt->Prop}(hL:eS M Ar E s ρ kd P)(h0:∀p∈a₀.toList,P p)(hB:SI kd a₀ st)(rO:lo<=a₀.size)(hc:Ch ρ (arrOf st) 0 lo (pendingOf st).toList)(hs:Seg ρ (arrOf st) lo (lo+n))
  (q:∀ay,SI kd a₀ ay->Ch ρ (arrOf ay) 0 lo (pendingOf ay).toList->Seg ρ (arrOf ay) lo (lo+n)->Q (none,()) ay):wpS M Ar E s (fF a₀.size pw) Q st:=by
 unfold fF;refine wpS_forRange (I:=λx c ay=>c=(none,())/\SI kd a₀ ay/\Ch ρ (arrOf ay) 0 lo (pendingOf ay).toList/\Seg ρ (arrOf ay) lo (lo+n)) ?step ?fin ⟨rfl,hB,hc,hs⟩
 case fin =>
  rintro c ay ⟨rfl,h1,h2,h3⟩;exact q ay h1 h2 h3
 case step =>
  rintro x c ay _ hx ⟨rfl,h1,h2,h3⟩;refine wpS_bind (wpS_get ?_)
  by_cases hz:(pendingOf ay).size>1
  ·rw[if_pos hz]
   have e:(pendingOf ay)[(pendingOf ay).size-2]?=some (pendingOf ay)[(pendingOf ay).size-2]:=Array.getElem?_eq_getElem ⋯
   rw[e];dsimp only
   split
   ·exact wpS_pure (q ay h1 h2 h3)
   ·refine wpS_bind (jx hL h0 h1 rO h2 ⋯ λwu b1 b2 b3 b4=>?_)
    simp only[Bool.not_true,Bool.false_eq_true,if_false];exact wpS_pure ⟨rfl,b1,b2,h3.congr λk hk _=>b4 k hk⟩
  ·rw[if_neg hz]
   exact wpS_pure (q ay h1 h2 h3)
theorem rK{st:SortSt}{lo n:Nat}{Q:ForInStep (Option Unit×Nat)->SortSt->Prop}(hL:eS M Ar E s ρ kd P)(h0:∀p∈a₀.toList,P p)(hB:SI kd a₀ st)(rO:lo<=a₀.size)(hc:Ch ρ (arrOf st) 0 lo (pendingOf st).toList)(hn:1<=n)(hs:Seg ρ (arrOf st) lo (lo+n))
  (q:∀ay,SI kd a₀ ay->Ch ρ (arrOf ay) 0 (lo+n) (pendingOf ay).toList->Q (.yield (none,lo+n)) ay):wpS M Ar E s (fI a₀.size lo n) Q st:=by
 unfold fI;refine wpS_bind (wpS_get ?_)
 split
 ·refine wpS_bind (lU hL h0 hB rO hc hs λay b1 b2 b3=>?_)
  dsimp only;refine wpS_bind (wpS_modify (jy (b1.uP _) ?_ hn b3 q));show Ch ρ (arrOf ay) 0 lo ((pendingOf ay).modify _ _).toList;rw[Array.toList_modify];refine Ch.modify ?_ _ _ _ _ b2;intro r;exact⟨rfl,rfl⟩
 ·exact jy hB hc hn hs q
theorem Hj(c:Prop)[Decidable c]{n:Nat}(h:2<=n):(if c then n-2-1 else n-2)+1<n:=by split<;>omega
local macro_rules|`(tactic| walk_at "s_rest")=>`(tactic| (unfold fI fF gY;congr 1;funext x;cases e:(pendingOf x).back? with
  | none=>rfl
  | some y=>(obtain⟨s1,n1,p1⟩:=y;dsimp only;congr 1;funext r;obtain⟨r1,r2⟩:=r;cases r1<;>rfl)))
theorem wpS_sortRuns{st:SortSt}{Q:Unit->SortSt->Prop}(hL:eS M Ar E s ρ kd P)(h0:∀p∈a₀.toList,P p)(hB:SI kd a₀ st)(hp:pendingOf st=#[])(h2:2<=a₀.size)
  (h:∀ay,SI kd a₀ ay->Seg ρ (arrOf ay) 0 a₀.size->Q () ay):wpS M Ar E s sortRuns' Q st:=by
 rw[sortRuns'_eq];refine wpS_bind (wpS_get ?_);dsimp only;rw[hB.size];generalize minRun' a₀.size a₀.size 0=mr;refine wpS_bind (wpS_mono (wpS_forRange (I:=λx c ay=>SI kd a₀ ay/\∃lo,c=(none,lo)/\lo<=a₀.size/\(x<=lo\/lo=a₀.size)/\Ch ρ (arrOf ay) 0 lo (pendingOf ay).toList)
  (Q:=λc ay=>SI kd a₀ ay/\c=(none,a₀.size)/\Ch ρ (arrOf ay) 0 a₀.size (pendingOf ay).toList) ?step ?fin ⟨hB,0,rfl,Nat.zero_le _,.inl (Nat.le_refl _),by rw[hp];rfl⟩) ?post)
 case fin =>
  rintro c ay ⟨gh,lo,rfl,l1,l2,hc⟩;have:lo=a₀.size:=by omega
  subst this;exact⟨gh,rfl,hc⟩
 case step =>
  rintro x c ay _ hx ⟨gh,lo,rfl,l1,l2,hc⟩;dsimp only
  by_cases pj:lo>=a₀.size
  ·rw[if_pos pj]
   have:lo=a₀.size:=by omega
   subst this;exact wpS_pure ⟨gh,rfl,hc⟩
  ·rw[if_neg pj]
   refine wpS_bind (wpS_countRun hL h0 ⋯ ⋯ gh λm QZ f1 m1 m2 s1=>?_)
   dsimp only;have UJ:Ch ρ (arrOf QZ) 0 lo (pendingOf QZ).toList:=by rw[f1.pend];exact hc.congr λk _ hk=>f1.same k hk
   have go:∀n wu,1<=n->lo+n<=a₀.size->SI kd a₀ wu->Ch ρ (arrOf wu) 0 lo (pendingOf wu).toList->Seg ρ (arrOf wu) lo (lo+n)->wpS M Ar E s (fI a₀.size lo n) (λr ay =>
     match r with
     | ForInStep.done c'=>SI kd a₀ ay/\c'=(none,a₀.size)/\Ch ρ (arrOf ay) 0 a₀.size (pendingOf ay).toList
     | ForInStep.yield c'=>SI kd a₀ ay/\∃lo,c'=(none,lo)/\lo<=a₀.size/\(x+1<=lo\/lo=a₀.size)/\Ch ρ (arrOf ay) 0 lo (pendingOf ay).toList) wu:=λn wu n1 n2 b1 b2 b3 =>
    rK hL h0 b1 l1 b2 n1 b3 λay b1 b2=>⟨b1,lo+n,rfl,n2,by omega,b2⟩
   by_cases iG:m<mr
   ·rw[if_pos iG]
    refine wpS_bind (wpS_lift (wpAny_rule ⟨rfl,?_⟩));refine wpS_bind (wpS_binarySort hL h0 ⋯ ⋯ f1.si s1 λwu f2 s2=>?_)
    simp only[Bool.not_true,Bool.false_eq_true,if_false];have z:=go (min (a₀.size-lo) mr) wu ⋯ ⋯ f2.si (by rw[f2.pend];exact UJ.congr λk _ hk=>f2.same k hk) s2
    refine wpS_mono (Q:=_) (Eq.mpr (congrArg (λt=>wpS M Ar E s t _ wu) (?_:_=fI a₀.size lo (min (a₀.size-lo) mr))) z) ?_
    ·walk_at "s_rest"
    ·intro r cM hr
     cases r<;>exact hr
   ·rw[if_neg iG]
    have z:=go m QZ m1 ⋯ f1.si UJ s1
    refine wpS_mono (Q:=_) (Eq.mpr (congrArg (λt=>wpS M Ar E s t _ QZ) (?_:_=fI a₀.size lo m)) z) ?_
    ·walk_at "s_rest"
    ·intro r cM hr
     cases r<;>exact hr
 case post =>
  rintro c ay ⟨gh,rfl,hc⟩;dsimp only;have dQ:(pendingOf ay).size<=a₀.size:=by have:=Ch.le hc;simp only[Array.length_toList]at this;omega
  refine wpS_bind (wpS_mono (wpS_forRange (I:=λx c ay=>c=(none,())/\SI kd a₀ ay/\Ch ρ (arrOf ay) 0 a₀.size (pendingOf ay).toList/\((pendingOf ay).size+x<=a₀.size\/(pendingOf ay).size<=1))
   (Q:=λc ay=>c=(none,())/\SI kd a₀ ay/\Ch ρ (arrOf ay) 0 a₀.size (pendingOf ay).toList/\(pendingOf ay).size<=1) ?fstep ?ffin ⟨rfl,gh,hc,.inl ⋯⟩) ?fpost)
  case ffin =>
   rintro c ay ⟨rfl,b1,b2,b3⟩;exact⟨rfl,b1,b2,by omega⟩
  case fstep =>
   rintro x c ay _ hx ⟨rfl,b1,b2,b3⟩;refine wpS_bind (wpS_get ?_)
   try dsimp only
   by_cases hz:(pendingOf ay).size<=1
   ·rw[if_pos hz]
    exact wpS_pure ⟨rfl,b1,b2,hz⟩
   ·rw[if_neg hz]
    refine wpS_bind (jx hL h0 b1 (Nat.le_refl _) b2 ?_ λwu c1 c2 c3 c4=>?_)
    ·exact Hj _ ⋯
    ·simp only[Bool.not_true,Bool.false_eq_true,if_false]
     exact wpS_pure ⟨rfl,c1,c2,by omega⟩
  case fpost =>
   rintro c ay ⟨rfl,b1,b2,b3⟩;refine wpS_pure (h ay b1 ?_);have hl:(pendingOf ay).toList.length<=1:=by simpa using b3
   generalize (pendingOf ay).toList=l at b2 hl
   match l,b2,hl with
   | [],b2,_=>have:0=a₀.size:=b2;omega
   | [r],⟨_,_,h3,h4⟩,_ =>
    have h4:0+r.2.1=a₀.size:=h4;rw[h4]at h3;exact h3
   | _::_::_,_,hl=>simp at hl
end
end Vs
namespace Vs
open PySem PyProof.Rows PySem.W
theorem iX:∀a:List Int,HT.lexLt a a=false
 | []=>rfl
 | x::a=>by rw[HT.eA,if_pos rfl];exact iX a
theorem fb:∀a b c:List Int,HT.lexLt a b=true->HT.lexLt b c=true->HT.lexLt a c=true
 | [],[],_,h,_=>by cases h
 | [],_::_,[],_,h=>by cases h
 | [],_::_,_::_,_,_=>rfl
 | _::_,[],_,h,_=>by cases h
 | _::_,_::_,[],_,h=>by cases h
 | x::a,y::b,z::c,h1,h2=>by
  rw[HT.eA]at h1 h2 ⊢
  by_cases e1:x=y
  ·rw[if_pos e1]at h1
   by_cases e2:y=z
   ·rw[if_pos e2]at h2
    rw[if_pos (e1.trans e2)];exact fb a b c h1 h2
   ·rw[if_neg e2]at h2
    have:=of_decide_eq_true h2;rw[if_neg ⋯];exact decide_eq_true ⋯
  ·rw[if_neg e1]at h1
   have h1:=of_decide_eq_true h1
   by_cases e2:y=z
   ·rw[if_neg ⋯];exact decide_eq_true ⋯
   ·rw[if_neg e2]at h2
    have:=of_decide_eq_true h2;rw[if_neg ⋯];exact decide_eq_true ⋯
theorem nW:∀a b:List Int,HT.lexLt a b=false->HT.lexLt b a=false->a=b
 | [],[],_,_=>rfl
 | [],_::_,h,_=>by cases h
 | _::_,[],_,h=>by cases h
 | x::a,y::b,h1,h2=>by
  rw[HT.eA]at h1 h2
  by_cases e1:x=y
  ·rw[if_pos e1]at h1
   rw[if_pos e1.symm]at h2;rw[e1,nW a b h1 h2]
  ·rw[if_neg e1]at h1
   rw[if_neg (Ne.symm e1)]at h2;have:=of_decide_eq_false h1;have:=of_decide_eq_false h2;omega
def rk(d:Keyed->List Int)(l:List Keyed)(x:Keyed):Nat:=l.countP λp=>HT.lexLt (d p) (d x)
theorem mq{α:Type}{p q:α->Bool}:∀ {l:List α} {x:α},(∀y,p y=true->q y=true)->x∈l->p x=false->q x=true->l.countP p<l.countP q
 | y::l,x,h,hx,h1,h2=>by
  rcases List.mem_cons.mp hx with rfl|hx
  ·rw[List.countP_cons_of_neg (by rw[h1];decide),List.countP_cons_of_pos h2]
   exact Nat.lt_succ_of_le (List.countP_mono_left λy _=>h y)
  ·have ih:=mq h hx h1 h2
   rw[List.countP_cons,List.countP_cons];cases e:p y with
   | true=>rw[h y e];simpa using ih
   | false=>split<;>split<;>first|omega | (exfalso;simp_all)
theorem uM{d:Keyed->List Int}{l:List Keyed}{x y:Keyed}(hx:x∈l):decide (rk d l x<rk d l y)=HT.lexLt (d x) (d y):=by
 cases e:HT.lexLt (d x) (d y)with
 | true =>
  refine decide_eq_true (mq (x:=x) (λp hp=>fb _ _ _ hp e) hx (iX _) e)
 | false =>
  refine decide_eq_false (Nat.not_lt.mpr (List.countP_mono_left λp _ hp=>?_));cases e2:HT.lexLt (d p) (d x)with
  | true=>rfl
  | false =>
   cases e3:HT.lexLt (d x) (d p)with
   | true=>rw[fb _ _ _ e3 hp]at e;cases e
   | false =>
    rw[nW _ _ e2 e3]at hp;rw[hp]at e;cases e
section
variable {prog:Program}{w:World}{A:Around}{E:Value->Shared->Prop}{s:Shared}
theorem jo{b:Bool}{Q:Bool->Shared->Prop}:∀ {vs ws:List Value} {ns ms:List Int} (i:Nat) (fin:Bool),IntsAre vs ns->IntsAre ws ms->fin=decide (vs.length<ws.length)->Q (HT.lexLt ns ms) s->KatLex prog w A b fin Q (vs.zip ws) i s
 | _,_,_,_,i,fin,.nil,.nil,e,q=>by subst e;exact kat_nil q
 | _,_,_,_,i,fin,.nil,.cons _ _ _,e,q=>by subst e;rw[HT.ku]at q;exact kat_nil (by simpa using q)
 | _,_,_,_,i,fin,.cons _ _ _,.nil,e,q=>by subst e;rw[HT.kr]at q;exact kat_nil (by simpa using q)
 | _,_,_,_,i,fin,.cons n t h1,.cons m u h2,e,q=>by
  rw[List.zip_cons_cons];refine kat_cons (wpAny_eqBool_int ?_);rw[HT.eA]at q
  by_cases h:n=m
  ·rw[if_pos h]at q
   rw[show(n==m)=true from by simpa using h]
   exact kat_yes (jo (i+1) fin h1 h2 (by rw[e];simp) q)
  ·rw[if_neg h]at q
   rw[show(n==m)=false from by simpa using h]
   refine kat_no ?_;cases(b&&i==0)with
   | true=>exact oneLt_int q
   | false=>exact kat_one _ _ (lt_int q)
def nh(h:Heap)(v:Value)(ns:List Int):Prop:=∃a o xs n,v=.ref a/\h.get? a=some o/\o.cls=.type "tuple"/\o.data=.seq xs n/\IntsAre xs.toList ns
theorem nh.kept{h g:Heap}{v:Value}{ns:List Int}(t:nh h v ns)(k:∀b o,h.get? b=some o->g.get? b=some o):nh g v ns:=by
 obtain⟨a,o,xs,n,e,ho,r⟩:=t;exact⟨a,o,xs,n,e,k _ _ ho,r⟩
theorem vO{b:Bool}{v u:Value}{ns ms:List Int}{Q:Bool->Shared->Prop}(h1:nh s.heap v ns)(h2:nh s.heap u ms)(q:Q (HT.lexLt ns ms) s):wpAny (model prog w) A (keyLt' (tuples' b) v u) Q E s:=by
 obtain⟨a,o,xs,n,rfl,ho,hc,hd,hi⟩:=h1;obtain⟨a2,o2,Ye,n2,rfl,KZ,Sj,hd2,B9⟩:=h2;exact kat_lt ho hd KZ hd2 (jo 0 _ hi B9 (by simp) q)
theorem Cz{b:Bool}{l:List Keyed}{d:Keyed->List Int}(h:∀x∈l,nh s.heap x.1 (d x)):eS (model prog w) A E s (rk d l) (tuples' b) (λx=>x∈l):=λx y st Q hx hy hk q=>by
 rw[uM hx]at q;rw[lt'_eq];refine wpS_bind (wpS_get ?_);rw[hk];exact wpS_bind (wpS_lift (wpAny_attempt (vO (h x hx) (h y hy) ⟨rfl,wpS_pure q⟩)))
theorem zb{vs:List Value}{Q:SortKind->Shared->Prop}(hl:0<vs.length)(h:∀v∈vs,∃ns,nh s.heap v ns/\ns≠[])(q:Q (tuples' true) s):wpAny (model prog w) A (keyKind' vs.toArray) Q E s:=by
 have key:∀vs:List Value,(∀v∈vs,∃ns,nh s.heap v ns/\ns≠[])->∃fs,KatTups s.heap vs fs/\fs.length=vs.length/\∀v∈fs,∃n t,v=Value.int n t:=by
  intro vs
  induction vs with
  | nil=>intro _;exact⟨[],KatTups.nil,rfl,λv hv=>by cases hv⟩
  | cons v vs ih =>
   intro h;obtain⟨ns,⟨a,o,xs,n,rfl,ho,hc,hd,hi⟩,ck⟩:=h v (List.mem_cons_self ..);obtain⟨fs,f1,f2,f3⟩:=ih λu hu=>h u (List.mem_cons_of_mem _ hu);obtain⟨f,hf,hn⟩:∃f,xs[0]?=some f/\∃n t,f=Value.int n t:=by
    rw[<- Array.getElem?_toList];generalize xs.toList=ys at hi;cases hi with
    | nil=>exact absurd rfl ck
    | cons n t _=>exact⟨_,rfl,n,t,rfl⟩
   refine⟨f::fs,KatTups.cons ho hc hd hf f1,by simp [f2],λv hv=>?_⟩
   rcases List.mem_cons.mp hv with rfl|hv
   ·exact hn
   ·exact f3 v hv
 obtain⟨fs,f1,f2,f3⟩:=key vs h;refine kat_kind (T:=.type "int") f1 ⋯ (λv hv=>?_) rfl q
 obtain⟨n,t,rfl⟩:=f3 v hv;exact Looks.now
theorem lE{a:Addr}{vs:List Value}{n:Nat}{kd:SortKind}{ρ:Keyed->Nat}{P:Keyed->Prop}{Pf:PySem.Fin->Shared->Prop}(ho:s.heap.get? a=some (seqObj "list" vs.toArray n))(hz:vs.length<=sizeLine)(h0:∀p∈(pairsOf vs).toList,P p)
  (hk:2<=vs.length->∀g:Heap,(∀b o,b≠a->s.heap.get? b=some o->g.get? b=some o)->(∀Q:SortKind->Shared->Prop,Q kd {s with heap:=g}->wpAny (model prog w) A (keyKind' vs.toArray) Q E {s with heap:=g})/\eS (model prog w) A E {s with heap:=g} ρ kd P)
  (h:∀(xs:Array Keyed) (g:Heap) (c:Nat),xs.Perm (pairsOf vs)->Seg ρ xs 0 vs.length->(∀b o,b≠a->s.heap.get? b=some o->g.get? b=some o)->g.get? a=some (seqObj "list" (xs.map (·.2)) c)->Pf (.done (.ret .none)) {s with heap:=g}):
  wpAny (model prog w) A (Builtin.«list.sort» ⟨[.ref a],[]⟩) Pf E s:=by
 rw[list_sort_plain];have ha:a<s.heap.objs.size:=Heap.lt_size ho;have hsz:vs.toArray.size=vs.length:=by simp
 refine wpAny_bind (listItems_at ho rfl ?_);refine wpAny_bind (listUpdate_at ho rfl ?_ (by rw[hsz];exact hz) (Nat.zero_le _))
 obtain⟨e1,U1⟩:∃e1,(s.heap.update a (Obj.mapSeq λ_=>#[])).get? a=some (seqObj "list" #[] e1):=⟨_,get?_update_seq ho (λ_=>#[])⟩;refine wpAny_bind (seqEpoch_at U1 rfl ?_);refine wpAny_bind (wpAny_newTuple ?_ (by show vs.length<=_;exact hz))
 refine wpAny_bind (wpAny_newList ?_ (Nat.zero_le _));refine wpAny_holding ?_;have keep:∀b o,b≠a->s.heap.get? b=some o->(((s.heap.update a (Obj.mapSeq λ_=>#[])).push (seqObj "tuple" vs.toArray 0)).push (seqObj "list" #[] 0)).get? b=some o:=λb o hb e =>
  Heap.get?_push_of_some _ (Heap.get?_push_of_some _ ((Heap.get?_update_other _ _ (Ne.symm hb)).trans e))
 have K0:(((s.heap.update a (Obj.mapSeq λ_=>#[])).push (seqObj "tuple" vs.toArray 0)).push (seqObj "list" #[] 0)).get? a=some (seqObj "list" #[] e1):=Heap.get?_push_of_some _ (Heap.get?_push_of_some _ U1);show wpAny (model prog w) A _ Pf E {s with heap:=((s.heap.update a (Obj.mapSeq λ_=>#[])).push (seqObj "tuple" vs.toArray 0)).push (seqObj "list" #[] 0)}
 dsimp only;generalize XT:((s.heap.update a (Obj.mapSeq λ_=>#[])).push (seqObj "tuple" vs.toArray 0)).push (seqObj "list" #[] 0)=g6 at keep K0;have fin:∀xs:Array Keyed,xs.Perm (pairsOf vs)->Seg ρ xs 0 vs.length->Pf (.done (.ret .none)) {s with heap:=g6.update a (Obj.mapSeq λ_=>xs.map (·.2))}:=λxs hp hs =>
  h xs _ _ hp hs (λb o hb e=>(Heap.get?_update_other _ _ (Ne.symm hb)).trans (keep b o hb e)) (get?_update_seq K0 λ_=>xs.map (·.2))
 by_cases h2:vs.toArray.size<2
 ·rw[if_pos h2,if_pos h2]
  refine wpAny_bind (wpAny_pure ?_);rw[StateT.run_pure];refine wpAny_bind (wpAny_pure ?_);dsimp only;refine wpAny_bind (seqEpoch_at K0 rfl ?_);refine wpAny_bind (listUpdate_at K0 rfl ?_ (Nat.zero_le _) (by rw[Array.size_map];show(pairsOf vs).size<=_;rw[pairsOf_size];exact Nat.le_succ_of_le hz))
  simp only[bne_self_eq_false,Bool.false_eq_true,if_false];refine wpAny_pure (fin _ (Array.Perm.refl _) λi j _ ly hj=>?_);have:i=j:=by omega
  subst this;exact Nat.le_refl _
 ·rw[if_neg h2,if_neg h2]
  obtain⟨k1,k2⟩:=hk ⋯ g6 keep
  refine wpAny_bind (k1 _ ?_);refine wpAny_bind (wpAny_mono (wpS_sortRuns (a₀:=pairsOf vs) (kd:=kd) (st:=SortSt.mk' kd (vs.toArray.zip vs.toArray) #[] 7 none)
   (Q:=λ_ ay=>SI kd (pairsOf vs) ay/\Seg ρ (arrOf ay) 0 (pairsOf vs).size) k2 h0 ⟨Array.Perm.refl _,rfl,rfl⟩ rfl (by rw[pairsOf_size];omega) λay a1 a2=>⟨a1,a2⟩) ?_ λ_ _ e=>e)
  rintro⟨⟨⟩,ay⟩ s' ⟨rfl,hp,hs⟩;dsimp only;refine wpAny_bind (seqEpoch_at K0 rfl ?_);refine wpAny_bind (listUpdate_at K0 rfl ?_ (Nat.zero_le _) (by refine Nat.le_trans (Nat.le_of_eq ((Array.size_map ..).trans (hp.size.trans (pairsOf_size _)))) ?_;exact Nat.le_succ_of_le hz))
  rw[hp.failed];simp only[bne_self_eq_false,Bool.false_eq_true,if_false];rw[pairsOf_size]at hs;exact wpAny_pure (fin _ hp.perm hs)
theorem kT{l:Addr}{vs:List Value}{kd:SortKind}{ρ:Keyed->Nat}{P:Keyed->Prop}{Q:Value->Shared->Prop}(hl:s.heap.IsList l vs.toArray)(hz:vs.length<=sizeLine)(h0:∀p∈(pairsOf vs).toList,P p)
  (hk:2<=vs.length->∀(A':Around) (E':Value->Shared->Prop) (g:Heap),(∀b o,s.heap.get? b=some o->g.get? b=some o)->(∀Q:SortKind->Shared->Prop,Q kd {s with heap:=g}->wpAny (model prog w) A' (keyKind' vs.toArray) Q E' {s with heap:=g})/\eS (model prog w) A' E' {s with heap:=g} ρ kd P)
  (h:∀(xs:Array Keyed) (g:Heap) (c:Nat),xs.Perm (pairsOf vs)->Seg ρ xs 0 vs.length->(∀b o,s.heap.get? b=some o->g.get? b=some o)->g.get? (s.heap.objs.size+1)=some (seqObj "list" (xs.map (·.2)) c)->Q (.ref (s.heap.objs.size+1)) {s with heap:=g}):
  wpAny (model prog w) A (call (.builtin "sorted") [.ref l]) Q E s:=by
 refine Calls.call_function_entry kind_sorted plain_sorted entry_sorted (args_sorted1 _) ?_;unfold Builtin.«sorted»;refine wpAny_bind (m:=checkCount "sorted" 1 1 _) (wpAny_pure ?_);refine wpAny_bind (collect_list hl ?_ hz);refine wpAny_bind (wpAny_newList ?_ hz);have hsz:((s.heap.push (seqObj "list" #[] 0)).update s.heap.objs.size (Obj.mapSeq (·++vs.toArray))).objs.size=s.heap.objs.size+1:=by
  rw[Heap.size_update,size_push']
 have QG:(((s.heap.push (seqObj "list" #[] 0)).update s.heap.objs.size (Obj.mapSeq (·++vs.toArray))).push (seqObj "list" vs.toArray 0)).get? (s.heap.objs.size+1)=some (seqObj "list" vs.toArray 0):=by
  rw[<- hsz];exact Heap.get?_push_size _ rfl
 have keep:∀b o,s.heap.get? b=some o->(((s.heap.push (seqObj "list" #[] 0)).update s.heap.objs.size (Obj.mapSeq (·++vs.toArray))).push (seqObj "list" vs.toArray 0)).get? b=some o:=λb o e=>by
  have iG:b<s.heap.objs.size:=Heap.lt_size e;exact Heap.get?_push_of_some _ ((Heap.get?_update_other _ _ (Ne.symm (Nat.ne_of_lt iG))).trans (Heap.get?_push_of_some _ e))
 have ne:∀b o,s.heap.get? b=some o->b≠s.heap.objs.size+1:=λb o e=>Nat.ne_of_lt (Nat.lt_succ_of_lt (Heap.lt_size e));show wpAny _ _ _ _ _ {s with heap:=((s.heap.push (seqObj "list" #[] 0)).update s.heap.objs.size (Obj.mapSeq (·++vs.toArray))).push (seqObj "list" vs.toArray 0)}
 rw[hsz];refine wpAny_bind (wpAny_holding (wpAny_call_entry slot_list_sort ⟨_,QG,rfl⟩ entry_list_sort (lE (kd:=kd) (ρ:=ρ) (P:=P) QG hz h0 (λh2 g kg=>hk h2 _ _ g λb o e=>kg b o (ne b o e) (keep b o e)) λxs g c a1 a2 a3 a4=>⟨_,rfl,?_⟩) (args_list_sort _)));exact wpAny_pure ⟨_,rfl,h xs g c a1 a2 (λb o e=>a3 b o (ne b o e) (keep b o e)) a4⟩
end
end Vs
namespace Vc
open PySem L2
def toV:Value->V
 | .ref a=>.ref a
 | _=>.bB
theorem A7{us:List V}{its:List Value}(r:Vals us its)(h:∀u∈us,∃a,u=.ref a):us=its.map toV:=by
 induction r with
 | nil=>rfl
 | cons r _ ih =>
  obtain⟨a,rfl⟩:=h _ (List.mem_cons_self ..);cases r;rw[List.map_cons,<- ih λu hu=>h u (List.mem_cons_of_mem _ hu)];rfl
theorem Dy{its:List Value}(h:∀v∈its,∃a,v=.ref a):Vals (its.map toV) its:=by
 induction its with
 | nil=>exact .nil
 | cons v its ih =>
  obtain⟨a,rfl⟩:=h _ (List.mem_cons_self ..);exact .cons rfl (ih λu hu=>h u (List.mem_cons_of_mem _ hu))
theorem d5{α:Type}:∀l:List α,l.zip l=l.map λx=>(x,x)
 | []=>rfl
 | x::l=>by rw[List.zip_cons_cons,List.map_cons,d5 l]
theorem pG{X:Cx}:b9 X (.builtin "sorted") (λxs H Q=>∃(p:Addr) (us:List V) (dd:V->List Int),xs=[.ref p]/\dP X.K H p us/\(∀u∈us,(∃a,u=.ref a/\iD X.K H a ((dd u).map V.int))/\dd u≠[]) /\
  ∀(rP:List V),rP.Perm us->rP.Pairwise (λx y=>HT.lexLt (dd y) (dd x)=false)->∀l,H l=none->Q (.ref l) (upd H l (.lst rP))):=by
 intro pins s σ H xs Xq Q I r h;obtain⟨p,us,dd,rfl,hq,hu,q⟩:=h;obtain⟨u,rfl,rx⟩:=vals1 r;cases rx;obtain⟨its,rv,pl,hz⟩:=I.list hq;have hlen:=rv.length;have UD:us=its.map toV:=A7 rv λu h=>by obtain⟨⟨a,e,_⟩,_⟩:=hu u h;exact⟨a,e⟩
 have y6:∀v∈its,∃a,v=.ref a:=λv hv=>by
  obtain⟨i,hi,e⟩:=List.mem_iff_getElem.mp hv;obtain⟨u,U7,ru⟩:=rv.get (i:=i) (x:=us[i]'⋯) (List.getElem?_eq_getElem _)
  rw[List.getElem?_eq_getElem hi]at U7;cases U7;obtain⟨⟨a,e2,_⟩,_⟩:=hu (us[i]'⋯) (List.getElem_mem _)
  rw[e2]at ru;exact⟨a,by rw[<- e];exact ru⟩
 have tup:∀v∈its,Vs.nh s.heap v (dd (toV v))/\dd (toV v)≠[]:=λv hv=>by
  obtain⟨a,rfl⟩:=y6 v hv;have hm:toV (.ref a)∈us:=by rw[UD];exact List.mem_map.mpr ⟨_,hv,rfl⟩
  obtain⟨⟨b,e,hT⟩,ck⟩:=hu _ hm;cases e;obtain⟨ts,r1,⟨o,ho,hc,n,hd⟩,_⟩:=I.tuple hT;exact⟨⟨a,o,ts.toArray,n,rfl,ho,hc,hd,intsAre_of r1⟩,ck⟩
 have mem:∀x:PyProof.Rows.Keyed,x∈(PyProof.Rows.pairsOf its).toList->x.1∈its/\x.1=x.2:=λx hx=>by
  rw[PyProof.Rows.pairsOf_toList,d5]at hx;obtain⟨v,hv,rfl⟩:=List.mem_map.mp hx;exact⟨hv,rfl⟩
 refine Vs.kT (kd:=PyProof.Rows.tuples' true) (ρ:=Vs.rk (λx=>dd (toV x.1)) (PyProof.Rows.pairsOf its).toList) (P:=λx=>x∈(PyProof.Rows.pairsOf its).toList) pl.isList ⋯ (λ_ h=>h) (λh2 A' E' g kg=>⟨λQ hQ=>?_,?_⟩) λxs g c hp hs kg hg=>?_
 ·exact Vs.zb (s:={s with heap:=g}) ⋯ (λv hv=>⟨_,(tup v hv).1.kept kg,(tup v hv).2⟩) hQ
 ·exact Vs.Cz (s:={s with heap:=g}) λx hx=>(tup x.1 (mem x hx).1).1.kept kg
 ·have dQ:xs.toList.Perm (PyProof.Rows.pairsOf its).toList:=Array.perm_iff_toList_perm.mp hp
  have hsz:xs.size=its.length:=by have:=hp.size_eq;rw[PyProof.Rows.pairsOf_size]at this;exact this
  have gj:∀x∈xs.toList,x.1∈its/\x.1=x.2:=λx hx=>mem x (dQ.mem_iff.mp hx);have perm:(xs.toList.map λx=>toV x.2).Perm us:=by
   rw[UD];refine(dQ.map λx=>toV x.2).trans ?_;rw[PyProof.Rows.pairsOf_toList,d5,List.map_map];exact List.Perm.refl _
  have eq2:xs.toList.map (λx=>toV x.2)=(xs.map (·.2)).toList.map toV:=by
   rw[Array.toList_map,List.map_map];rfl
  refine⟨.ref (s.heap.objs.size+1),_,I.laid (t':=s.toks) (o:=.lst (xs.toList.map λx=>toV x.2)) kg (Nat.le_succ _) ⟨?_,(xs.map (·.2)).toList,c,?_,hg⟩,rfl,q _ perm ?_ _ (I.bI.fresh (Nat.le_succ _))⟩
  ·rw[perm.length_eq];exact hz
  ·rw[eq2]
   refine Dy λv hv=>?_;rw[Array.toList_map]at hv;obtain⟨x,hx,rfl⟩:=List.mem_map.mp hv;have:=gj x hx;exact y6 _ (this.2 ▸ this.1)
  ·rw[List.pairwise_map]
   refine List.pairwise_iff_getElem.mpr λi j hi hj ly=>?_;have sk:i<xs.size:=by simpa using hi
   have yS:j<xs.size:=by simpa using hj
   have h1:=hs i j (Nat.zero_le _) (Nat.le_of_lt ly) ⋯
   rw[Vs.cJ (Array.getElem?_eq_getElem sk),Vs.cJ (Array.getElem?_eq_getElem yS)]at h1;have e1:xs.toList[i]=xs[i]:=rfl;have e2:xs.toList[j]=xs[j]:=rfl;rw[e1,e2];have m1:=gj xs[i] (by simp)
   have m2:=gj xs[j] (by simp)
   have:=Vs.uM (d:=λx=>dd (toV x.1)) (l:=(PyProof.Rows.pairsOf its).toList) (x:=xs[j]) (y:=xs[i]) (dQ.mem_iff.mp (by simp))
   rw[decide_eq_false ⋯]at this
   rw[<- m1.2,<- m2.2];exact this.symm
variable [KF]
variable {G:GE}{k:Nat}{S:Stat}
def eY:D->List Int
 | .tup xs=>xs.map ki
 | .int i=>[i]
 | _=>[]
def vQ(x y:D):Bool:=!HT.lexLt (eY y) (eY x)
def cZ(xs:List D):List D:=xs.mergeSort vQ
def iR:D->Bool
 | .tup xs=>xs.all isInt&&!xs.isEmpty
 | _=>false
theorem vS(a b c:D)(h1:vQ a b=true)(h2:vQ b c=true):vQ a c=true:=by
 unfold vQ at *;simp only[Bool.not_eq_true']at *;cases e:HT.lexLt (eY c) (eY a)with
 | false=>rfl
 | true =>
  cases e2:HT.lexLt (eY c) (eY b)with
  | true=>rw[h2]at e2;cases e2
  | false =>
   cases e3:HT.lexLt (eY b) (eY c)with
   | true=>rw[Vs.fb _ _ _ e3 e]at h1;cases h1
   | false=>rw[Vs.nW _ _ e2 e3]at e;rw[e]at h1;cases h1
theorem vR(a b:D):(vQ a b||vQ b a)=true:=by
 unfold vQ;cases e:HT.lexLt (eY b) (eY a)with
 | false=>rfl
 | true =>
  cases e2:HT.lexLt (eY a) (eY b)with
  | false=>rfl
  | true=>have:=Vs.fb _ _ _ e e2;rw[Vs.iX]at this;cases this
theorem cU(xs:List D):(cZ xs).Perm xs:=List.mergeSort_perm xs vQ
theorem iq(xs:List D):(cZ xs).Pairwise λx y=>vQ x y=true:=List.pairwise_mergeSort vS vR xs
theorem ints_map:∀ {xs:List D},xs.all isInt=true->(xs.map ki).map D.int=xs
 | [],_=>rfl
 | x::xs,h=>by
  rw[List.all_cons,Bool.and_eq_true]at h;cases x with
  | int i=>rw[List.map_cons,List.map_cons,ints_map h.2];rfl
  | _=>exact absurd h.1 (by simp [isInt])
theorem jK{d:D}(h:iR d=true):d=.tup ((eY d).map D.int):=by
 cases d with
 | tup xs =>
  unfold iR at h;rw[Bool.and_eq_true]at h;show D.tup xs=.tup ((xs.map ki).map D.int);rw[ints_map h.1]
 | _=>exact absurd h (by simp [iR])
theorem fe{α:Type}{r:α->α->Prop}:∀ {l m:List α},l.Perm m->(∀a∈l,∀b∈l,r a b->r b a->a=b)->l.Pairwise r->m.Pairwise r->l=m
 | [],m,h,_,_,_=>(List.nil_perm.mp h).symm
 | a::l,[],h,_,_,_=>by have:=h.length_eq;simp at this
 | a::l,b::m,h,LV,h1,h2=>by
  have hb:b∈a::l:=h.symm.mem_iff.mp (List.mem_cons_self ..);have ha:a∈b::m:=h.mem_iff.mp (List.mem_cons_self ..);rw[List.pairwise_cons]at h1 h2;have e:a=b:=by
   rcases List.mem_cons.mp hb with e|hb
   ·exact e.symm
   ·rcases List.mem_cons.mp ha with e|ha
    ·exact e
    ·exact LV a (List.mem_cons_self ..) b (List.mem_cons_of_mem _ hb) (h1.1 b hb) (h2.1 a ha)
  subst e;rw[fe h.cons_inv (λx hx y hy=>LV x (List.mem_cons_of_mem _ hx) y (List.mem_cons_of_mem _ hy)) h1.2 h2.2]
theorem qW{xs ys:List D}(h:xs.all iR=true)(hp:ys.Perm xs)(hs:ys.Pairwise λx y=>vQ x y=true):ys=cZ xs:=by
 refine fe (hp.trans (cU xs).symm) (λa ha b hb h1 h2=>?_) hs (iq xs);have ia:=jK (List.all_eq_true.mp h a (hp.mem_iff.mp ha));have ib:=jK (List.all_eq_true.mp h b (hp.mem_iff.mp hb));unfold vQ at h1 h2;simp only[Bool.not_eq_true']at h1 h2;rw[ia,ib,Vs.nW _ _ h2 h1]
def jQ:List D->(EV->Prop)->Prop
 | [.lst xs],Q=>xs.all iR=true/\Q (.own (cZ xs))
 | _,_=>False
def BR(F:Hp):V->List Int
 | .ref a=>match F a with
  | some (.tup vs)=>vs.map λv=>match v with|.int i=>i|_=>0
  | _=>[]
 | _=>[]
theorem nE{F:Hp}{v:V}{d:D}(r:Rep F v d)(h:iR d=true):BR F v=eY d/\∃a,v=.ref a/\F a=some (.tup ((eY d).map V.int)):=by
 cases r with
 | tup hf rl =>
  unfold iR at h;rw[Bool.and_eq_true]at h;have e:=rl.ints h.1;subst e;refine⟨?_,_,rfl,hf⟩;unfold BR;dsimp only;rw[hf];dsimp only;rw[List.map_map];exact(List.map_congr_left (λx _=>rfl)).trans (List.map_id _)
 | _=>exact absurd h (by simp [iR])
theorem qS{F:Hp}:∀ {vs:List V} {xs:List D},aC F vs xs->xs.all iR=true->xs=vs.map λv=>.tup ((BR F v).map D.int)
 | _,_,.nil,_=>rfl
 | _,_,.cons r t,h=>by
  rw[List.all_cons,Bool.and_eq_true]at h;rw[List.map_cons,<- qS t h.2,(nE r h.1).1,<- jK h.1]
theorem aC.mem{F:Hp}:∀ {vs:List V} {xs:List D},aC F vs xs->∀v∈vs,∃d∈xs,Rep F v d
 | _,_,.cons r t,v,hv=>by
  rcases List.mem_cons.mp hv with rfl|hv
  ·exact⟨_,List.mem_cons_self ..,r⟩
  ·obtain⟨d,hd,rd⟩:=aC.mem t v hv
   exact⟨d,List.mem_cons_of_mem _ hd,rd⟩
theorem uL{F:Hp}{f:V->D}:∀ {vs:List V},(∀v∈vs,Rep F v (f v))->aC F vs (vs.map f)
 | [],_=>.nil
 | v::vs,h=>.cons (h v (List.mem_cons_self ..)) (uL λu hu=>h u (List.mem_cons_of_mem _ hu))
theorem yt:wI G k S (.builtin "sorted") jQ:=⟨λK xs H Q=>∃(p:Addr) (us:List V) (dd:V->List Int),xs=[.ref p]/\dP K H p us/\(∀u∈us,(∃a,u=.ref a/\iD K H a ((dd u).map V.int))/\dd u≠[]) /\
  ∀(rP:List V),rP.Perm us->rP.Pairwise (λx y=>HT.lexLt (dd y) (dd x)=false)->∀l,H l=none->Q (.ref l) (upd H l (.lst rP)),λ_ _ ok=>pG,λY F H ai σ vs ds Qd Q R r q g=>by
 unfold jQ at q
 split at q
 ·rename_i xs
  obtain⟨v,rfl,rv⟩:=r.one;obtain⟨p,us,rfl,h1,h2⟩:=rv.lst;have all:=List.all_eq_true.mp q.1;refine⟨p,us,BR F,rfl,.inl h1,λu hu=>?_,λrP hp hs=>?_⟩
  ·obtain⟨d,hd,rd⟩:=h2.mem u hu
   obtain⟨e1,a,rfl,e2⟩:=nE rd (all d hd);refine⟨⟨a,rfl,.of (by rw[e1];exact R.fr _ _ e2)⟩,?_⟩
   rw[e1];have hi:=all d hd;cases d with
   | tup ys =>
    unfold iR at hi;rw[Bool.and_eq_true]at hi;intro z;have:ys=[]:=by simpa [eY]using z
    subst this;exact absurd hi.2 ∅
   | _=>exact absurd hi (by simp [iR])
  ·have ex:=qS h2 q.1
   have rep:∀v∈rP,Rep F v (.tup ((BR F v).map D.int)):=λv hv=>by
    obtain⟨d,hd,rd⟩:=h2.mem v (hp.mem_iff.mp hv);rw[(nE rd (all d hd)).1,<- jK (all d hd)];exact rd
   have key:∀v,eY (.tup ((BR F v).map D.int))=BR F v:=λv=>by
    show((BR F v).map D.int).map ki=_;rw[List.map_map];exact(List.map_congr_left (λx _=>rfl)).trans (List.map_id _)
   have e:rP.map (λv=>D.tup ((BR F v).map D.int))=cZ xs:=by
    refine qW q.1 (by rw[ex];exact hp.map _) ?_
    rw[List.pairwise_map];refine hs.imp λ{x y} h=>?_;unfold vQ;rw[key,key,h];rfl
   have rl:=uL rep;rw[e]at rl;exact g.own R rl q.2
 ·exact q.elim⟩
end Vc
namespace Vc
open PySem L2
variable [KF]
variable {G:GE}{k:Nat}{S:Stat}
def y0(i:Nat)(j:Int)(d:D)(σ:Sd)(Q:Sd->Prop):Prop:=match σ[i]? with
 | some (some (.own xs))=>match vL xs.length j with
  | some m=>Q (σ.set i (some (.own (xs.set m d))))
  | none=>False
 | _=>False
def qZ(i:Nat)(tx:TV)(te:TD):cn:=λDe σ=>te σ λd ax=>qp ax i/\tx ax λy bx=>match d9 bx y with
 | some (.int j)=>y0 i j d bx De.nx
 | _=>False
theorem C2{X:Cx}{st:Stmt}{t t':TS}(h:PS X st t)(i:∀Dn σ H,t' Dn σ H->t Dn σ H):PS X st t':=λpins s σ H Dn I q=>h pins s σ H Dn I (i Dn σ H q)
theorem sT(i:Nat){x:Str}{ix e:Expr}{tx:TV}{te:TD}{pos eN dS:Pos}(he:ED G k S e te)(hx:EO G k S ix tx)(ho:EO G k S (.Name x dS) (ag i))
  (hs:∀line env,swapsWithSole [.Subscript (.Name x dS) ix eN] e line env=pure false:=by intro _ _;rfl) (hw:∀env,swappedStores [.Subscript (.Name x dS) ix eN] e env=pure none:=by intro _;rfl)
  (h1:∀env,(assignEach [.Subscript (.Name x dS) ix eN] env).map (·.2)=[assign (.Subscript (.Name x dS) ix eN) env]:=by intro _;rfl)
  (ha:∀env v,assign (.Subscript (.Name x dS) ix eN) env v=(do
   let ov <- holding [v] (eval (.Name x dS) env)
   let iv <- holding [v,ov] (eval ix env)
   standAt eN
   holding [v,ov,iv] (setItem ov iv v)
   release [v,ov,iv] []):=by intro _ _;rfl):ES G k S (.Assign [.Subscript (.Name x dS) ix eN] e pos) (qZ i tx te):=.mk λX Y ok =>
 C2 (Ju (he X Y ok) (Je (ho X Y ok) (hx X Y ok) set_list (ha _)) (hs _ _) (hw _) (h1 _)) λDn σ H q=>by
  obtain⟨F,ai,De,R,q,K⟩:=q;refine⟨F,ai,_,R,q,λv H1 F1 d ax s1 R1 r1 q1=>?_⟩;obtain⟨⟨ys,e0⟩,q1⟩:=q1;refine⟨F1,ax,λov bx=>ov=.var i/\bx=ax,R1,?_,λv2 H2 F2 ov bx s2 R2 r2 q2=>?_⟩
  ·unfold ag;rw[e0];exact⟨rfl,rfl⟩
  ·obtain⟨rfl,rfl⟩:=q2
   have r2:σ[i]?=some (some v2):=r2;refine⟨F2,bx,_,R2,q1,λv3 H3 F3 y eK s3 R3 r3 q3=>?_⟩
   split at q3
   ·rename_i j ej
    unfold y0 at q3
    split at q3
    ·rename_i xs ex
     split at q3
     ·rename_i m em
      obtain⟨a,vs,w1,w2,w3,w4,w5⟩:=R3.own i xs ex;rw[r2]at w1;cases w1;have rj:=(R3.d9 r3 ej).int;subst rj;refine⟨a,vs,j,m,rfl,rfl,w2,by rw[w3.length];exact em,?_⟩
      exact K.nx _ _ F3 _ ((s1.trans s2).trans s3) (R3.write ex r2 (aC.set ((r1.mono s2).mono s3) m w3)) q3
     ·exact q3.elim
    ·exact q3.elim
   ·exact q3.elim
abbrev ji:=List D->List D->(B->List D->Prop)->Prop
def oJ(sp:ji):Sp:=λvs H Q _=>∃F xs ds a us rest Qd,vs=.ref a::rest/\pE F H/\H a=some (.lst us)/\aC F us xs/\F a=none/\aC F rest ds/\sp xs ds Qd /\
 ∀v H' F' b ys rP,aq F F'->aq F' H'->(∀c o,c≠a->H c=some o->H' c=some o)->H' a=some (.lst rP)->aC F' rP ys->F' a=none->(∀c o,F' c=some o->F c=some o\/Nw H c o)->Fp H F' H' v b->Qd b ys->Q v H'
def fM(G:GE)(k:Nat)(x:Str)(sp:ji):Prop:=∃f fd ps,di G.P G.w G.K G.mg G.base m8 k f fd ps (oJ sp)/\G.mg x=some (.ref f)/\PySem.W.keepIn G.K (.ref f)=true/\Binds G.K fd ps []
theorem fM.mono{x:Str}{sp:ji}{j:Nat}(h:fM G j x sp)(l:j<=k):fM G k x sp:=by
 obtain⟨f,fd,ps,h1,h2,h3,h4⟩:=h;exact⟨f,fd,ps,h1.mono l,h2,h3,h4⟩
theorem cH.ER{ai:Sd}{σ:St}{a:Addr}{i:Nat}{xs ys:List D}(h:cH ai σ a)(e:ai[i]?=some (some (.own xs))):cH (ai.set i (some (.own ys))) σ a:=by
 refine⟨λj js e1 z=>?_,λ⟨j,o,c,e1,e2,hm⟩=>?_⟩
 ·rcases gs e1 with⟨rfl,_⟩|⟨_,e1⟩
  ·exact h j xs e z
  ·exact h j js e1 z
 ·rcases gs e1 with⟨_,z⟩|⟨_,e1⟩
  ·cases z
  ·exact h.Ex ⟨j,o,c,e1,e2,hm⟩
theorem RS.FL{Y:bD}{F F':Hp}{ai:Sd}{σ:St}{H H':Hp}{i:Nat}{xs ys:List D}{a:Addr}{us:List V}(R:RS Y F ai σ H)(e:ai[i]?=some (some (.own xs)))(h:σ[i]?=some (some (.ref a)))(s1:aq F F')(s2:aq F' H')(s3:∀c o,c≠a->H c=some o->H' c=some o)
  (ha:H' a=some (.lst us)) (r:aC F' us ys) (fa:F' a=none) (fr:∀c o,F' c=some o->F c=some o\/Nw H c o):RS Y F' (ai.set i (some (.own ys))) σ H':=by
 obtain⟨b,vs,w1,w2,w3,w4,w5⟩:=R.own i xs e;rw[h]at w1;cases w1;have hl:i<ai.length:=(List.getElem?_eq_some_iff.mp e).1;have Ca:o9 Y F' (ai.set i (some (.own ys))) σ H':=R.ob.step s1 (λj o q=>by
  rcases gs q with⟨_,z⟩|⟨hj,q⟩
  ·cases z
  ·exact⟨q,rfl⟩) (λb hb=>by
  obtain⟨z1,z2,z3⟩:=R.ob.owned hb;have ck:b≠a:=λz=>R.ob.iE i xs a e h (z ▸ hb);refine⟨?_,?_,z3⟩
  ·cases q:H b with
   | none=>exact absurd q z2
   | some o=>exact s3 b o ck q
  ·cases q:F' b with
   | none=>rfl
   | some o =>
    rcases fr b o q with w|w
    ·rw[z1]at w;cases w
    ·rcases w with w|⟨ws,rfl⟩
     ·exact absurd w z2
     ·cases q3:H b with
      | none=>exact absurd q3 z2
      | some o3 =>
       have y:=s2 b _ q;rw[s3 b o3 ck q3]at y;cases y;exact absurd q3 (R.ob.Ez hb)) (λj zs b q1 q2=>by
  rcases gs q1 with⟨e1,_⟩|⟨hj,q1⟩
  ·subst e1
   rw[h]at q2;cases q2;exact R.ob.iE j xs a e h
  ·exact R.ob.iE j zs b q1 q2) λb hb=>by
  by_cases ck:b=a
  ·rw[ck,ha];exactλz=>nomatch z
  ·cases q:H b with
   | none=>exact absurd q (R.ob.there b hb)
   | some o=>rw[s3 b o ck q];exactλz=>nomatch z
 refine⟨by simpa using R.len,R.lo.trans s1,s2,λb o q=>?_,λb o q n=>?_,λj d q=>?_,λj zs q=>?_,λj l zs qs b q1 q2 q3 q4=>?_,λp hp=>?_,Ca⟩
 ·rcases fr b o q with h|h
  ·exact R.eM b o h
  ·exact .inr (h.imp (λh=>(R.bQ h).1) id)
 ·have:b≠a:=λz=>by
   subst z;rcases w5 with w5|w5
   ·rw[w5]at q;cases q
   ·exact bD.ud n w5
  exact s3 b o this (R.old b o q n)
 ·rcases gs q with⟨_,z⟩|⟨hj,q⟩
  ·cases z
  ·obtain⟨v,h1,h2⟩:=R.sh j d q
   exact⟨v,h1,h2.mono s1⟩
 ·rcases gs q with⟨rfl,z⟩|⟨hj,q⟩
  ·cases z
   exact⟨a,us,h,ha,r,fa,w5⟩
  ·obtain⟨b,ws,z1,z2,z3,z4,z5⟩:=R.own j zs q
   have:b≠a:=λz=>hj (R.dis j i zs xs a q e (z ▸ z1) h);refine⟨b,ws,z1,s3 b _ this z2,z3.mono s1,?_,z5⟩;cases q':F' b with
   | none=>rfl
   | some o =>
    rcases fr b o q' with h|h
    ·rw[z4]at h;cases h
    ·rcases h with h|⟨Yd,rfl⟩
     ·rw[z2]at h;cases h
     ·have y:=s2 b _ q';rw[s3 b _ this z2]at y;cases y
 ·have f:∀ {m:Nat} {ms:List D},(ai.set i (some (B.own ys)))[m]?=some (some (B.own ms))->∃Tt,ai[m]?=some (some (B.own Tt)):=λ{m ms} q=>by
   rcases gs q with⟨rfl,z⟩|⟨hj,q⟩
   ·exact⟨xs,e⟩
   ·exact⟨_,q⟩
  obtain⟨_,q1⟩:=f q1;obtain⟨_,q2⟩:=f q2;exact R.dis j l _ _ b q1 q2 q3 q4
 ·obtain⟨z1,zs,z2⟩:=R.io p hp
  refine⟨z1,?_⟩
  by_cases He:p.1=i
  ·exact⟨ys,by rw[He,qg hl]⟩
  ·exact⟨zs,by rw[bo He];exact z2⟩
def Q8(sp:ji)(xs ds:List D)(Q:B->List D->Prop):Prop:=sp xs ds Q
def d0(sp:ji)(i:Nat)(t:d6):TX:=λσ Q=>qp σ i/\t σ λds ax=>match ax[i]? with
 | some (some (.own xs))=>Q8 sp xs ds λb ys=>Q (bE b) (ax.set i (some (.own ys)))
 | _=>False
theorem bu{x y:Str}{sp:ji}{i:Nat}{es:List Expr}{t:d6}{p pos dS:Pos}(h:fM G k x sp)(ho:EO G k S (.Name y dS) (ag i))(ha:rQ G k S es t)(hg:S.sc.lookup x=some .globalImplicit:=by rfl)(nN:(x==("__debug__":Str))=false:=by decide)
  (he:∀env,starEach (.Name y dS::es) env=(false,eval (.Name y dS) env)::starEach es env:=by intro _;rfl) (dQ:∀env,(backTo pos (starEach es env)).any (·.1)=false:=by intro _;rfl) (hh:S.jJ=false:=by rfl):EX G k S (.Call (.Name x p) (.Name y dS::es) [] pos) (d0 sp i t):=.mk λX Y ok=>by
 obtain⟨f,fd,ps,h1,h2,h3,h4⟩:=h;have GX:di X.prog X.w X.K X.mg X.base m8 k f fd ps (oJ sp):=by rw[ok.P,ok.w,ok.K,ok.mg,ok.base];exact h1
 refine aO (jN (E:=E0) (dvs:=[]) (ds:=[]) GX (ok.room hh) (cA ok hg) (by rw[ok.mg];exact h2) (by rw[ok.K];exact h3) (by rw[ok.K];exact h4) .nil uA (bC (ho X Y ok) (ha X Y ok) (he _)) nN (he _) (dQ _)) λσ H Q q=>?_
 obtain⟨F,ai,Qd,R,⟨⟨ys,e0⟩,q⟩,K⟩:=q;refine⟨F,ai,λov bx=>ov=.var i/\bx=ai,R,?_,λv1 H1 F1 ov ax s1 R1 r1 q1=>?_⟩
 ·unfold ag;rw[e0];exact⟨rfl,rfl⟩
 obtain⟨rfl,rfl⟩:=q1;have r1:σ[i]?=some (some v1):=r1;refine⟨F1,ax,_,R1,q,λvs H2 F2 ds bx s2 R2 r2 q2=>?_⟩
 split at q2
 ·rename_i xs ex
  obtain⟨a,us,w1,w2,w3,w4,w5⟩:=R2.own i xs ex;rw[r1]at w1;cases w1;show oJ sp ((.ref a::vs)++[]) H2 Q E0;rw[List.append_nil];refine⟨F2,xs,ds,a,us,vs,_,rfl,⟨R2.fr,R2.ob.tab⟩,w2,w3,w4,r2,q2,λv H' F' b zs rP t1 t2 t3 t4 t5 t6 t7 t8 t9=>?_⟩;have R3:=R2.FL ex r1 t1 t2 t3 t4 t5 t6 t7;cases b with
  | sh d=>exact K v H' F' (.val d) _ ((s1.trans s2).trans t1) R3 t8 t9
  | own ws =>
   obtain⟨c,cs,rfl,z1,z2,z3,z4⟩:=t8;refine K _ H' F' (.own ws) _ ((s1.trans s2).trans t1) R3 ⟨c,cs,rfl,z1,z2,z3,(R2.bQ z4).1,(R2.cD z4).ER ex⟩ t9
  | obj o =>
   obtain⟨c,rfl,z1,z2⟩:=t8;exact K _ H' F' (.obj o) _ ((s1.trans s2).trans t1) R3 ⟨c,rfl,z1,λb hb=>⟨(z2 b hb).1,(z2 b hb).2.1,(R2.bQ (z2 b hb).2.2).1,(R2.cD (z2 b hb).2.2).ER ex⟩⟩ t9
 ·exact q2.elim
def a8(n:Nat)(xs ds:List D):Sd:=some (.own xs)::bj (n-1) ds
def su(Q:B->List D->Prop)(b:B)(σ:Sd):Prop:=match σ[(0:Nat)]? with
 | some (some (.own ys))=>Q b ys
 | _=>False
theorem RS.a8{F H:Hp}{a:Addr}{us rest:List V}{xs ds:List D}(n:Nat)(hn:1<=n)(s:pE F H)(ha:H a=some (.lst us))(ru:aC F us xs)(fa:F a=none)(r:aC F rest ds):
  RS ⟨H,F,[(0,a)],[]⟩ F (a8 n xs ds) ((V.ref a::rest).map some++List.replicate (n-(V.ref a::rest).length) none) H where
 len:=by unfold Vc.a8 bj;simp [r.length];omega
 lo:=aq.refl _
 fr:=s.1
 eM:=λb o e=>.inl e
 old:=λb o e _=>e
 sh:=λi d e=>by
  cases i with
  | zero=>unfold Vc.a8 at e;simp at e
  | succ i =>
   have e':(bj (n-1) ds)[i]?=some (some (.sh d)):=by unfold Vc.a8 at e;simpa using e
   obtain⟨v,h1,h2⟩:=kY (n-1-ds.length) r e';refine⟨v,?_,h2⟩;have:n-(V.ref a::rest).length=n-1-ds.length:=by rw[List.length_cons,r.length];omega
   rw[this];simpa using h1
 own:=λi zs e=>by
  cases i with
  | zero =>
   unfold Vc.a8 at e;simp at e;subst e;exact⟨a,us,by simp,ha,ru,fa,.inr (by simp [bD.ND])⟩
  | succ i =>
   have e':(bj (n-1) ds)[i]?=some (some (.own zs)):=by unfold Vc.a8 at e;simpa using e
   exact absurd e' (dZ _ _ _ _)
 dis:=λi j zs ys b e1 e2 _ _=>by
  have z:∀ {i:Nat} {zs:List D},(Vc.a8 n xs ds)[i]?=some (some (.own zs))->i=0:=λ{i zs} e=>by
   cases i with
   | zero=>rfl
   | succ i =>
    have e':(bj (n-1) ds)[i]?=some (some (.own zs)):=by unfold Vc.a8 at e;simpa using e
    exact absurd e' (dZ _ _ _ _)
  rw[z e1,z e2]
 io:=λp hp=>by
  have:p=(0,a):=by simpa using hp
  subst this;exact⟨by simp,xs,rfl⟩
 ob:=.none (λi o e=>by
  cases i with
  | zero=>unfold Vc.a8 at e;simp at e
  | succ i =>
   have e':(bj (n-1) ds)[i]?=some (some (.obj o)):=by unfold Vc.a8 at e;simpa using e
   exact absurd e' (jc _ _ _ _)) s.2 λb hb=>by cases hb
theorem B2{x qual:Str}{st:Stmt}{f:Addr}{fd:FuncData}{N ps:List Str}{sp:ji}{t:cn}(hK:G.K=KF.K)(Fn:D0 G.K x qual st f fd)(Sc:aP N ps (ah st))(ht:eL G k ⟨N,(ah st).names,[0],false,false,false,λ_ _=>False⟩ (az st) t)(hn:1<=N.length)
  (len:∀xs ds Q,sp xs ds Q->ds.length+1=ps.length)
  (body:∀xs ds Q,sp xs ds Q->t {nx:=su Q (.sh .bB),rt:=λb σ=>su Q b σ} (a8 N.length xs ds)):di G.P G.w G.K G.mg G.base m8 (k+1) f fd ps (oJ sp):=by
 refine Fn.ok Sc (λvs H Q E h=>?_) (λgB A outer s H vs Q E hr h=>?_)
 ·obtain⟨F,xs,ds,a,us,rest,Qd,rfl,s,h1,h2,h3,r,q,K⟩:=h
  rw[List.length_cons,r.length];exact len _ _ _ q
 ·obtain⟨F,xs,ds,a,us,rest,Qd,rfl,sm,h1,h2,h3,r,q,K⟩:=h
  refine⟨_,ht (nC m8 G.P G.w G.K G.mg G.base N qual (ah st) f gB A outer s H E).HX ⟨H,F,[(0,a)],[]⟩ ⟨rfl,rfl,rfl,hK,rfl,rfl,rfl,rfl,Sc.nd,λp hp=>by
   have:p=(0,a):=by simpa using hp
   subst this;simp,(λ_ h=>nomatch h),λ_=>rfl,Sc.kind,λ_ _ _=>rfl,λ_=>hr.hd,hr.dp,hr.un,λ_=>PassesOwn.never,λ_=>⟨rfl,rfl,rfl⟩,λ_ _ h=>h.elim,λh=>nomatch h⟩,F,a8 N.length xs ds,_,RS.a8 _ hn sm h1 h2 h3 r,body xs ds Qd q,?_⟩
  have same:∀ {F':Hp} {ai:Sd} {σ:St} {H':Hp},RS ⟨H,F,[(0,a)],[]⟩ F' ai σ H'->∀c o,c≠a->H c=some o->H' c=some o:=λR c o hc e=>R.old c o e (by simpa [bD.wU]using hc)
  have fin:∀ {F':Hp} {ai:Sd} {σ:St} {H':Hp} {v:V} {b:B},aq F F'->RS ⟨H,F,[(0,a)],[]⟩ F' ai σ H'->Fp H F' H' v b->su Qd b ai->Q v H':=λ{F' ai σ H' v b} s' R' r' q'=>by
   unfold su at q'
   split at q'
   ·rename_i ys ey
    obtain⟨c,rP,w1,w2,w3,w4,w5⟩:=R'.own 0 ys ey;have i0:=(R'.io (0,a) (by simp)).1
    rw[i0]at w1;cases w1;exact K v H' F' b ys rP s' R'.fr (same R') w2 w3 w4 R'.eM r' q'
   ·exact q'.elim
  refine⟨λσ H' F' ai s' R' q'=>?_,λv σ H' F' ai b s' R' r' q'=>?_,λ_ _ _ _ _ _ h=>h.elim,λ_ _ _ _ _ _ h=>h.elim⟩
  ·exact fin (b:=.sh .bB) s' R' .bB q'
  ·refine fin (b:=b) s' R' ?_ q'
   cases b with
   | sh d=>exact r'
   | own xs =>
    obtain⟨a,us,rfl,w1,w2,w3,w4,w5⟩:=r';exact⟨a,us,rfl,w1,w2,w3,w4⟩
   | obj o =>
    obtain⟨a,rfl,w1,w2⟩:=r';exact⟨a,rfl,w1,λb hb=>⟨(w2 b hb).1,(w2 b hb).2.1,(w2 b hb).2.2.1⟩⟩
theorem c9.Qw{x:Str}{st:Stmt}{ps N:List Str}{f:Addr}{fd:FuncData}{t:cn}{sp:ji}(d:c9 G x st ps f fd)(hK:G.K=KF.K)(Sc:aP N ps (ah st))(ht:eL G k ⟨N,(ah st).names,[0],false,false,false,λ_ _=>False⟩ (az st) t)(hn:1<=N.length)
  (len:∀xs ds Q,sp xs ds Q->ds.length+1=ps.length) (body:∀xs ds Q,sp xs ds Q->t {nx:=su Q (.sh .bB),rt:=λb σ=>su Q b σ} (a8 N.length xs ds)):fM G (k+1) x sp:=
 ⟨f,fd,ps,B2 hK d.F Sc ht hn len body,d.m,d.F.kp,d.b⟩
end Vc
namespace Vc
open PySem L2
variable [KF]
variable {G:GE}{k:Nat}{S:Stat}
def aI(S:Stat)(scope:Scope)(N':List Str)(m:Nat):Stat:=⟨N',gZ scope.names S.sc,[m],true,false,false,λ_ _=>False⟩
end Vc
namespace Vc
open PySem L2
variable [KF]
variable {G:GE}{k:Nat}{S:Stat}
def BW(i:Nat)(ys:List D)(σ:Sd)(Q:Sd->Prop):Prop:=match σ[i]? with
 | some (some (.own xs))=>xs.length+ys.length<=sizeLine/\Q (σ.set i (some (.own (xs++ys))))
 | _=>False
def Kd(to:TV)(te:TX):TX:=λσ Q=>to σ λx ax=>match x with
 | .var i=>qp ax i/\te ax λd bx=>match d with
  | .own ys=>BW i ys bx λeK=>Q (.val .bB) eK
  | _=>False
 | _=>False
theorem Ad{o e:Expr}{to:TV}{te:TX}{apos cpos:Pos}(ho:EO G k S o to)(he:EX G k S e te)(hb:∀env,attributeBase o "extend" env (eval o env)=eval o env:=by intro _;rfl)
  (yP:∀env,((backTo cpos (starEach [e] env)).all (λx=>!x.1)&&(backToKw cpos (keywordEach [] env)).all (λx=>x.1.isSome)&&decide (([e]:List Expr).length+([]:List Keyword).length+(if([]:List Keyword).isEmpty then 0 else 1)<30))=true:=by intro _;rfl)
  (hline:(apos.endLine==cpos.line)=true:=by rfl) (hs:∀env,starEach [e] env=[(false,eval e env)]:=by intro _;rfl):EX G k S (.Call (.Attribute o "extend" apos) [e] [] cpos) (Kd to te):=.mk λX Y ok=>by
 have ha:PA X [e] (d2 (lX Y te) lN):=bC (he X Y ok) bS (by rw[hs];rfl)
 refine aO (kL F.plainAttrs_list F.slot_list_extend F.type_list_extend vU (ho X Y ok) ha (hb _) (yP _) hline (by rw[hs];rfl) (by rfl)) λσ H Q q=>?_
 obtain⟨F,ai,Qd,R,q,K⟩:=q;refine⟨F,ai,_,R,q,λv1 H1 F1 x ax s1 R1 r1 q1=>?_⟩;cases x with
 | val d=>exact q1.elim
 | any=>exact q1.elim
 | var i =>
  obtain⟨⟨ys,e0⟩,q1⟩:=q1;have r1:σ[i]?=some (some v1):=r1;obtain⟨a,vs,w1,w2,w3,w4,w5⟩:=R1.own i ys e0;rw[r1]at w1;cases w1;refine⟨.inl ⟨rfl,vs,.of w2⟩,F1,ax,_,R1,q1,λv2 H2 F2 d bx s2 R2 r2 q2=>?_⟩;cases d with
  | val _=>exact q2.elim
  | var _=>exact q2.elim
  | obj _=>exact q2.elim
  | any=>exact q2.elim
  | own zs =>
   have q2:BW i zs bx λeK=>Qd (.val .bB) eK:=q2;unfold BW at q2
   split at q2
   ·rename_i xs e2
    obtain⟨b,us,z1,z2,z3,z4,z5⟩:=R2.own i xs e2;rw[r1]at z1;cases z1;obtain⟨c,cs,rfl,y1,y2,y3⟩:=r2;exact⟨a,c,us,cs,rfl,rfl,z2,y1,by rw[z3.length,y2.length];exact q2.1,K .bB _ F2 (.val .bB) _ (s1.trans s2) (R2.write e2 r1 (z3.append y2)) .bB q2.2⟩
   ·exact q2.elim
def tJ(i j:Int):Prop:=0<j/\j<2^200
theorem zp{X:Cx}:f6 X (binaryOp .FloorDiv) (rI tJ λi j=>.int (i/j)):=QV λi j _ _ _ _ _ hc q=>by
 have h1:(0:Int)<j:=hc.1;have h2:j<2^200:=hc.2;refine PyProof.Rows.floordiv_int ⋯ (by rw[Int.fdiv_eq_ediv_of_nonneg i ⋯];exact q) (.inl (PyProof.noPylong_of_log2 ?_))
 have h3:j.natAbs<2^200:=by omega
 exact(Nat.log2_lt ⋯).mpr (Nat.lt_of_lt_of_le h3 (Nat.pow_le_pow_right ∅ ∅))
def tU:=K4 tJ λi j=>i/j
theorem uG{a b:Expr}{ta tb:TV}{pos:Pos}(ha:EO G k S a ta)(hb:EO G k S b tb):EX G k S (.BinOp a .FloorDiv b pos) (aY tU ta tb):=mL (r:=λ_=>_) (λ_=>zp) (λ_=>kh) ha hb
end Vc
namespace Vc
open PySem L2
variable [KF]
variable {G:GE}{k:Nat}{S:Stat}
def bD.lF(Y:bD)(F H:Hp)(ps:List Addr):bD:=⟨λb=>if b∈ps then H b else Y.H0 b,F,Y.io,Y.ob⟩
structure iJ(Y:bD)(F:Hp)(ai:Sd)(σ:St)(H:Hp)(b:Addr)(o:HO):Prop where
 h:H b=some o
 f:F b=none
 no:cH ai σ b
 z:Y.H0 b=none
 nb:b∉Y.ob
 nt:∀vs,o≠.tup vs
theorem RS.C0{Y:bD}{F:Hp}{ai:Sd}{σ:St}{H:Hp}(R:RS Y F ai σ H)(ps:List Addr)(hP:∀b∈ps,∃o,iJ Y F ai σ H b o):RS (Y.lF F H ps) F ai σ H where
 len:=R.len
 lo:=aq.refl _
 fr:=R.fr
 eM:=λb o e=>.inl e
 old:=λb o e n=>by
  have e:(if b∈ps then H b else Y.H0 b)=some o:=e
  split at e
  ·exact e
  ·exact R.old b o e n
 sh:=R.sh
 own:=λi xs e=>by
  obtain⟨a,vs,h1,h2,h3,h4,h5⟩:=R.own i xs e;refine⟨a,vs,h1,h2,h3,h4,?_⟩;rcases h5 with h5|h5
  ·left
   show(if a∈ps then H a else Y.H0 a)=none
   rw[if_neg λhp=>by obtain⟨o,ap⟩:=hP a hp;exact ap.no i xs e h1]
   exact h5
  ·exact .inr h5
 dis:=R.dis
 io:=R.io
 ob:=R.ob.step (aq.refl _) (λ_ _ e=>⟨e,rfl⟩) (λb hb=>by
  obtain⟨w1,w2,w3⟩:=R.ob.owned hb;refine⟨rfl,w1,w3.imp (λz=>?_) id⟩;show(if b∈ps then H b else Y.H0 b)=none
  rw[if_neg λhp=>by obtain⟨o,ap⟩:=hP b hp;exact ap.no.Ex hb]
  exact z) R.ob.iE R.ob.there λb hb=>⟨hb,λh=>by
  show(if b∈ps then H b else Y.H0 b)≠none
  split
  ·exact R.ob.there b hb
  ·exact h⟩
theorem RS.jg{Y:bD}{F F':Hp}{ai aD:Sd}{σ bw:St}{H H':Hp}(R0:RS Y F ai σ H){ps:List Addr}(hP:∀b∈ps,∃o,iJ Y F ai σ H b o)(R:RS (Y.lF F H ps) F' aD bw H'):
  RS Y F' aD bw H'/\∀b o,b∈ps->iJ Y F ai σ H b o->iJ Y F' aD bw H' b o:=by
 have Rz:∀b,b∈ps->(Y.lF F H ps).H0 b=H b:=λb hb=>by show(if b∈ps then H b else Y.H0 b)=_;rw[if_pos hb]
 have pe:∀b,b∉ps->(Y.lF F H ps).H0 b=Y.H0 b:=λb hb=>by show(if b∈ps then H b else Y.H0 b)=_;rw[if_neg hb]
 have HR:∀b,b∈ps->b∉Y.wU:=λb hb hm=>by
  obtain⟨o,ap⟩:=hP b hb;rcases List.mem_append.mp hm with hm|hm
  case inr=>exact ap.nb hm
  obtain⟨q,hq,e⟩:=List.mem_map.mp hm;obtain⟨h1,xs,h2⟩:=R0.io q hq;exact ap.no _ _ h2 (by rw[h1,e])
 have mH:∀b,(Y.lF F H ps).H0 b=none->b∉ps/\Y.H0 b=none:=λb e=>by
  by_cases hb:b∈ps
  ·obtain⟨o,ap⟩:=hP b hb
   rw[Rz b hb,ap.h]at e;cases e
  ·exact⟨hb,by rw[pe b hb]at e;exact e⟩
 refine⟨⟨R.len,R0.lo.trans R.lo,R.fr,λb o e=>?_,λb o e n=>?_,R.sh,λi xs e=>?_,R.dis,R.io,R.ob.step (aq.refl _) (λ_ _ e=>⟨e,rfl⟩) (λb hb=>⟨rfl,(R.ob.owned hb).1,(R.ob.owned hb).2.2.imp (λz=>(mH b z).2) id⟩) R.ob.iE R.ob.there (λb hb=>⟨hb,λh z=>h (by rw[pe b λhp=>by obtain⟨o',ap⟩:=hP b hp;exact ap.nb hb];exact z)⟩)⟩,λb o hb ap=>⟨?_,?_,⟨λj ys e z=>?_,λz=>?_⟩,ap.z,ap.nb,ap.nt⟩⟩
 ·rcases R.eM b o e with h|h
  ·exact R0.eM b o h
  ·exact .inr (h.imp (λh=>(mH b h).2) id)
 ·refine R.old b o ?_ n
  rw[pe b λhb=>by obtain⟨o',ap⟩:=hP b hb;rw[ap.z]at e;cases e]
  exact e
 ·obtain⟨a,vs,h1,h2,h3,h4,h5⟩:=R.own i xs e
  exact⟨a,vs,h1,h2,h3,h4,h5.elim (λh=>.inl (mH a h).2) .inr⟩
 ·exact R.old b o (by rw[Rz b hb];exact ap.h) (HR b hb)
 ·cases q:F' b with
  | none=>rfl
  | some o' =>
   rcases R.eM b o' q with h|h
   ·rw[show(Y.lF F H ps).F0 b=F b from rfl,ap.f]at h;cases h
   ·rcases h with h|⟨ws,rfl⟩
    ·exact absurd hb (mH b h).1
    ·have y:=R.fr b _ q;rw[R.old b o (by rw[Rz b hb];exact ap.h) (HR b hb)]at y;cases y;exact absurd rfl (ap.nt _)
 ·obtain⟨a,vs,h1,h2,h3,h4,h5⟩:=R.own j ys e
  rw[z]at h1;cases h1;rcases h5 with h5|h5
  ·exact absurd hb (mH b h5).1
  ·exact HR b hb (List.mem_append_left _ h5)
 ·rcases(R.ob.owned z).2.2 with w|w
  ·exact absurd hb (mH b w).1
  ·exact ap.nb w
theorem iJ.alloc{Y:bD}{F:Hp}{ai:Sd}{σ:St}{H:Hp}{b p:Addr}{o u:HO}(h:iJ Y F ai σ H b o)(hp:H p=none):iJ Y (upd F p u) ai σ (upd H p u) b o:=by
 have ck:=bJ h.h hp;exact⟨by rw[ak ck];exact h.h,by rw[ak ck];exact h.f,h.no,h.z,h.nb,h.nt⟩
theorem iJ.jr{Y:bD}{F:Hp}{ai:Sd}{σ:St}{H:Hp}{b:Addr}{o:HO}{i:Nat}{d:D}{v:V}(h:iJ Y F ai σ H b o):iJ Y F (ai.set i (some (.sh d))) (σ.set i (some v)) H b o:=
 ⟨h.h,h.f,⟨λj ys e z=>by
  rcases gs e with⟨_,e2⟩|⟨hj,e2⟩
  ·cases e2
  ·rw[bo hj]at z;exact h.no j ys e2 z,λ⟨j,o,c,e,z,hm⟩=>by
  rcases gs e with⟨_,e2⟩|⟨hj,e2⟩
  ·cases e2
  ·rw[bo hj]at z;exact h.no.Ex ⟨j,o,c,e2,z,hm⟩⟩,h.z,h.nb,h.nt⟩
structure Lz(H H':Hp)(p:Addr)(as:List Addr)(cs:List Int):Prop where
 same:aq H H'
 list:H' p=some (.lst (as.map V.ref))
 fresh:∀b∈p::as,H b=none
 nd:(p::as).Nodup
 len:as.length=cs.length
 W7:∀(i:Nat) (a:Addr) (c:Int),as[i]?=some a->cs[i]?=some c->H' a=some (.lst [.int c,.int 0])
def sW:Sp:=λvs H Q _=>∃F ns,pE F H/\aC F vs [.lst (List.map D.int ns)]/\ns.length<=63/\∀p as cs H',Lz H H' p as cs->Q (.ref p) H'
def eR(G:GE)(k:Nat)(x:Str):Prop:=∃f fd ps,di G.P G.w G.K G.mg G.base m8 k f fd ps sW/\G.mg x=some (.ref f)/\PySem.W.keepIn G.K (.ref f)=true/\Binds G.K fd ps []
theorem eR.mono{x:Str}{j:Nat}(h:eR G j x)(l:j<=k):eR G k x:=by
 obtain⟨f,fd,ps,h1,h2,h3,h4⟩:=h;exact⟨f,fd,ps,h1.mono l,h2,h3,h4⟩
def E1(Y:bD)(t:d6):TE:=λσ H Q=>∃F ai Qd,RS Y F ai σ H/\t ai Qd/\(∀ds aD,Qd ds aD->∃ns:List Int,ds=[.lst (ns.map D.int)]/\ns.length<=63) /\
 ∀(p:Addr) (as:List Addr) (cs:List Int) H' F' ds aD,aq F F'->RS Y F' aD σ H'->iJ Y F' aD σ H' p (.lst (as.map V.ref))->(p::as).Nodup->as.length=cs.length ->
  (∀(i:Nat) (a:Addr) (c:Int),as[i]?=some a->cs[i]?=some c->iJ Y F' aD σ H' a (.lst [.int c,.int 0]))->Qd ds aD->Q (.ref p) H'
theorem CV{x:Str}{e:Expr}{t:d6}{p pos:Pos}(hh:S.jJ=false)(h:eR G k x)(ha:rQ G k S [e] t)(hg:S.sc.lookup x=some .globalImplicit:=by rfl)(nN:(x==("__debug__":Str))=false:=by decide)
  (he:∀env,starEach [e] env=(false,eval e env)::starEach [] env:=by intro _;rfl) (dQ:∀env,(backTo pos (starEach [] env)).any (·.1)=false:=by intro _;rfl) {X:Cx} {Y:bD} (ok:dk X G k S Y):PE X (.Call (.Name x p) [e] [] pos) (E1 Y t):=by
 obtain⟨f,fd,ps,h1,h2,h3,h4⟩:=h;have GX:di X.prog X.w X.K X.mg X.base m8 k f fd ps sW:=by rw[ok.P,ok.w,ok.K,ok.mg,ok.base];exact h1
 refine aO (jN (E:=E0) (dvs:=[]) (ds:=[]) GX (ok.room hh) (cA ok hg) (by rw[ok.mg];exact h2) (by rw[ok.K];exact h3) (by rw[ok.K];exact h4) .nil uA (ha X Y ok) nN (he _) (dQ _)) λσ H Q q=>?_
 obtain⟨F,ai,Qd,R,q,sh,K⟩:=q;refine⟨F,ai,_,R,q,λvs H1 F1 ds ax s1 R1 r1 q1=>?_⟩;show sW (vs++[]) H1 Q E0;rw[List.append_nil];obtain⟨ns,rfl,hl⟩:=sh _ _ q1;refine⟨F1,ns,⟨R1.fr,R1.ob.tab⟩,r1,hl,λp as cs H' P=>?_⟩;have R2:RS Y F1 ax σ H':=R1.call (aq.refl _) (R1.fr.trans P.same) P.same λc o e=>.inl e;have UA:∀b∈p::as,∀o,H' b=some o->(∀vs,o≠.tup vs)->iJ Y F1 ax σ H' b o:=λb hb o e nt=>by
  have hf:=P.fresh b hb;exact⟨e,same_none R1.fr hf,R1.cD hf,(R1.bQ hf).1,λz=>(R1.bQ hf).2 (List.mem_append_right _ z),nt⟩
 exact K p as cs H' F1 _ ax s1 R2 (UA p (List.mem_cons_self ..) _ P.list λ_ z=>nomatch z) P.nd P.len (λi a c e1 e2=>UA a (List.mem_cons_of_mem _ (List.mem_of_getElem? e1)) _ (P.W7 i a c e1 e2) λ_ z=>nomatch z) q1
def qd(pre:Nat->Int->Sd->Sd)(tb:cn)(De:fS):Nat->Nat->Sd->Prop
 | 0,_,σ=>De.nx σ
 | n+1,i,σ=>∀c:Int,tb {De with nx:=qd pre tb De n (i+1),ct:=qd pre tb De n (i+1),bk:=De.nx} (pre i c σ)
def u6(t:d6)(pre:Nat->Int->Sd->Sd)(tb:cn):cn:=λDe σ=>t σ λds ax=>(∃ns:List Int,ds=[.lst (ns.map D.int)]/\ns.length<=63)/\∀n,qd pre tb De n 0 ax
def Jt(m j:Nat):Nat->Int->Sd->Sd:=λi c σ=>(σ.set m (some (.sh (.int (i:Nat))))).set j (some (.own [.int c,.int 0]))
def Vg(Y:bD)(t:cn):TS:=λDn σ H=>∃Y':bD,(Y'.io=Y.io/\Y'.ob=Y.ob)/\lS Y' t Dn σ H
theorem FK{X:Cx}{Y:bD}{body:List Stmt}{tb:cn}(Bs:S.ex=λ_ _=>False)(ok:dk X G k S Y)(hb:eL G k S body tb):lW X body (Vg Y tb):=λpins s σ H Dn I ⟨Y',⟨cO,Ca⟩,q⟩ =>
 hb X Y' ⟨ok.P,ok.w,ok.K,ok.kf,ok.mg,ok.base,ok.N,ok.sc,ok.nd,λp hp=>ok.ios p (by rw[<- cO];exact hp),(λh1 h2=>Ca.trans (ok.obs h1 h2)),ok.calm,ok.kind,ok.fn,ok.hd,ok.dp,ok.un,ok.po,ok.nx,(λc ai h=>by rw[Bs]at h;exact h.elim),λ_ c ai h=>by rw[Bs]at h;exact h.elim⟩ pins s σ H Dn I q
theorem zS{X:Cx}{Y:bD}{t:d6}{pre:Nat->Int->Sd->Sd}{tb:cn}{J:Addr->It}{g:TG}{Dn:Ends}{σ:St}{H:Hp}
  (V3:∀(p:Addr) (as:List Addr) (i:Nat) (a:Addr) (H:Hp),H p=some (.lst (as.map V.ref))->as[i]?=some a->(J p).go i H)
  (so:∀(p:Addr) (as:List Addr) (H:Hp),H p=some (.lst (as.map V.ref))->(J p).stop as.length H)
  (hy:∀(p:Addr) (as:List Addr) (i:Nat) (a:Addr) (c:Int) (F H:Hp) (ai:Sd) (σ:St) (x:V) (H':Hp),RS Y F ai σ H->(p::as).Nodup->as[i]?=some a ->
   (∀b∈p::as.drop (i+1),∃o,iJ Y F ai σ H b o)->H p=some (.lst (as.map V.ref))->iJ Y F ai σ H a (.lst [.int c,.int 0])->(J p).Le i H x H' ->
   ∃F',aq F F'/\RS Y F' ai σ H'/\(∀b o,iJ Y F ai σ H b o->iJ Y F' ai σ H' b o)/\∀N:St->Hp->Prop,(∀bx,RS (Y.lF F' H' (p::as.drop (i+1))) F' (pre i c ai) bx H'->N bx H')->g x σ H' N)
  (q:lS Y (u6 t pre tb) Dn σ H):
  Qk (λσ H R=>E1 Y t σ H λx H1=>∃p as,x=.ref p/\H1 p=some (.lst (List.map V.ref as))/\R (J p) H1) g (Vg Y tb) Dn σ H:=by
 obtain⟨F,ai,De,R,q,K⟩:=q;refine⟨F,ai,_,R,q,λds aD h=>h.1,λp as cs H1 F1 ds wG s1 R1 ap nd len sM q1=>⟨p,as,rfl,ap.h,?_⟩⟩;have q1:=q1.2 as.length;refine⟨λi m bw H'=>∃F' aD,aq F1 F'/\RS Y F' aD bw H'/\iJ Y F' aD bw H' p (.lst (as.map V.ref))/\(∀(j:Nat) (a:Addr) (c:Int),i<=j->as[j]?=some a->cs[j]?=some c->iJ Y F' aD bw H' a (.lst [.int c,.int 0])) /\
  qd pre tb De (as.length-i) i aD/\m=as.length-i/\i<=as.length,⟨as.length,F1,wG,aq.refl _,R1,ap,λj a c _=>sM j a c,q1,rfl,Nat.zero_le _⟩,?_⟩
 rintro i m bw H' ⟨F',aD,s',R',LW,zR,q',rfl,hi⟩
 by_cases hl:i<as.length
 ·right
  have e1:as[i]?=some as[i]:=List.getElem?_eq_getElem hl;have vF:i<cs.length:=by rw[<- len];exact hl
  have e2:cs[i]?=some cs[i]:=List.getElem?_eq_getElem vF;refine⟨V3 p as i _ H' LW.h e1,λbx H2=>∃F2 cv,aq F1 F2/\RS Y F2 cv bx H2/\iJ Y F2 cv bx H2 p (.lst (as.map V.ref))/\(∀(j:Nat) (a:Addr) (c:Int),i+1<=j->as[j]?=some a->cs[j]?=some c->iJ Y F2 cv bx H2 a (.lst [.int c,.int 0])) /\
   qd pre tb De (as.length-(i+1)) (i+1) cv,λbx H2 ⟨F2,cv,w1,w2,w3,w4,w5⟩=>⟨as.length-(i+1),by omega,F2,cv,w1,w2,w3,w4,w5,rfl,hl⟩,λx H2 y=>?_⟩
  have Hl:∀(j:Nat) (a:Addr),i+1<=j->as[j]?=some a->a∈p::as.drop (i+1):=λj a hj e=>by
   refine List.mem_cons_of_mem _ (List.mem_of_getElem? (i:=j-(i+1)) ?_);rw[List.getElem?_drop,show i+1+(j-(i+1))=j by omega];exact e
  have hP:∀b∈p::as.drop (i+1),∃o,iJ Y F' aD bw H' b o:=λb hb=>by
   rcases List.mem_cons.mp hb with rfl|hb
   ·exact⟨_,LW⟩
   ·obtain⟨j,hj,e⟩:=List.mem_iff_getElem.mp hb
    rw[List.getElem_drop]at e;have yS:i+1+j<as.length:=by rw[List.length_drop]at hj;omega
    have Nc:i+1+j<cs.length:=by rw[<- len];exact yS
    exact⟨_,zR (i+1+j) b cs[i+1+j] ⋯ (by rw[List.getElem?_eq_getElem yS,e]) (List.getElem?_eq_getElem Nc)⟩
  obtain⟨F2,sF,R2,keep,go⟩:=hy p as i _ cs[i] F' H' aD bw x H2 R' nd e1 hP LW.h (zR i _ _ (Nat.le_refl _) e1 e2) y;refine go _ λbx R3=>?_;have hn:as.length-i=(as.length-(i+1))+1:=by omega
  rw[hn]at q';have q2:=q' cs[i];have Ek:∀b∈p::as.drop (i+1),∃o,iJ Y F2 aD bw H2 b o:=λb hb=>by
   obtain⟨o,a⟩:=hP b hb;exact⟨o,keep b o a⟩
  have again:∀ {jH:St} {H4 F4:Hp} {cI:Sd},aq F2 F4->RS (Y.lF F2 H2 (p::as.drop (i+1))) F4 cI jH H4->qd pre tb De (as.length-(i+1)) (i+1) cI->∃F2 cv,aq F1 F2/\RS Y F2 cv jH H4/\iJ Y F2 cv jH H4 p (.lst (as.map V.ref))/\(∀(j:Nat) (a:Addr) (c:Int),i+1<=j->as[j]?=some a->cs[j]?=some c->iJ Y F2 cv jH H4 a (.lst [.int c,.int 0]))/\qd pre tb De (as.length-(i+1)) (i+1) cv:=λ{jH H4 F4 cI} s4 R4 q4=>by
   obtain⟨R5,k5⟩:=R2.jg Ek R4;exact⟨F4,cI,(s'.trans sF).trans s4,R5,k5 _ _ (List.mem_cons_self ..) (keep _ _ LW),λj a c hj ea ec=>k5 _ _ (Hl j a hj ea) (keep _ _ (zR j a c ⋯ ea ec)),q4⟩
  refine⟨Y.lF F2 H2 (p::as.drop (i+1)),⟨rfl,rfl⟩,F2,pre i cs[i] aD,_,R3,q2,⟨λjH H4 F4 cI s4 R4 q4=>again s4 R4 q4,λv4 jH H4 F4 cI b s4 R4 r4 q4=>?_,λjH H4 F4 cI s4 R4 q4=>?_,λjH H4 F4 cI s4 R4 q4=>again s4 R4 q4⟩⟩
  ·obtain⟨R5,k5⟩:=R2.jg Ek R4
   refine K.rt v4 jH H4 F4 cI b (((s1.trans s').trans sF).trans s4) R5 ?_ q4;cases b with
   | sh d=>exact r4
   | own xs =>
    obtain⟨a,vs,w1,w2,w3,w4,w5,w6⟩:=r4;refine⟨a,vs,w1,w2,w3,w4,?_,w6⟩;have w5:(if a∈p::as.drop (i+1)then H2 a else Y.H0 a)=none:=w5
    split at w5
    ·rename_i hm
     obtain⟨o,ap⟩:=Ek a hm;exact ap.z
    ·exact w5
   | obj o =>
    obtain⟨a,w1,w2,w3⟩:=r4;refine⟨a,w1,w2,λb hb=>⟨(w3 b hb).1,(w3 b hb).2.1,?_,(w3 b hb).2.2.2⟩⟩;have w5:(if b∈p::as.drop (i+1)then H2 b else Y.H0 b)=none:=(w3 b hb).2.2.1
    split at w5
    ·rename_i hm
     obtain⟨o,ap⟩:=Ek b hm;exact ap.z
    ·exact w5
  ·obtain⟨R5,k5⟩:=R2.jg Ek R4
   exact K.nx jH H4 F4 cI (((s1.trans s').trans sF).trans s4) R5 q4
 ·left
  have e:i=as.length:=by omega
  subst e;rw[Nat.sub_self]at q';exact⟨so p as H' LW.h,K.nx bw H' F' aD (s1.trans s') R' q'⟩
theorem RS.Dw{Y:bD}{F:Hp}{ai:Sd}{σ:St}{H:Hp}{j:Nat}{a:Addr}{c:Int}{ps:List Addr}(R:RS Y F ai σ H)(hP:∀b∈ps,∃o,iJ Y F ai σ H b o)(ha:iJ Y F ai σ H a (.lst [.int c,.int 0]))(hn:a∉ps)(cO:∀p∈Y.io,p.1≠j):
  RS (Y.lF F H ps) F (ai.set j (some (.own [.int c,.int 0]))) (σ.set j (some (.ref a))) H:=
 (R.C0 ps hP).Ao ha.h (.cons (.int _) (.cons (.int _) .nil)) ha.f (by show(if a∈ps then H a else Y.H0 a)=none;rw[if_neg hn];exact ha.z) ha.no cO
theorem CC{p:Addr}{as:List Addr}{i:Nat}{a:Addr}(nd:(p::as).Nodup)(e:as[i]?=some a):a∉p::as.drop (i+1):=by
 have hi:=(List.getElem?_eq_some_iff.mp e).1;have ea:as[i]=a:=(List.getElem?_eq_some_iff.mp e).2;intro h;rcases List.mem_cons.mp h with h|h
 ·exact(List.nodup_cons.mp nd).1 (by rw[<- h];exact List.mem_of_getElem? e)
 ·obtain⟨j,hj,e'⟩:=List.mem_iff_getElem.mp h
  rw[List.getElem_drop]at e';have yS:i+1+j<as.length:=by rw[List.length_drop]at hj;omega
  have:=(List.nodup_cons.mp nd).2;exact List.pairwise_iff_getElem.mp this i (i+1+j) hi yS ⋯ (by rw[ea,e'])
theorem Dj(m j:Nat){x y z:Str}{e:Expr}{t:d6}{tb:cn}{body:List Stmt}{p cpos dS n2 tpos ep vB pos:Pos}{kk:Nat}(h:eR G k x)(ha:rQ G k S [e] t)(hm:G.mg "enumerate"=none)(hb:eL G k S body tb)
  (hj:S.N[j]?=some y:=by rfl) (hx:S.sc.lookup y=some .local\/(S.sc.lookup y=some .cell/\S.vk=false):=by first|exact Or.inl rfl|exact Or.inr ⟨rfl,rfl⟩)
  (Nc:S.N[m]?=some z:=by rfl) (lA:S.sc.lookup z=some .local\/(S.sc.lookup z=some .cell/\S.vk=false):=by first|exact Or.inl rfl|exact Or.inr ⟨rfl,rfl⟩)
  (hn:j∉S.ios:=by first|decide|exact List.not_mem_nil | (dsimp only;decide)) (Bq:m∉S.ios:=by first|decide|exact List.not_mem_nil | (dsimp only;decide)) (hg:S.sc.lookup x=some .globalImplicit:=by rfl) (nN:(x==("__debug__":Str))=false:=by decide) (pj:S.sc.lookup ("enumerate":Str)=some .globalImplicit:=by rfl)
  (he:∀env,starEach [e] env=(false,eval e env)::starEach [] env:=by intro _;rfl) (dQ:∀env,(backTo cpos (starEach [] env)).any (·.1)=false:=by intro _;rfl)
  (hs:∀env x',foldedSetIterable (.Call (.Name "enumerate" ep) [.Call (.Name x p) [e] [] cpos] [] vB) env x'=pure x':=by intro _ _;rfl) (Bs:S.ex=λ_ _=>False:=by rfl) (hh:S.jJ=false:=by rfl):
  ES G k S (.For (.Tuple [.Name z n2,.Name y dS] kk tpos) (.Call (.Name "enumerate" ep) [.Call (.Name x p) [e] [] cpos] [] vB) body [] pos) (u6 t (Jt m j) tb):=.mk λX Y ok=>by
 have pp:=CV (p:=p) (pos:=cpos) hh h ha hg nN he dQ ok;have pi:=CW (X:=X) (elts:=[.Name z n2,.Name y dS]) (kk:=kk) (tpos:=tpos) (p:=ep) (pos:=vB) (cA ok pj) (by rw[ok.mg];exact hm) (by decide +kernel) (bC pp bS) rfl
 have nd:X.N.Nodup:=by rw[ok.N];exact ok.nd
 have pg:=L2.zL (pos:=tpos) (k:=kk) (n:=2) (ok.calm hh) (L2.kN (L2.gV (i:=m) (pos:=n2) nd (by rw[ok.N];exact Nc) (gn ok lA) (gf ok lA)) (L2.kN (L2.gV (i:=j) (pos:=dS) nd (by rw[ok.N];exact hj) (gn ok hx) (gf ok hx)) L2.uB))
 refine cu (sP (ok.po hh) (ok.calm hh) pi pg (FK Bs ok hb) (hs _)) λDn σ H q=>?_;have r:=zS (X:=X) (J:=λa=>KN false X.K a) (g:=L2.M0 X.K 2 (L2.yy (gK m) (L2.yy (gK j) L2.MZ))) (λp as i a H h e=>⟨as.map V.ref,.ref a,(show Sq false X.K H p _ from dP.of h),by rw[List.getElem?_map,e];rfl⟩) (λp as H h=>⟨as.map V.ref,(show Sq false X.K H p _ from dP.of h),by rw[List.length_map]⟩)
  (λp as i a c F H ai σ x H' R nd e hP hp SV y=>by
   obtain⟨t,x',ht,rfl,rfl,y⟩:=y;have hx:=y _ (show Sq false X.K H p _ from dP.of hp)
   rw[List.getElem?_map,e]at hx;cases hx;have sm:aq F (upd F t (.tup [.int i,.ref a])):=aH (same_none R.fr ht);have R1:RS Y (upd F t (.tup [.int i,.ref a])) ai σ (upd H t (.tup [.int i,.ref a])):=R.alloc ht;refine⟨_,sm,R1,λb o ap=>ap.alloc ht,λN hN=>⟨t,_,rfl,.of au,rfl,_,_,rfl,_,_,rfl,rfl,hN _ ?_⟩⟩;have R2:=R1.jr (i:=m) (d:=.int i) (v:=.int i) (.int _) λq hq z=>Bq (by rw[<- z];exact ok.ios q hq)
   have R3:=R2.Dw (ps:=p::as.drop (i+1)) (λb hb=>by obtain⟨o,ap⟩:=hP b hb;exact⟨o,(ap.alloc ht).jr⟩) ((SV.alloc ht).jr) (CC nd e) (j:=j) λq hq (z:q.1=j)=>hn (by rw[<- z];exact ok.ios q hq)
   exact R3) q
 obtain⟨F,ai,Qd,w1,w2,w3,w4⟩:=r;exact⟨F,ai,Qd,w1,w2,w3,λp as cs H' F' ds aD a1 a2 a3 a4 a5 a6 a7=>by
  obtain⟨p',UB,e,z1,z2⟩:=w4 p as cs H' F' ds aD a1 a2 a3 a4 a5 a6 a7;cases e;exact⟨p,_,rfl,dP.of z1,z2⟩⟩
theorem qe{pre:Nat->Int->Sd->Sd}{tb:cn}{De:fS}(I:Sd->Prop)(hb:∀i c σ (N:Sd->Prop),I σ->(∀bw,I bw->N bw)->tb {De with nx:=N,ct:=N,bk:=De.nx} (pre i c σ))(hn:∀σ,I σ->De.nx σ):∀n i σ,I σ->qd pre tb De n i σ
 | 0,_,σ,h=>hn σ h
 | n+1,i,σ,h=>λc=>hb i c σ _ h λbw h'=>qe I hb hn n (i+1) bw h'
end Vc
namespace Vc
open PySem L2
variable [KF]
variable {G:GE}{k:Nat}{S:Stat}
def Es(Y:bD):TS:=λDn σ H=>∃F ns,RS Y F [some (.sh (.lst (List.map D.int ns)))] σ H/\Y.H0=H/\(Y.io=[]/\Y.ob=[])/\ns.length<=63/\∀p as cs H',Lz H H' p as cs->Dn.rt (.ref p) H'
structure pB(G:GE)(k:Nat)(S:Stat)(b:List Stmt) :Prop where
 run:∀X Y,dk X G k S Y->lW X b (Es Y)
instance {G:GE} {k:Nat} {S:Stat} {b:List Stmt} :CoeFun (pB G k S b) λ_=>∀X Y,dk X G k S Y->lW X b (Es Y):=⟨pB.run⟩
def WQ(t:d6):TE:=λσ H Q=>∃Y:bD,Y.io=[]/\Dt (Tf Y t) σ H Q
abbrev AU:TB:=bq eqT (aZ (dM dR (a9 (ag 0) c5))) (bp (.int 0))
abbrev A3:d6:=bt (av [] (bp (.int 0))) (bt (av [] (bp (.int 0))) tN)
abbrev AX:d6:=cF (av [] (aZ (wz (ag 0) La (Lb (bp (.int 63))))))
abbrev tB:d6:=bt (av [] (ag 0)) (bt (av [] (bp (.int 0))) tN)
theorem tQ{α:Type}(xs:List α)(lo hi:Option Int):(cut xs lo hi).length<=xs.length:=by
 unfold cut;rw[List.length_take,List.length_drop];omega
theorem j6(ns:List Int)(lo hi:Option Int):cut (ns.map D.int) lo hi=(cut ns lo hi).map D.int:=by
 unfold cut;rw[List.length_map,List.map_take,List.map_drop]
theorem aC.NC{F:Hp}{vs:List V}{a b:Int}(r:aC F vs [.int a,.int b]):vs=[.int a,.int b]:=by
 cases r with
 | cons h r =>
  cases h;cases r with
  | cons h r=>cases h;cases r;rfl
section
variable {c:Expr}{zs es:List Expr}{tg iter:Expr}{scope:Scope}{N':List Str}{p1 p2 p3 p4 p5 p6 p7:Pos}
theorem Gz(V7:S.ios=[])(hc:EB G k S c AU)(hz:rQ G k S zs A3)(hi:EI G k S tg iter AX)(b:jh S scope N' [none])(hg:EG G k (aR S scope N') tg (dJ 0))(he:rQ G k (aR S scope N') es tB)(hs:∀env x,foldedSetIterable iter env x=pure x:=by intro _ _;rfl) 
  (h1:∀env,starEach [.List zs p1] env=(false,eval (.List zs p1) env)::starEach [] env:=by intro _;rfl) (hh:S.jJ=false:=by rfl):
  pB G k S [.If c [.Return (some (.List [.List zs p1] p2)) p3] [] p4,.Return (some (.ListComp (.List es p5) [⟨tg,iter,[],0⟩] scope p6)) p7]:=.mk λX Y ok=>by
 have lg:∀X',jU X X' scope N'->PG X' tg (QR (dJ 0))/\BE X' [] (QQ fq)/\PE X' (.List es p5) (WQ tB):=λX' cx =>
  ⟨λpins s σ H v u Q I r ⟨Y',cO,q⟩=>hg X' Y' (dr hh ok b cx Y' cO) pins s σ H v u Q I r q,λpins s σ H Q I ⟨Y',cO,q⟩=>jj X' Y' (dr hh ok b cx Y' cO) pins s σ H Q I q,λpins s σ H Q I ⟨Y',cO,q⟩=>gq (he X' Y' (dr hh ok b cx Y' cO)) pins s σ H Q I q⟩
 refine og (qN (L2.EE (hc X Y ok) (jO (L2.sQ (gq (bC (gq (hz X Y ok)) bS (h1 _))))) uE) (jO (L2.sQ (n8 (ok.calm hh) (hi X Y ok) (b.sc ok) lg (hs _))))) λDn σ H q=>?_;obtain⟨F,ns,R,rfl,hY,hl,K⟩:=q;have same:∀ {F':Hp} {ai:Sd} {σ:St} {H':Hp},RS Y F' ai σ H'->aq Y.H0 H':=λR b o e=>R.old b o e (by rw[bD.wU,hY.1,hY.2];simp)
 refine⟨F,_,λ_ aD=>aD=[some (.sh (.lst (List.map D.int ns)))],R,?_,λbb H1 F1 ax s1 R1 e1=>?_⟩
 ·simp only[AU,bq,aZ,Qx,dM,a9,ag,c5,eg,d9,List.getElem?_cons_zero,dR,bp,eqT]
  exact⟨⟨rfl,rfl⟩,trivial⟩
 subst e1;cases bb with
 | true =>
  refine(if_pos rfl).mpr ?_;refine⟨F1,_,λds _=>ds=[.int 0,.int 0],R1,?_,λvs H2 F2 ds bx s2 R2 r2 e2=>?_⟩
  ·simp only[A3,bt,av,iB,bp,tN]
  subst e2;obtain rfl:=r2.NC;refine⟨by show 2<=sizeLine;decide,λa ha=>⟨by show 1<=sizeLine;decide,λp hp=>K p [a] [0] _ ?_⟩⟩
  have K1:p≠a:=λz=>by rw[z,au]at hp;cases hp
  have Wm:H2 p=none:=by rw[ak K1]at hp;exact hp
  have sm:=same R2;refine⟨(sm.trans (aH ha)).trans (aH hp),au,λb hb=>?_,by simp [K1],rfl,λi a' c' e1 e2=>?_⟩
  ·rcases List.mem_cons.mp hb with rfl|hb
   ·exact sm.free Wm
   ·rw[List.mem_singleton.mp hb];exact sm.free ha
  ·cases i with
   | zero =>
    cases e1;cases e2;rw[ak K1.symm,au]
   | succ i=>simp at e1
 | false =>
  refine(if_neg ∅).mpr ?_
  refine⟨F1,_,λitems aD=>(∃ms:List Int,items=ms.map D.int/\ms.length<=63)/\aD=[some (.sh (.lst (List.map D.int ns)))],R1,?_,λH2 F2 bx J items s2 R2 it e2 acc iQ=>?_⟩
  ·simp only[AX,cF,av,iB,iC,aZ,Qx,wz,ag,La,Lb,bp,d9,List.getElem?_cons_zero,QY]
   exact⟨⟨cut ns none (some 63),j6 _ _ _,Nat.le_trans (tQ _ _ _) hl⟩,trivial⟩
  obtain⟨⟨ms,rfl,hm⟩,rfl⟩:=e2;have a0:Y.H0 acc=none:=(R2.bQ iQ).1;have aF:F2 acc=none:=same_none R2.fr iQ;have noOwn:∀(σ:St) (a:Addr),cH [some (.sh (.lst (List.map D.int ns)))] σ a:=λσ a=>⟨λj ys e=>by
   cases j with
   | zero=>cases e
   | succ j=>simp at e,λ⟨j,o,c,e,_⟩=>by
   cases j with
   | zero=>cases e
   | succ j=>simp at e⟩
  have sw:∀ {F5 H5:Hp} {o:HO},aq F5 H5->F5 acc=none->aq F5 (upd H5 acc o):=λ{F5 H5 o} s5 h b u e=>by
   have:b≠acc:=λz=>by rw[z,h]at e;cases e
   rw[ak this];exact s5 b u e
  have N9:∀(i:Nat) (xs:List D),([none]:Sd)[i]?≠some (some (.own xs)):=λi xs e=>by
   cases i with
   | zero=>cases e
   | succ i=>simp at e
  have N8:∀(i:Nat) (o:O),([none]:Sd)[i]?≠some (some (.obj o)):=λi o e=>by
   cases i with
   | zero=>cases e
   | succ i=>simp at e
  refine⟨λi m ax H'=>∃Fi as cs,aq F2 Fi/\RS Y Fi [some (.sh (.lst (List.map D.int ns)))] σ H'/\H' acc=some (.lst (List.map V.ref as))/\(acc::as).Nodup/\(∀b∈acc::as,Y.H0 b=none/\Fi b=none) /\
    (∀(i:Nat) (a:Addr) (c:Int),as[i]?=some a->cs[i]?=some c->H' a=some (.lst [.int c,.int 0]))/\as.length=cs.length/\as.length=i/\RS ⟨H',Fi,[],[]⟩ Fi [none] ax H'/\m=ms.length-i/\i<=ms.length,
   ⟨ms.length,F2,[],[],aq.refl _,R2.other aF a0 (noOwn _ _),au,by simp,λb hb=>by rw[List.mem_singleton.mp hb];exact⟨a0,aF⟩,λi a c e=>by simp at e,rfl,rfl,tO R2 [none] (aq.refl _) (sw R2.fr aF),rfl,Nat.zero_le _⟩,?_⟩
  rintro i m ax Hi ⟨Fi,as,cs,si,Ri,jm,nd,fr,sM,len,NX,Rn,rfl,hi⟩;have y6:=it Fi Hi si Ri.fr i
  by_cases vF:i<ms.length
  ·right
   obtain⟨go,yl⟩:=y6.1 (.int ms[i]) (by rw[List.getElem?_map,List.getElem?_eq_getElem vF];rfl)
   refine⟨go,λv H' y=>?_⟩;obtain⟨F3,gr,rep⟩:=yl v H' y;have sF:aq Fi F3:=gr.same Ri.fr;have R3:=gr.rs Rn;have Rl:RS ⟨H',F3,[],[]⟩ F3 [none] ax H':=R3.less (gR _) N9 N8 R3.fr;have sH:aq Hi H':=by
    rcases gr with⟨_,rfl⟩|⟨p,o,hp,_,rfl⟩
    ·exact aq.refl _
    ·exact aH hp
   have KR:∀c o,F3 c=some o->Fi c=some o\/Nw Hi c o:=λc o e=>by
    rcases gr with⟨rfl,_⟩|⟨p,o',hp,rfl,_⟩
    ·exact .inl e
    ·by_cases hc:c=p
     ·subst hc;exact .inr (.inl hp)
     ·rw[ak hc]at e;exact .inl e
   refine⟨⟨H',F3,[],[]⟩,rfl,F3,_,.int ms[i],λai=>ai=[some (.sh (.int ms[i]))],Rl,rep,rfl,λjH H4 F4 cI s4 R4 q4=>?_⟩;subst q4;refine⟨⟨H',F3,[],[]⟩,rfl,F4,_,λbb ai=>bb=true/\ai=[some (.sh (.int ms[i]))],R4,⟨rfl,rfl⟩,λbb H5 F5 Bj s5 R5 q5=>?_⟩;obtain⟨rfl,rfl⟩:=q5;refine(if_pos rfl).mpr ?_;refine⟨⟨H',F3,[],[]⟩,rfl,F5,_,λds ai=>ds=[.int ms[i],.int 0]/\ai=[some (.sh (.int ms[i]))],R5,?_,λvs H6 F6 ds Ur s6 R6 r6 q6=>?_⟩
   ·simp only[tB,bt,av,iB,iC,ag,bp,tN,List.getElem?_cons_zero]
    exact⟨trivial,trivial⟩
   obtain⟨rfl,rfl⟩:=q6;obtain rfl:=r6.NC;refine⟨by show 2<=sizeLine;decide,λa ha=>?_⟩
   have Vr:aq F3 F6:=(s4.trans s5).trans s6;have Dh:aq Hi H6:=sH.trans λb o e=>R6.old b o e (by simp [bD.wU])
   have UE:∀c o,F6 c=some o->Fi c=some o\/Nw Hi c o:=λc o e=>by
    rcases R6.eM c o e with z|z
    ·exact KR c o z
    ·exact .inr (z.imp sH.free id)
   have w1:RS Y F6 [some (.sh (.lst (List.map D.int ns)))] σ H6:=Ri.call (sF.trans Vr) R6.fr Dh UE;have live:∀b∈acc::as,∃o,Hi b=some (.lst o):=λb hb=>by
    rcases List.mem_cons.mp hb with rfl|hb
    ·exact⟨_,jm⟩
    ·obtain⟨j,hj,e⟩:=List.mem_iff_getElem.mp hb
     have Nc:j<cs.length:=by rw[<- len];exact hj
     exact⟨_,sM j b cs[j] (by rw[List.getElem?_eq_getElem hj,e]) (List.getElem?_eq_getElem Nc)⟩
   have w3:∀b∈acc::as,F6 b=none:=λb hb=>by
    cases e:F6 b with
    | none=>rfl
    | some o =>
     obtain⟨o',e'⟩:=live b hb;rcases UE b o e with z|z
     ·rw[(fr b hb).2]at z;cases z
     ·rcases z with z|⟨ws,rfl⟩
      ·rw[e']at z;cases z
      ·have y:=R6.fr b _ e;rw[Dh _ _ e']at y;cases y
   have na:∀b∈acc::as,b≠a:=λb hb=>by
    obtain⟨o',e'⟩:=live b hb;exact bJ (Dh _ _ e') ha
   have M3:(upd H6 a (.lst [.int ms[i],.int 0])) acc=some (.lst (List.map V.ref as)):=by rw[ak (na acc (List.mem_cons_self ..))];exact Dh _ _ jm
   have R7:=w1.dI (o:=.lst [.int ms[i],.int 0]) ha;have Rr:=w3 acc (List.mem_cons_self ..);have N5:a≠acc:=(na acc (List.mem_cons_self ..)).symm;have LC:F6 a=none:=same_none w1.fr ha;refine⟨List.map V.ref as,ms.length-(i+1),M3,by rw[List.length_map,NX];exact Nat.lt_of_lt_of_le vF (Nat.le_trans hm ∅),by omega,F6,as++[a],cs++[ms[i]],si.trans (sF.trans Vr),R7.other Rr a0 (noOwn _ _),?_,?_,?_,?_,by simp [len],by simp [NX],R6.less (σ0:=[none]) trivial N9 N8 (sw (λb o e=>?_) Rr),rfl,vF⟩
   ·rw[au,List.map_append];rfl
   ·rw[List.nodup_cons]at nd ⊢
    refine⟨λh=>?_,?_⟩
    ·rcases List.mem_append.mp h with h|h
     ·exact nd.1 h
     ·exact N5 (List.mem_singleton.mp h).symm
    ·rw[List.nodup_append]
     refine⟨nd.2,by simp,λx hx y hy z=>?_⟩
     rw[List.mem_singleton.mp hy]at z;exact na x (List.mem_cons_of_mem _ hx) z
   ·intro b hb
    rcases List.mem_cons.mp hb with rfl|hb
    ·exact⟨a0,Rr⟩
    ·rcases List.mem_append.mp hb with hb|hb
     ·exact⟨(fr b (List.mem_cons_of_mem _ hb)).1,w3 b (List.mem_cons_of_mem _ hb)⟩
     ·rw[List.mem_singleton.mp hb]
      exact⟨(w1.bQ ha).1,LC⟩
   ·intro t a' c' e1 e2
    by_cases ht:t<as.length
    ·rw[List.getElem?_append_left ht]at e1
     rw[List.getElem?_append_left (by rw[<- len];exact ht)]at e2
     have U0:=List.mem_of_getElem? e1;have:a'≠acc:=λz=>(List.nodup_cons.mp nd).1 (by rw[<- z];exact U0)
     rw[ak this,ak (na a' (List.mem_cons_of_mem _ U0))];exact Dh _ _ (sM t a' c' e1 e2)
    ·have h1:=(List.getElem?_eq_some_iff.mp e1).1
     rw[List.length_append,List.length_singleton]at h1;have h2:t=as.length:=by omega
     subst h2;rw[List.getElem?_append_right (Nat.le_refl _),Nat.sub_self]at e1;rw[List.getElem?_append_right (by rw[len];exact Nat.le_refl _),len,Nat.sub_self]at e2
     cases e1;cases e2;rw[ak N5,au]
   ·have:b≠a:=λz=>by rw[z,LC]at e;cases e
    rw[ak this];exact R6.fr b o e
  ·left
   have e:i=ms.length:=by omega
   refine⟨y6.2 (by rw[List.length_map];exact e),K acc as cs Hi ⟨same Ri,jm,λb hb=>(fr b hb).1,nd,len,sM⟩⟩
end
theorem c9.sM{x:Str}{st:Stmt}{ps N:List Str}{f:Addr}{fd:FuncData}(d:c9 G x st ps f fd)(hK:G.K=KF.K)(Sc:aP N ps (ah st))(hN:N.length=1)(Wo:ps.length=1)(ht:pB G k ⟨N,(ah st).names,[],false,false,false,λ_ _=>False⟩ (az st)):eR G (k+1) x:=by
 refine⟨f,fd,ps,?_,d.m,d.F.kp,d.b⟩;refine d.F.ok Sc (λvs H Q E h=>?_) (λgB A outer s H vs Q E hr h=>?_)
 ·obtain⟨F,ns,s,r,_⟩:=h
  rw[r.length,Wo];rfl
 ·obtain⟨F,ns,sm,r,hl,K⟩:=h
  refine⟨_,ht (nC m8 G.P G.w G.K G.mg G.base N x (ah st) f gB A outer s H E).HX ⟨H,F,[],[]⟩ ⟨rfl,rfl,rfl,hK,rfl,rfl,rfl,rfl,Sc.nd,λp hp=>absurd hp (by simp),λ_ _=>rfl,λ_=>rfl,Sc.kind,λ_ _ _=>rfl,λ_=>hr.hd,hr.dp,hr.un,λ_=>PassesOwn.never,λ_=>⟨rfl,rfl,rfl⟩,λ_ _ h=>h.elim,λh=>nomatch h⟩,F,ns,?_,rfl,⟨rfl,rfl⟩,hl,λp as cs H' P=>K p as cs H' P⟩
  have:=RS.start N.length sm r;rw[hN]at this;show RS _ F _ (vs.map some++List.replicate (N.length-vs.length) none) H;rw[hN];exact this
end Vc
namespace Vc
open PySem L2
variable [KF]
variable {G:GE}{k:Nat}{S:Stat}
theorem NF(a b:D)(Q:D->Prop):Bt (.lst [a,b]) (.int 0) Q=Q a:=rfl
theorem NI(a b:D)(Q:D->Prop):Bt (.lst [a,b]) (.int 1) Q=Q b:=rfl
theorem Hm:vL 2 0=some 0:=rfl
theorem Hn:vL 2 1=some 1:=rfl
theorem qv{n:Nat}(h:0<n):vL n (-1)=some (n-1):=by unfold vL;rw[if_neg ⋯,if_pos ⋯];congr 1;omega
end Vc
namespace Vc
open PySem L2
variable [KF]
variable {G:GE}{k:Nat}{S:Stat}
def Ke(c:TB)(ta tb:TV):TV:=λσ Q=>c σ λb ax=>if b=true then ta ax Q else tb ax Q
theorem Pq{c a b:Expr}{tc:TB}{ta tb:TV}{pos:Pos}(hc:EB G k S c tc)(ha:EO G k S a ta)(hb:EO G k S b tb):EO G k S (.IfExp c a b pos) (Ke tc ta tb):=.mk λX Y ok=>aO (zH (hc X Y ok) (ha X Y ok) (hb X Y ok)) λσ H Q q=>by
 obtain⟨F,ai,Qd,R,q,K⟩:=q;refine⟨F,ai,_,R,q,λb H1 F1 ax s1 R1 q1=>?_⟩;cases b with
 | true=>exact⟨F1,ax,Qd,R1,q1,λv H' F' x aD s'=>K v H' F' x aD (s1.trans s')⟩
 | false=>exact⟨F1,ax,Qd,R1,q1,λv H' F' x aD s'=>K v H' F' x aD (s1.trans s')⟩
end Vc
namespace Vc
open PySem L2
variable [KF]
variable {G:GE}{k:Nat}{S:Stat}
def mroIn(K:PySem.W.Frag)(C:Addr):List Value:=match K.lookup C with
 | some ⟨_,_,.cls cd,_⟩=>cd.mro
 | _=>[]
end Vc
set_option maxHeartbeats 0
namespace Vc
open PySem PySem.W
@[elab_as_elim] theorem WR{α:Type} {P:List α->Prop} (h:∀a,P [a]):∀us:List α,us.length=1->P us
 | [a],_=>h a
@[elab_as_elim] theorem WT{α:Type} {P:List α->Prop} (h:∀a b,P [a,b]):∀us:List α,us.length=2->P us
 | [a,b],_=>h a b
@[elab_as_elim] theorem WU{α:Type} {P:List α->Prop} (h:∀a b c,P [a,b,c]):∀us:List α,us.length=3->P us
 | [a,b,c],_=>h a b c
@[elab_as_elim] theorem WV{α:Type} {P:List α->Prop} (h:∀a b c d,P [a,b,c,d]):∀us:List α,us.length=4->P us
 | [a,b,c,d],_=>h a b c d
@[elab_as_elim] theorem WW{α:Type} {P:List α->Prop} (h:∀a b c d e,P [a,b,c,d,e]):∀us:List α,us.length=5->P us
 | [a,b,c,d,e],_=>h a b c d e
theorem KI{q:Program}{loose:List Str}{XP:(Str->Option Value)->Heap->Prop}{K:Params->Frag}{as:List Addr}{n t:Nat}{r:RowW}{d:DefRec}{Ve:List (Str×Expr)}{run:Value->List Value->Sem Value}
  (e:∀P,as=(K P).map (·.1)) (h:WalkO q loose XP (λw h=>(K w.params).In h) r d Ve run):WalkX q loose XP (X.obsZ as) (X.valZ K n t) r d Ve run:=
 λw cG bL mg mb G y a o pm cd doc dV kV ho hd qm hD hmg hg args vals UB L vG Nj U5 Cb rO =>
  h w cG bL mg mb G (InK.keeps w _ _ (X.z_facts e y).2.1 L.keeps) a o pm cd doc dV kV ho hd qm hD hmg hg args vals UB vG Nj U5 Cb rO
end Vc
namespace Vc
open PySem L2
variable [KF]
variable {G:GE}{k:Nat}{S:Stat}
theorem RS.zl{Y:bD}{F:Hp}{ai:Sd}{σ:St}{H:Hp}{i:Nat}{o o':O}{a c:Addr}{u:HO}(R:RS Y F ai σ H)(e:ai[i]?=some (some (.obj o)))(h:σ[i]?=some (some (.ref a)))(hc:c∈o.fp a)(yQ:∀b,b∈o'.fp a->b∈o.fp a)
  (hr:o'.rep F (upd H c u) a):RS Y F (ai.set i (some (.obj o'))) σ (upd H c u):=by
 obtain⟨a',w1,w2,w3⟩:=R.ob.obj i o e;rw[h]at w1;cases w1;have ow:∀b∈o.fp a,fU ai σ b:=λb hb=>⟨i,o,a,e,h,hb⟩;have hl:i<ai.length:=(List.getElem?_eq_some_iff.mp e).1;have up:∀ {b:Addr},H b≠none->(upd H c u) b≠none:=λ{b} hb=>by
  by_cases z:b=c
  ·rw[z,au];exactλy=>nomatch y
  ·rw[ak z];exact hb
 refine⟨by simpa using R.len,R.lo,λb q z=>?_,R.eM,λb q z n=>?_,λj d z=>?_,λj xs z=>?_,λj l xs ys b z1 z2 z3 z4=>?_,λp hp=>?_,⟨λj p z=>?_,λj l p p2 b d z1 z2 z3 z4 ck x hx lA=>?_,λj ys b z1 z2 ⟨l,p,d,z3,z4,hm⟩=>?_,λb hb=>up (R.ob.there b hb),R.ob.Lc,R.ob.tab⟩⟩
 ·have:b≠c:=λy=>by rw[y,(w3 c hc).1]at z;cases z
  rw[ak this];exact R.fr b q z
 ·have:b≠c:=λy=>by
   subst y;rcases(w3 b hc).2.2 with y|y
   ·rw[y]at z;cases z
   ·exact n (List.mem_append_right _ y)
  rw[ak this];exact R.old b q z n
 ·rcases gs z with⟨_,y⟩|⟨_,z⟩
  ·cases y
  ·exact R.sh j d z
 ·rcases gs z with⟨_,y⟩|⟨_,z⟩
  ·cases y
  ·obtain⟨b,vs,y1,y2,y3⟩:=R.own j xs z
   have:b≠c:=λy=>R.ob.iE j xs b z y1 (y ▸ ow c hc);exact⟨b,vs,y1,by rw[ak this];exact y2,y3⟩
 ·rcases gs z1 with⟨_,y⟩|⟨_,z1⟩
  ·cases y
  rcases gs z2 with⟨_,y⟩|⟨_,z2⟩
  ·cases y
  exact R.dis j l xs ys b z1 z2 z3 z4
 ·obtain⟨y1,xs,y2⟩:=R.io p hp
  have:p.1≠i:=λy=>by rw[y,e]at y2;cases y2
  exact⟨y1,xs,by rw[bo this];exact y2⟩
 ·rcases gs z with⟨rfl,y⟩|⟨hj,z⟩
  ·cases y
   exact⟨a,h,hr,λb hb=>⟨(w3 b (yQ b hb)).1,up (w3 b (yQ b hb)).2.1,(w3 b (yQ b hb)).2.2⟩⟩
  ·obtain⟨b,y1,y2,y3⟩:=R.ob.obj j p z
   refine⟨b,y1,p.mono (aq.refl _) (λd hd=>?_) y2,λd hd=>⟨(y3 d hd).1,up (y3 d hd).2.1,(y3 d hd).2.2⟩⟩;exact ak λy=>R.ob.tT i j o p a b e z h y1 (Ne.symm hj) c hc (y ▸ hd)
 ·rcases gs z1 with⟨e1,y⟩|⟨hj,y1⟩
  ·cases y
   subst e1;rw[h]at z3;cases z3;rcases gs z2 with⟨e2,_⟩|⟨vF,y2⟩
   ·exact ck e2.symm
   ·exact R.ob.tT j l o p2 a d e y2 h z4 ck x (yQ x hx) lA
  ·rcases gs z2 with⟨e2,y⟩|⟨vF,y2⟩
   ·cases y
    subst e2;rw[h]at z4;cases z4;exact R.ob.tT j l p o b a y1 e z3 h ck x hx (yQ x lA)
   ·exact R.ob.tT j l p p2 b d y1 y2 z3 z4 ck x hx lA
 ·rcases gs z1 with⟨_,y⟩|⟨_,y1⟩
  ·cases y
  rcases gs z3 with⟨e3,y⟩|⟨_,y3⟩
  ·cases y
   subst e3;rw[h]at z4;cases z4;exact R.ob.iE j ys b y1 z2 (ow b (yQ b hm))
  ·exact R.ob.iE j ys b y1 z2 ⟨l,p,d,y3,z4,hm⟩
def Ug(i:Nat):TV:=λσ Q=>(∃o,σ[i]?=some (some (.obj o)))/\Q (.var i) σ
theorem TQ(i:Nat){x:Str}{pos:Pos}(hN:S.N[i]?=some x:=by rfl)(hv:S.sc.lookup x=some .local\/S.sc.lookup x=some .cell\/S.sc.lookup x=some .free:=by first|exact Or.inl rfl|exact Or.inr (Or.inl rfl)|exact Or.inr (Or.inr rfl))
  (hd:(x==("__debug__":Str))=false:=by decide) (qm:(x==("__classdict__":Str))=false:=by decide):EO G k S (.Name x pos) (Ug i):=.mk λX Y ok =>
 aO (dA (X:=X) (i:=i) (by rw[ok.N];exact hN) (by unfold vg;rw[ok.sc];exact hv) hd qm) λσ H Q q=>by
  obtain⟨F,ai,Qd,R,⟨⟨o,e⟩,q⟩,K⟩:=q;obtain⟨a,w1,_⟩:=R.ob.obj i o e;exact⟨.ref a,w1,K _ H F (.var i) ai (aq.refl _) R w1 q⟩
def z0(neg:Bool):R2:=λy x H Q=>∃a o,x=.ref a/\wW H a y o/\Q (.bl (if neg then !o.isSome else o.isSome)) H
theorem v9{X:Cx}(hu:X.A.units+1<cLine):f6 X (compareOp .NotIn) (z0 true):=by
 intro pins s σ H x y v u Q I rx ry h;obtain⟨a,o,rfl,g,q⟩:=h;cases ry;exact BP hu I g rx λs' I'=>⟨.bl (!o.isSome),H,I',rfl,q⟩
end Vc
namespace Vc
open PySem PyProof.Rows
section
variable {prog:Program}{w:World}{A:Around}{R:Result->Shared->Prop}
def Kp(h g:Heap):Prop:=∀b o,h.get? b=some o->g.get? b=some o
end
end Vc
namespace Vc
open PySem PySem.W L2
section
variable {P:Addr}{K:Frag}(hP:K.lookup P=some (tabObj #[]))
include hP
end
end Vc
namespace Vc
open PySem L2
variable [KF]
section
variable {X:Cx}
def Pm:V->List V->Hp->VK->Prop:=λx vs H Q=>∃a z kvs k,x=.ref a/\vs=[kV k,z]/\H a=some (.dK kvs)/\kvs.length<sizeLine/\(∀v,de kvs k=some v->Q v H)/\(de kvs k=none->Q z (upd H a (.dK (putK kvs k z))))
theorem CA:Lw X "dict.setdefault" Pm:=by
 intro pins s σ H x vs v us Q I rx rv h;obtain⟨a,z,kvs,k,rfl,rfl,e,hl,h1,h2⟩:=h;cases rx;cases rv with
 | cons ry rr =>
 cases rr with
 | cons rz rr =>
 cases rr;obtain⟨hz,hd,ws,rel,dd⟩:=tS I.bI e;have hv:=rel.val k;have Wg:(putK kvs k z).length<=sizeLine:=by have:=e9 kvs k z;omega
 refine call_meetsIn F.slot_dict_setdefault dd.typeIs F.entry_dict_setdefault (F.args_dict_setdefault_3 _ _ _) (kt_meets_setdefault (bO X.prog X.w) a (uk ry) hd _) ⟨ws,dd,by rw[<- rel.length];exact hz,λw hw=>?_,λhn h' Gy hs=>?_⟩
 ·rw[hw]at hv
  cases l:de kvs k with
  | none=>rw[l]at hv;exact False.elim hv
  | some v=>rw[l]at hv;exact⟨v,H,I.tok _,hv,h1 v l⟩
 ·rw[hn]at hv
  cases l:de kvs k with
  | some v=>rw[l]at hv;exact False.elim hv
  | none =>
   have he:∃q,h'.get? a=some q:=let ⟨q,_,_,hq,_⟩:=Gy;⟨q,hq⟩;exact⟨z,_,nD I (by rw[e];exact True.intro) hs he (ya Wg hd (rel.put k rz) Gy),rz,h2 l⟩
def Qr(p a:Addr):HO:=.ext λh=>h.IsValuesView p a
def Pn:V->List V->Hp->VK->Prop:=λx vs H Q=>∃a kvs,x=.ref a/\vs=[]/\H a=some (.dK kvs)/\∀p,H p=none->Q (.ref p) (upd H p (Qr p a))
theorem CB:Lw X "dict.values" Pn:=by
 intro pins s σ H x vs v us Q I rx rv h;obtain⟨a,kvs,rfl,rfl,e,q⟩:=h;cases rx;cases rv;obtain⟨hz,hd,ws,rel,dd⟩:=tS I.bI e;refine call_meetsIn F.slot_dict_values dd.typeIs F.entry_dict_values (F.args_dict_values_1 _) (meets_dict_values (bO X.prog X.w) a hd) ⟨⟨ws,dd⟩,?_⟩;have hg:=Heap.get?_push_size s.heap (o:={cls:=.type "dict_values",data:=.fields #[.ref a]}) rfl;refine⟨.ref s.heap.objs.size,_,I.laid (t':=s.toks) (λb o e=>Heap.get?_push_of_some _ e) (Nat.le_refl _) (show bF X.prog X.w _ _ _ (Qr _ a)from⟨⟨_,hg,rfl,rfl⟩,⟨_,hg⟩,λh1 h2 ⟨o,ho,x⟩ k=>⟨o,k o ho,x⟩⟩),rfl,q _ I.fresh⟩
def Jw:List V->Hp->VK->Prop:=λxs H Q=>∃p a kvs,xs=[.ref p]/\H p=some (Qr p a)/\H a=some (.dK kvs)/\∀l,H l=none->Q (.ref l) (upd H l (.lst (kvs.map (·.2))))
theorem rY(hc:X.calm=true):b9 X (.type "list") Jw:=by
 intro pins s σ H xs us Q I r h;obtain⟨p,a,kvs,rfl,hp,e,q⟩:=h;obtain⟨u,rfl,ru⟩:=vals1 r;cases ru;obtain⟨hz,hd,ws,rel,dd⟩:=tS I.bI e;obtain⟨ep,da⟩:=dd.dictAt;obtain⟨hv,_⟩:=I.bI p _ hp;have hv:s.heap.IsValuesView p a:=hv;refine PySem.W.kdl_call (PySem.W.kdl_values (knd:=bO X.prog X.w) (r:=p) (d:=a) (kvs:=ws) (ep:=ep)) (I.ok.hd hc) ⟨hv,da⟩ (by rw[<- rel.length];exact hz) λh' tk acc c kp hl items=>?_
 have ea:acc.toList=ws.map (·.2):=PySem.W.kdl_vals_eq acc.toList (by rw[Array.length_toList];exact items.1) λj v hj=>items.2 j v (by simpa using hj)
 have rv:Vals (kvs.map (·.2)) acc.toList:=by
  rw[ea];clear ea items e da dd hz q
  induction rel with
  | nil=>exact .nil
  | cons hx _ ih=>exact .cons hx.2 ih
 refine⟨.ref _,_,I.laid (t':=tk) kp (Nat.le_refl _) (show bF X.prog X.w _ h' _ (.lst (kvs.map (·.2)))from⟨by rw[List.length_map];exact hz,acc.toList,c,rv,by simpa using hl⟩),rfl,q _ I.fresh⟩
end
theorem RS.n0{Y:bD}{F:Hp}{ai:Sd}{σ:St}{H H':Hp}{i:Nat}{o o':O}{a:Addr}(R:RS Y F ai σ H)(e:ai[i]?=some (some (.obj o)))(h:σ[i]?=some (some (.ref a)))
  (keep:∀b,b∉o.fp a->H b≠none->H' b=H b) (live:∀b,H b≠none->H' b≠none) (yQ:∀b∈o'.fp a,b∈o.fp a\/H b=none) (hn:∀b∈o'.fp a,H' b≠none)
  (hr:o'.rep F H' a):RS Y F (ai.set i (some (.obj o'))) σ H':=by
 obtain⟨a',w1,w2,w3⟩:=R.ob.obj i o e;rw[h]at w1;cases w1;have ow:∀b∈o.fp a,fU ai σ b:=λb hb=>⟨i,o,a,e,h,hb⟩;have hl:i<ai.length:=(List.getElem?_eq_some_iff.mp e).1;refine⟨by simpa using R.len,R.lo,λb q z=>?_,R.eM,λb q z n=>?_,λj d z=>?_,λj xs z=>?_,λj l xs ys b z1 z2 z3 z4=>?_,λp hp=>?_,⟨λj p z=>?_,λj l p p2 b d z1 z2 z3 z4 ck x hx lA=>?_,λj ys b z1 z2 ⟨l,p,d,z3,z4,hm⟩=>?_,λb hb=>live b (R.ob.there b hb),R.ob.Lc,R.ob.tab⟩⟩
 ·have hb:b∉o.fp a:=λy=>by rw[(w3 b y).1]at z;cases z
  have:=R.fr b q z;rw[keep b hb (by rw[this];exactλy=>nomatch y)];exact this
 ·have hb:b∉o.fp a:=λy=>by
   rcases(w3 b y).2.2 with y|y
   ·rw[y]at z;cases z
   ·exact n (List.mem_append_right _ y)
  have:=R.old b q z n;rw[keep b hb (by rw[this];exactλy=>nomatch y)];exact this
 ·rcases gs z with⟨_,y⟩|⟨_,z⟩
  ·cases y
  ·exact R.sh j d z
 ·rcases gs z with⟨_,y⟩|⟨_,z⟩
  ·cases y
  ·obtain⟨b,vs,y1,y2,y3⟩:=R.own j xs z
   have hb:b∉o.fp a:=λy=>R.ob.iE j xs b z y1 (ow b y);exact⟨b,vs,y1,by rw[keep b hb (by rw[y2];exactλy=>nomatch y)];exact y2,y3⟩
 ·rcases gs z1 with⟨_,y⟩|⟨_,z1⟩
  ·cases y
  rcases gs z2 with⟨_,y⟩|⟨_,z2⟩
  ·cases y
  exact R.dis j l xs ys b z1 z2 z3 z4
 ·obtain⟨y1,xs,y2⟩:=R.io p hp
  have:p.1≠i:=λy=>by rw[y,e]at y2;cases y2
  exact⟨y1,xs,by rw[bo this];exact y2⟩
 ·rcases gs z with⟨rfl,y⟩|⟨hj,z⟩
  ·cases y
   refine⟨a,h,hr,λb hb=>?_⟩;rcases yQ b hb with y|y
   ·exact⟨(w3 b y).1,hn b hb,(w3 b y).2.2⟩
   ·exact⟨same_none R.fr y,hn b hb,.inl (R.bQ y).1⟩
  ·obtain⟨b,y1,y2,y3⟩:=R.ob.obj j p z
   have kp:∀d∈p.fp b,H' d=H d:=λd hd=>keep d (λy=>R.ob.tT i j o p a b e z h y1 (Ne.symm hj) d y hd) (y3 d hd).2.1;exact⟨b,y1,p.mono (aq.refl _) kp y2,λd hd=>⟨(y3 d hd).1,live d (y3 d hd).2.1,(y3 d hd).2.2⟩⟩
 ·rcases gs z1 with⟨e1,y⟩|⟨hj,y1⟩
  ·cases y
   subst e1;rw[h]at z3;cases z3;rcases gs z2 with⟨e2,_⟩|⟨vF,y2⟩
   ·exact ck e2.symm
   ·rcases yQ x hx with y|y
    ·exact R.ob.tT j l o p2 a d e y2 h z4 ck x y lA
    ·exact(R.ob.owned ⟨l,p2,d,y2,z4,lA⟩).2.1 y
  ·rcases gs z2 with⟨e2,y⟩|⟨vF,y2⟩
   ·cases y
    subst e2;rw[h]at z4;cases z4;rcases yQ x lA with y|y
    ·exact R.ob.tT j l p o b a y1 e z3 h ck x hx y
    ·exact(R.ob.owned ⟨j,p,b,y1,z3,hx⟩).2.1 y
   ·exact R.ob.tT j l p p2 b d y1 y2 z3 z4 ck x hx lA
 ·rcases gs z1 with⟨_,y⟩|⟨_,y1⟩
  ·cases y
  rcases gs z3 with⟨e3,y⟩|⟨_,y3⟩
  ·cases y
   subst e3;rw[h]at z4;cases z4;rcases yQ b hm with y|y
   ·exact R.ob.iE j ys b y1 z2 (ow b y)
   ·obtain⟨c,vs,u1,u2,_⟩:=R.own j ys y1
    rw[z2]at u1;cases u1;rw[y]at u2;cases u2
  ·exact R.ob.iE j ys b y1 z2 ⟨l,p,d,y3,z4,hm⟩
abbrev Bw:=List (Int×Addr×List D)
def ph(ts:Bw):List (Key×V):=ts.map λt=>(.inl t.1,.ref t.2.1)
def vA(ts:Bw):O where
 fp:=λa=>a::ts.map (·.2.1)
 rep:=λF H a=>H a=some (.dK (ph ts))/\(a::ts.map (·.2.1)).Nodup/\(ts.map (·.1)).Nodup/\∀t∈ts,∃vs,H t.2.1=some (.lst vs)/\aC F vs t.2.2
 solid:=λ{F H a b φ} ⟨h,_,_,hs⟩ hb z=>by
  rcases List.mem_cons.mp hb with rfl|hb
  ·rw[h]at z;cases z
  ·obtain⟨t,ht,rfl⟩:=List.mem_map.mp hb
   obtain⟨vs,e,_⟩:=hs t ht;rw[e]at z;cases z
 nt:=λ{F H a b Xr} ⟨h,_,_,hs⟩ hb z=>by
  rcases List.mem_cons.mp hb with rfl|hb
  ·rw[h]at z;cases z
  ·obtain⟨t,ht,rfl⟩:=List.mem_map.mp hb
   obtain⟨vs,e,_⟩:=hs t ht;rw[e]at z;cases z
 mono:=λ{F F' H H' a} s e ⟨h,n1,n2,hs⟩=>⟨by rw[e a (List.mem_cons_self ..)];exact h,n1,n2,λt ht=>by
  obtain⟨vs,h1,h2⟩:=hs t ht;exact⟨vs,by rw[e _ (List.mem_cons_of_mem _ (List.mem_map_of_mem ht))];exact h1,h2.mono s⟩⟩
def eU(ts:Bw)(k:Int)(p:Addr)(d:D):Bw:=if(ts.any λt=>decide (t.1=k))=true then ts.map (λt=>if t.1=k then(t.1,t.2.1,t.2.2++[d])else t)else ts++[(k,p,[d])]
theorem nF(k:Int):∀ts:Bw,(de (ph ts) (.inl k)=none/\(ts.any λt=>decide (t.1=k))=false)\/∃t∈ts,t.1=k/\de (ph ts) (.inl k)=some (.ref t.2.1)/\(ts.any λt=>decide (t.1=k))=true
 | []=>.inl ⟨rfl,rfl⟩
 | t::ts=>by
  by_cases e:t.1=k
  ·refine .inr ⟨t,.head _,e,?_,?_⟩
   ·show de ((Sum.inl t.1,V.ref t.2.1)::ph ts) (.inl k)=_
    rw[fz (show(Sum.inl t.1:Key)=.inl k by rw[e])]
   ·rw[List.any_cons,decide_eq_true e];rfl
  ·have hv:de (ph (t::ts)) (.inl k)=de (ph ts) (.inl k):=fy (p:=(Sum.inl t.1,V.ref t.2.1)) λz=>e (Sum.inl.inj z)
   rw[hv,List.any_cons,decide_eq_false e,Bool.false_or];rcases nF k ts with h|⟨u,hu,h⟩
   ·exact .inl h
   ·exact .inr ⟨u,.tail _ hu,h⟩
end Vc
namespace Vc
open PySem L2
variable [KF]
variable {G:GE}{k:Nat}{S:Stat}
def Kb:TX:=λσ Q=>Q (.obj (vA [])) σ
theorem Dd{pos:Pos}:EX G k S (.Dict [] [] pos) Kb:=.mk λX Y ok=>aO qM λσ H Q q=>by
 obtain⟨F,ai,Qd,R,q,K⟩:=q;intro p hp;refine K _ _ F (.obj (vA [])) ai (aq.refl _) (R.dI hp) ⟨p,rfl,⟨au,(by simp),List.nodup_nil,λt ht=>by cases ht⟩,λb hb=>?_⟩ q
 rw[List.mem_singleton.mp hb];exact⟨same_none R.fr hp,(by rw[au];exactλz=>nomatch z),(R.bQ hp).1,R.cD hp⟩
def Ui(i l j:Nat):cn:=λDe σ=>∃ts k d,σ[i]?=some (some (.obj (vA ts)))/\σ[l]?=some (some (.sh (.int k)))/\σ[j]?=some (some (.sh d))/\ts.length<1000000/\(∀t∈ts,t.2.2.length<1000000)/\∀p,De.nx (σ.set i (some (.obj (vA (eU ts k p d)))))
theorem fG{α β:Type}(f:α->β):∀ {l:List α},(l.map f).Nodup->∀ {x y:α},x∈l->y∈l->f x=f y->x=y
 | a::l,h,x,y,hx,hy,e=>by
  rw[List.map_cons,List.nodup_cons]at h;rcases List.mem_cons.mp hx with hx|hx
  ·rcases List.mem_cons.mp hy with hy|hy
   ·rw[hx,hy]
   ·exact absurd (by rw[<- hx,e];exact List.mem_map_of_mem hy) h.1
  ·rcases List.mem_cons.mp hy with hy|hy
   ·exact absurd (by rw[<- hy,<- e];exact List.mem_map_of_mem hx) h.1
   ·exact fG f h.2 hx hy e
theorem Am(i l j:Nat){x y z:Str}{np kp lp vp Rx RB Ry RC pos:Pos}(hx:S.N[i]?=some x:=by rfl)(hy:S.N[l]?=some y:=by rfl)(hz:S.N[j]?=some z:=by rfl)
  (vx:S.sc.lookup x=some .local\/S.sc.lookup x=some .cell\/S.sc.lookup x=some .free:=by first|exact Or.inl rfl|exact Or.inr (Or.inl rfl)|exact Or.inr (Or.inr rfl))
  (vy:S.sc.lookup y=some .local\/S.sc.lookup y=some .cell\/S.sc.lookup y=some .free:=by first|exact Or.inl rfl|exact Or.inr (Or.inl rfl)|exact Or.inr (Or.inr rfl))
  (vz:S.sc.lookup z=some .local\/S.sc.lookup z=some .cell\/S.sc.lookup z=some .free:=by first|exact Or.inl rfl|exact Or.inr (Or.inl rfl)|exact Or.inr (Or.inr rfl))
  (dx:(x==("__debug__":Str))=false:=by decide) (cx:(x==("__classdict__":Str))=false:=by decide) (dy:(y==("__debug__":Str))=false:=by decide) (cy:(y==("__classdict__":Str))=false:=by decide)
  (dz:(z==("__debug__":Str))=false:=by decide) (cz:(z==("__classdict__":Str))=false:=by decide)
  (Wd:(Rx.endLine==RB.line)=true:=by rfl) (vF:(Ry.endLine==RC.line)=true:=by rfl):
  ES G k S (.Expr (.Call (.Attribute (.Call (.Attribute (.Name x np) "setdefault" Rx) [.Name y kp,.List [] lp] [] RB) "append" Ry) [.Name z vp] [] RC) pos) (Ui i l j):=.mk λX Y ok=>by
 have px:PE X (.Name x np) (lQ i):=dA (by rw[ok.N];exact hx) (by unfold vg;rw[ok.sc];exact vx) dx cx
 have py:PE X (.Name y kp) (lQ l):=dA (by rw[ok.N];exact hy) (by unfold vg;rw[ok.sc];exact vy) dy cy
 have pz:PE X (.Name z vp) (lQ j):=dA (by rw[ok.N];exact hz) (by unfold vg;rw[ok.sc];exact vz) dz cz
 have W6:PA X [.Name y kp,.List [] lp] (d2 (lQ l) (d2 (Dt lN) lN)):=bC py (bC (gq bS) bS rfl) rfl;have p1:=kL (apos:=Rx) (cpos:=RB) F.plainAttrs_dict F.slot_dict_setdefault F.type_dict_setdefault CA px W6 rfl rfl Wd rfl rfl;have p2:=kL (apos:=Ry) (cpos:=RC) F.plainAttrs_list F.slot_list_append F.type_list_append dn p1 (bC pz bS rfl:PA X [.Name z vp] _) rfl rfl vF rfl rfl;refine cu (gW p2 rfl) λDn σ H q=>?_;obtain⟨F,ai,De,R,⟨ts,k,d,e1,e2,e3,hl,iG,q⟩,K⟩:=q;obtain⟨a,w1,⟨w2,n1,n2,w3⟩,w4⟩:=R.ob.obj i _ e1;obtain⟨v2,y1,y2⟩:=R.sh l _ e2;cases(show Rep F v2 (.int k)from y2)
 obtain⟨v3,y3,y4⟩:=R.sh j _ e3;have ha:H a≠none:=by rw[w2];exactλz=>nomatch z
 have lg:∀t∈ts,H t.2.1≠none:=λt ht=>by obtain⟨vs,h1,_⟩:=w3 t ht;rw[h1];exactλz=>nomatch z
 have KU:∀t∈ts,t.2.1≠a:=λt ht z=>(List.nodup_cons.mp n1).1 (z ▸ List.mem_map_of_mem ht);have nA:=(List.nodup_cons.mp n1).2;refine⟨.ref a,w1,.inr (.inr (.inl ⟨rfl,.inl ⟨_,w2⟩⟩)),.int k,y1,Nat.zero_le _,λp hp=>?_⟩;have wO:a≠p:=λz=>ha (z ▸ hp);have ua:∀ {b:Addr},H b≠none->b≠p:=λ{b} hb z=>hb (z ▸ hp);have kl:(ph ts).length<sizeLine:=by unfold ph;rw[List.length_map,sizeLine_eq];omega
 refine⟨a,.ref p,ph ts,.inl k,rfl,rfl,by rw[ak wO];exact w2,kl,λv hv=>?_,λhv=>?_⟩
 ·rcases nF k ts with⟨h1,_⟩|⟨t0,yX,ek,h1,h2⟩
  ·rw[h1]at hv;cases hv
  rw[h1]at hv;cases hv;obtain⟨vs,g1,g2⟩:=w3 t0 yX;have hb:=ua (lg t0 yX);refine⟨.inl ⟨rfl,vs,.inl (.inl (by rw[ak hb];exact g1))⟩,v3,y3,t0.2.1,vs,v3,rfl,rfl,by rw[ak hb];exact g1,by rw[sizeLine_eq,g2.length];have:=iG t0 yX;omega,?_⟩
  have ea:eU ts k p d=ts.map (λt=>if t.1=k then(t.1,t.2.1,t.2.2++[d])else t):=if_pos h2
  have m1:(eU ts k p d).map (·.2.1)=ts.map (·.2.1):=by
   rw[ea,List.map_map];refine List.map_congr_left λt _=>?_;show(if t.1=k then(t.1,t.2.1,t.2.2++[d])else t).2.1=t.2.1
   split<;>rfl
  have m2:(eU ts k p d).map (·.1)=ts.map (·.1):=by
   rw[ea,List.map_map];refine List.map_congr_left λt _=>?_;show(if t.1=k then(t.1,t.2.1,t.2.2++[d])else t).1=t.1
   split<;>rfl
  have m3:ph (eU ts k p d)=ph ts:=by
   unfold ph;rw[ea,List.map_map];refine List.map_congr_left λt _=>?_;show(Sum.inl (if t.1=k then(t.1,t.2.1,t.2.2++[d])else t).1,V.ref (if t.1=k then(t.1,t.2.1,t.2.2++[d])else t).2.1)=(Sum.inl t.1,V.ref t.2.1)
   split<;>rfl
  have Ej:(vA (eU ts k p d)).fp a=(vA ts).fp a:=by show a::_=a::_;rw[m1]
  have live:∀b,H b≠none->upd (upd H p (.lst [])) t0.2.1 (.lst (vs++[v3])) b≠none:=λb hn=>by
   by_cases z:b=t0.2.1
   ·rw[z,au];exactλy=>nomatch y
   ·rw[ak z,ak (ua hn)];exact hn
  refine K.nx σ _ F _ (aq.refl _) (R.n0 (o':=vA (eU ts k p d)) e1 w1 (λb eO hn=>?_) live (λb eO=>.inl (by rw[<- Ej];exact eO)) (λb eO=>?_) ⟨?_,by rw[m1];exact n1,by rw[m2];exact n2,λt' U6=>?_⟩) (q p)
  ·have z1:b≠t0.2.1:=λz=>eO (List.mem_cons_of_mem _ (z ▸ List.mem_map_of_mem yX))
   rw[ak z1,ak (ua hn)]
  ·rw[Ej]at eO
   exact live b (w4 b eO).2.1
  ·rw[ak (Ne.symm (KU t0 yX)),ak wO,m3];exact w2
  ·rw[ea]at U6
   obtain⟨t,ht,rfl⟩:=List.mem_map.mp U6
   by_cases hk:t.1=k
   ·rw[if_pos hk]
    obtain rfl:t=t0:=fG (·.1) n2 ht yX (hk.trans ek.symm)
    exact⟨_,au,g2.append (.cons y4 .nil)⟩
   ·rw[if_neg hk]
    have ck:t.2.1≠t0.2.1:=λz=>hk (by rw[fG (·.2.1) nA ht yX z];exact ek)
    obtain⟨us,h3,h4⟩:=w3 t ht;exact⟨us,by rw[ak ck,ak (ua (lg t ht))];exact h3,h4⟩
 ·rcases nF k ts with⟨h1,h2⟩|⟨t0,yX,ek,h1,h2⟩
  case inr=>rw[h1]at hv;cases hv
  have K1:p≠a:=Ne.symm wO;have ea:eU ts k p d=ts++[(k,p,[d])]:=if_neg (by rw[h2];decide)
  have g0:upd (upd H p (.lst [])) a (.dK (putK (ph ts) (.inl k) (.ref p))) p=some (.lst []):=by rw[ak K1,au]
  refine⟨.inl ⟨rfl,[],.inl (.inl g0)⟩,v3,y3,p,[],v3,rfl,rfl,g0,by rw[sizeLine_eq];exact Nat.succ_pos _,?_⟩
  have Wn:p∉ts.map (·.2.1):=λz=>by obtain⟨t,ht,e⟩:=List.mem_map.mp z;exact lg t ht (e ▸ hp)
  have Wb:k∉ts.map (·.1):=λz=>by
   obtain⟨t,ht,e⟩:=List.mem_map.mp z;have:=List.any_eq_false.mp h2 t ht;exact this (decide_eq_true e)
  have live:∀b,H b≠none->upd (upd (upd H p (.lst [])) a (.dK (putK (ph ts) (.inl k) (.ref p)))) p (.lst ([]++[v3])) b≠none:=λb hn=>by
   rw[ak (ua hn)]
   by_cases z:b=a
   ·rw[z,au];exactλy=>nomatch y
   ·rw[ak z,ak (ua hn)];exact hn
  have m1:(eU ts k p d).map (·.2.1)=ts.map (·.2.1)++[p]:=by rw[ea,List.map_append];rfl
  have Ej:∀b,b∈(vA (eU ts k p d)).fp a->b∈(vA ts).fp a\/b=p:=λb hb=>by
   have hb:b∈a::(eU ts k p d).map (·.2.1):=hb
   rw[m1]at hb;rcases List.mem_cons.mp hb with rfl|hb
   ·exact .inl (List.mem_cons_self ..)
   ·rcases List.mem_append.mp hb with hb|hb
    ·exact .inl (List.mem_cons_of_mem _ hb)
    ·exact .inr (List.mem_singleton.mp hb)
  refine K.nx σ _ F _ (aq.refl _) (R.n0 (o':=vA (eU ts k p d)) e1 w1 (λb eO hn=>?_) live (λb eO=>(Ej b eO).imp id λ(z:b=p)=>by rw[z];exact hp) (λb eO=>?_) ⟨?_,?_,?_,λt ht=>?_⟩) (q p)
  ·have z1:b≠a:=λz=>eO (z ▸ List.mem_cons_self ..)
   rw[ak (ua hn),ak z1,ak (ua hn)]
  ·rcases Ej b eO with hb|rfl
   ·exact live b (w4 b hb).2.1
   ·rw[au];exactλy=>nomatch y
  ·rw[ak wO,au,zY _ hv,ea]
   show _=some (HO.dK ((ts++[(k,p,[d])]).map _));rw[List.map_append];rfl
  ·rw[m1,<- List.cons_append,List.nodup_append]
   refine⟨n1,by simp,λx hx y hy=>?_⟩
   rw[List.mem_singleton.mp hy];intro z;rw[z]at hx;rcases List.mem_cons.mp hx with hx|hx
   ·exact K1 hx
   ·exact Wn hx
  ·rw[ea,List.map_append,List.nodup_append]
   refine⟨n2,by simp,λx hx y hy=>?_⟩
   have hy:y=k:=by simpa using hy
   intro z;rw[z,hy]at hx;exact Wb hx
  ·rw[ea]at ht
   rcases List.mem_append.mp ht with ht|ht
   ·obtain⟨us,h3,h4⟩:=w3 t ht
    exact⟨us,by rw[ak (ua (lg t ht)),ak (KU t ht),ak (ua (lg t ht))];exact h3,h4⟩
   ·rw[List.mem_singleton.mp ht]
    exact⟨_,au,.cons y4 .nil⟩
end Vc
set_option maxHeartbeats 400000
set_option maxHeartbeats 400000
namespace Vc
open PySem L2
variable [KF]
variable {G:GE}{k:Nat}{S:Stat}
def Qp(c:TB)(tb:cn):cn:=λDe σ=>∃W:Nat->Sd->Prop,(∃m,W m σ)/\∀m σ,W m σ ->
 c σ λb ax=>if b=true then∃N:Sd->Prop,(∀bw,N bw->∃m',m'<m/\W m' bw)/\tb {De with nx:=N,ct:=N,bk:=De.nx} ax else De.nx ax
theorem Dl{c:Expr}{body:List Stmt}{tc:TB}{tb:cn}{pos:Pos}(hc:EB G k S c tc)(hb:eL G k S body tb)(hh:S.jJ=false:=by rfl):ES G k S (.While c body [] pos) (Qp tc tb):=.mk λX Y ok =>
 cu (zW (ok.po hh) (hc X Y ok) (hb X Y ok)) λDn σ H q=>by
  obtain⟨F,ai,De,R,⟨W,⟨m0,w0⟩,turn⟩,K⟩:=q;refine⟨λm bw H'=>∃F' aD,aq F F'/\RS Y F' aD bw H'/\W m aD,⟨m0,F,ai,aq.refl _,R,w0⟩,?_⟩;rintro m bw H' ⟨F',aD,s',R',w'⟩;refine⟨F',aD,_,R',turn m aD w',λb H1 F1 ax s1 R1 q1=>?_⟩;cases b with
  | true =>
   obtain⟨N,hN,q1⟩:=q1;refine⟨λbx H2=>∃F2 cv,aq F F2/\RS Y F2 cv bx H2/\N cv,λbx H2 ⟨F2,cv,s2,R2,n2⟩=>?_,F1,ax,_,R1,q1,?_⟩
   ·obtain⟨m',hm,w2⟩:=hN cv n2
    exact⟨m',hm,F2,cv,s2,R2,w2⟩
   ·have QX:=s'.trans s1
    exact⟨λjH H4 F4 cI s4 R4 q4=>⟨F4,cI,QX.trans s4,R4,q4⟩,λv4 jH H4 F4 cI b s4 R4 r4 q4=>K.rt v4 jH H4 F4 cI b (QX.trans s4) R4 r4 q4,λjH H4 F4 cI s4 R4 q4=>K.nx jH H4 F4 cI (QX.trans s4) R4 q4,λjH H4 F4 cI s4 R4 q4=>⟨F4,cI,QX.trans s4,R4,q4⟩⟩
  | false=>exact K.nx bw H1 F1 ax (s'.trans s1) R1 q1
end Vc
namespace Vc
open PySem L2
variable [KF]
variable {G:GE}{k:Nat}{S:Stat}
abbrev k9:=List (Addr×List D)
def eB(ts:k9):O where
 fp:=λa=>a::ts.map (·.1)
 rep:=λF H a=>H a=some (.lst (ts.map λt=>V.ref t.1))/\(a::ts.map (·.1)).Nodup/\∀t∈ts,∃vs,H t.1=some (.lst vs)/\aC F vs t.2
 solid:=λ{F H a b φ} ⟨h,_,hs⟩ hb z=>by
  rcases List.mem_cons.mp hb with rfl|hb
  ·rw[h]at z;cases z
  ·obtain⟨t,ht,rfl⟩:=List.mem_map.mp hb
   obtain⟨vs,e,_⟩:=hs t ht;rw[e]at z;cases z
 nt:=λ{F H a b Xr} ⟨h,_,hs⟩ hb z=>by
  rcases List.mem_cons.mp hb with rfl|hb
  ·rw[h]at z;cases z
  ·obtain⟨t,ht,rfl⟩:=List.mem_map.mp hb
   obtain⟨vs,e,_⟩:=hs t ht;rw[e]at z;cases z
 mono:=λ{F F' H H' a} s e ⟨h,n1,hs⟩=>⟨by rw[e a (List.mem_cons_self ..)];exact h,n1,λt ht=>by
  obtain⟨vs,h1,h2⟩:=hs t ht;exact⟨vs,by rw[e _ (List.mem_cons_of_mem _ (List.mem_map_of_mem ht))];exact h1,h2.mono s⟩⟩
 deep:=some (.lst (ts.map λt=>.lst t.2))
 Et:=λ{F H a d} s hr e=>by
  cases e;obtain⟨w2,n1,w3⟩:=hr;obtain⟨F',eF⟩:∃F':Hp,F'=λb=>if b∈a::ts.map (·.1)then H b else F b:=⟨_,rfl⟩
  have sF:aq F F':=λb u z=>by
   rw[eF];show(if b∈a::ts.map (·.1)then H b else F b)=some u
   split
   ·exact s b u z
   ·exact z
  have NB:∀b∈a::ts.map (·.1),F' b=H b:=λb hb=>by
   rw[eF];show(if b∈a::ts.map (·.1)then H b else F b)=H b
   rw[if_pos hb]
  have sH:aq F' H:=λb u z=>by
   rw[eF]at z;have z:(if b∈a::ts.map (·.1)then H b else F b)=some u:=z
   split at z
   ·exact z
   ·exact s b u z
  have key:∀us:k9,(∀t∈us,t∈ts)->aC F' (us.map λt=>V.ref t.1) (us.map λt=>D.lst t.2):=by
   intro us
   induction us with
   | nil=>intro _;exact .nil
   | cons t us ih =>
    intro hu;obtain⟨vs,h1,h2⟩:=w3 t (hu t (.head _));have hb:t.1∈a::ts.map (·.1):=List.mem_cons_of_mem _ (List.mem_map_of_mem (hu t (.head _)))
    exact .cons (.lst (.inl ((NB _ hb).trans h1)) (h2.mono sF)) (ih λx hx=>hu x (.tail _ hx))
  exact⟨F',sF,sH,.lst (.inl ((NB a (List.mem_cons_self ..)).trans w2)) (key ts λ_ h=>h)⟩
def K5(ts:k9):D:=.lst (ts.map λt=>.lst t.2)
end Vc
namespace Vc
open PySem L2
variable [KF]
variable {G:GE}{k:Nat}{S:Stat}
theorem vW{α:Type}{l:List α}(nd:l.Nodup){i j:Nat}{x:α}(a:l[i]?=some x)(b:l[j]?=some x):i=j:=by
 obtain⟨h1,e1⟩:=List.getElem?_eq_some_iff.mp a;obtain⟨h2,e2⟩:=List.getElem?_eq_some_iff.mp b;exact(List.getElem_inj nd).mp (e1.trans e2.symm)
theorem RS.Eu{Y:bD}{F:Hp}{ai:Sd}{σ:St}{H:Hp}{i m:Nat}{ts:k9}{t:Addr×List D}{a:Addr}{vs:List V}{v:V}{d:D}(R:RS Y F ai σ H)(e:ai[i]?=some (some (.obj (eB ts))))(h:σ[i]?=some (some (.ref a)))(ht:ts[m]?=some t)(hv:H t.1=some (.lst vs))(r:Rep F v d):
  RS Y F (ai.set i (some (.obj (eB (ts.set m (t.1,t.2++[d])))))) σ (upd H t.1 (.lst (vs++[v]))):=by
 obtain⟨a',w1,⟨w2,n1,w3⟩,w4⟩:=R.ob.obj i _ e;rw[h]at w1;cases w1;have QK:=List.mem_of_getElem? ht;have hm:m<ts.length:=(List.getElem?_eq_some_iff.mp ht).1;have n2:=List.nodup_cons.mp n1;have SY:t.1≠a:=λz=>n2.1 (z ▸ List.mem_map_of_mem QK);have m1:(ts.set m (t.1,t.2++[d])).map (·.1)=ts.map (·.1):=by
  rw[List.map_set];refine List.ext_getElem? λj=>?_
  by_cases hj:m=j
  ·subst hj;rw[List.getElem?_set_self (by rw[List.length_map];exact hm),List.getElem?_map,ht];rfl
  ·rw[List.getElem?_set_ne hj]
 have m2:(ts.set m (t.1,t.2++[d])).map (λt=>V.ref t.1)=ts.map λt=>V.ref t.1:=by
  have e1:∀l:k9,(l.map λt=>V.ref t.1)=(l.map (·.1)).map V.ref:=λl=>by rw[List.map_map];rfl
  rw[e1,e1,m1]
 have Ej:(eB (ts.set m (t.1,t.2++[d]))).fp a=(eB ts).fp a:=by show a::_=a::_;rw[m1]
 have live:∀b,H b≠none->upd H t.1 (.lst (vs++[v])) b≠none:=λb hb=>by
  by_cases z:b=t.1
  ·rw[z,au];exactλy=>nomatch y
  ·rw[ak z];exact hb
 refine R.n0 (o':=eB (ts.set m (t.1,t.2++[d]))) e h (λb eO hn=>?_) live (λb eO=>.inl (by rw[<- Ej];exact eO)) (λb eO=>?_) ⟨?_,by rw[m1];exact n1,λu hu=>?_⟩
 ·exact ak λz=>eO (List.mem_cons_of_mem _ (z ▸ List.mem_map_of_mem QK))
 ·rw[Ej]at eO
  exact live b (w4 b eO).2.1
 ·rw[ak (Ne.symm SY),m2];exact w2
 ·obtain⟨j,hj⟩:=List.getElem?_of_mem hu
  by_cases SM:m=j
  ·subst SM
   rw[List.getElem?_set_self hm]at hj;cases hj;obtain⟨ws,h1,h2⟩:=w3 t QK;rw[hv]at h1;cases h1;exact⟨_,au,h2.append (.cons r .nil)⟩
  ·rw[List.getElem?_set_ne SM]at hj
   have U8:=List.mem_of_getElem? hj;obtain⟨ws,h1,h2⟩:=w3 u U8;have ck:u.1≠t.1:=λz=>by
    have e1:=fG (·.1) n2.2 U8 QK z
    have g1:ts[m]?=some u:=by rw[e1];exact ht
    have yS:j<ts.length:=(List.getElem?_eq_some_iff.mp hj).1;have nd:=n2.2;have q1:(ts.map (·.1))[m]?=some u.1:=by rw[List.getElem?_map,g1];rfl
    have q2:(ts.map (·.1))[j]?=some u.1:=by rw[List.getElem?_map,hj];rfl
    exact SM (vW nd q1 q2)
   exact⟨ws,by rw[ak ck];exact h1,h2⟩
def Ql(i:Nat)(tb:TV)(te:TD):cn:=λDe σ=>(∃ts,σ[i]?=some (some (.obj (eB ts))))/\tb σ λy ax=>match d9 ax y with
 | some (.int n)=>∃Kx t0,∃m:Nat,ax[i]?=some (some (.obj (eB Kx)))/\n=(m:Int)/\Kx[m]?=some t0/\te ax λd bx=>∃ts t,bx[i]?=some (some (.obj (eB ts)))/\ts[m]?=some t/\t.1=t0.1/\t.2.length<1000000/\De.nx (bx.set i (some (.obj (eB (ts.set m (t.1,t.2++[d]))))))
 | _=>False
theorem uO(i:Nat){x:Str}{b e:Expr}{tb:TV}{te:TD}{np sp ap cp pos:Pos}(hb:EO G k S b tb)(he:ED G k S e te)(hx:S.N[i]?=some x:=by rfl)
  (vx:S.sc.lookup x=some .local\/S.sc.lookup x=some .cell\/S.sc.lookup x=some .free:=by first|exact Or.inl rfl|exact Or.inr (Or.inl rfl)|exact Or.inr (Or.inr rfl))
  (dx:(x==("__debug__":Str))=false:=by decide) (cx:(x==("__classdict__":Str))=false:=by decide) (hs:m9 b:=by intro _ _;rfl)
  (hl:(ap.endLine==cp.line)=true:=by rfl) (so:∀env,starEach [e] env=[(false,eval e env)]:=by intro _;rfl):
  ES G k S (.Expr (.Call (.Attribute (.Subscript (.Name x np) b sp) "append" ap) [e] [] cp) pos) (Ql i tb te):=.mk λX Y ok=>by
 have px:PE X (.Name x np) (lQ i):=dA (by rw[ok.N];exact hx) (by unfold vg;rw[ok.sc];exact vx) dx cx
 have p1:=EA (pos:=sp) uh px (hb X Y ok) hs;have p2:=kL (apos:=ap) (cpos:=cp) F.plainAttrs_list F.slot_list_append F.type_list_append dn p1 (bC (he X Y ok) bS (so _)) rfl (by rw[so];rfl) hl (so _) rfl
 refine cu (gW p2 rfl) λDn σ H0 q=>?_;obtain⟨F0,σ0,De,R0,⟨⟨Xo,VG⟩,q⟩,K⟩:=q;obtain⟨a,w1,_,_⟩:=R0.ob.obj i _ VG;refine⟨.ref a,w1,F0,σ0,_,R0,q,λv1 H1 F1 y ax s1 R1 r1 q1=>?_⟩
 split at q1
 ·rename_i n ed
  obtain⟨Kx,t0,m,e0,rfl,yX,q1⟩:=q1;have ry:=R1.d9 r1 ed;obtain rfl:=ry.int;obtain⟨a',Qs,⟨w2,n1,w3⟩,w4⟩:=R1.ob.obj i _ e0;rw[w1]at Qs;cases Qs;obtain⟨Xs,g1,g2⟩:=w3 t0 (List.mem_of_getElem? yX);refine⟨a,_,_,.ref t0.1,rfl,rfl,.of w2,nq (by rw[List.getElem?_map,yX];rfl),.inl ⟨rfl,Xs,.inl (.inl g1)⟩,F1,ax,_,R1,q1,λv2 H2 F2 d bx s2 R2 r2 q2=>?_⟩
  obtain⟨ts,t,e2,ht,et,hlen,q2⟩:=q2;obtain⟨a',Qs,⟨u2,m1,u3⟩,u4⟩:=R2.ob.obj i _ e2;rw[w1]at Qs;cases Qs;obtain⟨vs,h1,h2⟩:=u3 t (List.mem_of_getElem? ht);refine⟨t0.1,vs,v2,rfl,rfl,by rw[<- et];exact h1,by rw[sizeLine_eq,h2.length];omega,?_⟩
  rw[<- et];exact K.nx σ _ F2 _ (s1.trans s2) (R2.Eu e2 w1 ht h1 r2) q2
 ·exact q1.elim
end Vc
namespace Vc
open PySem L2
variable [KF]
variable {G:GE}{k:Nat}{S:Stat}
theorem RS.away{Y:bD}{F:Hp}{ai:Sd}{σ:St}{H:Hp}{i:Nat}{u:Option V}(R:RS Y F ai σ H)(cO:∀p∈Y.io,p.1≠i):RS Y F (ai.set i none) (σ.set i u) H:=by
 have ne:∀ {j:Nat} {b:B},(ai.set i none)[j]?=some (some b)->j≠i:=λe z=>by
  rcases gs e with⟨_,w⟩|⟨w,_⟩
  ·cases w
  ·exact w z
 refine⟨by simpa using R.len,R.lo,R.fr,R.eM,R.old,λj d e=>?_,λj xs e=>?_,λj l xs ys a e1 e2 e3 e4=>?_,λp hp=>?_,R.ob.put (λ_ hj=>bo hj) (λ_ z=>nomatch z) (λ_ _ z=>nomatch z)⟩
 ·have n:=ne e
  rw[bo n]at e ⊢;exact R.sh j d e
 ·have n:=ne e
  rw[bo n]at e ⊢;exact R.own j xs e
 ·have h1:=ne e1
  have h2:=ne e2;rw[bo h1]at e1 e3;rw[bo h2]at e2 e4;exact R.dis j l xs ys a e1 e2 e3 e4
 ·have n:=cO p hp
  rw[bo n,bo n];exact R.io p hp
def jq(ts:k9)(d:D):k9:=ts.map λt=>(t.1,t.2++[d])
def Ub(i j:Nat)(d:D):cn:=λDe σ=>∃ts,σ[i]?=some (some (.obj (eB ts)))/\j<σ.length/\(∀t∈ts,t.2.length<1000000)/\De.nx ((σ.set i (some (.obj (eB (jq ts d))))).set j none)
def fw(ts:k9)(d:D)(n:Nat):k9:=ts.mapIdx λk t=>if k<n then(t.1,t.2++[d])else t
theorem fx(ts:k9)(d:D)(n j:Nat):(fw ts d n)[j]?=(ts[j]?).map λt=>if j<n then(t.1,t.2++[d])else t:=by
 unfold fw;rw[List.getElem?_mapIdx]
theorem wC(ts:k9)(d:D):fw ts d 0=ts:=List.ext_getElem? λj=>by
 rw[fx];cases ts[j]?<;>simp
theorem A4(ts:k9)(d:D):fw ts d ts.length=jq ts d:=List.ext_getElem? λj=>by
 unfold jq;rw[fx,List.getElem?_map];cases e:ts[j]? with
 | none=>rfl
 | some t=>rw[Option.map_some,Option.map_some,if_pos (List.getElem?_eq_some_iff.mp e).1]
theorem wB{ts:k9}{d:D}{n:Nat}{t:Addr×List D}(h:ts[n]?=some t):(fw ts d n).set n (t.1,t.2++[d])=fw ts d (n+1):=List.ext_getElem? λj=>by
 rw[fx]
 by_cases hj:n=j
 ·subst hj
  have hn:n<ts.length:=(List.getElem?_eq_some_iff.mp h).1;rw[List.getElem?_set_self (by unfold fw;rw[List.length_mapIdx];exact hn),h,Option.map_some,if_pos ⋯]
 ·rw[List.getElem?_set_ne hj,fx]
  cases ts[j]? with
  | none=>rfl
  | some u =>
   rw[Option.map_some,Option.map_some]
   by_cases h1:j<n
   ·rw[if_pos h1,if_pos ⋯]
   ·rw[if_neg h1,if_neg ⋯]
theorem Ak(i j:Nat)(d:D){x y:Str}{e:Expr}{te:TD}{np yp dS ap cp vB pos:Pos}(he:ED G k S e te)(Wx:∀(σ:Sd) (Q:D->Sd->Prop),Q d σ->te σ Q)(ly:i≠j:=by decide)(hx:S.N[i]?=some x:=by rfl)(hy:S.N[j]?=some y:=by rfl)
  (vx:S.sc.lookup x=some .local\/S.sc.lookup x=some .cell\/S.sc.lookup x=some .free:=by first|exact Or.inl rfl|exact Or.inr (Or.inl rfl)|exact Or.inr (Or.inr rfl))
  (vy:S.sc.lookup y=some .local\/(S.sc.lookup y=some .cell/\S.vk=false):=by first|exact Or.inl rfl|exact Or.inr ⟨rfl,rfl⟩)
  (dx:(x==("__debug__":Str))=false:=by decide) (cx:(x==("__classdict__":Str))=false:=by decide) (dy:(y==("__debug__":Str))=false:=by decide) (cy:(y==("__classdict__":Str))=false:=by decide)
  (hn:j∉S.ios:=by first|decide|exact List.not_mem_nil | (dsimp only;decide)) (hl:(ap.endLine==cp.line)=true:=by rfl) (so:∀env,starEach [e] env=[(false,eval e env)]:=by intro _;rfl)
  (hs:∀env x',foldedSetIterable (.Name x np) env x'=pure x':=by intro _ _;rfl) (hh:S.jJ=false:=by rfl):
  ES G k S (.For (.Name y dS) (.Name x np) [.Expr (.Call (.Attribute (.Name y yp) "append" ap) [e] [] cp) vB] [] pos) (Ub i j d):=.mk λX Y ok=>by
 have px:PE X (.Name x np) (lQ i):=dA (by rw[ok.N];exact hx) (by unfold vg;rw[ok.sc];exact vx) dx cx
 have py:PE X (.Name y yp) (lQ j):=dA (by rw[ok.N];exact hy) (by unfold vg;rw[ok.sc];exact vy.imp id λz=>.inl z.1) dy cy
 have pb:=kL (apos:=ap) (cpos:=cp) F.plainAttrs_list F.slot_list_append F.type_list_append dn py (bC (he X Y ok) bS (so _)) rfl (by rw[so];rfl) hl (so _) rfl
 have body:=jO (gW (pos:=vB) pb rfl);have pi:=zN (tg:=.Name y dS) px;refine cu (sP (ok.po hh) (ok.calm hh) pi (L2.gV (i:=j) (by rw[ok.N];exact ok.nd) (by rw[ok.N];exact hy) (gn ok vy) (gf ok vy)) body (hs _)) λDn σ H q=>?_
 obtain⟨F,ai,De,R,⟨ts,e0,XU,hlen,q⟩,K⟩:=q;obtain⟨a,w1,⟨w2,n1,w3⟩,w4⟩:=R.ob.obj i _ e0;have M9:∀p∈Y.io,p.1≠j:=λp hp z=>hn (by rw[<- z];exact ok.ios p hp)
 obtain⟨SD,KQ⟩:∃SD:Nat->Sd,SD=λn=>(ai.set i (some (.obj (eB (fw ts d n))))).set j none:=⟨_,rfl⟩;have UR:i<ai.length:=(List.getElem?_eq_some_iff.mp e0).1;have T3:∀n,(SD n)[i]?=some (some (.obj (eB (fw ts d n)))):=λn=>by
  rw[KQ];show((ai.set i (some (.obj (eB (fw ts d n))))).set j none)[i]?=_;rw[List.getElem?_set_ne (Ne.symm ly),List.getElem?_set_self UR]
 have Xg:∀n,(SD n).set j none=SD n:=λn=>by rw[KQ];exact List.set_set ..
 have R0:RS Y F (SD 0) σ H:=by
  have z:=R.away (u:=(σ[j]?).getD none) M9;have e1:σ.set j ((σ[j]?).getD none)=σ:=List.ext_getElem? λl=>by
   by_cases UT:j=l
   ·subst UT
    by_cases UU:j<σ.length
    ·rw[List.getElem?_set_self UU,List.getElem?_eq_getElem UU];rfl
    ·rw[List.getElem?_eq_none (by rw[List.length_set];omega),List.getElem?_eq_none ⋯]
   ·rw[List.getElem?_set_ne UT]
  have e2:ai.set i (some (.obj (eB ts)))=ai:=List.ext_getElem? λl=>by
   by_cases M8:i=l
   ·subst M8;rw[List.getElem?_set_self UR,e0]
   ·rw[List.getElem?_set_ne M8]
  rw[e1]at z;rw[KQ];show RS Y F ((ai.set i (some (.obj (eB (fw ts d 0))))).set j none) σ H;rw[wC,e2];exact z
 refine⟨.ref a,w1,.inl ⟨a,rfl,⟨_,.of w2⟩,λn m bw H'=>n<=ts.length/\m=ts.length-n/\bw[i]?=some (some (.ref a))/\∃F',aq F F'/\RS Y F' (SD n) bw H',⟨ts.length,Nat.zero_le _,rfl,w1,F,aq.refl _,R0⟩,?_⟩⟩;rintro n m bw H' ⟨Wk,rfl,ha,F',s',R'⟩;obtain⟨a',z1,⟨z2,z3,z4⟩,z5⟩:=R'.ob.obj i _ (T3 n);rw[ha]at z1;cases z1;have W3:(fw ts d n).length=ts.length:=by unfold fw;exact List.length_mapIdx
 by_cases iG:n<ts.length
 ·right
  have et:ts[n]?=some ts[n]:=List.getElem?_eq_getElem iG;have eu:(fw ts d n)[n]?=some ts[n]:=by rw[fx,et,Option.map_some,if_neg ⋯]
  obtain⟨vs,g1,g2⟩:=z4 _ (List.mem_of_getElem? eu);refine⟨⟨_,.ref (ts[n]).1,.of z2,by rw[List.getElem?_map,eu];rfl⟩,λbx H2=>bx[i]?=some (some (.ref a))/\∃F2,aq F F2/\RS Y F2 (SD (n+1)) bx H2,λbx H2 ⟨b1,F2,b2,b3⟩=>⟨ts.length-(n+1),by omega,by omega,rfl,b1,F2,b2,b3⟩,λv H2 y=>?_⟩
  obtain⟨rfl,y⟩:=y;have hv:=y _ (.of z2);rw[List.getElem?_map,eu]at hv;cases hv;have R2:RS Y F' (SD n) (bw.set j (some (.ref (ts[n]).1))) H2:=by
   have z:=R'.away (u:=some (.ref (ts[n]).1)) M9;rw[Xg]at z;exact z
  have Sg:(bw.set j (some (.ref (ts[n]).1)))[i]?=some (some (.ref a)):=by rw[List.getElem?_set_ne (Ne.symm ly)];exact ha
  have Nf:j<bw.length:=by
   have z:=R'.len;rw[KQ]at z;simp only[List.length_set]at z;omega
  refine⟨.ref (ts[n]).1,List.getElem?_set_self Nf,.inl ⟨rfl,vs,.inl (.inl g1)⟩,F',SD n,λd' Uo=>d'=d/\Uo=SD n,R2,Wx _ _ ⟨rfl,rfl⟩,λv2 H3 F3 d' eK s3 R3 r3 q3=>?_⟩;obtain⟨rfl,rfl⟩:=q3;obtain⟨a',y1,⟨y2,y3,y4⟩,y5⟩:=R3.ob.obj i _ (T3 n);rw[Sg]at y1;cases y1;obtain⟨Xt,g3,g4⟩:=y4 _ (List.mem_of_getElem? eu);refine⟨(ts[n]).1,Xt,v2,rfl,rfl,g3,by rw[sizeLine_eq,g4.length];have:=hlen _ (List.getElem_mem iG);omega,Sg,F3,s'.trans s3,?_⟩
  have z:=R3.Eu (T3 n) Sg eu g3 r3;rw[wB et]at z;have e3:(SD n).set i (some (.obj (eB (fw ts d' (n+1)))))=SD (n+1):=by
   rw[KQ];show((ai.set i (some (.obj (eB (fw ts d' n))))).set j none).set i _=(ai.set i _).set j none;rw[List.set_comm _ _ (Ne.symm ly),List.set_set]
  rw[e3]at z;exact z
 ·left
  have en:n=ts.length:=by omega
  subst en;refine⟨⟨_,.of z2,by rw[List.length_map,W3];exact Nat.le_refl _⟩,K.nx bw H' F' (SD ts.length) s' R' ?_⟩
  rw[KQ];show De.nx ((ai.set i (some (.obj (eB (fw ts d ts.length))))).set j none);rw[A4];exact q
end Vc
namespace Vc
open PySem L2
variable [KF]
variable {G:GE}{k:Nat}{S:Stat}
theorem aC.eraseIdx{F:Hp}{vs:List V}{xs:List D}(r:aC F vs xs)(n:Nat):aC F (vs.eraseIdx n) (xs.eraseIdx n):=by
 rw[List.eraseIdx_eq_take_drop_succ,List.eraseIdx_eq_take_drop_succ];exact(r.take _).append (r.drop _)
end Vc
namespace Vc
open PySem L2
variable [KF]
def lC(kvs:List (Int×D))(i:Int):Option D:=(kvs.find? λp=>decide (p.1=i)).map (·.2)
def vJ(kvs:List (Int×D))(i:Int)(d:D):List (Int×D):=if(kvs.any λp=>decide (p.1=i))=true then kvs.map (λp=>if p.1=i then(p.1,d)else p)else kvs++[(i,d)]
theorem bX.length{F:Hp}:∀ {ks:List (Key×V)} {kvs:List (Int×D)},bX F ks kvs->ks.length=kvs.length
 | _,_,.nil=>rfl
 | _,_,.cons _ r=>by simp [bX.length r]
theorem y9(i j:Int):((Sum.inl i:Key)=Sum.inl j)=(i=j):=by simp
theorem bX.val{F:Hp}(j:Int):∀ {ks:List (Key×V)} {kvs:List (Int×D)},bX F ks kvs->(de ks (.inl j)=none/\lC kvs j=none)\/∃v d,de ks (.inl j)=some v/\lC kvs j=some d/\Rep F v d
 | _,_,.nil=>.inl ⟨rfl,rfl⟩
 | _,_,.cons (i:=i) (v:=v) (d:=d) (ks:=ks) (kvs:=kvs) h r=>by
  by_cases e:i=j
  ·subst e
   exact .inr ⟨v,d,fz rfl,by unfold lC;rw[List.find?_cons_of_pos (by simp)];rfl,h⟩
  ·have e1:de ((Sum.inl i,v)::ks) (Sum.inl j)=de ks (Sum.inl j):=fy (by show¬(Sum.inl i:Key)=Sum.inl j;rw[y9];exact e)
   have e2:lC ((i,d)::kvs) j=lC kvs j:=by unfold lC;rw[List.find?_cons_of_neg (by simpa using e)]
   rw[e1,e2];exact bX.val j r
theorem bX.append{F:Hp}:∀ {ks js:List (Key×V)} {kvs Vj:List (Int×D)},bX F ks kvs->bX F js Vj->bX F (ks++js) (kvs++Vj)
 | _,_,_,_,.nil,s=>s
 | _,_,_,_,.cons h r,s=>.cons h (bX.append r s)
theorem bX.any{F:Hp}(j:Int):∀ {ks:List (Key×V)} {kvs:List (Int×D)},bX F ks kvs->(ks.any λkv=>decide (kv.1=Sum.inl j))=(kvs.any λp=>decide (p.1=j))
 | _,_,.nil=>rfl
 | _,_,.cons (i:=i) _ r=>by
  rw[List.any_cons,List.any_cons,bX.any j r];congr 1;simp
theorem bX.repl{F:Hp}{v:V}{d:D}(j:Int)(hv:Rep F v d):∀ {ks:List (Key×V)} {kvs:List (Int×D)},bX F ks kvs->bX F (ks.map λkv=>if kv.1=Sum.inl j then(kv.1,v)else kv) (kvs.map λp=>if p.1=j then(p.1,d)else p)
 | _,_,.nil=>.nil
 | _,_,.cons (i:=i) h r=>by
  rw[List.map_cons,List.map_cons]
  by_cases e:i=j
  ·rw[if_pos (show(Sum.inl i:Key)=Sum.inl j by rw[e]),if_pos (show i=j from e)]
   exact .cons hv (bX.repl j hv r)
  ·rw[if_neg (show¬(Sum.inl i:Key)=Sum.inl j by rw[y9];exact e),if_neg (show¬i=j from e)]
   exact .cons h (bX.repl j hv r)
theorem bX.put{F:Hp}{ks:List (Key×V)}{kvs:List (Int×D)}{v:V}{d:D}(j:Int)(r:bX F ks kvs)(hv:Rep F v d):bX F (putK ks (.inl j) v) (vJ kvs j d):=by
 unfold putK vJ;rw[r.any j]
 split
 ·exact r.repl j hv
 ·exact r.append (.cons hv .nil)
def xY(a:Addr)(kvs:List (Int×D)):O where
 fp:=λb=>[b]
 rep:=λF H b=>b=a/\∃ks,H b=some (.dK ks)/\bX F ks kvs
 solid:=λ{F H a b φ} ⟨_,ks,h,_⟩ hb z=>by
  rw[List.mem_singleton.mp hb,h]at z;cases z
 nt:=λ{F H a b vs} ⟨_,ks,h,_⟩ hb z=>by
  rw[List.mem_singleton.mp hb,h]at z;cases z
 mono:=λ{F F' H H' a} s e ⟨e0,ks,h,r⟩=>⟨e0,ks,by rw[e a (List.mem_singleton.mpr rfl)];exact h,r.mono s⟩
 view:=some (.jC kvs)
 sees:=λ{F H a d} ⟨_,ks,h,r⟩ e=>by cases e;exact⟨a,ks,rfl,h,r⟩
 lend:=λ{F H a d} s ⟨_,ks,h,r⟩ e=>by
  cases e;obtain⟨F',s1,s2,e1,e2⟩:=cE s h;refine⟨F',s1,s2,.jC e1 (r.mono s1),λc u z=>?_⟩;rcases e2 c u z with z|⟨rfl,rfl⟩
  ·exact .inl z
  ·exact .inr ⟨rfl,List.mem_singleton.mpr rfl⟩
 loc:=some a
 N0:=λ{F H a b} ⟨e,_⟩ q=>by cases q;exact e
variable {G:GE}{k:Nat}{S:Stat}
def q0(i:Nat):TV:=λσ Q=>match σ[i]? with
 | some (some (.sh d))=>Q (.val d) σ
 | some (some _)=>Q (.var i) σ
 | _=>False
theorem Ag(i:Nat){x:Str}{pos:Pos}(hN:S.N[i]?=some x:=by rfl)(hv:S.sc.lookup x=some .local\/S.sc.lookup x=some .cell\/S.sc.lookup x=some .free:=by first|exact Or.inl rfl|exact Or.inr (Or.inl rfl)|exact Or.inr (Or.inr rfl))
  (hd:(x==("__debug__":Str))=false:=by decide) (qm:(x==("__classdict__":Str))=false:=by decide):EO G k S (.Name x pos) (q0 i):=.mk λX Y ok =>
 aO (dA (X:=X) (i:=i) (by rw[ok.N];exact hN) (by unfold vg;rw[ok.sc];exact hv) hd qm) λσ H Q q=>by
  obtain⟨F,ai,Qd,R,q,K⟩:=q;unfold q0 at q
  split at q
  ·rename_i d e
   obtain⟨v,e2,r2⟩:=R.sh i d e;exact⟨v,e2,K v H F (.val d) ai (aq.refl _) R r2 q⟩
  ·rename_i b hb e
   cases b with
   | sh d=>exact absurd rfl (hb d)
   | own xs =>
    obtain⟨a,vs,e2,_⟩:=R.own i xs e;exact⟨_,e2,K _ H F (.var i) ai (aq.refl _) R e2 q⟩
   | obj o =>
    obtain⟨a,e2,_⟩:=R.ob.obj i o e;exact⟨_,e2,K _ H F (.var i) ai (aq.refl _) R e2 q⟩
  ·exact q.elim
def J9:TX:=λσ Q=>∀p,Q (.obj (xY p [])) σ
theorem Dc{pos:Pos}:EX G k S (.Dict [] [] pos) J9:=.mk λX Y ok=>aO qM λσ H Q q=>by
 obtain⟨F,ai,Qd,R,q,K⟩:=q;intro p hp;refine K _ _ F (.obj (xY p [])) ai (aq.refl _) (R.dI hp) ⟨p,rfl,⟨rfl,[],au,.nil⟩,λb hb=>?_⟩ (q p);rw[List.mem_singleton.mp hb];exact⟨same_none R.fr hp,(by rw[au];exactλz=>nomatch z),(R.bQ hp).1,R.cD hp⟩
def Ta:D->D->(Bool->Prop)->Prop
 | .int i,.jC kvs,Q=>Q (lC kvs i).isSome
 | _,_,_=>False
def zh(x y:D)(Q:Bool->Prop):Prop:=Ta x y λb=>Q !b
theorem Ce{F H:Hp}{v u:V}{i:Int}{kvs:List (Int×D)}(rv:bP F H v (.int i))(ru:bP F H u (.jC kvs)):∃a o,u=.ref a/\wW H a v o/\o.isSome=(lC kvs i).isSome:=by
 obtain rfl:=rv.int;obtain⟨a,ks,rfl,h,r⟩:=ru;refine⟨a,_,rfl,.k (k:=.inl i) h,?_⟩;rcases r.val i with⟨e1,e2⟩|⟨v,d,e1,e2,_⟩
 ·rw[e1,e2];rfl
 ·rw[e1,e2];rfl
theorem xr:lh G k S .NotIn zh:=⟨z0 true,λX Y ok=>v9 (by have:=ok.units;omega),λY F H ai σ v u x y Qd Q R rx ry q K=>by
 unfold zh Ta at q
 split at q
 ·obtain⟨a,o,rfl,g,e⟩:=Ce rx ry
  exact⟨a,o,rfl,g,K _ (by rw[if_pos rfl,e];exact q)⟩
 ·exact q.elim⟩
def Kc(i:Nat)(tk:TV)(tv:TD):cn:=λDe σ=>tv σ λd ax=>(∃a kvs,ax[i]?=some (some (.obj (xY a kvs))))/\tk ax λy bx=>match d9 bx y with
 | some (.int j)=>∃a kvs,bx[i]?=some (some (.obj (xY a kvs)))/\kvs.length<sizeLine/\De.nx (bx.set i (some (.obj (xY a (vJ kvs j d)))))
 | _=>False
theorem Di(i:Nat){x:Str}{ke ve:Expr}{tk:TV}{tv:TD}{np pos' pos:Pos}(hv:ED G k S ve tv)(hk:EO G k S ke tk)(ho:EO G k S (.Name x np) (Ug i))(hs:∀line env,swapsWith ve (some (.Subscript (.Name x np) ke pos')) line env=pure false:=by intro _ _;rfl):
  ES G k S (.Assign [.Subscript (.Name x np) ke pos'] ve pos) (Kc i tk tv):=.mk λX Y ok =>
 cu (C1 (by have:=ok.units;omega) (ho X Y ok) (hk X Y ok) (hv X Y ok) (hs _ _)) λDn σ H q=>by
  obtain⟨F,ai,De,R,q,K⟩:=q;refine⟨F,ai,_,R,q,λv H1 F1 d ax s1 R1 r1 q1=>?_⟩;obtain⟨⟨a0,WO,e0⟩,q1⟩:=q1;refine⟨F1,ax,λx Up=>x=.var i/\Up=ax,R1,⟨⟨_,e0⟩,rfl,rfl⟩,λv2 H2 F2 y bx s2 R2 r2 q2=>?_⟩;obtain⟨rfl,rfl⟩:=q2;have r2:σ[i]?=some (some v2):=r2;refine⟨F2,bx,_,R2,q1,λv3 H3 F3 kd eK s3 R3 r3 q3=>?_⟩
  split at q3
  ·rename_i j ej
   obtain rfl:=(R3.d9 r3 ej).int;obtain⟨a,kvs,e,hl,q3⟩:=q3;obtain⟨b,w1,⟨rfl,us,w2,w3⟩,w4⟩:=R3.ob.obj i _ e;rw[r2]at w1;cases w1;refine⟨b,_,rfl,.k (k:=.inl j) w2 (by rw[w3.length];exact hl),K.nx σ _ F3 _ ((s1.trans s2).trans s3) (R3.zl (o':=xY b (vJ kvs j d)) e r2 (List.mem_singleton.mpr rfl) (λ_ z=>z) ⟨rfl,_,au,w3.put j (r1.mono (s2.trans s3))⟩) q3⟩
  ·exact q3.elim
end Vc
namespace Vs
open PySem PySem.Calls PyProof.Rows PyProof.V PySem.Spec
def qo:Value->Int
 | .int i _=>i
 | _=>0
section
variable {prog:Program}{w:World}{A:Around}{E:Value->Shared->Prop}{s:Shared}
theorem za{vs:List Value}{ns:List Int}{Q:SortKind->Shared->Prop}(hl:2<=vs.length)(h:IntsAre vs ns)(q:Q oneType' s):wpAny (model prog w) A (keyKind' vs.toArray) Q E s:=by
 match vs,hl,h with
 | Xu::Xv::r,_,h =>
  rw[keyKind_ints h];exact wpAny_pure q
theorem Cy{l:List Keyed}(h:∀x∈l,∃i t,x.1=Value.int i t):eS (model prog w) A E s (rk (λx=>[qo x.1]) l) oneType' (λx=>x∈l):=λx y st Q hx hy hk q=>by
 rw[uM hx]at q;rw[lt'_eq];refine wpS_bind (wpS_get ?_);rw[hk];obtain⟨i,t,e1⟩:=h x hx;obtain⟨j,u,e2⟩:=h y hy;rw[e1,e2,show HT.lexLt [qo (.int i t)] [qo (.int j u)]=decide (i<j)from by
  show(if i=j then HT.lexLt [] []else decide (i<j))=_
  by_cases e:i=j
  ·rw[if_pos e,decide_eq_false ⋯];rfl
  ·rw[if_neg e]]at q
 refine wpS_bind (wpS_lift (wpAny_attempt ?_));rw[e1,e2,keyLt'_oneType];exact oneLt_int ⟨rfl,wpS_pure q⟩
end
end Vs
namespace Vc
open PySem L2
variable [KF]
theorem kj:∀ {vs:List Value} {ns:List Int},PyProof.Rows.IntsAre vs ns->vs.map Vs.qo=ns
 | _,_,.nil=>rfl
 | _,_,.cons n t h=>by rw[List.map_cons,kj h];rfl
theorem jn:∀ {vs:List Value} {ns:List Int},PyProof.Rows.IntsAre vs ns->∀v∈vs,∃i t,v=Value.int i t
 | _,_,.nil,v,hv=>by cases hv
 | _,_,.cons n t h,v,hv=>by
  rcases List.mem_cons.mp hv with rfl|hv
  ·exact⟨n,t,rfl⟩
  ·exact jn h v hv
theorem d4:∀ {vs:List Value},(∀v∈vs,∃i t,v=Value.int i t)->Vals ((vs.map Vs.qo).map V.int) vs
 | [],_=>.nil
 | v::vs,h=>by
  obtain⟨i,t,rfl⟩:=h v (.head _);exact .cons ⟨t,rfl⟩ (d4 λx hx=>h x (.tail _ hx))
variable {G:GE}{k:Nat}{S:Stat}
def mU(ns:List Int):List Int:=ns.mergeSort λx y=>decide (x<=y)
theorem sV(ns:List Int):(mU ns).Perm ns:=List.mergeSort_perm _ _
theorem oI(ns:List Int):(mU ns).Pairwise λx y=>x<=y:=by
 have:=List.pairwise_mergeSort (le:=λx y:Int=>decide (x<=y)) (λa b c h1 h2=>by simp only[decide_eq_true_eq]at *;omega) (λa b=>by simp only[Bool.or_eq_true,decide_eq_true_eq];omega) ns
 exact this.imp λh=>of_decide_eq_true h
theorem qX{ns ms:List Int}(h:ms.Perm ns)(hs:ms.Pairwise λx y=>x<=y):ms=mU ns:=
 (h.trans (sV ns).symm).eq_of_pairwise (le:=λx y:Int=>x<=y) (λa b _ _ h1 h2=>Int.le_antisymm h1 h2) hs (oI ns)
theorem mO{F:Hp}:∀ms:List Int,aC F (ms.map V.int) (ms.map D.int)
 | []=>.nil
 | i::ms=>.cons (.int i) (mO ms)
end Vc
namespace Vc
open PySem L2
variable [KF]
abbrev Xy:=List B->(B->List B->Prop)->Prop
variable {G:GE}{k:Nat}{S:Stat}
end Vc
namespace Vc
open PySem L2
variable [KF]
mutual
def Tw:D->Bool
 | .bB=>true
 | .bl _=>true
 | .int _=>true
 | .str _=>true
 | .tup xs=>zi xs
 | .lst xs=>zi xs
 | _=>false
def zi:List D->Bool
 | []=>true
 | x::xs=>Tw x&&zi xs
end
mutual
theorem Rep.AW{F F':Hp}(hs:∀c u,F c=some u->F' c=some u\/dl u=true):∀ {v:V} {d:D},Rep F v d->Tw d=true->Rep F' v d
 | _,_,.bB,_=>.bB
 | _,_,.bl b,_=>.bl b
 | _,_,.int i,_=>.int i
 | _,_,.str x,_=>.str x
 | _,_,.tup h r,n=>.tup ((hs _ _ h).elim id λz=>by cases z) (aC.AW hs r n)
 | _,_,.lst h r,n=>.lst (by
   rcases h with h|⟨o,h⟩
   ·exact .inl ((hs _ _ h).elim id λz=>by cases z)
   ·exact .inr ⟨o,(hs _ _ h).elim id λz=>by cases z⟩) (aC.AW hs r n)
 | _,_,.gw _,n=>by cases n
 | _,_,.exc _,n=>by cases n
 | _,_,.BQ _ _,n=>by cases n
 | _,_,.jC _ _,n=>by cases n
 | _,_,.kp _ _ _,n=>by cases n
theorem aC.AW{F F':Hp}(hs:∀c u,F c=some u->F' c=some u\/dl u=true):∀ {vs:List V} {ds:List D},aC F vs ds->zi ds=true->aC F' vs ds
 | _,_,.nil,_=>.nil
 | _,_,.cons h r,n=>by
  have n:(Tw _&&zi _)=true:=n;rw[Bool.and_eq_true]at n;exact .cons (Rep.AW hs h n.1) (aC.AW hs r n.2)
end
inductive AV where
 | d (x:D)|n (j:Nat)|l (j:Nat)
abbrev Xz:=Sd->(List AV->Sd->Prop)->Prop
variable {G:GE}{k:Nat}{S:Stat}
def E9(ai:Sd)(σ:St)(js:List Nat)(c:Addr):Prop:=∃j∈js,∃(o:O) (a:Addr),ai[j]?=some (some (.obj o))/\σ[j]?=some (some (.ref a))/\c∈o.fp a
theorem ko{Y:bD}{F:Hp}{ai:Sd}{σ:St}{H:Hp}(R:RS Y F ai σ H):∀js:List Nat,∃F2,aq F F2/\aq F2 H/\(∀j∈js,∀(o:O) (d:D) (a:Addr),ai[j]?=some (some (.obj o))->o.view=some d->σ[j]?=some (some (.ref a))->Rep F2 (.ref a) d) /\
  (∀c u,F2 c=some u->F c=some u\/(dl u=true/\E9 ai σ js c))/\(js=[]->F2=F)
 | []=>⟨F,aq.refl _,R.fr,(λj hj=>by cases hj),(λc u z=>.inl z),λ_=>rfl⟩
 | j::js=>by
  obtain⟨F2,s1,s2,h1,h2,_⟩:=ko R js
  by_cases hq:∃o d,ai[j]?=some (some (.obj o))/\o.view=some d
  ·obtain⟨o,d,e1,e2⟩:=hq
   obtain⟨a,w1,w2,w3⟩:=R.ob.obj j o e1;have Xw:o.rep F2 H a:=o.mono s1 (λ_ _=>rfl) w2;obtain⟨F3,s3,s4,r3,h3⟩:=o.lend s2 Xw e2;refine⟨F3,s1.trans s3,s4,λi hi o' d' a' f1 f2 f3=>?_,λc u z=>?_,λz=>nomatch z⟩
   ·rcases List.mem_cons.mp hi with rfl|hi
    ·rw[e1]at f1;cases f1
     rw[e2]at f2;cases f2;rw[w1]at f3;cases f3;exact r3
    ·exact(h1 i hi o' d' a' f1 f2 f3).mono s3
   ·rcases h3 c u z with z|⟨z1,z2⟩
    ·rcases h2 c u z with z|⟨z1,i,hi,z2⟩
     ·exact .inl z
     ·exact .inr ⟨z1,i,.tail _ hi,z2⟩
    ·exact .inr ⟨z1,j,.head _,o,a,e1,w1,z2⟩
  ·refine⟨F2,s1,s2,λi hi o' d' a' f1 f2 f3=>?_,λc u z=>?_,λz=>nomatch z⟩
   ·rcases List.mem_cons.mp hi with rfl|hi
    ·exact absurd ⟨o',d',f1,f2⟩ hq
    ·exact h1 i hi o' d' a' f1 f2 f3
   ·rcases h2 c u z with z|⟨z1,i,hi,z2⟩
    ·exact .inl z
    ·exact .inr ⟨z1,i,.tail _ hi,z2⟩
end Vc
namespace Vc
open PySem L2
variable [KF]
abbrev kC:Addr:=KF.cls "Kept"
def WN(a dx ad:Addr)(w:Str)(c e:Int)(kvs:List (Int×D)):O where
 fp:=λb=>[b,dx,ad]
 rep:=λF H b=>b=a/\H a=some (.ins kC dx (Td w c e ad))/\H dx=some (.own a)/\∃ks,H ad=some (.dK ks)/\bX F ks kvs
 solid:=λ{F H b c' φ} ⟨e0,h1,h2,ks,h3,_⟩ hb z=>by
  subst e0;simp only[List.mem_cons,List.not_mem_nil,or_false]at hb;rcases hb with rfl|rfl|rfl
  ·rw[h1]at z;cases z
  ·rw[h2]at z;cases z
  ·rw[h3]at z;cases z
 nt:=λ{F H b c' vs} ⟨e0,h1,h2,ks,h3,_⟩ hb z=>by
  subst e0;simp only[List.mem_cons,List.not_mem_nil,or_false]at hb;rcases hb with rfl|rfl|rfl
  ·rw[h1]at z;cases z
  ·rw[h2]at z;cases z
  ·rw[h3]at z;cases z
 mono:=λ{F F' H H' b} s e ⟨e0,h1,h2,ks,h3,r⟩=>by
  subst e0;exact⟨rfl,by rw[e b (by simp)];exact h1,by rw[e dx (by simp)];exact h2,ks,by rw[e ad (by simp)];exact h3,r.mono s⟩
 view:=some (.kp w c e kvs)
 sees:=λ{F H b d} ⟨e0,h1,h2,ks,h3,r⟩ q=>by cases q;subst e0;exact⟨b,dx,ad,ks,rfl,h1,h3,r⟩
 lend:=λ{F H b d} s ⟨e0,h1,h2,ks,h3,r⟩ q=>by
  cases q;subst e0;obtain⟨F1,s1,s2,e1,e2⟩:=cE s h1;obtain⟨F2,s3,s4,e3,e4⟩:=cE s2 h3;refine⟨F2,s1.trans s3,s4,.kp (s3 _ _ e1) e3 (r.mono (s1.trans s3)),λc u z=>?_⟩;rcases e4 c u z with z|⟨rfl,rfl⟩
  ·rcases e2 c u z with z|⟨rfl,rfl⟩
   ·exact .inl z
   ·exact .inr ⟨rfl,by simp⟩
  ·exact .inr ⟨rfl,by simp⟩
 loc:=some a
 N0:=λ{F H b c'} ⟨e0,_⟩ q=>by cases q;exact e0
variable {G:GE}{k:Nat}{S:Stat}
end Vc
namespace Vc
open PySem L2
variable [KF]
variable {G:GE}{k:Nat}{S:Stat}
theorem WX{α:Type}{P:List α->Prop}(h:P [])(us:List α)(e:us.length=0):P us:=List.eq_nil_of_length_eq_zero e ▸ h
theorem K6{α:Type}{n:Nat}{P:List α->Prop}(h:∀(a:α) (r:List α),r.length=n->P (a::r)):∀us:List α,us.length=n+1->P us:=λus e=>by
 cases us with
 | nil=>cases e
 | cons a r=>exact h a r (Nat.succ.inj e)
@[elab_as_elim] theorem Ew{α:Type} {P:List α->Prop} (h:∀a,P [a]) (us:List α) (e:us.length=1):P us:=K6 (λa=>WX (P:=λr=>P (a::r)) (h a)) us e
@[elab_as_elim] theorem ln2{α:Type} {P:List α->Prop} (h:∀a b,P [a,b]) (us:List α) (e:us.length=2):P us:=K6 (λa=>Ew (P:=λr=>P (a::r)) (h a)) us e
@[elab_as_elim] theorem HJ{α:Type} {P:List α->Prop} (h:∀a b c,P [a,b,c]) (us:List α) (e:us.length=3):P us:=K6 (λa=>ln2 (P:=λr=>P (a::r)) (h a)) us e
@[elab_as_elim] theorem Vh{α:Type} {P:List α->Prop} (h:∀a b c d,P [a,b,c,d]) (us:List α) (e:us.length=4):P us:=K6 (λa=>HJ (P:=λr=>P (a::r)) (h a)) us e
@[elab_as_elim] theorem WY{α:Type} {P:List α->Prop} (h:∀a b c d e,P [a,b,c,d,e]) (us:List α) (e:us.length=5):P us:=K6 (λa=>Vh (P:=λr=>P (a::r)) (h a)) us e
@[elab_as_elim] theorem X8{α:Type} {P:List α->Prop} (h:∀a b c d e f,P [a,b,c,d,e,f]) (us:List α) (e:us.length=6):P us:=K6 (λa=>WY (P:=λr=>P (a::r)) (h a)) us e
theorem BU(p:Addr)(kvs:List (Int×D)):(xY p kvs).view=some (.jC kvs):=rfl
theorem Cu(a dx ad:Addr)(w:Str)(c e:Int)(kvs:List (Int×D)):(WN a dx ad w c e kvs).view=some (.kp w c e kvs):=rfl
end Vc
namespace Vc
open PySem L2
variable [KF]
variable {G:GE}{k:Nat}{S:Stat}
def ur(l:Bool)(d:Option D):Option B:=match l with
 | true=>d.map B.sh
 | false=>none
def qA(l:Bool):Option B->Option B
 | some (.sh d)=>some (.sh d)
 | some (.obj o)=>ur l (o.view.or o.deep)
 | some (.own xs)=>ur l (some (.lst xs))
 | none=>none
def du(js:List Nat):Nat->Sd->Sd
 | _,[]=>[]
 | i,b::σ=>qA (js.contains i) b::du js (i+1) σ
theorem iV(js:List Nat):∀(i:Nat) (σ:Sd),(du js i σ).length=σ.length
 | _,[]=>rfl
 | i,b::σ=>congrArg (·+1) (iV js (i+1) σ)
theorem iU(js:List Nat):∀(i j:Nat) (σ:Sd),(du js i σ)[j]?=(σ[j]?).map (qA (js.contains (i+j)))
 | _,_,[]=>rfl
 | i,0,b::σ=>rfl
 | i,j+1,b::σ=>by
  show(du js (i+1) σ)[j]?=_;rw[iU js (i+1) j σ,show i+1+j=i+(j+1)by omega];rfl
theorem qC{l:Bool}{d:Option D}{b:B}(h:ur l d=some b):l=true/\∃x,d=some x/\b=.sh x:=by
 cases l with
 | false=>cases h
 | true =>
  obtain⟨x,h1,h2⟩:=Option.map_eq_some_iff.mp (show d.map B.sh=some b from h)
  exact⟨rfl,x,h1,h2.symm⟩
theorem qB{l:Bool}{x:Option B}{b:B}(h:qA l x=some b):∃d,b=.sh d/\(x=some (.sh d)\/(l=true/\((∃o,x=some (.obj o)/\o.view.or o.deep=some d)\/∃xs,x=some (.own xs)/\d=.lst xs))):=by
 unfold qA at h
 split at h
 ·cases h;exact⟨_,rfl,.inl rfl⟩
 ·obtain⟨hl,d,h1,h2⟩:=qC h
  exact⟨d,h2,.inr ⟨hl,.inl ⟨_,rfl,h1⟩⟩⟩
 ·obtain⟨hl,d,h1,h2⟩:=qC h
  cases h1;exact⟨_,h2,.inr ⟨hl,.inr ⟨_,rfl,rfl⟩⟩⟩
 ·cases h
theorem kq{Y:bD}{F:Hp}{ai:Sd}{σ:St}{H:Hp}(R:RS Y F ai σ H):∀(js:List Nat) (F2:Hp),aq F F2->aq F2 H->∃F3,aq F2 F3/\aq F3 H/\∀j∈js,∀(xs:List D) (a:Addr),ai[j]?=some (some (.own xs))->σ[j]?=some (some (.ref a))->Rep F3 (.ref a) (.lst xs)
 | [],F2,_,s=>⟨F2,aq.refl _,s,λj hj=>by cases hj⟩
 | j::js,F2,s0,s=>by
  obtain⟨F3,s1,s2,h⟩:=kq R js F2 s0 s
  by_cases hq:∃xs,ai[j]?=some (some (.own xs))
  ·obtain⟨xs,e⟩:=hq
   obtain⟨a,vs,w1,w2,w3,_⟩:=R.own j xs e;obtain⟨F4,s3,s4,e4,_⟩:=cE s2 w2;refine⟨F4,s1.trans s3,s4,λi hi ys b f1 f2=>?_⟩;rcases List.mem_cons.mp hi with rfl|hi
   ·rw[e]at f1;cases f1
    rw[w1]at f2;cases f2;exact .lst (.of e4) (w3.mono ((s0.trans s1).trans s3))
   ·exact(h i hi ys b f1 f2).mono s3
  ·refine⟨F3,s1,s2,λi hi ys b f1 f2=>?_⟩
   rcases List.mem_cons.mp hi with rfl|hi
   ·exact absurd ⟨ys,f1⟩ hq
   ·exact h i hi ys b f1 f2
theorem iW{Y:bD}{F:Hp}{ai:Sd}{σ:St}{H:Hp}(R:RS Y F ai σ H):∀(js:List Nat) (F2:Hp),aq F F2->aq F2 H->∃F3,aq F2 F3/\aq F3 H/\∀j∈js,∀(o:O) (d:D) (a:Addr),ai[j]?=some (some (.obj o))->o.deep=some d->σ[j]?=some (some (.ref a))->Rep F3 (.ref a) d
 | [],F2,_,s=>⟨F2,aq.refl _,s,λj hj=>by cases hj⟩
 | j::js,F2,s0,s=>by
  obtain⟨F3,s1,s2,h⟩:=iW R js F2 s0 s
  by_cases hq:∃o d,ai[j]?=some (some (.obj o))/\o.deep=some d
  ·obtain⟨o,d,e,ed⟩:=hq
   obtain⟨a,w1,w2,_⟩:=R.ob.obj j o e;obtain⟨F4,s3,s4,r⟩:=o.Et s2 (o.mono (s0.trans s1) (λ_ _=>rfl) w2) ed;refine⟨F4,s1.trans s3,s4,λi hi p d' b f1 f2 f3=>?_⟩;rcases List.mem_cons.mp hi with rfl|hi
   ·rw[e]at f1;cases f1
    rw[w1]at f3;cases f3;rw[ed]at f2;cases f2;exact r
   ·exact(h i hi p d' b f1 f2 f3).mono s3
  ·refine⟨F3,s1,s2,λi hi p d' b f1 f2 f3=>?_⟩
   rcases List.mem_cons.mp hi with rfl|hi
   ·exact absurd ⟨p,d',f1,f2⟩ hq
   ·exact h i hi p d' b f1 f2 f3
def p0:D->Bool
 | .bB=>true
 | .bl _=>true
 | .int _=>true
 | .str _=>true
 | _=>false
def Eh:EV->Bool
 | .val d=>p0 d
 | .own xs=>xs.all p0
 | _=>false
theorem Rep.flat{F F':Hp}{v:V}{d:D}(r:Rep F v d)(h:p0 d=true):Rep F' v d:=by
 cases r with
 | bB=>exact .bB
 | bl b=>exact .bl b
 | int i=>exact .int i
 | str x=>exact .str x
 | _=>cases h
theorem aC.flat{F F':Hp}:∀ {vs:List V} {ds:List D},aC F vs ds->ds.all p0=true->aC F' vs ds
 | _,_,.nil,_=>.nil
 | _,_,.cons r rs,h=>by
  rw[List.all_cons,Bool.and_eq_true]at h;exact .cons (r.flat h.1) (aC.flat rs h.2)
def Aw(js:List Nat)(t:TX):TX:=λσ Q=>t (du js 0 σ) λx _=>Eh x=true/\Q x σ
theorem Jx(js:List Nat){e:Expr}{t:TX}(h:EX G k S e t)(Bs:S.ex=λ_ _=>False:=by rfl):EX G k S e (Aw js t):=.mk λX Y ok pins s σ H Q I q=>by
 obtain⟨F,ai,Qd,R,q,K⟩:=q;obtain⟨F2,s1,s2,h1,_,_⟩:=ko R js;obtain⟨Ra,Pw,T2,R9⟩:=kq R js F2 s1 s2;obtain⟨F3,Aj,s4,h3⟩:=iW R js Ra (s1.trans Pw) T2;have s3:aq F2 F3:=Pw.trans Aj;have h2:∀j∈js,∀(xs:List D) (a:Addr),ai[j]?=some (some (.own xs))->σ[j]?=some (some (.ref a))->Rep F3 (.ref a) (.lst xs):=λj hj xs a e1 e2=>(R9 j hj xs a e1 e2).mono Aj;have only:∀ {i:Nat} {b:B},(du js 0 ai)[i]?=some (some b)->∃d v,b=.sh d/\σ[i]?=some (some v)/\Rep F3 v d:=λ{i b} e=>by
  rw[iU,Nat.zero_add]at e;obtain⟨x,e1,e2⟩:=Option.map_eq_some_iff.mp e;obtain⟨d,rfl,e3⟩:=qB e2;rcases e3 with rfl|⟨hl,⟨o,rfl,e4⟩|⟨xs,rfl,rfl⟩⟩
  ·obtain⟨v,g1,g2⟩:=R.sh i d e1
   exact⟨d,v,rfl,g1,g2.mono (s1.trans s3)⟩
  ·obtain⟨a,g1,_⟩:=R.ob.obj i o e1
   cases ev:o.view with
   | some x =>
    rw[ev]at e4;cases e4;exact⟨d,_,rfl,g1,(h1 i (List.contains_iff_mem.mp hl) o d a e1 ev g1).mono s3⟩
   | none =>
    rw[ev,Option.none_or]at e4;exact⟨d,_,rfl,g1,h3 i (List.contains_iff_mem.mp hl) o d a e1 e4 g1⟩
  ·obtain⟨a,vs,g1,_⟩:=R.own i xs e1
   exact⟨_,_,rfl,g1,h2 i (List.contains_iff_mem.mp hl) xs a e1 g1⟩
 have HW:∀(i:Nat) (o:O),(du js 0 ai)[i]?≠some (some (.obj o)):=λi o e=>by
  obtain⟨d,v,z,_⟩:=only e;cases z
 have zk:∀(i:Nat) (xs:List D),(du js 0 ai)[i]?≠some (some (.own xs)):=λi xs e=>by
  obtain⟨d,v,z,_⟩:=only e;cases z
 have R2:RS ⟨H,F3,[],[]⟩ F3 (du js 0 ai) σ H:=⟨by rw[iV];exact R.len,aq.refl _,s4,λb o e=>.inl e,λb o e _=>e,λi d e=>by
   obtain⟨d',v,z,g1,g2⟩:=only e;cases z;exact⟨v,g1,g2⟩,λi xs e=>absurd e (zk i xs),λi _ xs _ _ e=>absurd e (zk i xs),λp hp=>absurd hp (by simp),o9.none HW (R.ob.tab.mono (s1.trans s3)) λb hb=>absurd hb (by simp)⟩
 have TF:dk X G k S ⟨H,F3,[],[]⟩:=⟨ok.P,ok.w,ok.K,ok.kf,ok.mg,ok.base,ok.N,ok.sc,ok.nd,λp hp=>absurd hp (by simp),λ_ _=>rfl,ok.calm,ok.kind,ok.fn,ok.hd,ok.dp,ok.un,ok.po,ok.nx,(λc ai h=>by rw[Bs]at h;exact h.elim),λ_ c ai h=>by rw[Bs]at h;exact h.elim⟩
 refine h.run X _ TF pins s σ H Q I ⟨F3,_,_,R2,q,λv H' F' x aD s5 R5 r5 q5=>?_⟩;obtain⟨hf,q5⟩:=q5;have sm:aq H H':=λb o e=>R5.old b o e (by simp [bD.wU])
 have R6:RS Y F ai σ H':=R.call (aq.refl _) (R.fr.trans sm) sm λc o e=>.inl e;refine K v H' F x ai (aq.refl _) R6 ?_ q5;cases x with
 | val d=>exact(show Rep F' v d from r5).flat hf
 | own xs =>
  obtain⟨a,vs,rfl,e1,e2,e3,e4,e5⟩:=r5;have e4:H a=none:=e4;exact⟨a,vs,rfl,e1,e2.flat hf,same_none R.fr e4,(R.bQ e4).1,R.cD e4⟩
 | _=>cases hf
end Vc
namespace Vc
open PySem L2
variable [KF]
variable {G:GE}{k:Nat}{S:Stat}
def o4(js:List Nat)(t:TB):TB:=λσ Q=>t (du js 0 σ) λb _=>Q b σ
theorem uH(js:List Nat){e:Expr}{t:TB}(h:EB G k S e t)(Bs:S.ex=λ_ _=>False:=by rfl):EB G k S e (o4 js t):=.mk λX Y ok=>by
 intro pins s σ H Q I q;obtain⟨F,ai,Qd,R,q,K⟩:=q;obtain⟨F2,s1,s2,h1,_,_⟩:=ko R js;obtain⟨Ra,Pw,T2,R9⟩:=kq R js F2 s1 s2;obtain⟨F3,Aj,s4,h3⟩:=iW R js Ra (s1.trans Pw) T2;have s3:aq F2 F3:=Pw.trans Aj;have h2:∀j∈js,∀(xs:List D) (a:Addr),ai[j]?=some (some (.own xs))->σ[j]?=some (some (.ref a))->Rep F3 (.ref a) (.lst xs):=λj hj xs a e1 e2=>(R9 j hj xs a e1 e2).mono Aj;have only:∀ {i:Nat} {b:B},(du js 0 ai)[i]?=some (some b)->∃d v,b=.sh d/\σ[i]?=some (some v)/\Rep F3 v d:=λ{i b} e=>by
  rw[iU,Nat.zero_add]at e;obtain⟨x,e1,e2⟩:=Option.map_eq_some_iff.mp e;obtain⟨d,rfl,e3⟩:=qB e2;rcases e3 with rfl|⟨hl,⟨o,rfl,e4⟩|⟨xs,rfl,rfl⟩⟩
  ·obtain⟨v,g1,g2⟩:=R.sh i d e1
   exact⟨d,v,rfl,g1,g2.mono (s1.trans s3)⟩
  ·obtain⟨a,g1,_⟩:=R.ob.obj i o e1
   cases ev:o.view with
   | some x =>
    rw[ev]at e4;cases e4;exact⟨d,_,rfl,g1,(h1 i (List.contains_iff_mem.mp hl) o d a e1 ev g1).mono s3⟩
   | none =>
    rw[ev,Option.none_or]at e4;exact⟨d,_,rfl,g1,h3 i (List.contains_iff_mem.mp hl) o d a e1 e4 g1⟩
  ·obtain⟨a,vs,g1,_⟩:=R.own i xs e1
   exact⟨_,_,rfl,g1,h2 i (List.contains_iff_mem.mp hl) xs a e1 g1⟩
 have HW:∀(i:Nat) (o:O),(du js 0 ai)[i]?≠some (some (.obj o)):=λi o e=>by
  obtain⟨d,v,z,_⟩:=only e;cases z
 have zk:∀(i:Nat) (xs:List D),(du js 0 ai)[i]?≠some (some (.own xs)):=λi xs e=>by
  obtain⟨d,v,z,_⟩:=only e;cases z
 have R2:RS ⟨H,F3,[],[]⟩ F3 (du js 0 ai) σ H:=⟨by rw[iV];exact R.len,aq.refl _,s4,λb o e=>.inl e,λb o e _=>e,λi d e=>by
   obtain⟨d',v,z,g1,g2⟩:=only e;cases z;exact⟨v,g1,g2⟩,λi xs e=>absurd e (zk i xs),λi _ xs _ _ e=>absurd e (zk i xs),λp hp=>absurd hp (by simp),o9.none HW (R.ob.tab.mono (s1.trans s3)) λb hb=>absurd hb (by simp)⟩
 have TF:dk X G k S ⟨H,F3,[],[]⟩:=⟨ok.P,ok.w,ok.K,ok.kf,ok.mg,ok.base,ok.N,ok.sc,ok.nd,λp hp=>absurd hp (by simp),λ_ _=>rfl,ok.calm,ok.kind,ok.fn,ok.hd,ok.dp,ok.un,ok.po,ok.nx,(λc ai h=>by rw[Bs]at h;exact h.elim),λ_ c ai h=>by rw[Bs]at h;exact h.elim⟩
 refine h.run X _ TF pins s σ H Q I ⟨F3,_,_,R2,q,λb H' F' aD s5 R5 q5=>?_⟩;have sm:aq H H':=λb o e=>R5.old b o e (by simp [bD.wU])
 have R6:RS Y F ai σ H':=R.call (aq.refl _) (R.fr.trans sm) sm λc o e=>.inl e;exact K b H' F ai (aq.refl _) R6 q5
end Vc
namespace Vc
open PySem L2
variable [KF]
variable {G:GE}{k:Nat}{S:Stat}
def Ki(i:Nat):TX:=λσ Q=>∃ts,σ[i]?=some (some (.obj (vA ts)))/\Q (.obj (eB (ts.map (·.2)))) (σ.set i none)
theorem Df(i:Nat){x:Str}{lp np ap cp pos:Pos}(hm:G.mg "list"=none)(hx:S.N[i]?=some x:=by rfl)
  (vx:S.sc.lookup x=some .local\/S.sc.lookup x=some .cell\/S.sc.lookup x=some .free:=by first|exact Or.inl rfl|exact Or.inr (Or.inl rfl)|exact Or.inr (Or.inr rfl))
  (dx:(x==("__debug__":Str))=false:=by decide) (cx:(x==("__classdict__":Str))=false:=by decide) (hl:(ap.endLine==cp.line)=true:=by rfl) (hg:S.sc.lookup ("list":Str)=some .globalImplicit:=by rfl) (hh:S.jJ=false:=by rfl) (VX:S.vk=false:=by rfl) (cO:S.ios=[]:=by rfl):
  EX G k S (.Call (.Name "list" lp) [.Call (.Attribute (.Name x np) "values" ap) [] [] cp] [] pos) (Ki i):=.mk λX Y ok=>by
 have px:PE X (.Name x np) (lQ i):=dA (by rw[ok.N];exact hx) (by unfold vg;rw[ok.sc];exact vx) dx cx
 have p1:=zG (apos:=ap) (cpos:=cp) F.plainAttrs_dict F.slot_dict_values F.type_dict_values CB px rfl hl;refine aO (fH (rY (ok.calm hh)) (cA ok hg) (by rw[ok.mg];exact hm) (by decide +kernel) (bC p1 bS rfl) ∅ ∅ rfl rfl) λσ H Q q=>?_
 obtain⟨F,ai,Qd,R,⟨ts,e,q⟩,K⟩:=q;obtain⟨a,w1,⟨w2,n1,n2,w3⟩,w4⟩:=R.ob.obj i _ e;refine⟨.ref a,w1,.inr (.inr (.inl ⟨rfl,.inl ⟨_,w2⟩⟩)),a,_,rfl,rfl,w2,λp hp=>?_⟩;have ha:H a≠none:=by rw[w2];exactλz=>nomatch z
 have wO:a≠p:=λz=>ha (z ▸ hp);refine⟨p,a,_,rfl,au,by rw[ak wO];exact w2,λl hl=>?_⟩
 have Ca:=ok.obs VX cO;have SF:∀p∈Y.io,p.1≠i:=λp hp z=>by
  have:=ok.ios p hp;rw[cO]at this;cases this
 have R1:=R.forget e SF;have R2:=R1.dI (o:=Qr p a) hp;have R3:=R2.dI (o:=.lst ((ph ts).map (·.2))) hl
 have Tj:∀b,H b≠none->b≠p/\b≠l:=λb hb=>by
  have h1:b≠p:=λz=>hb (z ▸ hp);exact⟨h1,λz=>by rw[<- z,ak h1]at hl;exact hb hl⟩
 have live:∀b o,H b=some o->upd (upd H p (Qr p a)) l (.lst ((ph ts).map (·.2))) b=some o:=λb o e=>by
  have h:=Tj b (by rw[e];exactλz=>nomatch z)
  rw[ak h.2,ak h.1];exact e
 have el:(ph ts).map (·.2)=(ts.map (·.2)).map λt=>V.ref t.1:=by unfold ph;rw[List.map_map,List.map_map];rfl
 have em:(ts.map (·.2)).map (·.1)=ts.map (·.2.1):=by rw[List.map_map];rfl
 refine K (.ref l) _ F (.obj (eB (ts.map (·.2)))) (ai.set i none) (aq.refl _) R3 ⟨l,rfl,⟨by rw[au,el],?_,λt ht=>?_⟩,λb hb=>?_⟩ q
 ·rw[em]
  refine List.nodup_cons.mpr ⟨λz=>?_,(List.nodup_cons.mp n1).2⟩;obtain⟨t,ht,e1⟩:=List.mem_map.mp z;obtain⟨vs,h1,_⟩:=w3 t ht;exact(Tj t.2.1 (by rw[h1];exactλz=>nomatch z)).2 e1
 ·obtain⟨u,hu,rfl⟩:=List.mem_map.mp ht
  obtain⟨vs,h1,h2⟩:=w3 u hu;exact⟨vs,live _ _ h1,h2⟩
 ·rcases List.mem_cons.mp hb with rfl|hb
  ·exact⟨same_none R2.fr hl,(by rw[au];exactλz=>nomatch z),(R2.bQ hl).1,R2.cD hl⟩
  ·rw[em]at hb
   have eO:b∈(vA ts).fp a:=List.mem_cons_of_mem _ hb;have y:=w4 b eO;have hn:=Tj b y.2.1;refine⟨y.1,(by rw[ak hn.2,ak hn.1];exact y.2.1),?_,λj ys e2 z=>?_,λ⟨j,o2,c2,e2,e3,gj⟩=>?_⟩
   ·rcases y.2.2 with z|z
    ·exact z
    ·rw[Ca]at z;cases z
   ·have hj:j≠i:=λz=>by subst z;rw[aL e]at e2;cases e2
    rw[aQ hj]at e2;exact R.ob.iE j ys b e2 z ⟨i,_,a,e,w1,eO⟩
   ·have hj:j≠i:=λz=>by subst z;rw[aL e]at e2;cases e2
    rw[aQ hj]at e2;exact R.ob.tT i j _ o2 a c2 e e2 w1 e3 (Ne.symm hj) b eO gj
theorem dF.ll{x:Str}{sp Qc:cw}(h:dF G k x sp)(i:∀ds Q,Qc ds Q->sp ds λb=>∃ts,b=.obj (eB ts)/\Q (.sh (K5 ts))):dF G k x Qc:=by
 obtain⟨f,fd,ps,h1,h2,h3,h4⟩:=h;refine⟨f,fd,ps,h1.imp λvs H Q E hs=>?_,h2,h3,h4⟩;obtain⟨F,ds,Qd,s,r,q,K⟩:=hs;refine⟨F,ds,_,s,r,i ds Qd q,λv H' F' b s1 s2 s3 fr rb qb=>?_⟩;obtain⟨ts,rfl,qb⟩:=qb;obtain⟨a,rfl,w1,w2⟩:=rb;obtain⟨w5,n1,w3⟩:=id w1;have sF:aq F' (λb=>if b∈a::ts.map (·.1)then H' b else F' b):=λb u z=>by
  show(if b∈a::ts.map (·.1)then H' b else F' b)=some u
  split
  ·exact s2 b u z
  ·exact z
 have NB:∀b∈a::ts.map (·.1),(λb=>if b∈a::ts.map (·.1)then H' b else F' b) b=H' b:=λb hb=>by
  show(if b∈a::ts.map (·.1)then H' b else F' b)=H' b
  rw[if_pos hb]
 have sH:aq (λb=>if b∈a::ts.map (·.1)then H' b else F' b) H':=λb u z=>by
  have z:(if b∈a::ts.map (·.1)then H' b else F' b)=some u:=z
  split at z
  ·exact z
  ·exact s2 b u z
 have key:∀us:k9,(∀t∈us,t∈ts)->aC (λb=>if b∈a::ts.map (·.1)then H' b else F' b) (us.map λt=>V.ref t.1) (us.map λt=>D.lst t.2):=by
  intro us
  induction us with
  | nil=>intro _;exact .nil
  | cons t us ih =>
   intro hu;obtain⟨vs,h1,h2⟩:=w3 t (hu t (.head _));have hb:t.1∈a::ts.map (·.1):=List.mem_cons_of_mem _ (List.mem_map_of_mem (hu t (.head _)))
   exact .cons (.lst (.inl ((NB _ hb).trans h1)) (h2.mono sF)) (ih λx hx=>hu x (.tail _ hx))
 refine K (.ref a) H' _ (.sh (K5 ts)) (s1.trans sF) sH s3 (λc o e=>?_) (.lst (.inl ((NB a (List.mem_cons_self ..)).trans w5)) (key ts λ_ h=>h)) qb;have e:(if c∈a::ts.map (·.1)then H' c else F' c)=some o:=e
 split at e
 ·rename_i hc
  exact .inr (.inl (w2 c hc).2.2)
 ·exact fr c o e
theorem RS.NY{Y:bD}{F:Hp}{ai:Sd}{σ:St}{H:Hp}{i:Nat}{ts:k9}{a p:Addr}(R:RS Y F ai σ H)(e:ai[i]?=some (some (.obj (eB ts))))(h:σ[i]?=some (some (.ref a)))(hp:H p=none):
  RS Y F (ai.set i (some (.obj (eB (ts++[(p,[])]))))) σ (upd (upd H p (.lst [])) a (.lst (ts.map (λt=>V.ref t.1)++[.ref p]))):=by
 obtain⟨a',w1,⟨w2,n1,w3⟩,w4⟩:=R.ob.obj i _ e;rw[h]at w1;cases w1;have ha:H a≠none:=by rw[w2];exactλz=>nomatch z
 have wO:a≠p:=λz=>ha (z ▸ hp);have lg:∀t∈ts,H t.1≠none:=λt ht=>by obtain⟨vs,h1,_⟩:=w3 t ht;rw[h1];exactλz=>nomatch z
 have KU:∀t∈ts,t.1≠a:=λt ht z=>(List.nodup_cons.mp n1).1 (z ▸ List.mem_map_of_mem ht);have ua:∀ {b:Addr},H b≠none->b≠p:=λ{b} hb z=>hb (z ▸ hp);have live:∀b,H b≠none->upd (upd H p (.lst [])) a (.lst (ts.map (λt=>V.ref t.1)++[.ref p])) b≠none:=λb hb=>by
  by_cases z:b=a
  ·rw[z,au];exactλy=>nomatch y
  ·rw[ak z,ak (ua hb)];exact hb
 have m1:(ts++[(p,([]:List D))]).map (λt=>t.1)=ts.map (λt=>t.1)++[p]:=by rw[List.map_append];rfl
 refine R.n0 (o':=eB (ts++[(p,[])])) e h (λb hb hn=>?_) live (λb hb=>?_) (λb hb=>?_) ⟨?_,?_,λt ht=>?_⟩
 ·have z1:b≠a:=λz=>hb (z ▸ List.mem_cons_self ..)
  rw[ak z1,ak (ua hn)]
 ·have hb:b∈a::(ts++[(p,([]:List D))]).map (λt=>t.1):=hb
  rw[m1]at hb;rcases List.mem_cons.mp hb with rfl|hb
  ·exact .inl (List.mem_cons_self ..)
  ·rcases List.mem_append.mp hb with hb|hb
   ·exact .inl (List.mem_cons_of_mem _ hb)
   ·rw[List.mem_singleton.mp hb];exact .inr hp
 ·have hb:b∈a::(ts++[(p,([]:List D))]).map (λt=>t.1):=hb
  rw[m1]at hb;rcases List.mem_cons.mp hb with rfl|hb
  ·rw[au];exactλz=>nomatch z
  ·rcases List.mem_append.mp hb with hb|hb
   ·exact live b (w4 b (List.mem_cons_of_mem _ hb)).2.1
   ·rw[List.mem_singleton.mp hb,ak (Ne.symm wO),au];exactλz=>nomatch z
 ·rw[au,List.map_append];rfl
 ·rw[m1,<- List.cons_append,List.nodup_append]
  refine⟨n1,by simp,λx hx y hy z=>?_⟩
  rw[List.mem_singleton.mp hy]at z;rcases List.mem_cons.mp hx with rfl|hx
  ·exact wO z
  ·obtain⟨t,ht,e1⟩:=List.mem_map.mp hx
   exact lg t ht (by rw[e1,z];exact hp)
 ·rcases List.mem_append.mp ht with ht|ht
  ·obtain⟨vs,h1,h2⟩:=w3 t ht
   exact⟨vs,by rw[ak (KU t ht),ak (ua (lg t ht))];exact h1,h2⟩
  ·rw[List.mem_singleton.mp ht]
   exact⟨[],by rw[ak (Ne.symm wO),au],.nil⟩
def Uc(i:Nat):cn:=λDe σ=>∃ts,σ[i]?=some (some (.obj (eB ts)))/\ts.length<1000000/\∀p:Addr,De.nx (σ.set i (some (.obj (eB (ts++[(p,[])])))))
theorem Dk(i:Nat){x:Str}{np lp ap cp pos:Pos}(hx:S.N[i]?=some x:=by rfl)
  (vx:S.sc.lookup x=some .local\/S.sc.lookup x=some .cell\/S.sc.lookup x=some .free:=by first|exact Or.inl rfl|exact Or.inr (Or.inl rfl)|exact Or.inr (Or.inr rfl))
  (dx:(x==("__debug__":Str))=false:=by decide) (cx:(x==("__classdict__":Str))=false:=by decide) (hl:(ap.endLine==cp.line)=true:=by rfl):
  ES G k S (.Expr (.Call (.Attribute (.Name x np) "append" ap) [.List [] lp] [] cp) pos) (Uc i):=.mk λX Y ok=>by
 have px:PE X (.Name x np) (lQ i):=dA (by rw[ok.N];exact hx) (by unfold vg;rw[ok.sc];exact vx) dx cx
 have p2:=kL (apos:=ap) (cpos:=cp) F.plainAttrs_list F.slot_list_append F.type_list_append dn px (bC (gq (pos:=lp) bS) bS rfl:PA X [.List [] lp] _) rfl rfl hl rfl rfl;refine cu (gW p2 rfl) λDn σ H q=>?_;obtain⟨F,ai,De,R,⟨ts,e,hlen,q⟩,K⟩:=q;obtain⟨a,w1,⟨w2,n1,w3⟩,w4⟩:=R.ob.obj i _ e;refine⟨.ref a,w1,.inl ⟨rfl,_,.inl (.inl w2)⟩,Nat.zero_le _,λp hp=>?_⟩;have ha:H a≠none:=by rw[w2];exactλz=>nomatch z
 have wO:a≠p:=λz=>ha (z ▸ hp);refine⟨a,_,.ref p,rfl,rfl,by rw[ak wO];exact w2,by rw[sizeLine_eq,List.length_map];omega,?_⟩
 exact K.nx σ _ F _ (aq.refl _) (R.NY e w1 hp) (q p)
end Vc
namespace Vc
open PySem L2
variable [KF]
variable {G:GE}{k:Nat}{S:Stat}
def z9:List V->Hp->VK->Prop:=λxs H Q=>∃p,∃ns:List Int,xs=[.ref p]/\Rd H p (.lst (ns.map V.int))/\∀ms:List Int,ms.Perm ns->ms.Pairwise (λx y=>x<=y)->∀l,H l=none->Q (.ref l) (upd H l (.lst (ms.map V.int)))
theorem gO:∀ {ns:List Int} {its:List Value},Vals (ns.map V.int) its->PyProof.Rows.IntsAre its ns
 | [],_,.nil=>.nil
 | n::ns,_,.cons h r=>by
  obtain⟨t,rfl⟩:=h;exact .cons _ t (gO r)
theorem rZ{X:Cx}:b9 X (.builtin "sorted") z9:=by
 intro pins s σ H xs Xq Q I r h;obtain⟨p,ns,rfl,hq,q⟩:=h;obtain⟨u,rfl,rx⟩:=vals1 r;cases rx;obtain⟨its,rv,pl,hz⟩:=I.list (.inl hq);have ii:=gO rv;have lits:its.length=ns.length:=by have:=rv.length;rw[List.length_map]at this;exact this.symm
 have hz:ns.length<=sizeLine:=by have:=hz;rw[List.length_map]at this;exact this
 have lx:=jn ii;have mem:∀x:PyProof.Rows.Keyed,x∈(PyProof.Rows.pairsOf its).toList->x.1∈its/\x.1=x.2:=λx hx=>by
  rw[PyProof.Rows.pairsOf_toList,d5]at hx;obtain⟨v,hv,rfl⟩:=List.mem_map.mp hx;exact⟨hv,rfl⟩
 refine Vs.kT (kd:=PyProof.Rows.oneType') (ρ:=Vs.rk (λx=>[Vs.qo x.1]) (PyProof.Rows.pairsOf its).toList) (P:=λx=>x∈(PyProof.Rows.pairsOf its).toList) pl.isList ⋯ (λ_ h=>h) (λh2 A' E' g kg=>⟨λQ hQ=>?_,?_⟩) λys g c' hp hs kg hg=>?_
 ·exact Vs.za (s:={s with heap:=g}) h2 ii hQ
 ·exact Vs.Cy (s:={s with heap:=g}) λx hx=>lx x.1 (mem x hx).1
 ·have dQ:ys.toList.Perm (PyProof.Rows.pairsOf its).toList:=Array.perm_iff_toList_perm.mp hp
  have gj:∀x∈ys.toList,x.1∈its/\x.1=x.2:=λx hx=>mem x (dQ.mem_iff.mp hx);obtain⟨ms,RQ⟩:∃ms,ms=(ys.map (·.2)).toList.map Vs.qo:=⟨_,rfl⟩
  have perm:ms.Perm ns:=by
   rw[RQ,Array.toList_map,List.map_map,<- kj ii];refine(dQ.map (Vs.qo ∘ λx=>x.2)).trans ?_;rw[PyProof.Rows.pairsOf_toList,d5,List.map_map];exact List.Perm.refl _
  refine⟨.ref (s.heap.objs.size+1),_,I.laid (t':=s.toks) (o:=.lst (ms.map V.int)) kg (Nat.le_succ _) ⟨?_,(ys.map (·.2)).toList,c',?_,hg⟩,rfl,q ms perm ?_ _ (I.bI.fresh (Nat.le_succ _))⟩
  ·rw[List.length_map,perm.length_eq];exact hz
  ·rw[RQ]
   refine d4 λv hv=>?_;rw[Array.toList_map]at hv;obtain⟨x,hx,rfl⟩:=List.mem_map.mp hv;have:=gj x hx;exact lx _ (this.2 ▸ this.1)
  ·rw[RQ,Array.toList_map,List.map_map,List.pairwise_map]
   refine List.pairwise_iff_getElem.mpr λi j hi hj ly=>?_;have sk:i<ys.size:=by simpa using hi
   have yS:j<ys.size:=by simpa using hj
   have hsz:ys.size=its.length:=by have:=hp.size_eq;rw[PyProof.Rows.pairsOf_size]at this;exact this
   have h1:=hs i j (Nat.zero_le _) (Nat.le_of_lt ly) ⋯
   rw[Vs.cJ (Array.getElem?_eq_getElem sk),Vs.cJ (Array.getElem?_eq_getElem yS)]at h1;show Vs.qo ys[i].2<=Vs.qo ys[j].2;have m1:=gj ys[i] (by simp)
   have m2:=gj ys[j] (by simp)
   have:=Vs.uM (d:=λx=>[Vs.qo x.1]) (l:=(PyProof.Rows.pairsOf its).toList) (x:=ys[j]) (y:=ys[i]) (dQ.mem_iff.mp (by simp))
   rw[decide_eq_false ⋯]at this
   rw[<- m1.2,<- m2.2];have e:(if Vs.qo ys[j].1=Vs.qo ys[i].1 then HT.lexLt [] []else decide (Vs.qo ys[j].1<Vs.qo ys[i].1))=false:=this.symm
   by_cases z:Vs.qo ys[j].1=Vs.qo ys[i].1
   ·omega
   ·rw[if_neg z]at e
    have:=of_decide_eq_false e;omega
def oH:List D->(EV->Prop)->Prop
 | [.lst ds],Q=>ds.all isInt=true/\Q (.own ((mU (ds.map ki)).map D.int))
 | _,_=>False
theorem mN{F:Hp}:∀ {us:List V} {ds:List D},aC F us ds->ds.all isInt=true->us=(ds.map ki).map V.int
 | _,_,.nil,_=>rfl
 | _,_,.cons (d:=d) r rs,h=>by
  rw[List.all_cons,Bool.and_eq_true]at h;rw[List.map_cons,List.map_cons,<- mN rs h.2];cases r with
  | int i=>rfl
  | _=>cases h.1
theorem BX:wI G k S (.builtin "sorted") oH:=⟨λ_=>z9,λX Y ok=>rZ,λY F H ai σ vs ds Qd Q R r q g=>by
 unfold oH at q
 split at q
 ·rename_i xs
  obtain⟨v,rfl,rv⟩:=r.one;obtain⟨p,us,rfl,h1,h2⟩:=rv.lst;refine⟨p,xs.map ki,rfl,?_,λms hp hs l hl=>?_⟩
  ·rw[<- mN h2 q.1];exact h1
  ·have q2:=q.2
   rw[<- qX hp hs]at q2;exact g.own R (mO ms) q2 l hl
 ·exact q.elim⟩
def Az(to:TV):TX:=λσ Q=>to σ λx ax=>match x with
 | .var i=>∃xs e,ax[i]?=some (some (.own (xs++[e])))/\Q (.val e) (ax.set i (some (.own xs)))
 | _=>False
theorem JA{o:Expr}{to:TV}{apos cpos:Pos}(ho:EO G k S o to)(hb:∀env,attributeBase o "pop" env (eval o env)=eval o env:=by intro _;rfl)
  (hline:(apos.endLine==cpos.line)=true:=by rfl):EX G k S (.Call (.Attribute o "pop" apos) [] [] cpos) (Az to):=.mk λX Y ok=>by
 refine aO (zG F.plainAttrs_list F.slot_list_pop F.type_list_pop HP (ho X Y ok) (hb _) hline) λσ H Q q=>?_;obtain⟨F,ai,Qd,R,q,K⟩:=q;refine⟨F,ai,_,R,q,λv1 H1 F1 x ax s1 R1 r1 q1=>?_⟩;cases x with
 | val d=>exact q1.elim
 | any=>exact q1.elim
 | var i =>
  obtain⟨xs,e,e0,q1⟩:=q1;have r1:σ[i]?=some (some v1):=r1;obtain⟨a,vs,w1,w2,w3,w4,w5⟩:=R1.own i _ e0;rw[r1]at w1;cases w1;have hl:vs.length=xs.length+1:=by rw[w3.length,List.length_append];rfl
  obtain⟨y,hy,ry⟩:∃y,vs[xs.length]?=some y/\Rep F1 y e:=w3.get (by rw[List.getElem?_append_right (Nat.le_refl _),Nat.sub_self];rfl)
  have w6:aC F1 vs.dropLast xs:=by
   have:=w3.eraseIdx xs.length;rw[show(xs++[e]).eraseIdx xs.length=xs by rw[List.eraseIdx_append_of_length_le (Nat.le_refl _),Nat.sub_self];simp]at this
   rwa [show vs.eraseIdx xs.length=vs.dropLast by rw[show xs.length=vs.length-1 by omega,List.eraseIdx_length_sub_one]]at this
  exact⟨.inl ⟨rfl,vs,.of w2⟩,a,vs,y,rfl,rfl,w2,by rw[show vs.length-1=xs.length by omega];exact hy,K y _ F1 (.val e) _ s1 (R1.write e0 r1 w6) ry q1⟩
def Ua(i:Nat)(t:lY):cn:=λDe σ=>t σ λxs ax=>∃n:Nat,eg ax xs=some [.int (n:Nat)]/\n<=1000000/\∀ts:k9,ts.map (·.2)=List.replicate n []->De.nx (ax.set i (some (.obj (eB ts))))
theorem Al(i:Nat){y z:Str}{a:Expr}{t:lY}{scope:Scope}{py eN pos p6 p7 p9 lp:Pos}(h:wJ G k S [a] t)(hm:G.mg "range"=none)(b:jh S scope [z] [none])(hy:S.N[i]?=some y:=by rfl)(hx:S.sc.lookup y=some .local:=by rfl)
  (hn:i∉S.ios:=by first|decide|exact List.not_mem_nil | (dsimp only;decide)) (hl:(py.line==pos.line)=true:=by rfl) (Eo:(scope.names.any λ(n,k)=>n==y&&(k==.local||k==.cell))=false:=by decide +kernel)
  (vz:(aR S scope [z]).sc.lookup z=some .local:=by rfl) (hg:S.sc.lookup ("range":Str)=some .globalImplicit:=by rfl) (so:∀env,starEach [a] env=[(false,eval a env)]:=by intro _;rfl) (hh:S.jJ=false:=by rfl)
  (hs:∀env v,foldedSetIterable (.Call (.Name "range" p7) [a] [] p9) env v=pure v:=by intro _ _;rfl):
  ES G k S (.Assign [.Name y py] (.ListComp (.List [] lp) [⟨.Name z p6,.Call (.Name "range" p7) [a] [] p9,[],0⟩] scope pos) eN) (Ua i t):=.mk λX Y ok=>by
 have sw:swapsWith (.ListComp (.List [] lp) [⟨.Name z p6,.Call (.Name "range" p7) [a] [] p9,[],0⟩] scope pos) (some (.Name y py)) eN.line X.env=pure true:=by
  have e:swapsWith (.ListComp (.List [] lp) [⟨.Name z p6,.Call (.Name "range" p7) [a] [] p9,[],0⟩] scope pos) (some (.Name y py)) eN.line X.env=pure (X.env.blockKind==.function&&X.env.kindOf y==some .local&&py.line==pos.line&&!(scope.names.any λ(n,k)=>n==y&&(k==.local||k==.cell))):=rfl
  have kb:X.env.blockKind=.function:=by unfold Env.blockKind;rw[ok.kind];rfl
  have kd:X.env.kindOf y=S.sc.lookup y:=by
   show X.env.scope.names.lookup y=_;rw[ok.sc]
  rw[e,kb,kd,hl,Eo,hx];rfl
 have pi:=mI (tg:=.Name z p6) (p:=p7) (pos:=p9) (cA ok hg) (by rw[ok.mg];exact hm) (h X Y ok) (so _)
 refine cu (uD (i:=i) (g:=gK 0) (tc:=λ_ H Q=>Q true H) (te:=Dt lN) (ok.calm hh) pi (b.sc ok) (λX' c=>?_) (hs _) (by rw[ok.N];exact ok.nd) (by rw[ok.N];exact hy) (by rw[ok.sc];exact hx) sw) λDn σ H q=>?_
 ·have OC:=dr hh ok b c ⟨Y.H0,Y.F0,[],[]⟩ rfl
  exact⟨L2.gV (i:=0) (by rw[OC.N];exact OC.nd) (by rw[OC.N];rfl) (gn OC (.inl vz)) (gf OC (.inl vz)),uF,gq bS⟩
 obtain⟨F,ai,De,R,q,K⟩:=q;refine⟨F,ai,_,R,q,λvs H1 F1 xs ax s1 R1 r1 q1=>?_⟩;obtain⟨n,ed,Wk,q1⟩:=q1;obtain⟨v,rfl,rv⟩:=(R1.eg r1 ed).one;obtain rfl:=rv.int;refine⟨(n:Nat),rfl,by omega,by omega,λacc iQ=>?_⟩
 have aF:F1 acc=none:=same_none R1.fr iQ;have a0:Y.H0 acc=none:=(R1.bQ iQ).1;have aN:cH ax σ acc:=R1.cD iQ;refine⟨λm w bw H'=>m<=n/\w=n-m/\∃ts:k9,RS Y F1 ax σ H'/\H' acc=some (.lst (ts.map λt=>V.ref t.1))/\ts.map (·.2)=List.replicate m []/\(acc::ts.map (·.1)).Nodup/\∀t∈ts,H' t.1=some (.lst [])/\F1 t.1=none/\Y.H0 t.1=none/\cH ax σ t.1,
  ⟨n,Nat.zero_le _,rfl,[],R1.dI iQ,au,rfl,by simp,λt ht=>by cases ht⟩,?_⟩
 rintro m w bw H' ⟨hm,rfl,ts,R',mD,sr,SN,Hb⟩;have Wy:ts.length=m:=by have:=congrArg List.length sr;simpa using this
 by_cases iG:m<n
 ·right
  refine⟨by show m<((n:Nat):Int).toNat;omega,λv H2 yl=>?_⟩
  obtain⟨rfl,rfl⟩:=yl;dsimp only[gK];rw[if_pos rfl];refine⟨Nat.zero_le _,λp hp=>?_⟩;have pa:acc≠p:=λz=>by rw[<- z,mD]at hp;cases hp
  have U4:∀t∈ts,t.1≠p:=λt ht z=>by have:=(Hb t ht).1;rw[z,hp]at this;cases this
  have SY:∀t∈ts,t.1≠acc:=λt ht z=>(List.nodup_cons.mp SN).1 (z ▸ List.mem_map_of_mem ht);have Rp:=R'.dI (o:=.lst []) hp;refine⟨_,n-(m+1),by rw[ak pa];exact mD,by rw[List.length_map,Wy,sizeLine_eq];omega,by omega,by omega,rfl,ts++[(p,[])],Rp.other aF a0 aN,by rw[au,List.map_append];rfl,by rw[List.map_append,sr,List.replicate_succ'];rfl,?_,λt ht=>?_⟩
  ·rw[List.map_append,<- List.cons_append,List.nodup_append]
   refine⟨SN,by simp,λx hx y hy z=>?_⟩
   have hy:y=p:=by simpa using hy
   rw[hy]at z;rcases List.mem_cons.mp hx with rfl|hx
   ·exact pa z
   ·obtain⟨t,ht,e1⟩:=List.mem_map.mp hx
    exact U4 t ht (e1.trans z)
  ·rcases List.mem_append.mp ht with ht|ht
   ·obtain⟨g1,g2,g3,g4⟩:=Hb t ht
    exact⟨by rw[ak (SY t ht),ak (U4 t ht)];exact g1,g2,g3,g4⟩
   ·rw[List.mem_singleton.mp ht]
    exact⟨by rw[ak (Ne.symm pa),au],same_none R'.fr hp,(R'.bQ hp).1,R'.cD hp⟩
 ·left
  have en:m=n:=by omega
  subst en;have rx:BF Y F1 H' ax σ (.ref acc) (.obj (eB ts)):=⟨acc,rfl,⟨mD,SN,λt ht=>⟨[],(Hb t ht).1,by
   have:t.2∈ts.map (·.2):=List.mem_map_of_mem ht
   rw[sr]at this;rw[List.eq_of_mem_replicate this];exact .nil⟩⟩,λc hc=>by
   rcases List.mem_cons.mp hc with rfl|hc
   ·exact⟨aF,(by rw[mD];exactλz=>nomatch z),a0,aN⟩
   ·obtain⟨t,ht,rfl⟩:=List.mem_map.mp hc
    obtain⟨g1,g2,g3,g4⟩:=Hb t ht;exact⟨g2,(by rw[g1];exactλz=>nomatch z),g3,g4⟩⟩
  obtain⟨F2,bx,s2,R2,q2⟩:=jb (x:=.obj (eB ts)) (Q:=De.nx) R' rx hn ok.ios (q1 ts sr);refine⟨by show((m:Nat):Int).toNat<=m;omega,?_⟩
  exact K.nx _ H' F2 bx (s1.trans s2) R2 q2
end Vc
namespace Vc
variable [KF]
theorem NZ(ts:k9):(eB ts).view.or (eB ts).deep=some (.lst (ts.map λt=>.lst t.2)):=rfl
end Vc
set_option maxHeartbeats 0
namespace Rj
open PySem L2 Vc
section
def top(i:Nat):Stmt:=PySem.Challenge.pw_closepoints_k26_parts_told.main.body.getD i (.Pass ⟨0,0,0,0⟩)
variable [KF]
structure Gl(G:GE):Prop where
 z_abs:G.mg "abs"=none
 z_bool:G.mg "bool"=none
 z_enumerate:G.mg "enumerate"=none
 z_int:G.mg "int"=none
 z_isinstance:G.mg "isinstance"=none
 z_len:G.mg "len"=none
 z_list:G.mg "list"=none
 z_max:G.mg "max"=none
 z_min:G.mg "min"=none
 z_range:G.mg "range"=none
 z_sorted:G.mg "sorted"=none
 z_sum:G.mg "sum"=none
 z_tuple:G.mg "tuple"=none
 z_zip:G.mg "zip"=none
 vm:E6 G "SQUARES" (.str "squares")
 ml:E6 G "STREETS" (.str "streets")
variable {G:GE}{k:Nat}
abbrev hR:Stmt:=top 8
abbrev wZ:List Str:=["count"]
local macro_rules | `(tactic| walk_at "5") => `(tactic| exact ⟨rfl,rfl,rfl,by decide +kernel,rfl,by decide +kernel,by decide +kernel⟩)
theorem JH:aP wZ ["count"] (ah hR):=by walk_at "5"
def AB:cn:=(d3 (Ay (bq K7 (ag 0) (bp (.int 1))) (bq Qy (ag 0) (bp (.int 3)))) wy pv)
theorem Mx(E:Gl G):eL G k ⟨wZ,(ah hR).names,[],false,false,false,λ_ _=>False⟩ (az hR) (AB):=(aM (fR (Pr (Jz (bK L4 (af 0) aA) (Af (bK LZ (af 0) aA)))) (aM jP) dh))
abbrev om:Stmt:=top 9
abbrev Fb:List Str:=["point","count"]
theorem Py:aP Fb ["point","count"] (ah om):=by walk_at "5"
def Kk:cn:=(d3 (bq neT (aZ (dM dR (a9 (ag 0) c5))) (ag 1)) wy pv)
theorem RF(E:Gl G):eL G k ⟨Fb,(ah om).names,[],false,false,false,λ_ _=>False⟩ (az om) (Kk):=(aM (fR (bK lq (bg (cT f_len E.z_len (aE (af 0) aW) (by decide +kernel))) (af 1)) (aM jP) dh))
abbrev oB:Stmt:=top 10
abbrev Fh:List Str:=["points","point"]
theorem PJ:aP Fh ["points"] (ah oB):=by walk_at "5"
def Kq(oQ:cw)(uR:cw):cn:=(b7 (cF (av [] (ag 0))) (dJ 1) (bW (tj (mV oQ (bt (av [] (aZ (dM dR (a9 (ag 1) c5)))) tN))) (tj (mV uR (bt (av [] (ag 1)) (bt (av [] (aZ (dM dR (a9 (fZ (ag 0) (bp (.int 0))) c5)))) tN))))))
theorem RM(E:Gl G){oQ:cw}(yE:dF G k "need_count" oQ){uR:cw}(GZ:dF G k "need_as_many_numbers" uR):eL G k ⟨Fh,(ah oB).names,[],false,false,false,λ_ _=>False⟩ (az oB) (Kq oQ uR):=(aM (dY (eG (aV (af 0))) (aS 1 (hn:=by first|decide|exact of_decide_eq_true rfl)) (aB (dc (cg yE (ao (aV (bg (cT f_len E.z_len (aE (af 1) aW) (by decide +kernel)))) aG))) (aM (dc (cg GZ (ao (aV (af 1)) (ao (aV (bg (cT f_len E.z_len (aE (cL (af 0) aA) aW) (by decide +kernel)))) aG))))))))
abbrev ig:Stmt:=top 11
abbrev xg:List Str:=["way"]
theorem JN:aP xg ["way"] (ah ig):=by walk_at "5"
def AJ:cn:=(d3 (iw (bq neT (ag 0) (bp (.str "streets"))) (bq neT (ag 0) (bp (.str "squares")))) wy pv)
theorem MC(E:Gl G):eL G k ⟨xg,(ah ig).names,[],false,false,false,λ_ _=>False⟩ (az ig) (AJ):=(aM (fR (Pr (Aa (bK lq (af 0) (Ac E.ml)) (Ab (bK lq (af 0) (Ac E.vm))))) (aM jP) dh))
abbrev oo:Stmt:=top 12
abbrev Fc:List Str:=["points","way"]
theorem Pz:aP Fc ["points","way"] (ah oo):=by walk_at "5"
def Kl(uW:cw)(oU:cw):cn:=(bW (tj (mV uW (bt (av [] (ag 0)) tN))) (tj (mV oU (bt (av [] (ag 1)) tN))))
theorem RG(E:Gl G){uW:cw}(G4:dF G k "need_points" uW){oU:cw}(yI:dF G k "need_way" oU):eL G k ⟨Fc,(ah oo).names,[],false,false,false,λ_ _=>False⟩ (az oo) (Kl uW oU):=(aB (dc (cg G4 (ao (aV (af 0)) aG))) (aM (dc (cg yI (ao (aV (af 1)) aG)))))
abbrev hJ:Stmt:=top 13
abbrev wY:List Str:=["bound"]
theorem JG:aP wY ["bound"] (ah hJ):=by walk_at "5"
def AA:cn:=(d3 (bq K7 (ag 0) (bp (.int 0))) wy pv)
theorem Mw(E:Gl G):eL G k ⟨wY,(ah hJ).names,[],false,false,false,λ_ _=>False⟩ (az hJ) (AA):=(aM (fR (bK L4 (af 0) aA) (aM jP) dh))
abbrev oz:Stmt:=top 15
abbrev Ff:List Str:=["way","point","other","differences"]
theorem PD:aP Ff ["way","point","other"] (ah oz):=by walk_at "5"
def Kn:cn:=(bW (dE [] 3 (dD [] [none,none] (Dv (bt (av [] (ag 1)) (bt (av [] (ag 2)) tN))) (wN 2 (gC (dJ 0) (gC (dJ 1) wM))) fq (av [] (aZ (dM BG (a9 (aZ (aY jd (ag 0) (ag 1))) c5)))))) (bW (d3 (bq eqT (ag 0) (bp (.str "streets"))) (jt [] (dM sumF (a9 (ag 3) c5))) pv) (jt [] (dM sumF (a9 (aZ (dD [] [none] (cF (av [] (ag 3))) (dJ 0) fq (av [] (aZ (aY fc (ag 0) (ag 0)))))) c5)))))
local macro_rules | `(tactic| walk_at "6") => `(tactic| first|decide +kernel | (dsimp only[aR,aI];decide +kernel))
theorem RK(E:Gl G):eL G k ⟨Ff,(ah oz).names,[],false,false,false,λ_ _=>False⟩ (az oz) (Kn):=(aB (JF 3 (N':=["here","there"]) (Er (ao (aV (af 1)) (ao (aV (af 2)) aG)) E.z_zip) ⟨rfl,by walk_at "6",by walk_at "6",by walk_at "6",by walk_at "6",rfl,by walk_at "6"⟩ (gL (bA (aS 0 (hn:=by first|decide|exact of_decide_eq_true rfl)) (bA (aS 1 (hn:=by first|decide|exact of_decide_eq_true rfl)) eo))) jj (aV (bg (cT MK E.z_abs (aE (bg (fk (af 0) (af 1))) aW) (by decide +kernel))))) (aB (fR (bK iL (af 0) (Ac E.ml)) (aM (b6 (cT Eg E.z_sum (aE (af 3) aW) (by decide +kernel)))) dh) (aM (b6 (cT Eg E.z_sum (aE (bg (eC (N':=["difference"]) (eG (aV (af 3))) ⟨rfl,by walk_at "6",by walk_at "6",by walk_at "6",by walk_at "6",rfl,by walk_at "6"⟩ (aS 0 (hn:=by first|decide|exact of_decide_eq_true rfl)) jj (aV (bg (dW (af 0) (af 0)))))) aW) (by decide +kernel))))))
abbrev oq:Stmt:=top 16
abbrev Fd:List Str:=["points","way","pairs","i","j"]
theorem PB:aP Fd ["points","way"] (ah oq):=by walk_at "5"
def Qq(uU:cw):cn:=(bW (dE [] 2 (iI tN)) (bW (b7 (lJ (a9 (aZ (dM dR (a9 (ag 0) c5))) c5)) (dJ 3) (b7 (Dg (a9 (aZ (aY cY (ag 3) (bp (.int 1)))) (a9 (aZ (dM dR (a9 (ag 0) c5))) c5))) (dJ 4) (tj (qY (ag 2) (av [] (Kg (bt (av [] (aZ (mV uU (bt (av [] (ag 1)) (bt (av [] (fZ (ag 0) (ag 3))) (bt (av [] (fZ (ag 0) (ag 4))) tN)))))) (bt (av [] (ag 3)) (bt (av [] (ag 4)) tN))))))))) (jt [] (oX (ag 2)))))
theorem RH(E:Gl G){uU:cw}(G2:dF G k "far_between" uU):eL G k ⟨Fd,(ah oq).names,[],false,false,false,λ_ _=>False⟩ (az oq) (Qq uU):=(aB (bz 2 (bU aG)) (aB (dY (gk (aE (bg (cT f_len E.z_len (aE (af 0) aW) (by decide +kernel))) aW) E.z_range) (aS 3 (hn:=by first|decide|exact of_decide_eq_true rfl)) (aM (dY (Hh (aE (bg (cB (af 3) aA)) (aE (bg (cT f_len E.z_len (aE (af 0) aW) (by decide +kernel))) aW)) E.z_range) (aS 4 (hn:=by first|decide|exact of_decide_eq_true rfl)) (aM (dc (fh (af 2) (aV (uK (ao (aV (bg (cg G2 (ao (aV (af 1)) (ao (aV (cL (af 0) (af 3))) (ao (aV (cL (af 0) (af 4))) aG)))))) (ao (aV (af 3)) (ao (aV (af 4)) aG))))))))))) (aM (b6 (lH (af 2))))))
abbrev oE:Stmt:=top 18
abbrev Fm:List Str:=["points","way","bound"]
theorem PN:aP Fm ["points","way","bound"] (ah oE):=by walk_at "5"
def Kt(uS:cw)(oP:cw)(uT:cw):cn:=(bW (tj (mV uS (bt (av [] (ag 0)) (bt (av [] (ag 1)) tN)))) (bW (tj (mV oP (bt (av [] (ag 2)) tN))) (jt [] (dD [] [none,none,none,some 2] (cF (av [] (aZ (mV uT (bt (av [] (ag 0)) (bt (av [] (ag 1)) tN)))))) (wN 3 (gC (dJ 0) (gC (dJ 1) (gC (dJ 2) wM)))) (bq QS (ag 0) (ag 3)) (av [] (Kg (bt (av [] (ag 1)) (bt (av [] (ag 2)) tN))))))))
theorem RP(E:Gl G){uS:cw}(G0:dF G k "need_points_and_way" uS){oP:cw}(yD:dF G k "need_bound" oP){uT:cw}(G1:dF G k "pairs_by_places" uT):eL G k ⟨Fm,(ah oE).names,[],false,false,false,λ_ _=>False⟩ (az oE) (Kt uS oP uT):=(aB (dc (cg G0 (ao (aV (af 0)) (ao (aV (af 1)) aG)))) (aB (dc (cg yD (ao (aV (af 2)) aG))) (aM (b6 (eC (N':=["far","i","j","bound"]) (eG (aV (bg (cg G1 (ao (aV (af 0)) (ao (aV (af 1)) aG)))))) ⟨rfl,by walk_at "6",by walk_at "6",by walk_at "6",by walk_at "6",rfl,by walk_at "6"⟩ (gL (bA (aS 0 (hn:=by first|decide|exact of_decide_eq_true rfl)) (bA (aS 1 (hn:=by first|decide|exact of_decide_eq_true rfl)) (bA (aS 2 (hn:=by first|decide|exact of_decide_eq_true rfl)) eo)))) (xq (bK L3 (af 0) (af 3))) (aV (uK (ao (aV (af 1)) (ao (aV (af 2)) aG)))))))))
abbrev ip:Stmt:=top 20
abbrev xj:List Str:=["leasts","i","j","low","high"]
theorem JQ:aP xj ["leasts","i","j"] (ah ip):=by walk_at "5"
def AQ:cn:=(bW (dE [] 3 (dM kE (a9 (fZ (ag 0) (ag 1)) (a9 (fZ (ag 0) (ag 2)) c5)))) (bW (dE [] 4 (dM ky (a9 (fZ (ag 0) (ag 1)) (a9 (fZ (ag 0) (ag 2)) c5)))) (jt [] (dD [] [none,some 3,some 4] (cF (av [] (ag 0))) (dJ 0) fq (av [] (Ke (bq eqT (ag 0) (ag 2)) (ag 1) (ag 0)))))))
theorem MF(E:Gl G):eL G k ⟨xj,(ah ip).names,[],false,false,false,λ_ _=>False⟩ (az ip) (AQ):=(aB (bz 3 (cT nJ E.z_min (aE (cL (af 0) (af 1)) (aE (cL (af 0) (af 2)) aW)) (by decide +kernel))) (aB (bz 4 (cT nI E.z_max (aE (cL (af 0) (af 1)) (aE (cL (af 0) (af 2)) aW)) (by decide +kernel))) (aM (b6 (eC (N':=["least","low","high"]) (eG (aV (af 0))) ⟨rfl,by walk_at "6",by walk_at "6",by walk_at "6",by walk_at "6",rfl,by walk_at "6"⟩ (aS 0 (hn:=by first|decide|exact of_decide_eq_true rfl)) jj (aV (Pq (bK iL (af 0) (af 2)) (af 1) (af 0))))))))
abbrev ou:Stmt:=top 21
abbrev Fe:List Str:=["points","way","bound","leasts","i","j","parts","place","least"]
theorem PC:aP Fe ["points","way","bound"] (ah ou):=by walk_at "5"
def Km(uZ:cw)(fo:cw):cn:=(bW (dE [] 3 (Ud (a9 (aZ (dM dR (a9 (ag 0) c5))) c5))) (bW (b7 (cF (av [] (aZ (mV uZ (bt (av [] (ag 0)) (bt (av [] (ag 1)) (bt (av [] (ag 2)) tN))))))) (wN 2 (gC (dJ 4) (gC (dJ 5) wM))) (d3 (bq neT (fZ (ag 3) (ag 4)) (fZ (ag 3) (ag 5))) (dE [] 3 (mV fo (bt (av [] (ag 3)) (bt (av [] (ag 4)) (bt (av [] (ag 5)) tN))))) pv)) (bW (dE [] 6 Kb) (bW (b7 (o1 (bt (av [] (ag 3)) tN)) (wN 2 (gC (dJ 7) (gC (dJ 8) wM))) (Ui 6 8 7)) (jt [] (Ki 6))))))
theorem RJ(E:Gl G){uZ:cw}(G7:dF G k "near_pairs" uZ){fo:cw}(yL:dF G k "joined" fo):eL G k ⟨Fe,(ah ou).names,[],false,false,false,λ_ _=>False⟩ (az ou) (Km uZ fo):=(aB (bz 3 (Jy (aE (bg (cT f_len E.z_len (aE (af 0) aW) (by decide +kernel))) aW) E.z_list E.z_range)) (aB (dY (eG (aV (bg (cg G7 (ao (aV (af 0)) (ao (aV (af 1)) (ao (aV (af 2)) aG))))))) (gL (bA (aS 4 (hn:=by first|decide|exact of_decide_eq_true rfl)) (bA (aS 5 (hn:=by first|decide|exact of_decide_eq_true rfl)) eo))) (aM (fR (bK lq (cL (af 3) (af 4)) (cL (af 3) (af 5))) (aM (bz 3 (cg yL (ao (aV (af 3)) (ao (aV (af 4)) (ao (aV (af 5)) aG)))))) dh))) (aB (bz 6 Dd) (aB (dY (uc (ao (aV (af 3)) aG) E.z_enumerate) (gL (bA (aS 7 (hn:=by first|decide|exact of_decide_eq_true rfl)) (bA (aS 8 (hn:=by first|decide|exact of_decide_eq_true rfl)) eo))) (aM (Am 6 8 7))) (aM (b6 (Df 6 E.z_list)))))))
abbrev h9:Stmt:=top 23
abbrev xc:List Str:=["pot","many","cell","stir"]
theorem JL:aP xc ["pot","many"] (ah h9):=by walk_at "5"
def AH:cn:=(bW (qZ 0 (bp (.int 1)) (av [0] (aZ (aY cY (fZ (ag 0) (bp (.int 1))) (bp (.int 1)))))) (bW (dE [0] 2 (oX (fZ (ag 0) (bp (.int 0))))) (bW (d3 (bq R8 (ag 2) (aZ (aY sN (bp (.int 10)) (bp (.int 18))))) (bW (qZ 0 (bp (.int 0)) (av [0] (aZ (aY tU (ag 2) (ag 1))))) (jt [0] (aY sA (ag 2) (ag 1)))) pv) (bW (dE [0] 3 (aY sA (aZ (aY cY (aZ (aY cY (aZ (aY fc (ag 2) (bp (.int 69621)))) (aZ (aY fc (fZ (ag 0) (bp (.int 1))) (bp (.int 7919)))))) (bp (.int 13)))) (bp (.int 2147483647)))) (bW (dE [0] 3 (aY sA (aZ (aY fc (ag 3) (ag 3))) (bp (.int 2147483629)))) (jt [0] (aY sA (aZ (aY tU (aZ (aY sA (aZ (aY cY (aZ (aY fc (ag 3) (bp (.int 48271)))) (aZ (aY fc (fZ (ag 0) (bp (.int 1))) (bp (.int 40692)))))) (bp (.int 2147483587)))) (bp (.int 8)))) (ag 1))))))))
theorem MA(E:Gl G):eL G k ⟨xc,(ah h9).names,[0],false,false,false,λ_ _=>False⟩ (az h9) (AH):=(aB (sT 0 (aV (bg (cB (cL (af 0) aA) aA))) aA (af 0)) (aB (bz 2 (lH (cL (af 0) aA))) (aB (fR (bK RA (af 2) (bg (qQ aA aA))) (aB (sT 0 (aV (bg (uG (af 2) (af 1)))) aA (af 0)) (aM (b6 (qP (af 2) (af 1))))) dh) (aB (bz 3 (qP (bg (cB (bg (cB (bg (dW (af 2) aA)) (bg (dW (cL (af 0) aA) aA)))) aA)) aA)) (aB (bz 3 (qP (bg (dW (af 3) (af 3))) aA)) (aM (b6 (qP (bg (uG (bg (qP (bg (cB (bg (dW (af 3) aA)) (bg (dW (cL (af 0) aA) aA)))) aA)) aA)) (af 1)))))))))
abbrev ic:Stmt:=top 24
abbrev D1:List Str:=["script"]
theorem JM:aP D1 ["script"] (ah ic):=by walk_at "5"
theorem MB(E:Gl G):pB G k ⟨D1,(ah ic).names,[],false,false,false,λ_ _=>False⟩ (az ic):=Gz (N':=["cell"]) rfl (bK iL (bg (cT f_len E.z_len (aE (af 0) aW) (by decide +kernel))) aA) (ao (aV aA) (ao (aV aA) aG)) (eG (aV (bg (JB (af 0) sG (sJ aA))))) ⟨rfl,by walk_at "6",by walk_at "6",by walk_at "6",by walk_at "6",rfl,by walk_at "6"⟩ (aS 0 (hn:=by first|decide|exact of_decide_eq_true rfl)) (ao (aV (af 0)) (ao (aV aA) aG))
abbrev oD:Stmt:=top 25
abbrev Fl:List Str:=["pot","count","most","many","kind","found","place","point","k","some","turned"]
theorem PL:aP Fl ["pot","count","most"] (ah oD):=by walk_at "5"
def Ks(bh:ji):cn:=(bW (dE [0] 3 (d0 bh 0 (bt (av [0] (fZ (aZ (iI (bt (av [0] (aZ (dM kE (a9 (bp (.int 4)) (a9 (aZ (aY cY (ag 2) (bp (.int 1)))) c5))))) (bt (av [0] (aZ (dM kE (a9 (bp (.int 9)) (a9 (aZ (aY cY (ag 2) (bp (.int 1)))) c5))))) (bt (av [0] (aZ (aY cY (ag 2) (bp (.int 1))))) tN))))) (aZ (d0 bh 0 (bt (av [0] (bp (.int 3))) tN))))) tN))) (bW (dE [0] 4 (d0 bh 0 (bt (av [0] (bp (.int 6))) tN))) (bW (dE [0] 5 (iI tN)) (bW (b7 (lJ (a9 (ag 3) c5)) (dJ 6) (bW (dE [0] 7 (iI tN)) (bW (b7 (lJ (a9 (ag 1) c5)) (dJ 8) (bW (dE [0] 9 (iI (bt (av [0] (aZ (d0 bh 0 (bt (av [0] (bp (.int 4))) tN)))) (bt (av [0] (aZ (aY jd (aZ (d0 bh 0 (bt (av [0] (bp (.int 41))) tN))) (bp (.int 20))))) (bt (av [0] (aZ (aY fc (ag 6) (aZ (aY cY (ag 8) (bp (.int 1))))))) (bt (av [0] (aZ (aY jd (aZ (aY jd (aZ (aY sN (bp (.int 10)) (bp (.int 15)))) (bp (.int 1)))) (aZ (d0 bh 0 (bt (av [0] (bp (.int 3))) tN)))))) tN)))))) (bW (tj (qY (ag 9) (av [0] (aZ (aY cY (aZ (aY jd (aZ (d0 bh 0 (bt (av [0] (aZ (aY jd (aZ (aY fc (bp (.int 2)) (aZ (aY sN (bp (.int 10)) (bp (.int 15)))))) (bp (.int 1))))) tN))) (aZ (aY sN (bp (.int 10)) (bp (.int 15)))))) (bp (.int 1))))))) (bW (dE [0] 10 (oX (fZ (aZ (iI (bt (av [0] (bp (.int 1))) (bt (av [0] (Ax (bp (.int 1)))) tN)))) (aZ (aY fc (aZ (d0 bh 0 (bt (av [0] (bp (.int 2))) tN))) (aZ (dM nQ (a9 (bV (bq eqT (ag 4) (bp (.int 3)))) c5)))))))) (tj (qY (ag 7) (av [0] (aZ (aY fc (ag 10) (fZ (ag 9) (aZ (dM kE (a9 (ag 4) (a9 (bp (.int 4)) c5)))))))))))))) (bW (tj (qY (ag 5) (av [0] (aZ (dM o7 (a9 (ag 7) c5)))))) (d3 (iw (bq eqT (ag 4) (bp (.int 5))) (iw (bq Qy (ag 6) (bp (.int 0))) (bq eqT (aZ (d0 bh 0 (bt (av [0] (bp (.int 2))) tN))) (bp (.int 0))))) (qZ 5 (Ax (bp (.int 1))) (av [0] (fZ (ag 5) (aZ (d0 bh 0 (bt (av [0] (ag 6)) tN)))))) pv))))) (jt [0] (oX (ag 5)))))))
theorem RO(E:Gl G){bh:ji}(cc:fM G k "_law_next" bh):eL G k ⟨Fl,(ah oD).names,[0],false,false,false,λ_ _=>False⟩ (az oD) (Ks bh):=(aB (bz 3 (bu cc (af 0) (ao (aV (cL (bg (bU (ao (aV (bg (cT nJ E.z_min (aE aA (aE (bg (cB (af 2) aA)) aW)) (by decide +kernel)))) (ao (aV (bg (cT nJ E.z_min (aE aA (aE (bg (cB (af 2) aA)) aW)) (by decide +kernel)))) (ao (aV (bg (cB (af 2) aA))) aG))))) (bg (bu cc (af 0) (ao (aV aA) aG))))) aG))) (aB (bz 4 (bu cc (af 0) (ao (aV aA) aG))) (aB (bz 5 (bU aG)) (aB (dY (gk (aE (af 3) aW) E.z_range) (aS 6 (hn:=by first|decide|exact of_decide_eq_true rfl)) (aB (bz 7 (bU aG)) (aB (dY (gk (aE (af 1) aW) E.z_range) (aS 8 (hn:=by first|decide|exact of_decide_eq_true rfl)) (aB (bz 9 (bU (ao (aV (bg (bu cc (af 0) (ao (aV aA) aG)))) (ao (aV (bg (fk (bg (bu cc (af 0) (ao (aV aA) aG))) aA))) (ao (aV (bg (dW (af 6) (bg (cB (af 8) aA))))) (ao (aV (bg (fk (bg (fk (bg (qQ aA aA)) aA)) (bg (bu cc (af 0) (ao (aV aA) aG)))))) aG)))))) (aB (dc (fh (af 9) (aV (bg (cB (bg (fk (bg (bu cc (af 0) (ao (aV (bg (fk (bg (dW aA (bg (qQ aA aA)))) aA))) aG))) (bg (qQ aA aA)))) aA))))) (aB (bz 10 (lH (cL (bg (bU (ao (aV aA) (ao (aV (uI aA)) aG)))) (bg (dW (bg (bu cc (af 0) (ao (aV aA) aG))) (bg (qO f_int E.z_int (aE (fj iL (af 4) aA) aW) (by decide +kernel)))))))) (aM (dc (fh (af 7) (aV (bg (dW (af 10) (cL (af 9) (bg (cT nJ E.z_min (aE (af 4) (aE aA aW)) (by decide +kernel)))))))))))))) (aB (dc (fh (af 5) (aV (bg (qO BZ E.z_tuple (aE (af 7) aW) (by decide +kernel)))))) (aM (fR (Pr (Aa (bK iL (af 4) aA) (Aa (bK LZ (af 6) aA) (Ab (bK iL (bg (bu cc (af 0) (ao (aV aA) aG))) aA))))) (aM (sT 5 (aV (cL (af 5) (bg (bu cc (af 0) (ao (aV (af 6)) aG))))) (uI aA) (af 5))) dh)))))) (aM (b6 (lH (af 5))))))))
abbrev ik:Stmt:=top 26
abbrev xh:List Str:=["way","one","other","found","here","there","step"]
theorem JO:aP xh ["way","one","other"] (ah ik):=by walk_at "5"
def AK:cn:=(bW (dE [] 3 (oX (bp (.int 0)))) (bW (b7 (Dv (bt (av [] (ag 1)) (bt (av [] (ag 2)) tN))) (wN 2 (gC (dJ 4) (gC (dJ 5) wM))) (bW (dE [] 6 (dM ky (a9 (aZ (aY jd (ag 4) (ag 5))) (a9 (aZ (aY jd (ag 5) (ag 4))) c5)))) (dE [] 3 (aY cY (ag 3) (fZ (aZ (iI (bt (av [] (ag 6)) (bt (av [] (aZ (aY fc (ag 6) (ag 6)))) tN)))) (aZ (dM nQ (a9 (bV (bq eqT (ag 0) (bp (.str "squares")))) c5)))))))) (jt [] (oX (ag 3)))))
theorem MD(E:Gl G):eL G k ⟨xh,(ah ik).names,[],false,false,false,λ_ _=>False⟩ (az ik) (AK):=(aB (bz 3 (lH aA)) (aB (dY (Er (ao (aV (af 1)) (ao (aV (af 2)) aG)) E.z_zip) (gL (bA (aS 4 (hn:=by first|decide|exact of_decide_eq_true rfl)) (bA (aS 5 (hn:=by first|decide|exact of_decide_eq_true rfl)) eo))) (aB (bz 6 (cT nI E.z_max (aE (bg (fk (af 4) (af 5))) (aE (bg (fk (af 5) (af 4))) aW)) (by decide +kernel))) (aM (bz 3 (cB (af 3) (cL (bg (bU (ao (aV (af 6)) (ao (aV (bg (dW (af 6) (af 6)))) aG)))) (bg (qO f_int E.z_int (aE (fj iL (af 0) uJ) aW) (by decide +kernel))))))))) (aM (b6 (lH (af 3))))))
abbrev il:Stmt:=top 27
abbrev xi:List Str:=["pot"]
theorem JP:aP xi ["pot"] (ah il):=by walk_at "5"
def AO(bh:ji):cn:=(jt [0] (oX (fZ (aZ (iI (bt (av [0] (bp (.str "streets"))) (bt (av [0] (bp (.str "squares"))) tN)))) (aZ (d0 bh 0 (bt (av [0] (bp (.int 2))) tN))))))
theorem ME(E:Gl G){bh:ji}(cc:fM G k "_law_next" bh):eL G k ⟨xi,(ah il).names,[0],false,false,false,λ_ _=>False⟩ (az il) (AO bh):=(aM (b6 (lH (cL (bg (bU (ao (aV uJ) (ao (aV uJ) aG)))) (bg (bu cc (af 0) (ao (aV aA) aG)))))))
abbrev hZ:Stmt:=top 28
abbrev w8:List Str:=["points","way","found","j","other"]
theorem JI:aP w8 ["points","way"] (ah hZ):=by walk_at "5"
def AF(oV:cw):cn:=(bW (dE [] 2 (iI tN)) (bW (b7 (o1 (bt (av [] (ag 0)) tN)) (wN 2 (gC (dJ 3) (gC (dJ 4) wM))) (tj (Kd (ag 2) (dD [] [none,some 3,some 1,some 4,some 0] (lJ (a9 (ag 3) c5)) (dJ 0) fq (av [] (Kg (bt (av [] (aZ (mV oV (bt (av [] (ag 2)) (bt (av [] (fZ (ag 4) (ag 0))) (bt (av [] (ag 3)) tN)))))) (bt (av [] (ag 0)) (bt (av [] (ag 1)) tN))))))))) (jt [] (dM jQ (a9 (ag 2) c5)))))
theorem My(E:Gl G){oV:cw}(yJ:dF G k "_law_far" oV):eL G k ⟨w8,(ah hZ).names,[],false,false,false,λ_ _=>False⟩ (az hZ) (AF oV):=(aB (bz 2 (bU aG)) (aB (dY (uc (ao (aV (af 0)) aG) E.z_enumerate) (gL (bA (aS 3 (hn:=by first|decide|exact of_decide_eq_true rfl)) (bA (aS 4 (hn:=by first|decide|exact of_decide_eq_true rfl)) eo))) (aM (dc (Ad (af 2) (eC (N':=["i","j","way","other","points"]) (gk (aE (af 3) aW) E.z_range) ⟨rfl,by walk_at "6",by walk_at "6",by walk_at "6",by walk_at "6",rfl,by walk_at "6"⟩ (aS 0 (hn:=by first|decide|exact of_decide_eq_true rfl)) jj (aV (uK (ao (aV (bg (cg yJ (ao (aV (af 2)) (ao (aV (cL (af 4) (af 0))) (ao (aV (af 3)) aG)))))) (ao (aV (af 0)) (ao (aV (af 1)) aG)))))))))) (aM (b6 (cT yt E.z_sorted (aE (af 2) aW) (by decide +kernel))))))
abbrev oC:Stmt:=top 29
abbrev Fj:List Str:=["pot","fars","some","least","found"]
theorem PK:aP Fj ["pot","fars"] (ah oC):=by walk_at "5"
def Kr(bh:ji):cn:=(bW (dE [0] 2 (oX (fZ (aZ (aY cY (ag 1) (aZ (iI (bt (av [0] (bp (.int 0))) tN))))) (aZ (d0 bh 0 (bt (av [0] (aZ (aY cY (aZ (dM dR (a9 (ag 1) c5))) (bp (.int 1))))) tN)))))) (bW (dE [0] 3 (oX (fZ (aZ (aY cY (ag 1) (aZ (iI (bt (av [0] (bp (.int 1))) tN))))) (bp (.int 0))))) (bW (dE [0] 4 (iI (bt (av [0] (bp (.int 0))) (bt (av [0] (aZ (d0 bh 0 (bt (av [0] (bp (.int 50))) tN)))) (bt (av [0] (ag 2)) (bt (av [0] (aZ (dM ky (a9 (bp (.int 0)) (a9 (aZ (aY jd (ag 2) (bp (.int 1)))) c5))))) (bt (av [0] (aZ (aY cY (ag 2) (bp (.int 1))))) (bt (av [0] (ag 3)) (bt (av [0] (aZ (dM ky (a9 (bp (.int 0)) (a9 (aZ (aY jd (ag 3) (bp (.int 1)))) c5))))) tN))))))))) (jt [0] (aY cY (ag 4) (aZ (iI (bt (av [0] (aZ (aY jd (aZ (aY sN (bp (.int 10)) (bp (.int 34)))) (bp (.int 1))))) (bt (av [0] (fZ (aZ (aY cY (aZ (iI (bt (av [0] (bp (.int 5))) tN))) (ag 1))) (Ax (bp (.int 1))))) tN)))))))))
theorem RN(E:Gl G){bh:ji}(cc:fM G k "_law_next" bh):eL G k ⟨Fj,(ah oC).names,[0],false,false,false,λ_ _=>False⟩ (az oC) (Kr bh):=(aB (bz 2 (lH (cL (bg (cB (af 1) (bg (bU (ao (aV aA) aG))))) (bg (bu cc (af 0) (ao (aV (bg (cB (bg (cT f_len E.z_len (aE (af 1) aW) (by decide +kernel))) aA))) aG)))))) (aB (bz 3 (lH (cL (bg (cB (af 1) (bg (bU (ao (aV aA) aG))))) aA))) (aB (bz 4 (bU (ao (aV aA) (ao (aV (bg (bu cc (af 0) (ao (aV aA) aG)))) (ao (aV (af 2)) (ao (aV (bg (cT nI E.z_max (aE aA (aE (bg (fk (af 2) aA)) aW)) (by decide +kernel)))) (ao (aV (bg (cB (af 2) aA))) (ao (aV (af 3)) (ao (aV (bg (cT nI E.z_max (aE aA (aE (bg (fk (af 3) aA)) aW)) (by decide +kernel)))) aG))))))))) (aM (b6 (cB (af 4) (bg (bU (ao (aV (bg (fk (bg (qQ aA aA)) aA))) (ao (aV (cL (bg (cB (bg (bU (ao (aV aA) aG))) (af 1))) (uI aA))) aG))))))))))
abbrev oA:Stmt:=top 30
abbrev Fg:List Str:=["many","pairs","joined_v","one","other","seen","found","place","waits","part","here"]
theorem PF:aP Fg ["many","pairs"] (ah oA):=by walk_at "5"
def Ko:cn:=(bW (Ua 2 (a9 (ag 0) c5)) (bW (b7 (cF (av [] (ag 1))) (wN 2 (gC (dJ 3) (gC (dJ 4) wM))) (bW (Ql 2 (ag 3) (av [] (ag 4))) (Ql 2 (ag 4) (av [] (ag 3))))) (bW (dE [] 5 J9) (bW (dE [] 6 (iI tN)) (bW (b7 (lJ (a9 (ag 0) c5)) (dJ 7) (bW (dE [] 8 (aY fc (aZ (iI (bt (av [] (ag 7)) tN))) (aZ (dM nQ (a9 (bV (bq zh (ag 7) (q0 5))) c5))))) (bW (dE [] 9 (iI tN)) (bW (Qp (bq neT (ag 8) (aZ (iI tN))) (bW (dE [] 10 (Az (ag 8))) (d3 (bq zh (ag 10) (q0 5)) (bW (Kc 5 (ag 10) (av [] (bp (.bl true)))) (bW (tj (qY (ag 9) (av [] (ag 10)))) (dE [] 8 (Aw [2,8,10] (aY cY (ag 8) (fZ (ag 2) (ag 10))))))) pv))) (dE [] 6 (aY cY (ag 6) (aZ (aY fc (aZ (iI (bt (av [] (aZ (dM oH (a9 (ag 9) c5)))) tN))) (aZ (dM nQ (a9 (bV (bq neT (ag 9) (aZ (iI tN)))) c5))))))))))) (jt [] (oX (ag 6))))))))
theorem RL(E:Gl G):eL G k ⟨Fg,(ah oA).names,[],false,false,false,λ_ _=>False⟩ (az oA) (Ko):=(aB (Al 2 (z:="place") (aE (af 0) aW) E.z_range ⟨rfl,by walk_at "6",by walk_at "6",by walk_at "6",by walk_at "6",rfl,by walk_at "6"⟩) (aB (dY (eG (aV (af 1))) (gL (bA (aS 3 (hn:=by first|decide|exact of_decide_eq_true rfl)) (bA (aS 4 (hn:=by first|decide|exact of_decide_eq_true rfl)) eo))) (aB (uO 2 (af 3) (aV (af 4))) (aM (uO 2 (af 4) (aV (af 3)))))) (aB (bz 5 Dc) (aB (bz 6 (bU aG)) (aB (dY (gk (aE (af 0) aW) E.z_range) (aS 7 (hn:=by first|decide|exact of_decide_eq_true rfl)) (aB (bz 8 (dW (bg (bU (ao (aV (af 7)) aG))) (bg (qO f_int E.z_int (aE (fj xr (af 7) (Ag 5)) aW) (by decide +kernel))))) (aB (bz 9 (bU aG)) (aB (Dl (bK lq (af 8) (bg (bU aG))) (aB (bz 10 (JA (af 8))) (aM (fR (bK xr (af 10) (Ag 5)) (aB (Di 5 (aV sS) (af 10) (TQ 5)) (aB (dc (fh (af 9) (aV (af 10)))) (aM (bz 8 (Jx [2,8,10] (cB (af 8) (cL (af 2) (af 10)))))))) dh)))) (aM (bz 6 (cB (af 6) (bg (dW (bg (bU (ao (aV (bg (cT BX E.z_sorted (aE (af 9) aW) (by decide +kernel)))) aG))) (bg (qO f_int E.z_int (aE (fj lq (af 9) (bg (bU aG))) aW) (by decide +kernel)))))))))))) (aM (b6 (lH (af 6)))))))))
abbrev ie:Stmt:=top 31
abbrev xf:List Str:=["found","due"]
theorem sU:aP xf ["found","due"] (ah ie):=by walk_at "5"
def AI(sp_q16:cw):cn:=(bW (d3 (bq QO (ag 1) (bp .bB)) (jt [] (oX (bV (bq QO (ag 0) (bp .bB))))) pv) (bW (d3 (tm (bV (lM ["list","tuple"] (ag 1)))) (bW (d3 (Ay (bq neT (bV (lM ["tuple"] (ag 0))) (bV (lM ["tuple"] (ag 1)))) (mX (tm (bV (lM ["list","tuple"] (ag 0)))))) (jt [] (oX (bp (.bl false)))) pv) (bW (d3 (bq neT (aZ (dM dR (a9 (ag 0) c5))) (aZ (dM dR (a9 (ag 1) c5)))) (jt [] (oX (bp (.bl false)))) pv) (jt [] (oX (bV (bq eqT (aZ (dD [] [none,some 0,some 1] (lJ (a9 (aZ (dM dR (a9 (ag 1) c5))) c5)) (dJ 0) (mX (tm (aZ (mV sp_q16 (bt (av [] (fZ (ag 1) (ag 0))) (bt (av [] (fZ (ag 2) (ag 0))) tN)))))) (av [] (ag 0)))) (aZ (iI tN)))))))) pv) (jt [] (oX (bV (iw (k0 (bV (lM ["int"] (ag 0)))) (iw (k0 (bV (bq eqT (bV (lM ["bool"] (ag 0))) (bV (lM ["bool"] (ag 1)))))) (k0 (bV (bq eqT (ag 0) (ag 1)))))))))))
theorem yc(E:Gl G){sp_q16:cw}(ql:dF G k "_law_same" sp_q16):eL G k ⟨xf,(ah ie).names,[],false,false,false,λ_ _=>False⟩ (az ie) (AI sp_q16):=(aB (fR (bK L0 (af 1) EK) (aM (b6 (lH (fj L0 (af 0) EK)))) dh) (aB (fR (kQ (Ae (af 1) qx kit_tuple E.z_isinstance E.z_list E.z_tuple (by decide +kernel) (by decide +kernel))) (aB (fR (Pr (Jz (bK lq (kP (af 0) kit_tuple E.z_isinstance E.z_tuple (by decide +kernel)) (kP (af 1) kit_tuple E.z_isinstance E.z_tuple (by decide +kernel))) (Af (oi (kQ (Ae (af 0) qx kit_tuple E.z_isinstance E.z_list E.z_tuple (by decide +kernel) (by decide +kernel))))))) (aM (b6 (lH sS))) dh) (aB (fR (bK lq (bg (cT f_len E.z_len (aE (af 0) aW) (by decide +kernel))) (bg (cT f_len E.z_len (aE (af 1) aW) (by decide +kernel)))) (aM (b6 (lH sS))) dh) (aM (b6 (lH (fj iL (bg (eC (N':=["k","found","due"]) (gk (aE (bg (cT f_len E.z_len (aE (af 1) aW) (by decide +kernel))) aW) E.z_range) ⟨rfl,by walk_at "6",by walk_at "6",by walk_at "6",by walk_at "6",rfl,by walk_at "6"⟩ (aS 0 (hn:=by first|decide|exact of_decide_eq_true rfl)) (xq (oi (kQ (bg (cg ql (ao (aV (cL (af 1) (af 0))) (ao (aV (cL (af 2) (af 0))) aG))))))) (aV (af 0)))) (bg (bU aG)))))))) dh) (aM (b6 (lH (Pp (v_and (A5 (kP (af 0) Ct E.z_isinstance E.z_int (by decide +kernel))) (v_and (A5 (fj iL (kP (af 0) qw E.z_isinstance E.z_bool (by decide +kernel)) (kP (af 1) qw E.z_isinstance E.z_bool (by decide +kernel)))) (E4 (A5 (fj iL (af 0) (af 1))))))))))))
abbrev h8:Stmt:=top 32
abbrev xa:List Str:=["points","way","pairs","bound","due","handed","turn","told","part"]
theorem JK:aP xa ["points","way","pairs","bound"] (ah h8):=by walk_at "5"
def AG(uV:cw)(iu:cw)(sp_q16:cw):cn:=(bW (dE [] 4 (mV uV (bt (av [] (aZ (dM dR (a9 (ag 0) c5)))) (bt (av [] (aZ (dD [] [none,none,none,some 3] (cF (av [] (ag 2))) (wN 3 (gC (dJ 0) (gC (dJ 1) (gC (dJ 2) wM)))) (bq QS (ag 0) (ag 3)) (av [] (Kg (bt (av [] (ag 1)) (bt (av [] (ag 2)) tN))))))) tN)))) (bW (dE [] 5 (dM uw (a9 (ag 0) c5))) (bW (b7 (lJ (a9 (bp (.int 2)) c5)) (dJ 6) (bW (dE [] 7 (mV iu (bt (av [] (ag 5)) (bt (av [] (ag 1)) (bt (av [] (ag 3)) tN))))) (bW (d3 (o4 [0,4,5,7] (Ay (mX (tm (aZ (T8 sp_q16 (a9 (ag 7) (a9 (ag 4) c5)))))) (bq neT (ag 5) (ag 0)))) (jt [] (oX (bp (.bl false)))) pv) (bW (Ub 7 8 (.int (-1))) (bW (d3 (o4 [4,7,8] (bq neT (aZ (dD [] [none] (cF (av [] (ag 7))) (dJ 0) fq (av [] (aZ (dM dR (a9 (ag 0) c5)))))) (aZ (dD [] [none] (cF (av [] (ag 4))) (dJ 0) fq (av [] (aZ (aY cY (aZ (dM dR (a9 (ag 0) c5))) (bp (.int 1))))))))) (jt [] (oX (bp (.bl false)))) pv) (Uc 7)))))) (jt [] (oX (bp (.bl true)))))))
theorem Mz(E:Gl G){uV:cw}(G3:dF G k "_law_reached" uV){iu:cw}(vD:dF G k "parts_within" iu){sp_q16:cw}(ql:dF G k "_law_same" sp_q16):eL G k ⟨xa,(ah h8).names,[],false,false,false,λ_ _=>False⟩ (az h8) (AG uV iu sp_q16):=(aB (bz 4 (cg G3 (ao (aV (bg (cT f_len E.z_len (aE (af 0) aW) (by decide +kernel)))) (ao (aV (bg (eC (N':=["far","i","j","bound"]) (eG (aV (af 2))) ⟨rfl,by walk_at "6",by walk_at "6",by walk_at "6",by walk_at "6",rfl,by walk_at "6"⟩ (gL (bA (aS 0 (hn:=by first|decide|exact of_decide_eq_true rfl)) (bA (aS 1 (hn:=by first|decide|exact of_decide_eq_true rfl)) (bA (aS 2 (hn:=by first|decide|exact of_decide_eq_true rfl)) eo)))) (xq (bK L3 (af 0) (af 3))) (aV (uK (ao (aV (af 1)) (ao (aV (af 2)) aG))))))) aG)))) (aB (bz 5 (qO f_list E.z_list (aE (af 0) aW) (by decide +kernel))) (aB (dY (gk (aE aA aW) E.z_range) (aS 6 (hn:=by first|decide|exact of_decide_eq_true rfl)) (aB (bz 7 (cg vD (ao (aV (af 5)) (ao (aV (af 1)) (ao (aV (af 3)) aG))))) (aB (fR (uH [0,4,5,7] (Pr (Jz (oi (kQ (bg (C9 ql (aE (af 7) (aE (af 4) aW)))))) (Af (bK lq (af 5) (af 0)))))) (aM (b6 (lH sS))) dh) (aB (Ak 7 8 (.int (-1)) (aV (uI aA)) (λσ Q h=>h)) (aB (fR (uH [4,7,8] (bK lq (bg (eC (N':=["part"]) (eG (aV (af 7))) ⟨rfl,by walk_at "6",by walk_at "6",by walk_at "6",by walk_at "6",rfl,by walk_at "6"⟩ (aS 0 (hn:=by first|decide|exact of_decide_eq_true rfl)) jj (aV (bg (cT f_len E.z_len (aE (af 0) aW) (by decide +kernel)))))) (bg (eC (N':=["part"]) (eG (aV (af 4))) ⟨rfl,by walk_at "6",by walk_at "6",by walk_at "6",by walk_at "6",rfl,by walk_at "6"⟩ (aS 0 (hn:=by first|decide|exact of_decide_eq_true rfl)) jj (aV (bg (cB (bg (cT f_len E.z_len (aE (af 0) aW) (by decide +kernel))) aA))))))) (aM (b6 (lH sS))) dh) (aM (Dk 7))))))) (aM (b6 (lH sS))))))
abbrev eI:Stmt:=top 33
abbrev xk:List Str:=["script","k","pot","great","points","way","pairs","bound"]
theorem JR:aP xk ["script"] (ah eI):=by walk_at "5"
def AR(bh:ji)(uY:ji)(oW:ji)(oS:cw)(uX:ji)(oT:cw)(iu:cw):cn:=(bW (u6 (bt (av [] (aZ (wz (ag 0) La (Lb (bp (.int 3)))))) tN) (Jt 1 2) (bW (dE [] 3 (oX (bV (iw (k0 (bV (bq eqT (ag 1) (bp (.int 0))))) (k0 (bV (bq eqT (aZ (d0 bh 2 (bt (av [] (bp (.int 8))) tN))) (bp (.int 0))))))))) (bW (dE [] 4 (d0 uY 2 (bt (av [] (aZ (aY cY (bp (.int 1)) (aZ (d0 bh 2 (bt (av [] (bp (.int 3))) tN)))))) (bt (av [] (fZ (aZ (iI (bt (av [] (bp (.int 30))) (bt (av [] (bp (.int 150))) tN)))) (aZ (dM nQ (a9 (ag 3) c5))))) tN)))) (bW (dE [] 5 (d0 oW 2 tN)) (bW (dE [] 6 (mV oS (bt (av [] (ag 4)) (bt (av [] (ag 5)) tN)))) (b7 (cF (av [] (aZ (wz (aZ (d0 uX 2 (bt (av [] (aZ (dD [] [none,none,none] (cF (av [] (ag 6))) (wN 3 (gC (dJ 0) (gC (dJ 1) (gC (dJ 2) wM)))) fq (av [] (ag 0))))) tN))) La (Lb (fZ (aZ (iI (bt (av [] (bp (.int 9))) (bt (av [] (bp (.int 3))) tN)))) (aZ (dM nQ (a9 (ag 3) c5))))))))) (dJ 7) (d3 (mX (tm (aZ (mV oT (bt (av [] (ag 4)) (bt (av [] (ag 5)) (bt (av [] (ag 6)) (bt (av [] (ag 7)) tN)))))))) (jt [] (oX (bp (.bl false)))) pv))))))) (jt [] (oX (bV (bq eqT (aZ (mV iu (bt (av [] (aZ (iI tN))) (bt (av [] (bp (.str "streets"))) (bt (av [] (bp (.int 0))) tN))))) (aZ (iI tN)))))))
theorem MG(E:Gl G)(yH:eR G k "_law_pots"){bh:ji}(cc:fM G k "_law_next" bh){uY:ji}(G6:fM G k "_law_points" uY){oW:ji}(yK:fM G k "_law_way" oW){oS:cw}(yF:dF G k "_law_pairs" oS){uX:ji}(G5:fM G k "_law_bounds" uX){oT:cw}(yG:dF G k "_law_right" oT){iu:cw}(vD:dF G k "parts_within" iu):eL G k ⟨xk,(ah eI).names,[],false,false,false,λ_ _=>False⟩ (az eI) (AR bh uY oW oS uX oT iu):=(aB (Dj 1 2 yH (ao (aV (bg (JB (af 0) sG (sJ aA)))) aG) E.z_enumerate (aB (bz 3 (lH (Pp (v_and (A5 (fj iL (af 1) aA)) (E4 (A5 (fj iL (bg (bu cc (af 2) (ao (aV aA) aG))) aA))))))) (aB (bz 4 (bu G6 (af 2) (ao (aV (bg (cB aA (bg (bu cc (af 2) (ao (aV aA) aG)))))) (ao (aV (cL (bg (bU (ao (aV aA) (ao (aV aA) aG)))) (bg (qO f_int E.z_int (aE (af 3) aW) (by decide +kernel))))) aG)))) (aB (bz 5 (bu yK (af 2) aG)) (aB (bz 6 (cg yF (ao (aV (af 4)) (ao (aV (af 5)) aG)))) (aM (dY (eG (aV (bg (JB (bg (bu G5 (af 2) (ao (aV (bg (eC (N':=["far","i","j"]) (eG (aV (af 6))) ⟨rfl,by walk_at "6",by walk_at "6",by walk_at "6",by walk_at "6",rfl,by walk_at "6"⟩ (gL (bA (aS 0 (hn:=by first|decide|exact of_decide_eq_true rfl)) (bA (aS 1 (hn:=by first|decide|exact of_decide_eq_true rfl)) (bA (aS 2 (hn:=by first|decide|exact of_decide_eq_true rfl)) eo)))) jj (aV (af 0))))) aG))) sG (sJ (cL (bg (bU (ao (aV aA) (ao (aV aA) aG)))) (bg (qO f_int E.z_int (aE (af 3) aW) (by decide +kernel))))))))) (aS 7 (hn:=by first|decide|exact of_decide_eq_true rfl)) (aM (fR (oi (kQ (bg (cg yG (ao (aV (af 4)) (ao (aV (af 5)) (ao (aV (af 6)) (ao (aV (af 7)) aG)))))))) (aM (b6 (lH sS))) dh))))))))) (aM (b6 (lH (fj iL (bg (cg vD (ao (aV (bg (bU aG))) (ao (aV uJ) (ao (aV aA) aG))))) (bg (bU aG)))))))
end
section
local macro_rules|`(tactic| walk_at "vx")=>`(tactic| ((try simp only[bj,a8,List.map_cons,List.map_nil,List.length_cons,List.length_nil,List.replicate_succ,List.replicate_zero,List.cons_append,List.nil_append,Nat.reduceAdd,Nat.reduceSub]);(try dsimp only[bW,Vc.Ke,pv,wy,d3,tj,jt,dE,Q0,qY,FI,qp,aZ,oX,Qx,Vo,iB,iC,av,ag,q0,bp,d9,eg,aY,cY,jd,fc,sA,sN,K4,Cd,Ax,bq,bV,eqT,neT,Hk,K7,QS,Qy,R8,isNone,QO,Kv,tm,iw,Ay,mX,k0,fZ,La,Lb,QY,wz,tN,bt,iI,Kg,c5,a9,dM,dR,BG,ky,kE,nQ,uw,o7,bE,mV,T8,dJ,wM,gC,wN,cF,lJ,Dg,b7,fq,dD,sg,gF,nR,Qe,Dv,o1,Ud,jQ,tU,Vc.NF,Vc.NI,Vc.Hm,Vc.Hn,su,a8,y0,qZ,d0,Kd,BW,sumF,KA,dG,Ci,lM,Ug,Ql,Ub,o4,du,qA,ur,List.contains,List.elem,Nat.reduceBEq,Option.map_some,NZ,Ua,Uc,Ki,Az,oH,J9,Ta,zh,Kc,BU,Cu,Aw,Eh,bj,n9,List.getElem?_cons_zero,List.getElem?_cons_succ,List.getElem?_nil,List.set_cons_zero,List.set_cons_succ,List.map_cons,List.map_nil,List.length_cons,List.length_nil,List.replicate_succ,List.replicate_zero,List.cons_append,List.nil_append,Nat.reduceAdd,Nat.reduceSub]);try simp only[List.append_nil,Nat.add_sub_cancel,Nat.zero_add,List.not_mem_nil,not_false_eq_true,true_and,and_true,decide_eq_true_eq,ite_true,ite_false,Bool.not_eq_true',decide_eq_false_iff_not,List.getElem?_cons_zero,List.getElem?_cons_succ]))
local macro_rules | `(tactic| symm) => `(tactic| walk_at "vx")
local macro_rules|`(tactic| walk_at "vc")=>`(tactic| repeat (refine And.intro (by first|assumption|decide|omega | (unfold eP;omega) | (unfold Q7;omega) | (unfold pA;omega)) ?_))
local macro_rules|`(tactic| walk_at "vg")=>`(tactic| simp only[dJ,wN,gC,wM,List.length_cons,List.length_nil,Nat.reduceAdd,Nat.zero_add,true_and,List.set_cons_zero,List.set_cons_succ,Int.zero_add])
local macro_rules|`(tactic| walk_at "vd")=>`(tactic| symm)
variable [KF]
def Ul(b:Bool):Str:=if b=true then "squares" else "streets"
def df(b:Bool):D:=.str (Ul b)
def dg(p:List Int):D:=.tup (p.map D.int)
def Bd(p:List Int):Prop:=p.length<=3/\∀x∈p,-(2^60)<x/\x<2^60
def lj(x:Int):Int:=if x<0 then -x else x
def stepI(b:Bool)(x y:Int):Int:=if b=true then lj (x-y)*lj (x-y)else lj (x-y)
def GB(b:Bool)(p q:List Int):Int:=((p.zip q).map λxy=>stepI b xy.1 xy.2).sum
def gx:cw:=λds Q=>∃b p q,ds=[df b,dg p,dg q]/\Bd p/\Bd q/\Q (.sh (.int (GB b p q)))
theorem o8(b:Bool):b8 8 (df b)=true:=by cases b<;>decide +kernel
theorem kI:b8 8 (.str "streets")=true:=by decide +kernel
theorem kH:b8 8 (.str "squares")=true:=by decide +kernel
theorem jw(b:Bool):jD (df b) (.str "streets")=!b:=by cases b<;>decide +kernel
theorem jv(b:Bool):jD (df b) (.str "squares")=b:=by cases b<;>decide +kernel
theorem sz:sizeLine=2^24:=rfl
theorem vd{p q:List Int}(h:Bd p):(p.zip q).length<=3:=by
 rw[List.length_zip];have:=h.1;omega
theorem tL{α:Type}(l:List α)(f:α->Int):(l.map λa=>D.int (f a)).all isInt=true:=by
 rw[List.all_map];exact List.all_eq_true.mpr λ_ _=>rfl
theorem qE{α:Type}(l:List α)(f:α->Int):(l.map λa=>D.int (f a)).map ki=l.map f:=by
 rw[List.map_map];rfl
theorem OO(ds:List D)(Q:B->Prop)(h:gx ds Q):Kn {nx:=λ_=>Q (.sh .bB),rt:=λb _=>Q b} (bj Ff.length ds):=by
 obtain⟨b,p,q,rfl,hp,hq,h⟩:=h;unfold Kn dg;symm;rw[rM];refine cS (λp=>.tup [.int p.1,.int p.2]) (λxy:Int×Int=>D.int (lj (xy.1-xy.2))) _ (λxy K3 A ha=>?_) (by have:=vd (q:=q) hp;rw[sz];omega) ?_
 ·symm
  exact ha
 ·symm
  rw[jw];refine⟨⟨o8 b,kI⟩,?_⟩;cases b with
  | false =>
   refine(if_pos rfl).mpr ?_;refine⟨tL _ _,?_⟩;rw[qE];exact h
  | true =>
   refine(if_neg ∅).mpr ?_
   rw[show(List.map (λxy:Int×Int=>D.int (lj (xy.1-xy.2))) (p.zip q))=(List.map (λxy:Int×Int=>(lj (xy.1-xy.2))) (p.zip q)).map D.int from by rw[List.map_map];rfl]
   refine cS D.int (λd:Int=>D.int (d*d)) _ (λd hd A ha=>?_) (by have:=vd (q:=q) hp;rw[sz,List.length_map];omega) ?_
   ·symm
    refine⟨?_,ha⟩;obtain⟨xy,K3,rfl⟩:=List.mem_map.mp hd;have h1:=hp.2 _ (List.of_mem_zip K3).1;have h2:=hq.2 _ (List.of_mem_zip K3).2;unfold eP lj;left
    split<;>omega
   ·symm
    refine⟨tL _ _,?_⟩;rw[qE,List.map_map];exact h
def Good(n:Nat)(pts:List (List Int)):Prop:=(1<=n/\n<=3)/\∀p∈pts,p.length=n/\∀x∈p,-(2^59)<x/\x<2^59
theorem Good.bd{n:Nat}{pts:List (List Int)}(g:Good n pts){p:List Int}(h:p∈pts):Bd p:=⟨by have:=(g.2 p h).1;have:=g.1.2;omega,λx hx=>by have:=(g.2 p h).2 x hx;omega⟩
theorem dX{n i a:Nat}(h:(List.range n)[i]?=some a):a=i/\i<n:=by
 have hi:i<n:=by
  have:=(List.getElem?_eq_some_iff.mp h).1
  rwa [List.length_range]at this
 rw[List.getElem?_range hi]at h;cases h;exact⟨rfl,hi⟩
def gu(pts:List (List Int)):D:=.lst (pts.map dg)
theorem gX{pts:List (List Int)}{j:Nat}(h:j<pts.length):(pts.map dg)[j]?=some (dg (pts.getD j [])):=by
 rw[List.getElem?_map,List.getD_eq_getElem?_getD,List.getElem?_eq_getElem h];rfl
theorem getD_mem{pts:List (List Int)}{j:Nat}(h:j<pts.length):pts.getD j []∈pts:=by
 rw[List.getD_eq_getElem?_getD,List.getElem?_eq_getElem h];exact List.getElem_mem h
theorem pM{α:Type}{xs:List α}{i:Nat}{q:Nat×α}(h:(xs.mapIdx λi x=>(i,x))[i]?=some q):q.1=i/\xs[i]?=some q.2:=by
 rw[List.getElem?_mapIdx]at h;cases e:xs[i]? with
 | none=>rw[e]at h;cases h
 | some x=>rw[e]at h;cases h;exact⟨rfl,rfl⟩
def Shape(n:Nat)(pts:List (List Int)):Prop:=(1<=n/\n<=3)/\∀p∈pts,p.length=n
theorem Good.shape{n:Nat}{pts:List (List Int)}(g:Good n pts):Shape n pts:=⟨g.1,λp hp=>(g.2 p hp).1⟩
def ja:cw:=λds Q=>∃c:Int,ds=[.int c]/\1<=c/\c<=3/\Q (.sh .bB)
theorem zt(ds:List D)(Q:B->Prop)(h:ja ds Q):AB {nx:=λ_=>Q (.sh .bB),rt:=λb _=>Q b} (bj wZ.length ds):=by
 obtain⟨c,rfl,h1,h2,h⟩:=h;unfold AB;symm;rw[if_neg ⋯,if_neg ⋯]
 exact h
def sX:cw:=λds Q=>∃(p:List Int) (c:Int),ds=[dg p,.int c]/\(p.length:Int)=c/\Q (.sh .bB)
theorem OQ(ds:List D)(Q:B->Prop)(h:sX ds Q):Kk {nx:=λ_=>Q (.sh .bB),rt:=λb _=>Q b} (bj Fb.length ds):=by
 obtain⟨p,c,rfl,rfl,h⟩:=h;unfold Kk dg;symm;rw[List.length_map];refine⟨⟨rfl,rfl⟩,?_⟩;have e:jD (.int (p.length:Nat)) (.int (p.length:Nat))=true:=by simp [jD]
 rw[if_neg (by rw[e];decide)]
 exact h
def oM:cw:=λds Q=>∃n pts,ds=[gu pts]/\Shape n pts/\Q (.sh .bB)
theorem IX(ds:List D)(Q:B->Prop)(h:oM ds Q):Kq ja sX {nx:=λ_=>Q (.sh .bB),rt:=λb _=>Q b} (bj Fh.length ds):=by
 obtain⟨n,pts,rfl,hg,h⟩:=h;unfold Kq gu;symm;refine cm dg pts (λi σ=>∃x,σ=[some (.sh (.lst (pts.map dg))),x]) (λi p σ N' hx hI lb=>?_) (λσ hI=>h) ⟨none,rfl⟩;obtain⟨x,rfl⟩:=hI;have hp:=hg.2 p (List.mem_of_getElem? hx);have h1:=hg.1;have h0:0<pts.length:=Nat.lt_of_le_of_lt (Nat.zero_le _) (List.getElem?_eq_some_iff.mp hx).1;have VM:=hg.2 _ (getD_mem h0);walk_at "vg";refine aw λN2 yC=>?_;rw[show dg p=.tup (p.map D.int)from rfl]
 symm;rw[List.length_map];refine⟨_,rfl,by omega,by omega,?_⟩
 symm;subst yC;symm;refine bf (n:=0) rfl (gX h0) ?_;rw[show dg (pts.getD 0 [])=.tup ((pts.getD 0 []).map D.int)from rfl]
 symm;rw[List.length_map];refine⟨p,_,rfl,by rw[hp,VM],?_⟩
 exact lb _ ⟨_,rfl⟩
def oN:cw:=λds Q=>∃b,ds=[df b]/\Q (.sh .bB)
theorem IY(ds:List D)(Q:B->Prop)(h:oN ds Q):AJ {nx:=λ_=>Q (.sh .bB),rt:=λb _=>Q b} (bj xg.length ds):=by
 obtain⟨b,rfl,h⟩:=h;unfold AJ;symm;refine⟨⟨o8 b,kI⟩,?_⟩;rw[jw];cases b with
 | false=>exact h
 | true =>
  refine(if_pos rfl).mpr ⟨⟨o8 true,kH⟩,?_⟩;rw[jv];exact h
def sY:cw:=λds Q=>∃n b pts,ds=[gu pts,df b]/\Shape n pts/\Q (.sh .bB)
theorem OT(ds:List D)(Q:B->Prop)(h:sY ds Q):Kl oM oN {nx:=λ_=>Q (.sh .bB),rt:=λb _=>Q b} (bj Fc.length ds):=by
 obtain⟨n,b,pts,rfl,hg,h⟩:=h;unfold Kl;symm;refine⟨n,pts,rfl,hg,?_⟩;symm;exact⟨b,rfl,h⟩
def vZ:Nat->D->Bool
 | _,.bB=>true
 | _,.int _=>true
 | n+1,.tup xs=>decide (xs.length<=1000000)&&xs.all (vZ n)
 | n+1,.lst xs=>decide (xs.length<=1000000)&&xs.all (vZ n)
 | _,_=>false
theorem gI(i:Int):jD (.int i) (.int i)=true:=by simp [jD]
theorem mx:∀p:List Int,jE (p.map D.int) (p.map D.int)=true
 | []=>rfl
 | x::p=>by
  show(jD (.int x) (.int x)&&jE (p.map D.int) (p.map D.int))=true;rw[gI,mx p];rfl
theorem pO:∀pts:List (List Int),jE (pts.map dg) (pts.map dg)=true
 | []=>rfl
 | p::pts=>by
  show(jE (p.map D.int) (p.map D.int)&&jE (pts.map dg) (pts.map dg))=true;rw[mx p,pO pts];rfl
theorem BV(pts:List (List Int)):jD (.lst (pts.map dg)) (.lst (pts.map dg))=true:=pO pts
theorem zo(pts:List (List Int)):b8 8 (.lst (pts.map dg))=true:=by
 show(pts.map dg).all (b8 7)=true;rw[List.all_map];refine List.all_eq_true.mpr λp _=>?_;show(p.map D.int).all (b8 6)=true;rw[List.all_map];exact List.all_eq_true.mpr λ_ _=>rfl
theorem CH(m:Nat)(i:Int):vZ m (.int i)=true:=by cases m<;>rfl
def pairD(b:Bool)(pts:List (List Int))(i j:Nat):D:=.tup [.int (GB b (pts.getD i []) (pts.getD j [])),.int i,.int j]
def gv(b:Bool)(pts:List (List Int))(i m:Nat):List D:=(List.range m).map λt=>pairD b pts i (i+1+t)
def fm(b:Bool)(pts:List (List Int)):Nat->List D
 | 0=>[]
 | i+1=>fm b pts i++gv b pts i (pts.length-(i+1))
def bG(b:Bool)(pts:List (List Int)):List D:=fm b pts pts.length
theorem qT(b:Bool)(pts:List (List Int))(i m:Nat):(gv b pts i m).length=m:=by unfold gv;rw[List.length_map,List.length_range]
theorem mQ(b:Bool)(pts:List (List Int))(i m:Nat):gv b pts i (m+1)=gv b pts i m++[pairD b pts i (i+1+m)]:=by unfold gv;rw[List.range_succ,List.map_append];rfl
theorem mR(b:Bool)(pts:List (List Int)):∀i,(fm b pts i).length<=i*pts.length
 | 0=>Nat.zero_le _
 | i+1=>by
  have ih:=mR b pts i;show(fm b pts i++gv b pts i (pts.length-(i+1))).length<=_;rw[List.length_append,qT,Nat.succ_mul];omega
theorem uN{b:Bool}{pts:List (List Int)}{i:Nat}(hl:pts.length<=1000)(hi:i<=pts.length):(fm b pts i).length<=1000000:=
 Nat.le_trans (mR b pts i) (Nat.mul_le_mul (show i<=1000 by omega) hl)
theorem kK{b:Bool}{pts:List (List Int)}(hl:pts.length<=1000):(bG b pts).length<=1000000:=uN hl (Nat.le_refl _)
theorem qV{b:Bool}{pts:List (List Int)}:∀ {i:Nat} {d:D},d∈fm b pts i->∃p q,p<i/\p<q/\(i<=pts.length->q<pts.length)/\d=pairD b pts p q
 | i+1,d,h=>by
  rcases List.mem_append.mp (show d∈fm b pts i++gv b pts i (pts.length-(i+1))from h)with h|h
  ·obtain⟨p,q,h1,h2,h3,h4⟩:=qV h
   exact⟨p,q,by omega,h2,λz=>h3 ⋯,h4⟩
  ·obtain⟨t,ht,rfl⟩:=List.mem_map.mp h
   have ht:=List.mem_range.mp ht;exact⟨i,i+1+t,by omega,by omega,λz=>by omega,rfl⟩
theorem dU{b:Bool}{pts:List (List Int)}{d:D}(h:d∈bG b pts):∃p q,p<q/\q<pts.length/\d=pairD b pts p q:=by
 obtain⟨p,q,h1,h2,h3,h4⟩:=qV h;exact⟨p,q,h2,h3 (Nat.le_refl _),h4⟩
theorem kJ(b:Bool)(pts:List (List Int)):(bG b pts).all iR=true:=List.all_eq_true.mpr λd hd=>by
 obtain⟨p,q,_,_,rfl⟩:=dU hd;rfl
def kU:cw:=λds Q=>∃b n pts,ds=[gu pts,df b]/\Good n pts/\pts.length<=1000/\Q (.own (bG b pts))
def o5(sp:cw)(rest:cn):cn:=(bW (dE [] 2 (iI tN)) (bW (b7 (lJ (a9 (aZ (dM dR (a9 (ag 0) c5))) c5)) (dJ 3) (b7 (Dg (a9 (aZ (aY cY (ag 3) (bp (.int 1)))) (a9 (aZ (dM dR (a9 (ag 0) c5))) c5))) (dJ 4) (tj (qY (ag 2) (av [] (Kg (bt (av [] (aZ (mV sp (bt (av [] (ag 1)) (bt (av [] (fZ (ag 0) (ag 3))) (bt (av [] (fZ (ag 0) (ag 4))) tN)))))) (bt (av [] (ag 3)) (bt (av [] (ag 4)) tN))))))))) rest))
theorem zu{b:Bool}{n:Nat}{pts:List (List Int)}{rest:cn}{De:fS}(hg:Good n pts)(hl:pts.length<=1000)(h:∀x3 x4,rest De [some (.sh (gu pts)),some (.sh (df b)),some (.own (bG b pts)),x3,x4]):
  o5 gx rest De [some (.sh (gu pts)),some (.sh (df b)),none,none,none]:=by
 unfold o5;refine aw λN hN=>?_;symm;refine⟨by decide,?_⟩
 subst hN;refine aw λN hN=>?_;rw[show gu pts=.lst (pts.map dg)from rfl]
 symm;rw[List.length_map,Int.toNat_natCast,cC];refine⟨by omega,cm (λi:Nat=>.int (0+(i:Nat))) (List.range pts.length) (λi σ=>∃x3 x4,σ=[some (.sh (.lst (pts.map dg))),some (.sh (df b)),some (.own (fm b pts i)),x3,x4]) (λi a σ N' hx hI lb=>?_) (λσ hI=>?_) ⟨none,none,rfl⟩⟩
 ·obtain⟨rfl,hi⟩:=dX hx
  obtain⟨x3,x4,rfl⟩:=hI;walk_at "vg";symm;rw[List.length_map,cC];refine⟨by omega,?_⟩
  rw[show((pts.length:Int)-((a:Int)+1)).toNat=pts.length-(a+1)by omega]
  refine cm (λt:Nat=>.int ((a:Int)+1+(t:Nat))) (List.range (pts.length-(a+1))) (λm σ=>∃x4,σ=[some (.sh (.lst (pts.map dg))),some (.sh (df b)),some (.own (fm b pts a++gv b pts a m)),some (.sh (.int a)),x4]) (λm t σ N2 lA Se yC=>?_) (λσ Se=>?_) ⟨x4,by rw[show gv b pts a 0=[]from rfl,List.append_nil]⟩
  ·obtain⟨rfl,ht⟩:=dX lA
   obtain⟨x4,rfl⟩:=Se;symm;have hj:a+1+t<pts.length:=by omega
   refine⟨⟨_,rfl⟩,?_⟩;refine bf (n:=a) rfl (gX hi) ?_;refine bf (n:=a+1+t) ⋯ (gX hj) ?_
   symm;refine⟨b,_,_,rfl,hg.bd (getD_mem hi),hg.bd (getD_mem hj),?_⟩;symm;have hz:=uN (b:=b) hl (show a<=pts.length by omega)
   refine⟨by decide,by rw[sz,List.length_append,qT];omega,yC _ ⟨some (.sh (.int ((a:Int)+1+(t:Int)))),?_⟩⟩
   rw[mQ,List.append_assoc];unfold pairD;rw[show((a+1+t:Nat):Int)=(a:Int)+1+(t:Int)by omega]
  ·obtain⟨x4,rfl⟩:=Se
   rw[List.length_range];exact lb _ ⟨some (.sh (.int a)),x4,rfl⟩
 ·obtain⟨x3,x4,rfl⟩:=hI
  subst hN;rw[List.length_range];exact h x3 x4
theorem CP(ds:List D)(Q:B->Prop)(h:kU ds Q):Qq gx {nx:=λ_=>Q (.sh .bB),rt:=λb _=>Q b} (bj Fd.length ds):=by
 obtain⟨b,n,pts,rfl,hg,hl,h⟩:=h;exact zu hg hl λx3 x4=>by symm;exact h
def dN(xs:List D):Prop:=∃c n:Int,xs=[.int c,.int n]
def fL:ji:=λxs ds Q=>dN xs/\∃m:Int,ds=[.int m]/\1<=m/\m<2^200/\∀r ys,0<=r->r<m->dN ys->Q (.sh (.int r)) ys
theorem IW(xs ds:List D)(Q:B->List D->Prop)(h:fL xs ds Q):AH {nx:=su Q (.sh .bB),rt:=λb σ=>su Q b σ} (a8 xc.length xs ds):=by
 obtain⟨⟨x,y,rfl⟩,m,rfl,hm,gj,h⟩:=h;unfold AH;refine aw λN hN=>?_;simp only[a8];symm;refine⟨⟨_,rfl⟩,?_⟩;subst hN;refine aw λN hN=>?_;symm;subst hN;refine aw λN hN=>?_;symm;refine⟨by unfold pA;decide,?_⟩
 split
 ·refine⟨by unfold tJ;omega,⟨_,rfl⟩,by omega,?_⟩
  exact h _ _ (Int.emod_nonneg _ ⋯) (Int.emod_lt_of_pos _ ⋯) ⟨_,_,rfl⟩
 ·subst hN
  symm;refine⟨by unfold eP;omega,by unfold eP;omega,by decide,by unfold eP;omega,by decide,by unfold eP;omega,by unfold eP;omega,by decide,by unfold tJ;decide,by omega,?_⟩
  exact h _ _ (Int.emod_nonneg _ ⋯) (Int.emod_lt_of_pos _ ⋯) ⟨_,_,rfl⟩
def oO:ji:=λxs ds Q=>dN xs/\ds=[]/\∀b ys,dN ys->Q (.sh (df b)) ys
theorem IZ(xs ds:List D)(Q:B->List D->Prop)(h:oO xs ds Q):AO fL {nx:=su Q (.sh .bB),rt:=λb σ=>su Q b σ} (a8 xi.length xs ds):=by
 obtain⟨r0,rfl,h⟩:=h;unfold AO;simp only[a8];symm;refine⟨by decide,⟨_,rfl⟩,r0,2,rfl,by decide,by decide,λr ys h0 h1 r1=>?_⟩
 symm;refine cf h0 (by simp only[List.length_cons,List.length_nil];omega) λd hd=>?_
 simp only[List.mem_cons,List.not_mem_nil,or_false]at hd;rcases hd with rfl|rfl
 ·exact h false ys r1
 ·exact h true ys r1
def Bk(v:Int):Prop:=-(10^15)<=v/\v<=10^15
def gA:ji:=λxs ds Q=>dN xs/\∃n m:Nat,ds=[.int n,.int m]/\1<=n/\n<=3/\m<=150/\∀pts ys,Good n pts->(∀p∈pts,∀v∈p,Bk v)->pts.length<=m->dN ys->Q (.own (pts.map dg)) ys
theorem Ap{α:Type}(l:List α)(a b:α):(l++[a]).set l.length b=l++[b]:=by
 induction l with
 | nil=>rfl
 | cons x l ih=>simp
theorem wc(xs ds:List D)(Q:B->List D->Prop)(h:gA xs ds Q):Ks fL {nx:=su Q (.sh .bB),rt:=λb σ=>su Q b σ} (a8 Fl.length xs ds):=by
 obtain⟨r0,n,m,rfl,En,Nm,hm,h⟩:=h;unfold Ks
 -- many
 refine aw λN hN=>?_;simp only[a8];symm;refine⟨⟨_,rfl⟩,by decide,⟨_,rfl⟩,r0,3,rfl,by decide,by decide,λa1 x1 Qu Ux r1=>?_⟩
 symm;refine cf Qu (by simp only[List.length_cons,List.length_nil];omega) λd hd=>?_
 obtain⟨top,rfl,X2,X3⟩:∃v:Int,d=.int v/\1<=v/\v<=m+1:=by
  simp only[List.mem_cons,List.not_mem_nil,or_false]at hd;rcases hd with rfl|rfl|rfl
  ·exact⟨_,rfl,by split<;>omega,by split<;>omega⟩
  ·exact⟨_,rfl,by split<;>omega,by split<;>omega⟩
  ·exact⟨_,rfl,by omega,by omega⟩
 symm;refine⟨r1,_,rfl,by omega,by omega,λa2 x2 Uy Uz r2=>?_⟩
 obtain⟨many,XX,rfl⟩:∃v:Nat,v<=m/\a2=(v:Int):=⟨a2.toNat,by omega,by omega⟩
 symm;subst hN
 -- kind
 refine aw λN hN=>?_;symm;refine⟨⟨_,rfl⟩,r2,6,rfl,by decide,by decide,λkind x3 X6 X7 r3=>?_⟩
 symm;subst hN;refine aw λN hN=>?_;symm;refine⟨by decide,?_⟩
 subst hN
 -- the loop
 refine aw λN hN=>?_;show b7 _ _ _ _ _;generalize ht:bW (dE [0] 7 _) _=tb;symm;rw[Int.toNat_natCast,cC];refine⟨by omega,cm (λi:Nat=>.int (0+(i:Nat))) (List.range many) (λi σ=>∃x pts a b c d e,σ=[some (.own x),some (.sh (.int n)),some (.sh (.int m)),some (.sh (.int many)),some (.sh (.int kind)),some (.own (pts.map dg)),a,b,c,d,e]/\dN x/\pts.length=i/\Good n pts/\∀p∈pts,∀v∈p,Bk v) (λi place σ N' hx hI lb=>?_) (λσ hI=>?_) ⟨x3,[],none,none,none,none,none,rfl,r3,rfl,⟨⟨En,Nm⟩,λp hp=>by cases hp⟩,λp hp=>by cases hp⟩⟩
 ·obtain⟨rfl,hi⟩:=dX hx
  obtain⟨x,pts,a,b,c,d,e,rfl,rx,hl,hg,hf⟩:=hI;walk_at "vg";subst ht;refine aw λN1 kc=>?_;symm;refine⟨by decide,?_⟩
  subst kc;refine aw λN1 kc=>?_;show b7 _ _ _ _ _;generalize ht:bW (dE [0] 9 _) _=tb;symm;rw[Int.toNat_natCast,cC];refine⟨by omega,cm (λi:Nat=>.int (0+(i:Nat))) (List.range n) (λi σ=>∃x p c d e,σ=[some (.own x),some (.sh (.int n)),some (.sh (.int m)),some (.sh (.int many)),some (.sh (.int kind)),some (.own (pts.map dg)),some (.sh (.int (place:Nat))),some (.own (p.map D.int)),c,d,e]/\dN x/\p.length=i/\∀v∈p,Bk v) (λj kk σ N2 lA hI yC=>?_) (λσ hI=>?_) ⟨x,[],_,_,_,rfl,rx,rfl,λv hv=>by cases hv⟩⟩
  ·obtain⟨rfl,hj⟩:=dX lA
   obtain⟨x,p,c,d,e,rfl,rx,dQ,Nq⟩:=hI;walk_at "vg";subst ht;refine aw λN3 GY=>?_;symm;refine⟨⟨_,rfl⟩,rx,4,rfl,by decide,by decide,λb1 y1 XA XB QW=>?_⟩
   symm;refine⟨⟨_,rfl⟩,QW,41,rfl,by decide,by decide,λb2 y2 XC XD Pt=>?_⟩
   symm;refine⟨by unfold eP;omega,by unfold pA;decide,⟨_,rfl⟩,Pt,3,rfl,by decide,by decide,λb3 y3 XE XF T1=>?_⟩
   symm;refine⟨by decide,?_⟩
   subst GY;refine aw λN3 GY=>?_;symm;refine⟨⟨_,rfl⟩,⟨_,rfl⟩,by unfold pA;decide,by unfold eP;decide,T1,_,rfl,by decide,by decide,λb4 y4 XG VD Xd=>?_⟩
   symm;refine⟨by unfold pA;decide,by decide,?_⟩
   subst GY;refine aw λN3 GY=>?_;symm;refine⟨by decide,⟨_,rfl⟩,Xd,2,rfl,by decide,by decide,λb5 y5 XH XI Vq=>?_⟩
   symm;have VE:b4<2*10^15-1:=VD;have UL:∀d∈[D.int b1,D.int (b2-20),D.int ((place:Int)*((kk:Int)+1)),D.int ((10:Int)^Int.toNat 15-1-b3),D.int (b4-(10:Int)^Int.toNat 15+1)],∃v,d=.int v/\Bk v:=by
    intro d hd;have hmul:0<=(place:Int)*((kk:Int)+1)/\(place:Int)*((kk:Int)+1)<=150*3:=⟨Int.mul_nonneg ⋯ ⋯,Int.mul_le_mul ⋯ ⋯ ⋯ ⋯⟩
    have RD:(10:Int)^Int.toNat 15=10^15:=rfl;rw[RD]at hd;simp only[List.mem_cons,List.not_mem_nil,or_false]at hd;unfold Bk;rcases hd with rfl|rfl|rfl|rfl|rfl
    all_goals exact⟨_,rfl,by omega,by omega⟩
   refine⟨⟨rfl,rfl⟩,by unfold eP;omega,?_⟩
   refine cf (by split<;>omega) (by simp only[List.length_cons,List.length_nil];split<;>omega) λd hd=>?_
   obtain⟨tu,rfl,Wz⟩:∃v:Int,d=.int v/\(v=1\/v=-1):=by
    simp only[List.mem_cons,List.not_mem_nil,or_false]at hd;rcases hd with rfl|rfl
    ·exact⟨_,rfl,.inl rfl⟩
    ·exact⟨_,rfl,.inr rfl⟩
   subst GY;symm;refine⟨⟨_,rfl⟩,?_⟩;refine cf (by split<;>omega) (by simp only[List.length_cons,List.length_nil];split<;>omega) λd hd=>?_
   obtain⟨v,rfl,hv⟩:=UL d hd;symm;refine⟨by unfold eP;omega,by rw[List.length_map,sz];omega,yC _ ⟨y5,p++[tu*v],_,_,_,by rw[List.map_append];rfl,Vq,by simp [dQ],λw hw=>?_⟩⟩
   rcases List.mem_append.mp hw with hw|hw
   ·exact Nq w hw
   ·rw[List.mem_singleton.mp hw]
    unfold Bk at hv ⊢;rcases Wz with rfl|rfl<;>omega
  ·obtain⟨x,p,c,d,e,rfl,rx,dQ,Nq⟩:=hI
   rw[List.length_range]at dQ;subst kc;have good:∀q:List Int,q.length=n->(∀v∈q,Bk v)->Good n (pts++[q])/\∀p∈pts++[q],∀v∈p,Bk v:=λq hq hv=>⟨⟨hg.1,λp hp=>by
    rcases List.mem_append.mp hp with hp|hp
    ·exact hg.2 p hp
    ·rw[List.mem_singleton.mp hp]
     exact⟨hq,λv WC=>by have:=hv v WC;unfold Bk at this;omega⟩⟩,λp hp=>by
    rcases List.mem_append.mp hp with hp|hp
    ·exact hf p hp
    ·rw[List.mem_singleton.mp hp];exact hv⟩
   have e1:pts.map dg++[D.tup (p.map D.int)]=(pts++[p]).map dg:=by rw[List.map_append];rfl
   dsimp only;refine aw λN1 kc=>?_;symm;refine⟨⟨_,rfl⟩,by rw[List.length_map,sz];omega,?_⟩
   rw[e1];subst kc;symm;have done:∀(x:List D) (q:List Int) (e1 e2 e3 e4 e5:Option B),dN x->q.length=n->(∀v∈q,Bk v)->N' [some (.own x),some (.sh (.int n)),some (.sh (.int m)),some (.sh (.int many)),some (.sh (.int kind)),some (.own ((pts++[q]).map dg)),e1,e2,e3,e4,e5]:=λx q e1 e2 e3 e4 e5 rx hq hv =>
    lb _ ⟨x,pts++[q],e1,e2,e3,e4,e5,rfl,rx,by simp [hl],(good q hq hv).1,(good q hq hv).2⟩
   refine⟨⟨rfl,rfl⟩,?_⟩
   split
   ·split
    ·rename_i Nr
     have Nr:(0:Int)<place:=by simpa using Nr
     refine⟨⟨_,rfl⟩,rx,2,rfl,by decide,by decide,λr1 y1 _ _ QW=>?_⟩
     symm;refine⟨⟨rfl,rfl⟩,?_⟩
     split
     ·refine⟨⟨_,rfl⟩,QW,_,rfl,by omega,by omega,λr2 y2 c0 c1 Pt=>?_⟩
      symm;have hj:r2.toNat<pts.length:=by omega
      refine bf (n:=r2.toNat) ⋯ (by rw[List.map_append,List.getElem?_append_left (by rw[List.length_map];exact hj)];exact gX hj) ?_
      refine⟨⟨_,rfl⟩,?_⟩;rw[List.length_map,qv (by simp),List.length_append,List.length_singleton,Nat.add_sub_cancel,List.map_append]
      dsimp only;rw[<- List.length_map (f:=dg) (as:=pts),show List.map dg [p]=[dg p]from rfl,Ap]
      have:=done y2 (pts.getD r2.toNat []) (some (.sh (.int (place:Nat)))) (some (.own (p.map D.int))) c d e Pt (hg.2 _ (getD_mem hj)).1 (hf _ (getD_mem hj));rw[List.map_append]at this;exact this
     ·exact done y1 p _ _ _ _ _ QW dQ Nq
    ·exact done x p _ _ _ _ _ rx dQ Nq
   ·exact done x p _ _ _ _ _ rx dQ Nq
 ·obtain⟨x,pts,a,b,c,d,e,rfl,rx,hl,hg,hf⟩:=hI
  subst hN;rw[List.length_range]at hl;symm;exact⟨by decide,h pts x hg hf ⋯ rx⟩
theorem IU(ds:List D)(Q:B->Prop)(h:gx ds Q):AK {nx:=λ_=>Q (.sh .bB),rt:=λb _=>Q b} (bj xh.length ds):=by
 obtain⟨b,p,q,rfl,hp,hq,h⟩:=h;unfold AK dg;symm;rw[rM];refine cm (λp=>.tup [.int p.1,.int p.2]) (p.zip q) (λi σ=>∃x y z,σ=[some (.sh (df b)),some (.sh (dg p)),some (.sh (dg q)),some (.sh (.int ((((p.zip q).take i).map λxy:Int×Int=>stepI b xy.1 xy.2).sum))),x,y,z]) (λi xy σ N K3 hI hN=>?_) (λσ hI=>?_) ⟨none,none,none,rfl⟩
 ·obtain⟨x,y,z,rfl⟩:=hI
  have hm:=List.mem_of_getElem? K3;have h1:=hp.2 _ (List.of_mem_zip hm).1;have h2:=hq.2 _ (List.of_mem_zip hm).2;symm;rw[jv];refine⟨?_,by decide,⟨o8 b,kH⟩,?_⟩
  ·unfold eP;split<;>omega
  ·have e:(if xy.2-xy.1>xy.1-xy.2 then xy.2-xy.1 else xy.1-xy.2)=lj (xy.1-xy.2):=by unfold lj;split<;>split<;>omega
   rw[e];have hs:((((p.zip q).take (i+1)).map λxy:Int×Int=>stepI b xy.1 xy.2).sum)=(((p.zip q).take i).map λxy:Int×Int=>stepI b xy.1 xy.2).sum+stepI b xy.1 xy.2:=by
    rw[List.take_add_one,K3];simp
   cases b with
   | false =>
    refine bf (n:=0) rfl rfl ?_;symm;exact hN _ ⟨_,_,_,by rw[hs];rfl⟩
   | true =>
    refine bf (n:=1) rfl rfl ?_;symm;exact hN _ ⟨_,_,_,by rw[hs];rfl⟩
 ·obtain⟨x,y,z,rfl⟩:=hI
  symm;rw[List.take_length];exact h
def eE:Nat->cw
 | 0=>λ_ _=>False
 | n+1=>λds Q=>∃x,ds=[x,x]/\vZ n x=true/\Q (.sh (.bl true))
theorem nL{α β:Type}:∀l:List α,l.filterMap (λ_=>(none:Option β))=[]
 | []=>rfl
 | _::l=>by rw[List.filterMap_cons_none rfl,nL l]
theorem CI{n:Nat}{xs:List D}(h:vZ (n+1) (.lst xs)=true):xs.length<=1000000/\∀x∈xs,vZ n x=true:=by
 have h':(decide (xs.length<=1000000)&&xs.all (vZ n))=true:=h;rw[Bool.and_eq_true]at h';exact⟨of_decide_eq_true h'.1,List.all_eq_true.mp h'.2⟩
theorem CJ{n:Nat}{xs:List D}(h:vZ (n+1) (.tup xs)=true):xs.length<=1000000/\∀x∈xs,vZ n x=true:=by
 have h':(decide (xs.length<=1000000)&&xs.all (vZ n))=true:=h;rw[Bool.and_eq_true]at h';exact⟨of_decide_eq_true h'.1,List.all_eq_true.mp h'.2⟩
theorem sI(n:Nat)(ds:List D)(Q:B->Prop)(h:eE (n+1) ds Q):AI (eE n) {nx:=λ_=>Q (.sh .bB),rt:=λb _=>Q b} (bj xf.length ds):=by
 obtain⟨x,rfl,ok,h⟩:=h;unfold AI;cases x with
 | bB=>symm;exact h
 | int i =>
  symm;have e:jD (.int i) (.int i)=true:=gI i;have e2:jD (.bl false) (.bl false)=true:=rfl;refine(if_neg ∅).mpr ((if_neg ∅).mpr ((if_pos ∅).mpr ?_))
  refine⟨⟨rfl,rfl⟩,?_⟩;refine(if_pos ∅).mpr ⟨⟨rfl,rfl⟩,?_⟩
  rw[e];exact h
 | tup xs =>
  cases n with
  | zero=>cases ok
  | succ n =>
   obtain⟨hl,ha⟩:=CJ ok;symm;refine(if_neg ∅).mpr ((if_pos ∅).mpr ⟨⟨rfl,rfl⟩,(if_neg ∅).mpr ((if_neg ∅).mpr ⟨⟨rfl,rfl⟩,(if_neg (by rw[gI];decide)).mpr ?_⟩)⟩)
   rw[Int.toNat_natCast,cC];refine⟨by omega,eV (λi:Nat=>.int (0+(i:Nat))) (λ_=>none) (List.range xs.length) (λi hi A Bn hB=>?_) (by rw[sz,List.length_range];omega) ?_⟩
   ·have hi:=List.mem_range.mp hi
    symm;refine mF (n:=i) ⋯ (List.getElem?_eq_getElem hi) ?_
    refine mF (n:=i) ⋯ (List.getElem?_eq_getElem hi) ?_
    symm;exact⟨_,rfl,ha _ (List.getElem_mem hi),hB⟩
   ·rw[nL]
    exact⟨Nat.zero_le _,⟨rfl,rfl⟩,h⟩
 | lst xs =>
  cases n with
  | zero=>cases ok
  | succ n =>
   obtain⟨hl,ha⟩:=CI ok;symm;refine(if_neg ∅).mpr ((if_pos ∅).mpr ⟨⟨rfl,rfl⟩,(if_neg ∅).mpr ((if_neg ∅).mpr ⟨⟨rfl,rfl⟩,(if_neg (by rw[gI];decide)).mpr ?_⟩)⟩)
   rw[Int.toNat_natCast,cC];refine⟨by omega,eV (λi:Nat=>.int (0+(i:Nat))) (λ_=>none) (List.range xs.length) (λi hi A Bn hB=>?_) (by rw[sz,List.length_range];omega) ?_⟩
   ·have hi:=List.mem_range.mp hi
    symm;refine bf (n:=i) ⋯ (List.getElem?_eq_getElem hi) ?_
    refine bf (n:=i) ⋯ (List.getElem?_eq_getElem hi) ?_
    symm;exact⟨_,rfl,ha _ (List.getElem_mem hi),hB⟩
   ·rw[nL]
    exact⟨Nat.zero_le _,⟨rfl,rfl⟩,h⟩
 | str _=>cases n<;>cases ok
 | bl _=>cases n<;>cases ok
 | dct _=>cases n<;>cases ok
 | exc _=>cases n<;>cases ok
 | gw _=>cases n<;>cases ok
 | jC _=>cases n<;>cases ok
 | kp _ _ _ _=>cases n<;>cases ok
def BM(b:Bool)(pts:List (List Int))(j:Nat):List D:=(List.range j).map λi=>pairD b pts i j
def gH(b:Bool)(pts:List (List Int)):Nat->List D
 | 0=>[]
 | j+1=>gH b pts j++BM b pts j
theorem jZ(b:Bool)(pts:List (List Int)):∀j,(gH b pts j).length<=j*j
 | 0=>Nat.zero_le _
 | j+1=>by
  have ih:=jZ b pts j;show(gH b pts j++BM b pts j).length<=_;rw[List.length_append,BM,List.length_map,List.length_range,Nat.succ_mul,Nat.mul_succ];omega
def hE(b:Bool)(pts:List (List Int))(n:Nat):Nat->List D
 | 0=>[]
 | i+1=>hE b pts n i++gv b pts i (n-(i+1))
theorem qU(b:Bool)(pts:List (List Int)):∀i,hE b pts pts.length i=fm b pts i
 | 0=>rfl
 | i+1=>by show hE b pts pts.length i++_=fm b pts i++_;rw[qU b pts i]
theorem O0{α:Type}(A C R X:List α):((A++C)++(R++X)).Perm ((A++R)++(C++X)):=by
 rw[List.append_assoc,List.append_assoc];refine List.Perm.append_left A ?_;rw[<- List.append_assoc,<- List.append_assoc];exact List.Perm.append_right X List.perm_append_comm
theorem mS(b:Bool)(pts:List (List Int))(n:Nat):∀i,i<=n->(hE b pts (n+1) i).Perm (hE b pts n i++(List.range i).map λt=>pairD b pts t n)
 | 0,_=>List.Perm.refl _
 | i+1,h=>by
  have ih:=mS b pts n i ⋯
  show(hE b pts (n+1) i++gv b pts i (n+1-(i+1))).Perm ((hE b pts n i++gv b pts i (n-(i+1)))++(List.range (i+1)).map λt=>pairD b pts t n);rw[show n+1-(i+1)=n-(i+1)+1 by omega,mQ,show i+1+(n-(i+1))=n by omega,List.range_succ,List.map_append]
  exact(List.Perm.append_right _ ih).trans (O0 _ _ _ _)
theorem mn(b:Bool)(pts:List (List Int)):∀n,(gH b pts n).Perm (hE b pts n n)
 | 0=>List.Perm.refl _
 | n+1=>by
  have ih:=mn b pts n;show(gH b pts n++BM b pts n).Perm (hE b pts (n+1) n++gv b pts n (n+1-(n+1)));rw[Nat.sub_self,show gv b pts n 0=[]from rfl,List.append_nil]
  exact(List.Perm.append_right _ ih).trans (mS b pts n n (Nat.le_refl _)).symm
theorem gb(b:Bool)(pts:List (List Int)):(gH b pts pts.length).Perm (bG b pts):=by
 have:=mn b pts pts.length
 rwa [qU]at this
theorem wq(b:Bool)(pts:List (List Int)):cZ (gH b pts pts.length)=cZ (bG b pts):=
 qW (kJ b pts) ((cU _).trans (gb b pts)) (iq _)
theorem vt(b:Bool)(pts:List (List Int)):(gH b pts pts.length).all iR=true:=List.all_eq_true.mpr λd hd =>
 List.all_eq_true.mp (kJ b pts) d ((gb b pts).mem_iff.mp hd)
def i7:cw:=λds Q=>∃b n pts,ds=[gu pts,df b]/\Good n pts/\pts.length<=1000/\Q (.own (cZ (bG b pts)))
theorem zq(ds:List D)(Q:B->Prop)(h:i7 ds Q):AF gx {nx:=λ_=>Q (.sh .bB),rt:=λb _=>Q b} (bj w8.length ds):=by
 obtain⟨b,n,pts,rfl,hg,hl,h⟩:=h;unfold AF;refine aw λN hN=>?_;symm;refine⟨by decide,?_⟩
 subst hN;refine aw λN hN=>?_;rw[show gu pts=.lst (pts.map dg)from rfl]
 symm;rw[mw];refine cm (λq:Nat×List Int=>.tup [.int (q.1:Nat),dg q.2]) _ (λi σ=>∃x3 x4,σ=[some (.sh (.lst (pts.map dg))),some (.sh (df b)),some (.own (gH b pts i)),x3,x4]) (λi q σ N' hx hI lb=>?_) (λσ hI=>?_) ⟨none,none,rfl⟩
 ·obtain⟨x3,x4,rfl⟩:=hI
  obtain⟨e1,e2⟩:=pM hx;obtain⟨j,r⟩:=q;cases e1;have e2:pts[j]?=some r:=e2;have hj:j<pts.length:=(List.getElem?_eq_some_iff.mp e2).1;have hr:r=pts.getD j []:=by rw[List.getD_eq_getElem?_getD,e2];rfl
  walk_at "vg";symm;rw[Int.toNat_natCast,cC];refine⟨⟨_,rfl⟩,by omega,cS (λi:Nat=>.int (0+(i:Nat))) (λi=>pairD b pts i j) _ (λi hi A ha=>?_) (by rw[List.length_range,sz];omega) ?_⟩
  ·have hi:=List.mem_range.mp hi
   symm;rw[Int.zero_add];refine bf (n:=i) rfl (gX ⋯) ?_
   symm;refine⟨b,_,r,rfl,hg.bd (getD_mem ⋯),hg.bd (List.mem_of_getElem? e2),?_⟩
   symm;refine⟨by decide,?_⟩
   unfold pairD at ha;rw[<- hr]at ha;exact ha
  ·have hz:=jZ b pts j
   have QM:j*j<=1000*1000:=Nat.mul_le_mul ⋯ ⋯
   refine⟨by rw[List.length_map,List.length_range,sz];omega,lb _ ⟨some (.sh (.int (j:Nat))),some (.sh (dg r)),rfl⟩⟩
 ·obtain⟨x3,x4,rfl⟩:=hI
  subst hN;rw[List.length_mapIdx];symm;refine⟨vt b pts,?_⟩;rw[wq];exact h
def k7(t:Int×Nat×Nat):D:=.tup [.int t.1,.int (t.2.1:Nat),.int (t.2.2:Nat)]
theorem E2{b:Bool}{pts:List (List Int)}:∀l:List D,(∀d∈l,∃i j,d=pairD b pts i j)->∃ts:List (Int×Nat×Nat),l=ts.map k7
 | [],_=>⟨[],rfl⟩
 | d::l,h=>by
  obtain⟨i,j,rfl⟩:=h d (List.mem_cons_self ..);obtain⟨ts,e⟩:=E2 l λx hx=>h x (List.mem_cons_of_mem _ hx);exact⟨(_,i,j)::ts,by rw[e];rfl⟩
theorem zv(b:Bool)(pts:List (List Int)):∃ts:List (Int×Nat×Nat),bG b pts=ts.map k7:=E2 (b:=b) (pts:=pts) _ λd hd=>by
 obtain⟨p,q,_,_,h⟩:=dU hd;exact⟨p,q,h⟩
def nearF(bound:Int):D->Option D
 | .tup [.int f,.int i,.int j]=>if f<=bound then some (.tup [.int i,.int j])else none
 | _=>none
theorem gU(bound:Int)(t:Int×Nat×Nat):nearF bound (k7 t)=if decide (t.1<=bound)=true then some (.tup [.int (t.2.1:Nat),.int (t.2.2:Nat)])else none:=by
 show(if t.1<=bound then _ else _)=_
 by_cases h:t.1<=bound
 ·rw[if_pos h,if_pos (decide_eq_true h)]
 ·rw[if_neg h,if_neg (by rw[decide_eq_false h];decide)]
def uy(b:Bool)(pts:List (List Int))(bound:Int):List D:=(bG b pts).filterMap (nearF bound)
def i9:cw:=λds Q=>∃j:Int,ds=[.int j]/\0<=j/\Q (.sh .bB)
theorem zr(ds:List D)(Q:B->Prop)(h:i9 ds Q):AA {nx:=λ_=>Q (.sh .bB),rt:=λb _=>Q b} (bj wY.length ds):=by
 obtain⟨j,rfl,hj,h⟩:=h;unfold AA;symm;rw[if_neg ⋯]
 exact h
def oK:cw:=λds Q=>∃b n pts j,ds=[gu pts,df b,.int j]/\Good n pts/\pts.length<=1000/\0<=j/\Q (.own (uy b pts j))
theorem IV(ds:List D)(Q:B->Prop)(h:oK ds Q):Kt sY i9 kU {nx:=λ_=>Q (.sh .bB),rt:=λb _=>Q b} (bj Fm.length ds):=by
 obtain⟨b,n,pts,j,rfl,hg,hl,hj,h⟩:=h;unfold Kt;refine aw λN hN=>?_;symm;refine⟨n,b,pts,rfl,hg.shape,?_⟩;symm;subst hN;refine aw λN hN=>?_;symm;refine⟨j,rfl,hj,?_⟩;symm;subst hN;symm;refine⟨b,n,pts,rfl,hg,hl,?_⟩;symm;have hz:=kK (b:=b) hl;obtain⟨ts,e⟩:=zv b pts;unfold uy at h;rw[e]at h hz ⊢;rw[List.length_map]at hz;refine eV k7 (λt=>nearF j (k7 t)) ts (λt ht A Bn ha=>?_) (by rw[sz];omega) ?_
 ·rw[gU]at ha
  unfold k7;symm
  by_cases hb:t.1<=j
  ·rw[if_pos (decide_eq_true hb)]at ha
   refine(if_pos hb).mpr ⟨by decide,ha⟩
  ·rw[if_neg (by rw[decide_eq_false hb];decide)]at ha
   exact(if_neg hb).mpr ha
 ·rw[List.filterMap_map]at h
  exact h
theorem Au:∀l:List Int,(∀x∈l,0<=x)->0<=l.sum
 | [],_=>by simp
 | x::l,h=>by
  rw[List.sum_cons];have:=Au l λy hy=>h y (List.mem_cons_of_mem _ hy);have:=h x (List.mem_cons_self ..);omega
theorem GC(b:Bool)(p q:List Int):0<=GB b p q:=Au _ λx hx=>by
 obtain⟨xy,_,rfl⟩:=List.mem_map.mp hx;unfold stepI lj
 split
 ·exact Int.mul_nonneg (by split<;>omega) (by split<;>omega)
 ·split<;>omega
def nV(a b:Int):Int:=if b<a then b else a
def gN(a b:Int):Int:=if b>a then b else a
def cP(ls:List Int)(i j:Nat):List Int:=ls.map λx=>if x=gN (ls.getD i 0) (ls.getD j 0)then nV (ls.getD i 0) (ls.getD j 0)else x
theorem fE{ls:List Int}{j:Nat}(h:j<ls.length):(ls.map D.int)[j]?=some (.int (ls.getD j 0)):=by
 rw[List.getElem?_map,List.getD_eq_getElem?_getD,List.getElem?_eq_getElem h];rfl
theorem pN(a b:Int):jD (.int a) (.int b)=decide (a=b):=by
 unfold jD
 by_cases h:a=b
 ·simp [h]
 ·simp [h]
def fo:cw:=λds Q=>∃(ls:List Int) (i j:Nat),ds=[.lst (ls.map D.int),.int i,.int j]/\i<ls.length/\j<ls.length/\ls.length<=1000/\Q (.own ((cP ls i j).map D.int))
theorem OU(ds:List D)(Q:B->Prop)(h:fo ds Q):AQ {nx:=λ_=>Q (.sh .bB),rt:=λb _=>Q b} (bj xj.length ds):=by
 obtain⟨ls,i,j,rfl,hi,hj,hl,h⟩:=h;unfold AQ;refine aw λN hN=>?_;symm;refine bf (n:=i) rfl (fE hi) ?_;refine bf (n:=j) rfl (fE hj) ?_;symm;subst hN;refine aw λN hN=>?_;symm;refine bf (n:=i) rfl (fE hi) ?_;refine bf (n:=j) rfl (fE hj) ?_;symm;subst hN;symm;refine cS D.int (λx:Int=>D.int (if x=gN (ls.getD i 0) (ls.getD j 0)then nV (ls.getD i 0) (ls.getD j 0)else x)) ls (λx hx A ha=>?_) (by rw[sz];omega) ?_
 ·symm
  refine⟨⟨rfl,rfl⟩,?_⟩;rw[pN];unfold gN nV at ha
  by_cases e:x=if ls.getD j 0>ls.getD i 0 then ls.getD j 0 else ls.getD i 0
  ·rw[if_pos e]at ha
   exact(if_pos (decide_eq_true e)).mpr ha
  ·rw[if_neg e]at ha
   exact(if_neg (by rw[decide_eq_false e];decide)).mpr ha
 ·unfold cP at h
  rw[List.map_map]at h;exact h
abbrev Tr:=Int×Nat×Nat
def aK(s:List Int×List Tr)(t:Tr):List Int×List Tr:=if s.1.getD t.2.1 0=s.1.getD t.2.2 0 then s else(cP s.1 t.2.1 t.2.2,s.2++[t])
def cj(n:Nat):List Int:=(List.range n).map λi:Nat=>(i:Int)
def aJ(n:Nat)(ts:List Tr):List Int×List Tr:=ts.foldl aK (cj n,[])
theorem fold_succ{n:Nat}{ts:List Tr}{i:Nat}{t:Tr}(h:ts[i]?=some t):aJ n (ts.take (i+1))=aK (aJ n (ts.take i)) t:=by
 unfold aJ;rw[List.take_add_one,h,Option.toList_some,List.foldl_append];rfl
theorem yv(n:Nat):∀ts:List Tr,(aJ n ts).1.length=n/\(aJ n ts).2.length<=ts.length/\∀t∈(aJ n ts).2,t∈ts:=by
 have key:∀(ts:List Tr) (s:List Int×List Tr),s.1.length=n->(ts.foldl aK s).1.length=n/\(ts.foldl aK s).2.length<=s.2.length+ts.length/\∀t∈(ts.foldl aK s).2,t∈s.2\/t∈ts:=by
  intro ts
  induction ts with
  | nil=>intro s h;exact⟨h,by simp,λt ht=>.inl ht⟩
  | cons t ts ih =>
   intro s h;have h1:(aK s t).1.length=n/\(aK s t).2.length<=s.2.length+1/\∀u∈(aK s t).2,u∈s.2\/u=t:=by
    unfold aK
    split
    ·exact⟨h,by omega,λu hu=>.inl hu⟩
    ·refine⟨by unfold cP;rw[List.length_map];exact h,by simp,λu hu=>?_⟩
     rcases List.mem_append.mp hu with hu|hu
     ·exact .inl hu
     ·exact .inr (List.mem_singleton.mp hu)
   obtain⟨i1,i2,i3⟩:=ih (aK s t) h1.1;refine⟨i1,?_,λu hu=>?_⟩
   ·rw[List.foldl_cons,List.length_cons]
    have:=h1.2.1;omega
   ·rw[List.foldl_cons]at hu
    rcases i3 u hu with hu|hu
    ·rcases h1.2.2 u hu with hu|rfl
     ·exact .inl hu
     ·exact .inr (List.mem_cons_self ..)
    ·exact .inr (List.mem_cons_of_mem _ hu)
 intro ts;have:=key ts (cj n,[]) (by unfold cj;rw[List.length_map,List.length_range])
 refine⟨this.1,Nat.le_trans this.2.1 (by simp),λt ht=>?_⟩
 rcases this.2.2 t ht with h|h
 ·cases h
 ·exact h
theorem Ai(n:Nat):lK 0 n=(cj n).map D.int:=by
 unfold cj;rw[cC,List.map_map];refine List.map_congr_left λi _=>?_;show D.int (0+(i:Int))=D.int (i:Int);rw[Int.zero_add]
theorem gQ{ls:List Int}{i j x:Nat}(hx:x<ls.length):(cP ls i j).getD x 0=if ls.getD x 0=gN (ls.getD i 0) (ls.getD j 0)then nV (ls.getD i 0) (ls.getD j 0)else ls.getD x 0:=by
 unfold cP;rw[List.getD_eq_getElem?_getD,List.getElem?_map,List.getD_eq_getElem?_getD (l:=ls) (i:=x),List.getElem?_eq_getElem hx];rfl
def Bl(ls:List Int):Prop:=∀x,x<ls.length->∃r:Nat,ls.getD x 0=(r:Int)/\r<=x/\ls.getD r 0=(r:Int)
def dB(ls:List Int):Nat:=(List.range ls.length).countP λx=>decide (ls.getD x 0=(x:Int))
theorem j4(P:Nat->Bool)(h:Nat):∀n,(List.range n).countP P=(List.range n).countP (λx=>P x&&!decide (x=h))+if h<n/\P h=true then 1 else 0
 | 0=>by simp
 | n+1=>by
  rw[List.range_succ,List.countP_append,List.countP_append,j4 P h n,List.countP_singleton,List.countP_singleton]
  by_cases e:n=h
  ·subst e
   rw[if_neg (show¬(n<n/\P n=true)by omega),decide_eq_true rfl,Bool.not_true,Bool.and_false,if_neg (show¬false=true by decide)]
   by_cases hp:P n=true
   ·rw[if_pos hp,if_pos ⟨Nat.lt_succ_self _,hp⟩]
   ·rw[if_neg hp,if_neg (λz=>hp z.2)]
  ·rw[decide_eq_false e,Bool.not_false,Bool.and_true]
   by_cases hc:h<n/\P h=true
   ·rw[if_pos hc,if_pos (show h<n+1/\P h=true from⟨by omega,hc.2⟩)];omega
   ·rw[if_neg hc,if_neg (show¬(h<n+1/\P h=true) fromλz=>hc ⟨by omega,z.2⟩)];omega
theorem zc{ls:List Int}{i j:Nat}(L:Bl ls)(hi:i<ls.length)(hj:j<ls.length)(ck:ls.getD i 0≠ls.getD j 0):Bl (cP ls i j)/\dB (cP ls i j)+1=dB ls:=by
 obtain⟨a,ea,ha,ra⟩:=L i hi;obtain⟨c,ec,hc,rc⟩:=L j hj;obtain⟨lo,hh,e1,e2,iG,rO,V4,rl,rh⟩:∃lo hh:Nat,nV (ls.getD i 0) (ls.getD j 0)=(lo:Int)/\gN (ls.getD i 0) (ls.getD j 0)=(hh:Int)/\lo<hh/\lo<ls.length/\hh<ls.length/\ls.getD lo 0=(lo:Int)/\ls.getD hh 0=(hh:Int):=by
  rw[ea,ec]at ck ⊢;unfold nV gN
  by_cases h:c<a
  ·exact⟨c,a,by rw[if_pos ⋯],by rw[if_neg ⋯],h,by omega,by omega,rc,ra⟩
  ·exact⟨a,c,by rw[if_neg ⋯],by rw[if_pos ⋯],by omega,by omega,by omega,ra,rc⟩
 have len:(cP ls i j).length=ls.length:=by unfold cP;rw[List.length_map]
 have get:∀x,x<ls.length->(cP ls i j).getD x 0=if ls.getD x 0=(hh:Int)then(lo:Int)else ls.getD x 0:=λx hx=>by rw[gQ hx,e1,e2]
 refine⟨λx hx=>?_,?_⟩
 ·rw[len]at hx
  obtain⟨r,er,hr,rr⟩:=L x hx;rw[get x hx,er]
  by_cases e:(r:Int)=(hh:Int)
  ·refine⟨lo,if_pos e,by omega,?_⟩
   rw[get lo rO,rl,if_neg ⋯]
  ·refine⟨r,if_neg e,hr,?_⟩
   rw[get r ⋯,rr,if_neg e]
 ·unfold dB
  rw[len,j4 (λx=>decide (ls.getD x 0=(x:Int))) hh ls.length,if_pos ⟨V4,decide_eq_true rh⟩];congr 1;refine List.countP_congr λx hx=>?_;have hx:=List.mem_range.mp hx;rw[get x hx]
  by_cases e:ls.getD x 0=(hh:Int)
  ·rw[if_pos e,e]
   by_cases z:x=hh
   ·subst z
    simp;omega
   ·simp [z]
    constructor
    ·intro y
     have:x=lo:=by omega
     rw[this,rl]at e;omega
    ·intro y;omega
  ·rw[if_neg e]
   by_cases z:x=hh
   ·rw[z,rh]at e;exact absurd rfl e
   ·simp [z]
theorem mM(n:Nat):Bl (cj n)/\dB (cj n)=n/\(cj n).length=n:=by
 have len:(cj n).length=n:=by unfold cj;rw[List.length_map,List.length_range]
 have get:∀x,x<n->(cj n).getD x 0=(x:Int):=λx hx=>by
  unfold cj;rw[List.getD_eq_getElem?_getD,List.getElem?_map,List.getElem?_range hx];rfl
 refine⟨λx hx=>?_,?_,len⟩
 ·rw[len]at hx
  exact⟨x,get x hx,Nat.le_refl _,get x hx⟩
 ·unfold dB
  rw[len,List.countP_eq_length.mpr λx hx=>decide_eq_true (get x (List.mem_range.mp hx)),List.length_range]
theorem gJ(n:Nat)(ts:List Tr)(ht:∀t∈ts,t.2.1<n/\t.2.2<n):Bl (aJ n ts).1/\(aJ n ts).1.length=n/\(aJ n ts).2.length+dB (aJ n ts).1=n/\∀t∈ts,(aJ n ts).1.getD t.2.1 0=(aJ n ts).1.getD t.2.2 0:=by
 have key:∀(us:List Tr) (s:List Int×List Tr) (old:List Tr),(∀t∈us,t.2.1<n/\t.2.2<n)->(∀t∈old,t.2.1<n/\t.2.2<n)->Bl s.1->s.1.length=n->s.2.length+dB s.1=n->(∀t∈old,s.1.getD t.2.1 0=s.1.getD t.2.2 0) ->
   Bl (us.foldl aK s).1/\(us.foldl aK s).1.length=n/\(us.foldl aK s).2.length+dB (us.foldl aK s).1=n/\∀t,t∈old\/t∈us->(us.foldl aK s).1.getD t.2.1 0=(us.foldl aK s).1.getD t.2.2 0:=by
  intro us
  induction us with
  | nil=>intro s old _ _ L l c h;exact⟨L,l,c,λt ht=>ht.elim (h t) λz=>by cases z⟩
  | cons u us ih =>
   intro s old hu ho L l c h;have K2:=hu u (.head _);have Br:∀t∈old++[u],t.2.1<n/\t.2.2<n:=λt ht=>(List.mem_append.mp ht).elim (ho t) λz=>by rw[List.mem_singleton.mp z];exact K2
   rw[List.foldl_cons];have go:Bl (aK s u).1/\(aK s u).1.length=n/\(aK s u).2.length+dB (aK s u).1=n/\∀t∈old++[u],(aK s u).1.getD t.2.1 0=(aK s u).1.getD t.2.2 0:=by
    unfold aK
    split
    ·rename_i e
     refine⟨L,l,c,λt ht=>?_⟩;rcases List.mem_append.mp ht with ht|ht
     ·exact h t ht
     ·rw[List.mem_singleton.mp ht];exact e
    ·rename_i e
     obtain⟨L',r'⟩:=zc L (by rw[l];exact K2.1) (by rw[l];exact K2.2) e
     refine⟨L',by unfold cP;rw[List.length_map];exact l,?_,λt ht=>?_⟩
     ·show(s.2++[u]).length+dB (cP s.1 u.2.1 u.2.2)=n
      rw[List.length_append,List.length_singleton];omega
     ·show(cP s.1 u.2.1 u.2.2).getD t.2.1 0=(cP s.1 u.2.1 u.2.2).getD t.2.2 0
      have hb:=Br t ht;rw[gQ (by rw[l];exact hb.1),gQ (by rw[l];exact hb.2)]
      rcases List.mem_append.mp ht with ht|ht
      ·rw[h t ht]
      ·rw[List.mem_singleton.mp ht]
       unfold gN nV;generalize s.1.getD u.2.1 0=A at e ⊢;generalize s.1.getD u.2.2 0=C at e ⊢
       repeat' split
       all_goals omega
   obtain⟨g1,g2,g3,g4⟩:=go;obtain⟨i1,i2,i3,i4⟩:=ih (aK s u) (old++[u]) (λt ht=>hu t (.tail _ ht)) Br g1 g2 g3 g4;refine⟨i1,i2,i3,λt ht=>i4 t ?_⟩;rcases ht with ht|ht
   ·exact .inl (List.mem_append_left _ ht)
   ·rcases List.mem_cons.mp ht with rfl|ht
    ·exact .inl (List.mem_append_right _ (List.mem_singleton.mpr rfl))
    ·exact .inr ht
 obtain⟨r1,r2,r3⟩:=mM n;obtain⟨k1,k2,k3,k4⟩:=key ts (cj n,[]) [] ht (λt ht=>by cases ht) r1 r3 (by show 0+dB (cj n)=n;omega) λt ht=>by cases ht
 exact⟨k1,k2,k3,λt ht=>k4 t (.inr ht)⟩
theorem mB(n:Nat)(g:Nat->Int)(ts:List Tr)(ht:∀t∈ts,t.2.1<n/\t.2.2<n)(hg:∀t∈ts,g t.2.1=g t.2.2):∀x,x<n->g x=g ((aJ n ts).1.getD x 0).toNat:=by
 have key:∀(us:List Tr) (s:List Int×List Tr),(∀t∈us,t.2.1<n/\t.2.2<n)->(∀t∈us,g t.2.1=g t.2.2)->s.1.length=n->(∀x,x<n->g x=g (s.1.getD x 0).toNat)->∀x,x<n->g x=g ((us.foldl aK s).1.getD x 0).toNat:=by
  intro us
  induction us with
  | nil=>intro s _ _ _ h;exact h
  | cons u us ih =>
   intro s hu UN l h;rw[List.foldl_cons];have K2:=hu u (.head _);have e:=UN u (.head _);refine ih (aK s u) (λt ht=>hu t (.tail _ ht)) (λt ht=>UN t (.tail _ ht)) ?_ ?_
   ·unfold aK
    split
    ·exact l
    ·show(cP s.1 u.2.1 u.2.2).length=n
     unfold cP;rw[List.length_map];exact l
   ·intro x hx
    unfold aK
    split
    ·exact h x hx
    ·show g x=g ((cP s.1 u.2.1 u.2.2).getD x 0).toNat
     rw[gQ (by rw[l];exact hx)]
     have h1:=h u.2.1 K2.1;have h2:=h u.2.2 K2.2;have h3:=h x hx;have both:g (gN (s.1.getD u.2.1 0) (s.1.getD u.2.2 0)).toNat=g (nV (s.1.getD u.2.1 0) (s.1.getD u.2.2 0)).toNat:=by
      unfold gN nV
      by_cases q:s.1.getD u.2.2 0>s.1.getD u.2.1 0
      ·rw[if_pos q,if_neg ⋯,<- h1,<- h2,e]
      ·rw[if_neg q]
       by_cases q2:s.1.getD u.2.2 0<s.1.getD u.2.1 0
       ·rw[if_pos q2,<- h1,<- h2,e]
       ·rw[if_neg q2]
     split
     ·rename_i q
      rw[h3,q,both]
     ·exact h3
 exact key ts (cj n,[]) ht hg (mM n).2.2 λx hx=>by
  show g x=g ((cj n).getD x 0).toNat;unfold cj;rw[List.getD_eq_getElem?_getD,List.getElem?_map,List.getElem?_range hx];rfl
theorem se{n:Nat}{ts us:List Tr}(h1:∀t∈ts,t.2.1<n/\t.2.2<n)(h2:∀t∈us,t.2.1<n/\t.2.2<n)(e:∀i j,(∃f,(f,i,j)∈ts) ↔ ∃f,(f,i,j)∈us):(aJ n ts).1=(aJ n us).1:=by
 obtain⟨L1,l1,_,a1⟩:=gJ n ts h1;obtain⟨L2,l2,_,a2⟩:=gJ n us h2;have le:∀(ts us:List Tr) (h1:∀t∈ts,t.2.1<n/\t.2.2<n) (L1:Bl (aJ n ts).1) (l1:(aJ n ts).1.length=n) (L2:Bl (aJ n us).1) (l2:(aJ n us).1.length=n) (a2:∀t∈us,(aJ n us).1.getD t.2.1 0=(aJ n us).1.getD t.2.2 0) (e:∀i j,(∃f,(f,i,j)∈ts)->∃f,(f,i,j)∈us),∀x,x<n->(aJ n us).1.getD x 0<=(aJ n ts).1.getD x 0:=by
  intro ts us h1 L1 l1 L2 l2 a2 e x hx;obtain⟨r,er,hr,_⟩:=L1 x (by rw[l1];exact hx)
  have:=mB n (λy=>(aJ n us).1.getD y 0) ts h1 (λt ht=>by
   obtain⟨f,hf⟩:=e t.2.1 t.2.2 ⟨t.1,ht⟩;exact a2 (f,t.2.1,t.2.2) hf) x hx
  rw[er,Int.toNat_natCast]at this;rw[this,er];obtain⟨r2,VI,XZ,_⟩:=L2 r (by rw[l2];omega)
  rw[VI];omega
 apply List.ext_getElem
 ·rw[l1,l2]
 ·intro x S5 lA
  have hx:x<n:=by rw[l1]at S5;exact S5
  have p:=le ts us h1 L1 l1 L2 l2 a2 (λi j=>(e i j).mp) x hx;have q:=le us ts h2 L2 l2 L1 l1 a1 (λi j=>(e i j).mpr) x hx;rw[List.getD_eq_getElem?_getD,List.getD_eq_getElem?_getD,List.getElem?_eq_getElem S5,List.getElem?_eq_getElem lA]at p q;exact Int.le_antisymm q p
def Dx:D->Tr
 | .tup [.int f,.int i,.int j]=>(f,i.toNat,j.toNat)
 | _=>(0,0,0)
def A0(b:Bool)(pts:List (List Int)):List Tr:=(cZ (bG b pts)).map Dx
def E3(b:Bool)(pts:List (List Int)):List Tr:=(bG b pts).map Dx
theorem m5(b:Bool)(pts:List (List Int))(i j:Nat):k7 (Dx (pairD b pts i j))=pairD b pts i j:=by
 show D.tup [.int _,.int ((((i:Int)).toNat:Nat):Int),.int ((((j:Int)).toNat:Nat):Int)]=_;rw[Int.toNat_natCast,Int.toNat_natCast];rfl
theorem o6(b:Bool)(pts:List (List Int)):cZ (bG b pts)=(A0 b pts).map k7:=by
 unfold A0;rw[List.map_map]
 conv=>lhs;rw[<- List.map_id (cZ (bG b pts))]
 refine List.map_congr_left λd hd=>?_;obtain⟨p,q,_,_,rfl⟩:=dU ((cU _).mem_iff.mp hd);exact(m5 b pts p q).symm
theorem Ky(b:Bool)(pts:List (List Int)):bG b pts=(E3 b pts).map k7:=by
 unfold E3;rw[List.map_map]
 conv=>lhs;rw[<- List.map_id (bG b pts)]
 refine List.map_congr_left λd hd=>?_;obtain⟨p,q,_,_,rfl⟩:=dU hd;exact(m5 b pts p q).symm
theorem u9(b:Bool)(pts:List (List Int)):(A0 b pts).Perm (E3 b pts):=(cU (bG b pts)).map Dx
theorem tF{b:Bool}{pts:List (List Int)}:∀t∈E3 b pts,t.2.1<t.2.2/\t.2.2<pts.length/\0<=t.1:=λt ht=>by
 obtain⟨d,hd,rfl⟩:=List.mem_map.mp ht;obtain⟨p,q,h1,h2,rfl⟩:=dU hd;exact⟨h1,h2,GC b _ _⟩
theorem tG{b:Bool}{pts:List (List Int)}:∀t∈A0 b pts,t.2.1<t.2.2/\t.2.2<pts.length/\0<=t.1:=λt ht=>tF t ((u9 b pts).mem_iff.mp ht)
def dw(b:Bool)(pts:List (List Int))(c:Int):List Tr:=(A0 b pts).filter λt=>decide (t.1<=c)
def vP(b:Bool)(pts:List (List Int))(c:Int):List Int:=(aJ pts.length (dw b pts c)).1
theorem jM{b:Bool}{pts:List (List Int)}{c:Int}:∀t∈dw b pts c,t.2.1<pts.length/\t.2.2<pts.length:=λt ht=>by
 have:=tG t (List.mem_filter.mp ht).1;omega
theorem qy(b:Bool)(pts:List (List Int))(c:Int):Bl (vP b pts c)/\(vP b pts c).length=pts.length:=by
 obtain⟨h1,h2,_,_⟩:=gJ pts.length (dw b pts c) jM;exact⟨h1,h2⟩
theorem qz(b:Bool)(pts:List (List Int))(c:Int):(aJ pts.length ((E3 b pts).filter λt=>decide (t.1<=c))).1=vP b pts c:=by
 refine se (λt ht=>by have:=tF t (List.mem_filter.mp ht).1;omega) jM λi j=>?_
 have hp:=((u9 b pts).filter λt=>decide (t.1<=c));exact⟨λ⟨f,h⟩=>⟨f,hp.mem_iff.mpr h⟩,λ⟨f,h⟩=>⟨f,hp.mem_iff.mp h⟩⟩
def pick(f:Nat->Int)(n:Nat)(r:Nat):List D:=((List.range n).filter λk=>decide (f k=(r:Int))).map λk:Nat=>D.int (k:Int)
def fA(f:Nat->Int)(m:Nat):List (Int×List D):=(List.range m).filterMap λr=>if f r=(r:Int)then some ((r:Int),pick f m r)else none
def cQ(f:Nat->Int)(n:Nat):List D:=(List.range n).filterMap λr=>if f r=(r:Int)then some (D.lst (pick f n r))else none
def xl(vs:List (Int×List D))(k:Int)(d:D):List (Int×List D):=if(vs.any λt=>decide (t.1=k))=true then vs.map (λt=>if t.1=k then(t.1,t.2++[d])else t)else vs++[(k,[d])]
def vw(ts:Bw):List (Int×List D):=ts.map λt=>(t.1,t.2.2)
theorem KH(ts:Bw)(k:Int)(p:Addr)(d:D):vw (eU ts k p d)=xl (vw ts) k d:=by
 unfold eU xl vw;rw[List.any_map];have e:((λt:Int×List D=>decide (t.1=k)) ∘ λt:Int×Addr×List D=>(t.1,t.2.2))=λt=>decide (t.1=k):=rfl;rw[e]
 split
 ·rw[List.map_map,List.map_map]
  refine List.map_congr_left λt _=>?_;show((if t.1=k then(t.1,t.2.1,t.2.2++[d])else t).1,(if t.1=k then(t.1,t.2.1,t.2.2++[d])else t).2.2)=if t.1=k then(t.1,t.2.2++[d])else(t.1,t.2.2)
  split<;>rfl
 ·rw[List.map_append];rfl
theorem iY(f:Nat->Int)(m r:Nat):pick f (m+1) r=pick f m r++if f m=(r:Int)then [D.int (m:Int)]else []:=by
 unfold pick;rw[List.range_succ,List.filter_append,List.map_append];congr 1
 by_cases h:f m=(r:Int)
 ·rw[if_pos h,List.filter_cons_of_pos (by simpa using h)];rfl
 ·rw[if_neg h,List.filter_cons_of_neg (by simpa using h)];rfl
theorem eh{α β:Type}{f g:α->Option β}:∀ {l:List α},(∀x∈l,f x=g x)->l.filterMap f=l.filterMap g
 | [],_=>rfl
 | x::l,h=>by
  rw[List.filterMap_cons,List.filterMap_cons,h x (.head _),eh λy hy=>h y (.tail _ hy)]
theorem wD{f:Nat->Int}{m:Nat}(hf:∀x,x<=m->∃r:Nat,f x=(r:Int)/\r<=x/\f r=(r:Int)):xl (fA f m) (f m) (.int (m:Int))=fA f (m+1):=by
 obtain⟨r0,e0,h0,e1⟩:=hf m (Nat.le_refl _);have rhs:fA f (m+1)=((List.range m).filterMap λr=>if f r=(r:Int)then some ((r:Int),pick f (m+1) r)else none)++if f m=(m:Int)then [((m:Int),pick f (m+1) m)]else []:=by
  unfold fA;rw[List.range_succ,List.filterMap_append];congr 1
  by_cases h:f m=(m:Int)
  ·rw[if_pos h];simp [h]
  ·rw[if_neg h];simp [h]
 rw[rhs]
 by_cases h:r0=m
 ·subst h
  rw[if_pos e0];have Rv:((fA f r0).any λt=>decide (t.1=f r0))=false:=List.any_eq_false.mpr λt ht=>by
   obtain⟨r,hr,e⟩:=List.mem_filterMap.mp ht;have hr:=List.mem_range.mp hr
   split at e
   ·cases e
    rw[e0];simp;omega
   ·cases e
  unfold xl;rw[if_neg (by rw[Rv];decide)]
  congr 1
  ·unfold fA
   refine eh λr hr=>?_;have hr:=List.mem_range.mp hr;have hp:pick f (r0+1) r=pick f r0 r:=by rw[iY,if_neg (by rw[e0];omega),List.append_nil]
   rw[hp]
  ·rw[iY,if_pos e0,e0]
   have:pick f r0 r0=[]:=by
    unfold pick;rw[List.map_eq_nil_iff,List.filter_eq_nil_iff];intro k hk;have hk:=List.mem_range.mp hk;obtain⟨r,er,hr,_⟩:=hf k ⋯
    rw[er];simp;omega
   rw[this];rfl
 ·rw[if_neg (by rw[e0];omega),List.append_nil]
  have Rw:((fA f m).any λt=>decide (t.1=f m))=true:=List.any_eq_true.mpr ⟨((r0:Int),pick f m r0),List.mem_filterMap.mpr ⟨r0,List.mem_range.mpr ⋯,by rw[if_pos e1]⟩,by rw[e0];simp⟩
  unfold xl;rw[if_pos Rw];unfold fA;rw[List.map_filterMap];refine eh λr hr=>?_
  by_cases q:f r=(r:Int)
  ·rw[if_pos q,if_pos q,Option.map_some,iY,e0]
   by_cases z:(r:Int)=(r0:Int)
   ·rw[if_pos z,if_pos z.symm]
   ·rw[if_neg z,if_neg (λy=>z y.symm),List.append_nil]
  ·rw[if_neg q,if_neg q];rfl
theorem wj(f:Nat->Int)(n:Nat):(fA f n).map (λv=>D.lst v.2)=cQ f n:=by
 unfold fA cQ;rw[List.map_filterMap];refine eh λr _=>?_
 split<;>rfl
def fQ(b:Bool)(pts:List (List Int))(c:Int)(x:Nat):Int:=(vP b pts c).getD x 0
theorem um{b:Bool}{pts:List (List Int)}{c:Int}:∀x,x<pts.length->∃r:Nat,fQ b pts c x=(r:Int)/\r<=x/\fQ b pts c r=(r:Int):=λx hx=>by
 obtain⟨L,l⟩:=qy b pts c;exact L x (by rw[l];exact hx)
def sO(t:Tr):D:=.tup [.int (t.2.1:Nat),.int (t.2.2:Nat)]
theorem CD(b:Bool)(pts:List (List Int))(c:Int):uy b pts c=((E3 b pts).filter λt=>decide (t.1<=c)).map sO:=by
 unfold uy;rw[Ky b pts,List.filterMap_map];have:∀l:List Tr,l.filterMap (nearF c ∘ k7)=(l.filter λt=>decide (t.1<=c)).map sO:=by
  intro l
  induction l with
  | nil=>rfl
  | cons t l ih =>
   have e:(nearF c ∘ k7) t=if decide (t.1<=c)=true then some (sO t)else none:=gU c t
   by_cases h:t.1<=c
   ·rw[List.filterMap_cons_some (by rw[e,if_pos (decide_eq_true h)]),ih,List.filter_cons_of_pos (by simpa using h)];rfl
   ·rw[List.filterMap_cons_none (by rw[e,if_neg (by rw[decide_eq_false h];decide)]),ih,List.filter_cons_of_neg (by simpa using h)]
 exact this _
theorem BH(ts:Bw)(k:Int)(p:Addr)(d:D)(m:Nat)(h1:ts.length<=m)(h2:∀t∈ts,t.2.2.length<=m):(eU ts k p d).length<=m+1/\∀t∈eU ts k p d,t.2.2.length<=m+1:=by
 unfold eU
 split
 ·refine⟨by rw[List.length_map];omega,λt ht=>?_⟩
  obtain⟨u,hu,rfl⟩:=List.mem_map.mp ht;have:=h2 u hu
  split
  ·show(u.2.2++[d]).length<=m+1
   rw[List.length_append,List.length_singleton];omega
  ·omega
 ·refine⟨by rw[List.length_append,List.length_singleton];omega,λt ht=>?_⟩
  rcases List.mem_append.mp ht with ht|ht
  ·have:=h2 t ht;omega
  ·rw[List.mem_singleton.mp ht];exact Nat.succ_le_succ (Nat.zero_le _)
def cK(x:Nat):D:=.int (x:Nat)
def jW(es:List Tr)(x:Nat):List Nat:=es.flatMap λt=>(if t.2.1=x then [t.2.2]else [])++if t.2.2=x then [t.2.1]else []
theorem xm(es:List Tr)(t:Tr)(x:Nat):jW (es++[t]) x=jW es x++((if t.2.1=x then [t.2.2]else [])++if t.2.2=x then [t.2.1]else []):=by
 unfold jW;rw[List.flatMap_append];congr 1;exact List.append_nil _
theorem nj{es:List Tr}{x y:Nat}:y∈jW es x ↔ ∃t∈es,(t.2.1=x/\t.2.2=y)\/(t.2.2=x/\t.2.1=y):=by
 unfold jW;rw[List.mem_flatMap];constructor
 ·rintro⟨t,ht,h⟩
  refine⟨t,ht,?_⟩;rcases List.mem_append.mp h with h|h
  ·split at h
   ·rename_i e;exact .inl ⟨e,(List.mem_singleton.mp h).symm⟩
   ·cases h
  ·split at h
   ·rename_i e;exact .inr ⟨e,(List.mem_singleton.mp h).symm⟩
   ·cases h
 ·rintro⟨t,ht,h⟩
  refine⟨t,ht,List.mem_append.mpr ?_⟩;rcases h with⟨e1,e2⟩|⟨e1,e2⟩
  ·left;rw[if_pos e1];exact List.mem_singleton.mpr e2.symm
  ·right;rw[if_pos e1];exact List.mem_singleton.mpr e2.symm
theorem ni(x:Nat):∀es:List Tr,(jW es x).length<=2*es.length
 | []=>Nat.zero_le _
 | t::es=>by
  have ih:=ni x es;have e:jW (t::es) x=((if t.2.1=x then [t.2.2]else [])++if t.2.2=x then [t.2.1]else [])++jW es x:=rfl
  rw[e,List.length_append,List.length_append,List.length_cons];have h1:(if t.2.1=x then [t.2.2]else []).length<=1:=by split<;>simp
  have h2:(if t.2.2=x then [t.2.1]else []).length<=1:=by split<;>simp
  omega
theorem BI{n:Nat}{es:List Tr}{t:Tr}(h1:t.2.1<t.2.2)(h2:t.2.2<n):
  (((List.range n).map λx=>(jW es x).map cK).set t.2.1 ((jW es t.2.1).map cK++[cK t.2.2])).set t.2.2 ((jW es t.2.2).map cK++[cK t.2.1])=(List.range n).map λx=>(jW (es++[t]) x).map cK:=by
 refine List.ext_getElem? λx=>?_
 by_cases hx:x<n
 ·have g:∀F:Nat->List D,((List.range n).map F)[x]?=some (F x):=λF=>by rw[List.getElem?_map,List.getElem?_range hx];rfl
  rw[g,xm,List.map_append]
  by_cases e2:t.2.2=x
  ·subst e2
   rw[List.getElem?_set_self (by rw[List.length_set,List.length_map,List.length_range];exact hx),if_neg ⋯,if_pos rfl];rfl
  ·rw[List.getElem?_set_ne e2]
   by_cases e1:t.2.1=x
   ·subst e1
    rw[List.getElem?_set_self (by rw[List.length_map,List.length_range];exact hx),if_pos rfl,if_neg e2];rfl
   ·rw[List.getElem?_set_ne e1,g,if_neg e1,if_neg e2]
    show _=some ((jW es x).map cK++[]);rw[List.append_nil]
 ·rw[List.getElem?_eq_none (by simp;omega),List.getElem?_eq_none (by simp;omega)]
structure E8(n:Nat)(es:List Tr)(dm:Nat->Int):Prop where
 ok:∀x,x<n->∃r:Nat,dm x=(r:Int)/\r<=x/\dm r=(r:Int)
 MH:∀t∈es,dm t.2.1=dm t.2.2
 con:∀g:Nat->Int,(∀t∈es,g t.2.1=g t.2.2)->∀x,x<n->g x=g (dm x).toNat
theorem we{n:Nat}{es:List Tr}{dm:Nat->Int}(L:E8 n es dm){k:Nat}{P:List Nat}(hd:P.Nodup)(hP:∀p∈P,p<n/\dm p=(k:Int))(hk:k∈P)(hc:∀p∈P,∀y∈jW es p,y∈P):P.Perm ((List.range n).filter λx=>decide (dm x=(k:Int))):=by
 refine(List.perm_ext_iff_of_nodup hd (List.nodup_range.filter _)).mpr λx=>?_;rw[List.mem_filter,List.mem_range,decide_eq_true_eq];refine⟨hP x,λ⟨hx,hl⟩=>?_⟩;have:=L.con (λy=>if y∈P then 1 else 0) (λt ht=>by
  show(if t.2.1∈P then(1:Int)else 0)=if t.2.2∈P then 1 else 0
  by_cases h1:t.2.1∈P
  ·rw[if_pos h1,if_pos (hc _ h1 _ (nj.mpr ⟨t,ht,.inl ⟨rfl,rfl⟩⟩))]
  ·rw[if_neg h1,if_neg λh2=>h1 (hc _ h2 _ (nj.mpr ⟨t,ht,.inr ⟨rfl,rfl⟩⟩))]) x hx
 rw[hl,Int.toNat_natCast]at this;have this:(if x∈P then(1:Int)else 0)=if k∈P then 1 else 0:=this
 rw[if_pos hk]at this
 by_cases h:x∈P
 ·exact h
 ·rw[if_neg h]at this;omega
theorem wg{n:Nat}{dm:Nat->Int}{k:Nat}{P:List Nat}(h:P.Perm ((List.range n).filter λx=>decide (dm x=(k:Int)))):(mU (P.map λx:Nat=>(x:Int))).map D.int=pick dm n k:=by
 have e:((List.range n).filter λx=>decide (dm x=(k:Int))).map (λx:Nat=>(x:Int))=mU (P.map λx:Nat=>(x:Int)):=by
  refine qX (h.symm.map _) ?_;rw[List.pairwise_map];exact(List.pairwise_lt_range.filter _).imp λh=>by omega
 rw[<- e];unfold pick;rw[List.map_map];rfl
theorem qu(K:List Nat)(x:Nat):(lC (K.map λy:Nat=>((y:Int),D.bl true)) (x:Int)).isSome=decide (x∈K):=by
 unfold lC
 induction K with
 | nil=>rfl
 | cons y K ih =>
  rw[List.map_cons,List.find?_cons]
  by_cases e:y=x
  ·subst e
   simp
  ·have:decide (((y:Int),D.bl true).1=(x:Int))=false:=decide_eq_false (by show¬(y:Int)=x;omega)
   rw[this];show(Option.map _ (List.find? _ _)).isSome=_;rw[ih];simp [Ne.symm e]
theorem yZ{K:List Nat}{x:Nat}(h:x∉K):vJ (K.map λy:Nat=>((y:Int),D.bl true)) (x:Int) (.bl true)=(K++[x]).map λy:Nat=>((y:Int),D.bl true):=by
 unfold vJ;rw[List.map_append];have:((K.map λy:Nat=>((y:Int),D.bl true)).any λkv=>decide (kv.1=(x:Int)))=false:=by
  rw[List.any_map];exact List.any_eq_false.mpr λy hy=>by
   show¬decide ((y:Int)=(x:Int))=true;rw[decide_eq_true_eq];intro z;have:y=x:=by omega
   exact h (this ▸ hy)
 rw[this,if_neg ∅];rfl
theorem qJ(l:List Nat):(l.map cK).all isInt=true/\(l.map cK).map ki=l.map λx:Nat=>(x:Int):=by
 refine⟨by rw[List.all_map];exact List.all_eq_true.mpr λ_ _=>rfl,by rw[List.map_map];rfl⟩
theorem p8(l:List Nat):(l.map cK).all p0=true:=by rw[List.all_map];exact List.all_eq_true.mpr λ_ _=>rfl
theorem zm(l:List Nat):b8 8 (.lst (l.map cK))=true:=by
 show(l.map cK).all (b8 7)=true;rw[List.all_map];exact List.all_eq_true.mpr λ_ _=>rfl
theorem ux(l:List Nat):jD (.lst (l.map cK)) (.lst [])=decide (l=[]):=by cases l<;>rfl
def eW(dm:Nat->Int)(n k:Nat):List D:=(List.range k).filterMap λr=>if dm r=(r:Int)then some (D.lst (pick dm n r))else none
theorem iO(dm:Nat->Int)(n k:Nat):(eW dm n k).length<=k:=by
 have:=List.length_filterMap_le (λr=>if dm r=((r:Nat):Int)then some (D.lst (pick dm n r))else none) (List.range k)
 rw[List.length_range]at this;exact this
theorem j8(dm:Nat->Int)(n k:Nat):eW dm n (k+1)=eW dm n k++if dm k=(k:Int)then [D.lst (pick dm n k)]else []:=by
 unfold eW;rw[List.range_succ,List.filterMap_append];congr 1
 by_cases h:dm k=(k:Int)
 ·rw[List.filterMap_cons_some (by rw[if_pos h]),if_pos h];rfl
 ·rw[List.filterMap_cons_none (by rw[if_neg h]),if_neg h];rfl
theorem kG{n:Nat}{P:List Nat}(hd:P.Nodup)(h:∀p∈P,p<n):P.length<=n:=by
 have p:P.Perm ((List.range n).filter λx=>decide (x∈P)):=(List.perm_ext_iff_of_nodup hd (List.nodup_range.filter _)).mpr λx=>by
  rw[List.mem_filter,List.mem_range,decide_eq_true_eq];exact⟨λhx=>⟨h x hx,hx⟩,λhx=>hx.2⟩
 rw[p.length_eq];have:=List.length_filter_le (λx=>decide (x∈P)) (List.range n)
 rwa [List.length_range]at this
def kW:cw:=λds Q=>∃(n:Nat) (es:List Tr) (dm:Nat->Int),ds=[.int (n:Nat),.lst (es.map sO)]/\n<=150/\es.length<=22500/\(∀t∈es,t.2.1<t.2.2/\t.2.2<n)/\E8 n es dm/\Q (.own (cQ dm n))
theorem CQ(ds:List D)(Q:B->Prop)(h:kW ds Q):Ko {nx:=λ_=>Q (.sh .bB),rt:=λb _=>Q b} (bj Fg.length ds):=by
 obtain⟨n,es,dm,rfl,hn,XS,Sr,L,h⟩:=h;unfold Ko;refine aw λN hN=>?_;symm;refine⟨n,rfl,by omega,λts sr=>?_⟩
 subst hN
 -- the neighbours
 refine aw λN hN=>?_;show b7 _ _ _ _ _;generalize ht:bW (Ql 2 _ _) _=tb;symm;have S2:ts.map (·.2)=(List.range n).map λx=>(jW (es.take 0) x).map cK:=by
  rw[sr];refine List.ext_getElem? λx=>?_;rw[List.getElem?_replicate,List.getElem?_map]
  by_cases hx:x<n
  ·rw[if_pos hx,List.getElem?_range hx];rfl
  ·rw[if_neg hx,List.getElem?_eq_none (by rw[List.length_range];omega)];rfl
 refine cm sO es (λi σ=>∃(ts:k9) (x3 x4:Option B),σ=[some (.sh (.int (n:Nat))),some (.sh (.lst (es.map sO))),some (.obj (eB ts)),x3,x4,none,none,none,none,none,none]/\ts.map (·.2)=(List.range n).map λx=>(jW (es.take i) x).map cK) (λi t σ N' hx hI lb=>?_) (λσ hI=>?_) ⟨ts,none,none,rfl,S2⟩
 ·obtain⟨ts,x3,x4,rfl,sr⟩:=hI
  subst ht;obtain⟨h1,h2⟩:=Sr t (List.mem_of_getElem? hx);have QJ:es.take (i+1)=es.take i++[t]:=by rw[List.take_succ,hx];rfl
  rw[QJ,<- BI h1 h2]at lb;have hl:∀x,(jW (es.take i) x).length<=45000:=λx=>by
   have:=ni x (es.take i);rw[List.length_take]at this;omega
  have get:∀(us:k9) (x:Nat) (y:List D),(us.map (·.2))[x]?=some y->∃u,us[x]?=some u/\u.2=y:=λus x y e=>by
   rw[List.getElem?_map]at e;obtain⟨u,e1,e2⟩:=Option.map_eq_some_iff.mp e;exact⟨u,e1,e2⟩
  have pe:∀x,x<n->(ts.map (·.2))[x]?=some ((jW (es.take i) x).map cK):=λx hx=>by rw[sr,List.getElem?_map,List.getElem?_range hx];rfl
  obtain⟨u1,e1,wK⟩:=get ts t.2.1 _ (pe _ ⋯)
  obtain⟨u2,e2,wL⟩:=get ts t.2.2 _ (pe _ h2);have ck:t.2.1≠t.2.2:=by omega
  unfold sO;walk_at "vg";refine aw λN1 kc=>?_;symm;refine⟨⟨ts,rfl⟩,ts,u1,t.2.1,rfl,rfl,e1,ts,u1,rfl,e1,rfl,by rw[wK,List.length_map];have:=hl t.2.1;omega,?_⟩
  subst kc;have e3:(ts.set t.2.1 (u1.1,u1.2++[cK t.2.2]))[t.2.2]?=some u2:=by rw[List.getElem?_set_ne ck];exact e2
  symm;refine⟨⟨_,rfl⟩,_,u2,t.2.2,rfl,rfl,e3,_,u2,rfl,e3,rfl,by rw[wL,List.length_map];have:=hl t.2.2;omega,?_⟩
  refine lb _ ⟨_,_,_,rfl,?_⟩;rw[List.map_set,List.map_set,sr,wK,wL];rfl
 obtain⟨ts,x3,x4,rfl,sr⟩:=hI;rw[List.take_of_length_le (Nat.le_refl _)]at sr;show N _;subst hN;clear ht;refine aw λN hN=>?_;symm;intro ad;subst hN;refine aw λN hN=>?_;symm;refine⟨by decide,?_⟩
 subst hN;refine aw λN hN=>?_;show b7 _ _ _ _ _;generalize ht:bW (dE [] 8 _) _=tb;symm;rw[Int.toNat_natCast,cC];refine⟨by omega,?_⟩
 refine cm (λi:Nat=>D.int (0+(i:Nat))) _ (λk σ=>∃(K:List Nat) (x7 x8 x9 E5:Option B),σ=[some (.sh (.int (n:Nat))),some (.sh (.lst (es.map sO))),some (.obj (eB ts)),x3,x4,some (.obj (xY ad (K.map λy:Nat=>((y:Int),D.bl true)))),some (.own (eW dm n k)),x7,x8,x9,E5]/\k<=n/\K.Nodup/\∀x,x∈K ↔ x<n/\dm x<(k:Int)) (λk q σ N' hx hI lb=>?_) (λσ hI=>?_) ⟨[],none,none,none,none,rfl,Nat.zero_le _,List.nodup_nil,λx=>⟨(λz=>by cases z),(λ⟨hx,hl⟩=>by obtain⟨r,e,_⟩:=L.ok x hx;omega)⟩⟩
 ·obtain⟨K,x7,x8,x9,E5,rfl,UX,Qz,hK⟩:=hI
  obtain⟨rfl,hk⟩:=dX hx;subst ht;rw[Int.zero_add];walk_at "vg";obtain⟨rk,XJ,QI,X0⟩:=L.ok q hk;refine aw λN1 kc=>?_;have step:∀W0:List Nat,(∀w∈W0,w=q/\dm q=(q:Int))->(dm q=(q:Int)->q∈W0)->W0.length<=1->N1 [some (.sh (.int (n:Nat))),some (.sh (.lst (es.map sO))),some (.obj (eB ts)),x3,x4,some (.obj (xY ad (K.map λy:Nat=>((y:Int),D.bl true)))),some (.own (eW dm n q)),some (.sh (.int (q:Nat))),some (.own (W0.map cK)),x9,E5]:=by
   intro W0 VS Wq Wc;subst kc;refine aw λN1 kc=>?_;symm;refine⟨by decide,?_⟩
   subst kc;refine aw λN1 kc=>?_;refine⟨λm σ=>∃(P W:List Nat) (E5:Option B),σ=[some (.sh (.int (n:Nat))),some (.sh (.lst (es.map sO))),some (.obj (eB ts)),x3,x4,some (.obj (xY ad ((K++P).map λy:Nat=>((y:Int),D.bl true)))),some (.own (eW dm n q)),some (.sh (.int (q:Nat))),some (.own (W.map cK)),some (.own (P.map cK)),E5]/\P.Nodup/\(∀p∈P,p<n/\dm p=(q:Int))/\(∀w∈W,w<n/\dm w=(q:Int))/\(∀p∈P,∀y∈jW es p,y∈P\/y∈W)/\(dm q=(q:Int)->q∈P\/q∈W)/\W.length<=1+P.length*45000/\m=(n-P.length)*1000000+W.length,
    ⟨_,[],W0,E5,by rw[List.append_nil];rfl,List.nodup_nil,(λp hp=>by cases hp),(λw hw=>by obtain⟨rfl,e⟩:=VS w hw;exact⟨hk,e⟩),(λp hp=>by cases hp),(λe=>.inr (Wq e)),by simpa using Wc,rfl⟩,λm σ=>?_⟩
   rintro⟨P,W,E5,rfl,KS,hP,hW,B8,hq,Sf,rfl⟩;have XO:P.length<=n:=kG KS λp hp=>(hP p hp).1;have XM:(K++P).length<=n:=by
    refine kG ?_ λx hx=>?_
    ·rw[List.nodup_append]
     refine⟨Qz,KS,λx hx y hy z=>?_⟩;have h1:=((hK x).mp hx).2;rw[z,(hP y hy).2]at h1;omega
    ·rcases List.mem_append.mp hx with hx|hx
     ·exact((hK x).mp hx).1
     ·exact(hP x hx).1
   symm;refine⟨by decide,⟨zm W,rfl⟩,?_⟩
   rw[ux];rcases List.eq_nil_or_concat W with rfl|⟨W',w,rfl⟩
   ·refine(if_neg ∅).mpr ?_
    subst kc;symm;rw[(qJ P).2,ux];have UL:=iO dm n q
    by_cases hr:dm q=(q:Int)
    ·have SX:q∈P:=(hq hr).resolve_right (by simp)
     have U3:=we L KS hP SX λp hp y hy=>(B8 p hp y hy).resolve_right (by simp)
     have ck:P≠[]:=λz=>by rw[z]at SX;cases SX
     rw[decide_eq_false ck,wg U3];refine⟨(qJ P).1,by decide,by decide,⟨zm P,rfl⟩,⟨by decide,by decide,by decide⟩,?_,lb _ ⟨K++P,_,_,_,_,by rw[j8,if_pos hr];rfl,by omega,?_,λx=>?_⟩⟩
     ·show _+1<=sizeLine
      rw[sz];omega
     ·rw[List.nodup_append]
      refine⟨Qz,KS,λx hx y hy z=>?_⟩;have h1:=((hK x).mp hx).2;rw[z,(hP y hy).2]at h1;omega
     ·rw[List.mem_append,hK,U3.mem_iff,List.mem_filter,List.mem_range,decide_eq_true_eq]
      constructor
      ·rintro(⟨h1,h2⟩|⟨h1,h2⟩)<;>exact⟨h1,by omega⟩
      ·rintro⟨h1,h2⟩
       by_cases e:dm x=(q:Int)
       ·exact .inr ⟨h1,e⟩
       ·exact .inl ⟨h1,by omega⟩
    ·have QE:∀x,x<n->dm x≠(q:Int):=λx hx e=>by
      obtain⟨r,e1,_,e2⟩:=L.ok x hx;have:r=q:=by omega
      rw[this]at e2;exact hr e2
     have VO:P=[]:=List.eq_nil_iff_forall_not_mem.mpr λp hp=>QE p (hP p hp).1 (hP p hp).2;subst VO;refine⟨rfl,by decide,by decide,⟨rfl,rfl⟩,⟨by decide,by decide,by decide⟩,?_,lb _ ⟨K,_,_,_,_,by rw[List.append_nil,j8,if_neg hr];rfl,by omega,Qz,λx=>?_⟩⟩
     ·show _+0<=sizeLine
      rw[sz];omega
     ·rw[hK]
      constructor
      ·rintro⟨h1,h2⟩;exact⟨h1,by omega⟩
      ·rintro⟨h1,h2⟩
       have:=QE x h1;exact⟨h1,by omega⟩
   ·rw[List.concat_eq_append]at hW B8 hq Sf ⊢
    obtain⟨NN,RE⟩:∃NN:Sd->Prop,NN=λbw=>∃(P2 W2:List Nat) (Um:Option B),bw=[some (.sh (.int (n:Nat))),some (.sh (.lst (es.map sO))),some (.obj (eB ts)),x3,x4,some (.obj (xY ad ((K++P2).map λy:Nat=>((y:Int),D.bl true)))),some (.own (eW dm n q)),some (.sh (.int (q:Nat))),some (.own (W2.map cK)),some (.own (P2.map cK)),Um]/\P2.Nodup/\(∀p∈P2,p<n/\dm p=(q:Int))/\(∀w∈W2,w<n/\dm w=(q:Int))/\(∀p∈P2,∀y∈jW es p,y∈P2\/y∈W2)/\(dm q=(q:Int)->q∈P2\/q∈W2)/\W2.length<=1+P2.length*45000/\(n-P2.length)*1000000+W2.length<(n-P.length)*1000000+(W'++[w]).length:=⟨_,rfl⟩;refine(if_pos (decide_eq_false (by simp))).mpr ⟨NN,λbw hs=>by
     rw[RE]at hs;obtain⟨P2,W2,Um,e1,e2,e3,e4,e5,e6,e7,e8⟩:=hs;exact⟨_,e8,P2,W2,Um,e1,e2,e3,e4,e5,e6,e7,rfl⟩,W'.map cK,.int (w:Nat),by rw[List.map_append];rfl,?_⟩
    symm;rw[qu];obtain⟨U9,Cb⟩:=hW w (by simp)
    by_cases lg:w∈K++P
    ·refine(if_neg (by rw[decide_eq_true lg];decide)).mpr ?_
     have QL:w∈P:=(List.mem_append.mp lg).resolve_left λz=>by have:=((hK w).mp z).2;omega
     rw[RE];refine⟨P,W',_,rfl,KS,hP,λx hx=>hW x (by simp [hx]),λp hp y hy=>?_,λe=>?_,?_,?_⟩
     ·rcases B8 p hp y hy with z|z
      ·exact .inl z
      ·rcases List.mem_append.mp z with z|z
       ·exact .inr z
       ·rw[List.mem_singleton.mp z];exact .inl QL
     ·rcases hq e with z|z
      ·exact .inl z
      ·rcases List.mem_append.mp z with z|z
       ·exact .inr z
       ·rw[List.mem_singleton.mp z];exact .inl QL
     ·rw[List.length_append]at Sf;omega
     ·rw[List.length_append,List.length_singleton];omega
    ·refine(if_pos (decide_eq_false lg)).mpr ?_
     have QL:w∉P:=λz=>lg (List.mem_append_right _ z);have M1:(P++[w]).Nodup:=by
      rw[List.nodup_append];exact⟨KS,by simp,λx hx y hy z=>QL (by rw[List.mem_singleton.mp hy]at z;rw[<- z];exact hx)⟩
     have Ek:∀p∈P++[w],p<n/\dm p=(q:Int):=λp hp=>by
      rcases List.mem_append.mp hp with hp|hp
      ·exact hP p hp
      ·rw[List.mem_singleton.mp hp];exact⟨U9,Cb⟩
     have VP:P.length+1<=n:=by
      have:=kG M1 λp hp=>(Ek p hp).1
      rwa [List.length_append]at this
     have XR:=ni w es;have XN:P.length*45000<=150*45000:=Nat.mul_le_mul_right _ ⋯
     rw[List.length_append,List.length_singleton]at Sf;have VU:(ts.map λt=>D.lst t.2)[w]?=some (.lst ((jW es w).map cK)):=by
      have:(ts.map (·.2))[w]?=some ((jW es w).map cK):=by rw[sr,List.getElem?_map,List.getElem?_range U9];rfl
      rw[List.getElem?_map]at this ⊢;obtain⟨u,e1,e2⟩:=Option.map_eq_some_iff.mp this;rw[e1,<- e2];rfl
     refine⟨⟨_,_,rfl⟩,ad,_,rfl,by rw[List.length_map,sz];omega,⟨_,rfl⟩,by rw[List.length_map,sz];omega,?_⟩
     refine bf (n:=w) rfl VU ?_;symm;rw[List.length_map,List.length_map,List.all_append,p8,p8];refine⟨by rw[sz];omega,rfl,?_⟩
     rw[yZ lg,RE];refine⟨P++[w],W'++jW es w,_,by rw[List.append_assoc,List.map_append (l₁:=W'),List.map_append (l₁:=P)];rfl,M1,Ek,λx hx=>?_,λp hp y hy=>?_,λe=>?_,?_,?_⟩
     ·rcases List.mem_append.mp hx with hx|hx
      ·exact hW x (by simp [hx])
      ·obtain⟨t,ht,z⟩:=nj.mp hx
       have h1:=Sr t ht;have h2:=L.MH t ht;rcases z with⟨e1,e2⟩|⟨e1,e2⟩
       ·rw[e1,e2]at h2;exact⟨by omega,by rw[<- h2];exact Cb⟩
       ·rw[e1,e2]at h2;exact⟨by omega,by rw[h2];exact Cb⟩
     ·rcases List.mem_append.mp hp with hp|hp
      ·rcases B8 p hp y hy with z|z
       ·exact .inl (List.mem_append_left _ z)
       ·rcases List.mem_append.mp z with z|z
        ·exact .inr (List.mem_append_left _ z)
        ·exact .inl (List.mem_append_right _ z)
      ·rw[List.mem_singleton.mp hp]at hy
       exact .inr (List.mem_append_right _ hy)
     ·rcases hq e with z|z
      ·exact .inl (List.mem_append_left _ z)
      ·rcases List.mem_append.mp z with z|z
       ·exact .inr (List.mem_append_left _ z)
       ·exact .inl (List.mem_append_right _ z)
     ·rw[List.length_append,List.length_append,List.length_singleton,Nat.add_mul];omega
     ·rw[List.length_append,List.length_append,List.length_append,List.length_singleton]
      have:(n-P.length)*1000000=(n-(P.length+1))*1000000+1000000:=by rw[show n-P.length=(n-(P.length+1))+1 by omega,Nat.add_mul]
      omega
  symm;rw[qu]
  by_cases hr:dm q=(q:Int)
  ·have:q∉K:=λz=>by have:=((hK q).mp z).2;omega
   rw[decide_eq_false this];exact⟨by decide,⟨by decide,by decide,by decide⟩,step [q] (λw hw=>⟨List.mem_singleton.mp hw,hr⟩) (λ_=>List.mem_singleton.mpr rfl) (Nat.le_refl _)⟩
  ·have:q∈K:=(hK q).mpr ⟨hk,by omega⟩
   rw[decide_eq_true this];exact⟨by decide,⟨by decide,by decide,by decide⟩,step [] (λw hw=>by cases hw) (λe=>absurd e hr) (Nat.zero_le _)⟩
 ·obtain⟨K,x7,x8,x9,E5,rfl,UX,Qz,hK⟩:=hI
  rw[List.length_range];subst hN;symm;exact h
theorem Cq{xs:List D}{Q:D->Prop}(h0:xs≠[])(h:∀d∈xs,Q d):Bt (.lst xs) (.int (-1)) Q:=by
 have hl:0<xs.length:=List.length_pos_iff.mpr h0;show(match L2.jB xs (-1)with|some d=>Q d|none=>False)
 have e:L2.jB xs (-1)=some xs[xs.length-1]:=by
  unfold L2.jB;rw[qv hl];show xs[xs.length-1]?=_;rw[List.getElem?_eq_getElem]
 rw[e];exact h _ (List.getElem_mem _)
def Nn(d:D):Prop:=∃v:Int,d=.int v/\0<=v
def gy:ji:=λxs ds Q=>dN xs/\∃fs:List Int,ds=[.lst (fs.map D.int)]/\(∀f∈fs,0<=f)/\fs.length<=1000000/\∀(vs:List Int) ys,(∀v∈vs,0<=v)->vs.length=9->dN ys->Q (.own (vs.map D.int)) ys
theorem wa(xs ds:List D)(Q:B->List D->Prop)(h:gy xs ds Q):Kr fL {nx:=su Q (.sh .bB),rt:=λb σ=>su Q b σ} (a8 Fj.length xs ds):=by
 obtain⟨r0,fs,rfl,hf,hl,h⟩:=h;have nn:∀d∈fs.map D.int,Nn d:=λd hd=>by
  obtain⟨f,Ss,rfl⟩:=List.mem_map.mp hd;exact⟨f,rfl,hf f Ss⟩
 unfold Kr;simp only[a8];refine aw λN hN=>?_;symm;rw[List.length_map];refine⟨by decide,by rw[sz];omega,⟨_,rfl⟩,r0,_,rfl,by omega,by omega,λa1 x1 Qu Ux r1=>?_⟩
 symm;refine cf Qu (by rw[List.length_append,List.length_map,List.length_singleton];omega) λd hd=>?_
 obtain⟨v,rfl,hv⟩:Nn d:=by
  rcases List.mem_append.mp hd with hd|hd
  ·exact nn d hd
  ·rw[List.mem_singleton.mp hd];exact⟨0,rfl,by decide⟩
 subst hN;refine aw λN hN=>?_;symm;rw[List.length_map];refine⟨by decide,by rw[sz];omega,?_⟩
 refine cf ∅ (by rw[List.length_append,List.length_map,List.length_singleton];omega) λd hd=>?_
 obtain⟨w,rfl,hw⟩:Nn d:=by
  rcases List.mem_append.mp hd with hd|hd
  ·exact nn d hd
  ·rw[List.mem_singleton.mp hd];exact⟨1,rfl,by decide⟩
 subst hN;refine aw λN hN=>?_;symm;refine⟨⟨_,rfl⟩,r1,50,rfl,by decide,by decide,λa2 x2 Uy Uz r2=>?_⟩
 symm;refine⟨by decide,?_⟩
 subst hN;symm;rw[List.length_map];refine⟨by unfold pA;decide,by decide,by rw[sz];omega,?_⟩
 refine Cq (by simp) λd hd=>?_
 obtain⟨z,rfl,hz⟩:Nn d:=by
  rcases List.mem_cons.mp hd with rfl|hd
  ·exact⟨5,rfl,by decide⟩
  ·exact nn d hd
 symm;refine⟨by decide,by decide,?_⟩
 have key:=h [0,a2,v,(if v-1>0 then v-1 else 0),v+1,w,(if w-1>0 then w-1 else 0),10^34-1,z] x2 (λu hu=>by
  simp only[List.mem_cons,List.not_mem_nil,or_false]at hu;rcases hu with rfl|rfl|rfl|rfl|rfl|rfl|rfl|rfl|rfl
  ·omega
  ·omega
  ·omega
  ·split<;>omega
  ·omega
  ·omega
  ·split<;>omega
  ·decide
  ·omega) rfl r2
 exact key
def cV:cw:=λds Q=>∃b n pts c,ds=[gu pts,df b,.int c]/\Good n pts/\pts.length<=1000/\0<=c/\∀ts:k9,K5 ts=.lst (cQ (fQ b pts c) pts.length)->ts.length<=1000->(∀t∈ts,t.2.length<=1000)->Q (.obj (eB ts))
theorem wd(ds:List D)(Q:B->Prop)(h:cV ds Q):Km oK fo {nx:=λ_=>Q (.sh .bB),rt:=λb _=>Q b} (bj Fe.length ds):=by
 obtain⟨b,n,pts,c,rfl,hg,hl,hc,h⟩:=h;unfold Km;rw[show gu pts=.lst (pts.map dg)from rfl]
 refine aw λN hN=>?_;symm;rw[List.length_map,Int.toNat_natCast,Ai];refine⟨by omega,?_⟩
 subst hN;refine aw λN hN=>?_;show b7 _ _ _ _ _;generalize ht:d3 _ _ _=tb;symm;refine⟨b,n,pts,c,rfl,hg,hl,hc,?_⟩;rw[CD];symm;have bI:∀t∈(E3 b pts).filter (λt=>decide (t.1<=c)),t.2.1<pts.length/\t.2.2<pts.length:=λt ht=>by have:=tF t (List.mem_filter.mp ht).1;omega
 have UZ:=qz b pts c;generalize Sr:(E3 b pts).filter (λt=>decide (t.1<=c))=es at bI UZ;refine cm sO es (λi σ=>∃x4 x5,σ=[some (.sh (.lst (pts.map dg))),some (.sh (df b)),some (.sh (.int c)),some (.own ((aJ pts.length (es.take i)).1.map D.int)),x4,x5,none,none,none]) (λi t σ N' hx hI lb=>?_) (λσ hI=>?_) ⟨none,none,rfl⟩
 ·obtain⟨x4,x5,rfl⟩:=hI
  subst ht;obtain⟨h1,h2⟩:=bI t (List.mem_of_getElem? hx);obtain⟨f1,_,_⟩:=yv pts.length (es.take i);unfold sO;walk_at "vg";symm;refine bf (n:=t.2.1) rfl (fE ⋯) ?_
  refine bf (n:=t.2.2) rfl (fE ⋯) ?_
  refine⟨⟨rfl,rfl⟩,?_⟩;rw[pN];have fs:=fold_succ (n:=pts.length) hx;unfold aK at fs
  by_cases hq:(aJ pts.length (es.take i)).1.getD t.2.1 0=(aJ pts.length (es.take i)).1.getD t.2.2 0
  ·rw[if_pos hq]at fs
   exact(if_neg (by rw[decide_eq_true hq];decide)).mpr (lb _ ⟨_,_,by rw[fs]⟩)
  ·rw[if_neg hq]at fs
   refine(if_pos (by rw[decide_eq_false hq])).mpr ?_
   refine⟨_,t.2.1,t.2.2,rfl,by omega,by omega,by omega,?_⟩
   symm;exact lb _ ⟨_,_,by rw[fs]⟩
 ·obtain⟨x4,x5,rfl⟩:=hI
  rw[List.take_length,UZ];subst hN;clear ht;dsimp only;refine aw λN hN=>?_;unfold Kb;symm;subst hN;refine aw λN hN=>?_;generalize ht:Ui 6 8 7=tb;symm;rw[mw];have ll:=(qy b pts c).2;refine cm (λq:Nat×Int=>.tup [.int (q.1:Nat),.int q.2]) _ (λi σ=>∃(ts:Bw) (x7 x8:Option B),σ=[some (.sh (.lst (pts.map dg))),some (.sh (df b)),some (.sh (.int c)),some (.sh (.lst ((vP b pts c).map D.int))),x4,x5,some (.obj (vA ts)),x7,x8]/\ts.length<=i/\(∀t∈ts,t.2.2.length<=i)/\vw ts=fA (fQ b pts c) i) (λi q σ N' hx hI lb=>?_) (λσ hI=>?_) ⟨[],none,none,rfl,Nat.zero_le _,(λt ht=>by cases ht),rfl⟩
  ·obtain⟨ts,x7,x8,rfl,l1,l2,hv⟩:=hI
   obtain⟨SW,QH⟩:=pM hx;have hi:i<pts.length:=by rw[<- ll];exact(List.getElem?_eq_some_iff.mp QH).1
   obtain⟨q1,q2⟩:=q;have SW:q1=i:=SW;subst SW;have QH:(vP b pts c)[q1]?=some q2:=QH;have Wr:fQ b pts c q1=q2:=by unfold fQ;rw[List.getD_eq_getElem?_getD,QH];rfl
   walk_at "vg";subst ht;refine⟨ts,q2,.int (q1:Nat),rfl,rfl,rfl,by omega,λt ht=>by have:=l2 t ht;omega,λp=>?_⟩
   obtain⟨a1,a2⟩:=BH ts q2 p (.int (q1:Nat)) q1 l1 l2;exact lb _ ⟨_,_,_,rfl,a1,a2,by rw[KH,hv,<- Wr];exact wD λx hx=>um x ⋯⟩
  ·obtain⟨ts,x7,x8,rfl,l1,l2,hv⟩:=hI
   subst hN;refine⟨ts,rfl,?_⟩;rw[List.length_mapIdx,ll]at hv l1 l2;have e:(ts.map λt=>D.lst t.2.2)=cQ (fQ b pts c) pts.length:=by
    rw[<- wj,<- hv];unfold vw;rw[List.map_map];rfl
   refine h _ ?_ (by rw[List.length_map];omega) λt ht=>?_
   ·unfold K5
    rw[List.map_map,<- e];rfl
   ·obtain⟨u,hu,rfl⟩:=List.mem_map.mp ht
    have:=l2 u hu;show u.2.2.length<=1000;omega
def kX:cw:=λds Q=>∃b n pts c,ds=[gu pts,df b,.int c]/\Good n pts/\pts.length<=1000/\0<=c/\Q (.sh (.lst (cQ (fQ b pts c) pts.length)))
theorem yY(ds:List D)(Q:B->Prop)(h:kX ds Q):cV ds λb=>∃ts,b=.obj (eB ts)/\Q (.sh (K5 ts)):=by
 obtain⟨b,n,pts,c,e,hg,hl,hc,h⟩:=h;exact⟨b,n,pts,c,e,hg,hl,hc,λts e _ _=>⟨ts,rfl,by rw[e];exact h⟩⟩
theorem Cv(b:Bool)(pts:List (List Int))(c:Int):E8 pts.length (dw b pts c) (fQ b pts c) where
 ok:=um
 MH:=(gJ pts.length (dw b pts c) jM).2.2.2
 con:=λg hg x hx=>mB pts.length g (dw b pts c) jM hg x hx
theorem sC(b:Bool)(pts:List (List Int))(c:Int):(cZ (bG b pts)).filterMap (nearF c)=(dw b pts c).map sO:=by
 rw[o6 b pts,List.filterMap_map];unfold dw;generalize A0 b pts=l
 induction l with
 | nil=>rfl
 | cons t l ih =>
  have e:(nearF c ∘ k7) t=if decide (t.1<=c)=true then some (sO t)else none:=gU c t
  by_cases h:t.1<=c
  ·rw[List.filterMap_cons_some (by rw[e,if_pos (decide_eq_true h)]),ih,List.filter_cons_of_pos (by simpa using h)];rfl
  ·rw[List.filterMap_cons_none (by rw[e,if_neg (by rw[decide_eq_false h];decide)]),ih,List.filter_cons_of_neg (by simpa using h)]
theorem zz{f:Nat->Int}{n:Nat}{d:D}(h:d∈cQ f n):∃l:List Nat,d=.lst (l.map cK)/\l.length<=n:=by
 unfold cQ at h;obtain⟨r,_,e⟩:=List.mem_filterMap.mp h
 split at e
 ·cases e
  refine⟨(List.range n).filter λk=>decide (f k=(r:Int)),rfl,?_⟩;have:=List.length_filter_le (λk=>decide (f k=((r:Nat):Int))) (List.range n)
  rwa [List.length_range]at this
 ·cases e
theorem v7{f:Nat->Int}{n:Nat}(hn:n<=1000)(m:Nat):vZ (m+2) (.lst (cQ f n))=true:=by
 have hl:(cQ f n).length<=n:=iO f n n;show(decide ((cQ f n).length<=1000000)&&(cQ f n).all (vZ (m+1)))=true;rw[decide_eq_true (show(cQ f n).length<=1000000 by omega),Bool.true_and]
 refine List.all_eq_true.mpr λd hd=>?_;obtain⟨l,rfl,hl⟩:=zz hd;show(decide ((l.map cK).length<=1000000)&&(l.map cK).all (vZ m))=true;rw[List.length_map,decide_eq_true (show l.length<=1000000 by omega),Bool.true_and,List.all_map]
 exact List.all_eq_true.mpr λ_ _=>CH m _
def As:cw:=λds Q=>∃b n pts c,ds=[gu pts,df b,.lst (cZ (bG b pts)),.int c]/\Good n pts/\pts.length<=150/\0<=c/\Q (.sh (.bl true))
theorem TH(ds:List D)(Q:B->Prop)(h:As ds Q):AG kW cV (eE 3) {nx:=λ_=>Q (.sh .bB),rt:=λb _=>Q b} (bj xa.length ds):=by
 obtain⟨b,n,pts,c,rfl,hg,hl,hc,h⟩:=h;have hz:=kK (b:=b) (pts:=pts) ⋯
 have QM:=(cU (bG b pts)).length_eq;obtain⟨Kx,e0⟩:∃ts:List (Int×Nat×Nat),cZ (bG b pts)=ts.map k7:=⟨_,o6 b pts⟩;have G9:=sC b pts c;unfold AG;rw[show gu pts=.lst (pts.map dg)from rfl]
 refine aw λN hN=>?_;symm;rw[List.length_map];have B8:(dw b pts c).length<=22500:=by
  unfold dw;have h1:=List.length_filter_le (λt:Tr=>decide (t.1<=c)) (A0 b pts);have h2:=congrArg List.length (o6 b pts);rw[List.length_map]at h2;have h3:=(gb b pts).length_eq;have h4:=jZ b pts pts.length;have h5:pts.length*pts.length<=150*150:=Nat.mul_le_mul hl hl;omega
 rw[<- QM]at hz;rw[e0]at G9 hz;rw[List.filterMap_map]at G9;rw[List.length_map]at hz;rw[e0];refine eV k7 (nearF c ∘ k7) Kx (λt ht A Bn ha=>?_) (by rw[sz];omega) ?_
 ·rw[show(nearF c ∘ k7) t=nearF c (k7 t)from rfl,gU]at ha
  unfold k7;walk_at "vg";symm
  by_cases ht:t.1<=c
  ·rw[if_pos (decide_eq_true ht)]at ha
   exact(if_pos ht).mpr ⟨by decide,ha⟩
  ·rw[if_neg (by rw[decide_eq_false ht];decide)]at ha
   exact(if_neg ht).mpr ha
 rw[G9];refine⟨pts.length,dw b pts c,fQ b pts c,rfl,hl,B8,λt ht=>?_,Cv b pts c,?_⟩
 ·have:=tG t (List.mem_filter.mp ht).1
  exact⟨this.1,this.2.1⟩
 symm;subst hN
 -- handed
 refine aw λN hN=>?_;symm;subst hN;refine aw λN hN=>?_;show b7 _ _ _ _ _;generalize ht:bW (dE [] 7 _) _=tb;symm;rw[show Int.toNat 2=2 from rfl,cC]
 refine⟨by decide,?_⟩
 have dQ:(cQ (fQ b pts c) pts.length).length<=pts.length:=iO (fQ b pts c) pts.length pts.length;refine cm (λi:Nat=>D.int (0+(i:Nat))) _ (λi σ=>∃hd x6 x7 x8,σ=[some (.sh (.lst (pts.map dg))),some (.sh (df b)),some (.sh (.lst (Kx.map k7))),some (.sh (.int c)),some (.own (cQ (fQ b pts c) pts.length)),hd,x6,x7,x8]/\(hd=some (.own (pts.map dg))\/hd=some (.sh (.lst (pts.map dg))))) (λi t σ N' hx hI lb=>?_) (λσ hI=>?_) ⟨_,_,_,_,rfl,.inl rfl⟩
 ·obtain⟨hd,x6,x7,x8,rfl,UO⟩:=hI
  walk_at "vg";subst ht;refine aw λN1 kc=>?_;have told:Cl cV [.lst (pts.map dg),df b,.int c] λB'=>N1 [some (.sh (.lst (pts.map dg))),some (.sh (df b)),some (.sh (.lst (Kx.map k7))),some (.sh (.int c)),some (.own (cQ (fQ b pts c) pts.length)),some (.sh (.lst (pts.map dg))),some (.sh (.int (t:Nat))),some B',x8]:=by
   refine⟨b,n,pts,c,rfl,hg,by omega,hc,λts e1 e2 e3=>?_⟩
   subst kc;have wK:ts.map (λt=>D.lst t.2)=cQ (fQ b pts c) pts.length:=by
    unfold K5 at e1
    injection e1
   refine aw λN1 kc=>?_;symm;rw[wK];refine⟨_,rfl,v7 ⋯ 0,?_⟩
   symm;refine⟨⟨zo pts,zo pts⟩,?_⟩;rw[BV];refine(if_neg ∅).mpr ?_
   subst kc;refine aw λN1 kc=>?_;refine⟨ts,rfl,by show 8<9;decide,λt ht=>by have:=e3 t ht;omega,?_⟩
   symm;subst kc;refine aw λN1 kc=>?_;symm;refine cS (λt:Addr×List D=>D.lst t.2) (λt=>D.int ((t.2.length:Nat):Int)) (jq ts (.int (-1))) (λt ht A ha=>?_) (by unfold jq;rw[List.length_map,sz];omega) ?_
   ·walk_at "vg"
    symm;exact ha
   have e4:(jq ts (.int (-1))).map (λt=>D.int ((t.2.length:Nat):Int))=ts.map λt=>D.int (((t.2.length:Nat):Int)+1):=by
    unfold jq;rw[List.map_map];refine List.map_congr_left λt _=>?_;show D.int (((t.2++[D.int (-1)]).length:Nat):Int)=_;rw[List.length_append];rfl
   rw[e4,<- wK];refine cS (λt:Addr×List D=>D.lst t.2) (λt=>D.int (((t.2.length:Nat):Int)+1)) ts (λt ht A ha=>?_) (by rw[sz];omega) ?_
   ·walk_at "vg"
    symm;exact ha
   have Vn:b8 8 (.lst (ts.map λt=>D.int (((t.2.length:Nat):Int)+1)))=true:=by
    show(ts.map λt=>D.int (((t.2.length:Nat):Int)+1)).all (b8 7)=true;rw[List.all_map];exact List.all_eq_true.mpr λ_ _=>rfl
   have VH:jD (.lst (ts.map λt=>D.int (((t.2.length:Nat):Int)+1))) (.lst (ts.map λt=>D.int (((t.2.length:Nat):Int)+1)))=true:=by
    have:∀us:k9,jE (us.map λt=>D.int (((t.2.length:Nat):Int)+1)) (us.map λt=>D.int (((t.2.length:Nat):Int)+1))=true:=by
     intro us
     induction us with
     | nil=>rfl
     | cons t us ih =>
      show(jD _ _&&jE (us.map _) (us.map _))=true;rw[gI,ih];rfl
    exact this ts
   refine⟨⟨Vn,Vn⟩,?_⟩;rw[VH];refine(if_neg ∅).mpr ?_
   subst kc;refine⟨_,rfl,by unfold jq;rw[List.length_map];omega,λp=>?_⟩
   exact lb _ ⟨_,_,_,_,by rw[wK];rfl,.inr rfl⟩
  rcases UO with rfl|rfl
  all_goals
   symm;refine cast (congrArg (Cl cV _) (funext λB'=>?_)) told;cases B'<;>rfl
 ·obtain⟨hd,x6,x7,x8,rfl,UO⟩:=hI
  subst hN;symm;exact h
theorem zF(b:Bool)(c:Int):cQ (fQ b [] c) ([]:List (List Int)).length=[]:=rfl
def Aq:cw:=λds Q=>∃ns:List Int,ds=[.gw ns]/\ns.length<=63/\Q (.sh (.bl true))
theorem OW(ds:List D)(Q:B->Prop)(h:Aq ds Q):AR fL gA oO i7 gy As kX {nx:=λ_=>Q (.sh .bB),rt:=λb _=>Q b} (bj xk.length ds):=by
 obtain⟨ns,rfl,QF,h⟩:=h;unfold AR;refine aw λN hN=>?_;unfold u6;generalize ht:bW (dE [] 3 _) _=tb;symm;refine⟨⟨cut ns none (some 3),by rw[j6],Nat.le_trans (tQ _ _ _) QF⟩,λm=>qe (λσ=>∃x1 x2 x3 x4 x5 x6 x7,σ=[some (.sh (.gw ns)),x1,x2,x3,x4,x5,x6,x7]) (λi c σ N' hI lb=>?_) (λσ hI=>?_) m 0 _ ⟨_,_,_,_,_,_,_,rfl⟩⟩
 ·obtain⟨x1,x2,x3,x4,x5,x6,x7,rfl⟩:=hI
  subst ht;have r0:dN [.int c,.int 0]:=⟨_,_,rfl⟩;unfold Jt;simp only[List.set_cons_zero,List.set_cons_succ]
  -- great
  refine aw λN1 kc=>?_;have key:∀(y:List D) (great:Bool),dN y->N1 [some (.sh (.gw ns)),some (.sh (.int (i:Nat))),some (.own y),some (.sh (.bl great)),x4,x5,x6,x7]:=by
   intro y great ry;subst kc;have most:∀Q:D->Prop,(∀m:Nat,m<=150->Q (.int (m:Nat)))->Bt (D.lst [D.int 30,D.int 150]) (D.int (if great=true then 1 else 0)) Q:=λQ hQ=>by
    refine cf (by split<;>omega) (by simp only[List.length_cons,List.length_nil];split<;>omega) λd hd=>?_
    simp only[List.mem_cons,List.not_mem_nil,or_false]at hd;rcases hd with rfl|rfl
    ·exact hQ 30 ∅
    ·exact hQ 150 ∅
   refine aw λN2 yC=>?_;symm;refine⟨⟨_,rfl⟩,⟨_,rfl⟩,ry,3,rfl,by decide,by decide,λa1 y1 Qu Ux r1=>?_⟩
   symm;obtain⟨n,En,Nm,rfl⟩:∃n:Nat,1<=n/\n<=3/\a1=(n:Int)-1:=⟨(1+a1).toNat,by omega,by omega,by omega⟩
   rw[show 1+((n:Int)-1)=(n:Int)by omega]
   refine⟨by decide,most _ λm hm=>?_⟩
   symm;refine⟨r1,n,m,rfl,En,Nm,hm,λpts y2 hg _ hl Pt=>?_⟩;symm;subst yC;refine aw λN2 yC=>?_;symm;refine⟨⟨_,rfl⟩,Pt,rfl,λb y3 T1=>?_⟩;symm;subst yC;refine aw λN2 yC=>?_;symm;refine⟨b,n,pts,rfl,hg,by omega,?_⟩
   symm;subst yC
   -- the bounds
   show b7 _ _ _ _ _;generalize ht:d3 _ _ _=tb;symm;have hz:=(cU (bG b pts)).length_eq;have QM:=kK (b:=b) (pts:=pts) ⋯
   have e:=o6 b pts;have sr:(A0 b pts).length<=1000000:=by
    have:(cZ (bG b pts)).length=(A0 b pts).length:=by rw[e,List.length_map]
    rw[<- this,hz];exact QM
   have wQ:∀t∈A0 b pts,0<=t.1:=λt ht=>(tG t ht).2.2;have X1:cZ (bG b pts)=cZ (bG b pts):=rfl;generalize hT:A0 b pts=ts at e sr wQ;rw[e];refine⟨⟨_,rfl⟩,cS k7 (λt:Int×Nat×Nat=>D.int t.1) ts (λt ht A ha=>?_) (by rw[sz];omega) ?_⟩
   ·unfold k7
    symm;exact ha
   rw[show ts.map (λt:Int×Nat×Nat=>D.int t.1)=(ts.map (·.1)).map D.int from by rw[List.map_map];rfl]
   symm;refine⟨T1,_,rfl,λf hf=>?_,by rw[List.length_map];exact sr,λvs y5 WG X4 Vq=>?_⟩
   ·obtain⟨t,ht,rfl⟩:=List.mem_map.mp hf
    exact wQ t ht
   symm;refine⟨by decide,?_⟩
   have lim:∀Q:D->Prop,(∀m:Int,Q (.int m))->Bt (D.lst [D.int 9,D.int 3]) (D.int (if great=true then 1 else 0)) Q:=λQ hQ=>by
    refine cf (by split<;>omega) (by simp only[List.length_cons,List.length_nil];split<;>omega) λd hd=>?_
    simp only[List.mem_cons,List.not_mem_nil,or_false]at hd;rcases hd with rfl|rfl
    ·exact hQ 9
    ·exact hQ 3
   refine lim _ λw=>?_;symm;rw[j6];refine cm D.int (cut vs none (some w)) (λi' σ=>∃u7,σ=[some (.sh (.gw ns)),some (.sh (.int (i:Nat))),some (.own y5),some (.sh (.bl great)),some (.sh (.lst (pts.map dg))),some (.sh (df b)),some (.sh (.lst (ts.map k7))),u7]) (λi' v σ N3 hx hI GY=>?_) (λσ hI=>?_) ⟨_,rfl⟩
   ·obtain⟨u7,rfl⟩:=hI
    have hv:0<=v:=WG v (by
     have:=List.mem_of_getElem? hx;unfold cut at this;exact List.mem_of_mem_drop (List.mem_of_mem_take this))
    walk_at "vg";subst ht;symm;refine⟨b,n,pts,v,?_,hg,by omega,hv,?_⟩
    ·rw[e];rfl
    symm
    try refine(if_neg ∅).mpr ?_
    exact GY _ ⟨_,rfl⟩
   ·obtain⟨u7,rfl⟩:=hI
    exact lb _ ⟨_,_,_,_,_,_,_,rfl⟩
  symm;refine⟨⟨rfl,rfl⟩,?_⟩
  split
  ·refine⟨⟨_,rfl⟩,r0,8,rfl,by decide,by decide,λa2 y2 Uy Uz r2=>?_⟩
   symm;refine⟨⟨rfl,rfl⟩,?_⟩;exact key _ _ r2
  ·exact key _ _ r0
 ·obtain⟨x1,x2,x3,x4,x5,x6,x7,rfl⟩:=hI
  subst hN;symm;refine⟨by decide,false,1,[],0,rfl,⟨⟨by decide,by decide⟩,λp hp=>by cases hp⟩,by decide,by decide,?_⟩
  rw[zF];symm;refine⟨by decide,⟨rfl,rfl⟩,?_⟩
  exact h
end
def uQ(K:PySem.W.Frag):Sp:=λvs H Q _=>∃(a:Addr) (ns:List Int),vs=[.ref a]/\dP K H a (ns.map V.int)/\ns.length<=63/\∀H',Q (.bl true) H'
-- level 6
section
variable [KF]{G:GE}{k:Nat}
theorem B1{x:Str}{st:Stmt}{ps:List Str}{f:Addr}{fd:FuncData}(d:c9 G x st ps f fd):dF G k x λ_ _=>False:=
 ⟨f,fd,ps,⟨λvs H Q E h=>by obtain⟨_,_,_,_,_,z,_⟩:=h;exact z.elim,λA outer s H args us vs Q E _ _ _ _ h=>by obtain⟨_,_,_,_,_,z,_⟩:=h;exact z.elim⟩,d.m,d.F.kp,d.b⟩
local macro_rules|`(tactic| walk_at "8")=>`(tactic| (intro xs ds Q h;first|(obtain⟨e,_⟩:=h;rw[e];rfl) | (obtain⟨_,e,_⟩:=h;rw[e];rfl) | (obtain⟨_,_,e,_⟩:=h;rw[e];rfl) | (obtain⟨_,_,_,e,_⟩:=h;rw[e];rfl) | (obtain⟨_,_,_,_,e,_⟩:=h;rw[e];rfl) | (obtain⟨_,_,_,_,_,e,_⟩:=h;rw[e];rfl) | (obtain⟨_,_,_,_,_,_,e,_⟩:=h;rw[e];rfl) | (obtain⟨_,_,_,_,_,_,_,e,_⟩:=h;rw[e];rfl) | (obtain⟨_,_,_,_,_,_,_,_,e,_⟩:=h;rw[e];rfl) | (obtain⟨_,_,_,_,_,_,_,_,_,e,_⟩:=h;rw[e];rfl) | (obtain⟨_,_,_,_,_,_,_,_,_,_,e,_⟩:=h;rw[e];rfl)))
local macro_rules|`(tactic| walk_at "7")=>`(tactic| (intro ds Q h;first|(obtain⟨e,_⟩:=h;rw[e];rfl) | (obtain⟨_,e,_⟩:=h;rw[e];rfl) | (obtain⟨_,_,e,_⟩:=h;rw[e];rfl) | (obtain⟨_,_,_,e,_⟩:=h;rw[e];rfl) | (obtain⟨_,_,_,_,e,_⟩:=h;rw[e];rfl) | (obtain⟨_,_,_,_,_,e,_⟩:=h;rw[e];rfl) | (obtain⟨_,_,_,_,_,_,e,_⟩:=h;rw[e];rfl) | (obtain⟨_,_,_,_,_,_,_,e,_⟩:=h;rw[e];rfl) | (obtain⟨_,_,_,_,_,_,_,_,e,_⟩:=h;rw[e];rfl) | (obtain⟨_,_,_,_,_,_,_,_,_,e,_⟩:=h;rw[e];rfl) | (obtain⟨_,_,_,_,_,_,_,_,_,_,e,_⟩:=h;rw[e];rfl)))
theorem IE(hK:G.K=KF.K)(hT:KF.tabs=[])(E:Gl G)
    {pQ:Addr} {GF:FuncData} (xN:c9 G "need_count" hR ["count"] pQ GF)
    {yg:Addr} {ML:FuncData} (F8:c9 G "need_as_many_numbers" om ["point","count"] yg ML)
    {yn:Addr} {MR:FuncData} (Gf:c9 G "need_points" oB ["points"] yn MR)
    {pW:Addr} {GN:FuncData} (xS:c9 G "need_way" ig ["way"] pW GN)
    {yh:Addr} {MM:FuncData} (F9:c9 G "need_points_and_way" oo ["points","way"] yh MM)
    {pP:Addr} {GD:FuncData} (xM:c9 G "need_bound" hJ ["bound"] pP GD)
    {yk:Addr} {MP:FuncData} (Gd:c9 G "far_between" oz ["way","point","other"] yk MP)
    {yi:Addr} {MN:FuncData} (Ga:c9 G "pairs_by_places" oq ["points","way"] yi MN)
    {yr:Addr} {MU:FuncData} (Gi:c9 G "near_pairs" oE ["points","way","bound"] yr MU)
    {pZ:Addr} {GQ:FuncData} (xV:c9 G "joined" ip ["leasts","i","j"] pZ GQ)
    {yj:Addr} {MO:FuncData} (Gb:c9 G "parts_within" ou ["points","way","bound"] yj MO)
    {pT:Addr} {GJ:FuncData} (xQ:c9 G "_law_next" h9 ["pot","many"] pT GJ)
    {pU:Addr} {GK:FuncData} (xR:c9 G "_law_pots" ic ["script"] pU GK)
    {yq:Addr} {MT:FuncData} (Gh:c9 G "_law_points" oD ["pot","count","most"] yq MT)
    {pX:Addr} {GO:FuncData} (xT:c9 G "_law_far" ik ["way","one","other"] pX GO)
    {pY:Addr} {GP:FuncData} (xU:c9 G "_law_way" il ["pot"] pY GP)
    {pR:Addr} {GH:FuncData} (xO:c9 G "_law_pairs" hZ ["points","way"] pR GH)
    {yo:Addr} {MS:FuncData} (Gg:c9 G "_law_bounds" oC ["pot","fars"] yo MS)
    {ym:Addr} {MQ:FuncData} (Ge:c9 G "_law_reached" oA ["many","pairs"] ym MQ)
    {pV:Addr} {GL:FuncData} (mv:c9 G "_law_same" ie ["found","due"] pV GL)
    {pS:Addr} {GI:FuncData} (xP:c9 G "_law_right" h8 ["points","way","pairs","bound"] pS GI)
    {my:Addr} {yu:FuncData} (xW:c9 G "law" eI ["script"] my yu)
   :di G.P G.w G.K G.mg G.base m8 7 my yu ["script"] (uQ G.K):=by
  have yH:eR G 1 "_law_pots":=xR.sM (k:=0) hK JM rfl rfl (MB E);have cc:fM G 1 "_law_next" fL:=xQ.Qw (k:=0) hK JL (MA E) ∅ (by walk_at "8") IW
  have G6:fM G 2 "_law_points" gA:=Gh.Qw (k:=1) hK PL (RO E (cc.mono ∅)) ∅ (by walk_at "8") wc
  have yK:fM G 2 "_law_way" oO:=xU.Qw (k:=1) hK JP (ME E (cc.mono ∅)) ∅ (by walk_at "8") IZ
  have yJ:dF G 1 "_law_far" gx:=xT.fg (k:=0) hK JO (MD E) (by walk_at "7") IU
  have yF:dF G 2 "_law_pairs" i7:=xO.fg (k:=1) hK JI (My E (yJ.mono ∅)) (by walk_at "7") zq
  have G5:fM G 2 "_law_bounds" gy:=Gg.Qw (k:=1) hK PK (RN E (cc.mono ∅)) ∅ (by walk_at "8") wa
  have G3:dF G 1 "_law_reached" kW:=Ge.fg (k:=0) hK PF (RL E) (by walk_at "7") CQ
  have yE:dF G 1 "need_count" ja:=xN.fg (k:=0) hK JH (Mx E) (by walk_at "7") zt
  have GZ:dF G 1 "need_as_many_numbers" sX:=F8.fg (k:=0) hK Py (RF E) (by walk_at "7") OQ
  have G4:dF G 2 "need_points" oM:=Gf.fg (k:=1) hK PJ (RM E (yE.mono ∅) (GZ.mono ∅)) (by walk_at "7") IX
  have yI:dF G 1 "need_way" oN:=xS.fg (k:=0) hK JN (MC E) (by walk_at "7") IY
  have G0:dF G 3 "need_points_and_way" sY:=F9.fg (k:=2) hK Pz (RG E (G4.mono ∅) (yI.mono ∅)) (by walk_at "7") OT
  have yD:dF G 1 "need_bound" i9:=xM.fg (k:=0) hK JG (Mw E) (by walk_at "7") zr
  have G2:dF G 1 "far_between" gx:=Gd.fg (k:=0) hK PD (RK E) (by walk_at "7") OO
  have G1:dF G 2 "pairs_by_places" kU:=Ga.fg (k:=1) hK PB (RH E (G2.mono ∅)) (by walk_at "7") CP
  have G7:dF G 4 "near_pairs" oK:=Gi.fg (k:=3) hK PN (RP E (G0.mono ∅) (yD.mono ∅) (G1.mono ∅)) (by walk_at "7") IV
  have yL:dF G 1 "joined" fo:=xV.fg (k:=0) hK JQ (MF E) (by walk_at "7") OU
  have vD:dF G 5 "parts_within" cV:=Gb.fg (k:=4) hK PC (RJ E (G7.mono ∅) (yL.mono ∅)) (by walk_at "7") wd
  have qh:dF G 1 "_law_same" (eE 1):=mv.fg (k:=0) hK sU (yc E (sp_q16:=eE 0) (B1 mv)) (by walk_at "7") (sI 0)
  have qj:dF G 2 "_law_same" (eE 2):=mv.fg (k:=1) hK sU (yc E (qh.mono ∅)) (by walk_at "7") (sI 1)
  have qk:dF G 3 "_law_same" (eE 3):=mv.fg (k:=2) hK sU (yc E (qj.mono ∅)) (by walk_at "7") (sI 2)
  have ql:=qk;have yG:dF G 6 "_law_right" As:=xP.fg (k:=5) hK JK (Mz E (G3.mono ∅) (vD.mono ∅) (ql.mono ∅)) (by walk_at "7") TH
  refine(Ei (k:=6) (sp:=Aq) hK xW.F JR (MG E (yH.mono ∅) (cc.mono ∅) (G6.mono ∅) (yK.mono ∅) (yF.mono ∅) (G5.mono ∅) (yG.mono ∅) ((vD.ll yY).mono ∅)) (by walk_at "7") OW).imp λvs H Q E' h=>?_
  obtain⟨a,ns,rfl,hS,hl,q⟩:=h;refine⟨H,[.gw ns],λb=>b=.sh (.bl true),⟨aq.refl _,λq hq=>by rw[hT]at hq;cases hq⟩,.cons (.gw (by rw[<- hK];exact hS)) .nil,⟨ns,rfl,hl,rfl⟩,λv H' F' b _ _ _ _ r e=>?_⟩
  subst e;have r:Rep F' v (.bl true):=r;cases r;exact q H'
end
open PySem.W in
theorem all_mk{l:OpenLaw}{w:World}{K:Frag}{h:Heap}{mg:Str->Option Value}{fa:Addr}(X:K.In h)(Gs:h.Ns mainGlobals mg)(V1:mg "law"=some (.ref fa))
 {pQ yg yn pW yh pP yk yi yr pZ yj pT pU yq pX pY pR yo ym pV pS my:Addr}
 {Io Fv Oq LD Oy LO Iy FD Ot LI Im Fu Ow LL Ou LJ OB LU IB FH Ov LK Iu Fz Iv FA OA LR Iz FE IA FG Iq Fx Oz LQ Ox LN Iw FC Ir Fy IC xn:Option Addr}
 {JU PQ PZ J0 PR JT PX PU Qb J6 PV JX JY Qa J4 J5 JV P0 PY JZ JW J7:Array (Option Value)}
 {HZ Ht Gk Ji xA FP Oc NK Mj O1 D4 L7 Oj NT Mr O7 Ea Mf Ih Hz Gu Jo xG FW Od NM Mk O2 D5 L8 HY Hs Gj Jh xx FO Oh NR Mp O5 D8 Mb Oe NP Ml O3 D6 L9 Oo NW Mu Pa Ed Mi Ik HC Gx Jr xJ FZ Og NQ Mm O4 D7 Ma Ic Hw Gp Jl xD FT Ie Hx Gq Jm xE FU Om NV Mt O9 Ec Mh Ii HA Gv Jp xH FX Ij HB Gw Jq xI FY Ia Hu Gm Jj xB FQ Ol NU Ms O8 Eb Mg Oi NS Mq O6 D9 Md Ig Hy Gr Jn xF FV Ib Hv Gn Jk xC FR Il y8 xX zP r9 xK:Value}
  {tD:Tok}
  {tE:Tok}
  (a_q11:nsIn K mainGlobals "need_count"=some (some (.ref pQ)))
  (l_q11:K.lookup pQ=some ⟨HZ,Io,.func (fnOf "need_count" "need_count" (aX hR) (az hR) (ah hR) .none Ht Gk Ji Fv xA FP),JU⟩)
  (c_q11:codeIn K xA "need_count"=true) (k_q11:keepIn K (.ref pQ)=true)
  (a_q0:nsIn K mainGlobals "need_as_many_numbers"=some (some (.ref yg)))
  (l_q0:K.lookup yg=some ⟨Oc,Oq,.func (fnOf "need_as_many_numbers" "need_as_many_numbers" (aX om) (az om) (ah om) .none NK Mj O1 LD D4 L7),PQ⟩)
  (c_q0:codeIn K D4 "need_as_many_numbers"=true) (k_q0:keepIn K (.ref yg)=true)
  (a_q6:nsIn K mainGlobals "need_points"=some (some (.ref yn)))
  (l_q6:K.lookup yn=some ⟨Oj,Oy,.func (fnOf "need_points" "need_points" (aX oB) (az oB) (ah oB) .none NT Mr O7 LO Ea Mf),PZ⟩)
  (c_q6:codeIn K Ea "need_points"=true) (k_q6:keepIn K (.ref yn)=true)
  (a_q17:nsIn K mainGlobals "need_way"=some (some (.ref pW)))
  (l_q17:K.lookup pW=some ⟨Ih,Iy,.func (fnOf "need_way" "need_way" (aX ig) (az ig) (ah ig) .none Hz Gu Jo FD xG FW),J0⟩)
  (c_q17:codeIn K xG "need_way"=true) (k_q17:keepIn K (.ref pW)=true)
  (a_q1:nsIn K mainGlobals "need_points_and_way"=some (some (.ref yh)))
  (l_q1:K.lookup yh=some ⟨Od,Ot,.func (fnOf "need_points_and_way" "need_points_and_way" (aX oo) (az oo) (ah oo) .none NM Mk O2 LI D5 L8),PR⟩)
  (c_q1:codeIn K D5 "need_points_and_way"=true) (k_q1:keepIn K (.ref yh)=true)
  (a_q10:nsIn K mainGlobals "need_bound"=some (some (.ref pP)))
  (l_q10:K.lookup pP=some ⟨HY,Im,.func (fnOf "need_bound" "need_bound" (aX hJ) (az hJ) (ah hJ) .none Hs Gj Jh Fu xx FO),JT⟩)
  (c_q10:codeIn K xx "need_bound"=true) (k_q10:keepIn K (.ref pP)=true)
  (a_q4:nsIn K mainGlobals "far_between"=some (some (.ref yk)))
  (l_q4:K.lookup yk=some ⟨Oh,Ow,.func (fnOf "far_between" "far_between" (aX oz) (az oz) (ah oz) .none NR Mp O5 LL D8 Mb),PX⟩)
  (c_q4:codeIn K D8 "far_between"=true) (k_q4:keepIn K (.ref yk)=true)
  (a_q2:nsIn K mainGlobals "pairs_by_places"=some (some (.ref yi)))
  (l_q2:K.lookup yi=some ⟨Oe,Ou,.func (fnOf "pairs_by_places" "pairs_by_places" (aX oq) (az oq) (ah oq) .none NP Ml O3 LJ D6 L9),PU⟩)
  (c_q2:codeIn K D6 "pairs_by_places"=true) (k_q2:keepIn K (.ref yi)=true)
  (a_q9:nsIn K mainGlobals "near_pairs"=some (some (.ref yr)))
  (l_q9:K.lookup yr=some ⟨Oo,OB,.func (fnOf "near_pairs" "near_pairs" (aX oE) (az oE) (ah oE) .none NW Mu Pa LU Ed Mi),Qb⟩)
  (c_q9:codeIn K Ed "near_pairs"=true) (k_q9:keepIn K (.ref yr)=true)
  (a_q20:nsIn K mainGlobals "joined"=some (some (.ref pZ)))
  (l_q20:K.lookup pZ=some ⟨Ik,IB,.func (fnOf "joined" "joined" (aX ip) (az ip) (ah ip) .none HC Gx Jr FH xJ FZ),J6⟩)
  (c_q20:codeIn K xJ "joined"=true) (k_q20:keepIn K (.ref pZ)=true)
  (a_q3:nsIn K mainGlobals "parts_within"=some (some (.ref yj)))
  (l_q3:K.lookup yj=some ⟨Og,Ov,.func (fnOf "parts_within" "parts_within" (aX ou) (az ou) (ah ou) .none NQ Mm O4 LK D7 Ma),PV⟩)
  (c_q3:codeIn K D7 "parts_within"=true) (k_q3:keepIn K (.ref yj)=true)
  (a_q14:nsIn K mainGlobals "_law_next"=some (some (.ref pT)))
  (l_q14:K.lookup pT=some ⟨Ic,Iu,.func (fnOf "_law_next" "_law_next" (aX h9) (az h9) (ah h9) .none Hw Gp Jl Fz xD FT),JX⟩)
  (c_q14:codeIn K xD "_law_next"=true) (k_q14:keepIn K (.ref pT)=true)
  (a_q15:nsIn K mainGlobals "_law_pots"=some (some (.ref pU)))
  (l_q15:K.lookup pU=some ⟨Ie,Iv,.func (fnOf "_law_pots" "_law_pots" (aX ic) (az ic) (ah ic) .none Hx Gq Jm FA xE FU),JY⟩)
  (c_q15:codeIn K xE "_law_pots"=true) (k_q15:keepIn K (.ref pU)=true)
  (a_q8:nsIn K mainGlobals "_law_points"=some (some (.ref yq)))
  (l_q8:K.lookup yq=some ⟨Om,OA,.func (fnOf "_law_points" "_law_points" (aX oD) (az oD) (ah oD) .none NV Mt O9 LR Ec Mh),Qa⟩)
  (c_q8:codeIn K Ec "_law_points"=true) (k_q8:keepIn K (.ref yq)=true)
  (a_q18:nsIn K mainGlobals "_law_far"=some (some (.ref pX)))
  (l_q18:K.lookup pX=some ⟨Ii,Iz,.func (fnOf "_law_far" "_law_far" (aX ik) (az ik) (ah ik) .none HA Gv Jp FE xH FX),J4⟩)
  (c_q18:codeIn K xH "_law_far"=true) (k_q18:keepIn K (.ref pX)=true)
  (a_q19:nsIn K mainGlobals "_law_way"=some (some (.ref pY)))
  (l_q19:K.lookup pY=some ⟨Ij,IA,.func (fnOf "_law_way" "_law_way" (aX il) (az il) (ah il) .none HB Gw Jq FG xI FY),J5⟩)
  (c_q19:codeIn K xI "_law_way"=true) (k_q19:keepIn K (.ref pY)=true)
  (a_q12:nsIn K mainGlobals "_law_pairs"=some (some (.ref pR)))
  (l_q12:K.lookup pR=some ⟨Ia,Iq,.func (fnOf "_law_pairs" "_law_pairs" (aX hZ) (az hZ) (ah hZ) .none Hu Gm Jj Fx xB FQ),JV⟩)
  (c_q12:codeIn K xB "_law_pairs"=true) (k_q12:keepIn K (.ref pR)=true)
  (a_q7:nsIn K mainGlobals "_law_bounds"=some (some (.ref yo)))
  (l_q7:K.lookup yo=some ⟨Ol,Oz,.func (fnOf "_law_bounds" "_law_bounds" (aX oC) (az oC) (ah oC) .none NU Ms O8 LQ Eb Mg),P0⟩)
  (c_q7:codeIn K Eb "_law_bounds"=true) (k_q7:keepIn K (.ref yo)=true)
  (a_q5:nsIn K mainGlobals "_law_reached"=some (some (.ref ym)))
  (l_q5:K.lookup ym=some ⟨Oi,Ox,.func (fnOf "_law_reached" "_law_reached" (aX oA) (az oA) (ah oA) .none NS Mq O6 LN D9 Md),PY⟩)
  (c_q5:codeIn K D9 "_law_reached"=true) (k_q5:keepIn K (.ref ym)=true)
  (a_q16:nsIn K mainGlobals "_law_same"=some (some (.ref pV)))
  (l_q16:K.lookup pV=some ⟨Ig,Iw,.func (fnOf "_law_same" "_law_same" (aX ie) (az ie) (ah ie) .none Hy Gr Jn FC xF FV),JZ⟩)
  (c_q16:codeIn K xF "_law_same"=true) (k_q16:keepIn K (.ref pV)=true)
  (a_q13:nsIn K mainGlobals "_law_right"=some (some (.ref pS)))
  (l_q13:K.lookup pS=some ⟨Ib,Ir,.func (fnOf "_law_right" "_law_right" (aX h8) (az h8) (ah h8) .none Hv Gn Jk Fy xC FR),JW⟩)
  (c_q13:codeIn K xC "_law_right"=true) (k_q13:keepIn K (.ref pS)=true)
  (a_q21:nsIn K mainGlobals "law"=some (some (.ref my)))
  (l_q21:K.lookup my=some ⟨Il,IC,.func (fnOf "law" "law" (aX eI) (az eI) (ah eI) .none y8 xX zP xn r9 xK),J7⟩)
  (c_q21:codeIn K r9 "law"=true) (k_q21:keepIn K (.ref my)=true)
  (z_abs:nsIn K mainGlobals "abs"=some none)
  (z_bool:nsIn K mainGlobals "bool"=some none)
  (z_enumerate:nsIn K mainGlobals "enumerate"=some none)
  (z_int:nsIn K mainGlobals "int"=some none)
  (z_isinstance:nsIn K mainGlobals "isinstance"=some none)
  (z_len:nsIn K mainGlobals "len"=some none)
  (z_list:nsIn K mainGlobals "list"=some none)
  (z_max:nsIn K mainGlobals "max"=some none)
  (z_min:nsIn K mainGlobals "min"=some none)
  (z_range:nsIn K mainGlobals "range"=some none)
  (z_sorted:nsIn K mainGlobals "sorted"=some none)
  (z_sum:nsIn K mainGlobals "sum"=some none)
  (z_tuple:nsIn K mainGlobals "tuple"=some none)
  (z_zip:nsIn K mainGlobals "zip"=some none)
  (u_SQUARES:nsIn K mainGlobals "SQUARES"=some (some (.str "squares" tD)))
  (u_STREETS:nsIn K mainGlobals "STREETS"=some (some (.str "streets" tE))):
  ∃fd:FuncData,(∀(s:Shared) (v:Value),BindsTo s fd ⟨[v],[]⟩ [("script",v)])/\∀base:Heap,K.In base->base.Ns mainGlobals mg->di l.prog w K mg base m8 7 fa fd ["script"] (uQ K):=by
 have e:=V1.symm.trans (mg_of X Gs a_q21);cases e;refine⟨fnOf "law" "law" (aX eI) (az eI) (ah eI) .none y8 xX zP xn r9 xK,λs v=>.of_eq rfl,λbase _ _=>?_⟩
 letI:KF:=⟨K,λ_=>0,[]⟩
 have E:Gl ⟨l.prog,w,K,mg,base⟩:=⟨mg_none_of X Gs z_abs,mg_none_of X Gs z_bool,mg_none_of X Gs z_enumerate,mg_none_of X Gs z_int,mg_none_of X Gs z_isinstance,mg_none_of X Gs z_len,mg_none_of X Gs z_list,mg_none_of X Gs z_max,mg_none_of X Gs z_min,mg_none_of X Gs z_range,mg_none_of X Gs z_sorted,mg_none_of X Gs z_sum,mg_none_of X Gs z_tuple,mg_none_of X Gs z_zip,⟨_,.str "squares",mg_of X Gs u_SQUARES,⟨_,rfl⟩,λF=>.str _⟩,⟨_,.str "streets",mg_of X Gs u_STREETS,⟨_,rfl⟩,λF=>.str _⟩⟩;have DP:=bM (K:=K) (st:=hR) l_q11 c_q11 k_q11;have xN:c9 ⟨l.prog,w,K,mg,base⟩ "need_count" hR ["count"] _ _:=⟨DP,mg_of X Gs a_q11,DP.binds λ_ _ _ _ _ _ us hl=>Ew (λ_=>rfl) us hl⟩;have Lf:=bM (K:=K) (st:=om) l_q0 c_q0 k_q0;have F8:c9 ⟨l.prog,w,K,mg,base⟩ "need_as_many_numbers" om ["point","count"] _ _:=⟨Lf,mg_of X Gs a_q0,Lf.binds λ_ _ _ _ _ _ us hl=>ln2 (λ_ _=>rfl) us hl⟩;have Ln:=bM (K:=K) (st:=oB) l_q6 c_q6 k_q6;have Gf:c9 ⟨l.prog,w,K,mg,base⟩ "need_points" oB ["points"] _ _:=⟨Ln,mg_of X Gs a_q6,Ln.binds λ_ _ _ _ _ _ us hl=>Ew (λ_=>rfl) us hl⟩;have DV:=bM (K:=K) (st:=ig) l_q17 c_q17 k_q17;have xS:c9 ⟨l.prog,w,K,mg,base⟩ "need_way" ig ["way"] _ _:=⟨DV,mg_of X Gs a_q17,DV.binds λ_ _ _ _ _ _ us hl=>Ew (λ_=>rfl) us hl⟩;have Lg:=bM (K:=K) (st:=oo) l_q1 c_q1 k_q1;have F9:c9 ⟨l.prog,w,K,mg,base⟩ "need_points_and_way" oo ["points","way"] _ _:=⟨Lg,mg_of X Gs a_q1,Lg.binds λ_ _ _ _ _ _ us hl=>ln2 (λ_ _=>rfl) us hl⟩;have DN:=bM (K:=K) (st:=hJ) l_q10 c_q10 k_q10;have xM:c9 ⟨l.prog,w,K,mg,base⟩ "need_bound" hJ ["bound"] _ _:=⟨DN,mg_of X Gs a_q10,DN.binds λ_ _ _ _ _ _ us hl=>Ew (λ_=>rfl) us hl⟩;have Lj:=bM (K:=K) (st:=oz) l_q4 c_q4 k_q4;have Gd:c9 ⟨l.prog,w,K,mg,base⟩ "far_between" oz ["way","point","other"] _ _:=⟨Lj,mg_of X Gs a_q4,Lj.binds λ_ _ _ _ _ _ us hl=>HJ (λ_ _ _=>rfl) us hl⟩;have Lh:=bM (K:=K) (st:=oq) l_q2 c_q2 k_q2;have Ga:c9 ⟨l.prog,w,K,mg,base⟩ "pairs_by_places" oq ["points","way"] _ _:=⟨Lh,mg_of X Gs a_q2,Lh.binds λ_ _ _ _ _ _ us hl=>ln2 (λ_ _=>rfl) us hl⟩;have Lr:=bM (K:=K) (st:=oE) l_q9 c_q9 k_q9;have Gi:c9 ⟨l.prog,w,K,mg,base⟩ "near_pairs" oE ["points","way","bound"] _ _:=⟨Lr,mg_of X Gs a_q9,Lr.binds λ_ _ _ _ _ _ us hl=>HJ (λ_ _ _=>rfl) us hl⟩;have DY:=bM (K:=K) (st:=ip) l_q20 c_q20 k_q20;have xV:c9 ⟨l.prog,w,K,mg,base⟩ "joined" ip ["leasts","i","j"] _ _:=⟨DY,mg_of X Gs a_q20,DY.binds λ_ _ _ _ _ _ us hl=>HJ (λ_ _ _=>rfl) us hl⟩;have Li:=bM (K:=K) (st:=ou) l_q3 c_q3 k_q3;have Gb:c9 ⟨l.prog,w,K,mg,base⟩ "parts_within" ou ["points","way","bound"] _ _:=⟨Li,mg_of X Gs a_q3,Li.binds λ_ _ _ _ _ _ us hl=>HJ (λ_ _ _=>rfl) us hl⟩
 have DS:=bM (K:=K) (st:=h9) l_q14 c_q14 k_q14;have xQ:c9 ⟨l.prog,w,K,mg,base⟩ "_law_next" h9 ["pot","many"] _ _:=⟨DS,mg_of X Gs a_q14,DS.binds λ_ _ _ _ _ _ us hl=>ln2 (λ_ _=>rfl) us hl⟩;have DT:=bM (K:=K) (st:=ic) l_q15 c_q15 k_q15;have xR:c9 ⟨l.prog,w,K,mg,base⟩ "_law_pots" ic ["script"] _ _:=⟨DT,mg_of X Gs a_q15,DT.binds λ_ _ _ _ _ _ us hl=>Ew (λ_=>rfl) us hl⟩;have Lq:=bM (K:=K) (st:=oD) l_q8 c_q8 k_q8;have Gh:c9 ⟨l.prog,w,K,mg,base⟩ "_law_points" oD ["pot","count","most"] _ _:=⟨Lq,mg_of X Gs a_q8,Lq.binds λ_ _ _ _ _ _ us hl=>HJ (λ_ _ _=>rfl) us hl⟩;have DW:=bM (K:=K) (st:=ik) l_q18 c_q18 k_q18;have xT:c9 ⟨l.prog,w,K,mg,base⟩ "_law_far" ik ["way","one","other"] _ _:=⟨DW,mg_of X Gs a_q18,DW.binds λ_ _ _ _ _ _ us hl=>HJ (λ_ _ _=>rfl) us hl⟩;have DX:=bM (K:=K) (st:=il) l_q19 c_q19 k_q19;have xU:c9 ⟨l.prog,w,K,mg,base⟩ "_law_way" il ["pot"] _ _:=⟨DX,mg_of X Gs a_q19,DX.binds λ_ _ _ _ _ _ us hl=>Ew (λ_=>rfl) us hl⟩;have DQ:=bM (K:=K) (st:=hZ) l_q12 c_q12 k_q12;have xO:c9 ⟨l.prog,w,K,mg,base⟩ "_law_pairs" hZ ["points","way"] _ _:=⟨DQ,mg_of X Gs a_q12,DQ.binds λ_ _ _ _ _ _ us hl=>ln2 (λ_ _=>rfl) us hl⟩;have Lp:=bM (K:=K) (st:=oC) l_q7 c_q7 k_q7;have Gg:c9 ⟨l.prog,w,K,mg,base⟩ "_law_bounds" oC ["pot","fars"] _ _:=⟨Lp,mg_of X Gs a_q7,Lp.binds λ_ _ _ _ _ _ us hl=>ln2 (λ_ _=>rfl) us hl⟩;have Lk:=bM (K:=K) (st:=oA) l_q5 c_q5 k_q5;have Ge:c9 ⟨l.prog,w,K,mg,base⟩ "_law_reached" oA ["many","pairs"] _ _:=⟨Lk,mg_of X Gs a_q5,Lk.binds λ_ _ _ _ _ _ us hl=>ln2 (λ_ _=>rfl) us hl⟩;have DU:=bM (K:=K) (st:=ie) l_q16 c_q16 k_q16;have mv:c9 ⟨l.prog,w,K,mg,base⟩ "_law_same" ie ["found","due"] _ _:=⟨DU,mg_of X Gs a_q16,DU.binds λ_ _ _ _ _ _ us hl=>ln2 (λ_ _=>rfl) us hl⟩;have DR:=bM (K:=K) (st:=h8) l_q13 c_q13 k_q13;have xP:c9 ⟨l.prog,w,K,mg,base⟩ "_law_right" h8 ["points","way","pairs","bound"] _ _:=⟨DR,mg_of X Gs a_q13,DR.binds λ_ _ _ _ _ _ us hl=>Vh (λ_ _ _ _=>rfl) us hl⟩;have DZ:=bM (K:=K) (st:=eI) l_q21 c_q21 k_q21;have xW:c9 ⟨l.prog,w,K,mg,base⟩ "law" eI ["script"] _ _:=⟨DZ,mg_of X Gs a_q21,DZ.binds λ_ _ _ _ _ _ us hl=>Ew (λ_=>rfl) us hl⟩;exact IE rfl rfl E xN F8 Gf xS F9 xM Gd Ga Gi xV Gb xQ xR Gh xT xU xO Gg Ge mv xP xW
theorem walk{l:PySem.W.OpenLaw}{q:Program}{loose:List Str}{XP:(Str->Option Value)->Heap->Prop}{YP:World->Heap->Prop}{d:DefRec}{K:Params->PySem.W.Frag}(hn:l.most=some 63)(M5:d.params.defaults=[])
  (hY:∀(w:World) (h:Heap),YP w h->(K w.params).In h)
  (F:∀(w:World) (mg:Str->Option Value) (fa:Addr) (h:Heap),(K w.params).In h->h.Ns mainGlobals mg->mg d.name=some (.ref fa) ->
   ∃fd:FuncData,(∀(s:Shared) (u:Value),BindsTo s fd ⟨[u],[]⟩ [("script",u)])/\∀base:Heap,(K w.params).In base->base.Ns mainGlobals mg->di l.prog w (K w.params) mg base m8 7 fa fd ["script"] (uQ (K w.params))):
  PySem.W.WalkO q loose XP YP l.row.toRowW d [] (λf vs=>PySem.call f vs):=
 L2.Dz (n:=63) (k:=7) (x:="script") (CX:=λ_=>m8) (sp:=λw=>uQ (K w.params)) hn ∅ M5 ⟨rfl,by decide,by decide⟩ hY F (λ_ _ a ns hl _ hS=>⟨a,ns,rfl,hS,hl,λ_=>rfl⟩) λ_ _ _ _ _ z=>z
end Rj
namespace PySem.W.Fast
theorem tw10102961577358791968:True:=⟨⟩
theorem tw10166793984597165469:True:=⟨⟩
theorem tw10229327347153090559:True:=⟨⟩
theorem tw10284276580240156035:True:=⟨⟩
theorem tw10393840483930983932:True:=⟨⟩
theorem tw10407706240538759702:True:=⟨⟩
theorem tw10598256443132777983:True:=⟨⟩
theorem tw10620235924393788982:True:=⟨⟩
theorem tw10625399202598566539:True:=⟨⟩
theorem tw10822777502514297960:True:=⟨⟩
theorem tw10876532014857683138:True:=⟨⟩
theorem tw10927281017945280674:True:=⟨⟩
theorem tw11053747625489725806:True:=⟨⟩
theorem tw11154769738089382476:True:=⟨⟩
theorem tw11211441633460192241:True:=⟨⟩
theorem tw11364686447257721533:True:=⟨⟩
theorem tw11365844168102936475:True:=⟨⟩
theorem tw11392219961963634106:True:=⟨⟩
theorem tw11631658333871688740:True:=⟨⟩
theorem tw11786894013356248609:True:=⟨⟩
theorem tw11822295960360228946:True:=⟨⟩
theorem tw11914792507871993821:True:=⟨⟩
theorem tw11997738552925333885:True:=⟨⟩
theorem tw12205324426124968775:True:=⟨⟩
theorem tw12224651001594848947:True:=⟨⟩
theorem tw12563030087263763374:True:=⟨⟩
theorem tw12828512599495109278:True:=⟨⟩
theorem tw12844392972916763126:True:=⟨⟩
theorem tw13137659072696396068:True:=⟨⟩
theorem tw13184180230759089397:True:=⟨⟩
theorem tw13305085274419803837:True:=⟨⟩
theorem tw13305095614317409881:True:=⟨⟩
theorem tw13652082169300404830:True:=⟨⟩
theorem tw13683942856529322731:True:=⟨⟩
theorem tw14125296784287184290:True:=⟨⟩
theorem tw14203756870866828171:True:=⟨⟩
theorem tw1421927366213841217:True:=⟨⟩
theorem tw14309666466196309644:True:=⟨⟩
theorem tw14609885831290320688:True:=⟨⟩
theorem tw14699329761410086990:True:=⟨⟩
theorem tw14863884217663593916:True:=⟨⟩
theorem tw1497208135988277904:True:=⟨⟩
theorem tw14974853683460530143:True:=⟨⟩
theorem tw1531732232953300327:True:=⟨⟩
theorem tw15500598742845802266:True:=⟨⟩
theorem tw15575461824599433456:True:=⟨⟩
theorem tw15636246566876185370:True:=⟨⟩
theorem tw15880270897481976722:True:=⟨⟩
theorem tw16057308347664996001:True:=⟨⟩
theorem tw16289671281097205263:True:=⟨⟩
theorem tw1629222635923010227:True:=⟨⟩
theorem tw16353627903139555458:True:=⟨⟩
theorem tw16440644888983485152:True:=⟨⟩
theorem tw16493354318411143477:True:=⟨⟩
theorem tw16496416333387714305:True:=⟨⟩
theorem tw16508769524137698199:True:=⟨⟩
theorem tw16536942237575762525:True:=⟨⟩
theorem tw16710191838256818039:True:=⟨⟩
theorem tw167366664581789707:True:=⟨⟩
theorem tw16951362344175669484:True:=⟨⟩
theorem tw17293999570310436251:True:=⟨⟩
theorem tw17434017272112633550:True:=⟨⟩
theorem tw17486547260562241416:True:=⟨⟩
theorem tw17583234032066092534:True:=⟨⟩
theorem tw17825257568029332801:True:=⟨⟩
theorem tw18338402864426197066:True:=⟨⟩
theorem tw18359315888193306685:True:=⟨⟩
theorem tw1885359685509042275:True:=⟨⟩
theorem tw1963658037619078891:True:=⟨⟩
theorem tw2218326858091880830:True:=⟨⟩
theorem tw2295194366382680276:True:=⟨⟩
theorem tw2383194383348344225:True:=⟨⟩
theorem tw2417431931717663585:True:=⟨⟩
theorem tw2744654784833182704:True:=⟨⟩
theorem tw282039239224928079:True:=⟨⟩
theorem tw286256628873145320:True:=⟨⟩
theorem tw2877146042696746617:True:=⟨⟩
theorem tw3395067003442487423:True:=⟨⟩
theorem tw3644356590169770852:True:=⟨⟩
theorem tw3655404196816405048:True:=⟨⟩
theorem tw3830399220745562833:True:=⟨⟩
theorem tw3838768982314380678:True:=⟨⟩
theorem tw3913425866011802641:True:=⟨⟩
theorem tw4073998049171889977:True:=⟨⟩
theorem tw4195814221463394040:True:=⟨⟩
theorem tw4315205295274089000:True:=⟨⟩
theorem tw4564895386189449566:True:=⟨⟩
theorem tw4592436361695399714:True:=⟨⟩
theorem tw4753851934596927169:True:=⟨⟩
theorem tw4771588904192611394:True:=⟨⟩
theorem tw4787440154227125085:True:=⟨⟩
theorem tw4795570921788763963:True:=⟨⟩
theorem tw4815310922379206693:True:=⟨⟩
theorem tw4876870299369909324:True:=⟨⟩
theorem tw4939626339704753930:True:=⟨⟩
theorem tw5157472507549867578:True:=⟨⟩
theorem tw5264263639519448315:True:=⟨⟩
theorem tw5309427091598735523:True:=⟨⟩
theorem tw5806456665077644835:True:=⟨⟩
theorem tw5822017294604525769:True:=⟨⟩
theorem tw5952967336454999303:True:=⟨⟩
theorem tw6077109972371528030:True:=⟨⟩
theorem tw6333473883295262595:True:=⟨⟩
theorem tw6345908701673324898:True:=⟨⟩
theorem tw6419372998665319177:True:=⟨⟩
theorem tw6423744640167288271:True:=⟨⟩
theorem tw6468371254509211348:True:=⟨⟩
theorem tw6841717873634409645:True:=⟨⟩
theorem tw7188597556680087374:True:=⟨⟩
theorem tw7605424177554175120:True:=⟨⟩
theorem tw811597256400846237:True:=⟨⟩
theorem tw8358203048528507374:True:=⟨⟩
theorem tw8446305602826038597:True:=⟨⟩
theorem tw8490116799850973286:True:=⟨⟩
theorem tw8510728684918286481:True:=⟨⟩
theorem tw8558114825558083094:True:=⟨⟩
theorem tw8732310642354677279:True:=⟨⟩
theorem tw8842883855487161467:True:=⟨⟩
theorem tw9289326731070794542:True:=⟨⟩
theorem tw9290092660059633141:True:=⟨⟩
theorem tw9306479479804709425:True:=⟨⟩
theorem tw9308066915621919662:True:=⟨⟩
theorem tw9637796660078251800:True:=⟨⟩
theorem tw9981783127872117005:True:=⟨⟩
end PySem.W.Fast
open PySem PySem.W PyProof.Rows
set_option maxRecDepth 100000 in
set_option maxHeartbeats 0 in
theorem PySem.Challenge.cw_closepoints_k26_parts_told_holds : PySem.Challenge.rw_closepoints_k26_parts_told.Holds := by
 w_on;o_law;z_head;(case hw=>w_witness2)
 k_fill
 refine Vc.KI (λ_=>by kernel_rfl) (Rj.walk (l:=PySem.Challenge.rw_closepoints_k26_parts_told) rfl rfl (λw h Y=>Y) ?F)
 case F =>
  intro w mg fa h KX G hmg;refine' Rj.all_mk KX G hmg ?a_q11 ?l_q11 ?c_q11 ?k_q11 ?a_q0 ?l_q0 ?c_q0 ?k_q0 ?a_q6 ?l_q6 ?c_q6 ?k_q6 ?a_q17 ?l_q17 ?c_q17 ?k_q17 ?a_q1 ?l_q1 ?c_q1 ?k_q1 ?a_q10 ?l_q10 ?c_q10 ?k_q10 ?a_q4 ?l_q4 ?c_q4 ?k_q4 ?a_q2 ?l_q2 ?c_q2 ?k_q2 ?a_q9 ?l_q9 ?c_q9 ?k_q9 ?a_q20 ?l_q20 ?c_q20 ?k_q20 ?a_q3 ?l_q3 ?c_q3 ?k_q3 ?a_q14 ?l_q14 ?c_q14 ?k_q14 ?a_q15 ?l_q15 ?c_q15 ?k_q15 ?a_q8 ?l_q8 ?c_q8 ?k_q8 ?a_q18 ?l_q18 ?c_q18 ?k_q18 ?a_q19 ?l_q19 ?c_q19 ?k_q19 ?a_q12 ?l_q12 ?c_q12 ?k_q12 ?a_q7 ?l_q7 ?c_q7 ?k_q7 ?a_q5 ?l_q5 ?c_q5 ?k_q5 ?a_q16 ?l_q16 ?c_q16 ?k_q16 ?a_q13 ?l_q13 ?c_q13 ?k_q13 ?a_q21 ?l_q21 ?c_q21 ?k_q21 ?z_abs ?z_bool ?z_enumerate ?z_int ?z_isinstance ?z_len ?z_list ?z_max ?z_min ?z_range ?z_sorted ?z_sum ?z_tuple ?z_zip ?u_SQUARES ?u_STREETS
  (case a_q11=>k_is)
  (case l_q11=>k_is)
  (case c_q11=>k_is)
  (case k_q11=>k_is)
  (case a_q0=>k_is)
  (case l_q0=>k_is)
  (case c_q0=>k_is)
  (case k_q0=>k_is)
  (case a_q6=>k_is)
  (case l_q6=>k_is)
  (case c_q6=>k_is)
  (case k_q6=>k_is)
  (case a_q17=>k_is)
  (case l_q17=>k_is)
  (case c_q17=>k_is)
  (case k_q17=>k_is)
  (case a_q1=>k_is)
  (case l_q1=>k_is)
  (case c_q1=>k_is)
  (case k_q1=>k_is)
  (case a_q10=>k_is)
  (case l_q10=>k_is)
  (case c_q10=>k_is)
  (case k_q10=>k_is)
  (case a_q4=>k_is)
  (case l_q4=>k_is)
  (case c_q4=>k_is)
  (case k_q4=>k_is)
  (case a_q2=>k_is)
  (case l_q2=>k_is)
  (case c_q2=>k_is)
  (case k_q2=>k_is)
  (case a_q9=>k_is)
  (case l_q9=>k_is)
  (case c_q9=>k_is)
  (case k_q9=>k_is)
  (case a_q20=>k_is)
  (case l_q20=>k_is)
  (case c_q20=>k_is)
  (case k_q20=>k_is)
  (case a_q3=>k_is)
  (case l_q3=>k_is)
  (case c_q3=>k_is)
  (case k_q3=>k_is)
  (case a_q14=>k_is)
  (case l_q14=>k_is)
  (case c_q14=>k_is)
  (case k_q14=>k_is)
  (case a_q15=>k_is)
  (case l_q15=>k_is)
  (case c_q15=>k_is)
  (case k_q15=>k_is)
  (case a_q8=>k_is)
  (case l_q8=>k_is)
  (case c_q8=>k_is)
  (case k_q8=>k_is)
  (case a_q18=>k_is)
  (case l_q18=>k_is)
  (case c_q18=>k_is)
  (case k_q18=>k_is)
  (case a_q19=>k_is)
  (case l_q19=>k_is)
  (case c_q19=>k_is)
  (case k_q19=>k_is)
  (case a_q12=>k_is)
  (case l_q12=>k_is)
  (case c_q12=>k_is)
  (case k_q12=>k_is)
  (case a_q7=>k_is)
  (case l_q7=>k_is)
  (case c_q7=>k_is)
  (case k_q7=>k_is)
  (case a_q5=>k_is)
  (case l_q5=>k_is)
  (case c_q5=>k_is)
  (case k_q5=>k_is)
  (case a_q16=>k_is)
  (case l_q16=>k_is)
  (case c_q16=>k_is)
  (case k_q16=>k_is)
  (case a_q13=>k_is)
  (case l_q13=>k_is)
  (case c_q13=>k_is)
  (case k_q13=>k_is)
  (case a_q21=>k_is)
  (case l_q21=>k_is)
  (case c_q21=>k_is)
  (case k_q21=>k_is)
  (case z_abs=>k_is)
  (case z_bool=>k_is)
  (case z_enumerate=>k_is)
  (case z_int=>k_is)
  (case z_isinstance=>k_is)
  (case z_len=>k_is)
  (case z_list=>k_is)
  (case z_max=>k_is)
  (case z_min=>k_is)
  (case z_range=>k_is)
  (case z_sorted=>k_is)
  (case z_sum=>k_is)
  (case z_tuple=>k_is)
  (case z_zip=>k_is)
  (case u_SQUARES=>k_is)
  (case u_STREETS=>k_is)
