import PyProof.Rows.All
import Wide.All
import OpenK.AllK
import Wide.FinOn
import Lean
import PyProof.EqAt
import PyProof.EqKinds
import PyProof.TupleCall
import PySem.Challenge.RW_closepoints_k28_bounds_for_parts
noncomputable section
set_option Elab.async false
set_option linter.all false
set_option hygiene false
local macro_rules | `(tactic| omega) => `(tactic| first | lia | omega +splitNatSub)
local macro_rules | `(⋯) => `((by omega))
local macro_rules | `(∅) => `((by decide))
set_option maxRecDepth 100000
local macro_rules | `(tactic| walk_at "3") => `(tactic| first | exact Nat.succ_pos _ | assumption | exact L2.Inv.tk (by assumption) | exact Nat.lt_of_lt_of_le (L2.Inv.tk (by assumption)) (by assumption))
local macro_rules|`(tactic| walk_at "9")=>`(tactic| first|k_is|kernel_rfl|decide)
local macro_rules | `(tactic| ac_rfl) => `(tactic| walk_at "9")
set_option compiler.extract_closed false
namespace L2
open PySem
def EA{α:Type}(t:Sem α):Prop:=∀(M:Model) (Γ:Ctx) (Q:α->Pos->Shared->Prop) (E:Value->Pos->Shared->Prop) (p:Pos) (s:Shared),PySem.Sem.wp M Γ t Q E p s->PySem.Sem.wp M Γ t (λx p s=>0<s.toks/\Q x p s) E p s
theorem g9{α β:Type}{m:Sem α}{k:α->Sem β}(h1:EA m):EA (m >>= k):=λM Γ Q E p s h=>by
 rw[PySem.Sem.wp_bind']at h ⊢;refine PySem.Sem.wp_mono M Γ m (λx p' s' z=>?_) (λ_ _ _ z=>z) p s (h1 M Γ _ _ p s h);exact PySem.Sem.wp_mono M Γ (k x) (λ_ _ _ w=>w) (λ_ _ _ w=>w.2) p' s' (PySem.Sem.wp_toks M Γ 1 (k x) _ _ p' s' z.1 z.2)
theorem ly{α β:Type}{m:Sem α}{k:α->Sem β}(h2:∀x,EA (k x)):EA (m >>= k):=λM Γ Q E p s h=>by
 rw[PySem.Sem.wp_bind']at h ⊢;exact PySem.Sem.wp_mono M Γ m (λx p' s' z=>h2 x M Γ Q E p' s' z) (λ_ _ _ z=>z) p s h
theorem BD{α:Type}{k:Tok->Sem α}:EA (fresh >>= k):=g9 λM Γ Q E p s h=>⟨Nat.succ_pos _,h⟩
theorem Fu(x:Str):EA (mkText x):=BD
theorem BE(ns:Addr)(x:Str)(v:Value):EA (nsSet ns x v):=ly λ_=>g9 (Fu x)
theorem BF{env:Env}{x:Str}{v:Value}(hk:env.kindOf x=some .local)(hc:env.scope.kind=.function):EA (storeName env x v):=by
 unfold storeName;rw[hk,hc];exact BE _ _ _
theorem yE{scope:Scope}{g:Addr}{cl:List (Str×Addr)}{x:Str}{v:Value}{bs:List (Str×Value)}{qual:Str}{f:Option Addr}{code:Value}{bi:Addr}(hx:scope.names.lookup x=some .local)(hk:scope.kind=.function):EA (newFunctionEnv scope g cl ((x,v)::bs) qual f code none bi):=by
 unfold newFunctionEnv;refine ly λL=>ly λcs=>g9 ?_;rw[List.forIn_cons];exact g9 (g9 (BF hx hk))
theorem yp{α:Type}{M:Model}{A:Around}{t:Sem α}{Q:α->Shared->Prop}{E:Value->Shared->Prop}{s:Shared}(f:EA t)(h:wpAny M A t (λa s'=>0<s'.toks->Q a s') E s):wpAny M A t Q E s:=λΓ p Yh =>
 PySem.Sem.wp_mono M Γ t (λ_ _ _ w=>w.2 w.1) (λ_ _ _ w=>w) p s (f M Γ _ _ p s (h Γ p Yh))
theorem KZ{M:Model}{A:Around}{s:Shared}{scope:Scope}{g:Addr}{cl:List (Str×Addr)}{bs:List (Str×Value)}{qual:Str}{f:Option Addr}{code:Value}{bi:Addr}{Q:Env->Shared->Prop}{E:Value->Shared->Prop}
  (hz:0<s.toks\/∃y v r,bs=(y,v)::r/\scope.names.lookup y=some .local) (hk:scope.kind=.function) (h:wpAny M A (newFunctionEnv scope g cl bs qual f code none bi) (λa s'=>0<s'.toks->Q a s') E s):wpAny M A (newFunctionEnv scope g cl bs qual f code none bi) Q E s:=by
 rcases hz with hz|⟨y,v,r,rfl,hy⟩
 ·exact wpAny_with_toks (n:=1) hz (wpAny_mono h (λ_ _ z=>z) λ_ _ z _=>z)
 ·exact yp (yE hy hk) h
def yk(fd:FuncData)(ps:List Str):Prop:=∃y r,ps=y::r/\fd.scope.names.lookup y=some .local
theorem CY{fd:FuncData}{ps:List Str}{us:List Value}{n:Nat}(h:0<n\/yk fd ps)(hl:us.length=ps.length):0<n\/∃y v r,ps.zip us=(y,v)::r/\fd.scope.names.lookup y=some .local:=by
 rcases h with h|⟨y,r,rfl,hy⟩
 ·exact .inl h
 ·cases us with
  | nil=>simp at hl
  | cons v us=>exact .inr ⟨y,v,_,rfl,hy⟩
end L2
namespace L2
open PySem PySem.Spec PyProof.Rows
abbrev Key:=Sum Int Str
def nZ:Key->Value->Bool
 | .inl k,v=>Value.isInt k v
 | .inr x,v=>Value.isStrOf x v
def Yn(w:World):Key->Int
 | .inl k=>hashInt k
 | .inr x=>hashStr w x
theorem bQ:∀ {k:Key} {v:Value},nZ k v=true->(∃i t,k=Sum.inl i/\v=Value.int i t)\/(∃x t,k=Sum.inr x/\v=Value.str x t)
 | .inl i,v,h=>by
  obtain⟨t,e⟩:=Value.isInt_shape (k:=i) (v:=v) h;exact .inl ⟨i,t,rfl,e⟩
 | .inr x,v,h=>by
  obtain⟨t,e⟩:=Value.isStrOf_shape (x:=x) (v:=v) h;exact .inr ⟨x,t,rfl,e⟩
theorem yT(i:Int)(t:Tok):nZ (.inl i) (.int i t)=true:=by simp [nZ,Value.isInt]
theorem yU(x:Str)(t:Tok):nZ (.inr x) (.str x t)=true:=by simp [nZ,Value.isStrOf]
theorem Ms(a b:Int):decide ((Sum.inl a:Key)=Sum.inl b)=(a==b):=by
 by_cases e:a=b
 ·subst e;simp
 ·have h:¬(Sum.inl a:Key)=Sum.inl b:=λq=>e (Sum.inl.inj q)
  rw[decide_eq_false h];exact(beq_eq_false_iff_ne.mpr e).symm
theorem Mv(a b:Str):decide ((Sum.inr a:Key)=Sum.inr b)=decide (a=b):=by
 by_cases e:a=b
 ·subst e;simp
 ·have h:¬(Sum.inr a:Key)=Sum.inr b:=λq=>e (Sum.inr.inj q)
  rw[decide_eq_false h,decide_eq_false e]
theorem Mt(a:Int)(b:Str):decide ((Sum.inl a:Key)=Sum.inr b)=false:=decide_eq_false (λq=>nomatch q)
theorem Mu(a:Str)(b:Int):decide ((Sum.inr a:Key)=Sum.inl b)=false:=decide_eq_false (λq=>nomatch q)
def cb(prog:Program)(w:World):PySem.KeyKind prog w Key where
 is:=nZ
 hash:=Yn w
 inj:=λv a b ha hb=>by
  rcases bQ ha with⟨i,t,rfl,rfl⟩|⟨x,t,rfl,rfl⟩
  ·rcases bQ hb with⟨j,u,rfl,e⟩|⟨y,u,rfl,e⟩
   ·injection e with e1 _;rw[e1]
   ·exact nomatch e
  ·rcases bQ hb with⟨j,u,rfl,e⟩|⟨y,u,rfl,e⟩
   ·exact nomatch e
   ·injection e with e1 _;rw[e1]
 byValue:=λk v h=>by
  rcases bQ h with⟨i,t,rfl,rfl⟩|⟨x,t,rfl,rfl⟩<;>rfl
 pyHash:=λhv h=>by
  rcases bQ hv with⟨i,t,rfl,rfl⟩|⟨x,t,rfl,rfl⟩
  ·exact wpAny_pyHash_int h
  ·exact wpAny_pyHash_str h
 eqBool:=λhu hv h=>by
  rcases bQ hu with⟨i,t,rfl,rfl⟩|⟨x,t,rfl,rfl⟩
  ·rcases bQ hv with⟨j,u,rfl,rfl⟩|⟨y,u,rfl,rfl⟩
   ·rw[Ms]at h;exact wpAny_eqBool_int h
   ·rw[Mt]at h;exact SeqAt.EqAt.int_str i t y u _ _ _ _ h
  ·rcases bQ hv with⟨j,u,rfl,rfl⟩|⟨y,u,rfl,rfl⟩
   ·rw[Mu]at h;exact SeqAt.EqAt.str_int x t j u _ _ _ _ h
   ·rw[Mv]at h;exact wpAny_eqBool_str h
 «strs»:=λk x t v h=>by
  rcases bQ h with⟨i,u,rfl,e⟩|⟨y,u,rfl,e⟩
  ·exact nomatch e
  ·injection e with e1 _
   subst e1;cases v<;>rfl
theorem tT(prog:Program)(w:World)(i:Int)(t:Tok):(cb prog w).is (.inl i) (.int i t)=true:=yT i t
theorem tU(prog:Program)(w:World)(x:Str)(t:Tok):(cb prog w).is (.inr x) (.str x t)=true:=yU x t
end L2
namespace L2
open PySem PySem.Spec PyProof.Rows
inductive V where
 | bx|bl (b:Bool)|int (i:Int)|str (x:Str)|Rh (b:Array UInt8)|Lh (b:UInt64)|ref (a:Addr)|ty (n:String)|tk (i:Int)
 deriving DecidableEq
def RelV:V->Value->Prop
 | .bx,u=>u=Value.none
 | .bl b,u=>u=Value.bool b
 | .int i,u=>∃t,u=Value.int i t
 | .str x,u=>∃t,u=Value.str x t
 | .Rh b,u=>∃t,u=Value.bytes b t
 | .Lh b,u=>∃t,u=Value.float b t
 | .ref a,u=>u=Value.ref a
 | .ty n,u=>u=Value.type n
 | .tk i,u=>∃t,u=Value.int i t/\t≠0
abbrev Vals:List V->List Value->Prop:=Paired RelV
theorem Vals.length{xs:List V}{us:List Value}(r:Vals xs us):xs.length=us.length:=Paired.length r
theorem Vals.get:∀ {xs:List V} {us:List Value} {i:Nat} {x:V},Vals xs us->xs[i]?=some x->∃u,us[i]?=some u/\RelV x u
 | _,_,_,_,.nil,e=>by simp at e
 | _,_,0,_,.cons r _,e=>by simp at e;subst e;exact⟨_,rfl,r⟩
 | _,_,i+1,x,.cons _ t,e=>by
  obtain⟨u,h1,h2⟩:=Vals.get (i:=i) (x:=x) t (by simpa using e)
  exact⟨u,by simpa using h1,h2⟩
theorem Vals.set{x:V}{u:Value}(r:RelV x u):∀ {xs:List V} {us:List Value} (i:Nat),Vals xs us->Vals (xs.set i x) (us.set i u)
 | _,_,_,.nil=>.nil
 | _,_,0,.cons _ t=>.cons r t
 | _,_,i+1,.cons q t=>.cons q (Vals.set r i t)
theorem Vals.append:∀ {xs ys:List V} {us ws:List Value},Vals xs us->Vals ys ws->Vals (xs++ys) (us++ws)
 | _,_,_,_,.nil,s=>s
 | _,_,_,_,.cons r t,s=>.cons r (Vals.append t s)
theorem Vals.take:∀ {xs:List V} {us:List Value} (n:Nat),Vals xs us->Vals (xs.take n) (us.take n)
 | _,_,0,_=>.nil
 | _,_,_+1,.nil=>.nil
 | _,_,n+1,.cons r t=>.cons r (Vals.take n t)
theorem Vals.drop:∀ {xs:List V} {us:List Value} (n:Nat),Vals xs us->Vals (xs.drop n) (us.drop n)
 | _,_,0,r=>r
 | _,_,_+1,.nil=>.nil
 | _,_,n+1,.cons _ t=>Vals.drop n t
def vg:Option V->Option Value->Prop
 | some v,some u=>RelV v u
 | none,none=>True
 | _,_=>False
def KV{κ:Type}:List (κ×V)->List (κ×Value)->Prop:=Paired λ(p:κ×V) (q:κ×Value)=>p.1=q.1/\RelV p.2 q.2
def kV:Key->V
 | .inl i=>.int i
 | .inr x=>.str x
inductive HO where
 /-- a list -/
 | lst (xs:List V)
 /-- a tuple (never changes) -/
 | tup (xs:List V)
 /-- a dict whose keys are ints and texts;one whose keys are tuples of ints and texts (the empty one is both) -/
 | dK (kvs:List (Key×V))|dT (kvs:List (List Key×V))
 /-- a set of ints: its members,its size -/
 | set (S:Int->Bool) (n:Nat)
 /-- an instance of the class at C,its dict at dx,its attributes -/
 | ins (C dx:Addr) (fs:List (Str×V))
 /-- the dict of the instance at x -/
 | own (x:Addr)
 /-- the dict of an exception -/
 | xd (fs:List (Str×V))
 /-- a bound method,f of x -/
 | met (f x:Addr)
 /-- a range object lo,lo+1,.. below hi -/
 | Ow (lo hi:Int)
 /-- a thing that is known to the object (the script;a dict while a loop walks it): read,never written while it is so -/
 | nQ (o:Obj) (u:HO)
 /-- a code object's table -/
 | PN (ps:Array Value)
 /-- the same,and it may grow by the code of one lambda: as it was,the lambda's place,its name -/
 | lam (ps:Array Value) (pos:Pos) (qual:Str)
 /-- any other thing,by what is true of its one object (a def of one's own: SetO a S n:=HO.ext λh=>..) -/
 | ext (φ:Heap->Prop)
abbrev Hp:=Addr->Option HO
def upd(H:Hp)(a:Addr)(o:HO):Hp:=λb=>if b=a then some o else H b
theorem aB{H:Hp}{a:Addr}{o:HO}:upd H a o a=some o:=by unfold upd;rw[if_pos rfl]
theorem aq{H:Hp}{a b:Addr}{o:HO}(h:b≠a):upd H a o b=H b:=by unfold upd;rw[if_neg h]
theorem Ua{H:Hp}{a b:Addr}{o u:HO}(h:H a=some o)(h':H b=some u)(d:o≠u):a≠b:=by
 intro e;subst e;rw[h]at h';exact d (Option.some.inj h')
theorem bN{H:Hp}{a b:Addr}{o:HO}(h:H a=some o)(h':H b=none):a≠b:=by
 intro e;subst e;rw[h]at h';cases h'
section
variable (P:Program)(w:World)
def bL(H:Hp)(h:Heap)(a:Addr):HO->Prop
 | .lst xs=>xs.length<=sizeLine/\∃(its:List Value) (n:Nat),Vals xs its/\h.get? a=some {cls:=.type "list",data:=.seq its.toArray n}
 | .tup xs=>xs.length<=sizeLine/\∃its:List Value,Vals xs its/\IsTup h a its.toArray
 | .dK kvs=>kvs.length<=sizeLine/\(a==sysModules)=false/\∃vs,KV kvs vs/\h.DictOf (cb P w) a vs
 | .dT kvs=>kvs.length<=sizeLine/\(a==sysModules)=false/\∃xs:List (List Key×Addr×Value),
   Paired (λ(p:List Key×V) (q:List Key×Addr×Value)=>p.1=q.1/\H q.2.1=some (.tup (p.1.map kV))/\RelV p.2 q.2.2) kvs xs /\
   ∃o es ep,h.get? a=some o/\o.ExactDict/\o.data=.dict es ep/\es.toList=xs.map (entryOfKey (tupleKind (cb P w)))/\(xs.map (·.1)).Nodup
 | .set S n=>h.SetOf (intKind P w) a S n
 | .ins C dx fs=>H dx=some (.own a)/\fs.length<=1000/\dx≠a/\h.get? a=some (PySem.W.instObj C dx) /\
   ∃mA,h.Ns1 dx mA/\(∀f,vg (fs.lookup f) (mA f))/\PySem.Within mA (fs.map (·.1))
 | .own _=>∃o,h.get? a=some o
 | .xd fs=>∃mA,h.Ns1 a mA/\∀f,vg (fs.lookup f) (mA f)
 | .Ow lo hi=>∃t u v,h.get? a=some {cls:=.type "range",data:=.fields #[.int lo t,.int hi u,.int 1 v]}
 | .nQ o u=>h.get? a=some o/\bL H h a u
 | .PN ps=>h.get? a=some {cls:=.none,data:=.fields ps}
 | .lam ps pos qual=>∃more,h.get? a=some {cls:=.none,data:=.fields (ps++more)}/\TriplesOk (ps++more).toList/\(codeAmong pos (ps++more).toList=none\/∃c' o vs t,codeAmong pos (ps++more).toList=some (.ref c')/\H c'=some (.nQ o (.own a))/\o.data=.fields vs/\vs[1]?=some (.str qual t))
 | .met f x=>h.get? a=some (PySem.W.methodObj (.ref f) (.ref x))
 | .ext φ=>φ h/\(∃o,h.get? a=some o)/\∀h1 h2:Heap,φ h1->(∀o,h1.get? a=some o->h2.get? a=some o)->φ h2
def fW(H:Hp)(h:Heap):Prop:=∀a o,H a=some o->bL P w H h a o
end
section
variable {P:Program}{w:World}{H H':Hp}{h h':Heap}{a:Addr}{o:HO}
theorem bL.lt(x:bL P w H h a o):a<h.objs.size:=by
 cases o with
 | lst xs=>obtain⟨_,_,_,_,e⟩:=x;exact Heap.lt_size e
 | tup xs=>obtain⟨_,_,_,p⟩:=x;exact p.lt
 | dK kvs=>obtain⟨_,_,_,_,o,_,_,e,_⟩:=x;exact Heap.lt_size e
 | dT kvs=>obtain⟨_,_,_,_,o,_,_,e,_⟩:=x;exact Heap.lt_size e
 | set S n=>obtain⟨o,_,_,_,e,_⟩:=x;exact Heap.lt_size e
 | ins C dx fs=>obtain⟨_,_,_,e,_⟩:=x;exact Heap.lt_size e
 | own y=>obtain⟨_,e⟩:=x;exact Heap.lt_size e
 | xd fs=>obtain⟨_,⟨_,_,_,e,_⟩,_⟩:=x;exact Heap.lt_size e
 | Ow lo hi=>obtain⟨_,_,_,e⟩:=x;exact Heap.lt_size e
 | nQ ob u=>obtain⟨e,_⟩:=x;exact Heap.lt_size e
 | PN ps=>exact Heap.lt_size (show h.get? a=some _ from x)
 | lam ps pos qual=>obtain⟨_,e,_⟩:=x;exact Heap.lt_size e
 | met f y=>exact Heap.lt_size (show h.get? a=some _ from x)
 | ext φ=>obtain⟨_,⟨_,e⟩,_⟩:=x;exact Heap.lt_size e
theorem Paired.MB{α β:Type}{F G:α->β->Prop}:∀ {l₁:List α} {T8:List β},Paired F l₁ T8->(∀a b,F a b->G a b)->Paired G l₁ T8
 | _,_,.nil,_=>.nil
 | _,_,.cons r t,f=>.cons (f _ _ r) (Paired.MB t f)
theorem bL.ni(x:bL P w H h a o)(k:∀b u,(b=a\/H b=some (.own a))->h.get? b=some u->h'.get? b=some u)
  (ho:∀b,H b=some (.own a)->H' b=some (.own a)) (ht:∀b xs,H b=some (.tup xs)->H' b=some (.tup xs)) (hf:∀b o u,H b=some (.nQ o u)->H' b=some (.nQ o u):=by exactλ_ _ _ q=>q):bL P w H' h' a o:=by
 induction o with
 | lst xs=>obtain⟨z,its,n,r,e⟩:=x;exact⟨z,its,n,r,k _ _ (.inl rfl) e⟩
 | tup xs=>obtain⟨z,its,r,ob,e,c⟩:=x;exact⟨z,its,r,ob,k _ _ (.inl rfl) e,c⟩
 | dK kvs=>obtain⟨z,y,vs,r,ob,es,ep,e,c⟩:=x;exact⟨z,y,vs,r,ob,es,ep,k _ _ (.inl rfl) e,c⟩
 | dT kvs =>
  obtain⟨z,y,xs,r,ob,es,ep,e,c⟩:=x;exact⟨z,y,xs,Paired.MB r λp q z=>⟨z.1,ht _ _ z.2.1,z.2.2⟩,ob,es,ep,k _ _ (.inl rfl) e,c⟩
 | set S n=>obtain⟨ob,es,ep,t,e,c⟩:=x;exact⟨ob,es,ep,t,k _ _ (.inl rfl) e,c⟩
 | ins C dx fs =>
  obtain⟨d,z,ne,e,mA,⟨od,es,ep,e2,c⟩,r⟩:=x;exact⟨ho _ d,z,ne,k _ _ (.inl rfl) e,mA,⟨od,es,ep,k _ _ (.inr d) e2,c⟩,r⟩
 | own y=>obtain⟨ob,e⟩:=x;exact⟨ob,k _ _ (.inl rfl) e⟩
 | xd fs=>obtain⟨mA,⟨od,es,ep,e,c⟩,r⟩:=x;exact⟨mA,⟨od,es,ep,k _ _ (.inl rfl) e,c⟩,r⟩
 | Ow lo hi=>obtain⟨t,u,v,e⟩:=x;exact⟨t,u,v,k _ _ (.inl rfl) e⟩
 | nQ ob u ih=>obtain⟨e,q⟩:=x;exact⟨k _ _ (.inl rfl) e,ih q⟩
 | lam ps pos qual =>
  obtain⟨more,e,tr,c⟩:=x;refine⟨more,k _ _ (.inl rfl) e,tr,?_⟩;rcases c with c|⟨c',o,vs,t,c1,c2,c3⟩
  ·exact .inl c
  ·exact .inr ⟨c',o,vs,t,c1,hf _ _ _ c2,c3⟩
 | PN ps =>
  have e:h.get? a=some {cls:=.none,data:=.fields ps}:=x;show h'.get? a=some {cls:=.none,data:=.fields ps};exact k a _ (.inl rfl) e
 | met f y =>
  have e:h.get? a=some (PySem.W.methodObj (.ref f) (.ref y)):=x;show h'.get? a=some (PySem.W.methodObj (.ref f) (.ref y));exact k a _ (.inl rfl) e
 | ext φ=>obtain⟨p,⟨o,e⟩,st⟩:=x;exact⟨st _ _ p λo q=>k _ _ (.inl rfl) q,⟨o,k _ _ (.inl rfl) e⟩,st⟩
theorem fW.lt(x:fW P w H h)(e:H a=some o):a<h.objs.size:=(x a o e).lt
theorem fW.fresh(x:fW P w H h)(e:h.objs.size<=a):H a=none:=by
 cases q:H a with
 | none=>rfl
 | some u=>exact absurd (Nat.lt_of_lt_of_le (x.lt q) e) (Nat.lt_irrefl _)
theorem fW.kept(x:fW P w H h)(k:∀b u,h.get? b=some u->h'.get? b=some u):fW P w H h':=λa o e =>
 (x a o e).ni (λb u _ q=>k b u q) (λ_ q=>q) λ_ _ q=>q
theorem fW.laid(x:fW P w H h)(k:∀b u,h.get? b=some u->h'.get? b=some u)(hp:h.objs.size<=a)(new:bL P w (upd H a o) h' a o):fW P w (upd H a o) h':=λb u e=>by
 have hn:=x.fresh hp
 by_cases hb:b=a
 ·subst hb;rw[aB]at e;cases e;exact new
 ·rw[aq hb]at e
  exact(x b u e).ni (λc v _ q=>k c v q) (λc q=>by rw[aq (bN q hn)];exact q) (λc xs q=>by rw[aq (bN q hn)];exact q) λc o u q=>by rw[aq (bN q hn)];exact q
end
def Rd(H:Hp)(a:Addr)(u:HO):Prop:=H a=some u\/∃o,H a=some (.nQ o u)
theorem Rd.of{H:Hp}{a:Addr}{u:HO}(h:H a=some u):Rd H a u:=.inl h
theorem Rd.ok{P:Program}{w:World}{H:Hp}{h:Heap}{a:Addr}{u:HO}(r:Rd H a u)(x:fW P w H h):bL P w H h a u:=by
 rcases r with r|⟨o,r⟩
 ·exact x a u r
 ·obtain⟨_,q⟩:=x a _ r
  exact q
def QQ:Option HO->Prop
 | some (.lst _)=>True
 | some (.dK _)=>True
 | some (.dT _)=>True
 | some (.set _ _)=>True
 | some (.ins _ _ _)=>True
 | some (.ext _)=>True
 | some (.lam _ _ _)=>True
 | _=>False
section
variable {P:Program}{w:World}{H:Hp}{h h':Heap}{x e:Addr}{o':HO}
theorem fW.write(ok:fW P w H h)(mu:QQ (H x))(he:e=x\/H e=some (.own x))(k:∀b u,b≠e->h.get? b=some u->h'.get? b=some u)(Qm:∃u,h'.get? e=some u)
  (new:bL P w (upd H x o') h' x o'):fW P w (upd H x o') h':=λb u q=>by
 have Uh:∀c y,H c=some (.own y)->c≠x:=λc y r z=>by subst z;rw[r]at mu;exact mu
 have YF:∀c xs,H c=some (.tup xs)->c≠x:=λc xs r z=>by subst z;rw[r]at mu;exact mu
 by_cases hb:b=x
 ·subst hb;rw[aB]at q;cases q;exact new
 ·rw[aq hb]at q
  by_cases LI:b=e
  ·have q':H b=some (.own x):=by
    rcases he with z|z
    ·exact absurd (LI.trans z) hb
    ·rw[LI];exact z
   rw[q]at q';cases q';obtain⟨v,hv⟩:=Qm;exact⟨v,by rw[LI];exact hv⟩
  ·refine(ok b u q).ni (λc v hc r=>k c v ?_ r) (λc r=>by rw[aq (Uh c b r)];exact r) (λc xs r=>by rw[aq (YF c xs r)];exact r) λc o u r=>by rw[aq (λz=>by subst z;rw[r]at mu;exact mu)];exact r
   rcases hc with rfl|hc
   ·exact LI
   ·rintro rfl
    rcases he with z|z
    ·exact Uh c b hc z
    ·rw[hc]at z;cases z;exact hb rfl
end
structure Un(fs ex:List Addr)(H H':Hp)(h h':Heap):Prop where
 keep:∀b o,h.get? b=some o->H b=none->b∉fs->b∉ex->h'.get? b=some o
 slot:∀b o,h.get? b=some o->H b=none->b∈fs->b∉ex->∃sl,h'.get? b=some {o with slots:=sl}
 free:∀b o,h.get? b=some o->H b=none->b∉ex->H' b=none
 there:∀b o,h.get? b=some o->b∉ex->∃o',h'.get? b=some o'
 uM:∀b xs,H b=some (.tup xs)->H' b=some (.tup xs)
 pH:∀b o u,H b=some (.nQ o u)->H' b=some (.nQ o u)
 uJ:∀b ps,H b=some (.PN ps)->∃more,H' b=some (.PN (ps++more))
section
variable {fs fs' ex j8:List Addr}{H H1 H2:Hp}{h h1 h2 h':Heap}{a x e:Addr}{o:HO}
theorem Un.any(u:Un fs ex H H1 h h1){b:Addr}{ob:Obj}(q:h.get? b=some ob)(n:H b=none)(hx:b∉ex):∃sl,h1.get? b=some {ob with slots:=sl}:=by
 by_cases hb:b∈fs
 ·exact u.slot b ob q n hb hx
 ·exact⟨ob.slots,u.keep b ob q n hb hx⟩
theorem Un.kept(k:∀b u,h.get? b=some u->h'.get? b=some u):Un fs ex H H h h':=
 ⟨λb ob q _ _ _=>k b ob q,λb ob q _ _ _=>⟨ob.slots,k b ob q⟩,λ_ _ _ n _=>n,λb ob q _=>⟨ob,k b ob q⟩,λ_ _ q=>q,λ_ _ _ q=>q,λ_ ps q=>⟨#[],by rw[q];simp⟩⟩
theorem Un.refl:Un fs ex H H h h:=Un.kept λ_ _ q=>q
theorem Un.laid(k:∀b u,h.get? b=some u->h'.get? b=some u)(hp:h.objs.size<=a)(hn:H a=none):Un fs ex H (upd H a o) h h' where
 keep:=λb u q _ _ _=>k b u q
 slot:=λb u q _ _ _=>⟨u.slots,k b u q⟩
 free:=λb u q n _=>by rw[aq (Nat.ne_of_lt (Nat.lt_of_lt_of_le (Heap.lt_size q) hp))];exact n
 there:=λb u q _=>⟨u,k b u q⟩
 uM:=λb xs q=>by rw[aq (bN q hn)];exact q
 pH:=λb u xs q=>by rw[aq (bN q hn)];exact q
 uJ:=λb ps q=>⟨#[],by rw[aq (bN q hn),q];simp⟩
theorem Un.write(mu:QQ (H x))(he:e=x\/H e=some (.own x))(k:∀b u,b≠e->h.get? b=some u->h'.get? b=some u)(Qm:∃u,h'.get? e=some u):Un fs ex H (upd H x o) h h':=by
 have hx:∀b,H b=none->b≠x:=λb n z=>by subst z;rw[n]at mu;exact mu
 have hb:∀b,H b=none->b≠e:=λb n z=>by
  subst z;rcases he with r|r
  ·exact hx b n r
  ·rw[n]at r;cases r
 have hm:∀b u,H b=some u->¬QQ (some u)->b≠x:=λb u q nm z=>by subst z;rw[q]at mu;exact nm mu
 refine⟨λb u q n _ _=>k b u (hb b n) q,λb u q n _ _=>⟨u.slots,k b u (hb b n) q⟩,λb u q n _=>by rw[aq (hx b n)];exact n,λb u q _=>?_,
  λb xs q=>by rw[aq (hm b _ q λz=>z)];exact q,λb u xs q=>by rw[aq (hm b _ q λz=>z)];exact q,λb ps q=>⟨#[],by rw[aq (hm b _ q λz=>z),q];simp⟩⟩
 by_cases LI:b=e
 ·subst LI;exact Qm
 ·exact⟨u,k b u LI q⟩
end
def WD(h:Heap)(H:Hp):List Addr:=(List.range h.objs.size).filter λa=>(H a).isSome
def pK(h:Heap)(H:Hp):Heap:=PySem.W.hideAll h (WD h H)
theorem yI(h:Heap)(H:Hp):(pK h H).objs.size=h.objs.size:=PySem.W.hideAll_size _ _
theorem Cb{h:Heap}{H:Hp}{b:Addr}{o:Obj}(e:h.get? b=some o)(n:H b=none):(pK h H).get? b=some o:=
 PySem.W.hideAll_get _ e λhm=>by
  have q:(H b).isSome=true:=(List.mem_filter.mp hm).2;rw[n]at q;simp at q
theorem Gi{h:Heap}{H:Hp}{b:Addr}{o:Obj}(e:(pK h H).get? b=some o):h.get? b=some o/\H b=none:=by
 have e':h.get? b=some o:=PySem.W.of_hideAll (WD h H) e;refine⟨e',?_⟩;cases q:H b with
 | none=>rfl
 | some x =>
  have hm:b∈WD h H:=List.mem_filter.mpr ⟨List.mem_range.mpr (Heap.lt_size e'),by simp [q]⟩
  have z:(pK h H).get? b=none:=PySem.W.hideAll_none (WD h H) hm;rw[z]at e;cases e
def Fd(g h:Heap)(L:Addr):List (Addr×Obj):=(List.range h.objs.size).filterMap λa=>if a=L\/(g.get? a).isSome=true then none else(h.get? a).map λo=>(a,o)
def rest(g h:Heap)(L d:Addr):List (Addr×Obj):=(Fd g h L).filter λp=>decide (p.1≠d)
end L2
namespace L2
open PySem PySem.Spec PyProof.Rows
structure Mod(K:PySem.W.Frag)(mg:Str->Option Value)(base:Heap):Prop where
 T1:K.In base
 glob:base.Ns mainGlobals mg
 blt:∃mb,base.Ns builtinsNs mb/\∀x:Str,x≠"__name__"->mb x=bootBuiltins x
 nolimit:base.NoLimit
structure Cx where
 prog:Program
 w:World
 K:PySem.W.Frag
 mg:Str->Option Value
 base:Heap
 A:Around
 N:List Str
 cw:Shared
 kW:Hp
 env:Env
 outer:List Env
 stack:List Env
 ex:List Addr
 fn:Str->Bool
 calm:Bool
 pn:List (Addr×Obj)
 xe:Value->Shared->Prop
def BG(l:List Env):List Addr:=l.filterMap (·.frame)
abbrev Cx.fs(X:Cx):List Addr:=BG X.outer
def Qh(sc:Scope)(x:Str):Prop:=sc.names.lookup x=some .local\/sc.names.lookup x=some .cell\/sc.names.lookup x=some .free
def Loc(sc:Scope)(x:Str):Prop:=sc.names.lookup x=some .local\/sc.names.lookup x=some .cell
def Look(env:Env)(h:Heap)(m:Str->Option Value)(x:Str)(u:Value):Prop:=
 (env.kindOf x=some .local/\m x=some u)\/((env.kindOf x=some .cell\/env.kindOf x=some .free)/\∃c,env.cells.lookup x=some c/\h.IsCell c (some u))
structure Cx.Ok(X:Cx):Prop where
 mod:Mod X.K X.mg X.base
 kind:X.env.scope.kind=.function
 glob:X.env.globals=mainGlobals
 blt:X.env.builtins=builtinsNs
 above:X.cw.heap.objs.size<=X.env.locals
 inj:∀x y c,X.env.cells.lookup x=some c->X.env.cells.lookup y=some c->x=y
 has:∀x,(X.env.kindOf x=some .cell\/X.env.kindOf x=some .free)->∃c,X.env.cells.lookup x=some c
 Qi:∀x c,X.fn x=true->X.env.cells.lookup x=some c->X.cw.heap.objs.size<=c
 hd:X.calm=true->X.A.handled=none
 frames:X.A.frames=some X.stack
 VI:X.stack=X.outer\/(X.stack=X.env::X.outer/\X.env.frame=some X.env.locals)
 Xl:∀b∈X.ex,b≠X.env.locals/\∀x c,X.env.cells.lookup x=some c->c≠b
 bs:∀b o,X.base.get? b=some o->X.cw.heap.get? b=some o/\X.kW b=none
 EE:X.base.objs.size<=X.cw.heap.objs.size
 zb:∀b o,X.base.get? b=some o->b∉X.ex
 Bi:∀b∈X.ex,b∉X.fs
 kC:X.cw.heap.FunFrames X.base X.outer
 Lj:∀b∈X.fs,X.kW b=none
structure Inv(X:Cx)(pins:List (Addr×Obj))(σ:List (Option V))(H:Hp)(s:Shared):Prop where
 ok:X.Ok
 os:s.os=X.cw.os
 bare:AllBare s.gens
 base:Un X.fs X.ex X.kW H X.cw.heap s.heap
 loc:∃m,s.heap.Ns X.env.locals m/\∀(i:Nat) (x:Str) (v:V),X.N[i]?=some x->σ[i]?=some (some v)->Qh X.env.scope x->∃u,RelV v u/\Look X.env s.heap m x u
 cell:∀x c,X.env.cells.lookup x=some c->∃v,s.heap.IsCell c v
 free:H X.env.locals=none
 eV:∀x c,X.env.cells.lookup x=some c->H c=none
 pin:∀p∈X.pn++pins,s.heap.get? p.1=some p.2/\H p.1=none/\p.1≠X.env.locals/\p.1∉X.fs/\∀v,p.2.data≠.cell v
 bP:fW X.prog X.w H s.heap
 len:σ.length=X.N.length
 tk:0<s.toks
section
variable {X:Cx}{pins:List (Addr×Obj)}{σ:List (Option V)}{H H':Hp}{s:Shared}{h':Heap}
theorem Cx.Ok.YB(ok:X.Ok){b:Addr}{o:Obj}(e:X.base.get? b=some o):b∉X.fs:=λhb=>by
 have:=(ok.kC.mem hb).1;rw[e]at this;cases this
theorem Inv.bs(I:Inv X pins σ H s):∀b o,X.base.get? b=some o->s.heap.get? b=some o/\H b=none:=λb o e =>
 ⟨I.base.keep b o (I.ok.bs b o e).1 (I.ok.bs b o e).2 (I.ok.YB e) (I.ok.zb b o e),I.base.free b o (I.ok.bs b o e).1 (I.ok.bs b o e).2 (I.ok.zb b o e)⟩
theorem Inv.bk(I:Inv X pins σ H s):∀b o,X.base.get? b=some o->s.heap.get? b=some o:=λb o e=>(I.bs b o e).1
theorem Inv.mod(I:Inv X pins σ H s):Mod X.K X.mg X.base:=I.ok.mod
theorem Inv.rK(I:Inv X pins σ H s):X.K.In s.heap:=I.ok.mod.T1.keeps I.bk
theorem Inv.fr(I:Inv X pins σ H s):∃m,Fr X.base X.env.locals s.heap m:=
 let ⟨m,hn,_⟩:=I.loc
 ⟨m,hn,I.bk,Nat.le_trans I.ok.EE I.ok.above⟩
theorem Inv.lt(I:Inv X pins σ H s):X.env.locals<s.heap.objs.size:=let ⟨_,hn,_⟩:=I.loc;hn.lt
theorem Inv.sz(I:Inv X pins σ H s):X.cw.heap.objs.size<=s.heap.objs.size:=Nat.le_trans I.ok.above (Nat.le_of_lt I.lt)
theorem Inv.YC(I:Inv X pins σ H s){a:Addr}(h:s.heap.objs.size<=a):a∉X.fs:=λhb=>by
 obtain⟨_,o,ho,_⟩:=I.ok.kC.mem hb;exact absurd (Nat.lt_of_lt_of_le (Heap.lt_size ho) (Nat.le_trans I.sz h)) (Nat.lt_irrefl _)
theorem Inv.Ka(I:Inv X pins σ H s):∀x c,X.env.cells.lookup x=some c->c≠X.env.locals:=λx c e z=>by
 obtain⟨v,o,ho,hd⟩:=I.cell x c e;obtain⟨m,⟨o',es,ep,EY,Ql,_⟩,_⟩:=I.loc;rw[z,EY]at ho;cases ho;rw[Ql]at hd;cases hd
theorem Inv.kC(I:Inv X pins σ H s):s.heap.FunFrames X.base X.outer:=by
 have all:∀(l:List Env),(∀b∈BG l,b∈X.fs)->X.cw.heap.FunFrames X.base l->s.heap.FunFrames X.base l:=by
  intro l
  induction l with
  | nil=>intro _ _;trivial
  | cons env r ih =>
   intro hs hl;obtain⟨hk,⟨L,o,hf,hn,ho,hd⟩,hr⟩:=hl;have hL:L∈X.fs:=hs L (by unfold BG;rw[List.filterMap_cons,hf];exact List.mem_cons_self)
   obtain⟨sl,e⟩:=I.base.slot L o ho (I.ok.Lj L hL) hL λz=>I.ok.Bi L z hL;exact⟨hk,⟨L,_,hf,hn,e,hd⟩,ih (λb hb=>hs b (by unfold BG;rw[List.filterMap_cons,hf];exact List.mem_cons_of_mem _ hb)) hr⟩
 exact all X.outer (λ_ hb=>hb) I.ok.kC
theorem Inv.stack(I:Inv X pins σ H s):s.heap.FunFrames X.base X.stack:=by
 rcases I.ok.VI with e|⟨e,hf⟩
 ·rw[e];exact I.kC
 ·rw[e]
  obtain⟨m,hn,_⟩:=I.loc;refine .cons (by rw[I.ok.kind];decide) hf hn ?_ I.kC
  exact Heap.get?_none_of_le (Nat.le_trans I.ok.EE I.ok.above)
theorem Inv.qZ(I:Inv X pins σ H s):∀b∈BG X.stack,b∈X.env.locals::X.fs:=λb hb=>by
 rcases I.ok.VI with e|⟨e,hf⟩
 ·rw[e]at hb;exact List.mem_cons_of_mem _ hb
 ·rw[e]at hb
  unfold BG at hb;rw[List.filterMap_cons,hf]at hb;exact hb
theorem Inv.xY(I:Inv X pins σ H s):∀b∈BG X.stack,H b=none:=λb hb=>by
 rcases List.mem_cons.mp (I.qZ b hb)with e|hb
 ·rw[e];exact I.free
 ·obtain⟨_,o,ho,_⟩:=I.ok.kC.mem hb
  exact I.base.free b o ho (I.ok.Lj b hb) λz=>I.ok.Bi b z hb
theorem Inv.step{g':Array GenState}{t':Nat}{d':Drawn}{ch:List Addr}(I:Inv X pins σ H s)
  (EJ:∀b∈ch,(b∈X.ex\/X.cw.heap.get? b=none)/\b≠X.env.locals/\(∀x c,X.env.cells.lookup x=some c->c≠b)/\∀p∈X.pn++pins,p.1≠b)
  (keep:∀b o,b≠X.env.locals->b∉X.fs->b∉ch->s.heap.get? b=some o->H b=none->h'.get? b=some o)
  (slot:∀b o,b≠X.env.locals->b∈X.fs->b∉ch->s.heap.get? b=some o->H b=none->∃sl,h'.get? b=some {o with slots:=sl}) (free:∀b o,b∉ch->s.heap.get? b=some o->H b=none->H' b=none)
  (there:∀b o,b∉ch->s.heap.get? b=some o->∃o',h'.get? b=some o')
  (uM:∀b xs,H b=some (.tup xs)->H' b=some (.tup xs)) (pH:∀b o u,H b=some (.nQ o u)->H' b=some (.nQ o u)) (uJ:∀b ps,H b=some (.PN ps)->∃more,H' b=some (.PN (ps++more)))
  (ns:∀m,s.heap.Ns X.env.locals m->h'.Ns X.env.locals m) (bP:fW X.prog X.w H' h') (hg:AllBare g') (ht:0<t':=by walk_at "3"):
  Inv X pins σ H' {s with heap:=h',gens:=g',drawn:=d',toks:=t'}:=by
 have neL:∀b o,X.cw.heap.get? b=some o->b≠X.env.locals:=λb o e=>Nat.ne_of_lt (Nat.lt_of_lt_of_le (Heap.lt_size e) I.ok.above);have Wq:∀b o,X.cw.heap.get? b=some o->b∉X.ex->b∉ch:=λb o e hx hb=>by
  rcases(EJ b hb).1 with z|z
  ·exact hx z
  ·rw[e]at z;cases z
 have cellK:∀x c,X.env.cells.lookup x=some c->∀v,s.heap.IsCell c v->h'.IsCell c v:=λx c e v ⟨o,ho,hd⟩=>by
  have CI:c∉ch:=λz=>(EJ c z).2.2.1 x c e rfl
  by_cases hc:c∈X.fs
  ·obtain⟨sl,q⟩:=slot c o (I.Ka x c e) hc CI ho (I.eV x c e)
   exact⟨_,q,hd⟩
  ·exact⟨o,keep c o (I.Ka x c e) hc CI ho (I.eV x c e),hd⟩
 refine⟨I.ok,I.os,hg,⟨λb o e n hb hx=>?_,λb o e n hb hx=>?_,λb o e n hx=>?_,λb o e hx=>?_,λb xs e=>uM b xs (I.base.uM b xs e),λb o xs e=>pH b o xs (I.base.pH b o xs e),λb ps e=>?_⟩,?_,λx c e=>?_,?_,λx c e=>?_,λp hp=>?_,bP,I.len,ht⟩
 ·exact keep b o (neL b o e) hb (Wq b o e hx) (I.base.keep b o e n hb hx) (I.base.free b o e n hx)
 ·obtain⟨sl,e1⟩:=I.base.slot b o e n hb hx
  obtain⟨sl',e2⟩:=slot b _ (neL b o e) hb (Wq b o e hx) e1 (I.base.free b o e n hx);exact⟨sl',e2⟩
 ·obtain⟨o',e1⟩:=I.base.there b o e hx
  exact free b o' (Wq b o e hx) e1 (I.base.free b o e n hx)
 ·obtain⟨o',e1⟩:=I.base.there b o e hx
  exact there b o' (Wq b o e hx) e1
 ·obtain⟨m1,e1⟩:=I.base.uJ b ps e
  obtain⟨m2,e2⟩:=uJ b _ e1;exact⟨m1++m2,by rw[e2,Array.append_assoc]⟩
 ·obtain⟨m,hn,hl⟩:=I.loc
  refine⟨m,ns m hn,λi x v e1 e2 e3=>?_⟩;obtain⟨u,r,l⟩:=hl i x v e1 e2 e3;refine⟨u,r,?_⟩;rcases l with l|⟨k,c,e,z⟩
  ·exact .inl l
  ·exact .inr ⟨k,c,e,cellK x c e _ z⟩
 ·obtain⟨v,z⟩:=I.cell x c e
  exact⟨v,cellK x c e v z⟩
 ·obtain⟨m,⟨o,_,_,ho,_⟩,_⟩:=I.loc
  exact free _ o (λz=>(EJ _ z).2.1 rfl) ho I.free
 ·obtain⟨v,o,ho,hd⟩:=I.cell x c e
  exact free c o (λz=>(EJ c z).2.2.1 x c e rfl) ho (I.eV x c e)
 ·obtain⟨e,n,ne,nf,d⟩:=I.pin p hp
  have CI:p.1∉ch:=λz=>(EJ p.1 z).2.2.2 p hp rfl;exact⟨keep p.1 p.2 ne nf CI e n,free p.1 p.2 CI e n,ne,nf,d⟩
theorem Inv.un{t':Nat}(I:Inv X pins σ H s)(u:Un X.fs [] H H' s.heap h')(bP:fW X.prog X.w H' h')(ht:0<t':=by walk_at "3"):Inv X pins σ H' {s with heap:=h',toks:=t'}:=by
 obtain⟨m,⟨o,es,ep,ho,r⟩,_⟩:=id I.loc;obtain⟨sl,hL⟩:=u.any ho I.free (by simp)
 exact I.step (g':=s.gens) (d':=s.drawn) (ch:=[]) (λ_ z=>nomatch z) (λb o _ hb _ e n=>u.keep b o e n hb (by simp)) (λb o _ hb _ e n=>u.slot b o e n hb (by simp)) (λb o _ e n=>u.free b o e n (by simp)) (λb o _ e=>u.there b o e (by simp)) u.uM u.pH u.uJ (λm' hm=>by
  obtain⟨o',lu,K0,EY,r'⟩:=hm;rw[ho]at EY;cases EY;exact⟨_,lu,K0,hL,r'⟩) bP I.bare
theorem Inv.call{g':Array GenState}{t':Nat}{d':Drawn}{ch:List Addr}(I:Inv X pins σ H s)(u:Un (BG X.stack) ch H H' s.heap h')(bP:fW X.prog X.w H' h')(hg:AllBare g')
  (EJ:∀b∈ch,(b∈X.ex\/X.cw.heap.get? b=none)/\b≠X.env.locals/\(∀x c,X.env.cells.lookup x=some c->c≠b)/\∀p∈X.pn++pins,p.1≠b) (ht:0<t':=by walk_at "3"):
  Inv X pins σ H' {s with heap:=h',gens:=g',drawn:=d',toks:=t'}:=by
 obtain⟨m,⟨o,es,ep,ho,r⟩,_⟩:=id I.loc;obtain⟨sl,hL⟩:=u.any ho I.free λz=>(EJ _ z).2.1 rfl;exact I.step (ch:=ch) EJ (λb o hL hb hc e n=>u.keep b o e n (λz=>(List.mem_cons.mp (I.qZ b z)).elim hL hb) hc) (λb o _ _ hc e n=>u.any e n hc) (λb o hc e n=>u.free b o e n hc) (λb o hc e=>u.there b o e hc) u.uM u.pH u.uJ (λm' hm=>by
  obtain⟨o',lu,K0,EY,r'⟩:=hm;rw[ho]at EY;cases EY;exact⟨_,lu,K0,hL,r'⟩) bP hg
theorem Inv.turned{t':Nat}{it:Addr}(I:Inv X pins σ H s)(k:∀b o,b≠it->s.heap.get? b=some o->h'.get? b=some o)(hn:H it=none)(hL:it≠X.env.locals)
  (h1:it∈X.ex\/X.cw.heap.objs.size<=it) (h2:∀x c,X.env.cells.lookup x=some c->c≠it) (h3:∀p∈X.pn++pins,p.1≠it) (ht:0<t':=by walk_at "3"):Inv X pins σ H {s with heap:=h',toks:=t'}:=by
 have nit:∀b u,H b=some u->b≠it:=λb u e z=>by rw[z,hn]at e;cases e
 refine I.step (g':=s.gens) (d':=s.drawn) (ch:=[it]) (λb hb=>?_) (λb o _ _ hc e _=>k b o (λz=>hc (by simp [z])) e) (λb o _ _ hc e _=>⟨o.slots,k b o (λz=>hc (by simp [z])) e⟩) (λ_ _ _ _ n=>n)
  (λb o hc e=>⟨o,k b o (λz=>hc (by simp [z])) e⟩) (λ_ _ e=>e) (λ_ _ _ e=>e) (λb ps e=>⟨#[],by rw[e];simp⟩) (λm hm=>?_) (λb u e=>?_) I.bare
 ·have e:b=it:=by simpa using hb
  subst e;exact⟨h1.imp id λz=>Heap.get?_none_of_le z,hL,h2,h3⟩
 ·obtain⟨o,es,ep,ho,r⟩:=hm
  exact⟨o,es,ep,k _ o (Ne.symm hL) ho,r⟩
 ·refine(I.bP b u e).ni (λc v hc q=>k c v ?_ q) (λ_ q=>q) λ_ _ q=>q
  rcases hc with z|z
  ·rw[z];exact nit b u e
  ·exact nit c _ z
theorem Inv.tok(I:Inv X pins σ H s)(t:Nat)(ht:0<t:=by walk_at "3"):Inv X pins σ H {s with toks:=t}:=I.un (h':=s.heap) (t':=t) Un.refl I.bP
theorem Inv.kept{t':Nat}(I:Inv X pins σ H s)(k:∀b u,s.heap.get? b=some u->h'.get? b=some u)(ht:0<t':=by walk_at "3"):Inv X pins σ H {s with heap:=h',toks:=t'}:=I.un (Un.kept k) (I.bP.kept k)
theorem Inv.laid{a:Addr}{o:HO}{t':Nat}(I:Inv X pins σ H s)(k:∀b u,s.heap.get? b=some u->h'.get? b=some u)(hp:s.heap.objs.size<=a)(new:bL X.prog X.w (upd H a o) h' a o)(ht:0<t':=by walk_at "3"):
  Inv X pins σ (upd H a o) {s with heap:=h',toks:=t'}:=I.un (Un.laid k hp (I.bP.fresh hp)) (I.bP.laid k hp new)
theorem Inv.write{x e:Addr}{o:HO}{t':Nat}(I:Inv X pins σ H s)(mu:QQ (H x))(he:e=x\/H e=some (.own x))(k:∀b u,b≠e->s.heap.get? b=some u->h'.get? b=some u)(Qm:∃u,h'.get? e=some u)
  (new:bL X.prog X.w (upd H x o) h' x o) (ht:0<t':=by walk_at "3"):Inv X pins σ (upd H x o) {s with heap:=h',toks:=t'}:=I.un (Un.write mu he k Qm) (I.bP.write mu he k Qm new)
theorem Inv.xB{Jb:List (Addr×Obj)}(I:Inv X pins σ H s)(h:∀p∈Jb,s.heap.get? p.1=some p.2/\H p.1=none/\p.1≠X.env.locals/\p.1∉X.fs/\∀v,p.2.data≠.cell v):Inv X Jb σ H s:=
 ⟨I.ok,I.os,I.bare,I.base,I.loc,I.cell,I.free,I.eV,λp hp=>(List.mem_append.mp hp).elim (λz=>I.pin p (List.mem_append_left _ z)) (h p),I.bP,I.len,I.tk⟩
theorem tW{N:List Str}(hN:N.Nodup){i j:Nat}{x:Str}(a:N[i]?=some x)(b:N[j]?=some x):i=j:=by
 obtain⟨h1,e1⟩:=List.getElem?_eq_some_iff.mp a;obtain⟨h2,e2⟩:=List.getElem?_eq_some_iff.mp b;exact(List.getElem_inj hN).mp (e1.trans e2.symm)
theorem zG{M:Model}{A:Around}{E:Value->Shared->Prop}{i:Nat}{x:Str}{v:V}{u:Value}{Q:Unit->Shared->Prop}(I:Inv X pins σ H s)(hN:X.N.Nodup)(hi:X.N[i]?=some x)(hx:Loc X.env.scope x)(r:RelV v u)
  (h:∀s',Inv X pins (σ.set i (some v)) H s'->(∃a,Heap.SameBut a s.heap s'.heap/\(a=X.env.locals\/X.env.cells.lookup x=some a))->Q () s') (hf:X.fn x=true\/X.env.scope.names.lookup x=some .local:=by first|exact .inl rfl|exact .inr rfl|assumption):wpAny M A (storeName X.env x u) Q E s:=by
 obtain⟨m,hn,hl⟩:=id I.loc;have XB:(X.env.scope.kind==.class||(X.env.scope.kind==.module&&X.env.locals != X.env.globals))=false:=by rw[I.ok.kind];rfl
 have S4:i<σ.length:=by rw[I.len];exact(List.getElem?_eq_some_iff.mp hi).1
 have Ka:=I.Ka;have tracked:∀ {a:Addr} {h':Heap},(∃o,s.heap.get? a=some o/\H a=none)->Heap.SameBut a s.heap h'->fW X.prog X.w H h':=λ{a h'} ha hs b ob e=>by
  obtain⟨_,_,wZ⟩:=ha;refine(I.bP b ob e).ni (λc w' hc q=>(hs.2 c ?_).trans q) (λ_ q=>q) λ_ _ q=>q;rintro rfl;rcases hc with rfl|hc
  ·rw[wZ]at e;cases e
  ·rw[wZ]at hc;cases hc
 rcases hx with hk|hk
 ·refine wpAny_storeName_local hk hn (λh' hn' hs=>?_) XB
  obtain⟨oL,_,_,LN,_⟩:=id hn;refine h _ ⟨I.ok,I.os,I.bare,⟨λb o e n hb hx=>?_,λb o e n hb hx=>?_,I.base.free,λb o e hx=>?_,I.base.uM,I.base.pH,I.base.uJ⟩,⟨_,hn',λj y v' e1 e2 e3=>?_⟩,λy c e=>?_,I.free,I.eV,λp hp=>?_,tracked ⟨oL,LN,I.free⟩ hs,by simpa using I.len,Nat.succ_pos _⟩ ⟨_,hs,.inl rfl⟩
  ·exact(hs.2 b (Nat.ne_of_lt (Nat.lt_of_lt_of_le (Heap.lt_size e) I.ok.above))).trans (I.base.keep b o e n hb hx)
  ·obtain⟨sl,e1⟩:=I.base.slot b o e n hb hx
   exact⟨sl,(hs.2 b (Nat.ne_of_lt (Nat.lt_of_lt_of_le (Heap.lt_size e) I.ok.above))).trans e1⟩
  ·obtain⟨o',e1⟩:=I.base.there b o e hx
   exact⟨o',(hs.2 b (Nat.ne_of_lt (Nat.lt_of_lt_of_le (Heap.lt_size e) I.ok.above))).trans e1⟩
  ·by_cases hj:j=i
   ·subst hj
    rw[hi]at e1;cases e1;rw[List.getElem?_set_self S4]at e2;cases e2;exact⟨u,r,.inl ⟨hk,by simp⟩⟩
   ·rw[List.getElem?_set_ne (Ne.symm hj)]at e2
    obtain⟨u',r',q⟩:=hl j y v' e1 e2 e3;refine⟨u',r',?_⟩;rcases q with⟨k,e⟩|⟨k,c,e,z⟩
    ·refine .inl ⟨k,?_⟩
     have:y≠x:=λe=>hj (tW hN e1 (e ▸ hi));simp [this,e]
    ·exact .inr ⟨k,c,e,z.sameBut hs (Ka y c e)⟩
  ·obtain⟨w',z⟩:=I.cell y c e
   exact⟨w',z.sameBut hs (Ka y c e)⟩
  ·obtain⟨e,n,ne,nf,d⟩:=I.pin p hp
   exact⟨(hs.2 p.1 ne).trans e,n,ne,nf,d⟩
 ·have XF:X.fn x=true:=by
   rcases hf with z|z
   ·exact z
   ·rw[z]at hk;cases hk
  obtain⟨c,hc⟩:=I.ok.has x (.inl hk);obtain⟨w',z⟩:=I.cell x c hc;refine wpAny_storeName_cell I.ok.kind hk hc z (λh' EH hs=>?_);obtain⟨oc,ZX,XY⟩:=id z;refine h {s with heap:=h'} ⟨I.ok,I.os,I.bare,⟨λb o e n hb hx=>?_,λb o e n hb hx=>?_,I.base.free,λb o e hx=>?_,I.base.uM,I.base.pH,I.base.uJ⟩,⟨m,hn.sameBut hs (Ne.symm (Ka x c hc)),λj y v' e1 e2 e3=>?_⟩,λy c' e=>?_,I.free,I.eV,λp hp=>?_,tracked ⟨oc,ZX,I.eV x c hc⟩ hs,by simpa using I.len,I.tk⟩ ⟨c,hs,.inr hc⟩
  ·exact(hs.2 b (Nat.ne_of_lt (Nat.lt_of_lt_of_le (Heap.lt_size e) (I.ok.Qi x c XF hc)))).trans (I.base.keep b o e n hb hx)
  ·obtain⟨sl,e1⟩:=I.base.slot b o e n hb hx
   exact⟨sl,(hs.2 b (Nat.ne_of_lt (Nat.lt_of_lt_of_le (Heap.lt_size e) (I.ok.Qi x c XF hc)))).trans e1⟩
  ·obtain⟨o',e1⟩:=I.base.there b o e hx
   exact⟨o',(hs.2 b (Nat.ne_of_lt (Nat.lt_of_lt_of_le (Heap.lt_size e) (I.ok.Qi x c XF hc)))).trans e1⟩
  ·by_cases hj:j=i
   ·subst hj
    rw[hi]at e1;cases e1;rw[List.getElem?_set_self S4]at e2;cases e2;exact⟨u,r,.inr ⟨.inl hk,c,hc,EH⟩⟩
   ·rw[List.getElem?_set_ne (Ne.symm hj)]at e2
    obtain⟨u',r',q⟩:=hl j y v' e1 e2 e3;refine⟨u',r',?_⟩;rcases q with q|⟨k,c',e,z'⟩
    ·exact .inl q
    ·refine .inr ⟨k,c',e,z'.sameBut hs ?_⟩
     rintro rfl;exact hj (tW hN e1 (I.ok.inj _ _ _ e hc ▸ hi))
  ·by_cases V8:c'=c
   ·subst V8;exact⟨_,EH⟩
   ·obtain⟨w2,z2⟩:=I.cell y c' e
    exact⟨w2,z2.sameBut hs V8⟩
  ·obtain⟨e,n,ne,nf,d⟩:=I.pin p hp
   refine⟨(hs.2 p.1 ?_).trans e,n,ne,nf,d⟩;intro q;rw[q,ZX]at e;have q':oc=p.2:=Option.some.inj e;exact d w' (by rw[<- q'];exact XY)
theorem mL{M:Model}{A:Around}{E:Value->Shared->Prop}{i:Nat}{x:Str}{v:V}{u:Value}{Q:Unit->Shared->Prop}(I:Inv X pins σ H s)(hN:X.N.Nodup)(hi:X.N[i]?=some x)(hx:Loc X.env.scope x)(r:RelV v u)
  (h:∀s',Inv X pins (σ.set i (some v)) H s'->Q () s') (hf:X.fn x=true\/X.env.scope.names.lookup x=some .local:=by first|exact .inl rfl|exact .inr rfl|assumption):wpAny M A (storeName X.env x u) Q E s:=
 zG I hN hi hx r (λs' I' _=>h s' I') hf
theorem Inv.Rk{s':Shared}{ch:List Addr}(I:Inv X pins σ H s)(ho:s'.os=s.os)(u:Un (BG X.stack) ch H H' s.heap s'.heap)(bP:fW X.prog X.w H' s'.heap)(hg:AllBare s'.gens)
  (EJ:∀b∈ch,(b∈X.ex\/X.cw.heap.get? b=none)/\b≠X.env.locals/\(∀x c,X.env.cells.lookup x=some c->c≠b)/\∀p∈X.pn++pins,p.1≠b) (ht:0<s'.toks:=by walk_at "3"):Inv X pins σ H' s':=by
 obtain⟨h',g',d',t',o'⟩:=s';have e:o'=s.os:=ho;subst e;exact I.call (g':=g') (t':=t') (d':=d') u bP hg EJ ht
end
abbrev XK:=Value->Option Addr->Hp->Prop
abbrev St:=List (Option V)
abbrev VK:=V->Hp->Prop
abbrev TE:=St->Hp->VK->Prop
abbrev TT:=St->Hp->(Bool->Hp->Prop)->Prop
abbrev TA:=St->Hp->(List V->Hp->Prop)->Prop
structure Ends where
 nx:St->Hp->Prop
 rt:VK
 bk:St->Hp->Prop:=λ_ _=>False
 ct:St->Hp->Prop:=λ_ _=>False
abbrev TS:=Ends->St->Hp->Prop
def EP(X:Cx)(pins:List (Addr×Obj))(σ:St)(Q:VK)(u:Value)(s':Shared):Prop:=∃v H',Inv X pins σ H' s'/\RelV v u/\Q v H'
def TP(X:Cx)(pins:List (Addr×Obj))(σ:St)(Q:Bool->Hp->Prop)(b:Bool)(s':Shared):Prop:=∃H',Inv X pins σ H' s'/\Q b H'
def AP(X:Cx)(pins:List (Addr×Obj))(σ:St)(Q:List V->Hp->Prop)(us:List Value)(s':Shared):Prop:=∃vs H',Inv X pins σ H' s'/\Vals vs us/\Q vs H'
def SP(X:Cx)(pins:List (Addr×Obj))(D:Ends)(f:Flow)(s':Shared):Prop:=
 match f with
 | .next=>∃bB H',Inv X pins bB H' s'/\D.nx bB H'
 | .brk=>∃bB H',Inv X pins bB H' s'/\D.bk bB H'
 | .cont=>∃bB H',Inv X pins bB H' s'/\D.ct bB H'
 | .ret u=>∃v bB H',Inv X pins bB H' s'/\RelV v u/\D.rt v H'
def PE(X:Cx)(e:Expr)(t:TE):Prop:=
 ∀(pins:List (Addr×Obj)) (s:Shared) (σ:St) (H:Hp) (Q:VK),Inv X pins σ H s->t σ H Q->wpAny (model X.prog X.w) X.A (eval e X.env) (EP X pins σ Q) X.xe s
def PT(X:Cx)(e:Expr)(t:TT):Prop:=
 ∀(pins:List (Addr×Obj)) (s:Shared) (σ:St) (H:Hp) (Q:Bool->Hp->Prop),Inv X pins σ H s->t σ H Q->wpAny (model X.prog X.w) X.A (isTrue e X.env (eval e X.env)) (TP X pins σ Q) X.xe s
def PW(X:Cx)(e:Expr)(t:TT):Prop:=
 ∀(whole:Sem Value) (pins:List (Addr×Obj)) (s:Shared) (σ:St) (H:Hp) (Q:Bool->Hp->Prop),Inv X pins σ H s->t σ H Q->wpAny (model X.prog X.w) X.A (isTrue e X.env whole) (TP X pins σ Q) X.xe s
theorem PW.pt{X:Cx}{e:Expr}{t:TT}(h:PW X e t):PT X e t:=h _
def PA(X:Cx)(es:List Expr)(t:TA):Prop:=
 ∀(pos:Pos) (pins:List (Addr×Obj)) (s:Shared) (σ:St) (H:Hp) (Q:List V->Hp->Prop),Inv X pins σ H s->t σ H Q->wpAny (model X.prog X.w) X.A (spliced (backTo pos (starEach es X.env))) (AP X pins σ Q) X.xe s
def PS(X:Cx)(st:Stmt)(t:TS):Prop:=
 ∀(pins:List (Addr×Obj)) (s:Shared) (σ:St) (H:Hp) (D:Ends),Inv X pins σ H s->t D σ H->wpAny (model X.prog X.w) X.A (exec st X.env) (SP X pins D) X.xe s
def nu(X:Cx)(st:List Stmt)(t:TS):Prop:=
 ∀(pins:List (Addr×Obj)) (s:Shared) (σ:St) (H:Hp) (D:Ends),Inv X pins σ H s->t D σ H->wpAny (model X.prog X.w) X.A (execs st X.env) (SP X pins D) X.xe s
theorem cj{α:Type}{t:Sem α}{Q Q':α->Shared->Prop}{M:Model}{A:Around}{E:Value->Shared->Prop}{s:Shared}(h:wpAny M A t Q E s)(hQ:∀a s,Q a s->Q' a s):wpAny M A t Q' E s:=wpAny_mono h hQ λ_ _ x=>x
end L2
namespace L2
open PySem PySem.Spec PyProof.Rows
section
variable {X:Cx}
def VU(i:Nat):TE:=λσ H Q=>∃v,σ[i]?=some (some v)/\Q v H
def tC(v:V):TE:=λ_ H Q=>Q v H
theorem qj{i:Nat}{x:Str}{pos:Pos}(hN:X.N[i]?=some x)(hv:Qh X.env.scope x)(hd:(x==("__debug__":Str))=false:=by decide)(sV:(x==("__classdict__":Str))=false:=by decide):PE X (.Name x pos) (VU i):=by
 intro pins s σ H Q I h;obtain⟨v,e,h⟩:=h;obtain⟨m,hn,hl⟩:=I.loc;obtain⟨u,r,l⟩:=hl i x v hN e hv;have fin:EP X pins σ Q u s:=⟨v,H,I,r,h⟩;rcases l with⟨hk,hm⟩|⟨hk,c,hc,wY⟩
 ·exact wpAny_Name (wpAny_loadName_local I.ok.kind hk hn hm fin) hd
 ·rcases hk with hk|hk
  ·exact wpAny_Name (wpAny_loadName_cell I.ok.kind hk hc wY fin) hd
  ·exact wpAny_Name (wpAny_loadName_free I.ok.kind hk hc wY fin sV) hd
theorem NK{i j pos}:PE X (.Constant (.int i) j pos) (tC (.int i)):=λ_ _ _ H _ I h=>wpAny_Constant_int ⟨.int i,H,I.tok _,⟨_,rfl⟩,h⟩
theorem UU{b j pos}:PE X (.Constant (.bool b) j pos) (tC (.bl b)):=λ_ _ _ H _ I h=>Constant_bool ⟨.bl b,H,I,rfl,h⟩
theorem NM{j pos}:PE X (.Constant .none j pos) (tC .bx):=λ_ _ _ H _ I h=>Constant_none ⟨.bx,H,I,rfl,h⟩
theorem NQ{x j pos}:PE X (.Constant (.str x) j pos) (tC (.str x)):=λ_ _ _ H _ I h=>Calls.Constant_str ⟨.str x,H,I.tok _,⟨_,rfl⟩,h⟩
def Gl(X:Cx)(x:Str):Prop:=X.env.kindOf x=some .globalImplicit
theorem xm{E:Value->Shared->Prop}{pins:List (Addr×Obj)}{s:Shared}{σ:St}{H:Hp}{x:Str}{u:Value}{pos:Pos}{Q:Value->Shared->Prop}(I:Inv X pins σ H s)(hg:Gl X x)(hm:X.mg x=some u)(h:Q u s)
  (hd:(x==("__debug__":Str))=false:=by decide):wpAny (model X.prog X.w) X.A (eval (.Name x pos) X.env) Q E s:=
 Calls.Name_function_global I.ok.kind hg (Calls.loadGlobal_global (by rw[I.ok.glob];exact I.mod.glob.keeps I.bk) hm h) hd
theorem dJ{E:Value->Shared->Prop}{pins:List (Addr×Obj)}{s:Shared}{σ:St}{H:Hp}{x:Str}{u:Value}{pos:Pos}{Q:Value->Shared->Prop}(I:Inv X pins σ H s)(hg:Gl X x)(hm:X.mg x=none)(hv:bootBuiltins x=some u)(h:Q u s)
  (hn:x≠"__name__":=by decide) (hd:(x==("__debug__":Str))=false:=by decide):wpAny (model X.prog X.w) X.A (eval (.Name x pos) X.env) Q E s:=by
 obtain⟨mb,h1,h2⟩:=I.mod.blt;exact Calls.Name_function_global I.ok.kind hg (Calls.loadGlobal_builtin (by rw[I.ok.glob];exact I.mod.glob.keeps I.bk) hm (by rw[I.ok.blt];exact h1.keeps I.bk) ((h2 x hn).trans hv) h) hd
theorem GA{x:Str}{v:V}{u:Value}{pos:Pos}(hg:Gl X x)(hm:X.mg x=some u)(r:RelV v u)(hd:(x==("__debug__":Str))=false:=by decide):PE X (.Name x pos) (tC v):=
 λ_ _ _ H _ I h=>xm I hg hm ⟨v,H,I,r,h⟩ hd
theorem qf{x:Str}{v:V}{u:Value}{pos:Pos}(hg:Gl X x)(hm:X.mg x=none)(hv:bootBuiltins x=some u)(r:RelV v u)(hn:x≠"__name__":=by decide)(hd:(x==("__debug__":Str))=false:=by decide):PE X (.Name x pos) (tC v):=
 λ_ _ _ H _ I h=>dJ I hg hm hv ⟨v,H,I,r,h⟩ hn hd
variable {a b:Expr}{ta tb:TE}{pos:Pos}
variable {tA Wz:TT}{rest:List Expr}
def YY(t u:TT):TT:=λσ H Q=>t σ H λc H1=>if c=true then u σ H1 Q else Q false H1
def tOr(t u:TT):TT:=λσ H Q=>t σ H λc H1=>if c=true then Q true H1 else u σ H1 Q
def Y3(t:TT):TT:=λσ H Q=>t σ H λc H1=>Q (!c) H1
theorem pw_and1(ha:PT X a tA):PW X (.BoolOp .And [a] pos) tA:=by
 intro wh pins s σ H Q I h;refine isTrue_and (cj (ha pins s σ H Q I h) λc s1 e=>?_);cases c with
 | true=>exact isTrue_and_nil e
 | false=>exact e
theorem pw_or1(ha:PT X a tA):PW X (.BoolOp .Or [a] pos) tA:=by
 intro wh pins s σ H Q I h;refine isTrue_or (cj (ha pins s σ H Q I h) λc s1 e=>?_);cases c with
 | false=>exact isTrue_or_nil e
 | true=>exact e
theorem pw_and(ha:PT X a tA)(hb:PW X (.BoolOp .And (b::rest) pos) Wz):PW X (.BoolOp .And (a::b::rest) pos) (YY tA Wz):=by
 intro wh pins s σ H Q I h;refine isTrue_and (cj (ha pins s σ H _ I h) λc s1 ⟨H1,I1,q1⟩=>?_);cases c with
 | true=>exact hb wh pins s1 σ H1 Q I1 q1
 | false=>exact⟨H1,I1,q1⟩
theorem pw_or(ha:PT X a tA)(hb:PW X (.BoolOp .Or (b::rest) pos) Wz):PW X (.BoolOp .Or (a::b::rest) pos) (tOr tA Wz):=by
 intro wh pins s σ H Q I h;refine isTrue_or (cj (ha pins s σ H _ I h) λc s1 ⟨H1,I1,q1⟩=>?_);cases c with
 | true=>exact⟨H1,I1,q1⟩
 | false=>exact hb wh pins s1 σ H1 Q I1 q1
theorem Oi(ha:PT X a tA):PT X (.UnaryOp .Not a pos) (Y3 tA):=by
 intro pins s σ H Q I h;exact isTrue_not (ha pins s σ H (λc H1=>Q (!c) H1) I h)
def VL(ta tb:TE):TE:=λσ H Q=>ta σ H λx H1=>∃c,x=.bl c/\if c=true then tb σ H1 Q else Q (.bl false) H1
theorem NP{op}{t:TE}(h:PE X a t):PE X (.BoolOp op [a] pos) t:=λpins s σ H Q I hw=>BoolOp_one (h pins s σ H Q I hw)
theorem NF(ha:PE X a ta)(hb:PE X (.BoolOp .And (b::rest) pos) tb):PE X (.BoolOp .And (a::b::rest) pos) (VL ta tb):=by
 intro pins s σ H Q I h;refine BoolOp_and (cj (ha pins s σ H _ I h) λv s1 ⟨x,H1,I1,r1,q1⟩=>?_);obtain⟨c,rfl,q1⟩:=q1;cases r1;refine wpAny_truthy_bool ?_;cases c with
 | true=>exact hb pins s1 σ H1 Q I1 q1
 | false=>exact⟨.bl false,H1,I1,rfl,q1⟩
def tIf(t:TT)(ta tb:TE):TE:=λσ H Q=>t σ H λc H1=>if c=true then ta σ H1 Q else tb σ H1 Q
theorem C4{c:Expr}(hc:PT X c tA)(ha:PE X a ta)(hb:PE X b tb):PE X (.IfExp c a b pos) (tIf tA ta tb):=by
 intro pins s σ H Q I h;refine wpAny_IfExp (cj (hc pins s σ H _ I h) λd s1 ⟨H1,I1,q1⟩=>?_);cases d with
 | true=>exact ha pins s1 σ H1 Q I1 q1
 | false=>exact hb pins s1 σ H1 Q I1 q1
end
end L2
namespace L2
open PySem PySem.Spec PyProof.Rows
def V.wk:V->V
 | .tk i=>.int i
 | x=>x
def dY(K:PySem.W.Frag)(H:Hp)(a:Addr)(xs:List V):Prop:=
 Rd H a (.lst xs) \/
  ∃(o:Obj) (its:Array Value) (n:Nat),K.lookup a=some o/\o.cls=.type "list"/\o.dict=none/\o.data=.seq its n/\its.size<=sizeLine/\Vals xs its.toList/\xs.map V.wk=xs
def gS(K:PySem.W.Frag)(H:Hp)(a:Addr)(xs:List V):Prop:=
 Rd H a (.tup xs) \/
  ∃(o:Obj) (its:Array Value) (n:Nat),K.lookup a=some o/\o.cls=.type "tuple"/\o.data=.seq its n/\its.size<=sizeLine/\Vals xs its.toList/\xs.map V.wk=xs
def W3:Value->Option V
 | .none=>some .bx
 | .bool b=>some (.bl b)
 | .int i _=>some (.int i)
 | .str x _=>some (.str x)
 | .bytes b _=>some (.Rh b)
 | .float b _=>some (.Lh b)
 | .ref a=>some (.ref a)
 | .type n=>some (.ty n)
 | _=>none
theorem RelV.abs{x:V}{u:Value}(r:RelV x u):W3 u=some x.wk:=by
 cases x with
 | bx=>cases r;rfl
 | bl _=>cases r;rfl
 | int _=>obtain⟨t,rfl⟩:=r;rfl
 | tk _=>obtain⟨t,rfl,_⟩:=r;rfl
 | str _=>obtain⟨t,rfl⟩:=r;rfl
 | Rh _=>obtain⟨t,rfl⟩:=r;rfl
 | Lh _=>obtain⟨t,rfl⟩:=r;rfl
 | ref _=>cases r;rfl
 | ty _=>cases r;rfl
theorem RelV.inj{x y:V}{u:Value}(r:RelV x u)(q:RelV y u):x.wk=y.wk:=Option.some.inj (r.abs.symm.trans q.abs)
theorem Vals.inj:∀ {xs ys:List V} {us:List Value},Vals xs us->Vals ys us->xs.map V.wk=ys.map V.wk
 | _,_,_,.nil,.nil=>rfl
 | _,_,_,.cons r t,.cons r' t'=>by rw[List.map_cons,List.map_cons,r.inj r',Vals.inj t t']
section
variable {X:Cx}{pins:List (Addr×Obj)}{σ:St}{H:Hp}{s:Shared}{a:Addr}{xs ys:List V}
theorem dY.of{K:PySem.W.Frag}(h:H a=some (.lst xs)):dY K H a xs:=.inl (.inl h)
theorem gS.of{K:PySem.W.Frag}(h:H a=some (.tup xs)):gS K H a xs:=.inl (.inl h)
theorem Inv.list(I:Inv X pins σ H s)(h:dY X.K H a xs):∃its:List Value,Vals xs its/\PlainL s.heap a its.toArray/\xs.length<=sizeLine:=by
 rcases h with h|⟨o,its,n,hk,hc,hd,hs,hz,r⟩
 ·obtain⟨z,its,n,r,e⟩:=h.ok I.bP
  exact⟨its,r,⟨_,n,e,rfl,rfl,rfl⟩,z⟩
 ·obtain⟨r,_⟩:=r
  refine⟨its.toList,r,⟨o,n,I.rK a o hk,hc,hd,by simpa using hs⟩,?_⟩
  have e:=r.length;simp only[Array.length_toList]at e;omega
theorem Inv.tuple(I:Inv X pins σ H s)(h:gS X.K H a xs):∃its:List Value,Vals xs its/\IsTup s.heap a its.toArray/\xs.length<=sizeLine:=by
 rcases h with h|⟨o,its,n,hk,hc,hs,hz,r⟩
 ·obtain⟨z,its,r,p⟩:=h.ok I.bP
  exact⟨its,r,p,z⟩
 ·obtain⟨r,_⟩:=r
  refine⟨its.toList,r,⟨o,I.rK a o hk,hc,n,by simpa using hs⟩,?_⟩
  have e:=r.length;simp only[Array.length_toList]at e;omega
theorem Inv.tK(I:Inv X pins σ H s)(h:dY X.K H a xs)(h':dY X.K H a ys):xs=ys:=by
 have kf:∀o,X.K.lookup a=some o->H a=none:=λo e=>(I.bs a o (I.ok.mod.T1 a o e)).2;have rn:∀u,Rd H a u->H a≠none:=λu z e=>by rcases z with z|⟨_,z⟩<;>(rw[e]at z;cases z)
 rcases h with h|⟨o,its,n,hk,hc,hd,hs,hz,r,nt⟩
 ·rcases h' with h'|⟨o',its',n',pM,EH,Ql,hs',EZ,r',Ui⟩
  ·rcases h with h|⟨_,h⟩<;>rcases h' with h'|⟨_,h'⟩<;>(rw[h]at h';first | (cases h';rfl)|cases h')
  ·exact absurd (kf _ pM) (rn _ h)
 ·rcases h' with h'|⟨o',its',n',pM,EH,Ql,hs',EZ,r',Ui⟩
  ·exact absurd (kf _ hk) (rn _ h')
  ·rw[hk]at pM;cases pM
   rw[hs]at hs';cases hs';rw[<- nt,<- Ui,r.inj r']
theorem Inv.oI(I:Inv X pins σ H s)(h:gS X.K H a xs)(h':gS X.K H a ys):xs=ys:=by
 have kf:∀o,X.K.lookup a=some o->H a=none:=λo e=>(I.bs a o (I.ok.mod.T1 a o e)).2;have rn:∀u,Rd H a u->H a≠none:=λu z e=>by rcases z with z|⟨_,z⟩<;>(rw[e]at z;cases z)
 rcases h with h|⟨o,its,n,hk,hc,hs,hz,r,nt⟩
 ·rcases h' with h'|⟨o',its',n',pM,EH,hs',EZ,r',Ui⟩
  ·rcases h with h|⟨_,h⟩<;>rcases h' with h'|⟨_,h'⟩<;>(rw[h]at h';first | (cases h';rfl)|cases h')
  ·exact absurd (kf _ pM) (rn _ h)
 ·rcases h' with h'|⟨o',its',n',pM,EH,hs',EZ,r',Ui⟩
  ·exact absurd (kf _ hk) (rn _ h')
  ·rw[hk]at pM;cases pM
   rw[hs]at hs';cases hs';rw[<- nt,<- Ui,r.inj r']
end
abbrev Cx.nq(X:Cx)(E:Value->Shared->Prop):Cx:={X with xe:=E}
abbrev Cx.MI(X:Cx):Cx:=X.nq λ_ _=>False
theorem Cx.Ok.nq{X:Cx}(ok:X.Ok)(E:Value->Shared->Prop):(X.nq E).Ok:=
 ⟨ok.mod,ok.kind,ok.glob,ok.blt,ok.above,ok.inj,ok.has,ok.Qi,ok.hd,ok.frames,ok.VI,ok.Xl,ok.bs,ok.EE,ok.zb,ok.Bi,ok.kC,ok.Lj⟩
theorem Cx.Ok.fK{X:Cx}{E:Value->Shared->Prop}(ok:(X.nq E).Ok):X.Ok:=
 ⟨ok.mod,ok.kind,ok.glob,ok.blt,ok.above,ok.inj,ok.has,ok.Qi,ok.hd,ok.frames,ok.VI,ok.Xl,ok.bs,ok.EE,ok.zb,ok.Bi,ok.kC,ok.Lj⟩
section
variable {X:Cx}{pins:List (Addr×Obj)}{σ:St}{H:Hp}{s:Shared}{E:Value->Shared->Prop}
theorem Inv.nq(I:Inv X pins σ H s)(E:Value->Shared->Prop):Inv (X.nq E) pins σ H s:=⟨I.ok.nq E,I.os,I.bare,I.base,I.loc,I.cell,I.free,I.eV,I.pin,I.bP,I.len,I.tk⟩
theorem Inv.fK(I:Inv (X.nq E) pins σ H s):Inv X pins σ H s:=⟨I.ok.fK,I.os,I.bare,I.base,I.loc,I.cell,I.free,I.eV,I.pin,I.bP,I.len,I.tk⟩
theorem SP.fK{D:Ends}{f:Flow}{s':Shared}(h:SP (X.nq E) pins D f s'):SP X pins D f s':=by
 cases f with
 | next=>obtain⟨bB,H',I,q⟩:=h;exact⟨bB,H',I.fK,q⟩
 | brk=>obtain⟨bB,H',I,q⟩:=h;exact⟨bB,H',I.fK,q⟩
 | cont=>obtain⟨bB,H',I,q⟩:=h;exact⟨bB,H',I.fK,q⟩
 | ret u=>obtain⟨v,bB,H',I,r,q⟩:=h;exact⟨v,bB,H',I.fK,r,q⟩
theorem nu.MI{st:List Stmt}{t:TS}(h:nu X.MI st t):nu X st t:=λpins s σ H D I hw =>
 wpAny_mono (h pins s σ H D (I.nq _) hw) (λ_ _ q=>q.fK) λ_ _ z=>False.elim z
end
section
variable {X:Cx}{st:Stmt}{rest:List Stmt}{t u:TS}{e:Expr}{te:TE}{pos:Pos}
def VQ:TS:=λD σ H=>D.nx σ H
def Y6(t u:TS):TS:=λD σ H=>t {D with nx:=u D} σ H
theorem xE:nu X [] VQ:=λ_ _ σ H _ I h=>wpAny_execs_nil ⟨σ,H,I,h⟩
theorem ub(h1:PS X st t)(h2:nu X rest u):nu X (st::rest) (Y6 t u):=by
 intro pins s σ H D I h;refine wpAny_execs_cons (cj (h1 pins s σ H {D with nx:=u D} I h) λf s1 q=>?_)
 cases f with
 | next =>
  obtain⟨bB,H',I',q⟩:=q;exact h2 pins s1 bB H' D I' q
 | ret v=>exact q
 | brk=>exact q
 | cont=>exact q
theorem qm(h1:PS X st t):nu X [st] t:=by
 intro pins s σ H D I h;refine wpAny_execs_cons (cj (h1 pins s σ H D I h) λf s1 q=>?_);cases f with
 | next=>exact wpAny_execs_nil q
 | ret v=>exact q
 | brk=>exact q
 | cont=>exact q
theorem Inv.quiet{pins:List (Addr×Obj)}{σ:St}{H:Hp}{s:Shared}(I:Inv X pins σ H s):interactive X.env=false:=by simp [interactive,I.ok.kind]
def VN(te:TE):TS:=λD σ H=>te σ H λ_ H1=>D.nx σ H1
theorem xD(he:PE X e te)(hs:swapsWith e none pos.line X.env=pure false:=by rfl):PS X (.Expr e pos) (VN te):=by
 intro pins s σ H D I h;exact wpAny_Expr_any (cj (he pins s σ H _ I h) λv s1 ⟨x,H1,I1,r1,q1⟩=>⟨σ,H1,I1,q1⟩) I.quiet hs
def Y5(te:TE):TS:=λD σ H=>te σ H D.rt
theorem vX(he:PE X e te):PS X (.Return (some e) pos) (Y5 te):=by
 intro pins s σ H D I h;exact wpAny_Return_some (cj (he pins s σ H _ I h) λv s1 ⟨x,H1,I1,r1,q1⟩=>⟨x,σ,H1,I1,r1,q1⟩)
def Y0(c:TT)(t u:TS):TS:=λD σ H=>c σ H λb H1=>if b=true then t D σ H1 else u D σ H1
theorem Jd{c:Expr}{a b:List Stmt}{tc:TT}(hc:PT X c tc)(ha:nu X a t)(hb:nu X b u):PS X (.If c a b pos) (Y0 tc t u):=by
 intro pins s σ H D I h;refine wpAny_If (cj (hc pins s σ H _ I h) λd s1 ⟨H1,I1,q1⟩=>?_);cases d with
 | true=>exact ha pins s1 σ H1 D I1 q1
 | false=>exact hb pins s1 σ H1 D I1 q1
def Pt:TS:=λ_ _ _=>False
theorem Dk:PS X st Pt:=λ_ _ _ _ _ _ h=>h.elim
end
abbrev TG:=V->St->Hp->(St->Hp->Prop)->Prop
abbrev HV:=List V->St->Hp->(St->Hp->Prop)->Prop
def PG(X:Cx)(target:Expr)(t:TG):Prop:=
 ∀(pins:List (Addr×Obj)) (s:Shared) (σ:St) (H:Hp) (v:V) (u:Value) (Q:St->Hp->Prop),Inv X pins σ H s->RelV v u->t v σ H Q ->
  wpAny (model X.prog X.w) X.A (assign target X.env u) (λ_ s'=>∃bB H',Inv X pins bB H' s'/\Q bB H') X.xe s
def Qg(X:Cx)(ts:List Expr)(t:HV):Prop:=
 ∀(pins:List (Addr×Obj)) (s:Shared) (σ:St) (H:Hp) (vs:List V) (us:List Value) (Q:St->Hp->Prop),Inv X pins σ H s->Vals vs us->t vs σ H Q ->
  wpAny (model X.prog X.w) X.A (assignInOrder ((assignEach ts X.env).map (·.2)) us) (λ_ s'=>∃bB H',Inv X pins bB H' s'/\Q bB H') X.xe s
abbrev JI:=V->V->V->Hp->(Hp->Prop)->Prop
def QS(X:Cx)(t:JI):Prop:=
 ∀(pins:List (Addr×Obj)) (s:Shared) (σ:St) (H:Hp) (o i v:V) (ov iv u:Value) (Q:Hp->Prop),Inv X pins σ H s->RelV o ov->RelV i iv->RelV v u->t o i v H Q ->
  wpAny (model X.prog X.w) X.A (setItem ov iv u) (λ_ s'=>∃H',Inv X pins σ H' s'/\Q H') X.xe s
section
variable {X:Cx}{pos:Pos}
def hE(i:Nat):TG:=λv σ H Q=>Q (σ.set i (some v)) H
theorem kM{i:Nat}{x:Str}(hN:X.N.Nodup)(hi:X.N[i]?=some x)(hx:Loc X.env.scope x)(hf:X.fn x=true\/X.env.scope.names.lookup x=some .local:=by first|exact .inl rfl|exact .inr rfl|assumption):PG X (.Name x pos) (hE i):=by
 intro pins s σ H v u Q I r h;exact wpAny_assign_Name (mL I hN hi hx r (λs' I'=>⟨_,H,I',h⟩) hf)
def SG:HV:=λvs σ H Q=>vs=[]/\Q σ H
def BK(t:TG)(u:HV):HV:=λvs σ H Q=>∃v r,vs=v::r/\t v σ H λbB H'=>u r bB H' Q
theorem xx:Qg X [] SG:=by
 intro pins s σ H vs us Q I r h;obtain⟨e,h⟩:=h;subst e;cases r;exact assignInOrder_nil ⟨σ,H,I,h⟩
theorem mm{e:Expr}{es:List Expr}{t:TG}{u:HV}(h1:PG X e t)(h2:Qg X es u)
  (hs:(assignEach (e::es) X.env).map (·.2)=assign e X.env::(assignEach es X.env).map (·.2):=by rfl):Qg X (e::es) (BK t u):=by
 intro pins s σ H vs us Q I r h;obtain⟨v,vr,e1,h⟩:=h;subst e1;cases r with
 | cons r rr =>
  rw[hs];refine assignInOrder_cons (cj (h1 pins s σ H _ _ _ I r h) λ_ s1 ⟨aw,H1,I1,q1⟩=>?_);exact h2 pins s1 aw H1 _ _ Q I1 rr q1
def SH(K:PySem.W.Frag)(n:Nat)(t:HV):TG:=λv σ H Q=>∃a xs,v=.ref a/\gS K H a xs/\xs.length=n/\t xs σ H Q
theorem C8{es:List Expr}{k:Nat}{t:HV}{n:Nat}(hc:X.calm=true)(h:Qg X es t)
  (hn:(assignEach es X.env).length=n:=by rfl) (sY:(assignEach es X.env).findIdx? (·.1)=none:=by rfl):PG X (.Tuple es k pos) (SH X.K n t):=by
 intro pins s σ H v u Q I r hw;obtain⟨a,xs,e1,hq,hl,hw⟩:=hw;subst e1;cases r;obtain⟨its,rv,ht,hz⟩:=I.tuple hq;refine assign_Tuple_tuple (I.ok.hd hc) ht (by simp [hn,<- hl,rv.length]) sY λh' hx=>?_
 have I1:Inv X pins σ H {s with heap:=h'}:=I.kept (t':=s.toks) λb o e=>hx b o (Nat.ne_of_lt (Heap.lt_size e)) e
 exact h pins _ σ H xs _ Q I1 (by simpa using rv) hw
def Xq(to ti:TE)(t:JI):TG:=λv σ H Q=>to σ H λo H1=>ti σ H1 λi H2=>t o i v H2 λH3=>Q σ H3
theorem NR{o i:Expr}{to ti:TE}{t:JI}(ho:PE X o to)(hi:PE X i ti)(hs:QS X t)
  (ha:∀v,assign (.Subscript o i pos) X.env v=(do
   let ov <- holding [v] (eval o X.env)
   let iv <- holding [v,ov] (eval i X.env)
   standAt pos
   holding [v,ov,iv] (setItem ov iv v)
   release [v,ov,iv] []):=by intro _;rfl):PG X (.Subscript o i pos) (Xq to ti t):=by
 intro pins s σ H v u Q I r h;rw[ha];refine wpAny_bind (wpAny_holding (cj (ho pins s σ H _ I h) λov s1 ⟨x,H1,I1,r1,q1⟩=>?_));refine wpAny_bind (wpAny_holding (cj (hi pins s1 σ H1 _ I1 q1) λiv s2 ⟨y,H2,I2,r2,q2⟩=>?_));refine wpAny_bind (wpAny_standAt (wpAny_bind (wpAny_holding (cj (hs pins s2 σ H2 x y v ov iv u _ I2 r1 r2 r q2) λ_ s3 ⟨H3,I3,q3⟩=>?_))));exact wpAny_release ⟨σ,H3,I3,q3⟩
def G8(te:TE)(g:TG):TS:=λD σ H=>te σ H λx H1=>g x σ H1 D.nx
theorem Oh{tg e:Expr}{te:TE}{g:TG}(he:PE X e te)(hg:PG X tg g)(hs:swapsWithSole [tg] e pos.line X.env=pure false:=by rfl)(hw:swappedStores [tg] e X.env=pure none:=by rfl)
  (h1:(assignEach [tg] X.env).map (·.2)=[assign tg X.env]:=by rfl):PS X (.Assign [tg] e pos) (G8 te g):=by
 intro pins s σ H D I h;refine wpAny_Assign_stores (cj (he pins s σ H _ I h) λv s1 ⟨x,H1,I1,r1,q1⟩=>?_) hs hw;rw[h1];exact cj (hg pins s1 σ H1 x v _ I1 r1 q1) λ_ s2 q=>q
theorem Dl{i:Nat}{x:Str}{e:Expr}{te:TE}{pos':Pos}(hN:X.N.Nodup)(hi:X.N[i]?=some x)(hx:Loc X.env.scope x)(he:PE X e te)(hs:swapsWith e (some (.Name x pos')) pos.line X.env=pure false:=by rfl)(hf:X.fn x=true\/X.env.scope.names.lookup x=some .local:=by first|exact .inl rfl|exact .inr rfl|assumption):
  PS X (.Assign [.Name x pos'] e pos) (G8 te (hE i)):=by
 intro pins s σ H D I h;refine wpAny_Assign_Name (cj (he pins s σ H _ I h) λv s1 ⟨y,H1,I1,r1,q1⟩=>?_) hs;exact mL I1 hN hi hx r1 (λs2 I2=>⟨_,H1,I2,q1⟩) hf
end
section
variable {X:Cx}{pos:Pos}
def Pw(c:TT)(tb:TS):TS:=λD σ H=>∃W:Nat->St->Hp->Prop,(∃m,W m σ H)/\∀m σ H,W m σ H ->
 c σ H λb H1=>if b=true then∃N:St->Hp->Prop,(∀bB H',N bB H'->∃m',m'<m/\W m' bB H')/\tb {D with nx:=N,ct:=N,bk:=D.nx} σ H1 else D.nx σ H1
theorem Dm{c:Expr}{body:List Stmt}{tc:TT}{tb:TS}(hp:PassesOwn (model X.prog X.w) X.A X.env X.xe)(hc:PT X c tc)(hb:nu X body tb):PS X (.While c body [] pos) (Pw tc tb):=by
 intro pins s σ H D I h;obtain⟨W,⟨m0,w0⟩,turn⟩:=h;refine wpAny_While (codeAny_whileLoop (λn s'=>∃bB H',Inv X pins bB H' s'/\W n bB H') ?_ m0 ⟨σ,H,I,w0⟩);rintro n s1 ⟨aw,H1,I1,w1⟩;refine wpAny_passesOwn hp (cj (hc pins s1 aw H1 _ I1 (turn n aw H1 w1)) λb s2 ⟨H2,I2,q2⟩=>?_);cases b with
 | true =>
  obtain⟨N,hN,q2⟩:=q2;rw[if_pos rfl];refine wpAny_passesOwn hp (cj (hb pins s2 aw H2 _ I2 q2) λf s3 q3=>?_);cases f with
  | next =>
   obtain⟨fe,H3,I3,n3⟩:=q3;obtain⟨m',hm,w3⟩:=hN fe H3 n3;exact⟨m',hm,fe,H3,I3,w3⟩
  | cont =>
   obtain⟨fe,H3,I3,n3⟩:=q3;obtain⟨m',hm,w3⟩:=hN fe H3 n3;exact⟨m',hm,fe,H3,I3,w3⟩
  | brk=>exact q3
  | ret v=>exact q3
 | false =>
  rw[if_neg Bool.false_ne_true];exact wpAny_execs_nil ⟨aw,H2,I2,q2⟩
end
structure It where
 go:Nat->Hp->Prop
 QD:Nat->Hp->V->Hp->Prop
 stop:Nat->Hp->Prop
def fV(X:Cx)(pins:List (Addr×Obj))(H:Hp)(b:Addr):Prop:=
 H b=none/\b≠X.env.locals/\b∉X.fs/\(b∈X.ex\/X.cw.heap.objs.size<=b)/\(∀x c,X.env.cells.lookup x=some c->c≠b)/\∀p∈X.pn++pins,p.1≠b
theorem Inv.vC{X:Cx}{pins:List (Addr×Obj)}{σ:St}{H H':Hp}{s:Shared}{b:Addr}(I:Inv X pins σ H s)(hb:s.heap.objs.size<=b)(hn:H' b=none):fV X pins H' b:=by
 refine⟨hn,Nat.ne_of_gt (Nat.lt_of_lt_of_le I.lt hb),I.YC hb,.inr (Nat.le_trans I.sz hb),λx c e z=>?_,λp hp z=>?_⟩
 ·obtain⟨v,q⟩:=I.cell x c e
  exact absurd (Nat.lt_of_lt_of_le q.lt (by rw[z];exact hb)) (Nat.lt_irrefl _)
 ·exact absurd (Nat.lt_of_lt_of_le (Heap.lt_size (I.pin p hp).1) (by rw[z];exact hb)) (Nat.lt_irrefl _)
structure Aj(C:Cx->Prop)(P:Program)(w:World)(K:PySem.W.Frag)(tg:Expr)(J:It)(fp:List Addr)(it:Addr)(tn:Nat->Heap->Prop):Prop where
 mem:it∈fp
 obj:∀i h,tn i h->∀b∈fp,∃o,h.get? b=some o/\∀v,o.data≠.cell v
 keep:∀i h h',tn i h->(∀b∈fp,∀o,h.get? b=some o->h'.get? b=some o)->tn i h'
 item:∀(X:Cx),X.prog=P->X.w=w->X.K=K->C X->∀(i:Nat) (pins:List (Addr×Obj)) (s:Shared) (σ:St) (H:Hp) (E:Value->Shared->Prop),Inv X pins σ H s->(∀b∈fp,fV X pins H b)->tn i s.heap->J.go i H ->
  wpAny (model P w) X.A (pyNext (.ref it)) (λr s1=>∃u,r=some u /\
   wpAny (model P w) X.A (letOwnedTupleGo tg (.ref it) u) (λ_ s2=>∃x H',Inv X pins σ H' s2/\RelV x u/\J.QD i H x H'/\tn (i+1) s2.heap/\∀b∈fp,H' b=none) E s1) E s
 done:∀(X:Cx),X.prog=P->X.w=w->X.K=K->C X->∀(i:Nat) (pins:List (Addr×Obj)) (s:Shared) (σ:St) (H:Hp) (E:Value->Shared->Prop),Inv X pins σ H s->(∀b∈fp,fV X pins H b)->tn i s.heap->J.stop i H ->
  wpAny (model P w) X.A (pyNext (.ref it)) (λr s1=>r=none/\Inv X pins σ H s1) E s
 self:∀(A:Around) (i:Nat) (s:Shared) (Q:Value->Shared->Prop) (E:Value->Shared->Prop),tn i s.heap->Q (.ref it) s->wpAny (model P w) A (pyIter (.ref it)) Q E s
abbrev Turn(P:Program)(w:World)(K:PySem.W.Frag)(tg:Expr)(J:It)(fp:List Addr)(it:Addr)(tn:Nat->Heap->Prop):Prop:=Aj (λX=>X.calm=true) P w K tg J fp it tn
abbrev TI:=St->Hp->(It->Hp->Prop)->Prop
def QR(C:Cx->Prop)(X:Cx)(pins:List (Addr×Obj))(σ:St)(tg:Expr)(R:It->Hp->Prop)(Wl:Value)(s2:Shared):Prop:=
 ∃(it:Addr) (fp:List Addr) (tn:Nat->Heap->Prop) (J:It) (H':Hp),Wl=.ref it/\Inv X pins σ H' s2/\Aj C X.prog X.w X.K tg J fp it tn/\tn 0 s2.heap/\(∀b∈fp,fV X pins H' b)/\R J H'
abbrev Zk(X:Cx):=QR (λX=>X.calm=true) X
def Zj(C:Cx->Prop)(X:Cx)(tg iter:Expr)(wi:TI):Prop:=
 ∀(pins:List (Addr×Obj)) (s:Shared) (σ:St) (H:Hp) (R:It->Hp->Prop),Inv X pins σ H s->wi σ H R ->
  wpAny (model X.prog X.w) X.A (eval iter X.env) (λv s1=>wpAny (model X.prog X.w) X.A (pyIter v) (QR C X pins σ tg R) X.xe s1) X.xe s
abbrev PI(X:Cx)(tg iter:Expr)(wi:TI):Prop:=Zj (λX=>X.calm=true) X tg iter wi
theorem BP{M:Model}{A:Around}{E:Value->Shared->Prop}{s:Shared}{tg:Expr}{it:Addr}{u:Value}{o:Obj}{n:String}{vs:Array Value}{Q:Unit->Shared->Prop}(ho:s.heap.get? it=some o)(hc:o.cls=.type n)(hd:o.data=.fields vs)
    (hn:["enumerate","zip","dict_itemiterator","dict_reverseitemiterator","odict_iterator","itertools.zip_longest","itertools.pairwise"].contains n=false) (hQ:Q () s):wpAny M A (letOwnedTupleGo tg (.ref it) u) Q E s:=by
  unfold letOwnedTupleGo;cases tg<;>first
    | exact wpAny_pure hQ
    | (cases u<;>first
        | exact wpAny_pure hQ
        | (refine wpAny_bind (wpAny_load ho ?_)
           rw[hc,hd];show wpAny M A (if(["enumerate","zip","dict_itemiterator","dict_reverseitemiterator","odict_iterator","itertools.zip_longest","itertools.pairwise"].contains n&&vs[0]?==some (rawInt _))=true then _ else _) Q E s
           rw[if_neg (by intro h;rw[hn,Bool.false_and]at h;cases h)]
           exact wpAny_pure hQ))
def WN(K:PySem.W.Frag)(a:Addr):It:=
 ⟨λi H=>∃xs x,dY K H a xs/\xs[i]?=some x,λi H x H'=>H'=H/\∀xs,dY K H a xs->xs[i]?=some x,λi H=>∃xs,dY K H a xs/\xs.length<=i⟩
def WO(K:PySem.W.Frag)(a:Addr):It:=
 ⟨λi H=>∃xs x,gS K H a xs/\xs[i]?=some x,λi H x H'=>H'=H/\∀xs,gS K H a xs->xs[i]?=some x,λi H=>∃xs,gS K H a xs/\xs.length<=i⟩
def QP(lo:Int)(n:Nat):It:=⟨λi _=>i<n,λi H x H'=>H'=H/\x=.int (lo+i),λi _=>n<=i⟩
theorem zK{P:Program}{w:World}{K:PySem.W.Frag}{tg:Expr}(a it:Addr):Turn P w K tg (WN K a) [it] it (λi h=>h.IsListIter it a i) where
 mem:=by simp
 obj:=λi h st b hb=>by
  have e:b=it:=by simpa using hb
  subst e;obtain⟨o,e,c,d⟩:=st;exact⟨o,e,λv z=>by rw[d]at z;cases z⟩
 keep:=λi h h' st k=>st.at λo e=>k it (by simp) o e
 item:=by
  intro X hP hw hK hc i pins s σ H E I hf st hg;subst hP hw hK;obtain⟨xs,x,hq,hx⟩:=hg;obtain⟨its,rv,p,hz⟩:=I.list hq;obtain⟨u,hu,ru⟩:=rv.get hx;obtain⟨f0,f1,f2,f3,f4,f5⟩:=hf it (by simp)
  refine wpAny_pyNext_list_item st p.isList (x:=u) (by simpa using hu) λh' az sb=>?_
  have I1:Inv X pins σ H {s with heap:=h'}:=I.turned (t':=s.toks) (λb o hb e=>(sb.2 b hb).trans e) f0 f1 f3 f4 f5
  obtain⟨o,e,c,d⟩:=id az;exact⟨u,rfl,BP (s:={s with heap:=h'}) e c d ∅ ⟨x,H,I1,ru,⟨rfl,λys hy=>by rw[I.tK hy hq];exact hx⟩,az,λb hb=>(hf b hb).1⟩⟩
 done:=by
  intro X hP hw hK hc i pins s σ H E I hf st hg;subst hP hw hK;obtain⟨xs,hq,hx⟩:=hg;obtain⟨its,rv,p,hz⟩:=I.list hq;obtain⟨f0,f1,f2,f3,f4,f5⟩:=hf it (by simp)
  have hl:=rv.length;exact wpAny_pyNext_list_end (I.ok.hd hc) st p.isList (by simp;omega) λh' eb=>⟨rfl,I.turned (t':=s.toks) (λb o hb e=>eb b o hb e) f0 f1 f3 f4 f5⟩
 self:=λ_ _ _ _ _ st h=>wpAny_pyIter_listiter st h
theorem wB{P:Program}{w:World}{K:PySem.W.Frag}{tg:Expr}(a it:Addr):Turn P w K tg (WO K a) [it] it (λi h=>h.IsTupleIter it a i) where
 mem:=by simp
 obj:=λi h st b hb=>by
  have e:b=it:=by simpa using hb
  subst e;obtain⟨o,e,c,d⟩:=st;exact⟨o,e,λv z=>by rw[d]at z;cases z⟩
 keep:=λi h h' st k=>st.at λo e=>k it (by simp) o e
 item:=by
  intro X hP hw hK hc i pins s σ H E I hf st hg;subst hP hw hK;obtain⟨xs,x,hq,hx⟩:=hg;obtain⟨its,rv,p,hz⟩:=I.tuple hq;obtain⟨u,hu,ru⟩:=rv.get hx;obtain⟨f0,f1,f2,f3,f4,f5⟩:=hf it (by simp)
  refine wpAny_pyNext_tuple_item st (show s.heap.IsTuple a its.toArray from p) (x:=u) (by simpa using hu) λh' az sb=>?_
  have I1:Inv X pins σ H {s with heap:=h'}:=I.turned (t':=s.toks) (λb o hb e=>(sb.2 b hb).trans e) f0 f1 f3 f4 f5
  obtain⟨o,e,c,d⟩:=id az;exact⟨u,rfl,BP (s:={s with heap:=h'}) e c d ∅ ⟨x,H,I1,ru,⟨rfl,λys hy=>by rw[I.oI hy hq];exact hx⟩,az,λb hb=>(hf b hb).1⟩⟩
 done:=by
  intro X hP hw hK hc i pins s σ H E I hf st hg;subst hP hw hK;obtain⟨xs,hq,hx⟩:=hg;obtain⟨its,rv,p,hz⟩:=I.tuple hq;obtain⟨f0,f1,f2,f3,f4,f5⟩:=hf it (by simp)
  have hl:=rv.length;exact wpAny_pyNext_tuple_end (I.ok.hd hc) st (show s.heap.IsTuple a its.toArray from p) (by simp;omega) λh' eb=>⟨rfl,I.turned (t':=s.toks) (λb o hb e=>eb b o hb e) f0 f1 f3 f4 f5⟩
 self:=λ_ _ _ _ _ st h=>wpAny_pyIter_tupleiter st h
theorem wA{P:Program}{w:World}{K:PySem.W.Frag}{tg:Expr}(it:Addr)(lo:Int)(n:Nat):Turn P w K tg (QP lo n) [it] it (λi h=>IsRangeIter h it (lo+(i:Nat)*1) ((n:Int)-(i:Nat)) 1) where
 mem:=by simp
 obj:=λi h st b hb=>by
  have e:b=it:=by simpa using hb
  subst e;exact⟨_,st,λv z=>by
   have z':Data.fields _=Data.cell v:=z;cases z'⟩
 keep:=λi h h' st k=>k it (by simp) _ st
 item:=by
  intro X hP hw hK hc i pins s σ H E I hf st hg;subst hP hw hK;obtain⟨f0,f1,f2,f3,f4,f5⟩:=hf it (by simp)
  have W:=Walks.range (prog:=X.prog) (w:=X.w) (I.ok.hd hc) it lo 1 n;refine wpAny_with_toks (Nat.le_refl s.toks) (W.item i s _ _ hg st λv h' tk hv az kk h8=>?_);have h8:s.toks<=tk:=h8;obtain⟨t,rfl⟩:=hv;have I1:Inv X pins σ H {s with heap:=h',toks:=tk}:=I.turned (λb o hb e=>kk b o (by simpa using hb) e) f0 f1 f3 f4 f5
  refine⟨_,rfl,BP (s:={s with heap:=h',toks:=tk}) (n:="range_iterator") az rfl rfl ∅ ⟨.int (lo+i),H,I1,⟨t,?_⟩,⟨rfl,rfl⟩,az,λb hb=>(hf b hb).1⟩⟩
  rw[Int.mul_one]
 done:=by
  intro X hP hw hK hc i pins s σ H E I hf st hg;subst hP hw hK;obtain⟨f0,f1,f2,f3,f4,f5⟩:=hf it (by simp)
  exact wpAny_pyNext_range_end (I.ok.hd hc) st (by have:n<=i:=hg;omega) λh' eb=>⟨rfl,I.turned (t':=s.toks) (λb o hb e=>eb b o hb e) f0 f1 f3 f4 f5⟩
 self:=λ_ _ _ _ _ st h=>wpAny_pyIter_rangeiter st h
end L2
namespace L2
open PySem PySem.Spec PyProof.Rows
section
variable {X:Cx}{tg:Expr}
theorem um{pins:List (Addr×Obj)}{σ:St}{H:Hp}{s:Shared}{R:It->Hp->Prop}{E:Value->Shared->Prop}{lo hi:Int}{t u v:Tok}{tk:Nat}(I:Inv X pins σ H s)(h1:-(2^62)<=lo)(h2:lo<2^62)(h3:-(2^62)<=hi)(h4:hi<2^62)(h8:0<tk)
  (q:R (QP lo (hi-lo).toNat) H):wpAny (model X.prog X.w) X.A (pyIter (.ref s.heap.objs.size)) (Zk X pins σ tg R) E {s with heap:=s.heap.push {cls:=.type "range",data:=.fields #[.int lo t,.int hi u,.int 1 v]},toks:=tk}:=by
 refine wpAny_pyIter_range (IsRange.new ..) (small_one h1 h2 h3 h4) ?_;have I1:Inv X pins σ H {s with heap:=s.heap.push {cls:=.type "range",data:=.fields #[.int lo t,.int hi u,.int 1 v]},toks:=tk}:=I.kept λb o e=>Heap.get?_push_of_some _ e
 refine⟨(s.heap.push {cls:=.type "range",data:=.fields #[.int lo t,.int hi u,.int 1 v]}).objs.size,[(s.heap.push {cls:=.type "range",data:=.fields #[.int lo t,.int hi u,.int 1 v]}).objs.size],_,_,H,rfl,
  I1.kept (t':=tk) λb o e=>Heap.get?_push_of_some _ e,wA _ lo (hi-lo).toNat,?_,λb hb=>?_,q⟩
 ·have e1:lo+((0:Nat):Int)*1=lo:=by simp
  have e2:(((hi-lo).toNat:Nat):Int)-((0:Nat):Int)=Builtin.Range.rangeSize lo hi 1:=by rw[rangeSize_one];split<;>omega
  show IsRangeIter _ _ (lo+((0:Nat):Int)*1) ((((hi-lo).toNat:Nat):Int)-((0:Nat):Int)) 1;rw[e1,e2];exact Heap.get?_push_size _ rfl
 ·have e:b=(s.heap.push {cls:=.type "range",data:=.fields #[.int lo t,.int hi u,.int 1 v]}).objs.size:=by simpa using hb
  subst e;exact I1.vC (Nat.le_refl _) (I1.bP.fresh (Nat.le_refl _))
def Ts(ta:TA):TI:=λσ H R=>ta σ H λvs H1=>∃j:Int,vs=[.int j]/\-(2^62)<=j/\j<2^62/\R (QP 0 j.toNat) H1
def Tt(ta:TA):TI:=λσ H R=>ta σ H λvs H1=>∃i j:Int,vs=[.int i,.int j]/\(-(2^62)<=i/\i<2^62/\-(2^62)<=j/\j<2^62)/\R (QP i (j-i).toNat) H1
theorem om{a:Expr}{ta:TA}{p pos:Pos}(hg:Gl X "range")(hm:X.mg "range"=none)(ha:PA X [a] ta)(hs:starEach [a] X.env=[(false,eval a X.env)]:=by rfl):PI X tg (.Call (.Name "range" p) [a] [] pos) (Ts ta):=by
 intro pins s σ H R I h;refine Call_ (dJ I hg hm boot_range (PyProof.Rows.callWith_type1 (cj (ha pos pins s σ H _ I h) λus s1 ⟨vs,H1,I1,r1,q1⟩=>?_) hs rfl));obtain⟨j,e,q1,q2,q⟩:=q1;subst e;cases r1 with
 | cons r rr =>
  cases rr;obtain⟨t,rfl⟩:=r;exact call_range_1 (um I1 ⋯ ⋯ q1 q2 (Nat.succ_pos _) (by simpa using q))
theorem zo{a b:Expr}{ta:TA}{p pos:Pos}(hg:Gl X "range")(hm:X.mg "range"=none)(ha:PA X [a,b] ta)(hs:starEach [a,b] X.env=[(false,eval a X.env),(false,eval b X.env)]:=by rfl)(sX:starEach [b] X.env=[(false,eval b X.env)]:=by rfl):
  PI X tg (.Call (.Name "range" p) [a,b] [] pos) (Tt ta):=by
 intro pins s σ H R I h;refine Call_ (dJ I hg hm boot_range (PyProof.Rows.callWith_type1 (cj (ha pos pins s σ H _ I h) λus s1 ⟨vs,H1,I1,r1,q1⟩=>?_) (by rw[hs,sX]) (by rw[sX];rfl)))
 obtain⟨i,j,e,⟨q1,q2,q3,q4⟩,q⟩:=q1;subst e;cases r1 with
 | cons r rr =>
  cases rr with
  | cons r' rr =>
   cases rr;obtain⟨t,rfl⟩:=r;obtain⟨t',rfl⟩:=r';exact call_range_2 (um I1 q1 q2 q3 q4 (Nat.succ_pos _) q)
def VO(wi:TI)(g:TG)(tb:TS):TS:=λD σ H=>wi σ H λJ H1=>∃W:Nat->Nat->St->Hp->Prop,(∃m,W 0 m σ H1)/\∀i m σ H,W i m σ H ->
 (J.stop i H/\D.nx σ H)\/(J.go i H/\∃N:St->Hp->Prop,(∀bB H',N bB H'->∃m',m'<m/\W (i+1) m' bB H')/\∀x H',J.QD i H x H'->g x σ H' λbq H2=>tb {D with nx:=N,ct:=N,bk:=D.nx} bq H2)
def jI(fp:List Addr)(h:Heap):List (Addr×Obj):=fp.filterMap λb=>(h.get? b).map λo=>(b,o)
theorem dN{fp:List Addr}{h:Heap}{b:Addr}{o:Obj}(hb:b∈fp)(e:h.get? b=some o):(b,o)∈jI fp h:=List.mem_filterMap.mpr ⟨b,hb,by rw[e];rfl⟩
theorem zf{fp:List Addr}{h:Heap}{p:Addr×Obj}(hp:p∈jI fp h):p.1∈fp/\h.get? p.1=some p.2:=by
 obtain⟨b,hb,e⟩:=List.mem_filterMap.mp hp;cases q:h.get? b with
 | none=>rw[q]at e;cases e
 | some o =>
  rw[q]at e;have e':(b,o)=p:=Option.some.inj e;subst e';exact⟨hb,q⟩
theorem Inv.pinned{pins:List (Addr×Obj)}{σ:St}{H:Hp}{s:Shared}{fp:List Addr}(I:Inv X pins σ H s)(hf:∀b∈fp,fV X pins H b)(ho:∀b∈fp,∃o,s.heap.get? b=some o/\∀v,o.data≠.cell v):Inv X (pins++jI fp s.heap) σ H s:=
 I.xB λp hp=>(List.mem_append.mp hp).elim (λz=>I.pin p (List.mem_append_right _ z)) λz=>by
  obtain⟨hb,e⟩:=zf z;obtain⟨f0,f1,f2,_⟩:=hf p.1 hb;obtain⟨o,e',d⟩:=ho p.1 hb;rw[e]at e';cases e';exact⟨e,f0,f1,f2,d⟩
theorem Inv.fJ{pins pl:List (Addr×Obj)}{σ:St}{H:Hp}{s:Shared}(I:Inv X (pins++pl) σ H s):Inv X pins σ H s:=I.xB λp hp=>I.pin p (List.mem_append_right _ (List.mem_append_left _ hp))
theorem Dj{iter:Expr}{body:List Stmt}{wi:TI}{g:TG}{tb:TS}{pos:Pos}(hp:PassesOwn (model X.prog X.w) X.A X.env X.xe)(hc:X.calm=true)(hi:PI X tg iter wi)(hg:PG X tg g)(hb:nu X body tb)
  (hs:∀x,foldedSetIterable iter X.env x=pure x:=by intro _;rfl):PS X (.For tg iter body [] pos) (VO wi g tb):=by
 intro pins s σ H D I h;refine wpAny_For (cj (hi pins s σ H _ I h) λv s1 h1=>cj h1 λWl s2 h2=>?_) hs;obtain⟨it,fp,tn,J,H2,e,I2,T,zF,f2,W,⟨m0,w0⟩,turn⟩:=h2;subst e
 -- what stays true of the iterator's objects through the loop
 have stat:∀ {H':Hp},(∀b∈fp,H' b=none)->∀b∈fp,fV X pins H' b:=λhn b hb=>⟨hn b hb,(f2 b hb).2⟩;refine codeAny_forLoop_any (λn s'=>∃i bB H',Inv X pins bB H' s'/\tn i s'.heap/\(∀b∈fp,H' b=none)/\W i n bB H') ?_ m0 ⟨0,σ,H2,I2,zF,λb hb=>(f2 b hb).1,w0⟩;rintro n s3 ⟨i,fe,H3,I3,st3,Qj,w3⟩;rcases turn i n fe H3 w3 with⟨stop,qn⟩|⟨go,N,hN,step⟩
 ·refine wpAny_passesOwn hp (cj (T.done X rfl rfl rfl hc i pins s3 fe H3 X.xe I3 (stat Qj) st3 stop) λr s4 ⟨hr,I4⟩=>?_)
  subst hr;exact wpAny_execs_nil ⟨fe,H3,I4,qn⟩
 ·refine wpAny_passesOwn hp (cj (T.item X rfl rfl rfl hc i pins s3 fe H3 X.xe I3 (stat Qj) st3 go) λr s4 ⟨u,hr,h4⟩=>?_)
  subst hr;refine wpAny_passesOwn hp (cj h4 λ_ s5 ⟨x,H5,I5,r5,y5,Qx,Li⟩=>?_);have I5':=I5.pinned (stat Li) (T.obj _ _ Qx);refine wpAny_passesOwn hp (cj (hg _ s5 fe H5 x u _ I5' r5 (step x H5 y5)) λ_ s6 ⟨σ6,H6,I6,q6⟩=>?_);refine wpAny_passesOwn hp (cj (hb _ s6 σ6 H6 _ I6 q6) λf s7 q7=>?_);have again:∀ {Ex:St} {H7:Hp},Inv X (pins++jI fp s5.heap) Ex H7 s7->N Ex H7->∃m,m<n/\∃i bB H',Inv X pins bB H' s7/\tn i s7.heap/\(∀b∈fp,H' b=none)/\W i m bB H':=λ{Ex H7} I7 n7=>by
   obtain⟨m',hm,w7⟩:=hN Ex H7 n7;refine⟨m',hm,i+1,Ex,H7,I7.fJ,T.keep _ _ _ Qx λb hb o e=>(I7.pin (b,o) (List.mem_append_right _ (List.mem_append_right _ (dN hb e)))).1,λb hb=>?_,w7⟩;obtain⟨o,e,d⟩:=T.obj _ _ Qx b hb;exact(I7.pin (b,o) (List.mem_append_right _ (List.mem_append_right _ (dN hb e)))).2.1
  cases f with
  | next=>obtain⟨Ex,H7,I7,n7⟩:=q7;exact again I7 n7
  | cont=>obtain⟨Ex,H7,I7,n7⟩:=q7;exact again I7 n7
  | brk=>obtain⟨Ex,H7,I7,q7⟩:=q7;exact⟨Ex,H7,I7.fJ,q7⟩
  | ret v=>obtain⟨x7,Ex,H7,I7,r7,q7⟩:=q7;exact⟨x7,Ex,H7,I7.fJ,r7,q7⟩
end
end L2
namespace L2
open PySem PySem.Spec PyProof.Rows
abbrev R2:=V->V->Hp->VK->Prop
def f9(X:Cx)(f:Value->Value->Sem Value)(r:R2):Prop:=
 ∀(pins:List (Addr×Obj)) (s:Shared) (σ:St) (H:Hp) (x y:V) (v u:Value) (Q:VK),Inv X pins σ H s->RelV x v->RelV y u->r x y H Q ->
  wpAny (model X.prog X.w) X.A (f v u) (EP X pins σ Q) X.xe s
def WY(X:Cx)(f:Value->Sem Value)(r:V->Hp->VK->Prop):Prop:=
 ∀(pins:List (Addr×Obj)) (s:Shared) (σ:St) (H:Hp) (x:V) (v:Value) (Q:VK),Inv X pins σ H s->RelV x v->r x H Q ->
  wpAny (model X.prog X.w) X.A (f v) (EP X pins σ Q) X.xe s
def cy(X:Cx)(f:Value)(r:List V->Hp->VK->Prop):Prop:=
 ∀(pins:List (Addr×Obj)) (s:Shared) (σ:St) (H:Hp) (xs:List V) (us:List Value) (Q:VK),Inv X pins σ H s->Vals xs us->r xs H Q ->
  wpAny (model X.prog X.w) X.A (call f us) (EP X pins σ Q) X.xe s
def WX(X:Cx)(r:V->Hp->(Bool->Hp->Prop)->Prop):Prop:=
 ∀(pins:List (Addr×Obj)) (s:Shared) (σ:St) (H:Hp) (x:V) (v:Value) (Q:Bool->Hp->Prop),Inv X pins σ H s->RelV x v->r x H Q ->
  wpAny (model X.prog X.w) X.A (truthy v) (TP X pins σ Q) X.xe s
def Qy(r:R2)(ta tb:TE):TE:=λσ H Q=>ta σ H λx H1=>tb σ H1 λy H2=>r x y H2 Q
def tUn(r:V->Hp->VK->Prop)(ta:TE):TE:=λσ H Q=>ta σ H λx H1=>r x H1 Q
def rI(C:Int->Int->Prop)(g:Int->Int->V):R2:=λx y H Q=>∃i j,x=.int i/\y=.int j/\C i j/\Q (g i j) H
def E1(g:Int->Int->V):R2:=λx y H Q=>∃i j,x=.int i/\y=.int j/\Q (g i j) H
def rU(g:Int->V):V->Hp->VK->Prop:=λx H Q=>∃i,x=.int i/\Q (g i) H
section
variable {X:Cx}{a b c:Expr}{ta tb tc:TE}{pos:Pos}
theorem JZ(ha:PE X a ta)(hb:PE X b tb){pins:List (Addr×Obj)}{s:Shared}{σ:St}{H:Hp}{R:V->V->Hp->Prop}(I:Inv X pins σ H s)
  (h:ta σ H λx H1=>tb σ H1 λy H2=>R x y H2) {Q:Value->Shared->Prop} {f:Value->Value->Sem Value}
  (hf:∀v u s2 x y H2,Inv X pins σ H2 s2->RelV x v->RelV y u->R x y H2->wpAny (model X.prog X.w) X.A (f v u) Q X.xe s2):
  wpAny (model X.prog X.w) X.A (eval a X.env) (λv bI=>wpAny (model X.prog X.w) X.A (eval b X.env) (λu uE=>wpAny (model X.prog X.w) X.A (f v u) Q X.xe uE) X.xe bI) X.xe s:=by
 refine cj (ha pins s σ H _ I h) λv s1 ⟨x,H1,I1,r1,q1⟩=>?_;refine cj (hb pins s1 σ H1 _ I1 q1) λu s2 ⟨y,H2,I2,r2,q2⟩=>?_;exact hf v u s2 x y H2 I2 r1 r2 q2
theorem UW{op:Operator}{r:R2}(ho:f9 X (binaryOp op) r)(ha:PE X a ta)(hb:PE X b tb):PE X (.BinOp a op b pos) (Qy r ta tb):=by
 intro pins s σ H Q I h;exact wpAny_BinOp (JZ ha hb I h λv u s2 x y H2 I2 rx ry q=>ho pins s2 σ H2 x y v u Q I2 rx ry q)
theorem UX{op:UnaryOp}{r:V->Hp->VK->Prop}(ho:WY X (unaryOp op) r)(ha:PE X a ta):PE X (.UnaryOp op a pos) (tUn r ta):=by
 intro pins s σ H Q I h;exact UnaryOp_ (cj (ha pins s σ H _ I h) λv s1 ⟨x,H1,I1,r1,q1⟩=>ho pins s1 σ H1 x v Q I1 r1 q1)
theorem Ws{f:Value->Value->Sem Value}{C:Int->Int->Prop}{g:Int->Int->Int}
  (rule:∀(i j:Int) (t u:Tok) (s:Shared) (Q:Value->Shared->Prop) (E:Value->Shared->Prop),C i j->Q (.int (g i j) s.toks) {s with toks:=s.toks+1}->wpAny (model X.prog X.w) X.A (f (.int i t) (.int j u)) Q E s):
  f9 X f (rI C λi j=>.int (g i j)):=by
 intro pins s σ H x y v u Q I rx ry h;obtain⟨i,j,rfl,rfl,hc,q⟩:=h;obtain⟨t,rfl⟩:=rx;obtain⟨t',rfl⟩:=ry;exact rule i j t t' s _ _ hc ⟨.int (g i j),H,I.tok _,⟨_,rfl⟩,q⟩
theorem UK{f:Value->Value->Sem Value}{g:Int->Int->Int}
  (rule:∀(i j:Int) (t u:Tok) (s:Shared) (Q:Value->Shared->Prop) (E:Value->Shared->Prop),Q (.int (g i j) s.toks) {s with toks:=s.toks+1}->wpAny (model X.prog X.w) X.A (f (.int i t) (.int j u)) Q E s):
  f9 X f (E1 λi j=>.int (g i j)):=by
 intro pins s σ H x y v u Q I rx ry h;obtain⟨i,j,rfl,rfl,q⟩:=h;obtain⟨t,rfl⟩:=rx;obtain⟨t',rfl⟩:=ry;exact rule i j t t' s _ _ ⟨.int (g i j),H,I.tok _,⟨_,rfl⟩,q⟩
theorem Gn{f:Value->Value->Sem Value}{g:Int->Int->Bool}
  (rule:∀(i j:Int) (t u:Tok) (s:Shared) (Q:Value->Shared->Prop) (E:Value->Shared->Prop),Q (.bool (g i j)) s->wpAny (model X.prog X.w) X.A (f (.int i t) (.int j u)) Q E s):
  f9 X f (E1 λi j=>.bl (g i j)):=by
 intro pins s σ H x y v u Q I rx ry h;obtain⟨i,j,rfl,rfl,q⟩:=h;obtain⟨t,rfl⟩:=rx;obtain⟨t',rfl⟩:=ry;exact rule i j t t' s _ _ ⟨.bl (g i j),H,I,rfl,q⟩
def WG(i j:Int):Prop:=0<j/\j<1073741824
def vd(i j:Int):Prop:=0<=j/\j<=1000000/\i.natAbs<2^64
def fj(i j:Int):Prop:=(-(2^64)<i/\i<2^64)\/(-(2^64)<j/\j<2^64)
theorem fj.ok{i j:Int}(h:fj i j):IntMulOk i j:=by
 rcases h with⟨h1,h2⟩|⟨h1,h2⟩
 ·exact .of_left (intBits_le_64 h1 h2)
 ·exact .of_right (intBits_le_64 h1 h2)
theorem Ni:f9 X (binaryOp .Add) (E1 λi j=>.int (i+j)):=UK λ_ _ _ _ _ _ _ q=>add_int q
theorem Nr:f9 X (binaryOp .Sub) (E1 λi j=>.int (i-j)):=UK λ_ _ _ _ _ _ _ q=>sub_int q
theorem Nn:f9 X (binaryOp .Mult) (rI fj λi j=>.int (i*j)):=Ws λ_ _ _ _ _ _ _ hc q=>mul_int q hc.ok
theorem Nm:f9 X (binaryOp .Mod) (rI (λ_ j=>0<j) λi j=>.int (i%j)):=Ws λi j _ _ _ _ _ hc q=>by
 have h1:(0:Int)<j:=hc;exact mod_int' ⋯ (by rw[Int.fmod_eq_emod_of_nonneg i ⋯];exact q)
theorem Nq:f9 X (binaryOp .Pow) (rI vd λi j=>.int (i^j.toNat)):=Ws λ_ _ _ _ _ _ _ hc q=>pow_int_small hc.1 hc.2.1 hc.2.2 q
theorem unI{f:Value->Sem Value}{g:Int->Int}
  (rule:∀(i:Int) (t:Tok) (s:Shared) (Q:Value->Shared->Prop) (E:Value->Shared->Prop),Q (.int (g i) s.toks) {s with toks:=s.toks+1}->wpAny (model X.prog X.w) X.A (f (.int i t)) Q E s):
  WY X f (rU λi=>.int (g i)):=by
 intro pins s σ H x v Q I rx h;obtain⟨i,rfl,q⟩:=h;obtain⟨t,rfl⟩:=rx;exact rule i t s _ _ ⟨.int (g i),H,I.tok _,⟨_,rfl⟩,q⟩
theorem PZ:WY X (unaryOp .USub) (rU λi=>.int (-i)):=unI λ_ _ _ _ _ q=>neg_int q
end
section
variable {X:Cx}{a b c:Expr}{ta tb tc:TE}{pos:Pos}
theorem Lg{pins:List (Addr×Obj)}{σ:St}{H:Hp}{s:Shared}{Q:VK}{k k':Bool}(I:Inv X pins σ H s)(q:Q (.bl k) H)(e:k=k'):EP X pins σ Q (.bool k') s:=by
 subst e;exact⟨.bl k,H,I,rfl,q⟩
theorem UN:f9 X (compareOp .Lt) (E1 λi j=>.bl (decide (i<j))):=Gn λ_ _ _ _ _ _ _ q=>lt_int q
theorem IZ:f9 X (compareOp .LtE) (E1 λi j=>.bl (decide (i<=j))):=Gn λ_ _ _ _ _ _ _ q=>le_int q
theorem UM:f9 X (compareOp .Gt) (E1 λi j=>.bl (decide (j<i))):=Gn λ_ _ _ _ _ _ _ q=>gt_int q
theorem UL:f9 X (compareOp .GtE) (E1 λi j=>.bl (decide (j<=i))):=Gn λ_ _ _ _ _ _ _ q=>ge_int q
theorem Nk:f9 X (compareOp .Is) (λx y H Q=>y=.bx/\Q (.bl (decide (x=.bx))) H):=by
 intro pins s σ H x y v u Q I rx ry h;obtain⟨rfl,q⟩:=h;cases ry;refine is_none_gen (Lg I q ?_);cases x<;>first
  | (cases rx;rfl)
  | (obtain⟨t,rfl⟩:=rx;rfl)
  | (obtain⟨t,rfl,_⟩:=rx;rfl)
theorem f9.or{f:Value->Value->Sem Value}{r r':R2}(h:f9 X f r)(h':f9 X f r'):f9 X f (λx y H Q=>r x y H Q\/r' x y H Q):=by
 intro pins s σ H x y v u Q I rx ry q;rcases q with q|q
 ·exact h pins s σ H x y v u Q I rx ry q
 ·exact h' pins s σ H x y v u Q I rx ry q
theorem CK(b:Expr){op:CmpOp}(h:op≠.In:=by decide)(h2:op≠.NotIn:=by decide):behindInMarks op b=false:=by
 have e1:(op==CmpOp.In)=false:=by cases op<;>first|rfl|exact absurd rfl h
 have e2:(op==CmpOp.NotIn)=false:=by cases op<;>first|rfl|exact absurd rfl h2
 cases b<;>simp [behindInMarks,e1,e2]
theorem Gz{op:CmpOp}{r:R2}(ho:f9 X (compareOp op) r)(ha:PE X a ta)(hb:PE X b tb)(hm:behindInMarks op b=false):PE X (.Compare a [op] [b] pos) (Qy r ta tb):=by
 intro pins s σ H Q I h;exact wpAny_Compare1 (JZ ha hb I h λv u s2 x y H2 I2 rx ry q=>ho pins s2 σ H2 x y v u Q I2 rx ry q) hm
def VS(t:TE):TT:=λσ H Q=>t σ H λx H'=>∃k,x=.bl k/\Q k H'
theorem GN{op:CmpOp}{r:R2}(ho:f9 X (compareOp op) r)(ha:PE X a ta)(hb:PE X b tb)(hm:behindInMarks op b=false):PT X (.Compare a [op] [b] pos) (VS (Qy r ta tb)):=by
 intro pins s σ H Q I h;refine wpAny_isTrue_Compare1 (cj (ha pins s σ H _ I h) λv s1 ⟨x,H1,I1,r1,q1⟩=>cj (hb pins s1 σ H1 _ I1 q1) λu s2 ⟨y,H2,I2,r2,q2⟩ =>
  cj (ho pins s2 σ H2 x y v u _ I2 r1 r2 q2) λc s3 ⟨z,H3,I3,r3,k,e,q3⟩=>?_) hm
 subst e;cases r3;exact wpAny_truthy_bool ⟨H3,I3,q3⟩
def QU(K:PySem.W.Frag)(x:V)(H:Hp)(k:Bool):Prop:=
 match x with
 | .bx=>k=false
 | .bl b=>k=b
 | .int i=>k=(i != 0)
 | .str y=>y.length<=sizeLine/\k=((y.length:Int) != 0)
 | .Rh y=>y.size<=sizeLine/\k=((y.size:Int) != 0)
 | .ref p=>(∃xs,dY K H p xs/\k=!xs.isEmpty)\/(∃xs,gS K H p xs/\k=!xs.isEmpty)\/∃kvs,H p=some (.dK kvs)/\k=!kvs.isEmpty
 | _=>False
theorem vI{κ:Type}{kvs:List (κ×V)}{vs:List (κ×Value)}(r:KV kvs vs):(!vs.isEmpty)=!kvs.isEmpty:=by
 cases r<;>rfl
theorem lF{xs:List V}{its:List Value}(r:Vals xs its):(!its.toArray.isEmpty)=!xs.isEmpty:=by
 cases r<;>simp
theorem gE:(sizeLine:Nat)<2^63:=by rw[sizeLine_eq];decide
theorem PR:WX X (λx H Q=>∃k,QU X.K x H k/\Q k H):=by
 intro pins s σ H x v Q I rx h;obtain⟨k,e,q⟩:=h;have hl:=gE;have hs:sizeLine=16777216:=sizeLine_eq;cases x with
 | bx =>
  cases rx;have e':k=false:=e;subst e';exact truthy_none ⟨H,I,q⟩
 | bl b =>
  cases rx;have e':k=b:=e;subst e';exact wpAny_truthy_bool ⟨H,I,q⟩
 | int i =>
  obtain⟨t,rfl⟩:=rx;have e':k=(i != 0):=e;subst e';exact PySem.P.truthy_int ⟨H,I,q⟩
 | str y =>
  obtain⟨t,rfl⟩:=rx;obtain⟨hy,e'⟩:y.length<=sizeLine/\k=((y.length:Int) != 0):=e;subst e';exact PySem.P.truthy_str ⋯ ⟨H,I.tok _,q⟩
 | Rh y =>
  obtain⟨t,rfl⟩:=rx;obtain⟨hy,e'⟩:y.size<=sizeLine/\k=((y.size:Int) != 0):=e;subst e';exact PySem.W.truthy_bytes ⋯ ⟨H,I.tok _,q⟩
 | ref p =>
  cases rx;have e':(∃xs,dY X.K H p xs/\k=!xs.isEmpty)\/(∃xs,gS X.K H p xs/\k=!xs.isEmpty)\/∃kvs,H p=some (.dK kvs)/\k=!kvs.isEmpty:=e;rcases e' with⟨xs,hx,e'⟩|⟨xs,hx,e'⟩|⟨kvs,hx,e'⟩
  ·subst e'
   obtain⟨its,r,pl,hz⟩:=I.list hx;have hlen:=r.length;exact wpAny_truthy_list pl.isList (by simp only[List.size_toArray];omega) ⟨H,I.tok _,by rw[lF r];exact q⟩
  ·subst e'
   obtain⟨its,r,pl,hz⟩:=I.tuple hx;have hlen:=r.length;exact truthy_tuple pl (by simp only[List.size_toArray];omega) ⟨H,I.tok _,by rw[lF r];exact q⟩
  ·subst e'
   obtain⟨hz,hS,vs,r,m⟩:kvs.length<=sizeLine/\(p==sysModules)=false/\∃vs,KV kvs vs/\s.heap.DictOf (cb X.prog X.w) p vs:=I.bP p _ hx;have hlen:kvs.length=vs.length:=Paired.length r;exact wpAny_truthy_dict hS m ⋯ ⟨H,I.tok _,by rw[vI r];exact q⟩
 | _=>exact(show False from e).elim
theorem Dp(ha:PE X a ta)(he:∀whole,isTrue a X.env whole=(do let v <- whole;standAt a.pos;holding [v] (truthy v))):
  PT X a (λσ H Q=>ta σ H λx H'=>∃k,QU X.K x H' k/\Q k H'):=by
 intro pins s σ H Q I h;exact isTrue_plain (cj (ha pins s σ H _ I h) λv s1 ⟨x,H1,I1,r1,q1⟩=>PR pins s1 σ H1 x v Q I1 r1 q1) (he _)
theorem vP:f9 X (binaryOp .Add) (λx y H Q=>∃i j,x=.str i/\y=.str j/\i.length+j.length<=sizeLine/\Q (.str (i++j)) H):=by
 intro pins s σ H x y v u Q I rx ry h;obtain⟨i,j,rfl,rfl,hz,q⟩:=h;obtain⟨t,rfl⟩:=rx;obtain⟨t',rfl⟩:=ry;exact wpAny_with_toks (Nat.le_refl s.toks) (add_str (λt' tk h8=>⟨.str (i++j),H,I.tok _,⟨_,rfl⟩,q⟩) hz)
theorem vals1{x:V}{us:List Value}(r:Vals [x] us):∃u,us=[u]/\RelV x u:=by
 cases r with
 | cons r1 r2=>cases r2;exact⟨_,rfl,r1⟩
theorem vals2{x y:V}{us:List Value}(r:Vals [x,y] us):∃u w',us=[u,w']/\RelV x u/\RelV y w':=by
 cases r with
 | cons r1 r2 =>
  cases r2 with
  | cons r3 r4=>cases r4;exact⟨_,_,rfl,r1,r3⟩
theorem Aq:cy X (.builtin "abs") (λxs H Q=>∃i,xs=[.int i]/\Q (.int (if i<0 then -i else i)) H):=by
 intro pins s σ H xs us Q I r h;obtain⟨i,rfl,q⟩:=h;obtain⟨u,rfl,t,rfl⟩:=vals1 r;exact wpAny_with_toks (Nat.le_refl s.toks) (call_abs_int λu tk h8=>⟨.int (if i<0 then -i else i),H,I.tok _,⟨_,rfl⟩,q⟩)
theorem yt(hc:X.calm=true):cy X (.builtin "max") (λxs H Q=>∃i j,xs=[.int i,.int j]/\Q (.int (if j>i then j else i)) H):=by
 intro pins s σ H xs us Q I r h;obtain⟨i,j,rfl,q⟩:=h;obtain⟨u,w',rfl,⟨t,rfl⟩,⟨t',rfl⟩⟩:=vals2 r;refine wpAny_with_toks (Nat.le_refl s.toks) (max_two_ints (I.ok.hd hc) λh' tk k h8=>⟨_,H,I.kept k,?_,q⟩)
 by_cases hj:j>i
 ·rw[if_pos hj,if_pos hj];exact⟨_,rfl⟩
 ·rw[if_neg hj,if_neg hj];exact⟨_,rfl⟩
theorem yu(hc:X.calm=true):cy X (.builtin "min") (λxs H Q=>∃i j,xs=[.int i,.int j]/\Q (.int (if j<i then j else i)) H):=by
 intro pins s σ H xs us Q I r h;obtain⟨i,j,rfl,q⟩:=h;obtain⟨u,w',rfl,⟨t,rfl⟩,⟨t',rfl⟩⟩:=vals2 r;refine wpAny_with_toks (Nat.le_refl s.toks) (min_two_ints (I.ok.hd hc) λh' tk k h8=>⟨_,H,I.kept k,?_,q⟩)
 by_cases hj:j<i
 ·rw[if_pos hj,if_pos hj];exact⟨_,rfl⟩
 ·rw[if_neg hj,if_neg hj];exact⟨_,rfl⟩
theorem yr:cy X (.type "int") (λxs H Q=>(∃i,xs=[.int i]/\Q (.int i) H)\/∃k,xs=[.bl k]/\Q (.int (if k then 1 else 0)) H):=by
 intro pins s σ H xs us Q I r h;rcases h with⟨i,rfl,q⟩|⟨k,rfl,q⟩
 ·obtain⟨u,rfl,t,rfl⟩:=vals1 r
  exact call_int_int ⟨.int i,H,I,⟨_,rfl⟩,q⟩
 ·obtain⟨u,rfl,r1⟩:=vals1 r
  cases r1;exact call_int_bool ⟨.int (if k then 1 else 0),H,I.tok _,⟨_,rfl⟩,q⟩
end
end L2
namespace L2
open PySem PySem.Spec PyProof.Rows
structure JF(h:Heap)(x dx C:Addr)(mA:Str->Option Value):Prop where
 obj:h.get? x=some (PySem.W.instObj C dx)
 ns:h.Ns1 dx mA
 ne:dx≠x
theorem yZ{h:Heap}{dx:Addr}{mA:Str->Option Value}(n:h.Ns1 dx mA):∃od,h.get? dx=some od/\∀name,PySem.W.lookIn name od=some (mA name):=by
 obtain⟨o,es,ep,ho,hd,hk,_,hm⟩:=n;refine⟨o,ho,λname=>?_⟩;have e:=hm name;unfold nsFind findBy at e;rw[<- Array.find?_toList]at e;unfold PySem.W.lookIn;rw[hd];dsimp only
 split
 ·rename_i y q
  rw[q]at e;exact congrArg some e
 ·rename_i q
  rw[q]at e;have a:es.toList.any (·.refKey)=false:=by
   rw[List.any_eq_false];intro y hy;obtain⟨z,t,FI⟩:=hk y (Array.mem_toList_iff.mp hy);simp [DictEntry.refKey,FI]
  have a':¬es.toList.any (·.refKey)=true:=by rw[a];exact Bool.false_ne_true
  rw[if_neg a'];exact congrArg some e
theorem JF.look{h:Heap}{x dx C:Addr}{mA:Str->Option Value}(I:JF h x dx C mA):∃od,PySem.W.InstAt h x (PySem.W.instObj C dx) C (some od)/\∀name,PySem.W.lookIn name od=some (mA name):=
 let ⟨od,ho,hl⟩:=yZ I.ns
 ⟨od,⟨I.obj,rfl,rfl,ho⟩,hl⟩
section
variable {P:Program}{w:World}{H H':Hp}{h h':Heap}{a C dx:Addr}{fs fs':List (Str×V)}
theorem FQ(bP:fW P w H h)(e:H a=some (.ins C dx fs)):∃mA,JF h a dx C mA/\(∀f,vg (fs.lookup f) (mA f))/\PySem.Within mA (fs.map (·.1))/\fs.length<=1000/\H dx=some (.own a):=by
 obtain⟨d,z,ne,ob,mA,n,r,q⟩:=(show bL P w H h a (.ins C dx fs)from bP a _ e)
 exact⟨mA,⟨ob,n,ne⟩,r,q,z,d⟩
end
structure WK(K:PySem.W.Frag)(C:Addr):Prop where
 pg:PySem.W.plainGet K C Str.empty=true
 hd:PySem.W.hasDictIn K C=true
 po:PySem.W.plainOver K C=true
 sa:PySem.W.findIn K (.ref C) "__setattr__"=some (some (.builtin "object.__setattr__"))
theorem WK.get{K:PySem.W.Frag}{C:Addr}(c:WK K C)(f:Str):PySem.W.plainGet K C f=true:=c.pg
section
variable {X:Cx}{o e value:Expr}{f:Str}{pos pos' tpos:Pos}{ta tv:TE}
def GP:V->V->Hp->VK->Prop:=λx y H Q=>∃i j,x=.int i/\y=.int j/\Q (.int (i+j)) H
end
section
variable {X:Cx}{pins:List (Addr×Obj)}{σ:St}{H:Hp}{s:Shared}{A:Around}{E:Value->Shared->Prop}{Q:Value->Shared->Prop}{c:Value}{b:Bool}
inductive gT (K:PySem.W.Frag)(H:Hp):V->Value->Prop where
 | bx:gT K H .bx (.type "NoneType")
 | bl (x:Bool):gT K H (.bl x) (.type "bool")
 | int (i:Int):gT K H (.int i) (.type "int")
 | str (x:Str):gT K H (.str x) (.type "str")
 | Lh (x:UInt64):gT K H (.Lh x) (.type "float")
 | lst {a:Addr} {xs:List V} (e:H a=some (.lst xs)):gT K H (.ref a) (.type "list")
 | nQ {a:Addr} {o:Obj} {xs:List V} (e:H a=some (.nQ o (.lst xs))):gT K H (.ref a) (.type "list")
 | tup {a:Addr} {xs:List V} (e:H a=some (.tup xs)):gT K H (.ref a) (.type "tuple")
 | dK {a:Addr} {kvs:List (Key×V)} (e:H a=some (.dK kvs)):gT K H (.ref a) (.type "dict")
 | dT {a:Addr} {kvs:List (List Key×V)} (e:H a=some (.dT kvs)):gT K H (.ref a) (.type "dict")
 | ins {a C dx:Addr} {fs:List (Str×V)} (e:H a=some (.ins C dx fs)) (cl:WK K C) (ha:PySem.W.findIn K (.ref C) "__class__"=some (some (.builtin "object.__class__")))
   (hn:PySem.W.specialIn K (.builtin "object.__class__") "__get__"=some (some (.builtin "getset_descriptor.__get__"))) (h8:PySem.W.takesIn K (.builtin "object.__class__")=some true)
   (hm:PySem.W.mroIn K C (.type "object")=some true):gT K H (.ref a) (.ref C)
theorem yR{x:V}{u t:Value}(I:Inv X pins σ H s)(rx:RelV x u)(ty:gT X.K H x t)(e:PySem.W.kitOne X.K t c=some b)(h:∀tk,Q (.bool b) {s with toks:=tk}):
  wpAny (model X.prog X.w) A (call (.builtin "isinstance") [u,c]) Q E s:=by
 cases ty with
 | bx=>cases(show u=Value.none from rx);exact PySem.W.kia_one PySem.W.kitx_none I.rK True.intro e (λz=>nomatch z) h
 | bl y=>cases(show u=Value.bool y from rx);exact PySem.W.kia_one PySem.W.kitx_bool I.rK True.intro e (λz=>nomatch z) h
 | int i=>obtain⟨t,q⟩:=(show∃t,u=Value.int i t from rx);cases q;exact PySem.W.kia_one PySem.W.kitx_int I.rK True.intro e (λz=>nomatch z) h
 | str y=>obtain⟨t,q⟩:=(show∃t,u=Value.str y t from rx);cases q;exact PySem.W.kia_one PySem.W.kitx_str I.rK True.intro e (λz=>nomatch z) h
 | Lh y=>obtain⟨t,q⟩:=(show∃t,u=Value.float y t from rx);cases q;exact PySem.W.kia_one PySem.W.kitx_float I.rK True.intro e (λz=>nomatch z) h
 | @lst a xs ea =>
  cases(show u=Value.ref a from rx)
  obtain⟨_,_,n,_,h1⟩:=(show bL X.prog X.w H s.heap a (.lst xs)from I.bP a _ ea)
  exact PySem.W.kia_one PySem.W.kitx_list I.rK ⟨_,h1,rfl⟩ e (λz=>nomatch z) h
 | @nQ a ob xs ea =>
  cases(show u=Value.ref a from rx)
  obtain⟨_,_,_,n,_,h1⟩:=(show bL X.prog X.w H s.heap a (.nQ ob (.lst xs))from I.bP a _ ea)
  exact PySem.W.kia_one PySem.W.kitx_list I.rK ⟨_,h1,rfl⟩ e (λz=>nomatch z) h
 | @tup a xs ea =>
  cases(show u=Value.ref a from rx)
  obtain⟨_,_,_,p⟩:=(show bL X.prog X.w H s.heap a (.tup xs)from I.bP a _ ea)
  obtain⟨o,h1,h2,_⟩:=p;exact PySem.W.kia_one PySem.W.kitx_tuple I.rK ⟨o,h1,h2⟩ e (λz=>nomatch z) h
 | @dK a kvs ea =>
  cases(show u=Value.ref a from rx)
  obtain⟨_,_,vs,_,p⟩:=(show bL X.prog X.w H s.heap a (.dK kvs)from I.bP a _ ea)
  obtain⟨o,es,ep,h1,h2,_⟩:=p;exact PySem.W.kia_one PySem.W.kitx_dict I.rK ⟨o,h1,h2.1⟩ e (λz=>nomatch z) h
 | @dT a kvs ea =>
  cases(show u=Value.ref a from rx)
  obtain⟨_,_,xs,_,o,es,ep,h1,h2,_⟩:=(show bL X.prog X.w H s.heap a (.dT kvs)from I.bP a _ ea)
  exact PySem.W.kia_one PySem.W.kitx_dict I.rK ⟨o,h1,h2.1⟩ e (λz=>nomatch z) h
 | @ins a C dx fs ea cl ha hn h8 hm =>
  cases(show u=Value.ref a from rx)
  obtain⟨mA,O,_⟩:=FQ I.bP ea;obtain⟨od,J,_⟩:=O.look;exact PySem.W.kia_one (PySem.W.kitx_own (cl.get _) cl.hd ha hn h8 hm) I.rK J e (λz=>nomatch z) h
end
end L2
namespace L2
open PySem PySem.Spec PyProof.Rows
structure fX(k:Nat)(A:Around):Prop where
 hd:A.handled=none
 dp:A.depth+3*k+5<recursionLimit
 un:A.units+16*k+200<cLine
theorem fX.mono{j k:Nat}{A:Around}(r:fX k A)(h:j<=k):fX j A:=⟨r.hd,by have:=r.dp;omega,by have:=r.un;omega⟩
theorem fX.deeper{k:Nat}{A:Around}(r:fX (k+1) A)(env:Env):fX k (A.deeper env):=
 ⟨r.hd,by have:=r.dp;show A.depth+1+3*k+5<_;omega,by have:=r.un;show A.units+3+16*k+200<_;omega⟩
theorem fX.depth{k:Nat}{A:Around}(r:fX k A):A.depth<recursionLimit:=by have:=r.dp;omega
def mN:TA:=λ_ H Q=>Q [] H
def dX(ta:TE)(tr:TA):TA:=λσ H Q=>ta σ H λx H1=>tr σ H1 λxs H2=>Q (x::xs) H2
section
variable {X:Cx}{e:Expr}{es:List Expr}{te:TE}{t:TA}{pos:Pos}
theorem cW:PA X [] mN:=λ_ _ _ _ H Q I h=>Calls.spliced_nil ⟨[],H,I,.nil,h⟩
theorem bS(ha:PE X e te)(hr:PA X es t)(hs:starEach (e::es) X.env=(false,eval e X.env)::starEach es X.env:=by rfl):PA X (e::es) (dX te t):=by
 intro pos pins s σ H Q I h;rw[hs];show wpAny _ _ (spliced ((false,eval e X.env)::backTo pos (starEach es X.env))) _ _ s;refine Calls.spliced_cons (cj (ha pins s σ H _ I h) λu s1 ⟨x,H1,I1,r1,q1⟩=>?_);exact cj (hr pos pins s1 σ H1 _ I1 q1) λus s2 ⟨xs,H2,I2,r2,q2⟩=>⟨x::xs,H2,I2,.cons r1 r2,q2⟩
def Pu(t:TA):TE:=λσ H Q=>t σ H λxs H1=>xs.length<=sizeLine/\∀p,H1 p=none->Q (.ref p) (upd H1 p (.tup xs))
def Pr(t:TA):TE:=λσ H Q=>t σ H λxs H1=>xs.length<=sizeLine/\∀p,H1 p=none->Q (.ref p) (upd H1 p (.lst xs))
theorem C6{x1}(h:PA X es t):PE X (.Tuple es x1 pos) (Pu t):=by
 intro pins s σ H Q I hq;refine wpAny_Tuple_spliced (cj (h pos pins s σ H _ I hq) λus s1 ⟨xs,H1,I1,r,z,q⟩=>⟨by rw[<- r.length];exact z,?_⟩)
 have hf:H1 s1.heap.objs.size=none:=I1.bP.fresh (Nat.le_refl _);refine⟨.ref s1.heap.objs.size,upd H1 s1.heap.objs.size (.tup xs),I1.laid (t':=s1.toks) (λb u e=>Heap.get?_push_of_some _ e) (Nat.le_refl _) ?_,rfl,q _ hf⟩;exact⟨z,us,r,⟨_,Heap.get?_push_size _ rfl,rfl,_,rfl⟩⟩
theorem ml(h:PA X es t):PE X (.List es pos) (Pr t):=by
 intro pins s σ H Q I hq;refine wpAny_List_spliced (cj (h pos pins s σ H _ I hq) λus s1 ⟨xs,H1,I1,r,z,q⟩=>⟨by rw[<- r.length];exact z,?_⟩)
 have hf:H1 s1.heap.objs.size=none:=I1.bP.fresh (Nat.le_refl _);refine⟨.ref s1.heap.objs.size,upd H1 s1.heap.objs.size (.lst xs),I1.laid (t':=s1.toks) (λb u e=>Heap.get?_push_of_some _ e) (Nat.le_refl _) ?_,rfl,q _ hf⟩;exact⟨z,us,0,r,Heap.get?_push_size _ rfl⟩
end
abbrev Sp:=List V->Hp->VK->XK->Prop
abbrev yi:=List Env->Hp->Shared->XK->Value->Shared->Prop
structure E5(P:Program)(w:World)(K:PySem.W.Frag)(mg:Str->Option Value)(base:Heap)(A:Around)(outer:List Env)(s:Shared)(H:Hp):Prop where
 frames:A.frames=some outer
 mod:Mod K mg base
 bs:∀b o,base.get? b=some o->s.heap.get? b=some o/\H b=none
 EE:base.objs.size<=s.heap.objs.size
 kC:s.heap.FunFrames base outer
 Lj:∀b∈BG outer,H b=none
 bP:fW P w H s.heap
 bare:AllBare s.gens
def CE(outer:List Env)(P:Program)(w:World)(H:Hp)(s:Shared)(Q:VK)(u:Value)(s':Shared):Prop:=
 ∃v H',s'.os=s.os/\AllBare s'.gens/\Un (BG outer) [] H H' s.heap s'.heap/\fW P w H' s'.heap/\RelV v u/\Q v H'
def CR(CX:yi)(outer:List Env)(P:Program)(w:World)(H:Hp)(s:Shared)(Q:VK)(E:XK)(r:Result)(s':Shared):Prop:=
 match r with
 | .ok (.ret u)=>CE outer P w H s Q u s'
 | .ok _=>False
 | .error e=>CX outer H s E e s'
structure dD(P:Program)(w:World)(K:PySem.W.Frag)(mg:Str->Option Value)(base:Heap)(CX:yi)(k:Nat)(f:Addr)(fd:FuncData)(ps:List Str)(sp:Sp):Prop where
 len:∀vs H Q E,sp vs H Q E->vs.length=ps.length
 run:∀(A:Around) (outer:List Env) (s:Shared) (H:Hp) (args:Args) (us:List Value) (vs:List V) (Q:VK) (E:XK),fX k A->E5 P w K mg base A outer s H->(0<s.toks\/yk fd ps)->BindsTo s fd args (ps.zip us)->Vals vs us->sp vs H Q E ->
  codeAny (model P w) A (.call (.ref f) args) (CR CX outer P w H s Q E) s
theorem dD.mono{P:Program}{w:World}{K:PySem.W.Frag}{mg:Str->Option Value}{base:Heap}{CX:yi}{j k:Nat}{f:Addr}{fd:FuncData}{ps:List Str}{sp:Sp}(F:dD P w K mg base CX j f fd ps sp)(h:j<=k):
  dD P w K mg base CX k f fd ps sp:=⟨F.len,λA outer s H args us vs Q E hr=>F.run A outer s H args us vs Q E (hr.mono h)⟩
theorem dD.imp{P:Program}{w:World}{K:PySem.W.Frag}{mg:Str->Option Value}{base:Heap}{CX:yi}{k:Nat}{f:Addr}{fd:FuncData}{ps:List Str}{sp sp':Sp}(F:dD P w K mg base CX k f fd ps sp)
  (h:∀vs H Q E,sp' vs H Q E->sp vs H Q E):dD P w K mg base CX k f fd ps sp':=
 ⟨λvs H Q E q=>F.len vs H Q E (h _ _ _ _ q),λA outer s H args us vs Q E hr he hz hb hv hs=>F.run A outer s H args us vs Q E hr he hz hb hv (h _ _ _ _ hs)⟩
section
variable {X:Cx}{pins:List (Addr×Obj)}{σ:St}{H:Hp}{s s':Shared}
theorem Inv.Xj(I:Inv X pins σ H s):E5 X.prog X.w X.K X.mg X.base X.A X.stack s H:=
 ⟨I.ok.frames,I.ok.mod,I.bs,Nat.le_trans I.ok.EE I.sz,I.stack,I.xY,I.bP,I.bare⟩
theorem Inv.after{Q:VK}{u:Value}(I:Inv X pins σ H s)(h:CE X.stack X.prog X.w H s Q u s')(h8:s.toks<=s'.toks):EP X pins σ Q u s':=by
 obtain⟨v,H',os,bare,un,bP,r,q⟩:=h;obtain⟨hh,g,d,t,YG⟩:=s';obtain rfl:YG=s.os:=os;exact⟨v,H',I.call (h':=hh) (g':=g) (d':=d) (t':=t) (ch:=[]) un bP bare (λb z=>absurd z (by simp)),r,q⟩
end
def VM(sp:Sp)(dvs:List V)(E:XK)(t:TA):TE:=λσ H Q=>t σ H λvs H1=>sp (vs++dvs) H1 Q E
def Binds(K:PySem.W.Frag)(fd:FuncData)(ps:List Str)(ds:List Value):Prop:=
 ∀(s:Shared) (us:List Value),K.In s.heap->(us++ds).length=ps.length->BindsTo s fd ⟨us,[]⟩ (ps.zip (us++ds))
theorem Binds.all{K:PySem.W.Frag}{fd:FuncData}{ps:List Str}(h:∀us:List Value,us.length=ps.length->bindArgs fd ⟨us,[]⟩=pure (ps.zip us)):Binds K fd ps []:=λs us _ hl=>by
 rw[List.append_nil]at hl ⊢;exact .of_eq (h us hl)
def Passes(CX:yi)(X:Cx)(E:XK):Prop:=∀(pins:List (Addr×Obj)) (σ:St) (H:Hp) (s:Shared) (e:Value) (s':Shared),Inv X pins σ H s->CX X.stack H s E e s'->X.xe e s'
section
variable {X:Cx}{CX:yi}{k:Nat}{f C:Addr}{fd:FuncData}{ps:List Str}{sp:Sp}{dvs:List V}{ds:List Value}{E:XK}{x m:Str}{p pos apos:Pos}{e o:Expr}{es:List Expr}{ta:TE}{t:TA}
theorem Ox{pins:List (Addr×Obj)}{σ:St}{H:Hp}{s:Shared}{Q:VK}{us:List Value}{vs:List V}(F:dD X.prog X.w X.K X.mg X.base CX k f fd ps sp)(hr:fX k X.A)(hb:Binds X.K fd ps ds)(hd:Vals dvs ds)(hx:Passes CX X E)
  (I:Inv X pins σ H s) (r:Vals vs us) (h:sp (vs++dvs) H Q E):wpAny (model X.prog X.w) X.A (call (.ref f) us) (EP X pins σ Q) X.xe s:=by
 have r2:Vals (vs++dvs) (us++ds):=r.append hd;have hl:(us++ds).length=ps.length:=by rw[<- r2.length];exact F.len _ _ _ _ h
 refine wpAny_call (codeAny_with_toks (Nat.le_refl s.toks) (codeAny_mono (F.run X.A X.stack s H ⟨us,[]⟩ (us++ds) (vs++dvs) Q E hr I.Xj (.inl I.tk) (hb s us I.rK hl) r2 h) λr s' hq h8=>?_));cases r with
 | error e=>exact hx pins σ H s e s' I hq
 | ok fl =>
  cases fl with
  | ret u=>exact I.after hq h8
  | next=>exact False.elim hq
  | brk=>exact False.elim hq
  | cont=>exact False.elim hq
theorem qg(F:dD X.prog X.w X.K X.mg X.base CX k f fd ps sp)(hr:fX k X.A)(hg:Gl X x)(hm:X.mg x=some (.ref f))(hk:PySem.W.keepIn X.K (.ref f)=true)(hb:Binds X.K fd ps ds)(hd:Vals dvs ds)(hx:Passes CX X E)
  (ha:PA X (e::es) t) (sW:(x==("__debug__":Str))=false:=by decide) (he:starEach (e::es) X.env=(false,eval e X.env)::starEach es X.env:=by rfl) (d2:(backTo pos (starEach es X.env)).any (·.1)=false:=by rfl):
  PE X (.Call (.Name x p) (e::es) [] pos) (VM sp dvs E t):=by
 intro pins s σ H Q I h;refine wpAny_Call_Name_kw (xm I hg hm ?_ sW);refine PySem.W.callWith_K (h₀:=X.base) I.ok.mod.T1 hk (cj (ha pos pins s σ H _ I h) λus s1 ⟨vs,H1,I1,r,q⟩=>⟨I1.rK,?_⟩) he d2;exact Ox F hr hb hd hx I1 r q
end
def PK(X:Cx)(T2:List Keyword)(t:TA):Prop:=
 ∀(pos:Pos) (pins:List (Addr×Obj)) (s:Shared) (σ:St) (H:Hp) (Q:List V->Hp->Prop),Inv X pins σ H s->t σ H Q->wpAny (model X.prog X.w) X.A (evalAll ((backToKw pos (keywordEach T2 X.env)).map (·.2))) (AP X pins σ Q) X.xe s
section
variable {X:Cx}{CX:yi}{k:Nat}{f C:Addr}{fd:FuncData}{ps ks:List Str}{sp:Sp}{E:XK}{x m:Str}{p pos apos Yo:Pos}{e o:Expr}{es:List Expr}{T2:List Keyword}{te ta:TE}{t tk:TA}{nm:Option Str}
theorem NU:PK X [] mN:=λ_ _ _ _ H Q I h=>wpAny_evalAll_nil ⟨[],H,I,.nil,h⟩
theorem GF(ha:PE X e te)(hr:PK X T2 t):PK X (⟨nm,e,Yo⟩::T2) (dX te t):=by
 intro pos pins s σ H Q I h;show wpAny _ _ (evalAll ((do let v <- eval e X.env;standAt pos;pure v)::(backToKw pos (keywordEach T2 X.env)).map (·.2))) _ _ s
 refine wpAny_evalAll_cons (wpAny_bind (cj (ha pins s σ H _ I h) λu s1 ⟨x,H1,I1,r1,q1⟩=>wpAny_bind (wpAny_standAt (wpAny_pure ?_))));exact cj (hr pos pins s1 σ H1 _ I1 q1) λus s2 ⟨xs,H2,I2,r2,q2⟩=>⟨x::xs,H2,I2,.cons r1 r2,q2⟩
variable {g:List Value->List Value->List Value}{gV:List V->List V->List V}
end
structure aL(N P:List Str)(sc:Scope):Prop where
 kind:sc.kind=.function
 co:sc.isCoroutine=false
 gen:sc.isGenerator=false
 nd:N.Nodup
 pre:N.take P.length=P
 par:∀x∈P,sc.names.lookup x=some .local\/sc.names.lookup x=some .cell
 MG:∀y∈sc.names,y.2≠.free
theorem nD{kindOf:Str->Option NameKind}{x:Str}:∀ {binds:List (Str×Value)} {m:Str->Option Value},(∀v,(x,v)∉binds)->bindL kindOf binds m x=m x
 | [],_,_=>rfl
 | (n,v)::r,m,h=>by
  unfold bindL;rw[nD λw hw=>h w (List.mem_cons_of_mem _ hw)]
  split
  ·have:x≠n:=by rintro rfl;exact h v List.mem_cons_self
   simp [this]
  ·rfl
theorem nA{kindOf:Str->Option NameKind}{x:Str}:∀ {binds:List (Str×Value)} {m:Str->Option Value},(∀v,(x,v)∉binds)->bindC kindOf binds m x=m x
 | [],_,_=>rfl
 | (n,v)::r,m,h=>by
  unfold bindC;rw[nA λw hw=>h w (List.mem_cons_of_mem _ hw)]
  split
  ·rfl
  ·have:x≠n:=by rintro rfl;exact h v List.mem_cons_self
   simp [this]
theorem nC{kindOf:Str->Option NameKind}{x:Str}{v:Value}:∀ {P:List Str} {vs:List Value} {i:Nat} {m:Str->Option Value},P.Nodup->P[i]?=some x->vs[i]?=some v->kindOf x=some .local ->
  bindL kindOf (P.zip vs) m x=some v
 | [],_,_,_,_,h,_,_=>by simp at h
 | _::_,[],_,_,_,_,h,_=>by simp at h
 | p::P,w::vs,0,m,nd,h1,h2,hk=>by
  simp at h1 h2;subst h1;subst h2;show bindL kindOf ((p,w)::P.zip vs) m p=_;unfold bindL;rw[nD λv hv=>(List.nodup_cons.mp nd).1 (List.of_mem_zip hv).1,if_pos hk];simp
 | p::P,w::vs,i+1,m,nd,h1,h2,hk=>by
  show bindL kindOf ((p,w)::P.zip vs) m x=_;unfold bindL;exact nC (i:=i) (List.nodup_cons.mp nd).2 (by simpa using h1) (by simpa using h2) hk
theorem nz{kindOf:Str->Option NameKind}{x:Str}{v:Value}:∀ {P:List Str} {vs:List Value} {i:Nat} {m:Str->Option Value},P.Nodup->P[i]?=some x->vs[i]?=some v->kindOf x≠some .local ->
  bindC kindOf (P.zip vs) m x=some v
 | [],_,_,_,_,h,_,_=>by simp at h
 | _::_,[],_,_,_,_,h,_=>by simp at h
 | p::P,w::vs,0,m,nd,h1,h2,hk=>by
  simp at h1 h2;subst h1;subst h2;show bindC kindOf ((p,w)::P.zip vs) m p=_;unfold bindC;rw[nA λv hv=>(List.nodup_cons.mp nd).1 (List.of_mem_zip hv).1,if_neg hk];simp
 | p::P,w::vs,i+1,m,nd,h1,h2,hk=>by
  show bindC kindOf ((p,w)::P.zip vs) m x=_;unfold bindC;exact nz (i:=i) (List.nodup_cons.mp nd).2 (by simpa using h1) (by simpa using h2) hk
def start(N:List Str)(vs:List V):St:=vs.map some++List.replicate (N.length-vs.length) none
def pv(CX:yi)(P:Program)(w:World)(K:PySem.W.Frag)(mg:Str->Option Value)(base:Heap)(N:List Str)(qual:Str)(scope:Scope)(f:Addr)(cd:Value)(A:Around)(outer:List Env)(s:Shared)(H:Hp)(E:XK):Cx where
 prog:=P
 w:=w
 K:=K
 mg:=mg
 base:=base
 A:=A.deeper (envOfC qual scope s.heap.objs.size f cd)
 N:=N
 cw:=s
 kW:=H
 env:=envOfC qual scope s.heap.objs.size f cd
 outer:=outer
 stack:=envOfC qual scope s.heap.objs.size f cd::outer
 ex:=[]
 calm:=true
 fn:=λ_=>true
 pn:=[]
 xe:=λe s'=>wpAny (model P w) (A.deeper (envOfC qual scope s.heap.objs.size f cd)) (leaving (envOfC qual scope s.heap.objs.size f cd) e) (λ_ Oy=>CX outer H s E e Oy) (λe' Oy=>CX outer H s E e' Oy) s'
theorem rT{sc:Scope}{n:Nat}{x:Str}(h:sc.names.lookup x=some .cell):∃c,(cellsFrom n sc.names []).lookup x=some c:=by
 have q:=PySem.W.cellsFrom_some sc.names n [] (.inl h);exact Option.isSome_iff_exists.mp q
theorem yO{CX:yi}{P:Program}{w:World}{K:PySem.W.Frag}{mg:Str->Option Value}{base:Heap}{N ps:List Str}{qual:Str}{scope:Scope}{f:Addr}{cd:Value}{A:Around}{outer:List Env}{s s1:Shared}{H:Hp}{E:XK}{us:List Value}{vs:List V}
  (S:aL N ps scope) (hd:A.handled=none) (e0:E5 P w K mg base A outer s H) (hl:vs.length=ps.length) (r:Vals vs us) (h8:0<s1.toks)
  (x:InCallC s s.heap.objs.size (bindL (envOfC qual scope s.heap.objs.size f cd).kindOf (ps.zip us) λ_=>none) (cellsFrom (s.heap.objs.size+1) scope.names []) (bindC (envOfC qual scope s.heap.objs.size f cd).kindOf (ps.zip us) λ_=>none) s1):
  Inv (pv CX P w K mg base N qual scope f cd A outer s H E) [] (start N vs) H s1:=by
 have d2:ps.length<=N.length:=by have:=congrArg List.length S.pre;rw[List.length_take]at this;omega
 obtain⟨h1,tk,rfl,hk⟩:=x.done;have Ub:∀b:Addr,b∉(pv CX P w K mg base N qual scope f cd A outer s H E).ex:=λb z=>absurd (show b∈([]:List Addr)from z) (by simp)
 refine⟨⟨e0.mod,S.kind,rfl,rfl,Nat.le_refl _,λy z c h1 h2=>?_,λy hy=>?_,λy c _ h=>?_,λ_=>hd,Around.frames_deeper e0.frames,.inr ⟨rfl,rfl⟩,λb z=>absurd z (Ub b),e0.bs,e0.EE,λb _ _=>Ub b,λb z=>absurd z (Ub b),e0.kC,e0.Lj⟩,
  rfl,e0.bare,Un.kept hk,⟨_,x.toInCall.ns,λi y v h1 h2 h3=>?_⟩,λy c h=>⟨_,x.cell y c h⟩,e0.bP.fresh (Nat.le_refl _),λy c h=>?_,λp hp=>absurd (show p∈([]:List (Addr×Obj))from hp) (by simp),e0.bP.kept hk,?_,h8⟩
 ·exact name_of_addr x.apart (PySem.mem_of_lookup h1) (PySem.mem_of_lookup h2)
 ·have hy:scope.names.lookup y=some .cell\/scope.names.lookup y=some .free:=hy
  rcases hy with hy|hy
  ·exact rT hy
  ·exact absurd rfl (S.MG _ (PySem.mem_of_lookup hy))
 ·exact Nat.le_of_lt (x.above y c (PySem.mem_of_lookup h))
 ·have hi:i<vs.length:=by
   unfold start at h2
   by_cases hi:i<vs.length
   ·exact hi
   ·rw[List.getElem?_append_right (by simpa using hi)]at h2
    rw[List.getElem?_replicate]at h2
    split at h2<;>cases h2
  have ha:vs[i]?=some v:=by
   unfold start at h2;rw[List.getElem?_append_left (by simpa using hi),List.getElem?_map]at h2
   cases e:vs[i]? with
   | none=>rw[e]at h2;cases h2
   | some a=>rw[e]at h2;cases h2;rfl
  obtain⟨u,hu,rv⟩:=r.get ha;have hp:ps[i]?=some y:=by
   rw[<- S.pre,List.getElem?_take_of_lt ⋯];exact h1
  have ndP:ps.Nodup:=by rw[<- S.pre];exact S.nd.sublist (List.take_sublist _ _)
  refine⟨u,rv,?_⟩;rcases S.par y (List.mem_of_getElem? hp)with k|k
  ·exact .inl ⟨k,nC ndP hp hu k⟩
  ·obtain⟨c,e⟩:=rT (n:=s.heap.objs.size+1) k
   refine .inr ⟨.inl k,c,e,?_⟩;have q:=x.cell y c e;rw[nz ndP hp hu (by show scope.names.lookup y≠_;rw[k];decide)]at q
   exact q
 ·exact e0.bP.fresh (Nat.le_of_lt (x.above y c (PySem.mem_of_lookup h)))
 ·unfold start
  show _=N.length;rw[List.length_append,List.length_map,List.length_replicate];omega
theorem Sz{CX:yi}{P:Program}{w:World}{K:PySem.W.Frag}{mg:Str->Option Value}{base:Heap}{k:Nat}{f:Addr}{name qual:Str}{params:Arguments}{body:List Stmt}{scope:Scope}{dV kV doc pm gN ct oc:Value}{an od:Option Addr}
  {Gw:Array (Option Value)} {N ps:List Str} {sp:Sp} (lk:K.lookup f=some ⟨oc,od,.func (PySem.W.fnOf name qual params body scope dV kV doc pm an gN ct),Gw⟩) (sV:PySem.W.codeIn K gN qual=true) (S:aL N ps scope)
  (len:∀vs H Q E,sp vs H Q E->vs.length=ps.length)
  (B6:∀(A:Around) (outer:List Env) (s:Shared) (H:Hp) (vs:List V) (Q:VK) (E:XK),fX k (A.deeper (envOfC qual scope s.heap.objs.size f gN))->sp vs H Q E ->
   ∃t,nu (pv CX P w K mg base N qual scope f gN A outer s H E) body t/\t {nx:=λ_ H'=>Q .bx H',rt:=Q} (start N vs) H):
  dD P w K mg base CX (k+1) f (PySem.W.fnOf name qual params body scope dV kV doc pm an gN ct) ps sp:=by
 refine⟨len,λA outer s H args us vs Q E hr e0 hz hb r IJ=>?_⟩;have hl:=len _ _ _ _ IJ;have KX:K.In s.heap:=e0.mod.T1.keeps λb o e=>(e0.bs b o e).1;have lim:s.heap.NoLimit:=e0.mod.nolimit.keeps λb o e=>(e0.bs b o e).1;have S7:∀y∈ps.zip us,scope.names.lookup y.1=some .local\/(scope.names.lookup y.1=some .cell/\((cellsFrom (s.heap.objs.size+1) scope.names []).lookup y.1).isSome=true):=λ⟨n,v⟩ hy=>by
  rcases S.par n (List.of_mem_zip hy).1 with q|q
  ·exact .inl q
  ·exact .inr ⟨q,PySem.W.cellsFrom_some _ _ _ (.inl q)⟩
 refine codeAny_call_function hr.depth (KX _ _ lk) rfl S.co S.gen rfl (PySem.W.codeRec_of KX sV) (hb _ _ _ _ ?_);refine KZ (CY hz (r.length.symm.trans hl)) S.kind (wpAny_newFunctionEnv_cells S.kind S7 λenv he s1 x h8=>?_);subst he;refine⟨lim.keeps x.toInCall.keep,codeAny_func ?_⟩;obtain⟨t,ht,hq⟩:=B6 A outer s H vs Q E (hr.deeper _) IJ;have I:Inv (pv CX P w K mg base N qual scope f gN A outer s H E) [] (start N vs) H s1:=yO S hr.hd e0 hl r h8 x;refine wpAny_mono (ht [] s1 (start N vs) H _ I hq) (λfl s' hs=>?_) λe s' hs=>hs;have fin:∀ {bB:St} {H':Hp} {v:V} {u:Value},Inv (pv CX P w K mg base N qual scope f gN A outer s H E) [] bB H' s'->RelV v u->Q v H'->CE outer P w H s Q u s':=
  λ{bB H' v u} J rv q=>⟨v,H',J.os,J.bare,J.base,J.bP,rv,q⟩
 cases fl with
 | ret u =>
  obtain⟨v,bB,H',J,rv,q⟩:=hs;exact fin J rv q
 | next =>
  obtain⟨bB,H',J,q⟩:=hs;exact fin (v:=V.bx) (u:=Value.none) J rfl q
 | brk =>
  obtain⟨_,_,_,q⟩:=hs;exact False.elim q
 | cont =>
  obtain⟨_,_,_,q⟩:=hs;exact False.elim q
end L2
namespace L2
open PySem PySem.Spec PyProof.Rows
section
variable {X:Cx}{x:Str}{p pos:Pos}{e:Expr}{es:List Expr}{t:TA}{id T:String}{r:List V->Hp->VK->Prop}
def WB(r:List V->Hp->VK->Prop)(t:TA):TE:=λσ H Q=>t σ H λvs H1=>r vs H1 Q
theorem mj(hc:cy X (.builtin id) r)(hg:Gl X x)(hm:X.mg x=none)(hv:bootBuiltins x=some (.builtin id))(ha:PA X (e::es) t)(hn:x≠"__name__":=by decide)(sW:(x==("__debug__":Str))=false:=by decide)
  (he:starEach (e::es) X.env=(false,eval e X.env)::starEach es X.env:=by rfl) (d2:(backTo pos (starEach es X.env)).any (·.1)=false:=by rfl):PE X (.Call (.Name x p) (e::es) [] pos) (WB r t):=by
 intro pins s σ H Q I h;refine wpAny_Call_Name_kw (dJ I hg hm hv ?_ hn sW);exact PyProof.Rows.callWith_builtin1 (cj (ha pos pins s σ H _ I h) λus s1 ⟨vs,H1,I1,r1,q1⟩=>hc pins s1 σ H1 vs us Q I1 r1 q1) he d2
theorem jH(hc:cy X (.type T) r)(hg:Gl X x)(hm:X.mg x=none)(hv:bootBuiltins x=some (.type T))(ha:PA X (e::es) t)(hn:x≠"__name__":=by decide)(sW:(x==("__debug__":Str))=false:=by decide)
  (he:starEach (e::es) X.env=(false,eval e X.env)::starEach es X.env:=by rfl) (d2:(backTo pos (starEach es X.env)).any (·.1)=false:=by rfl):PE X (.Call (.Name x p) (e::es) [] pos) (WB r t):=by
 intro pins s σ H Q I h;refine wpAny_Call_Name_kw (dJ I hg hm hv ?_ hn sW);exact PyProof.Rows.callWith_type1 (cj (ha pos pins s σ H _ I h) λus s1 ⟨vs,H1,I1,r1,q1⟩=>hc pins s1 σ H1 vs us Q I1 r1 q1) he d2
end
end L2
namespace HT
open PySem PyProof.Rows
def lexLt:List Int->List Int->Bool
 | [],[]=>false
 | [],_::_=>true
 | _::_,[]=>false
 | x::xs,y::ys=>if x=y then lexLt xs ys else decide (x<y)
theorem dM(x y:Int)(xs ys:List Int):lexLt (x::xs) (y::ys)=if x=y then lexLt xs ys else decide (x<y):=rfl
theorem lK(y:Int)(ys:List Int):lexLt [] (y::ys)=true:=rfl
theorem lJ(x:Int)(xs:List Int):lexLt (x::xs) []=false:=rfl
section
variable {prog:Program}{w:World}{A:Around}{E:Value->Shared->Prop}{s:Shared}
theorem Ff{t b:Addr}{vs ws:List Value}{Q:Value->Shared->Prop}(ht:IsTup s.heap t vs.toArray)(hb:IsTup s.heap b ws.toArray)(hv:vs≠[])
  (h1:ws=[]->Q (.ref t) s) (h2:ws≠[]->Q (.ref s.heap.objs.size) {s with heap:=s.heap.push {cls:=.type "tuple",data:=.seq (vs++ws).toArray}})
  (hsz:vs.length+ws.length<=sizeLine):wpAny (model prog w) A (binaryOp .Add (.ref t) (.ref b)) Q E s:=by
 obtain⟨⟨cls,dd,data,sl⟩,ho,hc,n,hd⟩:=id ht;obtain⟨⟨aae,Zq,data2,sl2⟩,IH,Xz,n2,hd2⟩:=id hb;simp only at hc hd Xz hd2;subst hc hd Xz hd2;have e:vs.toArray++ws.toArray=(vs++ws).toArray:=by simp
 by_cases hw:ws=[]
 ·exact concat_meets ⟨_,ho,rfl⟩ ⟨_,IH,rfl⟩ noFill_tuple_add seq_tuple_add PySem.F.slot_tuple_add PySem.F.entry_tuple_add (PySem.F.args_tuple_add_2 _ _)
   (tuple_addW1 t b vs.toArray ws.toArray n n2 dd Zq sl sl2 (by simpa using hv) (by simp [hw])) ⟨ho,IH,h1 hw⟩
 ·refine concat_meets ⟨_,ho,rfl⟩ ⟨_,IH,rfl⟩ noFill_tuple_add seq_tuple_add PySem.F.slot_tuple_add PySem.F.entry_tuple_add (PySem.F.args_tuple_add_2 _ _)
   (tuple_addW2 t b vs.toArray ws.toArray n n2 dd Zq sl sl2 (by simpa using hv) (by simpa using hw) (by rw[List.size_toArray,List.size_toArray];exact hsz)) ⟨ho,IH,?_⟩
  rw[e];exact h2 hw
def cS(n d:Nat):Option Int->Nat
 | none=>d
 | some v=>if v<0 then(v+(n:Int)).toNat else min v.toNat n
theorem Oz(n d:Nat)(hd:d<=n)(o:Option Int):cS n d o<=n:=by
 cases o with
 | none=>exact hd
 | some v =>
  show(if v<0 then(v+(n:Int)).toNat else min v.toNat n)<=n
  by_cases hv:v<0
  ·rw[if_pos hv];omega
  ·rw[if_neg hv];exact Nat.min_le_right _ _
theorem wK(v:Int)(n d:Nat):(if v<0 then max (v+(n:Int)) 0 else min v (n:Int))=((cS n d (some v):Nat):Int):=by
 show(if v<0 then max (v+(n:Int)) 0 else min v (n:Int))=(((if v<0 then(v+(n:Int)).toNat else min v.toNat n):Nat):Int)
 by_cases hv:v<0
 ·simp only[if_pos hv];omega
 ·simp only[if_neg hv];omega
theorem vo(lo hi:Option Int)(n:Nat):Builtin.Slice.sliceAdjust lo hi 1 (n:Int)=(((cS n 0 lo:Nat):Int),((cS n n hi:Nat):Int)):=by
 have h1:¬((1:Int)<0):=by omega
 unfold Builtin.Slice.sliceAdjust;simp only[h1,if_false];refine Prod.ext ?_ ?_
 ·cases lo with
  | none=>rfl
  | some v=>exact wK v n 0
 ·cases hi with
  | none=>rfl
  | some v=>exact wK v n n
theorem vU(i j:Nat):Builtin.Slice.slicePlaces (i:Int) (j:Int) 1=j-i:=by
 unfold Builtin.Slice.slicePlaces;have h1:(1:Int)>0:=by omega
 simp only[h1,if_true,Int.ediv_one]
 split<;>omega
theorem my{v:Value}{o:Option Int}{Q:Option Int->Shared->Prop}(p:IsPart v o)(h:Q o s):wpAny (model prog w) A (Builtin.Slice.slicePartIndex v) Q E s:=by
 cases p with
 | none=>exact slicePart_none h
 | int i t=>exact slicePart_int h
theorem jN{sl:Addr}{vl vu:Value}{lo hi:Option Int}{n:Nat}{Q:Int×Int×Nat->Shared->Prop}(hs:s.heap.IsSliceOf sl vl vu .none)(pl:IsPart vl lo)(pu:IsPart vu hi)
  (h:Q (((cS n 0 lo:Nat):Int),1,cS n n hi-cS n 0 lo) s):wpAny (model prog w) A (Builtin.Slice.sliceApplied (.ref sl) (pure (n:Int))) Q E s:=by
 obtain⟨os,Tc,ZG,V9⟩:=id hs;unfold Builtin.Slice.sliceApplied Builtin.Slice.sliceFields;refine wpAny_bind (wpAny_bind (wpAny_field Tc V9 (x:=vl) rfl (wpAny_bind (wpAny_field Tc V9 (x:=vu) rfl (wpAny_bind (wpAny_field Tc V9 (x:=.none) rfl (wpAny_pure ?_)))))));refine wpAny_bind (slicePart_none ?_);show wpAny _ _ (if((1:Int)==0)=true then _ else _) _ _ s
 rw[if_neg ∅]
 refine wpAny_bind (my pl (wpAny_bind (my pu (wpAny_bind (wpAny_pure ?_)))));show wpAny _ _ (match Builtin.Slice.sliceAdjust lo hi 1 (n:Int)with | (lo,hi)=>pure (lo,(1:Int),Builtin.Slice.slicePlaces lo hi 1)) _ _ s
 rw[vo lo hi n];show wpAny _ _ (pure (((cS n 0 lo:Nat):Int),(1:Int),Builtin.Slice.slicePlaces ((cS n 0 lo:Nat):Int) ((cS n n hi:Nat):Int) 1)) _ _ s;rw[vU];exact wpAny_pure h
theorem Dc(xs:Array Value)(i k:Nat):((List.range k).filterMap λ(m:Nat)=>xs[((i:Int)+(m:Int)*1).toNat]?).toArray=((xs.toList.drop i).take k).toArray:=by
 have e:(λ(m:Nat)=>xs[((i:Int)+(m:Int)*1).toNat]?)=λm=>xs[i+m]?:=by
  funext m;have:((i:Int)+(m:Int)*1).toNat=i+m:=by omega
  rw[this]
 rw[e];have:=pick_run xs i k;rw[List.filterMap_map]at this;have e2:((λx=>xs[x]?) ∘ λx=>i+x)=λm=>xs[i+m]?:=rfl;rw[e2]at this;rw[this]
theorem hJ{t sl:Addr}{items:Array Value}{vl vu:Value}{lo hi:Option Int}{Q:Value->Shared->Prop}(ht:IsTup s.heap t items)(hs:s.heap.IsSliceOf sl vl vu .none)(pl:IsPart vl lo)(pu:IsPart vu hi)
  (hw:¬(cS items.size 0 lo=0/\cS items.size items.size hi=items.size))
  (h:Q (.ref s.heap.objs.size) {s with heap:=s.heap.push {cls:=.type "tuple",data:=.seq ((items.toList.drop (cS items.size 0 lo)).take (cS items.size items.size hi-cS items.size 0 lo)).toArray}})
  (hsz:items.size<=sizeLine):wpAny (model prog w) A (getItem (.ref t) (.ref sl)) Q E s:=by
 have xf:sizeOk (.seq ((items.toList.drop (cS items.size 0 lo)).take (cS items.size items.size hi-cS items.size 0 lo)).toArray):=by
  show((items.toList.drop (cS items.size 0 lo)).take (cS items.size items.size hi-cS items.size 0 lo)).toArray.size<=sizeLine;rw[List.size_toArray,List.length_take,List.length_drop,Array.length_toList];omega
 have hj:cS items.size items.size hi<=items.size:=Oz _ _ (Nat.le_refl _) hi;obtain⟨os,Tc,ZG,V9⟩:=id hs;have hTs:s.TypeIs (.ref sl) "slice":=⟨os,Tc,ZG⟩;unfold getItem
 try with_reducible refine wpAny_holding ?_
 first|refine wpAny_bind (wpAny_pure ?_)|skip
 refine wpAny_bind (wpAny_sequenceKey ht.typeIs ∅ ?_)
 refine wpAny_bind (wpAny_callSpecial?_slot (name:=Str.ofString "__getitem__") ht.typeIs PyProof.Rows.slot_tuple_getitem
  (wpAny_call_entry PyProof.Rows.slot_tuple_getitem ht.typeIs entry_tuple_getitem ?_ (args_tuple_getitem _ _)))
 show wpAny _ _ (Builtin.Tuple.tupleItemsOf (.ref t) >>= _) _ _ s;refine wpAny_bind (tupleItemsOf_ ht ?_);refine wpAny_bind (wpAny_typeOf hTs ?_);rw[if_pos ∅]
 refine wpAny_bind (jN hs pl pu ?_);have Qp:¬((((cS items.size 0 lo:Nat):Int)==0&&(1:Int)==1&&(cS items.size items.size hi-cS items.size 0 lo)==items.size)=true):=by
  intro q;rw[Bool.and_eq_true,Bool.and_eq_true]at q;have q1:((cS items.size 0 lo:Nat):Int)=0:=eq_of_beq q.1.1;have q2:cS items.size items.size hi-cS items.size 0 lo=items.size:=eq_of_beq q.2;exact hw ⟨by omega,by omega⟩
 show wpAny _ _ (if(((cS items.size 0 lo:Nat):Int)==0&&(1:Int)==1&&(cS items.size items.size hi-cS items.size 0 lo)==items.size)=true then _ else _) _ _ s
 rw[if_neg Qp,Dc]
 first
  | exact wpAny_bind (m:=Builtin.Tuple.tupleExact _) (wpAny_newObj_type (wpAny_pure ⟨_,rfl,wpAny_pure h⟩) xf)
  | exact wpAny_bind (m:=Builtin.Tuple.tupleExact _) (wpAny_newObj_type (wpAny_bind (wpAny_pure (wpAny_pure ⟨_,rfl,wpAny_pure h⟩))) xf)
  | exact wpAny_bind (wpAny_bind (m:=Builtin.Tuple.tupleExact _) (wpAny_newObj_type (wpAny_pure (wpAny_pure ⟨_,rfl,wpAny_pure h⟩)) xf))
  | exact wpAny_bind (wpAny_bind (m:=Builtin.Tuple.tupleExact _) (wpAny_newObj_type (wpAny_pure ⟨_,rfl,wpAny_pure h⟩) xf))
end
end HT
namespace L2
open PySem PySem.Spec PyProof.Rows
abbrev TO:=St->Hp->(Option Int->Hp->Prop)->Prop
def PO(X:Cx)(e:Option Expr)(t:TO):Prop:=
 ∀(pins:List (Addr×Obj)) (s:Shared) (σ:St) (H:Hp) (Q:Option Int->Hp->Prop),Inv X pins σ H s->t σ H Q ->
  wpAny (model X.prog X.w) X.A (evalPart e X.env) (λu s'=>∃o H',Inv X pins σ H' s'/\IsPart u o/\Q o H') X.xe s
def Ha:TO:=λ_ H Q=>Q none H
def VR(t:TE):TO:=λσ H Q=>t σ H λx H1=>∃i,x=.int i/\Q (some i) H1
theorem intsAre_of{ns:List Int}:∀ {us:List Value},Vals (ns.map V.int) us->IntsAre us ns:=by
 induction ns with
 | nil=>intro us r;rw[List.map_nil]at r;cases r;exact .nil
 | cons n ns ih =>
  intro us r;rw[List.map_cons]at r;cases r with
  | cons r1 r2 =>
   obtain⟨t,e⟩:=r1;subst e;exact .cons n t (ih r2)
section
variable {X:Cx}{e:Expr}{te:TE}{lo hi:Option Expr}{tl th:TO}{pos p2:Pos}
theorem GH:PO X none Ha:=by
 intro pins s σ H Q I h;rw[evalPart_none];exact wpAny_pure ⟨none,H,I,.none,h⟩
theorem GI(h:PE X e te):PO X (some e) (VR te):=by
 intro pins s σ H Q I hw;rw[evalPart_some];refine cj (h pins s σ H _ I hw) λu s1 ⟨x,H1,I1,r1,q1⟩=>?_;obtain⟨i,rfl,q⟩:=q1;obtain⟨t,rfl⟩:=r1;exact⟨some i,H1,I1,.int i t,q⟩
def HU(X:Cx)(r:V->Option Int->Option Int->Hp->VK->Prop):Prop:=
 ∀(pins:List (Addr×Obj)) (s:Shared) (σ:St) (H:Hp) (x:V) (v vl vu:Value) (lo hi:Option Int) (sl:Addr) (Q:VK),Inv X pins σ H s->RelV x v->s.heap.IsSliceOf sl vl vu .none->IsPart vl lo->IsPart vu hi->r x lo hi H Q ->
  ∃T id,typeLookup (.type T) "__getitem__"=pure (some (.builtin id))/\s.TypeIs v T/\wpAny (model X.prog X.w) X.A (getItem v (.ref sl)) (EP X pins σ Q) X.xe s
theorem HU.or{r r':V->Option Int->Option Int->Hp->VK->Prop}(h:HU X r)(h':HU X r'):HU X (λx lo hi H Q=>r x lo hi H Q\/r' x lo hi H Q):=by
 intro pins s σ H x v vl vu lo hi sl Q I rx hs pl pu q;rcases q with q|q
 ·exact h pins s σ H x v vl vu lo hi sl Q I rx hs pl pu q
 ·exact h' pins s σ H x v vl vu lo hi sl Q I rx hs pl pu q
def tSl(r:V->Option Int->Option Int->Hp->VK->Prop)(te:TE)(tl th:TO):TE:=λσ H Q=>te σ H λx H1=>tl σ H1 λl H2=>th σ H2 λu H3=>r x l u H3 Q
theorem C5{r:V->Option Int->Option Int->Hp->VK->Prop}(hr:HU X r)(he:PE X e te)(hl:PO X lo tl)(hu:PO X hi th):PE X (.Subscript e (.Slice lo hi none p2) pos) (tSl r te tl th):=by
 intro pins s σ H Q I h;refine Subscript_ (cj (he pins s σ H _ I h) λv s1 ⟨x,H1,I1,r1,q1⟩=>?_);refine wpAny_Slice (cj (hl pins s1 σ H1 _ I1 q1) λvl s2 ⟨l,H2,I2,pl,q2⟩=>cj (hu pins s2 σ H2 _ I2 q2) λvu s3 ⟨u,H3,I3,pu,q3⟩=>?_);rw[evalPart_none];refine wpAny_pure ?_;have I4:Inv X pins σ H3 {s3 with heap:=s3.heap.push {cls:=.type "slice",data:=.fields #[vl,vu,.none]}}:=I3.kept (t':=s3.toks) λb ob q=>Heap.get?_push_of_some _ q
 obtain⟨T,id,hT,ht,hg⟩:=hr pins {s3 with heap:=s3.heap.push {cls:=.type "slice",data:=.fields #[vl,vu,.none]}} σ H3 x v vl vu l u s3.heap.objs.size Q I4 r1 (Heap.IsSliceOf.new ..) pl pu q3
 show wpAny (model X.prog X.w) X.A (subscriptTail e (.Slice lo hi none p2) v (.ref s3.heap.objs.size)) (EP X pins σ Q) X.xe {s3 with heap:=s3.heap.push {cls:=.type "slice",data:=.fields #[vl,vu,.none]}}
 exact tail_any (ops:=[.ref s3.heap.objs.size,v]) ht hT hg (by with_unfolding_all rfl)
def r9(xs:List V)(lo hi:Option Int):List V:=(xs.drop (HT.cS xs.length 0 lo)).take (HT.cS xs.length xs.length hi-HT.cS xs.length 0 lo)
theorem j6(xs:List V)(lo hi:Option Int):(r9 xs lo hi).length<=xs.length:=by
 unfold r9;rw[List.length_take,List.length_drop];omega
def YM(K:PySem.W.Frag):V->Option Int->Option Int->Hp->VK->Prop:=λx lo hi H Q=>∃a xs,x=.ref a/\gS K H a xs /\
 ¬(HT.cS xs.length 0 lo=0/\HT.cS xs.length xs.length hi=xs.length)/\∀p,H p=none->Q (.ref p) (upd H p (.tup (r9 xs lo hi)))
theorem Pj:HU X (YM X.K):=by
 intro pins s σ H x v vl vu lo hi sl Q I rx hs pl pu h;obtain⟨a,xs,rfl,hx,hw,q⟩:=h;cases rx;obtain⟨its,r,ht,hz⟩:=I.tuple hx;have hlen:its.toArray.size=xs.length:=by rw[List.size_toArray];exact r.length.symm
 refine⟨"tuple",_,PyProof.Rows.slot_tuple_getitem.lookup,ht.typeIs,?_⟩;refine HT.hJ ht hs pl pu (by rw[hlen];exact hw) ?_ (by rw[hlen];exact hz)
 rw[hlen];refine⟨.ref s.heap.objs.size,_,I.laid (t':=s.toks) (o:=.tup (r9 xs lo hi)) (λb ob q=>Heap.get?_push_of_some _ q) (Nat.le_refl _) ?_,rfl,q _ (I.bP.fresh (Nat.le_refl _))⟩;exact⟨Nat.le_trans (j6 xs lo hi) hz,_,(r.drop (HT.cS xs.length 0 lo)).take (HT.cS xs.length xs.length hi-HT.cS xs.length 0 lo),IsTup.new _ _⟩
def Jf(K:PySem.W.Frag):R2:=λx y H Q=>∃a b xs ys,x=.ref a/\y=.ref b/\gS K H a xs/\gS K H b ys/\xs≠[]/\xs.length+ys.length<=sizeLine /\
 (ys=[]->Q (.ref a) H)/\(ys≠[]->∀p,H p=none->Q (.ref p) (upd H p (.tup (xs++ys))))
theorem Vals.qb{xs:List V}{us:List Value}(r:Vals xs us):us=[] ↔ xs=[]:=by
 cases r with
 | nil=>simp
 | cons _ _=>simp
theorem Gr:f9 X (binaryOp .Add) (Jf X.K):=by
 intro pins s σ H x y v u Q I rx ry h;obtain⟨a,b,xs,ys,rfl,rfl,ha,hb,hx,hz,q1,q2⟩:=h;cases rx;cases ry;obtain⟨its,r1,p1,_⟩:=I.tuple ha;obtain⟨tf,r2,p2,_⟩:=I.tuple hb;refine HT.Ff p1 p2 (λz=>hx (r1.qb.mp z)) (λz=>⟨.ref a,H,I,rfl,q1 (r2.qb.mp z)⟩) (λz=>?_) (by rw[<- r1.length,<- r2.length];exact hz)
 refine⟨.ref s.heap.objs.size,_,I.laid (t':=s.toks) (o:=.tup (xs++ys)) (λb ob q=>Heap.get?_push_of_some _ q) (Nat.le_refl _) ?_,rfl,q2 (λw=>z (r2.qb.mpr w)) _ (I.bP.fresh (Nat.le_refl _))⟩;exact⟨by rw[List.length_append];exact hz,_,r1.append r2,IsTup.new _ _⟩
end
end L2
namespace L2
open PySem PySem.Spec PyProof.Rows
def yS(n:Nat)(i:Int):Option Nat:=if 0<=i then(if i<n then some i.toNat else none)else if -(n:Int)<=i then some (i+n).toNat else none
def mS{α:Type}(xs:List α)(i:Int):Option α:=(yS xs.length i).bind λj=>xs[j]?
theorem xi{n:Nat}{i:Int}{j:Nat}(h:yS n i=some j):seqIndex? i n=some j/\j<n/\-(n:Int)<=i/\i<n:=by
 unfold yS at h
 by_cases h0:0<=i
 ·rw[if_pos h0]at h
  by_cases h1:i<n
  ·rw[if_pos h1]at h
   have e:i.toNat=j:=Option.some.inj h;exact⟨by rw[seqIndex_of h0 h1,e],by omega,by omega,h1⟩
  ·rw[if_neg h1]at h;cases h
 ·rw[if_neg h0]at h
  by_cases h1:-(n:Int)<=i
  ·rw[if_pos h1]at h
   have e:(i+n).toNat=j:=Option.some.inj h;exact⟨by rw[seqIndex_neg ⋯ h1,e],by omega,h1,by omega⟩
  ·rw[if_neg h1]at h;cases h
theorem o5{α:Type}{xs:List α}{i:Int}{v:α}(h:mS xs i=some v):∃j,seqIndex? i xs.length=some j/\xs[j]?=some v/\j<xs.length/\-(xs.length:Int)<=i/\i<xs.length:=by
 unfold mS at h;cases e:yS xs.length i with
 | none=>rw[e]at h;cases h
 | some j =>
  rw[e]at h;obtain⟨h1,h2,h3,h4⟩:=xi e;exact⟨j,h1,h,h2,h3,h4⟩
def oP(b:Expr):Prop:=∀o i,subscripted b false o i=operate [o,i] (getItem o i)
def E6(X:Cx)(r:R2):Prop:=
 ∀(value slice:Expr) (pins:List (Addr×Obj)) (s:Shared) (σ:St) (H:Hp) (x y:V) (v u:Value) (Q:VK),Inv X pins σ H s->RelV x v->RelV y u->r x y H Q ->
  subscripted slice false v u=operate [v,u] (getItem v u)->wpAny (model X.prog X.w) X.A (subscriptTail value slice v u) (EP X pins σ Q) X.xe s
def Zh(X:Cx)(id:String)(r:V->List V->Hp->VK->Prop):Prop:=
 ∀(pins:List (Addr×Obj)) (s:Shared) (σ:St) (H:Hp) (x:V) (xs:List V) (v:Value) (us:List Value) (Q:VK),Inv X pins σ H s->RelV x v->Vals xs us->r x xs H Q ->
  wpAny (model X.prog X.w) X.A (call (.builtin id) (v::us)) (EP X pins σ Q) X.xe s
section
variable {X:Cx}{a b:Expr}{ta tb:TE}{pos:Pos}
theorem E6.or{r r':R2}(h:E6 X r)(h':E6 X r'):E6 X (λx y H Q=>r x y H Q\/r' x y H Q):=by
 intro value slice pins s σ H x y v u Q I rx ry q hs;rcases q with q|q
 ·exact h value slice pins s σ H x y v u Q I rx ry q hs
 ·exact h' value slice pins s σ H x y v u Q I rx ry q hs
theorem Ja{r:R2}(hr:E6 X r)(ha:PE X a ta)(hb:PE X b tb)(hs:oP b):PE X (.Subscript a b pos) (Qy r ta tb):=by
 intro pins s σ H Q I h;exact Subscript_ (JZ ha hb I h λv u s2 x y H2 I2 rx ry q=>hr a b pins s2 σ H2 x y v u Q I2 rx ry q (hs _ _))
def Va(K:PySem.W.Frag):R2:=λx y H Q=>∃p xs i v,x=.ref p/\y=.int i/\dY K H p xs/\mS xs i=some v/\Q v H
def Vd(K:PySem.W.Frag):R2:=λx y H Q=>∃p xs i v,x=.ref p/\y=.int i/\gS K H p xs/\mS xs i=some v/\Q v H
def Vb:R2:=λx y H Q=>∃z i c,x=.str z/\y=.int i/\z.length<=sizeLine/\mS z.cps.toList i=some c/\Q (.str ⟨#[c]⟩) H
theorem xj:E6 X (Va X.K):=by
 intro value slice pins s σ H x y v u Q I rx ry h hs;obtain⟨p,xs,i,z,rfl,rfl,hq,he,q⟩:=h;cases rx;obtain⟨t,rfl⟩:=ry;obtain⟨its,r,pl,hz⟩:=I.list hq;obtain⟨j,h1,h2,h3,h4,h5⟩:=o5 he;obtain⟨w,ew,YS⟩:=r.get h2;have hl:=r.length;have hn:=gE;have fin:EP X pins σ Q w s:=⟨z,H,I,YS,q⟩
 by_cases h0:0<=i
 ·have hj:i.toNat=j:=by
   rw[seqIndex_of h0 h5]at h1;exact Option.some.inj h1
  exact item_listR pl.isList h0 ⋯ (by rw[hj];simpa using ew) fin hs
 ·have hj:(i+(its.toArray.size:Int)).toNat=j:=by
   rw[seqIndex_neg ⋯ h4]at h1
   rw[List.size_toArray,<- hl];exact Option.some.inj h1
  exact subscriptTail_builtinR (x:=w) pl.isList.typeIs slot_list_getitem.lookup
   (wpAny_getItem_list_neg (Q:=λr s'=>r=w/\EP X pins σ Q r s') pl.isList ⋯ (by rw[List.size_toArray]<;>omega) ⋯ (by rw[hj];simpa using ew) ⟨rfl,fin⟩) hs
theorem Ma:E6 X (Vd X.K):=by
 intro value slice pins s σ H x y v u Q I rx ry h hs;obtain⟨p,xs,i,z,rfl,rfl,hq,he,q⟩:=h;cases rx;obtain⟨t,rfl⟩:=ry;obtain⟨its,r,pl,hz⟩:=I.tuple hq;obtain⟨j,h1,h2,h3,h4,h5⟩:=o5 he;obtain⟨w,ew,YS⟩:=r.get h2;have hl:=r.length;have hn:=gE;have fin:EP X pins σ Q w s:=⟨z,H,I,YS,q⟩;exact subscriptTail_builtinR (x:=w) pl.typeIs slot_tuple_getitem.lookup
  (getItem_tuple (j:=j) (Q:=λr s'=>r=w/\EP X pins σ Q r s') pl ⋯ ⋯ (by rw[List.size_toArray,<- hl];exact h1) (by simpa using ew) ⟨rfl,fin⟩) hs
theorem L9:E6 X Vb:=by
 intro value slice pins s σ H x y v u Q I rx ry h hs;obtain⟨z,i,c,rfl,rfl,hz,he,q⟩:=h;obtain⟨t,rfl⟩:=rx;obtain⟨t',rfl⟩:=ry;obtain⟨j,h1,h2,h3,h4,h5⟩:=o5 he;have hl:z.cps.toList.length=z.length:=by simp [Str.length]
 rw[hl]at h1 h4 h5;have hn:=gE;exact tail_any (typeIs_str s z t) slot_str_getitem.lookup (getItem_str (c:=c) (by
  have e1:decide (i < -(2^63:Int))=false:=decide_eq_false ⋯
  have e2:decide (i>=2^63)=false:=decide_eq_false ⋯
  rw[e1,e2,Bool.or_false]) (by rw[h1];simpa using h2) ⟨.str ⟨#[c]⟩,H,I.tok _,⟨_,rfl⟩,q⟩) hs
def rIx(K:PySem.W.Frag):R2:=λx y H Q=>Va K x y H Q\/Vd K x y H Q\/Vb x y H Q
theorem L8:E6 X (rIx X.K):=xj.or (Ma.or L9)
theorem vK(its:List Value)(n j:Nat)(u:Value):Obj.mapSeq (·.setIfInBounds j u) {cls:=.type "list",data:=.seq its.toArray n}={cls:=.type "list",data:=.seq (its.set j u).toArray n}:=by
 simp [Obj.mapSeq]
theorem Inv.lst{pins:List (Addr×Obj)}{σ:St}{H:Hp}{s:Shared}{p:Addr}{xs:List V}(I:Inv X pins σ H s)(h:H p=some (.lst xs)):
  ∃(its:List Value) (n:Nat),Vals xs its/\s.heap.get? p=some {cls:=.type "list",data:=.seq its.toArray n}/\xs.length<=sizeLine:=by
 obtain⟨z,its,n,r,e⟩:=I.bP p _ h;exact⟨its,n,r,e,z⟩
theorem Inv.Mz{pins:List (Addr×Obj)}{σ:St}{H:Hp}{s:Shared}{p:Addr}{xs ys:List V}{its its':List Value}{n n':Nat}{f:Obj->Obj}(I:Inv X pins σ H s)(h:H p=some (.lst xs))
  (ho:s.heap.get? p=some {cls:=.type "list",data:=.seq its.toArray n}) (hf:f {cls:=.type "list",data:=.seq its.toArray n}={cls:=.type "list",data:=.seq its'.toArray n'}) (r:Vals ys its') (hz:ys.length<=sizeLine) (t:Nat) (ht:0<t:=by walk_at "3"):
  Inv X pins σ (upd H p (.lst ys)) {s with heap:=s.heap.update p f,toks:=t}:=by
 have e:(s.heap.update p f).get? p=some {cls:=.type "list",data:=.seq its'.toArray n'}:=by
  rw[Heap.get?_update_self f ho (by rw[hf]<;>rfl),hf]
 refine I.write (x:=p) (e:=p) (by rw[h];trivial) (.inl rfl) (λb u hb q=>(Heap.get?_update_other _ _ (Ne.symm hb)).trans q) ⟨_,e⟩ ?_
 exact⟨hz,its',n',r,e⟩
def Vf:V->V->V->Hp->(Hp->Prop)->Prop:=λo i v H Q=>∃p xs k j,o=.ref p/\i=.int k/\H p=some (.lst xs)/\yS xs.length k=some j/\Q (upd H p (.lst (xs.set j v)))
theorem set_list:QS X Vf:=by
 intro pins s σ H o i v ov iv u Q I ro ri rv h;obtain⟨p,xs,k,j,rfl,rfl,hp,hj,q⟩:=h;cases ro;obtain⟨t,rfl⟩:=ri;obtain⟨its,n,r,ho,hz⟩:=I.lst hp;obtain⟨h1,h2,h3,h4⟩:=xi hj;have hl:=r.length;have hn:=gE;have I':Inv X pins σ (upd H p (.lst (xs.set j v))) {s with heap:=s.heap.update p (Obj.mapSeq (·.setIfInBounds j u))}:=
  I.Mz hp ho (vK its n j u) (r.set rv j) (by rw[List.length_set];exact hz) s.toks
 by_cases h0:0<=k
 ·have hk:k.toNat=j:=by
   rw[seqIndex_of h0 h4]at h1;exact Option.some.inj h1
  exact PySem.W.ki_setAt ho h0 ⋯ (by rw[List.size_toArray,<- hl];exact h4) (by rw[hk];exact⟨_,I',q⟩)
 ·have hk:(k+(its.toArray.size:Int)).toNat=j:=by
   rw[seqIndex_neg ⋯ h3]at h1
   rw[List.size_toArray,<- hl];exact Option.some.inj h1
  exact PySem.W.ki_setBack ho ⋯ (by rw[List.size_toArray,<- hl];exact h3) ⋯ (by rw[hk];exact⟨_,I',q⟩)
theorem qI(lo hi:Option Int)(n:Nat):(sliceBounds lo hi none n).1=((HT.cS n 0 lo:Nat):Int)/\(sliceBounds lo hi none n).2.1=((HT.cS n n hi:Nat):Int)/\(sliceBounds lo hi none n).2.2=1:=by
 refine⟨?_,?_,rfl⟩
 ·cases lo with
  | none=>simp [sliceBounds,HT.cS]
  | some i =>
   simp only[sliceBounds,HT.cS,Option.getD_none,show(1:Int)>0 by decide,if_true]
   by_cases h:i<0
   ·simp only[h,if_true]<;>omega
   ·simp only[h,if_false]<;>omega
 ·cases hi with
  | none=>simp [sliceBounds,HT.cS]
  | some i =>
   simp only[sliceBounds,HT.cS,Option.getD_none,show(1:Int)>0 by decide,if_true]
   by_cases h:i<0
   ·simp only[h,if_true]<;>omega
   ·simp only[h,if_false]<;>omega
theorem nh(its:List Value)(lo hi:Option Int):slicePick its.toArray lo hi none=((its.drop (HT.cS its.length 0 lo)).take (HT.cS its.length its.length hi-HT.cS its.length 0 lo)).toArray:=by
 obtain⟨h1,h2,h3⟩:=qI lo hi its.toArray.size;unfold slicePick;rw[h1,h2,h3];simp only[sliceRange_one,pick_run,List.size_toArray]<;>rfl
def YL(K:PySem.W.Frag):V->Option Int->Option Int->Hp->VK->Prop:=λx lo hi H Q=>∃a xs,x=.ref a/\dY K H a xs/\∀p,H p=none->Q (.ref p) (upd H p (.lst (r9 xs lo hi)))
theorem G5:HU X (YL X.K):=by
 intro pins s σ H x v vl vu lo hi sl Q I rx hs pl pu h;obtain⟨a,xs,rfl,hx,q⟩:=h;cases rx;obtain⟨its,r,ht,hz⟩:=I.list hx;have hlen:=r.length;refine⟨"list",_,slot_list_getitem.lookup,ht.isList.typeIs,?_⟩;refine wpAny_getItem_list_slice ht.isList hs pl pu .none (by simp) ?_ (by rw[List.size_toArray]<;>omega)
 rw[nh,<- hlen];refine⟨.ref s.heap.objs.size,_,I.laid (t':=s.toks) (o:=.lst (r9 xs lo hi)) (λb ob q=>Heap.get?_push_of_some _ q) (Nat.le_refl _) ?_,rfl,q _ (I.bP.fresh (Nat.le_refl _))⟩;exact⟨Nat.le_trans (j6 xs lo hi) hz,_,0,(r.drop (HT.cS xs.length 0 lo)).take (HT.cS xs.length xs.length hi-HT.cS xs.length 0 lo),Heap.get?_push_size _ rfl⟩
theorem o9:cy X (.builtin "len") (λxs H Q=>∃p ys,xs=[.ref p]/\(dY X.K H p ys\/gS X.K H p ys)/\Q (.int ys.length) H):=by
 intro pins s σ H xs us Q I r h;obtain⟨p,ys,rfl,hq,q⟩:=h;obtain⟨u,rfl,rx⟩:=vals1 r;cases rx;have hn:=gE;rcases hq with hq|hq
 ·obtain⟨its,r',pl,hz⟩:=I.list hq
  have hlen:=r'.length;exact Calls.call_len_list pl.isList (by simp only[List.size_toArray]<;>omega) ⟨.int ys.length,H,I.tok _,⟨s.toks+1,by rw[List.size_toArray,hlen]⟩,q⟩
 ·obtain⟨its,r',pl,hz⟩:=I.tuple hq
  have hlen:=r'.length;exact len_tuple pl (by simp only[List.size_toArray]<;>omega) ⟨.int ys.length,H,I.tok _,⟨s.toks+1,by rw[List.size_toArray,hlen]⟩,q⟩
theorem pd:cy X (.builtin "len") (λxs H Q=>∃z,xs=[.str z]/\z.length<=sizeLine/\Q (.int z.length) H):=by
 intro pins s σ H xs us Q I r h;obtain⟨z,rfl,hz,q⟩:=h;obtain⟨u,rfl,t,rfl⟩:=vals1 r;have hn:=gE;exact len_str ⋯ ⟨.int z.length,H,I.tok _,⟨_,rfl⟩,q⟩
theorem cy.or{f:Value}{r r':List V->Hp->VK->Prop}(h:cy X f r)(h':cy X f r'):cy X f (λxs H Q=>r xs H Q\/r' xs H Q):=by
 intro pins s σ H xs us Q I rs q;rcases q with q|q
 ·exact h pins s σ H xs us Q I rs q
 ·exact h' pins s σ H xs us Q I rs q
theorem pe:cy X (.type "list") (λxs H Q=>∃p ys,xs=[.ref p]/\(dY X.K H p ys\/gS X.K H p ys)/\∀l,H l=none->Q (.ref l) (upd H l (.lst ys))):=by
 intro pins s σ H xs us Q I r h;obtain⟨p,ys,rfl,hq,q⟩:=h;obtain⟨u,rfl,rx⟩:=vals1 r;cases rx;have fin:∀(its:List Value),Vals ys its->ys.length<=sizeLine->∀(h':Heap) (c':Nat),(∀b o',s.heap.get? b=some o'->h'.get? b=some o') ->
   h'.get? s.heap.objs.size=some {cls:=.type "list",dict:=none,data:=.seq its.toArray c',slots:=#[]}->EP X pins σ Q (.ref s.heap.objs.size) {s with heap:=h'}:=λits r' hz h' c' kp e =>
  ⟨.ref s.heap.objs.size,_,I.laid (t':=s.toks) kp (Nat.le_refl _) (show bL X.prog X.w _ h' _ (.lst ys)from⟨hz,its,c',r',e⟩),rfl,q _ (I.bP.fresh (Nat.le_refl _))⟩
 rcases hq with hq|hq
 ·obtain⟨its,r',pl,hz⟩:=I.list hq
  have hlen:=r'.length;obtain⟨o,ho,hc,n,hd⟩:=pl.isList;exact call_list_seq p (.inl rfl) ho hc hd (λh' c' kp e=>fin its r' hz h' c' kp e) (by simp only[List.size_toArray]<;>omega)
 ·obtain⟨its,r',pl,hz⟩:=I.tuple hq
  have hlen:=r'.length;obtain⟨o,ho,hc,n,hd⟩:=pl;exact call_list_seq p (.inr rfl) ho hc hd (λh' c' kp e=>fin its r' hz h' c' kp e) (by simp only[List.size_toArray]<;>omega)
theorem mY:cy X (.type "tuple") (λxs H Q=>∃p ys,xs=[.ref p]/\((dY X.K H p ys/\∀l,H l=none->Q (.ref l) (upd H l (.tup ys)))\/(gS X.K H p ys/\Q (.ref p) H))):=by
 intro pins s σ H xs us Q I r h;obtain⟨p,ys,rfl,h⟩:=h;obtain⟨u,rfl,rx⟩:=vals1 r;cases rx;rcases h with⟨hq,q⟩|⟨hq,q⟩
 ·obtain⟨its,r',pl,hz⟩:=I.list hq
  have hlen:=r'.length;refine call_tuple_list pl.isList (λh' kp=>?_) (by simp only[List.size_toArray]<;>omega)
  have I1:Inv X pins σ H {s with heap:=h'}:=I.kept (t':=s.toks) kp
  have I2:Inv X pins σ (upd H h'.objs.size (.tup ys)) {s with heap:=h'.push {cls:=.type "tuple",data:=.seq its.toArray}}:=
   I1.laid (t':=s.toks) (λb o e=>Heap.get?_push_of_some _ e) (Nat.le_refl _) (show bL X.prog X.w _ _ _ (.tup ys)from⟨hz,its,r',IsTup.new _ _⟩)
  exact⟨.ref h'.objs.size,_,I2,rfl,q _ (I1.bP.fresh (Nat.le_refl _))⟩
 ·obtain⟨its,r',pl,hz⟩:=I.tuple hq
  exact call_tuple_same pl ⟨.ref p,H,I,rfl,q⟩
def Y8(K:PySem.W.Frag)(T:String)(x:V)(H:Hp):Prop:=match x with
 | .str _=>T="str"
 | .int _=>T="int"
 | .ref p=>(T="list"/\∃xs,dY K H p xs)\/(T="tuple"/\∃o,K.lookup p=some o/\o.cls=.type "tuple"/\o.dict=none) \/
   (T="dict"/\((∃kvs,H p=some (.dK kvs))\/∃kvs,H p=some (.dT kvs)))\/(T="set"/\∃S n,H p=some (.set S n))
 | _=>False
theorem Ed{pins:List (Addr×Obj)}{σ:St}{H:Hp}{s:Shared}{T:String}{x:V}{v:Value}(I:Inv X pins σ H s)(r:RelV x v)(ty:Y8 X.K T x H):
  s.TypeIs v T/\∀a,v=.ref a->∃ob,s.heap.get? a=some ob/\ob.dict=none:=by
 cases x with
 | str z =>
  obtain⟨t,rfl⟩:=r;cases(show T="str" from ty)
  exact⟨typeIs_str s z t,λ_ e=>nomatch e⟩
 | int i =>
  obtain⟨t,rfl⟩:=r;cases(show T="int" from ty)
  exact⟨typeIs_int s i t,λ_ e=>nomatch e⟩
 | ref p =>
  cases r;rcases ty with⟨rfl,xs,hq⟩|⟨rfl,o,hk,hc,hd⟩|⟨rfl,hk⟩|⟨rfl,S,n,hk⟩
  ·obtain⟨its,_,pl,_⟩:=I.list hq
   refine⟨pl.isList.typeIs,λa e=>?_⟩;cases e;obtain⟨o,n,e,c,hd,_⟩:=pl;exact⟨o,e,hd⟩
  ·refine⟨⟨o,I.rK p o hk,hc⟩,λa e=>?_⟩
   cases e;exact⟨o,I.rK _ o hk,hd⟩
  ·have z:∃o,s.heap.get? p=some o/\o.ExactDict:=by
    rcases hk with⟨kvs,hk⟩|⟨kvs,hk⟩
    ·obtain⟨_,_,_,_,o,_,_,e,ex,_⟩:=I.bP p _ hk
     exact⟨o,e,ex⟩
    ·obtain⟨_,_,_,_,o,_,_,e,ex,_⟩:=I.bP p _ hk
     exact⟨o,e,ex⟩
   obtain⟨o,e,ex⟩:=z;refine⟨⟨o,e,ex.1⟩,λa e2=>?_⟩;cases e2;exact⟨o,e,ex.2.1⟩
  ·obtain⟨o,_,_,_,e,ex,_⟩:=I.bP p _ hk
   refine⟨⟨o,e,ex.1⟩,λa e2=>?_⟩;cases e2;exact⟨o,e,ex.2.1⟩
 | _=>exact False.elim ty
def YZ(K:PySem.W.Frag)(T:String)(r:V->List V->Hp->VK->Prop)(to:TE):TE:=λσ H Q=>to σ H λx H1=>Y8 K T x H1/\r x [] H1 Q
def tBM(K:PySem.W.Frag)(T:String)(r:V->List V->Hp->VK->Prop)(to:TE)(t:TA):TE:=λσ H Q=>to σ H λx H1=>Y8 K T x H1/\t σ H1 λxs H2=>r x xs H2 Q
variable {o e:Expr}{es:List Expr}{to:TE}{t:TA}{name:Str}{apos cpos:Pos}{T id:String}{r:V->List V->Hp->VK->Prop}
theorem NI(pa:PlainAttrs T)(slot:Slot T name id)(Yg:typeOf (.builtin id)=pure (.type "method_descriptor"))(hm:Zh X id r)(ho:PE X o to)
  (B5:attributeBase o name X.env (eval o X.env)=eval o X.env:=by rfl) (hline:(apos.endLine==cpos.line)=true:=by rfl):PE X (.Call (.Attribute o name apos) [] [] cpos) (YZ X.K T r to):=by
 intro pins s σ H Q I h;refine wpAny_Call_method0_late B5 hline (cj (ho pins s σ H _ I h) λv s1 ⟨x,H1,I1,r1,ty,q1⟩=>?_);obtain⟨h1,h2⟩:=Ed I1 r1 ty;exact⟨T,id,pa,slot,Yg,h1,h2,Calls.callWith_builtin rfl (PySem.evalArgs_none (hm pins s1 σ H1 x [] v [] Q I1 r1 .nil q1))⟩
theorem C1(pa:PlainAttrs T)(slot:Slot T name id)(Yg:typeOf (.builtin id)=pure (.type "method_descriptor"))(hm:Zh X id r)(ho:PE X o to)(ha:PA X (e::es) t)
  (B5:attributeBase o name X.env (eval o X.env)=eval o X.env:=by rfl)
  (B8:((backTo cpos (starEach (e::es) X.env)).all (λx=>!x.1)&&(backToKw cpos (keywordEach [] X.env)).all (λx=>x.1.isSome)
  &&decide ((e::es).length+([]:List Keyword).length+(if([]:List Keyword).isEmpty then 0 else 1)<30))=true:=by rfl)
  (hline:(apos.endLine==cpos.line)=true:=by rfl) (hs:starEach (e::es) X.env=(false,eval e X.env)::starEach es X.env:=by rfl) (LU:(backTo cpos (starEach es X.env)).any (·.1)=false:=by rfl):
  PE X (.Call (.Attribute o name apos) (e::es) [] cpos) (tBM X.K T r to t):=by
 intro pins s σ H Q I h;refine wpAny_Call_method_late B5 B8 hline rfl (cj (ho pins s σ H _ I h) λv s1 ⟨x,H1,I1,r1,ty,q1⟩=>?_);obtain⟨h1,h2⟩:=Ed I1 r1 ty;refine⟨T,id,pa,slot,Yg,h1,h2,?_⟩;have hA:=ha cpos pins s1 σ H1 _ I1 q1;rw[hs]at hA ⊢;refine Calls.callWith_builtin (by show(false||(backTo cpos (starEach es X.env)).any (·.1))=false;rw[LU]<;>rfl) (Calls.evalArgs_plain ?_)
 exact cj hA λus s2 ⟨vs,H2,I2,r2,q2⟩=>hm pins s2 σ H2 x vs v us Q I2 r1 r2 q2
end
end L2
namespace L2
open PySem PySem.Spec PyProof.Rows
def WT(X:Cx)(id:String)(r:V->List V->Hp->VK->Prop):Prop:=
 ∀(pins:List (Addr×Obj)) (s:Shared) (σ:St) (H:Hp) (x:V) (xs:List V) (v:Value) (us:List Value) (Q:VK),Inv X pins σ H s->RelV x v->Vals xs us->r x xs H Q ->
  wpAny (model X.prog X.w) X.A (call (.builtin id) (v::us)) (EP X pins σ Q) X.xe s
theorem Vals.one:∀ {x:V} {us:List Value},Vals [x] us->∃u,us=[u]/\RelV x u
 | _,_,.cons r .nil=>⟨_,rfl,r⟩
theorem Vals.zero:∀ {us:List Value},Vals [] us->us=[]
 | _,.nil=>rfl
theorem Vals.dropLast{xs:List V}{us:List Value}(h:Vals xs us):Vals xs.dropLast us.dropLast:=by
 induction h with
 | nil=>exact .nil
 | cons r t ih =>
  cases t with
  | nil=>exact .nil
  | cons q t'=>exact .cons r ih
theorem Vals.rep{xs:List V}{us:List Value}(h:Vals xs us):∀k:Nat,Vals (List.replicate k xs).flatten (List.replicate k us).flatten
 | 0=>.nil
 | k+1=>by
  rw[List.replicate_succ,List.replicate_succ,List.flatten_cons,List.flatten_cons];exact Vals.append h (Vals.rep h k)
theorem vB{α:Type}(l:List α):l.eraseIdx (l.length-1)=l.dropLast:=by
 induction l with
 | nil=>rfl
 | cons a r ih =>
  cases r with
  | nil=>rfl
  | cons b r =>
   have e:(a::b::r).length-1=((b::r).length-1)+1:=by
    have h1:(a::b::r).length=r.length+2:=rfl;have h2:(b::r).length=r.length+1:=rfl;omega
   rw[e,List.eraseIdx_cons_succ,ih]
   all_goals rfl
theorem foldl_rep(its:List Value):∀(k:Nat) (acc:List Value),
  List.foldl (λx1 x2=>x1++x2) acc.toArray (List.replicate k its.toArray)=(acc++(List.replicate k its).flatten).toArray
 | 0,acc=>by simp
 | k+1,acc=>by
  have e:acc.toArray++its.toArray=(acc++its).toArray:=by simp
  have e2:(acc++its)++(List.replicate k its).flatten=acc++(List.replicate (k+1) its).flatten:=by
   rw[List.replicate_succ,List.flatten_cons,List.append_assoc]
  rw[<- e2,<- foldl_rep its k (acc++its),<- e,List.replicate_succ,List.foldl_cons]
section
variable {X:Cx}{pins:List (Addr×Obj)}{σ:St}{H:Hp}{s:Shared}{l b:Addr}{xs ys zs:List V}
theorem Inv.My{its its':List Value}{n:Nat}{f:Array Value->Array Value}{t':Nat}(I:Inv X pins σ H s)(hH:H l=some (.lst xs))
  (e:s.heap.get? l=some {cls:=.type "list",data:=.seq its.toArray n}) (hf:f its.toArray=its'.toArray) (hv:Vals ys its') (hz:ys.length<=sizeLine) (ht:0<t':=by walk_at "3"):
  Inv X pins σ (upd H l (.lst ys)) {s with heap:=s.heap.update l (Obj.mapSeq f),toks:=t'}:=by
 have q:=PySem.IsL.update e f;rw[hf]at q;refine I.write (x:=l) (e:=l) (by rw[hH];exact trivial) (.inl rfl) (λb' u hb hu=>(Heap.get?_update_other s.heap (Obj.mapSeq f) (Ne.symm hb)).trans hu) ⟨_,q⟩ ?_
 exact⟨hz,its',_,hv,q⟩
theorem Inv.Mx{its:List Value}{t':Nat}(I:Inv X pins σ H s)(hv:Vals ys its)(hz:ys.length<=sizeLine)(ht:0<t':=by walk_at "3"):
  Inv X pins σ (upd H s.heap.objs.size (.lst ys)) {s with heap:=s.heap.push {cls:=.type "list",data:=.seq its.toArray},toks:=t'}:=
 I.laid (λ_ _ q=>Heap.get?_push_of_some _ q) (Nat.le_refl _) ⟨hz,its,0,hv,Heap.get?_push_size _ rfl⟩
theorem Inv.fresh(I:Inv X pins σ H s):H s.heap.objs.size=none:=I.bP.fresh (Nat.le_refl _)
theorem Inv.Ga(I:Inv X pins σ H s)(hH:H l=some (.lst xs)):xs.length<=sizeLine/\∃(its:List Value) (n:Nat),Vals xs its/\xs.length=its.length/\s.heap.get? l=some {cls:=.type "list",data:=.seq its.toArray n}:=by
 obtain⟨z,its,n,r,e⟩:=I.bP l _ hH;exact⟨z,its,n,r,r.length,e⟩
theorem tX{n:Nat}(h:n<=sizeLine):Builtin.List.listTooLong n=false:=by
 unfold Builtin.List.listTooLong;exact decide_eq_false ⋯
end
section
variable {X:Cx}
def GQ:V->List V->Hp->VK->Prop:=λx vs H Q=>∃l xs y,x=.ref l/\vs=[y]/\H l=some (.lst xs)/\xs.length<sizeLine/\Q .bx (upd H l (.lst (xs++[y])))
theorem jG:WT X "list.append" GQ:=by
 intro pins s σ H x vs v us Q I rx rv h;obtain⟨l,xs,y,rfl,rfl,hH,hz,q⟩:=h;cases rx;obtain⟨u,rfl,ru⟩:=rv.one;obtain⟨z,its,n,r,hl,e⟩:=I.Ga hH;refine call_meets F.slot_list_append ⟨_,e,rfl⟩ F.entry_list_append (F.args_list_append_2 _ _) (PySem.list_append l its.toArray n u (by rw[List.size_toArray];omega)) ⟨e,?_⟩
 refine⟨.bx,_,I.My (its':=its++[u]) hH e (by simp) (r.append (.cons ru .nil)) ?_,rfl,q⟩
 rw[List.length_append,List.length_singleton];omega
def GU:V->List V->Hp->VK->Prop:=λx vs H Q=>∃l b xs zs,x=.ref l/\vs=[.ref b]/\H l=some (.lst xs)/\H b=some (.lst zs)/\xs.length+zs.length<=sizeLine/\Q .bx (upd H l (.lst (xs++zs)))
theorem y8:WT X "list.extend" GU:=by
 intro pins s σ H x vs v us Q I rx rv h;obtain⟨l,b,xs,zs,rfl,rfl,hH,hB,hz,q⟩:=h;cases rx;obtain⟨u,rfl,ru⟩:=rv.one;cases ru;obtain⟨z,its,n,r,hl,e⟩:=I.Ga hH;obtain⟨z2,tf,n2,r2,xa,e2⟩:=I.Ga hB;have hsz:its.toArray.size+tf.toArray.size<=sizeLine:=by rw[List.size_toArray,List.size_toArray];omega
 have Cd:¬(!its.toArray.isEmpty&&Builtin.List.listTooLong (its.toArray.size+tf.toArray.size))=true:=by
  rw[tX hsz,Bool.and_false];exact Bool.false_ne_true
 refine call_meets F.slot_list_extend ⟨_,e,rfl⟩ F.entry_list_extend (F.args_list_extend_2 _ _)
  (AutoSeq1.list_extend_list_list_0 l its.toArray n b tf.toArray n2 Cd (by rw[List.size_toArray];omega) ⋯) ⟨e,e2,?_⟩
 refine⟨.bx,_,I.My (its':=its++tf) hH e (by simp) (r.append r2) ?_,rfl,q⟩
 rw[List.length_append];omega
def YK:V->List V->Hp->VK->Prop:=λx vs H Q=>∃l xs y,x=.ref l/\vs=[]/\H l=some (.lst xs)/\xs[xs.length-1]?=some y/\Q y (upd H l (.lst xs.dropLast))
theorem MD:WT X "list.pop" YK:=by
 intro pins s σ H x vs v us Q I rx rv h;obtain⟨l,xs,y,rfl,rfl,hH,hy,q⟩:=h;cases rx;have hus:=rv.zero;subst hus;obtain⟨z,its,n,r,hl,e⟩:=I.Ga hH;obtain⟨u,hu,ru⟩:=r.get hy;have hy':its.toArray[its.toArray.size-1]?=some u:=by
  show its.toArray[its.length-1]?=some u;rw[<- Array.getElem?_toList,<- hl];exact hu
 refine call_meets F.slot_list_pop ⟨_,e,rfl⟩ F.entry_list_pop (F.args_list_pop_1 _) (MeetsSeq.list_pop_last l its.toArray n u hy' (by rw[List.size_toArray];omega)) ⟨e,?_⟩
 refine⟨y,_,I.My (its':=its.dropLast) hH e ?_ r.dropLast ?_,ru,q⟩
 ·show its.toArray.eraseIdxIfInBounds (its.toArray.size-1)=its.dropLast.toArray
  rw[List.size_toArray,List.eraseIdxIfInBounds_toArray,vB]
 ·rw[List.length_dropLast]
  omega
theorem len_rep{α:Type}(xs:List α)(k:Nat):(List.replicate k xs).flatten.length=k*xs.length:=by
 induction k with
 | zero=>simp
 | succ k ih=>rw[List.replicate_succ,List.flatten_cons,List.length_append,ih,Nat.succ_mul,Nat.add_comm]
end
end L2
namespace Ze
open PySem PySem.W PySem.Calls PyProof.Rows
theorem kF{P:Params}{h:Heap}:∀(ns:List Int) (vs:List Value),WellAll P h vs (ns.map WData.int)->IntsAre vs ns:=by
 intro ns
 induction ns with
 | nil =>
  intro vs w;rw[List.map_nil]at w;cases w;exact .nil
 | cons n ns ih =>
  intro vs w;rw[List.map_cons]at w;cases w with
  | cons a b =>
   cases a;exact .cons _ _ (ih _ b)
theorem zu{l:OpenLaw}{n:Nat}(hn:l.most=some n){P:Params}{h:Heap}{args:List WData}{vals:List Value}
  (yL:l.row.toRowW.claim.pre args=true) (FL:WellAll P h vals args):
  ∃a vs ns,vals=[Value.ref a]/\args=[WData.list (ns.map WData.int)]/\h.get? a=some {cls:=.type "list",data:=.seq vs.toArray}/\IntsAre vs ns/\ns.length<=n:=by
 have m7:WShape.hasAll [] args [.list .int]=true:=(pre_splitW yL).1;have hc:l.pre.holds [] {args:=args}=true:=(pre_splitW yL).2;obtain⟨d,r,rfl,h1,h2⟩:=hasAllW_cons m7;obtain rfl:=hasAllW_nil h2;obtain⟨xs,rfl,h3⟩:=hasW_list h1;obtain⟨ns,rfl⟩:=items_int h3;have hlen:ns.length<=n:=by
  unfold OpenLaw.pre at hc;have h4:(WTm.not (.lt (.lit (.int (n:Int))) (.len (.arg 0)))).holds [] {args:=[.list (ns.map .int)]}=true:=by
   have h4:=(holds_andW hc).1;rw[hn]at h4;exact h4
  have h5:=condW_of h4 (w_not (w_lt w_lit (w_len_list (w_arg rfl))));rw[List.length_map]at h5;refine Nat.le_of_not_lt λq=>?_;have q':(n:Int)<((ns.length:Nat):Int):=by omega
  first
   | (rw[decide_eq_true q']at h5;exact absurd h5 ∅)
   | (simp at h5;omega)
 cases FL with
 | cons w1 w2 =>
  cases w2;cases w1 with
  | list ho dI=>exact⟨_,_,ns,rfl,rfl,ho,kF ns _ dI,hlen⟩
theorem zq(l:OpenLaw)(args:List WData):l.row.toRowW.claim.post args (.bool true) args=true:=
 postW_of (r:=l.row.toRowW) (X:=(true==true))
  (show WShape.has [] (.bool true) .bool=true by first|rfl|decide|simp [WShape.has,WShape.arms,WShape.armsAll])
  (show(WTm.eq .res (.lit (.bool true))).value [] {args:=args,res:=some (.bool true),after:=args}=some (.bool (true==true))from w_eq_bool (w_res rfl) w_lit) rfl
theorem rS{l:OpenLaw}{n:Nat}{q:Program}{loose:List Str}{XP:(Str->Option Value)->Heap->Prop}{YP:World->Heap->Prop}{d:DefRec}
  (hn:l.most=some n) (SY:d.params.defaults=[])
  (call:∀(w:World) (cw bI:Shared) (mg mb:Str->Option Value) (fa:Addr) (o:Obj) (pm cd doc:Value) (a:Addr) (vs:List Value) (ns:List Int),
   Ground q loose [] XP w cw mg mb bI.heap->YP w bI.heap ->
   bI.heap.get? fa=some o->o.data=.func (docDef d.name d.params d.body d.scope pm cd doc)->bI.heap.CodeRec cd d.name->mg d.name=some (.ref fa) ->
   bI.heap.get? a=some {cls:=.type "list",data:=.seq vs.toArray}->IntsAre vs ns->ns.length<=n->bI.gens=#[] ->
   codeAny (model l.prog w) callerA (.call (.ref fa) ⟨[.ref a],[]⟩) (λr s'=>r=.ok (.ret (.bool true))/\OldK bI.heap s'.heap/\s'.os=bI.os/\AllBare s'.gens) bI):
  WalkO q loose XP YP l.row.toRowW d [] (λf vs=>PySem.call f vs):=by
 intro w cw bI mg mb G Y fa o pm cd doc dV kV ho hd sV hD hmg hg args vals as yL FJ Wg FL u9;obtain rfl:dV=.none:=Dflts.none hD SY;obtain rfl:kV=.none:=Dflts.noKw hD;obtain⟨a,vs,ns,rfl,rfl,LQ,hints,hlen⟩:=zu hn yL FL;refine enter_call (codeAny_mono (call w cw bI mg mb fa o pm cd doc a vs ns G Y ho (fd_plain hd) sV hmg LQ hints hlen hg) λr s' hq=>?_);obtain⟨rfl,h2,h3,h4⟩:=hq;exact⟨.inl ⟨.bool true,.bool true,[],rfl,λ_=>rfl,.bool true,zq l _,λ_=>⟨List.Pairwise.nil,λ_ hm=>(nomatch hm)⟩⟩,h2,h3,h4⟩
end Ze
namespace L2
open PySem PySem.Spec PyProof.Rows
theorem dC:∀ {vs:List Value} {ns:List Int},IntsAre vs ns->Vals (ns.map V.int) vs
 | _,_,.nil=>.nil
 | _,_,.cons n t h=>.cons ⟨t,rfl⟩ (dC h)
def Only(H:Hp):Prop:=∀b,H b=none\/∃o xs,H b=some (.nQ o (.lst xs))
theorem CG{P:Program}{w:World}{K:PySem.W.Frag}{mg mb:Str->Option Value}{CX:yi}{k:Nat}{fa a:Addr}{fd:FuncData}{x:Str}{sp:Sp}{bI:Shared}{vs:List Value}{ns:List Int}
  (KX:K.In bI.heap) (Wc:bI.heap.Ns mainGlobals mg) (hb:bI.heap.Ns builtinsNs mb) (hbb:∀x:Str,x≠"__name__"->mb x=bootBuiltins x) (XO:bI.heap.NoLimit) (hg:bI.gens=#[])
  (ha:bI.heap.get? a=some {cls:=.type "list",data:=.seq vs.toArray}) (hi:IntsAre vs ns) (hl:ns.length<=sizeLine) (hr:fX k callerA)
  (F:∀base:Heap,K.In base->base.Ns mainGlobals mg->dD P w K mg base CX k fa fd [x] sp) (X2:yk fd [x]) (SX:∀(s:Shared) (u:Value),BindsTo s fd ⟨[u],[]⟩ [(x,u)])
  (IJ:∀H:Hp,Only H->dY K H a (ns.map V.int)->sp [.ref a] H (λv _=>v=.bl true) λ_ _ _=>False)
  (Xs:∀H e s',CX [] H bI (λ_ _ _=>False) e s'->False):
  codeAny (model P w) callerA (.call (.ref fa) ⟨[.ref a],[]⟩) (λr s'=>r=.ok (.ret (.bool true))/\OldK bI.heap s'.heap/\s'.os=bI.os/\AllBare s'.gens) bI:=by
 have rv:=dC hi;have Ys:=hi.length
 -- from an abstract heap in which nothing but the script may be tracked
 have core:∀H:Hp,Only H->dY K H a (ns.map V.int)->fW P w H bI.heap->(∀b,H b≠none->b=a)->(H a≠none->K.lookup a=none) ->
   codeAny (model P w) callerA (.call (.ref fa) ⟨[.ref a],[]⟩) (λr s'=>r=.ok (.ret (.bool true))/\OldK bI.heap s'.heap/\s'.os=bI.os/\AllBare s'.gens) bI:=by
  intro H hO hS bP hA hK;have wI:∀ {b:Addr} {o:Obj},bI.heap.get? b=some o->H b=none->(pK bI.heap H).get? b=some o:=λe n=>Cb e n;have Ub:∀ {b:Addr} {o:Obj} {es:Array DictEntry} {ep:Nat},bI.heap.get? b=some o->o.data=.dict es ep->H b=none:=λ{b o es ep} e d=>by
   cases q:H b with
   | none=>rfl
   | some u =>
    have e':b=a:=hA b (by rw[q];simp)
    subst e';rw[ha]at e;cases e;have d':Data.seq vs.toArray _=Data.dict es ep:=d;cases d'
  have Wr:∀ {b:Addr} {m:Str->Option Value},bI.heap.Ns b m->(pK bI.heap H).Ns b m:=λ{b m} ⟨o,es,ep,e,d,r⟩=>⟨o,es,ep,wI e (Ub e d),d,r⟩;have Zz:K.In (pK bI.heap H):=λb o e=>wI (KX b o e) (by
   cases q:H b with
   | none=>rfl
   | some u =>
    have e':b=a:=hA b (by rw[q];simp)
    subst e';rw[hK (by rw[q];simp)]at e;cases e)
  have hM:Mod K mg (pK bI.heap H):=⟨Zz,Wr Wc,⟨mb,Wr hb,hbb⟩,let ⟨mc,h1,h2⟩:=XO;⟨mc,Wr h1,h2⟩⟩;have e0:E5 P w K mg (pK bI.heap H) callerA [] bI H:=⟨rfl,hM,λb o e=>Gi e,Nat.le_of_eq (yI _ _),trivial,λb hb=>absurd (show b∈([]:List Addr)from hb) (by simp),bP,.of_eq hg⟩
  refine codeAny_mono ((F _ Zz (Wr Wc)).run callerA [] bI H ⟨[.ref a],[]⟩ [.ref a] [.ref a] _ _ hr e0 (.inr X2) (SX bI (.ref a)) (.cons rfl .nil) (IJ H hO hS)) λr s' h=>?_;cases r with
  | error e=>exact(Xs H e s' h).elim
  | ok fl =>
   cases fl with
   | next=>exact False.elim h
   | brk=>exact False.elim h
   | cont=>exact False.elim h
   | ret u =>
    obtain⟨v,H',os,bare,un,XZ,r',q⟩:=h;have q':v=.bl true:=q;subst q';obtain rfl:u=Value.bool true:=r';refine⟨rfl,OldK.of_keep λb o e=>?_,os,bare⟩;cases q:H b with
    | none=>exact un.keep b o e q (by intro z;exact absurd (show b∈([]:List Addr)from z) (by simp)) (by simp)
    | some u =>
     rcases hO b with z|⟨ob,xs,z⟩
     ·rw[q]at z;cases z
     ·have z2:=un.pH b ob _ z
      obtain⟨e1,_⟩:=bP b _ z;obtain⟨e2,_⟩:=XZ b _ z2;rw[e]at e1;cases e1;exact e2
 cases hk:K.lookup a with
 | some o =>
  -- the script is one of the module's own objects
  have e:=KX a o hk;rw[ha]at e;cases e;refine core (λ_=>none) (λ_=>.inl rfl) (.inr ⟨_,vs.toArray,_,hk,rfl,rfl,rfl,by rw[List.size_toArray,Ys];exact hl,(by simpa using rv),(by rw[List.map_map];rfl)⟩) (λb u z=>by have z':(none:Option HO)=some u:=z;cases z') (λb z=>absurd rfl z) λz=>absurd rfl z
 | none =>
  refine core (λb=>if b=a then some (.nQ {cls:=.type "list",data:=.seq vs.toArray} (.lst (ns.map V.int)))else none) (λb=>?_) (.inl (.inr ⟨{cls:=.type "list",data:=.seq vs.toArray},if_pos rfl⟩)) (λb u z=>?_) (λb z=>?_) λ_=>hk
  ·by_cases hb:b=a
   ·exact .inr ⟨_,_,if_pos hb⟩
   ·exact .inl (if_neg hb)
  ·by_cases hb:b=a
   ·have z':=(if_pos hb).symm.trans z
    cases z';subst hb;exact⟨ha,by rw[List.length_map];exact hl,vs,_,rv,ha⟩
   ·have z':=(if_neg hb).symm.trans z
    cases z'
  ·by_cases hb:b=a
   ·exact hb
   ·exact absurd (if_neg hb) z
end L2
namespace L2
open PySem PySem.Spec PyProof.Rows
theorem Hk{l:PySem.W.OpenLaw}{n k:Nat}{q:Program}{loose:List Str}{XP:(Str->Option Value)->Heap->Prop}{YP:World->Heap->Prop}{d:DefRec}{K:Params->PySem.W.Frag}{CX:World->yi}{sp:World->Sp}{x:Str}
  (hn:l.most=some n) (ER:n<=sizeLine) (SY:d.params.defaults=[]) (hr:fX k callerA)
  (hY:∀(w:World) (h:Heap),YP w h->(K w.params).In h)
  (F:∀(w:World) (mg:Str->Option Value) (fa:Addr) (h:Heap),(K w.params).In h->h.Ns mainGlobals mg->mg d.name=some (.ref fa) ->
   ∃fd:FuncData,yk fd [x]/\(∀(s:Shared) (u:Value),BindsTo s fd ⟨[u],[]⟩ [(x,u)]) /\
    ∀base:Heap,(K w.params).In base->base.Ns mainGlobals mg->dD l.prog w (K w.params) mg base (CX w) k fa fd [x] (sp w))
  (IJ:∀(w:World) (H:Hp) (a:Addr) (ns:List Int),ns.length<=n->Only H->dY (K w.params) H a (ns.map V.int)->sp w [.ref a] H (λv _=>v=.bl true) λ_ _ _=>False)
  (Xs:∀(w:World) (H:Hp) (s:Shared) (e:Value) (s':Shared),CX w [] H s (λ_ _ _=>False) e s'->False):
  PySem.W.WalkO q loose XP YP l.row.toRowW d [] (λf vs=>PySem.call f vs):=by
 refine Ze.rS hn SY λw cw bI mg mb fa o pm cd doc a vs ns G Y ho hd sV hmg LQ hints hlen hg=>?_;have KX:=hY w _ Y;obtain⟨fd,X2,hb,hF⟩:=F w mg fa _ KX G.T.g hmg;exact CG KX G.T.g G.T.b G.T.builtins G.T.nolimit hg LQ hints (Nat.le_trans hlen ER) hr hF X2 hb (λH hO hS=>IJ w H a ns hlen hO hS) λH e s'=>Xs w H bI e s'
end L2
namespace L2
open PySem PySem.Spec PyProof.Rows
def aQ(s:Stmt):Arguments:=match s with
 | .FunctionDef _ a _ _ _ _ _ _ _ _=>a
 | _=>{posonlyargs:=[],args:=[],vararg:=none,kwonlyargs:=[],kw_defaults:=[],kwarg:=none,defaults:=[]}
def ax(s:Stmt):List Stmt:=match s with
 | .FunctionDef _ _ b _ _ _ _ _ _ _=>b
 | _=>[]
def ah(s:Stmt):Scope:=match s with
 | .FunctionDef _ _ _ _ _ _ sc _ _ _=>sc
 | _=>{kind:=.function,names:=[],isGenerator:=false,isCoroutine:=false}
abbrev rC:yi:=λ_ _ _ _ _ _=>False
abbrev E0:XK:=λ_ _ _=>False
theorem C0{X:Cx}:Passes rC X E0:=λ_ _ _ _ _ _ _ h=>h.elim
structure HN(K:PySem.W.Frag)(x qual:Str)(st:Stmt)(f:Addr)(fd:FuncData):Prop where
 ex:∃(oc:Value) (od:Option Addr) (kV doc pm:Value) (an:Option Addr) (gN ct:Value) (Gw:Array (Option Value)),
  fd=PySem.W.fnOf x qual (aQ st) (ax st) (ah st) .none kV doc pm an gN ct/\K.lookup f=some ⟨oc,od,.func fd,Gw⟩/\PySem.W.codeIn K gN qual=true
 kp:PySem.W.keepIn K (.ref f)=true
section
variable {P:Program}{w:World}{K:PySem.W.Frag}{mg:Str->Option Value}{base:Heap}
theorem HN.ok{x qual:Str}{st:Stmt}{f:Addr}{fd:FuncData}{N ps:List Str}{k:Nat}{sp:Sp}(F:HN K x qual st f fd)(S:aL N ps (ah st))(len:∀vs H Q E,sp vs H Q E->vs.length=ps.length)
  (B6:∀(gN:Value) (A:Around) (outer:List Env) (s:Shared) (H:Hp) (vs:List V) (Q:VK) (E:XK),fX k (A.deeper (envOfC qual (ah st) s.heap.objs.size f gN))->sp vs H Q E ->
   ∃t,nu (pv rC P w K mg base N qual (ah st) f gN A outer s H E).MI (ax st) t/\t {nx:=λ_ H'=>Q .bx H',rt:=Q} (start N vs) H):dD P w K mg base rC (k+1) f fd ps sp:=by
 obtain⟨oc,od,kV,doc,pm,an,gN,ct,Gw,rfl,lk,sV⟩:=F.ex;refine Sz lk sV S len λA outer s H vs Q E hr IJ=>?_;obtain⟨t,h,q⟩:=B6 gN A outer s H vs Q E hr IJ;exact⟨t,h.MI,q⟩
theorem HN.binds{x qual:Str}{st:Stmt}{f:Addr}{fd:FuncData}{ps:List Str}(F:HN K x qual st f fd)
  (h:∀(kV doc pm:Value) (an:Option Addr) (gN ct:Value) (us:List Value),us.length=ps.length->bindArgs (PySem.W.fnOf x qual (aQ st) (ax st) (ah st) .none kV doc pm an gN ct) ⟨us,[]⟩=pure (ps.zip us)):Binds K fd ps []:=by
 obtain⟨oc,od,kV,doc,pm,an,gN,ct,Gw,rfl,lk,sV⟩:=F.ex;exact .all (h kV doc pm an gN ct)
theorem bJ{x qual:Str}{st:Stmt}{f:Addr}{oc:Value}{od an:Option Addr}{Gw:Array (Option Value)}{kV doc pm gN ct:Value}(l:K.lookup f=some ⟨oc,od,.func (PySem.W.fnOf x qual (aQ st) (ax st) (ah st) .none kV doc pm an gN ct),Gw⟩)
  (c:PySem.W.codeIn K gN qual=true) (k:PySem.W.keepIn K (.ref f)=true):HN K x qual st f (PySem.W.fnOf x qual (aQ st) (ax st) (ah st) .none kV doc pm an gN ct):=⟨⟨oc,od,kV,doc,pm,an,gN,ct,Gw,rfl,l,c⟩,k⟩
end
def ao(H H':Hp):Prop:=∀b o,H b=some o->H' b=some o
theorem ao.refl(H:Hp):ao H H:=λ_ _ h=>h
theorem ao.trans{H H1 H2:Hp}(a:ao H H1)(b:ao H1 H2):ao H H2:=λc o h=>b c o (a c o h)
theorem ao.free{H H':Hp}(e:ao H H'){l:Addr}(h:H' l=Option.none):H l=Option.none:=by
 cases q:H l with
 | none=>rfl
 | some o =>
  rw[e l o q]at h;cases h
theorem ao.seq{K:PySem.W.Frag}{H H':Hp}{a:Addr}{xs:List V}(e:ao H H')(h:dY K H a xs):dY K H' a xs:=by
 rcases h with(h|⟨o,h⟩)|h
 ·exact .inl (.inl (e _ _ h))
 ·exact .inl (.inr ⟨o,e _ _ h⟩)
 ·exact .inr h
end L2
namespace L2
open PySem PySem.Spec PyProof.Rows
section
variable {κ:Type}[DecidableEq κ]
def jg(kvs:List (κ×V))(k:κ):Option V:=(kvs.find? λkv=>decide (kv.1=k)).map (·.2)
def putK(kvs:List (κ×V))(k:κ)(v:V):List (κ×V):=
 if(kvs.any λkv=>decide (kv.1=k))=true then kvs.map (λkv=>if kv.1=k then(kv.1,v)else kv)else kvs++[(k,v)]
theorem ji{p:κ×V}{r:List (κ×V)}{k:κ}(e:p.1=k):jg (p::r) k=some p.2:=by simp [jg,List.find?_cons,e]
theorem jh{p:κ×V}{r:List (κ×V)}{k:κ}(e:¬p.1=k):jg (p::r) k=jg r k:=by simp [jg,List.find?_cons,e]
theorem uN(k:κ):∀kvs:List (κ×V),(kvs.any λkv=>decide (kv.1=k))=(jg kvs k).isSome
 | []=>rfl
 | p::r=>by
  rw[List.any_cons]
  by_cases e:p.1=k
  ·simp only[ji e,decide_eq_true e,Bool.true_or,Option.isSome_some]
  ·rw[jh e,decide_eq_false e,Bool.false_or];exact uN k r
theorem km(kvs:List (κ×V))(k:κ)(v:V):(putK kvs k v).length<=kvs.length+1:=by
 unfold putK
 split
 ·rw[List.length_map];omega
 ·rw[List.length_append,List.length_cons,List.length_nil];omega
theorem vg.jB{o:Option V}{u:Option Value}(r:vg o u):o.isSome=u.isSome:=by
 cases o with
 | none=>cases u with
  | none=>rfl
  | some _=>exact(show False from r).elim
 | some _=>cases u with
  | none=>exact(show False from r).elim
  | some _=>rfl
theorem KV.val{kvs:List (κ×V)}{vs:List (κ×Value)}(r:KV kvs vs)(k:κ):vg (jg kvs k) (valueAt vs k):=by
 unfold KV at r
 induction r with
 | nil=>exact True.intro
 | @cons p q ps qs h t ih =>
  obtain⟨h1,h2⟩:=h
  by_cases e:p.1=k
  ·have e':q.1=k:=h1.symm.trans e
   have b:valueAt (q::qs) k=some q.2:=by simp [valueAt,List.find?_cons,e']
   rw[ji e,b];exact h2
  ·have e':¬q.1=k:=λz=>e (h1.trans z)
   have b:valueAt (q::qs) k=valueAt qs k:=by simp [valueAt,List.find?_cons,e']
   rw[jh e,b];exact ih
theorem KV.any{kvs:List (κ×V)}{vs:List (κ×Value)}(r:KV kvs vs)(k:κ):(kvs.any λkv=>decide (kv.1=k))=vs.any λkv=>decide (kv.1=k):=by
 unfold KV at r
 induction r with
 | nil=>rfl
 | cons h t ih=>rw[List.any_cons,List.any_cons,ih,h.1]
theorem KV.repl{kvs:List (κ×V)}{vs:List (κ×Value)}(r:KV kvs vs)(k:κ){y:V}{u:Value}(ry:RelV y u):
  KV (kvs.map λkv=>if kv.1=k then(kv.1,y)else kv) (vs.map λkv=>if kv.1=k then(kv.1,u)else kv):=by
 unfold KV at r ⊢
 induction r with
 | nil=>exact .nil
 | @cons p q ps qs h t ih =>
  rw[List.map_cons,List.map_cons];refine .cons ?_ ih;obtain⟨h1,h2⟩:=h
  by_cases e:p.1=k
  ·rw[if_pos e,if_pos (h1.symm.trans e)];exact⟨h1,ry⟩
  ·rw[if_neg e,if_neg (λz=>e (h1.trans z))];exact⟨h1,h2⟩
theorem KV.put{kvs:List (κ×V)}{vs:List (κ×Value)}(r:KV kvs vs)(k:κ){y:V}{u:Value}(ry:RelV y u):KV (putK kvs k y) (stored vs k u):=by
 unfold putK stored;rw[r.any k]
 by_cases e:(vs.any λkv=>decide (kv.1=k))=true
 ·rw[if_pos e,if_pos e];exact r.repl k ry
 ·rw[if_neg e,if_neg e];exact Paired.snoc r ⟨rfl,ry⟩
theorem KV.length{kvs:List (κ×V)}{vs:List (κ×Value)}(r:KV kvs vs):kvs.length=vs.length:=Paired.length r
end
theorem Cz{P:Program}{w:World}{k:Key}{u:Value}(r:RelV (kV k) u):(cb P w).is k u=true:=by
 cases k with
 | inl i=>obtain⟨t,e⟩:=(show∃t,u=Value.int i t from r);subst e;exact tT P w i t
 | inr x=>obtain⟨t,e⟩:=(show∃t,u=Value.str x t from r);subst e;exact tU P w x t
theorem nY{P:Program}{w:World}:∀ {ks:List Key} {us:List Value},Vals (ks.map kV) us->ItemsAre (cb P w) ks us
 | [],_,r=>by rw[List.map_nil]at r;cases r;exact .nil
 | k::ks,_,r=>by
  rw[List.map_cons]at r;cases r with
  | cons h t=>exact .cons (Cz h) (nY t)
abbrev KT(H:Hp):List (List Key×V)->List (List Key×Addr×Value)->Prop:=Paired λp q=>p.1=q.1/\H q.2.1=some (.tup (p.1.map kV))/\RelV p.2 q.2.2
theorem KT.val{H:Hp}{kvs:List (List Key×V)}{xs:List (List Key×Addr×Value)}(r:KT H kvs xs)(k:List Key):vg (jg kvs k) ((atKey xs k).map (·.2)):=by
 induction r with
 | nil=>exact True.intro
 | @cons p q ps qs h t ih =>
  obtain⟨h1,_,h2⟩:=h
  by_cases e:p.1=k
  ·have e':q.1=k:=h1.symm.trans e
   have b:atKey (q::qs) k=some q.2:=by simp [atKey,List.find?_cons,e']
   rw[ji e,b];exact h2
  ·have e':¬q.1=k:=λz=>e (h1.trans z)
   have b:atKey (q::qs) k=atKey qs k:=by simp [atKey,List.find?_cons,e']
   rw[jh e,b];exact ih
theorem KT.repl{H:Hp}{kvs:List (List Key×V)}{xs:List (List Key×Addr×Value)}(r:KT H kvs xs)(k:List Key){y:V}{u:Value}(ry:RelV y u):
  KT H (kvs.map λkv=>if kv.1=k then(kv.1,y)else kv) (xs.map (putAt k u)):=by
 induction r with
 | nil=>exact .nil
 | @cons p q ps qs h t ih =>
  rw[List.map_cons,List.map_cons];refine .cons ?_ ih;obtain⟨h1,h2,h3⟩:=h;unfold putAt
  by_cases e:p.1=k
  ·rw[if_pos e,if_pos (h1.symm.trans e)];exact⟨h1,h2,ry⟩
  ·rw[if_neg e,if_neg (λz=>e (h1.trans z))];exact⟨h1,h2,h3⟩
theorem KT.put{H:Hp}{kvs:List (List Key×V)}{xs:List (List Key×Addr×Value)}(r:KT H kvs xs)(k:List Key){b:Addr}{y:V}{u:Value}(hb:H b=some (.tup (k.map kV)))(ry:RelV y u):
  KT H (putK kvs k y) (storedH xs k b u):=by
 have e:(kvs.any λkv=>decide (kv.1=k))=(atKey xs k).isSome:=by
  rw[uN,(r.val k).jB,Option.isSome_map]
 unfold putK storedH;rw[e]
 by_cases q:(atKey xs k).isSome=true
 ·rw[if_pos q,if_pos q];exact r.repl k ry
 ·rw[if_neg q,if_neg q];exact Paired.snoc r ⟨rfl,hb,ry⟩
theorem KT.keeps{H H':Hp}{kvs:List (List Key×V)}{xs:List (List Key×Addr×Value)}(r:KT H kvs xs)(ht:∀b ys,H b=some (.tup ys)->H' b=some (.tup ys)):KT H' kvs xs:=
 Paired.MB r λ_ _ z=>⟨z.1,ht _ _ z.2.1,z.2.2⟩
section
variable {P:Program}{w:World}{H:Hp}{h:Heap}{a:Addr}
theorem Ji{u:HO}(ok:fW P w H h)(e:Rd H a u):bL P w H h a u:=e.ok ok
theorem Ij{kvs:List (Key×V)}(ok:fW P w H h)(e:Rd H a (.dK kvs)):kvs.length<=sizeLine/\(a==sysModules)=false/\∃vs,KV kvs vs/\h.DictOf (cb P w) a vs:=
 show bL P w H h a (.dK kvs)from Ji ok e
theorem RK{kvs:List (Key×V)}(ok:fW P w H h)(e:H a=some (.dK kvs)):kvs.length<=sizeLine/\(a==sysModules)=false/\∃vs,KV kvs vs/\h.DictOf (cb P w) a vs:=Ij ok (.inl e)
theorem vJ{ks:List Key}(ok:fW P w H h)(e:H a=some (.tup (ks.map kV))):(tupleKind (cb P w)).is h ks a:=by
 obtain⟨_,its,r,o,h1,h2,n,h3⟩:=(show bL P w H h a (.tup (ks.map kV))from ok a _ e)
 exact⟨o,its.toArray,n,h1,h2,h3,by simpa using nY r⟩
theorem Ik{kvs:List (List Key×V)}(ok:fW P w H h)(e:Rd H a (.dT kvs)):kvs.length<=sizeLine/\(a==sysModules)=false /\
  ∃xs,KT H kvs xs/\h.DictOfH (tupleKind (cb P w)) a xs:=by
 obtain⟨z,y,xs,r,o,es,ep,h1,h2,h3,h4,h5⟩:=(show bL P w H h a (.dT kvs)from Ji ok e)
 refine⟨z,y,xs,r,o,es,ep,h1,h2,h3,h4,λx hx=>?_,h5⟩;have all:∀ {l:List (List Key×V)} {m:List (List Key×Addr×Value)},KT H l m->∀x∈m,(tupleKind (cb P w)).is h x.1 x.2.1:=by
  intro l m q
  induction q with
  | nil=>intro x hx;exact nomatch hx
  | @cons p q ps qs hq t ih =>
   intro x hx;rcases List.mem_cons.mp hx with e|hx
   ·subst e
    exact vJ ok (by rw[<- hq.1];exact hq.2.1)
   ·exact ih x hx
 exact all r x hx
theorem RL{kvs:List (List Key×V)}(ok:fW P w H h)(e:H a=some (.dT kvs)):kvs.length<=sizeLine/\(a==sysModules)=false /\
  ∃xs,KT H kvs xs/\h.DictOfH (tupleKind (cb P w)) a xs:=Ik ok (.inl e)
end
def Jr(H:Hp)(a:Addr)(y:V)(r:Option V):Prop:=
 (∃kvs k,Rd H a (.dK kvs)/\y=kV k/\r=jg kvs k)\/∃kvs k b,Rd H a (.dT kvs)/\y=.ref b/\H b=some (.tup (k.map kV))/\r=jg kvs k
def E3(H:Hp)(a:Addr)(y v:V)(H':Hp):Prop:=
 (∃kvs k,H a=some (.dK kvs)/\y=kV k/\kvs.length<sizeLine/\H'=upd H a (.dK (putK kvs k v))) \/
 ∃kvs k b,H a=some (.dT kvs)/\y=.ref b/\H b=some (.tup (k.map kV))/\kvs.length<sizeLine/\H'=upd H a (.dT (putK kvs k v))
theorem E3.k{H:Hp}{a:Addr}{kvs:List (Key×V)}{k:Key}{v:V}(e:H a=some (.dK kvs))(hl:kvs.length<sizeLine):E3 H a (kV k) v (upd H a (.dK (putK kvs k v))):=.inl ⟨kvs,k,e,rfl,hl,rfl⟩
section
variable {X:Cx}{pins:List (Addr×Obj)}{σ:St}{H:Hp}{s:Shared}{a:Addr}{y v:V}{u r:Value}{o:Option V}{A:Around}{E:Value->Shared->Prop}
theorem Inv.big(I:Inv X pins σ H s):sysModules<s.heap.objs.size:=by
 have h:mainGlobals<s.heap.objs.size:=(I.mod.glob.keeps I.bk).lt;exact Nat.lt_trans ∅ h
theorem Fj{Q:Value->Shared->Prop}(hu:A.units+1<cLine)(I:Inv X pins σ H s)(g:Jr H a y o)(ry:RelV y u)(h:∀s',Inv X pins σ H s'->Q (.bool (!o.isSome)) s'):
  wpAny (model X.prog X.w) A (compareOp .NotIn u (.ref a)) Q E s:=by
 rcases g with⟨kvs,k,e,ey,l⟩|⟨kvs,k,b,e,ey,eb,l⟩
 ·subst ey
  obtain⟨z,hd,vs,rel,dd⟩:=Ij I.bP e;refine wpAny_notIn_of (Cz ry) hd dd.mapOf ?_;rw[<- (rel.val k).jB,<- l];exact h _ (I.tok _)
 ·subst ey
  cases(show u=Value.ref b from ry)
  obtain⟨z,hd,xs,rel,dd⟩:=Ik I.bP e;refine wpAny_notIn_heap (tupleKind_room_in1 hu) (vJ I.bP eb) hd dd ?_;have q:=(rel.val k).jB;rw[Option.isSome_map]at q;rw[<- q,<- l];exact h _ (I.tok _)
theorem wN{h':Heap}{t':Nat}{ob:HO}(I:Inv X pins σ H s)(mu:QQ (H a))(hs:Heap.SameBut a s.heap h')(he:∃q,h'.get? a=some q)(new:bL X.prog X.w (upd H a ob) h' a ob)(ht:0<t':=by walk_at "3"):
  Inv X pins σ (upd H a ob) {s with heap:=h',toks:=t'}:=
 I.write (x:=a) (e:=a) mu (.inl rfl) (λb q hb z=>(hs.2 b hb).trans z) he new
theorem KW{P:Program}{w:World}{H':Hp}{h':Heap}{kvs:List (Key×V)}{vs:List (Key×Value)}(z:kvs.length<=sizeLine)(hd:(a==sysModules)=false)(rel:KV kvs vs)(dd:h'.DictOf (cb P w) a vs):
  bL P w H' h' a (.dK kvs):=⟨z,hd,vs,rel,dd⟩
theorem yy{H':Hp}{Q:Unit->Shared->Prop}(hu:A.units+1<cLine)(I:Inv X pins σ H s)(g:E3 H a y v H')(ry:RelV y u)(rv:RelV v r)(h:∀s',Inv X pins σ H' s'->Q () s'):
  wpAny (model X.prog X.w) A (setItem (.ref a) u r) Q E s:=by
 rcases g with⟨kvs,k,e,ey,l,eH⟩|⟨kvs,k,b,e,ey,eb,l,eH⟩
 ·subst ey eH
  obtain⟨z,hd,vs,rel,dd⟩:=RK I.bP e;have hz:vs.length<=sizeLine:=by rw[<- rel.length];exact z
  have hl:(putK kvs k v).length<=sizeLine:=by have:=km kvs k v;omega
  refine wpAny_setItem_pairs (hsz:=hz) (Cz ry) dd λh' V3 hs=>h _ ?_;have he:∃q,h'.get? a=some q:=let ⟨q,_,_,hq,_⟩:=V3;⟨q,hq⟩;exact wN I (by rw[e];exact True.intro) hs he (KW hl hd (rel.put k rv) V3)
 ·subst ey eH
  cases(show u=Value.ref b from ry)
  obtain⟨z,hd,xs,rel,dd⟩:=RL I.bP e;have hz:xs.length<=sizeLine:=by rw[<- Paired.length rel];exact z
  have hl:(putK kvs k v).length<=sizeLine:=by have:=km kvs k v;omega
  refine wpAny_setItem_heap (hsz:=hz) (tupleKind_room_in1 hu) (vJ I.bP eb) dd λh' V3 hs=>h _ ?_;obtain⟨q,es,ep,hq,h2,h3,h4,_,h5⟩:=V3;refine wN I (by rw[e];exact True.intro) hs ⟨q,hq⟩ ⟨hl,hd,_,(rel.put k eb rv).keeps λc ys ec=>?_,q,es,ep,hq,h2,h3,h4,h5⟩
  rw[aq (Ua ec e (λz=>nomatch z))];exact ec
end
def Vj(td ty tv:TE):TS:=λD σ H=>tv σ H λv H1=>td σ H1 λx H2=>ty σ H2 λy H3=>∃a H4,x=.ref a/\E3 H3 a y v H4/\D.nx σ H4
section
variable {X:Cx}{o i e value:Expr}{pos pos' tpos:Pos}{td ty tv:TE}
theorem GK(hu:X.A.units+1<cLine)(ho:PE X o td)(hi:PE X i ty)(hv:PE X value tv)(hs:swapsWith value (some (.Subscript o i pos')) pos.line X.env=pure false):
  PS X (.Assign [.Subscript o i pos'] value pos) (Vj td ty tv):=by
 intro pins s σ H D I h;refine wpAny_Assign_Subscript (cj (hv pins s σ H _ I h) λr s1 ⟨v,H1,I1,rv,q1⟩=>cj (ho pins s1 σ H1 _ I1 q1) λu s2 ⟨x,H2,I2,rx,q2⟩=>cj (hi pins s2 σ H2 _ I2 q2) λiv s3 ⟨y,H3,I3,ry,a,H4,ex,g,q3⟩=>?_) hs;subst ex;obtain rfl:u=Value.ref a:=rx;exact yy hu I3 g ry rv λs4 I4=>⟨σ,H4,I4,q3⟩
end
theorem Bb{P:Program}{w:World}{H:Hp}(h:Heap)(hb:sysModules<h.objs.size):bL P w H (h.push {cls:=.type "dict",data:=.dict #[]}) h.objs.size (.dK []):=
 ⟨Nat.zero_le _,beq_eq_false_iff_ne.mpr (Ne.symm (Nat.ne_of_lt hb)),[],.nil,Heap.DictOf.new h⟩
def Pm:TE:=λ_ H Q=>∀p,H p=none->Q (.ref p) (upd H p (.dK []))
section
variable {X:Cx}{pos:Pos}
theorem C3:PE X (.Dict [] [] pos) Pm:=λpins s σ H Q I h =>
 wpAny_Dict_empty ⟨.ref s.heap.objs.size,_,I.laid (a:=s.heap.objs.size) (o:=.dK []) (t':=s.toks) (λ_ _ q=>Heap.get?_push_of_some _ q) (Nat.le_refl _) (Bb s.heap I.big),rfl,h _ (I.bP.fresh (Nat.le_refl _))⟩
end
def rm:List (TE×TE)->St->Hp->(List (V×V)->Hp->Prop)->Prop
 | [],_,H,Q=>Q [] H
 | (tk,tv)::r,σ,H,Q=>tk σ H λx H1=>tv σ H1 λy H2=>rm r σ H2 λps H3=>Q ((x,y)::ps) H3
end L2
namespace Vc
open PySem L2
class KF where
 K:PySem.W.Frag
 /-- where the classes of exceptions stand -/
 cls:Str->Addr:=λ_=>0
 /-- the code tables that a lambda fills: where,as they were,the lambda's place,its name -/
 tabs:List (Addr×Array Value×Pos×Str):=[]
variable [KF]
inductive D where
 | bx|bl (b:Bool)|int (i:Int)|str (x:Str)|tup (xs:List D)|lst (xs:List D)|dct (kvs:List (D×D))|exc (c:Str)
 /-- the law's own list: read,never changed -/
 | fZ (ns:List Int)
 /-- a dict with whole numbers for keys -/
 | mZ (kvs:List (Int×D))
 /-- kept points: the word,the count,the next name,the points by their names -/
 | kp (w:Str) (c e:Int) (kvs:List (Int×D))
 /-- a whole number with a token unlike 0 -/
 | tk (i:Int)
def F2(a:Addr)(h:Heap):Prop:=∃o vs,h.get? a=some o/\o.data=.fields vs/\vs[2]?=some .none
def Sf(a:Addr)(c:Str):HO:=.ext λh=>(∃o,h.get? a=some o/\o.cls=.ref (KF.cls c))/\F2 a h
def kD:Key->D
 | .inl i=>.int i
 | .inr x=>.str x
def kpF(w:Str)(c e:Int)(ad:Addr):List (Str×V):=[("way",.str w),("count",.int c),("points_by_name",.ref ad),("ever_put",.int e)]
mutual
inductive Rep (F:Hp):V->D->Prop where
 | bx:Rep F .bx .bx
 | bl (b:Bool):Rep F (.bl b) (.bl b)
 | int (i:Int):Rep F (.int i) (.int i)
 | tk (i:Int):Rep F (.tk i) (.tk i)
 | str (x:Str):Rep F (.str x) (.str x)
 | tup {a:Addr} {vs:List V} {ds:List D}:F a=some (.tup vs)->aE F vs ds->Rep F (.ref a) (.tup ds)
 | lst {a:Addr} {vs:List V} {ds:List D}:Rd F a (.lst vs)->aE F vs ds->Rep F (.ref a) (.lst ds)
 | fZ {a:Addr} {ns:List Int}:dY KF.K F a (ns.map V.int)->Rep F (.ref a) (.fZ ns)
 | exc {a:Addr} {c:Str}:F a=some (Sf a c)->Rep F (.ref a) (.exc c)
 | KU {a:Addr} {ks:List (List Key×V)} {kvs:List (D×D)}:F a=some (.dT ks)->oQ F ks kvs->Rep F (.ref a) (.dct kvs)
 | mZ {a:Addr} {ks:List (Key×V)} {kvs:List (Int×D)}:Rd F a (.dK ks)->cg F ks kvs->Rep F (.ref a) (.mZ kvs)
 | kp {a dx ad:Addr} {w:Str} {c e:Int} {ks:List (Key×V)} {kvs:List (Int×D)}:F a=some (.ins (KF.cls "Kept") dx (kpF w c e ad))->Rd F ad (.dK ks)->cg F ks kvs->Rep F (.ref a) (.kp w c e kvs)
inductive cg (F:Hp):List (Key×V)->List (Int×D)->Prop where
 | nil:cg F [] []
 | cons {i:Int} {v:V} {d:D} {ks:List (Key×V)} {kvs:List (Int×D)}:Rep F v d->cg F ks kvs->cg F ((.inl i,v)::ks) ((i,d)::kvs)
inductive vh (F:Hp):List (Key×V)->List (D×D)->Prop where
 | nil:vh F [] []
 | cons {k:Key} {v:V} {d:D} {ks:List (Key×V)} {kvs:List (D×D)}:Rep F v d->vh F ks kvs->vh F ((k,v)::ks) ((kD k,d)::kvs)
inductive oQ (F:Hp):List (List Key×V)->List (D×D)->Prop where
 | nil:oQ F [] []
 | cons {k:List Key} {v:V} {d:D} {ks:List (List Key×V)} {kvs:List (D×D)}:Rep F v d->oQ F ks kvs->oQ F ((k,v)::ks) ((.tup (k.map kD),d)::kvs)
inductive aE (F:Hp):List V->List D->Prop where
 | nil:aE F [] []
 | cons {v:V} {d:D} {vs:List V} {ds:List D}:Rep F v d->aE F vs ds->aE F (v::vs) (d::ds)
end
theorem Rd.mono{F F':Hp}(s:ao F F'){a:Addr}{u:HO}(h:Rd F a u):Rd F' a u:=by
 rcases h with h|⟨o,h⟩
 ·exact .inl (s a _ h)
 ·exact .inr ⟨o,s a _ h⟩
mutual
theorem Rep.mono{F F':Hp}(s:ao F F'){v:V}{d:D}:Rep F v d->Rep F' v d
 | .bx=>.bx
 | .bl b=>.bl b
 | .int i=>.int i
 | .tk i=>.tk i
 | .str x=>.str x
 | .tup h r=>.tup (s _ _ h) (aE.mono s r)
 | .lst h r=>.lst (Rd.mono s h) (aE.mono s r)
 | .fZ h=>.fZ (s.seq h)
 | .exc h=>.exc (s _ _ h)
 | .KU h r=>.KU (s _ _ h) (oQ.mono s r)
 | .mZ h r=>.mZ (Rd.mono s h) (cg.mono s r)
 | .kp h1 h2 r=>.kp (s _ _ h1) (Rd.mono s h2) (cg.mono s r)
theorem cg.mono{F F':Hp}(s:ao F F'){ks:List (Key×V)}{kvs:List (Int×D)}:cg F ks kvs->cg F' ks kvs
 | .nil=>.nil
 | .cons h r=>.cons (Rep.mono s h) (cg.mono s r)
theorem vh.mono{F F':Hp}(s:ao F F'){ks:List (Key×V)}{kvs:List (D×D)}:vh F ks kvs->vh F' ks kvs
 | .nil=>.nil
 | .cons h r=>.cons (Rep.mono s h) (vh.mono s r)
theorem oQ.mono{F F':Hp}(s:ao F F'){ks:List (List Key×V)}{kvs:List (D×D)}:oQ F ks kvs->oQ F' ks kvs
 | .nil=>.nil
 | .cons h r=>.cons (Rep.mono s h) (oQ.mono s r)
theorem aE.mono{F F':Hp}(s:ao F F'){vs:List V}{ds:List D}:aE F vs ds->aE F' vs ds
 | .nil=>.nil
 | .cons h r=>.cons (Rep.mono s h) (aE.mono s r)
end
theorem aE.length{F:Hp}:∀ {vs:List V} {ds:List D},aE F vs ds->vs.length=ds.length
 | _,_,.nil=>rfl
 | _,_,.cons _ r=>by simp [aE.length r]
theorem aE.append{F:Hp}:∀ {vs ws:List V} {ds es:List D},aE F vs ds->aE F ws es->aE F (vs++ws) (ds++es)
 | _,_,_,_,.nil,s=>s
 | _,_,_,_,.cons h r,s=>.cons h (aE.append r s)
theorem aE.get{F:Hp}:∀ {vs:List V} {ds:List D} {i:Nat} {d:D},aE F vs ds->ds[i]?=some d->∃v,vs[i]?=some v/\Rep F v d
 | _,_,_,_,.nil,e=>by simp at e
 | _,_,0,_,.cons h _,e=>by simp at e;subst e;exact⟨_,by simp,h⟩
 | _,_,i+1,_,.cons _ r,e=>by
  obtain⟨v,h1,h2⟩:=aE.get (i:=i) r (by simpa using e)
  exact⟨v,by simpa using h1,h2⟩
theorem aE.get'{F:Hp}:∀ {vs:List V} {ds:List D} {i:Nat} {v:V},aE F vs ds->vs[i]?=some v->∃d,ds[i]?=some d/\Rep F v d
 | _,_,_,_,.nil,e=>by simp at e
 | _,_,0,_,.cons h _,e=>by simp at e;subst e;exact⟨_,by simp,h⟩
 | _,_,i+1,_,.cons _ r,e=>by
  obtain⟨v,h1,h2⟩:=aE.get' (i:=i) r (by simpa using e)
  exact⟨v,by simpa using h1,h2⟩
theorem aE.set{F:Hp}{v:V}{d:D}(h:Rep F v d):∀ {vs:List V} {ds:List D} (i:Nat),aE F vs ds->aE F (vs.set i v) (ds.set i d)
 | _,_,_,.nil=>.nil
 | _,_,0,.cons _ t=>.cons h t
 | _,_,i+1,.cons q t=>.cons q (aE.set h i t)
theorem aE.take{F:Hp}:∀ {vs:List V} {ds:List D} (n:Nat),aE F vs ds->aE F (vs.take n) (ds.take n)
 | _,_,0,_=>.nil
 | _,_,_+1,.nil=>.nil
 | _,_,n+1,.cons h r=>.cons h (aE.take n r)
theorem aE.drop{F:Hp}:∀ {vs:List V} {ds:List D} (n:Nat),aE F vs ds->aE F (vs.drop n) (ds.drop n)
 | _,_,0,r=>r
 | _,_,_+1,.nil=>.nil
 | _,_,n+1,.cons _ r=>aE.drop n r
theorem aE.rep{F:Hp}{vs:List V}{ds:List D}(r:aE F vs ds):∀n:Nat,aE F (List.replicate n vs).flatten (List.replicate n ds).flatten
 | 0=>.nil
 | n+1=>by
  rw[List.replicate_succ,List.replicate_succ,List.flatten_cons,List.flatten_cons];exact r.append (aE.rep r n)
def bU(F H:Hp)(v:V)(d:D):Prop:=match d with
 | .lst xs=>∃a vs,v=.ref a/\Rd H a (.lst vs)/\aE F vs xs
 | .mZ kvs=>∃a ks,v=.ref a/\Rd H a (.dK ks)/\cg F ks kvs
 | .kp w c e kvs=>∃a dx ad ks,v=.ref a/\H a=some (.ins (KF.cls "Kept") dx (kpF w c e ad))/\Rd H ad (.dK ks)/\cg F ks kvs
 | d=>Rep F v d
theorem aI{H:Hp}{p:Addr}{o:HO}(h:H p=none):ao H (upd H p o):=λb u e=>by
 rw[aq (bN e h)];exact e
theorem lA{F H:Hp}(s:ao F H){a:Addr}{o:HO}(e:H a=some o):∃F',ao F F'/\ao F' H/\F' a=some o/\∀c u,F' c=some u->F c=some u\/(c=a/\u=o):=by
 cases ef:F a with
 | none =>
  refine⟨upd F a o,aI ef,λb u q=>?_,aB,λc u q=>?_⟩
  ·by_cases hb:b=a
   ·subst hb;rw[aB]at q;cases q;exact e
   ·rw[aq hb]at q;exact s b u q
  ·by_cases hb:c=a
   ·subst hb;rw[aB]at q;cases q;exact .inr ⟨rfl,rfl⟩
   ·rw[aq hb]at q;exact .inl q
 | some u =>
  have:=s a u ef;rw[e]at this;cases this;exact⟨F,ao.refl _,s,ef,λ_ _ z=>.inl z⟩
def dl:HO->Bool
 | .dK _=>true
 | .ins _ _ _=>true
 | _=>false
structure O where
 fp:Addr->List Addr
 rep:Hp->Hp->Addr->Prop
 solid:∀ {F H:Hp} {a b:Addr} {φ:Heap->Prop},rep F H a->b∈fp a->H b≠some (.ext φ)
 nt:∀ {F H:Hp} {a b:Addr} {vs:List V},rep F H a->b∈fp a->H b≠some (.tup vs)
 mono:∀ {F F' H H':Hp} {a:Addr},ao F F'->(∀b∈fp a,H' b=H b)->rep F H a->rep F' H' a
 /-- what it is as data,where it is that -/
 view:Option D:=none
 sees:∀ {F H:Hp} {a:Addr} {d:D},rep F H a->view=some d->bU F H (.ref a) d:=by intro _ _ _ _ _ e;cases e
 lend:∀ {F H:Hp} {a:Addr} {d:D},ao F H->rep F H a->view=some d->∃F',ao F F'/\ao F' H/\Rep F' (.ref a) d/\∀c u,F' c=some u->F c=some u\/(dl u=true/\c∈fp a):=by intro _ _ _ _ _ _ e;cases e
 /-- what it is as data when it is lent as a whole -/
 deep:Option D:=none
 IP:∀ {F H:Hp} {a:Addr} {d:D},ao F H->rep F H a->deep=some d->∃F',ao F F'/\ao F' H/\Rep F' (.ref a) d:=by intro _ _ _ _ _ _ e;cases e
 /-- where it stands -/
 loc:Option Addr:=none
 Yx:∀ {F H:Hp} {a b:Addr},rep F H a->loc=some b->a=b:=by intro _ _ _ _ _ e;cases e
inductive B where
 | sh (d:D)
 | own (xs:List D)
 | obj (o:O)
abbrev Sd:=List (Option B)
structure bC where
 H0:Hp
 F0:Hp
 io:List (Nat×Addr)
 /-- the addresses of things that were handed in to be changed -/
 ob:List Addr
def bC.Tw(Y:bC):List Addr:=Y.io.map (·.2)
def bC.Cp(Y:bC):List Addr:=Y.io.map (·.2)++Y.ob
theorem bC.xg{Y:bC}{a:Addr}(h:a∉Y.Cp):a∉Y.Tw:=λz=>h (List.mem_append_left _ z)
def gb(ak:Sd)(σ:St)(b:Addr):Prop:=∃(i:Nat) (o:O) (a:Addr),ak[i]?=some (some (.obj o))/\σ[i]?=some (some (.ref a))/\b∈o.fp a
def jq(F:Hp):Prop:=∀q∈KF.tabs,F q.1=some (.lam q.2.1 q.2.2.1 q.2.2.2)
theorem jq.mono{F F':Hp}(h:jq F)(s:ao F F'):jq F':=λq hq=>s _ _ (h q hq)
def rR(F H:Hp):Prop:=ao F H/\jq F
structure rO(Y:bC)(F:Hp)(ak:Sd)(σ:St)(H:Hp):Prop where
 obj:∀(i:Nat) (o:O),ak[i]?=some (some (.obj o))->∃a,σ[i]?=some (some (.ref a))/\o.rep F H a/\∀b∈o.fp a,F b=none/\H b≠none/\(Y.H0 b=none\/b∈Y.ob)
 yz:∀(i j:Nat) (o p:O) (a b:Addr),ak[i]?=some (some (.obj o))->ak[j]?=some (some (.obj p))->σ[i]?=some (some (.ref a))->σ[j]?=some (some (.ref b))->i≠j->∀c∈o.fp a,c∉p.fp b
 ju:∀(j:Nat) (xs:List D) (b:Addr),ak[j]?=some (some (.own xs))->σ[j]?=some (some (.ref b))->¬gb ak σ b
 there:∀b∈Y.ob,H b≠none
 QB:∀b∈Y.ob,Y.H0 b≠none
 tab:jq F
theorem rO.owned{Y:bC}{F:Hp}{ak:Sd}{σ:St}{H:Hp}(X:rO Y F ak σ H){b:Addr}(h:gb ak σ b):F b=none/\H b≠none/\(Y.H0 b=none\/b∈Y.ob):=by
 obtain⟨i,o,a,e1,e2,hb⟩:=h;obtain⟨a',e3,_,h3⟩:=X.obj i o e1;rw[e2]at e3;cases e3;exact h3 b hb
theorem rO.IY{Y:bC}{F:Hp}{ak:Sd}{σ:St}{H:Hp}(X:rO Y F ak σ H){b:Addr}(h:gb ak σ b){vs:List V}:H b≠some (.tup vs):=by
 obtain⟨i,o,a,e1,e2,hb⟩:=h;obtain⟨a',e3,h2,_⟩:=X.obj i o e1;rw[e2]at e3;cases e3;exact o.nt h2 hb
theorem rO.step{Y Y':bC}{F F':Hp}{ak aG:Sd}{σ bB:St}{H H':Hp}(X:rO Y F ak σ H)(hs:ao F F')
  (Qt:∀(i:Nat) (o:O),aG[i]?=some (some (.obj o))->ak[i]?=some (some (.obj o))/\bB[i]?=σ[i]?)
  (hb:∀b,gb ak σ b->H' b=H b/\F' b=none/\(Y'.H0 b=none\/b∈Y'.ob))
  (X1:∀(j:Nat) (ys:List D) (b:Addr),aG[j]?=some (some (.own ys))->bB[j]?=some (some (.ref b))->¬gb ak σ b)
  (Ye:∀b∈Y'.ob,H' b≠none) (hz:∀b∈Y'.ob,b∈Y.ob/\(Y.H0 b≠none->Y'.H0 b≠none):=by exactλb hb=>⟨hb,id⟩):rO Y' F' aG bB H' where
 obj:=λi o e=>by
  obtain⟨e1,e2⟩:=Qt i o e;obtain⟨a,h1,h2,h3⟩:=X.obj i o e1;have ow:∀b∈o.fp a,gb ak σ b:=λb z=>⟨i,o,a,e1,h1,z⟩;refine⟨a,by rw[e2];exact h1,o.mono hs (λb z=>(hb b (ow b z)).1) h2,λb z=>⟨(hb b (ow b z)).2.1,?_,(hb b (ow b z)).2.2⟩⟩
  rw[(hb b (ow b z)).1];exact(h3 b z).2.1
 yz:=λi j o p a b e1 e2 e3 e4=>by
  obtain⟨q1,q2⟩:=Qt i o e1;obtain⟨q3,q4⟩:=Qt j p e2;rw[q2]at e3;rw[q4]at e4;exact X.yz i j o p a b q1 q3 e3 e4
 ju:=λj xs b e1 e2 ⟨i,o,a,e3,e4,hm⟩=>by
  obtain⟨q1,q2⟩:=Qt i o e3;rw[q2]at e4;exact X1 j xs b e1 e2 ⟨i,o,a,q1,e4,hm⟩
 there:=Ye
 QB:=λb hb=>(hz b hb).2 (X.QB b (hz b hb).1)
 tab:=X.tab.mono hs
theorem rO.put{Y:bC}{F:Hp}{ak:Sd}{σ bB:St}{H:Hp}{i:Nat}{b':Option B}(X:rO Y F ak σ H)(h1:∀j,j≠i->bB[j]?=σ[j]?)(hn:∀o,b'≠some (.obj o))
  (hw:∀ys a,b'=some (.own ys)->bB[i]?=some (some (.ref a))->¬gb ak σ a):rO Y F (ak.set i b') bB H:=by
 have gs:∀ {j:Nat} {y:Option B},(ak.set i b')[j]?=some y->(j=i/\y=b')\/(j≠i/\ak[j]?=some y):=λ{j y} h=>by
  by_cases hj:j=i
  ·subst hj
   by_cases hl:j<ak.length
   ·rw[List.getElem?_set_self hl]at h;exact .inl ⟨rfl,(Option.some.inj h).symm⟩
   ·have:(ak.set j b')[j]?=none:=by rw[List.getElem?_eq_none_iff];simp;omega
    rw[this]at h;cases h
  ·rw[List.getElem?_set_ne (Ne.symm hj)]at h;exact .inr ⟨hj,h⟩
 refine X.step (ao.refl _) (λj o e=>?_) (λb hb=>⟨rfl,(X.owned hb).1,(X.owned hb).2.2⟩) (λj ys b e1 e2=>?_) X.there
 ·rcases gs e with⟨_,z⟩|⟨hj,z⟩
  ·exact absurd z.symm (hn o)
  ·exact⟨z,h1 j hj⟩
 ·rcases gs e1 with⟨rfl,z⟩|⟨hj,z⟩
  ·exact hw ys b z.symm e2
  ·rw[h1 j hj]at e2;exact X.ju j ys b z e2
theorem rO.none{Y:bC}{F:Hp}{ak:Sd}{σ:St}{H:Hp}(h:∀(i:Nat) (o:O),ak[i]?≠some (some (.obj o)))(Yd:jq F)(Ye:∀b∈Y.ob,H b≠none)(hz:∀b∈Y.ob,Y.H0 b≠none:=by intro b hb;cases hb):rO Y F ak σ H where
 QB:=hz
 tab:=Yd
 obj:=λi o e=>absurd e (h i o)
 yz:=λi _ o _ _ _ e=>absurd e (h i o)
 ju:=λ_ _ _ _ _ ⟨i,o,_,e,_⟩=>h i o e
 there:=Ye
def Nw(H:Hp)(b:Addr)(o:HO):Prop:=H b=none\/∃vs,o=.tup vs
structure RS(Y:bC)(F:Hp)(ak:Sd)(σ:St)(H:Hp):Prop where
 len:ak.length=σ.length
 lo:ao Y.F0 F
 fr:ao F H
 fh:∀b o,F b=some o->Y.F0 b=some o\/Nw Y.H0 b o
 old:∀b o,Y.H0 b=some o->b∉Y.Cp->H b=some o
 sh:∀(i:Nat) (d:D),ak[i]?=some (some (.sh d))->∃v,σ[i]?=some (some v)/\Rep F v d
 own:∀(i:Nat) (xs:List D),ak[i]?=some (some (.own xs))->∃a vs,σ[i]?=some (some (.ref a))/\H a=some (.lst vs)/\aE F vs xs/\F a=none/\(Y.H0 a=none\/a∈Y.Tw)
 dis:∀(i j:Nat) (xs ys:List D) (a:Addr),ak[i]?=some (some (.own xs))->ak[j]?=some (some (.own ys))->σ[i]?=some (some (.ref a))->σ[j]?=some (some (.ref a))->i=j
 io:∀p∈Y.io,σ[p.1]?=some (some (.ref p.2))/\∃xs,ak[p.1]?=some (some (.own xs))
 ob:rO Y F ak σ H
theorem DG{F H:Hp}{p:Addr}{o:HO}(s:ao F H):ao (upd F p o) (upd H p o):=λb u e=>by
 by_cases hb:b=p
 ·subst hb;rw[aB]at e ⊢;exact e
 ·rw[aq hb]at e ⊢;exact s b u e
theorem same_none{F H:Hp}(s:ao F H){p:Addr}(h:H p=none):F p=none:=s.free h
theorem RS.b7{Y:bC}{F:Hp}{ak:Sd}{σ:St}{H:Hp}{p:Addr}(R:RS Y F ak σ H)(h:H p=none):Y.H0 p=none/\p∉Y.Cp:=by
 have dk:p∉Y.Cp:=λhm=>by
  rcases List.mem_append.mp hm with hm|hm
  case inr=>exact R.ob.there p hm h
  obtain⟨q,hq,e⟩:=List.mem_map.mp hm;obtain⟨h1,xs,h2⟩:=R.io q hq;obtain⟨a,vs,h3,h4,_⟩:=R.own _ _ h2;rw[h1]at h3;cases h3;rw[e,h]at h4;cases h4
 refine⟨?_,dk⟩;cases e:Y.H0 p with
 | none=>rfl
 | some o=>rw[R.old p o e dk]at h;cases h
theorem RS.alloc{Y:bC}{F:Hp}{ak:Sd}{σ:St}{H:Hp}{p:Addr}{o:HO}(R:RS Y F ak σ H)(h:H p=none):RS Y (upd F p o) ak σ (upd H p o) where
 len:=R.len
 lo:=R.lo.trans (aI (same_none R.fr h))
 fr:=DG R.fr
 fh:=λb u e=>by
  by_cases hb:b=p
  ·subst hb;exact .inr (.inl (R.b7 h).1)
  ·rw[aq hb]at e;exact R.fh b u e
 old:=λb u e n=>by
  have:=R.old b u e n;rw[aq (bN this h)];exact this
 sh:=λi d e=>by
  obtain⟨v,h1,h2⟩:=R.sh i d e;exact⟨v,h1,h2.mono (aI (same_none R.fr h))⟩
 own:=λi xs e=>by
  obtain⟨a,vs,h1,h2,h3,h4,h5⟩:=R.own i xs e;have cm:=bN h2 h;exact⟨a,vs,h1,by rw[aq cm];exact h2,h3.mono (aI (same_none R.fr h)),by rw[aq cm];exact h4,h5⟩
 dis:=R.dis
 io:=R.io
 ob:=R.ob.step (aI (same_none R.fr h)) (λi o e=>⟨e,rfl⟩) (λb hb=>by
  obtain⟨w1,w2,w3⟩:=R.ob.owned hb;have cm:b≠p:=λz=>w2 (z ▸ h);exact⟨aq cm,by rw[aq cm];exact w1,w3⟩) (λj ys b e1 e2=>R.ob.ju j ys b e1 e2) λb hb=>by
  have cm:b≠p:=λz=>R.ob.there b hb (z ▸ h);rw[aq cm];exact R.ob.there b hb
theorem RS.gu{Y:bC}{F:Hp}{ak:Sd}{σ:St}{H:Hp}{p:Addr}{o:HO}(R:RS Y F ak σ H)(h:H p=none):RS Y F ak σ (upd H p o) where
 len:=R.len
 lo:=R.lo
 fr:=R.fr.trans (aI h)
 fh:=R.fh
 old:=λb u e n=>aI h b u (R.old b u e n)
 sh:=R.sh
 own:=λi xs e=>by
  obtain⟨a,vs,h1,h2,h3,h4,h5⟩:=R.own i xs e;exact⟨a,vs,h1,aI h a _ h2,h3,h4,h5⟩
 dis:=R.dis
 io:=R.io
 ob:=R.ob.step (ao.refl _) (λi o e=>⟨e,rfl⟩) (λb hb=>by
  obtain⟨w1,w2,w3⟩:=R.ob.owned hb;have cm:b≠p:=λz=>w2 (z ▸ h);exact⟨aq cm,w1,w3⟩) (λj ys b e1 e2=>R.ob.ju j ys b e1 e2) λb hb=>by
  have cm:b≠p:=λz=>R.ob.there b hb (z ▸ h);rw[aq cm];exact R.ob.there b hb
inductive EV where
 | val (d:D)|var (i:Nat)|own (xs:List D)|obj (o:O)|any
inductive OV where
 | val (d:D)|var (i:Nat)|any
abbrev TX:=Sd->(EV->Sd->Prop)->Prop
abbrev TV:=Sd->(OV->Sd->Prop)->Prop
abbrev TD:=Sd->(D->Sd->Prop)->Prop
abbrev TB:=Sd->(Bool->Sd->Prop)->Prop
abbrev eD:=Sd->(List D->Sd->Prop)->Prop
structure cH(ak:Sd)(σ:St)(a:Addr):Prop where
 own:∀(j:Nat) (ys:List D),ak[j]?=some (some (.own ys))->σ[j]?≠some (some (.ref a))
 IW:¬gb ak σ a
instance {ak:Sd} {σ:St} {a:Addr}:CoeFun (cH ak σ a) λ_=>∀(j:Nat) (ys:List D),ak[j]?=some (some (.own ys))->σ[j]?≠some (some (.ref a)):=⟨cH.own⟩
theorem RS.dg{Y:bC}{F:Hp}{ak:Sd}{σ:St}{H:Hp}(R:RS Y F ak σ H){a:Addr}(h:H a=none):cH ak σ a:=by
 refine⟨λj ys e z=>?_,λz=>(R.ob.owned z).2.1 h⟩;obtain⟨b,us,e1,e2,_⟩:=R.own j ys e;rw[e1]at z;cases z;rw[h]at e2;cases e2
def vk(F:Hp)(σ:St)(v:V):OV->Prop
 | .val d=>Rep F v d
 | .var i=>σ[i]?=some (some v)
 | .any=>True
def E8(Y:bC)(F H:Hp)(ak:Sd)(σ:St)(v:V):EV->Prop
 | .val d=>Rep F v d
 | .var i=>σ[i]?=some (some v)
 | .own xs=>∃a vs,v=.ref a/\H a=some (.lst vs)/\aE F vs xs/\F a=none/\Y.H0 a=none/\cH ak σ a
 | .obj o=>∃a,v=.ref a/\o.rep F H a/\∀b∈o.fp a,F b=none/\H b≠none/\Y.H0 b=none/\cH ak σ b
 | .any=>True
def lX(Y:bC)(t:TX):TE:=λσ H Q=>∃F ak Qd,RS Y F ak σ H/\t ak Qd/\∀v H' F' x aG,ao F F'->RS Y F' aG σ H'->E8 Y F' H' aG σ v x->Qd x aG->Q v H'
def lO(Y:bC)(t:TV):TE:=λσ H Q=>∃F ak Qd,RS Y F ak σ H/\t ak Qd/\∀v H' F' x aG,ao F F'->RS Y F' aG σ H'->vk F' σ v x->Qd x aG->Q v H'
def lD(Y:bC)(t:TD):TE:=λσ H Q=>∃F ak Qd,RS Y F ak σ H/\t ak Qd/\∀v H' F' x aG,ao F F'->RS Y F' aG σ H'->Rep F' v x->Qd x aG->Q v H'
def lB(Y:bC)(t:TB):TT:=λσ H Q=>∃F ak Qd,RS Y F ak σ H/\t ak Qd/\∀b H' F' aG,ao F F'->RS Y F' aG σ H'->Qd b aG->Q b H'
def Yq(Y:bC)(t:eD):TA:=λσ H Q=>∃F ak Qd,RS Y F ak σ H/\t ak Qd/\∀vs H' F' xs aG,ao F F'->RS Y F' aG σ H'->aE F' vs xs->Qd xs aG->Q vs H'
structure GE where
 P:Program
 w:World
 K:PySem.W.Frag
 mg:Str->Option Value
 base:Heap
structure Stat where
 N:List Str
 sc:List (Str×NameKind)
 ios:List Nat:=[]
 Ao:Bool:=false
 /-- within an except suite -/
 kE:Bool:=false
 /-- a raise may stand here -/
 rs:Bool:=false
 /-- what is wanted where an exception of a class leaves -/
 ex:Str->Sd->Prop:=λ_ _=>False
def Xo(a T:Addr)(c:Str):HO:=.ext λh=>(∃o vs a0,h.get? a=some o/\o.cls=.ref (KF.cls c)/\o.data=.fields vs/\vs[0]?=some a0/\vs[1]?=some (.ref T))/\F2 a h
def tbO(T:Addr):HO:=.ext λh=>∃o ts,h.get? T=some o/\o.data=.fields ts/\ts[3]?=some .none
structure QO(X:Cx)(Y:bC)(F H:Hp)(a T:Addr)(c:Str):Prop where
 fa:F a=none
 fT:F T=none
 ha:H a=some (Xo a T c)
 hT:H T=some (tbO T)
 ne:a≠T
 na:Y.H0 a=none
 nT:Y.H0 T=none
 la:X.cw.heap.get? a=none
 lT:X.cw.heap.get? T=none
def Yz(a:Addr)(c:Str):HO:=.ext λh=>(∃o vs a0,h.get? a=some o/\o.cls=.ref (KF.cls c)/\o.data=.fields vs/\vs[0]?=some a0/\vs[1]?=some .none)/\F2 a h
structure dA(X:Cx)(G:GE)(k:Nat)(S:Stat)(Y:bC):Prop where
 P:X.prog=G.P
 w:X.w=G.w
 K:X.K=G.K
 kf:X.K=KF.K
 mg:X.mg=G.mg
 base:X.base=G.base
 N:X.N=S.N
 sc:X.env.scope.names=S.sc
 nd:S.N.Nodup
 ios:∀p∈Y.io,p.1∈S.ios
 obs:S.Ao=false->S.ios=[]->Y.ob=[]
 calm:S.kE=false->X.calm=true
 kind:X.env.scope.kind=.function
 fn:S.Ao=false->∀x,S.sc.lookup x=some .cell->X.fn x=true
 hd:S.kE=false->X.A.handled=none
 dp:X.A.depth+3*k+5<recursionLimit
 un:X.A.units+16*k+200<cLine
 po:S.kE=false->PassesOwn (model X.prog X.w) X.A X.env X.xe
 nx:S.Ao=false->X.ex=[]/\X.stack=X.env::X.outer/\X.env.frame=some X.env.locals
 exc:∀c ak,S.ex c ak->∀pins σ H F s a T,L2.Inv X pins σ H s->RS Y F ak σ H->QO X Y F H a T c->X.xe (.ref a) s
 made:S.rs=true->∀c ak,S.ex c ak->∀pins σ H F s a,L2.Inv X pins σ H s->RS Y F ak σ H->H a=some (Yz a c)->Y.H0 a=none->X.cw.heap.get? a=none->X.xe (.ref a) s
 hx:S.kE=true->S.rs=true->∃a c,X.A.handled=some (.ref a)/\Y.F0 a=some (Sf a c)
theorem dA.room{X:Cx}{G:GE}{k:Nat}{S:Stat}{Y:bC}(ok:dA X G k S Y)(h:S.kE=false):fX k X.A:=⟨ok.hd h,ok.dp,ok.un⟩
theorem dA.units{X:Cx}{G:GE}{k:Nat}{S:Stat}{Y:bC}(ok:dA X G k S Y):X.A.units+64<cLine:=by have:=ok.un;omega
variable {G:GE}{k:Nat}{S:Stat}
structure EX(G:GE)(k:Nat)(S:Stat)(e:Expr)(t:TX) :Prop where
 run:∀X Y,dA X G k S Y->PE X e (lX Y t)
instance {G:GE} {k:Nat} {S:Stat} {e:Expr} {t:TX} :CoeFun (EX G k S e t) λ_=>∀X Y,dA X G k S Y->PE X e (lX Y t):=⟨EX.run⟩
structure EO(G:GE)(k:Nat)(S:Stat)(e:Expr)(t:TV) :Prop where
 run:∀X Y,dA X G k S Y->PE X e (lO Y t)
instance {G:GE} {k:Nat} {S:Stat} {e:Expr} {t:TV} :CoeFun (EO G k S e t) λ_=>∀X Y,dA X G k S Y->PE X e (lO Y t):=⟨EO.run⟩
structure ED(G:GE)(k:Nat)(S:Stat)(e:Expr)(t:TD) :Prop where
 run:∀X Y,dA X G k S Y->PE X e (lD Y t)
instance {G:GE} {k:Nat} {S:Stat} {e:Expr} {t:TD} :CoeFun (ED G k S e t) λ_=>∀X Y,dA X G k S Y->PE X e (lD Y t):=⟨ED.run⟩
structure EB(G:GE)(k:Nat)(S:Stat)(e:Expr)(t:TB) :Prop where
 run:∀X Y,dA X G k S Y->PT X e (lB Y t)
instance {G:GE} {k:Nat} {S:Stat} {e:Expr} {t:TB} :CoeFun (EB G k S e t) λ_=>∀X Y,dA X G k S Y->PT X e (lB Y t):=⟨EB.run⟩
structure vf(G:GE)(k:Nat)(S:Stat)(es:List Expr)(t:eD) :Prop where
 run:∀X Y,dA X G k S Y->PA X es (Yq Y t)
instance {G:GE} {k:Nat} {S:Stat} {es:List Expr} {t:eD} :CoeFun (vf G k S es t) λ_=>∀X Y,dA X G k S Y->PA X es (Yq Y t):=⟨vf.run⟩
def NV:Expr->Bool
 | .Starred _ _=>false
 | _=>true
theorem iW{e:Expr}{es:List Expr}{env:Env}(h:NV e=true):starEach (e::es) env=(false,eval e env)::starEach es env:=by
 cases e<;>first|rfl|cases h
theorem aP{X:Cx}{e:Expr}{t t':TE}(h:PE X e t)(i:∀σ H Q,t' σ H Q->t σ H Q):PE X e t':=λpins s σ H Q I q=>h pins s σ H Q I (i σ H Q q)
theorem vY{X:Cx}{e:Expr}{t t':TT}(h:PT X e t)(i:∀σ H Q,t' σ H Q->t σ H Q):PT X e t':=λpins s σ H Q I q=>h pins s σ H Q I (i σ H Q q)
theorem qe{X:Cx}{e:List Expr}{t t':TA}(h:PA X e t)(i:∀σ H Q,t' σ H Q->t σ H Q):PA X e t':=λpos pins s σ H Q I q=>h pos pins s σ H Q I (i σ H Q q)
theorem cX{X:Cx}{e:Stmt}{t t':TS}(h:PS X e t)(i:∀D σ H,t' D σ H->t D σ H):PS X e t':=λpins s σ H D I q=>h pins s σ H D I (i D σ H q)
theorem ql{X:Cx}{e:List Stmt}{t t':TS}(h:nu X e t)(i:∀D σ H,t' D σ H->t D σ H):nu X e t':=λpins s σ H D I q=>h pins s σ H D I (i D σ H q)
theorem RS.yF{Y:bC}{F:Hp}{ak:Sd}{σ:St}{H:Hp}{a:Addr}{vs:List V}(R:RS Y F ak σ H)(h1:H a=some (.lst vs))(h2:F a=none)(h3:cH ak σ a)(h4:Y.H0 a=none):RS Y (upd F a (.lst vs)) ak σ H where
 len:=R.len
 lo:=R.lo.trans (aI h2)
 fr:=λb o e=>by
  by_cases hb:b=a
  ·subst hb;rw[aB]at e;cases e;exact h1
  ·rw[aq hb]at e;exact R.fr b o e
 fh:=λb u e=>by
  by_cases hb:b=a
  ·subst hb;exact .inr (.inl h4)
  ·rw[aq hb]at e;exact R.fh b u e
 old:=R.old
 sh:=λi d e=>by
  obtain⟨v,q1,q2⟩:=R.sh i d e;exact⟨v,q1,q2.mono (aI h2)⟩
 own:=λi xs e=>by
  obtain⟨b,us,q1,q2,q3,q4,q5⟩:=R.own i xs e;have cm:b≠a:=λz=>h3 i xs e (by rw[q1,z])
  exact⟨b,us,q1,q2,q3.mono (aI h2),by rw[aq cm];exact q4,q5⟩
 dis:=R.dis
 io:=R.io
 ob:=R.ob.step (aI h2) (λi o e=>⟨e,rfl⟩) (λb hb=>by
  obtain⟨w1,w2,w3⟩:=R.ob.owned hb;have cm:b≠a:=λz=>h3.IW (z ▸ hb);exact⟨rfl,by rw[aq cm];exact w1,w3⟩) (λj ys b e1 e2=>R.ob.ju j ys b e1 e2) R.ob.there
def V4:EV->OV
 | .val d=>.val d
 | .var i=>.var i
 | .own xs=>.val (.lst xs)
 | .obj _=>.any
 | .any=>.any
def bf(t:TX):TV:=λσ Q=>t σ λx aw=>Q (V4 x) aw
theorem bp{e:Expr}{t:TX}(h:EX G k S e t):EO G k S e (bf t):=.mk λX Y ok=>aP (h X Y ok) λσ H Q q=>by
 obtain⟨F,ak,Qd,R,q,K⟩:=q;refine⟨F,ak,_,R,q,λv H' F' x aG s R' r q'=>?_⟩;cases x with
 | val d=>exact K v H' F' (.val d) aG s R' r q'
 | var i=>exact K v H' F' (.var i) aG s R' r q'
 | own xs =>
  obtain⟨a,vs,rfl,h1,h2,h3,h4,h5⟩:=r;exact K _ H' _ (.val (.lst xs)) aG (s.trans (aI h3)) (R'.yF h1 h3 h5 h4) (.lst (.inl aB) (h2.mono (aI h3))) q'
 | obj o=>exact K v H' F' .any aG s R' trivial q'
 | any=>exact K v H' F' .any aG s R' trivial q'
def oxV:OV->EV
 | .val d=>.val d
 | .var i=>.var i
 | .any=>.any
def oX(t:TV):TX:=λσ Q=>t σ λx aw=>Q (oxV x) aw
theorem jL{e:Expr}{t:TV}(h:EO G k S e t):EX G k S e (oX t):=.mk λX Y ok=>aP (h X Y ok) λσ H Q q=>by
 obtain⟨F,ak,Qd,R,q,K⟩:=q;refine⟨F,ak,_,R,q,λv H' F' x aG s R' r q'=>?_⟩;cases x with
 | val d=>exact K v H' F' (.val d) aG s R' r q'
 | var i=>exact K v H' F' (.var i) aG s R' r q'
 | any=>exact K v H' F' .any aG s R' trivial q'
theorem aR{α:Type}{l:List (Option α)}{i:Nat}{x:α}{y:Option α}(h:l[i]?=some (some x)):(l.set i y)[i]?=some y:=by
 have:=(List.getElem?_eq_some_iff.mp h).1;rw[List.getElem?_set_self this]
theorem aX{α:Type}{l:List (Option α)}{i j:Nat}{y:Option α}(h:j≠i):(l.set i y)[j]?=l[j]?:=by
 rw[List.getElem?_set_ne (Ne.symm h)]
theorem RS.jw{Y:bC}{F:Hp}{ak:Sd}{σ:St}{H:Hp}{i:Nat}{xs:List D}(R:RS Y F ak σ H)(h:ak[i]?=some (some (.own xs)))(dk:∀p∈Y.io,p.1≠i):
  ∃F' v,ao F F'/\RS Y F' (ak.set i (some (.sh (.lst xs)))) σ H/\σ[i]?=some (some v)/\Rep F' v (.lst xs):=by
 obtain⟨a,vs,q1,q2,q3,q4,q5⟩:=R.own i xs h;have sm:=aI (o:=.lst vs) q4;have rep:Rep (upd F a (.lst vs)) (.ref a) (.lst xs):=.lst (.inl aB) (q3.mono sm);have ME:Y.H0 a=none:=by
  rcases q5 with q5|q5
  ·exact q5
  ·obtain⟨p,hp,e⟩:=List.mem_map.mp q5
   obtain⟨w1,ys,w2⟩:=R.io p hp;exact absurd (R.dis p.1 i ys xs a w2 h (by rw[w1,e]) q1) (dk p hp)
 have obF:rO Y (upd F a (.lst vs)) (ak.set i (some (.sh (.lst xs)))) σ H:=R.ob.step sm (λj o e=>by
  have hj:j≠i:=λz=>by subst z;rw[aR h]at e;cases e
  rw[aX hj]at e;exact⟨e,rfl⟩) (λb hb=>by
  obtain⟨w1,w2,w3⟩:=R.ob.owned hb;have cm:b≠a:=λz=>R.ob.ju i xs a h q1 (z ▸ hb);exact⟨rfl,by rw[aq cm];exact w1,w3⟩) (λj ys b e1 e2=>by
  have hj:j≠i:=λz=>by subst z;rw[aR h]at e1;cases e1
  rw[aX hj]at e1;exact R.ob.ju j ys b e1 e2) R.ob.there
 refine⟨upd F a (.lst vs),.ref a,sm,⟨by simpa using R.len,R.lo.trans sm,λb o e=>?_,λb o e=>?_,R.old,λj d e=>?_,λj ys e=>?_,λj l ys zs b e1 e2 e3 e4=>?_,λp hp=>?_,obF⟩,q1,rep⟩
 ·by_cases hb:b=a
  ·subst hb;rw[aB]at e;cases e;exact q2
  ·rw[aq hb]at e;exact R.fr b o e
 ·by_cases hb:b=a
  ·subst hb;exact .inr (.inl ME)
  ·rw[aq hb]at e;exact R.fh b o e
 ·by_cases hj:j=i
  ·subst hj
   rw[aR h]at e;cases e;exact⟨_,q1,rep⟩
  ·rw[aX hj]at e
   obtain⟨v,w1,w2⟩:=R.sh j d e;exact⟨v,w1,w2.mono sm⟩
 ·have hj:j≠i:=λz=>by subst z;rw[aR h]at e;cases e
  rw[aX hj]at e;obtain⟨b,us,w1,w2,w3,w4,w5⟩:=R.own j ys e;have cm:b≠a:=λz=>hj (R.dis j i ys xs a e h (z ▸ w1) q1);exact⟨b,us,w1,w2,w3.mono sm,by rw[aq cm];exact w4,w5⟩
 ·have hj:j≠i:=λz=>by subst z;rw[aR h]at e1;cases e1
  have hl:l≠i:=λz=>by subst z;rw[aR h]at e2;cases e2
  rw[aX hj]at e1;rw[aX hl]at e2;exact R.dis j l ys zs b e1 e2 e3 e4
 ·obtain⟨w1,ys,w2⟩:=R.io p hp
  exact⟨w1,ys,by rw[aX (dk p hp)];exact w2⟩
def P0(ios:List Nat)(x:OV)(aw:Sd)(Q:D->Sd->Prop):Prop:=match x with
 | .val d=>Q d aw
 | .any=>False
 | .var i=>match aw[i]? with
  | some (some (.own xs))=>i∉ios/\Q (.lst xs) (aw.set i (some (.sh (.lst xs))))
  | some (some (.sh d))=>Q d aw
  | _=>False
theorem je{ios:List Nat}{d:D}{aw:Sd}{Q:D->Sd->Prop}:P0 ios (.val d) aw Q=Q d aw:=rfl
theorem jf{ios:List Nat}{i:Nat}{aw:Sd}{Q:D->Sd->Prop}:P0 ios (.var i) aw Q=(match aw[i]? with
  | some (some (.own xs))=>i∉ios/\Q (.lst xs) (aw.set i (some (.sh (.lst xs))))
  | some (some (.sh d))=>Q d aw
  | _=>False):=rfl
def av(ios:List Nat)(t:TV):TD:=λσ Q=>t σ λx aw=>P0 ios x aw Q
theorem aM{e:Expr}{t:TV}(h:EO G k S e t):ED G k S e (av S.ios t):=.mk λX Y ok=>aP (h X Y ok) λσ H Q q=>by
 obtain⟨F,ak,Qd,R,q,K⟩:=q;refine⟨F,ak,_,R,q,λv H' F' x aG s R' r q'=>?_⟩;cases x with
 | val d=>exact K v H' F' d aG s R' r q'
 | any=>exact False.elim q'
 | var i =>
  have r:σ[i]?=some (some v):=r;rw[jf]at q'
  split at q'
  ·rename_i xs e
   obtain⟨hi,q'⟩:=q';obtain⟨F2,v2,s2,R2,e2,r2⟩:=R'.jw e λp hp z=>hi (z ▸ ok.ios p hp);rw[r]at e2;cases e2;exact K v H' F2 _ _ (s.trans s2) R2 r2 q'
  ·rename_i d e
   obtain⟨v2,e2,r2⟩:=R'.sh i d e;rw[r]at e2;cases e2;exact K v H' F' d aG s R' r2 q'
  ·exact q'.elim
def af(i:Nat):TV:=λσ Q=>match σ[i]? with
 | some (some (.sh d))=>Q (.val d) σ
 | some (some (.own _))=>Q (.var i) σ
 | _=>False
theorem ag(i:Nat){x:Str}{pos:Pos}(hN:S.N[i]?=some x:=by rfl)(hv:S.sc.lookup x=some .local\/S.sc.lookup x=some .cell\/S.sc.lookup x=some .free:=by first|exact Or.inl rfl|exact Or.inr (Or.inl rfl)|exact Or.inr (Or.inr rfl))
  (hd:(x==("__debug__":Str))=false:=by decide) (sV:(x==("__classdict__":Str))=false:=by decide):EO G k S (.Name x pos) (af i):=.mk λX Y ok =>
 aP (qj (X:=X) (i:=i) (by rw[ok.N];exact hN) (by unfold Qh;rw[ok.sc];exact hv) hd sV) λσ H Q q=>by
  obtain⟨F,ak,Qd,R,q,K⟩:=q;unfold af at q
  split at q
  ·rename_i d e
   obtain⟨v,e2,r2⟩:=R.sh i d e;exact⟨v,e2,K v H F (.val d) ak (ao.refl _) R r2 q⟩
  ·rename_i xs e
   obtain⟨a,vs,e2,_⟩:=R.own i xs e;exact⟨_,e2,K _ H F (.var i) ak (ao.refl _) R e2 q⟩
  ·exact q.elim
def bj(d:D):TV:=λσ Q=>Q (.val d) σ
theorem jD{Y:bC}{v:V}{d:D}(r:∀F,Rep F v d)(σ:St)(H:Hp)(Q:VK)(q:lO Y (bj d) σ H Q):tC v σ H Q:=by
 obtain⟨F,ak,Qd,R,q,K⟩:=q;exact K v H F (.val d) ak (ao.refl _) R (r F) q
theorem aA{i j pos}:EO G k S (.Constant (.int i) j pos) (bj (.int i)):=.mk λ_ _ _=>aP NK (jD λ_=>.int i)
theorem zr{b j pos}:EO G k S (.Constant (.bool b) j pos) (bj (.bl b)):=.mk λ_ _ _=>aP UU (jD λ_=>.bl b)
theorem uf{j pos}:EO G k S (.Constant .none j pos) (bj .bx):=.mk λ_ _ _=>aP NM (jD λ_=>.bx)
theorem uh{x j pos}:EO G k S (.Constant (.str x) j pos) (bj (.str x)):=.mk λ_ _ _=>aP NQ (jD λ_=>.str x)
def Jq(G:GE)(x:Str)(d:D):Prop:=∃u v,G.mg x=some u/\RelV v u/\∀F,Rep F v d
theorem cz{X:Cx}{Y:bC}(ok:dA X G k S Y){x:Str}(h:S.sc.lookup x=some .globalImplicit):Gl X x:=by
 unfold Gl;show X.env.scope.names.lookup x=_;rw[ok.sc];exact h
theorem Dv{x:Str}{d:D}{pos:Pos}(h:Jq G x d)(hg:S.sc.lookup x=some .globalImplicit:=by rfl)(hd:(x==("__debug__":Str))=false:=by decide):EO G k S (.Name x pos) (bj d):=.mk λX Y ok=>by
 obtain⟨u,v,h1,h2,h3⟩:=h;exact aP (GA (cz ok hg) (by rw[ok.mg];exact h1) h2 hd) (jD h3)
def dZ(σ:Sd):OV->Option D
 | .val d=>some d
 | .any=>none
 | .var i=>match σ[i]? with
  | some (some (.sh d))=>some d
  | some (some (.own xs))=>some (.lst xs)
  | some (some (.obj o))=>o.view
  | _=>none
theorem Rep.h{F H:Hp}(s:ao F H){v:V}{d:D}(r:Rep F v d):bU F H v d:=by
 cases d with
 | lst xs =>
  cases r with
  | lst h r=>exact⟨_,_,rfl,Rd.mono s h,r⟩
 | mZ kvs =>
  cases r with
  | mZ h r=>exact⟨_,_,rfl,Rd.mono s h,r⟩
 | kp w c e kvs =>
  cases r with
  | kp h1 h2 r=>exact⟨_,_,_,_,rfl,s _ _ h1,Rd.mono s h2,r⟩
 | _=>exact r
theorem RS.dZ{Y:bC}{F:Hp}{ak:Sd}{σ:St}{H:Hp}(R:RS Y F ak σ H){v:V}{x:OV}{d:D}(r:vk F σ v x)(e:dZ ak x=some d):bU F H v d:=by
 cases x with
 | val d'=>cases e;exact Rep.h R.fr r
 | any=>cases e
 | var i =>
  have r:σ[i]?=some (some v):=r;have e:(match ak[i]? with|some (some (.sh d))=>some d|some (some (.own xs))=>some (.lst xs)|some (some (.obj o))=>o.view|_=>none)=some d:=e
  split at e
  ·rename_i d' q
   cases e;obtain⟨v2,e2,r2⟩:=R.sh i d q;rw[r]at e2;cases e2;exact Rep.h R.fr r2
  ·rename_i xs q
   cases e;obtain⟨a,vs,e2,h2,h3,_⟩:=R.own i xs q;rw[r]at e2;cases e2;exact⟨a,vs,rfl,.inl h2,h3⟩
  ·rename_i o q
   obtain⟨a,e2,h2,_⟩:=R.ob.obj i o q;rw[r]at e2;cases e2;exact o.sees h2 e
  ·cases e
theorem bU.int{F H:Hp}{v:V}{i:Int}(r:bU F H v (.int i)):v=.int i:=by cases(show Rep F v (.int i)from r);rfl
theorem bU.bl{F H:Hp}{v:V}{i:Bool}(r:bU F H v (.bl i)):v=.bl i:=by cases(show Rep F v (.bl i)from r);rfl
theorem bU.str{F H:Hp}{v:V}{i:Str}(r:bU F H v (.str i)):v=.str i:=by cases(show Rep F v (.str i)from r);rfl
theorem bU.bx{F H:Hp}{v:V}(r:bU F H v .bx):v=.bx:=by cases(show Rep F v .bx from r);rfl
theorem bU.tup{F H:Hp}(s:ao F H){v:V}{xs:List D}(r:bU F H v (.tup xs)):∃a vs,v=.ref a/\H a=some (.tup vs)/\aE F vs xs:=by
 cases(show Rep F v (.tup xs)from r)with
 | tup h r=>exact⟨_,_,rfl,s _ _ h,r⟩
theorem bU.lst{F H:Hp}{v:V}{xs:List D}(r:bU F H v (.lst xs)):∃a vs,v=.ref a/\Rd H a (.lst vs)/\aE F vs xs:=r
def Goes(Y:bC)(F:Hp)(ak:Sd)(σ:St)(Qd:EV->Prop)(Q:VK):Prop:=∀v H' F' r,ao F F'->RS Y F' ak σ H'->E8 Y F' H' ak σ v r->Qd r->Q v H'
theorem Goes.val{Y:bC}{F:Hp}{ak:Sd}{σ:St}{Qd:EV->Prop}{Q:VK}(g:Goes Y F ak σ Qd Q){H:Hp}(R:RS Y F ak σ H){v:V}{d:D}(r:Rep F v d)(q:Qd (.val d)):Q v H:=g v H F (.val d) (ao.refl _) R r q
theorem Goes.own{Y:bC}{F:Hp}{ak:Sd}{σ:St}{Qd:EV->Prop}{Q:VK}(g:Goes Y F ak σ Qd Q){H:Hp}(R:RS Y F ak σ H){vs:List V}{xs:List D}(r:aE F vs xs)(q:Qd (.own xs)):∀p,H p=none->Q (.ref p) (upd H p (.lst vs)):=λp hp=>by
 refine g (.ref p) _ F (.own xs) (ao.refl _) (R.gu hp) ⟨p,vs,rfl,aB,r,same_none R.fr hp,(R.b7 hp).1,⟨λj ys e z=>?_,λz=>(R.ob.owned z).2.1 hp⟩⟩ q;obtain⟨a,us,e1,e2,_⟩:=R.own j ys e;rw[e1]at z;cases z;rw[hp]at e2;cases e2
theorem Goes.tup{Y:bC}{F:Hp}{ak:Sd}{σ:St}{Qd:EV->Prop}{Q:VK}(g:Goes Y F ak σ Qd Q){H:Hp}(R:RS Y F ak σ H){vs:List V}{xs:List D}(r:aE F vs xs)(q:Qd (.val (.tup xs))):∀p,H p=none->Q (.ref p) (upd H p (.tup vs)):=λp hp=>by
 have sm:=aI (o:=.tup vs) (same_none R.fr hp);exact g (.ref p) _ _ (.val (.tup xs)) sm (R.alloc hp) (.tup aB (r.mono sm)) q
def eI(r:R2)(f:D->D->(EV->Prop)->Prop):Prop:=
 ∀Y F H ak σ v u x y Qd Q,RS Y F ak σ H->bU F H v x->bU F H u y->f x y Qd->Goes Y F ak σ Qd Q->r v u H Q
def aW(f:D->D->(EV->Prop)->Prop)(ta tb:TV):TX:=λσ Q=>ta σ λx aw=>tb aw λy bq=>match dZ bq x,dZ bq y with
 | some a,some b=>f a b λr=>Q r bq
 | _,_=>False
theorem vk.mono{F F':Hp}(s:ao F F'){σ:St}{v:V}{x:OV}(r:vk F σ v x):vk F' σ v x:=by
 cases x with
 | val d=>exact Rep.mono s r
 | var i=>exact r
 | any=>trivial
theorem wg{Y:bC}{r:R2}{f:D->D->(EV->Prop)->Prop}(hs:eI r f){ta tb:TV}{σ:St}{H:Hp}{Q:VK}(q:lX Y (aW f ta tb) σ H Q):Qy r (lO Y ta) (lO Y tb) σ H Q:=by
 obtain⟨F,ak,Qd,R,q,K⟩:=q;refine⟨F,ak,_,R,q,λv1 H1 F1 x aw s1 R1 r1 q1=>?_⟩;refine⟨F1,aw,_,R1,q1,λv2 H2 F2 y bq s2 R2 r2 q2=>?_⟩
 split at q2
 ·rename_i a b ea eb
  exact hs Y F2 H2 bq σ v1 v2 a b _ Q R2 (R2.dZ (r1.mono s2) ea) (R2.dZ r2 eb) q2 λv H' F' r s R' rr qq=>K v H' F' r bq ((s1.trans s2).trans s) R' rr qq
 ·exact q2.elim
theorem mq{op:Operator}{f:D->D->(EV->Prop)->Prop}{r:PySem.W.Frag->R2}(ho:∀X,f9 X (binaryOp op) (r X.K))(hs:∀K,eI (r K) f){a b:Expr}{ta tb:TV}{pos:Pos}(ha:EO G k S a ta)(hb:EO G k S b tb):
  EX G k S (.BinOp a op b pos) (aW f ta tb):=.mk λX Y ok=>aP (UW (ho X) (ha X Y ok) (hb X Y ok)) λσ H Q q=>wg (hs X.K) q
def dw:D->D->(EV->Prop)->Prop
 | .int i,.int j,Q=>Q (.val (.int (i+j)))
 | .str a,.str b,Q=>a.length+b.length<=sizeLine/\Q (.val (.str (a++b)))
 | .lst a,.lst b,Q=>a.length+b.length<=sizeLine/\Q (.own (a++b))
 | .tup a,.tup b,Q=>(a≠[]/\a.length+b.length<=sizeLine)/\Q (.val (.tup (a++b)))
 | _,_,_=>False
def Je:R2:=λx y H Q=>∃l b xs zs,x=.ref l/\y=.ref b/\Rd H l (.lst xs)/\Rd H b (.lst zs)/\xs.length+zs.length<=sizeLine/\∀p,H p=none->Q (.ref p) (upd H p (.lst (xs++zs)))
theorem Inv.Wt{X:Cx}{pins:List (Addr×Obj)}{σ:St}{H:Hp}{s:Shared}{l:Addr}{xs:List V}(I:L2.Inv X pins σ H s)(h:Rd H l (.lst xs)):
  xs.length<=sizeLine/\∃(its:List Value) (n:Nat),Vals xs its/\xs.length=its.length/\s.heap.get? l=some {cls:=.type "list",data:=.seq its.toArray n}:=by
 obtain⟨z,its,n,r,e⟩:=L2.Rd.ok h I.bP;exact⟨z,its,n,r,r.length,e⟩
theorem Gq{X:Cx}:f9 X (binaryOp .Add) Je:=by
 intro pins s σ H x y v u Q I rx ry h;obtain⟨l,b,xs,zs,rfl,rfl,hH,hB,hz,q⟩:=h;cases rx;cases ry;obtain⟨z,its,n,r,hl,e⟩:=Inv.Wt I hH;obtain⟨z2,tf,n2,r2,xa,e2⟩:=Inv.Wt I hB;refine PySem.P.add_list e e2 ?_ (by rw[List.size_toArray,List.size_toArray];omega)
 have ea:its.toArray++tf.toArray=(its++tf).toArray:=by simp
 rw[ea];exact⟨.ref _,_,I.Mx (t':=s.toks) (r.append r2) (by rw[List.length_append];omega),rfl,q _ I.fresh⟩
def GP(K:PySem.W.Frag):R2:=λx y H Q=>(∃i j,x=.int i/\y=.int j/\Q (.int (i+j)) H)\/(∃i j,x=.str i/\y=.str j/\i.length+j.length<=sizeLine/\Q (.str (i++j)) H)\/Je x y H Q\/Jf K x y H Q
theorem zg{X:Cx}:f9 X (binaryOp .Add) (GP X.K):=Ni.or (vP.or (Gq.or Gr))
theorem ym(K:PySem.W.Frag):eI (GP K) dw:=by
 intro Y F H ak σ v u x y Qd Q R rx ry q g;unfold dw at q
 split at q
 ·obtain rfl:=rx.int;obtain rfl:=ry.int
  exact .inl ⟨_,_,rfl,rfl,g.val R (.int _) q⟩
 ·obtain rfl:=rx.str;obtain rfl:=ry.str
  exact .inr (.inl ⟨_,_,rfl,rfl,q.1,g.val R (.str _) q.2⟩)
 ·obtain⟨a,vs,rfl,h1,r1⟩:=rx.lst;obtain⟨b,us,rfl,h2,r2⟩:=ry.lst
  exact .inr (.inr (.inl ⟨a,b,vs,us,rfl,rfl,h1,h2,by rw[r1.length,r2.length];exact q.1,g.own R (r1.append r2) q.2⟩))
 ·have rx':=rx
  obtain⟨a,vs,rfl,h1,r1⟩:=rx.tup R.fr;obtain⟨b,us,rfl,h2,r2⟩:=ry.tup R.fr;refine .inr (.inr (.inr ⟨a,b,vs,us,rfl,rfl,.of h1,.of h2,λz=>?_,by rw[r1.length,r2.length];exact q.1.2,λz=>?_,λ_=>g.tup R (r1.append r2) q.2⟩))
  ·subst z
   cases r1;exact q.1.1 rfl
  ·subst z
   cases r2;rw[List.append_nil]at q;exact g.val R rx' q.2
 ·exact q.elim
theorem cK{a b:Expr}{ta tb:TV}{pos:Pos}(ha:EO G k S a ta)(hb:EO G k S b tb):EX G k S (.BinOp a .Add b pos) (aW dw ta tb):=mq (r:=GP) (λ_=>zg) ym ha hb
def Qu(C:Int->Int->Prop)(g:Int->Int->Int):D->D->(EV->Prop)->Prop
 | .int i,.int j,Q=>C i j/\Q (.val (.int (g i j)))
 | _,_,_=>False
theorem lC{C:Int->Int->Prop}{g:Int->Int->Int}:eI (rI C λi j=>.int (g i j)) (Qu C g):=by
 intro Y F H ak σ v u x y Qd Q R rx ry q gg;unfold Qu at q
 split at q
 ·obtain rfl:=rx.int;obtain rfl:=ry.int
  exact⟨_,_,rfl,rfl,q.1,gg.val R (.int _) q.2⟩
 ·exact q.elim
def FO(g:Int->Int->Int):D->D->(EV->Prop)->Prop
 | .int i,.int j,Q=>Q (.val (.int (g i j)))
 | _,_,_=>False
theorem yM{g:Int->Int->Int}:eI (E1 λi j=>.int (g i j)) (FO g):=by
 intro Y F H ak σ v u x y Qd Q R rx ry q gg;unfold FO at q
 split at q
 ·obtain rfl:=rx.int;obtain rfl:=ry.int
  exact⟨_,_,rfl,rfl,gg.val R (.int _) q⟩
 ·exact q.elim
section
variable {a b:Expr}{ta tb:TV}{pos:Pos}
def gL:=FO λi j=>i-j
def vM:=Qu (λ_ j=>0<j) λi j=>i%j
def vW:=Qu vd λi j=>i^j.toNat
theorem d7(ha:EO G k S a ta)(hb:EO G k S b tb):EX G k S (.BinOp a .Sub b pos) (aW gL ta tb):=mq (r:=λ_=>_) (λ_=>Nr) (λ_=>yM) ha hb
theorem ud(ha:EO G k S a ta)(hb:EO G k S b tb):EX G k S (.BinOp a .Mod b pos) (aW vM ta tb):=mq (r:=λ_=>_) (λ_=>Nm) (λ_=>lC) ha hb
theorem ug(ha:EO G k S a ta)(hb:EO G k S b tb):EX G k S (.BinOp a .Pow b pos) (aW vW ta tb):=mq (r:=λ_=>_) (λ_=>Nq) (λ_=>lC) ha hb
end
def fC:D->D->(EV->Prop)->Prop
 | .int i,.int j,Q=>fj i j/\Q (.val (.int (i*j)))
 | .lst xs,.int j,Q=>(-(2^63)<=j/\j<2^63/\xs.length*j.toNat<=sizeLine)/\Q (.own (List.replicate j.toNat xs).flatten)
 | _,_,_=>False
def Jg:R2:=λx y H Q=>∃l k xs,x=.ref l/\y=.int k/\Rd H l (.lst xs)/\-(2^63)<=k/\k<2^63/\xs.length*k.toNat<=sizeLine /\
 ∀p,H p=none->Q (.ref p) (upd H p (.lst (List.replicate k.toNat xs).flatten))
theorem Gu{X:Cx}:f9 X (binaryOp .Mult) Jg:=by
 intro pins s σ H x y v u Q I rx ry h;obtain⟨l,k,xs,rfl,rfl,hH,h1,h2,hz,q⟩:=h;cases rx;obtain⟨t,rfl⟩:=ry;obtain⟨z,its,n,r,hl,e⟩:=Inv.Wt I hH;have hlen:its.toArray.size*k.toNat<=sizeLine:=by rw[List.size_toArray,<- hl];exact hz
 have XA:¬its.toArray.size*k.toNat>(2^63-1)/8:=by
  have:(sizeLine:Nat)<=(2^63-1)/8:=by decide
  omega
 have XE:¬(!Builtin.List.listFitsIndex k)=true:=by
  rw[fitsIndex_both h1 h2];exact Bool.false_ne_true
 have Cd:¬Builtin.List.listTooLong (its.toArray.size*k.toNat)=true:=by
  rw[tX hlen];exact Bool.false_ne_true
 have Cg:List.foldl (λx1 x2=>x1++x2) #[] (List.replicate (if its.toArray.isEmpty=true then 0 else k.toNat) its.toArray)=(List.replicate k.toNat its).flatten.toArray:=by
  have f0:∀m:Nat,List.foldl (λx1 x2=>x1++x2) #[] (List.replicate m its.toArray)=(List.replicate m its).flatten.toArray:=λm=>by
   have:=foldl_rep its m [];rw[List.nil_append]at this;exact this
  rw[f0];cases its with
  | nil=>simp
  | cons a r'=>rw[if_neg (by simp)]
 refine wpAny_binaryOp_repeat_ref (T:="list") (U:="int") ∅ ⟨_,e,rfl⟩ (λs'=>typeIs_int s' k t) noFill_list_mul F.fills_int_mul F.slot_int_rmul repeat_list F.slot_int_index.lookup
  (call_meets F.slot_int_rmul (typeIs_int s k t) F.entry_int_rmul (F.args_int_rmul_2 _ _) (int___rmul___int_list k t l its.toArray n)
   ⟨e,rfl,⟨_,e,rfl⟩,call_meets F.slot_list_mul ⟨_,e,rfl⟩ F.entry_list_mul (F.args_list_mul_2 _ _) (AutoListH.list___mul___list_int_3 l its.toArray n k t XE XA Cd) ⟨e,?_⟩⟩)
 rw[Cg];exact⟨.ref _,_,I.Mx (t':=s.toks) (r.rep k.toNat) (by rw[len_rep,Nat.mul_comm];exact hz),rfl,q _ I.fresh⟩
def Ve:R2:=λx y H Q=>rI fj (λi j=>.int (i*j)) x y H Q\/Jg x y H Q
theorem y9:eI Ve fC:=by
 intro Y F H ak σ v u x y Qd Q R rx ry q g;unfold fC at q
 split at q
 ·obtain rfl:=rx.int;obtain rfl:=ry.int
  exact .inl ⟨_,_,rfl,rfl,q.1,g.val R (.int _) q.2⟩
 ·obtain⟨a,vs,rfl,h1,r1⟩:=rx.lst;obtain rfl:=ry.int
  exact .inr ⟨a,_,vs,rfl,rfl,h1,q.1.1,q.1.2.1,by rw[r1.length];exact q.1.2.2,g.own R (r1.rep _) q.2⟩
 ·exact q.elim
theorem d6{a b:Expr}{ta tb:TV}{pos:Pos}(ha:EO G k S a ta)(hb:EO G k S b tb):EX G k S (.BinOp a .Mult b pos) (aW fC ta tb):=mq (r:=λ_=>Ve) (λ_=>Nn.or Gu) (λ_=>y9) ha hb
def G9(t:TV):TV:=λσ Q=>t σ λx aw=>match dZ aw x with
 | some (.int i)=>Q (.val (.int (-i))) aw
 | _=>False
theorem Jh{a:Expr}{ta:TV}{pos:Pos}(ha:EO G k S a ta):EO G k S (.UnaryOp .USub a pos) (G9 ta):=.mk λX Y ok=>aP (UX PZ (ha X Y ok)) λσ H Q q=>by
 obtain⟨F,ak,Qd,R,q,K⟩:=q;refine⟨F,ak,_,R,q,λv1 H1 F1 x aw s1 R1 r1 q1=>?_⟩
 split at q1
 ·rename_i i e
  obtain rfl:=(R1.dZ r1 e).int;exact⟨i,rfl,K _ H1 F1 (.val (.int (-i))) aw s1 R1 (.int _) q1⟩
 ·exact q1.elim
end Vc
namespace Vc
open PySem L2
variable [KF]
variable {G:GE}{k:Nat}{S:Stat}
mutual
def kI:D->D->Bool
 | .bx,.bx=>true
 | .bl a,.bl b=>a==b
 | .bl a,.int j=>(if a then 1 else 0)==j
 | .int i,.bl b=>i==(if b then 1 else 0)
 | .int i,.int j=>i==j
 | .str x,.str y=>x==y
 | .lst xs,.lst ys=>m6 xs ys
 | .tup xs,.tup ys=>m6 xs ys
 | _,_=>false
def m6:List D->List D->Bool
 | [],[]=>true
 | x::xs,y::ys=>kI x y&&m6 xs ys
 | _,_=>false
end
def b6:Nat->D->Bool
 | _,.bx=>true
 | _,.bl _=>true
 | _,.int _=>true
 | _,.str x=>x.cps.all (· < 0x110000)
 | n+1,.tup xs=>xs.all (b6 n)
 | n+1,.lst xs=>xs.all (b6 n)
 | _,_=>false
mutual
def toPy:D->PyData
 | .bx=>.none
 | .bl b=>.bool b
 | .int i=>.int i
 | .str x=>.str x
 | .tup xs=>.tuple (eZ xs)
 | .lst xs=>.list (eZ xs)
 | _=>.none
def eZ:List D->List PyData
 | []=>[]
 | x::xs=>toPy x::eZ xs
end
theorem pC{n m:Nat}(ih:∀x y,b6 n x=true->b6 m y=true->kI x y=PyData.eqv (toPy x) (toPy y)):∀xs ys:List D,xs.all (b6 n)=true->ys.all (b6 m)=true->m6 xs ys=PyData.eqvAll (eZ xs) (eZ ys)
 | [],[],_,_=>rfl
 | [],_::_,_,_=>rfl
 | _::_,[],_,_=>rfl
 | x::xs,y::ys,h1,h2=>by
  rw[List.all_cons,Bool.and_eq_true]at h1 h2;show(kI x y&&m6 xs ys)=(PyData.eqv (toPy x) (toPy y)&&PyData.eqvAll (eZ xs) (eZ ys));rw[ih x y h1.1 h2.1,pC ih xs ys h1.2 h2.2]
theorem Bg:∀(n m:Nat) (x y:D),b6 n x=true->b6 m y=true->kI x y=PyData.eqv (toPy x) (toPy y):=by
 intro n
 induction n with
 | zero =>
  intro m x y h1 h2;cases x with
  | tup _=>exact absurd h1 (by simp [b6])
  | lst _=>exact absurd h1 (by simp [b6])
  | dct _=>exact absurd h1 (by simp [b6])
  | exc _=>exact absurd h1 (by simp [b6])
  | fZ _=>exact absurd h1 (by simp [b6])
  | mZ _=>exact absurd h1 (by simp [b6])
  | kp _ _ _ _=>exact absurd h1 (by simp [b6])
  | tk _=>exact absurd h1 (by simp [b6])
  | _=>cases y<;>first|rfl | (cases m<;>exact absurd h2 (by simp [b6]))
 | succ n ih =>
  intro m x y h1 h2;cases x with
  | tup xs =>
   cases y with
   | tup ys =>
    cases m with
    | zero=>exact absurd h2 (by simp [b6])
    | succ m=>exact pC (ih m) xs ys h1 h2
   | _=>first|rfl | (cases m<;>exact absurd h2 (by simp [b6]))
  | lst xs =>
   cases y with
   | lst ys =>
    cases m with
    | zero=>exact absurd h2 (by simp [b6])
    | succ m=>exact pC (ih m) xs ys h1 h2
   | _=>first|rfl | (cases m<;>exact absurd h2 (by simp [b6]))
  | dct _=>exact absurd h1 (by simp [b6])
  | exc _=>exact absurd h1 (by simp [b6])
  | fZ _=>exact absurd h1 (by simp [b6])
  | mZ _=>exact absurd h1 (by simp [b6])
  | kp _ _ _ _=>exact absurd h1 (by simp [b6])
  | tk _=>exact absurd h1 (by simp [b6])
  | _=>cases y<;>first|rfl | (cases m<;>exact absurd h2 (by simp [b6]))
theorem gF{n:Nat}(ih:∀x,b6 n x=true->(toPy x).canLay0=true/\(toPy x).depth<=n):∀xs:List D,xs.all (b6 n)=true->PyData.canLayAll0 (eZ xs)=true/\PyData.depthAll (eZ xs)<=n
 | [],_=>⟨rfl,Nat.zero_le _⟩
 | x::xs,h=>by
  rw[List.all_cons,Bool.and_eq_true]at h;have h1:=ih x h.1;have h2:=gF ih xs h.2;refine⟨?_,?_⟩
  ·show((toPy x).canLay0&&PyData.canLayAll0 (eZ xs))=true
   rw[h1.1,h2.1];rfl
  ·show max (toPy x).depth (PyData.depthAll (eZ xs))<=n
   exact Nat.max_le.mpr ⟨h1.2,h2.2⟩
theorem Gj:∀(n:Nat) (x:D),b6 n x=true->(toPy x).canLay0=true/\(toPy x).depth<=n:=by
 intro n
 induction n with
 | zero =>
  intro x h;cases x with
  | tup _=>exact absurd h (by simp [b6])
  | lst _=>exact absurd h (by simp [b6])
  | dct _=>exact absurd h (by simp [b6])
  | exc _=>exact absurd h (by simp [b6])
  | fZ _=>exact absurd h (by simp [b6])
  | mZ _=>exact absurd h (by simp [b6])
  | kp _ _ _ _=>exact absurd h (by simp [b6])
  | tk _=>exact absurd h (by simp [b6])
  | _=>first|exact⟨rfl,Nat.zero_le _⟩ | (exact⟨by simpa [b6,toPy,PyData.canLay0,PyData.strOk]using h,Nat.zero_le _⟩)
 | succ n ih =>
  intro x h;cases x with
  | tup xs =>
   have:=gF ih xs h;exact⟨this.1,Nat.succ_le_succ this.2⟩
  | lst xs =>
   have:=gF ih xs h;exact⟨this.1,Nat.succ_le_succ this.2⟩
  | dct _=>exact absurd h (by simp [b6])
  | exc _=>exact absurd h (by simp [b6])
  | fZ _=>exact absurd h (by simp [b6])
  | mZ _=>exact absurd h (by simp [b6])
  | kp _ _ _ _=>exact absurd h (by simp [b6])
  | tk _=>exact absurd h (by simp [b6])
  | _=>first|exact⟨rfl,Nat.zero_le _⟩ | (exact⟨by simpa [b6,toPy,PyData.canLay0,PyData.strOk]using h,Nat.zero_le _⟩)
section
variable {P:Program}{w:World}{F H:Hp}{h:Heap}
mutual
theorem Rep.reads(ok:fW P w H h)(s:ao F H):∀ {v:V} {d:D} {u:Value} (n:Nat),Rep F v d->RelV v u->b6 n d=true->∃as,Reads h u (toPy d) as
 | _,_,_,_,.bx,e,_=>by cases e;exact⟨_,.none⟩
 | _,_,_,_,.bl b,e,_=>by cases e;exact⟨_,.bool b⟩
 | _,_,_,_,.int i,e,_=>by obtain⟨t,rfl⟩:=e;exact⟨_,.int i t⟩
 | _,_,_,_,.str x,e,_=>by obtain⟨t,rfl⟩:=e;exact⟨_,.str x t⟩
 | _,_,_,0,.tup _ _,_,o=>by exact absurd o (by simp [b6])
 | _,_,_,0,.lst _ _,_,o=>by exact absurd o (by simp [b6])
 | _,_,_,n+1,.tup (a:=a) (vs:=vs) hf r,e,o=>by
  cases e;obtain⟨_,its,rv,ob,ho,hc,m,hd⟩:=ok a _ (s a _ hf);obtain⟨as,q⟩:=aE.reads ok s n r rv o;exact⟨as,.tuple ho hc hd q⟩
 | _,_,_,n+1,.lst (a:=a) (vs:=vs) hf r,e,o=>by
  cases e;obtain⟨_,its,m,rv,ho⟩:=L2.Rd.ok (Rd.mono s hf) ok;obtain⟨as,q⟩:=aE.reads ok s n r rv o;exact⟨_,.list ho rfl rfl q⟩
 | _,_,_,n,.fZ _,_,o=>by cases n<;>exact absurd o (by simp [b6])
 | _,_,_,n,.exc _,_,o=>by cases n<;>exact absurd o (by simp [b6])
 | _,_,_,n,.KU _ _,_,o=>by cases n<;>exact absurd o (by simp [b6])
 | _,_,_,n,.mZ _ _,_,o=>by cases n<;>exact absurd o (by simp [b6])
 | _,_,_,n,.kp _ _ _,_,o=>by cases n<;>exact absurd o (by simp [b6])
 | _,_,_,n,.tk _,_,o=>by cases n<;>exact absurd o (by simp [b6])
theorem aE.reads(ok:fW P w H h)(s:ao F H):∀ {vs:List V} {ds:List D} {us:List Value} (n:Nat),aE F vs ds->Vals vs us->ds.all (b6 n)=true->∃as,ReadsAll h us (eZ ds) as
 | _,_,_,_,.nil,.nil,_=>⟨_,.nil⟩
 | _,_,_,n,.cons r t,.cons e f,o=>by
  rw[List.all_cons,Bool.and_eq_true]at o;obtain⟨as,h1⟩:=Rep.reads ok s n r e o.1;obtain⟨bs,h2⟩:=aE.reads ok s n t f o.2;exact⟨_,.cons h1 h2⟩
end
theorem bU.reads(ok:fW P w H h)(s:ao F H){v:V}{d:D}{u:Value}(r:bU F H v d)(e:RelV v u)(o:b6 8 d=true):∃as,Reads h u (toPy d) as:=by
 cases d with
 | lst xs =>
  obtain⟨a,vs,rfl,hf,r⟩:=r;cases e;obtain⟨_,its,n,rv,ho⟩:=L2.Rd.ok hf ok;obtain⟨as,q⟩:=aE.reads ok s 7 r rv o;exact⟨_,.list ho rfl rfl q⟩
 | mZ _=>exact absurd o (by simp [b6])
 | kp _ _ _ _=>exact absurd o (by simp [b6])
 | tk _=>exact absurd o (by simp [b6])
 | _=>exact Rep.reads ok s 8 r e o
end
theorem fS{x:D}(h:b6 8 x=true):PySem.SeqAt.shaped (toPy x)=true:=by
 obtain⟨h1,h2⟩:=Gj 8 x h;unfold PySem.SeqAt.shaped;rw[h1,decide_eq_true ⋯];rfl
def GR(neg:Bool):R2:=λv u H Q=>∃F x y,ao F H/\bU F H v x/\bU F H u y/\b6 8 x=true/\b6 8 y=true/\Q (.bl (if neg then !kI x y else kI x y)) H
theorem Nj{X:Cx}(hu:X.A.units+64<cLine):f9 X (compareOp .Eq) (GR false):=by
 intro pins s σ H v u v' u' Q I rv ru h;obtain⟨F,x,y,sm,rx,ry,ox,oy,q⟩:=h;obtain⟨as,r1⟩:=rx.reads I.bP sm rv ox;obtain⟨bs,r2⟩:=ry.reads I.bP sm ru oy;refine PyProof.Rows.eq_dataH r1 r2 (fS ox) (fS oy) hu ⟨.bl (kI x y),H,I,?_,q⟩;rw[Bg 8 8 x y ox oy];rfl
theorem Np{X:Cx}(hu:X.A.units+64<cLine):f9 X (compareOp .NotEq) (GR true):=by
 intro pins s σ H v u v' u' Q I rv ru h;obtain⟨F,x,y,sm,rx,ry,ox,oy,q⟩:=h;obtain⟨as,r1⟩:=rx.reads I.bP sm rv ox;obtain⟨bs,r2⟩:=ry.reads I.bP sm ru oy;refine PyProof.Rows.ne_dataH r1 r2 (fS ox) (fS oy) hu ⟨.bl (!kI x y),H,I,?_,q⟩;rw[Bg 8 8 x y ox oy];rfl
end Vc
namespace Vc
open PySem L2
variable [KF]
variable {G:GE}{k:Nat}{S:Stat}
def kU(r:R2)(f:D->D->(Bool->Prop)->Prop):Prop:=
 ∀Y F H ak σ v u x y (Qd:Bool->Prop) (Q:VK),RS Y F ak σ H->bU F H v x->bU F H u y->f x y Qd->(∀b,Qd b->Q (.bl b) H)->r v u H Q
def a8(f:D->D->(Bool->Prop)->Prop)(ta tb:TV):TB:=λσ Q=>ta σ λx aw=>tb aw λy bq=>match dZ bq x,dZ bq y with
 | some a,some b=>f a b λr=>Q r bq
 | _,_=>False
def bV(t:TB):TV:=λσ Q=>t σ λb aw=>Q (.val (.bl b)) aw
theorem nG{Y:bC}{r:R2}{f:D->D->(Bool->Prop)->Prop}(hs:kU r f){ta tb:TV}{σ:St}{H:Hp}{Q:VK}{F:Hp}{ak:Sd}{Qd:Bool->Sd->Prop}(R:RS Y F ak σ H)(q:a8 f ta tb ak Qd)
  (K:∀b H' F' aG,ao F F'->RS Y F' aG σ H'->Qd b aG->Q (.bl b) H'):Qy r (lO Y ta) (lO Y tb) σ H Q:=by
 refine⟨F,ak,_,R,q,λv1 H1 F1 x aw s1 R1 r1 q1=>?_⟩;refine⟨F1,aw,_,R1,q1,λv2 H2 F2 y bq s2 R2 r2 q2=>?_⟩
 split at q2
 ·rename_i a b ea eb
  exact hs Y F2 H2 bq σ v1 v2 a b _ Q R2 (R2.dZ (r1.mono s2) ea) (R2.dZ r2 eb) q2 λc qc=>K c H2 F2 bq (s1.trans s2) R2 qc
 ·exact q2.elim
def kT(G:GE)(k:Nat)(S:Stat)(op:CmpOp)(f:D->D->(Bool->Prop)->Prop):Prop:=∃r:R2,(∀X Y,dA X G k S Y->f9 X (compareOp op) r)/\kU r f
theorem bz{op:CmpOp}{f:D->D->(Bool->Prop)->Prop}(h:kT G k S op f){a b:Expr}{ta tb:TV}{pos:Pos}(ha:EO G k S a ta)(hb:EO G k S b tb)(hm:behindInMarks op b=false:=by first|exact CK _|with_unfolding_all rfl):
  EB G k S (.Compare a [op] [b] pos) (a8 f ta tb):=.mk λX Y ok=>by
 obtain⟨r,ho,hs⟩:=h;refine vY (GN (ho X Y ok) (ha X Y ok) (hb X Y ok) hm) λσ H Q q=>?_;obtain⟨F,ak,Qd,R,q,K⟩:=q;exact nG hs R q λb H' F' aG s R' qq=>⟨b,rfl,K b H' F' aG s R' qq⟩
theorem eX{op:CmpOp}{f:D->D->(Bool->Prop)->Prop}(h:kT G k S op f){a b:Expr}{ta tb:TV}{pos:Pos}(ha:EO G k S a ta)(hb:EO G k S b tb)(hm:behindInMarks op b=false:=by first|exact CK _|with_unfolding_all rfl):
  EO G k S (.Compare a [op] [b] pos) (bV (a8 f ta tb)):=.mk λX Y ok=>by
 obtain⟨r,ho,hs⟩:=h;refine aP (Gz (ho X Y ok) (ha X Y ok) (hb X Y ok) hm) λσ H Q q=>?_;obtain⟨F,ak,Qd,R,q,K⟩:=q;exact nG hs R q λb H' F' aG s R' qq=>K _ H' F' (.val (.bl b)) aG s R' (.bl b) qq
def eqT(x y:D)(Q:Bool->Prop):Prop:=(b6 8 x=true/\b6 8 y=true)/\Q (kI x y)
def neT(x y:D)(Q:Bool->Prop):Prop:=(b6 8 x=true/\b6 8 y=true)/\Q (!kI x y)
theorem jr:kT G k S .Eq eqT:=⟨GR false,λX Y ok=>Nj ok.units,λY F H ak σ v u x y Qd Q R rx ry q K=>⟨F,x,y,R.fr,rx,ry,q.1.1,q.1.2,K _ q.2⟩⟩
theorem mW:kT G k S .NotEq neT:=⟨GR true,λX Y ok=>Np ok.units,λY F H ak σ v u x y Qd Q R rx ry q K=>⟨F,x,y,R.fr,rx,ry,q.1.1,q.1.2,K _ q.2⟩⟩
def L3(p:Int->Int->Bool):D->D->(Bool->Prop)->Prop
 | .int i,.int j,Q=>Q (p i j)
 | _,_,_=>False
theorem fM{p:Int->Int->Bool}:kU (E1 λi j=>.bl (p i j)) (L3 p):=λY F H ak σ v u x y Qd Q R rx ry q K=>by
 unfold L3 at q
 split at q
 ·obtain rfl:=rx.int;obtain rfl:=ry.int
  exact⟨_,_,rfl,rfl,K _ q⟩
 ·exact q.elim
def MA:=L3 λi j=>decide (i<j)
def T3:=L3 λi j=>decide (i<=j)
def SJ:=L3 λi j=>decide (j<i)
def Xr:=L3 λi j=>decide (j<=i)
theorem J8:kT G k S .Lt MA:=⟨_,λ_ _ _=>UN,fM⟩
theorem J7:kT G k S .LtE T3:=⟨_,λ_ _ _=>IZ,fM⟩
theorem J5:kT G k S .Gt SJ:=⟨_,λ_ _ _=>UM,fM⟩
theorem W5:kT G k S .GtE Xr:=⟨_,λ_ _ _=>UL,fM⟩
def isNone:D->Bool
 | .bx=>true
 | _=>false
def Tx(x y:D)(Q:Bool->Prop):Prop:=isNone y=true/\Q (isNone x)
theorem bU.isNone{F H:Hp}{v:V}{x:D}(r:bU F H v x):decide (v=.bx)=isNone x:=by
 cases x with
 | lst xs=>obtain⟨a,vs,rfl,_⟩:=r;rfl
 | dct _=>cases(show Rep F v (.dct _)from r);rfl
 | exc _=>cases(show Rep F v (.exc _)from r);rfl
 | fZ _=>cases(show Rep F v (.fZ _)from r);rfl
 | mZ _=>obtain⟨a,ks,rfl,_⟩:=r;rfl
 | kp _ _ _ _=>obtain⟨a,dx,ad,ks,rfl,_⟩:=r;rfl
 | bx=>obtain rfl:=r.bx;rfl
 | bl _=>obtain rfl:=r.bl;rfl
 | int _=>obtain rfl:=r.int;rfl
 | tk _=>cases(show Rep F v (.tk _)from r);rfl
 | str _=>obtain rfl:=r.str;rfl
 | tup _=>cases(show Rep F v (.tup _)from r);rfl
theorem bU.MH{F H:Hp}{v:V}{x:D}(r:bU F H v x)(h:Vc.isNone x=true):v=.bx:=by
 cases x<;>first|exact r.bx|cases h
theorem J6:kT G k S .Is Tx:=⟨_,λ_ _ _=>Nk,λY F H ak σ v u x y Qd Q R rx ry q K=>⟨ry.MH q.1,by rw[rx.isNone];exact K _ q.2⟩⟩
def PQ:D->(Bool->Prop)->Prop
 | .bx,Q=>Q false
 | .bl b,Q=>Q b
 | .int i,Q=>Q (i != 0)
 | .lst xs,Q=>Q (!xs.isEmpty)
 | .tup xs,Q=>Q (!xs.isEmpty)
 | _,_=>False
def uG(t:TV):TB:=λσ Q=>t σ λx aw=>match dZ aw x with
 | some d=>PQ d λb=>Q b aw
 | none=>False
theorem ip{F:Hp}{vs:List V}{xs:List D}(r:aE F vs xs):(!xs.isEmpty)=!vs.isEmpty:=by cases r<;>rfl
theorem jK{e:Expr}{t:TV}(h:EO G k S e t)(he:∀env whole,isTrue e env whole=(do let v <- whole;standAt e.pos;holding [v] (truthy v)):=by intro _ _;rfl):EB G k S e (uG t):=.mk λX Y ok=>by
 refine vY (Dp (h X Y ok) (he _)) λσ H Q q=>?_;obtain⟨F,ak,Qd,R,q,K⟩:=q;refine⟨F,ak,_,R,q,λv1 H1 F1 x aw s1 R1 r1 q1=>?_⟩
 split at q1
 ·rename_i d ed
  have r:=R1.dZ r1 ed;unfold PQ at q1
  split at q1
  ·obtain rfl:=r.bx;exact⟨false,rfl,K _ H1 F1 aw s1 R1 q1⟩
  ·rename_i b;obtain rfl:=r.bl;exact⟨b,rfl,K _ H1 F1 aw s1 R1 q1⟩
  ·rename_i i;obtain rfl:=r.int;exact⟨_,rfl,K _ H1 F1 aw s1 R1 q1⟩
  ·rename_i xs;obtain⟨a,vs,rfl,h1,h2⟩:=r.lst
   exact⟨!xs.isEmpty,.inl ⟨vs,.inl h1,ip h2⟩,K _ H1 F1 aw s1 R1 q1⟩
  ·rename_i xs;obtain⟨a,vs,rfl,h1,h2⟩:=r.tup R1.fr
   exact⟨!xs.isEmpty,.inr (.inl ⟨vs,.inl (.inl h1),ip h2⟩),K _ H1 F1 aw s1 R1 q1⟩
  ·exact q1.elim
 ·exact q1.elim
def fH(t u:TB):TB:=λσ Q=>t σ λc aw=>if c=true then u aw Q else Q false aw
def DS(t u:TB):TB:=λσ Q=>t σ λc aw=>if c=true then Q true aw else u aw Q
def mO(t:TB):TB:=λσ Q=>t σ λc aw=>Q (!c) aw
structure EW(G:GE)(k:Nat)(S:Stat)(e:Expr)(t:TB) :Prop where
 run:∀X Y,dA X G k S Y->PW X e (lB Y t)
instance {G:GE} {k:Nat} {S:Stat} {e:Expr} {t:TB} :CoeFun (EW G k S e t) λ_=>∀X Y,dA X G k S Y->PW X e (lB Y t):=⟨EW.run⟩
theorem pw_imp{X:Cx}{e:Expr}{t t':TT}(h:PW X e t)(i:∀σ H Q,t' σ H Q->t σ H Q):PW X e t':=λwh pins s σ H Q I q=>h wh pins s σ H Q I (i σ H Q q)
section
variable {a b:Expr}{rest:List Expr}{ta tb:TB}{pos:Pos}
theorem Qw(h:EW G k S a ta):EB G k S a ta:=.mk λX Y ok=>(h X Y ok).pt
theorem vZ(ha:EB G k S a ta):EW G k S (.BoolOp .And [a] pos) ta:=.mk λX Y ok=>pw_and1 (ha X Y ok)
theorem Dz(ha:EB G k S a ta):EW G k S (.BoolOp .Or [a] pos) ta:=.mk λX Y ok=>pw_or1 (ha X Y ok)
theorem xG(ha:EB G k S a ta)(hb:EW G k S (.BoolOp .And (b::rest) pos) tb):EW G k S (.BoolOp .And (a::b::rest) pos) (fH ta tb):=.mk λX Y ok=>pw_imp (pw_and (ha X Y ok) (hb X Y ok)) λσ H Q q=>by
 obtain⟨F,ak,Qd,R,q,K⟩:=q;refine⟨F,ak,_,R,q,λc H1 F1 aw s1 R1 q1=>?_⟩;cases c with
 | true=>exact⟨F1,aw,Qd,R1,q1,λb H' F' aG s R' qq=>K b H' F' aG (s1.trans s) R' qq⟩
 | false=>exact K false H1 F1 aw s1 R1 q1
theorem Ot(ha:EB G k S a ta)(hb:EW G k S (.BoolOp .Or (b::rest) pos) tb):EW G k S (.BoolOp .Or (a::b::rest) pos) (DS ta tb):=.mk λX Y ok=>pw_imp (pw_or (ha X Y ok) (hb X Y ok)) λσ H Q q=>by
 obtain⟨F,ak,Qd,R,q,K⟩:=q;refine⟨F,ak,_,R,q,λc H1 F1 aw s1 R1 q1=>?_⟩;cases c with
 | false=>exact⟨F1,aw,Qd,R1,q1,λb H' F' aG s R' qq=>K b H' F' aG (s1.trans s) R' qq⟩
 | true=>exact K true H1 F1 aw s1 R1 q1
theorem mw(ha:EB G k S a ta):EB G k S (.UnaryOp .Not a pos) (mO ta):=.mk λX Y ok=>vY (Oi (ha X Y ok)) λσ H Q q=>by
 obtain⟨F,ak,Qd,R,q,K⟩:=q;exact⟨F,ak,_,R,q,λc H1 F1 aw s1 R1 q1=>K _ H1 F1 aw s1 R1 q1⟩
end
structure E4(G:GE)(k:Nat)(S:Stat)(e:Expr)(t:TB) :Prop where
 run:∀X Y,dA X G k S Y->PE X e (λσ H Q=>lB Y t σ H λb H'=>Q (.bl b) H')
instance {G:GE} {k:Nat} {S:Stat} {e:Expr} {t:TB} :CoeFun (E4 G k S e t) λ_=>∀X Y,dA X G k S Y->PE X e (λσ H Q=>lB Y t σ H λb H'=>Q (.bl b) H'):=⟨E4.run⟩
section
variable {a b:Expr}{rest:List Expr}{ta tb:TB}{pos:Pos}
def i9(t:TV):TB:=λσ Q=>t σ λx aw=>match dZ aw x with
 | some (.bl b)=>Q b aw
 | _=>False
theorem wC{t:TV}(h:EO G k S a t):E4 G k S a (i9 t):=.mk λX Y ok=>aP (h X Y ok) λσ H Q q=>by
 obtain⟨F,ak,Qd,R,q,K⟩:=q;refine⟨F,ak,_,R,q,λv1 H1 F1 x aw s1 R1 r1 q1=>?_⟩
 split at q1
 ·rename_i b eb
  obtain rfl:=(R1.dZ r1 eb).bl;exact K b H1 F1 aw s1 R1 q1
 ·exact q1.elim
theorem Eg{op:BoolOp}(h:E4 G k S a ta):E4 G k S (.BoolOp op [a] pos) ta:=.mk λX Y ok=>NP (h X Y ok)
theorem v_and(ha:E4 G k S a ta)(hb:E4 G k S (.BoolOp .And (b::rest) pos) tb):E4 G k S (.BoolOp .And (a::b::rest) pos) (fH ta tb):=.mk λX Y ok=>aP (NF (ha X Y ok) (hb X Y ok)) λσ H Q q=>by
 obtain⟨F,ak,Qd,R,q,K⟩:=q;refine⟨F,ak,_,R,q,λc H1 F1 aw s1 R1 q1=>⟨c,rfl,?_⟩⟩;cases c with
 | true=>exact⟨F1,aw,Qd,R1,q1,λb H' F' aG s R' qq=>K b H' F' aG (s1.trans s) R' qq⟩
 | false=>exact K false H1 F1 aw s1 R1 q1
theorem Ol(h:E4 G k S a ta):EO G k S a (bV ta):=.mk λX Y ok=>aP (h X Y ok) λσ H Q q=>by
 obtain⟨F,ak,Qd,R,q,K⟩:=q;exact⟨F,ak,_,R,q,λb H1 F1 aw s1 R1 q1=>K _ H1 F1 (.val (.bl b)) aw s1 R1 (.bl b) q1⟩
end
end Vc
namespace Vc
open PySem L2
variable [KF]
variable {G:GE}{k:Nat}{S:Stat}
theorem aE.mS{F:Hp}{vs:List V}{xs:List D}{i:Int}{d:D}(r:aE F vs xs)(h:L2.mS xs i=some d):∃v,L2.mS vs i=some v/\Rep F v d:=by
 unfold L2.mS at h ⊢;rw[r.length];cases e:yS xs.length i with
 | none=>rw[e]at h;cases h
 | some j =>
  rw[e]at h;exact r.get (i:=j) h
def FX:D->D->(D->Prop)->Prop
 | .lst xs,.int i,Q=>match mS xs i with
  | some d=>Q d
  | none=>False
 | .tup xs,.int i,Q=>match mS xs i with
  | some d=>Q d
  | none=>False
 | .str z,.int i,Q=>z.length<=sizeLine/\match mS z.cps.toList i with
  | some c=>Q (.str ⟨#[c]⟩)
  | none=>False
 | .fZ ns,.int i,Q=>match mS ns i with
  | some n=>Q (.int n)
  | none=>False
 | _,_,_=>False
theorem Fe{α β:Type}(f:α->β){xs:List α}{i:Int}{a:α}(h:L2.mS xs i=some a):L2.mS (xs.map f) i=some (f a):=by
 unfold L2.mS at h ⊢;rw[List.length_map];cases e:yS xs.length i with
 | none=>rw[e]at h;cases h
 | some j =>
  rw[e]at h;have h:xs[j]?=some a:=h;show(xs.map f)[j]?=_;rw[List.getElem?_map,h];rfl
def f6(ta tb:TV):TV:=λσ Q=>ta σ λx aw=>tb aw λy bq=>match dZ bq x,dZ bq y with
 | some a,some b=>FX a b λr=>Q (.val r) bq
 | _,_=>False
theorem cL{a b:Expr}{ta tb:TV}{pos:Pos}(ha:EO G k S a ta)(hb:EO G k S b tb)(hs:oP b:=by intro _ _;rfl):EO G k S (.Subscript a b pos) (f6 ta tb):=.mk λX Y ok =>
 aP (Ja L8 (ha X Y ok) (hb X Y ok) hs) λσ H Q q=>by
  obtain⟨F,ak,Qd,R,q,K⟩:=q;refine⟨F,ak,_,R,q,λv1 H1 F1 x aw s1 R1 r1 q1=>?_⟩;refine⟨F1,aw,_,R1,q1,λv2 H2 F2 y bq s2 R2 r2 q2=>?_⟩
  split at q2
  ·rename_i a b ea eb
   have rx:=R2.dZ (r1.mono s2) ea;have ry:=R2.dZ r2 eb;have fin:∀ {v d},Rep F2 v d->Qd (.val d) bq->Q v H2:=λr qq=>K _ H2 F2 (.val _) bq (s1.trans s2) R2 r qq;unfold FX at q2
   split at q2
   ·obtain⟨p,vs,rfl,h1,r1⟩:=rx.lst;obtain rfl:=ry.int
    split at q2
    ·rename_i d e
     obtain⟨v,ev,rv⟩:=r1.mS e;exact .inl ⟨p,vs,_,v,rfl,rfl,.inl h1,ev,fin rv q2⟩
    ·exact q2.elim
   ·obtain⟨p,vs,rfl,h1,r1⟩:=rx.tup R2.fr;obtain rfl:=ry.int
    split at q2
    ·rename_i d e
     obtain⟨v,ev,rv⟩:=r1.mS e;exact .inr (.inl ⟨p,vs,_,v,rfl,rfl,.of h1,ev,fin rv q2⟩)
    ·exact q2.elim
   ·obtain rfl:=rx.str;obtain rfl:=ry.int
    obtain⟨hz,q2⟩:=q2
    split at q2
    ·rename_i c e
     exact .inr (.inr ⟨_,_,c,rfl,rfl,hz,e,fin (.str _) q2⟩)
    ·exact q2.elim
   ·rename_i ns i
    have rx:Rep F2 v1 (.fZ ns):=rx;obtain rfl:=ry.int;cases rx with
    | fZ h =>
     split at q2
     ·rename_i n e
      exact .inl ⟨_,ns.map V.int,_,.int n,rfl,rfl,by rw[ok.kf];exact R2.fr.seq h,Fe V.int e,fin (.int _) q2⟩
     ·exact q2.elim
   ·exact q2.elim
  ·exact q2.elim
theorem oB{F:Hp}:∀ns:List Int,aE F (ns.map V.int) (ns.map D.int)
 | []=>.nil
 | n::ns=>.cons (.int n) (oB ns)
theorem bU.fZ{F H:Hp}(s:ao F H){v:V}{ns:List Int}(r:bU F H v (.fZ ns)):∃a,v=.ref a/\dY KF.K H a (ns.map V.int):=by
 cases(show Rep F v (.fZ ns)from r)with
 | fZ h=>exact⟨_,rfl,s.seq h⟩
abbrev JH:=Sd->(Option Int->Sd->Prop)->Prop
def lP(Y:bC)(t:JH):TO:=λσ H Q=>∃F ak Qd,RS Y F ak σ H/\t ak Qd/\∀o H' F' aG,ao F F'->RS Y F' aG σ H'->Qd o aG->Q o H'
structure Qc(G:GE)(k:Nat)(S:Stat)(e:Option Expr)(t:JH) :Prop where
 run:∀X Y,dA X G k S Y->PO X e (lP Y t)
instance {G:GE} {k:Nat} {S:Stat} {e:Option Expr} {t:JH} :CoeFun (Qc G k S e t) λ_=>∀X Y,dA X G k S Y->PO X e (lP Y t):=⟨Qc.run⟩
theorem Df{X:Cx}{e:Option Expr}{t t':TO}(h:PO X e t)(i:∀σ H Q,t' σ H Q->t σ H Q):PO X e t':=λpins s σ H Q I q=>h pins s σ H Q I (i σ H Q q)
def Qz:JH:=λσ Q=>Q none σ
def QA(t:TV):JH:=λσ Q=>t σ λx aw=>match dZ aw x with
 | some (.int i)=>Q (some i) aw
 | _=>False
theorem vQ:Qc G k S none Qz:=.mk λX Y ok=>Df GH λσ H Q q=>by
 obtain⟨F,ak,Qd,R,q,K⟩:=q;exact K none H F ak (ao.refl _) R q
theorem vS{e:Expr}{t:TV}(h:EO G k S e t):Qc G k S (some e) (QA t):=.mk λX Y ok=>Df (GI (h X Y ok)) λσ H Q q=>by
 obtain⟨F,ak,Qd,R,q,K⟩:=q;refine⟨F,ak,_,R,q,λv1 H1 F1 x aw s1 R1 r1 q1=>?_⟩
 split at q1
 ·rename_i i e
  obtain rfl:=(R1.dZ r1 e).int;exact⟨i,rfl,K _ H1 F1 aw s1 R1 q1⟩
 ·exact q1.elim
def cut{α:Type}(xs:List α)(lo hi:Option Int):List α:=(xs.drop (HT.cS xs.length 0 lo)).take (HT.cS xs.length xs.length hi-HT.cS xs.length 0 lo)
theorem aE.cut{F:Hp}{vs:List V}{xs:List D}(r:aE F vs xs)(lo hi:Option Int):aE F (r9 vs lo hi) (cut xs lo hi):=by
 unfold r9 Vc.cut;rw[r.length];exact(r.drop _).take _
def Ww:D->Option Int->Option Int->(EV->Prop)->Prop
 | .lst xs,lo,hi,Q=>Q (.own (cut xs lo hi))
 | .fZ ns,lo,hi,Q=>Q (.own (cut (ns.map D.int) lo hi))
 | .tup xs,lo,hi,Q=>¬(HT.cS xs.length 0 lo=0/\HT.cS xs.length xs.length hi=xs.length)/\Q (.val (.tup (cut xs lo hi)))
 | _,_,_,_=>False
def zI(t:TV)(tl th:JH):TX:=λσ Q=>t σ λx aw=>tl aw λl bq=>th bq λu fe=>match dZ fe x with
 | some d=>Ww d l u λr=>Q r fe
 | none=>False
theorem Ov{e:Expr}{lo hi:Option Expr}{t:TV}{tl th:JH}{p2 pos:Pos}(h:EO G k S e t)(hl:Qc G k S lo tl)(hh:Qc G k S hi th):EX G k S (.Subscript e (.Slice lo hi none p2) pos) (zI t tl th):=.mk λX Y ok =>
 aP (C5 (HU.or G5 Pj) (h X Y ok) (hl X Y ok) (hh X Y ok)) λσ H Q q=>by
  obtain⟨F,ak,Qd,R,q,K⟩:=q;refine⟨F,ak,_,R,q,λv1 H1 F1 x aw s1 R1 r1 q1=>?_⟩;refine⟨F1,aw,_,R1,q1,λl H2 F2 bq s2 R2 q2=>?_⟩;refine⟨F2,bq,_,R2,q2,λu H3 F3 fe s3 R3 q3=>?_⟩
  split at q3
  ·rename_i d e
   have rx:=R3.dZ (r1.mono (s2.trans s3)) e;have g:Goes Y F3 fe σ (λr=>Qd r fe) Q:=λv H' F' r s R' rr qq=>K v H' F' r fe (((s1.trans s2).trans s3).trans s) R' rr qq;unfold Ww at q3
   split at q3
   ·obtain⟨p,vs,rfl,h1,r1⟩:=rx.lst
    exact .inl ⟨p,vs,rfl,.inl h1,g.own R3 (r1.cut _ _) q3⟩
   ·obtain⟨p,rfl,h1⟩:=rx.fZ R3.fr
    exact .inl ⟨p,_,rfl,by rw[ok.kf];exact h1,g.own R3 ((oB _).cut _ _) q3⟩
   ·obtain⟨p,vs,rfl,h1,r1⟩:=rx.tup R3.fr
    exact .inr ⟨p,vs,rfl,.of h1,by rw[r1.length];exact q3.1,g.tup R3 (r1.cut _ _) q3.2⟩
   ·exact q3.elim
  ·exact q3.elim
def tN:eD:=λσ Q=>Q [] σ
def a9(t:TD)(u:eD):eD:=λσ Q=>t σ λx aw=>u aw λxs bq=>Q (x::xs) bq
theorem aC:vf G k S [] tN:=.mk λX Y ok=>qe cW λσ H Q q=>by
 obtain⟨F,ak,Qd,R,q,K⟩:=q;exact K [] H F [] ak (ao.refl _) R .nil q
theorem ai{e:Expr}{es:List Expr}{t:TD}{u:eD}(h:ED G k S e t)(hs:vf G k S es u)(he:∀env,starEach (e::es) env=(false,eval e env)::starEach es env:=by exactλ_=>Vc.iW rfl):vf G k S (e::es) (a9 t u):=.mk λX Y ok =>
 qe (bS (h X Y ok) (hs X Y ok) (he _)) λσ H Q q=>by
  obtain⟨F,ak,Qd,R,q,K⟩:=q;refine⟨F,ak,_,R,q,λv1 H1 F1 x aw s1 R1 r1 q1=>?_⟩;exact⟨F1,aw,_,R1,q1,λvs H2 F2 xs bq s2 R2 r2 q2=>K _ H2 F2 (x::xs) bq (s1.trans s2) R2 (.cons (r1.mono s2) r2) q2⟩
def jU(t:eD):TX:=λσ Q=>t σ λxs aw=>xs.length<=sizeLine/\Q (.own xs) aw
def Jn(t:eD):TV:=λσ Q=>t σ λxs aw=>xs.length<=sizeLine/\Q (.val (.tup xs)) aw
theorem cc{es:List Expr}{t:eD}{pos:Pos}(h:vf G k S es t):EX G k S (.List es pos) (jU t):=.mk λX Y ok=>aP (ml (h X Y ok)) λσ H Q q=>by
 obtain⟨F,ak,Qd,R,q,K⟩:=q;refine⟨F,ak,_,R,q,λvs H1 F1 xs aw s1 R1 r1 q1=>⟨by rw[r1.length];exact q1.1,?_⟩⟩
 have g:Goes Y F1 aw σ (λr=>Qd r aw) Q:=λv H' F' r s R' rr qq=>K v H' F' r aw (s1.trans s) R' rr qq;exact g.own R1 r1 q1.2
theorem uk{es:List Expr}{t:eD}{x1}{pos:Pos}(h:vf G k S es t):EO G k S (.Tuple es x1 pos) (Jn t):=.mk λX Y ok=>aP (C6 (h X Y ok)) λσ H Q q=>by
 obtain⟨F,ak,Qd,R,q,K⟩:=q;refine⟨F,ak,_,R,q,λvs H1 F1 xs aw s1 R1 r1 q1=>⟨by rw[r1.length];exact q1.1,λp hp=>?_⟩⟩
 have sm:=aI (o:=.tup vs) (same_none R1.fr hp);exact K _ _ _ (.val (.tup xs)) aw (s1.trans sm) (R1.alloc hp) (.tup aB (r1.mono sm)) q1.2
abbrev oU:=Sd->(List OV->Sd->Prop)->Prop
inductive rQ (F:Hp)(σ:St):List V->List OV->Prop where
 | nil:rQ F σ [] []
 | cons {v:V} {x:OV} {vs:List V} {xs:List OV}:vk F σ v x->rQ F σ vs xs->rQ F σ (v::vs) (x::xs)
def Yr(Y:bC)(t:oU):TA:=λσ H Q=>∃F ak Qd,RS Y F ak σ H/\t ak Qd/\∀vs H' F' xs aG,ao F F'->RS Y F' aG σ H'->rQ F' σ vs xs->Qd xs aG->Q vs H'
structure zO(G:GE)(k:Nat)(S:Stat)(es:List Expr)(t:oU) :Prop where
 run:∀X Y,dA X G k S Y->PA X es (Yr Y t)
instance {G:GE} {k:Nat} {S:Stat} {es:List Expr} {t:oU} :CoeFun (zO G k S es t) λ_=>∀X Y,dA X G k S Y->PA X es (Yr Y t):=⟨zO.run⟩
def c9:oU:=λσ Q=>Q [] σ
def bh(t:TV)(u:oU):oU:=λσ Q=>t σ λx aw=>u aw λxs bq=>Q (x::xs) bq
theorem aU:zO G k S [] c9:=.mk λX Y ok=>qe cW λσ H Q q=>by
 obtain⟨F,ak,Qd,R,q,K⟩:=q;exact K [] H F [] ak (ao.refl _) R .nil q
theorem aD{e:Expr}{es:List Expr}{t:TV}{u:oU}(h:EO G k S e t)(hs:zO G k S es u)(he:∀env,starEach (e::es) env=(false,eval e env)::starEach es env:=by exactλ_=>Vc.iW rfl):zO G k S (e::es) (bh t u):=.mk λX Y ok =>
 qe (bS (h X Y ok) (hs X Y ok) (he _)) λσ H Q q=>by
  obtain⟨F,ak,Qd,R,q,K⟩:=q;refine⟨F,ak,_,R,q,λv1 H1 F1 x aw s1 R1 r1 q1=>?_⟩;exact⟨F1,aw,_,R1,q1,λvs H2 F2 xs bq s2 R2 r2 q2=>K _ H2 F2 (x::xs) bq (s1.trans s2) R2 (.cons (r1.mono s2) r2) q2⟩
def fu(σ:Sd):List OV->Option (List D)
 | []=>some []
 | x::xs=>match dZ σ x,fu σ xs with
  | some d,some ds=>some (d::ds)
  | _,_=>none
inductive gR (F H:Hp):List V->List D->Prop where
 | nil:gR F H [] []
 | cons {v:V} {x:D} {vs:List V} {xs:List D}:bU F H v x->gR F H vs xs->gR F H (v::vs) (x::xs)
theorem RS.fu{Y:bC}{F:Hp}{ak:Sd}{σ:St}{H:Hp}(R:RS Y F ak σ H):∀ {vs:List V} {xs:List OV} {ds:List D},rQ F σ vs xs->Vc.fu ak xs=some ds->gR F H vs ds
 | _,_,_,.nil,e=>by cases e;exact .nil
 | _,_,_,.cons (x:=x) (xs:=xs) r t,e=>by
  have e:(match Vc.dZ ak x,Vc.fu ak xs with|some d,some ds=>some (d::ds)|_,_=>none)=some _:=e
  split at e
  ·rename_i d ds e1 e2
   cases e;exact .cons (R.dZ r e1) (RS.fu R t e2)
  ·cases e
theorem gR.one{F H:Hp}{vs:List V}{d:D}(r:gR F H vs [d]):∃v,vs=[v]/\bU F H v d:=by
 cases r with
 | cons r t=>cases t;exact⟨_,rfl,r⟩
theorem gR.two{F H:Hp}{vs:List V}{d e:D}(r:gR F H vs [d,e]):∃v u,vs=[v,u]/\bU F H v d/\bU F H u e:=by
 cases r with
 | cons r t =>
  obtain⟨u,rfl,q⟩:=t.one;exact⟨_,u,rfl,r,q⟩
def jm(r:List V->Hp->VK->Prop)(f:List D->(EV->Prop)->Prop):Prop:=
 ∀Y F H ak σ vs ds (Qd:EV->Prop) (Q:VK),RS Y F ak σ H->gR F H vs ds->f ds Qd->Goes Y F ak σ Qd Q->r vs H Q
def dQ(f:List D->(EV->Prop)->Prop)(t:oU):TX:=λσ Q=>t σ λxs aw=>match fu aw xs with
 | some ds=>f ds λr=>Q r aw
 | none=>False
theorem jT{Y:bC}{r:List V->Hp->VK->Prop}{f:List D->(EV->Prop)->Prop}(hs:jm r f){t:oU}{σ:St}{H:Hp}{Q:VK}(q:lX Y (dQ f t) σ H Q):WB r (Yr Y t) σ H Q:=by
 obtain⟨F,ak,Qd,R,q,K⟩:=q;refine⟨F,ak,_,R,q,λvs H1 F1 xs aw s1 R1 r1 q1=>?_⟩
 split at q1
 ·rename_i ds e
  exact hs Y F1 H1 aw σ vs ds _ Q R1 (R1.fu r1 e) q1 λv H' F' r s R' rr qq=>K v H' F' r aw (s1.trans s) R' rr qq
 ·exact q1.elim
def yj(G:GE)(k:Nat)(S:Stat)(f:Value)(g:List D->(EV->Prop)->Prop):Prop:=∃r:PySem.W.Frag->List V->Hp->VK->Prop,(∀X Y,dA X G k S Y->cy X f (r X.K))/\jm (r KF.K) g
section
variable {x:Str}{p pos:Pos}{e:Expr}{es:List Expr}{t:oU}{id T:String}{g:List D->(EV->Prop)->Prop}
theorem cG(h:yj G k S (.builtin id) g)(hm:G.mg x=none)(ha:zO G k S (e::es) t)(hv:bootBuiltins x=some (.builtin id))(hg:S.sc.lookup x=some .globalImplicit:=by rfl)(hn:x≠"__name__":=by decide)(sW:(x==("__debug__":Str))=false:=by decide)
  (he:∀env,starEach (e::es) env=(false,eval e env)::starEach es env:=by exactλ_=>Vc.iW rfl) (d2:∀env,(backTo pos (starEach es env)).any (·.1)=false:=by intro _;rfl):EX G k S (.Call (.Name x p) (e::es) [] pos) (dQ g t):=.mk λX Y ok=>by
 obtain⟨r,hc,hs⟩:=h;exact aP (mj (hc X Y ok) (cz ok hg) (by rw[ok.mg];exact hm) hv (ha X Y ok) hn sW (he _) (d2 _)) λσ H Q q=>jT (by rw[ok.kf];exact hs) q
theorem uc(h:yj G k S (.type T) g)(hm:G.mg x=none)(ha:zO G k S (e::es) t)(hv:bootBuiltins x=some (.type T))(hg:S.sc.lookup x=some .globalImplicit:=by rfl)(hn:x≠"__name__":=by decide)(sW:(x==("__debug__":Str))=false:=by decide)
  (he:∀env,starEach (e::es) env=(false,eval e env)::starEach es env:=by exactλ_=>Vc.iW rfl) (d2:∀env,(backTo pos (starEach es env)).any (·.1)=false:=by intro _;rfl):EX G k S (.Call (.Name x p) (e::es) [] pos) (dQ g t):=.mk λX Y ok=>by
 obtain⟨r,hc,hs⟩:=h;exact aP (jH (hc X Y ok) (cz ok hg) (by rw[ok.mg];exact hm) hv (ha X Y ok) hn sW (he _) (d2 _)) λσ H Q q=>jT (by rw[ok.kf];exact hs) q
end
def dS:List D->(EV->Prop)->Prop
 | [.lst xs],Q=>Q (.val (.int xs.length))
 | [.tup xs],Q=>Q (.val (.int xs.length))
 | [.fZ ns],Q=>Q (.val (.int ns.length))
 | [.str z],Q=>z.length<=sizeLine/\Q (.val (.int z.length))
 | _,_=>False
theorem f_len:yj G k S (.builtin "len") dS:=⟨λK xs H Q=>(∃p ys,xs=[V.ref p]/\(dY K H p ys\/gS K H p ys)/\Q (V.int ys.length) H)\/∃z,xs=[V.str z]/\z.length<=sizeLine/\Q (V.int z.length) H,λ_ _ _=>o9.or pd,λY F H ak σ vs ds Qd Q R r q g=>by
 unfold dS at q
 split at q
 ·obtain⟨v,rfl,rv⟩:=r.one
  obtain⟨p,us,rfl,h1,h2⟩:=rv.lst;exact .inl ⟨p,us,rfl,.inl (.inl h1),by rw[h2.length];exact g.val R (.int _) q⟩
 ·obtain⟨v,rfl,rv⟩:=r.one
  obtain⟨p,us,rfl,h1,h2⟩:=rv.tup R.fr;exact .inl ⟨p,us,rfl,.inr (.of h1),by rw[h2.length];exact g.val R (.int _) q⟩
 ·obtain⟨v,rfl,rv⟩:=r.one
  obtain⟨p,rfl,h1⟩:=rv.fZ R.fr;exact .inl ⟨p,_,rfl,.inl h1,by rw[List.length_map];exact g.val R (.int _) q⟩
 ·obtain⟨v,rfl,rv⟩:=r.one
  obtain rfl:=rv.str;exact .inr ⟨_,rfl,q.1,g.val R (.int _) q.2⟩
 ·exact q.elim⟩
def Fb:List D->(EV->Prop)->Prop
 | [.int i],Q=>Q (.val (.int (if i<0 then -i else i)))
 | _,_=>False
theorem Sg:yj G k S (.builtin "abs") Fb:=⟨λ_=>_,λ_ _ _=>Aq,λY F H ak σ vs ds Qd Q R r q g=>by
 unfold Fb at q
 split at q
 ·obtain⟨v,rfl,rv⟩:=r.one
  obtain rfl:=rv.int;exact⟨_,rfl,g.val R (.int _) q⟩
 ·exact q.elim⟩
def lN:List D->(EV->Prop)->Prop
 | [.int i,.int j],Q=>Q (.val (.int (if j>i then j else i)))
 | _,_=>False
def lV:List D->(EV->Prop)->Prop
 | [.int i,.int j],Q=>Q (.val (.int (if j<i then j else i)))
 | _,_=>False
theorem pD(hh:S.kE=false:=by rfl):yj G k S (.builtin "max") lN:=⟨λ_=>_,λ_ _ ok=>yt (ok.calm hh),λY F H ak σ vs ds Qd Q R r q g=>by
 unfold lN at q
 split at q
 ·obtain⟨v,u,rfl,rv,ru⟩:=r.two
  obtain rfl:=rv.int;obtain rfl:=ru.int;exact⟨_,_,rfl,g.val R (.int _) q⟩
 ·exact q.elim⟩
theorem pE(hh:S.kE=false:=by rfl):yj G k S (.builtin "min") lV:=⟨λ_=>_,λ_ _ ok=>yu (ok.calm hh),λY F H ak σ vs ds Qd Q R r q g=>by
 unfold lV at q
 split at q
 ·obtain⟨v,u,rfl,rv,ru⟩:=r.two
  obtain rfl:=rv.int;obtain rfl:=ru.int;exact⟨_,_,rfl,g.val R (.int _) q⟩
 ·exact q.elim⟩
def pP:List D->(EV->Prop)->Prop
 | [.int i],Q=>Q (.val (.int i))
 | [.bl b],Q=>Q (.val (.int (if b then 1 else 0)))
 | _,_=>False
theorem f_int:yj G k S (.type "int") pP:=⟨λ_=>_,λ_ _ ok=>yr,λY F H ak σ vs ds Qd Q R r q g=>by
 unfold pP at q
 split at q
 ·obtain⟨v,rfl,rv⟩:=r.one
  obtain rfl:=rv.int;exact .inl ⟨_,rfl,g.val R (.int _) q⟩
 ·obtain⟨v,rfl,rv⟩:=r.one
  obtain rfl:=rv.bl;exact .inr ⟨_,rfl,g.val R (.int _) q⟩
 ·exact q.elim⟩
def xq:List D->(EV->Prop)->Prop
 | [.lst xs],Q=>Q (.own xs)
 | [.tup xs],Q=>Q (.own xs)
 | _,_=>False
theorem f_list:yj G k S (.type "list") xq:=⟨λK xs H Q=>∃p ys,xs=[V.ref p]/\(dY K H p ys\/gS K H p ys)/\∀l,H l=none->Q (.ref l) (upd H l (.lst ys)),λ_ _ ok=>pe,λY F H ak σ vs ds Qd Q R r q g=>by
 unfold xq at q
 split at q
 ·obtain⟨v,rfl,rv⟩:=r.one
  obtain⟨p,us,rfl,h1,h2⟩:=rv.lst;exact⟨p,us,rfl,.inl (.inl h1),g.own R h2 q⟩
 ·obtain⟨v,rfl,rv⟩:=r.one
  obtain⟨p,us,rfl,h1,h2⟩:=rv.tup R.fr;exact⟨p,us,rfl,.inr (.of h1),g.own R h2 q⟩
 ·exact q.elim⟩
def rq:List D->(EV->Prop)->Prop
 | [.lst xs],Q=>Q (.val (.tup xs))
 | [.tup xs],Q=>Q (.val (.tup xs))
 | _,_=>False
theorem Fq:yj G k S (.type "tuple") rq:=⟨λK xs H Q=>∃p ys,xs=[V.ref p]/\((dY K H p ys/\∀l,H l=none->Q (.ref l) (upd H l (.tup ys)))\/(gS K H p ys/\Q (.ref p) H)),λ_ _ ok=>mY,λY F H ak σ vs ds Qd Q R r q g=>by
 unfold rq at q
 split at q
 ·obtain⟨v,rfl,rv⟩:=r.one
  obtain⟨p,us,rfl,h1,h2⟩:=rv.lst;exact⟨p,us,rfl,.inl ⟨.inl h1,g.tup R h2 q⟩⟩
 ·obtain⟨v,rfl,rv⟩:=r.one
  have rv':=rv;obtain⟨p,us,rfl,h1,h2⟩:=rv.tup R.fr;exact⟨p,us,rfl,.inr ⟨.of h1,g.val R rv' q⟩⟩
 ·exact q.elim⟩
end Vc
namespace Vc
open PySem L2
variable [KF]
variable {G:GE}{k:Nat}{S:Stat}
structure f7 where
 nx:Sd->Prop
 rt:B->Sd->Prop
 bk:Sd->Prop:=λ_=>False
 ct:Sd->Prop:=λ_=>False
abbrev cA:=f7->Sd->Prop
def WV(Y:bC)(F H:Hp)(ak:Sd)(σ:St)(v:V):B->Prop
 | .sh d=>Rep F v d
 | .own xs=>∃a vs,v=.ref a/\H a=some (.lst vs)/\aE F vs xs/\F a=none/\Y.H0 a=none/\cH ak σ a
 | .obj o=>∃a,v=.ref a/\o.rep F H a/\∀b∈o.fp a,F b=none/\H b≠none/\Y.H0 b=none/\cH ak σ b
structure wG(Y:bC)(F:Hp)(De:f7)(Dn:Ends):Prop where
 nx:∀σ H F' ak,ao F F'->RS Y F' ak σ H->De.nx ak->Dn.nx σ H
 rt:∀v σ H F' ak b,ao F F'->RS Y F' ak σ H->WV Y F' H ak σ v b->De.rt b ak->Dn.rt v H
 bk:∀σ H F' ak,ao F F'->RS Y F' ak σ H->De.bk ak->Dn.bk σ H
 ct:∀σ H F' ak,ao F F'->RS Y F' ak σ H->De.ct ak->Dn.ct σ H
theorem wG.mono{Y:bC}{F F':Hp}{De:f7}{Dn:Ends}(h:wG Y F De Dn)(s:ao F F'):wG Y F' De Dn:=
 ⟨λσ H F2 ak s2=>h.nx σ H F2 ak (s.trans s2),λv σ H F2 ak b s2=>h.rt v σ H F2 ak b (s.trans s2),λσ H F2 ak s2=>h.bk σ H F2 ak (s.trans s2),λσ H F2 ak s2=>h.ct σ H F2 ak (s.trans s2)⟩
def lS(Y:bC)(t:cA):TS:=λDn σ H=>∃F ak De,RS Y F ak σ H/\t De ak/\wG Y F De Dn
structure ES(G:GE)(k:Nat)(S:Stat)(st:Stmt)(t:cA) :Prop where
 run:∀X Y,dA X G k S Y->PS X st (lS Y t)
instance {G:GE} {k:Nat} {S:Stat} {st:Stmt} {t:cA} :CoeFun (ES G k S st t) λ_=>∀X Y,dA X G k S Y->PS X st (lS Y t):=⟨ES.run⟩
structure eG(G:GE)(k:Nat)(S:Stat)(st:List Stmt)(t:cA) :Prop where
 run:∀X Y,dA X G k S Y->nu X st (lS Y t)
instance {G:GE} {k:Nat} {S:Stat} {st:List Stmt} {t:cA} :CoeFun (eG G k S st t) λ_=>∀X Y,dA X G k S Y->nu X st (lS Y t):=⟨eG.run⟩
section
variable {st:Stmt}{rest:List Stmt}{t u:cA}{pos:Pos}
def nk:cA:=λDe σ=>De.nx σ
def bT(t u:cA):cA:=λDe σ=>t {De with nx:=u De} σ
theorem cN:eG G k S [] nk:=.mk λX Y ok=>ql xE λDn σ H q=>by
 obtain⟨F,ak,De,R,q,K⟩:=q;exact K.nx σ H F ak (ao.refl _) R q
theorem ay(h1:ES G k S st t)(h2:eG G k S rest u):eG G k S (st::rest) (bT t u):=.mk λX Y ok=>ql (ub (h1 X Y ok) (h2 X Y ok)) λDn σ H q=>by
 obtain⟨F,ak,De,R,q,K⟩:=q;refine⟨F,ak,_,R,q,⟨λbB H' F' aG s R' q'=>?_,K.rt,K.bk,K.ct⟩⟩;exact⟨F',aG,De,R',q',K.mono s⟩
theorem aK(h1:ES G k S st t):eG G k S [st] t:=.mk λX Y ok=>qm (h1 X Y ok)
def zH:cA:=λ_ _=>False
theorem kN:ES G k S st zH:=.mk λX Y ok=>cX Dk λDn σ H q=>by
 obtain⟨F,ak,De,R,q,K⟩:=q;exact q
def dR(c:TB)(t u:cA):cA:=λDe σ=>c σ λb aw=>if b=true then t De aw else u De aw
theorem eu{c:Expr}{a b:List Stmt}{tc:TB}(hc:EB G k S c tc)(ha:eG G k S a t)(hb:eG G k S b u):ES G k S (.If c a b pos) (dR tc t u):=.mk λX Y ok=>cX (Jd (hc X Y ok) (ha X Y ok) (hb X Y ok)) λDn σ H q=>by
 obtain⟨F,ak,De,R,q,K⟩:=q;refine⟨F,ak,_,R,q,λb H1 F1 aw s1 R1 q1=>?_⟩;cases b with
 | true=>exact⟨F1,aw,De,R1,q1,K.mono s1⟩
 | false=>exact⟨F1,aw,De,R1,q1,K.mono s1⟩
def vb(t:TX):cA:=λDe σ=>t σ λ_ aw=>De.nx aw
theorem cZ{e:Expr}{te:TX}(he:EX G k S e te)(hs:∀line env,swapsWith e none line env=pure false:=by intro _ _;rfl):ES G k S (.Expr e pos) (vb te):=.mk λX Y ok=>cX (xD (he X Y ok) (hs _ _)) λDn σ H q=>by
 obtain⟨F,ak,De,R,q,K⟩:=q;exact⟨F,ak,_,R,q,λv H1 F1 x aw s1 R1 r1 q1=>K.nx σ H1 F1 aw s1 R1 q1⟩
def gP(ios:List Nat)(t:TX):cA:=λDe σ=>t σ λx aw=>match x with
 | .val d=>De.rt (.sh d) aw
 | .own xs=>De.rt (.own xs) aw
 | .obj o=>De.rt (.obj o) aw
 | .any=>False
 | .var i=>match aw[i]? with
  | some (some (.own xs))=>i∉ios/\De.rt (.own xs) (aw.set i none)
  | some (some (.sh d))=>De.rt (.sh d) aw
  | some (some (.obj o))=>ios=[]/\De.rt (.obj o) (aw.set i none)
  | _=>False
theorem RS.forget{Y:bC}{F:Hp}{ak:Sd}{σ:St}{H:Hp}{i:Nat}{b:B}(R:RS Y F ak σ H)(e:ak[i]?=some (some b))(dk:∀p∈Y.io,p.1≠i):RS Y F (ak.set i none) σ H where
 len:=by simpa using R.len
 lo:=R.lo
 fr:=R.fr
 fh:=R.fh
 old:=R.old
 sh:=λj d q=>by
  by_cases hj:j=i
  ·subst hj;rw[aR e]at q;cases q
  ·rw[aX hj]at q;exact R.sh j d q
 own:=λj xs q=>by
  by_cases hj:j=i
  ·subst hj;rw[aR e]at q;cases q
  ·rw[aX hj]at q;exact R.own j xs q
 dis:=λj l xs ys a q1 q2 q3 q4=>by
  have hj:j≠i:=λz=>by subst z;rw[aR e]at q1;cases q1
  have hl:l≠i:=λz=>by subst z;rw[aR e]at q2;cases q2
  rw[aX hj]at q1;rw[aX hl]at q2;exact R.dis j l xs ys a q1 q2 q3 q4
 io:=λp hp=>by
  obtain⟨w1,ys,w2⟩:=R.io p hp;exact⟨w1,ys,by rw[aX (dk p hp)];exact w2⟩
 ob:=R.ob.put (λ_ _=>rfl) (λ_ z=>nomatch z) λ_ _ z=>nomatch z
theorem RS.ME{Y:bC}{F:Hp}{ak:Sd}{σ:St}{H:Hp}{i:Nat}{xs:List D}(R:RS Y F ak σ H)(h:ak[i]?=some (some (.own xs)))(dk:∀p∈Y.io,p.1≠i){a:Addr}(q1:σ[i]?=some (some (.ref a))):Y.H0 a=none/\a∉Y.Tw:=by
 obtain⟨b,vs,w1,w2,w3,w4,w5⟩:=R.own i xs h;rw[q1]at w1;cases w1;have nin:a∉Y.Tw:=λq5=>by
  obtain⟨p,hp,e⟩:=List.mem_map.mp q5;obtain⟨z1,ys,z2⟩:=R.io p hp;exact absurd (R.dis p.1 i ys xs a z2 h (by rw[z1,e]) q1) (dk p hp)
 rcases w5 with w5|w5
 ·exact⟨w5,nin⟩
 ·exact absurd w5 nin
theorem bR{e:Expr}{te:TX}(he:EX G k S e te)(Xy:S.Ao=false:=by rfl):ES G k S (.Return (some e) pos) (gP S.ios te):=.mk λX Y ok=>cX (vX (he X Y ok)) λDn σ H q=>by
 obtain⟨F,ak,De,R,q,K⟩:=q;refine⟨F,ak,_,R,q,λv H1 F1 x aw s1 R1 r1 q1=>?_⟩;cases x with
 | val d=>exact K.rt v σ H1 F1 aw (.sh d) s1 R1 r1 q1
 | own xs=>exact K.rt v σ H1 F1 aw (.own xs) s1 R1 r1 q1
 | obj o=>exact K.rt v σ H1 F1 aw (.obj o) s1 R1 r1 q1
 | any=>exact False.elim q1
 | var i =>
  have r1:σ[i]?=some (some v):=r1;dsimp only at q1
  split at q1
  ·rename_i xs e
   obtain⟨a,vs,w1,w2,w3,w4,w5⟩:=R1.own i xs e;rw[r1]at w1;cases w1;have dk:∀p∈Y.io,p.1≠i:=λp hp z=>q1.1 (z ▸ ok.ios p hp);refine K.rt _ σ H1 F1 _ (.own xs) s1 (R1.forget e dk) ⟨a,vs,rfl,w2,w3,w4,(R1.ME e dk r1).1,⟨λj ys e2 z=>?_,λ⟨j,o,c,e2,e3,hm⟩=>?_⟩⟩ q1.2
   ·by_cases hj:j=i
    ·subst hj;rw[aR e]at e2;cases e2
    ·rw[aX hj]at e2
     exact hj (R1.dis j i ys xs a e2 e z r1)
   ·have hj:j≠i:=λz=>by subst z;rw[aR e]at e2;cases e2
    rw[aX hj]at e2;exact R1.ob.ju i xs a e r1 ⟨j,o,c,e2,e3,hm⟩
  ·rename_i d e
   obtain⟨v2,e2,r2⟩:=R1.sh i d e;rw[r1]at e2;cases e2;exact K.rt v σ H1 F1 aw (.sh d) s1 R1 r2 q1
  ·rename_i o e
   obtain⟨a,w1,w2,w3⟩:=R1.ob.obj i o e;rw[r1]at w1;cases w1;have LO:=ok.obs Xy q1.1;have dk:∀p∈Y.io,p.1≠i:=λp hp z=>by
    have:=ok.ios p hp;rw[q1.1]at this;cases this
   refine K.rt _ σ H1 F1 _ (.obj o) s1 (R1.forget e dk) ⟨a,rfl,w2,λb hb=>⟨(w3 b hb).1,(w3 b hb).2.1,?_,⟨λj ys e2 z=>?_,λ⟨j,o2,c,e2,e3,hm⟩=>?_⟩⟩⟩ q1.2
   ·rcases(w3 b hb).2.2 with z|z
    ·exact z
    ·rw[LO]at z;cases z
   ·have hj:j≠i:=λz=>by subst z;rw[aR e]at e2;cases e2
    rw[aX hj]at e2;exact R1.ob.ju j ys b e2 z ⟨i,o,a,e,r1,hb⟩
   ·have hj:j≠i:=λz=>by subst z;rw[aR e]at e2;cases e2
    rw[aX hj]at e2;exact R1.ob.yz j i o2 o c a e2 e e3 r1 hj b hm hb
  ·exact q1.elim
end
theorem gs{α:Type}{l:List α}{i j:Nat}{x y:α}(h:(l.set i x)[j]?=some y):(j=i/\y=x)\/(j≠i/\l[j]?=some y):=by
 by_cases hj:j=i
 ·subst hj
  by_cases hl:j<l.length
  ·rw[List.getElem?_set_self hl]at h;exact .inl ⟨rfl,(Option.some.inj h).symm⟩
  ·have:(l.set j x)[j]?=none:=by rw[List.getElem?_eq_none_iff];simp;omega
   rw[this]at h;cases h
 ·rw[List.getElem?_set_ne (Ne.symm hj)]at h;exact .inr ⟨hj,h⟩
theorem bG{α:Type}{l:List α}{i j:Nat}{x:α}(h:j≠i):(l.set i x)[j]?=l[j]?:=List.getElem?_set_ne (Ne.symm h)
theorem sR{α:Type}{l:List α}{i:Nat}{x:α}(h:i<l.length):(l.set i x)[i]?=some x:=List.getElem?_set_self h
theorem BR{α:Type}{l:List α}{i j:Nat}{x y:α}(h:(l.set i x)[j]?=some y):j<l.length:=by
 have:=(List.getElem?_eq_some_iff.mp h).1;simpa using this
theorem RS.kn{Y:bC}{F:Hp}{ak:Sd}{σ:St}{H:Hp}{i:Nat}{d:D}{v:V}(R:RS Y F ak σ H)(r:Rep F v d)(dk:∀p∈Y.io,p.1≠i):RS Y F (ak.set i (some (.sh d))) (σ.set i (some v)) H where
 len:=by simpa using R.len
 lo:=R.lo
 fr:=R.fr
 fh:=R.fh
 old:=R.old
 sh:=λj e q=>by
  rcases gs q with⟨rfl,z⟩|⟨hj,q'⟩
  ·cases z
   exact⟨v,sR (by rw[<- R.len];exact BR q),r⟩
  ·obtain⟨u,w1,w2⟩:=R.sh j e q'
   exact⟨u,by rw[bG hj];exact w1,w2⟩
 own:=λj xs q=>by
  rcases gs q with⟨_,z⟩|⟨hj,q'⟩
  ·cases z
  ·obtain⟨a,vs,w1,w2⟩:=R.own j xs q'
   exact⟨a,vs,by rw[bG hj];exact w1,w2⟩
 dis:=λj l xs ys a q1 q2 q3 q4=>by
  rcases gs q1 with⟨_,z⟩|⟨hj,q1⟩
  ·cases z
  rcases gs q2 with⟨_,z⟩|⟨hl,q2⟩
  ·cases z
  rw[bG hj]at q3;rw[bG hl]at q4;exact R.dis j l xs ys a q1 q2 q3 q4
 io:=λp hp=>by
  obtain⟨w1,ys,w2⟩:=R.io p hp;exact⟨by rw[bG (dk p hp)];exact w1,ys,by rw[bG (dk p hp)];exact w2⟩
 ob:=R.ob.put (λ_ hj=>bG hj) (λ_ z=>nomatch z) λ_ _ z=>nomatch z
theorem RS.DH{Y:bC}{F:Hp}{ak:Sd}{σ:St}{H:Hp}{i:Nat}{xs:List D}{a:Addr}{vs:List V}(R:RS Y F ak σ H)(h1:H a=some (.lst vs))(h2:aE F vs xs)(h3:F a=none)(h4:Y.H0 a=none)(h5:cH ak σ a)
  (dk:∀p∈Y.io,p.1≠i):RS Y F (ak.set i (some (.own xs))) (σ.set i (some (.ref a))) H where
 len:=by simpa using R.len
 lo:=R.lo
 fr:=R.fr
 fh:=R.fh
 old:=R.old
 sh:=λj e q=>by
  rcases gs q with⟨_,z⟩|⟨hj,q'⟩
  ·cases z
  ·obtain⟨u,w1,w2⟩:=R.sh j e q'
   exact⟨u,by rw[bG hj];exact w1,w2⟩
 own:=λj ys q=>by
  rcases gs q with⟨rfl,z⟩|⟨hj,q'⟩
  ·cases z
   exact⟨a,vs,sR (by rw[<- R.len];exact BR q),h1,h2,h3,.inl h4⟩
  ·obtain⟨b,us,w1,w2⟩:=R.own j ys q'
   exact⟨b,us,by rw[bG hj];exact w1,w2⟩
 dis:=λj l ys zs b q1 q2 q3 q4=>by
  rcases gs q1 with⟨rfl,z⟩|⟨hj,q1⟩
  ·rcases gs q2 with⟨e,z⟩|⟨hl,q2⟩
   ·exact e.symm
   ·rw[bG hl]at q4
    rcases gs q3 with⟨_,z3⟩|⟨hc,_⟩
    ·cases z3
     exact absurd q4 (h5 l zs q2)
    ·exact absurd rfl hc
  ·rw[bG hj]at q3
   rcases gs q2 with⟨e2,z⟩|⟨hl,q2⟩
   ·rcases gs q4 with⟨_,z4⟩|⟨hc,_⟩
    ·cases z4
     exact absurd q3 (h5 j ys (by assumption))
    ·exact absurd e2 hc
   ·rw[bG hl]at q4
    exact R.dis j l ys zs b (by assumption) q2 q3 q4
 io:=λp hp=>by
  obtain⟨w1,ys,w2⟩:=R.io p hp;exact⟨by rw[bG (dk p hp)];exact w1,ys,by rw[bG (dk p hp)];exact w2⟩
 ob:=R.ob.put (λ_ hj=>bG hj) (λ_ z=>nomatch z) λys b _ z=>by
  rcases gs z with⟨_,z2⟩|⟨hc,_⟩
  ·cases z2;exact h5.IW
  ·exact absurd rfl hc
theorem RS.OY{Y:bC}{F:Hp}{ak:Sd}{σ:St}{H:Hp}{i:Nat}{o:O}{a:Addr}(R:RS Y F ak σ H)(h1:o.rep F H a)(h2:∀b∈o.fp a,F b=none/\H b≠none/\Y.H0 b=none/\cH ak σ b)
  (dk:∀p∈Y.io,p.1≠i):RS Y F (ak.set i (some (.obj o))) (σ.set i (some (.ref a))) H where
 len:=by simpa using R.len
 lo:=R.lo
 fr:=R.fr
 fh:=R.fh
 old:=R.old
 sh:=λj e q=>by
  rcases gs q with⟨_,z⟩|⟨hj,q'⟩
  ·cases z
  ·obtain⟨u,w1,w2⟩:=R.sh j e q'
   exact⟨u,by rw[bG hj];exact w1,w2⟩
 own:=λj ys q=>by
  rcases gs q with⟨_,z⟩|⟨hj,q'⟩
  ·cases z
  ·obtain⟨b,us,w1,w2⟩:=R.own j ys q'
   exact⟨b,us,by rw[bG hj];exact w1,w2⟩
 dis:=λj l ys zs b q1 q2 q3 q4=>by
  rcases gs q1 with⟨_,z⟩|⟨hj,q1⟩
  ·cases z
  rcases gs q2 with⟨_,z⟩|⟨hl,q2⟩
  ·cases z
  rw[bG hj]at q3;rw[bG hl]at q4;exact R.dis j l ys zs b q1 q2 q3 q4
 io:=λp hp=>by
  obtain⟨w1,ys,w2⟩:=R.io p hp;exact⟨by rw[bG (dk p hp)];exact w1,ys,by rw[bG (dk p hp)];exact w2⟩
 ob:=by
  have at':∀ {j:Nat} {c:Addr},j=i->(σ.set i (some (.ref a)))[j]?=some (some (.ref c))->c=a:=λ{j c} e z=>by
   subst e;rcases gs z with⟨_,z2⟩|⟨hc,_⟩
   ·cases z2;rfl
   ·exact absurd rfl hc
  refine⟨λj p q=>?_,λj l p p2 c d q1 q2 q3 q4 cm x hx pO=>?_,λj ys b q1 q2 ⟨l,p,c,q3,q4,hm⟩=>?_,R.ob.there,R.ob.QB,R.ob.tab⟩
  ·rcases gs q with⟨rfl,z⟩|⟨hj,q'⟩
   ·cases z
    exact⟨a,sR (by rw[<- R.len];exact BR q),h1,λb hb=>⟨(h2 b hb).1,(h2 b hb).2.1,.inl (h2 b hb).2.2.1⟩⟩
   ·obtain⟨c,w1,w2⟩:=R.ob.obj j p q'
    exact⟨c,by rw[bG hj];exact w1,w2⟩
  ·rcases gs q1 with⟨e1,z⟩|⟨hj,U9⟩
   ·cases z
    rcases gs q2 with⟨e2,z⟩|⟨hl,YJ⟩
    ·exact cm (e1.trans e2.symm)
    ·rw[bG hl]at q4
     have:=at' e1 q3;subst this;exact(h2 x hx).2.2.2.IW ⟨l,p2,d,YJ,q4,pO⟩
   ·rw[bG hj]at q3
    rcases gs q2 with⟨e2,z⟩|⟨hl,YJ⟩
    ·cases z
     have:=at' e2 q4;subst this;exact(h2 x pO).2.2.2.IW ⟨j,p,c,U9,q3,hx⟩
    ·rw[bG hl]at q4
     exact R.ob.yz j l p p2 c d U9 YJ q3 q4 cm x hx pO
  ·rcases gs q1 with⟨_,z⟩|⟨hj,U9⟩
   ·cases z
   rw[bG hj]at q2;rcases gs q3 with⟨e3,z⟩|⟨hl,q3'⟩
   ·cases z
    have:=at' e3 q4;subst this;exact(h2 b hm).2.2.2 j ys U9 q2
   ·rw[bG hl]at q4
    exact R.ob.ju j ys b U9 q2 ⟨l,p,c,q3',q4,hm⟩
def Wy(ios:List Nat)(i:Nat)(x:EV)(σ:Sd)(Q:Sd->Prop):Prop:=match x with
 | .val d=>Q (σ.set i (some (.sh d)))
 | .own xs=>Q (σ.set i (some (.own xs)))
 | .obj o=>Q (σ.set i (some (.obj o)))
 | .any=>False
 | .var j=>match σ[j]? with
  | some (some (.own xs))=>j∉ios/\Q ((σ.set j (some (.sh (.lst xs)))).set i (some (.sh (.lst xs))))
  | some (some (.sh d))=>Q (σ.set i (some (.sh d)))
  | _=>False
theorem jR{Y:bC}{F:Hp}{ak:Sd}{σ:St}{H:Hp}{i:Nat}{v:V}{x:EV}{ios:List Nat}{Q:Sd->Prop}(R:RS Y F ak σ H)(r:E8 Y F H ak σ v x)(hi:i∉ios)(dk:∀p∈Y.io,p.1∈ios)(q:Wy ios i x ak Q):
  ∃F' aG,ao F F'/\RS Y F' aG (σ.set i (some v)) H/\Q aG:=by
 have h0:∀p∈Y.io,p.1≠i:=λp hp z=>hi (z ▸ dk p hp);cases x with
 | val d=>exact⟨F,_,ao.refl _,R.kn r h0,q⟩
 | own xs =>
  obtain⟨a,vs,rfl,h1,h2,h3,h4,h5⟩:=r;exact⟨F,_,ao.refl _,R.DH h1 h2 h3 h4 h5 h0,q⟩
 | obj o =>
  obtain⟨a,rfl,h1,h2⟩:=r;exact⟨F,_,ao.refl _,R.OY h1 h2 h0,q⟩
 | any=>exact False.elim q
 | var j =>
  have r:σ[j]?=some (some v):=r;unfold Wy at q;dsimp only at q
  split at q
  ·rename_i xs e
   obtain⟨F2,v2,s2,R2,e2,r2⟩:=R.jw e λp hp z=>q.1 (z ▸ dk p hp);rw[r]at e2;cases e2;exact⟨F2,_,s2,R2.kn r2 h0,q.2⟩
  ·rename_i d e
   obtain⟨v2,e2,r2⟩:=R.sh j d e;rw[r]at e2;cases e2;exact⟨F,_,ao.refl _,R.kn r2 h0,q⟩
  ·exact q.elim
def da(ios:List Nat)(i:Nat)(t:TX):cA:=λDe σ=>t σ λx aw=>Wy ios i x aw De.nx
theorem jE{X:Cx}{Y:bC}(ok:dA X G k S Y){x:Str}(h:S.sc.lookup x=some .local\/(S.sc.lookup x=some .cell/\S.Ao=false)):L2.Loc X.env.scope x:=by
 unfold L2.Loc;rw[ok.sc];exact h.imp id (·.1)
theorem jv{X:Cx}{Y:bC}(ok:dA X G k S Y){x:Str}(h:S.sc.lookup x=some .local\/(S.sc.lookup x=some .cell/\S.Ao=false)):X.fn x=true\/X.env.scope.names.lookup x=some .local:=by
 rcases h with h|h
 ·right;rw[ok.sc];exact h
 ·left;exact ok.fn h.2 x h.1
theorem aZ(i:Nat){x:Str}{e:Expr}{te:TX}{pos pos':Pos}(he:EX G k S e te)(hi:S.N[i]?=some x:=by rfl)(hx:S.sc.lookup x=some .local\/(S.sc.lookup x=some .cell/\S.Ao=false):=by first|exact Or.inl rfl|exact Or.inr ⟨rfl,rfl⟩)(hn:i∉S.ios:=by first|decide|exact List.not_mem_nil | (dsimp only;decide))
  (hs:∀line env,swapsWith e (some (.Name x pos')) line env=pure false:=by intro _ _;rfl):ES G k S (.Assign [.Name x pos'] e pos) (da S.ios i te):=.mk λX Y ok =>
 cX (L2.Dl (i:=i) (by rw[ok.N];exact ok.nd) (by rw[ok.N];exact hi) (jE ok hx) (he X Y ok) (hs _ _) (jv ok hx)) λDn σ H q=>by
  obtain⟨F,ak,De,R,q,K⟩:=q;refine⟨F,ak,_,R,q,λv H1 F1 y aw s1 R1 r1 q1=>?_⟩;obtain⟨F2,bq,s2,R2,q2⟩:=jR R1 r1 hn ok.ios q1;exact K.nx _ H1 F2 bq (s1.trans s2) R2 q2
theorem RS.write{Y:bC}{F:Hp}{ak:Sd}{σ:St}{H:Hp}{i:Nat}{xs ys:List D}{a:Addr}{us:List V}(R:RS Y F ak σ H)(e:ak[i]?=some (some (.own xs)))(h:σ[i]?=some (some (.ref a)))(r:aE F us ys):
  RS Y F (ak.set i (some (.own ys))) σ (upd H a (.lst us)):=by
 obtain⟨b,vs,w1,w2,w3,w4,w5⟩:=R.own i xs e;rw[h]at w1;cases w1;have hl:i<ak.length:=(List.getElem?_eq_some_iff.mp e).1;have LO:rO Y F (ak.set i (some (.own ys))) σ (upd H a (.lst us)):=R.ob.step (ao.refl _) (λj o q=>by
  rcases gs q with⟨_,z⟩|⟨hj,q⟩
  ·cases z
  ·exact⟨q,rfl⟩) (λb hb=>by
  obtain⟨z1,z2,z3⟩:=R.ob.owned hb;have cm:b≠a:=λz=>R.ob.ju i xs a e h (z ▸ hb);exact⟨aq cm,z1,z3⟩) (λj zs b q1 q2=>by
  rcases gs q1 with⟨e1,_⟩|⟨hj,q1⟩
  ·subst e1
   rw[h]at q2;cases q2;exact R.ob.ju j xs a e h
  ·exact R.ob.ju j zs b q1 q2) λb hb=>by
  by_cases cm:b=a
  ·rw[cm,aB];exactλz=>nomatch z
  ·rw[aq cm];exact R.ob.there b hb
 refine⟨by simpa using R.len,R.lo,λb o q=>?_,R.fh,λb o q n=>?_,λj d q=>?_,λj zs q=>?_,λj l zs qs b q1 q2 q3 q4=>?_,λp hp=>?_,LO⟩
 ·have:b≠a:=λz=>by rw[z,w4]at q;cases q
  rw[aq this];exact R.fr b o q
 ·have:b≠a:=λz=>by
   subst z;rcases w5 with w5|w5
   ·rw[w5]at q;cases q
   ·exact bC.xg n w5
  rw[aq this];exact R.old b o q n
 ·rcases gs q with⟨_,z⟩|⟨hj,q⟩
  ·cases z
  ·exact R.sh j d q
 ·rcases gs q with⟨rfl,z⟩|⟨hj,q⟩
  ·cases z
   exact⟨a,us,h,aB,r,w4,w5⟩
  ·obtain⟨b,ws,z1,z2,z3,z4,z5⟩:=R.own j zs q
   have:b≠a:=λz=>hj (R.dis j i zs xs a q e (z ▸ z1) h);exact⟨b,ws,z1,by rw[aq this];exact z2,z3,z4,z5⟩
 ·have f:∀ {m:Nat} {ms:List D},(ak.set i (some (B.own ys)))[m]?=some (some (B.own ms))->∃Yy,ak[m]?=some (some (B.own Yy)):=λ{m ms} q=>by
   rcases gs q with⟨rfl,z⟩|⟨hj,q⟩
   ·exact⟨xs,e⟩
   ·exact⟨_,q⟩
  obtain⟨_,q1⟩:=f q1;obtain⟨_,q2⟩:=f q2;exact R.dis j l _ _ b q1 q2 q3 q4
 ·obtain⟨z1,zs,z2⟩:=R.io p hp
  refine⟨z1,?_⟩
  by_cases LR:p.1=i
  ·exact⟨ys,by rw[LR,sR hl]⟩
  ·exact⟨zs,by rw[bG LR];exact z2⟩
def sZ(σ:Sd)(i:Nat):Prop:=∃xs,σ[i]?=some (some (B.own xs))
def JY(i:Nat)(d:D)(σ:Sd)(Q:Sd->Prop):Prop:=match σ[i]? with
 | some (some (.own xs))=>xs.length<sizeLine/\Q (σ.set i (some (.own (xs++[d]))))
 | _=>False
def rg(to:TV)(te:TD):TX:=λσ Q=>to σ λx aw=>match x with
 | .var i=>sZ aw i/\te aw λd bq=>JY i d bq λfe=>Q (.val .bx) fe
 | _=>False
theorem d5{o e:Expr}{to:TV}{te:TD}{apos cpos:Pos}(ho:EO G k S o to)(he:ED G k S e te)(hb:∀env,attributeBase o "append" env (eval o env)=eval o env:=by intro _;rfl)
  (B8:∀env,((backTo cpos (starEach [e] env)).all (λx=>!x.1)&&(backToKw cpos (keywordEach [] env)).all (λx=>x.1.isSome)&&decide (([e]:List Expr).length+([]:List Keyword).length+(if([]:List Keyword).isEmpty then 0 else 1)<30))=true:=by intro _;rfl)
  (hline:(apos.endLine==cpos.line)=true:=by rfl) (hs:∀env,starEach [e] env=[(false,eval e env)]:=by intro _;rfl):EX G k S (.Call (.Attribute o "append" apos) [e] [] cpos) (rg to te):=.mk λX Y ok=>by
 have ha:PA X [e] (dX (lD Y te) mN):=bS (he X Y ok) cW (by rw[hs];rfl)
 refine aP (C1 F.plainAttrs_list F.slot_list_append F.type_list_append jG (ho X Y ok) ha (hb _) (B8 _) hline (by rw[hs];rfl) (by rfl)) λσ H Q q=>?_
 obtain⟨F,ak,Qd,R,q,K⟩:=q;refine⟨F,ak,_,R,q,λv1 H1 F1 x aw s1 R1 r1 q1=>?_⟩;cases x with
 | val d=>exact q1.elim
 | any=>exact q1.elim
 | var i =>
  obtain⟨⟨ys,e0⟩,q1⟩:=q1;have r1:σ[i]?=some (some v1):=r1;obtain⟨a,vs,w1,w2,w3,w4,w5⟩:=R1.own i ys e0;rw[r1]at w1;cases w1;refine⟨.inl ⟨rfl,vs,.of w2⟩,F1,aw,_,R1,q1,λv2 H2 F2 d bq s2 R2 r2 q2=>?_⟩;unfold JY at q2
  split at q2
  ·rename_i xs e2
   obtain⟨b,us,z1,z2,z3,z4,z5⟩:=R2.own i xs e2;rw[r1]at z1;cases z1;exact⟨a,us,v2,rfl,rfl,z2,by rw[z3.length];exact q2.1,K .bx _ F2 (.val .bx) _ (s1.trans s2) (R2.write e2 r1 (z3.append (.cons r2 .nil))) .bx q2.2⟩
  ·exact q2.elim
end Vc
namespace Vc
open PySem L2
variable [KF]
variable {G:GE}{k:Nat}{S:Stat}
abbrev cf:=List D->(B->Prop)->Prop
def JG(H F H':Hp)(v:V):B->Prop
 | .sh d=>Rep F v d
 | .own xs=>∃a vs,v=.ref a/\H' a=some (.lst vs)/\aE F vs xs/\F a=none/\H a=none
 | .obj o=>∃a,v=.ref a/\o.rep F H' a/\∀b∈o.fp a,F b=none/\H' b≠none/\H b=none
def G6(sp:cf):Sp:=λvs H Q _=>∃F ds Qd,rR F H/\aE F vs ds/\sp ds Qd /\
 ∀v H' F' b,ao F F'->ao F' H'->ao H H'->(∀c o,F' c=some o->F c=some o\/Nw H c o)->JG H F' H' v b->Qd b->Q v H'
theorem RS.call{Y:bC}{F F':Hp}{ak:Sd}{σ:St}{H H':Hp}(R:RS Y F ak σ H)(s1:ao F F')(s2:ao F' H')(s3:ao H H')(fr:∀c o,F' c=some o->F c=some o\/Nw H c o):RS Y F' ak σ H' where
 len:=R.len
 lo:=R.lo.trans s1
 fr:=s2
 fh:=λb o e=>by
  rcases fr b o e with h|h
  ·exact R.fh b o h
  ·exact .inr (h.imp (λh=>(R.b7 h).1) id)
 old:=λb o e n=>s3 b o (R.old b o e n)
 sh:=λi d e=>by
  obtain⟨v,h1,h2⟩:=R.sh i d e;exact⟨v,h1,h2.mono s1⟩
 own:=λi xs e=>by
  obtain⟨a,vs,h1,h2,h3,h4,h5⟩:=R.own i xs e;refine⟨a,vs,h1,s3 a _ h2,h3.mono s1,?_,h5⟩;cases q:F' a with
  | none=>rfl
  | some o =>
   rcases fr a o q with h|h
   ·rw[h4]at h;cases h
   ·rcases h with h|⟨ws,rfl⟩
    ·rw[h2]at h;cases h
    ·have z:=s2 a _ q;rw[s3 a _ h2]at z;cases z
 dis:=R.dis
 io:=R.io
 ob:=by
  have up:∀b,H b≠none->H' b=H b:=λb hb=>by
   cases q:H b with
   | none=>exact absurd q hb
   | some o=>exact s3 b o q
  refine R.ob.step s1 (λ_ _ e=>⟨e,rfl⟩) (λb hb=>?_) R.ob.ju λb hb=>by rw[up b (R.ob.there b hb)];exact R.ob.there b hb
  obtain⟨w1,w2,w3⟩:=R.ob.owned hb;refine⟨up b w2,?_,w3⟩;cases q:F' b with
  | none=>rfl
  | some o =>
   rcases fr b o q with h|h
   ·rw[w1]at h;cases h
   ·rcases h with h|⟨ws,rfl⟩
    ·exact absurd h w2
    ·exact absurd (by rw[<- up b w2];exact s2 b _ q) (R.ob.IY hb)
def dq(G:GE)(k:Nat)(x:Str)(sp:cf):Prop:=∃f fd ps,dD G.P G.w G.K G.mg G.base rC k f fd ps (G6 sp)/\G.mg x=some (.ref f)/\PySem.W.keepIn G.K (.ref f)=true/\Binds G.K fd ps []
theorem dq.mono{x:Str}{sp:cf}{j:Nat}(h:dq G j x sp)(l:j<=k):dq G k x sp:=by
 obtain⟨f,fd,ps,h1,h2,h3,h4⟩:=h;exact⟨f,fd,ps,h1.mono l,h2,h3,h4⟩
def bE:B->EV
 | .sh d=>.val d
 | .own xs=>.own xs
 | .obj o=>.obj o
def Cl(sp:cf)(ds:List D)(Q:B->Prop):Prop:=sp ds Q
def ja(sp:cf)(t:eD):TX:=λσ Q=>t σ λds aw=>Cl sp ds λb=>Q (bE b) aw
theorem bA{x:Str}{sp:cf}{e:Expr}{es:List Expr}{t:eD}{p pos:Pos}(h:dq G k x sp)(ha:vf G k S (e::es) t)(hg:S.sc.lookup x=some .globalImplicit:=by rfl)(sW:(x==("__debug__":Str))=false:=by decide)
  (he:∀env,starEach (e::es) env=(false,eval e env)::starEach es env:=by exactλ_=>Vc.iW rfl) (d2:∀env,(backTo pos (starEach es env)).any (·.1)=false:=by intro _;rfl) (hh:S.kE=false:=by rfl):EX G k S (.Call (.Name x p) (e::es) [] pos) (ja sp t):=.mk λX Y ok=>by
 obtain⟨f,fd,ps,h1,h2,h3,h4⟩:=h;have vG:dD X.prog X.w X.K X.mg X.base rC k f fd ps (G6 sp):=by rw[ok.P,ok.w,ok.K,ok.mg,ok.base];exact h1
 refine aP (qg (E:=E0) (dvs:=[]) (ds:=[]) vG (ok.room hh) (cz ok hg) (by rw[ok.mg];exact h2) (by rw[ok.K];exact h3) (by rw[ok.K];exact h4) .nil C0 (ha X Y ok) sW (he _) (d2 _)) λσ H Q q=>?_
 obtain⟨F,ak,Qd,R,q,K⟩:=q;refine⟨F,ak,_,R,q,λvs H1 F1 ds aw s1 R1 r1 q1=>?_⟩;show G6 sp (vs++[]) H1 Q E0;rw[List.append_nil];refine⟨F1,ds,_,⟨R1.fr,R1.ob.tab⟩,r1,q1,λv H' F' b s2 s3 s4 fr r2 q2=>?_⟩;have R2:=R1.call s2 s3 s4 fr;cases b with
 | sh d=>exact K v H' F' (.val d) aw (s1.trans s2) R2 r2 q2
 | own xs =>
  obtain⟨a,us,rfl,w1,w2,w3,w4⟩:=r2;refine K _ H' F' (.own xs) aw (s1.trans s2) R2 ⟨a,us,rfl,w1,w2,w3,(R1.b7 w4).1,R1.dg w4⟩ q2
 | obj o =>
  obtain⟨a,rfl,w1,w2⟩:=r2;exact K _ H' F' (.obj o) aw (s1.trans s2) R2 ⟨a,rfl,w1,λb hb=>⟨(w2 b hb).1,(w2 b hb).2.1,(R1.b7 (w2 b hb).2.2).1,R1.dg (w2 b hb).2.2⟩⟩ q2
def aY(n:Nat)(ds:List D):Sd:=ds.map (λd=>some (.sh d))++List.replicate (n-ds.length) none
theorem mK{F:Hp}:∀ {vs:List V} {ds:List D} (m:Nat) {i:Nat} {d:D},aE F vs ds->(ds.map (λd=>some (B.sh d))++List.replicate m none)[i]?=some (some (.sh d))->∃v,(vs.map some++List.replicate m none)[i]?=some (some v)/\Rep F v d
 | [],[],m,i,d,.nil,e=>by
  simp only[List.map_nil,List.nil_append,List.getElem?_replicate]at e
  split at e<;>cases e
 | v::vs,x::ds,m,0,d,.cons r t,e=>by
  simp at e;subst e;exact⟨v,by simp,r⟩
 | v::vs,x::ds,m,i+1,d,.cons r t,e=>by
  obtain⟨u,h1,h2⟩:=mK (i:=i) m t (by simpa using e)
  exact⟨u,by simpa using h1,h2⟩
theorem eA:∀(ds:List D) (m i:Nat) (xs:List D),(ds.map (λd=>some (B.sh d))++List.replicate m none)[i]?≠some (some (.own xs))
 | [],m,i,xs=>by
  simp only[List.map_nil,List.nil_append,List.getElem?_replicate];intro e
  split at e<;>cases e
 | x::ds,m,0,xs=>by simp
 | x::ds,m,i+1,xs=>by
  have:=eA ds m i xs;simpa using this
theorem jS:∀(ds:List D) (m i:Nat) (o:O),(ds.map (λd=>some (B.sh d))++List.replicate m none)[i]?≠some (some (.obj o))
 | [],m,i,o=>by
  simp only[List.map_nil,List.nil_append,List.getElem?_replicate];intro e
  split at e<;>cases e
 | x::ds,m,0,o=>by simp
 | x::ds,m,i+1,o=>by
  have:=jS ds m i o;simpa using this
theorem RS.start{F H:Hp}{vs:List V}{ds:List D}(n:Nat)(s:rR F H)(r:aE F vs ds):RS ⟨H,F,[],[]⟩ F (aY n ds) (vs.map some++List.replicate (n-vs.length) none) H where
 len:=by unfold aY;simp [r.length]
 lo:=ao.refl _
 fr:=s.1
 fh:=λb o e=>.inl e
 old:=λb o e _=>e
 sh:=λi d e=>by
  rw[r.length];exact mK _ r e
 own:=λi xs e=>absurd e (eA _ _ _ _)
 dis:=λi j xs ys a e=>absurd e (eA _ _ _ _)
 io:=λp hp=>absurd hp (by simp)
 ob:=.none (λi o=>jS _ _ _ _) s.2 λb hb=>by cases hb
theorem Ir{x qual:Str}{st:Stmt}{f:Addr}{fd:FuncData}{N ps:List Str}{sp:cf}{t:cA}(hK:G.K=KF.K)(Fn:HN G.K x qual st f fd)(Sc:aL N ps (ah st))(ht:eG G k ⟨N,(ah st).names,[],false,false,false,λ_ _=>False⟩ (ax st) t)
  (len:∀ds Q,sp ds Q->ds.length=ps.length)
  (body:∀ds Q,sp ds Q->t {nx:=λ_=>Q (.sh .bx),rt:=λb _=>Q b} (aY N.length ds)):dD G.P G.w G.K G.mg G.base rC (k+1) f fd ps (G6 sp):=by
 refine Fn.ok Sc (λvs H Q E h=>?_) (λgN A outer s H vs Q E hr h=>?_)
 ·obtain⟨F,ds,Qd,s,r,q,K⟩:=h
  rw[r.length];exact len _ _ q
 ·obtain⟨F,ds,Qd,sm,r,q,K⟩:=h
  refine⟨_,ht (pv rC G.P G.w G.K G.mg G.base N qual (ah st) f gN A outer s H E).MI ⟨H,F,[],[]⟩ ⟨rfl,rfl,rfl,hK,rfl,rfl,rfl,rfl,Sc.nd,λp hp=>absurd hp (by simp),λ_ _=>rfl,λ_=>rfl,Sc.kind,λ_ _ _=>rfl,λ_=>hr.hd,hr.dp,hr.un,λ_=>PassesOwn.never,λ_=>⟨rfl,rfl,rfl⟩,λ_ _ h=>h.elim,(λh=>nomatch h),λh=>nomatch h⟩,F,aY N.length ds,_,RS.start _ sm r,body ds Qd q,?_⟩
  have same:∀ {F':Hp} {ak:Sd} {σ:St} {H':Hp},RS ⟨H,F,[],[]⟩ F' ak σ H'->ao H H':=λR b o e=>R.old b o e (by simp [bC.Cp])
  refine⟨λσ H' F' ak s' R' q'=>?_,λv σ H' F' ak b s' R' r' q'=>?_,λ_ _ _ _ _ _ h=>h.elim,λ_ _ _ _ _ _ h=>h.elim⟩
  ·exact K .bx H' F' (.sh .bx) s' R'.fr (same R') R'.fh .bx q'
  ·refine K v H' F' b s' R'.fr (same R') R'.fh ?_ q'
   cases b with
   | sh d=>exact r'
   | own xs =>
    obtain⟨a,us,rfl,w1,w2,w3,w4,w5⟩:=r';exact⟨a,us,rfl,w1,w2,w3,w4⟩
   | obj o =>
    obtain⟨a,rfl,w1,w2⟩:=r';exact⟨a,rfl,w1,λb hb=>⟨(w2 b hb).1,(w2 b hb).2.1,(w2 b hb).2.2.1⟩⟩
end Vc
namespace Vc
open PySem L2
variable [KF]
variable {G:GE}{k:Nat}{S:Stat}
abbrev rD:=D->Sd->(Sd->Prop)->Prop
def lG(Y:bC)(g:rD):TG:=λv σ H Q=>∃F ak d Qd,RS Y F ak σ H/\Rep F v d/\g d ak Qd/\∀bB H' F' aG,ao F F'->RS Y F' aG bB H'->Qd aG->Q bB H'
structure EG(G:GE)(k:Nat)(S:Stat)(tg:Expr)(g:rD) :Prop where
 run:∀X Y,dA X G k S Y->PG X tg (lG Y g)
instance {G:GE} {k:Nat} {S:Stat} {tg:Expr} {g:rD} :CoeFun (EG G k S tg g) λ_=>∀X Y,dA X G k S Y->PG X tg (lG Y g):=⟨EG.run⟩
theorem C7{X:Cx}{e:Expr}{t t':TG}(h:PG X e t)(i:∀v σ H Q,t' v σ H Q->t v σ H Q):PG X e t':=λpins s σ H v u Q I r q=>h pins s σ H v u Q I r (i v σ H Q q)
def eW(i:Nat):rD:=λd σ Q=>Q (σ.set i (some (.sh d)))
theorem bg(i:Nat){x:Str}{pos:Pos}(hi:S.N[i]?=some x:=by rfl)(hx:S.sc.lookup x=some .local\/(S.sc.lookup x=some .cell/\S.Ao=false):=by first|exact Or.inl rfl|exact Or.inr ⟨rfl,rfl⟩)(hn:i∉S.ios:=by first|decide|exact List.not_mem_nil | (dsimp only;decide)):EG G k S (.Name x pos) (eW i):=.mk λX Y ok =>
 C7 (kM (i:=i) (by rw[ok.N];exact ok.nd) (by rw[ok.N];exact hi) (jE ok hx) (jv ok hx)) λv σ H Q q=>by
  obtain⟨F,ak,d,Qd,R,r,q,K⟩:=q;exact K _ H F _ (ao.refl _) (R.kn r λp hp z=>hn (z ▸ ok.ios p hp)) q
abbrev oT:=List D->Sd->(Sd->Prop)->Prop
def lGs(Y:bC)(g:oT):HV:=λvs σ H Q=>∃F ak ds Qd,RS Y F ak σ H/\aE F vs ds/\g ds ak Qd/\∀bB H' F' aG,ao F F'->RS Y F' aG bB H'->Qd aG->Q bB H'
structure Qb(G:GE)(k:Nat)(S:Stat)(ts:List Expr)(g:oT) :Prop where
 run:∀X Y,dA X G k S Y->Qg X ts (lGs Y g)
instance {G:GE} {k:Nat} {S:Stat} {ts:List Expr} {g:oT} :CoeFun (Qb G k S ts g) λ_=>∀X Y,dA X G k S Y->Qg X ts (lGs Y g):=⟨Qb.run⟩
def BL:oT:=λds σ Q=>match ds with
 | []=>Q σ
 | _=>False
def gC(g:rD)(u:oT):oT:=λds σ Q=>match ds with
 | d::r=>g d σ λaw=>u r aw Q
 | []=>False
theorem fx:Qb G k S [] BL:=.mk λX Y ok pins s σ H vs us Q I r q=>xx pins s σ H vs us Q I r (by
 obtain⟨F,ak,ds,Qd,R,rr,q,K⟩:=q;cases rr with
 | nil=>exact⟨rfl,K σ H F ak (ao.refl _) R q⟩
 | cons _ _=>exact q.elim)
theorem bD{e:Expr}{es:List Expr}{g:rD}{u:oT}(h1:EG G k S e g)(h2:Qb G k S es u)(hs:∀env,(assignEach (e::es) env).map (·.2)=assign e env::(assignEach es env).map (·.2):=by intro _;rfl):Qb G k S (e::es) (gC g u):=.mk λX Y ok pins s σ H vs us Q I r q =>
 mm (h1 X Y ok) (h2 X Y ok) (hs _) pins s σ H vs us Q I r (by
  obtain⟨F,ak,ds,Qd,R,rr,q,K⟩:=q;cases rr with
  | nil=>exact q.elim
  | cons r1 rs =>
   refine⟨_,_,rfl,F,ak,_,_,R,r1,q,λaw H1 F1 zN s1 R1 q1=>?_⟩;exact⟨F1,zN,_,_,R1,rs.mono s1,q1,λbq H2 F2 cB s2 R2 q2=>K bq H2 F2 cB (s1.trans s2) R2 q2⟩)
def BM(n:Nat)(u:oT):rD:=λd σ Q=>match d with
 | .tup xs=>xs.length=n/\u xs σ Q
 | _=>False
theorem j9{es:List Expr}{kk:Nat}{u:oT}{n:Nat}{pos:Pos}(h:Qb G k S es u)(hn:∀env,(assignEach es env).length=n:=by intro _;rfl)(sY:∀env,(assignEach es env).findIdx? (·.1)=none:=by intro _;rfl)(hh:S.kE=false:=by rfl):EG G k S (.Tuple es kk pos) (BM n u):=.mk λX Y ok =>
 C7 (C8 (ok.calm hh) (h X Y ok) (hn _) (sY _)) λv σ H Q q=>by
  obtain⟨F,ak,d,Qd,R,r,q,K⟩:=q;cases d with
  | tup xs =>
   cases r with
   | tup hf rl =>
    exact⟨_,_,rfl,.of (R.fr _ _ hf),by rw[rl.length];exact q.1,F,ak,xs,Qd,R,rl,q.2,K⟩
  | _=>exact q.elim
def zW(F1 H1 F2 H2:Hp):Prop:=(F2=F1/\H2=H1)\/∃p o,H1 p=none/\F2=upd F1 p o/\H2=upd H1 p o
theorem zW.same{F1 H1 F2 H2:Hp}(g:zW F1 H1 F2 H2)(s:ao F1 H1):ao F1 F2:=by
 rcases g with⟨rfl,rfl⟩|⟨p,o,h,rfl,rfl⟩
 ·exact ao.refl _
 ·exact aI (same_none s h)
theorem zW.rs{Y:bC}{F1 H1 F2 H2:Hp}{ak:Sd}{σ:St}(g:zW F1 H1 F2 H2)(R:RS Y F1 ak σ H1):RS Y F2 ak σ H2:=by
 rcases g with⟨rfl,rfl⟩|⟨p,o,h,rfl,rfl⟩
 ·exact R
 ·exact R.alloc h
def gQ(F:Hp)(J:It)(items:List D):Prop:=∀F1 H1,ao F F1->ao F1 H1->∀i:Nat,
 (∀x,items[i]?=some x->J.go i H1/\∀v H2,J.QD i H1 v H2->∃F2,zW F1 H1 F2 H2/\Rep F2 v x)/\(i=items.length->J.stop i H1)
theorem gQ.mono{F F':Hp}{J:It}{items:List D}(h:gQ F J items)(s:ao F F'):gQ F' J items:=λF1 H1 s1=>h F1 H1 (s.trans s1)
def lI(Y:bC)(t:eD):TI:=λσ H R=>∃F ak Qd,RS Y F ak σ H/\t ak Qd/\∀H' F' aG J items,ao F F'->RS Y F' aG σ H'->gQ F' J items->Qd items aG->R J H'
structure EI(G:GE)(k:Nat)(S:Stat)(tg iter:Expr)(t:eD) :Prop where
 run:∀X Y,dA X G k S Y->PI X tg iter (lI Y t)
instance {G:GE} {k:Nat} {S:Stat} {tg iter:Expr} {t:eD} :CoeFun (EI G k S tg iter t) λ_=>∀X Y,dA X G k S Y->PI X tg iter (lI Y t):=⟨EI.run⟩
theorem mn{X:Cx}{tg e:Expr}{t t':TI}(h:PI X tg e t)(i:∀σ H Q,t' σ H Q->t σ H Q):PI X tg e t':=λpins s σ H Q I q=>h pins s σ H Q I (i σ H Q q)
theorem NS{X:Cx}{tg l:Expr}{tl:TE}(hl:PE X l tl):PI X tg l (λσ H R=>tl σ H λx H1=>(∃a,x=.ref a/\(∃xs,dY X.K H1 a xs)/\R (WN X.K a) H1)\/(∃a,x=.ref a/\(∃xs,gS X.K H1 a xs)/\R (WO X.K a) H1)):=by
 intro pins s σ H R I h;refine cj (hl pins s σ H _ I h) λv s1 ⟨x,H1,I1,r1,q1⟩=>?_;rcases q1 with⟨a,e,⟨xs,hq⟩,q⟩|⟨a,e,⟨xs,hq⟩,q⟩
 ·subst e
  cases r1;obtain⟨its,rv,p,hz⟩:=I1.list hq;refine wpAny_pyIter_list p.isList ?_;refine⟨s1.heap.objs.size,[s1.heap.objs.size],_,_,H1,rfl,I1.kept (t':=s1.toks) λb o e=>Heap.get?_push_of_some _ e,zK a _,⟨_,Heap.get?_push_size _ rfl,rfl,rfl⟩,λb hb=>?_,q⟩;have e:b=s1.heap.objs.size:=by simpa using hb
  subst e;exact I1.vC (Nat.le_refl _) (I1.bP.fresh (Nat.le_refl _))
 ·subst e
  cases r1;obtain⟨its,rv,p,hz⟩:=I1.tuple hq;refine wpAny_pyIter_tuple (show s1.heap.IsTuple a its.toArray from p) ?_
  refine⟨s1.heap.objs.size,[s1.heap.objs.size],_,_,H1,rfl,I1.kept (t':=s1.toks) λb o e=>Heap.get?_push_of_some _ e,wB a _,⟨_,Heap.get?_push_size _ rfl,rfl,rfl⟩,λb hb=>?_,q⟩;have e:b=s1.heap.objs.size:=by simpa using hb
  subst e;exact I1.vC (Nat.le_refl _) (I1.bP.fresh (Nat.le_refl _))
theorem FU{K:PySem.W.Frag}{F:Hp}{a:Addr}{vs:List V}{xs:List D}(h:Rd F a (.lst vs))(r:aE F vs xs):gQ F (WN K a) xs:=λF1 H1 s1 s2 i=>by
 have hs:dY K H1 a vs:=.inl (Rd.mono (s1.trans s2) h);refine⟨λx e=>?_,λhl=>⟨vs,hs,by rw[r.length,hl];exact Nat.le_refl _⟩⟩
 obtain⟨v,e1,r1⟩:=r.get e;refine⟨⟨vs,v,hs,e1⟩,λv2 H2 y=>?_⟩;obtain⟨rfl,y⟩:=y;have:=y vs hs;rw[e1]at this;cases this;exact⟨F1,.inl ⟨rfl,rfl⟩,r1.mono s1⟩
theorem FV{K:PySem.W.Frag}{F:Hp}{a:Addr}{vs:List V}{xs:List D}(h:F a=some (.tup vs))(r:aE F vs xs):gQ F (WO K a) xs:=λF1 H1 s1 s2 i=>by
 have hs:gS K H1 a vs:=.of (s2 _ _ (s1 _ _ h));refine⟨λx e=>?_,λhl=>⟨vs,hs,by rw[r.length,hl];exact Nat.le_refl _⟩⟩
 obtain⟨v,e1,r1⟩:=r.get e;refine⟨⟨vs,v,hs,e1⟩,λv2 H2 y=>?_⟩;obtain⟨rfl,y⟩:=y;have:=y vs hs;rw[e1]at this;cases this;exact⟨F1,.inl ⟨rfl,rfl⟩,r1.mono s1⟩
def cU(t:TD):eD:=λσ Q=>t σ λd aw=>match d with
 | .lst xs=>Q xs aw
 | .tup xs=>Q xs aw
 | _=>False
theorem gk{tg l:Expr}{t:TD}(h:ED G k S l t):EI G k S tg l (cU t):=.mk λX Y ok=>mn (NS (h X Y ok)) λσ H Q q=>by
 obtain⟨F,ak,Qd,R,q,K⟩:=q;refine⟨F,ak,_,R,q,λv H1 F1 d aw s1 R1 r1 q1=>?_⟩;cases d with
 | lst xs =>
  cases r1 with
  | lst hf rl=>exact .inl ⟨_,rfl,⟨_,.inl (Rd.mono R1.fr hf)⟩,K H1 F1 aw _ xs s1 R1 (FU hf rl) q1⟩
 | tup xs =>
  cases r1 with
  | tup hf rl=>exact .inr ⟨_,rfl,⟨_,.of (R1.fr _ _ hf)⟩,K H1 F1 aw _ xs s1 R1 (FV hf rl) q1⟩
 | _=>exact q1.elim
def ng(lo:Int)(n:Nat):List D:=(List.range n).map λi=>.int (lo+(i:Nat))
theorem xh{F:Hp}(lo:Int)(n:Nat):gQ F (QP lo n) (ng lo n):=λF1 H1 s1 s2 i=>by
 refine⟨λx e=>?_,λhl=>?_⟩
 ·unfold ng at e
  rw[List.getElem?_map]at e;have hi:i<n:=by
   by_cases hi:i<n
   ·exact hi
   ·rw[List.getElem?_eq_none_iff.mpr (by simpa using hi)]at e;cases e
  rw[List.getElem?_range hi]at e;cases e;refine⟨hi,λv H2 y=>?_⟩;obtain⟨rfl,rfl⟩:=y;exact⟨F1,.inl ⟨rfl,rfl⟩,.int _⟩
 ·unfold ng at hl
  rw[List.length_map,List.length_range]at hl;exact Nat.le_of_eq hl.symm
def qu(t:oU):eD:=λσ Q=>t σ λxs aw=>match fu aw xs with
 | some [.int j]=>(-(2^62)<=j/\j<2^62)/\Q (ng 0 j.toNat) aw
 | _=>False
def GX(t:oU):eD:=λσ Q=>t σ λxs aw=>match fu aw xs with
 | some [.int i,.int j]=>(-(2^62)<=i/\i<2^62/\-(2^62)<=j/\j<2^62)/\Q (ng i (j-i).toNat) aw
 | _=>False
theorem jA{tg a:Expr}{t:oU}{p pos:Pos}(h:zO G k S [a] t)(hm:G.mg "range"=none)(hg:S.sc.lookup ("range":Str)=some .globalImplicit:=by rfl)(hs:∀env,starEach [a] env=[(false,eval a env)]:=by intro _;rfl):EI G k S tg (.Call (.Name "range" p) [a] [] pos) (qu t):=.mk λX Y ok =>
 mn (om (cz ok hg) (by rw[ok.mg];exact hm) (h X Y ok) (hs _)) λσ H Q q=>by
  obtain⟨F,ak,Qd,R,q,K⟩:=q;refine⟨F,ak,_,R,q,λvs H1 F1 xs aw s1 R1 r1 q1=>?_⟩
  split at q1
  ·rename_i j e
   obtain⟨v,rfl,rv⟩:=(R1.fu r1 e).one;obtain rfl:=rv.int;exact⟨j,rfl,q1.1.1,q1.1.2,K H1 F1 aw _ _ s1 R1 (xh 0 _) q1.2⟩
  ·exact q1.elim
theorem LZ{tg a b:Expr}{t:oU}{p pos:Pos}(h:zO G k S [a,b] t)(hm:G.mg "range"=none)(hg:S.sc.lookup ("range":Str)=some .globalImplicit:=by rfl)(hs:∀env,starEach [a,b] env=[(false,eval a env),(false,eval b env)]:=by intro _;rfl)(sX:∀env,starEach [b] env=[(false,eval b env)]:=by intro _;rfl):EI G k S tg (.Call (.Name "range" p) [a,b] [] pos) (GX t):=.mk λX Y ok =>
 mn (zo (cz ok hg) (by rw[ok.mg];exact hm) (h X Y ok) (hs _) (sX _)) λσ H Q q=>by
  obtain⟨F,ak,Qd,R,q,K⟩:=q;refine⟨F,ak,_,R,q,λvs H1 F1 xs aw s1 R1 r1 q1=>?_⟩
  split at q1
  ·rename_i i j e
   obtain⟨v,u,rfl,rv,ru⟩:=(R1.fu r1 e).two;obtain rfl:=rv.int;obtain rfl:=ru.int;exact⟨i,j,rfl,q1.1,K H1 F1 aw _ _ s1 R1 (xh i _) q1.2⟩
  ·exact q1.elim
def sM(g:rD)(tb:cA)(De:f7):List D->Sd->Prop
 | [],σ=>De.nx σ
 | x::xs,σ=>g x σ λaw=>tb {De with nx:=sM g tb De xs,ct:=sM g tb De xs,bk:=De.nx} aw
def cE(ti:eD)(g:rD)(tb:cA):cA:=λDe σ=>ti σ λitems aw=>sM g tb De items aw
theorem fF{tg iter:Expr}{body:List Stmt}{ti:eD}{g:rD}{tb:cA}{pos:Pos}(hi:EI G k S tg iter ti)(hg:EG G k S tg g)(hb:eG G k S body tb)(hs:∀env x,foldedSetIterable iter env x=pure x:=by intro _ _;rfl)(hh:S.kE=false:=by rfl):
  ES G k S (.For tg iter body [] pos) (cE ti g tb):=.mk λX Y ok=>cX (Dj (ok.po hh) (ok.calm hh) (hi X Y ok) (hg X Y ok) (hb X Y ok) (hs _)) λDn σ H q=>by
 obtain⟨F,ak,De,R,q,K⟩:=q;refine⟨F,ak,_,R,q,λH1 F1 zN J items s1 R1 it q1=>?_⟩;refine⟨λi m bB H'=>∃F' aG,ao F1 F'/\RS Y F' aG bB H'/\sM g tb De (items.drop i) aG/\m=items.length-i/\i<=items.length,⟨items.length,F1,zN,ao.refl _,R1,q1,rfl,Nat.zero_le _⟩,?_⟩;rintro i m bB H' ⟨F',aG,s',R',q',rfl,hi⟩;have Cu:=it F' H' s' R'.fr i
 by_cases hl:i<items.length
 ·right
  have hd:items.drop i=items[i]::items.drop (i+1):=by rw[List.drop_eq_getElem_cons hl]
  rw[hd]at q';obtain⟨go,yl⟩:=Cu.1 items[i] (by rw[List.getElem?_eq_getElem hl])
  refine⟨go,λbq H2=>∃F2 cB,ao F1 F2/\RS Y F2 cB bq H2/\sM g tb De (items.drop (i+1)) cB,λbq H2 ⟨F2,cB,s2,R2,q2⟩=>⟨items.length-(i+1),by omega,F2,cB,s2,R2,q2,rfl,hl⟩,λv H2 y=>?_⟩
  obtain⟨F2,gr,rep⟩:=yl v H2 y;have s2:ao F1 F2:=s'.trans (gr.same R'.fr);refine⟨F2,aG,items[i],_,gr.rs R',rep,q',λfe H3 F3 Zc s3 R3 q3=>⟨F3,Zc,_,R3,q3,?_⟩⟩;refine⟨λkH H4 F4 cO s4 R4 q4=>⟨F4,cO,(s2.trans s3).trans s4,R4,q4⟩,λv4 kH H4 F4 cO b s4 R4 r4 q4=>K.rt v4 kH H4 F4 cO b (((s1.trans s2).trans s3).trans s4) R4 r4 q4,
   λkH H4 F4 cO s4 R4 q4=>K.nx kH H4 F4 cO (((s1.trans s2).trans s3).trans s4) R4 q4,λkH H4 F4 cO s4 R4 q4=>⟨F4,cO,(s2.trans s3).trans s4,R4,q4⟩⟩
 ·left
  have e:i=items.length:=by omega
  subst e;rw[List.drop_length]at q';exact⟨Cu.2 rfl,K.nx bB H' F' aG (s1.trans s') R' q'⟩
end Vc
namespace Vc
open PySem L2
variable [KF]
theorem ph{prog:Program}{w:World}{A:Around}{R:Result->Shared->Prop}{s:Shared}{elt target iter:Expr}{ifs:List Expr}{scope:Scope}{pos:Pos}{it acc:Value}{env:Env}(I:Nat->Shared->Prop)
  (turn:∀n s,I n s->wpAny (model prog w) A (pyNext it) (λr bI=>match r with
   | none=>R (.ok .next) bI
   | some v=>wpAny (model prog w) A (letOwnedTupleGo target it v) (λ_ Jl=>wpAny (model prog w) A (assign target env v) (λ_ uE =>
     wpAny (model prog w) A (forIn ifs true λc r=>if r=true then do let ok <- isTrue c env (eval c env);pure (ForInStep.yield ok)else pure (ForInStep.yield r)) (λok DP =>
      if ok=true then wpAny (model prog w) A (eval elt env) (λx G7 =>
       wpAny (model prog w) A (call (.builtin "list.append") [acc,x]) (λ_ VJ=>∃m,m<n/\I m VJ) (λ_ _=>False) G7) (λ_ _=>False) DP
      else∃m,m<n/\I m DP) (λ_ _=>False) uE) (λ_ _=>False) Jl) (λ_ _=>False) bI) (λ_ _=>False) s)
  (n:Nat) (h:I n s):codeAny (model prog w) A (.compLoop (.ListComp elt [⟨target,iter,ifs,0⟩] scope pos) 0 it acc env) R s:=by
 refine codeAny_loop rfl I (λn s hI=>?_) n h;show wpAny _ A ((compTurn (.ListComp elt [⟨target,iter,ifs,0⟩] scope pos) 0 it acc env).onRaise (λx=>do noteFrame x env;theTreesLotGoes x)) _ _ s
 refine wpAny_noted ?_;rw[compTurn_list];refine wpAny_bind (wpAny_standAt (wpAny_bind (wpAny_mono (turn n s hI) (λr bI Tj=>?_) λ_ _ h'=>h'.elim)));cases r with
 | none=>exact wpAny_pure Tj
 | some v =>
  refine wpAny_bind (wpAny_mono Tj (λ_ Jl Tn=>?_) λ_ _ h'=>h'.elim);refine wpAny_bind (wpAny_mono Tn (λ_ uE Yi=>wpAny_bind (wpAny_mono Yi (λok DP Tp=>?_) λ_ _ h'=>h'.elim)) λ_ _ h'=>h'.elim);cases ok with
  | false=>exact wpAny_pure ⟨rfl,Tp⟩
  | true =>
   exact wpAny_bind (wpAny_bind (wpAny_mono Tp (λx G7 Yj=>wpAny_bind (wpAny_mono Yj (λ_ VJ Yk=>wpAny_pure (wpAny_pure ⟨rfl,Yk⟩)) λ_ _ h'=>h'.elim)) λ_ _ h'=>h'.elim))
def gw(env:Env):List (Str×NameKind)->List (Str×Addr)->List (Str×Addr)
 | [],cs=>cs
 | (n,k)::r,cs=>if k==.free then gw env r ((n,(env.cells.lookup n).getD 0)::cs)else gw env r cs
theorem k9{env:Env}{scope:Scope}(h:∀x∈scope.names,x.2=.free->∃c,env.cells.lookup x.1=some c):closureFor scope env=pure (gw env scope.names []):=by
 have all:∀(l:List (Str×NameKind)) (cs:List (Str×Addr)),(∀x∈l,x.2=.free->∃c,env.cells.lookup x.1=some c) ->
   (forIn l cs λx cs=>if(x.2==NameKind.free)=true then(do let a <- cellOf env x.1;pure (ForInStep.yield ((x.1,a)::cs)))else pure (ForInStep.yield cs):Sem (List (Str×Addr)))=pure (gw env l cs):=by
  intro l
  induction l with
  | nil=>intro cs _;rfl
  | cons x l ih =>
   intro cs hl;obtain⟨n,k⟩:=x;rw[List.forIn_cons];unfold gw
   by_cases hk:k=.free
   ·subst hk
    obtain⟨c,e⟩:=hl (n,.free) List.mem_cons_self rfl;have e':env.cells.lookup n=some c:=e;simp only[beq_self_eq_true,if_true,cellOf,e',Option.getD_some,pure_bind];exact ih _ λy hy=>hl y (List.mem_cons_of_mem _ hy)
   ·have hb:(k==NameKind.free)=false:=by simpa using hk
    simp only[hb,Bool.false_eq_true,if_false,pure_bind];exact ih _ λy hy=>hl y (List.mem_cons_of_mem _ hy)
 have h1:=all scope.names [] h;have h2:closureFor scope env=((forIn scope.names ([]:List (Str×Addr)) λx cs=>if(x.2==NameKind.free)=true then(do let a <- cellOf env x.1;pure (ForInStep.yield ((x.1,a)::cs)))else pure (ForInStep.yield cs):Sem (List (Str×Addr))) >>= λcs=>pure cs):=rfl
 rw[h2,h1,pure_bind]
theorem bW{env:Env}:∀(l:List (Str×NameKind)) (cs:List (Str×Addr)) (x:Str) (c:Addr),(∀y∈l,y.2=.free->∃c,env.cells.lookup y.1=some c)->(gw env l cs).lookup x=some c->env.cells.lookup x=some c\/cs.lookup x=some c
 | [],cs,x,c,_,h=>.inr h
 | (n,k)::r,cs,x,c,hl,h=>by
  unfold gw at h
  by_cases hk:k=.free
  ·subst hk
   simp only[beq_self_eq_true,if_true]at h;obtain⟨c',e⟩:=hl (n,.free) List.mem_cons_self rfl;have e':env.cells.lookup n=some c':=e;rcases bW r _ x c (λy hy=>hl y (List.mem_cons_of_mem _ hy)) h with q|q
   ·exact .inl q
   ·rw[List.lookup_cons]at q
    cases hx:x==n with
    | true =>
     rw[hx]at q;have:=eq_of_beq hx;subst this;rw[e',Option.getD_some]at q;exact .inl (e'.trans q)
    | false=>rw[hx]at q;exact .inr q
  ·have hb:(k==NameKind.free)=false:=by simpa using hk
   simp only[hb,Bool.false_eq_true,if_false]at h;exact bW r cs x c (λy hy=>hl y (List.mem_cons_of_mem _ hy)) h
theorem jt{env:Env}:∀(l:List (Str×NameKind)) (cs:List (Str×Addr)) (x:Str),(cs.lookup x).isSome=true->((gw env l cs).lookup x).isSome=true
 | [],cs,x,h=>h
 | (n,k)::r,cs,x,h=>by
  unfold gw
  by_cases hk:k=.free
  ·subst hk
   simp only[beq_self_eq_true,if_true];refine jt r _ x ?_;rw[List.lookup_cons];cases hx:x==n with
   | true=>rfl
   | false=>exact h
  ·have hb:(k==NameKind.free)=false:=by simpa using hk
   simp only[hb,Bool.false_eq_true,if_false];exact jt r cs x h
theorem gW{env:Env}:∀(l:List (Str×NameKind)) (cs:List (Str×Addr)) (x:Str),(x,NameKind.free)∈l->((gw env l cs).lookup x).isSome=true
 | (n,k)::r,cs,x,h=>by
  unfold gw;rcases List.mem_cons.mp h with e|e
  ·cases e
   simp only[beq_self_eq_true,if_true];refine jt r _ _ ?_;rw[List.lookup_cons,beq_self_eq_true];rfl
  ·split
   ·exact gW r _ x e
   ·exact gW r cs x e
structure j3(X X':Cx)(scope:Scope)(N':List Str):Prop where
 P:X'.prog=X.prog
 w:X'.w=X.w
 K:X'.K=X.K
 mg:X'.mg=X.mg
 base:X'.base=X.base
 A:X'.A=X.A
 N:X'.N=N'
 sc:X'.env.scope=relabel scope X.env
 calm:X'.calm=X.calm
 xe:X'.xe=λ_ _=>False
def EC(X:Cx)(ifs:List Expr)(t:TT):Prop:=∀(pins:List (Addr×Obj)) (s:Shared) (σ:St) (H:Hp) (Q:Bool->Hp->Prop),L2.Inv X pins σ H s->t σ H Q ->
 wpAny (model X.prog X.w) X.A (forIn ifs true λc r=>if r=true then do let ok <- isTrue c X.env (eval c X.env);pure (ForInStep.yield ok)else pure (ForInStep.yield r)) (TP X pins σ Q) X.xe s
theorem xF{X:Cx}:EC X [] (λ_ H Q=>Q true H):=λpins s σ H Q I h=>wpAny_tests_nil ⟨H,I,h⟩
theorem GO{X:Cx}{c:Expr}{t:TT}(h:PT X c t):EC X [c] t:=λpins s σ H Q I q=>wpAny_tests_one (h pins s σ H Q I q)
def k8(caps:List (Option Nat))(σ:St):St:=caps.map λc=>match c with
 | some j=>(σ[j]?).join
 | none=>none
def mM(wi:TI)(caps:List (Option Nat))(g:TG)(tc:TT)(te:TE):TE:=λσ H Q=>wi σ H λJ H1=>∀acc,H1 acc=none->∃W:Nat->Nat->St->Hp->Prop,(∃m,W 0 m (k8 caps σ) (upd H1 acc (.lst [])))/\∀i m aw H,W i m aw H ->
 (J.stop i H/\Q (.ref acc) H)\/(J.go i H/\∀x H',J.QD i H x H'->g x aw H' λbq H2=>tc bq H2 λb H3=>if b=true then te bq H3 λv H4=>∃ys m',H4 acc=some (.lst ys)/\ys.length<sizeLine/\m'<m/\W (i+1) m' bq (upd H4 acc (.lst (ys++[v])))else∃m',m'<m/\W (i+1) m' bq H3)
theorem eN{env:Env}:∀ {names:List (Str×NameKind)} {x:Str} {k:NameKind},(names.map λ(n,k)=>if(k==NameKind.free&&env.scope.kind==.function&&env.kindOf n==some .cell)then(n,NameKind.cell)else(n,k)).lookup x=some k ->
  names.lookup x=some k\/(k=.cell/\names.lookup x=some .free)
 | [],_,_,h=>by simp at h
 | (n,k')::r,x,k,h=>by
  have ih:=@eN env r x k;have h:List.lookup x ((if(k'==NameKind.free&&env.scope.kind==.function&&env.kindOf n==some .cell)=true then(n,NameKind.cell)else(n,k'))::_)=some k:=h
  cases hx:x==n with
  | true =>
   by_cases hc:(k'==NameKind.free&&env.scope.kind==.function&&env.kindOf n==some .cell)=true
   ·rw[if_pos hc]at h
    simp only[List.lookup_cons,hx]at h ⊢;cases h;simp only[Bool.and_eq_true,beq_iff_eq]at hc;exact .inr ⟨rfl,by rw[hc.1.1]⟩
   ·rw[if_neg hc]at h
    simp only[List.lookup_cons,hx]at h ⊢;exact .inl h
  | false =>
   by_cases hc:(k'==NameKind.free&&env.scope.kind==.function&&env.kindOf n==some .cell)=true
   ·rw[if_pos hc]at h
    simp only[List.lookup_cons,hx]at h ⊢;exact ih h
   ·rw[if_neg hc]at h
    simp only[List.lookup_cons,hx]at h ⊢;exact ih h
theorem iE{env:Env}:∀ {names:List (Str×NameKind)} {x:Str},names.lookup x=some .free ->
  (names.map λ(n,k)=>if(k==NameKind.free&&env.scope.kind==.function&&env.kindOf n==some .cell)then(n,NameKind.cell)else(n,k)).lookup x=some .cell \/
  (names.map λ(n,k)=>if(k==NameKind.free&&env.scope.kind==.function&&env.kindOf n==some .cell)then(n,NameKind.cell)else(n,k)).lookup x=some .free
 | [],_,h=>by simp at h
 | (n,k')::r,x,h=>by
  have ih:=@iE env r x;show List.lookup x ((if(k'==NameKind.free&&env.scope.kind==.function&&env.kindOf n==some .cell)=true then(n,NameKind.cell)else(n,k'))::_)=some .cell\/List.lookup x ((if(k'==NameKind.free&&env.scope.kind==.function&&env.kindOf n==some .cell)=true then(n,NameKind.cell)else(n,k'))::_)=some .free
  cases hx:x==n with
  | true =>
   simp only[List.lookup_cons,hx]at h
   by_cases hc:(k'==NameKind.free&&env.scope.kind==.function&&env.kindOf n==some .cell)=true
   ·rw[if_pos hc];left;simp only[List.lookup_cons,hx]
   ·rw[if_neg hc];right;simp only[List.lookup_cons,hx];exact h
  | false =>
   simp only[List.lookup_cons,hx]at h
   by_cases hc:(k'==NameKind.free&&env.scope.kind==.function&&env.kindOf n==some .cell)=true
   ·rw[if_pos hc];simp only[List.lookup_cons,hx];exact ih h
   ·rw[if_neg hc];simp only[List.lookup_cons,hx];exact ih h
structure eE(X:Cx)(scope:Scope)(N':List Str)(caps:List (Option Nat)):Prop where
 kind:scope.kind=.function
 lY:∀y∈scope.names,y.2≠.cell
 names:∀y∈scope.names,y.2=.local->scope.names.lookup y.1=some .local
 free:∀y∈scope.names,y.2=.free->X.env.kindOf y.1=some .cell\/X.env.kindOf y.1=some .free
 len:caps.length=N'.length
 V2:∀(i:Nat) (j:Nat),caps[i]?=some (some j)->∃x,N'[i]?=some x/\X.N[j]?=some x/\scope.names.lookup x=some .free
section
variable {X:Cx}{pins:List (Addr×Obj)}{σ:St}{H:Hp}{s:Shared}{elt target iter:Expr}{ifs:List Expr}{scope:Scope}{pos:Pos}{N':List Str}{caps:List (Option Nat)}
theorem eE.cells(SC:eE X scope N' caps)(ok:X.Ok):∀x∈scope.names,x.2=.free->∃c,X.env.cells.lookup x.1=some c:=λx hx hf=>ok.has x.1 (SC.free x hx hf)
def zP(X:Cx)(scope:Scope)(N':List Str)(cw:Shared)(kW:Hp)(C:Addr)(fp:List Addr):Cx:=
 {X with N:=N',cw:=cw,kW:=kW,env:=compEnvC scope (gw X.env scope.names []) C X.env,outer:=X.stack,ex:=fp,fn:=λ_=>false,pn:=[],xe:=λ_ _=>False}
theorem Kq(I:L2.Inv X pins σ H s)(SC:eE X scope N' caps){fp:List Addr}(hf:∀b∈fp,fV X pins H b)(fy:∀b∈fp,b<s.heap.objs.size):(zP X scope N' s H s.heap.objs.size fp).Ok where
 mod:=I.ok.mod
 kind:=SC.kind
 glob:=I.ok.glob
 blt:=I.ok.blt
 above:=Nat.le_refl _
 inj:=λx y c h1 h2=>by
  have f:∀z,(gw X.env scope.names []).lookup z=some c->X.env.cells.lookup z=some c:=λz h=>by
   rcases bW scope.names [] z c (SC.cells I.ok) h with q|q
   ·exact q
   ·cases q
  exact I.ok.inj x y c (f x h1) (f y h2)
 has:=λx hx=>by
  have hx:(relabel scope X.env).names.lookup x=some .cell\/(relabel scope X.env).names.lookup x=some .free:=hx;have wZ:scope.names.lookup x=some .free:=by
   rcases hx with hx|hx
   ·rcases eN hx with q|⟨_,q⟩
    ·exact absurd rfl (SC.lY _ (PySem.mem_of_lookup q))
    ·exact q
   ·rcases eN hx with q|⟨q,_⟩
    ·exact q
    ·cases q
  exact Option.isSome_iff_exists.mp (gW scope.names [] x (PySem.mem_of_lookup wZ))
 Qi:=λx c h=>by cases h
 hd:=I.ok.hd
 frames:=I.ok.frames
 VI:=.inl rfl
 Xl:=λb hb=>⟨Nat.ne_of_lt (fy b hb),λx c h=>by
  rcases bW scope.names [] x c (SC.cells I.ok) h with q|q
  ·exact(hf b hb).2.2.2.2.1 x c q
  ·cases q⟩
 bs:=I.bs
 EE:=Nat.le_trans I.ok.EE I.sz
 zb:=λb o e hb=>by
  rcases(hf b hb).2.2.2.1 with q|q
  ·exact I.ok.zb b o e q
  ·exact absurd (Nat.lt_of_lt_of_le (Heap.lt_size e) (Nat.le_trans I.ok.EE q)) (Nat.lt_irrefl _)
 Bi:=λb hb z=>by
  rcases List.mem_cons.mp (I.qZ b z)with q|q
  ·exact(hf b hb).2.1 q
  ·exact(hf b hb).2.2.1 q
 kC:=I.stack
 Lj:=I.xY
theorem Fh(I:L2.Inv X pins σ H s)(SC:eE X scope N' caps){fp:List Addr}(hf:∀b∈fp,fV X pins H b)(fy:∀b∈fp,b<s.heap.objs.size){h1:Heap}{t1:Nat}(hn:h1.Ns s.heap.objs.size (λ_=>none))(hk:∀b o,s.heap.get? b=some o->h1.get? b=some o)(ht:0<t1:=by walk_at "3"):
  L2.Inv (zP X scope N' s H s.heap.objs.size fp) [] (k8 caps σ) H {s with heap:=h1,toks:=t1} where
 ok:=Kq I SC hf fy
 os:=rfl
 tk:=ht
 bare:=I.bare
 base:=Un.kept hk
 loc:=by
  refine⟨_,hn,λi x v e1 e2 _=>?_⟩;have e2:(caps.map λc=>match c with|some j=>(σ[j]?).join|none=>none)[i]?=some (some v):=e2
  rw[List.getElem?_map]at e2;cases ec:caps[i]? with
  | none=>rw[ec]at e2;cases e2
  | some c =>
   rw[ec]at e2;cases c with
   | none=>cases e2
   | some j =>
    have e2:(σ[j]?).join=some v:=Option.some.inj e2;have e3:σ[j]?=some (some v):=by
     cases q:σ[j]? with
     | none=>rw[q]at e2;cases e2
     | some w =>
      rw[q]at e2;cases w with
      | none=>cases e2
      | some z=>cases e2;rfl
    obtain⟨y,w1,w2,w3⟩:=SC.V2 i j ec;have e1:N'[i]?=some x:=e1;rw[w1]at e1;cases e1;have pM:=SC.free (x,.free) (PySem.mem_of_lookup w3) rfl;obtain⟨m,hm,hl⟩:=I.loc;obtain⟨u,r,l⟩:=hl j x v w2 e3 (.inr pM);refine⟨u,r,?_⟩;rcases l with⟨k1,_⟩|⟨_,c,EH,wY⟩
    ·have pM:X.env.kindOf x=some .cell\/X.env.kindOf x=some .free:=pM
     rw[k1]at pM;rcases pM with z|z<;>cases z
    ·right
     refine⟨iE w3,c,?_,?_⟩
     ·obtain⟨c',e'⟩:=Option.isSome_iff_exists.mp (gW (env:=X.env) scope.names [] x (PySem.mem_of_lookup w3))
      rcases bW scope.names [] x c' (SC.cells I.ok) e' with q|q
      ·rw[EH]at q;cases q
       exact e'
      ·cases q
     ·obtain⟨o,ho,hd⟩:=wY
      exact⟨o,hk _ _ ho,hd⟩
 cell:=λx c h=>by
  rcases bW scope.names [] x c (SC.cells I.ok) h with q|q
  ·obtain⟨v,o,ho,hd⟩:=I.cell x c q
   exact⟨v,o,hk _ _ ho,hd⟩
  ·cases q
 free:=I.bP.fresh (Nat.le_refl _)
 eV:=λx c h=>by
  rcases bW scope.names [] x c (SC.cells I.ok) h with q|q
  ·exact I.eV x c q
  ·cases q
 pin:=λp hp=>absurd (show p∈([]:List (Addr×Obj))from hp) (by simp)
 bP:=I.bP.kept hk
 len:=by
  show(caps.map _).length=N'.length;rw[List.length_map];exact SC.len
theorem rZ{Cc:Cx->Prop}(I:L2.Inv X pins σ H s)(SC:eE X scope N' caps)(hc:∀(cw:Shared) (kW:Hp) (L:Addr) (fp:List Addr),Cc (zP X scope N' cw kW L fp)){it:Addr}{fp:List Addr}{tn:Nat->Heap->Prop}{J:It}(T:Aj Cc X.prog X.w X.K target J fp it tn)(t0:tn 0 s.heap)(hf:∀b∈fp,fV X pins H b)
  {g:TG} {tc:TT} {te:TE} (pL:∀X',j3 X X' scope N'->PG X' target g/\EC X' ifs tc/\PE X' elt te) {Q:VK}
  (q:∀acc,H acc=none->∃W:Nat->Nat->St->Hp->Prop,(∃m,W 0 m (k8 caps σ) (upd H acc (.lst [])))/\∀i m aw H,W i m aw H ->
   (J.stop i H/\Q (.ref acc) H)\/(J.go i H/\∀x H',J.QD i H x H'->g x aw H' λbq H2=>tc bq H2 λb H3=>if b=true then te bq H3 λv H4=>∃ys m',H4 acc=some (.lst ys)/\ys.length<sizeLine/\m'<m/\W (i+1) m' bq (upd H4 acc (.lst (ys++[v])))else∃m',m'<m/\W (i+1) m' bq H3))
  {E:Value->Shared->Prop} {RR:Value->Addr->Result->Shared->Prop}
  (hRR:∀acc C H' s',L2.Inv X pins σ H' s'->fV X pins H' C->(∃m,s'.heap.Ns C m)->Q (.ref acc) H'->RR (.ref acc) C (.ok .next) s'):
  wpAny (model X.prog X.w) X.A (newList []) (λacc DP=>wpAny (model X.prog X.w) X.A (newFunctionEnv scope X.env.globals (gw X.env scope.names []) [] X.env.qual none .none (some X.env)) (λRl G7 =>
   codeAny (model X.prog X.w) X.A (.compStart (.ListComp elt [⟨target,iter,ifs,0⟩] scope pos) 0 (.ref it) acc {Rl with scope:=relabel scope X.env}) (RR acc Rl.locals) G7) E DP) E s:=by
 refine wpAny_newObj_type ?_;have d0:H s.heap.objs.size=none:=I.bP.fresh (Nat.le_refl _);have I3:L2.Inv X pins σ (upd H s.heap.objs.size (.lst [])) {s with heap:=s.heap.push {cls:=.type "list",dict:=none,data:=.seq ([]:List Value).toArray}}:=I.Mx (t':=s.toks) (its:=[]) (ys:=[]) .nil (Nat.zero_le _)
 obtain⟨W,⟨m0,w0⟩,step⟩:=q _ d0;generalize hs3:({s with heap:=s.heap.push {cls:=.type "list",dict:=none,data:=.seq ([]:List Value).toArray}}:Shared)=s3 at I3 ⊢
 generalize hH3:upd H s.heap.objs.size (.lst [])=H3 at I3 w0;generalize nX:s.heap.objs.size=acc at *;have up3:∀b o,s.heap.get? b=some o->s3.heap.get? b=some o:=λb o e=>by rw[<- hs3];exact Heap.get?_push_of_some _ e
 have SA:∀b∈fp,b<s3.heap.objs.size:=λb hb=>by
  obtain⟨o,e,_⟩:=T.obj 0 _ t0 b hb;exact Heap.lt_size (up3 b o e)
 have Wa:∀b∈fp,fV X pins H3 b:=λb hb=>by
  obtain⟨f0,f⟩:=hf b hb;refine⟨?_,f⟩;obtain⟨o,e,_⟩:=T.obj 0 _ t0 b hb;have:b≠acc:=by rw[<- nX];exact Nat.ne_of_lt (Heap.lt_size e)
  rw[<- hH3,aq this];exact f0
 have t3:tn 0 s3.heap:=T.keep 0 _ _ t0 λb _ o e=>up3 b o e;refine wpAny_newFunctionEnv SC.lY (by intro y hy;simp at hy) (λh1 IG sb1=>?_) SC.kind
 have pN:∀b o,s3.heap.get? b=some o->h1.get? b=some o:=λb o e=>sb1.extBut b o (Nat.ne_of_lt (Heap.lt_size e)) (Heap.get?_push_of_some _ e);have cx:j3 X (zP X scope N' s3 H3 s3.heap.objs.size fp) scope N':=⟨rfl,rfl,rfl,rfl,rfl,rfl,rfl,rfl,rfl,rfl⟩;obtain⟨hg,ht,he⟩:=pL _ cx;have LL:h1.Ns s3.heap.objs.size (λ_=>none):=by simpa using IG
 have Xp:∀ {H':Hp},(∀b∈fp,H' b=none)->∀b∈fp,fV (zP X scope N' s3 H3 s3.heap.objs.size fp) [] H' b:=λ{H'} hn b hb=>by
  obtain⟨f0,f1,f2,f3,f4,f5⟩:=Wa b hb;refine⟨hn b hb,Nat.ne_of_lt (SA b hb),?_,.inl hb,λx c h=>?_,λp hp=>absurd (show p∈([]:List (Addr×Obj))from hp) (by simp)⟩
  ·intro z
   rcases List.mem_cons.mp (I3.qZ b z)with q|q
   ·exact f1 q
   ·exact f2 q
  ·rcases bW scope.names [] x c (SC.cells I.ok) h with q|q
   ·exact f4 x c q
   ·cases q
 have loop:∀s4:Shared,L2.Inv (zP X scope N' s3 H3 s3.heap.objs.size fp) [] (k8 caps σ) H3 s4->tn 0 s4.heap->codeAny (model X.prog X.w) X.A (.compLoop (.ListComp elt [⟨target,iter,ifs,0⟩] scope pos) 0 (.ref it) (.ref acc) (compEnvC scope (gw X.env scope.names []) s3.heap.objs.size X.env)) (RR (.ref acc) s3.heap.objs.size) s4:=by
  intro s4 I4 t4;refine ph (λn s'=>∃i aw H',L2.Inv (zP X scope N' s3 H3 s3.heap.objs.size fp) [] aw H' s'/\tn i s'.heap/\(∀b∈fp,H' b=none)/\W i n aw H') ?_ m0 ⟨0,_,H3,I4,t4,λb hb=>(Wa b hb).1,w0⟩;rintro n s5 ⟨i,aw,H5,I5,Qx,Li,w5⟩;rcases step i n aw H5 w5 with⟨stop,qn⟩|⟨go,body⟩
  ·refine cj (T.done (zP X scope N' s3 H3 s3.heap.objs.size fp) rfl rfl rfl (hc _ _ _ _) i [] s5 aw H5 _ I5 (Xp Li) Qx stop) λr s6 ⟨hr,I6⟩=>?_
   subst hr;have u:=I6.base;refine hRR acc _ H5 s6 (I3.Rk (ch:=fp) I6.os u I6.bP I6.bare λb hb=>?_) (I3.vC (Nat.le_refl _) I6.free) ?_ qn
   ·obtain⟨f0,f1,f2,f3,f4,f5⟩:=Wa b hb
    exact⟨f3.imp id λz=>Heap.get?_none_of_le z,f1,f4,f5⟩
   ·obtain⟨m,hm,_⟩:=I6.loc
    exact⟨m,hm⟩
  ·refine cj (T.item (zP X scope N' s3 H3 s3.heap.objs.size fp) rfl rfl rfl (hc _ _ _ _) i [] s5 aw H5 _ I5 (Xp Li) Qx go) λr s6 ⟨u,hr,h6⟩=>?_
   subst hr;refine cj h6 λ_ s7 ⟨x,H7,I7,r7,y7,YX,fr7⟩=>?_;have I7':=I7.pinned (Xp fr7) (T.obj _ _ YX);have back:∀ {E2:St} {H8:Hp} {s8:Shared},L2.Inv (zP X scope N' s3 H3 s3.heap.objs.size fp) ([]++jI fp s7.heap) E2 H8 s8->L2.Inv (zP X scope N' s3 H3 s3.heap.objs.size fp) [] E2 H8 s8/\tn (i+1) s8.heap/\∀b∈fp,H8 b=none:=λ{E2 H8 s8} I8=>by
    refine⟨I8.fJ,T.keep _ _ _ YX λb hb o e=>(I8.pin (b,o) (List.mem_append_right _ (List.mem_append_right _ (dN hb e)))).1,λb hb=>?_⟩;obtain⟨o,e,d⟩:=T.obj _ _ YX b hb;exact(I8.pin (b,o) (List.mem_append_right _ (List.mem_append_right _ (dN hb e)))).2.1
   refine cj (hg _ s7 aw H7 x u _ I7' r7 (body x H7 y7)) λ_ s8 ⟨E2,H8,I8,q8⟩=>?_;refine cj (ht _ s8 E2 H8 _ I8 q8) λb s9 ⟨H9,I9,q9⟩=>?_;cases b with
   | false =>
    obtain⟨m',hm,w9⟩:=q9;obtain⟨J1,J2,J3⟩:=back I9;exact⟨m',hm,i+1,E2,H9,J1,J2,J3,w9⟩
   | true =>
    refine cj (he _ s9 E2 H9 _ I9 q9) λy s10 ⟨v,H10,I10,r10,ys,m',W6,hz,hm,w10⟩=>?_;refine cj (jG _ s10 E2 H10 (.ref acc) [v] (.ref acc) [y] (λz WL=>z=.bx/\W (i+1) m' E2 WL) I10 rfl (.cons r10 .nil) ⟨acc,ys,v,rfl,rfl,W6,hz,rfl,w10⟩) λ_ s11 ⟨_,WL,I11,_,_,w11⟩=>?_;obtain⟨J1,J2,J3⟩:=back I11;exact⟨m',hm,i+1,E2,WL,J1,J2,J3,w11⟩
 have I4:=Fh (caps:=caps) (N':=N') I3 SC Wa SA (t1:=s3.toks+([]:List (Str×Value)).length) LL pN;have t4:tn 0 h1:=T.keep 0 _ _ t3 λb _ o e=>pN b o e;exact codeAny_compStart_list (loop _ I4 t4) (T.self X.A 0 _ _ _ t4 (loop _ I4 t4))
end
end Vc
namespace Vc
open PySem L2
variable [KF]
section
variable {X:Cx}{elt target iter:Expr}{ifs:List Expr}{scope:Scope}{pos:Pos}{N':List Str}{caps:List (Option Nat)}{wi:TI}{g:TG}{tc:TT}{te:TE}
theorem wQ{pins:List (Addr×Obj)}{σ:St}{H:Hp}{s:Shared}{C:Addr}{h':Heap}(f:fV X pins H C)(I:L2.Inv X pins σ H s)(hs:Heap.SameBut C s.heap h'):L2.Inv X pins σ H {s with heap:=h'}:=by
 obtain⟨f0,f1,f2,f3,f4,f5⟩:=f;exact I.turned (t':=s.toks) (λb o hb e=>hs.extBut b o hb e) f0 f1 f3 f4 f5
theorem C2{Cc:Cx->Prop}(hc:∀(cw:Shared) (kW:Hp) (L:Addr) (fp:List Addr),Cc (zP X scope N' cw kW L fp))(hi:Zj Cc X target iter wi)(SC:eE X scope N' caps)(pL:∀X',j3 X X' scope N'->PG X' target g/\EC X' ifs tc/\PE X' elt te)(hs:∀x,foldedSetIterable iter X.env x=pure x):
  PE X (.ListComp elt [⟨target,iter,ifs,0⟩] scope pos) (mM wi caps g tc te):=by
 intro pins s σ H Q I h;rw[eval_ListComp];refine wpAny_comprehension_free (use:=none) rfl hs (k9 (SC.cells I.ok)) SC.kind SC.names (cj (hi pins s σ H _ I h) λv s1 h1=>cj h1 λWl s2 h2=>?_);obtain⟨it,fp,tn,J,H2,rfl,I2,T,t0,f2,q2⟩:=h2;exact rZ I2 SC hc T t0 f2 pL q2 (RR:=λacc C=>compPost (model X.prog X.w) X.A X.xe none (EP X pins σ Q) acc C) λacc C H' s' I' f' ⟨m,hm⟩ q'=>⟨m,hm,λh' hs'=>⟨.ref acc,H',wQ f' I' hs',rfl,q'⟩⟩
theorem qh(hc:X.calm=true)(hi:PI X target iter wi)(SC:eE X scope N' caps)(pL:∀X',j3 X X' scope N'->PG X' target g/\EC X' ifs tc/\PE X' elt te)(hs:∀x,foldedSetIterable iter X.env x=pure x):
  PE X (.ListComp elt [⟨target,iter,ifs,0⟩] scope pos) (mM wi caps g tc te):=C2 (λ_ _ _ _=>hc) hi SC pL hs
theorem xC{i:Nat}{y:Str}{py fb:Pos}(hc:X.calm=true)(hi:PI X target iter wi)(SC:eE X scope N' caps)(pL:∀X',j3 X X' scope N'->PG X' target g/\EC X' ifs tc/\PE X' elt te)(hs:∀x,foldedSetIterable iter X.env x=pure x)
  (hN:X.N.Nodup) (hy:X.N[i]?=some y) (hx:X.env.scope.names.lookup y=some .local) (hsw:swapsWith (.ListComp elt [⟨target,iter,ifs,0⟩] scope pos) (some (.Name y py)) fb.line X.env=pure true):
  PS X (.Assign [.Name y py] (.ListComp elt [⟨target,iter,ifs,0⟩] scope pos) fb) (G8 (mM wi caps g tc te) (hE i)):=by
 intro pins s σ H D I h;rw[exec_Assign_Name_used _ _ _ _ hsw];refine wpAny_bind (wpAny_standAt (wpAny_bind ?_));show wpAny _ X.A (do let _ <- comprehension (.ListComp elt [⟨target,iter,ifs,0⟩] scope pos) scope X.env _ (newList []) false (eval iter X.env) (some (assign (.Name y py) X.env))) _ _ s
 refine wpAny_bind (wpAny_mono (wpAny_comprehension_free (use:=some (assign (.Name y py) X.env)) (Q:=λ_ s'=>SP X pins D .next s') rfl hs (k9 (SC.cells I.ok)) SC.kind SC.names (cj (hi pins s σ H _ I h) λv s1 h1=>cj h1 λWl s2 h2=>?_))
  (λ_ s' hq=>wpAny_pure (wpAny_pure hq)) λ_ _ e=>e)
 obtain⟨it,fp,tn,J,H2,rfl,I2,T,t0,f2,q2⟩:=h2;refine rZ (Q:=λx H1=>hE i x σ H1 D.nx) I2 SC (λ_ _ _ _=>hc) T t0 f2 pL q2 (RR:=λacc C=>compPost (model X.prog X.w) X.A X.xe (some (assign (.Name y py) X.env)) (λ_ s'=>SP X pins D .next s') acc C) λacc C H' s' I' f' ⟨m,hm⟩ q'=>?_;show wpAny _ X.A (assign (.Name y py) X.env (.ref acc)) _ _ s';obtain⟨o,es,ep,ho,hd,r⟩:=id hm;have Ip:L2.Inv X (pins++jI [C] s'.heap) σ H' s':=I'.pinned (fp:=[C]) (λb hb=>(show b=C by simpa using hb) ▸ f') (λb hb=>by
  have e:b=C:=by simpa using hb
  subst e;exact⟨o,ho,λv z=>by rw[hd]at z;cases z⟩)
 refine wpAny_assign_Name (mL Ip hN hy (.inl hx) (show RelV (.ref acc) (.ref acc)from rfl) (λOy Zg=>?_) (.inr hx))
 have hC:Oy.heap.get? C=some o:=(Zg.pin (C,o) (List.mem_append_right _ (List.mem_append_right _ (dN (by simp) ho)))).1
 exact⟨m,⟨o,es,ep,hC,hd,r⟩,λh' hs'=>⟨_,H',wQ f' Zg.fJ hs',q'⟩⟩
end
variable {G:GE}{k:Nat}{S:Stat}
def iD(names sc:List (Str×NameKind)):List (Str×NameKind):=names.map λ(n,k)=>if(k==.free&&sc.lookup n==some .cell)then(n,.cell)else(n,k)
def bo(S:Stat)(scope:Scope)(N':List Str):Stat:=⟨N',iD scope.names S.sc,[],true,false,false,λ_ _=>False⟩
structure jZ(S:Stat)(scope:Scope)(N':List Str)(caps:List (Option Nat)):Prop where
 kind:scope.kind=.function
 nd:N'.Nodup
 lY:scope.names.all (λy=>y.2 != .cell)=true
 names:scope.names.all (λy=>y.2 != .local||scope.names.lookup y.1==some .local)=true
 free:scope.names.all (λy=>y.2 != .free||S.sc.lookup y.1==some .cell||S.sc.lookup y.1==some .free)=true
 len:caps.length=N'.length
 V2:(caps.zip N').all (λp=>match p.1 with|some j=>S.N[j]?==some p.2&&scope.names.lookup p.2==some .free|none=>true)=true
theorem jZ.sc{scope:Scope}{N':List Str}{caps:List (Option Nat)}(b:jZ S scope N' caps){X:Cx}{Y:bC}(ok:dA X G k S Y):eE X scope N' caps where
 kind:=b.kind
 lY:=λy hy z=>by
  have:=List.all_eq_true.mp b.lY y hy;rw[z]at this;cases this
 names:=λy hy z=>by
  have:=List.all_eq_true.mp b.names y hy;rw[z]at this;simpa using this
 free:=λy hy z=>by
  have:=List.all_eq_true.mp b.free y hy;rw[z]at this;have kd:X.env.kindOf y.1=S.sc.lookup y.1:=by
   show X.env.scope.names.lookup y.1=_;rw[ok.sc]
  rw[kd];simpa using this
 len:=b.len
 V2:=λi j e=>by
  have hl:i<caps.length:=(List.getElem?_eq_some_iff.mp e).1;have LK:i<N'.length:=by rw[<- b.len];exact hl
  have hz:(caps.zip N')[i]?=some (some j,N'[i]):=by
   rw[List.getElem?_zip_eq_some];exact⟨e,by rw[List.getElem?_eq_getElem LK]⟩
  have:=List.all_eq_true.mp b.V2 _ (List.mem_of_getElem? hz);simp only[Bool.and_eq_true,beq_iff_eq]at this;exact⟨N'[i],by rw[List.getElem?_eq_getElem LK],by rw[ok.N];exact this.1,this.2⟩
theorem dG{X X':Cx}{Y:bC}{scope:Scope}{N':List Str}{caps:List (Option Nat)}(hh:S.kE=false)(ok:dA X G k S Y)(b:jZ S scope N' caps)(c:j3 X X' scope N')(Y':bC)(dk:Y'.io=[]):dA X' G k (bo S scope N') Y' where
 P:=c.P.trans ok.P
 w:=c.w.trans ok.w
 K:=c.K.trans ok.K
 kf:=c.K.trans ok.kf
 mg:=c.mg.trans ok.mg
 obs:=λh=>nomatch h
 base:=c.base.trans ok.base
 N:=c.N
 sc:=by
  rw[c.sc];show scope.names.map _=iD scope.names S.sc;unfold iD;refine List.map_congr_left λy _=>?_;obtain⟨n,kk⟩:=y;have kd:X.env.kindOf n=S.sc.lookup n:=by
   show X.env.scope.names.lookup n=_;rw[ok.sc]
  simp only[ok.kind,kd,beq_self_eq_true,Bool.and_true]
 nd:=b.nd
 ios:=λp hp=>by rw[dk]at hp;cases hp
 calm:=λ_=>c.calm.trans (ok.calm hh)
 kind:=by rw[c.sc];exact b.kind
 fn:=λh=>by cases h
 hd:=λ_=>by rw[c.A];exact ok.hd hh
 dp:=by rw[c.A];exact ok.dp
 un:=by rw[c.A];exact ok.un
 po:=λ_=>by rw[c.xe];exact PassesOwn.never
 nx:=λh=>nomatch h
 exc:=λ_ _ h=>h.elim
 made:=λh=>nomatch h
 hx:=λ_ h=>nomatch h
def pR:Sd->Sd->Prop
 | [],[]=>True
 | none::r,_::s=>pR r s
 | some b::r,c::s=>c=some b/\pR r s
 | _,_=>False
theorem pS:∀ {a b:Sd} {i:Nat} {x:B},pR a b->a[i]?=some (some x)->b[i]?=some (some x)
 | [],[],_,_,_,e=>by simp at e
 | none::r,c::s,0,_,h,e=>by simp at e
 | none::r,c::s,i+1,x,h,e=>by
  have h:pR r s:=h;simpa using pS (i:=i) h (by simpa using e)
 | some b::r,c::s,0,x,h,e=>by
  obtain⟨h1,h2⟩:c=some b/\pR r s:=h;simp at e;subst e;simp [h1]
 | some b::r,c::s,i+1,x,h,e=>by
  obtain⟨h1,h2⟩:c=some b/\pR r s:=h;simpa using pS (i:=i) h2 (by simpa using e)
 | [],_::_,_,_,h,_=>h.elim
 | none::_,[],_,_,h,_=>h.elim
 | some _::_,[],_,_,h,_=>h.elim
theorem pT:∀ {a b:Sd},pR a b->a.length=b.length
 | [],[],_=>rfl
 | none::r,c::s,h=>by
  have h:pR r s:=h;simp [pT h]
 | some b::r,c::s,h=>by
  obtain⟨_,h2⟩:c=some b/\pR r s:=h;simp [pT h2]
 | [],_::_,h=>h.elim
 | none::_,[],h=>h.elim
 | some _::_,[],h=>h.elim
def vD(ios:List Nat):List (Option Nat)->Sd->(Sd->Prop)->Prop
 | [],σ,Q=>Q σ
 | none::r,σ,Q=>vD ios r σ Q
 | some j::r,σ,Q=>match σ[j]? with
  | some (some (.own xs))=>j∉ios/\vD ios r (σ.set j (some (.sh (.lst xs)))) Q
  | _=>vD ios r σ Q
def gU(caps:List (Option Nat))(σ:Sd):Sd:=caps.map λc=>match c with
 | some j=>match σ[j]? with
  | some (some (.sh d))=>some (.sh d)
  | _=>none
 | none=>none
def gf(g:rD)(tc:TB)(te:TD)(σ0:Sd):List D->List D->(List D->Prop)->Prop
 | [],acc,Q=>Q acc
 | x::xs,acc,Q=>g x σ0 λaw=>tc aw λb bq=>if b=true then te bq λd fe=>pR σ0 fe/\acc.length<sizeLine/\gf g tc te σ0 xs (acc++[d]) Q else pR σ0 bq/\gf g tc te σ0 xs acc Q
def eC(ios:List Nat)(caps:List (Option Nat))(ti:eD)(g:rD)(tc:TB)(te:TD):TX:=λσ Q=>ti σ λitems aw=>vD ios caps aw λbq=>gf g tc te (gU caps bq) items [] λds=>Q (.own ds) bq
theorem eL{ios:List Nat}{Y:bC}(dk:∀p∈Y.io,p.1∈ios):∀ {caps:List (Option Nat)} {F:Hp} {ak:Sd} {σ:St} {H:Hp} {Q:Sd->Prop},RS Y F ak σ H->vD ios caps ak Q->∃F' aG,ao F F'/\RS Y F' aG σ H/\Q aG
 | [],F,ak,σ,H,Q,R,q=>⟨F,ak,ao.refl _,R,q⟩
 | none::r,F,ak,σ,H,Q,R,q=>eL dk (caps:=r) R q
 | some j::r,F,ak,σ,H,Q,R,q=>by
  unfold vD at q
  split at q
  ·rename_i xs e
   obtain⟨F2,v2,s2,R2,e2,r2⟩:=R.jw e λp hp z=>q.1 (z ▸ dk p hp);obtain⟨F3,fe,s3,R3,q3⟩:=eL dk (caps:=r) R2 q.2;exact⟨F3,fe,s2.trans s3,R3,q3⟩
  ·exact eL dk (caps:=r) R q
theorem eK(caps:List (Option Nat))(ak:Sd):∀(i:Nat) (o:O),(gU caps ak)[i]?≠some (some (.obj o)):=λi o e=>by
 unfold gU at e;rw[List.getElem?_map]at e;cases ec:caps[i]? with
 | none=>rw[ec]at e;cases e
 | some c =>
  rw[ec]at e;cases c with
  | none=>cases e
  | some j =>
   have e:(match ak[j]? with|some (some (.sh d))=>some (B.sh d)|_=>none)=some (.obj o):=Option.some.inj e
   split at e<;>cases e
theorem wJ{Y:bC}{F:Hp}{ak:Sd}{σ:St}{H:Hp}(R:RS Y F ak σ H)(caps:List (Option Nat)){F' H':Hp}(s1:ao F F')(s2:ao F' H'):RS ⟨H',F',[],[]⟩ F' (gU caps ak) (k8 caps σ) H' where
 len:=by unfold gU k8;simp
 lo:=ao.refl _
 fr:=s2
 fh:=λb o e=>.inl e
 old:=λb o e _=>e
 sh:=λi d e=>by
  unfold gU at e;rw[List.getElem?_map]at e;unfold k8;rw[List.getElem?_map];cases ec:caps[i]? with
  | none=>rw[ec]at e;cases e
  | some c =>
   rw[ec]at e;cases c with
   | none=>cases e
   | some j =>
    have e:(match ak[j]? with|some (some (.sh d))=>some (B.sh d)|_=>none)=some (.sh d):=Option.some.inj e
    split at e
    ·rename_i d' q
     cases e;obtain⟨v,h1,h2⟩:=R.sh j d q;exact⟨v,by show some ((σ[j]?).join)=_;rw[h1];rfl,h2.mono s1⟩
    ·cases e
 own:=λi xs e=>by
  unfold gU at e;rw[List.getElem?_map]at e;cases ec:caps[i]? with
  | none=>rw[ec]at e;cases e
  | some c =>
   rw[ec]at e;cases c with
   | none=>cases e
   | some j =>
    have e:(match ak[j]? with|some (some (.sh d))=>some (B.sh d)|_=>none)=some (.own xs):=Option.some.inj e
    split at e<;>cases e
 dis:=λi j xs ys a e=>by
  exfalso;unfold gU at e;rw[List.getElem?_map]at e;cases ec:caps[i]? with
  | none=>rw[ec]at e;cases e
  | some c =>
   rw[ec]at e;cases c with
   | none=>cases e
   | some j =>
    have e:(match ak[j]? with|some (some (.sh d))=>some (B.sh d)|_=>none)=some (.own xs):=Option.some.inj e
    split at e<;>cases e
 io:=λp hp=>by cases hp
 ob:=.none (eK _ _) (R.ob.tab.mono s1) λb hb=>by cases hb
theorem RS.less{Y:bC}{F:Hp}{σ0 ak:Sd}{σ:St}{H:Hp}(R:RS Y F ak σ H)(l:pR σ0 ak)(IX:∀(i:Nat) (xs:List D),σ0[i]?≠some (some (.own xs)))(Ue:∀(i:Nat) (o:O),σ0[i]?≠some (some (.obj o))){H':Hp}(s:ao F H'):RS ⟨H',F,[],[]⟩ F σ0 σ H' where
 len:=(pT l).trans R.len
 lo:=ao.refl _
 fr:=s
 fh:=λb o e=>.inl e
 old:=λb o e _=>e
 sh:=λi d e=>R.sh i d (pS l e)
 own:=λi xs e=>absurd e (IX i xs)
 dis:=λi j xs ys a e=>absurd e (IX i xs)
 io:=λp hp=>by cases hp
 ob:=.none Ue R.ob.tab λb hb=>by cases hb
theorem gv(caps:List (Option Nat))(ak:Sd):∀(i:Nat) (xs:List D),(gU caps ak)[i]?≠some (some (.own xs)):=λi xs e=>by
 unfold gU at e;rw[List.getElem?_map]at e;cases ec:caps[i]? with
 | none=>rw[ec]at e;cases e
 | some c =>
  rw[ec]at e;cases c with
  | none=>cases e
  | some j =>
   have e:(match ak[j]? with|some (some (.sh d))=>some (B.sh d)|_=>none)=some (.own xs):=Option.some.inj e
   split at e<;>cases e
theorem iw:∀a:Sd,pR a a
 | []=>trivial
 | none::r=>iw r
 | some b::r=>⟨rfl,iw r⟩
theorem RS.other{Y:bC}{F:Hp}{ak:Sd}{σ:St}{H:Hp}{a:Addr}{o:HO}(R:RS Y F ak σ H)(h1:F a=none)(h2:Y.H0 a=none)(h3:cH ak σ a):RS Y F ak σ (upd H a o) where
 len:=R.len
 lo:=R.lo
 fr:=λb u e=>by
  have:b≠a:=λz=>by rw[z,h1]at e;cases e
  rw[aq this];exact R.fr b u e
 fh:=R.fh
 old:=λb u e n=>by
  have:b≠a:=λz=>by rw[z,h2]at e;cases e
  rw[aq this];exact R.old b u e n
 sh:=R.sh
 own:=λi xs e=>by
  obtain⟨b,vs,w1,w2,w3⟩:=R.own i xs e;have:b≠a:=λz=>h3 i xs e (by rw[w1,z])
  exact⟨b,vs,w1,by rw[aq this];exact w2,w3⟩
 dis:=R.dis
 io:=R.io
 ob:=R.ob.step (ao.refl _) (λ_ _ e=>⟨e,rfl⟩) (λb hb=>by
  obtain⟨w1,w2,w3⟩:=R.ob.owned hb;have cm:b≠a:=λz=>h3.IW (z ▸ hb);exact⟨aq cm,w1,w3⟩) R.ob.ju λb hb=>by
  by_cases cm:b=a
  ·rw[cm,aB];exactλz=>nomatch z
  ·rw[aq cm];exact R.ob.there b hb
def Wn(g:rD):TG:=λv σ H Q=>∃Y:bC,Y.io=[]/\lG Y g v σ H Q
def Wm(t:TB):TT:=λσ H Q=>∃Y:bC,Y.io=[]/\lB Y t σ H Q
def Yp(t:TD):TE:=λσ H Q=>∃Y:bC,Y.io=[]/\lD Y t σ H Q
structure Js(G:GE)(k:Nat)(S:Stat)(ifs:List Expr)(t:TB) :Prop where
 run:∀X Y,dA X G k S Y->EC X ifs (lB Y t)
instance {G:GE} {k:Nat} {S:Stat} {ifs:List Expr} {t:TB} :CoeFun (Js G k S ifs t) λ_=>∀X Y,dA X G k S Y->EC X ifs (lB Y t):=⟨Js.run⟩
def gq:TB:=λσ Q=>Q true σ
theorem kZ:Js G k S [] gq:=.mk λX Y ok pins s σ H Q I q=>xF pins s σ H Q I (by
 obtain⟨F,ak,Qd,R,q,K⟩:=q;exact K true H F ak (ao.refl _) R q)
theorem HW{c:Expr}{t:TB}(h:EB G k S c t):Js G k S [c] t:=.mk λX Y ok=>GO (h X Y ok)
section
variable {elt target iter:Expr}{ifs:List Expr}{scope:Scope}{pos:Pos}{N':List Str}{caps:List (Option Nat)}{ti:eD}{g:rD}{tc:TB}{te:TD}
theorem pj{X:Cx}{Y:bC}(hh:S.kE=false)(ok:dA X G k S Y)(b:jZ S scope N' caps)(hg:EG G k (bo S scope N') target g)(ht:Js G k (bo S scope N') ifs tc)(he:ED G k (bo S scope N') elt te):
  ∀X',j3 X X' scope N'->PG X' target (Wn g)/\EC X' ifs (Wm tc)/\PE X' elt (Yp te):=λX' c =>
 ⟨λpins s σ H v u Q I r ⟨Y',dk,q⟩=>hg X' Y' (dG hh ok b c Y' dk) pins s σ H v u Q I r q,λpins s σ H Q I ⟨Y',dk,q⟩=>ht X' Y' (dG hh ok b c Y' dk) pins s σ H Q I q,λpins s σ H Q I ⟨Y',dk,q⟩=>he X' Y' (dG hh ok b c Y' dk) pins s σ H Q I q⟩
theorem lg{Y:bC}{ios:List Nat}(dk:∀p∈Y.io,p.1∈ios){σ:St}{H:Hp}{Q:VK}(q:lX Y (eC ios caps ti g tc te) σ H Q):mM (lI Y ti) caps (Wn g) (Wm tc) (Yp te) σ H Q:=by
 obtain⟨F,ak,Qd,R,q,K⟩:=q;refine⟨F,ak,_,R,q,λH1 F1 zN J items s1 R1 it q1 acc d0=>?_⟩;obtain⟨F2,cB,s2,R2,q2⟩:=eL dk R1 q1;have it2:=it.mono s2;have a0:Y.H0 acc=none:=(R2.b7 d0).1;have aF:F2 acc=none:=same_none R2.fr d0;have aN:cH cB σ acc:=R2.dg d0;have sw:∀ {F5 H5:Hp} {o:HO},ao F5 H5->F5 acc=none->ao F5 (upd H5 acc o):=λ{F5 H5 o} s5 h b u e=>by
  have:b≠acc:=λz=>by rw[z,h]at e;cases e
  rw[aq this];exact s5 b u e
 refine⟨λi m aw H'=>∃Fi ds ys,ao F2 Fi/\RS Y Fi cB σ H'/\H' acc=some (.lst ys)/\aE Fi ys ds/\Fi acc=none/\RS ⟨H',Fi,[],[]⟩ Fi (gU caps cB) aw H'/\gf g tc te (gU caps cB) (items.drop i) ds (λds=>Qd (.own ds) cB)/\m=items.length-i/\i<=items.length,
  ⟨items.length,F2,[],[],ao.refl _,R2.other aF a0 aN,aB,.nil,aF,wJ R2 caps (ao.refl _) (sw R2.fr aF),q2,rfl,Nat.zero_le _⟩,?_⟩
 rintro i m aw Hi ⟨Fi,ds,ys,si,Ri,kc,ri,fi,WW,qi,rfl,hi⟩;have Cu:=it2 Fi Hi si Ri.fr i
 by_cases hl:i<items.length
 ·right
  have hd:items.drop i=items[i]::items.drop (i+1):=by rw[List.drop_eq_getElem_cons hl]
  rw[hd]at qi;obtain⟨go,yl⟩:=Cu.1 items[i] (by rw[List.getElem?_eq_getElem hl])
  refine⟨go,λv H' y=>?_⟩;obtain⟨F3,gr,rep⟩:=yl v H' y;have sF:ao Fi F3:=gr.same Ri.fr;have R3:=gr.rs WW;have WU:RS ⟨H',F3,[],[]⟩ F3 (gU caps cB) aw H':=R3.less (iw _) (gv _ _) (eK _ _) R3.fr;have sH:ao Hi H':=by
   rcases gr with⟨_,rfl⟩|⟨p,o,hp,_,rfl⟩
   ·exact ao.refl _
   ·exact aI hp
  have Qj:∀c o,F3 c=some o->Fi c=some o\/Nw Hi c o:=λc o e=>by
   rcases gr with⟨rfl,_⟩|⟨p,o',hp,rfl,_⟩
   ·exact .inl e
   ·by_cases hc:c=p
    ·subst hc;exact .inr (.inl hp)
    ·rw[aq hc]at e;exact .inl e
  -- behind the turn
  have back:∀ {F5 H5:Hp} {Ey:Sd} {σ5:St},ao F3 F5->RS ⟨H',F3,[],[]⟩ F5 Ey σ5 H5->RS Y F5 cB σ H5/\H5 acc=some (.lst ys)/\F5 acc=none/\ao Fi F5:=λ{F5 H5 Ey σ5} s5 R5=>by
   have GY:ao Hi H5:=sH.trans λb o e=>R5.old b o e (by simp [bC.Cp])
   have Li:∀c o,F5 c=some o->Fi c=some o\/Nw Hi c o:=λc o e=>by
    rcases R5.fh c o e with z|z
    ·exact Qj c o z
    ·exact .inr (z.imp sH.free id)
   refine⟨Ri.call (sF.trans s5) R5.fr GY Li,GY _ _ kc,?_,sF.trans s5⟩;cases e:F5 acc with
   | none=>rfl
   | some o =>
    rcases Li acc o e with z|z
    ·rw[fi]at z;cases z
    ·rcases z with z|⟨ws,rfl⟩
     ·rw[kc]at z;cases z
     ·have y:=R5.fr acc _ e;rw[GY _ _ kc]at y;cases y
  refine⟨⟨H',F3,[],[]⟩,rfl,F3,_,items[i],_,WU,rep,qi,λkH H4 F4 cO s4 R4 q4=>?_⟩;refine⟨⟨H',F3,[],[]⟩,rfl,F4,cO,_,R4,q4,λb H5 F5 Ey s5 R5 q5=>?_⟩;cases b with
  | false =>
   obtain⟨le,q5⟩:=q5;obtain⟨w1,w2,w3,w4⟩:=back (s4.trans s5) R5;exact⟨items.length-(i+1),by omega,F5,ds,ys,si.trans w4,w1,w2,ri.mono w4,w3,R5.less le (gv _ _) (eK _ _) R5.fr,q5,rfl,hl⟩
  | true =>
   refine⟨⟨H',F3,[],[]⟩,rfl,F5,Ey,_,R5,q5,λv6 H6 F6 d Zd s6 R6 r6 q6=>?_⟩;obtain⟨le,hz,q6⟩:=q6;obtain⟨w1,w2,w3,w4⟩:=back ((s4.trans s5).trans s6) R6;exact⟨ys,items.length-(i+1),w2,by rw[ri.length];exact hz,by omega,F6,ds++[d],ys++[v6],si.trans w4,w1.other w3 a0 aN,aB,(ri.mono w4).append (.cons r6 .nil),w3,R6.less le (gv _ _) (eK _ _) (sw R6.fr w3),q6,rfl,hl⟩
 ·left
  have e:i=items.length:=by omega
  subst e;rw[List.drop_length]at qi;exact⟨Cu.2 rfl,K _ Hi Fi (.own ds) cB ((s1.trans s2).trans si) Ri ⟨acc,ys,rfl,kc,ri,fi,a0,aN⟩ qi⟩
theorem gH(hi:EI G k S target iter ti)(b:jZ S scope N' caps)(hg:EG G k (bo S scope N') target g)(ht:Js G k (bo S scope N') ifs tc)(he:ED G k (bo S scope N') elt te)(hs:∀env x,foldedSetIterable iter env x=pure x:=by intro _ _;rfl)(hh:S.kE=false:=by rfl):
  EX G k S (.ListComp elt [⟨target,iter,ifs,0⟩] scope pos) (eC S.ios caps ti g tc te):=.mk λX Y ok =>
 aP (qh (ok.calm hh) (hi X Y ok) (b.sc ok) (pj hh ok b hg ht he) (hs _)) λσ H Q q=>lg ok.ios q
theorem OA(i:Nat){y:Str}{py fb:Pos}(hi:EI G k S target iter ti)(b:jZ S scope N' caps)(hg:EG G k (bo S scope N') target g)(ht:Js G k (bo S scope N') ifs tc)(he:ED G k (bo S scope N') elt te)
  (hy:S.N[i]?=some y:=by rfl) (hx:S.sc.lookup y=some .local\/(S.sc.lookup y=some .cell/\S.Ao=false):=by first|exact Or.inl rfl|exact Or.inr ⟨rfl,rfl⟩) (hn:i∉S.ios:=by first|decide|exact List.not_mem_nil | (dsimp only;decide)) (hl:(py.line==pos.line)=true:=by rfl) (II:(scope.names.any λ(n,k)=>n==y&&(k==.local||k==.cell))=false:=by decide +kernel)
  (hs:∀env x,foldedSetIterable iter env x=pure x:=by intro _ _;rfl) (hh:S.kE=false:=by rfl):ES G k S (.Assign [.Name y py] (.ListComp elt [⟨target,iter,ifs,0⟩] scope pos) fb) (da S.ios i (eC S.ios caps ti g tc te)):=.mk λX Y ok=>by
 have sw:swapsWith (.ListComp elt [⟨target,iter,ifs,0⟩] scope pos) (some (.Name y py)) fb.line X.env=pure (S.sc.lookup y==some .local):=by
  have e:swapsWith (.ListComp elt [⟨target,iter,ifs,0⟩] scope pos) (some (.Name y py)) fb.line X.env=pure (X.env.blockKind==.function&&X.env.kindOf y==some .local&&py.line==pos.line&&!(scope.names.any λ(n,k)=>n==y&&(k==.local||k==.cell))):=rfl
  have kb:X.env.blockKind=.function:=by unfold Env.blockKind;rw[ok.kind];rfl
  have kd:X.env.kindOf y=S.sc.lookup y:=by
   show X.env.scope.names.lookup y=_;rw[ok.sc]
  rw[e,kb,kd,hl,II];simp
 have fin:∀Dn σ H,lS Y (da S.ios i (eC S.ios caps ti g tc te)) Dn σ H->G8 (mM (lI Y ti) caps (Wn g) (Wm tc) (Yp te)) (hE i) Dn σ H:=λDn σ H q=>by
  obtain⟨F,ak,De,R,q,K⟩:=q;refine lg ok.ios ⟨F,ak,_,R,q,λv H1 F1 y aw s1 R1 r1 q1=>?_⟩;obtain⟨F2,bq,s2,R2,q2⟩:=jR R1 r1 hn ok.ios q1;exact K.nx _ H1 F2 bq (s1.trans s2) R2 q2
 rcases hx with hx|hx
 ·refine cX (xC (i:=i) (ok.calm hh) (hi X Y ok) (b.sc ok) (pj hh ok b hg ht he) (hs _) (by rw[ok.N];exact ok.nd) (by rw[ok.N];exact hy) (by rw[ok.sc];exact hx) (by rw[sw,hx];rfl)) fin
 ·refine cX (L2.Dl (i:=i) (by rw[ok.N];exact ok.nd) (by rw[ok.N];exact hy) (jE ok (.inr hx)) (qh (ok.calm hh) (hi X Y ok) (b.sc ok) (pj hh ok b hg ht he) (hs _)) (by rw[sw,hx.1];rfl) (jv ok (.inr hx))) fin
end
end Vc
namespace Vc
open PySem L2
variable [KF]
section
variable {prog:Program}{w:World}{A:Around}{E:Value->Shared->Prop}{s:Shared}
theorem Bc{j t:Addr}{i:Nat}{xs:Array Value}{x:Value}{Q:Value->Shared->Prop}(hj:s.heap.IsTupleIter j t i)(ht:s.heap.IsTuple t xs)(hx:xs[i]?=some x)
  (q:∀g,g.IsTupleIter j t (i+1)->Heap.SameBut j s.heap g->Q x {s with heap:=g}):wpAny (model prog w) A (Builtin.SmallTypes.nextOf (.ref j)) Q E s:=by
 obtain⟨ob,h1,h2,h3⟩:=id hj;obtain⟨ot,h4,_,nt,h5⟩:=ht;unfold Builtin.SmallTypes.nextOf;refine wpAny_bind (wpAny_callSpecial?_slot (name:=Str.ofString "__next__") hj.typeIs F.slot_tuple_iterator_next (wpAny_call_entry F.slot_tuple_iterator_next hj.typeIs F.entry_tuple_iterator_next ?_ (F.args_tuple_iterator_next_1 _)));show wpAny _ _ (field (.ref j) 0 >>= _) _ _ s;refine wpAny_bind (wpAny_field h1 h3 (x:=.ref t) rfl ?_);show wpAny _ _ (if(Value.ref t==Value.none)=true then _ else _) _ _ s
 rw[if_neg (by intro z;exact absurd z Bool.false_ne_true)]
 show wpAny _ _ (field (.ref j) 1 >>= _) _ _ s;refine wpAny_bind (wpAny_field h1 h3 (x:=.int i 0) rfl ?_);show wpAny _ _ (seqItems? (.ref t) >>= _) _ _ s;refine wpAny_bind (wpAny_seqItems h4 h5 ?_);simp only[Int.toNat_natCast,hx];refine wpAny_bind (wpAny_setField h1 h3 (by simp) (wpAny_pure ⟨x,rfl,wpAny_pure (q _ ?_ (Heap.SameBut.update ..))⟩))
 refine⟨_,Heap.get?_update_self _ h1 (Obj.isFreed_of_fields (Obj.data_mapFields h3 _)),(Obj.cls_mapFields ..).trans h2,?_⟩;rw[Obj.data_mapFields h3];simp [rawInt]
theorem pA{j t:Addr}{i:Nat}{xs:Array Value}{Q:Value->Shared->Prop}(hh:A.handled=none)(hj:s.heap.IsTupleIter j t i)(ht:s.heap.IsTuple t xs)(hx:xs[i]?=none)
  (q:∀g e,Heap.ExtBut j s.heap g->(∃o,g.get? e=some o/\o.cls=.type "StopIteration")->E (.ref e) {s with heap:=g}):wpAny (model prog w) A (Builtin.SmallTypes.nextOf (.ref j)) Q E s:=by
 obtain⟨ob,h1,h2,h3⟩:=id hj;obtain⟨ot,h4,_,nt,h5⟩:=ht;unfold Builtin.SmallTypes.nextOf;refine wpAny_bind (wpAny_callSpecial?_slot (name:=Str.ofString "__next__") hj.typeIs F.slot_tuple_iterator_next (wpAny_call_entry F.slot_tuple_iterator_next hj.typeIs F.entry_tuple_iterator_next ?_ (F.args_tuple_iterator_next_1 _)));show wpAny _ _ (field (.ref j) 0 >>= _) _ _ s;refine wpAny_bind (wpAny_field h1 h3 (x:=.ref t) rfl ?_);show wpAny _ _ (if(Value.ref t==Value.none)=true then _ else _) _ _ s
 rw[if_neg (by intro z;exact absurd z Bool.false_ne_true)]
 show wpAny _ _ (field (.ref j) 1 >>= _) _ _ s;refine wpAny_bind (wpAny_field h1 h3 (x:=.int i 0) rfl ?_);show wpAny _ _ (seqItems? (.ref t) >>= _) _ _ s;refine wpAny_bind (wpAny_seqItems h4 h5 ?_);simp only[Int.toNat_natCast,hx];refine wpAny_bind (wpAny_rule (wpAny_bind (wpAny_setField h1 h3 (by simp) ?_)))
 show wpAny _ _ (newExc (.type "StopIteration") [] >>= _) _ _ _;refine wpAny_bind ?_;simp only[newExc,newTuple];refine wpAny_bind (wpAny_newObj_type ?_ (by size_fits))
 refine wpAny_bind (m:=firstArgMember _ _) (wpAny_of_eq (a:=Value.none) (by first|rfl | (simp only[firstArgMember];rfl)) ?_)
 refine wpAny_newObj_type ?_ (by size_fits)
 simp only[raiseNew];refine wpAny_bind (wpAny_handled ?_)
 first|rw[show A.in1.handled=none from hh]|rw[hh]
 refine wpAny_bind (wpAny_pure (wpAny_throw ?_));exact q _ _ (((Heap.SameBut.update ..).extBut.push _).push _) ⟨_,Heap.get?_push_size _ rfl,rfl⟩
end
def kB(tp:Bool)(h:Heap)(j a:Addr)(i:Nat):Prop:=if tp=true then h.IsTupleIter j a i else h.IsListIter j a i
def vm(tp:Bool)(h:Heap)(a:Addr)(xs:Array Value):Prop:=if tp=true then h.IsTuple a xs else h.IsList a xs
theorem kB.live{tp:Bool}{h:Heap}{j a:Addr}{i:Nat}(q:kB tp h j a i):∃o,h.get? j=some o/\∀v,o.data≠.cell v:=by
 cases tp with
 | true=>obtain⟨o,e,c,d⟩:=(show h.IsTupleIter j a i from q);exact⟨o,e,λv z=>by rw[d]at z;cases z⟩
 | false=>obtain⟨o,e,c,d⟩:=(show h.IsListIter j a i from q);exact⟨o,e,λv z=>by rw[d]at z;cases z⟩
theorem kB.at{tp:Bool}{h h':Heap}{j a:Addr}{i:Nat}(q:kB tp h j a i)(k:∀o,h.get? j=some o->h'.get? j=some o):kB tp h' j a i:=by
 cases tp with
 | true=>obtain⟨o,e,r⟩:=(show h.IsTupleIter j a i from q);exact(show h'.IsTupleIter j a i from⟨o,k o e,r⟩)
 | false=>obtain⟨o,e,r⟩:=(show h.IsListIter j a i from q);exact(show h'.IsListIter j a i from⟨o,k o e,r⟩)
theorem vm.at{tp:Bool}{h h':Heap}{a:Addr}{xs:Array Value}(q:vm tp h a xs)(k:∀o,h.get? a=some o->h'.get? a=some o):vm tp h' a xs:=by
 cases tp with
 | true=>obtain⟨o,e,r⟩:=(show h.IsTuple a xs from q);exact(show h'.IsTuple a xs from⟨o,k o e,r⟩)
 | false=>obtain⟨o,e,r⟩:=(show h.IsList a xs from q);exact(show h'.IsList a xs from⟨o,k o e,r⟩)
section
variable {prog:Program}{w:World}{A:Around}{E:Value->Shared->Prop}{s:Shared}
theorem draw{tp:Bool}{j a:Addr}{i:Nat}{xs:Array Value}{x:Value}{Q:Value->Shared->Prop}(hj:kB tp s.heap j a i)(ha:vm tp s.heap a xs)(hx:xs[i]?=some x)
  (q:∀g,kB tp g j a (i+1)->Heap.SameBut j s.heap g->Q x {s with heap:=g}):wpAny (model prog w) A (Builtin.SmallTypes.nextOf (.ref j)) Q E s:=by
 cases tp with
 | true=>exact Bc hj ha hx q
 | false=>exact wpAny_nextOf_list_item hj ha hx q
theorem lr{tp:Bool}{j a:Addr}{i:Nat}{xs:Array Value}{Q:Value->Shared->Prop}(hh:A.handled=none)(hj:kB tp s.heap j a i)(ha:vm tp s.heap a xs)(hx:xs[i]?=none)
  (q:∀g e,Heap.ExtBut j s.heap g->(∃o,g.get? e=some o/\o.cls=.type "StopIteration")->E (.ref e) {s with heap:=g}):wpAny (model prog w) A (Builtin.SmallTypes.nextOf (.ref j)) Q E s:=by
 cases tp with
 | true=>exact pA hh hj ha hx q
 | false=>exact wpAny_nextOf_list_end hh hj ha hx q
structure V1(z U V i j:Addr):Prop where
 uz:U≠z
 vz:V≠z
 iz:i≠z
 jz:j≠z
 uv:U≠V
 ui:U≠i
 uj:U≠j
 vi:V≠i
 vj:V≠j
 ij:i≠j
theorem Hx{tp tq:Bool}{z U V i j l m:Addr}{n:Nat}{xs ys:Array Value}{x y a b:Value}{Q:Option Value->Shared->Prop}(D:V1 z U V i j)(lz:l≠z/\l≠V/\l≠i/\l≠j)(mz:m≠z/\m≠V/\m≠i/\m≠j)
  (hz:IsZip s.heap z U V .none) (hU:IsPair s.heap U (.ref i) (.ref j)) (hV:IsPair s.heap V a b) (h1:kB tp s.heap i l n) (h2:kB tq s.heap j m n) (hl:vm tp s.heap l xs) (hm:vm tq s.heap m ys) (hx:xs[n]?=some x) (hy:ys[n]?=some y)
  (q:∀g,IsZip g z U V (rawInt s.heap.objs.size)->IsPair g V x y->kB tp g i l (n+1)->kB tq g j m (n+1)->IsPair g s.heap.objs.size x y->g.objs.size=s.heap.objs.size+1 ->
   (∀c o,c≠z->c≠V->c≠i->c≠j->s.heap.get? c=some o->g.get? c=some o)->Q (some (.ref s.heap.objs.size)) {s with heap:=g}):wpAny (model prog w) A (pyNext (.ref z)) Q E s:=by
 have hT:s.TypeIs (.ref z) "zip":=⟨_,hz,rfl⟩;unfold pyNext;refine wpAny_bind (wpAny_attempt (wpAny_callSpecial?_slot (name:=Str.ofString "__next__") hT F.slot_zip_next (wpAny_call_entry F.slot_zip_next hT F.entry_zip_next ?_ (F.args_zip_next_1 _))));show wpAny _ _ (field (.ref z) 2 >>= _) _ _ _;refine wpAny_bind (wpAny_field hz rfl (x:=.bool false) rfl ?_);show wpAny _ _ (field (.ref z) 3 >>= _) _ _ _;refine wpAny_bind (wpAny_field hz rfl (x:=.ref U) rfl (wpAny_bind (wpAny_seqItems hU rfl ?_)));show wpAny _ _ (Builtin.SmallTypes.ownedTupleIsFree (.ref z) >>= _) _ _ _;refine wpAny_bind ?_;unfold Builtin.SmallTypes.ownedTupleIsFree;refine wpAny_bind (wpAny_field hz rfl (x:=.none) rfl (wpAny_pure ?_));simp only[if_true];refine wpAny_bind (wpAny_rule (wpAny_bind (wpAny_field hz rfl (x:=.ref V) rfl (wpAny_bind (wpAny_setField_rec hz (by simp) λg1 z1 e1=>?_)))))
 replace z1:IsZip g1 z U V .ellipsis:=z1
 refine wpAny_bind ?_;simp only[List.zipIdx_cons,List.zipIdx_nil,List.forIn_cons,List.forIn_nil];refine wpAny_bind (wpAny_bind (wpAny_onRaise ?_));show wpAny _ _ (Builtin.SmallTypes.nextOf (.ref i) >>= _) _ _ _;refine wpAny_bind (draw (s:={s with heap:=g1}) (h1.at λo e=>e1.extBut _ _ D.iz e) (hl.at λo e=>e1.extBut _ _ lz.1 e) hx λg2 w2 e2=>wpAny_pure ?_)
 have v2:IsPair g2 V a b:=e2.extBut _ _ D.vi (e1.extBut _ _ D.vz hV);refine wpAny_bind (wpAny_seqItems v2 rfl (wpAny_bind (wpAny_updateSeq_pair v2 λg3 v3 e3=>?_)))
 replace v3:IsPair g3 V x b:=v3
 refine wpAny_bind (wpAny_letGo (wpAny_pure (wpAny_bind (wpAny_bind (wpAny_onRaise ?_)))));show wpAny _ _ (Builtin.SmallTypes.nextOf (.ref j) >>= _) _ _ _;have to3:∀c o,c≠z->c≠i->c≠V->s.heap.get? c=some o->g3.get? c=some o:=λc o c1 c2 c3 e=>e3.extBut _ _ c3 (e2.extBut _ _ c2 (e1.extBut _ _ c1 e));refine wpAny_bind (draw (s:={s with heap:=g3}) (h2.at λo e=>to3 j o D.jz D.ij.symm D.vj.symm e) (hm.at λo e=>to3 m o mz.1 mz.2.2.1 mz.2.1 e) hy λg4 w4 e4=>wpAny_pure ?_)
 have v4:IsPair g4 V x b:=e4.extBut _ _ D.vj v3;refine wpAny_bind (wpAny_seqItems v4 rfl (wpAny_bind (wpAny_updateSeq_pair v4 λg5 v5 e5=>?_)))
 replace v5:IsPair g5 V x y:=v5
 refine wpAny_bind (wpAny_letGo (wpAny_pure (wpAny_pure (wpAny_bind (wpAny_seqItems v5 rfl (wpAny_bind (wpAny_newTuple ?_)))))));have sz:g5.objs.size=s.heap.objs.size:=by rw[e5.1,e4.1,e3.1,e2.1,e1.1]
 have z5:IsZip g5 z U V .ellipsis:=e5.extBut _ _ D.vz.symm (e4.extBut _ _ D.jz.symm (e3.extBut _ _ D.vz.symm (e2.extBut _ _ D.iz.symm z1)));have k5:∀c o,c≠z->c≠V->c≠i->c≠j->s.heap.get? c=some o->g5.get? c=some o:=λc o c1 c2 c3 c4 e=>e5.extBut _ _ c2 (e4.extBut _ _ c4 (to3 c o c1 c3 c2 e));have i5:kB tp g5 i l (n+1):=w2.at λo e=>e5.extBut _ _ D.vi.symm (e4.extBut _ _ D.ij (e3.extBut _ _ D.vi.symm e));have j5:kB tq g5 j m (n+1):=w4.at λo e=>e5.extBut _ _ D.vj.symm e;have zlt:z<g5.objs.size:=Heap.lt_size z5;show wpAny _ _ (Builtin.SmallTypes.ownedTupleHandOut (.ref z) (.ref g5.objs.size) >>= _) _ _ _;refine wpAny_bind ?_;unfold Builtin.SmallTypes.ownedTupleHandOut;have z6:IsZip (g5.push {cls:=.type "tuple",data:=.seq #[x,y]}) z U V .ellipsis:=Heap.get?_push_of_some _ z5;refine wpAny_bind (wpAny_setField_rec z6 (by simp) λg7 z7 e7=>?_)
 replace z7:IsZip g7 z U V (rawInt g5.objs.size):=z7
 refine wpAny_setField_rec z7 (by simp) λg8 z8 e8=>?_
 replace z8:IsZip g8 z U V (rawInt g5.objs.size):=z8
 have up:∀c o,c≠z->g5.get? c=some o->g8.get? c=some o:=λc o c1 e=>e8.extBut _ _ c1 (e7.extBut _ _ c1 (Heap.get?_push_of_some _ e));have t8:IsPair g8 g5.objs.size x y:=e8.extBut _ _ (Nat.ne_of_gt zlt) (e7.extBut _ _ (Nat.ne_of_gt zlt) (Heap.get?_push_size _ rfl));have s8:g8.objs.size=g5.objs.size+1:=by rw[e8.1,e7.1,Heap.size_push]
 rw[sz]at z8 t8 s8;refine wpAny_pure ⟨_,rfl,wpAny_pure ?_⟩;show Q (some (.ref g5.objs.size)) _;rw[sz];exact q g8 z8 (up _ _ D.vz v5) (i5.at λo e=>up _ o D.iz e) (j5.at λo e=>up _ o D.jz e) t8 s8 λc o c1 c2 c3 c4 e=>up c o c1 (k5 c o c1 c2 c3 c4 e)
end
end Vc
namespace Vc
open PySem L2
variable [KF]
abbrev itN(tp:Bool):String:=if tp=true then "tuple_iterator" else "list_iterator"
abbrev zA(tp:Bool)(h:Heap)(l:Addr):Heap:=h.push {cls:=.type (itN tp),data:=.fields #[.ref l,.int 0 0]}
abbrev zB(tp tq:Bool)(h:Heap)(l m:Addr):Heap:=zA tq (zA tp h l) m
abbrev zC(tp tq:Bool)(h:Heap)(l m:Addr):Heap:=(zB tp tq h l m).push {cls:=.type "tuple",data:=.seq #[.ref h.objs.size,.ref (zA tp h l).objs.size]}
abbrev zD(tp tq:Bool)(h:Heap)(l m:Addr):Heap:=(zC tp tq h l m).push {cls:=.type "tuple",data:=.seq #[.none,.none]}
abbrev zE(tp tq:Bool)(h:Heap)(l m:Addr):Heap:=(zD tp tq h l m).push {cls:=.type "zip",data:=.fields #[.none,.bool false,.bool false,.ref (zB tp tq h l m).objs.size,.ref (zC tp tq h l m).objs.size]}
set_option maxHeartbeats 4000000 in
theorem Eu(tp tq:Bool)(l m:Addr)(xs ys:Array Value):
  Meets (Builtin.«zip.__new__» ⟨[.type "zip",.ref l,.ref m],[]⟩) (λ_ R s=>vm tp s.heap l xs/\vm tq s.heap m ys/\R (.ok (.ret (.ref (zD tp tq s.heap l m).objs.size))) {s with heap:=zE tp tq s.heap l m}):=
 .of_wp λprog w A R s h=>by
  obtain⟨hp,g,d,tk,os⟩:=s;obtain⟨hl,hm,h⟩:=h;have sub:=sub_zip;cases tp with
  | true =>
   have L1:Heap.IsTuple (Shared.heap ⟨hp,g,d,tk,os⟩) l xs:=hl;cases tq with
   | true =>
    have L2:Heap.IsTuple (Shared.heap ⟨hp.push {cls:=.type "tuple_iterator",data:=.fields #[.ref l,.int 0 0]},g,d,tk,os⟩) m ys:=by
     obtain⟨o,e,r⟩:=(show hp.IsTuple m ys from hm);exact⟨o,Heap.get?_push_of_some _ e,r⟩
    wp_walk using wpAny_pyIter_tuple L1,wpAny_pyIter_tuple L2
    exact⟨_,rfl,h⟩
   | false =>
    have L2:Heap.IsList (Shared.heap ⟨hp.push {cls:=.type "tuple_iterator",data:=.fields #[.ref l,.int 0 0]},g,d,tk,os⟩) m ys:=by
     obtain⟨o,e,r⟩:=(show hp.IsList m ys from hm);exact⟨o,Heap.get?_push_of_some _ e,r⟩
    wp_walk using wpAny_pyIter_tuple L1,wpAny_pyIter_list L2
    exact⟨_,rfl,h⟩
  | false =>
   have L1:Heap.IsList (Shared.heap ⟨hp,g,d,tk,os⟩) l xs:=hl;cases tq with
   | true =>
    have L2:Heap.IsTuple (Shared.heap ⟨hp.push {cls:=.type "list_iterator",data:=.fields #[.ref l,.int 0 0]},g,d,tk,os⟩) m ys:=by
     obtain⟨o,e,r⟩:=(show hp.IsTuple m ys from hm);exact⟨o,Heap.get?_push_of_some _ e,r⟩
    wp_walk using wpAny_pyIter_list L1,wpAny_pyIter_tuple L2
    exact⟨_,rfl,h⟩
   | false =>
    have L2:Heap.IsList (Shared.heap ⟨hp.push {cls:=.type "list_iterator",data:=.fields #[.ref l,.int 0 0]},g,d,tk,os⟩) m ys:=by
     obtain⟨o,e,r⟩:=(show hp.IsList m ys from hm);exact⟨o,Heap.get?_push_of_some _ e,r⟩
    wp_walk using wpAny_pyIter_list L1,wpAny_pyIter_list L2
    exact⟨_,rfl,h⟩
theorem xX{tp:Bool}{h:Heap}{j a:Addr}(e:h.get? j=some {cls:=.type (itN tp),data:=.fields #[.ref a,.int 0 0]}):kB tp h j a 0:=by
 cases tp with
 | true=>exact⟨_,e,rfl,rfl⟩
 | false=>exact⟨_,e,rfl,rfl⟩
section
variable {prog:Program}{w:World}{A:Around}{E:Value->Shared->Prop}{s:Shared}
theorem Et{tp tq:Bool}{l m:Addr}{xs ys:Array Value}{Q:Value->Shared->Prop}(hl:vm tp s.heap l xs)(hm:vm tq s.heap m ys)
  (q:∀g,IsZip g (s.heap.objs.size+4) (s.heap.objs.size+2) (s.heap.objs.size+3) .none->IsPair g (s.heap.objs.size+2) (.ref s.heap.objs.size) (.ref (s.heap.objs.size+1))->IsPair g (s.heap.objs.size+3) .none .none ->
   kB tp g s.heap.objs.size l 0->kB tq g (s.heap.objs.size+1) m 0->(∀c o,s.heap.get? c=some o->g.get? c=some o)->Q (.ref (s.heap.objs.size+4)) {s with heap:=g}):
  wpAny (model prog w) A (call (.type "zip") [.ref l,.ref m]) Q E s:=by
 refine callType_new F.called_zip ∅ (F.typeCall_zip_2 _ _) (F.newCall_zip_2 _ _) (λob=>F.args_object_init_3 ob _ _) F.entry_zip_new (Eu tp tq l m xs ys) ⟨hl,hm,?_⟩
 have n1:(zA tp s.heap l).objs.size=s.heap.objs.size+1:=Heap.size_push ..;have n2:(zB tp tq s.heap l m).objs.size=s.heap.objs.size+2:=by rw[Heap.size_push,n1]
 have n3:(zC tp tq s.heap l m).objs.size=s.heap.objs.size+3:=by rw[Heap.size_push,n2]
 have n4:(zD tp tq s.heap l m).objs.size=s.heap.objs.size+4:=by rw[Heap.size_push,n3]
 have p5:(zE tp tq s.heap l m).get? (zD tp tq s.heap l m).objs.size=some _:=Heap.get?_push_size _ rfl;have p4:(zE tp tq s.heap l m).get? (zC tp tq s.heap l m).objs.size=some _:=Heap.get?_push_of_some _ (Heap.get?_push_size _ rfl);have p3:(zE tp tq s.heap l m).get? (zB tp tq s.heap l m).objs.size=some _:=Heap.get?_push_of_some _ (Heap.get?_push_of_some _ (Heap.get?_push_size _ rfl));have p2:(zE tp tq s.heap l m).get? (zA tp s.heap l).objs.size=some _:=Heap.get?_push_of_some _ (Heap.get?_push_of_some _ (Heap.get?_push_of_some _ (Heap.get?_push_size _ rfl)));have p1:(zE tp tq s.heap l m).get? s.heap.objs.size=some _:=Heap.get?_push_of_some _ (Heap.get?_push_of_some _ (Heap.get?_push_of_some _ (Heap.get?_push_of_some _ (Heap.get?_push_size _ rfl))));show _/\_;rw[n2,n3,n4]at p5;rw[n1,n2]at p3;rw[n3]at p4;rw[n1]at p2;rw[n4];refine⟨⟨_,p5,rfl⟩,q _ p5 p3 p4 (xX p1) (xX p2) λc o x=>?_⟩;exact Heap.get?_push_of_some _ (Heap.get?_push_of_some _ (Heap.get?_push_of_some _ (Heap.get?_push_of_some _ (Heap.get?_push_of_some _ x))))
theorem Ew{tp tq:Bool}{z U V i j l m:Addr}{n:Nat}{xs ys:Array Value}{a b:Value}{Q:Option Value->Shared->Prop}(hh:A.handled=none)(D:V1 z U V i j)(lz:l≠z/\l≠V/\l≠i/\l≠j)(mz:m≠z/\m≠V/\m≠i/\m≠j)
  (hz:IsZip s.heap z U V .none) (hU:IsPair s.heap U (.ref i) (.ref j)) (hV:IsPair s.heap V a b) (h1:kB tp s.heap i l n) (h2:kB tq s.heap j m n) (hl:vm tp s.heap l xs) (hm:vm tq s.heap m ys) (B7:xs[n]?=none\/ys[n]?=none)
  (q:∀g,(∀c o,c≠z->c≠V->c≠i->c≠j->s.heap.get? c=some o->g.get? c=some o)->Q none {s with heap:=g}):wpAny (model prog w) A (pyNext (.ref z)) Q E s:=by
 have hT:s.TypeIs (.ref z) "zip":=⟨_,hz,rfl⟩;unfold pyNext;refine wpAny_bind (wpAny_attempt (wpAny_callSpecial?_slot (name:=Str.ofString "__next__") hT F.slot_zip_next (wpAny_call_entry F.slot_zip_next hT F.entry_zip_next ?_ (F.args_zip_next_1 _))));show wpAny _ _ (field (.ref z) 2 >>= _) _ _ _;refine wpAny_bind (wpAny_field hz rfl (x:=.bool false) rfl ?_);show wpAny _ _ (field (.ref z) 3 >>= _) _ _ _;refine wpAny_bind (wpAny_field hz rfl (x:=.ref U) rfl (wpAny_bind (wpAny_seqItems hU rfl ?_)));show wpAny _ _ (Builtin.SmallTypes.ownedTupleIsFree (.ref z) >>= _) _ _ _;refine wpAny_bind ?_;unfold Builtin.SmallTypes.ownedTupleIsFree;refine wpAny_bind (wpAny_field hz rfl (x:=.none) rfl (wpAny_pure ?_));simp only[if_true];refine wpAny_bind (wpAny_rule (wpAny_bind (wpAny_field hz rfl (x:=.ref V) rfl (wpAny_bind (wpAny_setField_rec hz (by simp) λg1 z1 e1=>?_)))))
 replace z1:IsZip g1 z U V .ellipsis:=z1
 refine wpAny_bind ?_;simp only[List.zipIdx_cons,List.zipIdx_nil,List.forIn_cons,List.forIn_nil];refine wpAny_bind (wpAny_bind (wpAny_onRaise ?_));show wpAny _ _ (Builtin.SmallTypes.nextOf (.ref i) >>= _) _ _ _;cases hx:xs[n]? with
 | none =>
  refine wpAny_bind (lr (s:={s with heap:=g1}) hh (h1.at λo e=>e1.extBut _ _ D.iz e) (hl.at λo e=>e1.extBut _ _ lz.1 e) hx λg2 e x2 he=>?_)
  obtain⟨oe,LJ,S2⟩:=he;have z2:IsZip g2 z U V .ellipsis:=x2 _ _ D.iz.symm z1;have ez:e≠z:=λx=>by subst x;rw[z2]at LJ;cases LJ;simp at S2
  refine wpAny_setField_rec z2 (by simp) λg3 _ e3=>?_
  refine wpAny_bind (wpAny_isInstance (T:="StopIteration") (b:=true) ⟨oe,e3.extBut _ _ ez LJ,S2⟩ isSubtype_stop (wpAny_pure (q _ λc o c1 _ c3 _ x=>?_)));exact e3.extBut _ _ c1 (x2 _ _ c3 (e1.extBut _ _ c1 x))
 | some x =>
  have hy:ys[n]?=none:=by
   rcases B7 with h|h
   ·rw[hx]at h;cases h
   ·exact h
  refine wpAny_bind (draw (s:={s with heap:=g1}) (h1.at λo e=>e1.extBut _ _ D.iz e) (hl.at λo e=>e1.extBut _ _ lz.1 e) hx λg2 w2 e2=>wpAny_pure ?_)
  have v2:IsPair g2 V a b:=e2.extBut _ _ D.vi (e1.extBut _ _ D.vz hV);refine wpAny_bind (wpAny_seqItems v2 rfl (wpAny_bind (wpAny_updateSeq_pair v2 λg3 v3 e3=>?_)));refine wpAny_bind (wpAny_letGo (wpAny_pure (wpAny_bind (wpAny_bind (wpAny_onRaise ?_)))));show wpAny _ _ (Builtin.SmallTypes.nextOf (.ref j) >>= _) _ _ _;have to3:∀c o,c≠z->c≠i->c≠V->s.heap.get? c=some o->g3.get? c=some o:=λc o c1 c2 c3 e=>e3.extBut _ _ c3 (e2.extBut _ _ c2 (e1.extBut _ _ c1 e));refine wpAny_bind (lr (s:={s with heap:=g3}) hh (h2.at λo e=>to3 j o D.jz D.ij.symm D.vj.symm e) (hm.at λo e=>to3 m o mz.1 mz.2.2.1 mz.2.1 e) hy λg4 e x4 he=>?_)
  obtain⟨oe,LJ,S2⟩:=he;have z4:IsZip g4 z U V .ellipsis:=x4 _ _ D.jz.symm (e3.extBut _ _ D.vz.symm (e2.extBut _ _ D.iz.symm z1));have ez:e≠z:=λx=>by subst x;rw[z4]at LJ;cases LJ;simp at S2
  refine wpAny_setField_rec z4 (by simp) λg5 _ e5=>?_
  refine wpAny_bind (wpAny_isInstance (T:="StopIteration") (b:=true) ⟨oe,e5.extBut _ _ ez LJ,S2⟩ isSubtype_stop (wpAny_pure (q _ λc o c1 c2 c3 c4 x=>?_)));exact e5.extBut _ _ c1 (x4 _ _ c4 (to3 c o c1 c3 c2 x))
end
end Vc
namespace Vc
open PySem L2
variable [KF]
section
variable {X:Cx}{pins:List (Addr×Obj)}{σ:St}{H:Hp}{s:Shared}
theorem ye(I:L2.Inv X pins σ H s){ch:List Addr}(hf:∀b∈ch,fV X pins H b){h':Heap}{t':Nat}(kp:∀b o,b∉ch->s.heap.get? b=some o->h'.get? b=some o){T:Addr}{o:HO}(hT:s.heap.objs.size<=T)(new:bL X.prog X.w (upd H T o) h' T o)(ht:0<t':=by walk_at "3"):
  L2.Inv X pins σ (upd H T o) {s with heap:=h',toks:=t'}:=by
 have MA:∀ {b u},s.heap.get? b=some u->b≠T:=λe=>Nat.ne_of_lt (Nat.lt_of_lt_of_le (Heap.lt_size e) hT);have QC:∀ {b u},H b=some u->b≠T:=λe=>Nat.ne_of_lt (Nat.lt_of_lt_of_le (I.bP.lt e) hT);have CI:∀ {b u},H b=some u->b∉ch:=λ{b u} e z=>by rw[(hf b z).1]at e;cases e
 refine I.step (g':=s.gens) (d':=s.drawn) (ch:=ch) (λb hb=>?_) (λb u _ _ hc e _=>kp b u hc e) (λb u _ _ hc e _=>⟨u.slots,kp b u hc e⟩) (λb u hc e n=>by rw[aq (MA e)];exact n) (λb u hc e=>⟨u,kp b u hc e⟩)
  (λb xs e=>by rw[aq (QC e)];exact e) (λb u w e=>by rw[aq (QC e)];exact e) (λb ps e=>⟨#[],by rw[aq (QC e),e];simp⟩) (λm hm=>?_) (λb u e=>?_) I.bare
 ·obtain⟨f0,f1,f2,f3,f4,f5⟩:=hf b hb
  exact⟨f3.imp id λz=>Heap.get?_none_of_le z,f1,f4,f5⟩
 ·obtain⟨ob,es,ep,ho,r⟩:=hm
  refine⟨ob,es,ep,kp _ ob (λz=>?_) ho,r⟩;exact(hf _ z).2.1 rfl
 ·by_cases hb:b=T
  ·subst hb;rw[aB]at e;cases e;exact new
  ·rw[aq hb]at e
   refine(I.bP b u e).ni (λc v hc q=>?_) (λc q=>by rw[aq (QC q)];exact q) (λc xs q=>by rw[aq (QC q)];exact q) λc o u q=>by rw[aq (QC q)];exact q
   rcases hc with z|z
   ·subst z;exact kp _ v (CI e) q
   ·exact kp _ v (CI z) q
theorem yd(I:L2.Inv X pins σ H s){ch:List Addr}(hf:∀b∈ch,fV X pins H b){h':Heap}{t':Nat}(kp:∀b o,b∉ch->s.heap.get? b=some o->h'.get? b=some o)(ht:0<t':=by walk_at "3"):L2.Inv X pins σ H {s with heap:=h',toks:=t'}:=by
 have CI:∀ {b u},H b=some u->b∉ch:=λ{b u} e z=>by rw[(hf b z).1]at e;cases e
 refine I.step (g':=s.gens) (d':=s.drawn) (ch:=ch) (λb hb=>?_) (λb u _ _ hc e _=>kp b u hc e) (λb u _ _ hc e _=>⟨u.slots,kp b u hc e⟩) (λb u hc e n=>n) (λb u hc e=>⟨u,kp b u hc e⟩)
  (λb xs e=>e) (λb u w e=>e) (λb ps e=>⟨#[],by rw[e];simp⟩) (λm hm=>?_) (λb u e=>?_) I.bare
 ·obtain⟨f0,f1,f2,f3,f4,f5⟩:=hf b hb
  exact⟨f3.imp id λz=>Heap.get?_none_of_le z,f1,f4,f5⟩
 ·obtain⟨ob,es,ep,ho,r⟩:=hm
  refine⟨ob,es,ep,kp _ ob (λz=>?_) ho,r⟩;exact(hf _ z).2.1 rfl
 ·refine(I.bP b u e).ni (λc v hc q=>?_) (λc q=>q) λc xs q=>q
  rcases hc with z|z
  ·subst z;exact kp _ v (CI e) q
  ·exact kp _ v (CI z) q
end
def Sq(tp:Bool)(K:PySem.W.Frag)(H:Hp)(a:Addr)(xs:List V):Prop:=if tp=true then gS K H a xs else dY K H a xs
theorem Sq.is{tp:Bool}{X:Cx}{pins:List (Addr×Obj)}{σ:St}{H:Hp}{s:Shared}{a:Addr}{xs:List V}(I:L2.Inv X pins σ H s)(h:Sq tp X.K H a xs):∃its:List Value,Vals xs its/\vm tp s.heap a its.toArray/\a<s.heap.objs.size:=by
 cases tp with
 | true =>
  obtain⟨its,r,p,_⟩:=I.tuple (show gS X.K H a xs from h)
  exact⟨its,r,p,by obtain⟨o,e,_⟩:=p;exact Heap.lt_size e⟩
 | false =>
  obtain⟨its,r,p,_⟩:=I.list (show dY X.K H a xs from h)
  exact⟨its,r,p.isList,p.lt⟩
theorem Sq.inj{tp:Bool}{X:Cx}{pins:List (Addr×Obj)}{σ:St}{H:Hp}{s:Shared}{a:Addr}{xs ys:List V}(I:L2.Inv X pins σ H s)(h:Sq tp X.K H a xs)(h':Sq tp X.K H a ys):xs=ys:=by
 cases tp with
 | true=>exact I.oI h h'
 | false=>exact I.tK h h'
def WQ(tp tq:Bool)(K:PySem.W.Frag)(l m:Addr):It:=
  ⟨λn H=>∃xs ys x y,Sq tp K H l xs/\Sq tq K H m ys/\xs[n]?=some x/\ys[n]?=some y,
   λn H v H'=>∃p x y,H p=none/\v=.ref p/\H'=upd H p (.tup [x,y])/\(∀xs,Sq tp K H l xs->xs[n]?=some x)/\∀ys,Sq tq K H m ys->ys[n]?=some y,
   λn H=>∃xs ys,Sq tp K H l xs/\Sq tq K H m ys/\(xs.length<=n\/ys.length<=n)⟩
theorem Ec{P:Program}{w:World}{K:PySem.W.Frag}{elts:List Expr}{kk:Nat}{tpos:Pos}(tp tq:Bool)(z U V i j l m:Addr)(D:V1 z U V i j)(lz:l≠z/\l≠V/\l≠i/\l≠j)(mz:m≠z/\m≠V/\m≠i/\m≠j):
  Turn P w K (.Tuple elts kk tpos) (WQ tp tq K l m) [z,U,V,i,j] z (λn h=>IsZip h z U V .none/\IsPair h U (.ref i) (.ref j)/\(∃a b,IsPair h V a b)/\kB tp h i l n/\kB tq h j m n) where
 mem:=by simp
 obj:=λn h st b hb=>by
  obtain⟨h1,h2,⟨a,c,h3⟩,h4,h5⟩:=st;simp only[List.mem_cons,List.not_mem_nil,or_false]at hb;rcases hb with rfl|rfl|rfl|rfl|rfl
  ·exact⟨_,h1,λv q=>by cases q⟩
  ·exact⟨_,h2,λv q=>by cases q⟩
  ·exact⟨_,h3,λv q=>by cases q⟩
  ·exact h4.live
  ·exact h5.live
 keep:=λn h h' st kp=>by
  obtain⟨h1,h2,⟨a,c,h3⟩,h4,h5⟩:=st;exact⟨kp z (by simp) _ h1,kp U (by simp) _ h2,⟨a,c,kp V (by simp) _ h3⟩,h4.at λo e=>kp i (by simp) o e,h5.at λo e=>kp j (by simp) o e⟩
 item:=by
  intro X hP hw hK hc n pins s σ H E I hf st hg;subst hP hw hK;obtain⟨h1,h2,⟨a,c,h3⟩,h4,h5⟩:=st;obtain⟨xs,ys,x,y,q1,q2,e1,e2⟩:=hg;obtain⟨its,r1,p1,_⟩:=q1.is I;obtain⟨jts,r2,p2,_⟩:=q2.is I;obtain⟨u,hu,ru⟩:=r1.get e1;obtain⟨v,hv,rv⟩:=r2.get e2;refine Hx D lz mz h1 h2 h3 h4 h5 p1 p2 (x:=u) (y:=v) (by simpa using hu) (by simpa using hv) λg z1 v1 i1 j1 t1 s1 k1=>⟨_,rfl,?_⟩
  refine wpAny_letOwnedTupleGo_zip z1 λg' z2 zQ=>?_;have kp:∀b o,b∉[z,V,i,j]->s.heap.get? b=some o->g'.get? b=some o:=λb o hb e=>by
   simp only[List.mem_cons,List.not_mem_nil,or_false,not_or]at hb;exact zQ.extBut _ _ hb.1 (k1 b o hb.1 hb.2.1 hb.2.2.1 hb.2.2.2 e)
  have zT:s.heap.objs.size≠z:=Nat.ne_of_gt (Heap.lt_size h1);have hf':∀b∈[z,V,i,j],fV X pins H b:=λb hb=>hf b (by
   simp only[List.mem_cons,List.not_mem_nil,or_false]at hb ⊢;rcases hb with e|e|e|e<;>simp [e])
  have t2:IsPair g' s.heap.objs.size u v:=zQ.extBut _ _ zT t1;have I':=ye (t':=s.toks) (o:=.tup [x,y]) I hf' kp (Nat.le_refl _) ⟨by show 2<=sizeLine;decide,[u,v],.cons ru (.cons rv .nil),⟨_,t2,rfl,_,rfl⟩⟩
  have XG:H s.heap.objs.size=none:=I.bP.fresh (Nat.le_refl _);refine⟨.ref s.heap.objs.size,upd H s.heap.objs.size (.tup [x,y]),I',rfl,⟨_,x,y,XG,rfl,rfl,λzs hz=>by rw[hz.inj I q1];exact e1,λzs hz=>by rw[hz.inj I q2];exact e2⟩,⟨z2,zQ.extBut _ _ D.uz (k1 _ _ D.uz D.uv D.ui D.uj h2),⟨u,v,zQ.extBut _ _ D.vz v1⟩,i1.at λo e=>zQ.extBut _ _ D.iz e,j1.at λo e=>zQ.extBut _ _ D.jz e⟩,λb hb=>?_⟩
  have pJ:=(hf b hb).1;have:b≠s.heap.objs.size:=by
   obtain⟨o,e,_⟩:∃o,s.heap.get? b=some o/\True:=by
    simp only[List.mem_cons,List.not_mem_nil,or_false]at hb;rcases hb with rfl|rfl|rfl|rfl|rfl
    ·exact⟨_,h1,trivial⟩
    ·exact⟨_,h2,trivial⟩
    ·exact⟨_,h3,trivial⟩
    ·obtain⟨o,e,_⟩:=h4.live;exact⟨o,e,trivial⟩
    ·obtain⟨o,e,_⟩:=h5.live;exact⟨o,e,trivial⟩
   exact Nat.ne_of_lt (Heap.lt_size e)
  rw[aq this];exact pJ
 done:=by
  intro X hP hw hK hc n pins s σ H E I hf st hg;subst hP hw hK;obtain⟨h1,h2,⟨a,c,h3⟩,h4,h5⟩:=st;obtain⟨xs,ys,q1,q2,hl⟩:=hg;obtain⟨its,r1,p1,_⟩:=q1.is I;obtain⟨jts,r2,p2,_⟩:=q2.is I;have n1:=r1.length;have n2:=r2.length;refine Ew (I.ok.hd hc) D lz mz h1 h2 h3 h4 h5 p1 p2 (hl.imp (λq=>by simp;omega) λq=>by simp;omega) λg k1=>⟨rfl,?_⟩
  refine yd (t':=s.toks) (ch:=[z,V,i,j]) I (λb hb=>hf b ?_) λb o hb e=>?_
  ·simp only[List.mem_cons,List.not_mem_nil,or_false]at hb ⊢
   rcases hb with e|e|e|e<;>simp [e]
  ·simp only[List.mem_cons,List.not_mem_nil,or_false,not_or]at hb
   exact k1 b o hb.1 hb.2.1 hb.2.2.1 hb.2.2.2 e
 self:=λ_ _ _ _ _ st h=>wpAny_pyIter_zip st.1 h
theorem Hw(n:Nat):V1 (n+4) (n+2) (n+3) n (n+1):=
  ⟨show(n+2:Nat)≠n+4 by omega,show(n+3:Nat)≠n+4 by omega,show(n:Nat)≠n+4 by omega,show(n+1:Nat)≠n+4 by omega,show(n+2:Nat)≠n+3 by omega,
   show(n+2:Nat)≠n by omega,show(n+2:Nat)≠n+1 by omega,show(n+3:Nat)≠n by omega,show(n+3:Nat)≠n+1 by omega,show(n:Nat)≠n+1 by omega⟩
theorem ny{l n:Nat}(h:l<n):l≠n+4/\l≠n+3/\l≠n/\l≠n+1:=by omega
def Yl(K:PySem.W.Frag)(ta:TA):TI:=λσ H R=>ta σ H λvs H1=>∃tp tq l m xs ys,vs=[.ref l,.ref m]/\Sq tp K H1 l xs/\Sq tq K H1 m ys/\R (WQ tp tq K l m) H1
theorem NT{X:Cx}{elts:List Expr}{kk:Nat}{tpos:Pos}{a b:Expr}{ta:TA}{p pos:Pos}(hg:Gl X "zip")(hm:X.mg "zip"=none)(ha:PA X [a,b] ta)(hs:starEach [a,b] X.env=[(false,eval a X.env),(false,eval b X.env)])(sX:starEach [b] X.env=[(false,eval b X.env)]):
  PI X (.Tuple elts kk tpos) (.Call (.Name "zip" p) [a,b] [] pos) (Yl X.K ta):=by
 intro pins s σ H R I h;refine PyProof.Rows.Call_ (dJ I hg hm PyProof.Rows.boot_zip (PyProof.Rows.callWith_type1 (cj (ha pos pins s σ H _ I h) λus s1 ⟨vs,H1,I1,r1,q1⟩=>?_) (by rw[hs,sX]) (by rw[sX];rfl)))
 obtain⟨tp,tq,l,m,xs,ys,e,q1,q2,q⟩:=q1;subst e;obtain⟨u,v,rfl,ru,rv⟩:=vals2 r1;cases ru;cases rv;obtain⟨its,_,p1,ll⟩:=q1.is I1;obtain⟨jts,_,p2,lm⟩:=q2.is I1;refine Et p1 p2 λg z1 u1 v1 i1 j1 k1=>?_;refine wpAny_pyIter_zip z1 ?_;have N:∀n:Nat,s1.heap.objs.size<=s1.heap.objs.size+n:=λn=>Nat.le_add_right _ _;refine⟨s1.heap.objs.size+4,[s1.heap.objs.size+4,s1.heap.objs.size+2,s1.heap.objs.size+3,s1.heap.objs.size,s1.heap.objs.size+1],_,_,H1,rfl,I1.kept (t':=s1.toks) k1,
  Ec tp tq _ _ _ _ _ l m (Hw _) (ny ll) (ny lm),⟨z1,u1,⟨_,_,v1⟩,i1,j1⟩,λb hb=>?_,q⟩
 have pJ:s1.heap.objs.size<=b:=by
  simp only[List.mem_cons,List.not_mem_nil,or_false]at hb;rcases hb with rfl|rfl|rfl|rfl|rfl
  ·exact N 4
  ·exact N 2
  ·exact N 3
  ·exact N 0
  ·exact N 1
 exact I1.vC pJ (I1.bP.fresh pJ)
end Vc
namespace Vc
open PySem L2
variable [KF]
theorem se{prog:Program}{w:World}{A:Around}(hh:A.handled=none)(tp:Bool)(j a:Addr)(cm:a≠j)(xs:Array Value):
  Draws prog w A j [j,a] xs.size (λi v=>xs[i]?=some v) (λi h=>kB tp h j a i/\vm tp h a xs) where
 live:=λ_ _ st=>let ⟨o,e,_⟩:=st.1.live;⟨o,e⟩
 frame:=λ_ _ _ st kp=>⟨st.1.at λo e=>kp j (by simp) o e,st.2.at λo e=>kp a (by simp) o e⟩
 item:=λi s Q E hi st q=>by
  refine draw st.1 st.2 (x:=xs[i]) (by simp [hi]) λg w1 e1=>?_
  exact q _ g s.toks (by simp [hi]) ⟨w1,st.2.at λo e=>e1.extBut _ _ cm e⟩ e1
 done:=λs Q E st q=>lr hh st.1 st.2 (by simp) q
def Qe(tp:Bool)(K:PySem.W.Frag)(a:Addr):It:=
 ⟨λn H=>∃xs x,Sq tp K H a xs/\xs[n]?=some x,λn H v H'=>∃p x,H p=none/\v=.ref p/\H'=upd H p (.tup [.int n,x])/\∀xs,Sq tp K H a xs->xs[n]?=some x,λn H=>∃xs,Sq tp K H a xs/\xs.length=n⟩
theorem oJ{P:Program}{w:World}{K:PySem.W.Frag}{elts:List Expr}{kk:Nat}{tpos:Pos}(tp:Bool)(e j a:Addr)(ej:e≠j)(ae:a≠e)(aj:a≠j):
  Turn P w K (.Tuple elts kk tpos) (Qe tp K a) [e,j] e (λn h=>(∃old,IsEnum h e j n old)/\kB tp h j a n) where
 mem:=by simp
 obj:=λn h st b hb=>by
  obtain⟨⟨old,h1⟩,h2⟩:=st;simp only[List.mem_cons,List.not_mem_nil,or_false]at hb;rcases hb with rfl|rfl
  ·exact⟨_,h1,λv q=>by cases q⟩
  ·exact h2.live
 keep:=λn h h' st kp=>by
  obtain⟨⟨old,h1⟩,h2⟩:=st;exact⟨⟨old,kp e (by simp) _ h1⟩,h2.at λo q=>kp j (by simp) o q⟩
 item:=by
  intro X hP hw hK hc n pins s σ H E I hf st hg;subst hP hw hK;obtain⟨⟨old,h1⟩,h2⟩:=st;obtain⟨xs,x,q1,e1⟩:=hg;obtain⟨its,r1,p1,_⟩:=q1.is I;obtain⟨u,hu,ru⟩:=r1.get e1;have hn:n<its.toArray.size:=by
   have:=(List.getElem?_eq_some_iff.mp hu).1;simpa using this
  have Dr:=se (prog:=X.prog) (w:=X.w) (A:=X.A.in1) (show X.A.in1.handled=none from I.ok.hd hc) tp j a aj its.toArray
  refine wpAny_pyNext_enum_itemD Dr h1 ⟨h2,p1⟩ hn ej (by simp only[List.mem_cons,List.not_mem_nil,or_false,not_or];exact⟨ej,ae.symm⟩) λx' g tk hx' ho az t1 s1 k1=>⟨_,rfl,?_⟩
  have hxu:x'=u:=by
   have:its.toArray[n]?=some u:=by simpa using hu
   rw[this]at hx';exact(Option.some.inj hx').symm
  subst hxu;refine wpAny_letOwnedTupleGo_enum ho λg' he' lu=>?_;have kp:∀b o,b∉[e,j]->s.heap.get? b=some o->g'.get? b=some o:=λb o hb q=>by
   simp only[List.mem_cons,List.not_mem_nil,or_false,not_or]at hb;exact lu.extBut _ _ hb.1 (k1 b o hb.1 hb.2 q)
  have eT:s.heap.objs.size≠e:=Nat.ne_of_gt (Heap.lt_size h1);have t2:=lu.extBut _ _ eT t1;have I':=ye (t':=tk+1) (o:=.tup [.int n,x]) I hf kp (Nat.le_refl _) ⟨by show 2<=sizeLine;decide,[.int n tk,x'],.cons ⟨tk,rfl⟩ (.cons ru .nil),⟨_,t2,rfl,_,rfl⟩⟩
  have XG:H s.heap.objs.size=none:=I.bP.fresh (Nat.le_refl _);refine⟨.ref s.heap.objs.size,upd H s.heap.objs.size (.tup [.int n,x]),I',rfl,⟨_,x,XG,rfl,rfl,λzs hz=>by rw[hz.inj I q1];exact e1⟩,⟨⟨x',by simpa using he'⟩,az.1.at λo q=>lu.extBut _ _ ej.symm q⟩,λb hb=>?_⟩
  have pJ:=(hf b hb).1;have:b≠s.heap.objs.size:=by
   simp only[List.mem_cons,List.not_mem_nil,or_false]at hb;rcases hb with rfl|rfl
   ·exact eT.symm
   ·obtain⟨o,q,_⟩:=h2.live;exact Nat.ne_of_lt (Heap.lt_size q)
  rw[aq this];exact pJ
 done:=by
  intro X hP hw hK hc n pins s σ H E I hf st hg;subst hP hw hK;obtain⟨⟨old,h1⟩,h2⟩:=st;obtain⟨xs,q1,hl⟩:=hg;obtain⟨its,r1,p1,_⟩:=q1.is I;have n1:=r1.length;have Dr:=se (prog:=X.prog) (w:=X.w) (A:=X.A.in1) (show X.A.in1.handled=none from I.ok.hd hc) tp j a aj its.toArray
  have hn:its.toArray.size=n:=by rw[List.size_toArray,<- n1,hl]
  rw[hn]at Dr;refine wpAny_pyNext_enum_endD Dr h1 ⟨h2,p1⟩ λg x1=>⟨rfl,?_⟩;refine yd (t':=s.toks) (ch:=[e,j]) I hf λb o hb q=>?_;simp only[List.mem_cons,List.not_mem_nil,or_false,not_or]at hb;exact x1 b o hb.2 q
 self:=λ_ _ _ _ _ st h=>by
  obtain⟨⟨old,h1⟩,_⟩:=st;exact wpAny_pyIter_enum h1 h
def Tq(K:PySem.W.Frag)(ta:TA):TI:=λσ H R=>ta σ H λvs H1=>∃a xs,vs=[.ref a]/\dY K H1 a xs/\R (Qe false K a) H1
theorem GD{X:Cx}{elts:List Expr}{kk:Nat}{tpos:Pos}{a:Expr}{ta:TA}{p pos:Pos}(hg:Gl X "enumerate")(hm:X.mg "enumerate"=none)(hv:bootBuiltins "enumerate"=some (.type "enumerate"))(ha:PA X [a] ta)(hs:starEach [a] X.env=[(false,eval a X.env)]):
  PI X (.Tuple elts kk tpos) (.Call (.Name "enumerate" p) [a] [] pos) (Tq X.K ta):=by
 intro pins s σ H R I h;refine PyProof.Rows.Call_ (dJ I hg hm hv (PyProof.Rows.callWith_type1 (cj (ha pos pins s σ H _ I h) λus s1 ⟨vs,H1,I1,r1,q1⟩=>?_) hs rfl));obtain⟨l,xs,e,q1,q⟩:=q1;subst e;obtain⟨u,rfl,ru⟩:=vals1 r1;cases ru;obtain⟨its,_,p1,_⟩:=I1.list q1;have ll:l<s1.heap.objs.size:=p1.lt;refine call_enumerate_list p1.isList λg e1 i1 n1 k1=>?_;refine wpAny_pyIter_enum e1 ?_;refine⟨s1.heap.objs.size+1,[s1.heap.objs.size+1,s1.heap.objs.size],_,_,H1,rfl,I1.kept (t':=s1.toks) k1,
  oJ false _ _ l (show(s1.heap.objs.size+1:Nat)≠s1.heap.objs.size by omega) (Nat.ne_of_lt (Nat.lt_succ_of_lt ll)) (Nat.ne_of_lt ll),⟨⟨_,e1⟩,i1⟩,λb hb=>?_,q⟩
 have pJ:s1.heap.objs.size<=b:=by
  simp only[List.mem_cons,List.not_mem_nil,or_false]at hb;rcases hb with rfl|rfl
  ·exact Nat.le_succ _
  ·exact Nat.le_refl _
 exact I1.vC pJ (I1.bP.fresh pJ)
variable {G:GE}{k:Nat}{S:Stat}
def VG:D->Option (List D)
 | .lst xs=>some xs
 | .tup xs=>some xs
 | _=>none
def uY(xs ys:List D):List D:=(xs.zip ys).map λp=>.tup [p.1,p.2]
def j7(xs:List D):List D:=xs.mapIdx λi x=>.tup [.int i,x]
def Hc(t:eD):eD:=λσ Q=>t σ λds aw=>match ds with
 | [a,b]=>match VG a,VG b with
  | some xs,some ys=>Q (uY xs ys) aw
  | _,_=>False
 | _=>False
theorem Rep.sq{F:Hp}{v:V}{d:D}{xs:List D}(r:Rep F v d)(e:VG d=some xs)(K:PySem.W.Frag):∃tp a vs,v=.ref a/\(∀H,ao F H->Sq tp K H a vs)/\aE F vs xs:=by
 cases d with
 | lst ys =>
  cases e;cases r with
  | lst h r=>exact⟨false,_,_,rfl,λH s=>(show dY K H _ _ from .inl (Rd.mono s h)),r⟩
 | tup ys =>
  cases e;cases r with
  | tup h r=>exact⟨true,_,_,rfl,λH s=>(show gS K H _ _ from .of (s _ _ h)),r⟩
 | _=>cases e
theorem Es{xs ys:List D}{i:Nat}{d:D}(h:(uY xs ys)[i]?=some d):∃x y,xs[i]?=some x/\ys[i]?=some y/\d=.tup [x,y]:=by
 unfold uY at h;rw[List.getElem?_map]at h;cases e:(xs.zip ys)[i]? with
 | none=>rw[e]at h;cases h
 | some p =>
  rw[e]at h;obtain⟨e1,e2⟩:=List.getElem?_zip_eq_some.mp e;exact⟨p.1,p.2,e1,e2,(Option.some.inj h).symm⟩
theorem FW{K:PySem.W.Frag}{F:Hp}{tp tq:Bool}{l m:Addr}{vs us:List V}{xs ys:List D}(h1:∀H,ao F H->Sq tp K H l vs)(h2:∀H,ao F H->Sq tq K H m us)(r1:aE F vs xs)(r2:aE F us ys):gQ F (WQ tp tq K l m) (uY xs ys):=λF1 H1 s1 s2 i=>by
 have a1:=h1 H1 (s1.trans s2);have a2:=h2 H1 (s1.trans s2);refine⟨λd e=>?_,λhl=>⟨vs,us,a1,a2,?_⟩⟩
 ·obtain⟨x,y,e1,e2,rfl⟩:=Es e
  obtain⟨v,w1,q1⟩:=r1.get e1;obtain⟨u,w2,q2⟩:=r2.get e2;refine⟨⟨vs,us,v,u,a1,a2,w1,w2⟩,λz H2 yl=>?_⟩;obtain⟨p,v',u',hp,rfl,rfl,f1,f2⟩:=yl;have Il:=f1 vs a1;have zQ:=f2 us a2;rw[w1]at Il;cases Il;rw[w2]at zQ;cases zQ;have sm:=aI (o:=.tup [v,u]) (same_none s2 hp);exact⟨upd F1 p (.tup [v,u]),.inr ⟨p,_,hp,rfl,rfl⟩,.tup aB (.cons ((q1.mono s1).mono sm) (.cons ((q2.mono s1).mono sm) .nil))⟩
 ·have:(uY xs ys).length=min xs.length ys.length:=by unfold uY;simp
  have n1:=r1.length;have n2:=r2.length;omega
theorem IK{elts:List Expr}{kk:Nat}{tpos:Pos}{a b:Expr}{t:eD}{p pos:Pos}(h:vf G k S [a,b] t)(hm:G.mg "zip"=none)(hg:S.sc.lookup ("zip":Str)=some .globalImplicit:=by rfl)(hs:∀env,starEach [a,b] env=[(false,eval a env),(false,eval b env)]:=by intro _;rfl)(sX:∀env,starEach [b] env=[(false,eval b env)]:=by intro _;rfl):
  EI G k S (.Tuple elts kk tpos) (.Call (.Name "zip" p) [a,b] [] pos) (Hc t):=.mk λX Y ok=>mn (NT (cz ok hg) (by rw[ok.mg];exact hm) (h X Y ok) (hs _) (sX _)) λσ H Q q=>by
 obtain⟨F,ak,Qd,R,q,K⟩:=q;refine⟨F,ak,_,R,q,λvs H1 F1 ds aw s1 R1 r1 q1=>?_⟩
 split at q1
 ·rename_i x y
  split at q1
  ·rename_i xs ys ex ey
   cases r1 with
   | cons rx r1 =>
    cases r1 with
    | cons ry r1 =>
     cases r1;obtain⟨tp,l,us,rfl,a1,b1⟩:=rx.sq ex X.K;obtain⟨tq,m,ws,rfl,a2,b2⟩:=ry.sq ey X.K;exact⟨tp,tq,l,m,us,ws,rfl,a1 H1 R1.fr,a2 H1 R1.fr,K H1 F1 aw _ _ s1 R1 (FW a1 a2 b1 b2) q1⟩
  ·exact q1.elim
 ·exact q1.elim
theorem FT{K:PySem.W.Frag}{F:Hp}{tp:Bool}{l:Addr}{vs:List V}{xs:List D}(h1:∀H,ao F H->Sq tp K H l vs)(r1:aE F vs xs):gQ F (Qe tp K l) (j7 xs):=λF1 H1 s1 s2 i=>by
 have a1:=h1 H1 (s1.trans s2);refine⟨λd e=>?_,λhl=>⟨vs,a1,?_⟩⟩
 ·unfold j7 at e
  rw[List.getElem?_mapIdx]at e;cases ex:xs[i]? with
  | none=>rw[ex]at e;cases e
  | some x =>
   rw[ex]at e;cases e;obtain⟨v,w1,q1⟩:=r1.get ex;refine⟨⟨vs,v,a1,w1⟩,λz H2 yl=>?_⟩;obtain⟨p,v',hp,rfl,rfl,f1⟩:=yl;have Il:=f1 vs a1;rw[w1]at Il;cases Il;have sm:=aI (o:=.tup [.int i,v]) (same_none s2 hp);exact⟨upd F1 p (.tup [.int i,v]),.inr ⟨p,_,hp,rfl,rfl⟩,.tup aB (.cons (.int _) (.cons ((q1.mono s1).mono sm) .nil))⟩
 ·rw[r1.length,hl];unfold j7;simp
end Vc
namespace Vc
open PySem L2
variable [KF]
section
variable {prog:Program}{w:World}{A:Around}{R:Result->Shared->Prop}
def cI(bt:Nat->Nat->Bool):Nat->Nat
 | 0=>0
 | n+1=>if bt (n+1) (cI bt n)=true then n+1 else cI bt n
def zV(prog:Program)(w:World)(A:Around)(op:CmpOp)(h0:Heap)(its:Array Value)(bt:Nat->Nat->Bool):Prop:=
 ∀(i j:Nat) (x y:Value) (s:Shared) (Q:Value->Shared->Prop) (E:Value->Shared->Prop),its[i]?=some x->its[j]?=some y->(∀b o,h0.get? b=some o->s.heap.get? b=some o)->Q (.bool (bt i j)) s->wpAny (model prog w) A (richCompare op x y) Q E s
end
end Vc
namespace Vc
open PySem L2
variable [KF]
variable {G:GE}{k:Nat}{S:Stat}
def isInt:D->Bool
 | .int _=>true
 | _=>false
def ig:D->Int
 | .int i=>i
 | _=>0
theorem aE.ints{F:Hp}:∀ {vs:List V} {xs:List D},aE F vs xs->xs.all isInt=true->vs=(xs.map ig).map V.int
 | _,_,.nil,_=>rfl
 | _,_,.cons (d:=d) r t,h=>by
  rw[List.all_cons,Bool.and_eq_true]at h;cases d with
  | int i =>
   cases r;rw[aE.ints t h.2];rfl
  | _=>exact absurd h.1 (by simp [isInt])
theorem Au{X:Cx}(hc:X.calm=true):cy X (.builtin "sum") (λxs H Q=>∃(a:Addr) (ns:List Int),xs=[.ref a]/\dY X.K H a (ns.map V.int)/\Q (.int ns.sum) H):=by
 intro pins s σ H xs us Q I r h;obtain⟨a,ns,rfl,hq,q⟩:=h;obtain⟨u,rfl,ru⟩:=vals1 r;cases ru;obtain⟨its,rv,p,_⟩:=I.list hq;obtain⟨m,F⟩:=I.fr;have hi:=L2.intsAre_of rv;obtain⟨ys,e⟩:=(hi.allInts).items;have pl:=p.isList;rw[e]at pl;refine wpAny_with_toks (Nat.le_refl s.toks) (sum_intListG (I.ok.hd hc) pl λg tk t' kp h8=>⟨.int ns.sum,H,I.kept kp,⟨t',?_⟩,q⟩);have e1:preSum (numAt ys) ys.size=(PySem.numsOf its.toArray.toList).sum:=by
  rw[e,nums_intItems,preSum_eq,List.take_of_length_le (by simp)]
 rw[e1,show its.toArray.toList=its from rfl,hi.numsOf]
def sumF:List D->(EV->Prop)->Prop
 | [.lst xs],Q=>xs.all isInt=true/\Q (.val (.int (xs.map ig).sum))
 | _,_=>False
theorem Io(hh:S.kE=false:=by rfl):yj G k S (.builtin "sum") sumF:=⟨λK xs H Q=>∃(a:Addr) (ns:List Int),xs=[V.ref a]/\dY K H a (ns.map V.int)/\Q (.int ns.sum) H,λ_ _ ok=>Au (ok.calm hh),λY F H ak σ vs ds Qd Q R r q g=>by
 unfold sumF at q
 split at q
 ·obtain⟨v,rfl,rv⟩:=r.one
  obtain⟨p,us,rfl,h1,h2⟩:=rv.lst;refine⟨p,_,rfl,?_,g.val R (.int _) q.2⟩;rw[<- h2.ints q.1];exact .inl h1
 ·exact q.elim⟩
def PX:D->Option String
 | .bx=>some "NoneType"
 | .bl _=>some "bool"
 | .int _=>some "int"
 | .str _=>some "str"
 | .lst _=>some "list"
 | .tup _=>some "tuple"
 | _=>none
def dU(T U:String):Bool:=T==U||(T=="bool"&&U=="int")
def dr(U:String):Prop:=∀K:PySem.W.Frag,PySem.W.kitOne K (.type "NoneType") (.type U)=some (dU "NoneType" U)/\PySem.W.kitOne K (.type "bool") (.type U)=some (dU "bool" U)/\PySem.W.kitOne K (.type "int") (.type U)=some (dU "int" U) /\
 PySem.W.kitOne K (.type "str") (.type U)=some (dU "str" U)/\PySem.W.kitOne K (.type "list") (.type U)=some (dU "list" U)/\PySem.W.kitOne K (.type "tuple") (.type U)=some (dU "tuple" U)
theorem FZ:dr "int":=λK=>⟨by rfl,by rfl,by rfl,by rfl,by rfl,by rfl⟩
theorem tD:dr "bool":=λK=>⟨by rfl,by rfl,by rfl,by rfl,by rfl,by rfl⟩
theorem tE:dr "list":=λK=>⟨by rfl,by rfl,by rfl,by rfl,by rfl,by rfl⟩
theorem kit_tuple:dr "tuple":=λK=>⟨by rfl,by rfl,by rfl,by rfl,by rfl,by rfl⟩
theorem dr.of{U:String}(h:dr U)(K:PySem.W.Frag){d:D}{T:String}(e:PX d=some T):PySem.W.kitOne K (.type T) (.type U)=some (dU T U):=by
 obtain⟨h1,h2,h3,h4,h5,h6⟩:=h K;cases d<;>cases e<;>assumption
theorem bU.ty{F H:Hp}{v:V}{d:D}{T:String}(r:bU F H v d)(s:ao F H)(K:PySem.W.Frag)(e:PX d=some T):gT K H v (.type T):=by
 cases d with
 | bx=>cases e;obtain rfl:=r.bx;exact .bx
 | bl b=>cases e;obtain rfl:=r.bl;exact .bl b
 | int i=>cases e;obtain rfl:=r.int;exact .int i
 | str x=>cases e;obtain rfl:=r.str;exact .str x
 | lst xs =>
  cases e;obtain⟨a,vs,rfl,h,_⟩:=r.lst;rcases h with h|⟨o,h⟩
  ·exact .lst h
  ·exact .nQ h
 | tup xs=>cases e;obtain⟨a,vs,rfl,h,_⟩:=r.tup s;exact .tup h
 | dct _=>cases e
 | exc _=>cases e
 | fZ _=>cases e
 | mZ _=>cases e
 | kp _ _ _ _=>cases e
 | tk _=>cases e
theorem FY{X:Cx}{pins:List (Addr×Obj)}{σ:St}{H:Hp}{s:Shared}{x:V}{u:Value}{T:String}(I:L2.Inv X pins σ H s)(rx:RelV x u)(ty:gT X.K H x (.type T))(cm:T≠"dict"):
  ∃WM:Heap->Prop,PySem.W.KitX X.K u (.type T) WM/\WM s.heap/\u≠.builtin "__main__.__loader__#opaque":=by
 cases ty with
 | bx=>cases(show u=Value.none from rx);exact⟨_,PySem.W.kitx_none,True.intro,λz=>nomatch z⟩
 | bl y=>cases(show u=Value.bool y from rx);exact⟨_,PySem.W.kitx_bool,True.intro,λz=>nomatch z⟩
 | int i=>obtain⟨t,q⟩:=(show∃t,u=Value.int i t from rx);cases q;exact⟨_,PySem.W.kitx_int,True.intro,λz=>nomatch z⟩
 | str y=>obtain⟨t,q⟩:=(show∃t,u=Value.str y t from rx);cases q;exact⟨_,PySem.W.kitx_str,True.intro,λz=>nomatch z⟩
 | Lh y=>obtain⟨t,q⟩:=(show∃t,u=Value.float y t from rx);cases q;exact⟨_,PySem.W.kitx_float,True.intro,λz=>nomatch z⟩
 | @lst a xs ea =>
  cases(show u=Value.ref a from rx)
  obtain⟨_,_,n,_,h1⟩:=(show bL X.prog X.w H s.heap a (.lst xs)from I.bP a _ ea)
  exact⟨_,PySem.W.kitx_list,⟨_,h1,rfl⟩,λz=>nomatch z⟩
 | @nQ a ob xs ea =>
  cases(show u=Value.ref a from rx)
  obtain⟨_,_,_,n,_,h1⟩:=(show bL X.prog X.w H s.heap a (.nQ ob (.lst xs))from I.bP a _ ea)
  exact⟨_,PySem.W.kitx_list,⟨_,h1,rfl⟩,λz=>nomatch z⟩
 | @tup a xs ea =>
  cases(show u=Value.ref a from rx)
  obtain⟨_,_,_,p⟩:=(show bL X.prog X.w H s.heap a (.tup xs)from I.bP a _ ea)
  obtain⟨o,h1,h2,_⟩:=p;exact⟨_,PySem.W.kitx_tuple,⟨o,h1,h2⟩,λz=>nomatch z⟩
 | dK _=>exact absurd rfl cm
 | dT _=>exact absurd rfl cm
theorem PY{d:D}{T:String}(e:PX d=some T):T≠"dict":=by cases d<;>cases e<;>decide
def FR(Us:List String)(d:D)(Q:Bool->Prop):Prop:=match PX d with
 | some T=>Q (Us.any (dU T))
 | none=>False
def nj(Us:List String)(t:TV):TB:=λσ Q=>t σ λx aw=>match dZ aw x with
 | some d=>FR Us d λb=>Q b aw
 | none=>False
theorem mv{e:Expr}{t:TV}{u:Str}{U:String}{p p2 pos:Pos}(h:EO G k S e t)(kf:dr U)(hm:G.mg "isinstance"=none)(e9:G.mg u=none)(Tg:bootBuiltins u=some (.type U))(ER:u≠"__name__":=by decide)(hd2:(u==("__debug__":Str))=false:=by decide)
  (hg:S.sc.lookup ("isinstance":Str)=some .globalImplicit:=by rfl) (EL:S.sc.lookup u=some .globalImplicit:=by rfl)
  (he:∀env,starEach [e,.Name u p2] env=(false,eval e env)::starEach [.Name u p2] env:=by intro _;rfl):EO G k S (.Call (.Name "isinstance" p) [e,.Name u p2] [] pos) (bV (nj [U] t)):=.mk λX Y ok=>by
 have ha:PA X [e,.Name u p2] (dX (lO Y t) (dX (tC (.ty U)) mN)):=bS (h X Y ok) (bS (qf (cz ok EL) (by rw[ok.mg];exact e9) Tg (show RelV (.ty U) (.type U)from rfl) ER hd2) cW rfl) (he _)
 have hc:cy X (.builtin "isinstance") (λvs H Q=>∃F x d T,vs=[x,.ty U]/\ao F H/\bU F H x d/\PX d=some T/\Q (.bl (dU T U)) H):=by
  intro pins s σ H xs us Q I r q;obtain⟨F,x,d,T,rfl,sm,rx,et,q⟩:=q;obtain⟨a,b,rfl,ra,rb⟩:=vals2 r;cases rb;exact wpAny_with_toks (Nat.le_refl s.toks) (yR I ra (rx.ty sm X.K et) (kf.of X.K et) λtk h8=>⟨.bl _,H,I.tok tk,rfl,q⟩)
 refine aP (mj hc (cz ok hg) (by rw[ok.mg];exact hm) (by decide +kernel) ha ∅ ∅ (he _) rfl) λσ H Q q=>?_
 obtain⟨F,ak,Qd,R,q,K⟩:=q;refine⟨F,ak,_,R,q,λv1 H1 F1 x aw s1 R1 r1 q1=>?_⟩
 split at q1
 ·rename_i d ed
  unfold FR at q1
  split at q1
  ·rename_i T eT
   refine⟨F1,v1,d,T,rfl,R1.fr,R1.dZ r1 ed,eT,?_⟩;have e1:([U].any (dU T))=dU T U:=by simp
   rw[e1]at q1;exact K _ H1 F1 (.val (.bl (dU T U))) aw s1 R1 (.bl _) q1
  ·exact q1.elim
 ·exact q1.elim
theorem Dy{e:Expr}{t:TV}{u w:Str}{U W:String}{p p2 p3 p4 pos:Pos}{kk:Nat}(h:EO G k S e t)(kf:dr U)(kg:dr W)(hm:G.mg "isinstance"=none)(e9:G.mg u=none)(XT:G.mg w=none)(Tg:bootBuiltins u=some (.type U))(hv3:bootBuiltins w=some (.type W))(ER:u≠"__name__":=by decide)(hd2:(u==("__debug__":Str))=false:=by decide)(Tb:w≠"__name__":=by decide)(hd3:(w==("__debug__":Str))=false:=by decide)
  (hg:S.sc.lookup ("isinstance":Str)=some .globalImplicit:=by rfl) (EL:S.sc.lookup u=some .globalImplicit:=by rfl) (hg3:S.sc.lookup w=some .globalImplicit:=by rfl)
  (he:∀env,starEach [e,.Tuple [.Name u p2,.Name w p3] kk p4] env=(false,eval e env)::starEach [.Tuple [.Name u p2,.Name w p3] kk p4] env:=by intro _;rfl):EO G k S (.Call (.Name "isinstance" p) [e,.Tuple [.Name u p2,.Name w p3] kk p4] [] pos) (bV (nj [U,W] t)):=.mk λX Y ok=>by
 have hT:PE X (.Tuple [.Name u p2,.Name w p3] kk p4) (Pu (dX (tC (.ty U)) (dX (tC (.ty W)) mN))):=C6 (bS (qf (cz ok EL) (by rw[ok.mg];exact e9) Tg (show RelV (.ty U) (.type U)from rfl) ER hd2) (bS (qf (cz ok hg3) (by rw[ok.mg];exact XT) hv3 (show RelV (.ty W) (.type W)from rfl) Tb hd3) cW rfl) rfl)
 have ha:PA X [e,.Tuple [.Name u p2,.Name w p3] kk p4] (dX (lO Y t) (dX (Pu (dX (tC (.ty U)) (dX (tC (.ty W)) mN))) mN)):=bS (h X Y ok) (bS hT cW rfl) (he _);have hc:cy X (.builtin "isinstance") (λvs H Q=>∃F x d T c,vs=[x,.ref c]/\H c=some (.tup [.ty U,.ty W])/\ao F H/\bU F H x d/\PX d=some T/\Q (.bl (dU T U||dU T W)) H):=by
  intro pins s σ H xs us Q I r q;obtain⟨F,x,d,T,c,rfl,V8,sm,rx,et,q⟩:=q;obtain⟨a,b,rfl,ra,rb⟩:=vals2 r;cases rb;obtain⟨_,its,rv,o,ho,zR,n,hd⟩:=I.bP c _ V8;obtain⟨z1,z2,rfl,w1,w2⟩:=vals2 rv;cases w1;cases w2;obtain⟨oc,od,odt,Gw⟩:=o;simp only at zR hd;subst zR hd;obtain⟨WM,kx,LR,nb⟩:=FY I ra (rx.ty sm X.K et) (PY et);refine wpAny_with_toks (Nat.le_refl _) (PySem.W.kia_tup (b:=dU T U||dU T W) kx I.rK LR ho ?_ nb λtk h8=>⟨.bl _,H,I.tok tk,rfl,q⟩)
  unfold PySem.W.kitAny;rw[kf.of X.K et];cases dU T U with
  | true=>rfl
  | false =>
   show PySem.W.kitAny X.K (.type T) [.type W]=_;unfold PySem.W.kitAny;rw[kg.of X.K et];cases dU T W with
   | true=>rfl
   | false=>rfl
 refine aP (mj hc (cz ok hg) (by rw[ok.mg];exact hm) (by decide +kernel) ha ∅ ∅ (he _) rfl) λσ H Q q=>?_
 obtain⟨F,ak,Qd,R,q,K⟩:=q;refine⟨F,ak,_,R,q,λv1 H1 F1 x aw s1 R1 r1 q1=>⟨by show 2<=sizeLine;decide,λc hc=>?_⟩⟩
 split at q1
 ·rename_i d ed
  unfold FR at q1
  split at q1
  ·rename_i T eT
   have R2:=R1.gu (o:=.tup [.ty U,.ty W]) hc;refine⟨F1,v1,d,T,c,rfl,aB,R2.fr,R2.dZ r1 ed,eT,?_⟩;have e1:([U,W].any (dU T))=(dU T U||dU T W):=by simp
   rw[e1]at q1;exact K _ _ F1 (.val (.bl _)) aw s1 R2 (.bl _) q1
  ·exact q1.elim
 ·exact q1.elim
end Vc
namespace Vc
open PySem L2
variable [KF]
variable {G:GE}{k:Nat}{S:Stat}
def ltI:D->D->Bool
 | .int i,.int j=>decide (i<j)
 | .tup xs,.tup ys=>HT.lexLt (xs.map ig) (ys.map ig)
 | _,_=>false
end Vc
namespace Vc
open PySem L2
variable [KF]
variable {G:GE}{k:Nat}{S:Stat}
theorem BA{g:rD}{tb:cA}{De:f7}{items:List D}(I:Nat->Sd->Prop)
  (Cj:∀i x σ (N:Sd->Prop),items[i]?=some x->I i σ->(∀bB,I (i+1) bB->N bB)->g x σ λaw=>tb {nx:=N,rt:=De.rt,bk:=De.nx,ct:=N} aw)
  (B7:∀σ,I items.length σ->De.nx σ) {σ:Sd} (h0:I 0 σ):sM g tb De items σ:=by
 have key:∀(xs:List D) (i:Nat) (σ:Sd),items.drop i=xs->i<=items.length->I i σ->sM g tb De xs σ:=by
  intro xs
  induction xs with
  | nil =>
   intro i σ e l h;have:items.length<=i:=List.drop_eq_nil_iff.mp e;exact B7 σ ((Nat.le_antisymm l this) ▸ h)
  | cons x r ih =>
   intro i σ e l h;have hx:items[i]?=some x:=by
    have:=congrArg (·[0]?) e
    simpa using this
   have hr:items.drop (i+1)=r:=by rw[<- List.drop_drop,e];rfl
   have hl:i<items.length:=(List.getElem?_eq_some_iff.mp hx).1;exact Cj i x σ _ hx h λbB h'=>ih (i+1) bB hr hl h'
 exact key items 0 σ rfl (Nat.zero_le _) h0
theorem gY{α:Type}{g:rD}{tc:TB}{te:TD}{σ0:Sd}{Q:List D->Prop}(gi:α->D)(f:α->Option D)(l:List α)
  (h:∀a∈l,∀(A:D->Prop) (Bn:Prop),(match f a with|some d=>A d|none=>Bn)->g (gi a) σ0 λaw=>tc aw λb bq=>if b=true then te bq λd fe=>pR σ0 fe/\A d else pR σ0 bq/\Bn)
  (hl:l.length<=sizeLine) (q:Q (l.filterMap f)):gf g tc te σ0 (l.map gi) [] Q:=by
 have key:∀(l:List α) (acc:List D),(∀a∈l,∀(A:D->Prop) (Bn:Prop),(match f a with|some d=>A d|none=>Bn)->g (gi a) σ0 λaw=>tc aw λb bq=>if b=true then te bq λd fe=>pR σ0 fe/\A d else pR σ0 bq/\Bn) ->
   acc.length+l.length<=sizeLine->Q (acc++l.filterMap f)->gf g tc te σ0 (l.map gi) acc Q:=by
  intro l
  induction l with
  | nil=>intro acc _ _ q;simpa [gf]using q
  | cons a l ih =>
   intro acc h hl q;rw[List.length_cons]at hl;rw[List.map_cons];refine h a (List.mem_cons_self ..) (λd=>acc.length<sizeLine/\gf g tc te σ0 (l.map gi) (acc++[d]) Q) (gf g tc te σ0 (l.map gi) acc Q) ?_;have hr:=λy hy=>h y (List.mem_cons_of_mem _ hy);cases e:f a with
   | some d =>
    refine⟨by omega,ih _ hr (by rw[List.length_append,List.length_singleton];omega) ?_⟩
    rw[List.filterMap_cons_some e]at q
    rwa [List.append_assoc]
   | none =>
    refine ih acc hr ⋯ ?_
    rwa [List.filterMap_cons_none e]at q
 exact key l [] h (by simpa using hl) q
theorem dB{α:Type}{g:rD}{te:TD}{σ0:Sd}{Q:List D->Prop}(gi f:α->D)(l:List α)
  (h:∀a∈l,∀(A:D->Prop),A (f a)->g (gi a) σ0 λaw=>te aw λd fe=>pR σ0 fe/\A d)
  (hl:l.length<=sizeLine) (q:Q (l.map f)):gf g gq te σ0 (l.map gi) [] Q:=
 gY gi (λx=>some (f x)) l (λx hx A Bn ha=>h x hx A ha) hl (by simpa using q)
theorem cJ{α:Type}{g:rD}{tb:cA}{De:f7}(gi:α->D)(l:List α)(I:Nat->Sd->Prop)
  (Cj:∀i a σ (N:Sd->Prop),l[i]?=some a->I i σ->(∀bB,I (i+1) bB->N bB)->g (gi a) σ λaw=>tb {nx:=N,rt:=De.rt,bk:=De.nx,ct:=N} aw)
  (B7:∀σ,I l.length σ->De.nx σ) {σ:Sd} (h0:I 0 σ):sM g tb De (l.map gi) σ:=by
 refine BA I (λi x σ N hx hI hN=>?_) (λσ h=>B7 σ (by rwa [List.length_map]at h)) h0
 rw[List.getElem?_map]at hx;cases e:l[i]? with
 | none=>rw[e]at hx;cases hx
 | some a=>rw[e]at hx;cases hx;exact Cj i a σ N e hI hN
theorem cM(lo:Int)(n:Nat):ng lo n=(List.range n).map λi=>.int (lo+(i:Nat)):=rfl
theorem uZ{α β:Type}(f:α->D)(g:β->D)(xs:List α)(ys:List β):uY (xs.map f) (ys.map g)=(xs.zip ys).map λp=>.tup [f p.1,g p.2]:=by
 unfold uY;rw[List.zip_map,List.map_map];rfl
theorem yA{α:Type}(f:α->D)(xs:List α):j7 (xs.map f)=(xs.mapIdx λi x=>(i,x)).map λp=>.tup [.int (p.1:Nat),f p.2]:=by
 unfold j7;apply List.ext_getElem?;intro i;simp only[List.getElem?_mapIdx,List.getElem?_map];cases xs[i]?<;>rfl
theorem o6{α:Type}{xs:List α}{n:Nat}{d:α}(h:xs[n]?=some d):L2.mS xs (n:Int)=some d:=by
 have hn:=(List.getElem?_eq_some_iff.mp h).1;unfold L2.mS L2.yS;rw[if_pos (Int.natCast_nonneg n),if_pos ⋯]
 show xs[(n:Int).toNat]?=some d;rw[Int.toNat_natCast];exact h
theorem aS{xs:List D}{n:Nat}{i:Int}{d:D}{Q:D->Prop}(e:i=(n:Int))(h:xs[n]?=some d)(q:Q d):FX (.lst xs) (.int i) Q:=by
 subst e;show(match L2.mS xs (n:Int)with|some d=>Q d|none=>False)
 rw[o6 h];exact q
theorem jC{xs:List D}{n:Nat}{i:Int}{d:D}{Q:D->Prop}(e:i=(n:Int))(h:xs[n]?=some d)(q:Q d):FX (.tup xs) (.int i) Q:=by
 subst e;show(match L2.mS xs (n:Int)with|some d=>Q d|none=>False)
 rw[o6 h];exact q
theorem cV{xs:List D}{i:Int}{Q:D->Prop}(h0:0<=i)(h1:i<xs.length)(h:∀d∈xs,Q d):FX (.lst xs) (.int i) Q:=by
 have hn:i.toNat<xs.length:=by omega
 exact aS (n:=i.toNat) ⋯ (List.getElem?_eq_getElem hn) (h _ (List.getElem_mem hn))
structure cT(G:GE)(x:Str)(st:Stmt)(ps:List Str)(f:Addr)(fd:FuncData):Prop where
 F:HN G.K x x st f fd
 m:G.mg x=some (.ref f)
 b:Binds G.K fd ps []
theorem cT.fg{x:Str}{st:Stmt}{ps N:List Str}{f:Addr}{fd:FuncData}{t:cA}{sp:cf}(d:cT G x st ps f fd)(hK:G.K=KF.K)(Sc:aL N ps (ah st))(ht:eG G k ⟨N,(ah st).names,[],false,false,false,λ_ _=>False⟩ (ax st) t)
  (len:∀ds Q,sp ds Q->ds.length=ps.length) (body:∀ds Q,sp ds Q->t {nx:=λ_=>Q (.sh .bx),rt:=λb _=>Q b} (aY N.length ds)):dq G (k+1) x sp:=
 ⟨f,fd,ps,Ir hK d.F Sc ht len body,d.m,d.F.kp,d.b⟩
theorem au{t u:cA}{De:f7}{σ:Sd}(h:∀N,N=u De->t {nx:=N,rt:=De.rt,bk:=De.bk,ct:=De.ct} σ):bT t u De σ:=h _ rfl
end Vc
namespace Vc
open PySem L2
variable [KF]
section
open AutoSeq1 (wpAny_loadPart')
theorem tQ(l:Addr)(items:Array Value)(n:Nat)(dct:Option Addr)(sl:Array (Option Value)):
  Meets (Builtin.«enumerate.__new__» ⟨[.type "enumerate",.ref l],[]⟩) (λ_ R s=>s.heap.get? l=some {cls:=.type "tuple",dict:=dct,data:=.seq items n,slots:=sl} /\
   R (.ok (.ret (.ref (s.heap.push {cls:=.type "tuple_iterator",data:=.fields #[.ref l,.int 0 0]}).objs.size)))
    {s with heap:=(s.heap.push {cls:=.type "tuple_iterator",data:=.fields #[.ref l,.int 0 0]}).push {cls:=.type "enumerate",data:=.fields #[.none,.bool false,.ref s.heap.objs.size,rawInt 0,.none,.none]}}):=
 .of_wp λprog w A R s h=>by
  obtain⟨hp,g,d,tk,os⟩:=s;obtain⟨hl,h⟩:=h;have Ck:=sub_enumerate;have hL:Heap.IsTuple (Shared.heap ⟨hp,g,d,tk,os⟩) l items:=⟨_,hl,rfl,n,rfl⟩
  wp_walk using wpAny_loadPart' hl
  refine wpAny_stack_any λst=>wpAny_pure ?_
  split
  ·rename_i c _ _ _ _ _
   cases(c==Value.type "enumerate")
   ·wp_walk using wpAny_loadPart' hl,wpAny_pyIter_tuple hL
    exact⟨_,rfl,h⟩
   ·wp_walk using wpAny_loadPart' hl,wpAny_pyIter_tuple hL
    exact⟨_,rfl,h⟩
  ·wp_walk using wpAny_loadPart' hl,wpAny_pyIter_tuple hL
   exact⟨_,rfl,h⟩
theorem vv{prog:Program}{w:World}{A:Around}{E:Value->Shared->Prop}{s:Shared}{l:Addr}{items:Array Value}{Q:Value->Shared->Prop}(hL:s.heap.IsTuple l items)
  (h:∀h',IsEnum h' (s.heap.objs.size+1) s.heap.objs.size 0 .none->kB true h' s.heap.objs.size l 0->h'.objs.size=s.heap.objs.size+2 ->
   (∀b o,s.heap.get? b=some o->h'.get? b=some o)->Q (.ref (s.heap.objs.size+1)) {s with heap:=h'}):
  wpAny (model prog w) A (call (.type "enumerate") [.ref l]) Q E s:=by
 obtain⟨⟨c,dct,dt,sl⟩,hl,hc,n,hd⟩:=hL
 replace hc:c=.type "tuple":=hc
 replace hd:dt=.seq items n:=hd
 subst hc hd;refine callType_new F.called_enumerate ∅ (F.typeCall_enumerate_1 _) (F.newCall_enumerate_1 _) (λobj=>F.args_object_init_2 obj _) F.entry_enumerate_new
  (tQ l items n dct sl) ⟨hl,?_⟩
 have hz:(s.heap.push {cls:=.type "tuple_iterator",data:=.fields #[.ref l,.int 0 0]}).objs.size=s.heap.objs.size+1:=Heap.size_push ..;show _/\_;rw[hz];have he:IsEnum ((s.heap.push {cls:=.type "tuple_iterator",data:=.fields #[.ref l,.int 0 0]}).push
   {cls:=.type "enumerate",data:=.fields #[.none,.bool false,.ref s.heap.objs.size,rawInt 0,.none,.none]}) (s.heap.objs.size+1) s.heap.objs.size 0 .none:=by
  have:=Heap.get?_push_size (s.heap.push {cls:=.type "tuple_iterator",data:=.fields #[.ref l,.int 0 0]})
   (o:={cls:=.type "enumerate",data:=.fields #[.none,.bool false,.ref s.heap.objs.size,rawInt 0,.none,.none]}) rfl
  rw[hz]at this;exact this
 refine⟨⟨_,he,rfl⟩,h _ he ⟨_,Heap.get?_push_of_some _ (Heap.get?_push_size _ rfl),rfl,rfl⟩ (by rw[Heap.size_push,hz]) λb o x=>Heap.get?_push_of_some _ (Heap.get?_push_of_some _ x)⟩
end
def LY(K:PySem.W.Frag)(ta:TA):TI:=λσ H R=>ta σ H λvs H1=>∃tp a xs,vs=[.ref a]/\Sq tp K H1 a xs/\R (Qe tp K a) H1
theorem C9{X:Cx}{elts:List Expr}{kk:Nat}{tpos:Pos}{a:Expr}{ta:TA}{p pos:Pos}(hg:Gl X "enumerate")(hm:X.mg "enumerate"=none)(hv:bootBuiltins "enumerate"=some (.type "enumerate"))(ha:PA X [a] ta)(hs:starEach [a] X.env=[(false,eval a X.env)]):
  PI X (.Tuple elts kk tpos) (.Call (.Name "enumerate" p) [a] [] pos) (LY X.K ta):=by
 intro pins s σ H R I h;refine PyProof.Rows.Call_ (dJ I hg hm hv (PyProof.Rows.callWith_type1 (cj (ha pos pins s σ H _ I h) λus s1 ⟨vs,H1,I1,r1,q1⟩=>?_) hs rfl));obtain⟨tp,l,xs,e,q1,q⟩:=q1;subst e;obtain⟨u,rfl,ru⟩:=vals1 r1;cases ru;obtain⟨its,_,p1,ll⟩:=q1.is I1;have fin:∀h',IsEnum h' (s1.heap.objs.size+1) s1.heap.objs.size 0 .none->kB tp h' s1.heap.objs.size l 0->h'.objs.size=s1.heap.objs.size+2 ->
   (∀b o,s1.heap.get? b=some o->h'.get? b=some o)->wpAny (model X.prog X.w) X.A (pyIter (.ref (s1.heap.objs.size+1))) (Zk X pins σ (.Tuple elts kk tpos) R) X.xe {s1 with heap:=h'}:=λg e1 i1 n1 k1=>by
  refine wpAny_pyIter_enum e1 ?_;refine⟨s1.heap.objs.size+1,[s1.heap.objs.size+1,s1.heap.objs.size],_,_,H1,rfl,I1.kept (t':=s1.toks) k1,
   oJ tp _ _ l (show(s1.heap.objs.size+1:Nat)≠s1.heap.objs.size by omega) (Nat.ne_of_lt (Nat.lt_succ_of_lt ll)) (Nat.ne_of_lt ll),⟨⟨_,e1⟩,i1⟩,λb hb=>?_,q⟩
  have pJ:s1.heap.objs.size<=b:=by
   simp only[List.mem_cons,List.not_mem_nil,or_false]at hb;rcases hb with rfl|rfl
   ·exact Nat.le_succ _
   ·exact Nat.le_refl _
  exact I1.vC pJ (I1.bP.fresh pJ)
 cases tp with
 | true=>exact vv p1 fin
 | false=>exact call_enumerate_list p1 fin
variable {G:GE}{k:Nat}{S:Stat}
def wj(t:eD):eD:=λσ Q=>t σ λds aw=>match ds with
 | [.lst xs]=>Q (j7 xs) aw
 | [.tup xs]=>Q (j7 xs) aw
 | _=>False
theorem FN{elts:List Expr}{kk:Nat}{tpos:Pos}{a:Expr}{t:eD}{p pos:Pos}(h:vf G k S [a] t)(hm:G.mg "enumerate"=none)(hg:S.sc.lookup ("enumerate":Str)=some .globalImplicit:=by rfl)(hs:∀env,starEach [a] env=[(false,eval a env)]:=by intro _;rfl):
  EI G k S (.Tuple elts kk tpos) (.Call (.Name "enumerate" p) [a] [] pos) (wj t):=.mk λX Y ok=>mn (C9 (cz ok hg) (by rw[ok.mg];exact hm) (by decide +kernel) (h X Y ok) (hs _)) λσ H Q q=>by
 obtain⟨F,ak,Qd,R,q,K⟩:=q;refine⟨F,ak,_,R,q,λvs H1 F1 ds aw s1 R1 r1 q1=>?_⟩;have go:∀d xs,VG d=some xs->aE F1 vs [d]->Qd (j7 xs) aw->∃tp a us,vs=[.ref a]/\Sq tp X.K H1 a us/\Q (Qe tp X.K a) H1:=λd xs ex r1 q1=>by
  cases r1 with
  | cons rx r1 =>
   cases r1;obtain⟨tp,l,us,rfl,a1,b1⟩:=rx.sq ex X.K;exact⟨tp,l,us,rfl,a1 H1 R1.fr,K H1 F1 aw _ _ s1 R1 (FT a1 b1) q1⟩
 split at q1
 ·exact go _ _ rfl r1 q1
 ·exact go _ _ rfl r1 q1
 ·exact q1.elim
theorem As{X:Cx}:cy X (.type "range") (λxs H Q=>∃j:Int,xs=[.int j]/\∀l,H l=none->Q (.ref l) (upd H l (.Ow 0 j))):=by
 intro pins s σ H xs us Q I r h;obtain⟨j,rfl,q⟩:=h;obtain⟨u,rfl,rx⟩:=vals1 r;obtain⟨t,rfl⟩:=rx;refine call_range_1 ?_;exact⟨.ref s.heap.objs.size,_,I.laid (t':=s.toks+1+1) (o:=.Ow 0 j) (λb o e=>Heap.get?_push_of_some _ e) (Nat.le_refl _) ⟨_,_,_,Heap.get?_push_size _ rfl⟩,rfl,q _ I.fresh⟩
def qv(n:Nat):List V:=(List.range n).map λi=>.int (i:Nat)
theorem Eh{n:Nat}{acc:Array Value}(h:ItemsOf (λi v=>∃t,v=.int (0+i*1) t) acc n):Vals (qv n) acc.toList:=by
 obtain⟨h1,h2⟩:=h;have:∀(xs:List V) (us:List Value),xs.length=us.length->(∀(i:Nat) v,us[i]?=some v->∃x,xs[i]?=some x/\RelV x v)->Vals xs us:=by
  intro xs
  induction xs with
  | nil=>intro us hl _;cases us with
   | nil=>exact .nil
   | cons _ _=>simp at hl
  | cons x xs ih=>intro us hl hr;cases us with
   | nil=>simp at hl
   | cons u us =>
    obtain⟨y,hy,ry⟩:=hr 0 u rfl;cases hy;exact .cons ry (ih us (by simpa using hl) λi v e=>hr (i+1) v e)
 refine this _ _ (by simp [qv,h1]) λi v e=>?_
 have hi:i<n:=by
  have:=(List.getElem?_eq_some_iff.mp e).1;simpa [h1]using this
 obtain⟨t,rfl⟩:=h2 i v (by simpa using e)
 refine⟨.int (i:Nat),by simp [qv,hi],⟨t,by simp⟩⟩
theorem mX{X:Cx}(hc:X.calm=true):cy X (.type "list") (λxs H Q=>∃p j,xs=[.ref p]/\H p=some (.Ow 0 j)/\-(2^62)<=j/\j<=2^24/\∀l,H l=none->Q (.ref l) (upd H l (.lst (qv j.toNat)))):=by
 intro pins s σ H xs us Q I r h;obtain⟨p,j,rfl,hp,h1,h2,q⟩:=h;obtain⟨u,rfl,rx⟩:=vals1 r;cases rx;obtain⟨t,u,v,e⟩:=I.bP p _ hp;refine wpAny_with_toks (Nat.le_refl _) (call_list_range (n:=j.toNat) (I.ok.hd hc) (show IsRange s.heap p 0 j 1 t u v from e) (small_one ⋯ ⋯ ⋯ ⋯) (by rw[rangeSize_one];split<;>omega) ⋯ λh' tk du c' kp e' it h8=>?_)
 have hz:(qv j.toNat).length<=sizeLine:=by simp [qv,sizeLine];omega
 exact⟨.ref s.heap.objs.size,_,I.laid (t':=tk) kp (Nat.le_refl _) (show bL X.prog X.w _ h' _ (.lst (qv j.toNat))from⟨hz,du.toList,c',Eh it,by simpa using e'⟩),rfl,q _ I.fresh⟩
def Y2(t:oU):TX:=λσ Q=>t σ λxs aw=>match fu aw xs with
 | some [.int j]=>(-(2^62)<=j/\j<=2^24)/\Q (.own (ng 0 j.toNat)) aw
 | _=>False
theorem DB{F:Hp}(n:Nat):aE F (qv n) (ng 0 n):=by
 unfold qv ng
 induction (List.range n)with
 | nil=>exact .nil
 | cons a as ih=>exact .cons (by simpa using Rep.int _) ih
theorem Oo{a:Expr}{t:oU}{p p2 pos jJ:Pos}(h:zO G k S [a] t)(hm:G.mg "list"=none)(e9:G.mg "range"=none)(hg:S.sc.lookup ("list":Str)=some .globalImplicit:=by rfl)(EL:S.sc.lookup ("range":Str)=some .globalImplicit:=by rfl)
  (hs:∀env,starEach [a] env=[(false,eval a env)]:=by intro _;rfl) (sX:∀env,starEach [Expr.Call (.Name "range" p2) [a] [] jJ] env=[(false,eval (Expr.Call (.Name "range" p2) [a] [] jJ) env)]:=by intro _;rfl) (hh:S.kE=false:=by rfl):
  EX G k S (.Call (.Name "list" p) [.Call (.Name "range" p2) [a] [] jJ] [] pos) (Y2 t):=.mk λX Y ok =>
 aP (jH (mX (ok.calm hh)) (cz ok hg) (by rw[ok.mg];exact hm) (by decide +kernel) (bS (jH As (cz ok EL) (by rw[ok.mg];exact e9) (by decide +kernel) (h X Y ok) ∅ ∅ (hs _) (by rfl)) cW (sX _)) ∅ ∅ (sX _) (by rfl)) λσ H Q q=>by
  obtain⟨F,ak,Qd,R,q,K⟩:=q;refine⟨F,ak,_,R,q,λvs H1 F1 xs aw s1 R1 r1 q1=>?_⟩
  split at q1
  ·rename_i j e
   obtain⟨v,rfl,rv⟩:=(R1.fu r1 e).one;obtain rfl:=rv.int;refine⟨j,rfl,λl hl=>⟨l,j,rfl,aB,q1.1.1,q1.1.2,?_⟩⟩;have R2:RS Y F1 aw σ (upd H1 l (.Ow 0 j)):=R1.gu hl;have g:Goes Y F1 aw σ (λr=>Qd r aw) Q:=λv H' F' r s R' rr qq=>K v H' F' r aw (s1.trans s) R' rr qq;exact g.own R2 (DB _) q1.2
  ·exact q1.elim
end Vc
namespace Vs
open PySem PyProof.Rows
def R(ρ:Keyed->Nat)(xs:Array Keyed)(i:Nat):Nat:=match xs[i]? with
 | some p=>ρ p
 | none=>0
theorem fL{ρ:Keyed->Nat}{xs ys:Array Keyed}{i j:Nat}(h:xs[i]?=ys[j]?):R ρ xs i=R ρ ys j:=by unfold R;rw[h]
theorem cF{ρ:Keyed->Nat}{xs:Array Keyed}{i:Nat}{p:Keyed}(h:xs[i]?=some p):R ρ xs i=ρ p:=by unfold R;rw[h]
theorem rP{ρ:Keyed->Nat}{xs:Array Keyed}{src d:Nat}(hs:src<xs.size)(hd:d<=src)(k:Nat):
  R ρ (bubble xs src d) k=if k=src-d then R ρ xs src else if src-d<k/\k<=src then R ρ xs (k-1)else R ρ xs k:=by
 have e:=getElem?_bubble hs d hd k
 repeat' split
 all_goals (rename_i h1;first | (rename_i h2;first|rw[if_neg h2,if_pos h1]at e|rw[if_neg h2,if_neg h1]at e)|rw[if_pos h1]at e)
 all_goals exact fL e
theorem kX{ρ:Keyed->Nat}{xs:Array Keyed}{i j:Nat}(hj:j<=xs.size)(k:Nat):
  R ρ (mirror xs i j ((j-i)/2)) k=if i<=k/\k<j then R ρ xs (i+j-1-k)else R ρ xs k:=by
 have e:=getElem?_mirror_all (i:=i) hj k
 split
 ·rename_i h1;rw[if_pos h1]at e;exact fL e
 ·rename_i h1;rw[if_neg h1]at e;exact fL e
theorem ck{ρ:Keyed->Nat}{xs:Array Keyed}{i j:Nat}(hj:j<=xs.size)(heq:∀k,i<=k->k<j->R ρ xs k=R ρ xs (j-1))(k:Nat):
  R ρ (mirror xs i j ((j-i)/2)) k=R ρ xs k:=by
 rw[kX hj]
 split
 ·rw[heq _ ⋯ ⋯,heq k ⋯ ⋯]
 ·rfl
def fm(M:Model)(A:Around)(E:Value->Shared->Prop)(s:Shared)(ρ:Keyed->Nat)(kd:SortKind)(P:Keyed->Prop):Prop:=
 ∀(x y:Keyed) (st:SortSt) (Q:Option Bool->SortSt->Prop),P x->P y->kindOf st=kd->Q (some (decide (ρ x<ρ y))) st->wpS M A E s (lt' x y) Q st
structure SI(kd:SortKind)(a₀:Array Keyed)(st:SortSt):Prop where
 perm:(arrOf st).Perm a₀
 kind:kindOf st=kd
 failed:failedOf st=none
theorem SI.size{kd:SortKind}{a₀:Array Keyed}{st:SortSt}(h:SI kd a₀ st):(arrOf st).size=a₀.size:=h.perm.size_eq
theorem SI.setArr{kd:SortKind}{a₀:Array Keyed}{st:SortSt}(h:SI kd a₀ st){xs:Array Keyed}(hp:xs.Perm (arrOf st)):SI kd a₀ (setArr st xs):=⟨hp.trans h.perm,h.kind,h.failed⟩
theorem SI.at{kd:SortKind}{a₀:Array Keyed}{st:SortSt}(h:SI kd a₀ st){P:Keyed->Prop}(h0:∀p∈a₀.toList,P p){i:Nat}(hi:i<a₀.size):∃p,(arrOf st)[i]?=some p/\P p:=by
 have kh:i<(arrOf st).size:=by rw[h.size];exact hi
 exact⟨(arrOf st)[i],getElem?_pos _ i kh,h0 _ ((Array.perm_iff_toList_perm.mp h.perm).mem_iff.mp (by simp))⟩
structure Fw(kd:SortKind)(a₀:Array Keyed)(lo:Nat)(st az:SortSt):Prop where
 si:SI kd a₀ az
 same:∀k,k<lo->(arrOf az)[k]?=(arrOf st)[k]?
 pend:pendingOf az=pendingOf st
theorem Fw.refl{kd:SortKind}{a₀:Array Keyed}{lo:Nat}{st:SortSt}(h:SI kd a₀ st):Fw kd a₀ lo st st:=⟨h,λ_ _=>rfl,rfl⟩
theorem Fw.mirror{kd:SortKind}{a₀:Array Keyed}{lo i j:Nat}{st az:SortSt}(h:Fw kd a₀ lo st az)(hi:lo<=i)(hj:j<=a₀.size):Fw kd a₀ lo st (setArr az (mirror (arrOf az) i j ((j-i)/2))):=
 ⟨h.si.setArr (mirror_perm _ _ _ _),λk hk=>by
  show(PyProof.Rows.mirror (arrOf az) i j ((j-i)/2))[k]?=_;rw[getElem?_mirror_all (by rw[h.si.size];exact hj),if_neg ⋯];exact h.same k hk,h.pend⟩
theorem Fw.bubble{kd:SortKind}{a₀:Array Keyed}{lo src d:Nat}{st az:SortSt}(h:Fw kd a₀ lo st az)(hs:src<a₀.size)(hd:lo<=src-d)(hd2:d<=src):Fw kd a₀ lo st (setArr az (bubble (arrOf az) src d)):=
 ⟨h.si.setArr (bubble_perm _ _ _),λk hk=>by
  show(PyProof.Rows.bubble (arrOf az) src d)[k]?=_;rw[getElem?_bubble (by rw[h.si.size];exact hs) d hd2,if_neg ⋯,if_neg ⋯];exact h.same k hk,h.pend⟩
section
variable {M:Model}{A:Around}{E:Value->Shared->Prop}{s:Shared}{ρ:Keyed->Nat}{kd:SortKind}{P:Keyed->Prop}{a₀:Array Keyed}
theorem aV{arr:Array Keyed}{i:Nat}{p:Keyed}{st:SortSt}{Q:Keyed->SortSt->Prop}(h:arr[i]?=some p)(q:Q p st):wpS M A E s (elem' arr i) Q st:=by
 rw[elem'_eq,h];exact wpS_pure q
theorem wpS_ltAt{st:SortSt}{i j:Nat}{Q:Option Bool->SortSt->Prop}(hL:fm M A E s ρ kd P)(h0:∀p∈a₀.toList,P p)(hB:SI kd a₀ st)(hi:i<a₀.size)(hj:j<a₀.size)
  (h:Q (some (decide (R ρ (arrOf st) i<R ρ (arrOf st) j))) st):wpS M A E s (ltAt' i j) Q st:=by
 obtain⟨p,e1,p1⟩:=hB.at h0 hi;obtain⟨q,e2,p2⟩:=hB.at h0 hj;rw[cF e1,cF e2]at h;rw[ltAt'_eq];refine wpS_bind (wpS_get ?_);show wpS _ _ _ _ (do let x <- elem' (arrOf st) i;let y <- elem' (arrOf st) j;lt' x y) Q st
 exact wpS_bind (aV e1 (wpS_bind (aV e2 (hL p q st Q p1 p2 hB.kind h))))
theorem wpS_reverse{st:SortSt}{i j:Nat}{Q:Unit->SortSt->Prop}(h:Q () (setArr st (mirror (arrOf st) i j ((j-i)/2)))):wpS M A E s (reverseSlice' i j) Q st:=by
 rw[reverseSlice'_eq];exact wpS_modify h
def Seg(ρ:Keyed->Nat)(xs:Array Keyed)(lo hi:Nat):Prop:=∀i j,lo<=i->i<=j->j<hi->R ρ xs i<=R ρ xs j
def Neg(ρ:Keyed->Nat)(xs:Array Keyed)(lo hi:Nat):Prop:=∀i j,lo<=i->i<=j->j<hi->R ρ xs j<=R ρ xs i
theorem Seg.one{xs:Array Keyed}{lo:Nat}:Seg ρ xs lo (lo+1):=λi j h1 h2 h3=>by
 have:i=j:=by omega
 subst this;exact Nat.le_refl _
theorem Seg.snoc{xs:Array Keyed}{lo hi:Nat}(h:Seg ρ xs lo hi)(hl:lo<hi)(hr:R ρ xs (hi-1)<=R ρ xs hi):Seg ρ xs lo (hi+1):=λi j h1 h2 h3=>by
 by_cases hj:j<hi
 ·exact h i j h1 h2 hj
 ·have:j=hi:=by omega
  subst this
  by_cases kh:i=j
  ·subst kh;exact Nat.le_refl _
  ·exact Nat.le_trans (h i (j-1) h1 ⋯ ⋯) hr
theorem Neg.snoc{xs:Array Keyed}{lo hi:Nat}(h:Neg ρ xs lo hi)(hl:lo<hi)(hr:R ρ xs hi<=R ρ xs (hi-1)):Neg ρ xs lo (hi+1):=λi j h1 h2 h3=>by
 by_cases hj:j<hi
 ·exact h i j h1 h2 hj
 ·have:j=hi:=by omega
  subst this
  by_cases kh:i=j
  ·subst kh;exact Nat.le_refl _
  ·exact Nat.le_trans hr (h i (j-1) h1 ⋯ ⋯)
def An(lo a bM:Nat):StateT SortSt Sem (Option (Option Nat)×Nat):=
 forIn [a:bM] ((none,a):Option (Option Nat)×Nat) λ_ dE=>do
  let JK <- ltAt' (lo+dE.snd) (lo+dE.snd-1)
  match JK with
  | some qJ=>if qJ=true then pure (ForInStep.done (none,dE.snd))else pure (ForInStep.yield (none,dE.snd+1))
  | _=>pure (ForInStep.done (some none,dE.snd))
theorem uO{st:SortSt}{lo a bM:Nat}{Q:Option (Option Nat)×Nat->SortSt->Prop}(hL:fm M A E s ρ kd P)(h0:∀p∈a₀.toList,P p)(hn:lo+bM<=a₀.size)(ha:1<=a)(han:a<=bM)(hB:SI kd a₀ st)
  (hs:Seg ρ (arrOf st) lo (lo+a))
  (h:∀n,a<=n->n<=bM->Seg ρ (arrOf st) lo (lo+n)->(n=bM\/R ρ (arrOf st) (lo+n)<R ρ (arrOf st) (lo+n-1))->Q (none,n) st):wpS M A E s (An lo a bM) Q st:=by
 unfold An;refine wpS_forRange (I:=λx c az=>az=st/\c=(none,x)/\Seg ρ (arrOf st) lo (lo+x)) ?step ?fin ⟨rfl,rfl,hs⟩
 case fin =>
  rintro c az ⟨rfl,rfl,hs'⟩;rw[show max a bM=bM by omega]at hs' ⊢
  exact h bM han (Nat.le_refl _) hs' (.inl rfl)
 case step =>
  rintro x c az Xx hxn ⟨rfl,rfl,hs'⟩;dsimp only;refine wpS_bind (wpS_ltAt hL h0 hB ⋯ ⋯ ?_)
  by_cases hl:R ρ (arrOf az) (lo+x)<R ρ (arrOf az) (lo+x-1)
  ·simp only[hl,decide_true,if_true]
   exact wpS_pure (h x Xx ⋯ hs' (.inr hl))
  ·simp only[hl,decide_false,Bool.false_eq_true,if_false]
   refine wpS_pure ⟨rfl,rfl,?_⟩;exact hs'.snoc ⋯ ⋯
def uI(lo n bM:Nat):StateT SortSt Sem (Option Nat):=do
 reverseSlice' lo (lo+n)
 let dE <- An lo n bM
 match dE.fst with
 | some r=>pure r
 | none=>pure (some dE.snd)
theorem oN{st bX:SortSt}{lo n bM:Nat}{Q:Option Nat->SortSt->Prop}(hL:fm M A E s ρ kd P)(h0:∀p∈a₀.toList,P p)(hn:lo+bM<=a₀.size)(h1:1<=n)(yK:n<=bM)(hB:Fw kd a₀ lo bX st)
  (hs:Neg ρ (arrOf st) lo (lo+n)) (h:∀m az,Fw kd a₀ lo bX az->1<=m->m<=bM->Seg ρ (arrOf az) lo (lo+m)->Q (some m) az):wpS M A E s (uI lo n bM) Q st:=by
 unfold uI;have hsz:lo+n<=(arrOf st).size:=by rw[hB.si.size];omega
 refine wpS_bind (wpS_reverse ?_);have gB:=hB.mirror (i:=lo) (j:=lo+n) (Nat.le_refl _) ⋯
 refine wpS_bind (uO hL h0 hn h1 yK gB.si ?_ λm XS e9 X9 _=>wpS_pure (h m _ gB ⋯ e9 X9))
 intro i j hi jy hj;show R ρ (mirror (arrOf st) lo (lo+n) ((lo+n-lo)/2)) i<=R ρ (mirror (arrOf st) lo (lo+n) ((lo+n-lo)/2)) j;rw[kX hsz,kX hsz,if_pos ⋯,if_pos ⋯]
 exact hs _ _ ⋯ ⋯ ⋯
def wO(lo n bM:Nat):StateT SortSt Sem (Option (Option Nat)×Nat×Nat):=
 forIn [n:bM] ((none,n,0):Option (Option Nat)×Nat×Nat) λ_ dE=>do
  let JK <- ltAt' (lo+dE.snd.fst) (lo+dE.snd.fst-1)
  match JK with
  | some qJ =>
   if qJ=true then
    if dE.snd.snd>0 then do
     reverseSlice' (lo+dE.snd.fst-(dE.snd.snd+1)) (lo+dE.snd.fst)
     pure (ForInStep.yield (none,dE.snd.fst+1,0))
    else pure (ForInStep.yield (none,dE.snd.fst+1,0))
   else do
    let JK <- ltAt' (lo+dE.snd.fst-1) (lo+dE.snd.fst)
    match JK with
    | some Mw =>
     if Mw=true then pure (ForInStep.done (none,dE.snd.fst,dE.snd.snd))
     else pure (ForInStep.yield (none,dE.snd.fst+1,dE.snd.snd+1))
    | _=>pure (ForInStep.done (some none,dE.snd.fst,dE.snd.snd))
  | _=>pure (ForInStep.done (some none,dE.snd.fst,dE.snd.snd))
theorem zM{st bX:SortSt}{lo n bM:Nat}{Q:Option (Option Nat)×Nat×Nat->SortSt->Prop}(hL:fm M A E s ρ kd P)(h0:∀p∈a₀.toList,P p)(hn:lo+bM<=a₀.size)(h1:1<=n)(yK:n<=bM)(hB:Fw kd a₀ lo bX st)
  (hs:Neg ρ (arrOf st) lo (lo+n))
  (h:∀m vN az,Fw kd a₀ lo bX az->n<=m->m<=bM->Neg ρ (arrOf az) lo (lo+m)->vN+1<=m->(∀i,lo+m-(vN+1)<=i->i<lo+m->R ρ (arrOf az) i=R ρ (arrOf az) (lo+m-1))->Q (none,m,vN) az):
  wpS M A E s (wO lo n bM) Q st:=by
 unfold wO;refine wpS_forRange (I:=λx c az=>∃vN,c=(none,x,vN)/\Fw kd a₀ lo bX az/\Neg ρ (arrOf az) lo (lo+x)/\vN+1<=x /\
   (∀i,lo+x-(vN+1)<=i->i<lo+x->R ρ (arrOf az) i=R ρ (arrOf az) (lo+x-1))) ?step ?fin ⟨0,rfl,hB,hs,by omega,λi h1 h2=>by congr 1;omega⟩
 case fin =>
  rintro c az ⟨vN,rfl,gB,hs',hq,he⟩;rw[show max n bM=bM by omega]at hs' hq he ⊢
  exact h bM vN az gB yK (Nat.le_refl _) hs' hq he
 case step =>
  rintro x c az Xx hxn ⟨vN,rfl,gB,hs',hq,he⟩;dsimp only;have hsz:lo+x<=(arrOf az).size:=by rw[gB.si.size];omega
  refine wpS_bind (wpS_ltAt hL h0 gB.si ⋯ ⋯ ?_)
  by_cases hl:R ρ (arrOf az) (lo+x)<R ρ (arrOf az) (lo+x-1)
  ·simp only[hl,decide_true,if_true]
   have Jk:∀xs:Array Keyed,(∀k,R ρ xs k=R ρ (arrOf az) k)->Neg ρ xs lo (lo+(x+1)):=λxs hk=>by
    have:=hs'.snoc ⋯ (Nat.le_of_lt hl)
    intro i j h1 h2 h3;rw[hk,hk];exact this i j h1 h2 h3
   by_cases Ce:vN>0
   ·rw[if_pos Ce]
    refine wpS_bind (wpS_reverse (wpS_pure ⟨0,rfl,gB.mirror ⋯ ⋯,Jk _ (ck hsz he),by omega,λi h1 h2=>by congr 1;omega⟩))
   ·rw[if_neg Ce]
    exact wpS_pure ⟨0,rfl,gB,Jk _ (λ_=>rfl),by omega,λi h1 h2=>by congr 1;omega⟩
  ·simp only[hl,decide_false,Bool.false_eq_true,if_false]
   refine wpS_bind (wpS_ltAt hL h0 gB.si ⋯ ⋯ ?_)
   by_cases hg:R ρ (arrOf az) (lo+x-1)<R ρ (arrOf az) (lo+x)
   ·simp only[hg,decide_true,if_true]
    exact wpS_pure (h x vN az gB Xx ⋯ hs' hq he)
   ·simp only[hg,decide_false,Bool.false_eq_true,if_false]
    have heq:R ρ (arrOf az) (lo+x)=R ρ (arrOf az) (lo+x-1):=by omega
    refine wpS_pure ⟨vN+1,rfl,gB,hs'.snoc ⋯ ⋯,by omega,λi h1 h2=>?_⟩
    rw[show lo+(x+1)-1=lo+x by omega]
    by_cases hix:i=lo+x
    ·rw[hix]
    ·rw[heq];exact he i ⋯ ⋯
def sd(lo n bM:Nat):StateT SortSt Sem (Option Nat):=do
 liftM (rule "list.sort.descending-run")
 let dE <- wO lo (n+1) bM
 match dE.fst with
 | some r=>pure r
 | none =>
  if dE.snd.snd>0 then do
   reverseSlice' (lo+dE.snd.fst-(dE.snd.snd+1)) (lo+dE.snd.fst)
   uI lo dE.snd.fst bM
  else uI lo dE.snd.fst bM
theorem oM{st bX:SortSt}{lo n bM:Nat}{Q:Option Nat->SortSt->Prop}(hL:fm M A E s ρ kd P)(h0:∀p∈a₀.toList,P p)(hn:lo+bM<=a₀.size)(yK:n+1<=bM)(hB:Fw kd a₀ lo bX st)
  (hs:Neg ρ (arrOf st) lo (lo+(n+1))) (h:∀m az,Fw kd a₀ lo bX az->1<=m->m<=bM->Seg ρ (arrOf az) lo (lo+m)->Q (some m) az):wpS M A E s (sd lo n bM) Q st:=by
 unfold sd;refine wpS_bind (wpS_lift (wpAny_rule ⟨rfl,?_⟩));refine wpS_bind (zM hL h0 hn ⋯ yK hB hs λm vN az gB XS e9 hs' hq he=>?_)
 dsimp only;have hsz:lo+m<=(arrOf az).size:=by rw[gB.si.size];omega
 by_cases Ce:vN>0
 ·rw[if_pos Ce]
  refine wpS_bind (wpS_reverse (oN hL h0 hn ⋯ e9 (gB.mirror ⋯ ⋯) ?_ h))
  intro i j h1 h2 h3;show R ρ (mirror (arrOf az) _ _ _) j<=R ρ (mirror (arrOf az) _ _ _) i;rw[ck hsz he,ck hsz he];exact hs' i j h1 h2 h3
 ·rw[if_neg Ce]
  exact oN hL h0 hn ⋯ e9 gB hs' h
local macro_rules|`(tactic| walk_at "s_tail")=>`(tactic| (funext s3;obtain⟨r3,n3⟩:=s3;cases r3<;>rfl))
local macro_rules|`(tactic| walk_at "s_t3")=>`(tactic| (congr 1;funext _w;congr 1;walk_at "s_tail"))
local macro_rules|`(tactic| walk_at "s_desc")=>`(tactic| (congr 1;funext _u;congr 1;congr 1;funext s2;obtain⟨r2,n2,q2⟩:=s2;cases r2 with
  | some r2=>rfl
  | none=>(dsimp only;split;(congr 1;funext _v;walk_at "s_t3");walk_at "s_t3")))
theorem pq(lo bM:Nat):countRun' lo bM=(do
  let dE <- An lo 1 bM
  match dE.fst with
  | some r=>pure r
  | none =>
   if(dE.snd==bM)=true then pure (some dE.snd)
   else if dE.snd>1 then do
    let JK <- ltAt' lo (lo+dE.snd-1)
    match JK with
    | some YQ=>if YQ=true then pure (some dE.snd)else do
      reverseSlice' lo (lo+dE.snd)
      sd lo dE.snd bM
    | _=>pure none
   else sd lo dE.snd bM):=by
 rw[countRun'_eq];dsimp only;unfold sd uI wO An;congr 1;funext dE;obtain⟨r,n⟩:=dE;cases r with
 | some r=>rfl
 | none =>
  dsimp only
  split
  ·rfl
  ·split
   ·congr 1
    funext x;cases x with
    | none=>rfl
    | some b =>
     dsimp only
     split
     ·rfl
     ·congr 1
      funext _z;walk_at "s_desc"
   ·walk_at "s_desc"
end
end Vs
namespace Vs
open PySem PyProof.Rows
section
variable {M:Model}{A:Around}{E:Value->Shared->Prop}{s:Shared}{ρ:Keyed->Nat}{kd:SortKind}{P:Keyed->Prop}{a₀:Array Keyed}
theorem wpS_countRun{st:SortSt}{lo bM:Nat}{Q:Option Nat->SortSt->Prop}(hL:fm M A E s ρ kd P)(h0:∀p∈a₀.toList,P p)(hn:lo+bM<=a₀.size)(h1:1<=bM)(hB:SI kd a₀ st)
  (h:∀m az,Fw kd a₀ lo st az->1<=m->m<=bM->Seg ρ (arrOf az) lo (lo+m)->Q (some m) az):wpS M A E s (countRun' lo bM) Q st:=by
 rw[pq];refine wpS_bind (uO hL h0 hn (Nat.le_refl 1) h1 hB Seg.one λn IG ER II hor=>?_);dsimp only
 by_cases yK:n=bM
 ·rw[if_pos (by simpa using yK)]
  exact wpS_pure (h n st (.refl hB) IG ER II)
 ·rw[if_neg (by simpa using yK)]
  have fy:=hor.resolve_left yK
  by_cases ZK:n>1
  ·rw[if_pos ZK]
   refine wpS_bind (wpS_ltAt hL h0 hB ⋯ ⋯ ?_)
   by_cases hr:R ρ (arrOf st) lo<R ρ (arrOf st) (lo+n-1)
   ·simp only[hr,decide_true,if_true]
    exact wpS_pure (h n st (.refl hB) IG ER II)
   ·simp only[hr,decide_false,Bool.false_eq_true,if_false]
    have hsz:lo+n<=(arrOf st).size:=by rw[hB.size];omega
    have dI:∀k,lo<=k->k<lo+n->R ρ (arrOf st) k=R ρ (arrOf st) (lo+n-1):=λk pN Wb=>by
     have a1:=II lo k (Nat.le_refl _) pN Wb;have a2:=II k (lo+n-1) pN ⋯ ⋯
     omega
    refine wpS_bind (wpS_reverse (oM hL h0 hn ⋯ ((Fw.refl hB).mirror (Nat.le_refl _) ⋯) ?_ h))
    intro i j hi jy hj;show R ρ (mirror (arrOf st) _ _ _) j<=R ρ (mirror (arrOf st) _ _ _) i;rw[ck hsz dI,ck hsz dI]
    by_cases ZQ:j<lo+n
    ·rw[dI i hi ⋯,dI j ⋯ ZQ];exact Nat.le_refl _
    ·have yJ:j=lo+n:=by omega
     subst yJ
     by_cases kh:i=lo+n
     ·subst kh;exact Nat.le_refl _
     ·rw[dI i hi ⋯];exact Nat.le_of_lt fy
  ·rw[if_neg ZK]
   have LL:n=1:=by omega
   subst LL;refine oM hL h0 hn ⋯ (.refl hB) ?_ h
   intro i j hi jy hj
   by_cases kh:i=j
   ·subst kh;exact Nat.le_refl _
   ·have hi0:i=lo:=by omega
    have hj1:j=lo+1:=by omega
    subst hi0;subst hj1;exact Nat.le_of_lt fy
theorem wpS_binarySort{st:SortSt}{lo n ok:Nat}{Q:Bool->SortSt->Prop}(hL:fm M A E s ρ kd P)(h0:∀p∈a₀.toList,P p)(hn:lo+n<=a₀.size)(bP:ok<=n)(hB:SI kd a₀ st)(hs:Seg ρ (arrOf st) lo (lo+ok))
  (h:∀az,Fw kd a₀ lo st az->Seg ρ (arrOf az) lo (lo+n)->Q true az):wpS M A E s (binarySort' lo n ok) Q st:=by
 rw[binarySort'_eq];refine wpS_bind (wpS_mono (wpS_forRange (I:=λk c az=>c=(none,())/\Fw kd a₀ lo st az/\Seg ρ (arrOf az) lo (lo+min k n))
  (Q:=λc az=>c=(none,())/\Fw kd a₀ lo st az/\Seg ρ (arrOf az) lo (lo+n)) ?step ?fin ?init) ?post)
 case post =>
  rintro c az ⟨rfl,gB,hs'⟩;exact wpS_pure (h az gB hs')
 case init =>
  refine⟨rfl,.refl hB,λi j hi jy hj=>?_⟩
  by_cases h1:ok=0
  ·have:i=j:=by omega
   subst this;exact Nat.le_refl _
  ·exact hs i j hi jy ⋯
 case fin =>
  rintro c az ⟨hc,gB,hs'⟩;refine⟨hc,gB,?_⟩
  rwa [show min (max (max ok 1) n) n=n by omega]at hs'
 case step =>
  rintro k c az hak ZR ⟨rfl,gB,hs'⟩;rw[show min k n=k by omega]at hs'
  have hk:lo+k<a₀.size:=by omega
  refine wpS_bind (wpS_mono (wpS_forRange (I:=λx c cP=>cP=az/\∃l r,c=(none,l,r)/\l<=r/\r<=k/\r-l<=k-x /\
    (∀i,i<l->R ρ (arrOf az) (lo+i)<=R ρ (arrOf az) (lo+k))/\(∀i,r<=i->i<k->R ρ (arrOf az) (lo+k)<R ρ (arrOf az) (lo+i)))
   (Q:=λc cP=>cP=az/\∃l r,c=(none,l,r)/\l<=k /\
    (∀i,i<l->R ρ (arrOf az) (lo+i)<=R ρ (arrOf az) (lo+k))/\(∀i,l<=i->i<k->R ρ (arrOf az) (lo+k)<R ρ (arrOf az) (lo+i))) ?istep ?ifin ?iinit) ?ipost)
  case iinit=>exact⟨rfl,0,k,rfl,by omega,by omega,by omega,λi hi=>by omega,λi h1 h2=>by omega⟩
  case ifin =>
   rintro c cP ⟨rfl,l,r,rfl,hlr,Wh,hm,u9,Qn⟩;have:l=r:=by omega
   subst this;exact⟨rfl,l,l,rfl,Wh,u9,Qn⟩
  case istep =>
   rintro x c cP _ hxk ⟨rfl,l,r,rfl,hlr,Wh,hm,u9,Qn⟩;dsimp only
   by_cases rJ:l>=r
   ·rw[if_pos rJ]
    have:l=r:=by omega
    subst this;exact wpS_pure ⟨rfl,l,l,rfl,Wh,u9,Qn⟩
   ·rw[if_neg rJ]
    refine wpS_bind (wpS_ltAt hL h0 gB.si hk ⋯ ?_)
    by_cases xc:R ρ (arrOf cP) (lo+k)<R ρ (arrOf cP) (lo+(l+r)/2)
    ·simp only[xc,decide_true,if_true]
     refine wpS_pure ⟨rfl,l,(l+r)/2,rfl,by omega,by omega,by omega,u9,λi h1 h2=>?_⟩
     exact Nat.lt_of_lt_of_le xc (hs' _ _ ⋯ ⋯ ⋯)
    ·simp only[xc,decide_false,Bool.false_eq_true,if_false]
     refine wpS_pure ⟨rfl,(l+r)/2+1,r,rfl,by omega,by omega,by omega,λi h1=>?_,Qn⟩
     exact Nat.le_trans (hs' (lo+i) (lo+(l+r)/2) ⋯ ⋯ ⋯) (Nat.not_lt.mp xc)
  case ipost =>
   rintro c cP ⟨rfl,l,r,rfl,hlk,u9,Qn⟩;show wpS _ _ _ _ (do moveDown' (lo+k) (lo+l);pure (ForInStep.yield (none,()))) _ _
   rw[moveDown'_eq];refine wpS_bind (wpS_modify (wpS_pure ⟨rfl,gB.bubble hk ⋯ ⋯,?_⟩))
   rw[show min (k+1) n=k+1 by omega]
   have ZS:lo+k<(arrOf cP).size:=by rw[gB.si.size];exact hk
   intro i j hi jy hj;show R ρ (bubble (arrOf cP) (lo+k) (lo+k-(lo+l))) i<=R ρ (bubble (arrOf cP) (lo+k) (lo+k-(lo+l))) j;rw[rP ZS ⋯,rP ZS ⋯,show lo+k-(lo+k-(lo+l))=lo+l by omega]
   have XQ:∀i,lo<=i->i<lo+l->R ρ (arrOf cP) i<=R ρ (arrOf cP) (lo+k):=λi h1 h2=>by
    have:=u9 (i-lo) ⋯;rwa [show lo+(i-lo)=i by omega]at this
   have XI:∀i,lo+l<=i->i<lo+k->R ρ (arrOf cP) (lo+k)<R ρ (arrOf cP) i:=λi h1 h2=>by
    have:=Qn (i-lo) ⋯ ⋯;rwa [show lo+(i-lo)=i by omega]at this
   repeat' split
   all_goals first
    | (exfalso;omega)
    | exact Nat.le_refl _
    | exact XQ _ ⋯ ⋯
    | exact Nat.le_of_lt (XI _ ⋯ ⋯)
    | exact hs' _ _ ⋯ ⋯ ⋯
def b9:Bool->Keyed->Array Keyed->Nat->Nat->Nat->StateT SortSt Sem (Option Nat):=sortPriv% PySem.Builtin.gallop
def eJ(left:Bool)(key:Keyed)(arr:Array Keyed)(base i:Nat):StateT SortSt Sem (Option Bool):=do
 let x <- elem' arr (base+i)
 if left then lt' x key else return(<- lt' key x).map (!·)
theorem vF(left:Bool)(key:Keyed)(arr:Array Keyed)(base n hint:Nat):b9 left key arr base n hint=(do
 let mut kK:=0
 let mut zS:=1
 let mut lo:=0
 let mut hi:=0
 let some right <- eJ left key arr base hint|return none
 if right then
  let lQ:=n-hint
  for _ in [0:n]do
   if zS>=lQ then break
   let some more <- eJ left key arr base (hint+zS)|return none
   if !more then break
   kK:=zS
   zS:=2*zS+1
  lo:=hint+kK+1
  hi:=hint+min zS lQ
 else
  let lQ:=hint+1
  for _ in [0:n]do
   if zS>=lQ then break
   let some found <- eJ left key arr base (hint-zS)|return none
   if found then break
   kK:=zS
   zS:=2*zS+1
  lo:=hint+1-min zS lQ
  hi:=hint-kK
 for _ in [0:n]do
  if lo>=hi then break
  let m:=lo+(hi-lo)/2
  let some more <- eJ left key arr base m|return none
  if more then lo:=m+1 else hi:=m
 return some hi):=rfl
end
end Vs
namespace Vs
open PySem PyProof.Rows
section
variable {M:Model}{A:Around}{E:Value->Shared->Prop}{s:Shared}{ρ:Keyed->Nat}{kd:SortKind}{P:Keyed->Prop}{a₀:Array Keyed}
def SF(left:Bool)(key:Keyed)(arr:Array Keyed)(base n l h:Nat):StateT SortSt Sem (Option Nat):=do
 let mut lo:=l
 let mut hi:=h
 for _ in [0:n]do
  if lo>=hi then break
  let m:=lo+(hi-lo)/2
  let some more <- eJ left key arr base m|return none
  if more then lo:=m+1 else hi:=m
 return some hi
def Tells(M:Model)(A:Around)(E:Value->Shared->Prop)(s:Shared)(left:Bool)(key:Keyed)(arr:Array Keyed)(base n:Nat)(st:SortSt)(p:Nat->Bool):Prop:=
 ∀i,i<n->∀Q:Option Bool->SortSt->Prop,Q (some (p i)) st->wpS M A E s (eJ left key arr base i) Q st
theorem uP{left:Bool}{key:Keyed}{arr:Array Keyed}{base n l h:Nat}{st:SortSt}{p:Nat->Bool}{Q:Option Nat->SortSt->Prop}(hT:Tells M A E s left key arr base n st p)(hp:∀i j,i<=j->j<n->p j=true->p i=true)
  (hlh:l<=h) (hh:h<=n) (h1:∀i,i<l->p i=true) (h2:∀i,h<=i->i<n->p i=false)
  (q:∀k,k<=n->(∀i,i<k->p i=true)->(∀i,k<=i->i<n->p i=false)->Q (some k) st):wpS M A E s (SF left key arr base n l h) Q st:=by
 unfold SF;dsimp only;refine wpS_bind (wpS_mono (wpS_forRange (I:=λx c az=>az=st/\∃l h,c=(none,l,h)/\l<=h/\h<=n/\h-l<=n-x/\(∀i,i<l->p i=true)/\(∀i,h<=i->i<n->p i=false))
  (Q:=λc az=>az=st/\∃k,c=(none,k,k)/\k<=n/\(∀i,i<k->p i=true)/\(∀i,k<=i->i<n->p i=false)) ?step ?fin ⟨rfl,l,h,rfl,hlh,hh,by omega,h1,h2⟩) ?post)
 case post =>
  rintro c az ⟨rfl,k,rfl,hk,q1,q2⟩;exact wpS_pure (q k hk q1 q2)
 case fin =>
  rintro c az ⟨rfl,l,h,rfl,a1,a2,a3,a4,a5⟩;have:l=h:=by omega
  subst this;exact⟨rfl,l,rfl,a2,a4,a5⟩
 case step =>
  rintro x c az _ hx ⟨rfl,l,h,rfl,a1,a2,a3,a4,a5⟩;dsimp only
  by_cases rJ:l>=h
  ·rw[if_pos rJ]
   have:l=h:=by omega
   subst this;exact wpS_pure ⟨rfl,l,rfl,a2,a4,a5⟩
  ·rw[if_neg rJ]
   refine wpS_bind (hT _ ⋯ _ ?_)
   cases hm:p (l+(h-l)/2)with
   | true =>
    simp only[if_true];exact wpS_pure ⟨rfl,_,_,rfl,by omega,a2,by omega,λi hi=>hp i _ ⋯ ⋯ hm,a5⟩
   | false =>
    simp only[Bool.false_eq_true,if_false];refine wpS_pure ⟨rfl,_,_,rfl,by omega,by omega,by omega,a4,λi hi hn=>?_⟩
    cases e:p i with
    | false=>rfl
    | true=>rw[hp _ i hi hn e]at hm;cases hm
theorem dc{left:Bool}{key:Keyed}{arr:Array Keyed}{base n hint:Nat}{st:SortSt}{p:Nat->Bool}{Q:Option Nat->SortSt->Prop}(hT:Tells M A E s left key arr base n st p)(hp:∀i j,i<=j->j<n->p j=true->p i=true)(hn:hint<n)
  (q:∀k,k<=n->(∀i,i<k->p i=true)->(∀i,k<=i->i<n->p i=false)->Q (some k) st):wpS M A E s (b9 left key arr base n hint) Q st:=by
 rw[vF];dsimp only;refine wpS_bind (hT hint hn _ ?_);have pf:∀i j,i<=j->j<n->p i=false->p j=false:=λi j h1 h2 h3=>by
  cases e:p j with
  | false=>rfl
  | true=>rw[hp i j h1 h2 e]at h3;cases h3
 cases h0:p hint with
 | true =>
  dsimp only;rw[if_pos rfl];refine wpS_bind (wpS_mono (wpS_forRange (I:=λx c az=>az=st/\∃l o,c=(none,l,o)/\l<o/\x+1<=o/\hint+l<n/\p (hint+l)=true)
   (Q:=λc az=>az=st/\∃l o,c=(none,l,o)/\l<o/\hint+l<n/\p (hint+l)=true/\(n-hint<=o\/(hint+o<n/\p (hint+o)=false))) ?step ?fin ⟨rfl,0,1,rfl,by omega,by omega,hn,h0⟩) ?post)
  case fin =>
   rintro c az ⟨rfl,l,o,rfl,a1,a2,a3,a4⟩;exact⟨rfl,l,o,rfl,a1,a3,a4,.inl ⋯⟩
  case step =>
   rintro x c az _ hx ⟨rfl,l,o,rfl,a1,a2,a3,a4⟩;dsimp only
   by_cases rJ:o>=n-hint
   ·rw[if_pos rJ]
    exact wpS_pure ⟨rfl,l,o,rfl,a1,a3,a4,.inl rJ⟩
   ·rw[if_neg rJ]
    refine wpS_bind (hT _ ⋯ _ ?_)
    cases hm:p (hint+o)with
    | true =>
     simp only[Bool.not_true,Bool.false_eq_true,if_false];exact wpS_pure ⟨rfl,_,_,rfl,by omega,by omega,by omega,hm⟩
    | false =>
     simp only[Bool.not_false,if_true];exact wpS_pure ⟨rfl,_,_,rfl,a1,a3,a4,.inr ⟨by omega,hm⟩⟩
  case post =>
   rintro c az ⟨rfl,l,o,rfl,a1,a3,a4,a5⟩;refine uP (l:=hint+l+1) (h:=hint+min o (n-hint)) hT hp ⋯ ⋯ (λi hi=>hp i _ ⋯ a3 a4) (λi hi FH=>?_) q
   rcases a5 with a5|⟨a5,a6⟩
   ·omega
   ·exact pf (hint+o) i ⋯ FH a6
 | false =>
  dsimp only;rw[if_neg ∅]
  refine wpS_bind (wpS_mono (wpS_forRange (I:=λx c az=>az=st/\∃l o,c=(none,l,o)/\l<o/\x+1<=o/\l<=hint/\p (hint-l)=false)
   (Q:=λc az=>az=st/\∃l o,c=(none,l,o)/\l<o/\l<=hint/\p (hint-l)=false/\(hint+1<=o\/(o<=hint/\p (hint-o)=true))) ?step2 ?fin2 ⟨rfl,0,1,rfl,by omega,by omega,by omega,h0⟩) ?post2)
  case fin2 =>
   rintro c az ⟨rfl,l,o,rfl,a1,a2,a3,a4⟩;exact⟨rfl,l,o,rfl,a1,a3,a4,.inl ⋯⟩
  case step2 =>
   rintro x c az _ hx ⟨rfl,l,o,rfl,a1,a2,a3,a4⟩;dsimp only
   by_cases rJ:o>=hint+1
   ·rw[if_pos rJ]
    exact wpS_pure ⟨rfl,l,o,rfl,a1,a3,a4,.inl rJ⟩
   ·rw[if_neg rJ]
    refine wpS_bind (hT _ ⋯ _ ?_)
    cases hm:p (hint-o)with
    | true =>
     simp only[if_true];exact wpS_pure ⟨rfl,_,_,rfl,a1,a3,a4,.inr ⟨by omega,hm⟩⟩
    | false =>
     simp only[Bool.false_eq_true,if_false];exact wpS_pure ⟨rfl,_,_,rfl,by omega,by omega,by omega,hm⟩
  case post2 =>
   rintro c az ⟨rfl,l,o,rfl,a1,a3,a4,a5⟩;refine uP (l:=hint+1-min o (hint+1)) (h:=hint-l) hT hp ⋯ ⋯ (λi hi=>?_) (λi hi FH=>pf (hint-l) i hi FH a4) q
   rcases a5 with a5|⟨a5,a6⟩
   ·omega
   ·exact hp i (hint-o) ⋯ ⋯ a6
def nE(ρ:Keyed->Nat)(left:Bool)(key:Keyed)(arr:Array Keyed)(base i:Nat):Bool:=if left=true then decide (R ρ arr (base+i)<ρ key)else !decide (ρ key<R ρ arr (base+i))
theorem tells{left:Bool}{key:Keyed}{arr:Array Keyed}{base n:Nat}{st:SortSt}(hL:fm M A E s ρ kd P)(hk:kindOf st=kd)(pk:P key)(pa:∀i,i<n->∃x,arr[base+i]?=some x/\P x):Tells M A E s left key arr base n st (nE ρ left key arr base):=λi hi Q q=>by
 obtain⟨x,e,px⟩:=pa i hi;unfold eJ;refine wpS_bind (aV e ?_);unfold nE at q;rw[cF e]at q;cases left with
 | true =>
  simp only[if_true]at q ⊢;exact hL x key st Q px pk hk q
 | false =>
  simp only[Bool.false_eq_true,if_false]at q ⊢;exact wpS_bind (hL key x st _ pk px hk (wpS_pure q))
end
end Vs
namespace Vs
open PySem PyProof.Rows
def lU:Array Keyed->Array Keyed->StateT SortSt Sem (Array Keyed):=sortPriv% PySem.Builtin.mergeLo
def lR:Array Keyed->Array Keyed->StateT SortSt Sem (Array Keyed):=sortPriv% PySem.Builtin.mergeHi
def dW:Nat->StateT SortSt Sem Unit:=sortPriv% PySem.Builtin.setMinGallop
theorem dP(g:Nat):dW g=modify (λst=>SortSt.mk' (kindOf st) (arrOf st) (pendingOf st) g (failedOf st)):=rfl
def So(ρ:Keyed->Nat)(l:List Keyed):Prop:=l.Pairwise λx y=>ρ x<=ρ y
structure J(ρ:Keyed->Nat)(L O A B:List Keyed):Prop where
 o:So ρ O
 a:So ρ A
 b:So ρ B
 oa:∀x∈O,∀y∈A,ρ x<=ρ y
 ob:∀x∈O,∀y∈B,ρ x<=ρ y
 p:(O++(A++B)).Perm L
def Good(ρ:Keyed->Nat)(L r:List Keyed):Prop:=So ρ r/\r.Perm L
theorem So.app{ρ:Keyed->Nat}{A B:List Keyed}(h1:So ρ A)(h2:So ρ B)(h:∀x∈A,∀y∈B,ρ x<=ρ y):So ρ (A++B):=List.pairwise_append.mpr ⟨h1,h2,h⟩
section
variable {ρ:Keyed->Nat}{L O A B X:List Keyed}{x z:Keyed}
theorem J.iy(j:J ρ L O (X++A) B)(h:∀x∈X,∀y∈B,ρ x<=ρ y):J ρ L (O++X) A B:=by
 obtain⟨a1,a2,a3⟩:=List.pairwise_append.mp j.a;refine⟨j.o.app a1 λx hx y hy=>j.oa x hx y (List.mem_append_left _ hy),a2,j.b,λx hx y hy=>?_,λx hx y hy=>?_,?_⟩
 ·rcases List.mem_append.mp hx with hx|hx
  ·exact j.oa x hx y (List.mem_append_right _ hy)
  ·exact a3 x hx y hy
 ·rcases List.mem_append.mp hx with hx|hx
  ·exact j.ob x hx y hy
  ·exact h x hx y hy
 ·have:=j.p
  simpa [List.append_assoc]using this
theorem J.iA(j:J ρ L O A (X++B))(h:∀x∈X,∀y∈A,ρ x<=ρ y):J ρ L (O++X) A B:=by
 obtain⟨a1,a2,a3⟩:=List.pairwise_append.mp j.b;refine⟨j.o.app a1 λx hx y hy=>j.ob x hx y (List.mem_append_left _ hy),j.a,a2,λx hx y hy=>?_,λx hx y hy=>?_,?_⟩
 ·rcases List.mem_append.mp hx with hx|hx
  ·exact j.oa x hx y hy
  ·exact h x hx y hy
 ·rcases List.mem_append.mp hx with hx|hx
  ·exact j.ob x hx y (List.mem_append_right _ hy)
  ·exact a3 x hx y hy
 ·refine List.Perm.trans ?_ j.p
  rw[List.append_assoc];refine List.Perm.append_left O ?_;rw[<- List.append_assoc,<- List.append_assoc];exact List.Perm.append_right B List.perm_append_comm
theorem J.gj(j:J ρ L O A []):Good ρ L (O++A):=⟨j.o.app j.a j.oa,by simpa using j.p⟩
theorem J.gh(j:J ρ L O [] B):Good ρ L (O++B):=⟨j.o.app j.b j.ob,by simpa using j.p⟩
theorem J.last(j:J ρ L O [z] B)(h:∀y∈B,ρ y<=ρ z):Good ρ L (O++B++[z]):=by
 refine⟨(j.o.app j.b j.ob).app (List.pairwise_singleton ..) λx hx y hy=>?_,?_⟩
 ·rw[List.mem_singleton.mp hy]
  rcases List.mem_append.mp hx with hx|hx
  ·exact j.oa x hx z (List.mem_singleton.mpr rfl)
  ·exact h x hx
 ·refine List.Perm.trans ?_ j.p
  rw[List.append_assoc];exact List.Perm.append_left O List.perm_append_comm
end
theorem jc{a:Array Keyed}{i:Nat}{x:Keyed}(h:a[i]?=some x):a.toList.drop i=x::a.toList.drop (i+1):=by
 have hi:i<a.toList.length:=by
  have:=(Array.getElem?_eq_some_iff.mp h).1;simpa using this
 rw[List.drop_eq_getElem_cons hi];have:a.toList[i]=x:=by
  have:=(Array.getElem?_eq_some_iff.mp h).2;simpa using this
 rw[this]
theorem jW(a:Array Keyed)(i:Nat):(a.extract i a.size).toList=a.toList.drop i:=by
 rw[Array.toList_extract];show(a.toList.drop i).take (a.size-i)=_;exact List.take_of_length_le (by rw[List.length_drop];exact Nat.le_refl _)
theorem kR(a:Array Keyed)(i k:Nat):(a.extract i (i+k)).toList=(a.toList.drop i).take k:=by
 rw[Array.toList_extract];show(a.toList.drop i).take (i+k-i)=_;rw[Nat.add_sub_cancel_left]
theorem uL(a:Array Keyed)(i k:Nat):a.toList.drop i=(a.toList.drop i).take k++a.toList.drop (i+k):=by
 rw[<- List.drop_drop,List.take_append_drop]
theorem mP{a:Array Keyed}{i:Nat}(h:i=a.size):a.toList.drop i=[]:=by
 subst h;exact List.drop_length
theorem ko{a:Array Keyed}{i k:Nat}{x:Keyed}(h:x∈(a.toList.drop i).take k):∃m,m<k/\i+m<a.size/\a[i+m]?=some x:=by
 obtain⟨m,hm,e⟩:=List.mem_iff_getElem.mp h;rw[List.length_take,List.length_drop]at hm;rw[List.getElem_take,List.getElem_drop]at e;have hs:i+m<a.size:=by have:a.toList.length=a.size:=rfl;omega
 exact⟨m,by omega,hs,by rw[Array.getElem?_eq_getElem hs];exact congrArg some (by simpa using e)⟩
theorem Eb{a:Array Keyed}{i:Nat}{x:Keyed}(h:x∈a.toList.drop i):∃m,i<=m/\m<a.size/\a[m]?=some x:=by
 obtain⟨m,hm,e⟩:=List.mem_iff_getElem.mp h;rw[List.length_drop]at hm;rw[List.getElem_drop]at e;have hs:i+m<a.size:=by have:a.toList.length=a.size:=rfl;omega
 exact⟨i+m,by omega,hs,by rw[Array.getElem?_eq_getElem hs];exact congrArg some (by simpa using e)⟩
theorem So.seg{ρ:Keyed->Nat}{a:Array Keyed}(h:So ρ a.toList):Seg ρ a 0 a.size:=λi j _ jy hj=>by
 by_cases e:i=j
 ·subst e;exact Nat.le_refl _
 ·have hi:i<a.size:=by omega
  rw[cF (Array.getElem?_eq_getElem hi),cF (Array.getElem?_eq_getElem hj)];have:=List.pairwise_iff_getElem.mp h i j (by simpa using hi) (by simpa using hj) ⋯
  simpa using this
structure Kp(st az:SortSt):Prop where
 a:arrOf az=arrOf st
 k:kindOf az=kindOf st
 p:pendingOf az=pendingOf st
 f:failedOf az=failedOf st
theorem Kp.refl{st:SortSt}:Kp st st:=⟨rfl,rfl,rfl,rfl⟩
theorem Kp.min{st az:SortSt}(h:Kp st az)(g:Nat):Kp st (SortSt.mk' (kindOf az) (arrOf az) (pendingOf az) g (failedOf az)):=⟨h.a,h.k,h.p,h.f⟩
section
variable {M:Model}{A:Around}{E:Value->Shared->Prop}{s:Shared}{ρ:Keyed->Nat}{kd:SortKind}{P:Keyed->Prop}
theorem cQ{a:Array Keyed}(pa:∀x∈a.toList,P x){i:Nat}(h:i<a.size):∃x,a[i]?=some x/\P x:=
 ⟨a[i],Array.getElem?_eq_getElem h,pa _ (by simp)⟩
theorem En{key:Keyed}{arr:Array Keyed}{base:Nat}{st:SortSt}{Q:Option Nat->SortSt->Prop}(hL:fm M A E s ρ kd P)(hk:kindOf st=kd)(pk:P key)(pa:∀x∈arr.toList,P x)(hs:So ρ arr.toList)(hb:base<arr.size)
  (q:∀k,base+k<=arr.size->(∀x∈(arr.toList.drop base).take k,ρ x<=ρ key)->(∀x∈arr.toList.drop (base+k),ρ key<ρ x)->Q (some k) st):wpS M A E s (b9 false key arr base (arr.size-base) 0) Q st:=by
 refine dc (tells hL hk pk λi hi=>cQ pa ⋯) (λi j jy hj h=>?_) ⋯ λk pN h1 h2=>q k ⋯ (λx hx=>?_) λx hx=>?_
 ·have:=hs.seg (base+i) (base+j) (Nat.zero_le _) ⋯ ⋯
  simp only[nE,Bool.false_eq_true,if_false,Bool.not_eq_true',decide_eq_false_iff_not]at h ⊢;omega
 ·obtain⟨m,hm,e9,e⟩:=ko hx
  have:=h1 m hm;simp only[nE,Bool.false_eq_true,if_false,Bool.not_eq_true',decide_eq_false_iff_not,cF e]at this;omega
 ·obtain⟨m,hm,e9,e⟩:=Eb hx
  have:=h2 (m-base) ⋯ ⋯
  rw[show base+k=base+k from rfl]at hm
  simp only[nE,Bool.false_eq_true,if_false,show base+(m-base)=m by omega,cF e,Bool.not_eq_false',decide_eq_true_eq]at this
  exact this
theorem Em{key:Keyed}{arr:Array Keyed}{base:Nat}{st:SortSt}{Q:Option Nat->SortSt->Prop}(hL:fm M A E s ρ kd P)(hk:kindOf st=kd)(pk:P key)(pa:∀x∈arr.toList,P x)(hs:So ρ arr.toList)(hb:base<arr.size)
  (q:∀k,base+k<=arr.size->(∀x∈(arr.toList.drop base).take k,ρ x<ρ key)->(∀x∈arr.toList.drop (base+k),ρ key<=ρ x)->Q (some k) st):wpS M A E s (b9 true key arr base (arr.size-base) 0) Q st:=by
 refine dc (tells hL hk pk λi hi=>cQ pa ⋯) (λi j jy hj h=>?_) ⋯ λk pN h1 h2=>q k ⋯ (λx hx=>?_) λx hx=>?_
 ·have:=hs.seg (base+i) (base+j) (Nat.zero_le _) ⋯ ⋯
  simp only[nE,if_true,decide_eq_true_eq]at h ⊢;omega
 ·obtain⟨m,hm,e9,e⟩:=ko hx
  have:=h1 m hm;simp only[nE,if_true,decide_eq_true_eq,cF e]at this;omega
 ·obtain⟨m,hm,e9,e⟩:=Eb hx
  have:=h2 (m-base) ⋯ ⋯
  simp only[nE,if_true,show base+(m-base)=m by omega,cF e,decide_eq_false_iff_not]at this
  omega
end
end Vs
namespace Vs
open PySem PyProof.Rows
section
variable {M:Model}{Ar:Around}{E:Value->Shared->Prop}{s:Shared}{ρ:Keyed->Nat}{kd:SortKind}{P:Keyed->Prop}{a b out:Array Keyed}{L:List Keyed}{ia ib:Nat}
abbrev GS:=Option (Array Keyed)×Array Keyed×Nat×Nat×Nat×Nat×Nat
def FE(a b out:Array Keyed)(ia ib g k k1:Nat):StateT SortSt Sem (ForInStep GS):=do
 let y <- elem' a ia
 if(ia+1+1==a.size)=true then pure (ForInStep.done (some (out.push y++b.extract ib b.size++a.extract (ia+1) a.size),out.push y,ia+1,ib,g,k,k1))
 else if(decide (k<7)&&decide (k1<7))=true then pure (ForInStep.done (none,out.push y,ia+1,ib,g,k,k1))
 else pure (ForInStep.yield (none,out.push y,ia+1,ib,g,k,k1))
def FD(a b out:Array Keyed)(ia ib g k bc:Nat):StateT SortSt Sem (ForInStep GS):=do
 let x <- elem' b ib
 if(ib+1==b.size)=true then pure (ForInStep.done (some (out.push x++a.extract ia a.size++b.extract (ib+1) b.size),out.push x,ia,ib+1,g,k,bc))
 else do
  let y <- elem' a ia
  let r <- b9 true y b (ib+1) (b.size-(ib+1)) 0
  match r with
  | some k1 =>
   if k1>0 then
    if(ib+1+k1==b.size)=true then pure (ForInStep.done (some (out.push x++b.extract (ib+1) (ib+1+k1)++a.extract ia a.size++b.extract (ib+1+k1) b.size),out.push x++b.extract (ib+1) (ib+1+k1),ia,ib+1+k1,g,k,k1))
    else FE a b (out.push x++b.extract (ib+1) (ib+1+k1)) ia (ib+1+k1) g k k1
   else FE a b (out.push x) ia (ib+1) g k k1
  | _=>pure (ForInStep.done (some (out.push x++a.extract ia a.size++b.extract (ib+1) b.size),out.push x,ia,ib+1,g,k,bc))
def FC(a b out:Array Keyed)(ia ib g ac bc:Nat):StateT SortSt Sem (ForInStep GS):=do
 let x <- elem' b ib
 let r <- b9 false x a ia (a.size-ia) 0
 match r with
 | some k =>
  if k>0 then
   if(ia+k+1==a.size)=true then pure (ForInStep.done (some (out++a.extract ia (ia+k)++b.extract ib b.size++a.extract (ia+k) a.size),out++a.extract ia (ia+k),ia+k,ib,g,k,bc))
   else if(ia+k==a.size)=true then pure (ForInStep.done (some (out++a.extract ia (ia+k)++a.extract (ia+k) a.size++b.extract ib b.size),out++a.extract ia (ia+k),ia+k,ib,g,k,bc))
   else FD a b (out++a.extract ia (ia+k)) (ia+k) ib g k bc
  else FD a b out ia ib g k bc
 | _=>pure (ForInStep.done (some (out++a.extract ia a.size++b.extract ib b.size),out,ia,ib,g,ac,bc))
def V(ρ:Keyed->Nat)(L:List Keyed)(a b out:Array Keyed)(ia ib:Nat):Prop:=J ρ L out.toList (a.toList.drop ia) (b.toList.drop ib)
theorem V.xl(j:V ρ L a b out ia ib)(e:ia+1=a.size)(hz:∀y∈b.toList,∀z,a[a.size-1]?=some z->ρ y<=ρ z):Good ρ L (out++b.extract ib b.size++a.extract ia a.size).toList:=by
 have ha:ia<a.size:=by omega
 have e1:a.toList.drop ia=[a[ia]]:=by rw[jc (Array.getElem?_eq_getElem ha),mP e]
 have j':J ρ L out.toList (a.toList.drop ia) (b.toList.drop ib):=j;rw[e1]at j';rw[Array.toList_append,Array.toList_append,jW,jW,e1];refine j'.last λy hy=>hz y (List.mem_of_mem_drop hy) _ ?_;rw[show a.size-1=ia by omega];exact Array.getElem?_eq_getElem ha
theorem V.gj(j:V ρ L a b out ia ib)(e:ib=b.size):Good ρ L (out++a.extract ia a.size++b.extract ib b.size).toList:=by
 have j':J ρ L out.toList (a.toList.drop ia) (b.toList.drop ib):=j;rw[mP e]at j';rw[Array.toList_append,Array.toList_append,jW,jW,mP e,List.append_nil];exact j'.gj
theorem V.gh(j:V ρ L a b out ia ib)(e:ia=a.size):Good ρ L (out++a.extract ia a.size++b.extract ib b.size).toList:=by
 have j':J ρ L out.toList (a.toList.drop ia) (b.toList.drop ib):=j;rw[mP e]at j';rw[Array.toList_append,Array.toList_append,jW,jW,mP e,List.append_nil];exact j'.gh
theorem V.oo{x:Keyed}(j:V ρ L a b out ia ib)(e:a[ia]?=some x)(h:∀y∈b.toList.drop ib,ρ x<=ρ y):V ρ L a b (out.push x) (ia+1) ib:=by
 have j':J ρ L out.toList (a.toList.drop ia) (b.toList.drop ib):=j;rw[jc e]at j';show J ρ L (out.push x).toList _ _;rw[Array.toList_push];exact J.iy (X:=[x]) j' λz hz y hy=>by rw[List.mem_singleton.mp hz];exact h y hy
theorem V.oq{x:Keyed}(j:V ρ L a b out ia ib)(e:b[ib]?=some x)(h:∀y∈a.toList.drop ia,ρ x<=ρ y):V ρ L a b (out.push x) ia (ib+1):=by
 have j':J ρ L out.toList (a.toList.drop ia) (b.toList.drop ib):=j;rw[jc e]at j';show J ρ L (out.push x).toList _ _;rw[Array.toList_push];exact J.iA (X:=[x]) j' λz hz y hy=>by rw[List.mem_singleton.mp hz];exact h y hy
theorem V.iy{k:Nat}(j:V ρ L a b out ia ib)(h:∀x∈(a.toList.drop ia).take k,∀y∈b.toList.drop ib,ρ x<=ρ y):V ρ L a b (out++a.extract ia (ia+k)) (ia+k) ib:=by
 have j':J ρ L out.toList (a.toList.drop ia) (b.toList.drop ib):=j;rw[uL a ia k]at j';show J ρ L (out++a.extract ia (ia+k)).toList _ _;rw[Array.toList_append,kR];exact J.iy j' h
theorem V.iA{k:Nat}(j:V ρ L a b out ia ib)(h:∀x∈(b.toList.drop ib).take k,∀y∈a.toList.drop ia,ρ x<=ρ y):V ρ L a b (out++b.extract ib (ib+k)) ia (ib+k):=by
 have j':J ρ L out.toList (a.toList.drop ia) (b.toList.drop ib):=j;rw[uL b ib k]at j';show J ρ L (out++b.extract ib (ib+k)).toList _ _;rw[Array.toList_append,kR];exact J.iA j' h
theorem V.IB{x:Keyed}(j:V ρ L a b out ia ib)(e:a[ia]?=some x):∀y∈a.toList.drop ia,ρ x<=ρ y:=λy hy=>by
 have:=j.a;rw[jc e]at this hy;rcases List.mem_cons.mp hy with rfl|hy
 ·exact Nat.le_refl _
 ·exact(List.pairwise_cons.mp this).1 y hy
theorem V.IC{x:Keyed}(j:V ρ L a b out ia ib)(e:b[ib]?=some x):∀y∈b.toList.drop ib,ρ x<=ρ y:=λy hy=>by
 have:=j.b;rw[jc e]at this hy;rcases List.mem_cons.mp hy with rfl|hy
 ·exact Nat.le_refl _
 ·exact(List.pairwise_cons.mp this).1 y hy
def Left(ρ:Keyed->Nat)(L:List Keyed)(a b:Array Keyed)(t:Nat)(out:Array Keyed)(ia ib:Nat):Prop:=V ρ L a b out ia ib/\ia+1<a.size/\ib<b.size/\t<=ia+ib
def PG(ρ:Keyed->Nat)(L:List Keyed)(a b:Array Keyed)(t:Nat)(bX:SortSt)(r:ForInStep GS)(st:SortSt):Prop:=Kp bX st/\match r with
 | .done c=>(∃arr,c.1=some arr/\Good ρ L arr.toList)\/(c.1=none/\Left ρ L a b t c.2.1 c.2.2.1 c.2.2.2.1)
 | .yield c=>c.1=none/\Left ρ L a b t c.2.1 c.2.2.1 c.2.2.2.1
structure u5(ρ:Keyed->Nat)(P:Keyed->Prop)(a b:Array Keyed):Prop where
 pa:∀x∈a.toList,P x
 pb:∀x∈b.toList,P x
 sa:So ρ a.toList
 sb:So ρ b.toList
 a1:1<=a.size
 b1:1<=b.size
 z:∀y∈b.toList,∀z,a[a.size-1]?=some z->ρ y<=ρ z
 y:∀y∈a.toList,∀z,b[0]?=some z->ρ z<=ρ y
theorem uU{st bX:SortSt}{g k k1 t:Nat}(T:u5 ρ P a b)(hK:Kp bX st)(j:V ρ L a b out ia ib)(h1:ia+1<a.size)(h2:ib<b.size)(ht:t<=ia+ib)
  (h:∀x,a[ia]?=some x->∀y∈b.toList.drop ib,ρ x<=ρ y):wpS M Ar E s (FE a b out ia ib g k k1) (PG ρ L a b t bX) st:=by
 unfold FE;obtain⟨y,ey,py⟩:=cQ T.pa (show ia<a.size by omega)
 refine wpS_bind (aV ey ?_);have j':=j.oo ey (h y ey)
 by_cases e:ia+1+1=a.size
 ·rw[if_pos (by simpa using e)]
  exact wpS_pure ⟨hK,.inl ⟨_,rfl,j'.xl e T.z⟩⟩
 ·rw[if_neg (by simpa using e)]
  split
  ·exact wpS_pure ⟨hK,.inr ⟨rfl,j',by show ia+1+1<a.size;omega,h2,by show t<=ia+1+ib;omega⟩⟩
  ·exact wpS_pure ⟨hK,rfl,j',by show ia+1+1<a.size;omega,h2,by show t<=ia+1+ib;omega⟩
theorem uT{st bX:SortSt}{g k bc t:Nat}(hL:fm M Ar E s ρ kd P)(hk:kindOf bX=kd)(T:u5 ρ P a b)(hK:Kp bX st)(j:V ρ L a b out ia ib)(h1:ia+1<a.size)(h2:ib<b.size)(ht:t<=ia+ib)
  (h:∀x,b[ib]?=some x->∀y∈a.toList.drop ia,ρ x<=ρ y):wpS M Ar E s (FD a b out ia ib g k bc) (PG ρ L a b t bX) st:=by
 unfold FD;obtain⟨x,ex,px⟩:=cQ T.pb h2;obtain⟨y,ey,py⟩:=cQ T.pa (show ia<a.size by omega)
 refine wpS_bind (aV ex ?_);have j':=j.oq ex (h x ex)
 by_cases e:ib+1=b.size
 ·rw[if_pos (by simpa using e)]
  exact wpS_pure ⟨hK,.inl ⟨_,rfl,j'.gj e⟩⟩
 ·rw[if_neg (by simpa using e)]
  refine wpS_bind (aV ey ?_);refine wpS_bind (Em hL (hK.k.trans hk) py T.pb T.sb ⋯ λk1 pN q1 q2=>?_)
  dsimp only;have j2:=j'.iA (k:=k1) λx hx z hz=>Nat.le_trans (Nat.le_of_lt (q1 x hx)) (j'.IB ey z hz)
  by_cases w8:k1>0
  ·rw[if_pos w8]
   by_cases e2:ib+1+k1=b.size
   ·rw[if_pos (by simpa using e2)]
    exact wpS_pure ⟨hK,.inl ⟨_,rfl,j2.gj e2⟩⟩
   ·rw[if_neg (by simpa using e2)]
    exact uU T hK j2 h1 ⋯ ⋯ λx' j8 z hz=>by rw[ey]at j8;cases j8;exact q2 z hz
  ·rw[if_neg w8]
   have:k1=0:=by omega
   subst this;exact uU T hK j' h1 ⋯ ⋯ λx' j8 z hz=>by rw[ey]at j8;cases j8;exact q2 z hz
theorem uS{st bX:SortSt}{g ac bc t:Nat}(hL:fm M Ar E s ρ kd P)(hk:kindOf bX=kd)(T:u5 ρ P a b)(hK:Kp bX st)(j:Left ρ L a b t out ia ib):wpS M Ar E s (FC a b out ia ib g ac bc) (PG ρ L a b t bX) st:=by
 obtain⟨j,h1,h2,ht⟩:=j;unfold FC;obtain⟨x,ex,px⟩:=cQ T.pb h2;refine wpS_bind (aV ex ?_);refine wpS_bind (En hL (hK.k.trans hk) px T.pa T.sa ⋯ λk pN q1 q2=>?_)
 dsimp only;have j2:=j.iy (k:=k) λz hz y hy=>Nat.le_trans (q1 z hz) (j.IC ex y hy)
 by_cases w8:k>0
 ·rw[if_pos w8]
  by_cases e:ia+k+1=a.size
  ·rw[if_pos (by simpa using e)]
   exact wpS_pure ⟨hK,.inl ⟨_,rfl,j2.xl e T.z⟩⟩
  ·rw[if_neg (by simpa using e)]
   by_cases e2:ia+k=a.size
   ·rw[if_pos (by simpa using e2)]
    exact wpS_pure ⟨hK,.inl ⟨_,rfl,j2.gh e2⟩⟩
   ·rw[if_neg (by simpa using e2)]
    exact uT hL hk T hK j2 ⋯ h2 ⋯ λx' j8 z hz=>by rw[ex]at j8;cases j8;exact Nat.le_of_lt (q2 z hz)
 ·rw[if_neg w8]
  have:k=0:=by omega
  subst this;exact uT hL hk T hK j h1 h2 ht λx' j8 z hz=>by rw[ex]at j8;cases j8;exact Nat.le_of_lt (q2 z hz)
abbrev IS:=Option (Array Keyed)×Array Keyed×Nat×Nat×Nat×Nat
abbrev OS:=Option (Array Keyed)×Array Keyed×Nat×Nat×Nat
def Yu(a b:Array Keyed)(g:Nat)(c:IS):StateT SortSt Sem (ForInStep IS):=do
 let x <- elem' b c.2.2.2.1
 let y <- elem' a c.2.2.1
 let r <- lt' x y
 match r with
 | some w =>
  if w=true then do
   let x <- elem' b c.2.2.2.1
   if(c.2.2.2.1+1==b.size)=true then pure (ForInStep.done (some (c.2.1.push x++a.extract c.2.2.1 a.size++b.extract (c.2.2.2.1+1) b.size),c.2.1.push x,c.2.2.1,c.2.2.2.1+1,0,c.2.2.2.2.2+1))
   else if c.2.2.2.2.2+1>=g then pure (ForInStep.done (none,c.2.1.push x,c.2.2.1,c.2.2.2.1+1,0,c.2.2.2.2.2+1))
   else pure (ForInStep.yield (none,c.2.1.push x,c.2.2.1,c.2.2.2.1+1,0,c.2.2.2.2.2+1))
  else do
   let y <- elem' a c.2.2.1
   if(c.2.2.1+1+1==a.size)=true then pure (ForInStep.done (some (c.2.1.push y++b.extract c.2.2.2.1 b.size++a.extract (c.2.2.1+1) a.size),c.2.1.push y,c.2.2.1+1,c.2.2.2.1,c.2.2.2.2.1+1,0))
   else if c.2.2.2.2.1+1>=g then pure (ForInStep.done (none,c.2.1.push y,c.2.2.1+1,c.2.2.2.1,c.2.2.2.2.1+1,0))
   else pure (ForInStep.yield (none,c.2.1.push y,c.2.2.1+1,c.2.2.2.1,c.2.2.2.2.1+1,0))
 | _=>pure (ForInStep.done (some (c.2.1++a.extract c.2.2.1 a.size++b.extract c.2.2.2.1 b.size),c.2.1,c.2.2.1,c.2.2.2.1,c.2.2.2.2.1,c.2.2.2.2.2))
def Yt(a b:Array Keyed)(c:GS):StateT SortSt Sem (ForInStep GS):=
 if c.2.2.2.2.1>1 then do
  dW (c.2.2.2.2.1-1)
  FC a b c.2.1 c.2.2.1 c.2.2.2.1 (c.2.2.2.2.1-1) c.2.2.2.2.2.1 c.2.2.2.2.2.2
 else do
  dW c.2.2.2.2.1
  FC a b c.2.1 c.2.2.1 c.2.2.2.1 c.2.2.2.2.1 c.2.2.2.2.2.1 c.2.2.2.2.2.2
def loE(r:GS):StateT SortSt Sem (ForInStep OS):=
 match r.1 with
 | some arr=>pure (ForInStep.done (some arr,r.2.1,r.2.2.1,r.2.2.2.1,r.2.2.2.2.1))
 | none=>do
  dW (r.2.2.2.2.1+1)
  pure (ForInStep.yield (none,r.2.1,r.2.2.1,r.2.2.2.1,r.2.2.2.2.1+1))
def Yv(a b:Array Keyed)(g:Nat)(r:IS):StateT SortSt Sem (ForInStep OS):=
 match r.1 with
 | some arr=>pure (ForInStep.done (some arr,r.2.1,r.2.2.1,r.2.2.2.1,g))
 | none=>do
  liftM (rule "list.sort.gallop")
  let r2 <- forIn [0:a.size+b.size] ((none,r.2.1,r.2.2.1,r.2.2.2.1,g+1,r.2.2.2.2.1,r.2.2.2.2.2):GS) λ_ t=>Yt a b t
  loE r2
def Yw(a b:Array Keyed)(c:OS):StateT SortSt Sem (ForInStep OS):=do
 let r <- forIn [0:a.size+b.size] ((none,c.2.1,c.2.2.1,c.2.2.2.1,0,0):IS) λ_ r=>Yu a b c.2.2.2.2 r
 Yv a b c.2.2.2.2 r
def loZ(r:OS):StateT SortSt Sem (Array Keyed):=
 match r.1 with
 | some arr=>pure arr
 | none=>unsupported "internal:list.sort.merge-bound"
theorem p0(a b:Array Keyed):lU a b=(do
 liftM (rule "list.sort.merge-lo")
 let x <- elem' b 0
 if(1==b.size)=true then pure (#[x]++a.extract 0 a.size++b.extract 1 b.size)
 else if(0+1==a.size)=true then pure (#[x]++b.extract 1 b.size++a.extract 0 a.size)
 else do
  let st <- get
  let r <- forIn [0:a.size+b.size] ((none,#[x],0,1,gallopOf st):OS) λ_ r=>Yw a b r
  loZ r):=by kernel_rfl
theorem Hs{bX st:SortSt}{g n m:Nat}{c:IS}(hL:fm M Ar E s ρ kd P)(hk:kindOf bX=kd)(T:u5 ρ P a b)(hK:Kp bX st)(j:Left ρ L a b (n+1+min m 1) c.2.1 c.2.2.1 c.2.2.2.1):
  wpS M Ar E s (Yu a b g c) (λr az=>Kp bX az/\match r with
   | .done c=>(∃arr,c.1=some arr/\Good ρ L arr.toList)\/(c.1=none/\Left ρ L a b (n+1+1) c.2.1 c.2.2.1 c.2.2.2.1)
   | .yield c=>c.1=none/\Left ρ L a b (n+1+min (m+1) 1) c.2.1 c.2.2.1 c.2.2.2.1) st:=by
 obtain⟨ret,out,ia,ib,ac,bc⟩:=c;obtain⟨j,l1,l2,l3⟩:=j;dsimp only at j l1 l2 l3;unfold Yu;dsimp only;obtain⟨x,ex,px⟩:=cQ T.pb l2;obtain⟨y,ey,py⟩:=cQ T.pa (show ia<a.size by omega)
 refine wpS_bind (aV ex (wpS_bind (aV ey (wpS_bind (hL x y st _ px py (hK.k.trans hk) ?_)))))
 by_cases fy:ρ x<ρ y
 ·rw[decide_eq_true fy]
  refine wpS_bind (aV ex ?_);have j':=j.oq ex λz hz=>Nat.le_trans (Nat.le_of_lt fy) (j.IB ey z hz)
  by_cases e:ib+1=b.size
  ·rw[if_pos (by simpa using e)]
   exact wpS_pure ⟨hK,.inl ⟨_,rfl,j'.gj e⟩⟩
  ·rw[if_neg (by simpa using e)]
   split
   ·exact wpS_pure ⟨hK,.inr ⟨rfl,j',by show ia+1<a.size;omega,by show ib+1<b.size;omega,by show n+1+1<=ia+(ib+1);omega⟩⟩
   ·exact wpS_pure ⟨hK,rfl,j',by show ia+1<a.size;omega,by show ib+1<b.size;omega,by show n+1+min (m+1) 1<=ia+(ib+1);omega⟩
 ·rw[decide_eq_false fy]
  refine wpS_bind (aV ey ?_);have j':=j.oo ey λz hz=>Nat.le_trans (Nat.not_lt.mp fy) (j.IC ex z hz)
  by_cases e:ia+1+1=a.size
  ·rw[if_pos (by simpa using e)]
   exact wpS_pure ⟨hK,.inl ⟨_,rfl,j'.xl e T.z⟩⟩
  ·rw[if_neg (by simpa using e)]
   split
   ·exact wpS_pure ⟨hK,.inr ⟨rfl,j',by show ia+1+1<a.size;omega,by show ib<b.size;omega,by show n+1+1<=ia+1+ib;omega⟩⟩
   ·exact wpS_pure ⟨hK,rfl,j',by show ia+1+1<a.size;omega,by show ib<b.size;omega,by show n+1+min (m+1) 1<=ia+1+ib;omega⟩
theorem Hr{bX st:SortSt}{t:Nat}{c:GS}(hL:fm M Ar E s ρ kd P)(hk:kindOf bX=kd)(T:u5 ρ P a b)(hK:Kp bX st)(j:Left ρ L a b t c.2.1 c.2.2.1 c.2.2.2.1):wpS M Ar E s (Yt a b c) (PG ρ L a b t bX) st:=by
 unfold Yt
 split
 ·rw[dP]
  exact wpS_bind (wpS_modify (uS hL hk T (hK.min _) j))
 ·rw[dP]
  exact wpS_bind (wpS_modify (uS hL hk T (hK.min _) j))
def PO(ρ:Keyed->Nat)(L:List Keyed)(a b:Array Keyed)(t:Nat)(bX:SortSt)(r:ForInStep OS)(st:SortSt):Prop:=match r with
 | .done c=>Kp bX st/\∃arr,c.1=some arr/\Good ρ L arr.toList
 | .yield c=>Kp bX st/\c.1=none/\Left ρ L a b t c.2.1 c.2.2.1 c.2.2.2.1
theorem Ht{bX st:SortSt}{g n:Nat}{r:IS}(hL:fm M Ar E s ρ kd P)(hk:kindOf bX=kd)(T:u5 ρ P a b)(hK:Kp bX st)
  (h:(∃arr,r.1=some arr/\Good ρ L arr.toList)\/(r.1=none/\Left ρ L a b (n+1+1) r.2.1 r.2.2.1 r.2.2.2.1)):wpS M Ar E s (Yv a b g r) (PO ρ L a b (n+1+1) bX) st:=by
 obtain⟨ret,r⟩:=r;unfold Yv;rcases h with⟨arr,h1,h2⟩|⟨h1,hl⟩
 ·dsimp only at h1
  subst h1;exact wpS_pure ⟨hK,arr,rfl,h2⟩
 ·dsimp only at h1 hl
  subst h1;refine wpS_bind (wpS_lift (wpAny_rule ⟨rfl,?_⟩));refine wpS_bind (wpS_mono (wpS_forRange (I:=λx c az=>Kp bX az/\c.1=none/\Left ρ L a b (n+1+1) c.2.1 c.2.2.1 c.2.2.2.1)
   (Q:=λc az=>Kp bX az/\((∃arr,c.1=some arr/\Good ρ L arr.toList)\/(c.1=none/\Left ρ L a b (n+1+1) c.2.1 c.2.2.1 c.2.2.2.1))) ?gstep ?gfin ⟨hK,rfl,hl⟩) ?gpost)
  case gfin =>
   rintro c az ⟨hK,h1,hl⟩;exact⟨hK,.inr ⟨h1,hl⟩⟩
  case gstep =>
   rintro m c az _ hm ⟨hK,h1,hl⟩;refine wpS_mono (Hr hL hk T hK hl) λr cP hr=>?_;obtain⟨k1,k2⟩:=hr;cases r with
   | done c=>exact⟨k1,k2⟩
   | yield c=>exact⟨k1,k2⟩
  case gpost =>
   rintro⟨ret,r⟩ az ⟨hK,⟨arr,h1,h2⟩|⟨h1,hl⟩⟩
   ·dsimp only at h1
    subst h1;exact wpS_pure ⟨hK,arr,rfl,h2⟩
   ·dsimp only at h1 hl
    subst h1;unfold loE;rw[dP];exact wpS_bind (wpS_modify (wpS_pure ⟨hK.min _,rfl,hl⟩))
theorem Hu{bX st:SortSt}{n:Nat}{c:OS}(hL:fm M Ar E s ρ kd P)(hk:kindOf bX=kd)(T:u5 ρ P a b)(hn:0<a.size+b.size)(hK:Kp bX st)(hl:Left ρ L a b (n+1) c.2.1 c.2.2.1 c.2.2.2.1):wpS M Ar E s (Yw a b c) (PO ρ L a b (n+1+1) bX) st:=by
 unfold Yw;refine wpS_bind (wpS_mono (wpS_forRange (I:=λx c az=>Kp bX az/\c.1=none/\Left ρ L a b (n+1+min x 1) c.2.1 c.2.2.1 c.2.2.2.1)
  (Q:=λc az=>Kp bX az/\((∃arr,c.1=some arr/\Good ρ L arr.toList)\/(c.1=none/\Left ρ L a b (n+1+1) c.2.1 c.2.2.1 c.2.2.2.1))) ?istep ?ifin ⟨hK,rfl,by simpa using hl⟩) ?ipost)
 case ifin =>
  rintro c az ⟨hK,h1,hl⟩;rw[show min (max 0 (a.size+b.size)) 1=1 by omega]at hl
  exact⟨hK,.inr ⟨h1,hl⟩⟩
 case istep =>
  rintro m c az _ hm ⟨hK,h1,hl⟩;refine wpS_mono (Hs hL hk T hK hl) λr cP hr=>?_;obtain⟨k1,k2⟩:=hr;cases r with
  | done c=>exact⟨k1,k2⟩
  | yield c=>exact⟨k1,k2⟩
 case ipost =>
  rintro r az ⟨hK,h⟩;exact Ht hL hk T hK h
theorem uW{st:SortSt}{Q:Array Keyed->SortSt->Prop}(hL:fm M Ar E s ρ kd P)(hk:kindOf st=kd)(T:u5 ρ P a b)
  (q:∀r az,Kp st az->Good ρ (a.toList++b.toList) r.toList->Q r az):wpS M Ar E s (lU a b) Q st:=by
 rw[p0];refine wpS_bind (wpS_lift (wpAny_rule ⟨rfl,?_⟩));obtain⟨x,ex,px⟩:=cQ T.pb (show 0<b.size from T.b1)
 refine wpS_bind (aV ex ?_);have j0:V ρ (a.toList++b.toList) a b #[] 0 0:=⟨List.Pairwise.nil,by simpa using T.sa,by simpa using T.sb,(λx hx=>by cases hx),(λx hx=>by cases hx),by simp⟩
 have j1:V ρ (a.toList++b.toList) a b #[x] 0 1:=by simpa using j0.oq ex λy hy=>T.y y (by simpa using hy) x ex
 by_cases e:1=b.size
 ·rw[if_pos (by simpa using e)]
  exact wpS_pure (q _ st .refl (j1.gj e))
 ·rw[if_neg (by simpa using e)]
  by_cases e2:0+1=a.size
  ·rw[if_pos (by simpa using e2)]
   exact wpS_pure (q _ st .refl (j1.xl e2 T.z))
  ·rw[if_neg (by simpa using e2)]
   have b1:=T.b1;have a1:=T.a1;refine wpS_bind (wpS_get ?_);refine wpS_bind (wpS_mono (wpS_forRange (I:=λx c az=>Kp st az/\c.1=none/\Left ρ (a.toList++b.toList) a b (x+1) c.2.1 c.2.2.1 c.2.2.2.1)
    (Q:=λc az=>Kp st az/\∃arr,c.1=some arr/\Good ρ (a.toList++b.toList) arr.toList) ?step ?fin ⟨.refl,rfl,j1,by show 0+1<a.size;omega,by show 1<b.size;omega,by show 0+1<=0+1;omega⟩) ?post)
   case fin =>
    rintro⟨ret,out,ia,ib,g⟩ az ⟨hK,h1,j,h2,h3,h4⟩;dsimp only at h2 h3 h4;omega
   case post =>
    rintro⟨ret,r⟩ az ⟨hK,arr,h1,h2⟩;dsimp only at h1;subst h1;exact wpS_pure (q arr az hK h2)
   case step =>
    rintro n c az _ hn ⟨hK,h1,hl⟩;refine wpS_mono (Hu hL hk T ⋯ hK hl) λr cP hr=>?_
    cases r with
    | done c=>exact hr
    | yield c=>exact hr
end
end Vs
namespace Vs
open PySem PyProof.Rows
structure H(ρ:Keyed->Nat)(L O A B:List Keyed):Prop where
 o:So ρ O
 a:So ρ A
 b:So ρ B
 oa:∀x∈A,∀y∈O,ρ x<=ρ y
 ob:∀x∈B,∀y∈O,ρ x<=ρ y
 p:(A++(B++O)).Perm L
section
variable {ρ:Keyed->Nat}{L O A B X:List Keyed}{x z:Keyed}
theorem H.iA(j:H ρ L O A (B++X))(h:∀x∈X,∀y∈A,ρ y<=ρ x):H ρ L (X++O) A B:=by
 obtain⟨a1,a2,a3⟩:=List.pairwise_append.mp j.b;refine⟨So.app a2 j.o λx hx y hy=>j.ob x (List.mem_append_right _ hx) y hy,j.a,a1,λx hx y hy=>?_,λx hx y hy=>?_,?_⟩
 ·rcases List.mem_append.mp hy with hy|hy
  ·exact h y hy x hx
  ·exact j.oa x hx y hy
 ·rcases List.mem_append.mp hy with hy|hy
  ·exact a3 x hx y hy
  ·exact j.ob x (List.mem_append_left _ hx) y hy
 ·have:=j.p
  simpa [List.append_assoc]using this
theorem H.iy(j:H ρ L O (A++X) B)(h:∀x∈X,∀y∈B,ρ y<=ρ x):H ρ L (X++O) A B:=by
 obtain⟨a1,a2,a3⟩:=List.pairwise_append.mp j.a;refine⟨So.app a2 j.o λx hx y hy=>j.oa x (List.mem_append_right _ hx) y hy,a1,j.b,λx hx y hy=>?_,λx hx y hy=>?_,?_⟩
 ·rcases List.mem_append.mp hy with hy|hy
  ·exact a3 x hx y hy
  ·exact j.oa x (List.mem_append_left _ hx) y hy
 ·rcases List.mem_append.mp hy with hy|hy
  ·exact h y hy x hx
  ·exact j.ob x hx y hy
 ·refine List.Perm.trans ?_ j.p
  rw[List.append_assoc];refine List.Perm.append_left A ?_;rw[<- List.append_assoc,<- List.append_assoc];exact List.Perm.append_right O List.perm_append_comm
theorem H.gj(j:H ρ L O A []):Good ρ L (A++O):=⟨So.app j.a j.o j.oa,by simpa using j.p⟩
theorem H.gh(j:H ρ L O [] B):Good ρ L (B++O):=⟨So.app j.b j.o j.ob,by simpa using j.p⟩
theorem H.first(j:H ρ L O A [z])(h:∀y∈A,ρ z<=ρ y):Good ρ L ([z]++A++O):=by
 refine⟨So.app (So.app (List.pairwise_singleton ..) j.a λx hx y hy=>by rw[List.mem_singleton.mp hx];exact h y hy) j.o λx hx y hy=>?_,?_⟩
 ·rcases List.mem_append.mp hx with hx|hx
  ·exact j.ob x hx y hy
  ·exact j.oa x hx y hy
 ·refine List.Perm.trans ?_ j.p
  rw[<- List.append_assoc];exact List.Perm.append_right O List.perm_append_comm
end
theorem jb{a:Array Keyed}{n:Nat}{x:Keyed}(h1:1<=n)(h:a[n-1]?=some x):a.toList.take n=a.toList.take (n-1)++[x]:=by
 obtain⟨m,rfl⟩:∃m,n=m+1:=⟨n-1,by omega⟩
 rw[Nat.add_sub_cancel]at h ⊢;rw[List.take_add_one];have:a.toList[m]?=some x:=by simpa using h
 rw[this];rfl
theorem jV(a:Array Keyed)(n:Nat):(a.extract 0 n).toList=a.toList.take n:=by
 rw[Array.toList_extract];rfl
theorem kQ(a:Array Keyed)(i n:Nat):(a.extract i n).toList=(a.toList.take n).drop i:=by
 rw[Array.toList_extract];show(a.toList.drop i).take (n-i)=_;rw[List.drop_take]
theorem uK(a:Array Keyed){i n:Nat}(h:i<=n):a.toList.take n=a.toList.take i++(a.toList.take n).drop i:=by
 have:=(List.take_append_drop i (a.toList.take n)).symm
 rwa [List.take_take,Nat.min_eq_left h]at this
theorem D9{a:Array Keyed}{n:Nat}{x:Keyed}(h:x∈a.toList.take n):∃m,m<n/\m<a.size/\a[m]?=some x:=by
 obtain⟨m,hm,e⟩:=List.mem_iff_getElem.mp h;rw[List.length_take]at hm;rw[List.getElem_take]at e;have hs:m<a.size:=by have:a.toList.length=a.size:=rfl;omega
 exact⟨m,by omega,hs,by rw[Array.getElem?_eq_getElem hs];exact congrArg some (by simpa using e)⟩
theorem fI{a:Array Keyed}{i n:Nat}{x:Keyed}(h:x∈(a.toList.take n).drop i):∃m,i<=m/\m<n/\m<a.size/\a[m]?=some x:=by
 obtain⟨m,hm,e⟩:=List.mem_iff_getElem.mp h;rw[List.length_drop,List.length_take]at hm;rw[List.getElem_drop,List.getElem_take]at e;have hs:i+m<a.size:=by have:a.toList.length=a.size:=rfl;omega
 exact⟨i+m,by omega,by omega,hs,by rw[Array.getElem?_eq_getElem hs];exact congrArg some (by simpa using e)⟩
section
variable {M:Model}{Ar:Around}{E:Value->Shared->Prop}{s:Shared}{ρ:Keyed->Nat}{kd:SortKind}{P:Keyed->Prop}{a b out:Array Keyed}{L:List Keyed}{na nb:Nat}
theorem Ep{key:Keyed}{arr:Array Keyed}{n:Nat}{st:SortSt}{Q:Option Nat->SortSt->Prop}(hL:fm M Ar E s ρ kd P)(hk:kindOf st=kd)(pk:P key)(pa:∀x∈arr.toList,P x)(hs:So ρ arr.toList)(hn:n<=arr.size)(h1:1<=n)
  (q:∀k,k<=n->(∀x∈arr.toList.take k,ρ x<=ρ key)->(∀x∈(arr.toList.take n).drop k,ρ key<ρ x)->Q (some k) st):wpS M Ar E s (b9 false key arr 0 n (n-1)) Q st:=by
 refine dc (tells hL hk pk λi hi=>cQ pa ⋯) (λi j jy hj h=>?_) ⋯ λk pN h1 h2=>q k ⋯ (λx hx=>?_) λx hx=>?_
 ·have:=hs.seg (0+i) (0+j) (Nat.zero_le _) ⋯ ⋯
  simp only[nE,Bool.false_eq_true,if_false,Bool.not_eq_true',decide_eq_false_iff_not]at h ⊢;omega
 ·obtain⟨m,hm,e9,e⟩:=D9 hx
  have:=h1 m hm;simp only[nE,Bool.false_eq_true,if_false,Bool.not_eq_true',decide_eq_false_iff_not,Nat.zero_add,cF e]at this;omega
 ·obtain⟨m,hm,e9,XT,e⟩:=fI hx
  have:=h2 m hm e9;simp only[nE,Bool.false_eq_true,if_false,Nat.zero_add,cF e,Bool.not_eq_false',decide_eq_true_eq]at this;exact this
theorem Eo{key:Keyed}{arr:Array Keyed}{n:Nat}{st:SortSt}{Q:Option Nat->SortSt->Prop}(hL:fm M Ar E s ρ kd P)(hk:kindOf st=kd)(pk:P key)(pa:∀x∈arr.toList,P x)(hs:So ρ arr.toList)(hn:n<=arr.size)(h1:1<=n)
  (q:∀k,k<=n->(∀x∈arr.toList.take k,ρ x<ρ key)->(∀x∈(arr.toList.take n).drop k,ρ key<=ρ x)->Q (some k) st):wpS M Ar E s (b9 true key arr 0 n (n-1)) Q st:=by
 refine dc (tells hL hk pk λi hi=>cQ pa ⋯) (λi j jy hj h=>?_) ⋯ λk pN h1 h2=>q k ⋯ (λx hx=>?_) λx hx=>?_
 ·have:=hs.seg (0+i) (0+j) (Nat.zero_le _) ⋯ ⋯
  simp only[nE,if_true,decide_eq_true_eq]at h ⊢;omega
 ·obtain⟨m,hm,e9,e⟩:=D9 hx
  have:=h1 m hm;simp only[nE,if_true,decide_eq_true_eq,Nat.zero_add,cF e]at this;omega
 ·obtain⟨m,hm,e9,XT,e⟩:=fI hx
  have:=h2 m hm e9;simp only[nE,if_true,Nat.zero_add,cF e,decide_eq_false_iff_not]at this;omega
abbrev HS:=Option (Array Keyed)×Nat×Nat×Array Keyed×Nat×Nat×Nat
def FA(a b out:Array Keyed)(na nb g k k1:Nat):StateT SortSt Sem (ForInStep HS):=do
 let y <- elem' a (na-1)
 if(na-1==0)=true then pure (ForInStep.done (some (a.extract 0 (na-1)++b.extract 0 nb++(out.push y).reverse),na-1,nb,out.push y,g,k,k1))
 else if(decide (k<7)&&decide (k1<7))=true then pure (ForInStep.done (none,na-1,nb,out.push y,g,k,k1))
 else pure (ForInStep.yield (none,na-1,nb,out.push y,g,k,k1))
def Fz(a b out:Array Keyed)(na nb g k bc:Nat):StateT SortSt Sem (ForInStep HS):=do
 let x <- elem' b (nb-1)
 if(nb-1==1)=true then pure (ForInStep.done (some (b.extract 0 (nb-1)++a.extract 0 na++(out.push x).reverse),na,nb-1,out.push x,g,k,bc))
 else do
  let y <- elem' a (na-1)
  let r <- b9 true y b 0 (nb-1) (nb-1-1)
  match r with
  | some at2 =>
   if nb-1-at2>0 then
    if(at2==1)=true then pure (ForInStep.done (some (b.extract 0 at2++a.extract 0 na++(out.push x++(b.extract at2 (nb-1)).reverse).reverse),na,at2,out.push x++(b.extract at2 (nb-1)).reverse,g,k,nb-1-at2))
    else if(at2==0)=true then pure (ForInStep.done (some (a.extract 0 na++b.extract 0 at2++(out.push x++(b.extract at2 (nb-1)).reverse).reverse),na,at2,out.push x++(b.extract at2 (nb-1)).reverse,g,k,nb-1-at2))
    else FA a b (out.push x++(b.extract at2 (nb-1)).reverse) na at2 g k (nb-1-at2)
   else FA a b (out.push x) na (nb-1) g k (nb-1-at2)
  | _=>pure (ForInStep.done (some (a.extract 0 na++b.extract 0 (nb-1)++(out.push x).reverse),na,nb-1,out.push x,g,k,bc))
def BO(a b out:Array Keyed)(na nb g ac bc:Nat):StateT SortSt Sem (ForInStep HS):=do
 let x <- elem' b (nb-1)
 let r <- b9 false x a 0 na (na-1)
 match r with
 | some rE =>
  if na-rE>0 then
   if(rE==0)=true then pure (ForInStep.done (some (a.extract 0 rE++b.extract 0 nb++(out++(a.extract rE na).reverse).reverse),rE,nb,out++(a.extract rE na).reverse,g,na-rE,bc))
   else Fz a b (out++(a.extract rE na).reverse) rE nb g (na-rE) bc
  else Fz a b out na nb g (na-rE) bc
 | _=>pure (ForInStep.done (some (a.extract 0 na++b.extract 0 nb++out.reverse),na,nb,out,g,ac,bc))
def W(ρ:Keyed->Nat)(L:List Keyed)(a b out:Array Keyed)(na nb:Nat):Prop:=H ρ L out.toList.reverse (a.toList.take na) (b.toList.take nb)
theorem W.pF(j:W ρ L a b out na nb)(e:nb=1)(hb:1<=b.size)(hz:∀y∈a.toList,∀z,b[0]?=some z->ρ z<=ρ y):Good ρ L (b.extract 0 nb++a.extract 0 na++out.reverse).toList:=by
 subst e;have eb:b[0]?=some b[0]:=Array.getElem?_eq_getElem hb;have e1:b.toList.take 1=[b[0]]:=by rw[jb (Nat.le_refl 1) eb];rfl
 have j':H ρ L out.toList.reverse (a.toList.take na) (b.toList.take 1):=j;rw[e1]at j';rw[Array.toList_append,Array.toList_append,jV,jV,e1,Array.toList_reverse];exact j'.first λy hy=>hz y (List.mem_of_mem_take hy) _ eb
theorem W.gh(j:W ρ L a b out na nb)(e:na=0):Good ρ L (a.extract 0 na++b.extract 0 nb++out.reverse).toList:=by
 subst e;have j':H ρ L out.toList.reverse [] (b.toList.take nb):=j;rw[Array.toList_append,Array.toList_append,jV,jV,Array.toList_reverse];exact j'.gh
theorem W.gj(j:W ρ L a b out na nb)(e:nb=0):Good ρ L (a.extract 0 na++b.extract 0 nb++out.reverse).toList:=by
 subst e;have j':H ρ L out.toList.reverse (a.toList.take na) []:=j;rw[Array.toList_append,Array.toList_append,jV,jV,Array.toList_reverse,List.take_zero,List.append_nil];exact j'.gj
theorem W.oo{x:Keyed}(j:W ρ L a b out na nb)(h1:1<=na)(e:a[na-1]?=some x)(h:∀y∈b.toList.take nb,ρ y<=ρ x):W ρ L a b (out.push x) (na-1) nb:=by
 have j':H ρ L out.toList.reverse (a.toList.take na) (b.toList.take nb):=j;rw[jb h1 e]at j';show H ρ L (out.push x).toList.reverse _ _;rw[Array.toList_push,List.reverse_append];exact H.iy (X:=[x]) j' λz hz y hy=>by rw[List.mem_singleton.mp hz];exact h y hy
theorem W.oq{x:Keyed}(j:W ρ L a b out na nb)(h1:1<=nb)(e:b[nb-1]?=some x)(h:∀y∈a.toList.take na,ρ y<=ρ x):W ρ L a b (out.push x) na (nb-1):=by
 have j':H ρ L out.toList.reverse (a.toList.take na) (b.toList.take nb):=j;rw[jb h1 e]at j';show H ρ L (out.push x).toList.reverse _ _;rw[Array.toList_push,List.reverse_append];exact H.iA (X:=[x]) j' λz hz y hy=>by rw[List.mem_singleton.mp hz];exact h y hy
theorem W.iy{k:Nat}(j:W ρ L a b out na nb)(hk:k<=na)(h:∀x∈(a.toList.take na).drop k,∀y∈b.toList.take nb,ρ y<=ρ x):W ρ L a b (out++(a.extract k na).reverse) k nb:=by
 have j':H ρ L out.toList.reverse (a.toList.take na) (b.toList.take nb):=j;rw[uK a hk]at j';show H ρ L (out++(a.extract k na).reverse).toList.reverse _ _;rw[Array.toList_append,List.reverse_append,Array.toList_reverse,List.reverse_reverse,kQ];exact H.iy j' h
theorem W.iA{k:Nat}(j:W ρ L a b out na nb)(hk:k<=nb)(h:∀x∈(b.toList.take nb).drop k,∀y∈a.toList.take na,ρ y<=ρ x):W ρ L a b (out++(b.extract k nb).reverse) na k:=by
 have j':H ρ L out.toList.reverse (a.toList.take na) (b.toList.take nb):=j;rw[uK b hk]at j';show H ρ L (out++(b.extract k nb).reverse).toList.reverse _ _;rw[Array.toList_append,List.reverse_append,Array.toList_reverse,List.reverse_reverse,kQ];exact H.iA j' h
theorem W.Sb{x:Keyed}(j:W ρ L a b out na nb)(h1:1<=na)(e:a[na-1]?=some x):∀y∈a.toList.take na,ρ y<=ρ x:=λy hy=>by
 have:=j.a;rw[jb h1 e]at this hy;rcases List.mem_append.mp hy with hy|hy
 ·exact(List.pairwise_append.mp this).2.2 y hy x (List.mem_singleton.mpr rfl)
 ·rw[List.mem_singleton.mp hy];exact Nat.le_refl _
theorem W.Se{x:Keyed}(j:W ρ L a b out na nb)(h1:1<=nb)(e:b[nb-1]?=some x):∀y∈b.toList.take nb,ρ y<=ρ x:=λy hy=>by
 have:=j.b;rw[jb h1 e]at this hy;rcases List.mem_append.mp hy with hy|hy
 ·exact(List.pairwise_append.mp this).2.2 y hy x (List.mem_singleton.mpr rfl)
 ·rw[List.mem_singleton.mp hy];exact Nat.le_refl _
def dh(ρ:Keyed->Nat)(L:List Keyed)(a b:Array Keyed)(t:Nat)(out:Array Keyed)(na nb:Nat):Prop:=W ρ L a b out na nb/\1<=na/\2<=nb/\na<=a.size/\nb<=b.size/\na+nb+t<=a.size+b.size
def PH(ρ:Keyed->Nat)(L:List Keyed)(a b:Array Keyed)(t:Nat)(bX:SortSt)(r:ForInStep HS)(st:SortSt):Prop:=Kp bX st/\match r with
 | .done c=>(∃arr,c.1=some arr/\Good ρ L arr.toList)\/(c.1=none/\dh ρ L a b t c.2.2.2.1 c.2.1 c.2.2.1)
 | .yield c=>c.1=none/\dh ρ L a b t c.2.2.2.1 c.2.1 c.2.2.1
theorem uR{st bX:SortSt}{g k k1 t:Nat}(T:u5 ρ P a b)(hK:Kp bX st)(j:W ρ L a b out na nb)(h1:1<=na)(h2:2<=nb)(h3:na<=a.size)(h4:nb<=b.size)(ht:na+nb+t<=a.size+b.size)
  (h:∀x,a[na-1]?=some x->∀y∈b.toList.take nb,ρ y<=ρ x):wpS M Ar E s (FA a b out na nb g k k1) (PH ρ L a b t bX) st:=by
 unfold FA;obtain⟨y,ey,py⟩:=cQ T.pa (show na-1<a.size by omega)
 refine wpS_bind (aV ey ?_);have j':=j.oo h1 ey (h y ey)
 by_cases e:na-1=0
 ·rw[if_pos (by simpa using e)]
  exact wpS_pure ⟨hK,.inl ⟨_,rfl,j'.gh e⟩⟩
 ·rw[if_neg (by simpa using e)]
  have lf:dh ρ L a b t (out.push y) (na-1) nb:=⟨j',by omega,h2,by omega,h4,by omega⟩
  split
  ·exact wpS_pure ⟨hK,.inr ⟨rfl,lf⟩⟩
  ·exact wpS_pure ⟨hK,rfl,lf⟩
theorem uQ{st bX:SortSt}{g k bc t:Nat}(hL:fm M Ar E s ρ kd P)(hk:kindOf bX=kd)(T:u5 ρ P a b)(hK:Kp bX st)(j:W ρ L a b out na nb)(h1:1<=na)(h2:2<=nb)(h3:na<=a.size)(h4:nb<=b.size)(ht:na+nb+t<=a.size+b.size)
  (h:∀x,b[nb-1]?=some x->∀y∈a.toList.take na,ρ y<=ρ x):wpS M Ar E s (Fz a b out na nb g k bc) (PH ρ L a b t bX) st:=by
 unfold Fz;obtain⟨x,ex,px⟩:=cQ T.pb (show nb-1<b.size by omega)
 obtain⟨y,ey,py⟩:=cQ T.pa (show na-1<a.size by omega)
 refine wpS_bind (aV ex ?_);have j':=j.oq ⋯ ex (h x ex)
 by_cases e:nb-1=1
 ·rw[if_pos (by simpa using e)]
  exact wpS_pure ⟨hK,.inl ⟨_,rfl,j'.pF e T.b1 T.y⟩⟩
 ·rw[if_neg (by simpa using e)]
  refine wpS_bind (aV ey ?_);refine wpS_bind (Eo hL (hK.k.trans hk) py T.pb T.sb ⋯ ⋯ λk1 pN q1 q2=>?_)
  dsimp only;have j2:=j'.iA pN λx hx z hz=>Nat.le_trans (j'.Sb h1 ey z hz) (q2 x hx)
  by_cases w8:nb-1-k1>0
  ·rw[if_pos w8]
   by_cases e2:k1=1
   ·rw[if_pos (by simpa using e2)]
    exact wpS_pure ⟨hK,.inl ⟨_,rfl,j2.pF e2 T.b1 T.y⟩⟩
   ·rw[if_neg (by simpa using e2)]
    by_cases e3:k1=0
    ·rw[if_pos (by simpa using e3)]
     exact wpS_pure ⟨hK,.inl ⟨_,rfl,j2.gj e3⟩⟩
    ·rw[if_neg (by simpa using e3)]
     exact uR T hK j2 h1 ⋯ h3 ⋯ ⋯ λx' j8 z hz=>by rw[ey]at j8;cases j8;exact Nat.le_of_lt (q1 z hz)
  ·rw[if_neg w8]
   have:k1=nb-1:=by omega
   subst this;exact uR T hK j' h1 ⋯ h3 ⋯ ⋯ λx' j8 z hz=>by rw[ey]at j8;cases j8;exact Nat.le_of_lt (q1 z hz)
theorem El{st bX:SortSt}{g ac bc t:Nat}(hL:fm M Ar E s ρ kd P)(hk:kindOf bX=kd)(T:u5 ρ P a b)(hK:Kp bX st)(j:dh ρ L a b t out na nb):wpS M Ar E s (BO a b out na nb g ac bc) (PH ρ L a b t bX) st:=by
 obtain⟨j,h1,h2,h3,h4,ht⟩:=j;unfold BO;obtain⟨x,ex,px⟩:=cQ T.pb (show nb-1<b.size by omega)
 refine wpS_bind (aV ex ?_);refine wpS_bind (Ep hL (hK.k.trans hk) px T.pa T.sa h3 h1 λk pN q1 q2=>?_);dsimp only;have j2:=j.iy pN λz hz y hy=>Nat.le_trans (j.Se ⋯ ex y hy) (Nat.le_of_lt (q2 z hz))
 by_cases w8:na-k>0
 ·rw[if_pos w8]
  by_cases e:k=0
  ·rw[if_pos (by simpa using e)]
   exact wpS_pure ⟨hK,.inl ⟨_,rfl,j2.gh e⟩⟩
  ·rw[if_neg (by simpa using e)]
   exact uQ hL hk T hK j2 ⋯ h2 ⋯ h4 ⋯ λx' j8 z hz=>by rw[ex]at j8;cases j8;exact q1 z hz
 ·rw[if_neg w8]
  have:k=na:=by omega
  subst this;exact uQ hL hk T hK j h1 h2 h3 h4 ht λx' j8 z hz=>by rw[ex]at j8;cases j8;exact q1 z hz
abbrev HI:=Option (Array Keyed)×Nat×Nat×Array Keyed×Nat×Nat
abbrev HQ:=Option (Array Keyed)×Nat×Nat×Array Keyed×Nat
def XJ(a b:Array Keyed)(g:Nat)(c:HI):StateT SortSt Sem (ForInStep HI):=do
 let x <- elem' b (c.2.2.1-1)
 let y <- elem' a (c.2.1-1)
 let r <- lt' x y
 match r with
 | some w =>
  if w=true then do
   let y <- elem' a (c.2.1-1)
   if(c.2.1-1==0)=true then pure (ForInStep.done (some (a.extract 0 (c.2.1-1)++b.extract 0 c.2.2.1++(c.2.2.2.1.push y).reverse),c.2.1-1,c.2.2.1,c.2.2.2.1.push y,c.2.2.2.2.1+1,0))
   else if c.2.2.2.2.1+1>=g then pure (ForInStep.done (none,c.2.1-1,c.2.2.1,c.2.2.2.1.push y,c.2.2.2.2.1+1,0))
   else pure (ForInStep.yield (none,c.2.1-1,c.2.2.1,c.2.2.2.1.push y,c.2.2.2.2.1+1,0))
  else do
   let x <- elem' b (c.2.2.1-1)
   if(c.2.2.1-1==1)=true then pure (ForInStep.done (some (b.extract 0 (c.2.2.1-1)++a.extract 0 c.2.1++(c.2.2.2.1.push x).reverse),c.2.1,c.2.2.1-1,c.2.2.2.1.push x,0,c.2.2.2.2.2+1))
   else if c.2.2.2.2.2+1>=g then pure (ForInStep.done (none,c.2.1,c.2.2.1-1,c.2.2.2.1.push x,0,c.2.2.2.2.2+1))
   else pure (ForInStep.yield (none,c.2.1,c.2.2.1-1,c.2.2.2.1.push x,0,c.2.2.2.2.2+1))
 | _=>pure (ForInStep.done (some (a.extract 0 c.2.1++b.extract 0 c.2.2.1++c.2.2.2.1.reverse),c.2.1,c.2.2.1,c.2.2.2.1,c.2.2.2.2.1,c.2.2.2.2.2))
def ZN(a b:Array Keyed)(c:HS):StateT SortSt Sem (ForInStep HS):=
 if c.2.2.2.2.1>1 then do
  dW (c.2.2.2.2.1-1)
  BO a b c.2.2.2.1 c.2.1 c.2.2.1 (c.2.2.2.2.1-1) c.2.2.2.2.2.1 c.2.2.2.2.2.2
 else do
  dW c.2.2.2.2.1
  BO a b c.2.2.2.1 c.2.1 c.2.2.1 c.2.2.2.2.1 c.2.2.2.2.2.1 c.2.2.2.2.2.2
def ZM(r:HS):StateT SortSt Sem (ForInStep HQ):=
 match r.1 with
 | some arr=>pure (ForInStep.done (some arr,r.2.1,r.2.2.1,r.2.2.2.1,r.2.2.2.2.1))
 | none=>do
  dW (r.2.2.2.2.1+1)
  pure (ForInStep.yield (none,r.2.1,r.2.2.1,r.2.2.2.1,r.2.2.2.2.1+1))
def XM(a b:Array Keyed)(g:Nat)(r:HI):StateT SortSt Sem (ForInStep HQ):=
 match r.1 with
 | some arr=>pure (ForInStep.done (some arr,r.2.1,r.2.2.1,r.2.2.2.1,g))
 | none=>do
  liftM (rule "list.sort.gallop")
  let r2 <- forIn [0:a.size+b.size] ((none,r.2.1,r.2.2.1,r.2.2.2.1,g+1,r.2.2.2.2.1,r.2.2.2.2.2):HS) λ_ t=>ZN a b t
  ZM r2
def XN(a b:Array Keyed)(c:HQ):StateT SortSt Sem (ForInStep HQ):=do
 let r <- forIn [0:a.size+b.size] ((none,c.2.1,c.2.2.1,c.2.2.2.1,0,0):HI) λ_ r=>XJ a b c.2.2.2.2 r
 XM a b c.2.2.2.2 r
def hiZ(r:HQ):StateT SortSt Sem (Array Keyed):=
 match r.1 with
 | some arr=>pure arr
 | none=>unsupported "internal:list.sort.merge-bound"
theorem pZ(a b:Array Keyed):lR a b=(do
 liftM (rule "list.sort.merge-hi")
 let x <- elem' a (a.size-1)
 if(a.size-1==0)=true then pure (a.extract 0 (a.size-1)++b.extract 0 b.size++(#[x]:Array Keyed).reverse)
 else if(b.size==1)=true then pure (b.extract 0 b.size++a.extract 0 (a.size-1)++(#[x]:Array Keyed).reverse)
 else do
  let st <- get
  let r <- forIn [0:a.size+b.size] ((none,a.size-1,b.size,#[x],gallopOf st):HQ) λ_ r=>XN a b r
  hiZ r):=by kernel_rfl
theorem Hn{bX st:SortSt}{g n m:Nat}{c:HI}(hL:fm M Ar E s ρ kd P)(hk:kindOf bX=kd)(T:u5 ρ P a b)(hK:Kp bX st)(j:dh ρ L a b (n+1+min m 1) c.2.2.2.1 c.2.1 c.2.2.1):
  wpS M Ar E s (XJ a b g c) (λr az=>Kp bX az/\match r with
   | .done c=>(∃arr,c.1=some arr/\Good ρ L arr.toList)\/(c.1=none/\dh ρ L a b (n+1+1) c.2.2.2.1 c.2.1 c.2.2.1)
   | .yield c=>c.1=none/\dh ρ L a b (n+1+min (m+1) 1) c.2.2.2.1 c.2.1 c.2.2.1) st:=by
 obtain⟨ret,na,nb,out,ac,bc⟩:=c;obtain⟨j,l1,l2,l3,l4,l5⟩:=j;dsimp only at j l1 l2 l3 l4 l5;unfold XJ;dsimp only;obtain⟨x,ex,px⟩:=cQ T.pb (show nb-1<b.size by omega)
 obtain⟨y,ey,py⟩:=cQ T.pa (show na-1<a.size by omega)
 refine wpS_bind (aV ex (wpS_bind (aV ey (wpS_bind (hL x y st _ px py (hK.k.trans hk) ?_)))))
 by_cases fy:ρ x<ρ y
 ·rw[decide_eq_true fy]
  refine wpS_bind (aV ey ?_);have j':=j.oo l1 ey λz hz=>Nat.le_trans (j.Se ⋯ ex z hz) (Nat.le_of_lt fy)
  by_cases e:na-1=0
  ·rw[if_pos (by simpa using e)]
   exact wpS_pure ⟨hK,.inl ⟨_,rfl,j'.gh e⟩⟩
  ·rw[if_neg (by simpa using e)]
   split
   ·exact wpS_pure ⟨hK,.inr ⟨rfl,j',by show 1<=na-1;omega,l2,by show na-1<=a.size;omega,l4,by show na-1+nb+(n+1+1)<=_;omega⟩⟩
   ·exact wpS_pure ⟨hK,rfl,j',by show 1<=na-1;omega,l2,by show na-1<=a.size;omega,l4,by show na-1+nb+(n+1+min (m+1) 1)<=_;omega⟩
 ·rw[decide_eq_false fy]
  refine wpS_bind (aV ex ?_);have j':=j.oq ⋯ ex λz hz=>Nat.le_trans (j.Sb l1 ey z hz) (Nat.not_lt.mp fy)
  by_cases e:nb-1=1
  ·rw[if_pos (by simpa using e)]
   exact wpS_pure ⟨hK,.inl ⟨_,rfl,j'.pF e T.b1 T.y⟩⟩
  ·rw[if_neg (by simpa using e)]
   split
   ·exact wpS_pure ⟨hK,.inr ⟨rfl,j',l1,by show 2<=nb-1;omega,l3,by show nb-1<=b.size;omega,by show na+(nb-1)+(n+1+1)<=_;omega⟩⟩
   ·exact wpS_pure ⟨hK,rfl,j',l1,by show 2<=nb-1;omega,l3,by show nb-1<=b.size;omega,by show na+(nb-1)+(n+1+min (m+1) 1)<=_;omega⟩
def Zi(ρ:Keyed->Nat)(L:List Keyed)(a b:Array Keyed)(t:Nat)(bX:SortSt)(r:ForInStep HQ)(st:SortSt):Prop:=match r with
 | .done c=>Kp bX st/\∃arr,c.1=some arr/\Good ρ L arr.toList
 | .yield c=>Kp bX st/\c.1=none/\dh ρ L a b t c.2.2.2.1 c.2.1 c.2.2.1
theorem Ho{bX st:SortSt}{g n:Nat}{r:HI}(hL:fm M Ar E s ρ kd P)(hk:kindOf bX=kd)(T:u5 ρ P a b)(hK:Kp bX st)
  (h:(∃arr,r.1=some arr/\Good ρ L arr.toList)\/(r.1=none/\dh ρ L a b (n+1+1) r.2.2.2.1 r.2.1 r.2.2.1)):wpS M Ar E s (XM a b g r) (Zi ρ L a b (n+1+1) bX) st:=by
 obtain⟨ret,r⟩:=r;unfold XM;rcases h with⟨arr,h1,h2⟩|⟨h1,hl⟩
 ·dsimp only at h1
  subst h1;exact wpS_pure ⟨hK,arr,rfl,h2⟩
 ·dsimp only at h1 hl
  subst h1;refine wpS_bind (wpS_lift (wpAny_rule ⟨rfl,?_⟩));refine wpS_bind (wpS_mono (wpS_forRange (I:=λx c az=>Kp bX az/\c.1=none/\dh ρ L a b (n+1+1) c.2.2.2.1 c.2.1 c.2.2.1)
   (Q:=λc az=>Kp bX az/\((∃arr,c.1=some arr/\Good ρ L arr.toList)\/(c.1=none/\dh ρ L a b (n+1+1) c.2.2.2.1 c.2.1 c.2.2.1))) ?gstep ?gfin ⟨hK,rfl,hl⟩) ?gpost)
  case gfin =>
   rintro c az ⟨hK,h1,hl⟩;exact⟨hK,.inr ⟨h1,hl⟩⟩
  case gstep =>
   rintro m c az _ hm ⟨hK,h1,hl⟩;have go:∀g,wpS M Ar E s (do dW g;BO a b c.2.2.2.1 c.2.1 c.2.2.1 g c.2.2.2.2.2.1 c.2.2.2.2.2.2) (λr cP=>match r with
     | .done c=>Kp bX cP/\((∃arr,c.1=some arr/\Good ρ L arr.toList)\/(c.1=none/\dh ρ L a b (n+1+1) c.2.2.2.1 c.2.1 c.2.2.1))
     | .yield c=>Kp bX cP/\c.1=none/\dh ρ L a b (n+1+1) c.2.2.2.1 c.2.1 c.2.2.1) az:=λg=>by
    rw[dP];refine wpS_bind (wpS_modify (wpS_mono (El hL hk T (hK.min g) hl) λr cP hr=>?_));obtain⟨k1,k2⟩:=hr;cases r with
    | done c=>exact⟨k1,k2⟩
    | yield c=>exact⟨k1,k2⟩
   unfold ZN
   split
   ·refine wpS_mono (go _) λr cP hr=>?_
    cases r<;>exact hr
   ·refine wpS_mono (go _) λr cP hr=>?_
    cases r<;>exact hr
  case gpost =>
   rintro⟨ret,r⟩ az ⟨hK,⟨arr,h1,h2⟩|⟨h1,hl⟩⟩
   ·dsimp only at h1
    subst h1;exact wpS_pure ⟨hK,arr,rfl,h2⟩
   ·dsimp only at h1 hl
    subst h1;unfold ZM;rw[dP];exact wpS_bind (wpS_modify (wpS_pure ⟨hK.min _,rfl,hl⟩))
theorem Hq{bX st:SortSt}{n:Nat}{c:HQ}(hL:fm M Ar E s ρ kd P)(hk:kindOf bX=kd)(T:u5 ρ P a b)(hn:0<a.size+b.size)(hK:Kp bX st)(hl:dh ρ L a b (n+1) c.2.2.2.1 c.2.1 c.2.2.1):wpS M Ar E s (XN a b c) (Zi ρ L a b (n+1+1) bX) st:=by
 unfold XN;refine wpS_bind (wpS_mono (wpS_forRange (I:=λx c az=>Kp bX az/\c.1=none/\dh ρ L a b (n+1+min x 1) c.2.2.2.1 c.2.1 c.2.2.1)
  (Q:=λc az=>Kp bX az/\((∃arr,c.1=some arr/\Good ρ L arr.toList)\/(c.1=none/\dh ρ L a b (n+1+1) c.2.2.2.1 c.2.1 c.2.2.1))) ?istep ?ifin ⟨hK,rfl,by simpa using hl⟩) ?ipost)
 case ifin =>
  rintro c az ⟨hK,h1,hl⟩;rw[show min (max 0 (a.size+b.size)) 1=1 by omega]at hl
  exact⟨hK,.inr ⟨h1,hl⟩⟩
 case istep =>
  rintro m c az _ hm ⟨hK,h1,hl⟩;refine wpS_mono (Hn hL hk T hK hl) λr cP hr=>?_;obtain⟨k1,k2⟩:=hr;cases r with
  | done c=>exact⟨k1,k2⟩
  | yield c=>exact⟨k1,k2⟩
 case ipost =>
  rintro r az ⟨hK,h⟩;exact Ho hL hk T hK h
theorem uV{st:SortSt}{Q:Array Keyed->SortSt->Prop}(hL:fm M Ar E s ρ kd P)(hk:kindOf st=kd)(T:u5 ρ P a b)
  (q:∀r az,Kp st az->Good ρ (a.toList++b.toList) r.toList->Q r az):wpS M Ar E s (lR a b) Q st:=by
 rw[pZ];have b1:=T.b1;have a1:=T.a1;refine wpS_bind (wpS_lift (wpAny_rule ⟨rfl,?_⟩));obtain⟨x,ex,px⟩:=cQ T.pa (show a.size-1<a.size by omega)
 refine wpS_bind (aV ex ?_);have j0:W ρ (a.toList++b.toList) a b #[] a.size b.size:=by
  have e1:a.toList.take a.size=a.toList:=List.take_of_length_le (Nat.le_refl _);have e2:b.toList.take b.size=b.toList:=List.take_of_length_le (Nat.le_refl _);unfold W;rw[e1,e2];exact⟨List.Pairwise.nil,T.sa,T.sb,(λx hx y hy=>by cases hy),(λx hx y hy=>by cases hy),by simp⟩
 have j1:W ρ (a.toList++b.toList) a b #[x] (a.size-1) b.size:=by simpa using j0.oo a1 ex λy hy=>T.z y (List.mem_of_mem_take hy) x ex
 by_cases e:a.size-1=0
 ·rw[if_pos (by simpa using e)]
  exact wpS_pure (q _ st .refl (by simpa using j1.gh e))
 ·rw[if_neg (by simpa using e)]
  by_cases e2:b.size=1
  ·rw[if_pos (by simpa using e2)]
   exact wpS_pure (q _ st .refl (by simpa using j1.pF e2 T.b1 T.y))
  ·rw[if_neg (by simpa using e2)]
   refine wpS_bind (wpS_get ?_);refine wpS_bind (wpS_mono (wpS_forRange (I:=λx c az=>Kp st az/\c.1=none/\dh ρ (a.toList++b.toList) a b (x+1) c.2.2.2.1 c.2.1 c.2.2.1)
    (Q:=λc az=>Kp st az/\∃arr,c.1=some arr/\Good ρ (a.toList++b.toList) arr.toList) ?step ?fin ⟨.refl,rfl,j1,by show 1<=a.size-1;omega,by show 2<=b.size;omega,by show a.size-1<=a.size;omega,by show b.size<=b.size;omega,by show a.size-1+b.size+(0+1)<=_;omega⟩) ?post)
   case fin =>
    rintro⟨ret,na,nb,out,g⟩ az ⟨hK,h1,j,h2,h3,h4,h5,h6⟩;dsimp only at h2 h3 h4 h5 h6;omega
   case post =>
    rintro⟨ret,r⟩ az ⟨hK,arr,h1,h2⟩;dsimp only at h1;subst h1;exact wpS_pure (q arr az hK h2)
   case step =>
    rintro n c az _ hn ⟨hK,h1,hl⟩;refine wpS_mono (Hq hL hk T ⋯ hK hl) λr cP hr=>?_
    cases r with
    | done c=>exact hr
    | yield c=>exact hr
end
end Vs
namespace Vs
open PySem PyProof.Rows
abbrev Run:=Nat×Nat×Nat
theorem tS(i:Nat):mergeAt' i=(do
 let s <- get
 let (some (sa,na,power),some (sb,nb,_)):=((pendingOf s)[i]?,(pendingOf s)[i+1]?)|unsupported "internal:list.sort.pending"
 set (setPending s (((pendingOf s).setIfInBounds i (sa,na+nb,power)).eraseIdxIfInBounds (i+1)))
 let some k <- b9 false (<- elem' (arrOf s) sb) (arrOf s) sa na 0|return false
 let (sa,na):=(sa+k,na-k)
 if na==0 then return true
 let some nb <- b9 true (<- elem' (arrOf s) (sa+na-1)) (arrOf s) sb nb (nb-1)|return false
 if nb==0 then return true
 let x:=(arrOf s).extract sa sb
 let y:=(arrOf s).extract sb (sb+nb)
 let merged <- if na<=nb then lU x y else lR x y
 modify λs=>setArr s (merged.toList.zipIdx.foldl (λa (p,j)=>a.setIfInBounds (sa+j) p) (arrOf s))
 return(failedOf (<- get)).isNone):=rfl
def Ch(ρ:Keyed->Nat)(xs:Array Keyed):Nat->Nat->List Run->Prop
 | s,e,[]=>s=e
 | s,e,r::rs=>r.1=s/\1<=r.2.1/\Seg ρ xs s (s+r.2.1)/\Ch ρ xs (s+r.2.1) e rs
theorem Ch.app{ρ:Keyed->Nat}{xs:Array Keyed}:∀ {l m:List Run} {s e:Nat},Ch ρ xs s e (l++m) ↔ ∃t,Ch ρ xs s t l/\Ch ρ xs t e m
 | [],m,s,e=>⟨λh=>⟨s,rfl,h⟩,λ⟨t,h1,h2⟩=>by cases h1;exact h2⟩
 | r::l,m,s,e=>by
  constructor
  ·rintro⟨h1,h2,h3,h4⟩
   obtain⟨t,h5,h6⟩:=Ch.app.mp h4;exact⟨t,⟨h1,h2,h3,h5⟩,h6⟩
  ·rintro⟨t,⟨h1,h2,h3,h5⟩,h6⟩
   exact⟨h1,h2,h3,Ch.app.mpr ⟨t,h5,h6⟩⟩
theorem Ch.le{ρ:Keyed->Nat}{xs:Array Keyed}:∀ {l:List Run} {s e:Nat},Ch ρ xs s e l->s+l.length<=e
 | [],s,e,h=>by cases h;exact Nat.le_refl _
 | r::l,s,e,⟨_,h2,_,h4⟩=>by have:=Ch.le h4;simp only[List.length_cons];omega
theorem Seg.congr{ρ:Keyed->Nat}{xs ys:Array Keyed}{lo hi:Nat}(h:Seg ρ xs lo hi)(e:∀k,lo<=k->k<hi->ys[k]?=xs[k]?):Seg ρ ys lo hi:=λi j h1 h2 h3=>by
 rw[fL (e i h1 ⋯),fL (e j ⋯ h3)];exact h i j h1 h2 h3
theorem Ch.congr{ρ:Keyed->Nat}{xs ys:Array Keyed}:∀ {l:List Run} {s e:Nat},Ch ρ xs s e l->(∀k,s<=k->k<e->ys[k]?=xs[k]?)->Ch ρ ys s e l
 | [],s,e,h,_=>h
 | r::l,s,e,⟨h1,h2,h3,h4⟩,q=>by
  have:=Ch.le h4;exact⟨h1,h2,h3.congr λk a b=>q k a ⋯,Ch.congr h4 λk a b=>q k ⋯ b⟩
theorem qo(off:Nat):∀(m:List Keyed) (n:Nat) (xs:Array Keyed),off+n+m.length<=xs.size->∀k:Nat,
  ((m.zipIdx n).foldl (λa (p,j)=>a.setIfInBounds (off+j) p) xs)[k]?=(if off+n<=k/\k<off+n+m.length then m[k-(off+n)]? else xs[k]?)/\((m.zipIdx n).foldl (λa (p,j)=>a.setIfInBounds (off+j) p) xs).size=xs.size
 | [],n,xs,h,k=>⟨by rw[if_neg (by simp only[List.length_nil];omega)];rfl,rfl⟩
 | p::m,n,xs,h,k=>by
  simp only[List.length_cons]at h;rw[List.zipIdx_cons,List.foldl_cons];have ih:=qo off m (n+1) (xs.setIfInBounds (off+n) p) (by rw[Array.size_setIfInBounds];omega) k
  refine⟨?_,by rw[ih.2,Array.size_setIfInBounds]⟩
  rw[ih.1];simp only[List.length_cons]
  by_cases h1:off+(n+1)<=k/\k<off+(n+1)+m.length
  ·rw[if_pos h1,if_pos ⋯,show k-(off+n)=k-(off+(n+1))+1 by omega,List.getElem?_cons_succ]
  ·rw[if_neg h1]
   by_cases h2:k=off+n
   ·subst h2
    rw[if_pos ⋯,Nat.sub_self,List.getElem?_cons_zero,Array.getElem?_setIfInBounds_self_of_lt ⋯]
   ·rw[if_neg ⋯,Array.getElem?_setIfInBounds_ne ⋯]
theorem Dq{off:Nat}{m:List Keyed}{xs:Array Keyed}(h:off+m.length<=xs.size)(hp:m.Perm ((xs.toList.drop off).take m.length)):(m.zipIdx.foldl (λa (p,j)=>a.setIfInBounds (off+j) p) xs).Perm xs:=by
 rw[Array.perm_iff_toList_perm];have e:(m.zipIdx.foldl (λa (p,j)=>a.setIfInBounds (off+j) p) xs).toList=xs.toList.take off++(m++xs.toList.drop (off+m.length)):=by
  apply List.ext_getElem?;intro k;have:=(qo off m 0 xs (by simpa using h) k).1
  rw[Nat.add_zero]at this;rw[Array.getElem?_toList,this];have hl:(xs.toList.take off).length=off:=by rw[List.length_take];have:xs.toList.length=xs.size:=rfl;omega
  by_cases h1:k<off
  ·rw[if_neg ⋯,List.getElem?_append_left ⋯,List.getElem?_take_of_lt h1,Array.getElem?_toList]
  ·rw[List.getElem?_append_right ⋯,hl]
   by_cases h2:k<off+m.length
   ·rw[if_pos ⋯,List.getElem?_append_left ⋯]
   ·rw[if_neg ⋯,List.getElem?_append_right ⋯,List.getElem?_drop,show off+m.length+(k-off-m.length)=k by omega,Array.getElem?_toList]
 rw[e];have e2:xs.toList=xs.toList.take off++((xs.toList.drop off).take m.length++xs.toList.drop (off+m.length)):=by
  rw[<- List.drop_drop,List.take_append_drop,List.take_append_drop]
 exact(List.Perm.append_left _ (List.Perm.append_right _ hp)).trans (by rw[<- e2])
theorem mC{ρ:Keyed->Nat}{xs:Array Keyed}{i j:Nat}(h:Seg ρ xs i j)(hj:j<=xs.size):So ρ (xs.extract i j).toList:=by
 refine List.pairwise_iff_getElem.mpr λp q hp hq hpq=>?_;rw[kQ,List.length_drop,List.length_take]at hq;have hs:xs.toList.length=xs.size:=rfl;have:=h (i+p) (i+q) ⋯ ⋯ ⋯
 have e1:xs[i+p]?=some ((xs.extract i j).toList[p]):=by
  rw[Array.getElem?_eq_getElem ⋯];simp
 have e2:xs[i+q]?=some ((xs.extract i j).toList[q]):=by
  rw[Array.getElem?_eq_getElem ⋯];simp
 rw[cF e1,cF e2]at this;exact this
theorem Bh{xs:Array Keyed}{i j m:Nat}(h:i+m<j)(hj:j<=xs.size):(xs.extract i j)[m]?=xs[i+m]?:=by
 rw[Array.getElem?_extract];rw[if_pos ⋯]
theorem gA{xs:Array Keyed}{i j:Nat}{x:Keyed}(h:x∈(xs.extract i j).toList):∃m,i<=m/\m<j/\m<xs.size/\xs[m]?=some x:=by
 rw[kQ]at h;exact fI h
section
variable {M:Model}{Ar:Around}{E:Value->Shared->Prop}{s:Shared}{ρ:Keyed->Nat}{kd:SortKind}{P:Keyed->Prop}{a₀:Array Keyed}
theorem Hm{key:Keyed}{arr:Array Keyed}{base n hint:Nat}{st:SortSt}{Q:Option Nat->SortSt->Prop}(hL:fm M Ar E s ρ kd P)(hk:kindOf st=kd)(pk:P key)(pa:∀i,i<n->∃x,arr[base+i]?=some x/\P x)(hs:Seg ρ arr base (base+n))(hn:hint<n)
  (q:∀k,k<=n->(∀i,base<=i->i<base+k->R ρ arr i<=ρ key)->(∀i,base+k<=i->i<base+n->ρ key<R ρ arr i)->Q (some k) st):wpS M Ar E s (b9 false key arr base n hint) Q st:=by
 refine dc (tells hL hk pk pa) (λi j jy hj h=>?_) hn λk pN h1 h2=>q k pN (λi hi FH=>?_) λi hi FH=>?_
 ·have:=hs (base+i) (base+j) ⋯ ⋯ ⋯
  simp only[nE,Bool.false_eq_true,if_false,Bool.not_eq_true',decide_eq_false_iff_not]at h ⊢;omega
 ·have:=h1 (i-base) ⋯
  simp only[nE,Bool.false_eq_true,if_false,Bool.not_eq_true',decide_eq_false_iff_not,show base+(i-base)=i by omega]at this
  omega
 ·have:=h2 (i-base) ⋯ ⋯
  simp only[nE,Bool.false_eq_true,if_false,show base+(i-base)=i by omega,Bool.not_eq_false',decide_eq_true_eq]at this
  exact this
theorem Hl{key:Keyed}{arr:Array Keyed}{base n hint:Nat}{st:SortSt}{Q:Option Nat->SortSt->Prop}(hL:fm M Ar E s ρ kd P)(hk:kindOf st=kd)(pk:P key)(pa:∀i,i<n->∃x,arr[base+i]?=some x/\P x)(hs:Seg ρ arr base (base+n))(hn:hint<n)
  (q:∀k,k<=n->(∀i,base<=i->i<base+k->R ρ arr i<ρ key)->(∀i,base+k<=i->i<base+n->ρ key<=R ρ arr i)->Q (some k) st):wpS M Ar E s (b9 true key arr base n hint) Q st:=by
 refine dc (tells hL hk pk pa) (λi j jy hj h=>?_) hn λk pN h1 h2=>q k pN (λi hi FH=>?_) λi hi FH=>?_
 ·have:=hs (base+i) (base+j) ⋯ ⋯ ⋯
  simp only[nE,if_true,decide_eq_true_eq]at h ⊢;omega
 ·have:=h1 (i-base) ⋯
  simp only[nE,if_true,decide_eq_true_eq,show base+(i-base)=i by omega]at this
  exact this
 ·have:=h2 (i-base) ⋯ ⋯
  simp only[nE,if_true,show base+(i-base)=i by omega,decide_eq_false_iff_not]at this
  omega
theorem Hv{st az:SortSt}{Q:PUnit->SortSt->Prop}(h:Q ⟨⟩ az):wpS M Ar E s (set az:StateT SortSt Sem PUnit) Q st:=by
 unfold wpS;rw[StateT.run_set];exact wpAny_pure ⟨rfl,h⟩
theorem PV{l:List Run}{i:Nat}(h:i+1<l.length):∃pre x y post,l=pre++x::y::post/\pre.length=i:=by
 refine⟨l.take i,l[i],l[i+1],l.drop (i+2),?_,by rw[List.length_take];omega⟩
 have e:=(List.take_append_drop i l).symm;rw[List.drop_eq_getElem_cons ⋯,List.drop_eq_getElem_cons h]at e
 exact e
theorem ky{st:SortSt}{i lo:Nat}{Q:Bool->SortSt->Prop}(hL:fm M Ar E s ρ kd P)(h0:∀p∈a₀.toList,P p)(hB:SI kd a₀ st)(u9:lo<=a₀.size)(hc:Ch ρ (arrOf st) 0 lo (pendingOf st).toList)(hi:i+1<(pendingOf st).size)
  (q:∀az,SI kd a₀ az->Ch ρ (arrOf az) 0 lo (pendingOf az).toList->(pendingOf az).size+1=(pendingOf st).size->(∀k,lo<=k->(arrOf az)[k]?=(arrOf st)[k]?)->Q true az):wpS M Ar E s (mergeAt' i) Q st:=by
 rw[tS];refine wpS_bind (wpS_get ?_);obtain⟨pre,⟨sa,na,pw⟩,⟨sb,nb,pw2⟩,post,el,d2⟩:=PV (l:=(pendingOf st).toList) (i:=i) (by simpa using hi)
 have e1:(pendingOf st)[i]?=some (sa,na,pw):=by
  rw[<- Array.getElem?_toList,el,List.getElem?_append_right ⋯,d2,Nat.sub_self];rfl
 have e2:(pendingOf st)[i+1]?=some (sb,nb,pw2):=by
  rw[<- Array.getElem?_toList,el,List.getElem?_append_right ⋯,d2,Nat.add_sub_cancel_left];rfl
 have Cg:(((pendingOf st).setIfInBounds i (sa,na+nb,pw)).eraseIdxIfInBounds (i+1)).toList=pre++(sa,na+nb,pw)::post:=by
  have hs:i+1<((pendingOf st).setIfInBounds i (sa,na+nb,pw)).size:=by rw[Array.size_setIfInBounds];exact hi
  rw[Array.eraseIdxIfInBounds,dif_pos hs,Array.toList_eraseIdx,Array.toList_setIfInBounds,el,<- d2];rw[List.set_append_right _ _ (Nat.le_refl _),Nat.sub_self,List.set_cons_zero,List.eraseIdx_append_of_length_le (Nat.le_succ _),show pre.length.succ-pre.length=1 by omega]
  rfl
 have Te:(((pendingOf st).setIfInBounds i (sa,na+nb,pw)).eraseIdxIfInBounds (i+1)).size+1=(pendingOf st).size:=by
  have a1:(((pendingOf st).setIfInBounds i (sa,na+nb,pw)).eraseIdxIfInBounds (i+1)).toList.length=(pre++(sa,na+nb,pw)::post).length:=by rw[Cg]
  have a2:(pendingOf st).toList.length=(pre++(sa,na,pw)::(sb,nb,pw2)::post).length:=by rw[el]
  simp only[List.length_append,List.length_cons,Array.length_toList]at a1 a2;omega
 rw[e1,e2];dsimp only;refine wpS_bind (Hv ?_);rw[el]at hc;obtain⟨t,c1,⟨rfl,c3,c4,rfl,c6,c7,c8⟩⟩:=Ch.app.mp hc;dsimp only at c1 c3 c4 c6 c7 c8 Cg e1 e2 Te ⊢;have hle:=Ch.le c8;have hsz:=hB.size;have Rg:∀k,k<a₀.size->∃x,(arrOf st)[k]?=some x/\P x:=λk hk=>hB.at h0 hk;obtain⟨b0,eb,pb⟩:=Rg (sa+na) ⋯
 refine wpS_bind (aV eb ?_);refine wpS_bind (Hm hL hB.kind pb (λi hi=>Rg _ ⋯) c4 ⋯ λk hk g1 g2=>?_)
 dsimp only
 -- the whole of both,from what becomes of the array
 have fin:∀(ys:Array Keyed) (az:SortSt),arrOf az=ys->pendingOf az=((pendingOf st).setIfInBounds i (sa,na+nb,pw)).eraseIdxIfInBounds (i+1)->kindOf az=kd->failedOf az=none->ys.Perm (arrOf st) ->
   (∀k,k<sa\/sa+na+nb<=k->ys[k]?=(arrOf st)[k]?)->Seg ρ ys sa (sa+na+nb)->Q true az:=λys az h1 h2 h3 h4 h5 h6 h7=>by
  refine q az ⟨by rw[h1];exact h5.trans hB.perm,h3,h4⟩ ?_ (by rw[h2];exact Te) (λk hk=>by rw[h1];exact h6 k (.inr ⋯))
  rw[h1,h2,Cg];refine Ch.app.mpr ⟨sa,c1.congr λk _ hk=>h6 k (.inl hk),rfl,?_,?_,?_⟩
  ·show 1<=na+nb;omega
  ·show Seg ρ ys sa (sa+(na+nb));rw[<- Nat.add_assoc];exact h7
  ·show Ch ρ ys (sa+(na+nb)) lo post
   rw[<- Nat.add_assoc];exact c8.congr λk hk _=>h6 k (.inr hk)
 have rb0:R ρ (arrOf st) (sa+na)=ρ b0:=cF eb
 by_cases w8:na-k=0
 ·rw[if_pos (by simpa using w8)]
  refine wpS_pure (fin (arrOf st) _ rfl rfl hB.kind hB.failed (Array.Perm.refl _) (λ_ _=>rfl) λi j h1 h2 h3=>?_)
  by_cases hj:j<sa+na
  ·exact c4 i j h1 h2 hj
  ·by_cases kh:i<sa+na
   ·have:=g1 i h1 ⋯
    have:=c7 (sa+na) j ⋯ ⋯ h3
    omega
   ·exact c7 i j ⋯ h2 h3
 ·rw[if_neg (by simpa using w8)]
  obtain⟨al,ea,pa⟩:=Rg (sa+k+(na-k)-1) ⋯
  have ral:R ρ (arrOf st) (sa+na-1)=ρ al:=by rw[show sa+na-1=sa+k+(na-k)-1 by omega];exact cF ea
  refine wpS_bind (aV ea ?_);refine wpS_bind (Hl hL hB.kind pa (λi hi=>Rg _ ⋯) c7 ⋯ λk2 Wb g3 g4=>?_)
  dsimp only
  by_cases S6:k2=0
  ·subst S6
   rw[if_pos (by simp)]
   refine wpS_pure (fin (arrOf st) _ rfl rfl hB.kind hB.failed (Array.Perm.refl _) (λ_ _=>rfl) λi j h1 h2 h3=>?_)
   by_cases hj:j<sa+na
   ·exact c4 i j h1 h2 hj
   ·by_cases kh:i<sa+na
    ·have:=g4 j ⋯ h3
     have:=c4 i (sa+na-1) h1 ⋯ ⋯
     omega
    ·exact c7 i j ⋯ h2 h3
  ·rw[if_neg (by simpa using S6)]
   have ZA:∀i j,j<=a₀.size->∀x∈((arrOf st).extract i j).toList,P x:=λi j hj x hx=>by
    obtain⟨m,m1,m2,m3,m4⟩:=gA hx;obtain⟨y,ey,py⟩:=Rg m ⋯
    rw[m4]at ey;cases ey;exact py
   have zx:((arrOf st).extract (sa+k) (sa+na)).size=na-k:=by rw[Array.size_extract];omega
   have zy:((arrOf st).extract (sa+na) (sa+na+k2)).size=k2:=by rw[Array.size_extract];omega
   have T:u5 ρ P ((arrOf st).extract (sa+k) (sa+na)) ((arrOf st).extract (sa+na) (sa+na+k2)):=
    ⟨ZA _ _ ⋯,ZA _ _ ⋯,mC (λi j h1 h2 h3=>c4 i j ⋯ h2 h3) ⋯,mC (λi j h1 h2 h3=>c7 i j h1 h2 ⋯) ⋯,by omega,by omega,
     λy hy z hz=>by
      obtain⟨m,m1,m2,m3,m4⟩:=gA hy;rw[zx,Bh ⋯ ⋯,show sa+k+(na-k-1)=sa+k+(na-k)-1 by omega,ea]at hz
      cases hz;have:=g3 m m1 m2;rw[cF m4]at this;omega,
     λy hy z hz=>by
      obtain⟨m,m1,m2,m3,m4⟩:=gA hy;rw[Bh ⋯ ⋯,Nat.add_zero,eb]at hz
      cases hz;have:=g2 m m1 m2;rw[cF m4]at this;omega⟩
   have done:∀(r:Array Keyed) (az:SortSt),Kp (setPending st (((pendingOf st).setIfInBounds i (sa,na+nb,pw)).eraseIdxIfInBounds (i+1))) az->Good ρ (((arrOf st).extract (sa+k) (sa+na)).toList++((arrOf st).extract (sa+na) (sa+na+k2)).toList) r.toList ->
     wpS M Ar E s (do
      modify λs=>setArr s (r.toList.zipIdx.foldl (λa (p,j)=>a.setIfInBounds (sa+k+j) p) (arrOf s))
      let x <- get
      pure (failedOf x).isNone) Q az:=λr az hK hG=>by
    refine wpS_bind (wpS_modify (wpS_bind (wpS_get (wpS_pure ?_))));have ka:arrOf az=arrOf st:=hK.a;have kp:pendingOf az=_:=hK.p;have kf:failedOf az=none:=hK.f.trans hB.failed;have kk:kindOf az=kd:=hK.k.trans hB.kind;show Q (failedOf az).isNone _;rw[kf];have hlen:r.toList.length=na-k+k2:=by
     have:=hG.2.length_eq;simp only[List.length_append,Array.length_toList,zx,zy]at this ⊢;exact this
    have ZD:sa+k+r.toList.length<=(arrOf st).size:=by omega
    have get:=λm=>(qo (sa+k) r.toList 0 (arrOf st) (by simpa using ZD) m).1
    simp only[Nat.add_zero]at get;have hX:((arrOf st).extract (sa+k) (sa+na)).toList++((arrOf st).extract (sa+na) (sa+na+k2)).toList=((arrOf st).toList.drop (sa+k)).take r.toList.length:=by
     rw[hlen,List.take_add,List.drop_drop,show sa+k+(na-k)=sa+na by omega]
     rw[show sa+na=sa+k+(na-k)by omega,kR,show sa+k+(na-k)=sa+na by omega,kR]
    refine fin _ _ (by show _=r.toList.zipIdx.foldl _ (arrOf st);rw[ka]) kp kk kf (Dq ZD (by rw[<- hX];exact hG.2)) (λm hm=>by rw[get m,if_neg ⋯]) ?_
    have ry:∀m,¬(sa+k<=m/\m<sa+k+r.toList.length)->R ρ (r.toList.zipIdx.foldl (λa (p,j)=>a.setIfInBounds (sa+k+j) p) (arrOf st)) m=R ρ (arrOf st) m:=λm hm=>fL (by rw[get m,if_neg hm])
    have rz:∀m (h:m-(sa+k)<r.toList.length),sa+k<=m->R ρ (r.toList.zipIdx.foldl (λa (p,j)=>a.setIfInBounds (sa+k+j) p) (arrOf st)) m=ρ (r.toList[m-(sa+k)]):=λm h hm=>by
     refine cF ?_;rw[get m,if_pos ⋯,List.getElem?_eq_getElem h]
    have low:∀z∈r.toList,∀i,sa<=i->i<sa+k->R ρ (arrOf st) i<=ρ z:=λz hz i i1 i2=>by
     rcases List.mem_append.mp (hG.2.mem_iff.mp hz)with hz|hz
     ·obtain⟨m,m1,m2,m3,m4⟩:=gA hz
      rw[<- cF (ρ:=ρ) m4];exact c4 i m i1 ⋯ m2
     ·obtain⟨m,m1,m2,m3,m4⟩:=gA hz
      have:=g1 i i1 i2;have:=c7 (sa+na) m ⋯ m1 ⋯
      rw[<- cF (ρ:=ρ) m4];omega
    have high:∀z∈r.toList,∀j,sa+na+k2<=j->j<sa+na+nb->ρ z<=R ρ (arrOf st) j:=λz hz j j1 j2=>by
     rcases List.mem_append.mp (hG.2.mem_iff.mp hz)with hz|hz
     ·obtain⟨m,m1,m2,m3,m4⟩:=gA hz
      have:=g4 j j1 j2;have:=c4 m (sa+na-1) ⋯ ⋯ ⋯
      rw[<- cF (ρ:=ρ) m4];omega
     ·obtain⟨m,m1,m2,m3,m4⟩:=gA hz
      rw[<- cF (ρ:=ρ) m4];exact c7 m j m1 ⋯ j2
    intro i j h1 h2 h3
    by_cases i1:i<sa+k
    ·rw[ry i ⋯]
     by_cases j1:j<sa+k
     ·rw[ry j ⋯];exact c4 i j h1 h2 ⋯
     ·by_cases j2:j<sa+k+r.toList.length
      ·rw[rz j ⋯ ⋯];exact low _ (List.getElem_mem _) i h1 i1
      ·rw[ry j ⋯]
       have:=g1 i h1 i1;have:=c7 (sa+na) j ⋯ ⋯ h3
       omega
    ·by_cases i2:i<sa+k+r.toList.length
     ·rw[rz i ⋯ ⋯]
      by_cases j2:j<sa+k+r.toList.length
      ·rw[rz j ⋯ ⋯]
       by_cases e:i=j
       ·subst e;exact Nat.le_refl _
       ·exact List.pairwise_iff_getElem.mp hG.1 _ _ ⋯ ⋯ ⋯
      ·rw[ry j ⋯];exact high _ (List.getElem_mem _) j ⋯ h3
     ·rw[ry i ⋯,ry j ⋯];exact c7 i j ⋯ h2 h3
   by_cases S8:na-k<=k2
   ·rw[if_pos S8]
    exact wpS_bind (uW hL hB.kind T done)
   ·rw[if_neg S8]
    exact wpS_bind (uV hL hB.kind T done)
end
end Vs
namespace Vs
open PySem PyProof.Rows
theorem Ch.modify{ρ:Keyed->Nat}{xs:Array Keyed}{f:Run->Run}(hf:∀r,(f r).1=r.1/\(f r).2.1=r.2.1):∀(l:List Run) (i s e:Nat),Ch ρ xs s e l->Ch ρ xs s e (l.modify i f)
 | [],i,s,e,h=>by rw[List.modify_nil];exact h
 | r::l,0,s,e,⟨h1,h2,h3,h4⟩=>by
  rw[List.modify_zero_cons];exact⟨(hf r).1.trans h1,by rw[(hf r).2];exact h2,by rw[(hf r).2];exact h3,by rw[(hf r).2];exact h4⟩
 | r::l,i+1,s,e,⟨h1,h2,h3,h4⟩=>by
  rw[List.modify_succ_cons];exact⟨h1,h2,h3,Ch.modify hf l i _ _ h4⟩
section
variable {M:Model}{Ar:Around}{E:Value->Shared->Prop}{s:Shared}{ρ:Keyed->Nat}{kd:SortKind}{P:Keyed->Prop}{a₀:Array Keyed}
theorem SI.xM{st:SortSt}(h:SI kd a₀ st)(p:Array Run):SI kd a₀ (setPending st p):=⟨h.perm,h.kind,h.failed⟩
def iC(lo n:Nat):StateT SortSt Sem (ForInStep (Option Unit×Nat)):=do
 modify λs=>setPending s ((pendingOf s).push (lo,n,0))
 pure (ForInStep.yield (none,lo+n))
def fP(size pw:Nat):StateT SortSt Sem (Option Unit×Unit):=
 forIn [:size] ((none,()):Option Unit×Unit) λ_ _=>do
  let x <- get
  match(if(pendingOf x).size>1 then(pendingOf x)[(pendingOf x).size-2]? else none)with
  | some (_,_,UJ) =>
   if UJ<=pw then pure (ForInStep.done (none,()))
   else do
    let r <- mergeAt' ((pendingOf x).size-2)
    if(!r)=true then pure (ForInStep.done (some (),()))else pure (ForInStep.yield (none,()))
  | _=>pure (ForInStep.done (none,()))
def fR(size lo n:Nat):StateT SortSt Sem (ForInStep (Option Unit×Nat)):=do
 let x <- get
 match(pendingOf x).back? with
 | some (s1,n1,_)=>do
  let r <- fP size (power' size (2*s1+n1) (2*s1+n1+n1+n) size)
  match r.fst with
  | some r=>pure (ForInStep.done (some r,lo))
  | none=>do
   modify λs=>setPending s ((pendingOf s).modify ((pendingOf s).size-1) λx=>(x.fst,x.2.fst,power' size (2*s1+n1) (2*s1+n1+n1+n) size))
   iC lo n
 | _=>iC lo n
theorem kz{st:SortSt}{lo n:Nat}{Q:ForInStep (Option Unit×Nat)->SortSt->Prop}(hB:SI kd a₀ st)(hc:Ch ρ (arrOf st) 0 lo (pendingOf st).toList)(hn:1<=n)(hs:Seg ρ (arrOf st) lo (lo+n))
  (q:∀az,SI kd a₀ az->Ch ρ (arrOf az) 0 (lo+n) (pendingOf az).toList->Q (.yield (none,lo+n)) az):wpS M Ar E s (iC lo n) Q st:=by
 unfold iC;refine wpS_bind (wpS_modify (wpS_pure (q _ (hB.xM _) ?_)));show Ch ρ (arrOf st) 0 (lo+n) ((pendingOf st).push (lo,n,0)).toList;rw[Array.toList_push];exact Ch.app.mpr ⟨lo,hc,rfl,hn,hs,rfl⟩
theorem nr{st:SortSt}{pw lo n:Nat}{Q:Option Unit×Unit->SortSt->Prop}(hL:fm M Ar E s ρ kd P)(h0:∀p∈a₀.toList,P p)(hB:SI kd a₀ st)(u9:lo<=a₀.size)(hc:Ch ρ (arrOf st) 0 lo (pendingOf st).toList)(hs:Seg ρ (arrOf st) lo (lo+n))
  (q:∀az,SI kd a₀ az->Ch ρ (arrOf az) 0 lo (pendingOf az).toList->Seg ρ (arrOf az) lo (lo+n)->Q (none,()) az):wpS M Ar E s (fP a₀.size pw) Q st:=by
 unfold fP;refine wpS_forRange (I:=λx c az=>c=(none,())/\SI kd a₀ az/\Ch ρ (arrOf az) 0 lo (pendingOf az).toList/\Seg ρ (arrOf az) lo (lo+n)) ?step ?fin ⟨rfl,hB,hc,hs⟩
 case fin =>
  rintro c az ⟨rfl,h1,h2,h3⟩;exact q az h1 h2 h3
 case step =>
  rintro x c az _ hx ⟨rfl,h1,h2,h3⟩;refine wpS_bind (wpS_get ?_)
  by_cases hz:(pendingOf az).size>1
  ·rw[if_pos hz]
   have e:(pendingOf az)[(pendingOf az).size-2]?=some (pendingOf az)[(pendingOf az).size-2]:=Array.getElem?_eq_getElem ⋯
   rw[e];dsimp only
   split
   ·exact wpS_pure (q az h1 h2 h3)
   ·refine wpS_bind (ky hL h0 h1 u9 h2 ⋯ λzF b1 b2 b3 b4=>?_)
    simp only[Bool.not_true,Bool.false_eq_true,if_false];exact wpS_pure ⟨rfl,b1,b2,h3.congr λk hk _=>b4 k hk⟩
  ·rw[if_neg hz]
   exact wpS_pure (q az h1 h2 h3)
theorem uX{st:SortSt}{lo n:Nat}{Q:ForInStep (Option Unit×Nat)->SortSt->Prop}(hL:fm M Ar E s ρ kd P)(h0:∀p∈a₀.toList,P p)(hB:SI kd a₀ st)(u9:lo<=a₀.size)(hc:Ch ρ (arrOf st) 0 lo (pendingOf st).toList)(hn:1<=n)(hs:Seg ρ (arrOf st) lo (lo+n))
  (q:∀az,SI kd a₀ az->Ch ρ (arrOf az) 0 (lo+n) (pendingOf az).toList->Q (.yield (none,lo+n)) az):wpS M Ar E s (fR a₀.size lo n) Q st:=by
 unfold fR;refine wpS_bind (wpS_get ?_)
 split
 ·refine wpS_bind (nr hL h0 hB u9 hc hs λaz b1 b2 b3=>?_)
  dsimp only;refine wpS_bind (wpS_modify (kz (b1.xM _) ?_ hn b3 q));show Ch ρ (arrOf az) 0 lo ((pendingOf az).modify _ _).toList;rw[Array.toList_modify];refine Ch.modify ?_ _ _ _ _ b2;intro r;exact⟨rfl,rfl⟩
 ·exact kz hB hc hn hs q
theorem L0(c:Prop)[Decidable c]{n:Nat}(h:2<=n):(if c then n-2-1 else n-2)+1<n:=by split<;>omega
local macro_rules|`(tactic| walk_at "s_rest")=>`(tactic| (unfold fR fP iC;congr 1;funext x;cases e:(pendingOf x).back? with
  | none=>rfl
  | some y=>(obtain⟨s1,n1,p1⟩:=y;dsimp only;congr 1;funext r;obtain⟨r1,r2⟩:=r;cases r1<;>rfl)))
theorem wpS_sortRuns{st:SortSt}{Q:Unit->SortSt->Prop}(hL:fm M Ar E s ρ kd P)(h0:∀p∈a₀.toList,P p)(hB:SI kd a₀ st)(hp:pendingOf st=#[])(h2:2<=a₀.size)
  (h:∀az,SI kd a₀ az->Seg ρ (arrOf az) 0 a₀.size->Q () az):wpS M Ar E s sortRuns' Q st:=by
 rw[sortRuns'_eq];refine wpS_bind (wpS_get ?_);dsimp only;rw[hB.size];generalize minRun' a₀.size a₀.size 0=mr;refine wpS_bind (wpS_mono (wpS_forRange (I:=λx c az=>SI kd a₀ az/\∃lo,c=(none,lo)/\lo<=a₀.size/\(x<=lo\/lo=a₀.size)/\Ch ρ (arrOf az) 0 lo (pendingOf az).toList)
  (Q:=λc az=>SI kd a₀ az/\c=(none,a₀.size)/\Ch ρ (arrOf az) 0 a₀.size (pendingOf az).toList) ?step ?fin ⟨hB,0,rfl,Nat.zero_le _,.inl (Nat.le_refl _),by rw[hp];rfl⟩) ?post)
 case fin =>
  rintro c az ⟨gB,lo,rfl,l1,l2,hc⟩;have:lo=a₀.size:=by omega
  subst this;exact⟨gB,rfl,hc⟩
 case step =>
  rintro x c az _ hx ⟨gB,lo,rfl,l1,l2,hc⟩;dsimp only
  by_cases rJ:lo>=a₀.size
  ·rw[if_pos rJ]
   have:lo=a₀.size:=by omega
   subst this;exact wpS_pure ⟨gB,rfl,hc⟩
  ·rw[if_neg rJ]
   refine wpS_bind (wpS_countRun hL h0 ⋯ ⋯ gB λm Wx f1 m1 m2 s1=>?_)
   dsimp only;have ZF:Ch ρ (arrOf Wx) 0 lo (pendingOf Wx).toList:=by rw[f1.pend];exact hc.congr λk _ hk=>f1.same k hk
   have go:∀n zF,1<=n->lo+n<=a₀.size->SI kd a₀ zF->Ch ρ (arrOf zF) 0 lo (pendingOf zF).toList->Seg ρ (arrOf zF) lo (lo+n)->wpS M Ar E s (fR a₀.size lo n) (λr az =>
     match r with
     | ForInStep.done c'=>SI kd a₀ az/\c'=(none,a₀.size)/\Ch ρ (arrOf az) 0 a₀.size (pendingOf az).toList
     | ForInStep.yield c'=>SI kd a₀ az/\∃lo,c'=(none,lo)/\lo<=a₀.size/\(x+1<=lo\/lo=a₀.size)/\Ch ρ (arrOf az) 0 lo (pendingOf az).toList) zF:=λn zF n1 n2 b1 b2 b3 =>
    uX hL h0 b1 l1 b2 n1 b3 λaz b1 b2=>⟨b1,lo+n,rfl,n2,by omega,b2⟩
   by_cases fy:m<mr
   ·rw[if_pos fy]
    refine wpS_bind (wpS_lift (wpAny_rule ⟨rfl,?_⟩));refine wpS_bind (wpS_binarySort hL h0 ⋯ ⋯ f1.si s1 λzF f2 s2=>?_)
    simp only[Bool.not_true,Bool.false_eq_true,if_false];have z:=go (min (a₀.size-lo) mr) zF ⋯ ⋯ f2.si (by rw[f2.pend];exact ZF.congr λk _ hk=>f2.same k hk) s2
    refine wpS_mono (Q:=_) (Eq.mpr (congrArg (λt=>wpS M Ar E s t _ zF) (?_:_=fR a₀.size lo (min (a₀.size-lo) mr))) z) ?_
    ·walk_at "s_rest"
    ·intro r cP hr
     cases r<;>exact hr
   ·rw[if_neg fy]
    have z:=go m Wx m1 ⋯ f1.si ZF s1
    refine wpS_mono (Q:=_) (Eq.mpr (congrArg (λt=>wpS M Ar E s t _ Wx) (?_:_=fR a₀.size lo m)) z) ?_
    ·walk_at "s_rest"
    ·intro r cP hr
     cases r<;>exact hr
 case post =>
  rintro c az ⟨gB,rfl,hc⟩;dsimp only;have d2:(pendingOf az).size<=a₀.size:=by have:=Ch.le hc;simp only[Array.length_toList]at this;omega
  refine wpS_bind (wpS_mono (wpS_forRange (I:=λx c az=>c=(none,())/\SI kd a₀ az/\Ch ρ (arrOf az) 0 a₀.size (pendingOf az).toList/\((pendingOf az).size+x<=a₀.size\/(pendingOf az).size<=1))
   (Q:=λc az=>c=(none,())/\SI kd a₀ az/\Ch ρ (arrOf az) 0 a₀.size (pendingOf az).toList/\(pendingOf az).size<=1) ?fstep ?ffin ⟨rfl,gB,hc,.inl ⋯⟩) ?fpost)
  case ffin =>
   rintro c az ⟨rfl,b1,b2,b3⟩;exact⟨rfl,b1,b2,by omega⟩
  case fstep =>
   rintro x c az _ hx ⟨rfl,b1,b2,b3⟩;refine wpS_bind (wpS_get ?_)
   try dsimp only
   by_cases hz:(pendingOf az).size<=1
   ·rw[if_pos hz]
    exact wpS_pure ⟨rfl,b1,b2,hz⟩
   ·rw[if_neg hz]
    refine wpS_bind (ky hL h0 b1 (Nat.le_refl _) b2 ?_ λzF c1 c2 c3 c4=>?_)
    ·exact L0 _ ⋯
    ·simp only[Bool.not_true,Bool.false_eq_true,if_false]
     exact wpS_pure ⟨rfl,c1,c2,by omega⟩
  case fpost =>
   rintro c az ⟨rfl,b1,b2,b3⟩;refine wpS_pure (h az b1 ?_);have hl:(pendingOf az).toList.length<=1:=by simpa using b3
   generalize (pendingOf az).toList=l at b2 hl
   match l,b2,hl with
   | [],b2,_=>have:0=a₀.size:=b2;omega
   | [r],⟨_,_,h3,h4⟩,_ =>
    have h4:0+r.2.1=a₀.size:=h4;rw[h4]at h3;exact h3
   | _::_::_,_,hl=>simp at hl
end
end Vs
namespace Vs
open PySem PyProof.Rows PySem.W
theorem jF:∀a:List Int,HT.lexLt a a=false
 | []=>rfl
 | x::a=>by rw[HT.dM,if_pos rfl];exact jF a
theorem fB:∀a b c:List Int,HT.lexLt a b=true->HT.lexLt b c=true->HT.lexLt a c=true
 | [],[],_,h,_=>by cases h
 | [],_::_,[],_,h=>by cases h
 | [],_::_,_::_,_,_=>rfl
 | _::_,[],_,h,_=>by cases h
 | _::_,_::_,[],_,h=>by cases h
 | x::a,y::b,z::c,h1,h2=>by
  rw[HT.dM]at h1 h2 ⊢
  by_cases e1:x=y
  ·rw[if_pos e1]at h1
   by_cases e2:y=z
   ·rw[if_pos e2]at h2
    rw[if_pos (e1.trans e2)];exact fB a b c h1 h2
   ·rw[if_neg e2]at h2
    have:=of_decide_eq_true h2;rw[if_neg ⋯];exact decide_eq_true ⋯
  ·rw[if_neg e1]at h1
   have h1:=of_decide_eq_true h1
   by_cases e2:y=z
   ·rw[if_neg ⋯];exact decide_eq_true ⋯
   ·rw[if_neg e2]at h2
    have:=of_decide_eq_true h2;rw[if_neg ⋯];exact decide_eq_true ⋯
theorem pY:∀a b:List Int,HT.lexLt a b=false->HT.lexLt b a=false->a=b
 | [],[],_,_=>rfl
 | [],_::_,h,_=>by cases h
 | _::_,[],_,h=>by cases h
 | x::a,y::b,h1,h2=>by
  rw[HT.dM]at h1 h2
  by_cases e1:x=y
  ·rw[if_pos e1]at h1
   rw[if_pos e1.symm]at h2;rw[e1,pY a b h1 h2]
  ·rw[if_neg e1]at h1
   rw[if_neg (Ne.symm e1)]at h2;have:=of_decide_eq_false h1;have:=of_decide_eq_false h2;omega
def rk(d:Keyed->List Int)(l:List Keyed)(x:Keyed):Nat:=l.countP λp=>HT.lexLt (d p) (d x)
theorem nJ{α:Type}{p q:α->Bool}:∀ {l:List α} {x:α},(∀y,p y=true->q y=true)->x∈l->p x=false->q x=true->l.countP p<l.countP q
 | y::l,x,h,hx,h1,h2=>by
  rcases List.mem_cons.mp hx with rfl|hx
  ·rw[List.countP_cons_of_neg (by rw[h1];decide),List.countP_cons_of_pos h2]
   exact Nat.lt_succ_of_le (List.countP_mono_left λy _=>h y)
  ·have ih:=nJ h hx h1 h2
   rw[List.countP_cons,List.countP_cons];cases e:p y with
   | true=>rw[h y e];simpa using ih
   | false=>split<;>split<;>first|omega | (exfalso;simp_all)
theorem ux{d:Keyed->List Int}{l:List Keyed}{x y:Keyed}(hx:x∈l):decide (rk d l x<rk d l y)=HT.lexLt (d x) (d y):=by
 cases e:HT.lexLt (d x) (d y)with
 | true =>
  refine decide_eq_true (nJ (x:=x) (λp hp=>fB _ _ _ hp e) hx (jF _) e)
 | false =>
  refine decide_eq_false (Nat.not_lt.mpr (List.countP_mono_left λp _ hp=>?_));cases e2:HT.lexLt (d p) (d x)with
  | true=>rfl
  | false =>
   cases e3:HT.lexLt (d x) (d p)with
   | true=>rw[fB _ _ _ e3 hp]at e;cases e
   | false =>
    rw[pY _ _ e2 e3]at hp;rw[hp]at e;cases e
section
variable {prog:Program}{w:World}{A:Around}{E:Value->Shared->Prop}{s:Shared}
theorem kj{b:Bool}{Q:Bool->Shared->Prop}:∀ {vs ws:List Value} {ns ms:List Int} (i:Nat) (fin:Bool),IntsAre vs ns->IntsAre ws ms->fin=decide (vs.length<ws.length)->Q (HT.lexLt ns ms) s->KatLex prog w A b fin Q (vs.zip ws) i s
 | _,_,_,_,i,fin,.nil,.nil,e,q=>by subst e;exact kat_nil q
 | _,_,_,_,i,fin,.nil,.cons _ _ _,e,q=>by subst e;rw[HT.lK]at q;exact kat_nil (by simpa using q)
 | _,_,_,_,i,fin,.cons _ _ _,.nil,e,q=>by subst e;rw[HT.lJ]at q;exact kat_nil (by simpa using q)
 | _,_,_,_,i,fin,.cons n t h1,.cons m u h2,e,q=>by
  rw[List.zip_cons_cons];refine kat_cons (wpAny_eqBool_int ?_);rw[HT.dM]at q
  by_cases h:n=m
  ·rw[if_pos h]at q
   rw[show(n==m)=true from by simpa using h]
   exact kat_yes (kj (i+1) fin h1 h2 (by rw[e];simp) q)
  ·rw[if_neg h]at q
   rw[show(n==m)=false from by simpa using h]
   refine kat_no ?_;cases(b&&i==0)with
   | true=>exact oneLt_int q
   | false=>exact kat_one _ _ (lt_int q)
def oV(h:Heap)(v:Value)(ns:List Int):Prop:=∃a o xs n,v=.ref a/\h.get? a=some o/\o.cls=.type "tuple"/\o.data=.seq xs n/\IntsAre xs.toList ns
theorem oV.kept{h g:Heap}{v:Value}{ns:List Int}(t:oV h v ns)(k:∀b o,h.get? b=some o->g.get? b=some o):oV g v ns:=by
 obtain⟨a,o,xs,n,e,ho,r⟩:=t;exact⟨a,o,xs,n,e,k _ _ ho,r⟩
theorem yV{b:Bool}{v u:Value}{ns ms:List Int}{Q:Bool->Shared->Prop}(h1:oV s.heap v ns)(h2:oV s.heap u ms)(q:Q (HT.lexLt ns ms) s):wpAny (model prog w) A (keyLt' (tuples' b) v u) Q E s:=by
 obtain⟨a,o,xs,n,rfl,ho,hc,hd,hi⟩:=h1;obtain⟨a2,o2,xs2,n2,rfl,IH,Xz,hd2,FH⟩:=h2;exact kat_lt ho hd IH hd2 (kj 0 _ hi FH (by simp) q)
theorem Gb{b:Bool}{l:List Keyed}{d:Keyed->List Int}(h:∀x∈l,oV s.heap x.1 (d x)):fm (model prog w) A E s (rk d l) (tuples' b) (λx=>x∈l):=λx y st Q hx hy hk q=>by
 rw[ux hx]at q;rw[lt'_eq];refine wpS_bind (wpS_get ?_);rw[hk];exact wpS_bind (wpS_lift (wpAny_attempt (yV (h x hx) (h y hy) ⟨rfl,wpS_pure q⟩)))
theorem CC{vs:List Value}{Q:SortKind->Shared->Prop}(hl:0<vs.length)(h:∀v∈vs,∃ns,oV s.heap v ns/\ns≠[])(q:Q (tuples' true) s):wpAny (model prog w) A (keyKind' vs.toArray) Q E s:=by
 have key:∀vs:List Value,(∀v∈vs,∃ns,oV s.heap v ns/\ns≠[])->∃fs,KatTups s.heap vs fs/\fs.length=vs.length/\∀v∈fs,∃n t,v=Value.int n t:=by
  intro vs
  induction vs with
  | nil=>intro _;exact⟨[],KatTups.nil,rfl,λv hv=>by cases hv⟩
  | cons v vs ih =>
   intro h;obtain⟨ns,⟨a,o,xs,n,rfl,ho,hc,hd,hi⟩,cm⟩:=h v (List.mem_cons_self ..);obtain⟨fs,f1,f2,f3⟩:=ih λu hu=>h u (List.mem_cons_of_mem _ hu);obtain⟨f,hf,hn⟩:∃f,xs[0]?=some f/\∃n t,f=Value.int n t:=by
    rw[<- Array.getElem?_toList];generalize xs.toList=ys at hi;cases hi with
    | nil=>exact absurd rfl cm
    | cons n t _=>exact⟨_,rfl,n,t,rfl⟩
   refine⟨f::fs,KatTups.cons ho hc hd hf f1,by simp [f2],λv hv=>?_⟩
   rcases List.mem_cons.mp hv with rfl|hv
   ·exact hn
   ·exact f3 v hv
 obtain⟨fs,f1,f2,f3⟩:=key vs h;refine kat_kind (T:=.type "int") f1 ⋯ (λv hv=>?_) rfl q
 obtain⟨n,t,rfl⟩:=f3 v hv;exact Looks.now
theorem gp{a:Addr}{vs:List Value}{n:Nat}{kd:SortKind}{ρ:Keyed->Nat}{P:Keyed->Prop}{Pf:PySem.Fin->Shared->Prop}(ho:s.heap.get? a=some (seqObj "list" vs.toArray n))(hz:vs.length<=sizeLine)(h0:∀p∈(pairsOf vs).toList,P p)
  (hk:2<=vs.length->∀g:Heap,(∀b o,b≠a->s.heap.get? b=some o->g.get? b=some o)->(∀Q:SortKind->Shared->Prop,Q kd {s with heap:=g}->wpAny (model prog w) A (keyKind' vs.toArray) Q E {s with heap:=g})/\fm (model prog w) A E {s with heap:=g} ρ kd P)
  (h:∀(xs:Array Keyed) (g:Heap) (c:Nat),xs.Perm (pairsOf vs)->Seg ρ xs 0 vs.length->(∀b o,b≠a->s.heap.get? b=some o->g.get? b=some o)->g.get? a=some (seqObj "list" (xs.map (·.2)) c)->Pf (.done (.ret .none)) {s with heap:=g}):
  wpAny (model prog w) A (Builtin.«list.sort» ⟨[.ref a],[]⟩) Pf E s:=by
 rw[list_sort_plain];have ha:a<s.heap.objs.size:=Heap.lt_size ho;have hsz:vs.toArray.size=vs.length:=by simp
 refine wpAny_bind (listItems_at ho rfl ?_);refine wpAny_bind (listUpdate_at ho rfl ?_ (by rw[hsz];exact hz) (Nat.zero_le _))
 obtain⟨e1,FK⟩:∃e1,(s.heap.update a (Obj.mapSeq λ_=>#[])).get? a=some (seqObj "list" #[] e1):=⟨_,get?_update_seq ho (λ_=>#[])⟩;refine wpAny_bind (seqEpoch_at FK rfl ?_);refine wpAny_bind (wpAny_newTuple ?_ (by show vs.length<=_;exact hz))
 refine wpAny_bind (wpAny_newList ?_ (Nat.zero_le _));refine wpAny_holding ?_;have keep:∀b o,b≠a->s.heap.get? b=some o->(((s.heap.update a (Obj.mapSeq λ_=>#[])).push (seqObj "tuple" vs.toArray 0)).push (seqObj "list" #[] 0)).get? b=some o:=λb o hb e =>
  Heap.get?_push_of_some _ (Heap.get?_push_of_some _ ((Heap.get?_update_other _ _ (Ne.symm hb)).trans e))
 have Qq:(((s.heap.update a (Obj.mapSeq λ_=>#[])).push (seqObj "tuple" vs.toArray 0)).push (seqObj "list" #[] 0)).get? a=some (seqObj "list" #[] e1):=Heap.get?_push_of_some _ (Heap.get?_push_of_some _ FK);show wpAny (model prog w) A _ Pf E {s with heap:=((s.heap.update a (Obj.mapSeq λ_=>#[])).push (seqObj "tuple" vs.toArray 0)).push (seqObj "list" #[] 0)}
 dsimp only;generalize hg6:((s.heap.update a (Obj.mapSeq λ_=>#[])).push (seqObj "tuple" vs.toArray 0)).push (seqObj "list" #[] 0)=g6 at keep Qq;have fin:∀xs:Array Keyed,xs.Perm (pairsOf vs)->Seg ρ xs 0 vs.length->Pf (.done (.ret .none)) {s with heap:=g6.update a (Obj.mapSeq λ_=>xs.map (·.2))}:=λxs hp hs =>
  h xs _ _ hp hs (λb o hb e=>(Heap.get?_update_other _ _ (Ne.symm hb)).trans (keep b o hb e)) (get?_update_seq Qq λ_=>xs.map (·.2))
 by_cases h2:vs.toArray.size<2
 ·rw[if_pos h2,if_pos h2]
  refine wpAny_bind (wpAny_pure ?_);rw[StateT.run_pure];refine wpAny_bind (wpAny_pure ?_);dsimp only;refine wpAny_bind (seqEpoch_at Qq rfl ?_);refine wpAny_bind (listUpdate_at Qq rfl ?_ (Nat.zero_le _) (by rw[Array.size_map];show(pairsOf vs).size<=_;rw[pairsOf_size];exact Nat.le_succ_of_le hz))
  simp only[bne_self_eq_false,Bool.false_eq_true,if_false];refine wpAny_pure (fin _ (Array.Perm.refl _) λi j _ jy hj=>?_);have:i=j:=by omega
  subst this;exact Nat.le_refl _
 ·rw[if_neg h2,if_neg h2]
  obtain⟨k1,k2⟩:=hk ⋯ g6 keep
  refine wpAny_bind (k1 _ ?_);refine wpAny_bind (wpAny_mono (wpS_sortRuns (a₀:=pairsOf vs) (kd:=kd) (st:=SortSt.mk' kd (vs.toArray.zip vs.toArray) #[] 7 none)
   (Q:=λ_ az=>SI kd (pairsOf vs) az/\Seg ρ (arrOf az) 0 (pairsOf vs).size) k2 h0 ⟨Array.Perm.refl _,rfl,rfl⟩ rfl (by rw[pairsOf_size];omega) λaz a1 a2=>⟨a1,a2⟩) ?_ λ_ _ e=>e)
  rintro⟨⟨⟩,az⟩ s' ⟨rfl,hp,hs⟩;dsimp only;refine wpAny_bind (seqEpoch_at Qq rfl ?_);refine wpAny_bind (listUpdate_at Qq rfl ?_ (Nat.zero_le _) (by refine Nat.le_trans (Nat.le_of_eq ((Array.size_map ..).trans (hp.size.trans (pairsOf_size _)))) ?_;exact Nat.le_succ_of_le hz))
  rw[hp.failed];simp only[bne_self_eq_false,Bool.false_eq_true,if_false];rw[pairsOf_size]at hs;exact wpAny_pure (fin _ hp.perm hs)
theorem mG{l:Addr}{vs:List Value}{kd:SortKind}{ρ:Keyed->Nat}{P:Keyed->Prop}{Q:Value->Shared->Prop}(hl:s.heap.IsList l vs.toArray)(hz:vs.length<=sizeLine)(h0:∀p∈(pairsOf vs).toList,P p)
  (hk:2<=vs.length->∀(A':Around) (E':Value->Shared->Prop) (g:Heap),(∀b o,s.heap.get? b=some o->g.get? b=some o)->(∀Q:SortKind->Shared->Prop,Q kd {s with heap:=g}->wpAny (model prog w) A' (keyKind' vs.toArray) Q E' {s with heap:=g})/\fm (model prog w) A' E' {s with heap:=g} ρ kd P)
  (h:∀(xs:Array Keyed) (g:Heap) (c:Nat),xs.Perm (pairsOf vs)->Seg ρ xs 0 vs.length->(∀b o,s.heap.get? b=some o->g.get? b=some o)->g.get? (s.heap.objs.size+1)=some (seqObj "list" (xs.map (·.2)) c)->Q (.ref (s.heap.objs.size+1)) {s with heap:=g}):
  wpAny (model prog w) A (call (.builtin "sorted") [.ref l]) Q E s:=by
 refine Calls.call_function_entry kind_sorted plain_sorted entry_sorted (args_sorted1 _) ?_;unfold Builtin.«sorted»;refine wpAny_bind (m:=checkCount "sorted" 1 1 _) (wpAny_pure ?_);refine wpAny_bind (collect_list hl ?_ hz);refine wpAny_bind (wpAny_newList ?_ hz);have hsz:((s.heap.push (seqObj "list" #[] 0)).update s.heap.objs.size (Obj.mapSeq (·++vs.toArray))).objs.size=s.heap.objs.size+1:=by
  rw[Heap.size_update,size_push']
 have LN:(((s.heap.push (seqObj "list" #[] 0)).update s.heap.objs.size (Obj.mapSeq (·++vs.toArray))).push (seqObj "list" vs.toArray 0)).get? (s.heap.objs.size+1)=some (seqObj "list" vs.toArray 0):=by
  rw[<- hsz];exact Heap.get?_push_size _ rfl
 have keep:∀b o,s.heap.get? b=some o->(((s.heap.push (seqObj "list" #[] 0)).update s.heap.objs.size (Obj.mapSeq (·++vs.toArray))).push (seqObj "list" vs.toArray 0)).get? b=some o:=λb o e=>by
  have fy:b<s.heap.objs.size:=Heap.lt_size e;exact Heap.get?_push_of_some _ ((Heap.get?_update_other _ _ (Ne.symm (Nat.ne_of_lt fy))).trans (Heap.get?_push_of_some _ e))
 have ne:∀b o,s.heap.get? b=some o->b≠s.heap.objs.size+1:=λb o e=>Nat.ne_of_lt (Nat.lt_succ_of_lt (Heap.lt_size e));show wpAny _ _ _ _ _ {s with heap:=((s.heap.push (seqObj "list" #[] 0)).update s.heap.objs.size (Obj.mapSeq (·++vs.toArray))).push (seqObj "list" vs.toArray 0)}
 rw[hsz];refine wpAny_bind (wpAny_holding (wpAny_call_entry slot_list_sort ⟨_,LN,rfl⟩ entry_list_sort (gp (kd:=kd) (ρ:=ρ) (P:=P) LN hz h0 (λh2 g kg=>hk h2 _ _ g λb o e=>kg b o (ne b o e) (keep b o e)) λxs g c a1 a2 a3 a4=>⟨_,rfl,?_⟩) (args_list_sort _)));exact wpAny_pure ⟨_,rfl,h xs g c a1 a2 (λb o e=>a3 b o (ne b o e) (keep b o e)) a4⟩
end
end Vs
namespace Vc
open PySem L2
def toV:Value->V
 | .ref a=>.ref a
 | _=>.bx
theorem Ei{us:List V}{its:List Value}(r:Vals us its)(h:∀u∈us,∃a,u=.ref a):us=its.map toV:=by
 induction r with
 | nil=>rfl
 | cons r _ ih =>
  obtain⟨a,rfl⟩:=h _ (List.mem_cons_self ..);cases r;rw[List.map_cons,<- ih λu hu=>h u (List.mem_cons_of_mem _ hu)];rfl
theorem Hj{its:List Value}(h:∀v∈its,∃a,v=.ref a):Vals (its.map toV) its:=by
 induction its with
 | nil=>exact .nil
 | cons v its ih =>
  obtain⟨a,rfl⟩:=h _ (List.mem_cons_self ..);exact .cons rfl (ih λu hu=>h u (List.mem_cons_of_mem _ hu))
theorem de{α:Type}:∀l:List α,l.zip l=l.map λx=>(x,x)
 | []=>rfl
 | x::l=>by rw[List.zip_cons_cons,List.map_cons,de l]
theorem GW{x:V}{u:Value}(r:RelV x u):RelV x.wk u:=by
 cases x with
 | tk i=>obtain⟨t,e,_⟩:=r;exact⟨t,e⟩
 | _=>exact r
theorem yf:∀ {xs:List V} {us:List Value},Vals xs us->Vals (xs.map V.wk) us
 | _,_,.nil=>.nil
 | _,_,.cons r t=>.cons (GW r) (yf t)
theorem j4{X:Cx}:cy X (.builtin "sorted") (λxs H Q=>∃(p:Addr) (us:List V) (dd:V->List Int),xs=[.ref p]/\dY X.K H p us/\(∀u∈us,(∃a zs,u=.ref a/\gS X.K H a zs/\zs.map V.wk=(dd u).map V.int)/\dd u≠[]) /\
  ∀(kS:List V),kS.Perm us->kS.Pairwise (λx y=>HT.lexLt (dd y) (dd x)=false)->∀l,H l=none->Q (.ref l) (upd H l (.lst kS))):=by
 intro pins s σ H xs us0 Q I r h;obtain⟨p,us,dd,rfl,hq,hu,q⟩:=h;obtain⟨u,rfl,rx⟩:=vals1 r;cases rx;obtain⟨its,rv,pl,hz⟩:=I.list hq;have hlen:=rv.length;have Zu:us=its.map toV:=Ei rv λu h=>by obtain⟨⟨a,_,e,_⟩,_⟩:=hu u h;exact⟨a,e⟩
 have Cu:∀v∈its,∃a,v=.ref a:=λv hv=>by
  obtain⟨i,hi,e⟩:=List.mem_iff_getElem.mp hv;obtain⟨u,Z8,ru⟩:=rv.get (i:=i) (x:=us[i]'⋯) (List.getElem?_eq_getElem _)
  rw[List.getElem?_eq_getElem hi]at Z8;cases Z8;obtain⟨⟨a,_,e2,_⟩,_⟩:=hu (us[i]'⋯) (List.getElem_mem _)
  rw[e2]at ru;exact⟨a,by rw[<- e];exact ru⟩
 have tup:∀v∈its,Vs.oV s.heap v (dd (toV v))/\dd (toV v)≠[]:=λv hv=>by
  obtain⟨a,rfl⟩:=Cu v hv;have hm:toV (.ref a)∈us:=by rw[Zu];exact List.mem_map.mpr ⟨_,hv,rfl⟩
  obtain⟨⟨b,zs,e,hT,ez⟩,cm⟩:=hu _ hm;cases e;obtain⟨ts,r1,⟨o,ho,hc,n,hd⟩,_⟩:=I.tuple hT;exact⟨⟨a,o,ts.toArray,n,rfl,ho,hc,hd,intsAre_of (by rw[<- ez];exact yf r1)⟩,cm⟩
 have mem:∀x:PyProof.Rows.Keyed,x∈(PyProof.Rows.pairsOf its).toList->x.1∈its/\x.1=x.2:=λx hx=>by
  rw[PyProof.Rows.pairsOf_toList,de]at hx;obtain⟨v,hv,rfl⟩:=List.mem_map.mp hx;exact⟨hv,rfl⟩
 refine Vs.mG (kd:=PyProof.Rows.tuples' true) (ρ:=Vs.rk (λx=>dd (toV x.1)) (PyProof.Rows.pairsOf its).toList) (P:=λx=>x∈(PyProof.Rows.pairsOf its).toList) pl.isList ⋯ (λ_ h=>h) (λh2 A' E' g kg=>⟨λQ hQ=>?_,?_⟩) λxs g c hp hs kg hg=>?_
 ·exact Vs.CC (s:={s with heap:=g}) ⋯ (λv hv=>⟨_,(tup v hv).1.kept kg,(tup v hv).2⟩) hQ
 ·exact Vs.Gb (s:={s with heap:=g}) λx hx=>(tup x.1 (mem x hx).1).1.kept kg
 ·have d2:xs.toList.Perm (PyProof.Rows.pairsOf its).toList:=Array.perm_iff_toList_perm.mp hp
  have hsz:xs.size=its.length:=by have:=hp.size_eq;rw[PyProof.Rows.pairsOf_size]at this;exact this
  have e9:∀x∈xs.toList,x.1∈its/\x.1=x.2:=λx hx=>mem x (d2.mem_iff.mp hx);have perm:(xs.toList.map λx=>toV x.2).Perm us:=by
   rw[Zu];refine(d2.map λx=>toV x.2).trans ?_;rw[PyProof.Rows.pairsOf_toList,de,List.map_map];exact List.Perm.refl _
  have eq2:xs.toList.map (λx=>toV x.2)=(xs.map (·.2)).toList.map toV:=by
   rw[Array.toList_map,List.map_map];rfl
  refine⟨.ref (s.heap.objs.size+1),_,I.laid (t':=s.toks) (o:=.lst (xs.toList.map λx=>toV x.2)) kg (Nat.le_succ _) ⟨?_,(xs.map (·.2)).toList,c,?_,hg⟩,rfl,q _ perm ?_ _ (I.bP.fresh (Nat.le_succ _))⟩
  ·rw[perm.length_eq];exact hz
  ·rw[eq2]
   refine Hj λv hv=>?_;rw[Array.toList_map]at hv;obtain⟨x,hx,rfl⟩:=List.mem_map.mp hv;have:=e9 x hx;exact Cu _ (this.2 ▸ this.1)
  ·rw[List.pairwise_map]
   refine List.pairwise_iff_getElem.mpr λi j hi hj jy=>?_;have kh:i<xs.size:=by simpa using hi
   have yJ:j<xs.size:=by simpa using hj
   have h1:=hs i j (Nat.zero_le _) (Nat.le_of_lt jy) ⋯
   rw[Vs.cF (Array.getElem?_eq_getElem kh),Vs.cF (Array.getElem?_eq_getElem yJ)]at h1;have e1:xs.toList[i]=xs[i]:=rfl;have e2:xs.toList[j]=xs[j]:=rfl;rw[e1,e2];have m1:=e9 xs[i] (by simp)
   have m2:=e9 xs[j] (by simp)
   have:=Vs.ux (d:=λx=>dd (toV x.1)) (l:=(PyProof.Rows.pairsOf its).toList) (x:=xs[j]) (y:=xs[i]) (d2.mem_iff.mp (by simp))
   rw[decide_eq_false ⋯]at this
   rw[<- m1.2,<- m2.2];exact this.symm
variable [KF]
variable {G:GE}{k:Nat}{S:Stat}
def d3:D->List Int
 | .tup xs=>xs.map ig
 | .int i=>[i]
 | _=>[]
def xn(x y:D):Bool:=!HT.lexLt (d3 y) (d3 x)
def cD(xs:List D):List D:=xs.mergeSort xn
def ie:D->Bool
 | .tup xs=>xs.all isInt&&!xs.isEmpty
 | _=>false
theorem yY(a b c:D)(h1:xn a b=true)(h2:xn b c=true):xn a c=true:=by
 unfold xn at *;simp only[Bool.not_eq_true']at *;cases e:HT.lexLt (d3 c) (d3 a)with
 | false=>rfl
 | true =>
  cases e2:HT.lexLt (d3 c) (d3 b)with
  | true=>rw[h2]at e2;cases e2
  | false =>
   cases e3:HT.lexLt (d3 b) (d3 c)with
   | true=>rw[Vs.fB _ _ _ e3 e]at h1;cases h1
   | false=>rw[Vs.pY _ _ e2 e3]at e;rw[e]at h1;cases h1
theorem yX(a b:D):(xn a b||xn b a)=true:=by
 unfold xn;cases e:HT.lexLt (d3 b) (d3 a)with
 | false=>rfl
 | true =>
  cases e2:HT.lexLt (d3 a) (d3 b)with
  | false=>rfl
  | true=>have:=Vs.fB _ _ _ e e2;rw[Vs.jF]at this;cases this
theorem cq(xs:List D):(cD xs).Perm xs:=List.mergeSort_perm xs xn
theorem eP(xs:List D):(cD xs).Pairwise λx y=>xn x y=true:=List.pairwise_mergeSort yY yX xs
theorem ints_map:∀ {xs:List D},xs.all isInt=true->(xs.map ig).map D.int=xs
 | [],_=>rfl
 | x::xs,h=>by
  rw[List.all_cons,Bool.and_eq_true]at h;cases x with
  | int i=>rw[List.map_cons,List.map_cons,ints_map h.2];rfl
  | _=>exact absurd h.1 (by simp [isInt])
theorem fN{d:D}(h:ie d=true):d=.tup ((d3 d).map D.int):=by
 cases d with
 | tup xs =>
  unfold ie at h;rw[Bool.and_eq_true]at h;show D.tup xs=.tup ((xs.map ig).map D.int);rw[ints_map h.1]
 | _=>exact absurd h (by simp [ie])
theorem fE{α:Type}{r:α->α->Prop}:∀ {l m:List α},l.Perm m->(∀a∈l,∀b∈l,r a b->r b a->a=b)->l.Pairwise r->m.Pairwise r->l=m
 | [],m,h,_,_,_=>(List.nil_perm.mp h).symm
 | a::l,[],h,_,_,_=>by have:=h.length_eq;simp at this
 | a::l,b::m,h,Rb,h1,h2=>by
  have hb:b∈a::l:=h.symm.mem_iff.mp (List.mem_cons_self ..);have ha:a∈b::m:=h.mem_iff.mp (List.mem_cons_self ..);rw[List.pairwise_cons]at h1 h2;have e:a=b:=by
   rcases List.mem_cons.mp hb with e|hb
   ·exact e.symm
   ·rcases List.mem_cons.mp ha with e|ha
    ·exact e
    ·exact Rb a (List.mem_cons_self ..) b (List.mem_cons_of_mem _ hb) (h1.1 b hb) (h2.1 a ha)
  subst e;rw[fE h.cons_inv (λx hx y hy=>Rb x (List.mem_cons_of_mem _ hx) y (List.mem_cons_of_mem _ hy)) h1.2 h2.2]
theorem mD{xs ys:List D}(h:xs.all ie=true)(hp:ys.Perm xs)(hs:ys.Pairwise λx y=>xn x y=true):ys=cD xs:=by
 refine fE (hp.trans (cq xs).symm) (λa ha b hb h1 h2=>?_) hs (eP xs);have ia:=fN (List.all_eq_true.mp h a (hp.mem_iff.mp ha));have ib:=fN (List.all_eq_true.mp h b (hp.mem_iff.mp hb));unfold xn at h1 h2;simp only[Bool.not_eq_true']at h1 h2;rw[ia,ib,Vs.pY _ _ h2 h1]
def kO:List D->(EV->Prop)->Prop
 | [.lst xs],Q=>xs.all ie=true/\Q (.own (cD xs))
 | _,_=>False
def nM(F:Hp):V->List Int
 | .ref a=>match F a with
  | some (.tup vs)=>vs.map λv=>match v with|.int i=>i|.tk i=>i|_=>0
  | _=>[]
 | _=>[]
theorem pz{F:Hp}{v:V}{d:D}(r:Rep F v d)(h:ie d=true):nM F v=d3 d/\∃a,v=.ref a/\F a=some (.tup ((d3 d).map V.int)):=by
 cases r with
 | tup hf rl =>
  unfold ie at h;rw[Bool.and_eq_true]at h;have e:=rl.ints h.1;subst e;refine⟨?_,_,rfl,hf⟩;unfold nM;dsimp only;rw[hf];dsimp only;rw[List.map_map];exact(List.map_congr_left (λx _=>rfl)).trans (List.map_id _)
 | _=>exact absurd h (by simp [ie])
theorem uq{F:Hp}:∀ {vs:List V} {xs:List D},aE F vs xs->xs.all ie=true->xs=vs.map λv=>.tup ((nM F v).map D.int)
 | _,_,.nil,_=>rfl
 | _,_,.cons r t,h=>by
  rw[List.all_cons,Bool.and_eq_true]at h;rw[List.map_cons,<- uq t h.2,(pz r h.1).1,<- fN h.1]
theorem aE.mem{F:Hp}:∀ {vs:List V} {xs:List D},aE F vs xs->∀v∈vs,∃d∈xs,Rep F v d
 | _,_,.cons r t,v,hv=>by
  rcases List.mem_cons.mp hv with rfl|hv
  ·exact⟨_,List.mem_cons_self ..,r⟩
  ·obtain⟨d,hd,rd⟩:=aE.mem t v hv
   exact⟨d,List.mem_cons_of_mem _ hd,rd⟩
theorem qt{F:Hp}{f:V->D}:∀ {vs:List V},(∀v∈vs,Rep F v (f v))->aE F vs (vs.map f)
 | [],_=>.nil
 | v::vs,h=>.cons (h v (List.mem_cons_self ..)) (qt λu hu=>h u (List.mem_cons_of_mem _ hu))
theorem Bu:yj G k S (.builtin "sorted") kO:=⟨λK xs H Q=>∃(p:Addr) (us:List V) (dd:V->List Int),xs=[.ref p]/\dY K H p us/\(∀u∈us,(∃a zs,u=.ref a/\gS K H a zs/\zs.map V.wk=(dd u).map V.int)/\dd u≠[]) /\
  ∀(kS:List V),kS.Perm us->kS.Pairwise (λx y=>HT.lexLt (dd y) (dd x)=false)->∀l,H l=none->Q (.ref l) (upd H l (.lst kS)),λ_ _ ok=>j4,λY F H ak σ vs ds Qd Q R r q g=>by
 unfold kO at q
 split at q
 ·rename_i xs
  obtain⟨v,rfl,rv⟩:=r.one;obtain⟨p,us,rfl,h1,h2⟩:=rv.lst;have all:=List.all_eq_true.mp q.1;refine⟨p,us,nM F,rfl,.inl h1,λu hu=>?_,λkS hp hs=>?_⟩
  ·obtain⟨d,hd,rd⟩:=h2.mem u hu
   obtain⟨e1,a,rfl,e2⟩:=pz rd (all d hd);refine⟨⟨a,(nM F (.ref a)).map V.int,rfl,.of (by rw[e1];exact R.fr _ _ e2),by rw[List.map_map];rfl⟩,?_⟩
   rw[e1];have hi:=all d hd;cases d with
   | tup ys =>
    unfold ie at hi;rw[Bool.and_eq_true]at hi;intro z;have:ys=[]:=by simpa [d3]using z
    subst this;exact absurd hi.2 ∅
   | _=>exact absurd hi (by simp [ie])
  ·have ex:=uq h2 q.1
   have rep:∀v∈kS,Rep F v (.tup ((nM F v).map D.int)):=λv hv=>by
    obtain⟨d,hd,rd⟩:=h2.mem v (hp.mem_iff.mp hv);rw[(pz rd (all d hd)).1,<- fN (all d hd)];exact rd
   have key:∀v,d3 (.tup ((nM F v).map D.int))=nM F v:=λv=>by
    show((nM F v).map D.int).map ig=_;rw[List.map_map];exact(List.map_congr_left (λx _=>rfl)).trans (List.map_id _)
   have e:kS.map (λv=>D.tup ((nM F v).map D.int))=cD xs:=by
    refine mD q.1 (by rw[ex];exact hp.map _) ?_
    rw[List.pairwise_map];refine hs.imp λ{x y} h=>?_;unfold xn;rw[key,key,h];rfl
   have rl:=qt rep;rw[e]at rl;exact g.own R rl q.2
 ·exact q.elim⟩
end Vc
namespace Vc
open PySem L2
variable [KF]
variable {G:GE}{k:Nat}{S:Stat}
def Ct(i:Nat)(j:Int)(d:D)(σ:Sd)(Q:Sd->Prop):Prop:=match σ[i]? with
 | some (some (.own xs))=>match yS xs.length j with
  | some m=>Q (σ.set i (some (.own (xs.set m d))))
  | none=>False
 | _=>False
def uF(i:Nat)(tx:TV)(te:TD):cA:=λDe σ=>te σ λd aw=>sZ aw i/\tx aw λy bq=>match dZ bq y with
 | some (.int j)=>Ct i j d bq De.nx
 | _=>False
theorem GL{X:Cx}{st:Stmt}{t t':TS}(h:PS X st t)(i:∀Dn σ H,t' Dn σ H->t Dn σ H):PS X st t':=λpins s σ H Dn I q=>h pins s σ H Dn I (i Dn σ H q)
theorem v8(i:Nat){x:Str}{ix e:Expr}{tx:TV}{te:TD}{pos fb fD:Pos}(he:ED G k S e te)(hx:EO G k S ix tx)(ho:EO G k S (.Name x fD) (af i))
  (hs:∀line env,swapsWithSole [.Subscript (.Name x fD) ix fb] e line env=pure false:=by intro _ _;rfl) (hw:∀env,swappedStores [.Subscript (.Name x fD) ix fb] e env=pure none:=by intro _;rfl)
  (h1:∀env,(assignEach [.Subscript (.Name x fD) ix fb] env).map (·.2)=[assign (.Subscript (.Name x fD) ix fb) env]:=by intro _;rfl)
  (ha:∀env v,assign (.Subscript (.Name x fD) ix fb) env v=(do
   let ov <- holding [v] (eval (.Name x fD) env)
   let iv <- holding [v,ov] (eval ix env)
   standAt fb
   holding [v,ov,iv] (setItem ov iv v)
   release [v,ov,iv] []):=by intro _ _;rfl):ES G k S (.Assign [.Subscript (.Name x fD) ix fb] e pos) (uF i tx te):=.mk λX Y ok =>
 GL (Oh (he X Y ok) (NR (ho X Y ok) (hx X Y ok) set_list (ha _)) (hs _ _) (hw _) (h1 _)) λDn σ H q=>by
  obtain⟨F,ak,De,R,q,K⟩:=q;refine⟨F,ak,_,R,q,λv H1 F1 d aw s1 R1 r1 q1=>?_⟩;obtain⟨⟨ys,e0⟩,q1⟩:=q1;refine⟨F1,aw,λov bq=>ov=.var i/\bq=aw,R1,?_,λv2 H2 F2 ov bq s2 R2 r2 q2=>?_⟩
  ·unfold af;rw[e0];exact⟨rfl,rfl⟩
  ·obtain⟨rfl,rfl⟩:=q2
   have r2:σ[i]?=some (some v2):=r2;refine⟨F2,bq,_,R2,q1,λv3 H3 F3 y fe s3 R3 r3 q3=>?_⟩
   split at q3
   ·rename_i j ej
    unfold Ct at q3
    split at q3
    ·rename_i xs ex
     split at q3
     ·rename_i m em
      obtain⟨a,vs,w1,w2,w3,w4,w5⟩:=R3.own i xs ex;rw[r2]at w1;cases w1;have rj:=(R3.dZ r3 ej).int;subst rj;refine⟨a,vs,j,m,rfl,rfl,w2,by rw[w3.length];exact em,?_⟩
      exact K.nx _ _ F3 _ ((s1.trans s2).trans s3) (R3.write ex r2 (aE.set ((r1.mono s2).mono s3) m w3)) q3
     ·exact q3.elim
    ·exact q3.elim
   ·exact q3.elim
abbrev mU:=List D->List D->(B->List D->Prop)->Prop
def qL(sp:mU):Sp:=λvs H Q _=>∃F xs ds a us rest Qd,vs=.ref a::rest/\rR F H/\H a=some (.lst us)/\aE F us xs/\F a=none/\aE F rest ds/\sp xs ds Qd /\
 ∀v H' F' b ys kS,ao F F'->ao F' H'->(∀c o,c≠a->H c=some o->H' c=some o)->H' a=some (.lst kS)->aE F' kS ys->F' a=none->(∀c o,F' c=some o->F c=some o\/Nw H c o)->JG H F' H' v b->Qd b ys->Q v H'
def jn(G:GE)(k:Nat)(x:Str)(sp:mU):Prop:=∃f fd ps,dD G.P G.w G.K G.mg G.base rC k f fd ps (qL sp)/\G.mg x=some (.ref f)/\PySem.W.keepIn G.K (.ref f)=true/\Binds G.K fd ps []
theorem jn.mono{x:Str}{sp:mU}{j:Nat}(h:jn G j x sp)(l:j<=k):jn G k x sp:=by
 obtain⟨f,fd,ps,h1,h2,h3,h4⟩:=h;exact⟨f,fd,ps,h1.mono l,h2,h3,h4⟩
theorem cH.Jj{ak:Sd}{σ:St}{a:Addr}{i:Nat}{xs ys:List D}(h:cH ak σ a)(e:ak[i]?=some (some (.own xs))):cH (ak.set i (some (.own ys))) σ a:=by
 refine⟨λj js e1 z=>?_,λ⟨j,o,c,e1,e2,hm⟩=>?_⟩
 ·rcases gs e1 with⟨rfl,_⟩|⟨_,e1⟩
  ·exact h j xs e z
  ·exact h j js e1 z
 ·rcases gs e1 with⟨_,z⟩|⟨_,e1⟩
  ·cases z
  ·exact h.IW ⟨j,o,c,e1,e2,hm⟩
theorem RS.J9{Y:bC}{F F':Hp}{ak:Sd}{σ:St}{H H':Hp}{i:Nat}{xs ys:List D}{a:Addr}{us:List V}(R:RS Y F ak σ H)(e:ak[i]?=some (some (.own xs)))(h:σ[i]?=some (some (.ref a)))(s1:ao F F')(s2:ao F' H')(s3:∀c o,c≠a->H c=some o->H' c=some o)
  (ha:H' a=some (.lst us)) (r:aE F' us ys) (fa:F' a=none) (fr:∀c o,F' c=some o->F c=some o\/Nw H c o):RS Y F' (ak.set i (some (.own ys))) σ H':=by
 obtain⟨b,vs,w1,w2,w3,w4,w5⟩:=R.own i xs e;rw[h]at w1;cases w1;have hl:i<ak.length:=(List.getElem?_eq_some_iff.mp e).1;have LO:rO Y F' (ak.set i (some (.own ys))) σ H':=R.ob.step s1 (λj o q=>by
  rcases gs q with⟨_,z⟩|⟨hj,q⟩
  ·cases z
  ·exact⟨q,rfl⟩) (λb hb=>by
  obtain⟨z1,z2,z3⟩:=R.ob.owned hb;have cm:b≠a:=λz=>R.ob.ju i xs a e h (z ▸ hb);refine⟨?_,?_,z3⟩
  ·cases q:H b with
   | none=>exact absurd q z2
   | some o=>exact s3 b o cm q
  ·cases q:F' b with
   | none=>rfl
   | some o =>
    rcases fr b o q with w|w
    ·rw[z1]at w;cases w
    ·rcases w with w|⟨ws,rfl⟩
     ·exact absurd w z2
     ·cases q3:H b with
      | none=>exact absurd q3 z2
      | some o3 =>
       have y:=s2 b _ q;rw[s3 b o3 cm q3]at y;cases y;exact absurd q3 (R.ob.IY hb)) (λj zs b q1 q2=>by
  rcases gs q1 with⟨e1,_⟩|⟨hj,q1⟩
  ·subst e1
   rw[h]at q2;cases q2;exact R.ob.ju j xs a e h
  ·exact R.ob.ju j zs b q1 q2) λb hb=>by
  by_cases cm:b=a
  ·rw[cm,ha];exactλz=>nomatch z
  ·cases q:H b with
   | none=>exact absurd q (R.ob.there b hb)
   | some o=>rw[s3 b o cm q];exactλz=>nomatch z
 refine⟨by simpa using R.len,R.lo.trans s1,s2,λb o q=>?_,λb o q n=>?_,λj d q=>?_,λj zs q=>?_,λj l zs qs b q1 q2 q3 q4=>?_,λp hp=>?_,LO⟩
 ·rcases fr b o q with h|h
  ·exact R.fh b o h
  ·exact .inr (h.imp (λh=>(R.b7 h).1) id)
 ·have:b≠a:=λz=>by
   subst z;rcases w5 with w5|w5
   ·rw[w5]at q;cases q
   ·exact bC.xg n w5
  exact s3 b o this (R.old b o q n)
 ·rcases gs q with⟨_,z⟩|⟨hj,q⟩
  ·cases z
  ·obtain⟨v,h1,h2⟩:=R.sh j d q
   exact⟨v,h1,h2.mono s1⟩
 ·rcases gs q with⟨rfl,z⟩|⟨hj,q⟩
  ·cases z
   exact⟨a,us,h,ha,r,fa,w5⟩
  ·obtain⟨b,ws,z1,z2,z3,z4,z5⟩:=R.own j zs q
   have:b≠a:=λz=>hj (R.dis j i zs xs a q e (z ▸ z1) h);refine⟨b,ws,z1,s3 b _ this z2,z3.mono s1,?_,z5⟩;cases q':F' b with
   | none=>rfl
   | some o =>
    rcases fr b o q' with h|h
    ·rw[z4]at h;cases h
    ·rcases h with h|⟨ws',rfl⟩
     ·rw[z2]at h;cases h
     ·have y:=s2 b _ q';rw[s3 b _ this z2]at y;cases y
 ·have f:∀ {m:Nat} {ms:List D},(ak.set i (some (B.own ys)))[m]?=some (some (B.own ms))->∃Yy,ak[m]?=some (some (B.own Yy)):=λ{m ms} q=>by
   rcases gs q with⟨rfl,z⟩|⟨hj,q⟩
   ·exact⟨xs,e⟩
   ·exact⟨_,q⟩
  obtain⟨_,q1⟩:=f q1;obtain⟨_,q2⟩:=f q2;exact R.dis j l _ _ b q1 q2 q3 q4
 ·obtain⟨z1,zs,z2⟩:=R.io p hp
  refine⟨z1,?_⟩
  by_cases LR:p.1=i
  ·exact⟨ys,by rw[LR,sR hl]⟩
  ·exact⟨zs,by rw[bG LR];exact z2⟩
def WH(sp:mU)(xs ds:List D)(Q:B->List D->Prop):Prop:=sp xs ds Q
def fc(sp:mU)(i:Nat)(t:eD):TX:=λσ Q=>sZ σ i/\t σ λds aw=>match aw[i]? with
 | some (some (.own xs))=>WH sp xs ds λb ys=>Q (bE b) (aw.set i (some (.own ys)))
 | _=>False
theorem bH{x y:Str}{sp:mU}{i:Nat}{es:List Expr}{t:eD}{p pos fD:Pos}(h:jn G k x sp)(ho:EO G k S (.Name y fD) (af i))(ha:vf G k S es t)(hg:S.sc.lookup x=some .globalImplicit:=by rfl)(sW:(x==("__debug__":Str))=false:=by decide)
  (he:∀env,starEach (.Name y fD::es) env=(false,eval (.Name y fD) env)::starEach es env:=by intro _;rfl) (d2:∀env,(backTo pos (starEach es env)).any (·.1)=false:=by intro _;rfl) (hh:S.kE=false:=by rfl):EX G k S (.Call (.Name x p) (.Name y fD::es) [] pos) (fc sp i t):=.mk λX Y ok=>by
 obtain⟨f,fd,ps,h1,h2,h3,h4⟩:=h;have vG:dD X.prog X.w X.K X.mg X.base rC k f fd ps (qL sp):=by rw[ok.P,ok.w,ok.K,ok.mg,ok.base];exact h1
 refine aP (qg (E:=E0) (dvs:=[]) (ds:=[]) vG (ok.room hh) (cz ok hg) (by rw[ok.mg];exact h2) (by rw[ok.K];exact h3) (by rw[ok.K];exact h4) .nil C0 (bS (ho X Y ok) (ha X Y ok) (he _)) sW (he _) (d2 _)) λσ H Q q=>?_
 obtain⟨F,ak,Qd,R,⟨⟨ys,e0⟩,q⟩,K⟩:=q;refine⟨F,ak,λov bq=>ov=.var i/\bq=ak,R,?_,λv1 H1 F1 ov aw s1 R1 r1 q1=>?_⟩
 ·unfold af;rw[e0];exact⟨rfl,rfl⟩
 obtain⟨rfl,rfl⟩:=q1;have r1:σ[i]?=some (some v1):=r1;refine⟨F1,aw,_,R1,q,λvs H2 F2 ds bq s2 R2 r2 q2=>?_⟩
 split at q2
 ·rename_i xs ex
  obtain⟨a,us,w1,w2,w3,w4,w5⟩:=R2.own i xs ex;rw[r1]at w1;cases w1;show qL sp ((.ref a::vs)++[]) H2 Q E0;rw[List.append_nil];refine⟨F2,xs,ds,a,us,vs,_,rfl,⟨R2.fr,R2.ob.tab⟩,w2,w3,w4,r2,q2,λv H' F' b zs kS t1 t2 t3 t4 t5 t6 t7 t8 t9=>?_⟩;have R3:=R2.J9 ex r1 t1 t2 t3 t4 t5 t6 t7;cases b with
  | sh d=>exact K v H' F' (.val d) _ ((s1.trans s2).trans t1) R3 t8 t9
  | own ws =>
   obtain⟨c,cs,rfl,z1,z2,z3,z4⟩:=t8;refine K _ H' F' (.own ws) _ ((s1.trans s2).trans t1) R3 ⟨c,cs,rfl,z1,z2,z3,(R2.b7 z4).1,(R2.dg z4).Jj ex⟩ t9
  | obj o =>
   obtain⟨c,rfl,z1,z2⟩:=t8;exact K _ H' F' (.obj o) _ ((s1.trans s2).trans t1) R3 ⟨c,rfl,z1,λb hb=>⟨(z2 b hb).1,(z2 b hb).2.1,(R2.b7 (z2 b hb).2.2).1,(R2.dg (z2 b hb).2.2).Jj ex⟩⟩ t9
 ·exact q2.elim
def bw(n:Nat)(xs ds:List D):Sd:=some (.own xs)::aY (n-1) ds
def yP(Q:B->List D->Prop)(b:B)(σ:Sd):Prop:=match σ[(0:Nat)]? with
 | some (some (.own ys))=>Q b ys
 | _=>False
theorem RS.bw{F H:Hp}{a:Addr}{us rest:List V}{xs ds:List D}(n:Nat)(hn:1<=n)(s:rR F H)(ha:H a=some (.lst us))(ru:aE F us xs)(fa:F a=none)(r:aE F rest ds):
  RS ⟨H,F,[(0,a)],[]⟩ F (bw n xs ds) ((V.ref a::rest).map some++List.replicate (n-(V.ref a::rest).length) none) H where
 len:=by unfold Vc.bw aY;simp [r.length];omega
 lo:=ao.refl _
 fr:=s.1
 fh:=λb o e=>.inl e
 old:=λb o e _=>e
 sh:=λi d e=>by
  cases i with
  | zero=>unfold Vc.bw at e;simp at e
  | succ i =>
   have e':(aY (n-1) ds)[i]?=some (some (.sh d)):=by unfold Vc.bw at e;simpa using e
   obtain⟨v,h1,h2⟩:=mK (n-1-ds.length) r e';refine⟨v,?_,h2⟩;have:n-(V.ref a::rest).length=n-1-ds.length:=by rw[List.length_cons,r.length];omega
   rw[this];simpa using h1
 own:=λi zs e=>by
  cases i with
  | zero =>
   unfold Vc.bw at e;simp at e;subst e;exact⟨a,us,by simp,ha,ru,fa,.inr (by simp [bC.Tw])⟩
  | succ i =>
   have e':(aY (n-1) ds)[i]?=some (some (.own zs)):=by unfold Vc.bw at e;simpa using e
   exact absurd e' (eA _ _ _ _)
 dis:=λi j zs ys b e1 e2 _ _=>by
  have z:∀ {i:Nat} {zs:List D},(Vc.bw n xs ds)[i]?=some (some (.own zs))->i=0:=λ{i zs} e=>by
   cases i with
   | zero=>rfl
   | succ i =>
    have e':(aY (n-1) ds)[i]?=some (some (.own zs)):=by unfold Vc.bw at e;simpa using e
    exact absurd e' (eA _ _ _ _)
  rw[z e1,z e2]
 io:=λp hp=>by
  have:p=(0,a):=by simpa using hp
  subst this;exact⟨by simp,xs,rfl⟩
 ob:=.none (λi o e=>by
  cases i with
  | zero=>unfold Vc.bw at e;simp at e
  | succ i =>
   have e':(aY (n-1) ds)[i]?=some (some (.obj o)):=by unfold Vc.bw at e;simpa using e
   exact absurd e' (jS _ _ _ _)) s.2 λb hb=>by cases hb
theorem Ft{x qual:Str}{st:Stmt}{f:Addr}{fd:FuncData}{N ps:List Str}{sp:mU}{t:cA}(hK:G.K=KF.K)(Fn:HN G.K x qual st f fd)(Sc:aL N ps (ah st))(ht:eG G k ⟨N,(ah st).names,[0],false,false,false,λ_ _=>False⟩ (ax st) t)(hn:1<=N.length)
  (len:∀xs ds Q,sp xs ds Q->ds.length+1=ps.length)
  (body:∀xs ds Q,sp xs ds Q->t {nx:=yP Q (.sh .bx),rt:=λb σ=>yP Q b σ} (bw N.length xs ds)):dD G.P G.w G.K G.mg G.base rC (k+1) f fd ps (qL sp):=by
 refine Fn.ok Sc (λvs H Q E h=>?_) (λgN A outer s H vs Q E hr h=>?_)
 ·obtain⟨F,xs,ds,a,us,rest,Qd,rfl,s,h1,h2,h3,r,q,K⟩:=h
  rw[List.length_cons,r.length];exact len _ _ _ q
 ·obtain⟨F,xs,ds,a,us,rest,Qd,rfl,sm,h1,h2,h3,r,q,K⟩:=h
  refine⟨_,ht (pv rC G.P G.w G.K G.mg G.base N qual (ah st) f gN A outer s H E).MI ⟨H,F,[(0,a)],[]⟩ ⟨rfl,rfl,rfl,hK,rfl,rfl,rfl,rfl,Sc.nd,λp hp=>by
   have:p=(0,a):=by simpa using hp
   subst this;simp,(λ_ h=>nomatch h),λ_=>rfl,Sc.kind,λ_ _ _=>rfl,λ_=>hr.hd,hr.dp,hr.un,λ_=>PassesOwn.never,λ_=>⟨rfl,rfl,rfl⟩,λ_ _ h=>h.elim,(λh=>nomatch h),λh=>nomatch h⟩,F,bw N.length xs ds,_,RS.bw _ hn sm h1 h2 h3 r,body xs ds Qd q,?_⟩
  have same:∀ {F':Hp} {ak:Sd} {σ:St} {H':Hp},RS ⟨H,F,[(0,a)],[]⟩ F' ak σ H'->∀c o,c≠a->H c=some o->H' c=some o:=λR c o hc e=>R.old c o e (by simpa [bC.Cp]using hc)
  have fin:∀ {F':Hp} {ak:Sd} {σ:St} {H':Hp} {v:V} {b:B},ao F F'->RS ⟨H,F,[(0,a)],[]⟩ F' ak σ H'->JG H F' H' v b->yP Qd b ak->Q v H':=λ{F' ak σ H' v b} s' R' r' q'=>by
   unfold yP at q'
   split at q'
   ·rename_i ys ey
    obtain⟨c,kS,w1,w2,w3,w4,w5⟩:=R'.own 0 ys ey;have i0:=(R'.io (0,a) (by simp)).1
    rw[i0]at w1;cases w1;exact K v H' F' b ys kS s' R'.fr (same R') w2 w3 w4 R'.fh r' q'
   ·exact q'.elim
  refine⟨λσ H' F' ak s' R' q'=>?_,λv σ H' F' ak b s' R' r' q'=>?_,λ_ _ _ _ _ _ h=>h.elim,λ_ _ _ _ _ _ h=>h.elim⟩
  ·exact fin (b:=.sh .bx) s' R' .bx q'
  ·refine fin (b:=b) s' R' ?_ q'
   cases b with
   | sh d=>exact r'
   | own xs =>
    obtain⟨a,us,rfl,w1,w2,w3,w4,w5⟩:=r';exact⟨a,us,rfl,w1,w2,w3,w4⟩
   | obj o =>
    obtain⟨a,rfl,w1,w2⟩:=r';exact⟨a,rfl,w1,λb hb=>⟨(w2 b hb).1,(w2 b hb).2.1,(w2 b hb).2.2.1⟩⟩
theorem cT.Xn{x:Str}{st:Stmt}{ps N:List Str}{f:Addr}{fd:FuncData}{t:cA}{sp:mU}(d:cT G x st ps f fd)(hK:G.K=KF.K)(Sc:aL N ps (ah st))(ht:eG G k ⟨N,(ah st).names,[0],false,false,false,λ_ _=>False⟩ (ax st) t)(hn:1<=N.length)
  (len:∀xs ds Q,sp xs ds Q->ds.length+1=ps.length) (body:∀xs ds Q,sp xs ds Q->t {nx:=yP Q (.sh .bx),rt:=λb σ=>yP Q b σ} (bw N.length xs ds)):jn G (k+1) x sp:=
 ⟨f,fd,ps,Ft hK d.F Sc ht hn len body,d.m,d.F.kp,d.b⟩
end Vc
namespace Vc
open PySem L2
variable [KF]
variable {G:GE}{k:Nat}{S:Stat}
def aO(S:Stat)(scope:Scope)(N':List Str)(m:Nat):Stat:=⟨N',iD scope.names S.sc,[m],true,false,false,λ_ _=>False⟩
end Vc
namespace Vc
open PySem L2
variable [KF]
variable {G:GE}{k:Nat}{S:Stat}
def Fo(i:Nat)(ys:List D)(σ:Sd)(Q:Sd->Prop):Prop:=match σ[i]? with
 | some (some (.own xs))=>xs.length+ys.length<=sizeLine/\Q (σ.set i (some (.own (xs++ys))))
 | _=>False
def Pp(to:TV)(te:TX):TX:=λσ Q=>to σ λx aw=>match x with
 | .var i=>sZ aw i/\te aw λd bq=>match d with
  | .own ys=>Fo i ys bq λfe=>Q (.val .bx) fe
  | _=>False
 | _=>False
theorem Dw{o e:Expr}{to:TV}{te:TX}{apos cpos:Pos}(ho:EO G k S o to)(he:EX G k S e te)(hb:∀env,attributeBase o "extend" env (eval o env)=eval o env:=by intro _;rfl)
  (B8:∀env,((backTo cpos (starEach [e] env)).all (λx=>!x.1)&&(backToKw cpos (keywordEach [] env)).all (λx=>x.1.isSome)&&decide (([e]:List Expr).length+([]:List Keyword).length+(if([]:List Keyword).isEmpty then 0 else 1)<30))=true:=by intro _;rfl)
  (hline:(apos.endLine==cpos.line)=true:=by rfl) (hs:∀env,starEach [e] env=[(false,eval e env)]:=by intro _;rfl):EX G k S (.Call (.Attribute o "extend" apos) [e] [] cpos) (Pp to te):=.mk λX Y ok=>by
 have ha:PA X [e] (dX (lX Y te) mN):=bS (he X Y ok) cW (by rw[hs];rfl)
 refine aP (C1 F.plainAttrs_list F.slot_list_extend F.type_list_extend y8 (ho X Y ok) ha (hb _) (B8 _) hline (by rw[hs];rfl) (by rfl)) λσ H Q q=>?_
 obtain⟨F,ak,Qd,R,q,K⟩:=q;refine⟨F,ak,_,R,q,λv1 H1 F1 x aw s1 R1 r1 q1=>?_⟩;cases x with
 | val d=>exact q1.elim
 | any=>exact q1.elim
 | var i =>
  obtain⟨⟨ys,e0⟩,q1⟩:=q1;have r1:σ[i]?=some (some v1):=r1;obtain⟨a,vs,w1,w2,w3,w4,w5⟩:=R1.own i ys e0;rw[r1]at w1;cases w1;refine⟨.inl ⟨rfl,vs,.of w2⟩,F1,aw,_,R1,q1,λv2 H2 F2 d bq s2 R2 r2 q2=>?_⟩;cases d with
  | val _=>exact q2.elim
  | var _=>exact q2.elim
  | obj _=>exact q2.elim
  | any=>exact q2.elim
  | own zs =>
   have q2:Fo i zs bq λfe=>Qd (.val .bx) fe:=q2;unfold Fo at q2
   split at q2
   ·rename_i xs e2
    obtain⟨b,us,z1,z2,z3,z4,z5⟩:=R2.own i xs e2;rw[r1]at z1;cases z1;obtain⟨c,cs,rfl,y1,y2,y3⟩:=r2;exact⟨a,c,us,cs,rfl,rfl,z2,y1,by rw[z3.length,y2.length];exact q2.1,K .bx _ F2 (.val .bx) _ (s1.trans s2) (R2.write e2 r1 (z3.append y2)) .bx q2.2⟩
   ·exact q2.elim
def rM(i j:Int):Prop:=0<j/\j<2^200
theorem CN{X:Cx}:f9 X (binaryOp .FloorDiv) (rI rM λi j=>.int (i/j)):=Ws λi j _ _ _ _ _ hc q=>by
 have h1:(0:Int)<j:=hc.1;have h2:j<2^200:=hc.2;refine PyProof.Rows.floordiv_int ⋯ (by rw[Int.fdiv_eq_ediv_of_nonneg i ⋯];exact q) (.inl (PyProof.noPylong_of_log2 ?_))
 have h3:j.natAbs<2^200:=by omega
 exact(Nat.log2_lt ⋯).mpr (Nat.lt_of_lt_of_le h3 (Nat.pow_le_pow_right ∅ ∅))
def sI:=Qu rM λi j=>i/j
theorem qp{a b:Expr}{ta tb:TV}{pos:Pos}(ha:EO G k S a ta)(hb:EO G k S b tb):EX G k S (.BinOp a .FloorDiv b pos) (aW sI ta tb):=mq (r:=λ_=>_) (λ_=>CN) (λ_=>lC) ha hb
end Vc
namespace Vc
open PySem L2
variable [KF]
variable {G:GE}{k:Nat}{S:Stat}
def bC.m9(Y:bC)(F H:Hp)(ps:List Addr):bC:=⟨λb=>if b∈ps then H b else Y.H0 b,F,Y.io,Y.ob⟩
structure jl(Y:bC)(F:Hp)(ak:Sd)(σ:St)(H:Hp)(b:Addr)(o:HO):Prop where
 h:H b=some o
 f:F b=none
 no:cH ak σ b
 z:Y.H0 b=none
 nb:b∉Y.ob
 nt:∀vs,o≠.tup vs
theorem RS.GJ{Y:bC}{F:Hp}{ak:Sd}{σ:St}{H:Hp}(R:RS Y F ak σ H)(ps:List Addr)(hP:∀b∈ps,∃o,jl Y F ak σ H b o):RS (Y.m9 F H ps) F ak σ H where
 len:=R.len
 lo:=ao.refl _
 fr:=R.fr
 fh:=λb o e=>.inl e
 old:=λb o e n=>by
  have e:(if b∈ps then H b else Y.H0 b)=some o:=e
  split at e
  ·exact e
  ·exact R.old b o e n
 sh:=R.sh
 own:=λi xs e=>by
  obtain⟨a,vs,h1,h2,h3,h4,h5⟩:=R.own i xs e;refine⟨a,vs,h1,h2,h3,h4,?_⟩;rcases h5 with h5|h5
  ·left
   show(if a∈ps then H a else Y.H0 a)=none
   rw[if_neg λhp=>by obtain⟨o,ap⟩:=hP a hp;exact ap.no i xs e h1]
   exact h5
  ·exact .inr h5
 dis:=R.dis
 io:=R.io
 ob:=R.ob.step (ao.refl _) (λ_ _ e=>⟨e,rfl⟩) (λb hb=>by
  obtain⟨w1,w2,w3⟩:=R.ob.owned hb;refine⟨rfl,w1,w3.imp (λz=>?_) id⟩;show(if b∈ps then H b else Y.H0 b)=none
  rw[if_neg λhp=>by obtain⟨o,ap⟩:=hP b hp;exact ap.no.IW hb]
  exact z) R.ob.ju R.ob.there λb hb=>⟨hb,λh=>by
  show(if b∈ps then H b else Y.H0 b)≠none
  split
  ·exact R.ob.there b hb
  ·exact h⟩
theorem RS.jY{Y:bC}{F F':Hp}{ak aG:Sd}{σ bB:St}{H H':Hp}(R0:RS Y F ak σ H){ps:List Addr}(hP:∀b∈ps,∃o,jl Y F ak σ H b o)(R:RS (Y.m9 F H ps) F' aG bB H'):
  RS Y F' aG bB H'/\∀b o,b∈ps->jl Y F ak σ H b o->jl Y F' aG bB H' b o:=by
 have W4:∀b,b∈ps->(Y.m9 F H ps).H0 b=H b:=λb hb=>by show(if b∈ps then H b else Y.H0 b)=_;rw[if_pos hb]
 have rE:∀b,b∉ps->(Y.m9 F H ps).H0 b=Y.H0 b:=λb hb=>by show(if b∈ps then H b else Y.H0 b)=_;rw[if_neg hb]
 have ME:∀b,b∈ps->b∉Y.Cp:=λb hb hm=>by
  obtain⟨o,ap⟩:=hP b hb;rcases List.mem_append.mp hm with hm|hm
  case inr=>exact ap.nb hm
  obtain⟨q,hq,e⟩:=List.mem_map.mp hm;obtain⟨h1,xs,h2⟩:=R0.io q hq;exact ap.no _ _ h2 (by rw[h1,e])
 have oh:∀b,(Y.m9 F H ps).H0 b=none->b∉ps/\Y.H0 b=none:=λb e=>by
  by_cases hb:b∈ps
  ·obtain⟨o,ap⟩:=hP b hb
   rw[W4 b hb,ap.h]at e;cases e
  ·exact⟨hb,by rw[rE b hb]at e;exact e⟩
 refine⟨⟨R.len,R0.lo.trans R.lo,R.fr,λb o e=>?_,λb o e n=>?_,R.sh,λi xs e=>?_,R.dis,R.io,R.ob.step (ao.refl _) (λ_ _ e=>⟨e,rfl⟩) (λb hb=>⟨rfl,(R.ob.owned hb).1,(R.ob.owned hb).2.2.imp (λz=>(oh b z).2) id⟩) R.ob.ju R.ob.there (λb hb=>⟨hb,λh z=>h (by rw[rE b λhp=>by obtain⟨o',ap⟩:=hP b hp;exact ap.nb hb];exact z)⟩)⟩,λb o hb ap=>⟨?_,?_,⟨λj ys e z=>?_,λz=>?_⟩,ap.z,ap.nb,ap.nt⟩⟩
 ·rcases R.fh b o e with h|h
  ·exact R0.fh b o h
  ·exact .inr (h.imp (λh=>(oh b h).2) id)
 ·refine R.old b o ?_ n
  rw[rE b λhb=>by obtain⟨o',ap⟩:=hP b hb;rw[ap.z]at e;cases e]
  exact e
 ·obtain⟨a,vs,h1,h2,h3,h4,h5⟩:=R.own i xs e
  exact⟨a,vs,h1,h2,h3,h4,h5.elim (λh=>.inl (oh a h).2) .inr⟩
 ·exact R.old b o (by rw[W4 b hb];exact ap.h) (ME b hb)
 ·cases q:F' b with
  | none=>rfl
  | some o' =>
   rcases R.fh b o' q with h|h
   ·rw[show(Y.m9 F H ps).F0 b=F b from rfl,ap.f]at h;cases h
   ·rcases h with h|⟨ws,rfl⟩
    ·exact absurd hb (oh b h).1
    ·have y:=R.fr b _ q;rw[R.old b o (by rw[W4 b hb];exact ap.h) (ME b hb)]at y;cases y;exact absurd rfl (ap.nt _)
 ·obtain⟨a,vs,h1,h2,h3,h4,h5⟩:=R.own j ys e
  rw[z]at h1;cases h1;rcases h5 with h5|h5
  ·exact absurd hb (oh b h5).1
  ·exact ME b hb (List.mem_append_left _ h5)
 ·rcases(R.ob.owned z).2.2 with w|w
  ·exact absurd hb (oh b w).1
  ·exact ap.nb w
theorem jl.alloc{Y:bC}{F:Hp}{ak:Sd}{σ:St}{H:Hp}{b p:Addr}{o u:HO}(h:jl Y F ak σ H b o)(hp:H p=none):jl Y (upd F p u) ak σ (upd H p u) b o:=by
 have cm:=bN h.h hp;exact⟨by rw[aq cm];exact h.h,by rw[aq cm];exact h.f,h.no,h.z,h.nb,h.nt⟩
theorem jl.kn{Y:bC}{F:Hp}{ak:Sd}{σ:St}{H:Hp}{b:Addr}{o:HO}{i:Nat}{d:D}{v:V}(h:jl Y F ak σ H b o):jl Y F (ak.set i (some (.sh d))) (σ.set i (some v)) H b o:=
 ⟨h.h,h.f,⟨λj ys e z=>by
  rcases gs e with⟨_,e2⟩|⟨hj,e2⟩
  ·cases e2
  ·rw[bG hj]at z;exact h.no j ys e2 z,λ⟨j,o,c,e,z,hm⟩=>by
  rcases gs e with⟨_,e2⟩|⟨hj,e2⟩
  ·cases e2
  ·rw[bG hj]at z;exact h.no.IW ⟨j,o,c,e2,z,hm⟩⟩,h.z,h.nb,h.nt⟩
structure QT(H H':Hp)(p:Addr)(as:List Addr)(cs:List Int):Prop where
 same:ao H H'
 list:H' p=some (.lst (as.map V.ref))
 fresh:∀b∈p::as,H b=none
 nd:(p::as).Nodup
 len:as.length=cs.length
 pot:∀(i:Nat) (a:Addr) (c:Int),as[i]?=some a->cs[i]?=some c->H' a=some (.lst [.int c,.int 0])
def wa:Sp:=λvs H Q _=>∃F ns,rR F H/\aE F vs [.lst (List.map D.int ns)]/\ns.length<=63/\∀p as cs H',QT H H' p as cs->Q (.ref p) H'
def fk(G:GE)(k:Nat)(x:Str):Prop:=∃f fd ps,dD G.P G.w G.K G.mg G.base rC k f fd ps wa/\G.mg x=some (.ref f)/\PySem.W.keepIn G.K (.ref f)=true/\Binds G.K fd ps []
theorem fk.mono{x:Str}{j:Nat}(h:fk G j x)(l:j<=k):fk G k x:=by
 obtain⟨f,fd,ps,h1,h2,h3,h4⟩:=h;exact⟨f,fd,ps,h1.mono l,h2,h3,h4⟩
def Jm(Y:bC)(t:eD):TE:=λσ H Q=>∃F ak Qd,RS Y F ak σ H/\t ak Qd/\(∀ds aG,Qd ds aG->∃ns:List Int,ds=[.lst (ns.map D.int)]/\ns.length<=63) /\
 ∀(p:Addr) (as:List Addr) (cs:List Int) H' F' ds aG,ao F F'->RS Y F' aG σ H'->jl Y F' aG σ H' p (.lst (as.map V.ref))->(p::as).Nodup->as.length=cs.length ->
  (∀(i:Nat) (a:Addr) (c:Int),as[i]?=some a->cs[i]?=some c->jl Y F' aG σ H' a (.lst [.int c,.int 0]))->Qd ds aG->Q (.ref p) H'
theorem GC{x:Str}{e:Expr}{t:eD}{p pos:Pos}(hh:S.kE=false)(h:fk G k x)(ha:vf G k S [e] t)(hg:S.sc.lookup x=some .globalImplicit:=by rfl)(sW:(x==("__debug__":Str))=false:=by decide)
  (he:∀env,starEach [e] env=(false,eval e env)::starEach [] env:=by intro _;rfl) (d2:∀env,(backTo pos (starEach [] env)).any (·.1)=false:=by intro _;rfl) {X:Cx} {Y:bC} (ok:dA X G k S Y):PE X (.Call (.Name x p) [e] [] pos) (Jm Y t):=by
 obtain⟨f,fd,ps,h1,h2,h3,h4⟩:=h;have vG:dD X.prog X.w X.K X.mg X.base rC k f fd ps wa:=by rw[ok.P,ok.w,ok.K,ok.mg,ok.base];exact h1
 refine aP (qg (E:=E0) (dvs:=[]) (ds:=[]) vG (ok.room hh) (cz ok hg) (by rw[ok.mg];exact h2) (by rw[ok.K];exact h3) (by rw[ok.K];exact h4) .nil C0 (ha X Y ok) sW (he _) (d2 _)) λσ H Q q=>?_
 obtain⟨F,ak,Qd,R,q,sh,K⟩:=q;refine⟨F,ak,_,R,q,λvs H1 F1 ds aw s1 R1 r1 q1=>?_⟩;show wa (vs++[]) H1 Q E0;rw[List.append_nil];obtain⟨ns,rfl,hl⟩:=sh _ _ q1;refine⟨F1,ns,⟨R1.fr,R1.ob.tab⟩,r1,hl,λp as cs H' P=>?_⟩;have R2:RS Y F1 aw σ H':=R1.call (ao.refl _) (R1.fr.trans P.same) P.same λc o e=>.inl e;have Zn:∀b∈p::as,∀o,H' b=some o->(∀vs,o≠.tup vs)->jl Y F1 aw σ H' b o:=λb hb o e nt=>by
  have hf:=P.fresh b hb;exact⟨e,same_none R1.fr hf,R1.dg hf,(R1.b7 hf).1,λz=>(R1.b7 hf).2 (List.mem_append_right _ z),nt⟩
 exact K p as cs H' F1 _ aw s1 R2 (Zn p (List.mem_cons_self ..) _ P.list λ_ z=>nomatch z) P.nd P.len (λi a c e1 e2=>Zn a (List.mem_cons_of_mem _ (List.mem_of_getElem? e1)) _ (P.pot i a c e1 e2) λ_ z=>nomatch z) q1
def sN(pre:Nat->Int->Sd->Sd)(tb:cA)(De:f7):Nat->Nat->Sd->Prop
 | 0,_,σ=>De.nx σ
 | n+1,i,σ=>∀c:Int,tb {De with nx:=sN pre tb De n (i+1),ct:=sN pre tb De n (i+1),bk:=De.nx} (pre i c σ)
def xZ(t:eD)(pre:Nat->Int->Sd->Sd)(tb:cA):cA:=λDe σ=>t σ λds aw=>(∃ns:List Int,ds=[.lst (ns.map D.int)]/\ns.length<=63)/\∀n,sN pre tb De n 0 aw
def Og(m j:Nat):Nat->Int->Sd->Sd:=λi c σ=>(σ.set m (some (.sh (.int (i:Nat))))).set j (some (.own [.int c,.int 0]))
def lSP(Y:bC)(t:cA):TS:=λDn σ H=>∃Y':bC,(Y'.io=Y.io/\Y'.ob=Y.ob)/\lS Y' t Dn σ H
theorem J0{X:Cx}{Y:bC}{body:List Stmt}{tb:cA}(hh:S.kE=false)(LX:S.ex=λ_ _=>False)(ok:dA X G k S Y)(hb:eG G k S body tb):nu X body (lSP Y tb):=λpins s σ H Dn I ⟨Y',⟨dk,LO⟩,q⟩ =>
 hb X Y' ⟨ok.P,ok.w,ok.K,ok.kf,ok.mg,ok.base,ok.N,ok.sc,ok.nd,λp hp=>ok.ios p (by rw[<- dk];exact hp),(λh1 h2=>LO.trans (ok.obs h1 h2)),ok.calm,ok.kind,ok.fn,ok.hd,ok.dp,ok.un,ok.po,ok.nx,(λc ak h=>by rw[LX]at h;exact h.elim),(λ_ c ak h=>by rw[LX]at h;exact h.elim),λh=>by rw[hh]at h;cases h⟩ pins s σ H Dn I q
theorem Dh{X:Cx}{Y:bC}{t:eD}{pre:Nat->Int->Sd->Sd}{tb:cA}{J:Addr->It}{g:TG}{Dn:Ends}{σ:St}{H:Hp}
  (hgo:∀(p:Addr) (as:List Addr) (i:Nat) (a:Addr) (H:Hp),H p=some (.lst (as.map V.ref))->as[i]?=some a->(J p).go i H)
  (sY:∀(p:Addr) (as:List Addr) (H:Hp),H p=some (.lst (as.map V.ref))->(J p).stop as.length H)
  (hy:∀(p:Addr) (as:List Addr) (i:Nat) (a:Addr) (c:Int) (F H:Hp) (ak:Sd) (σ:St) (x:V) (H':Hp),RS Y F ak σ H->(p::as).Nodup->as[i]?=some a ->
   (∀b∈p::as.drop (i+1),∃o,jl Y F ak σ H b o)->H p=some (.lst (as.map V.ref))->jl Y F ak σ H a (.lst [.int c,.int 0])->(J p).QD i H x H' ->
   ∃F',ao F F'/\RS Y F' ak σ H'/\(∀b o,jl Y F ak σ H b o->jl Y F' ak σ H' b o)/\∀N:St->Hp->Prop,(∀bq,RS (Y.m9 F' H' (p::as.drop (i+1))) F' (pre i c ak) bq H'->N bq H')->g x σ H' N)
  (q:lS Y (xZ t pre tb) Dn σ H):
  VO (λσ H R=>Jm Y t σ H λx H1=>∃p as,x=.ref p/\H1 p=some (.lst (List.map V.ref as))/\R (J p) H1) g (lSP Y tb) Dn σ H:=by
 obtain⟨F,ak,De,R,q,K⟩:=q;refine⟨F,ak,_,R,q,λds aG h=>h.1,λp as cs H1 F1 ds zN s1 R1 ap nd len vV q1=>⟨p,as,rfl,ap.h,?_⟩⟩;have q1:=q1.2 as.length;refine⟨λi m bB H'=>∃F' aG,ao F1 F'/\RS Y F' aG bB H'/\jl Y F' aG bB H' p (.lst (as.map V.ref))/\(∀(j:Nat) (a:Addr) (c:Int),i<=j->as[j]?=some a->cs[j]?=some c->jl Y F' aG bB H' a (.lst [.int c,.int 0])) /\
  sN pre tb De (as.length-i) i aG/\m=as.length-i/\i<=as.length,⟨as.length,F1,zN,ao.refl _,R1,ap,λj a c _=>vV j a c,q1,rfl,Nat.zero_le _⟩,?_⟩
 rintro i m bB H' ⟨F',aG,s',R',Rf,Dg,q',rfl,hi⟩
 by_cases hl:i<as.length
 ·right
  have e1:as[i]?=some as[i]:=List.getElem?_eq_getElem hl;have xa:i<cs.length:=by rw[<- len];exact hl
  have e2:cs[i]?=some cs[i]:=List.getElem?_eq_getElem xa;refine⟨hgo p as i _ H' Rf.h e1,λbq H2=>∃F2 cB,ao F1 F2/\RS Y F2 cB bq H2/\jl Y F2 cB bq H2 p (.lst (as.map V.ref))/\(∀(j:Nat) (a:Addr) (c:Int),i+1<=j->as[j]?=some a->cs[j]?=some c->jl Y F2 cB bq H2 a (.lst [.int c,.int 0])) /\
   sN pre tb De (as.length-(i+1)) (i+1) cB,λbq H2 ⟨F2,cB,w1,w2,w3,w4,w5⟩=>⟨as.length-(i+1),by omega,F2,cB,w1,w2,w3,w4,w5,rfl,hl⟩,λx H2 y=>?_⟩
  have L4:∀(j:Nat) (a:Addr),i+1<=j->as[j]?=some a->a∈p::as.drop (i+1):=λj a hj e=>by
   refine List.mem_cons_of_mem _ (List.mem_of_getElem? (i:=j-(i+1)) ?_);rw[List.getElem?_drop,show i+1+(j-(i+1))=j by omega];exact e
  have hP:∀b∈p::as.drop (i+1),∃o,jl Y F' aG bB H' b o:=λb hb=>by
   rcases List.mem_cons.mp hb with rfl|hb
   ·exact⟨_,Rf⟩
   ·obtain⟨j,hj,e⟩:=List.mem_iff_getElem.mp hb
    rw[List.getElem_drop]at e;have yJ:i+1+j<as.length:=by rw[List.length_drop]at hj;omega
    have S5:i+1+j<cs.length:=by rw[<- len];exact yJ
    exact⟨_,Dg (i+1+j) b cs[i+1+j] ⋯ (by rw[List.getElem?_eq_getElem yJ,e]) (List.getElem?_eq_getElem S5)⟩
  obtain⟨F2,sF,R2,keep,go⟩:=hy p as i _ cs[i] F' H' aG bB x H2 R' nd e1 hP Rf.h (Dg i _ _ (Nat.le_refl _) e1 e2) y;refine go _ λbq R3=>?_;have hn:as.length-i=(as.length-(i+1))+1:=by omega
  rw[hn]at q';have q2:=q' cs[i];have Iy:∀b∈p::as.drop (i+1),∃o,jl Y F2 aG bB H2 b o:=λb hb=>by
   obtain⟨o,a⟩:=hP b hb;exact⟨o,keep b o a⟩
  have again:∀ {kH:St} {H4 F4:Hp} {cO:Sd},ao F2 F4->RS (Y.m9 F2 H2 (p::as.drop (i+1))) F4 cO kH H4->sN pre tb De (as.length-(i+1)) (i+1) cO->∃F2 cB,ao F1 F2/\RS Y F2 cB kH H4/\jl Y F2 cB kH H4 p (.lst (as.map V.ref))/\(∀(j:Nat) (a:Addr) (c:Int),i+1<=j->as[j]?=some a->cs[j]?=some c->jl Y F2 cB kH H4 a (.lst [.int c,.int 0]))/\sN pre tb De (as.length-(i+1)) (i+1) cB:=λ{kH H4 F4 cO} s4 R4 q4=>by
   obtain⟨R5,k5⟩:=R2.jY Iy R4;exact⟨F4,cO,(s'.trans sF).trans s4,R5,k5 _ _ (List.mem_cons_self ..) (keep _ _ Rf),λj a c hj ea ec=>k5 _ _ (L4 j a hj ea) (keep _ _ (Dg j a c ⋯ ea ec)),q4⟩
  refine⟨Y.m9 F2 H2 (p::as.drop (i+1)),⟨rfl,rfl⟩,F2,pre i cs[i] aG,_,R3,q2,⟨λkH H4 F4 cO s4 R4 q4=>again s4 R4 q4,λv4 kH H4 F4 cO b s4 R4 r4 q4=>?_,λkH H4 F4 cO s4 R4 q4=>?_,λkH H4 F4 cO s4 R4 q4=>again s4 R4 q4⟩⟩
  ·obtain⟨R5,k5⟩:=R2.jY Iy R4
   refine K.rt v4 kH H4 F4 cO b (((s1.trans s').trans sF).trans s4) R5 ?_ q4;cases b with
   | sh d=>exact r4
   | own xs =>
    obtain⟨a,vs,w1,w2,w3,w4,w5,w6⟩:=r4;refine⟨a,vs,w1,w2,w3,w4,?_,w6⟩;have w5:(if a∈p::as.drop (i+1)then H2 a else Y.H0 a)=none:=w5
    split at w5
    ·rename_i hm
     obtain⟨o,ap⟩:=Iy a hm;exact ap.z
    ·exact w5
   | obj o =>
    obtain⟨a,w1,w2,w3⟩:=r4;refine⟨a,w1,w2,λb hb=>⟨(w3 b hb).1,(w3 b hb).2.1,?_,(w3 b hb).2.2.2⟩⟩;have w5:(if b∈p::as.drop (i+1)then H2 b else Y.H0 b)=none:=(w3 b hb).2.2.1
    split at w5
    ·rename_i hm
     obtain⟨o,ap⟩:=Iy b hm;exact ap.z
    ·exact w5
  ·obtain⟨R5,k5⟩:=R2.jY Iy R4
   exact K.nx kH H4 F4 cO (((s1.trans s').trans sF).trans s4) R5 q4
 ·left
  have e:i=as.length:=by omega
  subst e;rw[Nat.sub_self]at q';exact⟨sY p as H' Rf.h,K.nx bB H' F' aG (s1.trans s') R' q'⟩
theorem RS.Hd{Y:bC}{F:Hp}{ak:Sd}{σ:St}{H:Hp}{j:Nat}{a:Addr}{c:Int}{ps:List Addr}(R:RS Y F ak σ H)(hP:∀b∈ps,∃o,jl Y F ak σ H b o)(ha:jl Y F ak σ H a (.lst [.int c,.int 0]))(hn:a∉ps)(dk:∀p∈Y.io,p.1≠j):
  RS (Y.m9 F H ps) F (ak.set j (some (.own [.int c,.int 0]))) (σ.set j (some (.ref a))) H:=
 (R.GJ ps hP).DH ha.h (.cons (.int _) (.cons (.int _) .nil)) ha.f (by show(if a∈ps then H a else Y.H0 a)=none;rw[if_neg hn];exact ha.z) ha.no dk
theorem Gf{p:Addr}{as:List Addr}{i:Nat}{a:Addr}(nd:(p::as).Nodup)(e:as[i]?=some a):a∉p::as.drop (i+1):=by
 have hi:=(List.getElem?_eq_some_iff.mp e).1;have ea:as[i]=a:=(List.getElem?_eq_some_iff.mp e).2;intro h;rcases List.mem_cons.mp h with h|h
 ·exact(List.nodup_cons.mp nd).1 (by rw[<- h];exact List.mem_of_getElem? e)
 ·obtain⟨j,hj,e'⟩:=List.mem_iff_getElem.mp h
  rw[List.getElem_drop]at e';have yJ:i+1+j<as.length:=by rw[List.length_drop]at hj;omega
  have:=(List.nodup_cons.mp nd).2;exact List.pairwise_iff_getElem.mp this i (i+1+j) hi yJ ⋯ (by rw[ea,e'])
theorem G0(m j:Nat){x y z:Str}{e:Expr}{t:eD}{tb:cA}{body:List Stmt}{p cpos fD n2 tpos ep K1 pos:Pos}{kk:Nat}(h:fk G k x)(ha:vf G k S [e] t)(hm:G.mg "enumerate"=none)(hb:eG G k S body tb)
  (hj:S.N[j]?=some y:=by rfl) (hx:S.sc.lookup y=some .local\/(S.sc.lookup y=some .cell/\S.Ao=false):=by first|exact Or.inl rfl|exact Or.inr ⟨rfl,rfl⟩)
  (S5:S.N[m]?=some z:=by rfl) (pO:S.sc.lookup z=some .local\/(S.sc.lookup z=some .cell/\S.Ao=false):=by first|exact Or.inl rfl|exact Or.inr ⟨rfl,rfl⟩)
  (hn:j∉S.ios:=by first|decide|exact List.not_mem_nil | (dsimp only;decide)) (ER:m∉S.ios:=by first|decide|exact List.not_mem_nil | (dsimp only;decide)) (hg:S.sc.lookup x=some .globalImplicit:=by rfl) (sW:(x==("__debug__":Str))=false:=by decide) (rJ:S.sc.lookup ("enumerate":Str)=some .globalImplicit:=by rfl)
  (he:∀env,starEach [e] env=(false,eval e env)::starEach [] env:=by intro _;rfl) (d2:∀env,(backTo cpos (starEach [] env)).any (·.1)=false:=by intro _;rfl)
  (hs:∀env x',foldedSetIterable (.Call (.Name "enumerate" ep) [.Call (.Name x p) [e] [] cpos] [] K1) env x'=pure x':=by intro _ _;rfl) (LX:S.ex=λ_ _=>False:=by rfl) (hh:S.kE=false:=by rfl):
  ES G k S (.For (.Tuple [.Name z n2,.Name y fD] kk tpos) (.Call (.Name "enumerate" ep) [.Call (.Name x p) [e] [] cpos] [] K1) body [] pos) (xZ t (Og m j) tb):=.mk λX Y ok=>by
 have pp:=GC (p:=p) (pos:=cpos) hh h ha hg sW he d2 ok;have pi:=GD (X:=X) (elts:=[.Name z n2,.Name y fD]) (kk:=kk) (tpos:=tpos) (p:=ep) (pos:=K1) (cz ok rJ) (by rw[ok.mg];exact hm) (by decide +kernel) (bS pp cW) rfl
 have nd:X.N.Nodup:=by rw[ok.N];exact ok.nd
 have pg:=L2.C8 (pos:=tpos) (k:=kk) (n:=2) (ok.calm hh) (L2.mm (L2.kM (i:=m) (pos:=n2) nd (by rw[ok.N];exact S5) (jE ok pO) (jv ok pO)) (L2.mm (L2.kM (i:=j) (pos:=fD) nd (by rw[ok.N];exact hj) (jE ok hx) (jv ok hx)) L2.xx))
 refine cX (Dj (ok.po hh) (ok.calm hh) pi pg (J0 hh LX ok hb) (hs _)) λDn σ H q=>?_;have r:=Dh (X:=X) (J:=λa=>Qe false X.K a) (g:=L2.SH X.K 2 (L2.BK (hE m) (L2.BK (hE j) L2.SG))) (λp as i a H h e=>⟨as.map V.ref,.ref a,(show Sq false X.K H p _ from dY.of h),by rw[List.getElem?_map,e];rfl⟩) (λp as H h=>⟨as.map V.ref,(show Sq false X.K H p _ from dY.of h),by rw[List.length_map]⟩)
  (λp as i a c F H ak σ x H' R nd e hP hp X4 y=>by
   obtain⟨t,x',ht,rfl,rfl,y⟩:=y;have hx:=y _ (show Sq false X.K H p _ from dY.of hp)
   rw[List.getElem?_map,e]at hx;cases hx;have sm:ao F (upd F t (.tup [.int i,.ref a])):=aI (same_none R.fr ht);have R1:RS Y (upd F t (.tup [.int i,.ref a])) ak σ (upd H t (.tup [.int i,.ref a])):=R.alloc ht;refine⟨_,sm,R1,λb o ap=>ap.alloc ht,λN hN=>⟨t,_,rfl,.of aB,rfl,_,_,rfl,_,_,rfl,rfl,hN _ ?_⟩⟩;have R2:=R1.kn (i:=m) (d:=.int i) (v:=.int i) (.int _) λq hq z=>ER (by rw[<- z];exact ok.ios q hq)
   have R3:=R2.Hd (ps:=p::as.drop (i+1)) (λb hb=>by obtain⟨o,ap⟩:=hP b hb;exact⟨o,(ap.alloc ht).kn⟩) ((X4.alloc ht).kn) (Gf nd e) (j:=j) λq hq (z:q.1=j)=>hn (by rw[<- z];exact ok.ios q hq)
   exact R3) q
 obtain⟨F,ak,Qd,w1,w2,w3,w4⟩:=r;exact⟨F,ak,Qd,w1,w2,w3,λp as cs H' F' ds aG a1 a2 a3 a4 a5 a6 a7=>by
  obtain⟨p',Zo,e,z1,z2⟩:=w4 p as cs H' F' ds aG a1 a2 a3 a4 a5 a6 a7;cases e;exact⟨p,_,rfl,dY.of z1,z2⟩⟩
theorem sO{pre:Nat->Int->Sd->Sd}{tb:cA}{De:f7}(I:Sd->Prop)(hb:∀i c σ (N:Sd->Prop),I σ->(∀bB,I bB->N bB)->tb {De with nx:=N,ct:=N,bk:=De.nx} (pre i c σ))(hn:∀σ,I σ->De.nx σ):∀n i σ,I σ->sN pre tb De n i σ
 | 0,_,σ,h=>hn σ h
 | n+1,i,σ,h=>λc=>hb i c σ _ h λbB h'=>sO I hb hn n (i+1) bB h'
end Vc
namespace Vc
open PySem L2
variable [KF]
variable {G:GE}{k:Nat}{S:Stat}
def IL(Y:bC):TS:=λDn σ H=>∃F ns,RS Y F [some (.sh (.lst (List.map D.int ns)))] σ H/\Y.H0=H/\(Y.io=[]/\Y.ob=[])/\ns.length<=63/\∀p as cs H',QT H H' p as cs->Dn.rt (.ref p) H'
structure rN(G:GE)(k:Nat)(S:Stat)(b:List Stmt) :Prop where
 run:∀X Y,dA X G k S Y->nu X b (IL Y)
instance {G:GE} {k:Nat} {S:Stat} {b:List Stmt} :CoeFun (rN G k S b) λ_=>∀X Y,dA X G k S Y->nu X b (IL Y):=⟨rN.run⟩
def lLe(t:eD):TE:=λσ H Q=>∃Y:bC,Y.io=[]/\Pr (Yq Y t) σ H Q
abbrev D7:TB:=a8 eqT (bf (dQ dS (bh (af 0) c9))) (bj (.int 0))
abbrev Ee:eD:=a9 (av [] (bj (.int 0))) (a9 (av [] (bj (.int 0))) tN)
abbrev D8:eD:=cU (av [] (bf (zI (af 0) Qz (QA (bj (.int 63))))))
abbrev wm:eD:=a9 (av [] (af 0)) (a9 (av [] (bj (.int 0))) tN)
theorem wL{α:Type}(xs:List α)(lo hi:Option Int):(cut xs lo hi).length<=xs.length:=by
 unfold cut;rw[List.length_take,List.length_drop];omega
theorem lj(ns:List Int)(lo hi:Option Int):cut (ns.map D.int) lo hi=(cut ns lo hi).map D.int:=by
 unfold cut;rw[List.length_map,List.map_take,List.map_drop]
theorem aE.Tv{F:Hp}{vs:List V}{a b:Int}(r:aE F vs [.int a,.int b]):vs=[.int a,.int b]:=by
 cases r with
 | cons h r =>
  cases h;cases r with
  | cons h r=>cases h;cases r;rfl
section
variable {c:Expr}{zs es:List Expr}{tg iter:Expr}{scope:Scope}{N':List Str}{p1 p2 p3 p4 p5 p6 p7:Pos}
theorem KY(aag:S.ios=[])(hc:EB G k S c D7)(hz:vf G k S zs Ee)(hi:EI G k S tg iter D8)(b:jZ S scope N' [none])(hg:EG G k (bo S scope N') tg (eW 0))(he:vf G k (bo S scope N') es wm)(hs:∀env x,foldedSetIterable iter env x=pure x:=by intro _ _;rfl) 
  (h1:∀env,starEach [.List zs p1] env=(false,eval (.List zs p1) env)::starEach [] env:=by intro _;rfl) (hh:S.kE=false:=by rfl):
  rN G k S [.If c [.Return (some (.List [.List zs p1] p2)) p3] [] p4,.Return (some (.ListComp (.List es p5) [⟨tg,iter,[],0⟩] scope p6)) p7]:=.mk λX Y ok=>by
 have pL:∀X',j3 X X' scope N'->PG X' tg (Wn (eW 0))/\EC X' [] (Wm gq)/\PE X' (.List es p5) (lLe wm):=λX' cx =>
  ⟨λpins s σ H v u Q I r ⟨Y',dk,q⟩=>hg X' Y' (dG hh ok b cx Y' dk) pins s σ H v u Q I r q,λpins s σ H Q I ⟨Y',dk,q⟩=>kZ X' Y' (dG hh ok b cx Y' dk) pins s σ H Q I q,λpins s σ H Q I ⟨Y',dk,q⟩=>ml (he X' Y' (dG hh ok b cx Y' dk)) pins s σ H Q I q⟩
 refine ql (ub (L2.Jd (hc X Y ok) (qm (L2.vX (ml (bS (ml (hz X Y ok)) cW (h1 _))))) xE) (qm (L2.vX (qh (ok.calm hh) (hi X Y ok) (b.sc ok) pL (hs _))))) λDn σ H q=>?_;obtain⟨F,ns,R,rfl,hY,hl,K⟩:=q;have same:∀ {F':Hp} {ak:Sd} {σ:St} {H':Hp},RS Y F' ak σ H'->ao Y.H0 H':=λR b o e=>R.old b o e (by rw[bC.Cp,hY.1,hY.2];simp)
 refine⟨F,_,λ_ aG=>aG=[some (.sh (.lst (List.map D.int ns)))],R,?_,λbb H1 F1 aw s1 R1 e1=>?_⟩
 ·simp only[D7,a8,bf,V4,dQ,bh,af,c9,fu,dZ,List.getElem?_cons_zero,dS,bj,eqT]
  exact⟨⟨rfl,rfl⟩,trivial⟩
 subst e1;cases bb with
 | true =>
  refine(if_pos rfl).mpr ?_;refine⟨F1,_,λds _=>ds=[.int 0,.int 0],R1,?_,λvs H2 F2 ds bq s2 R2 r2 e2=>?_⟩
  ·simp only[Ee,a9,av,je,bj,tN]
  subst e2;obtain rfl:=r2.Tv;refine⟨by show 2<=sizeLine;decide,λa ha=>⟨by show 1<=sizeLine;decide,λp hp=>K p [a] [0] _ ?_⟩⟩
  have X3:p≠a:=λz=>by rw[z,aB]at hp;cases hp
  have hp2:H2 p=none:=by rw[aq X3]at hp;exact hp
  have sm:=same R2;refine⟨(sm.trans (aI ha)).trans (aI hp),aB,λb hb=>?_,by simp [X3],rfl,λi a' c' e1 e2=>?_⟩
  ·rcases List.mem_cons.mp hb with rfl|hb
   ·exact sm.free hp2
   ·rw[List.mem_singleton.mp hb];exact sm.free ha
  ·cases i with
   | zero =>
    cases e1;cases e2;rw[aq X3.symm,aB]
   | succ i=>simp at e1
 | false =>
  refine(if_neg ∅).mpr ?_
  refine⟨F1,_,λitems aG=>(∃ms:List Int,items=ms.map D.int/\ms.length<=63)/\aG=[some (.sh (.lst (List.map D.int ns)))],R1,?_,λH2 F2 bq J items s2 R2 it e2 acc d0=>?_⟩
  ·simp only[D8,cU,av,je,jf,bf,V4,zI,af,Qz,QA,bj,dZ,List.getElem?_cons_zero,Ww]
   exact⟨⟨cut ns none (some 63),lj _ _ _,Nat.le_trans (wL _ _ _) hl⟩,trivial⟩
  obtain⟨⟨ms,rfl,hm⟩,rfl⟩:=e2;have a0:Y.H0 acc=none:=(R2.b7 d0).1;have aF:F2 acc=none:=same_none R2.fr d0;have noOwn:∀(σ:St) (a:Addr),cH [some (.sh (.lst (List.map D.int ns)))] σ a:=λσ a=>⟨λj ys e=>by
   cases j with
   | zero=>cases e
   | succ j=>simp at e,λ⟨j,o,c,e,_⟩=>by
   cases j with
   | zero=>cases e
   | succ j=>simp at e⟩
  have sw:∀ {F5 H5:Hp} {o:HO},ao F5 H5->F5 acc=none->ao F5 (upd H5 acc o):=λ{F5 H5 o} s5 h b u e=>by
   have:b≠acc:=λz=>by rw[z,h]at e;cases e
   rw[aq this];exact s5 b u e
  have Ud:∀(i:Nat) (xs:List D),([none]:Sd)[i]?≠some (some (.own xs)):=λi xs e=>by
   cases i with
   | zero=>cases e
   | succ i=>simp at e
  have Uc:∀(i:Nat) (o:O),([none]:Sd)[i]?≠some (some (.obj o)):=λi o e=>by
   cases i with
   | zero=>cases e
   | succ i=>simp at e
  refine⟨λi m aw H'=>∃Fi as cs,ao F2 Fi/\RS Y Fi [some (.sh (.lst (List.map D.int ns)))] σ H'/\H' acc=some (.lst (List.map V.ref as))/\(acc::as).Nodup/\(∀b∈acc::as,Y.H0 b=none/\Fi b=none) /\
    (∀(i:Nat) (a:Addr) (c:Int),as[i]?=some a->cs[i]?=some c->H' a=some (.lst [.int c,.int 0]))/\as.length=cs.length/\as.length=i/\RS ⟨H',Fi,[],[]⟩ Fi [none] aw H'/\m=ms.length-i/\i<=ms.length,
   ⟨ms.length,F2,[],[],ao.refl _,R2.other aF a0 (noOwn _ _),aB,by simp,λb hb=>by rw[List.mem_singleton.mp hb];exact⟨a0,aF⟩,λi a c e=>by simp at e,rfl,rfl,wJ R2 [none] (ao.refl _) (sw R2.fr aF),rfl,Nat.zero_le _⟩,?_⟩
  rintro i m aw Hi ⟨Fi,as,cs,si,Ri,kc,nd,fr,vV,len,T4,WW,rfl,hi⟩;have Cu:=it Fi Hi si Ri.fr i
  by_cases xa:i<ms.length
  ·right
   obtain⟨go,yl⟩:=Cu.1 (.int ms[i]) (by rw[List.getElem?_map,List.getElem?_eq_getElem xa];rfl)
   refine⟨go,λv H' y=>?_⟩;obtain⟨F3,gr,rep⟩:=yl v H' y;have sF:ao Fi F3:=gr.same Ri.fr;have R3:=gr.rs WW;have WU:RS ⟨H',F3,[],[]⟩ F3 [none] aw H':=R3.less (iw _) Ud Uc R3.fr;have sH:ao Hi H':=by
    rcases gr with⟨_,rfl⟩|⟨p,o,hp,_,rfl⟩
    ·exact ao.refl _
    ·exact aI hp
   have Qj:∀c o,F3 c=some o->Fi c=some o\/Nw Hi c o:=λc o e=>by
    rcases gr with⟨rfl,_⟩|⟨p,o',hp,rfl,_⟩
    ·exact .inl e
    ·by_cases hc:c=p
     ·subst hc;exact .inr (.inl hp)
     ·rw[aq hc]at e;exact .inl e
   refine⟨⟨H',F3,[],[]⟩,rfl,F3,_,.int ms[i],λak=>ak=[some (.sh (.int ms[i]))],WU,rep,rfl,λkH H4 F4 cO s4 R4 q4=>?_⟩;subst q4;refine⟨⟨H',F3,[],[]⟩,rfl,F4,_,λbb ak=>bb=true/\ak=[some (.sh (.int ms[i]))],R4,⟨rfl,rfl⟩,λbb H5 F5 Ey s5 R5 q5=>?_⟩;obtain⟨rfl,rfl⟩:=q5;refine(if_pos rfl).mpr ?_;refine⟨⟨H',F3,[],[]⟩,rfl,F5,_,λds ak=>ds=[.int ms[i],.int 0]/\ak=[some (.sh (.int ms[i]))],R5,?_,λvs H6 F6 ds Zd s6 R6 r6 q6=>?_⟩
   ·simp only[wm,a9,av,je,jf,af,bj,tN,List.getElem?_cons_zero]
    exact⟨trivial,trivial⟩
   obtain⟨rfl,rfl⟩:=q6;obtain rfl:=r6.Tv;refine⟨by show 2<=sizeLine;decide,λa ha=>?_⟩
   have s36:ao F3 F6:=(s4.trans s5).trans s6;have GY:ao Hi H6:=sH.trans λb o e=>R6.old b o e (by simp [bC.Cp])
   have Zx:∀c o,F6 c=some o->Fi c=some o\/Nw Hi c o:=λc o e=>by
    rcases R6.fh c o e with z|z
    ·exact Qj c o z
    ·exact .inr (z.imp sH.free id)
   have w1:RS Y F6 [some (.sh (.lst (List.map D.int ns)))] σ H6:=Ri.call (sF.trans s36) R6.fr GY Zx;have live:∀b∈acc::as,∃o,Hi b=some (.lst o):=λb hb=>by
    rcases List.mem_cons.mp hb with rfl|hb
    ·exact⟨_,kc⟩
    ·obtain⟨j,hj,e⟩:=List.mem_iff_getElem.mp hb
     have S5:j<cs.length:=by rw[<- len];exact hj
     exact⟨_,vV j b cs[j] (by rw[List.getElem?_eq_getElem hj,e]) (List.getElem?_eq_getElem S5)⟩
   have w3:∀b∈acc::as,F6 b=none:=λb hb=>by
    cases e:F6 b with
    | none=>rfl
    | some o =>
     obtain⟨o',e'⟩:=live b hb;rcases Zx b o e with z|z
     ·rw[(fr b hb).2]at z;cases z
     ·rcases z with z|⟨ws,rfl⟩
      ·rw[e']at z;cases z
      ·have y:=R6.fr b _ e;rw[GY _ _ e']at y;cases y
   have na:∀b∈acc::as,b≠a:=λb hb=>by
    obtain⟨o',e'⟩:=live b hb;exact bN (GY _ _ e') ha
   have SV:(upd H6 a (.lst [.int ms[i],.int 0])) acc=some (.lst (List.map V.ref as)):=by rw[aq (na acc (List.mem_cons_self ..))];exact GY _ _ kc
   have R7:=w1.gu (o:=.lst [.int ms[i],.int 0]) ha;have WZ:=w3 acc (List.mem_cons_self ..);have T9:a≠acc:=(na acc (List.mem_cons_self ..)).symm;have QV:F6 a=none:=same_none w1.fr ha;refine⟨List.map V.ref as,ms.length-(i+1),SV,by rw[List.length_map,T4];exact Nat.lt_of_lt_of_le xa (Nat.le_trans hm ∅),by omega,F6,as++[a],cs++[ms[i]],si.trans (sF.trans s36),R7.other WZ a0 (noOwn _ _),?_,?_,?_,?_,by simp [len],by simp [T4],R6.less (σ0:=[none]) trivial Ud Uc (sw (λb o e=>?_) WZ),rfl,xa⟩
   ·rw[aB,List.map_append];rfl
   ·rw[List.nodup_cons]at nd ⊢
    refine⟨λh=>?_,?_⟩
    ·rcases List.mem_append.mp h with h|h
     ·exact nd.1 h
     ·exact T9 (List.mem_singleton.mp h).symm
    ·rw[List.nodup_append]
     refine⟨nd.2,by simp,λx hx y hy z=>?_⟩
     rw[List.mem_singleton.mp hy]at z;exact na x (List.mem_cons_of_mem _ hx) z
   ·intro b hb
    rcases List.mem_cons.mp hb with rfl|hb
    ·exact⟨a0,WZ⟩
    ·rcases List.mem_append.mp hb with hb|hb
     ·exact⟨(fr b (List.mem_cons_of_mem _ hb)).1,w3 b (List.mem_cons_of_mem _ hb)⟩
     ·rw[List.mem_singleton.mp hb]
      exact⟨(w1.b7 ha).1,QV⟩
   ·intro t a' c' e1 e2
    by_cases ht:t<as.length
    ·rw[List.getElem?_append_left ht]at e1
     rw[List.getElem?_append_left (by rw[<- len];exact ht)]at e2
     have ZV:=List.mem_of_getElem? e1;have:a'≠acc:=λz=>(List.nodup_cons.mp nd).1 (by rw[<- z];exact ZV)
     rw[aq this,aq (na a' (List.mem_cons_of_mem _ ZV))];exact GY _ _ (vV t a' c' e1 e2)
    ·have h1:=(List.getElem?_eq_some_iff.mp e1).1
     rw[List.length_append,List.length_singleton]at h1;have h2:t=as.length:=by omega
     subst h2;rw[List.getElem?_append_right (Nat.le_refl _),Nat.sub_self]at e1;rw[List.getElem?_append_right (by rw[len];exact Nat.le_refl _),len,Nat.sub_self]at e2
     cases e1;cases e2;rw[aq T9,aB]
   ·have:b≠a:=λz=>by rw[z,QV]at e;cases e
    rw[aq this];exact R6.fr b o e
  ·left
   have e:i=ms.length:=by omega
   refine⟨Cu.2 (by rw[List.length_map];exact e),K acc as cs Hi ⟨same Ri,kc,λb hb=>(fr b hb).1,nd,len,vV⟩⟩
end
theorem cT.vV{x:Str}{st:Stmt}{ps N:List Str}{f:Addr}{fd:FuncData}(d:cT G x st ps f fd)(hK:G.K=KF.K)(Sc:aL N ps (ah st))(hN:N.length=1)(hps:ps.length=1)(ht:rN G k ⟨N,(ah st).names,[],false,false,false,λ_ _=>False⟩ (ax st)):fk G (k+1) x:=by
 refine⟨f,fd,ps,?_,d.m,d.F.kp,d.b⟩;refine d.F.ok Sc (λvs H Q E h=>?_) (λgN A outer s H vs Q E hr h=>?_)
 ·obtain⟨F,ns,s,r,_⟩:=h
  rw[r.length,hps];rfl
 ·obtain⟨F,ns,sm,r,hl,K⟩:=h
  refine⟨_,ht (pv rC G.P G.w G.K G.mg G.base N x (ah st) f gN A outer s H E).MI ⟨H,F,[],[]⟩ ⟨rfl,rfl,rfl,hK,rfl,rfl,rfl,rfl,Sc.nd,λp hp=>absurd hp (by simp),λ_ _=>rfl,λ_=>rfl,Sc.kind,λ_ _ _=>rfl,λ_=>hr.hd,hr.dp,hr.un,λ_=>PassesOwn.never,λ_=>⟨rfl,rfl,rfl⟩,λ_ _ h=>h.elim,(λh=>nomatch h),λh=>nomatch h⟩,F,ns,?_,rfl,⟨rfl,rfl⟩,hl,λp as cs H' P=>K p as cs H' P⟩
  have:=RS.start N.length sm r;rw[hN]at this;show RS _ F _ (vs.map some++List.replicate (N.length-vs.length) none) H;rw[hN];exact this
end Vc
namespace Vc
open PySem L2
variable [KF]
variable {G:GE}{k:Nat}{S:Stat}
theorem Tz(a b:D)(Q:D->Prop):FX (.lst [a,b]) (.int 0) Q=Q a:=rfl
theorem TC(a b:D)(Q:D->Prop):FX (.lst [a,b]) (.int 1) Q=Q b:=rfl
theorem L6:yS 2 0=some 0:=rfl
theorem L7:yS 2 1=some 1:=rfl
theorem Cy{n:Nat}(h:0<n):yS n (-1)=some (n-1):=by unfold yS;rw[if_neg ⋯,if_pos ⋯];congr 1;omega
end Vc
namespace Vc
open PySem L2
variable [KF]
section
variable {prog:Program}{w:World}{A:Around}{R:Result->Shared->Prop}
theorem MC{h0:Heap}{its:Array Value}{bt:Nat->Nat->Bool}(hh:A.handled=none)(hc:zV prog w A.in1 .Gt h0 its bt){I l S:Addr}(Qo:h0.IsList l its)(IS:I≠S)(n0:h0.get? I=none)(n1:h0.get? S=none)(kw:List (Str×Value)):
  ∀(d j:Nat) (s:Shared) (v:Value) (c:Nat),its.size-(j+1)=d->j+1<=its.size->s.heap.IsListIter I l (j+1)->its[cI bt j]?=some v->s.heap.get? S=some {cls:=.type "list",dict:=none,data:=.seq #[v,v] c,slots:=#[]} ->
  (∀b o,h0.get? b=some o->s.heap.get? b=some o) ->
  (∀v g tk,its[cI bt (its.size-1)]?=some v->(∀b o,h0.get? b=some o->g.get? b=some o)->R (.ok (.ret v)) {s with heap:=g,toks:=tk}) ->
  codeAny (model prog w) A (.builtin "max.loop" ⟨[.ref I,.none,.ref S],kw⟩) R s:=by
 have nm:(toString "max"++toString ".loop":String)="max.loop":=by decide
 have lI:l≠I:=λz=>by obtain⟨o,e,_⟩:=Qo;rw[z,n0]at e;cases e
 have lS:l≠S:=λz=>by obtain⟨o,e,_⟩:=Qo;rw[z,n1]at e;cases e
 have nI:∀ {b o},h0.get? b=some o->b≠I:=λe z=>by rw[z,n0]at e;cases e
 have nS:∀ {b o},h0.get? b=some o->b≠S:=λe z=>by rw[z,n1]at e;cases e
 intro d
 induction d with
 | zero =>
  intro j s v c hd hj hI hv hS k0 hR;have e1:j+1=its.size:=by omega
  have hl:s.heap.IsList l its:=by obtain⟨o,e,r⟩:=Qo;exact⟨o,k0 _ _ e,r⟩
  refine codeAny_builtin F.entry_max_loop ?_;rw[Around.under_plainId F.plain_max_loop _];show wpAny _ A.in1 (seqItems? (.ref S) >>= _) _ _ s;refine wpAny_bind (wpAny_seqItems hS rfl ?_);show wpAny _ A.in1 (tryCatch (pyNext (.ref I)) _ >>= _) _ _ s;refine wpAny_bind (wpAny_tryCatch (wpAny_pyNext_list_end (show A.in1.handled=none from hh) hI hl (by simp;omega) λg x1=>?_))
  have S1:=x1 S _ IS.symm hS;show wpAny _ A.in1 (updateSeq S (λ_=>#[]) >>= _) _ _ _;refine wpAny_bind (wpAny_updateSeq (s:={s with heap:=g}) S1 rfl (wpAny_bind (wpAny_letGo (wpAny_pure ?_))))
  have e2:its.size-1=j:=by omega
  refine hR v _ s.toks (by rw[e2];exact hv) λb o e=>?_
  exact(Heap.get?_update_other _ _ (Ne.symm (nS e))).trans (x1 b o (nI e) (k0 b o e))
 | succ d ih =>
  intro j s v c hd hj hI hv hS k0 hR;have fy:j+1<its.size:=by omega
  have hl:s.heap.IsList l its:=by obtain⟨o,e,r⟩:=Qo;exact⟨o,k0 _ _ e,r⟩
  refine codeAny_builtin F.entry_max_loop ?_;rw[Around.under_plainId F.plain_max_loop _];show wpAny _ A.in1 (seqItems? (.ref S) >>= _) _ _ s;refine wpAny_bind (wpAny_seqItems hS rfl ?_);show wpAny _ A.in1 (tryCatch (pyNext (.ref I)) _ >>= _) _ _ s;have hx:its[j+1]?=some its[j+1]:=by simp [fy]
  refine wpAny_bind (wpAny_tryCatch (wpAny_pyNext_list_item hI hl hx λg I1 x1=>?_));have S1:=x1.extBut S _ IS.symm hS;have k1:∀b o,h0.get? b=some o->g.get? b=some o:=λb o e=>x1.extBut b o (nI e) (k0 b o e);show wpAny _ A.in1 (tryCatch (holding [its[j+1],its[j+1]] (richCompare .Gt its[j+1] v >>= _)) _ >>= _) _ _ _;refine wpAny_bind (wpAny_tryCatch (wpAny_holding (wpAny_bind (hc (j+1) (cI bt j) _ v {s with heap:=g} _ _ hx hv k1 ?_))))
  refine wpAny_bind (wpAny_holding (wpAny_truthy_bool (wpAny_bind (wpAny_letGo (wpAny_pure ?_)))));cases hb:bt (j+1) (cI bt j)with
  | true =>
   simp only[if_true];refine wpAny_bind (wpAny_updateSeq (s:={s with heap:=g}) S1 rfl (wpAny_bind (wpAny_letGo ?_)))
   rw[nm];refine wpAny_pure ⟨plainId_quiet F.plain_max_loop _,ih (j+1) _ its[j+1] _ ⋯ fy ?_ (by simp only[cI,hb,if_true];exact hx) (Heap.get?_update_self _ S1 rfl) (λb o e=>(Heap.get?_update_other _ _ (Ne.symm (nS e))).trans (k1 b o e)) λv' g' tk Tf k'=>?_⟩
   ·obtain⟨o,e,r⟩:=I1;exact⟨o,(Heap.get?_update_other _ _ (Ne.symm IS)).trans e,r⟩
   ·exact hR v' g' tk Tf k'
  | false =>
   simp only[Bool.false_eq_true,if_false];refine wpAny_bind (wpAny_letGo ?_);rw[nm];refine wpAny_pure ⟨plainId_quiet F.plain_max_loop _,ih (j+1) _ v c ⋯ fy I1 (by simp only[cI,hb,Bool.false_eq_true,if_false];exact hv) S1 k1 λv' g' tk Tf k'=>?_⟩
   exact hR v' g' tk Tf k'
theorem vp(a v:Value):argsOk "max" ⟨[a],[(Str.ofString "default",v)]⟩:=by unfold argsOk;kernel_rfl
theorem tO{E:Value->Shared->Prop}{s:Shared}{its:Array Value}{bt:Nat->Nat->Bool}(hh:A.handled=none)(hc:zV prog w A.in1 .Gt s.heap its bt){l:Addr}(hl:s.heap.IsList l its){dv:Value}{Q:Value->Shared->Prop}
  (q0:its.size=0->∀g tk,(∀b o,s.heap.get? b=some o->g.get? b=some o)->Q dv {s with heap:=g,toks:=tk})
  (q1:∀v g tk,its[cI bt (its.size-1)]?=some v->(∀b o,s.heap.get? b=some o->g.get? b=some o)->Q v {s with heap:=g,toks:=tk}):
  wpAny (model prog w) A (call (.builtin "max") [.ref l] [(Str.ofString "default",dv)]) Q E s:=by
 have nm:(toString "max"++toString ".loop":String)="max.loop":=by decide
 refine wpAny_call (codeAny_call_builtin F.plain_max F.entry_max ?_);have run:wpAny (model prog w) A.in1 (Builtin.«max» ⟨[.ref l],[(Str.ofString "default",dv)]⟩) (λfin s'=>match fin with
   | .done f=>(match(Except.ok f:Result)with|.ok (.ret v)=>Q v s'|.ok _=>False|.error e=>E e s')
   | .again c'=>c'.quiet=true/\codeAny (model prog w) A c' (λr s'=>match r with|.ok (.ret v)=>Q v s'|.ok _=>False|.error e=>E e s') s') E s:=by
  show wpAny _ A.in1 (Builtin.Builtins.bindParams "max" ["key","default"] 0 ⟨[],[(Str.ofString "default",dv)]⟩ >>= _) _ _ s;refine wpAny_bind (wpAny_of_eq (show Builtin.Builtins.bindParams "max" ["key","default"] 0 ⟨[],[(Str.ofString "default",dv)]⟩=pure [none,some dv]from rfl) (wpAny_bind (wpAny_pure ?_)))
  refine wpAny_bind (wpAny_pyIter_list hl (wpAny_bind (wpAny_newObj_type ?_)));generalize XH:s.heap.push {cls:=.type "list_iterator",data:=.fields #[.ref l,.int 0 0]}=g1;have n1:g1.objs.size=s.heap.objs.size+1:=by rw[<- XH];exact Heap.size_push ..
  have I0:(g1.push {cls:=.type "list",dict:=none,data:=.seq ([]:List Value).toArray}).IsListIter s.heap.objs.size l 0:=⟨_,Heap.get?_push_of_some _ (by rw[<- XH];exact Heap.get?_push_size _ rfl),rfl,rfl⟩
  have S0:=Heap.get?_push_size g1 (o:={cls:=.type "list",dict:=none,data:=.seq ([]:List Value).toArray}) rfl;have k0:∀b o,s.heap.get? b=some o->(g1.push {cls:=.type "list",dict:=none,data:=.seq ([]:List Value).toArray}).get? b=some o:=λb o e=>Heap.get?_push_of_some _ (by rw[<- XH];exact Heap.get?_push_of_some _ e)
  have fr:∀a,s.heap.objs.size<=a->s.heap.get? a=none:=λa ha=>by
   cases e:s.heap.get? a with
   | none=>rfl
   | some o=>exact absurd (Heap.lt_size e) (Nat.not_lt.mpr ha)
  have nI:s.heap.get? s.heap.objs.size=none:=fr _ (Nat.le_refl _);have nS:s.heap.get? g1.objs.size=none:=fr _ (by rw[n1];exact Nat.le_succ _)
  have IS:s.heap.objs.size≠g1.objs.size:=by rw[n1];exact Nat.ne_of_lt (Nat.lt_succ_self _)
  rw[nm];refine wpAny_pure ⟨plainId_quiet F.plain_max_loop _,?_⟩;generalize EL:g1.push {cls:=.type "list",dict:=none,data:=.seq ([]:List Value).toArray}=g2 at I0 S0 k0;have xa:g2.IsList l its:=by obtain⟨o,e,r⟩:=hl;exact⟨o,k0 _ _ e,r⟩
  refine codeAny_builtin F.entry_max_loop ?_;rw[Around.under_plainId F.plain_max_loop _];show wpAny _ A.in1 (seqItems? (.ref g1.objs.size) >>= _) _ _ _;refine wpAny_bind (wpAny_seqItems (s:={s with heap:=g2}) S0 rfl ?_)
  show wpAny _ A.in1 (tryCatch (pyNext (.ref s.heap.objs.size)) _ >>= _) _ _ _
  by_cases hz:its.size=0
  ·refine wpAny_bind (wpAny_tryCatch (wpAny_pyNext_list_end (show A.in1.handled=none from hh) I0 xa (by simp [hz]) λg x1=>?_))
   refine wpAny_bind (wpAny_rule (wpAny_pure ?_));exact q0 hz g s.toks λb o e=>x1 b o (λz=>by rw[z,nI]at e;cases e) (k0 b o e)
  ·have hx:its[0]?=some its[0]:=by simp [Nat.pos_of_ne_zero hz]
   refine wpAny_bind (wpAny_tryCatch (wpAny_pyNext_list_item I0 xa hx λg I1 x1=>?_));have S1:=x1.extBut _ _ IS.symm S0;have k1:∀b o,s.heap.get? b=some o->g.get? b=some o:=λb o e=>x1.extBut b o (λz=>by rw[z,nI]at e;cases e) (k0 b o e)
   show wpAny _ A.in1 (updateSeq g1.objs.size (λ_=>#[its[0],its[0]]) >>= _) _ _ _;refine wpAny_bind (wpAny_updateSeq (s:={s with heap:=g}) S1 rfl ?_)
   rw[nm];refine wpAny_pure ⟨plainId_quiet F.plain_max_loop _,MC hh hc hl IS nI nS _ _ 0 _ its[0] _ rfl (Nat.pos_of_ne_zero hz) ?_ hx (Heap.get?_update_self _ S1 rfl) (λb o e=>(Heap.get?_update_other _ _ (λz=>by rw[<- z,nS]at e;cases e)).trans (k1 b o e)) λv g' tk hv k'=>q1 v g' tk hv k'⟩
   obtain⟨o,e,r⟩:=I1;exact⟨o,(Heap.get?_update_other _ _ (Ne.symm IS)).trans e,r⟩
 simp only[checkBuiltinCall,F.kind_max];cases X8:Manifest.signature? "max" with
 | none=>exact wpAny_pure run
 | some sig =>
  have ha:argsOk "max" ⟨[.ref l],[(Str.ofString "default",dv)]⟩:=vp _ _;have V6:Bind.checkArgs "max" sig ⟨[.ref l],[(Str.ofString "default",dv)]⟩=pure ():=by simpa only[argsOk,X8]using ha
  simp only[V6];exact wpAny_pure run
end
end Vc
namespace Vc
open PySem L2
variable [KF]
variable {G:GE}{k:Nat}{S:Stat}
def Pq(c:TB)(ta tb:TV):TV:=λσ Q=>c σ λb aw=>if b=true then ta aw Q else tb aw Q
theorem Vg{c a b:Expr}{tc:TB}{ta tb:TV}{pos:Pos}(hc:EB G k S c tc)(ha:EO G k S a ta)(hb:EO G k S b tb):EO G k S (.IfExp c a b pos) (Pq tc ta tb):=.mk λX Y ok=>aP (C4 (hc X Y ok) (ha X Y ok) (hb X Y ok)) λσ H Q q=>by
 obtain⟨F,ak,Qd,R,q,K⟩:=q;refine⟨F,ak,_,R,q,λb H1 F1 aw s1 R1 q1=>?_⟩;cases b with
 | true=>exact⟨F1,aw,Qd,R1,q1,λv H' F' x aG s'=>K v H' F' x aG (s1.trans s')⟩
 | false=>exact⟨F1,aw,Qd,R1,q1,λv H' F' x aG s'=>K v H' F' x aG (s1.trans s')⟩
def y0:List D->Option D
 | []=>none
 | x::xs=>some (xs.foldl (λb y=>if ltI b y=true then y else b) x)
def u6(xs:List D)(i j:Nat):Bool:=ltI (xs.getD j .bx) (xs.getD i .bx)
theorem n9(xs:List D)(x:D):∀n,n<(x::xs).length->(x::xs).getD (cI (u6 (x::xs)) n) .bx=(xs.take n).foldl (λb y=>if ltI b y=true then y else b) x
 | 0,_=>rfl
 | n+1,h=>by
  have ih:=n9 xs x n (by simp at h ⊢;omega)
  have hl:n<xs.length:=by simpa using h
  have gx:(x::xs).getD (n+1) .bx=xs[n]:=by
   rw[List.getD_eq_getElem?_getD,List.getElem?_cons_succ,List.getElem?_eq_getElem hl];rfl
  rw[List.take_add_one,List.getElem?_eq_getElem hl,Option.toList_some,List.foldl_append,List.foldl_cons,List.foldl_nil,<- ih];have e:u6 (x::xs) (n+1) (cI (u6 (x::xs)) n)=ltI ((x::xs).getD (cI (u6 (x::xs)) n) .bx) xs[n]:=by
   unfold u6;rw[gx]
  show(x::xs).getD (if u6 (x::xs) (n+1) (cI (u6 (x::xs)) n)=true then n+1 else cI (u6 (x::xs)) n) .bx=_
  rw[e]
  split
  ·exact gx
  ·rfl
theorem Gd{xs:List D}(h:xs≠[]):y0 xs=some (xs.getD (cI (u6 xs) (xs.length-1)) .bx):=by
 cases xs with
 | nil=>exact absurd rfl h
 | cons x xs =>
  have:=n9 xs x xs.length (by simp)
  have e:(x::xs).length-1=xs.length:=by simp
  rw[e,this,List.take_length];rfl
theorem Fg{X:Cx}{pins:List (Addr×Obj)}{σ:St}{H F:Hp}{s:Shared}(I:L2.Inv X pins σ H s){vs:List V}{xs:List D}{its:List Value}(rl:aE F vs xs)(rv:Vals vs its)(hc:xs.all isInt=true):
  zV X.prog X.w X.A.in1 .Gt s.heap its.toArray (u6 xs):=by
 intro i j x y s' Q E ex ey kp q;have j8:its[i]?=some x:=by simpa using ex
 have ey':its[j]?=some y:=by simpa using ey
 have back:∀ {n z},its[n]?=some z->∃v d,vs[n]?=some v/\xs[n]?=some d/\RelV v z/\Rep F v d:=λ{n z} e=>by
  have hl:n<vs.length:=by rw[rv.length];exact(List.getElem?_eq_some_iff.mp e).1
  have ev:vs[n]?=some vs[n]:=List.getElem?_eq_getElem hl;obtain⟨d,e1,e2⟩:=rl.get' ev;obtain⟨u,e3,e4⟩:=rv.get ev;rw[e]at e3;cases e3;exact⟨_,d,ev,e1,e4,e2⟩
 obtain⟨v,d,_,hd,r1,p1⟩:=back j8;obtain⟨u,e,_,he,r2,p2⟩:=back ey';have bt:u6 xs i j=ltI e d:=by
  unfold u6;rw[List.getD_eq_getElem?_getD,List.getD_eq_getElem?_getD,hd,he];rfl
 rw[bt]at q;have h1:=List.all_eq_true.mp hc d (List.mem_of_getElem? hd);have h2:=List.all_eq_true.mp hc e (List.mem_of_getElem? he);show wpAny _ _ (compareOp .Gt x y) _ _ _;cases d with
 | int a =>
  cases e with
  | int b =>
   cases p1;cases p2;obtain⟨t,rfl⟩:=r1;obtain⟨t',rfl⟩:=r2;exact PyProof.Rows.gt_int q
  | _=>exact absurd h2 (by simp [isInt])
 | _=>exact absurd h1 (by simp [isInt])
end Vc
namespace Vc
open PySem L2
variable [KF]
structure Moved(fs:List Addr)(a T:Addr)(h h':Heap)(T':Addr):Prop where
 keep:∀b o,h.get? b=some o->b≠a->b≠T->b∉fs->h'.get? b=some o
 slot:∀b o,h.get? b=some o->b∈fs->∃sl,h'.get? b=some {o with slots:=sl}
 ne:T'≠a
 new:h.get? T'=none\/T'=T
end Vc
namespace Vc
open PySem L2
variable [KF]
variable {G:GE}{k:Nat}{S:Stat}
def mroIn(K:PySem.W.Frag)(C:Addr):List Value:=match K.lookup C with
 | some ⟨_,_,.cls cd,_⟩=>cd.mro
 | _=>[]
end Vc
set_option maxHeartbeats 0
namespace Vc
open PySem PySem.W
@[elab_as_elim] theorem aal{α:Type} {P:List α->Prop} (h:∀a,P [a]):∀us:List α,us.length=1->P us
 | [a],_=>h a
@[elab_as_elim] theorem aam{α:Type} {P:List α->Prop} (h:∀a b,P [a,b]):∀us:List α,us.length=2->P us
 | [a,b],_=>h a b
@[elab_as_elim] theorem aan{α:Type} {P:List α->Prop} (h:∀a b c,P [a,b,c]):∀us:List α,us.length=3->P us
 | [a,b,c],_=>h a b c
@[elab_as_elim] theorem aao{α:Type} {P:List α->Prop} (h:∀a b c d,P [a,b,c,d]):∀us:List α,us.length=4->P us
 | [a,b,c,d],_=>h a b c d
@[elab_as_elim] theorem aap{α:Type} {P:List α->Prop} (h:∀a b c d e,P [a,b,c,d,e]):∀us:List α,us.length=5->P us
 | [a,b,c,d,e],_=>h a b c d e
theorem Qa{q:Program}{loose:List Str}{XP:(Str->Option Value)->Heap->Prop}{K:Params->Frag}{as:List Addr}{n t:Nat}{r:RowW}{d:DefRec}{kwd:List (Str×Expr)}{run:Value->List Value->Sem Value}
  (e:∀P,as=(K P).map (·.1)) (h:WalkO q loose XP (λw h=>(K w.params).In h) r d kwd run):WalkX q loose XP (X.obsZ as) (X.valZ K n t) r d kwd run:=
 λw cw bI mg mb G y a o pm cd doc dV kV ho hd sV hD hmg hg args vals Zo L yL FJ Wg FL u9 =>
  h w cw bI mg mb G (InK.keeps w _ _ (X.z_facts e y).2.1 L.keeps) a o pm cd doc dV kV ho hd sV hD hmg hg args vals Zo yL FJ Wg FL u9
end Vc
namespace Vc
open PySem L2
variable [KF]
variable {G:GE}{k:Nat}{S:Stat}
theorem RS.CL{Y:bC}{F:Hp}{ak:Sd}{σ:St}{H:Hp}{i:Nat}{o o':O}{a c:Addr}{u:HO}(R:RS Y F ak σ H)(e:ak[i]?=some (some (.obj o)))(h:σ[i]?=some (some (.ref a)))(hc:c∈o.fp a)(B9:∀b,b∈o'.fp a->b∈o.fp a)
  (hr:o'.rep F (upd H c u) a):RS Y F (ak.set i (some (.obj o'))) σ (upd H c u):=by
 obtain⟨a',w1,w2,w3⟩:=R.ob.obj i o e;rw[h]at w1;cases w1;have ow:∀b∈o.fp a,gb ak σ b:=λb hb=>⟨i,o,a,e,h,hb⟩;have hl:i<ak.length:=(List.getElem?_eq_some_iff.mp e).1;have up:∀ {b:Addr},H b≠none->(upd H c u) b≠none:=λ{b} hb=>by
  by_cases z:b=c
  ·rw[z,aB];exactλy=>nomatch y
  ·rw[aq z];exact hb
 refine⟨by simpa using R.len,R.lo,λb q z=>?_,R.fh,λb q z n=>?_,λj d z=>?_,λj xs z=>?_,λj l xs ys b z1 z2 z3 z4=>?_,λp hp=>?_,⟨λj p z=>?_,λj l p p2 b d z1 z2 z3 z4 cm x hx pO=>?_,λj ys b z1 z2 ⟨l,p,d,z3,z4,hm⟩=>?_,λb hb=>up (R.ob.there b hb),R.ob.QB,R.ob.tab⟩⟩
 ·have:b≠c:=λy=>by rw[y,(w3 c hc).1]at z;cases z
  rw[aq this];exact R.fr b q z
 ·have:b≠c:=λy=>by
   subst y;rcases(w3 b hc).2.2 with y|y
   ·rw[y]at z;cases z
   ·exact n (List.mem_append_right _ y)
  rw[aq this];exact R.old b q z n
 ·rcases gs z with⟨_,y⟩|⟨_,z⟩
  ·cases y
  ·exact R.sh j d z
 ·rcases gs z with⟨_,y⟩|⟨_,z⟩
  ·cases y
  ·obtain⟨b,vs,y1,y2,y3⟩:=R.own j xs z
   have:b≠c:=λy=>R.ob.ju j xs b z y1 (y ▸ ow c hc);exact⟨b,vs,y1,by rw[aq this];exact y2,y3⟩
 ·rcases gs z1 with⟨_,y⟩|⟨_,z1⟩
  ·cases y
  rcases gs z2 with⟨_,y⟩|⟨_,z2⟩
  ·cases y
  exact R.dis j l xs ys b z1 z2 z3 z4
 ·obtain⟨y1,xs,y2⟩:=R.io p hp
  have:p.1≠i:=λy=>by rw[y,e]at y2;cases y2
  exact⟨y1,xs,by rw[bG this];exact y2⟩
 ·rcases gs z with⟨rfl,y⟩|⟨hj,z⟩
  ·cases y
   exact⟨a,h,hr,λb hb=>⟨(w3 b (B9 b hb)).1,up (w3 b (B9 b hb)).2.1,(w3 b (B9 b hb)).2.2⟩⟩
  ·obtain⟨b,y1,y2,y3⟩:=R.ob.obj j p z
   refine⟨b,y1,p.mono (ao.refl _) (λd hd=>?_) y2,λd hd=>⟨(y3 d hd).1,up (y3 d hd).2.1,(y3 d hd).2.2⟩⟩;exact aq λy=>R.ob.yz i j o p a b e z h y1 (Ne.symm hj) c hc (y ▸ hd)
 ·rcases gs z1 with⟨e1,y⟩|⟨hj,y1⟩
  ·cases y
   subst e1;rw[h]at z3;cases z3;rcases gs z2 with⟨e2,_⟩|⟨xa,y2⟩
   ·exact cm e2.symm
   ·exact R.ob.yz j l o p2 a d e y2 h z4 cm x (B9 x hx) pO
  ·rcases gs z2 with⟨e2,y⟩|⟨xa,y2⟩
   ·cases y
    subst e2;rw[h]at z4;cases z4;exact R.ob.yz j l p o b a y1 e z3 h cm x hx (B9 x pO)
   ·exact R.ob.yz j l p p2 b d y1 y2 z3 z4 cm x hx pO
 ·rcases gs z1 with⟨_,y⟩|⟨_,y1⟩
  ·cases y
  rcases gs z3 with⟨e3,y⟩|⟨_,y3⟩
  ·cases y
   subst e3;rw[h]at z4;cases z4;exact R.ob.ju j ys b y1 z2 (ow b (B9 b hm))
  ·exact R.ob.ju j ys b y1 z2 ⟨l,p,d,y3,z4,hm⟩
def Y4(i:Nat):TV:=λσ Q=>(∃o,σ[i]?=some (some (.obj o)))/\Q (.var i) σ
theorem YN(i:Nat){x:Str}{pos:Pos}(hN:S.N[i]?=some x:=by rfl)(hv:S.sc.lookup x=some .local\/S.sc.lookup x=some .cell\/S.sc.lookup x=some .free:=by first|exact Or.inl rfl|exact Or.inr (Or.inl rfl)|exact Or.inr (Or.inr rfl))
  (hd:(x==("__debug__":Str))=false:=by decide) (sV:(x==("__classdict__":Str))=false:=by decide):EO G k S (.Name x pos) (Y4 i):=.mk λX Y ok =>
 aP (qj (X:=X) (i:=i) (by rw[ok.N];exact hN) (by unfold Qh;rw[ok.sc];exact hv) hd sV) λσ H Q q=>by
  obtain⟨F,ak,Qd,R,⟨⟨o,e⟩,q⟩,K⟩:=q;obtain⟨a,w1,_⟩:=R.ob.obj i o e;exact⟨.ref a,w1,K _ H F (.var i) ak (ao.refl _) R w1 q⟩
def Ds(neg:Bool):R2:=λy x H Q=>∃a o,x=.ref a/\Jr H a y o/\Q (.bl (if neg then !o.isSome else o.isSome)) H
theorem zh{X:Cx}(hu:X.A.units+1<cLine):f9 X (compareOp .NotIn) (Ds true):=by
 intro pins s σ H x y v u Q I rx ry h;obtain⟨a,o,rfl,g,q⟩:=h;cases ry;exact Fj hu I g rx λs' I'=>⟨.bl (!o.isSome),H,I',rfl,q⟩
end Vc
namespace Vc
open PySem L2
variable [KF]
theorem RS.MJ{Y:bC}{F:Hp}{ak:Sd}{σ:St}{H H':Hp}{i:Nat}{o o':O}{a:Addr}(R:RS Y F ak σ H)(e:ak[i]?=some (some (.obj o)))(h:σ[i]?=some (some (.ref a)))
  (keep:∀b,b∉o.fp a->H b≠none->H' b=H b) (live:∀b,H b≠none->H' b≠none) (B9:∀b∈o'.fp a,b∈o.fp a\/H b=none) (hn:∀b∈o'.fp a,H' b≠none)
  (hr:o'.rep F H' a):RS Y F (ak.set i (some (.obj o'))) σ H':=by
 obtain⟨a',w1,w2,w3⟩:=R.ob.obj i o e;rw[h]at w1;cases w1;have ow:∀b∈o.fp a,gb ak σ b:=λb hb=>⟨i,o,a,e,h,hb⟩;have hl:i<ak.length:=(List.getElem?_eq_some_iff.mp e).1;refine⟨by simpa using R.len,R.lo,λb q z=>?_,R.fh,λb q z n=>?_,λj d z=>?_,λj xs z=>?_,λj l xs ys b z1 z2 z3 z4=>?_,λp hp=>?_,⟨λj p z=>?_,λj l p p2 b d z1 z2 z3 z4 cm x hx pO=>?_,λj ys b z1 z2 ⟨l,p,d,z3,z4,hm⟩=>?_,λb hb=>live b (R.ob.there b hb),R.ob.QB,R.ob.tab⟩⟩
 ·have hb:b∉o.fp a:=λy=>by rw[(w3 b y).1]at z;cases z
  have:=R.fr b q z;rw[keep b hb (by rw[this];exactλy=>nomatch y)];exact this
 ·have hb:b∉o.fp a:=λy=>by
   rcases(w3 b y).2.2 with y|y
   ·rw[y]at z;cases z
   ·exact n (List.mem_append_right _ y)
  have:=R.old b q z n;rw[keep b hb (by rw[this];exactλy=>nomatch y)];exact this
 ·rcases gs z with⟨_,y⟩|⟨_,z⟩
  ·cases y
  ·exact R.sh j d z
 ·rcases gs z with⟨_,y⟩|⟨_,z⟩
  ·cases y
  ·obtain⟨b,vs,y1,y2,y3⟩:=R.own j xs z
   have hb:b∉o.fp a:=λy=>R.ob.ju j xs b z y1 (ow b y);exact⟨b,vs,y1,by rw[keep b hb (by rw[y2];exactλy=>nomatch y)];exact y2,y3⟩
 ·rcases gs z1 with⟨_,y⟩|⟨_,z1⟩
  ·cases y
  rcases gs z2 with⟨_,y⟩|⟨_,z2⟩
  ·cases y
  exact R.dis j l xs ys b z1 z2 z3 z4
 ·obtain⟨y1,xs,y2⟩:=R.io p hp
  have:p.1≠i:=λy=>by rw[y,e]at y2;cases y2
  exact⟨y1,xs,by rw[bG this];exact y2⟩
 ·rcases gs z with⟨rfl,y⟩|⟨hj,z⟩
  ·cases y
   refine⟨a,h,hr,λb hb=>?_⟩;rcases B9 b hb with y|y
   ·exact⟨(w3 b y).1,hn b hb,(w3 b y).2.2⟩
   ·exact⟨same_none R.fr y,hn b hb,.inl (R.b7 y).1⟩
  ·obtain⟨b,y1,y2,y3⟩:=R.ob.obj j p z
   have kp:∀d∈p.fp b,H' d=H d:=λd hd=>keep d (λy=>R.ob.yz i j o p a b e z h y1 (Ne.symm hj) d y hd) (y3 d hd).2.1;exact⟨b,y1,p.mono (ao.refl _) kp y2,λd hd=>⟨(y3 d hd).1,live d (y3 d hd).2.1,(y3 d hd).2.2⟩⟩
 ·rcases gs z1 with⟨e1,y⟩|⟨hj,y1⟩
  ·cases y
   subst e1;rw[h]at z3;cases z3;rcases gs z2 with⟨e2,_⟩|⟨xa,y2⟩
   ·exact cm e2.symm
   ·rcases B9 x hx with y|y
    ·exact R.ob.yz j l o p2 a d e y2 h z4 cm x y pO
    ·exact(R.ob.owned ⟨l,p2,d,y2,z4,pO⟩).2.1 y
  ·rcases gs z2 with⟨e2,y⟩|⟨xa,y2⟩
   ·cases y
    subst e2;rw[h]at z4;cases z4;rcases B9 x pO with y|y
    ·exact R.ob.yz j l p o b a y1 e z3 h cm x hx y
    ·exact(R.ob.owned ⟨j,p,b,y1,z3,hx⟩).2.1 y
   ·exact R.ob.yz j l p p2 b d y1 y2 z3 z4 cm x hx pO
 ·rcases gs z1 with⟨_,y⟩|⟨_,y1⟩
  ·cases y
  rcases gs z3 with⟨e3,y⟩|⟨_,y3⟩
  ·cases y
   subst e3;rw[h]at z4;cases z4;rcases B9 b hm with y|y
   ·exact R.ob.ju j ys b y1 z2 (ow b y)
   ·obtain⟨c,vs,u1,u2,_⟩:=R.own j ys y1
    rw[z2]at u1;cases u1;rw[y]at u2;cases u2
  ·exact R.ob.ju j ys b y1 z2 ⟨l,p,d,y3,z4,hm⟩
abbrev Zf:=List (Int×Addr×List D)
def QW(ts:Zf)(k:Int)(p:Addr)(d:D):Zf:=if(ts.any λt=>decide (t.1=k))=true then ts.map (λt=>if t.1=k then(t.1,t.2.1,t.2.2++[d])else t)else ts++[(k,p,[d])]
end Vc
namespace Vc
open PySem L2
variable [KF]
variable {G:GE}{k:Nat}{S:Stat}
theorem og{α β:Type}(f:α->β):∀ {l:List α},(l.map f).Nodup->∀ {x y:α},x∈l->y∈l->f x=f y->x=y
 | a::l,h,x,y,hx,hy,e=>by
  rw[List.map_cons,List.nodup_cons]at h;rcases List.mem_cons.mp hx with hx|hx
  ·rcases List.mem_cons.mp hy with hy|hy
   ·rw[hx,hy]
   ·exact absurd (by rw[<- hx,e];exact List.mem_map_of_mem hy) h.1
  ·rcases List.mem_cons.mp hy with hy|hy
   ·exact absurd (by rw[<- hy,<- e];exact List.mem_map_of_mem hx) h.1
   ·exact og f h.2 hx hy e
end Vc
namespace Vc
open PySem L2
variable [KF]
variable {G:GE}{k:Nat}{S:Stat}
def DR(t:TV)(td:TD):TV:=λσ Q=>t σ λx aw=>td aw λdv bq=>match dZ bq x with
 | some (.lst xs)=>xs.all isInt=true/\Q (.val ((y0 xs).getD dv)) bq
 | _=>False
theorem Oq{e d:Expr}{t:TV}{td:TD}{p kp pos:Pos}(h:EO G k S e t)(hd:ED G k S d td)(hm:G.mg "max"=none)(hg:S.sc.lookup ("max":Str)=some .globalImplicit:=by rfl)
  (he:∀env,starEach [e] env=[(false,eval e env)]:=by intro _;rfl) (hh:S.kE=false:=by rfl):EO G k S (.Call (.Name "max" p) [e] [⟨some "default",d,kp⟩] pos) (DR t td):=.mk λX Y ok=>by
 intro pins s σ H Q I q;obtain⟨F,ak,Qd,R,q,K⟩:=q;refine wpAny_Call_Name_kw (dJ (u:=.builtin "max") I (cz ok hg) (by rw[ok.mg];exact hm) (by decide +kernel) ?_ ∅ ∅)
 have ha:PA X [e] (dX (lO Y t) mN):=bS (h X Y ok) cW (by rw[he];rfl)
 have hk:PK X [⟨some "default",d,kp⟩] (dX (lD Y td) mN):=GF (hd X Y ok) NU;have hA:=ha pos pins s σ H (λvs H1=>∃v1 F1 x aw,vs=[v1]/\ao F F1/\RS Y F1 aw σ H1/\vk F1 σ v1 x/\td aw (λdv bq=>match dZ bq x with
   | some (.lst xs)=>xs.all isInt=true/\Qd (.val ((y0 xs).getD dv)) bq
   | _=>False)) I ⟨F,ak,_,R,q,λv1 H1 F1 x aw s1 R1 r1 q1=>⟨v1,F1,x,aw,rfl,s1,R1,r1,q1⟩⟩
 refine PyProof.Rows.callWith_kw (env:=X.env) (cj hA λus s1 h1=>?_) (by rw[he];rfl) (by rw[he];rfl) rfl rfl
 obtain⟨vs,H1,I1,rvs,v1,F1,x,aw,rfl,sm1,R1,r1,q1⟩:=h1;obtain⟨u1,rfl,ru1⟩:=vals1 rvs;refine cj (hk pos pins s1 σ H1 (λvs H2=>∃v2 F2 dv bq,vs=[v2]/\ao F1 F2/\RS Y F2 bq σ H2/\Rep F2 v2 dv/\(match dZ bq x with
   | some (.lst xs)=>xs.all isInt=true/\Qd (.val ((y0 xs).getD dv)) bq
   | _=>False)) I1 ⟨F1,aw,_,R1,q1,λv2 H2 F2 dv bq s2 R2 r2 q2=>⟨v2,F2,dv,bq,rfl,s2,R2,r2,q2⟩⟩) λws s2 h2=>?_
 obtain⟨vs2,H2,I2,YR,v2,F2,dv,bq,rfl,YW,R2,r2,q2⟩:=h2;obtain⟨u2,rfl,ru2⟩:=vals1 YR
 split at q2
 ·rename_i xs ex
  obtain⟨hc,q2⟩:=q2;obtain⟨a,vs,rfl,Wg,rl⟩:=(R2.dZ (r1.mono YW) ex).lst;cases ru1;obtain⟨its,rv,pl,_⟩:=I2.list (show dY X.K H2 a vs from .inl Wg)
  have hu:X.A.in1.units<cLine:=by
   have:=ok.units;show X.A.units+1<cLine;omega
  have EH:=Fg I2 rl rv hc;have len:its.toArray.size=xs.length:=by rw[List.size_toArray,<- rv.length,rl.length]
  refine wpAny_with_toks (Nat.le_refl _) (tO (I2.ok.hd (ok.calm hh)) EH pl.isList (λhz g tk kp h8=>?_) λz g tk hz kp h8=>?_)
  ·have:xs=[]:=List.length_eq_zero_iff.mp (by rw[<- len];exact hz)
   subst this;exact⟨v2,H2,I2.kept kp,ru2,K v2 H2 F2 (.val dv) bq (sm1.trans YW) R2 r2 q2⟩
  ·have EZ:its[cI (u6 xs) (xs.length-1)]?=some z:=by rw[len]at hz;simpa using hz
   have cm:xs≠[]:=λe=>by
    subst e;have:its=[]:=List.length_eq_zero_iff.mp (by rw[<- rv.length,rl.length];rfl)
    rw[this]at EZ;simp at EZ
   have hl:cI (u6 xs) (xs.length-1)<vs.length:=by rw[rv.length];exact(List.getElem?_eq_some_iff.mp EZ).1
   have ev:vs[cI (u6 xs) (xs.length-1)]?=some vs[cI (u6 xs) (xs.length-1)]:=List.getElem?_eq_getElem hl;obtain⟨dd,e1,e2⟩:=rl.get' ev;obtain⟨zz,e3,e4⟩:=rv.get ev;rw[EZ]at e3;cases e3;have eb:y0 xs=some dd:=by rw[Gd cm,List.getD_eq_getElem?_getD,e1];rfl
   rw[eb]at q2;exact⟨_,H2,I2.kept kp,e4,K _ H2 F2 (.val dd) bq (sm1.trans YW) R2 e2 q2⟩
 ·exact q2.elim
end Vc
set_option maxHeartbeats 400000
set_option maxHeartbeats 400000
namespace Vc
open PySem L2
variable [KF]
variable {G:GE}{k:Nat}{S:Stat}
abbrev E7:=List (Addr×List D)
def pU(ts:E7):O where
 fp:=λa=>a::ts.map (·.1)
 rep:=λF H a=>H a=some (.lst (ts.map λt=>V.ref t.1))/\(a::ts.map (·.1)).Nodup/\∀t∈ts,∃vs,H t.1=some (.lst vs)/\aE F vs t.2
 solid:=λ{F H a b φ} ⟨h,_,hs⟩ hb z=>by
  rcases List.mem_cons.mp hb with rfl|hb
  ·rw[h]at z;cases z
  ·obtain⟨t,ht,rfl⟩:=List.mem_map.mp hb
   obtain⟨vs,e,_⟩:=hs t ht;rw[e]at z;cases z
 nt:=λ{F H a b vs'} ⟨h,_,hs⟩ hb z=>by
  rcases List.mem_cons.mp hb with rfl|hb
  ·rw[h]at z;cases z
  ·obtain⟨t,ht,rfl⟩:=List.mem_map.mp hb
   obtain⟨vs,e,_⟩:=hs t ht;rw[e]at z;cases z
 mono:=λ{F F' H H' a} s e ⟨h,n1,hs⟩=>⟨by rw[e a (List.mem_cons_self ..)];exact h,n1,λt ht=>by
  obtain⟨vs,h1,h2⟩:=hs t ht;exact⟨vs,by rw[e _ (List.mem_cons_of_mem _ (List.mem_map_of_mem ht))];exact h1,h2.mono s⟩⟩
 deep:=some (.lst (ts.map λt=>.lst t.2))
 IP:=λ{F H a d} s hr e=>by
  cases e;obtain⟨w2,n1,w3⟩:=hr;obtain⟨F',eF⟩:∃F':Hp,F'=λb=>if b∈a::ts.map (·.1)then H b else F b:=⟨_,rfl⟩
  have sF:ao F F':=λb u z=>by
   rw[eF];show(if b∈a::ts.map (·.1)then H b else F b)=some u
   split
   ·exact s b u z
   ·exact z
  have inF:∀b∈a::ts.map (·.1),F' b=H b:=λb hb=>by
   rw[eF];show(if b∈a::ts.map (·.1)then H b else F b)=H b
   rw[if_pos hb]
  have sH:ao F' H:=λb u z=>by
   rw[eF]at z;have z:(if b∈a::ts.map (·.1)then H b else F b)=some u:=z
   split at z
   ·exact z
   ·exact s b u z
  have key:∀us:E7,(∀t∈us,t∈ts)->aE F' (us.map λt=>V.ref t.1) (us.map λt=>D.lst t.2):=by
   intro us
   induction us with
   | nil=>intro _;exact .nil
   | cons t us ih =>
    intro hu;obtain⟨vs,h1,h2⟩:=w3 t (hu t (.head _));have hb:t.1∈a::ts.map (·.1):=List.mem_cons_of_mem _ (List.mem_map_of_mem (hu t (.head _)))
    exact .cons (.lst (.inl ((inF _ hb).trans h1)) (h2.mono sF)) (ih λx hx=>hu x (.tail _ hx))
  exact⟨F',sF,sH,.lst (.inl ((inF a (List.mem_cons_self ..)).trans w2)) (key ts λ_ h=>h)⟩
end Vc
namespace Vc
open PySem L2
variable [KF]
variable {G:GE}{k:Nat}{S:Stat}
theorem za{α:Type}{l:List α}(nd:l.Nodup){i j:Nat}{x:α}(a:l[i]?=some x)(b:l[j]?=some x):i=j:=by
 obtain⟨h1,e1⟩:=List.getElem?_eq_some_iff.mp a;obtain⟨h2,e2⟩:=List.getElem?_eq_some_iff.mp b;exact(List.getElem_inj nd).mp (e1.trans e2.symm)
theorem RS.T5{Y:bC}{F:Hp}{ak:Sd}{σ:St}{H:Hp}{i m:Nat}{ts:E7}{t:Addr×List D}{a:Addr}{vs:List V}{v:V}{d:D}(R:RS Y F ak σ H)(e:ak[i]?=some (some (.obj (pU ts))))(h:σ[i]?=some (some (.ref a)))(ht:ts[m]?=some t)(hv:H t.1=some (.lst vs))(r:Rep F v d):
  RS Y F (ak.set i (some (.obj (pU (ts.set m (t.1,t.2++[d])))))) σ (upd H t.1 (.lst (vs++[v]))):=by
 obtain⟨a',w1,⟨w2,n1,w3⟩,w4⟩:=R.ob.obj i _ e;rw[h]at w1;cases w1;have Wi:=List.mem_of_getElem? ht;have hm:m<ts.length:=(List.getElem?_eq_some_iff.mp ht).1;have n2:=List.nodup_cons.mp n1;have Yc:t.1≠a:=λz=>n2.1 (z ▸ List.mem_map_of_mem Wi);have m1:(ts.set m (t.1,t.2++[d])).map (·.1)=ts.map (·.1):=by
  rw[List.map_set];refine List.ext_getElem? λj=>?_
  by_cases hj:m=j
  ·subst hj;rw[List.getElem?_set_self (by rw[List.length_map];exact hm),List.getElem?_map,ht];rfl
  ·rw[List.getElem?_set_ne hj]
 have m2:(ts.set m (t.1,t.2++[d])).map (λt=>V.ref t.1)=ts.map λt=>V.ref t.1:=by
  have e1:∀l:E7,(l.map λt=>V.ref t.1)=(l.map (·.1)).map V.ref:=λl=>by rw[List.map_map];rfl
  rw[e1,e1,m1]
 have Zw:(pU (ts.set m (t.1,t.2++[d]))).fp a=(pU ts).fp a:=by show a::_=a::_;rw[m1]
 have live:∀b,H b≠none->upd H t.1 (.lst (vs++[v])) b≠none:=λb hb=>by
  by_cases z:b=t.1
  ·rw[z,aB];exactλy=>nomatch y
  ·rw[aq z];exact hb
 refine R.MJ (o':=pU (ts.set m (t.1,t.2++[d]))) e h (λb pJ hn=>?_) live (λb pJ=>.inl (by rw[<- Zw];exact pJ)) (λb pJ=>?_) ⟨?_,by rw[m1];exact n1,λu hu=>?_⟩
 ·exact aq λz=>pJ (List.mem_cons_of_mem _ (z ▸ List.mem_map_of_mem Wi))
 ·rw[Zw]at pJ
  exact live b (w4 b pJ).2.1
 ·rw[aq (Ne.symm Yc),m2];exact w2
 ·obtain⟨j,hj⟩:=List.getElem?_of_mem hu
  by_cases XU:m=j
  ·subst XU
   rw[List.getElem?_set_self hm]at hj;cases hj;obtain⟨ws,h1,h2⟩:=w3 t Wi;rw[hv]at h1;cases h1;exact⟨_,aB,h2.append (.cons r .nil)⟩
  ·rw[List.getElem?_set_ne XU]at hj
   have Z9:=List.mem_of_getElem? hj;obtain⟨ws,h1,h2⟩:=w3 u Z9;have cm:u.1≠t.1:=λz=>by
    have e1:=og (·.1) n2.2 Z9 Wi z
    have g1:ts[m]?=some u:=by rw[e1];exact ht
    have yJ:j<ts.length:=(List.getElem?_eq_some_iff.mp hj).1;have nd:=n2.2;have q1:(ts.map (·.1))[m]?=some u.1:=by rw[List.getElem?_map,g1];rfl
    have q2:(ts.map (·.1))[j]?=some u.1:=by rw[List.getElem?_map,hj];rfl
    exact XU (za nd q1 q2)
   exact⟨ws,by rw[aq cm];exact h1,h2⟩
def VP(i:Nat)(tb:TV)(te:TD):cA:=λDe σ=>(∃ts,σ[i]?=some (some (.obj (pU ts))))/\tb σ λy aw=>match dZ aw y with
 | some (.int n)=>∃Y7 t0,∃m:Nat,aw[i]?=some (some (.obj (pU Y7)))/\n=(m:Int)/\Y7[m]?=some t0/\te aw λd bq=>∃ts t,bq[i]?=some (some (.obj (pU ts)))/\ts[m]?=some t/\t.1=t0.1/\t.2.length<1000000/\De.nx (bq.set i (some (.obj (pU (ts.set m (t.1,t.2++[d]))))))
 | _=>False
theorem xI(i:Nat){x:Str}{b e:Expr}{tb:TV}{te:TD}{np sp ap cp pos:Pos}(hb:EO G k S b tb)(he:ED G k S e te)(hx:S.N[i]?=some x:=by rfl)
  (vx:S.sc.lookup x=some .local\/S.sc.lookup x=some .cell\/S.sc.lookup x=some .free:=by first|exact Or.inl rfl|exact Or.inr (Or.inl rfl)|exact Or.inr (Or.inr rfl))
  (dx:(x==("__debug__":Str))=false:=by decide) (cx:(x==("__classdict__":Str))=false:=by decide) (hs:oP b:=by intro _ _;rfl)
  (hl:(ap.endLine==cp.line)=true:=by rfl) (sY:∀env,starEach [e] env=[(false,eval e env)]:=by intro _;rfl):
  ES G k S (.Expr (.Call (.Attribute (.Subscript (.Name x np) b sp) "append" ap) [e] [] cp) pos) (VP i tb te):=.mk λX Y ok=>by
 have px:PE X (.Name x np) (VU i):=qj (by rw[ok.N];exact hx) (by unfold Qh;rw[ok.sc];exact vx) dx cx
 have p1:=Ja (pos:=sp) xj px (hb X Y ok) hs;have p2:=C1 (apos:=ap) (cpos:=cp) F.plainAttrs_list F.slot_list_append F.type_list_append jG p1 (bS (he X Y ok) cW (sY _)) rfl (by rw[sY];rfl) hl (sY _) rfl
 refine cX (xD p2 rfl) λDn σ H0 q=>?_;obtain⟨F0,σ0,De,R0,⟨⟨aar,e00⟩,q⟩,K⟩:=q;obtain⟨a,w1,_,_⟩:=R0.ob.obj i _ e00;refine⟨.ref a,w1,F0,σ0,_,R0,q,λv1 H1 F1 y aw s1 R1 r1 q1=>?_⟩
 split at q1
 ·rename_i n ed
  obtain⟨Y7,t0,m,e0,rfl,Z7,q1⟩:=q1;have ry:=R1.dZ r1 ed;obtain rfl:=ry.int;obtain⟨a',VY,⟨w2,n1,w3⟩,w4⟩:=R1.ob.obj i _ e0;rw[w1]at VY;cases VY;obtain⟨vs0,g1,g2⟩:=w3 t0 (List.mem_of_getElem? Z7);refine⟨a,_,_,.ref t0.1,rfl,rfl,.of w2,o6 (by rw[List.getElem?_map,Z7];rfl),.inl ⟨rfl,vs0,.inl (.inl g1)⟩,F1,aw,_,R1,q1,λv2 H2 F2 d bq s2 R2 r2 q2=>?_⟩
  obtain⟨ts,t,e2,ht,et,hlen,q2⟩:=q2;obtain⟨a',VY,⟨u2,m1,u3⟩,u4⟩:=R2.ob.obj i _ e2;rw[w1]at VY;cases VY;obtain⟨vs,h1,h2⟩:=u3 t (List.mem_of_getElem? ht);refine⟨t0.1,vs,v2,rfl,rfl,by rw[<- et];exact h1,by rw[sizeLine_eq,h2.length];omega,?_⟩
  rw[<- et];exact K.nx σ _ F2 _ (s1.trans s2) (R2.T5 e2 w1 ht h1 r2) q2
 ·exact q1.elim
end Vc
namespace Vc
open PySem L2
variable [KF]
def m8(kvs:List (Int×D))(i:Int):Option D:=(kvs.find? λp=>decide (p.1=i)).map (·.2)
def yQ(kvs:List (Int×D))(i:Int)(d:D):List (Int×D):=if(kvs.any λp=>decide (p.1=i))=true then kvs.map (λp=>if p.1=i then(p.1,d)else p)else kvs++[(i,d)]
theorem cg.length{F:Hp}:∀ {ks:List (Key×V)} {kvs:List (Int×D)},cg F ks kvs->ks.length=kvs.length
 | _,_,.nil=>rfl
 | _,_,.cons _ r=>by simp [cg.length r]
theorem CB(i j:Int):((Sum.inl i:Key)=Sum.inl j)=(i=j):=by simp
theorem cg.val{F:Hp}(j:Int):∀ {ks:List (Key×V)} {kvs:List (Int×D)},cg F ks kvs->(jg ks (.inl j)=none/\m8 kvs j=none)\/∃v d,jg ks (.inl j)=some v/\m8 kvs j=some d/\Rep F v d
 | _,_,.nil=>.inl ⟨rfl,rfl⟩
 | _,_,.cons (i:=i) (v:=v) (d:=d) (ks:=ks) (kvs:=kvs) h r=>by
  by_cases e:i=j
  ·subst e
   exact .inr ⟨v,d,ji rfl,by unfold m8;rw[List.find?_cons_of_pos (by simp)];rfl,h⟩
  ·have e1:jg ((Sum.inl i,v)::ks) (Sum.inl j)=jg ks (Sum.inl j):=jh (by show¬(Sum.inl i:Key)=Sum.inl j;rw[CB];exact e)
   have e2:m8 ((i,d)::kvs) j=m8 kvs j:=by unfold m8;rw[List.find?_cons_of_neg (by simpa using e)]
   rw[e1,e2];exact cg.val j r
theorem cg.append{F:Hp}:∀ {ks js:List (Key×V)} {kvs lvs:List (Int×D)},cg F ks kvs->cg F js lvs->cg F (ks++js) (kvs++lvs)
 | _,_,_,_,.nil,s=>s
 | _,_,_,_,.cons h r,s=>.cons h (cg.append r s)
theorem cg.any{F:Hp}(j:Int):∀ {ks:List (Key×V)} {kvs:List (Int×D)},cg F ks kvs->(ks.any λkv=>decide (kv.1=Sum.inl j))=(kvs.any λp=>decide (p.1=j))
 | _,_,.nil=>rfl
 | _,_,.cons (i:=i) _ r=>by
  rw[List.any_cons,List.any_cons,cg.any j r];congr 1;simp
theorem cg.repl{F:Hp}{v:V}{d:D}(j:Int)(hv:Rep F v d):∀ {ks:List (Key×V)} {kvs:List (Int×D)},cg F ks kvs->cg F (ks.map λkv=>if kv.1=Sum.inl j then(kv.1,v)else kv) (kvs.map λp=>if p.1=j then(p.1,d)else p)
 | _,_,.nil=>.nil
 | _,_,.cons (i:=i) h r=>by
  rw[List.map_cons,List.map_cons]
  by_cases e:i=j
  ·rw[if_pos (show(Sum.inl i:Key)=Sum.inl j by rw[e]),if_pos (show i=j from e)]
   exact .cons hv (cg.repl j hv r)
  ·rw[if_neg (show¬(Sum.inl i:Key)=Sum.inl j by rw[CB];exact e),if_neg (show¬i=j from e)]
   exact .cons h (cg.repl j hv r)
theorem cg.put{F:Hp}{ks:List (Key×V)}{kvs:List (Int×D)}{v:V}{d:D}(j:Int)(r:cg F ks kvs)(hv:Rep F v d):cg F (putK ks (.inl j) v) (yQ kvs j d):=by
 unfold putK yQ;rw[r.any j]
 split
 ·exact r.repl j hv
 ·exact r.append (.cons hv .nil)
def Ba(a:Addr)(kvs:List (Int×D)):O where
 fp:=λb=>[b]
 rep:=λF H b=>b=a/\∃ks,H b=some (.dK ks)/\cg F ks kvs
 solid:=λ{F H a b φ} ⟨_,ks,h,_⟩ hb z=>by
  rw[List.mem_singleton.mp hb,h]at z;cases z
 nt:=λ{F H a b vs} ⟨_,ks,h,_⟩ hb z=>by
  rw[List.mem_singleton.mp hb,h]at z;cases z
 mono:=λ{F F' H H' a} s e ⟨e0,ks,h,r⟩=>⟨e0,ks,by rw[e a (List.mem_singleton.mpr rfl)];exact h,r.mono s⟩
 view:=some (.mZ kvs)
 sees:=λ{F H a d} ⟨_,ks,h,r⟩ e=>by cases e;exact⟨a,ks,rfl,.inl h,r⟩
 lend:=λ{F H a d} s ⟨_,ks,h,r⟩ e=>by
  cases e;obtain⟨F',s1,s2,e1,e2⟩:=lA s h;refine⟨F',s1,s2,.mZ (.inl e1) (r.mono s1),λc u z=>?_⟩;rcases e2 c u z with z|⟨rfl,rfl⟩
  ·exact .inl z
  ·exact .inr ⟨rfl,List.mem_singleton.mpr rfl⟩
 loc:=some a
 Yx:=λ{F H a b} ⟨e,_⟩ q=>by cases q;exact e
variable {G:GE}{k:Nat}{S:Stat}
def uH(i:Nat):TV:=λσ Q=>match σ[i]? with
 | some (some (.sh d))=>Q (.val d) σ
 | some (some _)=>Q (.var i) σ
 | _=>False
theorem DA(i:Nat){x:Str}{pos:Pos}(hN:S.N[i]?=some x:=by rfl)(hv:S.sc.lookup x=some .local\/S.sc.lookup x=some .cell\/S.sc.lookup x=some .free:=by first|exact Or.inl rfl|exact Or.inr (Or.inl rfl)|exact Or.inr (Or.inr rfl))
  (hd:(x==("__debug__":Str))=false:=by decide) (sV:(x==("__classdict__":Str))=false:=by decide):EO G k S (.Name x pos) (uH i):=.mk λX Y ok =>
 aP (qj (X:=X) (i:=i) (by rw[ok.N];exact hN) (by unfold Qh;rw[ok.sc];exact hv) hd sV) λσ H Q q=>by
  obtain⟨F,ak,Qd,R,q,K⟩:=q;unfold uH at q
  split at q
  ·rename_i d e
   obtain⟨v,e2,r2⟩:=R.sh i d e;exact⟨v,e2,K v H F (.val d) ak (ao.refl _) R r2 q⟩
  ·rename_i b hb e
   cases b with
   | sh d=>exact absurd rfl (hb d)
   | own xs =>
    obtain⟨a,vs,e2,_⟩:=R.own i xs e;exact⟨_,e2,K _ H F (.var i) ak (ao.refl _) R e2 q⟩
   | obj o =>
    obtain⟨a,e2,_⟩:=R.ob.obj i o e;exact⟨_,e2,K _ H F (.var i) ak (ao.refl _) R e2 q⟩
  ·exact q.elim
def Pl:TX:=λσ Q=>∀p,Q (.obj (Ba p [])) σ
theorem GV{pos:Pos}:EX G k S (.Dict [] [] pos) Pl:=.mk λX Y ok=>aP C3 λσ H Q q=>by
 obtain⟨F,ak,Qd,R,q,K⟩:=q;intro p hp;refine K _ _ F (.obj (Ba p [])) ak (ao.refl _) (R.gu hp) ⟨p,rfl,⟨rfl,[],aB,.nil⟩,λb hb=>?_⟩ (q p);rw[List.mem_singleton.mp hb];exact⟨same_none R.fr hp,(by rw[aB];exactλz=>nomatch z),(R.b7 hp).1,R.dg hp⟩
def Ym:D->D->(Bool->Prop)->Prop
 | .int i,.mZ kvs,Q=>Q (m8 kvs i).isSome
 | _,_,_=>False
def CJ(x y:D)(Q:Bool->Prop):Prop:=Ym x y λb=>Q !b
theorem FP{F H:Hp}{v u:V}{i:Int}{kvs:List (Int×D)}(rv:bU F H v (.int i))(ru:bU F H u (.mZ kvs)):∃a o,u=.ref a/\Jr H a v o/\o.isSome=(m8 kvs i).isSome:=by
 obtain rfl:=rv.int;obtain⟨a,ks,rfl,h,r⟩:=ru;refine⟨a,_,rfl,.inl ⟨ks,.inl i,h,rfl,rfl⟩,?_⟩;rcases r.val i with⟨e1,e2⟩|⟨v,d,e1,e2,_⟩
 ·rw[e1,e2];rfl
 ·rw[e1,e2];rfl
theorem Ap:kT G k S .NotIn CJ:=⟨Ds true,λX Y ok=>zh (by have:=ok.units;omega),λY F H ak σ v u x y Qd Q R rx ry q K=>by
 unfold CJ Ym at q
 split at q
 ·obtain⟨a,o,rfl,g,e⟩:=FP rx ry
  exact⟨a,o,rfl,g,K _ (by rw[if_pos rfl,e];exact q)⟩
 ·exact q.elim⟩
def Pn(i:Nat)(tk:TV)(tv:TD):cA:=λDe σ=>tv σ λd aw=>(∃a kvs,aw[i]?=some (some (.obj (Ba a kvs))))/\tk aw λy bq=>match dZ bq y with
 | some (.int j)=>∃a kvs,bq[i]?=some (some (.obj (Ba a kvs)))/\kvs.length<sizeLine/\De.nx (bq.set i (some (.obj (Ba a (yQ kvs j d)))))
 | _=>False
theorem GZ(i:Nat){x:Str}{ke ve:Expr}{tk:TV}{tv:TD}{np pos' pos:Pos}(hv:ED G k S ve tv)(hk:EO G k S ke tk)(ho:EO G k S (.Name x np) (Y4 i))(hs:∀line env,swapsWith ve (some (.Subscript (.Name x np) ke pos')) line env=pure false:=by intro _ _;rfl):
  ES G k S (.Assign [.Subscript (.Name x np) ke pos'] ve pos) (Pn i tk tv):=.mk λX Y ok =>
 cX (GK (by have:=ok.units;omega) (ho X Y ok) (hk X Y ok) (hv X Y ok) (hs _ _)) λDn σ H q=>by
  obtain⟨F,ak,De,R,q,K⟩:=q;refine⟨F,ak,_,R,q,λv H1 F1 d aw s1 R1 r1 q1=>?_⟩;obtain⟨⟨a0,aak,e0⟩,q1⟩:=q1;refine⟨F1,aw,λx Zb=>x=.var i/\Zb=aw,R1,⟨⟨_,e0⟩,rfl,rfl⟩,λv2 H2 F2 y bq s2 R2 r2 q2=>?_⟩;obtain⟨rfl,rfl⟩:=q2;have r2:σ[i]?=some (some v2):=r2;refine⟨F2,bq,_,R2,q1,λv3 H3 F3 kd fe s3 R3 r3 q3=>?_⟩
  split at q3
  ·rename_i j ej
   obtain rfl:=(R3.dZ r3 ej).int;obtain⟨a,kvs,e,hl,q3⟩:=q3;obtain⟨b,w1,⟨rfl,us,w2,w3⟩,w4⟩:=R3.ob.obj i _ e;rw[r2]at w1;cases w1;refine⟨b,_,rfl,.k (k:=.inl j) w2 (by rw[w3.length];exact hl),K.nx σ _ F3 _ ((s1.trans s2).trans s3) (R3.CL (o':=Ba b (yQ kvs j d)) e r2 (List.mem_singleton.mpr rfl) (λ_ z=>z) ⟨rfl,_,aB,w3.put j (r1.mono (s2.trans s3))⟩) q3⟩
  ·exact q3.elim
end Vc
namespace Vs
open PySem PySem.Calls PyProof.Rows PyProof.V PySem.Spec
def d1:Value->Int
 | .int i _=>i
 | _=>0
section
variable {prog:Program}{w:World}{A:Around}{E:Value->Shared->Prop}{s:Shared}
theorem tB{vs:List Value}{ns:List Int}{Q:SortKind->Shared->Prop}(hl:2<=vs.length)(h:IntsAre vs ns)(q:Q oneType' s):wpAny (model prog w) A (keyKind' vs.toArray) Q E s:=by
 match vs,hl,h with
 | aas::aat::r,_,h =>
  rw[keyKind_ints h];exact wpAny_pure q
theorem xr{l:List Keyed}(h:∀x∈l,∃i t,x.1=Value.int i t):fm (model prog w) A E s (rk (λx=>[d1 x.1]) l) oneType' (λx=>x∈l):=λx y st Q hx hy hk q=>by
 rw[ux hx]at q;rw[lt'_eq];refine wpS_bind (wpS_get ?_);rw[hk];obtain⟨i,t,e1⟩:=h x hx;obtain⟨j,u,e2⟩:=h y hy;rw[e1,e2,show HT.lexLt [d1 (.int i t)] [d1 (.int j u)]=decide (i<j)from by
  show(if i=j then HT.lexLt [] []else decide (i<j))=_
  by_cases e:i=j
  ·rw[if_pos e,decide_eq_false ⋯];rfl
  ·rw[if_neg e]]at q
 refine wpS_bind (wpS_lift (wpAny_attempt ?_));rw[e1,e2,keyLt'_oneType];exact oneLt_int ⟨rfl,wpS_pure q⟩
end
end Vs
namespace Vc
open PySem L2
variable [KF]
theorem lE:∀ {vs:List Value} {ns:List Int},PyProof.Rows.IntsAre vs ns->vs.map Vs.d1=ns
 | _,_,.nil=>rfl
 | _,_,.cons n t h=>by rw[List.map_cons,lE h];rfl
theorem ki:∀ {vs:List Value} {ns:List Int},PyProof.Rows.IntsAre vs ns->∀v∈vs,∃i t,v=Value.int i t
 | _,_,.nil,v,hv=>by cases hv
 | _,_,.cons n t h,v,hv=>by
  rcases List.mem_cons.mp hv with rfl|hv
  ·exact⟨n,t,rfl⟩
  ·exact ki h v hv
theorem dC:∀ {vs:List Value},(∀v∈vs,∃i t,v=Value.int i t)->Vals ((vs.map Vs.d1).map V.int) vs
 | [],_=>.nil
 | v::vs,h=>by
  obtain⟨i,t,rfl⟩:=h v (.head _);exact .cons ⟨t,rfl⟩ (dC λx hx=>h x (.tail _ hx))
def iY(ns:List Int):List Int:=ns.mergeSort λx y=>decide (x<=y)
theorem gI(ns:List Int):(iY ns).Perm ns:=List.mergeSort_perm _ _
theorem iZ(ns:List Int):(iY ns).Pairwise λx y=>x<=y:=by
 have:=List.pairwise_mergeSort (le:=λx y:Int=>decide (x<=y)) (λa b c h1 h2=>by simp only[decide_eq_true_eq]at *;omega) (λa b=>by simp only[Bool.or_eq_true,decide_eq_true_eq];omega) ns
 exact this.imp λh=>of_decide_eq_true h
theorem mF{ns ms:List Int}(h:ms.Perm ns)(hs:ms.Pairwise λx y=>x<=y):ms=iY ns:=
 (h.trans (gI ns).symm).eq_of_pairwise (le:=λx y:Int=>x<=y) (λa b _ _ h1 h2=>Int.le_antisymm h1 h2) hs (iZ ns)
theorem jM{F:Hp}:∀ms:List Int,aE F (ms.map V.int) (ms.map D.int)
 | []=>.nil
 | i::ms=>.cons (.int i) (jM ms)
theorem aE.eraseIdx{F:Hp}{vs:List V}{xs:List D}(r:aE F vs xs)(n:Nat):aE F (vs.eraseIdx n) (xs.eraseIdx n):=by
 rw[List.eraseIdx_eq_take_drop_succ,List.eraseIdx_eq_take_drop_succ];exact(r.take _).append (r.drop _)
end Vc
namespace Vc
open PySem L2
variable [KF]
mutual
def noD:D->Bool
 | .bx=>true
 | .bl _=>true
 | .int _=>true
 | .tk _=>true
 | .str _=>true
 | .tup xs=>MF xs
 | .lst xs=>MF xs
 | _=>false
def MF:List D->Bool
 | []=>true
 | x::xs=>noD x&&MF xs
end
inductive AV where
 | d (x:D)|n (j:Nat)|l (j:Nat)
abbrev TAv:=Sd->(List AV->Sd->Prop)->Prop
variable {G:GE}{k:Nat}{S:Stat}
def Ju(ak:Sd)(σ:St)(js:List Nat)(c:Addr):Prop:=∃j∈js,∃(o:O) (a:Addr),ak[j]?=some (some (.obj o))/\σ[j]?=some (some (.ref a))/\c∈o.fp a
theorem tI{Y:bC}{F:Hp}{ak:Sd}{σ:St}{H:Hp}(R:RS Y F ak σ H):∀js:List Nat,∃F2,ao F F2/\ao F2 H/\(∀j∈js,∀(o:O) (d:D) (a:Addr),ak[j]?=some (some (.obj o))->o.view=some d->σ[j]?=some (some (.ref a))->Rep F2 (.ref a) d) /\
  (∀c u,F2 c=some u->F c=some u\/(dl u=true/\Ju ak σ js c))/\(js=[]->F2=F)
 | []=>⟨F,ao.refl _,R.fr,(λj hj=>by cases hj),(λc u z=>.inl z),λ_=>rfl⟩
 | j::js=>by
  obtain⟨F2,s1,s2,h1,h2,_⟩:=tI R js
  by_cases hq:∃o d,ak[j]?=some (some (.obj o))/\o.view=some d
  ·obtain⟨o,d,e1,e2⟩:=hq
   obtain⟨a,w1,w2,w3⟩:=R.ob.obj j o e1;have w2':o.rep F2 H a:=o.mono s1 (λ_ _=>rfl) w2;obtain⟨F3,s3,s4,r3,h3⟩:=o.lend s2 w2' e2;refine⟨F3,s1.trans s3,s4,λi hi o' d' a' f1 f2 f3=>?_,λc u z=>?_,λz=>nomatch z⟩
   ·rcases List.mem_cons.mp hi with rfl|hi
    ·rw[e1]at f1;cases f1
     rw[e2]at f2;cases f2;rw[w1]at f3;cases f3;exact r3
    ·exact(h1 i hi o' d' a' f1 f2 f3).mono s3
   ·rcases h3 c u z with z|⟨z1,z2⟩
    ·rcases h2 c u z with z|⟨z1,i,hi,z2⟩
     ·exact .inl z
     ·exact .inr ⟨z1,i,.tail _ hi,z2⟩
    ·exact .inr ⟨z1,j,.head _,o,a,e1,w1,z2⟩
  ·refine⟨F2,s1,s2,λi hi o' d' a' f1 f2 f3=>?_,λc u z=>?_,λz=>nomatch z⟩
   ·rcases List.mem_cons.mp hi with rfl|hi
    ·exact absurd ⟨o',d',f1,f2⟩ hq
    ·exact h1 i hi o' d' a' f1 f2 f3
   ·rcases h2 c u z with z|⟨z1,i,hi,z2⟩
    ·exact .inl z
    ·exact .inr ⟨z1,i,.tail _ hi,z2⟩
end Vc
namespace Vc
open PySem L2
variable [KF]
variable {G:GE}{k:Nat}{S:Stat}
def xo(l:Bool)(d:Option D):Option B:=match l with
 | true=>d.map B.sh
 | false=>none
def tG(l:Bool):Option B->Option B
 | some (.sh d)=>some (.sh d)
 | some (.obj o)=>xo l (o.view.or o.deep)
 | some (.own xs)=>xo l (some (.lst xs))
 | none=>none
def gn(js:List Nat):Nat->Sd->Sd
 | _,[]=>[]
 | i,b::σ=>tG (js.contains i) b::gn js (i+1) σ
theorem n6(js:List Nat):∀(i:Nat) (σ:Sd),(gn js i σ).length=σ.length
 | _,[]=>rfl
 | i,b::σ=>congrArg (·+1) (n6 js (i+1) σ)
theorem n5(js:List Nat):∀(i j:Nat) (σ:Sd),(gn js i σ)[j]?=(σ[j]?).map (tG (js.contains (i+j)))
 | _,_,[]=>rfl
 | i,0,b::σ=>rfl
 | i,j+1,b::σ=>by
  show(gn js (i+1) σ)[j]?=_;rw[n5 js (i+1) j σ,show i+1+j=i+(j+1)by omega];rfl
theorem tH{l:Bool}{d:Option D}{b:B}(h:xo l d=some b):l=true/\∃x,d=some x/\b=.sh x:=by
 cases l with
 | false=>cases h
 | true =>
  obtain⟨x,h1,h2⟩:=Option.map_eq_some_iff.mp (show d.map B.sh=some b from h)
  exact⟨rfl,x,h1,h2.symm⟩
theorem CH{l:Bool}{x:Option B}{b:B}(h:tG l x=some b):∃d,b=.sh d/\(x=some (.sh d)\/(l=true/\((∃o,x=some (.obj o)/\o.view.or o.deep=some d)\/∃xs,x=some (.own xs)/\d=.lst xs))):=by
 unfold tG at h
 split at h
 ·cases h;exact⟨_,rfl,.inl rfl⟩
 ·obtain⟨hl,d,h1,h2⟩:=tH h
  exact⟨d,h2,.inr ⟨hl,.inl ⟨_,rfl,h1⟩⟩⟩
 ·obtain⟨hl,d,h1,h2⟩:=tH h
  cases h1;exact⟨_,h2,.inr ⟨hl,.inr ⟨_,rfl,rfl⟩⟩⟩
 ·cases h
theorem tJ{Y:bC}{F:Hp}{ak:Sd}{σ:St}{H:Hp}(R:RS Y F ak σ H):∀(js:List Nat) (F2:Hp),ao F F2->ao F2 H->∃F3,ao F2 F3/\ao F3 H/\∀j∈js,∀(xs:List D) (a:Addr),ak[j]?=some (some (.own xs))->σ[j]?=some (some (.ref a))->Rep F3 (.ref a) (.lst xs)
 | [],F2,_,s=>⟨F2,ao.refl _,s,λj hj=>by cases hj⟩
 | j::js,F2,s0,s=>by
  obtain⟨F3,s1,s2,h⟩:=tJ R js F2 s0 s
  by_cases hq:∃xs,ak[j]?=some (some (.own xs))
  ·obtain⟨xs,e⟩:=hq
   obtain⟨a,vs,w1,w2,w3,_⟩:=R.own j xs e;obtain⟨F4,s3,s4,e4,_⟩:=lA s2 w2;refine⟨F4,s1.trans s3,s4,λi hi ys b f1 f2=>?_⟩;rcases List.mem_cons.mp hi with rfl|hi
   ·rw[e]at f1;cases f1
    rw[w1]at f2;cases f2;exact .lst (.of e4) (w3.mono ((s0.trans s1).trans s3))
   ·exact(h i hi ys b f1 f2).mono s3
  ·refine⟨F3,s1,s2,λi hi ys b f1 f2=>?_⟩
   rcases List.mem_cons.mp hi with rfl|hi
   ·exact absurd ⟨ys,f1⟩ hq
   ·exact h i hi ys b f1 f2
theorem n8{Y:bC}{F:Hp}{ak:Sd}{σ:St}{H:Hp}(R:RS Y F ak σ H):∀(js:List Nat) (F2:Hp),ao F F2->ao F2 H->∃F3,ao F2 F3/\ao F3 H/\∀j∈js,∀(o:O) (d:D) (a:Addr),ak[j]?=some (some (.obj o))->o.deep=some d->σ[j]?=some (some (.ref a))->Rep F3 (.ref a) d
 | [],F2,_,s=>⟨F2,ao.refl _,s,λj hj=>by cases hj⟩
 | j::js,F2,s0,s=>by
  obtain⟨F3,s1,s2,h⟩:=n8 R js F2 s0 s
  by_cases hq:∃o d,ak[j]?=some (some (.obj o))/\o.deep=some d
  ·obtain⟨o,d,e,ed⟩:=hq
   obtain⟨a,w1,w2,_⟩:=R.ob.obj j o e;obtain⟨F4,s3,s4,r⟩:=o.IP s2 (o.mono (s0.trans s1) (λ_ _=>rfl) w2) ed;refine⟨F4,s1.trans s3,s4,λi hi p d' b f1 f2 f3=>?_⟩;rcases List.mem_cons.mp hi with rfl|hi
   ·rw[e]at f1;cases f1
    rw[w1]at f3;cases f3;rw[ed]at f2;cases f2;exact r
   ·exact(h i hi p d' b f1 f2 f3).mono s3
  ·refine⟨F3,s1,s2,λi hi p d' b f1 f2 f3=>?_⟩
   rcases List.mem_cons.mp hi with rfl|hi
   ·exact absurd ⟨p,d',f1,f2⟩ hq
   ·exact h i hi p d' b f1 f2 f3
def sJ:D->Bool
 | .bx=>true
 | .bl _=>true
 | .int _=>true
 | .str _=>true
 | _=>false
def Iq:EV->Bool
 | .val d=>sJ d
 | .own xs=>xs.all sJ
 | _=>false
theorem Rep.flat{F F':Hp}{v:V}{d:D}(r:Rep F v d)(h:sJ d=true):Rep F' v d:=by
 cases r with
 | bx=>exact .bx
 | bl b=>exact .bl b
 | int i=>exact .int i
 | str x=>exact .str x
 | _=>cases h
theorem aE.flat{F F':Hp}:∀ {vs:List V} {ds:List D},aE F vs ds->ds.all sJ=true->aE F' vs ds
 | _,_,.nil,_=>.nil
 | _,_,.cons r rs,h=>by
  rw[List.all_cons,Bool.and_eq_true]at h;exact .cons (r.flat h.1) (aE.flat rs h.2)
def DQ(js:List Nat)(t:TX):TX:=λσ Q=>t (gn js 0 σ) λx _=>Iq x=true/\Q x σ
theorem Om(js:List Nat){e:Expr}{t:TX}(h:EX G k S e t)(LX:S.ex=λ_ _=>False:=by rfl):EX G k S e (DQ js t):=.mk λX Y ok pins s σ H Q I q=>by
 obtain⟨F,ak,Qd,R,q,K⟩:=q;obtain⟨F2,s1,s2,h1,_,_⟩:=tI R js;obtain⟨F3',s3',s4',SK⟩:=tJ R js F2 s1 s2;obtain⟨F3,Vi,s4,h3⟩:=n8 R js F3' (s1.trans s3') s4';have s3:ao F2 F3:=s3'.trans Vi;have h2:∀j∈js,∀(xs:List D) (a:Addr),ak[j]?=some (some (.own xs))->σ[j]?=some (some (.ref a))->Rep F3 (.ref a) (.lst xs):=λj hj xs a e1 e2=>(SK j hj xs a e1 e2).mono Vi;have only:∀ {i:Nat} {b:B},(gn js 0 ak)[i]?=some (some b)->∃d v,b=.sh d/\σ[i]?=some (some v)/\Rep F3 v d:=λ{i b} e=>by
  rw[n5,Nat.zero_add]at e;obtain⟨x,e1,e2⟩:=Option.map_eq_some_iff.mp e;obtain⟨d,rfl,e3⟩:=CH e2;rcases e3 with rfl|⟨hl,⟨o,rfl,e4⟩|⟨xs,rfl,rfl⟩⟩
  ·obtain⟨v,g1,g2⟩:=R.sh i d e1
   exact⟨d,v,rfl,g1,g2.mono (s1.trans s3)⟩
  ·obtain⟨a,g1,_⟩:=R.ob.obj i o e1
   cases ev:o.view with
   | some x =>
    rw[ev]at e4;cases e4;exact⟨d,_,rfl,g1,(h1 i (List.contains_iff_mem.mp hl) o d a e1 ev g1).mono s3⟩
   | none =>
    rw[ev,Option.none_or]at e4;exact⟨d,_,rfl,g1,h3 i (List.contains_iff_mem.mp hl) o d a e1 e4 g1⟩
  ·obtain⟨a,vs,g1,_⟩:=R.own i xs e1
   exact⟨_,_,rfl,g1,h2 i (List.contains_iff_mem.mp hl) xs a e1 g1⟩
 have YD:∀(i:Nat) (o:O),(gn js 0 ak)[i]?≠some (some (.obj o)):=λi o e=>by
  obtain⟨d,v,z,_⟩:=only e;cases z
 have Ug:∀(i:Nat) (xs:List D),(gn js 0 ak)[i]?≠some (some (.own xs)):=λi xs e=>by
  obtain⟨d,v,z,_⟩:=only e;cases z
 have R2:RS ⟨H,F3,[],[]⟩ F3 (gn js 0 ak) σ H:=⟨by rw[n6];exact R.len,ao.refl _,s4,λb o e=>.inl e,λb o e _=>e,λi d e=>by
   obtain⟨d',v,z,g1,g2⟩:=only e;cases z;exact⟨v,g1,g2⟩,λi xs e=>absurd e (Ug i xs),λi _ xs _ _ e=>absurd e (Ug i xs),λp hp=>absurd hp (by simp),rO.none YD (R.ob.tab.mono (s1.trans s3)) λb hb=>absurd hb (by simp)⟩
 have ok2:dA X G k S ⟨H,F3,[],[]⟩:=⟨ok.P,ok.w,ok.K,ok.kf,ok.mg,ok.base,ok.N,ok.sc,ok.nd,λp hp=>absurd hp (by simp),λ_ _=>rfl,ok.calm,ok.kind,ok.fn,ok.hd,ok.dp,ok.un,ok.po,ok.nx,(λc ak h=>by rw[LX]at h;exact h.elim),(λ_ c ak h=>by rw[LX]at h;exact h.elim),λh1 h2=>let ⟨a,c,e1,e2⟩:=ok.hx h1 h2;⟨a,c,e1,(R.lo.trans (s1.trans s3)) _ _ e2⟩⟩
 refine h.run X _ ok2 pins s σ H Q I ⟨F3,_,_,R2,q,λv H' F' x aG s5 R5 r5 q5=>?_⟩;obtain⟨hf,q5⟩:=q5;have sm:ao H H':=λb o e=>R5.old b o e (by simp [bC.Cp])
 have R6:RS Y F ak σ H':=R.call (ao.refl _) (R.fr.trans sm) sm λc o e=>.inl e;refine K v H' F x ak (ao.refl _) R6 ?_ q5;cases x with
 | val d=>exact(show Rep F' v d from r5).flat hf
 | own xs =>
  obtain⟨a,vs,rfl,e1,e2,e3,e4,e5⟩:=r5;have e4:H a=none:=e4;exact⟨a,vs,rfl,e1,e2.flat hf,same_none R.fr e4,(R.b7 e4).1,R.dg e4⟩
 | _=>cases hf
end Vc
namespace Vc
open PySem L2
def ft(xs:Array Nat):Prop:=∀i j (hi:i<xs.size) (hj:j<xs.size),i<j->xs[i]<xs[j]
theorem k7(xs:Array Nat)(j:Nat)(R:ft xs):∀(fuel lo hi:Nat),lo<=hi->hi<=xs.size->hi-lo<=fuel ->
  (∀i (h:i<xs.size),i<lo->xs[i]<j)->(∀i (h:i<xs.size),hi<=i->j<=xs[i]) ->
  SetTable.below.go xs j fuel lo hi<=xs.size/\(∀i (h:i<xs.size),i<SetTable.below.go xs j fuel lo hi->xs[i]<j)/\(∀i (h:i<xs.size),SetTable.below.go xs j fuel lo hi<=i->j<=xs[i])
 | 0,lo,hi,h1,h2,h3,h4,h5=>by
  unfold SetTable.below.go;have:lo=hi:=by omega
  subst this;exact⟨h2,h4,h5⟩
 | fuel+1,lo,hi,h1,h2,h3,h4,h5=>by
  unfold SetTable.below.go
  by_cases q:lo<hi
  ·rw[if_pos q]
   have hm:(lo+hi)/2<xs.size:=by omega
   have hg:xs.getD ((lo+hi)/2) j=xs[(lo+hi)/2]:=by rw[Array.getD,dif_pos hm];rfl
   dsimp only;rw[hg]
   by_cases q2:xs[(lo+hi)/2]<j
   ·rw[if_pos q2]
    refine k7 xs j R fuel _ _ ⋯ h2 ⋯ (λi h ih=>?_) h5
    by_cases e:i=(lo+hi)/2
    ·subst e;exact q2
    ·exact Nat.lt_trans (R i _ h hm ⋯) q2
   ·rw[if_neg q2]
    refine k7 xs j R fuel _ _ ⋯ ⋯ ⋯ h4 (λi h ih=>?_)
    by_cases e:i=(lo+hi)/2
    ·subst e;omega
    ·exact Nat.le_trans ⋯ (Nat.le_of_lt (R _ i hm h ⋯))
  ·rw[if_neg q]
   have:lo=hi:=by omega
   subst this;exact⟨h2,h4,h5⟩
theorem di{xs:Array Nat}{j:Nat}(R:ft xs):SetTable.below xs j<=xs.size/\(∀i (h:i<xs.size),i<SetTable.below xs j->xs[i]<j)/\(∀i (h:i<xs.size),SetTable.below xs j<=i->j<=xs[i]):=
 k7 xs j R _ _ _ (Nat.zero_le _) (Nat.le_refl _) ⋯ (λi h q=>absurd q (Nat.not_lt_zero _)) (λi h q=>by omega)
theorem gm{α:Type}(xs:Array α)(p:Nat)(x:α)(hp:p<=xs.size):(SetTable.insertAt xs p x).size=xs.size+1:=by
 unfold SetTable.insertAt;simp;omega
theorem bZ{α:Type}(xs:Array α)(p:Nat)(x:α)(hp:p<=xs.size)(i:Nat):
  (SetTable.insertAt xs p x)[i]?=if i<p then xs[i]? else if i=p then some x else xs[i-1]?:=by
 unfold SetTable.insertAt;rw[Array.getElem?_append];simp only[Array.size_push,Array.size_extract,Nat.min_eq_left hp,Nat.sub_zero]
 by_cases h:i<p
 ·rw[if_pos ⋯,if_pos h,Array.getElem?_push,if_neg (by simp;omega),Array.getElem?_extract]
  simp;omega
 ·rw[if_neg h]
  by_cases e:i=p
  ·subst e
   rw[if_pos ⋯,if_pos rfl,Array.getElem?_push,if_pos (by simp;omega)]
  ·rw[if_neg ⋯,if_neg e,Array.getElem?_extract]
   simp only[Nat.min_self]
   by_cases q:i-(p+1)<xs.size-p
   ·rw[if_pos q];congr 1;omega
   ·rw[if_neg q];symm;apply Array.getElem?_eq_none;omega
theorem ur{xs:Array Nat}:ft xs ↔ ∀(i j a b:Nat),xs[i]?=some a->xs[j]?=some b->i<j->a<b:=by
 constructor
 ·intro R i j a b h1 h2 q
  obtain⟨hi,rfl⟩:=Array.getElem?_eq_some_iff.mp h1;obtain⟨hj,rfl⟩:=Array.getElem?_eq_some_iff.mp h2;exact R i j hi hj q
 ·intro R i j hi hj q
  exact R i j _ _ (Array.getElem?_eq_getElem hi) (Array.getElem?_eq_getElem hj) q
theorem uw{xs:Array Nat}{j:Nat}(R:ft xs)(hn:xs[SetTable.below xs j]?≠some j):ft (SetTable.insertAt xs (SetTable.below xs j) j):=by
 obtain⟨h1,h2,h3⟩:=di (j:=j) R;generalize SetTable.below xs j=p at *;have R':=ur.mp R;have lo:∀(i a:Nat),xs[i]?=some a->i<p->a<j:=λi a q w=>by
  obtain⟨hi,rfl⟩:=Array.getElem?_eq_some_iff.mp q;exact h2 i hi w
 have hi:∀(i a:Nat),xs[i]?=some a->p<=i->j<a:=λi a q w=>by
  obtain⟨hi,rfl⟩:=Array.getElem?_eq_some_iff.mp q;have hp:p<xs.size:=by omega
  have k1:=h3 p hp (Nat.le_refl _);have k2:xs[p]≠j:=λe=>hn (by rw[Array.getElem?_eq_getElem hp,e])
  by_cases e:i=p
  ·subst e;omega
  ·have:=R p i hp hi ⋯;omega
 refine ur.mpr λi k a b e1 e2 q=>?_;rw[bZ _ _ _ h1]at e1 e2
 split at e1
 ·rename_i c1
  split at e2
  ·exact R' i k a b e1 e2 q
  ·split at e2
   ·cases e2;exact lo i a e1 c1
   ·rename_i c2 c3
    have:=lo i a e1 c1;have:=hi _ _ e2 ⋯
    omega
 ·split at e1
  ·cases e1
   rw[if_neg ⋯,if_neg ⋯]at e2
   exact hi _ _ e2 ⋯
  ·rw[if_neg ⋯,if_neg ⋯]at e2
   exact R' _ _ a b e1 e2 ⋯
theorem zt{xs:List Nat}(h:xs.Pairwise (· < ·)):ft xs.toArray:=by
 intro i j hi hj q;simp only[List.getElem_toArray];exact List.pairwise_iff_getElem.mp h i j (by simpa using hi) (by simpa using hj) q
theorem yW{mask finger moves:Nat}{led plain:Bool}{hs:Array Int}{t:SetTable}{o:Array Nat}(e:SetTable.laid mask finger moves led plain hs=some (t,o)):ft t.place/\t.led=led:=by
 unfold SetTable.laid at e;cases c:SetTable.layClean mask hs with
 | none=>simp [c]at e
 | some owner =>
  simp only[c,Option.bind_eq_bind,Option.bind_some,Option.pure_def,Option.some.injEq,Prod.mk.injEq]at e;obtain⟨rfl,_⟩:=e;refine⟨zt ?_,rfl⟩;have:∀(l:List Nat),((l.filterMap λj=>(owner.getD j none).map (j,·)).map (·.1)).Sublist l:=by
   intro l
   induction l with
   | nil=>exact .slnil
   | cons a l ih =>
    rw[List.filterMap_cons];cases owner.getD a none with
    | none=>exact .cons _ ih
    | some b=>exact .cons₂ _ ih
  exact List.Pairwise.sublist (this _) List.pairwise_lt_range
theorem vq{xs:Array Nat}(R:ft xs){i:Nat}(hi:i<xs.size):SetTable.below xs (xs[i]+1)=i+1:=by
 obtain⟨h1,h2,h3⟩:=di (j:=xs[i]+1) R;generalize SetTable.below xs (xs[i]+1)=p at *;rcases Nat.lt_trichotomy p (i+1)with q|q|q
 ·have:=h3 i hi ⋯;omega
 ·exact q
 ·have:=h2 (i+1) ⋯ q
  have:=R i (i+1) hi ⋯ ⋯
  omega
theorem vt{xs:Array Nat}(R:ft xs):SetTable.below xs 0=0:=by
 obtain⟨h1,h2,h3⟩:=di (j:=0) R;generalize SetTable.below xs 0=p at *;cases p with
 | zero=>rfl
 | succ p=>exact absurd (h2 p ⋯ ⋯) (Nat.not_lt_zero _)
end Vc
namespace Vs
open PySem PySem.Calls PyProof.Rows PyProof.V PySem.Spec Vc
def jk(w:World):Bool:=w.params.followText "set-order"
section
variable {prog:Program}{w:World}{A:Around}{E:Value->Shared->Prop}{s:Shared}
theorem Cr{v i:Int}{t:Tok}:(intKind prog w).is v (.int i t)=true ↔ v=i:=
 ⟨λh=>(intKind prog w).inj (.int i t) v i h (intKind_is _ _ _ _),λh=>by subst h;exact intKind_is _ _ _ _⟩
end
end Vs
namespace Vs
open PySem PySem.Calls PyProof.Rows PyProof.V PySem.Spec Vc
section
variable {prog:Program}{w:World}{A:Around}{E:Value->Shared->Prop}{s:Shared}
abbrev qa(w:World):Obj:={cls:=.type "set",dict:=none,data:=.set #[] 0 (.fresh 0 0 (!jk w))}
theorem yw(a:Value){Q₁:Value->Shared->Prop}(h:Q₁ (.ref s.heap.objs.size) {s with heap:=s.heap.push (qa w)}):
  codeAny (model prog w) A (.call (.builtin "set.__new__") ⟨[.type "set",a],[]⟩) (wants Q₁ E) s:=by
 refine codeAny_of_tree ?_;show wpAny _ A.in1 (do checkBuiltinCall "set.__new__" ⟨[.type "set",a],[]⟩;again (.builtin "set.__new__" ⟨[.type "set",a],[]⟩)) _ _ s
 refine wpAny_bind (wpAny_of_eq (F.newCall_set_1 a) (wpAny_pure ⟨plainId_quiet F.plain_set_new _,codeAny_builtin F.entry_set_new ?_⟩));rw[Around.under_plainId F.plain_set_new _];unfold Builtin.«set.__new__» Builtin.Frozenset.newClass;have Ck:=sub_set_self;obtain⟨hp,g,d,tk,os⟩:=s;dsimp only
 wp_walk
 refine wpAny_askSetting (wpAny_pure ?_);dsimp only;simp only[newObj];refine wpAny_bind (wpAny_alloc (wpAny_pure ?_));exact wpAny_pure h
set_option maxHeartbeats 3200000 in
end
end Vs
namespace Vs
open PySem PySem.Calls PyProof.Rows PyProof.V PySem.Spec Vc
theorem gy{α:Type}:∀(l:List α) (i:Nat) (x:α),l[i]?=some x->l.Perm (x::l.eraseIdx i)
 | [],i,x,e=>by simp at e
 | a::l,0,x,e=>by
  simp at e;subst e;exact List.Perm.refl _
 | a::l,i+1,x,e=>by
  rw[List.getElem?_cons_succ]at e;rw[List.eraseIdx_cons_succ];exact((gy l i x e).cons a).trans (List.Perm.swap x a _)
theorem xA{α:Type}(next:Nat->Nat):∀(fuel k:Nat) (left:List α) (out:Array α),left.length<=fuel->(pickOrder.go next fuel k left out).toList.Perm (out.toList++left)
 | 0,k,left,out,h=>by
  have:left=[]:=List.length_eq_zero_iff.mp ⋯
  subst this;rw[List.append_nil];exact List.Perm.refl _
 | fuel+1,k,left,out,h=>by
  unfold pickOrder.go
  split
  ·rename_i x e
   have hl:(left.eraseIdx (next k%left.length)).length<=fuel:=by
    rw[List.length_eraseIdx];have:next k%left.length<left.length:=(List.getElem?_eq_some_iff.mp e).1;rw[if_pos this];omega
   refine(xA next fuel (k+1) _ (out.push x) hl).trans ?_;rw[Array.toList_push,List.append_assoc];exact((gy left _ x e).symm).append_left _
  ·rename_i e
   cases left with
   | nil=>rw[List.append_nil]
   | cons a l =>
    have:next k%(a::l).length<(a::l).length:=Nat.mod_lt _ (Nat.succ_pos _);rw[List.getElem?_eq_getElem this]at e;cases e
theorem zp{α:Type}(next:Nat->Nat)(xs:Array α):(pickOrder next xs).toList.Perm xs.toList:=by
 have:=xA next xs.size 0 xs.toList #[] (by simp)
 simpa [pickOrder]using this
theorem yg{α:Type}{M:Model}{A:Around}{E:Value->Shared->Prop}:∀(n:Nat) (xs:List α) (s:Shared) (Q:List α->Shared->Prop),xs.length<=n ->
  (∀ys d,ys.Perm xs->Q ys {s with drawn:=d})->wpAny M A (drawOrder n xs) Q E s
 | 0,xs,s,Q,hn,h=>by
  have:xs=[]:=List.length_eq_zero_iff.mp ⋯
  subst this;exact wpAny_pure (h [] s.drawn (List.Perm.refl _))
 | n+1,[],s,Q,hn,h=>wpAny_pure (h [] s.drawn (List.Perm.refl _))
 | n+1,x::xs,s,Q,hn,h=>by
  intro Γ p Yh;show PySem.Sem.wp M Γ (.choose .order (x::xs).length _) _ _ p s;rw[PySem.Sem.wp_choose];refine⟨Nat.succ_ne_zero _,?_⟩;generalize hi:M.w.draws .order (s.drawn.get .order)%(x::xs).length=i;have fy:i<(x::xs).length:=by rw[<- hi];exact Nat.mod_lt _ (Nat.succ_pos _)
  have key:wpAny M A (do
    match(x::xs)[i]? with
    | some y=>return y::(<- drawOrder n ((x::xs).eraseIdx i))
    | none=>unsupported "internal:drawOrder") Q E {s with drawn:=s.drawn.bump .order}:=by
   rw[List.getElem?_eq_getElem fy];dsimp only;refine wpAny_bind (yg n _ _ _ ?_ λys d hp=>?_)
   ·rw[List.length_eraseIdx,if_pos fy];simp only[List.length_cons]at hn ⊢;omega
   ·exact wpAny_pure (h _ d ((hp.cons _).trans (gy _ i _ (List.getElem?_eq_getElem fy)).symm))
  exact key Γ p Yh
end Vs
namespace Vs
open PySem PySem.Calls PyProof.Rows PyProof.V PySem.Spec Vc
theorem bu:Slot "set_iterator" "__next__" "set_iterator.__next__":=
 .of (owner:="set_iterator") (n:="__next__") (by rw[typeLookup_type,builtinLookup_eq_fast];kernel_rfl) (by decide +kernel) (by decide +kernel) (by decide +kernel)
  (by first|exact .inl (by decide +kernel)|exact .inr (by decide +kernel)) (by rw[isSubtype_type];kernel_rfl)
theorem iX:Slot "set_iterator" "__iter__" "set_iterator.__iter__":=
 .of (owner:="set_iterator") (n:="__iter__") (by rw[typeLookup_type,builtinLookup_eq_fast];kernel_rfl) (by decide +kernel) (by decide +kernel) (by decide +kernel)
  (by first|exact .inl (by decide +kernel)|exact .inr (by decide +kernel)) (by rw[isSubtype_type];kernel_rfl)
theorem df:entryFor table "set_iterator.__next__"=some Builtin.«set_iterator.__next__»:=entryFor_of_tree (by kernel_rfl)
theorem pB:entryFor table "set.__iter__"=some Builtin.«frozenset.__iter__»:=entryFor_alias (id':="frozenset.__iter__") (by kernel_rfl) rfl (by decide +kernel) (by kernel_rfl)
theorem tY:Manifest.owners.lookup (String.ofList ['r','o','t','a','r','e','t','i','_','t','e','s'].reverse)=some Manifest.sig_set_iterator:=by kernel_rfl
theorem dy(a:Value):argsOk "set_iterator.__next__" ⟨[a],[]⟩:=by
 unfold argsOk;rw[signature?_of (id:="set_iterator.__next__") (n:=['_','_','t','x','e','n','_','_']) (o:=['r','o','t','a','r','e','t','i','_','t','e','s']) (by kernel_rfl) tY];kernel_rfl
def oS(h:Heap)(a:Addr)(es:Array (Int×Value))(ep:Nat)(t:SetTable):Prop:=∃o,h.get? a=some o/\o.ExactSet/\o.data=.set es ep t/\t.fits es.size=true
def u0(h:Heap)(it:Addr)(f:Value)(i:Nat)(a:Addr)(n ep:Nat):Prop:=∃o,h.get? it=some o/\o.cls=.type "set_iterator"/\o.data=.fields #[f,.int i 0,.ref a,.int n 0,.int ep 0]
section
variable {prog:Program}{w:World}{A:Around}{E:Value->Shared->Prop}{s:Shared}{a it:Addr}{es:Array (Int×Value)}{ep i:Nat}{t:SetTable}
theorem wF{Q:Bool->Shared->Prop}(q:Q (jk w) s):wpAny (model prog w) A setsByText Q E s:=by
 unfold setsByText;exact wpAny_bind (wpAny_askSetting (wpAny_pure q))
def lW(w:World)(a:Addr)(es:Array (Int×Value))(ep:Nat)(t:SetTable)(slot i:Nat):Option (Value×Nat):=
 if jk w=true then((pickOrder (w.params.setOrder a ep) es)[i]?).map λe=>(e.2,slot)
 else match es[SetTable.below t.place slot]?,t.place[SetTable.below t.place slot]? with
  | some (_,x),some j=>some (x,j+1)
  | _,_=>none
theorem mR{slot:Nat}{Q:Option (Value×Nat)->Shared->Prop}(m:oS s.heap a es ep t)(hl:t.led=!jk w)(hd:jk w=false->(!t.plain&&decide (es.size>1))=false)
  (q:Q (lW w a es ep t slot i) s):wpAny (model prog w) A (setNext a slot i ep) Q E s:=by
 obtain⟨o,e1,e2,e3,e4⟩:=m;unfold setNext;refine wpAny_bind (wpAny_setState_of e1 e3 e4 ?_);dsimp only;refine wpAny_bind (wF ?_);unfold lW at q;cases hb:jk w with
 | true =>
  rw[hb]at q;rw[if_pos rfl]at q;simp only[bne_self_eq_false,Bool.false_eq_true,if_false,if_true];refine wpAny_bind ?_;unfold setWalk;refine wpAny_bind (wpAny_setState_of e1 e3 e4 ?_);dsimp only;refine wpAny_bind (wF ?_);rw[hb,if_pos rfl];exact wpAny_bind (wpAny_askSetting (wpAny_pure (wpAny_pure q)))
 | false =>
  rw[hb]at q hl;rw[if_neg Bool.false_ne_true]at q;rw[if_neg Bool.false_ne_true];have Ql:=hd hb;show wpAny _ _ (if(!t.plain&&decide (es.size>1))=true then _ else _) _ _ _
  rw[Ql,if_neg Bool.false_ne_true];refine wpAny_bind (m:=(if(!t.led&&!es.isEmpty)=true then unsupported "set:maker-not-led" else pure ())) ?_
  rw[hl];exact wpAny_pure (wpAny_pure q)
end
end Vs
namespace Vs
open PySem PySem.Calls PyProof.Rows PyProof.V PySem.Spec Vc
section
variable {prog:Program}{w:World}{A:Around}{E:Value->Shared->Prop}{s:Shared}{a it:Addr}{es:Array (Int×Value)}{ep i:Nat}{t:SetTable}
theorem oS.ty{s:Shared}(m:oS s.heap a es ep t):s.TypeIs (.ref a) "set":=let ⟨o,e,x,_⟩:=m;⟨o,e,x.1⟩
theorem u0.ty{s:Shared}{f:Value}{n:Nat}(m:u0 s.heap it f i a n ep):s.TypeIs (.ref it) "set_iterator":=let ⟨o,e,x,_⟩:=m;⟨o,e,x⟩
abbrev siO(f:Value)(a:Addr)(n ep:Nat):Obj:={cls:=.type "set_iterator",data:=.fields #[f,.int 0 0,.ref a,.int n 0,.int ep 0]}
theorem Er{Q:Value->Shared->Prop}(m:oS s.heap a es ep t)(hz:es.size<=sizeLine)
  (q1:(jk w=false->(!t.plain&&decide (es.size>1))=false)->Q (.ref s.heap.objs.size) {s with heap:=s.heap.push (siO (.int 0 0) a es.size ep)})
  (q2:jk w=false->∀(ys:List Nat) d,ys.Perm (List.range es.size)->Q (.ref (s.heap.push (seqObj "tuple" (ys.map λ(j:Nat)=>Value.int j 0).toArray 0)).objs.size) {s with drawn:=d,heap:=(s.heap.push (seqObj "tuple" (ys.map λ(j:Nat)=>Value.int j 0).toArray 0)).push (siO (.ref s.heap.objs.size) a es.size ep)}):
  wpAny (model prog w) A (pyIter (.ref a)) Q E s:=by
 obtain⟨o,e1,e2,e3,e4⟩:=id m;refine wpAny_pyIter_slot m.ty F.slot_set_iter (wpAny_call_entry F.slot_set_iter m.ty pB ?_ (F.args_set_iter_1 _));unfold Builtin.«frozenset.__iter__» Builtin.Frozenset.slot0 slotArgs;simp only[List.isEmpty_nil,Bool.not_true,Bool.false_eq_true,↓reduceIte,bind_assoc,List.length_nil,bne_self_eq_false];unfold Builtin.Frozenset.addrOf Builtin.Frozenset.sizeOf;refine wpAny_bind (wpAny_pure ?_)
 try dsimp only
 refine wpAny_bind (wpAny_pure ?_);refine wpAny_bind (wpAny_bind (wpAny_setEntries_of e1 e3 e4 (wpAny_pure ?_)));unfold setDrawn;refine wpAny_bind (wpAny_bind (wpAny_setState_of e1 e3 e4 ?_));dsimp only;refine wpAny_bind (wF (wpAny_pure ?_));show wpAny _ _ (if(!jk w&&(!t.plain&&decide (es.size>1)))=true then _ else _) _ _ _
 by_cases c:(!jk w&&(!t.plain&&decide (es.size>1)))=true
 ·rw[if_pos c]
  have hb:jk w=false:=by cases h:jk w<;>simp [h]at c ⊢
  refine wpAny_bind (yg _ _ _ _ (by simp) λys d hp=>?_)
  have hl:ys.length=es.size:=by rw[hp.length_eq,List.length_range]
  refine wpAny_bind (wpAny_newTuple ?_ (by simpa [hl]using hz))
  refine wpAny_bind (wpAny_setEpoch_of (Heap.get?_push_of_some _ e1) e3 e4 ?_);refine wpAny_bind (wpAny_newObj_type (wpAny_pure ⟨_,rfl,"set_iterator",_,⟨_,Heap.get?_push_size _ rfl,rfl⟩,bu.lookup,?_⟩));exact q2 hb ys d hp
 ·rw[if_neg c]
  refine wpAny_bind (wpAny_pure (wpAny_bind (wpAny_setEpoch_of e1 e3 e4 ?_)));refine wpAny_bind (wpAny_newObj_type (wpAny_pure ⟨_,rfl,"set_iterator",_,⟨_,Heap.get?_push_size _ rfl,rfl⟩,bu.lookup,?_⟩));exact q1 λhb=>by rw[hb]at c;simpa using c
theorem G3{slot j:Nat}{x:Value}{Q:Option Value->Shared->Prop}(u:u0 s.heap it (.int slot 0) i a es.size ep)(m:oS s.heap a es ep t)(hl:t.led=!jk w)(hd:jk w=false->(!t.plain&&decide (es.size>1))=false)
  (hx:lW w a es ep t slot i=some (x,j)) (q:∀h',u0 h' it (.int j 0) (i+1) a es.size ep->Heap.SameBut it s.heap h'->Q (some x) {s with heap:=h'}):wpAny (model prog w) A (pyNext (.ref it)) Q E s:=by
 obtain⟨o1,t1,t2,t3⟩:=id u;obtain⟨o,e1,e2,e3,e4⟩:=id m;unfold pyNext;refine wpAny_bind (wpAny_attempt (wpAny_callSpecial?_slot (name:=Str.ofString "__next__") u.ty bu (wpAny_call_entry bu u.ty df ?_ (dy _))));unfold Builtin.«set_iterator.__next__» slotArgs;simp only[List.isEmpty_nil,Bool.not_true,Bool.false_eq_true,↓reduceIte,bind_assoc,List.length_nil,bne_self_eq_false];refine wpAny_bind (wpAny_pure ?_);refine wpAny_bind (wpAny_fieldsOf t1 t3 ?_);dsimp only;refine wpAny_bind (wpAny_setEntries_of e1 e3 e4 ?_);rw[if_neg (by simp)]
 try dsimp only
 rw[Int.toNat_natCast,Int.toNat_natCast,Int.toNat_natCast];refine wpAny_bind (mR m hl hd ?_);rw[hx];dsimp only;refine wpAny_bind (wpAny_setField t1 t3 (by simp) ?_)
 have r1:=Heap.get?_update_self (Obj.mapFields (·.setIfInBounds 0 (rawInt (j:Int)))) t1 (Obj.isFreed_of_fields (Obj.data_mapFields t3 _))
 refine wpAny_bind (wpAny_setField r1 (Obj.data_mapFields t3 _) (by simp) ?_)
 have r2:=Heap.get?_update_self (Obj.mapFields (·.setIfInBounds 1 (rawInt ((i:Int)+1)))) r1 (Obj.isFreed_of_fields (Obj.data_mapFields (Obj.data_mapFields t3 _) _))
 refine wpAny_pure ⟨_,rfl,wpAny_pure (q _ ⟨_,r2,(Obj.cls_mapFields ..).trans ((Obj.cls_mapFields ..).trans t2),?_⟩ ((Heap.SameBut.update ..).trans (Heap.SameBut.update ..)))⟩;rw[Obj.data_mapFields (Obj.data_mapFields t3 _)];simp [rawInt]
theorem OZ{slot:Nat}{Q:Option Value->Shared->Prop}(hh:A.handled=none)(u:u0 s.heap it (.int slot 0) i a es.size ep)(m:oS s.heap a es ep t)(hl:t.led=!jk w)(hd:jk w=false->(!t.plain&&decide (es.size>1))=false)
  (hx:lW w a es ep t slot i=none) (q:∀h',Heap.ExtBut it s.heap h'->Q none {s with heap:=h'}):wpAny (model prog w) A (pyNext (.ref it)) Q E s:=by
 obtain⟨o1,t1,t2,t3⟩:=id u;obtain⟨o,e1,e2,e3,e4⟩:=id m;unfold pyNext;refine wpAny_bind (wpAny_attempt (wpAny_callSpecial?_slot (name:=Str.ofString "__next__") u.ty bu (wpAny_call_entry bu u.ty df ?_ (dy _))));unfold Builtin.«set_iterator.__next__» slotArgs;simp only[List.isEmpty_nil,Bool.not_true,Bool.false_eq_true,↓reduceIte,bind_assoc,List.length_nil,bne_self_eq_false];refine wpAny_bind (wpAny_pure ?_);refine wpAny_bind (wpAny_fieldsOf t1 t3 ?_);dsimp only;refine wpAny_bind (wpAny_setEntries_of e1 e3 e4 ?_);rw[if_neg (by simp)]
 try dsimp only
 rw[Int.toNat_natCast,Int.toNat_natCast,Int.toNat_natCast];refine wpAny_bind (mR m hl hd ?_);rw[hx];dsimp only;refine wpAny_bind (wpAny_setField t1 t3 (by simp) ?_)
 refine wpAny_bind ?_;simp only[newExc,newTuple];refine wpAny_bind (wpAny_newObj_type ?_ (by size_fits))
 refine wpAny_bind (m:=firstArgMember _ _) (wpAny_of_eq (a:=Value.none) (by first|rfl | (simp only[firstArgMember];rfl)) (wpAny_newObj_type ?_ (by size_fits)))
 simp only[raiseNew];refine wpAny_bind (wpAny_handled ?_);rw[show A.in1.handled=none from hh]
 refine wpAny_bind (wpAny_pure (wpAny_throw ?_));refine wpAny_bind (wpAny_isInstance (T:="StopIteration") (b:=true) ⟨_,Heap.get?_push_size _ rfl,rfl⟩ isSubtype_stop ?_);exact wpAny_pure (q _ (((Heap.SameBut.update ..).extBut.push _).push _))
end
end Vs
namespace Vs
open PySem PySem.Calls PyProof.Rows PyProof.V PySem.Spec Vc
theorem m5:entryFor table "set_iterator.__iter__"=some Builtin.«dict_keyiterator.__iter__»:=entryFor_alias (id':="dict_keyiterator.__iter__") (by kernel_rfl) rfl (by decide +kernel) (by kernel_rfl)
theorem o4(a:Value):argsOk "set_iterator.__iter__" ⟨[a],[]⟩:=by
 unfold argsOk;rw[signature?_of (id:="set_iterator.__iter__") (n:=['_','_','r','e','t','i','_','_']) (o:=['r','o','t','a','r','e','t','i','_','t','e','s']) (by kernel_rfl) tY];kernel_rfl
section
variable {prog:Program}{w:World}{A:Around}{E:Value->Shared->Prop}{s:Shared}{a it p:Addr}{es:Array (Int×Value)}{ep i:Nat}{t:SetTable}
theorem oS.at{h h':Heap}(m:oS h a es ep t)(k:∀o,h.get? a=some o->h'.get? a=some o):oS h' a es ep t:=let ⟨o,e,r⟩:=m;⟨o,k _ e,r⟩
theorem u0.at{h h':Heap}{f:Value}{n:Nat}(m:u0 h it f i a n ep)(k:∀o,h.get? it=some o->h'.get? it=some o):u0 h' it f i a n ep:=let ⟨o,e,r⟩:=m;⟨o,k _ e,r⟩
theorem oO{f:Value}{n:Nat}{Q:Value->Shared->Prop}(u:u0 s.heap it f i a n ep)(q:Q (.ref it) s):wpAny (model prog w) A (pyIter (.ref it)) Q E s:=by
 refine wpAny_pyIter_slot u.ty iX (wpAny_call_entry iX u.ty m5 ?_ (o4 _));show wpAny _ _ (ret (.ref it)) _ _ s;exact wpAny_pure ⟨_,rfl,"set_iterator",_,u.ty,bu.lookup,q⟩
def qd(w:World)(a:Addr)(es:Array (Int×Value))(ep:Nat):List Value:=(if jk w=true then(pickOrder (w.params.setOrder a ep) es).toList else es.toList).map (·.2)
theorem oj:(qd w a es ep).Perm (es.toList.map (·.2)):=by
 unfold qd;refine List.Perm.map _ ?_
 split
 ·exact zp _ _
 ·exact List.Perm.refl _
theorem me:(qd w a es ep).length=es.size:=by rw[oj.length_eq,List.length_map,Array.length_toList]
theorem IV{slot:Nat}(hf:t.fits es.size=true)(R:ft t.place)(hs:jk w=false->SetTable.below t.place slot=i):
  (∀v,(qd w a es ep)[i]?=some v->∃j,lW w a es ep t slot i=some (v,j)/\(jk w=false->SetTable.below t.place j=i+1))/\((qd w a es ep)[i]?=none->lW w a es ep t slot i=none):=by
 have hz:t.place.size=es.size:=by
  unfold SetTable.fits at hf;simp only[Bool.and_eq_true,beq_iff_eq]at hf;exact hf.1
 unfold qd lW;cases hb:jk w with
 | true =>
  simp only[if_true,List.getElem?_map,Array.getElem?_toList,Option.map_eq_some_iff,Option.map_eq_none_iff];refine⟨λv=>?_,λh=>h⟩;rintro⟨e,he,rfl⟩;exact⟨slot,⟨e,he,rfl⟩,λh=>by cases h⟩
 | false =>
  rw[hs hb];simp only[Bool.false_eq_true,if_false,List.getElem?_map,Array.getElem?_toList,Option.map_eq_some_iff,Option.map_eq_none_iff];constructor
  ·rintro v ⟨e,he,rfl⟩
   have hi:i<t.place.size:=by rw[hz];exact(Array.getElem?_eq_some_iff.mp he).1
   refine⟨t.place[i]+1,?_,λ_=>vq R hi⟩;rw[he,Array.getElem?_eq_getElem hi]
  ·intro he
   rw[he]
theorem V0(hh:A.handled=none)(I:Addr)(ne:a≠I)(hf:t.fits es.size=true)(R:ft t.place)(hl:t.led=!jk w)(hd:jk w=false->(!t.plain&&decide (es.size>1))=false):
  Walks prog w A I [I,a] [I] es.size (λi v=>(qd w a es ep)[i]?=some v) (λi h=>∃slot:Nat,u0 h I (.int slot 0) i a es.size ep/\oS h a es ep t/\(jk w=false->SetTable.below t.place slot=i)) where
 sub:=λb hb=>List.mem_cons.mpr (.inl (List.mem_singleton.mp hb))
 frame:=λ_ _ _ ⟨slot,u,m,e⟩ kp=>⟨slot,u.at λo e=>kp I (.head _) o e,m.at λo e=>kp a (.tail _ (.head _)) o e,e⟩
 item:=λi s Q E hi ⟨slot,u,m,e⟩ q=>by
  obtain⟨v,x⟩:∃v,(qd w a es ep)[i]?=some v:=⟨_,List.getElem?_eq_getElem (by rw[me];exact hi)⟩
  obtain⟨j,e1,e2⟩:=(IV hf R e).1 _ x;refine G3 u m hl hd e1 λh' u' sb=>q _ h' s.toks x ⟨j,u',m.at λo e=>(sb.2 a ne).trans e,e2⟩ λb o hb e=>(sb.2 b λy=>hb (List.mem_singleton.mpr y)).trans e
 done:=λs Q E ⟨slot,u,m,e⟩ q=>OZ hh u m hl hd ((IV hf R e).2 (List.getElem?_eq_none (by rw[me];exact Nat.le_refl _))) λh' ex=>q h' s.toks λb o hb e=>ex b o (λy=>hb (List.mem_singleton.mpr y)) e
 self:=λ_ _ _ _ ⟨_,u,_,_⟩ q=>oO u q
end
end Vs
namespace Vs
open PySem PySem.Calls PyProof.Rows PyProof.V PySem.Spec Vc
section
variable {prog:Program}{w:World}{A:Around}{E:Value->Shared->Prop}{s:Shared}{a it p:Addr}{es:Array (Int×Value)}{ep i:Nat}{t:SetTable}
abbrev Jc(ys:List Nat):Obj:=seqObj "tuple" (ys.map λ(j:Nat)=>Value.int j 0).toArray 0
theorem G1{ys:List Nat}{k:Nat}{z:Int}{x:Value}{Q:Option Value->Shared->Prop}(u:u0 s.heap it (.ref p) i a es.size ep)(m:oS s.heap a es ep t)(hp:s.heap.get? p=some (Jc ys))(hk:ys[i]?=some k)(hx:es[k]?=some (z,x))
  (q:∀h',u0 h' it (.ref p) (i+1) a es.size ep->Heap.SameBut it s.heap h'->Q (some x) {s with heap:=h'}):wpAny (model prog w) A (pyNext (.ref it)) Q E s:=by
 obtain⟨o1,t1,t2,t3⟩:=id u;obtain⟨o,e1,e2,e3,e4⟩:=id m;unfold pyNext;refine wpAny_bind (wpAny_attempt (wpAny_callSpecial?_slot (name:=Str.ofString "__next__") u.ty bu (wpAny_call_entry bu u.ty df ?_ (dy _))));unfold Builtin.«set_iterator.__next__» slotArgs;simp only[List.isEmpty_nil,Bool.not_true,Bool.false_eq_true,↓reduceIte,bind_assoc,List.length_nil,bne_self_eq_false];refine wpAny_bind (wpAny_pure ?_);refine wpAny_bind (wpAny_fieldsOf t1 t3 ?_);dsimp only;refine wpAny_bind (wpAny_setEntries_of e1 e3 e4 ?_);rw[if_neg (by simp)]
 try dsimp only
 refine wpAny_bind (wpAny_seqItems hp rfl ?_);dsimp only;rw[Int.toNat_natCast,List.getElem?_toArray,List.getElem?_map,hk];dsimp only[Option.map_some];rw[Int.toNat_natCast,Int.toNat_natCast];unfold setNextDrawn;refine wpAny_bind (wpAny_bind (wpAny_setState_of e1 e3 e4 ?_));dsimp only;simp only[bne_self_eq_false,Bool.false_eq_true,↓reduceIte,hx];refine wpAny_pure ?_;refine wpAny_bind (wpAny_setField t1 t3 (by simp) ?_)
 have r1:=Heap.get?_update_self (Obj.mapFields (·.setIfInBounds 1 (rawInt ((i:Int)+1)))) t1 (Obj.isFreed_of_fields (Obj.data_mapFields t3 _))
 refine wpAny_pure ⟨_,rfl,wpAny_pure (q _ ⟨_,r1,(Obj.cls_mapFields ..).trans t2,?_⟩ (Heap.SameBut.update ..))⟩;rw[Obj.data_mapFields t3];simp [rawInt]
theorem OX{ys:List Nat}{Q:Option Value->Shared->Prop}(hh:A.handled=none)(u:u0 s.heap it (.ref p) i a es.size ep)(m:oS s.heap a es ep t)(hp:s.heap.get? p=some (Jc ys))(hk:ys[i]?=none)
  (q:∀h',Heap.ExtBut it s.heap h'->Q none {s with heap:=h'}):wpAny (model prog w) A (pyNext (.ref it)) Q E s:=by
 obtain⟨o1,t1,t2,t3⟩:=id u;obtain⟨o,e1,e2,e3,e4⟩:=id m;unfold pyNext;refine wpAny_bind (wpAny_attempt (wpAny_callSpecial?_slot (name:=Str.ofString "__next__") u.ty bu (wpAny_call_entry bu u.ty df ?_ (dy _))));unfold Builtin.«set_iterator.__next__» slotArgs;simp only[List.isEmpty_nil,Bool.not_true,Bool.false_eq_true,↓reduceIte,bind_assoc,List.length_nil,bne_self_eq_false];refine wpAny_bind (wpAny_pure ?_);refine wpAny_bind (wpAny_fieldsOf t1 t3 ?_);dsimp only;refine wpAny_bind (wpAny_setEntries_of e1 e3 e4 ?_);rw[if_neg (by simp)]
 try dsimp only
 refine wpAny_bind (wpAny_seqItems hp rfl ?_);dsimp only;rw[Int.toNat_natCast,List.getElem?_toArray,List.getElem?_map,hk];dsimp only[Option.map_none];refine wpAny_bind (wpAny_setField t1 t3 (by simp) ?_)
 have r1:=Heap.get?_update_self (Obj.mapFields (·.setIfInBounds 0 (rawInt 0))) t1 (Obj.isFreed_of_fields (Obj.data_mapFields t3 _))
 refine wpAny_bind (wpAny_setField r1 (Obj.data_mapFields t3 _) (by simp) ?_)
 refine wpAny_bind ?_;simp only[newExc,newTuple];refine wpAny_bind (wpAny_newObj_type ?_ (by size_fits))
 refine wpAny_bind (m:=firstArgMember _ _) (wpAny_of_eq (a:=Value.none) (by first|rfl | (simp only[firstArgMember];rfl)) (wpAny_newObj_type ?_ (by size_fits)))
 simp only[raiseNew];refine wpAny_bind (wpAny_handled ?_);rw[show A.in1.handled=none from hh]
 refine wpAny_bind (wpAny_pure (wpAny_throw ?_));refine wpAny_bind (wpAny_isInstance (T:="StopIteration") (b:=true) ⟨_,Heap.get?_push_size _ rfl,rfl⟩ isSubtype_stop ?_);exact wpAny_pure (q _ ((((Heap.SameBut.update ..).trans (Heap.SameBut.update ..)).extBut.push _).push _))
def Gv(es:Array (Int×Value))(ys:List Nat):List Value:=ys.map λk=>((es[k]?).getD (0,.none)).2
theorem oi{ys:List Nat}(h:ys.Perm (List.range es.size)):(Gv es ys).Perm (es.toList.map (·.2)):=by
 refine(h.map _).trans (List.Perm.of_eq ?_);refine List.ext_getElem (by simp) λi h1 h2=>?_
 have c:i<es.size:=by simpa using h2
 simp [c]
theorem VZ(hh:A.handled=none)(I p:Addr){ys:List Nat}(hy:ys.Perm (List.range es.size))(ne:a≠I)(np:p≠I):
  Walks prog w A I [I,a,p] [I] es.size (λi v=>(Gv es ys)[i]?=some v) (λi h=>u0 h I (.ref p) i a es.size ep/\oS h a es ep t/\h.get? p=some (Jc ys)) where
 sub:=λb hb=>List.mem_cons.mpr (.inl (List.mem_singleton.mp hb))
 frame:=λ_ _ _ st kp=>⟨st.1.at λo e=>kp I (.head _) o e,st.2.1.at λo e=>kp a (.tail _ (.head _)) o e,kp p (.tail _ (.tail _ (.head _))) _ st.2.2⟩
 item:=λi s Q E hi st q=>by
  have hl:ys.length=es.size:=by rw[hy.length_eq,List.length_range]
  obtain⟨k,hk⟩:∃k,ys[i]?=some k:=⟨_,List.getElem?_eq_getElem (by rw[hl];exact hi)⟩
  have kl:k<es.size:=List.mem_range.mp (hy.mem_iff.mp (List.mem_of_getElem? hk));obtain⟨e,he⟩:∃e,es[k]?=some e:=⟨_,Array.getElem?_eq_getElem kl⟩;refine G1 st.1 st.2.1 st.2.2 hk he λh' u' sb=>q _ h' s.toks ?_ ⟨u',st.2.1.at λo e=>(sb.2 a ne).trans e,(sb.2 p np).trans st.2.2⟩ λb o hb e=>(sb.2 b λy=>hb (List.mem_singleton.mpr y)).trans e;unfold Gv;rw[List.getElem?_map,hk];simp [he]
 done:=λs Q E st q=>OX hh st.1 st.2.1 st.2.2 (List.getElem?_eq_none (by rw[hy.length_eq,List.length_range];exact Nat.le_refl _)) λh' ex=>q h' s.toks λb o hb e=>ex b o (λy=>hb (List.mem_singleton.mpr y)) e
 self:=λ_ _ _ _ st q=>oO st.1 q
end
end Vs
namespace Vs
open PySem PySem.Calls PyProof.Rows PyProof.V PySem.Spec Vc
section
variable {prog:Program}{w:World}{A:Around}{E:Value->Shared->Prop}{s:Shared}{a it p:Addr}{es:Array (Int×Value)}{ep i:Nat}{t:SetTable}
theorem S3{Q:Bool->Shared->Prop}(hT:s.TypeIs (.ref a) "set")(h:Q false s):wpAny (model prog w) A (Builtin.List.listLengthHint (.ref a)) Q E s:=by
 unfold Builtin.List.listLengthHint;refine wpAny_bind (wpAny_specialOf hT PySem.F.slot_set_len.lookup ?_);generalize ZO:("set.__len__":String)=id0
 wp_delta
 rw[show splitId id0=some ("set","__len__")from by subst ZO;decide +kernel]
 subst ZO;refine wpAny_bind (wpAny_isInstance (T:="set") (b:=true) hT (by rw[isSubtype_type];kernel_rfl) ?_)
 refine wpAny_ite_split (λV7=>absurd V7 ∅) (λ_=>?_)
 refine wpAny_ite_split (λ_=>?_) (λV7=>absurd (by decide +kernel) V7)
 refine wpAny_bind (wpAny_typeOf hT ?_);exact wpAny_pure h
theorem Xm{R:Result->Shared->Prop}(hh:A.handled=none)(m:oS s.heap a es ep t)(hz:es.size<=sizeLine)(Rr:ft t.place)(hl:t.led=!jk w)(S:Addr)(Xv:S≠a)(res:Value)(c₀:Nat)(hS:s.heap.get? S=some {cls:=.type "list",data:=.seq #[] c₀})
  (hR:∀h' tk d du c',(∀b o,b≠S->s.heap.get? b=some o->h'.get? b=some o)->h'.get? S=some {cls:=.type "list",dict:=none,data:=.seq du c',slots:=#[]}->du.toList.Perm (es.toList.map (·.2))->R (.ok (.ret res)) {s with heap:=h',toks:=tk,drawn:=d}):
  wpAny (model prog w) A.in1 (Builtin.List.listExtendWith (.ref S) (.ref a) res)
   (λfin s'=>match fin with|.done f=>R (.ok f) s'|.again c'=>c'.quiet=true/\codeAny (model prog w) A c' R s') (λe s'=>R (.error e) s') s:=by
 have SQ:=Heap.lt_size hS;have SW:a<s.heap.objs.size:=by obtain⟨o,e,_⟩:=m;exact Heap.lt_size e
 have itm:∀(ord:List Value) (acc:Array Value),ord.length=es.size->ItemsOf (λi v=>ord[i]?=some v) acc es.size->acc.toList=ord:=λord acc hl it=>by
  refine List.ext_getElem? λj=>?_;rw[Array.getElem?_toList];cases ej:acc[j]? with
  | none =>
   have:acc.size<=j:=Array.getElem?_eq_none_iff.mp ej;rw[it.1]at this;rw[List.getElem?_eq_none ⋯]
  | some v=>exact(it.2 j v ej).symm
 have key:∀(rz:Bool) (I:Addr) (fp:List Addr) (P:Nat->Value->Prop) (St:Nat->Heap->Prop) (s1:Shared),Walks prog w A.in1 I fp [I] es.size P St->S∉fp->S≠I->St 0 s1.heap->s1.heap.get? S=some {cls:=.type "list",data:=.seq #[] c₀}->s1.TypeIs (.ref a) "set" ->
   (∀h' tk du c',(∀b o,b≠S->b≠I->s1.heap.get? b=some o->h'.get? b=some o)->h'.get? S=some {cls:=.type "list",dict:=none,data:=.seq du c',slots:=#[]}->ItemsOf P du es.size->R (.ok (.ret res)) {s1 with heap:=h',toks:=tk}) ->
   wpAny (model prog w) A.in1 (do
     let room <- holding [.ref I] (Builtin.List.listLengthHint (.ref a))
     if(room||rz)=true then do
      rule "list.extend.makes-room"
      Builtin.List.listTouch (.ref S)
      again (.builtin "list.extend.loop" ⟨[.ref S,.ref I,res],[]⟩)
     else again (.builtin "list.extend.loop" ⟨[.ref S,.ref I,res],[]⟩))
    (λfin s'=>match fin with|.done f=>R (.ok f) s'|.again c'=>c'.quiet=true/\codeAny (model prog w) A c' R s') (λe s'=>R (.error e) s') s1:=by
  intro rz I fp P St s1 W SN hSI st Lr hT fin;have loop:∀(h:Heap) (c₁:Nat),St 0 h->(∀b o,b≠S->s1.heap.get? b=some o->h.get? b=some o)->h.get? S=some {cls:=.type "list",data:=.seq #[] c₁} ->
    codeAny (model prog w) A (.builtin "list.extend.loop" ⟨[.ref S,.ref I,res],[]⟩) R {s1 with heap:=h}:=by
   intro h c₁ st hk Iz;refine codeAny_extend_loopS W.toS hz S SN res es.size 0 _ #[] c₁ rfl (Nat.zero_le _) st Iz (ItemsOf.nil _) λs' du c' hm rH d0=>?_;rw[Moved.eq_with hm];refine fin s'.heap s'.toks du c' (λb o hb hi e=>hm.heap b o (λq=>?_) (hk b o hb e)) rH d0;rcases List.mem_cons.mp q with q|q
   ·exact hb q
   ·exact hi (List.mem_singleton.mp q)
  refine wpAny_bind (wpAny_holding (S3 hT ?_));refine wpAny_ite_split (λ_=>?_) (λ_=>wpAny_pure ⟨plainId_quiet PySem.F.plain_extend_loop _,loop _ c₀ st (λb o _ e=>e) Lr⟩);refine wpAny_bind (wpAny_rule ?_);refine wpAny_bind ?_;show wpAny _ _ (updateSeq S (·.push .none) >>= λ_=>updateSeq S (·.pop)) _ _ _
  refine wpAny_bind (wpAny_updateSeq Lr rfl ?_);have IA:=Heap.get?_update_self (Obj.mapSeq (·.push Value.none)) Lr rfl
  refine wpAny_updateSeq (hz:=by seq_fits) IA rfl ?_
  have SU:=Heap.get?_update_self (Obj.mapSeq (·.pop)) IA rfl
  have oth:∀b o,b≠S->s1.heap.get? b=some o->((s1.heap.update S (Obj.mapSeq (·.push Value.none))).update S (Obj.mapSeq (·.pop))).get? b=some o:=λb o hb e =>
   (Heap.get?_update_other _ _ (Ne.symm hb)).trans ((Heap.get?_update_other _ _ (Ne.symm hb)).trans e)
  exact wpAny_pure ⟨plainId_quiet PySem.F.plain_extend_loop _,loop _ _ (W.frame 0 _ _ st λb hb o e=>oth b o (λh=>SN (h ▸ hb)) e) oth SU⟩
 unfold Builtin.List.listExtendWith;refine wpAny_bind (wpAny_typeOf (T:="set") m.ty ?_);have h1:Builtin.List.listSameRef (.ref S) (.ref a)=false:=by simp [Builtin.List.listSameRef,Xv]
 simp only[h1,show(Value.type "set"==Value.type "list")=false from by decide,show(Value.type "set"==Value.type "tuple")=false from by decide,Bool.or_false,Bool.false_eq_true,if_false]
 refine wpAny_bind (Er m hz (λhd=>?_) λhb ys d hy=>?_)
 ·refine key _ _ [s.heap.objs.size,a] (λi v=>(qd w a es ep)[i]?=some v) (λi h=>∃slot:Nat,u0 h s.heap.objs.size (.int slot 0) i a es.size ep/\oS h a es ep t/\(jk w=false->SetTable.below t.place slot=i)) _ (V0 (A:=A.in1) (t:=t) hh _ (Nat.ne_of_lt SW) (by obtain⟨_,_,_,_,e⟩:=m;exact e) Rr hl hd) ?_ (Nat.ne_of_lt SQ) ⟨0,⟨_,Heap.get?_push_size _ rfl,rfl,rfl⟩,m.at λo e=>Heap.get?_push_of_some _ e,λ_=>vt Rr⟩ (Heap.get?_push_of_some _ hS) (oS.ty (s:={s with heap:=_}) (m.at λo e=>Heap.get?_push_of_some _ e)) λh' tk du c' hk rH it=>?_
  ·simp only[List.mem_cons,List.not_mem_nil,or_false,not_or];exact⟨Nat.ne_of_lt SQ,Xv⟩
  ·refine hR h' tk s.drawn du c' (λb o hb e=>hk b o hb (Nat.ne_of_lt (Heap.lt_size e)) (Heap.get?_push_of_some _ e)) rH ?_
   rw[itm _ du me it];exact oj
 ·have Ti:(s.heap.push (Jc ys)).objs.size=s.heap.objs.size+1:=Heap.size_push ..
  refine key _ _ [(s.heap.push (Jc ys)).objs.size,a,s.heap.objs.size] (λi v=>(Gv es ys)[i]?=some v) (λi h=>u0 h (s.heap.push (Jc ys)).objs.size (.ref s.heap.objs.size) i a es.size ep/\oS h a es ep t/\h.get? s.heap.objs.size=some (Jc ys)) _ (VZ (A:=A.in1) (t:=t) (a:=a) (ep:=ep) hh (s.heap.push (Jc ys)).objs.size s.heap.objs.size hy (by rw[Ti];exact Nat.ne_of_lt (Nat.lt_succ_of_lt SW)) (by rw[Ti];exact Nat.ne_of_lt (Nat.lt_succ_self _))) ?_ (by rw[Ti];exact Nat.ne_of_lt (Nat.lt_succ_of_lt SQ))
   ⟨⟨_,Heap.get?_push_size _ rfl,rfl,rfl⟩,m.at λo e=>Heap.get?_push_of_some _ (Heap.get?_push_of_some _ e),Heap.get?_push_of_some _ (Heap.get?_push_size _ rfl)⟩ (Heap.get?_push_of_some _ (Heap.get?_push_of_some _ hS)) (oS.ty (s:={s with heap:=_}) (m.at λo e=>Heap.get?_push_of_some _ (Heap.get?_push_of_some _ e))) λh' tk du c' hk rH it=>?_
  ·simp only[List.mem_cons,List.not_mem_nil,or_false,not_or];exact⟨by rw[Ti];exact Nat.ne_of_lt (Nat.lt_succ_of_lt SQ),Xv,Nat.ne_of_lt SQ⟩
  ·refine hR h' tk d du c' (λb o hb e=>hk b o hb (by rw[Ti];exact Nat.ne_of_lt (Nat.lt_succ_of_lt (Heap.lt_size e))) (Heap.get?_push_of_some _ (Heap.get?_push_of_some _ e))) rH ?_
   rw[itm _ du (by rw[(oi hy).length_eq,List.length_map,Array.length_toList]) it];exact oi hy
end
end Vs
namespace Vs
open PySem PySem.Calls PyProof.Rows PyProof.V PySem.Spec Vc PySem.W
section
variable {prog:Program}{w:World}{A:Around}{E:Value->Shared->Prop}{s:Shared}{a it p:Addr}{es:Array (Int×Value)}{ep i:Nat}{t:SetTable}
theorem AO{R:List Value->Shared->Prop}(hh:A.handled=none)(m:oS s.heap a es ep t)(hz:es.size<=sizeLine)(Rr:ft t.place)(hl:t.led=!jk w)
  (h:∀(h':Heap) (tk:Nat) d (acc:List Value),(∀b o,s.heap.get? b=some o->h'.get? b=some o)->acc.Perm (es.toList.map (·.2))->R acc {s with heap:=h',toks:=tk,drawn:=d}):
  wpAny (model prog w) A (collect (.ref a)) R E s:=by
 have SW:a<s.heap.objs.size:=by obtain⟨o,e,_⟩:=m;exact Heap.lt_size e
 unfold collect;refine wpAny_bind (wpAny_runValue (codeAny_builtin entry_proto_collect' ?_));rw[Around.under_plainId PySem.F.plain_proto_collect _];show wpAny _ A.in1 (newList [] >>= λl=>again (.builtin "list.__iadd__" ⟨[l,.ref a],[]⟩)) _ _ s;refine wpAny_bind (wpAny_newObj_type ?_);refine wpAny_pure ⟨plainId_quiet PySem.F.plain_list_iadd _,codeAny_builtin entry_list_iadd' ?_⟩;rw[Around.under_plainId PySem.F.plain_list_iadd _];have SR:(s.heap.push {cls:=.type "list",data:=.seq ([]:List Value).toArray}).get? s.heap.objs.size=some {cls:=.type "list",data:=.seq #[]}:=Heap.get?_push_size _ rfl;show wpAny _ A.in1 (Builtin.List.listExtendWith (.ref s.heap.objs.size) (.ref a) (.ref s.heap.objs.size)) _ _ _;have key:=Xm (prog:=prog) (w:=w) (A:=A) (s:={s with heap:=s.heap.push {cls:=.type "list",data:=.seq ([]:List Value).toArray}})
  (R:=λ(q:Result) (s':Shared)=>∃(h':Heap) (tk:Nat) (d:_) (du:Array Value) (c':Nat),q=.ok (.ret (.ref s.heap.objs.size))/\s'={s with heap:=h',toks:=tk,drawn:=d} /\
   (∀b o,s.heap.get? b=some o->h'.get? b=some o)/\h'.get? s.heap.objs.size=some {cls:=.type "list",dict:=none,data:=.seq du c',slots:=#[]}/\du.toList.Perm (es.toList.map (·.2)))
  hh (m.at λo e=>Heap.get?_push_of_some _ e) hz Rr hl s.heap.objs.size (Nat.ne_of_gt SW) (.ref s.heap.objs.size) 0 SR
  (λh' tk d du c' hk rH d0=>⟨h',tk,d,du,c',rfl,rfl,λb o e=>hk b o (Nat.ne_of_lt (Heap.lt_size e)) (Heap.get?_push_of_some _ e),rH,d0⟩)
 refine wpAny_mono key (λfin s' x=>?_) λe s' x=>?_
 ·cases fin with
  | done f =>
   obtain⟨h',tk,d,du,c',e,rfl,hk,rH,d0⟩:=x;cases e;show wpAny _ A (load s.heap.objs.size >>= _) _ _ _;refine wpAny_bind (wpAny_load rH ?_);exact wpAny_pure (h h' tk d du.toList hk d0)
  | again c₁ =>
   refine⟨x.1,codeAny_mono x.2 λq uE y=>?_⟩;obtain⟨h',tk,d,du,c',rfl,rfl,hk,rH,d0⟩:=y;show wpAny _ A (load s.heap.objs.size >>= _) _ _ _;refine wpAny_bind (wpAny_load rH ?_);exact wpAny_pure (h h' tk d du.toList hk d0)
 ·obtain⟨_,_,_,_,_,e',_⟩:=x
  cases e'
end
end Vs
namespace Vs
open PySem PySem.Calls PyProof.Rows PyProof.V PySem.Spec Vc PySem.W
section
variable {prog:Program}{w:World}{A:Around}{E:Value->Shared->Prop}{s:Shared}{a:Addr}
theorem ik:∀ {vs:List Value},(∀v∈vs,∃i t,v=Value.int i t)->IntsAre vs (vs.map d1)
 | [],_=>.nil
 | v::vs,h=>by
  obtain⟨i,t,rfl⟩:=h v (.head _);exact .cons _ t (ik λx hx=>h x (.tail _ hx))
end
end Vs
namespace Vc
open PySem L2
variable [KF]
variable {G:GE}{k:Nat}{S:Stat}
def Du:List V->Hp->VK->Prop:=λxs H Q=>∃p,∃ns:List Int,xs=[.ref p]/\Rd H p (.lst (ns.map V.int))/\∀ms:List Int,ms.Perm ns->ms.Pairwise (λx y=>x<=y)->∀l,H l=none->Q (.ref l) (upd H l (.lst (ms.map V.int)))
theorem il:∀ {ns:List Int} {its:List Value},Vals (ns.map V.int) its->PyProof.Rows.IntsAre its ns
 | [],_,.nil=>.nil
 | n::ns,_,.cons h r=>by
  obtain⟨t,rfl⟩:=h;exact .cons _ t (il r)
theorem vw{X:Cx}:cy X (.builtin "sorted") Du:=by
 intro pins s σ H xs us0 Q I r h;obtain⟨p,ns,rfl,hq,q⟩:=h;obtain⟨u,rfl,rx⟩:=vals1 r;cases rx;obtain⟨its,rv,pl,hz⟩:=I.list (.inl hq);have ii:=il rv;have lits:its.length=ns.length:=by have:=rv.length;rw[List.length_map]at this;exact this.symm
 have hz:ns.length<=sizeLine:=by have:=hz;rw[List.length_map]at this;exact this
 have dI:=ki ii;have mem:∀x:PyProof.Rows.Keyed,x∈(PyProof.Rows.pairsOf its).toList->x.1∈its/\x.1=x.2:=λx hx=>by
  rw[PyProof.Rows.pairsOf_toList,de]at hx;obtain⟨v,hv,rfl⟩:=List.mem_map.mp hx;exact⟨hv,rfl⟩
 refine Vs.mG (kd:=PyProof.Rows.oneType') (ρ:=Vs.rk (λx=>[Vs.d1 x.1]) (PyProof.Rows.pairsOf its).toList) (P:=λx=>x∈(PyProof.Rows.pairsOf its).toList) pl.isList ⋯ (λ_ h=>h) (λh2 A' E' g kg=>⟨λQ hQ=>?_,?_⟩) λys g c' hp hs kg hg=>?_
 ·exact Vs.tB (s:={s with heap:=g}) h2 ii hQ
 ·exact Vs.xr (s:={s with heap:=g}) λx hx=>dI x.1 (mem x hx).1
 ·have d2:ys.toList.Perm (PyProof.Rows.pairsOf its).toList:=Array.perm_iff_toList_perm.mp hp
  have e9:∀x∈ys.toList,x.1∈its/\x.1=x.2:=λx hx=>mem x (d2.mem_iff.mp hx);obtain⟨ms,Xi⟩:∃ms,ms=(ys.map (·.2)).toList.map Vs.d1:=⟨_,rfl⟩
  have perm:ms.Perm ns:=by
   rw[Xi,Array.toList_map,List.map_map,<- lE ii];refine(d2.map (Vs.d1 ∘ λx=>x.2)).trans ?_;rw[PyProof.Rows.pairsOf_toList,de,List.map_map];exact List.Perm.refl _
  refine⟨.ref (s.heap.objs.size+1),_,I.laid (t':=s.toks) (o:=.lst (ms.map V.int)) kg (Nat.le_succ _) ⟨?_,(ys.map (·.2)).toList,c',?_,hg⟩,rfl,q ms perm ?_ _ (I.bP.fresh (Nat.le_succ _))⟩
  ·rw[List.length_map,perm.length_eq];exact hz
  ·rw[Xi]
   refine dC λv hv=>?_;rw[Array.toList_map]at hv;obtain⟨x,hx,rfl⟩:=List.mem_map.mp hv;have:=e9 x hx;exact dI _ (this.2 ▸ this.1)
  ·rw[Xi,Array.toList_map,List.map_map,List.pairwise_map]
   refine List.pairwise_iff_getElem.mpr λi j hi hj jy=>?_;have kh:i<ys.size:=by simpa using hi
   have yJ:j<ys.size:=by simpa using hj
   have hsz:ys.size=its.length:=by have:=hp.size_eq;rw[PyProof.Rows.pairsOf_size]at this;exact this
   have h1:=hs i j (Nat.zero_le _) (Nat.le_of_lt jy) ⋯
   rw[Vs.cF (Array.getElem?_eq_getElem kh),Vs.cF (Array.getElem?_eq_getElem yJ)]at h1;show Vs.d1 ys[i].2<=Vs.d1 ys[j].2;have m1:=e9 ys[i] (by simp)
   have m2:=e9 ys[j] (by simp)
   have:=Vs.ux (d:=λx=>[Vs.d1 x.1]) (l:=(PyProof.Rows.pairsOf its).toList) (x:=ys[j]) (y:=ys[i]) (d2.mem_iff.mp (by simp))
   rw[decide_eq_false ⋯]at this
   rw[<- m1.2,<- m2.2];have e:(if Vs.d1 ys[j].1=Vs.d1 ys[i].1 then HT.lexLt [] []else decide (Vs.d1 ys[j].1<Vs.d1 ys[i].1))=false:=this.symm
   by_cases z:Vs.d1 ys[j].1=Vs.d1 ys[i].1
   ·omega
   ·rw[if_neg z]at e
    have:=of_decide_eq_false e;omega
def qK:List D->(EV->Prop)->Prop
 | [.lst ds],Q=>ds.all isInt=true/\Q (.own ((iY (ds.map ig)).map D.int))
 | _,_=>False
theorem oz{F:Hp}:∀ {us:List V} {ds:List D},aE F us ds->ds.all isInt=true->us=(ds.map ig).map V.int
 | _,_,.nil,_=>rfl
 | _,_,.cons (d:=d) r rs,h=>by
  rw[List.all_cons,Bool.and_eq_true]at h;rw[List.map_cons,List.map_cons,<- oz rs h.2];cases r with
  | int i=>rfl
  | _=>cases h.1
theorem Fp:yj G k S (.builtin "sorted") qK:=⟨λ_=>Du,λX Y ok=>vw,λY F H ak σ vs ds Qd Q R r q g=>by
 unfold qK at q
 split at q
 ·rename_i xs
  obtain⟨v,rfl,rv⟩:=r.one;obtain⟨p,us,rfl,h1,h2⟩:=rv.lst;refine⟨p,xs.map ig,rfl,?_,λms hp hs l hl=>?_⟩
  ·rw[<- oz h2 q.1];exact h1
  ·have q2:=q.2
   rw[<- mF hp hs]at q2;exact g.own R (jM ms) q2 l hl
 ·exact q.elim⟩
def DT(to:TV):TX:=λσ Q=>to σ λx aw=>match x with
 | .var i=>∃xs e,aw[i]?=some (some (.own (xs++[e])))/\Q (.val e) (aw.set i (some (.own xs)))
 | _=>False
theorem Ou{o:Expr}{to:TV}{apos cpos:Pos}(ho:EO G k S o to)(hb:∀env,attributeBase o "pop" env (eval o env)=eval o env:=by intro _;rfl)
  (hline:(apos.endLine==cpos.line)=true:=by rfl):EX G k S (.Call (.Attribute o "pop" apos) [] [] cpos) (DT to):=.mk λX Y ok=>by
 refine aP (NI F.plainAttrs_list F.slot_list_pop F.type_list_pop MD (ho X Y ok) (hb _) hline) λσ H Q q=>?_;obtain⟨F,ak,Qd,R,q,K⟩:=q;refine⟨F,ak,_,R,q,λv1 H1 F1 x aw s1 R1 r1 q1=>?_⟩;cases x with
 | val d=>exact q1.elim
 | any=>exact q1.elim
 | var i =>
  obtain⟨xs,e,e0,q1⟩:=q1;have r1:σ[i]?=some (some v1):=r1;obtain⟨a,vs,w1,w2,w3,w4,w5⟩:=R1.own i _ e0;rw[r1]at w1;cases w1;have hl:vs.length=xs.length+1:=by rw[w3.length,List.length_append];rfl
  obtain⟨y,hy,ry⟩:∃y,vs[xs.length]?=some y/\Rep F1 y e:=w3.get (by rw[List.getElem?_append_right (Nat.le_refl _),Nat.sub_self];rfl)
  have w6:aE F1 vs.dropLast xs:=by
   have:=w3.eraseIdx xs.length;rw[show(xs++[e]).eraseIdx xs.length=xs by rw[List.eraseIdx_append_of_length_le (Nat.le_refl _),Nat.sub_self];simp]at this
   rwa [show vs.eraseIdx xs.length=vs.dropLast by rw[show xs.length=vs.length-1 by omega,List.eraseIdx_length_sub_one]]at this
  exact⟨.inl ⟨rfl,vs,.of w2⟩,a,vs,y,rfl,rfl,w2,by rw[show vs.length-1=xs.length by omega];exact hy,K y _ F1 (.val e) _ s1 (R1.write e0 r1 w6) ry q1⟩
def Y1(i:Nat)(t:oU):cA:=λDe σ=>t σ λxs aw=>∃n:Nat,fu aw xs=some [.int (n:Nat)]/\n<=1000000/\∀ts:E7,ts.map (·.2)=List.replicate n []->De.nx (aw.set i (some (.obj (pU ts))))
theorem DF(i:Nat){y z:Str}{a:Expr}{t:oU}{scope:Scope}{py fb pos p6 p7 p9 lp:Pos}(h:zO G k S [a] t)(hm:G.mg "range"=none)(b:jZ S scope [z] [none])(hy:S.N[i]?=some y:=by rfl)(hx:S.sc.lookup y=some .local:=by rfl)
  (hn:i∉S.ios:=by first|decide|exact List.not_mem_nil | (dsimp only;decide)) (hl:(py.line==pos.line)=true:=by rfl) (II:(scope.names.any λ(n,k)=>n==y&&(k==.local||k==.cell))=false:=by decide +kernel)
  (vz:(bo S scope [z]).sc.lookup z=some .local:=by rfl) (hg:S.sc.lookup ("range":Str)=some .globalImplicit:=by rfl) (sY:∀env,starEach [a] env=[(false,eval a env)]:=by intro _;rfl) (hh:S.kE=false:=by rfl)
  (hs:∀env v,foldedSetIterable (.Call (.Name "range" p7) [a] [] p9) env v=pure v:=by intro _ _;rfl):
  ES G k S (.Assign [.Name y py] (.ListComp (.List [] lp) [⟨.Name z p6,.Call (.Name "range" p7) [a] [] p9,[],0⟩] scope pos) fb) (Y1 i t):=.mk λX Y ok=>by
 have sw:swapsWith (.ListComp (.List [] lp) [⟨.Name z p6,.Call (.Name "range" p7) [a] [] p9,[],0⟩] scope pos) (some (.Name y py)) fb.line X.env=pure true:=by
  have e:swapsWith (.ListComp (.List [] lp) [⟨.Name z p6,.Call (.Name "range" p7) [a] [] p9,[],0⟩] scope pos) (some (.Name y py)) fb.line X.env=pure (X.env.blockKind==.function&&X.env.kindOf y==some .local&&py.line==pos.line&&!(scope.names.any λ(n,k)=>n==y&&(k==.local||k==.cell))):=rfl
  have kb:X.env.blockKind=.function:=by unfold Env.blockKind;rw[ok.kind];rfl
  have kd:X.env.kindOf y=S.sc.lookup y:=by
   show X.env.scope.names.lookup y=_;rw[ok.sc]
  rw[e,kb,kd,hl,II,hx];rfl
 have pi:=om (tg:=.Name z p6) (p:=p7) (pos:=p9) (cz ok hg) (by rw[ok.mg];exact hm) (h X Y ok) (sY _)
 refine cX (xC (i:=i) (g:=hE 0) (tc:=λ_ H Q=>Q true H) (te:=Pr mN) (ok.calm hh) pi (b.sc ok) (λX' c=>?_) (hs _) (by rw[ok.N];exact ok.nd) (by rw[ok.N];exact hy) (by rw[ok.sc];exact hx) sw) λDn σ H q=>?_
 ·have UH:=dG hh ok b c ⟨Y.H0,Y.F0,[],[]⟩ rfl
  exact⟨L2.kM (i:=0) (by rw[UH.N];exact UH.nd) (by rw[UH.N];rfl) (jE UH (.inl vz)) (jv UH (.inl vz)),xF,ml cW⟩
 obtain⟨F,ak,De,R,q,K⟩:=q;refine⟨F,ak,_,R,q,λvs H1 F1 xs aw s1 R1 r1 q1=>?_⟩;obtain⟨n,ed,hnl,q1⟩:=q1;obtain⟨v,rfl,rv⟩:=(R1.fu r1 ed).one;obtain rfl:=rv.int;refine⟨(n:Nat),rfl,by omega,by omega,λacc d0=>?_⟩
 have aF:F1 acc=none:=same_none R1.fr d0;have a0:Y.H0 acc=none:=(R1.b7 d0).1;have aN:cH aw σ acc:=R1.dg d0;refine⟨λm w bB H'=>m<=n/\w=n-m/\∃ts:E7,RS Y F1 aw σ H'/\H' acc=some (.lst (ts.map λt=>V.ref t.1))/\ts.map (·.2)=List.replicate m []/\(acc::ts.map (·.1)).Nodup/\∀t∈ts,H' t.1=some (.lst [])/\F1 t.1=none/\Y.H0 t.1=none/\cH aw σ t.1,
  ⟨n,Nat.zero_le _,rfl,[],R1.gu d0,aB,rfl,by simp,λt ht=>by cases ht⟩,?_⟩
 rintro m w bB H' ⟨hm,rfl,ts,R',nX,va,XX,LK⟩;have htl:ts.length=m:=by have:=congrArg List.length va;simpa using this
 by_cases fy:m<n
 ·right
  refine⟨by show m<((n:Nat):Int).toNat;omega,λv H2 yl=>?_⟩
  obtain⟨rfl,rfl⟩:=yl;dsimp only[hE];rw[if_pos rfl];refine⟨Nat.zero_le _,λp hp=>?_⟩;have pa:acc≠p:=λz=>by rw[<- z,nX]at hp;cases hp
  have Z2:∀t∈ts,t.1≠p:=λt ht z=>by have:=(LK t ht).1;rw[z,hp]at this;cases this
  have Yc:∀t∈ts,t.1≠acc:=λt ht z=>(List.nodup_cons.mp XX).1 (z ▸ List.mem_map_of_mem ht);have Rp:=R'.gu (o:=.lst []) hp;refine⟨_,n-(m+1),by rw[aq pa];exact nX,by rw[List.length_map,htl,sizeLine_eq];omega,by omega,by omega,rfl,ts++[(p,[])],Rp.other aF a0 aN,by rw[aB,List.map_append];rfl,by rw[List.map_append,va,List.replicate_succ'];rfl,?_,λt ht=>?_⟩
  ·rw[List.map_append,<- List.cons_append,List.nodup_append]
   refine⟨XX,by simp,λx hx y hy z=>?_⟩
   have hy:y=p:=by simpa using hy
   rw[hy]at z;rcases List.mem_cons.mp hx with rfl|hx
   ·exact pa z
   ·obtain⟨t,ht,e1⟩:=List.mem_map.mp hx
    exact Z2 t ht (e1.trans z)
  ·rcases List.mem_append.mp ht with ht|ht
   ·obtain⟨g1,g2,g3,g4⟩:=LK t ht
    exact⟨by rw[aq (Yc t ht),aq (Z2 t ht)];exact g1,g2,g3,g4⟩
   ·rw[List.mem_singleton.mp ht]
    exact⟨by rw[aq (Ne.symm pa),aB],same_none R'.fr hp,(R'.b7 hp).1,R'.dg hp⟩
 ·left
  have en:m=n:=by omega
  subst en;have rx:E8 Y F1 H' aw σ (.ref acc) (.obj (pU ts)):=⟨acc,rfl,⟨nX,XX,λt ht=>⟨[],(LK t ht).1,by
   have:t.2∈ts.map (·.2):=List.mem_map_of_mem ht
   rw[va]at this;rw[List.eq_of_mem_replicate this];exact .nil⟩⟩,λc hc=>by
   rcases List.mem_cons.mp hc with rfl|hc
   ·exact⟨aF,(by rw[nX];exactλz=>nomatch z),a0,aN⟩
   ·obtain⟨t,ht,rfl⟩:=List.mem_map.mp hc
    obtain⟨g1,g2,g3,g4⟩:=LK t ht;exact⟨g2,(by rw[g1];exactλz=>nomatch z),g3,g4⟩⟩
  obtain⟨F2,bq,s2,R2,q2⟩:=jR (x:=.obj (pU ts)) (Q:=De.nx) R' rx hn ok.ios (q1 ts va);refine⟨by show((m:Nat):Int).toNat<=m;omega,?_⟩
  exact K.nx _ H' F2 bq (s1.trans s2) R2 q2
end Vc
namespace Vc
variable [KF]
theorem T6(ts:E7):(pU ts).view.or (pU ts).deep=some (.lst (ts.map λt=>.lst t.2)):=rfl
end Vc
namespace Vs
open PySem Vc
def yn(m:Nat)(p:SetTable.Probe):SetTable.Probe:=
 if p.more>0 then{p with j:=p.j+1,more:=p.more-1}else
 {p with j:=(p.i*5+1+p.perturb/32)%(m+1),more:=SetTable.runEnd m ((p.i*5+1+p.perturb/32)%(m+1))-(p.i*5+1+p.perturb/32)%(m+1),i:=(p.i*5+1+p.perturb/32)%(m+1),perturb:=p.perturb/32}
theorem Al(t:SetTable)(p:SetTable.Probe):t.advance p=yn t.mask p:=rfl
def st(m:Nat)(h:Int):SetTable.Probe:={j:=SetTable.bits h%(m+1),more:=SetTable.runEnd m (SetTable.bits h%(m+1))-SetTable.bits h%(m+1),i:=SetTable.bits h%(m+1),perturb:=SetTable.bits h,dummy:=none}
def way(m:Nat):Nat->SetTable.Probe->SetTable.Probe
 | 0,p=>p
 | n+1,p=>way m n (yn m p)
theorem eU(m:Nat):∀(a b:Nat) (p:SetTable.Probe),way m (a+b) p=way m b (way m a p)
 | 0,b,p=>by rw[Nat.zero_add];rfl
 | a+1,b,p=>by rw[Nat.succ_add];exact eU m a b (yn m p)
theorem jj(m n:Nat)(p:SetTable.Probe):way m (n+1) p=yn m (way m n p):=eU m n 1 p
theorem yo(m:Nat)(p:SetTable.Probe):(yn m p).dummy=p.dummy:=by unfold yn;split<;>rfl
theorem oK(m:Nat):∀(n:Nat) (p:SetTable.Probe),(way m n p).dummy=p.dummy
 | 0,_=>rfl
 | n+1,p=>(oK m n (yn m p)).trans (yo m p)
structure E9(m:Nat)(p:SetTable.Probe):Prop where
 j:p.j=p.i
 more:p.more=SetTable.runEnd m p.i-p.i
theorem E9.le{m:Nat}{p:SetTable.Probe}(s:E9 m p):p.more<=9:=by
 have:=s.more;unfold SetTable.runEnd at this
 split at this<;>omega
theorem we(m:Nat)(h:Int):E9 m (st m h):=⟨rfl,rfl⟩
theorem qw{m:Nat}{p:SetTable.Probe}(s:E9 m p):∀k,k<=p.more->way m k p={p with j:=p.i+k,more:=p.more-k}
 | 0,_=>by
  obtain⟨j,more,i,q,d⟩:=p;have e:j=i:=s.j;subst e;rfl
 | k+1,h=>by
  rw[jj,qw s k ⋯]
  unfold yn;dsimp only;rw[if_pos ⋯]
  rfl
def lp(m:Nat)(q:Nat×Nat):Nat×Nat:=((q.1*5+1+q.2/32)%(m+1),q.2/32)
def lL(m:Nat):Nat->Nat×Nat->Nat×Nat
 | 0,q=>q
 | n+1,q=>lL m n (lp m q)
theorem fA(m:Nat):∀(n:Nat) (q:Nat×Nat),lL m (n+1) q=lp m (lL m n q)
 | 0,_=>rfl
 | n+1,q=>fA m n (lp m q)
theorem uC{m:Nat}{p:SetTable.Probe}(s:E9 m p):E9 m (way m (p.more+1) p)/\((way m (p.more+1) p).i,(way m (p.more+1) p).perturb)=lp m (p.i,p.perturb):=by
 rw[jj,qw s _ (Nat.le_refl _)];unfold yn;dsimp only;rw[if_neg ⋯]
 exact⟨⟨rfl,rfl⟩,rfl⟩
theorem qx{m:Nat}{p:SetTable.Probe}(s:E9 m p):∀r,∃n,n<=10*r/\E9 m (way m n p)/\((way m n p).i,(way m n p).perturb)=lL m r (p.i,p.perturb)
 | 0=>⟨0,Nat.le_refl _,s,rfl⟩
 | r+1=>by
  obtain⟨n,h1,h2,h3⟩:=qx s r;obtain⟨h4,h5⟩:=uC h2;refine⟨n+((way m n p).more+1),by have:=h2.le;omega,by rw[eU];exact h4,?_⟩
  rw[eU,h5,fA,h3]
def nx(m i:Nat):Nat:=(i*5+1)%(m+1)
def its(m:Nat):Nat->Nat->Nat
 | 0,i=>i
 | n+1,i=>its m n (nx m i)
theorem pQ(m:Nat):∀a b i,its m (a+b) i=its m b (its m a i)
 | 0,b,i=>by rw[Nat.zero_add];rfl
 | a+1,b,i=>by rw[Nat.succ_add];exact pQ m a b _
def full(m:Nat):Prop:=∀i j:Nat,i<=m->j<=m->∃s,s<=m/\its m s i=j
theorem yH{m:Nat}(f:full m){i j:Nat}(hi:i<=m)(hj:j<=m):∃s,s<=m/\its m s i=j:=f i j hi hj
def fv:Nat->Nat->Nat
 | 0,x=>x
 | n+1,x=>fv n (5*x+1)
def cv:Nat->Nat
 | 0=>0
 | n+1=>5*cv n+1
theorem jx:∀a b x,fv (a+b) x=fv b (fv a x)
 | 0,b,x=>by rw[Nat.zero_add];rfl
 | a+1,b,x=>by rw[Nat.succ_add];exact jx a b _
theorem nR:∀n x,fv n x=5^n*x+cv n
 | 0,x=>by rw[Nat.pow_zero];show x=1*x+0;omega
 | n+1,x=>by
  rw[jx n 1,nR n x,Nat.pow_succ];show 5*(5^n*x+cv n)+1=5^n*5*x+(5*cv n+1);have:5^n*5*x=5*(5^n*x):=by rw[Nat.mul_comm (5^n) 5,Nat.mul_assoc]
  omega
theorem AU(n:Nat):cv (n+n)=cv n*(5^n+1):=by
 have h1:=jx n n 0;rw[nR,nR,nR n 0,Nat.mul_zero,Nat.mul_zero,Nat.zero_add,Nat.zero_add]at h1;rw[h1,Nat.mul_add,Nat.mul_one,Nat.mul_comm]
theorem ua:∀k:Nat,∃u v,5^2^k=1+2^(k+2)*u/\cv (2^k)=2^k*(2*v+1)
 | 0=>⟨1,0,rfl,rfl⟩
 | k+1=>by
  obtain⟨u,v,h1,h2⟩:=ua k;have e:2^(k+1)=2^k+2^k:=by rw[Nat.pow_succ];omega
  have e2:2^(k+2)=4*2^k:=by rw[Nat.pow_add];omega
  have e3:2^(k+1+2)=8*2^k:=by rw[Nat.pow_add,Nat.pow_succ];omega
  refine⟨u+2*(2^k*(u*u)),v+2^k*u+2*(v*(2^k*u)),?_,?_⟩
  ·rw[e,Nat.pow_add,h1,e2,e3]
   generalize 2^k=N;simp only[Nat.mul_add,Nat.add_mul,Nat.one_mul,Nat.mul_one];have a1:4*N*u*(4*N*u)=16*(N*(N*(u*u))):=by
    rw[show 4*N*u*(4*N*u)=(4*4)*(N*u*(N*u))by simp only[Nat.mul_assoc,Nat.mul_left_comm,Nat.mul_comm]]
    simp only[Nat.mul_assoc,Nat.mul_left_comm,Nat.mul_comm]
   have a2:8*N*(2*(N*(u*u)))=16*(N*(N*(u*u))):=by
    rw[Nat.mul_assoc,Nat.mul_left_comm N 2];omega
   have a3:4*N*u=4*(N*u):=Nat.mul_assoc ..;have a4:8*N*u=8*(N*u):=Nat.mul_assoc ..;omega
  ·rw[e,AU,h1,h2,<- e,e2,Nat.pow_succ]
   generalize 2^k=N;have a:1+4*N*u+1=2*(1+2*(N*u)):=by rw[Nat.mul_assoc];omega
   rw[a,show N*(2*v+1)*(2*(1+2*(N*u)))=N*2*((2*v+1)*(1+2*(N*u)))by simp only[Nat.mul_assoc,Nat.mul_left_comm,Nat.mul_comm]]
   congr 1;generalize N*u=w;simp only[Nat.mul_add,Nat.add_mul,Nat.one_mul,Nat.mul_one];have a1:2*v*(2*w)=4*(v*w):=by
    rw[Nat.mul_assoc,Nat.mul_left_comm v 2];omega
   omega
theorem Ge(N a j:Nat)(h:a%N=j%N):a%(N*2)=j%(N*2)\/(a+N)%(N*2)=j%(N*2):=by
 rcases Nat.eq_zero_or_pos N with z|hN
 ·subst z
  left;simpa using h
 ·rw[Nat.mod_mul,Nat.mod_mul,Nat.mod_mul,Nat.add_mod_right,Nat.add_div_right _ hN,h]
  have h1:=Nat.mod_two_eq_zero_or_one (a/N);have h2:=Nat.mod_two_eq_zero_or_one (j/N)
  by_cases q:a/N%2=j/N%2
  ·rw[q];exact .inl rfl
  ·right
   rw[show(a/N).succ%2=j/N%2 by omega]
theorem Fy(k x:Nat):∃z,fv (2^k) x=x+2^k+2^k*2*z:=by
 obtain⟨u,v,h1,h2⟩:=ua k;refine⟨2*(u*x)+v,?_⟩;rw[nR,h1,h2,show 2^(k+2)=4*2^k by rw[Nat.pow_add];omega]
 generalize 2^k=N;simp only[Nat.mul_add,Nat.add_mul,Nat.one_mul,Nat.mul_one];have a1:4*N*u*x=4*(N*(u*x)):=by simp only[Nat.mul_assoc]
 have a2:N*2*(2*(u*x))=4*(N*(u*x)):=by rw[Nat.mul_assoc];have:=Nat.mul_left_comm N 2 (2*(u*x));have:=Nat.mul_left_comm N 2 (u*x);omega
 have a3:N*(2*v)=2*(N*v):=Nat.mul_left_comm ..;have a4:N*2*v=2*(N*v):=by rw[Nat.mul_comm N 2,Nat.mul_assoc]
 omega
theorem wW:∀k i j:Nat,∃s,s<2^k/\fv s i%2^k=j%2^k
 | 0,i,j=>⟨0,Nat.one_pos,by rw[Nat.pow_zero,Nat.mod_one,Nat.mod_one]⟩
 | k+1,i,j=>by
  obtain⟨s,h1,h2⟩:=wW k i j;rw[Nat.pow_succ];rcases Ge _ _ _ h2 with h|h
  ·exact⟨s,by omega,h⟩
  ·refine⟨s+2^k,by omega,?_⟩
   obtain⟨z,e⟩:=Fy k (fv s i);rw[jx,e,Nat.add_mul_mod_self_left,h]
theorem gD(m:Nat):∀n i,i<=m->its m n i=fv n i%(m+1)
 | 0,i,h=>(Nat.mod_eq_of_lt (Nat.lt_succ_of_le h)).symm
 | n+1,i,h=>by
  rw[pQ m n 1,gD m n i h,jx];show(fv n i%(m+1)*5+1)%(m+1)=(5*fv n i+1)%(m+1);rw[Nat.add_mod,Nat.mul_mod,Nat.mod_mod,<- Nat.mul_mod,<- Nat.add_mod,Nat.mul_comm]
theorem dH{m:Nat}(k:Nat)(e:m+1=2^k):full m:=λi j hi hj=>by
 obtain⟨s,h1,h2⟩:=wW k i j;refine⟨s,by omega,?_⟩
 rw[gD m s i hi,e,h2,<- e,Nat.mod_eq_of_lt (Nat.lt_succ_of_le hj)]
theorem pX(m:Nat):∀(n:Nat) (q:Nat×Nat),(lL m n q).2=q.2/32^n
 | 0,q=>by simp [lL]
 | n+1,q=>by
  rw[fA];show(lL m n q).2/32=_;rw[pX m n q,Nat.div_div_eq_div_mul,<- Nat.pow_succ]
theorem lM(m:Nat):∀(n i:Nat),lL m n (i,0)=(its m n i,0)
 | 0,_=>rfl
 | n+1,i=>by
  show lL m n (lp m (i,0))=(its m n (nx m i),0);rw[<- lM m n,show lp m (i,0)=(nx m i,0)by unfold lp nx;simp]
theorem pW(m:Nat):∀(a b:Nat) (q:Nat×Nat),lL m (a+b) q=lL m b (lL m a q)
 | 0,b,q=>by rw[Nat.zero_add];rfl
 | a+1,b,q=>by rw[Nat.succ_add];exact pW m a b _
theorem tL{m:Nat}(f:full m){q:Nat×Nat}(hq:q.2<2^64){j:Nat}(hj:j<=m):∃r,r<m+15/\(lL m r q).1=j:=by
 have hz:(lL m 13 q).2=0:=by
  rw[pX];exact Nat.div_eq_of_lt (Nat.lt_trans hq ∅)
 have hl:(lL m 13 q).1<=m:=by
  rw[fA];exact Nat.le_of_lt_succ (Nat.mod_lt _ (Nat.succ_pos m))
 obtain⟨s,hs,e⟩:=yH f hl hj;refine⟨13+s,by omega,?_⟩
 rw[pW,show lL m 13 q=((lL m 13 q).1,0)from Prod.ext rfl hz,lM]
 exact e
theorem o7(h:Int):SetTable.bits h<2^64:=by
 unfold SetTable.bits;have:=Int.emod_lt_of_pos h (show(0:Int)<2^64 by decide)
 have:=Int.emod_nonneg h (show(2^64:Int)≠0 by decide)
 omega
theorem Ej{m:Nat}(f:full m)(h:Int){j:Nat}(hj:j<=m):∃n,n<10*(m+15)/\(way m n (st m h)).j=j:=by
 obtain⟨r,hr,e⟩:=tL f (q:=((st m h).i,(st m h).perturb)) (o7 h) hj;obtain⟨n,h1,h2,h3⟩:=qx (we m h) r;refine⟨n,by omega,?_⟩
 rw[h2.j,<- e,<- h3]
theorem first{P:Nat->Prop}[DecidablePred P]{N:Nat}(h:¬P N):∃n,n<=N/\¬P n/\∀k,k<n->P k:=by
 induction N using Nat.strongRecOn with
 | _ N ih =>
  by_cases c:∃k,k<N/\¬P k
  ·obtain⟨k,h1,h2⟩:=c
   obtain⟨n,a,b⟩:=ih k h1 h2;exact⟨n,by omega,b⟩
  ·exact⟨N,Nat.le_refl _,h,λk hk=>Decidable.byContradiction λz=>c ⟨k,hk,z⟩⟩
theorem Iv:full 7:=dH 3 rfl
theorem Ln:full 31:=dH 5 rfl
theorem Fv:full 127:=dH 7 rfl
theorem Fx:full 511:=dH 9 rfl
theorem BI:full 2047:=dH 11 rfl
theorem BJ:full 8191:=dH 13 rfl
theorem yG:full 32767:=dH 15 rfl
end Vs
namespace Vs
open PySem Vc
def fz(t:SetTable)(j:Nat):Prop:=t.place[SetTable.below t.place j]?=some j
instance (t:SetTable) (j:Nat):Decidable (fz t j):=by unfold fz;infer_instance
theorem slot_of{t:SetTable}(hd:t.dummies=#[])(j:Nat):t.slot j=if fz t j then .live (SetTable.below t.place j)else .empty:=by
 unfold SetTable.slot;dsimp only
 by_cases h:fz t j
 ·rw[if_pos (show(t.place[SetTable.below t.place j]?==some j)=true by rw[show t.place[SetTable.below t.place j]?=some j from h];exact beq_self_eq_true _),if_pos h]
 ·rw[if_neg (show¬(t.place[SetTable.below t.place j]?==some j)=true fromλz=>h (eq_of_beq z)),if_neg h,hd,if_neg (by simp [SetTable.has])]
theorem Cm{t:SetTable}(R:ft t.place){i j:Nat}(e:t.place[i]?=some j):SetTable.below t.place j=i:=by
 obtain⟨hi,rfl⟩:=Array.getElem?_eq_some_iff.mp e;obtain⟨h1,h2,h3⟩:=di (j:=t.place[i]) R;generalize SetTable.below t.place t.place[i]=p at *;rcases Nat.lt_trichotomy p i with q|q|q
 ·have hp:p<t.place.size:=by omega
  have:=h3 p hp (Nat.le_refl _);have:=R p i hp hi q;omega
 ·exact q
 ·have:=h2 i hi q
  omega
theorem ic{t:SetTable}(R:ft t.place){j:Nat}:fz t j ↔ ∃i:Nat,t.place[i]?=some j:=
 ⟨λh=>⟨_,h⟩,λ⟨i,e⟩=>by unfold fz;rw[Cm R e];exact e⟩
structure jo(t:SetTable)(hs:Nat->Int)(n:Nat):Prop where
 rise:ft t.place
 EF:t.dummies=#[]
 size:t.place.size=n
 lt:n<=t.mask
 le:∀(i j:Nat),t.place[i]?=some j->j<=t.mask
 full:full t.mask
 wy:∀(i j:Nat),t.place[i]?=some j->∃k,(way t.mask k (st t.mask (hs i))).j=j/\∀k',k'<k->fz t (way t.mask k' (st t.mask (hs i))).j
theorem jo.fits{t:SetTable}{hs:Nat->Int}{n:Nat}(x:jo t hs n):t.fits n=true:=by
 unfold SetTable.fits SetTable.fill;rw[x.EF,x.size,Bool.and_eq_true];exact⟨beq_self_eq_true _,decide_eq_true x.lt⟩
theorem jo.room{t:SetTable}{hs:Nat->Int}{n:Nat}(x:jo t hs n):∃j,j<=t.mask/\¬fz t j:=by
 refine Decidable.byContradiction λc=>?_;have all:∀j,j<=t.mask->fz t j:=λj hj=>Decidable.byContradiction λz=>c ⟨j,hj,z⟩;have up:∀j,j<=t.mask+1->j<=SetTable.below t.place j:=by
  intro j
  induction j with
  | zero=>intro _;omega
  | succ j ih =>
   intro hj;have hp:=all j ⋯
   have hb:=ih ⋯
   obtain⟨hi,e⟩:=Array.getElem?_eq_some_iff.mp (show t.place[SetTable.below t.place j]?=some j from hp)
   obtain⟨h1,h2,h3⟩:=di (j:=j+1) x.rise;rcases Nat.lt_or_ge (SetTable.below t.place j) (SetTable.below t.place (j+1))with q|q
   ·omega
   ·have:=h3 _ hi q
    omega
 have h1:=up (t.mask+1) (Nat.le_refl _);have h2:=(di (j:=t.mask+1) x.rise).1;have:=x.size;have:=x.lt;omega
theorem jo.free{t:SetTable}{hs:Nat->Int}{n:Nat}(x:jo t hs n)(h:Int):∃N,N<10*(t.mask+15)/\¬fz t (way t.mask N (st t.mask h)).j/\∀k,k<N->fz t (way t.mask k (st t.mask h)).j:=by
 obtain⟨j,hj,hn⟩:=x.room;obtain⟨N,h1,rfl⟩:=Ej x.full h hj;obtain⟨m,a,b,c⟩:=first (P:=λk=>fz t (way t.mask k (st t.mask h)).j) hn
 exact⟨m,by omega,b,c⟩
theorem Iw{t:SetTable}{f:Nat->Int}{h:Int}{N:Nat}(hd:t.dummies=#[])(hN:¬fz t (way t.mask N (st t.mask h)).j)(hb:∀k,k<N->fz t (way t.mask k (st t.mask h)).j):∀d n fuel,N-n=d->n<=N->d<fuel ->
  (∃k,n<=k/\k<N/\f (SetTable.below t.place (way t.mask k (st t.mask h)).j)=h/\SetTable.probe.go t f h fuel (way t.mask n (st t.mask h))=some (.candidate (way t.mask k (st t.mask h)).j (SetTable.below t.place (way t.mask k (st t.mask h)).j) (way t.mask (k+1) (st t.mask h)))/\∀k',n<=k'->k'<k->f (SetTable.below t.place (way t.mask k' (st t.mask h)).j)≠h) \/
  ((∀k,n<=k->k<N->f (SetTable.below t.place (way t.mask k (st t.mask h)).j)≠h)/\SetTable.probe.go t f h fuel (way t.mask n (st t.mask h))=some (.empty (way t.mask N (st t.mask h)).j none)):=by
 intro d
 induction d with
 | zero =>
  intro n fuel e l hf;obtain rfl:n=N:=by omega
  obtain⟨fuel,rfl⟩:∃g,fuel=g+1:=⟨fuel-1,by omega⟩
  refine .inr ⟨λk a b=>absurd a ⋯,?_⟩
  unfold SetTable.probe.go;rw[slot_of hd,if_neg hN,oK];rfl
 | succ d ih =>
  intro n fuel e l hf;obtain⟨fuel,rfl⟩:∃g,fuel=g+1:=⟨fuel-1,by omega⟩
  have hl:=hb n ⋯
  unfold SetTable.probe.go;rw[slot_of hd,if_pos hl];dsimp only
  by_cases q:f (SetTable.below t.place (way t.mask n (st t.mask h)).j)=h
  ·rw[if_pos (by simpa using q)]
   refine .inl ⟨n,Nat.le_refl _,by omega,q,by rw[Al,<- jj],λk a b=>absurd a ⋯⟩
  ·rw[if_neg (by simpa using q),Al,<- jj]
   rcases ih (n+1) fuel ⋯ ⋯ ⋯with⟨k,a,b,c,e2,z⟩|⟨z,e2⟩
   ·refine .inl ⟨k,by omega,b,c,e2,λk' h1 h2=>?_⟩
    by_cases w:k'=n
    ·subst w;exact q
    ·exact z k' ⋯ h2
   ·refine .inr ⟨λk' h1 h2=>?_,e2⟩
    by_cases w:k'=n
    ·subst w;exact q
    ·exact z k' ⋯ h2
end Vs
namespace Vs
open PySem Vc
theorem oF{m i:Nat}(h:i<=m):i<=SetTable.runEnd m i/\SetTable.runEnd m i<=m:=by
 unfold SetTable.runEnd
 split<;>omega
def In(m:Nat)(p:SetTable.Probe):Prop:=p.j+p.more<=m
theorem In.start{m:Nat}{i:Nat}{q:Nat}{d:Option Nat}(h:i<=m):In m {j:=i,more:=SetTable.runEnd m i-i,i,perturb:=q,dummy:=d}:=by
 have:=oF h;unfold In;dsimp only;omega
theorem In.yn{m:Nat}{p:SetTable.Probe}(x:In m p):In m (yn m p):=by
 unfold Vs.yn
 split
 ·unfold In at *;dsimp only;omega
 ·exact In.start (Nat.le_of_lt_succ (Nat.mod_lt _ (Nat.succ_pos m)))
theorem In.way{m:Nat}:∀(n:Nat) {p:SetTable.Probe},In m p->In m (way m n p)
 | 0,_,x=>x
 | n+1,_,x=>In.way n x.yn
theorem VH(m:Nat)(h:Int):In m (st m h):=In.start (Nat.le_of_lt_succ (Nat.mod_lt _ (Nat.succ_pos m)))
theorem wD(m n:Nat)(h:Int):(way m n (st m h)).j<=m:=by
 have:=In.way n (VH m h);unfold In at this;omega
theorem jo.put{t:SetTable}{hs:Nat->Int}{n N:Nat}(x:jo t hs n){h:Int}(hN:¬fz t (way t.mask N (st t.mask h)).j)(hb:∀k,k<N->fz t (way t.mask k (st t.mask h)).j)(hn:n+1<=t.mask){hs':Nat->Int}
  (hh:∀i,hs' i=if i<SetTable.below t.place (way t.mask N (st t.mask h)).j then hs i else if i=SetTable.below t.place (way t.mask N (st t.mask h)).j then h else hs (i-1)):jo (t.put (way t.mask N (st t.mask h)).j).1 hs' (n+1):=by
 obtain⟨p,ep⟩:∃p,p=SetTable.below t.place (way t.mask N (st t.mask h)).j:=⟨_,rfl⟩;obtain⟨s,es⟩:∃s,s=(way t.mask N (st t.mask h)).j:=⟨_,rfl⟩;have hp:p<=t.place.size:=by rw[ep];exact(di x.rise).1
 have hs1:s<=t.mask:=by rw[es];exact wD _ _ _
 have e0:(t.put s).1={t with place:=SetTable.insertAt t.place p s}:=by
  unfold SetTable.put;dsimp only;rw[x.EF,if_neg (by simp [SetTable.has]),ep,es]
 have R:ft (SetTable.insertAt t.place p s):=by rw[ep,es];exact uw x.rise hN
 have mono:∀j,fz t j->fz (t.put s).1 j:=λj hj=>by
  rw[e0];refine(ic (t:={t with place:=SetTable.insertAt t.place p s}) R).mpr ?_
  obtain⟨i,hi⟩:=(ic x.rise).mp hj
  by_cases q:i<p
  ·exact⟨i,by show(SetTable.insertAt t.place p s)[i]?=_;rw[bZ _ _ _ hp,if_pos q];exact hi⟩
  ·exact⟨i+1,by show(SetTable.insertAt t.place p s)[i+1]?=_;rw[bZ _ _ _ hp,if_neg ⋯,if_neg ⋯];exact hi⟩
 rw[<- ep]at hh;rw[<- es]at hN ⊢;refine⟨by rw[e0];exact R,by rw[e0];exact x.EF,by rw[e0];exact(gm _ _ _ hp).trans (by rw[x.size]),by rw[e0];exact hn,λi j e=>?_,by rw[e0];exact x.full,λi j e=>?_⟩
 ·rw[e0]at e ⊢
  have e:(SetTable.insertAt t.place p s)[i]?=some j:=e;rw[bZ _ _ _ hp]at e
  split at e
  ·exact x.le _ _ e
  ·split at e
   ·cases e;exact hs1
   ·exact x.le _ _ e
 ·have em:(t.put s).1.mask=t.mask:=by rw[e0]
  rw[em,hh i];have e:(SetTable.insertAt t.place p s)[i]?=some j:=by rw[e0]at e;exact e
  rw[bZ _ _ _ hp]at e
  split at e
  ·rename_i q
   rw[if_pos q];obtain⟨k,h1,h2⟩:=x.wy _ _ e;exact⟨k,h1,λk' hk=>mono _ (h2 k' hk)⟩
  ·rename_i q
   rw[if_neg q]
   split at e
   ·rename_i q2
    cases e;rw[if_pos q2];exact⟨N,es.symm,λk' hk=>mono _ (hb k' hk)⟩
   ·rename_i q2
    rw[if_neg q2];obtain⟨k,h1,h2⟩:=x.wy _ _ e;exact⟨k,h1,λk' hk=>mono _ (h2 k' hk)⟩
def tk(owner:Array (Option Nat))(j:Nat):Bool:=(owner.getD j (some 0)).isSome
theorem wR{m:Nat}{owner:Array (Option Nat)}:∀(fuel:Nat) (p:SetTable.Probe) (j:Nat),E9 m p->SetTable.layClean.free m owner fuel p.i p.perturb=some j->∃n,(way m n p).j=j/\tk owner j=false/\∀n',n'<n->tk owner (way m n' p).j=true
 | 0,p,j,_,h=>by simp [SetTable.layClean.free]at h
 | fuel+1,p,j,s,h=>by
  unfold SetTable.layClean.free at h;have at':∀k,k<=p.more->(way m k p).j=p.i+k:=λk hk=>by rw[qw s k hk]
  split at h
  ·rename_i k e
   cases h;have hk:=List.find?_some e;have hm:k<SetTable.runEnd m p.i+1-p.i:=List.mem_range.mp (List.mem_of_find?_eq_some e);have Wb:k<=p.more:=by rw[s.more];omega
   refine⟨k,at' k Wb,by unfold tk;simpa using hk,λn' hn=>?_⟩
   rw[at' n' ⋯]
   have:=(List.find?_range_eq_some.mp e).2.2 n' hn;unfold tk;simpa using this
  ·rename_i e
   have dI:∀k,k<=p.more->tk owner (p.i+k)=true:=λk hk=>by
    have:=List.find?_eq_none.mp e k (List.mem_range.mpr (by have:=s.more;have:p.i<=SetTable.runEnd m p.i:=(by unfold SetTable.runEnd;split<;>omega);omega))
    unfold tk;cases e:owner.getD (p.i+k) (some 0)with
    | none=>rw[e]at this;exact absurd rfl this
    | some _=>rfl
   obtain⟨h1,h2⟩:=uC s;have e1:=congrArg Prod.fst h2;have e2:=congrArg Prod.snd h2;have h:SetTable.layClean.free m owner fuel (way m (p.more+1) p).i (way m (p.more+1) p).perturb=some j:=by
    rw[show(way m (p.more+1) p).i=(lp m (p.i,p.perturb)).1 from e1,show(way m (p.more+1) p).perturb=(lp m (p.i,p.perturb)).2 from e2]
    exact h
   obtain⟨n,a,b,c⟩:=wR fuel _ j h1 h;refine⟨(p.more+1)+n,by rw[eU];exact a,b,λn' hn=>?_⟩
   by_cases q:n'<=p.more
   ·rw[at' n' q];exact dI n' q
   ·have:=c (n'-(p.more+1)) ⋯
    rw[<- eU,show p.more+1+(n'-(p.more+1))=n' by omega]at this
    exact this
theorem nP{m:Nat}{owner:Array (Option Nat)}:∀(fuel:Nat) (q:Nat×Nat),q.1<=m->SetTable.layClean.free m owner fuel q.1 q.2=none->∀r,r<fuel->tk owner (lL m r q).1=true
 | 0,_,_,_,r,hr=>absurd hr (Nat.not_lt_zero _)
 | fuel+1,q,hq,h,r,hr=>by
  unfold SetTable.layClean.free at h
  split at h
  ·cases h
  ·rename_i e
   cases r with
   | zero =>
    have:=List.find?_eq_none.mp e 0 (List.mem_range.mpr (by have:=oF hq;omega))
    unfold tk lL;cases e:owner.getD q.1 (some 0)with
    | none=>rw[show q.1+0=q.1 from rfl,e]at this;exact absurd rfl this
    | some _=>rfl
   | succ r=>exact nP fuel (lp m q) (Nat.le_of_lt_succ (Nat.mod_lt _ (Nat.succ_pos m))) h r ⋯
end Vs
namespace Vs
open PySem Vc
structure Qf(m:Nat)(H:Nat->Int)(owner:Array (Option Nat))(k:Nat):Prop where
 size:owner.size=m+1
 cnt:owner.countP (λo=>o.isSome)=k
 lt:∀(j i:Nat),owner[j]?=some (some i)->i<k
 inj:∀(j j' i:Nat),owner[j]?=some (some i)->owner[j']?=some (some i)->j=j'
 wy:∀i,i<k->∃j:Nat,owner[j]?=some (some i)/\∃n,(way m n (st m (H i))).j=j/\∀n',n'<n->tk owner (way m n' (st m (H i))).j=true
theorem Ea{owner:Array (Option Nat)}{j:Nat}(h:j<owner.size):tk owner j=owner[j].isSome:=by
 unfold tk;rw[Array.getD,dif_pos h];rfl
theorem Qf.step{m k:Nat}{H:Nat->Int}{owner:Array (Option Nat)}(x:Qf m H owner k)(f:full m)(hk:k<=m):∃j,SetTable.layClean.free m owner (SetTable.turns m) (SetTable.bits (H k)%(m+1)) (SetTable.bits (H k))=some j/\Qf m H (owner.setIfInBounds j (some k)) (k+1):=by
 cases e:SetTable.layClean.free m owner (SetTable.turns m) (SetTable.bits (H k)%(m+1)) (SetTable.bits (H k))with
 | none =>
  exfalso;have h:=nP (m:=m) (owner:=owner) (SetTable.turns m) (SetTable.bits (H k)%(m+1),SetTable.bits (H k)) (Nat.le_of_lt_succ (Nat.mod_lt _ (Nat.succ_pos m))) e;have:owner.countP (λo=>o.isSome)=owner.size:=Array.countP_eq_size.mpr λa ha=>by
   obtain⟨j,hj,rfl⟩:=Array.mem_iff_getElem.mp ha;obtain⟨r,h1,h2⟩:=tL f (q:=(SetTable.bits (H k)%(m+1),SetTable.bits (H k))) (o7 _) (j:=j) (by have:=x.size;omega)
   have:=h r h1;rw[h2,Ea hj]at this;exact this
  rw[x.cnt,x.size]at this;omega
 | some j =>
  obtain⟨n,h1,h2,h3⟩:=wR (m:=m) (owner:=owner) (SetTable.turns m) (st m (H k)) j (we m _) e;have hj:j<owner.size:=by rw[x.size,<- h1];exact Nat.lt_succ_of_le (wD _ _ _)
  have ej:owner[j].isSome=false:=by rw[<- Ea hj];exact h2
  have es:owner.setIfInBounds j (some k)=owner.set j (some k) hj:=by unfold Array.setIfInBounds;rw[dif_pos hj]
  have g:∀i:Nat,(owner.setIfInBounds j (some k))[i]?=if j=i then some (some k)else owner[i]?:=λi=>by
   rw[Array.getElem?_setIfInBounds]
   by_cases q:j=i
   ·rw[if_pos q,if_pos q,if_pos hj]
   ·rw[if_neg q,if_neg q]
  have up:∀i,tk owner i=true->tk (owner.setIfInBounds j (some k)) i=true:=λi hi=>by
   have gd:∀o:Array (Option Nat),o.getD i (some 0)=(o[i]?).getD (some 0):=λo=>by simp
   unfold tk at hi ⊢;rw[gd]at hi ⊢;rw[g]
   split
   ·rfl
   ·exact hi
  refine⟨j,rfl,⟨by rw[Array.size_setIfInBounds];exact x.size,?_,λa i ha=>?_,λa b i ha hb=>?_,λi hi=>?_⟩⟩
  ·rw[es,Array.countP_set,x.cnt,ej];simp
  ·rw[g]at ha
   split at ha
   ·cases ha;omega
   ·have:=x.lt a i ha;omega
  ·rw[g]at ha hb
   split at ha
   ·rename_i q
    cases ha
    split at hb
    ·omega
    ·have:=x.lt b _ hb;omega
   ·split at hb
    ·cases hb
     have:=x.lt a _ ha;omega
    ·exact x.inj a b i ha hb
  ·by_cases q:i<k
   ·obtain⟨a,h4,n',h5,h6⟩:=x.wy i q
    refine⟨a,?_,n',h5,λc hc=>up _ (h6 c hc)⟩;rw[g,if_neg λz=>by subst z;rw[Array.getElem?_eq_getElem hj]at h4;rw[Option.some.inj h4]at ej;cases ej]
    exact h4
   ·obtain rfl:i=k:=by omega
    exact⟨j,by rw[g,if_pos rfl],n,h1,λc hc=>up _ (h3 c hc)⟩
theorem tF{m:Nat}{H:Nat->Int}(f:full m):∀(l:List Int) (owner:Array (Option Nat)) (k:Nat),Qf m H owner k->k+l.length<=m->(∀(q:Nat) h,l[q]?=some h->H (k+q)=h) ->
  ∃CO,l.foldl (λacc h=>do
   let (owner,k) <- acc
   let j <- SetTable.layClean.free m owner (SetTable.turns m) (SetTable.bits h%(m+1)) (SetTable.bits h)
   pure (owner.setIfInBounds j (some k),k+1)) (some (owner,k))=some (CO,k+l.length)/\Qf m H CO (k+l.length)
 | [],owner,k,x,_,_=>⟨owner,rfl,x⟩
 | h::l,owner,k,x,hk,hH=>by
  have e:H k=h:=hH 0 h rfl;obtain⟨j,h1,h2⟩:=x.step f (by simp only[List.length_cons]at hk;omega)
  rw[e]at h1;obtain⟨o',h3,h4⟩:=tF f l _ (k+1) h2 (by simp only[List.length_cons]at hk;omega) λq h' hq=>by
   rw[show k+1+q=k+(q+1)by omega]
   exact hH (q+1) h' (by simpa using hq)
  have ee:k+(h::l).length=k+1+l.length:=by rw[List.length_cons];omega
  refine⟨o',?_,by rw[ee];exact h4⟩
  rw[List.foldl_cons,ee,<- h3];congr 1;simp only[Option.bind_eq_bind,Option.bind_some,h1,Option.pure_def]
theorem F9{m finger moves:Nat}{led plain:Bool}{hashes:Array Int}{H:Nat->Int}(f:full m)(hl:hashes.size<=m)(hH:∀(q:Nat) h,hashes[q]?=some h->H q=h):
  ∃t o,SetTable.laid m finger moves led plain hashes=some (t,o)/\t.mask=m/\t.led=led/\o.toList.Perm (List.range hashes.size)/\jo t (λp=>H (o.getD p 0)) hashes.size:=by
 have x0:Qf m H (Array.replicate (m+1) none) 0:=⟨by simp,by simp,λj i h=>by simp [Array.getElem?_replicate]at h,λj j' i h=>by simp [Array.getElem?_replicate]at h,λi h=>absurd h (Nat.not_lt_zero _)⟩
 obtain⟨owner,h1,x⟩:=tF f hashes.toList _ 0 x0 (by rw[Nat.zero_add,Array.length_toList];exact hl) λq h hq=>by rw[Nat.zero_add];exact hH q h (by rw[<- Array.getElem?_toList];exact hq)
 rw[Nat.zero_add,Array.length_toList]at h1 x;have hc:SetTable.layClean m hashes=some owner:=by
  unfold SetTable.layClean;rw[<- Array.foldl_toList,h1];rfl
 obtain⟨live,Im⟩:∃live,live=(List.range (m+1)).filterMap λj=>(owner.getD j none).map (j,·):=⟨_,rfl⟩
 have mem:∀j i,(j,i)∈live ↔ owner[j]?=some (some i):=λj i=>by
  rw[Im,List.mem_filterMap];constructor
  ·rintro⟨a,ha,e⟩
   have V6:a<owner.size:=by rw[x.size];exact List.mem_range.mp ha
   rw[Array.getD,dif_pos V6]at e;obtain⟨b,e1,e2⟩:=Option.map_eq_some_iff.mp e;cases e2;rw[Array.getElem?_eq_getElem V6];exact congrArg some e1
  ·intro e
   obtain⟨hj,e1⟩:=Array.getElem?_eq_some_iff.mp e;refine⟨j,List.mem_range.mpr (by have:=x.size;omega),?_⟩
   rw[Array.getD,dif_pos hj];show(owner[j]).map _=_;rw[e1];rfl
 have IE:SetTable.laid m finger moves led plain hashes=some ({mask:=m,place:=(live.map (·.1)).toArray,dummies:=#[],finger,led,moves,plain},(live.map (·.2)).toArray):=by
  unfold SetTable.laid;rw[hc,Im];rfl
 obtain⟨hr,_⟩:=yW IE;have nd1:(live.map (·.1)).Nodup:=by
  refine List.nodup_iff_pairwise_ne.mpr (List.pairwise_iff_getElem.mpr λi j hi hj jy=>?_);have:=hr i j (by simpa using hi) (by simpa using hj) jy
  simp only[List.getElem_toArray]at this;exact Nat.ne_of_lt this
 have nd2:(live.map (·.2)).Nodup:=by
  refine List.nodup_iff_pairwise_ne.mpr (List.pairwise_map.mpr ?_);have p1:=List.pairwise_map.mp (List.nodup_iff_pairwise_ne.mp nd1);refine List.Pairwise.imp_of_mem (λ{a b} ha hb ne e=>?_) p1;obtain⟨a1,a2⟩:=a;obtain⟨b1,b2⟩:=b;have e:a2=b2:=e;subst e;exact ne (x.inj a1 b1 a2 ((mem _ _).mp ha) ((mem _ _).mp hb))
 have perm:(live.map (·.2)).Perm (List.range hashes.size):=(List.perm_ext_iff_of_nodup nd2 List.nodup_range).mpr λi=>by
  rw[List.mem_range,List.mem_map];constructor
  ·rintro⟨⟨j,i'⟩,h,rfl⟩
   exact x.lt j i' ((mem _ _).mp h)
  ·intro h
   obtain⟨j,e,_⟩:=x.wy i h;exact⟨(j,i),(mem _ _).mpr e,rfl⟩
 have hlen:live.length=hashes.size:=by have:=perm.length_eq;rw[List.length_map,List.length_range]at this;exact this
 refine⟨_,_,IE,rfl,rfl,perm,⟨hr,rfl,by simpa using hlen,hl,λi j e=>?_,f,λp j e=>?_⟩⟩
 ·have e:(live.map (·.1))[i]?=some j:=by simpa using e
  obtain⟨⟨a,b⟩,h,rfl⟩:=List.mem_map.mp (List.mem_of_getElem? e);obtain⟨hj,_⟩:=Array.getElem?_eq_some_iff.mp ((mem _ _).mp h);have:=x.size;show a<=m;omega
 ·have e:(live.map (·.1))[p]?=some j:=by simpa using e
  rw[List.getElem?_map]at e;obtain⟨⟨a,i⟩,e1,e2⟩:=Option.map_eq_some_iff.mp e;have e2:a=j:=e2;subst e2;have ho:=(mem _ _).mp (List.mem_of_getElem? e1);have eg:(live.map (·.2)).toArray.getD p 0=i:=by simp [e1]
  obtain⟨a',h2,n,h3,h4⟩:=x.wy i (x.lt a i ho);refine⟨n,?_,λk' hk=>?_⟩
  ·rw[eg];exact h3.trans (x.inj _ _ _ h2 ho)
  ·rw[eg]
   refine(ic hr).mpr ?_;have h5:=h4 k' hk;show∃i':Nat,(live.map (·.1)).toArray[i']?=some _
   have hb:(way m k' (st m (H i))).j<owner.size:=by rw[x.size];exact Nat.lt_succ_of_le (wD _ _ _)
   rw[Ea hb]at h5;obtain⟨q,hq⟩:=Option.isSome_iff_exists.mp h5;have hm:((way m k' (st m (H i))).j,q)∈live:=(mem _ _).mpr (by rw[Array.getElem?_eq_getElem hb,hq])
   obtain⟨i',kh⟩:=List.mem_iff_getElem?.mp (List.mem_map_of_mem (f:=(·.1)) hm)
   exact⟨i',by simpa using kh⟩
end Vs
namespace Vs
theorem xu:∀ {A L:List Nat},A.Nodup->(∀x∈A,x∈L)->A.length<=L.length
 | [],_,_,_=>Nat.zero_le _
 | a::A,L,hd,h=>by
  obtain⟨h1,h2⟩:=List.nodup_cons.mp hd;have ha:a∈L:=h a (.head _);have:=xu (L:=L.erase a) h2 λx hx=>(List.mem_erase_of_ne (λe:x=a=>h1 (by rw[<- e];exact hx))).mpr (h x (.tail _ hx))
  rw[List.length_erase_of_mem ha]at this;have:=List.length_pos_of_mem ha;rw[List.length_cons];omega
theorem p8{f:Nat->Nat}:∀ {A:List Nat},A.Nodup->(∀x∈A,∀y∈A,f x=f y->x=y)->(A.map f).Nodup
 | [],_,_=>List.nodup_nil
 | a::A,hd,h=>by
  obtain⟨h1,h2⟩:=List.nodup_cons.mp hd;rw[List.map_cons,List.nodup_cons];refine⟨λz=>?_,p8 h2 λx hx y hy=>h x (.tail _ hx) y (.tail _ hy)⟩;obtain⟨y,hy,e⟩:=List.mem_map.mp z;exact h1 (h y (.tail _ hy) a (.head _) e ▸ hy)
theorem pig{F:List Nat}{K:Nat}{R:Nat->Nat->Prop}(hd:F.Nodup)(h1:∀x∈F,∃c,c<K/\R x c)(h2:∀x∈F,∀y∈F,∀c,R x c->R y c->x=y):F.length<=K:=by
 have hf:∀x,∃c,x∈F->c<K/\R x c:=λx=>by
  by_cases hx:x∈F
  ·obtain⟨c,hc⟩:=h1 x hx
   exact⟨c,λ_=>hc⟩
  ·exact⟨0,λz=>absurd z hx⟩
 have:=xu (A:=F.map λx=>(hf x).choose) (L:=List.range K) (p8 hd λx hx y hy e=>h2 x hx y hy _ ((hf x).choose_spec hx).2 (by
  have:=((hf y).choose_spec hy).2;rw[<- show(hf x).choose=(hf y).choose from e]at this
  exact this)) λc hc=>by
   obtain⟨x,hx,rfl⟩:=List.mem_map.mp hc;exact List.mem_range.mpr ((hf x).choose_spec hx).1
 rwa [List.length_map,List.length_range]at this
theorem Oe:∀n,5^n=4*cv n+1
 | 0=>rfl
 | n+1=>by
  rw[Nat.pow_succ,Oe n];show _=4*(5*cv n+1)+1;omega
theorem wU(n x:Nat):fv n x=x+cv n*(4*x+1):=by
 rw[nR,Oe,Nat.add_mul,Nat.mul_add,Nat.one_mul,Nat.mul_one];have:4*cv n*x=cv n*(4*x):=by rw[Nat.mul_comm 4,Nat.mul_assoc]
 omega
theorem wV:∀n x,fv n x%4=(x+n)%4
 | 0,_=>rfl
 | n+1,x=>by
  show fv n (5*x+1)%4=_;rw[wV n];omega
theorem wM:∀n,cv n%2=n%2
 | 0=>rfl
 | n+1=>by
  show(5*cv n+1)%2=_;have:=wM n;omega
theorem AR:∀k n,2^k ∣ cv n->2^k ∣ n
 | 0,n,_=>Nat.one_dvd n
 | k+1,n,h=>by
  have h2:2 ∣ cv n:=Nat.dvd_trans ⟨2^k,by rw[Nat.pow_succ,Nat.mul_comm]⟩ h
  have he:=wM n;obtain⟨e,rfl⟩:∃e,n=e+e:=⟨n/2,by omega⟩
  rw[AU,Oe,show 4*cv e+1+1=(2*cv e+1)*2 by omega,Nat.pow_succ,<- Nat.mul_assoc]at h
  have h3:2^k ∣ cv e*(2*cv e+1):=Nat.dvd_of_mul_dvd_mul_right ∅ h
  have co:Nat.Coprime (2^k) (2*cv e+1):=Nat.Coprime.pow_left k (by
   show Nat.gcd 2 (2*cv e+1)=1;rw[Nat.gcd_rec,show(2*cv e+1)%2=1 by omega];rfl)
  have h4:2^k ∣ cv e:=co.dvd_of_dvd_mul_right h3;obtain⟨z,hz⟩:=AR k e h4;refine⟨z,?_⟩;rw[Nat.pow_succ];have:2^k*2*z=2*(2^k*z):=by rw[Nat.mul_comm (2^k),Nat.mul_assoc]
  omega
theorem Gh{k a x:Nat}(h:2^k ∣ a*(4*x+1)):2^k ∣ a:=by
 have co:Nat.Coprime (2^k) (4*x+1):=Nat.Coprime.pow_left k (by
  show Nat.gcd 2 (4*x+1)=1;rw[Nat.gcd_rec,show(4*x+1)%2=1 by omega];rfl)
 exact co.dvd_of_dvd_mul_right h
theorem sQ{k a b x:Nat}(h:fv a x%2^k=fv b x%2^k)(V7:a<=b)(hb:b-a<2^k):a=b:=by
 obtain⟨d,rfl⟩:∃d,b=a+d:=⟨b-a,by omega⟩
 rw[jx,wU d]at h;have h1:2^k ∣ cv d*(4*fv a x+1):=by
  have:=Nat.dvd_of_mod_eq_zero (Nat.sub_mod_eq_zero_of_mod_eq h.symm)
  rwa [Nat.add_sub_cancel_left]at this
 obtain⟨z,hz⟩:=AR k d (Gh h1);rcases Nat.eq_zero_or_pos z with q|q
 ·subst q;rw[Nat.mul_zero]at hz;omega
 ·have:=Nat.le_mul_of_pos_right (2^k) q
  omega
end Vs
namespace Vs
open PySem
abbrev cu:Nat:=32767
theorem Cv{a b y:Nat}(hy:y<=cu)(ha:a<8192)(hb:b<8192)(h:its cu a y%8192=its cu b y%8192):a=b:=by
 rw[gD _ _ _ hy,gD _ _ _ hy,show cu+1=8192*4 from rfl,Nat.mod_mul_right_mod,Nat.mod_mul_right_mod]at h
 rcases Nat.le_total a b with q|q
 ·exact sQ (k:=13) h q ⋯
 ·exact(sQ (k:=13) h.symm q ⋯).symm
theorem Cw{n y:Nat}(hy:y<=cu):its cu n y<=cu:=by
 rw[gD _ _ _ hy];exact Nat.le_of_lt_succ (Nat.mod_lt _ ∅)
theorem tj{n y:Nat}(hy:y<=cu):its cu n y%4=(y+n)%4:=by
 rw[gD _ _ _ hy,show cu+1=4*8192 from rfl,Nat.mod_mul_right_mod,wV]
theorem iq{a d y:Nat}(hy:y<=cu):∃z:Int,(its cu (a+d) y:Int)=(its cu a y:Int)+cv d*(4*(its cu a y:Int)+1)+32768*z:=by
 have e:its cu (a+d) y=(its cu a y+cv d*(4*its cu a y+1))%32768:=by
  rw[pQ,gD cu d _ (Cw hy),wU]
 have:=Nat.div_add_mod (its cu a y+cv d*(4*its cu a y+1)) 32768;rw[<- e]at this;refine⟨-(((its cu a y+cv d*(4*its cu a y+1))/32768:Nat):Int),?_⟩;have t2:(((32768*((its cu a y+cv d*(4*its cu a y+1))/32768)+its cu (a+d) y:Nat)):Int)=((its cu a y+cv d*(4*its cu a y+1):Nat):Int):=congrArg _ this
 push_cast at t2 ⊢
 omega
theorem xK{c X Y e:Int}{z1 z2:Int}(h1:c*X=e+32768*z1)(h2:c*Y=e+32768*z2)(he:e=1\/e=-1):∃z,X-Y=32768*z:=by
 have a1:Y*(c*X)=X*(c*Y):=by rw[<- Int.mul_assoc,<- Int.mul_assoc,Int.mul_comm Y c,Int.mul_comm X c,Int.mul_right_comm]
 rw[h1,h2,Int.mul_add,Int.mul_add,Int.mul_left_comm Y,Int.mul_left_comm X]at a1;rcases he with rfl|rfl
 ·exact⟨Y*z1-X*z2,by rw[Int.mul_sub];omega⟩
 ·exact⟨X*z2-Y*z1,by rw[Int.mul_sub];omega⟩
theorem FG{a a' b b' y:Nat}(hy:y<=cu)(ha:a<8192)(hb:b<8192)(e1:its cu a' y=its cu a y+1)(e2:its cu b' y=its cu b y+1)(h:a'+b=b'+a):a=b:=by
 have fin:(∃z:Int,(4*(its cu a y:Int)+1)-(4*(its cu b y:Int)+1)=32768*z)->a=b:=λ⟨z,hz⟩=>Cv hy ha hb ⋯
 rcases Nat.le_total a a' with q|q
 ·obtain⟨d,rfl⟩:∃d,a'=a+d:=⟨a'-a,by omega⟩
  obtain rfl:b'=b+d:=by omega
  obtain⟨z1,h1⟩:=iq (a:=a) (d:=d) hy;obtain⟨z2,h2⟩:=iq (a:=b) (d:=d) hy;exact fin (xK (c:=cv d) (e:=1) (z1:=-z1) (z2:=-z2) ⋯ ⋯ (.inl rfl))
 ·obtain⟨d,rfl⟩:∃d,a=a'+d:=⟨a-a',by omega⟩
  obtain rfl:b=b'+d:=by omega
  obtain⟨z1,h1⟩:=iq (a:=a') (d:=d) hy;obtain⟨z2,h2⟩:=iq (a:=b') (d:=d) hy;obtain⟨z,hz⟩:=xK (c:=cv d) (X:=4*(its cu a' y:Int)+1) (Y:=4*(its cu b' y:Int)+1) (e:=-1) (z1:=-z1) (z2:=-z2) ⋯ ⋯ (.inr rfl)
  exact fin ⟨z,by omega⟩
def Pk(y:Nat):List Nat:=(List.range 8192).map λr=>its cu r y
theorem vL{y:Nat}(hy:y<=cu){L:List Nat}(hL:L.length<=12000):∃r,r<8192/\(its cu r y∉L\/(its cu r y+9<=cu/\its cu r y+1∉L)):=by
 refine Classical.byContradiction λc=>?_;have h1:∀r,r<8192->its cu r y∈L:=λr hr=>Classical.byContradiction λz=>c ⟨r,hr,.inl z⟩;have h2:∀r,r<8192->its cu r y+9<=cu->its cu r y+1∈L:=λr hr h9=>Classical.byContradiction λz=>c ⟨r,hr,.inr ⟨h9,z⟩⟩;have inj:∀a∈List.range 8192,∀b∈List.range 8192,its cu a y=its cu b y->a=b:=λa ha b hb e=>Cv hy (List.mem_range.mp ha) (List.mem_range.mp hb) (by rw[e])
 have f1:((List.range 8192).filter λr=>decide (cu<its cu r y+9)).length<=9:=by
  refine pig (R:=λr c=>its cu r y=c+32759) (List.nodup_range.filter _) (λr hr=>?_) λa ha b hb c e1 e2=>?_
  ·have:=of_decide_eq_true (List.mem_filter.mp hr).2
   have:=Cw (n:=r) hy;have e15:cu=32767:=rfl;exact⟨its cu r y-32759,by omega,by omega⟩
  ·exact inj a (List.mem_filter.mp ha).1 b (List.mem_filter.mp hb).1 (e1.trans e2.symm)
 have f2:((List.range 8192).filter λr=>decide (its cu r y+1∈Pk y)).length<=4096:=by
  refine pig (R:=λr c=>∃r',r'<8192/\its cu r' y=its cu r y+1/\r'+8191=r+4*c) (List.nodup_range.filter _) (λr hr=>?_) λa ha b hb c e1 e2=>?_
  ·obtain⟨Z3,hr1⟩:=List.mem_filter.mp hr
   have Z3:=List.mem_range.mp Z3;obtain⟨r',X6,e⟩:=List.mem_map.mp (of_decide_eq_true hr1);have X6:=List.mem_range.mp X6;have a1:=tj (n:=r) hy;have a2:=tj (n:=r') hy;refine⟨(r'+8191-r)/4,by omega,r',X6,e,by omega⟩
  ·obtain⟨a',_,a1,a2⟩:=e1
   obtain⟨b',_,b1,b2⟩:=e2;exact FG hy (List.mem_range.mp (List.mem_filter.mp ha).1) (List.mem_range.mp (List.mem_filter.mp hb).1) a1 b1 ⋯
 obtain⟨B,eB⟩:∃B,B=(List.range 8192).filter λr=>decide (¬cu<its cu r y+9)&&decide (its cu r y+1∉Pk y):=⟨_,rfl⟩;have mB:∀r∈B,r<8192/\its cu r y+9<=cu/\its cu r y+1∉Pk y:=λr hr=>by
  rw[eB]at hr;obtain⟨a,b⟩:=List.mem_filter.mp hr;rw[Bool.and_eq_true]at b;have:=of_decide_eq_true b.1;exact⟨List.mem_range.mp a,by omega,of_decide_eq_true b.2⟩
 have f3:8192<=B.length+(9+4096):=by
  have:(List.range 8192).length<=(B++(((List.range 8192).filter λr=>decide (cu<its cu r y+9))++((List.range 8192).filter λr=>decide (its cu r y+1∈Pk y)))).length:=xu List.nodup_range λr hr=>by
   rw[List.mem_append,List.mem_append]
   by_cases p:cu<its cu r y+9
   ·exact .inr (.inl (List.mem_filter.mpr ⟨hr,decide_eq_true p⟩))
   ·by_cases q:its cu r y+1∈Pk y
    ·exact .inr (.inr (List.mem_filter.mpr ⟨hr,decide_eq_true q⟩))
    ·exact .inl (by rw[eB];exact List.mem_filter.mpr ⟨hr,by rw[decide_eq_true p,decide_eq_true q];rfl⟩)
  rw[List.length_range,List.length_append,List.length_append]at this;omega
 have nB:B.Nodup:=by rw[eB];exact List.nodup_range.filter _
 have:(Pk y++B.map λr=>its cu r y+1).length<=L.length:=xu (by
   rw[List.nodup_append];refine⟨p8 List.nodup_range inj,p8 nB λa ha b hb e=>?_,λu hu v hv z=>?_⟩
   ·exact inj a (List.mem_range.mpr (mB a ha).1) b (List.mem_range.mpr (mB b hb).1) ⋯
   ·obtain⟨r,hr,rfl⟩:=List.mem_map.mp hv
    exact(mB r hr).2.2 (z ▸ hu)) λu hu=>by
  rcases List.mem_append.mp hu with hu|hu
  ·obtain⟨r,hr,rfl⟩:=List.mem_map.mp hu
   exact h1 r (List.mem_range.mp hr)
  ·obtain⟨r,hr,rfl⟩:=List.mem_map.mp hu
   exact h2 r (mB r hr).1 (mB r hr).2.1
 rw[List.length_append,List.length_map,Pk,List.length_map,List.length_range]at this;omega
end Vs
namespace Vs
open PySem Vc
theorem jo.mem{t:SetTable}{hs:Nat->Int}{n:Nat}(x:jo t hs n){j:Nat}(h:j∉t.place.toList):¬fz t j:=λz=>by
 obtain⟨i,e⟩:=(ic x.rise).mp z;exact h (Array.mem_toList_iff.mpr (Array.mem_of_getElem? e))
theorem jo.SD{t:SetTable}{hs:Nat->Int}{n:Nat}(x:jo t hs n)(hm:t.mask=cu)(hn:n<=12000)(h:Int):∃N,N<90000/\¬fz t (way t.mask N (st t.mask h)).j/\∀k,k<N->fz t (way t.mask k (st t.mask h)).j:=by
 obtain⟨q,eq⟩:∃q:Nat×Nat,q=((st t.mask h).i,(st t.mask h).perturb):=⟨_,rfl⟩;have hq:q.2<2^64:=by rw[eq];exact o7 h
 have hz:(lL t.mask 13 q).2=0:=by
  rw[pX];exact Nat.div_eq_of_lt (Nat.lt_trans hq ∅)
 have hl:(lL t.mask 13 q).1<=t.mask:=by
  rw[fA];exact Nat.le_of_lt_succ (Nat.mod_lt _ (Nat.succ_pos _))
 obtain⟨y,ey⟩:∃y,y=(lL t.mask 13 q).1:=⟨_,rfl⟩;rw[<- ey]at hl;obtain⟨r,h1,h2⟩:=vL (y:=y) (by rw[<- hm];exact hl) (L:=t.place.toList) (by rw[Array.length_toList,x.size];exact hn)
 rw[<- hm]at h2;obtain⟨n0,a1,a2,a3⟩:=qx (we t.mask h) (13+r);rw[<- eq,pW,show lL t.mask 13 q=(y,0)from Prod.ext ey.symm hz,lM]at a3
 have a3:(way t.mask n0 (st t.mask h)).i=its t.mask r y:=congrArg Prod.fst a3;have fin:∀N,N<=n0+1->¬fz t (way t.mask N (st t.mask h)).j->∃N,N<90000/\¬fz t (way t.mask N (st t.mask h)).j/\∀k,k<N->fz t (way t.mask k (st t.mask h)).j:=λN hN hf=>by
  obtain⟨m,b1,b2,b3⟩:=first (P:=λk=>fz t (way t.mask k (st t.mask h)).j) hf
  exact⟨m,by omega,b2,b3⟩
 rcases h2 with h2|⟨h2,h3⟩
 ·exact fin n0 (Nat.le_succ _) (by rw[a2.j,a3];exact x.mem h2)
 ·refine fin (n0+1) (Nat.le_refl _) ?_
  have Ta:1<=(way t.mask n0 (st t.mask h)).more:=by
   rw[a2.more,a3];unfold SetTable.runEnd
   split<;>omega
  rw[eU,qw a2 1 Ta];show¬fz t ((way t.mask n0 (st t.mask h)).i+1);rw[a3];exact x.mem h3
def fo(m n:Nat):Prop:=(m=7/\n<=4)\/(m=31/\n<=18)\/(m=127/\n<=76)\/(m=511/\n<=306)\/(m=2047/\n<=1228)\/(m=8191/\n<=4914)\/(m=32767/\n<=12000)
theorem fo.odd{m n:Nat}(h:fo m n):m%2=1:=by unfold fo at h;omega
theorem fo.full{m n:Nat}(h:fo m n):full m:=by
 unfold fo at h;rcases h with⟨e,_⟩|⟨e,_⟩|⟨e,_⟩|⟨e,_⟩|⟨e,_⟩|⟨e,_⟩|⟨e,_⟩<;>subst e
 ·exact Iv
 ·exact Ln
 ·exact Fv
 ·exact Fx
 ·exact BI
 ·exact BJ
 ·exact yG
theorem jo.Iu{t:SetTable}{hs:Nat->Int}{n:Nat}(x:jo t hs n)(mk:fo t.mask n)(h:Int):∃N,(N<90000/\N<10*(t.mask+15))/\¬fz t (way t.mask N (st t.mask h)).j/\∀k,k<N->fz t (way t.mask k (st t.mask h)).j:=by
 by_cases e:t.mask=32767
 ·obtain⟨N,h1,h2⟩:=x.SD e (by unfold fo at mk;omega) h
  exact⟨N,by omega,h2⟩
 ·obtain⟨N,h1,h2⟩:=x.free h
  exact⟨N,by unfold fo at mk;omega,h2⟩
end Vs
namespace Vs
open PySem PySem.Calls PyProof.Rows PyProof.V PySem.Spec Vc
section
variable {prog:Program}{w:World}{A:Around}{E:Value->Shared->Prop}{s:Shared}{a:Addr}{o:Obj}{es:Array (Int×Value)}{ep:Nat}{t:SetTable}
def EI(prog:Program)(w:World)(e:Int×Value):Prop:=∃v tk,e.2=.int v tk/\tk≠0/\e.1=(intKind prog w).hash v
def m7(es:Array (Int×Value))(i:Nat):Int:=(es[i]?.map (·.1)).getD 0
theorem same_int{v:Int}{tk:Tok}(h:tk≠0){Q:Bool->Shared->Prop}(q:Q true s):wpAny (model prog w) A (isSame (.int v tk) (.int v tk)) Q E s:=by
 have ht:(tk==0)=false:=by simpa using h
 unfold isSame;dsimp only
 by_cases hs:smallInt v=true
 ·rw[beq_self_eq_true,Bool.true_and,if_pos hs]
  unfold isSame.cachedInt;rw[ht,Bool.or_false,if_neg Bool.false_ne_true];exact wpAny_bind (wpAny_rule (wpAny_pure q))
 ·rw[beq_self_eq_true,Bool.true_and,if_neg hs]
  unfold isSame.created;rw[ht,Bool.or_false];simp only[Bool.false_eq_true,if_false,beq_self_eq_true,if_true];exact wpAny_pure q
theorem zc{v:Int}{tk:Tok}{Q:Bool->Shared->Prop}{vs:List Value}(hv:∀u∈vs,∃v' t',u=Value.int v' t')(q:Q false s):
  wpAny (model prog w) A (searchCouldBeSeen (.int v tk) vs) Q E s:=by
 unfold searchCouldBeSeen;refine wpAny_bind ?_;refine wpAny_forIn_list _ (λrest r s'=>r=(none,())/\s'=s/\∀u∈rest,∃v' t',u=Value.int v' t') _ ?_ ?_ _ _ ⟨rfl,rfl,hv⟩
 ·rintro u rest r s' ⟨rfl,rfl,dI⟩
  have hr:∀u∈rest,∃v' t',u=Value.int v' t':=λu hu=>dI u (.tail _ hu);obtain⟨v',t',rfl⟩:=dI u (.head _);dsimp only;rw[show(false||(carriedByValue (.int v tk)&&carriedByValue (.int v' t')))=true from rfl,if_pos rfl]
  exact wpAny_pure ⟨rfl,rfl,hr⟩
 ·rintro r s' ⟨rfl,rfl,_⟩
  exact wpAny_pure q
theorem G4{α:Type}{M:Model}{c:Prop}[Decidable c]{x:Sem Bool}{u m1:Sem α}{Q:α->Shared->Prop}(hx:∀Q':Bool->Shared->Prop,Q' false s->wpAny M A x Q' E s)(h:wpAny M A m1 Q E s):wpAny M A (if c then(x >>= λd=>if d=true then u else m1)else m1) Q E s:=by
 split
 ·exact wpAny_bind (hx _ (by rw[if_neg Bool.false_ne_true];exact h))
 ·exact h
theorem G2(ho:s.heap.get? a=some o)(hd:o.data=.set es ep t)(x:jo t (m7 es) es.size)(mk:fo t.mask es.size)(EK:∀e∈es.toList,EI prog w e){v:Int}{tk:Tok}{Q:SetFound->Shared->Prop}
  (q1:(∃e∈es.toList,d1 e.2=v)->Q (.there none) s)
  (q2:∀N,¬fz t (way t.mask N (st t.mask ((intKind prog w).hash v))).j->(∀n,n<N->fz t (way t.mask n (st t.mask ((intKind prog w).hash v))).j) ->
   (∀e∈es.toList,d1 e.2≠v)->Q (.free (way t.mask N (st t.mask ((intKind prog w).hash v))).j false) s):
  wpAny (model prog w) A (setSearch a (.int v tk) ((intKind prog w).hash v) true) Q E s:=by
 obtain⟨h,eh⟩:∃h,h=(intKind prog w).hash v:=⟨_,rfl⟩;rw[<- eh]at q2 ⊢;obtain⟨N,⟨hN0,rG⟩,hN,hb⟩:=x.Iu mk h;have hgw:¬t.gaveWay=true:=by
  unfold SetTable.gaveWay;rw[mk.odd];decide
 have loop:∀d n fuel (DM:Option SetTable.Probe),N-n=d->n<=N->d<fuel->DM.getD (t.probeStart h)=way t.mask n (st t.mask h) ->
   (∀k',k'<n->∀e,es[SetTable.below t.place (way t.mask k' (st t.mask h)).j]?=some e->e.1=h->d1 e.2≠v) ->
   wpAny (model prog w) A (setSearchFrom a (.int v tk) h true fuel DM) Q E s:=by
  intro d
  induction d using Nat.strongRecOn with
  | _ d ih =>
  intro n fuel DM Ql hn hf sY Kn;obtain⟨fuel,rfl⟩:∃g,fuel=g+1:=⟨fuel-1,by omega⟩
  unfold setSearchFrom;refine wpAny_bind (wpAny_setState_of ho hd x.fits ?_);dsimp only;rw[if_neg hgw,sY];unfold SetTable.probe
  conv in(SetTable.probe.go _ _ _ _ _)=>change SetTable.probe.go t (m7 es) h (10*SetTable.turns t.mask) (way t.mask n (st t.mask h))
  rcases Iw (f:=m7 es) x.EF hN hb (N-n) n (10*SetTable.turns t.mask) rfl hn (by unfold SetTable.turns;omega)with⟨c,c1,c2,c3,c4,c5⟩|⟨c1,c2⟩
  ·rw[c4]
   dsimp only;obtain⟨i,ei⟩:∃i,i=SetTable.below t.place (way t.mask c (st t.mask h)).j:=⟨_,rfl⟩;have hl:=hb c c2;have hi:i<es.size:=by
    rw[<- x.size,ei];exact(Array.getElem?_eq_some_iff.mp (show t.place[SetTable.below t.place (way t.mask c (st t.mask h)).j]?=some _ from hl)).1
   rw[<- ei]at c3 ⊢;have XD:es[i]?=some es[i]:=Array.getElem?_eq_getElem hi;have S9:es[i]∈es.toList:=by simp
   obtain⟨v',tk',e1,e2,e3⟩:=EK _ S9;refine G4 (λQ' q'=>zc (λu hv=>?_) q') ?_
   ·obtain⟨e,he,rfl⟩:=List.mem_map.mp hv
    obtain⟨v',t',z1,_⟩:=EK e (by simpa using(Array.mem_filter.mp (Array.mem_toList_iff.mp he)).1)
    exact⟨v',t',z1⟩
   rw[XD];dsimp only;rw[e1];refine wpAny_bind (wpAny_holding (wpAny_eqBool_int ?_));refine wpAny_bind (wpAny_setState_of ho hd x.fits ?_);dsimp only;have ZP:d1 es[i].2=v':=by rw[e1];rfl
   by_cases ek:v'=v
   ·rw[show(v'==v)=true from by simpa using ek,Bool.and_true,if_pos rfl]
    exact wpAny_pure (q1 ⟨_,S9,ZP.trans ek⟩)
   ·rw[show(v'==v)=false from by simpa using ek,Bool.and_false,if_neg Bool.false_ne_true]
    have X9:t.sameMemory t.moves t.mask=some true:=by unfold SetTable.sameMemory;rw[if_pos (beq_self_eq_true _)]
    rw[X9];dsimp only;rw[if_pos rfl,slot_of x.EF,if_pos hl,<- ei];dsimp only;rw[XD];dsimp only;rw[e1];refine wpAny_bind (same_int e2 ?_);refine wpAny_bind (wpAny_pure ?_);rw[if_pos rfl];dsimp only;rw[if_neg Bool.false_ne_true];refine ih (N-(c+1)) ⋯ (c+1) fuel _ rfl ⋯ ⋯ rfl λm hm e he Zt=>?_
    by_cases q:m<n
    ·exact Kn m q e he Zt
    ·by_cases q2:m=c
     ·subst q2
      rw[<- ei,XD]at he;cases he;rw[ZP];exact ek
     ·refine absurd ?_ (c5 m ⋯ ⋯)
      unfold m7;rw[he];exact Zt
  ·rw[c2]
   dsimp only;refine wpAny_pure (q2 N hN hb λe he eb=>?_);obtain⟨i,hi,rfl⟩:=List.mem_iff_getElem.mp he;have kh:i<es.size:=by simpa using hi
   obtain⟨v',b2,e1,e2,e3⟩:=EK _ he;have ev:v'=v:=by rw[<- eb,e1];rfl
   subst ev;have hp:i<t.place.size:=by rw[x.size];exact kh
   obtain⟨m,w1,w2⟩:=x.wy i t.place[i] (Array.getElem?_eq_getElem hp);have Zr:es[i].1=h:=by rw[eh];simpa using e3
   have hF:m7 es i=h:=by unfold m7;rw[Array.getElem?_eq_getElem kh];exact Zr
   rw[hF]at w1 w2;have pL:fz t (way t.mask m (st t.mask h)).j:=by rw[w1];exact(ic x.rise).mpr ⟨i,Array.getElem?_eq_getElem hp⟩
   have hmN:m<N:=by
    rcases Nat.lt_trichotomy m N with q|q|q
    ·exact q
    ·subst q;exact absurd pL hN
    ·exact absurd (w2 N q) hN
   have ZE:SetTable.below t.place (way t.mask m (st t.mask h)).j=i:=by rw[w1];exact Cm x.rise (Array.getElem?_eq_getElem hp)
   by_cases q:m<n
   ·exact Kn m q es[i] (by rw[ZE];exact Array.getElem?_eq_getElem kh) Zr (by simpa using eb)
   ·exact c1 m ⋯ hmN (by rw[ZE];exact hF)
 exact loop N 0 100000 none rfl (Nat.zero_le _) ⋯ rfl λk' pM=>absurd pM (Nat.not_lt_zero _)
end
end Vs
namespace Vs
open PySem PySem.Calls PyProof.Rows PyProof.V PySem.Spec Vc
theorem vH{es:Array (Int×Value)}{p:Nat}(hp:p<=es.size)(h:Int)(x:Value)(i:Nat):m7 (SetTable.insertAt es p (h,x)) i=if i<p then m7 es i else if i=p then h else m7 es (i-1):=by
 unfold m7;rw[bZ _ _ _ hp]
 split
 ·rfl
 ·split<;>rfl
theorem jo.imp{t:SetTable}{f g:Nat->Int}{n:Nat}(x:jo t f n)(h:∀i,i<n->f i=g i):jo t g n:=
 ⟨x.rise,x.EF,x.size,x.lt,x.le,x.full,λi j e=>by rw[<- h i (by rw[<- x.size];exact(Array.getElem?_eq_some_iff.mp e).1)];exact x.wy i j e⟩
theorem jo.plain{t:SetTable}{f:Nat->Int}{n:Nat}(x:jo t f n)(b:Bool):jo {t with plain:=b} f n:=⟨x.rise,x.EF,x.size,x.lt,x.le,x.full,x.wy⟩
theorem Bx{α β:Type}{f:α->Option β}:∀ {l:List α},(∀a∈l,(f a).isSome=true)->∀i:Nat,(l.filterMap f)[i]?=(l[i]?).bind f
 | [],_,i=>rfl
 | a::l,h,i=>by
  obtain⟨b,hb⟩:=Option.isSome_iff_exists.mp (h a (.head _));rw[List.filterMap_cons_some hb];cases i with
  | zero=>exact hb.symm
  | succ i=>exact Bx (λx hx=>h x (.tail _ hx)) i
theorem BQ{m n:Nat}(mk:fo m n)(Zy:n+1<=12000)(hf:(n+1)*5>=m*3):fo (SetTable.sizeAbove (SetTable.grown (n+1))-1) (n+1)/\n+1<=SetTable.sizeAbove (SetTable.grown (n+1))-1/\SetTable.sizeAbove (SetTable.grown (n+1))<=sizeLine:=by
 have k:∀N M:Nat,n+1=N->SetTable.sizeAbove (SetTable.grown N)=M+1->fo M N->N<=M->M+1<=16777216->fo (SetTable.sizeAbove (SetTable.grown (n+1))-1) (n+1)/\n+1<=SetTable.sizeAbove (SetTable.grown (n+1))-1/\SetTable.sizeAbove (SetTable.grown (n+1))<=sizeLine:=λN M e1 e2 e3 e4 e5=>by
  rw[e1,e2];exact⟨e3,e4,e5⟩
 unfold fo at mk;rcases mk with⟨e,l⟩|⟨e,l⟩|⟨e,l⟩|⟨e,l⟩|⟨e,l⟩|⟨e,l⟩|⟨e,l⟩
 ·exact k 5 31 ⋯ (by decide +kernel) (by unfold fo;omega) ∅ ∅
 ·exact k 19 127 ⋯ (by decide +kernel) (by unfold fo;omega) ∅ ∅
 ·exact k 77 511 ⋯ (by decide +kernel) (by unfold fo;omega) ∅ ∅
 ·exact k 307 2047 ⋯ (by decide +kernel) (by unfold fo;omega) ∅ ∅
 ·exact k 1229 8191 ⋯ (by decide +kernel) (by unfold fo;omega) ∅ ∅
 ·exact k 4915 32767 ⋯ (by decide +kernel) (by unfold fo;omega) ∅ ∅
 ·omega
theorem fo.ni{m n:Nat}(mk:fo m n)(c:¬(n+1)*5>=m*3)(h:n+1<=12000):fo m (n+1):=by unfold fo at mk ⊢;omega
theorem uo{t1:SetTable}{es1:Array (Int×Value)}{n:Nat}(mk:fo t1.mask n)(hn:es1.size=n+1)(Zy:n+1<=12000)(hf:es1.size*5>=t1.mask*3):
  ∃t2 o2,t1.relaid (es1.map (·.1)) (SetTable.grown (n+1))=some (t2,o2)/\o2.toList.Perm (List.range es1.size)/\(o2.filterMap λi=>es1[i]?).toList.Perm es1.toList/\(o2.filterMap λi=>es1[i]?).size=es1.size /\
   jo t2 (m7 (o2.filterMap λi=>es1[i]?)) (o2.filterMap λi=>es1[i]?).size/\fo t2.mask es1.size/\t2.led=t1.led/\SetTable.sizeAbove (SetTable.grown (n+1))<=sizeLine:=by
 obtain⟨g1,g2,g3⟩:=BQ mk Zy (by rw[<- hn];exact hf)
 obtain⟨t2,o2,q1,q2,q3,q4,q5⟩:=F9 (m:=SetTable.sizeAbove (SetTable.grown (n+1))-1) (finger:=t1.finger) (moves:=t1.movedTo (SetTable.sizeAbove (SetTable.grown (n+1))-1)) (led:=t1.led) (plain:=t1.plain) (hashes:=es1.map (·.1)) (H:=m7 es1) g1.full (by rw[Array.size_map,hn];exact g2) λq h' hq=>by
  rw[Array.getElem?_map]at hq;unfold m7;rw[hq];rfl
 rw[Array.size_map]at q4 q5;have hf:(o2.filterMap λi=>es1[i]?).toList.Perm es1.toList:=by
  rw[Array.toList_filterMap];refine(q4.filterMap _).trans (List.Perm.of_eq ?_);exact filterMap_getElem?_range es1
 have ZJ:(o2.filterMap λi=>es1[i]?).size=es1.size:=by rw[<- Array.length_toList,hf.length_eq,Array.length_toList]
 refine⟨t2,o2,q1,q4,hf,ZJ,?_,by rw[q2,hn];exact g1,q3,g3⟩
 rw[ZJ];refine q5.imp λi hi=>?_;have e1:(o2.filterMap λi=>es1[i]?)[i]?=(o2[i]?).bind λi=>es1[i]?:=by
  rw[<- Array.getElem?_toList,Array.toList_filterMap,Bx (λc hc=>?_) i,Array.getElem?_toList];have:=List.mem_range.mp (q4.mem_iff.mp hc);rw[Array.getElem?_eq_getElem this];rfl
 have e2:o2.size=es1.size:=by have:=q4.length_eq;rw[List.length_range,Array.length_toList]at this;exact this
 show m7 es1 (o2.getD i 0)=_;unfold m7;rw[e1,Array.getElem?_eq_getElem (show i<o2.size by omega),Array.getD,dif_pos (show i<o2.size by omega)];rfl
def kA(prog:Program)(w:World)(h:Heap)(a:Addr)(is:List Int):Prop:=
 ∃o es ep t,h.get? a=some o/\o.ExactSet/\o.data=.set es ep t/\ElemsOf (intKind prog w) es.toList/\(∀e∈es.toList,EI prog w e)/\(es.toList.map λe=>d1 e.2).Perm is/\jo t (m7 es) es.size/\fo t.mask es.size/\t.led=!jk w
section
variable {prog:Program}{w:World}{A:Around}{E:Value->Shared->Prop}{s:Shared}{a:Addr}
theorem eO{h:Heap}{o:Obj}{es:Array (Int×Value)}{ep:Nat}{t:SetTable}(ho:h.get? a=some o)(hex:o.ExactSet)(hd:o.data=.set es ep t)
  {lu:Array (Int×Value)} {t':SetTable} {is:List Int} (h1:ElemsOf (intKind prog w) lu.toList) (h2:∀e∈lu.toList,EI prog w e) (h3:(lu.toList.map λe=>d1 e.2).Perm is)
  (h5:jo t' (m7 lu) lu.size) (hl:t'.led=!jk w):
  (h.update a (Obj.putSet lu t')).get? a=some {o with data:=.set lu (ep+1) t'}/\(fo t'.mask lu.size->kA prog w (h.update a (Obj.putSet lu t')) a is):=by
 have hg:(h.update a (Obj.putSet lu t')).get? a=some {o with data:=.set lu (ep+1) t'}:=by
  have:=Heap.get?_update_self (Obj.putSet lu t') ho (by rw[putSet_of lu t' hd];rfl)
  rw[putSet_of lu t' hd]at this;exact this
 exact⟨hg,λmk=>⟨_,lu,ep+1,t',hg,hex,rfl,h1,h2,h3,h5,mk,hl⟩⟩
end
end Vs
namespace Vs
open PySem PySem.Calls PyProof.Rows PyProof.V PySem.Spec Vc
section
variable {prog:Program}{w:World}{A:Around}{E:Value->Shared->Prop}{s:Shared}{a:Addr}
theorem Rc{es:List (Int×Value)}{is:List Int}(p:(es.map λe=>d1 e.2).Perm is)(v:Int):is.any (·==v)=true ↔ ∃e∈es,d1 e.2=v:=by
 rw[List.any_eq_true];constructor
 ·rintro⟨k,hk,q⟩
  obtain rfl:=beq_iff_eq.mp q;obtain⟨e,he,q⟩:=List.mem_map.mp (p.mem_iff.mpr hk);exact⟨e,he,q⟩
 ·rintro⟨e,he,q⟩
  exact⟨v,p.mem_iff.mp (List.mem_map.mpr ⟨e,he,q⟩),beq_self_eq_true v⟩
theorem sP{t:SetTable}{h:Int}{N:Nat}(hd:t.dummies=#[])(h1:N<10*(t.mask+15))(hN:¬fz t (way t.mask N (st t.mask h)).j)(hb:∀k,k<N->fz t (way t.mask k (st t.mask h)).j):t.freeSlot h=some ((way t.mask N (st t.mask h)).j,false):=by
 unfold SetTable.freeSlot SetTable.probe;rcases Iw (f:=λ_=>h+1) hd hN hb N 0 (10*SetTable.turns t.mask) rfl (Nat.zero_le _) (by unfold SetTable.turns;omega)with⟨k,_,_,e,_⟩|⟨_,e⟩
 ·exact absurd e ⋯
 ·rw[show SetTable.probe.go t (λ_=>h+1) h (10*SetTable.turns t.mask) (t.probeStart h)=_ from e];rfl
theorem covers{o:Array Nat}{n:Nat}(h:o.toList.Perm (List.range n)):coversAll o n=true:=by
 unfold coversAll;exact List.isPerm_iff.mpr h
theorem QW{is:List Int}{v:Int}{tk:Tok}{Q:Bool->Shared->Prop}(hS:kA prog w s.heap a is)(Z4:is.length+1<=12000)(ht:tk≠0)
  (h:∀b h',Heap.SameBut a s.heap h'->kA prog w h' a (step_dedup is v)->Q b {s with heap:=h'}):
  wpAny (model prog w) A (setAddHashed a (.int v tk) ((intKind prog w).hash v)) Q E s:=by
 obtain⟨o,es,ep,t,ho,hex,hd,h1,EK,h3,x,mk,hl⟩:=id hS;have FI:(intKind prog w).is v (.int v tk)=true:=intKind_is _ _ _ _;have hn:es.size=is.length:=by rw[<- h3.length_eq,List.length_map,Array.length_toList]
 have an:=Rc h3 v;have hints:∀e∈es.toList,∃i t,e.2=Value.int i t:=λe he=>by
  obtain⟨i,t,e1,_⟩:=EK e he;exact⟨i,t,e1⟩
 -- what one more gives
 have more:∀N,¬fz t (way t.mask N (st t.mask ((intKind prog w).hash v))).j->(∀k,k<N->fz t (way t.mask k (st t.mask ((intKind prog w).hash v))).j)->∃(p:Nat) (t1:SetTable) (es1:Array (Int×Value)),
   t.put (way t.mask N (st t.mask ((intKind prog w).hash v))).j=(t1,p)/\es1=SetTable.insertAt es p ((intKind prog w).hash v,.int v tk)/\jo t1 (m7 es1) es1.size/\t1.mask=t.mask/\t1.led=t.led/\es1.size=es.size+1 /\
    ElemsOf (intKind prog w) es1.toList/\(∀e∈es1.toList,EI prog w e)/\(es1.toList.map λe=>d1 e.2).Perm (is++[v]):=λN hN hb=>by
  obtain⟨p,K0⟩:∃p,p=SetTable.below t.place (way t.mask N (st t.mask ((intKind prog w).hash v))).j:=⟨_,rfl⟩;have hp:p<=es.size:=by rw[K0,<- x.size];exact(di x.rise).1
  have XS:es.size+1<=t.mask:=by unfold fo at mk;omega
  have y:=x.put hN hb XS (hs':=m7 (SetTable.insertAt es p ((intKind prog w).hash v,.int v tk))) λi=>by rw[vH hp,K0]
  have hsz:=gm es p ((intKind prog w).hash v,Value.int v tk) hp;have Wd:=SetTable.insertAt_perm es p ((intKind prog w).hash v,Value.int v tk);rw[Array.toList_push]at Wd;refine⟨p,(t.put (way t.mask N (st t.mask ((intKind prog w).hash v))).j).1,_,by rw[K0];rfl,rfl,by rw[hsz];exact y,rfl,rfl,hsz,(h1.push FI rfl).perm Wd,λe he=>?_,?_⟩
  ·rcases List.mem_append.mp (Wd.mem_iff.mp he)with q|q
   ·exact EK e q
   ·rw[List.mem_singleton]at q;subst q;exact⟨_,_,rfl,ht,rfl⟩
  ·refine(Wd.map _).trans ?_
   rw[List.map_append];exact h3.append_right _
 have lines:∀n:Nat,n<=12000->n<=sizeLine:=λn hn=>by
  have:(12000:Nat)<=sizeLine:=by decide
  omega
 unfold setAddHashed setAddHashedIn;refine wpAny_holding (wpAny_bind (wpAny_setState_of ho hd x.fits ?_));dsimp only
 by_cases Z6:byScan (.int v tk) es=true
 ·rw[if_pos Z6]
  unfold setAddByScan;refine wpAny_bind (wpAny_bind (wpAny_rule (wpAny_bind (wpAny_setScan_of FI ho hd x.fits h1 ?_))));cases hi:List.findIdx? (λe=>(intKind prog w).is v e.2) es.toList with
  | some j =>
   dsimp only;obtain⟨hj,ZZ,_⟩:=List.findIdx?_eq_some_iff_getElem.mp hi;refine wpAny_pure (wpAny_pure (h _ s.heap (Heap.SameBut.refl a s.heap) ?_));obtain⟨i,t',e2⟩:=hints _ (List.getElem_mem hj);rw[e2]at ZZ;rw[step_dedup,if_pos (an.mpr ⟨_,List.getElem_mem hj,by rw[e2];exact(Cr.mp ZZ).symm⟩)]
   exact hS
  | none =>
   dsimp only;have XW:¬is.any (·==v)=true:=λq=>by
    obtain⟨e,he,q⟩:=an.mp q;have:=List.findIdx?_eq_none_iff.mp hi e he;obtain⟨i,t',e2⟩:=hints e he;rw[e2]at this q;rw[Cr.mpr (show v=i from q.symm)]at this;exact Bool.noConfusion this
   rw[step_dedup,if_neg XW]at h;obtain⟨N,⟨_,rG⟩,hN,hb⟩:=x.Iu mk ((intKind prog w).hash v);obtain⟨p,t1,es1,m1,m2,y,em,el,hsz,k1,k2,k3⟩:=more N hN hb;have FJ:layNew t es ((intKind prog w).hash v) (.int v tk)=(es1,t1,false,false):=by
    unfold layNew;rw[sP x.EF rG hN hb];dsimp only;rw[m1];dsimp only;rw[<- m2];unfold SetTable.orStandIn;rw[y.fits,if_pos rfl];rfl
   rw[FJ];dsimp only;refine wpAny_bind (wpAny_pure ?_);have tail:∀b:Bool,wpAny (model prog w) A (do
     storeSet a es1 {t1 with plain:=b}
     if(!false&&SetTable.tooFull {t1 with plain:=b})=true then do
       (match(relayAll {t1 with plain:=b} es1 (SetTable.grown es1.size)).2.2 with|true=>rule "set.scan.the-table-gave-way" |false=>pure ())
       storeSet a (relayAll {t1 with plain:=b} es1 (SetTable.grown es1.size)).1 (relayAll {t1 with plain:=b} es1 (SetTable.grown es1.size)).2.1
       pure (some true)
      else pure (some true)) (λr s'=>Q (r.getD false) s'/\r=some true) E s:=λb=>by
    have y':=y.plain b;obtain⟨FK,Lr⟩:=eO (prog:=prog) (w:=w) ho hex hd k1 k2 k3 y' (el.trans hl);refine wpAny_bind (wpAny_storeSet_of ho hd ?_ (lines _ ⋯))
    have Ca:SetTable.tooFull {t1 with plain:=b}=decide (es1.size*5>=t1.mask*3):=by
     unfold SetTable.tooFull SetTable.fill;rw[y'.EF,y'.size];rfl
    rw[Bool.not_false,Bool.true_and,Ca]
    by_cases c:es1.size*5>=t1.mask*3
    ·rw[if_pos (decide_eq_true c)]
     obtain⟨t2,o2,q1,q2,q3,q4,q5,q6,q7,_⟩:=uo (t1:={t1 with plain:=b}) (es1:=es1) (n:=es.size) (by show fo t1.mask _;rw[em];exact mk) hsz ⋯ c
     have X7:relayAll {t1 with plain:=b} es1 (SetTable.grown es1.size)=(o2.filterMap (es1[·]?),t2,false):=by
      unfold relayAll;rw[hsz,q1];dsimp only;rw[covers (by rw[<- hsz];exact q2),q5.fits];rfl
     rw[X7];dsimp only;refine wpAny_bind (wpAny_pure ?_);obtain⟨IH,Iz⟩:=eO (prog:=prog) (w:=w) FK hex rfl (k1.perm q3) (λe he=>k2 e (q3.mem_iff.mp he)) ((q3.map _).trans k3) q5 (q7.trans (el.trans hl));refine wpAny_bind (wpAny_storeSet_of FK rfl ?_ (lines _ (by rw[q4];omega)))
     exact wpAny_pure ⟨h _ _ ((Heap.SameBut.update s.heap a _).trans (Heap.SameBut.update _ a _)) (Iz (by rw[q4];exact q6)),rfl⟩
    ·rw[if_neg (by simpa using c)]
     exact wpAny_pure ⟨h _ _ (Heap.SameBut.update s.heap a _) (Lr (by show fo t1.mask _;rw[em,hsz]at c;rw[em,hsz];exact mk.ni c ⋯)),rfl⟩
   have go:∀b:Bool,wpAny (model prog w) A (do
     storeSet a es1 {t1 with plain:=b}
     if(!false&&SetTable.tooFull {t1 with plain:=b})=true then do
       (match(relayAll {t1 with plain:=b} es1 (SetTable.grown es1.size)).2.2 with|true=>rule "set.scan.the-table-gave-way" |false=>pure ())
       storeSet a (relayAll {t1 with plain:=b} es1 (SetTable.grown es1.size)).1 (relayAll {t1 with plain:=b} es1 (SetTable.grown es1.size)).2.1
       pure (some true)
      else pure (some true)) (λr s'=>wpAny (model prog w) A (match r with|some added=>pure added|none=>setAddHashedIn a (.int v tk) ((intKind prog w).hash v) 99999) Q E s') E s:=λb =>
    wpAny_mono (tail b) (λr s' z=>by obtain⟨z,rfl⟩:=z;exact wpAny_pure z) λ_ _ z=>z
   split
   ·refine wpAny_bind ?_
    rw[hashByValue_scannable 8 (x:=.int v tk) rfl];refine wpAny_pure ?_;exact go t1.plain
   ·refine wpAny_bind (wpAny_pure ?_)
    exact go t1.plain
 ·rw[if_neg Z6]
  refine wpAny_bind (G2 ho hd x mk EK (λpL=>?_) λN hN hb Qp=>?_)
  ·dsimp only
   refine wpAny_pure ?_;have:=h false s.heap (Heap.SameBut.refl _ _) (by rw[step_dedup,if_pos (an.mpr pL)];exact hS)
   exact this
  ·have XW:¬is.any (·==v)=true:=λq=>by
    obtain⟨e,he,q⟩:=an.mp q;exact Qp e he q
   rw[step_dedup,if_neg XW]at h;dsimp only;refine wpAny_bind (wpAny_setState_of ho hd x.fits ?_);obtain⟨p,t1,es1,m1,m2,y,em,el,hsz,k1,k2,k3⟩:=more N hN hb;rw[m1];dsimp only;rw[<- m2];have fin:∀b:Bool,wpAny (model prog w) A (do
     storeSet a es1 {t1 with plain:=b}
     if(!false&&SetTable.tooFull {t1 with plain:=b})=true then do
       setRelay a (SetTable.grown (es.size+1))
       pure true
      else pure true) Q E s:=λb=>by
    have y':=y.plain b;obtain⟨FK,Lr⟩:=eO (prog:=prog) (w:=w) ho hex hd k1 k2 k3 y' (el.trans hl);refine wpAny_bind (wpAny_storeSet_of ho hd ?_ (lines _ ⋯))
    have Ca:SetTable.tooFull {t1 with plain:=b}=decide (es1.size*5>=t1.mask*3):=by
     unfold SetTable.tooFull SetTable.fill;rw[y'.EF,y'.size];rfl
    rw[Bool.not_false,Bool.true_and,Ca]
    by_cases c:es1.size*5>=t1.mask*3
    ·rw[if_pos (decide_eq_true c)]
     obtain⟨t2,o2,q1,q2,q3,q4,q5,q6,q7,q8⟩:=uo (t1:={t1 with plain:=b}) (es1:=es1) (n:=es.size) (by show fo t1.mask _;rw[em];exact mk) hsz ⋯ c
     refine wpAny_bind ?_;unfold setRelay;refine wpAny_bind (wpAny_setState_of FK rfl y'.fits ?_);dsimp only;rw[if_neg ⋯,q1]
     refine wpAny_bind ?_;show wpAny _ _ (if((o2.filterMap λi=>es1[i]?).size != es1.size)=true then _ else _) _ _ _
     rw[q4,if_neg (by simp)]
     refine wpAny_pure ?_;dsimp only;obtain⟨IH,Iz⟩:=eO (prog:=prog) (w:=w) FK hex rfl (k1.perm q3) (λe he=>k2 e (q3.mem_iff.mp he)) ((q3.map _).trans k3) q5 (q7.trans (el.trans hl));refine wpAny_storeSet_of FK rfl ?_ (lines _ (by rw[q4];omega))
     exact wpAny_pure (h true _ ((Heap.SameBut.update s.heap a _).trans (Heap.SameBut.update _ a _)) (Iz (by rw[q4];exact q6)))
    ·rw[if_neg (by simpa using c)]
     exact wpAny_pure (h true _ (Heap.SameBut.update s.heap a _) (Lr (by show fo t1.mask _;rw[em,hsz]at c;rw[em,hsz];exact mk.ni c ⋯)))
   split
   ·refine wpAny_bind ?_
    rw[hashByValue_scannable 8 (x:=.int v tk) rfl];refine wpAny_pure ?_;exact fin t1.plain
   ·exact wpAny_bind (wpAny_pure (fin t1.plain))
end
end Vs
namespace Vs
open PySem PySem.Calls PyProof.Rows PyProof.V PySem.Spec Vc
section
variable {prog:Program}{w:World}{A:Around}{R:Result->Shared->Prop}{I:Addr}{fp wr:List Addr}{G:Array GenState->Array GenState->Prop}{n:Nat}{P:Nat->Value->Prop}{St:Nat->Shared->Prop}
theorem kA.at{h h':Heap}{a:Addr}{is:List Int}(hS:kA prog w h a is)(k:∀o,h.get? a=some o->h'.get? a=some o):kA prog w h' a is:=by
 obtain⟨o,es,ep,t,ho,r⟩:=hS;exact⟨o,es,ep,t,k o ho,r⟩
theorem T7(W:WalksS prog w A.in1 I fp wr G n P St)(S:Addr)(SN:S∉fp)(val:Nat->Int)(LW:∀i v,P i v->∃t,v=.int (val i) t/\t≠0)(hb:n+1<=12000):
  ∀(k i:Nat) (s:Shared),n-i=k->i<=n->St i s->kA prog w s.heap S (firstMet val i) ->
   (∀s',Moved (S::wr) G s s'->kA prog w s'.heap S (firstMet val n)->R (.ok (.ret .none)) s') ->
   codeAny (model prog w) A (.builtin "set.update.loop" ⟨[.ref S,.ref I],[]⟩) R s:=by
 have ZC:S∉wr:=λh=>SN (W.sub _ h);have Ck:∀b∈wr,b∈S::wr:=λb hb=>List.mem_cons_of_mem _ hb;intro k
 induction k with
 | zero =>
  intro i s hk hi sY hS hR;obtain rfl:i=n:=by omega
  refine codeAny_builtin F.entry_set_update_loop ?_;rw[Around.under_plainId F.plain_set_update_loop _];show wpAny _ A.in1 (pyNext (.ref I) >>= _) _ _ s;refine wpAny_bind (W.done s _ _ sY λs' hm=>?_);show wpAny _ A.in1 (ret Value.none) _ _ s';exact wpAny_pure (hR s' (hm.mono Ck) (hS.at λo e=>hm.heap S _ ZC e))
 | succ k ih =>
  intro i s hk hi sY hS hR;have fy:i<n:=by omega
  refine codeAny_builtin F.entry_set_update_loop ?_;rw[Around.under_plainId F.plain_set_update_loop _];show wpAny _ A.in1 (pyNext (.ref I) >>= _) _ _ s;refine wpAny_bind (W.item i s _ _ fy sY λv s' hP Ya hm=>?_);obtain⟨t,rfl,ht⟩:=LW i v hP;have rH:=hS.at (h':=s'.heap) λo e=>hm.heap S _ ZC e;show wpAny _ A.in1 (holding [Value.int (val i) t] (setAdd S (.int (val i) t)) >>= _) _ _ s';refine wpAny_bind (wpAny_holding ?_);unfold setAdd;refine wpAny_holding (wpAny_bind ((intKind prog w).pyHash (k:=val i) (intKind_is _ _ _ _) ?_));refine QW (s:={s' with toks:=s'.toks+1}) rH (by have:=firstMet_length_le val i;omega) ht λb h' Z5 Iz=>?_
  rw[<- firstMet_succ]at Iz;refine wpAny_pure ⟨plainId_quiet F.plain_set_update_loop _,ih (i+1) _ ⋯ fy (W.frame _ s' _ _ Ya (Nat.le_succ _) λb hb o e=>?_) Iz λOy XR Xu=>?_⟩
  ·rw[Z5.2 b (λh:b=S=>SN (by rw[<- h];exact hb))];exact e
  ·refine hR Oy (Moved.trans W.gtrans ((hm.mono Ck).then_heap (Nat.le_succ _) λb o hb e=>?_) XR) Xu
   rw[Z5.2 b (λh:b=S=>hb (by rw[h];exact List.mem_cons_self))];exact e
end
section
variable {prog:Program}{w:World}{A:Around}{E:Value->Shared->Prop}{s:Shared}
theorem Gg{h:Heap}{a:Addr}(e:h.get? a=some (qa w)):kA prog w h a []:=
 ⟨_,#[],0,_,e,⟨rfl,rfl,rfl⟩,rfl,(λe he=>by cases he),(λe he=>by cases he),.nil,⟨λi j hi _ _=>absurd hi (Nat.not_lt_zero _),rfl,rfl,Nat.zero_le _,(λi j e=>by cases e),Iv,λi j e=>by cases e⟩,.inl ⟨rfl,Nat.zero_le _⟩,rfl⟩
set_option maxHeartbeats 3200000 in
theorem yv{l:Addr}{items:Array Value}{ns:List Int}{Q:Value->Shared->Prop}(hh:A.handled=none)(hl:s.heap.IsList l items)(hi:∀(i:Nat) (v:Value),items[i]?=some v->∃t,v=.int (ns.getD i 0) t/\t≠0)(hb:items.size+1<=12000)
  (h:∀(h':Heap) (tk:Nat),s.heap.objs.size<h'.objs.size->kA prog w h' s.heap.objs.size (firstMet (λi=>ns.getD i 0) items.size)->(∀b o,b<s.heap.objs.size->s.heap.get? b=some o->h'.get? b=some o)->Q (.ref s.heap.objs.size) {s with heap:=h',toks:=tk}):
  wpAny (model prog w) A (call (.type "set") [.ref l]) Q E s:=by
 obtain⟨c,tl,aah⟩:=F.called_set.mro;have ZW:=F.called_set.made;have Ck:=F.called_set.sub;refine wpAny_call (codeAny_of_tree ?_);show wpAny _ _ (callAny (.type "set") _) _ _ _;refine wpAny_pure ⟨Code.quiet_builtin _ (by decide +kernel),codeAny_builtin F.entry_type_call ?_⟩
 rw[Around.under_plain (weight_type_call_type "set" [.ref l] []) rfl];have h1:=F.called_set.notType;have h2:=F.called_set.canCreate;have hct:=F.typeCall_set_1 (.ref l)
 repeat (any_goals (first|assumption|wp_step))
 refine codeAny_mono (yw (.ref l) (E:=E) (Q₁:=λobj bI=>obj=.ref s.heap.objs.size/\bI={s with heap:=s.heap.push (qa w)}) ⟨rfl,rfl⟩) λr bI hr=>?_
 cases r with
 | error e=>exact hr
 | ok fl =>
  cases fl with
  | ret obj =>
   obtain⟨rfl,rfl⟩:=hr;have hS:(s.heap.push (qa w)).get? s.heap.objs.size=some (qa w):=Heap.get?_push_size _ rfl;have hT:Shared.TypeIs {s with heap:=s.heap.push (qa w)} (.ref s.heap.objs.size) "set":=⟨_,hS,rfl⟩
   have hli:=F.called_set.init.lookup;have hbi:=F.called_set.init.bind (.ref s.heap.objs.size)
   repeat (any_goals (first|assumption|wp_step))
   refine codeAny_mono (codeAny_call_builtin (R:=wants (λr uE=>r=.none/\∃h' tk,uE={s with heap:=h',toks:=tk}/\s.heap.objs.size<h'.objs.size /\
     kA prog w h' s.heap.objs.size (firstMet (λi=>ns.getD i 0) items.size)/\(∀b o,b<s.heap.objs.size->s.heap.get? b=some o->h'.get? b=some o)) E) F.called_set.init.plain F.entry_set_init (check_set_init_1 hT ?_)) λYV uE Ci=>?_
   ·obtain⟨ol,ZY,zR,nl,ZH⟩:=hl
    obtain⟨aaq,UG,aac,Nt⟩:=ol;simp only at zR ZH;subst zR;subst ZH;have X0:(s.heap.push (qa w)).get? l=some {cls:=.type "list",dict:=UG,data:=.seq items nl,slots:=Nt}:=Heap.get?_push_of_some _ ZY;have aaj:=F.sub_list_set;have aai:=F.sub_list_frozenset;have cm:(Value.type "list"==Value.type "dict")=false:=by decide
    have ZT:(s.heap.push (qa w)).IsList l items:=⟨_,X0,rfl,nl,rfl⟩;unfold Builtin.«set.__init__» noKeywords Builtin.Frozenset.updateFrom;generalize hPI:pyIter=PI
    wp_walk
    subst hPI;refine wpAny_pyIter_list ZT (wpAny_bind (wpAny_runValue ?_));have ZU:l<s.heap.objs.size:=Heap.lt_size ZY;have hh3:A.in1.in1.in1.handled=none:=by simp [hh]
    have hz:(s.heap.push (qa w)).objs.size=s.heap.objs.size+1:=Heap.size_push ..;have LW:∀(i:Nat) (v:Value),items[i]?=some v->∃t,v=.int ((λi=>ns.getD i 0) i) t/\t≠0:=hi;refine T7 ((Walks.list hh3 _ l (by rw[hz];exact Nat.ne_of_lt (Nat.lt_succ_of_lt ZU)) items).toS) s.heap.objs.size (by rw[hz];simp only[List.mem_cons,List.mem_singleton,List.not_mem_nil,or_false,not_or];exact⟨Nat.ne_of_lt (Nat.lt_succ_self _),Nat.ne_of_gt ZU⟩) (λi=>ns.getD i 0) LW hb (items.size-0) 0 _ ⋯ (Nat.zero_le _)
     ⟨⟨_,Heap.get?_push_size _ rfl,rfl,rfl⟩,(ZT.push _)⟩ (Gg (Heap.get?_push_of_some _ hS)) λs' hm rH=>?_
    obtain⟨h',g',d',tk',YG⟩:=s';have eg:g'=s.gens:=hm.gens;have ed:d'=s.drawn:=hm.drawn;have eo:YG=s.os:=hm.os;subst eg;subst ed;subst eo;show wpAny _ _ _ _ _ _;refine wpAny_pure ?_;show wpAny _ _ (ret Value.none) _ _ _;refine wpAny_pure ⟨rfl,h',tk',rfl,(by obtain⟨o,_,_,_,e,_⟩:=rH;exact Heap.lt_size e),rH,λb o hb e=>?_⟩
    exact hm.heap b o (by rw[hz];simp only[List.mem_cons,List.mem_singleton,List.not_mem_nil,or_false,not_or];exact⟨Nat.ne_of_lt hb,Nat.ne_of_lt (Nat.lt_succ_of_lt hb)⟩) (Heap.get?_push_of_some _ (Heap.get?_push_of_some _ e))
   ·cases YV with
    | error e=>exact Ci
    | ok Sy =>
     cases Sy with
     | ret r =>
      obtain⟨rfl,h',tk,rfl,EZ,rH,pM⟩:=Ci
      repeat (any_goals (first|assumption|wp_step))
      exact h _ _ EZ rH pM
     | _=>exact Ci.elim
  | _=>exact hr.elim
end
end Vs
namespace Vs
open PySem PySem.Calls PyProof.Rows PyProof.V PySem.Spec Vc PySem.W
section
variable {prog:Program}{w:World}{A:Around}{E:Value->Shared->Prop}{s:Shared}{a:Addr}
theorem VF{is:List Int}{Q:Value->Shared->Prop}(hh:A.handled=none)(m:kA prog w s.heap a is)
  (h:∀(vs:List Value) (h1 g:Heap) (c t:Nat) d,(∀v∈vs,∃i t,v=Value.int i t)->(vs.map d1).Perm is->(vs.map d1).Pairwise (λx y=>x<=y)->(∀b o,s.heap.get? b=some o->h1.get? b=some o)->(∀b o,h1.get? b=some o->g.get? b=some o)->g.get? h1.objs.size=some (seqObj "list" vs.toArray c)->Q (.ref h1.objs.size) {s with heap:=g,toks:=t,drawn:=d}):
  wpAny (model prog w) A (call (.builtin "sorted") [.ref a]) Q E s:=by
 obtain⟨o,es,ep,t,ho,hex,hd,h1,SK,h3,xk,mk,hl⟩:=m;have h2:∀e∈es.toList,∃i t,e.2=Value.int i t:=λe he=>by
  obtain⟨i,t,e1,_⟩:=SK e he;exact⟨i,t,e1⟩
 have hf:=xk.fits;have hr:=xk.rise;have Wk:es.size<=sizeLine:=by
  have:(12000:Nat)<=sizeLine:=by decide
  unfold fo at mk;omega
 refine Calls.call_function_entry kind_sorted plain_sorted entry_sorted (args_sorted1 _) ?_;unfold Builtin.«sorted»;refine wpAny_bind (m:=checkCount "sorted" 1 1 _) (wpAny_pure (wpAny_bind (AO (A:=A.in1) hh ⟨o,ho,hex,hd,hf⟩ Wk hr hl λvG tk d its k1 hp=>?_)));have dI:∀v∈its,∃i t,v=Value.int i t:=λv hv=>by
  obtain⟨e,he,rfl⟩:=List.mem_map.mp (hp.mem_iff.mp hv);exact h2 e he
 have Wf:(its.map d1).Perm is:=by
  refine(hp.map d1).trans ?_;rw[List.map_map];exact h3
 have hln:its.length=es.size:=by rw[hp.length_eq,List.length_map,Array.length_toList]
 have hz:its.length<=sizeLine:=by rw[hln];exact Wk
 have mem:∀x:Keyed,x∈(pairsOf its).toList->x.1∈its/\x.1=x.2:=λx hx=>by
  rw[pairsOf_toList,de]at hx;obtain⟨v,hv,rfl⟩:=List.mem_map.mp hx;exact⟨hv,rfl⟩
 refine wpAny_bind (wpAny_newList ?_ hz);have LN:(vG.push (seqObj "list" its.toArray 0)).get? vG.objs.size=some (seqObj "list" its.toArray 0):=Heap.get?_push_size _ rfl;have keep:∀b o,vG.get? b=some o->(vG.push (seqObj "list" its.toArray 0)).get? b=some o:=λb o e=>Heap.get?_push_of_some _ e;have ne:∀b o,vG.get? b=some o->b≠vG.objs.size:=λb o e=>Nat.ne_of_lt (Heap.lt_size e);show wpAny _ _ _ _ _ {s with heap:=vG.push (seqObj "list" its.toArray 0),toks:=tk,drawn:=d}
 refine wpAny_bind (wpAny_holding (wpAny_call_entry slot_list_sort ⟨_,LN,rfl⟩ entry_list_sort (gp (s:={s with heap:=vG.push (seqObj "list" its.toArray 0),toks:=tk,drawn:=d}) (kd:=oneType') (ρ:=rk (λx=>[d1 x.1]) (pairsOf its).toList) (P:=λx=>x∈(pairsOf its).toList) LN hz (λ_ h=>h) (λSK g kg=>⟨λQ hQ=>?_,?_⟩) λxs g c a1 a2 a3 a4=>⟨_,rfl,?_⟩) (args_list_sort _)))
 ·exact tB (s:={s with heap:=g,toks:=tk,drawn:=d}) SK (ik dI) hQ
 ·exact xr (s:={s with heap:=g,toks:=tk,drawn:=d}) λx hx=>dI x.1 (mem x hx).1
 ·refine wpAny_pure ⟨_,rfl,?_⟩
  have d2:xs.toList.Perm (pairsOf its).toList:=Array.perm_iff_toList_perm.mp a1;have e9:∀x∈xs.toList,x.1∈its/\x.1=x.2:=λx hx=>mem x (d2.mem_iff.mp hx);refine h (xs.toList.map (·.2)) vG g c tk d ?_ ?_ ?_ k1 (λb o e=>a3 b o (ne b o e) (keep b o e)) (by rw[show(xs.toList.map (·.2)).toArray=xs.map (·.2)from by rw[<- Array.toList_map,Array.toArray_toList]];exact a4)
  ·intro v hv
   obtain⟨x,hx,rfl⟩:=List.mem_map.mp hv;have:=e9 x hx;exact dI _ (this.2 ▸ this.1)
  ·refine List.Perm.trans ?_ Wf
   rw[List.map_map];refine(d2.map (d1 ∘ λx=>x.2)).trans ?_;rw[pairsOf_toList,de,List.map_map];exact List.Perm.refl _
  ·rw[List.map_map,List.pairwise_map]
   refine List.pairwise_iff_getElem.mpr λi j hi hj jy=>?_;have kh:i<xs.size:=by simpa using hi
   have yJ:j<xs.size:=by simpa using hj
   have hsz:xs.size=its.length:=by have:=a1.size_eq;rw[pairsOf_size]at this;exact this
   have h1:=a2 i j (Nat.zero_le _) (Nat.le_of_lt jy) ⋯
   rw[cF (Array.getElem?_eq_getElem kh),cF (Array.getElem?_eq_getElem yJ)]at h1;show d1 xs[i].2<=d1 xs[j].2;have m1:=e9 xs[i] (by simp)
   have m2:=e9 xs[j] (by simp)
   have:=ux (d:=λx=>[d1 x.1]) (l:=(pairsOf its).toList) (x:=xs[j]) (y:=xs[i]) (d2.mem_iff.mp (by simp))
   rw[decide_eq_false ⋯]at this
   rw[<- m1.2,<- m2.2];have e:(if d1 xs[j].1=d1 xs[i].1 then HT.lexLt [] []else decide (d1 xs[j].1<d1 xs[i].1))=false:=this.symm
   by_cases z:d1 xs[j].1=d1 xs[i].1
   ·omega
   ·rw[if_neg z]at e
    have:=of_decide_eq_false e;omega
end
end Vs
namespace Vc
open PySem L2
variable [KF]
theorem yN{X:Cx}{pins:List (Addr×Obj)}{σ:St}{H:Hp}{s:Shared}{d:Drawn}(I:Inv X pins σ H s):Inv X pins σ H {s with drawn:=d}:=
 ⟨I.ok,I.os,I.bare,I.base,I.loc,I.cell,I.free,I.eV,I.pin,I.bP,I.len,I.tk⟩
def kq(is:List Int):List Int:=PyProof.Rows.firstMet (λi=>is.getD i 0) is.length
theorem Hf(is:List Int):(kq is).length<=is.length:=PyProof.Rows.firstMet_length_le _ _
def Dt:List V->Hp->VK->Prop:=λxs H Q=>∃p is,xs=[.ref p]/\Rd H p (.lst (is.map V.tk))/\is.length<12000 /\
 ∀ms:List Int,ms.Perm (kq is)->ms.Pairwise (λx y=>x<=y)->∀l,H l=none->Q (.ref l) (upd H l (.lst (ms.map V.int)))
theorem tZ{X:Cx}{e:Expr}{t:TA}{p p2 pos jJ:Pos}(hc:X.calm=true)(hg:Gl X "sorted")(hm:X.mg "sorted"=none)(hv:bootBuiltins "sorted"=some (.builtin "sorted"))(EL:Gl X "set")(e9:X.mg "set"=none)(Tg:bootBuiltins "set"=some (.type "set"))(ha:PA X [e] t)
  (hs:starEach [e] X.env=[(false,eval e X.env)]) (sX:starEach [Expr.Call (.Name "set" p2) [e] [] jJ] X.env=[(false,eval (Expr.Call (.Name "set" p2) [e] [] jJ) X.env)]):
  PE X (.Call (.Name "sorted" p) [.Call (.Name "set" p2) [e] [] jJ] [] pos) (WB Dt t):=by
 intro pins s σ H Q I h;refine wpAny_Call_Name_kw (dJ I hg hm hv ?_ ∅ ∅)
 refine PyProof.Rows.callWith_builtin1 ?_ sX (by rfl)
 rw[sX];show wpAny _ _ (spliced ((false,eval (Expr.Call (.Name "set" p2) [e] [] jJ) X.env)::backTo pos [])) _ _ s;refine Calls.spliced_cons ?_;refine wpAny_Call_Name_kw (dJ I EL e9 Tg ?_ ∅ ∅)
 refine PyProof.Rows.callWith_type1 (cj (ha jJ pins s σ H _ I h) λus s1 ⟨vs,H1,I1,r1,q1⟩=>?_) hs (by rfl)
 obtain⟨p,is,rfl,hp,hb,q⟩:=q1;obtain⟨u,rfl,rx⟩:=vals1 r1;cases rx;obtain⟨z,its,n,r',hl,e⟩:=Inv.Wt I1 hp;have hlen:its.length=is.length:=by rw[<- hl,List.length_map]
 have hits:∀(i:Nat) (v:Value),its.toArray[i]?=some v->∃t,v=.int (is.getD i 0) t/\t≠0:=λi v hv=>by
  have hv:its[i]?=some v:=by simpa using hv
  obtain⟨hi,_⟩:=List.getElem?_eq_some_iff.mp hv;have kh:i<is.length:=by omega
  obtain⟨u,e1,e2⟩:=r'.get (i:=i) (x:=.tk is[i]) (by rw[List.getElem?_map,List.getElem?_eq_getElem kh];rfl)
  rw[hv]at e1;cases e1;obtain⟨t,e3,e4⟩:=e2;exact⟨t,by rw[e3,List.getD_eq_getElem?_getD,List.getElem?_eq_getElem kh];rfl,e4⟩
 refine wpAny_with_toks (Nat.le_refl s1.toks) (Vs.yv (items:=its.toArray) (ns:=is) (I1.ok.hd hc) ⟨_,e,rfl,_,rfl⟩ hits (by rw[List.size_toArray,hlen];omega) λh' tk hz hS hk h8=>?_)
 have h8:s1.toks<=tk:=h8;have Wk:its.toArray.size=is.length:=by rw[List.size_toArray,hlen]
 rw[Wk]at hS;show wpAny _ _ (spliced []) _ _ _;refine wpAny_pure ?_;refine wpAny_with_toks (n:=s1.toks) h8 (Vs.VF (s:={s1 with heap:=h',toks:=tk}) (I1.ok.hd hc) hS λvs h1 g c t d dI Z0 hpw k1 kg hgl Yb=>?_)
 have Yb:s1.toks<=t:=Yb;have I2:=(I1.kept (h':=h1) (t':=s1.toks) λb o eb=>k1 b o (hk b o (Heap.lt_size eb) eb));have fr:H1 h1.objs.size=none:=I2.fresh;refine⟨.ref h1.objs.size,_,yN (d:=d) (I2.laid (h':=g) (t':=t) (o:=.lst ((vs.map Vs.d1).map V.int)) kg (Nat.le_refl _) ⟨?_,vs,c,dC dI,hgl⟩),rfl,q _ Z0 hpw _ fr⟩;rw[List.length_map,Z0.length_eq];have:=PyProof.Rows.firstMet_length_le (λi=>is.getD i 0) is.length;have e16:sizeLine=16777216:=rfl;omega
end Vc
namespace Vc
open PySem L2
variable [KF]
variable {G:GE}{k:Nat}{S:Stat}
theorem GB{X:Cx}{i:Int}{j:Nat}{pos:Pos}:PE X (.Constant (.int i) j pos) (tC (.tk i)):=λ_ _ _ H _ I h=>wpAny_Constant_int ⟨.tk i,H,I.tok _,⟨_,rfl,Nat.ne_of_gt I.tk⟩,h⟩
theorem Dx{i:Int}{j:Nat}{pos:Pos}:EO G k S (.Constant (.int i) j pos) (bj (.tk i)):=.mk λ_ _ _=>aP GB (jD λ_=>.tk i)
theorem bU.tk{F H:Hp}{v:V}{i:Int}(r:bU F H v (.tk i)):v=.tk i:=by cases(show Rep F v (.tk i)from r);rfl
def addW:D->D->(EV->Prop)->Prop
 | .tk i,.int j,Q=>Q (.val (.tk (i+j)))
 | _,_,_=>False
theorem Gp{X:Cx}:f9 X (binaryOp .Add) (λx y H Q=>∃i j,x=.tk i/\y=.int j/\Q (.tk (i+j)) H):=by
 intro pins s σ H x y v u Q I rx ry h;obtain⟨i,j,rfl,rfl,q⟩:=h;obtain⟨t,rfl,_⟩:=rx;obtain⟨t',rfl⟩:=ry;exact PyProof.Rows.add_int ⟨.tk (i+j),H,I.tok _,⟨_,rfl,Nat.ne_of_gt I.tk⟩,q⟩
theorem vn(K:PySem.W.Frag):eI (λx y H Q=>∃i j,x=.tk i/\y=.int j/\Q (.tk (i+j)) H) addW:=by
 intro Y F H ak σ v u x y Qd Q R rx ry q gg;unfold addW at q
 split at q
 ·obtain rfl:=rx.tk;obtain rfl:=ry.int
  exact⟨_,_,rfl,rfl,gg.val R (.tk _) q⟩
 ·exact q.elim
theorem Oj{a b:Expr}{ta tb:TV}{pos:Pos}(ha:EO G k S a ta)(hb:EO G k S b tb):EX G k S (.BinOp a .Add b pos) (aW addW ta tb):=mq (r:=λ_=>_) (λ_=>Gp) vn ha hb
def Wo:D->D->(Bool->Prop)->Prop
 | .tk i,.int j,Q=>Q (decide (i<=j))
 | _,_,_=>False
theorem Rj:kT G k S .LtE Wo:=⟨λx y H Q=>∃i j,x=.tk i/\y=.int j/\Q (.bl (decide (i<=j))) H,λX Y ok=>by
  intro pins s σ H x y v u Q I rx ry h;obtain⟨i,j,rfl,rfl,q⟩:=h;obtain⟨t,rfl,_⟩:=rx;exact IZ pins s σ H (.int i) (.int j) _ u Q I ⟨t,rfl⟩ ry ⟨i,j,rfl,rfl,q⟩,λY F H ak σ v u x y Qd Q R rx ry q K=>by
  unfold Wo at q
  split at q
  ·obtain rfl:=rx.tk;obtain rfl:=ry.int
   exact⟨_,_,rfl,rfl,K _ q⟩
  ·exact q.elim⟩
def Jo:D->Bool
 | .tup (.tk _::xs)=>xs.all isInt
 | _=>false
def Ek:D->D
 | .tup (.tk i::xs)=>.tup (.int i::xs)
 | d=>d
def Hh:D->D
 | .tup (.int i::xs)=>.tup (.tk i::xs)
 | d=>d
theorem wo{d:D}(h:Jo d=true):∃i xs,d=.tup (.tk i::xs)/\xs.all isInt=true:=by
 unfold Jo at h
 split at h
 ·exact⟨_,_,rfl,h⟩
 ·cases h
theorem rB{d:D}(h:Jo d=true):ie (Ek d)=true/\Hh (Ek d)=d:=by
 obtain⟨i,xs,rfl,h2⟩:=wo h;refine⟨?_,rfl⟩;show((D.int i::xs).all isInt&&!(D.int i::xs).isEmpty)=true;rw[List.all_cons,h2];rfl
theorem lq{F:Hp}{v:V}{d:D}(r:Rep F v d)(h:Jo d=true):nM F v=d3 (Ek d)/\∃a zs,v=.ref a/\F a=some (.tup zs)/\zs.map V.wk=(d3 (Ek d)).map V.int:=by
 obtain⟨i,xs,rfl,h2⟩:=wo h;cases r with
 | tup hf rl =>
  cases rl with
  | cons r0 rl =>
   cases r0;have e:=rl.ints h2;subst e;refine⟨?_,_,_,rfl,hf,?_⟩
   ·unfold nM
    dsimp only;rw[hf];show i::_=i::_;congr 1;rw[List.map_map];exact(List.map_congr_left (λx _=>rfl)).trans (List.map_id _)
   ·show V.int i::_=V.int i::_
    rw[List.map_map];rfl
theorem oA{F:Hp}:∀ {vs:List V} {xs:List D},aE F vs xs->xs.all Jo=true->xs.map Ek=vs.map λv=>.tup ((nM F v).map D.int)
 | _,_,.nil,_=>rfl
 | _,_,.cons r t,h=>by
  rw[List.all_cons,Bool.and_eq_true]at h;rw[List.map_cons,List.map_cons,<- oA t h.2,(lq r h.1).1,<- fN (rB h.1).1]
def i6:List D->(EV->Prop)->Prop
 | [.lst xs],Q=>xs.all Jo=true/\Q (.own ((cD (xs.map Ek)).map Hh))
 | _,_=>False
theorem yB:yj G k S (.builtin "sorted") i6:=⟨λK xs H Q=>∃(p:Addr) (us:List V) (dd:V->List Int),xs=[.ref p]/\dY K H p us/\(∀u∈us,(∃a zs,u=.ref a/\gS K H a zs/\zs.map V.wk=(dd u).map V.int)/\dd u≠[]) /\
  ∀(kS:List V),kS.Perm us->kS.Pairwise (λx y=>HT.lexLt (dd y) (dd x)=false)->∀l,H l=none->Q (.ref l) (upd H l (.lst kS)),λ_ _ ok=>j4,λY F H ak σ vs ds Qd Q R r q g=>by
 unfold i6 at q
 split at q
 ·rename_i xs
  obtain⟨v,rfl,rv⟩:=r.one;obtain⟨p,us,rfl,h1,h2⟩:=rv.lst;have all:=List.all_eq_true.mp q.1;refine⟨p,us,nM F,rfl,.inl h1,λu hu=>?_,λkS hp hs=>?_⟩
  ·obtain⟨d,hd,rd⟩:=h2.mem u hu
   obtain⟨e1,a,zs,rfl,e2,e3⟩:=lq rd (all d hd);refine⟨⟨a,zs,rfl,.of (R.fr _ _ e2),by rw[e1];exact e3⟩,?_⟩
   rw[e1];obtain⟨i,ys,rfl,_⟩:=wo (all d hd);exactλz=>by cases z
  ·have ex:=oA h2 q.1
   have rep:∀v∈kS,Rep F v (Hh (.tup ((nM F v).map D.int))):=λv hv=>by
    obtain⟨d,hd,rd⟩:=h2.mem v (hp.mem_iff.mp hv);rw[(lq rd (all d hd)).1,<- fN (rB (all d hd)).1,(rB (all d hd)).2];exact rd
   have key:∀v,d3 (.tup ((nM F v).map D.int))=nM F v:=λv=>by
    show((nM F v).map D.int).map ig=_;rw[List.map_map];exact(List.map_congr_left (λx _=>rfl)).trans (List.map_id _)
   have dI:(xs.map Ek).all ie=true:=List.all_eq_true.mpr λd hd=>by
    obtain⟨e,he,rfl⟩:=List.mem_map.mp hd;exact(rB (all e he)).1
   have e:kS.map (λv=>D.tup ((nM F v).map D.int))=cD (xs.map Ek):=by
    refine mD dI (by rw[ex];exact hp.map _) ?_
    rw[List.pairwise_map];refine hs.imp λ{x y} h=>?_;unfold xn;rw[key,key,h];rfl
   have rl:=qt rep;rw[show kS.map (λv=>Hh (.tup ((nM F v).map D.int)))=(cD (xs.map Ek)).map Hh from by rw[<- e,List.map_map];rfl]at rl
   exact g.own R rl q.2
 ·exact q.elim⟩
def L5:D->Bool
 | .tk _=>true
 | _=>false
def WC:D->Int
 | .tk i=>i
 | _=>0
theorem aE.tks{F:Hp}:∀ {vs:List V} {ds:List D},aE F vs ds->ds.all L5=true->vs=(ds.map WC).map V.tk
 | _,_,.nil,_=>rfl
 | _,_,.cons r t,h=>by
  rw[List.all_cons,Bool.and_eq_true]at h;rw[List.map_cons,List.map_cons,<- aE.tks t h.2];cases r with
  | tk i=>rfl
  | _=>exact absurd h.1 (by simp [L5])
def mE:List D->(EV->Prop)->Prop
 | [.lst ds],Q=>(ds.all L5=true/\ds.length<12000)/\Q (.own ((iY (kq (ds.map WC))).map D.int))
 | _,_=>False
theorem uD:jm Dt mE:=λY F H ak σ vs ds Qd Q R r q g=>by
 unfold mE at q
 split at q
 ·rename_i ds
  obtain⟨⟨e2,hl⟩,q⟩:=q;obtain⟨v,rfl,rv⟩:=r.one;obtain⟨a,us,rfl,h1,h2⟩:=rv.lst;obtain rfl:=h2.tks e2;refine⟨a,ds.map WC,rfl,h1,by rw[List.length_map];exact hl,λms hp hs l hl=>?_⟩
  rw[<- mF hp hs]at q;exact g.own R (jM ms) q l hl
 ·exact q.elim
theorem v7{a:Expr}{t:oU}{p p2 pos jJ:Pos}(h:zO G k S [a] t)(hm:G.mg "sorted"=none)(e9:G.mg "set"=none)(hg:S.sc.lookup ("sorted":Str)=some .globalImplicit:=by rfl)(EL:S.sc.lookup ("set":Str)=some .globalImplicit:=by rfl)
  (hs:∀env,starEach [a] env=[(false,eval a env)]:=by intro _;rfl) (sX:∀env,starEach [Expr.Call (.Name "set" p2) [a] [] jJ] env=[(false,eval (Expr.Call (.Name "set" p2) [a] [] jJ) env)]:=by intro _;rfl) (hh:S.kE=false:=by rfl):
  EX G k S (.Call (.Name "sorted" p) [.Call (.Name "set" p2) [a] [] jJ] [] pos) (dQ mE t):=.mk λX Y ok =>
 aP (tZ (ok.calm hh) (cz ok hg) (by rw[ok.mg];exact hm) (by decide +kernel) (cz ok EL) (by rw[ok.mg];exact e9) (by decide +kernel) (h X Y ok) (hs _) (sX _)) λσ H Q q=>jT uD q
end Vc
namespace Vc
open PySem L2
variable [KF]
variable {G:GE}{k:Nat}{S:Stat}
theorem ln0{α:Type}{P:List α->Prop}(h:P [])(us:List α)(e:us.length=0):P us:=List.eq_nil_of_length_eq_zero e ▸ h
theorem Qv{α:Type}{n:Nat}{P:List α->Prop}(h:∀(a:α) (r:List α),r.length=n->P (a::r)):∀us:List α,us.length=n+1->P us:=λus e=>by
 cases us with
 | nil=>cases e
 | cons a r=>exact h a r (Nat.succ.inj e)
@[elab_as_elim] theorem IQ{α:Type} {P:List α->Prop} (h:∀a,P [a]) (us:List α) (e:us.length=1):P us:=Qv (λa=>ln0 (P:=λr=>P (a::r)) (h a)) us e
@[elab_as_elim] theorem ln2{α:Type} {P:List α->Prop} (h:∀a b,P [a,b]) (us:List α) (e:us.length=2):P us:=Qv (λa=>IQ (P:=λr=>P (a::r)) (h a)) us e
@[elab_as_elim] theorem IU{α:Type} {P:List α->Prop} (h:∀a b c,P [a,b,c]) (us:List α) (e:us.length=3):P us:=Qv (λa=>ln2 (P:=λr=>P (a::r)) (h a)) us e
@[elab_as_elim] theorem ln4{α:Type} {P:List α->Prop} (h:∀a b c d,P [a,b,c,d]) (us:List α) (e:us.length=4):P us:=Qv (λa=>IU (P:=λr=>P (a::r)) (h a)) us e
@[elab_as_elim] theorem ln5{α:Type} {P:List α->Prop} (h:∀a b c d e,P [a,b,c,d,e]) (us:List α) (e:us.length=5):P us:=Qv (λa=>ln4 (P:=λr=>P (a::r)) (h a)) us e
@[elab_as_elim] theorem ln6{α:Type} {P:List α->Prop} (h:∀a b c d e f,P [a,b,c,d,e,f]) (us:List α) (e:us.length=6):P us:=Qv (λa=>ln5 (P:=λr=>P (a::r)) (h a)) us e
theorem Fl(p:Addr)(kvs:List (Int×D)):(Ba p kvs).view=some (.mZ kvs):=rfl
def Hb(c:TB)(tb:cA):cA:=λDe σ=>∃W:Nat->Sd->Prop,(∃m,W m σ)/\∀m σ,W m σ ->
 c σ λb aw=>if b=true then∃N:Sd->Prop,(∀bB,N bB->∃m',m'<m/\W m' bB)/\tb {De with nx:=N,ct:=N,bk:=De.nx} aw else De.nx aw
theorem xJ{c:Expr}{body:List Stmt}{tc:TB}{tb:cA}{pos:Pos}(hc:EB G k S c tc)(hb:eG G k S body tb)(hh:S.kE=false:=by rfl):ES G k S (.While c body [] pos) (Hb tc tb):=.mk λX Y ok =>
 cX (Dm (ok.po hh) (hc X Y ok) (hb X Y ok)) λDn σ H q=>by
  obtain⟨F,ak,De,R,⟨W,⟨m0,w0⟩,turn⟩,K⟩:=q;refine⟨λm bB H'=>∃F' aG,ao F F'/\RS Y F' aG bB H'/\W m aG,⟨m0,F,ak,ao.refl _,R,w0⟩,?_⟩;rintro m bB H' ⟨F',aG,s',R',w'⟩;refine⟨F',aG,_,R',turn m aG w',λb H1 F1 aw s1 R1 q1=>?_⟩;cases b with
  | true =>
   obtain⟨N,hN,q1⟩:=q1;refine⟨λbq H2=>∃F2 cB,ao F F2/\RS Y F2 cB bq H2/\N cB,λbq H2 ⟨F2,cB,s2,R2,n2⟩=>?_,F1,aw,_,R1,q1,?_⟩
   ·obtain⟨m',hm,w2⟩:=hN cB n2
    exact⟨m',hm,F2,cB,s2,R2,w2⟩
   ·have Wv:=s'.trans s1
    exact⟨λkH H4 F4 cO s4 R4 q4=>⟨F4,cO,Wv.trans s4,R4,q4⟩,λv4 kH H4 F4 cO b s4 R4 r4 q4=>K.rt v4 kH H4 F4 cO b (Wv.trans s4) R4 r4 q4,λkH H4 F4 cO s4 R4 q4=>K.nx kH H4 F4 cO (Wv.trans s4) R4 q4,λkH H4 F4 cO s4 R4 q4=>⟨F4,cO,Wv.trans s4,R4,q4⟩⟩
  | false=>exact K.nx bB H1 F1 aw (s'.trans s1) R1 q1
end Vc
set_option maxHeartbeats 0
namespace WR
open PySem L2 Vc
section
def top(i:Nat):Stmt:=PySem.Challenge.pw_closepoints_k28_bounds_for_parts.main.body.getD i (.Pass ⟨0,0,0,0⟩)
variable [KF]
structure Gl(G:GE):Prop where
 z_abs:G.mg "abs"=none
 z_bool:G.mg "bool"=none
 z_enumerate:G.mg "enumerate"=none
 z_int:G.mg "int"=none
 z_isinstance:G.mg "isinstance"=none
 z_len:G.mg "len"=none
 z_list:G.mg "list"=none
 z_max:G.mg "max"=none
 z_min:G.mg "min"=none
 z_range:G.mg "range"=none
 z_set:G.mg "set"=none
 z_sorted:G.mg "sorted"=none
 z_sum:G.mg "sum"=none
 z_tuple:G.mg "tuple"=none
 z_zip:G.mg "zip"=none
 yq:Jq G "SQUARES" (.str "squares")
 nF:Jq G "STREETS" (.str "streets")
variable {G:GE}{k:Nat}
abbrev iI:Stmt:=top 8
abbrev zZ:List Str:=["count"]
local macro_rules | `(tactic| walk_at "5") => `(tactic| exact ⟨rfl,rfl,rfl,by decide +kernel,rfl,by decide +kernel,by decide +kernel⟩)
theorem OC:aL zZ ["count"] (ah iI):=by walk_at "5"
def DV:cA:=(dR (DS (a8 MA (af 0) (bj (.int 1))) (a8 SJ (af 0) (bj (.int 3)))) zH nk)
theorem RN(E:Gl G):eG G k ⟨zZ,(ah iI).names,[],false,false,false,λ_ _=>False⟩ (ax iI) (DV):=(aK (eu (Qw (Ot (bz J8 (ag 0) aA) (Dz (bz J5 (ag 0) aA)))) (aK kN) cN))
abbrev qy:Stmt:=top 9
abbrev Jv:List Str:=["point","count"]
theorem Vk:aL Jv ["point","count"] (ah qy):=by walk_at "5"
def Px:cA:=(dR (a8 neT (bf (dQ dS (bh (af 0) c9))) (af 1)) zH nk)
theorem W8(E:Gl G):eG G k ⟨Jv,(ah qy).names,[],false,false,false,λ_ _=>False⟩ (ax qy) (Px):=(aK (eu (bz mW (bp (cG f_len E.z_len (aD (ag 0) aU) (by decide +kernel))) (ag 1)) (aK kN) cN))
abbrev qG:Stmt:=top 10
abbrev JD:List Str:=["points","point"]
theorem Vt:aL JD ["points"] (ah qG):=by walk_at "5"
def PJ(qT:cf)(xO:cf):cA:=(cE (cU (av [] (af 0))) (eW 1) (bT (vb (ja qT (a9 (av [] (bf (dQ dS (bh (af 1) c9)))) tN))) (vb (ja xO (a9 (av [] (af 1)) (a9 (av [] (bf (dQ dS (bh (f6 (af 0) (bj (.int 0))) c9)))) tN))))))
theorem Xg(E:Gl G){qT:cf}(BU:dq G k "need_count" qT){xO:cf}(Ls:dq G k "need_as_many_numbers" xO):eG G k ⟨JD,(ah qG).names,[],false,false,false,λ_ _=>False⟩ (ax qG) (PJ qT xO):=(aK (fF (gk (aM (ag 0))) (bg 1 (hn:=by first|decide|exact of_decide_eq_true rfl)) (ay (cZ (bA BU (ai (aM (bp (cG f_len E.z_len (aD (ag 1) aU) (by decide +kernel)))) aC))) (aK (cZ (bA Ls (ai (aM (ag 1)) (ai (aM (bp (cG f_len E.z_len (aD (cL (ag 0) aA) aU) (by decide +kernel)))) aC))))))))
abbrev iR:Stmt:=top 11
abbrev Ae:List Str:=["way"]
theorem OO:aL Ae ["way"] (ah iR):=by walk_at "5"
def D2:cA:=(dR (fH (a8 neT (af 0) (bj (.str "streets"))) (a8 neT (af 0) (bj (.str "squares")))) zH nk)
theorem RW(E:Gl G):eG G k ⟨Ae,(ah iR).names,[],false,false,false,λ_ _=>False⟩ (ax iR) (D2):=(aK (eu (Qw (xG (bz mW (ag 0) (Dv E.nF)) (vZ (bz mW (ag 0) (Dv E.yq))))) (aK kN) cN))
abbrev qz:Stmt:=top 12
abbrev Jw:List Str:=["points","way"]
theorem Vl:aL Jw ["points","way"] (ah qz):=by walk_at "5"
def Py(xV:cf)(qW:cf):cA:=(bT (vb (ja xV (a9 (av [] (af 0)) tN))) (vb (ja qW (a9 (av [] (af 1)) tN))))
theorem W9(E:Gl G){xV:cf}(LC:dq G k "need_points" xV){qW:cf}(BZ:dq G k "need_way" qW):eG G k ⟨Jw,(ah qz).names,[],false,false,false,λ_ _=>False⟩ (ax qz) (Py xV qW):=(ay (cZ (bA LC (ai (aM (ag 0)) aC))) (aK (cZ (bA BZ (ai (aM (ag 1)) aC)))))
abbrev qF:Stmt:=top 13
abbrev JC:List Str:=["number"]
theorem Vr:aL JC ["number"] (ah qF):=by walk_at "5"
def PF:cA:=(dR (a8 MA (af 0) (bj (.int 1))) zH nk)
theorem Xf(E:Gl G):eG G k ⟨JC,(ah qF).names,[],false,false,false,λ_ _=>False⟩ (ax qF) (PF):=(aK (eu (bz J8 (ag 0) aA) (aK kN) cN))
abbrev qD:Stmt:=top 15
abbrev JA:List Str:=["way","point","other","differences"]
theorem Vp:aL JA ["way","point","other"] (ah qD):=by walk_at "5"
def PC:cA:=(bT (da [] 3 (eC [] [none,none] (Hc (a9 (av [] (af 1)) (a9 (av [] (af 2)) tN))) (BM 2 (gC (eW 0) (gC (eW 1) BL))) gq (av [] (bf (dQ Fb (bh (bf (aW gL (af 0) (af 1))) c9)))))) (bT (dR (a8 eqT (af 0) (bj (.str "streets"))) (gP [] (dQ sumF (bh (af 3) c9))) nk) (gP [] (dQ sumF (bh (bf (eC [] [none] (cU (av [] (af 3))) (eW 0) gq (av [] (bf (aW fC (af 0) (af 0)))))) c9)))))
local macro_rules | `(tactic| walk_at "6") => `(tactic| first|decide +kernel | (dsimp only[bo,aO];decide +kernel))
theorem Xd(E:Gl G):eG G k ⟨JA,(ah qD).names,[],false,false,false,λ_ _=>False⟩ (ax qD) (PC):=(ay (OA 3 (N':=["here","there"]) (IK (ai (aM (ag 1)) (ai (aM (ag 2)) aC)) E.z_zip) ⟨rfl,by walk_at "6",by walk_at "6",by walk_at "6",by walk_at "6",rfl,by walk_at "6"⟩ (j9 (bD (bg 0 (hn:=by first|decide|exact of_decide_eq_true rfl)) (bD (bg 1 (hn:=by first|decide|exact of_decide_eq_true rfl)) fx))) kZ (aM (bp (cG Sg E.z_abs (aD (bp (d7 (ag 0) (ag 1))) aU) (by decide +kernel))))) (ay (eu (bz jr (ag 0) (Dv E.nF)) (aK (bR (cG Io E.z_sum (aD (ag 3) aU) (by decide +kernel)))) cN) (aK (bR (cG Io E.z_sum (aD (bp (gH (N':=["difference"]) (gk (aM (ag 3))) ⟨rfl,by walk_at "6",by walk_at "6",by walk_at "6",by walk_at "6",rfl,by walk_at "6"⟩ (bg 0 (hn:=by first|decide|exact of_decide_eq_true rfl)) kZ (aM (bp (d6 (ag 0) (ag 0)))))) aU) (by decide +kernel))))))
abbrev qB:Stmt:=top 16
abbrev Jy:List Str:=["points","way","pairs","i","j"]
theorem Vn:aL Jy ["points","way"] (ah qB):=by walk_at "5"
def VW(xS:cf):cA:=(bT (da [] 2 (jU tN)) (bT (cE (qu (bh (bf (dQ dS (bh (af 0) c9))) c9)) (eW 3) (cE (GX (bh (bf (aW dw (af 3) (bj (.int 1)))) (bh (bf (dQ dS (bh (af 0) c9))) c9))) (eW 4) (vb (rg (af 2) (av [] (Jn (a9 (av [] (bf (ja xS (a9 (av [] (af 1)) (a9 (av [] (f6 (af 0) (af 3))) (a9 (av [] (f6 (af 0) (af 4))) tN)))))) (a9 (av [] (af 3)) (a9 (av [] (af 4)) tN))))))))) (gP [] (oX (af 2)))))
theorem Xb(E:Gl G){xS:cf}(Ly:dq G k "far_between" xS):eG G k ⟨Jy,(ah qB).names,[],false,false,false,λ_ _=>False⟩ (ax qB) (VW xS):=(ay (aZ 2 (cc aC)) (ay (fF (jA (aD (bp (cG f_len E.z_len (aD (ag 0) aU) (by decide +kernel))) aU) E.z_range) (bg 3 (hn:=by first|decide|exact of_decide_eq_true rfl)) (aK (fF (LZ (aD (bp (cK (ag 3) aA)) (aD (bp (cG f_len E.z_len (aD (ag 0) aU) (by decide +kernel))) aU)) E.z_range) (bg 4 (hn:=by first|decide|exact of_decide_eq_true rfl)) (aK (cZ (d5 (ag 2) (aM (uk (ai (aM (bp (bA Ly (ai (aM (ag 1)) (ai (aM (cL (ag 0) (ag 3))) (ai (aM (cL (ag 0) (ag 4))) aC)))))) (ai (aM (ag 3)) (ai (aM (ag 4)) aC))))))))))) (aK (bR (jL (ag 2))))))
abbrev iJ:Stmt:=top 17
abbrev z0:List Str:=["points","way"]
theorem OD:aL z0 ["points","way"] (ah iJ):=by walk_at "5"
def DW(xP:cf)(xR:cf):cA:=(bT (vb (ja xP (a9 (av [] (af 0)) (a9 (av [] (af 1)) tN)))) (gP [] (dQ kO (bh (bf (ja xR (a9 (av [] (af 0)) (a9 (av [] (af 1)) tN)))) c9))))
theorem RO(E:Gl G){xP:cf}(Lv:dq G k "need_points_and_way" xP){xR:cf}(Lx:dq G k "pairs_by_places" xR):eG G k ⟨z0,(ah iJ).names,[],false,false,false,λ_ _=>False⟩ (ax iJ) (DW xP xR):=(ay (cZ (bA Lv (ai (aM (ag 0)) (ai (aM (ag 1)) aC)))) (aK (bR (cG Bu E.z_sorted (aD (bp (bA Lx (ai (aM (ag 0)) (ai (aM (ag 1)) aC)))) aU) (by decide +kernel)))))
abbrev iV:Stmt:=top 19
abbrev Ah:List Str:=["leasts","i","j","low","high"]
theorem OU:aL Ah ["leasts","i","j"] (ah iV):=by walk_at "5"
def D5:cA:=(bT (da [] 3 (dQ lV (bh (f6 (af 0) (af 1)) (bh (f6 (af 0) (af 2)) c9)))) (bT (da [] 4 (dQ lN (bh (f6 (af 0) (af 1)) (bh (f6 (af 0) (af 2)) c9)))) (gP [] (eC [] [none,some 3,some 4] (cU (av [] (af 0))) (eW 0) gq (av [] (Pq (a8 eqT (af 0) (af 2)) (af 1) (af 0)))))))
theorem RZ(E:Gl G):eG G k ⟨Ah,(ah iV).names,[],false,false,false,λ_ _=>False⟩ (ax iV) (D5):=(ay (aZ 3 (cG pE E.z_min (aD (cL (ag 0) (ag 1)) (aD (cL (ag 0) (ag 2)) aU)) (by decide +kernel))) (ay (aZ 4 (cG pD E.z_max (aD (cL (ag 0) (ag 1)) (aD (cL (ag 0) (ag 2)) aU)) (by decide +kernel))) (aK (bR (gH (N':=["least","low","high"]) (gk (aM (ag 0))) ⟨rfl,by walk_at "6",by walk_at "6",by walk_at "6",by walk_at "6",rfl,by walk_at "6"⟩ (bg 0 (hn:=by first|decide|exact of_decide_eq_true rfl)) kZ (aM (Vg (bz jr (ag 0) (ag 2)) (ag 1) (ag 0))))))))
abbrev iH:Stmt:=top 20
abbrev zY:List Str:=["points","way","leasts","tree","far","i","j"]
theorem OB:aL zY ["points","way"] (ah iH):=by walk_at "5"
def DU(qU:cf)(fG:cf):cA:=(bT (da [] 2 (Y2 (bh (bf (dQ dS (bh (af 0) c9))) c9))) (bT (da [] 3 (jU tN)) (bT (cE (cU (av [] (bf (ja qU (a9 (av [] (af 0)) (a9 (av [] (af 1)) tN)))))) (BM 3 (gC (eW 4) (gC (eW 5) (gC (eW 6) BL)))) (dR (a8 neT (f6 (af 2) (af 5)) (f6 (af 2) (af 6))) (bT (da [] 2 (ja fG (a9 (av [] (af 2)) (a9 (av [] (af 5)) (a9 (av [] (af 6)) tN))))) (vb (rg (af 3) (av [] (Jn (a9 (av [] (af 4)) (a9 (av [] (af 5)) (a9 (av [] (af 6)) tN)))))))) nk)) (gP [] (oX (af 3))))))
theorem RM(E:Gl G){qU:cf}(BV:dq G k "all_pairs" qU){fG:cf}(B3:dq G k "joined" fG):eG G k ⟨zY,(ah iH).names,[],false,false,false,λ_ _=>False⟩ (ax iH) (DU qU fG):=(ay (aZ 2 (Oo (aD (bp (cG f_len E.z_len (aD (ag 0) aU) (by decide +kernel))) aU) E.z_list E.z_range)) (ay (aZ 3 (cc aC)) (ay (fF (gk (aM (bp (bA BV (ai (aM (ag 0)) (ai (aM (ag 1)) aC)))))) (j9 (bD (bg 4 (hn:=by first|decide|exact of_decide_eq_true rfl)) (bD (bg 5 (hn:=by first|decide|exact of_decide_eq_true rfl)) (bD (bg 6 (hn:=by first|decide|exact of_decide_eq_true rfl)) fx)))) (aK (eu (bz mW (cL (ag 2) (ag 5)) (cL (ag 2) (ag 6))) (ay (aZ 2 (bA B3 (ai (aM (ag 2)) (ai (aM (ag 5)) (ai (aM (ag 6)) aC))))) (aK (cZ (d5 (ag 3) (aM (uk (ai (aM (ag 4)) (ai (aM (ag 5)) (ai (aM (ag 6)) aC))))))))) cN))) (aK (bR (jL (ag 3)))))))
abbrev qC:Stmt:=top 21
abbrev Jz:List Str:=["points","way","tree"]
theorem Vo:aL Jz ["points","way"] (ah qC):=by walk_at "5"
def PB(eQ:cf):cA:=(bT (da [] 2 (ja eQ (a9 (av [] (af 0)) (a9 (av [] (af 1)) tN)))) (bT (dR (mO (uG (af 0))) (gP [] (oX (bj .bx))) nk) (gP [] (oX (DR (bf (eC [] [none,none,none] (cU (av [] (af 2))) (BM 3 (gC (eW 0) (gC (eW 1) (gC (eW 2) BL)))) gq (av [] (af 0)))) (av [] (bj (.int 0))))))))
theorem Xc(E:Gl G){eQ:cf}(nU:dq G k "least_tree" eQ):eG G k ⟨Jz,(ah qC).names,[],false,false,false,λ_ _=>False⟩ (ax qC) (PB eQ):=(ay (aZ 2 (bA nU (ai (aM (ag 0)) (ai (aM (ag 1)) aC)))) (ay (eu (mw (jK (ag 0))) (aK (bR (jL uf))) cN) (aK (bR (jL (Oq (bp (gH (N':=["far","i","j"]) (gk (aM (ag 2))) ⟨rfl,by walk_at "6",by walk_at "6",by walk_at "6",by walk_at "6",rfl,by walk_at "6"⟩ (j9 (bD (bg 0 (hn:=by first|decide|exact of_decide_eq_true rfl)) (bD (bg 1 (hn:=by first|decide|exact of_decide_eq_true rfl)) (bD (bg 2 (hn:=by first|decide|exact of_decide_eq_true rfl)) fx)))) kZ (aM (ag 0)))) (aM aA) E.z_max))))))
abbrev qA:Stmt:=top 22
abbrev Jx:List Str:=["points","way","many","tree"]
theorem Vm:aL Jx ["points","way","many"] (ah qA):=by walk_at "5"
def Pz(eQ:cf)(xU:cf):cA:=(bT (da [] 3 (ja eQ (a9 (av [] (af 0)) (a9 (av [] (af 1)) tN)))) (bT (vb (ja xU (a9 (av [] (af 2)) tN))) (bT (dR (a8 T3 (bf (dQ dS (bh (af 0) c9))) (af 2)) (gP [] (oX (bj (.int 0)))) nk) (gP [] (oX (f6 (f6 (af 3) (bf (aW gL (bf (aW gL (bf (dQ dS (bh (af 0) c9))) (af 2))) (bj (.int 1))))) (bj (.int 0))))))))
theorem Xa(E:Gl G){eQ:cf}(nU:dq G k "least_tree" eQ){xU:cf}(LA:dq G k "need_number" xU):eG G k ⟨Jx,(ah qA).names,[],false,false,false,λ_ _=>False⟩ (ax qA) (Pz eQ xU):=(ay (aZ 3 (bA nU (ai (aM (ag 0)) (ai (aM (ag 1)) aC)))) (ay (cZ (bA LA (ai (aM (ag 2)) aC))) (ay (eu (bz J7 (bp (cG f_len E.z_len (aD (ag 0) aU) (by decide +kernel))) (ag 2)) (aK (bR (jL aA))) cN) (aK (bR (jL (cL (cL (ag 3) (bp (d7 (bp (d7 (bp (cG f_len E.z_len (aD (ag 0) aU) (by decide +kernel))) (ag 2))) aA))) aA)))))))
abbrev iO:Stmt:=top 24
abbrev Ac:List Str:=["pot","many","cell","stir"]
theorem OJ:aL Ac ["pot","many"] (ah iO):=by walk_at "5"
def D0:cA:=(bT (uF 0 (bj (.int 1)) (av [0] (bf (aW dw (f6 (af 0) (bj (.int 1))) (bj (.int 1)))))) (bT (da [0] 2 (oX (f6 (af 0) (bj (.int 0))))) (bT (dR (a8 Xr (af 2) (bf (aW vW (bj (.int 10)) (bj (.int 18))))) (bT (uF 0 (bj (.int 0)) (av [0] (bf (aW sI (af 2) (af 1))))) (gP [0] (aW vM (af 2) (af 1)))) nk) (bT (da [0] 3 (aW vM (bf (aW dw (bf (aW dw (bf (aW fC (af 2) (bj (.int 69621)))) (bf (aW fC (f6 (af 0) (bj (.int 1))) (bj (.int 7919)))))) (bj (.int 13)))) (bj (.int 2147483647)))) (bT (da [0] 3 (aW vM (bf (aW fC (af 3) (af 3))) (bj (.int 2147483629)))) (gP [0] (aW vM (bf (aW sI (bf (aW vM (bf (aW dw (bf (aW fC (af 3) (bj (.int 48271)))) (bf (aW fC (f6 (af 0) (bj (.int 1))) (bj (.int 40692)))))) (bj (.int 2147483587)))) (bj (.int 8)))) (af 1))))))))
theorem RU(E:Gl G):eG G k ⟨Ac,(ah iO).names,[0],false,false,false,λ_ _=>False⟩ (ax iO) (D0):=(ay (v8 0 (aM (bp (cK (cL (ag 0) aA) aA))) aA (ag 0)) (ay (aZ 2 (jL (cL (ag 0) aA))) (ay (eu (bz W5 (ag 2) (bp (ug aA aA))) (ay (v8 0 (aM (bp (qp (ag 2) (ag 1)))) aA (ag 0)) (aK (bR (ud (ag 2) (ag 1))))) cN) (ay (aZ 3 (ud (bp (cK (bp (cK (bp (d6 (ag 2) aA)) (bp (d6 (cL (ag 0) aA) aA)))) aA)) aA)) (ay (aZ 3 (ud (bp (d6 (ag 3) (ag 3))) aA)) (aK (bR (ud (bp (qp (bp (ud (bp (cK (bp (d6 (ag 3) aA)) (bp (d6 (cL (ag 0) aA) aA)))) aA)) aA)) (ag 1)))))))))
abbrev iP:Stmt:=top 25
abbrev HR:List Str:=["script"]
theorem OM:aL HR ["script"] (ah iP):=by walk_at "5"
theorem RV(E:Gl G):rN G k ⟨HR,(ah iP).names,[],false,false,false,λ_ _=>False⟩ (ax iP):=KY (N':=["cell"]) rfl (bz jr (bp (cG f_len E.z_len (aD (ag 0) aU) (by decide +kernel))) aA) (ai (aM aA) (ai (aM aA) aC)) (gk (aM (bp (Ov (ag 0) vQ (vS aA))))) ⟨rfl,by walk_at "6",by walk_at "6",by walk_at "6",by walk_at "6",rfl,by walk_at "6"⟩ (bg 0 (hn:=by first|decide|exact of_decide_eq_true rfl)) (ai (aM (ag 0)) (ai (aM aA) aC))
abbrev qH:Stmt:=top 26
abbrev JE:List Str:=["pot","count","most","many","kind","found","place","point","k","some","turned"]
theorem Vu:aL JE ["pot","count","most"] (ah qH):=by walk_at "5"
def PL(bF:mU):cA:=(bT (da [0] 3 (fc bF 0 (a9 (av [0] (f6 (bf (jU (a9 (av [0] (bf (dQ lV (bh (bj (.int 4)) (bh (bf (aW dw (af 2) (bj (.int 1)))) c9))))) (a9 (av [0] (bf (dQ lV (bh (bj (.int 9)) (bh (bf (aW dw (af 2) (bj (.int 1)))) c9))))) (a9 (av [0] (bf (aW dw (af 2) (bj (.int 1))))) tN))))) (bf (fc bF 0 (a9 (av [0] (bj (.int 3))) tN))))) tN))) (bT (da [0] 4 (fc bF 0 (a9 (av [0] (bj (.int 6))) tN))) (bT (da [0] 5 (jU tN)) (bT (cE (qu (bh (af 3) c9)) (eW 6) (bT (da [0] 7 (jU tN)) (bT (cE (qu (bh (af 1) c9)) (eW 8) (bT (da [0] 9 (jU (a9 (av [0] (bf (fc bF 0 (a9 (av [0] (bj (.int 4))) tN)))) (a9 (av [0] (bf (aW gL (bf (fc bF 0 (a9 (av [0] (bj (.int 41))) tN))) (bj (.int 20))))) (a9 (av [0] (bf (aW fC (af 6) (bf (aW dw (af 8) (bj (.int 1))))))) (a9 (av [0] (bf (aW gL (bf (aW gL (bf (aW vW (bj (.int 10)) (bj (.int 15)))) (bj (.int 1)))) (bf (fc bF 0 (a9 (av [0] (bj (.int 3))) tN)))))) tN)))))) (bT (vb (rg (af 9) (av [0] (bf (aW dw (bf (aW gL (bf (fc bF 0 (a9 (av [0] (bf (aW gL (bf (aW fC (bj (.int 2)) (bf (aW vW (bj (.int 10)) (bj (.int 15)))))) (bj (.int 1))))) tN))) (bf (aW vW (bj (.int 10)) (bj (.int 15)))))) (bj (.int 1))))))) (bT (da [0] 10 (oX (f6 (bf (jU (a9 (av [0] (bj (.int 1))) (a9 (av [0] (G9 (bj (.int 1)))) tN)))) (bf (aW fC (bf (fc bF 0 (a9 (av [0] (bj (.int 2))) tN))) (bf (dQ pP (bh (bV (a8 eqT (af 4) (bj (.int 3)))) c9)))))))) (vb (rg (af 7) (av [0] (bf (aW fC (af 10) (f6 (af 9) (bf (dQ lV (bh (af 4) (bh (bj (.int 4)) c9)))))))))))))) (bT (vb (rg (af 5) (av [0] (bf (dQ rq (bh (af 7) c9)))))) (dR (fH (a8 eqT (af 4) (bj (.int 5))) (fH (a8 SJ (af 6) (bj (.int 0))) (a8 eqT (bf (fc bF 0 (a9 (av [0] (bj (.int 2))) tN))) (bj (.int 0))))) (uF 5 (G9 (bj (.int 1))) (av [0] (f6 (af 5) (bf (fc bF 0 (a9 (av [0] (af 6)) tN)))))) nk))))) (gP [0] (oX (af 5)))))))
theorem Xh(E:Gl G){bF:mU}(cC:jn G k "_law_next" bF):eG G k ⟨JE,(ah qH).names,[0],false,false,false,λ_ _=>False⟩ (ax qH) (PL bF):=(ay (aZ 3 (bH cC (ag 0) (ai (aM (cL (bp (cc (ai (aM (bp (cG pE E.z_min (aD aA (aD (bp (cK (ag 2) aA)) aU)) (by decide +kernel)))) (ai (aM (bp (cG pE E.z_min (aD aA (aD (bp (cK (ag 2) aA)) aU)) (by decide +kernel)))) (ai (aM (bp (cK (ag 2) aA))) aC))))) (bp (bH cC (ag 0) (ai (aM aA) aC))))) aC))) (ay (aZ 4 (bH cC (ag 0) (ai (aM aA) aC))) (ay (aZ 5 (cc aC)) (ay (fF (jA (aD (ag 3) aU) E.z_range) (bg 6 (hn:=by first|decide|exact of_decide_eq_true rfl)) (ay (aZ 7 (cc aC)) (ay (fF (jA (aD (ag 1) aU) E.z_range) (bg 8 (hn:=by first|decide|exact of_decide_eq_true rfl)) (ay (aZ 9 (cc (ai (aM (bp (bH cC (ag 0) (ai (aM aA) aC)))) (ai (aM (bp (d7 (bp (bH cC (ag 0) (ai (aM aA) aC))) aA))) (ai (aM (bp (d6 (ag 6) (bp (cK (ag 8) aA))))) (ai (aM (bp (d7 (bp (d7 (bp (ug aA aA)) aA)) (bp (bH cC (ag 0) (ai (aM aA) aC)))))) aC)))))) (ay (cZ (d5 (ag 9) (aM (bp (cK (bp (d7 (bp (bH cC (ag 0) (ai (aM (bp (d7 (bp (d6 aA (bp (ug aA aA)))) aA))) aC))) (bp (ug aA aA)))) aA))))) (ay (aZ 10 (jL (cL (bp (cc (ai (aM aA) (ai (aM (Jh aA)) aC)))) (bp (d6 (bp (bH cC (ag 0) (ai (aM aA) aC))) (bp (uc f_int E.z_int (aD (eX jr (ag 4) aA) aU) (by decide +kernel)))))))) (aK (cZ (d5 (ag 7) (aM (bp (d6 (ag 10) (cL (ag 9) (bp (cG pE E.z_min (aD (ag 4) (aD aA aU)) (by decide +kernel)))))))))))))) (ay (cZ (d5 (ag 5) (aM (bp (uc Fq E.z_tuple (aD (ag 7) aU) (by decide +kernel)))))) (aK (eu (Qw (xG (bz jr (ag 4) aA) (xG (bz J5 (ag 6) aA) (vZ (bz jr (bp (bH cC (ag 0) (ai (aM aA) aC))) aA))))) (aK (v8 5 (aM (cL (ag 5) (bp (bH cC (ag 0) (ai (aM (ag 6)) aC))))) (Jh aA) (ag 5))) cN)))))) (aK (bR (jL (ag 5))))))))
abbrev iT:Stmt:=top 27
abbrev Af:List Str:=["way","one","other","found","here","there","step"]
theorem OQ:aL Af ["way","one","other"] (ah iT):=by walk_at "5"
def D3:cA:=(bT (da [] 3 (oX (bj (.tk 0)))) (bT (cE (Hc (a9 (av [] (af 1)) (a9 (av [] (af 2)) tN))) (BM 2 (gC (eW 4) (gC (eW 5) BL))) (bT (da [] 6 (dQ lN (bh (bf (aW gL (af 4) (af 5))) (bh (bf (aW gL (af 5) (af 4))) c9)))) (da [] 3 (aW addW (af 3) (f6 (bf (jU (a9 (av [] (af 6)) (a9 (av [] (bf (aW fC (af 6) (af 6)))) tN)))) (bf (dQ pP (bh (bV (a8 eqT (af 0) (bj (.str "squares")))) c9)))))))) (gP [] (oX (af 3)))))
theorem RX(E:Gl G):eG G k ⟨Af,(ah iT).names,[],false,false,false,λ_ _=>False⟩ (ax iT) (D3):=(ay (aZ 3 (jL Dx)) (ay (fF (IK (ai (aM (ag 1)) (ai (aM (ag 2)) aC)) E.z_zip) (j9 (bD (bg 4 (hn:=by first|decide|exact of_decide_eq_true rfl)) (bD (bg 5 (hn:=by first|decide|exact of_decide_eq_true rfl)) fx))) (ay (aZ 6 (cG pD E.z_max (aD (bp (d7 (ag 4) (ag 5))) (aD (bp (d7 (ag 5) (ag 4))) aU)) (by decide +kernel))) (aK (aZ 3 (Oj (ag 3) (cL (bp (cc (ai (aM (ag 6)) (ai (aM (bp (d6 (ag 6) (ag 6)))) aC)))) (bp (uc f_int E.z_int (aD (eX jr (ag 0) uh) aU) (by decide +kernel))))))))) (aK (bR (jL (ag 3))))))
abbrev iU:Stmt:=top 28
abbrev Ag:List Str:=["pot"]
theorem OT:aL Ag ["pot"] (ah iU):=by walk_at "5"
def D4(bF:mU):cA:=(gP [0] (oX (f6 (bf (jU (a9 (av [0] (bj (.str "streets"))) (a9 (av [0] (bj (.str "squares"))) tN)))) (bf (fc bF 0 (a9 (av [0] (bj (.int 2))) tN))))))
theorem RY(E:Gl G){bF:mU}(cC:jn G k "_law_next" bF):eG G k ⟨Ag,(ah iU).names,[0],false,false,false,λ_ _=>False⟩ (ax iU) (D4 bF):=(aK (bR (jL (cL (bp (cc (ai (aM uh) (ai (aM uh) aC)))) (bp (bH cC (ag 0) (ai (aM aA) aC)))))))
abbrev iL:Stmt:=top 29
abbrev Aa:List Str:=["points","way","found","j","other"]
theorem OH:aL Aa ["points","way"] (ah iL):=by walk_at "5"
def DY(qX:cf):cA:=(bT (da [] 2 (jU tN)) (bT (cE (wj (a9 (av [] (af 0)) tN)) (BM 2 (gC (eW 3) (gC (eW 4) BL))) (vb (Pp (af 2) (eC [] [none,some 3,some 1,some 4,some 0] (qu (bh (af 3) c9)) (eW 0) gq (av [] (Jn (a9 (av [] (bf (ja qX (a9 (av [] (af 2)) (a9 (av [] (f6 (af 4) (af 0))) (a9 (av [] (af 3)) tN)))))) (a9 (av [] (af 0)) (a9 (av [] (af 1)) tN))))))))) (gP [] (dQ i6 (bh (af 2) c9)))))
theorem RQ(E:Gl G){qX:cf}(B1:dq G k "_law_far" qX):eG G k ⟨Aa,(ah iL).names,[],false,false,false,λ_ _=>False⟩ (ax iL) (DY qX):=(ay (aZ 2 (cc aC)) (ay (fF (FN (ai (aM (ag 0)) aC) E.z_enumerate) (j9 (bD (bg 3 (hn:=by first|decide|exact of_decide_eq_true rfl)) (bD (bg 4 (hn:=by first|decide|exact of_decide_eq_true rfl)) fx))) (aK (cZ (Dw (ag 2) (gH (N':=["i","j","way","other","points"]) (jA (aD (ag 3) aU) E.z_range) ⟨rfl,by walk_at "6",by walk_at "6",by walk_at "6",by walk_at "6",rfl,by walk_at "6"⟩ (bg 0 (hn:=by first|decide|exact of_decide_eq_true rfl)) kZ (aM (uk (ai (aM (bp (bA B1 (ai (aM (ag 2)) (ai (aM (cL (ag 4) (ag 0))) (ai (aM (ag 3)) aC)))))) (ai (aM (ag 0)) (ai (aM (ag 1)) aC)))))))))) (aK (bR (cG yB E.z_sorted (aD (ag 2) aU) (by decide +kernel))))))
abbrev qE:Stmt:=top 30
abbrev JB:List Str:=["many","pairs","joined_v","one","other","seen","found","place","waits","part","here"]
theorem Vq:aL JB ["many","pairs"] (ah qE):=by walk_at "5"
def PD:cA:=(bT (Y1 2 (bh (af 0) c9)) (bT (cE (cU (av [] (af 1))) (BM 2 (gC (eW 3) (gC (eW 4) BL))) (bT (VP 2 (af 3) (av [] (af 4))) (VP 2 (af 4) (av [] (af 3))))) (bT (da [] 5 Pl) (bT (da [] 6 (jU tN)) (bT (cE (qu (bh (af 0) c9)) (eW 7) (bT (da [] 8 (aW fC (bf (jU (a9 (av [] (af 7)) tN))) (bf (dQ pP (bh (bV (a8 CJ (af 7) (uH 5))) c9))))) (bT (da [] 9 (jU tN)) (bT (Hb (a8 neT (af 8) (bf (jU tN))) (bT (da [] 10 (DT (af 8))) (dR (a8 CJ (af 10) (uH 5)) (bT (Pn 5 (af 10) (av [] (bj (.bl true)))) (bT (vb (rg (af 9) (av [] (af 10)))) (da [] 8 (DQ [2,8,10] (aW dw (af 8) (f6 (af 2) (af 10))))))) nk))) (da [] 6 (aW dw (af 6) (bf (aW fC (bf (jU (a9 (av [] (bf (dQ qK (bh (af 9) c9)))) tN))) (bf (dQ pP (bh (bV (a8 neT (af 9) (bf (jU tN)))) c9))))))))))) (gP [] (oX (af 6))))))))
theorem Xe(E:Gl G):eG G k ⟨JB,(ah qE).names,[],false,false,false,λ_ _=>False⟩ (ax qE) (PD):=(ay (DF 2 (z:="place") (aD (ag 0) aU) E.z_range ⟨rfl,by walk_at "6",by walk_at "6",by walk_at "6",by walk_at "6",rfl,by walk_at "6"⟩) (ay (fF (gk (aM (ag 1))) (j9 (bD (bg 3 (hn:=by first|decide|exact of_decide_eq_true rfl)) (bD (bg 4 (hn:=by first|decide|exact of_decide_eq_true rfl)) fx))) (ay (xI 2 (ag 3) (aM (ag 4))) (aK (xI 2 (ag 4) (aM (ag 3)))))) (ay (aZ 5 GV) (ay (aZ 6 (cc aC)) (ay (fF (jA (aD (ag 0) aU) E.z_range) (bg 7 (hn:=by first|decide|exact of_decide_eq_true rfl)) (ay (aZ 8 (d6 (bp (cc (ai (aM (ag 7)) aC))) (bp (uc f_int E.z_int (aD (eX Ap (ag 7) (DA 5)) aU) (by decide +kernel))))) (ay (aZ 9 (cc aC)) (ay (xJ (bz mW (ag 8) (bp (cc aC))) (ay (aZ 10 (Ou (ag 8))) (aK (eu (bz Ap (ag 10) (DA 5)) (ay (GZ 5 (aM zr) (ag 10) (YN 5)) (ay (cZ (d5 (ag 9) (aM (ag 10)))) (aK (aZ 8 (Om [2,8,10] (cK (ag 8) (cL (ag 2) (ag 10)))))))) cN)))) (aK (aZ 6 (cK (ag 6) (bp (d6 (bp (cc (ai (aM (bp (cG Fp E.z_sorted (aD (ag 9) aU) (by decide +kernel)))) aC))) (bp (uc f_int E.z_int (aD (eX mW (ag 9) (bp (cc aC))) aU) (by decide +kernel)))))))))))) (aK (bR (jL (ag 6)))))))))
abbrev iQ:Stmt:=top 31
abbrev Ad:List Str:=["found","due"]
theorem v9:aL Ad ["found","due"] (ah iQ):=by walk_at "5"
def D1(sp_q18:cf):cA:=(bT (dR (a8 Tx (af 1) (bj .bx)) (gP [] (oX (bV (a8 Tx (af 0) (bj .bx))))) nk) (bT (dR (uG (bV (nj ["list","tuple"] (af 1)))) (bT (dR (DS (a8 neT (bV (nj ["tuple"] (af 0))) (bV (nj ["tuple"] (af 1)))) (mO (uG (bV (nj ["list","tuple"] (af 0)))))) (gP [] (oX (bj (.bl false)))) nk) (bT (dR (a8 neT (bf (dQ dS (bh (af 0) c9))) (bf (dQ dS (bh (af 1) c9)))) (gP [] (oX (bj (.bl false)))) nk) (gP [] (oX (bV (a8 eqT (bf (eC [] [none,some 0,some 1] (qu (bh (bf (dQ dS (bh (af 1) c9))) c9)) (eW 0) (mO (uG (bf (ja sp_q18 (a9 (av [] (f6 (af 1) (af 0))) (a9 (av [] (f6 (af 2) (af 0))) tN)))))) (av [] (af 0)))) (bf (jU tN)))))))) nk) (gP [] (oX (bV (fH (i9 (bV (nj ["int"] (af 0)))) (fH (i9 (bV (a8 eqT (bV (nj ["bool"] (af 0))) (bV (nj ["bool"] (af 1)))))) (i9 (bV (a8 eqT (af 0) (af 1)))))))))))
theorem Be(E:Gl G){sp_q18:cf}(nW:dq G k "_law_same" sp_q18):eG G k ⟨Ad,(ah iQ).names,[],false,false,false,λ_ _=>False⟩ (ax iQ) (D1 sp_q18):=(ay (eu (bz J6 (ag 1) uf) (aK (bR (jL (eX J6 (ag 0) uf)))) cN) (ay (eu (jK (Dy (ag 1) tE kit_tuple E.z_isinstance E.z_list E.z_tuple (by decide +kernel) (by decide +kernel))) (ay (eu (Qw (Ot (bz mW (mv (ag 0) kit_tuple E.z_isinstance E.z_tuple (by decide +kernel)) (mv (ag 1) kit_tuple E.z_isinstance E.z_tuple (by decide +kernel))) (Dz (mw (jK (Dy (ag 0) tE kit_tuple E.z_isinstance E.z_list E.z_tuple (by decide +kernel) (by decide +kernel))))))) (aK (bR (jL zr))) cN) (ay (eu (bz mW (bp (cG f_len E.z_len (aD (ag 0) aU) (by decide +kernel))) (bp (cG f_len E.z_len (aD (ag 1) aU) (by decide +kernel)))) (aK (bR (jL zr))) cN) (aK (bR (jL (eX jr (bp (gH (N':=["k","found","due"]) (jA (aD (bp (cG f_len E.z_len (aD (ag 1) aU) (by decide +kernel))) aU) E.z_range) ⟨rfl,by walk_at "6",by walk_at "6",by walk_at "6",by walk_at "6",rfl,by walk_at "6"⟩ (bg 0 (hn:=by first|decide|exact of_decide_eq_true rfl)) (HW (mw (jK (bp (bA nW (ai (aM (cL (ag 1) (ag 0))) (ai (aM (cL (ag 2) (ag 0))) aC))))))) (aM (ag 0)))) (bp (cc aC)))))))) cN) (aK (bR (jL (Ol (v_and (wC (mv (ag 0) FZ E.z_isinstance E.z_int (by decide +kernel))) (v_and (wC (eX jr (mv (ag 0) tD E.z_isinstance E.z_bool (by decide +kernel)) (mv (ag 1) tD E.z_isinstance E.z_bool (by decide +kernel)))) (Eg (wC (eX jr (ag 0) (ag 1))))))))))))
abbrev iM:Stmt:=top 32
abbrev Ab:List Str:=["points","pairs","bound"]
theorem OI:aL Ab ["points","pairs","bound"] (ah iM):=by walk_at "5"
def DZ(xT:cf):cA:=(gP [] (dQ dS (bh (bf (ja xT (a9 (av [] (bf (dQ dS (bh (af 0) c9)))) (a9 (av [] (bf (eC [] [none,none,none,some 2] (cU (av [] (af 1))) (BM 3 (gC (eW 0) (gC (eW 1) (gC (eW 2) BL)))) (a8 Wo (af 0) (af 3)) (av [] (Jn (a9 (av [] (af 1)) (a9 (av [] (af 2)) tN))))))) tN)))) c9)))
theorem RT(E:Gl G){xT:cf}(Lz:dq G k "_law_reached" xT):eG G k ⟨Ab,(ah iM).names,[],false,false,false,λ_ _=>False⟩ (ax iM) (DZ xT):=(aK (bR (cG f_len E.z_len (aD (bp (bA Lz (ai (aM (bp (cG f_len E.z_len (aD (ag 0) aU) (by decide +kernel)))) (ai (aM (bp (gH (N':=["far","i","j","bound"]) (gk (aM (ag 1))) ⟨rfl,by walk_at "6",by walk_at "6",by walk_at "6",by walk_at "6",rfl,by walk_at "6"⟩ (j9 (bD (bg 0 (hn:=by first|decide|exact of_decide_eq_true rfl)) (bD (bg 1 (hn:=by first|decide|exact of_decide_eq_true rfl)) (bD (bg 2 (hn:=by first|decide|exact of_decide_eq_true rfl)) fx)))) (HW (bz Rj (ag 0) (ag 3))) (aM (uk (ai (aM (ag 1)) (ai (aM (ag 2)) aC))))))) aC)))) aU) (by decide +kernel))))
abbrev iK:Stmt:=top 33
abbrev z9:List Str:=["points","pairs","many","fars","low","high","at"]
theorem OG:aL z9 ["points","pairs","many"] (ah iK):=by walk_at "5"
def DX(eR:cf):cA:=(bT (da [] 3 (dQ mE (bh (bf (aW dw (bf (jU (a9 (av [] (bj (.tk 0))) tN))) (bf (eC [] [none,none,none] (cU (av [] (af 1))) (BM 3 (gC (eW 0) (gC (eW 1) (gC (eW 2) BL)))) gq (av [] (af 0)))))) c9))) (bT (da [] 4 (oX (bj (.int 0)))) (bT (da [] 5 (aW gL (bf (dQ dS (bh (af 3) c9))) (bj (.int 1)))) (bT (Hb (a8 MA (af 4) (af 5)) (bT (da [] 6 (aW sI (bf (aW dw (af 4) (af 5))) (bj (.int 2)))) (dR (a8 T3 (bf (ja eR (a9 (av [] (af 0)) (a9 (av [] (af 1)) (a9 (av [] (f6 (af 3) (af 6))) tN))))) (af 2)) (da [] 5 (oX (af 6))) (da [] 4 (aW dw (af 6) (bj (.int 1))))))) (gP [] (oX (f6 (af 3) (af 4))))))))
theorem RP(E:Gl G){eR:cf}(nV:dq G k "_law_parts" eR):eG G k ⟨z9,(ah iK).names,[],false,false,false,λ_ _=>False⟩ (ax iK) (DX eR):=(ay (aZ 3 (v7 (aD (bp (cK (bp (cc (ai (aM Dx) aC))) (bp (gH (N':=["far","i","j"]) (gk (aM (ag 1))) ⟨rfl,by walk_at "6",by walk_at "6",by walk_at "6",by walk_at "6",rfl,by walk_at "6"⟩ (j9 (bD (bg 0 (hn:=by first|decide|exact of_decide_eq_true rfl)) (bD (bg 1 (hn:=by first|decide|exact of_decide_eq_true rfl)) (bD (bg 2 (hn:=by first|decide|exact of_decide_eq_true rfl)) fx)))) kZ (aM (ag 0)))))) aU) E.z_sorted E.z_set)) (ay (aZ 4 (jL aA)) (ay (aZ 5 (d7 (bp (cG f_len E.z_len (aD (ag 3) aU) (by decide +kernel))) aA)) (ay (xJ (bz J8 (ag 4) (ag 5)) (ay (aZ 6 (qp (bp (cK (ag 4) (ag 5))) aA)) (aK (eu (bz J7 (bp (bA nV (ai (aM (ag 0)) (ai (aM (ag 1)) (ai (aM (cL (ag 3) (ag 6))) aC))))) (ag 2)) (aK (aZ 5 (jL (ag 6)))) (aK (aZ 4 (cK (ag 6) aA))))))) (aK (bR (jL (cL (ag 3) (ag 4)))))))))
abbrev eY:Stmt:=top 34
abbrev Ai:List Str:=["script","k","pot","great","points","way","pairs","handed","size","some","many","due"]
theorem OW:aL Ai ["script"] (ah eY):=by walk_at "5"
def D6(bF:mU)(xW:mU)(qY:mU)(qV:cf)(mI:cf)(eR:cf)(sp_q18:cf)(xQ:cf)(oG:cf):cA:=(bT (xZ (a9 (av [] (bf (zI (af 0) Qz (QA (bj (.int 3)))))) tN) (Og 1 2) (bT (da [] 3 (oX (bV (fH (i9 (bV (a8 eqT (af 1) (bj (.int 0))))) (i9 (bV (a8 eqT (bf (fc bF 2 (a9 (av [] (bj (.int 8))) tN))) (bj (.int 0))))))))) (bT (da [] 4 (fc xW 2 (a9 (av [] (bf (aW dw (bj (.int 1)) (bf (fc bF 2 (a9 (av [] (bj (.int 3))) tN)))))) (a9 (av [] (f6 (bf (jU (a9 (av [] (bj (.int 20))) (a9 (av [] (bj (.int 150))) tN)))) (bf (dQ pP (bh (af 3) c9))))) tN)))) (bT (da [] 5 (fc qY 2 tN)) (bT (da [] 6 (ja qV (a9 (av [] (af 4)) (a9 (av [] (af 5)) tN)))) (bT (da [] 7 (dQ xq (bh (af 4) c9))) (bT (da [] 8 (dQ dS (bh (af 4) c9))) (bT (da [] 9 (jU (a9 (av [] (bj (.int 1))) (a9 (av [] (bf (dQ lN (bh (bj (.int 1)) (bh (bf (aW gL (af 8) (bj (.int 1)))) c9))))) (a9 (av [] (bf (aW dw (af 8) (bj (.int 1))))) (a9 (av [] (bf (aW dw (bj (.int 1)) (bf (fc bF 2 (a9 (av [] (bf (aW dw (af 8) (bj (.int 1))))) tN)))))) (a9 (av [] (bj (.int 2))) (a9 (av [] (bf (dQ lN (bh (bj (.int 1)) (bh (af 8) c9))))) (a9 (av [] (bf (aW vW (bj (.int 10)) (bj (.int 33))))) tN))))))))) (bT (cE (cU (av [] (bf (zI (af 9) Qz (QA (f6 (bf (jU (a9 (av [] (bj (.int 7))) (a9 (av [] (bj (.int 4))) tN)))) (bf (dQ pP (bh (af 3) c9))))))))) (eW 10) (bT (da [] 11 (ja mI (a9 (av [] (af 4)) (a9 (av [] (af 6)) (a9 (av [] (af 10)) tN))))) (bT (dR (fH (a8 SJ (af 11) (bj (.int 0))) (a8 T3 (bf (ja eR (a9 (av [] (af 4)) (a9 (av [] (af 6)) (a9 (av [] (bf (aW gL (af 11) (bj (.int 1))))) tN))))) (af 10))) (gP [] (oX (bj (.bl false)))) nk) (dR (mO (uG (bf (ja sp_q18 (a9 (av [] (bf (ja xQ (a9 (av [] (af 7)) (a9 (av [] (af 5)) (a9 (av [] (af 10)) tN)))))) (a9 (av [] (af 11)) tN)))))) (gP [] (oX (bj (.bl false)))) nk)))) (bT (da [] 11 (oX (bj .bx))) (bT (dR (a8 neT (af 4) (bf (jU tN))) (da [] 11 (ja mI (a9 (av [] (af 4)) (a9 (av [] (af 6)) (a9 (av [] (bj (.int 1))) tN))))) nk) (dR (DS (mO (uG (bf (ja sp_q18 (a9 (av [] (bf (ja oG (a9 (av [] (af 7)) (a9 (av [] (af 5)) tN))))) (a9 (av [] (af 11)) tN)))))) (a8 neT (af 7) (af 4))) (gP [] (oX (bj (.bl false)))) nk)))))))))))) (gP [] (oX (bV (fH (i9 (bV (a8 Tx (bf (ja oG (a9 (av [] (bf (jU tN))) (a9 (av [] (bj (.str "streets"))) tN)))) (bj .bx)))) (i9 (bV (a8 eqT (bf (ja oG (a9 (av [] (bf (jU (a9 (av [] (Jn (a9 (av [] (bj (.int 3))) (a9 (av [] (bj (.int 4))) tN)))) tN)))) (a9 (av [] (bj (.str "squares"))) tN)))) (bj (.int 0))))))))))
theorem R8(E:Gl G)(BX:fk G k "_law_pots"){bF:mU}(cC:jn G k "_law_next" bF){xW:mU}(LD:jn G k "_law_points" xW){qY:mU}(B2:jn G k "_law_way" qY){qV:cf}(BW:dq G k "_law_pairs" qV){mI:cf}(wX:dq G k "_law_least" mI){eR:cf}(nV:dq G k "_law_parts" eR){sp_q18:cf}(nW:dq G k "_law_same" sp_q18){xQ:cf}(Lw:dq G k "bound_for_parts" xQ){oG:cf}(B4:dq G k "bound_for_all" oG):eG G k ⟨Ai,(ah eY).names,[],false,false,false,λ_ _=>False⟩ (ax eY) (D6 bF xW qY qV mI eR sp_q18 xQ oG):=(ay (G0 1 2 BX (ai (aM (bp (Ov (ag 0) vQ (vS aA)))) aC) E.z_enumerate (ay (aZ 3 (jL (Ol (v_and (wC (eX jr (ag 1) aA)) (Eg (wC (eX jr (bp (bH cC (ag 2) (ai (aM aA) aC))) aA))))))) (ay (aZ 4 (bH LD (ag 2) (ai (aM (bp (cK aA (bp (bH cC (ag 2) (ai (aM aA) aC)))))) (ai (aM (cL (bp (cc (ai (aM aA) (ai (aM aA) aC)))) (bp (uc f_int E.z_int (aD (ag 3) aU) (by decide +kernel))))) aC)))) (ay (aZ 5 (bH B2 (ag 2) aC)) (ay (aZ 6 (bA BW (ai (aM (ag 4)) (ai (aM (ag 5)) aC)))) (ay (aZ 7 (uc f_list E.z_list (aD (ag 4) aU) (by decide +kernel))) (ay (aZ 8 (cG f_len E.z_len (aD (ag 4) aU) (by decide +kernel))) (ay (aZ 9 (cc (ai (aM aA) (ai (aM (bp (cG pD E.z_max (aD aA (aD (bp (d7 (ag 8) aA)) aU)) (by decide +kernel)))) (ai (aM (bp (cK (ag 8) aA))) (ai (aM (bp (cK aA (bp (bH cC (ag 2) (ai (aM (bp (cK (ag 8) aA))) aC)))))) (ai (aM aA) (ai (aM (bp (cG pD E.z_max (aD aA (aD (ag 8) aU)) (by decide +kernel)))) (ai (aM (bp (ug aA aA))) aC))))))))) (ay (fF (gk (aM (bp (Ov (ag 9) vQ (vS (cL (bp (cc (ai (aM aA) (ai (aM aA) aC)))) (bp (uc f_int E.z_int (aD (ag 3) aU) (by decide +kernel))))))))) (bg 10 (hn:=by first|decide|exact of_decide_eq_true rfl)) (ay (aZ 11 (bA wX (ai (aM (ag 4)) (ai (aM (ag 6)) (ai (aM (ag 10)) aC))))) (ay (eu (Qw (xG (bz J5 (ag 11) aA) (vZ (bz J7 (bp (bA nV (ai (aM (ag 4)) (ai (aM (ag 6)) (ai (aM (bp (d7 (ag 11) aA))) aC))))) (ag 10))))) (aK (bR (jL zr))) cN) (aK (eu (mw (jK (bp (bA nW (ai (aM (bp (bA Lw (ai (aM (ag 7)) (ai (aM (ag 5)) (ai (aM (ag 10)) aC)))))) (ai (aM (ag 11)) aC)))))) (aK (bR (jL zr))) cN))))) (ay (aZ 11 (jL uf)) (ay (eu (bz mW (ag 4) (bp (cc aC))) (aK (aZ 11 (bA wX (ai (aM (ag 4)) (ai (aM (ag 6)) (ai (aM aA) aC)))))) cN) (aK (eu (Qw (Ot (mw (jK (bp (bA nW (ai (aM (bp (bA B4 (ai (aM (ag 7)) (ai (aM (ag 5)) aC))))) (ai (aM (ag 11)) aC)))))) (Dz (bz mW (ag 7) (ag 4))))) (aK (bR (jL zr))) cN))))))))))))) (aK (bR (jL (Ol (v_and (wC (eX J6 (bp (bA B4 (ai (aM (bp (cc aC))) (ai (aM uh) aC)))) uf)) (Eg (wC (eX jr (bp (bA B4 (ai (aM (bp (cc (ai (aM (uk (ai (aM aA) (ai (aM aA) aC)))) aC)))) (ai (aM uh) aC)))) aA)))))))))
end
section
local macro_rules|`(tactic| walk_at "vx")=>`(tactic| ((try simp only[aY,bw,List.map_cons,List.map_nil,List.length_cons,List.length_nil,List.replicate_succ,List.replicate_zero,List.cons_append,List.nil_append,Nat.reduceAdd,Nat.reduceSub]);(try dsimp only[bT,Vc.Pq,nk,zH,dR,vb,gP,da,Wy,rg,JY,sZ,bf,oX,V4,oxV,je,jf,av,af,uH,bj,dZ,fu,aW,dw,gL,fC,vM,vW,Qu,FO,G9,a8,bV,eqT,neT,L3,MA,T3,SJ,Xr,isNone,Tx,PQ,uG,fH,DS,mO,i9,f6,Qz,QA,Ww,zI,tN,a9,jU,Jn,c9,bh,dQ,dS,Fb,lN,lV,pP,xq,rq,bE,ja,eW,BL,gC,BM,cU,qu,GX,cE,gq,eC,vD,gU,pR,VG,Hc,wj,Y2,kO,sI,Vc.Tz,Vc.TC,Vc.L6,Vc.L7,yP,bw,Ct,uF,fc,Pp,Fo,sumF,PX,dU,FR,nj,Y4,VP,gn,tG,xo,List.contains,List.elem,Nat.reduceBEq,Option.map_some,T6,Fl,Y1,DT,qK,Pl,Ym,CJ,Pn,DQ,Iq,aY,List.getElem?_cons_zero,List.getElem?_cons_succ,List.getElem?_nil,List.set_cons_zero,List.set_cons_succ,List.map_cons,List.map_nil,List.length_cons,List.length_nil,List.replicate_succ,List.replicate_zero,List.cons_append,List.nil_append,Nat.reduceAdd,Nat.reduceSub,addW,Wo,i6,mE,Hb]);try simp only[List.append_nil,Nat.add_sub_cancel,Nat.zero_add,List.not_mem_nil,not_false_eq_true,true_and,and_true,decide_eq_true_eq,ite_true,ite_false,Bool.not_eq_true',decide_eq_false_iff_not,List.getElem?_cons_zero,List.getElem?_cons_succ]))
local macro_rules|`(tactic| walk_at "vc")=>`(tactic| repeat (refine And.intro (by first|assumption|decide|omega | (unfold fj;omega) | (unfold WG;omega) | (unfold vd;omega)) ?_))
local macro_rules|`(tactic| walk_at "vg")=>`(tactic| simp only[eW,BM,gC,BL,List.length_cons,List.length_nil,Nat.reduceAdd,Nat.zero_add,true_and,List.set_cons_zero,List.set_cons_succ,Int.zero_add])
local macro_rules|`(tactic| walk_at "vd")=>`(tactic| walk_at "vx")
variable [KF]
def Y9(b:Bool):Str:=if b=true then "squares" else "streets"
def dn(b:Bool):D:=.str (Y9 b)
def cY(p:List Int):D:=.tup (p.map D.int)
def Bd(p:List Int):Prop:=p.length<=3/\∀x∈p,-(2^60)<x/\x<2^60
def mV(x:Int):Int:=if x<0 then -x else x
def stepI(b:Bool)(x y:Int):Int:=if b=true then mV (x-y)*mV (x-y)else mV (x-y)
def Bv(b:Bool)(p q:List Int):Int:=((p.zip q).map λxy=>stepI b xy.1 xy.2).sum
def qN:cf:=λds Q=>∃b p q,ds=[dn b,cY p,cY q]/\Bd p/\Bd q/\Q (.sh (.int (Bv b p q)))
theorem rA(b:Bool):b6 8 (dn b)=true:=by cases b<;>decide +kernel
theorem md:b6 8 (.str "streets")=true:=by decide +kernel
theorem l0:b6 8 (.str "squares")=true:=by decide +kernel
theorem ku(b:Bool):kI (dn b) (.str "streets")=!b:=by cases b<;>decide +kernel
theorem kr(b:Bool):kI (dn b) (.str "squares")=b:=by cases b<;>decide +kernel
theorem sz:sizeLine=2^24:=rfl
theorem yh{p q:List Int}(h:Bd p):(p.zip q).length<=3:=by
 rw[List.length_zip];have:=h.1;omega
theorem oZ{α:Type}(l:List α)(f:α->Int):(l.map λa=>D.int (f a)).all isInt=true:=by
 rw[List.all_map];exact List.all_eq_true.mpr λ_ _=>rfl
theorem tM{α:Type}(l:List α)(f:α->Int):(l.map λa=>D.int (f a)).map ig=l.map f:=by
 rw[List.map_map];rfl
theorem UO(ds:List D)(Q:B->Prop)(h:qN ds Q):PC {nx:=λ_=>Q (.sh .bx),rt:=λb _=>Q b} (aY JA.length ds):=by
 obtain⟨b,p,q,rfl,hp,hq,h⟩:=h;unfold PC cY;walk_at "vx";rw[uZ];refine dB (λp=>.tup [.int p.1,.int p.2]) (λxy:Int×Int=>D.int (mV (xy.1-xy.2))) _ (λxy Qs A ha=>?_) (by have:=yh (q:=q) hp;rw[sz];omega) ?_
 ·walk_at "vx"
  exact ha
 ·walk_at "vx"
  rw[ku];refine⟨⟨rA b,md⟩,?_⟩;cases b with
  | false =>
   refine(if_pos rfl).mpr ?_;refine⟨oZ _ _,?_⟩;rw[tM];exact h
  | true =>
   refine(if_neg ∅).mpr ?_
   rw[show(List.map (λxy:Int×Int=>D.int (mV (xy.1-xy.2))) (p.zip q))=(List.map (λxy:Int×Int=>(mV (xy.1-xy.2))) (p.zip q)).map D.int from by rw[List.map_map];rfl]
   refine dB D.int (λd:Int=>D.int (d*d)) _ (λd hd A ha=>?_) (by have:=yh (q:=q) hp;rw[sz,List.length_map];omega) ?_
   ·walk_at "vx"
    refine⟨?_,ha⟩;obtain⟨xy,Qs,rfl⟩:=List.mem_map.mp hd;have h1:=hp.2 _ (List.of_mem_zip Qs).1;have h2:=hq.2 _ (List.of_mem_zip Qs).2;unfold fj mV;left
    split<;>omega
   ·walk_at "vx"
    refine⟨oZ _ _,?_⟩;rw[tM,List.map_map];exact h
def Good(n:Nat)(pts:List (List Int)):Prop:=(1<=n/\n<=3)/\∀p∈pts,p.length=n/\∀x∈p,-(2^59)<x/\x<2^59
theorem Good.bd{n:Nat}{pts:List (List Int)}(g:Good n pts){p:List Int}(h:p∈pts):Bd p:=⟨by have:=(g.2 p h).1;have:=g.1.2;omega,λx hx=>by have:=(g.2 p h).2 x hx;omega⟩
theorem d8{n i a:Nat}(h:(List.range n)[i]?=some a):a=i/\i<n:=by
 have hi:i<n:=by
  have:=(List.getElem?_eq_some_iff.mp h).1
  rwa [List.length_range]at this
 rw[List.getElem?_range hi]at h;cases h;exact⟨rfl,hi⟩
def d4(pts:List (List Int)):D:=.lst (pts.map cY)
theorem iB{pts:List (List Int)}{j:Nat}(h:j<pts.length):(pts.map cY)[j]?=some (cY (pts.getD j [])):=by
 rw[List.getElem?_map,List.getD_eq_getElem?_getD,List.getElem?_eq_getElem h];rfl
theorem getD_mem{pts:List (List Int)}{j:Nat}(h:j<pts.length):pts.getD j []∈pts:=by
 rw[List.getD_eq_getElem?_getD,List.getElem?_eq_getElem h];exact List.getElem_mem h
theorem Bf{α:Type}{xs:List α}{i:Nat}{q:Nat×α}(h:(xs.mapIdx λi x=>(i,x))[i]?=some q):q.1=i/\xs[i]?=some q.2:=by
 rw[List.getElem?_mapIdx]at h;cases e:xs[i]? with
 | none=>rw[e]at h;cases h
 | some x=>rw[e]at h;cases h;exact⟨rfl,rfl⟩
def Shape(n:Nat)(pts:List (List Int)):Prop:=(1<=n/\n<=3)/\∀p∈pts,p.length=n
theorem Good.shape{n:Nat}{pts:List (List Int)}(g:Good n pts):Shape n pts:=⟨g.1,λp hp=>(g.2 p hp).1⟩
def jQ:cf:=λds Q=>∃c:Int,ds=[.int c]/\1<=c/\c<=3/\Q (.sh .bx)
theorem CT(ds:List D)(Q:B->Prop)(h:jQ ds Q):DV {nx:=λ_=>Q (.sh .bx),rt:=λb _=>Q b} (aY zZ.length ds):=by
 obtain⟨c,rfl,h1,h2,h⟩:=h;unfold DV;walk_at "vx";rw[if_neg ⋯,if_neg ⋯]
 exact h
def wc:cf:=λds Q=>∃(p:List Int) (c:Int),ds=[cY p,.int c]/\(p.length:Int)=c/\Q (.sh .bx)
theorem UP(ds:List D)(Q:B->Prop)(h:wc ds Q):Px {nx:=λ_=>Q (.sh .bx),rt:=λb _=>Q b} (aY Jv.length ds):=by
 obtain⟨p,c,rfl,rfl,h⟩:=h;unfold Px cY;walk_at "vx";rw[List.length_map];refine⟨⟨rfl,rfl⟩,?_⟩;have e:kI (.int (p.length:Nat)) (.int (p.length:Nat))=true:=by simp [kI]
 rw[if_neg (by rw[e];decide)]
 exact h
def qQ:cf:=λds Q=>∃n pts,ds=[d4 pts]/\Shape n pts/\Q (.sh .bx)
theorem NA(ds:List D)(Q:B->Prop)(h:qQ ds Q):PJ jQ wc {nx:=λ_=>Q (.sh .bx),rt:=λb _=>Q b} (aY JD.length ds):=by
 obtain⟨n,pts,rfl,hg,h⟩:=h;unfold PJ d4;walk_at "vx";refine cJ cY pts (λi σ=>∃x,σ=[some (.sh (.lst (pts.map cY))),x]) (λi p σ N' hx hI rF=>?_) (λσ hI=>h) ⟨none,rfl⟩;obtain⟨x,rfl⟩:=hI;have hp:=hg.2 p (List.mem_of_getElem? hx);have h1:=hg.1;have h0:0<pts.length:=Nat.lt_of_le_of_lt (Nat.zero_le _) (List.getElem?_eq_some_iff.mp hx).1;have h00:=hg.2 _ (getD_mem h0);walk_at "vg";refine au λN2 pI=>?_;rw[show cY p=.tup (p.map D.int)from rfl]
 walk_at "vx";rw[List.length_map];refine⟨_,rfl,by omega,by omega,?_⟩
 walk_at "vx";subst pI;walk_at "vx";refine aS (n:=0) rfl (iB h0) ?_;rw[show cY (pts.getD 0 [])=.tup ((pts.getD 0 []).map D.int)from rfl]
 walk_at "vx";rw[List.length_map];refine⟨p,_,rfl,by rw[hp,h00],?_⟩
 exact rF _ ⟨_,rfl⟩
def qR:cf:=λds Q=>∃b,ds=[dn b]/\Q (.sh .bx)
theorem NB(ds:List D)(Q:B->Prop)(h:qR ds Q):D2 {nx:=λ_=>Q (.sh .bx),rt:=λb _=>Q b} (aY Ae.length ds):=by
 obtain⟨b,rfl,h⟩:=h;unfold D2;walk_at "vx";refine⟨⟨rA b,md⟩,?_⟩;rw[ku];cases b with
 | false=>exact h
 | true =>
  refine(if_pos rfl).mpr ⟨⟨rA true,l0⟩,?_⟩;rw[kr];exact h
def wd:cf:=λds Q=>∃n b pts,ds=[d4 pts,dn b]/\Shape n pts/\Q (.sh .bx)
theorem UQ(ds:List D)(Q:B->Prop)(h:wd ds Q):Py qQ qR {nx:=λ_=>Q (.sh .bx),rt:=λb _=>Q b} (aY Jw.length ds):=by
 obtain⟨n,b,pts,rfl,hg,h⟩:=h;unfold Py;walk_at "vx";refine⟨n,pts,rfl,hg,?_⟩;walk_at "vx";exact⟨b,rfl,h⟩
def zU:Nat->D->Bool
 | _,.bx=>true
 | _,.int _=>true
 | n+1,.tup xs=>decide (xs.length<=1000000)&&xs.all (zU n)
 | n+1,.lst xs=>decide (xs.length<=1000000)&&xs.all (zU n)
 | _,_=>false
theorem kJ(i:Int):kI (.int i) (.int i)=true:=by simp [kI]
theorem nN:∀p:List Int,m6 (p.map D.int) (p.map D.int)=true
 | []=>rfl
 | x::p=>by
  show(kI (.int x) (.int x)&&m6 (p.map D.int) (p.map D.int))=true;rw[kJ,nN p];rfl
theorem sg:∀pts:List (List Int),m6 (pts.map cY) (pts.map cY)=true
 | []=>rfl
 | p::pts=>by
  show(m6 (p.map D.int) (p.map D.int)&&m6 (pts.map cY) (pts.map cY))=true;rw[nN p,sg pts];rfl
theorem Fm(pts:List (List Int)):kI (.lst (pts.map cY)) (.lst (pts.map cY))=true:=sg pts
theorem vO(pts:List (List Int)):b6 8 (.lst (pts.map cY))=true:=by
 show(pts.map cY).all (b6 7)=true;rw[List.all_map];refine List.all_eq_true.mpr λp _=>?_;show(p.map D.int).all (b6 6)=true;rw[List.all_map];exact List.all_eq_true.mpr λ_ _=>rfl
def pairD(b:Bool)(pts:List (List Int))(i j:Nat):D:=.tup [.int (Bv b (pts.getD i []) (pts.getD j [])),.int i,.int j]
def fY(b:Bool)(pts:List (List Int))(i m:Nat):List D:=(List.range m).map λt=>pairD b pts i (i+1+t)
def d9(b:Bool)(pts:List (List Int)):Nat->List D
 | 0=>[]
 | i+1=>d9 b pts i++fY b pts i (pts.length-(i+1))
def bO(b:Bool)(pts:List (List Int)):List D:=d9 b pts pts.length
theorem uy(b:Bool)(pts:List (List Int))(i m:Nat):(fY b pts i m).length=m:=by unfold fY;rw[List.length_map,List.length_range]
theorem oC(b:Bool)(pts:List (List Int))(i m:Nat):fY b pts i (m+1)=fY b pts i m++[pairD b pts i (i+1+m)]:=by unfold fY;rw[List.range_succ,List.map_append];rfl
theorem oD(b:Bool)(pts:List (List Int)):∀i,(d9 b pts i).length<=i*pts.length
 | 0=>Nat.zero_le _
 | i+1=>by
  have ih:=oD b pts i;show(d9 b pts i++fY b pts i (pts.length-(i+1))).length<=_;rw[List.length_append,uy,Nat.succ_mul];omega
theorem xH{b:Bool}{pts:List (List Int)}{i:Nat}(hl:pts.length<=1000)(hi:i<=pts.length):(d9 b pts i).length<=1000000:=
 Nat.le_trans (oD b pts i) (Nat.mul_le_mul (show i<=1000 by omega) hl)
theorem CW{b:Bool}{pts:List (List Int)}(hl:pts.length<=1000):(bO b pts).length<=1000000:=xH hl (Nat.le_refl _)
theorem uB{b:Bool}{pts:List (List Int)}:∀ {i:Nat} {d:D},d∈d9 b pts i->∃p q,p<i/\p<q/\(i<=pts.length->q<pts.length)/\d=pairD b pts p q
 | i+1,d,h=>by
  rcases List.mem_append.mp (show d∈d9 b pts i++fY b pts i (pts.length-(i+1))from h)with h|h
  ·obtain⟨p,q,h1,h2,h3,h4⟩:=uB h
   exact⟨p,q,by omega,h2,λz=>h3 ⋯,h4⟩
  ·obtain⟨t,ht,rfl⟩:=List.mem_map.mp h
   have ht:=List.mem_range.mp ht;exact⟨i,i+1+t,by omega,by omega,λz=>by omega,rfl⟩
theorem fQ{b:Bool}{pts:List (List Int)}{d:D}(h:d∈bO b pts):∃p q,p<q/\q<pts.length/\d=pairD b pts p q:=by
 obtain⟨p,q,h1,h2,h3,h4⟩:=uB h;exact⟨p,q,h2,h3 (Nat.le_refl _),h4⟩
theorem mh(b:Bool)(pts:List (List Int)):(bO b pts).all ie=true:=List.all_eq_true.mpr λd hd=>by
 obtain⟨p,q,_,_,rfl⟩:=fQ hd;rfl
def mH:cf:=λds Q=>∃b n pts,ds=[d4 pts,dn b]/\Good n pts/\pts.length<=1000/\Q (.own (bO b pts))
def rm(sp:cf)(rest:cA):cA:=(bT (da [] 2 (jU tN)) (bT (cE (qu (bh (bf (dQ dS (bh (af 0) c9))) c9)) (eW 3) (cE (GX (bh (bf (aW dw (af 3) (bj (.int 1)))) (bh (bf (dQ dS (bh (af 0) c9))) c9))) (eW 4) (vb (rg (af 2) (av [] (Jn (a9 (av [] (bf (ja sp (a9 (av [] (af 1)) (a9 (av [] (f6 (af 0) (af 3))) (a9 (av [] (f6 (af 0) (af 4))) tN)))))) (a9 (av [] (af 3)) (a9 (av [] (af 4)) tN))))))))) rest))
theorem CU{b:Bool}{n:Nat}{pts:List (List Int)}{rest:cA}{De:f7}(hg:Good n pts)(hl:pts.length<=1000)(h:∀x3 x4,rest De [some (.sh (d4 pts)),some (.sh (dn b)),some (.own (bO b pts)),x3,x4]):
  rm qN rest De [some (.sh (d4 pts)),some (.sh (dn b)),none,none,none]:=by
 unfold rm;refine au λN hN=>?_;walk_at "vx";refine⟨by decide,?_⟩
 subst hN;refine au λN hN=>?_;rw[show d4 pts=.lst (pts.map cY)from rfl]
 walk_at "vx";rw[List.length_map,Int.toNat_natCast,cM];refine⟨by omega,cJ (λi:Nat=>.int (0+(i:Nat))) (List.range pts.length) (λi σ=>∃x3 x4,σ=[some (.sh (.lst (pts.map cY))),some (.sh (dn b)),some (.own (d9 b pts i)),x3,x4]) (λi a σ N' hx hI rF=>?_) (λσ hI=>?_) ⟨none,none,rfl⟩⟩
 ·obtain⟨rfl,hi⟩:=d8 hx
  obtain⟨x3,x4,rfl⟩:=hI;walk_at "vg";walk_at "vx";rw[List.length_map,cM];refine⟨by omega,?_⟩
  rw[show((pts.length:Int)-((a:Int)+1)).toNat=pts.length-(a+1)by omega]
  refine cJ (λt:Nat=>.int ((a:Int)+1+(t:Nat))) (List.range (pts.length-(a+1))) (λm σ=>∃x4,σ=[some (.sh (.lst (pts.map cY))),some (.sh (dn b)),some (.own (d9 b pts a++fY b pts a m)),some (.sh (.int a)),x4]) (λm t σ N2 pO Xt pI=>?_) (λσ Xt=>?_) ⟨x4,by rw[show fY b pts a 0=[]from rfl,List.append_nil]⟩
  ·obtain⟨rfl,ht⟩:=d8 pO
   obtain⟨x4,rfl⟩:=Xt;walk_at "vx";have hj:a+1+t<pts.length:=by omega
   refine⟨⟨_,rfl⟩,?_⟩;refine aS (n:=a) rfl (iB hi) ?_;refine aS (n:=a+1+t) ⋯ (iB hj) ?_
   walk_at "vx";refine⟨b,_,_,rfl,hg.bd (getD_mem hi),hg.bd (getD_mem hj),?_⟩;walk_at "vx";have hz:=xH (b:=b) hl (show a<=pts.length by omega)
   refine⟨by decide,by rw[sz,List.length_append,uy];omega,pI _ ⟨some (.sh (.int ((a:Int)+1+(t:Int)))),?_⟩⟩
   rw[oC,List.append_assoc];unfold pairD;rw[show((a+1+t:Nat):Int)=(a:Int)+1+(t:Int)by omega]
  ·obtain⟨x4,rfl⟩:=Xt
   rw[List.length_range];exact rF _ ⟨some (.sh (.int a)),x4,rfl⟩
 ·obtain⟨x3,x4,rfl⟩:=hI
  subst hN;rw[List.length_range];exact h x3 x4
theorem Gx(ds:List D)(Q:B->Prop)(h:mH ds Q):VW qN {nx:=λ_=>Q (.sh .bx),rt:=λb _=>Q b} (aY Jy.length ds):=by
 obtain⟨b,n,pts,rfl,hg,hl,h⟩:=h;exact CU hg hl λx3 x4=>by walk_at "vx";exact h
def fq(xs:List D):Prop:=∃c n:Int,xs=[.int c,.int n]
def i7:mU:=λxs ds Q=>fq xs/\∃m:Int,ds=[.int m]/\1<=m/\m<2^200/\∀r ys,0<=r->r<m->fq ys->Q (.sh (.int r)) ys
theorem Ny(xs ds:List D)(Q:B->List D->Prop)(h:i7 xs ds Q):D0 {nx:=yP Q (.sh .bx),rt:=λb σ=>yP Q b σ} (bw Ac.length xs ds):=by
 obtain⟨⟨x,y,rfl⟩,m,rfl,hm,e9,h⟩:=h;unfold D0;refine au λN hN=>?_;simp only[bw];walk_at "vx";refine⟨⟨_,rfl⟩,?_⟩;subst hN;refine au λN hN=>?_;walk_at "vx";subst hN;refine au λN hN=>?_;walk_at "vx";refine⟨by unfold vd;decide,?_⟩
 split
 ·refine⟨by unfold rM;omega,⟨_,rfl⟩,by omega,?_⟩
  exact h _ _ (Int.emod_nonneg _ ⋯) (Int.emod_lt_of_pos _ ⋯) ⟨_,_,rfl⟩
 ·subst hN
  walk_at "vx";refine⟨by unfold fj;omega,by unfold fj;omega,by decide,by unfold fj;omega,by decide,by unfold fj;omega,by unfold fj;omega,by decide,by unfold rM;decide,by omega,?_⟩
  exact h _ _ (Int.emod_nonneg _ ⋯) (Int.emod_lt_of_pos _ ⋯) ⟨_,_,rfl⟩
def qS:mU:=λxs ds Q=>fq xs/\ds=[]/\∀b ys,fq ys->Q (.sh (dn b)) ys
theorem NC(xs ds:List D)(Q:B->List D->Prop)(h:qS xs ds Q):D4 i7 {nx:=yP Q (.sh .bx),rt:=λb σ=>yP Q b σ} (bw Ag.length xs ds):=by
 obtain⟨r0,rfl,h⟩:=h;unfold D4;simp only[bw];walk_at "vx";refine⟨by decide,⟨_,rfl⟩,r0,2,rfl,by decide,by decide,λr ys h0 h1 r1=>?_⟩
 walk_at "vx";refine cV h0 (by simp only[List.length_cons,List.length_nil];omega) λd hd=>?_
 simp only[List.mem_cons,List.not_mem_nil,or_false]at hd;rcases hd with rfl|rfl
 ·exact h false ys r1
 ·exact h true ys r1
def Ez(v:Int):Prop:=-(10^15)<=v/\v<=10^15
def gK:mU:=λxs ds Q=>fq xs/\∃n m:Nat,ds=[.int n,.int m]/\1<=n/\n<=3/\m<=150/\∀pts ys,Good n pts->(∀p∈pts,∀v∈p,Ez v)->pts.length<=m->fq ys->Q (.own (pts.map cY)) ys
theorem DI{α:Type}(l:List α)(a b:α):(l++[a]).set l.length b=l++[b]:=by
 induction l with
 | nil=>rfl
 | cons x l ih=>simp
theorem zj(xs ds:List D)(Q:B->List D->Prop)(h:gK xs ds Q):PL i7 {nx:=yP Q (.sh .bx),rt:=λb σ=>yP Q b σ} (bw JE.length xs ds):=by
 obtain⟨r0,n,m,rfl,IG,Tb,hm,h⟩:=h;unfold PL
 -- many
 refine au λN hN=>?_;simp only[bw];walk_at "vx";refine⟨⟨_,rfl⟩,by decide,⟨_,rfl⟩,r0,3,rfl,by decide,by decide,λa1 x1 Zm a11 r1=>?_⟩
 walk_at "vx";refine cV Zm (by simp only[List.length_cons,List.length_nil];omega) λd hd=>?_
 obtain⟨top,rfl,ht1,Yb⟩:∃v:Int,d=.int v/\1<=v/\v<=m+1:=by
  simp only[List.mem_cons,List.not_mem_nil,or_false]at hd;rcases hd with rfl|rfl|rfl
  ·exact⟨_,rfl,by split<;>omega,by split<;>omega⟩
  ·exact⟨_,rfl,by split<;>omega,by split<;>omega⟩
  ·exact⟨_,rfl,by omega,by omega⟩
 walk_at "vx";refine⟨r1,_,rfl,by omega,by omega,λa2 x2 a20 a21 r2=>?_⟩
 obtain⟨many,hmn,rfl⟩:∃v:Nat,v<=m/\a2=(v:Int):=⟨a2.toNat,by omega,by omega⟩
 walk_at "vx";subst hN
 -- kind
 refine au λN hN=>?_;walk_at "vx";refine⟨⟨_,rfl⟩,r2,6,rfl,by decide,by decide,λkind x3 kd0 kd1 r3=>?_⟩
 walk_at "vx";subst hN;refine au λN hN=>?_;walk_at "vx";refine⟨by decide,?_⟩
 subst hN
 -- the loop
 refine au λN hN=>?_;show cE _ _ _ _ _;generalize ht:bT (da [0] 7 _) _=tb;walk_at "vx";rw[Int.toNat_natCast,cM];refine⟨by omega,cJ (λi:Nat=>.int (0+(i:Nat))) (List.range many) (λi σ=>∃x pts a b c d e,σ=[some (.own x),some (.sh (.int n)),some (.sh (.int m)),some (.sh (.int many)),some (.sh (.int kind)),some (.own (pts.map cY)),a,b,c,d,e]/\fq x/\pts.length=i/\Good n pts/\∀p∈pts,∀v∈p,Ez v) (λi place σ N' hx hI rF=>?_) (λσ hI=>?_) ⟨x3,[],none,none,none,none,none,rfl,r3,rfl,⟨⟨IG,Tb⟩,λp hp=>by cases hp⟩,λp hp=>by cases hp⟩⟩
 ·obtain⟨rfl,hi⟩:=d8 hx
  obtain⟨x,pts,a,b,c,d,e,rfl,rx,hl,hg,hf⟩:=hI;walk_at "vg";subst ht;refine au λN1 rG=>?_;walk_at "vx";refine⟨by decide,?_⟩
  subst rG;refine au λN1 rG=>?_;show cE _ _ _ _ _;generalize ht:bT (da [0] 9 _) _=tb;walk_at "vx";rw[Int.toNat_natCast,cM];refine⟨by omega,cJ (λi:Nat=>.int (0+(i:Nat))) (List.range n) (λi σ=>∃x p c d e,σ=[some (.own x),some (.sh (.int n)),some (.sh (.int m)),some (.sh (.int many)),some (.sh (.int kind)),some (.own (pts.map cY)),some (.sh (.int (place:Nat))),some (.own (p.map D.int)),c,d,e]/\fq x/\p.length=i/\∀v∈p,Ez v) (λj kk σ N2 pO hI pI=>?_) (λσ hI=>?_) ⟨x,[],_,_,_,rfl,rx,rfl,λv hv=>by cases hv⟩⟩
  ·obtain⟨rfl,hj⟩:=d8 pO
   obtain⟨x,p,c,d,e,rfl,rx,d2,Td⟩:=hI;walk_at "vg";subst ht;refine au λN3 Lp=>?_;walk_at "vx";refine⟨⟨_,rfl⟩,rx,4,rfl,by decide,by decide,λb1 y1 b10 b11 Wu=>?_⟩
   walk_at "vx";refine⟨⟨_,rfl⟩,Wu,41,rfl,by decide,by decide,λb2 y2 b20 b21 Vh=>?_⟩
   walk_at "vx";refine⟨by unfold fj;omega,by unfold vd;decide,⟨_,rfl⟩,Vh,3,rfl,by decide,by decide,λb3 y3 b30 b31 YT=>?_⟩
   walk_at "vx";refine⟨by decide,?_⟩
   subst Lp;refine au λN3 Lp=>?_;walk_at "vx";refine⟨⟨_,rfl⟩,⟨_,rfl⟩,by unfold vd;decide,by unfold fj;decide,YT,_,rfl,by decide,by decide,λb4 y4 b40 b41 ry4=>?_⟩
   walk_at "vx";refine⟨by unfold vd;decide,by decide,?_⟩
   subst Lp;refine au λN3 Lp=>?_;walk_at "vx";refine⟨by decide,⟨_,rfl⟩,ry4,2,rfl,by decide,by decide,λb5 y5 b50 b51 ry5=>?_⟩
   walk_at "vx";have aad:b4<2*10^15-1:=b41;have ZI:∀d∈[D.int b1,D.int (b2-20),D.int ((place:Int)*((kk:Int)+1)),D.int ((10:Int)^Int.toNat 15-1-b3),D.int (b4-(10:Int)^Int.toNat 15+1)],∃v,d=.int v/\Ez v:=by
    intro d hd;have hmul:0<=(place:Int)*((kk:Int)+1)/\(place:Int)*((kk:Int)+1)<=150*3:=⟨Int.mul_nonneg ⋯ ⋯,Int.mul_le_mul ⋯ ⋯ ⋯ ⋯⟩
    have W6:(10:Int)^Int.toNat 15=10^15:=rfl;rw[W6]at hd;simp only[List.mem_cons,List.not_mem_nil,or_false]at hd;unfold Ez;rcases hd with rfl|rfl|rfl|rfl|rfl
    all_goals exact⟨_,rfl,by omega,by omega⟩
   refine⟨⟨rfl,rfl⟩,by unfold fj;omega,?_⟩
   refine cV (by split<;>omega) (by simp only[List.length_cons,List.length_nil];split<;>omega) λd hd=>?_
   obtain⟨tu,rfl,htu⟩:∃v:Int,d=.int v/\(v=1\/v=-1):=by
    simp only[List.mem_cons,List.not_mem_nil,or_false]at hd;rcases hd with rfl|rfl
    ·exact⟨_,rfl,.inl rfl⟩
    ·exact⟨_,rfl,.inr rfl⟩
   subst Lp;walk_at "vx";refine⟨⟨_,rfl⟩,?_⟩;refine cV (by split<;>omega) (by simp only[List.length_cons,List.length_nil];split<;>omega) λd hd=>?_
   obtain⟨v,rfl,hv⟩:=ZI d hd;walk_at "vx";refine⟨by unfold fj;omega,by rw[List.length_map,sz];omega,pI _ ⟨y5,p++[tu*v],_,_,_,by rw[List.map_append];rfl,ry5,by simp [d2],λw hw=>?_⟩⟩
   rcases List.mem_append.mp hw with hw|hw
   ·exact Td w hw
   ·rw[List.mem_singleton.mp hw]
    unfold Ez at hv ⊢;rcases htu with rfl|rfl<;>omega
  ·obtain⟨x,p,c,d,e,rfl,rx,d2,Td⟩:=hI
   rw[List.length_range]at d2;subst rG;have good:∀q:List Int,q.length=n->(∀v∈q,Ez v)->Good n (pts++[q])/\∀p∈pts++[q],∀v∈p,Ez v:=λq hq hv=>⟨⟨hg.1,λp hp=>by
    rcases List.mem_append.mp hp with hp|hp
    ·exact hg.2 p hp
    ·rw[List.mem_singleton.mp hp]
     exact⟨hq,λv Tf=>by have:=hv v Tf;unfold Ez at this;omega⟩⟩,λp hp=>by
    rcases List.mem_append.mp hp with hp|hp
    ·exact hf p hp
    ·rw[List.mem_singleton.mp hp];exact hv⟩
   have e1:pts.map cY++[D.tup (p.map D.int)]=(pts++[p]).map cY:=by rw[List.map_append];rfl
   dsimp only;refine au λN1 rG=>?_;walk_at "vx";refine⟨⟨_,rfl⟩,by rw[List.length_map,sz];omega,?_⟩
   rw[e1];subst rG;walk_at "vx";have done:∀(x:List D) (q:List Int) (e1 e2 e3 e4 e5:Option B),fq x->q.length=n->(∀v∈q,Ez v)->N' [some (.own x),some (.sh (.int n)),some (.sh (.int m)),some (.sh (.int many)),some (.sh (.int kind)),some (.own ((pts++[q]).map cY)),e1,e2,e3,e4,e5]:=λx q e1 e2 e3 e4 e5 rx hq hv =>
    rF _ ⟨x,pts++[q],e1,e2,e3,e4,e5,rfl,rx,by simp [hl],(good q hq hv).1,(good q hq hv).2⟩
   refine⟨⟨rfl,rfl⟩,?_⟩
   split
   ·split
    ·rename_i LV
     have LV:(0:Int)<place:=by simpa using LV
     refine⟨⟨_,rfl⟩,rx,2,rfl,by decide,by decide,λr1 y1 _ _ Wu=>?_⟩
     walk_at "vx";refine⟨⟨rfl,rfl⟩,?_⟩
     split
     ·refine⟨⟨_,rfl⟩,Wu,_,rfl,by omega,by omega,λr2 y2 c0 c1 Vh=>?_⟩
      walk_at "vx";have hj:r2.toNat<pts.length:=by omega
      refine aS (n:=r2.toNat) ⋯ (by rw[List.map_append,List.getElem?_append_left (by rw[List.length_map];exact hj)];exact iB hj) ?_
      refine⟨⟨_,rfl⟩,?_⟩;rw[List.length_map,Cy (by simp),List.length_append,List.length_singleton,Nat.add_sub_cancel,List.map_append]
      dsimp only;rw[<- List.length_map (f:=cY) (as:=pts),show List.map cY [p]=[cY p]from rfl,DI]
      have:=done y2 (pts.getD r2.toNat []) (some (.sh (.int (place:Nat)))) (some (.own (p.map D.int))) c d e Vh (hg.2 _ (getD_mem hj)).1 (hf _ (getD_mem hj));rw[List.map_append]at this;exact this
     ·exact done y1 p _ _ _ _ _ Wu d2 Td
    ·exact done x p _ _ _ _ _ rx d2 Td
   ·exact done x p _ _ _ _ _ rx d2 Td
 ·obtain⟨x,pts,a,b,c,d,e,rfl,rx,hl,hg,hf⟩:=hI
  subst hN;rw[List.length_range]at hl;walk_at "vx";exact⟨by decide,h pts x hg hf ⋯ rx⟩
def eS:Nat->cf
 | 0=>λ_ _=>False
 | n+1=>λds Q=>∃x,ds=[x,x]/\zU n x=true/\Q (.sh (.bl true))
theorem pG{α β:Type}:∀l:List α,l.filterMap (λ_=>(none:Option β))=[]
 | []=>rfl
 | _::l=>by rw[List.filterMap_cons_none rfl,pG l]
theorem Gk{n:Nat}{xs:List D}(h:zU (n+1) (.lst xs)=true):xs.length<=1000000/\∀x∈xs,zU n x=true:=by
 have h':(decide (xs.length<=1000000)&&xs.all (zU n))=true:=h;rw[Bool.and_eq_true]at h';exact⟨of_decide_eq_true h'.1,List.all_eq_true.mp h'.2⟩
theorem Gm{n:Nat}{xs:List D}(h:zU (n+1) (.tup xs)=true):xs.length<=1000000/\∀x∈xs,zU n x=true:=by
 have h':(decide (xs.length<=1000000)&&xs.all (zU n))=true:=h;rw[Bool.and_eq_true]at h';exact⟨of_decide_eq_true h'.1,List.all_eq_true.mp h'.2⟩
theorem vR(n:Nat)(ds:List D)(Q:B->Prop)(h:eS (n+1) ds Q):D1 (eS n) {nx:=λ_=>Q (.sh .bx),rt:=λb _=>Q b} (aY Ad.length ds):=by
 obtain⟨x,rfl,ok,h⟩:=h;unfold D1;cases x with
 | bx=>walk_at "vx";exact h
 | tk _=>cases n<;>exact absurd ok (by simp [zU])
 | int i =>
  walk_at "vx";have e:kI (.int i) (.int i)=true:=kJ i;have e2:kI (.bl false) (.bl false)=true:=rfl;refine(if_neg ∅).mpr ((if_neg ∅).mpr ((if_pos ∅).mpr ?_))
  refine⟨⟨rfl,rfl⟩,?_⟩;refine(if_pos ∅).mpr ⟨⟨rfl,rfl⟩,?_⟩
  rw[e];exact h
 | tup xs =>
  cases n with
  | zero=>cases ok
  | succ n =>
   obtain⟨hl,ha⟩:=Gm ok;walk_at "vx";refine(if_neg ∅).mpr ((if_pos ∅).mpr ⟨⟨rfl,rfl⟩,(if_neg ∅).mpr ((if_neg ∅).mpr ⟨⟨rfl,rfl⟩,(if_neg (by rw[kJ];decide)).mpr ?_⟩)⟩)
   rw[Int.toNat_natCast,cM];refine⟨by omega,gY (λi:Nat=>.int (0+(i:Nat))) (λ_=>none) (List.range xs.length) (λi hi A Bn hB=>?_) (by rw[sz,List.length_range];omega) ?_⟩
   ·have hi:=List.mem_range.mp hi
    walk_at "vx";refine jC (n:=i) ⋯ (List.getElem?_eq_getElem hi) ?_
    refine jC (n:=i) ⋯ (List.getElem?_eq_getElem hi) ?_
    walk_at "vx";exact⟨_,rfl,ha _ (List.getElem_mem hi),hB⟩
   ·rw[pG]
    exact⟨Nat.zero_le _,⟨rfl,rfl⟩,h⟩
 | lst xs =>
  cases n with
  | zero=>cases ok
  | succ n =>
   obtain⟨hl,ha⟩:=Gk ok;walk_at "vx";refine(if_neg ∅).mpr ((if_pos ∅).mpr ⟨⟨rfl,rfl⟩,(if_neg ∅).mpr ((if_neg ∅).mpr ⟨⟨rfl,rfl⟩,(if_neg (by rw[kJ];decide)).mpr ?_⟩)⟩)
   rw[Int.toNat_natCast,cM];refine⟨by omega,gY (λi:Nat=>.int (0+(i:Nat))) (λ_=>none) (List.range xs.length) (λi hi A Bn hB=>?_) (by rw[sz,List.length_range];omega) ?_⟩
   ·have hi:=List.mem_range.mp hi
    walk_at "vx";refine aS (n:=i) ⋯ (List.getElem?_eq_getElem hi) ?_
    refine aS (n:=i) ⋯ (List.getElem?_eq_getElem hi) ?_
    walk_at "vx";exact⟨_,rfl,ha _ (List.getElem_mem hi),hB⟩
   ·rw[pG]
    exact⟨Nat.zero_le _,⟨rfl,rfl⟩,h⟩
 | str _=>cases n<;>cases ok
 | bl _=>cases n<;>cases ok
 | dct _=>cases n<;>cases ok
 | exc _=>cases n<;>cases ok
 | fZ _=>cases n<;>cases ok
 | mZ _=>cases n<;>cases ok
 | kp _ _ _ _=>cases n<;>cases ok
def rV(b:Bool)(pts:List (List Int))(j:Nat):List D:=(List.range j).map λi=>pairD b pts i j
def dF(b:Bool)(pts:List (List Int)):Nat->List D
 | 0=>[]
 | j+1=>dF b pts j++rV b pts j
theorem rX(b:Bool)(pts:List (List Int)):∀j,(dF b pts j).length<=j*j
 | 0=>Nat.zero_le _
 | j+1=>by
  have ih:=rX b pts j;show(dF b pts j++rV b pts j).length<=_;rw[List.length_append,rV,List.length_map,List.length_range,Nat.succ_mul,Nat.mul_succ];omega
theorem rY{b:Bool}{pts:List (List Int)}:∀ {n:Nat} {d:D},d∈dF b pts n ↔ ∃i j,i<j/\j<n/\d=pairD b pts i j
 | 0,d=>⟨(λh=>by cases h),(λ⟨i,j,_,h,_⟩=>by omega)⟩
 | n+1,d=>by
  show d∈dF b pts n++rV b pts n ↔ _;rw[List.mem_append,rY,rV,List.mem_map];constructor
  ·rintro(⟨i,j,h1,h2,h3⟩|⟨i,h1,h2⟩)
   ·exact⟨i,j,h1,by omega,h3⟩
   ·exact⟨i,n,List.mem_range.mp h1,by omega,h2.symm⟩
  ·rintro⟨i,j,h1,h2,h3⟩
   by_cases h:j<n
   ·exact .inl ⟨i,j,h1,h,h3⟩
   ·have:j=n:=by omega
    subst this;exact .inr ⟨i,List.mem_range.mpr h1,h3.symm⟩
def iG(b:Bool)(pts:List (List Int))(n:Nat):Nat->List D
 | 0=>[]
 | i+1=>iG b pts n i++fY b pts i (n-(i+1))
theorem uA(b:Bool)(pts:List (List Int)):∀i,iG b pts pts.length i=d9 b pts i
 | 0=>rfl
 | i+1=>by show iG b pts pts.length i++_=d9 b pts i++_;rw[uA b pts i]
theorem UY{α:Type}(A C R X:List α):((A++C)++(R++X)).Perm ((A++R)++(C++X)):=by
 rw[List.append_assoc,List.append_assoc];refine List.Perm.append_left A ?_;rw[<- List.append_assoc,<- List.append_assoc];exact List.Perm.append_right X List.perm_append_comm
theorem oE(b:Bool)(pts:List (List Int))(n:Nat):∀i,i<=n->(iG b pts (n+1) i).Perm (iG b pts n i++(List.range i).map λt=>pairD b pts t n)
 | 0,_=>List.Perm.refl _
 | i+1,h=>by
  have ih:=oE b pts n i ⋯
  show(iG b pts (n+1) i++fY b pts i (n+1-(i+1))).Perm ((iG b pts n i++fY b pts i (n-(i+1)))++(List.range (i+1)).map λt=>pairD b pts t n);rw[show n+1-(i+1)=n-(i+1)+1 by omega,oC,show i+1+(n-(i+1))=n by omega,List.range_succ,List.map_append]
  exact(List.Perm.append_right _ ih).trans (UY _ _ _ _)
theorem nH(b:Bool)(pts:List (List Int)):∀n,(dF b pts n).Perm (iG b pts n n)
 | 0=>List.Perm.refl _
 | n+1=>by
  have ih:=nH b pts n;show(dF b pts n++rV b pts n).Perm (iG b pts (n+1) n++fY b pts n (n+1-(n+1)));rw[Nat.sub_self,show fY b pts n 0=[]from rfl,List.append_nil]
  exact(List.Perm.append_right _ ih).trans (oE b pts n n (Nat.le_refl _)).symm
theorem lb(b:Bool)(pts:List (List Int)):(dF b pts pts.length).Perm (bO b pts):=by
 have:=nH b pts pts.length
 rwa [uA]at this
theorem zv(b:Bool)(pts:List (List Int)):cD (dF b pts pts.length)=cD (bO b pts):=
 mD (mh b pts) ((cq _).trans (lb b pts)) (eP _)
def jP:cf:=λds Q=>∃b n pts,ds=[d4 pts,dn b]/\Good n pts/\pts.length<=1000/\Q (.own (cD (bO b pts)))
def oH(t:Int×Nat×Nat):D:=.tup [.int t.1,.int (t.2.1:Nat),.int (t.2.2:Nat)]
theorem DN:∀l:List Int,(∀x∈l,0<=x)->0<=l.sum
 | [],_=>by simp
 | x::l,h=>by
  rw[List.sum_cons];have:=DN l λy hy=>h y (List.mem_cons_of_mem _ hy);have:=h x (List.mem_cons_self ..);omega
theorem K2(b:Bool)(p q:List Int):0<=Bv b p q:=DN _ λx hx=>by
 obtain⟨xy,_,rfl⟩:=List.mem_map.mp hx;unfold stepI mV
 split
 ·exact Int.mul_nonneg (by split<;>omega) (by split<;>omega)
 ·split<;>omega
theorem Nu(ds:List D)(Q:B->Prop)(h:jP ds Q):DW wd mH {nx:=λ_=>Q (.sh .bx),rt:=λb _=>Q b} (aY z0.length ds):=by
 obtain⟨b,n,pts,rfl,hg,hl,h⟩:=h;unfold DW;refine au λN hN=>?_;walk_at "vx";refine⟨n,b,pts,rfl,hg.shape,?_⟩;walk_at "vx";subst hN;walk_at "vx";refine⟨b,n,pts,rfl,hg,hl,?_⟩;walk_at "vx";exact⟨mh b pts,h⟩
def pV(a b:Int):Int:=if b<a then b else a
def hZ(a b:Int):Int:=if b>a then b else a
def cR(ls:List Int)(i j:Nat):List Int:=ls.map λx=>if x=hZ (ls.getD i 0) (ls.getD j 0)then pV (ls.getD i 0) (ls.getD j 0)else x
theorem fO{ls:List Int}{j:Nat}(h:j<ls.length):(ls.map D.int)[j]?=some (.int (ls.getD j 0)):=by
 rw[List.getElem?_map,List.getD_eq_getElem?_getD,List.getElem?_eq_getElem h];rfl
theorem sf(a b:Int):kI (.int a) (.int b)=decide (a=b):=by
 unfold kI
 by_cases h:a=b
 ·simp [h]
 ·simp [h]
def fG:cf:=λds Q=>∃(ls:List Int) (i j:Nat),ds=[.lst (ls.map D.int),.int i,.int j]/\i<ls.length/\j<ls.length/\ls.length<=1000/\Q (.own ((cR ls i j).map D.int))
theorem UR(ds:List D)(Q:B->Prop)(h:fG ds Q):D5 {nx:=λ_=>Q (.sh .bx),rt:=λb _=>Q b} (aY Ah.length ds):=by
 obtain⟨ls,i,j,rfl,hi,hj,hl,h⟩:=h;unfold D5;refine au λN hN=>?_;walk_at "vx";refine aS (n:=i) rfl (fO hi) ?_;refine aS (n:=j) rfl (fO hj) ?_;walk_at "vx";subst hN;refine au λN hN=>?_;walk_at "vx";refine aS (n:=i) rfl (fO hi) ?_;refine aS (n:=j) rfl (fO hj) ?_;walk_at "vx";subst hN;walk_at "vx";refine dB D.int (λx:Int=>D.int (if x=hZ (ls.getD i 0) (ls.getD j 0)then pV (ls.getD i 0) (ls.getD j 0)else x)) ls (λx hx A ha=>?_) (by rw[sz];omega) ?_
 ·walk_at "vx"
  refine⟨⟨rfl,rfl⟩,?_⟩;rw[sf];unfold hZ pV at ha
  by_cases e:x=if ls.getD j 0>ls.getD i 0 then ls.getD j 0 else ls.getD i 0
  ·rw[if_pos e]at ha
   exact(if_pos (decide_eq_true e)).mpr ha
  ·rw[if_neg e]at ha
   exact(if_neg (by rw[decide_eq_false e];decide)).mpr ha
 ·unfold cR at h
  rw[List.map_map]at h;exact h
abbrev Tr:=Int×Nat×Nat
def aH(s:List Int×List Tr)(t:Tr):List Int×List Tr:=if s.1.getD t.2.1 0=s.1.getD t.2.2 0 then s else(cR s.1 t.2.1 t.2.2,s.2++[t])
def cn(n:Nat):List Int:=(List.range n).map λi:Nat=>(i:Int)
def aJ(n:Nat)(ts:List Tr):List Int×List Tr:=ts.foldl aH (cn n,[])
theorem fold_succ{n:Nat}{ts:List Tr}{i:Nat}{t:Tr}(h:ts[i]?=some t):aJ n (ts.take (i+1))=aH (aJ n (ts.take i)) t:=by
 unfold aJ;rw[List.take_add_one,h,Option.toList_some,List.foldl_append];rfl
theorem g0(n:Nat):∀ts:List Tr,(aJ n ts).1.length=n/\(aJ n ts).2.length<=ts.length/\∀t∈(aJ n ts).2,t∈ts:=by
 have key:∀(ts:List Tr) (s:List Int×List Tr),s.1.length=n->(ts.foldl aH s).1.length=n/\(ts.foldl aH s).2.length<=s.2.length+ts.length/\∀t∈(ts.foldl aH s).2,t∈s.2\/t∈ts:=by
  intro ts
  induction ts with
  | nil=>intro s h;exact⟨h,by simp,λt ht=>.inl ht⟩
  | cons t ts ih =>
   intro s h;have h1:(aH s t).1.length=n/\(aH s t).2.length<=s.2.length+1/\∀u∈(aH s t).2,u∈s.2\/u=t:=by
    unfold aH
    split
    ·exact⟨h,by omega,λu hu=>.inl hu⟩
    ·refine⟨by unfold cR;rw[List.length_map];exact h,by simp,λu hu=>?_⟩
     rcases List.mem_append.mp hu with hu|hu
     ·exact .inl hu
     ·exact .inr (List.mem_singleton.mp hu)
   obtain⟨i1,i2,i3⟩:=ih (aH s t) h1.1;refine⟨i1,?_,λu hu=>?_⟩
   ·rw[List.foldl_cons,List.length_cons]
    have:=h1.2.1;omega
   ·rw[List.foldl_cons]at hu
    rcases i3 u hu with hu|hu
    ·rcases h1.2.2 u hu with hu|rfl
     ·exact .inl hu
     ·exact .inr (List.mem_cons_self ..)
    ·exact .inr (List.mem_cons_of_mem _ hu)
 intro ts;have:=key ts (cn n,[]) (by unfold cn;rw[List.length_map,List.length_range])
 refine⟨this.1,Nat.le_trans this.2.1 (by simp),λt ht=>?_⟩
 rcases this.2.2 t ht with h|h
 ·cases h
 ·exact h
theorem zk(b:Bool)(pts:List (List Int)):∃ts:List Tr,cD (bO b pts)=ts.map oH/\∀t∈ts,t.2.1<t.2.2/\t.2.2<pts.length:=by
 have key:∀l:List D,(∀d∈l,∃i j,i<j/\j<pts.length/\d=pairD b pts i j)->∃ts:List Tr,l=ts.map oH/\∀t∈ts,t.2.1<t.2.2/\t.2.2<pts.length:=by
  intro l
  induction l with
  | nil=>intro _;exact⟨[],rfl,λt ht=>by cases ht⟩
  | cons d l ih =>
   intro h;obtain⟨i,j,h1,h2,rfl⟩:=h d (List.mem_cons_self ..);obtain⟨ts,e,h3⟩:=ih λx hx=>h x (List.mem_cons_of_mem _ hx);refine⟨(_,i,j)::ts,by rw[e];rfl,λt ht=>?_⟩
   rcases List.mem_cons.mp ht with rfl|ht
   ·exact⟨h1,h2⟩
   ·exact h3 t ht
 refine key _ λd hd=>?_;obtain⟨p,q,h1,h2,h⟩:=fQ ((cq _).mem_iff.mp hd);exact⟨p,q,h1,h2,h⟩
def zX(b:Bool)(pts:List (List Int))(l:List D):Prop:=∃ts:List Tr,cD (bO b pts)=ts.map oH/\l=(aJ pts.length ts).2.map oH
theorem ya:∀ts us:List Tr,ts.map oH=us.map oH->ts=us
 | [],[],_=>rfl
 | [],_::_,h=>by simp at h
 | _::_,[],h=>by simp at h
 | t::ts,u::us,h=>by
  rw[List.map_cons,List.map_cons]at h
  injection h with h1 h2
  rw[ya ts us h2];congr 1;obtain⟨a,i,j⟩:=t;obtain⟨a',i',j'⟩:=u
  injection h1 with h1
  injection h1 with h3 h1
  injection h1 with h4 h1
  injection h1 with h5 _
  injection h3 with h3
  injection h4 with h4
  injection h5 with h5
  have h3:a=a':=h3;have h4:(i:Int)=(i':Int):=h4;have h5:(j:Int)=(j':Int):=h5;rw[h3,show i=i' by omega,show j=j' by omega]
theorem DC(n:Nat):ng 0 n=(cn n).map D.int:=by
 unfold cn;rw[cM,List.map_map];refine List.map_congr_left λi _=>?_;show D.int (0+(i:Int))=D.int (i:Int);rw[Int.zero_add]
def kP:cf:=λds Q=>∃b n pts,ds=[d4 pts,dn b]/\Good n pts/\pts.length<=1000/\∀l,zX b pts l->l.length<=1000000->(∀d∈l,∃t:Tr,d=oH t)->Q (.own l)
theorem wu{b:Bool}{pts:List (List Int)}(hl:pts.length<=1000){ts:List Tr}(e:cD (bO b pts)=ts.map oH):ts.length<=1000000:=by
 have h1:=(cq (bO b pts)).length_eq;have h2:=CW (b:=b) hl;rw[e,List.length_map]at h1;omega
theorem ND(ds:List D)(Q:B->Prop)(h:kP ds Q):DU jP fG {nx:=λ_=>Q (.sh .bx),rt:=λb _=>Q b} (aY zY.length ds):=by
 obtain⟨b,n,pts,rfl,hg,hl,h⟩:=h;unfold DU;rw[show d4 pts=.lst (pts.map cY)from rfl]
 refine au λN hN=>?_;walk_at "vx";rw[List.length_map,Int.toNat_natCast,DC];refine⟨by omega,?_⟩
 subst hN;refine au λN hN=>?_;walk_at "vx";refine⟨by decide,?_⟩
 subst hN;refine au λN hN=>?_;show cE _ _ _ _ _;generalize ht:dR _ _ _=tb;walk_at "vx";refine⟨b,n,pts,rfl,hg,hl,?_⟩;walk_at "vx";obtain⟨ts,e,va⟩:=zk b pts;have hz:=wu hl e;rw[e];refine cJ oH ts (λi σ=>∃x4 x5 x6,σ=[some (.sh (.lst (pts.map cY))),some (.sh (dn b)),some (.own ((aJ pts.length (ts.take i)).1.map D.int)),some (.own ((aJ pts.length (ts.take i)).2.map oH)),x4,x5,x6]) (λi t σ N' hx hI rF=>?_) (λσ hI=>?_) ⟨_,_,_,rfl⟩
 ·obtain⟨x4,x5,x6,rfl⟩:=hI
  subst ht;obtain⟨jy,ZQ⟩:=va t (List.mem_of_getElem? hx);obtain⟨f1,f2,f3⟩:=g0 pts.length (ts.take i);have hti:=List.length_take_le' i ts;unfold oH;walk_at "vg";walk_at "vx";refine aS (n:=t.2.1) rfl (fO ⋯) ?_
  refine aS (n:=t.2.2) rfl (fO ⋯) ?_
  refine⟨⟨rfl,rfl⟩,?_⟩;rw[sf];have fs:=fold_succ (n:=pts.length) hx;unfold aH at fs
  by_cases hq:(aJ pts.length (ts.take i)).1.getD t.2.1 0=(aJ pts.length (ts.take i)).1.getD t.2.2 0
  ·rw[if_pos hq]at fs
   refine(if_neg (by rw[decide_eq_true hq];decide)).mpr ?_
   exact rF _ ⟨_,_,_,by rw[fs];rfl⟩
  ·rw[if_neg hq]at fs
   refine(if_pos (by rw[decide_eq_false hq])).mpr ?_
   refine⟨_,t.2.1,t.2.2,rfl,by omega,by omega,by omega,?_⟩
   walk_at "vx";refine⟨⟨_,rfl⟩,by decide,by rw[List.length_map,sz];have:=List.length_take_le' i ts;omega,?_⟩
   exact rF _ ⟨_,_,_,by rw[fs,List.map_append];rfl⟩
 ·obtain⟨x4,x5,x6,rfl⟩:=hI
  subst hN;rw[List.take_length];walk_at "vx";obtain⟨f1,f2,f3⟩:=g0 pts.length ts;exact h _ ⟨ts,e,rfl⟩ (by rw[List.length_map];omega) λd hd=>by
   obtain⟨t,_,rfl⟩:=List.mem_map.mp hd;exact⟨t,rfl⟩
theorem tR{b:Bool}{pts:List (List Int)}{i j:Nat}(jy:i<j)(hj:j<pts.length):∀m,i<m->pairD b pts i j∈d9 b pts m
 | m+1,h=>by
  show _∈d9 b pts m++fY b pts m (pts.length-(m+1))
  by_cases e:i=m
  ·subst e
   exact List.mem_append_right _ (List.mem_map.mpr ⟨j-(i+1),List.mem_range.mpr ⋯,by rw[show i+1+(j-(i+1))=j by omega]⟩)
  ·exact List.mem_append_left _ (tR jy hj m ⋯)
theorem y6{b:Bool}{pts:List (List Int)}{i j:Nat}(jy:i<j)(hj:j<pts.length):pairD b pts i j∈bO b pts:=tR jy hj _ ⋯
theorem iu{ls:List Int}{i j x:Nat}(hx:x<ls.length):(cR ls i j).getD x 0=if ls.getD x 0=hZ (ls.getD i 0) (ls.getD j 0)then pV (ls.getD i 0) (ls.getD j 0)else ls.getD x 0:=by
 unfold cR;rw[List.getD_eq_getElem?_getD,List.getElem?_map,List.getD_eq_getElem?_getD (l:=ls) (i:=x),List.getElem?_eq_getElem hx];rfl
def HP(ls:List Int):Prop:=∀x,x<ls.length->∃r:Nat,ls.getD x 0=(r:Int)/\r<=x/\ls.getD r 0=(r:Int)
def bK(ls:List Int):Nat:=(List.range ls.length).countP λx=>decide (ls.getD x 0=(x:Int))
theorem nK(P:Nat->Bool)(t0:Nat):∀m,(List.range m).countP (λt=>P t&&decide (t=t0))=if t0<m/\P t0=true then 1 else 0
 | 0=>by simp
 | m+1=>by
  rw[List.range_succ,List.countP_append,nK P t0 m,List.countP_singleton]
  by_cases h:m=t0
  ·subst h
   rw[if_neg ⋯,decide_eq_true rfl,Bool.and_true]
   by_cases hp:P m=true
   ·rw[if_pos hp,if_pos ⟨Nat.lt_succ_self _,hp⟩]
   ·rw[if_neg hp,if_neg (λz=>hp z.2)]
  ·rw[decide_eq_false h,Bool.and_false,if_neg (show¬false=true by decide),Nat.add_zero]
   by_cases hc:t0<m/\P t0=true
   ·rw[if_pos hc,if_pos ⟨by omega,hc.2⟩]
   ·rw[if_neg hc,if_neg (λz=>hc ⟨by omega,z.2⟩)]
theorem lh(P:Nat->Bool)(h:Nat):∀n,(List.range n).countP P=(List.range n).countP (λx=>P x&&!decide (x=h))+if h<n/\P h=true then 1 else 0
 | 0=>by simp
 | n+1=>by
  rw[List.range_succ,List.countP_append,List.countP_append,lh P h n,List.countP_singleton,List.countP_singleton]
  by_cases e:n=h
  ·subst e
   rw[if_neg (show¬(n<n/\P n=true)by omega),decide_eq_true rfl,Bool.not_true,Bool.and_false,if_neg (show¬false=true by decide)]
   by_cases hp:P n=true
   ·rw[if_pos hp,if_pos ⟨Nat.lt_succ_self _,hp⟩]
   ·rw[if_neg hp,if_neg (λz=>hp z.2)]
  ·rw[decide_eq_false e,Bool.not_false,Bool.and_true]
   by_cases hc:h<n/\P h=true
   ·rw[if_pos hc,if_pos (show h<n+1/\P h=true from⟨by omega,hc.2⟩)];omega
   ·rw[if_neg hc,if_neg (show¬(h<n+1/\P h=true) fromλz=>hc ⟨by omega,z.2⟩)];omega
theorem CF{ls:List Int}{i j:Nat}(L:HP ls)(hi:i<ls.length)(hj:j<ls.length)(cm:ls.getD i 0≠ls.getD j 0):HP (cR ls i j)/\bK (cR ls i j)+1=bK ls:=by
 obtain⟨a,ea,ha,ra⟩:=L i hi;obtain⟨c,ec,hc,rc⟩:=L j hj;obtain⟨lo,hh,e1,e2,fy,u9,hhh,rl,rh⟩:∃lo hh:Nat,pV (ls.getD i 0) (ls.getD j 0)=(lo:Int)/\hZ (ls.getD i 0) (ls.getD j 0)=(hh:Int)/\lo<hh/\lo<ls.length/\hh<ls.length/\ls.getD lo 0=(lo:Int)/\ls.getD hh 0=(hh:Int):=by
  rw[ea,ec]at cm ⊢;unfold pV hZ
  by_cases h:c<a
  ·exact⟨c,a,by rw[if_pos ⋯],by rw[if_neg ⋯],h,by omega,by omega,rc,ra⟩
  ·exact⟨a,c,by rw[if_neg ⋯],by rw[if_pos ⋯],by omega,by omega,by omega,ra,rc⟩
 have len:(cR ls i j).length=ls.length:=by unfold cR;rw[List.length_map]
 have get:∀x,x<ls.length->(cR ls i j).getD x 0=if ls.getD x 0=(hh:Int)then(lo:Int)else ls.getD x 0:=λx hx=>by rw[iu hx,e1,e2]
 refine⟨λx hx=>?_,?_⟩
 ·rw[len]at hx
  obtain⟨r,er,hr,rr⟩:=L x hx;rw[get x hx,er]
  by_cases e:(r:Int)=(hh:Int)
  ·refine⟨lo,if_pos e,by omega,?_⟩
   rw[get lo u9,rl,if_neg ⋯]
  ·refine⟨r,if_neg e,hr,?_⟩
   rw[get r ⋯,rr,if_neg e]
 ·unfold bK
  rw[len,lh (λx=>decide (ls.getD x 0=(x:Int))) hh ls.length,if_pos ⟨hhh,decide_eq_true rh⟩];congr 1;refine List.countP_congr λx hx=>?_;have hx:=List.mem_range.mp hx;rw[get x hx]
  by_cases e:ls.getD x 0=(hh:Int)
  ·rw[if_pos e,e]
   by_cases z:x=hh
   ·subst z
    simp;omega
   ·simp [z]
    constructor
    ·intro y
     have:x=lo:=by omega
     rw[this,rl]at e;omega
    ·intro y;omega
  ·rw[if_neg e]
   by_cases z:x=hh
   ·rw[z,rh]at e;exact absurd rfl e
   ·simp [z]
theorem ou(n:Nat):HP (cn n)/\bK (cn n)=n/\(cn n).length=n:=by
 have len:(cn n).length=n:=by unfold cn;rw[List.length_map,List.length_range]
 have get:∀x,x<n->(cn n).getD x 0=(x:Int):=λx hx=>by
  unfold cn;rw[List.getD_eq_getElem?_getD,List.getElem?_map,List.getElem?_range hx];rfl
 refine⟨λx hx=>?_,?_,len⟩
 ·rw[len]at hx
  exact⟨x,get x hx,Nat.le_refl _,get x hx⟩
 ·unfold bK
  rw[len,List.countP_eq_length.mpr λx hx=>decide_eq_true (get x (List.mem_range.mp hx)),List.length_range]
theorem gZ(n:Nat)(ts:List Tr)(ht:∀t∈ts,t.2.1<n/\t.2.2<n):HP (aJ n ts).1/\(aJ n ts).1.length=n/\(aJ n ts).2.length+bK (aJ n ts).1=n/\∀t∈ts,(aJ n ts).1.getD t.2.1 0=(aJ n ts).1.getD t.2.2 0:=by
 have key:∀(us:List Tr) (s:List Int×List Tr) (old:List Tr),(∀t∈us,t.2.1<n/\t.2.2<n)->(∀t∈old,t.2.1<n/\t.2.2<n)->HP s.1->s.1.length=n->s.2.length+bK s.1=n->(∀t∈old,s.1.getD t.2.1 0=s.1.getD t.2.2 0) ->
   HP (us.foldl aH s).1/\(us.foldl aH s).1.length=n/\(us.foldl aH s).2.length+bK (us.foldl aH s).1=n/\∀t,t∈old\/t∈us->(us.foldl aH s).1.getD t.2.1 0=(us.foldl aH s).1.getD t.2.2 0:=by
  intro us
  induction us with
  | nil=>intro s old _ _ L l c h;exact⟨L,l,c,λt ht=>ht.elim (h t) λz=>by cases z⟩
  | cons u us ih =>
   intro s old hu ho L l c h;have Qr:=hu u (.head _);have EY:∀t∈old++[u],t.2.1<n/\t.2.2<n:=λt ht=>(List.mem_append.mp ht).elim (ho t) λz=>by rw[List.mem_singleton.mp z];exact Qr
   rw[List.foldl_cons];have go:HP (aH s u).1/\(aH s u).1.length=n/\(aH s u).2.length+bK (aH s u).1=n/\∀t∈old++[u],(aH s u).1.getD t.2.1 0=(aH s u).1.getD t.2.2 0:=by
    unfold aH
    split
    ·rename_i e
     refine⟨L,l,c,λt ht=>?_⟩;rcases List.mem_append.mp ht with ht|ht
     ·exact h t ht
     ·rw[List.mem_singleton.mp ht];exact e
    ·rename_i e
     obtain⟨L',r'⟩:=CF L (by rw[l];exact Qr.1) (by rw[l];exact Qr.2) e
     refine⟨L',by unfold cR;rw[List.length_map];exact l,?_,λt ht=>?_⟩
     ·show(s.2++[u]).length+bK (cR s.1 u.2.1 u.2.2)=n
      rw[List.length_append,List.length_singleton];omega
     ·show(cR s.1 u.2.1 u.2.2).getD t.2.1 0=(cR s.1 u.2.1 u.2.2).getD t.2.2 0
      have hb:=EY t ht;rw[iu (by rw[l];exact hb.1),iu (by rw[l];exact hb.2)]
      rcases List.mem_append.mp ht with ht|ht
      ·rw[h t ht]
      ·rw[List.mem_singleton.mp ht]
       unfold hZ pV;generalize s.1.getD u.2.1 0=A at e ⊢;generalize s.1.getD u.2.2 0=C at e ⊢
       repeat' split
       all_goals omega
   obtain⟨g1,g2,g3,g4⟩:=go;obtain⟨i1,i2,i3,i4⟩:=ih (aH s u) (old++[u]) (λt ht=>hu t (.tail _ ht)) EY g1 g2 g3 g4;refine⟨i1,i2,i3,λt ht=>i4 t ?_⟩;rcases ht with ht|ht
   ·exact .inl (List.mem_append_left _ ht)
   ·rcases List.mem_cons.mp ht with rfl|ht
    ·exact .inl (List.mem_append_right _ (List.mem_singleton.mpr rfl))
    ·exact .inr ht
 obtain⟨r1,r2,r3⟩:=ou n;obtain⟨k1,k2,k3,k4⟩:=key ts (cn n,[]) [] ht (λt ht=>by cases ht) r1 r3 (by show 0+bK (cn n)=n;omega) λt ht=>by cases ht
 exact⟨k1,k2,k3,λt ht=>k4 t (.inr ht)⟩
theorem zJ{b:Bool}{pts:List (List Int)}{ts:List Tr}(e:cD (bO b pts)=ts.map oH)(va:∀t∈ts,t.2.1<t.2.2/\t.2.2<pts.length)(h0:0<pts.length):(aJ pts.length ts).2.length+1=pts.length:=by
 obtain⟨L,l,c,h⟩:=gZ pts.length ts λt ht=>by have:=va t ht;omega
 have all:∀x,x<pts.length->(aJ pts.length ts).1.getD x 0=0:=λx hx=>by
  obtain⟨r,er,hr,_⟩:=L 0 ⋯
  have e0:(aJ pts.length ts).1.getD 0 0=0:=by rw[er];omega
  by_cases z:x=0
  ·rw[z];exact e0
  have hm:pairD b pts 0 x∈cD (bO b pts):=(cq _).mem_iff.mpr (y6 ⋯ hx)
  rw[e]at hm;obtain⟨t,ht,et⟩:=List.mem_map.mp hm;have:=h t ht;unfold oH pairD at et
  injection et with et
  injection et with _ et
  injection et with e1 et
  injection et with e2 _
  injection e1 with e1
  injection e2 with e2
  rw[show t.2.1=0 by omega,show t.2.2=x by omega,e0]at this
  exact this.symm
 have hr:bK (aJ pts.length ts).1=1:=by
  unfold bK;rw[l,show(λx=>decide ((aJ pts.length ts).1.getD x 0=(x:Int)))=λx=>decide ((aJ pts.length ts).1.getD x 0=(x:Int))from rfl]
  have:(List.range pts.length).countP (λx=>decide ((aJ pts.length ts).1.getD x 0=(x:Int)))=(List.range pts.length).countP (λx=>true&&decide (x=0)):=by
   refine List.countP_congr λx hx=>?_;rw[all x (List.mem_range.mp hx),Bool.true_and,decide_eq_true_iff,decide_eq_true_iff];omega
  rw[this,nK (λ_=>true) 0,if_pos ⟨h0,rfl⟩]
 omega
def qP:cf:=λds Q=>∃j:Int,ds=[.int j]/\1<=j/\Q (.sh .bx)
theorem Nz(ds:List D)(Q:B->Prop)(h:qP ds Q):PF {nx:=λ_=>Q (.sh .bx),rt:=λb _=>Q b} (aY JC.length ds):=by
 obtain⟨j,rfl,hj,h⟩:=h;unfold PF;walk_at "vx"
 split
 ·omega
 ·exact h
theorem yC(n:Nat)(g:Nat->Int)(ts:List Tr)(ht:∀t∈ts,t.2.1<n/\t.2.2<n)(hg:∀t∈ts,g t.2.1=g t.2.2):∀x,x<n->g x=g ((aJ n ts).1.getD x 0).toNat:=by
 have key:∀(us:List Tr) (s:List Int×List Tr),(∀t∈us,t.2.1<n/\t.2.2<n)->(∀t∈us,g t.2.1=g t.2.2)->s.1.length=n->(∀x,x<n->g x=g (s.1.getD x 0).toNat)->∀x,x<n->g x=g ((us.foldl aH s).1.getD x 0).toNat:=by
  intro us
  induction us with
  | nil=>intro s _ _ _ h;exact h
  | cons u us ih =>
   intro s hu ZL l h;rw[List.foldl_cons];have Qr:=hu u (.head _);have e:=ZL u (.head _);refine ih (aH s u) (λt ht=>hu t (.tail _ ht)) (λt ht=>ZL t (.tail _ ht)) ?_ ?_
   ·unfold aH
    split
    ·exact l
    ·show(cR s.1 u.2.1 u.2.2).length=n
     unfold cR;rw[List.length_map];exact l
   ·intro x hx
    unfold aH
    split
    ·exact h x hx
    ·show g x=g ((cR s.1 u.2.1 u.2.2).getD x 0).toNat
     rw[iu (by rw[l];exact hx)]
     have h1:=h u.2.1 Qr.1;have h2:=h u.2.2 Qr.2;have h3:=h x hx;have both:g (hZ (s.1.getD u.2.1 0) (s.1.getD u.2.2 0)).toNat=g (pV (s.1.getD u.2.1 0) (s.1.getD u.2.2 0)).toNat:=by
      unfold hZ pV
      by_cases q:s.1.getD u.2.2 0>s.1.getD u.2.1 0
      ·rw[if_pos q,if_neg ⋯,<- h1,<- h2,e]
      ·rw[if_neg q]
       by_cases q2:s.1.getD u.2.2 0<s.1.getD u.2.1 0
       ·rw[if_pos q2,<- h1,<- h2,e]
       ·rw[if_neg q2]
     split
     ·rename_i q
      rw[h3,q,both]
     ·exact h3
 exact key ts (cn n,[]) ht hg (ou n).2.2 λx hx=>by
  show g x=g ((cn n).getD x 0).toNat;unfold cn;rw[List.getD_eq_getElem?_getD,List.getElem?_map,List.getElem?_range hx];rfl
def Hg:D->Tr
 | .tup [.int f,.int i,.int j]=>(f,i.toNat,j.toNat)
 | _=>(0,0,0)
def gM(b:Bool)(pts:List (List Int)):List Tr:=(cD (bO b pts)).map Hg
def tsP(b:Bool)(pts:List (List Int)):List Tr:=(bO b pts).map Hg
theorem zL(b:Bool)(pts:List (List Int))(i j:Nat):oH (Hg (pairD b pts i j))=pairD b pts i j:=by
 show D.tup [.int _,.int ((((i:Int)).toNat:Nat):Int),.int ((((j:Int)).toNat:Nat):Int)]=_;rw[Int.toNat_natCast,Int.toNat_natCast];rfl
theorem mQ(b:Bool)(pts:List (List Int)):cD (bO b pts)=(gM b pts).map oH:=by
 unfold gM;rw[List.map_map]
 conv=>lhs;rw[<- List.map_id (cD (bO b pts))]
 refine List.map_congr_left λd hd=>?_;obtain⟨p,q,_,_,rfl⟩:=fQ ((cq _).mem_iff.mp hd);exact(zL b pts p q).symm
theorem He(b:Bool)(pts:List (List Int)):(gM b pts).Perm (tsP b pts):=(cq (bO b pts)).map Hg
theorem PU{b:Bool}{pts:List (List Int)}:∀t∈tsP b pts,t.2.1<t.2.2/\t.2.2<pts.length/\0<=t.1:=λt ht=>by
 obtain⟨d,hd,rfl⟩:=List.mem_map.mp ht;obtain⟨p,q,h1,h2,rfl⟩:=fQ hd;exact⟨h1,h2,K2 b _ _⟩
theorem jX{b:Bool}{pts:List (List Int)}:∀t∈gM b pts,t.2.1<t.2.2/\t.2.2<pts.length/\0<=t.1:=λt ht=>PU t ((He b pts).mem_iff.mp ht)
theorem wz(b:Bool)(pts:List (List Int)):(gM b pts).Pairwise λx y=>x.1<=y.1:=by
 have h:=eP (bO b pts);rw[mQ b pts,List.pairwise_map]at h;refine h.imp λ{x y} q=>?_;have q:(!HT.lexLt [y.1,(y.2.1:Int),(y.2.2:Int)] [x.1,(x.2.1:Int),(x.2.2:Int)])=true:=q;rw[HT.dM]at q
 by_cases e:y.1=x.1
 ·omega
 ·rw[if_neg e]at q
  by_cases g:y.1<x.1
  ·rw[decide_eq_true g]at q;cases q
  ·omega
theorem DL{l:List Tr}(h:l.Pairwise λx y=>x.1<=y.1)(c:Int):l=l.filter (λt=>decide (t.1<=c))++l.filter (λt=>decide (c<t.1)):=by
 induction l with
 | nil=>rfl
 | cons t l ih =>
  obtain⟨h1,h2⟩:=List.pairwise_cons.mp h
  by_cases e:t.1<=c
  ·rw[List.filter_cons_of_pos (by simpa using e),List.filter_cons_of_neg (by simp;omega),List.cons_append,<- ih h2]
  ·have n1:(t::l).filter (λt=>decide (t.1<=c))=[]:=List.filter_eq_nil_iff.mpr λx hx=>by
    rcases List.mem_cons.mp hx with rfl|hx
    ·simpa using e
    ·have:=h1 x hx;simp;omega
   rw[n1,List.nil_append];refine(List.filter_eq_self.mpr λx hx=>?_).symm;rcases List.mem_cons.mp hx with rfl|hx
   ·simp;omega
   ·have:=h1 x hx;simp;omega
theorem Bz(n:Nat)(A B:List Tr):∃ex,(aJ n (A++B)).2=(aJ n A).2++ex/\∀t∈ex,t∈B:=by
 have key:∀(us:List Tr) (s:List Int×List Tr),∃ex,(us.foldl aH s).2=s.2++ex/\∀t∈ex,t∈us:=by
  intro us
  induction us with
  | nil=>intro s;exact⟨[],by simp,λt ht=>by cases ht⟩
  | cons u us ih =>
   intro s;rw[List.foldl_cons];obtain⟨ex,e1,e2⟩:=ih (aH s u);have hs:(aH s u).2=s.2\/(aH s u).2=s.2++[u]:=by
    unfold aH
    split
    ·exact .inl rfl
    ·exact .inr rfl
   rcases hs with hs|hs
   ·exact⟨ex,by rw[e1,hs],λt ht=>.tail _ (e2 t ht)⟩
   ·refine⟨u::ex,by rw[e1,hs,List.append_assoc];rfl,λt ht=>?_⟩
    rcases List.mem_cons.mp ht with rfl|ht
    ·exact .head _
    ·exact .tail _ (e2 t ht)
 unfold aJ;rw[List.foldl_append];exact key B _
def b8(b:Bool)(pts:List (List Int))(c:Int):List Tr:=(gM b pts).filter λt=>decide (t.1<=c)
def kG(b:Bool)(pts:List (List Int))(c:Int):List Int:=(aJ pts.length (b8 b pts c)).1
def dj(b:Bool)(pts:List (List Int)):List Tr:=(aJ pts.length (gM b pts)).2
theorem kL{b:Bool}{pts:List (List Int)}{c:Int}:∀t∈b8 b pts c,t.2.1<pts.length/\t.2.2<pts.length:=λt ht=>by
 have:=jX t (List.mem_filter.mp ht).1;omega
theorem lH(b:Bool)(pts:List (List Int))(c:Int):HP (kG b pts c)/\(kG b pts c).length=pts.length:=by
 obtain⟨h1,h2,_,_⟩:=gZ pts.length (b8 b pts c) kL;exact⟨h1,h2⟩
theorem gG(b:Bool)(pts:List (List Int))(c:Int){k:Nat}{t:Tr}(h:(dj b pts)[k]?=some t):(t.1<=c->bK (kG b pts c)+k+1<=pts.length)/\(c<t.1->pts.length<=bK (kG b pts c)+k):=by
 obtain⟨_,_,h3,_⟩:=gZ pts.length (b8 b pts c) kL;obtain⟨ex,e1,e2⟩:=Bz pts.length (b8 b pts c) ((gM b pts).filter λt=>decide (c<t.1));have es:gM b pts=b8 b pts c++(gM b pts).filter (λt=>decide (c<t.1)):=DL (wz b pts) c;rw[<- es]at e1;have e1:dj b pts=_:=e1;rw[e1]at h;have h3:(aJ pts.length (b8 b pts c)).2.length+bK (kG b pts c)=pts.length:=h3;obtain⟨_,_,f3⟩:=g0 pts.length (b8 b pts c);refine⟨λhc=>?_,λhc=>?_⟩
 ·have hk:k<(aJ pts.length (b8 b pts c)).2.length:=by
   apply Nat.lt_of_not_le;intro z;rw[List.getElem?_append_right z]at h;have:=(List.mem_filter.mp (e2 t (List.mem_of_getElem? h))).2;simp at this;omega
  omega
 ·have hk:(aJ pts.length (b8 b pts c)).2.length<=k:=by
   apply Nat.le_of_not_lt;intro z;rw[List.getElem?_append_left z]at h;have:=(List.mem_filter.mp (f3 t (List.mem_of_getElem? h))).2;simp at this;omega
  omega
theorem jd{b:Bool}{pts:List (List Int)}:(dj b pts).length=pts.length-1:=by
 unfold dj;rcases Nat.eq_zero_or_pos pts.length with z|z
 ·have:gM b pts=[]:=by
   cases e:gM b pts with
   | nil=>rfl
   | cons t r=>have:=(jX t (by rw[e];exact .head _)).2.1;omega
  rw[this,z];rfl
 ·have:=zJ (mQ b pts) (λt ht=>⟨(jX t ht).1,(jX t ht).2.1⟩) z
  omega
def pick(f:Nat->Int)(n:Nat)(r:Nat):List D:=((List.range n).filter λk=>decide (f k=(r:Int))).map λk:Nat=>D.int (k:Int)
def xv(f:Nat->Int)(n:Nat):List D:=(List.range n).filterMap λr=>if f r=(r:Int)then some (D.lst (pick f n r))else none
theorem CZ(f:Nat->Int)(n:Nat):(xv f n).length=(List.range n).countP λr=>decide (f r=(r:Int)):=by
 unfold xv;have:∀l:List Nat,(l.filterMap λr=>if f r=(r:Int)then some (D.lst (pick f n r))else none).length=l.countP λr=>decide (f r=(r:Int)):=by
  intro l
  induction l with
  | nil=>rfl
  | cons x l ih =>
   by_cases h:f x=(x:Int)
   ·rw[List.filterMap_cons_some (by rw[if_pos h]),List.length_cons,ih,List.countP_cons_of_pos (by simpa using h)]
   ·rw[List.filterMap_cons_none (by rw[if_neg h]),ih,List.countP_cons_of_neg (by simpa using h)]
 exact this _
def CD(b:Bool)(pts:List (List Int))(c:Int)(x:Nat):Int:=(kG b pts c).getD x 0
theorem F7{b:Bool}{pts:List (List Int)}{c:Int}:∀x,x<pts.length->∃r:Nat,CD b pts c x=(r:Int)/\r<=x/\CD b pts c r=(r:Int):=λx hx=>by
 obtain⟨L,l⟩:=lH b pts c;exact L x (by rw[l];exact hx)
theorem vT(b:Bool)(pts:List (List Int))(c:Int):(xv (CD b pts c) pts.length).length=bK (kG b pts c):=by
 rw[CZ];unfold bK;rw[(lH b pts c).2];rfl
theorem yb{b:Bool}{pts:List (List Int)}{l:List D}(h:zX b pts l):l=(dj b pts).map oH:=by
 obtain⟨ts,e,rfl⟩:=h;rw[mQ b pts]at e;rw[<- ya _ _ e];rfl
def Di(t:Tr):D:=.tup [.int (t.2.1:Nat),.int (t.2.2:Nat)]
def nv(b:Bool)(pts:List (List Int)):D:=if pts=[]then .bx else(y0 ((dj b pts).map λt=>.int t.1)).getD (.int 0)
theorem wx{b:Bool}{pts:List (List Int)}(hl:pts.length<=1000):(dj b pts).length<=1000:=by rw[jd];omega
def qM:cf:=λds Q=>∃b n pts,ds=[d4 pts,dn b]/\Good n pts/\pts.length<=1000/\Q (.sh (nv b pts))
theorem Nv(ds:List D)(Q:B->Prop)(h:qM ds Q):PB kP {nx:=λ_=>Q (.sh .bx),rt:=λb _=>Q b} (aY Jz.length ds):=by
 obtain⟨b,n,pts,rfl,hg,hl,h⟩:=h;unfold PB;refine au λN hN=>?_;walk_at "vx";refine⟨b,n,pts,rfl,hg,hl,λl hi _ _=>?_⟩;obtain rfl:=yb hi;walk_at "vx";subst hN;rw[show d4 pts=.lst (pts.map cY)from rfl]
 refine au λN hN=>?_;walk_at "vx";unfold nv at h
 by_cases hp:pts=[]
 ·rw[if_pos hp]at h
  subst hp;exact(if_pos ∅).mpr h
 ·rw[if_neg hp]at h
  refine(if_neg (by cases pts with|nil=>exact absurd rfl hp|cons=>simp)).mpr ?_
  subst hN;walk_at "vx";unfold DR;walk_at "vx";refine dB oH (λt=>.int t.1) _ (λt _ A ha=>?_) (by rw[sz];have:=wx (b:=b) hl;omega) ?_
  ·unfold oH
   walk_at "vg";walk_at "vx";exact ha
  ·walk_at "vx"
   exact⟨oZ (dj b pts) (·.1),h⟩
def o8(b:Bool)(pts:List (List Int))(m:Nat):Int:=if pts.length<=m then 0 else((dj b pts).getD (pts.length-m-1) (0,0,0)).1
def DJ:cf:=λds Q=>∃b n pts,∃m:Nat,ds=[d4 pts,dn b,.int (m:Int)]/\Good n pts/\pts.length<=1000/\1<=m/\Q (.sh (.int (o8 b pts m)))
theorem YH(ds:List D)(Q:B->Prop)(h:DJ ds Q):Pz kP qP {nx:=λ_=>Q (.sh .bx),rt:=λb _=>Q b} (aY Jx.length ds):=by
 obtain⟨b,n,pts,m,rfl,hg,hl,hm,h⟩:=h;unfold Pz;refine au λN hN=>?_;walk_at "vx";refine⟨b,n,pts,rfl,hg,hl,λl hi _ _=>?_⟩;obtain rfl:=yb hi;walk_at "vx";subst hN;refine au λN hN=>?_;walk_at "vx";refine⟨_,rfl,by omega,?_⟩
 walk_at "vx";subst hN;rw[show d4 pts=.lst (pts.map cY)from rfl]
 refine au λN hN=>?_;walk_at "vx";rw[List.length_map];unfold o8 at h
 by_cases hp:pts.length<=m
 ·rw[if_pos hp]at h
  exact(if_pos ⋯).mpr h
 ·rw[if_neg hp]at h
  refine(if_neg ⋯).mpr ?_
  subst hN;walk_at "vx";rw[List.length_map];have hi:pts.length-m-1<(dj b pts).length:=by rw[jd];omega
  refine aS (n:=pts.length-m-1) ⋯ (show _=some (oH ((dj b pts).getD (pts.length-m-1) (0,0,0)))by rw[List.getElem?_map,List.getD_eq_getElem?_getD,List.getElem?_eq_getElem hi];rfl) ?_
  unfold oH;exact jC (n:=0) rfl rfl h
def dm(x:Nat):D:=.int (x:Nat)
def kY(es:List Tr)(x:Nat):List Nat:=es.flatMap λt=>(if t.2.1=x then [t.2.2]else [])++if t.2.2=x then [t.2.1]else []
theorem Ak(es:List Tr)(t:Tr)(x:Nat):kY (es++[t]) x=kY es x++((if t.2.1=x then [t.2.2]else [])++if t.2.2=x then [t.2.1]else []):=by
 unfold kY;rw[List.flatMap_append];congr 1;exact List.append_nil _
theorem oY{es:List Tr}{x y:Nat}:y∈kY es x ↔ ∃t∈es,(t.2.1=x/\t.2.2=y)\/(t.2.2=x/\t.2.1=y):=by
 unfold kY;rw[List.mem_flatMap];constructor
 ·rintro⟨t,ht,h⟩
  refine⟨t,ht,?_⟩;rcases List.mem_append.mp h with h|h
  ·split at h
   ·rename_i e;exact .inl ⟨e,(List.mem_singleton.mp h).symm⟩
   ·cases h
  ·split at h
   ·rename_i e;exact .inr ⟨e,(List.mem_singleton.mp h).symm⟩
   ·cases h
 ·rintro⟨t,ht,h⟩
  refine⟨t,ht,List.mem_append.mpr ?_⟩;rcases h with⟨e1,e2⟩|⟨e1,e2⟩
  ·left;rw[if_pos e1];exact List.mem_singleton.mpr e2.symm
  ·right;rw[if_pos e1];exact List.mem_singleton.mpr e2.symm
theorem oW(x:Nat):∀es:List Tr,(kY es x).length<=2*es.length
 | []=>Nat.zero_le _
 | t::es=>by
  have ih:=oW x es;have e:kY (t::es) x=((if t.2.1=x then [t.2.2]else [])++if t.2.2=x then [t.2.1]else [])++kY es x:=rfl
  rw[e,List.length_append,List.length_append,List.length_cons];have h1:(if t.2.1=x then [t.2.2]else []).length<=1:=by split<;>simp
  have h2:(if t.2.2=x then [t.2.1]else []).length<=1:=by split<;>simp
  omega
theorem Fc{n:Nat}{es:List Tr}{t:Tr}(h1:t.2.1<t.2.2)(h2:t.2.2<n):
  (((List.range n).map λx=>(kY es x).map dm).set t.2.1 ((kY es t.2.1).map dm++[dm t.2.2])).set t.2.2 ((kY es t.2.2).map dm++[dm t.2.1])=(List.range n).map λx=>(kY (es++[t]) x).map dm:=by
 refine List.ext_getElem? λx=>?_
 by_cases hx:x<n
 ·have g:∀F:Nat->List D,((List.range n).map F)[x]?=some (F x):=λF=>by rw[List.getElem?_map,List.getElem?_range hx];rfl
  rw[g,Ak,List.map_append]
  by_cases e2:t.2.2=x
  ·subst e2
   rw[List.getElem?_set_self (by rw[List.length_set,List.length_map,List.length_range];exact hx),if_neg ⋯,if_pos rfl];rfl
  ·rw[List.getElem?_set_ne e2]
   by_cases e1:t.2.1=x
   ·subst e1
    rw[List.getElem?_set_self (by rw[List.length_map,List.length_range];exact hx),if_pos rfl,if_neg e2];rfl
   ·rw[List.getElem?_set_ne e1,g,if_neg e1,if_neg e2]
    show _=some ((kY es x).map dm++[]);rw[List.append_nil]
 ·rw[List.getElem?_eq_none (by simp;omega),List.getElem?_eq_none (by simp;omega)]
structure Jt(n:Nat)(es:List Tr)(dz:Nat->Int):Prop where
 ok:∀x,x<n->∃r:Nat,dz x=(r:Int)/\r<=x/\dz r=(r:Int)
 R9:∀t∈es,dz t.2.1=dz t.2.2
 con:∀g:Nat->Int,(∀t∈es,g t.2.1=g t.2.2)->∀x,x<n->g x=g (dz x).toNat
theorem zl{n:Nat}{es:List Tr}{dz:Nat->Int}(L:Jt n es dz){k:Nat}{P:List Nat}(hd:P.Nodup)(hP:∀p∈P,p<n/\dz p=(k:Int))(hk:k∈P)(hc:∀p∈P,∀y∈kY es p,y∈P):P.Perm ((List.range n).filter λx=>decide (dz x=(k:Int))):=by
 refine(List.perm_ext_iff_of_nodup hd (List.nodup_range.filter _)).mpr λx=>?_;rw[List.mem_filter,List.mem_range,decide_eq_true_eq];refine⟨hP x,λ⟨hx,hl⟩=>?_⟩;have:=L.con (λy=>if y∈P then 1 else 0) (λt ht=>by
  show(if t.2.1∈P then(1:Int)else 0)=if t.2.2∈P then 1 else 0
  by_cases h1:t.2.1∈P
  ·rw[if_pos h1,if_pos (hc _ h1 _ (oY.mpr ⟨t,ht,.inl ⟨rfl,rfl⟩⟩))]
  ·rw[if_neg h1,if_neg λh2=>h1 (hc _ h2 _ (oY.mpr ⟨t,ht,.inr ⟨rfl,rfl⟩⟩))]) x hx
 rw[hl,Int.toNat_natCast]at this;have this:(if x∈P then(1:Int)else 0)=if k∈P then 1 else 0:=this
 rw[if_pos hk]at this
 by_cases h:x∈P
 ·exact h
 ·rw[if_neg h]at this;omega
theorem zm{n:Nat}{dz:Nat->Int}{k:Nat}{P:List Nat}(h:P.Perm ((List.range n).filter λx=>decide (dz x=(k:Int)))):(iY (P.map λx:Nat=>(x:Int))).map D.int=pick dz n k:=by
 have e:((List.range n).filter λx=>decide (dz x=(k:Int))).map (λx:Nat=>(x:Int))=iY (P.map λx:Nat=>(x:Int)):=by
  refine mF (h.symm.map _) ?_;rw[List.pairwise_map];exact(List.pairwise_lt_range.filter _).imp λh=>by omega
 rw[<- e];unfold pick;rw[List.map_map];rfl
theorem tm(K:List Nat)(x:Nat):(m8 (K.map λy:Nat=>((y:Int),D.bl true)) (x:Int)).isSome=decide (x∈K):=by
 unfold m8
 induction K with
 | nil=>rfl
 | cons y K ih =>
  rw[List.map_cons,List.find?_cons]
  by_cases e:y=x
  ·subst e
   simp
  ·have:decide (((y:Int),D.bl true).1=(x:Int))=false:=decide_eq_false (by show¬(y:Int)=x;omega)
   rw[this];show(Option.map _ (List.find? _ _)).isSome=_;rw[ih];simp [Ne.symm e]
theorem Cq{K:List Nat}{x:Nat}(h:x∉K):yQ (K.map λy:Nat=>((y:Int),D.bl true)) (x:Int) (.bl true)=(K++[x]).map λy:Nat=>((y:Int),D.bl true):=by
 unfold yQ;rw[List.map_append];have:((K.map λy:Nat=>((y:Int),D.bl true)).any λkv=>decide (kv.1=(x:Int)))=false:=by
  rw[List.any_map];exact List.any_eq_false.mpr λy hy=>by
   show¬decide ((y:Int)=(x:Int))=true;rw[decide_eq_true_eq];intro z;have:y=x:=by omega
   exact h (this ▸ hy)
 rw[this,if_neg ∅];rfl
theorem tV(l:List Nat):(l.map dm).all isInt=true/\(l.map dm).map ig=l.map λx:Nat=>(x:Int):=by
 refine⟨by rw[List.all_map];exact List.all_eq_true.mpr λ_ _=>rfl,by rw[List.map_map];rfl⟩
theorem sL(l:List Nat):(l.map dm).all sJ=true:=by rw[List.all_map];exact List.all_eq_true.mpr λ_ _=>rfl
theorem CM(l:List Nat):b6 8 (.lst (l.map dm))=true:=by
 show(l.map dm).all (b6 7)=true;rw[List.all_map];exact List.all_eq_true.mpr λ_ _=>rfl
theorem xt(l:List Nat):kI (.lst (l.map dm)) (.lst [])=decide (l=[]):=by cases l<;>rfl
def fw(dz:Nat->Int)(n k:Nat):List D:=(List.range k).filterMap λr=>if dz r=(r:Int)then some (D.lst (pick dz n r))else none
theorem yD(dz:Nat->Int)(n k:Nat):(fw dz n k).length<=k:=by
 have:=List.length_filterMap_le (λr=>if dz r=((r:Nat):Int)then some (D.lst (pick dz n r))else none) (List.range k)
 rw[List.length_range]at this;exact this
theorem lx(dz:Nat->Int)(n k:Nat):fw dz n (k+1)=fw dz n k++if dz k=(k:Int)then [D.lst (pick dz n k)]else []:=by
 unfold fw;rw[List.range_succ,List.filterMap_append];congr 1
 by_cases h:dz k=(k:Int)
 ·rw[List.filterMap_cons_some (by rw[if_pos h]),if_pos h];rfl
 ·rw[List.filterMap_cons_none (by rw[if_neg h]),if_neg h];rfl
theorem lZ{n:Nat}{P:List Nat}(hd:P.Nodup)(h:∀p∈P,p<n):P.length<=n:=by
 have p:P.Perm ((List.range n).filter λx=>decide (x∈P)):=(List.perm_ext_iff_of_nodup hd (List.nodup_range.filter _)).mpr λx=>by
  rw[List.mem_filter,List.mem_range,decide_eq_true_eq];exact⟨λhx=>⟨h x hx,hx⟩,λhx=>hx.2⟩
 rw[p.length_eq];have:=List.length_filter_le (λx=>decide (x∈P)) (List.range n)
 rwa [List.length_range]at this
def mJ:cf:=λds Q=>∃(n:Nat) (es:List Tr) (dz:Nat->Int),ds=[.int (n:Nat),.lst (es.map Di)]/\n<=150/\es.length<=22500/\(∀t∈es,t.2.1<t.2.2/\t.2.2<n)/\Jt n es dz/\Q (.own (xv dz n))
theorem Gy(ds:List D)(Q:B->Prop)(h:mJ ds Q):PD {nx:=λ_=>Q (.sh .bx),rt:=λb _=>Q b} (aY JB.length ds):=by
 obtain⟨n,es,dz,rfl,hn,hel,EK,L,h⟩:=h;unfold PD;refine au λN hN=>?_;walk_at "vx";refine⟨n,rfl,by omega,λts va=>?_⟩
 subst hN
 -- the neighbours
 refine au λN hN=>?_;show cE _ _ _ _ _;generalize ht:bT (VP 2 _ _) _=tb;walk_at "vx";have Yf:ts.map (·.2)=(List.range n).map λx=>(kY (es.take 0) x).map dm:=by
  rw[va];refine List.ext_getElem? λx=>?_;rw[List.getElem?_replicate,List.getElem?_map]
  by_cases hx:x<n
  ·rw[if_pos hx,List.getElem?_range hx];rfl
  ·rw[if_neg hx,List.getElem?_eq_none (by rw[List.length_range];omega)];rfl
 refine cJ Di es (λi σ=>∃(ts:E7) (x3 x4:Option B),σ=[some (.sh (.int (n:Nat))),some (.sh (.lst (es.map Di))),some (.obj (pU ts)),x3,x4,none,none,none,none,none,none]/\ts.map (·.2)=(List.range n).map λx=>(kY (es.take i) x).map dm) (λi t σ N' hx hI rF=>?_) (λσ hI=>?_) ⟨ts,none,none,rfl,Yf⟩
 ·obtain⟨ts,x3,x4,rfl,va⟩:=hI
  subst ht;obtain⟨h1,h2⟩:=EK t (List.mem_of_getElem? hx);have h8:es.take (i+1)=es.take i++[t]:=by rw[List.take_succ,hx];rfl
  rw[h8,<- Fc h1 h2]at rF;have hl:∀x,(kY (es.take i) x).length<=45000:=λx=>by
   have:=oW x (es.take i);rw[List.length_take]at this;omega
  have get:∀(us:E7) (x:Nat) (y:List D),(us.map (·.2))[x]?=some y->∃u,us[x]?=some u/\u.2=y:=λus x y e=>by
   rw[List.getElem?_map]at e;obtain⟨u,e1,e2⟩:=Option.map_eq_some_iff.mp e;exact⟨u,e1,e2⟩
  have rE:∀x,x<n->(ts.map (·.2))[x]?=some ((kY (es.take i) x).map dm):=λx hx=>by rw[va,List.getElem?_map,List.getElem?_range hx];rfl
  obtain⟨u1,e1,Il⟩:=get ts t.2.1 _ (rE _ ⋯)
  obtain⟨u2,e2,zQ⟩:=get ts t.2.2 _ (rE _ h2);have cm:t.2.1≠t.2.2:=by omega
  unfold Di;walk_at "vg";refine au λN1 rG=>?_;walk_at "vx";refine⟨⟨ts,rfl⟩,ts,u1,t.2.1,rfl,rfl,e1,ts,u1,rfl,e1,rfl,by rw[Il,List.length_map];have:=hl t.2.1;omega,?_⟩
  subst rG;have e3:(ts.set t.2.1 (u1.1,u1.2++[dm t.2.2]))[t.2.2]?=some u2:=by rw[List.getElem?_set_ne cm];exact e2
  walk_at "vx";refine⟨⟨_,rfl⟩,_,u2,t.2.2,rfl,rfl,e3,_,u2,rfl,e3,rfl,by rw[zQ,List.length_map];have:=hl t.2.2;omega,?_⟩
  refine rF _ ⟨_,_,_,rfl,?_⟩;rw[List.map_set,List.map_set,va,Il,zQ];rfl
 obtain⟨ts,x3,x4,rfl,va⟩:=hI;rw[List.take_of_length_le (Nat.le_refl _)]at va;show N _;subst hN;clear ht;refine au λN hN=>?_;walk_at "vx";intro ad;subst hN;refine au λN hN=>?_;walk_at "vx";refine⟨by decide,?_⟩
 subst hN;refine au λN hN=>?_;show cE _ _ _ _ _;generalize ht:bT (da [] 8 _) _=tb;walk_at "vx";rw[Int.toNat_natCast,cM];refine⟨by omega,?_⟩
 refine cJ (λi:Nat=>D.int (0+(i:Nat))) _ (λk σ=>∃(K:List Nat) (x7 x8 x9 rL:Option B),σ=[some (.sh (.int (n:Nat))),some (.sh (.lst (es.map Di))),some (.obj (pU ts)),x3,x4,some (.obj (Ba ad (K.map λy:Nat=>((y:Int),D.bl true)))),some (.own (fw dz n k)),x7,x8,x9,rL]/\k<=n/\K.Nodup/\∀x,x∈K ↔ x<n/\dz x<(k:Int)) (λk q σ N' hx hI rF=>?_) (λσ hI=>?_) ⟨[],none,none,none,none,rfl,Nat.zero_le _,List.nodup_nil,λx=>⟨(λz=>by cases z),(λ⟨hx,hl⟩=>by obtain⟨r,e,_⟩:=L.ok x hx;omega)⟩⟩
 ·obtain⟨K,x7,x8,x9,rL,rfl,ZR,V5,hK⟩:=hI
  obtain⟨rfl,hk⟩:=d8 hx;subst ht;rw[Int.zero_add];walk_at "vg";obtain⟨rk,erk,Wh,hrr⟩:=L.ok q hk;refine au λN1 rG=>?_;have step:∀W0:List Nat,(∀w∈W0,w=q/\dz q=(q:Int))->(dz q=(q:Int)->q∈W0)->W0.length<=1->N1 [some (.sh (.int (n:Nat))),some (.sh (.lst (es.map Di))),some (.obj (pU ts)),x3,x4,some (.obj (Ba ad (K.map λy:Nat=>((y:Int),D.bl true)))),some (.own (fw dz n q)),some (.sh (.int (q:Nat))),some (.own (W0.map dm)),x9,rL]:=by
   intro W0 hW0 hq0 Qo;subst rG;refine au λN1 rG=>?_;walk_at "vx";refine⟨by decide,?_⟩
   subst rG;refine au λN1 rG=>?_;refine⟨λm σ=>∃(P W:List Nat) (rL:Option B),σ=[some (.sh (.int (n:Nat))),some (.sh (.lst (es.map Di))),some (.obj (pU ts)),x3,x4,some (.obj (Ba ad ((K++P).map λy:Nat=>((y:Int),D.bl true)))),some (.own (fw dz n q)),some (.sh (.int (q:Nat))),some (.own (W.map dm)),some (.own (P.map dm)),rL]/\P.Nodup/\(∀p∈P,p<n/\dz p=(q:Int))/\(∀w∈W,w<n/\dz w=(q:Int))/\(∀p∈P,∀y∈kY es p,y∈P\/y∈W)/\(dz q=(q:Int)->q∈P\/q∈W)/\W.length<=1+P.length*45000/\m=(n-P.length)*1000000+W.length,
    ⟨_,[],W0,rL,by rw[List.append_nil];rfl,List.nodup_nil,(λp hp=>by cases hp),(λw hw=>by obtain⟨rfl,e⟩:=hW0 w hw;exact⟨hk,e⟩),(λp hp=>by cases hp),(λe=>.inr (hq0 e)),by simpa using Qo,rfl⟩,λm σ=>?_⟩
   rintro⟨P,W,rL,rfl,Qk,hP,hW,zR,hq,Xw,rfl⟩;have hPn:P.length<=n:=lZ Qk λp hp=>(hP p hp).1;have hKl:(K++P).length<=n:=by
    refine lZ ?_ λx hx=>?_
    ·rw[List.nodup_append]
     refine⟨V5,Qk,λx hx y hy z=>?_⟩;have h1:=((hK x).mp hx).2;rw[z,(hP y hy).2]at h1;omega
    ·rcases List.mem_append.mp hx with hx|hx
     ·exact((hK x).mp hx).1
     ·exact(hP x hx).1
   walk_at "vx";refine⟨by decide,⟨CM W,rfl⟩,?_⟩
   rw[xt];rcases List.eq_nil_or_concat W with rfl|⟨W',w,rfl⟩
   ·refine(if_neg ∅).mpr ?_
    subst rG;walk_at "vx";rw[(tV P).2,xt];have ZI:=yD dz n q
    by_cases hr:dz q=(q:Int)
    ·have X5:q∈P:=(hq hr).resolve_right (by simp)
     have Z1:=zl L Qk hP X5 λp hp y hy=>(zR p hp y hy).resolve_right (by simp)
     have cm:P≠[]:=λz=>by rw[z]at X5;cases X5
     rw[decide_eq_false cm,zm Z1];refine⟨(tV P).1,by decide,by decide,⟨CM P,rfl⟩,⟨by decide,by decide,by decide⟩,?_,rF _ ⟨K++P,_,_,_,_,by rw[lx,if_pos hr];rfl,by omega,?_,λx=>?_⟩⟩
     ·show _+1<=sizeLine
      rw[sz];omega
     ·rw[List.nodup_append]
      refine⟨V5,Qk,λx hx y hy z=>?_⟩;have h1:=((hK x).mp hx).2;rw[z,(hP y hy).2]at h1;omega
     ·rw[List.mem_append,hK,Z1.mem_iff,List.mem_filter,List.mem_range,decide_eq_true_eq]
      constructor
      ·rintro(⟨h1,h2⟩|⟨h1,h2⟩)<;>exact⟨h1,by omega⟩
      ·rintro⟨h1,h2⟩
       by_cases e:dz x=(q:Int)
       ·exact .inr ⟨h1,e⟩
       ·exact .inl ⟨h1,by omega⟩
    ·have Qp:∀x,x<n->dz x≠(q:Int):=λx hx e=>by
      obtain⟨r,e1,_,e2⟩:=L.ok x hx;have:r=q:=by omega
      rw[this]at e2;exact hr e2
     have hP0:P=[]:=List.eq_nil_iff_forall_not_mem.mpr λp hp=>Qp p (hP p hp).1 (hP p hp).2;subst hP0;refine⟨rfl,by decide,by decide,⟨rfl,rfl⟩,⟨by decide,by decide,by decide⟩,?_,rF _ ⟨K,_,_,_,_,by rw[List.append_nil,lx,if_neg hr];rfl,by omega,V5,λx=>?_⟩⟩
     ·show _+0<=sizeLine
      rw[sz];omega
     ·rw[hK]
      constructor
      ·rintro⟨h1,h2⟩;exact⟨h1,by omega⟩
      ·rintro⟨h1,h2⟩
       have:=Qp x h1;exact⟨h1,by omega⟩
   ·rw[List.concat_eq_append]at hW zR hq Xw ⊢
    obtain⟨NN,W7⟩:∃NN:Sd->Prop,NN=λbB=>∃(P2 W2:List Nat) (Za:Option B),bB=[some (.sh (.int (n:Nat))),some (.sh (.lst (es.map Di))),some (.obj (pU ts)),x3,x4,some (.obj (Ba ad ((K++P2).map λy:Nat=>((y:Int),D.bl true)))),some (.own (fw dz n q)),some (.sh (.int (q:Nat))),some (.own (W2.map dm)),some (.own (P2.map dm)),Za]/\P2.Nodup/\(∀p∈P2,p<n/\dz p=(q:Int))/\(∀w∈W2,w<n/\dz w=(q:Int))/\(∀p∈P2,∀y∈kY es p,y∈P2\/y∈W2)/\(dz q=(q:Int)->q∈P2\/q∈W2)/\W2.length<=1+P2.length*45000/\(n-P2.length)*1000000+W2.length<(n-P.length)*1000000+(W'++[w]).length:=⟨_,rfl⟩;refine(if_pos (decide_eq_false (by simp))).mpr ⟨NN,λbB hs=>by
     rw[W7]at hs;obtain⟨P2,W2,Za,e1,e2,e3,e4,e5,e6,e7,e8⟩:=hs;exact⟨_,e8,P2,W2,Za,e1,e2,e3,e4,e5,e6,e7,rfl⟩,W'.map dm,.int (w:Nat),by rw[List.map_append];rfl,?_⟩
    walk_at "vx";rw[tm];obtain⟨hwn,FL⟩:=hW w (by simp)
    by_cases pL:w∈K++P
    ·refine(if_neg (by rw[decide_eq_true pL];decide)).mpr ?_
     have Wj:w∈P:=(List.mem_append.mp pL).resolve_left λz=>by have:=((hK w).mp z).2;omega
     rw[W7];refine⟨P,W',_,rfl,Qk,hP,λx hx=>hW x (by simp [hx]),λp hp y hy=>?_,λe=>?_,?_,?_⟩
     ·rcases zR p hp y hy with z|z
      ·exact .inl z
      ·rcases List.mem_append.mp z with z|z
       ·exact .inr z
       ·rw[List.mem_singleton.mp z];exact .inl Wj
     ·rcases hq e with z|z
      ·exact .inl z
      ·rcases List.mem_append.mp z with z|z
       ·exact .inr z
       ·rw[List.mem_singleton.mp z];exact .inl Wj
     ·rw[List.length_append]at Xw;omega
     ·rw[List.length_append,List.length_singleton];omega
    ·refine(if_pos (decide_eq_false pL)).mpr ?_
     have Wj:w∉P:=λz=>pL (List.mem_append_right _ z);have SM:(P++[w]).Nodup:=by
      rw[List.nodup_append];exact⟨Qk,by simp,λx hx y hy z=>Wj (by rw[List.mem_singleton.mp hy]at z;rw[<- z];exact hx)⟩
     have Iy:∀p∈P++[w],p<n/\dz p=(q:Int):=λp hp=>by
      rcases List.mem_append.mp hp with hp|hp
      ·exact hP p hp
      ·rw[List.mem_singleton.mp hp];exact⟨hwn,FL⟩
     have aaf:P.length+1<=n:=by
      have:=lZ SM λp hp=>(Iy p hp).1
      rwa [List.length_append]at this
     have SW:=oW w es;have hPm:P.length*45000<=150*45000:=Nat.mul_le_mul_right _ ⋯
     rw[List.length_append,List.length_singleton]at Xw;have hat:(ts.map λt=>D.lst t.2)[w]?=some (.lst ((kY es w).map dm)):=by
      have:(ts.map (·.2))[w]?=some ((kY es w).map dm):=by rw[va,List.getElem?_map,List.getElem?_range hwn];rfl
      rw[List.getElem?_map]at this ⊢;obtain⟨u,e1,e2⟩:=Option.map_eq_some_iff.mp this;rw[e1,<- e2];rfl
     refine⟨⟨_,_,rfl⟩,ad,_,rfl,by rw[List.length_map,sz];omega,⟨_,rfl⟩,by rw[List.length_map,sz];omega,?_⟩
     refine aS (n:=w) rfl hat ?_;walk_at "vx";rw[List.length_map,List.length_map,List.all_append,sL,sL];refine⟨by rw[sz];omega,rfl,?_⟩
     rw[Cq pL,W7];refine⟨P++[w],W'++kY es w,_,by rw[List.append_assoc,List.map_append (l₁:=W'),List.map_append (l₁:=P)];rfl,SM,Iy,λx hx=>?_,λp hp y hy=>?_,λe=>?_,?_,?_⟩
     ·rcases List.mem_append.mp hx with hx|hx
      ·exact hW x (by simp [hx])
      ·obtain⟨t,ht,z⟩:=oY.mp hx
       have h1:=EK t ht;have h2:=L.R9 t ht;rcases z with⟨e1,e2⟩|⟨e1,e2⟩
       ·rw[e1,e2]at h2;exact⟨by omega,by rw[<- h2];exact FL⟩
       ·rw[e1,e2]at h2;exact⟨by omega,by rw[h2];exact FL⟩
     ·rcases List.mem_append.mp hp with hp|hp
      ·rcases zR p hp y hy with z|z
       ·exact .inl (List.mem_append_left _ z)
       ·rcases List.mem_append.mp z with z|z
        ·exact .inr (List.mem_append_left _ z)
        ·exact .inl (List.mem_append_right _ z)
      ·rw[List.mem_singleton.mp hp]at hy
       exact .inr (List.mem_append_right _ hy)
     ·rcases hq e with z|z
      ·exact .inl (List.mem_append_left _ z)
      ·rcases List.mem_append.mp z with z|z
       ·exact .inr (List.mem_append_left _ z)
       ·exact .inl (List.mem_append_right _ z)
     ·rw[List.length_append,List.length_append,List.length_singleton,Nat.add_mul];omega
     ·rw[List.length_append,List.length_append,List.length_append,List.length_singleton]
      have:(n-P.length)*1000000=(n-(P.length+1))*1000000+1000000:=by rw[show n-P.length=(n-(P.length+1))+1 by omega,Nat.add_mul]
      omega
  walk_at "vx";rw[tm]
  by_cases hr:dz q=(q:Int)
  ·have:q∉K:=λz=>by have:=((hK q).mp z).2;omega
   rw[decide_eq_false this];exact⟨by decide,⟨by decide,by decide,by decide⟩,step [q] (λw hw=>⟨List.mem_singleton.mp hw,hr⟩) (λ_=>List.mem_singleton.mpr rfl) (Nat.le_refl _)⟩
  ·have:q∈K:=(hK q).mpr ⟨hk,by omega⟩
   rw[decide_eq_true this];exact⟨by decide,⟨by decide,by decide,by decide⟩,step [] (λw hw=>by cases hw) (λe=>absurd e hr) (Nat.zero_le _)⟩
 ·obtain⟨K,x7,x8,x9,rL,rfl,ZR,V5,hK⟩:=hI
  rw[List.length_range];subst hN;walk_at "vx";exact h
theorem F8(b:Bool)(pts:List (List Int))(c:Int):Jt pts.length (b8 b pts c) (CD b pts c) where
 ok:=F7
 R9:=(gZ pts.length (b8 b pts c) kL).2.2.2
 con:=λg hg x hx=>yC pts.length g (b8 b pts c) kL hg x hx
def qO:cf:=λds Q=>∃b p q,ds=[dn b,cY p,cY q]/\Bd p/\Bd q/\Q (.sh (.tk (Bv b p q)))
theorem Nx(ds:List D)(Q:B->Prop)(h:qO ds Q):D3 {nx:=λ_=>Q (.sh .bx),rt:=λb _=>Q b} (aY Af.length ds):=by
 obtain⟨b,p,q,rfl,hp,hq,h⟩:=h;unfold D3 cY;walk_at "vx";rw[uZ];refine cJ (λp=>.tup [.int p.1,.int p.2]) (p.zip q) (λi σ=>∃x y z,σ=[some (.sh (dn b)),some (.sh (cY p)),some (.sh (cY q)),some (.sh (.tk ((((p.zip q).take i).map λxy:Int×Int=>stepI b xy.1 xy.2).sum))),x,y,z]) (λi xy σ N Qs hI hN=>?_) (λσ hI=>?_) ⟨none,none,none,rfl⟩
 ·obtain⟨x,y,z,rfl⟩:=hI
  have hm:=List.mem_of_getElem? Qs;have h1:=hp.2 _ (List.of_mem_zip hm).1;have h2:=hq.2 _ (List.of_mem_zip hm).2;walk_at "vx";rw[kr];refine⟨?_,by decide,⟨rA b,l0⟩,?_⟩
  ·unfold fj;split<;>omega
  ·have e:(if xy.2-xy.1>xy.1-xy.2 then xy.2-xy.1 else xy.1-xy.2)=mV (xy.1-xy.2):=by unfold mV;split<;>split<;>omega
   rw[e];have hs:((((p.zip q).take (i+1)).map λxy:Int×Int=>stepI b xy.1 xy.2).sum)=(((p.zip q).take i).map λxy:Int×Int=>stepI b xy.1 xy.2).sum+stepI b xy.1 xy.2:=by
    rw[List.take_add_one,Qs];simp
   cases b with
   | false =>
    refine aS (n:=0) rfl rfl ?_;walk_at "vx";exact hN _ ⟨_,_,_,by rw[hs];rfl⟩
   | true =>
    refine aS (n:=1) rfl rfl ?_;walk_at "vx";exact hN _ ⟨_,_,_,by rw[hs];rfl⟩
 ·obtain⟨x,y,z,rfl⟩:=hI
  walk_at "vx";rw[List.take_length];exact h
def CV(b:Bool)(pts:List (List Int))(i j:Nat):D:=.tup [.tk (Bv b (pts.getD i []) (pts.getD j [])),.int i,.int j]
def gX(b:Bool)(pts:List (List Int))(j:Nat):List D:=(dF b pts j).map Hh
theorem yx(b:Bool)(pts:List (List Int))(j:Nat):(gX b pts j).length<=j*j:=by unfold gX;rw[List.length_map];exact rX b pts j
theorem vA(b:Bool)(pts:List (List Int))(j:Nat):gX b pts (j+1)=gX b pts j++(List.range j).map λi=>CV b pts i j:=by
 unfold gX;rw[dF,List.map_append,rV,List.map_map];rfl
theorem rW(b:Bool)(pts:List (List Int)):(gX b pts pts.length).all Jo=true/\(gX b pts pts.length).map Ek=dF b pts pts.length:=by
 have h:∀d∈dF b pts pts.length,Jo (Hh d)=true/\Ek (Hh d)=d:=λd hd=>by
  obtain⟨i,j,_,_,rfl⟩:=rY.mp hd;exact⟨rfl,rfl⟩
 refine⟨List.all_eq_true.mpr λd hd=>?_,?_⟩
 ·obtain⟨e,he,rfl⟩:=List.mem_map.mp hd
  exact(h e he).1
 ·unfold gX
  rw[List.map_map];exact(List.map_congr_left λd hd=>(h d hd).2).trans (List.map_id _)
def nc(b:Bool)(pts:List (List Int)):List D:=(cD (bO b pts)).map Hh
def gJ:cf:=λds Q=>∃b n pts,ds=[d4 pts,dn b]/\Good n pts/\pts.length<=1000/\Q (.own (nc b pts))
theorem zi(ds:List D)(Q:B->Prop)(h:gJ ds Q):DY qO {nx:=λ_=>Q (.sh .bx),rt:=λb _=>Q b} (aY Aa.length ds):=by
 obtain⟨b,n,pts,rfl,hg,hl,h⟩:=h;unfold DY;refine au λN hN=>?_;walk_at "vx";refine⟨by decide,?_⟩
 subst hN;refine au λN hN=>?_;rw[show d4 pts=.lst (pts.map cY)from rfl]
 walk_at "vx";rw[yA];refine cJ (λq:Nat×List Int=>.tup [.int (q.1:Nat),cY q.2]) _ (λi σ=>∃x3 x4,σ=[some (.sh (.lst (pts.map cY))),some (.sh (dn b)),some (.own (gX b pts i)),x3,x4]) (λi q σ N' hx hI rF=>?_) (λσ hI=>?_) ⟨none,none,rfl⟩
 ·obtain⟨x3,x4,rfl⟩:=hI
  obtain⟨e1,e2⟩:=Bf hx;obtain⟨j,r⟩:=q;cases e1;have e2:pts[j]?=some r:=e2;have hj:j<pts.length:=(List.getElem?_eq_some_iff.mp e2).1;have hr:r=pts.getD j []:=by rw[List.getD_eq_getElem?_getD,e2];rfl
  walk_at "vg";walk_at "vx";rw[Int.toNat_natCast,cM];refine⟨⟨_,rfl⟩,by omega,dB (λi:Nat=>.int (0+(i:Nat))) (λi=>CV b pts i j) _ (λi hi A ha=>?_) (by rw[List.length_range,sz];omega) ?_⟩
  ·have hi:=List.mem_range.mp hi
   walk_at "vx";rw[Int.zero_add];refine aS (n:=i) rfl (iB ⋯) ?_
   walk_at "vx";refine⟨b,_,r,rfl,hg.bd (getD_mem ⋯),hg.bd (List.mem_of_getElem? e2),?_⟩
   walk_at "vx";refine⟨by decide,?_⟩
   unfold CV at ha;rw[<- hr]at ha;exact ha
  ·have hz:=yx b pts j
   have hz2:j*j<=1000*1000:=Nat.mul_le_mul ⋯ ⋯
   refine⟨by rw[List.length_map,List.length_range,sz];omega,rF _ ⟨some (.sh (.int (j:Nat))),some (.sh (cY r)),by rw[vA]⟩⟩
 ·obtain⟨x3,x4,rfl⟩:=hI
  subst hN;rw[List.length_mapIdx];walk_at "vx";refine⟨(rW b pts).1,?_⟩;rw[(rW b pts).2,zv];exact h
def VX(t:Tr):D:=.tup [.tk t.1,.int (t.2.1:Nat),.int (t.2.2:Nat)]
theorem qk(b:Bool)(pts:List (List Int)):nc b pts=(gM b pts).map VX:=by
 unfold nc;rw[mQ,List.map_map];rfl
theorem yc(b:Bool)(pts:List (List Int)):∀j,2*(dF b pts j).length+j=j*j
 | 0=>rfl
 | j+1=>by
  have ih:=yc b pts j;have e:(j+1)*(j+1)=j*j+j+j+1:=by rw[Nat.succ_mul,Nat.mul_succ];omega
  rw[dF,List.length_append,rV,List.length_map,List.length_range,e];omega
theorem rp{b:Bool}{pts:List (List Int)}(hl:pts.length<=150):(gM b pts).length<=11175:=by
 have h1:=yc b pts pts.length;have h2:(gM b pts).length=(bO b pts).length:=by
  have:=congrArg List.length (mQ b pts);rw[List.length_map,(cq _).length_eq]at this;exact this.symm
 have h3:=(lb b pts).length_eq;have h4:pts.length*pts.length<=150*pts.length:=Nat.mul_le_mul_right _ hl;omega
def fU:cf:=λds Q=>∃b n pts c,ds=[d4 pts,.lst (nc b pts),.int c]/\Good n pts/\pts.length<=150/\0<=c/\Q (.sh (.int (bK (kG b pts c):Nat)))
theorem CQ(ds:List D)(Q:B->Prop)(h:fU ds Q):DZ mJ {nx:=λ_=>Q (.sh .bx),rt:=λb _=>Q b} (aY Ab.length ds):=by
 obtain⟨b,n,pts,c,rfl,hg,hl,hc,h⟩:=h;have hz:=rp (b:=b) hl;unfold DZ;rw[show d4 pts=.lst (pts.map cY)from rfl,qk]
 walk_at "vx";rw[List.length_map];have zR:(b8 b pts c).length<=22500:=by
  unfold b8;have h1:=List.length_filter_le (λt:Tr=>decide (t.1<=c)) (gM b pts);omega
 refine gY VX (λt:Tr=>if t.1<=c then some (Di t)else none) (gM b pts) (λt ht A Bn ha=>?_) (by rw[sz];omega) ?_
 ·unfold VX
  walk_at "vg";walk_at "vx"
  by_cases ht:t.1<=c
  ·rw[if_pos ht]at ha
   exact(if_pos ht).mpr ⟨by decide,ha⟩
  ·rw[if_neg ht]at ha
   exact(if_neg ht).mpr ha
 have XC:(gM b pts).filterMap (λt:Tr=>if t.1<=c then some (Di t)else none)=(b8 b pts c).map Di:=by
  unfold b8;generalize gM b pts=l
  induction l with
  | nil=>rfl
  | cons t l ih =>
   by_cases h:t.1<=c
   ·rw[List.filterMap_cons_some (by rw[if_pos h]),ih,List.filter_cons_of_pos (by simpa using h)];rfl
   ·rw[List.filterMap_cons_none (by rw[if_neg h]),ih,List.filter_cons_of_neg (by simpa using h)]
 rw[XC];refine⟨pts.length,b8 b pts c,CD b pts c,rfl,hl,zR,λt ht=>?_,F8 b pts c,?_⟩
 ·have:=jX t (List.mem_filter.mp ht).1
  exact⟨this.1,this.2.1⟩
 walk_at "vx";rw[vT];exact h
theorem DE(ls:List Int):bK ls<=ls.length:=by
 unfold bK;have:=List.countP_le_length (p:=λx=>decide (ls.getD x 0=(x:Int))) (l:=List.range ls.length)
 rwa [List.length_range]at this
theorem mx{b:Bool}{pts:List (List Int)}{c:Int}{m:Nat}(hc:0<=c)(hm:1<=m):bK (kG b pts c)<=m ↔ o8 b pts m<=c:=by
 unfold o8;have h1:=DE (kG b pts c);rw[(lH b pts c).2]at h1
 by_cases hp:pts.length<=m
 ·rw[if_pos hp]
  exact⟨λ_=>hc,λ_=>by omega⟩
 ·rw[if_neg hp]
  have hi:pts.length-m-1<(dj b pts).length:=by rw[jd];omega
  have e:(dj b pts)[pts.length-m-1]?=some ((dj b pts)[pts.length-m-1]):=List.getElem?_eq_getElem hi;obtain⟨p1,p2⟩:=gG b pts c e;rw[List.getD_eq_getElem?_getD,e];show _ ↔ (dj b pts)[pts.length-m-1].1<=c;constructor
  ·intro h
   refine Int.not_lt.mp λz=>?_;have:=p2 z;omega
  ·intro h
   have:=p1 h;omega
theorem J4{b:Bool}{pts:List (List Int)}{m:Nat}:o8 b pts m∈(0:Int)::(gM b pts).map (·.1):=by
 unfold o8
 split
 ·exact List.mem_cons_self ..
 ·by_cases hi:pts.length-m-1<(dj b pts).length
  ·rw[List.getD_eq_getElem?_getD,List.getElem?_eq_getElem hi]
   exact List.mem_cons_of_mem _ (List.mem_map.mpr ⟨_,(g0 pts.length (gM b pts)).2.2 _ (List.getElem_mem hi),rfl⟩)
  ·rw[List.getD_eq_getElem?_getD,List.getElem?_eq_none ⋯]
   exact List.mem_cons_self ..
theorem Ef(is:List Int)(x:Int):x∈kq is ↔ x∈is:=by
 have h:=PyProof.Rows.firstMet_any (λi=>is.getD i 0) is.length x;have e:(List.range is.length).map (λi=>is.getD i 0)=is:=by
  refine List.ext_getElem? λi=>?_;rw[List.getElem?_map]
  by_cases hi:i<is.length
  ·rw[List.getElem?_range hi,List.getElem?_eq_getElem hi]
   show some (is.getD i 0)=_;rw[List.getD_eq_getElem?_getD,List.getElem?_eq_getElem hi];rfl
  ·rw[List.getElem?_eq_none (by rw[List.length_range];omega),List.getElem?_eq_none ⋯];rfl
 rw[e]at h;have k:∀l:List Int,l.any (·==x)=true ↔ x∈l:=λl=>by
  rw[List.any_eq_true];exact⟨λ⟨y,hy,q⟩=>by rw[<- eq_of_beq q];exact hy,λhx=>⟨x,hx,beq_self_eq_true x⟩⟩
 rw[<- k,<- k];unfold kq;rw[h]
def gO(b:Bool)(pts:List (List Int)):List Int:=iY (kq ((0:Int)::(gM b pts).map (·.1)))
theorem vE{b:Bool}{pts:List (List Int)}{x:Int}:x∈gO b pts ↔ x∈(0:Int)::(gM b pts).map (·.1):=by
 unfold gO;rw[(gI _).mem_iff,Ef]
theorem SE{b:Bool}{pts:List (List Int)}{x:Int}(h:x∈gO b pts):0<=x:=by
 rcases List.mem_cons.mp (vE.mp h)with e|h
 ·rw[e];exact Int.le_refl _
 ·obtain⟨t,ht,e⟩:=List.mem_map.mp h
  rw[<- e];exact(jX t ht).2.2
theorem BH{b:Bool}{pts:List (List Int)}{i j:Nat}(jy:i<=j)(hj:j<(gO b pts).length):(gO b pts)[i]'⋯<=(gO b pts)[j]:=by
 rcases Nat.lt_or_ge i j with h|h
 ·exact List.pairwise_iff_getElem.mp (iZ _) i j (by show i<(gO b pts).length;omega) hj h
 ·have:i=j:=by omega
  subst this;exact Int.le_refl _
theorem Lk{b:Bool}{pts:List (List Int)}(hl:pts.length<=150):(gO b pts).length<=11176/\0<(gO b pts).length:=by
 have h1:=rp (b:=b) hl;have h2:=Hf ((0:Int)::(gM b pts).map (·.1))
 have h3:(gO b pts).length=(kq ((0:Int)::(gM b pts).map (·.1))).length:=(gI _).length_eq
 rw[List.length_cons,List.length_map]at h2;refine⟨by omega,List.length_pos_of_mem (vE.mpr (List.mem_cons_self ..))⟩
def jO:cf:=λds Q=>∃b n pts,∃m:Nat,ds=[d4 pts,.lst (nc b pts),.int (m:Int)]/\Good n pts/\pts.length<=150/\1<=m/\Q (.sh (.int (o8 b pts m)))
theorem CP(ds:List D)(Q:B->Prop)(h:jO ds Q):DX fU {nx:=λ_=>Q (.sh .bx),rt:=λb _=>Q b} (aY z9.length ds):=by
 obtain⟨b,n,pts,m,rfl,hg,hl,hm,h⟩:=h;have hz:=rp (b:=b) hl;unfold DX;rw[show d4 pts=.lst (pts.map cY)from rfl]
 refine au λN hN=>?_;walk_at "vx";rw[qk];refine⟨by decide,dB VX (λt:Tr=>D.tk t.1) (gM b pts) (λt ht A ha=>?_) (by rw[sz];omega) ?_⟩
 ·unfold VX
  walk_at "vx";exact ha
 have ek:(D.tk 0::(gM b pts).map λt:Tr=>D.tk t.1)=((0:Int)::(gM b pts).map (·.1)).map D.tk:=by rw[List.map_cons,List.map_map];rfl
 rw[ek,<- qk];refine⟨by rw[List.length_map,sz];omega,⟨?_,by rw[List.length_map];omega⟩,?_⟩
 ·rw[List.all_map];exact List.all_eq_true.mpr λ_ _=>rfl
 rw[show(((0:Int)::(gM b pts).map (·.1)).map D.tk).map WC=(0:Int)::(gM b pts).map (·.1)from by rw[List.map_map];exact(List.map_congr_left λ_ _=>rfl).trans (List.map_id _)]
 rw[show iY (kq ((0:Int)::(gM b pts).map (·.1)))=gO b pts from rfl]
 subst hN;obtain⟨f1,f0⟩:=Lk (b:=b) hl;refine au λN hN=>?_;walk_at "vx";subst hN;refine au λN hN=>?_;walk_at "vx";rw[List.length_map];subst hN;refine au λN hN=>?_;obtain⟨pi,Wf,Xk⟩:=List.mem_iff_getElem.mp (vE.mpr (J4 (b:=b) (pts:=pts) (m:=m)));have at':∀i,i<(gO b pts).length->(gO b pts)[i]?=some ((gO b pts).getD i 0):=λi hi=>by rw[List.getD_eq_getElem?_getD,List.getElem?_eq_getElem hi];rfl
 have ge:∀i (hi:i<(gO b pts).length),(gO b pts)[i]=(gO b pts).getD i 0:=λi hi=>by rw[List.getD_eq_getElem?_getD,List.getElem?_eq_getElem hi];rfl
 refine⟨λw σ=>∃(lo hi:Nat) (x6:Option B),σ=[some (.sh (.lst (pts.map cY))),some (.sh (.lst (nc b pts))),some (.sh (.int (m:Int))),some (.own ((gO b pts).map D.int)),some (.sh (.int (lo:Nat))),some (.sh (.int (hi:Nat))),x6]/\lo<=hi/\hi<(gO b pts).length/\(∀j,j<lo->(gO b pts).getD j 0<o8 b pts m)/\o8 b pts m<=(gO b pts).getD hi 0/\w=hi-lo,
  ⟨_,0,(gO b pts).length-1,none,by rw[show(((gO b pts).length:Nat):Int)-1=(((gO b pts).length-1:Nat):Int)by omega];rfl,Nat.zero_le _,by omega,(λj hj=>absurd hj (Nat.not_lt_zero _)),by rw[<- Xk,<- ge _ ⋯];exact BH ⋯ ⋯,rfl⟩,λw σ=>?_⟩
 rintro⟨lo,hi,x6,rfl,h1,h2,h3,h4,rfl⟩;walk_at "vx"
 by_cases fy:lo<hi
 ·rw[if_pos ⋯]
  have ea:((lo:Int)+(hi:Int))/2=(((lo+hi)/2:Nat):Int):=by omega
  obtain⟨at_,eat⟩:∃a,a=(lo+hi)/2:=⟨_,rfl⟩;rw[<- eat]at ea;refine⟨_,λbB Qt=>Qt,?_⟩;rw[ea];refine⟨by first|decide | (unfold rM;omega),aS (n:=at_) rfl (show _=some (D.int ((gO b pts).getD at_ 0))by rw[List.getElem?_map,at' _ ⋯];rfl) ?_⟩
  have yK:0<=(gO b pts).getD at_ 0:=by rw[<- ge at_ ⋯];exact SE (List.getElem_mem _)
  refine⟨b,n,pts,_,rfl,hg,hl,yK,?_⟩;walk_at "vx"
  by_cases hp:bK (kG b pts ((gO b pts).getD at_ 0))<=m
  ·rw[if_pos ⋯]
   exact⟨at_-lo,by omega,lo,at_,_,rfl,by omega,by omega,h3,(mx yK hm).mp hp,rfl⟩
  ·rw[if_neg ⋯]
   refine⟨hi-(at_+1),by omega,at_+1,hi,_,rfl,by omega,by omega,λj hj=>?_,h4,rfl⟩
   have hn:¬o8 b pts m<=(gO b pts).getD at_ 0:=λz=>hp ((mx yK hm).mpr z);have:=BH (b:=b) (pts:=pts) (show j<=at_ by omega) ⋯
   rw[ge j ⋯,ge at_ ⋯]at this
   omega
 ·rw[if_neg ⋯]
  have elh:lo=hi:=by omega
  subst elh;subst hN;walk_at "vx";refine aS (n:=lo) rfl (show _=some (D.int ((gO b pts).getD lo 0))by rw[List.getElem?_map,at' _ h2];rfl) ?_
  have hle:lo<=pi:=Nat.le_of_not_lt λz=>by
   have:=h3 pi z;rw[<- ge _ Wf,Xk]at this;omega
  have:=BH (b:=b) (pts:=pts) hle Wf;rw[ge lo h2,Xk]at this;rw[show(gO b pts).getD lo 0=o8 b pts m by omega]
  exact h
theorem tP{M:Int}:∀(r:List Int) (v:Int),v<=M->(∀x∈r,x<=M)->(v=M\/M∈r)->(r.map D.int).foldl (λb y=>if ltI b y=true then y else b) (.int v)=.int M
 | [],v,_,_,h3=>by
  rcases h3 with rfl|h
  ·rfl
  ·cases h
 | x::r,v,h1,h2,h3=>by
  have hx:=h2 x (.head _);rw[List.map_cons,List.foldl_cons,show(if ltI (.int v) (.int x)=true then D.int x else D.int v)=.int (if v<x then x else v)from by
   show(if decide (v<x)=true then _ else _)=_
   by_cases z:v<x
   ·rw[if_pos (decide_eq_true z),if_pos z]
   ·rw[if_neg (by rw[decide_eq_false z];decide),if_neg z]]
  refine tP r _ (by split<;>omega) (λy hy=>h2 y (.tail _ hy)) ?_
  rcases h3 with rfl|h
  ·exact .inl (if_neg ⋯)
  ·rcases List.mem_cons.mp h with rfl|h
   ·by_cases z:v<M
    ·exact .inl (if_pos z)
    ·exact .inl (by rw[if_neg z];omega)
   ·exact .inr h
theorem wH{b:Bool}{pts:List (List Int)}(h:pts≠[]):nv b pts=.int (o8 b pts 1):=by
 unfold nv o8;rw[if_neg h];have tl:=jd (b:=b) (pts:=pts);have LV:=List.length_pos_iff.mpr h;cases e:dj b pts with
 | nil =>
  rw[e]at tl;rw[if_pos (by simp at tl;omega)];rfl
 | cons t r =>
  rw[e,List.length_cons]at tl;rw[if_neg ⋯]
  have hi:pts.length-1-1<(t::r).length:=by rw[List.length_cons];omega
  obtain⟨M,eM⟩:∃M,M=((t::r).getD (pts.length-1-1) (0,0,0)).1:=⟨_,rfl⟩;have ed:(t::r).getD (pts.length-1-1) (0,0,0)=(t::r)[pts.length-1-1]:=by rw[List.getD_eq_getElem?_getD,List.getElem?_eq_getElem hi];rfl
  have all:∀x∈(t::r).map (·.1),x<=M:=λx hx=>by
   obtain⟨u,hu,rfl⟩:=List.mem_map.mp hx;obtain⟨k,hk,rfl⟩:=List.mem_iff_getElem.mp hu;refine Int.not_lt.mp λz=>?_;have a1:=(gG b pts M (k:=k) (t:=(t::r)[k]) (by rw[e,List.getElem?_eq_getElem hk])).2 z
   have a2:=(gG b pts M (k:=pts.length-1-1) (t:=(t::r)[pts.length-1-1]) (by rw[e,List.getElem?_eq_getElem hi])).1 (by rw[eM,ed];exact Int.le_refl _)
   rw[List.length_cons]at hk;omega
  have mem:M∈(t::r).map (·.1):=by rw[eM,ed];exact List.mem_map.mpr ⟨_,List.getElem_mem _,rfl⟩
  rw[<- eM];show(r.map λt=>D.int t.1).foldl _ (D.int t.1)=.int M;rw[show(r.map λt:Tr=>D.int t.1)=(r.map (·.1)).map D.int from by rw[List.map_map];rfl]
  refine tP _ _ (all _ (List.mem_cons_self ..)) (λx hx=>all x (List.mem_cons_of_mem _ hx)) ?_;rcases List.mem_cons.mp mem with z|z
  ·exact .inl z.symm
  ·exact .inr z
theorem UI(v:Int):zU 2 (.int v)=true:=rfl
def DK:cf:=λds Q=>∃ns:List Int,ds=[.fZ ns]/\ns.length<=63/\Q (.sh (.bl true))
theorem UT(ds:List D)(Q:B->Prop)(h:DK ds Q):D6 i7 gK qS gJ jO fU (eS 3) DJ qM {nx:=λ_=>Q (.sh .bx),rt:=λb _=>Q b} (aY Ai.length ds):=by
 obtain⟨ns,rfl,Wc,h⟩:=h;unfold D6;refine au λN hN=>?_;unfold xZ;generalize ht:bT (da [] 3 _) _=tb;walk_at "vx";refine⟨⟨cut ns none (some 3),by rw[lj],Nat.le_trans (wL _ _ _) Wc⟩,λm=>sO (λσ=>∃x1 x2 x3 x4 x5 x6 x7 x8 x9 rL Jp,σ=[some (.sh (.fZ ns)),x1,x2,x3,x4,x5,x6,x7,x8,x9,rL,Jp]) (λi c σ N' hI rF=>?_) (λσ hI=>?_) m 0 _ ⟨_,_,_,_,_,_,_,_,_,_,_,rfl⟩⟩
 ·obtain⟨x1,x2,x3,x4,x5,x6,x7,x8,x9,rL,Jp,rfl⟩:=hI
  subst ht;have r0:fq [.int c,.int 0]:=⟨_,_,rfl⟩;unfold Og;simp only[List.set_cons_zero,List.set_cons_succ]
  -- great
  refine au λN1 rG=>?_;have key:∀(y:List D) (great:Bool),fq y->N1 [some (.sh (.fZ ns)),some (.sh (.int (i:Nat))),some (.own y),some (.sh (.bl great)),x4,x5,x6,x7,x8,x9,rL,Jp]:=by
   intro y great ry;subst rG;have most:∀Q:D->Prop,(∀m:Nat,m<=150->Q (.int (m:Nat)))->FX (D.lst [D.int 20,D.int 150]) (D.int (if great=true then 1 else 0)) Q:=λQ hQ=>by
    refine cV (by split<;>omega) (by simp only[List.length_cons,List.length_nil];split<;>omega) λd hd=>?_
    simp only[List.mem_cons,List.not_mem_nil,or_false]at hd;rcases hd with rfl|rfl
    ·exact hQ 20 ∅
    ·exact hQ 150 ∅
   refine au λN2 pI=>?_;walk_at "vx";refine⟨⟨_,rfl⟩,⟨_,rfl⟩,ry,3,rfl,by decide,by decide,λa1 y1 Zm a11 r1=>?_⟩
   walk_at "vx";obtain⟨n,IG,Tb,rfl⟩:∃n:Nat,1<=n/\n<=3/\a1=(n:Int)-1:=⟨(1+a1).toNat,by omega,by omega,by omega⟩
   rw[show 1+((n:Int)-1)=(n:Int)by omega]
   refine⟨by decide,most _ λm hm=>?_⟩
   walk_at "vx";refine⟨r1,n,m,rfl,IG,Tb,hm,λpts y2 hg _ hl Vh=>?_⟩;have hl:pts.length<=150:=by omega
   walk_at "vx";subst pI;refine au λN2 pI=>?_;walk_at "vx";refine⟨⟨_,rfl⟩,Vh,rfl,λb y3 YT=>?_⟩;walk_at "vx";subst pI;refine au λN2 pI=>?_;walk_at "vx";refine⟨b,n,pts,rfl,hg,by omega,?_⟩
   walk_at "vx";subst pI;refine au λN2 pI=>?_;walk_at "vx";subst pI;refine au λN2 pI=>?_;walk_at "vx";rw[List.length_map];subst pI;refine au λN2 pI=>?_;walk_at "vx";refine⟨⟨_,rfl⟩,YT,_,rfl,by omega,by omega,λv y4 hv0 hv1 ry4=>?_⟩
   walk_at "vx";refine⟨⟨by decide,by decide,by decide⟩,by decide,?_⟩
   subst pI;obtain⟨vs,Zv,hvs⟩:∃vs:List Int,[D.int 1,D.int (if(pts.length:Int)-1>1 then(pts.length:Int)-1 else 1),D.int ((pts.length:Int)+1),D.int (1+v),D.int 2,D.int (if(pts.length:Int)>1 then(pts.length:Int)else 1),D.int (10^Int.toNat 33)]=vs.map D.int/\∀u∈vs,1<=u:=by
    refine⟨[1,if(pts.length:Int)-1>1 then(pts.length:Int)-1 else 1,(pts.length:Int)+1,1+v,2,if(pts.length:Int)>1 then(pts.length:Int)else 1,10^Int.toNat 33],rfl,λu hu=>?_⟩
    simp only[List.mem_cons,List.not_mem_nil,or_false]at hu;rcases hu with rfl|rfl|rfl|rfl|rfl|rfl|rfl
    ·decide
    ·split<;>omega
    ·omega
    ·omega
    ·decide
    ·split<;>omega
    ·decide
   rw[Zv];clear Zv;refine au λN2 pI=>?_;generalize ht:bT (da [] 11 _) _=tb;walk_at "vx";have lim:∀Q:D->Prop,(∀m:Int,Q (.int m))->FX (D.lst [D.int 7,D.int 4]) (D.int (if great=true then 1 else 0)) Q:=λQ hQ=>by
    refine cV (by split<;>omega) (by simp only[List.length_cons,List.length_nil];split<;>omega) λd hd=>?_
    simp only[List.mem_cons,List.not_mem_nil,or_false]at hd;rcases hd with rfl|rfl
    ·exact hQ 7
    ·exact hQ 4
   refine⟨by decide,lim _ λw=>?_⟩
   walk_at "vx";rw[lj];refine cJ D.int (cut vs none (some w)) (λ_ σ=>∃h6 h7 rL Jp,σ=[some (.sh (.fZ ns)),some (.sh (.int (i:Nat))),some (.own y4),some (.sh (.bl great)),some (.sh (.lst (pts.map cY))),some (.sh (dn b)),some h6,some h7,some (.sh (.int (pts.length:Nat))),some (.own (vs.map D.int)),rL,Jp]/\(h6=.own (nc b pts)\/h6=.sh (.lst (nc b pts)))/\(h7=.own (pts.map cY)\/h7=.sh (.lst (pts.map cY)))) (λi' v σ N3 hx hI Lp=>?_) (λσ hI=>?_) ⟨_,_,_,_,rfl,.inl rfl,.inl rfl⟩
   ·obtain⟨h6,h7,rL,Jp,rfl,e6,e7⟩:=hI
    have hv:1<=v:=hvs v (by
     have:=List.mem_of_getElem? hx;unfold cut at this;exact List.mem_of_mem_drop (List.mem_of_mem_take this))
    obtain⟨m,rfl⟩:∃m:Nat,v=(m:Int):=⟨v.toNat,by omega⟩
    have hm:1<=m:=by omega
    walk_at "vg";subst ht;refine au λN4 Lq=>?_;have k4:N4 [some (.sh (.fZ ns)),some (.sh (.int (i:Nat))),some (.own y4),some (.sh (.bl great)),some (.sh (.lst (pts.map cY))),some (.sh (dn b)),some (.sh (.lst (nc b pts))),some h7,some (.sh (.int (pts.length:Nat))),some (.own (vs.map D.int)),some (.sh (.int (m:Int))),some (.sh (.int (o8 b pts m)))]:=by
     subst Lq;refine au λN5 hN5=>?_;have k5:N5 [some (.sh (.fZ ns)),some (.sh (.int (i:Nat))),some (.own y4),some (.sh (.bl great)),some (.sh (.lst (pts.map cY))),some (.sh (dn b)),some (.sh (.lst (nc b pts))),some h7,some (.sh (.int (pts.length:Nat))),some (.own (vs.map D.int)),some (.sh (.int (m:Int))),some (.sh (.int (o8 b pts m)))]:=by
      subst hN5;rcases e7 with rfl|rfl
      all_goals
       walk_at "vx";refine⟨b,n,pts,m,rfl,hg,by omega,hm,?_⟩
       walk_at "vx";refine⟨_,rfl,UI _,?_⟩;walk_at "vx"
       try refine(if_neg ∅).mpr ?_
       exact Lp _ ⟨_,_,_,_,rfl,.inr rfl,.inr rfl⟩
     walk_at "vx"
     by_cases hp:0<o8 b pts m
     ·rw[if_pos hp]
      refine⟨b,n,pts,_,rfl,hg,hl,by omega,?_⟩
      walk_at "vx";have hn:¬bK (kG b pts (o8 b pts m-1))<=m:=λz=>by
       have:=(mx (b:=b) (pts:=pts) (c:=o8 b pts m-1) ⋯ hm).mp z
       omega
      exact(if_neg ⋯).mpr k5
     ·rw[if_neg hp]
      exact(if_neg ∅).mpr k5
    rcases e6 with rfl|rfl
    all_goals
     walk_at "vx";refine⟨b,n,pts,m,rfl,hg,hl,hm,?_⟩;walk_at "vx";exact k4
   ·obtain⟨h6,h7,rL,Jp,rfl,e6,e7⟩:=hI
    subst pI;refine au λN4 Lq=>?_;walk_at "vx";subst Lq;refine au λN4 Lq=>?_;walk_at "vx";subst Lq;refine au λN4 Lq=>?_;have k6:∀(h6:B) (dd:D),dd=nv b pts->zU 2 dd=true->N4 [some (.sh (.fZ ns)),some (.sh (.int (i:Nat))),some (.own y4),some (.sh (.bl great)),some (.sh (.lst (pts.map cY))),some (.sh (dn b)),some h6,some h7,some (.sh (.int (pts.length:Nat))),some (.own (vs.map D.int)),rL,some (.sh dd)]:=by
     intro h6 dd ed od;subst Lq;rcases e7 with rfl|rfl
     all_goals
      walk_at "vx";refine⟨b,n,pts,rfl,hg,by omega,?_⟩
      walk_at "vx";refine⟨_,by rw[ed],?_,?_⟩
      ·rw[<- ed];exact od
      walk_at "vx"
      try refine(if_neg ∅).mpr ?_
      refine⟨⟨vO pts,vO pts⟩,?_⟩;rw[Fm]
      try refine(if_neg ∅).mpr ?_
      exact rF _ ⟨_,_,_,_,_,_,_,_,_,_,_,rfl⟩
    by_cases hp:pts=[]
    ·subst hp
     rcases e6 with rfl|rfl
     all_goals
      walk_at "vx";refine⟨by decide,⟨rfl,rfl⟩,?_⟩
      exact(if_neg ∅).mpr (k6 _ _ rfl rfl)
    ·have en:kI (.lst (pts.map cY)) (.lst [])=false:=by cases pts with|nil=>exact absurd rfl hp|cons p r=>rfl
     rcases e6 with rfl|rfl
     all_goals
      walk_at "vx";refine⟨by decide,⟨vO pts,rfl⟩,(if_pos en).mpr ?_⟩
      refine⟨b,n,pts,1,rfl,hg,hl,by decide,?_⟩
      walk_at "vx";exact k6 _ _ (wH hp).symm rfl
  walk_at "vx";refine⟨⟨rfl,rfl⟩,?_⟩
  split
  ·refine⟨⟨_,rfl⟩,r0,8,rfl,by decide,by decide,λa2 y2 a20 a21 r2=>?_⟩
   walk_at "vx";refine⟨⟨rfl,rfl⟩,?_⟩;exact key _ _ r2
  ·exact key _ _ r0
 ·obtain⟨x1,x2,x3,x4,x5,x6,x7,x8,x9,rL,Jp,rfl⟩:=hI
  subst hN;walk_at "vx";refine⟨by decide,false,1,[],rfl,⟨⟨by decide,by decide⟩,λp hp=>by cases hp⟩,by decide,?_⟩
  rw[show nv false []=.bx from rfl]
  walk_at "vx";refine⟨by decide,by decide,true,2,[[3,4]],rfl,⟨⟨by decide,by decide⟩,λp hp=>?_⟩,by decide,?_⟩
  ·rw[List.mem_singleton]at hp
   subst hp;exact⟨rfl,by decide⟩
  rw[wH (by simp),show o8 true [[3,4]] 1=0 from rfl]
  walk_at "vx";exact⟨⟨rfl,rfl⟩,h⟩
end
def xN(K:PySem.W.Frag):Sp:=λvs H Q _=>∃(a:Addr) (ns:List Int),vs=[.ref a]/\dY K H a (ns.map V.int)/\ns.length<=63/\∀H',Q (.bl true) H'
-- level 6
section
variable [KF]{G:GE}{k:Nat}
theorem Fs{x:Str}{st:Stmt}{ps:List Str}{f:Addr}{fd:FuncData}(d:cT G x st ps f fd):dq G k x λ_ _=>False:=
 ⟨f,fd,ps,⟨λvs H Q E h=>by obtain⟨_,_,_,_,_,z,_⟩:=h;exact z.elim,λA outer s H args us vs Q E _ _ _ _ _ h=>by obtain⟨_,_,_,_,_,z,_⟩:=h;exact z.elim⟩,d.m,d.F.kp,d.b⟩
local macro_rules|`(tactic| walk_at "8")=>`(tactic| (intro xs ds Q h;first|(obtain⟨e,_⟩:=h;rw[e];rfl) | (obtain⟨_,e,_⟩:=h;rw[e];rfl) | (obtain⟨_,_,e,_⟩:=h;rw[e];rfl) | (obtain⟨_,_,_,e,_⟩:=h;rw[e];rfl) | (obtain⟨_,_,_,_,e,_⟩:=h;rw[e];rfl) | (obtain⟨_,_,_,_,_,e,_⟩:=h;rw[e];rfl) | (obtain⟨_,_,_,_,_,_,e,_⟩:=h;rw[e];rfl) | (obtain⟨_,_,_,_,_,_,_,e,_⟩:=h;rw[e];rfl) | (obtain⟨_,_,_,_,_,_,_,_,e,_⟩:=h;rw[e];rfl) | (obtain⟨_,_,_,_,_,_,_,_,_,e,_⟩:=h;rw[e];rfl) | (obtain⟨_,_,_,_,_,_,_,_,_,_,e,_⟩:=h;rw[e];rfl)))
local macro_rules|`(tactic| walk_at "7")=>`(tactic| (intro ds Q h;first|(obtain⟨e,_⟩:=h;rw[e];rfl) | (obtain⟨_,e,_⟩:=h;rw[e];rfl) | (obtain⟨_,_,e,_⟩:=h;rw[e];rfl) | (obtain⟨_,_,_,e,_⟩:=h;rw[e];rfl) | (obtain⟨_,_,_,_,e,_⟩:=h;rw[e];rfl) | (obtain⟨_,_,_,_,_,e,_⟩:=h;rw[e];rfl) | (obtain⟨_,_,_,_,_,_,e,_⟩:=h;rw[e];rfl) | (obtain⟨_,_,_,_,_,_,_,e,_⟩:=h;rw[e];rfl) | (obtain⟨_,_,_,_,_,_,_,_,e,_⟩:=h;rw[e];rfl) | (obtain⟨_,_,_,_,_,_,_,_,_,e,_⟩:=h;rw[e];rfl) | (obtain⟨_,_,_,_,_,_,_,_,_,_,e,_⟩:=h;rw[e];rfl)))
theorem Nh(hK:G.K=KF.K)(hT:KF.tabs=[])(E:Gl G)
    {sk:Addr} {K4:FuncData} (AX:cT G "need_count" iI ["count"] sk K4)
    {Bj:Addr} {Sh:FuncData} (Kr:cT G "need_as_many_numbers" qy ["point","count"] Bj Sh)
    {Bs:Addr} {Sw:FuncData} (Kz:cT G "need_points" qG ["points"] Bs Sw)
    {sC:Addr} {Lc:FuncData} (A4:cT G "need_way" iR ["way"] sC Lc)
    {Bk:Addr} {Si:FuncData} (Ks:cT G "need_points_and_way" qz ["points","way"] Bk Si)
    {Br:Addr} {Sv:FuncData} (Ky:cT G "need_number" qF ["number"] Br Sv)
    {Bp:Addr} {Sr:FuncData} (Kw:cT G "far_between" qD ["way","point","other"] Bp Sr)
    {Bm:Addr} {Sl:FuncData} (Ku:cT G "pairs_by_places" qB ["points","way"] Bm Sl)
    {so:Addr} {K5:FuncData} (AY:cT G "all_pairs" iJ ["points","way"] so K5)
    {sG:Addr} {Lf:FuncData} (A7:cT G "joined" iV ["leasts","i","j"] sG Lf)
    {sj:Addr} {K3:FuncData} (AW:cT G "least_tree" iH ["points","way"] sj K3)
    {Bo:Addr} {Sn:FuncData} (Kv:cT G "bound_for_all" qC ["points","way"] Bo Sn)
    {Bl:Addr} {Sj:FuncData} (Kt:cT G "bound_for_parts" qA ["points","way","many"] Bl Sj)
    {sx:Addr} {K9:FuncData} (A2:cT G "_law_next" iO ["pot","many"] sx K9)
    {sy:Addr} {La:FuncData} (A3:cT G "_law_pots" iP ["script"] sy La)
    {Bt:Addr} {Sx:FuncData} (KA:cT G "_law_points" qH ["pot","count","most"] Bt Sx)
    {sD:Addr} {Ld:FuncData} (A5:cT G "_law_far" iT ["way","one","other"] sD Ld)
    {sE:Addr} {Le:FuncData} (A6:cT G "_law_way" iU ["pot"] sE Le)
    {su:Addr} {K7:FuncData} (A0:cT G "_law_pairs" iL ["points","way"] su K7)
    {Bq:Addr} {Ss:FuncData} (Kx:cT G "_law_reached" qE ["many","pairs"] Bq Ss)
    {sA:Addr} {Lb:FuncData} (nL:cT G "_law_same" iQ ["found","due"] sA Lb)
    {sv:Addr} {K8:FuncData} (A1:cT G "_law_parts" iM ["points","pairs","bound"] sv K8)
    {sr:Addr} {K6:FuncData} (AZ:cT G "_law_least" iK ["points","pairs","many"] sr K6)
    {nO:Addr} {Bw:FuncData} (A8:cT G "law" eY ["script"] nO Bw)
   :dD G.P G.w G.K G.mg G.base rC 7 nO Bw ["script"] (xN G.K):=by
  have BX:fk G 1 "_law_pots":=A3.vV (k:=0) hK OM rfl rfl (RV E);have cC:jn G 1 "_law_next" i7:=A2.Xn (k:=0) hK OJ (RU E) ∅ (by walk_at "8") Ny
  have LD:jn G 2 "_law_points" gK:=KA.Xn (k:=1) hK Vu (Xh E (cC.mono ∅)) ∅ (by walk_at "8") zj
  have B2:jn G 2 "_law_way" qS:=A6.Xn (k:=1) hK OT (RY E (cC.mono ∅)) ∅ (by walk_at "8") NC
  have B1:dq G 1 "_law_far" qO:=A5.fg (k:=0) hK OQ (RX E) (by walk_at "7") Nx
  have BW:dq G 2 "_law_pairs" gJ:=A0.fg (k:=1) hK OH (RQ E (B1.mono ∅)) (by walk_at "7") zi
  have Lz:dq G 1 "_law_reached" mJ:=Kx.fg (k:=0) hK Vq (Xe E) (by walk_at "7") Gy
  have nV:dq G 2 "_law_parts" fU:=A1.fg (k:=1) hK OI (RT E (Lz.mono ∅)) (by walk_at "7") CQ
  have wX:dq G 3 "_law_least" jO:=AZ.fg (k:=2) hK OG (RP E (nV.mono ∅)) (by walk_at "7") CP
  have sS:dq G 1 "_law_same" (eS 1):=nL.fg (k:=0) hK v9 (Be E (sp_q18:=eS 0) (Fs nL)) (by walk_at "7") (vR 0)
  have sT:dq G 2 "_law_same" (eS 2):=nL.fg (k:=1) hK v9 (Be E (sS.mono ∅)) (by walk_at "7") (vR 1)
  have sU:dq G 3 "_law_same" (eS 3):=nL.fg (k:=2) hK v9 (Be E (sT.mono ∅)) (by walk_at "7") (vR 2)
  have nW:=sU;have BU:dq G 1 "need_count" jQ:=AX.fg (k:=0) hK OC (RN E) (by walk_at "7") CT
  have Ls:dq G 1 "need_as_many_numbers" wc:=Kr.fg (k:=0) hK Vk (W8 E) (by walk_at "7") UP
  have LC:dq G 2 "need_points" qQ:=Kz.fg (k:=1) hK Vt (Xg E (BU.mono ∅) (Ls.mono ∅)) (by walk_at "7") NA
  have BZ:dq G 1 "need_way" qR:=A4.fg (k:=0) hK OO (RW E) (by walk_at "7") NB
  have Lv:dq G 3 "need_points_and_way" wd:=Ks.fg (k:=2) hK Vl (W9 E (LC.mono ∅) (BZ.mono ∅)) (by walk_at "7") UQ
  have Ly:dq G 1 "far_between" qN:=Kw.fg (k:=0) hK Vp (Xd E) (by walk_at "7") UO
  have Lx:dq G 2 "pairs_by_places" mH:=Ku.fg (k:=1) hK Vn (Xb E (Ly.mono ∅)) (by walk_at "7") Gx
  have BV:dq G 4 "all_pairs" jP:=AY.fg (k:=3) hK OD (RO E (Lv.mono ∅) (Lx.mono ∅)) (by walk_at "7") Nu
  have B3:dq G 1 "joined" fG:=A7.fg (k:=0) hK OU (RZ E) (by walk_at "7") UR
  have nU:dq G 5 "least_tree" kP:=AW.fg (k:=4) hK OB (RM E (BV.mono ∅) (B3.mono ∅)) (by walk_at "7") ND
  have LA:dq G 1 "need_number" qP:=Ky.fg (k:=0) hK Vr (Xf E) (by walk_at "7") Nz
  have Lw:dq G 6 "bound_for_parts" DJ:=Kt.fg (k:=5) hK Vm (Xa E (nU.mono ∅) (LA.mono ∅)) (by walk_at "7") YH
  have B4:dq G 6 "bound_for_all" qM:=Kv.fg (k:=5) hK Vo (Xc E (nU.mono ∅)) (by walk_at "7") Nv
  refine(Ir (k:=6) (sp:=DK) hK A8.F OW (R8 E (BX.mono ∅) (cC.mono ∅) (LD.mono ∅) (B2.mono ∅) (BW.mono ∅) (wX.mono ∅) (nV.mono ∅) (nW.mono ∅) (Lw.mono ∅) (B4.mono ∅)) (by walk_at "7") UT).imp λvs H Q E' h=>?_
  obtain⟨a,ns,rfl,hS,hl,q⟩:=h;refine⟨H,[.fZ ns],λb=>b=.sh (.bl true),⟨ao.refl _,λq hq=>by rw[hT]at hq;cases hq⟩,.cons (.fZ (by rw[<- hK];exact hS)) .nil,⟨ns,rfl,hl,rfl⟩,λv H' F' b _ _ _ _ r e=>?_⟩
  subst e;have r:Rep F' v (.bl true):=r;cases r;exact q H'
end
open PySem.W in
theorem all_mk{l:OpenLaw}{w:World}{K:Frag}{h:Heap}{mg:Str->Option Value}{fa:Addr}(X:K.In h)(Gs:h.Ns mainGlobals mg)(hfa:mg "law"=some (.ref fa))
 {sk Bj Bs sC Bk Br Bp Bm so sG sj Bo Bl sx sy Bt sD sE su Bq sA sv sr nO:Addr}
 {M0 JM Uv QX UD Q9 M9 JU Uw QY UC Q8 UA Q6 Uy Q0 M1 JN Nf JX MZ JL Uz Q5 Ux QZ M6 JR M7 JS UE Ra Nb JV Nc JW M4 JP UB Q7 M8 JT M5 JQ M3 JO Ng Am:Option Addr}
 {O1 Vv VD O9 Vw VC VA Vy O2 Pg O0 Vz Vx O6 O7 VE Pa Pb O4 VB O8 O5 O3 Ph:Array (Option Value)}
 {ML Md KD NX Aw Kc Uj TF Rz UZ HX Rm Ut TU RH U7 Ih Rx MT Mm KP Oa AH Kk Uk TH RA U0 HY Rn Ur TR RG U6 Ig Rw Up TN RE U4 Ic Ru Um TK RC U2 Ia Rq MM Mf KG NY Ax Kd MX Mr KS Od AK Ko MK Mb KC NW Av Kb Uo TL RD U3 Ib Rt Ul TJ RB U1 HZ Ro MQ Mj KL N7 AB Kh MR Mk KN N8 AF Ki Uu TY RJ U8 Ii Ry MU Mp KQ Ob AI Kl MV Mq KR Oc AJ Km MO Mh KI N0 Az Kf Uq TQ RF U5 Ie Rv MS Ml KO N9 AG Kj MP Mi KJ N6 AA Kg MN Mg KH NZ Ay Ke MY CA A9 Dd vy AQ:Value}
  {wq:Tok}
  {wt:Tok}
  (a_q11:nsIn K mainGlobals "need_count"=some (some (.ref sk)))
  (l_q11:K.lookup sk=some ⟨ML,M0,.func (fnOf "need_count" "need_count" (aQ iI) (ax iI) (ah iI) .none Md KD NX JM Aw Kc),O1⟩)
  (c_q11:codeIn K Aw "need_count"=true) (k_q11:keepIn K (.ref sk)=true)
  (a_q0:nsIn K mainGlobals "need_as_many_numbers"=some (some (.ref Bj)))
  (l_q0:K.lookup Bj=some ⟨Uj,Uv,.func (fnOf "need_as_many_numbers" "need_as_many_numbers" (aQ qy) (ax qy) (ah qy) .none TF Rz UZ QX HX Rm),Vv⟩)
  (c_q0:codeIn K HX "need_as_many_numbers"=true) (k_q0:keepIn K (.ref Bj)=true)
  (a_q8:nsIn K mainGlobals "need_points"=some (some (.ref Bs)))
  (l_q8:K.lookup Bs=some ⟨Ut,UD,.func (fnOf "need_points" "need_points" (aQ qG) (ax qG) (ah qG) .none TU RH U7 Q9 Ih Rx),VD⟩)
  (c_q8:codeIn K Ih "need_points"=true) (k_q8:keepIn K (.ref Bs)=true)
  (a_q19:nsIn K mainGlobals "need_way"=some (some (.ref sC)))
  (l_q19:K.lookup sC=some ⟨MT,M9,.func (fnOf "need_way" "need_way" (aQ iR) (ax iR) (ah iR) .none Mm KP Oa JU AH Kk),O9⟩)
  (c_q19:codeIn K AH "need_way"=true) (k_q19:keepIn K (.ref sC)=true)
  (a_q1:nsIn K mainGlobals "need_points_and_way"=some (some (.ref Bk)))
  (l_q1:K.lookup Bk=some ⟨Uk,Uw,.func (fnOf "need_points_and_way" "need_points_and_way" (aQ qz) (ax qz) (ah qz) .none TH RA U0 QY HY Rn),Vw⟩)
  (c_q1:codeIn K HY "need_points_and_way"=true) (k_q1:keepIn K (.ref Bk)=true)
  (a_q7:nsIn K mainGlobals "need_number"=some (some (.ref Br)))
  (l_q7:K.lookup Br=some ⟨Ur,UC,.func (fnOf "need_number" "need_number" (aQ qF) (ax qF) (ah qF) .none TR RG U6 Q8 Ig Rw),VC⟩)
  (c_q7:codeIn K Ig "need_number"=true) (k_q7:keepIn K (.ref Br)=true)
  (a_q5:nsIn K mainGlobals "far_between"=some (some (.ref Bp)))
  (l_q5:K.lookup Bp=some ⟨Up,UA,.func (fnOf "far_between" "far_between" (aQ qD) (ax qD) (ah qD) .none TN RE U4 Q6 Ic Ru),VA⟩)
  (c_q5:codeIn K Ic "far_between"=true) (k_q5:keepIn K (.ref Bp)=true)
  (a_q3:nsIn K mainGlobals "pairs_by_places"=some (some (.ref Bm)))
  (l_q3:K.lookup Bm=some ⟨Um,Uy,.func (fnOf "pairs_by_places" "pairs_by_places" (aQ qB) (ax qB) (ah qB) .none TK RC U2 Q0 Ia Rq),Vy⟩)
  (c_q3:codeIn K Ia "pairs_by_places"=true) (k_q3:keepIn K (.ref Bm)=true)
  (a_q12:nsIn K mainGlobals "all_pairs"=some (some (.ref so)))
  (l_q12:K.lookup so=some ⟨MM,M1,.func (fnOf "all_pairs" "all_pairs" (aQ iJ) (ax iJ) (ah iJ) .none Mf KG NY JN Ax Kd),O2⟩)
  (c_q12:codeIn K Ax "all_pairs"=true) (k_q12:keepIn K (.ref so)=true)
  (a_q22:nsIn K mainGlobals "joined"=some (some (.ref sG)))
  (l_q22:K.lookup sG=some ⟨MX,Nf,.func (fnOf "joined" "joined" (aQ iV) (ax iV) (ah iV) .none Mr KS Od JX AK Ko),Pg⟩)
  (c_q22:codeIn K AK "joined"=true) (k_q22:keepIn K (.ref sG)=true)
  (a_q10:nsIn K mainGlobals "least_tree"=some (some (.ref sj)))
  (l_q10:K.lookup sj=some ⟨MK,MZ,.func (fnOf "least_tree" "least_tree" (aQ iH) (ax iH) (ah iH) .none Mb KC NW JL Av Kb),O0⟩)
  (c_q10:codeIn K Av "least_tree"=true) (k_q10:keepIn K (.ref sj)=true)
  (a_q4:nsIn K mainGlobals "bound_for_all"=some (some (.ref Bo)))
  (l_q4:K.lookup Bo=some ⟨Uo,Uz,.func (fnOf "bound_for_all" "bound_for_all" (aQ qC) (ax qC) (ah qC) .none TL RD U3 Q5 Ib Rt),Vz⟩)
  (c_q4:codeIn K Ib "bound_for_all"=true) (k_q4:keepIn K (.ref Bo)=true)
  (a_q2:nsIn K mainGlobals "bound_for_parts"=some (some (.ref Bl)))
  (l_q2:K.lookup Bl=some ⟨Ul,Ux,.func (fnOf "bound_for_parts" "bound_for_parts" (aQ qA) (ax qA) (ah qA) .none TJ RB U1 QZ HZ Ro),Vx⟩)
  (c_q2:codeIn K HZ "bound_for_parts"=true) (k_q2:keepIn K (.ref Bl)=true)
  (a_q16:nsIn K mainGlobals "_law_next"=some (some (.ref sx)))
  (l_q16:K.lookup sx=some ⟨MQ,M6,.func (fnOf "_law_next" "_law_next" (aQ iO) (ax iO) (ah iO) .none Mj KL N7 JR AB Kh),O6⟩)
  (c_q16:codeIn K AB "_law_next"=true) (k_q16:keepIn K (.ref sx)=true)
  (a_q17:nsIn K mainGlobals "_law_pots"=some (some (.ref sy)))
  (l_q17:K.lookup sy=some ⟨MR,M7,.func (fnOf "_law_pots" "_law_pots" (aQ iP) (ax iP) (ah iP) .none Mk KN N8 JS AF Ki),O7⟩)
  (c_q17:codeIn K AF "_law_pots"=true) (k_q17:keepIn K (.ref sy)=true)
  (a_q9:nsIn K mainGlobals "_law_points"=some (some (.ref Bt)))
  (l_q9:K.lookup Bt=some ⟨Uu,UE,.func (fnOf "_law_points" "_law_points" (aQ qH) (ax qH) (ah qH) .none TY RJ U8 Ra Ii Ry),VE⟩)
  (c_q9:codeIn K Ii "_law_points"=true) (k_q9:keepIn K (.ref Bt)=true)
  (a_q20:nsIn K mainGlobals "_law_far"=some (some (.ref sD)))
  (l_q20:K.lookup sD=some ⟨MU,Nb,.func (fnOf "_law_far" "_law_far" (aQ iT) (ax iT) (ah iT) .none Mp KQ Ob JV AI Kl),Pa⟩)
  (c_q20:codeIn K AI "_law_far"=true) (k_q20:keepIn K (.ref sD)=true)
  (a_q21:nsIn K mainGlobals "_law_way"=some (some (.ref sE)))
  (l_q21:K.lookup sE=some ⟨MV,Nc,.func (fnOf "_law_way" "_law_way" (aQ iU) (ax iU) (ah iU) .none Mq KR Oc JW AJ Km),Pb⟩)
  (c_q21:codeIn K AJ "_law_way"=true) (k_q21:keepIn K (.ref sE)=true)
  (a_q14:nsIn K mainGlobals "_law_pairs"=some (some (.ref su)))
  (l_q14:K.lookup su=some ⟨MO,M4,.func (fnOf "_law_pairs" "_law_pairs" (aQ iL) (ax iL) (ah iL) .none Mh KI N0 JP Az Kf),O4⟩)
  (c_q14:codeIn K Az "_law_pairs"=true) (k_q14:keepIn K (.ref su)=true)
  (a_q6:nsIn K mainGlobals "_law_reached"=some (some (.ref Bq)))
  (l_q6:K.lookup Bq=some ⟨Uq,UB,.func (fnOf "_law_reached" "_law_reached" (aQ qE) (ax qE) (ah qE) .none TQ RF U5 Q7 Ie Rv),VB⟩)
  (c_q6:codeIn K Ie "_law_reached"=true) (k_q6:keepIn K (.ref Bq)=true)
  (a_q18:nsIn K mainGlobals "_law_same"=some (some (.ref sA)))
  (l_q18:K.lookup sA=some ⟨MS,M8,.func (fnOf "_law_same" "_law_same" (aQ iQ) (ax iQ) (ah iQ) .none Ml KO N9 JT AG Kj),O8⟩)
  (c_q18:codeIn K AG "_law_same"=true) (k_q18:keepIn K (.ref sA)=true)
  (a_q15:nsIn K mainGlobals "_law_parts"=some (some (.ref sv)))
  (l_q15:K.lookup sv=some ⟨MP,M5,.func (fnOf "_law_parts" "_law_parts" (aQ iM) (ax iM) (ah iM) .none Mi KJ N6 JQ AA Kg),O5⟩)
  (c_q15:codeIn K AA "_law_parts"=true) (k_q15:keepIn K (.ref sv)=true)
  (a_q13:nsIn K mainGlobals "_law_least"=some (some (.ref sr)))
  (l_q13:K.lookup sr=some ⟨MN,M3,.func (fnOf "_law_least" "_law_least" (aQ iK) (ax iK) (ah iK) .none Mg KH NZ JO Ay Ke),O3⟩)
  (c_q13:codeIn K Ay "_law_least"=true) (k_q13:keepIn K (.ref sr)=true)
  (a_q23:nsIn K mainGlobals "law"=some (some (.ref nO)))
  (l_q23:K.lookup nO=some ⟨MY,Ng,.func (fnOf "law" "law" (aQ eY) (ax eY) (ah eY) .none CA A9 Dd Am vy AQ),Ph⟩)
  (c_q23:codeIn K vy "law"=true) (k_q23:keepIn K (.ref nO)=true)
  (z_abs:nsIn K mainGlobals "abs"=some none)
  (z_bool:nsIn K mainGlobals "bool"=some none)
  (z_enumerate:nsIn K mainGlobals "enumerate"=some none)
  (z_int:nsIn K mainGlobals "int"=some none)
  (z_isinstance:nsIn K mainGlobals "isinstance"=some none)
  (z_len:nsIn K mainGlobals "len"=some none)
  (z_list:nsIn K mainGlobals "list"=some none)
  (z_max:nsIn K mainGlobals "max"=some none)
  (z_min:nsIn K mainGlobals "min"=some none)
  (z_range:nsIn K mainGlobals "range"=some none)
  (z_set:nsIn K mainGlobals "set"=some none)
  (z_sorted:nsIn K mainGlobals "sorted"=some none)
  (z_sum:nsIn K mainGlobals "sum"=some none)
  (z_tuple:nsIn K mainGlobals "tuple"=some none)
  (z_zip:nsIn K mainGlobals "zip"=some none)
  (u_SQUARES:nsIn K mainGlobals "SQUARES"=some (some (.str "squares" wq)))
  (u_STREETS:nsIn K mainGlobals "STREETS"=some (some (.str "streets" wt))):
  ∃fd:FuncData,yk fd ["script"]/\(∀(s:Shared) (v:Value),BindsTo s fd ⟨[v],[]⟩ [("script",v)])/\∀base:Heap,K.In base->base.Ns mainGlobals mg->dD l.prog w K mg base rC 7 fa fd ["script"] (xN K):=by
 have e:=hfa.symm.trans (mg_of X Gs a_q23);cases e;refine⟨fnOf "law" "law" (aQ eY) (ax eY) (ah eY) .none CA A9 Dd Am vy AQ,⟨_,_,rfl,rfl⟩,λs v=>.of_eq rfl,λbase _ _=>?_⟩
 letI:KF:=⟨K,λ_=>0,[]⟩
 have E:Gl ⟨l.prog,w,K,mg,base⟩:=⟨mg_none_of X Gs z_abs,mg_none_of X Gs z_bool,mg_none_of X Gs z_enumerate,mg_none_of X Gs z_int,mg_none_of X Gs z_isinstance,mg_none_of X Gs z_len,mg_none_of X Gs z_list,mg_none_of X Gs z_max,mg_none_of X Gs z_min,mg_none_of X Gs z_range,mg_none_of X Gs z_set,mg_none_of X Gs z_sorted,mg_none_of X Gs z_sum,mg_none_of X Gs z_tuple,mg_none_of X Gs z_zip,⟨_,.str "squares",mg_of X Gs u_SQUARES,⟨_,rfl⟩,λF=>.str _⟩,⟨_,.str "streets",mg_of X Gs u_STREETS,⟨_,rfl⟩,λF=>.str _⟩⟩;have Hz:=bJ (K:=K) (st:=iI) l_q11 c_q11 k_q11;have AX:cT ⟨l.prog,w,K,mg,base⟩ "need_count" iI ["count"] _ _:=⟨Hz,mg_of X Gs a_q11,Hz.binds λ_ _ _ _ _ _ us hl=>IQ (λ_=>rfl) us hl⟩;have QE:=bJ (K:=K) (st:=qy) l_q0 c_q0 k_q0;have Kr:cT ⟨l.prog,w,K,mg,base⟩ "need_as_many_numbers" qy ["point","count"] _ _:=⟨QE,mg_of X Gs a_q0,QE.binds λ_ _ _ _ _ _ us hl=>ln2 (λ_ _=>rfl) us hl⟩;have QM:=bJ (K:=K) (st:=qG) l_q8 c_q8 k_q8;have Kz:cT ⟨l.prog,w,K,mg,base⟩ "need_points" qG ["points"] _ _:=⟨QM,mg_of X Gs a_q8,QM.binds λ_ _ _ _ _ _ us hl=>IQ (λ_=>rfl) us hl⟩;have HH:=bJ (K:=K) (st:=iR) l_q19 c_q19 k_q19;have A4:cT ⟨l.prog,w,K,mg,base⟩ "need_way" iR ["way"] _ _:=⟨HH,mg_of X Gs a_q19,HH.binds λ_ _ _ _ _ _ us hl=>IQ (λ_=>rfl) us hl⟩;have QF:=bJ (K:=K) (st:=qz) l_q1 c_q1 k_q1;have Ks:cT ⟨l.prog,w,K,mg,base⟩ "need_points_and_way" qz ["points","way"] _ _:=⟨QF,mg_of X Gs a_q1,QF.binds λ_ _ _ _ _ _ us hl=>ln2 (λ_ _=>rfl) us hl⟩;have QL:=bJ (K:=K) (st:=qF) l_q7 c_q7 k_q7;have Ky:cT ⟨l.prog,w,K,mg,base⟩ "need_number" qF ["number"] _ _:=⟨QL,mg_of X Gs a_q7,QL.binds λ_ _ _ _ _ _ us hl=>IQ (λ_=>rfl) us hl⟩;have QJ:=bJ (K:=K) (st:=qD) l_q5 c_q5 k_q5;have Kw:cT ⟨l.prog,w,K,mg,base⟩ "far_between" qD ["way","point","other"] _ _:=⟨QJ,mg_of X Gs a_q5,QJ.binds λ_ _ _ _ _ _ us hl=>IU (λ_ _ _=>rfl) us hl⟩;have QH:=bJ (K:=K) (st:=qB) l_q3 c_q3 k_q3;have Ku:cT ⟨l.prog,w,K,mg,base⟩ "pairs_by_places" qB ["points","way"] _ _:=⟨QH,mg_of X Gs a_q3,QH.binds λ_ _ _ _ _ _ us hl=>ln2 (λ_ _=>rfl) us hl⟩;have HA:=bJ (K:=K) (st:=iJ) l_q12 c_q12 k_q12;have AY:cT ⟨l.prog,w,K,mg,base⟩ "all_pairs" iJ ["points","way"] _ _:=⟨HA,mg_of X Gs a_q12,HA.binds λ_ _ _ _ _ _ us hl=>ln2 (λ_ _=>rfl) us hl⟩;have HL:=bJ (K:=K) (st:=iV) l_q22 c_q22 k_q22;have A7:cT ⟨l.prog,w,K,mg,base⟩ "joined" iV ["leasts","i","j"] _ _:=⟨HL,mg_of X Gs a_q22,HL.binds λ_ _ _ _ _ _ us hl=>IU (λ_ _ _=>rfl) us hl⟩;have Hy:=bJ (K:=K) (st:=iH) l_q10 c_q10 k_q10;have AW:cT ⟨l.prog,w,K,mg,base⟩ "least_tree" iH ["points","way"] _ _:=⟨Hy,mg_of X Gs a_q10,Hy.binds λ_ _ _ _ _ _ us hl=>ln2 (λ_ _=>rfl) us hl⟩
 have QI:=bJ (K:=K) (st:=qC) l_q4 c_q4 k_q4;have Kv:cT ⟨l.prog,w,K,mg,base⟩ "bound_for_all" qC ["points","way"] _ _:=⟨QI,mg_of X Gs a_q4,QI.binds λ_ _ _ _ _ _ us hl=>ln2 (λ_ _=>rfl) us hl⟩;have QG:=bJ (K:=K) (st:=qA) l_q2 c_q2 k_q2;have Kt:cT ⟨l.prog,w,K,mg,base⟩ "bound_for_parts" qA ["points","way","many"] _ _:=⟨QG,mg_of X Gs a_q2,QG.binds λ_ _ _ _ _ _ us hl=>IU (λ_ _ _=>rfl) us hl⟩;have HE:=bJ (K:=K) (st:=iO) l_q16 c_q16 k_q16;have A2:cT ⟨l.prog,w,K,mg,base⟩ "_law_next" iO ["pot","many"] _ _:=⟨HE,mg_of X Gs a_q16,HE.binds λ_ _ _ _ _ _ us hl=>ln2 (λ_ _=>rfl) us hl⟩;have HF:=bJ (K:=K) (st:=iP) l_q17 c_q17 k_q17;have A3:cT ⟨l.prog,w,K,mg,base⟩ "_law_pots" iP ["script"] _ _:=⟨HF,mg_of X Gs a_q17,HF.binds λ_ _ _ _ _ _ us hl=>IQ (λ_=>rfl) us hl⟩;have QN:=bJ (K:=K) (st:=qH) l_q9 c_q9 k_q9;have KA:cT ⟨l.prog,w,K,mg,base⟩ "_law_points" qH ["pot","count","most"] _ _:=⟨QN,mg_of X Gs a_q9,QN.binds λ_ _ _ _ _ _ us hl=>IU (λ_ _ _=>rfl) us hl⟩;have HJ:=bJ (K:=K) (st:=iT) l_q20 c_q20 k_q20;have A5:cT ⟨l.prog,w,K,mg,base⟩ "_law_far" iT ["way","one","other"] _ _:=⟨HJ,mg_of X Gs a_q20,HJ.binds λ_ _ _ _ _ _ us hl=>IU (λ_ _ _=>rfl) us hl⟩;have HK:=bJ (K:=K) (st:=iU) l_q21 c_q21 k_q21;have A6:cT ⟨l.prog,w,K,mg,base⟩ "_law_way" iU ["pot"] _ _:=⟨HK,mg_of X Gs a_q21,HK.binds λ_ _ _ _ _ _ us hl=>IQ (λ_=>rfl) us hl⟩;have HC:=bJ (K:=K) (st:=iL) l_q14 c_q14 k_q14;have A0:cT ⟨l.prog,w,K,mg,base⟩ "_law_pairs" iL ["points","way"] _ _:=⟨HC,mg_of X Gs a_q14,HC.binds λ_ _ _ _ _ _ us hl=>ln2 (λ_ _=>rfl) us hl⟩;have QK:=bJ (K:=K) (st:=qE) l_q6 c_q6 k_q6;have Kx:cT ⟨l.prog,w,K,mg,base⟩ "_law_reached" qE ["many","pairs"] _ _:=⟨QK,mg_of X Gs a_q6,QK.binds λ_ _ _ _ _ _ us hl=>ln2 (λ_ _=>rfl) us hl⟩;have HG:=bJ (K:=K) (st:=iQ) l_q18 c_q18 k_q18;have nL:cT ⟨l.prog,w,K,mg,base⟩ "_law_same" iQ ["found","due"] _ _:=⟨HG,mg_of X Gs a_q18,HG.binds λ_ _ _ _ _ _ us hl=>ln2 (λ_ _=>rfl) us hl⟩;have HD:=bJ (K:=K) (st:=iM) l_q15 c_q15 k_q15;have A1:cT ⟨l.prog,w,K,mg,base⟩ "_law_parts" iM ["points","pairs","bound"] _ _:=⟨HD,mg_of X Gs a_q15,HD.binds λ_ _ _ _ _ _ us hl=>IU (λ_ _ _=>rfl) us hl⟩;have HB:=bJ (K:=K) (st:=iK) l_q13 c_q13 k_q13;have AZ:cT ⟨l.prog,w,K,mg,base⟩ "_law_least" iK ["points","pairs","many"] _ _:=⟨HB,mg_of X Gs a_q13,HB.binds λ_ _ _ _ _ _ us hl=>IU (λ_ _ _=>rfl) us hl⟩;have HM:=bJ (K:=K) (st:=eY) l_q23 c_q23 k_q23;have A8:cT ⟨l.prog,w,K,mg,base⟩ "law" eY ["script"] _ _:=⟨HM,mg_of X Gs a_q23,HM.binds λ_ _ _ _ _ _ us hl=>IQ (λ_=>rfl) us hl⟩;exact Nh rfl rfl E AX Kr Kz A4 Ks Ky Kw Ku AY A7 AW Kv Kt A2 A3 KA A5 A6 A0 Kx nL A1 AZ A8
theorem walk{l:PySem.W.OpenLaw}{q:Program}{loose:List Str}{XP:(Str->Option Value)->Heap->Prop}{YP:World->Heap->Prop}{d:DefRec}{K:Params->PySem.W.Frag}(hn:l.most=some 63)(SY:d.params.defaults=[])
  (hY:∀(w:World) (h:Heap),YP w h->(K w.params).In h)
  (F:∀(w:World) (mg:Str->Option Value) (fa:Addr) (h:Heap),(K w.params).In h->h.Ns mainGlobals mg->mg d.name=some (.ref fa) ->
   ∃fd:FuncData,yk fd ["script"]/\(∀(s:Shared) (u:Value),BindsTo s fd ⟨[u],[]⟩ [("script",u)])/\∀base:Heap,(K w.params).In base->base.Ns mainGlobals mg->dD l.prog w (K w.params) mg base rC 7 fa fd ["script"] (xN (K w.params))):
  PySem.W.WalkO q loose XP YP l.row.toRowW d [] (λf vs=>PySem.call f vs):=
 L2.Hk (n:=63) (k:=7) (x:="script") (CX:=λ_=>rC) (sp:=λw=>xN (K w.params)) hn ∅ SY ⟨rfl,by decide,by decide⟩ hY F (λ_ _ a ns hl _ hS=>⟨a,ns,rfl,hS,hl,λ_=>rfl⟩) λ_ _ _ _ _ z=>z
end WR
namespace PySem.W.Fast
theorem tw10035498288924093555:True:=⟨⟩
theorem tw10279415541623003908:True:=⟨⟩
theorem tw10295485068733821582:True:=⟨⟩
theorem tw10327698937375913304:True:=⟨⟩
theorem tw1034674939369694111:True:=⟨⟩
theorem tw1038684186488518627:True:=⟨⟩
theorem tw10577336853682873638:True:=⟨⟩
theorem tw10663083619768182086:True:=⟨⟩
theorem tw11110784368579009103:True:=⟨⟩
theorem tw11132554414825690835:True:=⟨⟩
theorem tw11220440960380336962:True:=⟨⟩
theorem tw11232193253212995547:True:=⟨⟩
theorem tw11277481616397933508:True:=⟨⟩
theorem tw11453075364904193270:True:=⟨⟩
theorem tw11628556194926931030:True:=⟨⟩
theorem tw11810243937167813010:True:=⟨⟩
theorem tw11855920465941172050:True:=⟨⟩
theorem tw11905253452131705235:True:=⟨⟩
theorem tw12353355414978285557:True:=⟨⟩
theorem tw12520324150979160897:True:=⟨⟩
theorem tw12571316879418177912:True:=⟨⟩
theorem tw12671243077597966343:True:=⟨⟩
theorem tw12733760108193381197:True:=⟨⟩
theorem tw12909699122482894968:True:=⟨⟩
theorem tw13323231125476542333:True:=⟨⟩
theorem tw1336609216386691279:True:=⟨⟩
theorem tw13371191013178992825:True:=⟨⟩
theorem tw13576269225361900325:True:=⟨⟩
theorem tw13613196337277876903:True:=⟨⟩
theorem tw13645693035556448754:True:=⟨⟩
theorem tw13766032985522997047:True:=⟨⟩
theorem tw13813841866024020339:True:=⟨⟩
theorem tw13885069165329899584:True:=⟨⟩
theorem tw13912422430172721123:True:=⟨⟩
theorem tw14084361733237606799:True:=⟨⟩
theorem tw14129473200295105203:True:=⟨⟩
theorem tw14152920593971946981:True:=⟨⟩
theorem tw14303382361120331421:True:=⟨⟩
theorem tw14365868600673176486:True:=⟨⟩
theorem tw14367647745497277307:True:=⟨⟩
theorem tw1459830267800658829:True:=⟨⟩
theorem tw14702267887754143126:True:=⟨⟩
theorem tw1494266348614529101:True:=⟨⟩
theorem tw14999497288225316026:True:=⟨⟩
theorem tw15015112718964067093:True:=⟨⟩
theorem tw15323530023669949464:True:=⟨⟩
theorem tw1545462050933032143:True:=⟨⟩
theorem tw15687329943083305959:True:=⟨⟩
theorem tw15908597169999280006:True:=⟨⟩
theorem tw15945339672415060122:True:=⟨⟩
theorem tw15974121992949240299:True:=⟨⟩
theorem tw16047231024255498924:True:=⟨⟩
theorem tw16049613608185910657:True:=⟨⟩
theorem tw16115640482282290818:True:=⟨⟩
theorem tw16237242559508351790:True:=⟨⟩
theorem tw1636440191569563416:True:=⟨⟩
theorem tw16528805436885002745:True:=⟨⟩
theorem tw16575355053708408723:True:=⟨⟩
theorem tw16594150940633332524:True:=⟨⟩
theorem tw16686363302125803664:True:=⟨⟩
theorem tw16745597788653828807:True:=⟨⟩
theorem tw16775548514389704725:True:=⟨⟩
theorem tw16902292977719079190:True:=⟨⟩
theorem tw17021133341337720374:True:=⟨⟩
theorem tw1702424586534935730:True:=⟨⟩
theorem tw17048424062296311732:True:=⟨⟩
theorem tw1707460823528063556:True:=⟨⟩
theorem tw17099094151534103869:True:=⟨⟩
theorem tw17161112350860085571:True:=⟨⟩
theorem tw17208122726474657573:True:=⟨⟩
theorem tw1731575516485152135:True:=⟨⟩
theorem tw17608782878508711145:True:=⟨⟩
theorem tw17616522315099917055:True:=⟨⟩
theorem tw17683346106875410418:True:=⟨⟩
theorem tw17823602246632852821:True:=⟨⟩
theorem tw17885169853121765665:True:=⟨⟩
theorem tw18014597310269501013:True:=⟨⟩
theorem tw18382201284653958330:True:=⟨⟩
theorem tw18411104388556348775:True:=⟨⟩
theorem tw2123135630534401779:True:=⟨⟩
theorem tw2173866913306254092:True:=⟨⟩
theorem tw2321347074709707856:True:=⟨⟩
theorem tw2479670890728141476:True:=⟨⟩
theorem tw2890253464525220884:True:=⟨⟩
theorem tw2898902890861360411:True:=⟨⟩
theorem tw3062281082482088608:True:=⟨⟩
theorem tw3110366244487536981:True:=⟨⟩
theorem tw3350593402976803624:True:=⟨⟩
theorem tw3748209885728348485:True:=⟨⟩
theorem tw3823109795772878537:True:=⟨⟩
theorem tw4096039916198104884:True:=⟨⟩
theorem tw4248547948647003816:True:=⟨⟩
theorem tw4258800147645272220:True:=⟨⟩
theorem tw4315829128321619429:True:=⟨⟩
theorem tw4355505135870996043:True:=⟨⟩
theorem tw446614090659614626:True:=⟨⟩
theorem tw4590418284267609166:True:=⟨⟩
theorem tw4896177554985959781:True:=⟨⟩
theorem tw4914751105428053595:True:=⟨⟩
theorem tw493470288042176649:True:=⟨⟩
theorem tw4992949838919892072:True:=⟨⟩
theorem tw5000662888987795353:True:=⟨⟩
theorem tw5202522299645084340:True:=⟨⟩
theorem tw5568621845620910931:True:=⟨⟩
theorem tw645235570830127441:True:=⟨⟩
theorem tw6489328683010563189:True:=⟨⟩
theorem tw6790598075588038385:True:=⟨⟩
theorem tw6933077004618300038:True:=⟨⟩
theorem tw7022433640732496567:True:=⟨⟩
theorem tw7146513553099833434:True:=⟨⟩
theorem tw7203621846923042932:True:=⟨⟩
theorem tw7257012169872236436:True:=⟨⟩
theorem tw7392714840168255515:True:=⟨⟩
theorem tw7533770633580054272:True:=⟨⟩
theorem tw7658871348529126743:True:=⟨⟩
theorem tw7887668739200794926:True:=⟨⟩
theorem tw8019874661354738919:True:=⟨⟩
theorem tw8110105214115949401:True:=⟨⟩
theorem tw8162800138666627230:True:=⟨⟩
theorem tw8169444219023943097:True:=⟨⟩
theorem tw8255461943654992624:True:=⟨⟩
theorem tw8515393498635781047:True:=⟨⟩
theorem tw8518679964411900485:True:=⟨⟩
theorem tw8567357822968039609:True:=⟨⟩
theorem tw861844701885747482:True:=⟨⟩
theorem tw8628051892212074652:True:=⟨⟩
theorem tw8945199611134910943:True:=⟨⟩
theorem tw921852120207257951:True:=⟨⟩
theorem tw9311058298670627404:True:=⟨⟩
theorem tw9412151969212828515:True:=⟨⟩
theorem tw969920073472034182:True:=⟨⟩
theorem tw9979710938221457840:True:=⟨⟩
end PySem.W.Fast
open PySem PySem.W PyProof.Rows
set_option maxRecDepth 100000 in
set_option maxHeartbeats 0 in
theorem PySem.Challenge.cw_closepoints_k28_bounds_for_parts_holds : PySem.Challenge.rw_closepoints_k28_bounds_for_parts.Holds := by
 w_on;o_law;z_head;(case hw=>w_witness2)
 k_fill
 refine Vc.Qa (λ_=>by kernel_rfl) (WR.walk (l:=PySem.Challenge.rw_closepoints_k28_bounds_for_parts) rfl rfl (λw h Y=>Y) ?F)
 case F =>
  intro w mg fa h KX G hmg;refine' WR.all_mk KX G hmg ?a_q11 ?l_q11 ?c_q11 ?k_q11 ?a_q0 ?l_q0 ?c_q0 ?k_q0 ?a_q8 ?l_q8 ?c_q8 ?k_q8 ?a_q19 ?l_q19 ?c_q19 ?k_q19 ?a_q1 ?l_q1 ?c_q1 ?k_q1 ?a_q7 ?l_q7 ?c_q7 ?k_q7 ?a_q5 ?l_q5 ?c_q5 ?k_q5 ?a_q3 ?l_q3 ?c_q3 ?k_q3 ?a_q12 ?l_q12 ?c_q12 ?k_q12 ?a_q22 ?l_q22 ?c_q22 ?k_q22 ?a_q10 ?l_q10 ?c_q10 ?k_q10 ?a_q4 ?l_q4 ?c_q4 ?k_q4 ?a_q2 ?l_q2 ?c_q2 ?k_q2 ?a_q16 ?l_q16 ?c_q16 ?k_q16 ?a_q17 ?l_q17 ?c_q17 ?k_q17 ?a_q9 ?l_q9 ?c_q9 ?k_q9 ?a_q20 ?l_q20 ?c_q20 ?k_q20 ?a_q21 ?l_q21 ?c_q21 ?k_q21 ?a_q14 ?l_q14 ?c_q14 ?k_q14 ?a_q6 ?l_q6 ?c_q6 ?k_q6 ?a_q18 ?l_q18 ?c_q18 ?k_q18 ?a_q15 ?l_q15 ?c_q15 ?k_q15 ?a_q13 ?l_q13 ?c_q13 ?k_q13 ?a_q23 ?l_q23 ?c_q23 ?k_q23 ?z_abs ?z_bool ?z_enumerate ?z_int ?z_isinstance ?z_len ?z_list ?z_max ?z_min ?z_range ?z_set ?z_sorted ?z_sum ?z_tuple ?z_zip ?u_SQUARES ?u_STREETS
  (case a_q11=>k_is)
  (case l_q11=>k_is)
  (case c_q11=>k_is)
  (case k_q11=>k_is)
  (case a_q0=>k_is)
  (case l_q0=>k_is)
  (case c_q0=>k_is)
  (case k_q0=>k_is)
  (case a_q8=>k_is)
  (case l_q8=>k_is)
  (case c_q8=>k_is)
  (case k_q8=>k_is)
  (case a_q19=>k_is)
  (case l_q19=>k_is)
  (case c_q19=>k_is)
  (case k_q19=>k_is)
  (case a_q1=>k_is)
  (case l_q1=>k_is)
  (case c_q1=>k_is)
  (case k_q1=>k_is)
  (case a_q7=>k_is)
  (case l_q7=>k_is)
  (case c_q7=>k_is)
  (case k_q7=>k_is)
  (case a_q5=>k_is)
  (case l_q5=>k_is)
  (case c_q5=>k_is)
  (case k_q5=>k_is)
  (case a_q3=>k_is)
  (case l_q3=>k_is)
  (case c_q3=>k_is)
  (case k_q3=>k_is)
  (case a_q12=>k_is)
  (case l_q12=>k_is)
  (case c_q12=>k_is)
  (case k_q12=>k_is)
  (case a_q22=>k_is)
  (case l_q22=>k_is)
  (case c_q22=>k_is)
  (case k_q22=>k_is)
  (case a_q10=>k_is)
  (case l_q10=>k_is)
  (case c_q10=>k_is)
  (case k_q10=>k_is)
  (case a_q4=>k_is)
  (case l_q4=>k_is)
  (case c_q4=>k_is)
  (case k_q4=>k_is)
  (case a_q2=>k_is)
  (case l_q2=>k_is)
  (case c_q2=>k_is)
  (case k_q2=>k_is)
  (case a_q16=>k_is)
  (case l_q16=>k_is)
  (case c_q16=>k_is)
  (case k_q16=>k_is)
  (case a_q17=>k_is)
  (case l_q17=>k_is)
  (case c_q17=>k_is)
  (case k_q17=>k_is)
  (case a_q9=>k_is)
  (case l_q9=>k_is)
  (case c_q9=>k_is)
  (case k_q9=>k_is)
  (case a_q20=>k_is)
  (case l_q20=>k_is)
  (case c_q20=>k_is)
  (case k_q20=>k_is)
  (case a_q21=>k_is)
  (case l_q21=>k_is)
  (case c_q21=>k_is)
  (case k_q21=>k_is)
  (case a_q14=>k_is)
  (case l_q14=>k_is)
  (case c_q14=>k_is)
  (case k_q14=>k_is)
  (case a_q6=>k_is)
  (case l_q6=>k_is)
  (case c_q6=>k_is)
  (case k_q6=>k_is)
  (case a_q18=>k_is)
  (case l_q18=>k_is)
  (case c_q18=>k_is)
  (case k_q18=>k_is)
  (case a_q15=>k_is)
  (case l_q15=>k_is)
  (case c_q15=>k_is)
  (case k_q15=>k_is)
  (case a_q13=>k_is)
  (case l_q13=>k_is)
  (case c_q13=>k_is)
  (case k_q13=>k_is)
  (case a_q23=>k_is)
  (case l_q23=>k_is)
  (case c_q23=>k_is)
  (case k_q23=>k_is)
  (case z_abs=>k_is)
  (case z_bool=>k_is)
  (case z_enumerate=>k_is)
  (case z_int=>k_is)
  (case z_isinstance=>k_is)
  (case z_len=>k_is)
  (case z_list=>k_is)
  (case z_max=>k_is)
  (case z_min=>k_is)
  (case z_range=>k_is)
  (case z_set=>k_is)
  (case z_sorted=>k_is)
  (case z_sum=>k_is)
  (case z_tuple=>k_is)
  (case z_zip=>k_is)
  (case u_SQUARES=>k_is)
  (case u_STREETS=>k_is)
