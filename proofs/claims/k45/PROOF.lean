import PyProof.Rows.All
import Wide.All
import OpenK.AllK
import Wide.FinOn
import Lean
import PyProof.EqAt
import PyProof.EqKinds
import PyProof.TupleCall
import PySem.Challenge.RW_closepoints_k45_whole_kept_points
noncomputable section
set_option Elab.async false
set_option linter.all false
set_option hygiene false
local macro_rules | `(tactic| omega) => `(tactic| first | lia | omega +splitNatSub)
local macro_rules | `(⋯) => `((by omega))
local macro_rules | `(∅) => `((by decide))
set_option maxRecDepth 100000
local macro_rules|`(tactic| walk_at "9")=>`(tactic| first|k_is|kernel_rfl|decide)
local macro_rules | `(tactic| ac_rfl) => `(tactic| walk_at "9")
set_option compiler.extract_closed false
-- CHANGE: your row's module here,as the last of these rows
namespace L2
open PySem PySem.Spec PyProof.Rows
abbrev Key:=Sum Int Str
def oq:Key->Value->Bool
 | .inl k,v=>Value.isInt k v
 | .inr x,v=>Value.isStrOf x v
def aaQ(w:World):Key->Int
 | .inl k=>hashInt k
 | .inr x=>hashStr w x
theorem bT:∀ {k:Key} {v:Value},oq k v=true->(∃i t,k=Sum.inl i/\v=Value.int i t)\/(∃x t,k=Sum.inr x/\v=Value.str x t)
 | .inl i,v,h=>by
  obtain⟨t,e⟩:=Value.isInt_shape (k:=i) (v:=v) h;exact .inl ⟨i,t,rfl,e⟩
 | .inr x,v,h=>by
  obtain⟨t,e⟩:=Value.isStrOf_shape (x:=x) (v:=v) h;exact .inr ⟨x,t,rfl,e⟩
theorem Ax(i:Int)(t:Tok):oq (.inl i) (.int i t)=true:=by simp [oq,Value.isInt]
theorem Ay(x:Str)(t:Tok):oq (.inr x) (.str x t)=true:=by simp [oq,Value.isStrOf]
theorem Pl(a b:Int):decide ((Sum.inl a:Key)=Sum.inl b)=(a==b):=by
 by_cases e:a=b
 ·subst e;simp
 ·have h:¬(Sum.inl a:Key)=Sum.inl b:=λq=>e (Sum.inl.inj q)
  rw[decide_eq_false h];exact(beq_eq_false_iff_ne.mpr e).symm
theorem Pp(a b:Str):decide ((Sum.inr a:Key)=Sum.inr b)=decide (a=b):=by
 by_cases e:a=b
 ·subst e;simp
 ·have h:¬(Sum.inr a:Key)=Sum.inr b:=λq=>e (Sum.inr.inj q)
  rw[decide_eq_false h,decide_eq_false e]
theorem Pm(a:Int)(b:Str):decide ((Sum.inl a:Key)=Sum.inr b)=false:=decide_eq_false (λq=>nomatch q)
theorem Pn(a:Str)(b:Int):decide ((Sum.inr a:Key)=Sum.inl b)=false:=decide_eq_false (λq=>nomatch q)
def cj(prog:Program)(w:World):PySem.KeyKind prog w Key where
 is:=oq
 hash:=aaQ w
 inj:=λv a b ha hb=>by
  rcases bT ha with⟨i,t,rfl,rfl⟩|⟨x,t,rfl,rfl⟩
  ·rcases bT hb with⟨j,u,rfl,e⟩|⟨y,u,rfl,e⟩
   ·injection e with e1 _;rw[e1]
   ·exact nomatch e
  ·rcases bT hb with⟨j,u,rfl,e⟩|⟨y,u,rfl,e⟩
   ·exact nomatch e
   ·injection e with e1 _;rw[e1]
 byValue:=λk v h=>by
  rcases bT h with⟨i,t,rfl,rfl⟩|⟨x,t,rfl,rfl⟩<;>rfl
 pyHash:=λhv h=>by
  rcases bT hv with⟨i,t,rfl,rfl⟩|⟨x,t,rfl,rfl⟩
  ·exact wpAny_pyHash_int h
  ·exact wpAny_pyHash_str h
 eqBool:=λhu hv h=>by
  rcases bT hu with⟨i,t,rfl,rfl⟩|⟨x,t,rfl,rfl⟩
  ·rcases bT hv with⟨j,u,rfl,rfl⟩|⟨y,u,rfl,rfl⟩
   ·rw[Pl]at h;exact wpAny_eqBool_int h
   ·rw[Pm]at h;exact SeqAt.EqAt.int_str i t y u _ _ _ _ h
  ·rcases bT hv with⟨j,u,rfl,rfl⟩|⟨y,u,rfl,rfl⟩
   ·rw[Pn]at h;exact SeqAt.EqAt.str_int x t j u _ _ _ _ h
   ·rw[Pp]at h;exact wpAny_eqBool_str h
 «strs»:=λk x t v h=>by
  rcases bT h with⟨i,u,rfl,e⟩|⟨y,u,rfl,e⟩
  ·exact nomatch e
  ·injection e with e1 _
   subst e1;cases v<;>rfl
theorem vJ(prog:Program)(w:World)(i:Int)(t:Tok):(cj prog w).is (.inl i) (.int i t)=true:=Ax i t
theorem vK(prog:Program)(w:World)(x:Str)(t:Tok):(cj prog w).is (.inr x) (.str x t)=true:=Ay x t
end L2
namespace L2
open PySem PySem.Spec PyProof.Rows
inductive V where
 | aV|bl (b:Bool)|int (i:Int)|str (x:Str)|Uq (b:Array UInt8)|N6 (b:UInt64)|ref (a:Addr)|ty (n:String)
 deriving DecidableEq
def RelV:V->Value->Prop
 | .aV,u=>u=Value.none
 | .bl b,u=>u=Value.bool b
 | .int i,u=>∃t,u=Value.int i t
 | .str x,u=>∃t,u=Value.str x t
 | .Uq b,u=>∃t,u=Value.bytes b t
 | .N6 b,u=>∃t,u=Value.float b t
 | .ref a,u=>u=Value.ref a
 | .ty n,u=>u=Value.type n
abbrev Vals:List V->List Value->Prop:=Paired RelV
theorem Vals.length{xs:List V}{us:List Value}(r:Vals xs us):xs.length=us.length:=Paired.length r
theorem Vals.get:∀ {xs:List V} {us:List Value} {i:Nat} {x:V},Vals xs us->xs[i]?=some x->∃u,us[i]?=some u/\RelV x u
 | _,_,_,_,.nil,e=>by simp at e
 | _,_,0,_,.cons r _,e=>by simp at e;subst e;exact⟨_,rfl,r⟩
 | _,_,i+1,x,.cons _ t,e=>by
  obtain⟨u,h1,h2⟩:=Vals.get (i:=i) (x:=x) t (by simpa using e)
  exact⟨u,by simpa using h1,h2⟩
theorem Vals.append:∀ {xs ys:List V} {us ws:List Value},Vals xs us->Vals ys ws->Vals (xs++ys) (us++ws)
 | _,_,_,_,.nil,s=>s
 | _,_,_,_,.cons r t,s=>.cons r (Vals.append t s)
theorem Vals.take:∀ {xs:List V} {us:List Value} (n:Nat),Vals xs us->Vals (xs.take n) (us.take n)
 | _,_,0,_=>.nil
 | _,_,_+1,.nil=>.nil
 | _,_,n+1,.cons r t=>.cons r (Vals.take n t)
theorem Vals.drop:∀ {xs:List V} {us:List Value} (n:Nat),Vals xs us->Vals (xs.drop n) (us.drop n)
 | _,_,0,r=>r
 | _,_,_+1,.nil=>.nil
 | _,_,n+1,.cons _ t=>Vals.drop n t
def gN:Option V->Option Value->Prop
 | some v,some u=>RelV v u
 | none,none=>True
 | _,_=>False
def KV{κ:Type}:List (κ×V)->List (κ×Value)->Prop:=Paired λ(p:κ×V) (q:κ×Value)=>p.1=q.1/\RelV p.2 q.2
def kV:Key->V
 | .inl i=>.int i
 | .inr x=>.str x
inductive HO where
 /-- a list -/
 | lst (xs:List V)
 /-- a tuple (never changes) -/
 | tup (xs:List V)
 /-- a dict whose keys are ints and texts;one whose keys are tuples of ints and texts (the empty one is both) -/
 | dK (kvs:List (Key×V))|dT (kvs:List (List Key×V))
 /-- a set of ints: its members,its size -/
 | set (S:Int->Bool) (n:Nat)
 /-- an instance of the class at C,its dict at dx,its attributes -/
 | ins (C dx:Addr) (fs:List (Str×V))
 /-- the dict of the instance at x -/
 | own (x:Addr)
 /-- the dict of an exception -/
 | xd (fs:List (Str×V))
 /-- a bound method,f of x -/
 | met (f x:Addr)
 /-- a range object lo,lo+1,.. below hi -/
 | Z5 (lo hi:Int)
 /-- a thing that is known to the object (the script;a dict while a loop walks it): read,never written while it is so -/
 | rZ (o:Obj) (u:HO)
 /-- a code object's table -/
 | Lq (ps:Array Value)
 /-- the same,and it may grow by the code of one lambda: as it was,the lambda's place,its name -/
 | lam (ps:Array Value) (pos:Pos) (qual:Str)
 /-- any other thing,by what is true of its one object (a def of one's own: SetO a S n:=HO.ext λh=>..) -/
 | ext (φ:Heap->Prop)
abbrev Hp:=Addr->Option HO
def upd(H:Hp)(a:Addr)(o:HO):Hp:=λb=>if b=a then some o else H b
theorem az{H:Hp}{a:Addr}{o:HO}:upd H a o a=some o:=by unfold upd;rw[if_pos rfl]
theorem aq{H:Hp}{a b:Addr}{o:HO}(h:b≠a):upd H a o b=H b:=by unfold upd;rw[if_neg h]
theorem fF{H:Hp}{a b:Addr}{o u:HO}(h:H a=some o)(h':H b=some u)(d:o≠u):a≠b:=by
 intro e;subst e;rw[h]at h';exact d (Option.some.inj h')
theorem bj{H:Hp}{a b:Addr}{o:HO}(h:H a=some o)(h':H b=none):a≠b:=by
 intro e;subst e;rw[h]at h';cases h'
section
variable (P:Program)(w:World)
def bW(H:Hp)(h:Heap)(a:Addr):HO->Prop
 | .lst xs=>xs.length<=sizeLine/\∃(its:List Value) (n:Nat),Vals xs its/\h.get? a=some {cls:=.type "list",data:=.seq its.toArray n}
 | .tup xs=>xs.length<=sizeLine/\∃its:List Value,Vals xs its/\IsTup h a its.toArray
 | .dK kvs=>kvs.length<=sizeLine/\(a==sysModules)=false/\∃vs,KV kvs vs/\h.DictOf (cj P w) a vs
 | .dT kvs=>kvs.length<=sizeLine/\(a==sysModules)=false/\∃xs:List (List Key×Addr×Value),
   Paired (λ(p:List Key×V) (q:List Key×Addr×Value)=>p.1=q.1/\H q.2.1=some (.tup (p.1.map kV))/\RelV p.2 q.2.2) kvs xs /\
   ∃o es ep,h.get? a=some o/\o.ExactDict/\o.data=.dict es ep/\es.toList=xs.map (entryOfKey (tupleKind (cj P w)))/\(xs.map (·.1)).Nodup
 | .set S n=>h.SetOf (intKind P w) a S n
 | .ins C dx fs=>H dx=some (.own a)/\fs.length<=1000/\dx≠a/\h.get? a=some (PySem.W.instObj C dx) /\
   ∃mA,h.Ns1 dx mA/\(∀f,gN (fs.lookup f) (mA f))/\PySem.Within mA (fs.map (·.1))
 | .own _=>∃o,h.get? a=some o
 | .xd fs=>∃mA,h.Ns1 a mA/\∀f,gN (fs.lookup f) (mA f)
 | .Z5 lo hi=>∃t u v,h.get? a=some {cls:=.type "range",data:=.fields #[.int lo t,.int hi u,.int 1 v]}
 | .rZ o u=>h.get? a=some o/\bW H h a u
 | .Lq ps=>h.get? a=some {cls:=.none,data:=.fields ps}
 | .lam ps pos qual=>∃more,h.get? a=some {cls:=.none,data:=.fields (ps++more)}/\TriplesOk (ps++more).toList/\(codeAmong pos (ps++more).toList=none\/∃c' o vs t,codeAmong pos (ps++more).toList=some (.ref c')/\H c'=some (.rZ o (.own a))/\o.data=.fields vs/\vs[1]?=some (.str qual t))
 | .met f x=>h.get? a=some (PySem.W.methodObj (.ref f) (.ref x))
 | .ext φ=>φ h/\(∃o,h.get? a=some o)/\∀h1 h2:Heap,φ h1->(∀o,h1.get? a=some o->h2.get? a=some o)->φ h2
def fw(H:Hp)(h:Heap):Prop:=∀a o,H a=some o->bW P w H h a o
end
section
variable {P:Program}{w:World}{H H':Hp}{h h':Heap}{a:Addr}{o:HO}
theorem bW.lt(x:bW P w H h a o):a<h.objs.size:=by
 cases o with
 | lst xs=>obtain⟨_,_,_,_,e⟩:=x;exact Heap.lt_size e
 | tup xs=>obtain⟨_,_,_,p⟩:=x;exact p.lt
 | dK kvs=>obtain⟨_,_,_,_,o,_,_,e,_⟩:=x;exact Heap.lt_size e
 | dT kvs=>obtain⟨_,_,_,_,o,_,_,e,_⟩:=x;exact Heap.lt_size e
 | set S n=>obtain⟨o,_,_,_,e,_⟩:=x;exact Heap.lt_size e
 | ins C dx fs=>obtain⟨_,_,_,e,_⟩:=x;exact Heap.lt_size e
 | own y=>obtain⟨_,e⟩:=x;exact Heap.lt_size e
 | xd fs=>obtain⟨_,⟨_,_,_,e,_⟩,_⟩:=x;exact Heap.lt_size e
 | Z5 lo hi=>obtain⟨_,_,_,e⟩:=x;exact Heap.lt_size e
 | rZ ob u=>obtain⟨e,_⟩:=x;exact Heap.lt_size e
 | Lq ps=>exact Heap.lt_size (show h.get? a=some _ from x)
 | lam ps pos qual=>obtain⟨_,e,_⟩:=x;exact Heap.lt_size e
 | met f y=>exact Heap.lt_size (show h.get? a=some _ from x)
 | ext φ=>obtain⟨_,⟨_,e⟩,_⟩:=x;exact Heap.lt_size e
theorem Paired.Pw{α β:Type}{F G:α->β->Prop}:∀ {Xy:List α} {Xz:List β},Paired F Xy Xz->(∀a b,F a b->G a b)->Paired G Xy Xz
 | _,_,.nil,_=>.nil
 | _,_,.cons r t,f=>.cons (f _ _ r) (Paired.Pw t f)
theorem bW.pD(x:bW P w H h a o)(k:∀b u,(b=a\/H b=some (.own a))->h.get? b=some u->h'.get? b=some u)
  (ho:∀b,H b=some (.own a)->H' b=some (.own a)) (ht:∀b xs,H b=some (.tup xs)->H' b=some (.tup xs)) (hf:∀b o u,H b=some (.rZ o u)->H' b=some (.rZ o u):=by exactλ_ _ _ q=>q):bW P w H' h' a o:=by
 induction o with
 | lst xs=>obtain⟨z,its,n,r,e⟩:=x;exact⟨z,its,n,r,k _ _ (.inl rfl) e⟩
 | tup xs=>obtain⟨z,its,r,ob,e,c⟩:=x;exact⟨z,its,r,ob,k _ _ (.inl rfl) e,c⟩
 | dK kvs=>obtain⟨z,y,vs,r,ob,es,ep,e,c⟩:=x;exact⟨z,y,vs,r,ob,es,ep,k _ _ (.inl rfl) e,c⟩
 | dT kvs =>
  obtain⟨z,y,xs,r,ob,es,ep,e,c⟩:=x;exact⟨z,y,xs,Paired.Pw r λp q z=>⟨z.1,ht _ _ z.2.1,z.2.2⟩,ob,es,ep,k _ _ (.inl rfl) e,c⟩
 | set S n=>obtain⟨ob,es,ep,t,e,c⟩:=x;exact⟨ob,es,ep,t,k _ _ (.inl rfl) e,c⟩
 | ins C dx fs =>
  obtain⟨d,z,ne,e,mA,⟨od,es,ep,e2,c⟩,r⟩:=x;exact⟨ho _ d,z,ne,k _ _ (.inl rfl) e,mA,⟨od,es,ep,k _ _ (.inr d) e2,c⟩,r⟩
 | own y=>obtain⟨ob,e⟩:=x;exact⟨ob,k _ _ (.inl rfl) e⟩
 | xd fs=>obtain⟨mA,⟨od,es,ep,e,c⟩,r⟩:=x;exact⟨mA,⟨od,es,ep,k _ _ (.inl rfl) e,c⟩,r⟩
 | Z5 lo hi=>obtain⟨t,u,v,e⟩:=x;exact⟨t,u,v,k _ _ (.inl rfl) e⟩
 | rZ ob u ih=>obtain⟨e,q⟩:=x;exact⟨k _ _ (.inl rfl) e,ih q⟩
 | lam ps pos qual =>
  obtain⟨more,e,tr,c⟩:=x;refine⟨more,k _ _ (.inl rfl) e,tr,?_⟩;rcases c with c|⟨c',o,vs,t,c1,c2,c3⟩
  ·exact .inl c
  ·exact .inr ⟨c',o,vs,t,c1,hf _ _ _ c2,c3⟩
 | Lq ps =>
  have e:h.get? a=some {cls:=.none,data:=.fields ps}:=x;show h'.get? a=some {cls:=.none,data:=.fields ps};exact k a _ (.inl rfl) e
 | met f y =>
  have e:h.get? a=some (PySem.W.methodObj (.ref f) (.ref y)):=x;show h'.get? a=some (PySem.W.methodObj (.ref f) (.ref y));exact k a _ (.inl rfl) e
 | ext φ=>obtain⟨p,⟨o,e⟩,st⟩:=x;exact⟨st _ _ p λo q=>k _ _ (.inl rfl) q,⟨o,k _ _ (.inl rfl) e⟩,st⟩
theorem fw.lt(x:fw P w H h)(e:H a=some o):a<h.objs.size:=(x a o e).lt
theorem fw.fresh(x:fw P w H h)(e:h.objs.size<=a):H a=none:=by
 cases q:H a with
 | none=>rfl
 | some u=>exact absurd (Nat.lt_of_lt_of_le (x.lt q) e) (Nat.lt_irrefl _)
theorem fw.kept(x:fw P w H h)(k:∀b u,h.get? b=some u->h'.get? b=some u):fw P w H h':=λa o e =>
 (x a o e).pD (λb u _ q=>k b u q) (λ_ q=>q) λ_ _ q=>q
theorem fw.laid(x:fw P w H h)(k:∀b u,h.get? b=some u->h'.get? b=some u)(hp:h.objs.size<=a)(new:bW P w (upd H a o) h' a o):fw P w (upd H a o) h':=λb u e=>by
 have hn:=x.fresh hp
 by_cases hb:b=a
 ·subst hb;rw[az]at e;cases e;exact new
 ·rw[aq hb]at e
  exact(x b u e).pD (λc v _ q=>k c v q) (λc q=>by rw[aq (bj q hn)];exact q) (λc xs q=>by rw[aq (bj q hn)];exact q) λc o u q=>by rw[aq (bj q hn)];exact q
end
def Rd(H:Hp)(a:Addr)(u:HO):Prop:=H a=some u\/∃o,H a=some (.rZ o u)
theorem Rd.ok{P:Program}{w:World}{H:Hp}{h:Heap}{a:Addr}{u:HO}(r:Rd H a u)(x:fw P w H h):bW P w H h a u:=by
 rcases r with r|⟨o,r⟩
 ·exact x a u r
 ·obtain⟨_,q⟩:=x a _ r
  exact q
def U9:Option HO->Prop
 | some (.lst _)=>True
 | some (.dK _)=>True
 | some (.dT _)=>True
 | some (.set _ _)=>True
 | some (.ins _ _ _)=>True
 | some (.ext _)=>True
 | some (.lam _ _ _)=>True
 | _=>False
section
variable {P:Program}{w:World}{H:Hp}{h h':Heap}{x e:Addr}{o':HO}
theorem fw.write(ok:fw P w H h)(mu:U9 (H x))(he:e=x\/H e=some (.own x))(k:∀b u,b≠e->h.get? b=some u->h'.get? b=some u)(Uw:∃u,h'.get? e=some u)
  (new:bW P w (upd H x o') h' x o'):fw P w (upd H x o') h':=λb u q=>by
 have XJ:∀c y,H c=some (.own y)->c≠x:=λc y r z=>by subst z;rw[r]at mu;exact mu
 have aaZ:∀c xs,H c=some (.tup xs)->c≠x:=λc xs r z=>by subst z;rw[r]at mu;exact mu
 by_cases hb:b=x
 ·subst hb;rw[az]at q;cases q;exact new
 ·rw[aq hb]at q
  by_cases Og:b=e
  ·have q':H b=some (.own x):=by
    rcases he with z|z
    ·exact absurd (Og.trans z) hb
    ·rw[Og];exact z
   rw[q]at q';cases q';obtain⟨v,hv⟩:=Uw;exact⟨v,by rw[Og];exact hv⟩
  ·refine(ok b u q).pD (λc v hc r=>k c v ?_ r) (λc r=>by rw[aq (XJ c b r)];exact r) (λc xs r=>by rw[aq (aaZ c xs r)];exact r) λc o u r=>by rw[aq (λz=>by subst z;rw[r]at mu;exact mu)];exact r
   rcases hc with rfl|hc
   ·exact Og
   ·rintro rfl
    rcases he with z|z
    ·exact XJ c b hc z
    ·rw[hc]at z;cases z;exact hb rfl
end
structure Un(fs ex:List Addr)(H H':Hp)(h h':Heap):Prop where
 keep:∀b o,h.get? b=some o->H b=none->b∉fs->b∉ex->h'.get? b=some o
 slot:∀b o,h.get? b=some o->H b=none->b∈fs->b∉ex->∃sl,h'.get? b=some {o with slots:=sl}
 free:∀b o,h.get? b=some o->H b=none->b∉ex->H' b=none
 there:∀b o,h.get? b=some o->b∉ex->∃o',h'.get? b=some o'
 pG:∀b xs,H b=some (.tup xs)->H' b=some (.tup xs)
 mY:∀b o u,H b=some (.rZ o u)->H' b=some (.rZ o u)
 pE:∀b ps,H b=some (.Lq ps)->∃more,H' b=some (.Lq (ps++more))
section
variable {fs fs' ex gy:List Addr}{H H1 H2:Hp}{h h1 h2 h':Heap}{a x e:Addr}{o:HO}
theorem Un.any(u:Un fs ex H H1 h h1){b:Addr}{ob:Obj}(q:h.get? b=some ob)(n:H b=none)(hx:b∉ex):∃sl,h1.get? b=some {ob with slots:=sl}:=by
 by_cases hb:b∈fs
 ·exact u.slot b ob q n hb hx
 ·exact⟨ob.slots,u.keep b ob q n hb hx⟩
theorem Un.kept(k:∀b u,h.get? b=some u->h'.get? b=some u):Un fs ex H H h h':=
 ⟨λb ob q _ _ _=>k b ob q,λb ob q _ _ _=>⟨ob.slots,k b ob q⟩,λ_ _ _ n _=>n,λb ob q _=>⟨ob,k b ob q⟩,λ_ _ q=>q,λ_ _ _ q=>q,λ_ ps q=>⟨#[],by rw[q];simp⟩⟩
theorem Un.refl:Un fs ex H H h h:=Un.kept λ_ _ q=>q
theorem Un.laid(k:∀b u,h.get? b=some u->h'.get? b=some u)(hp:h.objs.size<=a)(hn:H a=none):Un fs ex H (upd H a o) h h' where
 keep:=λb u q _ _ _=>k b u q
 slot:=λb u q _ _ _=>⟨u.slots,k b u q⟩
 free:=λb u q n _=>by rw[aq (Nat.ne_of_lt (Nat.lt_of_lt_of_le (Heap.lt_size q) hp))];exact n
 there:=λb u q _=>⟨u,k b u q⟩
 pG:=λb xs q=>by rw[aq (bj q hn)];exact q
 mY:=λb u xs q=>by rw[aq (bj q hn)];exact q
 pE:=λb ps q=>⟨#[],by rw[aq (bj q hn),q];simp⟩
theorem Un.write(mu:U9 (H x))(he:e=x\/H e=some (.own x))(k:∀b u,b≠e->h.get? b=some u->h'.get? b=some u)(Uw:∃u,h'.get? e=some u):Un fs ex H (upd H x o) h h':=by
 have hx:∀b,H b=none->b≠x:=λb n z=>by subst z;rw[n]at mu;exact mu
 have hb:∀b,H b=none->b≠e:=λb n z=>by
  subst z;rcases he with r|r
  ·exact hx b n r
  ·rw[n]at r;cases r
 have hm:∀b u,H b=some u->¬U9 (some u)->b≠x:=λb u q nm z=>by subst z;rw[q]at mu;exact nm mu
 refine⟨λb u q n _ _=>k b u (hb b n) q,λb u q n _ _=>⟨u.slots,k b u (hb b n) q⟩,λb u q n _=>by rw[aq (hx b n)];exact n,λb u q _=>?_,
  λb xs q=>by rw[aq (hm b _ q λz=>z)];exact q,λb u xs q=>by rw[aq (hm b _ q λz=>z)];exact q,λb ps q=>⟨#[],by rw[aq (hm b _ q λz=>z),q];simp⟩⟩
 by_cases Og:b=e
 ·subst Og;exact Uw
 ·exact⟨u,k b u Og q⟩
end
def trk(h:Heap)(H:Hp):List Addr:=(List.range h.objs.size).filter λa=>(H a).isSome
def sg(h:Heap)(H:Hp):Heap:=PySem.W.hideAll h (trk h H)
theorem Ao(h:Heap)(H:Hp):(sg h H).objs.size=h.objs.size:=PySem.W.hideAll_size _ _
theorem D0{h:Heap}{H:Hp}{b:Addr}{o:Obj}(e:h.get? b=some o)(n:H b=none):(sg h H).get? b=some o:=
 PySem.W.hideAll_get _ e λhm=>by
  have q:(H b).isSome=true:=(List.mem_filter.mp hm).2;rw[n]at q;simp at q
theorem Iv{h:Heap}{H:Hp}{b:Addr}{o:Obj}(e:(sg h H).get? b=some o):h.get? b=some o/\H b=none:=by
 have e':h.get? b=some o:=PySem.W.of_hideAll (trk h H) e;refine⟨e',?_⟩;cases q:H b with
 | none=>rfl
 | some x =>
  have hm:b∈trk h H:=List.mem_filter.mpr ⟨List.mem_range.mpr (Heap.lt_size e'),by simp [q]⟩
  have z:(sg h H).get? b=none:=PySem.W.hideAll_none (trk h H) hm;rw[z]at e;cases e
def G6(g h:Heap)(L:Addr):List (Addr×Obj):=(List.range h.objs.size).filterMap λa=>if a=L\/(g.get? a).isSome=true then none else(h.get? a).map λo=>(a,o)
def rest(g h:Heap)(L d:Addr):List (Addr×Obj):=(G6 g h L).filter λp=>decide (p.1≠d)
end L2
namespace L2
open PySem PySem.Spec PyProof.Rows
structure Mod(K:PySem.W.Frag)(mg:Str->Option Value)(base:Heap):Prop where
 yW:K.In base
 glob:base.Ns mainGlobals mg
 blt:∃mb,base.Ns builtinsNs mb/\∀x:Str,x≠"__name__"->mb x=bootBuiltins x
 nolimit:base.NoLimit
structure Cx where
 prog:Program
 w:World
 K:PySem.W.Frag
 mg:Str->Option Value
 base:Heap
 A:Around
 N:List Str
 bR:Shared
 kZ:Hp
 env:Env
 outer:List Env
 stack:List Env
 ex:List Addr
 fn:Str->Bool
 calm:Bool
 pn:List (Addr×Obj)
 xe:Value->Shared->Prop
def jH(l:List Env):List Addr:=l.filterMap (·.frame)
abbrev Cx.fs(X:Cx):List Addr:=jH X.outer
def GI(sc:Scope)(x:Str):Prop:=sc.names.lookup x=some .local\/sc.names.lookup x=some .cell\/sc.names.lookup x=some .free
def Loc(sc:Scope)(x:Str):Prop:=sc.names.lookup x=some .local\/sc.names.lookup x=some .cell
def Look(env:Env)(h:Heap)(m:Str->Option Value)(x:Str)(u:Value):Prop:=
 (env.kindOf x=some .local/\m x=some u)\/((env.kindOf x=some .cell\/env.kindOf x=some .free)/\∃c,env.cells.lookup x=some c/\h.IsCell c (some u))
structure Cx.Ok(X:Cx):Prop where
 mod:Mod X.K X.mg X.base
 kind:X.env.scope.kind=.function
 glob:X.env.globals=mainGlobals
 blt:X.env.builtins=builtinsNs
 above:X.bR.heap.objs.size<=X.env.locals
 inj:∀x y c,X.env.cells.lookup x=some c->X.env.cells.lookup y=some c->x=y
 has:∀x,(X.env.kindOf x=some .cell\/X.env.kindOf x=some .free)->∃c,X.env.cells.lookup x=some c
 Kv:∀x c,X.fn x=true->X.env.cells.lookup x=some c->X.bR.heap.objs.size<=c
 hd:X.calm=true->X.A.handled=none
 frames:X.A.frames=some X.stack
 Tr:X.stack=X.outer\/(X.stack=X.env::X.outer/\X.env.frame=some X.env.locals)
 Wn:∀b∈X.ex,b≠X.env.locals/\∀x c,X.env.cells.lookup x=some c->c≠b
 bs:∀b o,X.base.get? b=some o->X.bR.heap.get? b=some o/\X.kZ b=none
 zZ:X.base.objs.size<=X.bR.heap.objs.size
 vP:∀b o,X.base.get? b=some o->b∉X.ex
 xn:∀b∈X.ex,b∉X.fs
 jk:X.bR.heap.FunFrames X.base X.outer
 GK:∀b∈X.fs,X.kZ b=none
structure Inv(X:Cx)(pins:List (Addr×Obj))(σ:List (Option V))(H:Hp)(s:Shared):Prop where
 ok:X.Ok
 os:s.os=X.bR.os
 bare:AllBare s.gens
 base:Un X.fs X.ex X.kZ H X.bR.heap s.heap
 loc:∃m,s.heap.Ns X.env.locals m/\∀(i:Nat) (x:Str) (v:V),X.N[i]?=some x->σ[i]?=some (some v)->GI X.env.scope x->∃u,RelV v u/\Look X.env s.heap m x u
 cell:∀x c,X.env.cells.lookup x=some c->∃v,s.heap.IsCell c v
 free:H X.env.locals=none
 dY:∀x c,X.env.cells.lookup x=some c->H c=none
 pin:∀p∈X.pn++pins,s.heap.get? p.1=some p.2/\H p.1=none/\p.1≠X.env.locals/\p.1∉X.fs/\∀v,p.2.data≠.cell v
 bw:fw X.prog X.w H s.heap
 len:σ.length=X.N.length
section
variable {X:Cx}{pins:List (Addr×Obj)}{σ:List (Option V)}{H H':Hp}{s:Shared}{h':Heap}
theorem Cx.Ok.aaX(ok:X.Ok){b:Addr}{o:Obj}(e:X.base.get? b=some o):b∉X.fs:=λhb=>by
 have:=(ok.jk.mem hb).1;rw[e]at this;cases this
theorem Inv.bs(I:Inv X pins σ H s):∀b o,X.base.get? b=some o->s.heap.get? b=some o/\H b=none:=λb o e =>
 ⟨I.base.keep b o (I.ok.bs b o e).1 (I.ok.bs b o e).2 (I.ok.aaX e) (I.ok.vP b o e),I.base.free b o (I.ok.bs b o e).1 (I.ok.bs b o e).2 (I.ok.vP b o e)⟩
theorem Inv.bk(I:Inv X pins σ H s):∀b o,X.base.get? b=some o->s.heap.get? b=some o:=λb o e=>(I.bs b o e).1
theorem Inv.mod(I:Inv X pins σ H s):Mod X.K X.mg X.base:=I.ok.mod
theorem Inv.i7(I:Inv X pins σ H s):X.K.In s.heap:=I.ok.mod.yW.keeps I.bk
theorem Inv.fr(I:Inv X pins σ H s):∃m,Fr X.base X.env.locals s.heap m:=
 let ⟨m,hn,_⟩:=I.loc
 ⟨m,hn,I.bk,Nat.le_trans I.ok.zZ I.ok.above⟩
theorem Inv.lt(I:Inv X pins σ H s):X.env.locals<s.heap.objs.size:=let ⟨_,hn,_⟩:=I.loc;hn.lt
theorem Inv.sz(I:Inv X pins σ H s):X.bR.heap.objs.size<=s.heap.objs.size:=Nat.le_trans I.ok.above (Nat.le_of_lt I.lt)
theorem Inv.aaY(I:Inv X pins σ H s){a:Addr}(h:s.heap.objs.size<=a):a∉X.fs:=λhb=>by
 obtain⟨_,o,ho,_⟩:=I.ok.jk.mem hb;exact absurd (Nat.lt_of_lt_of_le (Heap.lt_size ho) (Nat.le_trans I.sz h)) (Nat.lt_irrefl _)
theorem Inv.CF(I:Inv X pins σ H s):∀x c,X.env.cells.lookup x=some c->c≠X.env.locals:=λx c e z=>by
 obtain⟨v,o,ho,hd⟩:=I.cell x c e;obtain⟨m,⟨o',es,ep,Ou,yM,_⟩,_⟩:=I.loc;rw[z,Ou]at ho;cases ho;rw[yM]at hd;cases hd
theorem Inv.jk(I:Inv X pins σ H s):s.heap.FunFrames X.base X.outer:=by
 have all:∀(l:List Env),(∀b∈jH l,b∈X.fs)->X.bR.heap.FunFrames X.base l->s.heap.FunFrames X.base l:=by
  intro l
  induction l with
  | nil=>intro _ _;trivial
  | cons env r ih =>
   intro hs hl;obtain⟨hk,⟨L,o,hf,hn,ho,hd⟩,hr⟩:=hl;have hL:L∈X.fs:=hs L (by unfold jH;rw[List.filterMap_cons,hf];exact List.mem_cons_self)
   obtain⟨sl,e⟩:=I.base.slot L o ho (I.ok.GK L hL) hL λz=>I.ok.xn L z hL;exact⟨hk,⟨L,_,hf,hn,e,hd⟩,ih (λb hb=>hs b (by unfold jH;rw[List.filterMap_cons,hf];exact List.mem_cons_of_mem _ hb)) hr⟩
 exact all X.outer (λ_ hb=>hb) I.ok.jk
theorem Inv.stack(I:Inv X pins σ H s):s.heap.FunFrames X.base X.stack:=by
 rcases I.ok.Tr with e|⟨e,hf⟩
 ·rw[e];exact I.jk
 ·rw[e]
  obtain⟨m,hn,_⟩:=I.loc;refine .cons (by rw[I.ok.kind];decide) hf hn ?_ I.jk
  exact Heap.get?_none_of_le (Nat.le_trans I.ok.zZ I.ok.above)
theorem Inv.tY(I:Inv X pins σ H s):∀b∈jH X.stack,b∈X.env.locals::X.fs:=λb hb=>by
 rcases I.ok.Tr with e|⟨e,hf⟩
 ·rw[e]at hb;exact List.mem_cons_of_mem _ hb
 ·rw[e]at hb
  unfold jH at hb;rw[List.filterMap_cons,hf]at hb;exact hb
theorem Inv.kO(I:Inv X pins σ H s):∀b∈jH X.stack,H b=none:=λb hb=>by
 rcases List.mem_cons.mp (I.tY b hb)with e|hb
 ·rw[e];exact I.free
 ·obtain⟨_,o,ho,_⟩:=I.ok.jk.mem hb
  exact I.base.free b o ho (I.ok.GK b hb) λz=>I.ok.xn b z hb
theorem Inv.step{g':Array GenState}{t':Nat}{d':Drawn}{ch:List Addr}(I:Inv X pins σ H s)
  (GO:∀b∈ch,(b∈X.ex\/X.bR.heap.get? b=none)/\b≠X.env.locals/\(∀x c,X.env.cells.lookup x=some c->c≠b)/\∀p∈X.pn++pins,p.1≠b)
  (keep:∀b o,b≠X.env.locals->b∉X.fs->b∉ch->s.heap.get? b=some o->H b=none->h'.get? b=some o)
  (slot:∀b o,b≠X.env.locals->b∈X.fs->b∉ch->s.heap.get? b=some o->H b=none->∃sl,h'.get? b=some {o with slots:=sl}) (free:∀b o,b∉ch->s.heap.get? b=some o->H b=none->H' b=none)
  (there:∀b o,b∉ch->s.heap.get? b=some o->∃o',h'.get? b=some o')
  (pG:∀b xs,H b=some (.tup xs)->H' b=some (.tup xs)) (mY:∀b o u,H b=some (.rZ o u)->H' b=some (.rZ o u)) (pE:∀b ps,H b=some (.Lq ps)->∃more,H' b=some (.Lq (ps++more)))
  (ns:∀m,s.heap.Ns X.env.locals m->h'.Ns X.env.locals m) (bw:fw X.prog X.w H' h') (hg:AllBare g'):
  Inv X pins σ H' {s with heap:=h',gens:=g',drawn:=d',toks:=t'}:=by
 have neL:∀b o,X.bR.heap.get? b=some o->b≠X.env.locals:=λb o e=>Nat.ne_of_lt (Nat.lt_of_lt_of_le (Heap.lt_size e) I.ok.above);have Z0:∀b o,X.bR.heap.get? b=some o->b∉X.ex->b∉ch:=λb o e hx hb=>by
  rcases(GO b hb).1 with z|z
  ·exact hx z
  ·rw[e]at z;cases z
 have cellK:∀x c,X.env.cells.lookup x=some c->∀v,s.heap.IsCell c v->h'.IsCell c v:=λx c e v ⟨o,ho,hd⟩=>by
  have En:c∉ch:=λz=>(GO c z).2.2.1 x c e rfl
  by_cases hc:c∈X.fs
  ·obtain⟨sl,q⟩:=slot c o (I.CF x c e) hc En ho (I.dY x c e)
   exact⟨_,q,hd⟩
  ·exact⟨o,keep c o (I.CF x c e) hc En ho (I.dY x c e),hd⟩
 refine⟨I.ok,I.os,hg,⟨λb o e n hb hx=>?_,λb o e n hb hx=>?_,λb o e n hx=>?_,λb o e hx=>?_,λb xs e=>pG b xs (I.base.pG b xs e),λb o xs e=>mY b o xs (I.base.mY b o xs e),λb ps e=>?_⟩,?_,λx c e=>?_,?_,λx c e=>?_,λp hp=>?_,bw,I.len⟩
 ·exact keep b o (neL b o e) hb (Z0 b o e hx) (I.base.keep b o e n hb hx) (I.base.free b o e n hx)
 ·obtain⟨sl,e1⟩:=I.base.slot b o e n hb hx
  obtain⟨sl',e2⟩:=slot b _ (neL b o e) hb (Z0 b o e hx) e1 (I.base.free b o e n hx);exact⟨sl',e2⟩
 ·obtain⟨o',e1⟩:=I.base.there b o e hx
  exact free b o' (Z0 b o e hx) e1 (I.base.free b o e n hx)
 ·obtain⟨o',e1⟩:=I.base.there b o e hx
  exact there b o' (Z0 b o e hx) e1
 ·obtain⟨m1,e1⟩:=I.base.pE b ps e
  obtain⟨m2,e2⟩:=pE b _ e1;exact⟨m1++m2,by rw[e2,Array.append_assoc]⟩
 ·obtain⟨m,hn,hl⟩:=I.loc
  refine⟨m,ns m hn,λi x v e1 e2 e3=>?_⟩;obtain⟨u,r,l⟩:=hl i x v e1 e2 e3;refine⟨u,r,?_⟩;rcases l with l|⟨k,c,e,z⟩
  ·exact .inl l
  ·exact .inr ⟨k,c,e,cellK x c e _ z⟩
 ·obtain⟨v,z⟩:=I.cell x c e
  exact⟨v,cellK x c e v z⟩
 ·obtain⟨m,⟨o,_,_,ho,_⟩,_⟩:=I.loc
  exact free _ o (λz=>(GO _ z).2.1 rfl) ho I.free
 ·obtain⟨v,o,ho,hd⟩:=I.cell x c e
  exact free c o (λz=>(GO c z).2.2.1 x c e rfl) ho (I.dY x c e)
 ·obtain⟨e,n,ne,nf,d⟩:=I.pin p hp
  have En:p.1∉ch:=λz=>(GO p.1 z).2.2.2 p hp rfl;exact⟨keep p.1 p.2 ne nf En e n,free p.1 p.2 En e n,ne,nf,d⟩
theorem Inv.un{t':Nat}(I:Inv X pins σ H s)(u:Un X.fs [] H H' s.heap h')(bw:fw X.prog X.w H' h'):Inv X pins σ H' {s with heap:=h',toks:=t'}:=by
 obtain⟨m,⟨o,es,ep,ho,r⟩,_⟩:=id I.loc;obtain⟨sl,hL⟩:=u.any ho I.free (by simp)
 exact I.step (g':=s.gens) (d':=s.drawn) (ch:=[]) (λ_ z=>nomatch z) (λb o _ hb _ e n=>u.keep b o e n hb (by simp)) (λb o _ hb _ e n=>u.slot b o e n hb (by simp)) (λb o _ e n=>u.free b o e n (by simp)) (λb o _ e=>u.there b o e (by simp)) u.pG u.mY u.pE (λm' hm=>by
  obtain⟨o',Ny,Nx,Ou,r'⟩:=hm;rw[ho]at Ou;cases Ou;exact⟨_,Ny,Nx,hL,r'⟩) bw I.bare
theorem Inv.call{g':Array GenState}{t':Nat}{d':Drawn}{ch:List Addr}(I:Inv X pins σ H s)(u:Un (jH X.stack) ch H H' s.heap h')(bw:fw X.prog X.w H' h')(hg:AllBare g')
  (GO:∀b∈ch,(b∈X.ex\/X.bR.heap.get? b=none)/\b≠X.env.locals/\(∀x c,X.env.cells.lookup x=some c->c≠b)/\∀p∈X.pn++pins,p.1≠b):
  Inv X pins σ H' {s with heap:=h',gens:=g',drawn:=d',toks:=t'}:=by
 obtain⟨m,⟨o,es,ep,ho,r⟩,_⟩:=id I.loc;obtain⟨sl,hL⟩:=u.any ho I.free λz=>(GO _ z).2.1 rfl;exact I.step (ch:=ch) GO (λb o hL hb hc e n=>u.keep b o e n (λz=>(List.mem_cons.mp (I.tY b z)).elim hL hb) hc) (λb o _ _ hc e n=>u.any e n hc) (λb o hc e n=>u.free b o e n hc) (λb o hc e=>u.there b o e hc) u.pG u.mY u.pE (λm' hm=>by
  obtain⟨o',Ny,Nx,Ou,r'⟩:=hm;rw[ho]at Ou;cases Ou;exact⟨_,Ny,Nx,hL,r'⟩) bw hg
theorem Inv.turned{t':Nat}{it:Addr}(I:Inv X pins σ H s)(k:∀b o,b≠it->s.heap.get? b=some o->h'.get? b=some o)(hn:H it=none)(hL:it≠X.env.locals)
  (h1:it∈X.ex\/X.bR.heap.objs.size<=it) (h2:∀x c,X.env.cells.lookup x=some c->c≠it) (h3:∀p∈X.pn++pins,p.1≠it):Inv X pins σ H {s with heap:=h',toks:=t'}:=by
 have nit:∀b u,H b=some u->b≠it:=λb u e z=>by rw[z,hn]at e;cases e
 refine I.step (g':=s.gens) (d':=s.drawn) (ch:=[it]) (λb hb=>?_) (λb o _ _ hc e _=>k b o (λz=>hc (by simp [z])) e) (λb o _ _ hc e _=>⟨o.slots,k b o (λz=>hc (by simp [z])) e⟩) (λ_ _ _ _ n=>n)
  (λb o hc e=>⟨o,k b o (λz=>hc (by simp [z])) e⟩) (λ_ _ e=>e) (λ_ _ _ e=>e) (λb ps e=>⟨#[],by rw[e];simp⟩) (λm hm=>?_) (λb u e=>?_) I.bare
 ·have e:b=it:=by simpa using hb
  subst e;exact⟨h1.imp id λz=>Heap.get?_none_of_le z,hL,h2,h3⟩
 ·obtain⟨o,es,ep,ho,r⟩:=hm
  exact⟨o,es,ep,k _ o (Ne.symm hL) ho,r⟩
 ·refine(I.bw b u e).pD (λc v hc q=>k c v ?_ q) (λ_ q=>q) λ_ _ q=>q
  rcases hc with z|z
  ·rw[z];exact nit b u e
  ·exact nit c _ z
theorem Inv.tok(I:Inv X pins σ H s)(t:Nat):Inv X pins σ H {s with toks:=t}:=I.un (h':=s.heap) (t':=t) Un.refl I.bw
theorem Inv.kept{t':Nat}(I:Inv X pins σ H s)(k:∀b u,s.heap.get? b=some u->h'.get? b=some u):Inv X pins σ H {s with heap:=h',toks:=t'}:=I.un (Un.kept k) (I.bw.kept k)
theorem Inv.laid{a:Addr}{o:HO}{t':Nat}(I:Inv X pins σ H s)(k:∀b u,s.heap.get? b=some u->h'.get? b=some u)(hp:s.heap.objs.size<=a)(new:bW X.prog X.w (upd H a o) h' a o):
  Inv X pins σ (upd H a o) {s with heap:=h',toks:=t'}:=I.un (Un.laid k hp (I.bw.fresh hp)) (I.bw.laid k hp new)
theorem Inv.write{x e:Addr}{o:HO}{t':Nat}(I:Inv X pins σ H s)(mu:U9 (H x))(he:e=x\/H e=some (.own x))(k:∀b u,b≠e->s.heap.get? b=some u->h'.get? b=some u)(Uw:∃u,h'.get? e=some u)
  (new:bW X.prog X.w (upd H x o) h' x o):Inv X pins σ (upd H x o) {s with heap:=h',toks:=t'}:=I.un (Un.write mu he k Uw) (I.bw.write mu he k Uw new)
theorem Inv.zo{zm:List (Addr×Obj)}(I:Inv X pins σ H s)(h:∀p∈zm,s.heap.get? p.1=some p.2/\H p.1=none/\p.1≠X.env.locals/\p.1∉X.fs/\∀v,p.2.data≠.cell v):Inv X zm σ H s:=
 ⟨I.ok,I.os,I.bare,I.base,I.loc,I.cell,I.free,I.dY,λp hp=>(List.mem_append.mp hp).elim (λz=>I.pin p (List.mem_append_left _ z)) (h p),I.bw,I.len⟩
theorem oK{N:List Str}(hN:N.Nodup){i j:Nat}{x:Str}(a:N[i]?=some x)(b:N[j]?=some x):i=j:=by
 obtain⟨h1,e1⟩:=List.getElem?_eq_some_iff.mp a;obtain⟨h2,e2⟩:=List.getElem?_eq_some_iff.mp b;exact(List.getElem_inj hN).mp (e1.trans e2.symm)
theorem A8{M:Model}{A:Around}{E:Value->Shared->Prop}{i:Nat}{x:Str}{v:V}{u:Value}{Q:Unit->Shared->Prop}(I:Inv X pins σ H s)(hN:X.N.Nodup)(hi:X.N[i]?=some x)(hx:Loc X.env.scope x)(r:RelV v u)
  (h:∀s',Inv X pins (σ.set i (some v)) H s'->(∃a,Heap.SameBut a s.heap s'.heap/\(a=X.env.locals\/X.env.cells.lookup x=some a))->Q () s') (hf:X.fn x=true\/X.env.scope.names.lookup x=some .local:=by first|exact .inl rfl|exact .inr rfl|assumption):wpAny M A (storeName X.env x u) Q E s:=by
 obtain⟨m,hn,hl⟩:=id I.loc;have DV:(X.env.scope.kind==.class||(X.env.scope.kind==.module&&X.env.locals != X.env.globals))=false:=by rw[I.ok.kind];rfl
 have WY:i<σ.length:=by rw[I.len];exact(List.getElem?_eq_some_iff.mp hi).1
 have CF:=I.CF;have tracked:∀ {a:Addr} {h':Heap},(∃o,s.heap.get? a=some o/\H a=none)->Heap.SameBut a s.heap h'->fw X.prog X.w H h':=λ{a h'} ha hs b ob e=>by
  obtain⟨_,_,yO⟩:=ha;refine(I.bw b ob e).pD (λc w' hc q=>(hs.2 c ?_).trans q) (λ_ q=>q) λ_ _ q=>q;rintro rfl;rcases hc with rfl|hc
  ·rw[yO]at e;cases e
  ·rw[yO]at hc;cases hc
 rcases hx with hk|hk
 ·refine wpAny_storeName_local hk hn (λh' hn' hs=>?_) DV
  obtain⟨oL,_,_,KW,_⟩:=id hn;refine h _ ⟨I.ok,I.os,I.bare,⟨λb o e n hb hx=>?_,λb o e n hb hx=>?_,I.base.free,λb o e hx=>?_,I.base.pG,I.base.mY,I.base.pE⟩,⟨_,hn',λj y v' e1 e2 e3=>?_⟩,λy c e=>?_,I.free,I.dY,λp hp=>?_,tracked ⟨oL,KW,I.free⟩ hs,by simpa using I.len⟩ ⟨_,hs,.inl rfl⟩
  ·exact(hs.2 b (Nat.ne_of_lt (Nat.lt_of_lt_of_le (Heap.lt_size e) I.ok.above))).trans (I.base.keep b o e n hb hx)
  ·obtain⟨sl,e1⟩:=I.base.slot b o e n hb hx
   exact⟨sl,(hs.2 b (Nat.ne_of_lt (Nat.lt_of_lt_of_le (Heap.lt_size e) I.ok.above))).trans e1⟩
  ·obtain⟨o',e1⟩:=I.base.there b o e hx
   exact⟨o',(hs.2 b (Nat.ne_of_lt (Nat.lt_of_lt_of_le (Heap.lt_size e) I.ok.above))).trans e1⟩
  ·by_cases hj:j=i
   ·subst hj
    rw[hi]at e1;cases e1;rw[List.getElem?_set_self WY]at e2;cases e2;exact⟨u,r,.inl ⟨hk,by simp⟩⟩
   ·rw[List.getElem?_set_ne (Ne.symm hj)]at e2
    obtain⟨u',r',q⟩:=hl j y v' e1 e2 e3;refine⟨u',r',?_⟩;rcases q with⟨k,e⟩|⟨k,c,e,z⟩
    ·refine .inl ⟨k,?_⟩
     have:y≠x:=λe=>hj (oK hN e1 (e ▸ hi));simp [this,e]
    ·exact .inr ⟨k,c,e,z.sameBut hs (CF y c e)⟩
  ·obtain⟨w',z⟩:=I.cell y c e
   exact⟨w',z.sameBut hs (CF y c e)⟩
  ·obtain⟨e,n,ne,nf,d⟩:=I.pin p hp
   exact⟨(hs.2 p.1 ne).trans e,n,ne,nf,d⟩
 ·have hfn:X.fn x=true:=by
   rcases hf with z|z
   ·exact z
   ·rw[z]at hk;cases hk
  obtain⟨c,hc⟩:=I.ok.has x (.inl hk);obtain⟨w',z⟩:=I.cell x c hc;refine wpAny_storeName_cell I.ok.kind hk hc z (λh' HE hs=>?_);obtain⟨oc,hoc,aaE⟩:=id z;refine h {s with heap:=h'} ⟨I.ok,I.os,I.bare,⟨λb o e n hb hx=>?_,λb o e n hb hx=>?_,I.base.free,λb o e hx=>?_,I.base.pG,I.base.mY,I.base.pE⟩,⟨m,hn.sameBut hs (Ne.symm (CF x c hc)),λj y v' e1 e2 e3=>?_⟩,λy c' e=>?_,I.free,I.dY,λp hp=>?_,tracked ⟨oc,hoc,I.dY x c hc⟩ hs,by simpa using I.len⟩ ⟨c,hs,.inr hc⟩
  ·exact(hs.2 b (Nat.ne_of_lt (Nat.lt_of_lt_of_le (Heap.lt_size e) (I.ok.Kv x c hfn hc)))).trans (I.base.keep b o e n hb hx)
  ·obtain⟨sl,e1⟩:=I.base.slot b o e n hb hx
   exact⟨sl,(hs.2 b (Nat.ne_of_lt (Nat.lt_of_lt_of_le (Heap.lt_size e) (I.ok.Kv x c hfn hc)))).trans e1⟩
  ·obtain⟨o',e1⟩:=I.base.there b o e hx
   exact⟨o',(hs.2 b (Nat.ne_of_lt (Nat.lt_of_lt_of_le (Heap.lt_size e) (I.ok.Kv x c hfn hc)))).trans e1⟩
  ·by_cases hj:j=i
   ·subst hj
    rw[hi]at e1;cases e1;rw[List.getElem?_set_self WY]at e2;cases e2;exact⟨u,r,.inr ⟨.inl hk,c,hc,HE⟩⟩
   ·rw[List.getElem?_set_ne (Ne.symm hj)]at e2
    obtain⟨u',r',q⟩:=hl j y v' e1 e2 e3;refine⟨u',r',?_⟩;rcases q with q|⟨k,c',e,z'⟩
    ·exact .inl q
    ·refine .inr ⟨k,c',e,z'.sameBut hs ?_⟩
     rintro rfl;exact hj (oK hN e1 (I.ok.inj _ _ _ e hc ▸ hi))
  ·by_cases hcc:c'=c
   ·subst hcc;exact⟨_,HE⟩
   ·obtain⟨w2,z2⟩:=I.cell y c' e
    exact⟨w2,z2.sameBut hs hcc⟩
  ·obtain⟨e,n,ne,nf,d⟩:=I.pin p hp
   refine⟨(hs.2 p.1 ?_).trans e,n,ne,nf,d⟩;intro q;rw[q,hoc]at e;have q':oc=p.2:=Option.some.inj e;exact d w' (by rw[<- q'];exact aaE)
theorem kP{M:Model}{A:Around}{E:Value->Shared->Prop}{i:Nat}{x:Str}{v:V}{u:Value}{Q:Unit->Shared->Prop}(I:Inv X pins σ H s)(hN:X.N.Nodup)(hi:X.N[i]?=some x)(hx:Loc X.env.scope x)(r:RelV v u)
  (h:∀s',Inv X pins (σ.set i (some v)) H s'->Q () s') (hf:X.fn x=true\/X.env.scope.names.lookup x=some .local:=by first|exact .inl rfl|exact .inr rfl|assumption):wpAny M A (storeName X.env x u) Q E s:=
 A8 I hN hi hx r (λs' I' _=>h s' I') hf
theorem Inv.qg{s':Shared}{ch:List Addr}(I:Inv X pins σ H s)(ho:s'.os=s.os)(u:Un (jH X.stack) ch H H' s.heap s'.heap)(bw:fw X.prog X.w H' s'.heap)(hg:AllBare s'.gens)
  (GO:∀b∈ch,(b∈X.ex\/X.bR.heap.get? b=none)/\b≠X.env.locals/\(∀x c,X.env.cells.lookup x=some c->c≠b)/\∀p∈X.pn++pins,p.1≠b):Inv X pins σ H' s':=by
 obtain⟨h',g',d',t',o'⟩:=s';have e:o'=s.os:=ho;subst e;exact I.call (g':=g') (t':=t') (d':=d') u bw hg GO
end
abbrev XK:=Value->Option Addr->Hp->Prop
abbrev St:=List (Option V)
abbrev VK:=V->Hp->Prop
abbrev TE:=St->Hp->VK->Prop
abbrev TT:=St->Hp->(Bool->Hp->Prop)->Prop
abbrev TA:=St->Hp->(List V->Hp->Prop)->Prop
structure Ends where
 nx:St->Hp->Prop
 rt:VK
 bk:St->Hp->Prop:=λ_ _=>False
 ct:St->Hp->Prop:=λ_ _=>False
abbrev TS:=Ends->St->Hp->Prop
def EP(X:Cx)(pins:List (Addr×Obj))(σ:St)(Q:VK)(u:Value)(s':Shared):Prop:=∃v H',Inv X pins σ H' s'/\RelV v u/\Q v H'
def TP(X:Cx)(pins:List (Addr×Obj))(σ:St)(Q:Bool->Hp->Prop)(b:Bool)(s':Shared):Prop:=∃H',Inv X pins σ H' s'/\Q b H'
def AP(X:Cx)(pins:List (Addr×Obj))(σ:St)(Q:List V->Hp->Prop)(us:List Value)(s':Shared):Prop:=∃vs H',Inv X pins σ H' s'/\Vals vs us/\Q vs H'
def SP(X:Cx)(pins:List (Addr×Obj))(D:Ends)(f:Flow)(s':Shared):Prop:=
 match f with
 | .next=>∃cq H',Inv X pins cq H' s'/\D.nx cq H'
 | .brk=>∃cq H',Inv X pins cq H' s'/\D.bk cq H'
 | .cont=>∃cq H',Inv X pins cq H' s'/\D.ct cq H'
 | .ret u=>∃v cq H',Inv X pins cq H' s'/\RelV v u/\D.rt v H'
def PE(X:Cx)(e:Expr)(t:TE):Prop:=
 ∀(pins:List (Addr×Obj)) (s:Shared) (σ:St) (H:Hp) (Q:VK),Inv X pins σ H s->t σ H Q->wpAny (model X.prog X.w) X.A (eval e X.env) (EP X pins σ Q) X.xe s
def PT(X:Cx)(e:Expr)(t:TT):Prop:=
 ∀(pins:List (Addr×Obj)) (s:Shared) (σ:St) (H:Hp) (Q:Bool->Hp->Prop),Inv X pins σ H s->t σ H Q->wpAny (model X.prog X.w) X.A (isTrue e X.env (eval e X.env)) (TP X pins σ Q) X.xe s
def PW(X:Cx)(e:Expr)(t:TT):Prop:=
 ∀(whole:Sem Value) (pins:List (Addr×Obj)) (s:Shared) (σ:St) (H:Hp) (Q:Bool->Hp->Prop),Inv X pins σ H s->t σ H Q->wpAny (model X.prog X.w) X.A (isTrue e X.env whole) (TP X pins σ Q) X.xe s
theorem PW.pt{X:Cx}{e:Expr}{t:TT}(h:PW X e t):PT X e t:=h _
def PA(X:Cx)(es:List Expr)(t:TA):Prop:=
 ∀(pos:Pos) (pins:List (Addr×Obj)) (s:Shared) (σ:St) (H:Hp) (Q:List V->Hp->Prop),Inv X pins σ H s->t σ H Q->wpAny (model X.prog X.w) X.A (spliced (backTo pos (starEach es X.env))) (AP X pins σ Q) X.xe s
def PS(X:Cx)(st:Stmt)(t:TS):Prop:=
 ∀(pins:List (Addr×Obj)) (s:Shared) (σ:St) (H:Hp) (D:Ends),Inv X pins σ H s->t D σ H->wpAny (model X.prog X.w) X.A (exec st X.env) (SP X pins D) X.xe s
def ug(X:Cx)(st:List Stmt)(t:TS):Prop:=
 ∀(pins:List (Addr×Obj)) (s:Shared) (σ:St) (H:Hp) (D:Ends),Inv X pins σ H s->t D σ H->wpAny (model X.prog X.w) X.A (execs st X.env) (SP X pins D) X.xe s
theorem cE{α:Type}{t:Sem α}{Q Q':α->Shared->Prop}{M:Model}{A:Around}{E:Value->Shared->Prop}{s:Shared}(h:wpAny M A t Q E s)(hQ:∀a s,Q a s->Q' a s):wpAny M A t Q' E s:=wpAny_mono h hQ λ_ _ x=>x
end L2
namespace L2
open PySem PySem.Spec PyProof.Rows
section
variable {X:Cx}
def Zn(i:Nat):TE:=λσ H Q=>∃v,σ[i]?=some (some v)/\Q v H
def tC(v:V):TE:=λ_ H Q=>Q v H
theorem g9{i:Nat}{x:Str}{pos:Pos}(hN:X.N[i]?=some x)(hv:GI X.env.scope x)(hd:(x==("__debug__":Str))=false:=by decide)(gG:(x==("__classdict__":Str))=false:=by decide):PE X (.Name x pos) (Zn i):=by
 intro pins s σ H Q I h;obtain⟨v,e,h⟩:=h;obtain⟨m,hn,hl⟩:=I.loc;obtain⟨u,r,l⟩:=hl i x v hN e hv;have fin:EP X pins σ Q u s:=⟨v,H,I,r,h⟩;rcases l with⟨hk,hm⟩|⟨hk,c,hc,yL⟩
 ·exact wpAny_Name (wpAny_loadName_local I.ok.kind hk hn hm fin) hd
 ·rcases hk with hk|hk
  ·exact wpAny_Name (wpAny_loadName_cell I.ok.kind hk hc yL fin) hd
  ·exact wpAny_Name (wpAny_loadName_free I.ok.kind hk hc yL fin gG) hd
theorem Rc{i j pos}:PE X (.Constant (.int i) j pos) (tC (.int i)):=λ_ _ _ H _ I h=>wpAny_Constant_int ⟨.int i,H,I.tok _,⟨_,rfl⟩,h⟩
theorem Yq{b j pos}:PE X (.Constant (.bool b) j pos) (tC (.bl b)):=λ_ _ _ H _ I h=>Constant_bool ⟨.bl b,H,I,rfl,h⟩
theorem Rg{j pos}:PE X (.Constant .none j pos) (tC .aV):=λ_ _ _ H _ I h=>Constant_none ⟨.aV,H,I,rfl,h⟩
theorem Rh{x j pos}:PE X (.Constant (.str x) j pos) (tC (.str x)):=λ_ _ _ H _ I h=>Calls.Constant_str ⟨.str x,H,I.tok _,⟨_,rfl⟩,h⟩
def Gl(X:Cx)(x:Str):Prop:=X.env.kindOf x=some .globalImplicit
theorem iE{E:Value->Shared->Prop}{pins:List (Addr×Obj)}{s:Shared}{σ:St}{H:Hp}{x:Str}{u:Value}{pos:Pos}{Q:Value->Shared->Prop}(I:Inv X pins σ H s)(hg:Gl X x)(hm:X.mg x=some u)(h:Q u s)
  (hd:(x==("__debug__":Str))=false:=by decide):wpAny (model X.prog X.w) X.A (eval (.Name x pos) X.env) Q E s:=
 Calls.Name_function_global I.ok.kind hg (Calls.loadGlobal_global (by rw[I.ok.glob];exact I.mod.glob.keeps I.bk) hm h) hd
theorem jo{E:Value->Shared->Prop}{pins:List (Addr×Obj)}{s:Shared}{σ:St}{H:Hp}{x:Str}{u:Value}{pos:Pos}{Q:Value->Shared->Prop}(I:Inv X pins σ H s)(hg:Gl X x)(hm:X.mg x=none)(hv:bootBuiltins x=some u)(h:Q u s)
  (hn:x≠"__name__":=by decide) (hd:(x==("__debug__":Str))=false:=by decide):wpAny (model X.prog X.w) X.A (eval (.Name x pos) X.env) Q E s:=by
 obtain⟨mb,h1,h2⟩:=I.mod.blt;exact Calls.Name_function_global I.ok.kind hg (Calls.loadGlobal_builtin (by rw[I.ok.glob];exact I.mod.glob.keeps I.bk) hm (by rw[I.ok.blt];exact h1.keeps I.bk) ((h2 x hn).trans hv) h) hd
theorem zk{x:Str}{v:V}{u:Value}{pos:Pos}(hg:Gl X x)(hm:X.mg x=some u)(r:RelV v u)(hd:(x==("__debug__":Str))=false:=by decide):PE X (.Name x pos) (tC v):=
 λ_ _ _ H _ I h=>iE I hg hm ⟨v,H,I,r,h⟩ hd
theorem IL{x:Str}{v:V}{u:Value}{pos:Pos}(hg:Gl X x)(hm:X.mg x=none)(hv:bootBuiltins x=some u)(r:RelV v u)(hn:x≠"__name__":=by decide)(hd:(x==("__debug__":Str))=false:=by decide):PE X (.Name x pos) (tC v):=
 λ_ _ _ H _ I h=>jo I hg hm hv ⟨v,H,I,r,h⟩ hn hd
variable {a b:Expr}{ta tb:TE}{pos:Pos}
variable {tA tB':TT}{rest:List Expr}
def abg(t u:TT):TT:=λσ H Q=>t σ H λc H1=>if c=true then u σ H1 Q else Q false H1
def tOr(t u:TT):TT:=λσ H Q=>t σ H λc H1=>if c=true then Q true H1 else u σ H1 Q
def abl(t:TT):TT:=λσ H Q=>t σ H λc H1=>Q (!c) H1
theorem pw_and1(ha:PT X a tA):PW X (.BoolOp .And [a] pos) tA:=by
 intro wh pins s σ H Q I h;refine isTrue_and (cE (ha pins s σ H Q I h) λc s1 e=>?_);cases c with
 | true=>exact isTrue_and_nil e
 | false=>exact e
theorem pw_or1(ha:PT X a tA):PW X (.BoolOp .Or [a] pos) tA:=by
 intro wh pins s σ H Q I h;refine isTrue_or (cE (ha pins s σ H Q I h) λc s1 e=>?_);cases c with
 | false=>exact isTrue_or_nil e
 | true=>exact e
theorem pw_and(ha:PT X a tA)(hb:PW X (.BoolOp .And (b::rest) pos) tB'):PW X (.BoolOp .And (a::b::rest) pos) (abg tA tB'):=by
 intro wh pins s σ H Q I h;refine isTrue_and (cE (ha pins s σ H _ I h) λc s1 ⟨H1,I1,q1⟩=>?_);cases c with
 | true=>exact hb wh pins s1 σ H1 Q I1 q1
 | false=>exact⟨H1,I1,q1⟩
theorem pw_or(ha:PT X a tA)(hb:PW X (.BoolOp .Or (b::rest) pos) tB'):PW X (.BoolOp .Or (a::b::rest) pos) (tOr tA tB'):=by
 intro wh pins s σ H Q I h;refine isTrue_or (cE (ha pins s σ H _ I h) λc s1 ⟨H1,I1,q1⟩=>?_);cases c with
 | true=>exact⟨H1,I1,q1⟩
 | false=>exact hb wh pins s1 σ H1 Q I1 q1
theorem RV(ha:PT X a tA):PT X (.UnaryOp .Not a pos) (abl tA):=by
 intro pins s σ H Q I h;exact isTrue_not (ha pins s σ H (λc H1=>Q (!c) H1) I h)
end
end L2
namespace L2
open PySem PySem.Spec PyProof.Rows
def gE(K:PySem.W.Frag)(H:Hp)(a:Addr)(xs:List V):Prop:=
 Rd H a (.lst xs) \/
  ∃(o:Obj) (its:Array Value) (n:Nat),K.lookup a=some o/\o.cls=.type "list"/\o.dict=none/\o.data=.seq its n/\its.size<=sizeLine/\Vals xs its.toList
def kW(K:PySem.W.Frag)(H:Hp)(a:Addr)(xs:List V):Prop:=
 Rd H a (.tup xs) \/
  ∃(o:Obj) (its:Array Value) (n:Nat),K.lookup a=some o/\o.cls=.type "tuple"/\o.data=.seq its n/\its.size<=sizeLine/\Vals xs its.toList
def aaf:Value->Option V
 | .none=>some .aV
 | .bool b=>some (.bl b)
 | .int i _=>some (.int i)
 | .str x _=>some (.str x)
 | .bytes b _=>some (.Uq b)
 | .float b _=>some (.N6 b)
 | .ref a=>some (.ref a)
 | .type n=>some (.ty n)
 | _=>none
theorem RelV.abs{x:V}{u:Value}(r:RelV x u):aaf u=some x:=by
 cases x with
 | aV=>cases r;rfl
 | bl _=>cases r;rfl
 | int _=>obtain⟨t,rfl⟩:=r;rfl
 | str _=>obtain⟨t,rfl⟩:=r;rfl
 | Uq _=>obtain⟨t,rfl⟩:=r;rfl
 | N6 _=>obtain⟨t,rfl⟩:=r;rfl
 | ref _=>cases r;rfl
 | ty _=>cases r;rfl
theorem RelV.inj{x y:V}{u:Value}(r:RelV x u)(q:RelV y u):x=y:=Option.some.inj (r.abs.symm.trans q.abs)
theorem Vals.inj:∀ {xs ys:List V} {us:List Value},Vals xs us->Vals ys us->xs=ys
 | _,_,_,.nil,.nil=>rfl
 | _,_,_,.cons r t,.cons r' t'=>by rw[r.inj r',Vals.inj t t']
section
variable {X:Cx}{pins:List (Addr×Obj)}{σ:St}{H:Hp}{s:Shared}{a:Addr}{xs ys:List V}
theorem gE.of{K:PySem.W.Frag}(h:H a=some (.lst xs)):gE K H a xs:=.inl (.inl h)
theorem kW.of{K:PySem.W.Frag}(h:H a=some (.tup xs)):kW K H a xs:=.inl (.inl h)
theorem Inv.list(I:Inv X pins σ H s)(h:gE X.K H a xs):∃its:List Value,Vals xs its/\PlainL s.heap a its.toArray/\xs.length<=sizeLine:=by
 rcases h with h|⟨o,its,n,hk,hc,hd,hs,hz,r⟩
 ·obtain⟨z,its,n,r,e⟩:=h.ok I.bw
  exact⟨its,r,⟨_,n,e,rfl,rfl,rfl⟩,z⟩
 ·refine⟨its.toList,r,⟨o,n,I.i7 a o hk,hc,hd,by simpa using hs⟩,?_⟩
  have e:=r.length;simp only[Array.length_toList]at e;omega
theorem Inv.tuple(I:Inv X pins σ H s)(h:kW X.K H a xs):∃its:List Value,Vals xs its/\IsTup s.heap a its.toArray/\xs.length<=sizeLine:=by
 rcases h with h|⟨o,its,n,hk,hc,hs,hz,r⟩
 ·obtain⟨z,its,r,p⟩:=h.ok I.bw
  exact⟨its,r,p,z⟩
 ·refine⟨its.toList,r,⟨o,I.i7 a o hk,hc,n,by simpa using hs⟩,?_⟩
  have e:=r.length;simp only[Array.length_toList]at e;omega
theorem Inv.vF(I:Inv X pins σ H s)(h:gE X.K H a xs)(h':gE X.K H a ys):xs=ys:=by
 obtain⟨its,r,⟨o,n,e,_,_,d⟩,_⟩:=I.list h;obtain⟨its',r',⟨o',n',e',_,_,d'⟩,_⟩:=I.list h';rw[e]at e';cases e';rw[d]at d'
 injection d' with d1 _
 have:its=its':=by simpa using congrArg Array.toList d1
 subst this;exact r.inj r'
theorem Inv.qY(I:Inv X pins σ H s)(h:kW X.K H a xs)(h':kW X.K H a ys):xs=ys:=by
 obtain⟨its,r,⟨o,e,_,n,d⟩,_⟩:=I.tuple h;obtain⟨its',r',⟨o',e',_,n',d'⟩,_⟩:=I.tuple h';rw[e]at e';cases e';rw[d]at d'
 injection d' with d1 _
 have:its=its':=by simpa using congrArg Array.toList d1
 subst this;exact r.inj r'
end
abbrev Cx.pV(X:Cx)(E:Value->Shared->Prop):Cx:={X with xe:=E}
abbrev Cx.PD(X:Cx):Cx:=X.pV λ_ _=>False
theorem Cx.Ok.pV{X:Cx}(ok:X.Ok)(E:Value->Shared->Prop):(X.pV E).Ok:=
 ⟨ok.mod,ok.kind,ok.glob,ok.blt,ok.above,ok.inj,ok.has,ok.Kv,ok.hd,ok.frames,ok.Tr,ok.Wn,ok.bs,ok.zZ,ok.vP,ok.xn,ok.jk,ok.GK⟩
theorem Cx.Ok.ip{X:Cx}{E:Value->Shared->Prop}(ok:(X.pV E).Ok):X.Ok:=
 ⟨ok.mod,ok.kind,ok.glob,ok.blt,ok.above,ok.inj,ok.has,ok.Kv,ok.hd,ok.frames,ok.Tr,ok.Wn,ok.bs,ok.zZ,ok.vP,ok.xn,ok.jk,ok.GK⟩
section
variable {X:Cx}{pins:List (Addr×Obj)}{σ:St}{H:Hp}{s:Shared}{E:Value->Shared->Prop}
theorem Inv.pV(I:Inv X pins σ H s)(E:Value->Shared->Prop):Inv (X.pV E) pins σ H s:=⟨I.ok.pV E,I.os,I.bare,I.base,I.loc,I.cell,I.free,I.dY,I.pin,I.bw,I.len⟩
theorem Inv.ip(I:Inv (X.pV E) pins σ H s):Inv X pins σ H s:=⟨I.ok.ip,I.os,I.bare,I.base,I.loc,I.cell,I.free,I.dY,I.pin,I.bw,I.len⟩
theorem SP.ip{D:Ends}{f:Flow}{s':Shared}(h:SP (X.pV E) pins D f s'):SP X pins D f s':=by
 cases f with
 | next=>obtain⟨cq,H',I,q⟩:=h;exact⟨cq,H',I.ip,q⟩
 | brk=>obtain⟨cq,H',I,q⟩:=h;exact⟨cq,H',I.ip,q⟩
 | cont=>obtain⟨cq,H',I,q⟩:=h;exact⟨cq,H',I.ip,q⟩
 | ret u=>obtain⟨v,cq,H',I,r,q⟩:=h;exact⟨v,cq,H',I.ip,r,q⟩
theorem ug.PD{st:List Stmt}{t:TS}(h:ug X.PD st t):ug X st t:=λpins s σ H D I hw =>
 wpAny_mono (h pins s σ H D (I.pV _) hw) (λ_ _ q=>q.ip) λ_ _ z=>False.elim z
end
section
variable {X:Cx}{st:Stmt}{rest:List Stmt}{t u:TS}{e:Expr}{te:TE}{pos:Pos}
def Zi:TS:=λD σ H=>D.nx σ H
def abn(t u:TS):TS:=λD σ H=>t {D with nx:=u D} σ H
theorem Jd:ug X [] Zi:=λ_ _ σ H _ I h=>wpAny_execs_nil ⟨σ,H,I,h⟩
theorem E5(h1:PS X st t)(h2:ug X rest u):ug X (st::rest) (abn t u):=by
 intro pins s σ H D I h;refine wpAny_execs_cons (cE (h1 pins s σ H {D with nx:=u D} I h) λf s1 q=>?_)
 cases f with
 | next =>
  obtain⟨cq,H',I',q⟩:=q;exact h2 pins s1 cq H' D I' q
 | ret v=>exact q
 | brk=>exact q
 | cont=>exact q
theorem Je(h1:PS X st t):ug X [st] t:=by
 intro pins s σ H D I h;refine wpAny_execs_cons (cE (h1 pins s σ H D I h) λf s1 q=>?_);cases f with
 | next=>exact wpAny_execs_nil q
 | ret v=>exact q
 | brk=>exact q
 | cont=>exact q
theorem Inv.quiet{pins:List (Addr×Obj)}{σ:St}{H:Hp}{s:Shared}(I:Inv X pins σ H s):interactive X.env=false:=by simp [interactive,I.ok.kind]
def Zg(te:TE):TS:=λD σ H=>te σ H λ_ H1=>D.nx σ H1
theorem sJ(he:PE X e te)(hs:swapsWith e none pos.line X.env=pure false:=by rfl):PS X (.Expr e pos) (Zg te):=by
 intro pins s σ H D I h;exact wpAny_Expr_any (cE (he pins s σ H _ I h) λv s1 ⟨x,H1,I1,r1,q1⟩=>⟨σ,H1,I1,q1⟩) I.quiet hs
def abm(te:TE):TS:=λD σ H=>te σ H D.rt
theorem RU(he:PE X e te):PS X (.Return (some e) pos) (abm te):=by
 intro pins s σ H D I h;exact wpAny_Return_some (cE (he pins s σ H _ I h) λv s1 ⟨x,H1,I1,r1,q1⟩=>⟨x,σ,H1,I1,r1,q1⟩)
def abj(c:TT)(t u:TS):TS:=λD σ H=>c σ H λb H1=>if b=true then t D σ H1 else u D σ H1
theorem YG{c:Expr}{a b:List Stmt}{tc:TT}(hc:PT X c tc)(ha:ug X a t)(hb:ug X b u):PS X (.If c a b pos) (abj tc t u):=by
 intro pins s σ H D I h;refine wpAny_If (cE (hc pins s σ H _ I h) λd s1 ⟨H1,I1,q1⟩=>?_);cases d with
 | true=>exact ha pins s1 σ H1 D I1 q1
 | false=>exact hb pins s1 σ H1 D I1 q1
def TH:TS:=λ_ _ _=>False
theorem E3:PS X st TH:=λ_ _ _ _ _ _ h=>h.elim
end
abbrev TG:=V->St->Hp->(St->Hp->Prop)->Prop
abbrev Ku:=List V->St->Hp->(St->Hp->Prop)->Prop
def PG(X:Cx)(target:Expr)(t:TG):Prop:=
 ∀(pins:List (Addr×Obj)) (s:Shared) (σ:St) (H:Hp) (v:V) (u:Value) (Q:St->Hp->Prop),Inv X pins σ H s->RelV v u->t v σ H Q ->
  wpAny (model X.prog X.w) X.A (assign target X.env u) (λ_ s'=>∃cq H',Inv X pins cq H' s'/\Q cq H') X.xe s
def Up(X:Cx)(ts:List Expr)(t:Ku):Prop:=
 ∀(pins:List (Addr×Obj)) (s:Shared) (σ:St) (H:Hp) (vs:List V) (us:List Value) (Q:St->Hp->Prop),Inv X pins σ H s->Vals vs us->t vs σ H Q ->
  wpAny (model X.prog X.w) X.A (assignInOrder ((assignEach ts X.env).map (·.2)) us) (λ_ s'=>∃cq H',Inv X pins cq H' s'/\Q cq H') X.xe s
section
variable {X:Cx}{pos:Pos}
def vw(i:Nat):TG:=λv σ H Q=>Q (σ.set i (some v)) H
theorem IV{i:Nat}{x:Str}(hN:X.N.Nodup)(hi:X.N[i]?=some x)(hx:Loc X.env.scope x)(hf:X.fn x=true\/X.env.scope.names.lookup x=some .local:=by first|exact .inl rfl|exact .inr rfl|assumption):PG X (.Name x pos) (vw i):=by
 intro pins s σ H v u Q I r h;exact wpAny_assign_Name (kP I hN hi hx r (λs' I'=>⟨_,H,I',h⟩) hf)
def aas:Ku:=λvs σ H Q=>vs=[]/\Q σ H
def WC(t:TG)(u:Ku):Ku:=λvs σ H Q=>∃v r,vs=v::r/\t v σ H λcq H'=>u r cq H' Q
theorem IW:Up X [] aas:=by
 intro pins s σ H vs us Q I r h;obtain⟨e,h⟩:=h;subst e;cases r;exact assignInOrder_nil ⟨σ,H,I,h⟩
theorem EL{e:Expr}{es:List Expr}{t:TG}{u:Ku}(h1:PG X e t)(h2:Up X es u)
  (hs:(assignEach (e::es) X.env).map (·.2)=assign e X.env::(assignEach es X.env).map (·.2):=by rfl):Up X (e::es) (WC t u):=by
 intro pins s σ H vs us Q I r h;obtain⟨v,vr,e1,h⟩:=h;subst e1;cases r with
 | cons r rr =>
  rw[hs];refine assignInOrder_cons (cE (h1 pins s σ H _ _ _ I r h) λ_ s1 ⟨ax,H1,I1,q1⟩=>?_);exact h2 pins s1 ax H1 _ _ Q I1 rr q1
def aat(K:PySem.W.Frag)(n:Nat)(t:Ku):TG:=λv σ H Q=>∃a xs,v=.ref a/\kW K H a xs/\xs.length=n/\t xs σ H Q
theorem Rk{es:List Expr}{k:Nat}{t:Ku}{n:Nat}(hc:X.calm=true)(h:Up X es t)
  (hn:(assignEach es X.env).length=n:=by rfl) (pN:(assignEach es X.env).findIdx? (·.1)=none:=by rfl):PG X (.Tuple es k pos) (aat X.K n t):=by
 intro pins s σ H v u Q I r hw;obtain⟨a,xs,e1,hq,hl,hw⟩:=hw;subst e1;cases r;obtain⟨its,rv,ht,hz⟩:=I.tuple hq;refine assign_Tuple_tuple (I.ok.hd hc) ht (by simp [hn,<- hl,rv.length]) pN λh' hx=>?_
 have I1:Inv X pins σ H {s with heap:=h'}:=I.kept (t':=s.toks) λb o e=>hx b o (Nat.ne_of_lt (Heap.lt_size e)) e
 exact h pins _ σ H xs _ Q I1 (by simpa using rv) hw
def Ts(te:TE)(g:TG):TS:=λD σ H=>te σ H λx H1=>g x σ H1 D.nx
theorem E4{i:Nat}{x:Str}{e:Expr}{te:TE}{pos':Pos}(hN:X.N.Nodup)(hi:X.N[i]?=some x)(hx:Loc X.env.scope x)(he:PE X e te)(hs:swapsWith e (some (.Name x pos')) pos.line X.env=pure false:=by rfl)(hf:X.fn x=true\/X.env.scope.names.lookup x=some .local:=by first|exact .inl rfl|exact .inr rfl|assumption):
  PS X (.Assign [.Name x pos'] e pos) (Ts te (vw i)):=by
 intro pins s σ H D I h;refine wpAny_Assign_Name (cE (he pins s σ H _ I h) λv s1 ⟨y,H1,I1,r1,q1⟩=>?_) hs;exact kP I1 hN hi hx r1 (λs2 I2=>⟨_,H1,I2,q1⟩) hf
end
structure It where
 go:Nat->Hp->Prop
 Zy:Nat->Hp->V->Hp->Prop
 stop:Nat->Hp->Prop
def iQ(X:Cx)(pins:List (Addr×Obj))(H:Hp)(b:Addr):Prop:=
 H b=none/\b≠X.env.locals/\b∉X.fs/\(b∈X.ex\/X.bR.heap.objs.size<=b)/\(∀x c,X.env.cells.lookup x=some c->c≠b)/\∀p∈X.pn++pins,p.1≠b
theorem Inv.Dy{X:Cx}{pins:List (Addr×Obj)}{σ:St}{H H':Hp}{s:Shared}{b:Addr}(I:Inv X pins σ H s)(hb:s.heap.objs.size<=b)(hn:H' b=none):iQ X pins H' b:=by
 refine⟨hn,Nat.ne_of_gt (Nat.lt_of_lt_of_le I.lt hb),I.aaY hb,.inr (Nat.le_trans I.sz hb),λx c e z=>?_,λp hp z=>?_⟩
 ·obtain⟨v,q⟩:=I.cell x c e
  exact absurd (Nat.lt_of_lt_of_le q.lt (by rw[z];exact hb)) (Nat.lt_irrefl _)
 ·exact absurd (Nat.lt_of_lt_of_le (Heap.lt_size (I.pin p hp).1) (by rw[z];exact hb)) (Nat.lt_irrefl _)
structure Turn(P:Program)(w:World)(K:PySem.W.Frag)(tg:Expr)(J:It)(fp:List Addr)(it:Addr)(tn:Nat->Heap->Prop):Prop where
 mem:it∈fp
 obj:∀i h,tn i h->∀b∈fp,∃o,h.get? b=some o/\∀v,o.data≠.cell v
 keep:∀i h h',tn i h->(∀b∈fp,∀o,h.get? b=some o->h'.get? b=some o)->tn i h'
 item:∀(X:Cx),X.prog=P->X.w=w->X.K=K->X.calm=true->∀(i:Nat) (pins:List (Addr×Obj)) (s:Shared) (σ:St) (H:Hp) (E:Value->Shared->Prop),Inv X pins σ H s->(∀b∈fp,iQ X pins H b)->tn i s.heap->J.go i H ->
  wpAny (model P w) X.A (pyNext (.ref it)) (λr s1=>∃u,r=some u /\
   wpAny (model P w) X.A (letOwnedTupleGo tg (.ref it) u) (λ_ s2=>∃x H',Inv X pins σ H' s2/\RelV x u/\J.Zy i H x H'/\tn (i+1) s2.heap/\∀b∈fp,H' b=none) E s1) E s
 done:∀(X:Cx),X.prog=P->X.w=w->X.K=K->X.calm=true->∀(i:Nat) (pins:List (Addr×Obj)) (s:Shared) (σ:St) (H:Hp) (E:Value->Shared->Prop),Inv X pins σ H s->(∀b∈fp,iQ X pins H b)->tn i s.heap->J.stop i H ->
  wpAny (model P w) X.A (pyNext (.ref it)) (λr s1=>r=none/\Inv X pins σ H s1) E s
 self:∀(A:Around) (i:Nat) (s:Shared) (Q:Value->Shared->Prop) (E:Value->Shared->Prop),tn i s.heap->Q (.ref it) s->wpAny (model P w) A (pyIter (.ref it)) Q E s
abbrev TI:=St->Hp->(It->Hp->Prop)->Prop
def PIE(X:Cx)(pins:List (Addr×Obj))(σ:St)(tg:Expr)(R:It->Hp->Prop)(ZX:Value)(s2:Shared):Prop:=
 ∃(it:Addr) (fp:List Addr) (tn:Nat->Heap->Prop) (J:It) (H':Hp),ZX=.ref it/\Inv X pins σ H' s2/\Turn X.prog X.w X.K tg J fp it tn/\tn 0 s2.heap/\(∀b∈fp,iQ X pins H' b)/\R J H'
def PI(X:Cx)(tg iter:Expr)(wi:TI):Prop:=
 ∀(pins:List (Addr×Obj)) (s:Shared) (σ:St) (H:Hp) (R:It->Hp->Prop),Inv X pins σ H s->wi σ H R ->
  wpAny (model X.prog X.w) X.A (eval iter X.env) (λv s1=>wpAny (model X.prog X.w) X.A (pyIter v) (PIE X pins σ tg R) X.xe s1) X.xe s
theorem DB{M:Model}{A:Around}{E:Value->Shared->Prop}{s:Shared}{tg:Expr}{it:Addr}{u:Value}{o:Obj}{n:String}{vs:Array Value}{Q:Unit->Shared->Prop}(ho:s.heap.get? it=some o)(hc:o.cls=.type n)(hd:o.data=.fields vs)
    (hn:["enumerate","zip","dict_itemiterator","dict_reverseitemiterator","odict_iterator","itertools.zip_longest","itertools.pairwise"].contains n=false) (hQ:Q () s):wpAny M A (letOwnedTupleGo tg (.ref it) u) Q E s:=by
  unfold letOwnedTupleGo;cases tg<;>first
    | exact wpAny_pure hQ
    | (cases u<;>first
        | exact wpAny_pure hQ
        | (refine wpAny_bind (wpAny_load ho ?_)
           rw[hc,hd];show wpAny M A (if(["enumerate","zip","dict_itemiterator","dict_reverseitemiterator","odict_iterator","itertools.zip_longest","itertools.pairwise"].contains n&&vs[0]?==some (rawInt _))=true then _ else _) Q E s
           rw[if_neg (by intro h;rw[hn,Bool.false_and]at h;cases h)]
           exact wpAny_pure hQ))
def Itl(K:PySem.W.Frag)(a:Addr):It:=
 ⟨λi H=>∃xs x,gE K H a xs/\xs[i]?=some x,λi H x H'=>H'=H/\∀xs,gE K H a xs->xs[i]?=some x,λi H=>∃xs,gE K H a xs/\xs.length<=i⟩
def Itt(K:PySem.W.Frag)(a:Addr):It:=
 ⟨λi H=>∃xs x,kW K H a xs/\xs[i]?=some x,λi H x H'=>H'=H/\∀xs,kW K H a xs->xs[i]?=some x,λi H=>∃xs,kW K H a xs/\xs.length<=i⟩
def U8(lo:Int)(n:Nat):It:=⟨λi _=>i<n,λi H x H'=>H'=H/\x=.int (lo+i),λi _=>n<=i⟩
theorem Bc{P:Program}{w:World}{K:PySem.W.Frag}{tg:Expr}(a it:Addr):Turn P w K tg (Itl K a) [it] it (λi h=>h.IsListIter it a i) where
 mem:=by simp
 obj:=λi h st b hb=>by
  have e:b=it:=by simpa using hb
  subst e;obtain⟨o,e,c,d⟩:=st;exact⟨o,e,λv z=>by rw[d]at z;cases z⟩
 keep:=λi h h' st k=>st.at λo e=>k it (by simp) o e
 item:=by
  intro X hP hw hK hc i pins s σ H E I hf st hg;subst hP hw hK;obtain⟨xs,x,hq,hx⟩:=hg;obtain⟨its,rv,p,hz⟩:=I.list hq;obtain⟨u,hu,ru⟩:=rv.get hx;obtain⟨f0,f1,f2,f3,f4,f5⟩:=hf it (by simp)
  refine wpAny_pyNext_list_item st p.isList (x:=u) (by simpa using hu) λh' ay sb=>?_
  have I1:Inv X pins σ H {s with heap:=h'}:=I.turned (t':=s.toks) (λb o hb e=>(sb.2 b hb).trans e) f0 f1 f3 f4 f5
  obtain⟨o,e,c,d⟩:=id ay;exact⟨u,rfl,DB (s:={s with heap:=h'}) e c d ∅ ⟨x,H,I1,ru,⟨rfl,λys hy=>by rw[I.vF hy hq];exact hx⟩,ay,λb hb=>(hf b hb).1⟩⟩
 done:=by
  intro X hP hw hK hc i pins s σ H E I hf st hg;subst hP hw hK;obtain⟨xs,hq,hx⟩:=hg;obtain⟨its,rv,p,hz⟩:=I.list hq;obtain⟨f0,f1,f2,f3,f4,f5⟩:=hf it (by simp)
  have hl:=rv.length;exact wpAny_pyNext_list_end (I.ok.hd hc) st p.isList (by simp;omega) λh' eb=>⟨rfl,I.turned (t':=s.toks) (λb o hb e=>eb b o hb e) f0 f1 f3 f4 f5⟩
 self:=λ_ _ _ _ _ st h=>wpAny_pyIter_listiter st h
theorem yj{P:Program}{w:World}{K:PySem.W.Frag}{tg:Expr}(a it:Addr):Turn P w K tg (Itt K a) [it] it (λi h=>h.IsTupleIter it a i) where
 mem:=by simp
 obj:=λi h st b hb=>by
  have e:b=it:=by simpa using hb
  subst e;obtain⟨o,e,c,d⟩:=st;exact⟨o,e,λv z=>by rw[d]at z;cases z⟩
 keep:=λi h h' st k=>st.at λo e=>k it (by simp) o e
 item:=by
  intro X hP hw hK hc i pins s σ H E I hf st hg;subst hP hw hK;obtain⟨xs,x,hq,hx⟩:=hg;obtain⟨its,rv,p,hz⟩:=I.tuple hq;obtain⟨u,hu,ru⟩:=rv.get hx;obtain⟨f0,f1,f2,f3,f4,f5⟩:=hf it (by simp)
  refine wpAny_pyNext_tuple_item st (show s.heap.IsTuple a its.toArray from p) (x:=u) (by simpa using hu) λh' ay sb=>?_
  have I1:Inv X pins σ H {s with heap:=h'}:=I.turned (t':=s.toks) (λb o hb e=>(sb.2 b hb).trans e) f0 f1 f3 f4 f5
  obtain⟨o,e,c,d⟩:=id ay;exact⟨u,rfl,DB (s:={s with heap:=h'}) e c d ∅ ⟨x,H,I1,ru,⟨rfl,λys hy=>by rw[I.qY hy hq];exact hx⟩,ay,λb hb=>(hf b hb).1⟩⟩
 done:=by
  intro X hP hw hK hc i pins s σ H E I hf st hg;subst hP hw hK;obtain⟨xs,hq,hx⟩:=hg;obtain⟨its,rv,p,hz⟩:=I.tuple hq;obtain⟨f0,f1,f2,f3,f4,f5⟩:=hf it (by simp)
  have hl:=rv.length;exact wpAny_pyNext_tuple_end (I.ok.hd hc) st (show s.heap.IsTuple a its.toArray from p) (by simp;omega) λh' eb=>⟨rfl,I.turned (t':=s.toks) (λb o hb e=>eb b o hb e) f0 f1 f3 f4 f5⟩
 self:=λ_ _ _ _ _ st h=>wpAny_pyIter_tupleiter st h
theorem yi{P:Program}{w:World}{K:PySem.W.Frag}{tg:Expr}(it:Addr)(lo:Int)(n:Nat):Turn P w K tg (U8 lo n) [it] it (λi h=>IsRangeIter h it (lo+(i:Nat)*1) ((n:Int)-(i:Nat)) 1) where
 mem:=by simp
 obj:=λi h st b hb=>by
  have e:b=it:=by simpa using hb
  subst e;exact⟨_,st,λv z=>by
   have z':Data.fields _=Data.cell v:=z;cases z'⟩
 keep:=λi h h' st k=>k it (by simp) _ st
 item:=by
  intro X hP hw hK hc i pins s σ H E I hf st hg;subst hP hw hK;obtain⟨f0,f1,f2,f3,f4,f5⟩:=hf it (by simp)
  have W:=Walks.range (prog:=X.prog) (w:=X.w) (I.ok.hd hc) it lo 1 n;refine W.item i s _ _ hg st λv h' tk hv ay kk=>?_;obtain⟨t,rfl⟩:=hv;have I1:Inv X pins σ H {s with heap:=h',toks:=tk}:=I.turned (λb o hb e=>kk b o (by simpa using hb) e) f0 f1 f3 f4 f5
  refine⟨_,rfl,DB (s:={s with heap:=h',toks:=tk}) (n:="range_iterator") ay rfl rfl ∅ ⟨.int (lo+i),H,I1,⟨t,?_⟩,⟨rfl,rfl⟩,ay,λb hb=>(hf b hb).1⟩⟩
  rw[Int.mul_one]
 done:=by
  intro X hP hw hK hc i pins s σ H E I hf st hg;subst hP hw hK;obtain⟨f0,f1,f2,f3,f4,f5⟩:=hf it (by simp)
  exact wpAny_pyNext_range_end (I.ok.hd hc) st (by have:n<=i:=hg;omega) λh' eb=>⟨rfl,I.turned (t':=s.toks) (λb o hb e=>eb b o hb e) f0 f1 f3 f4 f5⟩
 self:=λ_ _ _ _ _ st h=>wpAny_pyIter_rangeiter st h
end L2
namespace L2
open PySem PySem.Spec PyProof.Rows
section
variable {X:Cx}{tg:Expr}
theorem vW{pins:List (Addr×Obj)}{σ:St}{H:Hp}{s:Shared}{R:It->Hp->Prop}{E:Value->Shared->Prop}{lo hi:Int}{t u v:Tok}{tk:Nat}(I:Inv X pins σ H s)(h1:-(2^62)<=lo)(h2:lo<2^62)(h3:-(2^62)<=hi)(h4:hi<2^62)
  (q:R (U8 lo (hi-lo).toNat) H):wpAny (model X.prog X.w) X.A (pyIter (.ref s.heap.objs.size)) (PIE X pins σ tg R) E {s with heap:=s.heap.push {cls:=.type "range",data:=.fields #[.int lo t,.int hi u,.int 1 v]},toks:=tk}:=by
 refine wpAny_pyIter_range (IsRange.new ..) (small_one h1 h2 h3 h4) ?_;have I1:Inv X pins σ H {s with heap:=s.heap.push {cls:=.type "range",data:=.fields #[.int lo t,.int hi u,.int 1 v]},toks:=tk}:=I.kept λb o e=>Heap.get?_push_of_some _ e
 refine⟨(s.heap.push {cls:=.type "range",data:=.fields #[.int lo t,.int hi u,.int 1 v]}).objs.size,[(s.heap.push {cls:=.type "range",data:=.fields #[.int lo t,.int hi u,.int 1 v]}).objs.size],_,_,H,rfl,
  I1.kept (t':=tk) λb o e=>Heap.get?_push_of_some _ e,yi _ lo (hi-lo).toNat,?_,λb hb=>?_,q⟩
 ·have e1:lo+((0:Nat):Int)*1=lo:=by simp
  have e2:(((hi-lo).toNat:Nat):Int)-((0:Nat):Int)=Builtin.Range.rangeSize lo hi 1:=by rw[rangeSize_one];split<;>omega
  show IsRangeIter _ _ (lo+((0:Nat):Int)*1) ((((hi-lo).toNat:Nat):Int)-((0:Nat):Int)) 1;rw[e1,e2];exact Heap.get?_push_size _ rfl
 ·have e:b=(s.heap.push {cls:=.type "range",data:=.fields #[.int lo t,.int hi u,.int 1 v]}).objs.size:=by simpa using hb
  subst e;exact I1.Dy (Nat.le_refl _) (I1.bw.fresh (Nat.le_refl _))
def Xg(ta:TA):TI:=λσ H R=>ta σ H λvs H1=>∃j:Int,vs=[.int j]/\-(2^62)<=j/\j<2^62/\R (U8 0 j.toNat) H1
def Xh(ta:TA):TI:=λσ H R=>ta σ H λvs H1=>∃i j:Int,vs=[.int i,.int j]/\(-(2^62)<=i/\i<2^62/\-(2^62)<=j/\j<2^62)/\R (U8 i (j-i).toNat) H1
theorem AZ{a:Expr}{ta:TA}{p pos:Pos}(hg:Gl X "range")(hm:X.mg "range"=none)(ha:PA X [a] ta)(hs:starEach [a] X.env=[(false,eval a X.env)]:=by rfl):PI X tg (.Call (.Name "range" p) [a] [] pos) (Xg ta):=by
 intro pins s σ H R I h;refine Call_ (jo I hg hm boot_range (PyProof.Rows.callWith_type1 (cE (ha pos pins s σ H _ I h) λus s1 ⟨vs,H1,I1,r1,q1⟩=>?_) hs rfl));obtain⟨j,e,q1,q2,q⟩:=q1;subst e;cases r1 with
 | cons r rr =>
  cases rr;obtain⟨t,rfl⟩:=r;exact call_range_1 (vW I1 ⋯ ⋯ q1 q2 (by simpa using q))
theorem A0{a b:Expr}{ta:TA}{p pos:Pos}(hg:Gl X "range")(hm:X.mg "range"=none)(ha:PA X [a,b] ta)(hs:starEach [a,b] X.env=[(false,eval a X.env),(false,eval b X.env)]:=by rfl)(Bk:starEach [b] X.env=[(false,eval b X.env)]:=by rfl):
  PI X tg (.Call (.Name "range" p) [a,b] [] pos) (Xh ta):=by
 intro pins s σ H R I h;refine Call_ (jo I hg hm boot_range (PyProof.Rows.callWith_type1 (cE (ha pos pins s σ H _ I h) λus s1 ⟨vs,H1,I1,r1,q1⟩=>?_) (by rw[hs,Bk]) (by rw[Bk];rfl)))
 obtain⟨i,j,e,⟨q1,q2,q3,q4⟩,q⟩:=q1;subst e;cases r1 with
 | cons r rr =>
  cases rr with
  | cons r' rr =>
   cases rr;obtain⟨t,rfl⟩:=r;obtain⟨t',rfl⟩:=r';exact call_range_2 (vW I1 q1 q2 q3 q4 q)
def abi(wi:TI)(g:TG)(tb:TS):TS:=λD σ H=>wi σ H λJ H1=>∃W:Nat->Nat->St->Hp->Prop,(∃m,W 0 m σ H1)/\∀i m σ H,W i m σ H ->
 (J.stop i H/\D.nx σ H)\/(J.go i H/\∃N:St->Hp->Prop,(∀cq H',N cq H'->∃m',m'<m/\W (i+1) m' cq H')/\∀x H',J.Zy i H x H'->g x σ H' λaO H2=>tb {D with nx:=N,ct:=N,bk:=D.nx} aO H2)
def lN(fp:List Addr)(h:Heap):List (Addr×Obj):=fp.filterMap λb=>(h.get? b).map λo=>(b,o)
theorem eS{fp:List Addr}{h:Heap}{b:Addr}{o:Obj}(hb:b∈fp)(e:h.get? b=some o):(b,o)∈lN fp h:=List.mem_filterMap.mpr ⟨b,hb,by rw[e];rfl⟩
theorem AO{fp:List Addr}{h:Heap}{p:Addr×Obj}(hp:p∈lN fp h):p.1∈fp/\h.get? p.1=some p.2:=by
 obtain⟨b,hb,e⟩:=List.mem_filterMap.mp hp;cases q:h.get? b with
 | none=>rw[q]at e;cases e
 | some o =>
  rw[q]at e;have e':(b,o)=p:=Option.some.inj e;subst e';exact⟨hb,q⟩
theorem Inv.pinned{pins:List (Addr×Obj)}{σ:St}{H:Hp}{s:Shared}{fp:List Addr}(I:Inv X pins σ H s)(hf:∀b∈fp,iQ X pins H b)(ho:∀b∈fp,∃o,s.heap.get? b=some o/\∀v,o.data≠.cell v):Inv X (pins++lN fp s.heap) σ H s:=
 I.zo λp hp=>(List.mem_append.mp hp).elim (λz=>I.pin p (List.mem_append_right _ z)) λz=>by
  obtain⟨hb,e⟩:=AO z;obtain⟨f0,f1,f2,_⟩:=hf p.1 hb;obtain⟨o,e',d⟩:=ho p.1 hb;rw[e]at e';cases e';exact⟨e,f0,f1,f2,d⟩
theorem Inv.il{pins pl:List (Addr×Obj)}{σ:St}{H:Hp}{s:Shared}(I:Inv X (pins++pl) σ H s):Inv X pins σ H s:=I.zo λp hp=>I.pin p (List.mem_append_right _ (List.mem_append_left _ hp))
theorem RT{iter:Expr}{body:List Stmt}{wi:TI}{g:TG}{tb:TS}{pos:Pos}(hp:PassesOwn (model X.prog X.w) X.A X.env X.xe)(hc:X.calm=true)(hi:PI X tg iter wi)(hg:PG X tg g)(hb:ug X body tb)
  (hs:∀x,foldedSetIterable iter X.env x=pure x:=by intro _;rfl):PS X (.For tg iter body [] pos) (abi wi g tb):=by
 intro pins s σ H D I h;refine wpAny_For (cE (hi pins s σ H _ I h) λv s1 h1=>cE h1 λZX s2 h2=>?_) hs;obtain⟨it,fp,tn,J,H2,e,I2,T,A7,f2,W,⟨m0,w0⟩,turn⟩:=h2;subst e
 -- what stays true of the iterator's objects through the loop
 have stat:∀ {H':Hp},(∀b∈fp,H' b=none)->∀b∈fp,iQ X pins H' b:=λhn b hb=>⟨hn b hb,(f2 b hb).2⟩;refine codeAny_forLoop_any (λn s'=>∃i cq H',Inv X pins cq H' s'/\tn i s'.heap/\(∀b∈fp,H' b=none)/\W i n cq H') ?_ m0 ⟨0,σ,H2,I2,A7,λb hb=>(f2 b hb).1,w0⟩;rintro n s3 ⟨i,iu,H3,I3,st3,ZH,w3⟩;rcases turn i n iu H3 w3 with⟨stop,qn⟩|⟨go,N,hN,step⟩
 ·refine wpAny_passesOwn hp (cE (T.done X rfl rfl rfl hc i pins s3 iu H3 X.xe I3 (stat ZH) st3 stop) λr s4 ⟨hr,I4⟩=>?_)
  subst hr;exact wpAny_execs_nil ⟨iu,H3,I4,qn⟩
 ·refine wpAny_passesOwn hp (cE (T.item X rfl rfl rfl hc i pins s3 iu H3 X.xe I3 (stat ZH) st3 go) λr s4 ⟨u,hr,h4⟩=>?_)
  subst hr;refine wpAny_passesOwn hp (cE h4 λ_ s5 ⟨x,H5,I5,r5,y5,UN,N7⟩=>?_);have I5':=I5.pinned (stat N7) (T.obj _ _ UN);refine wpAny_passesOwn hp (cE (hg _ s5 iu H5 x u _ I5' r5 (step x H5 y5)) λ_ s6 ⟨σ6,H6,I6,q6⟩=>?_);refine wpAny_passesOwn hp (cE (hb _ s6 σ6 H6 _ I6 q6) λf s7 q7=>?_);have again:∀ {Bo:St} {H7:Hp},Inv X (pins++lN fp s5.heap) Bo H7 s7->N Bo H7->∃m,m<n/\∃i cq H',Inv X pins cq H' s7/\tn i s7.heap/\(∀b∈fp,H' b=none)/\W i m cq H':=λ{Bo H7} I7 n7=>by
   obtain⟨m',hm,w7⟩:=hN Bo H7 n7;refine⟨m',hm,i+1,Bo,H7,I7.il,T.keep _ _ _ UN λb hb o e=>(I7.pin (b,o) (List.mem_append_right _ (List.mem_append_right _ (eS hb e)))).1,λb hb=>?_,w7⟩;obtain⟨o,e,d⟩:=T.obj _ _ UN b hb;exact(I7.pin (b,o) (List.mem_append_right _ (List.mem_append_right _ (eS hb e)))).2.1
  cases f with
  | next=>obtain⟨Bo,H7,I7,n7⟩:=q7;exact again I7 n7
  | cont=>obtain⟨Bo,H7,I7,n7⟩:=q7;exact again I7 n7
  | brk=>obtain⟨Bo,H7,I7,q7⟩:=q7;exact⟨Bo,H7,I7.il,q7⟩
  | ret v=>obtain⟨x7,Bo,H7,I7,r7,q7⟩:=q7;exact⟨x7,Bo,H7,I7.il,r7,q7⟩
end
end L2
namespace L2
open PySem PySem.Spec PyProof.Rows
abbrev R2:=V->V->Hp->VK->Prop
def iR(X:Cx)(f:Value->Value->Sem Value)(r:R2):Prop:=
 ∀(pins:List (Addr×Obj)) (s:Shared) (σ:St) (H:Hp) (x y:V) (v u:Value) (Q:VK),Inv X pins σ H s->RelV x v->RelV y u->r x y H Q ->
  wpAny (model X.prog X.w) X.A (f v u) (EP X pins σ Q) X.xe s
def UnR(X:Cx)(f:Value->Sem Value)(r:V->Hp->VK->Prop):Prop:=
 ∀(pins:List (Addr×Obj)) (s:Shared) (σ:St) (H:Hp) (x:V) (v:Value) (Q:VK),Inv X pins σ H s->RelV x v->r x H Q ->
  wpAny (model X.prog X.w) X.A (f v) (EP X pins σ Q) X.xe s
def dW(X:Cx)(f:Value)(r:List V->Hp->VK->Prop):Prop:=
 ∀(pins:List (Addr×Obj)) (s:Shared) (σ:St) (H:Hp) (xs:List V) (us:List Value) (Q:VK),Inv X pins σ H s->Vals xs us->r xs H Q ->
  wpAny (model X.prog X.w) X.A (call f us) (EP X pins σ Q) X.xe s
def aae(X:Cx)(r:V->Hp->(Bool->Hp->Prop)->Prop):Prop:=
 ∀(pins:List (Addr×Obj)) (s:Shared) (σ:St) (H:Hp) (x:V) (v:Value) (Q:Bool->Hp->Prop),Inv X pins σ H s->RelV x v->r x H Q ->
  wpAny (model X.prog X.w) X.A (truthy v) (TP X pins σ Q) X.xe s
def TJ(r:R2)(ta tb:TE):TE:=λσ H Q=>ta σ H λx H1=>tb σ H1 λy H2=>r x y H2 Q
def tUn(r:V->Hp->VK->Prop)(ta:TE):TE:=λσ H Q=>ta σ H λx H1=>r x H1 Q
def rI(C:Int->Int->Prop)(g:Int->Int->V):R2:=λx y H Q=>∃i j,x=.int i/\y=.int j/\C i j/\Q (g i j) H
def GX(g:Int->Int->V):R2:=λx y H Q=>∃i j,x=.int i/\y=.int j/\Q (g i j) H
def rU(g:Int->V):V->Hp->VK->Prop:=λx H Q=>∃i,x=.int i/\Q (g i) H
section
variable {X:Cx}{a b c:Expr}{ta tb tc:TE}{pos:Pos}
theorem Mq(ha:PE X a ta)(hb:PE X b tb){pins:List (Addr×Obj)}{s:Shared}{σ:St}{H:Hp}{R:V->V->Hp->Prop}(I:Inv X pins σ H s)
  (h:ta σ H λx H1=>tb σ H1 λy H2=>R x y H2) {Q:Value->Shared->Prop} {f:Value->Value->Sem Value}
  (hf:∀v u s2 x y H2,Inv X pins σ H2 s2->RelV x v->RelV y u->R x y H2->wpAny (model X.prog X.w) X.A (f v u) Q X.xe s2):
  wpAny (model X.prog X.w) X.A (eval a X.env) (λv bN=>wpAny (model X.prog X.w) X.A (eval b X.env) (λu tZ=>wpAny (model X.prog X.w) X.A (f v u) Q X.xe tZ) X.xe bN) X.xe s:=by
 refine cE (ha pins s σ H _ I h) λv s1 ⟨x,H1,I1,r1,q1⟩=>?_;refine cE (hb pins s1 σ H1 _ I1 q1) λu s2 ⟨y,H2,I2,r2,q2⟩=>?_;exact hf v u s2 x y H2 I2 r1 r2 q2
theorem Ys{op:Operator}{r:R2}(ho:iR X (binaryOp op) r)(ha:PE X a ta)(hb:PE X b tb):PE X (.BinOp a op b pos) (TJ r ta tb):=by
 intro pins s σ H Q I h;exact wpAny_BinOp (Mq ha hb I h λv u s2 x y H2 I2 rx ry q=>ho pins s2 σ H2 x y v u Q I2 rx ry q)
theorem Yt{op:UnaryOp}{r:V->Hp->VK->Prop}(ho:UnR X (unaryOp op) r)(ha:PE X a ta):PE X (.UnaryOp op a pos) (tUn r ta):=by
 intro pins s σ H Q I h;exact UnaryOp_ (cE (ha pins s σ H _ I h) λv s1 ⟨x,H1,I1,r1,q1⟩=>ho pins s1 σ H1 x v Q I1 r1 q1)
theorem Z4{f:Value->Value->Sem Value}{C:Int->Int->Prop}{g:Int->Int->Int}
  (rule:∀(i j:Int) (t u:Tok) (s:Shared) (Q:Value->Shared->Prop) (E:Value->Shared->Prop),C i j->Q (.int (g i j) s.toks) {s with toks:=s.toks+1}->wpAny (model X.prog X.w) X.A (f (.int i t) (.int j u)) Q E s):
  iR X f (rI C λi j=>.int (g i j)):=by
 intro pins s σ H x y v u Q I rx ry h;obtain⟨i,j,rfl,rfl,hc,q⟩:=h;obtain⟨t,rfl⟩:=rx;obtain⟨t',rfl⟩:=ry;exact rule i j t t' s _ _ hc ⟨.int (g i j),H,I.tok _,⟨_,rfl⟩,q⟩
theorem X9{f:Value->Value->Sem Value}{g:Int->Int->Int}
  (rule:∀(i j:Int) (t u:Tok) (s:Shared) (Q:Value->Shared->Prop) (E:Value->Shared->Prop),Q (.int (g i j) s.toks) {s with toks:=s.toks+1}->wpAny (model X.prog X.w) X.A (f (.int i t) (.int j u)) Q E s):
  iR X f (GX λi j=>.int (g i j)):=by
 intro pins s σ H x y v u Q I rx ry h;obtain⟨i,j,rfl,rfl,q⟩:=h;obtain⟨t,rfl⟩:=rx;obtain⟨t',rfl⟩:=ry;exact rule i j t t' s _ _ ⟨.int (g i j),H,I.tok _,⟨_,rfl⟩,q⟩
theorem Iw{f:Value->Value->Sem Value}{g:Int->Int->Bool}
  (rule:∀(i j:Int) (t u:Tok) (s:Shared) (Q:Value->Shared->Prop) (E:Value->Shared->Prop),Q (.bool (g i j)) s->wpAny (model X.prog X.w) X.A (f (.int i t) (.int j u)) Q E s):
  iR X f (GX λi j=>.bl (g i j)):=by
 intro pins s σ H x y v u Q I rx ry h;obtain⟨i,j,rfl,rfl,q⟩:=h;obtain⟨t,rfl⟩:=rx;obtain⟨t',rfl⟩:=ry;exact rule i j t t' s _ _ ⟨.bl (g i j),H,I,rfl,q⟩
def ur(i j:Int):Prop:=0<j/\j<1073741824
def Bp(i j:Int):Prop:=0<=j/\j<=1000000/\i.natAbs<2^64
def kY(i j:Int):Prop:=(-(2^64)<i/\i<2^64)\/(-(2^64)<j/\j<2^64)
theorem kY.ok{i j:Int}(h:kY i j):IntMulOk i j:=by
 rcases h with⟨h1,h2⟩|⟨h1,h2⟩
 ·exact .of_left (intBits_le_64 h1 h2)
 ·exact .of_right (intBits_le_64 h1 h2)
theorem QL:iR X (binaryOp .Add) (GX λi j=>.int (i+j)):=X9 λ_ _ _ _ _ _ _ q=>add_int q
theorem QU:iR X (binaryOp .Sub) (GX λi j=>.int (i-j)):=X9 λ_ _ _ _ _ _ _ q=>sub_int q
theorem QQ:iR X (binaryOp .Mult) (rI kY λi j=>.int (i*j)):=Z4 λ_ _ _ _ _ _ _ hc q=>mul_int q hc.ok
theorem IA:iR X (binaryOp .FloorDiv) (rI ur λi j=>.int (i/j)):=Z4 λi j _ _ _ _ _ hc q=>by
 have h1:(0:Int)<j:=hc.1;have h2:j<1073741824:=hc.2;exact floordiv_int ⋯ (by rw[Int.fdiv_eq_ediv_of_nonneg i ⋯];exact q) (.inl (PyProof.noPylong_small ⋯))
theorem QP:iR X (binaryOp .Mod) (rI (λ_ j=>0<j) λi j=>.int (i%j)):=Z4 λi j _ _ _ _ _ hc q=>by
 have h1:(0:Int)<j:=hc;exact mod_int' ⋯ (by rw[Int.fmod_eq_emod_of_nonneg i ⋯];exact q)
theorem QT:iR X (binaryOp .Pow) (rI Bp λi j=>.int (i^j.toNat)):=Z4 λ_ _ _ _ _ _ _ hc q=>pow_int_small hc.1 hc.2.1 hc.2.2 q
theorem unI{f:Value->Sem Value}{g:Int->Int}
  (rule:∀(i:Int) (t:Tok) (s:Shared) (Q:Value->Shared->Prop) (E:Value->Shared->Prop),Q (.int (g i) s.toks) {s with toks:=s.toks+1}->wpAny (model X.prog X.w) X.A (f (.int i t)) Q E s):
  UnR X f (rU λi=>.int (g i)):=by
 intro pins s σ H x v Q I rx h;obtain⟨i,rfl,q⟩:=h;obtain⟨t,rfl⟩:=rx;exact rule i t s _ _ ⟨.int (g i),H,I.tok _,⟨_,rfl⟩,q⟩
theorem Ud:UnR X (unaryOp .USub) (rU λi=>.int (-i)):=unI λ_ _ _ _ _ q=>neg_int q
end
section
variable {X:Cx}{a b c:Expr}{ta tb tc:TE}{pos:Pos}
theorem N4{pins:List (Addr×Obj)}{σ:St}{H:Hp}{s:Shared}{Q:VK}{k k':Bool}(I:Inv X pins σ H s)(q:Q (.bl k) H)(e:k=k'):EP X pins σ Q (.bool k') s:=by
 subst e;exact⟨.bl k,H,I,rfl,q⟩
theorem Yd:iR X (compareOp .Lt) (GX λi j=>.bl (decide (i<j))):=Iw λ_ _ _ _ _ _ _ q=>lt_int q
theorem Yc:iR X (compareOp .LtE) (GX λi j=>.bl (decide (i<=j))):=Iw λ_ _ _ _ _ _ _ q=>le_int q
theorem Yb:iR X (compareOp .Gt) (GX λi j=>.bl (decide (j<i))):=Iw λ_ _ _ _ _ _ _ q=>gt_int q
theorem Ya:iR X (compareOp .GtE) (GX λi j=>.bl (decide (j<=i))):=Iw λ_ _ _ _ _ _ _ q=>ge_int q
theorem QO:iR X (compareOp .Is) (λx y H Q=>y=.aV/\Q (.bl (decide (x=.aV))) H):=by
 intro pins s σ H x y v u Q I rx ry h;obtain⟨rfl,q⟩:=h;cases ry;refine is_none_gen (N4 I q ?_);cases x<;>first
  | (cases rx;rfl)
  | (obtain⟨t,rfl⟩:=rx;rfl)
theorem iR.or{f:Value->Value->Sem Value}{r r':R2}(h:iR X f r)(h':iR X f r'):iR X f (λx y H Q=>r x y H Q\/r' x y H Q):=by
 intro pins s σ H x y v u Q I rx ry q;rcases q with q|q
 ·exact h pins s σ H x y v u Q I rx ry q
 ·exact h' pins s σ H x y v u Q I rx ry q
theorem sE(b:Expr){op:CmpOp}(h:op≠.In:=by decide)(h2:op≠.NotIn:=by decide):behindInMarks op b=false:=by
 have e1:(op==CmpOp.In)=false:=by cases op<;>first|rfl|exact absurd rfl h
 have e2:(op==CmpOp.NotIn)=false:=by cases op<;>first|rfl|exact absurd rfl h2
 cases b<;>simp [behindInMarks,e1,e2]
theorem IP{op:CmpOp}{r:R2}(ho:iR X (compareOp op) r)(ha:PE X a ta)(hb:PE X b tb)(hm:behindInMarks op b=false):PE X (.Compare a [op] [b] pos) (TJ r ta tb):=by
 intro pins s σ H Q I h;exact wpAny_Compare1 (Mq ha hb I h λv u s2 x y H2 I2 rx ry q=>ho pins s2 σ H2 x y v u Q I2 rx ry q) hm
def Zm(t:TE):TT:=λσ H Q=>t σ H λx H'=>∃k,x=.bl k/\Q k H'
theorem sM{op:CmpOp}{r:R2}(ho:iR X (compareOp op) r)(ha:PE X a ta)(hb:PE X b tb)(hm:behindInMarks op b=false):PT X (.Compare a [op] [b] pos) (Zm (TJ r ta tb)):=by
 intro pins s σ H Q I h;refine wpAny_isTrue_Compare1 (cE (ha pins s σ H _ I h) λv s1 ⟨x,H1,I1,r1,q1⟩=>cE (hb pins s1 σ H1 _ I1 q1) λu s2 ⟨y,H2,I2,r2,q2⟩ =>
  cE (ho pins s2 σ H2 x y v u _ I2 r1 r2 q2) λc s3 ⟨z,H3,I3,r3,k,e,q3⟩=>?_) hm
 subst e;cases r3;exact wpAny_truthy_bool ⟨H3,I3,q3⟩
def Va(K:PySem.W.Frag)(x:V)(H:Hp)(k:Bool):Prop:=
 match x with
 | .aV=>k=false
 | .bl b=>k=b
 | .int i=>k=(i != 0)
 | .str y=>y.length<=sizeLine/\k=((y.length:Int) != 0)
 | .Uq y=>y.size<=sizeLine/\k=((y.size:Int) != 0)
 | .ref p=>(∃xs,gE K H p xs/\k=!xs.isEmpty)\/(∃xs,kW K H p xs/\k=!xs.isEmpty)\/∃kvs,H p=some (.dK kvs)/\k=!kvs.isEmpty
 | _=>False
theorem xC{κ:Type}{kvs:List (κ×V)}{vs:List (κ×Value)}(r:KV kvs vs):(!vs.isEmpty)=!kvs.isEmpty:=by
 cases r<;>rfl
theorem oo{xs:List V}{its:List Value}(r:Vals xs its):(!its.toArray.isEmpty)=!xs.isEmpty:=by
 cases r<;>simp
theorem lM:(sizeLine:Nat)<2^63:=by rw[sizeLine_eq];decide
theorem Ua:aae X (λx H Q=>∃k,Va X.K x H k/\Q k H):=by
 intro pins s σ H x v Q I rx h;obtain⟨k,e,q⟩:=h;have hl:=lM;have hs:sizeLine=16777216:=sizeLine_eq;cases x with
 | aV =>
  cases rx;have e':k=false:=e;subst e';exact truthy_none ⟨H,I,q⟩
 | bl b =>
  cases rx;have e':k=b:=e;subst e';exact wpAny_truthy_bool ⟨H,I,q⟩
 | int i =>
  obtain⟨t,rfl⟩:=rx;have e':k=(i != 0):=e;subst e';exact PySem.P.truthy_int ⟨H,I,q⟩
 | str y =>
  obtain⟨t,rfl⟩:=rx;obtain⟨hy,e'⟩:y.length<=sizeLine/\k=((y.length:Int) != 0):=e;subst e';exact PySem.P.truthy_str ⋯ ⟨H,I.tok _,q⟩
 | Uq y =>
  obtain⟨t,rfl⟩:=rx;obtain⟨hy,e'⟩:y.size<=sizeLine/\k=((y.size:Int) != 0):=e;subst e';exact PySem.W.truthy_bytes ⋯ ⟨H,I.tok _,q⟩
 | ref p =>
  cases rx;have e':(∃xs,gE X.K H p xs/\k=!xs.isEmpty)\/(∃xs,kW X.K H p xs/\k=!xs.isEmpty)\/∃kvs,H p=some (.dK kvs)/\k=!kvs.isEmpty:=e;rcases e' with⟨xs,hx,e'⟩|⟨xs,hx,e'⟩|⟨kvs,hx,e'⟩
  ·subst e'
   obtain⟨its,r,pl,hz⟩:=I.list hx;have hlen:=r.length;exact wpAny_truthy_list pl.isList (by simp only[List.size_toArray];omega) ⟨H,I.tok _,by rw[oo r];exact q⟩
  ·subst e'
   obtain⟨its,r,pl,hz⟩:=I.tuple hx;have hlen:=r.length;exact truthy_tuple pl (by simp only[List.size_toArray];omega) ⟨H,I.tok _,by rw[oo r];exact q⟩
  ·subst e'
   obtain⟨hz,hS,vs,r,m⟩:kvs.length<=sizeLine/\(p==sysModules)=false/\∃vs,KV kvs vs/\s.heap.DictOf (cj X.prog X.w) p vs:=I.bw p _ hx;have hlen:kvs.length=vs.length:=Paired.length r;exact wpAny_truthy_dict hS m ⋯ ⟨H,I.tok _,by rw[xC r];exact q⟩
 | _=>exact(show False from e).elim
theorem E6(ha:PE X a ta)(he:∀whole,isTrue a X.env whole=(do let v <- whole;standAt a.pos;holding [v] (truthy v))):
  PT X a (λσ H Q=>ta σ H λx H'=>∃k,Va X.K x H' k/\Q k H'):=by
 intro pins s σ H Q I h;exact isTrue_plain (cE (ha pins s σ H _ I h) λv s1 ⟨x,H1,I1,r1,q1⟩=>Ua pins s1 σ H1 x v Q I1 r1 q1) (he _)
theorem xM:iR X (binaryOp .Add) (λx y H Q=>∃i j,x=.str i/\y=.str j/\i.length+j.length<=sizeLine/\Q (.str (i++j)) H):=by
 intro pins s σ H x y v u Q I rx ry h;obtain⟨i,j,rfl,rfl,hz,q⟩:=h;obtain⟨t,rfl⟩:=rx;obtain⟨t',rfl⟩:=ry;exact add_str (λt' tk=>⟨.str (i++j),H,I.tok _,⟨_,rfl⟩,q⟩) hz
theorem vals1{x:V}{us:List Value}(r:Vals [x] us):∃u,us=[u]/\RelV x u:=by
 cases r with
 | cons r1 r2=>cases r2;exact⟨_,rfl,r1⟩
theorem vals2{x y:V}{us:List Value}(r:Vals [x,y] us):∃u w',us=[u,w']/\RelV x u/\RelV y w':=by
 cases r with
 | cons r1 r2 =>
  cases r2 with
  | cons r3 r4=>cases r4;exact⟨_,_,rfl,r1,r3⟩
theorem B7:dW X (.builtin "abs") (λxs H Q=>∃i,xs=[.int i]/\Q (.int (if i<0 then -i else i)) H):=by
 intro pins s σ H xs us Q I r h;obtain⟨i,rfl,q⟩:=h;obtain⟨u,rfl,t,rfl⟩:=vals1 r;exact call_abs_int λu tk=>⟨.int (if i<0 then -i else i),H,I.tok _,⟨_,rfl⟩,q⟩
theorem Aa:dW X (.type "int") (λxs H Q=>(∃i,xs=[.int i]/\Q (.int i) H)\/∃k,xs=[.bl k]/\Q (.int (if k then 1 else 0)) H):=by
 intro pins s σ H xs us Q I r h;rcases h with⟨i,rfl,q⟩|⟨k,rfl,q⟩
 ·obtain⟨u,rfl,t,rfl⟩:=vals1 r
  exact call_int_int ⟨.int i,H,I,⟨_,rfl⟩,q⟩
 ·obtain⟨u,rfl,r1⟩:=vals1 r
  cases r1;exact call_int_bool ⟨.int (if k then 1 else 0),H,I.tok _,⟨_,rfl⟩,q⟩
end
end L2
namespace L2
open PySem PySem.Spec PyProof.Rows
structure wX(h:Heap)(x dx C:Addr)(mA:Str->Option Value):Prop where
 obj:h.get? x=some (PySem.W.instObj C dx)
 ns:h.Ns1 dx mA
 ne:dx≠x
theorem AG{h:Heap}{dx:Addr}{mA:Str->Option Value}(n:h.Ns1 dx mA):∃od,h.get? dx=some od/\∀name,PySem.W.lookIn name od=some (mA name):=by
 obtain⟨o,es,ep,ho,hd,hk,_,hm⟩:=n;refine⟨o,ho,λname=>?_⟩;have e:=hm name;unfold nsFind findBy at e;rw[<- Array.find?_toList]at e;unfold PySem.W.lookIn;rw[hd];dsimp only
 split
 ·rename_i y q
  rw[q]at e;exact congrArg some e
 ·rename_i q
  rw[q]at e;have a:es.toList.any (·.refKey)=false:=by
   rw[List.any_eq_false];intro y hy;obtain⟨z,t,aaA⟩:=hk y (Array.mem_toList_iff.mp hy);simp [DictEntry.refKey,aaA]
  have a':¬es.toList.any (·.refKey)=true:=by rw[a];exact Bool.false_ne_true
  rw[if_neg a'];exact congrArg some e
theorem wX.look{h:Heap}{x dx C:Addr}{mA:Str->Option Value}(I:wX h x dx C mA):∃od,PySem.W.InstAt h x (PySem.W.instObj C dx) C (some od)/\∀name,PySem.W.lookIn name od=some (mA name):=
 let ⟨od,ho,hl⟩:=AG I.ns
 ⟨od,⟨I.obj,rfl,rfl,ho⟩,hl⟩
section
variable {prog:Program}{w:World}{A:Around}{E:Value->Shared->Prop}{s:Shared}{K:PySem.W.Frag}{x dx C f:Addr}{mA:Str->Option Value}{name:Str}{v:Value}
theorem get_map{expr:Bool}{Q:Value->Shared->Prop}(X:K.In s.heap)(I:wX s.heap x dx C mA)(hg:PySem.W.plainGet K C name=true)(hh:PySem.W.hasDictIn K C=true)
  (ha:PySem.W.findIn K (.ref C) name=some none) (hv:mA name=some v) (Xd:PySem.W.handedIn v=true) (h:Q v {s with toks:=s.toks+1}):
  wpAny (model prog w) A (getAttr (.ref x) name expr) Q E s:=by
 obtain⟨od,J,hl⟩:=I.look;exact PySem.W.get_value X J (PySem.W.plainGet_of hg).1 (PySem.W.findObj_own hh ha rfl (by rw[hl,hv])) Xd h
theorem DA{pl:Sem Bool}{Q:Value×List Value->Shared->Prop}(X:K.In s.heap)(I:wX s.heap x dx C mA)(hg:PySem.W.plainGet K C name=true)
  (hf:PySem.W.findIn K (.ref C) name=some (some (.ref f))) (ht:PySem.W.isFn K (.ref f)=true) (hv:mA name=none) (h:Q (.ref f,[.ref x]) s):
  wpAny (model prog w) A (getMethod (.ref x) name pl) Q E s:=by
 obtain⟨od,J,hl⟩:=I.look;exact PySem.W.method_fn X J (PySem.W.plainGet_of hg).1 (PySem.W.plainGet_of hg).2 hf (beq_iff_eq.mp ht) (by show(PySem.W.lookIn name od).map (·.isSome)=some false;rw[hl,hv];rfl) h
theorem Ju{ns:List Str}{Q:Unit->Shared->Prop}(X:K.In s.heap)(I:wX s.heap x dx C mA)
  (hs:PySem.W.findIn K (.ref C) "__setattr__"=some (some (.builtin "object.__setattr__"))) (hp:PySem.W.plainOver K C=true) (ht:PySem.W.takerIn K C name=some none) (hh:PySem.W.hasDictIn K C=true)
  (hw:PySem.Within mA ns) (hsz:ns.length<=sizeLine)
  (h:∀h',wX h' x dx C (λy=>if y=name then some v else mA y)->Heap.SameBut dx s.heap h'->Q () {s with heap:=h',toks:=s.toks+2}):
  wpAny (model prog w) A (setAttr (.ref x) name v) Q E s:=by
 obtain⟨od,J,hl⟩:=I.look;refine PySem.W.set_plain X J hs (PySem.W.osa_open (s:={s with toks:=s.toks+1}) (r:=none) X J hp ht λb=>?_)
 obtain⟨cd,hc,yM⟩:=PySem.W.any_some hh;have hx:s.heap.get? x=some ⟨.ref C,some dx,.plain,#[]⟩:=I.obj;refine wpAny_bind (wpAny_pure (wpAny_bind (wpAny_bind (wpAny_loadPart hx (wpAny_bind (PySem.W.Looks.here (s:={s with toks:=s.toks+1}) (PySem.W.looks_clsIn X hc) ?_))))))
 rw[yM];refine wpAny_pure (a:=some dx) (wpAny_bind (wpAny_pure (wpAny_bind ?_)));refine wpAny_nsSet1 (s:={s with toks:=s.toks+1}) I.ns λh' Ot Bk=>?_
 obtain⟨oD,esD,epD,hoD,hdD,hcD⟩:=Ot.count (PySem.Within.cons name v hw);refine wpAny_bind (wpAny_lookBehind hoD (by rw[hdD];exact pastItsLine_dict (Nat.le_trans hcD (by rw[List.length_cons];omega))) ?_)
 exact wpAny_pure (h _ ⟨(Bk.2 _ (Ne.symm I.ne)).trans I.obj,Ot,I.ne⟩ Bk)
theorem Ek{R:Result->Shared->Prop}{vs:List Value}{kw:List (Str×Value)}(X:K.In s.heap)(hm:PySem.W.makesIn K C=true)
  (hi:PySem.W.findIn K (.ref C) "__init__"=some (some (.ref f))) (hf:PySem.W.typeIn K (.ref f)=some (.type "function"))
  (h:codeAny (model prog w) (A.under (.builtin "type.__call__" ⟨.ref C::vs,kw⟩)) (.call (.ref f) ⟨.ref (s.heap.objs.size+1)::vs,kw⟩) (PySem.W.InitBack (s.heap.objs.size+1) R)
   {s with heap:=(s.heap.push PySem.W.emptyDict).push (PySem.W.instObj C s.heap.objs.size)}):
  codeAny (model prog w) A (.call (.ref C) ⟨vs,kw⟩) R s:=by
 obtain⟨hh,g,d,t,os⟩:=s;exact PySem.W.make_core (PySem.W.makes_of X hm) (PySem.W.looks_findIn X hi) (λself=>PySem.W.bind_fn X self hf) (.inl rfl) h
end
def cS(f:Str)(v:V):List (Str×V)->List (Str×V)
 | []=>[(f,v)]
 | (g,x)::r=>if g=f then(g,v)::r else(g,x)::cS f v r
theorem mJ(f g:Str)(v:V):∀fs:List (Str×V),(cS f v fs).lookup g=if g=f then some v else fs.lookup g
 | []=>by
  show List.lookup g [(f,v)]=_
  by_cases h:g=f
  ·have hb:(g==f)=true:=beq_iff_eq.mpr h
   simp only[List.lookup,hb,if_pos h]
  ·have hb:(g==f)=false:=beq_eq_false_iff_ne.mpr h
   simp only[List.lookup,hb,if_neg h]
 | (k,x)::r=>by
  have ih:=mJ f g v r;rw[show cS f v ((k,x)::r)=(if k=f then(k,v)::r else(k,x)::cS f v r)from rfl]
  by_cases hk:k=f
  ·rw[if_pos hk]
   by_cases h:g=k
   ·have hb:(g==k)=true:=beq_iff_eq.mpr h
    simp only[List.lookup,hb,if_pos (h.trans hk)]
   ·have hb:(g==k)=false:=beq_eq_false_iff_ne.mpr h
    simp only[List.lookup,hb,if_neg (λe:g=f=>h (e.trans hk.symm))]
  ·rw[if_neg hk]
   by_cases h:g=k
   ·have hb:(g==k)=true:=beq_iff_eq.mpr h
    simp only[List.lookup,hb,if_neg (λe:g=f=>hk (h.symm.trans e))]
   ·have hb:(g==k)=false:=beq_eq_false_iff_ne.mpr h
    simp only[List.lookup,hb];exact ih
theorem lJ(f:Str)(v:V):∀fs:List (Str×V),f∈(cS f v fs).map (·.1)/\∀g,g∈fs.map (·.1)->g∈(cS f v fs).map (·.1)
 | []=>⟨by simp [cS],λg h=>by simp at h⟩
 | (k,x)::r=>by
  obtain⟨i1,i2⟩:=lJ f v r;rw[show cS f v ((k,x)::r)=(if k=f then(k,v)::r else(k,x)::cS f v r)from rfl]
  by_cases hk:k=f
  ·rw[if_pos hk]
   subst hk;exact⟨by simp,λg h=>by simpa using h⟩
  ·rw[if_neg hk]
   refine⟨?_,λg h=>?_⟩
   ·rw[List.map_cons]
    exact List.mem_cons_of_mem _ i1
   ·rw[List.map_cons]at h ⊢
    rcases List.mem_cons.mp h with e|e
    ·exact List.mem_cons.mpr (.inl e)
    ·exact List.mem_cons_of_mem _ (i2 g e)
theorem mH(f:Str)(v:V):∀fs:List (Str×V),(cS f v fs).length<=fs.length+1
 | []=>by simp [cS]
 | (k,x)::r=>by
  have ih:=mH f v r;rw[show cS f v ((k,x)::r)=(if k=f then(k,v)::r else(k,x)::cS f v r)from rfl]
  by_cases hk:k=f
  ·rw[if_pos hk,List.length_cons,List.length_cons];omega
  ·rw[if_neg hk,List.length_cons,List.length_cons];omega
theorem gN.some_of{v:V}{o:Option Value}(r:gN (some v) o):∃u,o=some u/\RelV v u:=by
 cases o with
 | none=>exact(show False from r).elim
 | some u=>exact⟨u,rfl,r⟩
theorem gN.none_of{o:Option Value}(r:gN none o):o=none:=by
 cases o with
 | none=>rfl
 | some u=>exact(show False from r).elim
theorem An{v:V}{u:Value}(r:RelV v u):PySem.W.handedIn u=true:=by
 cases v with
 | aV=>cases(show u=Value.none from r);rfl
 | bl b=>cases(show u=Value.bool b from r);rfl
 | int i=>obtain⟨t,e⟩:=(show∃t,u=Value.int i t from r);cases e;rfl
 | str x=>obtain⟨t,e⟩:=(show∃t,u=Value.str x t from r);cases e;rfl
 | Uq b=>obtain⟨t,e⟩:=(show∃t,u=Value.bytes b t from r);cases e;rfl
 | N6 b=>obtain⟨t,e⟩:=(show∃t,u=Value.float b t from r);cases e;rfl
 | ref a=>cases(show u=Value.ref a from r);rfl
 | ty n=>cases(show u=Value.type n from r);rfl
section
variable {P:Program}{w:World}{H H':Hp}{h h':Heap}{a C dx:Addr}{fs fs':List (Str×V)}
theorem nq(bw:fw P w H h)(e:H a=some (.ins C dx fs)):∃mA,wX h a dx C mA/\(∀f,gN (fs.lookup f) (mA f))/\PySem.Within mA (fs.map (·.1))/\fs.length<=1000/\H dx=some (.own a):=by
 obtain⟨d,z,ne,ob,mA,n,r,q⟩:=(show bW P w H h a (.ins C dx fs)from bw a _ e)
 exact⟨mA,⟨ob,n,ne⟩,r,q,z,d⟩
end
structure Br(K:PySem.W.Frag)(C:Addr):Prop where
 pg:PySem.W.plainGet K C Str.empty=true
 hd:PySem.W.hasDictIn K C=true
 po:PySem.W.plainOver K C=true
 sa:PySem.W.findIn K (.ref C) "__setattr__"=some (some (.builtin "object.__setattr__"))
theorem Br.get{K:PySem.W.Frag}{C:Addr}(c:Br K C)(f:Str):PySem.W.plainGet K C f=true:=c.pg
def je(K:PySem.W.Frag)(C:Addr)(f:Str):Prop:=PySem.W.findIn K (.ref C) f=some none
theorem je.Zq{K:PySem.W.Frag}{C:Addr}{f:Str}(n:je K C f):PySem.W.takerIn K C f=some none:=by
 unfold PySem.W.takerIn;rw[show PySem.W.findIn K (.ref C) f=some none from n]
 rfl
structure Meth(K:PySem.W.Frag)(C:Addr)(m:Str)(f:Addr):Prop where
 at_:PySem.W.findIn K (.ref C) m=some (some (.ref f))
 fn:PySem.W.isFn K (.ref f)=true
 kp:PySem.W.keepIn K (.ref f)=true
section
variable {X:Cx}{pins:List (Addr×Obj)}{σ:St}{H:Hp}{s:Shared}{a C dx:Addr}{fs:List (Str×V)}{f:Str}{v:V}{A:Around}{E:Value->Shared->Prop}
theorem xt{b:Bool}{Q:Value->Shared->Prop}(I:Inv X pins σ H s)(e:H a=some (.ins C dx fs))(c:Br X.K C)(n:je X.K C f)(l:fs.lookup f=some v)
  (h:∀u s',Inv X pins σ H s'->RelV v u->Q u s'):wpAny (model X.prog X.w) A (getAttr (.ref a) f b) Q E s:=by
 obtain⟨mA,O,r,_,_,_⟩:=nq I.bw e;obtain⟨u,hu,ru⟩:=gN.some_of (v:=v) (o:=mA f) (by rw[<- l];exact r f)
 exact get_map I.i7 O (c.get f) c.hd n hu (An ru) (h u _ (I.tok _) ru)
theorem jl{m:Str}{g:Addr}{pl:Sem Bool}{Q:Value×List Value->Shared->Prop}(I:Inv X pins σ H s)(e:H a=some (.ins C dx fs))(c:Br X.K C)(k:Meth X.K C m g)(l:fs.lookup m=none)
  (h:Q (.ref g,[.ref a]) s):wpAny (model X.prog X.w) A (getMethod (.ref a) m pl) Q E s:=by
 obtain⟨mA,O,r,_,_,_⟩:=nq I.bw e;have hn:mA m=none:=gN.none_of (by rw[<- l];exact r m)
 exact DA I.i7 O (c.get m) k.at_ k.fn hn h
theorem xW{y:V}{u:Value}{Q:Unit->Shared->Prop}(I:Inv X pins σ H s)(e:H a=some (.ins C dx fs))(c:Br X.K C)(n:je X.K C f)(hl:fs.length<1000)(ry:RelV y u)
  (h:∀s',Inv X pins σ (upd H a (.ins C dx (cS f y fs))) s'->Q () s'):wpAny (model X.prog X.w) A (setAttr (.ref a) f u) Q E s:=by
 obtain⟨mA,O,r,wi,_,ho⟩:=nq I.bw e;have hz:(fs.map (·.1)).length<=sizeLine:=by rw[List.length_map,sizeLine_eq];omega
 refine Ju I.i7 O c.sa c.po n.Zq c.hd wi hz λh' O' sb=>h _ ?_;have hd:∃o,h'.get? dx=some o:=let ⟨o,_,_,e',_⟩:=O'.ns;⟨o,e'⟩;refine I.write (x:=a) (e:=dx) (by rw[e];exact True.intro) (.inr ho) (λb q hb z=>(sb.2 b hb).trans z) hd ?_
 refine⟨by rw[aq O.ne];exact ho,?_,O.ne,O'.obj,_,O'.ns,λg=>?_,λg hg=>?_⟩
 ·have:=mH f y fs;omega
 ·show gN ((cS f y fs).lookup g) (if g=f then some u else mA g)
  rw[mJ]
  by_cases q:g=f
  ·rw[if_pos q,if_pos q];exact ry
  ·rw[if_neg q,if_neg q];exact r g
 ·by_cases q:g=f
  ·rw[q];exact(lJ f y fs).1
  ·refine(lJ f y fs).2 g (wi g λz=>hg ?_)
   show(if g=f then some u else mA g)=none
   rw[if_neg q];exact z
theorem Inv.made(I:Inv X pins σ H s):Inv X pins σ (upd (upd H s.heap.objs.size (.own (s.heap.objs.size+1))) (s.heap.objs.size+1) (.ins C s.heap.objs.size []))
  {s with heap:=(s.heap.push PySem.W.emptyDict).push (PySem.W.instObj C s.heap.objs.size)}:=by
 have e1:(s.heap.push PySem.W.emptyDict).get? s.heap.objs.size=some PySem.W.emptyDict:=Heap.get?_push_size s.heap rfl;have e2:((s.heap.push PySem.W.emptyDict).push (PySem.W.instObj C s.heap.objs.size)).get? (s.heap.objs.size+1)=some (PySem.W.instObj C s.heap.objs.size):=by
  have:=Heap.get?_push_size (s.heap.push PySem.W.emptyDict) (o:=PySem.W.instObj C s.heap.objs.size) rfl
  rwa [Heap.size_push]at this
 have e3:(s.heap.push PySem.W.emptyDict).Ns s.heap.objs.size (λ_=>none):=⟨PySem.W.emptyDict,#[],_,e1,rfl,(λe he=>absurd he (by simp)),λ_=>rfl⟩
 have I1:=I.laid (a:=s.heap.objs.size) (o:=.own (s.heap.objs.size+1)) (h':=s.heap.push PySem.W.emptyDict) (t':=s.toks) (λb u q=>Heap.get?_push_of_some _ q) (Nat.le_refl _) ⟨_,e1⟩;refine I1.laid (a:=s.heap.objs.size+1) (o:=.ins C s.heap.objs.size []) (t':=s.toks) (λb u q=>Heap.get?_push_of_some _ q) (Nat.le_of_eq (Heap.size_push _ _)) ?_;have ne:s.heap.objs.size≠s.heap.objs.size+1:=Nat.ne_of_lt (Nat.lt_succ_self _);refine⟨by rw[aq ne,az],Nat.zero_le _,ne,e2,λ_=>none,(Heap.Ns1.of_empty e3).at λo q=>Heap.get?_push_of_some _ q,λ_=>True.intro,λy hy=>absurd rfl hy⟩
theorem Ha{prog:Program}{w:World}{env:Env}{e:Expr}{f:Str}{pos:Pos}{s:Shared}{Q:Value->Shared->Prop}(hb:attributeBase e f env (eval e env)=eval e env)
  (h:wpAny (model prog w) A (eval e env) (λo bN=>wpAny (model prog w) A (getAttr o f true) Q E bN) E s):wpAny (model prog w) A (eval (.Attribute e f pos) env) Q E s:=
 Attribute_any_ h (by rw[arm_eval_Attribute,hb])
end
def abh(K:PySem.W.Frag)(ta:TE)(f:Str):TE:=λσ H Q=>ta σ H λx H1=>∃a C dx fs v,x=.ref a/\H1 a=some (.ins C dx fs)/\Br K C/\je K C f/\fs.lookup f=some v/\Q v H1
def abf(K:PySem.W.Frag)(ta tv:TE)(f:Str):TS:=λD σ H=>tv σ H λy H1=>ta σ H1 λx H2=>∃a C dx fs,x=.ref a/\H2 a=some (.ins C dx fs)/\Br K C/\je K C f/\fs.length<1000 /\
 D.nx σ (upd H2 a (.ins C dx (cS f y fs)))
section
variable {X:Cx}{o e value:Expr}{f:Str}{pos pos' yh:Pos}{ta tv:TE}
theorem sG(he:PE X e ta)(hb:attributeBase e f X.env (eval e X.env)=eval e X.env):PE X (.Attribute e f pos) (abh X.K ta f):=by
 intro pins s σ H Q I h;refine Ha hb (cE (he pins s σ H _ I h) λu s1 ⟨x,H1,I1,rx,a,C,dx,fs,v,ex,ea,c,n,l,q⟩=>?_);subst ex;obtain rfl:u=Value.ref a:=rx;exact xt I1 ea c n l λu' s2 I2 ru=>⟨v,H1,I2,ru,q⟩
theorem sL(ha:PE X o ta)(hv:PE X value tv)(hs:swapsWith value (some (.Attribute o f pos')) pos.line X.env=pure false):PS X (.Assign [.Attribute o f pos'] value pos) (abf X.K ta tv f):=by
 intro pins s σ H D I h;refine plainObj_wpAny_Assign_Attribute (cE (hv pins s σ H _ I h) λu s1 ⟨y,H1,I1,ry,q⟩=>cE (ha pins s1 σ H1 _ I1 q) λov s2 ⟨x,H2,I2,rx,a,C,dx,fs,ex,ea,c,n,l,q2⟩=>?_) hs;subst ex;obtain rfl:ov=Value.ref a:=rx;exact xW I2 ea c n l ry λs3 I3=>⟨σ,_,I3,q2⟩
def Jh:V->V->Hp->VK->Prop:=λx y H Q=>∃i j,x=.int i/\y=.int j/\Q (.int (i+j)) H
end
section
variable {X:Cx}{pins:List (Addr×Obj)}{σ:St}{H:Hp}{s:Shared}{A:Around}{E:Value->Shared->Prop}{Q:Value->Shared->Prop}{c:Value}{b:Bool}
inductive k7 (K:PySem.W.Frag)(H:Hp):V->Value->Prop where
 | aV:k7 K H .aV (.type "NoneType")
 | bl (x:Bool):k7 K H (.bl x) (.type "bool")
 | int (i:Int):k7 K H (.int i) (.type "int")
 | str (x:Str):k7 K H (.str x) (.type "str")
 | N6 (x:UInt64):k7 K H (.N6 x) (.type "float")
 | lst {a:Addr} {xs:List V} (e:H a=some (.lst xs)):k7 K H (.ref a) (.type "list")
 | rZ {a:Addr} {o:Obj} {xs:List V} (e:H a=some (.rZ o (.lst xs))):k7 K H (.ref a) (.type "list")
 | tup {a:Addr} {xs:List V} (e:H a=some (.tup xs)):k7 K H (.ref a) (.type "tuple")
 | dK {a:Addr} {kvs:List (Key×V)} (e:H a=some (.dK kvs)):k7 K H (.ref a) (.type "dict")
 | dT {a:Addr} {kvs:List (List Key×V)} (e:H a=some (.dT kvs)):k7 K H (.ref a) (.type "dict")
 | ins {a C dx:Addr} {fs:List (Str×V)} (e:H a=some (.ins C dx fs)) (cl:Br K C) (ha:PySem.W.findIn K (.ref C) "__class__"=some (some (.builtin "object.__class__")))
   (hn:PySem.W.specialIn K (.builtin "object.__class__") "__get__"=some (some (.builtin "getset_descriptor.__get__"))) (htk:PySem.W.takesIn K (.builtin "object.__class__")=some true)
   (hm:PySem.W.mroIn K C (.type "object")=some true):k7 K H (.ref a) (.ref C)
theorem Aw{x:V}{u t:Value}(I:Inv X pins σ H s)(rx:RelV x u)(ty:k7 X.K H x t)(e:PySem.W.kitOne X.K t c=some b)(h:∀tk,Q (.bool b) {s with toks:=tk}):
  wpAny (model X.prog X.w) A (call (.builtin "isinstance") [u,c]) Q E s:=by
 cases ty with
 | aV=>cases(show u=Value.none from rx);exact PySem.W.kia_one PySem.W.kitx_none I.i7 True.intro e (λz=>nomatch z) h
 | bl y=>cases(show u=Value.bool y from rx);exact PySem.W.kia_one PySem.W.kitx_bool I.i7 True.intro e (λz=>nomatch z) h
 | int i=>obtain⟨t,q⟩:=(show∃t,u=Value.int i t from rx);cases q;exact PySem.W.kia_one PySem.W.kitx_int I.i7 True.intro e (λz=>nomatch z) h
 | str y=>obtain⟨t,q⟩:=(show∃t,u=Value.str y t from rx);cases q;exact PySem.W.kia_one PySem.W.kitx_str I.i7 True.intro e (λz=>nomatch z) h
 | N6 y=>obtain⟨t,q⟩:=(show∃t,u=Value.float y t from rx);cases q;exact PySem.W.kia_one PySem.W.kitx_float I.i7 True.intro e (λz=>nomatch z) h
 | @lst a xs ea =>
  cases(show u=Value.ref a from rx)
  obtain⟨_,_,n,_,h1⟩:=(show bW X.prog X.w H s.heap a (.lst xs)from I.bw a _ ea)
  exact PySem.W.kia_one PySem.W.kitx_list I.i7 ⟨_,h1,rfl⟩ e (λz=>nomatch z) h
 | @rZ a ob xs ea =>
  cases(show u=Value.ref a from rx)
  obtain⟨_,_,_,n,_,h1⟩:=(show bW X.prog X.w H s.heap a (.rZ ob (.lst xs))from I.bw a _ ea)
  exact PySem.W.kia_one PySem.W.kitx_list I.i7 ⟨_,h1,rfl⟩ e (λz=>nomatch z) h
 | @tup a xs ea =>
  cases(show u=Value.ref a from rx)
  obtain⟨_,_,_,p⟩:=(show bW X.prog X.w H s.heap a (.tup xs)from I.bw a _ ea)
  obtain⟨o,h1,h2,_⟩:=p;exact PySem.W.kia_one PySem.W.kitx_tuple I.i7 ⟨o,h1,h2⟩ e (λz=>nomatch z) h
 | @dK a kvs ea =>
  cases(show u=Value.ref a from rx)
  obtain⟨_,_,vs,_,p⟩:=(show bW X.prog X.w H s.heap a (.dK kvs)from I.bw a _ ea)
  obtain⟨o,es,ep,h1,h2,_⟩:=p;exact PySem.W.kia_one PySem.W.kitx_dict I.i7 ⟨o,h1,h2.1⟩ e (λz=>nomatch z) h
 | @dT a kvs ea =>
  cases(show u=Value.ref a from rx)
  obtain⟨_,_,xs,_,o,es,ep,h1,h2,_⟩:=(show bW X.prog X.w H s.heap a (.dT kvs)from I.bw a _ ea)
  exact PySem.W.kia_one PySem.W.kitx_dict I.i7 ⟨o,h1,h2.1⟩ e (λz=>nomatch z) h
 | @ins a C dx fs ea cl ha hn htk hm =>
  cases(show u=Value.ref a from rx)
  obtain⟨mA,O,_⟩:=nq I.bw ea;obtain⟨od,J,_⟩:=O.look;exact PySem.W.kia_one (PySem.W.kitx_own (cl.get _) cl.hd ha hn htk hm) I.i7 J e (λz=>nomatch z) h
end
end L2
namespace L2
open PySem PySem.Spec PyProof.Rows
structure eJ(k:Nat)(A:Around):Prop where
 hd:A.handled=none
 dp:A.depth+3*k+5<recursionLimit
 un:A.units+16*k+200<cLine
theorem eJ.mono{j k:Nat}{A:Around}(r:eJ k A)(h:j<=k):eJ j A:=⟨r.hd,by have:=r.dp;omega,by have:=r.un;omega⟩
theorem eJ.deeper{k:Nat}{A:Around}(r:eJ (k+1) A)(env:Env):eJ k (A.deeper env):=
 ⟨r.hd,by have:=r.dp;show A.depth+1+3*k+5<_;omega,by have:=r.un;show A.units+3+16*k+200<_;omega⟩
theorem xG{A:Around}{C:Addr}{us:List Value}{kw:List (Str×Value)}:(A.under (.builtin "type.__call__" ⟨.ref C::us,kw⟩)).depth=A.depth+1:=by
 first|rfl|simp [Around.under,Code.weight,Code.isCreation,Code.isGuard,Code.isCaller,Code.frames,Code.isFrame,guardIds]
theorem xH{A:Around}{C:Addr}{us:List Value}{kw:List (Str×Value)}:(A.under (.builtin "type.__call__" ⟨.ref C::us,kw⟩)).units=A.units+1:=by
 first|rfl|simp [Around.under,Code.cUnits,Code.frames,Code.isFrame]
theorem eJ.make{k:Nat}{A:Around}(r:eJ (k+1) A)(C:Addr)(us:List Value)(kw:List (Str×Value)):eJ k (A.under (.builtin "type.__call__" ⟨.ref C::us,kw⟩)):=
 ⟨r.hd,by have:=r.dp;rw[xG];omega,by have:=r.un;rw[xH];omega⟩
theorem eJ.depth{k:Nat}{A:Around}(r:eJ k A):A.depth<recursionLimit:=by have:=r.dp;omega
def pT:TA:=λ_ H Q=>Q [] H
def jc(ta:TE)(tr:TA):TA:=λσ H Q=>ta σ H λx H1=>tr σ H1 λxs H2=>Q (x::xs) H2
section
variable {X:Cx}{e:Expr}{es:List Expr}{te:TE}{t:TA}{pos:Pos}
theorem g0:PA X [] pT:=λ_ _ _ _ H Q I h=>Calls.spliced_nil ⟨[],H,I,.nil,h⟩
theorem cV(ha:PE X e te)(hr:PA X es t)(hs:starEach (e::es) X.env=(false,eval e X.env)::starEach es X.env:=by rfl):PA X (e::es) (jc te t):=by
 intro pos pins s σ H Q I h;rw[hs];show wpAny _ _ (spliced ((false,eval e X.env)::backTo pos (starEach es X.env))) _ _ s;refine Calls.spliced_cons (cE (ha pins s σ H _ I h) λu s1 ⟨x,H1,I1,r1,q1⟩=>?_);exact cE (hr pos pins s1 σ H1 _ I1 q1) λus s2 ⟨xs,H2,I2,r2,q2⟩=>⟨x::xs,H2,I2,.cons r1 r2,q2⟩
def abo(t:TA):TE:=λσ H Q=>t σ H λxs H1=>xs.length<=sizeLine/\∀p,H1 p=none->Q (.ref p) (upd H1 p (.tup xs))
def abk(t:TA):TE:=λσ H Q=>t σ H λxs H1=>xs.length<=sizeLine/\∀p,H1 p=none->Q (.ref p) (upd H1 p (.lst xs))
theorem Rj{x1}(h:PA X es t):PE X (.Tuple es x1 pos) (abo t):=by
 intro pins s σ H Q I hq;refine wpAny_Tuple_spliced (cE (h pos pins s σ H _ I hq) λus s1 ⟨xs,H1,I1,r,z,q⟩=>⟨by rw[<- r.length];exact z,?_⟩)
 have hf:H1 s1.heap.objs.size=none:=I1.bw.fresh (Nat.le_refl _);refine⟨.ref s1.heap.objs.size,upd H1 s1.heap.objs.size (.tup xs),I1.laid (t':=s1.toks) (λb u e=>Heap.get?_push_of_some _ e) (Nat.le_refl _) ?_,rfl,q _ hf⟩;exact⟨z,us,r,⟨_,Heap.get?_push_size _ rfl,rfl,_,rfl⟩⟩
theorem Rf(h:PA X es t):PE X (.List es pos) (abk t):=by
 intro pins s σ H Q I hq;refine wpAny_List_spliced (cE (h pos pins s σ H _ I hq) λus s1 ⟨xs,H1,I1,r,z,q⟩=>⟨by rw[<- r.length];exact z,?_⟩)
 have hf:H1 s1.heap.objs.size=none:=I1.bw.fresh (Nat.le_refl _);refine⟨.ref s1.heap.objs.size,upd H1 s1.heap.objs.size (.lst xs),I1.laid (t':=s1.toks) (λb u e=>Heap.get?_push_of_some _ e) (Nat.le_refl _) ?_,rfl,q _ hf⟩;exact⟨z,us,0,r,Heap.get?_push_size _ rfl⟩
end
abbrev Sp:=List V->Hp->VK->XK->Prop
abbrev yk:=List Env->Hp->Shared->XK->Value->Shared->Prop
structure wV(P:Program)(w:World)(K:PySem.W.Frag)(mg:Str->Option Value)(base:Heap)(A:Around)(outer:List Env)(s:Shared)(H:Hp):Prop where
 frames:A.frames=some outer
 mod:Mod K mg base
 bs:∀b o,base.get? b=some o->s.heap.get? b=some o/\H b=none
 zZ:base.objs.size<=s.heap.objs.size
 jk:s.heap.FunFrames base outer
 GK:∀b∈jH outer,H b=none
 bw:fw P w H s.heap
 bare:AllBare s.gens
def CE(outer:List Env)(P:Program)(w:World)(H:Hp)(s:Shared)(Q:VK)(u:Value)(s':Shared):Prop:=
 ∃v H',s'.os=s.os/\AllBare s'.gens/\Un (jH outer) [] H H' s.heap s'.heap/\fw P w H' s'.heap/\RelV v u/\Q v H'
def CR(CX:yk)(outer:List Env)(P:Program)(w:World)(H:Hp)(s:Shared)(Q:VK)(E:XK)(r:Result)(s':Shared):Prop:=
 match r with
 | .ok (.ret u)=>CE outer P w H s Q u s'
 | .ok _=>False
 | .error e=>CX outer H s E e s'
structure cm(P:Program)(w:World)(K:PySem.W.Frag)(mg:Str->Option Value)(base:Heap)(CX:yk)(k:Nat)(f:Addr)(fd:FuncData)(ps:List Str)(sp:Sp):Prop where
 len:∀vs H Q E,sp vs H Q E->vs.length=ps.length
 run:∀(A:Around) (outer:List Env) (s:Shared) (H:Hp) (args:Args) (us:List Value) (vs:List V) (Q:VK) (E:XK),eJ k A->wV P w K mg base A outer s H->BindsTo s fd args (ps.zip us)->Vals vs us->sp vs H Q E ->
  codeAny (model P w) A (.call (.ref f) args) (CR CX outer P w H s Q E) s
theorem cm.mono{P:Program}{w:World}{K:PySem.W.Frag}{mg:Str->Option Value}{base:Heap}{CX:yk}{j k:Nat}{f:Addr}{fd:FuncData}{ps:List Str}{sp:Sp}(F:cm P w K mg base CX j f fd ps sp)(h:j<=k):
  cm P w K mg base CX k f fd ps sp:=⟨F.len,λA outer s H args us vs Q E hr=>F.run A outer s H args us vs Q E (hr.mono h)⟩
theorem cm.imp{P:Program}{w:World}{K:PySem.W.Frag}{mg:Str->Option Value}{base:Heap}{CX:yk}{k:Nat}{f:Addr}{fd:FuncData}{ps:List Str}{sp sp':Sp}(F:cm P w K mg base CX k f fd ps sp)
  (h:∀vs H Q E,sp' vs H Q E->sp vs H Q E):cm P w K mg base CX k f fd ps sp':=
 ⟨λvs H Q E q=>F.len vs H Q E (h _ _ _ _ q),λA outer s H args us vs Q E hr he hb hv hs=>F.run A outer s H args us vs Q E hr he hb hv (h _ _ _ _ hs)⟩
theorem wV.make{P:Program}{w:World}{K:PySem.W.Frag}{mg:Str->Option Value}{base:Heap}{A:Around}{outer:List Env}{s:Shared}{H:Hp}(e:wV P w K mg base A outer s H)(C:Addr)(us:List Value)(kw:List (Str×Value)):
  wV P w K mg base (A.under (.builtin "type.__call__" ⟨.ref C::us,kw⟩)) outer s H:=⟨by first|exact e.frames | (simpa [Around.under,Code.envs,Code.isFrame,pushEnvs]using e.frames),e.mod,e.bs,e.zZ,e.jk,e.GK,e.bw,e.bare⟩
section
variable {X:Cx}{pins:List (Addr×Obj)}{σ:St}{H:Hp}{s s':Shared}
theorem Inv.Ht(I:Inv X pins σ H s):wV X.prog X.w X.K X.mg X.base X.A X.stack s H:=
 ⟨I.ok.frames,I.ok.mod,I.bs,Nat.le_trans I.ok.zZ I.sz,I.stack,I.kO,I.bw,I.bare⟩
theorem Inv.after{Q:VK}{u:Value}(I:Inv X pins σ H s)(h:CE X.stack X.prog X.w H s Q u s'):EP X pins σ Q u s':=by
 obtain⟨v,H',os,bare,un,bw,r,q⟩:=h;obtain⟨hh,g,d,t,os'⟩:=s';obtain rfl:os'=s.os:=os;exact⟨v,H',I.call (h':=hh) (g':=g) (d':=d) (t':=t) (ch:=[]) un bw bare (λb z=>absurd z (by simp)),r,q⟩
end
def Ze(sp:Sp)(dvs:List V)(E:XK)(t:TA):TE:=λσ H Q=>t σ H λvs H1=>sp (vs++dvs) H1 Q E
def qX(C:Addr)(m:Str)(sp:Sp)(dvs:List V)(E:XK)(ta:TE)(t:TA):TE:=λσ H Q=>ta σ H λx H1=>∃a dx fs,x=.ref a/\H1 a=some (.ins C dx fs)/\fs.lookup m=none /\
 t σ H1 λvs H2=>sp (x::(vs++dvs)) H2 Q E
def Zh(C:Addr)(sp:Sp)(dvs:List V)(E:XK)(t:TA):TE:=λσ H Q=>t σ H λvs H1=>∀x dx,H1 x=none->H1 dx=none->dx≠x ->
 sp (.ref x::(vs++dvs)) (upd (upd H1 dx (.own x)) x (.ins C dx [])) (λv H2=>v=.aV/\Q (.ref x) H2) E
def Binds(K:PySem.W.Frag)(fd:FuncData)(ps:List Str)(ds:List Value):Prop:=
 ∀(s:Shared) (us:List Value),K.In s.heap->(us++ds).length=ps.length->BindsTo s fd ⟨us,[]⟩ (ps.zip (us++ds))
theorem Binds.all{K:PySem.W.Frag}{fd:FuncData}{ps:List Str}(h:∀us:List Value,us.length=ps.length->bindArgs fd ⟨us,[]⟩=pure (ps.zip us)):Binds K fd ps []:=λs us _ hl=>by
 rw[List.append_nil]at hl ⊢;exact .of_eq (h us hl)
def Passes(CX:yk)(X:Cx)(E:XK):Prop:=∀(pins:List (Addr×Obj)) (σ:St) (H:Hp) (s:Shared) (e:Value) (s':Shared),Inv X pins σ H s->CX X.stack H s E e s'->X.xe e s'
section
variable {X:Cx}{CX:yk}{k:Nat}{f C:Addr}{fd:FuncData}{ps:List Str}{sp:Sp}{dvs:List V}{ds:List Value}{E:XK}{x m:Str}{p pos apos:Pos}{e o:Expr}{es:List Expr}{ta:TE}{t:TA}
theorem xV{pins:List (Addr×Obj)}{σ:St}{H:Hp}{s:Shared}{Q:VK}{us:List Value}{vs:List V}(F:cm X.prog X.w X.K X.mg X.base CX k f fd ps sp)(hr:eJ k X.A)(hb:Binds X.K fd ps ds)(hd:Vals dvs ds)(hx:Passes CX X E)
  (I:Inv X pins σ H s) (r:Vals vs us) (h:sp (vs++dvs) H Q E):wpAny (model X.prog X.w) X.A (call (.ref f) us) (EP X pins σ Q) X.xe s:=by
 have r2:Vals (vs++dvs) (us++ds):=r.append hd;have hl:(us++ds).length=ps.length:=by rw[<- r2.length];exact F.len _ _ _ _ h
 refine wpAny_call (codeAny_mono (F.run X.A X.stack s H ⟨us,[]⟩ (us++ds) (vs++dvs) Q E hr I.Ht (hb s us I.i7 hl) r2 h) λr s' hq=>?_);cases r with
 | error e=>exact hx pins σ H s e s' I hq
 | ok fl =>
  cases fl with
  | ret u=>exact I.after hq
  | next=>exact False.elim hq
  | brk=>exact False.elim hq
  | cont=>exact False.elim hq
theorem zi(F:cm X.prog X.w X.K X.mg X.base CX k f fd ps sp)(hr:eJ k X.A)(hg:Gl X x)(hm:X.mg x=some (.ref f))(hk:PySem.W.keepIn X.K (.ref f)=true)(hb:Binds X.K fd ps ds)(hd:Vals dvs ds)(hx:Passes CX X E)
  (ha:PA X (e::es) t) (lA:(x==("__debug__":Str))=false:=by decide) (he:starEach (e::es) X.env=(false,eval e X.env)::starEach es X.env:=by rfl) (de:(backTo pos (starEach es X.env)).any (·.1)=false:=by rfl):
  PE X (.Call (.Name x p) (e::es) [] pos) (Ze sp dvs E t):=by
 intro pins s σ H Q I h;refine wpAny_Call_Name_kw (iE I hg hm ?_ lA);refine PySem.W.callWith_K (h₀:=X.base) I.ok.mod.yW hk (cE (ha pos pins s σ H _ I h) λus s1 ⟨vs,H1,I1,r,q⟩=>⟨I1.i7,?_⟩) he de;exact xV F hr hb hd hx I1 r q
theorem zl{pl:Sem Bool}(he:PE X o ta)(c:Br X.K C)(hm:Meth X.K C m f)(F:cm X.prog X.w X.K X.mg X.base CX k f fd ps sp)(hr:eJ k X.A)(hb:Binds X.K fd ps ds)(hd:Vals dvs ds)(hx:Passes CX X E)(ha:PA X (e::es) t)
  (pN:starEach (e::es) X.env=(false,eval e X.env)::starEach es X.env:=by rfl) (de:(backTo pos (starEach es X.env)).any (·.1)=false:=by rfl)
  (ht:eval (.Call (.Attribute o m apos) (e::es) [] pos) X.env=(do
   let ov <- eval o X.env
   standAt apos.atName
   let (f,first) <- holding [ov] (getMethod ov m pl)
   callWith pos f first (backTo pos (starEach (e::es) X.env)) (backToKw pos (keywordEach [] X.env))):=by rfl):
  PE X (.Call (.Attribute o m apos) (e::es) [] pos) (qX C m sp dvs E ta t):=by
 intro pins s σ H Q I h;refine PySem.W.methodCall_KW (pl:=pl) (cE (he pins s σ H _ I h) λu s1 ⟨x,H1,I1,rx,a,dx,fs,ex,ea,l,q⟩=>?_) ht;subst ex;obtain rfl:u=Value.ref a:=rx;refine jl I1 ea c hm l ?_;refine PySem.W.callWith_K (first:=[.ref a]) (h₀:=X.base) I.ok.mod.yW hm.kp (cE (ha pos pins s1 σ H1 _ I1 q) λus s2 ⟨vs,H2,I2,r,q2⟩=>⟨I2.i7,?_⟩) pN de
 exact xV (us:=.ref a::us) (vs:=.ref a::vs) F hr hb hd hx I2 (.cons rfl r) q2
theorem vT{pl:Sem Bool}(he:PE X o ta)(c:Br X.K C)(hm:Meth X.K C m f)(F:cm X.prog X.w X.K X.mg X.base CX k f fd ps sp)(hr:eJ k X.A)(hb:Binds X.K fd ps ds)(hd:Vals dvs ds)(hx:Passes CX X E)
  (ht:eval (.Call (.Attribute o m apos) [] [] pos) X.env=(do
   let ov <- eval o X.env
   standAt apos.atName
   let (f,first) <- holding [ov] (getMethod ov m pl)
   callWith pos f first (backTo pos (starEach [] X.env)) (backToKw pos (keywordEach [] X.env))):=by rfl):
  PE X (.Call (.Attribute o m apos) [] [] pos) (qX C m sp dvs E ta pT):=by
 intro pins s σ H Q I h;refine PySem.W.methodCall_KW (pl:=pl) (cE (he pins s σ H _ I h) λu s1 ⟨x,H1,I1,rx,a,dx,fs,ex,ea,l,q⟩=>?_) ht;subst ex;obtain rfl:u=Value.ref a:=rx;refine jl I1 ea c hm l ?_;exact PySem.W.callWith_K0 (first:=[.ref a]) I1.i7 hm.kp (xV (us:=[.ref a]) (vs:=[.ref a]) F hr hb hd hx I1 (.cons rfl .nil) q)
structure Mk(K:PySem.W.Frag)(C f:Addr):Prop where
 makes:PySem.W.makesIn K C=true
 init:PySem.W.findIn K (.ref C) "__init__"=some (some (.ref f))
 fn:PySem.W.isFn K (.ref f)=true
 kp:PySem.W.keepIn K (.ref C)=true
theorem Fl{pins:List (Addr×Obj)}{σ:St}{H:Hp}{s:Shared}{Q:VK}{us:List Value}{vs:List V}(M:Mk X.K C f)(F:cm X.prog X.w X.K X.mg X.base CX k f fd ps sp)(hr:eJ (k+1) X.A)(hb:Binds X.K fd ps ds)(hd:Vals dvs ds)
  (hx:Passes CX X E) (I:Inv X pins σ H s) (r:Vals vs us)
  (h:∀x dx,H x=none->H dx=none->dx≠x->sp (.ref x::(vs++dvs)) (upd (upd H dx (.own x)) x (.ins C dx [])) (λv H2=>v=.aV/\Q (.ref x) H2) E):
  wpAny (model X.prog X.w) X.A (call (.ref C) us) (EP X pins σ Q) X.xe s:=by
 have hq:=h (s.heap.objs.size+1) s.heap.objs.size (I.bw.fresh (Nat.le_succ _)) (I.bw.fresh (Nat.le_refl _)) (Nat.ne_of_lt (Nat.lt_succ_self _));have I2:=Inv.made (C:=C) I;have r2:Vals (V.ref (s.heap.objs.size+1)::(vs++dvs)) (Value.ref (s.heap.objs.size+1)::(us++ds)):=.cons rfl (r.append hd);have hl:(Value.ref (s.heap.objs.size+1)::us++ds).length=ps.length:=by
  have e:=r2.length;rw[F.len _ _ _ _ hq]at e;exact e.symm
 refine wpAny_call (Ek (f:=f) I.i7 M.makes M.init (beq_iff_eq.mp M.fn) (codeAny_mono (F.run _ X.stack _ _ ⟨Value.ref (s.heap.objs.size+1)::us,[]⟩ (Value.ref (s.heap.objs.size+1)::(us++ds)) _ _ E (hr.make C us [])
  (I2.Ht.make C us []) (hb _ (Value.ref (s.heap.objs.size+1)::us) I2.i7 hl) r2 hq) λr s' Xa=>?_))
 cases r with
 | error e=>exact hx pins σ _ _ e s' I2 Xa
 | ok fl =>
  cases fl with
  | ret u =>
   obtain⟨v,H',I3,rv,ev,q3⟩:=I2.after Xa;subst ev;exact⟨rv,⟨V.ref (s.heap.objs.size+1),H',I3,rfl,q3⟩⟩
  | next=>exact False.elim Xa
  | brk=>exact False.elim Xa
  | cont=>exact False.elim Xa
theorem IU(M:Mk X.K C f)(F:cm X.prog X.w X.K X.mg X.base CX k f fd ps sp)(hr:eJ (k+1) X.A)(hg:Gl X x)(hm:X.mg x=some (.ref C))(hb:Binds X.K fd ps ds)(hd:Vals dvs ds)(hx:Passes CX X E)
  (ha:PA X (e::es) t) (lA:(x==("__debug__":Str))=false:=by decide) (he:starEach (e::es) X.env=(false,eval e X.env)::starEach es X.env:=by rfl) (de:(backTo pos (starEach es X.env)).any (·.1)=false:=by rfl):
  PE X (.Call (.Name x p) (e::es) [] pos) (Zh C sp dvs E t):=by
 intro pins s σ H Q I h;refine wpAny_Call_Name_kw (iE I hg hm ?_ lA);refine PySem.W.callWith_K (h₀:=X.base) I.ok.mod.yW M.kp (cE (ha pos pins s σ H _ I h) λus s1 ⟨vs,H1,I1,r,q⟩=>⟨I1.i7,?_⟩) he de;exact Fl M F hr hb hd hx I1 r q
end
def PK(X:Cx)(Xx:List Keyword)(t:TA):Prop:=
 ∀(pos:Pos) (pins:List (Addr×Obj)) (s:Shared) (σ:St) (H:Hp) (Q:List V->Hp->Prop),Inv X pins σ H s->t σ H Q->wpAny (model X.prog X.w) X.A (evalAll ((backToKw pos (keywordEach Xx X.env)).map (·.2))) (AP X pins σ Q) X.xe s
section
variable {X:Cx}{CX:yk}{k:Nat}{f C:Addr}{fd:FuncData}{ps ks:List Str}{sp:Sp}{E:XK}{x m:Str}{p pos apos aaT:Pos}{e o:Expr}{es:List Expr}{Xx:List Keyword}{te ta:TE}{t tk:TA}{nm:Option Str}
theorem Rp:PK X [] pT:=λ_ _ _ _ H Q I h=>wpAny_evalAll_nil ⟨[],H,I,.nil,h⟩
theorem IX(ha:PE X e te)(hr:PK X Xx t):PK X (⟨nm,e,aaT⟩::Xx) (jc te t):=by
 intro pos pins s σ H Q I h;show wpAny _ _ (evalAll ((do let v <- eval e X.env;standAt pos;pure v)::(backToKw pos (keywordEach Xx X.env)).map (·.2))) _ _ s
 refine wpAny_evalAll_cons (wpAny_bind (cE (ha pins s σ H _ I h) λu s1 ⟨x,H1,I1,r1,q1⟩=>wpAny_bind (wpAny_standAt (wpAny_pure ?_))));exact cE (hr pos pins s1 σ H1 _ I1 q1) λus s2 ⟨xs,H2,I2,r2,q2⟩=>⟨x::xs,H2,I2,.cons r1 r2,q2⟩
variable {g:List Value->List Value->List Value}{gV:List V->List V->List V}
end
structure aC(N P:List Str)(sc:Scope):Prop where
 kind:sc.kind=.function
 co:sc.isCoroutine=false
 gen:sc.isGenerator=false
 nd:N.Nodup
 pre:N.take P.length=P
 par:∀x∈P,sc.names.lookup x=some .local\/sc.names.lookup x=some .cell
 Pz:∀y∈sc.names,y.2≠.free
theorem qd{kindOf:Str->Option NameKind}{x:Str}:∀ {binds:List (Str×Value)} {m:Str->Option Value},(∀v,(x,v)∉binds)->bindL kindOf binds m x=m x
 | [],_,_=>rfl
 | (n,v)::r,m,h=>by
  unfold bindL;rw[qd λw hw=>h w (List.mem_cons_of_mem _ hw)]
  split
  ·have:x≠n:=by rintro rfl;exact h v List.mem_cons_self
   simp [this]
  ·rfl
theorem qa{kindOf:Str->Option NameKind}{x:Str}:∀ {binds:List (Str×Value)} {m:Str->Option Value},(∀v,(x,v)∉binds)->bindC kindOf binds m x=m x
 | [],_,_=>rfl
 | (n,v)::r,m,h=>by
  unfold bindC;rw[qa λw hw=>h w (List.mem_cons_of_mem _ hw)]
  split
  ·rfl
  ·have:x≠n:=by rintro rfl;exact h v List.mem_cons_self
   simp [this]
theorem qb{kindOf:Str->Option NameKind}{x:Str}{v:Value}:∀ {P:List Str} {vs:List Value} {i:Nat} {m:Str->Option Value},P.Nodup->P[i]?=some x->vs[i]?=some v->kindOf x=some .local ->
  bindL kindOf (P.zip vs) m x=some v
 | [],_,_,_,_,h,_,_=>by simp at h
 | _::_,[],_,_,_,_,h,_=>by simp at h
 | p::P,w::vs,0,m,nd,h1,h2,hk=>by
  simp at h1 h2;subst h1;subst h2;show bindL kindOf ((p,w)::P.zip vs) m p=_;unfold bindL;rw[qd λv hv=>(List.nodup_cons.mp nd).1 (List.of_mem_zip hv).1,if_pos hk];simp
 | p::P,w::vs,i+1,m,nd,h1,h2,hk=>by
  show bindL kindOf ((p,w)::P.zip vs) m x=_;unfold bindL;exact qb (i:=i) (List.nodup_cons.mp nd).2 (by simpa using h1) (by simpa using h2) hk
theorem p9{kindOf:Str->Option NameKind}{x:Str}{v:Value}:∀ {P:List Str} {vs:List Value} {i:Nat} {m:Str->Option Value},P.Nodup->P[i]?=some x->vs[i]?=some v->kindOf x≠some .local ->
  bindC kindOf (P.zip vs) m x=some v
 | [],_,_,_,_,h,_,_=>by simp at h
 | _::_,[],_,_,_,_,h,_=>by simp at h
 | p::P,w::vs,0,m,nd,h1,h2,hk=>by
  simp at h1 h2;subst h1;subst h2;show bindC kindOf ((p,w)::P.zip vs) m p=_;unfold bindC;rw[qa λv hv=>(List.nodup_cons.mp nd).1 (List.of_mem_zip hv).1,if_neg hk];simp
 | p::P,w::vs,i+1,m,nd,h1,h2,hk=>by
  show bindC kindOf ((p,w)::P.zip vs) m x=_;unfold bindC;exact p9 (i:=i) (List.nodup_cons.mp nd).2 (by simpa using h1) (by simpa using h2) hk
def start(N:List Str)(vs:List V):St:=vs.map some++List.replicate (N.length-vs.length) none
def pL(CX:yk)(P:Program)(w:World)(K:PySem.W.Frag)(mg:Str->Option Value)(base:Heap)(N:List Str)(qual:Str)(scope:Scope)(f:Addr)(cd:Value)(A:Around)(outer:List Env)(s:Shared)(H:Hp)(E:XK):Cx where
 prog:=P
 w:=w
 K:=K
 mg:=mg
 base:=base
 A:=A.deeper (envOfC qual scope s.heap.objs.size f cd)
 N:=N
 bR:=s
 kZ:=H
 env:=envOfC qual scope s.heap.objs.size f cd
 outer:=outer
 stack:=envOfC qual scope s.heap.objs.size f cd::outer
 ex:=[]
 calm:=true
 fn:=λ_=>true
 pn:=[]
 xe:=λe s'=>wpAny (model P w) (A.deeper (envOfC qual scope s.heap.objs.size f cd)) (leaving (envOfC qual scope s.heap.objs.size f cd) e) (λ_ YQ=>CX outer H s E e YQ) (λe' YQ=>CX outer H s E e' YQ) s'
theorem uM{sc:Scope}{n:Nat}{x:Str}(h:sc.names.lookup x=some .cell):∃c,(cellsFrom n sc.names []).lookup x=some c:=by
 have q:=PySem.W.cellsFrom_some sc.names n [] (.inl h);exact Option.isSome_iff_exists.mp q
theorem Av{CX:yk}{P:Program}{w:World}{K:PySem.W.Frag}{mg:Str->Option Value}{base:Heap}{N ps:List Str}{qual:Str}{scope:Scope}{f:Addr}{cd:Value}{A:Around}{outer:List Env}{s s1:Shared}{H:Hp}{E:XK}{us:List Value}{vs:List V}
  (S:aC N ps scope) (hd:A.handled=none) (e0:wV P w K mg base A outer s H) (hl:vs.length=ps.length) (r:Vals vs us)
  (x:InCallC s s.heap.objs.size (bindL (envOfC qual scope s.heap.objs.size f cd).kindOf (ps.zip us) λ_=>none) (cellsFrom (s.heap.objs.size+1) scope.names []) (bindC (envOfC qual scope s.heap.objs.size f cd).kindOf (ps.zip us) λ_=>none) s1):
  Inv (pL CX P w K mg base N qual scope f cd A outer s H E) [] (start N vs) H s1:=by
 have de:ps.length<=N.length:=by have:=congrArg List.length S.pre;rw[List.length_take]at this;omega
 obtain⟨h1,tk,rfl,hk⟩:=x.done;have XD:∀b:Addr,b∉(pL CX P w K mg base N qual scope f cd A outer s H E).ex:=λb z=>absurd (show b∈([]:List Addr)from z) (by simp)
 refine⟨⟨e0.mod,S.kind,rfl,rfl,Nat.le_refl _,λy z c h1 h2=>?_,λy hy=>?_,λy c _ h=>?_,λ_=>hd,Around.frames_deeper e0.frames,.inr ⟨rfl,rfl⟩,λb z=>absurd z (XD b),e0.bs,e0.zZ,λb _ _=>XD b,λb z=>absurd z (XD b),e0.jk,e0.GK⟩,
  rfl,e0.bare,Un.kept hk,⟨_,x.toInCall.ns,λi y v h1 h2 h3=>?_⟩,λy c h=>⟨_,x.cell y c h⟩,e0.bw.fresh (Nat.le_refl _),λy c h=>?_,λp hp=>absurd (show p∈([]:List (Addr×Obj))from hp) (by simp),e0.bw.kept hk,?_⟩
 ·exact name_of_addr x.apart (PySem.mem_of_lookup h1) (PySem.mem_of_lookup h2)
 ·have hy:scope.names.lookup y=some .cell\/scope.names.lookup y=some .free:=hy
  rcases hy with hy|hy
  ·exact uM hy
  ·exact absurd rfl (S.Pz _ (PySem.mem_of_lookup hy))
 ·exact Nat.le_of_lt (x.above y c (PySem.mem_of_lookup h))
 ·have hi:i<vs.length:=by
   unfold start at h2
   by_cases hi:i<vs.length
   ·exact hi
   ·rw[List.getElem?_append_right (by simpa using hi)]at h2
    rw[List.getElem?_replicate]at h2
    split at h2<;>cases h2
  have ha:vs[i]?=some v:=by
   unfold start at h2;rw[List.getElem?_append_left (by simpa using hi),List.getElem?_map]at h2
   cases e:vs[i]? with
   | none=>rw[e]at h2;cases h2
   | some a=>rw[e]at h2;cases h2;rfl
  obtain⟨u,hu,rv⟩:=r.get ha;have hp:ps[i]?=some y:=by
   rw[<- S.pre,List.getElem?_take_of_lt ⋯];exact h1
  have ndP:ps.Nodup:=by rw[<- S.pre];exact S.nd.sublist (List.take_sublist _ _)
  refine⟨u,rv,?_⟩;rcases S.par y (List.mem_of_getElem? hp)with k|k
  ·exact .inl ⟨k,qb ndP hp hu k⟩
  ·obtain⟨c,e⟩:=uM (n:=s.heap.objs.size+1) k
   refine .inr ⟨.inl k,c,e,?_⟩;have q:=x.cell y c e;rw[p9 ndP hp hu (by show scope.names.lookup y≠_;rw[k];decide)]at q
   exact q
 ·exact e0.bw.fresh (Nat.le_of_lt (x.above y c (PySem.mem_of_lookup h)))
 ·unfold start
  show _=N.length;rw[List.length_append,List.length_map,List.length_replicate];omega
theorem KO{CX:yk}{P:Program}{w:World}{K:PySem.W.Frag}{mg:Str->Option Value}{base:Heap}{k:Nat}{f:Addr}{name qual:Str}{params:Arguments}{body:List Stmt}{scope:Scope}{dV kV doc pm iY ct oc:Value}{an od:Option Addr}
  {IC:Array (Option Value)} {N ps:List Str} {sp:Sp} (lk:K.lookup f=some ⟨oc,od,.func (PySem.W.fnOf name qual params body scope dV kV doc pm an iY ct),IC⟩) (gG:PySem.W.codeIn K iY qual=true) (S:aC N ps scope)
  (len:∀vs H Q E,sp vs H Q E->vs.length=ps.length)
  (DU:∀(A:Around) (outer:List Env) (s:Shared) (H:Hp) (vs:List V) (Q:VK) (E:XK),eJ k (A.deeper (envOfC qual scope s.heap.objs.size f iY))->sp vs H Q E ->
   ∃t,ug (pL CX P w K mg base N qual scope f iY A outer s H E) body t/\t {nx:=λ_ H'=>Q .aV H',rt:=Q} (start N vs) H):
  cm P w K mg base CX (k+1) f (PySem.W.fnOf name qual params body scope dV kV doc pm an iY ct) ps sp:=by
 refine⟨len,λA outer s H args us vs Q E hr e0 hb r yS=>?_⟩;have hl:=len _ _ _ _ yS;have KX:K.In s.heap:=e0.mod.yW.keeps λb o e=>(e0.bs b o e).1;have lim:s.heap.NoLimit:=e0.mod.nolimit.keeps λb o e=>(e0.bs b o e).1;have W2:∀y∈ps.zip us,scope.names.lookup y.1=some .local\/(scope.names.lookup y.1=some .cell/\((cellsFrom (s.heap.objs.size+1) scope.names []).lookup y.1).isSome=true):=λ⟨n,v⟩ hy=>by
  rcases S.par n (List.of_mem_zip hy).1 with q|q
  ·exact .inl q
  ·exact .inr ⟨q,PySem.W.cellsFrom_some _ _ _ (.inl q)⟩
 refine codeAny_call_function hr.depth (KX _ _ lk) rfl S.co S.gen rfl (PySem.W.codeRec_of KX gG) (hb _ _ _ _ ?_);refine wpAny_newFunctionEnv_cells S.kind W2 λenv he s1 x=>?_;subst he;refine⟨lim.keeps x.toInCall.keep,codeAny_func ?_⟩;obtain⟨t,ht,hq⟩:=DU A outer s H vs Q E (hr.deeper _) yS;have I:Inv (pL CX P w K mg base N qual scope f iY A outer s H E) [] (start N vs) H s1:=Av S hr.hd e0 hl r x;refine wpAny_mono (ht [] s1 (start N vs) H _ I hq) (λfl s' hs=>?_) λe s' hs=>hs;have fin:∀ {cq:St} {H':Hp} {v:V} {u:Value},Inv (pL CX P w K mg base N qual scope f iY A outer s H E) [] cq H' s'->RelV v u->Q v H'->CE outer P w H s Q u s':=
  λ{cq H' v u} J rv q=>⟨v,H',J.os,J.bare,J.base,J.bw,rv,q⟩
 cases fl with
 | ret u =>
  obtain⟨v,cq,H',J,rv,q⟩:=hs;exact fin J rv q
 | next =>
  obtain⟨cq,H',J,q⟩:=hs;exact fin (v:=V.aV) (u:=Value.none) J rfl q
 | brk =>
  obtain⟨_,_,_,q⟩:=hs;exact False.elim q
 | cont =>
  obtain⟨_,_,_,q⟩:=hs;exact False.elim q
end L2
namespace L2
open PySem PySem.Spec PyProof.Rows
section
variable {X:Cx}{x:Str}{p pos:Pos}{e:Expr}{es:List Expr}{t:TA}{id T:String}{r:List V->Hp->VK->Prop}
def tCB(r:List V->Hp->VK->Prop)(t:TA):TE:=λσ H Q=>t σ H λvs H1=>r vs H1 Q
theorem oU(hc:dW X (.builtin id) r)(hg:Gl X x)(hm:X.mg x=none)(hv:bootBuiltins x=some (.builtin id))(ha:PA X (e::es) t)(hn:x≠"__name__":=by decide)(lA:(x==("__debug__":Str))=false:=by decide)
  (he:starEach (e::es) X.env=(false,eval e X.env)::starEach es X.env:=by rfl) (de:(backTo pos (starEach es X.env)).any (·.1)=false:=by rfl):PE X (.Call (.Name x p) (e::es) [] pos) (tCB r t):=by
 intro pins s σ H Q I h;refine wpAny_Call_Name_kw (jo I hg hm hv ?_ hn lA);exact PyProof.Rows.callWith_builtin1 (cE (ha pos pins s σ H _ I h) λus s1 ⟨vs,H1,I1,r1,q1⟩=>hc pins s1 σ H1 vs us Q I1 r1 q1) he de
theorem AY(hc:dW X (.type T) r)(hg:Gl X x)(hm:X.mg x=none)(hv:bootBuiltins x=some (.type T))(ha:PA X (e::es) t)(hn:x≠"__name__":=by decide)(lA:(x==("__debug__":Str))=false:=by decide)
  (he:starEach (e::es) X.env=(false,eval e X.env)::starEach es X.env:=by rfl) (de:(backTo pos (starEach es X.env)).any (·.1)=false:=by rfl):PE X (.Call (.Name x p) (e::es) [] pos) (tCB r t):=by
 intro pins s σ H Q I h;refine wpAny_Call_Name_kw (jo I hg hm hv ?_ hn lA);exact PyProof.Rows.callWith_type1 (cE (ha pos pins s σ H _ I h) λus s1 ⟨vs,H1,I1,r1,q1⟩=>hc pins s1 σ H1 vs us Q I1 r1 q1) he de
end
end L2
namespace HT
open PySem PyProof.Rows
def lexLt:List Int->List Int->Bool
 | [],[]=>false
 | [],_::_=>true
 | _::_,[]=>false
 | x::xs,y::ys=>if x=y then lexLt xs ys else decide (x<y)
theorem b9(x y:Int)(xs ys:List Int):lexLt (x::xs) (y::ys)=if x=y then lexLt xs ys else decide (x<y):=rfl
theorem pO:lexLt [] []=false:=rfl
theorem gX(y:Int)(ys:List Int):lexLt [] (y::ys)=true:=rfl
theorem gW(x:Int)(xs:List Int):lexLt (x::xs) []=false:=rfl
theorem Dg(A:Around)(s:Shared)(a:Int)(t:Tok)(c:Int)(u:Tok):∃e,SeqAt.EqAt A s (.int a t) (.int c u) e/\(e=true ↔ a=c):=
 ⟨(a==c),SeqAt.EqAt.int_int a t c u,by simp⟩
theorem Ff(A:Around)(s:Shared)(a:Int)(t:Tok)(c:Int)(u:Tok)(prog:Program)(w:World)(E:Value->Shared->Prop)(Q:Value->Shared->Prop)(h:Q (.bool (decide (a<c))) s):
  wpAny (model prog w) A (richCompare .Lt (.int a t) (.int c u)) Q E s:=
 (PyProof.Rows.lt_int h:wpAny (model prog w) A (compareOp .Lt (.int a t) (.int c u)) Q E s)
section
open PySem.SeqAt
open PySem.AutoSeq1 (wpAny_loadPart')
open PySem.MeetsSeq PySem.MeetsSeq2 PySem.MeetsSeq3
theorem pU(l b:Addr)(items fu:Array Value)(n n2:Nat)(dd Us:Option Addr)(sl Lj:Array (Option Value))(ns ms:List Int)(hi:IntsAre items.toList ns)(hj:IntsAre fu.toList ms):
  Meets (Builtin.«tuple.__lt__» ⟨[.ref l,.ref b],[]⟩)
   (λ_ R s=>s.heap.get? l=some {cls:=.type "tuple",dict:=dd,data:=.seq items n,slots:=sl}/\s.heap.get? b=some {cls:=.type "tuple",dict:=Us,data:=.seq fu n2,slots:=Lj} /\
    R (.ok (.ret (.bool (lexLt ns ms)))) s):=
 .of_wp λprog w A R s h=>by
  obtain⟨hp,g,d,tk,os⟩:=s;obtain⟨hl,hb,h⟩:=h;have f2:=AutoSeq1.sub_tuple_tuple;have z1:items.size=ns.length:=by rw[<- hi.length];simp
  have z2:fu.size=ms.length:=by rw[<- hj.length];simp
  wp_walk using wpAny_loadPart' hl,wpAny_loadPart' hb,wpAny_forIn_list _ (λrest b s'=>b.1=none/\s'=⟨hp,g,d,tk,os⟩/\∃(vs ws:List Value) (UK K6:List Int),rest=vs.zip ws /\
   IntsAre vs UK/\IntsAre ws K6/\UK.length+fu.size=K6.length+items.size/\R (.ok (.ret (.bool (lexLt UK K6)))) ⟨hp,g,d,tk,os⟩) _
  case turn =>
   rintro⟨y,x⟩ rest b s' ⟨KP,rfl,vs,ws,UK,K6,hz,hvi,ZS,hlen,hR⟩;cases hvi with
   | nil=>rw[List.zip_nil_left]at hz;cases hz
   | cons a t aaL =>
    cases ZS with
    | nil=>rw[List.zip_nil_right]at hz;cases hz
    | cons c u aaM =>
     rw[List.zip_cons_cons]at hz
     injection hz with hyx Xb
     injection hyx with hy hx
     subst hy hx;rw[b9]at hR;simp only[List.length_cons]at hlen;obtain⟨e,he,WV⟩:=Dg A.in1 ⟨hp,g,d,tk,os⟩ a t c u;refine wpAny_bind (he prog w _ _ ?_);cases e with
     | true =>
      rw[if_pos (WV.mp rfl)]at hR
      wp_walk
      exact⟨rfl,rfl,_,_,_,_,Xb,aaL,aaM,by omega,hR⟩
     | false =>
      rw[if_neg (λq=>absurd (WV.mpr q) Bool.false_ne_true)]at hR;have hri:=Ff A.in1 ⟨hp,g,d,tk,os⟩ a t c u prog w
      wp_walk using hri
      exact⟨_,rfl,by simpa using hR⟩
  case fin =>
   rintro⟨b1,b2⟩ s' ⟨KP,rfl,vs,ws,UK,K6,hz,hvi,ZS,hlen,hR⟩;simp only at KP;subst KP;have hv:lexLt UK K6=decide (items.size<fu.size):=by
    cases hvi with
    | nil =>
     cases ZS with
     | nil =>
      simp only[List.length_nil]at hlen;rw[pO];exact(decide_eq_false ⋯).symm
     | cons c u hw =>
      simp only[List.length_nil,List.length_cons]at hlen;rw[gX];exact(decide_eq_true ⋯).symm
    | cons a t hv =>
     cases ZS with
     | nil =>
      simp only[List.length_nil,List.length_cons]at hlen;rw[gW];exact(decide_eq_false ⋯).symm
     | cons c u hw =>
      rw[List.zip_cons_cons]at hz;cases hz
   rw[hv]at hR
   wp_walk
   exact⟨_,rfl,by simpa [Builtin.Tuple.tupleCompareSizes]using hR⟩
  case h =>
   exact⟨rfl,rfl,items.toList,fu.toList,ns,ms,rfl,hi,hj,by omega,h⟩
end
section
variable {prog:Program}{w:World}{A:Around}{E:Value->Shared->Prop}{s:Shared}
theorem xF{l b:Addr}{items fu:Array Value}{ns ms:List Int}{Q:Value->Shared->Prop}(hl:IsTup s.heap l items)(hb:IsTup s.heap b fu)(hi:IntsAre items.toList ns)(hj:IntsAre fu.toList ms)
  (hu:A.units<cLine) (h:Q (.bool (lexLt ns ms)) s):wpAny (model prog w) A (compareOp .Lt (.ref l) (.ref b)) Q E s:=by
 obtain⟨⟨cls,dd,data,sl⟩,ho,hc,n,hd⟩:=id hl;obtain⟨⟨aag,Us,data2,Lj⟩,HH,GN,n2,hd2⟩:=id hb;simp only at hc hd GN hd2;subst hc hd GN hd2;exact richCompare_meets_room (op:=.Lt) ⟨_,ho,rfl⟩ ⟨_,HH,rfl⟩ PySem.F.slot_tuple_lt PySem.F.entry_tuple_lt (PySem.F.args_tuple_lt_2 _ _) (pU l b items fu n n2 dd Us sl Lj ns ms hi hj)
  ⟨ho,HH,show Value.bool (lexLt ns ms)≠Value.notImplemented/\Q (.bool (lexLt ns ms)) s from⟨(λx=>nomatch x),h⟩⟩ hu
theorem Hc{t b:Addr}{vs ws:List Value}{Q:Value->Shared->Prop}(ht:IsTup s.heap t vs.toArray)(hb:IsTup s.heap b ws.toArray)(hv:vs≠[])
  (h1:ws=[]->Q (.ref t) s) (h2:ws≠[]->Q (.ref s.heap.objs.size) {s with heap:=s.heap.push {cls:=.type "tuple",data:=.seq (vs++ws).toArray}})
  (hsz:vs.length+ws.length<=sizeLine):wpAny (model prog w) A (binaryOp .Add (.ref t) (.ref b)) Q E s:=by
 obtain⟨⟨cls,dd,data,sl⟩,ho,hc,n,hd⟩:=id ht;obtain⟨⟨aag,Us,data2,Lj⟩,HH,GN,n2,hd2⟩:=id hb;simp only at hc hd GN hd2;subst hc hd GN hd2;have e:vs.toArray++ws.toArray=(vs++ws).toArray:=by simp
 by_cases hw:ws=[]
 ·exact concat_meets ⟨_,ho,rfl⟩ ⟨_,HH,rfl⟩ noFill_tuple_add seq_tuple_add PySem.F.slot_tuple_add PySem.F.entry_tuple_add (PySem.F.args_tuple_add_2 _ _)
   (tuple_addW1 t b vs.toArray ws.toArray n n2 dd Us sl Lj (by simpa using hv) (by simp [hw])) ⟨ho,HH,h1 hw⟩
 ·refine concat_meets ⟨_,ho,rfl⟩ ⟨_,HH,rfl⟩ noFill_tuple_add seq_tuple_add PySem.F.slot_tuple_add PySem.F.entry_tuple_add (PySem.F.args_tuple_add_2 _ _)
   (tuple_addW2 t b vs.toArray ws.toArray n n2 dd Us sl Lj (by simpa using hv) (by simpa using hw) (by rw[List.size_toArray,List.size_toArray];exact hsz)) ⟨ho,HH,?_⟩
  rw[e];exact h2 hw
def du(n d:Nat):Option Int->Nat
 | none=>d
 | some v=>if v<0 then(v+(n:Int)).toNat else min v.toNat n
theorem Fm(n d:Nat):du n d none=d:=rfl
theorem Jp(n d k:Nat):du n d (some (k:Int))=min k n:=by
 show(if(k:Int)<0 then((k:Int)+(n:Int)).toNat else min (k:Int).toNat n)=min k n
 rw[if_neg ⋯,Int.toNat_natCast]
theorem Sf(n d:Nat)(hd:d<=n)(o:Option Int):du n d o<=n:=by
 cases o with
 | none=>exact hd
 | some v =>
  show(if v<0 then(v+(n:Int)).toNat else min v.toNat n)<=n
  by_cases hv:v<0
  ·rw[if_pos hv];omega
  ·rw[if_neg hv];exact Nat.min_le_right _ _
theorem yw(v:Int)(n d:Nat):(if v<0 then max (v+(n:Int)) 0 else min v (n:Int))=((du n d (some v):Nat):Int):=by
 show(if v<0 then max (v+(n:Int)) 0 else min v (n:Int))=(((if v<0 then(v+(n:Int)).toNat else min v.toNat n):Nat):Int)
 by_cases hv:v<0
 ·simp only[if_pos hv];omega
 ·simp only[if_neg hv];omega
theorem w8(lo hi:Option Int)(n:Nat):Builtin.Slice.sliceAdjust lo hi 1 (n:Int)=(((du n 0 lo:Nat):Int),((du n n hi:Nat):Int)):=by
 have h1:¬((1:Int)<0):=by omega
 unfold Builtin.Slice.sliceAdjust;simp only[h1,if_false];refine Prod.ext ?_ ?_
 ·cases lo with
  | none=>rfl
  | some v=>exact yw v n 0
 ·cases hi with
  | none=>rfl
  | some v=>exact yw v n n
theorem xQ(i j:Nat):Builtin.Slice.slicePlaces (i:Int) (j:Int) 1=j-i:=by
 unfold Builtin.Slice.slicePlaces;have h1:(1:Int)>0:=by omega
 simp only[h1,if_true,Int.ediv_one]
 split<;>omega
theorem o9{v:Value}{o:Option Int}{Q:Option Int->Shared->Prop}(p:IsPart v o)(h:Q o s):wpAny (model prog w) A (Builtin.Slice.slicePartIndex v) Q E s:=by
 cases p with
 | none=>exact slicePart_none h
 | int i t=>exact slicePart_int h
theorem lU{sl:Addr}{vl vu:Value}{lo hi:Option Int}{n:Nat}{Q:Int×Int×Nat->Shared->Prop}(hs:s.heap.IsSliceOf sl vl vu .none)(pl:IsPart vl lo)(pu:IsPart vu hi)
  (h:Q (((du n 0 lo:Nat):Int),1,du n n hi-du n 0 lo) s):wpAny (model prog w) A (Builtin.Slice.sliceApplied (.ref sl) (pure (n:Int))) Q E s:=by
 obtain⟨os,W7,hcs,yN⟩:=id hs;unfold Builtin.Slice.sliceApplied Builtin.Slice.sliceFields;refine wpAny_bind (wpAny_bind (wpAny_field W7 yN (x:=vl) rfl (wpAny_bind (wpAny_field W7 yN (x:=vu) rfl (wpAny_bind (wpAny_field W7 yN (x:=.none) rfl (wpAny_pure ?_)))))));refine wpAny_bind (slicePart_none ?_);show wpAny _ _ (if((1:Int)==0)=true then _ else _) _ _ s
 rw[if_neg ∅]
 refine wpAny_bind (o9 pl (wpAny_bind (o9 pu (wpAny_bind (wpAny_pure ?_)))));show wpAny _ _ (match Builtin.Slice.sliceAdjust lo hi 1 (n:Int)with | (lo,hi)=>pure (lo,(1:Int),Builtin.Slice.slicePlaces lo hi 1)) _ _ s
 rw[w8 lo hi n];show wpAny _ _ (pure (((du n 0 lo:Nat):Int),(1:Int),Builtin.Slice.slicePlaces ((du n 0 lo:Nat):Int) ((du n n hi:Nat):Int) 1)) _ _ s;rw[xQ];exact wpAny_pure h
theorem ER(xs:Array Value)(i k:Nat):((List.range k).filterMap λ(m:Nat)=>xs[((i:Int)+(m:Int)*1).toNat]?).toArray=((xs.toList.drop i).take k).toArray:=by
 have e:(λ(m:Nat)=>xs[((i:Int)+(m:Int)*1).toNat]?)=λm=>xs[i+m]?:=by
  funext m;have:((i:Int)+(m:Int)*1).toNat=i+m:=by omega
  rw[this]
 rw[e];have:=pick_run xs i k;rw[List.filterMap_map]at this;have e2:((λx=>xs[x]?) ∘ λx=>i+x)=λm=>xs[i+m]?:=rfl;rw[e2]at this;rw[this]
theorem jI{t sl:Addr}{items:Array Value}{vl vu:Value}{lo hi:Option Int}{Q:Value->Shared->Prop}(ht:IsTup s.heap t items)(hs:s.heap.IsSliceOf sl vl vu .none)(pl:IsPart vl lo)(pu:IsPart vu hi)
  (hw:¬(du items.size 0 lo=0/\du items.size items.size hi=items.size))
  (h:Q (.ref s.heap.objs.size) {s with heap:=s.heap.push {cls:=.type "tuple",data:=.seq ((items.toList.drop (du items.size 0 lo)).take (du items.size items.size hi-du items.size 0 lo)).toArray}})
  (hsz:items.size<=sizeLine):wpAny (model prog w) A (getItem (.ref t) (.ref sl)) Q E s:=by
 have yT:sizeOk (.seq ((items.toList.drop (du items.size 0 lo)).take (du items.size items.size hi-du items.size 0 lo)).toArray):=by
  show((items.toList.drop (du items.size 0 lo)).take (du items.size items.size hi-du items.size 0 lo)).toArray.size<=sizeLine;rw[List.size_toArray,List.length_take,List.length_drop,Array.length_toList];omega
 have hj:du items.size items.size hi<=items.size:=Sf _ _ (Nat.le_refl _) hi;obtain⟨os,W7,hcs,yN⟩:=id hs;have hTs:s.TypeIs (.ref sl) "slice":=⟨os,W7,hcs⟩;unfold getItem
 try with_reducible refine wpAny_holding ?_
 first|refine wpAny_bind (wpAny_pure ?_)|skip
 refine wpAny_bind (wpAny_sequenceKey ht.typeIs ∅ ?_)
 refine wpAny_bind (wpAny_callSpecial?_slot (name:=Str.ofString "__getitem__") ht.typeIs PyProof.Rows.slot_tuple_getitem
  (wpAny_call_entry PyProof.Rows.slot_tuple_getitem ht.typeIs entry_tuple_getitem ?_ (args_tuple_getitem _ _)))
 show wpAny _ _ (Builtin.Tuple.tupleItemsOf (.ref t) >>= _) _ _ s;refine wpAny_bind (tupleItemsOf_ ht ?_);refine wpAny_bind (wpAny_typeOf hTs ?_);rw[if_pos ∅]
 refine wpAny_bind (lU hs pl pu ?_);have hno:¬((((du items.size 0 lo:Nat):Int)==0&&(1:Int)==1&&(du items.size items.size hi-du items.size 0 lo)==items.size)=true):=by
  intro q;rw[Bool.and_eq_true,Bool.and_eq_true]at q;have q1:((du items.size 0 lo:Nat):Int)=0:=eq_of_beq q.1.1;have q2:du items.size items.size hi-du items.size 0 lo=items.size:=eq_of_beq q.2;exact hw ⟨by omega,by omega⟩
 show wpAny _ _ (if(((du items.size 0 lo:Nat):Int)==0&&(1:Int)==1&&(du items.size items.size hi-du items.size 0 lo)==items.size)=true then _ else _) _ _ s
 rw[if_neg hno,ER]
 first
  | exact wpAny_bind (m:=Builtin.Tuple.tupleExact _) (wpAny_newObj_type (wpAny_pure ⟨_,rfl,wpAny_pure h⟩) yT)
  | exact wpAny_bind (m:=Builtin.Tuple.tupleExact _) (wpAny_newObj_type (wpAny_bind (wpAny_pure (wpAny_pure ⟨_,rfl,wpAny_pure h⟩))) yT)
  | exact wpAny_bind (wpAny_bind (m:=Builtin.Tuple.tupleExact _) (wpAny_newObj_type (wpAny_pure (wpAny_pure ⟨_,rfl,wpAny_pure h⟩)) yT))
  | exact wpAny_bind (wpAny_bind (m:=Builtin.Tuple.tupleExact _) (wpAny_newObj_type (wpAny_pure ⟨_,rfl,wpAny_pure h⟩) yT))
end
end HT
namespace L2
open PySem PySem.Spec PyProof.Rows
abbrev TO:=St->Hp->(Option Int->Hp->Prop)->Prop
def PO(X:Cx)(e:Option Expr)(t:TO):Prop:=
 ∀(pins:List (Addr×Obj)) (s:Shared) (σ:St) (H:Hp) (Q:Option Int->Hp->Prop),Inv X pins σ H s->t σ H Q ->
  wpAny (model X.prog X.w) X.A (evalPart e X.env) (λu s'=>∃o H',Inv X pins σ H' s'/\IsPart u o/\Q o H') X.xe s
def JB:TO:=λ_ H Q=>Q none H
def Zk(t:TE):TO:=λσ H Q=>t σ H λx H1=>∃i,x=.int i/\Q (some i) H1
theorem intsAre_of{ns:List Int}:∀ {us:List Value},Vals (ns.map V.int) us->IntsAre us ns:=by
 induction ns with
 | nil=>intro us r;rw[List.map_nil]at r;cases r;exact .nil
 | cons n ns ih =>
  intro us r;rw[List.map_cons]at r;cases r with
  | cons r1 r2 =>
   obtain⟨t,e⟩:=r1;subst e;exact .cons n t (ih r2)
section
variable {X:Cx}{e:Expr}{te:TE}{lo hi:Option Expr}{tl th:TO}{pos p2:Pos}
theorem IZ:PO X none JB:=by
 intro pins s σ H Q I h;rw[evalPart_none];exact wpAny_pure ⟨none,H,I,.none,h⟩
theorem Ja(h:PE X e te):PO X (some e) (Zk te):=by
 intro pins s σ H Q I hw;rw[evalPart_some];refine cE (h pins s σ H _ I hw) λu s1 ⟨x,H1,I1,r1,q1⟩=>?_;obtain⟨i,rfl,q⟩:=q1;obtain⟨t,rfl⟩:=r1;exact⟨some i,H1,I1,.int i t,q⟩
def Kt(X:Cx)(r:V->Option Int->Option Int->Hp->VK->Prop):Prop:=
 ∀(pins:List (Addr×Obj)) (s:Shared) (σ:St) (H:Hp) (x:V) (v vl vu:Value) (lo hi:Option Int) (sl:Addr) (Q:VK),Inv X pins σ H s->RelV x v->s.heap.IsSliceOf sl vl vu .none->IsPart vl lo->IsPart vu hi->r x lo hi H Q ->
  ∃T id,typeLookup (.type T) "__getitem__"=pure (some (.builtin id))/\s.TypeIs v T/\wpAny (model X.prog X.w) X.A (getItem v (.ref sl)) (EP X pins σ Q) X.xe s
theorem Kt.or{r r':V->Option Int->Option Int->Hp->VK->Prop}(h:Kt X r)(h':Kt X r'):Kt X (λx lo hi H Q=>r x lo hi H Q\/r' x lo hi H Q):=by
 intro pins s σ H x v vl vu lo hi sl Q I rx hs pl pu q;rcases q with q|q
 ·exact h pins s σ H x v vl vu lo hi sl Q I rx hs pl pu q
 ·exact h' pins s σ H x v vl vu lo hi sl Q I rx hs pl pu q
def tSl(r:V->Option Int->Option Int->Hp->VK->Prop)(te:TE)(tl th:TO):TE:=λσ H Q=>te σ H λx H1=>tl σ H1 λl H2=>th σ H2 λu H3=>r x l u H3 Q
theorem EJ{r:V->Option Int->Option Int->Hp->VK->Prop}(hr:Kt X r)(he:PE X e te)(hl:PO X lo tl)(hu:PO X hi th):PE X (.Subscript e (.Slice lo hi none p2) pos) (tSl r te tl th):=by
 intro pins s σ H Q I h;refine Subscript_ (cE (he pins s σ H _ I h) λv s1 ⟨x,H1,I1,r1,q1⟩=>?_);refine wpAny_Slice (cE (hl pins s1 σ H1 _ I1 q1) λvl s2 ⟨l,H2,I2,pl,q2⟩=>cE (hu pins s2 σ H2 _ I2 q2) λvu s3 ⟨u,H3,I3,pu,q3⟩=>?_);rw[evalPart_none];refine wpAny_pure ?_;have I4:Inv X pins σ H3 {s3 with heap:=s3.heap.push {cls:=.type "slice",data:=.fields #[vl,vu,.none]}}:=I3.kept (t':=s3.toks) λb ob q=>Heap.get?_push_of_some _ q
 obtain⟨T,id,hT,ht,hg⟩:=hr pins {s3 with heap:=s3.heap.push {cls:=.type "slice",data:=.fields #[vl,vu,.none]}} σ H3 x v vl vu l u s3.heap.objs.size Q I4 r1 (Heap.IsSliceOf.new ..) pl pu q3
 show wpAny (model X.prog X.w) X.A (subscriptTail e (.Slice lo hi none p2) v (.ref s3.heap.objs.size)) (EP X pins σ Q) X.xe {s3 with heap:=s3.heap.push {cls:=.type "slice",data:=.fields #[vl,vu,.none]}}
 exact tail_any (ops:=[.ref s3.heap.objs.size,v]) ht hT hg (by with_unfolding_all rfl)
def uO(xs:List V)(lo hi:Option Int):List V:=(xs.drop (HT.du xs.length 0 lo)).take (HT.du xs.length xs.length hi-HT.du xs.length 0 lo)
theorem mC(xs:List V)(lo hi:Option Int):(uO xs lo hi).length<=xs.length:=by
 unfold uO;rw[List.length_take,List.length_drop];omega
def abb(K:PySem.W.Frag):V->Option Int->Option Int->Hp->VK->Prop:=λx lo hi H Q=>∃a xs,x=.ref a/\kW K H a xs /\
 ¬(HT.du xs.length 0 lo=0/\HT.du xs.length xs.length hi=xs.length)/\∀p,H p=none->Q (.ref p) (upd H p (.tup (uO xs lo hi)))
theorem Tp:Kt X (abb X.K):=by
 intro pins s σ H x v vl vu lo hi sl Q I rx hs pl pu h;obtain⟨a,xs,rfl,hx,hw,q⟩:=h;cases rx;obtain⟨its,r,ht,hz⟩:=I.tuple hx;have hlen:its.toArray.size=xs.length:=by rw[List.size_toArray];exact r.length.symm
 refine⟨"tuple",_,PyProof.Rows.slot_tuple_getitem.lookup,ht.typeIs,?_⟩;refine HT.jI ht hs pl pu (by rw[hlen];exact hw) ?_ (by rw[hlen];exact hz)
 rw[hlen];refine⟨.ref s.heap.objs.size,_,I.laid (t':=s.toks) (o:=.tup (uO xs lo hi)) (λb ob q=>Heap.get?_push_of_some _ q) (Nat.le_refl _) ?_,rfl,q _ (I.bw.fresh (Nat.le_refl _))⟩;exact⟨Nat.le_trans (mC xs lo hi) hz,_,(r.drop (HT.du xs.length 0 lo)).take (HT.du xs.length xs.length hi-HT.du xs.length 0 lo),IsTup.new _ _⟩
def La(K:PySem.W.Frag):R2:=λx y H Q=>∃a b xs ys,x=.ref a/\y=.ref b/\kW K H a xs/\kW K H b ys/\xs≠[]/\xs.length+ys.length<=sizeLine /\
 (ys=[]->Q (.ref a) H)/\(ys≠[]->∀p,H p=none->Q (.ref p) (upd H p (.tup (xs++ys))))
theorem Vals.sD{xs:List V}{us:List Value}(r:Vals xs us):us=[] ↔ xs=[]:=by
 cases r with
 | nil=>simp
 | cons _ _=>simp
theorem Iz:iR X (binaryOp .Add) (La X.K):=by
 intro pins s σ H x y v u Q I rx ry h;obtain⟨a,b,xs,ys,rfl,rfl,ha,hb,hx,hz,q1,q2⟩:=h;cases rx;cases ry;obtain⟨its,r1,p1,_⟩:=I.tuple ha;obtain⟨OH,r2,p2,_⟩:=I.tuple hb;refine HT.Hc p1 p2 (λz=>hx (r1.sD.mp z)) (λz=>⟨.ref a,H,I,rfl,q1 (r2.sD.mp z)⟩) (λz=>?_) (by rw[<- r1.length,<- r2.length];exact hz)
 refine⟨.ref s.heap.objs.size,_,I.laid (t':=s.toks) (o:=.tup (xs++ys)) (λb ob q=>Heap.get?_push_of_some _ q) (Nat.le_refl _) ?_,rfl,q2 (λw=>z (r2.sD.mpr w)) _ (I.bw.fresh (Nat.le_refl _))⟩;exact⟨by rw[List.length_append];exact hz,_,r1.append r2,IsTup.new _ _⟩
end
end L2
namespace L2
open PySem PySem.Spec PyProof.Rows
def GU(n:Nat)(i:Int):Option Nat:=if 0<=i then(if i<n then some i.toNat else none)else if -(n:Int)<=i then some (i+n).toNat else none
def lb{α:Type}(xs:List α)(i:Int):Option α:=(GU xs.length i).bind λj=>xs[j]?
theorem Ib{n:Nat}{i:Int}{j:Nat}(h:GU n i=some j):seqIndex? i n=some j/\j<n/\-(n:Int)<=i/\i<n:=by
 unfold GU at h
 by_cases h0:0<=i
 ·rw[if_pos h0]at h
  by_cases h1:i<n
  ·rw[if_pos h1]at h
   have e:i.toNat=j:=Option.some.inj h;exact⟨by rw[seqIndex_of h0 h1,e],by omega,by omega,h1⟩
  ·rw[if_neg h1]at h;cases h
 ·rw[if_neg h0]at h
  by_cases h1:-(n:Int)<=i
  ·rw[if_pos h1]at h
   have e:(i+n).toNat=j:=Option.some.inj h;exact⟨by rw[seqIndex_neg ⋯ h1,e],by omega,h1,by omega⟩
  ·rw[if_neg h1]at h;cases h
theorem rC{α:Type}{xs:List α}{i:Int}{v:α}(h:lb xs i=some v):∃j,seqIndex? i xs.length=some j/\xs[j]?=some v/\j<xs.length/\-(xs.length:Int)<=i/\i<xs.length:=by
 unfold lb at h;cases e:GU xs.length i with
 | none=>rw[e]at h;cases h
 | some j =>
  rw[e]at h;obtain⟨h1,h2,h3,h4⟩:=Ib e;exact⟨j,h1,h,h2,h3,h4⟩
def yn(b:Expr):Prop:=∀o i,subscripted b false o i=operate [o,i] (getItem o i)
def G3(X:Cx)(r:R2):Prop:=
 ∀(value slice:Expr) (pins:List (Addr×Obj)) (s:Shared) (σ:St) (H:Hp) (x y:V) (v u:Value) (Q:VK),Inv X pins σ H s->RelV x v->RelV y u->r x y H Q ->
  subscripted slice false v u=operate [v,u] (getItem v u)->wpAny (model X.prog X.w) X.A (subscriptTail value slice v u) (EP X pins σ Q) X.xe s
def MtR(X:Cx)(id:String)(r:V->List V->Hp->VK->Prop):Prop:=
 ∀(pins:List (Addr×Obj)) (s:Shared) (σ:St) (H:Hp) (x:V) (xs:List V) (v:Value) (us:List Value) (Q:VK),Inv X pins σ H s->RelV x v->Vals xs us->r x xs H Q ->
  wpAny (model X.prog X.w) X.A (call (.builtin id) (v::us)) (EP X pins σ Q) X.xe s
section
variable {X:Cx}{a b:Expr}{ta tb:TE}{pos:Pos}
theorem G3.or{r r':R2}(h:G3 X r)(h':G3 X r'):G3 X (λx y H Q=>r x y H Q\/r' x y H Q):=by
 intro value slice pins s σ H x y v u Q I rx ry q hs;rcases q with q|q
 ·exact h value slice pins s σ H x y v u Q I rx ry q hs
 ·exact h' value slice pins s σ H x y v u Q I rx ry q hs
theorem Yr{r:R2}(hr:G3 X r)(ha:PE X a ta)(hb:PE X b tb)(hs:yn b):PE X (.Subscript a b pos) (TJ r ta tb):=by
 intro pins s σ H Q I h;exact Subscript_ (Mq ha hb I h λv u s2 x y H2 I2 rx ry q=>hr a b pins s2 σ H2 x y v u Q I2 rx ry q (hs _ _))
def YJ(K:PySem.W.Frag):R2:=λx y H Q=>∃p xs i v,x=.ref p/\y=.int i/\gE K H p xs/\lb xs i=some v/\Q v H
def YL(K:PySem.W.Frag):R2:=λx y H Q=>∃p xs i v,x=.ref p/\y=.int i/\kW K H p xs/\lb xs i=some v/\Q v H
def YK:R2:=λx y H Q=>∃z i c,x=.str z/\y=.int i/\z.length<=sizeLine/\lb z.cps.toList i=some c/\Q (.str ⟨#[c]⟩) H
theorem Ic:G3 X (YJ X.K):=by
 intro value slice pins s σ H x y v u Q I rx ry h hs;obtain⟨p,xs,i,z,rfl,rfl,hq,he,q⟩:=h;cases rx;obtain⟨t,rfl⟩:=ry;obtain⟨its,r,pl,hz⟩:=I.list hq;obtain⟨j,h1,h2,h3,h4,h5⟩:=rC he;obtain⟨w,ew,wU⟩:=r.get h2;have hl:=r.length;have hn:=lM;have fin:EP X pins σ Q w s:=⟨z,H,I,wU,q⟩
 by_cases h0:0<=i
 ·have hj:i.toNat=j:=by
   rw[seqIndex_of h0 h5]at h1;exact Option.some.inj h1
  exact item_listR pl.isList h0 ⋯ (by rw[hj];simpa using ew) fin hs
 ·have hj:(i+(its.toArray.size:Int)).toNat=j:=by
   rw[seqIndex_neg ⋯ h4]at h1
   rw[List.size_toArray,<- hl];exact Option.some.inj h1
  exact subscriptTail_builtinR (x:=w) pl.isList.typeIs slot_list_getitem.lookup
   (wpAny_getItem_list_neg (Q:=λr s'=>r=w/\EP X pins σ Q r s') pl.isList ⋯ (by rw[List.size_toArray]<;>omega) ⋯ (by rw[hj];simpa using ew) ⟨rfl,fin⟩) hs
theorem OQ:G3 X (YL X.K):=by
 intro value slice pins s σ H x y v u Q I rx ry h hs;obtain⟨p,xs,i,z,rfl,rfl,hq,he,q⟩:=h;cases rx;obtain⟨t,rfl⟩:=ry;obtain⟨its,r,pl,hz⟩:=I.tuple hq;obtain⟨j,h1,h2,h3,h4,h5⟩:=rC he;obtain⟨w,ew,wU⟩:=r.get h2;have hl:=r.length;have hn:=lM;have fin:EP X pins σ Q w s:=⟨z,H,I,wU,q⟩;exact subscriptTail_builtinR (x:=w) pl.typeIs slot_tuple_getitem.lookup
  (getItem_tuple (j:=j) (Q:=λr s'=>r=w/\EP X pins σ Q r s') pl ⋯ ⋯ (by rw[List.size_toArray,<- hl];exact h1) (by simpa using ew) ⟨rfl,fin⟩) hs
theorem OO:G3 X YK:=by
 intro value slice pins s σ H x y v u Q I rx ry h hs;obtain⟨z,i,c,rfl,rfl,hz,he,q⟩:=h;obtain⟨t,rfl⟩:=rx;obtain⟨t',rfl⟩:=ry;obtain⟨j,h1,h2,h3,h4,h5⟩:=rC he;have hl:z.cps.toList.length=z.length:=by simp [Str.length]
 rw[hl]at h1 h4 h5;have hn:=lM;exact tail_any (typeIs_str s z t) slot_str_getitem.lookup (getItem_str (c:=c) (by
  have e1:decide (i < -(2^63:Int))=false:=decide_eq_false ⋯
  have e2:decide (i>=2^63)=false:=decide_eq_false ⋯
  rw[e1,e2,Bool.or_false]) (by rw[h1];simpa using h2) ⟨.str ⟨#[c]⟩,H,I.tok _,⟨_,rfl⟩,q⟩) hs
def rIx(K:PySem.W.Frag):R2:=λx y H Q=>YJ K x y H Q\/YL K x y H Q\/YK x y H Q
theorem OM:G3 X (rIx X.K):=Ic.or (OQ.or OO)
theorem sX(lo hi:Option Int)(n:Nat):(sliceBounds lo hi none n).1=((HT.du n 0 lo:Nat):Int)/\(sliceBounds lo hi none n).2.1=((HT.du n n hi:Nat):Int)/\(sliceBounds lo hi none n).2.2=1:=by
 refine⟨?_,?_,rfl⟩
 ·cases lo with
  | none=>simp [sliceBounds,HT.du]
  | some i =>
   simp only[sliceBounds,HT.du,Option.getD_none,show(1:Int)>0 by decide,if_true]
   by_cases h:i<0
   ·simp only[h,if_true]<;>omega
   ·simp only[h,if_false]<;>omega
 ·cases hi with
  | none=>simp [sliceBounds,HT.du]
  | some i =>
   simp only[sliceBounds,HT.du,Option.getD_none,show(1:Int)>0 by decide,if_true]
   by_cases h:i<0
   ·simp only[h,if_true]<;>omega
   ·simp only[h,if_false]<;>omega
theorem pR(its:List Value)(lo hi:Option Int):slicePick its.toArray lo hi none=((its.drop (HT.du its.length 0 lo)).take (HT.du its.length its.length hi-HT.du its.length 0 lo)).toArray:=by
 obtain⟨h1,h2,h3⟩:=sX lo hi its.toArray.size;unfold slicePick;rw[h1,h2,h3];simp only[sliceRange_one,pick_run,List.size_toArray]<;>rfl
def aa9(K:PySem.W.Frag):V->Option Int->Option Int->Hp->VK->Prop:=λx lo hi H Q=>∃a xs,x=.ref a/\gE K H a xs/\∀p,H p=none->Q (.ref p) (upd H p (.lst (uO xs lo hi)))
theorem Jv:Kt X (aa9 X.K):=by
 intro pins s σ H x v vl vu lo hi sl Q I rx hs pl pu h;obtain⟨a,xs,rfl,hx,q⟩:=h;cases rx;obtain⟨its,r,ht,hz⟩:=I.list hx;have hlen:=r.length;refine⟨"list",_,slot_list_getitem.lookup,ht.isList.typeIs,?_⟩;refine wpAny_getItem_list_slice ht.isList hs pl pu .none (by simp) ?_ (by rw[List.size_toArray]<;>omega)
 rw[pR,<- hlen];refine⟨.ref s.heap.objs.size,_,I.laid (t':=s.toks) (o:=.lst (uO xs lo hi)) (λb ob q=>Heap.get?_push_of_some _ q) (Nat.le_refl _) ?_,rfl,q _ (I.bw.fresh (Nat.le_refl _))⟩;exact⟨Nat.le_trans (mC xs lo hi) hz,_,0,(r.drop (HT.du xs.length 0 lo)).take (HT.du xs.length xs.length hi-HT.du xs.length 0 lo),Heap.get?_push_size _ rfl⟩
theorem rG:dW X (.builtin "len") (λxs H Q=>∃p ys,xs=[.ref p]/\(gE X.K H p ys\/kW X.K H p ys)/\Q (.int ys.length) H):=by
 intro pins s σ H xs us Q I r h;obtain⟨p,ys,rfl,hq,q⟩:=h;obtain⟨u,rfl,rx⟩:=vals1 r;cases rx;have hn:=lM;rcases hq with hq|hq
 ·obtain⟨its,r',pl,hz⟩:=I.list hq
  have hlen:=r'.length;exact Calls.call_len_list pl.isList (by simp only[List.size_toArray]<;>omega) ⟨.int ys.length,H,I.tok _,⟨s.toks+1,by rw[List.size_toArray,hlen]⟩,q⟩
 ·obtain⟨its,r',pl,hz⟩:=I.tuple hq
  have hlen:=r'.length;exact len_tuple pl (by simp only[List.size_toArray]<;>omega) ⟨.int ys.length,H,I.tok _,⟨s.toks+1,by rw[List.size_toArray,hlen]⟩,q⟩
theorem rH:dW X (.builtin "len") (λxs H Q=>∃z,xs=[.str z]/\z.length<=sizeLine/\Q (.int z.length) H):=by
 intro pins s σ H xs us Q I r h;obtain⟨z,rfl,hz,q⟩:=h;obtain⟨u,rfl,t,rfl⟩:=vals1 r;have hn:=lM;exact len_str ⋯ ⟨.int z.length,H,I.tok _,⟨_,rfl⟩,q⟩
theorem dW.or{f:Value}{r r':List V->Hp->VK->Prop}(h:dW X f r)(h':dW X f r'):dW X f (λxs H Q=>r xs H Q\/r' xs H Q):=by
 intro pins s σ H xs us Q I rs q;rcases q with q|q
 ·exact h pins s σ H xs us Q I rs q
 ·exact h' pins s σ H xs us Q I rs q
theorem rJ:dW X (.type "list") (λxs H Q=>∃p ys,xs=[.ref p]/\(gE X.K H p ys\/kW X.K H p ys)/\∀l,H l=none->Q (.ref l) (upd H l (.lst ys))):=by
 intro pins s σ H xs us Q I r h;obtain⟨p,ys,rfl,hq,q⟩:=h;obtain⟨u,rfl,rx⟩:=vals1 r;cases rx;have fin:∀(its:List Value),Vals ys its->ys.length<=sizeLine->∀(h':Heap) (c':Nat),(∀b o',s.heap.get? b=some o'->h'.get? b=some o') ->
   h'.get? s.heap.objs.size=some {cls:=.type "list",dict:=none,data:=.seq its.toArray c',slots:=#[]}->EP X pins σ Q (.ref s.heap.objs.size) {s with heap:=h'}:=λits r' hz h' c' kp e =>
  ⟨.ref s.heap.objs.size,_,I.laid (t':=s.toks) kp (Nat.le_refl _) (show bW X.prog X.w _ h' _ (.lst ys)from⟨hz,its,c',r',e⟩),rfl,q _ (I.bw.fresh (Nat.le_refl _))⟩
 rcases hq with hq|hq
 ·obtain⟨its,r',pl,hz⟩:=I.list hq
  have hlen:=r'.length;obtain⟨o,ho,hc,n,hd⟩:=pl.isList;exact call_list_seq p (.inl rfl) ho hc hd (λh' c' kp e=>fin its r' hz h' c' kp e) (by simp only[List.size_toArray]<;>omega)
 ·obtain⟨its,r',pl,hz⟩:=I.tuple hq
  have hlen:=r'.length;obtain⟨o,ho,hc,n,hd⟩:=pl;exact call_list_seq p (.inr rfl) ho hc hd (λh' c' kp e=>fin its r' hz h' c' kp e) (by simp only[List.size_toArray]<;>omega)
theorem pK:dW X (.type "tuple") (λxs H Q=>∃p ys,xs=[.ref p]/\((gE X.K H p ys/\∀l,H l=none->Q (.ref l) (upd H l (.tup ys)))\/(kW X.K H p ys/\Q (.ref p) H))):=by
 intro pins s σ H xs us Q I r h;obtain⟨p,ys,rfl,h⟩:=h;obtain⟨u,rfl,rx⟩:=vals1 r;cases rx;rcases h with⟨hq,q⟩|⟨hq,q⟩
 ·obtain⟨its,r',pl,hz⟩:=I.list hq
  have hlen:=r'.length;refine call_tuple_list pl.isList (λh' kp=>?_) (by simp only[List.size_toArray]<;>omega)
  have I1:Inv X pins σ H {s with heap:=h'}:=I.kept (t':=s.toks) kp
  have I2:Inv X pins σ (upd H h'.objs.size (.tup ys)) {s with heap:=h'.push {cls:=.type "tuple",data:=.seq its.toArray}}:=
   I1.laid (t':=s.toks) (λb o e=>Heap.get?_push_of_some _ e) (Nat.le_refl _) (show bW X.prog X.w _ _ _ (.tup ys)from⟨hz,its,r',IsTup.new _ _⟩)
  exact⟨.ref h'.objs.size,_,I2,rfl,q _ (I1.bw.fresh (Nat.le_refl _))⟩
 ·obtain⟨its,r',pl,hz⟩:=I.tuple hq
  exact call_tuple_same pl ⟨.ref p,H,I,rfl,q⟩
def tyV(K:PySem.W.Frag)(T:String)(x:V)(H:Hp):Prop:=match x with
 | .str _=>T="str"
 | .int _=>T="int"
 | .ref p=>(T="list"/\∃xs,gE K H p xs)\/(T="tuple"/\∃o,K.lookup p=some o/\o.cls=.type "tuple"/\o.dict=none) \/
   (T="dict"/\((∃kvs,H p=some (.dK kvs))\/∃kvs,H p=some (.dT kvs)))\/(T="set"/\∃S n,H p=some (.set S n))
 | _=>False
theorem Uc{pins:List (Addr×Obj)}{σ:St}{H:Hp}{s:Shared}{T:String}{x:V}{v:Value}(I:Inv X pins σ H s)(r:RelV x v)(ty:tyV X.K T x H):
  s.TypeIs v T/\∀a,v=.ref a->∃ob,s.heap.get? a=some ob/\ob.dict=none:=by
 cases x with
 | str z =>
  obtain⟨t,rfl⟩:=r;cases(show T="str" from ty)
  exact⟨typeIs_str s z t,λ_ e=>nomatch e⟩
 | int i =>
  obtain⟨t,rfl⟩:=r;cases(show T="int" from ty)
  exact⟨typeIs_int s i t,λ_ e=>nomatch e⟩
 | ref p =>
  cases r;rcases ty with⟨rfl,xs,hq⟩|⟨rfl,o,hk,hc,hd⟩|⟨rfl,hk⟩|⟨rfl,S,n,hk⟩
  ·obtain⟨its,_,pl,_⟩:=I.list hq
   refine⟨pl.isList.typeIs,λa e=>?_⟩;cases e;obtain⟨o,n,e,c,hd,_⟩:=pl;exact⟨o,e,hd⟩
  ·refine⟨⟨o,I.i7 p o hk,hc⟩,λa e=>?_⟩
   cases e;exact⟨o,I.i7 _ o hk,hd⟩
  ·have z:∃o,s.heap.get? p=some o/\o.ExactDict:=by
    rcases hk with⟨kvs,hk⟩|⟨kvs,hk⟩
    ·obtain⟨_,_,_,_,o,_,_,e,ex,_⟩:=I.bw p _ hk
     exact⟨o,e,ex⟩
    ·obtain⟨_,_,_,_,o,_,_,e,ex,_⟩:=I.bw p _ hk
     exact⟨o,e,ex⟩
   obtain⟨o,e,ex⟩:=z;refine⟨⟨o,e,ex.1⟩,λa e2=>?_⟩;cases e2;exact⟨o,e,ex.2.1⟩
  ·obtain⟨o,_,_,_,e,ex,_⟩:=I.bw p _ hk
   refine⟨⟨o,e,ex.1⟩,λa e2=>?_⟩;cases e2;exact⟨o,e,ex.2.1⟩
 | _=>exact False.elim ty
def tBM(K:PySem.W.Frag)(T:String)(r:V->List V->Hp->VK->Prop)(to:TE)(t:TA):TE:=λσ H Q=>to σ H λx H1=>tyV K T x H1/\t σ H1 λxs H2=>r x xs H2 Q
variable {o e:Expr}{es:List Expr}{to:TE}{t:TA}{name:Str}{apos di:Pos}{T id:String}{r:V->List V->Hp->VK->Prop}
theorem K8(pa:PlainAttrs T)(slot:Slot T name id)(hty:typeOf (.builtin id)=pure (.type "method_descriptor"))(hm:MtR X id r)(ho:PE X o to)(ha:PA X (e::es) t)
  (WL:attributeBase o name X.env (eval o X.env)=eval o X.env:=by rfl)
  (DX:((backTo di (starEach (e::es) X.env)).all (λx=>!x.1)&&(backToKw di (keywordEach [] X.env)).all (λx=>x.1.isSome)
  &&decide ((e::es).length+([]:List Keyword).length+(if([]:List Keyword).isEmpty then 0 else 1)<30))=true:=by rfl)
  (hline:(apos.endLine==di.line)=true:=by rfl) (hs:starEach (e::es) X.env=(false,eval e X.env)::starEach es X.env:=by rfl) (Ox:(backTo di (starEach es X.env)).any (·.1)=false:=by rfl):
  PE X (.Call (.Attribute o name apos) (e::es) [] di) (tBM X.K T r to t):=by
 intro pins s σ H Q I h;refine wpAny_Call_method_late WL DX hline rfl (cE (ho pins s σ H _ I h) λv s1 ⟨x,H1,I1,r1,ty,q1⟩=>?_);obtain⟨h1,h2⟩:=Uc I1 r1 ty;refine⟨T,id,pa,slot,hty,h1,h2,?_⟩;have hA:=ha di pins s1 σ H1 _ I1 q1;rw[hs]at hA ⊢;refine Calls.callWith_builtin (by show(false||(backTo di (starEach es X.env)).any (·.1))=false;rw[Ox]<;>rfl) (Calls.evalArgs_plain ?_)
 exact cE hA λus s2 ⟨vs,H2,I2,r2,q2⟩=>hm pins s2 σ H2 x vs v us Q I2 r1 r2 q2
end
end L2
namespace L2
open PySem PySem.Spec PyProof.Rows
def MtM(X:Cx)(id:String)(r:V->List V->Hp->VK->Prop):Prop:=
 ∀(pins:List (Addr×Obj)) (s:Shared) (σ:St) (H:Hp) (x:V) (xs:List V) (v:Value) (us:List Value) (Q:VK),Inv X pins σ H s->RelV x v->Vals xs us->r x xs H Q ->
  wpAny (model X.prog X.w) X.A (call (.builtin id) (v::us)) (EP X pins σ Q) X.xe s
theorem Vals.one:∀ {x:V} {us:List Value},Vals [x] us->∃u,us=[u]/\RelV x u
 | _,_,.cons r .nil=>⟨_,rfl,r⟩
theorem Vals.rep{xs:List V}{us:List Value}(h:Vals xs us):∀k:Nat,Vals (List.replicate k xs).flatten (List.replicate k us).flatten
 | 0=>.nil
 | k+1=>by
  rw[List.replicate_succ,List.replicate_succ,List.flatten_cons,List.flatten_cons];exact Vals.append h (Vals.rep h k)
theorem foldl_rep(its:List Value):∀(k:Nat) (acc:List Value),
  List.foldl (λx1 x2=>x1++x2) acc.toArray (List.replicate k its.toArray)=(acc++(List.replicate k its).flatten).toArray
 | 0,acc=>by simp
 | k+1,acc=>by
  have e:acc.toArray++its.toArray=(acc++its).toArray:=by simp
  have e2:(acc++its)++(List.replicate k its).flatten=acc++(List.replicate (k+1) its).flatten:=by
   rw[List.replicate_succ,List.flatten_cons,List.append_assoc]
  rw[<- e2,<- foldl_rep its k (acc++its),<- e,List.replicate_succ,List.foldl_cons]
section
variable {X:Cx}{pins:List (Addr×Obj)}{σ:St}{H:Hp}{s:Shared}{l b:Addr}{xs ys zs:List V}
theorem Inv.aaV{its its':List Value}{n:Nat}{f:Array Value->Array Value}{t':Nat}(I:Inv X pins σ H s)(hH:H l=some (.lst xs))
  (e:s.heap.get? l=some {cls:=.type "list",data:=.seq its.toArray n}) (hf:f its.toArray=its'.toArray) (hv:Vals ys its') (hz:ys.length<=sizeLine):
  Inv X pins σ (upd H l (.lst ys)) {s with heap:=s.heap.update l (Obj.mapSeq f),toks:=t'}:=by
 have q:=PySem.IsL.update e f;rw[hf]at q;refine I.write (x:=l) (e:=l) (by rw[hH];exact trivial) (.inl rfl) (λb' u hb hu=>(Heap.get?_update_other s.heap (Obj.mapSeq f) (Ne.symm hb)).trans hu) ⟨_,q⟩ ?_
 exact⟨hz,its',_,hv,q⟩
theorem Inv.Pu{its:List Value}{t':Nat}(I:Inv X pins σ H s)(hv:Vals ys its)(hz:ys.length<=sizeLine):
  Inv X pins σ (upd H s.heap.objs.size (.lst ys)) {s with heap:=s.heap.push {cls:=.type "list",data:=.seq its.toArray},toks:=t'}:=
 I.laid (λ_ _ q=>Heap.get?_push_of_some _ q) (Nat.le_refl _) ⟨hz,its,0,hv,Heap.get?_push_size _ rfl⟩
theorem Inv.fresh(I:Inv X pins σ H s):H s.heap.objs.size=none:=I.bw.fresh (Nat.le_refl _)
theorem Inv.aaW(I:Inv X pins σ H s)(hH:H l=some (.lst xs)):xs.length<=sizeLine/\∃(its:List Value) (n:Nat),Vals xs its/\xs.length=its.length/\s.heap.get? l=some {cls:=.type "list",data:=.seq its.toArray n}:=by
 obtain⟨z,its,n,r,e⟩:=I.bw l _ hH;exact⟨z,its,n,r,r.length,e⟩
theorem Ex{n:Nat}(h:n<=sizeLine):Builtin.List.listTooLong n=false:=by
 unfold Builtin.List.listTooLong;exact decide_eq_false ⋯
end
section
variable {X:Cx}
def Ji:V->List V->Hp->VK->Prop:=λx vs H Q=>∃l xs y,x=.ref l/\vs=[y]/\H l=some (.lst xs)/\xs.length<sizeLine/\Q .aV (upd H l (.lst (xs++[y])))
theorem qK:MtM X "list.append" Ji:=by
 intro pins s σ H x vs v us Q I rx rv h;obtain⟨l,xs,y,rfl,rfl,hH,hz,q⟩:=h;cases rx;obtain⟨u,rfl,ru⟩:=rv.one;obtain⟨z,its,n,r,hl,e⟩:=I.aaW hH;refine call_meets F.slot_list_append ⟨_,e,rfl⟩ F.entry_list_append (F.args_list_append_2 _ _) (PySem.list_append l its.toArray n u (by rw[List.size_toArray];omega)) ⟨e,?_⟩
 refine⟨.aV,_,I.aaV (its':=its++[u]) hH e (by simp) (r.append (.cons ru .nil)) ?_,rfl,q⟩
 rw[List.length_append,List.length_singleton];omega
theorem len_rep{α:Type}(xs:List α)(k:Nat):(List.replicate k xs).flatten.length=k*xs.length:=by
 induction k with
 | zero=>simp
 | succ k ih=>rw[List.replicate_succ,List.flatten_cons,List.length_append,ih,Nat.succ_mul,Nat.add_comm]
end
end L2
namespace Att
open PySem PySem.W PySem.Calls PyProof.Rows
theorem mZ{P:Params}{h:Heap}:∀(ns:List Int) (vs:List Value),WellAll P h vs (ns.map WData.int)->IntsAre vs ns:=by
 intro ns
 induction ns with
 | nil =>
  intro vs w;rw[List.map_nil]at w;cases w;exact .nil
 | cons n ns ih =>
  intro vs w;rw[List.map_cons]at w;cases w with
  | cons a b =>
   cases a;exact .cons _ _ (ih _ b)
theorem A5{l:OpenLaw}{n:Nat}(hn:l.most=some n){P:Params}{h:Heap}{args:List WData}{vals:List Value}
  (As:l.row.toRowW.claim.pre args=true) (Xe:WellAll P h vals args):
  ∃a vs ns,vals=[Value.ref a]/\args=[WData.list (ns.map WData.int)]/\h.get? a=some {cls:=.type "list",data:=.seq vs.toArray}/\IntsAre vs ns/\ns.length<=n:=by
 have hsh:WShape.hasAll [] args [.list .int]=true:=(pre_splitW As).1;have hc:l.pre.holds [] {args:=args}=true:=(pre_splitW As).2;obtain⟨d,r,rfl,h1,h2⟩:=hasAllW_cons hsh;obtain rfl:=hasAllW_nil h2;obtain⟨xs,rfl,h3⟩:=hasW_list h1;obtain⟨ns,rfl⟩:=items_int h3;have hlen:ns.length<=n:=by
  unfold OpenLaw.pre at hc;have h4:(WTm.not (.lt (.lit (.int (n:Int))) (.len (.arg 0)))).holds [] {args:=[.list (ns.map .int)]}=true:=by
   have h4:=(holds_andW hc).1;rw[hn]at h4;exact h4
  have h5:=condW_of h4 (w_not (w_lt w_lit (w_len_list (w_arg rfl))));rw[List.length_map]at h5;refine Nat.le_of_not_lt λq=>?_;have q':(n:Int)<((ns.length:Nat):Int):=by omega
  first
   | (rw[decide_eq_true q']at h5;exact absurd h5 ∅)
   | (simp at h5;omega)
 cases Xe with
 | cons w1 w2 =>
  cases w2;cases w1 with
  | list ho fZ=>exact⟨_,_,ns,rfl,rfl,ho,mZ ns _ fZ,hlen⟩
theorem A1(l:OpenLaw)(args:List WData):l.row.toRowW.claim.post args (.bool true) args=true:=
 postW_of (r:=l.row.toRowW) (X:=(true==true))
  (show WShape.has [] (.bool true) .bool=true by first|rfl|decide|simp [WShape.has,WShape.arms,WShape.armsAll])
  (show(WTm.eq .res (.lit (.bool true))).value [] {args:=args,res:=some (.bool true),after:=args}=some (.bool (true==true))from w_eq_bool (w_res rfl) w_lit) rfl
theorem uF{l:OpenLaw}{n:Nat}{q:Program}{loose:List Str}{XP:(Str->Option Value)->Heap->Prop}{YP:World->Heap->Prop}{d:DefRec}
  (hn:l.most=some n) (WQ:d.params.defaults=[])
  (call:∀(w:World) (bR bN:Shared) (mg mb:Str->Option Value) (fa:Addr) (o:Obj) (pm cd doc:Value) (a:Addr) (vs:List Value) (ns:List Int),
   Ground q loose [] XP w bR mg mb bN.heap->YP w bN.heap ->
   bN.heap.get? fa=some o->o.data=.func (docDef d.name d.params d.body d.scope pm cd doc)->bN.heap.CodeRec cd d.name->mg d.name=some (.ref fa) ->
   bN.heap.get? a=some {cls:=.type "list",data:=.seq vs.toArray}->IntsAre vs ns->ns.length<=n->bN.gens=#[] ->
   codeAny (model l.prog w) callerA (.call (.ref fa) ⟨[.ref a],[]⟩) (λr s'=>r=.ok (.ret (.bool true))/\OldK bN.heap s'.heap/\s'.os=bN.os/\AllBare s'.gens) bN):
  WalkO q loose XP YP l.row.toRowW d [] (λf vs=>PySem.call f vs):=by
 intro w bR bN mg mb G Y fa o pm cd doc dV kV ho hd gG hD hmg hg args vals as As W3 ZR Xe yR;obtain rfl:dV=.none:=Dflts.none hD WQ;obtain rfl:kV=.none:=Dflts.noKw hD;obtain⟨a,vs,ns,rfl,rfl,Ov,hints,hlen⟩:=A5 hn As Xe;refine enter_call (codeAny_mono (call w bR bN mg mb fa o pm cd doc a vs ns G Y ho (fd_plain hd) gG hmg Ov hints hlen hg) λr s' hq=>?_);obtain⟨rfl,h2,h3,h4⟩:=hq;exact⟨.inl ⟨.bool true,.bool true,[],rfl,λ_=>rfl,.bool true,A1 l _,λ_=>⟨List.Pairwise.nil,λ_ hm=>(nomatch hm)⟩⟩,h2,h3,h4⟩
end Att
namespace L2
open PySem PySem.Spec PyProof.Rows
theorem fO:∀ {vs:List Value} {ns:List Int},IntsAre vs ns->Vals (ns.map V.int) vs
 | _,_,.nil=>.nil
 | _,_,.cons n t h=>.cons ⟨t,rfl⟩ (fO h)
def Only(H:Hp):Prop:=∀b,H b=none\/∃o xs,H b=some (.rZ o (.lst xs))
theorem Ei{P:Program}{w:World}{K:PySem.W.Frag}{mg mb:Str->Option Value}{CX:yk}{k:Nat}{fa a:Addr}{fd:FuncData}{x:Str}{sp:Sp}{bN:Shared}{vs:List Value}{ns:List Int}
  (KX:K.In bN.heap) (Uz:bN.heap.Ns mainGlobals mg) (hb:bN.heap.Ns builtinsNs mb) (hbb:∀x:Str,x≠"__name__"->mb x=bootBuiltins x) (aaB:bN.heap.NoLimit) (hg:bN.gens=#[])
  (ha:bN.heap.get? a=some {cls:=.type "list",data:=.seq vs.toArray}) (hi:IntsAre vs ns) (hl:ns.length<=sizeLine) (hr:eJ k callerA)
  (F:∀base:Heap,K.In base->base.Ns mainGlobals mg->cm P w K mg base CX k fa fd [x] sp) (WN:∀(s:Shared) (u:Value),BindsTo s fd ⟨[u],[]⟩ [(x,u)])
  (yS:∀H:Hp,Only H->gE K H a (ns.map V.int)->sp [.ref a] H (λv _=>v=.bl true) λ_ _ _=>False)
  (hCX:∀H e s',CX [] H bN (λ_ _ _=>False) e s'->False):
  codeAny (model P w) callerA (.call (.ref fa) ⟨[.ref a],[]⟩) (λr s'=>r=.ok (.ret (.bool true))/\OldK bN.heap s'.heap/\s'.os=bN.os/\AllBare s'.gens) bN:=by
 have rv:=fO hi;have aaU:=hi.length
 -- from an abstract heap in which nothing but the script may be tracked
 have core:∀H:Hp,Only H->gE K H a (ns.map V.int)->fw P w H bN.heap->(∀b,H b≠none->b=a)->(H a≠none->K.lookup a=none) ->
   codeAny (model P w) callerA (.call (.ref fa) ⟨[.ref a],[]⟩) (λr s'=>r=.ok (.ret (.bool true))/\OldK bN.heap s'.heap/\s'.os=bN.os/\AllBare s'.gens) bN:=by
  intro H hO hS bw hA hK;have yv:∀ {b:Addr} {o:Obj},bN.heap.get? b=some o->H b=none->(sg bN.heap H).get? b=some o:=λe n=>D0 e n;have XD:∀ {b:Addr} {o:Obj} {es:Array DictEntry} {ep:Nat},bN.heap.get? b=some o->o.data=.dict es ep->H b=none:=λ{b o es ep} e d=>by
   cases q:H b with
   | none=>rfl
   | some u =>
    have e':b=a:=hA b (by rw[q];simp)
    subst e';rw[ha]at e;cases e;have d':Data.seq vs.toArray _=Data.dict es ep:=d;cases d'
  have Z3:∀ {b:Addr} {m:Str->Option Value},bN.heap.Ns b m->(sg bN.heap H).Ns b m:=λ{b m} ⟨o,es,ep,e,d,r⟩=>⟨o,es,ep,yv e (XD e d),d,r⟩;have hKb:K.In (sg bN.heap H):=λb o e=>yv (KX b o e) (by
   cases q:H b with
   | none=>rfl
   | some u =>
    have e':b=a:=hA b (by rw[q];simp)
    subst e';rw[hK (by rw[q];simp)]at e;cases e)
  have hM:Mod K mg (sg bN.heap H):=⟨hKb,Z3 Uz,⟨mb,Z3 hb,hbb⟩,let ⟨mc,h1,h2⟩:=aaB;⟨mc,Z3 h1,h2⟩⟩;have e0:wV P w K mg (sg bN.heap H) callerA [] bN H:=⟨rfl,hM,λb o e=>Iv e,Nat.le_of_eq (Ao _ _),trivial,λb hb=>absurd (show b∈([]:List Addr)from hb) (by simp),bw,.of_eq hg⟩
  refine codeAny_mono ((F _ hKb (Z3 Uz)).run callerA [] bN H ⟨[.ref a],[]⟩ [.ref a] [.ref a] _ _ hr e0 (WN bN (.ref a)) (.cons rfl .nil) (yS H hO hS)) λr s' h=>?_;cases r with
  | error e=>exact(hCX H e s' h).elim
  | ok fl =>
   cases fl with
   | next=>exact False.elim h
   | brk=>exact False.elim h
   | cont=>exact False.elim h
   | ret u =>
    obtain⟨v,H',os,bare,un,aaF,r',q⟩:=h;have q':v=.bl true:=q;subst q';obtain rfl:u=Value.bool true:=r';refine⟨rfl,OldK.of_keep λb o e=>?_,os,bare⟩;cases q:H b with
    | none=>exact un.keep b o e q (by intro z;exact absurd (show b∈([]:List Addr)from z) (by simp)) (by simp)
    | some u =>
     rcases hO b with z|⟨ob,xs,z⟩
     ·rw[q]at z;cases z
     ·have z2:=un.mY b ob _ z
      obtain⟨e1,_⟩:=bw b _ z;obtain⟨e2,_⟩:=aaF b _ z2;rw[e]at e1;cases e1;exact e2
 cases hk:K.lookup a with
 | some o =>
  -- the script is one of the module's own objects
  have e:=KX a o hk;rw[ha]at e;cases e;refine core (λ_=>none) (λ_=>.inl rfl) (.inr ⟨_,vs.toArray,_,hk,rfl,rfl,rfl,by rw[List.size_toArray,aaU];exact hl,by simpa using rv⟩) (λb u z=>by have z':(none:Option HO)=some u:=z;cases z') (λb z=>absurd rfl z) λz=>absurd rfl z
 | none =>
  refine core (λb=>if b=a then some (.rZ {cls:=.type "list",data:=.seq vs.toArray} (.lst (ns.map V.int)))else none) (λb=>?_) (.inl (.inr ⟨{cls:=.type "list",data:=.seq vs.toArray},if_pos rfl⟩)) (λb u z=>?_) (λb z=>?_) λ_=>hk
  ·by_cases hb:b=a
   ·exact .inr ⟨_,_,if_pos hb⟩
   ·exact .inl (if_neg hb)
  ·by_cases hb:b=a
   ·have z':=(if_pos hb).symm.trans z
    cases z';subst hb;exact⟨ha,by rw[List.length_map];exact hl,vs,_,rv,ha⟩
   ·have z':=(if_neg hb).symm.trans z
    cases z'
  ·by_cases hb:b=a
   ·exact hb
   ·exact absurd (if_neg hb) z
end L2
namespace L2
open PySem PySem.Spec PyProof.Rows
theorem JL{l:PySem.W.OpenLaw}{n k:Nat}{q:Program}{loose:List Str}{XP:(Str->Option Value)->Heap->Prop}{YP:World->Heap->Prop}{d:DefRec}{K:Params->PySem.W.Frag}{CX:World->yk}{sp:World->Sp}{x:Str}
  (hn:l.most=some n) (Ot:n<=sizeLine) (WQ:d.params.defaults=[]) (hr:eJ k callerA)
  (hY:∀(w:World) (h:Heap),YP w h->(K w.params).In h)
  (F:∀(w:World) (mg:Str->Option Value) (fa:Addr) (h:Heap),(K w.params).In h->h.Ns mainGlobals mg->mg d.name=some (.ref fa) ->
   ∃fd:FuncData,(∀(s:Shared) (u:Value),BindsTo s fd ⟨[u],[]⟩ [(x,u)]) /\
    ∀base:Heap,(K w.params).In base->base.Ns mainGlobals mg->cm l.prog w (K w.params) mg base (CX w) k fa fd [x] (sp w))
  (yS:∀(w:World) (H:Hp) (a:Addr) (ns:List Int),ns.length<=n->Only H->gE (K w.params) H a (ns.map V.int)->sp w [.ref a] H (λv _=>v=.bl true) λ_ _ _=>False)
  (hCX:∀(w:World) (H:Hp) (s:Shared) (e:Value) (s':Shared),CX w [] H s (λ_ _ _=>False) e s'->False):
  PySem.W.WalkO q loose XP YP l.row.toRowW d [] (λf vs=>PySem.call f vs):=by
 refine Att.uF hn WQ λw bR bN mg mb fa o pm cd doc a vs ns G Y ho hd gG hmg Ov hints hlen hg=>?_;have KX:=hY w _ Y;obtain⟨fd,hb,hF⟩:=F w mg fa _ KX G.T.g hmg;exact Ei KX G.T.g G.T.b G.T.builtins G.T.nolimit hg Ov hints (Nat.le_trans hlen Ot) hr hF hb (λH hO hS=>yS w H a ns hlen hO hS) λH e s'=>hCX w H bN e s'
end L2
namespace L2
open PySem PySem.Spec PyProof.Rows
def inClass(s:Stmt)(j:Nat):Stmt:=match s with
 | .ClassDef _ _ _ body _ _ _ _ _ _ _=>body.getD j (.Pass ⟨0,0,0,0⟩)
 | _=>.Pass ⟨0,0,0,0⟩
def aK(s:Stmt):Arguments:=match s with
 | .FunctionDef _ a _ _ _ _ _ _ _ _=>a
 | _=>{posonlyargs:=[],args:=[],vararg:=none,kwonlyargs:=[],kw_defaults:=[],kwarg:=none,defaults:=[]}
def ao(s:Stmt):List Stmt:=match s with
 | .FunctionDef _ _ b _ _ _ _ _ _ _=>b
 | _=>[]
def ag(s:Stmt):Scope:=match s with
 | .FunctionDef _ _ _ _ _ _ sc _ _ _=>sc
 | _=>{kind:=.function,names:=[],isGenerator:=false,isCoroutine:=false}
abbrev mw:yk:=λ_ _ _ _ _ _=>False
abbrev E0:XK:=λ_ _ _=>False
theorem oS{X:Cx}:Passes mw X E0:=λ_ _ _ _ _ _ _ h=>h.elim
structure Bi(K:PySem.W.Frag)(x qual:Str)(st:Stmt)(f:Addr)(fd:FuncData):Prop where
 ex:∃(oc:Value) (od:Option Addr) (kV doc pm:Value) (an:Option Addr) (iY ct:Value) (IC:Array (Option Value)),
  fd=PySem.W.fnOf x qual (aK st) (ao st) (ag st) .none kV doc pm an iY ct/\K.lookup f=some ⟨oc,od,.func fd,IC⟩/\PySem.W.codeIn K iY qual=true
 kp:PySem.W.keepIn K (.ref f)=true
section
variable {P:Program}{w:World}{K:PySem.W.Frag}{mg:Str->Option Value}{base:Heap}
theorem Bi.ok{x qual:Str}{st:Stmt}{f:Addr}{fd:FuncData}{N ps:List Str}{k:Nat}{sp:Sp}(F:Bi K x qual st f fd)(S:aC N ps (ag st))(len:∀vs H Q E,sp vs H Q E->vs.length=ps.length)
  (DU:∀(iY:Value) (A:Around) (outer:List Env) (s:Shared) (H:Hp) (vs:List V) (Q:VK) (E:XK),eJ k (A.deeper (envOfC qual (ag st) s.heap.objs.size f iY))->sp vs H Q E ->
   ∃t,ug (pL mw P w K mg base N qual (ag st) f iY A outer s H E).PD (ao st) t/\t {nx:=λ_ H'=>Q .aV H',rt:=Q} (start N vs) H):cm P w K mg base mw (k+1) f fd ps sp:=by
 obtain⟨oc,od,kV,doc,pm,an,iY,ct,IC,rfl,lk,gG⟩:=F.ex;refine KO lk gG S len λA outer s H vs Q E hr yS=>?_;obtain⟨t,h,q⟩:=DU iY A outer s H vs Q E hr yS;exact⟨t,h.PD,q⟩
theorem Bi.binds{x qual:Str}{st:Stmt}{f:Addr}{fd:FuncData}{ps:List Str}(F:Bi K x qual st f fd)
  (h:∀(kV doc pm:Value) (an:Option Addr) (iY ct:Value) (us:List Value),us.length=ps.length->bindArgs (PySem.W.fnOf x qual (aK st) (ao st) (ag st) .none kV doc pm an iY ct) ⟨us,[]⟩=pure (ps.zip us)):Binds K fd ps []:=by
 obtain⟨oc,od,kV,doc,pm,an,iY,ct,IC,rfl,lk,gG⟩:=F.ex;exact .all (h kV doc pm an iY ct)
theorem bh{x qual:Str}{st:Stmt}{f:Addr}{oc:Value}{od an:Option Addr}{IC:Array (Option Value)}{kV doc pm iY ct:Value}(l:K.lookup f=some ⟨oc,od,.func (PySem.W.fnOf x qual (aK st) (ao st) (ag st) .none kV doc pm an iY ct),IC⟩)
  (c:PySem.W.codeIn K iY qual=true) (k:PySem.W.keepIn K (.ref f)=true):Bi K x qual st f (PySem.W.fnOf x qual (aK st) (ao st) (ag st) .none kV doc pm an iY ct):=⟨⟨oc,od,kV,doc,pm,an,iY,ct,IC,rfl,l,c⟩,k⟩
end
def aw(H H':Hp):Prop:=∀b o,H b=some o->H' b=some o
theorem aw.refl(H:Hp):aw H H:=λ_ _ h=>h
theorem aw.trans{H H1 H2:Hp}(a:aw H H1)(b:aw H1 H2):aw H H2:=λc o h=>b c o (a c o h)
theorem aw.free{H H':Hp}(e:aw H H'){l:Addr}(h:H' l=Option.none):H l=Option.none:=by
 cases q:H l with
 | none=>rfl
 | some o =>
  rw[e l o q]at h;cases h
theorem aw.seq{K:PySem.W.Frag}{H H':Hp}{a:Addr}{xs:List V}(e:aw H H')(h:gE K H a xs):gE K H' a xs:=by
 rcases h with(h|⟨o,h⟩)|h
 ·exact .inl (.inl (e _ _ h))
 ·exact .inl (.inr ⟨o,e _ _ h⟩)
 ·exact .inr h
end L2
namespace L2
open PySem PySem.Spec PyProof.Rows
section
variable {κ:Type}[DecidableEq κ]
def iq(kvs:List (κ×V))(k:κ):Option V:=(kvs.find? λkv=>decide (kv.1=k)).map (·.2)
def putK(kvs:List (κ×V))(k:κ)(v:V):List (κ×V):=
 if(kvs.any λkv=>decide (kv.1=k))=true then kvs.map (λkv=>if kv.1=k then(kv.1,v)else kv)else kvs++[(k,v)]
def mD(kvs:List (κ×V))(k:κ):List (κ×V):=kvs.filter λkv=>decide (kv.1≠k)
theorem kU{p:κ×V}{r:List (κ×V)}{k:κ}(e:p.1=k):iq (p::r) k=some p.2:=by simp [iq,List.find?_cons,e]
theorem kT{p:κ×V}{r:List (κ×V)}{k:κ}(e:¬p.1=k):iq (p::r) k=iq r k:=by simp [iq,List.find?_cons,e]
theorem wy(k:κ):∀kvs:List (κ×V),(kvs.any λkv=>decide (kv.1=k))=(iq kvs k).isSome
 | []=>rfl
 | p::r=>by
  rw[List.any_cons]
  by_cases e:p.1=k
  ·simp only[kU e,decide_eq_true e,Bool.true_or,Option.isSome_some]
  ·rw[kT e,decide_eq_false e,Bool.false_or];exact wy k r
theorem mI(kvs:List (κ×V))(k:κ)(v:V):(putK kvs k v).length<=kvs.length+1:=by
 unfold putK
 split
 ·rw[List.length_map];omega
 ·rw[List.length_append,List.length_cons,List.length_nil];omega
theorem gN.lH{o:Option V}{u:Option Value}(r:gN o u):o.isSome=u.isSome:=by
 cases o with
 | none=>cases u with
  | none=>rfl
  | some _=>exact(show False from r).elim
 | some _=>cases u with
  | none=>exact(show False from r).elim
  | some _=>rfl
theorem KV.val{kvs:List (κ×V)}{vs:List (κ×Value)}(r:KV kvs vs)(k:κ):gN (iq kvs k) (valueAt vs k):=by
 unfold KV at r
 induction r with
 | nil=>exact True.intro
 | @cons p q ps qs h t ih =>
  obtain⟨h1,h2⟩:=h
  by_cases e:p.1=k
  ·have e':q.1=k:=h1.symm.trans e
   have b:valueAt (q::qs) k=some q.2:=by simp [valueAt,List.find?_cons,e']
   rw[kU e,b];exact h2
  ·have e':¬q.1=k:=λz=>e (h1.trans z)
   have b:valueAt (q::qs) k=valueAt qs k:=by simp [valueAt,List.find?_cons,e']
   rw[kT e,b];exact ih
theorem KV.any{kvs:List (κ×V)}{vs:List (κ×Value)}(r:KV kvs vs)(k:κ):(kvs.any λkv=>decide (kv.1=k))=vs.any λkv=>decide (kv.1=k):=by
 unfold KV at r
 induction r with
 | nil=>rfl
 | cons h t ih=>rw[List.any_cons,List.any_cons,ih,h.1]
theorem KV.repl{kvs:List (κ×V)}{vs:List (κ×Value)}(r:KV kvs vs)(k:κ){y:V}{u:Value}(ry:RelV y u):
  KV (kvs.map λkv=>if kv.1=k then(kv.1,y)else kv) (vs.map λkv=>if kv.1=k then(kv.1,u)else kv):=by
 unfold KV at r ⊢
 induction r with
 | nil=>exact .nil
 | @cons p q ps qs h t ih =>
  rw[List.map_cons,List.map_cons];refine .cons ?_ ih;obtain⟨h1,h2⟩:=h
  by_cases e:p.1=k
  ·rw[if_pos e,if_pos (h1.symm.trans e)];exact⟨h1,ry⟩
  ·rw[if_neg e,if_neg (λz=>e (h1.trans z))];exact⟨h1,h2⟩
theorem KV.put{kvs:List (κ×V)}{vs:List (κ×Value)}(r:KV kvs vs)(k:κ){y:V}{u:Value}(ry:RelV y u):KV (putK kvs k y) (stored vs k u):=by
 unfold putK stored;rw[r.any k]
 by_cases e:(vs.any λkv=>decide (kv.1=k))=true
 ·rw[if_pos e,if_pos e];exact r.repl k ry
 ·rw[if_neg e,if_neg e];exact Paired.snoc r ⟨rfl,ry⟩
theorem KV.drop{kvs:List (κ×V)}{vs:List (κ×Value)}(r:KV kvs vs)(k:κ):KV (mD kvs k) (without vs k):=by
 unfold KV at r ⊢;unfold mD without
 induction r with
 | nil=>exact .nil
 | @cons p q ps qs h t ih =>
  obtain⟨h1,h2⟩:=h;rw[List.filter_cons,List.filter_cons]
  by_cases e:p.1=k
  ·have a:¬decide (p.1≠k)=true:=by simp [e]
   have b:¬decide (q.1≠k)=true:=by simp [h1.symm.trans e]
   rw[if_neg a,if_neg b];exact ih
  ·have e':¬q.1=k:=λz=>e (h1.trans z)
   have a:decide (p.1≠k)=true:=by simp [e]
   have b:decide (q.1≠k)=true:=by simp [e']
   rw[if_pos a,if_pos b];exact .cons ⟨h1,h2⟩ ih
theorem KV.length{kvs:List (κ×V)}{vs:List (κ×Value)}(r:KV kvs vs):kvs.length=vs.length:=Paired.length r
theorem Df(kvs:List (κ×V))(k:κ):(mD kvs k).length<=kvs.length:=List.length_filter_le _ _
end
theorem vD{P:Program}{w:World}{k:Key}{u:Value}(r:RelV (kV k) u):(cj P w).is k u=true:=by
 cases k with
 | inl i=>obtain⟨t,e⟩:=(show∃t,u=Value.int i t from r);subst e;exact vJ P w i t
 | inr x=>obtain⟨t,e⟩:=(show∃t,u=Value.str x t from r);subst e;exact vK P w x t
theorem qG{P:Program}{w:World}:∀ {ks:List Key} {us:List Value},Vals (ks.map kV) us->ItemsAre (cj P w) ks us
 | [],_,r=>by rw[List.map_nil]at r;cases r;exact .nil
 | k::ks,_,r=>by
  rw[List.map_cons]at r;cases r with
  | cons h t=>exact .cons (vD h) (qG t)
abbrev KT(H:Hp):List (List Key×V)->List (List Key×Addr×Value)->Prop:=Paired λp q=>p.1=q.1/\H q.2.1=some (.tup (p.1.map kV))/\RelV p.2 q.2.2
theorem KT.val{H:Hp}{kvs:List (List Key×V)}{xs:List (List Key×Addr×Value)}(r:KT H kvs xs)(k:List Key):gN (iq kvs k) ((atKey xs k).map (·.2)):=by
 induction r with
 | nil=>exact True.intro
 | @cons p q ps qs h t ih =>
  obtain⟨h1,_,h2⟩:=h
  by_cases e:p.1=k
  ·have e':q.1=k:=h1.symm.trans e
   have b:atKey (q::qs) k=some q.2:=by simp [atKey,List.find?_cons,e']
   rw[kU e,b];exact h2
  ·have e':¬q.1=k:=λz=>e (h1.trans z)
   have b:atKey (q::qs) k=atKey qs k:=by simp [atKey,List.find?_cons,e']
   rw[kT e,b];exact ih
theorem KT.repl{H:Hp}{kvs:List (List Key×V)}{xs:List (List Key×Addr×Value)}(r:KT H kvs xs)(k:List Key){y:V}{u:Value}(ry:RelV y u):
  KT H (kvs.map λkv=>if kv.1=k then(kv.1,y)else kv) (xs.map (putAt k u)):=by
 induction r with
 | nil=>exact .nil
 | @cons p q ps qs h t ih =>
  rw[List.map_cons,List.map_cons];refine .cons ?_ ih;obtain⟨h1,h2,h3⟩:=h;unfold putAt
  by_cases e:p.1=k
  ·rw[if_pos e,if_pos (h1.symm.trans e)];exact⟨h1,h2,ry⟩
  ·rw[if_neg e,if_neg (λz=>e (h1.trans z))];exact⟨h1,h2,h3⟩
theorem KT.put{H:Hp}{kvs:List (List Key×V)}{xs:List (List Key×Addr×Value)}(r:KT H kvs xs)(k:List Key){b:Addr}{y:V}{u:Value}(hb:H b=some (.tup (k.map kV)))(ry:RelV y u):
  KT H (putK kvs k y) (storedH xs k b u):=by
 have e:(kvs.any λkv=>decide (kv.1=k))=(atKey xs k).isSome:=by
  rw[wy,(r.val k).lH,Option.isSome_map]
 unfold putK storedH;rw[e]
 by_cases q:(atKey xs k).isSome=true
 ·rw[if_pos q,if_pos q];exact r.repl k ry
 ·rw[if_neg q,if_neg q];exact Paired.snoc r ⟨rfl,hb,ry⟩
theorem KT.keeps{H H':Hp}{kvs:List (List Key×V)}{xs:List (List Key×Addr×Value)}(r:KT H kvs xs)(ht:∀b ys,H b=some (.tup ys)->H' b=some (.tup ys)):KT H' kvs xs:=
 Paired.Pw r λ_ _ z=>⟨z.1,ht _ _ z.2.1,z.2.2⟩
section
variable {P:Program}{w:World}{H:Hp}{h:Heap}{a:Addr}
theorem Lf{u:HO}(ok:fw P w H h)(e:Rd H a u):bW P w H h a u:=e.ok ok
theorem qm{kvs:List (Key×V)}(ok:fw P w H h)(e:Rd H a (.dK kvs)):kvs.length<=sizeLine/\(a==sysModules)=false/\∃vs,KV kvs vs/\h.DictOf (cj P w) a vs:=
 show bW P w H h a (.dK kvs)from Lf ok e
theorem nP{kvs:List (Key×V)}(ok:fw P w H h)(e:H a=some (.dK kvs)):kvs.length<=sizeLine/\(a==sysModules)=false/\∃vs,KV kvs vs/\h.DictOf (cj P w) a vs:=qm ok (.inl e)
theorem so{ks:List Key}(ok:fw P w H h)(e:H a=some (.tup (ks.map kV))):(tupleKind (cj P w)).is h ks a:=by
 obtain⟨_,its,r,o,h1,h2,n,h3⟩:=(show bW P w H h a (.tup (ks.map kV))from ok a _ e)
 exact⟨o,its.toArray,n,h1,h2,h3,by simpa using qG r⟩
theorem uS{kvs:List (List Key×V)}(ok:fw P w H h)(e:Rd H a (.dT kvs)):kvs.length<=sizeLine/\(a==sysModules)=false /\
  ∃xs,KT H kvs xs/\h.DictOfH (tupleKind (cj P w)) a xs:=by
 obtain⟨z,y,xs,r,o,es,ep,h1,h2,h3,h4,h5⟩:=(show bW P w H h a (.dT kvs)from Lf ok e)
 refine⟨z,y,xs,r,o,es,ep,h1,h2,h3,h4,λx hx=>?_,h5⟩;have all:∀ {l:List (List Key×V)} {m:List (List Key×Addr×Value)},KT H l m->∀x∈m,(tupleKind (cj P w)).is h x.1 x.2.1:=by
  intro l m q
  induction q with
  | nil=>intro x hx;exact nomatch hx
  | @cons p q ps qs hq t ih =>
   intro x hx;rcases List.mem_cons.mp hx with e|hx
   ·subst e
    exact so ok (by rw[<- hq.1];exact hq.2.1)
   ·exact ih x hx
 exact all r x hx
theorem VW{kvs:List (List Key×V)}(ok:fw P w H h)(e:H a=some (.dT kvs)):kvs.length<=sizeLine/\(a==sysModules)=false /\
  ∃xs,KT H kvs xs/\h.DictOfH (tupleKind (cj P w)) a xs:=uS ok (.inl e)
end
def rj(H:Hp)(a:Addr)(y:V)(r:Option V):Prop:=
 (∃kvs k,Rd H a (.dK kvs)/\y=kV k/\r=iq kvs k)\/∃kvs k b,Rd H a (.dT kvs)/\y=.ref b/\H b=some (.tup (k.map kV))/\r=iq kvs k
def G1(H:Hp)(a:Addr)(y v:V)(H':Hp):Prop:=
 (∃kvs k,H a=some (.dK kvs)/\y=kV k/\kvs.length<sizeLine/\H'=upd H a (.dK (putK kvs k v))) \/
 ∃kvs k b,H a=some (.dT kvs)/\y=.ref b/\H b=some (.tup (k.map kV))/\kvs.length<sizeLine/\H'=upd H a (.dT (putK kvs k v))
theorem rj.k{H:Hp}{a:Addr}{kvs:List (Key×V)}{k:Key}(e:H a=some (.dK kvs)):rj H a (kV k) (iq kvs k):=.inl ⟨kvs,k,.inl e,rfl,rfl⟩
theorem G1.k{H:Hp}{a:Addr}{kvs:List (Key×V)}{k:Key}{v:V}(e:H a=some (.dK kvs))(hl:kvs.length<sizeLine):G1 H a (kV k) v (upd H a (.dK (putK kvs k v))):=.inl ⟨kvs,k,e,rfl,hl,rfl⟩
section
variable {X:Cx}{pins:List (Addr×Obj)}{σ:St}{H:Hp}{s:Shared}{a:Addr}{y v:V}{u r:Value}{o:Option V}{A:Around}{E:Value->Shared->Prop}
theorem Inv.big(I:Inv X pins σ H s):sysModules<s.heap.objs.size:=by
 have h:mainGlobals<s.heap.objs.size:=(I.mod.glob.keeps I.bk).lt;exact Nat.lt_trans ∅ h
theorem Ac{Q:Value->Shared->Prop}(hu:A.units+1<cLine)(I:Inv X pins σ H s)(g:rj H a y (some v))(ry:RelV y u)(h:∀w' s',Inv X pins σ H s'->RelV v w'->Q w' s'):
  wpAny (model X.prog X.w) A (getItem (.ref a) u) Q E s:=by
 rcases g with⟨kvs,k,e,ey,l⟩|⟨kvs,k,b,e,ey,eb,l⟩
 ·subst ey
  obtain⟨z,hd,vs,rel,dd⟩:=qm I.bw e;obtain⟨w',hw,wU⟩:=gN.some_of (v:=v) (o:=valueAt vs k) (by rw[l];exact rel.val k)
  exact wpAny_getItem_of (vD ry) dd.mapOf hw (h w' _ (I.tok _) wU)
 ·subst ey
  cases(show u=Value.ref b from ry)
  obtain⟨z,hd,xs,rel,dd⟩:=uS I.bw e;obtain⟨w',hw,wU⟩:=gN.some_of (v:=v) (o:=(atKey xs k).map (·.2)) (by rw[l];exact rel.val k)
  obtain⟨p,hp,hp2⟩:=Option.map_eq_some_iff.mp hw;refine wpAny_getItem_heap (tupleKind_room_in1 hu) (so I.bw eb) dd hp ?_;rw[hp2];exact h w' _ (I.tok _) wU
theorem Hh{Q:Value->Shared->Prop}(hu:A.units+1<cLine)(I:Inv X pins σ H s)(g:rj H a y o)(ry:RelV y u)(h:∀s',Inv X pins σ H s'->Q (.bool (!o.isSome)) s'):
  wpAny (model X.prog X.w) A (compareOp .NotIn u (.ref a)) Q E s:=by
 rcases g with⟨kvs,k,e,ey,l⟩|⟨kvs,k,b,e,ey,eb,l⟩
 ·subst ey
  obtain⟨z,hd,vs,rel,dd⟩:=qm I.bw e;refine wpAny_notIn_of (vD ry) hd dd.mapOf ?_;rw[<- (rel.val k).lH,<- l];exact h _ (I.tok _)
 ·subst ey
  cases(show u=Value.ref b from ry)
  obtain⟨z,hd,xs,rel,dd⟩:=uS I.bw e;refine wpAny_notIn_heap (tupleKind_room_in1 hu) (so I.bw eb) hd dd ?_;have q:=(rel.val k).lH;rw[Option.isSome_map]at q;rw[<- q,<- l];exact h _ (I.tok _)
theorem rO{h':Heap}{t':Nat}{ob:HO}(I:Inv X pins σ H s)(mu:U9 (H a))(hs:Heap.SameBut a s.heap h')(he:∃q,h'.get? a=some q)(new:bW X.prog X.w (upd H a ob) h' a ob):
  Inv X pins σ (upd H a ob) {s with heap:=h',toks:=t'}:=
 I.write (x:=a) (e:=a) mu (.inl rfl) (λb q hb z=>(hs.2 b hb).trans z) he new
theorem Dc{P:Program}{w:World}{H':Hp}{h':Heap}{kvs:List (Key×V)}{vs:List (Key×Value)}(z:kvs.length<=sizeLine)(hd:(a==sysModules)=false)(rel:KV kvs vs)(dd:h'.DictOf (cj P w) a vs):
  bW P w H' h' a (.dK kvs):=⟨z,hd,vs,rel,dd⟩
theorem Ad{H':Hp}{Q:Unit->Shared->Prop}(hu:A.units+1<cLine)(I:Inv X pins σ H s)(g:G1 H a y v H')(ry:RelV y u)(rv:RelV v r)(h:∀s',Inv X pins σ H' s'->Q () s'):
  wpAny (model X.prog X.w) A (setItem (.ref a) u r) Q E s:=by
 rcases g with⟨kvs,k,e,ey,l,eH⟩|⟨kvs,k,b,e,ey,eb,l,eH⟩
 ·subst ey eH
  obtain⟨z,hd,vs,rel,dd⟩:=nP I.bw e;have hz:vs.length<=sizeLine:=by rw[<- rel.length];exact z
  have hl:(putK kvs k v).length<=sizeLine:=by have:=mI kvs k v;omega
  refine wpAny_setItem_pairs (hsz:=hz) (vD ry) dd λh' Bj hs=>h _ ?_;have he:∃q,h'.get? a=some q:=let ⟨q,_,_,hq,_⟩:=Bj;⟨q,hq⟩;exact rO I (by rw[e];exact True.intro) hs he (Dc hl hd (rel.put k rv) Bj)
 ·subst ey eH
  cases(show u=Value.ref b from ry)
  obtain⟨z,hd,xs,rel,dd⟩:=VW I.bw e;have hz:xs.length<=sizeLine:=by rw[<- Paired.length rel];exact z
  have hl:(putK kvs k v).length<=sizeLine:=by have:=mI kvs k v;omega
  refine wpAny_setItem_heap (hsz:=hz) (tupleKind_room_in1 hu) (so I.bw eb) dd λh' Bj hs=>h _ ?_;obtain⟨q,es,ep,hq,h2,h3,h4,_,h5⟩:=Bj;refine rO I (by rw[e];exact True.intro) hs ⟨q,hq⟩ ⟨hl,hd,_,(rel.put k eb rv).keeps λc ys ec=>?_,q,es,ep,hq,h2,h3,h4,h5⟩
  rw[aq (fF ec e (λz=>nomatch z))];exact ec
end
section
variable {X:Cx}{pins:List (Addr×Obj)}{σ:St}{H:Hp}{s:Shared}{a:Addr}{kvs:List (Key×V)}{k:Key}{u:Value}{A:Around}{E:Value->Shared->Prop}
theorem VI{v:V}{more:List Value}{Q:Value->Shared->Prop}(I:Inv X pins σ H s)(e:H a=some (.dK kvs))(ry:RelV (kV k) u)(l:iq kvs k=some v)(hm:more=[]\/∃x,more=[x])
  (h:∀w' s',Inv X pins σ (upd H a (.dK (mD kvs k))) s'->RelV v w'->Q w' s'):wpAny (model X.prog X.w) A (call (.builtin "dict.pop") (.ref a::u::more)) Q E s:=by
 obtain⟨z,hd,vs,rel,dd⟩:=nP I.bw e;obtain⟨w',hw,wU⟩:=gN.some_of (v:=v) (o:=valueAt vs k) (by rw[<- l];exact rel.val k)
 have hp:(keyPart u).isSome=true:=by
  cases k with
  | inl i=>obtain⟨t,q⟩:=(show∃t,u=Value.int i t from ry);subst q;rfl
  | inr x=>obtain⟨t,q⟩:=(show∃t,u=Value.str x t from ry);subst q;rfl
 have ha:argsOk "dict.pop" ⟨.ref a::u::more,[]⟩:=by
  rcases hm with q|⟨x,q⟩
  ·subst q;exact PySem.F.args_dict_pop_2 _ _
  ·subst q;exact PySem.F.args_dict_pop_3 _ _ _
 refine call_meetsIn PySem.F.slot_dict_pop dd.typeIs PySem.F.entry_dict_pop ha (meets_dict_pop_there (cj X.prog X.w) a (vD ry) more hm hp)
  ⟨vs,w',dd,by rw[<- rel.length];exact z,hw,λh' Bj hs=>h w' _ ?_ wU⟩
 have he:∃q,h'.get? a=some q:=let ⟨q,_,_,hq,_⟩:=Bj;⟨q,hq⟩;exact rO I (by rw[e];exact True.intro) hs he (Dc (Nat.le_trans (Df kvs k) z) hd (rel.drop k) Bj)
theorem VH{Q:Value->Shared->Prop}(I:Inv X pins σ H s)(e:Rd H a (.dK kvs))(h:∀t s',Inv X pins σ H s'->Q (.int kvs.length t) s'):wpAny (model X.prog X.w) A (call (.builtin "len") [.ref a]) Q E s:=by
 obtain⟨z,hd,vs,rel,dd⟩:=qm I.bw e;refine call_len_dict hd dd (by rw[<- rel.length];rw[sizeLine_eq]at z;omega) ?_
 rw[<- rel.length];exact h _ _ (I.tok _)
end
def LN(i:Expr):Prop:=∀ov iv,subscripted i false ov iv=operate [ov,iv] (getItem ov iv)
theorem Jx{prog:Program}{w:World}{A:Around}{E:Value->Shared->Prop}{s:Shared}{env:Env}{value slice:Expr}{pos:Pos}{T id:String}{Q:Value->Shared->Prop}
  (hl:typeLookup (.type T) "__getitem__"=pure (some (.builtin id))) (hs:LN slice)
  (h:wpAny (model prog w) A (eval value env) (λo bN=>wpAny (model prog w) A (eval slice env) (λi tZ=>tZ.TypeIs o T/\wpAny (model prog w) A (getItem o i) Q E tZ) E bN) E s):
  wpAny (model prog w) A (eval (.Subscript value slice pos) env) Q E s:=by
 refine Subscript_ (wpAny_mono h (λo bN HP=>wpAny_mono HP (λi tZ D7=>?_) λ_ _ x=>x) λ_ _ x=>x);obtain⟨hT,D7⟩:=D7;unfold subscriptTail;refine wpAny_bind ?_;rw[getitemInPython_of_ne hT.not_modules];refine wpAny_bind (wpAny_specialOf hT hl ?_);have fin:wpAny (model prog w) A (subscripted slice false o i) (λr wg=>wpAny (model prog w) A (letTemporaryGo value o r >>= λ_=>pure r) Q E wg) E tZ:=by
  rw[hs o i];exact wpAny_operating (wpAny_mono D7 (λr wg HR=>wpAny_bind (wpAny_letTemporaryGo (wpAny_pure HR))) λ_ _ x=>x)
 first
  | exact wpAny_pure (wpAny_bind fin)
  | exact wpAny_bind (wpAny_pure (wpAny_bind fin))
  | exact wpAny_bind fin
theorem uQ{X:Cx}{pins:List (Addr×Obj)}{σ:St}{H:Hp}{s:Shared}{a:Addr}{y:V}{o:Option V}(I:Inv X pins σ H s)(g:rj H a y o):s.TypeIs (.ref a) "dict":=by
 rcases g with⟨kvs,k,e,_,_⟩|⟨kvs,k,b,e,_,_,_⟩
 ·obtain⟨_,_,vs,_,dd⟩:=qm I.bw e
  exact dd.typeIs
 ·obtain⟨_,_,xs,_,dd⟩:=uS I.bw e
  exact dd.typeIs
def Zf(td ty:TE):TE:=λσ H Q=>td σ H λx H1=>ty σ H1 λy H2=>∃a v,x=.ref a/\rj H2 a y (some v)/\Q v H2
def YR(td ty tv:TE):TS:=λD σ H=>tv σ H λv H1=>td σ H1 λx H2=>ty σ H2 λy H3=>∃a H4,x=.ref a/\G1 H3 a y v H4/\D.nx σ H4
section
variable {X:Cx}{o i e value:Expr}{pos pos' yh:Pos}{td ty tv:TE}
theorem IQ(hu:X.A.units+1<cLine)(ho:PE X o td)(hi:PE X i ty)(hs:LN i):PE X (.Subscript o i pos) (Zf td ty):=by
 intro pins s σ H Q I h;refine Jx PySem.F.slot_dict_getitem.lookup hs (cE (ho pins s σ H _ I h) λu s1 ⟨x,H1,I1,rx,q1⟩=>cE (hi pins s1 σ H1 _ I1 q1) λiv s2 ⟨y,H2,I2,ry,a,v,ex,g,q2⟩=>?_);subst ex;obtain rfl:u=Value.ref a:=rx;exact⟨uQ I2 g,Ac hu I2 g ry λw' s3 I3 wU=>⟨v,H2,I3,wU,q2⟩⟩
theorem zq(hu:X.A.units+1<cLine)(ho:PE X o td)(hi:PE X i ty)(hv:PE X value tv)(hs:swapsWith value (some (.Subscript o i pos')) pos.line X.env=pure false):
  PS X (.Assign [.Subscript o i pos'] value pos) (YR td ty tv):=by
 intro pins s σ H D I h;refine wpAny_Assign_Subscript (cE (hv pins s σ H _ I h) λr s1 ⟨v,H1,I1,rv,q1⟩=>cE (ho pins s1 σ H1 _ I1 q1) λu s2 ⟨x,H2,I2,rx,q2⟩=>cE (hi pins s2 σ H2 _ I2 q2) λiv s3 ⟨y,H3,I3,ry,a,H4,ex,g,q3⟩=>?_) hs;subst ex;obtain rfl:u=Value.ref a:=rx;exact Ad hu I3 g ry rv λs4 I4=>⟨σ,H4,I4,q3⟩
end
theorem C9{P:Program}{w:World}{H:Hp}(h:Heap)(hb:sysModules<h.objs.size):bW P w H (h.push {cls:=.type "dict",data:=.dict #[]}) h.objs.size (.dK []):=
 ⟨Nat.zero_le _,beq_eq_false_iff_ne.mpr (Ne.symm (Nat.ne_of_lt hb)),[],.nil,Heap.DictOf.new h⟩
def FC:TE:=λ_ H Q=>∀p,H p=none->Q (.ref p) (upd H p (.dK []))
section
variable {X:Cx}{pos:Pos}
theorem jS:PE X (.Dict [] [] pos) FC:=λpins s σ H Q I h =>
 wpAny_Dict_empty ⟨.ref s.heap.objs.size,_,I.laid (a:=s.heap.objs.size) (o:=.dK []) (t':=s.toks) (λ_ _ q=>Heap.get?_push_of_some _ q) (Nat.le_refl _) (C9 s.heap I.big),rfl,h _ (I.bw.fresh (Nat.le_refl _))⟩
end
def uc:List (TE×TE)->St->Hp->(List (V×V)->Hp->Prop)->Prop
 | [],_,H,Q=>Q [] H
 | (tk,tv)::r,σ,H,Q=>tk σ H λx H1=>tv σ H1 λy H2=>uc r σ H2 λps H3=>Q ((x,y)::ps) H3
structure M1(X:Cx)(o:Expr)(m:Str)(apos:Pos)(e:Expr)(di:Pos):Prop where
 base:attributeBase o m X.env (eval o X.env)=eval o X.env
 few:((backTo di (starEach [e] X.env)).all (λx=>!x.1)&&(backToKw di (keywordEach [] X.env)).all (λx=>x.1.isSome)
 &&decide (([e]:List Expr).length+([]:List Keyword).length+(if([]:List Keyword).isEmpty then 0 else 1)<30))=true
 line:(apos.endLine==di.line)=true
 trees:backTo di (starEach [e] X.env)=[(false,eval e X.env)]
def IsD(H:Hp)(a:Addr):Prop:=(∃kvs,Rd H a (.dK kvs))\/∃kvs,Rd H a (.dT kvs)
theorem OD{X:Cx}{pins:List (Addr×Obj)}{σ:St}{H:Hp}{s:Shared}{a:Addr}(I:Inv X pins σ H s)(d:IsD H a):
  s.TypeIs (.ref a) "dict"/\(∀b,Value.ref a=.ref b->∃ob,s.heap.get? b=some ob/\ob.dict=none)/\(a==sysModules)=false:=by
 rcases d with⟨kvs,e⟩|⟨kvs,e⟩
 ·obtain⟨_,hd,vs,_,dd⟩:=qm I.bw e
  refine⟨dd.typeIs,λb q=>?_,hd⟩;cases q;obtain⟨ob,_,_,h1,h2,_⟩:=dd;exact⟨ob,h1,h2.2.1⟩
 ·obtain⟨_,hd,xs,_,dd⟩:=uS I.bw e
  refine⟨dd.typeIs,λb q=>?_,hd⟩;cases q;obtain⟨ob,_,_,h1,h2,_⟩:=dd;exact⟨ob,h1,h2.2.1⟩
def Tw(td ty:TE):TE:=λσ H Q=>td σ H λx H1=>∃a,x=.ref a/\IsD H1 a/\ty σ H1 λy H2=>∃kvs k v,H2 a=some (.dK kvs)/\y=kV k/\iq kvs k=some v/\Q v (upd H2 a (.dK (mD kvs k)))
section
variable {X:Cx}{o e f:Expr}{apos di:Pos}{td ty tx:TE}
theorem vS(ho:PE X o td)(he:PE X e ty)(m:M1 X o "pop" apos e di):PE X (.Call (.Attribute o "pop" apos) [e] [] di) (Tw td ty):=by
 intro pins s σ H Q I h;refine wpAny_Call_method m.base m.few m.line PySem.F.plainAttrs_dict PySem.F.slot_dict_pop PySem.F.type_dict_pop (cE (ho pins s σ H _ I h) λu s1 ⟨x,H1,I1,rx,a,ex,d,q1⟩=>?_);subst ex;obtain rfl:u=Value.ref a:=rx;obtain⟨t1,t2,_⟩:=OD I1 d;refine⟨t1,t2,?_⟩;rw[m.trees];refine Calls.callWith_builtin rfl (Calls.evalArgs_plain (Calls.spliced_cons (cE (he pins s1 σ H1 _ I1 q1) λiv s2 ⟨y,H2,I2,ry,kvs,k,v,ea,ey,l,q2⟩=>Calls.spliced_nil ?_)));subst ey;exact VI I2 ea ry l (.inl rfl) λw' s3 I3 wU=>⟨v,_,I3,wU,q2⟩
end
end L2
namespace Vc
open PySem L2
class KF where
 K:PySem.W.Frag
 /-- where the classes of exceptions stand -/
 cls:Str->Addr:=λ_=>0
 /-- the code tables that a lambda fills: where,as they were,the lambda's place,its name -/
 tabs:List (Addr×Array Value×Pos×Str):=[]
variable [KF]
inductive D where
 | aV|bl (b:Bool)|int (i:Int)|str (x:Str)|tup (xs:List D)|lst (xs:List D)|dct (kvs:List (D×D))|exc (c:Str)
 /-- the law's own list: read,never changed -/
 | iL (ns:List Int)
 /-- a dict with whole numbers for keys -/
 | gv (kvs:List (Int×D))
 /-- kept points: the word,the count,the next name,the points by their names -/
 | kp (w:Str) (c e:Int) (kvs:List (Int×D))
def xm(a:Addr)(c:Str):HO:=.ext λh=>∃o,h.get? a=some o/\o.cls=.ref (KF.cls c)
def kD:Key->D
 | .inl i=>.int i
 | .inr x=>.str x
def GV(w:Str)(c e:Int)(ad:Addr):List (Str×V):=[("way",.str w),("count",.int c),("points_by_name",.ref ad),("ever_put",.int e)]
mutual
inductive Rep (F:Hp):V->D->Prop where
 | aV:Rep F .aV .aV
 | bl (b:Bool):Rep F (.bl b) (.bl b)
 | int (i:Int):Rep F (.int i) (.int i)
 | str (x:Str):Rep F (.str x) (.str x)
 | tup {a:Addr} {vs:List V} {ds:List D}:F a=some (.tup vs)->aH F vs ds->Rep F (.ref a) (.tup ds)
 | lst {a:Addr} {vs:List V} {ds:List D}:Rd F a (.lst vs)->aH F vs ds->Rep F (.ref a) (.lst ds)
 | iL {a:Addr} {ns:List Int}:gE KF.K F a (ns.map V.int)->Rep F (.ref a) (.iL ns)
 | exc {a:Addr} {c:Str}:F a=some (xm a c)->Rep F (.ref a) (.exc c)
 | Ho {a:Addr} {ks:List (List Key×V)} {kvs:List (D×D)}:F a=some (.dT ks)->rn F ks kvs->Rep F (.ref a) (.dct kvs)
 | gv {a:Addr} {ks:List (Key×V)} {kvs:List (Int×D)}:F a=some (.dK ks)->b7 F ks kvs->Rep F (.ref a) (.gv kvs)
 | kp {a dx ad:Addr} {w:Str} {c e:Int} {ks:List (Key×V)} {kvs:List (Int×D)}:F a=some (.ins (KF.cls "Kept") dx (GV w c e ad))->F ad=some (.dK ks)->b7 F ks kvs->Rep F (.ref a) (.kp w c e kvs)
inductive b7 (F:Hp):List (Key×V)->List (Int×D)->Prop where
 | nil:b7 F [] []
 | cons {i:Int} {v:V} {d:D} {ks:List (Key×V)} {kvs:List (Int×D)}:Rep F v d->b7 F ks kvs->b7 F ((.inl i,v)::ks) ((i,d)::kvs)
inductive wY (F:Hp):List (Key×V)->List (D×D)->Prop where
 | nil:wY F [] []
 | cons {k:Key} {v:V} {d:D} {ks:List (Key×V)} {kvs:List (D×D)}:Rep F v d->wY F ks kvs->wY F ((k,v)::ks) ((kD k,d)::kvs)
inductive rn (F:Hp):List (List Key×V)->List (D×D)->Prop where
 | nil:rn F [] []
 | cons {k:List Key} {v:V} {d:D} {ks:List (List Key×V)} {kvs:List (D×D)}:Rep F v d->rn F ks kvs->rn F ((k,v)::ks) ((.tup (k.map kD),d)::kvs)
inductive aH (F:Hp):List V->List D->Prop where
 | nil:aH F [] []
 | cons {v:V} {d:D} {vs:List V} {ds:List D}:Rep F v d->aH F vs ds->aH F (v::vs) (d::ds)
end
theorem Rd.mono{F F':Hp}(s:aw F F'){a:Addr}{u:HO}(h:Rd F a u):Rd F' a u:=by
 rcases h with h|⟨o,h⟩
 ·exact .inl (s a _ h)
 ·exact .inr ⟨o,s a _ h⟩
mutual
theorem Rep.mono{F F':Hp}(s:aw F F'){v:V}{d:D}:Rep F v d->Rep F' v d
 | .aV=>.aV
 | .bl b=>.bl b
 | .int i=>.int i
 | .str x=>.str x
 | .tup h r=>.tup (s _ _ h) (aH.mono s r)
 | .lst h r=>.lst (Rd.mono s h) (aH.mono s r)
 | .iL h=>.iL (s.seq h)
 | .exc h=>.exc (s _ _ h)
 | .Ho h r=>.Ho (s _ _ h) (rn.mono s r)
 | .gv h r=>.gv (s _ _ h) (b7.mono s r)
 | .kp h1 h2 r=>.kp (s _ _ h1) (s _ _ h2) (b7.mono s r)
theorem b7.mono{F F':Hp}(s:aw F F'){ks:List (Key×V)}{kvs:List (Int×D)}:b7 F ks kvs->b7 F' ks kvs
 | .nil=>.nil
 | .cons h r=>.cons (Rep.mono s h) (b7.mono s r)
theorem wY.mono{F F':Hp}(s:aw F F'){ks:List (Key×V)}{kvs:List (D×D)}:wY F ks kvs->wY F' ks kvs
 | .nil=>.nil
 | .cons h r=>.cons (Rep.mono s h) (wY.mono s r)
theorem rn.mono{F F':Hp}(s:aw F F'){ks:List (List Key×V)}{kvs:List (D×D)}:rn F ks kvs->rn F' ks kvs
 | .nil=>.nil
 | .cons h r=>.cons (Rep.mono s h) (rn.mono s r)
theorem aH.mono{F F':Hp}(s:aw F F'){vs:List V}{ds:List D}:aH F vs ds->aH F' vs ds
 | .nil=>.nil
 | .cons h r=>.cons (Rep.mono s h) (aH.mono s r)
end
theorem aH.length{F:Hp}:∀ {vs:List V} {ds:List D},aH F vs ds->vs.length=ds.length
 | _,_,.nil=>rfl
 | _,_,.cons _ r=>by simp [aH.length r]
theorem aH.append{F:Hp}:∀ {vs ws:List V} {ds es:List D},aH F vs ds->aH F ws es->aH F (vs++ws) (ds++es)
 | _,_,_,_,.nil,s=>s
 | _,_,_,_,.cons h r,s=>.cons h (aH.append r s)
theorem aH.get{F:Hp}:∀ {vs:List V} {ds:List D} {i:Nat} {d:D},aH F vs ds->ds[i]?=some d->∃v,vs[i]?=some v/\Rep F v d
 | _,_,_,_,.nil,e=>by simp at e
 | _,_,0,_,.cons h _,e=>by simp at e;subst e;exact⟨_,by simp,h⟩
 | _,_,i+1,_,.cons _ r,e=>by
  obtain⟨v,h1,h2⟩:=aH.get (i:=i) r (by simpa using e)
  exact⟨v,by simpa using h1,h2⟩
theorem aH.get'{F:Hp}:∀ {vs:List V} {ds:List D} {i:Nat} {v:V},aH F vs ds->vs[i]?=some v->∃d,ds[i]?=some d/\Rep F v d
 | _,_,_,_,.nil,e=>by simp at e
 | _,_,0,_,.cons h _,e=>by simp at e;subst e;exact⟨_,by simp,h⟩
 | _,_,i+1,_,.cons _ r,e=>by
  obtain⟨v,h1,h2⟩:=aH.get' (i:=i) r (by simpa using e)
  exact⟨v,by simpa using h1,h2⟩
theorem aH.take{F:Hp}:∀ {vs:List V} {ds:List D} (n:Nat),aH F vs ds->aH F (vs.take n) (ds.take n)
 | _,_,0,_=>.nil
 | _,_,_+1,.nil=>.nil
 | _,_,n+1,.cons h r=>.cons h (aH.take n r)
theorem aH.drop{F:Hp}:∀ {vs:List V} {ds:List D} (n:Nat),aH F vs ds->aH F (vs.drop n) (ds.drop n)
 | _,_,0,r=>r
 | _,_,_+1,.nil=>.nil
 | _,_,n+1,.cons _ r=>aH.drop n r
theorem aH.rep{F:Hp}{vs:List V}{ds:List D}(r:aH F vs ds):∀n:Nat,aH F (List.replicate n vs).flatten (List.replicate n ds).flatten
 | 0=>.nil
 | n+1=>by
  rw[List.replicate_succ,List.replicate_succ,List.flatten_cons,List.flatten_cons];exact r.append (aH.rep r n)
def cf(F H:Hp)(v:V)(d:D):Prop:=match d with
 | .lst xs=>∃a vs,v=.ref a/\Rd H a (.lst vs)/\aH F vs xs
 | .gv kvs=>∃a ks,v=.ref a/\H a=some (.dK ks)/\b7 F ks kvs
 | .kp w c e kvs=>∃a dx ad ks,v=.ref a/\H a=some (.ins (KF.cls "Kept") dx (GV w c e ad))/\H ad=some (.dK ks)/\b7 F ks kvs
 | d=>Rep F v d
theorem aM{H:Hp}{p:Addr}{o:HO}(h:H p=none):aw H (upd H p o):=λb u e=>by
 rw[aq (bj e h)];exact e
theorem jj{F H:Hp}(s:aw F H){a:Addr}{o:HO}(e:H a=some o):∃F',aw F F'/\aw F' H/\F' a=some o/\∀c u,F' c=some u->F c=some u\/(c=a/\u=o):=by
 cases ef:F a with
 | none =>
  refine⟨upd F a o,aM ef,λb u q=>?_,az,λc u q=>?_⟩
  ·by_cases hb:b=a
   ·subst hb;rw[az]at q;cases q;exact e
   ·rw[aq hb]at q;exact s b u q
  ·by_cases hb:c=a
   ·subst hb;rw[az]at q;cases q;exact .inr ⟨rfl,rfl⟩
   ·rw[aq hb]at q;exact .inl q
 | some u =>
  have:=s a u ef;rw[e]at this;cases this;exact⟨F,aw.refl _,s,ef,λ_ _ z=>.inl z⟩
def dl:HO->Bool
 | .dK _=>true
 | .ins _ _ _=>true
 | _=>false
structure O where
 fp:Addr->List Addr
 rep:Hp->Hp->Addr->Prop
 self:∀a,a∈fp a
 solid:∀ {F H:Hp} {a b:Addr} {φ:Heap->Prop},rep F H a->b∈fp a->H b≠some (.ext φ)
 nt:∀ {F H:Hp} {a b:Addr} {vs:List V},rep F H a->b∈fp a->H b≠some (.tup vs)
 mono:∀ {F F' H H':Hp} {a:Addr},aw F F'->(∀b∈fp a,H' b=H b)->rep F H a->rep F' H' a
 /-- what it is as data,where it is that -/
 view:Option D:=none
 sees:∀ {F H:Hp} {a:Addr} {d:D},rep F H a->view=some d->cf F H (.ref a) d:=by intro _ _ _ _ _ e;cases e
 lend:∀ {F H:Hp} {a:Addr} {d:D},aw F H->rep F H a->view=some d->∃F',aw F F'/\aw F' H/\Rep F' (.ref a) d/\∀c u,F' c=some u->F c=some u\/(dl u=true/\c∈fp a):=by intro _ _ _ _ _ _ e;cases e
 /-- where it stands -/
 loc:Option Addr:=none
 Il:∀ {F H:Hp} {a b:Addr},rep F H a->loc=some b->a=b:=by intro _ _ _ _ _ e;cases e
inductive B where
 | sh (d:D)
 | own (xs:List D)
 | obj (o:O)
abbrev Sd:=List (Option B)
structure bP where
 H0:Hp
 F0:Hp
 io:List (Nat×Addr)
 /-- the addresses of things that were handed in to be changed -/
 ob:List Addr
def bP.ZW(Y:bP):List Addr:=Y.io.map (·.2)
def bP.D8(Y:bP):List Addr:=Y.io.map (·.2)++Y.ob
theorem bP.HW{Y:bP}{a:Addr}(h:a∉Y.D8):a∉Y.ZW:=λz=>h (List.mem_append_left _ z)
def gM(ai:Sd)(σ:St)(b:Addr):Prop:=∃(i:Nat) (o:O) (a:Addr),ai[i]?=some (some (.obj o))/\σ[i]?=some (some (.ref a))/\b∈o.fp a
def k6(F:Hp):Prop:=∀q∈KF.tabs,F q.1=some (.lam q.2.1 q.2.2.1 q.2.2.2)
theorem k6.mono{F F':Hp}(h:k6 F)(s:aw F F'):k6 F':=λq hq=>s _ _ (h q hq)
def p0(F H:Hp):Prop:=aw F H/\k6 F
structure uC(Y:bP)(F:Hp)(ai:Sd)(σ:St)(H:Hp):Prop where
 obj:∀(i:Nat) (o:O),ai[i]?=some (some (.obj o))->∃a,σ[i]?=some (some (.ref a))/\o.rep F H a/\∀b∈o.fp a,F b=none/\H b≠none/\(Y.H0 b=none\/b∈Y.ob)
 nQ:∀(i j:Nat) (o p:O) (a b:Addr),ai[i]?=some (some (.obj o))->ai[j]?=some (some (.obj p))->σ[i]?=some (some (.ref a))->σ[j]?=some (some (.ref b))->i≠j->∀c∈o.fp a,c∉p.fp b
 gP:∀(j:Nat) (xs:List D) (b:Addr),ai[j]?=some (some (.own xs))->σ[j]?=some (some (.ref b))->¬gM ai σ b
 there:∀b∈Y.ob,H b≠none
 Gf:∀b∈Y.ob,Y.H0 b≠none
 tab:k6 F
theorem uC.owned{Y:bP}{F:Hp}{ai:Sd}{σ:St}{H:Hp}(X:uC Y F ai σ H){b:Addr}(h:gM ai σ b):F b=none/\H b≠none/\(Y.H0 b=none\/b∈Y.ob):=by
 obtain⟨i,o,a,e1,e2,hb⟩:=h;obtain⟨a',e3,_,h3⟩:=X.obj i o e1;rw[e2]at e3;cases e3;exact h3 b hb
theorem uC.Ew{Y:bP}{F:Hp}{ai:Sd}{σ:St}{H:Hp}(X:uC Y F ai σ H){b:Addr}(h:gM ai σ b){φ:Heap->Prop}:H b≠some (.ext φ):=by
 obtain⟨i,o,a,e1,e2,hb⟩:=h;obtain⟨a',e3,h2,_⟩:=X.obj i o e1;rw[e2]at e3;cases e3;exact o.solid h2 hb
theorem uC.XI{Y:bP}{F:Hp}{ai:Sd}{σ:St}{H:Hp}(X:uC Y F ai σ H){b:Addr}(h:gM ai σ b){vs:List V}:H b≠some (.tup vs):=by
 obtain⟨i,o,a,e1,e2,hb⟩:=h;obtain⟨a',e3,h2,_⟩:=X.obj i o e1;rw[e2]at e3;cases e3;exact o.nt h2 hb
theorem uC.step{Y Y':bP}{F F':Hp}{ai aI:Sd}{σ cq:St}{H H':Hp}(X:uC Y F ai σ H)(hs:aw F F')
  (ZV:∀(i:Nat) (o:O),aI[i]?=some (some (.obj o))->ai[i]?=some (some (.obj o))/\cq[i]?=σ[i]?)
  (hb:∀b,gM ai σ b->H' b=H b/\F' b=none/\(Y'.H0 b=none\/b∈Y'.ob))
  (aaI:∀(j:Nat) (ys:List D) (b:Addr),aI[j]?=some (some (.own ys))->cq[j]?=some (some (.ref b))->¬gM ai σ b)
  (hth:∀b∈Y'.ob,H' b≠none) (hz:∀b∈Y'.ob,b∈Y.ob/\(Y.H0 b≠none->Y'.H0 b≠none):=by exactλb hb=>⟨hb,id⟩):uC Y' F' aI cq H' where
 obj:=λi o e=>by
  obtain⟨e1,e2⟩:=ZV i o e;obtain⟨a,h1,h2,h3⟩:=X.obj i o e1;have ow:∀b∈o.fp a,gM ai σ b:=λb z=>⟨i,o,a,e1,h1,z⟩;refine⟨a,by rw[e2];exact h1,o.mono hs (λb z=>(hb b (ow b z)).1) h2,λb z=>⟨(hb b (ow b z)).2.1,?_,(hb b (ow b z)).2.2⟩⟩
  rw[(hb b (ow b z)).1];exact(h3 b z).2.1
 nQ:=λi j o p a b e1 e2 e3 e4=>by
  obtain⟨q1,q2⟩:=ZV i o e1;obtain⟨q3,q4⟩:=ZV j p e2;rw[q2]at e3;rw[q4]at e4;exact X.nQ i j o p a b q1 q3 e3 e4
 gP:=λj xs b e1 e2 ⟨i,o,a,e3,e4,hm⟩=>by
  obtain⟨q1,q2⟩:=ZV i o e3;rw[q2]at e4;exact aaI j xs b e1 e2 ⟨i,o,a,q1,e4,hm⟩
 there:=hth
 Gf:=λb hb=>(hz b hb).2 (X.Gf b (hz b hb).1)
 tab:=X.tab.mono hs
theorem uC.put{Y:bP}{F:Hp}{ai:Sd}{σ cq:St}{H:Hp}{i:Nat}{b':Option B}(X:uC Y F ai σ H)(h1:∀j,j≠i->cq[j]?=σ[j]?)(hn:∀o,b'≠some (.obj o))
  (hw:∀ys a,b'=some (.own ys)->cq[i]?=some (some (.ref a))->¬gM ai σ a):uC Y F (ai.set i b') cq H:=by
 have gs:∀ {j:Nat} {y:Option B},(ai.set i b')[j]?=some y->(j=i/\y=b')\/(j≠i/\ai[j]?=some y):=λ{j y} h=>by
  by_cases hj:j=i
  ·subst hj
   by_cases hl:j<ai.length
   ·rw[List.getElem?_set_self hl]at h;exact .inl ⟨rfl,(Option.some.inj h).symm⟩
   ·have:(ai.set j b')[j]?=none:=by rw[List.getElem?_eq_none_iff];simp;omega
    rw[this]at h;cases h
  ·rw[List.getElem?_set_ne (Ne.symm hj)]at h;exact .inr ⟨hj,h⟩
 refine X.step (aw.refl _) (λj o e=>?_) (λb hb=>⟨rfl,(X.owned hb).1,(X.owned hb).2.2⟩) (λj ys b e1 e2=>?_) X.there
 ·rcases gs e with⟨_,z⟩|⟨hj,z⟩
  ·exact absurd z.symm (hn o)
  ·exact⟨z,h1 j hj⟩
 ·rcases gs e1 with⟨rfl,z⟩|⟨hj,z⟩
  ·exact hw ys b z.symm e2
  ·rw[h1 j hj]at e2;exact X.gP j ys b z e2
theorem uC.none{Y:bP}{F:Hp}{ai:Sd}{σ:St}{H:Hp}(h:∀(i:Nat) (o:O),ai[i]?≠some (some (.obj o)))(aaK:k6 F)(hth:∀b∈Y.ob,H b≠none)(hz:∀b∈Y.ob,Y.H0 b≠none:=by intro b hb;cases hb):uC Y F ai σ H where
 Gf:=hz
 tab:=aaK
 obj:=λi o e=>absurd e (h i o)
 nQ:=λi _ o _ _ _ e=>absurd e (h i o)
 gP:=λ_ _ _ _ _ ⟨i,o,_,e,_⟩=>h i o e
 there:=hth
def Nw(H:Hp)(b:Addr)(o:HO):Prop:=H b=none\/∃vs,o=.tup vs
structure RS(Y:bP)(F:Hp)(ai:Sd)(σ:St)(H:Hp):Prop where
 len:ai.length=σ.length
 lo:aw Y.F0 F
 fr:aw F H
 fW:∀b o,F b=some o->Y.F0 b=some o\/Nw Y.H0 b o
 old:∀b o,Y.H0 b=some o->b∉Y.D8->H b=some o
 sh:∀(i:Nat) (d:D),ai[i]?=some (some (.sh d))->∃v,σ[i]?=some (some v)/\Rep F v d
 own:∀(i:Nat) (xs:List D),ai[i]?=some (some (.own xs))->∃a vs,σ[i]?=some (some (.ref a))/\H a=some (.lst vs)/\aH F vs xs/\F a=none/\(Y.H0 a=none\/a∈Y.ZW)
 dis:∀(i j:Nat) (xs ys:List D) (a:Addr),ai[i]?=some (some (.own xs))->ai[j]?=some (some (.own ys))->σ[i]?=some (some (.ref a))->σ[j]?=some (some (.ref a))->i=j
 io:∀p∈Y.io,σ[p.1]?=some (some (.ref p.2))/\∃xs,ai[p.1]?=some (some (.own xs))
 ob:uC Y F ai σ H
theorem Fp{F H:Hp}{p:Addr}{o:HO}(s:aw F H):aw (upd F p o) (upd H p o):=λb u e=>by
 by_cases hb:b=p
 ·subst hb;rw[az]at e ⊢;exact e
 ·rw[aq hb]at e ⊢;exact s b u e
theorem same_none{F H:Hp}(s:aw F H){p:Addr}(h:H p=none):F p=none:=s.free h
theorem RS.bX{Y:bP}{F:Hp}{ai:Sd}{σ:St}{H:Hp}{p:Addr}(R:RS Y F ai σ H)(h:H p=none):Y.H0 p=none/\p∉Y.D8:=by
 have eA:p∉Y.D8:=λhm=>by
  rcases List.mem_append.mp hm with hm|hm
  case inr=>exact R.ob.there p hm h
  obtain⟨q,hq,e⟩:=List.mem_map.mp hm;obtain⟨h1,xs,h2⟩:=R.io q hq;obtain⟨a,vs,h3,h4,_⟩:=R.own _ _ h2;rw[h1]at h3;cases h3;rw[e,h]at h4;cases h4
 refine⟨?_,eA⟩;cases e:Y.H0 p with
 | none=>rfl
 | some o=>rw[R.old p o e eA]at h;cases h
theorem RS.alloc{Y:bP}{F:Hp}{ai:Sd}{σ:St}{H:Hp}{p:Addr}{o:HO}(R:RS Y F ai σ H)(h:H p=none):RS Y (upd F p o) ai σ (upd H p o) where
 len:=R.len
 lo:=R.lo.trans (aM (same_none R.fr h))
 fr:=Fp R.fr
 fW:=λb u e=>by
  by_cases hb:b=p
  ·subst hb;exact .inr (.inl (R.bX h).1)
  ·rw[aq hb]at e;exact R.fW b u e
 old:=λb u e n=>by
  have:=R.old b u e n;rw[aq (bj this h)];exact this
 sh:=λi d e=>by
  obtain⟨v,h1,h2⟩:=R.sh i d e;exact⟨v,h1,h2.mono (aM (same_none R.fr h))⟩
 own:=λi xs e=>by
  obtain⟨a,vs,h1,h2,h3,h4,h5⟩:=R.own i xs e;have dk:=bj h2 h;exact⟨a,vs,h1,by rw[aq dk];exact h2,h3.mono (aM (same_none R.fr h)),by rw[aq dk];exact h4,h5⟩
 dis:=R.dis
 io:=R.io
 ob:=R.ob.step (aM (same_none R.fr h)) (λi o e=>⟨e,rfl⟩) (λb hb=>by
  obtain⟨w1,w2,w3⟩:=R.ob.owned hb;have dk:b≠p:=λz=>w2 (z ▸ h);exact⟨aq dk,by rw[aq dk];exact w1,w3⟩) (λj ys b e1 e2=>R.ob.gP j ys b e1 e2) λb hb=>by
  have dk:b≠p:=λz=>R.ob.there b hb (z ▸ h);rw[aq dk];exact R.ob.there b hb
theorem RS.rA{Y:bP}{F:Hp}{ai:Sd}{σ:St}{H:Hp}{p:Addr}{o:HO}(R:RS Y F ai σ H)(h:H p=none):RS Y F ai σ (upd H p o) where
 len:=R.len
 lo:=R.lo
 fr:=R.fr.trans (aM h)
 fW:=R.fW
 old:=λb u e n=>aM h b u (R.old b u e n)
 sh:=R.sh
 own:=λi xs e=>by
  obtain⟨a,vs,h1,h2,h3,h4,h5⟩:=R.own i xs e;exact⟨a,vs,h1,aM h a _ h2,h3,h4,h5⟩
 dis:=R.dis
 io:=R.io
 ob:=R.ob.step (aw.refl _) (λi o e=>⟨e,rfl⟩) (λb hb=>by
  obtain⟨w1,w2,w3⟩:=R.ob.owned hb;have dk:b≠p:=λz=>w2 (z ▸ h);exact⟨aq dk,w1,w3⟩) (λj ys b e1 e2=>R.ob.gP j ys b e1 e2) λb hb=>by
  have dk:b≠p:=λz=>R.ob.there b hb (z ▸ h);rw[aq dk];exact R.ob.there b hb
inductive EV where
 | val (d:D)|var (i:Nat)|own (xs:List D)|obj (o:O)|any
inductive OV where
 | val (d:D)|var (i:Nat)|any
abbrev TX:=Sd->(EV->Sd->Prop)->Prop
abbrev TV:=Sd->(OV->Sd->Prop)->Prop
abbrev TD:=Sd->(D->Sd->Prop)->Prop
abbrev TB:=Sd->(Bool->Sd->Prop)->Prop
abbrev iy:=Sd->(List D->Sd->Prop)->Prop
structure fB(ai:Sd)(σ:St)(a:Addr):Prop where
 own:∀(j:Nat) (ys:List D),ai[j]?=some (some (.own ys))->σ[j]?≠some (some (.ref a))
 XG:¬gM ai σ a
instance {ai:Sd} {σ:St} {a:Addr}:CoeFun (fB ai σ a) λ_=>∀(j:Nat) (ys:List D),ai[j]?=some (some (.own ys))->σ[j]?≠some (some (.ref a)):=⟨fB.own⟩
theorem RS.eE{Y:bP}{F:Hp}{ai:Sd}{σ:St}{H:Hp}(R:RS Y F ai σ H){a:Addr}(h:H a=none):fB ai σ a:=by
 refine⟨λj ys e z=>?_,λz=>(R.ob.owned z).2.1 h⟩;obtain⟨b,us,e1,e2,_⟩:=R.own j ys e;rw[e1]at z;cases z;rw[h]at e2;cases e2
def wZ(F:Hp)(σ:St)(v:V):OV->Prop
 | .val d=>Rep F v d
 | .var i=>σ[i]?=some (some v)
 | .any=>True
def G5(Y:bP)(F H:Hp)(ai:Sd)(σ:St)(v:V):EV->Prop
 | .val d=>Rep F v d
 | .var i=>σ[i]?=some (some v)
 | .own xs=>∃a vs,v=.ref a/\H a=some (.lst vs)/\aH F vs xs/\F a=none/\Y.H0 a=none/\fB ai σ a
 | .obj o=>∃a,v=.ref a/\o.rep F H a/\∀b∈o.fp a,F b=none/\H b≠none/\Y.H0 b=none/\fB ai σ b
 | .any=>True
def lX(Y:bP)(t:TX):TE:=λσ H Q=>∃F ai Qd,RS Y F ai σ H/\t ai Qd/\∀v H' F' x aI,aw F F'->RS Y F' aI σ H'->G5 Y F' H' aI σ v x->Qd x aI->Q v H'
def lO(Y:bP)(t:TV):TE:=λσ H Q=>∃F ai Qd,RS Y F ai σ H/\t ai Qd/\∀v H' F' x aI,aw F F'->RS Y F' aI σ H'->wZ F' σ v x->Qd x aI->Q v H'
def lD(Y:bP)(t:TD):TE:=λσ H Q=>∃F ai Qd,RS Y F ai σ H/\t ai Qd/\∀v H' F' x aI,aw F F'->RS Y F' aI σ H'->Rep F' v x->Qd x aI->Q v H'
def lB(Y:bP)(t:TB):TT:=λσ H Q=>∃F ai Qd,RS Y F ai σ H/\t ai Qd/\∀b H' F' aI,aw F F'->RS Y F' aI σ H'->Qd b aI->Q b H'
def lDs(Y:bP)(t:iy):TA:=λσ H Q=>∃F ai Qd,RS Y F ai σ H/\t ai Qd/\∀vs H' F' xs aI,aw F F'->RS Y F' aI σ H'->aH F' vs xs->Qd xs aI->Q vs H'
structure GE where
 P:Program
 w:World
 K:PySem.W.Frag
 mg:Str->Option Value
 base:Heap
structure Stat where
 N:List Str
 sc:List (Str×NameKind)
 ios:List Nat:=[]
 uk:Bool:=false
 /-- within an except suite -/
 nk:Bool:=false
 /-- a raise may stand here -/
 rs:Bool:=false
 /-- what is wanted where an exception of a class leaves -/
 ex:Str->Sd->Prop:=λ_ _=>False
def Hw(a T:Addr)(c:Str):HO:=.ext λh=>∃o vs a0,h.get? a=some o/\o.cls=.ref (KF.cls c)/\o.data=.fields vs/\vs[0]?=some a0/\vs[1]?=some (.ref T)
def tbO(T:Addr):HO:=.ext λh=>∃o ts,h.get? T=some o/\o.data=.fields ts/\ts[3]?=some .none
structure U7(X:Cx)(Y:bP)(F H:Hp)(a T:Addr)(c:Str):Prop where
 fa:F a=none
 fT:F T=none
 ha:H a=some (Hw a T c)
 hT:H T=some (tbO T)
 ne:a≠T
 na:Y.H0 a=none
 nT:Y.H0 T=none
 la:X.bR.heap.get? a=none
 lT:X.bR.heap.get? T=none
def Py(a:Addr)(c:Str):HO:=.ext λh=>∃o vs a0,h.get? a=some o/\o.cls=.ref (KF.cls c)/\o.data=.fields vs/\vs[0]?=some a0/\vs[1]?=some .none
structure eG(X:Cx)(G:GE)(k:Nat)(S:Stat)(Y:bP):Prop where
 P:X.prog=G.P
 w:X.w=G.w
 K:X.K=G.K
 kf:X.K=KF.K
 mg:X.mg=G.mg
 base:X.base=G.base
 N:X.N=S.N
 sc:X.env.scope.names=S.sc
 nd:S.N.Nodup
 ios:∀p∈Y.io,p.1∈S.ios
 obs:S.uk=false->S.ios=[]->Y.ob=[]
 calm:S.nk=false->X.calm=true
 kind:X.env.scope.kind=.function
 fn:S.uk=false->∀x,S.sc.lookup x=some .cell->X.fn x=true
 hd:S.nk=false->X.A.handled=none
 dp:X.A.depth+3*k+5<recursionLimit
 un:X.A.units+16*k+200<cLine
 po:S.nk=false->PassesOwn (model X.prog X.w) X.A X.env X.xe
 nx:S.uk=false->X.ex=[]/\X.stack=X.env::X.outer/\X.env.frame=some X.env.locals
 exc:∀c ai,S.ex c ai->∀pins σ H F s a T,L2.Inv X pins σ H s->RS Y F ai σ H->U7 X Y F H a T c->X.xe (.ref a) s
 made:S.rs=true->∀c ai,S.ex c ai->∀pins σ H F s a,L2.Inv X pins σ H s->RS Y F ai σ H->H a=some (Py a c)->Y.H0 a=none->X.bR.heap.get? a=none->X.xe (.ref a) s
theorem eG.room{X:Cx}{G:GE}{k:Nat}{S:Stat}{Y:bP}(ok:eG X G k S Y)(h:S.nk=false):eJ k X.A:=⟨ok.hd h,ok.dp,ok.un⟩
theorem eG.units{X:Cx}{G:GE}{k:Nat}{S:Stat}{Y:bP}(ok:eG X G k S Y):X.A.units+64<cLine:=by have:=ok.un;omega
variable {G:GE}{k:Nat}{S:Stat}
structure EX(G:GE)(k:Nat)(S:Stat)(e:Expr)(t:TX) :Prop where
 run:∀X Y,eG X G k S Y->PE X e (lX Y t)
instance {G:GE} {k:Nat} {S:Stat} {e:Expr} {t:TX} :CoeFun (EX G k S e t) λ_=>∀X Y,eG X G k S Y->PE X e (lX Y t):=⟨EX.run⟩
structure EO(G:GE)(k:Nat)(S:Stat)(e:Expr)(t:TV) :Prop where
 run:∀X Y,eG X G k S Y->PE X e (lO Y t)
instance {G:GE} {k:Nat} {S:Stat} {e:Expr} {t:TV} :CoeFun (EO G k S e t) λ_=>∀X Y,eG X G k S Y->PE X e (lO Y t):=⟨EO.run⟩
structure ED(G:GE)(k:Nat)(S:Stat)(e:Expr)(t:TD) :Prop where
 run:∀X Y,eG X G k S Y->PE X e (lD Y t)
instance {G:GE} {k:Nat} {S:Stat} {e:Expr} {t:TD} :CoeFun (ED G k S e t) λ_=>∀X Y,eG X G k S Y->PE X e (lD Y t):=⟨ED.run⟩
structure EB(G:GE)(k:Nat)(S:Stat)(e:Expr)(t:TB) :Prop where
 run:∀X Y,eG X G k S Y->PT X e (lB Y t)
instance {G:GE} {k:Nat} {S:Stat} {e:Expr} {t:TB} :CoeFun (EB G k S e t) λ_=>∀X Y,eG X G k S Y->PT X e (lB Y t):=⟨EB.run⟩
structure zW(G:GE)(k:Nat)(S:Stat)(es:List Expr)(t:iy) :Prop where
 run:∀X Y,eG X G k S Y->PA X es (lDs Y t)
instance {G:GE} {k:Nat} {S:Stat} {es:List Expr} {t:iy} :CoeFun (zW G k S es t) λ_=>∀X Y,eG X G k S Y->PA X es (lDs Y t):=⟨zW.run⟩
def Rq:Expr->Bool
 | .Starred _ _=>false
 | _=>true
theorem cH{e:Expr}{es:List Expr}{env:Env}(h:Rq e=true):starEach (e::es) env=(false,eval e env)::starEach es env:=by
 cases e<;>first|rfl|cases h
theorem a7{X:Cx}{e:Expr}{t t':TE}(h:PE X e t)(i:∀σ H Q,t' σ H Q->t σ H Q):PE X e t':=λpins s σ H Q I q=>h pins s σ H Q I (i σ H Q q)
theorem oV{X:Cx}{e:Expr}{t t':TT}(h:PT X e t)(i:∀σ H Q,t' σ H Q->t σ H Q):PT X e t':=λpins s σ H Q I q=>h pins s σ H Q I (i σ H Q q)
theorem gZ{X:Cx}{e:List Expr}{t t':TA}(h:PA X e t)(i:∀σ H Q,t' σ H Q->t σ H Q):PA X e t':=λpos pins s σ H Q I q=>h pos pins s σ H Q I (i σ H Q q)
theorem cR{X:Cx}{e:Stmt}{t t':TS}(h:PS X e t)(i:∀D σ H,t' D σ H->t D σ H):PS X e t':=λpins s σ H D I q=>h pins s σ H D I (i D σ H q)
theorem zr{X:Cx}{e:List Stmt}{t t':TS}(h:ug X e t)(i:∀D σ H,t' D σ H->t D σ H):ug X e t':=λpins s σ H D I q=>h pins s σ H D I (i D σ H q)
theorem RS.Aj{Y:bP}{F:Hp}{ai:Sd}{σ:St}{H:Hp}{a:Addr}{vs:List V}(R:RS Y F ai σ H)(h1:H a=some (.lst vs))(h2:F a=none)(h3:fB ai σ a)(h4:Y.H0 a=none):RS Y (upd F a (.lst vs)) ai σ H where
 len:=R.len
 lo:=R.lo.trans (aM h2)
 fr:=λb o e=>by
  by_cases hb:b=a
  ·subst hb;rw[az]at e;cases e;exact h1
  ·rw[aq hb]at e;exact R.fr b o e
 fW:=λb u e=>by
  by_cases hb:b=a
  ·subst hb;exact .inr (.inl h4)
  ·rw[aq hb]at e;exact R.fW b u e
 old:=R.old
 sh:=λi d e=>by
  obtain⟨v,q1,q2⟩:=R.sh i d e;exact⟨v,q1,q2.mono (aM h2)⟩
 own:=λi xs e=>by
  obtain⟨b,us,q1,q2,q3,q4,q5⟩:=R.own i xs e;have dk:b≠a:=λz=>h3 i xs e (by rw[q1,z])
  exact⟨b,us,q1,q2,q3.mono (aM h2),by rw[aq dk];exact q4,q5⟩
 dis:=R.dis
 io:=R.io
 ob:=R.ob.step (aM h2) (λi o e=>⟨e,rfl⟩) (λb hb=>by
  obtain⟨w1,w2,w3⟩:=R.ob.owned hb;have dk:b≠a:=λz=>h3.XG (z ▸ hb);exact⟨rfl,by rw[aq dk];exact w1,w3⟩) (λj ys b e1 e2=>R.ob.gP j ys b e1 e2) R.ob.there
def fzV:EV->OV
 | .val d=>.val d
 | .var i=>.var i
 | .own xs=>.val (.lst xs)
 | .obj _=>.any
 | .any=>.any
def bq(t:TX):TV:=λσ Q=>t σ λx ax=>Q (fzV x) ax
theorem bx{e:Expr}{t:TX}(h:EX G k S e t):EO G k S e (bq t):=.mk λX Y ok=>a7 (h X Y ok) λσ H Q q=>by
 obtain⟨F,ai,Qd,R,q,K⟩:=q;refine⟨F,ai,_,R,q,λv H' F' x aI s R' r q'=>?_⟩;cases x with
 | val d=>exact K v H' F' (.val d) aI s R' r q'
 | var i=>exact K v H' F' (.var i) aI s R' r q'
 | own xs =>
  obtain⟨a,vs,rfl,h1,h2,h3,h4,h5⟩:=r;exact K _ H' _ (.val (.lst xs)) aI (s.trans (aM h3)) (R'.Aj h1 h3 h5 h4) (.lst (.inl az) (h2.mono (aM h3))) q'
 | obj o=>exact K v H' F' .any aI s R' trivial q'
 | any=>exact K v H' F' .any aI s R' trivial q'
def oxV:OV->EV
 | .val d=>.val d
 | .var i=>.var i
 | .any=>.any
def oX(t:TV):TX:=λσ Q=>t σ λx ax=>Q (oxV x) ax
theorem gI{e:Expr}{t:TV}(h:EO G k S e t):EX G k S e (oX t):=.mk λX Y ok=>a7 (h X Y ok) λσ H Q q=>by
 obtain⟨F,ai,Qd,R,q,K⟩:=q;refine⟨F,ai,_,R,q,λv H' F' x aI s R' r q'=>?_⟩;cases x with
 | val d=>exact K v H' F' (.val d) aI s R' r q'
 | var i=>exact K v H' F' (.var i) aI s R' r q'
 | any=>exact K v H' F' .any aI s R' trivial q'
theorem aY{α:Type}{l:List (Option α)}{i:Nat}{x:α}{y:Option α}(h:l[i]?=some (some x)):(l.set i y)[i]?=some y:=by
 have:=(List.getElem?_eq_some_iff.mp h).1;rw[List.getElem?_set_self this]
theorem bo{α:Type}{l:List (Option α)}{i j:Nat}{y:Option α}(h:j≠i):(l.set i y)[j]?=l[j]?:=by
 rw[List.getElem?_set_ne (Ne.symm h)]
theorem RS.lx{Y:bP}{F:Hp}{ai:Sd}{σ:St}{H:Hp}{i:Nat}{xs:List D}(R:RS Y F ai σ H)(h:ai[i]?=some (some (.own xs)))(eA:∀p∈Y.io,p.1≠i):
  ∃F' v,aw F F'/\RS Y F' (ai.set i (some (.sh (.lst xs)))) σ H/\σ[i]?=some (some v)/\Rep F' v (.lst xs):=by
 obtain⟨a,vs,q1,q2,q3,q4,q5⟩:=R.own i xs h;have sm:=aM (o:=.lst vs) q4;have rep:Rep (upd F a (.lst vs)) (.ref a) (.lst xs):=.lst (.inl az) (q3.mono sm);have nio:Y.H0 a=none:=by
  rcases q5 with q5|q5
  ·exact q5
  ·obtain⟨p,hp,e⟩:=List.mem_map.mp q5
   obtain⟨w1,ys,w2⟩:=R.io p hp;exact absurd (R.dis p.1 i ys xs a w2 h (by rw[w1,e]) q1) (eA p hp)
 have obF:uC Y (upd F a (.lst vs)) (ai.set i (some (.sh (.lst xs)))) σ H:=R.ob.step sm (λj o e=>by
  have hj:j≠i:=λz=>by subst z;rw[aY h]at e;cases e
  rw[bo hj]at e;exact⟨e,rfl⟩) (λb hb=>by
  obtain⟨w1,w2,w3⟩:=R.ob.owned hb;have dk:b≠a:=λz=>R.ob.gP i xs a h q1 (z ▸ hb);exact⟨rfl,by rw[aq dk];exact w1,w3⟩) (λj ys b e1 e2=>by
  have hj:j≠i:=λz=>by subst z;rw[aY h]at e1;cases e1
  rw[bo hj]at e1;exact R.ob.gP j ys b e1 e2) R.ob.there
 refine⟨upd F a (.lst vs),.ref a,sm,⟨by simpa using R.len,R.lo.trans sm,λb o e=>?_,λb o e=>?_,R.old,λj d e=>?_,λj ys e=>?_,λj l ys zs b e1 e2 e3 e4=>?_,λp hp=>?_,obF⟩,q1,rep⟩
 ·by_cases hb:b=a
  ·subst hb;rw[az]at e;cases e;exact q2
  ·rw[aq hb]at e;exact R.fr b o e
 ·by_cases hb:b=a
  ·subst hb;exact .inr (.inl nio)
  ·rw[aq hb]at e;exact R.fW b o e
 ·by_cases hj:j=i
  ·subst hj
   rw[aY h]at e;cases e;exact⟨_,q1,rep⟩
  ·rw[bo hj]at e
   obtain⟨v,w1,w2⟩:=R.sh j d e;exact⟨v,w1,w2.mono sm⟩
 ·have hj:j≠i:=λz=>by subst z;rw[aY h]at e;cases e
  rw[bo hj]at e;obtain⟨b,us,w1,w2,w3,w4,w5⟩:=R.own j ys e;have dk:b≠a:=λz=>hj (R.dis j i ys xs a e h (z ▸ w1) q1);exact⟨b,us,w1,w2,w3.mono sm,by rw[aq dk];exact w4,w5⟩
 ·have hj:j≠i:=λz=>by subst z;rw[aY h]at e1;cases e1
  have hl:l≠i:=λz=>by subst z;rw[aY h]at e2;cases e2
  rw[bo hj]at e1;rw[bo hl]at e2;exact R.dis j l ys zs b e1 e2 e3 e4
 ·obtain⟨w1,ys,w2⟩:=R.io p hp
  exact⟨w1,ys,by rw[bo (eA p hp)];exact w2⟩
def Ue(ios:List Nat)(x:OV)(ax:Sd)(Q:D->Sd->Prop):Prop:=match x with
 | .val d=>Q d ax
 | .any=>False
 | .var i=>match ax[i]? with
  | some (some (.own xs))=>i∉ios/\Q (.lst xs) (ax.set i (some (.sh (.lst xs))))
  | some (some (.sh d))=>Q d ax
  | _=>False
theorem Gm{ios:List Nat}{d:D}{ax:Sd}{Q:D->Sd->Prop}:Ue ios (.val d) ax Q=Q d ax:=rfl
theorem wx{ios:List Nat}{i:Nat}{ax:Sd}{Q:D->Sd->Prop}:Ue ios (.var i) ax Q=(match ax[i]? with
  | some (some (.own xs))=>i∉ios/\Q (.lst xs) (ax.set i (some (.sh (.lst xs))))
  | some (some (.sh d))=>Q d ax
  | _=>False):=rfl
def ak(ios:List Nat)(t:TV):TD:=λσ Q=>t σ λx ax=>Ue ios x ax Q
theorem aE{e:Expr}{t:TV}(h:EO G k S e t):ED G k S e (ak S.ios t):=.mk λX Y ok=>a7 (h X Y ok) λσ H Q q=>by
 obtain⟨F,ai,Qd,R,q,K⟩:=q;refine⟨F,ai,_,R,q,λv H' F' x aI s R' r q'=>?_⟩;cases x with
 | val d=>exact K v H' F' d aI s R' r q'
 | any=>exact False.elim q'
 | var i =>
  have r:σ[i]?=some (some v):=r;rw[wx]at q'
  split at q'
  ·rename_i xs e
   obtain⟨hi,q'⟩:=q';obtain⟨F2,v2,s2,R2,e2,r2⟩:=R'.lx e λp hp z=>hi (z ▸ ok.ios p hp);rw[r]at e2;cases e2;exact K v H' F2 _ _ (s.trans s2) R2 r2 q'
  ·rename_i d e
   obtain⟨v2,e2,r2⟩:=R'.sh i d e;rw[r]at e2;cases e2;exact K v H' F' d aI s R' r2 q'
  ·exact q'.elim
def ae(i:Nat):TV:=λσ Q=>match σ[i]? with
 | some (some (.sh d))=>Q (.val d) σ
 | some (some (.own _))=>Q (.var i) σ
 | _=>False
theorem af(i:Nat){x:Str}{pos:Pos}(hN:S.N[i]?=some x:=by rfl)(hv:S.sc.lookup x=some .local\/S.sc.lookup x=some .cell\/S.sc.lookup x=some .free:=by first|exact Or.inl rfl|exact Or.inr (Or.inl rfl)|exact Or.inr (Or.inr rfl))
  (hd:(x==("__debug__":Str))=false:=by decide) (gG:(x==("__classdict__":Str))=false:=by decide):EO G k S (.Name x pos) (ae i):=.mk λX Y ok =>
 a7 (g9 (X:=X) (i:=i) (by rw[ok.N];exact hN) (by unfold GI;rw[ok.sc];exact hv) hd gG) λσ H Q q=>by
  obtain⟨F,ai,Qd,R,q,K⟩:=q;unfold ae at q
  split at q
  ·rename_i d e
   obtain⟨v,e2,r2⟩:=R.sh i d e;exact⟨v,e2,K v H F (.val d) ai (aw.refl _) R r2 q⟩
  ·rename_i xs e
   obtain⟨a,vs,e2,_⟩:=R.own i xs e;exact⟨_,e2,K _ H F (.var i) ai (aw.refl _) R e2 q⟩
  ·exact q.elim
def aR(d:D):TV:=λσ Q=>Q (.val d) σ
theorem oz{Y:bP}{v:V}{d:D}(r:∀F,Rep F v d)(σ:St)(H:Hp)(Q:VK)(q:lO Y (aR d) σ H Q):tC v σ H Q:=by
 obtain⟨F,ai,Qd,R,q,K⟩:=q;exact K v H F (.val d) ai (aw.refl _) R (r F) q
theorem au{i j pos}:EO G k S (.Constant (.int i) j pos) (aR (.int i)):=.mk λ_ _ _=>a7 Rc (oz λ_=>.int i)
theorem pP{b j pos}:EO G k S (.Constant (.bool b) j pos) (aR (.bl b)):=.mk λ_ _ _=>a7 Yq (oz λ_=>.bl b)
theorem hW{j pos}:EO G k S (.Constant .none j pos) (aR .aV):=.mk λ_ _ _=>a7 Rg (oz λ_=>.aV)
theorem vV{x j pos}:EO G k S (.Constant (.str x) j pos) (aR (.str x)):=.mk λ_ _ _=>a7 Rh (oz λ_=>.str x)
def Lw(G:GE)(x:Str)(d:D):Prop:=∃u v,G.mg x=some u/\RelV v u/\∀F,Rep F v d
theorem dZ{X:Cx}{Y:bP}(ok:eG X G k S Y){x:Str}(h:S.sc.lookup x=some .globalImplicit):Gl X x:=by
 unfold Gl;show X.env.scope.names.lookup x=_;rw[ok.sc];exact h
theorem Fc{x:Str}{d:D}{pos:Pos}(h:Lw G x d)(hg:S.sc.lookup x=some .globalImplicit:=by rfl)(hd:(x==("__debug__":Str))=false:=by decide):EO G k S (.Name x pos) (aR d):=.mk λX Y ok=>by
 obtain⟨u,v,h1,h2,h3⟩:=h;exact a7 (zk (dZ ok hg) (by rw[ok.mg];exact h1) h2 hd) (oz h3)
def df(σ:Sd):OV->Option D
 | .val d=>some d
 | .any=>none
 | .var i=>match σ[i]? with
  | some (some (.sh d))=>some d
  | some (some (.own xs))=>some (.lst xs)
  | some (some (.obj o))=>o.view
  | _=>none
theorem Rep.h{F H:Hp}(s:aw F H){v:V}{d:D}(r:Rep F v d):cf F H v d:=by
 cases d with
 | lst xs =>
  cases r with
  | lst h r=>exact⟨_,_,rfl,Rd.mono s h,r⟩
 | gv kvs =>
  cases r with
  | gv h r=>exact⟨_,_,rfl,s _ _ h,r⟩
 | kp w c e kvs =>
  cases r with
  | kp h1 h2 r=>exact⟨_,_,_,_,rfl,s _ _ h1,s _ _ h2,r⟩
 | _=>exact r
theorem RS.df{Y:bP}{F:Hp}{ai:Sd}{σ:St}{H:Hp}(R:RS Y F ai σ H){v:V}{x:OV}{d:D}(r:wZ F σ v x)(e:df ai x=some d):cf F H v d:=by
 cases x with
 | val d'=>cases e;exact Rep.h R.fr r
 | any=>cases e
 | var i =>
  have r:σ[i]?=some (some v):=r;have e:(match ai[i]? with|some (some (.sh d))=>some d|some (some (.own xs))=>some (.lst xs)|some (some (.obj o))=>o.view|_=>none)=some d:=e
  split at e
  ·rename_i d' q
   cases e;obtain⟨v2,e2,r2⟩:=R.sh i d q;rw[r]at e2;cases e2;exact Rep.h R.fr r2
  ·rename_i xs q
   cases e;obtain⟨a,vs,e2,h2,h3,_⟩:=R.own i xs q;rw[r]at e2;cases e2;exact⟨a,vs,rfl,.inl h2,h3⟩
  ·rename_i o q
   obtain⟨a,e2,h2,_⟩:=R.ob.obj i o q;rw[r]at e2;cases e2;exact o.sees h2 e
  ·cases e
theorem cf.int{F H:Hp}{v:V}{i:Int}(r:cf F H v (.int i)):v=.int i:=by cases(show Rep F v (.int i)from r);rfl
theorem cf.bl{F H:Hp}{v:V}{i:Bool}(r:cf F H v (.bl i)):v=.bl i:=by cases(show Rep F v (.bl i)from r);rfl
theorem cf.str{F H:Hp}{v:V}{i:Str}(r:cf F H v (.str i)):v=.str i:=by cases(show Rep F v (.str i)from r);rfl
theorem cf.aV{F H:Hp}{v:V}(r:cf F H v .aV):v=.aV:=by cases(show Rep F v .aV from r);rfl
theorem cf.tup{F H:Hp}(s:aw F H){v:V}{xs:List D}(r:cf F H v (.tup xs)):∃a vs,v=.ref a/\H a=some (.tup vs)/\aH F vs xs:=by
 cases(show Rep F v (.tup xs)from r)with
 | tup h r=>exact⟨_,_,rfl,s _ _ h,r⟩
theorem cf.lst{F H:Hp}{v:V}{xs:List D}(r:cf F H v (.lst xs)):∃a vs,v=.ref a/\Rd H a (.lst vs)/\aH F vs xs:=r
def Goes(Y:bP)(F:Hp)(ai:Sd)(σ:St)(Qd:EV->Prop)(Q:VK):Prop:=∀v H' F' r,aw F F'->RS Y F' ai σ H'->G5 Y F' H' ai σ v r->Qd r->Q v H'
theorem Goes.val{Y:bP}{F:Hp}{ai:Sd}{σ:St}{Qd:EV->Prop}{Q:VK}(g:Goes Y F ai σ Qd Q){H:Hp}(R:RS Y F ai σ H){v:V}{d:D}(r:Rep F v d)(q:Qd (.val d)):Q v H:=g v H F (.val d) (aw.refl _) R r q
theorem Goes.own{Y:bP}{F:Hp}{ai:Sd}{σ:St}{Qd:EV->Prop}{Q:VK}(g:Goes Y F ai σ Qd Q){H:Hp}(R:RS Y F ai σ H){vs:List V}{xs:List D}(r:aH F vs xs)(q:Qd (.own xs)):∀p,H p=none->Q (.ref p) (upd H p (.lst vs)):=λp hp=>by
 refine g (.ref p) _ F (.own xs) (aw.refl _) (R.rA hp) ⟨p,vs,rfl,az,r,same_none R.fr hp,(R.bX hp).1,⟨λj ys e z=>?_,λz=>(R.ob.owned z).2.1 hp⟩⟩ q;obtain⟨a,us,e1,e2,_⟩:=R.own j ys e;rw[e1]at z;cases z;rw[hp]at e2;cases e2
theorem Goes.tup{Y:bP}{F:Hp}{ai:Sd}{σ:St}{Qd:EV->Prop}{Q:VK}(g:Goes Y F ai σ Qd Q){H:Hp}(R:RS Y F ai σ H){vs:List V}{xs:List D}(r:aH F vs xs)(q:Qd (.val (.tup xs))):∀p,H p=none->Q (.ref p) (upd H p (.tup vs)):=λp hp=>by
 have sm:=aM (o:=.tup vs) (same_none R.fr hp);exact g (.ref p) _ _ (.val (.tup xs)) sm (R.alloc hp) (.tup az (r.mono sm)) q
def iw(r:R2)(f:D->D->(EV->Prop)->Prop):Prop:=
 ∀Y F H ai σ v u x y Qd Q,RS Y F ai σ H->cf F H v x->cf F H u y->f x y Qd->Goes Y F ai σ Qd Q->r v u H Q
def a9(f:D->D->(EV->Prop)->Prop)(ta tb:TV):TX:=λσ Q=>ta σ λx ax=>tb ax λy aO=>match df aO x,df aO y with
 | some a,some b=>f a b λr=>Q r aO
 | _,_=>False
theorem wZ.mono{F F':Hp}(s:aw F F'){σ:St}{v:V}{x:OV}(r:wZ F σ v x):wZ F' σ v x:=by
 cases x with
 | val d=>exact Rep.mono s r
 | var i=>exact r
 | any=>trivial
theorem ye{Y:bP}{r:R2}{f:D->D->(EV->Prop)->Prop}(hs:iw r f){ta tb:TV}{σ:St}{H:Hp}{Q:VK}(q:lX Y (a9 f ta tb) σ H Q):TJ r (lO Y ta) (lO Y tb) σ H Q:=by
 obtain⟨F,ai,Qd,R,q,K⟩:=q;refine⟨F,ai,_,R,q,λv1 H1 F1 x ax s1 R1 r1 q1=>?_⟩;refine⟨F1,ax,_,R1,q1,λv2 H2 F2 y aO s2 R2 r2 q2=>?_⟩
 split at q2
 ·rename_i a b ea eb
  exact hs Y F2 H2 aO σ v1 v2 a b _ Q R2 (R2.df (r1.mono s2) ea) (R2.df r2 eb) q2 λv H' F' r s R' rr qq=>K v H' F' r aO ((s1.trans s2).trans s) R' rr qq
 ·exact q2.elim
theorem qO{op:Operator}{f:D->D->(EV->Prop)->Prop}{r:PySem.W.Frag->R2}(ho:∀X,iR X (binaryOp op) (r X.K))(hs:∀K,iw (r K) f){a b:Expr}{ta tb:TV}{pos:Pos}(ha:EO G k S a ta)(hb:EO G k S b tb):
  EX G k S (.BinOp a op b pos) (a9 f ta tb):=.mk λX Y ok=>a7 (Ys (ho X) (ha X Y ok) (hb X Y ok)) λσ H Q q=>ye (hs X.K) q
def eL:D->D->(EV->Prop)->Prop
 | .int i,.int j,Q=>Q (.val (.int (i+j)))
 | .str a,.str b,Q=>a.length+b.length<=sizeLine/\Q (.val (.str (a++b)))
 | .lst a,.lst b,Q=>a.length+b.length<=sizeLine/\Q (.own (a++b))
 | .tup a,.tup b,Q=>(a≠[]/\a.length+b.length<=sizeLine)/\Q (.val (.tup (a++b)))
 | _,_,_=>False
def K9:R2:=λx y H Q=>∃l b xs zs,x=.ref l/\y=.ref b/\Rd H l (.lst xs)/\Rd H b (.lst zs)/\xs.length+zs.length<=sizeLine/\∀p,H p=none->Q (.ref p) (upd H p (.lst (xs++zs)))
theorem Inv.rdL{X:Cx}{pins:List (Addr×Obj)}{σ:St}{H:Hp}{s:Shared}{l:Addr}{xs:List V}(I:L2.Inv X pins σ H s)(h:Rd H l (.lst xs)):
  xs.length<=sizeLine/\∃(its:List Value) (n:Nat),Vals xs its/\xs.length=its.length/\s.heap.get? l=some {cls:=.type "list",data:=.seq its.toArray n}:=by
 obtain⟨z,its,n,r,e⟩:=L2.Rd.ok h I.bw;exact⟨z,its,n,r,r.length,e⟩
theorem Iy{X:Cx}:iR X (binaryOp .Add) K9:=by
 intro pins s σ H x y v u Q I rx ry h;obtain⟨l,b,xs,zs,rfl,rfl,hH,hB,hz,q⟩:=h;cases rx;cases ry;obtain⟨z,its,n,r,hl,e⟩:=Inv.rdL I hH;obtain⟨z2,OH,n2,r2,Oo,e2⟩:=Inv.rdL I hB;refine PySem.P.add_list e e2 ?_ (by rw[List.size_toArray,List.size_toArray];omega)
 have ea:its.toArray++OH.toArray=(its++OH).toArray:=by simp
 rw[ea];exact⟨.ref _,_,I.Pu (t':=s.toks) (r.append r2) (by rw[List.length_append];omega),rfl,q _ I.fresh⟩
def Jh(K:PySem.W.Frag):R2:=λx y H Q=>(∃i j,x=.int i/\y=.int j/\Q (.int (i+j)) H)\/(∃i j,x=.str i/\y=.str j/\i.length+j.length<=sizeLine/\Q (.str (i++j)) H)\/K9 x y H Q\/La K x y H Q
theorem AU{X:Cx}:iR X (binaryOp .Add) (Jh X.K):=QL.or (xM.or (Iy.or Iz))
theorem zX(K:PySem.W.Frag):iw (Jh K) eL:=by
 intro Y F H ai σ v u x y Qd Q R rx ry q g;unfold eL at q
 split at q
 ·obtain rfl:=rx.int;obtain rfl:=ry.int
  exact .inl ⟨_,_,rfl,rfl,g.val R (.int _) q⟩
 ·obtain rfl:=rx.str;obtain rfl:=ry.str
  exact .inr (.inl ⟨_,_,rfl,rfl,q.1,g.val R (.str _) q.2⟩)
 ·obtain⟨a,vs,rfl,h1,r1⟩:=rx.lst;obtain⟨b,us,rfl,h2,r2⟩:=ry.lst
  exact .inr (.inr (.inl ⟨a,b,vs,us,rfl,rfl,h1,h2,by rw[r1.length,r2.length];exact q.1,g.own R (r1.append r2) q.2⟩))
 ·have rx':=rx
  obtain⟨a,vs,rfl,h1,r1⟩:=rx.tup R.fr;obtain⟨b,us,rfl,h2,r2⟩:=ry.tup R.fr;refine .inr (.inr (.inr ⟨a,b,vs,us,rfl,rfl,.of h1,.of h2,λz=>?_,by rw[r1.length,r2.length];exact q.1.2,λz=>?_,λ_=>g.tup R (r1.append r2) q.2⟩))
  ·subst z
   cases r1;exact q.1.1 rfl
  ·subst z
   cases r2;rw[List.append_nil]at q;exact g.val R rx' q.2
 ·exact q.elim
theorem dE{a b:Expr}{ta tb:TV}{pos:Pos}(ha:EO G k S a ta)(hb:EO G k S b tb):EX G k S (.BinOp a .Add b pos) (a9 eL ta tb):=qO (r:=Jh) (λ_=>AU) zX ha hb
def UH(C:Int->Int->Prop)(g:Int->Int->Int):D->D->(EV->Prop)->Prop
 | .int i,.int j,Q=>C i j/\Q (.val (.int (g i j)))
 | _,_,_=>False
theorem og{C:Int->Int->Prop}{g:Int->Int->Int}:iw (rI C λi j=>.int (g i j)) (UH C g):=by
 intro Y F H ai σ v u x y Qd Q R rx ry q gg;unfold UH at q
 split at q
 ·obtain rfl:=rx.int;obtain rfl:=ry.int
  exact⟨_,_,rfl,rfl,q.1,gg.val R (.int _) q.2⟩
 ·exact q.elim
def HU(g:Int->Int->Int):D->D->(EV->Prop)->Prop
 | .int i,.int j,Q=>Q (.val (.int (g i j)))
 | _,_,_=>False
theorem Au{g:Int->Int->Int}:iw (GX λi j=>.int (g i j)) (HU g):=by
 intro Y F H ai σ v u x y Qd Q R rx ry q gg;unfold HU at q
 split at q
 ·obtain rfl:=rx.int;obtain rfl:=ry.int
  exact⟨_,_,rfl,rfl,gg.val R (.int _) q⟩
 ·exact q.elim
section
variable {a b:Expr}{ta tb:TV}{pos:Pos}
def A9:=HU λi j=>i-j
def nW:=UH ur λi j=>i/j
def d4:=UH (λ_ j=>0<j) λi j=>i%j
def Jb:=UH Bp λi j=>i^j.toNat
theorem zu(ha:EO G k S a ta)(hb:EO G k S b tb):EX G k S (.BinOp a .Sub b pos) (a9 A9 ta tb):=qO (r:=λ_=>_) (λ_=>QU) (λ_=>Au) ha hb
theorem oW(ha:EO G k S a ta)(hb:EO G k S b tb):EX G k S (.BinOp a .FloorDiv b pos) (a9 nW ta tb):=qO (r:=λ_=>_) (λ_=>IA) (λ_=>og) ha hb
theorem cG(ha:EO G k S a ta)(hb:EO G k S b tb):EX G k S (.BinOp a .Mod b pos) (a9 d4 ta tb):=qO (r:=λ_=>_) (λ_=>QP) (λ_=>og) ha hb
theorem Ld(ha:EO G k S a ta)(hb:EO G k S b tb):EX G k S (.BinOp a .Pow b pos) (a9 Jb ta tb):=qO (r:=λ_=>_) (λ_=>QT) (λ_=>og) ha hb
end
def m6:D->D->(EV->Prop)->Prop
 | .int i,.int j,Q=>kY i j/\Q (.val (.int (i*j)))
 | .lst xs,.int j,Q=>(-(2^63)<=j/\j<2^63/\xs.length*j.toNat<=sizeLine)/\Q (.own (List.replicate j.toNat xs).flatten)
 | _,_,_=>False
def Lb:R2:=λx y H Q=>∃l k xs,x=.ref l/\y=.int k/\Rd H l (.lst xs)/\-(2^63)<=k/\k<2^63/\xs.length*k.toNat<=sizeLine /\
 ∀p,H p=none->Q (.ref p) (upd H p (.lst (List.replicate k.toNat xs).flatten))
theorem IB{X:Cx}:iR X (binaryOp .Mult) Lb:=by
 intro pins s σ H x y v u Q I rx ry h;obtain⟨l,k,xs,rfl,rfl,hH,h1,h2,hz,q⟩:=h;cases rx;obtain⟨t,rfl⟩:=ry;obtain⟨z,its,n,r,hl,e⟩:=Inv.rdL I hH;have hlen:its.toArray.size*k.toNat<=sizeLine:=by rw[List.size_toArray,<- hl];exact hz
 have aax:¬its.toArray.size*k.toNat>(2^63-1)/8:=by
  have:(sizeLine:Nat)<=(2^63-1)/8:=by decide
  omega
 have aay:¬(!Builtin.List.listFitsIndex k)=true:=by
  rw[fitsIndex_both h1 h2];exact Bool.false_ne_true
 have W5:¬Builtin.List.listTooLong (its.toArray.size*k.toNat)=true:=by
  rw[Ex hlen];exact Bool.false_ne_true
 have D4:List.foldl (λx1 x2=>x1++x2) #[] (List.replicate (if its.toArray.isEmpty=true then 0 else k.toNat) its.toArray)=(List.replicate k.toNat its).flatten.toArray:=by
  have f0:∀m:Nat,List.foldl (λx1 x2=>x1++x2) #[] (List.replicate m its.toArray)=(List.replicate m its).flatten.toArray:=λm=>by
   have:=foldl_rep its m [];rw[List.nil_append]at this;exact this
  rw[f0];cases its with
  | nil=>simp
  | cons a r'=>rw[if_neg (by simp)]
 refine wpAny_binaryOp_repeat_ref (T:="list") (U:="int") ∅ ⟨_,e,rfl⟩ (λs'=>typeIs_int s' k t) noFill_list_mul F.fills_int_mul F.slot_int_rmul repeat_list F.slot_int_index.lookup
  (call_meets F.slot_int_rmul (typeIs_int s k t) F.entry_int_rmul (F.args_int_rmul_2 _ _) (int___rmul___int_list k t l its.toArray n)
   ⟨e,rfl,⟨_,e,rfl⟩,call_meets F.slot_list_mul ⟨_,e,rfl⟩ F.entry_list_mul (F.args_list_mul_2 _ _) (AutoListH.list___mul___list_int_3 l its.toArray n k t aay aax W5) ⟨e,?_⟩⟩)
 rw[D4];exact⟨.ref _,_,I.Pu (t':=s.toks) (r.rep k.toNat) (by rw[len_rep,Nat.mul_comm];exact hz),rfl,q _ I.fresh⟩
def YM:R2:=λx y H Q=>rI kY (λi j=>.int (i*j)) x y H Q\/Lb x y H Q
theorem AH:iw YM m6:=by
 intro Y F H ai σ v u x y Qd Q R rx ry q g;unfold m6 at q
 split at q
 ·obtain rfl:=rx.int;obtain rfl:=ry.int
  exact .inl ⟨_,_,rfl,rfl,q.1,g.val R (.int _) q.2⟩
 ·obtain⟨a,vs,rfl,h1,r1⟩:=rx.lst;obtain rfl:=ry.int
  exact .inr ⟨a,_,vs,rfl,rfl,h1,q.1.1,q.1.2.1,by rw[r1.length];exact q.1.2.2,g.own R (r1.rep _) q.2⟩
 ·exact q.elim
theorem mM{a b:Expr}{ta tb:TV}{pos:Pos}(ha:EO G k S a ta)(hb:EO G k S b tb):EX G k S (.BinOp a .Mult b pos) (a9 m6 ta tb):=qO (r:=λ_=>YM) (λ_=>QQ.or IB) (λ_=>AH) ha hb
def wk(t:TV):TV:=λσ Q=>t σ λx ax=>match df ax x with
 | some (.int i)=>Q (.val (.int (-i))) ax
 | _=>False
theorem qP{a:Expr}{ta:TV}{pos:Pos}(ha:EO G k S a ta):EO G k S (.UnaryOp .USub a pos) (wk ta):=.mk λX Y ok=>a7 (Yt Ud (ha X Y ok)) λσ H Q q=>by
 obtain⟨F,ai,Qd,R,q,K⟩:=q;refine⟨F,ai,_,R,q,λv1 H1 F1 x ax s1 R1 r1 q1=>?_⟩
 split at q1
 ·rename_i i e
  obtain rfl:=(R1.df r1 e).int;exact⟨i,rfl,K _ H1 F1 (.val (.int (-i))) ax s1 R1 (.int _) q1⟩
 ·exact q1.elim
end Vc
namespace Vc
open PySem L2
variable [KF]
variable {G:GE}{k:Nat}{S:Stat}
mutual
def gw:D->D->Bool
 | .aV,.aV=>true
 | .bl a,.bl b=>a==b
 | .bl a,.int j=>(if a then 1 else 0)==j
 | .int i,.bl b=>i==(if b then 1 else 0)
 | .int i,.int j=>i==j
 | .str x,.str y=>x==y
 | .lst xs,.lst ys=>lq xs ys
 | .tup xs,.tup ys=>lq xs ys
 | _,_=>false
def lq:List D->List D->Bool
 | [],[]=>true
 | x::xs,y::ys=>gw x y&&lq xs ys
 | _,_=>false
end
def bO:Nat->D->Bool
 | _,.aV=>true
 | _,.bl _=>true
 | _,.int _=>true
 | _,.str x=>x.cps.all (· < 0x110000)
 | n+1,.tup xs=>xs.all (bO n)
 | n+1,.lst xs=>xs.all (bO n)
 | _,_=>false
mutual
def toPy:D->PyData
 | .aV=>.none
 | .bl b=>.bool b
 | .int i=>.int i
 | .str x=>.str x
 | .tup xs=>.tuple (eY xs)
 | .lst xs=>.list (eY xs)
 | _=>.none
def eY:List D->List PyData
 | []=>[]
 | x::xs=>toPy x::eY xs
end
theorem rS{n m:Nat}(ih:∀x y,bO n x=true->bO m y=true->gw x y=PyData.eqv (toPy x) (toPy y)):∀xs ys:List D,xs.all (bO n)=true->ys.all (bO m)=true->lq xs ys=PyData.eqvAll (eY xs) (eY ys)
 | [],[],_,_=>rfl
 | [],_::_,_,_=>rfl
 | _::_,[],_,_=>rfl
 | x::xs,y::ys,h1,h2=>by
  rw[List.all_cons,Bool.and_eq_true]at h1 h2;show(gw x y&&lq xs ys)=(PyData.eqv (toPy x) (toPy y)&&PyData.eqvAll (eY xs) (eY ys));rw[ih x y h1.1 h2.1,rS ih xs ys h1.2 h2.2]
theorem xl:∀(n m:Nat) (x y:D),bO n x=true->bO m y=true->gw x y=PyData.eqv (toPy x) (toPy y):=by
 intro n
 induction n with
 | zero =>
  intro m x y h1 h2;cases x with
  | tup _=>exact absurd h1 (by simp [bO])
  | lst _=>exact absurd h1 (by simp [bO])
  | dct _=>exact absurd h1 (by simp [bO])
  | exc _=>exact absurd h1 (by simp [bO])
  | iL _=>exact absurd h1 (by simp [bO])
  | gv _=>exact absurd h1 (by simp [bO])
  | kp _ _ _ _=>exact absurd h1 (by simp [bO])
  | _=>cases y<;>first|rfl | (cases m<;>exact absurd h2 (by simp [bO]))
 | succ n ih =>
  intro m x y h1 h2;cases x with
  | tup xs =>
   cases y with
   | tup ys =>
    cases m with
    | zero=>exact absurd h2 (by simp [bO])
    | succ m=>exact rS (ih m) xs ys h1 h2
   | _=>first|rfl | (cases m<;>exact absurd h2 (by simp [bO]))
  | lst xs =>
   cases y with
   | lst ys =>
    cases m with
    | zero=>exact absurd h2 (by simp [bO])
    | succ m=>exact rS (ih m) xs ys h1 h2
   | _=>first|rfl | (cases m<;>exact absurd h2 (by simp [bO]))
  | dct _=>exact absurd h1 (by simp [bO])
  | exc _=>exact absurd h1 (by simp [bO])
  | iL _=>exact absurd h1 (by simp [bO])
  | gv _=>exact absurd h1 (by simp [bO])
  | kp _ _ _ _=>exact absurd h1 (by simp [bO])
  | _=>cases y<;>first|rfl | (cases m<;>exact absurd h2 (by simp [bO]))
theorem gf{n:Nat}(ih:∀x,bO n x=true->(toPy x).canLay0=true/\(toPy x).depth<=n):∀xs:List D,xs.all (bO n)=true->PyData.canLayAll0 (eY xs)=true/\PyData.depthAll (eY xs)<=n
 | [],_=>⟨rfl,Nat.zero_le _⟩
 | x::xs,h=>by
  rw[List.all_cons,Bool.and_eq_true]at h;have h1:=ih x h.1;have h2:=gf ih xs h.2;refine⟨?_,?_⟩
  ·show((toPy x).canLay0&&PyData.canLayAll0 (eY xs))=true
   rw[h1.1,h2.1];rfl
  ·show max (toPy x).depth (PyData.depthAll (eY xs))<=n
   exact Nat.max_le.mpr ⟨h1.2,h2.2⟩
theorem ny:∀(n:Nat) (x:D),bO n x=true->(toPy x).canLay0=true/\(toPy x).depth<=n:=by
 intro n
 induction n with
 | zero =>
  intro x h;cases x with
  | tup _=>exact absurd h (by simp [bO])
  | lst _=>exact absurd h (by simp [bO])
  | dct _=>exact absurd h (by simp [bO])
  | exc _=>exact absurd h (by simp [bO])
  | iL _=>exact absurd h (by simp [bO])
  | gv _=>exact absurd h (by simp [bO])
  | kp _ _ _ _=>exact absurd h (by simp [bO])
  | _=>first|exact⟨rfl,Nat.zero_le _⟩ | (exact⟨by simpa [bO,toPy,PyData.canLay0,PyData.strOk]using h,Nat.zero_le _⟩)
 | succ n ih =>
  intro x h;cases x with
  | tup xs =>
   have:=gf ih xs h;exact⟨this.1,Nat.succ_le_succ this.2⟩
  | lst xs =>
   have:=gf ih xs h;exact⟨this.1,Nat.succ_le_succ this.2⟩
  | dct _=>exact absurd h (by simp [bO])
  | exc _=>exact absurd h (by simp [bO])
  | iL _=>exact absurd h (by simp [bO])
  | gv _=>exact absurd h (by simp [bO])
  | kp _ _ _ _=>exact absurd h (by simp [bO])
  | _=>first|exact⟨rfl,Nat.zero_le _⟩ | (exact⟨by simpa [bO,toPy,PyData.canLay0,PyData.strOk]using h,Nat.zero_le _⟩)
section
variable {P:Program}{w:World}{F H:Hp}{h:Heap}
mutual
theorem Rep.reads(ok:fw P w H h)(s:aw F H):∀ {v:V} {d:D} {u:Value} (n:Nat),Rep F v d->RelV v u->bO n d=true->∃as,Reads h u (toPy d) as
 | _,_,_,_,.aV,e,_=>by cases e;exact⟨_,.none⟩
 | _,_,_,_,.bl b,e,_=>by cases e;exact⟨_,.bool b⟩
 | _,_,_,_,.int i,e,_=>by obtain⟨t,rfl⟩:=e;exact⟨_,.int i t⟩
 | _,_,_,_,.str x,e,_=>by obtain⟨t,rfl⟩:=e;exact⟨_,.str x t⟩
 | _,_,_,0,.tup _ _,_,o=>by exact absurd o (by simp [bO])
 | _,_,_,0,.lst _ _,_,o=>by exact absurd o (by simp [bO])
 | _,_,_,n+1,.tup (a:=a) (vs:=vs) hf r,e,o=>by
  cases e;obtain⟨_,its,rv,ob,ho,hc,m,hd⟩:=ok a _ (s a _ hf);obtain⟨as,q⟩:=aH.reads ok s n r rv o;exact⟨as,.tuple ho hc hd q⟩
 | _,_,_,n+1,.lst (a:=a) (vs:=vs) hf r,e,o=>by
  cases e;obtain⟨_,its,m,rv,ho⟩:=L2.Rd.ok (Rd.mono s hf) ok;obtain⟨as,q⟩:=aH.reads ok s n r rv o;exact⟨_,.list ho rfl rfl q⟩
 | _,_,_,n,.iL _,_,o=>by cases n<;>exact absurd o (by simp [bO])
 | _,_,_,n,.exc _,_,o=>by cases n<;>exact absurd o (by simp [bO])
 | _,_,_,n,.Ho _ _,_,o=>by cases n<;>exact absurd o (by simp [bO])
 | _,_,_,n,.gv _ _,_,o=>by cases n<;>exact absurd o (by simp [bO])
 | _,_,_,n,.kp _ _ _,_,o=>by cases n<;>exact absurd o (by simp [bO])
theorem aH.reads(ok:fw P w H h)(s:aw F H):∀ {vs:List V} {ds:List D} {us:List Value} (n:Nat),aH F vs ds->Vals vs us->ds.all (bO n)=true->∃as,ReadsAll h us (eY ds) as
 | _,_,_,_,.nil,.nil,_=>⟨_,.nil⟩
 | _,_,_,n,.cons r t,.cons e f,o=>by
  rw[List.all_cons,Bool.and_eq_true]at o;obtain⟨as,h1⟩:=Rep.reads ok s n r e o.1;obtain⟨bs,h2⟩:=aH.reads ok s n t f o.2;exact⟨_,.cons h1 h2⟩
end
theorem cf.reads(ok:fw P w H h)(s:aw F H){v:V}{d:D}{u:Value}(r:cf F H v d)(e:RelV v u)(o:bO 8 d=true):∃as,Reads h u (toPy d) as:=by
 cases d with
 | lst xs =>
  obtain⟨a,vs,rfl,hf,r⟩:=r;cases e;obtain⟨_,its,n,rv,ho⟩:=L2.Rd.ok hf ok;obtain⟨as,q⟩:=aH.reads ok s 7 r rv o;exact⟨_,.list ho rfl rfl q⟩
 | gv _=>exact absurd o (by simp [bO])
 | kp _ _ _ _=>exact absurd o (by simp [bO])
 | _=>exact Rep.reads ok s 8 r e o
end
theorem iM{x:D}(h:bO 8 x=true):PySem.SeqAt.shaped (toPy x)=true:=by
 obtain⟨h1,h2⟩:=ny 8 x h;unfold PySem.SeqAt.shaped;rw[h1,decide_eq_true ⋯];rfl
def Jj(neg:Bool):R2:=λv u H Q=>∃F x y,aw F H/\cf F H v x/\cf F H u y/\bO 8 x=true/\bO 8 y=true/\Q (.bl (if neg then !gw x y else gw x y)) H
theorem QM{X:Cx}(hu:X.A.units+64<cLine):iR X (compareOp .Eq) (Jj false):=by
 intro pins s σ H v u v' u' Q I rv ru h;obtain⟨F,x,y,sm,rx,ry,ox,oy,q⟩:=h;obtain⟨as,r1⟩:=rx.reads I.bw sm rv ox;obtain⟨bs,r2⟩:=ry.reads I.bw sm ru oy;refine PyProof.Rows.eq_dataH r1 r2 (iM ox) (iM oy) hu ⟨.bl (gw x y),H,I,?_,q⟩;rw[xl 8 8 x y ox oy];rfl
theorem QR{X:Cx}(hu:X.A.units+64<cLine):iR X (compareOp .NotEq) (Jj true):=by
 intro pins s σ H v u v' u' Q I rv ru h;obtain⟨F,x,y,sm,rx,ry,ox,oy,q⟩:=h;obtain⟨as,r1⟩:=rx.reads I.bw sm rv ox;obtain⟨bs,r2⟩:=ry.reads I.bw sm ru oy;refine PyProof.Rows.ne_dataH r1 r2 (iM ox) (iM oy) hu ⟨.bl (!gw x y),H,I,?_,q⟩;rw[xl 8 8 x y ox oy];rfl
end Vc
namespace Vc
open PySem L2
variable [KF]
variable {G:GE}{k:Nat}{S:Stat}
def nE(r:R2)(f:D->D->(Bool->Prop)->Prop):Prop:=
 ∀Y F H ai σ v u x y (Qd:Bool->Prop) (Q:VK),RS Y F ai σ H->cf F H v x->cf F H u y->f x y Qd->(∀b,Qd b->Q (.bl b) H)->r v u H Q
def aQ(f:D->D->(Bool->Prop)->Prop)(ta tb:TV):TB:=λσ Q=>ta σ λx ax=>tb ax λy aO=>match df aO x,df aO y with
 | some a,some b=>f a b λr=>Q r aO
 | _,_=>False
def bV(t:TB):TV:=λσ Q=>t σ λb ax=>Q (.val (.bl b)) ax
theorem qh{Y:bP}{r:R2}{f:D->D->(Bool->Prop)->Prop}(hs:nE r f){ta tb:TV}{σ:St}{H:Hp}{Q:VK}{F:Hp}{ai:Sd}{Qd:Bool->Sd->Prop}(R:RS Y F ai σ H)(q:aQ f ta tb ai Qd)
  (K:∀b H' F' aI,aw F F'->RS Y F' aI σ H'->Qd b aI->Q (.bl b) H'):TJ r (lO Y ta) (lO Y tb) σ H Q:=by
 refine⟨F,ai,_,R,q,λv1 H1 F1 x ax s1 R1 r1 q1=>?_⟩;refine⟨F1,ax,_,R1,q1,λv2 H2 F2 y aO s2 R2 r2 q2=>?_⟩
 split at q2
 ·rename_i a b ea eb
  exact hs Y F2 H2 aO σ v1 v2 a b _ Q R2 (R2.df (r1.mono s2) ea) (R2.df r2 eb) q2 λc qc=>K c H2 F2 aO (s1.trans s2) R2 qc
 ·exact q2.elim
def pI(G:GE)(k:Nat)(S:Stat)(op:CmpOp)(f:D->D->(Bool->Prop)->Prop):Prop:=∃r:R2,(∀X Y,eG X G k S Y->iR X (compareOp op) r)/\nE r f
theorem aU{op:CmpOp}{f:D->D->(Bool->Prop)->Prop}(h:pI G k S op f){a b:Expr}{ta tb:TV}{pos:Pos}(ha:EO G k S a ta)(hb:EO G k S b tb)(hm:behindInMarks op b=false:=by first|exact sE _|with_unfolding_all rfl):
  EB G k S (.Compare a [op] [b] pos) (aQ f ta tb):=.mk λX Y ok=>by
 obtain⟨r,ho,hs⟩:=h;refine oV (sM (ho X Y ok) (ha X Y ok) (hb X Y ok) hm) λσ H Q q=>?_;obtain⟨F,ai,Qd,R,q,K⟩:=q;exact qh hs R q λb H' F' aI s R' qq=>⟨b,rfl,K b H' F' aI s R' qq⟩
theorem jb{op:CmpOp}{f:D->D->(Bool->Prop)->Prop}(h:pI G k S op f){a b:Expr}{ta tb:TV}{pos:Pos}(ha:EO G k S a ta)(hb:EO G k S b tb)(hm:behindInMarks op b=false:=by first|exact sE _|with_unfolding_all rfl):
  EO G k S (.Compare a [op] [b] pos) (bV (aQ f ta tb)):=.mk λX Y ok=>by
 obtain⟨r,ho,hs⟩:=h;refine a7 (IP (ho X Y ok) (ha X Y ok) (hb X Y ok) hm) λσ H Q q=>?_;obtain⟨F,ai,Qd,R,q,K⟩:=q;exact qh hs R q λb H' F' aI s R' qq=>K _ H' F' (.val (.bl b)) aI s R' (.bl b) qq
def eqT(x y:D)(Q:Bool->Prop):Prop:=(bO 8 x=true/\bO 8 y=true)/\Q (gw x y)
def neT(x y:D)(Q:Bool->Prop):Prop:=(bO 8 x=true/\bO 8 y=true)/\Q (!gw x y)
theorem eM:pI G k S .Eq eqT:=⟨Jj false,λX Y ok=>QM ok.units,λY F H ai σ v u x y Qd Q R rx ry q K=>⟨F,x,y,R.fr,rx,ry,q.1.1,q.1.2,K _ q.2⟩⟩
theorem z9:pI G k S .NotEq neT:=⟨Jj true,λX Y ok=>QR ok.units,λY F H ai σ v u x y Qd Q R rx ry q K=>⟨F,x,y,R.fr,rx,ry,q.1.1,q.1.2,K _ q.2⟩⟩
def OC(p:Int->Int->Bool):D->D->(Bool->Prop)->Prop
 | .int i,.int j,Q=>Q (p i j)
 | _,_,_=>False
theorem iC{p:Int->Int->Bool}:nE (GX λi j=>.bl (p i j)) (OC p):=λY F H ai σ v u x y Qd Q R rx ry q K=>by
 unfold OC at q
 split at q
 ·obtain rfl:=rx.int;obtain rfl:=ry.int
  exact⟨_,_,rfl,rfl,K _ q⟩
 ·exact q.elim
def Ej:=OC λi j=>decide (i<j)
def ZZ:=OC λi j=>decide (i<=j)
def ZJ:=OC λi j=>decide (j<i)
def ZI:=OC λi j=>decide (j<=i)
theorem xg:pI G k S .Lt Ej:=⟨_,λ_ _ _=>Yd,iC⟩
theorem Vu:pI G k S .LtE ZZ:=⟨_,λ_ _ _=>Yc,iC⟩
theorem Vt:pI G k S .Gt ZJ:=⟨_,λ_ _ _=>Yb,iC⟩
theorem Vr:pI G k S .GtE ZI:=⟨_,λ_ _ _=>Ya,iC⟩
def isNone:D->Bool
 | .aV=>true
 | _=>false
def Xj(x y:D)(Q:Bool->Prop):Prop:=isNone y=true/\Q (isNone x)
theorem cf.isNone{F H:Hp}{v:V}{x:D}(r:cf F H v x):decide (v=.aV)=isNone x:=by
 cases x with
 | lst xs=>obtain⟨a,vs,rfl,_⟩:=r;rfl
 | dct _=>cases(show Rep F v (.dct _)from r);rfl
 | exc _=>cases(show Rep F v (.exc _)from r);rfl
 | iL _=>cases(show Rep F v (.iL _)from r);rfl
 | gv _=>obtain⟨a,ks,rfl,_⟩:=r;rfl
 | kp _ _ _ _=>obtain⟨a,dx,ad,ks,rfl,_⟩:=r;rfl
 | aV=>obtain rfl:=r.aV;rfl
 | bl _=>obtain rfl:=r.bl;rfl
 | int _=>obtain rfl:=r.int;rfl
 | str _=>obtain rfl:=r.str;rfl
 | tup _=>cases(show Rep F v (.tup _)from r);rfl
theorem cf.PB{F H:Hp}{v:V}{x:D}(r:cf F H v x)(h:Vc.isNone x=true):v=.aV:=by
 cases x<;>first|exact r.aV|cases h
theorem Mr:pI G k S .Is Xj:=⟨_,λ_ _ _=>QO,λY F H ai σ v u x y Qd Q R rx ry q K=>⟨ry.PB q.1,by rw[rx.isNone];exact K _ q.2⟩⟩
def T9:D->(Bool->Prop)->Prop
 | .aV,Q=>Q false
 | .bl b,Q=>Q b
 | .int i,Q=>Q (i != 0)
 | .lst xs,Q=>Q (!xs.isEmpty)
 | .tup xs,Q=>Q (!xs.isEmpty)
 | _,_=>False
def FE(t:TV):TB:=λσ Q=>t σ λx ax=>match df ax x with
 | some d=>T9 d λb=>Q b ax
 | none=>False
theorem jJ{F:Hp}{vs:List V}{xs:List D}(r:aH F vs xs):(!xs.isEmpty)=!vs.isEmpty:=by cases r<;>rfl
theorem xT{e:Expr}{t:TV}(h:EO G k S e t)(he:∀env whole,isTrue e env whole=(do let v <- whole;standAt e.pos;holding [v] (truthy v)):=by intro _ _;rfl):EB G k S e (FE t):=.mk λX Y ok=>by
 refine oV (E6 (h X Y ok) (he _)) λσ H Q q=>?_;obtain⟨F,ai,Qd,R,q,K⟩:=q;refine⟨F,ai,_,R,q,λv1 H1 F1 x ax s1 R1 r1 q1=>?_⟩
 split at q1
 ·rename_i d ed
  have r:=R1.df r1 ed;unfold T9 at q1
  split at q1
  ·obtain rfl:=r.aV;exact⟨false,rfl,K _ H1 F1 ax s1 R1 q1⟩
  ·rename_i b;obtain rfl:=r.bl;exact⟨b,rfl,K _ H1 F1 ax s1 R1 q1⟩
  ·rename_i i;obtain rfl:=r.int;exact⟨_,rfl,K _ H1 F1 ax s1 R1 q1⟩
  ·rename_i xs;obtain⟨a,vs,rfl,h1,h2⟩:=r.lst
   exact⟨!xs.isEmpty,.inl ⟨vs,.inl h1,jJ h2⟩,K _ H1 F1 ax s1 R1 q1⟩
  ·rename_i xs;obtain⟨a,vs,rfl,h1,h2⟩:=r.tup R1.fr
   exact⟨!xs.isEmpty,.inr (.inl ⟨vs,.inl (.inl h1),jJ h2⟩),K _ H1 F1 ax s1 R1 q1⟩
  ·exact q1.elim
 ·exact q1.elim
def wj(t u:TB):TB:=λσ Q=>t σ λc ax=>if c=true then u ax Q else Q false ax
def Bb(t u:TB):TB:=λσ Q=>t σ λc ax=>if c=true then Q true ax else u ax Q
def wm(t:TB):TB:=λσ Q=>t σ λc ax=>Q (!c) ax
structure EW(G:GE)(k:Nat)(S:Stat)(e:Expr)(t:TB) :Prop where
 run:∀X Y,eG X G k S Y->PW X e (lB Y t)
instance {G:GE} {k:Nat} {S:Stat} {e:Expr} {t:TB} :CoeFun (EW G k S e t) λ_=>∀X Y,eG X G k S Y->PW X e (lB Y t):=⟨EW.run⟩
theorem pw_imp{X:Cx}{e:Expr}{t t':TT}(h:PW X e t)(i:∀σ H Q,t' σ H Q->t σ H Q):PW X e t':=λwh pins s σ H Q I q=>h wh pins s σ H Q I (i σ H Q q)
section
variable {a b:Expr}{rest:List Expr}{ta tb:TB}{pos:Pos}
theorem Se(h:EW G k S a ta):EB G k S a ta:=.mk λX Y ok=>(h X Y ok).pt
theorem xR(ha:EB G k S a ta):EW G k S (.BoolOp .And [a] pos) ta:=.mk λX Y ok=>pw_and1 (ha X Y ok)
theorem zt(ha:EB G k S a ta):EW G k S (.BoolOp .Or [a] pos) ta:=.mk λX Y ok=>pw_or1 (ha X Y ok)
theorem Fb(ha:EB G k S a ta)(hb:EW G k S (.BoolOp .And (b::rest) pos) tb):EW G k S (.BoolOp .And (a::b::rest) pos) (wj ta tb):=.mk λX Y ok=>pw_imp (pw_and (ha X Y ok) (hb X Y ok)) λσ H Q q=>by
 obtain⟨F,ai,Qd,R,q,K⟩:=q;refine⟨F,ai,_,R,q,λc H1 F1 ax s1 R1 q1=>?_⟩;cases c with
 | true=>exact⟨F1,ax,Qd,R1,q1,λb H' F' aI s R' qq=>K b H' F' aI (s1.trans s) R' qq⟩
 | false=>exact K false H1 F1 ax s1 R1 q1
theorem Jn(ha:EB G k S a ta)(hb:EW G k S (.BoolOp .Or (b::rest) pos) tb):EW G k S (.BoolOp .Or (a::b::rest) pos) (Bb ta tb):=.mk λX Y ok=>pw_imp (pw_or (ha X Y ok) (hb X Y ok)) λσ H Q q=>by
 obtain⟨F,ai,Qd,R,q,K⟩:=q;refine⟨F,ai,_,R,q,λc H1 F1 ax s1 R1 q1=>?_⟩;cases c with
 | false=>exact⟨F1,ax,Qd,R1,q1,λb H' F' aI s R' qq=>K b H' F' aI (s1.trans s) R' qq⟩
 | true=>exact K true H1 F1 ax s1 R1 q1
theorem xS(ha:EB G k S a ta):EB G k S (.UnaryOp .Not a pos) (wm ta):=.mk λX Y ok=>oV (RV (ha X Y ok)) λσ H Q q=>by
 obtain⟨F,ai,Qd,R,q,K⟩:=q;exact⟨F,ai,_,R,q,λc H1 F1 ax s1 R1 q1=>K _ H1 F1 ax s1 R1 q1⟩
end
structure EV'(G:GE)(k:Nat)(S:Stat)(e:Expr)(t:TB) :Prop where
 run:∀X Y,eG X G k S Y->PE X e (λσ H Q=>lB Y t σ H λb H'=>Q (.bl b) H')
instance {G:GE} {k:Nat} {S:Stat} {e:Expr} {t:TB} :CoeFun (EV' G k S e t) λ_=>∀X Y,eG X G k S Y->PE X e (λσ H Q=>lB Y t σ H λb H'=>Q (.bl b) H'):=⟨EV'.run⟩
end Vc
namespace Vc
open PySem L2
variable [KF]
variable {G:GE}{k:Nat}{S:Stat}
theorem aH.lb{F:Hp}{vs:List V}{xs:List D}{i:Int}{d:D}(r:aH F vs xs)(h:L2.lb xs i=some d):∃v,L2.lb vs i=some v/\Rep F v d:=by
 unfold L2.lb at h ⊢;rw[r.length];cases e:GU xs.length i with
 | none=>rw[e]at h;cases h
 | some j =>
  rw[e]at h;exact r.get (i:=j) h
def Ia:D->D->(D->Prop)->Prop
 | .lst xs,.int i,Q=>match lb xs i with
  | some d=>Q d
  | none=>False
 | .tup xs,.int i,Q=>match lb xs i with
  | some d=>Q d
  | none=>False
 | .str z,.int i,Q=>z.length<=sizeLine/\match lb z.cps.toList i with
  | some c=>Q (.str ⟨#[c]⟩)
  | none=>False
 | .iL ns,.int i,Q=>match lb ns i with
  | some n=>Q (.int n)
  | none=>False
 | _,_,_=>False
theorem G9{α β:Type}(f:α->β){xs:List α}{i:Int}{a:α}(h:L2.lb xs i=some a):L2.lb (xs.map f) i=some (f a):=by
 unfold L2.lb at h ⊢;rw[List.length_map];cases e:GU xs.length i with
 | none=>rw[e]at h;cases h
 | some j =>
  rw[e]at h;have h:xs[j]?=some a:=h;show(xs.map f)[j]?=_;rw[List.getElem?_map,h];rfl
def dg(ta tb:TV):TV:=λσ Q=>ta σ λx ax=>tb ax λy aO=>match df aO x,df aO y with
 | some a,some b=>Ia a b λr=>Q (.val r) aO
 | _,_=>False
theorem bI{a b:Expr}{ta tb:TV}{pos:Pos}(ha:EO G k S a ta)(hb:EO G k S b tb)(hs:yn b:=by intro _ _;rfl):EO G k S (.Subscript a b pos) (dg ta tb):=.mk λX Y ok =>
 a7 (Yr OM (ha X Y ok) (hb X Y ok) hs) λσ H Q q=>by
  obtain⟨F,ai,Qd,R,q,K⟩:=q;refine⟨F,ai,_,R,q,λv1 H1 F1 x ax s1 R1 r1 q1=>?_⟩;refine⟨F1,ax,_,R1,q1,λv2 H2 F2 y aO s2 R2 r2 q2=>?_⟩
  split at q2
  ·rename_i a b ea eb
   have rx:=R2.df (r1.mono s2) ea;have ry:=R2.df r2 eb;have fin:∀ {v d},Rep F2 v d->Qd (.val d) aO->Q v H2:=λr qq=>K _ H2 F2 (.val _) aO (s1.trans s2) R2 r qq;unfold Ia at q2
   split at q2
   ·obtain⟨p,vs,rfl,h1,r1⟩:=rx.lst;obtain rfl:=ry.int
    split at q2
    ·rename_i d e
     obtain⟨v,ev,rv⟩:=r1.lb e;exact .inl ⟨p,vs,_,v,rfl,rfl,.inl h1,ev,fin rv q2⟩
    ·exact q2.elim
   ·obtain⟨p,vs,rfl,h1,r1⟩:=rx.tup R2.fr;obtain rfl:=ry.int
    split at q2
    ·rename_i d e
     obtain⟨v,ev,rv⟩:=r1.lb e;exact .inr (.inl ⟨p,vs,_,v,rfl,rfl,.of h1,ev,fin rv q2⟩)
    ·exact q2.elim
   ·obtain rfl:=rx.str;obtain rfl:=ry.int
    obtain⟨hz,q2⟩:=q2
    split at q2
    ·rename_i c e
     exact .inr (.inr ⟨_,_,c,rfl,rfl,hz,e,fin (.str _) q2⟩)
    ·exact q2.elim
   ·rename_i ns i
    have rx:Rep F2 v1 (.iL ns):=rx;obtain rfl:=ry.int;cases rx with
    | iL h =>
     split at q2
     ·rename_i n e
      exact .inl ⟨_,ns.map V.int,_,.int n,rfl,rfl,by rw[ok.kf];exact R2.fr.seq h,G9 V.int e,fin (.int _) q2⟩
     ·exact q2.elim
   ·exact q2.elim
  ·exact q2.elim
theorem qS{F:Hp}:∀ns:List Int,aH F (ns.map V.int) (ns.map D.int)
 | []=>.nil
 | n::ns=>.cons (.int n) (qS ns)
theorem cf.iL{F H:Hp}(s:aw F H){v:V}{ns:List Int}(r:cf F H v (.iL ns)):∃a,v=.ref a/\gE KF.K H a (ns.map V.int):=by
 cases(show Rep F v (.iL ns)from r)with
 | iL h=>exact⟨_,rfl,s.seq h⟩
abbrev LO:=Sd->(Option Int->Sd->Prop)->Prop
def lP(Y:bP)(t:LO):TO:=λσ H Q=>∃F ai Qd,RS Y F ai σ H/\t ai Qd/\∀o H' F' aI,aw F F'->RS Y F' aI σ H'->Qd o aI->Q o H'
structure Um(G:GE)(k:Nat)(S:Stat)(e:Option Expr)(t:LO) :Prop where
 run:∀X Y,eG X G k S Y->PO X e (lP Y t)
instance {G:GE} {k:Nat} {S:Stat} {e:Option Expr} {t:LO} :CoeFun (Um G k S e t) λ_=>∀X Y,eG X G k S Y->PO X e (lP Y t):=⟨Um.run⟩
theorem E2{X:Cx}{e:Option Expr}{t t':TO}(h:PO X e t)(i:∀σ H Q,t' σ H Q->t σ H Q):PO X e t':=λpins s σ H Q I q=>h pins s σ H Q I (i σ H Q q)
def tP0:LO:=λσ Q=>Q none σ
def Zj(t:TV):LO:=λσ Q=>t σ λx ax=>match df ax x with
 | some (.int i)=>Q (some i) ax
 | _=>False
theorem Q6:Um G k S none tP0:=.mk λX Y ok=>E2 IZ λσ H Q q=>by
 obtain⟨F,ai,Qd,R,q,K⟩:=q;exact K none H F ai (aw.refl _) R q
theorem xO{e:Expr}{t:TV}(h:EO G k S e t):Um G k S (some e) (Zj t):=.mk λX Y ok=>E2 (Ja (h X Y ok)) λσ H Q q=>by
 obtain⟨F,ai,Qd,R,q,K⟩:=q;refine⟨F,ai,_,R,q,λv1 H1 F1 x ax s1 R1 r1 q1=>?_⟩
 split at q1
 ·rename_i i e
  obtain rfl:=(R1.df r1 e).int;exact⟨i,rfl,K _ H1 F1 ax s1 R1 q1⟩
 ·exact q1.elim
def cut{α:Type}(xs:List α)(lo hi:Option Int):List α:=(xs.drop (HT.du xs.length 0 lo)).take (HT.du xs.length xs.length hi-HT.du xs.length 0 lo)
theorem aH.cut{F:Hp}{vs:List V}{xs:List D}(r:aH F vs xs)(lo hi:Option Int):aH F (uO vs lo hi) (cut xs lo hi):=by
 unfold uO Vc.cut;rw[r.length];exact(r.drop _).take _
def slD:D->Option Int->Option Int->(EV->Prop)->Prop
 | .lst xs,lo,hi,Q=>Q (.own (cut xs lo hi))
 | .iL ns,lo,hi,Q=>Q (.own (cut (ns.map D.int) lo hi))
 | .tup xs,lo,hi,Q=>¬(HT.du xs.length 0 lo=0/\HT.du xs.length xs.length hi=xs.length)/\Q (.val (.tup (cut xs lo hi)))
 | _,_,_,_=>False
def JD(t:TV)(tl th:LO):TX:=λσ Q=>t σ λx ax=>tl ax λl aO=>th aO λu iu=>match df iu x with
 | some d=>slD d l u λr=>Q r iu
 | none=>False
theorem YN{e:Expr}{lo hi:Option Expr}{t:TV}{tl th:LO}{p2 pos:Pos}(h:EO G k S e t)(hl:Um G k S lo tl)(hh:Um G k S hi th):EX G k S (.Subscript e (.Slice lo hi none p2) pos) (JD t tl th):=.mk λX Y ok =>
 a7 (EJ (Kt.or Jv Tp) (h X Y ok) (hl X Y ok) (hh X Y ok)) λσ H Q q=>by
  obtain⟨F,ai,Qd,R,q,K⟩:=q;refine⟨F,ai,_,R,q,λv1 H1 F1 x ax s1 R1 r1 q1=>?_⟩;refine⟨F1,ax,_,R1,q1,λl H2 F2 aO s2 R2 q2=>?_⟩;refine⟨F2,aO,_,R2,q2,λu H3 F3 iu s3 R3 q3=>?_⟩
  split at q3
  ·rename_i d e
   have rx:=R3.df (r1.mono (s2.trans s3)) e;have g:Goes Y F3 iu σ (λr=>Qd r iu) Q:=λv H' F' r s R' rr qq=>K v H' F' r iu (((s1.trans s2).trans s3).trans s) R' rr qq;unfold slD at q3
   split at q3
   ·obtain⟨p,vs,rfl,h1,r1⟩:=rx.lst
    exact .inl ⟨p,vs,rfl,.inl h1,g.own R3 (r1.cut _ _) q3⟩
   ·obtain⟨p,rfl,h1⟩:=rx.iL R3.fr
    exact .inl ⟨p,_,rfl,by rw[ok.kf];exact h1,g.own R3 ((qS _).cut _ _) q3⟩
   ·obtain⟨p,vs,rfl,h1,r1⟩:=rx.tup R3.fr
    exact .inr ⟨p,vs,rfl,.of h1,by rw[r1.length];exact q3.1,g.tup R3 (r1.cut _ _) q3.2⟩
   ·exact q3.elim
  ·exact q3.elim
def tN:iy:=λσ Q=>Q [] σ
def bf(t:TD)(u:iy):iy:=λσ Q=>t σ λx ax=>u ax λxs aO=>Q (x::xs) aO
theorem aD:zW G k S [] tN:=.mk λX Y ok=>gZ g0 λσ H Q q=>by
 obtain⟨F,ai,Qd,R,q,K⟩:=q;exact K [] H F [] ai (aw.refl _) R .nil q
theorem ah{e:Expr}{es:List Expr}{t:TD}{u:iy}(h:ED G k S e t)(hs:zW G k S es u)(he:∀env,starEach (e::es) env=(false,eval e env)::starEach es env:=by exactλ_=>Vc.cH rfl):zW G k S (e::es) (bf t u):=.mk λX Y ok =>
 gZ (cV (h X Y ok) (hs X Y ok) (he _)) λσ H Q q=>by
  obtain⟨F,ai,Qd,R,q,K⟩:=q;refine⟨F,ai,_,R,q,λv1 H1 F1 x ax s1 R1 r1 q1=>?_⟩;exact⟨F1,ax,_,R1,q1,λvs H2 F2 xs aO s2 R2 r2 q2=>K _ H2 F2 (x::xs) aO (s1.trans s2) R2 (.cons (r1.mono s2) r2) q2⟩
def ua(t:iy):TX:=λσ Q=>t σ λxs ax=>xs.length<=sizeLine/\Q (.own xs) ax
def uq(t:iy):TV:=λσ Q=>t σ λxs ax=>xs.length<=sizeLine/\Q (.val (.tup xs)) ax
theorem eB{es:List Expr}{t:iy}{pos:Pos}(h:zW G k S es t):EX G k S (.List es pos) (ua t):=.mk λX Y ok=>a7 (Rf (h X Y ok)) λσ H Q q=>by
 obtain⟨F,ai,Qd,R,q,K⟩:=q;refine⟨F,ai,_,R,q,λvs H1 F1 xs ax s1 R1 r1 q1=>⟨by rw[r1.length];exact q1.1,?_⟩⟩
 have g:Goes Y F1 ax σ (λr=>Qd r ax) Q:=λv H' F' r s R' rr qq=>K v H' F' r ax (s1.trans s) R' rr qq;exact g.own R1 r1 q1.2
theorem eU{es:List Expr}{t:iy}{x1}{pos:Pos}(h:zW G k S es t):EO G k S (.Tuple es x1 pos) (uq t):=.mk λX Y ok=>a7 (Rj (h X Y ok)) λσ H Q q=>by
 obtain⟨F,ai,Qd,R,q,K⟩:=q;refine⟨F,ai,_,R,q,λvs H1 F1 xs ax s1 R1 r1 q1=>⟨by rw[r1.length];exact q1.1,λp hp=>?_⟩⟩
 have sm:=aM (o:=.tup vs) (same_none R1.fr hp);exact K _ _ _ (.val (.tup xs)) ax (s1.trans sm) (R1.alloc hp) (.tup az (r1.mono sm)) q1.2
abbrev yp:=Sd->(List OV->Sd->Prop)->Prop
inductive uE (F:Hp)(σ:St):List V->List OV->Prop where
 | nil:uE F σ [] []
 | cons {v:V} {x:OV} {vs:List V} {xs:List OV}:wZ F σ v x->uE F σ vs xs->uE F σ (v::vs) (x::xs)
def lOs(Y:bP)(t:yp):TA:=λσ H Q=>∃F ai Qd,RS Y F ai σ H/\t ai Qd/\∀vs H' F' xs aI,aw F F'->RS Y F' aI σ H'->uE F' σ vs xs->Qd xs aI->Q vs H'
structure G2(G:GE)(k:Nat)(S:Stat)(es:List Expr)(t:yp) :Prop where
 run:∀X Y,eG X G k S Y->PA X es (lOs Y t)
instance {G:GE} {k:Nat} {S:Stat} {es:List Expr} {t:yp} :CoeFun (G2 G k S es t) λ_=>∀X Y,eG X G k S Y->PA X es (lOs Y t):=⟨G2.run⟩
def dB:yp:=λσ Q=>Q [] σ
def bD(t:TV)(u:yp):yp:=λσ Q=>t σ λx ax=>u ax λxs aO=>Q (x::xs) aO
theorem aS:G2 G k S [] dB:=.mk λX Y ok=>gZ g0 λσ H Q q=>by
 obtain⟨F,ai,Qd,R,q,K⟩:=q;exact K [] H F [] ai (aw.refl _) R .nil q
theorem aG{e:Expr}{es:List Expr}{t:TV}{u:yp}(h:EO G k S e t)(hs:G2 G k S es u)(he:∀env,starEach (e::es) env=(false,eval e env)::starEach es env:=by exactλ_=>Vc.cH rfl):G2 G k S (e::es) (bD t u):=.mk λX Y ok =>
 gZ (cV (h X Y ok) (hs X Y ok) (he _)) λσ H Q q=>by
  obtain⟨F,ai,Qd,R,q,K⟩:=q;refine⟨F,ai,_,R,q,λv1 H1 F1 x ax s1 R1 r1 q1=>?_⟩;exact⟨F1,ax,_,R1,q1,λvs H2 F2 xs aO s2 R2 r2 q2=>K _ H2 F2 (x::xs) aO (s1.trans s2) R2 (.cons (r1.mono s2) r2) q2⟩
def mX(σ:Sd):List OV->Option (List D)
 | []=>some []
 | x::xs=>match df σ x,mX σ xs with
  | some d,some ds=>some (d::ds)
  | _,_=>none
inductive jA (F H:Hp):List V->List D->Prop where
 | nil:jA F H [] []
 | cons {v:V} {x:D} {vs:List V} {xs:List D}:cf F H v x->jA F H vs xs->jA F H (v::vs) (x::xs)
theorem RS.mX{Y:bP}{F:Hp}{ai:Sd}{σ:St}{H:Hp}(R:RS Y F ai σ H):∀ {vs:List V} {xs:List OV} {ds:List D},uE F σ vs xs->Vc.mX ai xs=some ds->jA F H vs ds
 | _,_,_,.nil,e=>by cases e;exact .nil
 | _,_,_,.cons (x:=x) (xs:=xs) r t,e=>by
  have e:(match Vc.df ai x,Vc.mX ai xs with|some d,some ds=>some (d::ds)|_,_=>none)=some _:=e
  split at e
  ·rename_i d ds e1 e2
   cases e;exact .cons (R.df r e1) (RS.mX R t e2)
  ·cases e
theorem jA.one{F H:Hp}{vs:List V}{d:D}(r:jA F H vs [d]):∃v,vs=[v]/\cf F H v d:=by
 cases r with
 | cons r t=>cases t;exact⟨_,rfl,r⟩
theorem jA.two{F H:Hp}{vs:List V}{d e:D}(r:jA F H vs [d,e]):∃v u,vs=[v,u]/\cf F H v d/\cf F H u e:=by
 cases r with
 | cons r t =>
  obtain⟨u,rfl,q⟩:=t.one;exact⟨_,u,rfl,r,q⟩
def pY(r:List V->Hp->VK->Prop)(f:List D->(EV->Prop)->Prop):Prop:=
 ∀Y F H ai σ vs ds (Qd:EV->Prop) (Q:VK),RS Y F ai σ H->jA F H vs ds->f ds Qd->Goes Y F ai σ Qd Q->r vs H Q
def eW(f:List D->(EV->Prop)->Prop)(t:yp):TX:=λσ Q=>t σ λxs ax=>match mX ax xs with
 | some ds=>f ds λr=>Q r ax
 | none=>False
theorem qW{Y:bP}{r:List V->Hp->VK->Prop}{f:List D->(EV->Prop)->Prop}(hs:pY r f){t:yp}{σ:St}{H:Hp}{Q:VK}(q:lX Y (eW f t) σ H Q):tCB r (lOs Y t) σ H Q:=by
 obtain⟨F,ai,Qd,R,q,K⟩:=q;refine⟨F,ai,_,R,q,λvs H1 F1 xs ax s1 R1 r1 q1=>?_⟩
 split at q1
 ·rename_i ds e
  exact hs Y F1 H1 ax σ vs ds _ Q R1 (R1.mX r1 e) q1 λv H' F' r s R' rr qq=>K v H' F' r ax (s1.trans s) R' rr qq
 ·exact q1.elim
def Bq(G:GE)(k:Nat)(S:Stat)(f:Value)(g:List D->(EV->Prop)->Prop):Prop:=∃r:PySem.W.Frag->List V->Hp->VK->Prop,(∀X Y,eG X G k S Y->dW X f (r X.K))/\pY (r KF.K) g
section
variable {x:Str}{p pos:Pos}{e:Expr}{es:List Expr}{t:yp}{id T:String}{g:List D->(EV->Prop)->Prop}
theorem cZ(h:Bq G k S (.builtin id) g)(hm:G.mg x=none)(ha:G2 G k S (e::es) t)(hv:bootBuiltins x=some (.builtin id))(hg:S.sc.lookup x=some .globalImplicit:=by rfl)(hn:x≠"__name__":=by decide)(lA:(x==("__debug__":Str))=false:=by decide)
  (he:∀env,starEach (e::es) env=(false,eval e env)::starEach es env:=by exactλ_=>Vc.cH rfl) (de:∀env,(backTo pos (starEach es env)).any (·.1)=false:=by intro _;rfl):EX G k S (.Call (.Name x p) (e::es) [] pos) (eW g t):=.mk λX Y ok=>by
 obtain⟨r,hc,hs⟩:=h;exact a7 (oU (hc X Y ok) (dZ ok hg) (by rw[ok.mg];exact hm) hv (ha X Y ok) hn lA (he _) (de _)) λσ H Q q=>qW (by rw[ok.kf];exact hs) q
theorem pQ(h:Bq G k S (.type T) g)(hm:G.mg x=none)(ha:G2 G k S (e::es) t)(hv:bootBuiltins x=some (.type T))(hg:S.sc.lookup x=some .globalImplicit:=by rfl)(hn:x≠"__name__":=by decide)(lA:(x==("__debug__":Str))=false:=by decide)
  (he:∀env,starEach (e::es) env=(false,eval e env)::starEach es env:=by exactλ_=>Vc.cH rfl) (de:∀env,(backTo pos (starEach es env)).any (·.1)=false:=by intro _;rfl):EX G k S (.Call (.Name x p) (e::es) [] pos) (eW g t):=.mk λX Y ok=>by
 obtain⟨r,hc,hs⟩:=h;exact a7 (AY (hc X Y ok) (dZ ok hg) (by rw[ok.mg];exact hm) hv (ha X Y ok) hn lA (he _) (de _)) λσ H Q q=>qW (by rw[ok.kf];exact hs) q
end
def gU:List D->(EV->Prop)->Prop
 | [.lst xs],Q=>Q (.val (.int xs.length))
 | [.tup xs],Q=>Q (.val (.int xs.length))
 | [.iL ns],Q=>Q (.val (.int ns.length))
 | [.str z],Q=>z.length<=sizeLine/\Q (.val (.int z.length))
 | _,_=>False
theorem f_len:Bq G k S (.builtin "len") gU:=⟨λK xs H Q=>(∃p ys,xs=[V.ref p]/\(gE K H p ys\/kW K H p ys)/\Q (V.int ys.length) H)\/∃z,xs=[V.str z]/\z.length<=sizeLine/\Q (V.int z.length) H,λ_ _ _=>rG.or rH,λY F H ai σ vs ds Qd Q R r q g=>by
 unfold gU at q
 split at q
 ·obtain⟨v,rfl,rv⟩:=r.one
  obtain⟨p,us,rfl,h1,h2⟩:=rv.lst;exact .inl ⟨p,us,rfl,.inl (.inl h1),by rw[h2.length];exact g.val R (.int _) q⟩
 ·obtain⟨v,rfl,rv⟩:=r.one
  obtain⟨p,us,rfl,h1,h2⟩:=rv.tup R.fr;exact .inl ⟨p,us,rfl,.inr (.of h1),by rw[h2.length];exact g.val R (.int _) q⟩
 ·obtain⟨v,rfl,rv⟩:=r.one
  obtain⟨p,rfl,h1⟩:=rv.iL R.fr;exact .inl ⟨p,_,rfl,.inl h1,by rw[List.length_map];exact g.val R (.int _) q⟩
 ·obtain⟨v,rfl,rv⟩:=r.one
  obtain rfl:=rv.str;exact .inr ⟨_,rfl,q.1,g.val R (.int _) q.2⟩
 ·exact q.elim⟩
def w6:List D->(EV->Prop)->Prop
 | [.int i],Q=>Q (.val (.int (if i<0 then -i else i)))
 | _,_=>False
theorem yC:Bq G k S (.builtin "abs") w6:=⟨λ_=>_,λ_ _ _=>B7,λY F H ai σ vs ds Qd Q R r q g=>by
 unfold w6 at q
 split at q
 ·obtain⟨v,rfl,rv⟩:=r.one
  obtain rfl:=rv.int;exact⟨_,rfl,g.val R (.int _) q⟩
 ·exact q.elim⟩
def xA:List D->(EV->Prop)->Prop
 | [.int i],Q=>Q (.val (.int i))
 | [.bl b],Q=>Q (.val (.int (if b then 1 else 0)))
 | _,_=>False
theorem f_int:Bq G k S (.type "int") xA:=⟨λ_=>_,λ_ _ ok=>Aa,λY F H ai σ vs ds Qd Q R r q g=>by
 unfold xA at q
 split at q
 ·obtain⟨v,rfl,rv⟩:=r.one
  obtain rfl:=rv.int;exact .inl ⟨_,rfl,g.val R (.int _) q⟩
 ·obtain⟨v,rfl,rv⟩:=r.one
  obtain rfl:=rv.bl;exact .inr ⟨_,rfl,g.val R (.int _) q⟩
 ·exact q.elim⟩
def qI:List D->(EV->Prop)->Prop
 | [.lst xs],Q=>Q (.own xs)
 | [.tup xs],Q=>Q (.own xs)
 | _,_=>False
theorem f_list:Bq G k S (.type "list") qI:=⟨λK xs H Q=>∃p ys,xs=[V.ref p]/\(gE K H p ys\/kW K H p ys)/\∀l,H l=none->Q (.ref l) (upd H l (.lst ys)),λ_ _ ok=>rJ,λY F H ai σ vs ds Qd Q R r q g=>by
 unfold qI at q
 split at q
 ·obtain⟨v,rfl,rv⟩:=r.one
  obtain⟨p,us,rfl,h1,h2⟩:=rv.lst;exact⟨p,us,rfl,.inl (.inl h1),g.own R h2 q⟩
 ·obtain⟨v,rfl,rv⟩:=r.one
  obtain⟨p,us,rfl,h1,h2⟩:=rv.tup R.fr;exact⟨p,us,rfl,.inr (.of h1),g.own R h2 q⟩
 ·exact q.elim⟩
def mq:List D->(EV->Prop)->Prop
 | [.lst xs],Q=>Q (.val (.tup xs))
 | [.tup xs],Q=>Q (.val (.tup xs))
 | _,_=>False
theorem rT:Bq G k S (.type "tuple") mq:=⟨λK xs H Q=>∃p ys,xs=[V.ref p]/\((gE K H p ys/\∀l,H l=none->Q (.ref l) (upd H l (.tup ys)))\/(kW K H p ys/\Q (.ref p) H)),λ_ _ ok=>pK,λY F H ai σ vs ds Qd Q R r q g=>by
 unfold mq at q
 split at q
 ·obtain⟨v,rfl,rv⟩:=r.one
  obtain⟨p,us,rfl,h1,h2⟩:=rv.lst;exact⟨p,us,rfl,.inl ⟨.inl h1,g.tup R h2 q⟩⟩
 ·obtain⟨v,rfl,rv⟩:=r.one
  have rv':=rv;obtain⟨p,us,rfl,h1,h2⟩:=rv.tup R.fr;exact⟨p,us,rfl,.inr ⟨.of h1,g.val R rv' q⟩⟩
 ·exact q.elim⟩
end Vc
namespace Vc
open PySem L2
variable [KF]
variable {G:GE}{k:Nat}{S:Stat}
structure mx where
 nx:Sd->Prop
 rt:B->Sd->Prop
 bk:Sd->Prop:=λ_=>False
 ct:Sd->Prop:=λ_=>False
abbrev b5:=mx->Sd->Prop
def aad(Y:bP)(F H:Hp)(ai:Sd)(σ:St)(v:V):B->Prop
 | .sh d=>Rep F v d
 | .own xs=>∃a vs,v=.ref a/\H a=some (.lst vs)/\aH F vs xs/\F a=none/\Y.H0 a=none/\fB ai σ a
 | .obj o=>∃a,v=.ref a/\o.rep F H a/\∀b∈o.fp a,F b=none/\H b≠none/\Y.H0 b=none/\fB ai σ b
structure uw(Y:bP)(F:Hp)(De:mx)(Dn:Ends):Prop where
 nx:∀σ H F' ai,aw F F'->RS Y F' ai σ H->De.nx ai->Dn.nx σ H
 rt:∀v σ H F' ai b,aw F F'->RS Y F' ai σ H->aad Y F' H ai σ v b->De.rt b ai->Dn.rt v H
 bk:∀σ H F' ai,aw F F'->RS Y F' ai σ H->De.bk ai->Dn.bk σ H
 ct:∀σ H F' ai,aw F F'->RS Y F' ai σ H->De.ct ai->Dn.ct σ H
theorem uw.mono{Y:bP}{F F':Hp}{De:mx}{Dn:Ends}(h:uw Y F De Dn)(s:aw F F'):uw Y F' De Dn:=
 ⟨λσ H F2 ai s2=>h.nx σ H F2 ai (s.trans s2),λv σ H F2 ai b s2=>h.rt v σ H F2 ai b (s.trans s2),λσ H F2 ai s2=>h.bk σ H F2 ai (s.trans s2),λσ H F2 ai s2=>h.ct σ H F2 ai (s.trans s2)⟩
def lS(Y:bP)(t:b5):TS:=λDn σ H=>∃F ai De,RS Y F ai σ H/\t De ai/\uw Y F De Dn
structure ES(G:GE)(k:Nat)(S:Stat)(st:Stmt)(t:b5) :Prop where
 run:∀X Y,eG X G k S Y->PS X st (lS Y t)
instance {G:GE} {k:Nat} {S:Stat} {st:Stmt} {t:b5} :CoeFun (ES G k S st t) λ_=>∀X Y,eG X G k S Y->PS X st (lS Y t):=⟨ES.run⟩
structure c9(G:GE)(k:Nat)(S:Stat)(st:List Stmt)(t:b5) :Prop where
 run:∀X Y,eG X G k S Y->ug X st (lS Y t)
instance {G:GE} {k:Nat} {S:Stat} {st:List Stmt} {t:b5} :CoeFun (c9 G k S st t) λ_=>∀X Y,eG X G k S Y->ug X st (lS Y t):=⟨c9.run⟩
section
variable {st:Stmt}{rest:List Stmt}{t u:b5}{pos:Pos}
def jv:b5:=λDe σ=>De.nx σ
def bS(t u:b5):b5:=λDe σ=>t {De with nx:=u De} σ
theorem cc:c9 G k S [] jv:=.mk λX Y ok=>zr Jd λDn σ H q=>by
 obtain⟨F,ai,De,R,q,K⟩:=q;exact K.nx σ H F ai (aw.refl _) R q
theorem av(h1:ES G k S st t)(h2:c9 G k S rest u):c9 G k S (st::rest) (bS t u):=.mk λX Y ok=>zr (E5 (h1 X Y ok) (h2 X Y ok)) λDn σ H q=>by
 obtain⟨F,ai,De,R,q,K⟩:=q;refine⟨F,ai,_,R,q,⟨λcq H' F' aI s R' q'=>?_,K.rt,K.bk,K.ct⟩⟩;exact⟨F',aI,De,R',q',K.mono s⟩
theorem aB(h1:ES G k S st t):c9 G k S [st] t:=.mk λX Y ok=>Je (h1 X Y ok)
def ml:b5:=λ_ _=>False
theorem iK:ES G k S st ml:=.mk λX Y ok=>cR E3 λDn σ H q=>by
 obtain⟨F,ai,De,R,q,K⟩:=q;exact q
def b6(c:TB)(t u:b5):b5:=λDe σ=>c σ λb ax=>if b=true then t De ax else u De ax
theorem cT{c:Expr}{a b:List Stmt}{tc:TB}(hc:EB G k S c tc)(ha:c9 G k S a t)(hb:c9 G k S b u):ES G k S (.If c a b pos) (b6 tc t u):=.mk λX Y ok=>cR (YG (hc X Y ok) (ha X Y ok) (hb X Y ok)) λDn σ H q=>by
 obtain⟨F,ai,De,R,q,K⟩:=q;refine⟨F,ai,_,R,q,λb H1 F1 ax s1 R1 q1=>?_⟩;cases b with
 | true=>exact⟨F1,ax,De,R1,q1,K.mono s1⟩
 | false=>exact⟨F1,ax,De,R1,q1,K.mono s1⟩
def iX(t:TX):b5:=λDe σ=>t σ λ_ ax=>De.nx ax
theorem bA{e:Expr}{te:TX}(he:EX G k S e te)(hs:∀line env,swapsWith e none line env=pure false:=by intro _ _;rfl):ES G k S (.Expr e pos) (iX te):=.mk λX Y ok=>cR (sJ (he X Y ok) (hs _ _)) λDn σ H q=>by
 obtain⟨F,ai,De,R,q,K⟩:=q;exact⟨F,ai,_,R,q,λv H1 F1 x ax s1 R1 r1 q1=>K.nx σ H1 F1 ax s1 R1 q1⟩
def fA(ios:List Nat)(t:TX):b5:=λDe σ=>t σ λx ax=>match x with
 | .val d=>De.rt (.sh d) ax
 | .own xs=>De.rt (.own xs) ax
 | .obj o=>De.rt (.obj o) ax
 | .any=>False
 | .var i=>match ax[i]? with
  | some (some (.own xs))=>i∉ios/\De.rt (.own xs) (ax.set i none)
  | some (some (.sh d))=>De.rt (.sh d) ax
  | some (some (.obj o))=>ios=[]/\De.rt (.obj o) (ax.set i none)
  | _=>False
theorem RS.forget{Y:bP}{F:Hp}{ai:Sd}{σ:St}{H:Hp}{i:Nat}{b:B}(R:RS Y F ai σ H)(e:ai[i]?=some (some b))(eA:∀p∈Y.io,p.1≠i):RS Y F (ai.set i none) σ H where
 len:=by simpa using R.len
 lo:=R.lo
 fr:=R.fr
 fW:=R.fW
 old:=R.old
 sh:=λj d q=>by
  by_cases hj:j=i
  ·subst hj;rw[aY e]at q;cases q
  ·rw[bo hj]at q;exact R.sh j d q
 own:=λj xs q=>by
  by_cases hj:j=i
  ·subst hj;rw[aY e]at q;cases q
  ·rw[bo hj]at q;exact R.own j xs q
 dis:=λj l xs ys a q1 q2 q3 q4=>by
  have hj:j≠i:=λz=>by subst z;rw[aY e]at q1;cases q1
  have hl:l≠i:=λz=>by subst z;rw[aY e]at q2;cases q2
  rw[bo hj]at q1;rw[bo hl]at q2;exact R.dis j l xs ys a q1 q2 q3 q4
 io:=λp hp=>by
  obtain⟨w1,ys,w2⟩:=R.io p hp;exact⟨w1,ys,by rw[bo (eA p hp)];exact w2⟩
 ob:=R.ob.put (λ_ _=>rfl) (λ_ z=>nomatch z) λ_ _ z=>nomatch z
theorem RS.nio{Y:bP}{F:Hp}{ai:Sd}{σ:St}{H:Hp}{i:Nat}{xs:List D}(R:RS Y F ai σ H)(h:ai[i]?=some (some (.own xs)))(eA:∀p∈Y.io,p.1≠i){a:Addr}(q1:σ[i]?=some (some (.ref a))):Y.H0 a=none/\a∉Y.ZW:=by
 obtain⟨b,vs,w1,w2,w3,w4,w5⟩:=R.own i xs h;rw[q1]at w1;cases w1;have nin:a∉Y.ZW:=λq5=>by
  obtain⟨p,hp,e⟩:=List.mem_map.mp q5;obtain⟨z1,ys,z2⟩:=R.io p hp;exact absurd (R.dis p.1 i ys xs a z2 h (by rw[z1,e]) q1) (eA p hp)
 rcases w5 with w5|w5
 ·exact⟨w5,nin⟩
 ·exact absurd w5 nin
theorem bB{e:Expr}{te:TX}(he:EX G k S e te)(aaw:S.uk=false:=by rfl):ES G k S (.Return (some e) pos) (fA S.ios te):=.mk λX Y ok=>cR (RU (he X Y ok)) λDn σ H q=>by
 obtain⟨F,ai,De,R,q,K⟩:=q;refine⟨F,ai,_,R,q,λv H1 F1 x ax s1 R1 r1 q1=>?_⟩;cases x with
 | val d=>exact K.rt v σ H1 F1 ax (.sh d) s1 R1 r1 q1
 | own xs=>exact K.rt v σ H1 F1 ax (.own xs) s1 R1 r1 q1
 | obj o=>exact K.rt v σ H1 F1 ax (.obj o) s1 R1 r1 q1
 | any=>exact False.elim q1
 | var i =>
  have r1:σ[i]?=some (some v):=r1;dsimp only at q1
  split at q1
  ·rename_i xs e
   obtain⟨a,vs,w1,w2,w3,w4,w5⟩:=R1.own i xs e;rw[r1]at w1;cases w1;have eA:∀p∈Y.io,p.1≠i:=λp hp z=>q1.1 (z ▸ ok.ios p hp);refine K.rt _ σ H1 F1 _ (.own xs) s1 (R1.forget e eA) ⟨a,vs,rfl,w2,w3,w4,(R1.nio e eA r1).1,⟨λj ys e2 z=>?_,λ⟨j,o,c,e2,e3,hm⟩=>?_⟩⟩ q1.2
   ·by_cases hj:j=i
    ·subst hj;rw[aY e]at e2;cases e2
    ·rw[bo hj]at e2
     exact hj (R1.dis j i ys xs a e2 e z r1)
   ·have hj:j≠i:=λz=>by subst z;rw[aY e]at e2;cases e2
    rw[bo hj]at e2;exact R1.ob.gP i xs a e r1 ⟨j,o,c,e2,e3,hm⟩
  ·rename_i d e
   obtain⟨v2,e2,r2⟩:=R1.sh i d e;rw[r1]at e2;cases e2;exact K.rt v σ H1 F1 ax (.sh d) s1 R1 r2 q1
  ·rename_i o e
   obtain⟨a,w1,w2,w3⟩:=R1.ob.obj i o e;rw[r1]at w1;cases w1;have HJ:=ok.obs aaw q1.1;have eA:∀p∈Y.io,p.1≠i:=λp hp z=>by
    have:=ok.ios p hp;rw[q1.1]at this;cases this
   refine K.rt _ σ H1 F1 _ (.obj o) s1 (R1.forget e eA) ⟨a,rfl,w2,λb hb=>⟨(w3 b hb).1,(w3 b hb).2.1,?_,⟨λj ys e2 z=>?_,λ⟨j,o2,c,e2,e3,hm⟩=>?_⟩⟩⟩ q1.2
   ·rcases(w3 b hb).2.2 with z|z
    ·exact z
    ·rw[HJ]at z;cases z
   ·have hj:j≠i:=λz=>by subst z;rw[aY e]at e2;cases e2
    rw[bo hj]at e2;exact R1.ob.gP j ys b e2 z ⟨i,o,a,e,r1,hb⟩
   ·have hj:j≠i:=λz=>by subst z;rw[aY e]at e2;cases e2
    rw[bo hj]at e2;exact R1.ob.nQ j i o2 o c a e2 e e3 r1 hj b hm hb
  ·exact q1.elim
end
theorem gs{α:Type}{l:List α}{i j:Nat}{x y:α}(h:(l.set i x)[j]?=some y):(j=i/\y=x)\/(j≠i/\l[j]?=some y):=by
 by_cases hj:j=i
 ·subst hj
  by_cases hl:j<l.length
  ·rw[List.getElem?_set_self hl]at h;exact .inl ⟨rfl,(Option.some.inj h).symm⟩
  ·have:(l.set j x)[j]?=none:=by rw[List.getElem?_eq_none_iff];simp;omega
   rw[this]at h;cases h
 ·rw[List.getElem?_set_ne (Ne.symm hj)]at h;exact .inr ⟨hj,h⟩
theorem bH{α:Type}{l:List α}{i j:Nat}{x:α}(h:j≠i):(l.set i x)[j]?=l[j]?:=List.getElem?_set_ne (Ne.symm h)
theorem yH{α:Type}{l:List α}{i:Nat}{x:α}(h:i<l.length):(l.set i x)[i]?=some x:=List.getElem?_set_self h
theorem DC{α:Type}{l:List α}{i j:Nat}{x y:α}(h:(l.set i x)[j]?=some y):j<l.length:=by
 have:=(List.getElem?_eq_some_iff.mp h).1;simpa using this
theorem RS.vY{Y:bP}{F:Hp}{ai:Sd}{σ:St}{H:Hp}{i:Nat}{d:D}{v:V}(R:RS Y F ai σ H)(r:Rep F v d)(eA:∀p∈Y.io,p.1≠i):RS Y F (ai.set i (some (.sh d))) (σ.set i (some v)) H where
 len:=by simpa using R.len
 lo:=R.lo
 fr:=R.fr
 fW:=R.fW
 old:=R.old
 sh:=λj e q=>by
  rcases gs q with⟨rfl,z⟩|⟨hj,q'⟩
  ·cases z
   exact⟨v,yH (by rw[<- R.len];exact DC q),r⟩
  ·obtain⟨u,w1,w2⟩:=R.sh j e q'
   exact⟨u,by rw[bH hj];exact w1,w2⟩
 own:=λj xs q=>by
  rcases gs q with⟨_,z⟩|⟨hj,q'⟩
  ·cases z
  ·obtain⟨a,vs,w1,w2⟩:=R.own j xs q'
   exact⟨a,vs,by rw[bH hj];exact w1,w2⟩
 dis:=λj l xs ys a q1 q2 q3 q4=>by
  rcases gs q1 with⟨_,z⟩|⟨hj,q1⟩
  ·cases z
  rcases gs q2 with⟨_,z⟩|⟨hl,q2⟩
  ·cases z
  rw[bH hj]at q3;rw[bH hl]at q4;exact R.dis j l xs ys a q1 q2 q3 q4
 io:=λp hp=>by
  obtain⟨w1,ys,w2⟩:=R.io p hp;exact⟨by rw[bH (eA p hp)];exact w1,ys,by rw[bH (eA p hp)];exact w2⟩
 ob:=R.ob.put (λ_ hj=>bH hj) (λ_ z=>nomatch z) λ_ _ z=>nomatch z
theorem RS.SR{Y:bP}{F:Hp}{ai:Sd}{σ:St}{H:Hp}{i:Nat}{xs:List D}{a:Addr}{vs:List V}(R:RS Y F ai σ H)(h1:H a=some (.lst vs))(h2:aH F vs xs)(h3:F a=none)(h4:Y.H0 a=none)(h5:fB ai σ a)
  (eA:∀p∈Y.io,p.1≠i):RS Y F (ai.set i (some (.own xs))) (σ.set i (some (.ref a))) H where
 len:=by simpa using R.len
 lo:=R.lo
 fr:=R.fr
 fW:=R.fW
 old:=R.old
 sh:=λj e q=>by
  rcases gs q with⟨_,z⟩|⟨hj,q'⟩
  ·cases z
  ·obtain⟨u,w1,w2⟩:=R.sh j e q'
   exact⟨u,by rw[bH hj];exact w1,w2⟩
 own:=λj ys q=>by
  rcases gs q with⟨rfl,z⟩|⟨hj,q'⟩
  ·cases z
   exact⟨a,vs,yH (by rw[<- R.len];exact DC q),h1,h2,h3,.inl h4⟩
  ·obtain⟨b,us,w1,w2⟩:=R.own j ys q'
   exact⟨b,us,by rw[bH hj];exact w1,w2⟩
 dis:=λj l ys zs b q1 q2 q3 q4=>by
  rcases gs q1 with⟨rfl,z⟩|⟨hj,q1⟩
  ·rcases gs q2 with⟨e,z⟩|⟨hl,q2⟩
   ·exact e.symm
   ·rw[bH hl]at q4
    rcases gs q3 with⟨_,z3⟩|⟨hc,_⟩
    ·cases z3
     exact absurd q4 (h5 l zs q2)
    ·exact absurd rfl hc
  ·rw[bH hj]at q3
   rcases gs q2 with⟨e2,z⟩|⟨hl,q2⟩
   ·rcases gs q4 with⟨_,z4⟩|⟨hc,_⟩
    ·cases z4
     exact absurd q3 (h5 j ys (by assumption))
    ·exact absurd e2 hc
   ·rw[bH hl]at q4
    exact R.dis j l ys zs b (by assumption) q2 q3 q4
 io:=λp hp=>by
  obtain⟨w1,ys,w2⟩:=R.io p hp;exact⟨by rw[bH (eA p hp)];exact w1,ys,by rw[bH (eA p hp)];exact w2⟩
 ob:=R.ob.put (λ_ hj=>bH hj) (λ_ z=>nomatch z) λys b _ z=>by
  rcases gs z with⟨_,z2⟩|⟨hc,_⟩
  ·cases z2;exact h5.XG
  ·exact absurd rfl hc
theorem RS.SQ{Y:bP}{F:Hp}{ai:Sd}{σ:St}{H:Hp}{i:Nat}{o:O}{a:Addr}(R:RS Y F ai σ H)(h1:o.rep F H a)(h2:∀b∈o.fp a,F b=none/\H b≠none/\Y.H0 b=none/\fB ai σ b)
  (eA:∀p∈Y.io,p.1≠i):RS Y F (ai.set i (some (.obj o))) (σ.set i (some (.ref a))) H where
 len:=by simpa using R.len
 lo:=R.lo
 fr:=R.fr
 fW:=R.fW
 old:=R.old
 sh:=λj e q=>by
  rcases gs q with⟨_,z⟩|⟨hj,q'⟩
  ·cases z
  ·obtain⟨u,w1,w2⟩:=R.sh j e q'
   exact⟨u,by rw[bH hj];exact w1,w2⟩
 own:=λj ys q=>by
  rcases gs q with⟨_,z⟩|⟨hj,q'⟩
  ·cases z
  ·obtain⟨b,us,w1,w2⟩:=R.own j ys q'
   exact⟨b,us,by rw[bH hj];exact w1,w2⟩
 dis:=λj l ys zs b q1 q2 q3 q4=>by
  rcases gs q1 with⟨_,z⟩|⟨hj,q1⟩
  ·cases z
  rcases gs q2 with⟨_,z⟩|⟨hl,q2⟩
  ·cases z
  rw[bH hj]at q3;rw[bH hl]at q4;exact R.dis j l ys zs b q1 q2 q3 q4
 io:=λp hp=>by
  obtain⟨w1,ys,w2⟩:=R.io p hp;exact⟨by rw[bH (eA p hp)];exact w1,ys,by rw[bH (eA p hp)];exact w2⟩
 ob:=by
  have at':∀ {j:Nat} {c:Addr},j=i->(σ.set i (some (.ref a)))[j]?=some (some (.ref c))->c=a:=λ{j c} e z=>by
   subst e;rcases gs z with⟨_,z2⟩|⟨hc,_⟩
   ·cases z2;rfl
   ·exact absurd rfl hc
  refine⟨λj p q=>?_,λj l p p2 c d q1 q2 q3 q4 dk x hx um=>?_,λj ys b q1 q2 ⟨l,p,c,q3,q4,hm⟩=>?_,R.ob.there,R.ob.Gf,R.ob.tab⟩
  ·rcases gs q with⟨rfl,z⟩|⟨hj,q'⟩
   ·cases z
    exact⟨a,yH (by rw[<- R.len];exact DC q),h1,λb hb=>⟨(h2 b hb).1,(h2 b hb).2.1,.inl (h2 b hb).2.2.1⟩⟩
   ·obtain⟨c,w1,w2⟩:=R.ob.obj j p q'
    exact⟨c,by rw[bH hj];exact w1,w2⟩
  ·rcases gs q1 with⟨e1,z⟩|⟨hj,YH⟩
   ·cases z
    rcases gs q2 with⟨e2,z⟩|⟨hl,q2'⟩
    ·exact dk (e1.trans e2.symm)
    ·rw[bH hl]at q4
     have:=at' e1 q3;subst this;exact(h2 x hx).2.2.2.XG ⟨l,p2,d,q2',q4,um⟩
   ·rw[bH hj]at q3
    rcases gs q2 with⟨e2,z⟩|⟨hl,q2'⟩
    ·cases z
     have:=at' e2 q4;subst this;exact(h2 x um).2.2.2.XG ⟨j,p,c,YH,q3,hx⟩
    ·rw[bH hl]at q4
     exact R.ob.nQ j l p p2 c d YH q2' q3 q4 dk x hx um
  ·rcases gs q1 with⟨_,z⟩|⟨hj,YH⟩
   ·cases z
   rw[bH hj]at q2;rcases gs q3 with⟨e3,z⟩|⟨hl,q3'⟩
   ·cases z
    have:=at' e3 q4;subst this;exact(h2 b hm).2.2.2 j ys YH q2
   ·rw[bH hl]at q4
    exact R.ob.gP j ys b YH q2 ⟨l,p,c,q3',q4,hm⟩
def Z9(ios:List Nat)(i:Nat)(x:EV)(σ:Sd)(Q:Sd->Prop):Prop:=match x with
 | .val d=>Q (σ.set i (some (.sh d)))
 | .own xs=>Q (σ.set i (some (.own xs)))
 | .obj o=>Q (σ.set i (some (.obj o)))
 | .any=>False
 | .var j=>match σ[j]? with
  | some (some (.own xs))=>j∉ios/\Q ((σ.set j (some (.sh (.lst xs)))).set i (some (.sh (.lst xs))))
  | some (some (.sh d))=>Q (σ.set i (some (.sh d)))
  | _=>False
theorem qU{Y:bP}{F:Hp}{ai:Sd}{σ:St}{H:Hp}{i:Nat}{v:V}{x:EV}{ios:List Nat}{Q:Sd->Prop}(R:RS Y F ai σ H)(r:G5 Y F H ai σ v x)(hi:i∉ios)(eA:∀p∈Y.io,p.1∈ios)(q:Z9 ios i x ai Q):
  ∃F' aI,aw F F'/\RS Y F' aI (σ.set i (some v)) H/\Q aI:=by
 have h0:∀p∈Y.io,p.1≠i:=λp hp z=>hi (z ▸ eA p hp);cases x with
 | val d=>exact⟨F,_,aw.refl _,R.vY r h0,q⟩
 | own xs =>
  obtain⟨a,vs,rfl,h1,h2,h3,h4,h5⟩:=r;exact⟨F,_,aw.refl _,R.SR h1 h2 h3 h4 h5 h0,q⟩
 | obj o =>
  obtain⟨a,rfl,h1,h2⟩:=r;exact⟨F,_,aw.refl _,R.SQ h1 h2 h0,q⟩
 | any=>exact False.elim q
 | var j =>
  have r:σ[j]?=some (some v):=r;unfold Z9 at q;dsimp only at q
  split at q
  ·rename_i xs e
   obtain⟨F2,v2,s2,R2,e2,r2⟩:=R.lx e λp hp z=>q.1 (z ▸ eA p hp);rw[r]at e2;cases e2;exact⟨F2,_,s2,R2.vY r2 h0,q.2⟩
  ·rename_i d e
   obtain⟨v2,e2,r2⟩:=R.sh j d e;rw[r]at e2;cases e2;exact⟨F,_,aw.refl _,R.vY r2 h0,q⟩
  ·exact q.elim
def d8(ios:List Nat)(i:Nat)(t:TX):b5:=λDe σ=>t σ λx ax=>Z9 ios i x ax De.nx
theorem sx{X:Cx}{Y:bP}(ok:eG X G k S Y){x:Str}(h:S.sc.lookup x=some .local\/(S.sc.lookup x=some .cell/\S.uk=false)):L2.Loc X.env.scope x:=by
 unfold L2.Loc;rw[ok.sc];exact h.imp id (·.1)
theorem rW{X:Cx}{Y:bP}(ok:eG X G k S Y){x:Str}(h:S.sc.lookup x=some .local\/(S.sc.lookup x=some .cell/\S.uk=false)):X.fn x=true\/X.env.scope.names.lookup x=some .local:=by
 rcases h with h|h
 ·right;rw[ok.sc];exact h
 ·left;exact ok.fn h.2 x h.1
theorem bM(i:Nat){x:Str}{e:Expr}{te:TX}{pos pos':Pos}(he:EX G k S e te)(hi:S.N[i]?=some x:=by rfl)(hx:S.sc.lookup x=some .local\/(S.sc.lookup x=some .cell/\S.uk=false):=by first|exact Or.inl rfl|exact Or.inr ⟨rfl,rfl⟩)(hn:i∉S.ios:=by first|decide|exact List.not_mem_nil | (dsimp only;decide))
  (hs:∀line env,swapsWith e (some (.Name x pos')) line env=pure false:=by intro _ _;rfl):ES G k S (.Assign [.Name x pos'] e pos) (d8 S.ios i te):=.mk λX Y ok =>
 cR (L2.E4 (i:=i) (by rw[ok.N];exact ok.nd) (by rw[ok.N];exact hi) (sx ok hx) (he X Y ok) (hs _ _) (rW ok hx)) λDn σ H q=>by
  obtain⟨F,ai,De,R,q,K⟩:=q;refine⟨F,ai,_,R,q,λv H1 F1 y ax s1 R1 r1 q1=>?_⟩;obtain⟨F2,aO,s2,R2,q2⟩:=qU R1 r1 hn ok.ios q1;exact K.nx _ H1 F2 aO (s1.trans s2) R2 q2
theorem RS.write{Y:bP}{F:Hp}{ai:Sd}{σ:St}{H:Hp}{i:Nat}{xs ys:List D}{a:Addr}{us:List V}(R:RS Y F ai σ H)(e:ai[i]?=some (some (.own xs)))(h:σ[i]?=some (some (.ref a)))(r:aH F us ys):
  RS Y F (ai.set i (some (.own ys))) σ (upd H a (.lst us)):=by
 obtain⟨b,vs,w1,w2,w3,w4,w5⟩:=R.own i xs e;rw[h]at w1;cases w1;have hl:i<ai.length:=(List.getElem?_eq_some_iff.mp e).1;have HJ:uC Y F (ai.set i (some (.own ys))) σ (upd H a (.lst us)):=R.ob.step (aw.refl _) (λj o q=>by
  rcases gs q with⟨_,z⟩|⟨hj,q⟩
  ·cases z
  ·exact⟨q,rfl⟩) (λb hb=>by
  obtain⟨z1,z2,z3⟩:=R.ob.owned hb;have dk:b≠a:=λz=>R.ob.gP i xs a e h (z ▸ hb);exact⟨aq dk,z1,z3⟩) (λj zs b q1 q2=>by
  rcases gs q1 with⟨e1,_⟩|⟨hj,q1⟩
  ·subst e1
   rw[h]at q2;cases q2;exact R.ob.gP j xs a e h
  ·exact R.ob.gP j zs b q1 q2) λb hb=>by
  by_cases dk:b=a
  ·rw[dk,az];exactλz=>nomatch z
  ·rw[aq dk];exact R.ob.there b hb
 refine⟨by simpa using R.len,R.lo,λb o q=>?_,R.fW,λb o q n=>?_,λj d q=>?_,λj zs q=>?_,λj l zs qs b q1 q2 q3 q4=>?_,λp hp=>?_,HJ⟩
 ·have:b≠a:=λz=>by rw[z,w4]at q;cases q
  rw[aq this];exact R.fr b o q
 ·have:b≠a:=λz=>by
   subst z;rcases w5 with w5|w5
   ·rw[w5]at q;cases q
   ·exact bP.HW n w5
  rw[aq this];exact R.old b o q n
 ·rcases gs q with⟨_,z⟩|⟨hj,q⟩
  ·cases z
  ·exact R.sh j d q
 ·rcases gs q with⟨rfl,z⟩|⟨hj,q⟩
  ·cases z
   exact⟨a,us,h,az,r,w4,w5⟩
  ·obtain⟨b,ws,z1,z2,z3,z4,z5⟩:=R.own j zs q
   have:b≠a:=λz=>hj (R.dis j i zs xs a q e (z ▸ z1) h);exact⟨b,ws,z1,by rw[aq this];exact z2,z3,z4,z5⟩
 ·have f:∀ {m:Nat} {ms:List D},(ai.set i (some (B.own ys)))[m]?=some (some (B.own ms))->∃K6,ai[m]?=some (some (B.own K6)):=λ{m ms} q=>by
   rcases gs q with⟨rfl,z⟩|⟨hj,q⟩
   ·exact⟨xs,e⟩
   ·exact⟨_,q⟩
  obtain⟨_,q1⟩:=f q1;obtain⟨_,q2⟩:=f q2;exact R.dis j l _ _ b q1 q2 q3 q4
 ·obtain⟨z1,zs,z2⟩:=R.io p hp
  refine⟨z1,?_⟩
  by_cases UC:p.1=i
  ·exact⟨ys,by rw[UC,yH hl]⟩
  ·exact⟨zs,by rw[bH UC];exact z2⟩
def KY(σ:Sd)(i:Nat):Prop:=∃xs,σ[i]?=some (some (B.own xs))
def Ml(i:Nat)(d:D)(σ:Sd)(Q:Sd->Prop):Prop:=match σ[i]? with
 | some (some (.own xs))=>xs.length<sizeLine/\Q (σ.set i (some (.own (xs++[d]))))
 | _=>False
def t6(to:TV)(te:TD):TX:=λσ Q=>to σ λx ax=>match x with
 | .var i=>KY ax i/\te ax λd aO=>Ml i d aO λiu=>Q (.val .aV) iu
 | _=>False
theorem fK{o e:Expr}{to:TV}{te:TD}{apos di:Pos}(ho:EO G k S o to)(he:ED G k S e te)(hb:∀env,attributeBase o "append" env (eval o env)=eval o env:=by intro _;rfl)
  (DX:∀env,((backTo di (starEach [e] env)).all (λx=>!x.1)&&(backToKw di (keywordEach [] env)).all (λx=>x.1.isSome)&&decide (([e]:List Expr).length+([]:List Keyword).length+(if([]:List Keyword).isEmpty then 0 else 1)<30))=true:=by intro _;rfl)
  (hline:(apos.endLine==di.line)=true:=by rfl) (hs:∀env,starEach [e] env=[(false,eval e env)]:=by intro _;rfl):EX G k S (.Call (.Attribute o "append" apos) [e] [] di) (t6 to te):=.mk λX Y ok=>by
 have ha:PA X [e] (jc (lD Y te) pT):=cV (he X Y ok) g0 (by rw[hs];rfl)
 refine a7 (K8 F.plainAttrs_list F.slot_list_append F.type_list_append qK (ho X Y ok) ha (hb _) (DX _) hline (by rw[hs];rfl) (by rfl)) λσ H Q q=>?_
 obtain⟨F,ai,Qd,R,q,K⟩:=q;refine⟨F,ai,_,R,q,λv1 H1 F1 x ax s1 R1 r1 q1=>?_⟩;cases x with
 | val d=>exact q1.elim
 | any=>exact q1.elim
 | var i =>
  obtain⟨⟨ys,e0⟩,q1⟩:=q1;have r1:σ[i]?=some (some v1):=r1;obtain⟨a,vs,w1,w2,w3,w4,w5⟩:=R1.own i ys e0;rw[r1]at w1;cases w1;refine⟨.inl ⟨rfl,vs,.of w2⟩,F1,ax,_,R1,q1,λv2 H2 F2 d aO s2 R2 r2 q2=>?_⟩;unfold Ml at q2
  split at q2
  ·rename_i xs e2
   obtain⟨b,us,z1,z2,z3,z4,z5⟩:=R2.own i xs e2;rw[r1]at z1;cases z1;exact⟨a,us,v2,rfl,rfl,z2,by rw[z3.length];exact q2.1,K .aV _ F2 (.val .aV) _ (s1.trans s2) (R2.write e2 r1 (z3.append (.cons r2 .nil))) .aV q2.2⟩
  ·exact q2.elim
end Vc
namespace Vc
open PySem L2
variable [KF]
variable {G:GE}{k:Nat}{S:Stat}
abbrev bu:=List D->(B->Prop)->Prop
def G4(H F H':Hp)(v:V):B->Prop
 | .sh d=>Rep F v d
 | .own xs=>∃a vs,v=.ref a/\H' a=some (.lst vs)/\aH F vs xs/\F a=none/\H a=none
 | .obj o=>∃a,v=.ref a/\o.rep F H' a/\∀b∈o.fp a,F b=none/\H' b≠none/\H b=none
def Fu(sp:bu):Sp:=λvs H Q _=>∃F ds Qd,p0 F H/\aH F vs ds/\sp ds Qd /\
 ∀v H' F' b,aw F F'->aw F' H'->aw H H'->(∀c o,F' c=some o->F c=some o\/Nw H c o)->G4 H F' H' v b->Qd b->Q v H'
theorem RS.call{Y:bP}{F F':Hp}{ai:Sd}{σ:St}{H H':Hp}(R:RS Y F ai σ H)(s1:aw F F')(s2:aw F' H')(s3:aw H H')(fr:∀c o,F' c=some o->F c=some o\/Nw H c o):RS Y F' ai σ H' where
 len:=R.len
 lo:=R.lo.trans s1
 fr:=s2
 fW:=λb o e=>by
  rcases fr b o e with h|h
  ·exact R.fW b o h
  ·exact .inr (h.imp (λh=>(R.bX h).1) id)
 old:=λb o e n=>s3 b o (R.old b o e n)
 sh:=λi d e=>by
  obtain⟨v,h1,h2⟩:=R.sh i d e;exact⟨v,h1,h2.mono s1⟩
 own:=λi xs e=>by
  obtain⟨a,vs,h1,h2,h3,h4,h5⟩:=R.own i xs e;refine⟨a,vs,h1,s3 a _ h2,h3.mono s1,?_,h5⟩;cases q:F' a with
  | none=>rfl
  | some o =>
   rcases fr a o q with h|h
   ·rw[h4]at h;cases h
   ·rcases h with h|⟨ws,rfl⟩
    ·rw[h2]at h;cases h
    ·have z:=s2 a _ q;rw[s3 a _ h2]at z;cases z
 dis:=R.dis
 io:=R.io
 ob:=by
  have up:∀b,H b≠none->H' b=H b:=λb hb=>by
   cases q:H b with
   | none=>exact absurd q hb
   | some o=>exact s3 b o q
  refine R.ob.step s1 (λ_ _ e=>⟨e,rfl⟩) (λb hb=>?_) R.ob.gP λb hb=>by rw[up b (R.ob.there b hb)];exact R.ob.there b hb
  obtain⟨w1,w2,w3⟩:=R.ob.owned hb;refine⟨up b w2,?_,w3⟩;cases q:F' b with
  | none=>rfl
  | some o =>
   rcases fr b o q with h|h
   ·rw[w1]at h;cases h
   ·rcases h with h|⟨ws,rfl⟩
    ·exact absurd h w2
    ·exact absurd (by rw[<- up b w2];exact s2 b _ q) (R.ob.XI hb)
def dw(G:GE)(k:Nat)(x:Str)(sp:bu):Prop:=∃f fd ps,cm G.P G.w G.K G.mg G.base mw k f fd ps (Fu sp)/\G.mg x=some (.ref f)/\PySem.W.keepIn G.K (.ref f)=true/\Binds G.K fd ps []
theorem dw.mono{x:Str}{sp:bu}{j:Nat}(h:dw G j x sp)(l:j<=k):dw G k x sp:=by
 obtain⟨f,fd,ps,h1,h2,h3,h4⟩:=h;exact⟨f,fd,ps,h1.mono l,h2,h3,h4⟩
def bE:B->EV
 | .sh d=>.val d
 | .own xs=>.own xs
 | .obj o=>.obj o
def Cl(sp:bu)(ds:List D)(Q:B->Prop):Prop:=sp ds Q
def iW(sp:bu)(t:iy):TX:=λσ Q=>t σ λds ax=>Cl sp ds λb=>Q (bE b) ax
theorem bz{x:Str}{sp:bu}{e:Expr}{es:List Expr}{t:iy}{p pos:Pos}(h:dw G k x sp)(ha:zW G k S (e::es) t)(hg:S.sc.lookup x=some .globalImplicit:=by rfl)(lA:(x==("__debug__":Str))=false:=by decide)
  (he:∀env,starEach (e::es) env=(false,eval e env)::starEach es env:=by exactλ_=>Vc.cH rfl) (de:∀env,(backTo pos (starEach es env)).any (·.1)=false:=by intro _;rfl) (hh:S.nk=false:=by rfl):EX G k S (.Call (.Name x p) (e::es) [] pos) (iW sp t):=.mk λX Y ok=>by
 obtain⟨f,fd,ps,h1,h2,h3,h4⟩:=h;have r9:cm X.prog X.w X.K X.mg X.base mw k f fd ps (Fu sp):=by rw[ok.P,ok.w,ok.K,ok.mg,ok.base];exact h1
 refine a7 (zi (E:=E0) (dvs:=[]) (ds:=[]) r9 (ok.room hh) (dZ ok hg) (by rw[ok.mg];exact h2) (by rw[ok.K];exact h3) (by rw[ok.K];exact h4) .nil oS (ha X Y ok) lA (he _) (de _)) λσ H Q q=>?_
 obtain⟨F,ai,Qd,R,q,K⟩:=q;refine⟨F,ai,_,R,q,λvs H1 F1 ds ax s1 R1 r1 q1=>?_⟩;show Fu sp (vs++[]) H1 Q E0;rw[List.append_nil];refine⟨F1,ds,_,⟨R1.fr,R1.ob.tab⟩,r1,q1,λv H' F' b s2 s3 s4 fr r2 q2=>?_⟩;have R2:=R1.call s2 s3 s4 fr;cases b with
 | sh d=>exact K v H' F' (.val d) ax (s1.trans s2) R2 r2 q2
 | own xs =>
  obtain⟨a,us,rfl,w1,w2,w3,w4⟩:=r2;refine K _ H' F' (.own xs) ax (s1.trans s2) R2 ⟨a,us,rfl,w1,w2,w3,(R1.bX w4).1,R1.eE w4⟩ q2
 | obj o =>
  obtain⟨a,rfl,w1,w2⟩:=r2;exact K _ H' F' (.obj o) ax (s1.trans s2) R2 ⟨a,rfl,w1,λb hb=>⟨(w2 b hb).1,(w2 b hb).2.1,(R1.bX (w2 b hb).2.2).1,R1.eE (w2 b hb).2.2⟩⟩ q2
def aL(n:Nat)(ds:List D):Sd:=ds.map (λd=>some (.sh d))++List.replicate (n-ds.length) none
theorem wc{F:Hp}:∀ {vs:List V} {ds:List D} (m:Nat) {i:Nat} {d:D},aH F vs ds->(ds.map (λd=>some (B.sh d))++List.replicate m none)[i]?=some (some (.sh d))->∃v,(vs.map some++List.replicate m none)[i]?=some (some v)/\Rep F v d
 | [],[],m,i,d,.nil,e=>by
  simp only[List.map_nil,List.nil_append,List.getElem?_replicate]at e
  split at e<;>cases e
 | v::vs,x::ds,m,0,d,.cons r t,e=>by
  simp at e;subst e;exact⟨v,by simp,r⟩
 | v::vs,x::ds,m,i+1,d,.cons r t,e=>by
  obtain⟨u,h1,h2⟩:=wc (i:=i) m t (by simpa using e)
  exact⟨u,by simpa using h1,h2⟩
theorem mh:∀(ds:List D) (m i:Nat) (xs:List D),(ds.map (λd=>some (B.sh d))++List.replicate m none)[i]?≠some (some (.own xs))
 | [],m,i,xs=>by
  simp only[List.map_nil,List.nil_append,List.getElem?_replicate];intro e
  split at e<;>cases e
 | x::ds,m,0,xs=>by simp
 | x::ds,m,i+1,xs=>by
  have:=mh ds m i xs;simpa using this
theorem qV:∀(ds:List D) (m i:Nat) (o:O),(ds.map (λd=>some (B.sh d))++List.replicate m none)[i]?≠some (some (.obj o))
 | [],m,i,o=>by
  simp only[List.map_nil,List.nil_append,List.getElem?_replicate];intro e
  split at e<;>cases e
 | x::ds,m,0,o=>by simp
 | x::ds,m,i+1,o=>by
  have:=qV ds m i o;simpa using this
theorem RS.start{F H:Hp}{vs:List V}{ds:List D}(n:Nat)(s:p0 F H)(r:aH F vs ds):RS ⟨H,F,[],[]⟩ F (aL n ds) (vs.map some++List.replicate (n-vs.length) none) H where
 len:=by unfold aL;simp [r.length]
 lo:=aw.refl _
 fr:=s.1
 fW:=λb o e=>.inl e
 old:=λb o e _=>e
 sh:=λi d e=>by
  rw[r.length];exact wc _ r e
 own:=λi xs e=>absurd e (mh _ _ _ _)
 dis:=λi j xs ys a e=>absurd e (mh _ _ _ _)
 io:=λp hp=>absurd hp (by simp)
 ob:=.none (λi o=>qV _ _ _ _) s.2 λb hb=>by cases hb
theorem Dv{x qual:Str}{st:Stmt}{f:Addr}{fd:FuncData}{N ps:List Str}{sp:bu}{t:b5}(hK:G.K=KF.K)(Fn:Bi G.K x qual st f fd)(Sc:aC N ps (ag st))(ht:c9 G k ⟨N,(ag st).names,[],false,false,false,λ_ _=>False⟩ (ao st) t)
  (len:∀ds Q,sp ds Q->ds.length=ps.length)
  (body:∀ds Q,sp ds Q->t {nx:=λ_=>Q (.sh .aV),rt:=λb _=>Q b} (aL N.length ds)):cm G.P G.w G.K G.mg G.base mw (k+1) f fd ps (Fu sp):=by
 refine Fn.ok Sc (λvs H Q E h=>?_) (λiY A outer s H vs Q E hr h=>?_)
 ·obtain⟨F,ds,Qd,s,r,q,K⟩:=h
  rw[r.length];exact len _ _ q
 ·obtain⟨F,ds,Qd,sm,r,q,K⟩:=h
  refine⟨_,ht (pL mw G.P G.w G.K G.mg G.base N qual (ag st) f iY A outer s H E).PD ⟨H,F,[],[]⟩ ⟨rfl,rfl,rfl,hK,rfl,rfl,rfl,rfl,Sc.nd,λp hp=>absurd hp (by simp),λ_ _=>rfl,λ_=>rfl,Sc.kind,λ_ _ _=>rfl,λ_=>hr.hd,hr.dp,hr.un,λ_=>PassesOwn.never,λ_=>⟨rfl,rfl,rfl⟩,λ_ _ h=>h.elim,λh=>nomatch h⟩,F,aL N.length ds,_,RS.start _ sm r,body ds Qd q,?_⟩
  have same:∀ {F':Hp} {ai:Sd} {σ:St} {H':Hp},RS ⟨H,F,[],[]⟩ F' ai σ H'->aw H H':=λR b o e=>R.old b o e (by simp [bP.D8])
  refine⟨λσ H' F' ai s' R' q'=>?_,λv σ H' F' ai b s' R' r' q'=>?_,λ_ _ _ _ _ _ h=>h.elim,λ_ _ _ _ _ _ h=>h.elim⟩
  ·exact K .aV H' F' (.sh .aV) s' R'.fr (same R') R'.fW .aV q'
  ·refine K v H' F' b s' R'.fr (same R') R'.fW ?_ q'
   cases b with
   | sh d=>exact r'
   | own xs =>
    obtain⟨a,us,rfl,w1,w2,w3,w4,w5⟩:=r';exact⟨a,us,rfl,w1,w2,w3,w4⟩
   | obj o =>
    obtain⟨a,rfl,w1,w2⟩:=r';exact⟨a,rfl,w1,λb hb=>⟨(w2 b hb).1,(w2 b hb).2.1,(w2 b hb).2.2.1⟩⟩
end Vc
namespace Vc
open PySem L2
variable [KF]
variable {G:GE}{k:Nat}{S:Stat}
abbrev p7:=D->Sd->(Sd->Prop)->Prop
def lG(Y:bP)(g:p7):TG:=λv σ H Q=>∃F ai d Qd,RS Y F ai σ H/\Rep F v d/\g d ai Qd/\∀cq H' F' aI,aw F F'->RS Y F' aI cq H'->Qd aI->Q cq H'
structure EG(G:GE)(k:Nat)(S:Stat)(tg:Expr)(g:p7) :Prop where
 run:∀X Y,eG X G k S Y->PG X tg (lG Y g)
instance {G:GE} {k:Nat} {S:Stat} {tg:Expr} {g:p7} :CoeFun (EG G k S tg g) λ_=>∀X Y,eG X G k S Y->PG X tg (lG Y g):=⟨EG.run⟩
theorem EK{X:Cx}{e:Expr}{t t':TG}(h:PG X e t)(i:∀v σ H Q,t' v σ H Q->t v σ H Q):PG X e t':=λpins s σ H v u Q I r q=>h pins s σ H v u Q I r (i v σ H Q q)
def iU(i:Nat):p7:=λd σ Q=>Q (σ.set i (some (.sh d)))
theorem bF(i:Nat){x:Str}{pos:Pos}(hi:S.N[i]?=some x:=by rfl)(hx:S.sc.lookup x=some .local\/(S.sc.lookup x=some .cell/\S.uk=false):=by first|exact Or.inl rfl|exact Or.inr ⟨rfl,rfl⟩)(hn:i∉S.ios:=by first|decide|exact List.not_mem_nil | (dsimp only;decide)):EG G k S (.Name x pos) (iU i):=.mk λX Y ok =>
 EK (IV (i:=i) (by rw[ok.N];exact ok.nd) (by rw[ok.N];exact hi) (sx ok hx) (rW ok hx)) λv σ H Q q=>by
  obtain⟨F,ai,d,Qd,R,r,q,K⟩:=q;exact K _ H F _ (aw.refl _) (R.vY r λp hp z=>hn (z ▸ ok.ios p hp)) q
abbrev rp:=List D->Sd->(Sd->Prop)->Prop
def lGs(Y:bP)(g:rp):Ku:=λvs σ H Q=>∃F ai ds Qd,RS Y F ai σ H/\aH F vs ds/\g ds ai Qd/\∀cq H' F' aI,aw F F'->RS Y F' aI cq H'->Qd aI->Q cq H'
structure Ul(G:GE)(k:Nat)(S:Stat)(ts:List Expr)(g:rp) :Prop where
 run:∀X Y,eG X G k S Y->Up X ts (lGs Y g)
instance {G:GE} {k:Nat} {S:Stat} {ts:List Expr} {g:rp} :CoeFun (Ul G k S ts g) λ_=>∀X Y,eG X G k S Y->Up X ts (lGs Y g):=⟨Ul.run⟩
def N8:rp:=λds σ Q=>match ds with
 | []=>Q σ
 | _=>False
def gC(g:p7)(u:rp):rp:=λds σ Q=>match ds with
 | d::r=>g d σ λax=>u r ax Q
 | []=>False
theorem r0:Ul G k S [] N8:=.mk λX Y ok pins s σ H vs us Q I r q=>IW pins s σ H vs us Q I r (by
 obtain⟨F,ai,ds,Qd,R,rr,q,K⟩:=q;cases rr with
 | nil=>exact⟨rfl,K σ H F ai (aw.refl _) R q⟩
 | cons _ _=>exact q.elim)
theorem dQ{e:Expr}{es:List Expr}{g:p7}{u:rp}(h1:EG G k S e g)(h2:Ul G k S es u)(hs:∀env,(assignEach (e::es) env).map (·.2)=assign e env::(assignEach es env).map (·.2):=by intro _;rfl):Ul G k S (e::es) (gC g u):=.mk λX Y ok pins s σ H vs us Q I r q =>
 EL (h1 X Y ok) (h2 X Y ok) (hs _) pins s σ H vs us Q I r (by
  obtain⟨F,ai,ds,Qd,R,rr,q,K⟩:=q;cases rr with
  | nil=>exact q.elim
  | cons r1 rs =>
   refine⟨_,_,rfl,F,ai,_,_,R,r1,q,λax H1 F1 GC s1 R1 q1=>?_⟩;exact⟨F1,GC,_,_,R1,rs.mono s1,q1,λaO H2 F2 ju s2 R2 q2=>K aO H2 F2 ju (s1.trans s2) R2 q2⟩)
def N9(n:Nat)(u:rp):p7:=λd σ Q=>match d with
 | .tup xs=>xs.length=n/\u xs σ Q
 | _=>False
theorem yF{es:List Expr}{kk:Nat}{u:rp}{n:Nat}{pos:Pos}(h:Ul G k S es u)(hn:∀env,(assignEach es env).length=n:=by intro _;rfl)(pN:∀env,(assignEach es env).findIdx? (·.1)=none:=by intro _;rfl)(hh:S.nk=false:=by rfl):EG G k S (.Tuple es kk pos) (N9 n u):=.mk λX Y ok =>
 EK (Rk (ok.calm hh) (h X Y ok) (hn _) (pN _)) λv σ H Q q=>by
  obtain⟨F,ai,d,Qd,R,r,q,K⟩:=q;cases d with
  | tup xs =>
   cases r with
   | tup hf rl =>
    exact⟨_,_,rfl,.of (R.fr _ _ hf),by rw[rl.length];exact q.1,F,ai,xs,Qd,R,rl,q.2,K⟩
  | _=>exact q.elim
def Grow(F1 H1 F2 H2:Hp):Prop:=(F2=F1/\H2=H1)\/∃p o,H1 p=none/\F2=upd F1 p o/\H2=upd H1 p o
theorem Grow.same{F1 H1 F2 H2:Hp}(g:Grow F1 H1 F2 H2)(s:aw F1 H1):aw F1 F2:=by
 rcases g with⟨rfl,rfl⟩|⟨p,o,h,rfl,rfl⟩
 ·exact aw.refl _
 ·exact aM (same_none s h)
theorem Grow.rs{Y:bP}{F1 H1 F2 H2:Hp}{ai:Sd}{σ:St}(g:Grow F1 H1 F2 H2)(R:RS Y F1 ai σ H1):RS Y F2 ai σ H2:=by
 rcases g with⟨rfl,rfl⟩|⟨p,o,h,rfl,rfl⟩
 ·exact R
 ·exact R.alloc h
def my(F:Hp)(J:It)(items:List D):Prop:=∀F1 H1,aw F F1->aw F1 H1->∀i:Nat,
 (∀x,items[i]?=some x->J.go i H1/\∀v H2,J.Zy i H1 v H2->∃F2,Grow F1 H1 F2 H2/\Rep F2 v x)/\(i=items.length->J.stop i H1)
theorem my.mono{F F':Hp}{J:It}{items:List D}(h:my F J items)(s:aw F F'):my F' J items:=λF1 H1 s1=>h F1 H1 (s.trans s1)
def lI(Y:bP)(t:iy):TI:=λσ H R=>∃F ai Qd,RS Y F ai σ H/\t ai Qd/\∀H' F' aI J items,aw F F'->RS Y F' aI σ H'->my F' J items->Qd items aI->R J H'
structure EI(G:GE)(k:Nat)(S:Stat)(tg iter:Expr)(t:iy) :Prop where
 run:∀X Y,eG X G k S Y->PI X tg iter (lI Y t)
instance {G:GE} {k:Nat} {S:Stat} {tg iter:Expr} {t:iy} :CoeFun (EI G k S tg iter t) λ_=>∀X Y,eG X G k S Y->PI X tg iter (lI Y t):=⟨EI.run⟩
theorem sI{X:Cx}{tg e:Expr}{t t':TI}(h:PI X tg e t)(i:∀σ H Q,t' σ H Q->t σ H Q):PI X tg e t':=λpins s σ H Q I q=>h pins s σ H Q I (i σ H Q q)
theorem Rl{X:Cx}{tg l:Expr}{tl:TE}(hl:PE X l tl):PI X tg l (λσ H R=>tl σ H λx H1=>(∃a,x=.ref a/\(∃xs,gE X.K H1 a xs)/\R (Itl X.K a) H1)\/(∃a,x=.ref a/\(∃xs,kW X.K H1 a xs)/\R (Itt X.K a) H1)):=by
 intro pins s σ H R I h;refine cE (hl pins s σ H _ I h) λv s1 ⟨x,H1,I1,r1,q1⟩=>?_;rcases q1 with⟨a,e,⟨xs,hq⟩,q⟩|⟨a,e,⟨xs,hq⟩,q⟩
 ·subst e
  cases r1;obtain⟨its,rv,p,hz⟩:=I1.list hq;refine wpAny_pyIter_list p.isList ?_;refine⟨s1.heap.objs.size,[s1.heap.objs.size],_,_,H1,rfl,I1.kept (t':=s1.toks) λb o e=>Heap.get?_push_of_some _ e,Bc a _,⟨_,Heap.get?_push_size _ rfl,rfl,rfl⟩,λb hb=>?_,q⟩;have e:b=s1.heap.objs.size:=by simpa using hb
  subst e;exact I1.Dy (Nat.le_refl _) (I1.bw.fresh (Nat.le_refl _))
 ·subst e
  cases r1;obtain⟨its,rv,p,hz⟩:=I1.tuple hq;refine wpAny_pyIter_tuple (show s1.heap.IsTuple a its.toArray from p) ?_
  refine⟨s1.heap.objs.size,[s1.heap.objs.size],_,_,H1,rfl,I1.kept (t':=s1.toks) λb o e=>Heap.get?_push_of_some _ e,yj a _,⟨_,Heap.get?_push_size _ rfl,rfl,rfl⟩,λb hb=>?_,q⟩;have e:b=s1.heap.objs.size:=by simpa using hb
  subst e;exact I1.Dy (Nat.le_refl _) (I1.bw.fresh (Nat.le_refl _))
theorem HX{K:PySem.W.Frag}{F:Hp}{a:Addr}{vs:List V}{xs:List D}(h:Rd F a (.lst vs))(r:aH F vs xs):my F (Itl K a) xs:=λF1 H1 s1 s2 i=>by
 have hs:gE K H1 a vs:=.inl (Rd.mono (s1.trans s2) h);refine⟨λx e=>?_,λhl=>⟨vs,hs,by rw[r.length,hl];exact Nat.le_refl _⟩⟩
 obtain⟨v,e1,r1⟩:=r.get e;refine⟨⟨vs,v,hs,e1⟩,λv2 H2 y=>?_⟩;obtain⟨rfl,y⟩:=y;have:=y vs hs;rw[e1]at this;cases this;exact⟨F1,.inl ⟨rfl,rfl⟩,r1.mono s1⟩
theorem HY{K:PySem.W.Frag}{F:Hp}{a:Addr}{vs:List V}{xs:List D}(h:F a=some (.tup vs))(r:aH F vs xs):my F (Itt K a) xs:=λF1 H1 s1 s2 i=>by
 have hs:kW K H1 a vs:=.of (s2 _ _ (s1 _ _ h));refine⟨λx e=>?_,λhl=>⟨vs,hs,by rw[r.length,hl];exact Nat.le_refl _⟩⟩
 obtain⟨v,e1,r1⟩:=r.get e;refine⟨⟨vs,v,hs,e1⟩,λv2 H2 y=>?_⟩;obtain⟨rfl,y⟩:=y;have:=y vs hs;rw[e1]at this;cases this;exact⟨F1,.inl ⟨rfl,rfl⟩,r1.mono s1⟩
def dm(t:TD):iy:=λσ Q=>t σ λd ax=>match d with
 | .lst xs=>Q xs ax
 | .tup xs=>Q xs ax
 | _=>False
theorem gS{tg l:Expr}{t:TD}(h:ED G k S l t):EI G k S tg l (dm t):=.mk λX Y ok=>sI (Rl (h X Y ok)) λσ H Q q=>by
 obtain⟨F,ai,Qd,R,q,K⟩:=q;refine⟨F,ai,_,R,q,λv H1 F1 d ax s1 R1 r1 q1=>?_⟩;cases d with
 | lst xs =>
  cases r1 with
  | lst hf rl=>exact .inl ⟨_,rfl,⟨_,.inl (Rd.mono R1.fr hf)⟩,K H1 F1 ax _ xs s1 R1 (HX hf rl) q1⟩
 | tup xs =>
  cases r1 with
  | tup hf rl=>exact .inr ⟨_,rfl,⟨_,.of (R1.fr _ _ hf)⟩,K H1 F1 ax _ xs s1 R1 (HY hf rl) q1⟩
 | _=>exact q1.elim
def A4(lo:Int)(n:Nat):List D:=(List.range n).map λi=>.int (lo+(i:Nat))
theorem yU{F:Hp}(lo:Int)(n:Nat):my F (U8 lo n) (A4 lo n):=λF1 H1 s1 s2 i=>by
 refine⟨λx e=>?_,λhl=>?_⟩
 ·unfold A4 at e
  rw[List.getElem?_map]at e;have hi:i<n:=by
   by_cases hi:i<n
   ·exact hi
   ·rw[List.getElem?_eq_none_iff.mpr (by simpa using hi)]at e;cases e
  rw[List.getElem?_range hi]at e;cases e;refine⟨hi,λv H2 y=>?_⟩;obtain⟨rfl,rfl⟩:=y;exact⟨F1,.inl ⟨rfl,rfl⟩,.int _⟩
 ·unfold A4 at hl
  rw[List.length_map,List.length_range]at hl;exact Nat.le_of_eq hl.symm
def m7(t:yp):iy:=λσ Q=>t σ λxs ax=>match mX ax xs with
 | some [.int j]=>(-(2^62)<=j/\j<2^62)/\Q (A4 0 j.toNat) ax
 | _=>False
def Jo(t:yp):iy:=λσ Q=>t σ λxs ax=>match mX ax xs with
 | some [.int i,.int j]=>(-(2^62)<=i/\i<2^62/\-(2^62)<=j/\j<2^62)/\Q (A4 i (j-i).toNat) ax
 | _=>False
theorem f9{tg a:Expr}{t:yp}{p pos:Pos}(h:G2 G k S [a] t)(hm:G.mg "range"=none)(hg:S.sc.lookup ("range":Str)=some .globalImplicit:=by rfl)(hs:∀env,starEach [a] env=[(false,eval a env)]:=by intro _;rfl):EI G k S tg (.Call (.Name "range" p) [a] [] pos) (m7 t):=.mk λX Y ok =>
 sI (AZ (dZ ok hg) (by rw[ok.mg];exact hm) (h X Y ok) (hs _)) λσ H Q q=>by
  obtain⟨F,ai,Qd,R,q,K⟩:=q;refine⟨F,ai,_,R,q,λvs H1 F1 xs ax s1 R1 r1 q1=>?_⟩
  split at q1
  ·rename_i j e
   obtain⟨v,rfl,rv⟩:=(R1.mX r1 e).one;obtain rfl:=rv.int;exact⟨j,rfl,q1.1.1,q1.1.2,K H1 F1 ax _ _ s1 R1 (yU 0 _) q1.2⟩
  ·exact q1.elim
theorem OA{tg a b:Expr}{t:yp}{p pos:Pos}(h:G2 G k S [a,b] t)(hm:G.mg "range"=none)(hg:S.sc.lookup ("range":Str)=some .globalImplicit:=by rfl)(hs:∀env,starEach [a,b] env=[(false,eval a env),(false,eval b env)]:=by intro _;rfl)(Bk:∀env,starEach [b] env=[(false,eval b env)]:=by intro _;rfl):EI G k S tg (.Call (.Name "range" p) [a,b] [] pos) (Jo t):=.mk λX Y ok =>
 sI (A0 (dZ ok hg) (by rw[ok.mg];exact hm) (h X Y ok) (hs _) (Bk _)) λσ H Q q=>by
  obtain⟨F,ai,Qd,R,q,K⟩:=q;refine⟨F,ai,_,R,q,λvs H1 F1 xs ax s1 R1 r1 q1=>?_⟩
  split at q1
  ·rename_i i j e
   obtain⟨v,u,rfl,rv,ru⟩:=(R1.mX r1 e).two;obtain rfl:=rv.int;obtain rfl:=ru.int;exact⟨i,j,rfl,q1.1,K H1 F1 ax _ _ s1 R1 (yU i _) q1.2⟩
  ·exact q1.elim
def vv(g:p7)(tb:b5)(De:mx):List D->Sd->Prop
 | [],σ=>De.nx σ
 | x::xs,σ=>g x σ λax=>tb {De with nx:=vv g tb De xs,ct:=vv g tb De xs,bk:=De.nx} ax
def dc(ti:iy)(g:p7)(tb:b5):b5:=λDe σ=>ti σ λitems ax=>vv g tb De items ax
theorem jY{tg iter:Expr}{body:List Stmt}{ti:iy}{g:p7}{tb:b5}{pos:Pos}(hi:EI G k S tg iter ti)(hg:EG G k S tg g)(hb:c9 G k S body tb)(hs:∀env x,foldedSetIterable iter env x=pure x:=by intro _ _;rfl)(hh:S.nk=false:=by rfl):
  ES G k S (.For tg iter body [] pos) (dc ti g tb):=.mk λX Y ok=>cR (RT (ok.po hh) (ok.calm hh) (hi X Y ok) (hg X Y ok) (hb X Y ok) (hs _)) λDn σ H q=>by
 obtain⟨F,ai,De,R,q,K⟩:=q;refine⟨F,ai,_,R,q,λH1 F1 GC J items s1 R1 it q1=>?_⟩;refine⟨λi m cq H'=>∃F' aI,aw F1 F'/\RS Y F' aI cq H'/\vv g tb De (items.drop i) aI/\m=items.length-i/\i<=items.length,⟨items.length,F1,GC,aw.refl _,R1,q1,rfl,Nat.zero_le _⟩,?_⟩;rintro i m cq H' ⟨F',aI,s',R',q',rfl,hi⟩;have K2:=it F' H' s' R'.fr i
 by_cases hl:i<items.length
 ·right
  have hd:items.drop i=items[i]::items.drop (i+1):=by rw[List.drop_eq_getElem_cons hl]
  rw[hd]at q';obtain⟨go,yl⟩:=K2.1 items[i] (by rw[List.getElem?_eq_getElem hl])
  refine⟨go,λaO H2=>∃F2 ju,aw F1 F2/\RS Y F2 ju aO H2/\vv g tb De (items.drop (i+1)) ju,λaO H2 ⟨F2,ju,s2,R2,q2⟩=>⟨items.length-(i+1),by omega,F2,ju,s2,R2,q2,rfl,hl⟩,λv H2 y=>?_⟩
  obtain⟨F2,gr,rep⟩:=yl v H2 y;have s2:aw F1 F2:=s'.trans (gr.same R'.fr);refine⟨F2,aI,items[i],_,gr.rs R',rep,q',λiu H3 F3 abr s3 R3 q3=>⟨F3,abr,_,R3,q3,?_⟩⟩;refine⟨λUT H4 F4 uf s4 R4 q4=>⟨F4,uf,(s2.trans s3).trans s4,R4,q4⟩,λv4 UT H4 F4 uf b s4 R4 r4 q4=>K.rt v4 UT H4 F4 uf b (((s1.trans s2).trans s3).trans s4) R4 r4 q4,
   λUT H4 F4 uf s4 R4 q4=>K.nx UT H4 F4 uf (((s1.trans s2).trans s3).trans s4) R4 q4,λUT H4 F4 uf s4 R4 q4=>⟨F4,uf,(s2.trans s3).trans s4,R4,q4⟩⟩
 ·left
  have e:i=items.length:=by omega
  subst e;rw[List.drop_length]at q';exact⟨K2.2 rfl,K.nx cq H' F' aI (s1.trans s') R' q'⟩
end Vc
namespace Vc
open PySem L2
variable [KF]
theorem rL{prog:Program}{w:World}{A:Around}{R:Result->Shared->Prop}{s:Shared}{elt target iter:Expr}{ifs:List Expr}{scope:Scope}{pos:Pos}{it acc:Value}{env:Env}(I:Nat->Shared->Prop)
  (turn:∀n s,I n s->wpAny (model prog w) A (pyNext it) (λr bN=>match r with
   | none=>R (.ok .next) bN
   | some v=>wpAny (model prog w) A (letOwnedTupleGo target it v) (λ_ Lk=>wpAny (model prog w) A (assign target env v) (λ_ tZ =>
     wpAny (model prog w) A (forIn ifs true λc r=>if r=true then do let ok <- isTrue c env (eval c env);pure (ForInStep.yield ok)else pure (ForInStep.yield r)) (λok wg =>
      if ok=true then wpAny (model prog w) A (eval elt env) (λx Jy =>
       wpAny (model prog w) A (call (.builtin "list.append") [acc,x]) (λ_ Zd=>∃m,m<n/\I m Zd) (λ_ _=>False) Jy) (λ_ _=>False) wg
      else∃m,m<n/\I m wg) (λ_ _=>False) tZ) (λ_ _=>False) Lk) (λ_ _=>False) bN) (λ_ _=>False) s)
  (n:Nat) (h:I n s):codeAny (model prog w) A (.compLoop (.ListComp elt [⟨target,iter,ifs,0⟩] scope pos) 0 it acc env) R s:=by
 refine codeAny_loop rfl I (λn s hI=>?_) n h;show wpAny _ A ((compTurn (.ListComp elt [⟨target,iter,ifs,0⟩] scope pos) 0 it acc env).onRaise (λx=>do noteFrame x env;theTreesLotGoes x)) _ _ s
 refine wpAny_noted ?_;rw[compTurn_list];refine wpAny_bind (wpAny_standAt (wpAny_bind (wpAny_mono (turn n s hI) (λr bN HP=>?_) λ_ _ h'=>h'.elim)));cases r with
 | none=>exact wpAny_pure HP
 | some v =>
  refine wpAny_bind (wpAny_mono HP (λ_ Lk Xf=>?_) λ_ _ h'=>h'.elim);refine wpAny_bind (wpAny_mono Xf (λ_ tZ D7=>wpAny_bind (wpAny_mono D7 (λok wg HR=>?_) λ_ _ h'=>h'.elim)) λ_ _ h'=>h'.elim);cases ok with
  | false=>exact wpAny_pure ⟨rfl,HR⟩
  | true =>
   exact wpAny_bind (wpAny_bind (wpAny_mono HR (λx Jy aaN=>wpAny_bind (wpAny_mono aaN (λ_ Zd aaO=>wpAny_pure (wpAny_pure ⟨rfl,aaO⟩)) λ_ _ h'=>h'.elim)) λ_ _ h'=>h'.elim))
def jg(env:Env):List (Str×NameKind)->List (Str×Addr)->List (Str×Addr)
 | [],cs=>cs
 | (n,k)::r,cs=>if k==.free then jg env r ((n,(env.cells.lookup n).getD 0)::cs)else jg env r cs
theorem nM{env:Env}{scope:Scope}(h:∀x∈scope.names,x.2=.free->∃c,env.cells.lookup x.1=some c):closureFor scope env=pure (jg env scope.names []):=by
 have all:∀(l:List (Str×NameKind)) (cs:List (Str×Addr)),(∀x∈l,x.2=.free->∃c,env.cells.lookup x.1=some c) ->
   (forIn l cs λx cs=>if(x.2==NameKind.free)=true then(do let a <- cellOf env x.1;pure (ForInStep.yield ((x.1,a)::cs)))else pure (ForInStep.yield cs):Sem (List (Str×Addr)))=pure (jg env l cs):=by
  intro l
  induction l with
  | nil=>intro cs _;rfl
  | cons x l ih =>
   intro cs hl;obtain⟨n,k⟩:=x;rw[List.forIn_cons];unfold jg
   by_cases hk:k=.free
   ·subst hk
    obtain⟨c,e⟩:=hl (n,.free) List.mem_cons_self rfl;have e':env.cells.lookup n=some c:=e;simp only[beq_self_eq_true,if_true,cellOf,e',Option.getD_some,pure_bind];exact ih _ λy hy=>hl y (List.mem_cons_of_mem _ hy)
   ·have hb:(k==NameKind.free)=false:=by simpa using hk
    simp only[hb,Bool.false_eq_true,if_false,pure_bind];exact ih _ λy hy=>hl y (List.mem_cons_of_mem _ hy)
 have h1:=all scope.names [] h;have h2:closureFor scope env=((forIn scope.names ([]:List (Str×Addr)) λx cs=>if(x.2==NameKind.free)=true then(do let a <- cellOf env x.1;pure (ForInStep.yield ((x.1,a)::cs)))else pure (ForInStep.yield cs):Sem (List (Str×Addr))) >>= λcs=>pure cs):=rfl
 rw[h2,h1,pure_bind]
theorem cn{env:Env}:∀(l:List (Str×NameKind)) (cs:List (Str×Addr)) (x:Str) (c:Addr),(∀y∈l,y.2=.free->∃c,env.cells.lookup y.1=some c)->(jg env l cs).lookup x=some c->env.cells.lookup x=some c\/cs.lookup x=some c
 | [],cs,x,c,_,h=>.inr h
 | (n,k)::r,cs,x,c,hl,h=>by
  unfold jg at h
  by_cases hk:k=.free
  ·subst hk
   simp only[beq_self_eq_true,if_true]at h;obtain⟨c',e⟩:=hl (n,.free) List.mem_cons_self rfl;have e':env.cells.lookup n=some c':=e;rcases cn r _ x c (λy hy=>hl y (List.mem_cons_of_mem _ hy)) h with q|q
   ·exact .inl q
   ·rw[List.lookup_cons]at q
    cases hx:x==n with
    | true =>
     rw[hx]at q;have:=eq_of_beq hx;subst this;rw[e',Option.getD_some]at q;exact .inl (e'.trans q)
    | false=>rw[hx]at q;exact .inr q
  ·have hb:(k==NameKind.free)=false:=by simpa using hk
   simp only[hb,Bool.false_eq_true,if_false]at h;exact cn r cs x c (λy hy=>hl y (List.mem_cons_of_mem _ hy)) h
theorem lh{env:Env}:∀(l:List (Str×NameKind)) (cs:List (Str×Addr)) (x:Str),(cs.lookup x).isSome=true->((jg env l cs).lookup x).isSome=true
 | [],cs,x,h=>h
 | (n,k)::r,cs,x,h=>by
  unfold jg
  by_cases hk:k=.free
  ·subst hk
   simp only[beq_self_eq_true,if_true];refine lh r _ x ?_;rw[List.lookup_cons];cases hx:x==n with
   | true=>rfl
   | false=>exact h
  ·have hb:(k==NameKind.free)=false:=by simpa using hk
   simp only[hb,Bool.false_eq_true,if_false];exact lh r cs x h
theorem jE{env:Env}:∀(l:List (Str×NameKind)) (cs:List (Str×Addr)) (x:Str),(x,NameKind.free)∈l->((jg env l cs).lookup x).isSome=true
 | (n,k)::r,cs,x,h=>by
  unfold jg;rcases List.mem_cons.mp h with e|e
  ·cases e
   simp only[beq_self_eq_true,if_true];refine lh r _ _ ?_;rw[List.lookup_cons,beq_self_eq_true];rfl
  ·split
   ·exact jE r _ x e
   ·exact jE r cs x e
structure pZ(X X':Cx)(scope:Scope)(N':List Str):Prop where
 P:X'.prog=X.prog
 w:X'.w=X.w
 K:X'.K=X.K
 mg:X'.mg=X.mg
 base:X'.base=X.base
 A:X'.A=X.A
 N:X'.N=N'
 sc:X'.env.scope=relabel scope X.env
 calm:X'.calm=true
 xe:X'.xe=λ_ _=>False
def Ks(X:Cx)(ifs:List Expr)(t:TT):Prop:=∀(pins:List (Addr×Obj)) (s:Shared) (σ:St) (H:Hp) (Q:Bool->Hp->Prop),L2.Inv X pins σ H s->t σ H Q ->
 wpAny (model X.prog X.w) X.A (forIn ifs true λc r=>if r=true then do let ok <- isTrue c X.env (eval c X.env);pure (ForInStep.yield ok)else pure (ForInStep.yield r)) (TP X pins σ Q) X.xe s
theorem Jf{X:Cx}:Ks X [] (λ_ H Q=>Q true H):=λpins s σ H Q I h=>wpAny_tests_nil ⟨H,I,h⟩
theorem Jg{X:Cx}{c:Expr}{t:TT}(h:PT X c t):Ks X [c] t:=λpins s σ H Q I q=>wpAny_tests_one (h pins s σ H Q I q)
def nK(caps:List (Option Nat))(σ:St):St:=caps.map λc=>match c with
 | some j=>(σ[j]?).join
 | none=>none
def t9(wi:TI)(caps:List (Option Nat))(g:TG)(tc:TT)(te:TE):TE:=λσ H Q=>wi σ H λJ H1=>∀acc,H1 acc=none->∃W:Nat->Nat->St->Hp->Prop,(∃m,W 0 m (nK caps σ) (upd H1 acc (.lst [])))/\∀i m ax H,W i m ax H ->
 (J.stop i H/\Q (.ref acc) H)\/(J.go i H/\∀x H',J.Zy i H x H'->g x ax H' λaO H2=>tc aO H2 λb H3=>if b=true then te aO H3 λv H4=>∃ys m',H4 acc=some (.lst ys)/\ys.length<sizeLine/\m'<m/\W (i+1) m' aO (upd H4 acc (.lst (ys++[v])))else∃m',m'<m/\W (i+1) m' aO H3)
theorem gj{env:Env}:∀ {names:List (Str×NameKind)} {x:Str} {k:NameKind},(names.map λ(n,k)=>if(k==NameKind.free&&env.scope.kind==.function&&env.kindOf n==some .cell)then(n,NameKind.cell)else(n,k)).lookup x=some k ->
  names.lookup x=some k\/(k=.cell/\names.lookup x=some .free)
 | [],_,_,h=>by simp at h
 | (n,k')::r,x,k,h=>by
  have ih:=@gj env r x k;have h:List.lookup x ((if(k'==NameKind.free&&env.scope.kind==.function&&env.kindOf n==some .cell)=true then(n,NameKind.cell)else(n,k'))::_)=some k:=h
  cases hx:x==n with
  | true =>
   by_cases hc:(k'==NameKind.free&&env.scope.kind==.function&&env.kindOf n==some .cell)=true
   ·rw[if_pos hc]at h
    simp only[List.lookup_cons,hx]at h ⊢;cases h;simp only[Bool.and_eq_true,beq_iff_eq]at hc;exact .inr ⟨rfl,by rw[hc.1.1]⟩
   ·rw[if_neg hc]at h
    simp only[List.lookup_cons,hx]at h ⊢;exact .inl h
  | false =>
   by_cases hc:(k'==NameKind.free&&env.scope.kind==.function&&env.kindOf n==some .cell)=true
   ·rw[if_pos hc]at h
    simp only[List.lookup_cons,hx]at h ⊢;exact ih h
   ·rw[if_neg hc]at h
    simp only[List.lookup_cons,hx]at h ⊢;exact ih h
theorem jX{env:Env}:∀ {names:List (Str×NameKind)} {x:Str},names.lookup x=some .free ->
  (names.map λ(n,k)=>if(k==NameKind.free&&env.scope.kind==.function&&env.kindOf n==some .cell)then(n,NameKind.cell)else(n,k)).lookup x=some .cell \/
  (names.map λ(n,k)=>if(k==NameKind.free&&env.scope.kind==.function&&env.kindOf n==some .cell)then(n,NameKind.cell)else(n,k)).lookup x=some .free
 | [],_,h=>by simp at h
 | (n,k')::r,x,h=>by
  have ih:=@jX env r x;show List.lookup x ((if(k'==NameKind.free&&env.scope.kind==.function&&env.kindOf n==some .cell)=true then(n,NameKind.cell)else(n,k'))::_)=some .cell\/List.lookup x ((if(k'==NameKind.free&&env.scope.kind==.function&&env.kindOf n==some .cell)=true then(n,NameKind.cell)else(n,k'))::_)=some .free
  cases hx:x==n with
  | true =>
   simp only[List.lookup_cons,hx]at h
   by_cases hc:(k'==NameKind.free&&env.scope.kind==.function&&env.kindOf n==some .cell)=true
   ·rw[if_pos hc];left;simp only[List.lookup_cons,hx]
   ·rw[if_neg hc];right;simp only[List.lookup_cons,hx];exact h
  | false =>
   simp only[List.lookup_cons,hx]at h
   by_cases hc:(k'==NameKind.free&&env.scope.kind==.function&&env.kindOf n==some .cell)=true
   ·rw[if_pos hc];simp only[List.lookup_cons,hx];exact ih h
   ·rw[if_neg hc];simp only[List.lookup_cons,hx];exact ih h
structure gJ(X:Cx)(scope:Scope)(N':List Str)(caps:List (Option Nat)):Prop where
 kind:scope.kind=.function
 oJ:∀y∈scope.names,y.2≠.cell
 names:∀y∈scope.names,y.2=.local->scope.names.lookup y.1=some .local
 free:∀y∈scope.names,y.2=.free->X.env.kindOf y.1=some .cell\/X.env.kindOf y.1=some .free
 len:caps.length=N'.length
 Ur:∀(i:Nat) (j:Nat),caps[i]?=some (some j)->∃x,N'[i]?=some x/\X.N[j]?=some x/\scope.names.lookup x=some .free
section
variable {X:Cx}{pins:List (Addr×Obj)}{σ:St}{H:Hp}{s:Shared}{elt target iter:Expr}{ifs:List Expr}{scope:Scope}{pos:Pos}{N':List Str}{caps:List (Option Nat)}
theorem gJ.cells(SC:gJ X scope N' caps)(ok:X.Ok):∀x∈scope.names,x.2=.free->∃c,X.env.cells.lookup x.1=some c:=λx hx hf=>ok.has x.1 (SC.free x hx hf)
def GJ(X:Cx)(scope:Scope)(N':List Str)(bR:Shared)(kZ:Hp)(C:Addr)(fp:List Addr):Cx:=
 {X with N:=N',bR:=bR,kZ:=kZ,env:=compEnvC scope (jg X.env scope.names []) C X.env,outer:=X.stack,ex:=fp,fn:=λ_=>false,calm:=true,pn:=[],xe:=λ_ _=>False}
theorem MP(I:L2.Inv X pins σ H s)(SC:gJ X scope N' caps)(hc:X.calm=true){fp:List Addr}(hf:∀b∈fp,iQ X pins H b)(jn:∀b∈fp,b<s.heap.objs.size):(GJ X scope N' s H s.heap.objs.size fp).Ok where
 mod:=I.ok.mod
 kind:=SC.kind
 glob:=I.ok.glob
 blt:=I.ok.blt
 above:=Nat.le_refl _
 inj:=λx y c h1 h2=>by
  have f:∀z,(jg X.env scope.names []).lookup z=some c->X.env.cells.lookup z=some c:=λz h=>by
   rcases cn scope.names [] z c (SC.cells I.ok) h with q|q
   ·exact q
   ·cases q
  exact I.ok.inj x y c (f x h1) (f y h2)
 has:=λx hx=>by
  have hx:(relabel scope X.env).names.lookup x=some .cell\/(relabel scope X.env).names.lookup x=some .free:=hx;have yO:scope.names.lookup x=some .free:=by
   rcases hx with hx|hx
   ·rcases gj hx with q|⟨_,q⟩
    ·exact absurd rfl (SC.oJ _ (PySem.mem_of_lookup q))
    ·exact q
   ·rcases gj hx with q|⟨q,_⟩
    ·exact q
    ·cases q
  exact Option.isSome_iff_exists.mp (jE scope.names [] x (PySem.mem_of_lookup yO))
 Kv:=λx c h=>by cases h
 hd:=λ_=>I.ok.hd hc
 frames:=I.ok.frames
 Tr:=.inl rfl
 Wn:=λb hb=>⟨Nat.ne_of_lt (jn b hb),λx c h=>by
  rcases cn scope.names [] x c (SC.cells I.ok) h with q|q
  ·exact(hf b hb).2.2.2.2.1 x c q
  ·cases q⟩
 bs:=I.bs
 zZ:=Nat.le_trans I.ok.zZ I.sz
 vP:=λb o e hb=>by
  rcases(hf b hb).2.2.2.1 with q|q
  ·exact I.ok.vP b o e q
  ·exact absurd (Nat.lt_of_lt_of_le (Heap.lt_size e) (Nat.le_trans I.ok.zZ q)) (Nat.lt_irrefl _)
 xn:=λb hb z=>by
  rcases List.mem_cons.mp (I.tY b z)with q|q
  ·exact(hf b hb).2.1 q
  ·exact(hf b hb).2.2.1 q
 jk:=I.stack
 GK:=I.kO
theorem Hg(I:L2.Inv X pins σ H s)(SC:gJ X scope N' caps)(hc:X.calm=true){fp:List Addr}(hf:∀b∈fp,iQ X pins H b)(jn:∀b∈fp,b<s.heap.objs.size){h1:Heap}{t1:Nat}(hn:h1.Ns s.heap.objs.size (λ_=>none))(hk:∀b o,s.heap.get? b=some o->h1.get? b=some o):
  L2.Inv (GJ X scope N' s H s.heap.objs.size fp) [] (nK caps σ) H {s with heap:=h1,toks:=t1} where
 ok:=MP I SC hc hf jn
 os:=rfl
 bare:=I.bare
 base:=Un.kept hk
 loc:=by
  refine⟨_,hn,λi x v e1 e2 _=>?_⟩;have e2:(caps.map λc=>match c with|some j=>(σ[j]?).join|none=>none)[i]?=some (some v):=e2
  rw[List.getElem?_map]at e2;cases ec:caps[i]? with
  | none=>rw[ec]at e2;cases e2
  | some c =>
   rw[ec]at e2;cases c with
   | none=>cases e2
   | some j =>
    have e2:(σ[j]?).join=some v:=Option.some.inj e2;have e3:σ[j]?=some (some v):=by
     cases q:σ[j]? with
     | none=>rw[q]at e2;cases e2
     | some w =>
      rw[q]at e2;cases w with
      | none=>cases e2
      | some z=>cases e2;rfl
    obtain⟨y,w1,w2,w3⟩:=SC.Ur i j ec;have e1:N'[i]?=some x:=e1;rw[w1]at e1;cases e1;have Om:=SC.free (x,.free) (PySem.mem_of_lookup w3) rfl;obtain⟨m,hm,hl⟩:=I.loc;obtain⟨u,r,l⟩:=hl j x v w2 e3 (.inr Om);refine⟨u,r,?_⟩;rcases l with⟨k1,_⟩|⟨_,c,HE,yL⟩
    ·have Om:X.env.kindOf x=some .cell\/X.env.kindOf x=some .free:=Om
     rw[k1]at Om;rcases Om with z|z<;>cases z
    ·right
     refine⟨jX w3,c,?_,?_⟩
     ·obtain⟨c',e'⟩:=Option.isSome_iff_exists.mp (jE (env:=X.env) scope.names [] x (PySem.mem_of_lookup w3))
      rcases cn scope.names [] x c' (SC.cells I.ok) e' with q|q
      ·rw[HE]at q;cases q
       exact e'
      ·cases q
     ·obtain⟨o,ho,hd⟩:=yL
      exact⟨o,hk _ _ ho,hd⟩
 cell:=λx c h=>by
  rcases cn scope.names [] x c (SC.cells I.ok) h with q|q
  ·obtain⟨v,o,ho,hd⟩:=I.cell x c q
   exact⟨v,o,hk _ _ ho,hd⟩
  ·cases q
 free:=I.bw.fresh (Nat.le_refl _)
 dY:=λx c h=>by
  rcases cn scope.names [] x c (SC.cells I.ok) h with q|q
  ·exact I.dY x c q
  ·cases q
 pin:=λp hp=>absurd (show p∈([]:List (Addr×Obj))from hp) (by simp)
 bw:=I.bw.kept hk
 len:=by
  show(caps.map _).length=N'.length;rw[List.length_map];exact SC.len
theorem uN(I:L2.Inv X pins σ H s)(SC:gJ X scope N' caps)(hc:X.calm=true){it:Addr}{fp:List Addr}{tn:Nat->Heap->Prop}{J:It}(T:Turn X.prog X.w X.K target J fp it tn)(t0:tn 0 s.heap)(hf:∀b∈fp,iQ X pins H b)
  {g:TG} {tc:TT} {te:TE} (WW:∀X',pZ X X' scope N'->PG X' target g/\Ks X' ifs tc/\PE X' elt te) {Q:VK}
  (q:∀acc,H acc=none->∃W:Nat->Nat->St->Hp->Prop,(∃m,W 0 m (nK caps σ) (upd H acc (.lst [])))/\∀i m ax H,W i m ax H ->
   (J.stop i H/\Q (.ref acc) H)\/(J.go i H/\∀x H',J.Zy i H x H'->g x ax H' λaO H2=>tc aO H2 λb H3=>if b=true then te aO H3 λv H4=>∃ys m',H4 acc=some (.lst ys)/\ys.length<sizeLine/\m'<m/\W (i+1) m' aO (upd H4 acc (.lst (ys++[v])))else∃m',m'<m/\W (i+1) m' aO H3))
  {E:Value->Shared->Prop} {RR:Value->Addr->Result->Shared->Prop}
  (hRR:∀acc C H' s',L2.Inv X pins σ H' s'->iQ X pins H' C->(∃m,s'.heap.Ns C m)->Q (.ref acc) H'->RR (.ref acc) C (.ok .next) s'):
  wpAny (model X.prog X.w) X.A (newList []) (λacc wg=>wpAny (model X.prog X.w) X.A (newFunctionEnv scope X.env.globals (jg X.env scope.names []) [] X.env.qual none .none (some X.env)) (λVv Jy =>
   codeAny (model X.prog X.w) X.A (.compStart (.ListComp elt [⟨target,iter,ifs,0⟩] scope pos) 0 (.ref it) acc {Vv with scope:=relabel scope X.env}) (RR acc Vv.locals) Jy) E wg) E s:=by
 refine wpAny_newObj_type ?_;have DT:H s.heap.objs.size=none:=I.bw.fresh (Nat.le_refl _);have I3:L2.Inv X pins σ (upd H s.heap.objs.size (.lst [])) {s with heap:=s.heap.push {cls:=.type "list",dict:=none,data:=.seq ([]:List Value).toArray}}:=I.Pu (t':=s.toks) (its:=[]) (ys:=[]) .nil (Nat.zero_le _)
 obtain⟨W,⟨m0,w0⟩,step⟩:=q _ DT;generalize hs3:({s with heap:=s.heap.push {cls:=.type "list",dict:=none,data:=.seq ([]:List Value).toArray}}:Shared)=s3 at I3 ⊢
 generalize hH3:upd H s.heap.objs.size (.lst [])=H3 at I3 w0;generalize WK:s.heap.objs.size=acc at *;have up3:∀b o,s.heap.get? b=some o->s3.heap.get? b=some o:=λb o e=>by rw[<- hs3];exact Heap.get?_push_of_some _ e
 have WB:∀b∈fp,b<s3.heap.objs.size:=λb hb=>by
  obtain⟨o,e,_⟩:=T.obj 0 _ t0 b hb;exact Heap.lt_size (up3 b o e)
 have ZN:∀b∈fp,iQ X pins H3 b:=λb hb=>by
  obtain⟨f0,f⟩:=hf b hb;refine⟨?_,f⟩;obtain⟨o,e,_⟩:=T.obj 0 _ t0 b hb;have:b≠acc:=by rw[<- WK];exact Nat.ne_of_lt (Heap.lt_size e)
  rw[<- hH3,aq this];exact f0
 have t3:tn 0 s3.heap:=T.keep 0 _ _ t0 λb _ o e=>up3 b o e;refine wpAny_newFunctionEnv SC.oJ (by intro y hy;simp at hy) (λh1 Uy sb1=>?_) SC.kind
 have sj:∀b o,s3.heap.get? b=some o->h1.get? b=some o:=λb o e=>sb1.extBut b o (Nat.ne_of_lt (Heap.lt_size e)) (Heap.get?_push_of_some _ e);have cx:pZ X (GJ X scope N' s3 H3 s3.heap.objs.size fp) scope N':=⟨rfl,rfl,rfl,rfl,rfl,rfl,rfl,rfl,rfl,rfl⟩;obtain⟨hg,ht,he⟩:=WW _ cx;have Oq:h1.Ns s3.heap.objs.size (λ_=>none):=by simpa using Uy
 have fpB:∀ {H':Hp},(∀b∈fp,H' b=none)->∀b∈fp,iQ (GJ X scope N' s3 H3 s3.heap.objs.size fp) [] H' b:=λ{H'} hn b hb=>by
  obtain⟨f0,f1,f2,f3,f4,f5⟩:=ZN b hb;refine⟨hn b hb,Nat.ne_of_lt (WB b hb),?_,.inl hb,λx c h=>?_,λp hp=>absurd (show p∈([]:List (Addr×Obj))from hp) (by simp)⟩
  ·intro z
   rcases List.mem_cons.mp (I3.tY b z)with q|q
   ·exact f1 q
   ·exact f2 q
  ·rcases cn scope.names [] x c (SC.cells I.ok) h with q|q
   ·exact f4 x c q
   ·cases q
 have loop:∀s4:Shared,L2.Inv (GJ X scope N' s3 H3 s3.heap.objs.size fp) [] (nK caps σ) H3 s4->tn 0 s4.heap->codeAny (model X.prog X.w) X.A (.compLoop (.ListComp elt [⟨target,iter,ifs,0⟩] scope pos) 0 (.ref it) (.ref acc) (compEnvC scope (jg X.env scope.names []) s3.heap.objs.size X.env)) (RR (.ref acc) s3.heap.objs.size) s4:=by
  intro s4 I4 t4;refine rL (λn s'=>∃i ax H',L2.Inv (GJ X scope N' s3 H3 s3.heap.objs.size fp) [] ax H' s'/\tn i s'.heap/\(∀b∈fp,H' b=none)/\W i n ax H') ?_ m0 ⟨0,_,H3,I4,t4,λb hb=>(ZN b hb).1,w0⟩;rintro n s5 ⟨i,ax,H5,I5,UN,N7,w5⟩;rcases step i n ax H5 w5 with⟨stop,qn⟩|⟨go,body⟩
  ·refine cE (T.done (GJ X scope N' s3 H3 s3.heap.objs.size fp) rfl rfl rfl rfl i [] s5 ax H5 _ I5 (fpB N7) UN stop) λr s6 ⟨hr,I6⟩=>?_
   subst hr;have u:=I6.base;refine hRR acc _ H5 s6 (I3.qg (ch:=fp) I6.os u I6.bw I6.bare λb hb=>?_) (I3.Dy (Nat.le_refl _) I6.free) ?_ qn
   ·obtain⟨f0,f1,f2,f3,f4,f5⟩:=ZN b hb
    exact⟨f3.imp id λz=>Heap.get?_none_of_le z,f1,f4,f5⟩
   ·obtain⟨m,hm,_⟩:=I6.loc
    exact⟨m,hm⟩
  ·refine cE (T.item (GJ X scope N' s3 H3 s3.heap.objs.size fp) rfl rfl rfl rfl i [] s5 ax H5 _ I5 (fpB N7) UN go) λr s6 ⟨u,hr,h6⟩=>?_
   subst hr;refine cE h6 λ_ s7 ⟨x,H7,I7,r7,y7,st7,fr7⟩=>?_;have I7':=I7.pinned (fpB fr7) (T.obj _ _ st7);have back:∀ {G0:St} {H8:Hp} {s8:Shared},L2.Inv (GJ X scope N' s3 H3 s3.heap.objs.size fp) ([]++lN fp s7.heap) G0 H8 s8->L2.Inv (GJ X scope N' s3 H3 s3.heap.objs.size fp) [] G0 H8 s8/\tn (i+1) s8.heap/\∀b∈fp,H8 b=none:=λ{G0 H8 s8} I8=>by
    refine⟨I8.il,T.keep _ _ _ st7 λb hb o e=>(I8.pin (b,o) (List.mem_append_right _ (List.mem_append_right _ (eS hb e)))).1,λb hb=>?_⟩;obtain⟨o,e,d⟩:=T.obj _ _ st7 b hb;exact(I8.pin (b,o) (List.mem_append_right _ (List.mem_append_right _ (eS hb e)))).2.1
   refine cE (hg _ s7 ax H7 x u _ I7' r7 (body x H7 y7)) λ_ s8 ⟨G0,H8,I8,q8⟩=>?_;refine cE (ht _ s8 G0 H8 _ I8 q8) λb s9 ⟨H9,I9,q9⟩=>?_;cases b with
   | false =>
    obtain⟨m',hm,w9⟩:=q9;obtain⟨J1,J2,J3⟩:=back I9;exact⟨m',hm,i+1,G0,H9,J1,J2,J3,w9⟩
   | true =>
    refine cE (he _ s9 G0 H9 _ I9 q9) λy s10 ⟨v,H10,I10,r10,ys,m',e10,hz,hm,w10⟩=>?_;refine cE (qK _ s10 G0 H10 (.ref acc) [v] (.ref acc) [y] (λz H11=>z=.aV/\W (i+1) m' G0 H11) I10 rfl (.cons r10 .nil) ⟨acc,ys,v,rfl,rfl,e10,hz,rfl,w10⟩) λ_ s11 ⟨_,H11,I11,_,_,w11⟩=>?_;obtain⟨J1,J2,J3⟩:=back I11;exact⟨m',hm,i+1,G0,H11,J1,J2,J3,w11⟩
 have I4:=Hg (caps:=caps) (N':=N') I3 SC hc ZN WB (t1:=s3.toks+([]:List (Str×Value)).length) Oq sj;have t4:tn 0 h1:=T.keep 0 _ _ t3 λb _ o e=>sj b o e;exact codeAny_compStart_list (loop _ I4 t4) (T.self X.A 0 _ _ _ t4 (loop _ I4 t4))
end
end Vc
namespace Vc
open PySem L2
variable [KF]
section
variable {X:Cx}{elt target iter:Expr}{ifs:List Expr}{scope:Scope}{pos:Pos}{N':List Str}{caps:List (Option Nat)}{wi:TI}{g:TG}{tc:TT}{te:TE}
theorem yE{pins:List (Addr×Obj)}{σ:St}{H:Hp}{s:Shared}{C:Addr}{h':Heap}(f:iQ X pins H C)(I:L2.Inv X pins σ H s)(hs:Heap.SameBut C s.heap h'):L2.Inv X pins σ H {s with heap:=h'}:=by
 obtain⟨f0,f1,f2,f3,f4,f5⟩:=f;exact I.turned (t':=s.toks) (λb o hb e=>hs.extBut b o hb e) f0 f1 f3 f4 f5
theorem zj(hc:X.calm=true)(hi:PI X target iter wi)(SC:gJ X scope N' caps)(WW:∀X',pZ X X' scope N'->PG X' target g/\Ks X' ifs tc/\PE X' elt te)(hs:∀x,foldedSetIterable iter X.env x=pure x):
  PE X (.ListComp elt [⟨target,iter,ifs,0⟩] scope pos) (t9 wi caps g tc te):=by
 intro pins s σ H Q I h;rw[eval_ListComp];refine wpAny_comprehension_free (use:=none) rfl hs (nM (SC.cells I.ok)) SC.kind SC.names (cE (hi pins s σ H _ I h) λv s1 h1=>cE h1 λZX s2 h2=>?_);obtain⟨it,fp,tn,J,H2,rfl,I2,T,t0,f2,q2⟩:=h2;exact uN I2 SC hc T t0 f2 WW q2 (RR:=λacc C=>compPost (model X.prog X.w) X.A X.xe none (EP X pins σ Q) acc C) λacc C H' s' I' f' ⟨m,hm⟩ q'=>⟨m,hm,λh' kX=>⟨.ref acc,H',yE f' I' kX,rfl,q'⟩⟩
theorem Jc{i:Nat}{y:Str}{py A6:Pos}(hc:X.calm=true)(hi:PI X target iter wi)(SC:gJ X scope N' caps)(WW:∀X',pZ X X' scope N'->PG X' target g/\Ks X' ifs tc/\PE X' elt te)(hs:∀x,foldedSetIterable iter X.env x=pure x)
  (hN:X.N.Nodup) (hy:X.N[i]?=some y) (hx:X.env.scope.names.lookup y=some .local) (hsw:swapsWith (.ListComp elt [⟨target,iter,ifs,0⟩] scope pos) (some (.Name y py)) A6.line X.env=pure true):
  PS X (.Assign [.Name y py] (.ListComp elt [⟨target,iter,ifs,0⟩] scope pos) A6) (Ts (t9 wi caps g tc te) (vw i)):=by
 intro pins s σ H D I h;rw[exec_Assign_Name_used _ _ _ _ hsw];refine wpAny_bind (wpAny_standAt (wpAny_bind ?_));show wpAny _ X.A (do let _ <- comprehension (.ListComp elt [⟨target,iter,ifs,0⟩] scope pos) scope X.env _ (newList []) false (eval iter X.env) (some (assign (.Name y py) X.env))) _ _ s
 refine wpAny_bind (wpAny_mono (wpAny_comprehension_free (use:=some (assign (.Name y py) X.env)) (Q:=λ_ s'=>SP X pins D .next s') rfl hs (nM (SC.cells I.ok)) SC.kind SC.names (cE (hi pins s σ H _ I h) λv s1 h1=>cE h1 λZX s2 h2=>?_))
  (λ_ s' hq=>wpAny_pure (wpAny_pure hq)) λ_ _ e=>e)
 obtain⟨it,fp,tn,J,H2,rfl,I2,T,t0,f2,q2⟩:=h2;refine uN (Q:=λx H1=>vw i x σ H1 D.nx) I2 SC hc T t0 f2 WW q2 (RR:=λacc C=>compPost (model X.prog X.w) X.A X.xe (some (assign (.Name y py) X.env)) (λ_ s'=>SP X pins D .next s') acc C) λacc C H' s' I' f' ⟨m,hm⟩ q'=>?_;show wpAny _ X.A (assign (.Name y py) X.env (.ref acc)) _ _ s';obtain⟨o,es,ep,ho,hd,r⟩:=id hm;have Ip:L2.Inv X (pins++lN [C] s'.heap) σ H' s':=I'.pinned (fp:=[C]) (λb hb=>(show b=C by simpa using hb) ▸ f') (λb hb=>by
  have e:b=C:=by simpa using hb
  subst e;exact⟨o,ho,λv z=>by rw[hd]at z;cases z⟩)
 refine wpAny_assign_Name (kP Ip hN hy (.inl hx) (show RelV (.ref acc) (.ref acc)from rfl) (λYQ I''=>?_) (.inr hx))
 have hC:YQ.heap.get? C=some o:=(I''.pin (C,o) (List.mem_append_right _ (List.mem_append_right _ (eS (by simp) ho)))).1
 exact⟨m,⟨o,es,ep,hC,hd,r⟩,λh' kX=>⟨_,H',yE f' I''.il kX,q'⟩⟩
end
variable {G:GE}{k:Nat}{S:Stat}
def jW(names sc:List (Str×NameKind)):List (Str×NameKind):=names.map λ(n,k)=>if(k==.free&&sc.lookup n==some .cell)then(n,.cell)else(n,k)
def aX(S:Stat)(scope:Scope)(N':List Str):Stat:=⟨N',jW scope.names S.sc,[],true,false,false,λ_ _=>False⟩
structure pX(S:Stat)(scope:Scope)(N':List Str)(caps:List (Option Nat)):Prop where
 kind:scope.kind=.function
 nd:N'.Nodup
 oJ:scope.names.all (λy=>y.2 != .cell)=true
 names:scope.names.all (λy=>y.2 != .local||scope.names.lookup y.1==some .local)=true
 free:scope.names.all (λy=>y.2 != .free||S.sc.lookup y.1==some .cell||S.sc.lookup y.1==some .free)=true
 len:caps.length=N'.length
 Ur:(caps.zip N').all (λp=>match p.1 with|some j=>S.N[j]?==some p.2&&scope.names.lookup p.2==some .free|none=>true)=true
theorem pX.sc{scope:Scope}{N':List Str}{caps:List (Option Nat)}(b:pX S scope N' caps){X:Cx}{Y:bP}(ok:eG X G k S Y):gJ X scope N' caps where
 kind:=b.kind
 oJ:=λy hy z=>by
  have:=List.all_eq_true.mp b.oJ y hy;rw[z]at this;cases this
 names:=λy hy z=>by
  have:=List.all_eq_true.mp b.names y hy;rw[z]at this;simpa using this
 free:=λy hy z=>by
  have:=List.all_eq_true.mp b.free y hy;rw[z]at this;have kd:X.env.kindOf y.1=S.sc.lookup y.1:=by
   show X.env.scope.names.lookup y.1=_;rw[ok.sc]
  rw[kd];simpa using this
 len:=b.len
 Ur:=λi j e=>by
  have hl:i<caps.length:=(List.getElem?_eq_some_iff.mp e).1;have hl':i<N'.length:=by rw[<- b.len];exact hl
  have hz:(caps.zip N')[i]?=some (some j,N'[i]):=by
   rw[List.getElem?_zip_eq_some];exact⟨e,by rw[List.getElem?_eq_getElem hl']⟩
  have:=List.all_eq_true.mp b.Ur _ (List.mem_of_getElem? hz);simp only[Bool.and_eq_true,beq_iff_eq]at this;exact⟨N'[i],by rw[List.getElem?_eq_getElem hl'],by rw[ok.N];exact this.1,this.2⟩
theorem nO{X X':Cx}{Y:bP}{scope:Scope}{N':List Str}{caps:List (Option Nat)}(hh:S.nk=false)(ok:eG X G k S Y)(b:pX S scope N' caps)(c:pZ X X' scope N')(Y':bP)(eA:Y'.io=[]):eG X' G k (aX S scope N') Y' where
 P:=c.P.trans ok.P
 w:=c.w.trans ok.w
 K:=c.K.trans ok.K
 kf:=c.K.trans ok.kf
 mg:=c.mg.trans ok.mg
 obs:=λh=>nomatch h
 base:=c.base.trans ok.base
 N:=c.N
 sc:=by
  rw[c.sc];show scope.names.map _=jW scope.names S.sc;unfold jW;refine List.map_congr_left λy _=>?_;obtain⟨n,kk⟩:=y;have kd:X.env.kindOf n=S.sc.lookup n:=by
   show X.env.scope.names.lookup n=_;rw[ok.sc]
  simp only[ok.kind,kd,beq_self_eq_true,Bool.and_true]
 nd:=b.nd
 ios:=λp hp=>by rw[eA]at hp;cases hp
 calm:=λ_=>c.calm
 kind:=by rw[c.sc];exact b.kind
 fn:=λh=>by cases h
 hd:=λ_=>by rw[c.A];exact ok.hd hh
 dp:=by rw[c.A];exact ok.dp
 un:=by rw[c.A];exact ok.un
 po:=λ_=>by rw[c.xe];exact PassesOwn.never
 nx:=λh=>nomatch h
 exc:=λ_ _ h=>h.elim
 made:=λh=>nomatch h
def oA:Sd->Sd->Prop
 | [],[]=>True
 | none::r,_::s=>oA r s
 | some b::r,c::s=>c=some b/\oA r s
 | _,_=>False
theorem su:∀ {a b:Sd} {i:Nat} {x:B},oA a b->a[i]?=some (some x)->b[i]?=some (some x)
 | [],[],_,_,_,e=>by simp at e
 | none::r,c::s,0,_,h,e=>by simp at e
 | none::r,c::s,i+1,x,h,e=>by
  have h:oA r s:=h;simpa using su (i:=i) h (by simpa using e)
 | some b::r,c::s,0,x,h,e=>by
  obtain⟨h1,h2⟩:c=some b/\oA r s:=h;simp at e;subst e;simp [h1]
 | some b::r,c::s,i+1,x,h,e=>by
  obtain⟨h1,h2⟩:c=some b/\oA r s:=h;simpa using su (i:=i) h2 (by simpa using e)
 | [],_::_,_,_,h,_=>h.elim
 | none::_,[],_,_,h,_=>h.elim
 | some _::_,[],_,_,h,_=>h.elim
theorem sv:∀ {a b:Sd},oA a b->a.length=b.length
 | [],[],_=>rfl
 | none::r,c::s,h=>by
  have h:oA r s:=h;simp [sv h]
 | some b::r,c::s,h=>by
  obtain⟨_,h2⟩:c=some b/\oA r s:=h;simp [sv h2]
 | [],_::_,h=>h.elim
 | none::_,[],h=>h.elim
 | some _::_,[],h=>h.elim
def xq(ios:List Nat):List (Option Nat)->Sd->(Sd->Prop)->Prop
 | [],σ,Q=>Q σ
 | none::r,σ,Q=>xq ios r σ Q
 | some j::r,σ,Q=>match σ[j]? with
  | some (some (.own xs))=>j∉ios/\xq ios r (σ.set j (some (.sh (.lst xs)))) Q
  | _=>xq ios r σ Q
def jD(caps:List (Option Nat))(σ:Sd):Sd:=caps.map λc=>match c with
 | some j=>match σ[j]? with
  | some (some (.sh d))=>some (.sh d)
  | _=>none
 | none=>none
def eN(g:p7)(tc:TB)(te:TD)(gD:Sd):List D->List D->(List D->Prop)->Prop
 | [],acc,Q=>Q acc
 | x::xs,acc,Q=>g x gD λax=>tc ax λb aO=>if b=true then te aO λd iu=>oA gD iu/\acc.length<sizeLine/\eN g tc te gD xs (acc++[d]) Q else oA gD aO/\eN g tc te gD xs acc Q
def dF(ios:List Nat)(caps:List (Option Nat))(ti:iy)(g:p7)(tc:TB)(te:TD):TX:=λσ Q=>ti σ λitems ax=>xq ios caps ax λaO=>eN g tc te (jD caps aO) items [] λds=>Q (.own ds) aO
theorem fX{ios:List Nat}{Y:bP}(eA:∀p∈Y.io,p.1∈ios):∀ {caps:List (Option Nat)} {F:Hp} {ai:Sd} {σ:St} {H:Hp} {Q:Sd->Prop},RS Y F ai σ H->xq ios caps ai Q->∃F' aI,aw F F'/\RS Y F' aI σ H/\Q aI
 | [],F,ai,σ,H,Q,R,q=>⟨F,ai,aw.refl _,R,q⟩
 | none::r,F,ai,σ,H,Q,R,q=>fX eA (caps:=r) R q
 | some j::r,F,ai,σ,H,Q,R,q=>by
  unfold xq at q
  split at q
  ·rename_i xs e
   obtain⟨F2,v2,s2,R2,e2,r2⟩:=R.lx e λp hp z=>q.1 (z ▸ eA p hp);obtain⟨F3,iu,s3,R3,q3⟩:=fX eA (caps:=r) R2 q.2;exact⟨F3,iu,s2.trans s3,R3,q3⟩
  ·exact fX eA (caps:=r) R q
theorem fU(caps:List (Option Nat))(ai:Sd):∀(i:Nat) (o:O),(jD caps ai)[i]?≠some (some (.obj o)):=λi o e=>by
 unfold jD at e;rw[List.getElem?_map]at e;cases ec:caps[i]? with
 | none=>rw[ec]at e;cases e
 | some c =>
  rw[ec]at e;cases c with
  | none=>cases e
  | some j =>
   have e:(match ai[j]? with|some (some (.sh d))=>some (B.sh d)|_=>none)=some (.obj o):=Option.some.inj e
   split at e<;>cases e
theorem Hb{Y:bP}{F:Hp}{ai:Sd}{σ:St}{H:Hp}(R:RS Y F ai σ H)(caps:List (Option Nat)){F' H':Hp}(s1:aw F F')(s2:aw F' H'):RS ⟨H',F',[],[]⟩ F' (jD caps ai) (nK caps σ) H' where
 len:=by unfold jD nK;simp
 lo:=aw.refl _
 fr:=s2
 fW:=λb o e=>.inl e
 old:=λb o e _=>e
 sh:=λi d e=>by
  unfold jD at e;rw[List.getElem?_map]at e;unfold nK;rw[List.getElem?_map];cases ec:caps[i]? with
  | none=>rw[ec]at e;cases e
  | some c =>
   rw[ec]at e;cases c with
   | none=>cases e
   | some j =>
    have e:(match ai[j]? with|some (some (.sh d))=>some (B.sh d)|_=>none)=some (.sh d):=Option.some.inj e
    split at e
    ·rename_i d' q
     cases e;obtain⟨v,h1,h2⟩:=R.sh j d q;exact⟨v,by show some ((σ[j]?).join)=_;rw[h1];rfl,h2.mono s1⟩
    ·cases e
 own:=λi xs e=>by
  unfold jD at e;rw[List.getElem?_map]at e;cases ec:caps[i]? with
  | none=>rw[ec]at e;cases e
  | some c =>
   rw[ec]at e;cases c with
   | none=>cases e
   | some j =>
    have e:(match ai[j]? with|some (some (.sh d))=>some (B.sh d)|_=>none)=some (.own xs):=Option.some.inj e
    split at e<;>cases e
 dis:=λi j xs ys a e=>by
  exfalso;unfold jD at e;rw[List.getElem?_map]at e;cases ec:caps[i]? with
  | none=>rw[ec]at e;cases e
  | some c =>
   rw[ec]at e;cases c with
   | none=>cases e
   | some j =>
    have e:(match ai[j]? with|some (some (.sh d))=>some (B.sh d)|_=>none)=some (.own xs):=Option.some.inj e
    split at e<;>cases e
 io:=λp hp=>by cases hp
 ob:=.none (fU _ _) (R.ob.tab.mono s1) λb hb=>by cases hb
theorem RS.less{Y:bP}{F:Hp}{gD ai:Sd}{σ:St}{H:Hp}(R:RS Y F ai σ H)(l:oA gD ai)(K7:∀(i:Nat) (xs:List D),gD[i]?≠some (some (.own xs)))(XH:∀(i:Nat) (o:O),gD[i]?≠some (some (.obj o))){H':Hp}(s:aw F H'):RS ⟨H',F,[],[]⟩ F gD σ H' where
 len:=(sv l).trans R.len
 lo:=aw.refl _
 fr:=s
 fW:=λb o e=>.inl e
 old:=λb o e _=>e
 sh:=λi d e=>R.sh i d (su l e)
 own:=λi xs e=>absurd e (K7 i xs)
 dis:=λi j xs ys a e=>absurd e (K7 i xs)
 io:=λp hp=>by cases hp
 ob:=.none XH R.ob.tab λb hb=>by cases hb
theorem jf(caps:List (Option Nat))(ai:Sd):∀(i:Nat) (xs:List D),(jD caps ai)[i]?≠some (some (.own xs)):=λi xs e=>by
 unfold jD at e;rw[List.getElem?_map]at e;cases ec:caps[i]? with
 | none=>rw[ec]at e;cases e
 | some c =>
  rw[ec]at e;cases c with
  | none=>cases e
  | some j =>
   have e:(match ai[j]? with|some (some (.sh d))=>some (B.sh d)|_=>none)=some (.own xs):=Option.some.inj e
   split at e<;>cases e
theorem oB:∀a:Sd,oA a a
 | []=>trivial
 | none::r=>oB r
 | some b::r=>⟨rfl,oB r⟩
theorem RS.other{Y:bP}{F:Hp}{ai:Sd}{σ:St}{H:Hp}{a:Addr}{o:HO}(R:RS Y F ai σ H)(h1:F a=none)(h2:Y.H0 a=none)(h3:fB ai σ a):RS Y F ai σ (upd H a o) where
 len:=R.len
 lo:=R.lo
 fr:=λb u e=>by
  have:b≠a:=λz=>by rw[z,h1]at e;cases e
  rw[aq this];exact R.fr b u e
 fW:=R.fW
 old:=λb u e n=>by
  have:b≠a:=λz=>by rw[z,h2]at e;cases e
  rw[aq this];exact R.old b u e n
 sh:=R.sh
 own:=λi xs e=>by
  obtain⟨b,vs,w1,w2,w3⟩:=R.own i xs e;have:b≠a:=λz=>h3 i xs e (by rw[w1,z])
  exact⟨b,vs,w1,by rw[aq this];exact w2,w3⟩
 dis:=R.dis
 io:=R.io
 ob:=R.ob.step (aw.refl _) (λ_ _ e=>⟨e,rfl⟩) (λb hb=>by
  obtain⟨w1,w2,w3⟩:=R.ob.owned hb;have dk:b≠a:=λz=>h3.XG (z ▸ hb);exact⟨aq dk,w1,w3⟩) R.ob.gP λb hb=>by
  by_cases dk:b=a
  ·rw[dk,az];exactλz=>nomatch z
  ·rw[aq dk];exact R.ob.there b hb
def lGe(g:p7):TG:=λv σ H Q=>∃Y:bP,Y.io=[]/\lG Y g v σ H Q
def lBe(t:TB):TT:=λσ H Q=>∃Y:bP,Y.io=[]/\lB Y t σ H Q
def lDe(t:TD):TE:=λσ H Q=>∃Y:bP,Y.io=[]/\lD Y t σ H Q
structure Lx(G:GE)(k:Nat)(S:Stat)(ifs:List Expr)(t:TB) :Prop where
 run:∀X Y,eG X G k S Y->Ks X ifs (lB Y t)
instance {G:GE} {k:Nat} {S:Stat} {ifs:List Expr} {t:TB} :CoeFun (Lx G k S ifs t) λ_=>∀X Y,eG X G k S Y->Ks X ifs (lB Y t):=⟨Lx.run⟩
def eX:TB:=λσ Q=>Q true σ
theorem jC:Lx G k S [] eX:=.mk λX Y ok pins s σ H Q I q=>Jf pins s σ H Q I (by
 obtain⟨F,ai,Qd,R,q,K⟩:=q;exact K true H F ai (aw.refl _) R q)
theorem yt{c:Expr}{t:TB}(h:EB G k S c t):Lx G k S [c] t:=.mk λX Y ok=>Jg (h X Y ok)
section
variable {elt target iter:Expr}{ifs:List Expr}{scope:Scope}{pos:Pos}{N':List Str}{caps:List (Option Nat)}{ti:iy}{g:p7}{tc:TB}{te:TD}
theorem rM{X:Cx}{Y:bP}(hh:S.nk=false)(ok:eG X G k S Y)(b:pX S scope N' caps)(hg:EG G k (aX S scope N') target g)(ht:Lx G k (aX S scope N') ifs tc)(he:ED G k (aX S scope N') elt te):
  ∀X',pZ X X' scope N'->PG X' target (lGe g)/\Ks X' ifs (lBe tc)/\PE X' elt (lDe te):=λX' c =>
 ⟨λpins s σ H v u Q I r ⟨Y',eA,q⟩=>hg X' Y' (nO hh ok b c Y' eA) pins s σ H v u Q I r q,λpins s σ H Q I ⟨Y',eA,q⟩=>ht X' Y' (nO hh ok b c Y' eA) pins s σ H Q I q,λpins s σ H Q I ⟨Y',eA,q⟩=>he X' Y' (nO hh ok b c Y' eA) pins s σ H Q I q⟩
theorem nN{Y:bP}{ios:List Nat}(eA:∀p∈Y.io,p.1∈ios){σ:St}{H:Hp}{Q:VK}(q:lX Y (dF ios caps ti g tc te) σ H Q):t9 (lI Y ti) caps (lGe g) (lBe tc) (lDe te) σ H Q:=by
 obtain⟨F,ai,Qd,R,q,K⟩:=q;refine⟨F,ai,_,R,q,λH1 F1 GC J items s1 R1 it q1 acc DT=>?_⟩;obtain⟨F2,ju,s2,R2,q2⟩:=fX eA R1 q1;have it2:=it.mono s2;have a0:Y.H0 acc=none:=(R2.bX DT).1;have aF:F2 acc=none:=same_none R2.fr DT;have aN:fB ju σ acc:=R2.eE DT;have sw:∀ {F5 H5:Hp} {o:HO},aw F5 H5->F5 acc=none->aw F5 (upd H5 acc o):=λ{F5 H5 o} s5 h b u e=>by
  have:b≠acc:=λz=>by rw[z,h]at e;cases e
  rw[aq this];exact s5 b u e
 refine⟨λi m ax H'=>∃Fi ds ys,aw F2 Fi/\RS Y Fi ju σ H'/\H' acc=some (.lst ys)/\aH Fi ys ds/\Fi acc=none/\RS ⟨H',Fi,[],[]⟩ Fi (jD caps ju) ax H'/\eN g tc te (jD caps ju) (items.drop i) ds (λds=>Qd (.own ds) ju)/\m=items.length-i/\i<=items.length,
  ⟨items.length,F2,[],[],aw.refl _,R2.other aF a0 aN,az,.nil,aF,Hb R2 caps (aw.refl _) (sw R2.fr aF),q2,rfl,Nat.zero_le _⟩,?_⟩
 rintro i m ax Hi ⟨Fi,ds,ys,si,Ri,yK,ri,fi,Rin,qi,rfl,hi⟩;have K2:=it2 Fi Hi si Ri.fr i
 by_cases hl:i<items.length
 ·right
  have hd:items.drop i=items[i]::items.drop (i+1):=by rw[List.drop_eq_getElem_cons hl]
  rw[hd]at qi;obtain⟨go,yl⟩:=K2.1 items[i] (by rw[List.getElem?_eq_getElem hl])
  refine⟨go,λv H' y=>?_⟩;obtain⟨F3,gr,rep⟩:=yl v H' y;have sF:aw Fi F3:=gr.same Ri.fr;have R3:=gr.rs Rin;have R3':RS ⟨H',F3,[],[]⟩ F3 (jD caps ju) ax H':=R3.less (oB _) (jf _ _) (fU _ _) R3.fr;have sH:aw Hi H':=by
   rcases gr with⟨_,rfl⟩|⟨p,o,hp,_,rfl⟩
   ·exact aw.refl _
   ·exact aM hp
  have ZH:∀c o,F3 c=some o->Fi c=some o\/Nw Hi c o:=λc o e=>by
   rcases gr with⟨rfl,_⟩|⟨p,o',hp,rfl,_⟩
   ·exact .inl e
   ·by_cases hc:c=p
    ·subst hc;exact .inr (.inl hp)
    ·rw[aq hc]at e;exact .inl e
  -- behind the turn
  have back:∀ {F5 H5:Hp} {JY:Sd} {σ5:St},aw F3 F5->RS ⟨H',F3,[],[]⟩ F5 JY σ5 H5->RS Y F5 ju σ H5/\H5 acc=some (.lst ys)/\F5 acc=none/\aw Fi F5:=λ{F5 H5 JY σ5} s5 R5=>by
   have s35:aw Hi H5:=sH.trans λb o e=>R5.old b o e (by simp [bP.D8])
   have N7:∀c o,F5 c=some o->Fi c=some o\/Nw Hi c o:=λc o e=>by
    rcases R5.fW c o e with z|z
    ·exact ZH c o z
    ·exact .inr (z.imp sH.free id)
   refine⟨Ri.call (sF.trans s5) R5.fr s35 N7,s35 _ _ yK,?_,sF.trans s5⟩;cases e:F5 acc with
   | none=>rfl
   | some o =>
    rcases N7 acc o e with z|z
    ·rw[fi]at z;cases z
    ·rcases z with z|⟨ws,rfl⟩
     ·rw[yK]at z;cases z
     ·have y:=R5.fr acc _ e;rw[s35 _ _ yK]at y;cases y
  refine⟨⟨H',F3,[],[]⟩,rfl,F3,_,items[i],_,R3',rep,qi,λUT H4 F4 uf s4 R4 q4=>?_⟩;refine⟨⟨H',F3,[],[]⟩,rfl,F4,uf,_,R4,q4,λb H5 F5 JY s5 R5 q5=>?_⟩;cases b with
  | false =>
   obtain⟨le,q5⟩:=q5;obtain⟨w1,w2,w3,w4⟩:=back (s4.trans s5) R5;exact⟨items.length-(i+1),by omega,F5,ds,ys,si.trans w4,w1,w2,ri.mono w4,w3,R5.less le (jf _ _) (fU _ _) R5.fr,q5,rfl,hl⟩
  | true =>
   refine⟨⟨H',F3,[],[]⟩,rfl,F5,JY,_,R5,q5,λv6 H6 F6 d abC s6 R6 r6 q6=>?_⟩;obtain⟨le,hz,q6⟩:=q6;obtain⟨w1,w2,w3,w4⟩:=back ((s4.trans s5).trans s6) R6;exact⟨ys,items.length-(i+1),w2,by rw[ri.length];exact hz,by omega,F6,ds++[d],ys++[v6],si.trans w4,w1.other w3 a0 aN,az,(ri.mono w4).append (.cons r6 .nil),w3,R6.less le (jf _ _) (fU _ _) (sw R6.fr w3),q6,rfl,hl⟩
 ·left
  have e:i=items.length:=by omega
  subst e;rw[List.drop_length]at qi;exact⟨K2.2 rfl,K _ Hi Fi (.own ds) ju ((s1.trans s2).trans si) Ri ⟨acc,ys,rfl,yK,ri,fi,a0,aN⟩ qi⟩
theorem lQ(hi:EI G k S target iter ti)(b:pX S scope N' caps)(hg:EG G k (aX S scope N') target g)(ht:Lx G k (aX S scope N') ifs tc)(he:ED G k (aX S scope N') elt te)(hs:∀env x,foldedSetIterable iter env x=pure x:=by intro _ _;rfl)(hh:S.nk=false:=by rfl):
  EX G k S (.ListComp elt [⟨target,iter,ifs,0⟩] scope pos) (dF S.ios caps ti g tc te):=.mk λX Y ok =>
 a7 (zj (ok.calm hh) (hi X Y ok) (b.sc ok) (rM hh ok b hg ht he) (hs _)) λσ H Q q=>nN ok.ios q
theorem jr(i:Nat){y:Str}{py A6:Pos}(hi:EI G k S target iter ti)(b:pX S scope N' caps)(hg:EG G k (aX S scope N') target g)(ht:Lx G k (aX S scope N') ifs tc)(he:ED G k (aX S scope N') elt te)
  (hy:S.N[i]?=some y:=by rfl) (hx:S.sc.lookup y=some .local\/(S.sc.lookup y=some .cell/\S.uk=false):=by first|exact Or.inl rfl|exact Or.inr ⟨rfl,rfl⟩) (hn:i∉S.ios:=by first|decide|exact List.not_mem_nil | (dsimp only;decide)) (hl:(py.line==pos.line)=true:=by rfl) (UD:(scope.names.any λ(n,k)=>n==y&&(k==.local||k==.cell))=false:=by decide +kernel)
  (hs:∀env x,foldedSetIterable iter env x=pure x:=by intro _ _;rfl) (hh:S.nk=false:=by rfl):ES G k S (.Assign [.Name y py] (.ListComp elt [⟨target,iter,ifs,0⟩] scope pos) A6) (d8 S.ios i (dF S.ios caps ti g tc te)):=.mk λX Y ok=>by
 have sw:swapsWith (.ListComp elt [⟨target,iter,ifs,0⟩] scope pos) (some (.Name y py)) A6.line X.env=pure (S.sc.lookup y==some .local):=by
  have e:swapsWith (.ListComp elt [⟨target,iter,ifs,0⟩] scope pos) (some (.Name y py)) A6.line X.env=pure (X.env.blockKind==.function&&X.env.kindOf y==some .local&&py.line==pos.line&&!(scope.names.any λ(n,k)=>n==y&&(k==.local||k==.cell))):=rfl
  have kb:X.env.blockKind=.function:=by unfold Env.blockKind;rw[ok.kind];rfl
  have kd:X.env.kindOf y=S.sc.lookup y:=by
   show X.env.scope.names.lookup y=_;rw[ok.sc]
  rw[e,kb,kd,hl,UD];simp
 have fin:∀Dn σ H,lS Y (d8 S.ios i (dF S.ios caps ti g tc te)) Dn σ H->Ts (t9 (lI Y ti) caps (lGe g) (lBe tc) (lDe te)) (vw i) Dn σ H:=λDn σ H q=>by
  obtain⟨F,ai,De,R,q,K⟩:=q;refine nN ok.ios ⟨F,ai,_,R,q,λv H1 F1 y ax s1 R1 r1 q1=>?_⟩;obtain⟨F2,aO,s2,R2,q2⟩:=qU R1 r1 hn ok.ios q1;exact K.nx _ H1 F2 aO (s1.trans s2) R2 q2
 rcases hx with hx|hx
 ·refine cR (Jc (i:=i) (ok.calm hh) (hi X Y ok) (b.sc ok) (rM hh ok b hg ht he) (hs _) (by rw[ok.N];exact ok.nd) (by rw[ok.N];exact hy) (by rw[ok.sc];exact hx) (by rw[sw,hx];rfl)) fin
 ·refine cR (L2.E4 (i:=i) (by rw[ok.N];exact ok.nd) (by rw[ok.N];exact hy) (sx ok (.inr hx)) (zj (ok.calm hh) (hi X Y ok) (b.sc ok) (rM hh ok b hg ht he) (hs _)) (by rw[sw,hx.1];rfl) (rW ok (.inr hx))) fin
end
end Vc
namespace Vc
open PySem L2
variable [KF]
section
variable {prog:Program}{w:World}{A:Around}{E:Value->Shared->Prop}{s:Shared}
theorem Dd{j t:Addr}{i:Nat}{xs:Array Value}{x:Value}{Q:Value->Shared->Prop}(hj:s.heap.IsTupleIter j t i)(ht:s.heap.IsTuple t xs)(hx:xs[i]?=some x)
  (q:∀g,g.IsTupleIter j t (i+1)->Heap.SameBut j s.heap g->Q x {s with heap:=g}):wpAny (model prog w) A (Builtin.SmallTypes.nextOf (.ref j)) Q E s:=by
 obtain⟨ob,h1,h2,h3⟩:=id hj;obtain⟨ot,h4,_,nt,h5⟩:=ht;unfold Builtin.SmallTypes.nextOf;refine wpAny_bind (wpAny_callSpecial?_slot (name:=Str.ofString "__next__") hj.typeIs F.slot_tuple_iterator_next (wpAny_call_entry F.slot_tuple_iterator_next hj.typeIs F.entry_tuple_iterator_next ?_ (F.args_tuple_iterator_next_1 _)));show wpAny _ _ (field (.ref j) 0 >>= _) _ _ s;refine wpAny_bind (wpAny_field h1 h3 (x:=.ref t) rfl ?_);show wpAny _ _ (if(Value.ref t==Value.none)=true then _ else _) _ _ s
 rw[if_neg (by intro z;exact absurd z Bool.false_ne_true)]
 show wpAny _ _ (field (.ref j) 1 >>= _) _ _ s;refine wpAny_bind (wpAny_field h1 h3 (x:=.int i 0) rfl ?_);show wpAny _ _ (seqItems? (.ref t) >>= _) _ _ s;refine wpAny_bind (wpAny_seqItems h4 h5 ?_);simp only[Int.toNat_natCast,hx];refine wpAny_bind (wpAny_setField h1 h3 (by simp) (wpAny_pure ⟨x,rfl,wpAny_pure (q _ ?_ (Heap.SameBut.update ..))⟩))
 refine⟨_,Heap.get?_update_self _ h1 (Obj.isFreed_of_fields (Obj.data_mapFields h3 _)),(Obj.cls_mapFields ..).trans h2,?_⟩;rw[Obj.data_mapFields h3];simp [rawInt]
theorem rQ{j t:Addr}{i:Nat}{xs:Array Value}{Q:Value->Shared->Prop}(hh:A.handled=none)(hj:s.heap.IsTupleIter j t i)(ht:s.heap.IsTuple t xs)(hx:xs[i]?=none)
  (q:∀g e,Heap.ExtBut j s.heap g->(∃o,g.get? e=some o/\o.cls=.type "StopIteration")->E (.ref e) {s with heap:=g}):wpAny (model prog w) A (Builtin.SmallTypes.nextOf (.ref j)) Q E s:=by
 obtain⟨ob,h1,h2,h3⟩:=id hj;obtain⟨ot,h4,_,nt,h5⟩:=ht;unfold Builtin.SmallTypes.nextOf;refine wpAny_bind (wpAny_callSpecial?_slot (name:=Str.ofString "__next__") hj.typeIs F.slot_tuple_iterator_next (wpAny_call_entry F.slot_tuple_iterator_next hj.typeIs F.entry_tuple_iterator_next ?_ (F.args_tuple_iterator_next_1 _)));show wpAny _ _ (field (.ref j) 0 >>= _) _ _ s;refine wpAny_bind (wpAny_field h1 h3 (x:=.ref t) rfl ?_);show wpAny _ _ (if(Value.ref t==Value.none)=true then _ else _) _ _ s
 rw[if_neg (by intro z;exact absurd z Bool.false_ne_true)]
 show wpAny _ _ (field (.ref j) 1 >>= _) _ _ s;refine wpAny_bind (wpAny_field h1 h3 (x:=.int i 0) rfl ?_);show wpAny _ _ (seqItems? (.ref t) >>= _) _ _ s;refine wpAny_bind (wpAny_seqItems h4 h5 ?_);simp only[Int.toNat_natCast,hx];refine wpAny_bind (wpAny_rule (wpAny_bind (wpAny_setField h1 h3 (by simp) ?_)))
 show wpAny _ _ (newExc (.type "StopIteration") [] >>= _) _ _ _;refine wpAny_bind ?_;simp only[newExc,newTuple];refine wpAny_bind (wpAny_newObj_type ?_ (by size_fits))
 refine wpAny_bind (m:=firstArgMember _ _) (wpAny_of_eq (a:=Value.none) (by first|rfl | (simp only[firstArgMember];rfl)) ?_)
 refine wpAny_newObj_type ?_ (by size_fits)
 simp only[raiseNew];refine wpAny_bind (wpAny_handled ?_)
 first|rw[show A.in1.handled=none from hh]|rw[hh]
 refine wpAny_bind (wpAny_pure (wpAny_throw ?_));exact q _ _ (((Heap.SameBut.update ..).extBut.push _).push _) ⟨_,Heap.get?_push_size _ rfl,rfl⟩
end
def pJ(tp:Bool)(h:Heap)(j a:Addr)(i:Nat):Prop:=if tp=true then h.IsTupleIter j a i else h.IsListIter j a i
def yo(tp:Bool)(h:Heap)(a:Addr)(xs:Array Value):Prop:=if tp=true then h.IsTuple a xs else h.IsList a xs
theorem pJ.live{tp:Bool}{h:Heap}{j a:Addr}{i:Nat}(q:pJ tp h j a i):∃o,h.get? j=some o/\∀v,o.data≠.cell v:=by
 cases tp with
 | true=>obtain⟨o,e,c,d⟩:=(show h.IsTupleIter j a i from q);exact⟨o,e,λv z=>by rw[d]at z;cases z⟩
 | false=>obtain⟨o,e,c,d⟩:=(show h.IsListIter j a i from q);exact⟨o,e,λv z=>by rw[d]at z;cases z⟩
theorem pJ.at{tp:Bool}{h h':Heap}{j a:Addr}{i:Nat}(q:pJ tp h j a i)(k:∀o,h.get? j=some o->h'.get? j=some o):pJ tp h' j a i:=by
 cases tp with
 | true=>obtain⟨o,e,r⟩:=(show h.IsTupleIter j a i from q);exact(show h'.IsTupleIter j a i from⟨o,k o e,r⟩)
 | false=>obtain⟨o,e,r⟩:=(show h.IsListIter j a i from q);exact(show h'.IsListIter j a i from⟨o,k o e,r⟩)
theorem yo.at{tp:Bool}{h h':Heap}{a:Addr}{xs:Array Value}(q:yo tp h a xs)(k:∀o,h.get? a=some o->h'.get? a=some o):yo tp h' a xs:=by
 cases tp with
 | true=>obtain⟨o,e,r⟩:=(show h.IsTuple a xs from q);exact(show h'.IsTuple a xs from⟨o,k o e,r⟩)
 | false=>obtain⟨o,e,r⟩:=(show h.IsList a xs from q);exact(show h'.IsList a xs from⟨o,k o e,r⟩)
section
variable {prog:Program}{w:World}{A:Around}{E:Value->Shared->Prop}{s:Shared}
theorem draw{tp:Bool}{j a:Addr}{i:Nat}{xs:Array Value}{x:Value}{Q:Value->Shared->Prop}(hj:pJ tp s.heap j a i)(ha:yo tp s.heap a xs)(hx:xs[i]?=some x)
  (q:∀g,pJ tp g j a (i+1)->Heap.SameBut j s.heap g->Q x {s with heap:=g}):wpAny (model prog w) A (Builtin.SmallTypes.nextOf (.ref j)) Q E s:=by
 cases tp with
 | true=>exact Dd hj ha hx q
 | false=>exact wpAny_nextOf_list_item hj ha hx q
theorem uR{tp:Bool}{j a:Addr}{i:Nat}{xs:Array Value}{Q:Value->Shared->Prop}(hh:A.handled=none)(hj:pJ tp s.heap j a i)(ha:yo tp s.heap a xs)(hx:xs[i]?=none)
  (q:∀g e,Heap.ExtBut j s.heap g->(∃o,g.get? e=some o/\o.cls=.type "StopIteration")->E (.ref e) {s with heap:=g}):wpAny (model prog w) A (Builtin.SmallTypes.nextOf (.ref j)) Q E s:=by
 cases tp with
 | true=>exact rQ hh hj ha hx q
 | false=>exact wpAny_nextOf_list_end hh hj ha hx q
structure ZA(z U V i j:Addr):Prop where
 uz:U≠z
 vz:V≠z
 iz:i≠z
 jz:j≠z
 uv:U≠V
 ui:U≠i
 uj:U≠j
 vi:V≠i
 vj:V≠j
 ij:i≠j
theorem JX{tp tq:Bool}{z U V i j l m:Addr}{n:Nat}{xs ys:Array Value}{x y a b:Value}{Q:Option Value->Shared->Prop}(D:ZA z U V i j)(lz:l≠z/\l≠V/\l≠i/\l≠j)(mz:m≠z/\m≠V/\m≠i/\m≠j)
  (hz:IsZip s.heap z U V .none) (hU:IsPair s.heap U (.ref i) (.ref j)) (hV:IsPair s.heap V a b) (h1:pJ tp s.heap i l n) (h2:pJ tq s.heap j m n) (hl:yo tp s.heap l xs) (hm:yo tq s.heap m ys) (hx:xs[n]?=some x) (hy:ys[n]?=some y)
  (q:∀g,IsZip g z U V (rawInt s.heap.objs.size)->IsPair g V x y->pJ tp g i l (n+1)->pJ tq g j m (n+1)->IsPair g s.heap.objs.size x y->g.objs.size=s.heap.objs.size+1 ->
   (∀c o,c≠z->c≠V->c≠i->c≠j->s.heap.get? c=some o->g.get? c=some o)->Q (some (.ref s.heap.objs.size)) {s with heap:=g}):wpAny (model prog w) A (pyNext (.ref z)) Q E s:=by
 have hT:s.TypeIs (.ref z) "zip":=⟨_,hz,rfl⟩;unfold pyNext;refine wpAny_bind (wpAny_attempt (wpAny_callSpecial?_slot (name:=Str.ofString "__next__") hT F.slot_zip_next (wpAny_call_entry F.slot_zip_next hT F.entry_zip_next ?_ (F.args_zip_next_1 _))));show wpAny _ _ (field (.ref z) 2 >>= _) _ _ _;refine wpAny_bind (wpAny_field hz rfl (x:=.bool false) rfl ?_);show wpAny _ _ (field (.ref z) 3 >>= _) _ _ _;refine wpAny_bind (wpAny_field hz rfl (x:=.ref U) rfl (wpAny_bind (wpAny_seqItems hU rfl ?_)));show wpAny _ _ (Builtin.SmallTypes.ownedTupleIsFree (.ref z) >>= _) _ _ _;refine wpAny_bind ?_;unfold Builtin.SmallTypes.ownedTupleIsFree;refine wpAny_bind (wpAny_field hz rfl (x:=.none) rfl (wpAny_pure ?_));simp only[if_true];refine wpAny_bind (wpAny_rule (wpAny_bind (wpAny_field hz rfl (x:=.ref V) rfl (wpAny_bind (wpAny_setField_rec hz (by simp) λg1 z1 e1=>?_)))))
 replace z1:IsZip g1 z U V .ellipsis:=z1
 refine wpAny_bind ?_;simp only[List.zipIdx_cons,List.zipIdx_nil,List.forIn_cons,List.forIn_nil];refine wpAny_bind (wpAny_bind (wpAny_onRaise ?_));show wpAny _ _ (Builtin.SmallTypes.nextOf (.ref i) >>= _) _ _ _;refine wpAny_bind (draw (s:={s with heap:=g1}) (h1.at λo e=>e1.extBut _ _ D.iz e) (hl.at λo e=>e1.extBut _ _ lz.1 e) hx λg2 w2 e2=>wpAny_pure ?_)
 have v2:IsPair g2 V a b:=e2.extBut _ _ D.vi (e1.extBut _ _ D.vz hV);refine wpAny_bind (wpAny_seqItems v2 rfl (wpAny_bind (wpAny_updateSeq_pair v2 λg3 v3 e3=>?_)))
 replace v3:IsPair g3 V x b:=v3
 refine wpAny_bind (wpAny_letGo (wpAny_pure (wpAny_bind (wpAny_bind (wpAny_onRaise ?_)))));show wpAny _ _ (Builtin.SmallTypes.nextOf (.ref j) >>= _) _ _ _;have to3:∀c o,c≠z->c≠i->c≠V->s.heap.get? c=some o->g3.get? c=some o:=λc o c1 c2 c3 e=>e3.extBut _ _ c3 (e2.extBut _ _ c2 (e1.extBut _ _ c1 e));refine wpAny_bind (draw (s:={s with heap:=g3}) (h2.at λo e=>to3 j o D.jz D.ij.symm D.vj.symm e) (hm.at λo e=>to3 m o mz.1 mz.2.2.1 mz.2.1 e) hy λg4 w4 e4=>wpAny_pure ?_)
 have v4:IsPair g4 V x b:=e4.extBut _ _ D.vj v3;refine wpAny_bind (wpAny_seqItems v4 rfl (wpAny_bind (wpAny_updateSeq_pair v4 λg5 v5 e5=>?_)))
 replace v5:IsPair g5 V x y:=v5
 refine wpAny_bind (wpAny_letGo (wpAny_pure (wpAny_pure (wpAny_bind (wpAny_seqItems v5 rfl (wpAny_bind (wpAny_newTuple ?_)))))));have sz:g5.objs.size=s.heap.objs.size:=by rw[e5.1,e4.1,e3.1,e2.1,e1.1]
 have z5:IsZip g5 z U V .ellipsis:=e5.extBut _ _ D.vz.symm (e4.extBut _ _ D.jz.symm (e3.extBut _ _ D.vz.symm (e2.extBut _ _ D.iz.symm z1)));have k5:∀c o,c≠z->c≠V->c≠i->c≠j->s.heap.get? c=some o->g5.get? c=some o:=λc o c1 c2 c3 c4 e=>e5.extBut _ _ c2 (e4.extBut _ _ c4 (to3 c o c1 c3 c2 e));have i5:pJ tp g5 i l (n+1):=w2.at λo e=>e5.extBut _ _ D.vi.symm (e4.extBut _ _ D.ij (e3.extBut _ _ D.vi.symm e));have j5:pJ tq g5 j m (n+1):=w4.at λo e=>e5.extBut _ _ D.vj.symm e;have zlt:z<g5.objs.size:=Heap.lt_size z5;show wpAny _ _ (Builtin.SmallTypes.ownedTupleHandOut (.ref z) (.ref g5.objs.size) >>= _) _ _ _;refine wpAny_bind ?_;unfold Builtin.SmallTypes.ownedTupleHandOut;have z6:IsZip (g5.push {cls:=.type "tuple",data:=.seq #[x,y]}) z U V .ellipsis:=Heap.get?_push_of_some _ z5;refine wpAny_bind (wpAny_setField_rec z6 (by simp) λg7 z7 e7=>?_)
 replace z7:IsZip g7 z U V (rawInt g5.objs.size):=z7
 refine wpAny_setField_rec z7 (by simp) λg8 z8 e8=>?_
 replace z8:IsZip g8 z U V (rawInt g5.objs.size):=z8
 have up:∀c o,c≠z->g5.get? c=some o->g8.get? c=some o:=λc o c1 e=>e8.extBut _ _ c1 (e7.extBut _ _ c1 (Heap.get?_push_of_some _ e));have t8:IsPair g8 g5.objs.size x y:=e8.extBut _ _ (Nat.ne_of_gt zlt) (e7.extBut _ _ (Nat.ne_of_gt zlt) (Heap.get?_push_size _ rfl));have s8:g8.objs.size=g5.objs.size+1:=by rw[e8.1,e7.1,Heap.size_push]
 rw[sz]at z8 t8 s8;refine wpAny_pure ⟨_,rfl,wpAny_pure ?_⟩;show Q (some (.ref g5.objs.size)) _;rw[sz];exact q g8 z8 (up _ _ D.vz v5) (i5.at λo e=>up _ o D.iz e) (j5.at λo e=>up _ o D.jz e) t8 s8 λc o c1 c2 c3 c4 e=>up c o c1 (k5 c o c1 c2 c3 c4 e)
end
end Vc
namespace Vc
open PySem L2
variable [KF]
abbrev itN(tp:Bool):String:=if tp=true then "tuple_iterator" else "list_iterator"
abbrev zA(tp:Bool)(h:Heap)(l:Addr):Heap:=h.push {cls:=.type (itN tp),data:=.fields #[.ref l,.int 0 0]}
abbrev zB(tp tq:Bool)(h:Heap)(l m:Addr):Heap:=zA tq (zA tp h l) m
abbrev zC(tp tq:Bool)(h:Heap)(l m:Addr):Heap:=(zB tp tq h l m).push {cls:=.type "tuple",data:=.seq #[.ref h.objs.size,.ref (zA tp h l).objs.size]}
abbrev zD(tp tq:Bool)(h:Heap)(l m:Addr):Heap:=(zC tp tq h l m).push {cls:=.type "tuple",data:=.seq #[.none,.none]}
abbrev zE(tp tq:Bool)(h:Heap)(l m:Addr):Heap:=(zD tp tq h l m).push {cls:=.type "zip",data:=.fields #[.none,.bool false,.bool false,.ref (zB tp tq h l m).objs.size,.ref (zC tp tq h l m).objs.size]}
set_option maxHeartbeats 4000000 in
theorem GA(tp tq:Bool)(l m:Addr)(xs ys:Array Value):
  Meets (Builtin.«zip.__new__» ⟨[.type "zip",.ref l,.ref m],[]⟩) (λ_ R s=>yo tp s.heap l xs/\yo tq s.heap m ys/\R (.ok (.ret (.ref (zD tp tq s.heap l m).objs.size))) {s with heap:=zE tp tq s.heap l m}):=
 .of_wp λprog w A R s h=>by
  obtain⟨hp,g,d,tk,os⟩:=s;obtain⟨hl,hm,h⟩:=h;have sub:=sub_zip;cases tp with
  | true =>
   have L1:Heap.IsTuple (Shared.heap ⟨hp,g,d,tk,os⟩) l xs:=hl;cases tq with
   | true =>
    have L2:Heap.IsTuple (Shared.heap ⟨hp.push {cls:=.type "tuple_iterator",data:=.fields #[.ref l,.int 0 0]},g,d,tk,os⟩) m ys:=by
     obtain⟨o,e,r⟩:=(show hp.IsTuple m ys from hm);exact⟨o,Heap.get?_push_of_some _ e,r⟩
    wp_walk using wpAny_pyIter_tuple L1,wpAny_pyIter_tuple L2
    exact⟨_,rfl,h⟩
   | false =>
    have L2:Heap.IsList (Shared.heap ⟨hp.push {cls:=.type "tuple_iterator",data:=.fields #[.ref l,.int 0 0]},g,d,tk,os⟩) m ys:=by
     obtain⟨o,e,r⟩:=(show hp.IsList m ys from hm);exact⟨o,Heap.get?_push_of_some _ e,r⟩
    wp_walk using wpAny_pyIter_tuple L1,wpAny_pyIter_list L2
    exact⟨_,rfl,h⟩
  | false =>
   have L1:Heap.IsList (Shared.heap ⟨hp,g,d,tk,os⟩) l xs:=hl;cases tq with
   | true =>
    have L2:Heap.IsTuple (Shared.heap ⟨hp.push {cls:=.type "list_iterator",data:=.fields #[.ref l,.int 0 0]},g,d,tk,os⟩) m ys:=by
     obtain⟨o,e,r⟩:=(show hp.IsTuple m ys from hm);exact⟨o,Heap.get?_push_of_some _ e,r⟩
    wp_walk using wpAny_pyIter_list L1,wpAny_pyIter_tuple L2
    exact⟨_,rfl,h⟩
   | false =>
    have L2:Heap.IsList (Shared.heap ⟨hp.push {cls:=.type "list_iterator",data:=.fields #[.ref l,.int 0 0]},g,d,tk,os⟩) m ys:=by
     obtain⟨o,e,r⟩:=(show hp.IsList m ys from hm);exact⟨o,Heap.get?_push_of_some _ e,r⟩
    wp_walk using wpAny_pyIter_list L1,wpAny_pyIter_list L2
    exact⟨_,rfl,h⟩
theorem zP{tp:Bool}{h:Heap}{j a:Addr}(e:h.get? j=some {cls:=.type (itN tp),data:=.fields #[.ref a,.int 0 0]}):pJ tp h j a 0:=by
 cases tp with
 | true=>exact⟨_,e,rfl,rfl⟩
 | false=>exact⟨_,e,rfl,rfl⟩
section
variable {prog:Program}{w:World}{A:Around}{E:Value->Shared->Prop}{s:Shared}
theorem Gz{tp tq:Bool}{l m:Addr}{xs ys:Array Value}{Q:Value->Shared->Prop}(hl:yo tp s.heap l xs)(hm:yo tq s.heap m ys)
  (q:∀g,IsZip g (s.heap.objs.size+4) (s.heap.objs.size+2) (s.heap.objs.size+3) .none->IsPair g (s.heap.objs.size+2) (.ref s.heap.objs.size) (.ref (s.heap.objs.size+1))->IsPair g (s.heap.objs.size+3) .none .none ->
   pJ tp g s.heap.objs.size l 0->pJ tq g (s.heap.objs.size+1) m 0->(∀c o,s.heap.get? c=some o->g.get? c=some o)->Q (.ref (s.heap.objs.size+4)) {s with heap:=g}):
  wpAny (model prog w) A (call (.type "zip") [.ref l,.ref m]) Q E s:=by
 refine callType_new F.called_zip ∅ (F.typeCall_zip_2 _ _) (F.newCall_zip_2 _ _) (λob=>F.args_object_init_3 ob _ _) F.entry_zip_new (GA tp tq l m xs ys) ⟨hl,hm,?_⟩
 have n1:(zA tp s.heap l).objs.size=s.heap.objs.size+1:=Heap.size_push ..;have n2:(zB tp tq s.heap l m).objs.size=s.heap.objs.size+2:=by rw[Heap.size_push,n1]
 have n3:(zC tp tq s.heap l m).objs.size=s.heap.objs.size+3:=by rw[Heap.size_push,n2]
 have n4:(zD tp tq s.heap l m).objs.size=s.heap.objs.size+4:=by rw[Heap.size_push,n3]
 have p5:(zE tp tq s.heap l m).get? (zD tp tq s.heap l m).objs.size=some _:=Heap.get?_push_size _ rfl;have p4:(zE tp tq s.heap l m).get? (zC tp tq s.heap l m).objs.size=some _:=Heap.get?_push_of_some _ (Heap.get?_push_size _ rfl);have p3:(zE tp tq s.heap l m).get? (zB tp tq s.heap l m).objs.size=some _:=Heap.get?_push_of_some _ (Heap.get?_push_of_some _ (Heap.get?_push_size _ rfl));have p2:(zE tp tq s.heap l m).get? (zA tp s.heap l).objs.size=some _:=Heap.get?_push_of_some _ (Heap.get?_push_of_some _ (Heap.get?_push_of_some _ (Heap.get?_push_size _ rfl)));have p1:(zE tp tq s.heap l m).get? s.heap.objs.size=some _:=Heap.get?_push_of_some _ (Heap.get?_push_of_some _ (Heap.get?_push_of_some _ (Heap.get?_push_of_some _ (Heap.get?_push_size _ rfl))));show _/\_;rw[n2,n3,n4]at p5;rw[n1,n2]at p3;rw[n3]at p4;rw[n1]at p2;rw[n4];refine⟨⟨_,p5,rfl⟩,q _ p5 p3 p4 (zP p1) (zP p2) λc o x=>?_⟩;exact Heap.get?_push_of_some _ (Heap.get?_push_of_some _ (Heap.get?_push_of_some _ (Heap.get?_push_of_some _ (Heap.get?_push_of_some _ x))))
theorem GB{tp tq:Bool}{z U V i j l m:Addr}{n:Nat}{xs ys:Array Value}{a b:Value}{Q:Option Value->Shared->Prop}(hh:A.handled=none)(D:ZA z U V i j)(lz:l≠z/\l≠V/\l≠i/\l≠j)(mz:m≠z/\m≠V/\m≠i/\m≠j)
  (hz:IsZip s.heap z U V .none) (hU:IsPair s.heap U (.ref i) (.ref j)) (hV:IsPair s.heap V a b) (h1:pJ tp s.heap i l n) (h2:pJ tq s.heap j m n) (hl:yo tp s.heap l xs) (hm:yo tq s.heap m ys) (DW:xs[n]?=none\/ys[n]?=none)
  (q:∀g,(∀c o,c≠z->c≠V->c≠i->c≠j->s.heap.get? c=some o->g.get? c=some o)->Q none {s with heap:=g}):wpAny (model prog w) A (pyNext (.ref z)) Q E s:=by
 have hT:s.TypeIs (.ref z) "zip":=⟨_,hz,rfl⟩;unfold pyNext;refine wpAny_bind (wpAny_attempt (wpAny_callSpecial?_slot (name:=Str.ofString "__next__") hT F.slot_zip_next (wpAny_call_entry F.slot_zip_next hT F.entry_zip_next ?_ (F.args_zip_next_1 _))));show wpAny _ _ (field (.ref z) 2 >>= _) _ _ _;refine wpAny_bind (wpAny_field hz rfl (x:=.bool false) rfl ?_);show wpAny _ _ (field (.ref z) 3 >>= _) _ _ _;refine wpAny_bind (wpAny_field hz rfl (x:=.ref U) rfl (wpAny_bind (wpAny_seqItems hU rfl ?_)));show wpAny _ _ (Builtin.SmallTypes.ownedTupleIsFree (.ref z) >>= _) _ _ _;refine wpAny_bind ?_;unfold Builtin.SmallTypes.ownedTupleIsFree;refine wpAny_bind (wpAny_field hz rfl (x:=.none) rfl (wpAny_pure ?_));simp only[if_true];refine wpAny_bind (wpAny_rule (wpAny_bind (wpAny_field hz rfl (x:=.ref V) rfl (wpAny_bind (wpAny_setField_rec hz (by simp) λg1 z1 e1=>?_)))))
 replace z1:IsZip g1 z U V .ellipsis:=z1
 refine wpAny_bind ?_;simp only[List.zipIdx_cons,List.zipIdx_nil,List.forIn_cons,List.forIn_nil];refine wpAny_bind (wpAny_bind (wpAny_onRaise ?_));show wpAny _ _ (Builtin.SmallTypes.nextOf (.ref i) >>= _) _ _ _;cases hx:xs[n]? with
 | none =>
  refine wpAny_bind (uR (s:={s with heap:=g1}) hh (h1.at λo e=>e1.extBut _ _ D.iz e) (hl.at λo e=>e1.extBut _ _ lz.1 e) hx λg2 e x2 he=>?_)
  obtain⟨oe,Oi,WU⟩:=he;have z2:IsZip g2 z U V .ellipsis:=x2 _ _ D.iz.symm z1;have ez:e≠z:=λx=>by subst x;rw[z2]at Oi;cases Oi;simp at WU
  refine wpAny_setField_rec z2 (by simp) λg3 _ e3=>?_
  refine wpAny_bind (wpAny_isInstance (T:="StopIteration") (b:=true) ⟨oe,e3.extBut _ _ ez Oi,WU⟩ isSubtype_stop (wpAny_pure (q _ λc o c1 _ c3 _ x=>?_)));exact e3.extBut _ _ c1 (x2 _ _ c3 (e1.extBut _ _ c1 x))
 | some x =>
  have hy:ys[n]?=none:=by
   rcases DW with h|h
   ·rw[hx]at h;cases h
   ·exact h
  refine wpAny_bind (draw (s:={s with heap:=g1}) (h1.at λo e=>e1.extBut _ _ D.iz e) (hl.at λo e=>e1.extBut _ _ lz.1 e) hx λg2 w2 e2=>wpAny_pure ?_)
  have v2:IsPair g2 V a b:=e2.extBut _ _ D.vi (e1.extBut _ _ D.vz hV);refine wpAny_bind (wpAny_seqItems v2 rfl (wpAny_bind (wpAny_updateSeq_pair v2 λg3 v3 e3=>?_)));refine wpAny_bind (wpAny_letGo (wpAny_pure (wpAny_bind (wpAny_bind (wpAny_onRaise ?_)))));show wpAny _ _ (Builtin.SmallTypes.nextOf (.ref j) >>= _) _ _ _;have to3:∀c o,c≠z->c≠i->c≠V->s.heap.get? c=some o->g3.get? c=some o:=λc o c1 c2 c3 e=>e3.extBut _ _ c3 (e2.extBut _ _ c2 (e1.extBut _ _ c1 e));refine wpAny_bind (uR (s:={s with heap:=g3}) hh (h2.at λo e=>to3 j o D.jz D.ij.symm D.vj.symm e) (hm.at λo e=>to3 m o mz.1 mz.2.2.1 mz.2.1 e) hy λg4 e x4 he=>?_)
  obtain⟨oe,Oi,WU⟩:=he;have z4:IsZip g4 z U V .ellipsis:=x4 _ _ D.jz.symm (e3.extBut _ _ D.vz.symm (e2.extBut _ _ D.iz.symm z1));have ez:e≠z:=λx=>by subst x;rw[z4]at Oi;cases Oi;simp at WU
  refine wpAny_setField_rec z4 (by simp) λg5 _ e5=>?_
  refine wpAny_bind (wpAny_isInstance (T:="StopIteration") (b:=true) ⟨oe,e5.extBut _ _ ez Oi,WU⟩ isSubtype_stop (wpAny_pure (q _ λc o c1 c2 c3 c4 x=>?_)));exact e5.extBut _ _ c1 (x4 _ _ c4 (to3 c o c1 c3 c2 x))
end
end Vc
namespace Vc
open PySem L2
variable [KF]
section
variable {X:Cx}{pins:List (Addr×Obj)}{σ:St}{H:Hp}{s:Shared}
theorem JF(I:L2.Inv X pins σ H s){ch:List Addr}(hf:∀b∈ch,iQ X pins H b){h':Heap}{t':Nat}(kp:∀b o,b∉ch->s.heap.get? b=some o->h'.get? b=some o){T:Addr}{o:HO}(hT:s.heap.objs.size<=T)(new:bW X.prog X.w (upd H T o) h' T o):
  L2.Inv X pins σ (upd H T o) {s with heap:=h',toks:=t'}:=by
 have Ej:∀ {b u},s.heap.get? b=some u->b≠T:=λe=>Nat.ne_of_lt (Nat.lt_of_lt_of_le (Heap.lt_size e) hT);have UQ:∀ {b u},H b=some u->b≠T:=λe=>Nat.ne_of_lt (Nat.lt_of_lt_of_le (I.bw.lt e) hT);have En:∀ {b u},H b=some u->b∉ch:=λ{b u} e z=>by rw[(hf b z).1]at e;cases e
 refine I.step (g':=s.gens) (d':=s.drawn) (ch:=ch) (λb hb=>?_) (λb u _ _ hc e _=>kp b u hc e) (λb u _ _ hc e _=>⟨u.slots,kp b u hc e⟩) (λb u hc e n=>by rw[aq (Ej e)];exact n) (λb u hc e=>⟨u,kp b u hc e⟩)
  (λb xs e=>by rw[aq (UQ e)];exact e) (λb u w e=>by rw[aq (UQ e)];exact e) (λb ps e=>⟨#[],by rw[aq (UQ e),e];simp⟩) (λm hm=>?_) (λb u e=>?_) I.bare
 ·obtain⟨f0,f1,f2,f3,f4,f5⟩:=hf b hb
  exact⟨f3.imp id λz=>Heap.get?_none_of_le z,f1,f4,f5⟩
 ·obtain⟨ob,es,ep,ho,r⟩:=hm
  refine⟨ob,es,ep,kp _ ob (λz=>?_) ho,r⟩;exact(hf _ z).2.1 rfl
 ·by_cases hb:b=T
  ·subst hb;rw[az]at e;cases e;exact new
  ·rw[aq hb]at e
   refine(I.bw b u e).pD (λc v hc q=>?_) (λc q=>by rw[aq (UQ q)];exact q) (λc xs q=>by rw[aq (UQ q)];exact q) λc o u q=>by rw[aq (UQ q)];exact q
   rcases hc with z|z
   ·subst z;exact kp _ v (En e) q
   ·exact kp _ v (En z) q
theorem JE(I:L2.Inv X pins σ H s){ch:List Addr}(hf:∀b∈ch,iQ X pins H b){h':Heap}{t':Nat}(kp:∀b o,b∉ch->s.heap.get? b=some o->h'.get? b=some o):L2.Inv X pins σ H {s with heap:=h',toks:=t'}:=by
 have En:∀ {b u},H b=some u->b∉ch:=λ{b u} e z=>by rw[(hf b z).1]at e;cases e
 refine I.step (g':=s.gens) (d':=s.drawn) (ch:=ch) (λb hb=>?_) (λb u _ _ hc e _=>kp b u hc e) (λb u _ _ hc e _=>⟨u.slots,kp b u hc e⟩) (λb u hc e n=>n) (λb u hc e=>⟨u,kp b u hc e⟩)
  (λb xs e=>e) (λb u w e=>e) (λb ps e=>⟨#[],by rw[e];simp⟩) (λm hm=>?_) (λb u e=>?_) I.bare
 ·obtain⟨f0,f1,f2,f3,f4,f5⟩:=hf b hb
  exact⟨f3.imp id λz=>Heap.get?_none_of_le z,f1,f4,f5⟩
 ·obtain⟨ob,es,ep,ho,r⟩:=hm
  refine⟨ob,es,ep,kp _ ob (λz=>?_) ho,r⟩;exact(hf _ z).2.1 rfl
 ·refine(I.bw b u e).pD (λc v hc q=>?_) (λc q=>q) λc xs q=>q
  rcases hc with z|z
  ·subst z;exact kp _ v (En e) q
  ·exact kp _ v (En z) q
end
def Sq(tp:Bool)(K:PySem.W.Frag)(H:Hp)(a:Addr)(xs:List V):Prop:=if tp=true then kW K H a xs else gE K H a xs
theorem Sq.is{tp:Bool}{X:Cx}{pins:List (Addr×Obj)}{σ:St}{H:Hp}{s:Shared}{a:Addr}{xs:List V}(I:L2.Inv X pins σ H s)(h:Sq tp X.K H a xs):∃its:List Value,Vals xs its/\yo tp s.heap a its.toArray/\a<s.heap.objs.size:=by
 cases tp with
 | true =>
  obtain⟨its,r,p,_⟩:=I.tuple (show kW X.K H a xs from h)
  exact⟨its,r,p,by obtain⟨o,e,_⟩:=p;exact Heap.lt_size e⟩
 | false =>
  obtain⟨its,r,p,_⟩:=I.list (show gE X.K H a xs from h)
  exact⟨its,r,p.isList,p.lt⟩
theorem Sq.inj{tp:Bool}{X:Cx}{pins:List (Addr×Obj)}{σ:St}{H:Hp}{s:Shared}{a:Addr}{xs ys:List V}(I:L2.Inv X pins σ H s)(h:Sq tp X.K H a xs)(h':Sq tp X.K H a ys):xs=ys:=by
 cases tp with
 | true=>exact I.qY h h'
 | false=>exact I.vF h h'
def Itz(tp tq:Bool)(K:PySem.W.Frag)(l m:Addr):It:=
  ⟨λn H=>∃xs ys x y,Sq tp K H l xs/\Sq tq K H m ys/\xs[n]?=some x/\ys[n]?=some y,
   λn H v H'=>∃p x y,H p=none/\v=.ref p/\H'=upd H p (.tup [x,y])/\(∀xs,Sq tp K H l xs->xs[n]?=some x)/\∀ys,Sq tq K H m ys->ys[n]?=some y,
   λn H=>∃xs ys,Sq tp K H l xs/\Sq tq K H m ys/\(xs.length<=n\/ys.length<=n)⟩
theorem Gj{P:Program}{w:World}{K:PySem.W.Frag}{elts:List Expr}{kk:Nat}{yh:Pos}(tp tq:Bool)(z U V i j l m:Addr)(D:ZA z U V i j)(lz:l≠z/\l≠V/\l≠i/\l≠j)(mz:m≠z/\m≠V/\m≠i/\m≠j):
  Turn P w K (.Tuple elts kk yh) (Itz tp tq K l m) [z,U,V,i,j] z (λn h=>IsZip h z U V .none/\IsPair h U (.ref i) (.ref j)/\(∃a b,IsPair h V a b)/\pJ tp h i l n/\pJ tq h j m n) where
 mem:=by simp
 obj:=λn h st b hb=>by
  obtain⟨h1,h2,⟨a,c,h3⟩,h4,h5⟩:=st;simp only[List.mem_cons,List.not_mem_nil,or_false]at hb;rcases hb with rfl|rfl|rfl|rfl|rfl
  ·exact⟨_,h1,λv q=>by cases q⟩
  ·exact⟨_,h2,λv q=>by cases q⟩
  ·exact⟨_,h3,λv q=>by cases q⟩
  ·exact h4.live
  ·exact h5.live
 keep:=λn h h' st kp=>by
  obtain⟨h1,h2,⟨a,c,h3⟩,h4,h5⟩:=st;exact⟨kp z (by simp) _ h1,kp U (by simp) _ h2,⟨a,c,kp V (by simp) _ h3⟩,h4.at λo e=>kp i (by simp) o e,h5.at λo e=>kp j (by simp) o e⟩
 item:=by
  intro X hP hw hK hc n pins s σ H E I hf st hg;subst hP hw hK;obtain⟨h1,h2,⟨a,c,h3⟩,h4,h5⟩:=st;obtain⟨xs,ys,x,y,q1,q2,e1,e2⟩:=hg;obtain⟨its,r1,p1,_⟩:=q1.is I;obtain⟨jts,r2,p2,_⟩:=q2.is I;obtain⟨u,hu,ru⟩:=r1.get e1;obtain⟨v,hv,rv⟩:=r2.get e2;refine JX D lz mz h1 h2 h3 h4 h5 p1 p2 (x:=u) (y:=v) (by simpa using hu) (by simpa using hv) λg z1 v1 i1 j1 t1 s1 k1=>⟨_,rfl,?_⟩
  refine wpAny_letOwnedTupleGo_zip z1 λg' z2 Hs=>?_;have kp:∀b o,b∉[z,V,i,j]->s.heap.get? b=some o->g'.get? b=some o:=λb o hb e=>by
   simp only[List.mem_cons,List.not_mem_nil,or_false,not_or]at hb;exact Hs.extBut _ _ hb.1 (k1 b o hb.1 hb.2.1 hb.2.2.1 hb.2.2.2 e)
  have zT:s.heap.objs.size≠z:=Nat.ne_of_gt (Heap.lt_size h1);have hf':∀b∈[z,V,i,j],iQ X pins H b:=λb hb=>hf b (by
   simp only[List.mem_cons,List.not_mem_nil,or_false]at hb ⊢;rcases hb with e|e|e|e<;>simp [e])
  have t2:IsPair g' s.heap.objs.size u v:=Hs.extBut _ _ zT t1;have I':=JF (t':=s.toks) (o:=.tup [x,y]) I hf' kp (Nat.le_refl _) ⟨by show 2<=sizeLine;decide,[u,v],.cons ru (.cons rv .nil),⟨_,t2,rfl,_,rfl⟩⟩
  have DZ:H s.heap.objs.size=none:=I.bw.fresh (Nat.le_refl _);refine⟨.ref s.heap.objs.size,upd H s.heap.objs.size (.tup [x,y]),I',rfl,⟨_,x,y,DZ,rfl,rfl,λzs hz=>by rw[hz.inj I q1];exact e1,λzs hz=>by rw[hz.inj I q2];exact e2⟩,⟨z2,Hs.extBut _ _ D.uz (k1 _ _ D.uz D.uv D.ui D.uj h2),⟨u,v,Hs.extBut _ _ D.vz v1⟩,i1.at λo e=>Hs.extBut _ _ D.iz e,j1.at λo e=>Hs.extBut _ _ D.jz e⟩,λb hb=>?_⟩
  have KP:=(hf b hb).1;have:b≠s.heap.objs.size:=by
   obtain⟨o,e,_⟩:∃o,s.heap.get? b=some o/\True:=by
    simp only[List.mem_cons,List.not_mem_nil,or_false]at hb;rcases hb with rfl|rfl|rfl|rfl|rfl
    ·exact⟨_,h1,trivial⟩
    ·exact⟨_,h2,trivial⟩
    ·exact⟨_,h3,trivial⟩
    ·obtain⟨o,e,_⟩:=h4.live;exact⟨o,e,trivial⟩
    ·obtain⟨o,e,_⟩:=h5.live;exact⟨o,e,trivial⟩
   exact Nat.ne_of_lt (Heap.lt_size e)
  rw[aq this];exact KP
 done:=by
  intro X hP hw hK hc n pins s σ H E I hf st hg;subst hP hw hK;obtain⟨h1,h2,⟨a,c,h3⟩,h4,h5⟩:=st;obtain⟨xs,ys,q1,q2,hl⟩:=hg;obtain⟨its,r1,p1,_⟩:=q1.is I;obtain⟨jts,r2,p2,_⟩:=q2.is I;have n1:=r1.length;have n2:=r2.length;refine GB (I.ok.hd hc) D lz mz h1 h2 h3 h4 h5 p1 p2 (hl.imp (λq=>by simp;omega) λq=>by simp;omega) λg k1=>⟨rfl,?_⟩
  refine JE (t':=s.toks) (ch:=[z,V,i,j]) I (λb hb=>hf b ?_) λb o hb e=>?_
  ·simp only[List.mem_cons,List.not_mem_nil,or_false]at hb ⊢
   rcases hb with e|e|e|e<;>simp [e]
  ·simp only[List.mem_cons,List.not_mem_nil,or_false,not_or]at hb
   exact k1 b o hb.1 hb.2.1 hb.2.2.1 hb.2.2.2 e
 self:=λ_ _ _ _ _ st h=>wpAny_pyIter_zip st.1 h
theorem JW(n:Nat):ZA (n+4) (n+2) (n+3) n (n+1):=
  ⟨show(n+2:Nat)≠n+4 by omega,show(n+3:Nat)≠n+4 by omega,show(n:Nat)≠n+4 by omega,show(n+1:Nat)≠n+4 by omega,show(n+2:Nat)≠n+3 by omega,
   show(n+2:Nat)≠n by omega,show(n+2:Nat)≠n+1 by omega,show(n+3:Nat)≠n by omega,show(n+3:Nat)≠n+1 by omega,show(n:Nat)≠n+1 by omega⟩
theorem p8{l n:Nat}(h:l<n):l≠n+4/\l≠n+3/\l≠n/\l≠n+1:=by omega
def aaP(K:PySem.W.Frag)(ta:TA):TI:=λσ H R=>ta σ H λvs H1=>∃tp tq l m xs ys,vs=[.ref l,.ref m]/\Sq tp K H1 l xs/\Sq tq K H1 m ys/\R (Itz tp tq K l m) H1
theorem Rm{X:Cx}{elts:List Expr}{kk:Nat}{yh:Pos}{a b:Expr}{ta:TA}{p pos:Pos}(hg:Gl X "zip")(hm:X.mg "zip"=none)(ha:PA X [a,b] ta)(hs:starEach [a,b] X.env=[(false,eval a X.env),(false,eval b X.env)])(Bk:starEach [b] X.env=[(false,eval b X.env)]):
  PI X (.Tuple elts kk yh) (.Call (.Name "zip" p) [a,b] [] pos) (aaP X.K ta):=by
 intro pins s σ H R I h;refine PyProof.Rows.Call_ (jo I hg hm PyProof.Rows.boot_zip (PyProof.Rows.callWith_type1 (cE (ha pos pins s σ H _ I h) λus s1 ⟨vs,H1,I1,r1,q1⟩=>?_) (by rw[hs,Bk]) (by rw[Bk];rfl)))
 obtain⟨tp,tq,l,m,xs,ys,e,q1,q2,q⟩:=q1;subst e;obtain⟨u,v,rfl,ru,rv⟩:=vals2 r1;cases ru;cases rv;obtain⟨its,_,p1,ll⟩:=q1.is I1;obtain⟨jts,_,p2,lm⟩:=q2.is I1;refine Gz p1 p2 λg z1 u1 v1 i1 j1 k1=>?_;refine wpAny_pyIter_zip z1 ?_;have N:∀n:Nat,s1.heap.objs.size<=s1.heap.objs.size+n:=λn=>Nat.le_add_right _ _;refine⟨s1.heap.objs.size+4,[s1.heap.objs.size+4,s1.heap.objs.size+2,s1.heap.objs.size+3,s1.heap.objs.size,s1.heap.objs.size+1],_,_,H1,rfl,I1.kept (t':=s1.toks) k1,
  Gj tp tq _ _ _ _ _ l m (JW _) (p8 ll) (p8 lm),⟨z1,u1,⟨_,_,v1⟩,i1,j1⟩,λb hb=>?_,q⟩
 have KP:s1.heap.objs.size<=b:=by
  simp only[List.mem_cons,List.not_mem_nil,or_false]at hb;rcases hb with rfl|rfl|rfl|rfl|rfl
  ·exact N 4
  ·exact N 2
  ·exact N 3
  ·exact N 0
  ·exact N 1
 exact I1.Dy KP (I1.bw.fresh KP)
end Vc
namespace Vc
open PySem L2
variable [KF]
variable {G:GE}{k:Nat}{S:Stat}
def Z7:D->Option (List D)
 | .lst xs=>some xs
 | .tup xs=>some xs
 | _=>none
def wK(xs ys:List D):List D:=(xs.zip ys).map λp=>.tup [p.1,p.2]
def TN(t:iy):iy:=λσ Q=>t σ λds ax=>match ds with
 | [a,b]=>match Z7 a,Z7 b with
  | some xs,some ys=>Q (wK xs ys) ax
  | _,_=>False
 | _=>False
theorem Rep.sq{F:Hp}{v:V}{d:D}{xs:List D}(r:Rep F v d)(e:Z7 d=some xs)(K:PySem.W.Frag):∃tp a vs,v=.ref a/\(∀H,aw F H->Sq tp K H a vs)/\aH F vs xs:=by
 cases d with
 | lst ys =>
  cases e;cases r with
  | lst h r=>exact⟨false,_,_,rfl,λH s=>(show gE K H _ _ from .inl (Rd.mono s h)),r⟩
 | tup ys =>
  cases e;cases r with
  | tup h r=>exact⟨true,_,_,rfl,λH s=>(show kW K H _ _ from .of (s _ _ h)),r⟩
 | _=>cases e
theorem Gx{xs ys:List D}{i:Nat}{d:D}(h:(wK xs ys)[i]?=some d):∃x y,xs[i]?=some x/\ys[i]?=some y/\d=.tup [x,y]:=by
 unfold wK at h;rw[List.getElem?_map]at h;cases e:(xs.zip ys)[i]? with
 | none=>rw[e]at h;cases h
 | some p =>
  rw[e]at h;obtain⟨e1,e2⟩:=List.getElem?_zip_eq_some.mp e;exact⟨p.1,p.2,e1,e2,(Option.some.inj h).symm⟩
theorem HZ{K:PySem.W.Frag}{F:Hp}{tp tq:Bool}{l m:Addr}{vs us:List V}{xs ys:List D}(h1:∀H,aw F H->Sq tp K H l vs)(h2:∀H,aw F H->Sq tq K H m us)(r1:aH F vs xs)(r2:aH F us ys):my F (Itz tp tq K l m) (wK xs ys):=λF1 H1 s1 s2 i=>by
 have a1:=h1 H1 (s1.trans s2);have a2:=h2 H1 (s1.trans s2);refine⟨λd e=>?_,λhl=>⟨vs,us,a1,a2,?_⟩⟩
 ·obtain⟨x,y,e1,e2,rfl⟩:=Gx e
  obtain⟨v,w1,q1⟩:=r1.get e1;obtain⟨u,w2,q2⟩:=r2.get e2;refine⟨⟨vs,us,v,u,a1,a2,w1,w2⟩,λz H2 yl=>?_⟩;obtain⟨p,v',u',hp,rfl,rfl,f1,f2⟩:=yl;have e1':=f1 vs a1;have Hs:=f2 us a2;rw[w1]at e1';cases e1';rw[w2]at Hs;cases Hs;have sm:=aM (o:=.tup [v,u]) (same_none s2 hp);exact⟨upd F1 p (.tup [v,u]),.inr ⟨p,_,hp,rfl,rfl⟩,.tup az (.cons ((q1.mono s1).mono sm) (.cons ((q2.mono s1).mono sm) .nil))⟩
 ·have:(wK xs ys).length=min xs.length ys.length:=by unfold wK;simp
  have n1:=r1.length;have n2:=r2.length;omega
theorem Xi{elts:List Expr}{kk:Nat}{yh:Pos}{a b:Expr}{t:iy}{p pos:Pos}(h:zW G k S [a,b] t)(hm:G.mg "zip"=none)(hg:S.sc.lookup ("zip":Str)=some .globalImplicit:=by rfl)(hs:∀env,starEach [a,b] env=[(false,eval a env),(false,eval b env)]:=by intro _;rfl)(Bk:∀env,starEach [b] env=[(false,eval b env)]:=by intro _;rfl):
  EI G k S (.Tuple elts kk yh) (.Call (.Name "zip" p) [a,b] [] pos) (TN t):=.mk λX Y ok=>sI (Rm (dZ ok hg) (by rw[ok.mg];exact hm) (h X Y ok) (hs _) (Bk _)) λσ H Q q=>by
 obtain⟨F,ai,Qd,R,q,K⟩:=q;refine⟨F,ai,_,R,q,λvs H1 F1 ds ax s1 R1 r1 q1=>?_⟩
 split at q1
 ·rename_i x y
  split at q1
  ·rename_i xs ys ex ey
   cases r1 with
   | cons rx r1 =>
    cases r1 with
    | cons ry r1 =>
     cases r1;obtain⟨tp,l,us,rfl,a1,b1⟩:=rx.sq ex X.K;obtain⟨tq,m,ws,rfl,a2,b2⟩:=ry.sq ey X.K;exact⟨tp,tq,l,m,us,ws,rfl,a1 H1 R1.fr,a2 H1 R1.fr,K H1 F1 ax _ _ s1 R1 (HZ a1 a2 b1 b2) q1⟩
  ·exact q1.elim
 ·exact q1.elim
end Vc
namespace Vc
open PySem L2
variable [KF]
section
variable {prog:Program}{w:World}{A:Around}{R:Result->Shared->Prop}
def dh(bt:Nat->Nat->Bool):Nat->Nat
 | 0=>0
 | n+1=>if bt (n+1) (dh bt n)=true then n+1 else dh bt n
def Bs(prog:Program)(w:World)(A:Around)(op:CmpOp)(h0:Heap)(its:Array Value)(bt:Nat->Nat->Bool):Prop:=
 ∀(i j:Nat) (x y:Value) (s:Shared) (Q:Value->Shared->Prop) (E:Value->Shared->Prop),its[i]?=some x->its[j]?=some y->(∀b o,h0.get? b=some o->s.heap.get? b=some o)->Q (.bool (bt i j)) s->wpAny (model prog w) A (richCompare op x y) Q E s
theorem Px{h0:Heap}{its:Array Value}{bt:Nat->Nat->Bool}(hh:A.handled=none)(hc:Bs prog w A.in1 .Lt h0 its bt){I l S:Addr}(ZP:h0.IsList l its)(IS:I≠S)(n0:h0.get? I=none)(n1:h0.get? S=none)(kw:List (Str×Value)):
  ∀(d j:Nat) (s:Shared) (v:Value) (c:Nat),its.size-(j+1)=d->j+1<=its.size->s.heap.IsListIter I l (j+1)->its[dh bt j]?=some v->s.heap.get? S=some {cls:=.type "list",dict:=none,data:=.seq #[v,v] c,slots:=#[]} ->
  (∀b o,h0.get? b=some o->s.heap.get? b=some o) ->
  (∀v g tk,its[dh bt (its.size-1)]?=some v->(∀b o,h0.get? b=some o->g.get? b=some o)->R (.ok (.ret v)) {s with heap:=g,toks:=tk}) ->
  codeAny (model prog w) A (.builtin "min.loop" ⟨[.ref I,.none,.ref S],kw⟩) R s:=by
 have nm:(toString "min"++toString ".loop":String)="min.loop":=by decide
 have lI:l≠I:=λz=>by obtain⟨o,e,_⟩:=ZP;rw[z,n0]at e;cases e
 have lS:l≠S:=λz=>by obtain⟨o,e,_⟩:=ZP;rw[z,n1]at e;cases e
 have nI:∀ {b o},h0.get? b=some o->b≠I:=λe z=>by rw[z,n0]at e;cases e
 have nS:∀ {b o},h0.get? b=some o->b≠S:=λe z=>by rw[z,n1]at e;cases e
 intro d
 induction d with
 | zero =>
  intro j s v c hd hj hI hv hS k0 hR;have e1:j+1=its.size:=by omega
  have hl:s.heap.IsList l its:=by obtain⟨o,e,r⟩:=ZP;exact⟨o,k0 _ _ e,r⟩
  refine codeAny_builtin F.entry_min_loop ?_;rw[Around.under_plainId F.plain_min_loop _];show wpAny _ A.in1 (seqItems? (.ref S) >>= _) _ _ s;refine wpAny_bind (wpAny_seqItems hS rfl ?_);show wpAny _ A.in1 (tryCatch (pyNext (.ref I)) _ >>= _) _ _ s;refine wpAny_bind (wpAny_tryCatch (wpAny_pyNext_list_end (show A.in1.handled=none from hh) hI hl (by simp;omega) λg x1=>?_))
  have S1:=x1 S _ IS.symm hS;show wpAny _ A.in1 (updateSeq S (λ_=>#[]) >>= _) _ _ _;refine wpAny_bind (wpAny_updateSeq (s:={s with heap:=g}) S1 rfl (wpAny_bind (wpAny_letGo (wpAny_pure ?_))))
  have e2:its.size-1=j:=by omega
  refine hR v _ s.toks (by rw[e2];exact hv) λb o e=>?_
  exact(Heap.get?_update_other _ _ (Ne.symm (nS e))).trans (x1 b o (nI e) (k0 b o e))
 | succ d ih =>
  intro j s v c hd hj hI hv hS k0 hR;have jn:j+1<its.size:=by omega
  have hl:s.heap.IsList l its:=by obtain⟨o,e,r⟩:=ZP;exact⟨o,k0 _ _ e,r⟩
  refine codeAny_builtin F.entry_min_loop ?_;rw[Around.under_plainId F.plain_min_loop _];show wpAny _ A.in1 (seqItems? (.ref S) >>= _) _ _ s;refine wpAny_bind (wpAny_seqItems hS rfl ?_);show wpAny _ A.in1 (tryCatch (pyNext (.ref I)) _ >>= _) _ _ s;have hx:its[j+1]?=some its[j+1]:=by simp [jn]
  refine wpAny_bind (wpAny_tryCatch (wpAny_pyNext_list_item hI hl hx λg I1 x1=>?_));have S1:=x1.extBut S _ IS.symm hS;have k1:∀b o,h0.get? b=some o->g.get? b=some o:=λb o e=>x1.extBut b o (nI e) (k0 b o e);show wpAny _ A.in1 (tryCatch (holding [its[j+1],its[j+1]] (richCompare .Lt its[j+1] v >>= _)) _ >>= _) _ _ _;refine wpAny_bind (wpAny_tryCatch (wpAny_holding (wpAny_bind (hc (j+1) (dh bt j) _ v {s with heap:=g} _ _ hx hv k1 ?_))))
  refine wpAny_bind (wpAny_holding (wpAny_truthy_bool (wpAny_bind (wpAny_letGo (wpAny_pure ?_)))));cases hb:bt (j+1) (dh bt j)with
  | true =>
   simp only[if_true];refine wpAny_bind (wpAny_updateSeq (s:={s with heap:=g}) S1 rfl (wpAny_bind (wpAny_letGo ?_)))
   rw[nm];refine wpAny_pure ⟨plainId_quiet F.plain_min_loop _,ih (j+1) _ its[j+1] _ ⋯ jn ?_ (by simp only[dh,hb,if_true];exact hx) (Heap.get?_update_self _ S1 rfl) (λb o e=>(Heap.get?_update_other _ _ (Ne.symm (nS e))).trans (k1 b o e)) λv' g' tk Xd k'=>?_⟩
   ·obtain⟨o,e,r⟩:=I1;exact⟨o,(Heap.get?_update_other _ _ (Ne.symm IS)).trans e,r⟩
   ·exact hR v' g' tk Xd k'
  | false =>
   simp only[Bool.false_eq_true,if_false];refine wpAny_bind (wpAny_letGo ?_);rw[nm];refine wpAny_pure ⟨plainId_quiet F.plain_min_loop _,ih (j+1) _ v c ⋯ jn I1 (by simp only[dh,hb,Bool.false_eq_true,if_false];exact hv) S1 k1 λv' g' tk Xd k'=>?_⟩
   exact hR v' g' tk Xd k'
theorem xf(a v:Value):argsOk "min" ⟨[a],[(Str.ofString "default",v)]⟩:=by unfold argsOk;kernel_rfl
theorem vI{E:Value->Shared->Prop}{s:Shared}{its:Array Value}{bt:Nat->Nat->Bool}(hh:A.handled=none)(hc:Bs prog w A.in1 .Lt s.heap its bt){l:Addr}(hl:s.heap.IsList l its){dv:Value}{Q:Value->Shared->Prop}
  (q0:its.size=0->∀g tk,(∀b o,s.heap.get? b=some o->g.get? b=some o)->Q dv {s with heap:=g,toks:=tk})
  (q1:∀v g tk,its[dh bt (its.size-1)]?=some v->(∀b o,s.heap.get? b=some o->g.get? b=some o)->Q v {s with heap:=g,toks:=tk}):
  wpAny (model prog w) A (call (.builtin "min") [.ref l] [(Str.ofString "default",dv)]) Q E s:=by
 have nm:(toString "min"++toString ".loop":String)="min.loop":=by decide
 refine wpAny_call (codeAny_call_builtin F.plain_min F.entry_min ?_);have run:wpAny (model prog w) A.in1 (Builtin.«min» ⟨[.ref l],[(Str.ofString "default",dv)]⟩) (λfin s'=>match fin with
   | .done f=>(match(Except.ok f:Result)with|.ok (.ret v)=>Q v s'|.ok _=>False|.error e=>E e s')
   | .again c'=>c'.quiet=true/\codeAny (model prog w) A c' (λr s'=>match r with|.ok (.ret v)=>Q v s'|.ok _=>False|.error e=>E e s') s') E s:=by
  show wpAny _ A.in1 (Builtin.Builtins.bindParams "min" ["key","default"] 0 ⟨[],[(Str.ofString "default",dv)]⟩ >>= _) _ _ s;refine wpAny_bind (wpAny_of_eq (show Builtin.Builtins.bindParams "min" ["key","default"] 0 ⟨[],[(Str.ofString "default",dv)]⟩=pure [none,some dv]from rfl) (wpAny_bind (wpAny_pure ?_)))
  refine wpAny_bind (wpAny_pyIter_list hl (wpAny_bind (wpAny_newObj_type ?_)));generalize hg1:s.heap.push {cls:=.type "list_iterator",data:=.fields #[.ref l,.int 0 0]}=g1;have n1:g1.objs.size=s.heap.objs.size+1:=by rw[<- hg1];exact Heap.size_push ..
  have I0:(g1.push {cls:=.type "list",dict:=none,data:=.seq ([]:List Value).toArray}).IsListIter s.heap.objs.size l 0:=⟨_,Heap.get?_push_of_some _ (by rw[<- hg1];exact Heap.get?_push_size _ rfl),rfl,rfl⟩
  have S0:=Heap.get?_push_size g1 (o:={cls:=.type "list",dict:=none,data:=.seq ([]:List Value).toArray}) rfl;have k0:∀b o,s.heap.get? b=some o->(g1.push {cls:=.type "list",dict:=none,data:=.seq ([]:List Value).toArray}).get? b=some o:=λb o e=>Heap.get?_push_of_some _ (by rw[<- hg1];exact Heap.get?_push_of_some _ e)
  have fr:∀a,s.heap.objs.size<=a->s.heap.get? a=none:=λa ha=>by
   cases e:s.heap.get? a with
   | none=>rfl
   | some o=>exact absurd (Heap.lt_size e) (Nat.not_lt.mpr ha)
  have nI:s.heap.get? s.heap.objs.size=none:=fr _ (Nat.le_refl _);have nS:s.heap.get? g1.objs.size=none:=fr _ (by rw[n1];exact Nat.le_succ _)
  have IS:s.heap.objs.size≠g1.objs.size:=by rw[n1];exact Nat.ne_of_lt (Nat.lt_succ_self _)
  rw[nm];refine wpAny_pure ⟨plainId_quiet F.plain_min_loop _,?_⟩;generalize ZO:g1.push {cls:=.type "list",dict:=none,data:=.seq ([]:List Value).toArray}=g2 at I0 S0 k0;have Oo:g2.IsList l its:=by obtain⟨o,e,r⟩:=hl;exact⟨o,k0 _ _ e,r⟩
  refine codeAny_builtin F.entry_min_loop ?_;rw[Around.under_plainId F.plain_min_loop _];show wpAny _ A.in1 (seqItems? (.ref g1.objs.size) >>= _) _ _ _;refine wpAny_bind (wpAny_seqItems (s:={s with heap:=g2}) S0 rfl ?_)
  show wpAny _ A.in1 (tryCatch (pyNext (.ref s.heap.objs.size)) _ >>= _) _ _ _
  by_cases hz:its.size=0
  ·refine wpAny_bind (wpAny_tryCatch (wpAny_pyNext_list_end (show A.in1.handled=none from hh) I0 Oo (by simp [hz]) λg x1=>?_))
   refine wpAny_bind (wpAny_rule (wpAny_pure ?_));exact q0 hz g s.toks λb o e=>x1 b o (λz=>by rw[z,nI]at e;cases e) (k0 b o e)
  ·have hx:its[0]?=some its[0]:=by simp [Nat.pos_of_ne_zero hz]
   refine wpAny_bind (wpAny_tryCatch (wpAny_pyNext_list_item I0 Oo hx λg I1 x1=>?_));have S1:=x1.extBut _ _ IS.symm S0;have k1:∀b o,s.heap.get? b=some o->g.get? b=some o:=λb o e=>x1.extBut b o (λz=>by rw[z,nI]at e;cases e) (k0 b o e)
   show wpAny _ A.in1 (updateSeq g1.objs.size (λ_=>#[its[0],its[0]]) >>= _) _ _ _;refine wpAny_bind (wpAny_updateSeq (s:={s with heap:=g}) S1 rfl ?_)
   rw[nm];refine wpAny_pure ⟨plainId_quiet F.plain_min_loop _,Px hh hc hl IS nI nS _ _ 0 _ its[0] _ rfl (Nat.pos_of_ne_zero hz) ?_ hx (Heap.get?_update_self _ S1 rfl) (λb o e=>(Heap.get?_update_other _ _ (λz=>by rw[<- z,nS]at e;cases e)).trans (k1 b o e)) λv g' tk hv k'=>q1 v g' tk hv k'⟩
   obtain⟨o,e,r⟩:=I1;exact⟨o,(Heap.get?_update_other _ _ (Ne.symm IS)).trans e,r⟩
 simp only[checkBuiltinCall,F.kind_min];cases aaJ:Manifest.signature? "min" with
 | none=>exact wpAny_pure run
 | some sig =>
  have ha:argsOk "min" ⟨[.ref l],[(Str.ofString "default",dv)]⟩:=xf _ _;have ha':Bind.checkArgs "min" sig ⟨[.ref l],[(Str.ofString "default",dv)]⟩=pure ():=by simpa only[argsOk,aaJ]using ha
  simp only[ha'];exact wpAny_pure run
end
end Vc
namespace Vc
open PySem L2
variable [KF]
variable {G:GE}{k:Nat}{S:Stat}
def isInt:D->Bool
 | .int _=>true
 | _=>false
def lF:D->Int
 | .int i=>i
 | _=>0
theorem aH.ints{F:Hp}:∀ {vs:List V} {xs:List D},aH F vs xs->xs.all isInt=true->vs=(xs.map lF).map V.int
 | _,_,.nil,_=>rfl
 | _,_,.cons (d:=d) r t,h=>by
  rw[List.all_cons,Bool.and_eq_true]at h;cases d with
  | int i =>
   cases r;rw[aH.ints t h.2];rfl
  | _=>exact absurd h.1 (by simp [isInt])
theorem B8{X:Cx}(hc:X.calm=true):dW X (.builtin "sum") (λxs H Q=>∃(a:Addr) (ns:List Int),xs=[.ref a]/\gE X.K H a (ns.map V.int)/\Q (.int ns.sum) H):=by
 intro pins s σ H xs us Q I r h;obtain⟨a,ns,rfl,hq,q⟩:=h;obtain⟨u,rfl,ru⟩:=vals1 r;cases ru;obtain⟨its,rv,p,_⟩:=I.list hq;obtain⟨m,F⟩:=I.fr;have hi:=L2.intsAre_of rv;obtain⟨ys,e⟩:=(hi.allInts).items;have pl:=p.isList;rw[e]at pl;refine sum_intListG (I.ok.hd hc) pl λg tk t' kp=>⟨.int ns.sum,H,I.kept kp,⟨t',?_⟩,q⟩;have e1:preSum (numAt ys) ys.size=(PySem.numsOf its.toArray.toList).sum:=by
  rw[e,nums_intItems,preSum_eq,List.take_of_length_le (by simp)]
 rw[e1,show its.toArray.toList=its from rfl,hi.numsOf]
def sumF:List D->(EV->Prop)->Prop
 | [.lst xs],Q=>xs.all isInt=true/\Q (.val (.int (xs.map lF).sum))
 | _,_=>False
theorem Ds(hh:S.nk=false:=by rfl):Bq G k S (.builtin "sum") sumF:=⟨λK xs H Q=>∃(a:Addr) (ns:List Int),xs=[V.ref a]/\gE K H a (ns.map V.int)/\Q (.int ns.sum) H,λ_ _ ok=>B8 (ok.calm hh),λY F H ai σ vs ds Qd Q R r q g=>by
 unfold sumF at q
 split at q
 ·obtain⟨v,rfl,rv⟩:=r.one
  obtain⟨p,us,rfl,h1,h2⟩:=rv.lst;refine⟨p,_,rfl,?_,g.val R (.int _) q.2⟩;rw[<- h2.ints q.1];exact .inl h1
 ·exact q.elim⟩
def JH:D->Option String
 | .aV=>some "NoneType"
 | .bl _=>some "bool"
 | .int _=>some "int"
 | .str _=>some "str"
 | .lst _=>some "list"
 | .tup _=>some "tuple"
 | _=>none
def we(T U:String):Bool:=T==U||(T=="bool"&&U=="int")
def rm(U:String):Prop:=∀K:PySem.W.Frag,PySem.W.kitOne K (.type "NoneType") (.type U)=some (we "NoneType" U)/\PySem.W.kitOne K (.type "bool") (.type U)=some (we "bool" U)/\PySem.W.kitOne K (.type "int") (.type U)=some (we "int" U) /\
 PySem.W.kitOne K (.type "str") (.type U)=some (we "str" U)/\PySem.W.kitOne K (.type "list") (.type U)=some (we "list" U)/\PySem.W.kitOne K (.type "tuple") (.type U)=some (we "tuple" U)
theorem rm.of{U:String}(h:rm U)(K:PySem.W.Frag){d:D}{T:String}(e:JH d=some T):PySem.W.kitOne K (.type T) (.type U)=some (we T U):=by
 obtain⟨h1,h2,h3,h4,h5,h6⟩:=h K;cases d<;>cases e<;>assumption
theorem cf.ty{F H:Hp}{v:V}{d:D}{T:String}(r:cf F H v d)(s:aw F H)(K:PySem.W.Frag)(e:JH d=some T):k7 K H v (.type T):=by
 cases d with
 | aV=>cases e;obtain rfl:=r.aV;exact .aV
 | bl b=>cases e;obtain rfl:=r.bl;exact .bl b
 | int i=>cases e;obtain rfl:=r.int;exact .int i
 | str x=>cases e;obtain rfl:=r.str;exact .str x
 | lst xs =>
  cases e;obtain⟨a,vs,rfl,h,_⟩:=r.lst;rcases h with h|⟨o,h⟩
  ·exact .lst h
  ·exact .rZ h
 | tup xs=>cases e;obtain⟨a,vs,rfl,h,_⟩:=r.tup s;exact .tup h
 | dct _=>cases e
 | exc _=>cases e
 | iL _=>cases e
 | gv _=>cases e
 | kp _ _ _ _=>cases e
end Vc
namespace Vc
open PySem L2
variable [KF]
variable {G:GE}{k:Nat}{S:Stat}
def lE:D->Bool
 | .tup xs=>xs.all isInt
 | _=>false
def ltI:D->D->Bool
 | .int i,.int j=>decide (i<j)
 | .tup xs,.tup ys=>HT.lexLt (xs.map lF) (ys.map lF)
 | _,_=>false
def fC:List D->Option D
 | []=>none
 | x::xs=>some (xs.foldl (λb y=>if ltI y b=true then y else b) x)
def wN(xs:List D)(i j:Nat):Bool:=ltI (xs.getD i .aV) (xs.getD j .aV)
theorem nJ(xs:List D)(x:D):∀n,n<(x::xs).length->(x::xs).getD (dh (wN (x::xs)) n) .aV=(xs.take n).foldl (λb y=>if ltI y b=true then y else b) x
 | 0,_=>rfl
 | n+1,h=>by
  have ih:=nJ xs x n (by simp at h ⊢;omega)
  have hl:n<xs.length:=by simpa using h
  have gx:(x::xs).getD (n+1) .aV=xs[n]:=by
   rw[List.getD_eq_getElem?_getD,List.getElem?_cons_succ,List.getElem?_eq_getElem hl];rfl
  rw[List.take_add_one,List.getElem?_eq_getElem hl,Option.toList_some,List.foldl_append,List.foldl_cons,List.foldl_nil,<- ih];have e:wN (x::xs) (n+1) (dh (wN (x::xs)) n)=ltI xs[n] ((x::xs).getD (dh (wN (x::xs)) n) .aV):=by
   unfold wN;rw[gx]
  show(x::xs).getD (if wN (x::xs) (n+1) (dh (wN (x::xs)) n)=true then n+1 else dh (wN (x::xs)) n) .aV=_
  rw[e]
  split
  ·exact gx
  ·rfl
theorem rF{xs:List D}(h:xs≠[]):fC xs=some (xs.getD (dh (wN xs) (xs.length-1)) .aV):=by
 cases xs with
 | nil=>exact absurd rfl h
 | cons x xs =>
  have:=nJ xs x xs.length (by simp)
  have e:(x::xs).length-1=xs.length:=by simp
  rw[e,this,List.take_length];rfl
theorem Ms{X:Cx}{pins:List (Addr×Obj)}{σ:St}{H F:Hp}{s:Shared}(I:L2.Inv X pins σ H s)(sm:aw F H)(hu:X.A.in1.units<cLine){vs:List V}{xs:List D}{its:List Value}(rl:aH F vs xs)(rv:Vals vs its)(hc:xs.all isInt=true\/xs.all lE=true):
  Bs X.prog X.w X.A.in1 .Lt s.heap its.toArray (wN xs):=by
 intro i j x y s' Q E ex ey kp q;have gy:its[i]?=some x:=by simpa using ex
 have ey':its[j]?=some y:=by simpa using ey
 have back:∀ {n z},its[n]?=some z->∃v d,vs[n]?=some v/\xs[n]?=some d/\RelV v z/\Rep F v d:=λ{n z} e=>by
  have hl:n<vs.length:=by rw[rv.length];exact(List.getElem?_eq_some_iff.mp e).1
  have ev:vs[n]?=some vs[n]:=List.getElem?_eq_getElem hl;obtain⟨d,e1,e2⟩:=rl.get' ev;obtain⟨u,e3,e4⟩:=rv.get ev;rw[e]at e3;cases e3;exact⟨_,d,ev,e1,e4,e2⟩
 obtain⟨v,d,_,hd,r1,p1⟩:=back gy;obtain⟨u,e,_,he,r2,p2⟩:=back ey';have bt:wN xs i j=ltI d e:=by
  unfold wN;rw[List.getD_eq_getElem?_getD,List.getD_eq_getElem?_getD,hd,he];rfl
 rw[bt]at q;have md:d∈xs:=List.mem_of_getElem? hd;have me:e∈xs:=List.mem_of_getElem? he;show wpAny _ _ (compareOp .Lt x y) _ _ _;rcases hc with hc|hc
 ·have h1:=List.all_eq_true.mp hc d md
  have h2:=List.all_eq_true.mp hc e me;cases d with
  | int a =>
   cases e with
   | int b =>
    cases p1;cases p2;obtain⟨t,rfl⟩:=r1;obtain⟨t',rfl⟩:=r2;exact PyProof.Rows.lt_int q
   | _=>exact absurd h2 (by simp [isInt])
  | _=>exact absurd h1 (by simp [isInt])
 ·have h1:=List.all_eq_true.mp hc d md
  have h2:=List.all_eq_true.mp hc e me;cases d with
  | tup as =>
   cases e with
   | tup bs =>
    cases p1 with
    | tup hf rf =>
     cases p2 with
     | tup hg rg =>
      cases r1;cases r2;rename_i va vas vb vbs;obtain⟨_,ia,wa,oa,ga,ca⟩:=I.bw _ _ (sm _ _ hf);obtain⟨_,ib,wb,ob,gb,cb⟩:=I.bw _ _ (sm _ _ hg);rw[rf.ints h1]at wa;rw[rg.ints h2]at wb;exact HT.xF ⟨oa,kp _ _ ga,ca⟩ ⟨ob,kp _ _ gb,cb⟩ (L2.intsAre_of wa) (L2.intsAre_of wb) hu q
   | _=>exact absurd h2 (by simp [lE])
  | _=>exact absurd h1 (by simp [lE])
def JA(t:TV)(td:TD):TV:=λσ Q=>t σ λx ax=>td ax λdv aO=>match df aO x with
 | some (.lst xs)=>(xs.all isInt=true\/xs.all lE=true)/\Q (.val ((fC xs).getD dv)) aO
 | _=>False
theorem Lc{e d:Expr}{t:TV}{td:TD}{p kp pos:Pos}(h:EO G k S e t)(hd:ED G k S d td)(hm:G.mg "min"=none)(hg:S.sc.lookup ("min":Str)=some .globalImplicit:=by rfl)
  (he:∀env,starEach [e] env=[(false,eval e env)]:=by intro _;rfl) (hh:S.nk=false:=by rfl):EO G k S (.Call (.Name "min" p) [e] [⟨some "default",d,kp⟩] pos) (JA t td):=.mk λX Y ok=>by
 intro pins s σ H Q I q;obtain⟨F,ai,Qd,R,q,K⟩:=q;refine wpAny_Call_Name_kw (jo (u:=.builtin "min") I (dZ ok hg) (by rw[ok.mg];exact hm) (by decide +kernel) ?_ ∅ ∅)
 have ha:PA X [e] (jc (lO Y t) pT):=cV (h X Y ok) g0 (by rw[he];rfl)
 have hk:PK X [⟨some "default",d,kp⟩] (jc (lD Y td) pT):=IX (hd X Y ok) Rp;have hA:=ha pos pins s σ H (λvs H1=>∃v1 F1 x ax,vs=[v1]/\aw F F1/\RS Y F1 ax σ H1/\wZ F1 σ v1 x/\td ax (λdv aO=>match df aO x with
   | some (.lst xs)=>(xs.all isInt=true\/xs.all lE=true)/\Qd (.val ((fC xs).getD dv)) aO
   | _=>False)) I ⟨F,ai,_,R,q,λv1 H1 F1 x ax s1 R1 r1 q1=>⟨v1,F1,x,ax,rfl,s1,R1,r1,q1⟩⟩
 refine PyProof.Rows.callWith_kw (env:=X.env) (cE hA λus s1 h1=>?_) (by rw[he];rfl) (by rw[he];rfl) rfl rfl
 obtain⟨vs,H1,I1,rvs,v1,F1,x,ax,rfl,UM,R1,r1,q1⟩:=h1;obtain⟨u1,rfl,ru1⟩:=vals1 rvs;refine cE (hk pos pins s1 σ H1 (λvs H2=>∃v2 F2 dv aO,vs=[v2]/\aw F1 F2/\RS Y F2 aO σ H2/\Rep F2 v2 dv/\(match df aO x with
   | some (.lst xs)=>(xs.all isInt=true\/xs.all lE=true)/\Qd (.val ((fC xs).getD dv)) aO
   | _=>False)) I1 ⟨F1,ax,_,R1,q1,λv2 H2 F2 dv aO s2 R2 r2 q2=>⟨v2,F2,dv,aO,rfl,s2,R2,r2,q2⟩⟩) λws s2 h2=>?_
 obtain⟨vs2,H2,I2,abe,v2,F2,dv,aO,rfl,Zc,R2,r2,q2⟩:=h2;obtain⟨u2,rfl,ru2⟩:=vals1 abe
 split at q2
 ·rename_i xs ex
  obtain⟨hc,q2⟩:=q2;obtain⟨a,vs,rfl,ZR,rl⟩:=(R2.df (r1.mono Zc) ex).lst;cases ru1;obtain⟨its,rv,pl,_⟩:=I2.list (show gE X.K H2 a vs from .inl ZR)
  have hu:X.A.in1.units<cLine:=by
   have:=ok.units;show X.A.units+1<cLine;omega
  have HE:=Ms I2 R2.fr hu rl rv hc;have len:its.toArray.size=xs.length:=by rw[List.size_toArray,<- rv.length,rl.length]
  refine vI (I2.ok.hd (ok.calm hh)) HE pl.isList (λhz g tk kp=>?_) λz g tk hz kp=>?_
  ·have:xs=[]:=List.length_eq_zero_iff.mp (by rw[<- len];exact hz)
   subst this;exact⟨v2,H2,I2.kept kp,ru2,K v2 H2 F2 (.val dv) aO (UM.trans Zc) R2 r2 q2⟩
  ·have ZU:its[dh (wN xs) (xs.length-1)]?=some z:=by rw[len]at hz;simpa using hz
   have dk:xs≠[]:=λe=>by
    subst e;have:its=[]:=List.length_eq_zero_iff.mp (by rw[<- rv.length,rl.length];rfl)
    rw[this]at ZU;simp at ZU
   have hl:dh (wN xs) (xs.length-1)<vs.length:=by rw[rv.length];exact(List.getElem?_eq_some_iff.mp ZU).1
   have ev:vs[dh (wN xs) (xs.length-1)]?=some vs[dh (wN xs) (xs.length-1)]:=List.getElem?_eq_getElem hl;obtain⟨dd,e1,e2⟩:=rl.get' ev;obtain⟨zz,e3,e4⟩:=rv.get ev;rw[ZU]at e3;cases e3;have eb:fC xs=some dd:=by rw[rF dk,List.getD_eq_getElem?_getD,e1];rfl
   rw[eb]at q2;exact⟨_,H2,I2.kept kp,e4,K _ H2 F2 (.val dd) aO (UM.trans Zc) R2 e2 q2⟩
 ·exact q2.elim
end Vc
namespace Vc
open PySem L2
variable [KF]
variable {G:GE}{k:Nat}{S:Stat}
theorem Dx{g:p7}{tb:b5}{De:mx}{items:List D}(I:Nat->Sd->Prop)
  (D6:∀i x σ (N:Sd->Prop),items[i]?=some x->I i σ->(∀cq,I (i+1) cq->N cq)->g x σ λax=>tb {nx:=N,rt:=De.rt,bk:=De.nx,ct:=N} ax)
  (DW:∀σ,I items.length σ->De.nx σ) {σ:Sd} (h0:I 0 σ):vv g tb De items σ:=by
 have key:∀(xs:List D) (i:Nat) (σ:Sd),items.drop i=xs->i<=items.length->I i σ->vv g tb De xs σ:=by
  intro xs
  induction xs with
  | nil =>
   intro i σ e l h;have:items.length<=i:=List.drop_eq_nil_iff.mp e;exact DW σ ((Nat.le_antisymm l this) ▸ h)
  | cons x r ih =>
   intro i σ e l h;have hx:items[i]?=some x:=by
    have:=congrArg (·[0]?) e
    simpa using this
   have hr:items.drop (i+1)=r:=by rw[<- List.drop_drop,e];rfl
   have hl:i<items.length:=(List.getElem?_eq_some_iff.mp hx).1;exact D6 i x σ _ hx h λcq h'=>ih (i+1) cq hr hl h'
 exact key items 0 σ rfl (Nat.zero_le _) h0
theorem jF{α:Type}{g:p7}{tc:TB}{te:TD}{gD:Sd}{Q:List D->Prop}(gi:α->D)(f:α->Option D)(l:List α)
  (h:∀a∈l,∀(A:D->Prop) (Bn:Prop),(match f a with|some d=>A d|none=>Bn)->g (gi a) gD λax=>tc ax λb aO=>if b=true then te aO λd iu=>oA gD iu/\A d else oA gD aO/\Bn)
  (hl:l.length<=sizeLine) (q:Q (l.filterMap f)):eN g tc te gD (l.map gi) [] Q:=by
 have key:∀(l:List α) (acc:List D),(∀a∈l,∀(A:D->Prop) (Bn:Prop),(match f a with|some d=>A d|none=>Bn)->g (gi a) gD λax=>tc ax λb aO=>if b=true then te aO λd iu=>oA gD iu/\A d else oA gD aO/\Bn) ->
   acc.length+l.length<=sizeLine->Q (acc++l.filterMap f)->eN g tc te gD (l.map gi) acc Q:=by
  intro l
  induction l with
  | nil=>intro acc _ _ q;simpa [eN]using q
  | cons a l ih =>
   intro acc h hl q;rw[List.length_cons]at hl;rw[List.map_cons];refine h a (List.mem_cons_self ..) (λd=>acc.length<sizeLine/\eN g tc te gD (l.map gi) (acc++[d]) Q) (eN g tc te gD (l.map gi) acc Q) ?_;have hr:=λy hy=>h y (List.mem_cons_of_mem _ hy);cases e:f a with
   | some d =>
    refine⟨by omega,ih _ hr (by rw[List.length_append,List.length_singleton];omega) ?_⟩
    rw[List.filterMap_cons_some e]at q
    rwa [List.append_assoc]
   | none =>
    refine ih acc hr ⋯ ?_
    rwa [List.filterMap_cons_none e]at q
 exact key l [] h (by simpa using hl) q
theorem dG{α:Type}{g:p7}{te:TD}{gD:Sd}{Q:List D->Prop}(gi f:α->D)(l:List α)
  (h:∀a∈l,∀(A:D->Prop),A (f a)->g (gi a) gD λax=>te ax λd iu=>oA gD iu/\A d)
  (hl:l.length<=sizeLine) (q:Q (l.map f)):eN g eX te gD (l.map gi) [] Q:=
 jF gi (λx=>some (f x)) l (λx hx A Bn ha=>h x hx A ha) hl (by simpa using q)
theorem eC{α:Type}{g:p7}{tb:b5}{De:mx}(gi:α->D)(l:List α)(I:Nat->Sd->Prop)
  (D6:∀i a σ (N:Sd->Prop),l[i]?=some a->I i σ->(∀cq,I (i+1) cq->N cq)->g (gi a) σ λax=>tb {nx:=N,rt:=De.rt,bk:=De.nx,ct:=N} ax)
  (DW:∀σ,I l.length σ->De.nx σ) {σ:Sd} (h0:I 0 σ):vv g tb De (l.map gi) σ:=by
 refine Dx I (λi x σ N hx hI hN=>?_) (λσ h=>DW σ (by rwa [List.length_map]at h)) h0
 rw[List.getElem?_map]at hx;cases e:l[i]? with
 | none=>rw[e]at hx;cases hx
 | some a=>rw[e]at hx;cases hx;exact D6 i a σ N e hI hN
theorem d5(lo:Int)(n:Nat):A4 lo n=(List.range n).map λi=>.int (lo+(i:Nat)):=rfl
theorem Gy{α β:Type}(f:α->D)(g:β->D)(xs:List α)(ys:List β):wK (xs.map f) (ys.map g)=(xs.zip ys).map λp=>.tup [f p.1,g p.2]:=by
 unfold wK;rw[List.zip_map,List.map_map];rfl
theorem rD{α:Type}{xs:List α}{n:Nat}{d:α}(h:xs[n]?=some d):L2.lb xs (n:Int)=some d:=by
 have hn:=(List.getElem?_eq_some_iff.mp h).1;unfold L2.lb L2.GU;rw[if_pos (Int.natCast_nonneg n),if_pos ⋯]
 show xs[(n:Int).toNat]?=some d;rw[Int.toNat_natCast];exact h
theorem aW{xs:List D}{n:Nat}{i:Int}{d:D}{Q:D->Prop}(e:i=(n:Int))(h:xs[n]?=some d)(q:Q d):Ia (.lst xs) (.int i) Q:=by
 subst e;show(match L2.lb xs (n:Int)with|some d=>Q d|none=>False)
 rw[rD h];exact q
theorem cy{xs:List D}{n:Nat}{i:Int}{d:D}{Q:D->Prop}(e:i=(n:Int))(h:xs[n]?=some d)(q:Q d):Ia (.tup xs) (.int i) Q:=by
 subst e;show(match L2.lb xs (n:Int)with|some d=>Q d|none=>False)
 rw[rD h];exact q
theorem eP{xs:List D}{i:Int}{Q:D->Prop}(h0:0<=i)(h1:i<xs.length)(h:∀d∈xs,Q d):Ia (.lst xs) (.int i) Q:=by
 have hn:i.toNat<xs.length:=by omega
 exact aW (n:=i.toNat) ⋯ (List.getElem?_eq_getElem hn) (h _ (List.getElem_mem hn))
structure d9(G:GE)(x:Str)(st:Stmt)(ps:List Str)(f:Addr)(fd:FuncData):Prop where
 F:Bi G.K x x st f fd
 m:G.mg x=some (.ref f)
 b:Binds G.K fd ps []
theorem d9.fg{x:Str}{st:Stmt}{ps N:List Str}{f:Addr}{fd:FuncData}{t:b5}{sp:bu}(d:d9 G x st ps f fd)(hK:G.K=KF.K)(Sc:aC N ps (ag st))(ht:c9 G k ⟨N,(ag st).names,[],false,false,false,λ_ _=>False⟩ (ao st) t)
  (len:∀ds Q,sp ds Q->ds.length=ps.length) (body:∀ds Q,sp ds Q->t {nx:=λ_=>Q (.sh .aV),rt:=λb _=>Q b} (aL N.length ds)):dw G (k+1) x sp:=
 ⟨f,fd,ps,Dv hK d.F Sc ht len body,d.m,d.F.kp,d.b⟩
theorem aj{t u:b5}{De:mx}{σ:Sd}(h:∀N,N=u De->t {nx:=N,rt:=De.rt,bk:=De.bk,ct:=De.ct} σ):bS t u De σ:=h _ rfl
end Vc
namespace Vs
open PySem PyProof.Rows
def R(ρ:Keyed->Nat)(xs:Array Keyed)(i:Nat):Nat:=match xs[i]? with
 | some p=>ρ p
 | none=>0
theorem ix{ρ:Keyed->Nat}{xs ys:Array Keyed}{i j:Nat}(h:xs[i]?=ys[j]?):R ρ xs i=R ρ ys j:=by unfold R;rw[h]
theorem dz{ρ:Keyed->Nat}{xs:Array Keyed}{i:Nat}{p:Keyed}(h:xs[i]?=some p):R ρ xs i=ρ p:=by unfold R;rw[h]
theorem uD{ρ:Keyed->Nat}{xs:Array Keyed}{src d:Nat}(hs:src<xs.size)(hd:d<=src)(k:Nat):
  R ρ (bubble xs src d) k=if k=src-d then R ρ xs src else if src-d<k/\k<=src then R ρ xs (k-1)else R ρ xs k:=by
 have e:=getElem?_bubble hs d hd k
 repeat' split
 all_goals (rename_i h1;first | (rename_i h2;first|rw[if_neg h2,if_pos h1]at e|rw[if_neg h2,if_neg h1]at e)|rw[if_pos h1]at e)
 all_goals exact ix e
theorem nH{ρ:Keyed->Nat}{xs:Array Keyed}{i j:Nat}(hj:j<=xs.size)(k:Nat):
  R ρ (mirror xs i j ((j-i)/2)) k=if i<=k/\k<j then R ρ xs (i+j-1-k)else R ρ xs k:=by
 have e:=getElem?_mirror_all (i:=i) hj k
 split
 ·rename_i h1;rw[if_pos h1]at e;exact ix e
 ·rename_i h1;rw[if_neg h1]at e;exact ix e
theorem cK{ρ:Keyed->Nat}{xs:Array Keyed}{i j:Nat}(hj:j<=xs.size)(heq:∀k,i<=k->k<j->R ρ xs k=R ρ xs (j-1))(k:Nat):
  R ρ (mirror xs i j ((j-i)/2)) k=R ρ xs k:=by
 rw[nH hj]
 split
 ·rw[heq _ ⋯ ⋯,heq k ⋯ ⋯]
 ·rfl
def gF(M:Model)(A:Around)(E:Value->Shared->Prop)(s:Shared)(ρ:Keyed->Nat)(kd:SortKind)(P:Keyed->Prop):Prop:=
 ∀(x y:Keyed) (st:SortSt) (Q:Option Bool->SortSt->Prop),P x->P y->kindOf st=kd->Q (some (decide (ρ x<ρ y))) st->wpS M A E s (lt' x y) Q st
structure SI(kd:SortKind)(a₀:Array Keyed)(st:SortSt):Prop where
 perm:(arrOf st).Perm a₀
 kind:kindOf st=kd
 failed:failedOf st=none
theorem SI.size{kd:SortKind}{a₀:Array Keyed}{st:SortSt}(h:SI kd a₀ st):(arrOf st).size=a₀.size:=h.perm.size_eq
theorem SI.setArr{kd:SortKind}{a₀:Array Keyed}{st:SortSt}(h:SI kd a₀ st){xs:Array Keyed}(hp:xs.Perm (arrOf st)):SI kd a₀ (setArr st xs):=⟨hp.trans h.perm,h.kind,h.failed⟩
theorem SI.at{kd:SortKind}{a₀:Array Keyed}{st:SortSt}(h:SI kd a₀ st){P:Keyed->Prop}(h0:∀p∈a₀.toList,P p){i:Nat}(hi:i<a₀.size):∃p,(arrOf st)[i]?=some p/\P p:=by
 have xu:i<(arrOf st).size:=by rw[h.size];exact hi
 exact⟨(arrOf st)[i],getElem?_pos _ i xu,h0 _ ((Array.perm_iff_toList_perm.mp h.perm).mem_iff.mp (by simp))⟩
structure Fw(kd:SortKind)(a₀:Array Keyed)(lo:Nat)(st ay:SortSt):Prop where
 si:SI kd a₀ ay
 same:∀k,k<lo->(arrOf ay)[k]?=(arrOf st)[k]?
 pend:pendingOf ay=pendingOf st
theorem Fw.refl{kd:SortKind}{a₀:Array Keyed}{lo:Nat}{st:SortSt}(h:SI kd a₀ st):Fw kd a₀ lo st st:=⟨h,λ_ _=>rfl,rfl⟩
theorem Fw.mirror{kd:SortKind}{a₀:Array Keyed}{lo i j:Nat}{st ay:SortSt}(h:Fw kd a₀ lo st ay)(hi:lo<=i)(hj:j<=a₀.size):Fw kd a₀ lo st (setArr ay (mirror (arrOf ay) i j ((j-i)/2))):=
 ⟨h.si.setArr (mirror_perm _ _ _ _),λk hk=>by
  show(PyProof.Rows.mirror (arrOf ay) i j ((j-i)/2))[k]?=_;rw[getElem?_mirror_all (by rw[h.si.size];exact hj),if_neg ⋯];exact h.same k hk,h.pend⟩
theorem Fw.bubble{kd:SortKind}{a₀:Array Keyed}{lo src d:Nat}{st ay:SortSt}(h:Fw kd a₀ lo st ay)(hs:src<a₀.size)(hd:lo<=src-d)(hd2:d<=src):Fw kd a₀ lo st (setArr ay (bubble (arrOf ay) src d)):=
 ⟨h.si.setArr (bubble_perm _ _ _),λk hk=>by
  show(PyProof.Rows.bubble (arrOf ay) src d)[k]?=_;rw[getElem?_bubble (by rw[h.si.size];exact hs) d hd2,if_neg ⋯,if_neg ⋯];exact h.same k hk,h.pend⟩
section
variable {M:Model}{A:Around}{E:Value->Shared->Prop}{s:Shared}{ρ:Keyed->Nat}{kd:SortKind}{P:Keyed->Prop}{a₀:Array Keyed}
theorem bb{arr:Array Keyed}{i:Nat}{p:Keyed}{st:SortSt}{Q:Keyed->SortSt->Prop}(h:arr[i]?=some p)(q:Q p st):wpS M A E s (elem' arr i) Q st:=by
 rw[elem'_eq,h];exact wpS_pure q
theorem wpS_ltAt{st:SortSt}{i j:Nat}{Q:Option Bool->SortSt->Prop}(hL:gF M A E s ρ kd P)(h0:∀p∈a₀.toList,P p)(hB:SI kd a₀ st)(hi:i<a₀.size)(hj:j<a₀.size)
  (h:Q (some (decide (R ρ (arrOf st) i<R ρ (arrOf st) j))) st):wpS M A E s (ltAt' i j) Q st:=by
 obtain⟨p,e1,p1⟩:=hB.at h0 hi;obtain⟨q,e2,p2⟩:=hB.at h0 hj;rw[dz e1,dz e2]at h;rw[ltAt'_eq];refine wpS_bind (wpS_get ?_);show wpS _ _ _ _ (do let x <- elem' (arrOf st) i;let y <- elem' (arrOf st) j;lt' x y) Q st
 exact wpS_bind (bb e1 (wpS_bind (bb e2 (hL p q st Q p1 p2 hB.kind h))))
theorem wpS_reverse{st:SortSt}{i j:Nat}{Q:Unit->SortSt->Prop}(h:Q () (setArr st (mirror (arrOf st) i j ((j-i)/2)))):wpS M A E s (reverseSlice' i j) Q st:=by
 rw[reverseSlice'_eq];exact wpS_modify h
def Seg(ρ:Keyed->Nat)(xs:Array Keyed)(lo hi:Nat):Prop:=∀i j,lo<=i->i<=j->j<hi->R ρ xs i<=R ρ xs j
def Neg(ρ:Keyed->Nat)(xs:Array Keyed)(lo hi:Nat):Prop:=∀i j,lo<=i->i<=j->j<hi->R ρ xs j<=R ρ xs i
theorem Seg.one{xs:Array Keyed}{lo:Nat}:Seg ρ xs lo (lo+1):=λi j h1 h2 h3=>by
 have:i=j:=by omega
 subst this;exact Nat.le_refl _
theorem Seg.snoc{xs:Array Keyed}{lo hi:Nat}(h:Seg ρ xs lo hi)(hl:lo<hi)(hr:R ρ xs (hi-1)<=R ρ xs hi):Seg ρ xs lo (hi+1):=λi j h1 h2 h3=>by
 by_cases hj:j<hi
 ·exact h i j h1 h2 hj
 ·have:j=hi:=by omega
  subst this
  by_cases xu:i=j
  ·subst xu;exact Nat.le_refl _
  ·exact Nat.le_trans (h i (j-1) h1 ⋯ ⋯) hr
theorem Neg.snoc{xs:Array Keyed}{lo hi:Nat}(h:Neg ρ xs lo hi)(hl:lo<hi)(hr:R ρ xs hi<=R ρ xs (hi-1)):Neg ρ xs lo (hi+1):=λi j h1 h2 h3=>by
 by_cases hj:j<hi
 ·exact h i j h1 h2 hj
 ·have:j=hi:=by omega
  subst this
  by_cases xu:i=j
  ·subst xu;exact Nat.le_refl _
  ·exact Nat.le_trans hr (h i (j-1) h1 ⋯ ⋯)
def B4(lo a bU:Nat):StateT SortSt Sem (Option (Option Nat)×Nat):=
 forIn [a:bU] ((none,a):Option (Option Nat)×Nat) λ_ eK=>do
  let LQ <- ltAt' (lo+eK.snd) (lo+eK.snd-1)
  match LQ with
  | some sY=>if sY=true then pure (ForInStep.done (none,eK.snd))else pure (ForInStep.yield (none,eK.snd+1))
  | _=>pure (ForInStep.done (some none,eK.snd))
theorem wz{st:SortSt}{lo a bU:Nat}{Q:Option (Option Nat)×Nat->SortSt->Prop}(hL:gF M A E s ρ kd P)(h0:∀p∈a₀.toList,P p)(hn:lo+bU<=a₀.size)(ha:1<=a)(han:a<=bU)(hB:SI kd a₀ st)
  (hs:Seg ρ (arrOf st) lo (lo+a))
  (h:∀n,a<=n->n<=bU->Seg ρ (arrOf st) lo (lo+n)->(n=bU\/R ρ (arrOf st) (lo+n)<R ρ (arrOf st) (lo+n-1))->Q (none,n) st):wpS M A E s (B4 lo a bU) Q st:=by
 unfold B4;refine wpS_forRange (I:=λx c ay=>ay=st/\c=(none,x)/\Seg ρ (arrOf st) lo (lo+x)) ?step ?fin ⟨rfl,rfl,hs⟩
 case fin =>
  rintro c ay ⟨rfl,rfl,kX⟩;rw[show max a bU=bU by omega]at kX ⊢
  exact h bU han (Nat.le_refl _) kX (.inl rfl)
 case step =>
  rintro x c ay hax hxn ⟨rfl,rfl,kX⟩;dsimp only;refine wpS_bind (wpS_ltAt hL h0 hB ⋯ ⋯ ?_)
  by_cases hl:R ρ (arrOf ay) (lo+x)<R ρ (arrOf ay) (lo+x-1)
  ·simp only[hl,decide_true,if_true]
   exact wpS_pure (h x hax ⋯ kX (.inr hl))
  ·simp only[hl,decide_false,Bool.false_eq_true,if_false]
   refine wpS_pure ⟨rfl,rfl,?_⟩;exact kX.snoc ⋯ ⋯
def wo(lo n bU:Nat):StateT SortSt Sem (Option Nat):=do
 reverseSlice' lo (lo+n)
 let eK <- B4 lo n bU
 match eK.fst with
 | some r=>pure r
 | none=>pure (some eK.snd)
theorem rh{st cv:SortSt}{lo n bU:Nat}{Q:Option Nat->SortSt->Prop}(hL:gF M A E s ρ kd P)(h0:∀p∈a₀.toList,P p)(hn:lo+bU<=a₀.size)(h1:1<=n)(HG:n<=bU)(hB:Fw kd a₀ lo cv st)
  (hs:Neg ρ (arrOf st) lo (lo+n)) (h:∀m ay,Fw kd a₀ lo cv ay->1<=m->m<=bU->Seg ρ (arrOf ay) lo (lo+m)->Q (some m) ay):wpS M A E s (wo lo n bU) Q st:=by
 unfold wo;have hsz:lo+n<=(arrOf st).size:=by rw[hB.si.size];omega
 refine wpS_bind (wpS_reverse ?_);have jm:=hB.mirror (i:=lo) (j:=lo+n) (Nat.le_refl _) ⋯
 refine wpS_bind (wz hL h0 hn h1 HG jm.si ?_ λm ZQ nj hsm _=>wpS_pure (h m _ jm ⋯ nj hsm))
 intro i j hi lC hj;show R ρ (mirror (arrOf st) lo (lo+n) ((lo+n-lo)/2)) i<=R ρ (mirror (arrOf st) lo (lo+n) ((lo+n-lo)/2)) j;rw[nH hsz,nH hsz,if_pos ⋯,if_pos ⋯]
 exact hs _ _ ⋯ ⋯ ⋯
def yA(lo n bU:Nat):StateT SortSt Sem (Option (Option Nat)×Nat×Nat):=
 forIn [n:bU] ((none,n,0):Option (Option Nat)×Nat×Nat) λ_ eK=>do
  let LQ <- ltAt' (lo+eK.snd.fst) (lo+eK.snd.fst-1)
  match LQ with
  | some sY =>
   if sY=true then
    if eK.snd.snd>0 then do
     reverseSlice' (lo+eK.snd.fst-(eK.snd.snd+1)) (lo+eK.snd.fst)
     pure (ForInStep.yield (none,eK.snd.fst+1,0))
    else pure (ForInStep.yield (none,eK.snd.fst+1,0))
   else do
    let LQ <- ltAt' (lo+eK.snd.fst-1) (lo+eK.snd.fst)
    match LQ with
    | some Pt =>
     if Pt=true then pure (ForInStep.done (none,eK.snd.fst,eK.snd.snd))
     else pure (ForInStep.yield (none,eK.snd.fst+1,eK.snd.snd+1))
    | _=>pure (ForInStep.done (some none,eK.snd.fst,eK.snd.snd))
  | _=>pure (ForInStep.done (some none,eK.snd.fst,eK.snd.snd))
theorem Bf{st cv:SortSt}{lo n bU:Nat}{Q:Option (Option Nat)×Nat×Nat->SortSt->Prop}(hL:gF M A E s ρ kd P)(h0:∀p∈a₀.toList,P p)(hn:lo+bU<=a₀.size)(h1:1<=n)(HG:n<=bU)(hB:Fw kd a₀ lo cv st)
  (hs:Neg ρ (arrOf st) lo (lo+n))
  (h:∀m xK ay,Fw kd a₀ lo cv ay->n<=m->m<=bU->Neg ρ (arrOf ay) lo (lo+m)->xK+1<=m->(∀i,lo+m-(xK+1)<=i->i<lo+m->R ρ (arrOf ay) i=R ρ (arrOf ay) (lo+m-1))->Q (none,m,xK) ay):
  wpS M A E s (yA lo n bU) Q st:=by
 unfold yA;refine wpS_forRange (I:=λx c ay=>∃xK,c=(none,x,xK)/\Fw kd a₀ lo cv ay/\Neg ρ (arrOf ay) lo (lo+x)/\xK+1<=x /\
   (∀i,lo+x-(xK+1)<=i->i<lo+x->R ρ (arrOf ay) i=R ρ (arrOf ay) (lo+x-1))) ?step ?fin ⟨0,rfl,hB,hs,by omega,λi h1 h2=>by congr 1;omega⟩
 case fin =>
  rintro c ay ⟨xK,rfl,jm,kX,hq,he⟩;rw[show max n bU=bU by omega]at kX hq he ⊢
  exact h bU xK ay jm HG (Nat.le_refl _) kX hq he
 case step =>
  rintro x c ay hax hxn ⟨xK,rfl,jm,kX,hq,he⟩;dsimp only;have hsz:lo+x<=(arrOf ay).size:=by rw[jm.si.size];omega
  refine wpS_bind (wpS_ltAt hL h0 jm.si ⋯ ⋯ ?_)
  by_cases hl:R ρ (arrOf ay) (lo+x)<R ρ (arrOf ay) (lo+x-1)
  ·simp only[hl,decide_true,if_true]
   have zQ:∀xs:Array Keyed,(∀k,R ρ xs k=R ρ (arrOf ay) k)->Neg ρ xs lo (lo+(x+1)):=λxs hk=>by
    have:=kX.snoc ⋯ (Nat.le_of_lt hl)
    intro i j h1 h2 h3;rw[hk,hk];exact this i j h1 h2 h3
   by_cases D3:xK>0
   ·rw[if_pos D3]
    refine wpS_bind (wpS_reverse (wpS_pure ⟨0,rfl,jm.mirror ⋯ ⋯,zQ _ (cK hsz he),by omega,λi h1 h2=>by congr 1;omega⟩))
   ·rw[if_neg D3]
    exact wpS_pure ⟨0,rfl,jm,zQ _ (λ_=>rfl),by omega,λi h1 h2=>by congr 1;omega⟩
  ·simp only[hl,decide_false,Bool.false_eq_true,if_false]
   refine wpS_bind (wpS_ltAt hL h0 jm.si ⋯ ⋯ ?_)
   by_cases hg:R ρ (arrOf ay) (lo+x-1)<R ρ (arrOf ay) (lo+x)
   ·simp only[hg,decide_true,if_true]
    exact wpS_pure (h x xK ay jm hax ⋯ kX hq he)
   ·simp only[hg,decide_false,Bool.false_eq_true,if_false]
    have heq:R ρ (arrOf ay) (lo+x)=R ρ (arrOf ay) (lo+x-1):=by omega
    refine wpS_pure ⟨xK+1,rfl,jm,kX.snoc ⋯ ⋯,by omega,λi h1 h2=>?_⟩
    rw[show lo+(x+1)-1=lo+x by omega]
    by_cases hix:i=lo+x
    ·rw[hix]
    ·rw[heq];exact he i ⋯ ⋯
def uP(lo n bU:Nat):StateT SortSt Sem (Option Nat):=do
 liftM (rule "list.sort.descending-run")
 let eK <- yA lo (n+1) bU
 match eK.fst with
 | some r=>pure r
 | none =>
  if eK.snd.snd>0 then do
   reverseSlice' (lo+eK.snd.fst-(eK.snd.snd+1)) (lo+eK.snd.fst)
   wo lo eK.snd.fst bU
  else wo lo eK.snd.fst bU
theorem qZ{st cv:SortSt}{lo n bU:Nat}{Q:Option Nat->SortSt->Prop}(hL:gF M A E s ρ kd P)(h0:∀p∈a₀.toList,P p)(hn:lo+bU<=a₀.size)(HG:n+1<=bU)(hB:Fw kd a₀ lo cv st)
  (hs:Neg ρ (arrOf st) lo (lo+(n+1))) (h:∀m ay,Fw kd a₀ lo cv ay->1<=m->m<=bU->Seg ρ (arrOf ay) lo (lo+m)->Q (some m) ay):wpS M A E s (uP lo n bU) Q st:=by
 unfold uP;refine wpS_bind (wpS_lift (wpAny_rule ⟨rfl,?_⟩));refine wpS_bind (Bf hL h0 hn ⋯ HG hB hs λm xK ay jm ZQ nj kX hq he=>?_)
 dsimp only;have hsz:lo+m<=(arrOf ay).size:=by rw[jm.si.size];omega
 by_cases D3:xK>0
 ·rw[if_pos D3]
  refine wpS_bind (wpS_reverse (rh hL h0 hn ⋯ nj (jm.mirror ⋯ ⋯) ?_ h))
  intro i j h1 h2 h3;show R ρ (mirror (arrOf ay) _ _ _) j<=R ρ (mirror (arrOf ay) _ _ _) i;rw[cK hsz he,cK hsz he];exact kX i j h1 h2 h3
 ·rw[if_neg D3]
  exact rh hL h0 hn ⋯ nj jm kX h
local macro_rules|`(tactic| walk_at "s_tail")=>`(tactic| (funext s3;obtain⟨r3,n3⟩:=s3;cases r3<;>rfl))
local macro_rules|`(tactic| walk_at "s_t3")=>`(tactic| (congr 1;funext _w;congr 1;walk_at "s_tail"))
local macro_rules|`(tactic| walk_at "s_desc")=>`(tactic| (congr 1;funext _u;congr 1;congr 1;funext s2;obtain⟨r2,n2,q2⟩:=s2;cases r2 with
  | some r2=>rfl
  | none=>(dsimp only;split;(congr 1;funext _v;walk_at "s_t3");walk_at "s_t3")))
theorem rN(lo bU:Nat):countRun' lo bU=(do
  let eK <- B4 lo 1 bU
  match eK.fst with
  | some r=>pure r
  | none =>
   if(eK.snd==bU)=true then pure (some eK.snd)
   else if eK.snd>1 then do
    let LQ <- ltAt' lo (lo+eK.snd-1)
    match LQ with
    | some abd=>if abd=true then pure (some eK.snd)else do
      reverseSlice' lo (lo+eK.snd)
      uP lo eK.snd bU
    | _=>pure none
   else uP lo eK.snd bU):=by
 rw[countRun'_eq];dsimp only;unfold uP wo yA B4;congr 1;funext eK;obtain⟨r,n⟩:=eK;cases r with
 | some r=>rfl
 | none =>
  dsimp only
  split
  ·rfl
  ·split
   ·congr 1
    funext x;cases x with
    | none=>rfl
    | some b =>
     dsimp only
     split
     ·rfl
     ·congr 1
      funext _z;walk_at "s_desc"
   ·walk_at "s_desc"
end
end Vs
namespace Vs
open PySem PyProof.Rows
section
variable {M:Model}{A:Around}{E:Value->Shared->Prop}{s:Shared}{ρ:Keyed->Nat}{kd:SortKind}{P:Keyed->Prop}{a₀:Array Keyed}
theorem wpS_countRun{st:SortSt}{lo bU:Nat}{Q:Option Nat->SortSt->Prop}(hL:gF M A E s ρ kd P)(h0:∀p∈a₀.toList,P p)(hn:lo+bU<=a₀.size)(h1:1<=bU)(hB:SI kd a₀ st)
  (h:∀m ay,Fw kd a₀ lo st ay->1<=m->m<=bU->Seg ρ (arrOf ay) lo (lo+m)->Q (some m) ay):wpS M A E s (countRun' lo bU) Q st:=by
 rw[rN];refine wpS_bind (wz hL h0 hn (Nat.le_refl 1) h1 hB Seg.one λn Uy Ot UD hor=>?_);dsimp only
 by_cases HG:n=bU
 ·rw[if_pos (by simpa using HG)]
  exact wpS_pure (h n st (.refl hB) Uy Ot UD)
 ·rw[if_neg (by simpa using HG)]
  have jn:=hor.resolve_left HG
  by_cases hgt:n>1
  ·rw[if_pos hgt]
   refine wpS_bind (wpS_ltAt hL h0 hB ⋯ ⋯ ?_)
   by_cases hr:R ρ (arrOf st) lo<R ρ (arrOf st) (lo+n-1)
   ·simp only[hr,decide_true,if_true]
    exact wpS_pure (h n st (.refl hB) Uy Ot UD)
   ·simp only[hr,decide_false,Bool.false_eq_true,if_false]
    have hsz:lo+n<=(arrOf st).size:=by rw[hB.size];omega
    have fZ:∀k,lo<=k->k<lo+n->R ρ (arrOf st) k=R ρ (arrOf st) (lo+n-1):=λk sj KS=>by
     have a1:=UD lo k (Nat.le_refl _) sj KS;have a2:=UD k (lo+n-1) sj ⋯ ⋯
     omega
    refine wpS_bind (wpS_reverse (qZ hL h0 hn ⋯ ((Fw.refl hB).mirror (Nat.le_refl _) ⋯) ?_ h))
    intro i j hi lC hj;show R ρ (mirror (arrOf st) _ _ _) j<=R ρ (mirror (arrOf st) _ _ _) i;rw[cK hsz fZ,cK hsz fZ]
    by_cases hjn:j<lo+n
    ·rw[fZ i hi ⋯,fZ j ⋯ hjn];exact Nat.le_refl _
    ·have WZ:j=lo+n:=by omega
     subst WZ
     by_cases xu:i=lo+n
     ·subst xu;exact Nat.le_refl _
     ·rw[fZ i hi ⋯];exact Nat.le_of_lt jn
  ·rw[if_neg hgt]
   have Oq:n=1:=by omega
   subst Oq;refine qZ hL h0 hn ⋯ (.refl hB) ?_ h
   intro i j hi lC hj
   by_cases xu:i=j
   ·subst xu;exact Nat.le_refl _
   ·have hi0:i=lo:=by omega
    have hj1:j=lo+1:=by omega
    subst hi0;subst hj1;exact Nat.le_of_lt jn
theorem wpS_binarySort{st:SortSt}{lo n ok:Nat}{Q:Bool->SortSt->Prop}(hL:gF M A E s ρ kd P)(h0:∀p∈a₀.toList,P p)(hn:lo+n<=a₀.size)(bw:ok<=n)(hB:SI kd a₀ st)(hs:Seg ρ (arrOf st) lo (lo+ok))
  (h:∀ay,Fw kd a₀ lo st ay->Seg ρ (arrOf ay) lo (lo+n)->Q true ay):wpS M A E s (binarySort' lo n ok) Q st:=by
 rw[binarySort'_eq];refine wpS_bind (wpS_mono (wpS_forRange (I:=λk c ay=>c=(none,())/\Fw kd a₀ lo st ay/\Seg ρ (arrOf ay) lo (lo+min k n))
  (Q:=λc ay=>c=(none,())/\Fw kd a₀ lo st ay/\Seg ρ (arrOf ay) lo (lo+n)) ?step ?fin ?init) ?post)
 case post =>
  rintro c ay ⟨rfl,jm,kX⟩;exact wpS_pure (h ay jm kX)
 case init =>
  refine⟨rfl,.refl hB,λi j hi lC hj=>?_⟩
  by_cases h1:ok=0
  ·have:i=j:=by omega
   subst this;exact Nat.le_refl _
  ·exact hs i j hi lC ⋯
 case fin =>
  rintro c ay ⟨hc,jm,kX⟩;refine⟨hc,jm,?_⟩
  rwa [show min (max (max ok 1) n) n=n by omega]at kX
 case step =>
  rintro k c ay hak hkn ⟨rfl,jm,kX⟩;rw[show min k n=k by omega]at kX
  have hk:lo+k<a₀.size:=by omega
  refine wpS_bind (wpS_mono (wpS_forRange (I:=λx c dA=>dA=ay/\∃l r,c=(none,l,r)/\l<=r/\r<=k/\r-l<=k-x /\
    (∀i,i<l->R ρ (arrOf ay) (lo+i)<=R ρ (arrOf ay) (lo+k))/\(∀i,r<=i->i<k->R ρ (arrOf ay) (lo+k)<R ρ (arrOf ay) (lo+i)))
   (Q:=λc dA=>dA=ay/\∃l r,c=(none,l,r)/\l<=k /\
    (∀i,i<l->R ρ (arrOf ay) (lo+i)<=R ρ (arrOf ay) (lo+k))/\(∀i,l<=i->i<k->R ρ (arrOf ay) (lo+k)<R ρ (arrOf ay) (lo+i))) ?istep ?ifin ?iinit) ?ipost)
  case iinit=>exact⟨rfl,0,k,rfl,by omega,by omega,by omega,λi hi=>by omega,λi h1 h2=>by omega⟩
  case ifin =>
   rintro c dA ⟨rfl,l,r,rfl,hlr,hrk,hm,yR,Ux⟩;have:l=r:=by omega
   subst this;exact⟨rfl,l,l,rfl,hrk,yR,Ux⟩
  case istep =>
   rintro x c dA _ hxk ⟨rfl,l,r,rfl,hlr,hrk,hm,yR,Ux⟩;dsimp only
   by_cases wQ:l>=r
   ·rw[if_pos wQ]
    have:l=r:=by omega
    subst this;exact wpS_pure ⟨rfl,l,l,rfl,hrk,yR,Ux⟩
   ·rw[if_neg wQ]
    refine wpS_bind (wpS_ltAt hL h0 jm.si hk ⋯ ?_)
    by_cases yQ:R ρ (arrOf dA) (lo+k)<R ρ (arrOf dA) (lo+(l+r)/2)
    ·simp only[yQ,decide_true,if_true]
     refine wpS_pure ⟨rfl,l,(l+r)/2,rfl,by omega,by omega,by omega,yR,λi h1 h2=>?_⟩
     exact Nat.lt_of_lt_of_le yQ (kX _ _ ⋯ ⋯ ⋯)
    ·simp only[yQ,decide_false,Bool.false_eq_true,if_false]
     refine wpS_pure ⟨rfl,(l+r)/2+1,r,rfl,by omega,by omega,by omega,λi h1=>?_,Ux⟩
     exact Nat.le_trans (kX (lo+i) (lo+(l+r)/2) ⋯ ⋯ ⋯) (Nat.not_lt.mp yQ)
  case ipost =>
   rintro c dA ⟨rfl,l,r,rfl,KU,yR,Ux⟩;show wpS _ _ _ _ (do moveDown' (lo+k) (lo+l);pure (ForInStep.yield (none,()))) _ _
   rw[moveDown'_eq];refine wpS_bind (wpS_modify (wpS_pure ⟨rfl,jm.bubble hk ⋯ ⋯,?_⟩))
   rw[show min (k+1) n=k+1 by omega]
   have hks:lo+k<(arrOf dA).size:=by rw[jm.si.size];exact hk
   intro i j hi lC hj;show R ρ (bubble (arrOf dA) (lo+k) (lo+k-(lo+l))) i<=R ρ (bubble (arrOf dA) (lo+k) (lo+k-(lo+l))) j;rw[uD hks ⋯,uD hks ⋯,show lo+k-(lo+k-(lo+l))=lo+l by omega]
   have aaC:∀i,lo<=i->i<lo+l->R ρ (arrOf dA) i<=R ρ (arrOf dA) (lo+k):=λi h1 h2=>by
    have:=yR (i-lo) ⋯;rwa [show lo+(i-lo)=i by omega]at this
   have aaz:∀i,lo+l<=i->i<lo+k->R ρ (arrOf dA) (lo+k)<R ρ (arrOf dA) i:=λi h1 h2=>by
    have:=Ux (i-lo) ⋯ ⋯;rwa [show lo+(i-lo)=i by omega]at this
   repeat' split
   all_goals first
    | (exfalso;omega)
    | exact Nat.le_refl _
    | exact aaC _ ⋯ ⋯
    | exact Nat.le_of_lt (aaz _ ⋯ ⋯)
    | exact kX _ _ ⋯ ⋯ ⋯
def cF:Bool->Keyed->Array Keyed->Nat->Nat->Nat->StateT SortSt Sem (Option Nat):=sortPriv% PySem.Builtin.gallop
def fS(left:Bool)(key:Keyed)(arr:Array Keyed)(base i:Nat):StateT SortSt Sem (Option Bool):=do
 let x <- elem' arr (base+i)
 if left then lt' x key else return(<- lt' key x).map (!·)
theorem xr(left:Bool)(key:Keyed)(arr:Array Keyed)(base n hint:Nat):cF left key arr base n hint=(do
 let mut nu:=0
 let mut Bm:=1
 let mut lo:=0
 let mut hi:=0
 let some right <- fS left key arr base hint|return none
 if right then
  let oE:=n-hint
  for _ in [0:n]do
   if Bm>=oE then break
   let some more <- fS left key arr base (hint+Bm)|return none
   if !more then break
   nu:=Bm
   Bm:=2*Bm+1
  lo:=hint+nu+1
  hi:=hint+min Bm oE
 else
  let oE:=hint+1
  for _ in [0:n]do
   if Bm>=oE then break
   let some found <- fS left key arr base (hint-Bm)|return none
   if found then break
   nu:=Bm
   Bm:=2*Bm+1
  lo:=hint+1-min Bm oE
  hi:=hint-nu
 for _ in [0:n]do
  if lo>=hi then break
  let m:=lo+(hi-lo)/2
  let some more <- fS left key arr base m|return none
  if more then lo:=m+1 else hi:=m
 return some hi):=rfl
end
end Vs
namespace Vs
open PySem PyProof.Rows
section
variable {M:Model}{A:Around}{E:Value->Shared->Prop}{s:Shared}{ρ:Keyed->Nat}{kd:SortKind}{P:Keyed->Prop}{a₀:Array Keyed}
def WD(left:Bool)(key:Keyed)(arr:Array Keyed)(base n l h:Nat):StateT SortSt Sem (Option Nat):=do
 let mut lo:=l
 let mut hi:=h
 for _ in [0:n]do
  if lo>=hi then break
  let m:=lo+(hi-lo)/2
  let some more <- fS left key arr base m|return none
  if more then lo:=m+1 else hi:=m
 return some hi
def Tells(M:Model)(A:Around)(E:Value->Shared->Prop)(s:Shared)(left:Bool)(key:Keyed)(arr:Array Keyed)(base n:Nat)(st:SortSt)(p:Nat->Bool):Prop:=
 ∀i,i<n->∀Q:Option Bool->SortSt->Prop,Q (some (p i)) st->wpS M A E s (fS left key arr base i) Q st
theorem wA{left:Bool}{key:Keyed}{arr:Array Keyed}{base n l h:Nat}{st:SortSt}{p:Nat->Bool}{Q:Option Nat->SortSt->Prop}(hT:Tells M A E s left key arr base n st p)(hp:∀i j,i<=j->j<n->p j=true->p i=true)
  (hlh:l<=h) (hh:h<=n) (h1:∀i,i<l->p i=true) (h2:∀i,h<=i->i<n->p i=false)
  (q:∀k,k<=n->(∀i,i<k->p i=true)->(∀i,k<=i->i<n->p i=false)->Q (some k) st):wpS M A E s (WD left key arr base n l h) Q st:=by
 unfold WD;dsimp only;refine wpS_bind (wpS_mono (wpS_forRange (I:=λx c ay=>ay=st/\∃l h,c=(none,l,h)/\l<=h/\h<=n/\h-l<=n-x/\(∀i,i<l->p i=true)/\(∀i,h<=i->i<n->p i=false))
  (Q:=λc ay=>ay=st/\∃k,c=(none,k,k)/\k<=n/\(∀i,i<k->p i=true)/\(∀i,k<=i->i<n->p i=false)) ?step ?fin ⟨rfl,l,h,rfl,hlh,hh,by omega,h1,h2⟩) ?post)
 case post =>
  rintro c ay ⟨rfl,k,rfl,hk,q1,q2⟩;exact wpS_pure (q k hk q1 q2)
 case fin =>
  rintro c ay ⟨rfl,l,h,rfl,a1,a2,a3,a4,a5⟩;have:l=h:=by omega
  subst this;exact⟨rfl,l,rfl,a2,a4,a5⟩
 case step =>
  rintro x c ay _ hx ⟨rfl,l,h,rfl,a1,a2,a3,a4,a5⟩;dsimp only
  by_cases wQ:l>=h
  ·rw[if_pos wQ]
   have:l=h:=by omega
   subst this;exact wpS_pure ⟨rfl,l,rfl,a2,a4,a5⟩
  ·rw[if_neg wQ]
   refine wpS_bind (hT _ ⋯ _ ?_)
   cases hm:p (l+(h-l)/2)with
   | true =>
    simp only[if_true];exact wpS_pure ⟨rfl,_,_,rfl,by omega,a2,by omega,λi hi=>hp i _ ⋯ ⋯ hm,a5⟩
   | false =>
    simp only[Bool.false_eq_true,if_false];refine wpS_pure ⟨rfl,_,_,rfl,by omega,by omega,by omega,a4,λi hi hn=>?_⟩
    cases e:p i with
    | false=>rfl
    | true=>rw[hp _ i hi hn e]at hm;cases hm
theorem dP{left:Bool}{key:Keyed}{arr:Array Keyed}{base n hint:Nat}{st:SortSt}{p:Nat->Bool}{Q:Option Nat->SortSt->Prop}(hT:Tells M A E s left key arr base n st p)(hp:∀i j,i<=j->j<n->p j=true->p i=true)(hn:hint<n)
  (q:∀k,k<=n->(∀i,i<k->p i=true)->(∀i,k<=i->i<n->p i=false)->Q (some k) st):wpS M A E s (cF left key arr base n hint) Q st:=by
 rw[xr];dsimp only;refine wpS_bind (hT hint hn _ ?_);have pf:∀i j,i<=j->j<n->p i=false->p j=false:=λi j h1 h2 h3=>by
  cases e:p j with
  | false=>rfl
  | true=>rw[hp i j h1 h2 e]at h3;cases h3
 cases h0:p hint with
 | true =>
  dsimp only;rw[if_pos rfl];refine wpS_bind (wpS_mono (wpS_forRange (I:=λx c ay=>ay=st/\∃l o,c=(none,l,o)/\l<o/\x+1<=o/\hint+l<n/\p (hint+l)=true)
   (Q:=λc ay=>ay=st/\∃l o,c=(none,l,o)/\l<o/\hint+l<n/\p (hint+l)=true/\(n-hint<=o\/(hint+o<n/\p (hint+o)=false))) ?step ?fin ⟨rfl,0,1,rfl,by omega,by omega,hn,h0⟩) ?post)
  case fin =>
   rintro c ay ⟨rfl,l,o,rfl,a1,a2,a3,a4⟩;exact⟨rfl,l,o,rfl,a1,a3,a4,.inl ⋯⟩
  case step =>
   rintro x c ay _ hx ⟨rfl,l,o,rfl,a1,a2,a3,a4⟩;dsimp only
   by_cases wQ:o>=n-hint
   ·rw[if_pos wQ]
    exact wpS_pure ⟨rfl,l,o,rfl,a1,a3,a4,.inl wQ⟩
   ·rw[if_neg wQ]
    refine wpS_bind (hT _ ⋯ _ ?_)
    cases hm:p (hint+o)with
    | true =>
     simp only[Bool.not_true,Bool.false_eq_true,if_false];exact wpS_pure ⟨rfl,_,_,rfl,by omega,by omega,by omega,hm⟩
    | false =>
     simp only[Bool.not_false,if_true];exact wpS_pure ⟨rfl,_,_,rfl,a1,a3,a4,.inr ⟨by omega,hm⟩⟩
  case post =>
   rintro c ay ⟨rfl,l,o,rfl,a1,a3,a4,a5⟩;refine wA (l:=hint+l+1) (h:=hint+min o (n-hint)) hT hp ⋯ ⋯ (λi hi=>hp i _ ⋯ a3 a4) (λi hi HF=>?_) q
   rcases a5 with a5|⟨a5,a6⟩
   ·omega
   ·exact pf (hint+o) i ⋯ HF a6
 | false =>
  dsimp only;rw[if_neg ∅]
  refine wpS_bind (wpS_mono (wpS_forRange (I:=λx c ay=>ay=st/\∃l o,c=(none,l,o)/\l<o/\x+1<=o/\l<=hint/\p (hint-l)=false)
   (Q:=λc ay=>ay=st/\∃l o,c=(none,l,o)/\l<o/\l<=hint/\p (hint-l)=false/\(hint+1<=o\/(o<=hint/\p (hint-o)=true))) ?step2 ?fin2 ⟨rfl,0,1,rfl,by omega,by omega,by omega,h0⟩) ?post2)
  case fin2 =>
   rintro c ay ⟨rfl,l,o,rfl,a1,a2,a3,a4⟩;exact⟨rfl,l,o,rfl,a1,a3,a4,.inl ⋯⟩
  case step2 =>
   rintro x c ay _ hx ⟨rfl,l,o,rfl,a1,a2,a3,a4⟩;dsimp only
   by_cases wQ:o>=hint+1
   ·rw[if_pos wQ]
    exact wpS_pure ⟨rfl,l,o,rfl,a1,a3,a4,.inl wQ⟩
   ·rw[if_neg wQ]
    refine wpS_bind (hT _ ⋯ _ ?_)
    cases hm:p (hint-o)with
    | true =>
     simp only[if_true];exact wpS_pure ⟨rfl,_,_,rfl,a1,a3,a4,.inr ⟨by omega,hm⟩⟩
    | false =>
     simp only[Bool.false_eq_true,if_false];exact wpS_pure ⟨rfl,_,_,rfl,by omega,by omega,by omega,hm⟩
  case post2 =>
   rintro c ay ⟨rfl,l,o,rfl,a1,a3,a4,a5⟩;refine wA (l:=hint+1-min o (hint+1)) (h:=hint-l) hT hp ⋯ ⋯ (λi hi=>?_) (λi hi HF=>pf (hint-l) i hi HF a4) q
   rcases a5 with a5|⟨a5,a6⟩
   ·omega
   ·exact hp i (hint-o) ⋯ ⋯ a6
def qe(ρ:Keyed->Nat)(left:Bool)(key:Keyed)(arr:Array Keyed)(base i:Nat):Bool:=if left=true then decide (R ρ arr (base+i)<ρ key)else !decide (ρ key<R ρ arr (base+i))
theorem tells{left:Bool}{key:Keyed}{arr:Array Keyed}{base n:Nat}{st:SortSt}(hL:gF M A E s ρ kd P)(hk:kindOf st=kd)(pk:P key)(pa:∀i,i<n->∃x,arr[base+i]?=some x/\P x):Tells M A E s left key arr base n st (qe ρ left key arr base):=λi hi Q q=>by
 obtain⟨x,e,px⟩:=pa i hi;unfold fS;refine wpS_bind (bb e ?_);unfold qe at q;rw[dz e]at q;cases left with
 | true =>
  simp only[if_true]at q ⊢;exact hL x key st Q px pk hk q
 | false =>
  simp only[Bool.false_eq_true,if_false]at q ⊢;exact wpS_bind (hL key x st _ pk px hk (wpS_pure q))
end
end Vs
namespace Vs
open PySem PyProof.Rows
def oG:Array Keyed->Array Keyed->StateT SortSt Sem (Array Keyed):=sortPriv% PySem.Builtin.mergeLo
def oF:Array Keyed->Array Keyed->StateT SortSt Sem (Array Keyed):=sortPriv% PySem.Builtin.mergeHi
def fb:Nat->StateT SortSt Sem Unit:=sortPriv% PySem.Builtin.setMinGallop
theorem eV(g:Nat):fb g=modify (λst=>SortSt.mk' (kindOf st) (arrOf st) (pendingOf st) g (failedOf st)):=rfl
def So(ρ:Keyed->Nat)(l:List Keyed):Prop:=l.Pairwise λx y=>ρ x<=ρ y
structure J(ρ:Keyed->Nat)(L O A B:List Keyed):Prop where
 o:So ρ O
 a:So ρ A
 b:So ρ B
 oa:∀x∈O,∀y∈A,ρ x<=ρ y
 ob:∀x∈O,∀y∈B,ρ x<=ρ y
 p:(O++(A++B)).Perm L
def Good(ρ:Keyed->Nat)(L r:List Keyed):Prop:=So ρ r/\r.Perm L
theorem So.app{ρ:Keyed->Nat}{A B:List Keyed}(h1:So ρ A)(h2:So ρ B)(h:∀x∈A,∀y∈B,ρ x<=ρ y):So ρ (A++B):=List.pairwise_append.mpr ⟨h1,h2,h⟩
section
variable {ρ:Keyed->Nat}{L O A B X:List Keyed}{x z:Keyed}
theorem J.jL(j:J ρ L O (X++A) B)(h:∀x∈X,∀y∈B,ρ x<=ρ y):J ρ L (O++X) A B:=by
 obtain⟨a1,a2,a3⟩:=List.pairwise_append.mp j.a;refine⟨j.o.app a1 λx hx y hy=>j.oa x hx y (List.mem_append_left _ hy),a2,j.b,λx hx y hy=>?_,λx hx y hy=>?_,?_⟩
 ·rcases List.mem_append.mp hx with hx|hx
  ·exact j.oa x hx y (List.mem_append_right _ hy)
  ·exact a3 x hx y hy
 ·rcases List.mem_append.mp hx with hx|hx
  ·exact j.ob x hx y hy
  ·exact h x hx y hy
 ·have:=j.p
  simpa [List.append_assoc]using this
theorem J.jM(j:J ρ L O A (X++B))(h:∀x∈X,∀y∈A,ρ x<=ρ y):J ρ L (O++X) A B:=by
 obtain⟨a1,a2,a3⟩:=List.pairwise_append.mp j.b;refine⟨j.o.app a1 λx hx y hy=>j.ob x hx y (List.mem_append_left _ hy),j.a,a2,λx hx y hy=>?_,λx hx y hy=>?_,?_⟩
 ·rcases List.mem_append.mp hx with hx|hx
  ·exact j.oa x hx y hy
  ·exact h x hx y hy
 ·rcases List.mem_append.mp hx with hx|hx
  ·exact j.ob x hx y (List.mem_append_right _ hy)
  ·exact a3 x hx y hy
 ·refine List.Perm.trans ?_ j.p
  rw[List.append_assoc];refine List.Perm.append_left O ?_;rw[<- List.append_assoc,<- List.append_assoc];exact List.Perm.append_right B List.perm_append_comm
theorem J.i3(j:J ρ L O A []):Good ρ L (O++A):=⟨j.o.app j.a j.oa,by simpa using j.p⟩
theorem J.iZ(j:J ρ L O [] B):Good ρ L (O++B):=⟨j.o.app j.b j.ob,by simpa using j.p⟩
theorem J.last(j:J ρ L O [z] B)(h:∀y∈B,ρ y<=ρ z):Good ρ L (O++B++[z]):=by
 refine⟨(j.o.app j.b j.ob).app (List.pairwise_singleton ..) λx hx y hy=>?_,?_⟩
 ·rw[List.mem_singleton.mp hy]
  rcases List.mem_append.mp hx with hx|hx
  ·exact j.oa x hx z (List.mem_singleton.mpr rfl)
  ·exact h x hx
 ·refine List.Perm.trans ?_ j.p
  rw[List.append_assoc];exact List.Perm.append_left O List.perm_append_comm
end
theorem kS{a:Array Keyed}{i:Nat}{x:Keyed}(h:a[i]?=some x):a.toList.drop i=x::a.toList.drop (i+1):=by
 have hi:i<a.toList.length:=by
  have:=(Array.getElem?_eq_some_iff.mp h).1;simpa using this
 rw[List.drop_eq_getElem_cons hi];have:a.toList[i]=x:=by
  have:=(Array.getElem?_eq_some_iff.mp h).2;simpa using this
 rw[this]
theorem mn(a:Array Keyed)(i:Nat):(a.extract i a.size).toList=a.toList.drop i:=by
 rw[Array.toList_extract];show(a.toList.drop i).take (a.size-i)=_;exact List.take_of_length_le (by rw[List.length_drop];exact Nat.le_refl _)
theorem nD(a:Array Keyed)(i k:Nat):(a.extract i (i+k)).toList=(a.toList.drop i).take k:=by
 rw[Array.toList_extract];show(a.toList.drop i).take (i+k-i)=_;rw[Nat.add_sub_cancel_left]
theorem wu(a:Array Keyed)(i k:Nat):a.toList.drop i=(a.toList.drop i).take k++a.toList.drop (i+k):=by
 rw[<- List.drop_drop,List.take_append_drop]
theorem pF{a:Array Keyed}{i:Nat}(h:i=a.size):a.toList.drop i=[]:=by
 subst h;exact List.drop_length
theorem mO{a:Array Keyed}{i k:Nat}{x:Keyed}(h:x∈(a.toList.drop i).take k):∃m,m<k/\i+m<a.size/\a[i+m]?=some x:=by
 obtain⟨m,hm,e⟩:=List.mem_iff_getElem.mp h;rw[List.length_take,List.length_drop]at hm;rw[List.getElem_take,List.getElem_drop]at e;have hs:i+m<a.size:=by have:a.toList.length=a.size:=rfl;omega
 exact⟨m,by omega,hs,by rw[Array.getElem?_eq_getElem hs];exact congrArg some (by simpa using e)⟩
theorem Gh{a:Array Keyed}{i:Nat}{x:Keyed}(h:x∈a.toList.drop i):∃m,i<=m/\m<a.size/\a[m]?=some x:=by
 obtain⟨m,hm,e⟩:=List.mem_iff_getElem.mp h;rw[List.length_drop]at hm;rw[List.getElem_drop]at e;have hs:i+m<a.size:=by have:a.toList.length=a.size:=rfl;omega
 exact⟨i+m,by omega,hs,by rw[Array.getElem?_eq_getElem hs];exact congrArg some (by simpa using e)⟩
theorem So.seg{ρ:Keyed->Nat}{a:Array Keyed}(h:So ρ a.toList):Seg ρ a 0 a.size:=λi j _ lC hj=>by
 by_cases e:i=j
 ·subst e;exact Nat.le_refl _
 ·have hi:i<a.size:=by omega
  rw[dz (Array.getElem?_eq_getElem hi),dz (Array.getElem?_eq_getElem hj)];have:=List.pairwise_iff_getElem.mp h i j (by simpa using hi) (by simpa using hj) ⋯
  simpa using this
structure Kp(st ay:SortSt):Prop where
 a:arrOf ay=arrOf st
 k:kindOf ay=kindOf st
 p:pendingOf ay=pendingOf st
 f:failedOf ay=failedOf st
theorem Kp.refl{st:SortSt}:Kp st st:=⟨rfl,rfl,rfl,rfl⟩
theorem Kp.min{st ay:SortSt}(h:Kp st ay)(g:Nat):Kp st (SortSt.mk' (kindOf ay) (arrOf ay) (pendingOf ay) g (failedOf ay)):=⟨h.a,h.k,h.p,h.f⟩
section
variable {M:Model}{A:Around}{E:Value->Shared->Prop}{s:Shared}{ρ:Keyed->Nat}{kd:SortKind}{P:Keyed->Prop}
theorem dC{a:Array Keyed}(pa:∀x∈a.toList,P x){i:Nat}(h:i<a.size):∃x,a[i]?=some x/\P x:=
 ⟨a[i],Array.getElem?_eq_getElem h,pa _ (by simp)⟩
theorem Gr{key:Keyed}{arr:Array Keyed}{base:Nat}{st:SortSt}{Q:Option Nat->SortSt->Prop}(hL:gF M A E s ρ kd P)(hk:kindOf st=kd)(pk:P key)(pa:∀x∈arr.toList,P x)(hs:So ρ arr.toList)(hb:base<arr.size)
  (q:∀k,base+k<=arr.size->(∀x∈(arr.toList.drop base).take k,ρ x<=ρ key)->(∀x∈arr.toList.drop (base+k),ρ key<ρ x)->Q (some k) st):wpS M A E s (cF false key arr base (arr.size-base) 0) Q st:=by
 refine dP (tells hL hk pk λi hi=>dC pa ⋯) (λi j lC hj h=>?_) ⋯ λk sj h1 h2=>q k ⋯ (λx hx=>?_) λx hx=>?_
 ·have:=hs.seg (base+i) (base+j) (Nat.zero_le _) ⋯ ⋯
  simp only[qe,Bool.false_eq_true,if_false,Bool.not_eq_true',decide_eq_false_iff_not]at h ⊢;omega
 ·obtain⟨m,hm,nj,e⟩:=mO hx
  have:=h1 m hm;simp only[qe,Bool.false_eq_true,if_false,Bool.not_eq_true',decide_eq_false_iff_not,dz e]at this;omega
 ·obtain⟨m,hm,nj,e⟩:=Gh hx
  have:=h2 (m-base) ⋯ ⋯
  rw[show base+k=base+k from rfl]at hm
  simp only[qe,Bool.false_eq_true,if_false,show base+(m-base)=m by omega,dz e,Bool.not_eq_false',decide_eq_true_eq]at this
  exact this
theorem Gq{key:Keyed}{arr:Array Keyed}{base:Nat}{st:SortSt}{Q:Option Nat->SortSt->Prop}(hL:gF M A E s ρ kd P)(hk:kindOf st=kd)(pk:P key)(pa:∀x∈arr.toList,P x)(hs:So ρ arr.toList)(hb:base<arr.size)
  (q:∀k,base+k<=arr.size->(∀x∈(arr.toList.drop base).take k,ρ x<ρ key)->(∀x∈arr.toList.drop (base+k),ρ key<=ρ x)->Q (some k) st):wpS M A E s (cF true key arr base (arr.size-base) 0) Q st:=by
 refine dP (tells hL hk pk λi hi=>dC pa ⋯) (λi j lC hj h=>?_) ⋯ λk sj h1 h2=>q k ⋯ (λx hx=>?_) λx hx=>?_
 ·have:=hs.seg (base+i) (base+j) (Nat.zero_le _) ⋯ ⋯
  simp only[qe,if_true,decide_eq_true_eq]at h ⊢;omega
 ·obtain⟨m,hm,nj,e⟩:=mO hx
  have:=h1 m hm;simp only[qe,if_true,decide_eq_true_eq,dz e]at this;omega
 ·obtain⟨m,hm,nj,e⟩:=Gh hx
  have:=h2 (m-base) ⋯ ⋯
  simp only[qe,if_true,show base+(m-base)=m by omega,dz e,decide_eq_false_iff_not]at this
  omega
end
end Vs
namespace Vs
open PySem PyProof.Rows
section
variable {M:Model}{Ar:Around}{E:Value->Shared->Prop}{s:Shared}{ρ:Keyed->Nat}{kd:SortKind}{P:Keyed->Prop}{a b out:Array Keyed}{L:List Keyed}{ia ib:Nat}
abbrev GS:=Option (Array Keyed)×Array Keyed×Nat×Nat×Nat×Nat×Nat
def HC(a b out:Array Keyed)(ia ib g k k1:Nat):StateT SortSt Sem (ForInStep GS):=do
 let y <- elem' a ia
 if(ia+1+1==a.size)=true then pure (ForInStep.done (some (out.push y++b.extract ib b.size++a.extract (ia+1) a.size),out.push y,ia+1,ib,g,k,k1))
 else if(decide (k<7)&&decide (k1<7))=true then pure (ForInStep.done (none,out.push y,ia+1,ib,g,k,k1))
 else pure (ForInStep.yield (none,out.push y,ia+1,ib,g,k,k1))
def HB(a b out:Array Keyed)(ia ib g k bc:Nat):StateT SortSt Sem (ForInStep GS):=do
 let x <- elem' b ib
 if(ib+1==b.size)=true then pure (ForInStep.done (some (out.push x++a.extract ia a.size++b.extract (ib+1) b.size),out.push x,ia,ib+1,g,k,bc))
 else do
  let y <- elem' a ia
  let r <- cF true y b (ib+1) (b.size-(ib+1)) 0
  match r with
  | some k1 =>
   if k1>0 then
    if(ib+1+k1==b.size)=true then pure (ForInStep.done (some (out.push x++b.extract (ib+1) (ib+1+k1)++a.extract ia a.size++b.extract (ib+1+k1) b.size),out.push x++b.extract (ib+1) (ib+1+k1),ia,ib+1+k1,g,k,k1))
    else HC a b (out.push x++b.extract (ib+1) (ib+1+k1)) ia (ib+1+k1) g k k1
   else HC a b (out.push x) ia (ib+1) g k k1
  | _=>pure (ForInStep.done (some (out.push x++a.extract ia a.size++b.extract (ib+1) b.size),out.push x,ia,ib+1,g,k,bc))
def HA(a b out:Array Keyed)(ia ib g ac bc:Nat):StateT SortSt Sem (ForInStep GS):=do
 let x <- elem' b ib
 let r <- cF false x a ia (a.size-ia) 0
 match r with
 | some k =>
  if k>0 then
   if(ia+k+1==a.size)=true then pure (ForInStep.done (some (out++a.extract ia (ia+k)++b.extract ib b.size++a.extract (ia+k) a.size),out++a.extract ia (ia+k),ia+k,ib,g,k,bc))
   else if(ia+k==a.size)=true then pure (ForInStep.done (some (out++a.extract ia (ia+k)++a.extract (ia+k) a.size++b.extract ib b.size),out++a.extract ia (ia+k),ia+k,ib,g,k,bc))
   else HB a b (out++a.extract ia (ia+k)) (ia+k) ib g k bc
  else HB a b out ia ib g k bc
 | _=>pure (ForInStep.done (some (out++a.extract ia a.size++b.extract ib b.size),out,ia,ib,g,ac,bc))
def V(ρ:Keyed->Nat)(L:List Keyed)(a b out:Array Keyed)(ia ib:Nat):Prop:=J ρ L out.toList (a.toList.drop ia) (b.toList.drop ib)
theorem V.yX(j:V ρ L a b out ia ib)(e:ia+1=a.size)(hz:∀y∈b.toList,∀z,a[a.size-1]?=some z->ρ y<=ρ z):Good ρ L (out++b.extract ib b.size++a.extract ia a.size).toList:=by
 have ha:ia<a.size:=by omega
 have e1:a.toList.drop ia=[a[ia]]:=by rw[kS (Array.getElem?_eq_getElem ha),pF e]
 have j':J ρ L out.toList (a.toList.drop ia) (b.toList.drop ib):=j;rw[e1]at j';rw[Array.toList_append,Array.toList_append,mn,mn,e1];refine j'.last λy hy=>hz y (List.mem_of_mem_drop hy) _ ?_;rw[show a.size-1=ia by omega];exact Array.getElem?_eq_getElem ha
theorem V.i3(j:V ρ L a b out ia ib)(e:ib=b.size):Good ρ L (out++a.extract ia a.size++b.extract ib b.size).toList:=by
 have j':J ρ L out.toList (a.toList.drop ia) (b.toList.drop ib):=j;rw[pF e]at j';rw[Array.toList_append,Array.toList_append,mn,mn,pF e,List.append_nil];exact j'.i3
theorem V.iZ(j:V ρ L a b out ia ib)(e:ia=a.size):Good ρ L (out++a.extract ia a.size++b.extract ib b.size).toList:=by
 have j':J ρ L out.toList (a.toList.drop ia) (b.toList.drop ib):=j;rw[pF e]at j';rw[Array.toList_append,Array.toList_append,mn,mn,pF e,List.append_nil];exact j'.iZ
theorem V.qM{x:Keyed}(j:V ρ L a b out ia ib)(e:a[ia]?=some x)(h:∀y∈b.toList.drop ib,ρ x<=ρ y):V ρ L a b (out.push x) (ia+1) ib:=by
 have j':J ρ L out.toList (a.toList.drop ia) (b.toList.drop ib):=j;rw[kS e]at j';show J ρ L (out.push x).toList _ _;rw[Array.toList_push];exact J.jL (X:=[x]) j' λz hz y hy=>by rw[List.mem_singleton.mp hz];exact h y hy
theorem V.qN{x:Keyed}(j:V ρ L a b out ia ib)(e:b[ib]?=some x)(h:∀y∈a.toList.drop ia,ρ x<=ρ y):V ρ L a b (out.push x) ia (ib+1):=by
 have j':J ρ L out.toList (a.toList.drop ia) (b.toList.drop ib):=j;rw[kS e]at j';show J ρ L (out.push x).toList _ _;rw[Array.toList_push];exact J.jM (X:=[x]) j' λz hz y hy=>by rw[List.mem_singleton.mp hz];exact h y hy
theorem V.jL{k:Nat}(j:V ρ L a b out ia ib)(h:∀x∈(a.toList.drop ia).take k,∀y∈b.toList.drop ib,ρ x<=ρ y):V ρ L a b (out++a.extract ia (ia+k)) (ia+k) ib:=by
 have j':J ρ L out.toList (a.toList.drop ia) (b.toList.drop ib):=j;rw[wu a ia k]at j';show J ρ L (out++a.extract ia (ia+k)).toList _ _;rw[Array.toList_append,nD];exact J.jL j' h
theorem V.jM{k:Nat}(j:V ρ L a b out ia ib)(h:∀x∈(b.toList.drop ib).take k,∀y∈a.toList.drop ia,ρ x<=ρ y):V ρ L a b (out++b.extract ib (ib+k)) ia (ib+k):=by
 have j':J ρ L out.toList (a.toList.drop ia) (b.toList.drop ib):=j;rw[wu b ib k]at j';show J ρ L (out++b.extract ib (ib+k)).toList _ _;rw[Array.toList_append,nD];exact J.jM j' h
theorem V.KQ{x:Keyed}(j:V ρ L a b out ia ib)(e:a[ia]?=some x):∀y∈a.toList.drop ia,ρ x<=ρ y:=λy hy=>by
 have:=j.a;rw[kS e]at this hy;rcases List.mem_cons.mp hy with rfl|hy
 ·exact Nat.le_refl _
 ·exact(List.pairwise_cons.mp this).1 y hy
theorem V.KR{x:Keyed}(j:V ρ L a b out ia ib)(e:b[ib]?=some x):∀y∈b.toList.drop ib,ρ x<=ρ y:=λy hy=>by
 have:=j.b;rw[kS e]at this hy;rcases List.mem_cons.mp hy with rfl|hy
 ·exact Nat.le_refl _
 ·exact(List.pairwise_cons.mp this).1 y hy
def Left(ρ:Keyed->Nat)(L:List Keyed)(a b:Array Keyed)(t:Nat)(out:Array Keyed)(ia ib:Nat):Prop:=V ρ L a b out ia ib/\ia+1<a.size/\ib<b.size/\t<=ia+ib
def PG(ρ:Keyed->Nat)(L:List Keyed)(a b:Array Keyed)(t:Nat)(cv:SortSt)(r:ForInStep GS)(st:SortSt):Prop:=Kp cv st/\match r with
 | .done c=>(∃arr,c.1=some arr/\Good ρ L arr.toList)\/(c.1=none/\Left ρ L a b t c.2.1 c.2.2.1 c.2.2.2.1)
 | .yield c=>c.1=none/\Left ρ L a b t c.2.1 c.2.2.1 c.2.2.2.1
structure wL(ρ:Keyed->Nat)(P:Keyed->Prop)(a b:Array Keyed):Prop where
 pa:∀x∈a.toList,P x
 pb:∀x∈b.toList,P x
 sa:So ρ a.toList
 sb:So ρ b.toList
 a1:1<=a.size
 b1:1<=b.size
 z:∀y∈b.toList,∀z,a[a.size-1]?=some z->ρ y<=ρ z
 y:∀y∈a.toList,∀z,b[0]?=some z->ρ z<=ρ y
theorem wG{st cv:SortSt}{g k k1 t:Nat}(T:wL ρ P a b)(hK:Kp cv st)(j:V ρ L a b out ia ib)(h1:ia+1<a.size)(h2:ib<b.size)(ht:t<=ia+ib)
  (h:∀x,a[ia]?=some x->∀y∈b.toList.drop ib,ρ x<=ρ y):wpS M Ar E s (HC a b out ia ib g k k1) (PG ρ L a b t cv) st:=by
 unfold HC;obtain⟨y,ey,py⟩:=dC T.pa (show ia<a.size by omega)
 refine wpS_bind (bb ey ?_);have j':=j.qM ey (h y ey)
 by_cases e:ia+1+1=a.size
 ·rw[if_pos (by simpa using e)]
  exact wpS_pure ⟨hK,.inl ⟨_,rfl,j'.yX e T.z⟩⟩
 ·rw[if_neg (by simpa using e)]
  split
  ·exact wpS_pure ⟨hK,.inr ⟨rfl,j',by show ia+1+1<a.size;omega,h2,by show t<=ia+1+ib;omega⟩⟩
  ·exact wpS_pure ⟨hK,rfl,j',by show ia+1+1<a.size;omega,h2,by show t<=ia+1+ib;omega⟩
theorem wF{st cv:SortSt}{g k bc t:Nat}(hL:gF M Ar E s ρ kd P)(hk:kindOf cv=kd)(T:wL ρ P a b)(hK:Kp cv st)(j:V ρ L a b out ia ib)(h1:ia+1<a.size)(h2:ib<b.size)(ht:t<=ia+ib)
  (h:∀x,b[ib]?=some x->∀y∈a.toList.drop ia,ρ x<=ρ y):wpS M Ar E s (HB a b out ia ib g k bc) (PG ρ L a b t cv) st:=by
 unfold HB;obtain⟨x,ex,px⟩:=dC T.pb h2;obtain⟨y,ey,py⟩:=dC T.pa (show ia<a.size by omega)
 refine wpS_bind (bb ex ?_);have j':=j.qN ex (h x ex)
 by_cases e:ib+1=b.size
 ·rw[if_pos (by simpa using e)]
  exact wpS_pure ⟨hK,.inl ⟨_,rfl,j'.i3 e⟩⟩
 ·rw[if_neg (by simpa using e)]
  refine wpS_bind (bb ey ?_);refine wpS_bind (Gq hL (hK.k.trans hk) py T.pb T.sb ⋯ λk1 sj q1 q2=>?_)
  dsimp only;have j2:=j'.jM (k:=k1) λx hx z hz=>Nat.le_trans (Nat.le_of_lt (q1 x hx)) (j'.KQ ey z hz)
  by_cases yP:k1>0
  ·rw[if_pos yP]
   by_cases e2:ib+1+k1=b.size
   ·rw[if_pos (by simpa using e2)]
    exact wpS_pure ⟨hK,.inl ⟨_,rfl,j2.i3 e2⟩⟩
   ·rw[if_neg (by simpa using e2)]
    exact wG T hK j2 h1 ⋯ ⋯ λx' gy z hz=>by rw[ey]at gy;cases gy;exact q2 z hz
  ·rw[if_neg yP]
   have:k1=0:=by omega
   subst this;exact wG T hK j' h1 ⋯ ⋯ λx' gy z hz=>by rw[ey]at gy;cases gy;exact q2 z hz
theorem wD{st cv:SortSt}{g ac bc t:Nat}(hL:gF M Ar E s ρ kd P)(hk:kindOf cv=kd)(T:wL ρ P a b)(hK:Kp cv st)(j:Left ρ L a b t out ia ib):wpS M Ar E s (HA a b out ia ib g ac bc) (PG ρ L a b t cv) st:=by
 obtain⟨j,h1,h2,ht⟩:=j;unfold HA;obtain⟨x,ex,px⟩:=dC T.pb h2;refine wpS_bind (bb ex ?_);refine wpS_bind (Gr hL (hK.k.trans hk) px T.pa T.sa ⋯ λk sj q1 q2=>?_)
 dsimp only;have j2:=j.jL (k:=k) λz hz y hy=>Nat.le_trans (q1 z hz) (j.KR ex y hy)
 by_cases yP:k>0
 ·rw[if_pos yP]
  by_cases e:ia+k+1=a.size
  ·rw[if_pos (by simpa using e)]
   exact wpS_pure ⟨hK,.inl ⟨_,rfl,j2.yX e T.z⟩⟩
  ·rw[if_neg (by simpa using e)]
   by_cases e2:ia+k=a.size
   ·rw[if_pos (by simpa using e2)]
    exact wpS_pure ⟨hK,.inl ⟨_,rfl,j2.iZ e2⟩⟩
   ·rw[if_neg (by simpa using e2)]
    exact wF hL hk T hK j2 ⋯ h2 ⋯ λx' gy z hz=>by rw[ex]at gy;cases gy;exact Nat.le_of_lt (q2 z hz)
 ·rw[if_neg yP]
  have:k=0:=by omega
  subst this;exact wF hL hk T hK j h1 h2 ht λx' gy z hz=>by rw[ex]at gy;cases gy;exact Nat.le_of_lt (q2 z hz)
abbrev IS:=Option (Array Keyed)×Array Keyed×Nat×Nat×Nat×Nat
abbrev OS:=Option (Array Keyed)×Array Keyed×Nat×Nat×Nat
def loI(a b:Array Keyed)(g:Nat)(c:IS):StateT SortSt Sem (ForInStep IS):=do
 let x <- elem' b c.2.2.2.1
 let y <- elem' a c.2.2.1
 let r <- lt' x y
 match r with
 | some w =>
  if w=true then do
   let x <- elem' b c.2.2.2.1
   if(c.2.2.2.1+1==b.size)=true then pure (ForInStep.done (some (c.2.1.push x++a.extract c.2.2.1 a.size++b.extract (c.2.2.2.1+1) b.size),c.2.1.push x,c.2.2.1,c.2.2.2.1+1,0,c.2.2.2.2.2+1))
   else if c.2.2.2.2.2+1>=g then pure (ForInStep.done (none,c.2.1.push x,c.2.2.1,c.2.2.2.1+1,0,c.2.2.2.2.2+1))
   else pure (ForInStep.yield (none,c.2.1.push x,c.2.2.1,c.2.2.2.1+1,0,c.2.2.2.2.2+1))
  else do
   let y <- elem' a c.2.2.1
   if(c.2.2.1+1+1==a.size)=true then pure (ForInStep.done (some (c.2.1.push y++b.extract c.2.2.2.1 b.size++a.extract (c.2.2.1+1) a.size),c.2.1.push y,c.2.2.1+1,c.2.2.2.1,c.2.2.2.2.1+1,0))
   else if c.2.2.2.2.1+1>=g then pure (ForInStep.done (none,c.2.1.push y,c.2.2.1+1,c.2.2.2.1,c.2.2.2.2.1+1,0))
   else pure (ForInStep.yield (none,c.2.1.push y,c.2.2.1+1,c.2.2.2.1,c.2.2.2.2.1+1,0))
 | _=>pure (ForInStep.done (some (c.2.1++a.extract c.2.2.1 a.size++b.extract c.2.2.2.1 b.size),c.2.1,c.2.2.1,c.2.2.2.1,c.2.2.2.2.1,c.2.2.2.2.2))
def loG(a b:Array Keyed)(c:GS):StateT SortSt Sem (ForInStep GS):=
 if c.2.2.2.2.1>1 then do
  fb (c.2.2.2.2.1-1)
  HA a b c.2.1 c.2.2.1 c.2.2.2.1 (c.2.2.2.2.1-1) c.2.2.2.2.2.1 c.2.2.2.2.2.2
 else do
  fb c.2.2.2.2.1
  HA a b c.2.1 c.2.2.1 c.2.2.2.1 c.2.2.2.2.1 c.2.2.2.2.2.1 c.2.2.2.2.2.2
def loE(r:GS):StateT SortSt Sem (ForInStep OS):=
 match r.1 with
 | some arr=>pure (ForInStep.done (some arr,r.2.1,r.2.2.1,r.2.2.2.1,r.2.2.2.2.1))
 | none=>do
  fb (r.2.2.2.2.1+1)
  pure (ForInStep.yield (none,r.2.1,r.2.2.1,r.2.2.2.1,r.2.2.2.2.1+1))
def loN(a b:Array Keyed)(g:Nat)(r:IS):StateT SortSt Sem (ForInStep OS):=
 match r.1 with
 | some arr=>pure (ForInStep.done (some arr,r.2.1,r.2.2.1,r.2.2.2.1,g))
 | none=>do
  liftM (rule "list.sort.gallop")
  let r2 <- forIn [0:a.size+b.size] ((none,r.2.1,r.2.2.1,r.2.2.2.1,g+1,r.2.2.2.2.1,r.2.2.2.2.2):GS) λ_ t=>loG a b t
  loE r2
def loO(a b:Array Keyed)(c:OS):StateT SortSt Sem (ForInStep OS):=do
 let r <- forIn [0:a.size+b.size] ((none,c.2.1,c.2.2.1,c.2.2.2.1,0,0):IS) λ_ r=>loI a b c.2.2.2.2 r
 loN a b c.2.2.2.2 r
def loZ(r:OS):StateT SortSt Sem (Array Keyed):=
 match r.1 with
 | some arr=>pure arr
 | none=>unsupported "internal:list.sort.merge-bound"
theorem sA(a b:Array Keyed):oG a b=(do
 liftM (rule "list.sort.merge-lo")
 let x <- elem' b 0
 if(1==b.size)=true then pure (#[x]++a.extract 0 a.size++b.extract 1 b.size)
 else if(0+1==a.size)=true then pure (#[x]++b.extract 1 b.size++a.extract 0 a.size)
 else do
  let st <- get
  let r <- forIn [0:a.size+b.size] ((none,#[x],0,1,gallopOf st):OS) λ_ r=>loO a b r
  loZ r):=by kernel_rfl
theorem JS{cv st:SortSt}{g n m:Nat}{c:IS}(hL:gF M Ar E s ρ kd P)(hk:kindOf cv=kd)(T:wL ρ P a b)(hK:Kp cv st)(j:Left ρ L a b (n+1+min m 1) c.2.1 c.2.2.1 c.2.2.2.1):
  wpS M Ar E s (loI a b g c) (λr ay=>Kp cv ay/\match r with
   | .done c=>(∃arr,c.1=some arr/\Good ρ L arr.toList)\/(c.1=none/\Left ρ L a b (n+1+1) c.2.1 c.2.2.1 c.2.2.2.1)
   | .yield c=>c.1=none/\Left ρ L a b (n+1+min (m+1) 1) c.2.1 c.2.2.1 c.2.2.2.1) st:=by
 obtain⟨ret,out,ia,ib,ac,bc⟩:=c;obtain⟨j,l1,l2,l3⟩:=j;dsimp only at j l1 l2 l3;unfold loI;dsimp only;obtain⟨x,ex,px⟩:=dC T.pb l2;obtain⟨y,ey,py⟩:=dC T.pa (show ia<a.size by omega)
 refine wpS_bind (bb ex (wpS_bind (bb ey (wpS_bind (hL x y st _ px py (hK.k.trans hk) ?_)))))
 by_cases jn:ρ x<ρ y
 ·rw[decide_eq_true jn]
  refine wpS_bind (bb ex ?_);have j':=j.qN ex λz hz=>Nat.le_trans (Nat.le_of_lt jn) (j.KQ ey z hz)
  by_cases e:ib+1=b.size
  ·rw[if_pos (by simpa using e)]
   exact wpS_pure ⟨hK,.inl ⟨_,rfl,j'.i3 e⟩⟩
  ·rw[if_neg (by simpa using e)]
   split
   ·exact wpS_pure ⟨hK,.inr ⟨rfl,j',by show ia+1<a.size;omega,by show ib+1<b.size;omega,by show n+1+1<=ia+(ib+1);omega⟩⟩
   ·exact wpS_pure ⟨hK,rfl,j',by show ia+1<a.size;omega,by show ib+1<b.size;omega,by show n+1+min (m+1) 1<=ia+(ib+1);omega⟩
 ·rw[decide_eq_false jn]
  refine wpS_bind (bb ey ?_);have j':=j.qM ey λz hz=>Nat.le_trans (Nat.not_lt.mp jn) (j.KR ex z hz)
  by_cases e:ia+1+1=a.size
  ·rw[if_pos (by simpa using e)]
   exact wpS_pure ⟨hK,.inl ⟨_,rfl,j'.yX e T.z⟩⟩
  ·rw[if_neg (by simpa using e)]
   split
   ·exact wpS_pure ⟨hK,.inr ⟨rfl,j',by show ia+1+1<a.size;omega,by show ib<b.size;omega,by show n+1+1<=ia+1+ib;omega⟩⟩
   ·exact wpS_pure ⟨hK,rfl,j',by show ia+1+1<a.size;omega,by show ib<b.size;omega,by show n+1+min (m+1) 1<=ia+1+ib;omega⟩
theorem JR{cv st:SortSt}{t:Nat}{c:GS}(hL:gF M Ar E s ρ kd P)(hk:kindOf cv=kd)(T:wL ρ P a b)(hK:Kp cv st)(j:Left ρ L a b t c.2.1 c.2.2.1 c.2.2.2.1):wpS M Ar E s (loG a b c) (PG ρ L a b t cv) st:=by
 unfold loG
 split
 ·rw[eV]
  exact wpS_bind (wpS_modify (wD hL hk T (hK.min _) j))
 ·rw[eV]
  exact wpS_bind (wpS_modify (wD hL hk T (hK.min _) j))
def PO(ρ:Keyed->Nat)(L:List Keyed)(a b:Array Keyed)(t:Nat)(cv:SortSt)(r:ForInStep OS)(st:SortSt):Prop:=match r with
 | .done c=>Kp cv st/\∃arr,c.1=some arr/\Good ρ L arr.toList
 | .yield c=>Kp cv st/\c.1=none/\Left ρ L a b t c.2.1 c.2.2.1 c.2.2.2.1
theorem JT{cv st:SortSt}{g n:Nat}{r:IS}(hL:gF M Ar E s ρ kd P)(hk:kindOf cv=kd)(T:wL ρ P a b)(hK:Kp cv st)
  (h:(∃arr,r.1=some arr/\Good ρ L arr.toList)\/(r.1=none/\Left ρ L a b (n+1+1) r.2.1 r.2.2.1 r.2.2.2.1)):wpS M Ar E s (loN a b g r) (PO ρ L a b (n+1+1) cv) st:=by
 obtain⟨ret,r⟩:=r;unfold loN;rcases h with⟨arr,h1,h2⟩|⟨h1,hl⟩
 ·dsimp only at h1
  subst h1;exact wpS_pure ⟨hK,arr,rfl,h2⟩
 ·dsimp only at h1 hl
  subst h1;refine wpS_bind (wpS_lift (wpAny_rule ⟨rfl,?_⟩));refine wpS_bind (wpS_mono (wpS_forRange (I:=λx c ay=>Kp cv ay/\c.1=none/\Left ρ L a b (n+1+1) c.2.1 c.2.2.1 c.2.2.2.1)
   (Q:=λc ay=>Kp cv ay/\((∃arr,c.1=some arr/\Good ρ L arr.toList)\/(c.1=none/\Left ρ L a b (n+1+1) c.2.1 c.2.2.1 c.2.2.2.1))) ?gstep ?gfin ⟨hK,rfl,hl⟩) ?gpost)
  case gfin =>
   rintro c ay ⟨hK,h1,hl⟩;exact⟨hK,.inr ⟨h1,hl⟩⟩
  case gstep =>
   rintro m c ay _ hm ⟨hK,h1,hl⟩;refine wpS_mono (JR hL hk T hK hl) λr dA hr=>?_;obtain⟨k1,k2⟩:=hr;cases r with
   | done c=>exact⟨k1,k2⟩
   | yield c=>exact⟨k1,k2⟩
  case gpost =>
   rintro⟨ret,r⟩ ay ⟨hK,⟨arr,h1,h2⟩|⟨h1,hl⟩⟩
   ·dsimp only at h1
    subst h1;exact wpS_pure ⟨hK,arr,rfl,h2⟩
   ·dsimp only at h1 hl
    subst h1;unfold loE;rw[eV];exact wpS_bind (wpS_modify (wpS_pure ⟨hK.min _,rfl,hl⟩))
theorem JU{cv st:SortSt}{n:Nat}{c:OS}(hL:gF M Ar E s ρ kd P)(hk:kindOf cv=kd)(T:wL ρ P a b)(hn:0<a.size+b.size)(hK:Kp cv st)(hl:Left ρ L a b (n+1) c.2.1 c.2.2.1 c.2.2.2.1):wpS M Ar E s (loO a b c) (PO ρ L a b (n+1+1) cv) st:=by
 unfold loO;refine wpS_bind (wpS_mono (wpS_forRange (I:=λx c ay=>Kp cv ay/\c.1=none/\Left ρ L a b (n+1+min x 1) c.2.1 c.2.2.1 c.2.2.2.1)
  (Q:=λc ay=>Kp cv ay/\((∃arr,c.1=some arr/\Good ρ L arr.toList)\/(c.1=none/\Left ρ L a b (n+1+1) c.2.1 c.2.2.1 c.2.2.2.1))) ?istep ?ifin ⟨hK,rfl,by simpa using hl⟩) ?ipost)
 case ifin =>
  rintro c ay ⟨hK,h1,hl⟩;rw[show min (max 0 (a.size+b.size)) 1=1 by omega]at hl
  exact⟨hK,.inr ⟨h1,hl⟩⟩
 case istep =>
  rintro m c ay _ hm ⟨hK,h1,hl⟩;refine wpS_mono (JS hL hk T hK hl) λr dA hr=>?_;obtain⟨k1,k2⟩:=hr;cases r with
  | done c=>exact⟨k1,k2⟩
  | yield c=>exact⟨k1,k2⟩
 case ipost =>
  rintro r ay ⟨hK,h⟩;exact JT hL hk T hK h
theorem wI{st:SortSt}{Q:Array Keyed->SortSt->Prop}(hL:gF M Ar E s ρ kd P)(hk:kindOf st=kd)(T:wL ρ P a b)
  (q:∀r ay,Kp st ay->Good ρ (a.toList++b.toList) r.toList->Q r ay):wpS M Ar E s (oG a b) Q st:=by
 rw[sA];refine wpS_bind (wpS_lift (wpAny_rule ⟨rfl,?_⟩));obtain⟨x,ex,px⟩:=dC T.pb (show 0<b.size from T.b1)
 refine wpS_bind (bb ex ?_);have j0:V ρ (a.toList++b.toList) a b #[] 0 0:=⟨List.Pairwise.nil,by simpa using T.sa,by simpa using T.sb,(λx hx=>by cases hx),(λx hx=>by cases hx),by simp⟩
 have j1:V ρ (a.toList++b.toList) a b #[x] 0 1:=by simpa using j0.qN ex λy hy=>T.y y (by simpa using hy) x ex
 by_cases e:1=b.size
 ·rw[if_pos (by simpa using e)]
  exact wpS_pure (q _ st .refl (j1.i3 e))
 ·rw[if_neg (by simpa using e)]
  by_cases e2:0+1=a.size
  ·rw[if_pos (by simpa using e2)]
   exact wpS_pure (q _ st .refl (j1.yX e2 T.z))
  ·rw[if_neg (by simpa using e2)]
   have b1:=T.b1;have a1:=T.a1;refine wpS_bind (wpS_get ?_);refine wpS_bind (wpS_mono (wpS_forRange (I:=λx c ay=>Kp st ay/\c.1=none/\Left ρ (a.toList++b.toList) a b (x+1) c.2.1 c.2.2.1 c.2.2.2.1)
    (Q:=λc ay=>Kp st ay/\∃arr,c.1=some arr/\Good ρ (a.toList++b.toList) arr.toList) ?step ?fin ⟨.refl,rfl,j1,by show 0+1<a.size;omega,by show 1<b.size;omega,by show 0+1<=0+1;omega⟩) ?post)
   case fin =>
    rintro⟨ret,out,ia,ib,g⟩ ay ⟨hK,h1,j,h2,h3,h4⟩;dsimp only at h2 h3 h4;omega
   case post =>
    rintro⟨ret,r⟩ ay ⟨hK,arr,h1,h2⟩;dsimp only at h1;subst h1;exact wpS_pure (q arr ay hK h2)
   case step =>
    rintro n c ay _ hn ⟨hK,h1,hl⟩;refine wpS_mono (JU hL hk T ⋯ hK hl) λr dA hr=>?_
    cases r with
    | done c=>exact hr
    | yield c=>exact hr
end
end Vs
namespace Vs
open PySem PyProof.Rows
structure H(ρ:Keyed->Nat)(L O A B:List Keyed):Prop where
 o:So ρ O
 a:So ρ A
 b:So ρ B
 oa:∀x∈A,∀y∈O,ρ x<=ρ y
 ob:∀x∈B,∀y∈O,ρ x<=ρ y
 p:(A++(B++O)).Perm L
section
variable {ρ:Keyed->Nat}{L O A B X:List Keyed}{x z:Keyed}
theorem H.jM(j:H ρ L O A (B++X))(h:∀x∈X,∀y∈A,ρ y<=ρ x):H ρ L (X++O) A B:=by
 obtain⟨a1,a2,a3⟩:=List.pairwise_append.mp j.b;refine⟨So.app a2 j.o λx hx y hy=>j.ob x (List.mem_append_right _ hx) y hy,j.a,a1,λx hx y hy=>?_,λx hx y hy=>?_,?_⟩
 ·rcases List.mem_append.mp hy with hy|hy
  ·exact h y hy x hx
  ·exact j.oa x hx y hy
 ·rcases List.mem_append.mp hy with hy|hy
  ·exact a3 x hx y hy
  ·exact j.ob x (List.mem_append_left _ hx) y hy
 ·have:=j.p
  simpa [List.append_assoc]using this
theorem H.jL(j:H ρ L O (A++X) B)(h:∀x∈X,∀y∈B,ρ y<=ρ x):H ρ L (X++O) A B:=by
 obtain⟨a1,a2,a3⟩:=List.pairwise_append.mp j.a;refine⟨So.app a2 j.o λx hx y hy=>j.oa x (List.mem_append_right _ hx) y hy,a1,j.b,λx hx y hy=>?_,λx hx y hy=>?_,?_⟩
 ·rcases List.mem_append.mp hy with hy|hy
  ·exact a3 x hx y hy
  ·exact j.oa x (List.mem_append_left _ hx) y hy
 ·rcases List.mem_append.mp hy with hy|hy
  ·exact h y hy x hx
  ·exact j.ob x hx y hy
 ·refine List.Perm.trans ?_ j.p
  rw[List.append_assoc];refine List.Perm.append_left A ?_;rw[<- List.append_assoc,<- List.append_assoc];exact List.Perm.append_right O List.perm_append_comm
theorem H.i3(j:H ρ L O A []):Good ρ L (A++O):=⟨So.app j.a j.o j.oa,by simpa using j.p⟩
theorem H.iZ(j:H ρ L O [] B):Good ρ L (B++O):=⟨So.app j.b j.o j.ob,by simpa using j.p⟩
theorem H.first(j:H ρ L O A [z])(h:∀y∈A,ρ z<=ρ y):Good ρ L ([z]++A++O):=by
 refine⟨So.app (So.app (List.pairwise_singleton ..) j.a λx hx y hy=>by rw[List.mem_singleton.mp hx];exact h y hy) j.o λx hx y hy=>?_,?_⟩
 ·rcases List.mem_append.mp hx with hx|hx
  ·exact j.ob x hx y hy
  ·exact j.oa x hx y hy
 ·refine List.Perm.trans ?_ j.p
  rw[<- List.append_assoc];exact List.Perm.append_right O List.perm_append_comm
end
theorem kR{a:Array Keyed}{n:Nat}{x:Keyed}(h1:1<=n)(h:a[n-1]?=some x):a.toList.take n=a.toList.take (n-1)++[x]:=by
 obtain⟨m,rfl⟩:∃m,n=m+1:=⟨n-1,by omega⟩
 rw[Nat.add_sub_cancel]at h ⊢;rw[List.take_add_one];have:a.toList[m]?=some x:=by simpa using h
 rw[this];rfl
theorem mm(a:Array Keyed)(n:Nat):(a.extract 0 n).toList=a.toList.take n:=by
 rw[Array.toList_extract];rfl
theorem nC(a:Array Keyed)(i n:Nat):(a.extract i n).toList=(a.toList.take n).drop i:=by
 rw[Array.toList_extract];show(a.toList.drop i).take (n-i)=_;rw[List.drop_take]
theorem wt(a:Array Keyed){i n:Nat}(h:i<=n):a.toList.take n=a.toList.take i++(a.toList.take n).drop i:=by
 have:=(List.take_append_drop i (a.toList.take n)).symm
 rwa [List.take_take,Nat.min_eq_left h]at this
theorem Gg{a:Array Keyed}{n:Nat}{x:Keyed}(h:x∈a.toList.take n):∃m,m<n/\m<a.size/\a[m]?=some x:=by
 obtain⟨m,hm,e⟩:=List.mem_iff_getElem.mp h;rw[List.length_take]at hm;rw[List.getElem_take]at e;have hs:m<a.size:=by have:a.toList.length=a.size:=rfl;omega
 exact⟨m,by omega,hs,by rw[Array.getElem?_eq_getElem hs];exact congrArg some (by simpa using e)⟩
theorem ik{a:Array Keyed}{i n:Nat}{x:Keyed}(h:x∈(a.toList.take n).drop i):∃m,i<=m/\m<n/\m<a.size/\a[m]?=some x:=by
 obtain⟨m,hm,e⟩:=List.mem_iff_getElem.mp h;rw[List.length_drop,List.length_take]at hm;rw[List.getElem_drop,List.getElem_take]at e;have hs:i+m<a.size:=by have:a.toList.length=a.size:=rfl;omega
 exact⟨i+m,by omega,by omega,hs,by rw[Array.getElem?_eq_getElem hs];exact congrArg some (by simpa using e)⟩
section
variable {M:Model}{Ar:Around}{E:Value->Shared->Prop}{s:Shared}{ρ:Keyed->Nat}{kd:SortKind}{P:Keyed->Prop}{a b out:Array Keyed}{L:List Keyed}{na nb:Nat}
theorem Gv{key:Keyed}{arr:Array Keyed}{n:Nat}{st:SortSt}{Q:Option Nat->SortSt->Prop}(hL:gF M Ar E s ρ kd P)(hk:kindOf st=kd)(pk:P key)(pa:∀x∈arr.toList,P x)(hs:So ρ arr.toList)(hn:n<=arr.size)(h1:1<=n)
  (q:∀k,k<=n->(∀x∈arr.toList.take k,ρ x<=ρ key)->(∀x∈(arr.toList.take n).drop k,ρ key<ρ x)->Q (some k) st):wpS M Ar E s (cF false key arr 0 n (n-1)) Q st:=by
 refine dP (tells hL hk pk λi hi=>dC pa ⋯) (λi j lC hj h=>?_) ⋯ λk sj h1 h2=>q k ⋯ (λx hx=>?_) λx hx=>?_
 ·have:=hs.seg (0+i) (0+j) (Nat.zero_le _) ⋯ ⋯
  simp only[qe,Bool.false_eq_true,if_false,Bool.not_eq_true',decide_eq_false_iff_not]at h ⊢;omega
 ·obtain⟨m,hm,nj,e⟩:=Gg hx
  have:=h1 m hm;simp only[qe,Bool.false_eq_true,if_false,Bool.not_eq_true',decide_eq_false_iff_not,Nat.zero_add,dz e]at this;omega
 ·obtain⟨m,hm,nj,hm3,e⟩:=ik hx
  have:=h2 m hm nj;simp only[qe,Bool.false_eq_true,if_false,Nat.zero_add,dz e,Bool.not_eq_false',decide_eq_true_eq]at this;exact this
theorem Gu{key:Keyed}{arr:Array Keyed}{n:Nat}{st:SortSt}{Q:Option Nat->SortSt->Prop}(hL:gF M Ar E s ρ kd P)(hk:kindOf st=kd)(pk:P key)(pa:∀x∈arr.toList,P x)(hs:So ρ arr.toList)(hn:n<=arr.size)(h1:1<=n)
  (q:∀k,k<=n->(∀x∈arr.toList.take k,ρ x<ρ key)->(∀x∈(arr.toList.take n).drop k,ρ key<=ρ x)->Q (some k) st):wpS M Ar E s (cF true key arr 0 n (n-1)) Q st:=by
 refine dP (tells hL hk pk λi hi=>dC pa ⋯) (λi j lC hj h=>?_) ⋯ λk sj h1 h2=>q k ⋯ (λx hx=>?_) λx hx=>?_
 ·have:=hs.seg (0+i) (0+j) (Nat.zero_le _) ⋯ ⋯
  simp only[qe,if_true,decide_eq_true_eq]at h ⊢;omega
 ·obtain⟨m,hm,nj,e⟩:=Gg hx
  have:=h1 m hm;simp only[qe,if_true,decide_eq_true_eq,Nat.zero_add,dz e]at this;omega
 ·obtain⟨m,hm,nj,hm3,e⟩:=ik hx
  have:=h2 m hm nj;simp only[qe,if_true,Nat.zero_add,dz e,decide_eq_false_iff_not]at this;omega
abbrev HS:=Option (Array Keyed)×Nat×Nat×Array Keyed×Nat×Nat×Nat
def Hz(a b out:Array Keyed)(na nb g k k1:Nat):StateT SortSt Sem (ForInStep HS):=do
 let y <- elem' a (na-1)
 if(na-1==0)=true then pure (ForInStep.done (some (a.extract 0 (na-1)++b.extract 0 nb++(out.push y).reverse),na-1,nb,out.push y,g,k,k1))
 else if(decide (k<7)&&decide (k1<7))=true then pure (ForInStep.done (none,na-1,nb,out.push y,g,k,k1))
 else pure (ForInStep.yield (none,na-1,nb,out.push y,g,k,k1))
def Hy(a b out:Array Keyed)(na nb g k bc:Nat):StateT SortSt Sem (ForInStep HS):=do
 let x <- elem' b (nb-1)
 if(nb-1==1)=true then pure (ForInStep.done (some (b.extract 0 (nb-1)++a.extract 0 na++(out.push x).reverse),na,nb-1,out.push x,g,k,bc))
 else do
  let y <- elem' a (na-1)
  let r <- cF true y b 0 (nb-1) (nb-1-1)
  match r with
  | some at2 =>
   if nb-1-at2>0 then
    if(at2==1)=true then pure (ForInStep.done (some (b.extract 0 at2++a.extract 0 na++(out.push x++(b.extract at2 (nb-1)).reverse).reverse),na,at2,out.push x++(b.extract at2 (nb-1)).reverse,g,k,nb-1-at2))
    else if(at2==0)=true then pure (ForInStep.done (some (a.extract 0 na++b.extract 0 at2++(out.push x++(b.extract at2 (nb-1)).reverse).reverse),na,at2,out.push x++(b.extract at2 (nb-1)).reverse,g,k,nb-1-at2))
    else Hz a b (out.push x++(b.extract at2 (nb-1)).reverse) na at2 g k (nb-1-at2)
   else Hz a b (out.push x) na (nb-1) g k (nb-1-at2)
  | _=>pure (ForInStep.done (some (a.extract 0 na++b.extract 0 (nb-1)++(out.push x).reverse),na,nb-1,out.push x,g,k,bc))
def Dz(a b out:Array Keyed)(na nb g ac bc:Nat):StateT SortSt Sem (ForInStep HS):=do
 let x <- elem' b (nb-1)
 let r <- cF false x a 0 na (na-1)
 match r with
 | some B5 =>
  if na-B5>0 then
   if(B5==0)=true then pure (ForInStep.done (some (a.extract 0 B5++b.extract 0 nb++(out++(a.extract B5 na).reverse).reverse),B5,nb,out++(a.extract B5 na).reverse,g,na-B5,bc))
   else Hy a b (out++(a.extract B5 na).reverse) B5 nb g (na-B5) bc
  else Hy a b out na nb g (na-B5) bc
 | _=>pure (ForInStep.done (some (a.extract 0 na++b.extract 0 nb++out.reverse),na,nb,out,g,ac,bc))
def W(ρ:Keyed->Nat)(L:List Keyed)(a b out:Array Keyed)(na nb:Nat):Prop:=H ρ L out.toList.reverse (a.toList.take na) (b.toList.take nb)
theorem W.rV(j:W ρ L a b out na nb)(e:nb=1)(hb:1<=b.size)(hz:∀y∈a.toList,∀z,b[0]?=some z->ρ z<=ρ y):Good ρ L (b.extract 0 nb++a.extract 0 na++out.reverse).toList:=by
 subst e;have eb:b[0]?=some b[0]:=Array.getElem?_eq_getElem hb;have e1:b.toList.take 1=[b[0]]:=by rw[kR (Nat.le_refl 1) eb];rfl
 have j':H ρ L out.toList.reverse (a.toList.take na) (b.toList.take 1):=j;rw[e1]at j';rw[Array.toList_append,Array.toList_append,mm,mm,e1,Array.toList_reverse];exact j'.first λy hy=>hz y (List.mem_of_mem_take hy) _ eb
theorem W.iZ(j:W ρ L a b out na nb)(e:na=0):Good ρ L (a.extract 0 na++b.extract 0 nb++out.reverse).toList:=by
 subst e;have j':H ρ L out.toList.reverse [] (b.toList.take nb):=j;rw[Array.toList_append,Array.toList_append,mm,mm,Array.toList_reverse];exact j'.iZ
theorem W.i3(j:W ρ L a b out na nb)(e:nb=0):Good ρ L (a.extract 0 na++b.extract 0 nb++out.reverse).toList:=by
 subst e;have j':H ρ L out.toList.reverse (a.toList.take na) []:=j;rw[Array.toList_append,Array.toList_append,mm,mm,Array.toList_reverse,List.take_zero,List.append_nil];exact j'.i3
theorem W.qM{x:Keyed}(j:W ρ L a b out na nb)(h1:1<=na)(e:a[na-1]?=some x)(h:∀y∈b.toList.take nb,ρ y<=ρ x):W ρ L a b (out.push x) (na-1) nb:=by
 have j':H ρ L out.toList.reverse (a.toList.take na) (b.toList.take nb):=j;rw[kR h1 e]at j';show H ρ L (out.push x).toList.reverse _ _;rw[Array.toList_push,List.reverse_append];exact H.jL (X:=[x]) j' λz hz y hy=>by rw[List.mem_singleton.mp hz];exact h y hy
theorem W.qN{x:Keyed}(j:W ρ L a b out na nb)(h1:1<=nb)(e:b[nb-1]?=some x)(h:∀y∈a.toList.take na,ρ y<=ρ x):W ρ L a b (out.push x) na (nb-1):=by
 have j':H ρ L out.toList.reverse (a.toList.take na) (b.toList.take nb):=j;rw[kR h1 e]at j';show H ρ L (out.push x).toList.reverse _ _;rw[Array.toList_push,List.reverse_append];exact H.jM (X:=[x]) j' λz hz y hy=>by rw[List.mem_singleton.mp hz];exact h y hy
theorem W.jL{k:Nat}(j:W ρ L a b out na nb)(hk:k<=na)(h:∀x∈(a.toList.take na).drop k,∀y∈b.toList.take nb,ρ y<=ρ x):W ρ L a b (out++(a.extract k na).reverse) k nb:=by
 have j':H ρ L out.toList.reverse (a.toList.take na) (b.toList.take nb):=j;rw[wt a hk]at j';show H ρ L (out++(a.extract k na).reverse).toList.reverse _ _;rw[Array.toList_append,List.reverse_append,Array.toList_reverse,List.reverse_reverse,nC];exact H.jL j' h
theorem W.jM{k:Nat}(j:W ρ L a b out na nb)(hk:k<=nb)(h:∀x∈(b.toList.take nb).drop k,∀y∈a.toList.take na,ρ y<=ρ x):W ρ L a b (out++(b.extract k nb).reverse) na k:=by
 have j':H ρ L out.toList.reverse (a.toList.take na) (b.toList.take nb):=j;rw[wt b hk]at j';show H ρ L (out++(b.extract k nb).reverse).toList.reverse _ _;rw[Array.toList_append,List.reverse_append,Array.toList_reverse,List.reverse_reverse,nC];exact H.jM j' h
theorem W.Wl{x:Keyed}(j:W ρ L a b out na nb)(h1:1<=na)(e:a[na-1]?=some x):∀y∈a.toList.take na,ρ y<=ρ x:=λy hy=>by
 have:=j.a;rw[kR h1 e]at this hy;rcases List.mem_append.mp hy with hy|hy
 ·exact(List.pairwise_append.mp this).2.2 y hy x (List.mem_singleton.mpr rfl)
 ·rw[List.mem_singleton.mp hy];exact Nat.le_refl _
theorem W.Wm{x:Keyed}(j:W ρ L a b out na nb)(h1:1<=nb)(e:b[nb-1]?=some x):∀y∈b.toList.take nb,ρ y<=ρ x:=λy hy=>by
 have:=j.b;rw[kR h1 e]at this hy;rcases List.mem_append.mp hy with hy|hy
 ·exact(List.pairwise_append.mp this).2.2 y hy x (List.mem_singleton.mpr rfl)
 ·rw[List.mem_singleton.mp hy];exact Nat.le_refl _
def dX(ρ:Keyed->Nat)(L:List Keyed)(a b:Array Keyed)(t:Nat)(out:Array Keyed)(na nb:Nat):Prop:=W ρ L a b out na nb/\1<=na/\2<=nb/\na<=a.size/\nb<=b.size/\na+nb+t<=a.size+b.size
def PH(ρ:Keyed->Nat)(L:List Keyed)(a b:Array Keyed)(t:Nat)(cv:SortSt)(r:ForInStep HS)(st:SortSt):Prop:=Kp cv st/\match r with
 | .done c=>(∃arr,c.1=some arr/\Good ρ L arr.toList)\/(c.1=none/\dX ρ L a b t c.2.2.2.1 c.2.1 c.2.2.1)
 | .yield c=>c.1=none/\dX ρ L a b t c.2.2.2.1 c.2.1 c.2.2.1
theorem wC{st cv:SortSt}{g k k1 t:Nat}(T:wL ρ P a b)(hK:Kp cv st)(j:W ρ L a b out na nb)(h1:1<=na)(h2:2<=nb)(h3:na<=a.size)(h4:nb<=b.size)(ht:na+nb+t<=a.size+b.size)
  (h:∀x,a[na-1]?=some x->∀y∈b.toList.take nb,ρ y<=ρ x):wpS M Ar E s (Hz a b out na nb g k k1) (PH ρ L a b t cv) st:=by
 unfold Hz;obtain⟨y,ey,py⟩:=dC T.pa (show na-1<a.size by omega)
 refine wpS_bind (bb ey ?_);have j':=j.qM h1 ey (h y ey)
 by_cases e:na-1=0
 ·rw[if_pos (by simpa using e)]
  exact wpS_pure ⟨hK,.inl ⟨_,rfl,j'.iZ e⟩⟩
 ·rw[if_neg (by simpa using e)]
  have lf:dX ρ L a b t (out.push y) (na-1) nb:=⟨j',by omega,h2,by omega,h4,by omega⟩
  split
  ·exact wpS_pure ⟨hK,.inr ⟨rfl,lf⟩⟩
  ·exact wpS_pure ⟨hK,rfl,lf⟩
theorem wB{st cv:SortSt}{g k bc t:Nat}(hL:gF M Ar E s ρ kd P)(hk:kindOf cv=kd)(T:wL ρ P a b)(hK:Kp cv st)(j:W ρ L a b out na nb)(h1:1<=na)(h2:2<=nb)(h3:na<=a.size)(h4:nb<=b.size)(ht:na+nb+t<=a.size+b.size)
  (h:∀x,b[nb-1]?=some x->∀y∈a.toList.take na,ρ y<=ρ x):wpS M Ar E s (Hy a b out na nb g k bc) (PH ρ L a b t cv) st:=by
 unfold Hy;obtain⟨x,ex,px⟩:=dC T.pb (show nb-1<b.size by omega)
 obtain⟨y,ey,py⟩:=dC T.pa (show na-1<a.size by omega)
 refine wpS_bind (bb ex ?_);have j':=j.qN ⋯ ex (h x ex)
 by_cases e:nb-1=1
 ·rw[if_pos (by simpa using e)]
  exact wpS_pure ⟨hK,.inl ⟨_,rfl,j'.rV e T.b1 T.y⟩⟩
 ·rw[if_neg (by simpa using e)]
  refine wpS_bind (bb ey ?_);refine wpS_bind (Gu hL (hK.k.trans hk) py T.pb T.sb ⋯ ⋯ λk1 sj q1 q2=>?_)
  dsimp only;have j2:=j'.jM sj λx hx z hz=>Nat.le_trans (j'.Wl h1 ey z hz) (q2 x hx)
  by_cases yP:nb-1-k1>0
  ·rw[if_pos yP]
   by_cases e2:k1=1
   ·rw[if_pos (by simpa using e2)]
    exact wpS_pure ⟨hK,.inl ⟨_,rfl,j2.rV e2 T.b1 T.y⟩⟩
   ·rw[if_neg (by simpa using e2)]
    by_cases e3:k1=0
    ·rw[if_pos (by simpa using e3)]
     exact wpS_pure ⟨hK,.inl ⟨_,rfl,j2.i3 e3⟩⟩
    ·rw[if_neg (by simpa using e3)]
     exact wC T hK j2 h1 ⋯ h3 ⋯ ⋯ λx' gy z hz=>by rw[ey]at gy;cases gy;exact Nat.le_of_lt (q1 z hz)
  ·rw[if_neg yP]
   have:k1=nb-1:=by omega
   subst this;exact wC T hK j' h1 ⋯ h3 ⋯ ⋯ λx' gy z hz=>by rw[ey]at gy;cases gy;exact Nat.le_of_lt (q1 z hz)
theorem Gp{st cv:SortSt}{g ac bc t:Nat}(hL:gF M Ar E s ρ kd P)(hk:kindOf cv=kd)(T:wL ρ P a b)(hK:Kp cv st)(j:dX ρ L a b t out na nb):wpS M Ar E s (Dz a b out na nb g ac bc) (PH ρ L a b t cv) st:=by
 obtain⟨j,h1,h2,h3,h4,ht⟩:=j;unfold Dz;obtain⟨x,ex,px⟩:=dC T.pb (show nb-1<b.size by omega)
 refine wpS_bind (bb ex ?_);refine wpS_bind (Gv hL (hK.k.trans hk) px T.pa T.sa h3 h1 λk sj q1 q2=>?_);dsimp only;have j2:=j.jL sj λz hz y hy=>Nat.le_trans (j.Wm ⋯ ex y hy) (Nat.le_of_lt (q2 z hz))
 by_cases yP:na-k>0
 ·rw[if_pos yP]
  by_cases e:k=0
  ·rw[if_pos (by simpa using e)]
   exact wpS_pure ⟨hK,.inl ⟨_,rfl,j2.iZ e⟩⟩
  ·rw[if_neg (by simpa using e)]
   exact wB hL hk T hK j2 ⋯ h2 ⋯ h4 ⋯ λx' gy z hz=>by rw[ex]at gy;cases gy;exact q1 z hz
 ·rw[if_neg yP]
  have:k=na:=by omega
  subst this;exact wB hL hk T hK j h1 h2 h3 h4 ht λx' gy z hz=>by rw[ex]at gy;cases gy;exact q1 z hz
abbrev HI:=Option (Array Keyed)×Nat×Nat×Array Keyed×Nat×Nat
abbrev HQ:=Option (Array Keyed)×Nat×Nat×Array Keyed×Nat
def hiI(a b:Array Keyed)(g:Nat)(c:HI):StateT SortSt Sem (ForInStep HI):=do
 let x <- elem' b (c.2.2.1-1)
 let y <- elem' a (c.2.1-1)
 let r <- lt' x y
 match r with
 | some w =>
  if w=true then do
   let y <- elem' a (c.2.1-1)
   if(c.2.1-1==0)=true then pure (ForInStep.done (some (a.extract 0 (c.2.1-1)++b.extract 0 c.2.2.1++(c.2.2.2.1.push y).reverse),c.2.1-1,c.2.2.1,c.2.2.2.1.push y,c.2.2.2.2.1+1,0))
   else if c.2.2.2.2.1+1>=g then pure (ForInStep.done (none,c.2.1-1,c.2.2.1,c.2.2.2.1.push y,c.2.2.2.2.1+1,0))
   else pure (ForInStep.yield (none,c.2.1-1,c.2.2.1,c.2.2.2.1.push y,c.2.2.2.2.1+1,0))
  else do
   let x <- elem' b (c.2.2.1-1)
   if(c.2.2.1-1==1)=true then pure (ForInStep.done (some (b.extract 0 (c.2.2.1-1)++a.extract 0 c.2.1++(c.2.2.2.1.push x).reverse),c.2.1,c.2.2.1-1,c.2.2.2.1.push x,0,c.2.2.2.2.2+1))
   else if c.2.2.2.2.2+1>=g then pure (ForInStep.done (none,c.2.1,c.2.2.1-1,c.2.2.2.1.push x,0,c.2.2.2.2.2+1))
   else pure (ForInStep.yield (none,c.2.1,c.2.2.1-1,c.2.2.2.1.push x,0,c.2.2.2.2.2+1))
 | _=>pure (ForInStep.done (some (a.extract 0 c.2.1++b.extract 0 c.2.2.1++c.2.2.2.1.reverse),c.2.1,c.2.2.1,c.2.2.2.1,c.2.2.2.2.1,c.2.2.2.2.2))
def hiG(a b:Array Keyed)(c:HS):StateT SortSt Sem (ForInStep HS):=
 if c.2.2.2.2.1>1 then do
  fb (c.2.2.2.2.1-1)
  Dz a b c.2.2.2.1 c.2.1 c.2.2.1 (c.2.2.2.2.1-1) c.2.2.2.2.2.1 c.2.2.2.2.2.2
 else do
  fb c.2.2.2.2.1
  Dz a b c.2.2.2.1 c.2.1 c.2.2.1 c.2.2.2.2.1 c.2.2.2.2.2.1 c.2.2.2.2.2.2
def hiE(r:HS):StateT SortSt Sem (ForInStep HQ):=
 match r.1 with
 | some arr=>pure (ForInStep.done (some arr,r.2.1,r.2.2.1,r.2.2.2.1,r.2.2.2.2.1))
 | none=>do
  fb (r.2.2.2.2.1+1)
  pure (ForInStep.yield (none,r.2.1,r.2.2.1,r.2.2.2.1,r.2.2.2.2.1+1))
def hiN(a b:Array Keyed)(g:Nat)(r:HI):StateT SortSt Sem (ForInStep HQ):=
 match r.1 with
 | some arr=>pure (ForInStep.done (some arr,r.2.1,r.2.2.1,r.2.2.2.1,g))
 | none=>do
  liftM (rule "list.sort.gallop")
  let r2 <- forIn [0:a.size+b.size] ((none,r.2.1,r.2.2.1,r.2.2.2.1,g+1,r.2.2.2.2.1,r.2.2.2.2.2):HS) λ_ t=>hiG a b t
  hiE r2
def hiO(a b:Array Keyed)(c:HQ):StateT SortSt Sem (ForInStep HQ):=do
 let r <- forIn [0:a.size+b.size] ((none,c.2.1,c.2.2.1,c.2.2.2.1,0,0):HI) λ_ r=>hiI a b c.2.2.2.2 r
 hiN a b c.2.2.2.2 r
def hiZ(r:HQ):StateT SortSt Sem (Array Keyed):=
 match r.1 with
 | some arr=>pure arr
 | none=>unsupported "internal:list.sort.merge-bound"
theorem sy(a b:Array Keyed):oF a b=(do
 liftM (rule "list.sort.merge-hi")
 let x <- elem' a (a.size-1)
 if(a.size-1==0)=true then pure (a.extract 0 (a.size-1)++b.extract 0 b.size++(#[x]:Array Keyed).reverse)
 else if(b.size==1)=true then pure (b.extract 0 b.size++a.extract 0 (a.size-1)++(#[x]:Array Keyed).reverse)
 else do
  let st <- get
  let r <- forIn [0:a.size+b.size] ((none,a.size-1,b.size,#[x],gallopOf st):HQ) λ_ r=>hiO a b r
  hiZ r):=by kernel_rfl
theorem JO{cv st:SortSt}{g n m:Nat}{c:HI}(hL:gF M Ar E s ρ kd P)(hk:kindOf cv=kd)(T:wL ρ P a b)(hK:Kp cv st)(j:dX ρ L a b (n+1+min m 1) c.2.2.2.1 c.2.1 c.2.2.1):
  wpS M Ar E s (hiI a b g c) (λr ay=>Kp cv ay/\match r with
   | .done c=>(∃arr,c.1=some arr/\Good ρ L arr.toList)\/(c.1=none/\dX ρ L a b (n+1+1) c.2.2.2.1 c.2.1 c.2.2.1)
   | .yield c=>c.1=none/\dX ρ L a b (n+1+min (m+1) 1) c.2.2.2.1 c.2.1 c.2.2.1) st:=by
 obtain⟨ret,na,nb,out,ac,bc⟩:=c;obtain⟨j,l1,l2,l3,l4,l5⟩:=j;dsimp only at j l1 l2 l3 l4 l5;unfold hiI;dsimp only;obtain⟨x,ex,px⟩:=dC T.pb (show nb-1<b.size by omega)
 obtain⟨y,ey,py⟩:=dC T.pa (show na-1<a.size by omega)
 refine wpS_bind (bb ex (wpS_bind (bb ey (wpS_bind (hL x y st _ px py (hK.k.trans hk) ?_)))))
 by_cases jn:ρ x<ρ y
 ·rw[decide_eq_true jn]
  refine wpS_bind (bb ey ?_);have j':=j.qM l1 ey λz hz=>Nat.le_trans (j.Wm ⋯ ex z hz) (Nat.le_of_lt jn)
  by_cases e:na-1=0
  ·rw[if_pos (by simpa using e)]
   exact wpS_pure ⟨hK,.inl ⟨_,rfl,j'.iZ e⟩⟩
  ·rw[if_neg (by simpa using e)]
   split
   ·exact wpS_pure ⟨hK,.inr ⟨rfl,j',by show 1<=na-1;omega,l2,by show na-1<=a.size;omega,l4,by show na-1+nb+(n+1+1)<=_;omega⟩⟩
   ·exact wpS_pure ⟨hK,rfl,j',by show 1<=na-1;omega,l2,by show na-1<=a.size;omega,l4,by show na-1+nb+(n+1+min (m+1) 1)<=_;omega⟩
 ·rw[decide_eq_false jn]
  refine wpS_bind (bb ex ?_);have j':=j.qN ⋯ ex λz hz=>Nat.le_trans (j.Wl l1 ey z hz) (Nat.not_lt.mp jn)
  by_cases e:nb-1=1
  ·rw[if_pos (by simpa using e)]
   exact wpS_pure ⟨hK,.inl ⟨_,rfl,j'.rV e T.b1 T.y⟩⟩
  ·rw[if_neg (by simpa using e)]
   split
   ·exact wpS_pure ⟨hK,.inr ⟨rfl,j',l1,by show 2<=nb-1;omega,l3,by show nb-1<=b.size;omega,by show na+(nb-1)+(n+1+1)<=_;omega⟩⟩
   ·exact wpS_pure ⟨hK,rfl,j',l1,by show 2<=nb-1;omega,l3,by show nb-1<=b.size;omega,by show na+(nb-1)+(n+1+min (m+1) 1)<=_;omega⟩
def PGH(ρ:Keyed->Nat)(L:List Keyed)(a b:Array Keyed)(t:Nat)(cv:SortSt)(r:ForInStep HQ)(st:SortSt):Prop:=match r with
 | .done c=>Kp cv st/\∃arr,c.1=some arr/\Good ρ L arr.toList
 | .yield c=>Kp cv st/\c.1=none/\dX ρ L a b t c.2.2.2.1 c.2.1 c.2.2.1
theorem JP{cv st:SortSt}{g n:Nat}{r:HI}(hL:gF M Ar E s ρ kd P)(hk:kindOf cv=kd)(T:wL ρ P a b)(hK:Kp cv st)
  (h:(∃arr,r.1=some arr/\Good ρ L arr.toList)\/(r.1=none/\dX ρ L a b (n+1+1) r.2.2.2.1 r.2.1 r.2.2.1)):wpS M Ar E s (hiN a b g r) (PGH ρ L a b (n+1+1) cv) st:=by
 obtain⟨ret,r⟩:=r;unfold hiN;rcases h with⟨arr,h1,h2⟩|⟨h1,hl⟩
 ·dsimp only at h1
  subst h1;exact wpS_pure ⟨hK,arr,rfl,h2⟩
 ·dsimp only at h1 hl
  subst h1;refine wpS_bind (wpS_lift (wpAny_rule ⟨rfl,?_⟩));refine wpS_bind (wpS_mono (wpS_forRange (I:=λx c ay=>Kp cv ay/\c.1=none/\dX ρ L a b (n+1+1) c.2.2.2.1 c.2.1 c.2.2.1)
   (Q:=λc ay=>Kp cv ay/\((∃arr,c.1=some arr/\Good ρ L arr.toList)\/(c.1=none/\dX ρ L a b (n+1+1) c.2.2.2.1 c.2.1 c.2.2.1))) ?gstep ?gfin ⟨hK,rfl,hl⟩) ?gpost)
  case gfin =>
   rintro c ay ⟨hK,h1,hl⟩;exact⟨hK,.inr ⟨h1,hl⟩⟩
  case gstep =>
   rintro m c ay _ hm ⟨hK,h1,hl⟩;have go:∀g,wpS M Ar E s (do fb g;Dz a b c.2.2.2.1 c.2.1 c.2.2.1 g c.2.2.2.2.2.1 c.2.2.2.2.2.2) (λr dA=>match r with
     | .done c=>Kp cv dA/\((∃arr,c.1=some arr/\Good ρ L arr.toList)\/(c.1=none/\dX ρ L a b (n+1+1) c.2.2.2.1 c.2.1 c.2.2.1))
     | .yield c=>Kp cv dA/\c.1=none/\dX ρ L a b (n+1+1) c.2.2.2.1 c.2.1 c.2.2.1) ay:=λg=>by
    rw[eV];refine wpS_bind (wpS_modify (wpS_mono (Gp hL hk T (hK.min g) hl) λr dA hr=>?_));obtain⟨k1,k2⟩:=hr;cases r with
    | done c=>exact⟨k1,k2⟩
    | yield c=>exact⟨k1,k2⟩
   unfold hiG
   split
   ·refine wpS_mono (go _) λr dA hr=>?_
    cases r<;>exact hr
   ·refine wpS_mono (go _) λr dA hr=>?_
    cases r<;>exact hr
  case gpost =>
   rintro⟨ret,r⟩ ay ⟨hK,⟨arr,h1,h2⟩|⟨h1,hl⟩⟩
   ·dsimp only at h1
    subst h1;exact wpS_pure ⟨hK,arr,rfl,h2⟩
   ·dsimp only at h1 hl
    subst h1;unfold hiE;rw[eV];exact wpS_bind (wpS_modify (wpS_pure ⟨hK.min _,rfl,hl⟩))
theorem JQ{cv st:SortSt}{n:Nat}{c:HQ}(hL:gF M Ar E s ρ kd P)(hk:kindOf cv=kd)(T:wL ρ P a b)(hn:0<a.size+b.size)(hK:Kp cv st)(hl:dX ρ L a b (n+1) c.2.2.2.1 c.2.1 c.2.2.1):wpS M Ar E s (hiO a b c) (PGH ρ L a b (n+1+1) cv) st:=by
 unfold hiO;refine wpS_bind (wpS_mono (wpS_forRange (I:=λx c ay=>Kp cv ay/\c.1=none/\dX ρ L a b (n+1+min x 1) c.2.2.2.1 c.2.1 c.2.2.1)
  (Q:=λc ay=>Kp cv ay/\((∃arr,c.1=some arr/\Good ρ L arr.toList)\/(c.1=none/\dX ρ L a b (n+1+1) c.2.2.2.1 c.2.1 c.2.2.1))) ?istep ?ifin ⟨hK,rfl,by simpa using hl⟩) ?ipost)
 case ifin =>
  rintro c ay ⟨hK,h1,hl⟩;rw[show min (max 0 (a.size+b.size)) 1=1 by omega]at hl
  exact⟨hK,.inr ⟨h1,hl⟩⟩
 case istep =>
  rintro m c ay _ hm ⟨hK,h1,hl⟩;refine wpS_mono (JO hL hk T hK hl) λr dA hr=>?_;obtain⟨k1,k2⟩:=hr;cases r with
  | done c=>exact⟨k1,k2⟩
  | yield c=>exact⟨k1,k2⟩
 case ipost =>
  rintro r ay ⟨hK,h⟩;exact JP hL hk T hK h
theorem wH{st:SortSt}{Q:Array Keyed->SortSt->Prop}(hL:gF M Ar E s ρ kd P)(hk:kindOf st=kd)(T:wL ρ P a b)
  (q:∀r ay,Kp st ay->Good ρ (a.toList++b.toList) r.toList->Q r ay):wpS M Ar E s (oF a b) Q st:=by
 rw[sy];have b1:=T.b1;have a1:=T.a1;refine wpS_bind (wpS_lift (wpAny_rule ⟨rfl,?_⟩));obtain⟨x,ex,px⟩:=dC T.pa (show a.size-1<a.size by omega)
 refine wpS_bind (bb ex ?_);have j0:W ρ (a.toList++b.toList) a b #[] a.size b.size:=by
  have e1:a.toList.take a.size=a.toList:=List.take_of_length_le (Nat.le_refl _);have e2:b.toList.take b.size=b.toList:=List.take_of_length_le (Nat.le_refl _);unfold W;rw[e1,e2];exact⟨List.Pairwise.nil,T.sa,T.sb,(λx hx y hy=>by cases hy),(λx hx y hy=>by cases hy),by simp⟩
 have j1:W ρ (a.toList++b.toList) a b #[x] (a.size-1) b.size:=by simpa using j0.qM a1 ex λy hy=>T.z y (List.mem_of_mem_take hy) x ex
 by_cases e:a.size-1=0
 ·rw[if_pos (by simpa using e)]
  exact wpS_pure (q _ st .refl (by simpa using j1.iZ e))
 ·rw[if_neg (by simpa using e)]
  by_cases e2:b.size=1
  ·rw[if_pos (by simpa using e2)]
   exact wpS_pure (q _ st .refl (by simpa using j1.rV e2 T.b1 T.y))
  ·rw[if_neg (by simpa using e2)]
   refine wpS_bind (wpS_get ?_);refine wpS_bind (wpS_mono (wpS_forRange (I:=λx c ay=>Kp st ay/\c.1=none/\dX ρ (a.toList++b.toList) a b (x+1) c.2.2.2.1 c.2.1 c.2.2.1)
    (Q:=λc ay=>Kp st ay/\∃arr,c.1=some arr/\Good ρ (a.toList++b.toList) arr.toList) ?step ?fin ⟨.refl,rfl,j1,by show 1<=a.size-1;omega,by show 2<=b.size;omega,by show a.size-1<=a.size;omega,by show b.size<=b.size;omega,by show a.size-1+b.size+(0+1)<=_;omega⟩) ?post)
   case fin =>
    rintro⟨ret,na,nb,out,g⟩ ay ⟨hK,h1,j,h2,h3,h4,h5,h6⟩;dsimp only at h2 h3 h4 h5 h6;omega
   case post =>
    rintro⟨ret,r⟩ ay ⟨hK,arr,h1,h2⟩;dsimp only at h1;subst h1;exact wpS_pure (q arr ay hK h2)
   case step =>
    rintro n c ay _ hn ⟨hK,h1,hl⟩;refine wpS_mono (JQ hL hk T ⋯ hK hl) λr dA hr=>?_
    cases r with
    | done c=>exact hr
    | yield c=>exact hr
end
end Vs
namespace Vs
open PySem PyProof.Rows
abbrev Run:=Nat×Nat×Nat
theorem vH(i:Nat):mergeAt' i=(do
 let s <- get
 let (some (sa,na,power),some (sb,nb,_)):=((pendingOf s)[i]?,(pendingOf s)[i+1]?)|unsupported "internal:list.sort.pending"
 set (setPending s (((pendingOf s).setIfInBounds i (sa,na+nb,power)).eraseIdxIfInBounds (i+1)))
 let some k <- cF false (<- elem' (arrOf s) sb) (arrOf s) sa na 0|return false
 let (sa,na):=(sa+k,na-k)
 if na==0 then return true
 let some nb <- cF true (<- elem' (arrOf s) (sa+na-1)) (arrOf s) sb nb (nb-1)|return false
 if nb==0 then return true
 let x:=(arrOf s).extract sa sb
 let y:=(arrOf s).extract sb (sb+nb)
 let merged <- if na<=nb then oG x y else oF x y
 modify λs=>setArr s (merged.toList.zipIdx.foldl (λa (p,j)=>a.setIfInBounds (sa+j) p) (arrOf s))
 return(failedOf (<- get)).isNone):=rfl
def Ch(ρ:Keyed->Nat)(xs:Array Keyed):Nat->Nat->List Run->Prop
 | s,e,[]=>s=e
 | s,e,r::rs=>r.1=s/\1<=r.2.1/\Seg ρ xs s (s+r.2.1)/\Ch ρ xs (s+r.2.1) e rs
theorem Ch.app{ρ:Keyed->Nat}{xs:Array Keyed}:∀ {l m:List Run} {s e:Nat},Ch ρ xs s e (l++m) ↔ ∃t,Ch ρ xs s t l/\Ch ρ xs t e m
 | [],m,s,e=>⟨λh=>⟨s,rfl,h⟩,λ⟨t,h1,h2⟩=>by cases h1;exact h2⟩
 | r::l,m,s,e=>by
  constructor
  ·rintro⟨h1,h2,h3,h4⟩
   obtain⟨t,h5,h6⟩:=Ch.app.mp h4;exact⟨t,⟨h1,h2,h3,h5⟩,h6⟩
  ·rintro⟨t,⟨h1,h2,h3,h5⟩,h6⟩
   exact⟨h1,h2,h3,Ch.app.mpr ⟨t,h5,h6⟩⟩
theorem Ch.le{ρ:Keyed->Nat}{xs:Array Keyed}:∀ {l:List Run} {s e:Nat},Ch ρ xs s e l->s+l.length<=e
 | [],s,e,h=>by cases h;exact Nat.le_refl _
 | r::l,s,e,⟨_,h2,_,h4⟩=>by have:=Ch.le h4;simp only[List.length_cons];omega
theorem Seg.congr{ρ:Keyed->Nat}{xs ys:Array Keyed}{lo hi:Nat}(h:Seg ρ xs lo hi)(e:∀k,lo<=k->k<hi->ys[k]?=xs[k]?):Seg ρ ys lo hi:=λi j h1 h2 h3=>by
 rw[ix (e i h1 ⋯),ix (e j ⋯ h3)];exact h i j h1 h2 h3
theorem Ch.congr{ρ:Keyed->Nat}{xs ys:Array Keyed}:∀ {l:List Run} {s e:Nat},Ch ρ xs s e l->(∀k,s<=k->k<e->ys[k]?=xs[k]?)->Ch ρ ys s e l
 | [],s,e,h,_=>h
 | r::l,s,e,⟨h1,h2,h3,h4⟩,q=>by
  have:=Ch.le h4;exact⟨h1,h2,h3.congr λk a b=>q k a ⋯,Ch.congr h4 λk a b=>q k ⋯ b⟩
theorem sN(off:Nat):∀(m:List Keyed) (n:Nat) (xs:Array Keyed),off+n+m.length<=xs.size->∀k:Nat,
  ((m.zipIdx n).foldl (λa (p,j)=>a.setIfInBounds (off+j) p) xs)[k]?=(if off+n<=k/\k<off+n+m.length then m[k-(off+n)]? else xs[k]?)/\((m.zipIdx n).foldl (λa (p,j)=>a.setIfInBounds (off+j) p) xs).size=xs.size
 | [],n,xs,h,k=>⟨by rw[if_neg (by simp only[List.length_nil];omega)];rfl,rfl⟩
 | p::m,n,xs,h,k=>by
  simp only[List.length_cons]at h;rw[List.zipIdx_cons,List.foldl_cons];have ih:=sN off m (n+1) (xs.setIfInBounds (off+n) p) (by rw[Array.size_setIfInBounds];omega) k
  refine⟨?_,by rw[ih.2,Array.size_setIfInBounds]⟩
  rw[ih.1];simp only[List.length_cons]
  by_cases h1:off+(n+1)<=k/\k<off+(n+1)+m.length
  ·rw[if_pos h1,if_pos ⋯,show k-(off+n)=k-(off+(n+1))+1 by omega,List.getElem?_cons_succ]
  ·rw[if_neg h1]
   by_cases h2:k=off+n
   ·subst h2
    rw[if_pos ⋯,Nat.sub_self,List.getElem?_cons_zero,Array.getElem?_setIfInBounds_self_of_lt ⋯]
   ·rw[if_neg ⋯,Array.getElem?_setIfInBounds_ne ⋯]
theorem E7{off:Nat}{m:List Keyed}{xs:Array Keyed}(h:off+m.length<=xs.size)(hp:m.Perm ((xs.toList.drop off).take m.length)):(m.zipIdx.foldl (λa (p,j)=>a.setIfInBounds (off+j) p) xs).Perm xs:=by
 rw[Array.perm_iff_toList_perm];have e:(m.zipIdx.foldl (λa (p,j)=>a.setIfInBounds (off+j) p) xs).toList=xs.toList.take off++(m++xs.toList.drop (off+m.length)):=by
  apply List.ext_getElem?;intro k;have:=(sN off m 0 xs (by simpa using h) k).1
  rw[Nat.add_zero]at this;rw[Array.getElem?_toList,this];have hl:(xs.toList.take off).length=off:=by rw[List.length_take];have:xs.toList.length=xs.size:=rfl;omega
  by_cases h1:k<off
  ·rw[if_neg ⋯,List.getElem?_append_left ⋯,List.getElem?_take_of_lt h1,Array.getElem?_toList]
  ·rw[List.getElem?_append_right ⋯,hl]
   by_cases h2:k<off+m.length
   ·rw[if_pos ⋯,List.getElem?_append_left ⋯]
   ·rw[if_neg ⋯,List.getElem?_append_right ⋯,List.getElem?_drop,show off+m.length+(k-off-m.length)=k by omega,Array.getElem?_toList]
 rw[e];have e2:xs.toList=xs.toList.take off++((xs.toList.drop off).take m.length++xs.toList.drop (off+m.length)):=by
  rw[<- List.drop_drop,List.take_append_drop,List.take_append_drop]
 exact(List.Perm.append_left _ (List.Perm.append_right _ hp)).trans (by rw[<- e2])
theorem pd{ρ:Keyed->Nat}{xs:Array Keyed}{i j:Nat}(h:Seg ρ xs i j)(hj:j<=xs.size):So ρ (xs.extract i j).toList:=by
 refine List.pairwise_iff_getElem.mpr λp q hp hq hpq=>?_;rw[nC,List.length_drop,List.length_take]at hq;have hs:xs.toList.length=xs.size:=rfl;have:=h (i+p) (i+q) ⋯ ⋯ ⋯
 have e1:xs[i+p]?=some ((xs.extract i j).toList[p]):=by
  rw[Array.getElem?_eq_getElem ⋯];simp
 have e2:xs[i+q]?=some ((xs.extract i j).toList[q]):=by
  rw[Array.getElem?_eq_getElem ⋯];simp
 rw[dz e1,dz e2]at this;exact this
theorem Dj{xs:Array Keyed}{i j m:Nat}(h:i+m<j)(hj:j<=xs.size):(xs.extract i j)[m]?=xs[i+m]?:=by
 rw[Array.getElem?_extract];rw[if_pos ⋯]
theorem ji{xs:Array Keyed}{i j:Nat}{x:Keyed}(h:x∈(xs.extract i j).toList):∃m,i<=m/\m<j/\m<xs.size/\xs[m]?=some x:=by
 rw[nC]at h;exact ik h
section
variable {M:Model}{Ar:Around}{E:Value->Shared->Prop}{s:Shared}{ρ:Keyed->Nat}{kd:SortKind}{P:Keyed->Prop}{a₀:Array Keyed}
theorem JN{key:Keyed}{arr:Array Keyed}{base n hint:Nat}{st:SortSt}{Q:Option Nat->SortSt->Prop}(hL:gF M Ar E s ρ kd P)(hk:kindOf st=kd)(pk:P key)(pa:∀i,i<n->∃x,arr[base+i]?=some x/\P x)(hs:Seg ρ arr base (base+n))(hn:hint<n)
  (q:∀k,k<=n->(∀i,base<=i->i<base+k->R ρ arr i<=ρ key)->(∀i,base+k<=i->i<base+n->ρ key<R ρ arr i)->Q (some k) st):wpS M Ar E s (cF false key arr base n hint) Q st:=by
 refine dP (tells hL hk pk pa) (λi j lC hj h=>?_) hn λk sj h1 h2=>q k sj (λi hi HF=>?_) λi hi HF=>?_
 ·have:=hs (base+i) (base+j) ⋯ ⋯ ⋯
  simp only[qe,Bool.false_eq_true,if_false,Bool.not_eq_true',decide_eq_false_iff_not]at h ⊢;omega
 ·have:=h1 (i-base) ⋯
  simp only[qe,Bool.false_eq_true,if_false,Bool.not_eq_true',decide_eq_false_iff_not,show base+(i-base)=i by omega]at this
  omega
 ·have:=h2 (i-base) ⋯ ⋯
  simp only[qe,Bool.false_eq_true,if_false,show base+(i-base)=i by omega,Bool.not_eq_false',decide_eq_true_eq]at this
  exact this
theorem JM{key:Keyed}{arr:Array Keyed}{base n hint:Nat}{st:SortSt}{Q:Option Nat->SortSt->Prop}(hL:gF M Ar E s ρ kd P)(hk:kindOf st=kd)(pk:P key)(pa:∀i,i<n->∃x,arr[base+i]?=some x/\P x)(hs:Seg ρ arr base (base+n))(hn:hint<n)
  (q:∀k,k<=n->(∀i,base<=i->i<base+k->R ρ arr i<ρ key)->(∀i,base+k<=i->i<base+n->ρ key<=R ρ arr i)->Q (some k) st):wpS M Ar E s (cF true key arr base n hint) Q st:=by
 refine dP (tells hL hk pk pa) (λi j lC hj h=>?_) hn λk sj h1 h2=>q k sj (λi hi HF=>?_) λi hi HF=>?_
 ·have:=hs (base+i) (base+j) ⋯ ⋯ ⋯
  simp only[qe,if_true,decide_eq_true_eq]at h ⊢;omega
 ·have:=h1 (i-base) ⋯
  simp only[qe,if_true,decide_eq_true_eq,show base+(i-base)=i by omega]at this
  exact this
 ·have:=h2 (i-base) ⋯ ⋯
  simp only[qe,if_true,show base+(i-base)=i by omega,decide_eq_false_iff_not]at this
  omega
theorem JV{st ay:SortSt}{Q:PUnit->SortSt->Prop}(h:Q ⟨⟩ ay):wpS M Ar E s (set ay:StateT SortSt Sem PUnit) Q st:=by
 unfold wpS;rw[StateT.run_set];exact wpAny_pure ⟨rfl,h⟩
theorem Ub{l:List Run}{i:Nat}(h:i+1<l.length):∃pre x y post,l=pre++x::y::post/\pre.length=i:=by
 refine⟨l.take i,l[i],l[i+1],l.drop (i+2),?_,by rw[List.length_take];omega⟩
 have e:=(List.take_append_drop i l).symm;rw[List.drop_eq_getElem_cons ⋯,List.drop_eq_getElem_cons h]at e
 exact e
theorem mR{st:SortSt}{i lo:Nat}{Q:Bool->SortSt->Prop}(hL:gF M Ar E s ρ kd P)(h0:∀p∈a₀.toList,P p)(hB:SI kd a₀ st)(yR:lo<=a₀.size)(hc:Ch ρ (arrOf st) 0 lo (pendingOf st).toList)(hi:i+1<(pendingOf st).size)
  (q:∀ay,SI kd a₀ ay->Ch ρ (arrOf ay) 0 lo (pendingOf ay).toList->(pendingOf ay).size+1=(pendingOf st).size->(∀k,lo<=k->(arrOf ay)[k]?=(arrOf st)[k]?)->Q true ay):wpS M Ar E s (mergeAt' i) Q st:=by
 rw[vH];refine wpS_bind (wpS_get ?_);obtain⟨pre,⟨sa,na,pw⟩,⟨sb,nb,pw2⟩,post,el,de⟩:=Ub (l:=(pendingOf st).toList) (i:=i) (by simpa using hi)
 have e1:(pendingOf st)[i]?=some (sa,na,pw):=by
  rw[<- Array.getElem?_toList,el,List.getElem?_append_right ⋯,de,Nat.sub_self];rfl
 have e2:(pendingOf st)[i+1]?=some (sb,nb,pw2):=by
  rw[<- Array.getElem?_toList,el,List.getElem?_append_right ⋯,de,Nat.add_sub_cancel_left];rfl
 have D4:(((pendingOf st).setIfInBounds i (sa,na+nb,pw)).eraseIdxIfInBounds (i+1)).toList=pre++(sa,na+nb,pw)::post:=by
  have hs:i+1<((pendingOf st).setIfInBounds i (sa,na+nb,pw)).size:=by rw[Array.size_setIfInBounds];exact hi
  rw[Array.eraseIdxIfInBounds,dif_pos hs,Array.toList_eraseIdx,Array.toList_setIfInBounds,el,<- de];rw[List.set_append_right _ _ (Nat.le_refl _),Nat.sub_self,List.set_cons_zero,List.eraseIdx_append_of_length_le (Nat.le_succ _),show pre.length.succ-pre.length=1 by omega]
  rfl
 have Xc:(((pendingOf st).setIfInBounds i (sa,na+nb,pw)).eraseIdxIfInBounds (i+1)).size+1=(pendingOf st).size:=by
  have a1:(((pendingOf st).setIfInBounds i (sa,na+nb,pw)).eraseIdxIfInBounds (i+1)).toList.length=(pre++(sa,na+nb,pw)::post).length:=by rw[D4]
  have a2:(pendingOf st).toList.length=(pre++(sa,na,pw)::(sb,nb,pw2)::post).length:=by rw[el]
  simp only[List.length_append,List.length_cons,Array.length_toList]at a1 a2;omega
 rw[e1,e2];dsimp only;refine wpS_bind (JV ?_);rw[el]at hc;obtain⟨t,c1,⟨rfl,c3,c4,rfl,c6,c7,c8⟩⟩:=Ch.app.mp hc;dsimp only at c1 c3 c4 c6 c7 c8 D4 e1 e2 Xc ⊢;have hle:=Ch.le c8;have hsz:=hB.size;have Vo:∀k,k<a₀.size->∃x,(arrOf st)[k]?=some x/\P x:=λk hk=>hB.at h0 hk;obtain⟨b0,eb,pb⟩:=Vo (sa+na) ⋯
 refine wpS_bind (bb eb ?_);refine wpS_bind (JN hL hB.kind pb (λi hi=>Vo _ ⋯) c4 ⋯ λk hk g1 g2=>?_)
 dsimp only
 -- the whole of both,from what becomes of the array
 have fin:∀(ys:Array Keyed) (ay:SortSt),arrOf ay=ys->pendingOf ay=((pendingOf st).setIfInBounds i (sa,na+nb,pw)).eraseIdxIfInBounds (i+1)->kindOf ay=kd->failedOf ay=none->ys.Perm (arrOf st) ->
   (∀k,k<sa\/sa+na+nb<=k->ys[k]?=(arrOf st)[k]?)->Seg ρ ys sa (sa+na+nb)->Q true ay:=λys ay h1 h2 h3 h4 h5 h6 h7=>by
  refine q ay ⟨by rw[h1];exact h5.trans hB.perm,h3,h4⟩ ?_ (by rw[h2];exact Xc) (λk hk=>by rw[h1];exact h6 k (.inr ⋯))
  rw[h1,h2,D4];refine Ch.app.mpr ⟨sa,c1.congr λk _ hk=>h6 k (.inl hk),rfl,?_,?_,?_⟩
  ·show 1<=na+nb;omega
  ·show Seg ρ ys sa (sa+(na+nb));rw[<- Nat.add_assoc];exact h7
  ·show Ch ρ ys (sa+(na+nb)) lo post
   rw[<- Nat.add_assoc];exact c8.congr λk hk _=>h6 k (.inr hk)
 have rb0:R ρ (arrOf st) (sa+na)=ρ b0:=dz eb
 by_cases yP:na-k=0
 ·rw[if_pos (by simpa using yP)]
  refine wpS_pure (fin (arrOf st) _ rfl rfl hB.kind hB.failed (Array.Perm.refl _) (λ_ _=>rfl) λi j h1 h2 h3=>?_)
  by_cases hj:j<sa+na
  ·exact c4 i j h1 h2 hj
  ·by_cases xu:i<sa+na
   ·have:=g1 i h1 ⋯
    have:=c7 (sa+na) j ⋯ ⋯ h3
    omega
   ·exact c7 i j ⋯ h2 h3
 ·rw[if_neg (by simpa using yP)]
  obtain⟨al,ea,pa⟩:=Vo (sa+k+(na-k)-1) ⋯
  have ral:R ρ (arrOf st) (sa+na-1)=ρ al:=by rw[show sa+na-1=sa+k+(na-k)-1 by omega];exact dz ea
  refine wpS_bind (bb ea ?_);refine wpS_bind (JM hL hB.kind pa (λi hi=>Vo _ ⋯) c7 ⋯ λk2 KS g3 g4=>?_)
  dsimp only
  by_cases W0:k2=0
  ·subst W0
   rw[if_pos (by simp)]
   refine wpS_pure (fin (arrOf st) _ rfl rfl hB.kind hB.failed (Array.Perm.refl _) (λ_ _=>rfl) λi j h1 h2 h3=>?_)
   by_cases hj:j<sa+na
   ·exact c4 i j h1 h2 hj
   ·by_cases xu:i<sa+na
    ·have:=g4 j ⋯ h3
     have:=c4 i (sa+na-1) h1 ⋯ ⋯
     omega
    ·exact c7 i j ⋯ h2 h3
  ·rw[if_neg (by simpa using W0)]
   have hPx:∀i j,j<=a₀.size->∀x∈((arrOf st).extract i j).toList,P x:=λi j hj x hx=>by
    obtain⟨m,m1,m2,m3,m4⟩:=ji hx;obtain⟨y,ey,py⟩:=Vo m ⋯
    rw[m4]at ey;cases ey;exact py
   have zx:((arrOf st).extract (sa+k) (sa+na)).size=na-k:=by rw[Array.size_extract];omega
   have zy:((arrOf st).extract (sa+na) (sa+na+k2)).size=k2:=by rw[Array.size_extract];omega
   have T:wL ρ P ((arrOf st).extract (sa+k) (sa+na)) ((arrOf st).extract (sa+na) (sa+na+k2)):=
    ⟨hPx _ _ ⋯,hPx _ _ ⋯,pd (λi j h1 h2 h3=>c4 i j ⋯ h2 h3) ⋯,pd (λi j h1 h2 h3=>c7 i j h1 h2 ⋯) ⋯,by omega,by omega,
     λy hy z hz=>by
      obtain⟨m,m1,m2,m3,m4⟩:=ji hy;rw[zx,Dj ⋯ ⋯,show sa+k+(na-k-1)=sa+k+(na-k)-1 by omega,ea]at hz
      cases hz;have:=g3 m m1 m2;rw[dz m4]at this;omega,
     λy hy z hz=>by
      obtain⟨m,m1,m2,m3,m4⟩:=ji hy;rw[Dj ⋯ ⋯,Nat.add_zero,eb]at hz
      cases hz;have:=g2 m m1 m2;rw[dz m4]at this;omega⟩
   have done:∀(r:Array Keyed) (ay:SortSt),Kp (setPending st (((pendingOf st).setIfInBounds i (sa,na+nb,pw)).eraseIdxIfInBounds (i+1))) ay->Good ρ (((arrOf st).extract (sa+k) (sa+na)).toList++((arrOf st).extract (sa+na) (sa+na+k2)).toList) r.toList ->
     wpS M Ar E s (do
      modify λs=>setArr s (r.toList.zipIdx.foldl (λa (p,j)=>a.setIfInBounds (sa+k+j) p) (arrOf s))
      let x <- get
      pure (failedOf x).isNone) Q ay:=λr ay hK hG=>by
    refine wpS_bind (wpS_modify (wpS_bind (wpS_get (wpS_pure ?_))));have ka:arrOf ay=arrOf st:=hK.a;have kp:pendingOf ay=_:=hK.p;have kf:failedOf ay=none:=hK.f.trans hB.failed;have kk:kindOf ay=kd:=hK.k.trans hB.kind;show Q (failedOf ay).isNone _;rw[kf];have hlen:r.toList.length=na-k+k2:=by
     have:=hG.2.length_eq;simp only[List.length_append,Array.length_toList,zx,zy]at this ⊢;exact this
    have hbd:sa+k+r.toList.length<=(arrOf st).size:=by omega
    have get:=λm=>(sN (sa+k) r.toList 0 (arrOf st) (by simpa using hbd) m).1
    simp only[Nat.add_zero]at get;have hX:((arrOf st).extract (sa+k) (sa+na)).toList++((arrOf st).extract (sa+na) (sa+na+k2)).toList=((arrOf st).toList.drop (sa+k)).take r.toList.length:=by
     rw[hlen,List.take_add,List.drop_drop,show sa+k+(na-k)=sa+na by omega]
     rw[show sa+na=sa+k+(na-k)by omega,nD,show sa+k+(na-k)=sa+na by omega,nD]
    refine fin _ _ (by show _=r.toList.zipIdx.foldl _ (arrOf st);rw[ka]) kp kk kf (E7 hbd (by rw[<- hX];exact hG.2)) (λm hm=>by rw[get m,if_neg ⋯]) ?_
    have ry:∀m,¬(sa+k<=m/\m<sa+k+r.toList.length)->R ρ (r.toList.zipIdx.foldl (λa (p,j)=>a.setIfInBounds (sa+k+j) p) (arrOf st)) m=R ρ (arrOf st) m:=λm hm=>ix (by rw[get m,if_neg hm])
    have rz:∀m (h:m-(sa+k)<r.toList.length),sa+k<=m->R ρ (r.toList.zipIdx.foldl (λa (p,j)=>a.setIfInBounds (sa+k+j) p) (arrOf st)) m=ρ (r.toList[m-(sa+k)]):=λm h hm=>by
     refine dz ?_;rw[get m,if_pos ⋯,List.getElem?_eq_getElem h]
    have low:∀z∈r.toList,∀i,sa<=i->i<sa+k->R ρ (arrOf st) i<=ρ z:=λz hz i i1 i2=>by
     rcases List.mem_append.mp (hG.2.mem_iff.mp hz)with hz|hz
     ·obtain⟨m,m1,m2,m3,m4⟩:=ji hz
      rw[<- dz (ρ:=ρ) m4];exact c4 i m i1 ⋯ m2
     ·obtain⟨m,m1,m2,m3,m4⟩:=ji hz
      have:=g1 i i1 i2;have:=c7 (sa+na) m ⋯ m1 ⋯
      rw[<- dz (ρ:=ρ) m4];omega
    have high:∀z∈r.toList,∀j,sa+na+k2<=j->j<sa+na+nb->ρ z<=R ρ (arrOf st) j:=λz hz j j1 j2=>by
     rcases List.mem_append.mp (hG.2.mem_iff.mp hz)with hz|hz
     ·obtain⟨m,m1,m2,m3,m4⟩:=ji hz
      have:=g4 j j1 j2;have:=c4 m (sa+na-1) ⋯ ⋯ ⋯
      rw[<- dz (ρ:=ρ) m4];omega
     ·obtain⟨m,m1,m2,m3,m4⟩:=ji hz
      rw[<- dz (ρ:=ρ) m4];exact c7 m j m1 ⋯ j2
    intro i j h1 h2 h3
    by_cases i1:i<sa+k
    ·rw[ry i ⋯]
     by_cases j1:j<sa+k
     ·rw[ry j ⋯];exact c4 i j h1 h2 ⋯
     ·by_cases j2:j<sa+k+r.toList.length
      ·rw[rz j ⋯ ⋯];exact low _ (List.getElem_mem _) i h1 i1
      ·rw[ry j ⋯]
       have:=g1 i h1 i1;have:=c7 (sa+na) j ⋯ ⋯ h3
       omega
    ·by_cases i2:i<sa+k+r.toList.length
     ·rw[rz i ⋯ ⋯]
      by_cases j2:j<sa+k+r.toList.length
      ·rw[rz j ⋯ ⋯]
       by_cases e:i=j
       ·subst e;exact Nat.le_refl _
       ·exact List.pairwise_iff_getElem.mp hG.1 _ _ ⋯ ⋯ ⋯
      ·rw[ry j ⋯];exact high _ (List.getElem_mem _) j ⋯ h3
     ·rw[ry i ⋯,ry j ⋯];exact c7 i j ⋯ h2 h3
   by_cases W4:na-k<=k2
   ·rw[if_pos W4]
    exact wpS_bind (wI hL hB.kind T done)
   ·rw[if_neg W4]
    exact wpS_bind (wH hL hB.kind T done)
end
end Vs
namespace Vs
open PySem PyProof.Rows
theorem Ch.modify{ρ:Keyed->Nat}{xs:Array Keyed}{f:Run->Run}(hf:∀r,(f r).1=r.1/\(f r).2.1=r.2.1):∀(l:List Run) (i s e:Nat),Ch ρ xs s e l->Ch ρ xs s e (l.modify i f)
 | [],i,s,e,h=>by rw[List.modify_nil];exact h
 | r::l,0,s,e,⟨h1,h2,h3,h4⟩=>by
  rw[List.modify_zero_cons];exact⟨(hf r).1.trans h1,by rw[(hf r).2];exact h2,by rw[(hf r).2];exact h3,by rw[(hf r).2];exact h4⟩
 | r::l,i+1,s,e,⟨h1,h2,h3,h4⟩=>by
  rw[List.modify_succ_cons];exact⟨h1,h2,h3,Ch.modify hf l i _ _ h4⟩
section
variable {M:Model}{Ar:Around}{E:Value->Shared->Prop}{s:Shared}{ρ:Keyed->Nat}{kd:SortKind}{P:Keyed->Prop}{a₀:Array Keyed}
theorem SI.zI{st:SortSt}(h:SI kd a₀ st)(p:Array Run):SI kd a₀ (setPending st p):=⟨h.perm,h.kind,h.failed⟩
def jV(lo n:Nat):StateT SortSt Sem (ForInStep (Option Unit×Nat)):=do
 modify λs=>setPending s ((pendingOf s).push (lo,n,0))
 pure (ForInStep.yield (none,lo+n))
def iG(size pw:Nat):StateT SortSt Sem (Option Unit×Unit):=
 forIn [:size] ((none,()):Option Unit×Unit) λ_ _=>do
  let x <- get
  match(if(pendingOf x).size>1 then(pendingOf x)[(pendingOf x).size-2]? else none)with
  | some (_,_,X8) =>
   if X8<=pw then pure (ForInStep.done (none,()))
   else do
    let r <- mergeAt' ((pendingOf x).size-2)
    if(!r)=true then pure (ForInStep.done (some (),()))else pure (ForInStep.yield (none,()))
  | _=>pure (ForInStep.done (none,()))
def iJ(size lo n:Nat):StateT SortSt Sem (ForInStep (Option Unit×Nat)):=do
 let x <- get
 match(pendingOf x).back? with
 | some (s1,n1,_)=>do
  let r <- iG size (power' size (2*s1+n1) (2*s1+n1+n1+n) size)
  match r.fst with
  | some r=>pure (ForInStep.done (some r,lo))
  | none=>do
   modify λs=>setPending s ((pendingOf s).modify ((pendingOf s).size-1) λx=>(x.fst,x.2.fst,power' size (2*s1+n1) (2*s1+n1+n1+n) size))
   jV lo n
 | _=>jV lo n
theorem mS{st:SortSt}{lo n:Nat}{Q:ForInStep (Option Unit×Nat)->SortSt->Prop}(hB:SI kd a₀ st)(hc:Ch ρ (arrOf st) 0 lo (pendingOf st).toList)(hn:1<=n)(hs:Seg ρ (arrOf st) lo (lo+n))
  (q:∀ay,SI kd a₀ ay->Ch ρ (arrOf ay) 0 (lo+n) (pendingOf ay).toList->Q (.yield (none,lo+n)) ay):wpS M Ar E s (jV lo n) Q st:=by
 unfold jV;refine wpS_bind (wpS_modify (wpS_pure (q _ (hB.zI _) ?_)));show Ch ρ (arrOf st) 0 (lo+n) ((pendingOf st).push (lo,n,0)).toList;rw[Array.toList_push];exact Ch.app.mpr ⟨lo,hc,rfl,hn,hs,rfl⟩
theorem pW{st:SortSt}{pw lo n:Nat}{Q:Option Unit×Unit->SortSt->Prop}(hL:gF M Ar E s ρ kd P)(h0:∀p∈a₀.toList,P p)(hB:SI kd a₀ st)(yR:lo<=a₀.size)(hc:Ch ρ (arrOf st) 0 lo (pendingOf st).toList)(hs:Seg ρ (arrOf st) lo (lo+n))
  (q:∀ay,SI kd a₀ ay->Ch ρ (arrOf ay) 0 lo (pendingOf ay).toList->Seg ρ (arrOf ay) lo (lo+n)->Q (none,()) ay):wpS M Ar E s (iG a₀.size pw) Q st:=by
 unfold iG;refine wpS_forRange (I:=λx c ay=>c=(none,())/\SI kd a₀ ay/\Ch ρ (arrOf ay) 0 lo (pendingOf ay).toList/\Seg ρ (arrOf ay) lo (lo+n)) ?step ?fin ⟨rfl,hB,hc,hs⟩
 case fin =>
  rintro c ay ⟨rfl,h1,h2,h3⟩;exact q ay h1 h2 h3
 case step =>
  rintro x c ay _ hx ⟨rfl,h1,h2,h3⟩;refine wpS_bind (wpS_get ?_)
  by_cases hz:(pendingOf ay).size>1
  ·rw[if_pos hz]
   have e:(pendingOf ay)[(pendingOf ay).size-2]?=some (pendingOf ay)[(pendingOf ay).size-2]:=Array.getElem?_eq_getElem ⋯
   rw[e];dsimp only
   split
   ·exact wpS_pure (q ay h1 h2 h3)
   ·refine wpS_bind (mR hL h0 h1 yR h2 ⋯ λA7 b1 b2 b3 b4=>?_)
    simp only[Bool.not_true,Bool.false_eq_true,if_false];exact wpS_pure ⟨rfl,b1,b2,h3.congr λk hk _=>b4 k hk⟩
  ·rw[if_neg hz]
   exact wpS_pure (q ay h1 h2 h3)
theorem wJ{st:SortSt}{lo n:Nat}{Q:ForInStep (Option Unit×Nat)->SortSt->Prop}(hL:gF M Ar E s ρ kd P)(h0:∀p∈a₀.toList,P p)(hB:SI kd a₀ st)(yR:lo<=a₀.size)(hc:Ch ρ (arrOf st) 0 lo (pendingOf st).toList)(hn:1<=n)(hs:Seg ρ (arrOf st) lo (lo+n))
  (q:∀ay,SI kd a₀ ay->Ch ρ (arrOf ay) 0 (lo+n) (pendingOf ay).toList->Q (.yield (none,lo+n)) ay):wpS M Ar E s (iJ a₀.size lo n) Q st:=by
 unfold iJ;refine wpS_bind (wpS_get ?_)
 split
 ·refine wpS_bind (pW hL h0 hB yR hc hs λay b1 b2 b3=>?_)
  dsimp only;refine wpS_bind (wpS_modify (mS (b1.zI _) ?_ hn b3 q));show Ch ρ (arrOf ay) 0 lo ((pendingOf ay).modify _ _).toList;rw[Array.toList_modify];refine Ch.modify ?_ _ _ _ _ b2;intro r;exact⟨rfl,rfl⟩
 ·exact mS hB hc hn hs q
theorem OB(c:Prop)[Decidable c]{n:Nat}(h:2<=n):(if c then n-2-1 else n-2)+1<n:=by split<;>omega
local macro_rules|`(tactic| walk_at "s_rest")=>`(tactic| (unfold iJ iG jV;congr 1;funext x;cases e:(pendingOf x).back? with
  | none=>rfl
  | some y=>(obtain⟨s1,n1,p1⟩:=y;dsimp only;congr 1;funext r;obtain⟨r1,r2⟩:=r;cases r1<;>rfl)))
theorem wpS_sortRuns{st:SortSt}{Q:Unit->SortSt->Prop}(hL:gF M Ar E s ρ kd P)(h0:∀p∈a₀.toList,P p)(hB:SI kd a₀ st)(hp:pendingOf st=#[])(h2:2<=a₀.size)
  (h:∀ay,SI kd a₀ ay->Seg ρ (arrOf ay) 0 a₀.size->Q () ay):wpS M Ar E s sortRuns' Q st:=by
 rw[sortRuns'_eq];refine wpS_bind (wpS_get ?_);dsimp only;rw[hB.size];generalize minRun' a₀.size a₀.size 0=mr;refine wpS_bind (wpS_mono (wpS_forRange (I:=λx c ay=>SI kd a₀ ay/\∃lo,c=(none,lo)/\lo<=a₀.size/\(x<=lo\/lo=a₀.size)/\Ch ρ (arrOf ay) 0 lo (pendingOf ay).toList)
  (Q:=λc ay=>SI kd a₀ ay/\c=(none,a₀.size)/\Ch ρ (arrOf ay) 0 a₀.size (pendingOf ay).toList) ?step ?fin ⟨hB,0,rfl,Nat.zero_le _,.inl (Nat.le_refl _),by rw[hp];rfl⟩) ?post)
 case fin =>
  rintro c ay ⟨jm,lo,rfl,l1,l2,hc⟩;have:lo=a₀.size:=by omega
  subst this;exact⟨jm,rfl,hc⟩
 case step =>
  rintro x c ay _ hx ⟨jm,lo,rfl,l1,l2,hc⟩;dsimp only
  by_cases wQ:lo>=a₀.size
  ·rw[if_pos wQ]
   have:lo=a₀.size:=by omega
   subst this;exact wpS_pure ⟨jm,rfl,hc⟩
  ·rw[if_neg wQ]
   refine wpS_bind (wpS_countRun hL h0 ⋯ ⋯ jm λm Z8 f1 m1 m2 s1=>?_)
   dsimp only;have hc1:Ch ρ (arrOf Z8) 0 lo (pendingOf Z8).toList:=by rw[f1.pend];exact hc.congr λk _ hk=>f1.same k hk
   have go:∀n A7,1<=n->lo+n<=a₀.size->SI kd a₀ A7->Ch ρ (arrOf A7) 0 lo (pendingOf A7).toList->Seg ρ (arrOf A7) lo (lo+n)->wpS M Ar E s (iJ a₀.size lo n) (λr ay =>
     match r with
     | ForInStep.done c'=>SI kd a₀ ay/\c'=(none,a₀.size)/\Ch ρ (arrOf ay) 0 a₀.size (pendingOf ay).toList
     | ForInStep.yield c'=>SI kd a₀ ay/\∃lo,c'=(none,lo)/\lo<=a₀.size/\(x+1<=lo\/lo=a₀.size)/\Ch ρ (arrOf ay) 0 lo (pendingOf ay).toList) A7:=λn A7 n1 n2 b1 b2 b3 =>
    wJ hL h0 b1 l1 b2 n1 b3 λay b1 b2=>⟨b1,lo+n,rfl,n2,by omega,b2⟩
   by_cases jn:m<mr
   ·rw[if_pos jn]
    refine wpS_bind (wpS_lift (wpAny_rule ⟨rfl,?_⟩));refine wpS_bind (wpS_binarySort hL h0 ⋯ ⋯ f1.si s1 λA7 f2 s2=>?_)
    simp only[Bool.not_true,Bool.false_eq_true,if_false];have z:=go (min (a₀.size-lo) mr) A7 ⋯ ⋯ f2.si (by rw[f2.pend];exact hc1.congr λk _ hk=>f2.same k hk) s2
    refine wpS_mono (Q:=_) (Eq.mpr (congrArg (λt=>wpS M Ar E s t _ A7) (?_:_=iJ a₀.size lo (min (a₀.size-lo) mr))) z) ?_
    ·walk_at "s_rest"
    ·intro r dA hr
     cases r<;>exact hr
   ·rw[if_neg jn]
    have z:=go m Z8 m1 ⋯ f1.si hc1 s1
    refine wpS_mono (Q:=_) (Eq.mpr (congrArg (λt=>wpS M Ar E s t _ Z8) (?_:_=iJ a₀.size lo m)) z) ?_
    ·walk_at "s_rest"
    ·intro r dA hr
     cases r<;>exact hr
 case post =>
  rintro c ay ⟨jm,rfl,hc⟩;dsimp only;have de:(pendingOf ay).size<=a₀.size:=by have:=Ch.le hc;simp only[Array.length_toList]at this;omega
  refine wpS_bind (wpS_mono (wpS_forRange (I:=λx c ay=>c=(none,())/\SI kd a₀ ay/\Ch ρ (arrOf ay) 0 a₀.size (pendingOf ay).toList/\((pendingOf ay).size+x<=a₀.size\/(pendingOf ay).size<=1))
   (Q:=λc ay=>c=(none,())/\SI kd a₀ ay/\Ch ρ (arrOf ay) 0 a₀.size (pendingOf ay).toList/\(pendingOf ay).size<=1) ?fstep ?ffin ⟨rfl,jm,hc,.inl ⋯⟩) ?fpost)
  case ffin =>
   rintro c ay ⟨rfl,b1,b2,b3⟩;exact⟨rfl,b1,b2,by omega⟩
  case fstep =>
   rintro x c ay _ hx ⟨rfl,b1,b2,b3⟩;refine wpS_bind (wpS_get ?_)
   try dsimp only
   by_cases hz:(pendingOf ay).size<=1
   ·rw[if_pos hz]
    exact wpS_pure ⟨rfl,b1,b2,hz⟩
   ·rw[if_neg hz]
    refine wpS_bind (mR hL h0 b1 (Nat.le_refl _) b2 ?_ λA7 c1 c2 c3 c4=>?_)
    ·exact OB _ ⋯
    ·simp only[Bool.not_true,Bool.false_eq_true,if_false]
     exact wpS_pure ⟨rfl,c1,c2,by omega⟩
  case fpost =>
   rintro c ay ⟨rfl,b1,b2,b3⟩;refine wpS_pure (h ay b1 ?_);have hl:(pendingOf ay).toList.length<=1:=by simpa using b3
   generalize (pendingOf ay).toList=l at b2 hl
   match l,b2,hl with
   | [],b2,_=>have:0=a₀.size:=b2;omega
   | [r],⟨_,_,h3,h4⟩,_ =>
    have h4:0+r.2.1=a₀.size:=h4;rw[h4]at h3;exact h3
   | _::_::_,_,hl=>simp at hl
end
end Vs
namespace Vs
open PySem PyProof.Rows PySem.W
theorem eI:∀a:List Int,HT.lexLt a a=false
 | []=>rfl
 | x::a=>by rw[HT.b9,if_pos rfl];exact eI a
theorem fE:∀a b c:List Int,HT.lexLt a b=true->HT.lexLt b c=true->HT.lexLt a c=true
 | [],[],_,h,_=>by cases h
 | [],_::_,[],_,h=>by cases h
 | [],_::_,_::_,_,_=>rfl
 | _::_,[],_,h,_=>by cases h
 | _::_,_::_,[],_,h=>by cases h
 | x::a,y::b,z::c,h1,h2=>by
  rw[HT.b9]at h1 h2 ⊢
  by_cases e1:x=y
  ·rw[if_pos e1]at h1
   by_cases e2:y=z
   ·rw[if_pos e2]at h2
    rw[if_pos (e1.trans e2)];exact fE a b c h1 h2
   ·rw[if_neg e2]at h2
    have:=of_decide_eq_true h2;rw[if_neg ⋯];exact decide_eq_true ⋯
  ·rw[if_neg e1]at h1
   have h1:=of_decide_eq_true h1
   by_cases e2:y=z
   ·rw[if_neg ⋯];exact decide_eq_true ⋯
   ·rw[if_neg e2]at h2
    have:=of_decide_eq_true h2;rw[if_neg ⋯];exact decide_eq_true ⋯
theorem oC:∀a b:List Int,HT.lexLt a b=false->HT.lexLt b a=false->a=b
 | [],[],_,_=>rfl
 | [],_::_,h,_=>by cases h
 | _::_,[],_,h=>by cases h
 | x::a,y::b,h1,h2=>by
  rw[HT.b9]at h1 h2
  by_cases e1:x=y
  ·rw[if_pos e1]at h1
   rw[if_pos e1.symm]at h2;rw[e1,oC a b h1 h2]
  ·rw[if_neg e1]at h1
   rw[if_neg (Ne.symm e1)]at h2;have:=of_decide_eq_false h1;have:=of_decide_eq_false h2;omega
def rk(d:Keyed->List Int)(l:List Keyed)(x:Keyed):Nat:=l.countP λp=>HT.lexLt (d p) (d x)
theorem ql{α:Type}{p q:α->Bool}:∀ {l:List α} {x:α},(∀y,p y=true->q y=true)->x∈l->p x=false->q x=true->l.countP p<l.countP q
 | y::l,x,h,hx,h1,h2=>by
  rcases List.mem_cons.mp hx with rfl|hx
  ·rw[List.countP_cons_of_neg (by rw[h1];decide),List.countP_cons_of_pos h2]
   exact Nat.lt_succ_of_le (List.countP_mono_left λy _=>h y)
  ·have ih:=ql h hx h1 h2
   rw[List.countP_cons,List.countP_cons];cases e:p y with
   | true=>rw[h y e];simpa using ih
   | false=>split<;>split<;>first|omega | (exfalso;simp_all)
theorem zF{d:Keyed->List Int}{l:List Keyed}{x y:Keyed}(hx:x∈l):decide (rk d l x<rk d l y)=HT.lexLt (d x) (d y):=by
 cases e:HT.lexLt (d x) (d y)with
 | true =>
  refine decide_eq_true (ql (x:=x) (λp hp=>fE _ _ _ hp e) hx (eI _) e)
 | false =>
  refine decide_eq_false (Nat.not_lt.mpr (List.countP_mono_left λp _ hp=>?_));cases e2:HT.lexLt (d p) (d x)with
  | true=>rfl
  | false =>
   cases e3:HT.lexLt (d x) (d p)with
   | true=>rw[fE _ _ _ e3 hp]at e;cases e
   | false =>
    rw[oC _ _ e2 e3]at hp;rw[hp]at e;cases e
section
variable {prog:Program}{w:World}{A:Around}{E:Value->Shared->Prop}{s:Shared}
theorem mF{b:Bool}{Q:Bool->Shared->Prop}:∀ {vs ws:List Value} {ns ms:List Int} (i:Nat) (fin:Bool),IntsAre vs ns->IntsAre ws ms->fin=decide (vs.length<ws.length)->Q (HT.lexLt ns ms) s->KatLex prog w A b fin Q (vs.zip ws) i s
 | _,_,_,_,i,fin,.nil,.nil,e,q=>by subst e;exact kat_nil q
 | _,_,_,_,i,fin,.nil,.cons _ _ _,e,q=>by subst e;rw[HT.gX]at q;exact kat_nil (by simpa using q)
 | _,_,_,_,i,fin,.cons _ _ _,.nil,e,q=>by subst e;rw[HT.gW]at q;exact kat_nil (by simpa using q)
 | _,_,_,_,i,fin,.cons n t h1,.cons m u h2,e,q=>by
  rw[List.zip_cons_cons];refine kat_cons (wpAny_eqBool_int ?_);rw[HT.b9]at q
  by_cases h:n=m
  ·rw[if_pos h]at q
   rw[show(n==m)=true from by simpa using h]
   exact kat_yes (mF (i+1) fin h1 h2 (by rw[e];simp) q)
  ·rw[if_neg h]at q
   rw[show(n==m)=false from by simpa using h]
   refine kat_no ?_;cases(b&&i==0)with
   | true=>exact oneLt_int q
   | false=>exact kat_one _ _ (lt_int q)
def rq(h:Heap)(v:Value)(ns:List Int):Prop:=∃a o xs n,v=.ref a/\h.get? a=some o/\o.cls=.type "tuple"/\o.data=.seq xs n/\IntsAre xs.toList ns
theorem rq.kept{h g:Heap}{v:Value}{ns:List Int}(t:rq h v ns)(k:∀b o,h.get? b=some o->g.get? b=some o):rq g v ns:=by
 obtain⟨a,o,xs,n,e,ho,r⟩:=t;exact⟨a,o,xs,n,e,k _ _ ho,r⟩
theorem Az{b:Bool}{v u:Value}{ns ms:List Int}{Q:Bool->Shared->Prop}(h1:rq s.heap v ns)(h2:rq s.heap u ms)(q:Q (HT.lexLt ns ms) s):wpAny (model prog w) A (keyLt' (tuples' b) v u) Q E s:=by
 obtain⟨a,o,xs,n,rfl,ho,hc,hd,hi⟩:=h1;obtain⟨a2,o2,xs2,n2,rfl,HH,GN,hd2,HF⟩:=h2;exact kat_lt ho hd HH hd2 (mF 0 _ hi HF (by simp) q)
theorem Io{b:Bool}{l:List Keyed}{d:Keyed->List Int}(h:∀x∈l,rq s.heap x.1 (d x)):gF (model prog w) A E s (rk d l) (tuples' b) (λx=>x∈l):=λx y st Q hx hy hk q=>by
 rw[zF hx]at q;rw[lt'_eq];refine wpS_bind (wpS_get ?_);rw[hk];exact wpS_bind (wpS_lift (wpAny_attempt (Az (h x hx) (h y hy) ⟨rfl,wpS_pure q⟩)))
theorem Ec{vs:List Value}{Q:SortKind->Shared->Prop}(hl:0<vs.length)(h:∀v∈vs,∃ns,rq s.heap v ns/\ns≠[])(q:Q (tuples' true) s):wpAny (model prog w) A (keyKind' vs.toArray) Q E s:=by
 have key:∀vs:List Value,(∀v∈vs,∃ns,rq s.heap v ns/\ns≠[])->∃fs,KatTups s.heap vs fs/\fs.length=vs.length/\∀v∈fs,∃n t,v=Value.int n t:=by
  intro vs
  induction vs with
  | nil=>intro _;exact⟨[],KatTups.nil,rfl,λv hv=>by cases hv⟩
  | cons v vs ih =>
   intro h;obtain⟨ns,⟨a,o,xs,n,rfl,ho,hc,hd,hi⟩,dk⟩:=h v (List.mem_cons_self ..);obtain⟨fs,f1,f2,f3⟩:=ih λu hu=>h u (List.mem_cons_of_mem _ hu);obtain⟨f,hf,hn⟩:∃f,xs[0]?=some f/\∃n t,f=Value.int n t:=by
    rw[<- Array.getElem?_toList];generalize xs.toList=ys at hi;cases hi with
    | nil=>exact absurd rfl dk
    | cons n t _=>exact⟨_,rfl,n,t,rfl⟩
   refine⟨f::fs,KatTups.cons ho hc hd hf f1,by simp [f2],λv hv=>?_⟩
   rcases List.mem_cons.mp hv with rfl|hv
   ·exact hn
   ·exact f3 v hv
 obtain⟨fs,f1,f2,f3⟩:=key vs h;refine kat_kind (T:=.type "int") f1 ⋯ (λv hv=>?_) rfl q
 obtain⟨n,t,rfl⟩:=f3 v hv;exact Looks.now
theorem i9{a:Addr}{vs:List Value}{n:Nat}{kd:SortKind}{ρ:Keyed->Nat}{P:Keyed->Prop}{Pf:PySem.Fin->Shared->Prop}(ho:s.heap.get? a=some (seqObj "list" vs.toArray n))(hz:vs.length<=sizeLine)(h0:∀p∈(pairsOf vs).toList,P p)
  (hk:2<=vs.length->∀g:Heap,(∀b o,b≠a->s.heap.get? b=some o->g.get? b=some o)->(∀Q:SortKind->Shared->Prop,Q kd {s with heap:=g}->wpAny (model prog w) A (keyKind' vs.toArray) Q E {s with heap:=g})/\gF (model prog w) A E {s with heap:=g} ρ kd P)
  (h:∀(xs:Array Keyed) (g:Heap) (c:Nat),xs.Perm (pairsOf vs)->Seg ρ xs 0 vs.length->(∀b o,b≠a->s.heap.get? b=some o->g.get? b=some o)->g.get? a=some (seqObj "list" (xs.map (·.2)) c)->Pf (.done (.ret .none)) {s with heap:=g}):
  wpAny (model prog w) A (Builtin.«list.sort» ⟨[.ref a],[]⟩) Pf E s:=by
 rw[list_sort_plain];have ha:a<s.heap.objs.size:=Heap.lt_size ho;have hsz:vs.toArray.size=vs.length:=by simp
 refine wpAny_bind (listItems_at ho rfl ?_);refine wpAny_bind (listUpdate_at ho rfl ?_ (by rw[hsz];exact hz) (Nat.zero_le _))
 obtain⟨e1,ho1⟩:∃e1,(s.heap.update a (Obj.mapSeq λ_=>#[])).get? a=some (seqObj "list" #[] e1):=⟨_,get?_update_seq ho (λ_=>#[])⟩;refine wpAny_bind (seqEpoch_at ho1 rfl ?_);refine wpAny_bind (wpAny_newTuple ?_ (by show vs.length<=_;exact hz))
 refine wpAny_bind (wpAny_newList ?_ (Nat.zero_le _));refine wpAny_holding ?_;have keep:∀b o,b≠a->s.heap.get? b=some o->(((s.heap.update a (Obj.mapSeq λ_=>#[])).push (seqObj "tuple" vs.toArray 0)).push (seqObj "list" #[] 0)).get? b=some o:=λb o hb e =>
  Heap.get?_push_of_some _ (Heap.get?_push_of_some _ ((Heap.get?_update_other _ _ (Ne.symm hb)).trans e))
 have UA:(((s.heap.update a (Obj.mapSeq λ_=>#[])).push (seqObj "tuple" vs.toArray 0)).push (seqObj "list" #[] 0)).get? a=some (seqObj "list" #[] e1):=Heap.get?_push_of_some _ (Heap.get?_push_of_some _ ho1);show wpAny (model prog w) A _ Pf E {s with heap:=((s.heap.update a (Obj.mapSeq λ_=>#[])).push (seqObj "tuple" vs.toArray 0)).push (seqObj "list" #[] 0)}
 dsimp only;generalize hg6:((s.heap.update a (Obj.mapSeq λ_=>#[])).push (seqObj "tuple" vs.toArray 0)).push (seqObj "list" #[] 0)=g6 at keep UA;have fin:∀xs:Array Keyed,xs.Perm (pairsOf vs)->Seg ρ xs 0 vs.length->Pf (.done (.ret .none)) {s with heap:=g6.update a (Obj.mapSeq λ_=>xs.map (·.2))}:=λxs hp hs =>
  h xs _ _ hp hs (λb o hb e=>(Heap.get?_update_other _ _ (Ne.symm hb)).trans (keep b o hb e)) (get?_update_seq UA λ_=>xs.map (·.2))
 by_cases h2:vs.toArray.size<2
 ·rw[if_pos h2,if_pos h2]
  refine wpAny_bind (wpAny_pure ?_);rw[StateT.run_pure];refine wpAny_bind (wpAny_pure ?_);dsimp only;refine wpAny_bind (seqEpoch_at UA rfl ?_);refine wpAny_bind (listUpdate_at UA rfl ?_ (Nat.zero_le _) (by rw[Array.size_map];show(pairsOf vs).size<=_;rw[pairsOf_size];exact Nat.le_succ_of_le hz))
  simp only[bne_self_eq_false,Bool.false_eq_true,if_false];refine wpAny_pure (fin _ (Array.Perm.refl _) λi j _ lC hj=>?_);have:i=j:=by omega
  subst this;exact Nat.le_refl _
 ·rw[if_neg h2,if_neg h2]
  obtain⟨k1,k2⟩:=hk ⋯ g6 keep
  refine wpAny_bind (k1 _ ?_);refine wpAny_bind (wpAny_mono (wpS_sortRuns (a₀:=pairsOf vs) (kd:=kd) (st:=SortSt.mk' kd (vs.toArray.zip vs.toArray) #[] 7 none)
   (Q:=λ_ ay=>SI kd (pairsOf vs) ay/\Seg ρ (arrOf ay) 0 (pairsOf vs).size) k2 h0 ⟨Array.Perm.refl _,rfl,rfl⟩ rfl (by rw[pairsOf_size];omega) λay a1 a2=>⟨a1,a2⟩) ?_ λ_ _ e=>e)
  rintro⟨⟨⟩,ay⟩ s' ⟨rfl,hp,hs⟩;dsimp only;refine wpAny_bind (seqEpoch_at UA rfl ?_);refine wpAny_bind (listUpdate_at UA rfl ?_ (Nat.zero_le _) (by refine Nat.le_trans (Nat.le_of_eq ((Array.size_map ..).trans (hp.size.trans (pairsOf_size _)))) ?_;exact Nat.le_succ_of_le hz))
  rw[hp.failed];simp only[bne_self_eq_false,Bool.false_eq_true,if_false];rw[pairsOf_size]at hs;exact wpAny_pure (fin _ hp.perm hs)
theorem xY{l:Addr}{vs:List Value}{kd:SortKind}{ρ:Keyed->Nat}{P:Keyed->Prop}{Q:Value->Shared->Prop}(hl:s.heap.IsList l vs.toArray)(hz:vs.length<=sizeLine)(h0:∀p∈(pairsOf vs).toList,P p)
  (hk:2<=vs.length->∀(A':Around) (E':Value->Shared->Prop) (g:Heap),(∀b o,s.heap.get? b=some o->g.get? b=some o)->(∀Q:SortKind->Shared->Prop,Q kd {s with heap:=g}->wpAny (model prog w) A' (keyKind' vs.toArray) Q E' {s with heap:=g})/\gF (model prog w) A' E' {s with heap:=g} ρ kd P)
  (h:∀(xs:Array Keyed) (g:Heap) (c:Nat),xs.Perm (pairsOf vs)->Seg ρ xs 0 vs.length->(∀b o,s.heap.get? b=some o->g.get? b=some o)->g.get? (s.heap.objs.size+1)=some (seqObj "list" (xs.map (·.2)) c)->Q (.ref (s.heap.objs.size+1)) {s with heap:=g}):
  wpAny (model prog w) A (call (.builtin "sorted") [.ref l]) Q E s:=by
 refine Calls.call_function_entry kind_sorted plain_sorted entry_sorted (args_sorted1 _) ?_;unfold Builtin.«sorted»;refine wpAny_bind (m:=checkCount "sorted" 1 1 _) (wpAny_pure ?_);refine wpAny_bind (collect_list hl ?_ hz);refine wpAny_bind (wpAny_newList ?_ hz);have hsz:((s.heap.push (seqObj "list" #[] 0)).update s.heap.objs.size (Obj.mapSeq (·++vs.toArray))).objs.size=s.heap.objs.size+1:=by
  rw[Heap.size_update,size_push']
 have KW:(((s.heap.push (seqObj "list" #[] 0)).update s.heap.objs.size (Obj.mapSeq (·++vs.toArray))).push (seqObj "list" vs.toArray 0)).get? (s.heap.objs.size+1)=some (seqObj "list" vs.toArray 0):=by
  rw[<- hsz];exact Heap.get?_push_size _ rfl
 have keep:∀b o,s.heap.get? b=some o->(((s.heap.push (seqObj "list" #[] 0)).update s.heap.objs.size (Obj.mapSeq (·++vs.toArray))).push (seqObj "list" vs.toArray 0)).get? b=some o:=λb o e=>by
  have jn:b<s.heap.objs.size:=Heap.lt_size e;exact Heap.get?_push_of_some _ ((Heap.get?_update_other _ _ (Ne.symm (Nat.ne_of_lt jn))).trans (Heap.get?_push_of_some _ e))
 have ne:∀b o,s.heap.get? b=some o->b≠s.heap.objs.size+1:=λb o e=>Nat.ne_of_lt (Nat.lt_succ_of_lt (Heap.lt_size e));show wpAny _ _ _ _ _ {s with heap:=((s.heap.push (seqObj "list" #[] 0)).update s.heap.objs.size (Obj.mapSeq (·++vs.toArray))).push (seqObj "list" vs.toArray 0)}
 rw[hsz];refine wpAny_bind (wpAny_holding (wpAny_call_entry slot_list_sort ⟨_,KW,rfl⟩ entry_list_sort (i9 (kd:=kd) (ρ:=ρ) (P:=P) KW hz h0 (λh2 g kg=>hk h2 _ _ g λb o e=>kg b o (ne b o e) (keep b o e)) λxs g c a1 a2 a3 a4=>⟨_,rfl,?_⟩) (args_list_sort _)));exact wpAny_pure ⟨_,rfl,h xs g c a1 a2 (λb o e=>a3 b o (ne b o e) (keep b o e)) a4⟩
end
end Vs
namespace Vc
open PySem L2
def toV:Value->V
 | .ref a=>.ref a
 | _=>.aV
theorem Gn{us:List V}{its:List Value}(r:Vals us its)(h:∀u∈us,∃a,u=.ref a):us=its.map toV:=by
 induction r with
 | nil=>rfl
 | cons r _ ih =>
  obtain⟨a,rfl⟩:=h _ (List.mem_cons_self ..);cases r;rw[List.map_cons,<- ih λu hu=>h u (List.mem_cons_of_mem _ hu)];rfl
theorem JK{its:List Value}(h:∀v∈its,∃a,v=.ref a):Vals (its.map toV) its:=by
 induction its with
 | nil=>exact .nil
 | cons v its ih =>
  obtain⟨a,rfl⟩:=h _ (List.mem_cons_self ..);exact .cons rfl (ih λu hu=>h u (List.mem_cons_of_mem _ hu))
theorem fP{α:Type}:∀l:List α,l.zip l=l.map λx=>(x,x)
 | []=>rfl
 | x::l=>by rw[List.zip_cons_cons,List.map_cons,fP l]
theorem uL{X:Cx}:dW X (.builtin "sorted") (λxs H Q=>∃(p:Addr) (us:List V) (dd:V->List Int),xs=[.ref p]/\gE X.K H p us/\(∀u∈us,(∃a,u=.ref a/\kW X.K H a ((dd u).map V.int))/\dd u≠[]) /\
  ∀(Gk:List V),Gk.Perm us->Gk.Pairwise (λx y=>HT.lexLt (dd y) (dd x)=false)->∀l,H l=none->Q (.ref l) (upd H l (.lst Gk))):=by
 intro pins s σ H xs Zr Q I r h;obtain⟨p,us,dd,rfl,hq,hu,q⟩:=h;obtain⟨u,rfl,rx⟩:=vals1 r;cases rx;obtain⟨its,rv,pl,hz⟩:=I.list hq;have hlen:=rv.length;have eus:us=its.map toV:=Gn rv λu h=>by obtain⟨⟨a,e,_⟩,_⟩:=hu u h;exact⟨a,e⟩
 have K2:∀v∈its,∃a,v=.ref a:=λv hv=>by
  obtain⟨i,hi,e⟩:=List.mem_iff_getElem.mp hv;obtain⟨u,hu1,ru⟩:=rv.get (i:=i) (x:=us[i]'⋯) (List.getElem?_eq_getElem _)
  rw[List.getElem?_eq_getElem hi]at hu1;cases hu1;obtain⟨⟨a,e2,_⟩,_⟩:=hu (us[i]'⋯) (List.getElem_mem _)
  rw[e2]at ru;exact⟨a,by rw[<- e];exact ru⟩
 have tup:∀v∈its,Vs.rq s.heap v (dd (toV v))/\dd (toV v)≠[]:=λv hv=>by
  obtain⟨a,rfl⟩:=K2 v hv;have hm:toV (.ref a)∈us:=by rw[eus];exact List.mem_map.mpr ⟨_,hv,rfl⟩
  obtain⟨⟨b,e,hT⟩,dk⟩:=hu _ hm;cases e;obtain⟨ts,r1,⟨o,ho,hc,n,hd⟩,_⟩:=I.tuple hT;exact⟨⟨a,o,ts.toArray,n,rfl,ho,hc,hd,intsAre_of r1⟩,dk⟩
 have mem:∀x:PyProof.Rows.Keyed,x∈(PyProof.Rows.pairsOf its).toList->x.1∈its/\x.1=x.2:=λx hx=>by
  rw[PyProof.Rows.pairsOf_toList,fP]at hx;obtain⟨v,hv,rfl⟩:=List.mem_map.mp hx;exact⟨hv,rfl⟩
 refine Vs.xY (kd:=PyProof.Rows.tuples' true) (ρ:=Vs.rk (λx=>dd (toV x.1)) (PyProof.Rows.pairsOf its).toList) (P:=λx=>x∈(PyProof.Rows.pairsOf its).toList) pl.isList ⋯ (λ_ h=>h) (λh2 A' E' g kg=>⟨λQ hQ=>?_,?_⟩) λxs g c hp hs kg hg=>?_
 ·exact Vs.Ec (s:={s with heap:=g}) ⋯ (λv hv=>⟨_,(tup v hv).1.kept kg,(tup v hv).2⟩) hQ
 ·exact Vs.Io (s:={s with heap:=g}) λx hx=>(tup x.1 (mem x hx).1).1.kept kg
 ·have de:xs.toList.Perm (PyProof.Rows.pairsOf its).toList:=Array.perm_iff_toList_perm.mp hp
  have hsz:xs.size=its.length:=by have:=hp.size_eq;rw[PyProof.Rows.pairsOf_size]at this;exact this
  have nj:∀x∈xs.toList,x.1∈its/\x.1=x.2:=λx hx=>mem x (de.mem_iff.mp hx);have perm:(xs.toList.map λx=>toV x.2).Perm us:=by
   rw[eus];refine(de.map λx=>toV x.2).trans ?_;rw[PyProof.Rows.pairsOf_toList,fP,List.map_map];exact List.Perm.refl _
  have eq2:xs.toList.map (λx=>toV x.2)=(xs.map (·.2)).toList.map toV:=by
   rw[Array.toList_map,List.map_map];rfl
  refine⟨.ref (s.heap.objs.size+1),_,I.laid (t':=s.toks) (o:=.lst (xs.toList.map λx=>toV x.2)) kg (Nat.le_succ _) ⟨?_,(xs.map (·.2)).toList,c,?_,hg⟩,rfl,q _ perm ?_ _ (I.bw.fresh (Nat.le_succ _))⟩
  ·rw[perm.length_eq];exact hz
  ·rw[eq2]
   refine JK λv hv=>?_;rw[Array.toList_map]at hv;obtain⟨x,hx,rfl⟩:=List.mem_map.mp hv;have:=nj x hx;exact K2 _ (this.2 ▸ this.1)
  ·rw[List.pairwise_map]
   refine List.pairwise_iff_getElem.mpr λi j hi hj lC=>?_;have xu:i<xs.size:=by simpa using hi
   have WZ:j<xs.size:=by simpa using hj
   have h1:=hs i j (Nat.zero_le _) (Nat.le_of_lt lC) ⋯
   rw[Vs.dz (Array.getElem?_eq_getElem xu),Vs.dz (Array.getElem?_eq_getElem WZ)]at h1;have e1:xs.toList[i]=xs[i]:=rfl;have e2:xs.toList[j]=xs[j]:=rfl;rw[e1,e2];have m1:=nj xs[i] (by simp)
   have m2:=nj xs[j] (by simp)
   have:=Vs.zF (d:=λx=>dd (toV x.1)) (l:=(PyProof.Rows.pairsOf its).toList) (x:=xs[j]) (y:=xs[i]) (de.mem_iff.mp (by simp))
   rw[decide_eq_false ⋯]at this
   rw[<- m1.2,<- m2.2];exact this.symm
variable [KF]
variable {G:GE}{k:Nat}{S:Stat}
def fv:D->List Int
 | .tup xs=>xs.map lF
 | .int i=>[i]
 | _=>[]
def mG(x y:D):Bool:=!HT.lexLt (fv y) (fv x)
def ie(xs:List D):List D:=xs.mergeSort mG
def fq:D->Bool
 | .tup xs=>xs.all isInt&&!xs.isEmpty
 | _=>false
theorem lK(a b c:D)(h1:mG a b=true)(h2:mG b c=true):mG a c=true:=by
 unfold mG at *;simp only[Bool.not_eq_true']at *;cases e:HT.lexLt (fv c) (fv a)with
 | false=>rfl
 | true =>
  cases e2:HT.lexLt (fv c) (fv b)with
  | true=>rw[h2]at e2;cases e2
  | false =>
   cases e3:HT.lexLt (fv b) (fv c)with
   | true=>rw[Vs.fE _ _ _ e3 e]at h1;cases h1
   | false=>rw[Vs.oC _ _ e2 e3]at e;rw[e]at h1;cases h1
theorem AA(a b:D):(mG a b||mG b a)=true:=by
 unfold mG;cases e:HT.lexLt (fv b) (fv a)with
 | false=>rfl
 | true =>
  cases e2:HT.lexLt (fv a) (fv b)with
  | false=>rfl
  | true=>have:=Vs.fE _ _ _ e e2;rw[Vs.eI]at this;cases this
theorem cM(xs:List D):(ie xs).Perm xs:=List.mergeSort_perm xs mG
theorem kG(xs:List D):(ie xs).Pairwise λx y=>mG x y=true:=List.pairwise_mergeSort lK AA xs
theorem ints_map:∀ {xs:List D},xs.all isInt=true->(xs.map lF).map D.int=xs
 | [],_=>rfl
 | x::xs,h=>by
  rw[List.all_cons,Bool.and_eq_true]at h;cases x with
  | int i=>rw[List.map_cons,List.map_cons,ints_map h.2];rfl
  | _=>exact absurd h.1 (by simp [isInt])
theorem eZ{d:D}(h:fq d=true):d=.tup ((fv d).map D.int):=by
 cases d with
 | tup xs =>
  unfold fq at h;rw[Bool.and_eq_true]at h;show D.tup xs=.tup ((xs.map lF).map D.int);rw[ints_map h.1]
 | _=>exact absurd h (by simp [fq])
theorem hJ{α:Type}{r:α->α->Prop}:∀ {l m:List α},l.Perm m->(∀a∈l,∀b∈l,r a b->r b a->a=b)->l.Pairwise r->m.Pairwise r->l=m
 | [],m,h,_,_,_=>(List.nil_perm.mp h).symm
 | a::l,[],h,_,_,_=>by have:=h.length_eq;simp at this
 | a::l,b::m,h,Vm,h1,h2=>by
  have hb:b∈a::l:=h.symm.mem_iff.mp (List.mem_cons_self ..);have ha:a∈b::m:=h.mem_iff.mp (List.mem_cons_self ..);rw[List.pairwise_cons]at h1 h2;have e:a=b:=by
   rcases List.mem_cons.mp hb with e|hb
   ·exact e.symm
   ·rcases List.mem_cons.mp ha with e|ha
    ·exact e
    ·exact Vm a (List.mem_cons_self ..) b (List.mem_cons_of_mem _ hb) (h1.1 b hb) (h2.1 a ha)
  subst e;rw[hJ h.cons_inv (λx hx y hy=>Vm x (List.mem_cons_of_mem _ hx) y (List.mem_cons_of_mem _ hy)) h1.2 h2.2]
theorem vZ{xs ys:List D}(h:xs.all fq=true)(hp:ys.Perm xs)(hs:ys.Pairwise λx y=>mG x y=true):ys=ie xs:=by
 refine hJ (hp.trans (cM xs).symm) (λa ha b hb h1 h2=>?_) hs (kG xs);have ia:=eZ (List.all_eq_true.mp h a (hp.mem_iff.mp ha));have ib:=eZ (List.all_eq_true.mp h b (hp.mem_iff.mp hb));unfold mG at h1 h2;simp only[Bool.not_eq_true']at h1 h2;rw[ia,ib,Vs.oC _ _ h2 h1]
def iO:List D->(EV->Prop)->Prop
 | [.lst xs],Q=>xs.all fq=true/\Q (.own (ie xs))
 | _,_=>False
def Hq(F:Hp):V->List Int
 | .ref a=>match F a with
  | some (.tup vs)=>vs.map λv=>match v with|.int i=>i|_=>0
  | _=>[]
 | _=>[]
theorem rP{F:Hp}{v:V}{d:D}(r:Rep F v d)(h:fq d=true):Hq F v=fv d/\∃a,v=.ref a/\F a=some (.tup ((fv d).map V.int)):=by
 cases r with
 | tup hf rl =>
  unfold fq at h;rw[Bool.and_eq_true]at h;have e:=rl.ints h.1;subst e;refine⟨?_,_,rfl,hf⟩;unfold Hq;dsimp only;rw[hf];dsimp only;rw[List.map_map];exact(List.map_congr_left (λx _=>rfl)).trans (List.map_id _)
 | _=>exact absurd h (by simp [fq])
theorem vX{F:Hp}:∀ {vs:List V} {xs:List D},aH F vs xs->xs.all fq=true->xs=vs.map λv=>.tup ((Hq F v).map D.int)
 | _,_,.nil,_=>rfl
 | _,_,.cons r t,h=>by
  rw[List.all_cons,Bool.and_eq_true]at h;rw[List.map_cons,<- vX t h.2,(rP r h.1).1,<- eZ h.1]
theorem aH.mem{F:Hp}:∀ {vs:List V} {xs:List D},aH F vs xs->∀v∈vs,∃d∈xs,Rep F v d
 | _,_,.cons r t,v,hv=>by
  rcases List.mem_cons.mp hv with rfl|hv
  ·exact⟨_,List.mem_cons_self ..,r⟩
  ·obtain⟨d,hd,rd⟩:=aH.mem t v hv
   exact⟨d,List.mem_cons_of_mem _ hd,rd⟩
theorem zv{F:Hp}{f:V->D}:∀ {vs:List V},(∀v∈vs,Rep F v (f v))->aH F vs (vs.map f)
 | [],_=>.nil
 | v::vs,h=>.cons (h v (List.mem_cons_self ..)) (zv λu hu=>h u (List.mem_cons_of_mem _ hu))
theorem nV:Bq G k S (.builtin "sorted") iO:=⟨λK xs H Q=>∃(p:Addr) (us:List V) (dd:V->List Int),xs=[.ref p]/\gE K H p us/\(∀u∈us,(∃a,u=.ref a/\kW K H a ((dd u).map V.int))/\dd u≠[]) /\
  ∀(Gk:List V),Gk.Perm us->Gk.Pairwise (λx y=>HT.lexLt (dd y) (dd x)=false)->∀l,H l=none->Q (.ref l) (upd H l (.lst Gk)),λ_ _ ok=>uL,λY F H ai σ vs ds Qd Q R r q g=>by
 unfold iO at q
 split at q
 ·rename_i xs
  obtain⟨v,rfl,rv⟩:=r.one;obtain⟨p,us,rfl,h1,h2⟩:=rv.lst;have all:=List.all_eq_true.mp q.1;refine⟨p,us,Hq F,rfl,.inl h1,λu hu=>?_,λGk hp hs=>?_⟩
  ·obtain⟨d,hd,rd⟩:=h2.mem u hu
   obtain⟨e1,a,rfl,e2⟩:=rP rd (all d hd);refine⟨⟨a,rfl,.of (by rw[e1];exact R.fr _ _ e2)⟩,?_⟩
   rw[e1];have hi:=all d hd;cases d with
   | tup ys =>
    unfold fq at hi;rw[Bool.and_eq_true]at hi;intro z;have:ys=[]:=by simpa [fv]using z
    subst this;exact absurd hi.2 ∅
   | _=>exact absurd hi (by simp [fq])
  ·have ex:=vX h2 q.1
   have rep:∀v∈Gk,Rep F v (.tup ((Hq F v).map D.int)):=λv hv=>by
    obtain⟨d,hd,rd⟩:=h2.mem v (hp.mem_iff.mp hv);rw[(rP rd (all d hd)).1,<- eZ (all d hd)];exact rd
   have key:∀v,fv (.tup ((Hq F v).map D.int))=Hq F v:=λv=>by
    show((Hq F v).map D.int).map lF=_;rw[List.map_map];exact(List.map_congr_left (λx _=>rfl)).trans (List.map_id _)
   have e:Gk.map (λv=>D.tup ((Hq F v).map D.int))=ie xs:=by
    refine vZ q.1 (by rw[ex];exact hp.map _) ?_
    rw[List.pairwise_map];refine hs.imp λ{x y} h=>?_;unfold mG;rw[key,key,h];rfl
   have rl:=zv rep;rw[e]at rl;exact g.own R rl q.2
 ·exact q.elim⟩
end Vc
namespace Vc
open PySem L2
variable [KF]
variable {G:GE}{k:Nat}{S:Stat}
def aJ(S:Stat)(scope:Scope)(N':List Str)(m:Nat):Stat:=⟨N',jW scope.names S.sc,[m],true,false,false,λ_ _=>False⟩
end Vc
namespace Vc
open PySem L2
variable [KF]
variable {G:GE}{k:Nat}{S:Stat}
structure aac(H H':Hp)(p:Addr)(as:List Addr)(cs:List Int):Prop where
 same:aw H H'
 list:H' p=some (.lst (as.map V.ref))
 fresh:∀b∈p::as,H b=none
 nd:(p::as).Nodup
 len:as.length=cs.length
 pot:∀(i:Nat) (a:Addr) (c:Int),as[i]?=some a->cs[i]?=some c->H' a=some (.lst [.int c,.int 0])
end Vc
namespace Vc
open PySem L2
variable [KF]
variable {G:GE}{k:Nat}{S:Stat}
def K4(Y:bP):TS:=λDn σ H=>∃F ns,RS Y F [some (.sh (.lst (List.map D.int ns)))] σ H/\Y.H0=H/\(Y.io=[]/\Y.ob=[])/\ns.length<=63/\∀p as cs H',aac H H' p as cs->Dn.rt (.ref p) H'
structure JZ(G:GE)(k:Nat)(S:Stat)(b:List Stmt) :Prop where
 run:∀X Y,eG X G k S Y->ug X b (K4 Y)
instance {G:GE} {k:Nat} {S:Stat} {b:List Stmt} :CoeFun (JZ G k S b) λ_=>∀X Y,eG X G k S Y->ug X b (K4 Y):=⟨JZ.run⟩
theorem Hf{α:Type}(xs:List α)(lo hi:Option Int):(cut xs lo hi).length<=xs.length:=by
 unfold cut;rw[List.length_take,List.length_drop];omega
theorem CH(ns:List Int)(lo hi:Option Int):cut (ns.map D.int) lo hi=(cut ns lo hi).map D.int:=by
 unfold cut;rw[List.length_map,List.map_take,List.map_drop]
end Vc
namespace Vc
open PySem L2
variable [KF]
variable {G:GE}{k:Nat}{S:Stat}
theorem Xk(a b:D)(Q:D->Prop):Ia (.lst [a,b]) (.int 0) Q=Q a:=rfl
theorem Xl(a b:D)(Q:D->Prop):Ia (.lst [a,b]) (.int 1) Q=Q b:=rfl
theorem OI:GU 2 0=some 0:=rfl
theorem OJ:GU 2 1=some 1:=rfl
end Vc
namespace Vc
open PySem L2
variable [KF]
variable {G:GE}{k:Nat}{S:Stat}
def xx(x:D)(xs:List D):Option Nat:=xs.findIdx? λy=>gw y x
def aa8(K:PySem.W.Frag):V->List V->Hp->VK->Prop:=λo vs H Q=>∃F v x xs j,vs=[v]/\aw F H/\cf F H o (.lst xs)/\cf F H v x/\bO 8 x=true/\bO 8 (.lst xs)=true/\xx x xs=some j/\Q (.int j) H
theorem xU{P:Program}{w:World}{F H:Hp}{h:Heap}(ok:fw P w H h)(s:aw F H){vs:List V}{ds:List D}{us:List Value}(r:aH F vs ds)(rv:Vals vs us)(o:ds.all (bO 7)=true):∃as,ReadsAll h us (eY ds) as:=aH.reads ok s 7 r rv o
theorem vp{x:D}(hx:bO 8 x=true)(h:Heap):∀(xs:List D) (us:List Value) (as:List Addr),xs.all (bO 7)=true->ReadsAll h us (eY xs) as->us.findIdx? (λu=>PyData.eqv (SeqAt.readOf h u) (toPy x))=xx x xs
 | [],_,_,_,r=>by cases r;rfl
 | y::xs,us,as,ho,r=>by
  rw[List.all_cons,Bool.and_eq_true]at ho;cases r with
  | cons r1 r2 =>
   have e:SeqAt.readOf h _=toPy y:=SeqAt.readOf_eq (ny 7 y ho.1).1 r1;have ih:=vp hx h xs _ _ ho.2 r2;unfold xx at ih ⊢;rw[List.findIdx?_cons,List.findIdx?_cons,e,<- xl 7 8 y x ho.1 hx,ih]
theorem Em{X:Cx}(hu:X.A.units+64<cLine):MtM X "list.index" (aa8 X.K):=by
 intro pins s σ H o vs ov us Q I ro rv h;obtain⟨F,v,x,xs,j,rfl,sm,r1,r2,o1,o2,hj,q⟩:=h;obtain⟨a,ws,rfl,h1,h2⟩:=r1.lst;cases ro;obtain⟨u,rfl,ru⟩:=rv.one;obtain⟨z,its,n,wU,e⟩:=L2.Rd.ok h1 I.bw;obtain⟨as,ra⟩:=r2.reads I.bw sm ru o1;have o2':xs.all (bO 7)=true:=o2;obtain⟨bs,rb⟩:=xU I.bw sm h2 wU o2';have hl:=gf (n:=7) (ny 7) xs o2';have hx:=ny 8 x o1;have hf:=vp o1 s.heap xs its bs o2' rb;rw[hj]at hf;obtain⟨jn,hit,hno⟩:=List.findIdx?_eq_some_iff_getElem.mp hf;have hjz:its.length<=sizeLine:=by rw[<- wU.length];exact z
 refine call_meets PySem.F.slot_list_index ⟨_,e,rfl⟩ PySem.F.entry_list_index (PySem.F.args_list_index_2 _ _) (SeqAt.list_indexAt a its.toArray n none #[] u (λy=>PyData.eqv (SeqAt.readOf s.heap y) (toPy x)) j (by simpa using jn) (by have:(sizeLine:Nat)=2^24:=rfl;omega) (by simpa using hit) (λm hm hmj=>?_)) ⟨e,SeqAt.items_eqAt (vs:=its.toArray) (by simpa using rb) ra hl.1 hx.1 (by have:=Nat.min_le_right (PyData.depthAll (eY xs)) (toPy x).depth;omega),?_⟩
 ·have:=hno m hmj
  simpa using this
 ·exact⟨.int j,H,I.kept (λb o e=>e),⟨_,rfl⟩,q⟩
def TC(to:TV)(te:TD):TV:=λσ Q=>to σ λo ax=>(∃ys,df ax o=some (.lst ys))/\te ax λx aO=>match df aO o with
 | some (.lst xs)=>(bO 8 x=true/\bO 8 (.lst xs)=true)/\∃j,xx x xs=some j/\Q (.val (.int (j:Nat))) aO
 | _=>False
theorem Jm{o e:Expr}{to:TV}{te:TD}{apos di:Pos}(ho:EO G k S o to)(he:ED G k S e te)(hb:∀env,attributeBase o "index" env (eval o env)=eval o env:=by intro _;rfl)
  (DX:∀env,((backTo di (starEach [e] env)).all (λx=>!x.1)&&(backToKw di (keywordEach [] env)).all (λx=>x.1.isSome)&&decide (([e]:List Expr).length+([]:List Keyword).length+(if([]:List Keyword).isEmpty then 0 else 1)<30))=true:=by intro _;rfl)
  (hline:(apos.endLine==di.line)=true:=by rfl) (hs:∀env,starEach [e] env=[(false,eval e env)]:=by intro _;rfl):EO G k S (.Call (.Attribute o "index" apos) [e] [] di) (TC to te):=.mk λX Y ok=>by
 have ha:PA X [e] (jc (lD Y te) pT):=cV (he X Y ok) g0 (by rw[hs];rfl)
 refine a7 (K8 PySem.F.plainAttrs_list PySem.F.slot_list_index PySem.F.type_list_index (Em ok.units) (ho X Y ok) ha (hb _) (DX _) hline (by rw[hs];rfl) (by rfl)) λσ H Q q=>?_
 obtain⟨F,ai,Qd,R,q,K⟩:=q;refine⟨F,ai,_,R,q,λv1 H1 F1 x ax s1 R1 r1 q1=>?_⟩;obtain⟨⟨ys,e0⟩,q1⟩:=q1;obtain⟨a,ws,e1,h1,_⟩:=(R1.df r1 e0).lst;refine⟨by rw[e1];exact .inl ⟨rfl,ws,.inl h1⟩,F1,ax,_,R1,q1,λv2 H2 F2 d aO s2 R2 r2 q2=>?_⟩
 split at q2
 ·rename_i xs e2
  obtain⟨⟨o1,o2⟩,j,hj,q2⟩:=q2;exact⟨F2,v2,d,xs,j,rfl,R2.fr,R2.df (r1.mono s2) e2,Rep.h R2.fr r2,o1,o2,hj,K _ H2 F2 (.val (.int j)) aO (s1.trans s2) R2 (.int _) q2⟩
 ·exact q2.elim
end Vc
namespace Vc
open PySem L2
variable [KF]
structure ym(h:Heap)(a T:Addr)(c:Str):Prop where
 ex:∃o vs a0,h.get? a=some o/\o.cls=.ref (KF.cls c)/\o.data=.fields vs/\vs[0]?=some a0/\vs[1]?=some (.ref T)
 tb:∃o ts,h.get? T=some o/\o.data=.fields ts/\ts[3]?=some .none
structure Moved(fs:List Addr)(a T:Addr)(h h':Heap)(T':Addr):Prop where
 keep:∀b o,h.get? b=some o->b≠a->b≠T->b∉fs->h'.get? b=some o
 slot:∀b o,h.get? b=some o->b∈fs->∃sl,h'.get? b=some {o with slots:=sl}
 ne:T'≠a
 new:h.get? T'=none\/T'=T
theorem jO{h h' base:Heap}{l l':List Env}{a T:Addr}{c:Str}{a0:Value}(ff:h.FunFrames base l)
  (x:Heap.FlyingW (PySem.W.hideAll h (a::T::jH l)) l' a (.ref (KF.cls c)) a0 h') (u:h.UpToSlots h'):∃T',Moved (jH l) a T h h' T'/\ym h' a T' c:=by
 obtain⟨x1,x2,x3,oe,vs,T',oT,ts,y1,⟨y2,y3⟩,y4,y5,y6,y7,y8,y9,y10⟩:=x;have sl:∀b o,h.get? b=some o->b∈jH l->∃sl,h'.get? b=some {o with slots:=sl}:=λb o e hb=>by
  obtain⟨_,o',e',d⟩:=ff.mem hb;rw[e]at e';cases e';exact u b o e d
 refine⟨T',⟨λb o e n1 n2 n3=>x1 b o (PySem.W.hideAll_get _ e λz=>?_),sl,y7,?_⟩,⟨oe,vs,a0,y1,y2,y4,y3,y5⟩,⟨oT,ts,y8,y9,y10⟩⟩
 ·rcases List.mem_cons.mp z with z|z
  ·exact n1 z
  ·rcases List.mem_cons.mp z with z|z
   ·exact n2 z
   ·exact n3 z
 ·cases e:h.get? T' with
  | none=>exact .inl rfl
  | some o =>
   by_cases z:T'=T
   ·exact .inr z
   by_cases zf:T'∈jH l
   ·obtain⟨_,o',e',d⟩:=ff.mem zf
    obtain⟨s2,e2⟩:=sl T' o' e' zf;rw[y8]at e2;cases e2;exact absurd y9 (d _)
   ·have:=PySem.W.hideAll_get (a::T::jH l) e λw=>by
     rcases List.mem_cons.mp w with w|w
     ·exact y7 w
     ·rcases List.mem_cons.mp w with w|w
      ·exact z w
      ·exact zf w
    rw[y6]at this;cases this
theorem lu{h base:Heap}{l:List Env}{a T:Addr}{c:Str}(ff:h.FunFrames base l)(f:ym h a T c)(ne:a≠T):∃a0,Heap.FlyingW (PySem.W.hideAll h (a::T::jH l)) l a (.ref (KF.cls c)) a0 h:=by
 obtain⟨o,vs,a0,e1,e2,e3,e4,e5⟩:=f.ex;obtain⟨oT,ts,t1,t2,t3⟩:=f.tb;exact⟨a0,λb o e=>PySem.W.of_hideAll _ e,PySem.W.hideAll_none _ (.head _),PySem.W.funFrames_hide ff λenv he b hb=>.tail _ (.tail _ (List.mem_filterMap.mpr ⟨env,he,hb⟩)),
  o,vs,T,oT,ts,e1,⟨e2,e4⟩,e3,e5,PySem.W.hideAll_none _ (.tail _ (.head _)),Ne.symm ne,t1,t2,t3⟩
section
variable {M:Model}{A:Around}{E:Value->Shared->Prop}{s:Shared}{base:Heap}{env:Env}{outer:List Env}{L a T:Addr}{c:Str}{Q:Unit->Shared->Prop}
theorem AB(DZ:A.frames=some (env::outer))(hf:env.frame=some L)(ff:s.heap.FunFrames base (env::outer))(f:ym s.heap a T c)(ne:a≠T)
  (q:∀h' T',Moved (jH (env::outer)) a T s.heap h' T'->ym h' a T' c->Q () {s with heap:=h'}):wpAny M A (leaving env (.ref a)) Q E s:=by
 obtain⟨a0,x⟩:=lu ff f ne;refine wpAny_leaves_onW DZ hf x λh' y u=>?_;obtain⟨T',m,f'⟩:=jO ff y u;exact q h' T' m f'
theorem Eh(DZ:A.frames=some (env::outer))(hf:env.frame=some L)(ff:s.heap.FunFrames base (env::outer))(f:ym s.heap a T c)(ne:a≠T)
  (q:∀h' T',Moved (jH (env::outer)) a T s.heap h' T'->ym h' a T' c->Q () {s with heap:=h'}):wpAny M A (noteFrame (.ref a) env) (λ_ s2=>wpAny M A (setFlight (.ref a) none) Q E s2) E s:=by
 obtain⟨a0,x⟩:=lu ff f ne;refine wpAny_looks_onW DZ hf x λh1 y u=>?_;refine wpAny_landsW y λh2 z u2=>?_;obtain⟨T',m,f'⟩:=jO ff z (u.trans u2);exact q h2 T' m f'
theorem zY(ff:s.heap.FunFrames base (env::outer))(f:ym s.heap a T c)(ne:a≠T)
  (q:∀h' T',Moved (jH (env::outer)) a T s.heap h' T'->ym h' a T' c->Q () {s with heap:=h'}):wpAny M A (setFlight (.ref a) none) Q E s:=by
 obtain⟨a0,x⟩:=lu ff f ne;refine PyProof.Rows.lands_againW x λh2 z u2=>?_;obtain⟨T',m,f'⟩:=jO ff z u2;exact q h2 T' m f'
theorem leave_new(DZ:A.frames=some (env::outer))(hf:env.frame=some L)(ff:s.heap.FunFrames base (env::outer))
  (f:∃o vs a0,s.heap.get? a=some o/\o.cls=.ref (KF.cls c)/\o.data=.fields vs/\vs[0]?=some a0/\vs[1]?=some .none)
  (q:∀h' T',Moved (jH (env::outer)) a a s.heap h' T'->ym h' a T' c->Q () {s with heap:=h'}):wpAny M A (leaving env (.ref a)) Q E s:=by
 obtain⟨o,vs,a0,e1,e2,e3,e4,e5⟩:=f;have ff2:s.heap.FunFrames (PySem.W.hideAll s.heap (a::a::jH (env::outer))) (env::outer):=PySem.W.funFrames_hide ff λenv he b hb=>.tail _ (.tail _ (List.mem_filterMap.mpr ⟨env,he,hb⟩));refine wpAny_leaving_firstW (base:=PySem.W.hideAll s.heap (a::a::jH (env::outer))) DZ ff2 hf e1 (λb o e=>PySem.W.of_hideAll _ e) (PySem.W.hideAll_none _ (.head _)) e3 e5 e4 λh' y=>?_;obtain⟨k1,k2,k3,k4⟩:=y;rw[e2]at k3;obtain⟨T',m,f'⟩:=jO (T:=a) ff ⟨k1,PySem.W.hideAll_none _ (.head _),k2,k3⟩ k4;exact q h' T' m f'
end
theorem wq{P:Program}{w:World}{H:Hp}{h:Heap}{a:Addr}{o:HO}(x:bW P w H h a o):∃u,h.get? a=some u:=by
 cases o with
 | lst xs=>obtain⟨_,_,_,_,e⟩:=x;exact⟨_,e⟩
 | tup xs=>obtain⟨_,_,_,o,e,_⟩:=x;exact⟨_,e⟩
 | dK kvs=>obtain⟨_,_,_,_,o,_,_,e,_⟩:=x;exact⟨_,e⟩
 | dT kvs=>obtain⟨_,_,_,_,o,_,_,e,_⟩:=x;exact⟨_,e⟩
 | set S n=>obtain⟨o,_,_,_,e,_⟩:=x;exact⟨_,e⟩
 | ins C dx fs=>obtain⟨_,_,_,e,_⟩:=x;exact⟨_,e⟩
 | own y=>exact x
 | xd fs=>obtain⟨mA,⟨o,es,ep,e,_⟩,_⟩:=x;exact⟨_,e⟩
 | Z5 lo hi=>obtain⟨_,_,_,e⟩:=x;exact⟨_,e⟩
 | rZ o u=>exact⟨_,x.1⟩
 | Lq ps=>exact⟨_,x⟩
 | lam ps pos qual=>obtain⟨_,e,_⟩:=x;exact⟨_,e⟩
 | met f y=>exact⟨_,x⟩
 | ext φ=>exact x.2.1
def cY(H:Hp)(a T T':Addr)(c:Str):Hp:=λb=>if b=a then some (Hw a T' c)else if b=T' then some (tbO T')else if b=T then none else H b
def ei(o:Option HO):Prop:=∃φ,o=some (.ext φ)
theorem Hx{P:Program}{w:World}{H:Hp}{h:Heap}{a T:Addr}{c:Str}(f:ym h a T c):bW P w H h a (Hw a T c):=by
 obtain⟨o,vs,a0,e1,e2⟩:=f.ex;exact⟨⟨o,vs,a0,e1,e2⟩,⟨o,e1⟩,λh1 h2 ⟨o,vs,a0,z1,z2⟩ k=>⟨o,vs,a0,k o z1,z2⟩⟩
theorem T8{P:Program}{w:World}{H:Hp}{h:Heap}{a T:Addr}{c:Str}(f:ym h a T c):bW P w H h T (tbO T):=by
 obtain⟨o,vs,e1,e2⟩:=f.tb;exact⟨⟨o,vs,e1,e2⟩,⟨o,e1⟩,λh1 h2 ⟨o,vs,z1,z2⟩ k=>⟨o,vs,k o z1,z2⟩⟩
theorem nY{P:Program}{w:World}{fs:List Addr}{H:Hp}{h h':Heap}{a T T':Addr}{c:Str}(bw:fw P w H h)(m:Moved fs a T h h' T')(f:ym h' a T' c)(hfs:∀b∈fs,H b=none)
  (ea:ei (H a)) (eT:ei (H T)):fw P w (cY H a T T' c) h'/\Un fs [a,T] H (cY H a T T' c) h h':=by
 obtain⟨φ,ea⟩:=ea;obtain⟨ψ,eT⟩:=eT;have XB:∀b o,H b=some o->(∀φ,o≠.ext φ)->b≠T':=λb o e n z=>by
  subst z;rcases m.new with z|z
  ·obtain⟨u,hu⟩:=wq (bw b o e)
   rw[z]at hu;cases hu
  ·subst z;rw[eT]at e;cases e;exact n _ rfl
 have other:∀b o,H b=some o->(∀φ,o≠.ext φ)->cY H a T T' c b=some o:=λb o e n=>by
  unfold cY;rw[if_neg (λz=>by subst z;rw[ea]at e;cases e;exact n _ rfl),if_neg (XB b o e n),if_neg (λz=>by subst z;rw[eT]at e;cases e;exact n _ rfl)]
  exact e
 refine⟨λb o e=>?_,⟨λb o e n n1 n2=>?_,λb o e n hb n2=>m.slot b o e hb,λb o e n n2=>?_,λb o e n2=>?_,λb xs e=>other b _ e (λφ z=>by cases z),λb o u e=>other b _ e (λφ z=>by cases z),λb ps e=>⟨#[],by rw[other b _ e (λφ z=>by cases z)];simp⟩⟩⟩
 ·unfold cY at e
  split at e
  ·rename_i z;subst z;cases e;exact Hx f
  ·rename_i za
   split at e
   ·rename_i z;subst z;cases e;exact T8 f
   ·rename_i zT'
    split at e
    ·cases e
    ·rename_i zT
     refine(bw b o e).pD (λd u hd q=>?_) (λd q=>other d _ q (λφ z=>by cases z)) (λd xs q=>other d _ q (λφ z=>by cases z)) λd o u q=>other d _ q (λφ z=>by cases z)
     have hdn:H d≠none:=λz=>by
      rcases hd with hd|hd
      ·subst hd;rw[e]at z;cases z
      ·rw[hd]at z;cases z
     refine m.keep d u q (λz=>?_) (λz=>?_) λz=>hdn (hfs d z)
     ·rcases hd with hd|hd
      ·exact za (hd ▸ z)
      ·rw[z,ea]at hd;cases hd
     ·rcases hd with hd|hd
      ·exact zT (hd ▸ z)
      ·rw[z,eT]at hd;cases hd
 ·simp only[List.mem_cons,List.not_mem_nil,or_false,not_or]at n2
  exact m.keep b o e n2.1 n2.2 n1
 ·simp only[List.mem_cons,List.not_mem_nil,or_false,not_or]at n2
  unfold cY;rw[if_neg n2.1,if_neg (λz=>?_),if_neg n2.2]
  ·exact n
  ·subst z
   rcases m.new with z|z
   ·rw[e]at z;cases z
   ·exact n2.2 z
 ·simp only[List.mem_cons,List.not_mem_nil,or_false,not_or]at n2
  by_cases hb:b∈fs
  ·obtain⟨sl,q⟩:=m.slot b o e hb
   exact⟨_,q⟩
  ·exact⟨o,m.keep b o e n2.1 n2.2 hb⟩
theorem JI{fs:List Addr}{kZ H H':Hp}{h₀ h h':Heap}{L a T:Addr}(u1:Un fs [] kZ H h₀ h)(u2:Un (L::fs) [a,T] H H' h h')(hL:h₀.objs.size<=L)(ha:h₀.get? a=none)(hT:h₀.get? T=none):Un fs [] kZ H' h₀ h':=by
 have nL:∀ {b:Addr} {o:Obj},h₀.get? b=some o->b≠L:=λe z=>by
  have:=Heap.lt_size e;rw[z]at this;exact absurd (Nat.lt_of_lt_of_le this hL) (Nat.lt_irrefl _)
 have nx:∀ {b:Addr} {o:Obj},h₀.get? b=some o->b∉[a,T]:=λe z=>by
  simp only[List.mem_cons,List.not_mem_nil,or_false]at z;rcases z with z|z
  ·rw[z,ha]at e;cases e
  ·rw[z,hT]at e;cases e
 have n0:∀b:Addr,b∉([]:List Addr):=λb=>by simp
 refine⟨λb o e n nf _=>?_,λb o e n hf _=>?_,λb o e n _=>?_,λb o e _=>?_,λb xs e=>u2.pG b xs (u1.pG b xs e),λb o u e=>u2.mY b o u (u1.mY b o u e),λb ps e=>?_⟩
 ·exact u2.keep b o (u1.keep b o e n nf (n0 b)) (u1.free b o e n (n0 b)) (λz=>by rcases List.mem_cons.mp z with z|z;exact nL e z;exact nf z) (nx e)
 ·obtain⟨sl,e1⟩:=u1.slot b o e n hf (n0 b)
  obtain⟨Lj,e2⟩:=u2.slot b _ e1 (u1.free b o e n (n0 b)) (.tail _ hf) (nx e);exact⟨Lj,e2⟩
 ·obtain⟨sl,e1⟩:=u1.any e n (n0 b)
  exact u2.free b _ e1 (u1.free b o e n (n0 b)) (nx e)
 ·obtain⟨o1,e1⟩:=u1.there b o e (n0 b)
  exact u2.there b o1 e1 (nx e)
 ·obtain⟨m1,e1⟩:=u1.pE b ps e
  obtain⟨m2,e2⟩:=u2.pE b _ e1;exact⟨m1++m2,by rw[e2,Array.append_assoc]⟩
end Vc
namespace Vc
open PySem L2
variable [KF]
variable {G:GE}{k:Nat}{S:Stat}
def Ls(P:Program)(w:World):yk:=λouter H s E e s'=>∃a T c H',e=.ref a/\s'.os=s.os/\PyProof.Rows.AllBare s'.gens/\Un (jH outer) [] H H' s.heap s'.heap/\fw P w H' s'.heap/\aw H H' /\
 H a=none/\H T=none/\s.heap.get? a=none/\s.heap.get? T=none/\a≠T/\H' a=some (Hw a T c)/\H' T=some (tbO T)/\∀t,E (.str c t) none H'
abbrev Bh:=List D->(B->Prop)->(Str->Prop)->Prop
def Tq(sp:Bh):Sp:=λvs H Q E=>∃F ds Qd Ed,p0 F H/\aH F vs ds/\sp ds Qd Ed /\
 (∀v H' F' b,aw F F'->aw F' H'->aw H H'->(∀c o,F' c=some o->F c=some o\/Nw H c o)->G4 H F' H' v b->Qd b->Q v H')/\∀c t H',Ed c->E (.str c t) none H'
def Ly(G:GE)(k:Nat)(x:Str)(sp:Bh):Prop:=∃f fd ps,cm G.P G.w G.K G.mg G.base (Ls G.P G.w) k f fd ps (Tq sp)/\G.mg x=some (.ref f)/\PySem.W.keepIn G.K (.ref f)=true/\Binds G.K fd ps []
theorem Ly.mono{x:Str}{sp:Bh}{j:Nat}(h:Ly G j x sp)(l:j<=k):Ly G k x sp:=by
 obtain⟨f,fd,ps,h1,h2,h3,h4⟩:=h;exact⟨f,fd,ps,h1.mono l,h2,h3,h4⟩
def ClX(sp:Bh)(ds:List D)(Q:B->Prop)(E:Str->Prop):Prop:=sp ds Q E
def Tt(ex:Str->Sd->Prop)(sp:Bh)(t:iy):TX:=λσ Q=>t σ λds ax=>ClX sp ds (λb=>Q (bE b) ax) λc=>ex c ax
theorem Jk{x:Str}{sp:Bh}{e:Expr}{es:List Expr}{t:iy}{p pos:Pos}(h:Ly G k x sp)(ha:zW G k S (e::es) t)(hg:S.sc.lookup x=some .globalImplicit:=by rfl)(lA:(x==("__debug__":Str))=false:=by decide)
  (he:∀env,starEach (e::es) env=(false,eval e env)::starEach es env:=by exactλ_=>Vc.cH rfl) (de:∀env,(backTo pos (starEach es env)).any (·.1)=false:=by intro _;rfl) (hh:S.nk=false:=by rfl) (Oh:S.uk=false:=by rfl):
  EX G k S (.Call (.Name x p) (e::es) [] pos) (Tt S.ex sp t):=.mk λX Y ok pins s σ H Q I q=>by
 obtain⟨f,fd,ps,h1,h2,h3,h4⟩:=h;have r9:cm X.prog X.w X.K X.mg X.base (Ls X.prog X.w) k f fd ps (Tq sp):=by rw[ok.P,ok.w,ok.K,ok.mg,ok.base];exact h1
 obtain⟨F,ai,Qd,R,q,K⟩:=q;refine wpAny_Call_Name_kw (iE I (dZ ok hg) (by rw[ok.mg];exact h2) ?_ lA)
 refine PySem.W.callWith_K (h₀:=X.base) I.ok.mod.yW (by rw[ok.K];exact h3) (cE (ha X Y ok pos pins s σ H (λvs H1=>∃F1 ds ax,aw F F1/\RS Y F1 ax σ H1/\aH F1 vs ds/\ClX sp ds (λb=>Qd (bE b) ax) λc=>S.ex c ax) I
  ⟨F,ai,_,R,q,λvs H1 F1 ds ax s1 R1 r1 q1=>⟨F1,ds,ax,s1,R1,r1,q1⟩⟩) λus s1 ⟨vs,H1,I1,r,F1,ds,ax,UM,R1,r1,q1⟩=>⟨I1.i7,?_⟩) (he _) (de _)
 let E:XK:=λv _ _=>∃c t,v=.str c t/\S.ex c ax
 have yS:Tq sp vs H1 Q E:=by
  refine⟨F1,ds,_,_,⟨R1.fr,R1.ob.tab⟩,r1,q1,λv H' F' b s2 s3 s4 fr r2 q2=>?_,λc t H' hx=>⟨c,t,rfl,hx⟩⟩;have R2:=R1.call s2 s3 s4 fr;cases b with
  | sh d=>exact K v H' F' (.val d) ax (UM.trans s2) R2 r2 q2
  | own xs =>
   obtain⟨a,us,rfl,w1,w2,w3,w4⟩:=r2;refine K _ H' F' (.own xs) ax (UM.trans s2) R2 ⟨a,us,rfl,w1,w2,w3,(R1.bX w4).1,R1.eE w4⟩ q2
  | obj o =>
   obtain⟨a,rfl,w1,w2⟩:=r2;exact K _ H' F' (.obj o) ax (UM.trans s2) R2 ⟨a,rfl,w1,λb hb=>⟨(w2 b hb).1,(w2 b hb).2.1,(R1.bX (w2 b hb).2.2).1,R1.eE (w2 b hb).2.2⟩⟩ q2
 have hl:us.length=ps.length:=by rw[<- r.length];exact r9.len _ _ _ _ yS
 have hb:=h4 s1 us (by rw[<- ok.K];exact I1.i7) (by rw[List.append_nil];exact hl)
 rw[List.append_nil]at hb;refine wpAny_call (codeAny_mono (r9.run X.A X.stack s1 H1 ⟨us,[]⟩ us vs Q E (ok.room hh) I1.Ht hb r yS) λr s' hq=>?_);cases r with
 | error e =>
  obtain⟨a,T,c,H',rfl,os,bare,un,bw,sm,na,nT,la,lT,ne,fa,fT,ed⟩:=hq;obtain⟨c',t',ec,hx⟩:=ed 0;cases ec;have I2:L2.Inv X pins σ H' s':=I1.qg os un bw bare λb z=>absurd z (by simp)
  have R2:RS Y F1 ax σ H':=R1.call (aw.refl _) (R1.fr.trans sm) sm λc o e=>.inl e;have old:∀b,s1.heap.get? b=none->X.bR.heap.get? b=none:=λb e=>by
   cases e0:X.bR.heap.get? b with
   | none=>rfl
   | some o =>
    obtain⟨o',e1⟩:=I1.base.there b o e0 (by rw[(ok.nx Oh).1];simp)
    rw[e]at e1;cases e1
  exact ok.exc c ax hx pins σ H' F1 s' a T I2 R2 ⟨same_none R1.fr na,same_none R1.fr nT,fa,fT,ne,(R1.bX na).1,(R1.bX nT).1,old a la,old T lT⟩
 | ok fl =>
  cases fl with
  | ret u=>exact I1.after hq
  | next=>exact False.elim hq
  | brk=>exact False.elim hq
  | cont=>exact False.elim hq
theorem fI{P:Program}{w:World}{H:Hp}{h:Heap}(ok:fw P w H h){a:Addr}(e:h.get? a=none):H a=none:=by
 cases q:H a with
 | none=>rfl
 | some o =>
  obtain⟨u,z⟩:=wq (ok a o q);rw[e]at z;cases z
theorem jR{X:Cx}{pins:List (Addr×Obj)}{σ:St}{H:Hp}{s:Shared}(I:L2.Inv X pins σ H s)(hex:X.ex=[]){b:Addr}(e:s.heap.get? b=none):X.bR.heap.get? b=none:=by
 cases e0:X.bR.heap.get? b with
 | none=>rfl
 | some o =>
  obtain⟨o',e1⟩:=I.base.there b o e0 (by rw[hex];simp)
  rw[e]at e1;cases e1
theorem Ez{X:Cx}{Y:bP}{pins:List (Addr×Obj)}{σ:St}{ai:Sd}{H F:Hp}{s:Shared}{a T T':Addr}{h':Heap}{c:Str}{E:XK}(eA:Y.io=[]/\Y.ob=[])(hY:Y.H0=X.kZ)(hex:X.ex=[])(pN:X.stack=X.env::X.outer)(DZ:X.env.frame=some X.env.locals)
  (I:L2.Inv X pins σ H s) (R:RS Y F ai σ H) (ea:ei (H a)) (eT:ei (H T)) (na:Y.H0 a=none) (nT:Y.H0 T=none) (la:X.bR.heap.get? a=none) (lT:X.bR.heap.get? T=none)
  (m:Moved (jH X.stack) a T s.heap h' T') (f:ym h' a T' c) (hE:∀t H',E (.str c t) none H'):Ls X.prog X.w X.outer X.kZ X.bR E (.ref a) {s with heap:=h'}:=by
 obtain⟨Aq,UR⟩:=nY I.bw m f I.kO ea eT;have un3:Un (X.env.locals::X.fs) [a,T] H (cY H a T T' c) s.heap h':=by
  have e:jH X.stack=X.env.locals::jH X.outer:=by
   rw[pN];unfold jH;rw[List.filterMap_cons,DZ]
  rw[e]at UR;exact UR
 have hb:Un X.fs [] X.kZ H X.bR.heap s.heap:=by
  have:=I.base;rw[hex]at this;exact this
 have XB:Y.H0 T'=none/\X.bR.heap.get? T'=none:=by
  rcases m.new with z|z
  ·exact⟨(R.bX (fI I.bw z)).1,jR I hex z⟩
  ·rw[z];exact⟨nT,lT⟩
 refine⟨a,T',c,cY H a T T' c,rfl,I.os,I.bare,JI hb un3 I.ok.above la lT,Aq,λb o e=>?_,by rw[<- hY];exact na,by rw[<- hY];exact XB.1,la,XB.2,m.ne.symm,?_,?_,λt=>hE t _⟩
 ·have e':Y.H0 b=some o:=by rw[hY];exact e
  unfold cY;rw[if_neg (λz=>by rw[z,na]at e';cases e'),if_neg (λz=>by rw[z,XB.1]at e';cases e'),if_neg (λz=>by rw[z,nT]at e';cases e')]
  exact R.old b o e' (by simp [bP.D8,eA.1,eA.2])
 ·unfold cY;rw[if_pos rfl]
 ·unfold cY;rw[if_neg m.ne,if_pos rfl]
theorem Dw{x qual:Str}{st:Stmt}{f:Addr}{fd:FuncData}{N ps:List Str}{sp:Bh}{t:(Str->Sd->Prop)->b5}(hK:G.K=KF.K)(Fn:Bi G.K x qual st f fd)(Sc:aC N ps (ag st))
  (ht:∀Ed:Str->Prop,c9 G k ⟨N,(ag st).names,[],false,false,true,λc _=>Ed c⟩ (ao st) (t λc _=>Ed c))
  (len:∀ds Q E,sp ds Q E->ds.length=ps.length)
  (body:∀ds Q E,sp ds Q E->t (λc _=>E c) {nx:=λ_=>Q (.sh .aV),rt:=λb _=>Q b} (aL N.length ds)):cm G.P G.w G.K G.mg G.base (Ls G.P G.w) (k+1) f fd ps (Tq sp):=by
 obtain⟨oc,od,kV,doc,pm,an,iY,ct,IC,rfl,lk,gG⟩:=Fn.ex;refine KO lk gG Sc (λvs H Q E h=>?_) λA outer s H vs Q E hr h=>?_
 ·obtain⟨F,ds,Qd,Ed,s,r,q,K,_⟩:=h
  rw[r.length];exact len _ _ _ q
 ·obtain⟨F,ds,Qd,Ed,sm,r,q,K,KE⟩:=h
  refine⟨_,ht Ed (pL (Ls G.P G.w) G.P G.w G.K G.mg G.base N qual (ag st) f iY A outer s H E) ⟨H,F,[],[]⟩ ⟨rfl,rfl,rfl,hK,rfl,rfl,rfl,rfl,Sc.nd,λp hp=>absurd hp (by simp),λ_ _=>rfl,λ_=>rfl,Sc.kind,λ_ _ _=>rfl,λ_=>hr.hd,hr.dp,hr.un,λ_=>PassesOwn.leaving,λ_=>⟨rfl,rfl,rfl⟩,
   λc ai hx pins σ H1 F1 s1 a T I R fl=>?_,λ_ c ai hx pins σ H1 F1 s1 a I R ha na la=>?_⟩,F,aL N.length ds,_,RS.start _ sm r,body ds Qd Ed q,?_⟩
  ·refine AB (c:=c) (T:=T) I.ok.frames rfl I.stack ⟨(I.bw a _ fl.ha).1,(I.bw T _ fl.hT).1⟩ fl.ne λh' T' m f'=>?_
   exact Ez ⟨rfl,rfl⟩ rfl rfl rfl rfl I R ⟨_,fl.ha⟩ ⟨_,fl.hT⟩ fl.na fl.nT fl.la fl.lT m f' λt H'=>KE c t H' hx
  ·refine leave_new (c:=c) I.ok.frames rfl I.stack (I.bw a _ ha).1 λh' T' m f'=>?_
   exact Ez ⟨rfl,rfl⟩ rfl rfl rfl rfl I R ⟨_,ha⟩ ⟨_,ha⟩ na na la la m f' λt H'=>KE c t H' hx
  have same:∀ {F':Hp} {ai:Sd} {σ:St} {H':Hp},RS ⟨H,F,[],[]⟩ F' ai σ H'->aw H H':=λR b o e=>R.old b o e (by simp [bP.D8])
  refine⟨λσ H' F' ai s' R' q'=>?_,λv σ H' F' ai b s' R' r' q'=>?_,λ_ _ _ _ _ _ h=>h.elim,λ_ _ _ _ _ _ h=>h.elim⟩
  ·exact K .aV H' F' (.sh .aV) s' R'.fr (same R') R'.fW .aV q'
  ·refine K v H' F' b s' R'.fr (same R') R'.fW ?_ q'
   cases b with
   | sh d=>exact r'
   | own xs =>
    obtain⟨a,us,rfl,w1,w2,w3,w4,w5⟩:=r';exact⟨a,us,rfl,w1,w2,w3,w4⟩
   | obj o =>
    obtain⟨a,rfl,w1,w2⟩:=r';exact⟨a,rfl,w1,λb hb=>⟨(w2 b hb).1,(w2 b hb).2.1,(w2 b hb).2.2.1⟩⟩
theorem d9.fx{x:Str}{st:Stmt}{ps N:List Str}{f:Addr}{fd:FuncData}{t:(Str->Sd->Prop)->b5}{sp:Bh}(d:d9 G x st ps f fd)(hK:G.K=KF.K)(Sc:aC N ps (ag st))
  (ht:∀Ed:Str->Prop,c9 G k ⟨N,(ag st).names,[],false,false,true,λc _=>Ed c⟩ (ao st) (t λc _=>Ed c))
  (len:∀ds Q E,sp ds Q E->ds.length=ps.length) (body:∀ds Q E,sp ds Q E->t (λc _=>E c) {nx:=λ_=>Q (.sh .aV),rt:=λb _=>Q b} (aL N.length ds)):Ly G (k+1) x sp:=
 ⟨f,fd,ps,Dw hK d.F Sc ht len body,d.m,d.F.kp,d.b⟩
end Vc
namespace Vc
open PySem L2
variable [KF]
variable {G:GE}{k:Nat}{S:Stat}
def B6:List Value:=[.type "ValueError",.type "Exception",.type "BaseException",.type "object"]
def mroIn(K:PySem.W.Frag)(C:Addr):List Value:=match K.lookup C with
 | some ⟨_,_,.cls cd,_⟩=>cd.mro
 | _=>[]
structure UW(G:GE)(x:Str):Prop where
 mg:G.mg x=some (.ref (KF.cls x))
 exc:PySem.W.excIn G.K (KF.cls x) B6 "ValueError.__new__"=true
theorem rK{K:PySem.W.Frag}{h:Heap}{C:Addr}{l:List Value}{id:String}(Z:K.In h)(q:PySem.W.excIn K C l id=true):
  ∃(bm:List Value) (N:Addr) (nm qn:Str) (bs:List Value) (hd:Bool) (sn:List Str) (sub:List Value) (ab:Bool) (col:Option Bool) (dd:Option Addr) (k0 k1 k2 k3 k5:Option Value) (mN:Str->Option Value),
   mroIn K C=.ref C::bm/\h.get? C=some (excClassObj nm qn C N bs bm hd sn sub ab col dd k0 k1 k2 k3 k5 id)/\h.Ns N mN/\mN "__init__"=none/\OwnTail h l bm:=by
 have q0:=q;unfold PySem.W.excIn at q
 split at q
 ·rename_i o1 c1 s1 e1
  split at q
  ·rename_i C2 tl j0 j1 j2 j3 id2 j5 em es
   simp only[Bool.and_eq_true,beq_iff_eq,Bool.not_eq_true']at q;obtain⟨⟨⟨⟨⟨z1,z2⟩,z3⟩,z4⟩,z5⟩,z6⟩:=q;subst z1 z2;obtain⟨n1,n2,n3,n4,n5,n6,n7,n8,n9,n10,n11⟩:=c1;dsimp only at em z3 z5 z6;subst em z3;obtain rfl:s1=#[j0,j1,j2,j3,some (.builtin id2),j5]:=by
    cases s1;simp only at es;rw[es]
   refine⟨tl,n4,n1,n5,n2,n6,n7,n8,n9,n10,o1,j0,j1,j2,j3,j5,_,?_,Z _ _ e1,Heap.Ns.of_isNs (PySem.W.isNs_of_in Z z5),PySem.W.nsMap_none_of_in Z z5 z6,PySem.W.tail_of_in Z z4⟩;unfold mroIn;rw[e1]
  ·cases q
 ·cases q
theorem HK{P:Program}{w:World}{H:Hp}{h h':Heap}{a:Addr}{c:Str}(ok:fw P w H h)(kp:∀b u,h.get? b=some u->h'.get? b=some u)(e:h.get? a=none)
  (f:∃o vs a0,h'.get? a=some o/\o.cls=.ref (KF.cls c)/\o.data=.fields vs/\vs[0]?=some a0/\vs[1]?=some .none) {fs ex:List Addr}:fw P w (upd H a (Py a c)) h'/\Un fs ex H (upd H a (Py a c)) h h':=by
 have na:=fI ok e;have ne:∀ {b:Addr} {u:HO},H b=some u->b≠a:=λq z=>by rw[z,na]at q;cases q
 refine⟨λb u q=>?_,⟨λb u q _ _ _=>kp b u q,λb u q _ _ _=>⟨u.slots,kp b u q⟩,λb u q n _=>?_,λb u q _=>⟨u,kp b u q⟩,λb xs q=>by rw[aq (ne q)];exact q,λb o u q=>by rw[aq (ne q)];exact q,λb ps q=>⟨#[],by rw[aq (ne q),q];simp⟩⟩⟩
 ·by_cases hb:b=a
  ·subst hb;rw[az]at q;cases q
   obtain⟨o,vs,a0,z1,z2⟩:=f;exact⟨⟨o,vs,a0,z1,z2⟩,⟨o,z1⟩,λh1 h2 ⟨o,vs,a0,y1,y2⟩ k=>⟨o,vs,a0,k o y1,y2⟩⟩
  ·rw[aq hb]at q
   exact(ok b u q).pD (λd v _ r=>kp d v r) (λd r=>by rw[aq (ne r)];exact r) (λd xs r=>by rw[aq (ne r)];exact r) λd o u r=>by rw[aq (ne r)];exact r
 ·rw[aq λz=>by rw[z,e]at q;cases q];exact n
def tRz(ex:Str->Sd->Prop)(x:Str)(t:iy):b5:=λ_ σ=>t σ λds ax=>ds.length<=sizeLine/\ex x ax
theorem zH{x:Str}{e:Expr}{t:iy}{np di pos:Pos}(hc:UW G x)(ha:zW G k S [e] t)(hg:S.sc.lookup x=some .globalImplicit:=by rfl)(lA:(x==("__debug__":Str))=false:=by decide)
  (he:∀env,starEach [e] env=(false,eval e env)::starEach [] env:=by intro _;rfl) (hh:S.nk=false:=by rfl) (hrs:S.rs=true:=by rfl) (Oh:S.uk=false:=by rfl):
  ES G k S (.Raise (some (.Call (.Name x np) [e] [] di)) none pos) (tRz S.ex x t):=.mk λX Y ok pins s σ H D I q=>by
 obtain⟨F,ai,De,R,q,K⟩:=q;have hq:PySem.W.excIn X.K (KF.cls x) B6 "ValueError.__new__"=true:=by rw[ok.K];exact hc.exc
 obtain⟨Vq,N',Z1,qn',eg,yM,Z6,Jw,ZC,He,Bj,k0',k1',k2',k3',k5',mN',hm',hC,hN,aaD,hT⟩:=rK I.ok.mod.yW hq;have de:(backTo di (starEach [e] X.env)).any (·.1)=false:=by rw[he];rfl
 refine wpAny_Raise_call_subU (C:=KF.cls x) (nm:=Z1) (q:=qn') (N:=N') (bs:=eg) (bm:=Vq) (hdct:=yM) (sn:=Z6) (sub:=Jw) (ab:=ZC) (col:=He) (dd:=Bj) (k0:=k0') (k1:=k1') (k2:=k2') (k3:=k3') (k5:=k5') (mN:=mN') (bmB:=B6)
  PySem.F.excBase_ValueError ∅ PySem.F.excBase_ValueError (hT.hasType ∅) (ok.hd hh) de aaD ?_
 refine iE I (dZ ok hg) (by rw[ok.mg];exact hc.mg) ⟨rfl,?_⟩ lA
 have go:=ha X Y ok di pins s σ H (λvs H1=>∃F1 ax,RS Y F1 ax σ H1/\vs.length<=sizeLine/\S.ex x ax) I ⟨F,ai,_,R,q,λvs H1 F1 ds ax s1 R1 r1 q1=>⟨F1,ax,R1,by rw[r1.length];exact q1.1,q1.2⟩⟩
 rw[he]at go ⊢;refine Calls.evalArgs_plain (cE go λus s1 ⟨vs,H1,I1,r1,F1,ax,R1,hl,hx⟩=>⟨rfl,by rw[<- r1.length];exact hl,I1.bk _ _ hC,hN.keeps I1.bk,hT.keeps I1.bk,λh' a m=>?_⟩)
 obtain⟨t0,y1,y2,y3⟩:=m.there;have hf:∃o vs a0,h'.get? a=some o/\o.cls=.ref (KF.cls x)/\o.data=.fields vs/\vs[0]?=some a0/\vs[1]?=some .none:=⟨_,_,_,y1,rfl,rfl,rfl,rfl⟩;obtain⟨Aq,UR⟩:=HK (fs:=X.fs) (ex:=[]) I1.bw m.keeps m.new hf;have na:=fI I1.bw m.new;exact ok.made hrs x ax hx pins σ _ F1 _ a (I1.un (t':=s1.toks) UR Aq) (R1.rA na) az (R1.bX na).1 (jR I1 (ok.nx Oh).1 m.new)
end Vc
namespace Vc
open PySem L2
variable [KF]
variable {G:GE}{k:Nat}{S:Stat}
structure XCls(G:GE)(L:List Str):Prop where
 cls:∀c∈L,UW G c
 mro:∀c∈L,mroIn G.K (KF.cls c)=.ref (KF.cls c)::((if c="NearError" then []else [.ref (KF.cls "NearError")])++B6)
 inj:∀c∈L,∀d∈L,KF.cls c=KF.cls d->c=d
 near:("NearError":Str)∈L
def m8(c d:Str):Bool:=c==d||d=="NearError"
theorem XCls.sub{L:List Str}(Z:XCls G L){c d:Str}(hc:c∈L)(hd:d∈L):(mroIn G.K (KF.cls c)).contains (.ref (KF.cls d))=m8 c d:=by
 rw[Bool.eq_iff_iff,List.contains_iff_mem,Z.mro c hc];unfold m8;rw[Bool.or_eq_true,beq_iff_eq,beq_iff_eq,List.mem_cons,List.mem_append];constructor
 ·rintro(h|h|h)
  ·injection h with h
   exact .inl (Z.inj d hd c hc h).symm
  ·split at h
   ·cases h
   ·rw[List.mem_singleton]at h
    injection h with h
    exact .inr (Z.inj d hd _ Z.near h)
  ·simp [B6]at h
 ·rintro(h|h)
  ·subst h;exact .inl rfl
  ·subst h
   by_cases z:c="NearError"
   ·subst z;exact .inl rfl
   ·rw[if_neg z];exact .inr (.inl (List.mem_singleton.mpr rfl))
section
variable {M:Model}{A:Around}{E:Value->Shared->Prop}{h:Heap}{g:Array GenState}{d:Drawn}{t:Nat}{os:OsState}
theorem aar{e C D' N N':Addr}{oe:Obj}{nm q Z1 q':Str}{bs bm eg Vq sub Jw:List Value}{hd yM ab ZC:Bool}{sn Z6:List Str}{col He:Option Bool}{dd Bj:Option Addr}{k0 k1 k2 k3 k5 l0 l1 l2 l3 l5:Option Value}{id id':String}{Q:Bool->Shared->Prop}
    (hC:h.get? C=some (excClassObj nm q C N bs bm hd sn sub ab col dd k0 k1 k2 k3 k5 id)) (hD:h.get? D'=some (excClassObj Z1 q' D' N' eg Vq yM Z6 Jw ZC He Bj l0 l1 l2 l3 l5 id')) (he:h.get? e=some oe) (DV:oe.cls=.ref C)
    (hb:(Value.ref D'::Vq).contains (.type "BaseException")=true) (hi:(Value.ref C::bm).contains (.ref D')=true) (hq:Q true ⟨h,g,d,t,os⟩):wpAny M A (excMatches (.ref e) (.ref D')) Q E ⟨h,g,d,t,os⟩:=by
  have nt:=tc_notTuple;unfold excMatches
  repeat (first
    | (with_reducible refine wpAny_loadPart_at he ?_
       rw[DV])
    | with_reducible refine wpAny_loadPart_at hD ?_
    | (with_reducible refine wpAny_isSubtype_exc hD ?_
       rw[hb])
    | (with_reducible refine wpAny_isSubtype_exc hC ?_
       rw[hi])
    | wp_step)
  exact hq
end
end Vc
namespace Vc
open PySem L2
variable [KF]
variable {G:GE}{k:Nat}{S:Stat}
def xv(X:Cx)(a:Addr):Cx:={X with A:=X.A.mark (some (.ref a)),calm:=false,xe:=λ_ _=>False}
def EY(X:Cx)(pins:List (Addr×Obj))(xe:Value->Shared->Prop):Cx:={X with pn:=X.pn++pins,xe:=xe}
section
variable {X:Cx}{pins:List (Addr×Obj)}{σ:St}{H:Hp}{s:Shared}{a:Addr}{xe:Value->Shared->Prop}
theorem Ow(ok:X.Ok):(xv X a).Ok:=
 ⟨ok.mod,ok.kind,ok.glob,ok.blt,ok.above,ok.inj,ok.has,ok.Kv,(λh=>nomatch h),ok.frames,ok.Tr,ok.Wn,ok.bs,ok.zZ,ok.vP,ok.xn,ok.jk,ok.GK⟩
theorem Ro(ok:X.Ok):(EY X pins xe).Ok:=
 ⟨ok.mod,ok.kind,ok.glob,ok.blt,ok.above,ok.inj,ok.has,ok.Kv,ok.hd,ok.frames,ok.Tr,ok.Wn,ok.bs,ok.zZ,ok.vP,ok.xn,ok.jk,ok.GK⟩
theorem D5(I:L2.Inv X pins σ H s):L2.Inv (xv X a) pins σ H s:=⟨Ow I.ok,I.os,I.bare,I.base,I.loc,I.cell,I.free,I.dY,I.pin,I.bw,I.len⟩
theorem HL(ok:X.Ok)(I:L2.Inv (xv X a) pins σ H s):L2.Inv X pins σ H s:=⟨ok,I.os,I.bare,I.base,I.loc,I.cell,I.free,I.dY,I.pin,I.bw,I.len⟩
theorem Rn(I:L2.Inv X pins σ H s):L2.Inv (EY X pins xe) [] σ H s:=
 ⟨Ro I.ok,I.os,I.bare,I.base,I.loc,I.cell,I.free,I.dY,λp hp=>I.pin p (by rw[List.append_nil]at hp;exact hp),I.bw,I.len⟩
theorem jT{zm:List (Addr×Obj)}(ok:X.Ok)(I:L2.Inv (EY X pins xe) zm σ H s):L2.Inv X pins σ H s:=
 ⟨ok,I.os,I.bare,I.base,I.loc,I.cell,I.free,I.dY,λp hp=>I.pin p (List.mem_append_left _ hp),I.bw,I.len⟩
theorem Fx{D:Ends}{f:Flow}(ok:X.Ok)(h:SP (EY X pins xe) [] D f s):SP X pins D f s:=by
 cases f with
 | next=>obtain⟨cq,H',I,q⟩:=h;exact⟨cq,H',jT ok I,q⟩
 | brk=>obtain⟨cq,H',I,q⟩:=h;exact⟨cq,H',jT ok I,q⟩
 | cont=>obtain⟨cq,H',I,q⟩:=h;exact⟨cq,H',jT ok I,q⟩
 | ret u=>obtain⟨v,cq,H',I,r,q⟩:=h;exact⟨v,cq,H',jT ok I,r,q⟩
theorem HD{M:Model}{A:Around}{E:Value->Shared->Prop}{i:Nat}{n:Str}{pos:Pos}{Q:Unit->Shared->Prop}(I:L2.Inv X pins σ H s)(hN:X.N.Nodup)(hi:X.N[i]?=some n)(hx:X.env.kindOf n=some .local)
  (h:∀s',L2.Inv X pins (σ.set i none) H s'->Q () s'):wpAny M A (do bindName X.env n .none;unbindBehindTheSuite X.env n pos) Q E s:=by
 obtain⟨m,hn,hl⟩:=id I.loc;have DV:(X.env.scope.kind==.class||(X.env.scope.kind==.module&&X.env.locals != X.env.globals))=false:=by rw[I.ok.kind];rfl
 have CF:=I.CF;refine wpAny_nameGoes_keeps hx hn DV λh' v hn' hs=>h _ ?_;obtain⟨oL,_,_,KW,_⟩:=id hn;have nl:∀ {b:Addr} {o:Obj},X.bR.heap.get? b=some o->b≠X.env.locals:=λe=>Nat.ne_of_lt (Nat.lt_of_lt_of_le (Heap.lt_size e) I.ok.above);refine⟨I.ok,I.os,I.bare,⟨λb o e n0 hb UE=>(hs.2 b (nl e)).trans (I.base.keep b o e n0 hb UE),λb o e n0 hb UE=>?_,I.base.free,λb o e UE=>?_,I.base.pG,I.base.mY,I.base.pE⟩,⟨_,hn',λj y w e1 e2 e3=>?_⟩,λy c e=>?_,I.free,I.dY,λp hp=>?_,λb ob e=>?_,by simpa using I.len⟩
 ·obtain⟨sl,e1⟩:=I.base.slot b o e n0 hb UE
  exact⟨sl,(hs.2 b (nl e)).trans e1⟩
 ·obtain⟨o',e1⟩:=I.base.there b o e UE
  exact⟨o',(hs.2 b (nl e)).trans e1⟩
 ·have hj:j≠i:=λz=>by
   subst z;rw[List.getElem?_set]at e2;simp only[if_true]at e2
   split at e2<;>cases e2
  rw[List.getElem?_set_ne (Ne.symm hj)]at e2;obtain⟨u,r,q⟩:=hl j y w e1 e2 e3;refine⟨u,r,?_⟩;rcases q with⟨kk,e⟩|⟨kk,c,e,z⟩
  ·have:y≠n:=λz=>hj (oK hN e1 (z ▸ hi))
   exact .inl ⟨kk,by simp [this,e]⟩
  ·exact .inr ⟨kk,c,e,z.sameBut hs (CF y c e)⟩
 ·obtain⟨w,z⟩:=I.cell y c e
  exact⟨w,z.sameBut hs (CF y c e)⟩
 ·obtain⟨e,n0,ne,nf,d⟩:=I.pin p hp
  exact⟨(hs.2 p.1 ne).trans e,n0,ne,nf,d⟩
 ·refine(I.bw b ob e).pD (λc w hc q=>(hs.2 c ?_).trans q) (λ_ q=>q) λ_ _ q=>q
  rintro rfl;rcases hc with z|z
  ·rw[<- z,I.free]at e;cases e
  ·rw[I.free]at z;cases z
end
theorem RS.gone{Y:bP}{F:Hp}{ai:Sd}{σ:St}{H:Hp}{i:Nat}(R:RS Y F ai σ H)(eA:∀p∈Y.io,p.1≠i):RS Y F (ai.set i none) (σ.set i none) H:=by
 have ne:∀ {j:Nat} {b:B},(ai.set i none)[j]?=some (some b)->j≠i:=λe z=>by
  rcases gs e with⟨_,w⟩|⟨w,_⟩
  ·cases w
  ·exact w z
 refine⟨by simpa using R.len,R.lo,R.fr,R.fW,R.old,λj d e=>?_,λj xs e=>?_,λj l xs ys a e1 e2 e3 e4=>?_,λp hp=>?_,R.ob.put (λ_ hj=>bH hj) (λ_ z=>nomatch z) (λ_ _ z=>nomatch z)⟩
 ·have:=ne e
  rw[bH this]at e ⊢;exact R.sh j d e
 ·have:=ne e
  rw[bH this]at e ⊢;exact R.own j xs e
 ·have h1:=ne e1
  have h2:=ne e2;rw[bH h1]at e1 e3;rw[bH h2]at e2 e4;exact R.dis j l xs ys a e1 e2 e3 e4
 ·have:=eA p hp
  rw[bH this,bH this];exact R.io p hp
theorem RS.fly{Y:bP}{F:Hp}{ai:Sd}{σ:St}{H:Hp}{a T T':Addr}{c:Str}(R:RS Y F ai σ H)(fa:F a=none)(fT:F T=none)(na:Y.H0 a=none)(nT:Y.H0 T=none)(ea:ei (H a))(eT:ei (H T))(new:H T'=none\/T'=T):
  RS Y F ai σ (cY H a T T' c)/\F T'=none/\Y.H0 T'=none:=by
 have WH:F T'=none/\Y.H0 T'=none:=by
  rcases new with z|z
  ·exact⟨same_none R.fr z,(R.bX z).1⟩
  ·rw[z];exact⟨fT,nT⟩
 have same:∀b o,b≠a->b≠T->b≠T'->H b=some o->cY H a T T' c b=some o:=λb o n1 n2 n3 e=>by
  unfold cY;rw[if_neg n1,if_neg n3,if_neg n2];exact e
 obtain⟨φ,ea⟩:=ea;obtain⟨ψ,eT⟩:=eT;refine⟨⟨R.len,R.lo,λb o e=>?_,R.fW,λb o e n=>?_,R.sh,λj xs e=>?_,R.dis,R.io,?_⟩,WH⟩
 case refine_4 =>
  have up:∀b,H b≠none->(∀φ,H b≠some (.ext φ))->cY H a T T' c b=H b:=λb h1 h2=>by
   cases q:H b with
   | none=>exact absurd q h1
   | some o =>
    refine same b o (λz=>h2 φ (z ▸ ea)) (λz=>h2 ψ (z ▸ eT)) (λz=>?_) q;rcases new with y|y
    ·rw[z,y]at q;cases q
    ·exact h2 ψ (by rw[z,y];exact eT)
  refine R.ob.step (aw.refl _) (λ_ _ e=>⟨e,rfl⟩) (λb hb=>⟨up b (R.ob.owned hb).2.1 λ_=>R.ob.Ew hb,(R.ob.owned hb).1,(R.ob.owned hb).2.2⟩) R.ob.gP λb hb=>?_;unfold cY
  split
  ·exactλz=>nomatch z
  split
  ·exactλz=>nomatch z
  split
  ·rename_i z;exact absurd (by rw[z];exact nT) (R.ob.Gf b hb)
  ·exact R.ob.there b hb
 ·exact same b o (λz=>by rw[z,fa]at e;cases e) (λz=>by rw[z,fT]at e;cases e) (λz=>by rw[z,WH.1]at e;cases e) (R.fr b o e)
 ·exact same b o (λz=>by rw[z,na]at e;cases e) (λz=>by rw[z,nT]at e;cases e) (λz=>by rw[z,WH.2]at e;cases e) (R.old b o e n)
 ·obtain⟨b,vs,w1,w2,w3,w4,w5⟩:=R.own j xs e
  refine⟨b,vs,w1,same b _ (λz=>by rw[z,ea]at w2;cases w2) (λz=>by rw[z,eT]at w2;cases w2) (λz=>?_) w2,w3,w4,w5⟩
  rcases new with y|y
  ·rw[z,y]at w2;cases w2
  ·rw[z,y,eT]at w2;cases w2
end Vc
namespace Vc
open PySem L2
variable [KF]
variable {G:GE}{k:Nat}{S:Stat}
def mV(H:Hp)(a T:Addr)(c:Str):Hp:=λb=>if b=a then some (xm a c)else if b=T then none else H b
theorem B9{P:Program}{w:World}{fs:List Addr}{H:Hp}{h:Heap}{a T:Addr}{c:Str}(bw:fw P w H h)(f:ym h a T c)(ea:ei (H a))(eT:ei (H T)):fw P w (mV H a T c) h/\Un fs [a,T] H (mV H a T c) h h:=by
 obtain⟨φ,ea⟩:=ea;obtain⟨ψ,eT⟩:=eT;have other:∀b o,H b=some o->(∀φ,o≠.ext φ)->mV H a T c b=some o:=λb o e n=>by
  unfold mV;rw[if_neg (λz=>by subst z;rw[ea]at e;cases e;exact n _ rfl),if_neg (λz=>by subst z;rw[eT]at e;cases e;exact n _ rfl)]
  exact e
 refine⟨λb o e=>?_,⟨λb o e n n1 n2=>e,λb o e n hb n2=>⟨o.slots,e⟩,λb o e n n2=>?_,λb o e n2=>⟨o,e⟩,λb xs e=>other b _ e (λφ z=>by cases z),λb o u e=>other b _ e (λφ z=>by cases z),λb ps e=>⟨#[],by rw[other b _ e (λφ z=>by cases z)];simp⟩⟩⟩
 ·unfold mV at e
  split at e
  ·rename_i z;subst z;cases e
   obtain⟨o,vs,a0,y1,y2,_⟩:=f.ex;exact⟨⟨o,y1,y2⟩,⟨o,y1⟩,λh1 h2 ⟨o,z1,z2⟩ k=>⟨o,k o z1,z2⟩⟩
  ·split at e
   ·cases e
   ·exact(bw b o e).pD (λd u hd q=>q) (λd q=>other d _ q (λφ z=>by cases z)) (λd xs q=>other d _ q (λφ z=>by cases z)) λd o u q=>other d _ q (λφ z=>by cases z)
 ·simp only[List.mem_cons,List.not_mem_nil,or_false,not_or]at n2
  unfold mV;rw[if_neg n2.1,if_neg n2.2];exact n
theorem RS.Ur{Y:bP}{F:Hp}{ai:Sd}{σ:St}{H:Hp}{a T:Addr}{c:Str}(R:RS Y F ai σ H)(fa:F a=none)(fT:F T=none)(na:Y.H0 a=none)(nT:Y.H0 T=none)(ea:ei (H a))(eT:ei (H T)):RS Y (upd F a (xm a c)) ai σ (mV H a T c):=by
 obtain⟨φ,ea⟩:=ea;obtain⟨ψ,eT⟩:=eT;have sm:=aM (o:=xm a c) fa;have same:∀b o,b≠a->b≠T->H b=some o->mV H a T c b=some o:=λb o n1 n2 e=>by
  unfold mV;rw[if_neg n1,if_neg n2];exact e
 refine⟨R.len,R.lo.trans sm,λb o e=>?_,λb o e=>?_,λb o e n=>?_,λj d e=>?_,λj xs e=>?_,R.dis,R.io,?_⟩
 case refine_6 =>
  refine R.ob.step sm (λ_ _ e=>⟨e,rfl⟩) (λb hb=>?_) R.ob.gP λb hb=>?_
  ·obtain⟨w1,w2,w3⟩:=R.ob.owned hb
   have n1:b≠a:=λz=>R.ob.Ew hb (z ▸ ea);have n2:b≠T:=λz=>R.ob.Ew hb (z ▸ eT);refine⟨?_,by rw[aq n1];exact w1,w3⟩
   cases q:H b with
   | none=>exact absurd q w2
   | some o=>exact same b o n1 n2 q
  ·unfold mV
   split
   ·exactλz=>nomatch z
   split
   ·rename_i z;exact absurd (by rw[z];exact nT) (R.ob.Gf b hb)
   ·exact R.ob.there b hb
 ·by_cases hb:b=a
  ·subst hb;rw[az]at e;cases e
   unfold mV;rw[if_pos rfl]
  ·rw[aq hb]at e
   exact same b o hb (λz=>by rw[z,fT]at e;cases e) (R.fr b o e)
 ·by_cases hb:b=a
  ·rw[hb];exact .inr (.inl na)
  ·rw[aq hb]at e;exact R.fW b o e
 ·exact same b o (λz=>by rw[z,na]at e;cases e) (λz=>by rw[z,nT]at e;cases e) (R.old b o e n)
 ·obtain⟨v,h1,h2⟩:=R.sh j d e
  exact⟨v,h1,h2.mono sm⟩
 ·obtain⟨b,vs,w1,w2,w3,w4,w5⟩:=R.own j xs e
  have nb:b≠a:=λz=>by rw[z,ea]at w2;cases w2
  exact⟨b,vs,w1,same b _ nb (λz=>by rw[z,eT]at w2;cases w2) w2,w3.mono sm,by rw[aq nb];exact w4,w5⟩
theorem KL{X:Cx}{pins:List (Addr×Obj)}{σ:St}{H:Hp}{s:Shared}(I:L2.Inv X pins σ H s){b:Addr}{φ:Heap->Prop}(e:H b=some (.ext φ))(l:X.bR.heap.get? b=none):
  (b∈X.ex\/X.bR.heap.get? b=none)/\b≠X.env.locals/\(∀x c,X.env.cells.lookup x=some c->c≠b)/\∀p∈X.pn++pins,p.1≠b:=
 ⟨.inr l,(λz=>by rw[z,I.free]at e;cases e),(λx c q z=>by rw[<- z,I.dY x c q]at e;cases e),λp hp z=>by rw[<- z,(I.pin p hp).2.1]at e;cases e⟩
theorem xk{X:Cx}{pins:List (Addr×Obj)}{σ:St}{H:Hp}{s:Shared}(I:L2.Inv X pins σ H s){a T:Addr}(ea:ei (H a))(eT:ei (H T))(la:X.bR.heap.get? a=none)(lT:X.bR.heap.get? T=none):
  ∀b∈[a,T],(b∈X.ex\/X.bR.heap.get? b=none)/\b≠X.env.locals/\(∀x c,X.env.cells.lookup x=some c->c≠b)/\∀p∈X.pn++pins,p.1≠b:=λb hb=>by
 obtain⟨φ,ea⟩:=ea;obtain⟨ψ,eT⟩:=eT;simp only[List.mem_cons,List.not_mem_nil,or_false]at hb;rcases hb with rfl|rfl
 ·exact KL I ea la
 ·exact KL I eT lT
def TL(L:List Str)(x:Str)(i:Nat)(tb:(Str->Sd->Prop)->b5)(th:b5):b5:=λDe σ =>
 tb (λc ax=>(c∈L/\m8 c x=true)/\th {nx:=λaO=>De.nx (aO.set i none),rt:=λ_ _=>False} (ax.set i (some (.sh (.exc c))))) De σ
theorem YS{L:List Str}{x n:Str}(i:Nat){body Fz:List Stmt}{b0:Stmt}{tb:(Str->Sd->Prop)->b5}{th:b5}{np HM pos:Pos}(Z:XCls G L)(hxL:x∈L)
  (hb:∀gy,c9 G k ⟨S.N,S.sc,S.ios,S.uk,false,false,gy⟩ body (tb gy)) (hs:c9 G k ⟨S.N,S.sc,S.ios,S.uk,true,false,λ_ _=>False⟩ (b0::Fz) th)
  (hi:S.N[i]?=some n:=by rfl) (hn:S.sc.lookup n=some .local:=by rfl) (hg:S.sc.lookup x=some .globalImplicit:=by rfl) (lA:(x==("__debug__":Str))=false:=by decide) (eA:i∉S.ios:=by first|decide|exact List.not_mem_nil | (dsimp only;decide)) (hh:S.nk=false:=by rfl) (Oh:S.uk=false:=by rfl):
  ES G k S (.Try body [.ExceptHandler (some (.Name x np)) (some n) (b0::Fz) HM] [] [] pos) (TL L x i tb th):=.mk λX Y ok pins s σ H D I q=>by
 obtain⟨F,ai,De,R,q,K⟩:=q;obtain⟨hex,pN,DZ⟩:=ok.nx Oh;have WX:∀p∈Y.io,p.1≠i:=λp hp z=>eA (z ▸ ok.ios p hp);refine wpAny_Try_except ?_
 let Y1:bP:=⟨Y.H0,F,Y.io,Y.ob⟩
 have toY:∀ {F':Hp} {aI:Sd} {cq:St} {H':Hp},RS Y1 F' aI cq H'->RS Y F' aI cq H':=λR'=>⟨R'.len,R.lo.trans R'.lo,R'.fr,λb o e=>by
  rcases R'.fW b o e with z|z
  ·exact R.fW b o z
  ·exact .inr z,R'.old,R'.sh,R'.own,R'.dis,R'.io,⟨R'.ob.obj,R'.ob.nQ,R'.ob.gP,R'.ob.there,R'.ob.Gf,R'.ob.tab⟩⟩
 have R0:RS Y1 F ai σ H:=⟨R.len,aw.refl _,R.fr,λb o e=>.inl e,R.old,R.sh,R.own,R.dis,R.io,⟨R.ob.obj,R.ob.nQ,R.ob.gP,R.ob.there,R.ob.Gf,R.ob.tab⟩⟩;have K1:uw Y1 F De D:=⟨λσ H F' ai s R' q=>K.nx σ H F' ai s (toY R') q,λv σ H F' ai b s R' r q=>K.rt v σ H F' ai b s (toY R') (by cases b<;>exact r) q,λσ H F' ai s R' q=>K.bk σ H F' ai s (toY R') q,λσ H F' ai s R' q=>K.ct σ H F' ai s (toY R') q⟩
 let xe':Value->Shared->Prop:=λe s1=>wpAny (model X.prog X.w) X.A (noteFrame e X.env) (λ_ s2=>wpAny (model X.prog X.w) X.A (setFlight e none) (λ_ s3 =>
  wpAny (model X.prog X.w) X.A (handleBy e X.env [.ExceptHandler (some (.Name x np)) (some n) (b0::Fz) HM]) (SP X pins D) X.xe s3) X.xe s2) X.xe s1
 let gy:Str->Sd->Prop:=λc ax=>(c∈L/\m8 c x=true)/\th {nx:=λaO=>De.nx (aO.set i none),rt:=λ_ _=>False} (ax.set i (some (.sh (.exc c))))
 have ok':eG (EY X pins xe') G k ⟨S.N,S.sc,S.ios,S.uk,false,false,gy⟩ Y1:=by
  refine⟨ok.P,ok.w,ok.K,ok.kf,ok.mg,ok.base,ok.N,ok.sc,ok.nd,ok.ios,ok.obs,λ_=>ok.calm hh,ok.kind,ok.fn,λ_=>ok.hd hh,ok.dp,ok.un,λ_=>PassesOwn.looking,ok.nx,λc GC hx abu ax H1 F1 s1 a T I1 R1' fl=>?_,λh=>nomatch h⟩;obtain⟨⟨WO,hcx⟩,hq⟩:=hx;have R1:=toY R1';have sF:aw F F1:=R1'.lo;have I2:L2.Inv X pins ax H1 s1:=jT I.ok I1;have fr1:X.A.frames=some (X.env::X.outer):=by rw[<- pN];exact I.ok.frames
  have ff1:s1.heap.FunFrames X.base (X.env::X.outer):=by rw[<- pN];exact I2.stack
  refine Eh fr1 DZ ff1 ⟨(I2.bw a _ fl.ha).1,(I2.bw T _ fl.hT).1⟩ fl.ne λh2 T2 m2 f2=>?_;obtain⟨Aq,UR⟩:=nY I2.bw m2 f2 (by rw[<- pN];exact I2.kO) ⟨_,fl.ha⟩ ⟨_,fl.hT⟩
  have I3:L2.Inv X pins ax (cY H1 a T T2 c) {s1 with heap:=h2}:=I2.qg rfl (by rw[pN];exact UR) Aq I2.bare (xk I2 ⟨_,fl.ha⟩ ⟨_,fl.hT⟩ fl.la fl.lT)
  obtain⟨R3,fT2,nT2⟩:=R1.fly (T':=T2) (c:=c) fl.fa fl.fT fl.na fl.nT ⟨_,fl.ha⟩ ⟨_,fl.hT⟩ (m2.new.imp (fI I2.bw) id);have lT2:X.bR.heap.get? T2=none:=m2.new.elim (λz=>jR I2 hex z) λz=>by rw[z];exact fl.lT
  have ha2:ei (cY H1 a T T2 c a):=⟨_,by unfold cY;rw[if_pos rfl];rfl⟩
  have hT2:ei (cY H1 a T T2 c T2):=⟨_,by unfold cY;rw[if_neg m2.ne,if_pos rfl];rfl⟩
  have hqc:PySem.W.excIn X.K (KF.cls c) B6 "ValueError.__new__"=true:=by rw[ok.K];exact(Z.cls c WO).exc
  have hqx:PySem.W.excIn X.K (KF.cls x) B6 "ValueError.__new__"=true:=by rw[ok.K];exact(Z.cls x hxL).exc
  obtain⟨bm,N,nm,qn,bs,hd,sn,sub,ab,col,dd,k0,k1,k2,k3,k5,mN,hm,hC,_,_,_⟩:=rK I3.i7 hqc;obtain⟨Vq,N',Z1,qn',eg,yM,Z6,Jw,ZC,He,Bj,k0',k1',k2',k3',k5',mN',hm',hD,_,_,WH⟩:=rK I3.i7 hqx;obtain⟨oe,vs,a0,e1,e2,_⟩:=f2.ex;refine wpAny_handleBy_cons (codeAny_handlers_test ?_) (by intro z;cases z)
  refine iE (X:=xv X a) (D5 I3) (dZ ok hg) (show X.mg x=some (.ref (KF.cls x))by rw[ok.mg];exact(Z.cls x hxL).mg) ?_ lA
  refine aar hC hD e1 e2 (by rw[List.contains_cons,WH.hasType (b:=true) ∅,Bool.or_true]) (by rw[<- hm,ok.K,Z.sub WO hxL];exact hcx) ?_
  refine codeAny_handlers_suite_as ?_;have ff3:h2.FunFrames X.base (X.env::X.outer):=by have:=I3.stack;rw[pN]at this;exact this
  refine zY (outer:=X.outer) (env:=X.env) (base:=X.base) ff3 f2 m2.ne.symm λh3 T3 m3 f3=>?_;obtain⟨W6,un3⟩:=nY Aq m3 f3 (by rw[<- pN];exact I3.kO) ha2 hT2
  have I4:L2.Inv X pins ax (cY (cY H1 a T T2 c) a T2 T3 c) {s1 with heap:=h3}:=I3.qg rfl (by rw[pN];exact un3) W6 I3.bare (xk I3 ha2 hT2 fl.la lT2)
  obtain⟨R4,fT3,nT3⟩:=R3.fly (T':=T3) (c:=c) fl.fa fT2 fl.na nT2 ha2 hT2 (m3.new.imp (fI I3.bw) id);have lT3:X.bR.heap.get? T3=none:=m3.new.elim (λz=>jR I3 hex z) λz=>by rw[z];exact lT2
  have ha3:ei (cY (cY H1 a T T2 c) a T2 T3 c a):=⟨_,by unfold cY;rw[if_pos rfl];rfl⟩
  have hT3:ei (cY (cY H1 a T T2 c) a T2 T3 c T3):=⟨_,by unfold cY;rw[if_neg m3.ne,if_pos rfl];rfl⟩
  obtain⟨aaG,un5⟩:=B9 (fs:=jH X.stack) W6 f3 ha3 hT3;have I5:L2.Inv X pins ax (mV (cY (cY H1 a T T2 c) a T2 T3 c) a T3 c) {s1 with heap:=h3}:=I4.qg rfl un5 aaG I4.bare (xk I4 ha3 hT3 fl.la lT3)
  have R5:=R4.Ur (c:=c) fl.fa fT3 fl.na nT3 ha3 hT3;have sF5:aw F (upd F1 a (xm a c)):=sF.trans (aM fl.fa);have lc:S.sc.lookup n=some .local\/(S.sc.lookup n=some .cell/\S.uk=false):=.inl hn;refine kP (X:=xv X a) (i:=i) (v:=.ref a) (D5 I5) (by show X.N.Nodup;rw[ok.N];exact ok.nd) (by show X.N[i]?=some n;rw[ok.N];exact hi) (sx ok lc) rfl (λs4 I6=>?_) (rW ok lc)
  have R6:=R5.vY (i:=i) (d:=.exc c) (v:=.ref a) (.exc az) WX;have okh:eG (xv X a) G k ⟨S.N,S.sc,S.ios,S.uk,true,false,λ_ _=>False⟩ Y:=
   ⟨ok.P,ok.w,ok.K,ok.kf,ok.mg,ok.base,ok.N,ok.sc,ok.nd,ok.ios,ok.obs,(λh=>nomatch h),ok.kind,ok.fn,(λh=>nomatch h),ok.dp,ok.un,(λh=>nomatch h),ok.nx,(λ_ _ h=>h.elim),λh=>nomatch h⟩
  let Dh:Ends:={nx:=λσ H=>∃F' aI,aw (upd F1 a (xm a c)) F'/\RS Y F' aI σ H/\De.nx (aI.set i none),rt:=λ_ _=>False}
  have run:=hs (xv X a) Y okh pins s4 _ _ Dh I6 ⟨_,_,_,R6,hq,⟨λσ H F' ai s R q=>⟨F',ai,s,R,q⟩,λ_ _ _ _ _ _ _ _ _ h=>h,λ_ _ _ _ _ _ h=>h,λ_ _ _ _ _ _ h=>h⟩⟩;refine wpAny_mono run (λf s5 h=>?_) λ_ _ z=>z.elim;cases f with
  | next =>
   obtain⟨Bo,H7,I7,F7,abt,sm7,R7,q7⟩:=h;exact HD (HL I.ok I7) (by rw[ok.N];exact ok.nd) (by rw[ok.N];exact hi) (by show X.env.scope.names.lookup n=_;rw[ok.sc];exact hn) λs8 I8=>⟨_,H7,I8,K.nx _ _ F7 (abt.set i none) (sF5.trans sm7) (R7.gone WX) q7⟩
  | brk=>obtain⟨_,_,_,z⟩:=h;exact False.elim z
  | cont=>obtain⟨_,_,_,z⟩:=h;exact False.elim z
  | ret u=>obtain⟨_,_,_,_,_,z⟩:=h;exact False.elim z
 have run:=hb gy _ Y1 ok' [] s σ H D (Rn I) ⟨F,ai,De,R0,q,K1⟩;refine wpAny_mono run (λf s1 h=>?_) λe s1 h=>h;have h:=Fx I.ok h;cases f with
 | next=>exact wpAny_execs_nil h
 | brk=>exact h
 | cont=>exact h
 | ret u=>exact h
end Vc
namespace Vx
open PySem PySem.W PySem.Calls PySem.Spec PyProof.Rows Builtin Builtin.ObjectAttr Builtin.Getset_descriptor
def jK(K:PySem.W.Frag)(C:Addr):Bool:=
 PySem.W.findIn K (.ref C) "__getattribute__"==some (some (.builtin "BaseException.__getattribute__"))&&PySem.W.findIn K (.ref C) "__getattr__"==some none&&PySem.W.findIn K (.ref C) "__class__"==some (some (.builtin "object.__class__")) &&
 PySem.W.mroIn K C (.type "object")==some true&&PySem.W.mroIn K C (.type "BaseException")==some true&&PySem.W.typeIn K (.ref C)==some (.type "type")
section
variable {prog:Program}{w:World}{A:Around}{E:Value->Shared->Prop}{h:Heap}{g:Array GenState}{d:Drawn}{t:Nat}{os:OsState}{K:PySem.W.Frag}{x C:Addr}{o:Obj}
theorem abq{R:Result->Shared->Prop}{tp:Value}(Z:K.In h)(hx:h.get? x=some o)(hc:o.cls=.ref C)(hm:PySem.W.mroIn K C (.type "object")=some true)(q:R (.ok (.ret (.ref C))) ⟨h,g,d,t,os⟩):
  codeAny (model prog w) A (.call (.builtin "getset_descriptor.__get__") ⟨[.builtin "object.__class__",.ref x,tp],[]⟩) R ⟨h,g,d,t,os⟩:=by
 have L0:Looks (model prog w) h (typeOf (.ref x)) (.ref C):=hc ▸ (Looks.ld hx).andThen .now;have L1:=PySem.W.looks_mroIn (M:=model prog w) Z hm;refine codeAny_call_builtin PySem.W.KF.slot_gs.plain PySem.W.KF.entry_gs (PySem.W.KF.slot_gs.check _ _ _ _ _ _ _ _ PySem.W.KF.type_class (PySem.W.KF.args_gs _ _ _) ?_);unfold Builtin.«getset_descriptor.__get__» descrGet;rw[PySem.W.dga_obj];refine wpAny_bind (wpAny_pure ?_);unfold descrGetter descrCheckInstance descrNameAndClass isInstance;simp only[PySem.W.KF.owner_class]
 repeat lk
 refine⟨Code.quiet_builtin _ (by decide +kernel),codeAny_builtin KF.entry_class ?_⟩
 unfold Builtin.«object.__class__» shownTypeOf
 repeat lk
 exact q
theorem Uk{tk:Tok}{Q:Fin->Shared->Prop}(Z:K.In h)(hx:h.get? x=some o)(hc:o.cls=.ref C)(hl:PySem.W.findIn K (.ref C) "__class__"=some (some (.builtin "object.__class__")))(hm:PySem.W.mroIn K C (.type "object")=some true)
  (q:Q (.done (.ret (.ref C))) ⟨h,g,d,t,os⟩):wpAny (model prog w) A (Builtin.«object.__getattribute__» ⟨[.ref x,.str "__class__" tk],[]⟩) Q E ⟨h,g,d,t,os⟩:=by
 have L0:Looks (model prog w) h (typeOf (.ref x)) (.ref C):=hc ▸ (Looks.ld hx).andThen .now;have L1:=looks_findIn (M:=model prog w) Z hl;have f5:typeOf (.builtin "object.__class__")=pure (.type "getset_descriptor"):=KF.type_class;have f6:=F.slot_gs_get.lookup;have f7:=F.slot_gs_set.lookup
 repeat (any_goals (first|assumption|with_reducible refine L0.at ?_|with_reducible refine L1.at ?_ | (with_reducible refine wpAny_loadPart_at hx ?_;rw[hc])|wp_step))
 refine abq Z hx hc hm ?_
 repeat (any_goals (first|assumption|wp_step))
theorem Uj{M:Model}{v:Value}{Q:Unit->Shared->Prop}(Z:K.In h)(hx:h.get? x=some o)(hc:o.cls=.ref C)(hb:PySem.W.mroIn K C (.type "BaseException")=some true)(q:Q () ⟨h,g,d,t,os⟩):
  wpAny M A (checkBuiltinCall "BaseException.__getattribute__" ⟨[.ref x,v],[]⟩) Q E ⟨h,g,d,t,os⟩:=by
 have hk:builtinKind "BaseException.__getattribute__"=some .slot:=by decide +kernel
 have hs:splitId "BaseException.__getattribute__"=some ("BaseException","__getattribute__"):=by decide +kernel
 have L1:=looks_mroIn (M:=M) Z hb;have ha:=F.args_bexc_ga (.ref x) v;simp only[checkBuiltinCall,hk,hs];refine wpAny_bind ?_;unfold isInstance
 repeat (first|with_reducible refine L1.at ?_ | (with_reducible refine wpAny_loadPart_at hx ?_;rw[hc])|wp_step)
 exact q
theorem Zw{tk:Tok}{R:Result->Shared->Prop}(Z:K.In h)(hx:h.get? x=some o)(hc:o.cls=.ref C)(hl:PySem.W.findIn K (.ref C) "__class__"=some (some (.builtin "object.__class__")))(hm:PySem.W.mroIn K C (.type "object")=some true)
  (hb:PySem.W.mroIn K C (.type "BaseException")=some true) (q:R (.ok (.ret (.ref C))) ⟨h,g,d,t,os⟩):
  codeAny (model prog w) A (.call (.builtin "BaseException.__getattribute__") ⟨[.ref x,.str "__class__" tk],[]⟩) R ⟨h,g,d,t,os⟩:=
 codeAny_call_builtin F.excAttr_ValueError.ga.plain F.entry_bexc_ga (Uj Z hx hc hb (Uk Z hx hc hl hm q))
theorem xby{tk:Tok}{fill expr:Bool}{Q:Value->Shared->Prop}(Z:K.In h)(hx:h.get? x=some o)(hc:o.cls=.ref C)(Oj:PySem.W.findIn K (.ref C) "__getattribute__"=some (some (.builtin "BaseException.__getattribute__")))(hgx:PySem.W.findIn K (.ref C) "__getattr__"=some none)
  (hl:PySem.W.findIn K (.ref C) "__class__"=some (some (.builtin "object.__class__"))) (hm:PySem.W.mroIn K C (.type "object")=some true) (hb:PySem.W.mroIn K C (.type "BaseException")=some true) (q:Q (.ref C) ⟨h,g,d,t,os⟩):
  wpAny (model prog w) A (getAttrBy (.ref x) (.str "__class__" tk) fill expr) Q E ⟨h,g,d,t,os⟩:=by
 have L0:Looks (model prog w) h (typeOf (.ref x)) (.ref C):=hc ▸ (Looks.ld hx).andThen .now;have L1:=looks_findIn (M:=model prog w) Z Oj;have L2:=looks_findIn (M:=model prog w) Z hgx;have f3:=F.excAttr_ValueError.ga.bind (.ref x);have UE:(expr&&onTheHeap (Value.builtin "BaseException.__getattribute__"))=false:=by cases expr<;>rfl
 have um:(Value.builtin "BaseException.__getattribute__"==Value.builtin "object.__getattribute__")=false:=by decide +kernel
 have hx1:(onTheHeap (Value.ref C)&&Value.builtin "BaseException.__getattribute__"==Value.builtin "object.__getattribute__")=false:=by rw[um];rfl
 repeat (any_goals (first|assumption|with_reducible refine L1.at ?_|with_reducible refine L2.at ?_ | (with_reducible refine wpAny_loadPart_at hx ?_;rw[hc])|wp_step))
 refine Zw Z hx hc hl hm hb ?_
 repeat (any_goals (first|assumption|wp_step))
theorem Zv{Q:Option Value->Shared->Prop}(Z:K.In h)(hx:h.get? x=some o)(hc:o.cls=.ref C)(Oj:PySem.W.findIn K (.ref C) "__getattribute__"=some (some (.builtin "BaseException.__getattribute__")))(hgx:PySem.W.findIn K (.ref C) "__getattr__"=some none)
  (hl:PySem.W.findIn K (.ref C) "__class__"=some (some (.builtin "object.__class__"))) (hm:PySem.W.mroIn K C (.type "object")=some true) (hb:PySem.W.mroIn K C (.type "BaseException")=some true) (q:Q (some (.ref C)) ⟨h,g,d,t+1,os⟩):
  wpAny (model prog w) A (getAttr? (.ref x) "__class__") Q E ⟨h,g,d,t,os⟩:=by
 unfold getAttr? getAttrBy?
 repeat (any_goals (first|assumption|with_reducible apply xby Z hx hc Oj hgx hl hm hb|wp_step))
theorem aaS(e:jK K C=true):KitX K (.ref x) (.ref C) (λh=>∃o,h.get? x=some o/\o.cls=.ref C):=by
 unfold jK at e;simp only[Bool.and_eq_true,beq_iff_eq]at e;obtain⟨⟨⟨⟨⟨e1,e2⟩,e3⟩,e4⟩,e5⟩,e6⟩:=e;obtain⟨cd,gG,_⟩:=Option.bind_eq_some_iff.mp e4;obtain⟨oc,ho,hd⟩:∃oc,K.lookup C=some oc/\oc.data=.cls cd:=by
  unfold clsIn at gG
  split at gG
  ·rename_i c' d' cd' sl' ho
   cases gG;exact⟨_,ho,rfl⟩
  ·cases gG
 refine⟨λM h Z ⟨o,h1,h2⟩=>h2 ▸ (Looks.ld h1).andThen .now,λM h Z _=>?_,λh tp dd its n sl Z htp=>?_,?_⟩
 ·intro A' Q' E' s' k q
  unfold isType loadHead;refine wpAny_bind (wpAny_loadPart (k _ _ (Z _ _ ho)) (wpAny_pure ?_));rw[hd];exact q
 ·refine Bool.eq_false_iff.mpr λq=>?_
  have e:C=tp:=Value.ref.inj (beq_iff_eq.mp q);subst e;have z:=(Z _ _ ho).symm.trans htp;cases z;cases hd
 ·intro prog w A E Q s Z ⟨o,h1,h2⟩ q
  obtain⟨hh,g,d,t,os⟩:=s;exact Zv Z h1 h2 e1 e2 e3 e4 e5 q
end
end Vx
namespace Vc
open PySem L2
variable [KF]
variable {G:GE}{k:Nat}{S:Stat}
structure jB(G:GE)(L:List Str):Prop extends XCls G L where
 look:∀c∈L,Vx.jK G.K (KF.cls c)=true
theorem y0{K:PySem.W.Frag}{C:Addr}{l:List Value}{v:Value}(h:mroIn K C=v::l)(base:Value):PySem.W.mroIn K C base=some ((v::l).contains base):=by
 unfold mroIn at h;unfold PySem.W.mroIn PySem.W.clsIn
 split at h
 ·rename_i e
  rw[e];show(if _ then _ else _)=_
  rw[h];rfl
 ·cases h
theorem yZ{K:PySem.W.Frag}{C:Addr}(e:Vx.jK K C=true):PySem.W.typeIn K (.ref C)=some (.type "type")/\(PySem.W.clsIn K C).isSome=true:=by
 unfold Vx.jK at e;simp only[Bool.and_eq_true,beq_iff_eq]at e;obtain⟨⟨⟨⟨⟨e1,e2⟩,e3⟩,e4⟩,e5⟩,e6⟩:=e;obtain⟨cd,gG,_⟩:=Option.bind_eq_some_iff.mp e4;exact⟨e6,by rw[gG];rfl⟩
theorem jB.kit{L:List Str}(Z:jB G L){c d:Str}(hc:c∈L)(hd:d∈L):PySem.W.kitOne G.K (.ref (KF.cls c)) (.ref (KF.cls d))=some (m8 c d):=by
 unfold PySem.W.kitOne
 split
 ·rename_i e
  have e:=Value.ref.inj (beq_iff_eq.mp e);rw[Z.inj c hc d hd e];unfold m8;simp
 ·obtain⟨h1,h2⟩:=yZ (Z.look d hd)
  show(if _ then PySem.W.mroIn G.K (KF.cls c) (.ref (KF.cls d))else none)=_
  rw[if_pos (by rw[h1,h2];rfl)]
  have hm:=Z.mro c hc;rw[y0 hm,<- hm,Z.sub hc hd]
theorem jB.aaR{L:List Str}(Z:jB G L){c:Str}(hc:c∈L):PySem.W.kitOne G.K (.ref (KF.cls c)) (.type "ValueError")=some true:=by
 unfold PySem.W.kitOne;rw[if_neg (by rw[beq_iff_eq];intro z;cases z)]
 show(if PySem.W.kitMeta "ValueError"=true then PySem.W.mroIn G.K (KF.cls c) (.type "ValueError")else none)=_
 rw[if_pos (by decide +kernel),y0 (Z.mro c hc)]
 have:((Value.ref (KF.cls c))::((if c="NearError" then []else [Value.ref (KF.cls "NearError")])++B6)).contains (.type "ValueError")=true:=by
  rw[List.contains_iff_mem];exact .tail _ (List.mem_append_right _ (.head _))
 rw[this]
theorem Pr{K:PySem.W.Frag}{C:Addr}(e:Vx.jK K C=true){d:D}{T:String}(h:JH d=some T):PySem.W.kitOne K (.type T) (.ref C)=some false:=by
 obtain⟨h1,h2⟩:=yZ e;unfold PySem.W.kitOne;rw[if_neg (by rw[beq_iff_eq];intro z;cases z)]
 show(if _ then(fastBuiltinMro T).map (λl:List Value=>l.contains (.ref C))else none)=_
 rw[if_pos (by rw[h1,h2];rfl)]
 cases d<;>cases h<;>rfl
def K0(L:List Str)(u:Str)(d:D)(Q:Bool->Prop):Prop:=match d with
 | .exc c=>c∈L/\Q (m8 c u)
 | d=>(JH d).isSome=true/\Q false
def zR(L:List Str)(u:Str)(t:TV):TB:=λσ Q=>t σ λx ax=>match df ax x with
 | some d=>K0 L u d λb=>Q b ax
 | none=>False
def KZ(L:List Str)(d:D)(Q:Bool->Prop):Prop:=match d with
 | .exc c=>c∈L/\Q true
 | d=>(JH d).isSome=true/\Q false
def FD(L:List Str)(t:TV):TB:=λσ Q=>t σ λx ax=>match df ax x with
 | some d=>KZ L d λb=>Q b ax
 | none=>False
theorem cf.exc{F H:Hp}{v:V}{c:Str}(r:cf F H v (.exc c)):∃a,v=.ref a/\F a=some (xm a c):=by
 cases(show Rep F v (.exc c)from r)with
 | exc h=>exact⟨_,rfl,h⟩
theorem D9{X:Cx}{L:List Str}{w:Value}{fd:D->Bool}(hK:X.K=G.K)(Z:jB G L)(hc:∀c∈L,PySem.W.kitOne X.K (.ref (KF.cls c)) w=some (fd (.exc c)))(hn:∀d T,JH d=some T->PySem.W.kitOne X.K (.type T) w=some (fd d)):
  dW X (.builtin "isinstance") (λvs H Q=>∃F x y d,vs=[x,y]/\(∀u,RelV y u->u=w)/\aw F H/\cf F H x d/\(match d with|.exc c=>c∈L|d=>(JH d).isSome=true)/\Q (.bl (fd d)) H):=by
 intro pins s σ H xs us Q I r q;obtain⟨F,x,y,d,rfl,hy,sm,rx,hd,q⟩:=q;obtain⟨a,b,rfl,ra,rb⟩:=vals2 r;obtain rfl:=hy b rb
 by_cases he:∃c,d=.exc c
 ·obtain⟨c,rfl⟩:=he
  have WO:c∈L:=hd;obtain⟨p,rfl,hF⟩:=rx.exc;cases ra;obtain⟨⟨o,h1,h2⟩,_⟩:=I.bw p _ (sm p _ hF);exact PySem.W.kia_one (Vx.aaS (by rw[hK];exact Z.look c WO)) I.i7 ⟨o,h1,h2⟩ (hc c WO) (λz=>nomatch z) λtk=>⟨.bl _,H,I.tok tk,rfl,q⟩
 ·have yM:(JH d).isSome=true:=by
   cases d<;>first|exact hd|exact absurd ⟨_,rfl⟩ he
  obtain⟨T,et⟩:=Option.isSome_iff_exists.mp yM;exact Aw I ra (rx.ty sm X.K et) (hn d T et) λtk=>⟨.bl _,H,I.tok tk,rfl,q⟩
theorem Fe{e:Expr}{t:TV}{u:Str}{L:List Str}{p p2 pos:Pos}(h:EO G k S e t)(Z:jB G L)(hu:u∈L)(hm:G.mg "isinstance"=none)(hd2:(u==("__debug__":Str))=false:=by decide)
  (hg:S.sc.lookup ("isinstance":Str)=some .globalImplicit:=by rfl) (ZO:S.sc.lookup u=some .globalImplicit:=by rfl)
  (he:∀env,starEach [e,.Name u p2] env=(false,eval e env)::starEach [.Name u p2] env:=by intro _;rfl):EO G k S (.Call (.Name "isinstance" p) [e,.Name u p2] [] pos) (bV (zR L u t)):=.mk λX Y ok=>by
 have ha:PA X [e,.Name u p2] (jc (lO Y t) (jc (tC (.ref (KF.cls u))) pT)):=cV (h X Y ok) (cV (zk (dZ ok ZO) (by rw[ok.mg];exact(Z.cls u hu).mg) (show RelV (.ref (KF.cls u)) (.ref (KF.cls u))from rfl) hd2) g0 rfl) (he _)
 have hc:=D9 (X:=X) (L:=L) (w:=.ref (KF.cls u)) (fd:=λd=>match d with|.exc c=>m8 c u|_=>false) ok.K Z (λc hc=>by rw[ok.K];exact Z.kit hc hu) (λd T e=>by
  rw[ok.K,Pr (Z.look u hu) e];cases d<;>first|rfl|cases e)
 refine a7 (oU hc (dZ ok hg) (by rw[ok.mg];exact hm) (by decide +kernel) ha ∅ ∅ (he _) rfl) λσ H Q q=>?_
 obtain⟨F,ai,Qd,R,q,K⟩:=q;refine⟨F,ai,_,R,q,λv1 H1 F1 x ax s1 R1 r1 q1=>?_⟩
 split at q1
 ·rename_i d ed
  refine⟨F1,v1,_,d,rfl,λu e=>e,R1.fr,R1.df r1 ed,?_,?_⟩
  ·cases d<;>exact q1.1
  ·refine K _ H1 F1 (.val (.bl _)) ax s1 R1 (.bl _) ?_
   cases d<;>exact q1.2
 ·exact q1.elim
theorem Pq:rm "ValueError":=λK=>⟨by rfl,by rfl,by rfl,by rfl,by rfl,by rfl⟩
theorem RY{e:Expr}{t:TV}{L:List Str}{p p2 pos:Pos}(h:EO G k S e t)(Z:jB G L)(hm:G.mg "isinstance"=none)(nj:G.mg "ValueError"=none)
  (hg:S.sc.lookup ("isinstance":Str)=some .globalImplicit:=by rfl) (ZO:S.sc.lookup ("ValueError":Str)=some .globalImplicit:=by rfl)
  (he:∀env,starEach [e,.Name "ValueError" p2] env=(false,eval e env)::starEach [.Name "ValueError" p2] env:=by intro _;rfl):EO G k S (.Call (.Name "isinstance" p) [e,.Name "ValueError" p2] [] pos) (bV (FD L t)):=.mk λX Y ok=>by
 have ha:PA X [e,.Name "ValueError" p2] (jc (lO Y t) (jc (tC (.ty "ValueError")) pT)):=cV (h X Y ok) (cV (IL (dZ ok ZO) (by rw[ok.mg];exact nj) (by decide +kernel) (show RelV (.ty "ValueError") (.type "ValueError")from rfl) ∅ ∅) g0 rfl) (he _)
 have hc:=D9 (X:=X) (L:=L) (w:=.type "ValueError") (fd:=λd=>match d with|.exc c=>true|_=>false) ok.K Z (λc hc=>by rw[ok.K];exact Z.aaR hc) (λd T e=>by
  rw[Pq.of X.K e];cases d<;>cases e<;>rfl)
 refine a7 (oU hc (dZ ok hg) (by rw[ok.mg];exact hm) (by decide +kernel) ha ∅ ∅ (he _) rfl) λσ H Q q=>?_
 obtain⟨F,ai,Qd,R,q,K⟩:=q;refine⟨F,ai,_,R,q,λv1 H1 F1 x ax s1 R1 r1 q1=>?_⟩
 split at q1
 ·rename_i d ed
  refine⟨F1,v1,_,d,rfl,λu e=>e,R1.fr,R1.df r1 ed,?_,?_⟩
  ·cases d<;>exact q1.1
  ·refine K _ H1 F1 (.val (.bl _)) ax s1 R1 (.bl _) ?_
   cases d<;>exact q1.2
 ·exact q1.elim
end Vc
namespace Vc
theorem Hd{α β:Type}{f:α->β}{cs:List α}{as:List β}(h:cs.map f=as)(nd:as.Nodup){c d:α}(hc:c∈cs)(hd:d∈cs)(e:f c=f d):c=d:=by
 subst h
 induction cs with
 | nil=>cases hc
 | cons x r ih =>
  rw[List.map_cons,List.nodup_cons]at nd;rcases List.mem_cons.mp hc with rfl|HE
  ·rcases List.mem_cons.mp hd with rfl|yM
   ·rfl
   ·exact absurd (e ▸ List.mem_map_of_mem yM) nd.1
  ·rcases List.mem_cons.mp hd with rfl|yM
   ·exact absurd (e ▸ List.mem_map_of_mem HE) nd.1
   ·exact ih HE yM nd.2
end Vc
namespace Vc
open PySem L2
variable [KF]
variable {G:GE}{k:Nat}{S:Stat}
theorem kM{sts:List Stmt}:c9 G k S sts ml:=.mk λX Y ok pins s σ H D I q=>by
 obtain⟨F,ai,De,R,q,K⟩:=q;exact q.elim
end Vc
set_option maxHeartbeats 0
namespace Vc
open PySem PySem.W
@[elab_as_elim] theorem abv{α:Type} {P:List α->Prop} (h:∀a,P [a]):∀us:List α,us.length=1->P us
 | [a],_=>h a
@[elab_as_elim] theorem abw{α:Type} {P:List α->Prop} (h:∀a b,P [a,b]):∀us:List α,us.length=2->P us
 | [a,b],_=>h a b
@[elab_as_elim] theorem abx{α:Type} {P:List α->Prop} (h:∀a b c,P [a,b,c]):∀us:List α,us.length=3->P us
 | [a,b,c],_=>h a b c
@[elab_as_elim] theorem aby{α:Type} {P:List α->Prop} (h:∀a b c d,P [a,b,c,d]):∀us:List α,us.length=4->P us
 | [a,b,c,d],_=>h a b c d
@[elab_as_elim] theorem abz{α:Type} {P:List α->Prop} (h:∀a b c d e,P [a,b,c,d,e]):∀us:List α,us.length=5->P us
 | [a,b,c,d,e],_=>h a b c d e
theorem Uh{q:Program}{loose:List Str}{XP:(Str->Option Value)->Heap->Prop}{K:Params->Frag}{as:List Addr}{n t:Nat}{r:RowW}{d:DefRec}{kwd:List (Str×Expr)}{run:Value->List Value->Sem Value}
  (e:∀P,as=(K P).map (·.1)) (h:WalkO q loose XP (λw h=>(K w.params).In h) r d kwd run):WalkX q loose XP (X.obsZ as) (X.valZ K n t) r d kwd run:=
 λw bR bN mg mb G y a o pm cd doc dV kV ho hd gG hD hmg hg args vals as' L As W3 ZR Xe yR =>
  h w bR bN mg mb G (InK.keeps w _ _ (X.z_facts e y).2.1 L.keeps) a o pm cd doc dV kV ho hd gG hD hmg hg args vals as' As W3 ZR Xe yR
end Vc
namespace Vc
open PySem L2
variable [KF]
variable {G:GE}{k:Nat}{S:Stat}
theorem RS.gY{Y:bP}{F:Hp}{ai:Sd}{σ:St}{H:Hp}{i:Nat}{o o':O}{a c:Addr}{u:HO}(R:RS Y F ai σ H)(e:ai[i]?=some (some (.obj o)))(h:σ[i]?=some (some (.ref a)))(hc:c∈o.fp a)(DY:∀b,b∈o'.fp a->b∈o.fp a)
  (hr:o'.rep F (upd H c u) a):RS Y F (ai.set i (some (.obj o'))) σ (upd H c u):=by
 obtain⟨a',w1,w2,w3⟩:=R.ob.obj i o e;rw[h]at w1;cases w1;have ow:∀b∈o.fp a,gM ai σ b:=λb hb=>⟨i,o,a,e,h,hb⟩;have hl:i<ai.length:=(List.getElem?_eq_some_iff.mp e).1;have up:∀ {b:Addr},H b≠none->(upd H c u) b≠none:=λ{b} hb=>by
  by_cases z:b=c
  ·rw[z,az];exactλy=>nomatch y
  ·rw[aq z];exact hb
 refine⟨by simpa using R.len,R.lo,λb q z=>?_,R.fW,λb q z n=>?_,λj d z=>?_,λj xs z=>?_,λj l xs ys b z1 z2 z3 z4=>?_,λp hp=>?_,⟨λj p z=>?_,λj l p p2 b d z1 z2 z3 z4 dk x hx um=>?_,λj ys b z1 z2 ⟨l,p,d,z3,z4,hm⟩=>?_,λb hb=>up (R.ob.there b hb),R.ob.Gf,R.ob.tab⟩⟩
 ·have:b≠c:=λy=>by rw[y,(w3 c hc).1]at z;cases z
  rw[aq this];exact R.fr b q z
 ·have:b≠c:=λy=>by
   subst y;rcases(w3 b hc).2.2 with y|y
   ·rw[y]at z;cases z
   ·exact n (List.mem_append_right _ y)
  rw[aq this];exact R.old b q z n
 ·rcases gs z with⟨_,y⟩|⟨_,z⟩
  ·cases y
  ·exact R.sh j d z
 ·rcases gs z with⟨_,y⟩|⟨_,z⟩
  ·cases y
  ·obtain⟨b,vs,y1,y2,y3⟩:=R.own j xs z
   have:b≠c:=λy=>R.ob.gP j xs b z y1 (y ▸ ow c hc);exact⟨b,vs,y1,by rw[aq this];exact y2,y3⟩
 ·rcases gs z1 with⟨_,y⟩|⟨_,z1⟩
  ·cases y
  rcases gs z2 with⟨_,y⟩|⟨_,z2⟩
  ·cases y
  exact R.dis j l xs ys b z1 z2 z3 z4
 ·obtain⟨y1,xs,y2⟩:=R.io p hp
  have:p.1≠i:=λy=>by rw[y,e]at y2;cases y2
  exact⟨y1,xs,by rw[bH this];exact y2⟩
 ·rcases gs z with⟨rfl,y⟩|⟨hj,z⟩
  ·cases y
   exact⟨a,h,hr,λb hb=>⟨(w3 b (DY b hb)).1,up (w3 b (DY b hb)).2.1,(w3 b (DY b hb)).2.2⟩⟩
  ·obtain⟨b,y1,y2,y3⟩:=R.ob.obj j p z
   refine⟨b,y1,p.mono (aw.refl _) (λd hd=>?_) y2,λd hd=>⟨(y3 d hd).1,up (y3 d hd).2.1,(y3 d hd).2.2⟩⟩;exact aq λy=>R.ob.nQ i j o p a b e z h y1 (Ne.symm hj) c hc (y ▸ hd)
 ·rcases gs z1 with⟨e1,y⟩|⟨hj,y1⟩
  ·cases y
   subst e1;rw[h]at z3;cases z3;rcases gs z2 with⟨e2,_⟩|⟨Oo,y2⟩
   ·exact dk e2.symm
   ·exact R.ob.nQ j l o p2 a d e y2 h z4 dk x (DY x hx) um
  ·rcases gs z2 with⟨e2,y⟩|⟨Oo,y2⟩
   ·cases y
    subst e2;rw[h]at z4;cases z4;exact R.ob.nQ j l p o b a y1 e z3 h dk x hx (DY x um)
   ·exact R.ob.nQ j l p p2 b d y1 y2 z3 z4 dk x hx um
 ·rcases gs z1 with⟨_,y⟩|⟨_,y1⟩
  ·cases y
  rcases gs z3 with⟨e3,y⟩|⟨_,y3⟩
  ·cases y
   subst e3;rw[h]at z4;cases z4;exact R.ob.gP j ys b y1 z2 (ow b (DY b hm))
  ·exact R.ob.gP j ys b y1 z2 ⟨l,p,d,y3,z4,hm⟩
def JC(i:Nat):TV:=λσ Q=>(∃o,σ[i]?=some (some (.obj o)))/\Q (.var i) σ
theorem vU(i:Nat){x:Str}{pos:Pos}(hN:S.N[i]?=some x:=by rfl)(hv:S.sc.lookup x=some .local\/S.sc.lookup x=some .cell\/S.sc.lookup x=some .free:=by first|exact Or.inl rfl|exact Or.inr (Or.inl rfl)|exact Or.inr (Or.inr rfl))
  (hd:(x==("__debug__":Str))=false:=by decide) (gG:(x==("__classdict__":Str))=false:=by decide):EO G k S (.Name x pos) (JC i):=.mk λX Y ok =>
 a7 (g9 (X:=X) (i:=i) (by rw[ok.N];exact hN) (by unfold GI;rw[ok.sc];exact hv) hd gG) λσ H Q q=>by
  obtain⟨F,ai,Qd,R,⟨⟨o,e⟩,q⟩,K⟩:=q;obtain⟨a,w1,_⟩:=R.ob.obj i o e;exact⟨.ref a,w1,K _ H F (.var i) ai (aw.refl _) R w1 q⟩
def E8(neg:Bool):R2:=λy x H Q=>∃a o,x=.ref a/\rj H a y o/\Q (.bl (if neg then !o.isSome else o.isSome)) H
theorem AW{X:Cx}(hu:X.A.units+1<cLine):iR X (compareOp .NotIn) (E8 true):=by
 intro pins s σ H x y v u Q I rx ry h;obtain⟨a,o,rfl,g,q⟩:=h;cases ry;exact Hh hu I g rx λs' I'=>⟨.bl (!o.isSome),H,I',rfl,q⟩
end Vc
namespace Vc
open PySem PyProof.Rows
section
variable {prog:Program}{w:World}{A:Around}{R:Result->Shared->Prop}
def Kp(h g:Heap):Prop:=∀b o,h.get? b=some o->g.get? b=some o
end
end Vc
namespace Vc
open PySem PySem.W L2
section
variable {P:Addr}{K:Frag}(hP:K.lookup P=some (tabObj #[]))
include hP
end
end Vc
namespace Vc
open PySem L2
variable [KF]
theorem RS.PF{Y:bP}{F:Hp}{ai:Sd}{σ:St}{H H':Hp}{i:Nat}{o o':O}{a:Addr}(R:RS Y F ai σ H)(e:ai[i]?=some (some (.obj o)))(h:σ[i]?=some (some (.ref a)))
  (keep:∀b,b∉o.fp a->H b≠none->H' b=H b) (live:∀b,H b≠none->H' b≠none) (DY:∀b∈o'.fp a,b∈o.fp a\/H b=none) (hn:∀b∈o'.fp a,H' b≠none)
  (hr:o'.rep F H' a):RS Y F (ai.set i (some (.obj o'))) σ H':=by
 obtain⟨a',w1,w2,w3⟩:=R.ob.obj i o e;rw[h]at w1;cases w1;have ow:∀b∈o.fp a,gM ai σ b:=λb hb=>⟨i,o,a,e,h,hb⟩;have hl:i<ai.length:=(List.getElem?_eq_some_iff.mp e).1;refine⟨by simpa using R.len,R.lo,λb q z=>?_,R.fW,λb q z n=>?_,λj d z=>?_,λj xs z=>?_,λj l xs ys b z1 z2 z3 z4=>?_,λp hp=>?_,⟨λj p z=>?_,λj l p p2 b d z1 z2 z3 z4 dk x hx um=>?_,λj ys b z1 z2 ⟨l,p,d,z3,z4,hm⟩=>?_,λb hb=>live b (R.ob.there b hb),R.ob.Gf,R.ob.tab⟩⟩
 ·have hb:b∉o.fp a:=λy=>by rw[(w3 b y).1]at z;cases z
  have:=R.fr b q z;rw[keep b hb (by rw[this];exactλy=>nomatch y)];exact this
 ·have hb:b∉o.fp a:=λy=>by
   rcases(w3 b y).2.2 with y|y
   ·rw[y]at z;cases z
   ·exact n (List.mem_append_right _ y)
  have:=R.old b q z n;rw[keep b hb (by rw[this];exactλy=>nomatch y)];exact this
 ·rcases gs z with⟨_,y⟩|⟨_,z⟩
  ·cases y
  ·exact R.sh j d z
 ·rcases gs z with⟨_,y⟩|⟨_,z⟩
  ·cases y
  ·obtain⟨b,vs,y1,y2,y3⟩:=R.own j xs z
   have hb:b∉o.fp a:=λy=>R.ob.gP j xs b z y1 (ow b y);exact⟨b,vs,y1,by rw[keep b hb (by rw[y2];exactλy=>nomatch y)];exact y2,y3⟩
 ·rcases gs z1 with⟨_,y⟩|⟨_,z1⟩
  ·cases y
  rcases gs z2 with⟨_,y⟩|⟨_,z2⟩
  ·cases y
  exact R.dis j l xs ys b z1 z2 z3 z4
 ·obtain⟨y1,xs,y2⟩:=R.io p hp
  have:p.1≠i:=λy=>by rw[y,e]at y2;cases y2
  exact⟨y1,xs,by rw[bH this];exact y2⟩
 ·rcases gs z with⟨rfl,y⟩|⟨hj,z⟩
  ·cases y
   refine⟨a,h,hr,λb hb=>?_⟩;rcases DY b hb with y|y
   ·exact⟨(w3 b y).1,hn b hb,(w3 b y).2.2⟩
   ·exact⟨same_none R.fr y,hn b hb,.inl (R.bX y).1⟩
  ·obtain⟨b,y1,y2,y3⟩:=R.ob.obj j p z
   have kp:∀d∈p.fp b,H' d=H d:=λd hd=>keep d (λy=>R.ob.nQ i j o p a b e z h y1 (Ne.symm hj) d y hd) (y3 d hd).2.1;exact⟨b,y1,p.mono (aw.refl _) kp y2,λd hd=>⟨(y3 d hd).1,live d (y3 d hd).2.1,(y3 d hd).2.2⟩⟩
 ·rcases gs z1 with⟨e1,y⟩|⟨hj,y1⟩
  ·cases y
   subst e1;rw[h]at z3;cases z3;rcases gs z2 with⟨e2,_⟩|⟨Oo,y2⟩
   ·exact dk e2.symm
   ·rcases DY x hx with y|y
    ·exact R.ob.nQ j l o p2 a d e y2 h z4 dk x y um
    ·exact(R.ob.owned ⟨l,p2,d,y2,z4,um⟩).2.1 y
  ·rcases gs z2 with⟨e2,y⟩|⟨Oo,y2⟩
   ·cases y
    subst e2;rw[h]at z4;cases z4;rcases DY x um with y|y
    ·exact R.ob.nQ j l p o b a y1 e z3 h dk x hx y
    ·exact(R.ob.owned ⟨j,p,b,y1,z3,hx⟩).2.1 y
   ·exact R.ob.nQ j l p p2 b d y1 y2 z3 z4 dk x hx um
 ·rcases gs z1 with⟨_,y⟩|⟨_,y1⟩
  ·cases y
  rcases gs z3 with⟨e3,y⟩|⟨_,y3⟩
  ·cases y
   subst e3;rw[h]at z4;cases z4;rcases DY b hm with y|y
   ·exact R.ob.gP j ys b y1 z2 (ow b y)
   ·obtain⟨c,vs,u1,u2,_⟩:=R.own j ys y1
    rw[z2]at u1;cases u1;rw[y]at u2;cases u2
  ·exact R.ob.gP j ys b y1 z2 ⟨l,p,d,y3,z4,hm⟩
end Vc
set_option maxHeartbeats 400000
set_option maxHeartbeats 400000
namespace Vc
open PySem L2
section
variable {prog:Program}{w:World}{A:Around}{E:Value->Shared->Prop}{s:Shared}{d it:Addr}{en:Array DictEntry}{c i:Nat}
def GD(h:Heap)(d:Addr)(en:Array DictEntry)(c:Nat):Prop:=∃ob,h.get? d=some ob/\ob.ExactDict/\ob.data=.dict en c
theorem GD.ty(h:GD s.heap d en c):s.TypeIs (.ref d) "dict":=let ⟨ob,e,x,_⟩:=h;⟨ob,e,x.1⟩
theorem Hm{Q:Value->Shared->Prop}(lo:(d==sysModules)=false)(m:GD s.heap d en c)
  (q:Q (.ref s.heap.objs.size) {s with heap:=s.heap.push {cls:=.type "dict_keyiterator",data:=.fields #[.ref d,.int 0 0,.int en.size 0,.int c 0]}}):wpAny (model prog w) A (pyIter (.ref d)) Q E s:=by
 obtain⟨ob,e1,e2,e3⟩:=id m;refine wpAny_pyIter_slot m.ty F.slot_dict_iter (wpAny_call_entry F.slot_dict_iter m.ty F.entry_dict_iter ?_ (F.args_dict_iter_1 _));unfold Builtin.«dict.__iter__» Builtin.Dict.dictSlotNone;refine wpAny_bind (wpAny_bind (wpAny_notOrdered_dict m.ty ?_));show wpAny _ _ (pure (Value.ref d)) _ _ _;refine wpAny_pure ?_;show wpAny _ _ (Builtin.Dict.showsAll d >>= _) _ _ _;unfold Builtin.Dict.showsAll;rw[lo,if_neg Bool.false_ne_true];refine wpAny_bind (wpAny_pure (wpAny_bind (wpAny_dictEntries e1 e3 (wpAny_bind (wpAny_dictEpoch e1 e3 (wpAny_bind (wpAny_newObj_type (wpAny_pure ⟨_,rfl,"dict_keyiterator",_,⟨_,Heap.get?_push_size _ rfl,rfl⟩,F.slot_dict_keyiterator_next.lookup,?_⟩))))))));simpa [rawInt]using q
theorem Hn{e:DictEntry}{Q:Option Value->Shared->Prop}(t:s.heap.IsKeyIter it d i en.size c)(m:GD s.heap d en c)(x:en[i]?=some e)
  (q:∀h',h'.IsKeyIter it d (i+1) en.size c->Heap.SameBut it s.heap h'->Q (some e.key) {s with heap:=h'}):wpAny (model prog w) A (pyNext (.ref it)) Q E s:=by
 obtain⟨o1,t1,t2,t3⟩:=id t;obtain⟨ob,e1,e2,e3⟩:=id m;unfold pyNext;refine wpAny_bind (wpAny_attempt (wpAny_callSpecial?_slot (name:=Str.ofString "__next__") t.typeIs F.slot_dict_keyiterator_next (wpAny_call_entry F.slot_dict_keyiterator_next t.typeIs F.entry_dict_keyiterator_next ?_ (F.args_dict_keyiterator_next_1 _))));refine wpAny_bind (wpAny_pure (wpAny_bind (wpAny_bind ?_)))
 first|refine wpAny_bind (wpAny_typeNameOfWhole_keyiter t.typeIs (wpAny_pure ?_))|refine wpAny_bind (wpAny_typeNameOf_keyiter t.typeIs (wpAny_pure ?_))
 refine wpAny_bind (wpAny_fieldsOf t1 t3 ?_);rw[show Builtin.Dict_items.ownsTuple "dict_keyiterator"=false by decide,if_neg Bool.false_ne_true]
 show wpAny _ _ (if(Value.ref d==Value.none)=true then _ else _) _ _ s
 rw[if_neg (show¬((Value.ref d==Value.none)=true)from Bool.false_ne_true)]
 refine wpAny_bind (wpAny_pure (wpAny_bind (wpAny_dictEntries e1 e3 ?_)));rw[if_neg (by simp)]
 refine wpAny_bind (wpAny_pure (wpAny_bind (wpAny_dictEpoch e1 e3 ?_)));rw[if_neg (by simp)]
 refine wpAny_pure ?_;simp only[show¬((i:Int)<0)from by omega,if_false,Int.toNat_natCast,x]
 refine wpAny_bind ?_
 first|refine wpAny_bind (wpAny_typeNameOfWhole_keyiter t.typeIs (wpAny_pure ?_))|refine wpAny_bind (wpAny_typeNameOf_keyiter t.typeIs (wpAny_pure ?_))
 refine wpAny_bind (wpAny_isOneOf_keyiter t.typeIs ?_);show wpAny _ _ (setField (.ref it) 1 (rawInt ((i:Int)+1)) >>= _) _ _ s;refine wpAny_bind (wpAny_setField t1 t3 (by simp) ?_)
 have t':(s.heap.update it (Obj.mapFields (·.setIfInBounds 1 (rawInt ((i:Int)+1))))).IsKeyIter it d (i+1) en.size c:=
  ⟨_,Heap.get?_update_self _ t1 (Obj.isFreed_of_fields (Obj.data_mapFields t3 _)),(Obj.cls_mapFields ..).trans t2,by rw[Obj.data_mapFields t3];simp [rawInt]⟩
 refine wpAny_bind (wpAny_holding (wpAny_bind (wpAny_isOneOf_keyiter (s:={s with heap:=s.heap.update it (Obj.mapFields (·.setIfInBounds 1 (rawInt ((i:Int)+1))))}) t'.typeIs ?_)))
 show wpAny _ _ (pure e.key) _ _ _;exact wpAny_pure (wpAny_pure ⟨_,rfl,wpAny_pure (q _ t' (Heap.SameBut.update ..))⟩)
theorem MZ{Q:Option Value->Shared->Prop}(hh:A.handled=none)(t:s.heap.IsKeyIter it d i en.size c)(m:GD s.heap d en c)(x:en.size<=i)
  (q:∀h',Heap.ExtBut it s.heap h'->Q none {s with heap:=h'}):wpAny (model prog w) A (pyNext (.ref it)) Q E s:=by
 obtain⟨o1,t1,t2,t3⟩:=id t;obtain⟨ob,e1,e2,e3⟩:=id m;unfold pyNext;refine wpAny_bind (wpAny_attempt (wpAny_callSpecial?_slot (name:=Str.ofString "__next__") t.typeIs F.slot_dict_keyiterator_next (wpAny_call_entry F.slot_dict_keyiterator_next t.typeIs F.entry_dict_keyiterator_next ?_ (F.args_dict_keyiterator_next_1 _))));refine wpAny_bind (wpAny_pure (wpAny_bind (wpAny_bind ?_)))
 first|refine wpAny_bind (wpAny_typeNameOfWhole_keyiter t.typeIs (wpAny_pure ?_))|refine wpAny_bind (wpAny_typeNameOf_keyiter t.typeIs (wpAny_pure ?_))
 refine wpAny_bind (wpAny_fieldsOf t1 t3 ?_);rw[show Builtin.Dict_items.ownsTuple "dict_keyiterator"=false by decide,if_neg Bool.false_ne_true]
 show wpAny _ _ (if(Value.ref d==Value.none)=true then _ else _) _ _ s
 rw[if_neg (show¬((Value.ref d==Value.none)=true)from Bool.false_ne_true)]
 refine wpAny_bind (wpAny_pure (wpAny_bind (wpAny_dictEntries e1 e3 ?_)));rw[if_neg (by simp)]
 refine wpAny_bind (wpAny_pure (wpAny_bind (wpAny_dictEpoch e1 e3 ?_)));rw[if_neg (by simp)]
 refine wpAny_pure ?_;simp only[show¬((i:Int)<0)from by omega,if_false,Int.toNat_natCast,Array.getElem?_eq_none x]
 refine wpAny_bind ?_
 first|refine wpAny_bind (wpAny_typeNameOfWhole_keyiter t.typeIs (wpAny_pure ?_))|refine wpAny_bind (wpAny_typeNameOf_keyiter t.typeIs (wpAny_pure ?_))
 show wpAny _ _ (setField (.ref it) 0 .none >>= _) _ _ s;refine wpAny_bind (wpAny_setField t1 t3 (by simp) ?_)
 show wpAny _ _ (newExc (.type "StopIteration") [] >>= _) _ _ _;refine wpAny_bind ?_;simp only[newExc,newTuple];refine wpAny_bind (wpAny_newObj_type ?_ (by size_fits))
 refine wpAny_bind (m:=firstArgMember _ _) (wpAny_of_eq (a:=Value.none) (by first|rfl | (simp only[firstArgMember];rfl)) (wpAny_newObj_type ?_ (by size_fits)))
 simp only[raiseNew];refine wpAny_bind (wpAny_handled ?_);rw[show A.in1.handled=none from hh]
 refine wpAny_bind (wpAny_pure (wpAny_throw ?_));refine wpAny_bind (wpAny_isInstance (T:="StopIteration") (b:=true) ⟨_,Heap.get?_push_size _ rfl,rfl⟩ isSubtype_stop ?_);exact wpAny_pure (q _ (((Heap.SameBut.update ..).extBut.push _).push _))
theorem GD.at{h h':Heap}(x:GD h d en c)(e:∀o,h.get? d=some o->h'.get? d=some o):GD h' d en c:=let ⟨o,a,r⟩:=x;⟨o,e _ a,r⟩
theorem C7(hh:A.handled=none)(I d:Addr)(ne:d≠I)(en:Array DictEntry)(c:Nat):
  Walks prog w A I [I,d] [I] en.size (λi v=>∃e,en[i]?=some e/\v=e.key) (λi h=>h.IsKeyIter I d i en.size c/\GD h d en c) where
 sub:=λb hb=>List.mem_cons.mpr (.inl (List.mem_singleton.mp hb))
 frame:=λ_ _ _ st kp=>⟨st.1.at λo e=>kp I (.head _) o e,st.2.at λo e=>kp d (.tail _ (.head _)) o e⟩
 item:=λi s Q E hi st q=>by
  have x:en[i]?=some en[i]:=Array.getElem?_eq_getElem hi;refine Hn st.1 st.2 x λh' t' sb=>q _ h' s.toks ⟨_,x,rfl⟩ ⟨t',st.2.at λo e=>(sb.2 d ne).trans e⟩ λb o hb e=>(sb.2 b λy=>hb (List.mem_singleton.mpr y)).trans e
 done:=λs Q E st q=>MZ hh st.1 st.2 (Nat.le_refl _) λh' ex=>q h' s.toks λb o hb e=>ex b o (λy=>hb (List.mem_singleton.mpr y)) e
 self:=λ_ _ _ _ st q=>wpAny_pyIter_keyiter st.1 q
theorem M0(lo:(d==sysModules)=false):PySem.W.KdlSrc prog w "dict" d d en.size (λi v=>∃e,en[i]?=some e/\v=e.key) (λh=>GD h d en c) where
 type:=λ_ m=>m.ty
 there:=λ_ m=>let ⟨_,e,_⟩:=m;⟨Heap.lt_size e,Heap.lt_size e⟩
 keep:=λ_ _ m kp=>m.at λo e=>kp d (.inl rfl) o e
 notList:=by decide
 notTuple:=by decide
 hint:=λ_ _ _ _ m q=>PySem.W.kdl_hint_dict m.ty q
 iter:=λ_ s hh m=>⟨_,_,(λ_ _ q=>Hm lo m q),C7 hh _ d (let ⟨_,e,_⟩:=m;Nat.ne_of_lt (Heap.lt_size e)) en c,⟨⟨_,Heap.get?_push_size _ rfl,rfl,rfl⟩,m.at λo e=>Heap.get?_push_of_some _ e⟩⟩
end
end Vc
namespace Vs
open PySem PySem.Calls PyProof.Rows PyProof.V PySem.Spec
section
variable {prog:Program}{w:World}{A:Around}{E:Value->Shared->Prop}{s:Shared}
theorem xZ{T:String}{r d:Addr}{n:Nat}{P:Nat->Value->Prop}{OK:Heap->Prop}{vs:List Value}{kd:SortKind}{ρ:Keyed->Nat}{P':Keyed->Prop}{Q:Value->Shared->Prop}(K:PySem.W.KdlSrc prog w T r d n P OK)(hh:A.handled=none)(ok:OK s.heap)(hn:n<=sizeLine)
  (hv:∀acc:Array Value,ItemsOf P acc n->acc.toList=vs) (hz:vs.length<=sizeLine) (h0:∀p∈(pairsOf vs).toList,P' p)
  (hk:2<=vs.length->∀(A':Around) (E':Value->Shared->Prop) (g:Heap) (t:Nat),(∀b o,s.heap.get? b=some o->g.get? b=some o)->(∀Q:SortKind->Shared->Prop,Q kd {s with heap:=g,toks:=t}->wpAny (model prog w) A' (keyKind' vs.toArray) Q E' {s with heap:=g,toks:=t})/\gF (model prog w) A' E' {s with heap:=g,toks:=t} ρ kd P')
  (h:∀(xs:Array Keyed) (h1 g:Heap) (c t:Nat),xs.Perm (pairsOf vs)->Seg ρ xs 0 vs.length->(∀b o,s.heap.get? b=some o->h1.get? b=some o)->(∀b o,h1.get? b=some o->g.get? b=some o)->g.get? h1.objs.size=some (seqObj "list" (xs.map (·.2)) c)->Q (.ref h1.objs.size) {s with heap:=g,toks:=t}):
  wpAny (model prog w) A (call (.builtin "sorted") [.ref r]) Q E s:=by
 refine Calls.call_function_entry kind_sorted plain_sorted entry_sorted (args_sorted1 _) ?_;unfold Builtin.«sorted»;refine wpAny_bind (m:=checkCount "sorted" 1 1 _) (wpAny_pure (wpAny_bind (PySem.W.kdu_collect (A:=A.in1) K hh ok hn λh1 t acc k1 items=>?_)));rw[hv acc items];refine wpAny_bind (wpAny_newList ?_ hz);have KW:(h1.push (seqObj "list" vs.toArray 0)).get? h1.objs.size=some (seqObj "list" vs.toArray 0):=Heap.get?_push_size _ rfl;have keep:∀b o,h1.get? b=some o->(h1.push (seqObj "list" vs.toArray 0)).get? b=some o:=λb o e=>Heap.get?_push_of_some _ e;have ne:∀b o,h1.get? b=some o->b≠h1.objs.size:=λb o e=>Nat.ne_of_lt (Heap.lt_size e);show wpAny _ _ _ _ _ {s with heap:=h1.push (seqObj "list" vs.toArray 0),toks:=t}
 refine wpAny_bind (wpAny_holding (wpAny_call_entry slot_list_sort ⟨_,KW,rfl⟩ entry_list_sort (i9 (s:={s with heap:=h1.push (seqObj "list" vs.toArray 0),toks:=t}) (kd:=kd) (ρ:=ρ) (P:=P') KW hz h0 (λh2 g kg=>hk h2 _ _ g t λb o e=>kg b o (ne b o (k1 b o e)) (keep b o (k1 b o e))) λxs g c a1 a2 a3 a4=>⟨_,rfl,?_⟩) (args_list_sort _)))
 exact wpAny_pure ⟨_,rfl,h xs h1 g c t a1 a2 k1 (λb o e=>a3 b o (ne b o e) (keep b o e)) a4⟩
end
end Vs
namespace Vc
open PySem L2
section
variable {prog:Program}{w:World}{A:Around}{E:Value->Shared->Prop}{s:Shared}
open PySem.Spec in
theorem o8{nm:String}{a b:Addr}{oa ob:Obj}{es:Array DictEntry}{ep Nx:Nat}{Q:Bool->Shared->Prop}(ha:(a==sysModules)=false)(hb:(b==sysModules)=false)
  (UB:s.heap.get? a=some oa) (Uu:oa.data=.dict es ep) (HJ:s.heap.get? b=some ob) (lA:ob.data=.dict #[] Nx) (h:Q (decide (es.size=0)) s):
  wpAny (model prog w) A (Builtin.Dict.samePairs nm a b) Q E s:=by
 unfold Builtin.Dict.samePairs Builtin.Dict.showsAll;rw[if_neg (show¬(a==sysModules)=true by rw[ha];exact Bool.false_ne_true),if_neg (show¬(b==sysModules)=true by rw[hb];exact Bool.false_ne_true)]
 refine wpAny_bind (wpAny_pure (wpAny_bind (wpAny_pure ?_)));refine wpAny_bind (wpAny_dictEntries UB Uu ?_);dsimp only;refine wpAny_bind (wpAny_dictEntries HJ lA ?_)
 by_cases hsz:es.size=0
 case neg =>
  rw[if_pos (by simpa using hsz)]
  rw[decide_eq_false hsz]at h;exact wpAny_bind (wpAny_rule (wpAny_pure h))
 case pos =>
  rw[if_neg (by simpa using hsz)]
  rw[decide_eq_true hsz]at h;refine wpAny_bind (wpAny_dictEpoch UB Uu ?_);rw[Std.Legacy.Range.forIn_eq_forIn_range'];simp only[Std.Legacy.Range.size,Nat.sub_zero,Nat.add_sub_cancel,Nat.div_one,hsz,List.range'_zero,List.forIn_nil];exact wpAny_bind (wpAny_pure (wpAny_pure h))
theorem eqE{K:Type}[DecidableEq K]{knd:PySem.KeyKind prog w K}{a b:Addr}{vs ws:List (K×Value)}{Q:Value->Shared->Prop}(hu:A.units<cLine)(ha:(a==sysModules)=false)(hb:(b==sysModules)=false)
  (da:s.heap.DictOf knd a vs) (db:s.heap.DictOf knd b ws) (hw:ws=[]) (h:Q (.bool (decide (vs=[]))) s):
  wpAny (model prog w) A (compareOp .Eq (.ref a) (.ref b)) Q E s:=by
 subst hw;refine wpAny_richCompare_same_room (op:=.Eq) da.typeIs db.typeIs PySem.F.slot_dict_eq (wpAny_call_entry PySem.F.slot_dict_eq da.typeIs PySem.F.entry_dict_eq ?_ (PySem.F.args_dict_eq_2 _ _)) hu;show wpAny _ _ (Builtin.Dict.dictSlotArgs "__eq__" ⟨[.ref a,.ref b],[]⟩ >>= _) _ _ s;refine wpAny_bind ?_;unfold Builtin.Dict.dictSlotArgs;refine wpAny_bind (wpAny_notOrdered_dict da.typeIs ?_);show wpAny _ _ (pure (Value.ref a,Value.ref b)) _ _ s;refine wpAny_pure ?_;refine wpAny_bind (wpAny_isInstance (T:="dict") db.typeIs PySem.F.sub_dict_dict ?_);simp only[Bool.not_true,Bool.false_eq_true,if_false];refine wpAny_bind (wpAny_pure (wpAny_bind (wpAny_pure ?_)));obtain⟨oa,es,ep,UB,_,Uu,_,hp,_⟩:=da;obtain⟨ob,Ny,Nx,HJ,_,lA,_,UC,_⟩:=db;have e':Ny=#[]:=by
  have:=UC.length;exact Array.eq_empty_of_size_eq_zero (by simpa using this)
 subst e';have el:es.size=vs.length:=by simpa using hp.length
 refine wpAny_bind (o8 ha hb UB Uu HJ lA ?_);refine wpAny_pure ⟨_,rfl,?_,?_⟩
 ·exactλx=>nomatch x
 ·rw[show decide (es.size=0)=decide (vs=[])from by rw[el];cases vs<;>simp]
  simpa using h
theorem neE{K:Type}[DecidableEq K]{knd:PySem.KeyKind prog w K}{a b:Addr}{vs ws:List (K×Value)}{Q:Value->Shared->Prop}(hu:A.units<cLine)(ha:(a==sysModules)=false)(hb:(b==sysModules)=false)
  (da:s.heap.DictOf knd a vs) (db:s.heap.DictOf knd b ws) (hw:ws=[]) (h:Q (.bool (!decide (vs=[]))) s):
  wpAny (model prog w) A (compareOp .NotEq (.ref a) (.ref b)) Q E s:=by
 subst hw;refine wpAny_richCompare_same_room (op:=.NotEq) da.typeIs db.typeIs PySem.F.slot_dict_ne (wpAny_call_entry PySem.F.slot_dict_ne da.typeIs PySem.F.entry_dict_ne ?_ (PySem.F.args_dict_ne_2 _ _)) hu;show wpAny _ _ (Builtin.Dict.dictSlotArgs "__ne__" ⟨[.ref a,.ref b],[]⟩ >>= _) _ _ s;refine wpAny_bind ?_;unfold Builtin.Dict.dictSlotArgs;refine wpAny_bind (wpAny_notOrdered_dict da.typeIs ?_);show wpAny _ _ (pure (Value.ref a,Value.ref b)) _ _ s;refine wpAny_pure ?_;refine wpAny_bind (wpAny_isInstance (T:="dict") db.typeIs PySem.F.sub_dict_dict ?_);simp only[Bool.not_true,Bool.false_eq_true,if_false];refine wpAny_bind (wpAny_pure (wpAny_bind (wpAny_pure ?_)));obtain⟨oa,es,ep,UB,_,Uu,_,hp,_⟩:=da;obtain⟨ob,Ny,Nx,HJ,_,lA,_,UC,_⟩:=db;have e':Ny=#[]:=by
  have:=UC.length;exact Array.eq_empty_of_size_eq_zero (by simpa using this)
 subst e';have el:es.size=vs.length:=by simpa using hp.length
 refine wpAny_bind (o8 ha hb UB Uu HJ lA ?_);refine wpAny_pure ⟨_,rfl,?_,?_⟩
 ·exactλx=>nomatch x
 ·rw[show decide (es.size=0)=decide (vs=[])from by rw[el];cases vs<;>simp]
  simpa using h
end
variable [KF]
def d2(kvs:List (Int×D))(i:Int):Option D:=(kvs.find? λp=>decide (p.1=i)).map (·.2)
def xB(kvs:List (Int×D))(i:Int)(d:D):List (Int×D):=if(kvs.any λp=>decide (p.1=i))=true then kvs.map (λp=>if p.1=i then(p.1,d)else p)else kvs++[(i,d)]
def i6(kvs:List (Int×D))(i:Int):List (Int×D):=kvs.filter λp=>decide (p.1≠i)
theorem b7.length{F:Hp}:∀ {ks:List (Key×V)} {kvs:List (Int×D)},b7 F ks kvs->ks.length=kvs.length
 | _,_,.nil=>rfl
 | _,_,.cons _ r=>by simp [b7.length r]
theorem xD(i j:Int):((Sum.inl i:Key)=Sum.inl j)=(i=j):=by simp
theorem b7.val{F:Hp}(j:Int):∀ {ks:List (Key×V)} {kvs:List (Int×D)},b7 F ks kvs->(iq ks (.inl j)=none/\d2 kvs j=none)\/∃v d,iq ks (.inl j)=some v/\d2 kvs j=some d/\Rep F v d
 | _,_,.nil=>.inl ⟨rfl,rfl⟩
 | _,_,.cons (i:=i) (v:=v) (d:=d) (ks:=ks) (kvs:=kvs) h r=>by
  by_cases e:i=j
  ·subst e
   exact .inr ⟨v,d,kU rfl,by unfold d2;rw[List.find?_cons_of_pos (by simp)];rfl,h⟩
  ·have e1:iq ((Sum.inl i,v)::ks) (Sum.inl j)=iq ks (Sum.inl j):=kT (by show¬(Sum.inl i:Key)=Sum.inl j;rw[xD];exact e)
   have e2:d2 ((i,d)::kvs) j=d2 kvs j:=by unfold d2;rw[List.find?_cons_of_neg (by simpa using e)]
   rw[e1,e2];exact b7.val j r
theorem b7.append{F:Hp}:∀ {ks js:List (Key×V)} {kvs lvs:List (Int×D)},b7 F ks kvs->b7 F js lvs->b7 F (ks++js) (kvs++lvs)
 | _,_,_,_,.nil,s=>s
 | _,_,_,_,.cons h r,s=>.cons h (b7.append r s)
theorem b7.any{F:Hp}(j:Int):∀ {ks:List (Key×V)} {kvs:List (Int×D)},b7 F ks kvs->(ks.any λkv=>decide (kv.1=Sum.inl j))=(kvs.any λp=>decide (p.1=j))
 | _,_,.nil=>rfl
 | _,_,.cons (i:=i) _ r=>by
  rw[List.any_cons,List.any_cons,b7.any j r];congr 1;simp
theorem b7.repl{F:Hp}{v:V}{d:D}(j:Int)(hv:Rep F v d):∀ {ks:List (Key×V)} {kvs:List (Int×D)},b7 F ks kvs->b7 F (ks.map λkv=>if kv.1=Sum.inl j then(kv.1,v)else kv) (kvs.map λp=>if p.1=j then(p.1,d)else p)
 | _,_,.nil=>.nil
 | _,_,.cons (i:=i) h r=>by
  rw[List.map_cons,List.map_cons]
  by_cases e:i=j
  ·rw[if_pos (show(Sum.inl i:Key)=Sum.inl j by rw[e]),if_pos (show i=j from e)]
   exact .cons hv (b7.repl j hv r)
  ·rw[if_neg (show¬(Sum.inl i:Key)=Sum.inl j by rw[xD];exact e),if_neg (show¬i=j from e)]
   exact .cons h (b7.repl j hv r)
theorem b7.put{F:Hp}{ks:List (Key×V)}{kvs:List (Int×D)}{v:V}{d:D}(j:Int)(r:b7 F ks kvs)(hv:Rep F v d):b7 F (putK ks (.inl j) v) (xB kvs j d):=by
 unfold putK xB;rw[r.any j]
 split
 ·exact r.repl j hv
 ·exact r.append (.cons hv .nil)
theorem b7.drop{F:Hp}(j:Int):∀ {ks:List (Key×V)} {kvs:List (Int×D)},b7 F ks kvs->b7 F (mD ks (.inl j)) (i6 kvs j)
 | _,_,.nil=>.nil
 | _,_,.cons (i:=i) h r=>by
  unfold mD i6;rw[List.filter_cons,List.filter_cons];have ih:=b7.drop j r;unfold mD i6 at ih
  by_cases e:i=j
  ·subst e
   simpa using ih
  ·simp only[ne_eq,xD,e,not_false_eq_true,decide_true,if_true]
   exact .cons h (by simpa using ih)
def mW(a:Addr)(kvs:List (Int×D)):O where
 fp:=λb=>[b]
 rep:=λF H b=>b=a/\∃ks,H b=some (.dK ks)/\b7 F ks kvs
 self:=λa=>List.mem_singleton.mpr rfl
 solid:=λ{F H a b φ} ⟨_,ks,h,_⟩ hb z=>by
  rw[List.mem_singleton.mp hb,h]at z;cases z
 nt:=λ{F H a b vs} ⟨_,ks,h,_⟩ hb z=>by
  rw[List.mem_singleton.mp hb,h]at z;cases z
 mono:=λ{F F' H H' a} s e ⟨e0,ks,h,r⟩=>⟨e0,ks,by rw[e a (List.mem_singleton.mpr rfl)];exact h,r.mono s⟩
 view:=some (.gv kvs)
 sees:=λ{F H a d} ⟨_,ks,h,r⟩ e=>by cases e;exact⟨a,ks,rfl,h,r⟩
 lend:=λ{F H a d} s ⟨_,ks,h,r⟩ e=>by
  cases e;obtain⟨F',s1,s2,e1,e2⟩:=jj s h;refine⟨F',s1,s2,.gv e1 (r.mono s1),λc u z=>?_⟩;rcases e2 c u z with z|⟨rfl,rfl⟩
  ·exact .inl z
  ·exact .inr ⟨rfl,List.mem_singleton.mpr rfl⟩
 loc:=some a
 Il:=λ{F H a b} ⟨e,_⟩ q=>by cases q;exact e
variable {G:GE}{k:Nat}{S:Stat}
def ig(i:Nat):TV:=λσ Q=>match σ[i]? with
 | some (some (.sh d))=>Q (.val d) σ
 | some (some _)=>Q (.var i) σ
 | _=>False
theorem hZ(i:Nat){x:Str}{pos:Pos}(hN:S.N[i]?=some x:=by rfl)(hv:S.sc.lookup x=some .local\/S.sc.lookup x=some .cell\/S.sc.lookup x=some .free:=by first|exact Or.inl rfl|exact Or.inr (Or.inl rfl)|exact Or.inr (Or.inr rfl))
  (hd:(x==("__debug__":Str))=false:=by decide) (gG:(x==("__classdict__":Str))=false:=by decide):EO G k S (.Name x pos) (ig i):=.mk λX Y ok =>
 a7 (g9 (X:=X) (i:=i) (by rw[ok.N];exact hN) (by unfold GI;rw[ok.sc];exact hv) hd gG) λσ H Q q=>by
  obtain⟨F,ai,Qd,R,q,K⟩:=q;unfold ig at q
  split at q
  ·rename_i d e
   obtain⟨v,e2,r2⟩:=R.sh i d e;exact⟨v,e2,K v H F (.val d) ai (aw.refl _) R r2 q⟩
  ·rename_i b hb e
   cases b with
   | sh d=>exact absurd rfl (hb d)
   | own xs =>
    obtain⟨a,vs,e2,_⟩:=R.own i xs e;exact⟨_,e2,K _ H F (.var i) ai (aw.refl _) R e2 q⟩
   | obj o =>
    obtain⟨a,e2,_⟩:=R.ob.obj i o e;exact⟨_,e2,K _ H F (.var i) ai (aw.refl _) R e2 q⟩
  ·exact q.elim
def Tv:TX:=λσ Q=>∀p,Q (.obj (mW p [])) σ
theorem Jl{pos:Pos}:EX G k S (.Dict [] [] pos) Tv:=.mk λX Y ok=>a7 jS λσ H Q q=>by
 obtain⟨F,ai,Qd,R,q,K⟩:=q;intro p hp;refine K _ _ F (.obj (mW p [])) ai (aw.refl _) (R.rA hp) ⟨p,rfl,⟨rfl,[],az,.nil⟩,λb hb=>?_⟩ (q p);rw[List.mem_singleton.mp hb];exact⟨same_none R.fr hp,(by rw[az];exactλz=>nomatch z),(R.bX hp).1,R.eE hp⟩
def pS(ta tb:TV):TV:=λσ Q=>ta σ λx ax=>tb ax λy aO=>match df aO x,df aO y with
 | some (.gv kvs),some (.int i)=>∃d,d2 kvs i=some d/\Q (.val d) aO
 | _,_=>False
theorem mL{a b:Expr}{ta tb:TV}{pos:Pos}(ha:EO G k S a ta)(hb:EO G k S b tb)(hs:LN b:=by intro _ _;rfl):EO G k S (.Subscript a b pos) (pS ta tb):=.mk λX Y ok =>
 a7 (IQ (by have:=ok.units;omega) (ha X Y ok) (hb X Y ok) hs) λσ H Q q=>by
  obtain⟨F,ai,Qd,R,q,K⟩:=q;refine⟨F,ai,_,R,q,λv1 H1 F1 x ax s1 R1 r1 q1=>?_⟩;refine⟨F1,ax,_,R1,q1,λv2 H2 F2 y aO s2 R2 r2 q2=>?_⟩
  split at q2
  ·rename_i kvs i ea eb
   obtain⟨a,ks,rfl,h,r⟩:=R2.df (r1.mono s2) ea;obtain rfl:=(R2.df r2 eb).int;obtain⟨d,hd,q2⟩:=q2;rcases r.val i with⟨_,e2⟩|⟨v,d',e1,e2,rd⟩
   ·rw[e2]at hd;cases hd
   ·rw[e2]at hd;cases hd
    refine⟨a,v,rfl,?_,K v H2 F2 (.val d) aO (s1.trans s2) R2 rd q2⟩;rw[<- e1];exact rj.k (k:=.inl i) h
  ·exact q2.elim
def inI:D->D->(Bool->Prop)->Prop
 | .int i,.gv kvs,Q=>Q (d2 kvs i).isSome
 | _,_,_=>False
def AJ(x y:D)(Q:Bool->Prop):Prop:=inI x y λb=>Q !b
theorem HV{F H:Hp}{v u:V}{i:Int}{kvs:List (Int×D)}(rv:cf F H v (.int i))(ru:cf F H u (.gv kvs)):∃a o,u=.ref a/\rj H a v o/\o.isSome=(d2 kvs i).isSome:=by
 obtain rfl:=rv.int;obtain⟨a,ks,rfl,h,r⟩:=ru;refine⟨a,_,rfl,.k (k:=.inl i) h,?_⟩;rcases r.val i with⟨e1,e2⟩|⟨v,d,e1,e2,_⟩
 ·rw[e1,e2];rfl
 ·rw[e1,e2];rfl
theorem xh:pI G k S .NotIn AJ:=⟨E8 true,λX Y ok=>AW (by have:=ok.units;omega),λY F H ai σ v u x y Qd Q R rx ry q K=>by
 unfold AJ inI at q
 split at q
 ·obtain⟨a,o,rfl,g,e⟩:=HV rx ry
  exact⟨a,o,rfl,g,K _ (by rw[if_pos rfl,e];exact q)⟩
 ·exact q.elim⟩
def AF:List D->(EV->Prop)->Prop
 | [.gv kvs],Q=>Q (.val (.int kvs.length))
 | _,_=>False
theorem xo:Bq G k S (.builtin "len") AF:=⟨λ_ xs H Q=>∃a ks,xs=[.ref a]/\H a=some (.dK ks)/\Q (.int ks.length) H,λX Y ok=>by
  intro pins s σ H xs us Q I r h;obtain⟨a,ks,rfl,e,q⟩:=h;obtain⟨u,rfl,ru⟩:=vals1 r;cases ru;exact VH I (.inl e) λt s' I'=>⟨.int _,H,I',⟨_,rfl⟩,q⟩,λY F H ai σ vs ds Qd Q R r q g=>by
 unfold AF at q
 split at q
 ·obtain⟨v,rfl,rv⟩:=r.one
  obtain⟨a,ks,rfl,h,rr⟩:=rv;refine⟨a,ks,rfl,h,?_⟩;rw[rr.length];exact g.val R (.int _) q
 ·exact q.elim⟩
def RX(neg:Bool):R2:=λx y H Q=>∃a b ks,x=.ref a/\y=.ref b/\H a=some (.dK ks)/\H b=some (.dK [])/\Q (.bl (if neg then !decide (ks=[])else decide (ks=[]))) H
theorem Eg{vs:List (Key×Value)}(r:KV ([]:List (Key×V)) vs):vs=[]:=by
 have:=r.length;cases vs with
 | nil=>rfl
 | cons _ _=>simp at this
theorem Ef{ks:List (Key×V)}{vs:List (Key×Value)}(r:KV ks vs):decide (vs=[])=decide (ks=[]):=by
 have:=r.length;cases vs<;>cases ks<;>simp_all
theorem QN{X:Cx}(hu:X.A.units<cLine):iR X (compareOp .Eq) (RX false):=by
 intro pins s σ H x y v u Q I rx ry h;obtain⟨a,b,ks,rfl,rfl,ea,eb,q⟩:=h;cases rx;cases ry;obtain⟨_,ha,xs,ra,da⟩:=nP I.bw ea;obtain⟨_,hb,ys,rb,db⟩:=nP I.bw eb;refine eqE hu ha hb da db (Eg rb) ?_;rw[Ef ra];exact⟨.bl _,H,I,rfl,q⟩
theorem QS{X:Cx}(hu:X.A.units<cLine):iR X (compareOp .NotEq) (RX true):=by
 intro pins s σ H x y v u Q I rx ry h;obtain⟨a,b,ks,rfl,rfl,ea,eb,q⟩:=h;cases rx;cases ry;obtain⟨_,ha,xs,ra,da⟩:=nP I.bw ea;obtain⟨_,hb,ys,rb,db⟩:=nP I.bw eb;refine neE hu ha hb da db (Eg rb) ?_;rw[Ef ra];exact⟨.bl _,H,I,rfl,q⟩
def Ba(neg:Bool)(t:TV):TB:=λσ Q=>t σ λx ax=>match df ax x with
 | some (.gv kvs)=>Q (if neg then !decide (kvs=[])else decide (kvs=[])) ax
 | _=>False
theorem Fg{F:Hp}{ks:List (Key×V)}{kvs:List (Int×D)}(r:b7 F ks kvs):decide (ks=[])=decide (kvs=[]):=by
 cases r<;>simp
theorem qo{Y:bP}{neg:Bool}{ta:TV}{σ:St}{H:Hp}{Q:VK}{F:Hp}{ai:Sd}{Qd:Bool->Sd->Prop}(R:RS Y F ai σ H)(q:Ba neg ta ai Qd)(K:∀b H' F' aI,aw F F'->RS Y F' aI σ H'->Qd b aI->Q (.bl b) H'):TJ (RX neg) (lO Y ta) FC σ H Q:=by
 refine⟨F,ai,_,R,q,λv1 H1 F1 x ax s1 R1 r1 q1=>?_⟩;intro p hp
 split at q1
 ·rename_i kvs ea
  obtain⟨a,ks,rfl,h,r⟩:=R1.df r1 ea;refine⟨a,p,ks,rfl,rfl,by rw[aq (bj h hp)];exact h,az,?_⟩
  rw[Fg r];exact K _ _ F1 ax s1 (R1.rA hp) q1
 ·exact q1.elim
theorem R9{a:Expr}{ta:TV}{p pos:Pos}(ha:EO G k S a ta)(hm:behindInMarks .Eq (.Dict [] [] p)=false:=by first|exact sE _|with_unfolding_all rfl):EB G k S (.Compare a [.Eq] [.Dict [] [] p] pos) (Ba false ta):=.mk λX Y ok=>by
 refine oV (sM (QN (by have:=ok.units;omega)) (ha X Y ok) jS hm) λσ H Q q=>?_
 obtain⟨F,ai,Qd,R,q,K⟩:=q;exact qo R q λb H' F' aI s R' qq=>⟨b,rfl,K b H' F' aI s R' qq⟩
theorem Sb{a:Expr}{ta:TV}{p pos:Pos}(ha:EO G k S a ta)(hm:behindInMarks .NotEq (.Dict [] [] p)=false:=by first|exact sE _|with_unfolding_all rfl):EB G k S (.Compare a [.NotEq] [.Dict [] [] p] pos) (Ba true ta):=.mk λX Y ok=>by
 refine oV (sM (QS (by have:=ok.units;omega)) (ha X Y ok) jS hm) λσ H Q q=>?_
 obtain⟨F,ai,Qd,R,q,K⟩:=q;exact qo R q λb H' F' aI s R' qq=>⟨b,rfl,K b H' F' aI s R' qq⟩
def Tx(i:Nat)(tk:TV)(tv:TD):b5:=λDe σ=>tv σ λd ax=>(∃a kvs,ax[i]?=some (some (.obj (mW a kvs))))/\tk ax λy aO=>match df aO y with
 | some (.int j)=>∃a kvs,aO[i]?=some (some (.obj (mW a kvs)))/\kvs.length<sizeLine/\De.nx (aO.set i (some (.obj (mW a (xB kvs j d)))))
 | _=>False
theorem Jr(i:Nat){x:Str}{ke ve:Expr}{tk:TV}{tv:TD}{np pos' pos:Pos}(hv:ED G k S ve tv)(hk:EO G k S ke tk)(ho:EO G k S (.Name x np) (JC i))(hs:∀line env,swapsWith ve (some (.Subscript (.Name x np) ke pos')) line env=pure false:=by intro _ _;rfl):
  ES G k S (.Assign [.Subscript (.Name x np) ke pos'] ve pos) (Tx i tk tv):=.mk λX Y ok =>
 cR (zq (by have:=ok.units;omega) (ho X Y ok) (hk X Y ok) (hv X Y ok) (hs _ _)) λDn σ H q=>by
  obtain⟨F,ai,De,R,q,K⟩:=q;refine⟨F,ai,_,R,q,λv H1 F1 d ax s1 R1 r1 q1=>?_⟩;obtain⟨⟨a0,Ik,e0⟩,q1⟩:=q1;refine⟨F1,ax,λx mv=>x=.var i/\mv=ax,R1,⟨⟨_,e0⟩,rfl,rfl⟩,λv2 H2 F2 y aO s2 R2 r2 q2=>?_⟩;obtain⟨rfl,rfl⟩:=q2;have r2:σ[i]?=some (some v2):=r2;refine⟨F2,aO,_,R2,q1,λv3 H3 F3 kd iu s3 R3 r3 q3=>?_⟩
  split at q3
  ·rename_i j ej
   obtain rfl:=(R3.df r3 ej).int;obtain⟨a,kvs,e,hl,q3⟩:=q3;obtain⟨b,w1,⟨rfl,us,w2,w3⟩,w4⟩:=R3.ob.obj i _ e;rw[r2]at w1;cases w1;refine⟨b,_,rfl,.k (k:=.inl j) w2 (by rw[w3.length];exact hl),K.nx σ _ F3 _ ((s1.trans s2).trans s3) (R3.gY (o':=mW b (xB kvs j d)) e r2 (List.mem_singleton.mpr rfl) (λ_ z=>z) ⟨rfl,_,az,w3.put j (r1.mono (s2.trans s3))⟩) q3⟩
  ·exact q3.elim
def TK(i:Nat)(tk:TV):b5:=λDe σ=>(∃a kvs,σ[i]?=some (some (.obj (mW a kvs))))/\tk σ λy aO=>match df aO y with
 | some (.int j)=>∃a kvs,aO[i]?=some (some (.obj (mW a kvs)))/\(d2 kvs j).isSome=true/\De.nx (aO.set i (some (.obj (mW a (i6 kvs j)))))
 | _=>False
theorem Jq(i:Nat){x:Str}{ke:Expr}{tk:TV}{np ap cp pos:Pos}(hk:EO G k S ke tk)(ho:EO G k S (.Name x np) (JC i))(m:∀X:Cx,M1 X (.Name x np) "pop" ap ke cp:=by intro X;exact⟨rfl,rfl,rfl,rfl⟩):
  ES G k S (.Expr (.Call (.Attribute (.Name x np) "pop" ap) [ke] [] cp) pos) (TK i tk):=.mk λX Y ok =>
 cR (sJ (vS (ho X Y ok) (hk X Y ok) (m X)) rfl) λDn σ H q=>by
  obtain⟨F,ai,De,R,⟨⟨a0,Ik,e0⟩,q⟩,K⟩:=q;refine⟨F,ai,λx mv=>x=.var i/\mv=ai,R,⟨⟨_,e0⟩,rfl,rfl⟩,λv2 H2 F2 y aO s2 R2 r2 q2=>?_⟩;obtain⟨rfl,rfl⟩:=q2;have r2:σ[i]?=some (some v2):=r2;obtain⟨b0,w1,⟨rfl,Zr,w2,w3⟩,w4⟩:=R2.ob.obj i _ e0;rw[r2]at w1;cases w1;refine⟨b0,rfl,.inl ⟨_,.inl w2⟩,F2,aO,_,R2,q,λv3 H3 F3 kd iu s3 R3 r3 q3=>?_⟩
  split at q3
  ·rename_i j ej
   obtain rfl:=(R3.df r3 ej).int;obtain⟨a,kvs,e,hl,q3⟩:=q3;obtain⟨b,w1,⟨rfl,us,y2,y3⟩,y4⟩:=R3.ob.obj i _ e;rw[r2]at w1;cases w1;rcases y3.val j with⟨_,e2⟩|⟨v,d',e1,e2,rd⟩
   ·rw[e2]at hl;cases hl
   ·exact⟨us,.inl j,v,y2,rfl,e1,K.nx σ _ F3 _ (s2.trans s3) (R3.gY (o':=mW b0 (i6 kvs j)) e r2 (List.mem_singleton.mpr rfl) (λ_ z=>z) ⟨rfl,_,az,y3.drop j⟩) q3⟩
  ·exact q3.elim
end Vc
namespace Vs
open PySem PySem.Calls PyProof.Rows PyProof.V PySem.Spec
def vB:Value->Int
 | .int i _=>i
 | _=>0
section
variable {prog:Program}{w:World}{A:Around}{E:Value->Shared->Prop}{s:Shared}
theorem Eb{vs:List Value}{ns:List Int}{Q:SortKind->Shared->Prop}(hl:2<=vs.length)(h:IntsAre vs ns)(q:Q oneType' s):wpAny (model prog w) A (keyKind' vs.toArray) Q E s:=by
 match vs,hl,h with
 | abA::abB::r,_,h =>
  rw[keyKind_ints h];exact wpAny_pure q
theorem Im{l:List Keyed}(h:∀x∈l,∃i t,x.1=Value.int i t):gF (model prog w) A E s (rk (λx=>[vB x.1]) l) oneType' (λx=>x∈l):=λx y st Q hx hy hk q=>by
 rw[zF hx]at q;rw[lt'_eq];refine wpS_bind (wpS_get ?_);rw[hk];obtain⟨i,t,e1⟩:=h x hx;obtain⟨j,u,e2⟩:=h y hy;rw[e1,e2,show HT.lexLt [vB (.int i t)] [vB (.int j u)]=decide (i<j)from by
  show(if i=j then HT.lexLt [] []else decide (i<j))=_
  by_cases e:i=j
  ·rw[if_pos e,decide_eq_false ⋯];rfl
  ·rw[if_neg e]]at q
 refine wpS_bind (wpS_lift (wpAny_attempt ?_));rw[e1,e2,keyLt'_oneType];exact oneLt_int ⟨rfl,wpS_pure q⟩
end
end Vs
namespace Vc
open PySem L2
variable [KF]
def E9:List V->Hp->VK->Prop:=λxs H Q=>∃a ks,∃ns:List Int,xs=[.ref a]/\H a=some (.dK ks)/\ks.map (·.1)=ns.map Sum.inl /\
 ∀ms:List Int,ms.Perm ns->ms.Pairwise (λx y=>x<=y)->∀l,H l=none->Q (.ref l) (upd H l (.lst (ms.map V.int)))
theorem oP{prog:Program}{w:World}:∀ {es:List DictEntry} {vs:List (Key×Value)} {ns:List Int},PySem.Pairs (cj prog w) es vs->vs.map (·.1)=ns.map Sum.inl->PyProof.Rows.IntsAre (es.map (·.key)) ns
 | _,_,[],.nil,_=>.nil
 | _,_,_::_,.nil,e=>by cases e
 | _,_,[],.cons _ _ _,e=>by cases e
 | _,_,n::ns,.cons (e:=e) (kv:=kv) h1 h2 r,q=>by
  rw[List.map_cons,List.map_cons]at q;obtain⟨q1,q2⟩:=List.cons.inj q;rw[q1]at h1;rcases bT (show oq (Sum.inl n) e.key=true from h1)with⟨i,t,a1,a2⟩|⟨x,t,a1,_⟩
  ·cases a1
   rw[List.map_cons,a2];exact .cons _ t (oP r q2)
  ·cases a1
theorem oh:∀ {vs:List Value} {ns:List Int},PyProof.Rows.IntsAre vs ns->vs.map Vs.vB=ns
 | _,_,.nil=>rfl
 | _,_,.cons n t h=>by rw[List.map_cons,oh h];rfl
theorem mE:∀ {vs:List Value} {ns:List Int},PyProof.Rows.IntsAre vs ns->∀v∈vs,∃i t,v=Value.int i t
 | _,_,.nil,v,hv=>by cases hv
 | _,_,.cons n t h,v,hv=>by
  rcases List.mem_cons.mp hv with rfl|hv
  ·exact⟨n,t,rfl⟩
  ·exact mE h v hv
theorem fO:∀ {vs:List Value},(∀v∈vs,∃i t,v=Value.int i t)->Vals ((vs.map Vs.vB).map V.int) vs
 | [],_=>.nil
 | v::vs,h=>by
  obtain⟨i,t,rfl⟩:=h v (.head _);exact .cons ⟨t,rfl⟩ (fO λx hx=>h x (.tail _ hx))
theorem xi{X:Cx}(hc:X.calm=true):dW X (.builtin "sorted") E9:=by
 intro pins s σ H xs Zr Q I r h;obtain⟨a,ks,ns,rfl,ha,ek,q⟩:=h;obtain⟨u,rfl,rx⟩:=vals1 r;cases rx;obtain⟨hz,hd,vs,rel,o,es,ep,e1,e2,e3,e4,e5,e6⟩:=nP I.bw ha;have hlv:ks.length=vs.length:=rel.length;have hle:es.toList.length=vs.length:=e5.length;have hkv:vs.map (·.1)=ns.map Sum.inl:=by
  rw[<- ek];clear e5 e6 hlv hle ha ek hz q
  induction rel with
  | nil=>rfl
  | cons hx _ ih=>rw[List.map_cons,List.map_cons,ih,hx.1]
 have hln:ns.length=vs.length:=by have:=congrArg List.length hkv;simpa using this.symm
 obtain⟨its,Nv⟩:∃its:List Value,its=es.toList.map (·.key):=⟨_,rfl⟩
 have ii:PyProof.Rows.IntsAre its ns:=by rw[Nv];exact oP e5 hkv
 have lits:its.length=vs.length:=by rw[Nv,List.length_map];exact hle
 have fZ:=mE ii;have mem:∀x:PyProof.Rows.Keyed,x∈(PyProof.Rows.pairsOf its).toList->x.1∈its/\x.1=x.2:=λx hx=>by
  rw[PyProof.Rows.pairsOf_toList,fP]at hx;obtain⟨v,hv,rfl⟩:=List.mem_map.mp hx;exact⟨hv,rfl⟩
 refine Vs.xZ (vs:=its) (kd:=PyProof.Rows.oneType') (ρ:=Vs.rk (λx=>[Vs.vB x.1]) (PyProof.Rows.pairsOf its).toList) (P':=λx=>x∈(PyProof.Rows.pairsOf its).toList) (M0 (en:=es) (c:=ep) hd) (I.ok.hd hc) ⟨o,e1,e2,e3⟩ (by rw[<- Array.length_toList];omega) (λacc it=>?_) ⋯ (λ_ h=>h) (λh2 A' E' g t kg=>⟨λQ hQ=>?_,?_⟩) λys h1 g c' t hp hs k1 kg hg=>?_
 ·refine List.ext_getElem? λj=>?_
  rw[Array.getElem?_toList];cases ej:acc[j]? with
  | none =>
   have:acc.size<=j:=Array.getElem?_eq_none_iff.mp ej;rw[it.1]at this;rw[List.getElem?_eq_none (by rw[lits,<- hle,Array.length_toList];exact this)]
  | some v =>
   obtain⟨e,he,rfl⟩:=it.2 j v ej;rw[Nv,List.getElem?_map,Array.getElem?_toList,he];rfl
 ·exact Vs.Eb (s:={s with heap:=g,toks:=t}) h2 ii hQ
 ·exact Vs.Im (s:={s with heap:=g,toks:=t}) λx hx=>fZ x.1 (mem x hx).1
 ·have de:ys.toList.Perm (PyProof.Rows.pairsOf its).toList:=Array.perm_iff_toList_perm.mp hp
  have nj:∀x∈ys.toList,x.1∈its/\x.1=x.2:=λx hx=>mem x (de.mem_iff.mp hx);obtain⟨ms,ems⟩:∃ms,ms=(ys.map (·.2)).toList.map Vs.vB:=⟨_,rfl⟩
  have perm:ms.Perm ns:=by
   rw[ems,Array.toList_map,List.map_map,<- oh ii];refine(de.map (Vs.vB ∘ λx=>x.2)).trans ?_;rw[PyProof.Rows.pairsOf_toList,fP,List.map_map];exact List.Perm.refl _
  have I1:=I.kept (h':=h1) (t':=s.toks) k1;have fr:H h1.objs.size=none:=I1.fresh;refine⟨.ref h1.objs.size,_,I1.laid (h':=g) (t':=t) (o:=.lst (ms.map V.int)) kg (Nat.le_refl _) ⟨?_,(ys.map (·.2)).toList,c',?_,hg⟩,rfl,q ms perm ?_ _ fr⟩
  ·rw[List.length_map,perm.length_eq];omega
  ·rw[ems]
   refine fO λv hv=>?_;rw[Array.toList_map]at hv;obtain⟨x,hx,rfl⟩:=List.mem_map.mp hv;have:=nj x hx;exact fZ _ (this.2 ▸ this.1)
  ·rw[ems,Array.toList_map,List.map_map,List.pairwise_map]
   refine List.pairwise_iff_getElem.mpr λi j hi hj lC=>?_;have xu:i<ys.size:=by simpa using hi
   have WZ:j<ys.size:=by simpa using hj
   have hsz:ys.size=its.length:=by have:=hp.size_eq;rw[PyProof.Rows.pairsOf_size]at this;exact this
   have h1:=hs i j (Nat.zero_le _) (Nat.le_of_lt lC) ⋯
   rw[Vs.dz (Array.getElem?_eq_getElem xu),Vs.dz (Array.getElem?_eq_getElem WZ)]at h1;show Vs.vB ys[i].2<=Vs.vB ys[j].2;have m1:=nj ys[i] (by simp)
   have m2:=nj ys[j] (by simp)
   have:=Vs.zF (d:=λx=>[Vs.vB x.1]) (l:=(PyProof.Rows.pairsOf its).toList) (x:=ys[j]) (y:=ys[i]) (de.mem_iff.mp (by simp))
   rw[decide_eq_false ⋯]at this
   rw[<- m1.2,<- m2.2];have e:(if Vs.vB ys[j].1=Vs.vB ys[i].1 then HT.lexLt [] []else decide (Vs.vB ys[j].1<Vs.vB ys[i].1))=false:=this.symm
   by_cases z:Vs.vB ys[j].1=Vs.vB ys[i].1
   ·omega
   ·rw[if_neg z]at e
    have:=of_decide_eq_false e;omega
variable {G:GE}{k:Nat}{S:Stat}
def v7(ns:List Int):List Int:=ns.mergeSort λx y=>decide (x<=y)
theorem xX(ns:List Int):(v7 ns).Perm ns:=List.mergeSort_perm _ _
theorem sZ(ns:List Int):(v7 ns).Pairwise λx y=>x<=y:=by
 have:=List.pairwise_mergeSort (le:=λx y:Int=>decide (x<=y)) (λa b c h1 h2=>by simp only[decide_eq_true_eq]at *;omega) (λa b=>by simp only[Bool.or_eq_true,decide_eq_true_eq];omega) ns
 exact this.imp λh=>of_decide_eq_true h
theorem v8{ns ms:List Int}(h:ms.Perm ns)(hs:ms.Pairwise λx y=>x<=y):ms=v7 ns:=
 (h.trans (xX ns).symm).eq_of_pairwise (le:=λx y:Int=>x<=y) (λa b _ _ h1 h2=>Int.le_antisymm h1 h2) hs (sZ ns)
def sortI:List D->(EV->Prop)->Prop
 | [.gv kvs],Q=>Q (.own ((v7 (kvs.map (·.1))).map D.int))
 | _,_=>False
theorem qQ{F:Hp}:∀ {ks:List (Key×V)} {kvs:List (Int×D)},b7 F ks kvs->ks.map (·.1)=(kvs.map (·.1)).map Sum.inl
 | _,_,.nil=>rfl
 | _,_,.cons _ r=>by rw[List.map_cons,List.map_cons,List.map_cons,qQ r]
theorem qR{F:Hp}:∀ms:List Int,aH F (ms.map V.int) (ms.map D.int)
 | []=>.nil
 | i::ms=>.cons (.int i) (qR ms)
theorem iA(hh:S.nk=false:=by rfl):Bq G k S (.builtin "sorted") sortI:=⟨λ_=>E9,λX Y ok=>xi (ok.calm hh),λY F H ai σ vs ds Qd Q R r q g=>by
 unfold sortI at q
 split at q
 ·rename_i kvs
  obtain⟨v,rfl,rv⟩:=r.one;obtain⟨a,ks,rfl,h,rr⟩:=rv;refine⟨a,ks,kvs.map (·.1),rfl,h,qQ rr,λms hp hs l hl=>?_⟩
  rw[<- v8 hp hs]at q;exact g.own R (qR ms) q l hl
 ·exact q.elim⟩
end Vc
namespace Vc
open PySem L2
variable [KF]
structure jw(F H:Hp)(vs:List V)(bs:List B):Prop where
 len:vs.length=bs.length
 sh:∀(i:Nat) (d:D),bs[i]?=some (.sh d)->∃v,vs[i]?=some v/\Rep F v d
 own:∀(i:Nat) (xs:List D),bs[i]?=some (.own xs)->∃a us,vs[i]?=some (.ref a)/\H a=some (.lst us)/\aH F us xs/\F a=none
 obj:∀(i:Nat) (o:O),bs[i]?=some (.obj o)->∃a,vs[i]?=some (.ref a)/\o.rep F H a/\∀c∈o.fp a,F c=none/\H c≠none
 dis:∀(i j:Nat) (xs ys:List D) (a:Addr),bs[i]?=some (.own xs)->bs[j]?=some (.own ys)->vs[i]?=some (.ref a)->vs[j]?=some (.ref a)->i=j
 nQ:∀(i j:Nat) (o p:O) (a b:Addr),bs[i]?=some (.obj o)->bs[j]?=some (.obj p)->vs[i]?=some (.ref a)->vs[j]?=some (.ref b)->i≠j->∀c∈o.fp a,c∉p.fp b
 gP:∀(i j:Nat) (xs:List D) (o:O) (a b:Addr),bs[j]?=some (.own xs)->vs[j]?=some (.ref b)->bs[i]?=some (.obj o)->vs[i]?=some (.ref a)->b∉o.fp a
def jd(vs:List V)(bs:List B)(c:Addr):Prop:=(∃(i:Nat) (xs:List D),bs[i]?=some (.own xs)/\vs[i]?=some (.ref c))\/∃(i:Nat) (o:O) (a:Addr),bs[i]?=some (.obj o)/\vs[i]?=some (.ref a)/\c∈o.fp a
inductive dy:List B->List B->Prop where
 | nil:dy [] []
 | sh (d:D) {bs cs:List B}:dy bs cs->dy (.sh d::bs) (.sh d::cs)
 | own (xs ys:List D) {bs cs:List B}:dy bs cs->dy (.own xs::bs) (.own ys::cs)
 | obj {o p:O} {bs cs:List B}:p.fp=o.fp->p.loc=o.loc->o.loc≠none->dy bs cs->dy (.obj o::bs) (.obj p::cs)
theorem dy.len{bs cs:List B}(h:dy bs cs):bs.length=cs.length:=by
 induction h<;>simp_all
theorem dy.shr{bs cs:List B}(h:dy bs cs):∀ {i:Nat} {d:D},cs[i]?=some (.sh d)->bs[i]?=some (.sh d):=by
 induction h with
 | nil=>intro i d e;simp at e
 | sh d _ ih=>intro i e q;cases i with
  | zero=>simpa using q
  | succ i=>simp at q ⊢;exact ih q
 | own xs ys _ ih=>intro i e q;cases i with
  | zero=>simp at q
  | succ i=>simp at q ⊢;exact ih q
 | obj _ _ _ _ ih=>intro i e q;cases i with
  | zero=>simp at q
  | succ i=>simp at q ⊢;exact ih q
theorem dy.AX{bs cs:List B}(h:dy bs cs):∀ {i:Nat} {ys:List D},cs[i]?=some (.own ys)->∃xs,bs[i]?=some (.own xs):=by
 induction h with
 | nil=>intro i d e;simp at e
 | sh d _ ih=>intro i e q;cases i with
  | zero=>simp at q
  | succ i=>simp at q ⊢;exact ih q
 | own xs ys _ ih=>intro i e q;cases i with
  | zero=>exact⟨xs,by simp⟩
  | succ i=>simp at q ⊢;exact ih q
 | obj _ _ _ _ ih=>intro i e q;cases i with
  | zero=>simp at q
  | succ i=>simp at q ⊢;exact ih q
theorem dy.Ye{bs cs:List B}(h:dy bs cs):∀ {i:Nat} {xs:List D},bs[i]?=some (.own xs)->∃ys,cs[i]?=some (.own ys):=by
 induction h with
 | nil=>intro i d e;simp at e
 | sh d _ ih=>intro i e q;cases i with
  | zero=>simp at q
  | succ i=>simp at q ⊢;exact ih q
 | own xs ys _ ih=>intro i e q;cases i with
  | zero=>exact⟨ys,by simp⟩
  | succ i=>simp at q ⊢;exact ih q
 | obj _ _ _ _ ih=>intro i e q;cases i with
  | zero=>simp at q
  | succ i=>simp at q ⊢;exact ih q
theorem dy.AK{bs cs:List B}(h:dy bs cs):∀ {i:Nat} {p:O},cs[i]?=some (.obj p)->∃o,bs[i]?=some (.obj o)/\p.fp=o.fp/\p.loc=o.loc/\o.loc≠none:=by
 induction h with
 | nil=>intro i d e;simp at e
 | sh d _ ih=>intro i e q;cases i with
  | zero=>simp at q
  | succ i=>simp at q ⊢;exact ih q
 | own xs ys _ ih=>intro i e q;cases i with
  | zero=>simp at q
  | succ i=>simp at q ⊢;exact ih q
 | @obj o p _ _ h1 h2 h3 _ ih=>intro i e q;cases i with
  | zero=>simp at q;subst q;exact⟨o,by simp,h1,h2,h3⟩
  | succ i=>simp at q ⊢;exact ih q
theorem dy.aa2{bs cs:List B}(h:dy bs cs):∀ {i:Nat} {o:O},bs[i]?=some (.obj o)->∃p,cs[i]?=some (.obj p)/\p.fp=o.fp/\p.loc=o.loc/\o.loc≠none:=by
 induction h with
 | nil=>intro i d e;simp at e
 | sh d _ ih=>intro i e q;cases i with
  | zero=>simp at q
  | succ i=>simp at q ⊢;exact ih q
 | own xs ys _ ih=>intro i e q;cases i with
  | zero=>simp at q
  | succ i=>simp at q ⊢;exact ih q
 | @obj o p _ _ h1 h2 h3 _ ih=>intro i e q;cases i with
  | zero=>simp at q;subst q;exact⟨p,by simp,h1,h2,h3⟩
  | succ i=>simp at q ⊢;exact ih q
abbrev jx:=List B->(B->List B->Prop)->Prop
def c5(sp:jx):Sp:=λvs H Q _=>∃F bs Qd,p0 F H/\jw F H vs bs/\sp bs Qd /\
 ∀v H' F' b eg,aw F F'->aw F' H'->(∀c o,¬jd vs bs c->H c=some o->H' c=some o)->(∀c,jd vs bs c->H' c≠none)->jw F' H' vs eg->dy bs eg->(∀c o,F' c=some o->F c=some o\/Nw H c o)->G4 H F' H' v b->Qd b eg->Q v H'
variable {G:GE}{k:Nat}{S:Stat}
def ux(G:GE)(k:Nat)(x:Str)(sp:jx):Prop:=∃f fd ps,cm G.P G.w G.K G.mg G.base mw k f fd ps (c5 sp)/\G.mg x=some (.ref f)/\PySem.W.keepIn G.K (.ref f)=true/\Binds G.K fd ps []
theorem ux.mono{x:Str}{sp:jx}{j:Nat}(h:ux G j x sp)(l:j<=k):ux G k x sp:=by
 obtain⟨f,fd,ps,h1,h2,h3,h4⟩:=h;exact⟨f,fd,ps,h1.mono l,h2,h3,h4⟩
def eD(sp:bu):jx:=λbs Q=>∃ds:List D,bs=ds.map .sh/\sp ds λb=>Q b bs
theorem qH{bs:List B}(h:∀(i:Nat) (o:O),bs[i]?=some (.obj o)->o.loc≠none):dy bs bs:=by
 induction bs with
 | nil=>exact .nil
 | cons b bs ih =>
  have ih:=ih λi o e=>h (i+1) o (by simpa using e)
  cases b with
  | sh d=>exact .sh d ih
  | own xs=>exact .own xs xs ih
  | obj o=>exact .obj rfl rfl (h 0 o (by simp)) ih
theorem dn{ds:List D}{i:Nat}{b:B}(h:(ds.map B.sh)[i]?=some b):∃d,b=.sh d/\ds[i]?=some d:=by
 rw[List.getElem?_map]at h;obtain⟨d,h1,h2⟩:=Option.map_eq_some_iff.mp h;exact⟨d,h2.symm,h1⟩
theorem Fh{F:Hp}:∀(vs:List V) (ds:List D),vs.length=ds.length->(∀(i:Nat) (d:D),ds[i]?=some d->∃v,vs[i]?=some v/\Rep F v d)->aH F vs ds:=by
 intro vs
 induction vs with
 | nil=>intro ds hl _;cases ds with
  | nil=>exact .nil
  | cons _ _=>cases hl
 | cons v vs ih =>
  intro ds hl h;cases ds with
  | nil=>cases hl
  | cons d ds =>
   obtain⟨v',e,r⟩:=h 0 d (by simp)
   simp at e;subst e;exact .cons r (ih ds (by simpa using hl) λi d e=>by
    obtain⟨v',e',r'⟩:=h (i+1) d (by simpa using e)
    exact⟨v',by simpa using e',r'⟩)
theorem nh{F H:Hp}{vs:List V}{ds:List D}(h:jw F H vs (ds.map B.sh)):aH F vs ds:=
 Fh vs ds (by simpa using h.len) λi d e=>h.sh i d (by rw[List.getElem?_map,e];rfl)
theorem yr{F H:Hp}{vs:List V}{ds:List D}(h:aH F vs ds):jw F H vs (ds.map B.sh) where
 len:=by rw[List.length_map];exact h.length
 sh:=λi d e=>by
  obtain⟨d',e1,e2⟩:=dn e;cases e1;exact h.get e2
 own:=λi xs e=>by obtain⟨d,e1,_⟩:=dn e;cases e1
 obj:=λi o e=>by obtain⟨d,e1,_⟩:=dn e;cases e1
 dis:=λi j xs ys a e=>by obtain⟨d,e1,_⟩:=dn e;cases e1
 nQ:=λi j o p a b e=>by obtain⟨d,e1,_⟩:=dn e;cases e1
 gP:=λi j xs o a b e=>by obtain⟨d,e1,_⟩:=dn e;cases e1
theorem yD{vs:List V}{ds:List D}{c:Addr}:¬jd vs (ds.map B.sh) c:=by
 rintro(⟨i,xs,e,_⟩|⟨i,o,a,e,_⟩)
 ·obtain⟨d,e1,_⟩:=dn e;cases e1
 ·obtain⟨d,e1,_⟩:=dn e;cases e1
theorem dw.mu{x:Str}{sp:bu}(h:dw G k x sp):ux G k x (eD sp):=by
 obtain⟨f,fd,ps,h1,h2,h3,h4⟩:=h;refine⟨f,fd,ps,h1.imp λvs H Q E q=>?_,h2,h3,h4⟩;obtain⟨F,bs,Qd,s,r,⟨ds,rfl,q⟩,K⟩:=q;refine⟨F,ds,_,s,nh r,q,λv H' F' b s1 s2 s3 fr rr qq=>K v H' F' b _ s1 s2 (λc o _ e=>s3 c o e) (λc z=>absurd z yD) (yr ((nh r).mono s1)) (qH λi o e=>?_) fr rr qq⟩;obtain⟨d,e1,_⟩:=dn e;cases e1
end Vc
namespace Vc
open PySem L2
variable [KF]
mutual
def XF:D->Bool
 | .aV=>true
 | .bl _=>true
 | .int _=>true
 | .str _=>true
 | .tup xs=>oI xs
 | .lst xs=>oI xs
 | _=>false
def oI:List D->Bool
 | []=>true
 | x::xs=>XF x&&oI xs
end
mutual
theorem Rep.kQ{F F':Hp}(hs:∀c u,F c=some u->F' c=some u\/dl u=true):∀ {v:V} {d:D},Rep F v d->XF d=true->Rep F' v d
 | _,_,.aV,_=>.aV
 | _,_,.bl b,_=>.bl b
 | _,_,.int i,_=>.int i
 | _,_,.str x,_=>.str x
 | _,_,.tup h r,n=>.tup ((hs _ _ h).elim id λz=>by cases z) (aH.kQ hs r n)
 | _,_,.lst h r,n=>.lst (by
   rcases h with h|⟨o,h⟩
   ·exact .inl ((hs _ _ h).elim id λz=>by cases z)
   ·exact .inr ⟨o,(hs _ _ h).elim id λz=>by cases z⟩) (aH.kQ hs r n)
 | _,_,.iL _,n=>by cases n
 | _,_,.exc _,n=>by cases n
 | _,_,.Ho _ _,n=>by cases n
 | _,_,.gv _ _,n=>by cases n
 | _,_,.kp _ _ _,n=>by cases n
theorem aH.kQ{F F':Hp}(hs:∀c u,F c=some u->F' c=some u\/dl u=true):∀ {vs:List V} {ds:List D},aH F vs ds->oI ds=true->aH F' vs ds
 | _,_,.nil,_=>.nil
 | _,_,.cons h r,n=>by
  have n:(XF _&&oI _)=true:=n;rw[Bool.and_eq_true]at n;exact .cons (Rep.kQ hs h n.1) (aH.kQ hs r n.2)
end
def noB:B->Bool
 | .sh d=>XF d
 | .own xs=>oI xs
 | .obj _=>false
def XE:B->Bool
 | .sh _=>true
 | .own xs=>oI xs
 | .obj _=>false
inductive AV where
 | d (x:D)|n (j:Nat)|l (j:Nat)
abbrev uh:=Sd->(List AV->Sd->Prop)->Prop
inductive cQ (F:Hp)(σ:St):List V->List AV->Prop where
 | nil:cQ F σ [] []
 | d {v:V} {x:D} {vs:List V} {as:List AV}:Rep F v x->cQ F σ vs as->cQ F σ (v::vs) (.d x::as)
 | n {v:V} {j:Nat} {vs:List V} {as:List AV}:σ[j]?=some (some v)->cQ F σ vs as->cQ F σ (v::vs) (.n j::as)
 | l {v:V} {j:Nat} {vs:List V} {as:List AV}:σ[j]?=some (some v)->cQ F σ vs as->cQ F σ (v::vs) (.l j::as)
theorem cQ.length{F:Hp}{σ:St}:∀ {vs:List V} {as:List AV},cQ F σ vs as->vs.length=as.length
 | _,_,.nil=>rfl
 | _,_,.d _ r=>by simp [cQ.length r]
 | _,_,.n _ r=>by simp [cQ.length r]
 | _,_,.l _ r=>by simp [cQ.length r]
theorem cQ.gd{F:Hp}{σ:St}:∀ {vs:List V} {as:List AV} {i:Nat} {x:D},cQ F σ vs as->as[i]?=some (.d x)->∃v,vs[i]?=some v/\Rep F v x
 | _,_,_,_,.nil,e=>by simp at e
 | _,_,0,_,.d h _,e=>by simp at e;subst e;exact⟨_,by simp,h⟩
 | _,_,0,_,.n _ _,e=>by simp at e
 | _,_,0,_,.l _ _,e=>by simp at e
 | _,_,i+1,_,.d _ r,e=>by obtain⟨v,h1,h2⟩:=cQ.gd (i:=i) r (by simpa using e);exact⟨v,by simpa using h1,h2⟩
 | _,_,i+1,_,.n _ r,e=>by obtain⟨v,h1,h2⟩:=cQ.gd (i:=i) r (by simpa using e);exact⟨v,by simpa using h1,h2⟩
 | _,_,i+1,_,.l _ r,e=>by obtain⟨v,h1,h2⟩:=cQ.gd (i:=i) r (by simpa using e);exact⟨v,by simpa using h1,h2⟩
theorem cQ.gn{F:Hp}{σ:St}{j:Nat}:∀ {vs:List V} {as:List AV} {i:Nat},cQ F σ vs as->as[i]?=some (.n j)\/as[i]?=some (.l j)->∃v,vs[i]?=some v/\σ[j]?=some (some v)
 | _,_,_,.nil,e=>by simp at e
 | _,_,0,.d _ _,e=>by simp at e
 | _,_,0,.n h _,e=>by
  rcases e with e|e
  ·simp at e;subst e;exact⟨_,by simp,h⟩
  ·simp at e
 | _,_,0,.l h _,e=>by
  rcases e with e|e
  ·simp at e
  ·simp at e;subst e;exact⟨_,by simp,h⟩
 | _,_,i+1,.d _ r,e=>by obtain⟨v,h1,h2⟩:=cQ.gn (i:=i) r (by simpa using e);exact⟨v,by simpa using h1,h2⟩
 | _,_,i+1,.n _ r,e=>by obtain⟨v,h1,h2⟩:=cQ.gn (i:=i) r (by simpa using e);exact⟨v,by simpa using h1,h2⟩
 | _,_,i+1,.l _ r,e=>by obtain⟨v,h1,h2⟩:=cQ.gn (i:=i) r (by simpa using e);exact⟨v,by simpa using h1,h2⟩
def B1(σ:Sd):AV->Option B
 | .d x=>some (.sh x)
 | .n j=>match σ[j]? with
  | some (some b)=>some b
  | _=>none
 | .l j=>match σ[j]? with
  | some (some (.obj o))=>o.view.map B.sh
  | some (some (.sh d))=>some (.sh d)
  | _=>none
def eo(σ:Sd):List AV->Option (List B)
 | []=>some []
 | a::r=>match B1 σ a,eo σ r with
  | some b,some bs=>some (b::bs)
  | _,_=>none
theorem k9{σ:Sd}:∀ {as:List AV} {bs:List B},eo σ as=some bs->as.length=bs.length
 | [],_,e=>by cases e;rfl
 | a::r,bs,e=>by
  unfold eo at e
  split at e
  ·rename_i b eg e1 e2
   cases e;simp [k9 e2]
  ·cases e
theorem k8{σ:Sd}:∀ {as:List AV} {bs:List B} {i:Nat} {b:B},eo σ as=some bs->bs[i]?=some b->∃a,as[i]?=some a/\B1 σ a=some b
 | [],_,_,_,e,q=>by cases e;simp at q
 | a::r,bs,i,b,e,q=>by
  unfold eo at e
  split at e
  ·rename_i b' eg e1 e2
   cases e;cases i with
   | zero=>simp at q;subst q;exact⟨a,by simp,e1⟩
   | succ i =>
    obtain⟨a',h1,h2⟩:=k8 (i:=i) e2 (by simpa using q)
    exact⟨a',by simpa using h1,h2⟩
  ·cases e
def bJ:Sd->List AV->List B->Sd
 | σ,.n j::as,b::bs=>bJ (σ.set j (some b)) as bs
 | σ,.d _::as,_::bs=>bJ σ as bs
 | σ,.l _::as,_::bs=>bJ σ as bs
 | σ,_,_=>σ
def mK:List AV->List Nat
 | []=>[]
 | .n j::as=>j::mK as
 | .d _::as=>mK as
 | .l _::as=>mK as
def yY:List AV->List Nat
 | []=>[]
 | .n _::as=>yY as
 | .d _::as=>yY as
 | .l j::as=>j::yY as
theorem dR{j:Nat}:∀ {as:List AV} {i:Nat},as[i]?=some (.n j)->j∈mK as
 | [],_,e=>by simp at e
 | .n x::as,0,e=>by simp at e;subst e;exact .head _
 | .d _::as,0,e=>by simp at e
 | .l _::as,0,e=>by simp at e
 | .n x::as,i+1,e=>.tail _ (dR (i:=i) (by simpa using e))
 | .d _::as,i+1,e=>dR (as:=as) (i:=i) (by simpa using e)
 | .l _::as,i+1,e=>dR (as:=as) (i:=i) (by simpa using e)
theorem nv{j:Nat}:∀ {as:List AV} {i:Nat},as[i]?=some (.l j)->j∈yY as
 | [],_,e=>by simp at e
 | .l x::as,0,e=>by simp at e;subst e;exact .head _
 | .d _::as,0,e=>by simp at e
 | .n _::as,0,e=>by simp at e
 | .l x::as,i+1,e=>.tail _ (nv (i:=i) (by simpa using e))
 | .d _::as,i+1,e=>nv (as:=as) (i:=i) (by simpa using e)
 | .n _::as,i+1,e=>nv (as:=as) (i:=i) (by simpa using e)
theorem jQ{j:Nat}:∀ {as:List AV},j∈mK as->∃i:Nat,as[i]?=some (AV.n j)
 | [],e=>by cases e
 | .n x::as,e=>by
  rcases List.mem_cons.mp e with rfl|e
  ·exact⟨0,rfl⟩
  ·obtain⟨i,h⟩:=jQ e;exact⟨i+1,by simpa using h⟩
 | .d _::as,e=>by obtain⟨i,h⟩:=jQ (as:=as) e;exact⟨i+1,by simpa using h⟩
 | .l _::as,e=>by obtain⟨i,h⟩:=jQ (as:=as) e;exact⟨i+1,by simpa using h⟩
theorem jP{j:Nat}:∀ {as:List AV} {i i':Nat},(mK as).Nodup->as[i]?=some (.n j)->as[i']?=some (.n j)->i=i'
 | [],_,_,_,e,_=>by simp at e
 | .n x::as,0,0,_,_,_=>rfl
 | .n x::as,0,i'+1,nd,e,e'=>by
  simp at e;subst e;exact absurd (dR (as:=as) (i:=i') (by simpa using e')) (List.nodup_cons.mp nd).1
 | .n x::as,i+1,0,nd,e,e'=>by
  simp at e';subst e';exact absurd (dR (as:=as) (i:=i) (by simpa using e)) (List.nodup_cons.mp nd).1
 | .n x::as,i+1,i'+1,nd,e,e'=>congrArg (·+1) (jP (as:=as) (i:=i) (i':=i') (List.nodup_cons.mp nd).2 (by simpa using e) (by simpa using e'))
 | .d _::as,0,_,_,e,_=>by simp at e
 | .d _::as,_+1,0,_,_,e=>by simp at e
 | .d _::as,i+1,i'+1,nd,e,e'=>congrArg (·+1) (jP (as:=as) (i:=i) (i':=i') nd (by simpa using e) (by simpa using e'))
 | .l _::as,0,_,_,e,_=>by simp at e
 | .l _::as,_+1,0,_,_,e=>by simp at e
 | .l _::as,i+1,i'+1,nd,e,e'=>congrArg (·+1) (jP (as:=as) (i:=i) (i':=i') nd (by simpa using e) (by simpa using e'))
theorem gk:∀(σ:Sd) (as:List AV) (bs:List B),(bJ σ as bs).length=σ.length
 | σ,[],_=>by unfold bJ;rfl
 | σ,.n j::as,[]=>by unfold bJ;rfl
 | σ,.d _::as,[]=>by unfold bJ;rfl
 | σ,.l _::as,[]=>by unfold bJ;rfl
 | σ,.n j::as,b::bs=>by
  show(bJ (σ.set j (some b)) as bs).length=_;rw[gk];simp
 | σ,.d _::as,b::bs=>gk σ as bs
 | σ,.l _::as,b::bs=>gk σ as bs
theorem dM{m:Nat}:∀(σ:Sd) (as:List AV) (bs:List B),m∉mK as->(bJ σ as bs)[m]?=σ[m]?
 | σ,[],_,_=>by unfold bJ;rfl
 | σ,.n j::as,[],_=>by unfold bJ;rfl
 | σ,.d _::as,[],_=>by unfold bJ;rfl
 | σ,.l _::as,[],_=>by unfold bJ;rfl
 | σ,.n j::as,b::bs,h=>by
  have h:m≠j/\m∉mK as:=by simpa [mK]using h
  show(bJ (σ.set j (some b)) as bs)[m]?=_;rw[dM _ as bs h.2,List.getElem?_set_ne (Ne.symm h.1)]
 | σ,.d _::as,b::bs,h=>dM σ as bs h
 | σ,.l _::as,b::bs,h=>dM σ as bs h
theorem fL{m:Nat}{b:B}:∀(σ:Sd) (as:List AV) (bs:List B) (i:Nat),(mK as).Nodup->as[i]?=some (.n m)->bs[i]?=some b->m<σ.length->(bJ σ as bs)[m]?=some (some b)
 | σ,[],_,i,_,e,_,_=>by simp at e
 | σ,_::_,[],i,_,_,e,_=>by simp at e
 | σ,.n j::as,c::bs,0,nd,e,e',hl=>by
  simp at e e';subst e e';show(bJ (σ.set j (some c)) as bs)[j]?=_;rw[dM _ as bs (List.nodup_cons.mp nd).1,List.getElem?_set_self hl]
 | σ,.n j::as,c::bs,i+1,nd,e,e',hl=>fL (σ.set j (some c)) as bs i (List.nodup_cons.mp nd).2 (by simpa using e) (by simpa using e') (by simpa using hl)
 | σ,.d _::as,c::bs,0,_,e,_,_=>by simp at e
 | σ,.d _::as,c::bs,i+1,nd,e,e',hl=>fL σ as bs i nd (by simpa using e) (by simpa using e') hl
 | σ,.l _::as,c::bs,0,_,e,_,_=>by simp at e
 | σ,.l _::as,c::bs,i+1,nd,e,e',hl=>fL σ as bs i nd (by simpa using e) (by simpa using e') hl
def ZY(Y:bP)(t:uh):TA:=λσ H Q=>∃F ai Qd,RS Y F ai σ H/\t ai Qd/\∀vs H' F' as aI,aw F F'->RS Y F' aI σ H'->cQ F' σ vs as->Qd as aI->Q vs H'
structure GF(G:GE)(k:Nat)(S:Stat)(es:List Expr)(t:uh):Prop where
 run:∀X Y,eG X G k S Y->PA X es (ZY Y t)
variable {G:GE}{k:Nat}{S:Stat}
def jt:uh:=λσ Q=>Q [] σ
def mj(t:TD)(u:uh):uh:=λσ Q=>t σ λx ax=>u ax λas aO=>Q (.d x::as) aO
def tAn(j:Nat)(u:uh):uh:=λσ Q=>(∃b,σ[j]?=some (some b))/\u σ λas aO=>Q (.n j::as) aO
def GY(j:Nat)(u:uh):uh:=λσ Q=>(∃b,σ[j]?=some (some b))/\u σ λas aO=>Q (.l j::as) aO
theorem RS.bound{Y:bP}{F:Hp}{ai:Sd}{σ:St}{H:Hp}(R:RS Y F ai σ H){j:Nat}{b:B}(e:ai[j]?=some (some b)):∃v,σ[j]?=some (some v):=by
 cases b with
 | sh d=>obtain⟨v,h,_⟩:=R.sh j d e;exact⟨v,h⟩
 | own xs=>obtain⟨a,_,h,_⟩:=R.own j xs e;exact⟨_,h⟩
 | obj o=>obtain⟨a,h,_⟩:=R.ob.obj j o e;exact⟨_,h⟩
theorem cX:GF G k S [] jt:=⟨λX Y ok=>gZ g0 λσ H Q q=>by
 obtain⟨F,ai,Qd,R,q,K⟩:=q;exact K [] H F [] ai (aw.refl _) R .nil q⟩
theorem eh{e:Expr}{es:List Expr}{t:TD}{u:uh}(h:ED G k S e t)(hs:GF G k S es u)(he:∀env,starEach (e::es) env=(false,eval e env)::starEach es env:=by exactλ_=>Vc.cH rfl):GF G k S (e::es) (mj t u):=⟨λX Y ok =>
 gZ (cV (h X Y ok) (hs.run X Y ok) (he _)) λσ H Q q=>by
  obtain⟨F,ai,Qd,R,q,K⟩:=q;refine⟨F,ai,_,R,q,λv1 H1 F1 x ax s1 R1 r1 q1=>?_⟩;refine⟨F1,ax,_,R1,q1,λvs H2 F2 as aO s2 R2 r2 q2=>?_⟩;exact K _ H2 F2 _ aO (s1.trans s2) R2 (.d (r1.mono s2) r2) q2⟩
section
variable {x:Str}{es:List Expr}{u:uh}{pos:Pos}
theorem Vp(j:Nat)(hs:GF G k S es u)(hN:S.N[j]?=some x:=by rfl)(hv:S.sc.lookup x=some .local\/S.sc.lookup x=some .cell\/S.sc.lookup x=some .free:=by first|exact Or.inl rfl|exact Or.inr (Or.inl rfl)|exact Or.inr (Or.inr rfl))
  (hd:(x==("__debug__":Str))=false:=by decide) (gG:(x==("__classdict__":Str))=false:=by decide) (he:∀env,starEach (.Name x pos::es) env=(false,eval (.Name x pos) env)::starEach es env:=by exactλ_=>Vc.cH rfl):GF G k S (.Name x pos::es) (tAn j u):=⟨λX Y ok =>
 gZ (cV (g9 (X:=X) (i:=j) (by rw[ok.N];exact hN) (by unfold GI;rw[ok.sc];exact hv) hd gG) (hs.run X Y ok) (he _)) λσ H Q q=>by
  obtain⟨F,ai,Qd,R,⟨⟨b,e⟩,q⟩,K⟩:=q;obtain⟨v,ev⟩:=R.bound e;refine⟨v,ev,F,ai,_,R,q,λvs H2 F2 as aO s2 R2 r2 q2=>?_⟩;exact K _ H2 F2 _ aO s2 R2 (.n ev r2) q2⟩
theorem uG(j:Nat)(hs:GF G k S es u)(hN:S.N[j]?=some x:=by rfl)(hv:S.sc.lookup x=some .local\/S.sc.lookup x=some .cell\/S.sc.lookup x=some .free:=by first|exact Or.inl rfl|exact Or.inr (Or.inl rfl)|exact Or.inr (Or.inr rfl))
  (hd:(x==("__debug__":Str))=false:=by decide) (gG:(x==("__classdict__":Str))=false:=by decide) (he:∀env,starEach (.Name x pos::es) env=(false,eval (.Name x pos) env)::starEach es env:=by exactλ_=>Vc.cH rfl):GF G k S (.Name x pos::es) (GY j u):=⟨λX Y ok =>
 gZ (cV (g9 (X:=X) (i:=j) (by rw[ok.N];exact hN) (by unfold GI;rw[ok.sc];exact hv) hd gG) (hs.run X Y ok) (he _)) λσ H Q q=>by
  obtain⟨F,ai,Qd,R,⟨⟨b,e⟩,q⟩,K⟩:=q;obtain⟨v,ev⟩:=R.bound e;refine⟨v,ev,F,ai,_,R,q,λvs H2 F2 as aO s2 R2 r2 q2=>?_⟩;exact K _ H2 F2 _ aO s2 R2 (.l ev r2) q2⟩
end
def Bu(ai:Sd)(σ:St)(js:List Nat)(c:Addr):Prop:=∃j∈js,∃(o:O) (a:Addr),ai[j]?=some (some (.obj o))/\σ[j]?=some (some (.ref a))/\c∈o.fp a
theorem vE{Y:bP}{F:Hp}{ai:Sd}{σ:St}{H:Hp}(R:RS Y F ai σ H):∀js:List Nat,∃F2,aw F F2/\aw F2 H/\(∀j∈js,∀(o:O) (d:D) (a:Addr),ai[j]?=some (some (.obj o))->o.view=some d->σ[j]?=some (some (.ref a))->Rep F2 (.ref a) d) /\
  (∀c u,F2 c=some u->F c=some u\/(dl u=true/\Bu ai σ js c))/\(js=[]->F2=F)
 | []=>⟨F,aw.refl _,R.fr,(λj hj=>by cases hj),(λc u z=>.inl z),λ_=>rfl⟩
 | j::js=>by
  obtain⟨F2,s1,s2,h1,h2,_⟩:=vE R js
  by_cases hq:∃o d,ai[j]?=some (some (.obj o))/\o.view=some d
  ·obtain⟨o,d,e1,e2⟩:=hq
   obtain⟨a,w1,w2,w3⟩:=R.ob.obj j o e1;have w2':o.rep F2 H a:=o.mono s1 (λ_ _=>rfl) w2;obtain⟨F3,s3,s4,r3,h3⟩:=o.lend s2 w2' e2;refine⟨F3,s1.trans s3,s4,λi hi o' d' a' f1 f2 f3=>?_,λc u z=>?_,λz=>nomatch z⟩
   ·rcases List.mem_cons.mp hi with rfl|hi
    ·rw[e1]at f1;cases f1
     rw[e2]at f2;cases f2;rw[w1]at f3;cases f3;exact r3
    ·exact(h1 i hi o' d' a' f1 f2 f3).mono s3
   ·rcases h3 c u z with z|⟨z1,z2⟩
    ·rcases h2 c u z with z|⟨z1,i,hi,z2⟩
     ·exact .inl z
     ·exact .inr ⟨z1,i,.tail _ hi,z2⟩
    ·exact .inr ⟨z1,j,.head _,o,a,e1,w1,z2⟩
  ·refine⟨F2,s1,s2,λi hi o' d' a' f1 f2 f3=>?_,λc u z=>?_,λz=>nomatch z⟩
   ·rcases List.mem_cons.mp hi with rfl|hi
    ·exact absurd ⟨o',d',f1,f2⟩ hq
    ·exact h1 i hi o' d' a' f1 f2 f3
   ·rcases h2 c u z with z|⟨z1,i,hi,z2⟩
    ·exact .inl z
    ·exact .inr ⟨z1,i,.tail _ hi,z2⟩
theorem B2{σ:Sd}{j:Nat}{b:B}(h:B1 σ (.n j)=some b):σ[j]?=some (some b):=by
 have h:(match σ[j]? with|some (some b)=>some b|_=>none)=some b:=h
 split at h
 ·rename_i b' e;cases h;exact e
 ·cases h
theorem Mm{σ:Sd}{j:Nat}{b:B}(h:B1 σ (.l j)=some b):∃d,b=.sh d/\(σ[j]?=some (some (.sh d))\/∃o,σ[j]?=some (some (.obj o))/\o.view=some d):=by
 have h:(match σ[j]? with|some (some (.obj o))=>o.view.map B.sh|some (some (.sh d))=>some (.sh d)|_=>none)=some b:=h
 split at h
 ·rename_i o e
  obtain⟨d,h1,h2⟩:=Option.map_eq_some_iff.mp h;exact⟨d,h2.symm,.inr ⟨o,e,h1⟩⟩
 ·rename_i d e;cases h;exact⟨d,rfl,.inl e⟩
 ·cases h
theorem xa{Y:bP}{F:Hp}{ai:Sd}{σ:St}{H:Hp}(R:RS Y F ai σ H){vs:List V}{as:List AV}{bs:List B}(ra:cQ F σ vs as)(ea:eo ai as=some bs){i:Nat}{b:B}(e:bs[i]?=some b):
  (∃d v,b=.sh d/\vs[i]?=some v/\(Rep F v d\/∃(j:Nat) (o:O) (a:Addr),as[i]?=some (.l j)/\v=.ref a/\ai[j]?=some (some (.obj o))/\σ[j]?=some (some (.ref a))/\o.view=some d)) \/
  ∃(j:Nat) (v:V),as[i]?=some (.n j)/\ai[j]?=some (some b)/\vs[i]?=some v/\σ[j]?=some (some v):=by
 obtain⟨a,h1,h2⟩:=k8 ea e;cases a with
 | d x =>
  cases h2;obtain⟨v,g1,g2⟩:=ra.gd h1;exact .inl ⟨x,v,rfl,g1,.inl g2⟩
 | n j =>
  obtain⟨v,g1,g2⟩:=ra.gn (.inl h1);exact .inr ⟨j,v,h1,B2 h2,g1,g2⟩
 | l j =>
  obtain⟨d,rfl,h3⟩:=Mm h2;obtain⟨v,g1,g2⟩:=ra.gn (.inr h1);refine .inl ⟨d,v,rfl,g1,?_⟩;rcases h3 with h3|⟨o,h3,h4⟩
  ·obtain⟨v',f1,f2⟩:=R.sh j d h3
   rw[g2]at f1;cases f1;exact .inl f2
  ·obtain⟨a,f1,_⟩:=R.ob.obj j o h3
   rw[g2]at f1;cases f1;exact .inr ⟨j,o,a,h1,rfl,h3,g2,h4⟩
theorem G8{Y:bP}{F F2:Hp}{ai:Sd}{σ:St}{H:Hp}(R:RS Y F ai σ H){vs:List V}{as:List AV}{bs:List B}(ra:cQ F σ vs as)(ea:eo ai as=some bs)(nd:(mK as).Nodup)(hl:∀j∈yY as,j∉mK as)
  (s1:aw F F2) (h1:∀j∈yY as,∀(o:O) (d:D) (a:Addr),ai[j]?=some (some (.obj o))->o.view=some d->σ[j]?=some (some (.ref a))->Rep F2 (.ref a) d) (h2:∀c u,F2 c=some u->F c=some u\/(dl u=true/\Bu ai σ (yY as) c)):jw F2 H vs bs:=by
 have vQ:∀ {i:Nat} {b:B},bs[i]?=some b->(∀d,b≠.sh d)->∃j v,as[i]?=some (.n j)/\ai[j]?=some (some b)/\vs[i]?=some v/\σ[j]?=some (some v):=λe n=>by
  rcases xa R ra ea e with⟨d,v,z,_⟩|z
  ·exact absurd z (n d)
  ·exact z
 have free:∀ {j:Nat} {c:Addr},j∉yY as->F c=none->(∀i∈yY as,∀(o:O) (a:Addr),ai[i]?=some (some (.obj o))->σ[i]?=some (some (.ref a))->c∉o.fp a)->F2 c=none:=λ{j c} _ e n=>by
  cases q:F2 c with
  | none=>rfl
  | some u =>
   rcases h2 c u q with z|⟨_,i,hi,o,a,f1,f2,f3⟩
   ·rw[e]at z;cases z
   ·exact absurd f3 (n i hi o a f1 f2)
 refine⟨ra.length.trans (k9 ea),λi d e=>?_,λi xs e=>?_,λi o e=>?_,λi j xs ys a e1 e2 e3 e4=>?_,λi j o p a b e1 e2 e3 e4 lC=>?_,λi j xs o a b e1 e2 e3 e4=>?_⟩
 ·rcases xa R ra ea e with⟨d',v,z,g1,g2⟩|⟨j,v,g1,g2,g3,g4⟩
  ·cases z
   refine⟨v,g1,?_⟩;rcases g2 with g2|⟨j,o,a,f1,rfl,f3,f4,f5⟩
   ·exact g2.mono s1
   ·exact h1 j (nv f1) o d a f3 f5 f4
  ·obtain⟨v',f1,f2⟩:=R.sh j d g2
   rw[g4]at f1;cases f1;exact⟨v,g3,f2.mono s1⟩
 ·obtain⟨j,v,g1,g2,g3,g4⟩:=vQ e (λd z=>nomatch z)
  obtain⟨a,us,f1,f2,f3,f4,f5⟩:=R.own j xs g2;rw[g4]at f1;cases f1;refine⟨a,us,g3,f2,f3.mono s1,free (j:=j) (λz=>hl j z (dR g1)) f4 λi hi o b q1 q2 q3=>R.ob.gP j xs a g2 g4 ⟨i,o,b,q1,q2,q3⟩⟩
 ·obtain⟨j,v,g1,g2,g3,g4⟩:=vQ e (λd z=>nomatch z)
  obtain⟨a,f1,f2,f3⟩:=R.ob.obj j o g2;rw[g4]at f1;cases f1;refine⟨a,g3,o.mono s1 (λ_ _=>rfl) f2,λc hc=>⟨free (j:=j) (λz=>hl j z (dR g1)) (f3 c hc).1 λi hi p b q1 q2 q3=>?_,(f3 c hc).2.1⟩⟩;exact R.ob.nQ j i o p a b g2 q1 g4 q2 (λz=>hl i hi (z ▸ dR g1)) c hc q3
 ·obtain⟨m,v,g1,g2,g3,g4⟩:=vQ e1 (λd z=>nomatch z)
  obtain⟨n,w,y1,y2,y3,y4⟩:=vQ e2 (λd z=>nomatch z);rw[e3]at g3;cases g3;rw[e4]at y3;cases y3;have:=R.dis m n xs ys a g2 y2 g4 y4;subst this;exact jP nd g1 y1
 ·obtain⟨m,v,g1,g2,g3,g4⟩:=vQ e1 (λd z=>nomatch z)
  obtain⟨n,w,y1,y2,y3,y4⟩:=vQ e2 (λd z=>nomatch z);rw[e3]at g3;cases g3;rw[e4]at y3;cases y3;exact R.ob.nQ m n o p a b g2 y2 g4 y4 λz=>lC (jP nd g1 (z ▸ y1))
 ·obtain⟨m,v,g1,g2,g3,g4⟩:=vQ e1 (λd z=>nomatch z)
  obtain⟨n,w,y1,y2,y3,y4⟩:=vQ e3 (λd z=>nomatch z);rw[e2]at g3;cases g3;rw[e4]at y3;cases y3;exactλz=>R.ob.gP m xs b g2 g4 ⟨n,o,a,y2,y4,z⟩
end Vc
namespace Vc
open PySem L2
variable [KF]
section
variable {Y:bP}{F:Hp}{ai:Sd}{σ:St}{H:Hp}{vs:List V}{as:List AV}{bs eg:List B}
theorem rB(R:RS Y F ai σ H)(ra:cQ F σ vs as)(ea:eo ai as=some bs){i:Nat}{b:B}(e:bs[i]?=some b)(n:∀d,b≠.sh d):∃j v,as[i]?=some (.n j)/\ai[j]?=some (some b)/\vs[i]?=some v/\σ[j]?=some (some v):=by
 rcases xa R ra ea e with⟨d,v,z,_⟩|z
 ·exact absurd z (n d)
 ·exact z
theorem yq(ra:cQ F σ vs as)(ea:eo ai as=some bs){i m:Nat}(e:as[i]?=some (.n m)):∃b v,bs[i]?=some b/\ai[m]?=some (some b)/\vs[i]?=some v/\σ[m]?=some (some v):=by
 have hi:i<bs.length:=by rw[<- k9 ea];exact(List.getElem?_eq_some_iff.mp e).1
 have hb:bs[i]?=some bs[i]:=List.getElem?_eq_getElem hi;obtain⟨a,h1,h2⟩:=k8 ea hb;rw[e]at h1;cases h1;obtain⟨v,g1,g2⟩:=ra.gn (.inl e);exact⟨_,v,hb,B2 h2,g1,g2⟩
theorem rE(ra:cQ F σ vs as)(ea:eo ai as=some bs)(nd:(mK as).Nodup)(lk:dy bs eg){m:Nat}{b:B}(e:(bJ ai as eg)[m]?=some (some b)):(m∉mK as/\ai[m]?=some (some b))\/∃i:Nat,as[i]?=some (AV.n m)/\eg[i]?=some b:=by
 by_cases hm:m∈mK as
 ·obtain⟨i,hi⟩:=jQ hm
  obtain⟨c,v,g1,g2,_⟩:=yq ra ea hi;have hl:i<eg.length:=by rw[<- lk.len];exact(List.getElem?_eq_some_iff.mp g1).1
  have hb:eg[i]?=some eg[i]:=List.getElem?_eq_getElem hl;have:=fL ai as eg i nd hi hb (List.getElem?_eq_some_iff.mp g2).1;rw[this]at e;cases e;exact .inr ⟨i,hi,hb⟩
 ·rw[dM _ _ _ hm]at e
  exact .inl ⟨hm,e⟩
theorem uH(R:RS Y F ai σ H)(ra:cQ F σ vs as)(ea:eo ai as=some bs)(nd:(mK as).Nodup)(lk:dy bs eg){m:Nat}{p:O}(e:(bJ ai as eg)[m]?=some (some (.obj p))):∃o,ai[m]?=some (some (.obj o))/\p.fp=o.fp:=by
 rcases rE ra ea nd lk e with⟨_,e⟩|⟨i,h1,h2⟩
 ·exact⟨p,e,rfl⟩
 ·obtain⟨o,h3,h4,_⟩:=lk.AK h2
  obtain⟨j,v,g1,g2,_⟩:=rB R ra ea h3 (λd z=>nomatch z);rw[h1]at g1;cases g1;exact⟨o,g2,h4⟩
theorem uI(R:RS Y F ai σ H)(ra:cQ F σ vs as)(ea:eo ai as=some bs)(nd:(mK as).Nodup)(lk:dy bs eg){m:Nat}{ys:List D}(e:(bJ ai as eg)[m]?=some (some (.own ys))):∃xs,ai[m]?=some (some (.own xs)):=by
 rcases rE ra ea nd lk e with⟨_,e⟩|⟨i,h1,h2⟩
 ·exact⟨ys,e⟩
 ·obtain⟨xs,h3⟩:=lk.AX h2
  obtain⟨j,v,g1,g2,_⟩:=rB R ra ea h3 (λd z=>nomatch z);rw[h1]at g1;cases g1;exact⟨xs,g2⟩
theorem yu(R:RS Y F ai σ H)(ra:cQ F σ vs as)(ea:eo ai as=some bs)(nd:(mK as).Nodup)(lk:dy bs eg){a:Addr}(h:H a=none):fB (bJ ai as eg) σ a:=by
 refine⟨λj ys e z=>?_,λ⟨j,p,c,e1,e2,hm⟩=>?_⟩
 ·obtain⟨xs,e'⟩:=uI R ra ea nd lk e
  obtain⟨c,us,f1,f2,_⟩:=R.own j xs e';rw[z]at f1;cases f1;rw[f2]at h;cases h
 ·obtain⟨o,f1,f2⟩:=uH R ra ea nd lk e1
  obtain⟨c',g1,_,g3⟩:=R.ob.obj j o f1;rw[e2]at g1;cases g1;exact(g3 a (by rw[<- f2];exact hm)).2.1 h
end
theorem RS.Mp{Y:bP}{F F':Hp}{ai:Sd}{σ:St}{H H':Hp}(R:RS Y F ai σ H){vs:List V}{as:List AV}{bs eg:List B}(ra:cQ F σ vs as)(ea:eo ai as=some bs)(nd:(mK as).Nodup)(lk:dy bs eg)
  (s1:aw F F') (s2:aw F' H') (fm:∀c o,¬jd vs bs c->H c=some o->H' c=some o) (fn:∀c,jd vs bs c->H' c≠none) (fr:∀c o,F' c=some o->F c=some o\/Nw H c o)
  (ow:∀(i:Nat) (xs:List D),eg[i]?=some (.own xs)->∃a us,vs[i]?=some (.ref a)/\H' a=some (.lst us)/\aH F' us xs/\F' a=none)
  (oj:∀(i:Nat) (o:O),eg[i]?=some (.obj o)->∃a,vs[i]?=some (.ref a)/\o.rep F' H' a/\∀c∈o.fp a,F' c=none/\H' c≠none):RS Y F' (bJ ai as eg) σ H':=by
 have vQ:∀ {i:Nat} {b:B},bs[i]?=some b->(∀d,b≠.sh d)->∃j v,as[i]?=some (.n j)/\ai[j]?=some (some b)/\vs[i]?=some v/\σ[j]?=some (some v):=λe n=>rB R ra ea e n;have inn:∀ {i m:Nat},as[i]?=some (.n m)->∃b v,bs[i]?=some b/\ai[m]?=some (some b)/\vs[i]?=some v/\σ[m]?=some (some v):=λe=>yq ra ea e;have st:∀ {m:Nat} {b:B},(bJ ai as eg)[m]?=some (some b)->(m∉mK as/\ai[m]?=some (some b))\/∃i:Nat,as[i]?=some (AV.n m)/\eg[i]?=some b:=λe=>rE ra ea nd lk e;have stO:∀ {m:Nat} {p:O},(bJ ai as eg)[m]?=some (some (.obj p))->∃o,ai[m]?=some (some (.obj o))/\p.fp=o.fp:=λe=>uH R ra ea nd lk e;have stX:∀ {m:Nat} {ys:List D},(bJ ai as eg)[m]?=some (some (.own ys))->∃xs,ai[m]?=some (some (.own xs)):=λe=>uI R ra ea nd lk e
 -- what is no argument is not touched
 have nfx:∀ {m:Nat} {xs:List D} {a:Addr},m∉mK as->ai[m]?=some (some (.own xs))->σ[m]?=some (some (.ref a))->¬jd vs bs a:=λ{m xs a} hm e1 e2 z=>by
  rcases z with⟨i,ys,z1,z2⟩|⟨i,o,b,z1,z2,z3⟩
  ·obtain⟨j,v,g1,g2,g3,g4⟩:=vQ z1 (λd z=>nomatch z)
   rw[z2]at g3;cases g3;have:=R.dis m j xs ys a e1 g2 e2 g4;exact hm (this ▸ dR g1)
  ·obtain⟨j,v,g1,g2,g3,g4⟩:=vQ z1 (λd z=>nomatch z)
   rw[z2]at g3;cases g3;exact R.ob.gP m xs a e1 e2 ⟨j,o,b,g2,g4,z3⟩
 have nfo:∀ {m:Nat} {o:O} {a c:Addr},m∉mK as->ai[m]?=some (some (.obj o))->σ[m]?=some (some (.ref a))->c∈o.fp a->¬jd vs bs c:=λ{m o a c} hm e1 e2 hc z=>by
  rcases z with⟨i,ys,z1,z2⟩|⟨i,p,b,z1,z2,z3⟩
  ·obtain⟨j,v,g1,g2,g3,g4⟩:=vQ z1 (λd z=>nomatch z)
   rw[z2]at g3;cases g3;exact R.ob.gP j ys c g2 g4 ⟨m,o,a,e1,e2,hc⟩
  ·obtain⟨j,v,g1,g2,g3,g4⟩:=vQ z1 (λd z=>nomatch z)
   rw[z2]at g3;cases g3;exact R.ob.nQ m j o p a b e1 g2 e2 g4 (λy=>hm (y ▸ dR g1)) c hc z3
 have up:∀ {c:Addr},H c≠none->H' c≠none:=λ{c} h=>by
  by_cases hf:jd vs bs c
  ·exact fn c hf
  ·cases q:H c with
   | none=>exact absurd q h
   | some o=>rw[fm c o hf q];exactλz=>nomatch z
 have kp:∀ {c:Addr},¬jd vs bs c->H c≠none->H' c=H c:=λ{c} hf h=>by
  cases q:H c with
  | none=>exact absurd q h
  | some o=>exact fm c o hf q
 have fz:∀ {c:Addr},¬jd vs bs c->F c=none->H c≠none->(∀us,H c≠some (.tup us))->F' c=none:=λ{c} hf h1 h2 h3=>by
  cases q:F' c with
  | none=>rfl
  | some o =>
   rcases fr c o q with w|w|⟨us,rfl⟩
   ·rw[h1]at w;cases w
   ·exact absurd w h2
   ·have:=s2 c _ q
    rw[kp hf h2]at this;exact absurd this (h3 us)
 have aa3:∀ {c:Addr},jd vs bs c->Y.H0 c=none\/c∈Y.D8:=λ{c} z=>by
  rcases z with⟨i,ys,z1,z2⟩|⟨i,p,b,z1,z2,z3⟩
  ·obtain⟨j,v,g1,g2,g3,g4⟩:=vQ z1 (λd z=>nomatch z)
   rw[z2]at g3;cases g3;obtain⟨a,us,f1,_,_,_,f5⟩:=R.own j ys g2;rw[g4]at f1;cases f1;exact f5.imp id λy=>List.mem_append_left _ y
  ·obtain⟨j,v,g1,g2,g3,g4⟩:=vQ z1 (λd z=>nomatch z)
   rw[z2]at g3;cases g3;obtain⟨a,f1,_,f3⟩:=R.ob.obj j p g2;rw[g4]at f1;cases f1;exact(f3 c z3).2.2.imp id λy=>List.mem_append_right _ y
 refine⟨by rw[gk];exact R.len,R.lo.trans s1,s2,λb o q=>?_,λb o q n=>?_,λm d e=>?_,λm ys e=>?_,λm n ys zs a e1 e2 e3 e4=>?_,λp hp=>?_,⟨λm p e=>?_,λm n p q a b e1 e2 e3 e4 dk c hc GN=>?_,λn ys b e1 e2 ⟨m,p,a,e3,e4,hm⟩=>?_,λb hb=>up (R.ob.there b hb),R.ob.Gf,R.ob.tab.mono s1⟩⟩
 ·rcases fr b o q with h|h
  ·exact R.fW b o h
  ·exact .inr (h.imp (λh=>(R.bX h).1) id)
 ·refine fm b o (λz=>?_) (R.old b o q n)
  rcases aa3 z with y|y
  ·rw[q]at y;cases y
  ·exact n y
 ·have e0:ai[m]?=some (some (.sh d)):=by
   rcases st e with⟨_,e⟩|⟨i,h1,h2⟩
   ·exact e
   ·obtain⟨b,v,g1,g2,_⟩:=inn h1
    rw[lk.shr h2]at g1;cases g1;exact g2
  obtain⟨v,h1,h2⟩:=R.sh m d e0;exact⟨v,h1,h2.mono s1⟩
 ·rcases st e with⟨hm,e⟩|⟨i,h1,h2⟩
  ·obtain⟨a,us,g1,g2,g3,g4,g5⟩:=R.own m ys e
   have nf:=nfx hm e g1;exact⟨a,us,g1,fm a _ nf g2,g3.mono s1,fz nf g4 (by rw[g2];exactλz=>nomatch z) (λus z=>by rw[g2]at z;cases z),g5⟩
  ·obtain⟨a,us,g1,g2,g3,g4⟩:=ow i ys h2
   obtain⟨xs,h3⟩:=lk.AX h2;obtain⟨j,v,f1,f2,f3,f4⟩:=vQ h3 (λd z=>nomatch z);rw[h1]at f1;cases f1;rw[g1]at f3;cases f3;obtain⟨a',Gk,k1,_,_,_,k5⟩:=R.own m xs f2;rw[f4]at k1;cases k1;exact⟨a,us,f4,g2,g3,g4,k5⟩
 ·obtain⟨xs,h1⟩:=stX e1
  obtain⟨Zx,h2⟩:=stX e2;exact R.dis m n xs Zx a h1 h2 e3 e4
 ·obtain⟨h1,xs,h2⟩:=R.io p hp
  refine⟨h1,?_⟩
  by_cases hm:p.1∈mK as
  ·obtain⟨i,hi⟩:=jQ hm
   obtain⟨b,v,g1,g2,_⟩:=inn hi;rw[h2]at g2;cases g2;obtain⟨ys,h3⟩:=lk.Ye g1;exact⟨ys,fL ai as eg i nd hi h3 (List.getElem?_eq_some_iff.mp h2).1⟩
  ·exact⟨xs,by rw[dM _ _ _ hm];exact h2⟩
 ·rcases st e with⟨hm,e⟩|⟨i,h1,h2⟩
  ·obtain⟨a,g1,g2,g3⟩:=R.ob.obj m p e
   have nf:∀c∈p.fp a,¬jd vs bs c:=λc hc=>nfo hm e g1 hc;refine⟨a,g1,p.mono s1 (λc hc=>kp (nf c hc) (g3 c hc).2.1) g2,λc hc=>⟨fz (nf c hc) (g3 c hc).1 (g3 c hc).2.1 (λus z=>p.nt g2 hc z),up (g3 c hc).2.1,(g3 c hc).2.2⟩⟩
  ·obtain⟨a,g1,g2,g3⟩:=oj i p h2
   obtain⟨o,h3,h4,_⟩:=lk.AK h2;obtain⟨j,v,f1,f2,f3,f4⟩:=vQ h3 (λd z=>nomatch z);rw[h1]at f1;cases f1;rw[g1]at f3;cases f3;obtain⟨a',k1,_,k3⟩:=R.ob.obj m o f2;rw[f4]at k1;cases k1;exact⟨a,f4,g2,λc hc=>⟨(g3 c hc).1,(g3 c hc).2,(k3 c (by rw[<- h4];exact hc)).2.2⟩⟩
 ·obtain⟨o,f1,f2⟩:=stO e1
  obtain⟨o',f3,f4⟩:=stO e2;exact R.ob.nQ m n o o' a b f1 f3 e3 e4 dk c (by rw[<- f2];exact hc) (by rw[<- f4];exact GN)
 ·obtain⟨xs,h1⟩:=stX e1
  obtain⟨o,f1,f2⟩:=stO e3;exact R.ob.gP n xs b h1 e2 ⟨m,o,a,f1,e4,by rw[<- f2];exact hm⟩
variable {G:GE}{k:Nat}{S:Stat}
def CM(sp:jx)(bs:List B)(Q:B->List B->Prop):Prop:=sp bs Q
def mB(sp:jx)(as:List AV)(σ:Sd)(Q:EV->Sd->Prop):Prop:=match eo σ as with
 | some bs=>(mK as).Nodup/\(∀j∈yY as,j∉mK as)/\CM sp bs λb eg=>(yY as=[]\/(noB b=true/\eg.all XE=true))/\Q (bE b) (bJ σ as eg)
 | none=>False
theorem gO{Y:bP}{F:Hp}{ai:Sd}{σ:St}{H:Hp}{sp:jx}{as:List AV}{vs:List V}{Qd:EV->Sd->Prop}{Q:VK}{E:XK}(R:RS Y F ai σ H)(ra:cQ F σ vs as)(q:mB sp as ai Qd)
  (K:∀v H' F' x aI,aw F F'->RS Y F' aI σ H'->G5 Y F' H' aI σ v x->Qd x aI->Q v H'):c5 sp vs H Q E:=by
 unfold mB at q
 split at q
 ·rename_i bs ea
  obtain⟨nd,hl,q⟩:=q;obtain⟨F2,s1,s2,h1,h2,h3⟩:=vE R (yY as);have ar:=G8 R ra ea nd hl s1 h1 h2;refine⟨F2,bs,_,⟨s2,R.ob.tab.mono s1⟩,ar,q,λv H' F' b eg t1 t2 fm fn ar' lk fr rr qq=>?_⟩;obtain⟨hn,qq⟩:=qq
  -- what was lent is given back
  obtain⟨F3,e3⟩:∃F3:Hp,F3=λc=>@ite _ (F c=none/\F2 c≠none) (Classical.propDecidable _) none (F' c):=⟨_,rfl⟩;have Vn:∀c,(F3 c=none/\F c=none/\F2 c≠none)\/F3 c=F' c:=λc=>by
   by_cases z:F c=none/\F2 c≠none
   ·exact .inl ⟨by rw[e3];exact if_pos z,z⟩
   ·exact .inr (by rw[e3];exact if_neg z)
  have u1:aw F F3:=λc u z=>by
   rcases Vn c with⟨_,y,_⟩|y
   ·rw[z]at y;cases y
   ·rw[y];exact t1 c u (s1 c u z)
  have u2:∀c u,F3 c=some u->F' c=some u:=λc u z=>by
   rcases Vn c with⟨y,_⟩|y
   ·rw[z]at y;cases y
   ·rw[<- y];exact z
  have u3:aw F3 H':=λc u z=>t2 c u (u2 c u z);have u4:∀c o,F3 c=some o->F c=some o\/Nw H c o:=λc o z=>by
   rcases fr c o (u2 c o z)with y|y
   ·rcases Vn c with⟨y1,_⟩|y1
    ·rw[z]at y1;cases y1
    ·cases qF:F c with
     | some u=>rw[s1 c u qF]at y;cases y;exact .inl rfl
     | none =>
      exfalso;have:F3 c=none:=by rw[e3];exact if_pos ⟨qF,by rw[y];exactλz=>nomatch z⟩
      rw[z]at this;cases this
   ·exact .inr y
  have kQ:yY as=[]->F3=F':=λe=>by
   have:=h3 e;subst this;funext c;rcases Vn c with⟨_,y1,y2⟩|y
   ·exact absurd y1 y2
   ·exact y
  have hs:∀c u,F' c=some u->F3 c=some u\/dl u=true:=λc u z=>by
   rcases Vn c with⟨_,y1,y2⟩|y
   ·right
    cases q2:F2 c with
    | none=>exact absurd q2 y2
    | some w =>
     have:=t1 c w q2;rw[z]at this;cases this;rcases h2 c u q2 with y|⟨y,_⟩
     ·rw[y1]at y;cases y
     ·exact y
   ·rw[y];exact .inl z
  have aa4:∀(i:Nat) (xs:List D),eg[i]?=some (.own xs)->∃a us,vs[i]?=some (.ref a)/\H' a=some (.lst us)/\aH F3 us xs/\F3 a=none:=λi xs e=>by
   obtain⟨a,us,g1,g2,g3,g4⟩:=ar'.own i xs e;refine⟨a,us,g1,g2,?_,?_⟩
   ·rcases hn with hn|⟨_,hn⟩
    ·rw[kQ hn];exact g3
    ·exact aH.kQ hs g3 (List.all_eq_true.mp hn _ (List.mem_of_getElem? e))
   ·cases y:F3 a with
    | none=>rfl
    | some u=>rw[u2 a u y]at g4;cases g4
  have aa0:∀(i:Nat) (o:O),eg[i]?=some (.obj o)->∃a,vs[i]?=some (.ref a)/\o.rep F3 H' a/\∀c∈o.fp a,F3 c=none/\H' c≠none:=λi o e=>by
   obtain⟨a,g1,g2,g3⟩:=ar'.obj i o e;rcases hn with hn|⟨_,hn⟩
   ·rw[kQ hn];exact⟨a,g1,g2,g3⟩
   ·have:=List.all_eq_true.mp hn _ (List.mem_of_getElem? e)
    cases this
  have R3:=R.Mp ra ea nd lk u1 u3 fm fn u4 aa4 aa0;refine K v H' F3 (bE b) _ u1 R3 ?_ qq;cases b with
  | sh d =>
   have rr:Rep F' v d:=rr;show Rep F3 v d;rcases hn with hn|⟨hn,_⟩
   ·rw[kQ hn];exact rr
   ·exact Rep.kQ hs rr hn
  | own xs =>
   obtain⟨a,us,rfl,w1,w2,w3,w4⟩:=rr;refine⟨a,us,rfl,w1,?_,?_,(R.bX w4).1,?_⟩
   ·rcases hn with hn|⟨hn,_⟩
    ·rw[kQ hn];exact w2
    ·exact aH.kQ hs w2 hn
   ·cases y:F3 a with
    | none=>rfl
    | some u=>rw[u2 a u y]at w3;cases w3
   ·exact yu R ra ea nd lk w4
  | obj o =>
   obtain⟨a,rfl,w1,w2⟩:=rr;rcases hn with hn|⟨hn,_⟩
   ·rw[kQ hn]
    exact⟨a,rfl,w1,λc hc=>⟨(w2 c hc).1,(w2 c hc).2.1,(R.bX (w2 c hc).2.2).1,yu R ra ea nd lk (w2 c hc).2.2⟩⟩
   ·cases hn
 ·exact q.elim
def Ln(sp:jx)(t:uh):TX:=λσ Q=>t σ λas ax=>mB sp as ax Q
theorem iI{x:Str}{sp:jx}{e:Expr}{es:List Expr}{t:uh}{p pos:Pos}(h:ux G k x sp)(ha:GF G k S (e::es) t)(hg:S.sc.lookup x=some .globalImplicit:=by rfl)(lA:(x==("__debug__":Str))=false:=by decide)
  (he:∀env,starEach (e::es) env=(false,eval e env)::starEach es env:=by exactλ_=>Vc.cH rfl) (de:∀env,(backTo pos (starEach es env)).any (·.1)=false:=by intro _;rfl) (hh:S.nk=false:=by rfl):EX G k S (.Call (.Name x p) (e::es) [] pos) (Ln sp t):=.mk λX Y ok=>by
 obtain⟨f,fd,ps,h1,h2,h3,h4⟩:=h;have r9:cm X.prog X.w X.K X.mg X.base mw k f fd ps (c5 sp):=by rw[ok.P,ok.w,ok.K,ok.mg,ok.base];exact h1
 refine a7 (zi (E:=E0) (dvs:=[]) (ds:=[]) r9 (ok.room hh) (dZ ok hg) (by rw[ok.mg];exact h2) (by rw[ok.K];exact h3) (by rw[ok.K];exact h4) .nil oS (ha.run X Y ok) lA (he _) (de _)) λσ H Q q=>?_
 obtain⟨F,ai,Qd,R,q,K⟩:=q;refine⟨F,ai,_,R,q,λvs H1 F1 as ax s1 R1 r1 q1=>?_⟩;show c5 sp (vs++[]) H1 Q E0;rw[List.append_nil];exact gO R1 r1 q1 λv H' F' x aI s R' rx qx=>K v H' F' x aI (s1.trans s) R' rx qx
end Vc
namespace Vc
open PySem L2
variable [KF]
variable {G:GE}{k:Nat}{S:Stat}
def cJ(n:Nat)(bs:List B):Sd:=bs.map some++List.replicate (n-bs.length) none
theorem cN{α:Type}{xs:List α}{m i:Nat}{x:α}(h:(xs.map some++List.replicate m none)[i]?=some (some x)):xs[i]?=some x:=by
 rw[List.getElem?_append]at h
 split at h
 ·rw[List.getElem?_map]at h
  obtain⟨y,h1,h2⟩:=Option.map_eq_some_iff.mp h;cases h2;exact h1
 ·rw[List.getElem?_replicate]at h
  split at h<;>cases h
theorem pC{α:Type}{xs:List α}{m i:Nat}{x:α}(h:xs[i]?=some x):(xs.map some++List.replicate m none)[i]?=some (some x):=by
 rw[List.getElem?_append_left (by rw[List.length_map];exact(List.getElem?_eq_some_iff.mp h).1),List.getElem?_map,h];rfl
def sk(vs:List V)(bs:List B):List (Nat×Addr):=(List.range bs.length).filterMap λ(i:Nat)=>match bs[i]?,vs[i]? with
 | some (.own _),some (.ref a)=>some (i,a)
 | _,_=>none
def vR(vs:List V)(bs:List B):List Addr:=(List.range bs.length).flatMap λ(i:Nat)=>match bs[i]?,vs[i]? with
 | some (.obj o),some (.ref a)=>o.fp a
 | _,_=>[]
theorem eR{vs:List V}{bs:List B}{i:Nat}{a:Addr}:(i,a)∈sk vs bs ↔ ∃xs,bs[i]?=some (.own xs)/\vs[i]?=some (.ref a):=by
 unfold sk;rw[List.mem_filterMap];constructor
 ·rintro⟨j,_,h⟩
  split at h
  ·rename_i xs b e1 e2
   cases h;exact⟨xs,e1,e2⟩
  ·cases h
 ·rintro⟨xs,e1,e2⟩
  exact⟨i,List.mem_range.mpr (List.getElem?_eq_some_iff.mp e1).1,by rw[e1,e2]⟩
theorem jN{vs:List V}{bs:List B}{c:Addr}:c∈vR vs bs ↔ ∃(i:Nat) (o:O) (a:Addr),bs[i]?=some (.obj o)/\vs[i]?=some (.ref a)/\c∈o.fp a:=by
 unfold vR;rw[List.mem_flatMap];constructor
 ·rintro⟨j,_,h⟩
  split at h
  ·rename_i o b e1 e2
   exact⟨j,o,b,e1,e2,h⟩
  ·cases h
 ·rintro⟨i,o,a,e1,e2,e3⟩
  exact⟨i,List.mem_range.mpr (List.getElem?_eq_some_iff.mp e1).1,by rw[e1,e2];exact e3⟩
theorem rY{vs:List V}{bs:List B}{F H:Hp}{c:Addr}:c∈(bP.mk H F (sk vs bs) (vR vs bs)).D8 ↔ jd vs bs c:=by
 unfold bP.D8 jd;rw[List.mem_append,jN,List.mem_map];constructor
 ·rintro(⟨⟨i,a⟩,h1,h2⟩|h)
  ·have h2:a=c:=h2
   subst h2;obtain⟨xs,e1,e2⟩:=eR.mp h1;exact .inl ⟨i,xs,e1,e2⟩
  ·exact .inr h
 ·rintro(⟨i,xs,e1,e2⟩|h)
  ·exact .inl ⟨(i,c),eR.mpr ⟨xs,e1,e2⟩,rfl⟩
  ·exact .inr h
theorem RS.cJ{F H:Hp}{vs:List V}{bs:List B}(n:Nat)(s:p0 F H)(r:jw F H vs bs):RS ⟨H,F,sk vs bs,vR vs bs⟩ F (Vc.cJ n bs) (vs.map some++List.replicate (n-vs.length) none) H where
 len:=by unfold Vc.cJ;simp [r.len]
 lo:=aw.refl _
 fr:=s.1
 fW:=λb o e=>.inl e
 old:=λb o e _=>e
 sh:=λi d e=>by
  obtain⟨v,h1,h2⟩:=r.sh i d (cN e);exact⟨v,pC h1,h2⟩
 own:=λi xs e=>by
  obtain⟨a,us,h1,h2,h3,h4⟩:=r.own i xs (cN e);exact⟨a,us,pC h1,h2,h3,h4,.inr (List.mem_map.mpr ⟨(i,a),eR.mpr ⟨xs,cN e,h1⟩,rfl⟩)⟩
 dis:=λi j xs ys a e1 e2 e3 e4=>r.dis i j xs ys a (cN e1) (cN e2) (cN e3) (cN e4)
 io:=λp hp=>by
  obtain⟨i,a⟩:=p;obtain⟨xs,e1,e2⟩:=eR.mp hp;exact⟨pC e2,xs,pC e1⟩
 ob:=by
  refine⟨λi o e=>?_,λi j o p a b e1 e2 e3 e4 lC=>r.nQ i j o p a b (cN e1) (cN e2) (cN e3) (cN e4) lC,λj xs b e1 e2 ⟨i,o,a,e3,e4,hm⟩=>r.gP i j xs o a b (cN e1) (cN e2) (cN e3) (cN e4) hm,λb hb=>?_,λb hb=>?_,s.2⟩
  ·obtain⟨a,h1,h2,h3⟩:=r.obj i o (cN e)
   exact⟨a,pC h1,h2,λc hc=>⟨(h3 c hc).1,(h3 c hc).2,.inr (jN.mpr ⟨i,o,a,cN e,h1,hc⟩)⟩⟩
  ·obtain⟨i,o,a,e1,e2,e3⟩:=jN.mp hb
   obtain⟨a',h1,_,h3⟩:=r.obj i o e1;rw[e2]at h1;cases h1;exact(h3 b e3).2
  ·obtain⟨i,o,a,e1,e2,e3⟩:=jN.mp hb
   obtain⟨a',h1,_,h3⟩:=r.obj i o e1;rw[e2]at h1;cases h1;exact(h3 b e3).2
def gL:Nat->List B->List B->Sd->Prop
 | i,.sh _::bs,_::cs,σ=>gL (i+1) bs cs σ
 | i,.own _::bs,c::cs,σ=>σ[i]?=some (some c)/\gL (i+1) bs cs σ
 | i,.obj _::bs,c::cs,σ=>σ[i]?=some (some c)/\gL (i+1) bs cs σ
 | _,_,_,_=>True
theorem gL.at{σ:Sd}:∀ {bs cs:List B} {i j:Nat} {b c:B},gL i bs cs σ->bs[j]?=some b->(∀d,b≠.sh d)->cs[j]?=some c->σ[i+j]?=some (some c)
 | [],_,_,_,_,_,_,e,_,_=>by simp at e
 | _::_,[],_,_,_,_,_,_,_,e=>by simp at e
 | .sh d::bs,c'::cs,i,0,b,c,h,e,n,e'=>by simp at e;exact absurd e.symm (n d)
 | .own xs::bs,c'::cs,i,0,b,c,h,e,n,e'=>by simp at e';subst e';exact h.1
 | .obj o::bs,c'::cs,i,0,b,c,h,e,n,e'=>by simp at e';subst e';exact h.1
 | .sh d::bs,c'::cs,i,j+1,b,c,h,e,n,e'=>by
  have:=gL.at (i:=i+1) (j:=j) h (by simpa using e) n (by simpa using e')
  rw[show i+(j+1)=i+1+j by omega];exact this
 | .own xs::bs,c'::cs,i,j+1,b,c,h,e,n,e'=>by
  have:=gL.at (i:=i+1) (j:=j) h.2 (by simpa using e) n (by simpa using e')
  rw[show i+(j+1)=i+1+j by omega];exact this
 | .obj o::bs,c'::cs,i,j+1,b,c,h,e,n,e'=>by
  have:=gL.at (i:=i+1) (j:=j) h.2 (by simpa using e) n (by simpa using e')
  rw[show i+(j+1)=i+1+j by omega];exact this
def wR(bs:List B)(Q:B->List B->Prop)(b:B)(σ:Sd):Prop:=∃eg,dy bs eg/\gL 0 bs eg σ/\Q b eg
theorem B3{F F' H H':Hp}{vs:List V}{bs eg:List B}{ai:Sd}{σ:St}(r:jw F H vs bs)(s:aw F F')(R:RS ⟨H,F,sk vs bs,vR vs bs⟩ F' ai σ H')(lk:dy bs eg)(mg:gL 0 bs eg ai):jw F' H' vs eg:=by
 have aa5:∀ {i:Nat} {ys:List D},eg[i]?=some (.own ys)->∃a us,vs[i]?=some (.ref a)/\H' a=some (.lst us)/\aH F' us ys/\F' a=none:=λ{i ys} e=>by
  obtain⟨xs,h1⟩:=lk.AX e;have h2:=mg.at h1 (λd z=>nomatch z) e;rw[Nat.zero_add]at h2;obtain⟨a,us,g1,g2,g3,g4,g5⟩:=R.own i ys h2;obtain⟨a0,Zr,f1,_⟩:=r.own i xs h1;have f2:=(R.io (i,a0) (eR.mpr ⟨xs,h1,f1⟩)).1;have f2:σ[i]?=some (some (.ref a0)):=f2;rw[g1]at f2;cases f2;exact⟨a,us,f1,g2,g3,g4⟩
 have aa1:∀ {i:Nat} {p:O},eg[i]?=some (.obj p)->∃a,vs[i]?=some (.ref a)/\p.rep F' H' a/\∀c∈p.fp a,F' c=none/\H' c≠none:=λ{i p} e=>by
  obtain⟨o,h1,h3,h4,h5⟩:=lk.AK e;have h2:=mg.at h1 (λd z=>nomatch z) e;rw[Nat.zero_add]at h2;obtain⟨a,g1,g2,g3⟩:=R.ob.obj i p h2;obtain⟨a0,f1,f2,_⟩:=r.obj i o h1;cases hl:o.loc with
  | none=>exact absurd hl h5
  | some l =>
   have e1:=o.Il f2 hl;have e2:=p.Il g2 (h4.trans hl);subst e1;subst e2;exact⟨a,f1,g2,λc hc=>⟨(g3 c hc).1,(g3 c hc).2.1⟩⟩
 refine⟨r.len.trans lk.len,λi d e=>?_,λi ys e=>aa5 e,λi p e=>aa1 e,λi j xs ys a e1 e2 e3 e4=>?_,λi j o p a b e1 e2 e3 e4 lC c hc GN=>?_,λi j xs o a b e1 e2 e3 e4 hm=>?_⟩
 ·obtain⟨v,h1,h2⟩:=r.sh i d (lk.shr e)
  exact⟨v,h1,h2.mono s⟩
 ·obtain⟨Zx,h1⟩:=lk.AX e1
  obtain⟨ys',h2⟩:=lk.AX e2;exact r.dis i j Zx ys' a h1 h2 e3 e4
 ·obtain⟨o',h1,h2,_⟩:=lk.AK e1
  obtain⟨p',h3,h4,_⟩:=lk.AK e2;exact r.nQ i j o' p' a b h1 h3 e3 e4 lC c (by rw[<- h2];exact hc) (by rw[<- h4];exact GN)
 ·obtain⟨Zx,h1⟩:=lk.AX e1
  obtain⟨o',h2,h3,_⟩:=lk.AK e3;exact r.gP i j Zx o' a b h1 e2 h2 e4 (by rw[<- h3];exact hm)
theorem KN{x qual:Str}{st:Stmt}{f:Addr}{fd:FuncData}{N ps:List Str}{sp:jx}{t:b5}{ios:List Nat}(hK:G.K=KF.K)(Fn:Bi G.K x qual st f fd)(Sc:aC N ps (ag st))(ht:c9 G k ⟨N,(ag st).names,ios,false,false,false,λ_ _=>False⟩ (ao st) t)
  (len:∀bs Q,sp bs Q->bs.length=ps.length) (yW:∀bs Q,sp bs Q->∀(i:Nat) (xs:List D),bs[i]?=some (.own xs)->i∈ios) (dk:ios≠[])
  (body:∀bs Q,sp bs Q->t {nx:=wR bs Q (.sh .aV),rt:=λb σ=>wR bs Q b σ} (cJ N.length bs)):cm G.P G.w G.K G.mg G.base mw (k+1) f fd ps (c5 sp):=by
 refine Fn.ok Sc (λvs H Q E h=>?_) (λiY A outer s H vs Q E hr h=>?_)
 ·obtain⟨F,bs,Qd,s,r,q,K⟩:=h
  rw[r.len];exact len _ _ q
 ·obtain⟨F,bs,Qd,sm,r,q,K⟩:=h
  refine⟨_,ht (pL mw G.P G.w G.K G.mg G.base N qual (ag st) f iY A outer s H E).PD ⟨H,F,sk vs bs,vR vs bs⟩ ⟨rfl,rfl,rfl,hK,rfl,rfl,rfl,rfl,Sc.nd,λp hp=>by
   obtain⟨i,a⟩:=p;obtain⟨xs,e1,_⟩:=eR.mp hp;exact yW _ _ q i xs e1,(λ_ h=>absurd h dk),λ_=>rfl,Sc.kind,λ_ _ _=>rfl,λ_=>hr.hd,hr.dp,hr.un,λ_=>PassesOwn.never,λ_=>⟨rfl,rfl,rfl⟩,λ_ _ h=>h.elim,λh=>nomatch h⟩,F,cJ N.length bs,_,RS.cJ _ sm r,body bs Qd q,?_⟩
  have fin:∀ {F':Hp} {ai:Sd} {σ:St} {H':Hp} {v:V} {b:B},aw F F'->RS ⟨H,F,sk vs bs,vR vs bs⟩ F' ai σ H'->G4 H F' H' v b->wR bs Qd b ai->Q v H':=λ{F' ai σ H' v b} s' R' r' q'=>by
   obtain⟨eg,lk,mg,q'⟩:=q';have ar:=B3 r s' R' lk mg;refine K v H' F' b eg s' R'.fr (λc o z e=>R'.old c o e λy=>z (rY.mp y)) (λc z=>?_) ar lk R'.fW r' q';rcases z with⟨i,xs,e1,e2⟩|⟨i,o,a,e1,e2,e3⟩
   ·obtain⟨ys,h1⟩:=lk.Ye e1
    obtain⟨a,us,g1,g2,_⟩:=ar.own i ys h1;rw[e2]at g1;cases g1;rw[g2];exactλy=>nomatch y
   ·obtain⟨p,h1,h2,_⟩:=lk.aa2 e1
    obtain⟨a',g1,_,g3⟩:=ar.obj i p h1;rw[e2]at g1;cases g1;exact(g3 c (by rw[h2];exact e3)).2
  refine⟨λσ H' F' ai s' R' q'=>?_,λv σ H' F' ai b s' R' r' q'=>?_,λ_ _ _ _ _ _ h=>h.elim,λ_ _ _ _ _ _ h=>h.elim⟩
  ·exact fin (b:=.sh .aV) s' R' .aV q'
  ·refine fin (b:=b) s' R' ?_ q'
   cases b with
   | sh d=>exact r'
   | own xs =>
    obtain⟨a,us,rfl,w1,w2,w3,w4,w5⟩:=r';exact⟨a,us,rfl,w1,w2,w3,w4⟩
   | obj o =>
    obtain⟨a,rfl,w1,w2⟩:=r';exact⟨a,rfl,w1,λb hb=>⟨(w2 b hb).1,(w2 b hb).2.1,(w2 b hb).2.2.1⟩⟩
theorem d9.ZG{x:Str}{st:Stmt}{ps N:List Str}{f:Addr}{fd:FuncData}{t:b5}{sp:jx}{ios:List Nat}(d:d9 G x st ps f fd)(hK:G.K=KF.K)(Sc:aC N ps (ag st))(ht:c9 G k ⟨N,(ag st).names,ios,false,false,false,λ_ _=>False⟩ (ao st) t)
  (len:∀bs Q,sp bs Q->bs.length=ps.length) (yW:∀bs Q,sp bs Q->∀(i:Nat) (xs:List D),bs[i]?=some (.own xs)->i∈ios) (dk:ios≠[])
  (body:∀bs Q,sp bs Q->t {nx:=wR bs Q (.sh .aV),rt:=λb σ=>wR bs Q b σ} (cJ N.length bs)):ux G (k+1) x sp:=
 ⟨f,fd,ps,KN hK d.F Sc ht len yW dk body,d.m,d.F.kp,d.b⟩
end Vc
namespace Vc
open PySem L2
variable [KF]
abbrev kC:Addr:=KF.cls "Kept"
def fy(a dx ad:Addr)(w:Str)(c e:Int)(kvs:List (Int×D)):O where
 fp:=λb=>[b,dx,ad]
 rep:=λF H b=>b=a/\H a=some (.ins kC dx (GV w c e ad))/\H dx=some (.own a)/\∃ks,H ad=some (.dK ks)/\b7 F ks kvs
 self:=λa=>.head _
 solid:=λ{F H b c' φ} ⟨e0,h1,h2,ks,h3,_⟩ hb z=>by
  subst e0;simp only[List.mem_cons,List.not_mem_nil,or_false]at hb;rcases hb with rfl|rfl|rfl
  ·rw[h1]at z;cases z
  ·rw[h2]at z;cases z
  ·rw[h3]at z;cases z
 nt:=λ{F H b c' vs} ⟨e0,h1,h2,ks,h3,_⟩ hb z=>by
  subst e0;simp only[List.mem_cons,List.not_mem_nil,or_false]at hb;rcases hb with rfl|rfl|rfl
  ·rw[h1]at z;cases z
  ·rw[h2]at z;cases z
  ·rw[h3]at z;cases z
 mono:=λ{F F' H H' b} s e ⟨e0,h1,h2,ks,h3,r⟩=>by
  subst e0;exact⟨rfl,by rw[e b (by simp)];exact h1,by rw[e dx (by simp)];exact h2,ks,by rw[e ad (by simp)];exact h3,r.mono s⟩
 view:=some (.kp w c e kvs)
 sees:=λ{F H b d} ⟨e0,h1,h2,ks,h3,r⟩ q=>by cases q;subst e0;exact⟨b,dx,ad,ks,rfl,h1,h3,r⟩
 lend:=λ{F H b d} s ⟨e0,h1,h2,ks,h3,r⟩ q=>by
  cases q;subst e0;obtain⟨F1,s1,s2,e1,e2⟩:=jj s h1;obtain⟨F2,s3,s4,e3,e4⟩:=jj s2 h3;refine⟨F2,s1.trans s3,s4,.kp (s3 _ _ e1) e3 (r.mono (s1.trans s3)),λc u z=>?_⟩;rcases e4 c u z with z|⟨rfl,rfl⟩
  ·rcases e2 c u z with z|⟨rfl,rfl⟩
   ·exact .inl z
   ·exact .inr ⟨rfl,by simp⟩
  ·exact .inr ⟨rfl,by simp⟩
 loc:=some a
 Il:=λ{F H b c'} ⟨e0,_⟩ q=>by cases q;exact e0
variable {G:GE}{k:Nat}{S:Stat}
structure KG(G:GE):Prop where
 cls:Br G.K kC
 no:∀f:Str,f∈(["way","count","points_by_name","ever_put"]:List Str)->je G.K kC f
def N5(f:Str)(w:Str)(c e:Int):Option D:=if f="way" then some (.str w)else if f="count" then some (.int c)else if f="ever_put" then some (.int e)else none
def Lp(f:Str)(t:TV):TV:=λσ Q=>t σ λx ax=>match df ax x with
 | some (.kp w c e kvs)=>∃d,N5 f w c e=some d/\Q (.val d) ax
 | _=>False
theorem Ii{f:Str}{w:Str}{c e:Int}{ad:Addr}{d:D}(h:N5 f w c e=some d):∃v,(GV w c e ad).lookup f=some v/\(∀F:Hp,Rep F v d)/\f∈(["way","count","points_by_name","ever_put"]:List Str):=by
 unfold N5 at h
 by_cases h1:f="way"
 ·subst h1
  rw[if_pos rfl]at h;cases h;exact⟨.str w,rfl,λ_=>.str w,by simp⟩
 ·rw[if_neg h1]at h
  by_cases h2:f="count"
  ·subst h2
   rw[if_pos rfl]at h;cases h;exact⟨.int c,rfl,λ_=>.int c,by simp⟩
  ·rw[if_neg h2]at h
   by_cases h3:f="ever_put"
   ·subst h3
    rw[if_pos rfl]at h;cases h;exact⟨.int e,rfl,λ_=>.int e,by simp⟩
   ·rw[if_neg h3]at h;cases h
theorem A3{o:Expr}{t:TV}{f:Str}{pos:Pos}(kg:KG G)(h:EO G k S o t)(hb:∀env,attributeBase o f env (eval o env)=eval o env:=by intro _;rfl):EO G k S (.Attribute o f pos) (Lp f t):=.mk λX Y ok =>
 a7 (sG (h X Y ok) (hb _)) λσ H Q q=>by
  obtain⟨F,ai,Qd,R,q,K⟩:=q;refine⟨F,ai,_,R,q,λv1 H1 F1 x ax s1 R1 r1 q1=>?_⟩
  split at q1
  ·rename_i w c e kvs ed
   obtain⟨d,hd,q1⟩:=q1;obtain⟨a,dx,ad,ks,rfl,h1,h2,_⟩:=R1.df r1 ed;obtain⟨v,g1,g2,g3⟩:=Ii (ad:=ad) hd;exact⟨a,kC,dx,_,v,rfl,h1,by rw[ok.K];exact kg.cls,by rw[ok.K];exact kg.no f g3,g1,K v H1 F1 (.val d) ax s1 R1 (g2 F1) q1⟩
  ·exact q1.elim
def Tz(t:TD):TV:=λσ Q=>t σ λx ax=>match x with
 | .kp w c e kvs=>Q (.val (.gv kvs)) ax
 | _=>False
theorem Fd{o:Expr}{t:TD}{pos:Pos}(kg:KG G)(h:ED G k S o t)(hb:∀env,attributeBase o "points_by_name" env (eval o env)=eval o env:=by intro _;rfl):EO G k S (.Attribute o "points_by_name" pos) (Tz t):=.mk λX Y ok =>
 a7 (sG (h X Y ok) (hb _)) λσ H Q q=>by
  obtain⟨F,ai,Qd,R,q,K⟩:=q;refine⟨F,ai,_,R,q,λv1 H1 F1 x ax s1 R1 r1 q1=>?_⟩
  split at q1
  ·rename_i w c e kvs
   cases(show Rep F1 v1 (.kp w c e kvs)from r1)with
   | @kp a dx ad _ _ _ ks _ h1 h2 r =>
    exact⟨a,kC,dx,_,.ref ad,rfl,R1.fr _ _ h1,by rw[ok.K];exact kg.cls,by rw[ok.K];exact kg.no _ (by simp),rfl,K _ H1 F1 (.val (.gv kvs)) ax s1 R1 (.gv h2 r) q1⟩
  ·exact q1.elim
theorem RS.kpW{Y:bP}{F:Hp}{ai:Sd}{σ:St}{H:Hp}{i:Nat}{a dx ad:Addr}{w:Str}{c e e':Int}{kvs Xw:List (Int×D)}{u:HO}{b:Addr}(R:RS Y F ai σ H)(q:ai[i]?=some (some (.obj (fy a dx ad w c e kvs))))(h:σ[i]?=some (some (.ref a)))(hb:b∈[a,dx,ad])
  (hr:(fy a dx ad w c e' Xw).rep F (upd H b u) a):RS Y F (ai.set i (some (.obj (fy a dx ad w c e' Xw)))) σ (upd H b u):=R.gY q h hb (λ_ z=>z) hr
def tKP(i:Nat)(tk:TV)(tv:TD):b5:=λDe σ=>tv σ λd ax=>(∃a dx ad w c e kvs,ax[i]?=some (some (.obj (fy a dx ad w c e kvs))))/\tk ax λy aO=>match df aO y with
 | some (.int j)=>∃a dx ad w c e kvs,aO[i]?=some (some (.obj (fy a dx ad w c e kvs)))/\aO[i]?=ax[i]?/\kvs.length<sizeLine/\De.nx (aO.set i (some (.obj (fy a dx ad w c e (xB kvs j d)))))
 | _=>False
theorem Si(i:Nat){x:Str}{ke ve:Expr}{tk:TV}{tv:TD}{np ap pos' pos:Pos}(kg:KG G)(hv:ED G k S ve tv)(hk:EO G k S ke tk)(ho:EO G k S (.Name x np) (JC i))(hb:∀env,attributeBase (.Name x np) "points_by_name" env (eval (.Name x np) env)=eval (.Name x np) env:=by intro _;rfl)
  (hs:∀line env,swapsWith ve (some (.Subscript (.Attribute (.Name x np) "points_by_name" ap) ke pos')) line env=pure false:=by intro _ _;rfl):
  ES G k S (.Assign [.Subscript (.Attribute (.Name x np) "points_by_name" ap) ke pos'] ve pos) (tKP i tk tv):=.mk λX Y ok =>
 cR (zq (by have:=ok.units;omega) (sG (ho X Y ok) (hb _)) (hk X Y ok) (hv X Y ok) (hs _ _)) λDn σ H q=>by
  obtain⟨F,ai,De,R,q,K⟩:=q;refine⟨F,ai,_,R,q,λv H1 F1 d ax s1 R1 r1 q1=>?_⟩;obtain⟨⟨a0,ZE,ZD,w0,c0,e0,Ik,Ut⟩,q1⟩:=q1;refine⟨F1,ax,λx mv=>x=.var i/\mv=ax,R1,⟨⟨_,Ut⟩,rfl,rfl⟩,λv2 H2 F2 y aO s2 R2 r2 q2=>?_⟩;obtain⟨rfl,rfl⟩:=q2;have r2:σ[i]?=some (some v2):=r2;obtain⟨b0,w1,⟨rfl,g1,g2,Zr,g3,g4⟩,_⟩:=R2.ob.obj i _ Ut;rw[r2]at w1;cases w1;refine⟨b0,kC,ZE,_,.ref ZD,rfl,g1,by rw[ok.K];exact kg.cls,by rw[ok.K];exact kg.no _ (by simp),rfl,F2,aO,_,R2,q1,λv3 H3 F3 kd iu s3 R3 r3 q3=>?_⟩
  split at q3
  ·rename_i j ej
   obtain rfl:=(R3.df r3 ej).int;obtain⟨a,dx,ad,w,c,e,kvs,eq,eqq,hl,q3⟩:=q3;have eq':(B.obj (fy a dx ad w c e kvs))=.obj (fy b0 ZE ZD w0 c0 e0 Ik):=by rw[eq,Ut]at eqq;exact Option.some.inj (Option.some.inj eqq)
   obtain⟨b,w1,⟨rfl,y1,y2,us,y3,y4⟩,_⟩:=R3.ob.obj i _ eq;rw[r2]at w1;cases w1;have ZF:(fy b0 dx ad w c e kvs).fp b0=(fy b0 ZE ZD w0 c0 e0 Ik).fp b0:=by
    have:=congrArg (λb=>match b with|B.obj o=>o.fp b0|_=>[]) eq'
    exact this
   have ZF:[b0,dx,ad]=[b0,ZE,ZD]:=ZF;simp only[List.cons.injEq,and_true,true_and]at ZF;obtain⟨rfl,rfl⟩:=ZF;have n1:b0≠ad:=fF y1 y3 (λz=>nomatch z);have n2:dx≠ad:=fF y2 y3 (λz=>nomatch z);refine⟨ad,_,rfl,.k (k:=.inl j) y3 (by rw[y4.length];exact hl),K.nx σ _ F3 _ ((s1.trans s2).trans s3) (R3.kpW eq r2 (by simp) ⟨rfl,?_,?_,_,az,y4.put j (r1.mono (s2.trans s3))⟩) q3⟩
   ·rw[aq n1];exact y1
   ·rw[aq n2];exact y2
  ·exact q3.elim
def tKE(i:Nat)(tv:TV):b5:=λDe σ=>tv σ λx ax=>match df ax x with
 | some (.int j)=>∃a dx ad w c e kvs,ax[i]?=some (some (.obj (fy a dx ad w c e kvs)))/\De.nx (ax.set i (some (.obj (fy a dx ad w c j kvs))))
 | _=>False
theorem A2(w:Str)(c e j:Int)(ad:Addr):cS "ever_put" (.int j) (GV w c e ad)=GV w c j ad:=by
 unfold GV;simp only[cS];rw[if_neg ∅,if_neg ∅,if_neg ∅]
 simp
theorem Js(i:Nat){x:Str}{ve:Expr}{tv:TV}{np ap pos:Pos}(kg:KG G)(hv:EO G k S ve tv)(ho:EO G k S (.Name x np) (JC i))(hs:∀line env,swapsWith ve (some (.Attribute (.Name x np) "ever_put" ap)) line env=pure false:=by intro _ _;rfl):
  ES G k S (.Assign [.Attribute (.Name x np) "ever_put" ap] ve pos) (tKE i tv):=.mk λX Y ok =>
 cR (sL (ho X Y ok) (hv X Y ok) (hs _ _)) λDn σ H q=>by
  obtain⟨F,ai,De,R,q,K⟩:=q;refine⟨F,ai,_,R,q,λv H1 F1 y ax s1 R1 r1 q1=>?_⟩
  split at q1
  ·rename_i j ej
   obtain rfl:=(R1.df r1 ej).int;obtain⟨a,dx,ad,w,c,e,kvs,eq,q1⟩:=q1;refine⟨F1,ax,λx mv=>x=.var i/\mv=ax,R1,⟨⟨_,eq⟩,rfl,rfl⟩,λv2 H2 F2 y aO s2 R2 r2 q2=>?_⟩;obtain⟨rfl,rfl⟩:=q2;have r2:σ[i]?=some (some v2):=r2;obtain⟨b,w1,⟨rfl,y1,y2,us,y3,y4⟩,_⟩:=R2.ob.obj i _ eq;rw[r2]at w1;cases w1;have n1:dx≠b:=fF y2 y1 (λz=>nomatch z);have n2:ad≠b:=fF y3 y1 (λz=>nomatch z);refine⟨b,kC,dx,_,rfl,y1,by rw[ok.K];exact kg.cls,by rw[ok.K];exact kg.no _ (by simp),by show 4<1000;decide,?_⟩
   rw[A2];exact K.nx σ _ F2 _ (s1.trans s2) (R2.kpW eq r2 (by simp) ⟨rfl,az,by rw[aq n1];exact y2,us,by rw[aq n2];exact y3,y4⟩) q1
  ·exact q1.elim
def tKD(i:Nat)(tk:TV):b5:=λDe σ=>∃a dx ad w c e kvs,σ[i]?=some (some (.obj (fy a dx ad w c e kvs)))/\tk σ λy aO=>match df aO y with
 | some (.int j)=>aO[i]?=some (some (.obj (fy a dx ad w c e kvs)))/\(d2 kvs j).isSome=true/\De.nx (aO.set i (some (.obj (fy a dx ad w c e (i6 kvs j)))))
 | _=>False
theorem Sh(i:Nat){x:Str}{ke:Expr}{tk:TV}{np bp ap cp pos:Pos}(kg:KG G)(hk:EO G k S ke tk)(ho:EO G k S (.Name x np) (JC i))(hb:∀env,attributeBase (.Name x np) "points_by_name" env (eval (.Name x np) env)=eval (.Name x np) env:=by intro _;rfl)
  (m:∀X:Cx,M1 X (.Attribute (.Name x np) "points_by_name" bp) "pop" ap ke cp:=by intro X;exact⟨rfl,rfl,rfl,rfl⟩):
  ES G k S (.Expr (.Call (.Attribute (.Attribute (.Name x np) "points_by_name" bp) "pop" ap) [ke] [] cp) pos) (tKD i tk):=.mk λX Y ok =>
 cR (sJ (vS (sG (ho X Y ok) (hb _)) (hk X Y ok) (m X)) rfl) λDn σ H q=>by
  obtain⟨F,ai,De,R,⟨a,dx,ad,w,c,e,kvs,Ut,q⟩,K⟩:=q;refine⟨F,ai,λx mv=>x=.var i/\mv=ai,R,⟨⟨_,Ut⟩,rfl,rfl⟩,λv2 H2 F2 y aO s2 R2 r2 q2=>?_⟩;obtain⟨rfl,rfl⟩:=q2;have r2:σ[i]?=some (some v2):=r2;obtain⟨b0,w1,⟨rfl,g1,g2,Zr,g3,g4⟩,_⟩:=R2.ob.obj i _ Ut;rw[r2]at w1;cases w1;refine⟨b0,kC,dx,_,.ref ad,rfl,g1,by rw[ok.K];exact kg.cls,by rw[ok.K];exact kg.no _ (by simp),rfl,ad,rfl,.inl ⟨_,.inl g3⟩,F2,aO,_,R2,q,λv3 H3 F3 kd iu s3 R3 r3 q3=>?_⟩
  split at q3
  ·rename_i j ej
   obtain rfl:=(R3.df r3 ej).int;obtain⟨eq,hl,q3⟩:=q3;obtain⟨b,w1,⟨_,y1,y2,us,y3,y4⟩,_⟩:=R3.ob.obj i _ eq;have n1:b0≠ad:=fF y1 y3 (λz=>nomatch z);have n2:dx≠ad:=fF y2 y3 (λz=>nomatch z);rcases y4.val j with⟨_,e2⟩|⟨v,d',e1,e2,rd⟩
   ·rw[e2]at hl;cases hl
   ·exact⟨us,.inl j,v,y3,rfl,e1,K.nx σ _ F3 _ (s2.trans s3) (R3.kpW eq r2 (by simp) ⟨rfl,by rw[aq n1];exact y1,by rw[aq n2];exact y2,_,az,y4.drop j⟩) q3⟩
  ·exact q3.elim
end Vc
namespace Vc
open PySem L2
variable [KF]
variable {G:GE}{k:Nat}{S:Stat}
structure nc(G:GE)(m qual:Str)(st:Stmt)(ps:List Str)(f:Addr)(fd:FuncData):Prop where
 F:Bi G.K m qual st f fd
 mt:Meth G.K kC m f
 b:Binds G.K fd ps []
def cB(G:GE)(k:Nat)(m:Str)(sp:jx):Prop:=∃f fd ps,cm G.P G.w G.K G.mg G.base mw k f fd ps (c5 sp)/\Meth G.K kC m f/\Binds G.K fd ps []
theorem cB.mono{x:Str}{sp:jx}{j:Nat}(h:cB G j x sp)(l:j<=k):cB G k x sp:=by
 obtain⟨f,fd,ps,h1,h2,h3⟩:=h;exact⟨f,fd,ps,h1.mono l,h2,h3⟩
theorem XA{f:Addr}{fd:FuncData}{ps:List Str}{sp:bu}(h1:cm G.P G.w G.K G.mg G.base mw k f fd ps (Fu sp)):cm G.P G.w G.K G.mg G.base mw k f fd ps (c5 (eD sp)):=by
 refine h1.imp λvs H Q E q=>?_;obtain⟨F,bs,Qd,s,r,⟨ds,rfl,q⟩,K⟩:=q;refine⟨F,ds,_,s,nh r,q,λv H' F' b s1 s2 s3 fr rr qq=>K v H' F' b _ s1 s2 (λc o _ e=>s3 c o e) (λc z=>absurd z yD) (yr ((nh r).mono s1)) (qH λi o e=>?_) fr rr qq⟩;obtain⟨d,e1,_⟩:=dn e;cases e1
theorem nc.fg{m qual:Str}{st:Stmt}{ps N:List Str}{f:Addr}{fd:FuncData}{t:b5}{sp:bu}(d:nc G m qual st ps f fd)(hK:G.K=KF.K)(Sc:aC N ps (ag st))(ht:c9 G k ⟨N,(ag st).names,[],false,false,false,λ_ _=>False⟩ (ao st) t)
  (len:∀ds Q,sp ds Q->ds.length=ps.length) (body:∀ds Q,sp ds Q->t {nx:=λ_=>Q (.sh .aV),rt:=λb _=>Q b} (aL N.length ds)):cB G (k+1) m (eD sp):=
 ⟨f,fd,ps,XA (Dv hK d.F Sc ht len body),d.mt,d.b⟩
theorem nc.ZG{m qual:Str}{st:Stmt}{ps N:List Str}{f:Addr}{fd:FuncData}{t:b5}{sp:jx}{ios:List Nat}(d:nc G m qual st ps f fd)(hK:G.K=KF.K)(Sc:aC N ps (ag st))(ht:c9 G k ⟨N,(ag st).names,ios,false,false,false,λ_ _=>False⟩ (ao st) t)
  (len:∀bs Q,sp bs Q->bs.length=ps.length) (yW:∀bs Q,sp bs Q->∀(i:Nat) (xs:List D),bs[i]?=some (.own xs)->i∈ios) (dk:ios≠[])
  (body:∀bs Q,sp bs Q->t {nx:=wR bs Q (.sh .aV),rt:=λb σ=>wR bs Q b σ} (cJ N.length bs)):cB G (k+1) m sp:=
 ⟨f,fd,ps,KN hK d.F Sc ht len yW dk body,d.mt,d.b⟩
def uo(sp:jx)(to:TD)(t:uh):TX:=λσ Q=>to σ λx ax=>(∃w c e kvs,x=.kp w c e kvs)/\t ax λas aO=>mB sp (.d x::as) aO Q
def OG(σ:Sd)(j:Nat):Prop:=∃o w c e kvs,σ[j]?=some (some (.obj o))/\o.view=some (.kp w c e kvs)
def UO(sp:jx)(j:Nat)(t:uh):TX:=λσ Q=>OG σ j/\t σ λas aO=>mB sp (.n j::as) aO Q
def TF(sp:jx)(j:Nat)(t:uh):TX:=λσ Q=>OG σ j/\t σ λas aO=>mB sp (.l j::as) aO Q
theorem ou{w:Str}{c e:Int}{ad:Addr}{m:Str}(h:(["way","count","points_by_name","ever_put"]:List Str).contains m=false):(GV w c e ad).lookup m=none:=by
 unfold GV;simp only[List.contains_cons,List.contains_nil,Bool.or_false,Bool.or_eq_false_iff]at h;simp only[List.lookup,h.1,h.2.1,h.2.2.1,h.2.2.2]
section
variable {o e:Expr}{es:List Expr}{m:Str}{apos pos:Pos}{sp:jx}{to:TD}{t:uh}{pl:Env->Sem Bool}
theorem vG{X:Cx}{Y:bP}{C:Addr}(hm:(["way","count","points_by_name","ever_put"]:List Str).contains m=false)(hC:C=kC){σ:St}{H:Hp}{Q:VK}(q:lX Y (uo sp to t) σ H Q):qX C m (c5 sp) [] E0 (lD Y to) (ZY Y t) σ H Q:=by
 subst hC;obtain⟨F,ai,Qd,R,q,K⟩:=q;refine⟨F,ai,_,R,q,λv1 H1 F1 x ax s1 R1 r1 q1=>?_⟩;obtain⟨⟨w,c,e,kvs,rfl⟩,q1⟩:=q1;cases(show Rep F1 v1 (.kp w c e kvs)from r1)with
 | @kp a dx ad _ _ _ ks _ h1 h2 r =>
  refine⟨a,dx,_,rfl,R1.fr _ _ h1,ou hm,F1,ax,_,R1,q1,λvs H2 F2 as aO s2 R2 r2 q2=>?_⟩;dsimp only;rw[List.append_nil];exact gO R2 (.d ((Rep.kp h1 h2 r).mono s2) r2) q2 λv H' F' x aI s R' rx qx=>K v H' F' x aI ((s1.trans s2).trans s) R' rx qx
theorem oY(h:cB G k m sp)(kg:KG G)(ho:ED G k S o to)(ha:GF G k S (e::es) t)(hm:(["way","count","points_by_name","ever_put"]:List Str).contains m=false:=by decide)
  (pN:∀env,starEach (e::es) env=(false,eval e env)::starEach es env:=by exactλ_=>Vc.cH rfl) (de:∀env,(backTo pos (starEach es env)).any (·.1)=false:=by intro _;rfl) (hh:S.nk=false:=by rfl)
  (ht:∀env,eval (.Call (.Attribute o m apos) (e::es) [] pos) env=(do
   let ov <- eval o env
   standAt apos.atName
   let (f,first) <- holding [ov] (getMethod ov m (pl env))
   callWith pos f first (backTo pos (starEach (e::es) env)) (backToKw pos (keywordEach [] env))):=by intro _;rfl):EX G k S (.Call (.Attribute o m apos) (e::es) [] pos) (uo sp to t):=.mk λX Y ok=>by
 obtain⟨f,fd,ps,h1,h2,h3⟩:=h;have r9:cm X.prog X.w X.K X.mg X.base mw k f fd ps (c5 sp):=by rw[ok.P,ok.w,ok.K,ok.mg,ok.base];exact h1
 exact a7 (zl (pl:=pl X.env) (E:=E0) (dvs:=[]) (ds:=[]) (ho X Y ok) (by rw[ok.K];exact kg.cls) (by rw[ok.K];exact h2) r9 (ok.room hh) (by rw[ok.K];exact h3) .nil oS (ha.run X Y ok) (pN _) (de _) (ht _)) λσ H Q q=>vG (X:=X) hm rfl q
theorem Jz{Y:bP}{sp:jx}{to:TD}{C:Addr}{σ:St}{H:Hp}{Q:VK}(q:qX C m (c5 sp) [] E0 (lD Y to) (ZY Y jt) σ H Q):qX C m (c5 sp) [] E0 (lD Y to) pT σ H Q:=by
 obtain⟨F,ai,Qd,R,q,K⟩:=q;refine⟨F,ai,Qd,R,q,λv H' F' x aI s R' r qq=>?_⟩;obtain⟨a,dx,fs,e1,e2,e3,F1,ax,Q1,R1,q1,K1⟩:=K v H' F' x aI s R' r qq;exact⟨a,dx,fs,e1,e2,e3,K1 [] H' F1 [] ax (aw.refl _) R1 .nil q1⟩
theorem gh(h:cB G k m sp)(kg:KG G)(ho:ED G k S o to)(hm:(["way","count","points_by_name","ever_put"]:List Str).contains m=false:=by decide)(hh:S.nk=false:=by rfl)
  (ht:∀env,eval (.Call (.Attribute o m apos) [] [] pos) env=(do
   let ov <- eval o env
   standAt apos.atName
   let (f,first) <- holding [ov] (getMethod ov m (pl env))
   callWith pos f first (backTo pos (starEach [] env)) (backToKw pos (keywordEach [] env))):=by intro _;rfl):EX G k S (.Call (.Attribute o m apos) [] [] pos) (uo sp to jt):=.mk λX Y ok=>by
 obtain⟨f,fd,ps,h1,h2,h3⟩:=h;have r9:cm X.prog X.w X.K X.mg X.base mw k f fd ps (c5 sp):=by rw[ok.P,ok.w,ok.K,ok.mg,ok.base];exact h1
 exact a7 (vT (pl:=pl X.env) (E:=E0) (dvs:=[]) (ds:=[]) (ho X Y ok) (by rw[ok.K];exact kg.cls) (by rw[ok.K];exact h2) r9 (ok.room hh) (by rw[ok.K];exact h3) .nil oS (ht _)) λσ H Q q=>Jz (vG (X:=X) hm rfl q)
end
section
variable {x:Str}{np:Pos}{e:Expr}{es:List Expr}{m:Str}{apos pos:Pos}{sp:jx}{t:uh}{pl:Env->Sem Bool}{j:Nat}
theorem vL{Y:bP}{l:Bool}(hm:(["way","count","points_by_name","ever_put"]:List Str).contains m=false){σ:St}{H:Hp}{Q:VK}(q:lX Y (if l=true then TF sp j t else UO sp j t) σ H Q):qX kC m (c5 sp) [] E0 (Zn j) (ZY Y t) σ H Q:=by
 obtain⟨F,ai,Qd,R,q,K⟩:=q;have q:OG ai j/\t ai λas aO=>mB sp ((if l=true then AV.l j else AV.n j)::as) aO Qd:=by
  cases l with
  | true=>exact q
  | false=>exact q
 obtain⟨⟨o,w,c,e,kvs,e1,e2⟩,q⟩:=q;obtain⟨a,w1,w2,w3⟩:=R.ob.obj j o e1;obtain⟨a',dx,ad,ks,e3,h1,h2,_⟩:=o.sees w2 e2;cases e3;refine⟨.ref a,w1,a,dx,_,rfl,h1,ou hm,F,ai,_,R,q,λvs H2 F2 as aO s2 R2 r2 q2=>?_⟩;dsimp only;rw[List.append_nil];refine gO R2 ?_ q2 λv H' F' x aI s R' rx qx=>K v H' F' x aI (s2.trans s) R' rx qx;cases l with
 | true=>exact .l w1 r2
 | false=>exact .n w1 r2
theorem sO(l:Bool)(j:Nat)(h:cB G k m sp)(kg:KG G)(ha:GF G k S (e::es) t)(hN:S.N[j]?=some x:=by rfl)(hv:S.sc.lookup x=some .local\/S.sc.lookup x=some .cell\/S.sc.lookup x=some .free:=by first|exact Or.inl rfl|exact Or.inr (Or.inl rfl)|exact Or.inr (Or.inr rfl))
  (hd:(x==("__debug__":Str))=false:=by decide) (gG:(x==("__classdict__":Str))=false:=by decide) (hm:(["way","count","points_by_name","ever_put"]:List Str).contains m=false:=by decide)
  (pN:∀env,starEach (e::es) env=(false,eval e env)::starEach es env:=by exactλ_=>Vc.cH rfl) (de:∀env,(backTo pos (starEach es env)).any (·.1)=false:=by intro _;rfl) (hh:S.nk=false:=by rfl)
  (ht:∀env,eval (.Call (.Attribute (.Name x np) m apos) (e::es) [] pos) env=(do
   let ov <- eval (.Name x np) env
   standAt apos.atName
   let (f,first) <- holding [ov] (getMethod ov m (pl env))
   callWith pos f first (backTo pos (starEach (e::es) env)) (backToKw pos (keywordEach [] env))):=by intro _;rfl):EX G k S (.Call (.Attribute (.Name x np) m apos) (e::es) [] pos) (if l=true then TF sp j t else UO sp j t):=.mk λX Y ok=>by
 obtain⟨f,fd,ps,h1,h2,h3⟩:=h;have r9:cm X.prog X.w X.K X.mg X.base mw k f fd ps (c5 sp):=by rw[ok.P,ok.w,ok.K,ok.mg,ok.base];exact h1
 exact a7 (zl (pl:=pl X.env) (E:=E0) (dvs:=[]) (ds:=[]) (g9 (X:=X) (i:=j) (by rw[ok.N];exact hN) (by unfold GI;rw[ok.sc];exact hv) hd gG) (by rw[ok.K];exact kg.cls) (by rw[ok.K];exact h2) r9 (ok.room hh) (by rw[ok.K];exact h3) .nil oS (ha.run X Y ok) (pN _) (de _) (ht _)) λσ H Q q=>vL hm q
theorem R8(l:Bool)(j:Nat)(h:cB G k m sp)(kg:KG G)(hN:S.N[j]?=some x:=by rfl)(hv:S.sc.lookup x=some .local\/S.sc.lookup x=some .cell\/S.sc.lookup x=some .free:=by first|exact Or.inl rfl|exact Or.inr (Or.inl rfl)|exact Or.inr (Or.inr rfl))
  (hd:(x==("__debug__":Str))=false:=by decide) (gG:(x==("__classdict__":Str))=false:=by decide) (hm:(["way","count","points_by_name","ever_put"]:List Str).contains m=false:=by decide) (hh:S.nk=false:=by rfl)
  (ht:∀env,eval (.Call (.Attribute (.Name x np) m apos) [] [] pos) env=(do
   let ov <- eval (.Name x np) env
   standAt apos.atName
   let (f,first) <- holding [ov] (getMethod ov m (pl env))
   callWith pos f first (backTo pos (starEach [] env)) (backToKw pos (keywordEach [] env))):=by intro _;rfl):EX G k S (.Call (.Attribute (.Name x np) m apos) [] [] pos) (if l=true then TF sp j jt else UO sp j jt):=.mk λX Y ok=>by
 obtain⟨f,fd,ps,h1,h2,h3⟩:=h;have r9:cm X.prog X.w X.K X.mg X.base mw k f fd ps (c5 sp):=by rw[ok.P,ok.w,ok.K,ok.mg,ok.base];exact h1
 refine a7 (vT (pl:=pl X.env) (E:=E0) (dvs:=[]) (ds:=[]) (g9 (X:=X) (i:=j) (by rw[ok.N];exact hN) (by unfold GI;rw[ok.sc];exact hv) hd gG) (by rw[ok.K];exact kg.cls) (by rw[ok.K];exact h2) r9 (ok.room hh) (by rw[ok.K];exact h3) .nil oS (ht _)) λσ H Q q=>?_
 obtain⟨v,e1,a,dx,fs,e2,e3,e4,F1,ax,Q1,R1,q1,K1⟩:=vL hm q;exact⟨v,e1,a,dx,fs,e2,e3,e4,K1 [] H F1 [] ax (aw.refl _) R1 .nil q1⟩
end
end Vc
namespace Vc
open PySem L2
variable [KF]
variable {G:GE}{k:Nat}{S:Stat}
def Bl(a dx:Addr)(fs:List (Str×V)):O where
 fp:=λb=>[b,dx]
 rep:=λF H b=>b=a/\H a=some (.ins kC dx fs)/\H dx=some (.own a)
 self:=λa=>.head _
 solid:=λ{F H b c' φ} ⟨e0,h1,h2⟩ hb z=>by
  subst e0;simp only[List.mem_cons,List.not_mem_nil,or_false]at hb;rcases hb with rfl|rfl
  ·rw[h1]at z;cases z
  ·rw[h2]at z;cases z
 nt:=λ{F H b c' vs} ⟨e0,h1,h2⟩ hb z=>by
  subst e0;simp only[List.mem_cons,List.not_mem_nil,or_false]at hb;rcases hb with rfl|rfl
  ·rw[h1]at z;cases z
  ·rw[h2]at z;cases z
 mono:=λ{F F' H H' b} s e ⟨e0,h1,h2⟩=>by
  subst e0;exact⟨rfl,by rw[e b (by simp)];exact h1,by rw[e dx (by simp)];exact h2⟩
def kqO(a dx ad:Addr)(fs:List (Str×V)):O where
 fp:=λb=>[b,dx,ad]
 rep:=λF H b=>b=a/\H a=some (.ins kC dx fs)/\H dx=some (.own a)/\H ad=some (.dK [])
 self:=λa=>.head _
 solid:=λ{F H b c' φ} ⟨e0,h1,h2,h3⟩ hb z=>by
  subst e0;simp only[List.mem_cons,List.not_mem_nil,or_false]at hb;rcases hb with rfl|rfl|rfl
  ·rw[h1]at z;cases z
  ·rw[h2]at z;cases z
  ·rw[h3]at z;cases z
 nt:=λ{F H b c' vs} ⟨e0,h1,h2,h3⟩ hb z=>by
  subst e0;simp only[List.mem_cons,List.not_mem_nil,or_false]at hb;rcases hb with rfl|rfl|rfl
  ·rw[h1]at z;cases z
  ·rw[h2]at z;cases z
  ·rw[h3]at z;cases z
 mono:=λ{F F' H H' b} s e ⟨e0,h1,h2,h3⟩=>by
  subst e0;exact⟨rfl,by rw[e b (by simp)];exact h1,by rw[e dx (by simp)];exact h2,by rw[e ad (by simp)];exact h3⟩
def plV:D->Option V
 | .str w=>some (.str w)
 | .int i=>some (.int i)
 | _=>none
def tKI(i:Nat)(f:Str)(tv:TV):b5:=λDe σ=>tv σ λx ax=>match df ax x with
 | some d=>∃a dx fs v,plV d=some v/\ax[i]?=some (some (.obj (Bl a dx fs)))/\fs.length<1000/\De.nx (ax.set i (some (.obj (Bl a dx (cS f v fs)))))
 | _=>False
theorem Fo(i:Nat){x f:Str}{ve:Expr}{tv:TV}{np ap pos:Pos}(kg:KG G)(hv:EO G k S ve tv)(ho:EO G k S (.Name x np) (JC i))(hf:f∈(["way","count","points_by_name","ever_put"]:List Str):=by simp)(hs:∀line env,swapsWith ve (some (.Attribute (.Name x np) f ap)) line env=pure false:=by intro _ _;rfl):
  ES G k S (.Assign [.Attribute (.Name x np) f ap] ve pos) (tKI i f tv):=.mk λX Y ok =>
 cR (sL (ho X Y ok) (hv X Y ok) (hs _ _)) λDn σ H q=>by
  obtain⟨F,ai,De,R,q,K⟩:=q;refine⟨F,ai,_,R,q,λv H1 F1 y ax s1 R1 r1 q1=>?_⟩
  split at q1
  ·rename_i d ed
   obtain⟨a,dx,fs,v',de,eq,hl,q1⟩:=q1;have hvv:v=v':=by
    have:=R1.df r1 ed;unfold plV at de
    split at de
    ·cases de;exact this.str
    ·cases de;exact this.int
    ·cases de
   subst hvv;refine⟨F1,ax,λx mv=>x=.var i/\mv=ax,R1,⟨⟨_,eq⟩,rfl,rfl⟩,λv2 H2 F2 y aO s2 R2 r2 q2=>?_⟩;obtain⟨rfl,rfl⟩:=q2;have r2:σ[i]?=some (some v2):=r2;obtain⟨b,w1,⟨rfl,y1,y2⟩,_⟩:=R2.ob.obj i _ eq;rw[r2]at w1;cases w1;have n1:dx≠b:=fF y2 y1 (λz=>nomatch z);refine⟨b,kC,dx,_,rfl,y1,by rw[ok.K];exact kg.cls,by rw[ok.K];exact kg.no _ hf,hl,?_⟩
   exact K.nx σ _ F2 _ (s1.trans s2) (R2.gY (o':=Bl b dx (cS f v fs)) eq r2 (.head _) (λ_ z=>z) ⟨rfl,az,by rw[aq n1];exact y2⟩) q1
  ·exact q1.elim
def tKN(i:Nat):b5:=λDe σ=>∃a dx fs,σ[i]?=some (some (.obj (Bl a dx fs)))/\fs.length<1000/\∀ad,De.nx (σ.set i (some (.obj (kqO a dx ad (cS "points_by_name" (.ref ad) fs)))))
theorem Sg(i:Nat){x:Str}{np ap dp pos:Pos}(kg:KG G)(hN:S.N[i]?=some x:=by rfl)(hv:S.sc.lookup x=some .local\/S.sc.lookup x=some .cell\/S.sc.lookup x=some .free:=by first|exact Or.inl rfl|exact Or.inr (Or.inl rfl)|exact Or.inr (Or.inr rfl))
  (hd:(x==("__debug__":Str))=false:=by decide) (gG:(x==("__classdict__":Str))=false:=by decide) (hs:∀line env,swapsWith (.Dict [] [] dp) (some (.Attribute (.Name x np) "points_by_name" ap)) line env=pure false:=by intro _ _;rfl):
  ES G k S (.Assign [.Attribute (.Name x np) "points_by_name" ap] (.Dict [] [] dp) pos) (tKN i):=.mk λX Y ok =>
 cR (sL (g9 (X:=X) (i:=i) (by rw[ok.N];exact hN) (by unfold GI;rw[ok.sc];exact hv) hd gG) jS (hs _ _)) λDn σ H q=>by
  obtain⟨F,ai,De,R,⟨a,dx,fs,eq,hl,q⟩,K⟩:=q;intro p hp;obtain⟨b,w1,⟨rfl,y1,y2⟩,w3⟩:=R.ob.obj i _ eq;have n1:dx≠b:=fF y2 y1 (λz=>nomatch z);have p1:b≠p:=bj y1 hp;have p2:dx≠p:=bj y2 hp;refine⟨.ref b,w1,b,kC,dx,fs,rfl,by rw[aq p1];exact y1,by rw[ok.K];exact kg.cls,by rw[ok.K];exact kg.no _ (by simp),hl,?_⟩
  refine K.nx σ _ F _ (aw.refl _) (R.PF (o':=kqO b dx p (cS "points_by_name" (.ref p) fs)) eq w1 (λc hc hn=>?_) (λc hc=>?_) (λc hc=>?_) (λc hc=>?_) ⟨rfl,az,by rw[aq n1,aq p2];exact y2,by rw[aq (Ne.symm p1),az]⟩) (q p)
  ·have hc:c∉[b,dx]:=hc
   have c1:c≠b:=λz=>hc (by simp [z])
   have c2:c≠p:=λz=>hn (by rw[z];exact hp)
   rw[aq c1,aq c2]
  ·by_cases c1:c=b
   ·rw[c1,az];exactλz=>nomatch z
   ·rw[aq c1]
    by_cases c2:c=p
    ·rw[c2,az];exactλz=>nomatch z
    ·rw[aq c2];exact hc
  ·have hc:c∈[b,dx,p]:=hc
   simp only[List.mem_cons,List.not_mem_nil,or_false]at hc;rcases hc with rfl|rfl|rfl
   ·exact .inl (by show _∈[_,_];simp)
   ·exact .inl (by show _∈[_,_];simp)
   ·exact .inr hp
  ·have hc:c∈[b,dx,p]:=hc
   simp only[List.mem_cons,List.not_mem_nil,or_false]at hc;rcases hc with rfl|rfl|rfl
   ·rw[az];exactλz=>nomatch z
   ·rw[aq n1,aq p2,y2];exactλz=>nomatch z
   ·rw[aq (Ne.symm p1),az];exactλz=>nomatch z
def tKZ(i:Nat)(tv:TV):b5:=λDe σ=>tv σ λx ax=>match df ax x with
 | some (.int j)=>∃a dx ad fs w c,ax[i]?=some (some (.obj (kqO a dx ad fs)))/\fs.length<1000/\cS "ever_put" (.int j) fs=GV w c j ad/\De.nx (ax.set i (some (.obj (fy a dx ad w c j []))))
 | _=>False
theorem Jt(i:Nat){x:Str}{ve:Expr}{tv:TV}{np ap pos:Pos}(kg:KG G)(hv:EO G k S ve tv)(ho:EO G k S (.Name x np) (JC i))(hs:∀line env,swapsWith ve (some (.Attribute (.Name x np) "ever_put" ap)) line env=pure false:=by intro _ _;rfl):
  ES G k S (.Assign [.Attribute (.Name x np) "ever_put" ap] ve pos) (tKZ i tv):=.mk λX Y ok =>
 cR (sL (ho X Y ok) (hv X Y ok) (hs _ _)) λDn σ H q=>by
  obtain⟨F,ai,De,R,q,K⟩:=q;refine⟨F,ai,_,R,q,λv H1 F1 y ax s1 R1 r1 q1=>?_⟩
  split at q1
  ·rename_i j ej
   obtain rfl:=(R1.df r1 ej).int;obtain⟨a,dx,ad,fs,w,c,eq,hl,hp,q1⟩:=q1;refine⟨F1,ax,λx mv=>x=.var i/\mv=ax,R1,⟨⟨_,eq⟩,rfl,rfl⟩,λv2 H2 F2 y aO s2 R2 r2 q2=>?_⟩;obtain⟨rfl,rfl⟩:=q2;have r2:σ[i]?=some (some v2):=r2;obtain⟨b,w1,⟨rfl,y1,y2,y3⟩,_⟩:=R2.ob.obj i _ eq;rw[r2]at w1;cases w1;have n1:dx≠b:=fF y2 y1 (λz=>nomatch z);have n2:ad≠b:=fF y3 y1 (λz=>nomatch z);refine⟨b,kC,dx,_,rfl,y1,by rw[ok.K];exact kg.cls,by rw[ok.K];exact kg.no _ (by simp),hl,?_⟩
   rw[hp];exact K.nx σ _ F2 _ (s1.trans s2) (R2.gY (o':=fy b dx ad w c j []) eq r2 (.head _) (λ_ z=>z) ⟨rfl,az,by rw[aq n1];exact y2,[],by rw[aq n2];exact y3,.nil⟩) q1
  ·exact q1.elim
abbrev GH:=List D->(Str->Int->Prop)->Prop
def ya(sp:GH):Sp:=λvs H Q _=>∃F x dx rest ds Qd,vs=.ref x::rest/\p0 F H/\H x=some (.ins kC dx [])/\H dx=some (.own x)/\F x=none/\F dx=none/\aH F rest ds/\sp ds Qd /\
 ∀H' F' ad w c,aw F F'->aw F' H'->(∀b o,b≠x->b≠dx->H b=some o->H' b=some o)->(fy x dx ad w c 0 []).rep F' H' x->F' x=none->F' dx=none->F' ad=none->H ad=none->(∀b o,F' b=some o->F b=some o\/Nw H b o)->Qd w c->Q .aV H'
def wW(G:GE)(k:Nat)(sp:GH):Prop:=∃f fd ps k',k=k'+1/\cm G.P G.w G.K G.mg G.base mw k' f fd ps (ya sp)/\Mk G.K kC f/\Binds G.K fd ps []/\G.mg "Kept"=some (.ref kC)
theorem wW.mono{sp:GH}{j:Nat}(h:wW G j sp)(l:j<=k):wW G k sp:=by
 obtain⟨f,fd,ps,j',rfl,h1,h2⟩:=h;exact⟨f,fd,ps,k-1,by omega,h1.mono ⋯,h2⟩
structure Zz(G:GE)(m qual:Str)(st:Stmt)(ps:List Str)(f:Addr)(fd:FuncData):Prop where
 F:Bi G.K m qual st f fd
 makes:Mk G.K kC f
 b:Binds G.K fd ps []
 mg:G.mg "Kept"=some (.ref kC)
def kN(n:Nat)(a dx:Addr)(ds:List D):Sd:=cJ n (.obj (Bl a dx [])::ds.map .sh)
def inQ(x dx:Addr)(Q:Str->Int->Prop)(σ:Sd):Prop:=∃ad w c,σ[0]?=some (some (.obj (fy x dx ad w c 0 [])))/\Q w c
theorem G7{F H:Hp}{x dx:Addr}{vs:List V}{ds:List D}(h1:H x=some (.ins kC dx []))(h2:H dx=some (.own x))(h3:F x=none)(h4:F dx=none)(h:aH F vs ds):jw F H (.ref x::vs) (.obj (Bl x dx [])::ds.map B.sh):=by
 have cs:∀ {i:Nat} {b:B},(B.obj (Bl x dx [])::ds.map B.sh)[i]?=some b->(i=0/\b=.obj (Bl x dx []))\/∃j d,i=j+1/\b=.sh d/\ds[j]?=some d:=λ{i b} h=>by
  cases i with
  | zero=>simp at h;exact .inl ⟨rfl,h.symm⟩
  | succ j =>
   simp only[List.getElem?_cons_succ]at h;obtain⟨d,e1,e2⟩:=dn h;exact .inr ⟨j,d,rfl,e1,e2⟩
 refine⟨by rw[List.length_cons,List.length_cons,List.length_map,h.length],λi d e=>?_,λi xs e=>?_,λi o e=>?_,λi j ys zs b e1=>?_,λi j o p a b e1 e2 e3 e4 lC=>?_,λi j xs o a b e1=>?_⟩
 ·rcases cs e with⟨_,z⟩|⟨j,d',rfl,z,e2⟩
  ·cases z
  ·cases z
   obtain⟨v,e3,r⟩:=h.get e2;exact⟨v,by simpa using e3,r⟩
 ·rcases cs e with⟨_,z⟩|⟨j,d',rfl,z,e2⟩<;>cases z
 ·rcases cs e with⟨rfl,z⟩|⟨j,d',rfl,z,e2⟩
  ·cases z
   refine⟨x,by simp,⟨rfl,h1,h2⟩,λc hc=>?_⟩
   have hc:c∈[x,dx]:=hc;simp only[List.mem_cons,List.not_mem_nil,or_false]at hc;rcases hc with rfl|rfl
   ·exact⟨h3,by rw[h1];exactλz=>nomatch z⟩
   ·exact⟨h4,by rw[h2];exactλz=>nomatch z⟩
  ·cases z
 ·rcases cs e1 with⟨_,z⟩|⟨j,d',rfl,z,e2⟩<;>cases z
 ·rcases cs e1 with⟨rfl,z⟩|⟨_,d',rfl,z,_⟩
  ·rcases cs e2 with⟨rfl,z⟩|⟨_,d',rfl,z,_⟩
   ·exact absurd rfl lC
   ·cases z
  ·cases z
 ·rcases cs e1 with⟨_,z⟩|⟨j,d',rfl,z,e2⟩<;>cases z
theorem Wz{x qual:Str}{st:Stmt}{f:Addr}{fd:FuncData}{N ps:List Str}{sp:GH}{t:b5}(hK:G.K=KF.K)(Fn:Bi G.K x qual st f fd)(Sc:aC N ps (ag st))(ht:c9 G k ⟨N,(ag st).names,[0],false,false,false,λ_ _=>False⟩ (ao st) t)
  (len:∀ds Q,sp ds Q->ds.length+1=ps.length)
  (body:∀ds Q,sp ds Q->∀a dx,t {nx:=inQ a dx Q,rt:=λ_ _=>False} (kN N.length a dx ds)):cm G.P G.w G.K G.mg G.base mw (k+1) f fd ps (ya sp):=by
 refine Fn.ok Sc (λvs H Q E h=>?_) (λiY A outer s H vs Q E hr h=>?_)
 ·obtain⟨F,x,dx,rest,ds,Qd,rfl,s,h1,h2,h3,h4,r,q,K⟩:=h
  rw[List.length_cons,r.length];exact len _ _ q
 ·obtain⟨F,x,dx,rest,ds,Qd,rfl,sm,h1,h2,h3,h4,r,q,K⟩:=h
  have ar:=G7 h1 h2 h3 h4 r;have ft:∀c,jd (.ref x::rest) (B.obj (Bl x dx [])::ds.map B.sh) c->c=x\/c=dx:=λc z=>by
   rcases z with⟨i,ys,e,_⟩|⟨i,o,b,e,e2,hm⟩
   ·cases i with
    | zero=>simp at e
    | succ j=>simp only[List.getElem?_cons_succ]at e;obtain⟨d,e1,_⟩:=dn e;cases e1
   ·cases i with
    | zero =>
     simp at e e2;subst e e2;have hm:c∈[x,dx]:=hm;simpa using hm
    | succ j=>simp only[List.getElem?_cons_succ]at e;obtain⟨d,e1,_⟩:=dn e;cases e1
  have eA:∀p∈sk (.ref x::rest) (B.obj (Bl x dx [])::ds.map B.sh),p.1∈[0]:=λp hp=>by
   obtain⟨i,a⟩:=p;obtain⟨xs,e,_⟩:=eR.mp hp;cases i with
   | zero=>simp at e
   | succ j=>simp only[List.getElem?_cons_succ]at e;obtain⟨d,e1,_⟩:=dn e;cases e1
  refine⟨_,ht (pL mw G.P G.w G.K G.mg G.base N qual (ag st) f iY A outer s H E).PD ⟨H,F,sk (.ref x::rest) (.obj (Bl x dx [])::ds.map B.sh),vR (.ref x::rest) (.obj (Bl x dx [])::ds.map B.sh)⟩ ⟨rfl,rfl,rfl,hK,rfl,rfl,rfl,rfl,Sc.nd,eA,(λ_ h=>nomatch h),λ_=>rfl,Sc.kind,λ_ _ _=>rfl,λ_=>hr.hd,hr.dp,hr.un,λ_=>PassesOwn.never,λ_=>⟨rfl,rfl,rfl⟩,λ_ _ h=>h.elim,λh=>nomatch h⟩,F,kN N.length x dx ds,_,RS.cJ _ sm ar,body ds Qd q x dx,?_⟩;refine⟨λσ H' F' ai s' R' q'=>?_,λv σ H' F' ai b s' R' r' q'=>q'.elim,λ_ _ _ _ _ _ h=>h.elim,λ_ _ _ _ _ _ h=>h.elim⟩;obtain⟨ad,w,c,e,q'⟩:=q';obtain⟨b,w1,w2,w3⟩:=R'.ob.obj 0 _ e;have w20:=w2;obtain⟨rfl,y1,y2,ks,y3,_⟩:=w20;have n1:ad≠b:=fF y3 y1 (λz=>nomatch z);have n2:ad≠dx:=fF y3 y2 (λz=>nomatch z);have ZM:H ad=none:=by
   rcases(w3 ad (by show ad∈[b,dx,ad];simp)).2.2 with z|z
   ·exact z
   ·rcases ft ad (rY (H:=H) (F:=F).mp (List.mem_append_right _ z))with z|z
    ·exact absurd z n1
    ·exact absurd z n2
  refine K H' F' ad w c s' R'.fr (λc o z1 z2 e=>R'.old c o e λy=>?_) w2 (w3 b (by show b∈[b,dx,ad];simp)).1 (w3 dx (by show dx∈[b,dx,ad];simp)).1 (w3 ad (by show ad∈[b,dx,ad];simp)).1 ZM R'.fW q'
  rcases ft c (rY.mp y)with z|z
  ·exact z1 z
  ·exact z2 z
theorem Zz.fi{m qual:Str}{st:Stmt}{ps N:List Str}{f:Addr}{fd:FuncData}{t:b5}{sp:GH}(d:Zz G m qual st ps f fd)(hK:G.K=KF.K)(Sc:aC N ps (ag st))(ht:c9 G k ⟨N,(ag st).names,[0],false,false,false,λ_ _=>False⟩ (ao st) t)
  (len:∀ds Q,sp ds Q->ds.length+1=ps.length) (body:∀ds Q,sp ds Q->∀a dx,t {nx:=inQ a dx Q,rt:=λ_ _=>False} (kN N.length a dx ds)):wW G (k+1+1) sp:=
 ⟨f,fd,ps,k+1,rfl,Wz hK d.F Sc ht len body,d.makes,d.b,d.mg⟩
def tMK(sp:GH)(t:iy):TX:=λσ Q=>t σ λds ax=>sp ds λw c=>∀a dx ad,Q (.obj (fy a dx ad w c 0 [])) ax
theorem RZ{sp:GH}{e:Expr}{es:List Expr}{t:iy}{p pos:Pos}(h:wW G k sp)(ha:zW G k S (e::es) t)(hg:S.sc.lookup ("Kept":Str)=some .globalImplicit:=by rfl)
  (he:∀env,starEach (e::es) env=(false,eval e env)::starEach es env:=by exactλ_=>Vc.cH rfl) (de:∀env,(backTo pos (starEach es env)).any (·.1)=false:=by intro _;rfl) (hh:S.nk=false:=by rfl):EX G k S (.Call (.Name "Kept" p) (e::es) [] pos) (tMK sp t):=.mk λX Y ok=>by
 obtain⟨f,fd,ps,k',rfl,h1,h2,h3,h4⟩:=h;have r9:cm X.prog X.w X.K X.mg X.base mw k' f fd ps (ya sp):=by rw[ok.P,ok.w,ok.K,ok.mg,ok.base];exact h1
 refine a7 (IU (E:=E0) (dvs:=[]) (ds:=[]) (by rw[ok.K];exact h2) r9 (ok.room hh) (dZ ok hg) (by rw[ok.mg];exact h4) (by rw[ok.K];exact h3) .nil oS (ha X Y ok) ∅ (he _) (de _)) λσ H Q q=>?_
 obtain⟨F,ai,Qd,R,q,K⟩:=q;refine⟨F,ai,_,R,q,λvs H1 F1 ds ax s1 R1 r1 q1=>?_⟩;intro x dx hx WR dk;have fx:F1 x=none:=same_none R1.fr hx;have fdx:F1 dx=none:=same_none R1.fr WR;have up:∀ {b:Addr} {o:HO},H1 b=some o->(upd (upd H1 dx (.own x)) x (.ins kC dx [])) b=some o:=λ{b o} e=>by
  rw[aq (bj e hx),aq (bj e WR)];exact e
 refine⟨F1,x,dx,vs++[],ds,_,rfl,⟨λb o e=>up (R1.fr b o e),R1.ob.tab⟩,az,by rw[aq dk,az],fx,fdx,by rw[List.append_nil];exact r1,q1,λH' F' ad w c u1 u2 u3 u4 u5 u6 u7 u8 u9 u10=>⟨rfl,?_⟩⟩
 have sH:aw H1 H':=λb o e=>u3 b o (bj e hx) (bj e WR) (up e);have ZM:H1 ad=none:=by
  cases z:H1 ad with
  | none=>rfl
  | some o=>rw[up z]at u8;cases u8
 have R2:RS Y F' ax σ H':=R1.call u1 u2 sH λb o z=>(u9 b o z).imp id λy=>y.imp (λy=>by
  cases z:H1 b with
  | none=>rfl
  | some o=>rw[up z]at y;cases y) id
 refine K _ H' F' (.obj (fy x dx ad w c 0 [])) ax (s1.trans u1) R2 ⟨x,rfl,u4,λb hb=>?_⟩ (u10 x dx ad);obtain⟨_,g1,g2,ks,g3,_⟩:=u4;have hb:b∈[x,dx,ad]:=hb;simp only[List.mem_cons,List.not_mem_nil,or_false]at hb;rcases hb with rfl|rfl|rfl
 ·exact⟨u5,(by rw[g1];exactλz=>nomatch z),(R1.bX hx).1,R1.eE hx⟩
 ·exact⟨u6,(by rw[g2];exactλz=>nomatch z),(R1.bX WR).1,R1.eE WR⟩
 ·exact⟨u7,(by rw[g3];exactλz=>nomatch z),(R1.bX ZM).1,R1.eE ZM⟩
end Vc
namespace Vc
open PySem L2
variable [KF]
variable {G:GE}{k:Nat}{S:Stat}
abbrev nF:=List D->(Str->Prop)->Prop
def rX(sp:nF):Bh:=λds _ E=>sp ds E
def gK(G:GE)(k:Nat)(m:Str)(sp:nF):Prop:=∃f fd ps,cm G.P G.w G.K G.mg G.base (Ls G.P G.w) k f fd ps (Tq (rX sp))/\Meth G.K kC m f/\Binds G.K fd ps []
theorem gK.mono{x:Str}{sp:nF}{j:Nat}(h:gK G j x sp)(l:j<=k):gK G k x sp:=by
 obtain⟨f,fd,ps,h1,h2,h3⟩:=h;exact⟨f,fd,ps,h1.mono l,h2,h3⟩
theorem nc.fx{m qual:Str}{st:Stmt}{ps N:List Str}{f:Addr}{fd:FuncData}{t:(Str->Sd->Prop)->b5}{sp:nF}(d:nc G m qual st ps f fd)(hK:G.K=KF.K)(Sc:aC N ps (ag st))
  (ht:∀Ed:Str->Prop,c9 G k ⟨N,(ag st).names,[],false,false,true,λc _=>Ed c⟩ (ao st) (t λc _=>Ed c))
  (len:∀ds E,sp ds E->ds.length=ps.length) (body:∀ds (Q:B->Prop) E,sp ds E->t (λc _=>E c) {nx:=λ_=>Q (.sh .aV),rt:=λb _=>Q b} (aL N.length ds)):gK G (k+1) m sp:=
 ⟨f,fd,ps,Dw hK d.F Sc ht (λds Q E h=>len ds E h) λds Q E h=>body ds Q E h,d.mt,d.b⟩
def Lv(sp:nF)(ds:List D)(E:Str->Prop):Prop:=sp ds E
def ub(ex:Str->Sd->Prop)(sp:nF)(to:TD)(t:iy):TX:=λσ Q=>to σ λx ax=>(∃w c e kvs,x=.kp w c e kvs)/\t ax λds aO=>Lv sp (x::ds) λc=>ex c aO
theorem oZ{o e:Expr}{es:List Expr}{m:Str}{apos pos:Pos}{sp:nF}{to:TD}{t:iy}{pl:Env->Sem Bool}(h:gK G k m sp)(kg:KG G)(ho:ED G k S o to)(ha:zW G k S (e::es) t)(hm:(["way","count","points_by_name","ever_put"]:List Str).contains m=false:=by decide)
  (pN:∀env,starEach (e::es) env=(false,eval e env)::starEach es env:=by exactλ_=>Vc.cH rfl) (de:∀env,(backTo pos (starEach es env)).any (·.1)=false:=by intro _;rfl) (hh:S.nk=false:=by rfl) (Oh:S.uk=false:=by rfl)
  (ht:∀env,eval (.Call (.Attribute o m apos) (e::es) [] pos) env=(do
   let ov <- eval o env
   standAt apos.atName
   let (f,first) <- holding [ov] (getMethod ov m (pl env))
   callWith pos f first (backTo pos (starEach (e::es) env)) (backToKw pos (keywordEach [] env))):=by intro _;rfl):EX G k S (.Call (.Attribute o m apos) (e::es) [] pos) (ub S.ex sp to t):=.mk λX Y ok pins s σ H Q I q=>by
 obtain⟨f,fd,ps,h1,h2,h3⟩:=h;have r9:cm X.prog X.w X.K X.mg X.base (Ls X.prog X.w) k f fd ps (Tq (rX sp)):=by rw[ok.P,ok.w,ok.K,ok.mg,ok.base];exact h1
 obtain⟨F,ai,Qd,R,q,K⟩:=q;refine PySem.W.methodCall_KW (pl:=pl X.env) (cE (ho X Y ok pins s σ H (λv H1=>∃F1 x ax,RS Y F1 ax σ H1/\Rep F1 v x/\(∃w c e kvs,x=.kp w c e kvs)/\t ax λds aO=>Lv sp (x::ds) λc=>S.ex c aO) I
  ⟨F,ai,_,R,q,λv H1 F1 x ax s1 R1 r1 q1=>⟨F1,x,ax,R1,r1,q1⟩⟩) λu s1 ⟨v,H1,I1,rv,F1,x,ax,R1,r1,⟨w,c,e',kvs,ex⟩,q1⟩=>?_) (ht _)
 subst ex;cases(show Rep F1 v (.kp w c e' kvs)from r1)with
 | @kp a dx ad _ _ _ ks _ e1 e2 r =>
 obtain rfl:u=Value.ref a:=rv;refine jl I1 (R1.fr _ _ e1) (by rw[ok.K];exact kg.cls) (by rw[ok.K];exact h2) (ou hm) ?_
 refine PySem.W.callWith_K (first:=[.ref a]) (h₀:=X.base) I.ok.mod.yW (by rw[ok.K];exact h2.kp) (cE (ha X Y ok pos pins s1 σ H1 (λvs H2=>∃F2 ds aO,aw F1 F2/\RS Y F2 aO σ H2/\aH F2 vs ds/\Lv sp (.kp w c e' kvs::ds) λc=>S.ex c aO) I1
  ⟨F1,ax,_,R1,q1,λvs H2 F2 ds aO s2 R2 r2 q2=>⟨F2,ds,aO,s2,R2,r2,q2⟩⟩) λus s2 ⟨vs,H2,I2,r2,F2,ds,aO,Zc,R2,rl,q2⟩=>⟨I2.i7,?_⟩) (pN _) (de _)
 let E:XK:=λv _ _=>∃c t,v=.str c t/\S.ex c aO
 have yS:Tq (rX sp) (.ref a::vs) H2 Q E:=⟨F2,.kp w c e' kvs::ds,λ_=>False,_,⟨R2.fr,R2.ob.tab⟩,.cons ((Rep.kp e1 e2 r).mono Zc) rl,q2,λv H' F' b _ _ _ _ _ z=>z.elim,λc t H' hx=>⟨c,t,rfl,hx⟩⟩;have rv:Vals (V.ref a::vs) (Value.ref a::us):=.cons rfl r2;have hl:(Value.ref a::us).length=ps.length:=by rw[<- rv.length];exact r9.len _ _ _ _ yS
 have hb:=h3 s2 (Value.ref a::us) (by rw[<- ok.K];exact I2.i7) (by rw[List.append_nil];exact hl)
 rw[List.append_nil]at hb;refine wpAny_call (codeAny_mono (r9.run X.A X.stack s2 H2 ⟨Value.ref a::us,[]⟩ (Value.ref a::us) (V.ref a::vs) Q E (ok.room hh) I2.Ht hb rv yS) λr s' hq=>?_);cases r with
 | error e =>
  obtain⟨b,T,c,H',rfl,os,bare,un,bw,sm,na,nT,la,lT,ne,fa,fT,ed⟩:=hq;obtain⟨c',t',ec,hx⟩:=ed 0;cases ec;have I3:L2.Inv X pins σ H' s':=I2.qg os un bw bare λb z=>absurd z (by simp)
  have R3:RS Y F2 aO σ H':=R2.call (aw.refl _) (R2.fr.trans sm) sm λc o e=>.inl e;have old:∀b,s2.heap.get? b=none->X.bR.heap.get? b=none:=λb e=>by
   cases e0:X.bR.heap.get? b with
   | none=>rfl
   | some o =>
    obtain⟨o',e1⟩:=I2.base.there b o e0 (by rw[(ok.nx Oh).1];simp)
    rw[e]at e1;cases e1
  exact ok.exc c aO hx pins σ H' F2 s' b T I3 R3 ⟨same_none R2.fr na,same_none R2.fr nT,fa,fT,ne,(R2.bX na).1,(R2.bX nT).1,old b la,old T lT⟩
 | ok fl =>
  cases fl with
  | ret u=>exact I2.after hq
  | next=>exact False.elim hq
  | brk=>exact False.elim hq
  | cont=>exact False.elim hq
theorem ln0{α:Type}{P:List α->Prop}(h:P [])(us:List α)(e:us.length=0):P us:=List.eq_nil_of_length_eq_zero e ▸ h
theorem UJ{α:Type}{n:Nat}{P:List α->Prop}(h:∀(a:α) (r:List α),r.length=n->P (a::r)):∀us:List α,us.length=n+1->P us:=λus e=>by
 cases us with
 | nil=>cases e
 | cons a r=>exact h a r (Nat.succ.inj e)
@[elab_as_elim] theorem GW{α:Type} {P:List α->Prop} (h:∀a,P [a]) (us:List α) (e:us.length=1):P us:=UJ (λa=>ln0 (P:=λr=>P (a::r)) (h a)) us e
@[elab_as_elim] theorem ln2{α:Type} {P:List α->Prop} (h:∀a b,P [a,b]) (us:List α) (e:us.length=2):P us:=UJ (λa=>GW (P:=λr=>P (a::r)) (h a)) us e
@[elab_as_elim] theorem K5{α:Type} {P:List α->Prop} (h:∀a b c,P [a,b,c]) (us:List α) (e:us.length=3):P us:=UJ (λa=>ln2 (P:=λr=>P (a::r)) (h a)) us e
@[elab_as_elim] theorem ln4{α:Type} {P:List α->Prop} (h:∀a b c d,P [a,b,c,d]) (us:List α) (e:us.length=4):P us:=UJ (λa=>K5 (P:=λr=>P (a::r)) (h a)) us e
@[elab_as_elim] theorem ln5{α:Type} {P:List α->Prop} (h:∀a b c d e,P [a,b,c,d,e]) (us:List α) (e:us.length=5):P us:=UJ (λa=>ln4 (P:=λr=>P (a::r)) (h a)) us e
@[elab_as_elim] theorem ln6{α:Type} {P:List α->Prop} (h:∀a b c d e f,P [a,b,c,d,e,f]) (us:List α) (e:us.length=6):P us:=UJ (λa=>ln5 (P:=λr=>P (a::r)) (h a)) us e
theorem Hr(p:Addr)(kvs:List (Int×D)):(mW p kvs).view=some (.gv kvs):=rfl
theorem Ij(a dx ad:Addr)(w:Str)(c e:Int)(kvs:List (Int×D)):(fy a dx ad w c e kvs).view=some (.kp w c e kvs):=rfl
def PC:B->Bool
 | .own _=>false
 | _=>true
theorem xE{bs:List B}{i:Nat}{xs:List D}(k:Nat)(h:(bs.drop k).all PC=true)(e:bs[i]?=some (.own xs)):i∈List.range k:=by
 rw[List.mem_range];rcases Nat.lt_or_ge i k with z|z
 ·exact z
 ·have:B.own xs∈bs.drop k:=List.mem_of_getElem? (i:=i-k) (by rw[List.getElem?_drop,Nat.add_sub_cancel' z];exact e)
  cases List.all_eq_true.mp h _ this
end Vc
set_option maxHeartbeats 0
namespace K45
open PySem L2 Vc
section
def top(i:Nat):Stmt:=PySem.Challenge.pw_closepoints_k45_whole_kept_points.main.body.getD i (.Pass ⟨0,0,0,0⟩)
variable [KF]
abbrev XL:List Str:=["NearError","NoPoints","NoPlace"]
structure Gl(G:GE):Prop where
 Bg:jB G XL
 kg:KG G
 z_ValueError:G.mg "ValueError"=none
 z_abs:G.mg "abs"=none
 z_int:G.mg "int"=none
 z_isinstance:G.mg "isinstance"=none
 z_len:G.mg "len"=none
 z_list:G.mg "list"=none
 z_min:G.mg "min"=none
 z_range:G.mg "range"=none
 z_sorted:G.mg "sorted"=none
 z_sum:G.mg "sum"=none
 z_tuple:G.mg "tuple"=none
 z_zip:G.mg "zip"=none
 z0:Lw G "SQUARES" (.str "squares")
 qf:Lw G "STREETS" (.str "streets")
variable {G:GE}{k:Nat}
abbrev kn:Stmt:=top 9
abbrev BI:List Str:=["count"]
local macro_rules | `(tactic| walk_at "5") => `(tactic| exact ⟨rfl,rfl,rfl,by decide +kernel,rfl,by decide +kernel,by decide +kernel⟩)
theorem Sz:aC BI ["count"] (ag kn):=by walk_at "5"
def FR:b5:=(b6 (Bb (aQ Ej (ae 0) (aR (.int 1))) (aQ ZJ (ae 0) (aR (.int 3)))) ml jv)
theorem V7(E:Gl G):c9 G k ⟨BI,(ag kn).names,[],false,false,false,λ_ _=>False⟩ (ao kn) (FR):=(aB (cT (Se (Jn (aU xg (af 0) au) (zt (aU Vt (af 0) au)))) (aB iK) cc))
abbrev o5:Stmt:=top 10
abbrev Bv:List Str:=["point","count"]
theorem Lg:aC Bv ["point","count"] (ag o5):=by walk_at "5"
def TQ:b5:=(b6 (aQ neT (bq (eW gU (bD (ae 0) dB))) (ae 1)) ml jv)
theorem aah(E:Gl G):c9 G k ⟨Bv,(ag o5).names,[],false,false,false,λ_ _=>False⟩ (ao o5) (TQ):=(aB (cT (aU z9 (bx (cZ f_len E.z_len (aG (af 0) aS) (by decide +kernel))) (af 1)) (aB iK) cc))
abbrev j8:Stmt:=top 11
abbrev BD:List Str:=["points","point"]
theorem Ss:aC BD ["points"] (ag j8):=by walk_at "5"
def FK(gm:bu)(kJ:bu):b5:=(dc (dm (ak [] (ae 0))) (iU 1) (bS (iX (iW gm (bf (ak [] (bq (eW gU (bD (ae 1) dB)))) tN))) (iX (iW kJ (bf (ak [] (ae 1)) (bf (ak [] (bq (eW gU (bD (dg (ae 0) (aR (.int 0))) dB)))) tN))))))
theorem V1(E:Gl G){gm:bu}(qA:dw G k "need_count" gm){kJ:bu}(Ak:dw G k "need_as_many_numbers" kJ):c9 G k ⟨BD,(ag j8).names,[],false,false,false,λ_ _=>False⟩ (ao j8) (FK gm kJ):=(aB (jY (gS (aE (af 0))) (bF 1) (av (bA (bz qA (ah (aE (bx (cZ f_len E.z_len (aG (af 1) aS) (by decide +kernel)))) aD))) (aB (bA (bz Ak (ah (aE (af 1)) (ah (aE (bx (cZ f_len E.z_len (aG (bI (af 0) au) aS) (by decide +kernel)))) aD))))))))
abbrev kB:Stmt:=top 12
abbrev BQ:List Str:=["way"]
theorem SJ:aC BQ ["way"] (ag kB):=by walk_at "5"
def F9:b5:=(b6 (wj (aQ neT (ae 0) (aR (.str "streets"))) (aQ neT (ae 0) (aR (.str "squares")))) ml jv)
theorem Wh(E:Gl G):c9 G k ⟨BQ,(ag kB).names,[],false,false,false,λ_ _=>False⟩ (ao kB) (F9):=(aB (cT (Se (Fb (aU z9 (af 0) (Fc E.qf)) (xR (aU z9 (af 0) (Fc E.z0))))) (aB iK) cc))
abbrev sQ:Stmt:=top 13
abbrev Lz:List Str:=["points","way"]
theorem YT:aC Lz ["points","way"] (ag sQ):=by walk_at "5"
def TR(tL:bu)(gq:bu):b5:=(bS (iX (iW tL (bf (ak [] (ae 0)) tN))) (iX (iW gq (bf (ak [] (ae 1)) tN))))
theorem aai(E:Gl G){tL:bu}(DG:dw G k "need_points" tL){gq:bu}(qC:dw G k "need_way" gq):c9 G k ⟨Lz,(ag sQ).names,[],false,false,false,λ_ _=>False⟩ (ao sQ) (TR tL gq):=(av (bA (bz DG (ah (aE (af 0)) aD))) (aB (bA (bz qC (ah (aE (af 1)) aD)))))
abbrev ko:Stmt:=top 14
abbrev BJ:List Str:=["points","place"]
theorem SA:aC BJ ["points","place"] (ag ko):=by walk_at "5"
def FT:b5:=(b6 (Bb (aQ Ej (ae 1) (aR (.int 0))) (aQ ZI (ae 1) (bq (eW gU (bD (ae 0) dB))))) ml jv)
theorem V8(E:Gl G):c9 G k ⟨BJ,(ag ko).names,[],false,false,false,λ_ _=>False⟩ (ao ko) (FT):=(aB (cT (Se (Jn (aU xg (af 1) au) (zt (aU Vr (af 1) (bx (cZ f_len E.z_len (aG (af 0) aS) (by decide +kernel))))))) (aB iK) cc))
abbrev kj:Stmt:=top 15
abbrev BH:List Str:=["bound"]
theorem Sy:aC BH ["bound"] (ag kj):=by walk_at "5"
def FQ:b5:=(b6 (aQ Ej (ae 0) (aR (.int 0))) ml jv)
theorem V6(E:Gl G):c9 G k ⟨BH,(ag kj).names,[],false,false,false,λ_ _=>False⟩ (ao kj) (FQ):=(aB (cT (aU xg (af 0) au) (aB iK) cc))
abbrev sW:Stmt:=top 17
abbrev LK:List Str:=["way","point","other","differences"]
theorem Y0:aC LK ["way","point","other"] (ag sW):=by walk_at "5"
def T7:b5:=(bS (d8 [] 3 (dF [] [none,none] (TN (bf (ak [] (ae 1)) (bf (ak [] (ae 2)) tN))) (N9 2 (gC (iU 0) (gC (iU 1) N8))) eX (ak [] (bq (eW w6 (bD (bq (a9 A9 (ae 0) (ae 1))) dB)))))) (bS (b6 (aQ eqT (ae 0) (aR (.str "streets"))) (fA [] (eW sumF (bD (ae 3) dB))) jv) (fA [] (eW sumF (bD (bq (dF [] [none] (dm (ak [] (ae 3))) (iU 0) eX (ak [] (bq (a9 m6 (ae 0) (ae 0)))))) dB)))))
local macro_rules | `(tactic| walk_at "6") => `(tactic| first|decide +kernel | (dsimp only[aX,aJ];decide +kernel))
theorem aaq(E:Gl G):c9 G k ⟨LK,(ag sW).names,[],false,false,false,λ_ _=>False⟩ (ao sW) (T7):=(av (jr 3 (N':=["here","there"]) (Xi (ah (aE (af 1)) (ah (aE (af 2)) aD)) E.z_zip) ⟨rfl,by walk_at "6",by walk_at "6",by walk_at "6",by walk_at "6",rfl,by walk_at "6"⟩ (yF (dQ (bF 0) (dQ (bF 1) r0))) jC (aE (bx (cZ yC E.z_abs (aG (bx (zu (af 0) (af 1))) aS) (by decide +kernel))))) (av (cT (aU eM (af 0) (Fc E.qf)) (aB (bB (cZ Ds E.z_sum (aG (af 3) aS) (by decide +kernel)))) cc) (aB (bB (cZ Ds E.z_sum (aG (bx (lQ (N':=["difference"]) (gS (aE (af 3))) ⟨rfl,by walk_at "6",by walk_at "6",by walk_at "6",by walk_at "6",rfl,by walk_at "6"⟩ (bF 0) jC (aE (bx (mM (af 0) (af 0)))))) aS) (by decide +kernel))))))
abbrev sS:Stmt:=top 18
abbrev LC:List Str:=["points","way","pairs","i","j"]
theorem YW:aC LC ["points","way"] (ag sS):=by walk_at "5"
def Zo(kL:bu):b5:=(bS (d8 [] 2 (ua tN)) (bS (dc (m7 (bD (bq (eW gU (bD (ae 0) dB))) dB)) (iU 3) (dc (Jo (bD (bq (a9 eL (ae 3) (aR (.int 1)))) (bD (bq (eW gU (bD (ae 0) dB))) dB))) (iU 4) (iX (t6 (ae 2) (ak [] (uq (bf (ak [] (bq (iW kL (bf (ak [] (ae 1)) (bf (ak [] (dg (ae 0) (ae 3))) (bf (ak [] (dg (ae 0) (ae 4))) tN)))))) (bf (ak [] (ae 3)) (bf (ak [] (ae 4)) tN))))))))) (fA [] (oX (ae 2)))))
theorem aak(E:Gl G){kL:bu}(Am:dw G k "far_between" kL):c9 G k ⟨LC,(ag sS).names,[],false,false,false,λ_ _=>False⟩ (ao sS) (Zo kL):=(av (bM 2 (eB aD)) (av (jY (f9 (aG (bx (cZ f_len E.z_len (aG (af 0) aS) (by decide +kernel))) aS) E.z_range) (bF 3) (aB (jY (OA (aG (bx (dE (af 3) au)) (aG (bx (cZ f_len E.z_len (aG (af 0) aS) (by decide +kernel))) aS)) E.z_range) (bF 4) (aB (bA (fK (af 2) (aE (eU (ah (aE (bx (bz Am (ah (aE (af 1)) (ah (aE (bI (af 0) (af 3))) (ah (aE (bI (af 0) (af 4))) aD)))))) (ah (aE (af 3)) (ah (aE (af 4)) aD))))))))))) (aB (bB (gI (af 2))))))
abbrev kc:Stmt:=top 20
abbrev BF:List Str:=["points","way","bound"]
theorem Sw:aC BF ["points","way","bound"] (ag kc):=by walk_at "5"
def FO(fc:bu)(tQ:bu)(kK:bu):b5:=(bS (iX (iW fc (bf (ak [] (ae 0)) (bf (ak [] (ae 1)) tN)))) (bS (iX (iW tQ (bf (ak [] (ae 2)) tN))) (fA [] (dF [] [none,none,none,some 2] (dm (ak [] (bq (iW kK (bf (ak [] (ae 0)) (bf (ak [] (ae 1)) tN)))))) (N9 3 (gC (iU 0) (gC (iU 1) (gC (iU 2) N8)))) (aQ ZZ (ae 0) (ae 3)) (ak [] (uq (bf (ak [] (ae 1)) (bf (ak [] (ae 2)) tN))))))))
theorem V4(E:Gl G){fc:bu}(sd:dw G k "need_points_and_way" fc){tQ:bu}(DK:dw G k "need_bound" tQ){kK:bu}(Al:dw G k "pairs_by_places" kK):c9 G k ⟨BF,(ag kc).names,[],false,false,false,λ_ _=>False⟩ (ao kc) (FO fc tQ kK):=(av (bA (bz sd (ah (aE (af 0)) (ah (aE (af 1)) aD)))) (av (bA (bz DK (ah (aE (af 2)) aD))) (aB (bB (lQ (N':=["far","i","j","bound"]) (gS (aE (bx (bz Al (ah (aE (af 0)) (ah (aE (af 1)) aD)))))) ⟨rfl,by walk_at "6",by walk_at "6",by walk_at "6",by walk_at "6",rfl,by walk_at "6"⟩ (yF (dQ (bF 0) (dQ (bF 1) (dQ (bF 2) r0)))) (yt (aU Vu (af 0) (af 3))) (aE (eU (ah (aE (af 1)) (ah (aE (af 2)) aD)))))))))
abbrev sU:Stmt:=top 22
abbrev LI:List Str:=["points","way","point","places"]
theorem YY:aC LI ["points","way","point","places"] (ag sU):=by walk_at "5"
def T4(kL:bu):b5:=(fA [] (oX (JA (bq (dF [] [none,some 1,some 2,some 0] (dm (ak [] (ae 3))) (iU 0) eX (ak [] (uq (bf (ak [] (bq (iW kL (bf (ak [] (ae 1)) (bf (ak [] (ae 2)) (bf (ak [] (dg (ae 3) (ae 0))) tN)))))) (bf (ak [] (ae 0)) tN)))))) (ak [] (aR .aV)))))
theorem aan(E:Gl G){kL:bu}(Am:dw G k "far_between" kL):c9 G k ⟨LI,(ag sU).names,[],false,false,false,λ_ _=>False⟩ (ao sU) (T4 kL):=(aB (bB (gI (Lc (bx (lQ (N':=["place","way","point","points"]) (gS (aE (af 3))) ⟨rfl,by walk_at "6",by walk_at "6",by walk_at "6",by walk_at "6",rfl,by walk_at "6"⟩ (bF 0) jC (aE (eU (ah (aE (bx (bz Am (ah (aE (af 1)) (ah (aE (af 2)) (ah (aE (bI (af 3) (af 0))) aD)))))) (ah (aE (af 0)) aD)))))) (aE hW) E.z_min))))
abbrev sV:Stmt:=top 23
abbrev LJ:List Str:=["points","way","place","others"]
theorem YZ:aC LJ ["points","way","place"] (ag sV):=by walk_at "5"
def T5(zM:bu):b5:=(bS (d8 [] 3 (dF [] [none,some 2] (m7 (bD (bq (eW gU (bD (ae 0) dB))) dB)) (iU 0) (aQ neT (ae 0) (ae 1)) (ak [] (ae 0)))) (fA [] (iW zM (bf (ak [] (ae 0)) (bf (ak [] (ae 1)) (bf (ak [] (dg (ae 0) (ae 2))) (bf (ak [] (ae 3)) tN)))))))
theorem aao(E:Gl G){zM:bu}(Oc:dw G k "nearest_among" zM):c9 G k ⟨LJ,(ag sV).names,[],false,false,false,λ_ _=>False⟩ (ao sV) (T5 zM):=(av (jr 3 (N':=["other","place"]) (f9 (aG (bx (cZ f_len E.z_len (aG (af 0) aS) (by decide +kernel))) aS) E.z_range) ⟨rfl,by walk_at "6",by walk_at "6",by walk_at "6",by walk_at "6",rfl,by walk_at "6"⟩ (bF 0) (yt (aU z9 (af 0) (af 1))) (aE (af 0))) (aB (bB (bz Oc (ah (aE (af 0)) (ah (aE (af 1)) (ah (aE (bI (af 0) (af 2))) (ah (aE (af 3)) aD))))))))
abbrev j7:Stmt:=top 24
abbrev BA:List Str:=["points","way"]
theorem Sr:aC BA ["points","way"] (ag j7):=by walk_at "5"
def FJ(fc:bu)(kK:bu):b5:=(bS (iX (iW fc (bf (ak [] (ae 0)) (bf (ak [] (ae 1)) tN)))) (fA [] (oX (JA (bq (iW kK (bf (ak [] (ae 0)) (bf (ak [] (ae 1)) tN)))) (ak [] (aR .aV))))))
theorem V0(E:Gl G){fc:bu}(sd:dw G k "need_points_and_way" fc){kK:bu}(Al:dw G k "pairs_by_places" kK):c9 G k ⟨BA,(ag j7).names,[],false,false,false,λ_ _=>False⟩ (ao j7) (FJ fc kK):=(av (bA (bz sd (ah (aE (af 0)) (ah (aE (af 1)) aD)))) (aB (bB (gI (Lc (bx (bz Al (ah (aE (af 0)) (ah (aE (af 1)) aD)))) (aE hW) E.z_min)))))
abbrev kh:Stmt:=top 25
abbrev BG:List Str:=["points","way","place"]
theorem Sx:aC BG ["points","way","place"] (ag kh):=by walk_at "5"
def FP(fc:bu)(tR:bu)(zN:bu):b5:=(bS (iX (iW fc (bf (ak [] (ae 0)) (bf (ak [] (ae 1)) tN)))) (bS (iX (iW tR (bf (ak [] (ae 0)) (bf (ak [] (ae 2)) tN)))) (fA [] (iW zN (bf (ak [] (ae 0)) (bf (ak [] (ae 1)) (bf (ak [] (ae 2)) tN)))))))
theorem V5(E:Gl G){fc:bu}(sd:dw G k "need_points_and_way" fc){tR:bu}(DL:dw G k "need_place" tR){zN:bu}(Od:dw G k "nearest_other" zN):c9 G k ⟨BG,(ag kh).names,[],false,false,false,λ_ _=>False⟩ (ao kh) (FP fc tR zN):=(av (bA (bz sd (ah (aE (af 0)) (ah (aE (af 1)) aD)))) (av (bA (bz DL (ah (aE (af 0)) (ah (aE (af 2)) aD)))) (aB (bB (bz Od (ah (aE (af 0)) (ah (aE (af 1)) (ah (aE (af 2)) aD))))))))
abbrev sT:Stmt:=inClass (top 27) 0
abbrev LD:List Str:=["self","way","count"]
theorem YX:aC LD ["self","way","count"] (ag sT):=by walk_at "5"
def T1(gm:bu)(gq:bu):b5:=(bS (iX (iW gm (bf (ak [0] (ae 2)) tN))) (bS (iX (iW gq (bf (ak [0] (ae 1)) tN))) (bS (tKI 0 "way" (ae 1)) (bS (tKI 0 "count" (ae 2)) (bS (tKN 0) (tKZ 0 (aR (.int 0))))))))
theorem aam(E:Gl G){gm:bu}(qA:dw G k "need_count" gm){gq:bu}(qC:dw G k "need_way" gq):c9 G k ⟨LD,(ag sT).names,[0],false,false,false,λ_ _=>False⟩ (ao sT) (T1 gm gq):=(av (bA (bz qA (ah (aE (af 2)) aD))) (av (bA (bz qC (ah (aE (af 1)) aD))) (av (Fo 0 E.kg (af 1) (vU 0)) (av (Fo 0 E.kg (af 2) (vU 0)) (av (Sg 0 E.kg) (aB (Jt 0 E.kg au (vU 0))))))))
abbrev ic:Stmt:=inClass (top 27) 1
abbrev uB:List Str:=["self","point","name"]
theorem Ft:aC uB ["self","point"] (ag ic):=by walk_at "5"
def FY(kJ:bu):b5:=(bS (iX (iW kJ (bf (ak [0] (ae 1)) (bf (ak [0] (Lp "count" (ig 0))) tN)))) (bS (d8 [0] 2 (oX (Lp "ever_put" (ig 0)))) (bS (tKP 0 (ae 2) (ak [0] (ae 1))) (bS (tKE 0 (bq (a9 eL (ae 2) (aR (.int 1))))) (fA [0] (oX (ae 2)))))))
theorem Wd(E:Gl G){kJ:bu}(Ak:dw G k "need_as_many_numbers" kJ):c9 G k ⟨uB,(ag ic).names,[0],false,false,false,λ_ _=>False⟩ (ao ic) (FY kJ):=(av (bA (bz Ak (ah (aE (af 1)) (ah (aE (A3 E.kg (hZ 0))) aD)))) (av (bM 2 (gI (A3 E.kg (hZ 0)))) (av (Si 0 E.kg (aE (af 1)) (af 2) (vU 0)) (av (Js 0 E.kg (bx (dE (af 2) au)) (vU 0)) (aB (bB (gI (af 2))))))))
abbrev h9:Stmt:=inClass (top 27) 2
abbrev uA:List Str:=["self","name"]
theorem Fs:aC uA ["self","name"] (ag h9):=by walk_at "5"
def FV(fj:bu):b5:=(bS (iX (TF (eD fj) 0 (mj (ak [0] (ae 1)) jt))) (tKD 0 (ae 1)))
theorem Wa(E:Gl G){fj:bu}(sf:cB G k "need_name" (eD fj)):c9 G k ⟨uA,(ag h9).names,[0],false,false,false,λ_ _=>False⟩ (ao h9) (FV fj):=(av (bA (sO true 0 sf E.kg (eh (aE (af 1)) cX))) (aB (Sh 0 E.kg (af 1) (vU 0))))
abbrev j9:Stmt:=inClass (top 27) 3
abbrev BE:List Str:=["self"]
theorem Sv:aC BE ["self"] (ag j9):=by walk_at "5"
def FL:b5:=(fA [] (eW sortI (bD (Tz (ak [] (ae 0))) dB)))
theorem V2(E:Gl G):c9 G k ⟨BE,(ag j9).names,[],false,false,false,λ_ _=>False⟩ (ao j9) (FL):=(aB (bB (cZ iA E.z_sorted (aG (Fd E.kg (aE (af 0))) aS) (by decide +kernel))))
abbrev h8:Stmt:=inClass (top 27) 4
abbrev uy:List Str:=["self","name"]
theorem Fq:aC uy ["self","name"] (ag h8):=by walk_at "5"
def FN(fj:bu):b5:=(bS (iX (uo (eD fj) (ak [] (ae 0)) (mj (ak [] (ae 1)) jt))) (fA [] (oX (pS (Tz (ak [] (ae 0))) (ae 1)))))
theorem V3(E:Gl G){fj:bu}(sf:cB G k "need_name" (eD fj)):c9 G k ⟨uy,(ag h8).names,[],false,false,false,λ_ _=>False⟩ (ao h8) (FN fj):=(av (bA (oY sf E.kg (aE (af 0)) (eh (aE (af 1)) cX))) (aB (bB (gI (mL (Fd E.kg (aE (af 0))) (af 1))))))
abbrev kz:Stmt:=inClass (top 27) 5
abbrev BO:List Str:=["self","found","names"]
theorem SG:aC BO ["self"] (ag kz):=by walk_at "5"
def FZ(tK:bu)(fh:bu)(bC:bu):b5:=(bS (d8 [] 1 (iW tK (bf (ak [] (bq (uo (eD fh) (ak [] (ae 0)) jt))) (bf (ak [] (Lp "way" (ae 0))) tN)))) (bS (b6 (aQ Xj (ae 1) (aR .aV)) (fA [] (oX (aR .aV))) jv) (bS (d8 [] 2 (uo (eD bC) (ak [] (ae 0)) jt)) (fA [] (oX (uq (bf (ak [] (dg (ae 1) (aR (.int 0)))) (bf (ak [] (dg (ae 2) (dg (ae 1) (aR (.int 1))))) (bf (ak [] (dg (ae 2) (dg (ae 1) (aR (.int 2))))) tN)))))))))
theorem Wf(E:Gl G){tK:bu}(DF:dw G k "nearest_two" tK){fh:bu}(se:cB G k "plain_points" (eD fh)){bC:bu}(dD:cB G k "names" (eD bC)):c9 G k ⟨BO,(ag kz).names,[],false,false,false,λ_ _=>False⟩ (ao kz) (FZ tK fh bC):=(av (bM 1 (bz DF (ah (aE (bx (gh se E.kg (aE (af 0))))) (ah (aE (A3 E.kg (af 0))) aD)))) (av (cT (aU Mr (af 1) hW) (aB (bB (gI hW))) cc) (av (bM 2 (gh dD E.kg (aE (af 0)))) (aB (bB (gI (eU (ah (aE (bI (af 1) au)) (ah (aE (bI (af 2) (bI (af 1) au))) (ah (aE (bI (af 2) (bI (af 1) au))) aD))))))))))
abbrev o7:Stmt:=inClass (top 27) 6
abbrev BX:List Str:=["self","name","names","found"]
theorem Li:aC BX ["self","name"] (ag o7):=by walk_at "5"
def T6(fj:bu)(bC:bu)(tP:bu)(fh:bu):b5:=(bS (iX (uo (eD fj) (ak [] (ae 0)) (mj (ak [] (ae 1)) jt))) (bS (d8 [] 2 (uo (eD bC) (ak [] (ae 0)) jt)) (bS (d8 [] 3 (iW tP (bf (ak [] (bq (uo (eD fh) (ak [] (ae 0)) jt))) (bf (ak [] (Lp "way" (ae 0))) (bf (ak [] (TC (ae 2) (ak [] (ae 1)))) tN))))) (bS (b6 (aQ Xj (ae 3) (aR .aV)) (fA [] (oX (aR .aV))) jv) (fA [] (oX (uq (bf (ak [] (dg (ae 3) (aR (.int 0)))) (bf (ak [] (dg (ae 2) (dg (ae 3) (aR (.int 1))))) tN)))))))))
theorem aap(E:Gl G){fj:bu}(sf:cB G k "need_name" (eD fj)){bC:bu}(dD:cB G k "names" (eD bC)){tP:bu}(DJ:dw G k "nearest_of" tP){fh:bu}(se:cB G k "plain_points" (eD fh)):c9 G k ⟨BX,(ag o7).names,[],false,false,false,λ_ _=>False⟩ (ao o7) (T6 fj bC tP fh):=(av (bA (oY sf E.kg (aE (af 0)) (eh (aE (af 1)) cX))) (av (bM 2 (gh dD E.kg (aE (af 0)))) (av (bM 3 (bz DJ (ah (aE (bx (gh se E.kg (aE (af 0))))) (ah (aE (A3 E.kg (af 0))) (ah (aE (Jm (af 2) (aE (af 1)))) aD))))) (av (cT (aU Mr (af 3) hW) (aB (bB (gI hW))) cc) (aB (bB (gI (eU (ah (aE (bI (af 3) au)) (ah (aE (bI (af 2) (bI (af 3) au))) aD))))))))))
abbrev kq:Stmt:=inClass (top 27) 7
abbrev BK:List Str:=["self","bound","names"]
theorem SD:aC BK ["self","bound"] (ag kq):=by walk_at "5"
def FU(bC:bu)(tO:bu)(fh:bu):b5:=(bS (d8 [] 2 (uo (eD bC) (ak [] (ae 0)) jt)) (fA [] (dF [] [none,none,some 2] (dm (ak [] (bq (iW tO (bf (ak [] (bq (uo (eD fh) (ak [] (ae 0)) jt))) (bf (ak [] (Lp "way" (ae 0))) (bf (ak [] (ae 1)) tN))))))) (N9 2 (gC (iU 0) (gC (iU 1) N8))) eX (ak [] (uq (bf (ak [] (dg (ae 2) (ae 0))) (bf (ak [] (dg (ae 2) (ae 1))) tN)))))))
theorem V9(E:Gl G){bC:bu}(dD:cB G k "names" (eD bC)){tO:bu}(DI:dw G k "near_pairs" tO){fh:bu}(se:cB G k "plain_points" (eD fh)):c9 G k ⟨BK,(ag kq).names,[],false,false,false,λ_ _=>False⟩ (ao kq) (FU bC tO fh):=(av (bM 2 (gh dD E.kg (aE (af 0)))) (aB (bB (lQ (N':=["i","j","names"]) (gS (aE (bx (bz DI (ah (aE (bx (gh se E.kg (aE (af 0))))) (ah (aE (A3 E.kg (af 0))) (ah (aE (af 1)) aD))))))) ⟨rfl,by walk_at "6",by walk_at "6",by walk_at "6",by walk_at "6",rfl,by walk_at "6"⟩ (yF (dQ (bF 0) (dQ (bF 1) r0))) jC (aE (eU (ah (aE (bI (af 2) (af 0))) (ah (aE (bI (af 2) (af 1))) aD))))))))
abbrev o6:Stmt:=inClass (top 27) 8
abbrev BW:List Str:=["self","name"]
theorem Lh:aC BW ["self","name"] (ag o6):=by walk_at "5"
def TY:b5:=(b6 (aQ AJ (ae 1) (Tz (ak [] (ae 0)))) ml jv)
theorem aal(E:Gl G):c9 G k ⟨BW,(ag o6).names,[],false,false,false,λ_ _=>False⟩ (ao o6) (TY):=(aB (cT (aU xh (af 1) (Fd E.kg (aE (af 0)))) (aB iK) cc))
abbrev sR:Stmt:=inClass (top 27) 9
abbrev LA:List Str:=["self"]
theorem YV:aC LA ["self"] (ag sR):=by walk_at "5"
def TU(bC:bu):b5:=(fA [] (dF [] [none,some 0] (dm (ak [] (bq (uo (eD bC) (ak [] (ae 0)) jt)))) (iU 0) eX (ak [] (pS (Tz (ak [] (ae 1))) (ae 0)))))
theorem aaj(E:Gl G){bC:bu}(dD:cB G k "names" (eD bC)):c9 G k ⟨LA,(ag sR).names,[],false,false,false,λ_ _=>False⟩ (ao sR) (TU bC):=(aB (bB (lQ (N':=["name","self"]) (gS (aE (bx (gh dD E.kg (aE (af 0)))))) ⟨rfl,by walk_at "6",by walk_at "6",by walk_at "6",by walk_at "6",rfl,by walk_at "6"⟩ (bF 0) jC (aE (mL (Fd E.kg (aE (af 1))) (af 0))))))
abbrev jZ:Stmt:=top 29
abbrev Bw:List Str:=["script","k"]
theorem Sj:aC Bw ["script","k"] (ag jZ):=by walk_at "5"
def FG:b5:=(bS (b6 (aQ Ej (ae 1) (bq (eW gU (bD (ae 0) dB)))) (fA [] (oX (dg (ae 0) (ae 1)))) jv) (fA [] (oX (aR (.int 0)))))
theorem VX(E:Gl G):c9 G k ⟨Bw,(ag jZ).names,[],false,false,false,λ_ _=>False⟩ (ao jZ) (FG):=(av (cT (aU xg (af 1) (bx (cZ f_len E.z_len (aG (af 0) aS) (by decide +kernel)))) (aB (bB (gI (bI (af 0) (af 1))))) cc) (aB (bB (gI au))))
abbrev j4:Stmt:=top 30
abbrev Bx:List Str:=["cell","many","found","rest","k","one"]
theorem Sl:aC Bx ["cell","many"] (ag j4):=by walk_at "5"
def FH:b5:=(bS (d8 [] 2 (ua tN)) (bS (d8 [] 3 (eW w6 (bD (ae 0) dB))) (bS (dc (m7 (bD (ae 1) dB)) (iU 4) (b6 (aQ ZI (bq (eW w6 (bD (ae 0) dB))) (bq (a9 Jb (aR (.int 10)) (aR (.int 18))))) (bS (iX (t6 (ae 2) (ak [] (bq (a9 d4 (ae 3) (aR (.int 1009))))))) (d8 [] 3 (a9 nW (ae 3) (aR (.int 1009))))) (bS (d8 [] 5 (a9 d4 (bq (a9 eL (bq (a9 d4 (ae 3) (aR (.int 2147483629)))) (bq (a9 m6 (bq (a9 m6 (aR (.int 7919)) (bq (a9 eL (ae 4) (aR (.int 1)))))) (bq (a9 eL (ae 4) (aR (.int 3)))))))) (aR (.int 2147483629)))) (bS (d8 [] 5 (a9 eL (bq (a9 d4 (bq (a9 m6 (ae 5) (ae 5))) (aR (.int 2147483587)))) (bq (a9 nW (ae 5) (aR (.int 7)))))) (iX (t6 (ae 2) (ak [] (bq (a9 nW (bq (a9 d4 (bq (a9 m6 (ae 5) (aR (.int 48271)))) (aR (.int 2147483647)))) (aR (.int 16))))))))))) (fA [] (oX (ae 2))))))
theorem VY(E:Gl G):c9 G k ⟨Bx,(ag j4).names,[],false,false,false,λ_ _=>False⟩ (ao j4) (FH):=(av (bM 2 (eB aD)) (av (bM 3 (cZ yC E.z_abs (aG (af 0) aS) (by decide +kernel))) (av (jY (f9 (aG (af 1) aS) E.z_range) (bF 4) (aB (cT (aU Vr (bx (cZ yC E.z_abs (aG (af 0) aS) (by decide +kernel))) (bx (Ld au au))) (av (bA (fK (af 2) (aE (bx (cG (af 3) au))))) (aB (bM 3 (oW (af 3) au)))) (av (bM 5 (cG (bx (dE (bx (cG (af 3) au)) (bx (mM (bx (mM au (bx (dE (af 4) au)))) (bx (dE (af 4) au)))))) au)) (av (bM 5 (dE (bx (cG (bx (mM (af 5) (af 5))) au)) (bx (oW (af 5) au)))) (aB (bA (fK (af 2) (aE (bx (oW (bx (cG (bx (mM (af 5) au)) au)) au))))))))))) (aB (bB (gI (af 2)))))))
abbrev kE:Stmt:=top 31
abbrev BR:List Str:=["one","other","way","apart"]
theorem SK:aC BR ["one","other","way"] (ag kE):=by walk_at "5"
def Ga:b5:=(bS (d8 [] 3 (dF [] [none,some 0,some 1] (m7 (bD (bq (eW gU (bD (ae 0) dB))) dB)) (iU 0) eX (ak [] (bq (eW w6 (bD (bq (a9 A9 (dg (ae 1) (ae 0)) (dg (ae 2) (ae 0)))) dB)))))) (bS (b6 (aQ eqT (ae 2) (aR (.str "squares"))) (d8 [] 3 (dF [] [none] (dm (ak [] (ae 3))) (iU 0) eX (ak [] (bq (a9 m6 (ae 0) (ae 0)))))) jv) (fA [] (eW sumF (bD (ae 3) dB)))))
theorem Wi(E:Gl G):c9 G k ⟨BR,(ag kE).names,[],false,false,false,λ_ _=>False⟩ (ao kE) (Ga):=(av (jr 3 (N':=["k","one","other"]) (f9 (aG (bx (cZ f_len E.z_len (aG (af 0) aS) (by decide +kernel))) aS) E.z_range) ⟨rfl,by walk_at "6",by walk_at "6",by walk_at "6",by walk_at "6",rfl,by walk_at "6"⟩ (bF 0) jC (aE (bx (cZ yC E.z_abs (aG (bx (zu (bI (af 1) (af 0)) (bI (af 2) (af 0)))) aS) (by decide +kernel))))) (av (cT (aU eM (af 2) vV) (aB (jr 3 (N':=["number"]) (gS (aE (af 3))) ⟨rfl,by walk_at "6",by walk_at "6",by walk_at "6",by walk_at "6",rfl,by walk_at "6"⟩ (bF 0) jC (aE (bx (mM (af 0) (af 0)))))) cc) (aB (bB (cZ Ds E.z_sum (aG (af 3) aS) (by decide +kernel))))))
abbrev kx:Stmt:=top 32
abbrev BL:List Str:=["e"]
theorem SE:aC BL ["e"] (ag kx):=by walk_at "5"
def FW:b5:=(fA [] (oX (uq (bf (ak [] (bV (zR XL "NoPlace" (ae 0)))) (bf (ak [] (bV (zR XL "NoPoints" (ae 0)))) (bf (ak [] (bV (FD XL (ae 0)))) tN))))))
theorem Wb(E:Gl G):c9 G k ⟨BL,(ag kx).names,[],false,false,false,λ_ _=>False⟩ (ao kx) (FW):=(aB (bB (gI (eU (ah (aE (Fe (af 0) E.Bg ∅ E.z_isinstance)) (ah (aE (Fe (af 0) E.Bg ∅ E.z_isinstance)) (ah (aE (RY (af 0) E.Bg E.z_isinstance E.z_ValueError)) aD)))))))
abbrev j6:Stmt:=top 33
abbrev Bz:List Str:=["kept","place","door","caught","e"]
theorem Sn:aC Bz ["kept","place","door"] (ag j6):=by walk_at "5"
def FI(dq:nF)(cW:nF)(cI:nF)(dS:nF)(tT:bu):b5:=(bS (d8 [] 3 (oX (aR .aV))) (bS (TL XL "NearError" 4 (λgy=>(b6 (aQ eqT (ae 2) (aR (.int 0))) (iX (ub gy dq (ak [] (ae 0)) (bf (ak [] (ae 1)) tN))) (b6 (aQ eqT (ae 2) (aR (.int 1))) (iX (ub gy cW (ak [] (ae 0)) (bf (ak [] (ae 1)) tN))) (b6 (aQ eqT (ae 2) (aR (.int 2))) (iX (ub gy cI (ak [] (ae 0)) (bf (ak [] (ae 1)) tN))) (iX (ub gy dS (ak [] (ae 0)) (bf (ak [] (ae 1)) tN))))))) (d8 [] 3 (oX (ae 4)))) (bS (b6 (aQ Xj (ae 3) (aR .aV)) (fA [] (oX (aR .aV))) jv) (fA [] (iW tT (bf (ak [] (ae 3)) tN))))))
theorem VZ(E:Gl G){dq:nF}(fo:gK G k "take" dq){cW:nF}(eO:gK G k "point" cW){cI:nF}(dH:gK G k "nearest" cI){dS:nF}(fY:gK G k "put" dS){tT:bu}(DN:dw G k "_law_flags" tT):c9 G k ⟨Bz,(ag j6).names,[],false,false,false,λ_ _=>False⟩ (ao j6) (FI dq cW cI dS tT):=(av (bM 3 (gI hW)) (av (YS 4 E.Bg.toXCls ∅ (λgy=>(aB (cT (aU eM (af 2) au) (aB (bA (oZ fo E.kg (aE (af 0)) (ah (aE (af 1)) aD)))) (aB (cT (aU eM (af 2) au) (aB (bA (oZ eO E.kg (aE (af 0)) (ah (aE (af 1)) aD)))) (aB (cT (aU eM (af 2) au) (aB (bA (oZ dH E.kg (aE (af 0)) (ah (aE (af 1)) aD)))) (aB (bA (oZ fY E.kg (aE (af 0)) (ah (aE (af 1)) aD))))))))))) (aB (bM 3 (gI (af 4))))) (av (cT (aU Mr (af 3) hW) (aB (bB (gI hW))) cc) (aB (bB (bz DN (ah (aE (af 3)) aD)))))))
abbrev ky:Stmt:=top 34
abbrev BM:List Str:=["mine","way","names","found","k","name"]
theorem SF:aC BM ["mine","way"] (ag ky):=by walk_at "5"
def FX(gu:bu):b5:=(bS (d8 [] 2 (eW sortI (bD (ae 0) dB))) (bS (d8 [] 3 (ua tN)) (bS (dc (m7 (bD (bq (eW gU (bD (ae 2) dB))) dB)) (iU 4) (dc (dm (ak [] (bq (JD (ae 2) (Zj (bq (a9 eL (ae 4) (aR (.int 1))))) tP0)))) (iU 5) (iX (t6 (ae 3) (ak [] (uq (bf (ak [] (bq (iW gu (bf (ak [] (pS (ae 0) (dg (ae 2) (ae 4)))) (bf (ak [] (pS (ae 0) (ae 5))) (bf (ak [] (ae 1)) tN)))))) (bf (ak [] (dg (ae 2) (ae 4))) (bf (ak [] (ae 5)) tN))))))))) (fA [] (eW iO (bD (ae 3) dB))))))
theorem Wc(E:Gl G){gu:bu}(qD:dw G k "_law_far" gu):c9 G k ⟨BM,(ag ky).names,[],false,false,false,λ_ _=>False⟩ (ao ky) (FX gu):=(av (bM 2 (cZ iA E.z_sorted (aG (af 0) aS) (by decide +kernel))) (av (bM 3 (eB aD)) (av (jY (f9 (aG (bx (cZ f_len E.z_len (aG (af 2) aS) (by decide +kernel))) aS) E.z_range) (bF 4) (aB (jY (gS (aE (bx (YN (af 2) (xO (bx (dE (af 4) au))) Q6)))) (bF 5) (aB (bA (fK (af 3) (aE (eU (ah (aE (bx (bz qD (ah (aE (mL (af 0) (bI (af 2) (af 4)))) (ah (aE (mL (af 0) (af 5))) (ah (aE (af 1)) aD)))))) (ah (aE (bI (af 2) (af 4))) (ah (aE (af 5)) aD))))))))))) (aB (bB (cZ nV E.z_sorted (aG (af 3) aS) (by decide +kernel)))))))
abbrev kF:Stmt:=top 35
abbrev BU:List Str:=["kept","mine","way","which","numbers","pairs","bound","name","beside"]
theorem SM:aC BU ["kept","mine","way","which","numbers"] (ag kF):=by walk_at "5"
def Gb(tU:bu)(tW:bu)(gp:bu)(bC:bu)(tM:bu)(gu:bu)(zO:bu):b5:=(bS (d8 [] 5 (iW tU (bf (ak [] (ae 1)) (bf (ak [] (ae 2)) tN)))) (bS (b6 (aQ eqT (ae 3) (aR (.int 0))) (fA [] (oX (bV (aQ eqT (bq (uo (eD tW) (ak [] (ae 0)) jt)) (dg (bq (a9 eL (ae 5) (bq (ua (bf (ak [] (aR .aV)) tN))))) (aR (.int 0))))))) jv) (bS (b6 (aQ eqT (ae 3) (aR (.int 1))) (bS (d8 [] 6 (oX (dg (bq (ua (bf (ak [] (bq (a9 d4 (dg (ae 4) (aR (.int 0))) (aR (.int 30))))) (bf (ak [] (dg (dg (bq (a9 eL (ae 5) (bq (ua (bf (ak [] (uq (bf (ak [] (aR (.int 7))) (bf (ak [] (aR (.int 0))) (bf (ak [] (aR (.int 0))) tN))))) tN))))) (bq (a9 d4 (dg (ae 4) (aR (.int 1))) (bq (a9 eL (bq (eW gU (bD (ae 5) dB))) (aR (.int 1))))))) (aR (.int 0)))) tN)))) (bq (a9 d4 (dg (ae 4) (aR (.int 2))) (aR (.int 2))))))) (fA [] (oX (bV (aQ eqT (bq (uo (eD gp) (ak [] (ae 0)) (mj (ak [] (ae 6)) jt))) (bq (eW iO (bD (bq (dF [] [none,none,none,some 6] (dm (ak [] (ae 5))) (N9 3 (gC (iU 0) (gC (iU 1) (gC (iU 2) N8)))) (aQ ZZ (ae 0) (ae 3)) (ak [] (uq (bf (ak [] (ae 1)) (bf (ak [] (ae 2)) tN)))))) dB)))))))) jv) (bS (b6 (aQ eqT (ae 3) (aR (.int 2))) (fA [] (oX (bV (aQ eqT (bq (uo (eD bC) (ak [] (ae 0)) jt)) (bq (eW sortI (bD (ae 1) dB))))))) jv) (bS (b6 (Bb (aQ ZJ (ae 3) (aR (.int 4))) (Ba false (ae 1))) (fA [] (oX (aR (.bl true)))) jv) (bS (d8 [] 7 (oX (dg (bq (eW sortI (bD (ae 1) dB))) (bq (a9 d4 (dg (ae 4) (aR (.int 0))) (bq (eW AF (bD (ae 1) dB)))))))) (bS (b6 (aQ eqT (ae 3) (aR (.int 3))) (fA [] (oX (bV (aQ eqT (bq (uo (eD tM) (ak [] (ae 0)) (mj (ak [] (ae 7)) jt))) (pS (ae 1) (ae 7)))))) jv) (bS (d8 [] 8 (dF [] [none,some 7,some 2,some 1] (dm (ak [] (bq (eW sortI (bD (ae 1) dB))))) (iU 0) (aQ neT (ae 0) (ae 1)) (ak [] (uq (bf (ak [] (bq (iW gu (bf (ak [] (pS (ae 3) (ae 1))) (bf (ak [] (pS (ae 3) (ae 0))) (bf (ak [] (ae 2)) tN)))))) (bf (ak [] (ae 0)) tN)))))) (fA [] (oX (bV (aQ eqT (bq (uo (eD zO) (ak [] (ae 0)) (mj (ak [] (ae 7)) jt))) (dg (bq (a9 eL (bq (eW iO (bD (ae 8) dB))) (bq (ua (bf (ak [] (aR .aV)) tN))))) (aR (.int 0)))))))))))))))
theorem Wj(E:Gl G){tU:bu}(DP:dw G k "_law_pairs" tU){tW:bu}(DR:cB G k "two" (eD tW)){gp:bu}(qB:cB G k "near" (eD gp)){bC:bu}(dD:cB G k "names" (eD bC)){tM:bu}(DH:cB G k "point" (eD tM)){gu:bu}(qD:dw G k "_law_far" gu){zO:bu}(Oe:cB G k "nearest" (eD zO)):c9 G k ⟨BU,(ag kF).names,[],false,false,false,λ_ _=>False⟩ (ao kF) (Gb tU tW gp bC tM gu zO):=(av (bM 5 (bz DP (ah (aE (af 1)) (ah (aE (af 2)) aD)))) (av (cT (aU eM (af 3) au) (aB (bB (gI (jb eM (bx (gh DR E.kg (aE (af 0)))) (bI (bx (dE (af 5) (bx (eB (ah (aE hW) aD))))) au))))) cc) (av (cT (aU eM (af 3) au) (av (bM 6 (gI (bI (bx (eB (ah (aE (bx (cG (bI (af 4) au) au))) (ah (aE (bI (bI (bx (dE (af 5) (bx (eB (ah (aE (eU (ah (aE au) (ah (aE au) (ah (aE au) aD))))) aD))))) (bx (cG (bI (af 4) au) (bx (dE (bx (cZ f_len E.z_len (aG (af 5) aS) (by decide +kernel))) au))))) au)) aD)))) (bx (cG (bI (af 4) au) au))))) (aB (bB (gI (jb eM (bx (oY qB E.kg (aE (af 0)) (eh (aE (af 6)) cX))) (bx (cZ nV E.z_sorted (aG (bx (lQ (N':=["far","i","j","bound"]) (gS (aE (af 5))) ⟨rfl,by walk_at "6",by walk_at "6",by walk_at "6",by walk_at "6",rfl,by walk_at "6"⟩ (yF (dQ (bF 0) (dQ (bF 1) (dQ (bF 2) r0)))) (yt (aU Vu (af 0) (af 3))) (aE (eU (ah (aE (af 1)) (ah (aE (af 2)) aD)))))) aS) (by decide +kernel)))))))) cc) (av (cT (aU eM (af 3) au) (aB (bB (gI (jb eM (bx (gh dD E.kg (aE (af 0)))) (bx (cZ iA E.z_sorted (aG (af 1) aS) (by decide +kernel))))))) cc) (av (cT (Se (Jn (aU Vt (af 3) au) (zt (R9 (af 1))))) (aB (bB (gI pP))) cc) (av (bM 7 (gI (bI (bx (cZ iA E.z_sorted (aG (af 1) aS) (by decide +kernel))) (bx (cG (bI (af 4) au) (bx (cZ xo E.z_len (aG (af 1) aS) (by decide +kernel)))))))) (av (cT (aU eM (af 3) au) (aB (bB (gI (jb eM (bx (oY DH E.kg (aE (af 0)) (eh (aE (af 7)) cX))) (mL (af 1) (af 7)))))) cc) (av (jr 8 (N':=["other","name","way","mine"]) (gS (aE (bx (cZ iA E.z_sorted (aG (af 1) aS) (by decide +kernel))))) ⟨rfl,by walk_at "6",by walk_at "6",by walk_at "6",by walk_at "6",rfl,by walk_at "6"⟩ (bF 0) (yt (aU z9 (af 0) (af 1))) (aE (eU (ah (aE (bx (bz qD (ah (aE (mL (af 3) (af 1))) (ah (aE (mL (af 3) (af 0))) (ah (aE (af 2)) aD)))))) (ah (aE (af 0)) aD))))) (aB (bB (gI (jb eM (bx (oY Oe E.kg (aE (af 0)) (eh (aE (af 7)) cX))) (bI (bx (dE (bx (cZ nV E.z_sorted (aG (af 8) aS) (by decide +kernel))) (bx (eB (ah (aE hW) aD))))) au)))))))))))))
abbrev kA:Stmt:=top 36
abbrev BP:List Str:=["kept","mine","count","coming","numbers","kind","width","one","name","bad"]
theorem SH:aC BP ["kept","mine","count","coming","numbers"] (ag kA):=by walk_at "5"
def F8(tV:jx)(pB:bu)(tS:jx):b5:=(bS (d8 [0,1] 5 (a9 d4 (dg (ae 4) (aR (.int 0))) (aR (.int 8)))) (bS (b6 (wj (aQ Ej (ae 5) (aR (.int 5))) (aQ Ej (bq (eW AF (bD (ig 1) dB))) (aR (.int 40)))) (bS (d8 [0,1] 6 (oX (dg (bq (ua (bf (ak [0,1] (aR (.int 3))) (bf (ak [0,1] (aR (.int 20))) (bf (ak [0,1] (aR (.int 1000))) tN))))) (bq (a9 d4 (dg (ae 4) (aR (.int 1))) (aR (.int 3))))))) (bS (d8 [0,1] 7 (dF [0,1] [none,some 6,some 4] (m7 (bD (ae 2) dB)) (iU 0) eX (ak [] (bq (a9 d4 (dg (ae 2) (bq (a9 eL (aR (.int 2)) (ae 0)))) (ae 1)))))) (bS (b6 (aQ eqT (bq (a9 d4 (bq (a9 nW (dg (ae 4) (aR (.int 1))) (aR (.int 3)))) (aR (.int 6)))) (aR (.int 1))) (d8 [0,1] 7 (dF [0,1] [none,some 4] (m7 (bD (ae 2) dB)) (iU 0) eX (ak [] (bq (a9 m6 (bq (a9 A9 (bq (a9 d4 (dg (ae 1) (bq (a9 eL (aR (.int 2)) (ae 0)))) (aR (.int 1009)))) (aR (.int 500)))) (bq (a9 Jb (aR (.int 10)) (aR (.int 12))))))))) jv) (bS (b6 (wj (aQ eqT (bq (a9 d4 (bq (a9 nW (dg (ae 4) (aR (.int 1))) (aR (.int 3)))) (aR (.int 6)))) (aR (.int 2))) (Ba true (ig 1))) (d8 [0,1] 7 (eW qI (bD (pS (ig 1) (dg (bq (eW sortI (bD (ig 1) dB))) (bq (a9 d4 (dg (ae 4) (aR (.int 2))) (bq (eW AF (bD (ig 1) dB))))))) dB))) jv) (bS (Tx 1 (ae 3) (ak [0,1] (bq (eW mq (bD (ae 7) dB))))) (fA [0,1] (oX (dg (bq (ua (bf (ak [0,1] (wk (aR (.int 1)))) (bf (ak [0,1] (bq (a9 eL (ae 3) (aR (.int 1))))) tN)))) (bq (eW xA (bD (bV (aQ eqT (bq (UO tV 0 (mj (ak [0,1] (bq (eW mq (bD (ae 7) dB)))) jt))) (ae 3))) dB))))))))))) jv) (bS (d8 [0,1] 8 (a9 A9 (bq (a9 d4 (dg (ae 4) (aR (.int 2))) (bq (a9 eL (ae 3) (aR (.int 2)))))) (bq (eW xA (bD (bV (aQ eqT (bq (a9 d4 (dg (ae 4) (aR (.int 3))) (aR (.int 9)))) (aR (.int 0)))) dB))))) (bS (b6 (aQ eqT (ae 5) (aR (.int 5))) (bS (d8 [0,1] 9 (eW mq (bD (bq (a9 m6 (bq (ua (bf (ak [0,1] (aR (.int 0))) tN))) (bq (a9 eL (ae 2) (dg (bq (ua (bf (ak [0,1] (aR (.int 1))) (bf (ak [0,1] (aR (.int 2))) (bf (ak [0,1] (wk (aR (.int 1)))) tN))))) (bq (a9 d4 (dg (ae 4) (aR (.int 1))) (aR (.int 3))))))))) dB))) (fA [0,1] (oX (dg (bq (ua (bf (ak [0,1] (wk (aR (.int 1)))) (bf (ak [0,1] (ae 3)) tN)))) (bq (eW xA (bD (bV (aQ eqT (bq (Ln (eD pB) (GY 0 (mj (ak [0,1] (ae 9)) (mj (ak [0,1] (aR (.int 3))) jt))))) (uq (bf (ak [0,1] (aR (.bl false))) (bf (ak [0,1] (aR (.bl true))) (bf (ak [0,1] (aR (.bl true))) tN)))))) dB))))))) jv) (bS (b6 (aQ AJ (ae 8) (ig 1)) (fA [0,1] (oX (dg (bq (ua (bf (ak [0,1] (wk (aR (.int 1)))) (bf (ak [0,1] (ae 3)) tN)))) (bq (eW xA (bD (bV (aQ eqT (bq (Ln (eD pB) (GY 0 (mj (ak [0,1] (ae 8)) (mj (ak [0,1] (bq (a9 d4 (dg (ae 4) (aR (.int 1))) (aR (.int 3))))) jt))))) (uq (bf (ak [0,1] (aR (.bl true))) (bf (ak [0,1] (aR (.bl false))) (bf (ak [0,1] (aR (.bl true))) tN)))))) dB)))))) jv) (bS (iX (UO tS 0 (mj (ak [0,1] (ae 8)) jt))) (bS (TK 1 (ae 8)) (fA [0,1] (oX (ae 3))))))))))
theorem Wg(E:Gl G){tV:jx}(DQ:cB G k "put" tV){pB:bu}(yJ:dw G k "_law_refused" pB){tS:jx}(DM:cB G k "take" tS):c9 G k ⟨BP,(ag kA).names,[0,1],false,false,false,λ_ _=>False⟩ (ao kA) (F8 tV pB tS):=(av (bM 5 (cG (bI (af 4) au) au)) (av (cT (Se (Fb (aU xg (af 5) au) (xR (aU xg (bx (cZ xo E.z_len (aG (hZ 1) aS) (by decide +kernel))) au)))) (av (bM 6 (gI (bI (bx (eB (ah (aE au) (ah (aE au) (ah (aE au) aD))))) (bx (cG (bI (af 4) au) au))))) (av (jr 7 (N':=["k","width","numbers"]) (f9 (aG (af 2) aS) E.z_range) ⟨rfl,by walk_at "6",by walk_at "6",by walk_at "6",by walk_at "6",rfl,by walk_at "6"⟩ (bF 0) jC (aE (bx (cG (bI (af 2) (bx (dE au (af 0)))) (af 1))))) (av (cT (aU eM (bx (cG (bx (oW (bI (af 4) au) au)) au)) au) (aB (jr 7 (N':=["k","numbers"]) (f9 (aG (af 2) aS) E.z_range) ⟨rfl,by walk_at "6",by walk_at "6",by walk_at "6",by walk_at "6",rfl,by walk_at "6"⟩ (bF 0) jC (aE (bx (mM (bx (zu (bx (cG (bI (af 1) (bx (dE au (af 0)))) au)) au)) (bx (Ld au au))))))) cc) (av (cT (Se (Fb (aU eM (bx (cG (bx (oW (bI (af 4) au) au)) au)) au) (xR (Sb (hZ 1))))) (aB (bM 7 (pQ f_list E.z_list (aG (mL (hZ 1) (bI (bx (cZ iA E.z_sorted (aG (hZ 1) aS) (by decide +kernel))) (bx (cG (bI (af 4) au) (bx (cZ xo E.z_len (aG (hZ 1) aS) (by decide +kernel))))))) aS) (by decide +kernel)))) cc) (av (Jr 1 (aE (bx (pQ rT E.z_tuple (aG (af 7) aS) (by decide +kernel)))) (af 3) (vU 1)) (aB (bB (gI (bI (bx (eB (ah (aE (qP au)) (ah (aE (bx (dE (af 3) au))) aD)))) (bx (pQ f_int E.z_int (aG (jb eM (bx (sO false 0 DQ E.kg (eh (aE (bx (pQ rT E.z_tuple (aG (af 7) aS) (by decide +kernel)))) cX))) (af 3)) aS) (by decide +kernel)))))))))))) cc) (av (bM 8 (zu (bx (cG (bI (af 4) au) (bx (dE (af 3) au)))) (bx (pQ f_int E.z_int (aG (jb eM (bx (cG (bI (af 4) au) au)) au) aS) (by decide +kernel))))) (av (cT (aU eM (af 5) au) (av (bM 9 (pQ rT E.z_tuple (aG (bx (mM (bx (eB (ah (aE au) aD))) (bx (dE (af 2) (bI (bx (eB (ah (aE au) (ah (aE au) (ah (aE (qP au)) aD))))) (bx (cG (bI (af 4) au) au))))))) aS) (by decide +kernel))) (aB (bB (gI (bI (bx (eB (ah (aE (qP au)) (ah (aE (af 3)) aD)))) (bx (pQ f_int E.z_int (aG (jb eM (bx (iI yJ.mu (uG 0 (eh (aE (af 9)) (eh (aE au) cX))))) (eU (ah (aE pP) (ah (aE pP) (ah (aE pP) aD))))) aS) (by decide +kernel)))))))) cc) (av (cT (aU xh (af 8) (hZ 1)) (aB (bB (gI (bI (bx (eB (ah (aE (qP au)) (ah (aE (af 3)) aD)))) (bx (pQ f_int E.z_int (aG (jb eM (bx (iI yJ.mu (uG 0 (eh (aE (af 8)) (eh (aE (bx (cG (bI (af 4) au) au))) cX))))) (eU (ah (aE pP) (ah (aE pP) (ah (aE pP) aD))))) aS) (by decide +kernel))))))) cc) (av (bA (sO false 0 DM E.kg (eh (aE (af 8)) cX))) (av (Jq 1 (af 8) (vU 1)) (aB (bB (gI (af 3)))))))))))
abbrev gB:Stmt:=top 37
abbrev BV:List Str:=["script","head","count","way","kept","mine","coming","held","copies","cell","numbers","which"]
theorem SN:aC BV ["script"] (ag gB):=by walk_at "5"
def Gd(lY:bu)(pA:bu)(zL:GH)(tX:jx)(lZ:bu)(bC:bu)(gp:bu):b5:=(bS (d8 [] 1 (iW lY (bf (ak [] (bq (iW pA (bf (ak [] (ae 0)) (bf (ak [] (aR (.int 0))) tN))))) (bf (ak [] (aR (.int 2))) tN)))) (bS (d8 [] 2 (a9 eL (aR (.int 1)) (bq (a9 d4 (dg (ae 1) (aR (.int 0))) (aR (.int 3)))))) (bS (d8 [] 3 (oX (dg (bq (ua (bf (ak [] (aR (.str "streets"))) (bf (ak [] (aR (.str "squares"))) tN)))) (bq (a9 d4 (dg (ae 1) (aR (.int 1))) (aR (.int 2))))))) (bS (d8 [] 4 (tMK zL (bf (ak [] (ae 3)) (bf (ak [] (ae 2)) tN)))) (bS (d8 [] 5 Tv) (bS (d8 [] 6 (oX (aR (.int 0)))) (bS (d8 [] 7 (ua tN)) (bS (d8 [] 8 (ua tN)) (bS (dc (dm (ak [] (bq (JD (ae 0) (Zj (aR (.int 1))) (Zj (aR (.int 31))))))) (iU 9) (bS (d8 [] 10 (iW lY (bf (ak [] (ae 9)) (bf (ak [] (aR (.int 7))) tN)))) (bS (d8 [] 6 (Ln tX (tAn 4 (tAn 5 (mj (ak [] (ae 2)) (mj (ak [] (ae 6)) (mj (ak [] (ae 10)) jt))))))) (bS (b6 (Bb (aQ Ej (ae 6) (aR (.int 0))) (wm (FE (bq (Ln (eD lZ) (GY 4 (GY 5 (mj (ak [] (ae 3)) (mj (ak [] (bq (a9 d4 (dg (ae 10) (aR (.int 5))) (aR (.int 9))))) (mj (ak [] (ae 10)) jt)))))))))) (fA [] (oX (aR (.bl false)))) jv) (b6 (aQ eqT (bq (a9 d4 (dg (ae 10) (aR (.int 6))) (aR (.int 3)))) (aR (.int 0))) (bS (dc (m7 (bD (aR (.int 5)) dB)) (iU 11) (b6 (wm (FE (bq (Ln (eD lZ) (GY 4 (GY 5 (mj (ak [] (ae 3)) (mj (ak [] (ae 11)) (mj (ak [] (ae 10)) jt))))))))) (fA [] (oX (aR (.bl false)))) jv)) (bS (iX (t6 (ae 7) (ak [] (uq (bf (ak [] (bq (TF (eD bC) 4 jt))) (bf (ak [] (bq (TF (eD gp) 4 (mj (ak [] (aR (.int 9))) jt)))) tN)))))) (iX (t6 (ae 8) (ak [] (uq (bf (ak [] (bq (eW qI (bD (dg (dg (ae 7) (wk (aR (.int 1)))) (aR (.int 0))) dB)))) (bf (ak [] (bq (eW qI (bD (dg (dg (ae 7) (wk (aR (.int 1)))) (aR (.int 1))) dB)))) tN)))))))) jv))))) (bS (d8 [] 10 (iW lY (bf (ak [] (bq (a9 eL (bq (iW pA (bf (ak [] (ae 0)) (bf (ak [] (aR (.int 1))) tN)))) (aR (.int 1))))) (bf (ak [] (aR (.int 3))) tN)))) (bS (dc (m7 (bD (aR (.int 5)) dB)) (iU 11) (b6 (wm (FE (bq (Ln (eD lZ) (GY 4 (GY 5 (mj (ak [] (ae 3)) (mj (ak [] (ae 11)) (mj (ak [] (ae 10)) jt))))))))) (fA [] (oX (aR (.bl false)))) jv)) (fA [] (oX (bV (aQ eqT (ae 7) (ae 8))))))))))))))))
theorem Wk(E:Gl G){lY:bu}(vx:dw G k "_law_numbers" lY){pA:bu}(yI:dw G k "_law_cell_at" pA){zL:GH}(Ob:wW G k zL){tX:jx}(DS:ux G k "_law_deed" tX){lZ:bu}(vy:dw G k "_law_one" lZ){bC:bu}(dD:cB G k "names" (eD bC)){gp:bu}(qB:cB G k "near" (eD gp)):c9 G k ⟨BV,(ag gB).names,[],false,false,false,λ_ _=>False⟩ (ao gB) (Gd lY pA zL tX lZ bC gp):=(av (bM 1 (bz vx (ah (aE (bx (bz yI (ah (aE (af 0)) (ah (aE au) aD))))) (ah (aE au) aD)))) (av (bM 2 (dE au (bx (cG (bI (af 1) au) au)))) (av (bM 3 (gI (bI (bx (eB (ah (aE vV) (ah (aE vV) aD)))) (bx (cG (bI (af 1) au) au))))) (av (bM 4 (RZ Ob (ah (aE (af 3)) (ah (aE (af 2)) aD)))) (av (bM 5 Jl) (av (bM 6 (gI au)) (av (bM 7 (eB aD)) (av (bM 8 (eB aD)) (av (jY (gS (aE (bx (YN (af 0) (xO au) (xO au))))) (bF 9) (av (bM 10 (bz vx (ah (aE (af 9)) (ah (aE au) aD)))) (av (bM 6 (iI DS (Vp 4 (Vp 5 (eh (aE (af 2)) (eh (aE (af 6)) (eh (aE (af 10)) cX))))))) (av (cT (Se (Jn (aU xg (af 6) au) (zt (xS (xT (bx (iI vy.mu (uG 4 (uG 5 (eh (aE (af 3)) (eh (aE (bx (cG (bI (af 10) au) au))) (eh (aE (af 10)) cX)))))))))))) (aB (bB (gI pP))) cc) (aB (cT (aU eM (bx (cG (bI (af 10) au) au)) au) (av (jY (f9 (aG au aS) E.z_range) (bF 11) (aB (cT (xS (xT (bx (iI vy.mu (uG 4 (uG 5 (eh (aE (af 3)) (eh (aE (af 11)) (eh (aE (af 10)) cX))))))))) (aB (bB (gI pP))) cc))) (av (bA (fK (af 7) (aE (eU (ah (aE (bx (R8 true 4 dD E.kg))) (ah (aE (bx (sO true 4 qB E.kg (eh (aE au) cX)))) aD)))))) (aB (bA (fK (af 8) (aE (eU (ah (aE (bx (pQ f_list E.z_list (aG (bI (bI (af 7) (qP au)) au) aS) (by decide +kernel)))) (ah (aE (bx (pQ f_list E.z_list (aG (bI (bI (af 7) (qP au)) au) aS) (by decide +kernel)))) aD))))))))) cc)))))) (av (bM 10 (bz vx (ah (aE (bx (dE (bx (bz yI (ah (aE (af 0)) (ah (aE au) aD)))) au))) (ah (aE au) aD)))) (av (jY (f9 (aG au aS) E.z_range) (bF 11) (aB (cT (xS (xT (bx (iI vy.mu (uG 4 (uG 5 (eh (aE (af 3)) (eh (aE (af 11)) (eh (aE (af 10)) cX))))))))) (aB (bB (gI pP))) cc))) (aB (bB (gI (jb eM (af 7) (af 8))))))))))))))))
def bK(ex:Str->Sd->Prop):b5:=(b6 (aQ neT (bq (eW gU (bD (ae 0) dB))) (ae 1)) (tRz ex "NoPoints" (bf (ak [] (aR (.str "all points have as many numbers"))) tN)) jv)
theorem fk(E:Gl G)(ex:Str->Sd->Prop):c9 G k ⟨Bv,(ag o5).names,[],false,false,true,ex⟩ (ao o5) (bK ex):=(aB (cT (aU z9 (bx (cZ f_len E.z_len (aG (af 0) aS) (by decide +kernel))) (af 1)) (aB (zH (E.Bg.cls "NoPoints" ∅) (ah (aE vV) aD))) cc))
def eF(ex:Str->Sd->Prop)(bG:Bh):b5:=(bS (iX (Tt ex bG (bf (ak [] (ae 1)) (bf (ak [] (Lp "count" (ae 0))) tN)))) ml)
theorem rR(E:Gl G)(ex:Str->Sd->Prop){bG:Bh}(b8:Ly G k "need_as_many_numbers" bG):c9 G k ⟨uB,(ag ic).names,[],false,false,true,ex⟩ (ao ic) (eF ex bG):=(av (bA (Jk b8 (ah (aE (af 1)) (ah (aE (A3 E.kg (af 0))) aD)))) kM)
def dU(ex:Str->Sd->Prop)(aA:nF):b5:=(bS (iX (ub ex aA (ak [] (ae 0)) (bf (ak [] (ae 1)) tN))) ml)
theorem pM(E:Gl G)(ex:Str->Sd->Prop){aA:nF}(aP:gK G k "need_name" aA):c9 G k ⟨uA,(ag h9).names,[],false,false,true,ex⟩ (ao h9) (dU ex aA):=(av (bA (oZ aP E.kg (aE (af 0)) (ah (aE (af 1)) aD))) kM)
def dt(ex:Str->Sd->Prop)(aA:nF):b5:=(bS (iX (ub ex aA (ak [] (ae 0)) (bf (ak [] (ae 1)) tN))) ml)
theorem nR(E:Gl G)(ex:Str->Sd->Prop){aA:nF}(aP:gK G k "need_name" aA):c9 G k ⟨uy,(ag h8).names,[],false,false,true,ex⟩ (ao h8) (dt ex aA):=(av (bA (oZ aP E.kg (aE (af 0)) (ah (aE (af 1)) aD))) kM)
def cP(ex:Str->Sd->Prop)(aA:nF):b5:=(bS (iX (ub ex aA (ak [] (ae 0)) (bf (ak [] (ae 1)) tN))) ml)
theorem lj(E:Gl G)(ex:Str->Sd->Prop){aA:nF}(aP:gK G k "need_name" aA):c9 G k ⟨BX,(ag o7).names,[],false,false,true,ex⟩ (ao o7) (cP ex aA):=(av (bA (oZ aP E.kg (aE (af 0)) (ah (aE (af 1)) aD))) kM)
def cw(ex:Str->Sd->Prop):b5:=(b6 (aQ AJ (ae 1) (Tz (ak [] (ae 0)))) (tRz ex "NoPlace" (bf (ak [] (aR (.str "there is no such name"))) tN)) jv)
theorem jh(E:Gl G)(ex:Str->Sd->Prop):c9 G k ⟨BW,(ag o6).names,[],false,false,true,ex⟩ (ao o6) (cw ex):=(aB (cT (aU xh (af 1) (Fd E.kg (aE (af 0)))) (aB (zH (E.Bg.cls "NoPlace" ∅) (ah (aE vV) aD))) cc))
end
section
local macro_rules|`(tactic| walk_at "vx")=>`(tactic| ((try simp only[aL,List.map_cons,List.map_nil,List.length_cons,List.length_nil,List.replicate_succ,List.replicate_zero,List.cons_append,List.nil_append,Nat.reduceAdd,Nat.reduceSub]);(try dsimp only[bS,Vc.TC,jv,ml,b6,iX,fA,d8,Z9,t6,Ml,KY,bq,oX,fzV,oxV,Gm,wx,ak,ae,aR,df,mX,a9,eL,A9,m6,nW,d4,Jb,UH,HU,wk,aQ,bV,eqT,neT,OC,Ej,ZZ,ZJ,ZI,isNone,Xj,T9,FE,wj,Bb,wm,dg,tP0,Zj,slD,JD,tN,bf,ua,uq,dB,bD,eW,gU,w6,xA,qI,mq,bE,iW,iU,N8,gC,N9,dm,m7,Jo,dc,eX,dF,xq,jD,oA,Tt,tRz,TL,zR,K0,FD,KZ,Z7,TN,iO,Vc.Xk,Vc.Xl,Vc.OI,Vc.OJ,sumF,JH,we,JA,JC,ig,Tv,pS,inI,AJ,AF,Ba,Tx,TK,sortI,Ln,mB,eo,B1,bJ,mK,yY,noB,XE,XF,oI,jt,mj,tAn,GY,uo,TF,UO,Lp,Tz,tKP,tKE,tKD,tKI,tKN,tKZ,tMK,Hr,Ij,Option.map_some,ub,rX,cJ,kN,wR,gL,aL,List.getElem?_cons_zero,List.getElem?_cons_succ,List.getElem?_nil,List.set_cons_zero,List.set_cons_succ,List.map_cons,List.map_nil,List.length_cons,List.length_nil,List.replicate_succ,List.replicate_zero,List.cons_append,List.nil_append,Nat.reduceAdd,Nat.reduceSub]);try simp only[List.append_nil,Nat.add_sub_cancel,Nat.zero_add,List.not_mem_nil,not_false_eq_true,true_and,and_true,decide_eq_true_eq,ite_true,ite_false,Bool.not_eq_true',decide_eq_false_iff_not,List.getElem?_cons_zero,List.getElem?_cons_succ]))
local macro_rules | `(tactic| symm) => `(tactic| walk_at "vx")
local macro_rules|`(tactic| walk_at "vc")=>`(tactic| repeat (refine And.intro (by first|assumption|decide|omega | (unfold kY;omega) | (unfold ur;omega) | (unfold Bp;omega)) ?_))
local macro_rules|`(tactic| walk_at "vg")=>`(tactic| simp only[iU,N9,gC,N8,List.length_cons,List.length_nil,Nat.reduceAdd,Nat.zero_add,true_and,List.set_cons_zero,List.set_cons_succ,Int.zero_add])
local macro_rules|`(tactic| walk_at "vd")=>`(tactic| symm)
variable [KF]
def bg(b:Bool):Str:=if b=true then "squares" else "streets"
def cU(b:Bool):D:=.str (bg b)
def fR(p:List Int):D:=.tup (p.map D.int)
def Bd(p:List Int):Prop:=p.length<=3/\∀x∈p,-(2^60)<x/\x<2^60
def mU(x:Int):Int:=if x<0 then -x else x
def stepI(b:Bool)(x y:Int):Int:=if b=true then mU (x-y)*mU (x-y)else mU (x-y)
def iT(b:Bool)(p q:List Int):Int:=((p.zip q).map λxy=>stepI b xy.1 xy.2).sum
def ph:bu:=λds Q=>∃b p q,ds=[cU b,fR p,fR q]/\Bd p/\Bd q/\Q (.sh (.int (iT b p q)))
theorem ud(b:Bool):bO 8 (cU b)=true:=by cases b<;>decide +kernel
theorem oN:bO 8 (.str "streets")=true:=by decide +kernel
theorem oM:bO 8 (.str "squares")=true:=by decide +kernel
theorem mQ(b:Bool):gw (cU b) (.str "streets")=!b:=by cases b<;>decide +kernel
theorem mP(b:Bool):gw (cU b) (.str "squares")=b:=by cases b<;>decide +kernel
theorem sz:sizeLine=2^24:=rfl
theorem zV{p q:List Int}(h:Bd p):(p.zip q).length<=3:=by
 rw[List.length_zip];have:=h.1;omega
theorem ng{α:Type}(l:List α)(f:α->Int):(l.map λa=>D.int (f a)).all isInt=true:=by
 rw[List.all_map];exact List.all_eq_true.mpr λ_ _=>rfl
theorem d3{α:Type}(l:List α)(f:α->Int):(l.map λa=>D.int (f a)).map lF=l.map f:=by
 rw[List.map_map];rfl
theorem Yg(ds:List D)(Q:B->Prop)(h:ph ds Q):T7 {nx:=λ_=>Q (.sh .aV),rt:=λb _=>Q b} (aL LK.length ds):=by
 obtain⟨b,p,q,rfl,hp,hq,h⟩:=h;unfold T7 fR;symm;rw[Gy];refine dG (λp=>.tup [.int p.1,.int p.2]) (λxy:Int×Int=>D.int (mU (xy.1-xy.2))) _ (λxy UG A ha=>?_) (by have:=zV (q:=q) hp;rw[sz];omega) ?_
 ·symm
  exact ha
 ·symm
  rw[mQ];refine⟨⟨ud b,oN⟩,?_⟩;cases b with
  | false =>
   refine(if_pos rfl).mpr ?_;refine⟨ng _ _,?_⟩;rw[d3];exact h
  | true =>
   refine(if_neg ∅).mpr ?_
   rw[show(List.map (λxy:Int×Int=>D.int (mU (xy.1-xy.2))) (p.zip q))=(List.map (λxy:Int×Int=>(mU (xy.1-xy.2))) (p.zip q)).map D.int from by rw[List.map_map];rfl]
   refine dG D.int (λd:Int=>D.int (d*d)) _ (λd hd A ha=>?_) (by have:=zV (q:=q) hp;rw[sz,List.length_map];omega) ?_
   ·symm
    refine⟨?_,ha⟩;obtain⟨xy,UG,rfl⟩:=List.mem_map.mp hd;have h1:=hp.2 _ (List.of_mem_zip UG).1;have h2:=hq.2 _ (List.of_mem_zip UG).2;unfold kY mU;left
    split<;>omega
   ·symm
    refine⟨ng _ _,?_⟩;rw[d3,List.map_map];exact h
def Good(n:Nat)(pts:List (List Int)):Prop:=(1<=n/\n<=3)/\∀p∈pts,p.length=n/\∀x∈p,-(2^59)<x/\x<2^59
theorem Good.bd{n:Nat}{pts:List (List Int)}(g:Good n pts){p:List Int}(h:p∈pts):Bd p:=⟨by have:=(g.2 p h).1;have:=g.1.2;omega,λx hx=>by have:=(g.2 p h).2 x hx;omega⟩
theorem dJ{n i a:Nat}(h:(List.range n)[i]?=some a):a=i/\i<n:=by
 have hi:i<n:=by
  have:=(List.getElem?_eq_some_iff.mp h).1
  rwa [List.length_range]at this
 rw[List.getElem?_range hi]at h;cases h;exact⟨rfl,hi⟩
def jq(pts:List (List Int)):D:=.lst (pts.map fR)
theorem jU{pts:List (List Int)}{j:Nat}(h:j<pts.length):(pts.map fR)[j]?=some (fR (pts.getD j [])):=by
 rw[List.getElem?_map,List.getD_eq_getElem?_getD,List.getElem?_eq_getElem h];rfl
theorem getD_mem{pts:List (List Int)}{j:Nat}(h:j<pts.length):pts.getD j []∈pts:=by
 rw[List.getD_eq_getElem?_getD,List.getElem?_eq_getElem h];exact List.getElem_mem h
def Shape(n:Nat)(pts:List (List Int)):Prop:=(1<=n/\n<=3)/\∀p∈pts,p.length=n
theorem Good.shape{n:Nat}{pts:List (List Int)}(g:Good n pts):Shape n pts:=⟨g.1,λp hp=>(g.2 p hp).1⟩
def iP:bu:=λds Q=>∃c:Int,ds=[.int c]/\1<=c/\c<=3/\Q (.sh .aV)
theorem EC(ds:List D)(Q:B->Prop)(h:iP ds Q):FR {nx:=λ_=>Q (.sh .aV),rt:=λb _=>Q b} (aL BI.length ds):=by
 obtain⟨c,rfl,h1,h2,h⟩:=h;unfold FR;symm;rw[if_neg ⋯,if_neg ⋯]
 exact h
def tE:bu:=λds Q=>∃(p:List Int) (c:Int),ds=[fR p,.int c]/\(p.length:Int)=c/\Q (.sh .aV)
theorem Yj(ds:List D)(Q:B->Prop)(h:tE ds Q):TQ {nx:=λ_=>Q (.sh .aV),rt:=λb _=>Q b} (aL Bv.length ds):=by
 obtain⟨p,c,rfl,rfl,h⟩:=h;unfold TQ fR;symm;rw[List.length_map];refine⟨⟨rfl,rfl⟩,?_⟩;have e:gw (.int (p.length:Nat)) (.int (p.length:Nat))=true:=by simp [gw]
 rw[if_neg (by rw[e];decide)]
 exact h
def tG:bu:=λds Q=>∃n pts,ds=[jq pts]/\Shape n pts/\Q (.sh .aV)
theorem Q7(ds:List D)(Q:B->Prop)(h:tG ds Q):FK iP tE {nx:=λ_=>Q (.sh .aV),rt:=λb _=>Q b} (aL BD.length ds):=by
 obtain⟨n,pts,rfl,hg,h⟩:=h;unfold FK jq;symm;refine eC fR pts (λi σ=>∃x,σ=[some (.sh (.lst (pts.map fR))),x]) (λi p σ N' hx hI DE=>?_) (λσ hI=>h) ⟨none,rfl⟩;obtain⟨x,rfl⟩:=hI;have hp:=hg.2 p (List.mem_of_getElem? hx);have h1:=hg.1;have h0:0<pts.length:=Nat.lt_of_le_of_lt (Nat.zero_le _) (List.getElem?_eq_some_iff.mp hx).1;have WG:=hg.2 _ (getD_mem h0);walk_at "vg";refine aj λN2 GL=>?_;rw[show fR p=.tup (p.map D.int)from rfl]
 symm;rw[List.length_map];refine⟨_,rfl,by omega,by omega,?_⟩
 symm;subst GL;symm;refine aW (n:=0) rfl (jU h0) ?_;rw[show fR (pts.getD 0 [])=.tup ((pts.getD 0 []).map D.int)from rfl]
 symm;rw[List.length_map];refine⟨p,_,rfl,by rw[hp,WG],?_⟩
 exact DE _ ⟨_,rfl⟩
def nA:bu:=λds Q=>∃b,ds=[cU b]/\Q (.sh .aV)
theorem Q9(ds:List D)(Q:B->Prop)(h:nA ds Q):F9 {nx:=λ_=>Q (.sh .aV),rt:=λb _=>Q b} (aL BQ.length ds):=by
 obtain⟨b,rfl,h⟩:=h;unfold F9;symm;refine⟨⟨ud b,oN⟩,?_⟩;rw[mQ];cases b with
 | false=>exact h
 | true =>
  refine(if_pos rfl).mpr ⟨⟨ud true,oM⟩,?_⟩;rw[mP];exact h
def pq:bu:=λds Q=>∃n b pts,ds=[jq pts,cU b]/\Shape n pts/\Q (.sh .aV)
theorem Yl(ds:List D)(Q:B->Prop)(h:pq ds Q):TR tG nA {nx:=λ_=>Q (.sh .aV),rt:=λb _=>Q b} (aL Lz.length ds):=by
 obtain⟨n,b,pts,rfl,hg,h⟩:=h;unfold TR;symm;refine⟨n,pts,rfl,hg,?_⟩;symm;exact⟨b,rfl,h⟩
theorem Hu(i:Int):gw (.int i) (.int i)=true:=by simp [gw]
theorem lr:∀p:List Int,lq (p.map D.int) (p.map D.int)=true
 | []=>rfl
 | x::p=>by
  show(gw (.int x) (.int x)&&lq (p.map D.int) (p.map D.int))=true;rw[Hu,lr p];rfl
def pairD(b:Bool)(pts:List (List Int))(i j:Nat):D:=.tup [.int (iT b (pts.getD i []) (pts.getD j [])),.int i,.int j]
def iV(b:Bool)(pts:List (List Int))(i m:Nat):List D:=(List.range m).map λt=>pairD b pts i (i+1+t)
def d6(b:Bool)(pts:List (List Int)):Nat->List D
 | 0=>[]
 | i+1=>d6 b pts i++iV b pts i (pts.length-(i+1))
def cC(b:Bool)(pts:List (List Int)):List D:=d6 b pts pts.length
theorem o3(b:Bool)(pts:List (List Int))(i m:Nat):(iV b pts i m).length=m:=by unfold iV;rw[List.length_map,List.length_range]
theorem lR(b:Bool)(pts:List (List Int))(i m:Nat):iV b pts i (m+1)=iV b pts i m++[pairD b pts i (i+1+m)]:=by unfold iV;rw[List.range_succ,List.map_append];rfl
theorem qT(b:Bool)(pts:List (List Int)):∀i,(d6 b pts i).length<=i*pts.length
 | 0=>Nat.zero_le _
 | i+1=>by
  have ih:=qT b pts i;show(d6 b pts i++iV b pts i (pts.length-(i+1))).length<=_;rw[List.length_append,o3,Nat.succ_mul];omega
theorem sP{b:Bool}{pts:List (List Int)}{i:Nat}(hl:pts.length<=1000)(hi:i<=pts.length):(d6 b pts i).length<=1000000:=
 Nat.le_trans (qT b pts i) (Nat.mul_le_mul (show i<=1000 by omega) hl)
theorem oQ{b:Bool}{pts:List (List Int)}(hl:pts.length<=1000):(cC b pts).length<=1000000:=sP hl (Nat.le_refl _)
theorem o4{b:Bool}{pts:List (List Int)}:∀ {i:Nat} {d:D},d∈d6 b pts i->∃p q,p<i/\p<q/\(i<=pts.length->q<pts.length)/\d=pairD b pts p q
 | i+1,d,h=>by
  rcases List.mem_append.mp (show d∈d6 b pts i++iV b pts i (pts.length-(i+1))from h)with h|h
  ·obtain⟨p,q,h1,h2,h3,h4⟩:=o4 h
   exact⟨p,q,by omega,h2,λz=>h3 ⋯,h4⟩
  ·obtain⟨t,ht,rfl⟩:=List.mem_map.mp h
   have ht:=List.mem_range.mp ht;exact⟨i,i+1+t,by omega,by omega,λz=>by omega,rfl⟩
theorem ck{b:Bool}{pts:List (List Int)}{d:D}(h:d∈cC b pts):∃p q,p<q/\q<pts.length/\d=pairD b pts p q:=by
 obtain⟨p,q,h1,h2,h3,h4⟩:=o4 h;exact⟨p,q,h2,h3 (Nat.le_refl _),h4⟩
theorem xP(b:Bool)(pts:List (List Int)):(cC b pts).all fq=true:=List.all_eq_true.mpr λd hd=>by
 obtain⟨p,q,_,_,rfl⟩:=ck hd;rfl
def kI:bu:=λds Q=>∃b n pts,ds=[jq pts,cU b]/\Good n pts/\pts.length<=1000/\Q (.own (cC b pts))
def uc(sp:bu)(rest:b5):b5:=(bS (d8 [] 2 (ua tN)) (bS (dc (m7 (bD (bq (eW gU (bD (ae 0) dB))) dB)) (iU 3) (dc (Jo (bD (bq (a9 eL (ae 3) (aR (.int 1)))) (bD (bq (eW gU (bD (ae 0) dB))) dB))) (iU 4) (iX (t6 (ae 2) (ak [] (uq (bf (ak [] (bq (iW sp (bf (ak [] (ae 1)) (bf (ak [] (dg (ae 0) (ae 3))) (bf (ak [] (dg (ae 0) (ae 4))) tN)))))) (bf (ak [] (ae 3)) (bf (ak [] (ae 4)) tN))))))))) rest))
theorem EF{b:Bool}{n:Nat}{pts:List (List Int)}{rest:b5}{De:mx}(hg:Good n pts)(hl:pts.length<=1000)(h:∀x3 x4,rest De [some (.sh (jq pts)),some (.sh (cU b)),some (.own (cC b pts)),x3,x4]):
  uc ph rest De [some (.sh (jq pts)),some (.sh (cU b)),none,none,none]:=by
 unfold uc;refine aj λN hN=>?_;symm;refine⟨by decide,?_⟩
 subst hN;refine aj λN hN=>?_;rw[show jq pts=.lst (pts.map fR)from rfl]
 symm;rw[List.length_map,Int.toNat_natCast,d5];refine⟨by omega,eC (λi:Nat=>.int (0+(i:Nat))) (List.range pts.length) (λi σ=>∃x3 x4,σ=[some (.sh (.lst (pts.map fR))),some (.sh (cU b)),some (.own (d6 b pts i)),x3,x4]) (λi a σ N' hx hI DE=>?_) (λσ hI=>?_) ⟨none,none,rfl⟩⟩
 ·obtain⟨rfl,hi⟩:=dJ hx
  obtain⟨x3,x4,rfl⟩:=hI;walk_at "vg";symm;rw[List.length_map,d5];refine⟨by omega,?_⟩
  rw[show((pts.length:Int)-((a:Int)+1)).toNat=pts.length-(a+1)by omega]
  refine eC (λt:Nat=>.int ((a:Int)+1+(t:Nat))) (List.range (pts.length-(a+1))) (λm σ=>∃x4,σ=[some (.sh (.lst (pts.map fR))),some (.sh (cU b)),some (.own (d6 b pts a++iV b pts a m)),some (.sh (.int a)),x4]) (λm t σ N2 um Oa GL=>?_) (λσ Oa=>?_) ⟨x4,by rw[show iV b pts a 0=[]from rfl,List.append_nil]⟩
  ·obtain⟨rfl,ht⟩:=dJ um
   obtain⟨x4,rfl⟩:=Oa;symm;have hj:a+1+t<pts.length:=by omega
   refine⟨⟨_,rfl⟩,?_⟩;refine aW (n:=a) rfl (jU hi) ?_;refine aW (n:=a+1+t) ⋯ (jU hj) ?_
   symm;refine⟨b,_,_,rfl,hg.bd (getD_mem hi),hg.bd (getD_mem hj),?_⟩;symm;have hz:=sP (b:=b) hl (show a<=pts.length by omega)
   refine⟨by decide,by rw[sz,List.length_append,o3];omega,GL _ ⟨some (.sh (.int ((a:Int)+1+(t:Int)))),?_⟩⟩
   rw[lR,List.append_assoc];unfold pairD;rw[show((a+1+t:Nat):Int)=(a:Int)+1+(t:Int)by omega]
  ·obtain⟨x4,rfl⟩:=Oa
   rw[List.length_range];exact DE _ ⟨some (.sh (.int a)),x4,rfl⟩
 ·obtain⟨x3,x4,rfl⟩:=hI
  subst hN;rw[List.length_range];exact h x3 x4
theorem IJ(ds:List D)(Q:B->Prop)(h:kI ds Q):Zo ph {nx:=λ_=>Q (.sh .aV),rt:=λb _=>Q b} (aL LC.length ds):=by
 obtain⟨b,n,pts,rfl,hg,hl,h⟩:=h;exact EF hg hl λx3 x4=>by symm;exact h
theorem lg{xs:List D}(h:xs.all fq=true):fC xs=(ie xs).head?:=by
 have key:∀(l:List D) (b:D),(∀x∈l,fq x=true)->fq b=true->∃m,l.foldl (λb y=>if ltI y b=true then y else b) b=m/\(m=b\/m∈l)/\fq m=true/\mG m b=true/\∀x∈l,mG m x=true:=by
  intro l
  induction l with
  | nil=>intro b _ hb;exact⟨b,rfl,.inl rfl,hb,by unfold mG;rw[Vs.eI];rfl,λx hx=>by cases hx⟩
  | cons y l ih =>
   intro b hl hb;have hy:=hl y (List.mem_cons_self ..);have lt:ltI y b=HT.lexLt (fv y) (fv b):=by
    rw[eZ hy,eZ hb];rfl
   rw[List.foldl_cons]
   by_cases e:ltI y b=true
   ·rw[if_pos e]
    obtain⟨m,m1,m2,m3,m4,m5⟩:=ih y (λx hx=>hl x (List.mem_cons_of_mem _ hx)) hy;refine⟨m,m1,?_,m3,?_,λx hx=>?_⟩
    ·rcases m2 with rfl|m2
     ·exact .inr (List.mem_cons_self ..)
     ·exact .inr (List.mem_cons_of_mem _ m2)
    ·refine lK m y b m4 ?_
     unfold mG;rw[lt]at e;cases e2:HT.lexLt (fv b) (fv y)with
     | false=>rfl
     | true=>have:=Vs.fE _ _ _ e e2;rw[Vs.eI]at this;cases this
    ·rcases List.mem_cons.mp hx with rfl|hx
     ·exact m4
     ·exact m5 x hx
   ·rw[if_neg e]
    obtain⟨m,m1,m2,m3,m4,m5⟩:=ih b (λx hx=>hl x (List.mem_cons_of_mem _ hx)) hb;refine⟨m,m1,?_,m3,m4,λx hx=>?_⟩
    ·rcases m2 with rfl|m2
     ·exact .inl rfl
     ·exact .inr (List.mem_cons_of_mem _ m2)
    ·rcases List.mem_cons.mp hx with rfl|hx
     ·refine lK m b x m4 ?_
      unfold mG;rw[lt]at e;simpa using e
     ·exact m5 x hx
 have hp:=cM xs;have hs:=kG xs;cases xs with
 | nil=>rw[List.perm_nil.mp hp];rfl
 | cons x xs =>
  have all:=List.all_eq_true.mp h;obtain⟨m,m1,m2,m3,m4,m5⟩:=key xs x (λy hy=>all y (List.mem_cons_of_mem _ hy)) (all x (List.mem_cons_self ..));have hm:m∈x::xs:=by rcases m2 with rfl|m2;exact List.mem_cons_self ..;exact List.mem_cons_of_mem _ m2
  have fZ:∀y∈x::xs,mG m y=true:=λy hy=>by
   rcases List.mem_cons.mp hy with rfl|hy
   ·exact m4
   ·exact m5 y hy
  show some _=_;rw[m1];cases e:ie (x::xs)with
  | nil=>rw[e]at hp;exact absurd hp.length_eq (by simp)
  | cons a l =>
   rw[e]at hp hs;have ha:a∈x::xs:=hp.mem_iff.mp (List.mem_cons_self ..);have h1:=fZ a ha;have h2:mG a m=true:=by
    rcases List.mem_cons.mp (hp.mem_iff.mpr hm)with rfl|hm
    ·unfold mG;rw[Vs.eI];rfl
    ·exact(List.pairwise_cons.mp hs).1 m hm
   unfold mG at h1 h2;simp only[Bool.not_eq_true']at h1 h2;show some m=some a;rw[eZ m3,eZ (all a ha),Vs.oC _ _ h2 h1]
def Bt(v:Int):Prop:=-(10^15)<=v/\v<=10^15
def pH(b:Bool)(pts:List (List Int)):D:=(fC (cC b pts)).getD .aV
def yd:bu:=λds Q=>∃b n pts,ds=[jq pts,cU b]/\Good n pts/\pts.length<=1000/\Q (.sh (pH b pts))
theorem Yp(ds:List D)(Q:B->Prop)(h:yd ds Q):FJ pq kI {nx:=λ_=>Q (.sh .aV),rt:=λb _=>Q b} (aL BA.length ds):=by
 obtain⟨b,n,pts,rfl,hg,hl,h⟩:=h;unfold FJ;refine aj λN hN=>?_;symm;refine⟨n,b,pts,rfl,hg.shape,?_⟩;symm;subst hN;symm;refine⟨b,n,pts,rfl,hg,hl,?_⟩;symm;refine⟨.inr (List.all_eq_true.mpr λd hd=>?_),h⟩;obtain⟨p,q,_,_,rfl⟩:=ck hd;rfl
def er(b:Bool)(pts:List (List Int))(p:List Int)(j:Nat):D:=.tup [.int (iT b p (pts.getD j [])),.int j]
def uJ(b:Bool)(pts:List (List Int))(p:List Int)(js:List Nat):D:=(fC (js.map (er b pts p))).getD .aV
def pe:bu:=λds Q=>∃b n pts p js,ds=[jq pts,cU b,fR p,.lst (js.map λj:Nat=>.int j)]/\Good n pts/\Bd p/\js.length<=1000/\(∀j∈js,j<pts.length)/\Q (.sh (uJ b pts p js))
theorem IE(ds:List D)(Q:B->Prop)(h:pe ds Q):T4 ph {nx:=λ_=>Q (.sh .aV),rt:=λb _=>Q b} (aL LI.length ds):=by
 obtain⟨b,n,pts,p,js,rfl,hg,hp,hl,hj,h⟩:=h;unfold T4 jq;symm;refine dG (λj:Nat=>.int j) (er b pts p) js (λj hm A ha=>?_) (by rw[sz];omega) ?_
 ·symm
  refine aW (n:=j) rfl (jU (hj j hm)) ?_;symm;refine⟨b,p,_,rfl,hp,hg.bd (getD_mem (hj j hm)),?_⟩;symm;exact⟨by decide,ha⟩
 ·symm
  refine⟨.inr ?_,h⟩;rw[List.all_map];exact List.all_eq_true.mpr λ_ _=>rfl
def others(n:Nat)(j:Int):List Nat:=(List.range n).filter λi=>decide ((i:Int)≠j)
def gA(b:Bool)(pts:List (List Int))(j:Nat):D:=uJ b pts (pts.getD j []) (others pts.length j)
theorem iB{α β:Type}(p:α->Bool)(f:α->β):∀l:List α,l.filterMap (λa=>if p a=true then some (f a)else none)=(l.filter p).map f
 | []=>rfl
 | a::l=>by
  cases e:p a with
  | true=>rw[List.filterMap_cons_some (by rw[e];rfl),List.filter_cons_of_pos e,List.map_cons,iB p f l]
  | false=>rw[List.filterMap_cons_none (by rw[e];rfl),List.filter_cons_of_neg (by rw[e];decide),iB p f l]
theorem iH{n i:Nat}{j:Int}(h:i∈others n j):i<n:=List.mem_range.mp (List.mem_filter.mp h).1
theorem oO(n:Nat)(j:Int):(others n j).length<=n:=by
 have:=List.length_filter_le (λi:Nat=>decide ((i:Int)≠j)) (List.range n);rw[List.length_range]at this;exact this
def fM:bu:=λds Q=>∃b n pts j,ds=[jq pts,cU b,.int (j:Nat)]/\Good n pts/\pts.length<=1000/\j<pts.length/\Q (.sh (gA b pts j))
theorem II(ds:List D)(Q:B->Prop)(h:fM ds Q):T5 pe {nx:=λ_=>Q (.sh .aV),rt:=λb _=>Q b} (aL LJ.length ds):=by
 obtain⟨b,n,pts,j,rfl,hg,hl,hj,h⟩:=h;unfold T5 jq;refine aj λN hN=>?_;symm;rw[List.length_map,Int.toNat_natCast,d5];refine⟨by omega,jF (λi:Nat=>.int (0+(i:Nat))) (λi:Nat=>if decide ((i:Int)≠(j:Int))=true then some (.int (i:Nat))else none) _ (λi hm A Bn ha=>?_) (by rw[List.length_range,sz];omega) ?_⟩
 ·symm
  refine⟨⟨rfl,rfl⟩,?_⟩;rw[Int.zero_add]
  by_cases e:i=j
  ·subst e
   have e2:gw (.int (i:Nat)) (.int (i:Nat))=true:=by simp [gw]
   rw[if_neg (by rw[e2];decide)]
   rw[if_neg (by simp)]at ha
   exact ha
  ·have e2:gw (.int (i:Nat)) (.int (j:Nat))=false:=by simp [gw];omega
   rw[if_pos (by rw[e2])]
   rw[if_pos (decide_eq_true ⋯)]at ha
   exact ha
 ·rw[iB]
  symm;subst hN;symm;refine aW (n:=j) rfl (jU hj) ?_;symm;exact⟨b,n,pts,_,others pts.length j,rfl,hg,hg.bd (getD_mem hj),by have:=oO pts.length j;omega,λi hi=>iH hi,h⟩
theorem rF(b:Bool)(pts:List (List Int))(p:List Int):∀js:List Nat,(js=[]/\uJ b pts p js=.aV)\/∃k∈js,uJ b pts p js=er b pts p k
 | []=>.inl ⟨rfl,rfl⟩
 | j::js=>.inr (by
  show∃k∈j::js,(js.map (er b pts p)).foldl (λb y=>if ltI y b=true then y else b) (er b pts p j)=er b pts p k
  have key:∀(rest:List Nat) (i:Nat),(∀x∈rest,x∈j::js)->i∈j::js->∃k∈j::js,(rest.map (er b pts p)).foldl (λb y=>if ltI y b=true then y else b) (er b pts p i)=er b pts p k:=by
   intro rest
   induction rest with
   | nil=>intro i _ hi;exact⟨i,hi,rfl⟩
   | cons x rest ih =>
    intro i hr hi;rw[List.map_cons,List.foldl_cons]
    split
    ·exact ih x (λy hy=>hr y (List.mem_cons_of_mem _ hy)) (hr x (List.mem_cons_self ..))
    ·exact ih i (λy hy=>hr y (List.mem_cons_of_mem _ hy)) hi
  exact key js j (λx hx=>List.mem_cons_of_mem _ hx) (List.mem_cons_self ..))
def LL(n:Nat)(nn:Nat->Option (Int×Nat)):Prop:=∀i f k,i<n->nn i=some (f,k)->k<n/\(nn k).isSome=true
def Z2:Option (Int×Nat)->D
 | none=>.aV
 | some p=>.tup [.int p.1,.int (p.2:Nat)]
theorem xN{n j k:Nat}(h:k∈others n (j:Int)):k≠j:=by
 have:=(List.mem_filter.mp h).2;have:=of_decide_eq_true this;omega
def XC:D->Option (Int×Nat)
 | .tup [.int f,.int k]=>some (f,k.toNat)
 | _=>none
theorem Et(o:Option (Int×Nat)):XC (Z2 o)=o:=by
 cases o with
 | none=>rfl
 | some p=>show some (p.1,((p.2:Nat):Int).toNat)=some p;rw[Int.toNat_natCast]
def Iu(b:Bool)(pts:List (List Int))(i:Nat):Option (Int×Nat):=XC (gA b pts i)
theorem Iq(b:Bool)(pts:List (List Int)):(∀i,gA b pts i=Z2 (Iu b pts i))/\LL pts.length (Iu b pts):=by
 have h1:∀i,gA b pts i=Z2 (Iu b pts i)/\(∀f k,Iu b pts i=some (f,k)->k<pts.length/\k≠i)/\(Iu b pts i=none->others pts.length (i:Int)=[]):=by
  intro i;have go:∀o,gA b pts i=Z2 o->Iu b pts i=o:=λo e=>by unfold Iu;rw[e,Et]
  rcases rF b pts (pts.getD i []) (others pts.length (i:Int))with⟨h1,h2⟩|⟨k,h1,h2⟩
  ·have e:=go none h2
   rw[e];exact⟨h2,λf k e=>(by cases e),λ_=>h1⟩
  ·have e:=go (some (iT b (pts.getD i []) (pts.getD k []),k)) h2
   rw[e];exact⟨h2,λf k' e=>by cases e;exact⟨iH h1,xN h1⟩,λe=>by cases e⟩
 refine⟨λi=>(h1 i).1,λi f k hi e=>?_⟩;obtain⟨hk,dk⟩:=(h1 i).2.1 f k e;refine⟨hk,?_⟩;cases e2:Iu b pts k with
 | some _=>rfl
 | none =>
  have:=(h1 k).2.2 e2;have hm:i∈others pts.length (k:Int):=List.mem_filter.mpr ⟨List.mem_range.mpr hi,decide_eq_true ⋯⟩
  rw[this]at hm;cases hm
def lW:bu:=λds Q=>∃pts j,ds=[jq pts,.int (j:Nat)]/\j<pts.length/\Q (.sh .aV)
theorem EE(ds:List D)(Q:B->Prop)(h:lW ds Q):FT {nx:=λ_=>Q (.sh .aV),rt:=λb _=>Q b} (aL BJ.length ds):=by
 obtain⟨pts,j,rfl,hj,h⟩:=h;unfold FT jq;symm;rw[List.length_map];rw[if_neg ⋯,if_neg ⋯]
 exact h
def UP(t:Int×Nat×Nat):D:=.tup [.int t.1,.int (t.2.1:Nat),.int (t.2.2:Nat)]
theorem Lr{b:Bool}{pts:List (List Int)}:∀l:List D,(∀d∈l,∃i j,d=pairD b pts i j)->∃ts:List (Int×Nat×Nat),l=ts.map UP
 | [],_=>⟨[],rfl⟩
 | d::l,h=>by
  obtain⟨i,j,rfl⟩:=h d (List.mem_cons_self ..);obtain⟨ts,e⟩:=Lr l λx hx=>h x (List.mem_cons_of_mem _ hx);exact⟨(_,i,j)::ts,by rw[e];rfl⟩
theorem EH(b:Bool)(pts:List (List Int)):∃ts:List (Int×Nat×Nat),cC b pts=ts.map UP:=Lr (b:=b) (pts:=pts) _ λd hd=>by
 obtain⟨p,q,_,_,h⟩:=ck hd;exact⟨p,q,h⟩
def nearF(bound:Int):D->Option D
 | .tup [.int f,.int i,.int j]=>if f<=bound then some (.tup [.int i,.int j])else none
 | _=>none
theorem Eo(bound:Int)(t:Int×Nat×Nat):nearF bound (UP t)=if decide (t.1<=bound)=true then some (.tup [.int (t.2.1:Nat),.int (t.2.2:Nat)])else none:=by
 show(if t.1<=bound then _ else _)=_
 by_cases h:t.1<=bound
 ·rw[if_pos h,if_pos (decide_eq_true h)]
 ·rw[if_neg h,if_neg (by rw[decide_eq_false h];decide)]
def ja(b:Bool)(pts:List (List Int))(bound:Int):List D:=(cC b pts).filterMap (nearF bound)
def UU(b:Bool)(pts:List (List Int))(d d':D):Prop:=∃i j i' j':Nat,d=pairD b pts i j/\d'=pairD b pts i' j'/\(i<i'\/(i=i'/\j<j'))
theorem Fj(b:Bool)(pts:List (List Int))(i:Nat):∀m,(iV b pts i m).Pairwise (UU b pts)
 | 0=>List.Pairwise.nil
 | m+1=>by
  rw[lR];refine List.pairwise_append.mpr ⟨Fj b pts i m,List.pairwise_singleton ..,λx hx y hy=>?_⟩;rw[List.mem_singleton.mp hy];obtain⟨t,ht,rfl⟩:=List.mem_map.mp hx;have:=List.mem_range.mp ht;exact⟨i,i+1+t,i,i+1+m,rfl,rfl,.inr ⟨rfl,by omega⟩⟩
theorem zG(b:Bool)(pts:List (List Int)):∀i,(d6 b pts i).Pairwise (UU b pts)
 | 0=>List.Pairwise.nil
 | i+1=>by
  refine List.pairwise_append.mpr ⟨zG b pts i,Fj b pts i _,λx hx y hy=>?_⟩;obtain⟨p,q,h1,_,_,rfl⟩:=o4 hx;obtain⟨t,_,rfl⟩:=List.mem_map.mp hy;exact⟨p,q,i,i+1+t,rfl,rfl,.inl h1⟩
theorem vN(b:Bool)(pts:List (List Int))(bound:Int):(ja b pts bound).Pairwise λx y=>mG x y=true:=by
 unfold ja;rw[List.pairwise_filterMap];refine(zG b pts pts.length).imp λ{x y} h u hu v hv=>?_;obtain⟨i,j,i',j',rfl,rfl,h⟩:=h;have e1:u=.tup [.int (i:Nat),.int (j:Nat)]:=by
  have:(if iT b (pts.getD i []) (pts.getD j [])<=bound then some (D.tup [.int (i:Nat),.int (j:Nat)])else none)=some u:=hu
  split at this
  ·exact(Option.some.inj this).symm
  ·cases this
 have e2:v=.tup [.int (i':Nat),.int (j':Nat)]:=by
  have:(if iT b (pts.getD i' []) (pts.getD j' [])<=bound then some (D.tup [.int (i':Nat),.int (j':Nat)])else none)=some v:=hv
  split at this
  ·exact(Option.some.inj this).symm
  ·cases this
 subst e1 e2;unfold mG;show(!HT.lexLt [(i':Int),(j':Int)] [(i:Int),(j:Int)])=true;rw[HT.b9,HT.b9]
 by_cases e:(i':Int)=(i:Int)
 ·rw[if_pos e,if_neg ⋯,decide_eq_false ⋯];rfl
 ·rw[if_neg e,decide_eq_false ⋯];rfl
theorem Ep(b:Bool)(pts:List (List Int))(bound:Int):(ja b pts bound).length<=(cC b pts).length:=List.length_filterMap_le _ _
def lV:bu:=λds Q=>∃j:Int,ds=[.int j]/\0<=j/\Q (.sh .aV)
theorem EA(ds:List D)(Q:B->Prop)(h:lV ds Q):FQ {nx:=λ_=>Q (.sh .aV),rt:=λb _=>Q b} (aL BH.length ds):=by
 obtain⟨j,rfl,hj,h⟩:=h;unfold FQ;symm;rw[if_neg ⋯]
 exact h
def tF:bu:=λds Q=>∃b n pts j,ds=[jq pts,cU b,.int j]/\Good n pts/\pts.length<=1000/\0<=j/\Q (.own (ja b pts j))
theorem Q5(ds:List D)(Q:B->Prop)(h:tF ds Q):FO pq lV kI {nx:=λ_=>Q (.sh .aV),rt:=λb _=>Q b} (aL BF.length ds):=by
 obtain⟨b,n,pts,j,rfl,hg,hl,hj,h⟩:=h;unfold FO;refine aj λN hN=>?_;symm;refine⟨n,b,pts,rfl,hg.shape,?_⟩;symm;subst hN;refine aj λN hN=>?_;symm;refine⟨j,rfl,hj,?_⟩;symm;subst hN;symm;refine⟨b,n,pts,rfl,hg,hl,?_⟩;symm;have hz:=oQ (b:=b) hl;obtain⟨ts,e⟩:=EH b pts;unfold ja at h;rw[e]at h hz ⊢;rw[List.length_map]at hz;refine jF UP (λt=>nearF j (UP t)) ts (λt ht A Bn ha=>?_) (by rw[sz];omega) ?_
 ·rw[Eo]at ha
  unfold UP;symm
  by_cases hb:t.1<=j
  ·rw[if_pos (decide_eq_true hb)]at ha
   refine(if_pos hb).mpr ⟨by decide,ha⟩
  ·rw[if_neg (by rw[decide_eq_false hb];decide)]at ha
   exact(if_neg hb).mpr ha
 ·rw[List.filterMap_map]at h
  exact h
theorem FA:∀l:List Int,(∀x∈l,0<=x)->0<=l.sum
 | [],_=>by simp
 | x::l,h=>by
  rw[List.sum_cons];have:=FA l λy hy=>h y (List.mem_cons_of_mem _ hy);have:=h x (List.mem_cons_self ..);omega
theorem Nz(b:Bool)(p q:List Int):0<=iT b p q:=FA _ λx hx=>by
 obtain⟨xy,_,rfl⟩:=List.mem_map.mp hx;unfold stepI mU
 split
 ·exact Int.mul_nonneg (by split<;>omega) (by split<;>omega)
 ·split<;>omega
theorem Di(a b:Int):gw (.int a) (.int b)=decide (a=b):=by
 unfold gw
 by_cases h:a=b
 ·simp [h]
 ·simp [h]
def yb:bu:=λds Q=>∃(ns:List Int) (k:Nat),ds=[.iL ns,.int k]/\ns.length<=63/\∀c:Int,Q (.sh (.int c))
theorem Yf(ds:List D)(Q:B->Prop)(h:yb ds Q):FG {nx:=λ_=>Q (.sh .aV),rt:=λb _=>Q b} (aL Bw.length ds):=by
 obtain⟨ns,k,rfl,hl,h⟩:=h;unfold FG;refine aj λN hN=>?_;symm
 by_cases hk:(k:Int)<(ns.length:Int)
 ·refine(if_pos hk).mpr ?_
  have Om:k<ns.length:=by omega
  have e:L2.lb ns (k:Int)=some ns[k]:=Vc.rD (List.getElem?_eq_getElem Om);show(match L2.lb ns (k:Int)with|some n=>_|none=>False)
  rw[e];exact h _
 ·refine(if_neg hk).mpr ?_
  subst hN;symm;exact h 0
def nG(ns:List Int):Prop:=∀v∈ns,0<=v/\v<2^31
def tH:bu:=λds Q=>∃(c:Int) (m:Nat),ds=[.int c,.int m]/\m<=10/\∀vs:List Int,vs.length=m->nG vs->Q (.own (vs.map D.int))
theorem Q8(ds:List D)(Q:B->Prop)(h:tH ds Q):FH {nx:=λ_=>Q (.sh .aV),rt:=λb _=>Q b} (aL Bx.length ds):=by
 obtain⟨c,m,rfl,hm,h⟩:=h;unfold FH;refine aj λN hN=>?_;symm;refine⟨by decide,?_⟩
 subst hN;refine aj λN hN=>?_;symm;subst hN;refine aj λN hN=>?_;show dc _ _ _ _ _;generalize ht:b6 _ _ _=tb;symm;rw[Int.toNat_natCast,d5];refine⟨by omega,eC (λi:Nat=>.int (0+(i:Nat))) (List.range m) (λi σ=>∃(vs:List Int) (r:Int) (x4 x5:Option B),σ=[some (.sh (.int c)),some (.sh (.int m)),some (.own (vs.map D.int)),some (.sh (.int r)),x4,x5]/\0<=r/\vs.length=i/\nG vs) (λi k σ N' hx hI DE=>?_) (λσ hI=>?_) ⟨[],_,_,_,rfl,by split<;>omega,rfl,λv hv=>by cases hv⟩⟩
 ·obtain⟨rfl,hk⟩:=dJ hx
  obtain⟨vs,r,x4,x5,rfl,hr,nZ,hv⟩:=hI;subst ht;have more:∀v:Int,0<=v->v<2^31->nG (vs++[v]):=λv h0 h1 w hw=>by
   rcases List.mem_append.mp hw with hw|hw
   ·exact hv w hw
   ·rw[List.mem_singleton.mp hw];exact⟨h0,h1⟩
  walk_at "vg";symm;refine⟨by unfold Bp;decide,?_⟩
  generalize (if c<0 then -c else c)=ac
  by_cases WM:(10:Int)^Int.toNat 18<=ac
  ·refine(if_pos WM).mpr ?_
   refine⟨⟨_,rfl⟩,by decide,by rw[List.length_map,sz];omega,by unfold ur;decide,?_⟩
   exact DE _ ⟨vs++[r%1009],_,_,_,by rw[List.map_append];rfl,by omega,by simp [nZ],more _ ⋯ ⋯⟩
  ·refine(if_neg WM).mpr ?_
   have KS:0<=(k:Int)/\(k:Int)<=10:=by omega
   refine⟨by decide,by unfold kY;omega,by unfold kY;right;omega,by decide,?_⟩
   generalize hq:((r%2147483629+7919*((k:Int)+1)*((k:Int)+3))%2147483629)=o;have ho:0<=o/\o<2147483629:=by
    rw[<- hq];exact⟨Int.emod_nonneg _ ∅,Int.emod_lt_of_pos _ ∅⟩
   refine⟨by unfold kY;left;omega,by decide,by unfold ur;decide,⟨_,rfl⟩,by unfold kY;right;decide,by decide,by unfold ur;decide,by rw[List.length_map,sz];omega,?_⟩
   exact DE _ ⟨vs++[_],_,_,_,by rw[List.map_append];rfl,hr,by simp [nZ],more _ ⋯ ⋯⟩
 ·obtain⟨vs,r,x4,x5,rfl,hr,nZ,hv⟩:=hI
  subst hN;rw[List.length_range]at nZ;symm;exact h vs nZ hv
theorem Ey{vs:List Int}{m j:Nat}(hl:vs.length=m)(hv:nG vs)(h:j<m):∃v:Int,(vs.map D.int)[j]?=some (.int v)/\0<=v/\v<2^31:=by
 have hj:j<vs.length:=by omega
 exact⟨vs[j],by rw[List.getElem?_map,List.getElem?_eq_getElem hj];rfl,hv _ (List.getElem_mem hj)⟩
theorem bQ{vs:List Int}{m j:Nat}{i:Int}{P:D->Prop}(hl:vs.length=m)(hv:nG vs)(h:j<m)(e:i=(j:Int))(hP:∀v:Int,0<=v->v<2^31->P (.int v)):Ia (.lst (vs.map D.int)) (.int i) P:=by
 obtain⟨v,e1,h0,h1⟩:=Ey hl hv h;exact aW e e1 (hP v h0 h1)
theorem Ai(b:Bool){p q:List Int}(h:p.length=q.length):iT b p q=((List.range p.length).map λk=>stepI b (p.getD k 0) (q.getD k 0)).sum:=by
 unfold iT;congr 1;refine List.ext_getElem (by simp [h]) λk h1 h2=>?_
 have hk:k<p.length:=by simpa using h2
 have KS:k<q.length:=by omega
 simp only[List.getElem_map,List.getElem_zip,List.getElem_range];rw[List.getD_eq_getElem?_getD,List.getD_eq_getElem?_getD,List.getElem?_eq_getElem hk,List.getElem?_eq_getElem KS];rfl
theorem zS{p:List Int}{k:Nat}(h:k<p.length):(p.map D.int)[k]?=some (.int (p.getD k 0)):=by
 rw[List.getElem?_map,List.getD_eq_getElem?_getD,List.getElem?_eq_getElem h];rfl
theorem yG{p:List Int}(h:Bd p)(k:Nat):-(2^60)<p.getD k 0/\p.getD k 0<2^60:=by
 rw[List.getD_eq_getElem?_getD];cases e:p[k]? with
 | none=>exact⟨by decide,by decide⟩
 | some v=>exact h.2 v (List.mem_of_getElem? e)
def zK:bu:=λds Q=>∃b p q,ds=[fR p,fR q,cU b]/\Bd p/\Bd q/\p.length=q.length/\Q (.sh (.int (iT b p q)))
theorem aa6(ds:List D)(Q:B->Prop)(h:zK ds Q):Ga {nx:=λ_=>Q (.sh .aV),rt:=λb _=>Q b} (aL BR.length ds):=by
 obtain⟨b,p,q,rfl,hp,hq,hlen,h⟩:=h;rw[Ai b hlen]at h;unfold Ga;rw[show fR p=.tup (p.map D.int)from rfl,show fR q=.tup (q.map D.int)from rfl]
 refine aj λN hN=>?_;symm;rw[List.length_map,Int.toNat_natCast,d5];have hp3:=hp.1;refine⟨by omega,dG (λi:Nat=>.int (0+(i:Nat))) (λk:Nat=>D.int (mU (p.getD k 0-q.getD k 0))) _ (λk hk A ha=>?_) (by rw[List.length_range,sz];omega) ?_⟩
 ·have hk:=List.mem_range.mp hk
  symm;rw[Int.zero_add];refine cy (n:=k) rfl (zS hk) ?_;refine cy (n:=k) rfl (zS ⋯) ?_
  symm;exact ha
 symm;subst hN;refine aj λN hN=>?_;symm;rw[mP];refine⟨⟨ud b,oM⟩,?_⟩;cases b with
 | false =>
  refine(if_neg ∅).mpr ?_
  subst hN;symm;refine⟨ng _ _,?_⟩;rw[d3];exact h
 | true =>
  refine(if_pos rfl).mpr ?_;rw[show((List.range p.length).map λk:Nat=>D.int (mU (p.getD k 0-q.getD k 0)))=((List.range p.length).map λk:Nat=>mU (p.getD k 0-q.getD k 0)).map D.int from by rw[List.map_map];rfl]
  refine dG D.int (λd:Int=>D.int (d*d)) _ (λd hd A ha=>?_) (by rw[sz,List.length_map,List.length_range];omega) ?_
  ·symm
   refine⟨?_,ha⟩;obtain⟨k,hk,rfl⟩:=List.mem_map.mp hd;have h1:=yG hp k;have h2:=yG hq k;unfold kY mU;left
   split<;>omega
  ·subst hN
   symm;refine⟨ng _ _,?_⟩;rw[d3,List.map_map];exact h
theorem gR{n:Nat}{pts:List (List Int)}(g:Good n pts){i:Nat}(h:i<pts.length):(pts.getD i []).length=n:=(g.2 _ (getD_mem h)).1
def bZ(ps:List (Int×List Int)):List (Int×D):=ps.map λp=>(p.1,fR p.2)
structure Uo(n:Nat)(ps:List (Int×List Int)):Prop where
 good:Good n (ps.map (·.2))
 inc:(ps.map (·.1)).Pairwise λx y:Int=>x<y
 len:ps.length<=1000
theorem iD(ps:List (Int×List Int)):(bZ ps).map (·.1)=ps.map (·.1):=by unfold bZ;rw[List.map_map];rfl
theorem dN{ns:List Int}(h:ns.Pairwise λx y:Int=>x<y):v7 ns=ns:=(v8 (List.Perm.refl _) (h.imp λh=>Int.le_of_lt h)).symm
theorem nr:∀ {ps:List (Int×List Int)} {k:Nat} {p:Int×List Int},(ps.map (·.1)).Pairwise (λx y:Int=>x<y)->ps[k]?=some p->d2 (bZ ps) p.1=some (fR p.2)
 | [],_,_,_,e=>by simp at e
 | q::ps,0,p,_,e=>by
  simp at e;subst e;show d2 ((q.1,fR q.2)::bZ ps) q.1=_;unfold d2;rw[List.find?_cons_of_pos (by simp)];rfl
 | q::ps,k+1,p,h,e=>by
  rw[List.map_cons,List.pairwise_cons]at h;have e:ps[k]?=some p:=by simpa using e
  have jn:=h.1 p.1 (List.mem_map.mpr ⟨p,List.mem_of_getElem? e,rfl⟩);have ih:=nr h.2 e;show d2 ((q.1,fR q.2)::bZ ps) p.1=_;unfold d2 at ih ⊢;rw[List.find?_cons_of_neg (by simp;omega)]
  exact ih
def v9:bu:=λds Q=>∃w c e kvs i,ds=[.kp w c e kvs,.int i]/\(d2 kvs i).isSome=true/\Q (.sh .aV)
theorem aa7(ds:List D)(Q:B->Prop)(h:v9 ds Q):TY {nx:=λ_=>Q (.sh .aV),rt:=λb _=>Q b} (aL BW.length ds):=by
 obtain⟨w,c,e,kvs,i,rfl,hi,h⟩:=h;unfold TY;symm;rw[hi];exact(if_neg ∅).mpr h
def d7:bu:=λds Q=>∃w c e n ps,ds=[.kp w c e (bZ ps)]/\Uo n ps/\Q (.own (ps.map λp=>.int p.1))
theorem IH(ds:List D)(Q:B->Prop)(h:d7 ds Q):FL {nx:=λ_=>Q (.sh .aV),rt:=λb _=>Q b} (aL BE.length ds):=by
 obtain⟨w,c,e,n,ps,rfl,ok,h⟩:=h;unfold FL;symm;rw[iD,dN ok.inc,List.map_map];exact h
def pz:bu:=λds Q=>∃w c e n ps,ds=[.kp w c e (bZ ps)]/\Uo n ps/\Q (.own ((ps.map (·.2)).map fR))
theorem Ym(ds:List D)(Q:B->Prop)(h:pz ds Q):TU d7 {nx:=λ_=>Q (.sh .aV),rt:=λb _=>Q b} (aL LA.length ds):=by
 obtain⟨w,c,e,n,ps,rfl,ok,h⟩:=h;have hl:=ok.len;unfold TU;symm;refine⟨⟨_,_,_,_,rfl⟩,⟨List.nodup_nil,(λ_ h=>h.elim),[.kp w c e (bZ ps)],rfl,w,c,e,n,ps,rfl,ok,?_⟩⟩;refine⟨.inl trivial,?_⟩;symm;refine dG (λp:Int×List Int=>D.int p.1) (λp=>fR p.2) ps (λp hp A ha=>?_) (by rw[sz];omega) ?_
 ·obtain⟨k,hk⟩:=List.getElem?_of_mem hp
  symm;exact⟨_,nr ok.inc hk,ha⟩
 ·rw[List.map_map]at h
  exact h
def pv:bu:=λds Q=>∃w c e kvs i d,ds=[.kp w c e kvs,.int i]/\d2 kvs i=some d/\Q (.sh d)
theorem IK(ds:List D)(Q:B->Prop)(h:pv ds Q):FN v9 {nx:=λ_=>Q (.sh .aV),rt:=λb _=>Q b} (aL uy.length ds):=by
 obtain⟨w,c,e,kvs,i,d,rfl,hi,h⟩:=h;unfold FN;refine aj λN hN=>?_;symm;refine⟨⟨_,_,_,_,rfl⟩,⟨List.nodup_nil,(λ_ h=>h.elim),[.kp w c e kvs,.int i],rfl,w,c,e,kvs,i,rfl,by rw[hi];rfl,.inl trivial,?_⟩⟩
 symm;subst hN;symm;exact⟨d,hi,h⟩
def nmV(ks:List Int):D->D
 | .int i=>.int (ks.getD i.toNat 0)
 | d=>d
def a8(ks:List Int):D->D
 | .tup (f::r)=>.tup (f::r.map (nmV ks))
 | d=>d
theorem cA{ps:List (Int×List Int)}{i:Nat}(h:i<ps.length):(ps.map λp=>D.int p.1)[i]?=some (.int ((ps.map (·.1)).getD i 0)):=by
 rw[List.getElem?_map,List.getElem?_eq_getElem h,List.getD_eq_getElem?_getD,List.getElem?_map,List.getElem?_eq_getElem h];rfl
def tm:bu:=λds Q=>∃b c e n ps,ds=[.kp (bg b) c e (bZ ps)]/\Uo n ps/\Q (.sh (a8 (ps.map (·.1)) (pH b (ps.map (·.2)))))
theorem zU(b:Bool)(pts:List (List Int)):pH b pts=.aV\/∃p q,p<q/\q<pts.length/\pH b pts=pairD b pts p q:=by
 unfold pH;rw[lg (xP b pts)];cases e:ie (cC b pts)with
 | nil=>exact .inl rfl
 | cons a l =>
  have:a∈cC b pts:=(cM _).mem_iff.mp (by rw[e];exact List.mem_cons_self ..)
  obtain⟨p,q,h1,h2,h⟩:=ck this;exact .inr ⟨p,q,h1,h2,h⟩
theorem QX(ds:List D)(Q:B->Prop)(h:tm ds Q):FZ yd pz d7 {nx:=λ_=>Q (.sh .aV),rt:=λb _=>Q b} (aL BO.length ds):=by
 obtain⟨b,c,e,n,ps,rfl,ok,h⟩:=h;have hl:=ok.len;unfold FZ;refine aj λN hN=>?_;symm;refine⟨⟨_,_,_,_,rfl⟩,⟨List.nodup_nil,(λ_ h=>h.elim),[.kp (bg b) c e (bZ ps)],rfl,bg b,c,e,n,ps,rfl,ok,.inl trivial,?_⟩⟩;symm;refine⟨.str (bg b),rfl,?_⟩;symm;refine⟨b,n,ps.map (·.2),rfl,ok.good,by rw[List.length_map];exact hl,?_⟩
 symm;subst hN;refine aj λN hN=>?_;rcases zU b (ps.map (·.2))with h2|⟨p,q,h1,h2,h3⟩
 ·rw[h2]at h ⊢
  symm;exact h
 ·rw[h3]at h ⊢
  rw[List.length_map]at h2;unfold pairD at h ⊢;symm
  try refine(if_neg ∅).mpr ?_
  subst hN;refine aj λN hN=>?_;symm;refine⟨⟨_,_,_,_,rfl⟩,⟨List.nodup_nil,(λ_ h=>h.elim),[.kp (bg b) c e (bZ ps)],rfl,bg b,c,e,n,ps,rfl,ok,.inl trivial,?_⟩⟩;symm;subst hN;symm;refine cy (n:=0) rfl rfl ?_;symm;refine cy (n:=1) rfl rfl (aW (n:=p) rfl (cA ⋯) ?_)
  symm;refine cy (n:=2) rfl rfl (aW (n:=q) rfl (cA ⋯) ?_)
  symm;refine⟨by decide,?_⟩
  exact h
theorem Yk(ds:List D)(Q:B->Prop)(h:fM ds Q):FP pq lW fM {nx:=λ_=>Q (.sh .aV),rt:=λb _=>Q b} (aL BG.length ds):=by
 obtain⟨b,n,pts,j,rfl,hg,hl,hj,h⟩:=h;unfold FP;symm;refine⟨n,b,pts,rfl,hg.shape,?_⟩;symm;refine⟨pts,j,rfl,hj,?_⟩;symm;exact⟨b,n,pts,j,rfl,hg,hl,hj,h⟩
theorem zb(b:Bool)(pts:List (List Int))(i:Nat)(hi:i<pts.length):gA b pts i=.aV\/∃(f:Int) (k:Nat),k<pts.length/\gA b pts i=.tup [.int f,.int (k:Nat)]:=by
 obtain⟨h1,h2⟩:=Iq b pts;rw[h1 i];cases e:Iu b pts i with
 | none=>exact .inl rfl
 | some p=>exact .inr ⟨p.1,p.2,(h2 i p.1 p.2 hi e).1,rfl⟩
theorem qE:∀ {ns:List Int} {k:Nat} {i:Int},ns.Pairwise (λx y:Int=>x<y)->ns[k]?=some i->xx (.int i) (ns.map D.int)=some k
 | [],_,_,_,e=>by simp at e
 | n::ns,0,i,_,e=>by
  simp at e;subst e;unfold xx;rw[List.map_cons,List.findIdx?_cons,if_pos (by simp [gw])]
 | n::ns,k+1,i,hp,e=>by
  rw[List.pairwise_cons]at hp;have e:ns[k]?=some i:=by simpa using e
  have:=hp.1 i (List.mem_of_getElem? e);have ih:=qE hp.2 e;unfold xx at ih ⊢;rw[List.map_cons,List.findIdx?_cons,if_neg (by simp [gw];omega),ih];rfl
theorem om(ns:List Int):bO 8 (.lst (ns.map D.int))=true:=by
 show(ns.map D.int).all (bO 7)=true;rw[List.all_map];exact List.all_eq_true.mpr λ_ _=>rfl
theorem cz(ps:List (Int×List Int)):(ps.map λp=>D.int p.1)=(ps.map (·.1)).map D.int:=by rw[List.map_map];rfl
def pj:bu:=λds Q=>∃b c e n ps k i,ds=[.kp (bg b) c e (bZ ps),.int i]/\Uo n ps/\(ps.map (·.1))[k]?=some i/\Q (.sh (a8 (ps.map (·.1)) (gA b (ps.map (·.2)) k)))
theorem IG(ds:List D)(Q:B->Prop)(h:pj ds Q):T6 v9 d7 fM pz {nx:=λ_=>Q (.sh .aV),rt:=λb _=>Q b} (aL BX.length ds):=by
 obtain⟨b,c,e,n,ps,k,i,rfl,ok,hk,h⟩:=h;have hl:=ok.len;have vA:k<ps.length:=by have:=(List.getElem?_eq_some_iff.mp hk).1;simpa using this
 have Ol:(d2 (bZ ps) i).isSome=true:=by
  rw[List.getElem?_map,List.getElem?_eq_getElem vA]at hk;have hk:ps[k].1=i:=by simpa using hk
  rw[<- hk,nr ok.inc (List.getElem?_eq_getElem vA)];rfl
 unfold T6;refine aj λN hN=>?_;symm;refine⟨⟨_,_,_,_,rfl⟩,⟨List.nodup_nil,(λ_ h=>h.elim),[.kp (bg b) c e (bZ ps),.int i],rfl,_,c,e,_,i,rfl,Ol,.inl trivial,?_⟩⟩;symm;subst hN;refine aj λN hN=>?_;symm;refine⟨⟨_,_,_,_,rfl⟩,⟨List.nodup_nil,(λ_ h=>h.elim),[.kp (bg b) c e (bZ ps)],rfl,bg b,c,e,n,ps,rfl,ok,.inl trivial,?_⟩⟩;symm;subst hN;refine aj λN hN=>?_;symm;refine⟨⟨_,_,_,_,rfl⟩,⟨List.nodup_nil,(λ_ h=>h.elim),[.kp (bg b) c e (bZ ps)],rfl,bg b,c,e,n,ps,rfl,ok,.inl trivial,?_⟩⟩;symm;refine⟨.str (bg b),rfl,?_⟩;symm;rw[cz];refine⟨⟨_,rfl⟩,⟨rfl,om _⟩,k,qE ok.inc hk,?_⟩;symm;refine⟨b,n,ps.map (·.2),k,rfl,ok.good,by rw[List.length_map];exact hl,by rw[List.length_map];exact vA,?_⟩
 symm;subst hN;refine aj λN hN=>?_;rcases zb b (ps.map (·.2)) k (by rw[List.length_map];exact vA)with h2|⟨f,q,h2,h3⟩
 ·rw[h2]at h ⊢
  symm;exact h
 ·rw[h3]at h ⊢
  rw[List.length_map]at h2;symm
  try refine(if_neg ∅).mpr ?_
  subst hN;symm;refine cy (n:=0) rfl rfl ?_;symm;refine cy (n:=1) rfl rfl (aW (n:=q) rfl (by rw[<- cz];exact cA h2) ?_)
  symm;refine⟨by decide,?_⟩
  exact h
def UL(ks:List Int)(p:Nat×Nat):D:=.tup [.int (ks.getD p.1 0),.int (ks.getD p.2 0)]
def e9(ks:List Int)(b:Bool)(pts:List (List Int))(j:Int):List D:=(ja b pts j).map λd=>match d with|.tup [.int x,.int y]=>UL ks (x.toNat,y.toNat)|d=>d
theorem Ir(b:Bool)(pts:List (List Int))(bound:Int):∃ps:List (Nat×Nat),ja b pts bound=ps.map (λp=>D.tup [.int (p.1:Nat),.int (p.2:Nat)])/\∀p∈ps,p.1<p.2/\p.2<pts.length:=by
 have:∀l:List D,(∀d∈l,∃p:Nat×Nat,d=.tup [.int (p.1:Nat),.int (p.2:Nat)]/\p.1<p.2/\p.2<pts.length)->∃ps:List (Nat×Nat),l=ps.map (λp=>D.tup [.int (p.1:Nat),.int (p.2:Nat)])/\∀p∈ps,p.1<p.2/\p.2<pts.length:=by
  intro l
  induction l with
  | nil=>intro _;exact⟨[],rfl,λp hp=>by cases hp⟩
  | cons d l ih =>
   intro h;obtain⟨p,rfl,hp⟩:=h d (List.mem_cons_self ..);obtain⟨ps,e,HN⟩:=ih λx hx=>h x (List.mem_cons_of_mem _ hx);refine⟨p::ps,by rw[e];rfl,λx hx=>?_⟩
   rcases List.mem_cons.mp hx with rfl|hx
   ·exact hp
   ·exact HN x hx
 refine this _ λd hd=>?_;obtain⟨x,hx,h⟩:=List.mem_filterMap.mp hd;obtain⟨p,q,h1,h2,rfl⟩:=ck hx;have:(if iT b (pts.getD p []) (pts.getD q [])<=bound then some (D.tup [.int (p:Nat),.int (q:Nat)])else none)=some d:=h
 split at this
 ·exact⟨(p,q),(Option.some.inj this).symm,h1,h2⟩
 ·cases this
theorem fH(b:Bool)(pts:List (List Int))(bound:Int):∃ps:List (Nat×Nat),ja b pts bound=ps.map (λp=>D.tup [.int (p.1:Nat),.int (p.2:Nat)])/\ps.length<=(cC b pts).length/\∀p∈ps,p.1<p.2/\p.2<pts.length:=by
 obtain⟨ps,e,h⟩:=Ir b pts bound;refine⟨ps,e,?_,h⟩;have:=Ep b pts bound;rw[e,List.length_map]at this;exact this
theorem fG{ks:List Int}{b:Bool}{pts:List (List Int)}{j:Int}{qs:List (Nat×Nat)}(e:ja b pts j=qs.map (λp=>D.tup [.int (p.1:Nat),.int (p.2:Nat)])):e9 ks b pts j=qs.map (UL ks):=by
 unfold e9;rw[e,List.map_map];refine List.map_congr_left λp _=>?_;show UL ks (((p.1:Nat):Int).toNat,((p.2:Nat):Int).toNat)=_;rw[Int.toNat_natCast,Int.toNat_natCast]
def tj:bu:=λds Q=>∃b c e n ps j,ds=[.kp (bg b) c e (bZ ps),.int j]/\Uo n ps/\0<=j/\Q (.own (e9 (ps.map (·.1)) b (ps.map (·.2)) j))
theorem Yh(ds:List D)(Q:B->Prop)(h:tj ds Q):FU d7 tF pz {nx:=λ_=>Q (.sh .aV),rt:=λb _=>Q b} (aL BK.length ds):=by
 obtain⟨b,c,e,n,ps,j,rfl,ok,hj,h⟩:=h;have hl:=ok.len;unfold FU;refine aj λN hN=>?_;symm;refine⟨⟨_,_,_,_,rfl⟩,⟨List.nodup_nil,(λ_ h=>h.elim),[.kp (bg b) c e (bZ ps)],rfl,bg b,c,e,n,ps,rfl,ok,.inl trivial,?_⟩⟩;symm;subst hN;symm;refine⟨⟨_,_,_,_,rfl⟩,⟨List.nodup_nil,(λ_ h=>h.elim),[.kp (bg b) c e (bZ ps)],rfl,bg b,c,e,n,ps,rfl,ok,.inl trivial,?_⟩⟩;symm;refine⟨.str (bg b),rfl,?_⟩;symm;refine⟨b,n,ps.map (·.2),j,rfl,ok.good,by rw[List.length_map];exact hl,hj,?_⟩
 obtain⟨qs,eq,hq,hqs⟩:=fH b (ps.map (·.2)) j
 have hzp:=oQ (b:=b) (pts:=ps.map (·.2)) (by rw[List.length_map];exact hl)
 rw[fG eq]at h;rw[eq];symm;refine dG (λp:Nat×Nat=>D.tup [.int (p.1:Nat),.int (p.2:Nat)]) (UL (ps.map (·.1))) qs (λp hp A ha=>?_) (by rw[sz];omega) ?_
 ·obtain⟨h1,h2⟩:=hqs p hp
  rw[List.length_map]at h2;walk_at "vg";symm;refine aW (n:=p.1) rfl (cA ⋯) (aW (n:=p.2) rfl (cA h2) ?_)
  symm;exact⟨by decide,ha⟩
 ·exact h
theorem fJ(k:Str)(v:V):∀l:List (Str×V),(cS k v l).length<=l.length+1
 | []=>Nat.le_refl _
 | (g,x)::r=>by
  have:=fJ k v r;unfold cS
  split
  ·simp
  ·simp only[List.length_cons];omega
def tf:GH:=λds Q=>∃b c,ds=[cU b,.int c]/\1<=c/\c<=3/\Q (bg b) c
theorem QW(ds:List D)(Q:Str->Int->Prop)(h:tf ds Q)(a dx:Addr):T1 iP nA {nx:=inQ a dx Q,rt:=λ_ _=>False} (kN LD.length a dx ds):=by
 obtain⟨b,c,rfl,h1,h2,h⟩:=h;unfold T1 cU;refine aj λN hN=>?_;symm;refine⟨c,rfl,h1,h2,?_⟩;symm;subst hN;refine aj λN hN=>?_;symm;refine⟨b,rfl,?_⟩;symm;subst hN;symm;refine⟨a,dx,[],.str (bg b),rfl,rfl,by simp [cS],?_⟩
 symm;refine⟨a,dx,_,.int c,rfl,rfl,by simp [cS],?_⟩
 symm;refine⟨a,dx,_,rfl,by have h1:=fJ (Str.ofString "count") (.int c) (cS (Str.ofString "way") (.str (bg b)) []);have h2:=fJ (Str.ofString "way") (.str (bg b)) [];exact Nat.lt_of_le_of_lt h1 (by have:(cS (Str.ofString "way") (V.str (bg b)) []).length<=1:=h2;omega),λad=>?_⟩
 symm;refine⟨a,dx,ad,_,bg b,c,rfl,by have h0:=fJ (Str.ofString "points_by_name") (.ref ad) (cS (Str.ofString "count") (.int c) (cS (Str.ofString "way") (.str (bg b)) []));have h1:=fJ (Str.ofString "count") (.int c) (cS (Str.ofString "way") (.str (bg b)) []);have h2:(cS (Str.ofString "way") (V.str (bg b)) []).length<=1:=fJ (Str.ofString "way") (.str (bg b)) [];exact Nat.lt_of_le_of_lt h0 ⋯,rfl,?_⟩
 exact⟨ad,bg b,c,rfl,h⟩
def tI:jx:=λbs Q=>∃(a dx ad:Addr) (b:Bool) (c e:Int) (n:Nat) (ps:List (Int×List Int)) (p:List Int),bs=[.obj (fy a dx ad (bg b) c e (bZ ps)),.sh (fR p)]/\(p.length:Int)=c/\ps.length<1000/\(∀q∈ps,q.1<e)/\Q (.sh (.int e)) [.obj (fy a dx ad (bg b) c (e+1) (bZ (ps++[(e,p)]))),.sh (fR p)]
theorem vC{ps:List (Int×List Int)}{e:Int}{p:List Int}(h:∀q∈ps,q.1<e):xB (bZ ps) e (fR p)=bZ (ps++[(e,p)]):=by
 unfold xB;rw[if_neg (by
  rw[List.any_eq_true];rintro⟨x,hx,hd⟩;unfold bZ at hx;obtain⟨q,hq,rfl⟩:=List.mem_map.mp hx;have:=h q hq;have:=of_decide_eq_true hd;have:q.1=e:=this;omega)]
 unfold bZ;rw[List.map_append];rfl
theorem Ig(bs:List B)(Q:B->List B->Prop)(h:tI bs Q)(i:Nat)(xs:List D)(e:bs[i]?=some (.own xs)):i∈[0]:=by
 obtain⟨a,dx,ad,b,c,e',n,ps,p,rfl,_⟩:=h;exact xE 1 rfl e
theorem Yn(bs:List B)(Q:B->List B->Prop)(h:tI bs Q):FY tE {nx:=wR bs Q (.sh .aV),rt:=λb σ=>wR bs Q b σ} (cJ uB.length bs):=by
 obtain⟨a,dx,ad,b,c,e,n,ps,p,rfl,hp,hl,jn,h⟩:=h;unfold FY;refine aj λN hN=>?_;symm;refine⟨.int c,rfl,?_⟩;symm;refine⟨p,c,rfl,hp,?_⟩;symm;subst hN;refine aj λN hN=>?_;symm;refine⟨.int e,rfl,?_⟩;symm;subst hN;refine aj λN hN=>?_;symm;refine⟨⟨a,dx,ad,_,c,e,_,rfl⟩,a,dx,ad,_,c,e,_,rfl,by unfold bZ;rw[List.length_map,sz];omega,?_⟩
 rw[vC jn];subst hN;refine aj λN hN=>?_;symm;refine⟨a,dx,ad,_,c,e,_,rfl,?_⟩;subst hN;symm;exact⟨[.obj (fy a dx ad (bg b) c (e+1) (bZ (ps++[(e,p)]))),.sh (fR p)],.obj rfl rfl (λz=>nomatch z) (.sh _ .nil),⟨rfl,trivial⟩,h⟩
def nB:jx:=λbs Q=>∃(a dx ad:Addr) (w:Str) (c e i:Int) (kvs:List (Int×D)),bs=[.obj (fy a dx ad w c e kvs),.sh (.int i)]/\(d2 kvs i).isSome=true/\Q (.sh .aV) [.obj (fy a dx ad w c e (i6 kvs i)),.sh (.int i)]
theorem Ie(bs:List B)(Q:B->List B->Prop)(h:nB bs Q)(i:Nat)(xs:List D)(e:bs[i]?=some (.own xs)):i∈[0]:=by
 obtain⟨a,dx,ad,w,c,e',j,kvs,rfl,_⟩:=h;exact xE 1 rfl e
theorem Rb(bs:List B)(Q:B->List B->Prop)(h:nB bs Q):FV v9 {nx:=wR bs Q (.sh .aV),rt:=λb σ=>wR bs Q b σ} (cJ uA.length bs):=by
 obtain⟨a,dx,ad,w,c,e,i,kvs,rfl,hi,h⟩:=h;unfold FV;refine aj λN hN=>?_;symm;refine⟨⟨_,w,c,e,kvs,rfl,rfl⟩,⟨List.nodup_nil,λ_ _=>trivial,[.kp w c e kvs,.int i],rfl,w,c,e,kvs,i,rfl,hi,.inr ⟨rfl,rfl⟩,?_⟩⟩;symm;subst hN;symm;refine⟨a,dx,ad,w,c,e,kvs,rfl,rfl,hi,?_⟩;exact⟨[.obj (fy a dx ad w c e (i6 kvs i)),.sh (.int i)],.obj rfl rfl (λz=>nomatch z) (.sh _ .nil),⟨rfl,trivial⟩,h⟩
theorem oi{P:Int->Prop}:∀(ds:List D) {n:Nat},ds.length=n->(∀d∈ds,∃v,d=.int v/\P v)->∃l:List Int,ds=l.map D.int/\l.length=n/\∀v∈l,P v
 | [],n,hn,_=>⟨[],rfl,hn,λv hv=>by cases hv⟩
 | d::ds,n,hn,h=>by
  obtain⟨v,rfl,hv⟩:=h d (List.mem_cons_self ..);obtain⟨l,e,hl,hf⟩:=oi ds (n:=ds.length) rfl λx hx=>h x (List.mem_cons_of_mem _ hx);refine⟨v::l,by rw[e];rfl,by simpa [hl]using hn,λx hx=>?_⟩
  rcases List.mem_cons.mp hx with rfl|hx
  ·exact hv
  ·exact hf x hx
structure jy(n:Nat)(ps:List (Int×List Int)):Prop where
 n1:1<=n
 n3:n<=3
 pt:∀q∈ps,q.2.length=n/\∀v∈q.2,Bt v
 inc:(ps.map (·.1)).Pairwise λx y:Int=>x<y
 len:ps.length<=1000
theorem jy.ok{n:Nat}{ps:List (Int×List Int)}(h:jy n ps):Uo n ps:=⟨⟨⟨h.n1,h.n3⟩,λp hp=>by
 obtain⟨q,hq,rfl⟩:=List.mem_map.mp hp;refine⟨(h.pt q hq).1,λx hx=>?_⟩;have:=(h.pt q hq).2 x hx;unfold Bt at this;omega⟩,h.inc,h.len⟩
theorem sr(ps:List (Int×List Int)):(bZ ps).length=ps.length:=List.length_map ..
def zc(m:Nat):D->Prop
 | .aV=>True
 | .tup (.int _::r)=>r.length<=1000/\∀d∈r,∃k:Nat,d=.int k/\k<m
 | _=>False
theorem dj(a b:Int):gw (.int a) (.int b)=decide (a=b):=Di a b
theorem K3{ks:List Int}(h:ks.Pairwise λx y:Int=>x<y){i j:Nat}(lC:i<j)(hj:j<ks.length):ks.getD i 0<ks.getD j 0:=by
 rw[List.getD_eq_getElem?_getD,List.getD_eq_getElem?_getD,List.getElem?_eq_getElem hj,List.getElem?_eq_getElem (show i<ks.length by omega)]
 exact List.pairwise_iff_getElem.mp h i j ⋯ hj lC
theorem Ee{ks:List Int}(h:ks.Pairwise λx y:Int=>x<y){i j:Nat}(hi:i<ks.length)(hj:j<ks.length):(ks.getD i 0=ks.getD j 0 ↔ i=j)/\(ks.getD i 0<ks.getD j 0 ↔ i<j):=by
 rcases Nat.lt_trichotomy i j with h1|h1|h1
 ·have:=K3 h h1 hj
  exact⟨⟨λz=>by omega,λz=>by omega⟩,⟨λ_=>h1,λ_=>this⟩⟩
 ·subst h1
  exact⟨⟨λ_=>rfl,λ_=>rfl⟩,⟨λz=>by omega,λz=>by omega⟩⟩
 ·have:=K3 h h1 hi
  exact⟨⟨λz=>by omega,λz=>by omega⟩,⟨λz=>by omega,λz=>by omega⟩⟩
theorem lL{ks:List Int}(h:ks.Pairwise λx y:Int=>x<y):∀(r s:List Nat),(∀k∈r,k<ks.length)->(∀k∈s,k<ks.length)->HT.lexLt (r.map λk=>ks.getD k 0) (s.map λk=>ks.getD k 0)=HT.lexLt (r.map λk:Nat=>(k:Int)) (s.map λk:Nat=>(k:Int))
 | [],[],_,_=>rfl
 | [],_::_,_,_=>rfl
 | _::_,[],_,_=>rfl
 | x::r,y::s,hr,hs=>by
  have ih:=lL h r s (λk hk=>hr k (List.mem_cons_of_mem _ hk)) λk hk=>hs k (List.mem_cons_of_mem _ hk);obtain⟨c1,c2⟩:=Ee h (hr x (List.mem_cons_self ..)) (hs y (List.mem_cons_self ..));simp only[List.map_cons,HT.b9,ih]
  by_cases e:x=y
  ·rw[if_pos (c1.mpr e),if_pos ⋯]
  ·rw[if_neg (λz=>e (c1.mp z)),if_neg ⋯]
   by_cases l:x<y
   ·rw[decide_eq_true (c2.mpr l),decide_eq_true ⋯]
   ·rw[decide_eq_false (λz=>l (c2.mp z)),decide_eq_false ⋯]
def GZ(f:Int)(r:List Nat):D:=.tup (.int f::r.map λk:Nat=>D.int k)
theorem vM(ks:List Int)(f:Int)(r:List Nat):a8 ks (GZ f r)=.tup (.int f::r.map λk=>.int (ks.getD k 0)):=by
 show D.tup (.int f::(r.map λk:Nat=>D.int k).map (nmV ks))=_;rw[List.map_map];rfl
theorem qJ{ks:List Int}(h:ks.Pairwise λx y:Int=>x<y){f g:Int}{r s:List Nat}(hr:∀k∈r,k<ks.length)(hs:∀k∈s,k<ks.length):ltI (a8 ks (GZ f r)) (a8 ks (GZ g s))=ltI (GZ f r) (GZ g s):=by
 rw[vM,vM];show HT.lexLt (f::(r.map λk=>D.int (ks.getD k 0)).map lF) (g::(s.map λk=>D.int (ks.getD k 0)).map lF)=HT.lexLt (f::(r.map λk:Nat=>D.int k).map lF) (g::(s.map λk:Nat=>D.int k).map lF);rw[d3,d3,d3,d3,HT.b9,HT.b9,lL h r s hr hs]
theorem fold_map{φ:D->D}:∀(l:List D) (b:D),(∀x∈b::l,∀y∈b::l,ltI (φ x) (φ y)=ltI x y)->(l.map φ).foldl (λb y=>if ltI y b=true then y else b) (φ b)=φ (l.foldl (λb y=>if ltI y b=true then y else b) b)
 | [],b,_=>rfl
 | y::l,b,h=>by
  rw[List.map_cons,List.foldl_cons,List.foldl_cons,h y (by simp) b (by simp)]
  by_cases e:ltI y b=true
  ·rw[if_pos e,if_pos e]
   exact fold_map l y λx hx z hz=>h x (List.mem_cons_of_mem _ hx) z (List.mem_cons_of_mem _ hz)
  ·rw[if_neg e,if_neg e]
   refine fold_map l b λx hx z hz=>h x ?_ z ?_
   ·rcases List.mem_cons.mp hx with rfl|hx
    ·simp
    ·simp [hx]
   ·rcases List.mem_cons.mp hz with rfl|hz
    ·simp
    ·simp [hz]
theorem uK{φ:D->D}{l:List D}(h:∀x∈l,∀y∈l,ltI (φ x) (φ y)=ltI x y):fC (l.map φ)=(fC l).map φ:=by
 cases l with
 | nil=>rfl
 | cons b l=>exact congrArg some (fold_map l b h)
theorem getD_map{ks:List Int}(o:Option D):(o.map (a8 ks)).getD .aV=a8 ks (o.getD .aV):=by cases o<;>rfl
theorem zh(b:Bool)(pts:List (List Int))(i j:Nat):pairD b pts i j=GZ (iT b (pts.getD i []) (pts.getD j [])) [i,j]:=rfl
theorem Be{ks:List Int}{b:Bool}{pts:List (List Int)}(h:ks.Pairwise λx y:Int=>x<y)(hl:ks.length=pts.length):(fC ((cC b pts).map (a8 ks))).getD .aV=a8 ks (pH b pts):=by
 unfold pH;rw[uK,getD_map];intro x hx y hy;obtain⟨i,j,h1,h2,rfl⟩:=ck hx;obtain⟨i',j',h3,h4,rfl⟩:=ck hy;rw[zh,zh];refine qJ h ?_ ?_
 ·intro k hk
  simp only[List.mem_cons,List.not_mem_nil,or_false]at hk;omega
 ·intro k hk
  simp only[List.mem_cons,List.not_mem_nil,or_false]at hk;omega
theorem xJ{ks:List Int}{b:Bool}{pts:List (List Int)}{k:Nat}(h:ks.Pairwise λx y:Int=>x<y)(hl:ks.length=pts.length):fC (((others pts.length k).map (er b pts (pts.getD k []))).map (a8 ks))=(fC ((others pts.length k).map (er b pts (pts.getD k [])))).map (a8 ks):=by
 refine uK λx hx y hy=>?_;obtain⟨i,h1,rfl⟩:=List.mem_map.mp hx;obtain⟨j,h2,rfl⟩:=List.mem_map.mp hy;have h1:=iH h1;have h2:=iH h2;show ltI (a8 ks (GZ _ [i])) (a8 ks (GZ _ [j]))=ltI (GZ _ [i]) (GZ _ [j]);refine qJ h ?_ ?_
 ·intro k hk;rw[List.mem_singleton.mp hk];omega
 ·intro k hk;rw[List.mem_singleton.mp hk];omega
theorem vO(ks:List Int)(b:Bool)(pts:List (List Int))(j:Int):((cC b pts).map (a8 ks)).filterMap (nearF j)=e9 ks b pts j:=by
 unfold e9 ja;rw[List.filterMap_map,List.map_filterMap];have cg:∀(l:List D) (f g:D->Option D),(∀d∈l,f d=g d)->l.filterMap f=l.filterMap g:=by
  intro l f g
  induction l with
  | nil=>intro _;rfl
  | cons d l ih =>
   intro h;rw[List.filterMap_cons,List.filterMap_cons,h d (List.mem_cons_self ..),ih λx hx=>h x (List.mem_cons_of_mem _ hx)]
 refine cg _ _ _ λd hd=>?_;obtain⟨p,q,_,_,rfl⟩:=ck hd;show(if iT b (pts.getD p []) (pts.getD q [])<=j then some (D.tup [.int (ks.getD p 0),.int (ks.getD q 0)])else none)=Option.map _ (if iT b (pts.getD p []) (pts.getD q [])<=j then some (D.tup [.int (p:Nat),.int (q:Nat)])else none)
 split<;>rfl
theorem sC{ks:List Int}{b:Bool}{pts:List (List Int)}{j:Int}(h:ks.Pairwise λx y:Int=>x<y)(hl:ks.length=pts.length):(e9 ks b pts j).Pairwise λx y=>mG x y=true:=by
 obtain⟨qs,e,_,hq⟩:=fH b pts j;rw[fG e];have hs:=vN b pts j;rw[e,List.pairwise_map]at hs;rw[List.pairwise_map];refine List.Pairwise.imp_of_mem (λ{x y} hx hy UG=>?_) hs;have a1:=hq x hx;have a2:=hq y hy;unfold mG at UG ⊢;have:=lL h [y.1,y.2] [x.1,x.2] (by intro k hk;simp only[List.mem_cons,List.not_mem_nil,or_false]at hk;omega) (by intro k hk;simp only[List.mem_cons,List.not_mem_nil,or_false]at hk;omega)
 show(!HT.lexLt [ks.getD y.1 0,ks.getD y.2 0] [ks.getD x.1 0,ks.getD x.2 0])=true;rw[show HT.lexLt [ks.getD y.1 0,ks.getD y.2 0] [ks.getD x.1 0,ks.getD x.2 0]=_ from this]
 exact UG
theorem xI(ks:List Int)(b:Bool)(pts:List (List Int))(j:Int):(e9 ks b pts j).all fq=true:=by
 obtain⟨qs,e,_,_⟩:=fH b pts j;rw[fG e,List.all_map];exact List.all_eq_true.mpr λ_ _=>rfl
theorem oH(ks:List Int)(b:Bool)(pts:List (List Int)):((cC b pts).map (a8 ks)).all fq=true:=List.all_eq_true.mpr λd hd=>by
 obtain⟨x,hx,rfl⟩:=List.mem_map.mp hd;obtain⟨p,q,_,_,rfl⟩:=ck hx;rfl
theorem qk{α:Type}{g:p7}{tc:TB}{te:TD}{gD:Sd}{Q:List D->Prop}{items:List D}(gi:α->D)(f:α->Option D)(l:List α)(he:items=l.map gi)
  (h:∀a∈l,∀(A:D->Prop) (Bn:Prop),(match f a with|some d=>A d|none=>Bn)->g (gi a) gD λax=>tc ax λb aO=>if b=true then te aO λd iu=>oA gD iu/\A d else oA gD aO/\Bn)
  (hl:l.length<=sizeLine) (q:Q (l.filterMap f)):eN g tc te gD items [] Q:=by
 subst he;exact jF gi f l h hl q
theorem qL(ps:List (Int×List Int)):(ps.map (·.1)).map D.int=(List.range ps.length).map λk=>.int ((ps.map (·.1)).getD k 0):=by
 apply List.ext_getElem?;intro i
 by_cases h:i<ps.length
 ·rw[<- cz,cA h,List.getElem?_map,List.getElem?_range h];rfl
 ·rw[List.getElem?_eq_none (by simpa using h),List.getElem?_eq_none (by simpa using h)]
theorem gT{ps:List (Int×List Int)}{k:Nat}(h:(ps.map (·.1)).Pairwise λx y:Int=>x<y)(hk:k<ps.length):d2 (bZ ps) ((ps.map (·.1)).getD k 0)=some (fR ((ps.map (·.2)).getD k [])):=by
 have:=nr h (List.getElem?_eq_getElem hk);rw[List.getD_eq_getElem?_getD,List.getElem?_map,List.getElem?_eq_getElem hk,List.getD_eq_getElem?_getD,List.getElem?_map,List.getElem?_eq_getElem hk];exact this
theorem jG{n:Nat}{ps:List (Int×List Int)}{k:Nat}(kf:jy n ps)(hk:k<ps.length):(ps.map (·.2)).getD k []∈ps.map (·.2)/\((ps.map (·.2)).getD k []).length<=3/\∀v∈(ps.map (·.2)).getD k [],Bt v:=by
 have e:(ps.map (·.2)).getD k []=ps[k].2:=by rw[List.getD_eq_getElem?_getD,List.getElem?_map,List.getElem?_eq_getElem hk];rfl
 rw[e];have:=kf.pt ps[k] (List.getElem_mem _);have h3:=kf.n3;exact⟨List.mem_map.mpr ⟨_,List.getElem_mem _,rfl⟩,by omega,this.2⟩
def m9(u:Int×Int×Int):D:=.tup [.int u.1,.int u.2.1,.int u.2.2]
theorem Gi:∀l:List D,(∀d∈l,∃u,d=m9 u)->∃us:List (Int×Int×Int),l=us.map m9
 | [],_=>⟨[],rfl⟩
 | d::l,h=>by
  obtain⟨u,rfl⟩:=h d (List.mem_cons_self ..);obtain⟨us,e⟩:=Gi l λx hx=>h x (List.mem_cons_of_mem _ hx);exact⟨u::us,by rw[e];rfl⟩
theorem AI(bound:Int)(t:Int×Int×Int):nearF bound (m9 t)=if decide (t.1<=bound)=true then some (.tup [.int t.2.1,.int t.2.2])else none:=by
 show(if t.1<=bound then _ else _)=_
 by_cases h:t.1<=bound
 ·rw[if_pos h,if_pos (decide_eq_true h)]
 ·rw[if_neg h,if_neg (by rw[decide_eq_false h];decide)]
def gQ:D->Prop
 | .aV=>True
 | .tup r=>∃ns:List Int,r=ns.map D.int
 | _=>False
theorem ni{d:D}(h:gQ d):gw d d=true:=by
 unfold gQ at h
 split at h
 ·rfl
 ·obtain⟨ns,rfl⟩:=h
  exact lr ns
 ·exact h.elim
theorem fV{d:D}{m:Nat}(h:gQ d):bO (m+2) d=true:=by
 unfold gQ at h
 split at h
 ·rfl
 ·obtain⟨ns,rfl⟩:=h
  show(ns.map D.int).all (bO (m+1))=true;rw[List.all_map];exact List.all_eq_true.mpr λ_ _=>rfl
 ·exact h.elim
theorem vq:∀ {ds:List D},(∀d∈ds,gQ d)->lq ds ds=true
 | [],_=>rfl
 | d::ds,h=>by
  show(gw d d&&lq ds ds)=true;rw[ni (h d (List.mem_cons_self ..)),vq λx hx=>h x (List.mem_cons_of_mem _ hx)];rfl
theorem vt{ds:List D}(h:∀d∈ds,gQ d):bO 8 (.lst ds)=true:=by
 show ds.all (bO 7)=true;exact List.all_eq_true.mpr λd hd=>fV (m:=5) (h d hd)
theorem Es{ns:List Int}:∀(r:List D),(∀d∈r,∃k:Nat,d=.int k/\k<ns.length)->∃ms:List Int,r.map (nmV ns)=ms.map D.int
 | [],_=>⟨[],rfl⟩
 | d::r,h=>by
  obtain⟨k,rfl,_⟩:=h d (List.mem_cons_self ..);obtain⟨ms,e⟩:=Es r λx hx=>h x (List.mem_cons_of_mem _ hx);exact⟨ns.getD k 0::ms,by rw[List.map_cons,e];rfl⟩
theorem nX{ns:List Int}{d:D}(h:zc ns.length d):gQ (a8 ns d):=by
 unfold zc at h
 split at h
 ·trivial
 ·rename_i f r
  obtain⟨ms,e⟩:=Es r h.2;refine⟨f::ms,?_⟩;rw[e];rfl
 ·exact h.elim
theorem JG(b:Bool)(pts:List (List Int)):zc pts.length (pH b pts):=by
 rcases zU b pts with h|⟨p,q,h1,h2,h3⟩
 ·rw[h];trivial
 ·rw[h3]
  refine⟨by simp,λd hd=>?_⟩
  simp only[List.mem_cons,List.not_mem_nil,or_false]at hd;rcases hd with rfl|rfl
  ·exact⟨p,rfl,by omega⟩
  ·exact⟨q,rfl,h2⟩
theorem Er(b:Bool)(pts:List (List Int))(i:Nat)(hi:i<pts.length):zc pts.length (gA b pts i):=by
 rcases zb b pts i hi with h|⟨f,k,h1,h2⟩
 ·rw[h];trivial
 ·rw[h2]
  refine⟨by simp,λd hd=>?_⟩
  simp only[List.mem_cons,List.not_mem_nil,or_false]at hd;subst hd;exact⟨k,rfl,h1⟩
theorem nU:∀(n:Nat) (x:D),bO n x=true->gw x x=true
 | _,.aV,_=>rfl
 | _,.bl b,_=>by simp [gw]
 | _,.int i,_=>by simp [gw]
 | _,.str s,_=>by simp [gw]
 | 0,.tup _,h=>by simp [bO]at h
 | 0,.lst _,h=>by simp [bO]at h
 | n+1,.tup xs,h=>by
  have h':xs.all (bO n)=true:=h;show lq xs xs=true
  induction xs with
  | nil=>rfl
  | cons x r ih =>
   rw[List.all_cons,Bool.and_eq_true]at h';show(gw x x&&lq r r)=true;rw[nU n x h'.1,ih (by show r.all (bO n)=true;exact h'.2) h'.2];rfl
 | n+1,.lst xs,h=>by
  have h':xs.all (bO n)=true:=h;show lq xs xs=true
  induction xs with
  | nil=>rfl
  | cons x r ih =>
   rw[List.all_cons,Bool.and_eq_true]at h';show(gw x x&&lq r r)=true;rw[nU n x h'.1,ih (by show r.all (bO n)=true;exact h'.2) h'.2];rfl
 | 0,.dct _,h=>by simp [bO]at h
 | 0,.exc _,h=>by simp [bO]at h
 | 0,.iL _,h=>by simp [bO]at h
 | n+1,.dct _,h=>by simp [bO]at h
 | n+1,.exc _,h=>by simp [bO]at h
 | n+1,.iL _,h=>by simp [bO]at h
 | _,.gv _,h=>by simp [bO]at h
 | _,.kp ..,h=>by simp [bO]at h
def cD:nF:=λds E=>∃w c e kvs i,ds=[.kp w c e kvs,.int i]/\d2 kvs i=none/\E "NoPlace"
theorem abp(ds:List D)(Q:B->Prop)(E:Str->Prop)(h:cD ds E):cw (λc _=>E c) {nx:=λ_=>Q (.sh .aV),rt:=λb _=>Q b} (aL BW.length ds):=by
 obtain⟨w,c,e,kvs,i,rfl,hi,h⟩:=h;unfold cw;symm;rw[hi];exact(if_pos rfl).mpr ⟨by decide,h⟩
theorem Ui(ds:List D)(Q:B->Prop)(E:Str->Prop)(h:cD ds E):dU (λc _=>E c) cD {nx:=λ_=>Q (.sh .aV),rt:=λb _=>Q b} (aL uA.length ds):=by
 obtain⟨w,c,e,kvs,i,rfl,hi,h⟩:=h;unfold dU;refine aj λN hN=>?_;symm;exact⟨⟨_,_,_,_,rfl⟩,w,c,e,kvs,i,rfl,hi,h⟩
theorem x_point(ds:List D)(Q:B->Prop)(E:Str->Prop)(h:cD ds E):dt (λc _=>E c) cD {nx:=λ_=>Q (.sh .aV),rt:=λb _=>Q b} (aL uy.length ds):=by
 obtain⟨w,c,e,kvs,i,rfl,hi,h⟩:=h;unfold dt;refine aj λN hN=>?_;symm;exact⟨⟨_,_,_,_,rfl⟩,w,c,e,kvs,i,rfl,hi,h⟩
theorem Ug(ds:List D)(Q:B->Prop)(E:Str->Prop)(h:cD ds E):cP (λc _=>E c) cD {nx:=λ_=>Q (.sh .aV),rt:=λb _=>Q b} (aL BX.length ds):=by
 obtain⟨w,c,e,kvs,i,rfl,hi,h⟩:=h;unfold cP;refine aj λN hN=>?_;symm;exact⟨⟨_,_,_,_,rfl⟩,w,c,e,kvs,i,rfl,hi,h⟩
def kH:Bh:=λds _ E=>∃(p:List Int) (c:Int),ds=[fR p,.int c]/\(p.length:Int)≠c/\E "NoPoints"
theorem Zt(ds:List D)(Q:B->Prop)(E:Str->Prop)(h:kH ds Q E):bK (λc _=>E c) {nx:=λ_=>Q (.sh .aV),rt:=λb _=>Q b} (aL Bv.length ds):=by
 obtain⟨p,c,rfl,hp,h⟩:=h;unfold bK;rw[show fR p=.tup (p.map D.int)from rfl]
 symm;refine⟨⟨rfl,rfl⟩,?_⟩;rw[List.length_map,dj,decide_eq_false hp];exact(if_pos rfl).mpr ⟨by decide,h⟩
def tJ:nF:=λds E=>∃w c e kvs p,ds=[.kp w c e kvs,fR p]/\(p.length:Int)≠c/\E "NoPoints"
theorem Zu(ds:List D)(Q:B->Prop)(E:Str->Prop)(h:tJ ds E):eF (λc _=>E c) kH {nx:=λ_=>Q (.sh .aV),rt:=λb _=>Q b} (aL uB.length ds):=by
 obtain⟨w,c,e,kvs,p,rfl,hp,h⟩:=h;unfold eF;refine aj λN hN=>?_;symm;refine⟨.int c,rfl,?_⟩;symm;exact⟨p,c,rfl,hp,h⟩
def flD(c:Str):D:=.tup [.bl (m8 c "NoPlace"),.bl (m8 c "NoPoints"),.bl true]
def yc:bu:=λds Q=>∃c,ds=[.exc c]/\c∈XL/\Q (.sh (flD c))
theorem Yi(ds:List D)(Q:B->Prop)(h:yc ds Q):FW {nx:=λ_=>Q (.sh .aV),rt:=λb _=>Q b} (aL BL.length ds):=by
 obtain⟨c,rfl,hc,h⟩:=h;unfold FW;symm;exact⟨hc,hc,hc,by decide,h⟩
def tD:bu:=λds Q=>∃w c e kvs d dr,ds=[.kp w c e kvs,d,.int dr]/\((dr=3/\(∃p,d=fR p/\(p.length:Int)≠c)/\Q (.sh (.tup [.bl false,.bl true,.bl true])))\/(dr≠3/\0<=dr/\dr<=2/\(∃i,d=.int i/\d2 kvs i=none)/\Q (.sh (.tup [.bl true,.bl false,.bl true]))))
theorem Q0(ds:List D)(Q:B->Prop)(h:tD ds Q):FI cD cD cD tJ yc {nx:=λ_=>Q (.sh .aV),rt:=λb _=>Q b} (aL Bz.length ds):=by
 obtain⟨w,c,e,kvs,d,dr,rfl,h⟩:=h;unfold FI;refine aj λN hN=>?_;symm;subst hN;refine aj λN hN=>?_;have fin:∀x,x∈XL->Q (.sh (flD x))->(x∈XL/\m8 x "NearError"=true)/\N [some (.sh (.kp w c e kvs)),some (.sh d),some (.sh (.int dr)),some (.sh (.exc x)),none]:=by
  intro x hx q;refine⟨⟨hx,?_⟩,?_⟩
  ·simp only[XL,List.mem_cons,List.not_mem_nil,or_false]at hx
   rcases hx with rfl|rfl|rfl<;>decide
  subst hN;refine aj λN hN=>?_;symm;refine(if_neg ∅).mpr ?_
  subst hN;symm;refine⟨x,rfl,hx,?_⟩;symm;exact q
 symm;rw[dj,dj,dj];have nnx:(∃i,d=.int i/\d2 kvs i=none)->Q (.sh (.tup [.bl true,.bl false,.bl true]))->cD [.kp w c e kvs,d] λx=>(x∈XL/\m8 x "NearError"=true)/\N [some (.sh (.kp w c e kvs)),some (.sh d),some (.sh (.int dr)),some (.sh (.exc x)),none]:=by
  rintro⟨i,rfl,hi⟩ q;exact⟨w,c,e,kvs,i,rfl,hi,fin "NoPlace" ∅ q⟩
 rcases h with⟨h3,⟨p,rfl,hp⟩,q⟩|⟨h3,h0,h2,hi,q⟩
 ·subst h3
  exact⟨⟨rfl,rfl⟩,(if_neg ∅).mpr ⟨⟨rfl,rfl⟩,(if_neg ∅).mpr ⟨⟨rfl,rfl⟩,(if_neg ∅).mpr ⟨⟨_,_,_,_,rfl⟩,w,c,e,kvs,p,rfl,hp,fin "NoPoints" ∅ q⟩⟩⟩⟩
 ·refine⟨⟨rfl,rfl⟩,?_⟩
  by_cases d0:dr=0
  ·exact(if_pos (decide_eq_true d0)).mpr ⟨⟨_,_,_,_,rfl⟩,nnx hi q⟩
  refine(if_neg (by rw[decide_eq_false d0];decide)).mpr ⟨⟨rfl,rfl⟩,?_⟩
  by_cases d1:dr=1
  ·exact(if_pos (decide_eq_true d1)).mpr ⟨⟨_,_,_,_,rfl⟩,nnx hi q⟩
  refine(if_neg (by rw[decide_eq_false d1];decide)).mpr ⟨⟨rfl,rfl⟩,?_⟩
  exact(if_pos (decide_eq_true ⋯)).mpr ⟨⟨_,_,_,_,rfl⟩,nnx hi q⟩
theorem Ab{α:Type}{xs:List α}{n:Nat}(h:n<=xs.length):cut xs (some (n:Int)) none=xs.drop n:=by
 unfold cut;rw[HT.Fm,HT.Jp,Nat.min_eq_left h,List.take_of_length_le (by rw[List.length_drop];omega)]
theorem El(ks:List Int)(b:Bool)(pts:List (List Int))(a m:Nat):(d6 b pts a).map (a8 ks)++(iV b pts a (m+1)).map (a8 ks)=(d6 b pts a).map (a8 ks)++(iV b pts a m).map (a8 ks)++[a8 ks (pairD b pts a (a+1+m))]:=by
 rw[lR,List.map_append,List.append_assoc];rfl
def zp(ks:List Int)(b:Bool)(pts:List (List Int)):List D:=ie ((cC b pts).map (a8 ks))
def tB:bu:=λds Q=>∃b n ps,ds=[.gv (bZ ps),cU b]/\jy n ps/\Q (.own (zp (ps.map (·.1)) b (ps.map (·.2))))
theorem QZ(ds:List D)(Q:B->Prop)(h:tB ds Q):FX zK {nx:=λ_=>Q (.sh .aV),rt:=λb _=>Q b} (aL BM.length ds):=by
 obtain⟨b,n,ps,rfl,kf,h⟩:=h;have ok:=kf.ok;have hl:=kf.len;have Ap:(ps.map (·.2)).length=ps.length:=List.length_map ..
 have KU:(ps.map (·.1)).length=ps.length:=List.length_map ..
 unfold FX;refine aj λN hN=>?_;symm;rw[iD,dN kf.inc];subst hN;refine aj λN hN=>?_;symm;refine⟨by decide,?_⟩
 subst hN;refine aj λN hN=>?_;show dc _ _ _ _ _;generalize ht:dc (dm _) _ _=tb;symm;rw[List.length_map,KU,Int.toNat_natCast,d5];refine⟨by omega,eC (λi:Nat=>.int (0+(i:Nat))) (List.range ps.length) (λi σ=>∃x4 x5,σ=[some (.sh (.gv (bZ ps))),some (.sh (cU b)),some (.own ((ps.map (·.1)).map D.int)),some (.own ((d6 b (ps.map (·.2)) i).map (a8 (ps.map (·.1))))),x4,x5]) (λi a σ N' hx hI DE=>?_) (λσ hI=>?_) ⟨none,none,rfl⟩⟩
 ·obtain⟨rfl,hi⟩:=dJ hx
  obtain⟨x4,x5,rfl⟩:=hI;walk_at "vg";subst ht;symm;have hdr:((ps.map (·.1)).map D.int).drop (a+1)=(List.range (ps.length-(a+1))).map λt=>D.int ((ps.map (·.1)).getD (a+1+t) 0):=by
   rw[qL,<- List.map_drop];apply List.ext_getElem?;intro i
   by_cases hb:a+1+i<ps.length
   ·rw[List.getElem?_map,List.getElem?_drop,List.getElem?_range hb,List.getElem?_map,List.getElem?_range ⋯];rfl
   ·rw[List.getElem?_eq_none (by simp;omega),List.getElem?_eq_none (by simp;omega)]
  rw[show((a:Int)+1)=((a+1:Nat):Int)by omega,Ab (by rw[List.length_map,KU];omega),hdr]
  obtain⟨m1,m2,m3⟩:=jG kf hi;have Oj:((ps.map (·.2)).getD a []).length=n:=gR ok.good (by rw[Ap];exact hi)
  refine eC (λt:Nat=>D.int ((ps.map (·.1)).getD (a+1+t) 0)) (List.range (ps.length-(a+1))) (λm σ=>∃x5,σ=[some (.sh (.gv (bZ ps))),some (.sh (cU b)),some (.own ((ps.map (·.1)).map D.int)),some (.own ((d6 b (ps.map (·.2)) a).map (a8 (ps.map (·.1)))++(iV b (ps.map (·.2)) a m).map (a8 (ps.map (·.1))))),some (.sh (.int a)),x5]) (λm t σ N2 um Oa GL=>?_) (λσ Oa=>?_) ⟨x5,by rw[show iV b (ps.map (·.2)) a 0=[]from rfl,List.map_nil,List.append_nil]⟩
  ·obtain⟨rfl,ht⟩:=dJ um
   obtain⟨x5,rfl⟩:=Oa;have hj:a+1+t<ps.length:=by omega
   obtain⟨a1,a2,a3⟩:=jG kf hj;have hgj:((ps.map (·.2)).getD (a+1+t) []).length=n:=gR ok.good (by rw[Ap];exact hj)
   walk_at "vg";symm;refine⟨⟨_,rfl⟩,?_⟩;refine aW (n:=a) rfl (by rw[<- cz];exact cA hi) ?_
   symm;refine⟨_,gT kf.inc hi,?_⟩;symm;refine⟨_,gT kf.inc hj,?_⟩;symm;refine⟨b,_,_,rfl,ok.good.bd m1,ok.good.bd a1,by rw[Oj,hgj],?_⟩
   symm;refine aW (n:=a) rfl (by rw[<- cz];exact cA hi) ?_
   symm;have hz:=sP (b:=b) (pts:=ps.map (·.2)) (i:=a) (by rw[Ap];exact hl) (by rw[Ap];omega)
   refine⟨by decide,by rw[sz,List.length_append,List.length_map,List.length_map,o3];omega,GL _ ⟨some (.sh (.int ((ps.map (·.1)).getD (a+1+t) 0))),?_⟩⟩
   rw[El];rfl
  ·obtain⟨x5,rfl⟩:=Oa
   rw[List.length_range];refine DE _ ⟨some (.sh (.int a)),x5,?_⟩;rw[show d6 b (ps.map (·.2)) (a+1)=d6 b (ps.map (·.2)) a++iV b (ps.map (·.2)) a ((ps.map (·.2)).length-(a+1))from rfl,List.map_append,Ap]
 ·obtain⟨x4,x5,rfl⟩:=hI
  subst hN;rw[List.length_range];symm;have e:d6 b (ps.map (·.2)) ps.length=cC b (ps.map (·.2)):=by unfold cC;rw[Ap]
  rw[e];exact⟨oH _ _ _,h⟩
theorem RQ{ks:List Int}{b:Bool}{pts:List (List Int)}(h:ks.Pairwise λx y:Int=>x<y)(hl:ks.length=pts.length):(zp ks b pts).head?.getD .aV=a8 ks (pH b pts):=by
 unfold zp;rw[<- lg (oH ks b pts),Be h hl]
theorem IY{ks:List Int}{b:Bool}{pts:List (List Int)}{j:Int}(h:ks.Pairwise λx y:Int=>x<y)(hl:ks.length=pts.length):((zp ks b pts).filterMap (nearF j)).all fq=true/\ie ((zp ks b pts).filterMap (nearF j))=e9 ks b pts j:=by
 have hp:((zp ks b pts).filterMap (nearF j)).Perm (e9 ks b pts j):=by
  rw[<- vO];exact(cM _).filterMap _
 have all:((zp ks b pts).filterMap (nearF j)).all fq=true:=List.all_eq_true.mpr λd hd=>List.all_eq_true.mp (xI ks b pts j) d (hp.mem_iff.mp hd);exact⟨all,(vZ all hp.symm (sC h hl)).symm⟩
theorem E1(ks:List Int)(b:Bool)(pts:List (List Int)):∃us:List (Int×Int×Int),zp ks b pts=us.map m9/\∀u∈us,0<=u.1:=by
 obtain⟨us,e⟩:=Gi (zp ks b pts) λd hd=>by
  obtain⟨x,hx,rfl⟩:=List.mem_map.mp ((cM _).mem_iff.mp hd);obtain⟨i,j,_,_,rfl⟩:=ck hx;exact⟨(iT b (pts.getD i []) (pts.getD j []),ks.getD i 0,ks.getD j 0),rfl⟩
 refine⟨us,e,λu hu=>?_⟩;have hd:m9 u∈zp ks b pts:=by rw[e];exact List.mem_map.mpr ⟨u,hu,rfl⟩
 obtain⟨x,hx,ex⟩:=List.mem_map.mp ((cM _).mem_iff.mp hd);obtain⟨i,j,_,_,rfl⟩:=ck hx;have ex:D.tup [.int (iT b (pts.getD i []) (pts.getD j [])),.int (ks.getD i 0),.int (ks.getD j 0)]=m9 u:=ex;unfold m9 at ex
 injection ex with ex
 injection ex with e1 _
 injection e1 with e1
 rw[<- e1];exact Nz ..
theorem RP(ks:List Int)(b:Bool)(pts:List (List Int))(hl:pts.length<=1000):(zp ks b pts).length<=1000000:=by
 unfold zp;have:=oQ (b:=b) hl;rw[(cM _).length_eq,List.length_map];exact this
def tu:bu:=λds Q=>∃(b:Bool) (c e:Int) (n:Nat) (ps:List (Int×List Int)) (w:Int) (vs:List Int),ds=[.kp (bg b) c e (bZ ps),.gv (bZ ps),cU b,.int w,.lst (vs.map D.int)]/\jy n ps/\0<=w/\3<=vs.length/\nG vs/\Q (.sh (.bl true))
theorem QY(ds:List D)(Q:B->Prop)(h:tu ds Q):Gb tB tm tj d7 pv zK pj {nx:=λ_=>Q (.sh .aV),rt:=λb _=>Q b} (aL BU.length ds):=by
 obtain⟨b,c,e,n,ps,w,vs,rfl,kf,hw,nZ,hv,h⟩:=h;have ok:=kf.ok;have hl:=kf.len;have Ap:(ps.map (·.2)).length=ps.length:=List.length_map ..
 have KU:(ps.map (·.1)).length=ps.length:=List.length_map ..
 have D1:(ps.map (·.1)).length=(ps.map (·.2)).length:=by rw[KU,Ap]
 have de:=RP (ps.map (·.1)) b (ps.map (·.2)) (by rw[Ap];exact hl)
 unfold Gb;refine aj λN hN=>?_;symm;refine⟨b,n,ps,rfl,kf,?_⟩;symm;subst hN;refine aj λN hN=>?_;symm;refine⟨⟨rfl,rfl⟩,?_⟩;rw[dj]
 by_cases w0:w=0
 ·refine(if_pos (decide_eq_true w0)).mpr ?_
  refine⟨⟨_,_,_,_,rfl⟩,⟨List.nodup_nil,(λ_ h=>h.elim),[.kp (bg b) c e (bZ ps)],rfl,b,c,e,n,ps,rfl,ok,.inl trivial,?_⟩⟩;symm;refine⟨by decide,by rw[sz];omega,aW (n:=0) rfl (d:=a8 (ps.map (·.1)) (pH b (ps.map (·.2)))) ?_ ?_⟩
  ·rw[<- RQ kf.inc D1]
   cases zp (ps.map (·.1)) b (ps.map (·.2))<;>rfl
  ·have f2:gQ (a8 (ps.map (·.1)) (pH b (ps.map (·.2)))):=nX (by rw[D1];exact JG b _)
   refine⟨⟨fV (m:=6) f2,fV (m:=6) f2⟩,?_⟩;rw[ni f2];exact h
 refine(if_neg (by rw[decide_eq_false w0];decide)).mpr ?_
 subst hN;refine aj λN hN=>?_;show b6 _ (bS _ _) _ _ _;generalize ht1:bS (d8 [] 6 _) _=t1;symm;refine⟨⟨rfl,rfl⟩,?_⟩;rw[dj]
 by_cases w1:w=1
 ·refine(if_pos (decide_eq_true w1)).mpr ?_
  subst ht1;refine aj λN1 ly=>?_;have key:∀j:Int,0<=j->N1 [some (.sh (.kp (bg b) c e (bZ ps))),some (.sh (.gv (bZ ps))),some (.sh (cU b)),some (.sh (.int w)),some (.sh (.lst (vs.map D.int))),some (.own (zp (ps.map (·.1)) b (ps.map (·.2)))),some (.sh (.int j)),none,none]:=by
   intro j hj;subst ly;symm;refine⟨⟨_,_,_,_,rfl⟩,⟨List.nodup_nil,(λ_ h=>nomatch h),[.kp (bg b) c e (bZ ps),.int j],rfl,b,c,e,n,ps,j,rfl,ok,hj,.inl (by first|trivial|rfl),?_⟩⟩
   symm;obtain⟨fZ,Oy⟩:=IY (b:=b) (j:=j) kf.inc D1;obtain⟨us,eu,hu0⟩:=E1 (ps.map (·.1)) b (ps.map (·.2))
   rw[eu]at fZ Oy de;rw[List.length_map]at de;rw[List.filterMap_map]at fZ Oy;refine qk m9 (λt=>nearF j (m9 t)) us eu (λt ht A Bn ha=>?_) (by rw[sz];omega) ?_
   ·rw[AI]at ha
    unfold m9;walk_at "vg";symm
    by_cases hb:t.1<=j
    ·rw[if_pos hb]
     rw[if_pos (decide_eq_true hb)]at ha;exact⟨by decide,ha⟩
    ·rw[if_neg hb]
     rw[if_neg (by rw[decide_eq_false hb];decide)]at ha
     exact ha
   ·refine⟨fZ,?_⟩
    rw[show us.filterMap (λt=>nearF j (m9 t))=us.filterMap (nearF j ∘ m9)from rfl,Oy]
    obtain⟨qs,eq,_,_⟩:=fH b (ps.map (·.2)) j
    have fQ:∀d∈e9 (ps.map (·.1)) b (ps.map (·.2)) j,gQ d:=λd hd=>by
     rw[fG eq]at hd;obtain⟨p,hp,rfl⟩:=List.mem_map.mp hd;exact⟨[_,_],rfl⟩
    refine⟨⟨vt fQ,vt fQ⟩,?_⟩;rw[show gw (.lst _) (.lst _)=true from vq fQ]
    exact h
  obtain⟨us,eu,hu0⟩:=E1 (ps.map (·.1)) b (ps.map (·.2))
  rw[eu]at key de ⊢;rw[List.length_map]at de;symm;refine bQ (m:=vs.length) (j:=0) rfl hv ⋯ rfl λv0 WG h01=>?_
  symm;refine⟨by decide,by decide,by decide,by rw[List.length_map,sz];omega,?_⟩
  refine bQ (m:=vs.length) (j:=1) rfl hv ⋯ rfl λv1 ZK ZL=>?_
  symm;rw[List.length_map];have hm0:0<=v1%((us.length:Int)+1):=Int.emod_nonneg _ ⋯
  have ZQ:v1%((us.length:Int)+1)<(us.length:Int)+1:=Int.emod_lt_of_pos _ ⋯
  refine⟨by omega,eP hm0 (by rw[List.length_append,List.length_map,List.length_singleton];omega) λd hd=>?_⟩
  obtain⟨f,x,y,rfl,hf⟩:∃f x y:Int,d=.tup [.int f,.int x,.int y]/\0<=f:=by
   rcases List.mem_append.mp hd with hd|hd
   ·obtain⟨u,hu,rfl⟩:=List.mem_map.mp hd
    exact⟨_,_,_,rfl,hu0 u hu⟩
   ·exact⟨_,_,_,List.mem_singleton.mp hd,by decide⟩
  refine cy (n:=0) rfl rfl ⟨by decide,?_⟩
  refine bQ (m:=vs.length) (j:=2) rfl hv ⋯ rfl λv2 h20 h21=>?_
  symm;refine⟨by decide,eP ⋯ (by show v2%2<((2:Nat):Int);omega) λd hd=>?_⟩
  obtain⟨j,rfl,hj⟩:∃j:Int,d=.int j/\0<=j:=by
   simp only[List.mem_cons,List.not_mem_nil,or_false]at hd;rcases hd with rfl|rfl
   ·exact⟨_,rfl,by omega⟩
   ·exact⟨_,rfl,hf⟩
  exact key j hj
 refine(if_neg (by rw[decide_eq_false w1];decide)).mpr ?_
 subst hN;refine aj λN hN=>?_;symm;refine⟨⟨rfl,rfl⟩,?_⟩;rw[dj]
 by_cases w2:w=2
 ·refine(if_pos (decide_eq_true w2)).mpr ?_
  refine⟨⟨_,_,_,_,rfl⟩,⟨List.nodup_nil,(λ_ h=>h.elim),[.kp (bg b) c e (bZ ps)],rfl,bg b,c,e,n,ps,rfl,ok,.inl trivial,?_⟩⟩;symm;rw[iD,dN kf.inc,cz];refine⟨⟨om _,om _⟩,?_⟩;rw[show gw (.lst _) (.lst _)=true from lr _]
  exact h
 refine(if_neg (by rw[decide_eq_false w2];decide)).mpr ?_
 subst hN;refine aj λN hN=>?_;symm
 by_cases w4:4<w
 ·exact(if_pos w4).mpr h
 refine(if_neg w4).mpr ?_
 by_cases HN:ps=[]
 ·subst HN;exact(if_pos rfl).mpr h
 have HM:0<ps.length:=List.length_pos_iff.mpr HN;refine(if_neg (by cases ps with|nil=>exact absurd rfl HN|cons _ _=>exactλz=>nomatch z)).mpr ?_
 subst hN;refine aj λN hN=>?_;symm;rw[iD,dN kf.inc,sr];refine bQ (m:=vs.length) (j:=0) rfl hv ⋯ rfl λv0 WG h01=>?_
 symm;have hm0:0<=v0%(ps.length:Int):=Int.emod_nonneg _ ⋯
 have ZQ:v0%(ps.length:Int)<ps.length:=Int.emod_lt_of_pos _ ⋯
 obtain⟨k,hk⟩:∃k:Nat,v0%(ps.length:Int)=k:=⟨(v0%(ps.length:Int)).toNat,by omega⟩
 have vA:k<ps.length:=by omega
 refine⟨by omega,aW (n:=k) hk (by rw[<- cz];exact cA vA) ?_⟩
 have KS:(ps.map (·.1))[k]?=some ((ps.map (·.1)).getD k 0):=by
  rw[List.getD_eq_getElem?_getD,List.getElem?_eq_getElem (by rw[KU];exact vA)];rfl
 have Ol:=gT kf.inc vA;generalize GQ:(ps.map (·.1)).getD k 0=nm at KS Ol
 subst hN;refine aj λN hN=>?_;symm;refine⟨⟨rfl,rfl⟩,?_⟩;rw[dj]
 by_cases w3:w=3
 ·refine(if_pos (decide_eq_true w3)).mpr ?_
  refine⟨⟨_,_,_,_,rfl⟩,⟨List.nodup_nil,(λ_ h=>nomatch h),[.kp (bg b) c e (bZ ps),.int nm],rfl,bg b,c,e,bZ ps,nm,_,rfl,Ol,.inl (by first|trivial|rfl),?_⟩⟩
  symm;refine⟨_,Ol,?_⟩;symm;have fp:gQ (fR ((ps.map (·.2)).getD k [])):=⟨_,rfl⟩
  refine⟨⟨fV (m:=6) fp,fV (m:=6) fp⟩,?_⟩;rw[ni fp];exact h
 refine(if_neg (by rw[decide_eq_false w3];decide)).mpr ?_
 subst hN;refine aj λN hN=>?_;symm;rw[iD,dN kf.inc];obtain⟨m1,m2,m3⟩:=jG kf vA;have hgk:((ps.map (·.2)).getD k []).length=n:=gR ok.good (by rw[Ap];exact vA)
 refine qk (λa:Nat=>D.int ((ps.map (·.1)).getD a 0)) (λa=>if decide ((a:Int)≠(k:Int))=true then some (a8 (ps.map (·.1)) (er b (ps.map (·.2)) ((ps.map (·.2)).getD k []) a))else none) (List.range ps.length) (qL ps) (λa ha A Bn hA=>?_) (by rw[List.length_range,sz];omega) ?_
 ·have ha:=List.mem_range.mp ha
  obtain⟨a1,a2,a3⟩:=jG kf ha;have Oj:((ps.map (·.2)).getD a []).length=n:=gR ok.good (by rw[Ap];exact ha)
  walk_at "vg";symm;refine⟨⟨rfl,rfl⟩,?_⟩;have hc:=(Ee kf.inc (show a<(ps.map (·.1)).length by rw[KU];exact ha) (show k<(ps.map (·.1)).length by rw[KU];exact vA)).1
  rw[<- GQ,dj];rw[<- GQ]at Ol
  by_cases e:a=k
  ·rw[if_neg (by rw[decide_eq_true (hc.mpr e)];decide)]
   rw[if_neg (by simp [e])]at hA
   exact hA
  ·rw[if_pos (by rw[decide_eq_false (λz=>e (hc.mp z))])]
   rw[if_pos (decide_eq_true ⋯)]at hA
   refine⟨_,Ol,?_⟩;symm;refine⟨_,gT kf.inc ha,?_⟩;symm;refine⟨b,_,_,rfl,ok.good.bd m1,ok.good.bd a1,by rw[hgk,Oj],?_⟩
   symm;exact⟨by decide,hA⟩
 rw[iB];have aaH:(List.range ps.length).filter (λa:Nat=>decide ((a:Int)≠(k:Int)))=others (ps.map (·.2)).length k:=by unfold others;rw[Ap]
 rw[aaH];have hmm:(others (ps.map (·.2)).length k).map (λa=>a8 (ps.map (·.1)) (er b (ps.map (·.2)) ((ps.map (·.2)).getD k []) a))=((others (ps.map (·.2)).length k).map (er b (ps.map (·.2)) ((ps.map (·.2)).getD k []))).map (a8 (ps.map (·.1))):=by rw[List.map_map];rfl
 rw[hmm];have hlen:=oO (ps.map (·.2)).length k
 have fZ:(((others (ps.map (·.2)).length k).map (er b (ps.map (·.2)) ((ps.map (·.2)).getD k []))).map (a8 (ps.map (·.1)))).all fq=true:=by
  rw[List.all_map,List.all_map];exact List.all_eq_true.mpr λ_ _=>rfl
 subst hN;symm;refine⟨⟨_,_,_,_,rfl⟩,⟨List.nodup_nil,(λ_ h=>nomatch h),[.kp (bg b) c e (bZ ps),.int nm],rfl,b,c,e,n,ps,k,nm,rfl,ok,KS,.inl (by first|trivial|rfl),?_⟩⟩
 symm;have fN:gQ (a8 (ps.map (·.1)) (gA b (ps.map (·.2)) k)):=nX (by rw[D1];exact Er b _ k (by rw[Ap];exact vA))
 refine⟨fZ,by decide,by rw[(cM _).length_eq,List.length_map,List.length_map,sz];omega,aW (n:=0) rfl (d:=a8 (ps.map (·.1)) (gA b (ps.map (·.2)) k)) ?_ ?_⟩
 ·have e1:=xJ (b:=b) (k:=k) kf.inc D1
  unfold gA uJ;rw[<- getD_map,<- e1,lg fZ];cases ie (((others (ps.map (·.2)).length k).map (er b (ps.map (·.2)) ((ps.map (·.2)).getD k []))).map (a8 (ps.map (·.1))))<;>rfl
 ·refine⟨⟨fV (m:=6) fN,fV (m:=6) fN⟩,?_⟩
  rw[ni fN];exact h
theorem Hv{n:Nat}{ps:List (Int×List Int)}{e:Int}{p:List Int}(k:jy n ps)(hl:ps.length<1000)(he:∀q∈ps,q.1<e)(hp:p.length=n)(hf:∀v∈p,Bt v):jy n (ps++[(e,p)]):=⟨k.n1,k.n3,λq hq=>by
 rcases List.mem_append.mp hq with hq|hq
 ·exact k.pt q hq
 ·rw[List.mem_singleton.mp hq];exact⟨hp,hf⟩,by
 rw[List.map_append,List.pairwise_append];refine⟨k.inc,List.pairwise_singleton _ _,λa ha c hc=>?_⟩;obtain⟨q,hq,rfl⟩:=List.mem_map.mp ha;rw[List.mem_singleton.mp hc];exact he q hq,by rw[List.length_append,List.length_singleton];omega⟩
theorem RW{ps:List (Int×List Int)}{e:Int}{p:List Int}(he:∀q∈ps,q.1<e):∀q∈ps++[(e,p)],q.1<e+1:=λq hq=>by
 rcases List.mem_append.mp hq with hq|hq
 ·have:=he q hq;omega
 ·rw[List.mem_singleton.mp hq];omega
theorem yB(ps:List (Int×List Int))(i:Int):i6 (bZ ps) i=bZ (ps.filter λq=>decide (q.1≠i)):=by
 unfold i6 bZ;rw[List.filter_map];rfl
theorem Dt{n:Nat}{ps:List (Int×List Int)}(k:jy n ps)(i:Int):jy n (ps.filter λq=>decide (q.1≠i)):=⟨k.n1,k.n3,λq hq=>k.pt q (List.mem_filter.mp hq).1,k.inc.sublist (List.filter_sublist.map _),Nat.le_trans (List.length_filter_le _ _) k.len⟩
theorem qj{α:Type}{g:p7}{te:TD}{gD:Sd}{Q:List D->Prop}(gi:α->D)(P:D->Prop)(l:List α)
  (h:∀a∈l,∀(A:D->Prop),(∀d,P d->A d)->g (gi a) gD λax=>te ax λd iu=>oA gD iu/\A d)
  (hl:l.length<=sizeLine) (q:∀ds,ds.length=l.length->(∀d∈ds,P d)->Q ds):eN g eX te gD (l.map gi) [] Q:=by
 have key:∀(l:List α) (acc:List D),(∀a∈l,∀(A:D->Prop),(∀d,P d->A d)->g (gi a) gD λax=>te ax λd iu=>oA gD iu/\A d) ->
   acc.length+l.length<=sizeLine->(∀ds,ds.length=l.length->(∀d∈ds,P d)->Q (acc++ds))->eN g eX te gD (l.map gi) acc Q:=by
  intro l
  induction l with
  | nil=>intro acc _ _ q;simpa [eN]using q [] rfl (λd hd=>by cases hd)
  | cons a l ih =>
   intro acc h hl q;rw[List.length_cons]at hl;rw[List.map_cons];refine h a (List.mem_cons_self ..) (λd=>acc.length<sizeLine/\eN g eX te gD (l.map gi) (acc++[d]) Q) λd hd=>⟨by omega,ih _ (λy hy=>h y (List.mem_cons_of_mem _ hy)) (by rw[List.length_append,List.length_singleton];omega) λds e yN=>?_⟩
   rw[List.append_assoc];refine q _ (by rw[List.singleton_append,List.length_cons,List.length_cons,e]) λx hx=>?_
   rcases List.mem_cons.mp hx with rfl|hx
   ·exact hd
   ·exact yN x hx
 exact key l [] h (by simpa using hl) λds e yN=>q ds e yN
def nz:jx:=λbs Q=>∃(a dx ad p6:Addr) (b:Bool) (n:Nat) (e:Int) (ps:List (Int×List Int)) (vs:List Int),bs=[.obj (fy a dx ad (bg b) n e (bZ ps)),.obj (mW p6 (bZ ps)),.sh (.int n),.sh (.int e),.sh (.lst (vs.map D.int))]/\jy n ps/\ps.length<=40/\0<=e/\(∀q∈ps,q.1<e)/\vs.length=7/\nG vs /\
 ∀(e':Int) (gH:List (Int×List Int)),jy n gH->gH.length<=40->0<=e'->(∀q∈gH,q.1<e')->Q (.sh (.int e')) [.obj (fy a dx ad (bg b) n e' (bZ gH)),.obj (mW p6 (bZ gH)),.sh (.int n),.sh (.int e),.sh (.lst (vs.map D.int))]
theorem Ih(bs:List B)(Q:B->List B->Prop)(h:nz bs Q)(i:Nat)(xs:List D)(e:bs[i]?=some (.own xs)):i∈[0,1]:=by
 obtain⟨a,dx,ad,p6,b,n,e',ps,vs,rfl,_⟩:=h;exact xE 2 rfl e
theorem QV(bs:List B)(Q:B->List B->Prop)(h:nz bs Q):F8 tI tD nB {nx:=wR bs Q (.sh .aV),rt:=λb σ=>wR bs Q b σ} (cJ BP.length bs):=by
 obtain⟨a1,wO,wM,p6,b,n,e,ps,vs,rfl,kf,de,Uv,GR,nZ,hv,h⟩:=h;have h1:=kf.n1;have h3:=kf.n3;have fin:∀(e':Int) (gH:List (Int×List Int)) x5 x6 x7 x8 x9,jy n gH->gH.length<=40->0<=e'->(∀q∈gH,q.1<e')->wR [.obj (fy a1 wO wM (bg b) n e (bZ ps)),.obj (mW p6 (bZ ps)),.sh (.int n),.sh (.int e),.sh (.lst (vs.map D.int))] Q (.sh (.int e')) [some (.obj (fy a1 wO wM (bg b) n e' (bZ gH))),some (.obj (mW p6 (bZ gH))),some (.sh (.int n)),some (.sh (.int e)),some (.sh (.lst (vs.map D.int))),x5,x6,x7,x8,x9]:=λe' gH x5 x6 x7 x8 x9 k1 k2 k3 k4 =>
  ⟨[.obj (fy a1 wO wM (bg b) n e' (bZ gH)),.obj (mW p6 (bZ gH)),.sh (.int n),.sh (.int e),.sh (.lst (vs.map D.int))],.obj rfl rfl (λz=>nomatch z) (.obj rfl rfl (λz=>nomatch z) (.sh _ (.sh _ (.sh _ .nil)))),⟨rfl,rfl,trivial⟩,h e' gH k1 k2 k3 k4⟩
 generalize wR _ Q=MQ at fin;unfold F8;refine aj λN hN=>?_;symm;refine bQ (m:=7) (j:=0) nZ hv ⋯ rfl λv0 WG h01=>?_
 symm;refine⟨by decide,?_⟩
 subst hN;refine aj λN hN=>?_;show b6 _ _ _ _ _;generalize ht1:bS (d8 [0,1] 6 _) _=t1;symm;rw[sr];have rest:N [some (.obj (fy a1 wO wM (bg b) n e (bZ ps))),some (.obj (mW p6 (bZ ps))),some (.sh (.int n)),some (.sh (.int e)),some (.sh (.lst (vs.map D.int))),some (.sh (.int (v0%8))),none,none,none,none]:=by
  subst hN;refine aj λN hN=>?_;symm;refine bQ (m:=7) (j:=2) nZ hv ⋯ rfl λv2 h20 h21=>?_
  symm;refine⟨by omega,bQ (m:=7) (j:=3) nZ hv ⋯ rfl λv3 h30 h31=>?_⟩
  symm;refine⟨by decide,⟨rfl,rfl⟩,?_⟩
  generalize v2%(e+2)-(if gw (D.int (v3%9)) (D.int 0)=true then 1 else 0)=nm
  subst hN;refine aj λN hN=>?_;show b6 _ _ _ _ _;generalize ht5:bS (d8 [0,1] 9 _) _=t5;symm;refine⟨⟨rfl,rfl⟩,?_⟩;rw[dj]
  by_cases k5:v0%8=5
  ·refine(if_pos (decide_eq_true k5)).mpr ?_
   subst ht5;refine aj λN1 ly=>?_;symm;refine⟨by decide,by decide,bQ (m:=7) (j:=1) nZ hv ⋯ rfl λv1 ZK ZL=>?_⟩
   symm;refine⟨by decide,eP ⋯ (by show v1%3<((3:Nat):Int);omega) λd hd=>?_⟩
   obtain⟨m,hm,rfl⟩:∃m:Nat,(m:Int)≠n/\d=.int ((m:Int)-n):=by
    simp only[List.mem_cons,List.not_mem_nil,or_false]at hd;rcases hd with rfl|rfl|rfl
    ·exact⟨n+1,by omega,by rw[show(((n+1:Nat):Int)-n)=1 by omega]⟩
    ·exact⟨n+2,by omega,by rw[show(((n+2:Nat):Int)-n)=2 by omega]⟩
    ·exact⟨n-1,by omega,by rw[show(((n-1:Nat):Int)-n)=-1 by omega]⟩
   symm;rw[show(n:Int)+((m:Int)-n)=m by omega,Int.toNat_natCast]
   have hm5:m<=n+2:=by
    rcases Nat.lt_or_ge (n+2) m with z|z
    ·exfalso
     simp only[List.mem_cons,List.not_mem_nil,or_false,D.int.injEq]at hd;omega
    ·exact z
   refine⟨⟨by omega,by omega,by rw[sz];omega⟩,?_⟩
   rw[show D.tup (List.replicate m [D.int 0]).flatten=fR (List.replicate m 0)by
    unfold fR;rw[List.map_replicate];congr 1;clear hm hd hm5
    induction m with
    | zero=>rfl
    | succ m ih=>rw[List.replicate_succ,List.flatten_cons,ih];rfl]
   subst ly;symm;refine⟨by decide,⟨_,rfl⟩,List.nodup_nil,λ_ _=>trivial,[.kp (bg b) n e (bZ ps),fR (List.replicate m 0),.int 3],rfl,bg b,n,e,bZ ps,_,3,rfl,.inl ⟨rfl,⟨_,rfl,by rw[List.length_replicate];exact hm⟩,.inr ⟨rfl,rfl⟩,?_⟩⟩
   symm;refine⟨by decide,⟨rfl,rfl⟩,aW (n:=1) rfl rfl (fin e ps _ _ _ _ _ kf de Uv GR)⟩
  refine(if_neg (by rw[decide_eq_false k5];decide)).mpr ?_
  subst hN;refine aj λN hN=>?_;show b6 _ _ _ _ _;generalize ht7:fA [0,1] _=t7;symm
  by_cases GQ:(d2 (bZ ps) nm).isSome=false
  ·refine(if_pos GQ).mpr ?_
   subst ht7;symm;refine⟨by decide,⟨_,rfl⟩,bQ (m:=7) (j:=1) nZ hv ⋯ rfl λv1 ZK ZL=>?_⟩
   symm;refine⟨by decide,List.nodup_nil,λ_ _=>trivial,[.kp (bg b) n e (bZ ps),.int nm,.int (v1%3)],rfl,bg b,n,e,bZ ps,_,v1%3,rfl,.inr ⟨by omega,by omega,by omega,⟨_,rfl,by cases hi:d2 (bZ ps) nm with|none=>rfl|some d=>rw[hi]at GQ;cases GQ⟩,.inr ⟨rfl,rfl⟩,?_⟩⟩
   symm;refine⟨by decide,⟨rfl,rfl⟩,aW (n:=1) rfl rfl (fin e ps _ _ _ _ _ kf de Uv GR)⟩
  refine(if_neg GQ).mpr ?_;rw[Bool.not_eq_false]at GQ;subst hN;refine aj λN hN=>?_;symm;refine⟨⟨_,_,_,_,_,rfl,rfl⟩,by decide,(λ_ h=>h.elim),a1,wO,wM,bg b,n,e,nm,bZ ps,rfl,GQ,.inl trivial,?_⟩
  symm;rw[yB];subst hN;refine aj λN hN=>?_;symm;refine⟨⟨_,_,rfl⟩,p6,bZ ps,rfl,GQ,?_⟩;rw[yB];subst hN;symm;exact fin e _ _ _ _ _ _ (Dt kf nm) (Nat.le_trans (List.length_filter_le _ _) de) Uv (λq hq=>GR q (List.mem_filter.mp hq).1)
 have put:ps.length<40->t1 {nx:=N,rt:=λb σ=>MQ b σ} [some (.obj (fy a1 wO wM (bg b) n e (bZ ps))),some (.obj (mW p6 (bZ ps))),some (.sh (.int n)),some (.sh (.int e)),some (.sh (.lst (vs.map D.int))),some (.sh (.int (v0%8))),none,none,none,none]:=by
  intro jn;clear rest;subst ht1;refine aj λN1 ly=>?_;symm;refine⟨by decide,bQ (m:=7) (j:=1) nZ hv ⋯ rfl λv1 ZK ZL=>?_⟩
  symm;refine⟨by decide,eP ⋯ (by show v1%3<((3:Nat):Int);omega) λd hd=>?_⟩
  obtain⟨wd,rfl,hw0,hw1⟩:∃wd:Int,d=.int wd/\1<=wd/\wd<=1000:=by
   simp only[List.mem_cons,List.not_mem_nil,or_false]at hd;rcases hd with rfl|rfl|rfl
   all_goals exact⟨_,rfl,by decide,by decide⟩
  subst ly;refine aj λN1 ly=>?_
  -- the point
  have zQ:∀l:List Int,l.length=n->(∀v∈l,Bt v)->N1 [some (.obj (fy a1 wO wM (bg b) n e (bZ ps))),some (.obj (mW p6 (bZ ps))),some (.sh (.int n)),some (.sh (.int e)),some (.sh (.lst (vs.map D.int))),some (.sh (.int (v0%8))),some (.sh (.int wd)),some (.own (l.map D.int)),none,none]:=by
   intro l D2 GP;subst ly;refine aj λN1 ly=>?_;have step2:∀l:List Int,l.length=n->(∀v∈l,Bt v)->N1 [some (.obj (fy a1 wO wM (bg b) n e (bZ ps))),some (.obj (mW p6 (bZ ps))),some (.sh (.int n)),some (.sh (.int e)),some (.sh (.lst (vs.map D.int))),some (.sh (.int (v0%8))),some (.sh (.int wd)),some (.own (l.map D.int)),none,none]:=by
    intro l D2 GP;subst ly;refine aj λN1 ly=>?_;have Fy:∀l:List Int,l.length=n->(∀v∈l,Bt v)->N1 [some (.obj (fy a1 wO wM (bg b) n e (bZ ps))),some (.obj (mW p6 (bZ ps))),some (.sh (.int n)),some (.sh (.int e)),some (.sh (.lst (vs.map D.int))),some (.sh (.int (v0%8))),some (.sh (.int wd)),some (.own (l.map D.int)),none,none]:=by
     intro l D2 GP;subst ly;refine aj λN1 ly=>?_;symm;refine⟨⟨_,_,rfl⟩,p6,bZ ps,rfl,by rw[sr,sz];omega,?_⟩
     rw[show D.tup (l.map D.int)=fR l from rfl,vC GR]
     subst ly;symm;refine⟨by decide,⟨_,_,_,_,_,rfl,rfl⟩,by decide,(λ_ h=>h.elim),a1,wO,wM,b,n,e,n,ps,l,rfl,by rw[D2],by omega,GR,.inl trivial,?_⟩
     symm;refine⟨⟨rfl,rfl⟩,?_⟩;rw[dj,if_pos (decide_eq_true rfl)];exact aW (n:=1) rfl rfl (fin (e+1) (ps++[(e,l)]) _ _ _ _ _ (Hv kf ⋯ GR D2 GP) (by rw[List.length_append,List.length_singleton];omega) ⋯ (RW GR))
    show b6 _ _ _ _ _;generalize Oz:d8 [0,1] 7 _=t3;symm;refine bQ (m:=7) (j:=1) nZ hv ⋯ rfl λv1' aau aav=>?_
    symm;refine⟨by unfold ur;decide,by decide,⟨rfl,rfl⟩,?_⟩
    split
    ·by_cases HN:ps=[]
     ·subst HN;exact(if_neg (λz=>z rfl)).mpr (Fy l D2 GP)
     have HM:0<ps.length:=List.length_pos_iff.mpr HN;refine(if_pos (by cases ps with|nil=>exact absurd rfl HN|cons _ _=>exactλz=>nomatch z)).mpr ?_
     subst Oz;symm;refine bQ (m:=7) (j:=2) nZ hv ⋯ rfl λv2 h20 h21=>?_
     symm;rw[iD,dN kf.inc,sr];have hm0:0<=v2%(ps.length:Int):=Int.emod_nonneg _ ⋯
     have ZQ:v2%(ps.length:Int)<ps.length:=Int.emod_lt_of_pos _ ⋯
     obtain⟨k,hk⟩:∃k:Nat,v2%(ps.length:Int)=k:=⟨(v2%(ps.length:Int)).toNat,by omega⟩
     have vA:k<ps.length:=by omega
     refine⟨by omega,aW (n:=k) hk (by rw[<- cz];exact cA vA) ?_⟩
     refine⟨_,gT kf.inc vA,?_⟩;obtain⟨m1,m2,m3⟩:=jG kf vA;exact Fy _ (gR kf.ok.good (by rw[List.length_map];exact vA)) m3
    ·exact(if_neg ∅).mpr (Fy l D2 GP)
   show b6 _ _ _ _ _;generalize Oz:d8 [0,1] 7 _=t3;symm;refine bQ (m:=7) (j:=1) nZ hv ⋯ rfl λv1' aau aav=>?_
   symm;refine⟨by unfold ur;decide,by decide,⟨rfl,rfl⟩,?_⟩
   split
   ·subst Oz
    symm;rw[Int.toNat_natCast,d5];refine⟨by omega,qj (λi:Nat=>.int (0+(i:Nat))) (λd=>∃v,d=.int v/\Bt v) (List.range n) (λa ha A hA=>?_) (by rw[List.length_range,sz];omega) λds yN hd=>?_⟩
    ·have ha:=List.mem_range.mp ha
     walk_at "vg";symm;refine bQ (m:=7) (j:=2+a) nZ hv ⋯ ⋯ λv hv0 hv1=>?_
     symm;have e12:(10:Int)^Int.toNat 12=10^12:=by decide
     rw[e12];refine⟨by decide,by unfold Bp;decide,by unfold kY;omega,hA _ ⟨_,rfl,?_⟩⟩
     unfold Bt;omega
    ·rw[List.length_range]at yN
     obtain⟨l,rfl,D2,GP⟩:=oi ds yN hd;exact step2 l D2 GP
   ·exact step2 l D2 GP
  symm;rw[Int.toNat_natCast,d5];refine⟨by omega,qj (λi:Nat=>.int (0+(i:Nat))) (λd=>∃v,d=.int v/\Bt v) (List.range n) (λa ha A hA=>?_) (by rw[List.length_range,sz];omega) λds yN hd=>?_⟩
  ·have ha:=List.mem_range.mp ha
   walk_at "vg";symm;refine bQ (m:=7) (j:=2+a) nZ hv ⋯ ⋯ λv hv0 hv1=>?_
   symm;refine⟨by omega,hA _ ⟨_,rfl,?_⟩⟩
   have:=Int.emod_nonneg v (show wd≠0 by omega)
   have:=Int.emod_lt_of_pos v (show 0<wd by omega)
   unfold Bt;omega
  ·rw[List.length_range]at yN
   obtain⟨l,rfl,D2,GP⟩:=oi ds yN hd;exact zQ l D2 GP
 by_cases c1:v0%8<5
 ·refine(if_pos c1).mpr ?_
  by_cases c2:(ps.length:Int)<40
  ·exact(if_pos c2).mpr (put ⋯)
  ·exact(if_neg c2).mpr rest
 ·exact(if_neg c1).mpr ((if_neg ∅).mpr rest)
theorem yV{xs:List D}{d:D}{Q:D->Prop}(q:Q d):Ia (.lst (xs++[d])) (.int (-1)) Q:=by
 show(match L2.lb (xs++[d]) (-1)with|some d=>Q d|none=>False)
 have e:L2.lb (xs++[d]) (-1)=some d:=by
  unfold L2.lb L2.GU;rw[if_neg ∅,if_pos (by rw[List.length_append,List.length_singleton];omega)]
  show(xs++[d])[(-1+((xs++[d]).length:Int)).toNat]?=_;rw[List.length_append,List.length_singleton,show(-1+((xs.length+1:Nat):Int)).toNat=xs.length by omega,List.getElem?_append_right (Nat.le_refl _),Nat.sub_self];rfl
 rw[e];exact q
theorem zg:∀l:List Int,oI (l.map D.int)=true
 | []=>rfl
 | _::l=>zg l
theorem Eu(ks:List Int)(b:Bool)(pts:List (List Int))(j:Int):oI (e9 ks b pts j)=true:=by
 obtain⟨qs,e,_,_⟩:=fH b pts j;rw[fG e];clear e;have:∀l:List (Nat×Nat),oI (l.map (UL ks))=true:=λl=>by
  induction l with
  | nil=>rfl
  | cons q l ih=>exact ih
 exact this qs
theorem AR(ks:List Int)(b:Bool)(pts:List (List Int))(j:Int):bO 6 (.lst (e9 ks b pts j))=true:=by
 obtain⟨qs,e,_,_⟩:=fH b pts j;rw[fG e];show(qs.map (UL ks)).all (bO 5)=true;rw[List.all_map];exact List.all_eq_true.mpr λ_ _=>rfl
theorem AQ(ns:List Int):bO 6 (.lst (ns.map D.int))=true:=by
 show(ns.map D.int).all (bO 5)=true;rw[List.all_map];exact List.all_eq_true.mpr λ_ _=>rfl
def Fv:bu:=λds Q=>∃ns:List Int,ds=[.iL ns]/\ns.length<=63/\Q (.sh (.bl true))
theorem Yo(ds:List D)(Q:B->Prop)(h:Fv ds Q):Gd tH yb tf nz tu d7 tj {nx:=λ_=>Q (.sh .aV),rt:=λb _=>Q b} (aL BV.length ds):=by
 obtain⟨ns,rfl,Uz,h⟩:=h;unfold Gd;refine aj λN hN=>?_;symm;refine⟨ns,0,rfl,Uz,λc0=>?_⟩;symm;refine⟨c0,2,rfl,by decide,λhs hsl hsv=>?_⟩
 symm;subst hN;refine aj λN hN=>?_;symm;refine bQ (m:=2) (j:=0) hsl hsv ⋯ rfl λv0 WG h01=>?_
 symm;refine⟨by decide,?_⟩
 obtain⟨n,Uy,hn3,en⟩:∃n:Nat,1<=n/\n<=3/\1+v0%3=(n:Int):=⟨(1+v0%3).toNat,by omega,by omega,by omega⟩
 rw[en];subst hN;refine aj λN hN=>?_;symm;refine⟨by decide,bQ (m:=2) (j:=1) hsl hsv ⋯ rfl λv1 ZK ZL=>?_⟩
 symm;refine⟨by decide,eP ⋯ (by show v1%2<((2:Nat):Int);omega) λd hd=>?_⟩
 obtain⟨b,rfl⟩:∃b,d=cU b:=by
  simp only[List.mem_cons,List.not_mem_nil,or_false]at hd;rcases hd with rfl|rfl
  ·exact⟨false,rfl⟩
  ·exact⟨true,rfl⟩
 clear hd;subst hN;refine aj λN hN=>?_;symm;refine⟨b,n,rfl,by omega,by omega,λa1 wO wM=>?_⟩
 subst hN;refine aj λN hN=>?_;symm;intro p6;subst hN;refine aj λN hN=>?_;symm;subst hN;refine aj λN hN=>?_;symm;refine⟨by decide,?_⟩
 subst hN;refine aj λN hN=>?_;symm;refine⟨by decide,?_⟩
 subst hN;refine aj λN hN=>?_;show dc _ _ _ _ _;generalize ht:bS (d8 [] 10 _) _=tb;symm;rw[CH];have kf0:jy n []:=⟨Uy,hn3,nofun,List.Pairwise.nil,by decide⟩
 have hcl:(cut ns (some 1) (some 31)).length<=63:=Nat.le_trans (Hf _ _ _) Uz;refine eC D.int (cut ns (some 1) (some 31)) (λi σ=>∃ps e xs x1 x9 x10 Gw,σ=[some (.sh (.iL ns)),x1,some (.sh (.int n)),some (.sh (cU b)),some (.obj (fy a1 wO wM (bg b) n e (bZ ps))),some (.obj (mW p6 (bZ ps))),some (.sh (.int e)),some (.own xs),some (.own xs),x9,x10,Gw]/\jy n ps/\ps.length<=40/\0<=e/\(∀q∈ps,q.1<e)/\xs.length<=i/\∀x∈xs,bO 7 x=true) (λi c σ N' hx hI DE=>?_) (λσ hI=>?_) ⟨[],0,[],_,_,_,_,rfl,kf0,by decide,by decide,nofun,by decide,nofun⟩
 ·obtain⟨ps,e,xs,x1,x9,x10,Gw,rfl,kf,de,Uv,GR,hxl,ZT⟩:=hI
  have hil:i<(cut ns (some 1) (some 31)).length:=(List.getElem?_eq_some_iff.mp hx).1;walk_at "vg";subst ht;refine aj λN1 ly=>?_;symm;refine⟨c,7,rfl,by decide,λvs nZ hv=>?_⟩
  symm;subst ly;refine aj λN1 ly=>?_;symm;refine⟨⟨_,rfl⟩,⟨_,rfl⟩,by decide,(λ_ h=>h.elim),a1,wO,wM,p6,b,n,e,ps,vs,rfl,kf,de,Uv,GR,nZ,hv,λe' gH UI W9 WT W8=>⟨.inl trivial,?_⟩⟩
  symm;subst ly;refine aj λN1 ly=>?_;symm;refine(if_neg ⋯).mpr ?_
  refine⟨⟨_,rfl⟩,⟨_,rfl⟩,bQ (m:=7) (j:=5) nZ hv ⋯ rfl λv5 h50 h51=>?_⟩
  symm;refine⟨by decide,List.nodup_nil,λ_ _=>trivial,[.kp (bg b) n e' (bZ gH),.gv (bZ gH),cU b,.int (v5%9),.lst (vs.map D.int)],rfl,b,n,e',n,gH,v5%9,vs,rfl,UI,by omega,by omega,hv,.inr ⟨rfl,rfl⟩,?_⟩
  symm;refine(if_neg ∅).mpr ?_
  subst ly;show b6 _ _ _ _ _;generalize ht2:bS (dc _ _ _) _=t2;symm;refine bQ (m:=7) (j:=6) nZ hv ⋯ rfl λv6 h60 h61=>?_
  symm;refine⟨by decide,⟨rfl,rfl⟩,?_⟩
  split
  ·subst ht2
   refine aj λN1 ly=>?_;show dc _ _ _ _ _;generalize Oz:b6 _ _ _=t3;symm;refine⟨by decide,?_⟩
   refine eC (λi:Nat=>.int (0+(i:Nat))) (List.range 5) (λi σ=>∃Gw,σ=[some (.sh (.iL ns)),x1,some (.sh (.int n)),some (.sh (cU b)),some (.obj (fy a1 wO wM (bg b) n e' (bZ gH))),some (.obj (mW p6 (bZ gH))),some (.sh (.int e')),some (.own xs),some (.own xs),some (.sh (.int c)),some (.sh (.lst (vs.map D.int))),Gw]) (λi k σ N2 hx hI GL=>?_) (λσ hI=>?_) ⟨_,rfl⟩
   ·obtain⟨rfl,hi⟩:=dJ hx
    obtain⟨Gw,rfl⟩:=hI;walk_at "vg";subst Oz;symm;refine⟨⟨_,rfl⟩,⟨_,rfl⟩,List.nodup_nil,λ_ _=>trivial,[.kp (bg b) n e' (bZ gH),.gv (bZ gH),cU b,.int k,.lst (vs.map D.int)],rfl,b,n,e',n,gH,k,vs,rfl,UI,by omega,by omega,hv,.inr ⟨rfl,rfl⟩,?_⟩
    symm;exact(if_neg ∅).mpr (GL _ ⟨_,rfl⟩)
   ·obtain⟨Gw,rfl⟩:=hI
    show N1 _;subst ly;refine aj λN1 ly=>?_;symm;refine⟨⟨_,rfl⟩,⟨_,_,_,_,_,rfl,rfl⟩,List.nodup_nil,λ_ _=>trivial,[.kp (bg b) n e' (bZ gH)],rfl,bg b,n,e',n,gH,rfl,UI.ok,.inr ⟨by rw[cz];exact zg _,rfl⟩,?_⟩
    symm;refine⟨⟨_,_,_,_,_,rfl,rfl⟩,List.nodup_nil,λ_ _=>trivial,[.kp (bg b) n e' (bZ gH),.int 9],rfl,b,n,e',n,gH,9,rfl,UI.ok,by decide,.inr ⟨Eu _ _ _ _,rfl⟩,?_⟩
    symm;refine⟨by decide,by rw[sz];omega,?_⟩
    have okT:bO 7 (.tup [.lst (gH.map λp=>.int p.1),.lst (e9 (gH.map (·.1)) b (gH.map (·.2)) 9)])=true:=by
     show(bO 6 _&&(bO 6 _&&true))=true;rw[cz,AQ,AR];rfl
    generalize gH.map (λp=>D.int p.1)=nmL at okT;generalize e9 (gH.map (·.1)) b (gH.map (·.2)) 9=nrs at okT
    subst ly;symm;refine⟨⟨_,rfl⟩,?_⟩;rw[show(-1:Int)=-1 from rfl]
    refine yV ?_;refine cy (n:=0) rfl rfl ?_;symm;refine yV ?_;refine cy (n:=1) rfl rfl ?_;symm;refine⟨by decide,by rw[sz];omega,DE _ ⟨gH,e',xs++[.tup [.lst nmL,.lst nrs]],_,_,_,_,rfl,UI,W9,WT,W8,by rw[List.length_append,List.length_singleton];omega,λx hx=>?_⟩⟩
    rcases List.mem_append.mp hx with hx|hx
    ·exact ZT x hx
    ·rw[List.mem_singleton.mp hx];exact okT
  ·exact DE _ ⟨gH,e',xs,_,_,_,_,rfl,UI,W9,WT,W8,by omega,ZT⟩
 ·obtain⟨ps,e,xs,x1,x9,x10,Gw,rfl,kf,de,Uv,GR,hxl,ZT⟩:=hI
  show N _;subst hN;refine aj λN1 ly=>?_;symm;refine⟨ns,1,rfl,Uz,λc1=>?_⟩;symm;refine⟨c1+1,3,rfl,by decide,λvs nZ hv=>?_⟩
  symm;subst ly;refine aj λN1 ly=>?_;show dc _ _ _ _ _;generalize Oz:b6 _ _ _=t3;symm;refine⟨by decide,?_⟩
  refine eC (λi:Nat=>.int (0+(i:Nat))) (List.range 5) (λi σ=>∃x1 x9 Gw y,(y=.own (vs.map D.int)\/y=.sh (.lst (vs.map D.int)))/\σ=[some (.sh (.iL ns)),x1,some (.sh (.int n)),some (.sh (cU b)),some (.obj (fy a1 wO wM (bg b) n e (bZ ps))),some (.obj (mW p6 (bZ ps))),some (.sh (.int e)),some (.own xs),some (.own xs),x9,some y,Gw]) (λi k σ N2 hx hI GL=>?_) (λσ hI=>?_) ⟨_,_,_,_,.inl rfl,rfl⟩
  ·obtain⟨rfl,hi⟩:=dJ hx
   obtain⟨x1,x9,Gw,y,hy,rfl⟩:=hI;have go:t3 {nx:=N2,rt:=λb x=>Q b,bk:=N1,ct:=N2} [some (.sh (.iL ns)),x1,some (.sh (.int n)),some (.sh (cU b)),some (.obj (fy a1 wO wM (bg b) n e (bZ ps))),some (.obj (mW p6 (bZ ps))),some (.sh (.int e)),some (.own xs),some (.own xs),x9,some y,some (.sh (.int k))]:=by
    subst Oz;rcases hy with rfl|rfl
    ·symm
     refine⟨⟨_,rfl⟩,⟨_,rfl⟩,List.nodup_nil,λ_ _=>trivial,[.kp (bg b) n e (bZ ps),.gv (bZ ps),cU b,.int k,.lst (vs.map D.int)],rfl,b,n,e,n,ps,k,vs,rfl,kf,by omega,by omega,hv,.inr ⟨rfl,rfl⟩,?_⟩
     symm;exact(if_neg ∅).mpr (GL _ ⟨_,_,_,_,.inr rfl,rfl⟩)
    ·symm
     refine⟨⟨_,rfl⟩,⟨_,rfl⟩,List.nodup_nil,λ_ _=>trivial,[.kp (bg b) n e (bZ ps),.gv (bZ ps),cU b,.int k,.lst (vs.map D.int)],rfl,b,n,e,n,ps,k,vs,rfl,kf,by omega,by omega,hv,.inr ⟨rfl,rfl⟩,?_⟩
     symm;exact(if_neg ∅).mpr (GL _ ⟨_,_,_,_,.inr rfl,rfl⟩)
   walk_at "vg";exact go
  ·obtain⟨x1,x9,Gw,y,hy,rfl⟩:=hI
   show N1 _;subst ly;symm;have okX:bO 8 (.lst xs)=true:=List.all_eq_true.mpr ZT;refine⟨⟨okX,okX⟩,?_⟩;rw[nU 8 _ okX];exact h
end
def zJ(K:PySem.W.Frag):Sp:=λvs H Q _=>∃(a:Addr) (ns:List Int),vs=[.ref a]/\gE K H a (ns.map V.int)/\ns.length<=63/\∀H',Q (.bl true) H'
-- level 6
section
variable [KF]{G:GE}{k:Nat}
local macro_rules|`(tactic| walk_at "8")=>`(tactic| (intro xs ds Q h;first|(obtain⟨e,_⟩:=h;rw[e];rfl) | (obtain⟨_,e,_⟩:=h;rw[e];rfl) | (obtain⟨_,_,e,_⟩:=h;rw[e];rfl) | (obtain⟨_,_,_,e,_⟩:=h;rw[e];rfl) | (obtain⟨_,_,_,_,e,_⟩:=h;rw[e];rfl) | (obtain⟨_,_,_,_,_,e,_⟩:=h;rw[e];rfl) | (obtain⟨_,_,_,_,_,_,e,_⟩:=h;rw[e];rfl) | (obtain⟨_,_,_,_,_,_,_,e,_⟩:=h;rw[e];rfl) | (obtain⟨_,_,_,_,_,_,_,_,e,_⟩:=h;rw[e];rfl) | (obtain⟨_,_,_,_,_,_,_,_,_,e,_⟩:=h;rw[e];rfl) | (obtain⟨_,_,_,_,_,_,_,_,_,_,e,_⟩:=h;rw[e];rfl)))
local macro_rules|`(tactic| walk_at "7")=>`(tactic| (intro ds Q h;first|(obtain⟨e,_⟩:=h;rw[e];rfl) | (obtain⟨_,e,_⟩:=h;rw[e];rfl) | (obtain⟨_,_,e,_⟩:=h;rw[e];rfl) | (obtain⟨_,_,_,e,_⟩:=h;rw[e];rfl) | (obtain⟨_,_,_,_,e,_⟩:=h;rw[e];rfl) | (obtain⟨_,_,_,_,_,e,_⟩:=h;rw[e];rfl) | (obtain⟨_,_,_,_,_,_,e,_⟩:=h;rw[e];rfl) | (obtain⟨_,_,_,_,_,_,_,e,_⟩:=h;rw[e];rfl) | (obtain⟨_,_,_,_,_,_,_,_,e,_⟩:=h;rw[e];rfl) | (obtain⟨_,_,_,_,_,_,_,_,_,e,_⟩:=h;rw[e];rfl) | (obtain⟨_,_,_,_,_,_,_,_,_,_,e,_⟩:=h;rw[e];rfl)))
theorem QK(hK:G.K=KF.K)(hT:KF.tabs=[])(E:Gl G)
    {vd:Addr} {NQ:FuncData} (CU:d9 G "need_count" kn ["count"] vd NQ)
    {Dk:Addr} {Wo:FuncData} (Hj:d9 G "need_as_many_numbers" o5 ["point","count"] Dk Wo)
    {uX:Addr} {NF:FuncData} (CN:d9 G "need_points" j8 ["points"] uX NF)
    {vm:Addr} {NZ:FuncData} (C3:d9 G "need_way" kB ["way"] vm NZ)
    {Dl:Addr} {Wq:FuncData} (MR:d9 G "need_points_and_way" sQ ["points","way"] Dl Wq)
    {vf:Addr} {NR:FuncData} (CV:d9 G "need_place" ko ["points","place"] vf NR)
    {u0:Addr} {NP:FuncData} (CT:d9 G "need_bound" kj ["bound"] u0 NP)
    {Dr:Addr} {Wy:FuncData} (MY:d9 G "far_between" sW ["way","point","other"] Dr Wy)
    {Dm:Addr} {Ws:FuncData} (MT:d9 G "pairs_by_places" sS ["points","way"] Dm Ws)
    {uY:Addr} {NM:FuncData} (CP:d9 G "near_pairs" kc ["points","way","bound"] uY NM)
    {Dp:Addr} {Wv:FuncData} (MV:d9 G "nearest_among" sU ["points","way","point","places"] Dp Wv)
    {Dq:Addr} {Ww:FuncData} (MX:d9 G "nearest_other" sV ["points","way","place"] Dq Ww)
    {uW:Addr} {ND:FuncData} (CL:d9 G "nearest_two" j7 ["points","way"] uW ND)
    {uZ:Addr} {NN:FuncData} (CQ:d9 G "nearest_of" kh ["points","way","place"] uZ NN)
    {Ag:Addr} {Wu:FuncData} (MU:Zz G "__init__" "Kept.__init__" sT ["self","way","count"] Ag Wu)
    {qw:Addr} {NW:FuncData} (yz:nc G "put" "Kept.put" ic ["self","point"] qw NW)
    {qv:Addr} {NT:FuncData} (yy:nc G "take" "Kept.take" h9 ["self","name"] qv NT)
    {qp:Addr} {NI:FuncData} (CO:nc G "names" "Kept.names" j9 ["self"] qp NI)
    {qt:Addr} {NK:FuncData} (yx:nc G "point" "Kept.point" h8 ["self","name"] qt NK)
    {qy:Addr} {NX:FuncData} (C0:nc G "two" "Kept.two" kz ["self"] qy NX)
    {Ah:Addr} {Wx:FuncData} (Hl:nc G "nearest" "Kept.nearest" o7 ["self","name"] Ah Wx)
    {qu:Addr} {NS:FuncData} (CW:nc G "near" "Kept.near" kq ["self","bound"] qu NS)
    {Af:Addr} {Wt:FuncData} (Hk:nc G "need_name" "Kept.need_name" o6 ["self","name"] Af Wt)
    {Ae:Addr} {Wr:FuncData} (MS:nc G "plain_points" "Kept.plain_points" sR ["self"] Ae Wr)
    {uT:Addr} {NA:FuncData} (CI:d9 G "_law_cell_at" jZ ["script","k"] uT NA)
    {uU:Addr} {NB:FuncData} (CJ:d9 G "_law_numbers" j4 ["cell","many"] uU NB)
    {vn:Addr} {N0:FuncData} (C4:d9 G "_law_far" kE ["one","other","way"] vn N0)
    {vg:Addr} {NU:FuncData} (CY:d9 G "_law_flags" kx ["e"] vg NU)
    {uV:Addr} {NC:FuncData} (CK:d9 G "_law_refused" j6 ["kept","place","door"] uV NC)
    {vh:Addr} {NV:FuncData} (CZ:d9 G "_law_pairs" ky ["mine","way"] vh NV)
    {vo:Addr} {N3:FuncData} (C5:d9 G "_law_one" kF ["kept","mine","way","which","numbers"] vo N3)
    {vk:Addr} {NY:FuncData} (C1:d9 G "_law_deed" kA ["kept","mine","count","coming","numbers"] vk NY)
    {qz:Addr} {Du:FuncData} (C6:d9 G "law" gB ["script"] qz Du)
   :cm G.P G.w G.K G.mg G.base mw 7 qz Du ["script"] (zJ G.K):=by
  have vx:dw G 1 "_law_numbers" tH:=CJ.fg (k:=0) hK Sl (VY E) (by walk_at "7") Q8
  have yI:dw G 1 "_law_cell_at" yb:=CI.fg (k:=0) hK Sj (VX E) (by walk_at "7") Yf
  have qA:dw G 1 "need_count" iP:=CU.fg (k:=0) hK Sz (V7 E) (by walk_at "7") EC
  have qC:dw G 1 "need_way" nA:=C3.fg (k:=0) hK SJ (Wh E) (by walk_at "7") Q9
  have Ob:wW G 3 tf:=MU.fi (k:=1) hK YX (aam E (qA.mono ∅) (qC.mono ∅)) (by walk_at "7") QW
  have Ak:dw G 1 "need_as_many_numbers" tE:=Hj.fg (k:=0) hK Lg (aah E) (by walk_at "7") Yj
  have DQ:cB G 2 "put" tI:=yz.ZG (k:=1) (ios:=[0]) hK Ft (Wd E (Ak.mono ∅)) (by walk_at "7") Ig ∅ Yn
  have aP:gK G 1 "need_name" cD:=Hk.fx (k:=0) (t:=λex=>cw ex) hK Lh (λEd=>jh E _) (by walk_at "7") abp
  have fo:gK G 2 "take" cD:=yy.fx (k:=1) (t:=λex=>dU ex cD) hK Fs (λEd=>pM E _ (aP.mono ∅)) (by walk_at "7") Ui
  have eO:gK G 2 "point" cD:=yx.fx (k:=1) (t:=λex=>dt ex cD) hK Fq (λEd=>nR E _ (aP.mono ∅)) (by walk_at "7") x_point
  have dH:gK G 2 "nearest" cD:=Hl.fx (k:=1) (t:=λex=>cP ex cD) hK Li (λEd=>lj E _ (aP.mono ∅)) (by walk_at "7") Ug
  have b8:Ly G 1 "need_as_many_numbers" kH:=Hj.fx (k:=0) (t:=λex=>bK ex) hK Lg (λEd=>fk E _) (λds Q E' h=>by first | (unfold kH at h;split at h<;>first|rfl|exact h.elim) | (obtain⟨e,_⟩:=h;rw[e];rfl) | (obtain⟨_,e,_⟩:=h;rw[e];rfl) | (obtain⟨_,_,e,_⟩:=h;rw[e];rfl) | (obtain⟨_,_,_,e,_⟩:=h;rw[e];rfl) | (obtain⟨_,_,_,_,e,_⟩:=h;rw[e];rfl) | (obtain⟨_,_,_,_,_,e,_⟩:=h;rw[e];rfl)) Zt
  have fY:gK G 2 "put" tJ:=yz.fx (k:=1) (t:=λex=>eF ex kH) hK Ft (λEd=>rR E _ (b8.mono ∅)) (by walk_at "7") Zu
  have DN:dw G 1 "_law_flags" yc:=CY.fg (k:=0) hK SE (Wb E) (by walk_at "7") Yi
  have yJ:dw G 3 "_law_refused" tD:=CK.fg (k:=2) hK Sn (VZ E (fo.mono ∅) (eO.mono ∅) (dH.mono ∅) (fY.mono ∅) (DN.mono ∅)) (by walk_at "7") Q0
  have sf:cB G 1 "need_name" (eD v9):=Hk.fg (k:=0) hK Lh (aal E) (by walk_at "7") aa7
  have DM:cB G 2 "take" nB:=yy.ZG (k:=1) (ios:=[0]) hK Fs (Wa E (sf.mono ∅)) (by walk_at "7") Ie ∅ Rb
  have DS:ux G 4 "_law_deed" nz:=C1.ZG (k:=3) (ios:=[0,1]) hK SH (Wg E (DQ.mono ∅) (yJ.mono ∅) (DM.mono ∅)) (by walk_at "7") Ih ∅ QV
  have qD:dw G 1 "_law_far" zK:=C4.fg (k:=0) hK SK (Wi E) (by walk_at "7") aa6
  have DP:dw G 2 "_law_pairs" tB:=CZ.fg (k:=1) hK SF (Wc E (qD.mono ∅)) (by walk_at "7") QZ
  have DG:dw G 2 "need_points" tG:=CN.fg (k:=1) hK Ss (V1 E (qA.mono ∅) (Ak.mono ∅)) (by walk_at "7") Q7
  have sd:dw G 3 "need_points_and_way" pq:=MR.fg (k:=2) hK YT (aai E (DG.mono ∅) (qC.mono ∅)) (by walk_at "7") Yl
  have Am:dw G 1 "far_between" ph:=MY.fg (k:=0) hK Y0 (aaq E) (by walk_at "7") Yg
  have Al:dw G 2 "pairs_by_places" kI:=MT.fg (k:=1) hK YW (aak E (Am.mono ∅)) (by walk_at "7") IJ
  have DF:dw G 4 "nearest_two" yd:=CL.fg (k:=3) hK Sr (V0 E (sd.mono ∅) (Al.mono ∅)) (by walk_at "7") Yp
  have dD:cB G 1 "names" (eD d7):=CO.fg (k:=0) hK Sv (V2 E) (by walk_at "7") IH
  have se:cB G 2 "plain_points" (eD pz):=MS.fg (k:=1) hK YV (aaj E (dD.mono ∅)) (by walk_at "7") Ym
  have DR:cB G 5 "two" (eD tm):=C0.fg (k:=4) hK SG (Wf E (DF.mono ∅) (se.mono ∅) (dD.mono ∅)) (by walk_at "7") QX
  have DK:dw G 1 "need_bound" lV:=CT.fg (k:=0) hK Sy (V6 E) (by walk_at "7") EA
  have DI:dw G 4 "near_pairs" tF:=CP.fg (k:=3) hK Sw (V4 E (sd.mono ∅) (DK.mono ∅) (Al.mono ∅)) (by walk_at "7") Q5
  have qB:cB G 5 "near" (eD tj):=CW.fg (k:=4) hK SD (V9 E (dD.mono ∅) (DI.mono ∅) (se.mono ∅)) (by walk_at "7") Yh
  have DH:cB G 2 "point" (eD pv):=yx.fg (k:=1) hK Fq (V3 E (sf.mono ∅)) (by walk_at "7") IK
  have DL:dw G 1 "need_place" lW:=CV.fg (k:=0) hK SA (V8 E) (by walk_at "7") EE
  have Oc:dw G 2 "nearest_among" pe:=MV.fg (k:=1) hK YY (aan E (Am.mono ∅)) (by walk_at "7") IE
  have Od:dw G 3 "nearest_other" fM:=MX.fg (k:=2) hK YZ (aao E (Oc.mono ∅)) (by walk_at "7") II
  have DJ:dw G 4 "nearest_of" fM:=CQ.fg (k:=3) hK Sx (V5 E (sd.mono ∅) (DL.mono ∅) (Od.mono ∅)) (by walk_at "7") Yk
  have Oe:cB G 5 "nearest" (eD pj):=Hl.fg (k:=4) hK Li (aap E (sf.mono ∅) (dD.mono ∅) (DJ.mono ∅) (se.mono ∅)) (by walk_at "7") IG
  have vy:dw G 6 "_law_one" tu:=C5.fg (k:=5) hK SM (Wj E (DP.mono ∅) (DR.mono ∅) (qB.mono ∅) (dD.mono ∅) (DH.mono ∅) (qD.mono ∅) (Oe.mono ∅)) (by walk_at "7") QY
  refine(Dv (k:=6) (sp:=Fv) hK C6.F SN (Wk E (vx.mono ∅) (yI.mono ∅) (Ob.mono ∅) (DS.mono ∅) (vy.mono ∅) (dD.mono ∅) (qB.mono ∅)) (by walk_at "7") Yo).imp λvs H Q E' h=>?_
  obtain⟨a,ns,rfl,hS,hl,q⟩:=h;refine⟨H,[.iL ns],λb=>b=.sh (.bl true),⟨aw.refl _,λq hq=>by rw[hT]at hq;cases hq⟩,.cons (.iL (by rw[<- hK];exact hS)) .nil,⟨ns,rfl,hl,rfl⟩,λv H' F' b _ _ _ _ r e=>?_⟩
  subst e;have r:Rep F' v (.bl true):=r;cases r;exact q H'
end
open PySem.W in
theorem all_mk{l:OpenLaw}{w:World}{K:Frag}{h:Heap}{mg:Str->Option Value}{fa:Addr}(X:K.In h)(Gs:h.Ns mainGlobals mg)(hfa:mg "law"=some (.ref fa))
  {aZ:Addr}
 {vd Dk uX vm Dl vf u0 Dr Dm uY Dp Dq uW uZ Ag qw qv qp qt qy Ah qu Af Ae uT uU vn vg uV vh vo vk qz:Addr}
 {Qx L6 XY Vb Qr LX QG Mh XZ Vd Qy L7 Qw L5 X7 Vl X1 Vf Qu L3 X4 Vi X5 Vj Qq LW Qv L4 X3 Vh QD Md QA L9 Qs LY Qt LZ QE Mf X6 Vk Qz L8 X2 Vg X0 Ve Qn LR Qo LU QH Mi QB Ma Qp LV QC Mb QI Mj QF Mg QJ BZ:Option Addr}
 {S7 Y2 SY Tg Y3 S8 S6 Zb Y5 S4 Y8 Y9 SX S5 Y7 Td Ta S2 S3 Te Za S9 Y6 Y4 SU SV Ti Tb SW Tc Tj Tf Tn:Array (Option Value)}
 {P0 O4 Ng RC Cq MD XM Xm VJ Yu Kw Vw PR OY M7 Rw Cg Mx Qj Ph Nr RM CB MM XN Xn VL Yv Kx Vy Qa O5 Nh RD Cr ME PZ O3 Nf RB Cp MC XX Xv VU YF KJ VG XQ Xp VN Yx Kz VA PX O1 Nb Rz Ck MA XT Xs VQ YB KD VD XU Xt VR YC KH VE PQ OX M6 Rv Ce Mw PY O2 Nc RA Cm MB XS Xr VP Yz KC VC Qg Pa Nn RJ Cy MJ Qc O7 Nj RF Cu MG PU OZ M8 Rx Ci My PV O0 M9 Ry Cj Mz Qh Pb Np RK Cz MK XW Xu VS YD KI VF Qb O6 Ni RE Ct MF XR Xq VO Yy KA VB XO Xo VM Yw Ky Vz PJ OT M3 Rr Ca Mt PL OU M4 Rt Cb Mu Qk Pj Nt RN CC MN Qe O8 Nk RG Cv MH PN OW M5 Ru Cd Mv Qf O9 Nm RH Cw MI Ql Pk Nu RO CD MO Qi Pg Nq RL CA ML Qm Ea C8 EZ xj CG:Value}
  {bL:Addr}
  {cu:Addr}
  {cO:Addr}
  {yf:Tok}
  {yg:Tok}
  (g_Kept:nsIn K mainGlobals "Kept"=some (some (.ref aZ))) (pg_Kept:plainGet K aZ Str.empty=true) (hd_Kept:hasDictIn K aZ=true) (po_Kept:plainOver K aZ=true) (sa_Kept:findIn K (.ref aZ) "__setattr__"=some (some (.builtin "object.__setattr__")))
  (n1_Kept:findIn K (.ref aZ) "way"=some none) (n2_Kept:findIn K (.ref aZ) "count"=some none) (n3_Kept:findIn K (.ref aZ) "points_by_name"=some none) (n4_Kept:findIn K (.ref aZ) "ever_put"=some none)
  (mk_Kept:makesIn K aZ=true) (kp_Kept:keepIn K (.ref aZ)=true)
  (a_q20:nsIn K mainGlobals "need_count"=some (some (.ref vd)))
  (l_q20:K.lookup vd=some ⟨P0,Qx,.func (fnOf "need_count" "need_count" (aK kn) (ao kn) (ag kn) .none O4 Ng RC L6 Cq MD),S7⟩)
  (c_q20:codeIn K Cq "need_count"=true) (k_q20:keepIn K (.ref vd)=true)
  (a_q0:nsIn K mainGlobals "need_as_many_numbers"=some (some (.ref Dk)))
  (l_q0:K.lookup Dk=some ⟨XM,XY,.func (fnOf "need_as_many_numbers" "need_as_many_numbers" (aK o5) (ao o5) (ag o5) .none Xm VJ Yu Vb Kw Vw),Y2⟩)
  (c_q0:codeIn K Kw "need_as_many_numbers"=true) (k_q0:keepIn K (.ref Dk)=true)
  (a_q14:nsIn K mainGlobals "need_points"=some (some (.ref uX)))
  (l_q14:K.lookup uX=some ⟨PR,Qr,.func (fnOf "need_points" "need_points" (aK j8) (ao j8) (ag j8) .none OY M7 Rw LX Cg Mx),SY⟩)
  (c_q14:codeIn K Cg "need_points"=true) (k_q14:keepIn K (.ref uX)=true)
  (a_q29:nsIn K mainGlobals "need_way"=some (some (.ref vm)))
  (l_q29:K.lookup vm=some ⟨Qj,QG,.func (fnOf "need_way" "need_way" (aK kB) (ao kB) (ag kB) .none Ph Nr RM Mh CB MM),Tg⟩)
  (c_q29:codeIn K CB "need_way"=true) (k_q29:keepIn K (.ref vm)=true)
  (a_q1:nsIn K mainGlobals "need_points_and_way"=some (some (.ref Dl)))
  (l_q1:K.lookup Dl=some ⟨XN,XZ,.func (fnOf "need_points_and_way" "need_points_and_way" (aK sQ) (ao sQ) (ag sQ) .none Xn VL Yv Vd Kx Vy),Y3⟩)
  (c_q1:codeIn K Kx "need_points_and_way"=true) (k_q1:keepIn K (.ref Dl)=true)
  (a_q21:nsIn K mainGlobals "need_place"=some (some (.ref vf)))
  (l_q21:K.lookup vf=some ⟨Qa,Qy,.func (fnOf "need_place" "need_place" (aK ko) (ao ko) (ag ko) .none O5 Nh RD L7 Cr ME),S8⟩)
  (c_q21:codeIn K Cr "need_place"=true) (k_q21:keepIn K (.ref vf)=true)
  (a_q19:nsIn K mainGlobals "need_bound"=some (some (.ref u0)))
  (l_q19:K.lookup u0=some ⟨PZ,Qw,.func (fnOf "need_bound" "need_bound" (aK kj) (ao kj) (ag kj) .none O3 Nf RB L5 Cp MC),S6⟩)
  (c_q19:codeIn K Cp "need_bound"=true) (k_q19:keepIn K (.ref u0)=true)
  (a_q9:nsIn K mainGlobals "far_between"=some (some (.ref Dr)))
  (l_q9:K.lookup Dr=some ⟨XX,X7,.func (fnOf "far_between" "far_between" (aK sW) (ao sW) (ag sW) .none Xv VU YF Vl KJ VG),Zb⟩)
  (c_q9:codeIn K KJ "far_between"=true) (k_q9:keepIn K (.ref Dr)=true)
  (a_q3:nsIn K mainGlobals "pairs_by_places"=some (some (.ref Dm)))
  (l_q3:K.lookup Dm=some ⟨XQ,X1,.func (fnOf "pairs_by_places" "pairs_by_places" (aK sS) (ao sS) (ag sS) .none Xp VN Yx Vf Kz VA),Y5⟩)
  (c_q3:codeIn K Kz "pairs_by_places"=true) (k_q3:keepIn K (.ref Dm)=true)
  (a_q17:nsIn K mainGlobals "near_pairs"=some (some (.ref uY)))
  (l_q17:K.lookup uY=some ⟨PX,Qu,.func (fnOf "near_pairs" "near_pairs" (aK kc) (ao kc) (ag kc) .none O1 Nb Rz L3 Ck MA),S4⟩)
  (c_q17:codeIn K Ck "near_pairs"=true) (k_q17:keepIn K (.ref uY)=true)
  (a_q6:nsIn K mainGlobals "nearest_among"=some (some (.ref Dp)))
  (l_q6:K.lookup Dp=some ⟨XT,X4,.func (fnOf "nearest_among" "nearest_among" (aK sU) (ao sU) (ag sU) .none Xs VQ YB Vi KD VD),Y8⟩)
  (c_q6:codeIn K KD "nearest_among"=true) (k_q6:keepIn K (.ref Dp)=true)
  (a_q7:nsIn K mainGlobals "nearest_other"=some (some (.ref Dq)))
  (l_q7:K.lookup Dq=some ⟨XU,X5,.func (fnOf "nearest_other" "nearest_other" (aK sV) (ao sV) (ag sV) .none Xt VR YC Vj KH VE),Y9⟩)
  (c_q7:codeIn K KH "nearest_other"=true) (k_q7:keepIn K (.ref Dq)=true)
  (a_q13:nsIn K mainGlobals "nearest_two"=some (some (.ref uW)))
  (l_q13:K.lookup uW=some ⟨PQ,Qq,.func (fnOf "nearest_two" "nearest_two" (aK j7) (ao j7) (ag j7) .none OX M6 Rv LW Ce Mw),SX⟩)
  (c_q13:codeIn K Ce "nearest_two"=true) (k_q13:keepIn K (.ref uW)=true)
  (a_q18:nsIn K mainGlobals "nearest_of"=some (some (.ref uZ)))
  (l_q18:K.lookup uZ=some ⟨PY,Qv,.func (fnOf "nearest_of" "nearest_of" (aK kh) (ao kh) (ag kh) .none O2 Nc RA L4 Cm MB),S5⟩)
  (c_q18:codeIn K Cm "nearest_of"=true) (k_q18:keepIn K (.ref uZ)=true)
  (a_q5:findIn K (.ref aZ) "__init__"=some (some (.ref Ag)))
  (l_q5:K.lookup Ag=some ⟨XS,X3,.func (fnOf "__init__" "Kept.__init__" (aK sT) (ao sT) (ag sT) .none Xr VP Yz Vh KC VC),Y7⟩)
  (c_q5:codeIn K KC "Kept.__init__"=true) (k_q5:keepIn K (.ref Ag)=true) (i_q5:isFn K (.ref Ag)=true)
  (a_q26:findIn K (.ref aZ) "put"=some (some (.ref qw)))
  (l_q26:K.lookup qw=some ⟨Qg,QD,.func (fnOf "put" "Kept.put" (aK ic) (ao ic) (ag ic) .none Pa Nn RJ Md Cy MJ),Td⟩)
  (c_q26:codeIn K Cy "Kept.put"=true) (k_q26:keepIn K (.ref qw)=true) (i_q26:isFn K (.ref qw)=true)
  (a_q23:findIn K (.ref aZ) "take"=some (some (.ref qv)))
  (l_q23:K.lookup qv=some ⟨Qc,QA,.func (fnOf "take" "Kept.take" (aK h9) (ao h9) (ag h9) .none O7 Nj RF L9 Cu MG),Ta⟩)
  (c_q23:codeIn K Cu "Kept.take"=true) (k_q23:keepIn K (.ref qv)=true) (i_q23:isFn K (.ref qv)=true)
  (a_q15:findIn K (.ref aZ) "names"=some (some (.ref qp)))
  (l_q15:K.lookup qp=some ⟨PU,Qs,.func (fnOf "names" "Kept.names" (aK j9) (ao j9) (ag j9) .none OZ M8 Rx LY Ci My),S2⟩)
  (c_q15:codeIn K Ci "Kept.names"=true) (k_q15:keepIn K (.ref qp)=true) (i_q15:isFn K (.ref qp)=true)
  (a_q16:findIn K (.ref aZ) "point"=some (some (.ref qt)))
  (l_q16:K.lookup qt=some ⟨PV,Qt,.func (fnOf "point" "Kept.point" (aK h8) (ao h8) (ag h8) .none O0 M9 Ry LZ Cj Mz),S3⟩)
  (c_q16:codeIn K Cj "Kept.point"=true) (k_q16:keepIn K (.ref qt)=true) (i_q16:isFn K (.ref qt)=true)
  (a_q27:findIn K (.ref aZ) "two"=some (some (.ref qy)))
  (l_q27:K.lookup qy=some ⟨Qh,QE,.func (fnOf "two" "Kept.two" (aK kz) (ao kz) (ag kz) .none Pb Np RK Mf Cz MK),Te⟩)
  (c_q27:codeIn K Cz "Kept.two"=true) (k_q27:keepIn K (.ref qy)=true) (i_q27:isFn K (.ref qy)=true)
  (a_q8:findIn K (.ref aZ) "nearest"=some (some (.ref Ah)))
  (l_q8:K.lookup Ah=some ⟨XW,X6,.func (fnOf "nearest" "Kept.nearest" (aK o7) (ao o7) (ag o7) .none Xu VS YD Vk KI VF),Za⟩)
  (c_q8:codeIn K KI "Kept.nearest"=true) (k_q8:keepIn K (.ref Ah)=true) (i_q8:isFn K (.ref Ah)=true)
  (a_q22:findIn K (.ref aZ) "near"=some (some (.ref qu)))
  (l_q22:K.lookup qu=some ⟨Qb,Qz,.func (fnOf "near" "Kept.near" (aK kq) (ao kq) (ag kq) .none O6 Ni RE L8 Ct MF),S9⟩)
  (c_q22:codeIn K Ct "Kept.near"=true) (k_q22:keepIn K (.ref qu)=true) (i_q22:isFn K (.ref qu)=true)
  (a_q4:findIn K (.ref aZ) "need_name"=some (some (.ref Af)))
  (l_q4:K.lookup Af=some ⟨XR,X2,.func (fnOf "need_name" "Kept.need_name" (aK o6) (ao o6) (ag o6) .none Xq VO Yy Vg KA VB),Y6⟩)
  (c_q4:codeIn K KA "Kept.need_name"=true) (k_q4:keepIn K (.ref Af)=true) (i_q4:isFn K (.ref Af)=true)
  (a_q2:findIn K (.ref aZ) "plain_points"=some (some (.ref Ae)))
  (l_q2:K.lookup Ae=some ⟨XO,X0,.func (fnOf "plain_points" "Kept.plain_points" (aK sR) (ao sR) (ag sR) .none Xo VM Yw Ve Ky Vz),Y4⟩)
  (c_q2:codeIn K Ky "Kept.plain_points"=true) (k_q2:keepIn K (.ref Ae)=true) (i_q2:isFn K (.ref Ae)=true)
  (a_q10:nsIn K mainGlobals "_law_cell_at"=some (some (.ref uT)))
  (l_q10:K.lookup uT=some ⟨PJ,Qn,.func (fnOf "_law_cell_at" "_law_cell_at" (aK jZ) (ao jZ) (ag jZ) .none OT M3 Rr LR Ca Mt),SU⟩)
  (c_q10:codeIn K Ca "_law_cell_at"=true) (k_q10:keepIn K (.ref uT)=true)
  (a_q11:nsIn K mainGlobals "_law_numbers"=some (some (.ref uU)))
  (l_q11:K.lookup uU=some ⟨PL,Qo,.func (fnOf "_law_numbers" "_law_numbers" (aK j4) (ao j4) (ag j4) .none OU M4 Rt LU Cb Mu),SV⟩)
  (c_q11:codeIn K Cb "_law_numbers"=true) (k_q11:keepIn K (.ref uU)=true)
  (a_q30:nsIn K mainGlobals "_law_far"=some (some (.ref vn)))
  (l_q30:K.lookup vn=some ⟨Qk,QH,.func (fnOf "_law_far" "_law_far" (aK kE) (ao kE) (ag kE) .none Pj Nt RN Mi CC MN),Ti⟩)
  (c_q30:codeIn K CC "_law_far"=true) (k_q30:keepIn K (.ref vn)=true)
  (a_q24:nsIn K mainGlobals "_law_flags"=some (some (.ref vg)))
  (l_q24:K.lookup vg=some ⟨Qe,QB,.func (fnOf "_law_flags" "_law_flags" (aK kx) (ao kx) (ag kx) .none O8 Nk RG Ma Cv MH),Tb⟩)
  (c_q24:codeIn K Cv "_law_flags"=true) (k_q24:keepIn K (.ref vg)=true)
  (a_q12:nsIn K mainGlobals "_law_refused"=some (some (.ref uV)))
  (l_q12:K.lookup uV=some ⟨PN,Qp,.func (fnOf "_law_refused" "_law_refused" (aK j6) (ao j6) (ag j6) .none OW M5 Ru LV Cd Mv),SW⟩)
  (c_q12:codeIn K Cd "_law_refused"=true) (k_q12:keepIn K (.ref uV)=true)
  (a_q25:nsIn K mainGlobals "_law_pairs"=some (some (.ref vh)))
  (l_q25:K.lookup vh=some ⟨Qf,QC,.func (fnOf "_law_pairs" "_law_pairs" (aK ky) (ao ky) (ag ky) .none O9 Nm RH Mb Cw MI),Tc⟩)
  (c_q25:codeIn K Cw "_law_pairs"=true) (k_q25:keepIn K (.ref vh)=true)
  (a_q31:nsIn K mainGlobals "_law_one"=some (some (.ref vo)))
  (l_q31:K.lookup vo=some ⟨Ql,QI,.func (fnOf "_law_one" "_law_one" (aK kF) (ao kF) (ag kF) .none Pk Nu RO Mj CD MO),Tj⟩)
  (c_q31:codeIn K CD "_law_one"=true) (k_q31:keepIn K (.ref vo)=true)
  (a_q28:nsIn K mainGlobals "_law_deed"=some (some (.ref vk)))
  (l_q28:K.lookup vk=some ⟨Qi,QF,.func (fnOf "_law_deed" "_law_deed" (aK kA) (ao kA) (ag kA) .none Pg Nq RL Mg CA ML),Tf⟩)
  (c_q28:codeIn K CA "_law_deed"=true) (k_q28:keepIn K (.ref vk)=true)
  (a_q32:nsIn K mainGlobals "law"=some (some (.ref qz)))
  (l_q32:K.lookup qz=some ⟨Qm,QJ,.func (fnOf "law" "law" (aK gB) (ao gB) (ag gB) .none Ea C8 EZ BZ xj CG),Tn⟩)
  (c_q32:codeIn K xj "law"=true) (k_q32:keepIn K (.ref qz)=true)
  (g_NearError:nsIn K mainGlobals "NearError"=some (some (.ref bL)))
  (e_NearError:excIn K bL B6 "ValueError.__new__"=true) (m_NearError:Vc.mroIn K bL=[.ref bL,.type "ValueError",.type "Exception",.type "BaseException",.type "object"]) (w_NearError:Vx.jK K bL=true)
  (g_NoPoints:nsIn K mainGlobals "NoPoints"=some (some (.ref cu)))
  (e_NoPoints:excIn K cu B6 "ValueError.__new__"=true) (m_NoPoints:Vc.mroIn K cu=[.ref cu,.ref bL,.type "ValueError",.type "Exception",.type "BaseException",.type "object"]) (w_NoPoints:Vx.jK K cu=true)
  (g_NoPlace:nsIn K mainGlobals "NoPlace"=some (some (.ref cO)))
  (e_NoPlace:excIn K cO B6 "ValueError.__new__"=true) (m_NoPlace:Vc.mroIn K cO=[.ref cO,.ref bL,.type "ValueError",.type "Exception",.type "BaseException",.type "object"]) (w_NoPlace:Vx.jK K cO=true)
  (nd_cls:[bL,cu,cO].Nodup)
  (z_ValueError:nsIn K mainGlobals "ValueError"=some none)
  (z_abs:nsIn K mainGlobals "abs"=some none)
  (z_int:nsIn K mainGlobals "int"=some none)
  (z_isinstance:nsIn K mainGlobals "isinstance"=some none)
  (z_len:nsIn K mainGlobals "len"=some none)
  (z_list:nsIn K mainGlobals "list"=some none)
  (z_min:nsIn K mainGlobals "min"=some none)
  (z_range:nsIn K mainGlobals "range"=some none)
  (z_sorted:nsIn K mainGlobals "sorted"=some none)
  (z_sum:nsIn K mainGlobals "sum"=some none)
  (z_tuple:nsIn K mainGlobals "tuple"=some none)
  (z_zip:nsIn K mainGlobals "zip"=some none)
  (u_SQUARES:nsIn K mainGlobals "SQUARES"=some (some (.str "squares" yf)))
  (u_STREETS:nsIn K mainGlobals "STREETS"=some (some (.str "streets" yg))):
  ∃fd:FuncData,(∀(s:Shared) (v:Value),BindsTo s fd ⟨[v],[]⟩ [("script",v)])/\∀base:Heap,K.In base->base.Ns mainGlobals mg->cm l.prog w K mg base mw 7 fa fd ["script"] (zJ K):=by
 have e:=hfa.symm.trans (mg_of X Gs a_q32);cases e;refine⟨fnOf "law" "law" (aK gB) (ao gB) (ag gB) .none Ea C8 EZ BZ xj CG,λs v=>.of_eq rfl,λbase _ _=>?_⟩
 letI:KF:=⟨K,λx=>if x="NearError" then bL else if x="NoPoints" then cu else if x="NoPlace" then cO else if x="Kept" then aZ else 0,[]⟩
 have dI:KF.cls "Kept"=aZ:=(if_neg ∅).trans<|(if_neg ∅).trans<|(if_neg ∅).trans<|if_pos rfl
 have kg:KG ⟨l.prog,w,K,mg,base⟩:=⟨by rw[show kC=aZ from dI];exact⟨pg_Kept,hd_Kept,po_Kept,sa_Kept⟩,λf hf=>by
  rw[show kC=aZ from dI]
  simp only[List.mem_cons,List.not_mem_nil,or_false]at hf;rcases hf with rfl|rfl|rfl|rfl
  ·exact n1_Kept
  ·exact n2_Kept
  ·exact n3_Kept
  ·exact n4_Kept⟩
 have cL:KF.cls "NearError"=bL:=if_pos rfl;have eQ:KF.cls "NoPoints"=cu:=(if_neg ∅).trans<|if_pos rfl
 have fD:KF.cls "NoPlace"=cO:=(if_neg ∅).trans<|(if_neg ∅).trans<|if_pos rfl
 have xc:jB ⟨l.prog,w,K,mg,base⟩ K45.XL:=by
  refine⟨⟨λc hc=>?_,λc hc=>?_,λc hc d hd e=>?_,by decide⟩,λc hc=>?_⟩
  ·simp only[K45.XL,List.mem_cons,List.not_mem_nil,or_false]at hc
   rcases hc with rfl|rfl|rfl
   ·exact⟨by rw[cL];exact mg_of X Gs g_NearError,by rw[cL];exact e_NearError⟩
   ·exact⟨by rw[eQ];exact mg_of X Gs g_NoPoints,by rw[eQ];exact e_NoPoints⟩
   ·exact⟨by rw[fD];exact mg_of X Gs g_NoPlace,by rw[fD];exact e_NoPlace⟩
  ·simp only[K45.XL,List.mem_cons,List.not_mem_nil,or_false]at hc
   rcases hc with rfl|rfl|rfl
   ·rw[cL];exact m_NearError
   ·rw[eQ,cL];exact m_NoPoints
   ·rw[fD,cL];exact m_NoPlace
  ·exact Hd (cs:=K45.XL) (as:=[bL,cu,cO]) (by simp only[K45.XL,List.map_cons,List.map_nil,cL,eQ,fD]) nd_cls hc hd e
  ·simp only[K45.XL,List.mem_cons,List.not_mem_nil,or_false]at hc
   rcases hc with rfl|rfl|rfl
   ·rw[cL];exact w_NearError
   ·rw[eQ];exact w_NoPoints
   ·rw[fD];exact w_NoPlace
 have E:Gl ⟨l.prog,w,K,mg,base⟩:=⟨xc,kg,mg_none_of X Gs z_ValueError,mg_none_of X Gs z_abs,mg_none_of X Gs z_int,mg_none_of X Gs z_isinstance,mg_none_of X Gs z_len,mg_none_of X Gs z_list,mg_none_of X Gs z_min,mg_none_of X Gs z_range,mg_none_of X Gs z_sorted,mg_none_of X Gs z_sum,mg_none_of X Gs z_tuple,mg_none_of X Gs z_zip,⟨_,.str "squares",mg_of X Gs u_SQUARES,⟨_,rfl⟩,λF=>.str _⟩,⟨_,.str "streets",mg_of X Gs u_STREETS,⟨_,rfl⟩,λF=>.str _⟩⟩;have Ke:=bh (K:=K) (st:=kn) l_q20 c_q20 k_q20;have CU:d9 ⟨l.prog,w,K,mg,base⟩ "need_count" kn ["count"] _ _:=⟨Ke,mg_of X Gs a_q20,Ke.binds λ_ _ _ _ _ _ us hl=>GW (λ_=>rfl) us hl⟩;have UX:=bh (K:=K) (st:=o5) l_q0 c_q0 k_q0;have Hj:d9 ⟨l.prog,w,K,mg,base⟩ "need_as_many_numbers" o5 ["point","count"] _ _:=⟨UX,mg_of X Gs a_q0,UX.binds λ_ _ _ _ _ _ us hl=>ln2 (λ_ _=>rfl) us hl⟩;have J7:=bh (K:=K) (st:=j8) l_q14 c_q14 k_q14;have CN:d9 ⟨l.prog,w,K,mg,base⟩ "need_points" j8 ["points"] _ _:=⟨J7,mg_of X Gs a_q14,J7.binds λ_ _ _ _ _ _ us hl=>GW (λ_=>rfl) us hl⟩;have Kn:=bh (K:=K) (st:=kB) l_q29 c_q29 k_q29;have C3:d9 ⟨l.prog,w,K,mg,base⟩ "need_way" kB ["way"] _ _:=⟨Kn,mg_of X Gs a_q29,Kn.binds λ_ _ _ _ _ _ us hl=>GW (λ_=>rfl) us hl⟩;have UY:=bh (K:=K) (st:=sQ) l_q1 c_q1 k_q1;have MR:d9 ⟨l.prog,w,K,mg,base⟩ "need_points_and_way" sQ ["points","way"] _ _:=⟨UY,mg_of X Gs a_q1,UY.binds λ_ _ _ _ _ _ us hl=>ln2 (λ_ _=>rfl) us hl⟩;have Kf:=bh (K:=K) (st:=ko) l_q21 c_q21 k_q21;have CV:d9 ⟨l.prog,w,K,mg,base⟩ "need_place" ko ["points","place"] _ _:=⟨Kf,mg_of X Gs a_q21,Kf.binds λ_ _ _ _ _ _ us hl=>ln2 (λ_ _=>rfl) us hl⟩;have Kc:=bh (K:=K) (st:=kj) l_q19 c_q19 k_q19;have CT:d9 ⟨l.prog,w,K,mg,base⟩ "need_bound" kj ["bound"] _ _:=⟨Kc,mg_of X Gs a_q19,Kc.binds λ_ _ _ _ _ _ us hl=>GW (λ_=>rfl) us hl⟩;have U6:=bh (K:=K) (st:=sW) l_q9 c_q9 k_q9;have MY:d9 ⟨l.prog,w,K,mg,base⟩ "far_between" sW ["way","point","other"] _ _:=⟨U6,mg_of X Gs a_q9,U6.binds λ_ _ _ _ _ _ us hl=>K5 (λ_ _ _=>rfl) us hl⟩;have U0:=bh (K:=K) (st:=sS) l_q3 c_q3 k_q3;have MT:d9 ⟨l.prog,w,K,mg,base⟩ "pairs_by_places" sS ["points","way"] _ _:=⟨U0,mg_of X Gs a_q3,U0.binds λ_ _ _ _ _ _ us hl=>ln2 (λ_ _=>rfl) us hl⟩;have Ka:=bh (K:=K) (st:=kc) l_q17 c_q17 k_q17;have CP:d9 ⟨l.prog,w,K,mg,base⟩ "near_pairs" kc ["points","way","bound"] _ _:=⟨Ka,mg_of X Gs a_q17,Ka.binds λ_ _ _ _ _ _ us hl=>K5 (λ_ _ _=>rfl) us hl⟩;have U3:=bh (K:=K) (st:=sU) l_q6 c_q6 k_q6;have MV:d9 ⟨l.prog,w,K,mg,base⟩ "nearest_among" sU ["points","way","point","places"] _ _:=⟨U3,mg_of X Gs a_q6,U3.binds λ_ _ _ _ _ _ us hl=>ln4 (λ_ _ _ _=>rfl) us hl⟩
 have U4:=bh (K:=K) (st:=sV) l_q7 c_q7 k_q7;have MX:d9 ⟨l.prog,w,K,mg,base⟩ "nearest_other" sV ["points","way","place"] _ _:=⟨U4,mg_of X Gs a_q7,U4.binds λ_ _ _ _ _ _ us hl=>K5 (λ_ _ _=>rfl) us hl⟩;have J6:=bh (K:=K) (st:=j7) l_q13 c_q13 k_q13;have CL:d9 ⟨l.prog,w,K,mg,base⟩ "nearest_two" j7 ["points","way"] _ _:=⟨J6,mg_of X Gs a_q13,J6.binds λ_ _ _ _ _ _ us hl=>ln2 (λ_ _=>rfl) us hl⟩;have Kb:=bh (K:=K) (st:=kh) l_q18 c_q18 k_q18;have CQ:d9 ⟨l.prog,w,K,mg,base⟩ "nearest_of" kh ["points","way","place"] _ _:=⟨Kb,mg_of X Gs a_q18,Kb.binds λ_ _ _ _ _ _ us hl=>K5 (λ_ _ _=>rfl) us hl⟩;have U2:=bh (K:=K) (st:=sT) l_q5 c_q5 k_q5;have MU:Zz ⟨l.prog,w,K,mg,base⟩ "__init__" "Kept.__init__" sT ["self","way","count"] _ _:=⟨U2,by rw[show kC=aZ from dI];exact⟨mk_Kept,a_q5,i_q5,kp_Kept⟩,U2.binds λ_ _ _ _ _ _ us hl=>K5 (λ_ _ _=>rfl) us hl,by rw[show kC=aZ from dI];exact mg_of X Gs g_Kept⟩
 have Kk:=bh (K:=K) (st:=ic) l_q26 c_q26 k_q26;have yz:nc ⟨l.prog,w,K,mg,base⟩ "put" "Kept.put" ic ["self","point"] _ _:=⟨Kk,by rw[show kC=aZ from dI];exact⟨a_q26,i_q26,k_q26⟩,Kk.binds λ_ _ _ _ _ _ us hl=>ln2 (λ_ _=>rfl) us hl⟩
 have Kh:=bh (K:=K) (st:=h9) l_q23 c_q23 k_q23;have yy:nc ⟨l.prog,w,K,mg,base⟩ "take" "Kept.take" h9 ["self","name"] _ _:=⟨Kh,by rw[show kC=aZ from dI];exact⟨a_q23,i_q23,k_q23⟩,Kh.binds λ_ _ _ _ _ _ us hl=>ln2 (λ_ _=>rfl) us hl⟩
 have J8:=bh (K:=K) (st:=j9) l_q15 c_q15 k_q15;have CO:nc ⟨l.prog,w,K,mg,base⟩ "names" "Kept.names" j9 ["self"] _ _:=⟨J8,by rw[show kC=aZ from dI];exact⟨a_q15,i_q15,k_q15⟩,J8.binds λ_ _ _ _ _ _ us hl=>GW (λ_=>rfl) us hl⟩
 have J9:=bh (K:=K) (st:=h8) l_q16 c_q16 k_q16;have yx:nc ⟨l.prog,w,K,mg,base⟩ "point" "Kept.point" h8 ["self","name"] _ _:=⟨J9,by rw[show kC=aZ from dI];exact⟨a_q16,i_q16,k_q16⟩,J9.binds λ_ _ _ _ _ _ us hl=>ln2 (λ_ _=>rfl) us hl⟩
 have Kl:=bh (K:=K) (st:=kz) l_q27 c_q27 k_q27;have C0:nc ⟨l.prog,w,K,mg,base⟩ "two" "Kept.two" kz ["self"] _ _:=⟨Kl,by rw[show kC=aZ from dI];exact⟨a_q27,i_q27,k_q27⟩,Kl.binds λ_ _ _ _ _ _ us hl=>GW (λ_=>rfl) us hl⟩
 have U5:=bh (K:=K) (st:=o7) l_q8 c_q8 k_q8;have Hl:nc ⟨l.prog,w,K,mg,base⟩ "nearest" "Kept.nearest" o7 ["self","name"] _ _:=⟨U5,by rw[show kC=aZ from dI];exact⟨a_q8,i_q8,k_q8⟩,U5.binds λ_ _ _ _ _ _ us hl=>ln2 (λ_ _=>rfl) us hl⟩
 have Kg:=bh (K:=K) (st:=kq) l_q22 c_q22 k_q22;have CW:nc ⟨l.prog,w,K,mg,base⟩ "near" "Kept.near" kq ["self","bound"] _ _:=⟨Kg,by rw[show kC=aZ from dI];exact⟨a_q22,i_q22,k_q22⟩,Kg.binds λ_ _ _ _ _ _ us hl=>ln2 (λ_ _=>rfl) us hl⟩
 have U1:=bh (K:=K) (st:=o6) l_q4 c_q4 k_q4;have Hk:nc ⟨l.prog,w,K,mg,base⟩ "need_name" "Kept.need_name" o6 ["self","name"] _ _:=⟨U1,by rw[show kC=aZ from dI];exact⟨a_q4,i_q4,k_q4⟩,U1.binds λ_ _ _ _ _ _ us hl=>ln2 (λ_ _=>rfl) us hl⟩
 have UZ:=bh (K:=K) (st:=sR) l_q2 c_q2 k_q2;have MS:nc ⟨l.prog,w,K,mg,base⟩ "plain_points" "Kept.plain_points" sR ["self"] _ _:=⟨UZ,by rw[show kC=aZ from dI];exact⟨a_q2,i_q2,k_q2⟩,UZ.binds λ_ _ _ _ _ _ us hl=>GW (λ_=>rfl) us hl⟩
 have J0:=bh (K:=K) (st:=jZ) l_q10 c_q10 k_q10;have CI:d9 ⟨l.prog,w,K,mg,base⟩ "_law_cell_at" jZ ["script","k"] _ _:=⟨J0,mg_of X Gs a_q10,J0.binds λ_ _ _ _ _ _ us hl=>ln2 (λ_ _=>rfl) us hl⟩;have J4:=bh (K:=K) (st:=j4) l_q11 c_q11 k_q11;have CJ:d9 ⟨l.prog,w,K,mg,base⟩ "_law_numbers" j4 ["cell","many"] _ _:=⟨J4,mg_of X Gs a_q11,J4.binds λ_ _ _ _ _ _ us hl=>ln2 (λ_ _=>rfl) us hl⟩;have Ko:=bh (K:=K) (st:=kE) l_q30 c_q30 k_q30;have C4:d9 ⟨l.prog,w,K,mg,base⟩ "_law_far" kE ["one","other","way"] _ _:=⟨Ko,mg_of X Gs a_q30,Ko.binds λ_ _ _ _ _ _ us hl=>K5 (λ_ _ _=>rfl) us hl⟩;have Ki:=bh (K:=K) (st:=kx) l_q24 c_q24 k_q24;have CY:d9 ⟨l.prog,w,K,mg,base⟩ "_law_flags" kx ["e"] _ _:=⟨Ki,mg_of X Gs a_q24,Ki.binds λ_ _ _ _ _ _ us hl=>GW (λ_=>rfl) us hl⟩;have J5:=bh (K:=K) (st:=j6) l_q12 c_q12 k_q12;have CK:d9 ⟨l.prog,w,K,mg,base⟩ "_law_refused" j6 ["kept","place","door"] _ _:=⟨J5,mg_of X Gs a_q12,J5.binds λ_ _ _ _ _ _ us hl=>K5 (λ_ _ _=>rfl) us hl⟩;have Kj:=bh (K:=K) (st:=ky) l_q25 c_q25 k_q25;have CZ:d9 ⟨l.prog,w,K,mg,base⟩ "_law_pairs" ky ["mine","way"] _ _:=⟨Kj,mg_of X Gs a_q25,Kj.binds λ_ _ _ _ _ _ us hl=>ln2 (λ_ _=>rfl) us hl⟩;have Kq:=bh (K:=K) (st:=kF) l_q31 c_q31 k_q31;have C5:d9 ⟨l.prog,w,K,mg,base⟩ "_law_one" kF ["kept","mine","way","which","numbers"] _ _:=⟨Kq,mg_of X Gs a_q31,Kq.binds λ_ _ _ _ _ _ us hl=>ln5 (λ_ _ _ _ _=>rfl) us hl⟩;have Km:=bh (K:=K) (st:=kA) l_q28 c_q28 k_q28;have C1:d9 ⟨l.prog,w,K,mg,base⟩ "_law_deed" kA ["kept","mine","count","coming","numbers"] _ _:=⟨Km,mg_of X Gs a_q28,Km.binds λ_ _ _ _ _ _ us hl=>ln5 (λ_ _ _ _ _=>rfl) us hl⟩;have Kr:=bh (K:=K) (st:=gB) l_q32 c_q32 k_q32;have C6:d9 ⟨l.prog,w,K,mg,base⟩ "law" gB ["script"] _ _:=⟨Kr,mg_of X Gs a_q32,Kr.binds λ_ _ _ _ _ _ us hl=>GW (λ_=>rfl) us hl⟩;exact QK rfl rfl E CU Hj CN C3 MR CV CT MY MT CP MV MX CL CQ MU yz yy CO yx C0 Hl CW Hk MS CI CJ C4 CY CK CZ C5 C1 C6
theorem walk{l:PySem.W.OpenLaw}{q:Program}{loose:List Str}{XP:(Str->Option Value)->Heap->Prop}{YP:World->Heap->Prop}{d:DefRec}{K:Params->PySem.W.Frag}(hn:l.most=some 63)(WQ:d.params.defaults=[])
  (hY:∀(w:World) (h:Heap),YP w h->(K w.params).In h)
  (F:∀(w:World) (mg:Str->Option Value) (fa:Addr) (h:Heap),(K w.params).In h->h.Ns mainGlobals mg->mg d.name=some (.ref fa) ->
   ∃fd:FuncData,(∀(s:Shared) (u:Value),BindsTo s fd ⟨[u],[]⟩ [("script",u)])/\∀base:Heap,(K w.params).In base->base.Ns mainGlobals mg->cm l.prog w (K w.params) mg base mw 7 fa fd ["script"] (zJ (K w.params))):
  PySem.W.WalkO q loose XP YP l.row.toRowW d [] (λf vs=>PySem.call f vs):=
 L2.JL (n:=63) (k:=7) (x:="script") (CX:=λ_=>mw) (sp:=λw=>zJ (K w.params)) hn ∅ WQ ⟨rfl,by decide,by decide⟩ hY F (λ_ _ a ns hl _ hS=>⟨a,ns,rfl,hS,hl,λ_=>rfl⟩) λ_ _ _ _ _ z=>z
end K45
namespace PySem.W.Fast
theorem tw10050920334482281946:True:=⟨⟩
theorem tw10101489467406910043:True:=⟨⟩
theorem tw10198658988890481004:True:=⟨⟩
theorem tw1028270693128514305:True:=⟨⟩
theorem tw1038082746474000377:True:=⟨⟩
theorem tw10702394463902976625:True:=⟨⟩
theorem tw10756246691989817239:True:=⟨⟩
theorem tw10816775094954429577:True:=⟨⟩
theorem tw10912275885395906419:True:=⟨⟩
theorem tw10924471836278612200:True:=⟨⟩
theorem tw11054445717094490019:True:=⟨⟩
theorem tw11133349887549134955:True:=⟨⟩
theorem tw11139852545409579664:True:=⟨⟩
theorem tw11183566507239755991:True:=⟨⟩
theorem tw11413414665780391419:True:=⟨⟩
theorem tw11459055290335589615:True:=⟨⟩
theorem tw11503069188597991221:True:=⟨⟩
theorem tw11512737992434390243:True:=⟨⟩
theorem tw11761957313084850341:True:=⟨⟩
theorem tw1201576284528913885:True:=⟨⟩
theorem tw12081663922002912230:True:=⟨⟩
theorem tw1213877974875358493:True:=⟨⟩
theorem tw12148296355318780375:True:=⟨⟩
theorem tw12200365678496005751:True:=⟨⟩
theorem tw12221835282098666028:True:=⟨⟩
theorem tw12273181704282089306:True:=⟨⟩
theorem tw12465715799180632826:True:=⟨⟩
theorem tw12703110428974254566:True:=⟨⟩
theorem tw12735698203679721385:True:=⟨⟩
theorem tw1276754550685412939:True:=⟨⟩
theorem tw12792031701560054776:True:=⟨⟩
theorem tw1290843342134055740:True:=⟨⟩
theorem tw13095407223217473175:True:=⟨⟩
theorem tw13209661921168797121:True:=⟨⟩
theorem tw13245764798674525527:True:=⟨⟩
theorem tw13301721284525306446:True:=⟨⟩
theorem tw13469880507455012454:True:=⟨⟩
theorem tw13574170537368185535:True:=⟨⟩
theorem tw13657993513410694615:True:=⟨⟩
theorem tw1372297536315187487:True:=⟨⟩
theorem tw13853778738311008102:True:=⟨⟩
theorem tw13929756693355181037:True:=⟨⟩
theorem tw14203845934384940472:True:=⟨⟩
theorem tw14335961315957849209:True:=⟨⟩
theorem tw14362975243785984897:True:=⟨⟩
theorem tw14381608658704007670:True:=⟨⟩
theorem tw14400866552883635715:True:=⟨⟩
theorem tw14574204715220465734:True:=⟨⟩
theorem tw14700528439832030458:True:=⟨⟩
theorem tw14759934089126533559:True:=⟨⟩
theorem tw14974774510454284777:True:=⟨⟩
theorem tw15017172602965561072:True:=⟨⟩
theorem tw15018209351574855413:True:=⟨⟩
theorem tw15071851012932950535:True:=⟨⟩
theorem tw15128671073057094474:True:=⟨⟩
theorem tw15155658166113815563:True:=⟨⟩
theorem tw15261312448798898362:True:=⟨⟩
theorem tw1536033243350653405:True:=⟨⟩
theorem tw15360981566589946156:True:=⟨⟩
theorem tw15595340975433898835:True:=⟨⟩
theorem tw15605270382021483666:True:=⟨⟩
theorem tw1565804672307005647:True:=⟨⟩
theorem tw15660237950387281919:True:=⟨⟩
theorem tw15703221088781588007:True:=⟨⟩
theorem tw15736652187558860759:True:=⟨⟩
theorem tw15758105200653806674:True:=⟨⟩
theorem tw15886760652465128668:True:=⟨⟩
theorem tw16028004325618325449:True:=⟨⟩
theorem tw16091778783966480519:True:=⟨⟩
theorem tw16131403909985141416:True:=⟨⟩
theorem tw16143664718783355588:True:=⟨⟩
theorem tw16225143016901766669:True:=⟨⟩
theorem tw16254710703523641460:True:=⟨⟩
theorem tw1627160646978882277:True:=⟨⟩
theorem tw16330639566563351497:True:=⟨⟩
theorem tw16409507568238318842:True:=⟨⟩
theorem tw16460034471750070547:True:=⟨⟩
theorem tw16490976625504697831:True:=⟨⟩
theorem tw16491961975646857368:True:=⟨⟩
theorem tw16521241266522648227:True:=⟨⟩
theorem tw16686197454689479763:True:=⟨⟩
theorem tw16942796120136696223:True:=⟨⟩
theorem tw16970095435241361748:True:=⟨⟩
theorem tw17222908605977214378:True:=⟨⟩
theorem tw17281747909036306017:True:=⟨⟩
theorem tw172863149281435394:True:=⟨⟩
theorem tw17309946196636358050:True:=⟨⟩
theorem tw1744903126458444907:True:=⟨⟩
theorem tw17456533474554502299:True:=⟨⟩
theorem tw17486680518303816937:True:=⟨⟩
theorem tw1760203016912008767:True:=⟨⟩
theorem tw17698072366952483965:True:=⟨⟩
theorem tw17719505875304491480:True:=⟨⟩
theorem tw17887628248852034083:True:=⟨⟩
theorem tw18097220755157363921:True:=⟨⟩
theorem tw1814940940484211943:True:=⟨⟩
theorem tw18181576045021894188:True:=⟨⟩
theorem tw18252500253290061982:True:=⟨⟩
theorem tw18271402253821802207:True:=⟨⟩
theorem tw18369245692527160630:True:=⟨⟩
theorem tw18420552410434223660:True:=⟨⟩
theorem tw1844189491491338959:True:=⟨⟩
theorem tw1963023368154221505:True:=⟨⟩
theorem tw2032670497194626607:True:=⟨⟩
theorem tw2309704625362457941:True:=⟨⟩
theorem tw2326580538273525083:True:=⟨⟩
theorem tw2335885448070821472:True:=⟨⟩
theorem tw2346247553123052192:True:=⟨⟩
theorem tw2390321342930351431:True:=⟨⟩
theorem tw2457769401246528149:True:=⟨⟩
theorem tw2544490591686239255:True:=⟨⟩
theorem tw2556964713666234346:True:=⟨⟩
theorem tw2644878228640715474:True:=⟨⟩
theorem tw2682310616306652488:True:=⟨⟩
theorem tw2878950594511726687:True:=⟨⟩
theorem tw3215386096769693325:True:=⟨⟩
theorem tw3286154470296031805:True:=⟨⟩
theorem tw3361596987232607541:True:=⟨⟩
theorem tw3384694253644150642:True:=⟨⟩
theorem tw339019264486685923:True:=⟨⟩
theorem tw3390628761170963705:True:=⟨⟩
theorem tw3447993944343596119:True:=⟨⟩
theorem tw3465059265628945718:True:=⟨⟩
theorem tw3626068837938297145:True:=⟨⟩
theorem tw3627421031813422199:True:=⟨⟩
theorem tw3754864898744658665:True:=⟨⟩
theorem tw3763731492377273086:True:=⟨⟩
theorem tw3920401559025526561:True:=⟨⟩
theorem tw3995958515657361613:True:=⟨⟩
theorem tw4149268515218963315:True:=⟨⟩
theorem tw4184420495664953115:True:=⟨⟩
theorem tw4194434023752069912:True:=⟨⟩
theorem tw4298822082299229473:True:=⟨⟩
theorem tw4439973454034625528:True:=⟨⟩
theorem tw4626999703114521939:True:=⟨⟩
theorem tw4689082329582663686:True:=⟨⟩
theorem tw4849998246652220750:True:=⟨⟩
theorem tw4932051768611979983:True:=⟨⟩
theorem tw4942811548241656776:True:=⟨⟩
theorem tw4976702263067591105:True:=⟨⟩
theorem tw5101558714386944653:True:=⟨⟩
theorem tw5134033156007917933:True:=⟨⟩
theorem tw5142725849877367889:True:=⟨⟩
theorem tw5226575082428654986:True:=⟨⟩
theorem tw5305806778810963595:True:=⟨⟩
theorem tw531856685256291990:True:=⟨⟩
theorem tw5418616642845605956:True:=⟨⟩
theorem tw5616742561790815854:True:=⟨⟩
theorem tw5722758482527438668:True:=⟨⟩
theorem tw5765270464912652786:True:=⟨⟩
theorem tw5943521593674794304:True:=⟨⟩
theorem tw6029578287225497365:True:=⟨⟩
theorem tw6048387801445202664:True:=⟨⟩
theorem tw6071927568539528759:True:=⟨⟩
theorem tw6087052514232641180:True:=⟨⟩
theorem tw6094949068743443034:True:=⟨⟩
theorem tw6125807677247006409:True:=⟨⟩
theorem tw6213244366990144414:True:=⟨⟩
theorem tw6703476216906367358:True:=⟨⟩
theorem tw673480775161949993:True:=⟨⟩
theorem tw6753918224029694694:True:=⟨⟩
theorem tw6761281833251662106:True:=⟨⟩
theorem tw6768489059868718482:True:=⟨⟩
theorem tw7339375578712483593:True:=⟨⟩
theorem tw765604197569188665:True:=⟨⟩
theorem tw7672718032335929687:True:=⟨⟩
theorem tw7860923378958066937:True:=⟨⟩
theorem tw8068755775258697157:True:=⟨⟩
theorem tw8196557008440157768:True:=⟨⟩
theorem tw8286440249806441406:True:=⟨⟩
theorem tw8554243898028859212:True:=⟨⟩
theorem tw8774464294863742283:True:=⟨⟩
theorem tw8830915532472213603:True:=⟨⟩
theorem tw891465826684014000:True:=⟨⟩
theorem tw9031589411859499475:True:=⟨⟩
theorem tw9260450596398417639:True:=⟨⟩
theorem tw9371037094487486491:True:=⟨⟩
theorem tw939242386181227277:True:=⟨⟩
theorem tw9410587356358406994:True:=⟨⟩
theorem tw942018547203495844:True:=⟨⟩
theorem tw9632857094432253965:True:=⟨⟩
theorem tw9798818028462825404:True:=⟨⟩
theorem tw9952111973417490458:True:=⟨⟩
end PySem.W.Fast
open PySem PySem.W PyProof.Rows
set_option maxRecDepth 100000 in
set_option maxHeartbeats 0 in
theorem PySem.Challenge.cw_closepoints_k45_whole_kept_points_holds : PySem.Challenge.rw_closepoints_k45_whole_kept_points.Holds := by
 w_on;o_law;z_head;(case hw=>w_witness2)
 k_fill
 refine Vc.Uh (λ_=>by kernel_rfl) (K45.walk (l:=PySem.Challenge.rw_closepoints_k45_whole_kept_points) rfl rfl (λw h Y=>Y) ?F)
 case F =>
  intro w mg fa h KX G hmg;refine' K45.all_mk KX G hmg ?g_Kept ?pg_Kept ?hd_Kept ?po_Kept ?sa_Kept ?n1_Kept ?n2_Kept ?n3_Kept ?n4_Kept ?mk_Kept ?kp_Kept ?a_q20 ?l_q20 ?c_q20 ?k_q20 ?a_q0 ?l_q0 ?c_q0 ?k_q0 ?a_q14 ?l_q14 ?c_q14 ?k_q14 ?a_q29 ?l_q29 ?c_q29 ?k_q29 ?a_q1 ?l_q1 ?c_q1 ?k_q1 ?a_q21 ?l_q21 ?c_q21 ?k_q21 ?a_q19 ?l_q19 ?c_q19 ?k_q19 ?a_q9 ?l_q9 ?c_q9 ?k_q9 ?a_q3 ?l_q3 ?c_q3 ?k_q3 ?a_q17 ?l_q17 ?c_q17 ?k_q17 ?a_q6 ?l_q6 ?c_q6 ?k_q6 ?a_q7 ?l_q7 ?c_q7 ?k_q7 ?a_q13 ?l_q13 ?c_q13 ?k_q13 ?a_q18 ?l_q18 ?c_q18 ?k_q18 ?a_q5 ?l_q5 ?c_q5 ?k_q5 ?i_q5 ?a_q26 ?l_q26 ?c_q26 ?k_q26 ?i_q26 ?a_q23 ?l_q23 ?c_q23 ?k_q23 ?i_q23 ?a_q15 ?l_q15 ?c_q15 ?k_q15 ?i_q15 ?a_q16 ?l_q16 ?c_q16 ?k_q16 ?i_q16 ?a_q27 ?l_q27 ?c_q27 ?k_q27 ?i_q27 ?a_q8 ?l_q8 ?c_q8 ?k_q8 ?i_q8 ?a_q22 ?l_q22 ?c_q22 ?k_q22 ?i_q22 ?a_q4 ?l_q4 ?c_q4 ?k_q4 ?i_q4 ?a_q2 ?l_q2 ?c_q2 ?k_q2 ?i_q2 ?a_q10 ?l_q10 ?c_q10 ?k_q10 ?a_q11 ?l_q11 ?c_q11 ?k_q11 ?a_q30 ?l_q30 ?c_q30 ?k_q30 ?a_q24 ?l_q24 ?c_q24 ?k_q24 ?a_q12 ?l_q12 ?c_q12 ?k_q12 ?a_q25 ?l_q25 ?c_q25 ?k_q25 ?a_q31 ?l_q31 ?c_q31 ?k_q31 ?a_q28 ?l_q28 ?c_q28 ?k_q28 ?a_q32 ?l_q32 ?c_q32 ?k_q32 ?g_NearError ?e_NearError ?m_NearError ?w_NearError ?g_NoPoints ?e_NoPoints ?m_NoPoints ?w_NoPoints ?g_NoPlace ?e_NoPlace ?m_NoPlace ?w_NoPlace ?nd_cls ?z_ValueError ?z_abs ?z_int ?z_isinstance ?z_len ?z_list ?z_min ?z_range ?z_sorted ?z_sum ?z_tuple ?z_zip ?u_SQUARES ?u_STREETS
  (case g_Kept=>ac_rfl)
  (case pg_Kept=>ac_rfl)
  (case hd_Kept=>ac_rfl)
  (case po_Kept=>ac_rfl)
  (case sa_Kept=>ac_rfl)
  (case n1_Kept=>ac_rfl)
  (case n2_Kept=>ac_rfl)
  (case n3_Kept=>ac_rfl)
  (case n4_Kept=>ac_rfl)
  (case mk_Kept=>ac_rfl)
  (case kp_Kept=>ac_rfl)
  (case a_q20=>ac_rfl)
  (case l_q20=>ac_rfl)
  (case c_q20=>ac_rfl)
  (case k_q20=>ac_rfl)
  (case a_q0=>ac_rfl)
  (case l_q0=>ac_rfl)
  (case c_q0=>ac_rfl)
  (case k_q0=>ac_rfl)
  (case a_q14=>ac_rfl)
  (case l_q14=>ac_rfl)
  (case c_q14=>ac_rfl)
  (case k_q14=>ac_rfl)
  (case a_q29=>ac_rfl)
  (case l_q29=>ac_rfl)
  (case c_q29=>ac_rfl)
  (case k_q29=>ac_rfl)
  (case a_q1=>ac_rfl)
  (case l_q1=>ac_rfl)
  (case c_q1=>ac_rfl)
  (case k_q1=>ac_rfl)
  (case a_q21=>ac_rfl)
  (case l_q21=>ac_rfl)
  (case c_q21=>ac_rfl)
  (case k_q21=>ac_rfl)
  (case a_q19=>ac_rfl)
  (case l_q19=>ac_rfl)
  (case c_q19=>ac_rfl)
  (case k_q19=>ac_rfl)
  (case a_q9=>ac_rfl)
  (case l_q9=>ac_rfl)
  (case c_q9=>ac_rfl)
  (case k_q9=>ac_rfl)
  (case a_q3=>ac_rfl)
  (case l_q3=>ac_rfl)
  (case c_q3=>ac_rfl)
  (case k_q3=>ac_rfl)
  (case a_q17=>ac_rfl)
  (case l_q17=>ac_rfl)
  (case c_q17=>ac_rfl)
  (case k_q17=>ac_rfl)
  (case a_q6=>ac_rfl)
  (case l_q6=>ac_rfl)
  (case c_q6=>ac_rfl)
  (case k_q6=>ac_rfl)
  (case a_q7=>ac_rfl)
  (case l_q7=>ac_rfl)
  (case c_q7=>ac_rfl)
  (case k_q7=>ac_rfl)
  (case a_q13=>ac_rfl)
  (case l_q13=>ac_rfl)
  (case c_q13=>ac_rfl)
  (case k_q13=>ac_rfl)
  (case a_q18=>ac_rfl)
  (case l_q18=>ac_rfl)
  (case c_q18=>ac_rfl)
  (case k_q18=>ac_rfl)
  (case a_q5=>ac_rfl)
  (case l_q5=>ac_rfl)
  (case c_q5=>ac_rfl)
  (case k_q5=>ac_rfl)
  (case i_q5=>ac_rfl)
  (case a_q26=>ac_rfl)
  (case l_q26=>ac_rfl)
  (case c_q26=>ac_rfl)
  (case k_q26=>ac_rfl)
  (case i_q26=>ac_rfl)
  (case a_q23=>ac_rfl)
  (case l_q23=>ac_rfl)
  (case c_q23=>ac_rfl)
  (case k_q23=>ac_rfl)
  (case i_q23=>ac_rfl)
  (case a_q15=>ac_rfl)
  (case l_q15=>ac_rfl)
  (case c_q15=>ac_rfl)
  (case k_q15=>ac_rfl)
  (case i_q15=>ac_rfl)
  (case a_q16=>ac_rfl)
  (case l_q16=>ac_rfl)
  (case c_q16=>ac_rfl)
  (case k_q16=>ac_rfl)
  (case i_q16=>ac_rfl)
  (case a_q27=>ac_rfl)
  (case l_q27=>ac_rfl)
  (case c_q27=>ac_rfl)
  (case k_q27=>ac_rfl)
  (case i_q27=>ac_rfl)
  (case a_q8=>ac_rfl)
  (case l_q8=>ac_rfl)
  (case c_q8=>ac_rfl)
  (case k_q8=>ac_rfl)
  (case i_q8=>ac_rfl)
  (case a_q22=>ac_rfl)
  (case l_q22=>ac_rfl)
  (case c_q22=>ac_rfl)
  (case k_q22=>ac_rfl)
  (case i_q22=>ac_rfl)
  (case a_q4=>ac_rfl)
  (case l_q4=>ac_rfl)
  (case c_q4=>ac_rfl)
  (case k_q4=>ac_rfl)
  (case i_q4=>ac_rfl)
  (case a_q2=>ac_rfl)
  (case l_q2=>ac_rfl)
  (case c_q2=>ac_rfl)
  (case k_q2=>ac_rfl)
  (case i_q2=>ac_rfl)
  (case a_q10=>ac_rfl)
  (case l_q10=>ac_rfl)
  (case c_q10=>ac_rfl)
  (case k_q10=>ac_rfl)
  (case a_q11=>ac_rfl)
  (case l_q11=>ac_rfl)
  (case c_q11=>ac_rfl)
  (case k_q11=>ac_rfl)
  (case a_q30=>ac_rfl)
  (case l_q30=>ac_rfl)
  (case c_q30=>ac_rfl)
  (case k_q30=>ac_rfl)
  (case a_q24=>ac_rfl)
  (case l_q24=>ac_rfl)
  (case c_q24=>ac_rfl)
  (case k_q24=>ac_rfl)
  (case a_q12=>ac_rfl)
  (case l_q12=>ac_rfl)
  (case c_q12=>ac_rfl)
  (case k_q12=>ac_rfl)
  (case a_q25=>ac_rfl)
  (case l_q25=>ac_rfl)
  (case c_q25=>ac_rfl)
  (case k_q25=>ac_rfl)
  (case a_q31=>ac_rfl)
  (case l_q31=>ac_rfl)
  (case c_q31=>ac_rfl)
  (case k_q31=>ac_rfl)
  (case a_q28=>ac_rfl)
  (case l_q28=>ac_rfl)
  (case c_q28=>ac_rfl)
  (case k_q28=>ac_rfl)
  (case a_q32=>ac_rfl)
  (case l_q32=>ac_rfl)
  (case c_q32=>ac_rfl)
  (case k_q32=>ac_rfl)
  (case g_NearError=>ac_rfl)
  (case e_NearError=>ac_rfl)
  (case m_NearError=>ac_rfl)
  (case w_NearError=>ac_rfl)
  (case g_NoPoints=>ac_rfl)
  (case e_NoPoints=>ac_rfl)
  (case m_NoPoints=>ac_rfl)
  (case w_NoPoints=>ac_rfl)
  (case g_NoPlace=>ac_rfl)
  (case e_NoPlace=>ac_rfl)
  (case m_NoPlace=>ac_rfl)
  (case w_NoPlace=>ac_rfl)
  (case nd_cls=>ac_rfl)
  (case z_ValueError=>ac_rfl)
  (case z_abs=>ac_rfl)
  (case z_int=>ac_rfl)
  (case z_isinstance=>ac_rfl)
  (case z_len=>ac_rfl)
  (case z_list=>ac_rfl)
  (case z_min=>ac_rfl)
  (case z_range=>ac_rfl)
  (case z_sorted=>ac_rfl)
  (case z_sum=>ac_rfl)
  (case z_tuple=>ac_rfl)
  (case z_zip=>ac_rfl)
  (case u_SQUARES=>ac_rfl)
  (case u_STREETS=>ac_rfl)
