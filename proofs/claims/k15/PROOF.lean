import PyProof.Rows.All
import Wide.All
import OpenK.AllK
import Wide.FinOn
import Lean
import PyProof.EqAt
import PyProof.EqKinds
import PyProof.TupleCall
import PySem.Challenge.RW_closepoints_k15_whole_near_together
noncomputable section
set_option Elab.async false
set_option linter.all false
set_option hygiene false
local macro_rules | `(tactic| omega) => `(tactic| first | lia | omega +splitNatSub)
local macro_rules | `(⋯) => `((by omega))
local macro_rules | `(∅) => `((by decide))
set_option maxRecDepth 100000
local macro_rules|`(tactic| walk_at "9")=>`(tactic| first|k_is|kernel_rfl|decide)
local macro_rules | `(tactic| ac_rfl) => `(tactic| walk_at "9")
set_option compiler.extract_closed false
-- CHANGE: your row's module here,as the last of these rows
namespace L2
open PySem PySem.Spec PyProof.Rows
abbrev Key:=Sum Int Str
def ny:Key->Value->Bool
 | .inl k,v=>Value.isInt k v
 | .inr x,v=>Value.isStrOf x v
def WU(w:World):Key->Int
 | .inl k=>hashInt k
 | .inr x=>hashStr w x
theorem bR:∀ {k:Key} {v:Value},ny k v=true->(∃i t,k=Sum.inl i/\v=Value.int i t)\/(∃x t,k=Sum.inr x/\v=Value.str x t)
 | .inl i,v,h=>by
  obtain⟨t,e⟩:=Value.isInt_shape (k:=i) (v:=v) h;exact .inl ⟨i,t,rfl,e⟩
 | .inr x,v,h=>by
  obtain⟨t,e⟩:=Value.isStrOf_shape (x:=x) (v:=v) h;exact .inr ⟨x,t,rfl,e⟩
theorem wX(i:Int)(t:Tok):ny (.inl i) (.int i t)=true:=by simp [ny,Value.isInt]
theorem wY(x:Str)(t:Tok):ny (.inr x) (.str x t)=true:=by simp [ny,Value.isStrOf]
theorem Kn(a b:Int):decide ((Sum.inl a:Key)=Sum.inl b)=(a==b):=by
 by_cases e:a=b
 ·subst e;simp
 ·have h:¬(Sum.inl a:Key)=Sum.inl b:=λq=>e (Sum.inl.inj q)
  rw[decide_eq_false h];exact(beq_eq_false_iff_ne.mpr e).symm
theorem Kr(a b:Str):decide ((Sum.inr a:Key)=Sum.inr b)=decide (a=b):=by
 by_cases e:a=b
 ·subst e;simp
 ·have h:¬(Sum.inr a:Key)=Sum.inr b:=λq=>e (Sum.inr.inj q)
  rw[decide_eq_false h,decide_eq_false e]
theorem Ko(a:Int)(b:Str):decide ((Sum.inl a:Key)=Sum.inr b)=false:=decide_eq_false (λq=>nomatch q)
theorem Kq(a:Str)(b:Int):decide ((Sum.inr a:Key)=Sum.inl b)=false:=decide_eq_false (λq=>nomatch q)
def cn(prog:Program)(w:World):PySem.KeyKind prog w Key where
 is:=ny
 hash:=WU w
 inj:=λv a b ha hb=>by
  rcases bR ha with⟨i,t,rfl,rfl⟩|⟨x,t,rfl,rfl⟩
  ·rcases bR hb with⟨j,u,rfl,e⟩|⟨y,u,rfl,e⟩
   ·injection e with e1 _;rw[e1]
   ·exact nomatch e
  ·rcases bR hb with⟨j,u,rfl,e⟩|⟨y,u,rfl,e⟩
   ·exact nomatch e
   ·injection e with e1 _;rw[e1]
 byValue:=λk v h=>by
  rcases bR h with⟨i,t,rfl,rfl⟩|⟨x,t,rfl,rfl⟩<;>rfl
 pyHash:=λhv h=>by
  rcases bR hv with⟨i,t,rfl,rfl⟩|⟨x,t,rfl,rfl⟩
  ·exact wpAny_pyHash_int h
  ·exact wpAny_pyHash_str h
 eqBool:=λhu hv h=>by
  rcases bR hu with⟨i,t,rfl,rfl⟩|⟨x,t,rfl,rfl⟩
  ·rcases bR hv with⟨j,u,rfl,rfl⟩|⟨y,u,rfl,rfl⟩
   ·rw[Kn]at h;exact wpAny_eqBool_int h
   ·rw[Ko]at h;exact SeqAt.EqAt.int_str i t y u _ _ _ _ h
  ·rcases bR hv with⟨j,u,rfl,rfl⟩|⟨y,u,rfl,rfl⟩
   ·rw[Kq]at h;exact SeqAt.EqAt.str_int x t j u _ _ _ _ h
   ·rw[Kr]at h;exact wpAny_eqBool_str h
 «strs»:=λk x t v h=>by
  rcases bR h with⟨i,u,rfl,e⟩|⟨y,u,rfl,e⟩
  ·exact nomatch e
  ·injection e with e1 _
   subst e1;cases v<;>rfl
theorem rp(prog:Program)(w:World)(i:Int)(t:Tok):(cn prog w).is (.inl i) (.int i t)=true:=wX i t
theorem rq(prog:Program)(w:World)(x:Str)(t:Tok):(cn prog w).is (.inr x) (.str x t)=true:=wY x t
end L2
namespace L2
open PySem PySem.Spec PyProof.Rows
inductive V where
 | bC|bl (b:Bool)|int (i:Int)|str (x:Str)|PB (b:Array UInt8)|VO (b:UInt64)|ref (a:Addr)|ty (n:String)
 deriving DecidableEq
def RelV:V->Value->Prop
 | .bC,u=>u=Value.none
 | .bl b,u=>u=Value.bool b
 | .int i,u=>∃t,u=Value.int i t
 | .str x,u=>∃t,u=Value.str x t
 | .PB b,u=>∃t,u=Value.bytes b t
 | .VO b,u=>∃t,u=Value.float b t
 | .ref a,u=>u=Value.ref a
 | .ty n,u=>u=Value.type n
abbrev Vals:List V->List Value->Prop:=Paired RelV
theorem Vals.length{xs:List V}{us:List Value}(r:Vals xs us):xs.length=us.length:=Paired.length r
theorem Vals.get:∀ {xs:List V} {us:List Value} {i:Nat} {x:V},Vals xs us->xs[i]?=some x->∃u,us[i]?=some u/\RelV x u
 | _,_,_,_,.nil,e=>by simp at e
 | _,_,0,_,.cons r _,e=>by simp at e;subst e;exact⟨_,rfl,r⟩
 | _,_,i+1,x,.cons _ t,e=>by
  obtain⟨u,h1,h2⟩:=Vals.get (i:=i) (x:=x) t (by simpa using e)
  exact⟨u,by simpa using h1,h2⟩
theorem Vals.set{x:V}{u:Value}(r:RelV x u):∀ {xs:List V} {us:List Value} (i:Nat),Vals xs us->Vals (xs.set i x) (us.set i u)
 | _,_,_,.nil=>.nil
 | _,_,0,.cons _ t=>.cons r t
 | _,_,i+1,.cons q t=>.cons q (Vals.set r i t)
theorem Vals.append:∀ {xs ys:List V} {us ws:List Value},Vals xs us->Vals ys ws->Vals (xs++ys) (us++ws)
 | _,_,_,_,.nil,s=>s
 | _,_,_,_,.cons r t,s=>.cons r (Vals.append t s)
theorem Vals.take:∀ {xs:List V} {us:List Value} (n:Nat),Vals xs us->Vals (xs.take n) (us.take n)
 | _,_,0,_=>.nil
 | _,_,_+1,.nil=>.nil
 | _,_,n+1,.cons r t=>.cons r (Vals.take n t)
theorem Vals.drop:∀ {xs:List V} {us:List Value} (n:Nat),Vals xs us->Vals (xs.drop n) (us.drop n)
 | _,_,0,r=>r
 | _,_,_+1,.nil=>.nil
 | _,_,n+1,.cons _ t=>Vals.drop n t
def wk:Option V->Option Value->Prop
 | some v,some u=>RelV v u
 | none,none=>True
 | _,_=>False
def KV{κ:Type}:List (κ×V)->List (κ×Value)->Prop:=Paired λ(p:κ×V) (q:κ×Value)=>p.1=q.1/\RelV p.2 q.2
def kV:Key->V
 | .inl i=>.int i
 | .inr x=>.str x
inductive HO where
 /-- a list -/
 | lst (xs:List V)
 /-- a tuple (never changes) -/
 | tup (xs:List V)
 /-- a dict whose keys are ints and texts;one whose keys are tuples of ints and texts (the empty one is both) -/
 | dK (kvs:List (Key×V))|dT (kvs:List (List Key×V))
 /-- a set of ints: its members,its size -/
 | set (S:Int->Bool) (n:Nat)
 /-- an instance of the class at C,its dict at dx,its attributes -/
 | ins (C dx:Addr) (fs:List (Str×V))
 /-- the dict of the instance at x -/
 | own (x:Addr)
 /-- the dict of an exception -/
 | xd (fs:List (Str×V))
 /-- a bound method,f of x -/
 | met (f x:Addr)
 /-- a range object lo,lo+1,.. below hi -/
 | MH (lo hi:Int)
 /-- a thing that is known to the object (the script;a dict while a loop walks it): read,never written while it is so -/
 | wI (o:Obj) (u:HO)
 /-- a code object's table -/
 | N6 (ps:Array Value)
 /-- the same,and it may grow by the code of one lambda: as it was,the lambda's place,its name -/
 | lam (ps:Array Value) (pos:Pos) (qual:Str)
 /-- any other thing,by what is true of its one object (a def of one's own: SetO a S n:=HO.ext λh=>..) -/
 | ext (φ:Heap->Prop)
abbrev Hp:=Addr->Option HO
def upd(H:Hp)(a:Addr)(o:HO):Hp:=λb=>if b=a then some o else H b
theorem aR{H:Hp}{a:Addr}{o:HO}:upd H a o a=some o:=by unfold upd;rw[if_pos rfl]
theorem az{H:Hp}{a b:Addr}{o:HO}(h:b≠a):upd H a o b=H b:=by unfold upd;rw[if_neg h]
theorem Sn{H:Hp}{a b:Addr}{o u:HO}(h:H a=some o)(h':H b=some u)(d:o≠u):a≠b:=by
 intro e;subst e;rw[h]at h';exact d (Option.some.inj h')
theorem b6{H:Hp}{a b:Addr}{o:HO}(h:H a=some o)(h':H b=none):a≠b:=by
 intro e;subst e;rw[h]at h';cases h'
section
variable (P:Program)(w:World)
def cv(H:Hp)(h:Heap)(a:Addr):HO->Prop
 | .lst xs=>xs.length<=sizeLine/\∃(its:List Value) (n:Nat),Vals xs its/\h.get? a=some {cls:=.type "list",data:=.seq its.toArray n}
 | .tup xs=>xs.length<=sizeLine/\∃its:List Value,Vals xs its/\IsTup h a its.toArray
 | .dK kvs=>kvs.length<=sizeLine/\(a==sysModules)=false/\∃vs,KV kvs vs/\h.DictOf (cn P w) a vs
 | .dT kvs=>kvs.length<=sizeLine/\(a==sysModules)=false/\∃xs:List (List Key×Addr×Value),
   Paired (λ(p:List Key×V) (q:List Key×Addr×Value)=>p.1=q.1/\H q.2.1=some (.tup (p.1.map kV))/\RelV p.2 q.2.2) kvs xs /\
   ∃o es ep,h.get? a=some o/\o.ExactDict/\o.data=.dict es ep/\es.toList=xs.map (entryOfKey (tupleKind (cn P w)))/\(xs.map (·.1)).Nodup
 | .set S n=>h.SetOf (intKind P w) a S n
 | .ins C dx fs=>H dx=some (.own a)/\fs.length<=1000/\dx≠a/\h.get? a=some (PySem.W.instObj C dx) /\
   ∃mA,h.Ns1 dx mA/\(∀f,wk (fs.lookup f) (mA f))/\PySem.Within mA (fs.map (·.1))
 | .own _=>∃o,h.get? a=some o
 | .xd fs=>∃mA,h.Ns1 a mA/\∀f,wk (fs.lookup f) (mA f)
 | .MH lo hi=>∃t u v,h.get? a=some {cls:=.type "range",data:=.fields #[.int lo t,.int hi u,.int 1 v]}
 | .wI o u=>h.get? a=some o/\cv H h a u
 | .N6 ps=>h.get? a=some {cls:=.none,data:=.fields ps}
 | .lam ps pos qual=>∃more,h.get? a=some {cls:=.none,data:=.fields (ps++more)}/\TriplesOk (ps++more).toList/\(codeAmong pos (ps++more).toList=none\/∃c' o vs t,codeAmong pos (ps++more).toList=some (.ref c')/\H c'=some (.wI o (.own a))/\o.data=.fields vs/\vs[1]?=some (.str qual t))
 | .met f x=>h.get? a=some (PySem.W.methodObj (.ref f) (.ref x))
 | .ext φ=>φ h/\(∃o,h.get? a=some o)/\∀h1 h2:Heap,φ h1->(∀o,h1.get? a=some o->h2.get? a=some o)->φ h2
def gn(H:Hp)(h:Heap):Prop:=∀a o,H a=some o->cv P w H h a o
end
section
variable {P:Program}{w:World}{H H':Hp}{h h':Heap}{a:Addr}{o:HO}
theorem cv.lt(x:cv P w H h a o):a<h.objs.size:=by
 cases o with
 | lst xs=>obtain⟨_,_,_,_,e⟩:=x;exact Heap.lt_size e
 | tup xs=>obtain⟨_,_,_,p⟩:=x;exact p.lt
 | dK kvs=>obtain⟨_,_,_,_,o,_,_,e,_⟩:=x;exact Heap.lt_size e
 | dT kvs=>obtain⟨_,_,_,_,o,_,_,e,_⟩:=x;exact Heap.lt_size e
 | set S n=>obtain⟨o,_,_,_,e,_⟩:=x;exact Heap.lt_size e
 | ins C dx fs=>obtain⟨_,_,_,e,_⟩:=x;exact Heap.lt_size e
 | own y=>obtain⟨_,e⟩:=x;exact Heap.lt_size e
 | xd fs=>obtain⟨_,⟨_,_,_,e,_⟩,_⟩:=x;exact Heap.lt_size e
 | MH lo hi=>obtain⟨_,_,_,e⟩:=x;exact Heap.lt_size e
 | wI ob u=>obtain⟨e,_⟩:=x;exact Heap.lt_size e
 | N6 ps=>exact Heap.lt_size (show h.get? a=some _ from x)
 | lam ps pos qual=>obtain⟨_,e,_⟩:=x;exact Heap.lt_size e
 | met f y=>exact Heap.lt_size (show h.get? a=some _ from x)
 | ext φ=>obtain⟨_,⟨_,e⟩,_⟩:=x;exact Heap.lt_size e
theorem Paired.Kw{α β:Type}{F G:α->β->Prop}:∀ {Sj:List α} {Sl:List β},Paired F Sj Sl->(∀a b,F a b->G a b)->Paired G Sj Sl
 | _,_,.nil,_=>.nil
 | _,_,.cons r t,f=>.cons (f _ _ r) (Paired.Kw t f)
theorem cv.uE(x:cv P w H h a o)(k:∀b u,(b=a\/H b=some (.own a))->h.get? b=some u->h'.get? b=some u)
  (ho:∀b,H b=some (.own a)->H' b=some (.own a)) (ht:∀b xs,H b=some (.tup xs)->H' b=some (.tup xs)) (hf:∀b o u,H b=some (.wI o u)->H' b=some (.wI o u):=by exactλ_ _ _ q=>q):cv P w H' h' a o:=by
 induction o with
 | lst xs=>obtain⟨z,its,n,r,e⟩:=x;exact⟨z,its,n,r,k _ _ (.inl rfl) e⟩
 | tup xs=>obtain⟨z,its,r,ob,e,c⟩:=x;exact⟨z,its,r,ob,k _ _ (.inl rfl) e,c⟩
 | dK kvs=>obtain⟨z,y,vs,r,ob,es,ep,e,c⟩:=x;exact⟨z,y,vs,r,ob,es,ep,k _ _ (.inl rfl) e,c⟩
 | dT kvs =>
  obtain⟨z,y,xs,r,ob,es,ep,e,c⟩:=x;exact⟨z,y,xs,Paired.Kw r λp q z=>⟨z.1,ht _ _ z.2.1,z.2.2⟩,ob,es,ep,k _ _ (.inl rfl) e,c⟩
 | set S n=>obtain⟨ob,es,ep,t,e,c⟩:=x;exact⟨ob,es,ep,t,k _ _ (.inl rfl) e,c⟩
 | ins C dx fs =>
  obtain⟨d,z,ne,e,mA,⟨od,es,ep,e2,c⟩,r⟩:=x;exact⟨ho _ d,z,ne,k _ _ (.inl rfl) e,mA,⟨od,es,ep,k _ _ (.inr d) e2,c⟩,r⟩
 | own y=>obtain⟨ob,e⟩:=x;exact⟨ob,k _ _ (.inl rfl) e⟩
 | xd fs=>obtain⟨mA,⟨od,es,ep,e,c⟩,r⟩:=x;exact⟨mA,⟨od,es,ep,k _ _ (.inl rfl) e,c⟩,r⟩
 | MH lo hi=>obtain⟨t,u,v,e⟩:=x;exact⟨t,u,v,k _ _ (.inl rfl) e⟩
 | wI ob u ih=>obtain⟨e,q⟩:=x;exact⟨k _ _ (.inl rfl) e,ih q⟩
 | lam ps pos qual =>
  obtain⟨more,e,tr,c⟩:=x;refine⟨more,k _ _ (.inl rfl) e,tr,?_⟩;rcases c with c|⟨c',o,vs,t,c1,c2,c3⟩
  ·exact .inl c
  ·exact .inr ⟨c',o,vs,t,c1,hf _ _ _ c2,c3⟩
 | N6 ps =>
  have e:h.get? a=some {cls:=.none,data:=.fields ps}:=x;show h'.get? a=some {cls:=.none,data:=.fields ps};exact k a _ (.inl rfl) e
 | met f y =>
  have e:h.get? a=some (PySem.W.methodObj (.ref f) (.ref y)):=x;show h'.get? a=some (PySem.W.methodObj (.ref f) (.ref y));exact k a _ (.inl rfl) e
 | ext φ=>obtain⟨p,⟨o,e⟩,st⟩:=x;exact⟨st _ _ p λo q=>k _ _ (.inl rfl) q,⟨o,k _ _ (.inl rfl) e⟩,st⟩
theorem gn.lt(x:gn P w H h)(e:H a=some o):a<h.objs.size:=(x a o e).lt
theorem gn.fresh(x:gn P w H h)(e:h.objs.size<=a):H a=none:=by
 cases q:H a with
 | none=>rfl
 | some u=>exact absurd (Nat.lt_of_lt_of_le (x.lt q) e) (Nat.lt_irrefl _)
theorem gn.kept(x:gn P w H h)(k:∀b u,h.get? b=some u->h'.get? b=some u):gn P w H h':=λa o e =>
 (x a o e).uE (λb u _ q=>k b u q) (λ_ q=>q) λ_ _ q=>q
theorem gn.laid(x:gn P w H h)(k:∀b u,h.get? b=some u->h'.get? b=some u)(hp:h.objs.size<=a)(new:cv P w (upd H a o) h' a o):gn P w (upd H a o) h':=λb u e=>by
 have hn:=x.fresh hp
 by_cases hb:b=a
 ·subst hb;rw[aR]at e;cases e;exact new
 ·rw[az hb]at e
  exact(x b u e).uE (λc v _ q=>k c v q) (λc q=>by rw[az (b6 q hn)];exact q) (λc xs q=>by rw[az (b6 q hn)];exact q) λc o u q=>by rw[az (b6 q hn)];exact q
end
def Rd(H:Hp)(a:Addr)(u:HO):Prop:=H a=some u\/∃o,H a=some (.wI o u)
theorem Rd.ok{P:Program}{w:World}{H:Hp}{h:Heap}{a:Addr}{u:HO}(r:Rd H a u)(x:gn P w H h):cv P w H h a u:=by
 rcases r with r|⟨o,r⟩
 ·exact x a u r
 ·obtain⟨_,q⟩:=x a _ r
  exact q
def Pa:Option HO->Prop
 | some (.lst _)=>True
 | some (.dK _)=>True
 | some (.dT _)=>True
 | some (.set _ _)=>True
 | some (.ins _ _ _)=>True
 | some (.ext _)=>True
 | some (.lam _ _ _)=>True
 | _=>False
section
variable {P:Program}{w:World}{H:Hp}{h h':Heap}{x e:Addr}{o':HO}
theorem gn.write(ok:gn P w H h)(mu:Pa (H x))(he:e=x\/H e=some (.own x))(k:∀b u,b≠e->h.get? b=some u->h'.get? b=some u)(Ot:∃u,h'.get? e=some u)
  (new:cv P w (upd H x o') h' x o'):gn P w (upd H x o') h':=λb u q=>by
 have Ss:∀c y,H c=some (.own y)->c≠x:=λc y r z=>by subst z;rw[r]at mu;exact mu
 have Xi:∀c xs,H c=some (.tup xs)->c≠x:=λc xs r z=>by subst z;rw[r]at mu;exact mu
 by_cases hb:b=x
 ·subst hb;rw[aR]at q;cases q;exact new
 ·rw[az hb]at q
  by_cases Jw:b=e
  ·have q':H b=some (.own x):=by
    rcases he with z|z
    ·exact absurd (Jw.trans z) hb
    ·rw[Jw];exact z
   rw[q]at q';cases q';obtain⟨v,hv⟩:=Ot;exact⟨v,by rw[Jw];exact hv⟩
  ·refine(ok b u q).uE (λc v hc r=>k c v ?_ r) (λc r=>by rw[az (Ss c b r)];exact r) (λc xs r=>by rw[az (Xi c xs r)];exact r) λc o u r=>by rw[az (λz=>by subst z;rw[r]at mu;exact mu)];exact r
   rcases hc with rfl|hc
   ·exact Jw
   ·rintro rfl
    rcases he with z|z
    ·exact Ss c b hc z
    ·rw[hc]at z;cases z;exact hb rfl
end
structure Un(fs ex:List Addr)(H H':Hp)(h h':Heap):Prop where
 keep:∀b o,h.get? b=some o->H b=none->b∉fs->b∉ex->h'.get? b=some o
 slot:∀b o,h.get? b=some o->H b=none->b∈fs->b∉ex->∃sl,h'.get? b=some {o with slots:=sl}
 free:∀b o,h.get? b=some o->H b=none->b∉ex->H' b=none
 there:∀b o,h.get? b=some o->b∉ex->∃o',h'.get? b=some o'
 sr:∀b xs,H b=some (.tup xs)->H' b=some (.tup xs)
 oE:∀b o u,H b=some (.wI o u)->H' b=some (.wI o u)
 sj:∀b ps,H b=some (.N6 ps)->∃more,H' b=some (.N6 (ps++more))
section
variable {fs fs' ex jU:List Addr}{H H1 H2:Hp}{h h1 h2 h':Heap}{a x e:Addr}{o:HO}
theorem Un.any(u:Un fs ex H H1 h h1){b:Addr}{ob:Obj}(q:h.get? b=some ob)(n:H b=none)(hx:b∉ex):∃sl,h1.get? b=some {ob with slots:=sl}:=by
 by_cases hb:b∈fs
 ·exact u.slot b ob q n hb hx
 ·exact⟨ob.slots,u.keep b ob q n hb hx⟩
theorem Un.kept(k:∀b u,h.get? b=some u->h'.get? b=some u):Un fs ex H H h h':=
 ⟨λb ob q _ _ _=>k b ob q,λb ob q _ _ _=>⟨ob.slots,k b ob q⟩,λ_ _ _ n _=>n,λb ob q _=>⟨ob,k b ob q⟩,λ_ _ q=>q,λ_ _ _ q=>q,λ_ ps q=>⟨#[],by rw[q];simp⟩⟩
theorem Un.refl:Un fs ex H H h h:=Un.kept λ_ _ q=>q
theorem Un.laid(k:∀b u,h.get? b=some u->h'.get? b=some u)(hp:h.objs.size<=a)(hn:H a=none):Un fs ex H (upd H a o) h h' where
 keep:=λb u q _ _ _=>k b u q
 slot:=λb u q _ _ _=>⟨u.slots,k b u q⟩
 free:=λb u q n _=>by rw[az (Nat.ne_of_lt (Nat.lt_of_lt_of_le (Heap.lt_size q) hp))];exact n
 there:=λb u q _=>⟨u,k b u q⟩
 sr:=λb xs q=>by rw[az (b6 q hn)];exact q
 oE:=λb u xs q=>by rw[az (b6 q hn)];exact q
 sj:=λb ps q=>⟨#[],by rw[az (b6 q hn),q];simp⟩
theorem Un.write(mu:Pa (H x))(he:e=x\/H e=some (.own x))(k:∀b u,b≠e->h.get? b=some u->h'.get? b=some u)(Ot:∃u,h'.get? e=some u):Un fs ex H (upd H x o) h h':=by
 have hx:∀b,H b=none->b≠x:=λb n z=>by subst z;rw[n]at mu;exact mu
 have hb:∀b,H b=none->b≠e:=λb n z=>by
  subst z;rcases he with r|r
  ·exact hx b n r
  ·rw[n]at r;cases r
 have hm:∀b u,H b=some u->¬Pa (some u)->b≠x:=λb u q nm z=>by subst z;rw[q]at mu;exact nm mu
 refine⟨λb u q n _ _=>k b u (hb b n) q,λb u q n _ _=>⟨u.slots,k b u (hb b n) q⟩,λb u q n _=>by rw[az (hx b n)];exact n,λb u q _=>?_,
  λb xs q=>by rw[az (hm b _ q λz=>z)];exact q,λb u xs q=>by rw[az (hm b _ q λz=>z)];exact q,λb ps q=>⟨#[],by rw[az (hm b _ q λz=>z),q];simp⟩⟩
 by_cases Jw:b=e
 ·subst Jw;exact Ot
 ·exact⟨u,k b u Jw q⟩
end
def Vf(h:Heap)(H:Hp):List Addr:=(List.range h.objs.size).filter λa=>(H a).isSome
def oG(h:Heap)(H:Hp):Heap:=PySem.W.hideAll h (Vf h H)
theorem wM(h:Heap)(H:Hp):(oG h H).objs.size=h.objs.size:=PySem.W.hideAll_size _ _
theorem Ay{h:Heap}{H:Hp}{b:Addr}{o:Obj}(e:h.get? b=some o)(n:H b=none):(oG h H).get? b=some o:=
 PySem.W.hideAll_get _ e λhm=>by
  have q:(H b).isSome=true:=(List.mem_filter.mp hm).2;rw[n]at q;simp at q
theorem D6{h:Heap}{H:Hp}{b:Addr}{o:Obj}(e:(oG h H).get? b=some o):h.get? b=some o/\H b=none:=by
 have e':h.get? b=some o:=PySem.W.of_hideAll (Vf h H) e;refine⟨e',?_⟩;cases q:H b with
 | none=>rfl
 | some x =>
  have hm:b∈Vf h H:=List.mem_filter.mpr ⟨List.mem_range.mpr (Heap.lt_size e'),by simp [q]⟩
  have z:(oG h H).get? b=none:=PySem.W.hideAll_none (Vf h H) hm;rw[z]at e;cases e
def Dj(g h:Heap)(L:Addr):List (Addr×Obj):=(List.range h.objs.size).filterMap λa=>if a=L\/(g.get? a).isSome=true then none else(h.get? a).map λo=>(a,o)
def rest(g h:Heap)(L d:Addr):List (Addr×Obj):=(Dj g h L).filter λp=>decide (p.1≠d)
end L2
namespace L2
open PySem PySem.Spec PyProof.Rows
structure Mod(K:PySem.W.Frag)(mg:Str->Option Value)(base:Heap):Prop where
 WV:K.In base
 glob:base.Ns mainGlobals mg
 blt:∃mb,base.Ns builtinsNs mb/\∀x:Str,x≠"__name__"->mb x=bootBuiltins x
 nolimit:base.NoLimit
structure Cx where
 prog:Program
 w:World
 K:PySem.W.Frag
 mg:Str->Option Value
 base:Heap
 A:Around
 N:List Str
 cS:Shared
 sY:Hp
 env:Env
 outer:List Env
 stack:List Env
 ex:List Addr
 fn:Str->Bool
 calm:Bool
 pn:List (Addr×Obj)
 xe:Value->Shared->Prop
def Ac(l:List Env):List Addr:=l.filterMap (·.frame)
abbrev Cx.fs(X:Cx):List Addr:=Ac X.outer
def Pj(sc:Scope)(x:Str):Prop:=sc.names.lookup x=some .local\/sc.names.lookup x=some .cell\/sc.names.lookup x=some .free
def Loc(sc:Scope)(x:Str):Prop:=sc.names.lookup x=some .local\/sc.names.lookup x=some .cell
def Look(env:Env)(h:Heap)(m:Str->Option Value)(x:Str)(u:Value):Prop:=
 (env.kindOf x=some .local/\m x=some u)\/((env.kindOf x=some .cell\/env.kindOf x=some .free)/\∃c,env.cells.lookup x=some c/\h.IsCell c (some u))
structure Cx.Ok(X:Cx):Prop where
 mod:Mod X.K X.mg X.base
 kind:X.env.scope.kind=.function
 glob:X.env.globals=mainGlobals
 blt:X.env.builtins=builtinsNs
 above:X.cS.heap.objs.size<=X.env.locals
 inj:∀x y c,X.env.cells.lookup x=some c->X.env.cells.lookup y=some c->x=y
 has:∀x,(X.env.kindOf x=some .cell\/X.env.kindOf x=some .free)->∃c,X.env.cells.lookup x=some c
 Oi:∀x c,X.fn x=true->X.env.cells.lookup x=some c->X.cS.heap.objs.size<=c
 hd:X.calm=true->X.A.handled=none
 frames:X.A.frames=some X.stack
 Uv:X.stack=X.outer\/(X.stack=X.env::X.outer/\X.env.frame=some X.env.locals)
 VM:∀b∈X.ex,b≠X.env.locals/\∀x c,X.env.cells.lookup x=some c->c≠b
 bs:∀b o,X.base.get? b=some o->X.cS.heap.get? b=some o/\X.sY b=none
 CQ:X.base.objs.size<=X.cS.heap.objs.size
 xh:∀b o,X.base.get? b=some o->b∉X.ex
 zN:∀b∈X.ex,b∉X.fs
 km:X.cS.heap.FunFrames X.base X.outer
 Jn:∀b∈X.fs,X.sY b=none
structure Inv(X:Cx)(pins:List (Addr×Obj))(σ:List (Option V))(H:Hp)(s:Shared):Prop where
 ok:X.Ok
 os:s.os=X.cS.os
 bare:AllBare s.gens
 base:Un X.fs X.ex X.sY H X.cS.heap s.heap
 loc:∃m,s.heap.Ns X.env.locals m/\∀(i:Nat) (x:Str) (v:V),X.N[i]?=some x->σ[i]?=some (some v)->Pj X.env.scope x->∃u,RelV v u/\Look X.env s.heap m x u
 cell:∀x c,X.env.cells.lookup x=some c->∃v,s.heap.IsCell c v
 free:H X.env.locals=none
 fb:∀x c,X.env.cells.lookup x=some c->H c=none
 pin:∀p∈X.pn++pins,s.heap.get? p.1=some p.2/\H p.1=none/\p.1≠X.env.locals/\p.1∉X.fs/\∀v,p.2.data≠.cell v
 bU:gn X.prog X.w H s.heap
 len:σ.length=X.N.length
section
variable {X:Cx}{pins:List (Addr×Obj)}{σ:List (Option V)}{H H':Hp}{s:Shared}{h':Heap}
theorem Cx.Ok.Xg(ok:X.Ok){b:Addr}{o:Obj}(e:X.base.get? b=some o):b∉X.fs:=λhb=>by
 have:=(ok.km.mem hb).1;rw[e]at this;cases this
theorem Inv.bs(I:Inv X pins σ H s):∀b o,X.base.get? b=some o->s.heap.get? b=some o/\H b=none:=λb o e =>
 ⟨I.base.keep b o (I.ok.bs b o e).1 (I.ok.bs b o e).2 (I.ok.Xg e) (I.ok.xh b o e),I.base.free b o (I.ok.bs b o e).1 (I.ok.bs b o e).2 (I.ok.xh b o e)⟩
theorem Inv.bk(I:Inv X pins σ H s):∀b o,X.base.get? b=some o->s.heap.get? b=some o:=λb o e=>(I.bs b o e).1
theorem Inv.mod(I:Inv X pins σ H s):Mod X.K X.mg X.base:=I.ok.mod
theorem Inv.OC(I:Inv X pins σ H s):X.K.In s.heap:=I.ok.mod.WV.keeps I.bk
theorem Inv.fr(I:Inv X pins σ H s):∃m,Fr X.base X.env.locals s.heap m:=
 let ⟨m,hn,_⟩:=I.loc
 ⟨m,hn,I.bk,Nat.le_trans I.ok.CQ I.ok.above⟩
theorem Inv.lt(I:Inv X pins σ H s):X.env.locals<s.heap.objs.size:=let ⟨_,hn,_⟩:=I.loc;hn.lt
theorem Inv.sz(I:Inv X pins σ H s):X.cS.heap.objs.size<=s.heap.objs.size:=Nat.le_trans I.ok.above (Nat.le_of_lt I.lt)
theorem Inv.Xh(I:Inv X pins σ H s){a:Addr}(h:s.heap.objs.size<=a):a∉X.fs:=λhb=>by
 obtain⟨_,o,ho,_⟩:=I.ok.km.mem hb;exact absurd (Nat.lt_of_lt_of_le (Heap.lt_size ho) (Nat.le_trans I.sz h)) (Nat.lt_irrefl _)
theorem Inv.Hy(I:Inv X pins σ H s):∀x c,X.env.cells.lookup x=some c->c≠X.env.locals:=λx c e z=>by
 obtain⟨v,o,ho,hd⟩:=I.cell x c e;obtain⟨m,⟨o',es,ep,JE,V8,_⟩,_⟩:=I.loc;rw[z,JE]at ho;cases ho;rw[V8]at hd;cases hd
theorem Inv.km(I:Inv X pins σ H s):s.heap.FunFrames X.base X.outer:=by
 have all:∀(l:List Env),(∀b∈Ac l,b∈X.fs)->X.cS.heap.FunFrames X.base l->s.heap.FunFrames X.base l:=by
  intro l
  induction l with
  | nil=>intro _ _;trivial
  | cons env r ih =>
   intro hs hl;obtain⟨hk,⟨L,o,hf,hn,ho,hd⟩,hr⟩:=hl;have hL:L∈X.fs:=hs L (by unfold Ac;rw[List.filterMap_cons,hf];exact List.mem_cons_self)
   obtain⟨sl,e⟩:=I.base.slot L o ho (I.ok.Jn L hL) hL λz=>I.ok.zN L z hL;exact⟨hk,⟨L,_,hf,hn,e,hd⟩,ih (λb hb=>hs b (by unfold Ac;rw[List.filterMap_cons,hf];exact List.mem_cons_of_mem _ hb)) hr⟩
 exact all X.outer (λ_ hb=>hb) I.ok.km
theorem Inv.stack(I:Inv X pins σ H s):s.heap.FunFrames X.base X.stack:=by
 rcases I.ok.Uv with e|⟨e,hf⟩
 ·rw[e];exact I.km
 ·rw[e]
  obtain⟨m,hn,_⟩:=I.loc;refine .cons (by rw[I.ok.kind];decide) hf hn ?_ I.km
  exact Heap.get?_none_of_le (Nat.le_trans I.ok.CQ I.ok.above)
theorem Inv.p6(I:Inv X pins σ H s):∀b∈Ac X.stack,b∈X.env.locals::X.fs:=λb hb=>by
 rcases I.ok.Uv with e|⟨e,hf⟩
 ·rw[e]at hb;exact List.mem_cons_of_mem _ hb
 ·rw[e]at hb
  unfold Ac at hb;rw[List.filterMap_cons,hf]at hb;exact hb
theorem Inv.v7(I:Inv X pins σ H s):∀b∈Ac X.stack,H b=none:=λb hb=>by
 rcases List.mem_cons.mp (I.p6 b hb)with e|hb
 ·rw[e];exact I.free
 ·obtain⟨_,o,ho,_⟩:=I.ok.km.mem hb
  exact I.base.free b o ho (I.ok.Jn b hb) λz=>I.ok.zN b z hb
theorem Inv.step{g':Array GenState}{t':Nat}{d':Drawn}{ch:List Addr}(I:Inv X pins σ H s)
  (C0:∀b∈ch,(b∈X.ex\/X.cS.heap.get? b=none)/\b≠X.env.locals/\(∀x c,X.env.cells.lookup x=some c->c≠b)/\∀p∈X.pn++pins,p.1≠b)
  (keep:∀b o,b≠X.env.locals->b∉X.fs->b∉ch->s.heap.get? b=some o->H b=none->h'.get? b=some o)
  (slot:∀b o,b≠X.env.locals->b∈X.fs->b∉ch->s.heap.get? b=some o->H b=none->∃sl,h'.get? b=some {o with slots:=sl}) (free:∀b o,b∉ch->s.heap.get? b=some o->H b=none->H' b=none)
  (there:∀b o,b∉ch->s.heap.get? b=some o->∃o',h'.get? b=some o')
  (sr:∀b xs,H b=some (.tup xs)->H' b=some (.tup xs)) (oE:∀b o u,H b=some (.wI o u)->H' b=some (.wI o u)) (sj:∀b ps,H b=some (.N6 ps)->∃more,H' b=some (.N6 (ps++more)))
  (ns:∀m,s.heap.Ns X.env.locals m->h'.Ns X.env.locals m) (bU:gn X.prog X.w H' h') (hg:AllBare g'):
  Inv X pins σ H' {s with heap:=h',gens:=g',drawn:=d',toks:=t'}:=by
 have YZ:∀b o,X.cS.heap.get? b=some o->b≠X.env.locals:=λb o e=>Nat.ne_of_lt (Nat.lt_of_lt_of_le (Heap.lt_size e) I.ok.above);have U5:∀b o,X.cS.heap.get? b=some o->b∉X.ex->b∉ch:=λb o e hx hb=>by
  rcases(C0 b hb).1 with z|z
  ·exact hx z
  ·rw[e]at z;cases z
 have cellK:∀x c,X.env.cells.lookup x=some c->∀v,s.heap.IsCell c v->h'.IsCell c v:=λx c e v ⟨o,ho,hd⟩=>by
  have A1:c∉ch:=λz=>(C0 c z).2.2.1 x c e rfl
  by_cases hc:c∈X.fs
  ·obtain⟨sl,q⟩:=slot c o (I.Hy x c e) hc A1 ho (I.fb x c e)
   exact⟨_,q,hd⟩
  ·exact⟨o,keep c o (I.Hy x c e) hc A1 ho (I.fb x c e),hd⟩
 refine⟨I.ok,I.os,hg,⟨λb o e n hb hx=>?_,λb o e n hb hx=>?_,λb o e n hx=>?_,λb o e hx=>?_,λb xs e=>sr b xs (I.base.sr b xs e),λb o xs e=>oE b o xs (I.base.oE b o xs e),λb ps e=>?_⟩,?_,λx c e=>?_,?_,λx c e=>?_,λp hp=>?_,bU,I.len⟩
 ·exact keep b o (YZ b o e) hb (U5 b o e hx) (I.base.keep b o e n hb hx) (I.base.free b o e n hx)
 ·obtain⟨sl,e1⟩:=I.base.slot b o e n hb hx
  obtain⟨sl',e2⟩:=slot b _ (YZ b o e) hb (U5 b o e hx) e1 (I.base.free b o e n hx);exact⟨sl',e2⟩
 ·obtain⟨o',e1⟩:=I.base.there b o e hx
  exact free b o' (U5 b o e hx) e1 (I.base.free b o e n hx)
 ·obtain⟨o',e1⟩:=I.base.there b o e hx
  exact there b o' (U5 b o e hx) e1
 ·obtain⟨m1,e1⟩:=I.base.sj b ps e
  obtain⟨m2,e2⟩:=sj b _ e1;exact⟨m1++m2,by rw[e2,Array.append_assoc]⟩
 ·obtain⟨m,hn,hl⟩:=I.loc
  refine⟨m,ns m hn,λi x v e1 e2 e3=>?_⟩;obtain⟨u,r,l⟩:=hl i x v e1 e2 e3;refine⟨u,r,?_⟩;rcases l with l|⟨k,c,e,z⟩
  ·exact .inl l
  ·exact .inr ⟨k,c,e,cellK x c e _ z⟩
 ·obtain⟨v,z⟩:=I.cell x c e
  exact⟨v,cellK x c e v z⟩
 ·obtain⟨m,⟨o,_,_,ho,_⟩,_⟩:=I.loc
  exact free _ o (λz=>(C0 _ z).2.1 rfl) ho I.free
 ·obtain⟨v,o,ho,hd⟩:=I.cell x c e
  exact free c o (λz=>(C0 c z).2.2.1 x c e rfl) ho (I.fb x c e)
 ·obtain⟨e,n,ne,nf,d⟩:=I.pin p hp
  have A1:p.1∉ch:=λz=>(C0 p.1 z).2.2.2 p hp rfl;exact⟨keep p.1 p.2 ne nf A1 e n,free p.1 p.2 A1 e n,ne,nf,d⟩
theorem Inv.un{t':Nat}(I:Inv X pins σ H s)(u:Un X.fs [] H H' s.heap h')(bU:gn X.prog X.w H' h'):Inv X pins σ H' {s with heap:=h',toks:=t'}:=by
 obtain⟨m,⟨o,es,ep,ho,r⟩,_⟩:=id I.loc;obtain⟨sl,hL⟩:=u.any ho I.free (by simp)
 exact I.step (g':=s.gens) (d':=s.drawn) (ch:=[]) (λ_ z=>nomatch z) (λb o _ hb _ e n=>u.keep b o e n hb (by simp)) (λb o _ hb _ e n=>u.slot b o e n hb (by simp)) (λb o _ e n=>u.free b o e n (by simp)) (λb o _ e=>u.there b o e (by simp)) u.sr u.oE u.sj (λm' hm=>by
  obtain⟨o',mE,VJ,JE,r'⟩:=hm;rw[ho]at JE;cases JE;exact⟨_,mE,VJ,hL,r'⟩) bU I.bare
theorem Inv.call{g':Array GenState}{t':Nat}{d':Drawn}{ch:List Addr}(I:Inv X pins σ H s)(u:Un (Ac X.stack) ch H H' s.heap h')(bU:gn X.prog X.w H' h')(hg:AllBare g')
  (C0:∀b∈ch,(b∈X.ex\/X.cS.heap.get? b=none)/\b≠X.env.locals/\(∀x c,X.env.cells.lookup x=some c->c≠b)/\∀p∈X.pn++pins,p.1≠b):
  Inv X pins σ H' {s with heap:=h',gens:=g',drawn:=d',toks:=t'}:=by
 obtain⟨m,⟨o,es,ep,ho,r⟩,_⟩:=id I.loc;obtain⟨sl,hL⟩:=u.any ho I.free λz=>(C0 _ z).2.1 rfl;exact I.step (ch:=ch) C0 (λb o hL hb hc e n=>u.keep b o e n (λz=>(List.mem_cons.mp (I.p6 b z)).elim hL hb) hc) (λb o _ _ hc e n=>u.any e n hc) (λb o hc e n=>u.free b o e n hc) (λb o hc e=>u.there b o e hc) u.sr u.oE u.sj (λm' hm=>by
  obtain⟨o',mE,VJ,JE,r'⟩:=hm;rw[ho]at JE;cases JE;exact⟨_,mE,VJ,hL,r'⟩) bU hg
theorem Inv.turned{t':Nat}{it:Addr}(I:Inv X pins σ H s)(k:∀b o,b≠it->s.heap.get? b=some o->h'.get? b=some o)(hn:H it=none)(hL:it≠X.env.locals)
  (h1:it∈X.ex\/X.cS.heap.objs.size<=it) (h2:∀x c,X.env.cells.lookup x=some c->c≠it) (h3:∀p∈X.pn++pins,p.1≠it):Inv X pins σ H {s with heap:=h',toks:=t'}:=by
 have Y0:∀b u,H b=some u->b≠it:=λb u e z=>by rw[z,hn]at e;cases e
 refine I.step (g':=s.gens) (d':=s.drawn) (ch:=[it]) (λb hb=>?_) (λb o _ _ hc e _=>k b o (λz=>hc (by simp [z])) e) (λb o _ _ hc e _=>⟨o.slots,k b o (λz=>hc (by simp [z])) e⟩) (λ_ _ _ _ n=>n)
  (λb o hc e=>⟨o,k b o (λz=>hc (by simp [z])) e⟩) (λ_ _ e=>e) (λ_ _ _ e=>e) (λb ps e=>⟨#[],by rw[e];simp⟩) (λm hm=>?_) (λb u e=>?_) I.bare
 ·have e:b=it:=by simpa using hb
  subst e;exact⟨h1.imp id λz=>Heap.get?_none_of_le z,hL,h2,h3⟩
 ·obtain⟨o,es,ep,ho,r⟩:=hm
  exact⟨o,es,ep,k _ o (Ne.symm hL) ho,r⟩
 ·refine(I.bU b u e).uE (λc v hc q=>k c v ?_ q) (λ_ q=>q) λ_ _ q=>q
  rcases hc with z|z
  ·rw[z];exact Y0 b u e
  ·exact Y0 c _ z
theorem Inv.tok(I:Inv X pins σ H s)(t:Nat):Inv X pins σ H {s with toks:=t}:=I.un (h':=s.heap) (t':=t) Un.refl I.bU
theorem Inv.kept{t':Nat}(I:Inv X pins σ H s)(k:∀b u,s.heap.get? b=some u->h'.get? b=some u):Inv X pins σ H {s with heap:=h',toks:=t'}:=I.un (Un.kept k) (I.bU.kept k)
theorem Inv.laid{a:Addr}{o:HO}{t':Nat}(I:Inv X pins σ H s)(k:∀b u,s.heap.get? b=some u->h'.get? b=some u)(hp:s.heap.objs.size<=a)(new:cv X.prog X.w (upd H a o) h' a o):
  Inv X pins σ (upd H a o) {s with heap:=h',toks:=t'}:=I.un (Un.laid k hp (I.bU.fresh hp)) (I.bU.laid k hp new)
theorem Inv.write{x e:Addr}{o:HO}{t':Nat}(I:Inv X pins σ H s)(mu:Pa (H x))(he:e=x\/H e=some (.own x))(k:∀b u,b≠e->s.heap.get? b=some u->h'.get? b=some u)(Ot:∃u,h'.get? e=some u)
  (new:cv X.prog X.w (upd H x o) h' x o):Inv X pins σ (upd H x o) {s with heap:=h',toks:=t'}:=I.un (Un.write mu he k Ot) (I.bU.write mu he k Ot new)
theorem Inv.vE{GA:List (Addr×Obj)}(I:Inv X pins σ H s)(h:∀p∈GA,s.heap.get? p.1=some p.2/\H p.1=none/\p.1≠X.env.locals/\p.1∉X.fs/\∀v,p.2.data≠.cell v):Inv X GA σ H s:=
 ⟨I.ok,I.os,I.bare,I.base,I.loc,I.cell,I.free,I.fb,λp hp=>(List.mem_append.mp hp).elim (λz=>I.pin p (List.mem_append_left _ z)) (h p),I.bU,I.len⟩
theorem rB{N:List Str}(hN:N.Nodup){i j:Nat}{x:Str}(a:N[i]?=some x)(b:N[j]?=some x):i=j:=by
 obtain⟨h1,e1⟩:=List.getElem?_eq_some_iff.mp a;obtain⟨h2,e2⟩:=List.getElem?_eq_some_iff.mp b;exact(List.getElem_inj hN).mp (e1.trans e2.symm)
theorem xD{M:Model}{A:Around}{E:Value->Shared->Prop}{i:Nat}{x:Str}{v:V}{u:Value}{Q:Unit->Shared->Prop}(I:Inv X pins σ H s)(hN:X.N.Nodup)(hi:X.N[i]?=some x)(hx:Loc X.env.scope x)(r:RelV v u)
  (h:∀s',Inv X pins (σ.set i (some v)) H s'->(∃a,Heap.SameBut a s.heap s'.heap/\(a=X.env.locals\/X.env.cells.lookup x=some a))->Q () s') (hf:X.fn x=true\/X.env.scope.names.lookup x=some .local:=by first|exact .inl rfl|exact .inr rfl|assumption):wpAny M A (storeName X.env x u) Q E s:=by
 obtain⟨m,hn,hl⟩:=id I.loc;have V6:(X.env.scope.kind==.class||(X.env.scope.kind==.module&&X.env.locals != X.env.globals))=false:=by rw[I.ok.kind];rfl
 have Rp:i<σ.length:=by rw[I.len];exact(List.getElem?_eq_some_iff.mp hi).1
 have Hy:=I.Hy;have tracked:∀ {a:Addr} {h':Heap},(∃o,s.heap.get? a=some o/\H a=none)->Heap.SameBut a s.heap h'->gn X.prog X.w H h':=λ{a h'} ha hs b ob e=>by
  obtain⟨_,_,vg⟩:=ha;refine(I.bU b ob e).uE (λc w' hc q=>(hs.2 c ?_).trans q) (λ_ q=>q) λ_ _ q=>q;rintro rfl;rcases hc with rfl|hc
  ·rw[vg]at e;cases e
  ·rw[vg]at hc;cases hc
 rcases hx with hk|hk
 ·refine wpAny_storeName_local hk hn (λh' ZY hs=>?_) V6
  obtain⟨oL,_,_,JF,_⟩:=id hn;refine h _ ⟨I.ok,I.os,I.bare,⟨λb o e n hb hx=>?_,λb o e n hb hx=>?_,I.base.free,λb o e hx=>?_,I.base.sr,I.base.oE,I.base.sj⟩,⟨_,ZY,λj y v' e1 e2 e3=>?_⟩,λy c e=>?_,I.free,I.fb,λp hp=>?_,tracked ⟨oL,JF,I.free⟩ hs,by simpa using I.len⟩ ⟨_,hs,.inl rfl⟩
  ·exact(hs.2 b (Nat.ne_of_lt (Nat.lt_of_lt_of_le (Heap.lt_size e) I.ok.above))).trans (I.base.keep b o e n hb hx)
  ·obtain⟨sl,e1⟩:=I.base.slot b o e n hb hx
   exact⟨sl,(hs.2 b (Nat.ne_of_lt (Nat.lt_of_lt_of_le (Heap.lt_size e) I.ok.above))).trans e1⟩
  ·obtain⟨o',e1⟩:=I.base.there b o e hx
   exact⟨o',(hs.2 b (Nat.ne_of_lt (Nat.lt_of_lt_of_le (Heap.lt_size e) I.ok.above))).trans e1⟩
  ·by_cases hj:j=i
   ·subst hj
    rw[hi]at e1;cases e1;rw[List.getElem?_set_self Rp]at e2;cases e2;exact⟨u,r,.inl ⟨hk,by simp⟩⟩
   ·rw[List.getElem?_set_ne (Ne.symm hj)]at e2
    obtain⟨u',r',q⟩:=hl j y v' e1 e2 e3;refine⟨u',r',?_⟩;rcases q with⟨k,e⟩|⟨k,c,e,z⟩
    ·refine .inl ⟨k,?_⟩
     have:y≠x:=λe=>hj (rB hN e1 (e ▸ hi));simp [this,e]
    ·exact .inr ⟨k,c,e,z.sameBut hs (Hy y c e)⟩
  ·obtain⟨w',z⟩:=I.cell y c e
   exact⟨w',z.sameBut hs (Hy y c e)⟩
  ·obtain⟨e,n,ne,nf,d⟩:=I.pin p hp
   exact⟨(hs.2 p.1 ne).trans e,n,ne,nf,d⟩
 ·have Rh:X.fn x=true:=by
   rcases hf with z|z
   ·exact z
   ·rw[z]at hk;cases hk
  obtain⟨c,hc⟩:=I.ok.has x (.inl hk);obtain⟨w',z⟩:=I.cell x c hc;refine wpAny_storeName_cell I.ok.kind hk hc z (λh' Oo hs=>?_);obtain⟨oc,YD,Wo⟩:=id z;refine h {s with heap:=h'} ⟨I.ok,I.os,I.bare,⟨λb o e n hb hx=>?_,λb o e n hb hx=>?_,I.base.free,λb o e hx=>?_,I.base.sr,I.base.oE,I.base.sj⟩,⟨m,hn.sameBut hs (Ne.symm (Hy x c hc)),λj y v' e1 e2 e3=>?_⟩,λy c' e=>?_,I.free,I.fb,λp hp=>?_,tracked ⟨oc,YD,I.fb x c hc⟩ hs,by simpa using I.len⟩ ⟨c,hs,.inr hc⟩
  ·exact(hs.2 b (Nat.ne_of_lt (Nat.lt_of_lt_of_le (Heap.lt_size e) (I.ok.Oi x c Rh hc)))).trans (I.base.keep b o e n hb hx)
  ·obtain⟨sl,e1⟩:=I.base.slot b o e n hb hx
   exact⟨sl,(hs.2 b (Nat.ne_of_lt (Nat.lt_of_lt_of_le (Heap.lt_size e) (I.ok.Oi x c Rh hc)))).trans e1⟩
  ·obtain⟨o',e1⟩:=I.base.there b o e hx
   exact⟨o',(hs.2 b (Nat.ne_of_lt (Nat.lt_of_lt_of_le (Heap.lt_size e) (I.ok.Oi x c Rh hc)))).trans e1⟩
  ·by_cases hj:j=i
   ·subst hj
    rw[hi]at e1;cases e1;rw[List.getElem?_set_self Rp]at e2;cases e2;exact⟨u,r,.inr ⟨.inl hk,c,hc,Oo⟩⟩
   ·rw[List.getElem?_set_ne (Ne.symm hj)]at e2
    obtain⟨u',r',q⟩:=hl j y v' e1 e2 e3;refine⟨u',r',?_⟩;rcases q with q|⟨k,c',e,z'⟩
    ·exact .inl q
    ·refine .inr ⟨k,c',e,z'.sameBut hs ?_⟩
     rintro rfl;exact hj (rB hN e1 (I.ok.inj _ _ _ e hc ▸ hi))
  ·by_cases Yh:c'=c
   ·subst Yh;exact⟨_,Oo⟩
   ·obtain⟨w2,z2⟩:=I.cell y c' e
    exact⟨w2,z2.sameBut hs Yh⟩
  ·obtain⟨e,n,ne,nf,d⟩:=I.pin p hp
   refine⟨(hs.2 p.1 ?_).trans e,n,ne,nf,d⟩;intro q;rw[q,YD]at e;have q':oc=p.2:=Option.some.inj e;exact d w' (by rw[<- q'];exact Wo)
theorem mn{M:Model}{A:Around}{E:Value->Shared->Prop}{i:Nat}{x:Str}{v:V}{u:Value}{Q:Unit->Shared->Prop}(I:Inv X pins σ H s)(hN:X.N.Nodup)(hi:X.N[i]?=some x)(hx:Loc X.env.scope x)(r:RelV v u)
  (h:∀s',Inv X pins (σ.set i (some v)) H s'->Q () s') (hf:X.fn x=true\/X.env.scope.names.lookup x=some .local:=by first|exact .inl rfl|exact .inr rfl|assumption):wpAny M A (storeName X.env x u) Q E s:=
 xD I hN hi hx r (λs' I' _=>h s' I') hf
theorem Inv.PD{s':Shared}{ch:List Addr}(I:Inv X pins σ H s)(ho:s'.os=s.os)(u:Un (Ac X.stack) ch H H' s.heap s'.heap)(bU:gn X.prog X.w H' s'.heap)(hg:AllBare s'.gens)
  (C0:∀b∈ch,(b∈X.ex\/X.cS.heap.get? b=none)/\b≠X.env.locals/\(∀x c,X.env.cells.lookup x=some c->c≠b)/\∀p∈X.pn++pins,p.1≠b):Inv X pins σ H' s':=by
 obtain⟨h',g',d',t',o'⟩:=s';have e:o'=s.os:=ho;subst e;exact I.call (g':=g') (t':=t') (d':=d') u bU hg C0
end
abbrev XK:=Value->Option Addr->Hp->Prop
abbrev St:=List (Option V)
abbrev VK:=V->Hp->Prop
abbrev TE:=St->Hp->VK->Prop
abbrev TT:=St->Hp->(Bool->Hp->Prop)->Prop
abbrev TA:=St->Hp->(List V->Hp->Prop)->Prop
structure Ends where
 nx:St->Hp->Prop
 rt:VK
 bk:St->Hp->Prop:=λ_ _=>False
 ct:St->Hp->Prop:=λ_ _=>False
abbrev TS:=Ends->St->Hp->Prop
def EP(X:Cx)(pins:List (Addr×Obj))(σ:St)(Q:VK)(u:Value)(s':Shared):Prop:=∃v H',Inv X pins σ H' s'/\RelV v u/\Q v H'
def TP(X:Cx)(pins:List (Addr×Obj))(σ:St)(Q:Bool->Hp->Prop)(b:Bool)(s':Shared):Prop:=∃H',Inv X pins σ H' s'/\Q b H'
def AP(X:Cx)(pins:List (Addr×Obj))(σ:St)(Q:List V->Hp->Prop)(us:List Value)(s':Shared):Prop:=∃vs H',Inv X pins σ H' s'/\Vals vs us/\Q vs H'
def SP(X:Cx)(pins:List (Addr×Obj))(D:Ends)(f:Flow)(s':Shared):Prop:=
 match f with
 | .next=>∃cA H',Inv X pins cA H' s'/\D.nx cA H'
 | .brk=>∃cA H',Inv X pins cA H' s'/\D.bk cA H'
 | .cont=>∃cA H',Inv X pins cA H' s'/\D.ct cA H'
 | .ret u=>∃v cA H',Inv X pins cA H' s'/\RelV v u/\D.rt v H'
def PE(X:Cx)(e:Expr)(t:TE):Prop:=
 ∀(pins:List (Addr×Obj)) (s:Shared) (σ:St) (H:Hp) (Q:VK),Inv X pins σ H s->t σ H Q->wpAny (model X.prog X.w) X.A (eval e X.env) (EP X pins σ Q) X.xe s
def PT(X:Cx)(e:Expr)(t:TT):Prop:=
 ∀(pins:List (Addr×Obj)) (s:Shared) (σ:St) (H:Hp) (Q:Bool->Hp->Prop),Inv X pins σ H s->t σ H Q->wpAny (model X.prog X.w) X.A (isTrue e X.env (eval e X.env)) (TP X pins σ Q) X.xe s
def PW(X:Cx)(e:Expr)(t:TT):Prop:=
 ∀(whole:Sem Value) (pins:List (Addr×Obj)) (s:Shared) (σ:St) (H:Hp) (Q:Bool->Hp->Prop),Inv X pins σ H s->t σ H Q->wpAny (model X.prog X.w) X.A (isTrue e X.env whole) (TP X pins σ Q) X.xe s
theorem PW.pt{X:Cx}{e:Expr}{t:TT}(h:PW X e t):PT X e t:=h _
def PA(X:Cx)(es:List Expr)(t:TA):Prop:=
 ∀(pos:Pos) (pins:List (Addr×Obj)) (s:Shared) (σ:St) (H:Hp) (Q:List V->Hp->Prop),Inv X pins σ H s->t σ H Q->wpAny (model X.prog X.w) X.A (spliced (backTo pos (starEach es X.env))) (AP X pins σ Q) X.xe s
def PS(X:Cx)(st:Stmt)(t:TS):Prop:=
 ∀(pins:List (Addr×Obj)) (s:Shared) (σ:St) (H:Hp) (D:Ends),Inv X pins σ H s->t D σ H->wpAny (model X.prog X.w) X.A (exec st X.env) (SP X pins D) X.xe s
def p9(X:Cx)(st:List Stmt)(t:TS):Prop:=
 ∀(pins:List (Addr×Obj)) (s:Shared) (σ:St) (H:Hp) (D:Ends),Inv X pins σ H s->t D σ H->wpAny (model X.prog X.w) X.A (execs st X.env) (SP X pins D) X.xe s
theorem b8{α:Type}{t:Sem α}{Q Q':α->Shared->Prop}{M:Model}{A:Around}{E:Value->Shared->Prop}{s:Shared}(h:wpAny M A t Q E s)(hQ:∀a s,Q a s->Q' a s):wpAny M A t Q' E s:=wpAny_mono h hQ λ_ _ x=>x
end L2
namespace L2
open PySem PySem.Spec PyProof.Rows
section
variable {X:Cx}
def XQ(i:Nat):TE:=λσ H Q=>∃v,σ[i]?=some (some v)/\Q v H
def tC(v:V):TE:=λ_ H Q=>Q v H
theorem ud{i:Nat}{x:Str}{pos:Pos}(hN:X.N[i]?=some x)(hv:Pj X.env.scope x)(hd:(x==("__debug__":Str))=false:=by decide)(qT:(x==("__classdict__":Str))=false:=by decide):PE X (.Name x pos) (XQ i):=by
 intro pins s σ H Q I h;obtain⟨v,e,h⟩:=h;obtain⟨m,hn,hl⟩:=I.loc;obtain⟨u,r,l⟩:=hl i x v hN e hv;have fin:EP X pins σ Q u s:=⟨v,H,I,r,h⟩;rcases l with⟨hk,hm⟩|⟨hk,c,hc,vd⟩
 ·exact wpAny_Name (wpAny_loadName_local I.ok.kind hk hn hm fin) hd
 ·rcases hk with hk|hk
  ·exact wpAny_Name (wpAny_loadName_cell I.ok.kind hk hc vd fin) hd
  ·exact wpAny_Name (wpAny_loadName_free I.ok.kind hk hc vd fin qT) hd
theorem LY{i j pos}:PE X (.Constant (.int i) j pos) (tC (.int i)):=λ_ _ _ H _ I h=>wpAny_Constant_int ⟨.int i,H,I.tok _,⟨_,rfl⟩,h⟩
theorem Tg{b j pos}:PE X (.Constant (.bool b) j pos) (tC (.bl b)):=λ_ _ _ H _ I h=>Constant_bool ⟨.bl b,H,I,rfl,h⟩
theorem L0{j pos}:PE X (.Constant .none j pos) (tC .bC):=λ_ _ _ H _ I h=>Constant_none ⟨.bC,H,I,rfl,h⟩
theorem L5{x j pos}:PE X (.Constant (.str x) j pos) (tC (.str x)):=λ_ _ _ H _ I h=>Calls.Constant_str ⟨.str x,H,I.tok _,⟨_,rfl⟩,h⟩
def Gl(X:Cx)(x:Str):Prop:=X.env.kindOf x=some .globalImplicit
theorem vA{E:Value->Shared->Prop}{pins:List (Addr×Obj)}{s:Shared}{σ:St}{H:Hp}{x:Str}{u:Value}{pos:Pos}{Q:Value->Shared->Prop}(I:Inv X pins σ H s)(hg:Gl X x)(hm:X.mg x=some u)(h:Q u s)
  (hd:(x==("__debug__":Str))=false:=by decide):wpAny (model X.prog X.w) X.A (eval (.Name x pos) X.env) Q E s:=
 Calls.Name_function_global I.ok.kind hg (Calls.loadGlobal_global (by rw[I.ok.glob];exact I.mod.glob.keeps I.bk) hm h) hd
theorem eP{E:Value->Shared->Prop}{pins:List (Addr×Obj)}{s:Shared}{σ:St}{H:Hp}{x:Str}{u:Value}{pos:Pos}{Q:Value->Shared->Prop}(I:Inv X pins σ H s)(hg:Gl X x)(hm:X.mg x=none)(hv:bootBuiltins x=some u)(h:Q u s)
  (hn:x≠"__name__":=by decide) (hd:(x==("__debug__":Str))=false:=by decide):wpAny (model X.prog X.w) X.A (eval (.Name x pos) X.env) Q E s:=by
 obtain⟨mb,h1,h2⟩:=I.mod.blt;exact Calls.Name_function_global I.ok.kind hg (Calls.loadGlobal_builtin (by rw[I.ok.glob];exact I.mod.glob.keeps I.bk) hm (by rw[I.ok.blt];exact h1.keeps I.bk) ((h2 x hn).trans hv) h) hd
theorem Ei{x:Str}{v:V}{u:Value}{pos:Pos}(hg:Gl X x)(hm:X.mg x=some u)(r:RelV v u)(hd:(x==("__debug__":Str))=false:=by decide):PE X (.Name x pos) (tC v):=
 λ_ _ _ H _ I h=>vA I hg hm ⟨v,H,I,r,h⟩ hd
variable {a b:Expr}{ta tb:TE}{pos:Pos}
variable {tA Vb:TT}{rest:List Expr}
def XA(t u:TT):TT:=λσ H Q=>t σ H λc H1=>if c=true then u σ H1 Q else Q false H1
def tOr(t u:TT):TT:=λσ H Q=>t σ H λc H1=>if c=true then Q true H1 else u σ H1 Q
def XG(t:TT):TT:=λσ H Q=>t σ H λc H1=>Q (!c) H1
theorem pw_and1(ha:PT X a tA):PW X (.BoolOp .And [a] pos) tA:=by
 intro wh pins s σ H Q I h;refine isTrue_and (b8 (ha pins s σ H Q I h) λc s1 e=>?_);cases c with
 | true=>exact isTrue_and_nil e
 | false=>exact e
theorem pw_or1(ha:PT X a tA):PW X (.BoolOp .Or [a] pos) tA:=by
 intro wh pins s σ H Q I h;refine isTrue_or (b8 (ha pins s σ H Q I h) λc s1 e=>?_);cases c with
 | false=>exact isTrue_or_nil e
 | true=>exact e
theorem pw_and(ha:PT X a tA)(hb:PW X (.BoolOp .And (b::rest) pos) Vb):PW X (.BoolOp .And (a::b::rest) pos) (XA tA Vb):=by
 intro wh pins s σ H Q I h;refine isTrue_and (b8 (ha pins s σ H _ I h) λc s1 ⟨H1,I1,q1⟩=>?_);cases c with
 | true=>exact hb wh pins s1 σ H1 Q I1 q1
 | false=>exact⟨H1,I1,q1⟩
theorem pw_or(ha:PT X a tA)(hb:PW X (.BoolOp .Or (b::rest) pos) Vb):PW X (.BoolOp .Or (a::b::rest) pos) (tOr tA Vb):=by
 intro wh pins s σ H Q I h;refine isTrue_or (b8 (ha pins s σ H _ I h) λc s1 ⟨H1,I1,q1⟩=>?_);cases c with
 | true=>exact⟨H1,I1,q1⟩
 | false=>exact hb wh pins s1 σ H1 Q I1 q1
theorem MC(ha:PT X a tA):PT X (.UnaryOp .Not a pos) (XG tA):=by
 intro pins s σ H Q I h;exact isTrue_not (ha pins s σ H (λc H1=>Q (!c) H1) I h)
def Ux(ta tb:TE):TE:=λσ H Q=>ta σ H λx H1=>∃c,x=.bl c/\if c=true then tb σ H1 Q else Q (.bl false) H1
def XH(ta tb:TE):TE:=λσ H Q=>ta σ H λx H1=>∃c,x=.bl c/\if c=true then Q (.bl true) H1 else tb σ H1 Q
theorem L3{op}{t:TE}(h:PE X a t):PE X (.BoolOp op [a] pos) t:=λpins s σ H Q I hw=>BoolOp_one (h pins s σ H Q I hw)
theorem LX(ha:PE X a ta)(hb:PE X (.BoolOp .And (b::rest) pos) tb):PE X (.BoolOp .And (a::b::rest) pos) (Ux ta tb):=by
 intro pins s σ H Q I h;refine BoolOp_and (b8 (ha pins s σ H _ I h) λv s1 ⟨x,H1,I1,r1,q1⟩=>?_);obtain⟨c,rfl,q1⟩:=q1;cases r1;refine wpAny_truthy_bool ?_;cases c with
 | true=>exact hb pins s1 σ H1 Q I1 q1
 | false=>exact⟨.bl false,H1,I1,rfl,q1⟩
theorem Tp(ha:PE X a ta)(hb:PE X (.BoolOp .Or (b::rest) pos) tb):PE X (.BoolOp .Or (a::b::rest) pos) (XH ta tb):=by
 intro pins s σ H Q I h;refine BoolOp_or (b8 (ha pins s σ H _ I h) λv s1 ⟨x,H1,I1,r1,q1⟩=>?_);obtain⟨c,rfl,q1⟩:=q1;cases r1;refine wpAny_truthy_bool ?_;cases c with
 | false=>exact hb pins s1 σ H1 Q I1 q1
 | true=>exact⟨.bl true,H1,I1,rfl,q1⟩
end
end L2
namespace L2
open PySem PySem.Spec PyProof.Rows
def e6(K:PySem.W.Frag)(H:Hp)(a:Addr)(xs:List V):Prop:=
 Rd H a (.lst xs) \/
  ∃(o:Obj) (its:Array Value) (n:Nat),K.lookup a=some o/\o.cls=.type "list"/\o.dict=none/\o.data=.seq its n/\its.size<=sizeLine/\Vals xs its.toList
def gS(K:PySem.W.Frag)(H:Hp)(a:Addr)(xs:List V):Prop:=
 Rd H a (.tup xs) \/
  ∃(o:Obj) (its:Array Value) (n:Nat),K.lookup a=some o/\o.cls=.type "tuple"/\o.data=.seq its n/\its.size<=sizeLine/\Vals xs its.toList
def Vv:Value->Option V
 | .none=>some .bC
 | .bool b=>some (.bl b)
 | .int i _=>some (.int i)
 | .str x _=>some (.str x)
 | .bytes b _=>some (.PB b)
 | .float b _=>some (.VO b)
 | .ref a=>some (.ref a)
 | .type n=>some (.ty n)
 | _=>none
theorem RelV.abs{x:V}{u:Value}(r:RelV x u):Vv u=some x:=by
 cases x with
 | bC=>cases r;rfl
 | bl _=>cases r;rfl
 | int _=>obtain⟨t,rfl⟩:=r;rfl
 | str _=>obtain⟨t,rfl⟩:=r;rfl
 | PB _=>obtain⟨t,rfl⟩:=r;rfl
 | VO _=>obtain⟨t,rfl⟩:=r;rfl
 | ref _=>cases r;rfl
 | ty _=>cases r;rfl
theorem RelV.inj{x y:V}{u:Value}(r:RelV x u)(q:RelV y u):x=y:=Option.some.inj (r.abs.symm.trans q.abs)
theorem Vals.inj:∀ {xs ys:List V} {us:List Value},Vals xs us->Vals ys us->xs=ys
 | _,_,_,.nil,.nil=>rfl
 | _,_,_,.cons r t,.cons r' t'=>by rw[r.inj r',Vals.inj t t']
section
variable {X:Cx}{pins:List (Addr×Obj)}{σ:St}{H:Hp}{s:Shared}{a:Addr}{xs ys:List V}
theorem e6.of{K:PySem.W.Frag}(h:H a=some (.lst xs)):e6 K H a xs:=.inl (.inl h)
theorem gS.of{K:PySem.W.Frag}(h:H a=some (.tup xs)):gS K H a xs:=.inl (.inl h)
theorem Inv.list(I:Inv X pins σ H s)(h:e6 X.K H a xs):∃its:List Value,Vals xs its/\PlainL s.heap a its.toArray/\xs.length<=sizeLine:=by
 rcases h with h|⟨o,its,n,hk,hc,hd,hs,hz,r⟩
 ·obtain⟨z,its,n,r,e⟩:=h.ok I.bU
  exact⟨its,r,⟨_,n,e,rfl,rfl,rfl⟩,z⟩
 ·refine⟨its.toList,r,⟨o,n,I.OC a o hk,hc,hd,by simpa using hs⟩,?_⟩
  have e:=r.length;simp only[Array.length_toList]at e;omega
theorem Inv.tuple(I:Inv X pins σ H s)(h:gS X.K H a xs):∃its:List Value,Vals xs its/\IsTup s.heap a its.toArray/\xs.length<=sizeLine:=by
 rcases h with h|⟨o,its,n,hk,hc,hs,hz,r⟩
 ·obtain⟨z,its,r,p⟩:=h.ok I.bU
  exact⟨its,r,p,z⟩
 ·refine⟨its.toList,r,⟨o,I.OC a o hk,hc,n,by simpa using hs⟩,?_⟩
  have e:=r.length;simp only[Array.length_toList]at e;omega
theorem Inv.qY(I:Inv X pins σ H s)(h:e6 X.K H a xs)(h':e6 X.K H a ys):xs=ys:=by
 obtain⟨its,r,⟨o,n,e,_,_,d⟩,_⟩:=I.list h;obtain⟨its',r',⟨o',n',e',_,_,d'⟩,_⟩:=I.list h';rw[e]at e';cases e';rw[d]at d'
 injection d' with d1 _
 have:its=its':=by simpa using congrArg Array.toList d1
 subst this;exact r.inj r'
theorem Inv.nP(I:Inv X pins σ H s)(h:gS X.K H a xs)(h':gS X.K H a ys):xs=ys:=by
 obtain⟨its,r,⟨o,e,_,n,d⟩,_⟩:=I.tuple h;obtain⟨its',r',⟨o',e',_,n',d'⟩,_⟩:=I.tuple h';rw[e]at e';cases e';rw[d]at d'
 injection d' with d1 _
 have:its=its':=by simpa using congrArg Array.toList d1
 subst this;exact r.inj r'
end
abbrev Cx.mS(X:Cx)(E:Value->Shared->Prop):Cx:={X with xe:=E}
abbrev Cx.OH(X:Cx):Cx:=X.mS λ_ _=>False
theorem Cx.Ok.mS{X:Cx}(ok:X.Ok)(E:Value->Shared->Prop):(X.mS E).Ok:=
 ⟨ok.mod,ok.kind,ok.glob,ok.blt,ok.above,ok.inj,ok.has,ok.Oi,ok.hd,ok.frames,ok.Uv,ok.VM,ok.bs,ok.CQ,ok.xh,ok.zN,ok.km,ok.Jn⟩
theorem Cx.Ok.fH{X:Cx}{E:Value->Shared->Prop}(ok:(X.mS E).Ok):X.Ok:=
 ⟨ok.mod,ok.kind,ok.glob,ok.blt,ok.above,ok.inj,ok.has,ok.Oi,ok.hd,ok.frames,ok.Uv,ok.VM,ok.bs,ok.CQ,ok.xh,ok.zN,ok.km,ok.Jn⟩
section
variable {X:Cx}{pins:List (Addr×Obj)}{σ:St}{H:Hp}{s:Shared}{E:Value->Shared->Prop}
theorem Inv.mS(I:Inv X pins σ H s)(E:Value->Shared->Prop):Inv (X.mS E) pins σ H s:=⟨I.ok.mS E,I.os,I.bare,I.base,I.loc,I.cell,I.free,I.fb,I.pin,I.bU,I.len⟩
theorem Inv.fH(I:Inv (X.mS E) pins σ H s):Inv X pins σ H s:=⟨I.ok.fH,I.os,I.bare,I.base,I.loc,I.cell,I.free,I.fb,I.pin,I.bU,I.len⟩
theorem SP.fH{D:Ends}{f:Flow}{s':Shared}(h:SP (X.mS E) pins D f s'):SP X pins D f s':=by
 cases f with
 | next=>obtain⟨cA,H',I,q⟩:=h;exact⟨cA,H',I.fH,q⟩
 | brk=>obtain⟨cA,H',I,q⟩:=h;exact⟨cA,H',I.fH,q⟩
 | cont=>obtain⟨cA,H',I,q⟩:=h;exact⟨cA,H',I.fH,q⟩
 | ret u=>obtain⟨v,cA,H',I,r,q⟩:=h;exact⟨v,cA,H',I.fH,r,q⟩
theorem p9.OH{st:List Stmt}{t:TS}(h:p9 X.OH st t):p9 X st t:=λpins s σ H D I hw =>
 wpAny_mono (h pins s σ H D (I.mS _) hw) (λ_ _ q=>q.fH) λ_ _ z=>False.elim z
end
section
variable {X:Cx}{st:Stmt}{rest:List Stmt}{t u:TS}{e:Expr}{te:TE}{pos:Pos}
def UB:TS:=λD σ H=>D.nx σ H
def XM(t u:TS):TS:=λD σ H=>t {D with nx:=u D} σ H
theorem Es:p9 X [] UB:=λ_ _ σ H _ I h=>wpAny_execs_nil ⟨σ,H,I,h⟩
theorem Bv(h1:PS X st t)(h2:p9 X rest u):p9 X (st::rest) (XM t u):=by
 intro pins s σ H D I h;refine wpAny_execs_cons (b8 (h1 pins s σ H {D with nx:=u D} I h) λf s1 q=>?_)
 cases f with
 | next =>
  obtain⟨cA,H',I',q⟩:=q;exact h2 pins s1 cA H' D I' q
 | ret v=>exact q
 | brk=>exact q
 | cont=>exact q
theorem Et(h1:PS X st t):p9 X [st] t:=by
 intro pins s σ H D I h;refine wpAny_execs_cons (b8 (h1 pins s σ H D I h) λf s1 q=>?_);cases f with
 | next=>exact wpAny_execs_nil q
 | ret v=>exact q
 | brk=>exact q
 | cont=>exact q
theorem Inv.quiet{pins:List (Addr×Obj)}{σ:St}{H:Hp}{s:Shared}(I:Inv X pins σ H s):interactive X.env=false:=by simp [interactive,I.ok.kind]
def UA(te:TE):TS:=λD σ H=>te σ H λ_ H1=>D.nx σ H1
theorem Er(he:PE X e te)(hs:swapsWith e none pos.line X.env=pure false:=by rfl):PS X (.Expr e pos) (UA te):=by
 intro pins s σ H D I h;exact wpAny_Expr_any (b8 (he pins s σ H _ I h) λv s1 ⟨x,H1,I1,r1,q1⟩=>⟨σ,H1,I1,q1⟩) I.quiet hs
def XJ(te:TE):TS:=λD σ H=>te σ H D.rt
theorem MB(he:PE X e te):PS X (.Return (some e) pos) (XJ te):=by
 intro pins s σ H D I h;exact wpAny_Return_some (b8 (he pins s σ H _ I h) λv s1 ⟨x,H1,I1,r1,q1⟩=>⟨x,σ,H1,I1,r1,q1⟩)
def XD(c:TT)(t u:TS):TS:=λD σ H=>c σ H λb H1=>if b=true then t D σ H1 else u D σ H1
theorem TJ{c:Expr}{a b:List Stmt}{tc:TT}(hc:PT X c tc)(ha:p9 X a t)(hb:p9 X b u):PS X (.If c a b pos) (XD tc t u):=by
 intro pins s σ H D I h;refine wpAny_If (b8 (hc pins s σ H _ I h) λd s1 ⟨H1,I1,q1⟩=>?_);cases d with
 | true=>exact ha pins s1 σ H1 D I1 q1
 | false=>exact hb pins s1 σ H1 D I1 q1
def NP:TS:=λ_ _ _=>False
theorem Bu:PS X st NP:=λ_ _ _ _ _ _ h=>h.elim
end
abbrev TG:=V->St->Hp->(St->Hp->Prop)->Prop
abbrev FT:=List V->St->Hp->(St->Hp->Prop)->Prop
def PG(X:Cx)(target:Expr)(t:TG):Prop:=
 ∀(pins:List (Addr×Obj)) (s:Shared) (σ:St) (H:Hp) (v:V) (u:Value) (Q:St->Hp->Prop),Inv X pins σ H s->RelV v u->t v σ H Q ->
  wpAny (model X.prog X.w) X.A (assign target X.env u) (λ_ s'=>∃cA H',Inv X pins cA H' s'/\Q cA H') X.xe s
def Og(X:Cx)(ts:List Expr)(t:FT):Prop:=
 ∀(pins:List (Addr×Obj)) (s:Shared) (σ:St) (H:Hp) (vs:List V) (us:List Value) (Q:St->Hp->Prop),Inv X pins σ H s->Vals vs us->t vs σ H Q ->
  wpAny (model X.prog X.w) X.A (assignInOrder ((assignEach ts X.env).map (·.2)) us) (λ_ s'=>∃cA H',Inv X pins cA H' s'/\Q cA H') X.xe s
abbrev yu:=V->V->V->Hp->(Hp->Prop)->Prop
def G2(X:Cx)(t:yu):Prop:=
 ∀(pins:List (Addr×Obj)) (s:Shared) (σ:St) (H:Hp) (o i v:V) (ov iv u:Value) (Q:Hp->Prop),Inv X pins σ H s->RelV o ov->RelV i iv->RelV v u->t o i v H Q ->
  wpAny (model X.prog X.w) X.A (setItem ov iv u) (λ_ s'=>∃H',Inv X pins σ H' s'/\Q H') X.xe s
abbrev Pg:=V->V->Hp->VK->Prop
def XZ(X:Cx)(op:Operator)(t:Pg):Prop:=
 ∀(pins:List (Addr×Obj)) (s:Shared) (σ:St) (H:Hp) (x y:V) (v u:Value) (Q:VK),Inv X pins σ H s->RelV x v->RelV y u->t x y H Q ->
  wpAny (model X.prog X.w) X.A (inplaceOp op v u) (EP X pins σ Q) X.xe s
section
variable {X:Cx}{pos:Pos}
def nk(i:Nat):TG:=λv σ H Q=>Q (σ.set i (some v)) H
theorem Ej{i:Nat}{x:Str}(hN:X.N.Nodup)(hi:X.N[i]?=some x)(hx:Loc X.env.scope x)(hf:X.fn x=true\/X.env.scope.names.lookup x=some .local:=by first|exact .inl rfl|exact .inr rfl|assumption):PG X (.Name x pos) (nk i):=by
 intro pins s σ H v u Q I r h;exact wpAny_assign_Name (mn I hN hi hx r (λs' I'=>⟨_,H,I',h⟩) hf)
def VR:FT:=λvs σ H Q=>vs=[]/\Q σ H
def QW(t:TG)(u:FT):FT:=λvs σ H Q=>∃v r,vs=v::r/\t v σ H λcA H'=>u r cA H' Q
theorem Ek:Og X [] VR:=by
 intro pins s σ H vs us Q I r h;obtain⟨e,h⟩:=h;subst e;cases r;exact assignInOrder_nil ⟨σ,H,I,h⟩
theorem Bo{e:Expr}{es:List Expr}{t:TG}{u:FT}(h1:PG X e t)(h2:Og X es u)
  (hs:(assignEach (e::es) X.env).map (·.2)=assign e X.env::(assignEach es X.env).map (·.2):=by rfl):Og X (e::es) (QW t u):=by
 intro pins s σ H vs us Q I r h;obtain⟨v,vr,e1,h⟩:=h;subst e1;cases r with
 | cons r rr =>
  rw[hs];refine assignInOrder_cons (b8 (h1 pins s σ H _ _ _ I r h) λ_ s1 ⟨aC,H1,I1,q1⟩=>?_);exact h2 pins s1 aC H1 _ _ Q I1 rr q1
def VU(K:PySem.W.Frag)(n:Nat)(t:FT):TG:=λv σ H Q=>∃a xs,v=.ref a/\gS K H a xs/\xs.length=n/\t xs σ H Q
theorem L8{es:List Expr}{k:Nat}{t:FT}{n:Nat}(hc:X.calm=true)(h:Og X es t)
  (hn:(assignEach es X.env).length=n:=by rfl) (JK:(assignEach es X.env).findIdx? (·.1)=none:=by rfl):PG X (.Tuple es k pos) (VU X.K n t):=by
 intro pins s σ H v u Q I r hw;obtain⟨a,xs,e1,hq,hl,hw⟩:=hw;subst e1;cases r;obtain⟨its,rv,ht,hz⟩:=I.tuple hq;refine assign_Tuple_tuple (I.ok.hd hc) ht (by simp [hn,<- hl,rv.length]) JK λh' hx=>?_
 have I1:Inv X pins σ H {s with heap:=h'}:=I.kept (t':=s.toks) λb o e=>hx b o (Nat.ne_of_lt (Heap.lt_size e)) e
 exact h pins _ σ H xs _ Q I1 (by simpa using rv) hw
def VS(to ti:TE)(t:yu):TG:=λv σ H Q=>to σ H λo H1=>ti σ H1 λi H2=>t o i v H2 λH3=>Q σ H3
theorem L7{o i:Expr}{to ti:TE}{t:yu}(ho:PE X o to)(hi:PE X i ti)(hs:G2 X t)
  (ha:∀v,assign (.Subscript o i pos) X.env v=(do
   let ov <- holding [v] (eval o X.env)
   let iv <- holding [v,ov] (eval i X.env)
   standAt pos
   holding [v,ov,iv] (setItem ov iv v)
   release [v,ov,iv] []):=by intro _;rfl):PG X (.Subscript o i pos) (VS to ti t):=by
 intro pins s σ H v u Q I r h;rw[ha];refine wpAny_bind (wpAny_holding (b8 (ho pins s σ H _ I h) λov s1 ⟨x,H1,I1,r1,q1⟩=>?_));refine wpAny_bind (wpAny_holding (b8 (hi pins s1 σ H1 _ I1 q1) λiv s2 ⟨y,H2,I2,r2,q2⟩=>?_));refine wpAny_bind (wpAny_standAt (wpAny_bind (wpAny_holding (b8 (hs pins s2 σ H2 x y v ov iv u _ I2 r1 r2 r q2) λ_ s3 ⟨H3,I3,q3⟩=>?_))));exact wpAny_release ⟨σ,H3,I3,q3⟩
def BR(te:TE)(g:TG):TS:=λD σ H=>te σ H λx H1=>g x σ H1 D.nx
theorem Bt{tg e:Expr}{te:TE}{g:TG}(he:PE X e te)(hg:PG X tg g)(hs:swapsWithSole [tg] e pos.line X.env=pure false:=by rfl)(hw:swappedStores [tg] e X.env=pure none:=by rfl)
  (h1:(assignEach [tg] X.env).map (·.2)=[assign tg X.env]:=by rfl):PS X (.Assign [tg] e pos) (BR te g):=by
 intro pins s σ H D I h;refine wpAny_Assign_stores (b8 (he pins s σ H _ I h) λv s1 ⟨x,H1,I1,r1,q1⟩=>?_) hs hw;rw[h1];exact b8 (hg pins s1 σ H1 x v _ I1 r1 q1) λ_ s2 q=>q
theorem ug{i:Nat}{x:Str}{e:Expr}{te:TE}{pos':Pos}(hN:X.N.Nodup)(hi:X.N[i]?=some x)(hx:Loc X.env.scope x)(he:PE X e te)(hs:swapsWith e (some (.Name x pos')) pos.line X.env=pure false:=by rfl)(hf:X.fn x=true\/X.env.scope.names.lookup x=some .local:=by first|exact .inl rfl|exact .inr rfl|assumption):
  PS X (.Assign [.Name x pos'] e pos) (BR te (nk i)):=by
 intro pins s σ H D I h;refine wpAny_Assign_Name (b8 (he pins s σ H _ I h) λv s1 ⟨y,H1,I1,r1,q1⟩=>?_) hs;exact mn I1 hN hi hx r1 (λs2 I2=>⟨_,H1,I2,q1⟩) hf
def BU(i:Nat)(te:TE)(ti:Pg):TS:=λD σ H=>∃x,σ[i]?=some (some x)/\te σ H λy H1=>ti x y H1 λz H2=>D.nx (σ.set i (some z)) H2
def Uy(to ti te:TE)(E4:V->V->Hp->VK->Prop)(Ve:Pg)(E5:yu):TS:=λD σ H=>to σ H λo H1=>ti σ H1 λi H2=>E4 o i H2 λx H3=>te σ H3 λy H4=>Ve x y H4 λz H5=>E5 o i z H5 λH6=>D.nx σ H6
def Pb(X:Cx)(t:V->V->Hp->VK->Prop):Prop:=
 ∀(pins:List (Addr×Obj)) (s:Shared) (σ:St) (H:Hp) (o i:V) (ov iv:Value) (Q:VK),Inv X pins σ H s->RelV o ov->RelV i iv->t o i H Q ->
  wpAny (model X.prog X.w) X.A (getItem ov iv) (EP X pins σ Q) X.xe s
theorem Eo{o i e:Expr}{to ti te:TE}{E4:V->V->Hp->VK->Prop}{Ve:Pg}{E5:yu}{op:Operator}{gm:Pos}(ho:PE X o to)(hi:PE X i ti)(hg:Pb X E4)(he:PE X e te)(hp:XZ X op Ve)(hs:G2 X E5)
  (ha:∀ov iv new,augStore i ov iv new=(do holding [new,ov,iv] (setItem ov iv new);release [new,ov,iv] [];pure .next):=by intros;rfl):PS X (.AugAssign (.Subscript o i gm) op e pos) (Uy to ti te E4 Ve E5):=by
 intro pins s σ H D I h;refine wpAny_AugAssign_SubscriptAny (b8 (ho pins s σ H _ I h) λov s1 ⟨x1,H1,I1,r1,q1⟩=>?_) ha;refine b8 (hi pins s1 σ H1 _ I1 q1) λiv s2 ⟨x2,H2,I2,r2,q2⟩=>?_;refine b8 (hg pins s2 σ H2 x1 x2 ov iv _ I2 r1 r2 q2) λold s3 ⟨x3,H3,I3,r3,q3⟩=>?_;refine b8 (he pins s3 σ H3 _ I3 q3) λv s4 ⟨x4,H4,I4,r4,q4⟩=>?_;refine b8 (hp pins s4 σ H4 x3 x4 old v _ I4 r3 r4 q4) λnew s5 ⟨x5,H5,I5,r5,q5⟩=>?_;exact b8 (hs pins s5 σ H5 x1 x2 x5 ov iv new _ I5 r1 r2 r5 q5) λ_ s6 ⟨H6,I6,q6⟩=>⟨σ,H6,I6,q6⟩
def ipI(f:Int->Int->Int):Pg:=λx y H Q=>∃i j,x=.int i/\y=.int j/\Q (.int (f i j)) H
theorem JS:XZ X .Add (ipI λi j=>i+j):=by
 intro pins s σ H x y v u Q I r1 r2 h;obtain⟨i,j,e1,e2,q⟩:=h;subst e1;subst e2;obtain⟨t,rfl⟩:=r1;obtain⟨t',rfl⟩:=r2;exact iadd_int ⟨.int _,H,I.tok _,⟨_,rfl⟩,q⟩
end
structure It where
 go:Nat->Hp->Prop
 UK:Nat->Hp->V->Hp->Prop
 stop:Nat->Hp->Prop
def f7(X:Cx)(pins:List (Addr×Obj))(H:Hp)(b:Addr):Prop:=
 H b=none/\b≠X.env.locals/\b∉X.fs/\(b∈X.ex\/X.cS.heap.objs.size<=b)/\(∀x c,X.env.cells.lookup x=some c->c≠b)/\∀p∈X.pn++pins,p.1≠b
theorem Inv.wG{X:Cx}{pins:List (Addr×Obj)}{σ:St}{H H':Hp}{s:Shared}{b:Addr}(I:Inv X pins σ H s)(hb:s.heap.objs.size<=b)(hn:H' b=none):f7 X pins H' b:=by
 refine⟨hn,Nat.ne_of_gt (Nat.lt_of_lt_of_le I.lt hb),I.Xh hb,.inr (Nat.le_trans I.sz hb),λx c e z=>?_,λp hp z=>?_⟩
 ·obtain⟨v,q⟩:=I.cell x c e
  exact absurd (Nat.lt_of_lt_of_le q.lt (by rw[z];exact hb)) (Nat.lt_irrefl _)
 ·exact absurd (Nat.lt_of_lt_of_le (Heap.lt_size (I.pin p hp).1) (by rw[z];exact hb)) (Nat.lt_irrefl _)
structure Turn(P:Program)(w:World)(K:PySem.W.Frag)(tg:Expr)(J:It)(fp:List Addr)(it:Addr)(tn:Nat->Heap->Prop):Prop where
 mem:it∈fp
 obj:∀i h,tn i h->∀b∈fp,∃o,h.get? b=some o/\∀v,o.data≠.cell v
 keep:∀i h h',tn i h->(∀b∈fp,∀o,h.get? b=some o->h'.get? b=some o)->tn i h'
 item:∀(X:Cx),X.prog=P->X.w=w->X.K=K->X.calm=true->∀(i:Nat) (pins:List (Addr×Obj)) (s:Shared) (σ:St) (H:Hp) (E:Value->Shared->Prop),Inv X pins σ H s->(∀b∈fp,f7 X pins H b)->tn i s.heap->J.go i H ->
  wpAny (model P w) X.A (pyNext (.ref it)) (λr s1=>∃u,r=some u /\
   wpAny (model P w) X.A (letOwnedTupleGo tg (.ref it) u) (λ_ s2=>∃x H',Inv X pins σ H' s2/\RelV x u/\J.UK i H x H'/\tn (i+1) s2.heap/\∀b∈fp,H' b=none) E s1) E s
 done:∀(X:Cx),X.prog=P->X.w=w->X.K=K->X.calm=true->∀(i:Nat) (pins:List (Addr×Obj)) (s:Shared) (σ:St) (H:Hp) (E:Value->Shared->Prop),Inv X pins σ H s->(∀b∈fp,f7 X pins H b)->tn i s.heap->J.stop i H ->
  wpAny (model P w) X.A (pyNext (.ref it)) (λr s1=>r=none/\Inv X pins σ H s1) E s
 self:∀(A:Around) (i:Nat) (s:Shared) (Q:Value->Shared->Prop) (E:Value->Shared->Prop),tn i s.heap->Q (.ref it) s->wpAny (model P w) A (pyIter (.ref it)) Q E s
abbrev TI:=St->Hp->(It->Hp->Prop)->Prop
def Vn(X:Cx)(pins:List (Addr×Obj))(σ:St)(tg:Expr)(R:It->Hp->Prop)(U4:Value)(s2:Shared):Prop:=
 ∃(it:Addr) (fp:List Addr) (tn:Nat->Heap->Prop) (J:It) (H':Hp),U4=.ref it/\Inv X pins σ H' s2/\Turn X.prog X.w X.K tg J fp it tn/\tn 0 s2.heap/\(∀b∈fp,f7 X pins H' b)/\R J H'
def PI(X:Cx)(tg iter:Expr)(wi:TI):Prop:=
 ∀(pins:List (Addr×Obj)) (s:Shared) (σ:St) (H:Hp) (R:It->Hp->Prop),Inv X pins σ H s->wi σ H R ->
  wpAny (model X.prog X.w) X.A (eval iter X.env) (λv s1=>wpAny (model X.prog X.w) X.A (pyIter v) (Vn X pins σ tg R) X.xe s1) X.xe s
theorem Af{M:Model}{A:Around}{E:Value->Shared->Prop}{s:Shared}{tg:Expr}{it:Addr}{u:Value}{o:Obj}{n:String}{vs:Array Value}{Q:Unit->Shared->Prop}(ho:s.heap.get? it=some o)(hc:o.cls=.type n)(hd:o.data=.fields vs)
    (hn:["enumerate","zip","dict_itemiterator","dict_reverseitemiterator","odict_iterator","itertools.zip_longest","itertools.pairwise"].contains n=false) (hQ:Q () s):wpAny M A (letOwnedTupleGo tg (.ref it) u) Q E s:=by
  unfold letOwnedTupleGo;cases tg<;>first
    | exact wpAny_pure hQ
    | (cases u<;>first
        | exact wpAny_pure hQ
        | (refine wpAny_bind (wpAny_load ho ?_)
           rw[hc,hd];show wpAny M A (if(["enumerate","zip","dict_itemiterator","dict_reverseitemiterator","odict_iterator","itertools.zip_longest","itertools.pairwise"].contains n&&vs[0]?==some (rawInt _))=true then _ else _) Q E s
           rw[if_neg (by intro h;rw[hn,Bool.false_and]at h;cases h)]
           exact wpAny_pure hQ))
def Vj(K:PySem.W.Frag)(a:Addr):It:=
 ⟨λi H=>∃xs x,e6 K H a xs/\xs[i]?=some x,λi H x H'=>H'=H/\∀xs,e6 K H a xs->xs[i]?=some x,λi H=>∃xs,e6 K H a xs/\xs.length<=i⟩
def Vk(K:PySem.W.Frag)(a:Addr):It:=
 ⟨λi H=>∃xs x,gS K H a xs/\xs[i]?=some x,λi H x H'=>H'=H/\∀xs,gS K H a xs->xs[i]?=some x,λi H=>∃xs,gS K H a xs/\xs.length<=i⟩
def O9(lo:Int)(n:Nat):It:=⟨λi _=>i<n,λi H x H'=>H'=H/\x=.int (lo+i),λi _=>n<=i⟩
theorem xH{P:Program}{w:World}{K:PySem.W.Frag}{tg:Expr}(a it:Addr):Turn P w K tg (Vj K a) [it] it (λi h=>h.IsListIter it a i) where
 mem:=by simp
 obj:=λi h st b hb=>by
  have e:b=it:=by simpa using hb
  subst e;obtain⟨o,e,c,d⟩:=st;exact⟨o,e,λv z=>by rw[d]at z;cases z⟩
 keep:=λi h h' st k=>st.at λo e=>k it (by simp) o e
 item:=by
  intro X hP hw hK hc i pins s σ H E I hf st hg;subst hP hw hK;obtain⟨xs,x,hq,hx⟩:=hg;obtain⟨its,rv,p,hz⟩:=I.list hq;obtain⟨u,hu,ru⟩:=rv.get hx;obtain⟨f0,f1,f2,f3,f4,f5⟩:=hf it (by simp)
  refine wpAny_pyNext_list_item st p.isList (x:=u) (by simpa using hu) λh' aB sb=>?_
  have I1:Inv X pins σ H {s with heap:=h'}:=I.turned (t':=s.toks) (λb o hb e=>(sb.2 b hb).trans e) f0 f1 f3 f4 f5
  obtain⟨o,e,c,d⟩:=id aB;exact⟨u,rfl,Af (s:={s with heap:=h'}) e c d ∅ ⟨x,H,I1,ru,⟨rfl,λys hy=>by rw[I.qY hy hq];exact hx⟩,aB,λb hb=>(hf b hb).1⟩⟩
 done:=by
  intro X hP hw hK hc i pins s σ H E I hf st hg;subst hP hw hK;obtain⟨xs,hq,hx⟩:=hg;obtain⟨its,rv,p,hz⟩:=I.list hq;obtain⟨f0,f1,f2,f3,f4,f5⟩:=hf it (by simp)
  have hl:=rv.length;exact wpAny_pyNext_list_end (I.ok.hd hc) st p.isList (by simp;omega) λh' eb=>⟨rfl,I.turned (t':=s.toks) (λb o hb e=>eb b o hb e) f0 f1 f3 f4 f5⟩
 self:=λ_ _ _ _ _ st h=>wpAny_pyIter_listiter st h
theorem uK{P:Program}{w:World}{K:PySem.W.Frag}{tg:Expr}(a it:Addr):Turn P w K tg (Vk K a) [it] it (λi h=>h.IsTupleIter it a i) where
 mem:=by simp
 obj:=λi h st b hb=>by
  have e:b=it:=by simpa using hb
  subst e;obtain⟨o,e,c,d⟩:=st;exact⟨o,e,λv z=>by rw[d]at z;cases z⟩
 keep:=λi h h' st k=>st.at λo e=>k it (by simp) o e
 item:=by
  intro X hP hw hK hc i pins s σ H E I hf st hg;subst hP hw hK;obtain⟨xs,x,hq,hx⟩:=hg;obtain⟨its,rv,p,hz⟩:=I.tuple hq;obtain⟨u,hu,ru⟩:=rv.get hx;obtain⟨f0,f1,f2,f3,f4,f5⟩:=hf it (by simp)
  refine wpAny_pyNext_tuple_item st (show s.heap.IsTuple a its.toArray from p) (x:=u) (by simpa using hu) λh' aB sb=>?_
  have I1:Inv X pins σ H {s with heap:=h'}:=I.turned (t':=s.toks) (λb o hb e=>(sb.2 b hb).trans e) f0 f1 f3 f4 f5
  obtain⟨o,e,c,d⟩:=id aB;exact⟨u,rfl,Af (s:={s with heap:=h'}) e c d ∅ ⟨x,H,I1,ru,⟨rfl,λys hy=>by rw[I.nP hy hq];exact hx⟩,aB,λb hb=>(hf b hb).1⟩⟩
 done:=by
  intro X hP hw hK hc i pins s σ H E I hf st hg;subst hP hw hK;obtain⟨xs,hq,hx⟩:=hg;obtain⟨its,rv,p,hz⟩:=I.tuple hq;obtain⟨f0,f1,f2,f3,f4,f5⟩:=hf it (by simp)
  have hl:=rv.length;exact wpAny_pyNext_tuple_end (I.ok.hd hc) st (show s.heap.IsTuple a its.toArray from p) (by simp;omega) λh' eb=>⟨rfl,I.turned (t':=s.toks) (λb o hb e=>eb b o hb e) f0 f1 f3 f4 f5⟩
 self:=λ_ _ _ _ _ st h=>wpAny_pyIter_tupleiter st h
theorem uJ{P:Program}{w:World}{K:PySem.W.Frag}{tg:Expr}(it:Addr)(lo:Int)(n:Nat):Turn P w K tg (O9 lo n) [it] it (λi h=>IsRangeIter h it (lo+(i:Nat)*1) ((n:Int)-(i:Nat)) 1) where
 mem:=by simp
 obj:=λi h st b hb=>by
  have e:b=it:=by simpa using hb
  subst e;exact⟨_,st,λv z=>by
   have z':Data.fields _=Data.cell v:=z;cases z'⟩
 keep:=λi h h' st k=>k it (by simp) _ st
 item:=by
  intro X hP hw hK hc i pins s σ H E I hf st hg;subst hP hw hK;obtain⟨f0,f1,f2,f3,f4,f5⟩:=hf it (by simp)
  have W:=Walks.range (prog:=X.prog) (w:=X.w) (I.ok.hd hc) it lo 1 n;refine W.item i s _ _ hg st λv h' tk hv aB kk=>?_;obtain⟨t,rfl⟩:=hv;have I1:Inv X pins σ H {s with heap:=h',toks:=tk}:=I.turned (λb o hb e=>kk b o (by simpa using hb) e) f0 f1 f3 f4 f5
  refine⟨_,rfl,Af (s:={s with heap:=h',toks:=tk}) (n:="range_iterator") aB rfl rfl ∅ ⟨.int (lo+i),H,I1,⟨t,?_⟩,⟨rfl,rfl⟩,aB,λb hb=>(hf b hb).1⟩⟩
  rw[Int.mul_one]
 done:=by
  intro X hP hw hK hc i pins s σ H E I hf st hg;subst hP hw hK;obtain⟨f0,f1,f2,f3,f4,f5⟩:=hf it (by simp)
  exact wpAny_pyNext_range_end (I.ok.hd hc) st (by have:n<=i:=hg;omega) λh' eb=>⟨rfl,I.turned (t':=s.toks) (λb o hb e=>eb b o hb e) f0 f1 f3 f4 f5⟩
 self:=λ_ _ _ _ _ st h=>wpAny_pyIter_rangeiter st h
end L2
namespace L2
open PySem PySem.Spec PyProof.Rows
section
variable {X:Cx}{tg:Expr}
theorem rJ{pins:List (Addr×Obj)}{σ:St}{H:Hp}{s:Shared}{R:It->Hp->Prop}{E:Value->Shared->Prop}{lo hi:Int}{t u v:Tok}{tk:Nat}(I:Inv X pins σ H s)(h1:-(2^62)<=lo)(h2:lo<2^62)(h3:-(2^62)<=hi)(h4:hi<2^62)
  (q:R (O9 lo (hi-lo).toNat) H):wpAny (model X.prog X.w) X.A (pyIter (.ref s.heap.objs.size)) (Vn X pins σ tg R) E {s with heap:=s.heap.push {cls:=.type "range",data:=.fields #[.int lo t,.int hi u,.int 1 v]},toks:=tk}:=by
 refine wpAny_pyIter_range (IsRange.new ..) (small_one h1 h2 h3 h4) ?_;have I1:Inv X pins σ H {s with heap:=s.heap.push {cls:=.type "range",data:=.fields #[.int lo t,.int hi u,.int 1 v]},toks:=tk}:=I.kept λb o e=>Heap.get?_push_of_some _ e
 refine⟨(s.heap.push {cls:=.type "range",data:=.fields #[.int lo t,.int hi u,.int 1 v]}).objs.size,[(s.heap.push {cls:=.type "range",data:=.fields #[.int lo t,.int hi u,.int 1 v]}).objs.size],_,_,H,rfl,
  I1.kept (t':=tk) λb o e=>Heap.get?_push_of_some _ e,uJ _ lo (hi-lo).toNat,?_,λb hb=>?_,q⟩
 ·have e1:lo+((0:Nat):Int)*1=lo:=by simp
  have e2:(((hi-lo).toNat:Nat):Int)-((0:Nat):Int)=Builtin.Range.rangeSize lo hi 1:=by rw[rangeSize_one];split<;>omega
  show IsRangeIter _ _ (lo+((0:Nat):Int)*1) ((((hi-lo).toNat:Nat):Int)-((0:Nat):Int)) 1;rw[e1,e2];exact Heap.get?_push_size _ rfl
 ·have e:b=(s.heap.push {cls:=.type "range",data:=.fields #[.int lo t,.int hi u,.int 1 v]}).objs.size:=by simpa using hb
  subst e;exact I1.wG (Nat.le_refl _) (I1.bU.fresh (Nat.le_refl _))
def RM(ta:TA):TI:=λσ H R=>ta σ H λvs H1=>∃j:Int,vs=[.int j]/\-(2^62)<=j/\j<2^62/\R (O9 0 j.toNat) H1
def RN(ta:TA):TI:=λσ H R=>ta σ H λvs H1=>∃i j:Int,vs=[.int i,.int j]/\(-(2^62)<=i/\i<2^62/\-(2^62)<=j/\j<2^62)/\R (O9 i (j-i).toNat) H1
theorem xn{a:Expr}{ta:TA}{p pos:Pos}(hg:Gl X "range")(hm:X.mg "range"=none)(ha:PA X [a] ta)(hs:starEach [a] X.env=[(false,eval a X.env)]:=by rfl):PI X tg (.Call (.Name "range" p) [a] [] pos) (RM ta):=by
 intro pins s σ H R I h;refine Call_ (eP I hg hm boot_range (PyProof.Rows.callWith_type1 (b8 (ha pos pins s σ H _ I h) λus s1 ⟨vs,H1,I1,r1,q1⟩=>?_) hs rfl));obtain⟨j,e,q1,q2,q⟩:=q1;subst e;cases r1 with
 | cons r rr =>
  cases rr;obtain⟨t,rfl⟩:=r;exact call_range_1 (rJ I1 ⋯ ⋯ q1 q2 (by simpa using q))
theorem xo{a b:Expr}{ta:TA}{p pos:Pos}(hg:Gl X "range")(hm:X.mg "range"=none)(ha:PA X [a,b] ta)(hs:starEach [a,b] X.env=[(false,eval a X.env),(false,eval b X.env)]:=by rfl)(oI:starEach [b] X.env=[(false,eval b X.env)]:=by rfl):
  PI X tg (.Call (.Name "range" p) [a,b] [] pos) (RN ta):=by
 intro pins s σ H R I h;refine Call_ (eP I hg hm boot_range (PyProof.Rows.callWith_type1 (b8 (ha pos pins s σ H _ I h) λus s1 ⟨vs,H1,I1,r1,q1⟩=>?_) (by rw[hs,oI]) (by rw[oI];rfl)))
 obtain⟨i,j,e,⟨q1,q2,q3,q4⟩,q⟩:=q1;subst e;cases r1 with
 | cons r rr =>
  cases rr with
  | cons r' rr =>
   cases rr;obtain⟨t,rfl⟩:=r;obtain⟨t',rfl⟩:=r';exact call_range_2 (rJ I1 q1 q2 q3 q4 q)
def XC(wi:TI)(g:TG)(tb:TS):TS:=λD σ H=>wi σ H λJ H1=>∃W:Nat->Nat->St->Hp->Prop,(∃m,W 0 m σ H1)/\∀i m σ H,W i m σ H ->
 (J.stop i H/\D.nx σ H)\/(J.go i H/\∃N:St->Hp->Prop,(∀cA H',N cA H'->∃m',m'<m/\W (i+1) m' cA H')/\∀x H',J.UK i H x H'->g x σ H' λbq H2=>tb {D with nx:=N,ct:=N,bk:=D.nx} bq H2)
def ju(fp:List Addr)(h:Heap):List (Addr×Obj):=fp.filterMap λb=>(h.get? b).map λo=>(b,o)
theorem dS{fp:List Addr}{h:Heap}{b:Addr}{o:Obj}(hb:b∈fp)(e:h.get? b=some o):(b,o)∈ju fp h:=List.mem_filterMap.mpr ⟨b,hb,by rw[e];rfl⟩
theorem xi{fp:List Addr}{h:Heap}{p:Addr×Obj}(hp:p∈ju fp h):p.1∈fp/\h.get? p.1=some p.2:=by
 obtain⟨b,hb,e⟩:=List.mem_filterMap.mp hp;cases q:h.get? b with
 | none=>rw[q]at e;cases e
 | some o =>
  rw[q]at e;have e':(b,o)=p:=Option.some.inj e;subst e';exact⟨hb,q⟩
theorem Inv.pinned{pins:List (Addr×Obj)}{σ:St}{H:Hp}{s:Shared}{fp:List Addr}(I:Inv X pins σ H s)(hf:∀b∈fp,f7 X pins H b)(ho:∀b∈fp,∃o,s.heap.get? b=some o/\∀v,o.data≠.cell v):Inv X (pins++ju fp s.heap) σ H s:=
 I.vE λp hp=>(List.mem_append.mp hp).elim (λz=>I.pin p (List.mem_append_right _ z)) λz=>by
  obtain⟨hb,e⟩:=xi z;obtain⟨f0,f1,f2,_⟩:=hf p.1 hb;obtain⟨o,e',d⟩:=ho p.1 hb;rw[e]at e';cases e';exact⟨e,f0,f1,f2,d⟩
theorem Inv.fG{pins pl:List (Addr×Obj)}{σ:St}{H:Hp}{s:Shared}(I:Inv X (pins++pl) σ H s):Inv X pins σ H s:=I.vE λp hp=>I.pin p (List.mem_append_right _ (List.mem_append_left _ hp))
theorem MA{iter:Expr}{body:List Stmt}{wi:TI}{g:TG}{tb:TS}{pos:Pos}(hp:PassesOwn (model X.prog X.w) X.A X.env X.xe)(hc:X.calm=true)(hi:PI X tg iter wi)(hg:PG X tg g)(hb:p9 X body tb)
  (hs:∀x,foldedSetIterable iter X.env x=pure x:=by intro _;rfl):PS X (.For tg iter body [] pos) (XC wi g tb):=by
 intro pins s σ H D I h;refine wpAny_For (b8 (hi pins s σ H _ I h) λv s1 h1=>b8 h1 λU4 s2 h2=>?_) hs;obtain⟨it,fp,tn,J,H2,e,I2,T,xC,f2,W,⟨m0,w0⟩,turn⟩:=h2;subst e
 -- what stays true of the iterator's objects through the loop
 have stat:∀ {H':Hp},(∀b∈fp,H' b=none)->∀b∈fp,f7 X pins H' b:=λhn b hb=>⟨hn b hb,(f2 b hb).2⟩;refine codeAny_forLoop_any (λn s'=>∃i cA H',Inv X pins cA H' s'/\tn i s'.heap/\(∀b∈fp,H' b=none)/\W i n cA H') ?_ m0 ⟨0,σ,H2,I2,xC,λb hb=>(f2 b hb).1,w0⟩;rintro n s3 ⟨i,d7,H3,I3,Y9,Jm,w3⟩;rcases turn i n d7 H3 w3 with⟨stop,qn⟩|⟨go,N,hN,step⟩
 ·refine wpAny_passesOwn hp (b8 (T.done X rfl rfl rfl hc i pins s3 d7 H3 X.xe I3 (stat Jm) Y9 stop) λr s4 ⟨hr,I4⟩=>?_)
  subst hr;exact wpAny_execs_nil ⟨d7,H3,I4,qn⟩
 ·refine wpAny_passesOwn hp (b8 (T.item X rfl rfl rfl hc i pins s3 d7 H3 X.xe I3 (stat Jm) Y9 go) λr s4 ⟨u,hr,h4⟩=>?_)
  subst hr;refine wpAny_passesOwn hp (b8 h4 λ_ s5 ⟨x,H5,I5,r5,y5,OO,CW⟩=>?_);have Zh:=I5.pinned (stat CW) (T.obj _ _ OO);refine wpAny_passesOwn hp (b8 (hg _ s5 d7 H5 x u _ Zh r5 (step x H5 y5)) λ_ s6 ⟨σ6,H6,I6,q6⟩=>?_);refine wpAny_passesOwn hp (b8 (hb _ s6 σ6 H6 _ I6 q6) λf s7 q7=>?_);have again:∀ {CO:St} {H7:Hp},Inv X (pins++ju fp s5.heap) CO H7 s7->N CO H7->∃m,m<n/\∃i cA H',Inv X pins cA H' s7/\tn i s7.heap/\(∀b∈fp,H' b=none)/\W i m cA H':=λ{CO H7} I7 n7=>by
   obtain⟨m',hm,w7⟩:=hN CO H7 n7;refine⟨m',hm,i+1,CO,H7,I7.fG,T.keep _ _ _ OO λb hb o e=>(I7.pin (b,o) (List.mem_append_right _ (List.mem_append_right _ (dS hb e)))).1,λb hb=>?_,w7⟩;obtain⟨o,e,d⟩:=T.obj _ _ OO b hb;exact(I7.pin (b,o) (List.mem_append_right _ (List.mem_append_right _ (dS hb e)))).2.1
  cases f with
  | next=>obtain⟨CO,H7,I7,n7⟩:=q7;exact again I7 n7
  | cont=>obtain⟨CO,H7,I7,n7⟩:=q7;exact again I7 n7
  | brk=>obtain⟨CO,H7,I7,q7⟩:=q7;exact⟨CO,H7,I7.fG,q7⟩
  | ret v=>obtain⟨x7,CO,H7,I7,r7,q7⟩:=q7;exact⟨x7,CO,H7,I7.fG,r7,q7⟩
end
end L2
namespace L2
open PySem PySem.Spec PyProof.Rows
abbrev R2:=V->V->Hp->VK->Prop
def f9(X:Cx)(f:Value->Value->Sem Value)(r:R2):Prop:=
 ∀(pins:List (Addr×Obj)) (s:Shared) (σ:St) (H:Hp) (x y:V) (v u:Value) (Q:VK),Inv X pins σ H s->RelV x v->RelV y u->r x y H Q ->
  wpAny (model X.prog X.w) X.A (f v u) (EP X pins σ Q) X.xe s
def Vu(X:Cx)(f:Value->Sem Value)(r:V->Hp->VK->Prop):Prop:=
 ∀(pins:List (Addr×Obj)) (s:Shared) (σ:St) (H:Hp) (x:V) (v:Value) (Q:VK),Inv X pins σ H s->RelV x v->r x H Q ->
  wpAny (model X.prog X.w) X.A (f v) (EP X pins σ Q) X.xe s
def cT(X:Cx)(f:Value)(r:List V->Hp->VK->Prop):Prop:=
 ∀(pins:List (Addr×Obj)) (s:Shared) (σ:St) (H:Hp) (xs:List V) (us:List Value) (Q:VK),Inv X pins σ H s->Vals xs us->r xs H Q ->
  wpAny (model X.prog X.w) X.A (call f us) (EP X pins σ Q) X.xe s
def Vt(X:Cx)(r:V->Hp->(Bool->Hp->Prop)->Prop):Prop:=
 ∀(pins:List (Addr×Obj)) (s:Shared) (σ:St) (H:Hp) (x:V) (v:Value) (Q:Bool->Hp->Prop),Inv X pins σ H s->RelV x v->r x H Q ->
  wpAny (model X.prog X.w) X.A (truthy v) (TP X pins σ Q) X.xe s
def OQ(r:R2)(ta tb:TE):TE:=λσ H Q=>ta σ H λx H1=>tb σ H1 λy H2=>r x y H2 Q
def tUn(r:V->Hp->VK->Prop)(ta:TE):TE:=λσ H Q=>ta σ H λx H1=>r x H1 Q
def rI(C:Int->Int->Prop)(g:Int->Int->V):R2:=λx y H Q=>∃i j,x=.int i/\y=.int j/\C i j/\Q (g i j) H
def C5(g:Int->Int->V):R2:=λx y H Q=>∃i j,x=.int i/\y=.int j/\Q (g i j) H
def rU(g:Int->V):V->Hp->VK->Prop:=λx H Q=>∃i,x=.int i/\Q (g i) H
section
variable {X:Cx}{a b c:Expr}{ta tb tc:TE}{pos:Pos}
theorem Ht(ha:PE X a ta)(hb:PE X b tb){pins:List (Addr×Obj)}{s:Shared}{σ:St}{H:Hp}{R:V->V->Hp->Prop}(I:Inv X pins σ H s)
  (h:ta σ H λx H1=>tb σ H1 λy H2=>R x y H2) {Q:Value->Shared->Prop} {f:Value->Value->Sem Value}
  (hf:∀v u s2 x y H2,Inv X pins σ H2 s2->RelV x v->RelV y u->R x y H2->wpAny (model X.prog X.w) X.A (f v u) Q X.xe s2):
  wpAny (model X.prog X.w) X.A (eval a X.env) (λv bA=>wpAny (model X.prog X.w) X.A (eval b X.env) (λu sd=>wpAny (model X.prog X.w) X.A (f v u) Q X.xe sd) X.xe bA) X.xe s:=by
 refine b8 (ha pins s σ H _ I h) λv s1 ⟨x,H1,I1,r1,q1⟩=>?_;refine b8 (hb pins s1 σ H1 _ I1 q1) λu s2 ⟨y,H2,I2,r2,q2⟩=>?_;exact hf v u s2 x y H2 I2 r1 r2 q2
theorem Tn{op:Operator}{r:R2}(ho:f9 X (binaryOp op) r)(ha:PE X a ta)(hb:PE X b tb):PE X (.BinOp a op b pos) (OQ r ta tb):=by
 intro pins s σ H Q I h;exact wpAny_BinOp (Ht ha hb I h λv u s2 x y H2 I2 rx ry q=>ho pins s2 σ H2 x y v u Q I2 rx ry q)
theorem Tq{op:UnaryOp}{r:V->Hp->VK->Prop}(ho:Vu X (unaryOp op) r)(ha:PE X a ta):PE X (.UnaryOp op a pos) (tUn r ta):=by
 intro pins s σ H Q I h;exact UnaryOp_ (b8 (ha pins s σ H _ I h) λv s1 ⟨x,H1,I1,r1,q1⟩=>ho pins s1 σ H1 x v Q I1 r1 q1)
theorem U7{f:Value->Value->Sem Value}{C:Int->Int->Prop}{g:Int->Int->Int}
  (rule:∀(i j:Int) (t u:Tok) (s:Shared) (Q:Value->Shared->Prop) (E:Value->Shared->Prop),C i j->Q (.int (g i j) s.toks) {s with toks:=s.toks+1}->wpAny (model X.prog X.w) X.A (f (.int i t) (.int j u)) Q E s):
  f9 X f (rI C λi j=>.int (g i j)):=by
 intro pins s σ H x y v u Q I rx ry h;obtain⟨i,j,rfl,rfl,hc,q⟩:=h;obtain⟨t,rfl⟩:=rx;obtain⟨t',rfl⟩:=ry;exact rule i j t t' s _ _ hc ⟨.int (g i j),H,I.tok _,⟨_,rfl⟩,q⟩
theorem S2{f:Value->Value->Sem Value}{g:Int->Int->Int}
  (rule:∀(i j:Int) (t u:Tok) (s:Shared) (Q:Value->Shared->Prop) (E:Value->Shared->Prop),Q (.int (g i j) s.toks) {s with toks:=s.toks+1}->wpAny (model X.prog X.w) X.A (f (.int i t) (.int j u)) Q E s):
  f9 X f (C5 λi j=>.int (g i j)):=by
 intro pins s σ H x y v u Q I rx ry h;obtain⟨i,j,rfl,rfl,q⟩:=h;obtain⟨t,rfl⟩:=rx;obtain⟨t',rfl⟩:=ry;exact rule i j t t' s _ _ ⟨.int (g i j),H,I.tok _,⟨_,rfl⟩,q⟩
theorem D8{f:Value->Value->Sem Value}{g:Int->Int->Bool}
  (rule:∀(i j:Int) (t u:Tok) (s:Shared) (Q:Value->Shared->Prop) (E:Value->Shared->Prop),Q (.bool (g i j)) s->wpAny (model X.prog X.w) X.A (f (.int i t) (.int j u)) Q E s):
  f9 X f (C5 λi j=>.bl (g i j)):=by
 intro pins s σ H x y v u Q I rx ry h;obtain⟨i,j,rfl,rfl,q⟩:=h;obtain⟨t,rfl⟩:=rx;obtain⟨t',rfl⟩:=ry;exact rule i j t t' s _ _ ⟨.bl (g i j),H,I,rfl,q⟩
def Vg(i j:Int):Prop:=0<j/\j<1073741824
def mG(i j:Int):Prop:=0<=j/\j<=1000000/\i.natAbs<2^64
def gW(i j:Int):Prop:=(-(2^64)<i/\i<2^64)\/(-(2^64)<j/\j<2^64)
theorem gW.ok{i j:Int}(h:gW i j):IntMulOk i j:=by
 rcases h with⟨h1,h2⟩|⟨h1,h2⟩
 ·exact .of_left (intBits_le_64 h1 h2)
 ·exact .of_right (intBits_le_64 h1 h2)
theorem Lq:f9 X (binaryOp .Add) (C5 λi j=>.int (i+j)):=S2 λ_ _ _ _ _ _ _ q=>add_int q
theorem Lz:f9 X (binaryOp .Sub) (C5 λi j=>.int (i-j)):=S2 λ_ _ _ _ _ _ _ q=>sub_int q
theorem Lw:f9 X (binaryOp .Mult) (rI gW λi j=>.int (i*j)):=U7 λ_ _ _ _ _ _ _ hc q=>mul_int q hc.ok
theorem Lv:f9 X (binaryOp .Mod) (rI (λ_ j=>0<j) λi j=>.int (i%j)):=U7 λi j _ _ _ _ _ hc q=>by
 have h1:(0:Int)<j:=hc;exact mod_int' ⋯ (by rw[Int.fmod_eq_emod_of_nonneg i ⋯];exact q)
theorem Ly:f9 X (binaryOp .Pow) (rI mG λi j=>.int (i^j.toNat)):=U7 λ_ _ _ _ _ _ _ hc q=>pow_int_small hc.1 hc.2.1 hc.2.2 q
theorem unI{f:Value->Sem Value}{g:Int->Int}
  (rule:∀(i:Int) (t:Tok) (s:Shared) (Q:Value->Shared->Prop) (E:Value->Shared->Prop),Q (.int (g i) s.toks) {s with toks:=s.toks+1}->wpAny (model X.prog X.w) X.A (f (.int i t)) Q E s):
  Vu X f (rU λi=>.int (g i)):=by
 intro pins s σ H x v Q I rx h;obtain⟨i,rfl,q⟩:=h;obtain⟨t,rfl⟩:=rx;exact rule i t s _ _ ⟨.int (g i),H,I.tok _,⟨_,rfl⟩,q⟩
theorem Ob:Vu X (unaryOp .USub) (rU λi=>.int (-i)):=unI λ_ _ _ _ _ q=>neg_int q
end
section
variable {X:Cx}{a b c:Expr}{ta tb tc:TE}{pos:Pos}
theorem Jl{pins:List (Addr×Obj)}{σ:St}{H:Hp}{s:Shared}{Q:VK}{k k':Bool}(I:Inv X pins σ H s)(q:Q (.bl k) H)(e:k=k'):EP X pins σ Q (.bool k') s:=by
 subst e;exact⟨.bl k,H,I,rfl,q⟩
theorem S6:f9 X (compareOp .Lt) (C5 λi j=>.bl (decide (i<j))):=D8 λ_ _ _ _ _ _ _ q=>lt_int q
theorem S5:f9 X (compareOp .LtE) (C5 λi j=>.bl (decide (i<=j))):=D8 λ_ _ _ _ _ _ _ q=>le_int q
theorem S4:f9 X (compareOp .Gt) (C5 λi j=>.bl (decide (j<i))):=D8 λ_ _ _ _ _ _ _ q=>gt_int q
theorem S3:f9 X (compareOp .GtE) (C5 λi j=>.bl (decide (j<=i))):=D8 λ_ _ _ _ _ _ _ q=>ge_int q
theorem Ec:f9 X (compareOp .IsNot) (λx y H Q=>y=.bC/\Q (.bl (!decide (x=.bC))) H):=by
 intro pins s σ H x y v u Q I rx ry h;obtain⟨rfl,q⟩:=h;cases ry;refine isnot_none_gen (Jl I q ?_);cases x<;>first
  | (cases rx;rfl)
  | (obtain⟨t,rfl⟩:=rx;rfl)
theorem f9.or{f:Value->Value->Sem Value}{r r':R2}(h:f9 X f r)(h':f9 X f r'):f9 X f (λx y H Q=>r x y H Q\/r' x y H Q):=by
 intro pins s σ H x y v u Q I rx ry q;rcases q with q|q
 ·exact h pins s σ H x y v u Q I rx ry q
 ·exact h' pins s σ H x y v u Q I rx ry q
theorem A6(b:Expr){op:CmpOp}(h:op≠.In:=by decide)(h2:op≠.NotIn:=by decide):behindInMarks op b=false:=by
 have e1:(op==CmpOp.In)=false:=by cases op<;>first|rfl|exact absurd rfl h
 have e2:(op==CmpOp.NotIn)=false:=by cases op<;>first|rfl|exact absurd rfl h2
 cases b<;>simp [behindInMarks,e1,e2]
theorem Eh{op:CmpOp}{r:R2}(ho:f9 X (compareOp op) r)(ha:PE X a ta)(hb:PE X b tb)(hm:behindInMarks op b=false):PE X (.Compare a [op] [b] pos) (OQ r ta tb):=by
 intro pins s σ H Q I h;exact wpAny_Compare1 (Ht ha hb I h λv u s2 x y H2 I2 rx ry q=>ho pins s2 σ H2 x y v u Q I2 rx ry q) hm
def UD(t:TE):TT:=λσ H Q=>t σ H λx H'=>∃k,x=.bl k/\Q k H'
theorem Eu{op:CmpOp}{r:R2}(ho:f9 X (compareOp op) r)(ha:PE X a ta)(hb:PE X b tb)(hm:behindInMarks op b=false):PT X (.Compare a [op] [b] pos) (UD (OQ r ta tb)):=by
 intro pins s σ H Q I h;refine wpAny_isTrue_Compare1 (b8 (ha pins s σ H _ I h) λv s1 ⟨x,H1,I1,r1,q1⟩=>b8 (hb pins s1 σ H1 _ I1 q1) λu s2 ⟨y,H2,I2,r2,q2⟩ =>
  b8 (ho pins s2 σ H2 x y v u _ I2 r1 r2 q2) λc s3 ⟨z,H3,I3,r3,k,e,q3⟩=>?_) hm
 subst e;cases r3;exact wpAny_truthy_bool ⟨H3,I3,q3⟩
def Ph(K:PySem.W.Frag)(x:V)(H:Hp)(k:Bool):Prop:=
 match x with
 | .bC=>k=false
 | .bl b=>k=b
 | .int i=>k=(i != 0)
 | .str y=>y.length<=sizeLine/\k=((y.length:Int) != 0)
 | .PB y=>y.size<=sizeLine/\k=((y.size:Int) != 0)
 | .ref p=>(∃xs,e6 K H p xs/\k=!xs.isEmpty)\/(∃xs,gS K H p xs/\k=!xs.isEmpty)\/∃kvs,H p=some (.dK kvs)/\k=!kvs.isEmpty
 | _=>False
theorem tU{κ:Type}{kvs:List (κ×V)}{vs:List (κ×Value)}(r:KV kvs vs):(!vs.isEmpty)=!kvs.isEmpty:=by
 cases r<;>rfl
theorem k8{xs:List V}{its:List Value}(r:Vals xs its):(!its.toArray.isEmpty)=!xs.isEmpty:=by
 cases r<;>simp
theorem gO:(sizeLine:Nat)<2^63:=by rw[sizeLine_eq];decide
theorem N8:Vt X (λx H Q=>∃k,Ph X.K x H k/\Q k H):=by
 intro pins s σ H x v Q I rx h;obtain⟨k,e,q⟩:=h;have hl:=gO;have hs:sizeLine=16777216:=sizeLine_eq;cases x with
 | bC =>
  cases rx;have e':k=false:=e;subst e';exact truthy_none ⟨H,I,q⟩
 | bl b =>
  cases rx;have e':k=b:=e;subst e';exact wpAny_truthy_bool ⟨H,I,q⟩
 | int i =>
  obtain⟨t,rfl⟩:=rx;have e':k=(i != 0):=e;subst e';exact PySem.P.truthy_int ⟨H,I,q⟩
 | str y =>
  obtain⟨t,rfl⟩:=rx;obtain⟨hy,e'⟩:y.length<=sizeLine/\k=((y.length:Int) != 0):=e;subst e';exact PySem.P.truthy_str ⋯ ⟨H,I.tok _,q⟩
 | PB y =>
  obtain⟨t,rfl⟩:=rx;obtain⟨hy,e'⟩:y.size<=sizeLine/\k=((y.size:Int) != 0):=e;subst e';exact PySem.W.truthy_bytes ⋯ ⟨H,I.tok _,q⟩
 | ref p =>
  cases rx;have e':(∃xs,e6 X.K H p xs/\k=!xs.isEmpty)\/(∃xs,gS X.K H p xs/\k=!xs.isEmpty)\/∃kvs,H p=some (.dK kvs)/\k=!kvs.isEmpty:=e;rcases e' with⟨xs,hx,e'⟩|⟨xs,hx,e'⟩|⟨kvs,hx,e'⟩
  ·subst e'
   obtain⟨its,r,pl,hz⟩:=I.list hx;have hlen:=r.length;exact wpAny_truthy_list pl.isList (by simp only[List.size_toArray];omega) ⟨H,I.tok _,by rw[k8 r];exact q⟩
  ·subst e'
   obtain⟨its,r,pl,hz⟩:=I.tuple hx;have hlen:=r.length;exact truthy_tuple pl (by simp only[List.size_toArray];omega) ⟨H,I.tok _,by rw[k8 r];exact q⟩
  ·subst e'
   obtain⟨hz,hS,vs,r,m⟩:kvs.length<=sizeLine/\(p==sysModules)=false/\∃vs,KV kvs vs/\s.heap.DictOf (cn X.prog X.w) p vs:=I.bU p _ hx;have hlen:kvs.length=vs.length:=Paired.length r;exact wpAny_truthy_dict hS m ⋯ ⟨H,I.tok _,by rw[tU r];exact q⟩
 | _=>exact(show False from e).elim
theorem Bw(ha:PE X a ta)(he:∀whole,isTrue a X.env whole=(do let v <- whole;standAt a.pos;holding [v] (truthy v))):
  PT X a (λσ H Q=>ta σ H λx H'=>∃k,Ph X.K x H' k/\Q k H'):=by
 intro pins s σ H Q I h;exact isTrue_plain (b8 (ha pins s σ H _ I h) λv s1 ⟨x,H1,I1,r1,q1⟩=>N8 pins s1 σ H1 x v Q I1 r1 q1) (he _)
theorem ub:f9 X (binaryOp .Add) (λx y H Q=>∃i j,x=.str i/\y=.str j/\i.length+j.length<=sizeLine/\Q (.str (i++j)) H):=by
 intro pins s σ H x y v u Q I rx ry h;obtain⟨i,j,rfl,rfl,hz,q⟩:=h;obtain⟨t,rfl⟩:=rx;obtain⟨t',rfl⟩:=ry;exact add_str (λt' tk=>⟨.str (i++j),H,I.tok _,⟨_,rfl⟩,q⟩) hz
theorem vals1{x:V}{us:List Value}(r:Vals [x] us):∃u,us=[u]/\RelV x u:=by
 cases r with
 | cons r1 r2=>cases r2;exact⟨_,rfl,r1⟩
theorem vals2{x y:V}{us:List Value}(r:Vals [x,y] us):∃u w',us=[u,w']/\RelV x u/\RelV y w':=by
 cases r with
 | cons r1 r2 =>
  cases r2 with
  | cons r3 r4=>cases r4;exact⟨_,_,rfl,r1,r3⟩
theorem yB:cT X (.builtin "abs") (λxs H Q=>∃i,xs=[.int i]/\Q (.int (if i<0 then -i else i)) H):=by
 intro pins s σ H xs us Q I r h;obtain⟨i,rfl,q⟩:=h;obtain⟨u,rfl,t,rfl⟩:=vals1 r;exact call_abs_int λu tk=>⟨.int (if i<0 then -i else i),H,I.tok _,⟨_,rfl⟩,q⟩
theorem wx(hc:X.calm=true):cT X (.builtin "max") (λxs H Q=>∃i j,xs=[.int i,.int j]/\Q (.int (if j>i then j else i)) H):=by
 intro pins s σ H xs us Q I r h;obtain⟨i,j,rfl,q⟩:=h;obtain⟨u,w',rfl,⟨t,rfl⟩,⟨t',rfl⟩⟩:=vals2 r;refine max_two_ints (I.ok.hd hc) λh' tk k=>⟨_,H,I.kept k,?_,q⟩
 by_cases hj:j>i
 ·rw[if_pos hj,if_pos hj];exact⟨_,rfl⟩
 ·rw[if_neg hj,if_neg hj];exact⟨_,rfl⟩
theorem wy(hc:X.calm=true):cT X (.builtin "min") (λxs H Q=>∃i j,xs=[.int i,.int j]/\Q (.int (if j<i then j else i)) H):=by
 intro pins s σ H xs us Q I r h;obtain⟨i,j,rfl,q⟩:=h;obtain⟨u,w',rfl,⟨t,rfl⟩,⟨t',rfl⟩⟩:=vals2 r;refine min_two_ints (I.ok.hd hc) λh' tk k=>⟨_,H,I.kept k,?_,q⟩
 by_cases hj:j<i
 ·rw[if_pos hj,if_pos hj];exact⟨_,rfl⟩
 ·rw[if_neg hj,if_neg hj];exact⟨_,rfl⟩
theorem wu:cT X (.type "int") (λxs H Q=>(∃i,xs=[.int i]/\Q (.int i) H)\/∃k,xs=[.bl k]/\Q (.int (if k then 1 else 0)) H):=by
 intro pins s σ H xs us Q I r h;rcases h with⟨i,rfl,q⟩|⟨k,rfl,q⟩
 ·obtain⟨u,rfl,t,rfl⟩:=vals1 r
  exact call_int_int ⟨.int i,H,I,⟨_,rfl⟩,q⟩
 ·obtain⟨u,rfl,r1⟩:=vals1 r
  cases r1;exact call_int_bool ⟨.int (if k then 1 else 0),H,I.tok _,⟨_,rfl⟩,q⟩
end
end L2
namespace L2
open PySem PySem.Spec PyProof.Rows
section
variable {X:Cx}{o e value:Expr}{f:Str}{pos pos' gm:Pos}{ta tv:TE}
def Ey:V->V->Hp->VK->Prop:=λx y H Q=>∃i j,x=.int i/\y=.int j/\Q (.int (i+j)) H
end
end L2
namespace L2
open PySem PySem.Spec PyProof.Rows
structure gd(k:Nat)(A:Around):Prop where
 hd:A.handled=none
 dp:A.depth+3*k+5<recursionLimit
 un:A.units+16*k+200<cLine
theorem gd.mono{j k:Nat}{A:Around}(r:gd k A)(h:j<=k):gd j A:=⟨r.hd,by have:=r.dp;omega,by have:=r.un;omega⟩
theorem gd.deeper{k:Nat}{A:Around}(r:gd (k+1) A)(env:Env):gd k (A.deeper env):=
 ⟨r.hd,by have:=r.dp;show A.depth+1+3*k+5<_;omega,by have:=r.un;show A.units+3+16*k+200<_;omega⟩
theorem gd.depth{k:Nat}{A:Around}(r:gd k A):A.depth<recursionLimit:=by have:=r.dp;omega
def BV:TA:=λ_ H Q=>Q [] H
def se(ta:TE)(tr:TA):TA:=λσ H Q=>ta σ H λx H1=>tr σ H1 λxs H2=>Q (x::xs) H2
section
variable {X:Cx}{e:Expr}{es:List Expr}{te:TE}{t:TA}{pos:Pos}
theorem lF:PA X [] BV:=λ_ _ _ _ H Q I h=>Calls.spliced_nil ⟨[],H,I,.nil,h⟩
theorem fR(ha:PE X e te)(hr:PA X es t)(hs:starEach (e::es) X.env=(false,eval e X.env)::starEach es X.env:=by rfl):PA X (e::es) (se te t):=by
 intro pos pins s σ H Q I h;rw[hs];show wpAny _ _ (spliced ((false,eval e X.env)::backTo pos (starEach es X.env))) _ _ s;refine Calls.spliced_cons (b8 (ha pins s σ H _ I h) λu s1 ⟨x,H1,I1,r1,q1⟩=>?_);exact b8 (hr pos pins s1 σ H1 _ I1 q1) λus s2 ⟨xs,H2,I2,r2,q2⟩=>⟨x::xs,H2,I2,.cons r1 r2,q2⟩
def XO(t:TA):TE:=λσ H Q=>t σ H λxs H1=>xs.length<=sizeLine/\∀p,H1 p=none->Q (.ref p) (upd H1 p (.tup xs))
def XF(t:TA):TE:=λσ H Q=>t σ H λxs H1=>xs.length<=sizeLine/\∀p,H1 p=none->Q (.ref p) (upd H1 p (.lst xs))
theorem L6{x1}(h:PA X es t):PE X (.Tuple es x1 pos) (XO t):=by
 intro pins s σ H Q I hq;refine wpAny_Tuple_spliced (b8 (h pos pins s σ H _ I hq) λus s1 ⟨xs,H1,I1,r,z,q⟩=>⟨by rw[<- r.length];exact z,?_⟩)
 have hf:H1 s1.heap.objs.size=none:=I1.bU.fresh (Nat.le_refl _);refine⟨.ref s1.heap.objs.size,upd H1 s1.heap.objs.size (.tup xs),I1.laid (t':=s1.toks) (λb u e=>Heap.get?_push_of_some _ e) (Nat.le_refl _) ?_,rfl,q _ hf⟩;exact⟨z,us,r,⟨_,Heap.get?_push_size _ rfl,rfl,_,rfl⟩⟩
theorem LZ(h:PA X es t):PE X (.List es pos) (XF t):=by
 intro pins s σ H Q I hq;refine wpAny_List_spliced (b8 (h pos pins s σ H _ I hq) λus s1 ⟨xs,H1,I1,r,z,q⟩=>⟨by rw[<- r.length];exact z,?_⟩)
 have hf:H1 s1.heap.objs.size=none:=I1.bU.fresh (Nat.le_refl _);refine⟨.ref s1.heap.objs.size,upd H1 s1.heap.objs.size (.lst xs),I1.laid (t':=s1.toks) (λb u e=>Heap.get?_push_of_some _ e) (Nat.le_refl _) ?_,rfl,q _ hf⟩;exact⟨z,us,0,r,Heap.get?_push_size _ rfl⟩
end
abbrev Sp:=List V->Hp->VK->XK->Prop
abbrev wj:=List Env->Hp->Shared->XK->Value->Shared->Prop
structure Dg(P:Program)(w:World)(K:PySem.W.Frag)(mg:Str->Option Value)(base:Heap)(A:Around)(outer:List Env)(s:Shared)(H:Hp):Prop where
 frames:A.frames=some outer
 mod:Mod K mg base
 bs:∀b o,base.get? b=some o->s.heap.get? b=some o/\H b=none
 CQ:base.objs.size<=s.heap.objs.size
 km:s.heap.FunFrames base outer
 Jn:∀b∈Ac outer,H b=none
 bU:gn P w H s.heap
 bare:AllBare s.gens
def CE(outer:List Env)(P:Program)(w:World)(H:Hp)(s:Shared)(Q:VK)(u:Value)(s':Shared):Prop:=
 ∃v H',s'.os=s.os/\AllBare s'.gens/\Un (Ac outer) [] H H' s.heap s'.heap/\gn P w H' s'.heap/\RelV v u/\Q v H'
def CR(CX:wj)(outer:List Env)(P:Program)(w:World)(H:Hp)(s:Shared)(Q:VK)(E:XK)(r:Result)(s':Shared):Prop:=
 match r with
 | .ok (.ret u)=>CE outer P w H s Q u s'
 | .ok _=>False
 | .error e=>CX outer H s E e s'
structure d9(P:Program)(w:World)(K:PySem.W.Frag)(mg:Str->Option Value)(base:Heap)(CX:wj)(k:Nat)(f:Addr)(fd:FuncData)(ps:List Str)(sp:Sp):Prop where
 len:∀vs H Q E,sp vs H Q E->vs.length=ps.length
 run:∀(A:Around) (outer:List Env) (s:Shared) (H:Hp) (args:Args) (us:List Value) (vs:List V) (Q:VK) (E:XK),gd k A->Dg P w K mg base A outer s H->BindsTo s fd args (ps.zip us)->Vals vs us->sp vs H Q E ->
  codeAny (model P w) A (.call (.ref f) args) (CR CX outer P w H s Q E) s
theorem d9.mono{P:Program}{w:World}{K:PySem.W.Frag}{mg:Str->Option Value}{base:Heap}{CX:wj}{j k:Nat}{f:Addr}{fd:FuncData}{ps:List Str}{sp:Sp}(F:d9 P w K mg base CX j f fd ps sp)(h:j<=k):
  d9 P w K mg base CX k f fd ps sp:=⟨F.len,λA outer s H args us vs Q E hr=>F.run A outer s H args us vs Q E (hr.mono h)⟩
theorem d9.imp{P:Program}{w:World}{K:PySem.W.Frag}{mg:Str->Option Value}{base:Heap}{CX:wj}{k:Nat}{f:Addr}{fd:FuncData}{ps:List Str}{sp Y8:Sp}(F:d9 P w K mg base CX k f fd ps sp)
  (h:∀vs H Q E,Y8 vs H Q E->sp vs H Q E):d9 P w K mg base CX k f fd ps Y8:=
 ⟨λvs H Q E q=>F.len vs H Q E (h _ _ _ _ q),λA outer s H args us vs Q E hr he hb hv hs=>F.run A outer s H args us vs Q E hr he hb hv (h _ _ _ _ hs)⟩
section
variable {X:Cx}{pins:List (Addr×Obj)}{σ:St}{H:Hp}{s s':Shared}
theorem Inv.VI(I:Inv X pins σ H s):Dg X.prog X.w X.K X.mg X.base X.A X.stack s H:=
 ⟨I.ok.frames,I.ok.mod,I.bs,Nat.le_trans I.ok.CQ I.sz,I.stack,I.v7,I.bU,I.bare⟩
theorem Inv.after{Q:VK}{u:Value}(I:Inv X pins σ H s)(h:CE X.stack X.prog X.w H s Q u s'):EP X pins σ Q u s':=by
 obtain⟨v,H',os,bare,un,bU,r,q⟩:=h;obtain⟨hh,g,d,t,Xk⟩:=s';obtain rfl:Xk=s.os:=os;exact⟨v,H',I.call (h':=hh) (g':=g) (d':=d) (t':=t) (ch:=[]) un bU bare (λb z=>absurd z (by simp)),r,q⟩
end
def Uz(sp:Sp)(dvs:List V)(E:XK)(t:TA):TE:=λσ H Q=>t σ H λvs H1=>sp (vs++dvs) H1 Q E
def Binds(K:PySem.W.Frag)(fd:FuncData)(ps:List Str)(ds:List Value):Prop:=
 ∀(s:Shared) (us:List Value),K.In s.heap->(us++ds).length=ps.length->BindsTo s fd ⟨us,[]⟩ (ps.zip (us++ds))
theorem Binds.all{K:PySem.W.Frag}{fd:FuncData}{ps:List Str}(h:∀us:List Value,us.length=ps.length->bindArgs fd ⟨us,[]⟩=pure (ps.zip us)):Binds K fd ps []:=λs us _ hl=>by
 rw[List.append_nil]at hl ⊢;exact .of_eq (h us hl)
def Passes(CX:wj)(X:Cx)(E:XK):Prop:=∀(pins:List (Addr×Obj)) (σ:St) (H:Hp) (s:Shared) (e:Value) (s':Shared),Inv X pins σ H s->CX X.stack H s E e s'->X.xe e s'
section
variable {X:Cx}{CX:wj}{k:Nat}{f C:Addr}{fd:FuncData}{ps:List Str}{sp:Sp}{dvs:List V}{ds:List Value}{E:XK}{x m:Str}{p pos apos:Pos}{e o:Expr}{es:List Expr}{ta:TE}{t:TA}
theorem MI{pins:List (Addr×Obj)}{σ:St}{H:Hp}{s:Shared}{Q:VK}{us:List Value}{vs:List V}(F:d9 X.prog X.w X.K X.mg X.base CX k f fd ps sp)(hr:gd k X.A)(hb:Binds X.K fd ps ds)(hd:Vals dvs ds)(hx:Passes CX X E)
  (I:Inv X pins σ H s) (r:Vals vs us) (h:sp (vs++dvs) H Q E):wpAny (model X.prog X.w) X.A (call (.ref f) us) (EP X pins σ Q) X.xe s:=by
 have r2:Vals (vs++dvs) (us++ds):=r.append hd;have hl:(us++ds).length=ps.length:=by rw[<- r2.length];exact F.len _ _ _ _ h
 refine wpAny_call (codeAny_mono (F.run X.A X.stack s H ⟨us,[]⟩ (us++ds) (vs++dvs) Q E hr I.VI (hb s us I.OC hl) r2 h) λr s' hq=>?_);cases r with
 | error e=>exact hx pins σ H s e s' I hq
 | ok fl =>
  cases fl with
  | ret u=>exact I.after hq
  | next=>exact False.elim hq
  | brk=>exact False.elim hq
  | cont=>exact False.elim hq
theorem vC(F:d9 X.prog X.w X.K X.mg X.base CX k f fd ps sp)(hr:gd k X.A)(hg:Gl X x)(hm:X.mg x=some (.ref f))(hk:PySem.W.keepIn X.K (.ref f)=true)(hb:Binds X.K fd ps ds)(hd:Vals dvs ds)(hx:Passes CX X E)
  (ha:PA X (e::es) t) (wL:(x==("__debug__":Str))=false:=by decide) (he:starEach (e::es) X.env=(false,eval e X.env)::starEach es X.env:=by rfl) (jc:(backTo pos (starEach es X.env)).any (·.1)=false:=by rfl):
  PE X (.Call (.Name x p) (e::es) [] pos) (Uz sp dvs E t):=by
 intro pins s σ H Q I h;refine wpAny_Call_Name_kw (vA I hg hm ?_ wL);refine PySem.W.callWith_K (h₀:=X.base) I.ok.mod.WV hk (b8 (ha pos pins s σ H _ I h) λus s1 ⟨vs,H1,I1,r,q⟩=>⟨I1.OC,?_⟩) he jc;exact MI F hr hb hd hx I1 r q
end
def PK(X:Cx)(Sf:List Keyword)(t:TA):Prop:=
 ∀(pos:Pos) (pins:List (Addr×Obj)) (s:Shared) (σ:St) (H:Hp) (Q:List V->Hp->Prop),Inv X pins σ H s->t σ H Q->wpAny (model X.prog X.w) X.A (evalAll ((backToKw pos (keywordEach Sf X.env)).map (·.2))) (AP X pins σ Q) X.xe s
section
variable {X:Cx}{CX:wj}{k:Nat}{f C:Addr}{fd:FuncData}{ps ks:List Str}{sp:Sp}{E:XK}{x m:Str}{p pos apos WW:Pos}{e o:Expr}{es:List Expr}{Sf:List Keyword}{te ta:TE}{t tk:TA}{nm:Option Str}
theorem Mb:PK X [] BV:=λ_ _ _ _ H Q I h=>wpAny_evalAll_nil ⟨[],H,I,.nil,h⟩
theorem El(ha:PE X e te)(hr:PK X Sf t):PK X (⟨nm,e,WW⟩::Sf) (se te t):=by
 intro pos pins s σ H Q I h;show wpAny _ _ (evalAll ((do let v <- eval e X.env;standAt pos;pure v)::(backToKw pos (keywordEach Sf X.env)).map (·.2))) _ _ s
 refine wpAny_evalAll_cons (wpAny_bind (b8 (ha pins s σ H _ I h) λu s1 ⟨x,H1,I1,r1,q1⟩=>wpAny_bind (wpAny_standAt (wpAny_pure ?_))));exact b8 (hr pos pins s1 σ H1 _ I1 q1) λus s2 ⟨xs,H2,I2,r2,q2⟩=>⟨x::xs,H2,I2,.cons r1 r2,q2⟩
variable {g:List Value->List Value->List Value}{gV:List V->List V->List V}
end
structure aL(N P:List Str)(sc:Scope):Prop where
 kind:sc.kind=.function
 co:sc.isCoroutine=false
 gen:sc.isGenerator=false
 nd:N.Nodup
 pre:N.take P.length=P
 par:∀x∈P,sc.names.lookup x=some .local\/sc.names.lookup x=some .cell
 Ky:∀y∈sc.names,y.2≠.free
theorem m7{kindOf:Str->Option NameKind}{x:Str}:∀ {binds:List (Str×Value)} {m:Str->Option Value},(∀v,(x,v)∉binds)->bindL kindOf binds m x=m x
 | [],_,_=>rfl
 | (n,v)::r,m,h=>by
  unfold bindL;rw[m7 λw hw=>h w (List.mem_cons_of_mem _ hw)]
  split
  ·have:x≠n:=by rintro rfl;exact h v List.mem_cons_self
   simp [this]
  ·rfl
theorem mZ{kindOf:Str->Option NameKind}{x:Str}:∀ {binds:List (Str×Value)} {m:Str->Option Value},(∀v,(x,v)∉binds)->bindC kindOf binds m x=m x
 | [],_,_=>rfl
 | (n,v)::r,m,h=>by
  unfold bindC;rw[mZ λw hw=>h w (List.mem_cons_of_mem _ hw)]
  split
  ·rfl
  ·have:x≠n:=by rintro rfl;exact h v List.mem_cons_self
   simp [this]
theorem m6{kindOf:Str->Option NameKind}{x:Str}{v:Value}:∀ {P:List Str} {vs:List Value} {i:Nat} {m:Str->Option Value},P.Nodup->P[i]?=some x->vs[i]?=some v->kindOf x=some .local ->
  bindL kindOf (P.zip vs) m x=some v
 | [],_,_,_,_,h,_,_=>by simp at h
 | _::_,[],_,_,_,_,h,_=>by simp at h
 | p::P,w::vs,0,m,nd,h1,h2,hk=>by
  simp at h1 h2;subst h1;subst h2;show bindL kindOf ((p,w)::P.zip vs) m p=_;unfold bindL;rw[m7 λv hv=>(List.nodup_cons.mp nd).1 (List.of_mem_zip hv).1,if_pos hk];simp
 | p::P,w::vs,i+1,m,nd,h1,h2,hk=>by
  show bindL kindOf ((p,w)::P.zip vs) m x=_;unfold bindL;exact m6 (i:=i) (List.nodup_cons.mp nd).2 (by simpa using h1) (by simpa using h2) hk
theorem mY{kindOf:Str->Option NameKind}{x:Str}{v:Value}:∀ {P:List Str} {vs:List Value} {i:Nat} {m:Str->Option Value},P.Nodup->P[i]?=some x->vs[i]?=some v->kindOf x≠some .local ->
  bindC kindOf (P.zip vs) m x=some v
 | [],_,_,_,_,h,_,_=>by simp at h
 | _::_,[],_,_,_,_,h,_=>by simp at h
 | p::P,w::vs,0,m,nd,h1,h2,hk=>by
  simp at h1 h2;subst h1;subst h2;show bindC kindOf ((p,w)::P.zip vs) m p=_;unfold bindC;rw[mZ λv hv=>(List.nodup_cons.mp nd).1 (List.of_mem_zip hv).1,if_neg hk];simp
 | p::P,w::vs,i+1,m,nd,h1,h2,hk=>by
  show bindC kindOf ((p,w)::P.zip vs) m x=_;unfold bindC;exact mY (i:=i) (List.nodup_cons.mp nd).2 (by simpa using h1) (by simpa using h2) hk
def start(N:List Str)(vs:List V):St:=vs.map some++List.replicate (N.length-vs.length) none
def qp(CX:wj)(P:Program)(w:World)(K:PySem.W.Frag)(mg:Str->Option Value)(base:Heap)(N:List Str)(qual:Str)(scope:Scope)(f:Addr)(cd:Value)(A:Around)(outer:List Env)(s:Shared)(H:Hp)(E:XK):Cx where
 prog:=P
 w:=w
 K:=K
 mg:=mg
 base:=base
 A:=A.deeper (envOfC qual scope s.heap.objs.size f cd)
 N:=N
 cS:=s
 sY:=H
 env:=envOfC qual scope s.heap.objs.size f cd
 outer:=outer
 stack:=envOfC qual scope s.heap.objs.size f cd::outer
 ex:=[]
 calm:=true
 fn:=λ_=>true
 pn:=[]
 xe:=λe s'=>wpAny (model P w) (A.deeper (envOfC qual scope s.heap.objs.size f cd)) (leaving (envOfC qual scope s.heap.objs.size f cd) e) (λ_ MJ=>CX outer H s E e MJ) (λe' MJ=>CX outer H s E e' MJ) s'
theorem qj{sc:Scope}{n:Nat}{x:Str}(h:sc.names.lookup x=some .cell):∃c,(cellsFrom n sc.names []).lookup x=some c:=by
 have q:=PySem.W.cellsFrom_some sc.names n [] (.inl h);exact Option.isSome_iff_exists.mp q
theorem wW{CX:wj}{P:Program}{w:World}{K:PySem.W.Frag}{mg:Str->Option Value}{base:Heap}{N ps:List Str}{qual:Str}{scope:Scope}{f:Addr}{cd:Value}{A:Around}{outer:List Env}{s s1:Shared}{H:Hp}{E:XK}{us:List Value}{vs:List V}
  (S:aL N ps scope) (hd:A.handled=none) (e0:Dg P w K mg base A outer s H) (hl:vs.length=ps.length) (r:Vals vs us)
  (x:InCallC s s.heap.objs.size (bindL (envOfC qual scope s.heap.objs.size f cd).kindOf (ps.zip us) λ_=>none) (cellsFrom (s.heap.objs.size+1) scope.names []) (bindC (envOfC qual scope s.heap.objs.size f cd).kindOf (ps.zip us) λ_=>none) s1):
  Inv (qp CX P w K mg base N qual scope f cd A outer s H E) [] (start N vs) H s1:=by
 have jc:ps.length<=N.length:=by have:=congrArg List.length S.pre;rw[List.length_take]at this;omega
 obtain⟨h1,tk,rfl,hk⟩:=x.done;have Sr:∀b:Addr,b∉(qp CX P w K mg base N qual scope f cd A outer s H E).ex:=λb z=>absurd (show b∈([]:List Addr)from z) (by simp)
 refine⟨⟨e0.mod,S.kind,rfl,rfl,Nat.le_refl _,λy z c h1 h2=>?_,λy hy=>?_,λy c _ h=>?_,λ_=>hd,Around.frames_deeper e0.frames,.inr ⟨rfl,rfl⟩,λb z=>absurd z (Sr b),e0.bs,e0.CQ,λb _ _=>Sr b,λb z=>absurd z (Sr b),e0.km,e0.Jn⟩,
  rfl,e0.bare,Un.kept hk,⟨_,x.toInCall.ns,λi y v h1 h2 h3=>?_⟩,λy c h=>⟨_,x.cell y c h⟩,e0.bU.fresh (Nat.le_refl _),λy c h=>?_,λp hp=>absurd (show p∈([]:List (Addr×Obj))from hp) (by simp),e0.bU.kept hk,?_⟩
 ·exact name_of_addr x.apart (PySem.mem_of_lookup h1) (PySem.mem_of_lookup h2)
 ·have hy:scope.names.lookup y=some .cell\/scope.names.lookup y=some .free:=hy
  rcases hy with hy|hy
  ·exact qj hy
  ·exact absurd rfl (S.Ky _ (PySem.mem_of_lookup hy))
 ·exact Nat.le_of_lt (x.above y c (PySem.mem_of_lookup h))
 ·have hi:i<vs.length:=by
   unfold start at h2
   by_cases hi:i<vs.length
   ·exact hi
   ·rw[List.getElem?_append_right (by simpa using hi)]at h2
    rw[List.getElem?_replicate]at h2
    split at h2<;>cases h2
  have ha:vs[i]?=some v:=by
   unfold start at h2;rw[List.getElem?_append_left (by simpa using hi),List.getElem?_map]at h2
   cases e:vs[i]? with
   | none=>rw[e]at h2;cases h2
   | some a=>rw[e]at h2;cases h2;rfl
  obtain⟨u,hu,rv⟩:=r.get ha;have hp:ps[i]?=some y:=by
   rw[<- S.pre,List.getElem?_take_of_lt ⋯];exact h1
  have YY:ps.Nodup:=by rw[<- S.pre];exact S.nd.sublist (List.take_sublist _ _)
  refine⟨u,rv,?_⟩;rcases S.par y (List.mem_of_getElem? hp)with k|k
  ·exact .inl ⟨k,m6 YY hp hu k⟩
  ·obtain⟨c,e⟩:=qj (n:=s.heap.objs.size+1) k
   refine .inr ⟨.inl k,c,e,?_⟩;have q:=x.cell y c e;rw[mY YY hp hu (by show scope.names.lookup y≠_;rw[k];decide)]at q
   exact q
 ·exact e0.bU.fresh (Nat.le_of_lt (x.above y c (PySem.mem_of_lookup h)))
 ·unfold start
  show _=N.length;rw[List.length_append,List.length_map,List.length_replicate];omega
theorem QU{CX:wj}{P:Program}{w:World}{K:PySem.W.Frag}{mg:Str->Option Value}{base:Heap}{k:Nat}{f:Addr}{name qual:Str}{params:Arguments}{body:List Stmt}{scope:Scope}{dV kV doc pm jb ct oc:Value}{an od:Option Addr}
  {Gy:Array (Option Value)} {N ps:List Str} {sp:Sp} (lk:K.lookup f=some ⟨oc,od,.func (PySem.W.fnOf name qual params body scope dV kV doc pm an jb ct),Gy⟩) (qT:PySem.W.codeIn K jb qual=true) (S:aL N ps scope)
  (len:∀vs H Q E,sp vs H Q E->vs.length=ps.length)
  (Aw:∀(A:Around) (outer:List Env) (s:Shared) (H:Hp) (vs:List V) (Q:VK) (E:XK),gd k (A.deeper (envOfC qual scope s.heap.objs.size f jb))->sp vs H Q E ->
   ∃t,p9 (qp CX P w K mg base N qual scope f jb A outer s H E) body t/\t {nx:=λ_ H'=>Q .bC H',rt:=Q} (start N vs) H):
  d9 P w K mg base CX (k+1) f (PySem.W.fnOf name qual params body scope dV kV doc pm an jb ct) ps sp:=by
 refine⟨len,λA outer s H args us vs Q E hr e0 hb r Gp=>?_⟩;have hl:=len _ _ _ _ Gp;have KX:K.In s.heap:=e0.mod.WV.keeps λb o e=>(e0.bs b o e).1;have lim:s.heap.NoLimit:=e0.mod.nolimit.keeps λb o e=>(e0.bs b o e).1;have Rv:∀y∈ps.zip us,scope.names.lookup y.1=some .local\/(scope.names.lookup y.1=some .cell/\((cellsFrom (s.heap.objs.size+1) scope.names []).lookup y.1).isSome=true):=λ⟨n,v⟩ hy=>by
  rcases S.par n (List.of_mem_zip hy).1 with q|q
  ·exact .inl q
  ·exact .inr ⟨q,PySem.W.cellsFrom_some _ _ _ (.inl q)⟩
 refine codeAny_call_function hr.depth (KX _ _ lk) rfl S.co S.gen rfl (PySem.W.codeRec_of KX qT) (hb _ _ _ _ ?_);refine wpAny_newFunctionEnv_cells S.kind Rv λenv he s1 x=>?_;subst he;refine⟨lim.keeps x.toInCall.keep,codeAny_func ?_⟩;obtain⟨t,ht,hq⟩:=Aw A outer s H vs Q E (hr.deeper _) Gp;have I:Inv (qp CX P w K mg base N qual scope f jb A outer s H E) [] (start N vs) H s1:=wW S hr.hd e0 hl r x;refine wpAny_mono (ht [] s1 (start N vs) H _ I hq) (λfl s' hs=>?_) λe s' hs=>hs;have fin:∀ {cA:St} {H':Hp} {v:V} {u:Value},Inv (qp CX P w K mg base N qual scope f jb A outer s H E) [] cA H' s'->RelV v u->Q v H'->CE outer P w H s Q u s':=
  λ{cA H' v u} J rv q=>⟨v,H',J.os,J.bare,J.base,J.bU,rv,q⟩
 cases fl with
 | ret u =>
  obtain⟨v,cA,H',J,rv,q⟩:=hs;exact fin J rv q
 | next =>
  obtain⟨cA,H',J,q⟩:=hs;exact fin (v:=V.bC) (u:=Value.none) J rfl q
 | brk =>
  obtain⟨_,_,_,q⟩:=hs;exact False.elim q
 | cont =>
  obtain⟨_,_,_,q⟩:=hs;exact False.elim q
end L2
namespace L2
open PySem PySem.Spec PyProof.Rows
section
variable {X:Cx}{x:Str}{p pos:Pos}{e:Expr}{es:List Expr}{t:TA}{id T:String}{r:List V->Hp->VK->Prop}
def Vd(r:List V->Hp->VK->Prop)(t:TA):TE:=λσ H Q=>t σ H λvs H1=>r vs H1 Q
theorem Bk(hc:cT X (.builtin id) r)(hg:Gl X x)(hm:X.mg x=none)(hv:bootBuiltins x=some (.builtin id))(ha:PA X (e::es) t)(hn:x≠"__name__":=by decide)(wL:(x==("__debug__":Str))=false:=by decide)
  (he:starEach (e::es) X.env=(false,eval e X.env)::starEach es X.env:=by rfl) (jc:(backTo pos (starEach es X.env)).any (·.1)=false:=by rfl):PE X (.Call (.Name x p) (e::es) [] pos) (Vd r t):=by
 intro pins s σ H Q I h;refine wpAny_Call_Name_kw (eP I hg hm hv ?_ hn wL);exact PyProof.Rows.callWith_builtin1 (b8 (ha pos pins s σ H _ I h) λus s1 ⟨vs,H1,I1,r1,q1⟩=>hc pins s1 σ H1 vs us Q I1 r1 q1) he jc
theorem jt(hc:cT X (.type T) r)(hg:Gl X x)(hm:X.mg x=none)(hv:bootBuiltins x=some (.type T))(ha:PA X (e::es) t)(hn:x≠"__name__":=by decide)(wL:(x==("__debug__":Str))=false:=by decide)
  (he:starEach (e::es) X.env=(false,eval e X.env)::starEach es X.env:=by rfl) (jc:(backTo pos (starEach es X.env)).any (·.1)=false:=by rfl):PE X (.Call (.Name x p) (e::es) [] pos) (Vd r t):=by
 intro pins s σ H Q I h;refine wpAny_Call_Name_kw (eP I hg hm hv ?_ hn wL);exact PyProof.Rows.callWith_type1 (b8 (ha pos pins s σ H _ I h) λus s1 ⟨vs,H1,I1,r1,q1⟩=>hc pins s1 σ H1 vs us Q I1 r1 q1) he jc
end
end L2
namespace HT
open PySem PyProof.Rows
def lexLt:List Int->List Int->Bool
 | [],[]=>false
 | [],_::_=>true
 | _::_,[]=>false
 | x::xs,y::ys=>if x=y then lexLt xs ys else decide (x<y)
theorem b5(x y:Int)(xs ys:List Int):lexLt (x::xs) (y::ys)=if x=y then lexLt xs ys else decide (x<y):=rfl
theorem mN:lexLt [] []=false:=rfl
theorem fw(y:Int)(ys:List Int):lexLt [] (y::ys)=true:=rfl
theorem fv(x:Int)(xs:List Int):lexLt (x::xs) []=false:=rfl
theorem zL(A:Around)(s:Shared)(a:Int)(t:Tok)(c:Int)(u:Tok):∃e,SeqAt.EqAt A s (.int a t) (.int c u) e/\(e=true ↔ a=c):=
 ⟨(a==c),SeqAt.EqAt.int_int a t c u,by simp⟩
theorem BE(A:Around)(s:Shared)(a:Int)(t:Tok)(c:Int)(u:Tok)(prog:Program)(w:World)(E:Value->Shared->Prop)(Q:Value->Shared->Prop)(h:Q (.bool (decide (a<c))) s):
  wpAny (model prog w) A (richCompare .Lt (.int a t) (.int c u)) Q E s:=
 (PyProof.Rows.lt_int h:wpAny (model prog w) A (compareOp .Lt (.int a t) (.int c u)) Q E s)
section
open PySem.SeqAt
open PySem.AutoSeq1 (wpAny_loadPart')
open PySem.MeetsSeq PySem.MeetsSeq2 PySem.MeetsSeq3
theorem mR(l b:Addr)(items ef:Array Value)(n n2:Nat)(dd Oj:Option Addr)(sl OM:Array (Option Value))(ns ms:List Int)(hi:IntsAre items.toList ns)(hj:IntsAre ef.toList ms):
  Meets (Builtin.«tuple.__lt__» ⟨[.ref l,.ref b],[]⟩)
   (λ_ R s=>s.heap.get? l=some {cls:=.type "tuple",dict:=dd,data:=.seq items n,slots:=sl}/\s.heap.get? b=some {cls:=.type "tuple",dict:=Oj,data:=.seq ef n2,slots:=OM} /\
    R (.ok (.ret (.bool (lexLt ns ms)))) s):=
 .of_wp λprog w A R s h=>by
  obtain⟨hp,g,d,tk,os⟩:=s;obtain⟨hl,hb,h⟩:=h;have f2:=AutoSeq1.sub_tuple_tuple;have z1:items.size=ns.length:=by rw[<- hi.length];simp
  have z2:ef.size=ms.length:=by rw[<- hj.length];simp
  wp_walk using wpAny_loadPart' hl,wpAny_loadPart' hb,wpAny_forIn_list _ (λrest b s'=>b.1=none/\s'=⟨hp,g,d,tk,os⟩/\∃(vs ws:List Value) (OJ C4:List Int),rest=vs.zip ws /\
   IntsAre vs OJ/\IntsAre ws C4/\OJ.length+ef.size=C4.length+items.size/\R (.ok (.ret (.bool (lexLt OJ C4)))) ⟨hp,g,d,tk,os⟩) _
  case turn =>
   rintro⟨y,x⟩ rest b s' ⟨wK,rfl,vs,ws,OJ,C4,hz,WG,U2,hlen,hR⟩;cases WG with
   | nil=>rw[List.zip_nil_left]at hz;cases hz
   | cons a t WH =>
    cases U2 with
    | nil=>rw[List.zip_nil_right]at hz;cases hz
    | cons c u WK =>
     rw[List.zip_cons_cons]at hz
     injection hz with hyx RD
     injection hyx with hy hx
     subst hy hx;rw[b5]at hR;simp only[List.length_cons]at hlen;obtain⟨e,he,Rl⟩:=zL A.in1 ⟨hp,g,d,tk,os⟩ a t c u;refine wpAny_bind (he prog w _ _ ?_);cases e with
     | true =>
      rw[if_pos (Rl.mp rfl)]at hR
      wp_walk
      exact⟨rfl,rfl,_,_,_,_,RD,WH,WK,by omega,hR⟩
     | false =>
      rw[if_neg (λq=>absurd (Rl.mpr q) Bool.false_ne_true)]at hR;have Z9:=BE A.in1 ⟨hp,g,d,tk,os⟩ a t c u prog w
      wp_walk using Z9
      exact⟨_,rfl,by simpa using hR⟩
  case fin =>
   rintro⟨b1,b2⟩ s' ⟨wK,rfl,vs,ws,OJ,C4,hz,WG,U2,hlen,hR⟩;simp only at wK;subst wK;have hv:lexLt OJ C4=decide (items.size<ef.size):=by
    cases WG with
    | nil =>
     cases U2 with
     | nil =>
      simp only[List.length_nil]at hlen;rw[mN];exact(decide_eq_false ⋯).symm
     | cons c u hw =>
      simp only[List.length_nil,List.length_cons]at hlen;rw[fw];exact(decide_eq_true ⋯).symm
    | cons a t hv =>
     cases U2 with
     | nil =>
      simp only[List.length_nil,List.length_cons]at hlen;rw[fv];exact(decide_eq_false ⋯).symm
     | cons c u hw =>
      rw[List.zip_cons_cons]at hz;cases hz
   rw[hv]at hR
   wp_walk
   exact⟨_,rfl,by simpa [Builtin.Tuple.tupleCompareSizes]using hR⟩
  case h =>
   exact⟨rfl,rfl,items.toList,ef.toList,ns,ms,rfl,hi,hj,by omega,h⟩
end
section
variable {prog:Program}{w:World}{A:Around}{E:Value->Shared->Prop}{s:Shared}
theorem tW{l b:Addr}{items ef:Array Value}{ns ms:List Int}{Q:Value->Shared->Prop}(hl:IsTup s.heap l items)(hb:IsTup s.heap b ef)(hi:IntsAre items.toList ns)(hj:IntsAre ef.toList ms)
  (hu:A.units<cLine) (h:Q (.bool (lexLt ns ms)) s):wpAny (model prog w) A (compareOp .Lt (.ref l) (.ref b)) Q E s:=by
 obtain⟨⟨cls,dd,data,sl⟩,ho,hc,n,hd⟩:=id hl;obtain⟨⟨Vw,Oj,data2,OM⟩,DL,Gi,n2,hd2⟩:=id hb;simp only at hc hd Gi hd2;subst hc hd Gi hd2;exact richCompare_meets_room (op:=.Lt) ⟨_,ho,rfl⟩ ⟨_,DL,rfl⟩ PySem.F.slot_tuple_lt PySem.F.entry_tuple_lt (PySem.F.args_tuple_lt_2 _ _) (mR l b items ef n n2 dd Oj sl OM ns ms hi hj)
  ⟨ho,DL,show Value.bool (lexLt ns ms)≠Value.notImplemented/\Q (.bool (lexLt ns ms)) s from⟨(λx=>nomatch x),h⟩⟩ hu
theorem Ds{t b:Addr}{vs ws:List Value}{Q:Value->Shared->Prop}(ht:IsTup s.heap t vs.toArray)(hb:IsTup s.heap b ws.toArray)(hv:vs≠[])
  (h1:ws=[]->Q (.ref t) s) (h2:ws≠[]->Q (.ref s.heap.objs.size) {s with heap:=s.heap.push {cls:=.type "tuple",data:=.seq (vs++ws).toArray}})
  (hsz:vs.length+ws.length<=sizeLine):wpAny (model prog w) A (binaryOp .Add (.ref t) (.ref b)) Q E s:=by
 obtain⟨⟨cls,dd,data,sl⟩,ho,hc,n,hd⟩:=id ht;obtain⟨⟨Vw,Oj,data2,OM⟩,DL,Gi,n2,hd2⟩:=id hb;simp only at hc hd Gi hd2;subst hc hd Gi hd2;have e:vs.toArray++ws.toArray=(vs++ws).toArray:=by simp
 by_cases hw:ws=[]
 ·exact concat_meets ⟨_,ho,rfl⟩ ⟨_,DL,rfl⟩ noFill_tuple_add seq_tuple_add PySem.F.slot_tuple_add PySem.F.entry_tuple_add (PySem.F.args_tuple_add_2 _ _)
   (tuple_addW1 t b vs.toArray ws.toArray n n2 dd Oj sl OM (by simpa using hv) (by simp [hw])) ⟨ho,DL,h1 hw⟩
 ·refine concat_meets ⟨_,ho,rfl⟩ ⟨_,DL,rfl⟩ noFill_tuple_add seq_tuple_add PySem.F.slot_tuple_add PySem.F.entry_tuple_add (PySem.F.args_tuple_add_2 _ _)
   (tuple_addW2 t b vs.toArray ws.toArray n n2 dd Oj sl OM (by simpa using hv) (by simpa using hw) (by rw[List.size_toArray,List.size_toArray];exact hsz)) ⟨ho,DL,?_⟩
  rw[e];exact h2 hw
def cu(n d:Nat):Option Int->Nat
 | none=>d
 | some v=>if v<0 then(v+(n:Int)).toNat else min v.toNat n
theorem rS(n d:Nat):cu n d none=d:=rfl
theorem vO(n d k:Nat):cu n d (some (k:Int))=min k n:=by
 show(if(k:Int)<0 then((k:Int)+(n:Int)).toNat else min (k:Int).toNat n)=min k n
 rw[if_neg ⋯,Int.toNat_natCast]
theorem ML(n d:Nat)(hd:d<=n)(o:Option Int):cu n d o<=n:=by
 cases o with
 | none=>exact hd
 | some v =>
  show(if v<0 then(v+(n:Int)).toNat else min v.toNat n)<=n
  by_cases hv:v<0
  ·rw[if_pos hv];omega
  ·rw[if_neg hv];exact Nat.min_le_right _ _
theorem uV(v:Int)(n d:Nat):(if v<0 then max (v+(n:Int)) 0 else min v (n:Int))=((cu n d (some v):Nat):Int):=by
 show(if v<0 then max (v+(n:Int)) 0 else min v (n:Int))=(((if v<0 then(v+(n:Int)).toNat else min v.toNat n):Nat):Int)
 by_cases hv:v<0
 ·simp only[if_pos hv];omega
 ·simp only[if_neg hv];omega
theorem tm(lo hi:Option Int)(n:Nat):Builtin.Slice.sliceAdjust lo hi 1 (n:Int)=(((cu n 0 lo:Nat):Int),((cu n n hi:Nat):Int)):=by
 have h1:¬((1:Int)<0):=by omega
 unfold Builtin.Slice.sliceAdjust;simp only[h1,if_false];refine Prod.ext ?_ ?_
 ·cases lo with
  | none=>rfl
  | some v=>exact uV v n 0
 ·cases hi with
  | none=>rfl
  | some v=>exact uV v n n
theorem uf(i j:Nat):Builtin.Slice.slicePlaces (i:Int) (j:Int) 1=j-i:=by
 unfold Builtin.Slice.slicePlaces;have h1:(1:Int)>0:=by omega
 simp only[h1,if_true,Int.ediv_one]
 split<;>omega
theorem lW{v:Value}{o:Option Int}{Q:Option Int->Shared->Prop}(p:IsPart v o)(h:Q o s):wpAny (model prog w) A (Builtin.Slice.slicePartIndex v) Q E s:=by
 cases p with
 | none=>exact slicePart_none h
 | int i t=>exact slicePart_int h
theorem eD{sl:Addr}{vl vu:Value}{lo hi:Option Int}{n:Nat}{Q:Int×Int×Nat->Shared->Prop}(hs:s.heap.IsSliceOf sl vl vu .none)(pl:IsPart vl lo)(pu:IsPart vu hi)
  (h:Q (((cu n 0 lo:Nat):Int),1,cu n n hi-cu n 0 lo) s):wpAny (model prog w) A (Builtin.Slice.sliceApplied (.ref sl) (pure (n:Int))) Q E s:=by
 obtain⟨os,wO,Jx,C1⟩:=id hs;unfold Builtin.Slice.sliceApplied Builtin.Slice.sliceFields;refine wpAny_bind (wpAny_bind (wpAny_field wO C1 (x:=vl) rfl (wpAny_bind (wpAny_field wO C1 (x:=vu) rfl (wpAny_bind (wpAny_field wO C1 (x:=.none) rfl (wpAny_pure ?_)))))));refine wpAny_bind (slicePart_none ?_);show wpAny _ _ (if((1:Int)==0)=true then _ else _) _ _ s
 rw[if_neg ∅]
 refine wpAny_bind (lW pl (wpAny_bind (lW pu (wpAny_bind (wpAny_pure ?_)))));show wpAny _ _ (match Builtin.Slice.sliceAdjust lo hi 1 (n:Int)with | (lo,hi)=>pure (lo,(1:Int),Builtin.Slice.slicePlaces lo hi 1)) _ _ s
 rw[tm lo hi n];show wpAny _ _ (pure (((cu n 0 lo:Nat):Int),(1:Int),Builtin.Slice.slicePlaces ((cu n 0 lo:Nat):Int) ((cu n n hi:Nat):Int) 1)) _ _ s;rw[uf];exact wpAny_pure h
theorem Bq(xs:Array Value)(i k:Nat):((List.range k).filterMap λ(m:Nat)=>xs[((i:Int)+(m:Int)*1).toNat]?).toArray=((xs.toList.drop i).take k).toArray:=by
 have e:(λ(m:Nat)=>xs[((i:Int)+(m:Int)*1).toNat]?)=λm=>xs[i+m]?:=by
  funext m;have:((i:Int)+(m:Int)*1).toNat=i+m:=by omega
  rw[this]
 rw[e];have:=pick_run xs i k;rw[List.filterMap_map]at this;have e2:((λx=>xs[x]?) ∘ λx=>i+x)=λm=>xs[i+m]?:=rfl;rw[e2]at this;rw[this]
theorem h9{t sl:Addr}{items:Array Value}{vl vu:Value}{lo hi:Option Int}{Q:Value->Shared->Prop}(ht:IsTup s.heap t items)(hs:s.heap.IsSliceOf sl vl vu .none)(pl:IsPart vl lo)(pu:IsPart vu hi)
  (hw:¬(cu items.size 0 lo=0/\cu items.size items.size hi=items.size))
  (h:Q (.ref s.heap.objs.size) {s with heap:=s.heap.push {cls:=.type "tuple",data:=.seq ((items.toList.drop (cu items.size 0 lo)).take (cu items.size items.size hi-cu items.size 0 lo)).toArray}})
  (hsz:items.size<=sizeLine):wpAny (model prog w) A (getItem (.ref t) (.ref sl)) Q E s:=by
 have ik:sizeOk (.seq ((items.toList.drop (cu items.size 0 lo)).take (cu items.size items.size hi-cu items.size 0 lo)).toArray):=by
  show((items.toList.drop (cu items.size 0 lo)).take (cu items.size items.size hi-cu items.size 0 lo)).toArray.size<=sizeLine;rw[List.size_toArray,List.length_take,List.length_drop,Array.length_toList];omega
 have hj:cu items.size items.size hi<=items.size:=ML _ _ (Nat.le_refl _) hi;obtain⟨os,wO,Jx,C1⟩:=id hs;have Q9:s.TypeIs (.ref sl) "slice":=⟨os,wO,Jx⟩;unfold getItem
 try with_reducible refine wpAny_holding ?_
 first|refine wpAny_bind (wpAny_pure ?_)|skip
 refine wpAny_bind (wpAny_sequenceKey ht.typeIs ∅ ?_)
 refine wpAny_bind (wpAny_callSpecial?_slot (name:=Str.ofString "__getitem__") ht.typeIs PyProof.Rows.slot_tuple_getitem
  (wpAny_call_entry PyProof.Rows.slot_tuple_getitem ht.typeIs entry_tuple_getitem ?_ (args_tuple_getitem _ _)))
 show wpAny _ _ (Builtin.Tuple.tupleItemsOf (.ref t) >>= _) _ _ s;refine wpAny_bind (tupleItemsOf_ ht ?_);refine wpAny_bind (wpAny_typeOf Q9 ?_);rw[if_pos ∅]
 refine wpAny_bind (eD hs pl pu ?_);have Wl:¬((((cu items.size 0 lo:Nat):Int)==0&&(1:Int)==1&&(cu items.size items.size hi-cu items.size 0 lo)==items.size)=true):=by
  intro q;rw[Bool.and_eq_true,Bool.and_eq_true]at q;have q1:((cu items.size 0 lo:Nat):Int)=0:=eq_of_beq q.1.1;have q2:cu items.size items.size hi-cu items.size 0 lo=items.size:=eq_of_beq q.2;exact hw ⟨by omega,by omega⟩
 show wpAny _ _ (if(((cu items.size 0 lo:Nat):Int)==0&&(1:Int)==1&&(cu items.size items.size hi-cu items.size 0 lo)==items.size)=true then _ else _) _ _ s
 rw[if_neg Wl,Bq]
 first
  | exact wpAny_bind (m:=Builtin.Tuple.tupleExact _) (wpAny_newObj_type (wpAny_pure ⟨_,rfl,wpAny_pure h⟩) ik)
  | exact wpAny_bind (m:=Builtin.Tuple.tupleExact _) (wpAny_newObj_type (wpAny_bind (wpAny_pure (wpAny_pure ⟨_,rfl,wpAny_pure h⟩))) ik)
  | exact wpAny_bind (wpAny_bind (m:=Builtin.Tuple.tupleExact _) (wpAny_newObj_type (wpAny_pure (wpAny_pure ⟨_,rfl,wpAny_pure h⟩)) ik))
  | exact wpAny_bind (wpAny_bind (m:=Builtin.Tuple.tupleExact _) (wpAny_newObj_type (wpAny_pure ⟨_,rfl,wpAny_pure h⟩) ik))
end
end HT
namespace L2
open PySem PySem.Spec PyProof.Rows
abbrev TO:=St->Hp->(Option Int->Hp->Prop)->Prop
def PO(X:Cx)(e:Option Expr)(t:TO):Prop:=
 ∀(pins:List (Addr×Obj)) (s:Shared) (σ:St) (H:Hp) (Q:Option Int->Hp->Prop),Inv X pins σ H s->t σ H Q ->
  wpAny (model X.prog X.w) X.A (evalPart e X.env) (λu s'=>∃o H',Inv X pins σ H' s'/\IsPart u o/\Q o H') X.xe s
def E3:TO:=λ_ H Q=>Q none H
def UC(t:TE):TO:=λσ H Q=>t σ H λx H1=>∃i,x=.int i/\Q (some i) H1
theorem intsAre_of{ns:List Int}:∀ {us:List Value},Vals (ns.map V.int) us->IntsAre us ns:=by
 induction ns with
 | nil=>intro us r;rw[List.map_nil]at r;cases r;exact .nil
 | cons n ns ih =>
  intro us r;rw[List.map_cons]at r;cases r with
  | cons r1 r2 =>
   obtain⟨t,e⟩:=r1;subst e;exact .cons n t (ih r2)
section
variable {X:Cx}{e:Expr}{te:TE}{lo hi:Option Expr}{tl th:TO}{pos p2:Pos}
theorem Em:PO X none E3:=by
 intro pins s σ H Q I h;rw[evalPart_none];exact wpAny_pure ⟨none,H,I,.none,h⟩
theorem En(h:PE X e te):PO X (some e) (UC te):=by
 intro pins s σ H Q I hw;rw[evalPart_some];refine b8 (h pins s σ H _ I hw) λu s1 ⟨x,H1,I1,r1,q1⟩=>?_;obtain⟨i,rfl,q⟩:=q1;obtain⟨t,rfl⟩:=r1;exact⟨some i,H1,I1,.int i t,q⟩
def yr(X:Cx)(r:V->Option Int->Option Int->Hp->VK->Prop):Prop:=
 ∀(pins:List (Addr×Obj)) (s:Shared) (σ:St) (H:Hp) (x:V) (v vl vu:Value) (lo hi:Option Int) (sl:Addr) (Q:VK),Inv X pins σ H s->RelV x v->s.heap.IsSliceOf sl vl vu .none->IsPart vl lo->IsPart vu hi->r x lo hi H Q ->
  ∃T id,typeLookup (.type T) "__getitem__"=pure (some (.builtin id))/\s.TypeIs v T/\wpAny (model X.prog X.w) X.A (getItem v (.ref sl)) (EP X pins σ Q) X.xe s
theorem yr.or{r r':V->Option Int->Option Int->Hp->VK->Prop}(h:yr X r)(h':yr X r'):yr X (λx lo hi H Q=>r x lo hi H Q\/r' x lo hi H Q):=by
 intro pins s σ H x v vl vu lo hi sl Q I rx hs pl pu q;rcases q with q|q
 ·exact h pins s σ H x v vl vu lo hi sl Q I rx hs pl pu q
 ·exact h' pins s σ H x v vl vu lo hi sl Q I rx hs pl pu q
def tSl(r:V->Option Int->Option Int->Hp->VK->Prop)(te:TE)(tl th:TO):TE:=λσ H Q=>te σ H λx H1=>tl σ H1 λl H2=>th σ H2 λu H3=>r x l u H3 Q
theorem rE{r:V->Option Int->Option Int->Hp->VK->Prop}(hr:yr X r)(he:PE X e te)(hl:PO X lo tl)(hu:PO X hi th):PE X (.Subscript e (.Slice lo hi none p2) pos) (tSl r te tl th):=by
 intro pins s σ H Q I h;refine Subscript_ (b8 (he pins s σ H _ I h) λv s1 ⟨x,H1,I1,r1,q1⟩=>?_);refine wpAny_Slice (b8 (hl pins s1 σ H1 _ I1 q1) λvl s2 ⟨l,H2,I2,pl,q2⟩=>b8 (hu pins s2 σ H2 _ I2 q2) λvu s3 ⟨u,H3,I3,pu,q3⟩=>?_);rw[evalPart_none];refine wpAny_pure ?_;have I4:Inv X pins σ H3 {s3 with heap:=s3.heap.push {cls:=.type "slice",data:=.fields #[vl,vu,.none]}}:=I3.kept (t':=s3.toks) λb ob q=>Heap.get?_push_of_some _ q
 obtain⟨T,id,hT,ht,hg⟩:=hr pins {s3 with heap:=s3.heap.push {cls:=.type "slice",data:=.fields #[vl,vu,.none]}} σ H3 x v vl vu l u s3.heap.objs.size Q I4 r1 (Heap.IsSliceOf.new ..) pl pu q3
 show wpAny (model X.prog X.w) X.A (subscriptTail e (.Slice lo hi none p2) v (.ref s3.heap.objs.size)) (EP X pins σ Q) X.xe {s3 with heap:=s3.heap.push {cls:=.type "slice",data:=.fields #[vl,vu,.none]}}
 exact tail_any (ops:=[.ref s3.heap.objs.size,v]) ht hT hg (by with_unfolding_all rfl)
def qm(xs:List V)(lo hi:Option Int):List V:=(xs.drop (HT.cu xs.length 0 lo)).take (HT.cu xs.length xs.length hi-HT.cu xs.length 0 lo)
theorem jR(xs:List V)(lo hi:Option Int):(qm xs lo hi).length<=xs.length:=by
 unfold qm;rw[List.length_take,List.length_drop];omega
def Xn(K:PySem.W.Frag):V->Option Int->Option Int->Hp->VK->Prop:=λx lo hi H Q=>∃a xs,x=.ref a/\gS K H a xs /\
 ¬(HT.cu xs.length 0 lo=0/\HT.cu xs.length xs.length hi=xs.length)/\∀p,H p=none->Q (.ref p) (upd H p (.tup (qm xs lo hi)))
theorem BK:yr X (Xn X.K):=by
 intro pins s σ H x v vl vu lo hi sl Q I rx hs pl pu h;obtain⟨a,xs,rfl,hx,hw,q⟩:=h;cases rx;obtain⟨its,r,ht,hz⟩:=I.tuple hx;have hlen:its.toArray.size=xs.length:=by rw[List.size_toArray];exact r.length.symm
 refine⟨"tuple",_,PyProof.Rows.slot_tuple_getitem.lookup,ht.typeIs,?_⟩;refine HT.h9 ht hs pl pu (by rw[hlen];exact hw) ?_ (by rw[hlen];exact hz)
 rw[hlen];refine⟨.ref s.heap.objs.size,_,I.laid (t':=s.toks) (o:=.tup (qm xs lo hi)) (λb ob q=>Heap.get?_push_of_some _ q) (Nat.le_refl _) ?_,rfl,q _ (I.bU.fresh (Nat.le_refl _))⟩;exact⟨Nat.le_trans (jR xs lo hi) hz,_,(r.drop (HT.cu xs.length 0 lo)).take (HT.cu xs.length xs.length hi-HT.cu xs.length 0 lo),IsTup.new _ _⟩
def GD(K:PySem.W.Frag):R2:=λx y H Q=>∃a b xs ys,x=.ref a/\y=.ref b/\gS K H a xs/\gS K H b ys/\xs≠[]/\xs.length+ys.length<=sizeLine /\
 (ys=[]->Q (.ref a) H)/\(ys≠[]->∀p,H p=none->Q (.ref p) (upd H p (.tup (xs++ys))))
theorem Vals.oS{xs:List V}{us:List Value}(r:Vals xs us):us=[] ↔ xs=[]:=by
 cases r with
 | nil=>simp
 | cons _ _=>simp
theorem Ea:f9 X (binaryOp .Add) (GD X.K):=by
 intro pins s σ H x y v u Q I rx ry h;obtain⟨a,b,xs,ys,rfl,rfl,ha,hb,hx,hz,q1,q2⟩:=h;cases rx;cases ry;obtain⟨its,r1,p1,_⟩:=I.tuple ha;obtain⟨JU,r2,p2,_⟩:=I.tuple hb;refine HT.Ds p1 p2 (λz=>hx (r1.oS.mp z)) (λz=>⟨.ref a,H,I,rfl,q1 (r2.oS.mp z)⟩) (λz=>?_) (by rw[<- r1.length,<- r2.length];exact hz)
 refine⟨.ref s.heap.objs.size,_,I.laid (t':=s.toks) (o:=.tup (xs++ys)) (λb ob q=>Heap.get?_push_of_some _ q) (Nat.le_refl _) ?_,rfl,q2 (λw=>z (r2.oS.mpr w)) _ (I.bU.fresh (Nat.le_refl _))⟩;exact⟨by rw[List.length_append];exact hz,_,r1.append r2,IsTup.new _ _⟩
end
end L2
namespace L2
open PySem PySem.Spec PyProof.Rows
def vt(n:Nat)(i:Int):Option Nat:=if 0<=i then(if i<n then some i.toNat else none)else if -(n:Int)<=i then some (i+n).toNat else none
def mD{α:Type}(xs:List α)(i:Int):Option α:=(vt xs.length i).bind λj=>xs[j]?
theorem vv{n:Nat}{i:Int}{j:Nat}(h:vt n i=some j):seqIndex? i n=some j/\j<n/\-(n:Int)<=i/\i<n:=by
 unfold vt at h
 by_cases h0:0<=i
 ·rw[if_pos h0]at h
  by_cases h1:i<n
  ·rw[if_pos h1]at h
   have e:i.toNat=j:=Option.some.inj h;exact⟨by rw[seqIndex_of h0 h1,e],by omega,by omega,h1⟩
  ·rw[if_neg h1]at h;cases h
 ·rw[if_neg h0]at h
  by_cases h1:-(n:Int)<=i
  ·rw[if_pos h1]at h
   have e:(i+n).toNat=j:=Option.some.inj h;exact⟨by rw[seqIndex_neg ⋯ h1,e],by omega,h1,by omega⟩
  ·rw[if_neg h1]at h;cases h
theorem n6{α:Type}{xs:List α}{i:Int}{v:α}(h:mD xs i=some v):∃j,seqIndex? i xs.length=some j/\xs[j]?=some v/\j<xs.length/\-(xs.length:Int)<=i/\i<xs.length:=by
 unfold mD at h;cases e:vt xs.length i with
 | none=>rw[e]at h;cases h
 | some j =>
  rw[e]at h;obtain⟨h1,h2,h3,h4⟩:=vv e;exact⟨j,h1,h,h2,h3,h4⟩
def uO(b:Expr):Prop:=∀o i,subscripted b false o i=operate [o,i] (getItem o i)
def Dh(X:Cx)(r:R2):Prop:=
 ∀(value slice:Expr) (pins:List (Addr×Obj)) (s:Shared) (σ:St) (H:Hp) (x y:V) (v u:Value) (Q:VK),Inv X pins σ H s->RelV x v->RelV y u->r x y H Q ->
  subscripted slice false v u=operate [v,u] (getItem v u)->wpAny (model X.prog X.w) X.A (subscriptTail value slice v u) (EP X pins σ Q) X.xe s
def Zk(X:Cx)(id:String)(r:V->List V->Hp->VK->Prop):Prop:=
 ∀(pins:List (Addr×Obj)) (s:Shared) (σ:St) (H:Hp) (x:V) (xs:List V) (v:Value) (us:List Value) (Q:VK),Inv X pins σ H s->RelV x v->Vals xs us->r x xs H Q ->
  wpAny (model X.prog X.w) X.A (call (.builtin id) (v::us)) (EP X pins σ Q) X.xe s
section
variable {X:Cx}{a b:Expr}{ta tb:TE}{pos:Pos}
theorem Dh.or{r r':R2}(h:Dh X r)(h':Dh X r'):Dh X (λx y H Q=>r x y H Q\/r' x y H Q):=by
 intro value slice pins s σ H x y v u Q I rx ry q hs;rcases q with q|q
 ·exact h value slice pins s σ H x y v u Q I rx ry q hs
 ·exact h' value slice pins s σ H x y v u Q I rx ry q hs
theorem Tj{r:R2}(hr:Dh X r)(ha:PE X a ta)(hb:PE X b tb)(hs:uO b):PE X (.Subscript a b pos) (OQ r ta tb):=by
 intro pins s σ H Q I h;exact Subscript_ (Ht ha hb I h λv u s2 x y H2 I2 rx ry q=>hr a b pins s2 σ H2 x y v u Q I2 rx ry q (hs _ _))
def TN(K:PySem.W.Frag):R2:=λx y H Q=>∃p xs i v,x=.ref p/\y=.int i/\e6 K H p xs/\mD xs i=some v/\Q v H
def TR(K:PySem.W.Frag):R2:=λx y H Q=>∃p xs i v,x=.ref p/\y=.int i/\gS K H p xs/\mD xs i=some v/\Q v H
def TQ:R2:=λx y H Q=>∃z i c,x=.str z/\y=.int i/\z.length<=sizeLine/\mD z.cps.toList i=some c/\Q (.str ⟨#[c]⟩) H
theorem DX:Dh X (TN X.K):=by
 intro value slice pins s σ H x y v u Q I rx ry h hs;obtain⟨p,xs,i,z,rfl,rfl,hq,he,q⟩:=h;cases rx;obtain⟨t,rfl⟩:=ry;obtain⟨its,r,pl,hz⟩:=I.list hq;obtain⟨j,h1,h2,h3,h4,h5⟩:=n6 he;obtain⟨w,ew,T3⟩:=r.get h2;have hl:=r.length;have hn:=gO;have fin:EP X pins σ Q w s:=⟨z,H,I,T3,q⟩
 by_cases h0:0<=i
 ·have hj:i.toNat=j:=by
   rw[seqIndex_of h0 h5]at h1;exact Option.some.inj h1
  exact item_listR pl.isList h0 ⋯ (by rw[hj];simpa using ew) fin hs
 ·have hj:(i+(its.toArray.size:Int)).toNat=j:=by
   rw[seqIndex_neg ⋯ h4]at h1
   rw[List.size_toArray,<- hl];exact Option.some.inj h1
  exact subscriptTail_builtinR (x:=w) pl.isList.typeIs slot_list_getitem.lookup
   (wpAny_getItem_list_neg (Q:=λr s'=>r=w/\EP X pins σ Q r s') pl.isList ⋯ (by rw[List.size_toArray]<;>omega) ⋯ (by rw[hj];simpa using ew) ⟨rfl,fin⟩) hs
theorem J0:Dh X (TR X.K):=by
 intro value slice pins s σ H x y v u Q I rx ry h hs;obtain⟨p,xs,i,z,rfl,rfl,hq,he,q⟩:=h;cases rx;obtain⟨t,rfl⟩:=ry;obtain⟨its,r,pl,hz⟩:=I.tuple hq;obtain⟨j,h1,h2,h3,h4,h5⟩:=n6 he;obtain⟨w,ew,T3⟩:=r.get h2;have hl:=r.length;have hn:=gO;have fin:EP X pins σ Q w s:=⟨z,H,I,T3,q⟩;exact subscriptTail_builtinR (x:=w) pl.typeIs slot_tuple_getitem.lookup
  (getItem_tuple (j:=j) (Q:=λr s'=>r=w/\EP X pins σ Q r s') pl ⋯ ⋯ (by rw[List.size_toArray,<- hl];exact h1) (by simpa using ew) ⟨rfl,fin⟩) hs
theorem JZ:Dh X TQ:=by
 intro value slice pins s σ H x y v u Q I rx ry h hs;obtain⟨z,i,c,rfl,rfl,hz,he,q⟩:=h;obtain⟨t,rfl⟩:=rx;obtain⟨t',rfl⟩:=ry;obtain⟨j,h1,h2,h3,h4,h5⟩:=n6 he;have hl:z.cps.toList.length=z.length:=by simp [Str.length]
 rw[hl]at h1 h4 h5;have hn:=gO;exact tail_any (typeIs_str s z t) slot_str_getitem.lookup (getItem_str (c:=c) (by
  have e1:decide (i < -(2^63:Int))=false:=decide_eq_false ⋯
  have e2:decide (i>=2^63)=false:=decide_eq_false ⋯
  rw[e1,e2,Bool.or_false]) (by rw[h1];simpa using h2) ⟨.str ⟨#[c]⟩,H,I.tok _,⟨_,rfl⟩,q⟩) hs
def rIx(K:PySem.W.Frag):R2:=λx y H Q=>TN K x y H Q\/TR K x y H Q\/TQ x y H Q
theorem JY:Dh X (rIx X.K):=DX.or (J0.or JZ)
theorem tX(its:List Value)(n j:Nat)(u:Value):Obj.mapSeq (·.setIfInBounds j u) {cls:=.type "list",data:=.seq its.toArray n}={cls:=.type "list",data:=.seq (its.set j u).toArray n}:=by
 simp [Obj.mapSeq]
theorem Inv.lst{pins:List (Addr×Obj)}{σ:St}{H:Hp}{s:Shared}{p:Addr}{xs:List V}(I:Inv X pins σ H s)(h:H p=some (.lst xs)):
  ∃(its:List Value) (n:Nat),Vals xs its/\s.heap.get? p=some {cls:=.type "list",data:=.seq its.toArray n}/\xs.length<=sizeLine:=by
 obtain⟨z,its,n,r,e⟩:=I.bU p _ h;exact⟨its,n,r,e,z⟩
theorem Inv.Kv{pins:List (Addr×Obj)}{σ:St}{H:Hp}{s:Shared}{p:Addr}{xs ys:List V}{its its':List Value}{n n':Nat}{f:Obj->Obj}(I:Inv X pins σ H s)(h:H p=some (.lst xs))
  (ho:s.heap.get? p=some {cls:=.type "list",data:=.seq its.toArray n}) (hf:f {cls:=.type "list",data:=.seq its.toArray n}={cls:=.type "list",data:=.seq its'.toArray n'}) (r:Vals ys its') (hz:ys.length<=sizeLine) (t:Nat):
  Inv X pins σ (upd H p (.lst ys)) {s with heap:=s.heap.update p f,toks:=t}:=by
 have e:(s.heap.update p f).get? p=some {cls:=.type "list",data:=.seq its'.toArray n'}:=by
  rw[Heap.get?_update_self f ho (by rw[hf]<;>rfl),hf]
 refine I.write (x:=p) (e:=p) (by rw[h];trivial) (.inl rfl) (λb u hb q=>(Heap.get?_update_other _ _ (Ne.symm hb)).trans q) ⟨_,e⟩ ?_
 exact⟨hz,its',n',r,e⟩
def TY:V->V->V->Hp->(Hp->Prop)->Prop:=λo i v H Q=>∃p xs k j,o=.ref p/\i=.int k/\H p=some (.lst xs)/\vt xs.length k=some j/\Q (upd H p (.lst (xs.set j v)))
theorem set_list:G2 X TY:=by
 intro pins s σ H o i v ov iv u Q I ro ri rv h;obtain⟨p,xs,k,j,rfl,rfl,hp,hj,q⟩:=h;cases ro;obtain⟨t,rfl⟩:=ri;obtain⟨its,n,r,ho,hz⟩:=I.lst hp;obtain⟨h1,h2,h3,h4⟩:=vv hj;have hl:=r.length;have hn:=gO;have I':Inv X pins σ (upd H p (.lst (xs.set j v))) {s with heap:=s.heap.update p (Obj.mapSeq (·.setIfInBounds j u))}:=
  I.Kv hp ho (tX its n j u) (r.set rv j) (by rw[List.length_set];exact hz) s.toks
 by_cases h0:0<=k
 ·have hk:k.toNat=j:=by
   rw[seqIndex_of h0 h4]at h1;exact Option.some.inj h1
  exact PySem.W.ki_setAt ho h0 ⋯ (by rw[List.size_toArray,<- hl];exact h4) (by rw[hk];exact⟨_,I',q⟩)
 ·have hk:(k+(its.toArray.size:Int)).toNat=j:=by
   rw[seqIndex_neg ⋯ h3]at h1
   rw[List.size_toArray,<- hl];exact Option.some.inj h1
  exact PySem.W.ki_setBack ho ⋯ (by rw[List.size_toArray,<- hl];exact h3) ⋯ (by rw[hk];exact⟨_,I',q⟩)
theorem pA(lo hi:Option Int)(n:Nat):(sliceBounds lo hi none n).1=((HT.cu n 0 lo:Nat):Int)/\(sliceBounds lo hi none n).2.1=((HT.cu n n hi:Nat):Int)/\(sliceBounds lo hi none n).2.2=1:=by
 refine⟨?_,?_,rfl⟩
 ·cases lo with
  | none=>simp [sliceBounds,HT.cu]
  | some i =>
   simp only[sliceBounds,HT.cu,Option.getD_none,show(1:Int)>0 by decide,if_true]
   by_cases h:i<0
   ·simp only[h,if_true]<;>omega
   ·simp only[h,if_false]<;>omega
 ·cases hi with
  | none=>simp [sliceBounds,HT.cu]
  | some i =>
   simp only[sliceBounds,HT.cu,Option.getD_none,show(1:Int)>0 by decide,if_true]
   by_cases h:i<0
   ·simp only[h,if_true]<;>omega
   ·simp only[h,if_false]<;>omega
theorem mP(its:List Value)(lo hi:Option Int):slicePick its.toArray lo hi none=((its.drop (HT.cu its.length 0 lo)).take (HT.cu its.length its.length hi-HT.cu its.length 0 lo)).toArray:=by
 obtain⟨h1,h2,h3⟩:=pA lo hi its.toArray.size;unfold slicePick;rw[h1,h2,h3];simp only[sliceRange_one,pick_run,List.size_toArray]<;>rfl
def Xm(K:PySem.W.Frag):V->Option Int->Option Int->Hp->VK->Prop:=λx lo hi H Q=>∃a xs,x=.ref a/\e6 K H a xs/\∀p,H p=none->Q (.ref p) (upd H p (.lst (qm xs lo hi)))
theorem vR:yr X (Xm X.K):=by
 intro pins s σ H x v vl vu lo hi sl Q I rx hs pl pu h;obtain⟨a,xs,rfl,hx,q⟩:=h;cases rx;obtain⟨its,r,ht,hz⟩:=I.list hx;have hlen:=r.length;refine⟨"list",_,slot_list_getitem.lookup,ht.isList.typeIs,?_⟩;refine wpAny_getItem_list_slice ht.isList hs pl pu .none (by simp) ?_ (by rw[List.size_toArray]<;>omega)
 rw[mP,<- hlen];refine⟨.ref s.heap.objs.size,_,I.laid (t':=s.toks) (o:=.lst (qm xs lo hi)) (λb ob q=>Heap.get?_push_of_some _ q) (Nat.le_refl _) ?_,rfl,q _ (I.bU.fresh (Nat.le_refl _))⟩;exact⟨Nat.le_trans (jR xs lo hi) hz,_,0,(r.drop (HT.cu xs.length 0 lo)).take (HT.cu xs.length xs.length hi-HT.cu xs.length 0 lo),Heap.get?_push_size _ rfl⟩
theorem n8:cT X (.builtin "len") (λxs H Q=>∃p ys,xs=[.ref p]/\(e6 X.K H p ys\/gS X.K H p ys)/\Q (.int ys.length) H):=by
 intro pins s σ H xs us Q I r h;obtain⟨p,ys,rfl,hq,q⟩:=h;obtain⟨u,rfl,rx⟩:=vals1 r;cases rx;have hn:=gO;rcases hq with hq|hq
 ·obtain⟨its,r',pl,hz⟩:=I.list hq
  have hlen:=r'.length;exact Calls.call_len_list pl.isList (by simp only[List.size_toArray]<;>omega) ⟨.int ys.length,H,I.tok _,⟨s.toks+1,by rw[List.size_toArray,hlen]⟩,q⟩
 ·obtain⟨its,r',pl,hz⟩:=I.tuple hq
  have hlen:=r'.length;exact len_tuple pl (by simp only[List.size_toArray]<;>omega) ⟨.int ys.length,H,I.tok _,⟨s.toks+1,by rw[List.size_toArray,hlen]⟩,q⟩
theorem n9:cT X (.builtin "len") (λxs H Q=>∃z,xs=[.str z]/\z.length<=sizeLine/\Q (.int z.length) H):=by
 intro pins s σ H xs us Q I r h;obtain⟨z,rfl,hz,q⟩:=h;obtain⟨u,rfl,t,rfl⟩:=vals1 r;have hn:=gO;exact len_str ⋯ ⟨.int z.length,H,I.tok _,⟨_,rfl⟩,q⟩
theorem cT.or{f:Value}{r r':List V->Hp->VK->Prop}(h:cT X f r)(h':cT X f r'):cT X f (λxs H Q=>r xs H Q\/r' xs H Q):=by
 intro pins s σ H xs us Q I rs q;rcases q with q|q
 ·exact h pins s σ H xs us Q I rs q
 ·exact h' pins s σ H xs us Q I rs q
theorem og:cT X (.type "list") (λxs H Q=>∃p ys,xs=[.ref p]/\(e6 X.K H p ys\/gS X.K H p ys)/\∀l,H l=none->Q (.ref l) (upd H l (.lst ys))):=by
 intro pins s σ H xs us Q I r h;obtain⟨p,ys,rfl,hq,q⟩:=h;obtain⟨u,rfl,rx⟩:=vals1 r;cases rx;have fin:∀(its:List Value),Vals ys its->ys.length<=sizeLine->∀(h':Heap) (c':Nat),(∀b o',s.heap.get? b=some o'->h'.get? b=some o') ->
   h'.get? s.heap.objs.size=some {cls:=.type "list",dict:=none,data:=.seq its.toArray c',slots:=#[]}->EP X pins σ Q (.ref s.heap.objs.size) {s with heap:=h'}:=λits r' hz h' c' kp e =>
  ⟨.ref s.heap.objs.size,_,I.laid (t':=s.toks) kp (Nat.le_refl _) (show cv X.prog X.w _ h' _ (.lst ys)from⟨hz,its,c',r',e⟩),rfl,q _ (I.bU.fresh (Nat.le_refl _))⟩
 rcases hq with hq|hq
 ·obtain⟨its,r',pl,hz⟩:=I.list hq
  have hlen:=r'.length;obtain⟨o,ho,hc,n,hd⟩:=pl.isList;exact call_list_seq p (.inl rfl) ho hc hd (λh' c' kp e=>fin its r' hz h' c' kp e) (by simp only[List.size_toArray]<;>omega)
 ·obtain⟨its,r',pl,hz⟩:=I.tuple hq
  have hlen:=r'.length;obtain⟨o,ho,hc,n,hd⟩:=pl;exact call_list_seq p (.inr rfl) ho hc hd (λh' c' kp e=>fin its r' hz h' c' kp e) (by simp only[List.size_toArray]<;>omega)
theorem mJ:cT X (.type "tuple") (λxs H Q=>∃p ys,xs=[.ref p]/\((e6 X.K H p ys/\∀l,H l=none->Q (.ref l) (upd H l (.tup ys)))\/(gS X.K H p ys/\Q (.ref p) H))):=by
 intro pins s σ H xs us Q I r h;obtain⟨p,ys,rfl,h⟩:=h;obtain⟨u,rfl,rx⟩:=vals1 r;cases rx;rcases h with⟨hq,q⟩|⟨hq,q⟩
 ·obtain⟨its,r',pl,hz⟩:=I.list hq
  have hlen:=r'.length;refine call_tuple_list pl.isList (λh' kp=>?_) (by simp only[List.size_toArray]<;>omega)
  have I1:Inv X pins σ H {s with heap:=h'}:=I.kept (t':=s.toks) kp
  have I2:Inv X pins σ (upd H h'.objs.size (.tup ys)) {s with heap:=h'.push {cls:=.type "tuple",data:=.seq its.toArray}}:=
   I1.laid (t':=s.toks) (λb o e=>Heap.get?_push_of_some _ e) (Nat.le_refl _) (show cv X.prog X.w _ _ _ (.tup ys)from⟨hz,its,r',IsTup.new _ _⟩)
  exact⟨.ref h'.objs.size,_,I2,rfl,q _ (I1.bU.fresh (Nat.le_refl _))⟩
 ·obtain⟨its,r',pl,hz⟩:=I.tuple hq
  exact call_tuple_same pl ⟨.ref p,H,I,rfl,q⟩
def Za(K:PySem.W.Frag)(T:String)(x:V)(H:Hp):Prop:=match x with
 | .str _=>T="str"
 | .int _=>T="int"
 | .ref p=>(T="list"/\∃xs,e6 K H p xs)\/(T="tuple"/\∃o,K.lookup p=some o/\o.cls=.type "tuple"/\o.dict=none) \/
   (T="dict"/\((∃kvs,H p=some (.dK kvs))\/∃kvs,H p=some (.dT kvs)))\/(T="set"/\∃S n,H p=some (.set S n))
 | _=>False
theorem Oa{pins:List (Addr×Obj)}{σ:St}{H:Hp}{s:Shared}{T:String}{x:V}{v:Value}(I:Inv X pins σ H s)(r:RelV x v)(ty:Za X.K T x H):
  s.TypeIs v T/\∀a,v=.ref a->∃ob,s.heap.get? a=some ob/\ob.dict=none:=by
 cases x with
 | str z =>
  obtain⟨t,rfl⟩:=r;cases(show T="str" from ty)
  exact⟨typeIs_str s z t,λ_ e=>nomatch e⟩
 | int i =>
  obtain⟨t,rfl⟩:=r;cases(show T="int" from ty)
  exact⟨typeIs_int s i t,λ_ e=>nomatch e⟩
 | ref p =>
  cases r;rcases ty with⟨rfl,xs,hq⟩|⟨rfl,o,hk,hc,hd⟩|⟨rfl,hk⟩|⟨rfl,S,n,hk⟩
  ·obtain⟨its,_,pl,_⟩:=I.list hq
   refine⟨pl.isList.typeIs,λa e=>?_⟩;cases e;obtain⟨o,n,e,c,hd,_⟩:=pl;exact⟨o,e,hd⟩
  ·refine⟨⟨o,I.OC p o hk,hc⟩,λa e=>?_⟩
   cases e;exact⟨o,I.OC _ o hk,hd⟩
  ·have z:∃o,s.heap.get? p=some o/\o.ExactDict:=by
    rcases hk with⟨kvs,hk⟩|⟨kvs,hk⟩
    ·obtain⟨_,_,_,_,o,_,_,e,ex,_⟩:=I.bU p _ hk
     exact⟨o,e,ex⟩
    ·obtain⟨_,_,_,_,o,_,_,e,ex,_⟩:=I.bU p _ hk
     exact⟨o,e,ex⟩
   obtain⟨o,e,ex⟩:=z;refine⟨⟨o,e,ex.1⟩,λa e2=>?_⟩;cases e2;exact⟨o,e,ex.2.1⟩
  ·obtain⟨o,_,_,_,e,ex,_⟩:=I.bU p _ hk
   refine⟨⟨o,e,ex.1⟩,λa e2=>?_⟩;cases e2;exact⟨o,e,ex.2.1⟩
 | _=>exact False.elim ty
def tBM(K:PySem.W.Frag)(T:String)(r:V->List V->Hp->VK->Prop)(to:TE)(t:TA):TE:=λσ H Q=>to σ H λx H1=>Za K T x H1/\t σ H1 λxs H2=>r x xs H2 Q
variable {o e:Expr}{es:List Expr}{to:TE}{t:TA}{name:Str}{apos gJ:Pos}{T id:String}{r:V->List V->Hp->VK->Prop}
theorem Ti(pa:PlainAttrs T)(slot:Slot T name id)(hty:typeOf (.builtin id)=pure (.type "method_descriptor"))(hm:Zk X id r)(ho:PE X o to)(ha:PA X (e::es) t)
  (Rb:attributeBase o name X.env (eval o X.env)=eval o X.env:=by rfl)
  (Jz:((backTo gJ (starEach (e::es) X.env)).all (λx=>!x.1)&&(backToKw gJ (keywordEach [] X.env)).all (λx=>x.1.isSome)
  &&decide ((e::es).length+([]:List Keyword).length+(if([]:List Keyword).isEmpty then 0 else 1)<30))=true:=by rfl)
  (hline:(apos.endLine==gJ.line)=true:=by rfl) (hs:starEach (e::es) X.env=(false,eval e X.env)::starEach es X.env:=by rfl) (JI:(backTo gJ (starEach es X.env)).any (·.1)=false:=by rfl):
  PE X (.Call (.Attribute o name apos) (e::es) [] gJ) (tBM X.K T r to t):=by
 intro pins s σ H Q I h;refine wpAny_Call_method_late Rb Jz hline rfl (b8 (ho pins s σ H _ I h) λv s1 ⟨x,H1,I1,r1,ty,q1⟩=>?_);obtain⟨h1,h2⟩:=Oa I1 r1 ty;refine⟨T,id,pa,slot,hty,h1,h2,?_⟩;have hA:=ha gJ pins s1 σ H1 _ I1 q1;rw[hs]at hA ⊢;refine Calls.callWith_builtin (by show(false||(backTo gJ (starEach es X.env)).any (·.1))=false;rw[JI]<;>rfl) (Calls.evalArgs_plain ?_)
 exact b8 hA λus s2 ⟨vs,H2,I2,r2,q2⟩=>hm pins s2 σ H2 x vs v us Q I2 r1 r2 q2
end
end L2
namespace L2
open PySem PySem.Spec PyProof.Rows
def Zj(X:Cx)(id:String)(r:V->List V->Hp->VK->Prop):Prop:=
 ∀(pins:List (Addr×Obj)) (s:Shared) (σ:St) (H:Hp) (x:V) (xs:List V) (v:Value) (us:List Value) (Q:VK),Inv X pins σ H s->RelV x v->Vals xs us->r x xs H Q ->
  wpAny (model X.prog X.w) X.A (call (.builtin id) (v::us)) (EP X pins σ Q) X.xe s
theorem Vals.one:∀ {x:V} {us:List Value},Vals [x] us->∃u,us=[u]/\RelV x u
 | _,_,.cons r .nil=>⟨_,rfl,r⟩
theorem Vals.reverse{xs:List V}{us:List Value}(h:Vals xs us):Vals xs.reverse us.reverse:=by
 induction h with
 | nil=>exact .nil
 | cons r t ih=>rw[List.reverse_cons,List.reverse_cons];exact Vals.append ih (.cons r .nil)
theorem Vals.rep{xs:List V}{us:List Value}(h:Vals xs us):∀k:Nat,Vals (List.replicate k xs).flatten (List.replicate k us).flatten
 | 0=>.nil
 | k+1=>by
  rw[List.replicate_succ,List.replicate_succ,List.flatten_cons,List.flatten_cons];exact Vals.append h (Vals.rep h k)
theorem foldl_rep(its:List Value):∀(k:Nat) (acc:List Value),
  List.foldl (λx1 x2=>x1++x2) acc.toArray (List.replicate k its.toArray)=(acc++(List.replicate k its).flatten).toArray
 | 0,acc=>by simp
 | k+1,acc=>by
  have e:acc.toArray++its.toArray=(acc++its).toArray:=by simp
  have e2:(acc++its)++(List.replicate k its).flatten=acc++(List.replicate (k+1) its).flatten:=by
   rw[List.replicate_succ,List.flatten_cons,List.append_assoc]
  rw[<- e2,<- foldl_rep its k (acc++its),<- e,List.replicate_succ,List.foldl_cons]
section
variable {X:Cx}{pins:List (Addr×Obj)}{σ:St}{H:Hp}{s:Shared}{l b:Addr}{xs ys zs:List V}
theorem Inv.Xc{its its':List Value}{n:Nat}{f:Array Value->Array Value}{t':Nat}(I:Inv X pins σ H s)(hH:H l=some (.lst xs))
  (e:s.heap.get? l=some {cls:=.type "list",data:=.seq its.toArray n}) (hf:f its.toArray=its'.toArray) (hv:Vals ys its') (hz:ys.length<=sizeLine):
  Inv X pins σ (upd H l (.lst ys)) {s with heap:=s.heap.update l (Obj.mapSeq f),toks:=t'}:=by
 have q:=PySem.IsL.update e f;rw[hf]at q;refine I.write (x:=l) (e:=l) (by rw[hH];exact trivial) (.inl rfl) (λb' u hb hu=>(Heap.get?_update_other s.heap (Obj.mapSeq f) (Ne.symm hb)).trans hu) ⟨_,q⟩ ?_
 exact⟨hz,its',_,hv,q⟩
theorem Inv.Ku{its:List Value}{t':Nat}(I:Inv X pins σ H s)(hv:Vals ys its)(hz:ys.length<=sizeLine):
  Inv X pins σ (upd H s.heap.objs.size (.lst ys)) {s with heap:=s.heap.push {cls:=.type "list",data:=.seq its.toArray},toks:=t'}:=
 I.laid (λ_ _ q=>Heap.get?_push_of_some _ q) (Nat.le_refl _) ⟨hz,its,0,hv,Heap.get?_push_size _ rfl⟩
theorem Inv.fresh(I:Inv X pins σ H s):H s.heap.objs.size=none:=I.bU.fresh (Nat.le_refl _)
theorem Inv.Si(I:Inv X pins σ H s)(hH:H l=some (.lst xs)):xs.length<=sizeLine/\∃(its:List Value) (n:Nat),Vals xs its/\xs.length=its.length/\s.heap.get? l=some {cls:=.type "list",data:=.seq its.toArray n}:=by
 obtain⟨z,its,n,r,e⟩:=I.bU l _ hH;exact⟨z,its,n,r,r.length,e⟩
theorem A8{n:Nat}(h:n<=sizeLine):Builtin.List.listTooLong n=false:=by
 unfold Builtin.List.listTooLong;exact decide_eq_false ⋯
end
section
variable {X:Cx}
def Ez:V->List V->Hp->VK->Prop:=λx vs H Q=>∃l xs y,x=.ref l/\vs=[y]/\H l=some (.lst xs)/\xs.length<sizeLine/\Q .bC (upd H l (.lst (xs++[y])))
theorem nB:Zj X "list.append" Ez:=by
 intro pins s σ H x vs v us Q I rx rv h;obtain⟨l,xs,y,rfl,rfl,hH,hz,q⟩:=h;cases rx;obtain⟨u,rfl,ru⟩:=rv.one;obtain⟨z,its,n,r,hl,e⟩:=I.Si hH;refine call_meets F.slot_list_append ⟨_,e,rfl⟩ F.entry_list_append (F.args_list_append_2 _ _) (PySem.list_append l its.toArray n u (by rw[List.size_toArray];omega)) ⟨e,?_⟩
 refine⟨.bC,_,I.Xc (its':=its++[u]) hH e (by simp) (r.append (.cons ru .nil)) ?_,rfl,q⟩
 rw[List.length_append,List.length_singleton];omega
theorem len_rep{α:Type}(xs:List α)(k:Nat):(List.replicate k xs).flatten.length=k*xs.length:=by
 induction k with
 | zero=>simp
 | succ k ih=>rw[List.replicate_succ,List.flatten_cons,List.length_append,ih,Nat.succ_mul,Nat.add_comm]
end
end L2
namespace XW
open PySem PySem.W PySem.Calls PyProof.Rows
theorem ko{P:Params}{h:Heap}:∀(ns:List Int) (vs:List Value),WellAll P h vs (ns.map WData.int)->IntsAre vs ns:=by
 intro ns
 induction ns with
 | nil =>
  intro vs w;rw[List.map_nil]at w;cases w;exact .nil
 | cons n ns ih =>
  intro vs w;rw[List.map_cons]at w;cases w with
  | cons a b =>
   cases a;exact .cons _ _ (ih _ b)
theorem xB{l:OpenLaw}{n:Nat}(hn:l.most=some n){P:Params}{h:Heap}{args:List WData}{vals:List Value}
  (wQ:l.row.toRowW.claim.pre args=true) (RG:WellAll P h vals args):
  ∃a vs ns,vals=[Value.ref a]/\args=[WData.list (ns.map WData.int)]/\h.get? a=some {cls:=.type "list",data:=.seq vs.toArray}/\IntsAre vs ns/\ns.length<=n:=by
 have hsh:WShape.hasAll [] args [.list .int]=true:=(pre_splitW wQ).1;have hc:l.pre.holds [] {args:=args}=true:=(pre_splitW wQ).2;obtain⟨d,r,rfl,h1,h2⟩:=hasAllW_cons hsh;obtain rfl:=hasAllW_nil h2;obtain⟨xs,rfl,h3⟩:=hasW_list h1;obtain⟨ns,rfl⟩:=items_int h3;have hlen:ns.length<=n:=by
  unfold OpenLaw.pre at hc;have h4:(WTm.not (.lt (.lit (.int (n:Int))) (.len (.arg 0)))).holds [] {args:=[.list (ns.map .int)]}=true:=by
   have h4:=(holds_andW hc).1;rw[hn]at h4;exact h4
  have h5:=condW_of h4 (w_not (w_lt w_lit (w_len_list (w_arg rfl))));rw[List.length_map]at h5;refine Nat.le_of_not_lt λq=>?_;have q':(n:Int)<((ns.length:Nat):Int):=by omega
  first
   | (rw[decide_eq_true q']at h5;exact absurd h5 ∅)
   | (simp at h5;omega)
 cases RG with
 | cons w1 w2 =>
  cases w2;cases w1 with
  | list ho fh=>exact⟨_,_,ns,rfl,rfl,ho,ko ns _ fh,hlen⟩
theorem xt(l:OpenLaw)(args:List WData):l.row.toRowW.claim.post args (.bool true) args=true:=
 postW_of (r:=l.row.toRowW) (X:=(true==true))
  (show WShape.has [] (.bool true) .bool=true by first|rfl|decide|simp [WShape.has,WShape.arms,WShape.armsAll])
  (show(WTm.eq .res (.lit (.bool true))).value [] {args:=args,res:=some (.bool true),after:=args}=some (.bool (true==true))from w_eq_bool (w_res rfl) w_lit) rfl
theorem qg{l:OpenLaw}{n:Nat}{q:Program}{loose:List Str}{XP:(Str->Option Value)->Heap->Prop}{YP:World->Heap->Prop}{d:DefRec}
  (hn:l.most=some n) (Rf:d.params.defaults=[])
  (call:∀(w:World) (cS bA:Shared) (mg mb:Str->Option Value) (fa:Addr) (o:Obj) (pm cd doc:Value) (a:Addr) (vs:List Value) (ns:List Int),
   Ground q loose [] XP w cS mg mb bA.heap->YP w bA.heap ->
   bA.heap.get? fa=some o->o.data=.func (docDef d.name d.params d.body d.scope pm cd doc)->bA.heap.CodeRec cd d.name->mg d.name=some (.ref fa) ->
   bA.heap.get? a=some {cls:=.type "list",data:=.seq vs.toArray}->IntsAre vs ns->ns.length<=n->bA.gens=#[] ->
   codeAny (model l.prog w) callerA (.call (.ref fa) ⟨[.ref a],[]⟩) (λr s'=>r=.ok (.ret (.bool true))/\OldK bA.heap s'.heap/\s'.os=bA.os/\AllBare s'.gens) bA):
  WalkO q loose XP YP l.row.toRowW d [] (λf vs=>PySem.call f vs):=by
 intro w cS bA mg mb G Y fa o pm cd doc dV kV ho hd qT hD hmg hg args vals as wQ Rx U1 RG vm;obtain rfl:dV=.none:=Dflts.none hD Rf;obtain rfl:kV=.none:=Dflts.noKw hD;obtain⟨a,vs,ns,rfl,rfl,JH,hints,hlen⟩:=xB hn wQ RG;refine enter_call (codeAny_mono (call w cS bA mg mb fa o pm cd doc a vs ns G Y ho (fd_plain hd) qT hmg JH hints hlen hg) λr s' hq=>?_);obtain⟨rfl,h2,h3,h4⟩:=hq;exact⟨.inl ⟨.bool true,.bool true,[],rfl,λ_=>rfl,.bool true,xt l _,λ_=>⟨List.Pairwise.nil,λ_ hm=>(nomatch hm)⟩⟩,h2,h3,h4⟩
end XW
namespace L2
open PySem PySem.Spec PyProof.Rows
theorem eI:∀ {vs:List Value} {ns:List Int},IntsAre vs ns->Vals (ns.map V.int) vs
 | _,_,.nil=>.nil
 | _,_,.cons n t h=>.cons ⟨t,rfl⟩ (eI h)
def Only(H:Hp):Prop:=∀b,H b=none\/∃o xs,H b=some (.wI o (.lst xs))
theorem A0{P:Program}{w:World}{K:PySem.W.Frag}{mg mb:Str->Option Value}{CX:wj}{k:Nat}{fa a:Addr}{fd:FuncData}{x:Str}{sp:Sp}{bA:Shared}{vs:List Value}{ns:List Int}
  (KX:K.In bA.heap) (Wn:bA.heap.Ns mainGlobals mg) (hb:bA.heap.Ns builtinsNs mb) (ZE:∀x:Str,x≠"__name__"->mb x=bootBuiltins x) (Wi:bA.heap.NoLimit) (hg:bA.gens=#[])
  (ha:bA.heap.get? a=some {cls:=.type "list",data:=.seq vs.toArray}) (hi:IntsAre vs ns) (hl:ns.length<=sizeLine) (hr:gd k callerA)
  (F:∀base:Heap,K.In base->base.Ns mainGlobals mg->d9 P w K mg base CX k fa fd [x] sp) (Rc:∀(s:Shared) (u:Value),BindsTo s fd ⟨[u],[]⟩ [(x,u)])
  (Gp:∀H:Hp,Only H->e6 K H a (ns.map V.int)->sp [.ref a] H (λv _=>v=.bl true) λ_ _ _=>False)
  (VW:∀H e s',CX [] H bA (λ_ _ _=>False) e s'->False):
  codeAny (model P w) callerA (.call (.ref fa) ⟨[.ref a],[]⟩) (λr s'=>r=.ok (.ret (.bool true))/\OldK bA.heap s'.heap/\s'.os=bA.os/\AllBare s'.gens) bA:=by
 have rv:=eI hi;have W6:=hi.length
 -- from an abstract heap in which nothing but the script may be tracked
 have core:∀H:Hp,Only H->e6 K H a (ns.map V.int)->gn P w H bA.heap->(∀b,H b≠none->b=a)->(H a≠none->K.lookup a=none) ->
   codeAny (model P w) callerA (.call (.ref fa) ⟨[.ref a],[]⟩) (λr s'=>r=.ok (.ret (.bool true))/\OldK bA.heap s'.heap/\s'.os=bA.os/\AllBare s'.gens) bA:=by
  intro H hO hS bU hA hK;have uT:∀ {b:Addr} {o:Obj},bA.heap.get? b=some o->H b=none->(oG bA.heap H).get? b=some o:=λe n=>Ay e n;have Sr:∀ {b:Addr} {o:Obj} {es:Array DictEntry} {ep:Nat},bA.heap.get? b=some o->o.data=.dict es ep->H b=none:=λ{b o es ep} e d=>by
   cases q:H b with
   | none=>rfl
   | some u =>
    have e':b=a:=hA b (by rw[q];simp)
    subst e';rw[ha]at e;cases e;have d':Data.seq vs.toArray _=Data.dict es ep:=d;cases d'
  have U6:∀ {b:Addr} {m:Str->Option Value},bA.heap.Ns b m->(oG bA.heap H).Ns b m:=λ{b m} ⟨o,es,ep,e,d,r⟩=>⟨o,es,ep,uT e (Sr e d),d,r⟩;have X7:K.In (oG bA.heap H):=λb o e=>uT (KX b o e) (by
   cases q:H b with
   | none=>rfl
   | some u =>
    have e':b=a:=hA b (by rw[q];simp)
    subst e';rw[hK (by rw[q];simp)]at e;cases e)
  have hM:Mod K mg (oG bA.heap H):=⟨X7,U6 Wn,⟨mb,U6 hb,ZE⟩,let ⟨mc,h1,h2⟩:=Wi;⟨mc,U6 h1,h2⟩⟩;have e0:Dg P w K mg (oG bA.heap H) callerA [] bA H:=⟨rfl,hM,λb o e=>D6 e,Nat.le_of_eq (wM _ _),trivial,λb hb=>absurd (show b∈([]:List Addr)from hb) (by simp),bU,.of_eq hg⟩
  refine codeAny_mono ((F _ X7 (U6 Wn)).run callerA [] bA H ⟨[.ref a],[]⟩ [.ref a] [.ref a] _ _ hr e0 (Rc bA (.ref a)) (.cons rfl .nil) (Gp H hO hS)) λr s' h=>?_;cases r with
  | error e=>exact(VW H e s' h).elim
  | ok fl =>
   cases fl with
   | next=>exact False.elim h
   | brk=>exact False.elim h
   | cont=>exact False.elim h
   | ret u =>
    obtain⟨v,H',os,bare,un,Wq,r',q⟩:=h;have q':v=.bl true:=q;subst q';obtain rfl:u=Value.bool true:=r';refine⟨rfl,OldK.of_keep λb o e=>?_,os,bare⟩;cases q:H b with
    | none=>exact un.keep b o e q (by intro z;exact absurd (show b∈([]:List Addr)from z) (by simp)) (by simp)
    | some u =>
     rcases hO b with z|⟨ob,xs,z⟩
     ·rw[q]at z;cases z
     ·have z2:=un.oE b ob _ z
      obtain⟨e1,_⟩:=bU b _ z;obtain⟨e2,_⟩:=Wq b _ z2;rw[e]at e1;cases e1;exact e2
 cases hk:K.lookup a with
 | some o =>
  -- the script is one of the module's own objects
  have e:=KX a o hk;rw[ha]at e;cases e;refine core (λ_=>none) (λ_=>.inl rfl) (.inr ⟨_,vs.toArray,_,hk,rfl,rfl,rfl,by rw[List.size_toArray,W6];exact hl,by simpa using rv⟩) (λb u z=>by have z':(none:Option HO)=some u:=z;cases z') (λb z=>absurd rfl z) λz=>absurd rfl z
 | none =>
  refine core (λb=>if b=a then some (.wI {cls:=.type "list",data:=.seq vs.toArray} (.lst (ns.map V.int)))else none) (λb=>?_) (.inl (.inr ⟨{cls:=.type "list",data:=.seq vs.toArray},if_pos rfl⟩)) (λb u z=>?_) (λb z=>?_) λ_=>hk
  ·by_cases hb:b=a
   ·exact .inr ⟨_,_,if_pos hb⟩
   ·exact .inl (if_neg hb)
  ·by_cases hb:b=a
   ·have z':=(if_pos hb).symm.trans z
    cases z';subst hb;exact⟨ha,by rw[List.length_map];exact hl,vs,_,rv,ha⟩
   ·have z':=(if_neg hb).symm.trans z
    cases z'
  ·by_cases hb:b=a
   ·exact hb
   ·exact absurd (if_neg hb) z
end L2
namespace L2
open PySem PySem.Spec PyProof.Rows
theorem E8{l:PySem.W.OpenLaw}{n k:Nat}{q:Program}{loose:List Str}{XP:(Str->Option Value)->Heap->Prop}{YP:World->Heap->Prop}{d:DefRec}{K:Params->PySem.W.Frag}{CX:World->wj}{sp:World->Sp}{x:Str}
  (hn:l.most=some n) (UZ:n<=sizeLine) (Rf:d.params.defaults=[]) (hr:gd k callerA)
  (hY:∀(w:World) (h:Heap),YP w h->(K w.params).In h)
  (F:∀(w:World) (mg:Str->Option Value) (fa:Addr) (h:Heap),(K w.params).In h->h.Ns mainGlobals mg->mg d.name=some (.ref fa) ->
   ∃fd:FuncData,(∀(s:Shared) (u:Value),BindsTo s fd ⟨[u],[]⟩ [(x,u)]) /\
    ∀base:Heap,(K w.params).In base->base.Ns mainGlobals mg->d9 l.prog w (K w.params) mg base (CX w) k fa fd [x] (sp w))
  (Gp:∀(w:World) (H:Hp) (a:Addr) (ns:List Int),ns.length<=n->Only H->e6 (K w.params) H a (ns.map V.int)->sp w [.ref a] H (λv _=>v=.bl true) λ_ _ _=>False)
  (VW:∀(w:World) (H:Hp) (s:Shared) (e:Value) (s':Shared),CX w [] H s (λ_ _ _=>False) e s'->False):
  PySem.W.WalkO q loose XP YP l.row.toRowW d [] (λf vs=>PySem.call f vs):=by
 refine XW.qg hn Rf λw cS bA mg mb fa o pm cd doc a vs ns G Y ho hd qT hmg JH hints hlen hg=>?_;have KX:=hY w _ Y;obtain⟨fd,hb,hF⟩:=F w mg fa _ KX G.T.g hmg;exact A0 KX G.T.g G.T.b G.T.builtins G.T.nolimit hg JH hints (Nat.le_trans hlen UZ) hr hF hb (λH hO hS=>Gp w H a ns hlen hO hS) λH e s'=>VW w H bA e s'
end L2
namespace L2
open PySem PySem.Spec PyProof.Rows
def aO(s:Stmt):Arguments:=match s with
 | .FunctionDef _ a _ _ _ _ _ _ _ _=>a
 | _=>{posonlyargs:=[],args:=[],vararg:=none,kwonlyargs:=[],kw_defaults:=[],kwarg:=none,defaults:=[]}
def av(s:Stmt):List Stmt:=match s with
 | .FunctionDef _ _ b _ _ _ _ _ _ _=>b
 | _=>[]
def ai(s:Stmt):Scope:=match s with
 | .FunctionDef _ _ _ _ _ _ sc _ _ _=>sc
 | _=>{kind:=.function,names:=[],isGenerator:=false,isCoroutine:=false}
abbrev sW:wj:=λ_ _ _ _ _ _=>False
abbrev E0:XK:=λ_ _ _=>False
theorem Gz{X:Cx}:Passes sW X E0:=λ_ _ _ _ _ _ _ h=>h.elim
structure FQ(K:PySem.W.Frag)(x qual:Str)(st:Stmt)(f:Addr)(fd:FuncData):Prop where
 ex:∃(oc:Value) (od:Option Addr) (kV doc pm:Value) (an:Option Addr) (jb ct:Value) (Gy:Array (Option Value)),
  fd=PySem.W.fnOf x qual (aO st) (av st) (ai st) .none kV doc pm an jb ct/\K.lookup f=some ⟨oc,od,.func fd,Gy⟩/\PySem.W.codeIn K jb qual=true
 kp:PySem.W.keepIn K (.ref f)=true
section
variable {P:Program}{w:World}{K:PySem.W.Frag}{mg:Str->Option Value}{base:Heap}
theorem FQ.ok{x qual:Str}{st:Stmt}{f:Addr}{fd:FuncData}{N ps:List Str}{k:Nat}{sp:Sp}(F:FQ K x qual st f fd)(S:aL N ps (ai st))(len:∀vs H Q E,sp vs H Q E->vs.length=ps.length)
  (Aw:∀(jb:Value) (A:Around) (outer:List Env) (s:Shared) (H:Hp) (vs:List V) (Q:VK) (E:XK),gd k (A.deeper (envOfC qual (ai st) s.heap.objs.size f jb))->sp vs H Q E ->
   ∃t,p9 (qp sW P w K mg base N qual (ai st) f jb A outer s H E).OH (av st) t/\t {nx:=λ_ H'=>Q .bC H',rt:=Q} (start N vs) H):d9 P w K mg base sW (k+1) f fd ps sp:=by
 obtain⟨oc,od,kV,doc,pm,an,jb,ct,Gy,rfl,lk,qT⟩:=F.ex;refine QU lk qT S len λA outer s H vs Q E hr Gp=>?_;obtain⟨t,h,q⟩:=Aw jb A outer s H vs Q E hr Gp;exact⟨t,h.OH,q⟩
theorem FQ.binds{x qual:Str}{st:Stmt}{f:Addr}{fd:FuncData}{ps:List Str}(F:FQ K x qual st f fd)
  (h:∀(kV doc pm:Value) (an:Option Addr) (jb ct:Value) (us:List Value),us.length=ps.length->bindArgs (PySem.W.fnOf x qual (aO st) (av st) (ai st) .none kV doc pm an jb ct) ⟨us,[]⟩=pure (ps.zip us)):Binds K fd ps []:=by
 obtain⟨oc,od,kV,doc,pm,an,jb,ct,Gy,rfl,lk,qT⟩:=F.ex;exact .all (h kV doc pm an jb ct)
theorem bu{x qual:Str}{st:Stmt}{f:Addr}{oc:Value}{od an:Option Addr}{Gy:Array (Option Value)}{kV doc pm jb ct:Value}(l:K.lookup f=some ⟨oc,od,.func (PySem.W.fnOf x qual (aO st) (av st) (ai st) .none kV doc pm an jb ct),Gy⟩)
  (c:PySem.W.codeIn K jb qual=true) (k:PySem.W.keepIn K (.ref f)=true):FQ K x qual st f (PySem.W.fnOf x qual (aO st) (av st) (ai st) .none kV doc pm an jb ct):=⟨⟨oc,od,kV,doc,pm,an,jb,ct,Gy,rfl,l,c⟩,k⟩
end
def aA(H H':Hp):Prop:=∀b o,H b=some o->H' b=some o
theorem aA.refl(H:Hp):aA H H:=λ_ _ h=>h
theorem aA.trans{H H1 H2:Hp}(a:aA H H1)(b:aA H1 H2):aA H H2:=λc o h=>b c o (a c o h)
theorem aA.free{H H':Hp}(e:aA H H'){l:Addr}(h:H' l=Option.none):H l=Option.none:=by
 cases q:H l with
 | none=>rfl
 | some o =>
  rw[e l o q]at h;cases h
theorem aA.seq{K:PySem.W.Frag}{H H':Hp}{a:Addr}{xs:List V}(e:aA H H')(h:e6 K H a xs):e6 K H' a xs:=by
 rcases h with(h|⟨o,h⟩)|h
 ·exact .inl (.inl (e _ _ h))
 ·exact .inl (.inr ⟨o,e _ _ h⟩)
 ·exact .inr h
end L2
namespace L2
open PySem PySem.Spec PyProof.Rows
section
variable {κ:Type}[DecidableEq κ]
def fI(kvs:List (κ×V))(k:κ):Option V:=(kvs.find? λkv=>decide (kv.1=k)).map (·.2)
def putK(kvs:List (κ×V))(k:κ)(v:V):List (κ×V):=
 if(kvs.any λkv=>decide (kv.1=k))=true then kvs.map (λkv=>if kv.1=k then(kv.1,v)else kv)else kvs++[(k,v)]
theorem my{p:κ×V}{r:List (κ×V)}{k:κ}(e:p.1=k):fI (p::r) k=some p.2:=by simp [fI,List.find?_cons,e]
theorem mx{p:κ×V}{r:List (κ×V)}{k:κ}(e:¬p.1=k):fI (p::r) k=fI r k:=by simp [fI,List.find?_cons,e]
theorem sv(k:κ):∀kvs:List (κ×V),(kvs.any λkv=>decide (kv.1=k))=(fI kvs k).isSome
 | []=>rfl
 | p::r=>by
  rw[List.any_cons]
  by_cases e:p.1=k
  ·simp only[my e,decide_eq_true e,Bool.true_or,Option.isSome_some]
  ·rw[mx e,decide_eq_false e,Bool.false_or];exact sv k r
theorem jZ(kvs:List (κ×V))(k:κ)(v:V):(putK kvs k v).length<=kvs.length+1:=by
 unfold putK
 split
 ·rw[List.length_map];omega
 ·rw[List.length_append,List.length_cons,List.length_nil];omega
theorem wk.jn{o:Option V}{u:Option Value}(r:wk o u):o.isSome=u.isSome:=by
 cases o with
 | none=>cases u with
  | none=>rfl
  | some _=>exact(show False from r).elim
 | some _=>cases u with
  | none=>exact(show False from r).elim
  | some _=>rfl
theorem KV.val{kvs:List (κ×V)}{vs:List (κ×Value)}(r:KV kvs vs)(k:κ):wk (fI kvs k) (valueAt vs k):=by
 unfold KV at r
 induction r with
 | nil=>exact True.intro
 | @cons p q ps qs h t ih =>
  obtain⟨h1,h2⟩:=h
  by_cases e:p.1=k
  ·have e':q.1=k:=h1.symm.trans e
   have b:valueAt (q::qs) k=some q.2:=by simp [valueAt,List.find?_cons,e']
   rw[my e,b];exact h2
  ·have e':¬q.1=k:=λz=>e (h1.trans z)
   have b:valueAt (q::qs) k=valueAt qs k:=by simp [valueAt,List.find?_cons,e']
   rw[mx e,b];exact ih
theorem KV.any{kvs:List (κ×V)}{vs:List (κ×Value)}(r:KV kvs vs)(k:κ):(kvs.any λkv=>decide (kv.1=k))=vs.any λkv=>decide (kv.1=k):=by
 unfold KV at r
 induction r with
 | nil=>rfl
 | cons h t ih=>rw[List.any_cons,List.any_cons,ih,h.1]
theorem KV.repl{kvs:List (κ×V)}{vs:List (κ×Value)}(r:KV kvs vs)(k:κ){y:V}{u:Value}(ry:RelV y u):
  KV (kvs.map λkv=>if kv.1=k then(kv.1,y)else kv) (vs.map λkv=>if kv.1=k then(kv.1,u)else kv):=by
 unfold KV at r ⊢
 induction r with
 | nil=>exact .nil
 | @cons p q ps qs h t ih =>
  rw[List.map_cons,List.map_cons];refine .cons ?_ ih;obtain⟨h1,h2⟩:=h
  by_cases e:p.1=k
  ·rw[if_pos e,if_pos (h1.symm.trans e)];exact⟨h1,ry⟩
  ·rw[if_neg e,if_neg (λz=>e (h1.trans z))];exact⟨h1,h2⟩
theorem KV.put{kvs:List (κ×V)}{vs:List (κ×Value)}(r:KV kvs vs)(k:κ){y:V}{u:Value}(ry:RelV y u):KV (putK kvs k y) (stored vs k u):=by
 unfold putK stored;rw[r.any k]
 by_cases e:(vs.any λkv=>decide (kv.1=k))=true
 ·rw[if_pos e,if_pos e];exact r.repl k ry
 ·rw[if_neg e,if_neg e];exact Paired.snoc r ⟨rfl,ry⟩
theorem KV.length{kvs:List (κ×V)}{vs:List (κ×Value)}(r:KV kvs vs):kvs.length=vs.length:=Paired.length r
end
theorem AW{P:Program}{w:World}{k:Key}{u:Value}(r:RelV (kV k) u):(cn P w).is k u=true:=by
 cases k with
 | inl i=>obtain⟨t,e⟩:=(show∃t,u=Value.int i t from r);subst e;exact rp P w i t
 | inr x=>obtain⟨t,e⟩:=(show∃t,u=Value.str x t from r);subst e;exact rq P w x t
theorem nv{P:Program}{w:World}:∀ {ks:List Key} {us:List Value},Vals (ks.map kV) us->ItemsAre (cn P w) ks us
 | [],_,r=>by rw[List.map_nil]at r;cases r;exact .nil
 | k::ks,_,r=>by
  rw[List.map_cons]at r;cases r with
  | cons h t=>exact .cons (AW h) (nv t)
abbrev KT(H:Hp):List (List Key×V)->List (List Key×Addr×Value)->Prop:=Paired λp q=>p.1=q.1/\H q.2.1=some (.tup (p.1.map kV))/\RelV p.2 q.2.2
theorem KT.val{H:Hp}{kvs:List (List Key×V)}{xs:List (List Key×Addr×Value)}(r:KT H kvs xs)(k:List Key):wk (fI kvs k) ((atKey xs k).map (·.2)):=by
 induction r with
 | nil=>exact True.intro
 | @cons p q ps qs h t ih =>
  obtain⟨h1,_,h2⟩:=h
  by_cases e:p.1=k
  ·have e':q.1=k:=h1.symm.trans e
   have b:atKey (q::qs) k=some q.2:=by simp [atKey,List.find?_cons,e']
   rw[my e,b];exact h2
  ·have e':¬q.1=k:=λz=>e (h1.trans z)
   have b:atKey (q::qs) k=atKey qs k:=by simp [atKey,List.find?_cons,e']
   rw[mx e,b];exact ih
theorem KT.repl{H:Hp}{kvs:List (List Key×V)}{xs:List (List Key×Addr×Value)}(r:KT H kvs xs)(k:List Key){y:V}{u:Value}(ry:RelV y u):
  KT H (kvs.map λkv=>if kv.1=k then(kv.1,y)else kv) (xs.map (putAt k u)):=by
 induction r with
 | nil=>exact .nil
 | @cons p q ps qs h t ih =>
  rw[List.map_cons,List.map_cons];refine .cons ?_ ih;obtain⟨h1,h2,h3⟩:=h;unfold putAt
  by_cases e:p.1=k
  ·rw[if_pos e,if_pos (h1.symm.trans e)];exact⟨h1,h2,ry⟩
  ·rw[if_neg e,if_neg (λz=>e (h1.trans z))];exact⟨h1,h2,h3⟩
theorem KT.put{H:Hp}{kvs:List (List Key×V)}{xs:List (List Key×Addr×Value)}(r:KT H kvs xs)(k:List Key){b:Addr}{y:V}{u:Value}(hb:H b=some (.tup (k.map kV)))(ry:RelV y u):
  KT H (putK kvs k y) (storedH xs k b u):=by
 have e:(kvs.any λkv=>decide (kv.1=k))=(atKey xs k).isSome:=by
  rw[sv,(r.val k).jn,Option.isSome_map]
 unfold putK storedH;rw[e]
 by_cases q:(atKey xs k).isSome=true
 ·rw[if_pos q,if_pos q];exact r.repl k ry
 ·rw[if_neg q,if_neg q];exact Paired.snoc r ⟨rfl,hb,ry⟩
theorem KT.keeps{H H':Hp}{kvs:List (List Key×V)}{xs:List (List Key×Addr×Value)}(r:KT H kvs xs)(ht:∀b ys,H b=some (.tup ys)->H' b=some (.tup ys)):KT H' kvs xs:=
 Paired.Kw r λ_ _ z=>⟨z.1,ht _ _ z.2.1,z.2.2⟩
section
variable {P:Program}{w:World}{H:Hp}{h:Heap}{a:Addr}
theorem GI{u:HO}(ok:gn P w H h)(e:Rd H a u):cv P w H h a u:=e.ok ok
theorem Gb{kvs:List (Key×V)}(ok:gn P w H h)(e:Rd H a (.dK kvs)):kvs.length<=sizeLine/\(a==sysModules)=false/\∃vs,KV kvs vs/\h.DictOf (cn P w) a vs:=
 show cv P w H h a (.dK kvs)from GI ok e
theorem Qk{kvs:List (Key×V)}(ok:gn P w H h)(e:H a=some (.dK kvs)):kvs.length<=sizeLine/\(a==sysModules)=false/\∃vs,KV kvs vs/\h.DictOf (cn P w) a vs:=Gb ok (.inl e)
theorem tV{ks:List Key}(ok:gn P w H h)(e:H a=some (.tup (ks.map kV))):(tupleKind (cn P w)).is h ks a:=by
 obtain⟨_,its,r,o,h1,h2,n,h3⟩:=(show cv P w H h a (.tup (ks.map kV))from ok a _ e)
 exact⟨o,its.toArray,n,h1,h2,h3,by simpa using nv r⟩
theorem Gd{kvs:List (List Key×V)}(ok:gn P w H h)(e:Rd H a (.dT kvs)):kvs.length<=sizeLine/\(a==sysModules)=false /\
  ∃xs,KT H kvs xs/\h.DictOfH (tupleKind (cn P w)) a xs:=by
 obtain⟨z,y,xs,r,o,es,ep,h1,h2,h3,h4,h5⟩:=(show cv P w H h a (.dT kvs)from GI ok e)
 refine⟨z,y,xs,r,o,es,ep,h1,h2,h3,h4,λx hx=>?_,h5⟩;have all:∀ {l:List (List Key×V)} {m:List (List Key×Addr×Value)},KT H l m->∀x∈m,(tupleKind (cn P w)).is h x.1 x.2.1:=by
  intro l m q
  induction q with
  | nil=>intro x hx;exact nomatch hx
  | @cons p q ps qs hq t ih =>
   intro x hx;rcases List.mem_cons.mp hx with e|hx
   ·subst e
    exact tV ok (by rw[<- hq.1];exact hq.2.1)
   ·exact ih x hx
 exact all r x hx
theorem Ql{kvs:List (List Key×V)}(ok:gn P w H h)(e:H a=some (.dT kvs)):kvs.length<=sizeLine/\(a==sysModules)=false /\
  ∃xs,KT H kvs xs/\h.DictOfH (tupleKind (cn P w)) a xs:=Gd ok (.inl e)
end
def xS(H:Hp)(a:Addr)(y:V)(r:Option V):Prop:=
 (∃kvs k,Rd H a (.dK kvs)/\y=kV k/\r=fI kvs k)\/∃kvs k b,Rd H a (.dT kvs)/\y=.ref b/\H b=some (.tup (k.map kV))/\r=fI kvs k
def Dc(H:Hp)(a:Addr)(y v:V)(H':Hp):Prop:=
 (∃kvs k,H a=some (.dK kvs)/\y=kV k/\kvs.length<sizeLine/\H'=upd H a (.dK (putK kvs k v))) \/
 ∃kvs k b,H a=some (.dT kvs)/\y=.ref b/\H b=some (.tup (k.map kV))/\kvs.length<sizeLine/\H'=upd H a (.dT (putK kvs k v))
theorem xS.t{H:Hp}{a b:Addr}{kvs:List (List Key×V)}{k:List Key}(e:H a=some (.dT kvs))(eb:H b=some (.tup (k.map kV))):xS H a (.ref b) (fI kvs k):=.inr ⟨kvs,k,b,.inl e,rfl,eb,rfl⟩
theorem Dc.t{H:Hp}{a b:Addr}{kvs:List (List Key×V)}{k:List Key}{v:V}(e:H a=some (.dT kvs))(eb:H b=some (.tup (k.map kV)))(hl:kvs.length<sizeLine):
  Dc H a (.ref b) v (upd H a (.dT (putK kvs k v))):=.inr ⟨kvs,k,b,e,rfl,eb,hl,rfl⟩
section
variable {X:Cx}{pins:List (Addr×Obj)}{σ:St}{H:Hp}{s:Shared}{a:Addr}{y v:V}{u r:Value}{o:Option V}{A:Around}{E:Value->Shared->Prop}
theorem Inv.big(I:Inv X pins σ H s):sysModules<s.heap.objs.size:=by
 have h:mainGlobals<s.heap.objs.size:=(I.mod.glob.keeps I.bk).lt;exact Nat.lt_trans ∅ h
theorem Dw{Q:Value->Shared->Prop}(hu:A.units+1<cLine)(I:Inv X pins σ H s)(g:xS H a y o)(ry:RelV y u)(h:∀s',Inv X pins σ H s'->Q (.bool (!o.isSome)) s'):
  wpAny (model X.prog X.w) A (compareOp .NotIn u (.ref a)) Q E s:=by
 rcases g with⟨kvs,k,e,ey,l⟩|⟨kvs,k,b,e,ey,eb,l⟩
 ·subst ey
  obtain⟨z,hd,vs,rel,dd⟩:=Gb I.bU e;refine wpAny_notIn_of (AW ry) hd dd.mapOf ?_;rw[<- (rel.val k).jn,<- l];exact h _ (I.tok _)
 ·subst ey
  cases(show u=Value.ref b from ry)
  obtain⟨z,hd,xs,rel,dd⟩:=Gd I.bU e;refine wpAny_notIn_heap (tupleKind_room_in1 hu) (tV I.bU eb) hd dd ?_;have q:=(rel.val k).jn;rw[Option.isSome_map]at q;rw[<- q,<- l];exact h _ (I.tok _)
theorem uY{h':Heap}{t':Nat}{ob:HO}(I:Inv X pins σ H s)(mu:Pa (H a))(hs:Heap.SameBut a s.heap h')(he:∃q,h'.get? a=some q)(new:cv X.prog X.w (upd H a ob) h' a ob):
  Inv X pins σ (upd H a ob) {s with heap:=h',toks:=t'}:=
 I.write (x:=a) (e:=a) mu (.inl rfl) (λb q hb z=>(hs.2 b hb).trans z) he new
theorem IK{P:Program}{w:World}{H':Hp}{h':Heap}{kvs:List (Key×V)}{vs:List (Key×Value)}(z:kvs.length<=sizeLine)(hd:(a==sysModules)=false)(rel:KV kvs vs)(dd:h'.DictOf (cn P w) a vs):
  cv P w H' h' a (.dK kvs):=⟨z,hd,vs,rel,dd⟩
theorem wB{H':Hp}{Q:Unit->Shared->Prop}(hu:A.units+1<cLine)(I:Inv X pins σ H s)(g:Dc H a y v H')(ry:RelV y u)(rv:RelV v r)(h:∀s',Inv X pins σ H' s'->Q () s'):
  wpAny (model X.prog X.w) A (setItem (.ref a) u r) Q E s:=by
 rcases g with⟨kvs,k,e,ey,l,eH⟩|⟨kvs,k,b,e,ey,eb,l,eH⟩
 ·subst ey eH
  obtain⟨z,hd,vs,rel,dd⟩:=Qk I.bU e;have hz:vs.length<=sizeLine:=by rw[<- rel.length];exact z
  have hl:(putK kvs k v).length<=sizeLine:=by have:=jZ kvs k v;omega
  refine wpAny_setItem_pairs (hsz:=hz) (AW ry) dd λh' UO hs=>h _ ?_;have he:∃q,h'.get? a=some q:=let ⟨q,_,_,hq,_⟩:=UO;⟨q,hq⟩;exact uY I (by rw[e];exact True.intro) hs he (IK hl hd (rel.put k rv) UO)
 ·subst ey eH
  cases(show u=Value.ref b from ry)
  obtain⟨z,hd,xs,rel,dd⟩:=Ql I.bU e;have hz:xs.length<=sizeLine:=by rw[<- Paired.length rel];exact z
  have hl:(putK kvs k v).length<=sizeLine:=by have:=jZ kvs k v;omega
  refine wpAny_setItem_heap (hsz:=hz) (tupleKind_room_in1 hu) (tV I.bU eb) dd λh' UO hs=>h _ ?_;obtain⟨q,es,ep,hq,h2,h3,h4,_,h5⟩:=UO;refine uY I (by rw[e];exact True.intro) hs ⟨q,hq⟩ ⟨hl,hd,_,(rel.put k eb rv).keeps λc ys ec=>?_,q,es,ep,hq,h2,h3,h4,h5⟩
  rw[az (Sn ec e (λz=>nomatch z))];exact ec
end
def T4(td ty tv:TE):TS:=λD σ H=>tv σ H λv H1=>td σ H1 λx H2=>ty σ H2 λy H3=>∃a H4,x=.ref a/\Dc H3 a y v H4/\D.nx σ H4
section
variable {X:Cx}{o i e value:Expr}{pos pos' gm:Pos}{td ty tv:TE}
theorem Ep(hu:X.A.units+1<cLine)(ho:PE X o td)(hi:PE X i ty)(hv:PE X value tv)(hs:swapsWith value (some (.Subscript o i pos')) pos.line X.env=pure false):
  PS X (.Assign [.Subscript o i pos'] value pos) (T4 td ty tv):=by
 intro pins s σ H D I h;refine wpAny_Assign_Subscript (b8 (hv pins s σ H _ I h) λr s1 ⟨v,H1,I1,rv,q1⟩=>b8 (ho pins s1 σ H1 _ I1 q1) λu s2 ⟨x,H2,I2,rx,q2⟩=>b8 (hi pins s2 σ H2 _ I2 q2) λiv s3 ⟨y,H3,I3,ry,a,H4,ex,g,q3⟩=>?_) hs;subst ex;obtain rfl:u=Value.ref a:=rx;exact wB hu I3 g ry rv λs4 I4=>⟨σ,H4,I4,q3⟩
end
theorem zK{P:Program}{w:World}{H:Hp}(h:Heap)(hb:sysModules<h.objs.size):cv P w H (h.push {cls:=.type "dict",data:=.dict #[]}) h.objs.size (.dT []):=
 ⟨Nat.zero_le _,beq_eq_false_iff_ne.mpr (Ne.symm (Nat.ne_of_lt hb)),[],.nil,_,#[],0,Heap.get?_push_size _ rfl,⟨rfl,rfl,rfl⟩,rfl,rfl,List.nodup_nil⟩
def NI:TE:=λ_ H Q=>∀p,H p=none->Q (.ref p) (upd H p (.dT []))
section
variable {X:Cx}{pos:Pos}
theorem Bl:PE X (.Dict [] [] pos) NI:=λpins s σ H Q I h =>
 wpAny_Dict_empty ⟨.ref s.heap.objs.size,_,I.laid (a:=s.heap.objs.size) (o:=.dT []) (t':=s.toks) (λ_ _ q=>Heap.get?_push_of_some _ q) (Nat.le_refl _) (zK s.heap I.big),rfl,h _ (I.bU.fresh (Nat.le_refl _))⟩
end
def p8:List (TE×TE)->St->Hp->(List (V×V)->Hp->Prop)->Prop
 | [],_,H,Q=>Q [] H
 | (tk,tv)::r,σ,H,Q=>tk σ H λx H1=>tv σ H1 λy H2=>p8 r σ H2 λps H3=>Q ((x,y)::ps) H3
end L2
namespace Vc
open PySem L2
class KF where
 K:PySem.W.Frag
 /-- where the classes of exceptions stand -/
 cls:Str->Addr:=λ_=>0
 /-- the code tables that a lambda fills: where,as they were,the lambda's place,its name -/
 tabs:List (Addr×Array Value×Pos×Str):=[]
variable [KF]
inductive D where
 | bC|bl (b:Bool)|int (i:Int)|str (x:Str)|tup (xs:List D)|lst (xs:List D)|dct (kvs:List (D×D))|exc (c:Str)
 /-- the law's own list: read,never changed -/
 | fk (ns:List Int)
 /-- a dict with whole numbers for keys -/
 | sT (kvs:List (Int×D))
 /-- kept points: the word,the count,the next name,the points by their names -/
 | kp (w:Str) (c e:Int) (kvs:List (Int×D))
def VL(a:Addr)(c:Str):HO:=.ext λh=>∃o,h.get? a=some o/\o.cls=.ref (KF.cls c)
def kD:Key->D
 | .inl i=>.int i
 | .inr x=>.str x
def YS(w:Str)(c e:Int)(ad:Addr):List (Str×V):=[("way",.str w),("count",.int c),("points_by_name",.ref ad),("ever_put",.int e)]
mutual
inductive Rep (F:Hp):V->D->Prop where
 | bC:Rep F .bC .bC
 | bl (b:Bool):Rep F (.bl b) (.bl b)
 | int (i:Int):Rep F (.int i) (.int i)
 | str (x:Str):Rep F (.str x) (.str x)
 | tup {a:Addr} {vs:List V} {ds:List D}:F a=some (.tup vs)->aG F vs ds->Rep F (.ref a) (.tup ds)
 | lst {a:Addr} {vs:List V} {ds:List D}:Rd F a (.lst vs)->aG F vs ds->Rep F (.ref a) (.lst ds)
 | fk {a:Addr} {ns:List Int}:e6 KF.K F a (ns.map V.int)->Rep F (.ref a) (.fk ns)
 | exc {a:Addr} {c:Str}:F a=some (VL a c)->Rep F (.ref a) (.exc c)
 | wD {a:Addr} {ks:List (List Key×V)} {kvs:List (D×D)}:F a=some (.dT ks)->cH F ks kvs->Rep F (.ref a) (.dct kvs)
 | sT {a:Addr} {ks:List (Key×V)} {kvs:List (Int×D)}:F a=some (.dK ks)->je F ks kvs->Rep F (.ref a) (.sT kvs)
 | kp {a dx ad:Addr} {w:Str} {c e:Int} {ks:List (Key×V)} {kvs:List (Int×D)}:F a=some (.ins (KF.cls "Kept") dx (YS w c e ad))->F ad=some (.dK ks)->je F ks kvs->Rep F (.ref a) (.kp w c e kvs)
inductive je (F:Hp):List (Key×V)->List (Int×D)->Prop where
 | nil:je F [] []
 | cons {i:Int} {v:V} {d:D} {ks:List (Key×V)} {kvs:List (Int×D)}:Rep F v d->je F ks kvs->je F ((.inl i,v)::ks) ((i,d)::kvs)
inductive sZ (F:Hp):List (Key×V)->List (D×D)->Prop where
 | nil:sZ F [] []
 | cons {k:Key} {v:V} {d:D} {ks:List (Key×V)} {kvs:List (D×D)}:Rep F v d->sZ F ks kvs->sZ F ((k,v)::ks) ((kD k,d)::kvs)
inductive cH (F:Hp):List (List Key×V)->List (D×D)->Prop where
 | nil:cH F [] []
 | cons {k:List Key} {v:V} {d:D} {ks:List (List Key×V)} {kvs:List (D×D)}:Rep F v d->cH F ks kvs->cH F ((k,v)::ks) ((.tup (k.map kD),d)::kvs)
inductive aG (F:Hp):List V->List D->Prop where
 | nil:aG F [] []
 | cons {v:V} {d:D} {vs:List V} {ds:List D}:Rep F v d->aG F vs ds->aG F (v::vs) (d::ds)
end
theorem Rd.mono{F F':Hp}(s:aA F F'){a:Addr}{u:HO}(h:Rd F a u):Rd F' a u:=by
 rcases h with h|⟨o,h⟩
 ·exact .inl (s a _ h)
 ·exact .inr ⟨o,s a _ h⟩
mutual
theorem Rep.mono{F F':Hp}(s:aA F F'){v:V}{d:D}:Rep F v d->Rep F' v d
 | .bC=>.bC
 | .bl b=>.bl b
 | .int i=>.int i
 | .str x=>.str x
 | .tup h r=>.tup (s _ _ h) (aG.mono s r)
 | .lst h r=>.lst (Rd.mono s h) (aG.mono s r)
 | .fk h=>.fk (s.seq h)
 | .exc h=>.exc (s _ _ h)
 | .wD h r=>.wD (s _ _ h) (cH.mono s r)
 | .sT h r=>.sT (s _ _ h) (je.mono s r)
 | .kp h1 h2 r=>.kp (s _ _ h1) (s _ _ h2) (je.mono s r)
theorem je.mono{F F':Hp}(s:aA F F'){ks:List (Key×V)}{kvs:List (Int×D)}:je F ks kvs->je F' ks kvs
 | .nil=>.nil
 | .cons h r=>.cons (Rep.mono s h) (je.mono s r)
theorem sZ.mono{F F':Hp}(s:aA F F'){ks:List (Key×V)}{kvs:List (D×D)}:sZ F ks kvs->sZ F' ks kvs
 | .nil=>.nil
 | .cons h r=>.cons (Rep.mono s h) (sZ.mono s r)
theorem cH.mono{F F':Hp}(s:aA F F'){ks:List (List Key×V)}{kvs:List (D×D)}:cH F ks kvs->cH F' ks kvs
 | .nil=>.nil
 | .cons h r=>.cons (Rep.mono s h) (cH.mono s r)
theorem aG.mono{F F':Hp}(s:aA F F'){vs:List V}{ds:List D}:aG F vs ds->aG F' vs ds
 | .nil=>.nil
 | .cons h r=>.cons (Rep.mono s h) (aG.mono s r)
end
theorem aG.length{F:Hp}:∀ {vs:List V} {ds:List D},aG F vs ds->vs.length=ds.length
 | _,_,.nil=>rfl
 | _,_,.cons _ r=>by simp [aG.length r]
theorem aG.append{F:Hp}:∀ {vs ws:List V} {ds es:List D},aG F vs ds->aG F ws es->aG F (vs++ws) (ds++es)
 | _,_,_,_,.nil,s=>s
 | _,_,_,_,.cons h r,s=>.cons h (aG.append r s)
theorem aG.get{F:Hp}:∀ {vs:List V} {ds:List D} {i:Nat} {d:D},aG F vs ds->ds[i]?=some d->∃v,vs[i]?=some v/\Rep F v d
 | _,_,_,_,.nil,e=>by simp at e
 | _,_,0,_,.cons h _,e=>by simp at e;subst e;exact⟨_,by simp,h⟩
 | _,_,i+1,_,.cons _ r,e=>by
  obtain⟨v,h1,h2⟩:=aG.get (i:=i) r (by simpa using e)
  exact⟨v,by simpa using h1,h2⟩
theorem aG.get'{F:Hp}:∀ {vs:List V} {ds:List D} {i:Nat} {v:V},aG F vs ds->vs[i]?=some v->∃d,ds[i]?=some d/\Rep F v d
 | _,_,_,_,.nil,e=>by simp at e
 | _,_,0,_,.cons h _,e=>by simp at e;subst e;exact⟨_,by simp,h⟩
 | _,_,i+1,_,.cons _ r,e=>by
  obtain⟨v,h1,h2⟩:=aG.get' (i:=i) r (by simpa using e)
  exact⟨v,by simpa using h1,h2⟩
theorem aG.set{F:Hp}{v:V}{d:D}(h:Rep F v d):∀ {vs:List V} {ds:List D} (i:Nat),aG F vs ds->aG F (vs.set i v) (ds.set i d)
 | _,_,_,.nil=>.nil
 | _,_,0,.cons _ t=>.cons h t
 | _,_,i+1,.cons q t=>.cons q (aG.set h i t)
theorem aG.take{F:Hp}:∀ {vs:List V} {ds:List D} (n:Nat),aG F vs ds->aG F (vs.take n) (ds.take n)
 | _,_,0,_=>.nil
 | _,_,_+1,.nil=>.nil
 | _,_,n+1,.cons h r=>.cons h (aG.take n r)
theorem aG.drop{F:Hp}:∀ {vs:List V} {ds:List D} (n:Nat),aG F vs ds->aG F (vs.drop n) (ds.drop n)
 | _,_,0,r=>r
 | _,_,_+1,.nil=>.nil
 | _,_,n+1,.cons _ r=>aG.drop n r
theorem aG.reverse{F:Hp}:∀ {vs:List V} {ds:List D},aG F vs ds->aG F vs.reverse ds.reverse
 | _,_,.nil=>.nil
 | _,_,.cons h r=>by
  rw[List.reverse_cons,List.reverse_cons];exact(aG.reverse r).append (.cons h .nil)
theorem aG.rep{F:Hp}{vs:List V}{ds:List D}(r:aG F vs ds):∀n:Nat,aG F (List.replicate n vs).flatten (List.replicate n ds).flatten
 | 0=>.nil
 | n+1=>by
  rw[List.replicate_succ,List.replicate_succ,List.flatten_cons,List.flatten_cons];exact r.append (aG.rep r n)
def cg(F H:Hp)(v:V)(d:D):Prop:=match d with
 | .lst xs=>∃a vs,v=.ref a/\Rd H a (.lst vs)/\aG F vs xs
 | .sT kvs=>∃a ks,v=.ref a/\H a=some (.dK ks)/\je F ks kvs
 | .kp w c e kvs=>∃a dx ad ks,v=.ref a/\H a=some (.ins (KF.cls "Kept") dx (YS w c e ad))/\H ad=some (.dK ks)/\je F ks kvs
 | d=>Rep F v d
theorem aM{H:Hp}{p:Addr}{o:HO}(h:H p=none):aA H (upd H p o):=λb u e=>by
 rw[az (b6 e h)];exact e
def dl:HO->Bool
 | .dK _=>true
 | .ins _ _ _=>true
 | _=>false
structure O where
 fp:Addr->List Addr
 rep:Hp->Hp->Addr->Prop
 self:∀a,a∈fp a
 solid:∀ {F H:Hp} {a b:Addr} {φ:Heap->Prop},rep F H a->b∈fp a->H b≠some (.ext φ)
 nt:∀ {F H:Hp} {a b:Addr} {vs:List V},rep F H a->b∈fp a->H b≠some (.tup vs)
 mono:∀ {F F' H H':Hp} {a:Addr},aA F F'->(∀b∈fp a,H' b=H b)->rep F H a->rep F' H' a
 /-- what it is as data,where it is that -/
 view:Option D:=none
 sees:∀ {F H:Hp} {a:Addr} {d:D},rep F H a->view=some d->cg F H (.ref a) d:=by intro _ _ _ _ _ e;cases e
 lend:∀ {F H:Hp} {a:Addr} {d:D},aA F H->rep F H a->view=some d->∃F',aA F F'/\aA F' H/\Rep F' (.ref a) d/\∀c u,F' c=some u->F c=some u\/(dl u=true/\c∈fp a):=by intro _ _ _ _ _ _ e;cases e
 /-- where it stands -/
 loc:Option Addr:=none
 aaj:∀ {F H:Hp} {a b:Addr},rep F H a->loc=some b->a=b:=by intro _ _ _ _ _ e;cases e
inductive B where
 | sh (d:D)
 | own (xs:List D)
 | obj (o:O)
abbrev Sd:=List (Option B)
structure bN where
 H0:Hp
 F0:Hp
 io:List (Nat×Addr)
 /-- the addresses of things that were handed in to be changed -/
 ob:List Addr
def bN.OB(Y:bN):List Addr:=Y.io.map (·.2)
def bN.Gr(Y:bN):List Addr:=Y.io.map (·.2)++Y.ob
theorem bN.vp{Y:bN}{a:Addr}(h:a∉Y.Gr):a∉Y.OB:=λz=>h (List.mem_append_left _ z)
def gp(aq:Sd)(σ:St)(b:Addr):Prop:=∃(i:Nat) (o:O) (a:Addr),aq[i]?=some (some (.obj o))/\σ[i]?=some (some (.ref a))/\b∈o.fp a
def jg(F:Hp):Prop:=∀q∈KF.tabs,F q.1=some (.lam q.2.1 q.2.2.1 q.2.2.2)
theorem jg.mono{F F':Hp}(h:jg F)(s:aA F F'):jg F':=λq hq=>s _ _ (h q hq)
def uP(F H:Hp):Prop:=aA F H/\jg F
structure sP(Y:bN)(F:Hp)(aq:Sd)(σ:St)(H:Hp):Prop where
 obj:∀(i:Nat) (o:O),aq[i]?=some (some (.obj o))->∃a,σ[i]?=some (some (.ref a))/\o.rep F H a/\∀b∈o.fp a,F b=none/\H b≠none/\(Y.H0 b=none\/b∈Y.ob)
 zJ:∀(i j:Nat) (o p:O) (a b:Addr),aq[i]?=some (some (.obj o))->aq[j]?=some (some (.obj p))->σ[i]?=some (some (.ref a))->σ[j]?=some (some (.ref b))->i≠j->∀c∈o.fp a,c∉p.fp b
 ky:∀(j:Nat) (xs:List D) (b:Addr),aq[j]?=some (some (.own xs))->σ[j]?=some (some (.ref b))->¬gp aq σ b
 there:∀b∈Y.ob,H b≠none
 OT:∀b∈Y.ob,Y.H0 b≠none
 tab:jg F
theorem sP.owned{Y:bN}{F:Hp}{aq:Sd}{σ:St}{H:Hp}(X:sP Y F aq σ H){b:Addr}(h:gp aq σ b):F b=none/\H b≠none/\(Y.H0 b=none\/b∈Y.ob):=by
 obtain⟨i,o,a,e1,e2,hb⟩:=h;obtain⟨a',e3,_,h3⟩:=X.obj i o e1;rw[e2]at e3;cases e3;exact h3 b hb
theorem sP.Gx{Y:bN}{F:Hp}{aq:Sd}{σ:St}{H:Hp}(X:sP Y F aq σ H){b:Addr}(h:gp aq σ b){vs:List V}:H b≠some (.tup vs):=by
 obtain⟨i,o,a,e1,e2,hb⟩:=h;obtain⟨a',e3,h2,_⟩:=X.obj i o e1;rw[e2]at e3;cases e3;exact o.nt h2 hb
theorem sP.step{Y Y':bN}{F F':Hp}{aq aX:Sd}{σ cA:St}{H H':Hp}(X:sP Y F aq σ H)(hs:aA F F')
  (U3:∀(i:Nat) (o:O),aX[i]?=some (some (.obj o))->aq[i]?=some (some (.obj o))/\cA[i]?=σ[i]?)
  (hb:∀b,gp aq σ b->H' b=H b/\F' b=none/\(Y'.H0 b=none\/b∈Y'.ob))
  (Ws:∀(j:Nat) (ys:List D) (b:Addr),aX[j]?=some (some (.own ys))->cA[j]?=some (some (.ref b))->¬gp aq σ b)
  (WB:∀b∈Y'.ob,H' b≠none) (hz:∀b∈Y'.ob,b∈Y.ob/\(Y.H0 b≠none->Y'.H0 b≠none):=by exactλb hb=>⟨hb,id⟩):sP Y' F' aX cA H' where
 obj:=λi o e=>by
  obtain⟨e1,e2⟩:=U3 i o e;obtain⟨a,h1,h2,h3⟩:=X.obj i o e1;have ow:∀b∈o.fp a,gp aq σ b:=λb z=>⟨i,o,a,e1,h1,z⟩;refine⟨a,by rw[e2];exact h1,o.mono hs (λb z=>(hb b (ow b z)).1) h2,λb z=>⟨(hb b (ow b z)).2.1,?_,(hb b (ow b z)).2.2⟩⟩
  rw[(hb b (ow b z)).1];exact(h3 b z).2.1
 zJ:=λi j o p a b e1 e2 e3 e4=>by
  obtain⟨q1,q2⟩:=U3 i o e1;obtain⟨q3,q4⟩:=U3 j p e2;rw[q2]at e3;rw[q4]at e4;exact X.zJ i j o p a b q1 q3 e3 e4
 ky:=λj xs b e1 e2 ⟨i,o,a,e3,e4,hm⟩=>by
  obtain⟨q1,q2⟩:=U3 i o e3;rw[q2]at e4;exact Ws j xs b e1 e2 ⟨i,o,a,q1,e4,hm⟩
 there:=WB
 OT:=λb hb=>(hz b hb).2 (X.OT b (hz b hb).1)
 tab:=X.tab.mono hs
theorem sP.put{Y:bN}{F:Hp}{aq:Sd}{σ cA:St}{H:Hp}{i:Nat}{b':Option B}(X:sP Y F aq σ H)(h1:∀j,j≠i->cA[j]?=σ[j]?)(hn:∀o,b'≠some (.obj o))
  (hw:∀ys a,b'=some (.own ys)->cA[i]?=some (some (.ref a))->¬gp aq σ a):sP Y F (aq.set i b') cA H:=by
 have gs:∀ {j:Nat} {y:Option B},(aq.set i b')[j]?=some y->(j=i/\y=b')\/(j≠i/\aq[j]?=some y):=λ{j y} h=>by
  by_cases hj:j=i
  ·subst hj
   by_cases hl:j<aq.length
   ·rw[List.getElem?_set_self hl]at h;exact .inl ⟨rfl,(Option.some.inj h).symm⟩
   ·have:(aq.set j b')[j]?=none:=by rw[List.getElem?_eq_none_iff];simp;omega
    rw[this]at h;cases h
  ·rw[List.getElem?_set_ne (Ne.symm hj)]at h;exact .inr ⟨hj,h⟩
 refine X.step (aA.refl _) (λj o e=>?_) (λb hb=>⟨rfl,(X.owned hb).1,(X.owned hb).2.2⟩) (λj ys b e1 e2=>?_) X.there
 ·rcases gs e with⟨_,z⟩|⟨hj,z⟩
  ·exact absurd z.symm (hn o)
  ·exact⟨z,h1 j hj⟩
 ·rcases gs e1 with⟨rfl,z⟩|⟨hj,z⟩
  ·exact hw ys b z.symm e2
  ·rw[h1 j hj]at e2;exact X.ky j ys b z e2
theorem sP.none{Y:bN}{F:Hp}{aq:Sd}{σ:St}{H:Hp}(h:∀(i:Nat) (o:O),aq[i]?≠some (some (.obj o)))(Wz:jg F)(WB:∀b∈Y.ob,H b≠none)(hz:∀b∈Y.ob,Y.H0 b≠none:=by intro b hb;cases hb):sP Y F aq σ H where
 OT:=hz
 tab:=Wz
 obj:=λi o e=>absurd e (h i o)
 zJ:=λi _ o _ _ _ e=>absurd e (h i o)
 ky:=λ_ _ _ _ _ ⟨i,o,_,e,_⟩=>h i o e
 there:=WB
def Nw(H:Hp)(b:Addr)(o:HO):Prop:=H b=none\/∃vs,o=.tup vs
structure RS(Y:bN)(F:Hp)(aq:Sd)(σ:St)(H:Hp):Prop where
 len:aq.length=σ.length
 lo:aA Y.F0 F
 fr:aA F H
 fN:∀b o,F b=some o->Y.F0 b=some o\/Nw Y.H0 b o
 old:∀b o,Y.H0 b=some o->b∉Y.Gr->H b=some o
 sh:∀(i:Nat) (d:D),aq[i]?=some (some (.sh d))->∃v,σ[i]?=some (some v)/\Rep F v d
 own:∀(i:Nat) (xs:List D),aq[i]?=some (some (.own xs))->∃a vs,σ[i]?=some (some (.ref a))/\H a=some (.lst vs)/\aG F vs xs/\F a=none/\(Y.H0 a=none\/a∈Y.OB)
 dis:∀(i j:Nat) (xs ys:List D) (a:Addr),aq[i]?=some (some (.own xs))->aq[j]?=some (some (.own ys))->σ[i]?=some (some (.ref a))->σ[j]?=some (some (.ref a))->i=j
 io:∀p∈Y.io,σ[p.1]?=some (some (.ref p.2))/\∃xs,aq[p.1]?=some (some (.own xs))
 ob:sP Y F aq σ H
theorem BJ{F H:Hp}{p:Addr}{o:HO}(s:aA F H):aA (upd F p o) (upd H p o):=λb u e=>by
 by_cases hb:b=p
 ·subst hb;rw[aR]at e ⊢;exact e
 ·rw[az hb]at e ⊢;exact s b u e
theorem same_none{F H:Hp}(s:aA F H){p:Addr}(h:H p=none):F p=none:=s.free h
theorem RS.dQ{Y:bN}{F:Hp}{aq:Sd}{σ:St}{H:Hp}{p:Addr}(R:RS Y F aq σ H)(h:H p=none):Y.H0 p=none/\p∉Y.Gr:=by
 have dq:p∉Y.Gr:=λhm=>by
  rcases List.mem_append.mp hm with hm|hm
  case inr=>exact R.ob.there p hm h
  obtain⟨q,hq,e⟩:=List.mem_map.mp hm;obtain⟨h1,xs,h2⟩:=R.io q hq;obtain⟨a,vs,h3,h4,_⟩:=R.own _ _ h2;rw[h1]at h3;cases h3;rw[e,h]at h4;cases h4
 refine⟨?_,dq⟩;cases e:Y.H0 p with
 | none=>rfl
 | some o=>rw[R.old p o e dq]at h;cases h
theorem RS.alloc{Y:bN}{F:Hp}{aq:Sd}{σ:St}{H:Hp}{p:Addr}{o:HO}(R:RS Y F aq σ H)(h:H p=none):RS Y (upd F p o) aq σ (upd H p o) where
 len:=R.len
 lo:=R.lo.trans (aM (same_none R.fr h))
 fr:=BJ R.fr
 fN:=λb u e=>by
  by_cases hb:b=p
  ·subst hb;exact .inr (.inl (R.dQ h).1)
  ·rw[az hb]at e;exact R.fN b u e
 old:=λb u e n=>by
  have:=R.old b u e n;rw[az (b6 this h)];exact this
 sh:=λi d e=>by
  obtain⟨v,h1,h2⟩:=R.sh i d e;exact⟨v,h1,h2.mono (aM (same_none R.fr h))⟩
 own:=λi xs e=>by
  obtain⟨a,vs,h1,h2,h3,h4,h5⟩:=R.own i xs e;have c9:=b6 h2 h;exact⟨a,vs,h1,by rw[az c9];exact h2,h3.mono (aM (same_none R.fr h)),by rw[az c9];exact h4,h5⟩
 dis:=R.dis
 io:=R.io
 ob:=R.ob.step (aM (same_none R.fr h)) (λi o e=>⟨e,rfl⟩) (λb hb=>by
  obtain⟨w1,w2,w3⟩:=R.ob.owned hb;have c9:b≠p:=λz=>w2 (z ▸ h);exact⟨az c9,by rw[az c9];exact w1,w3⟩) (λj ys b e1 e2=>R.ob.ky j ys b e1 e2) λb hb=>by
  have c9:b≠p:=λz=>R.ob.there b hb (z ▸ h);rw[az c9];exact R.ob.there b hb
theorem RS.tu{Y:bN}{F:Hp}{aq:Sd}{σ:St}{H:Hp}{p:Addr}{o:HO}(R:RS Y F aq σ H)(h:H p=none):RS Y F aq σ (upd H p o) where
 len:=R.len
 lo:=R.lo
 fr:=R.fr.trans (aM h)
 fN:=R.fN
 old:=λb u e n=>aM h b u (R.old b u e n)
 sh:=R.sh
 own:=λi xs e=>by
  obtain⟨a,vs,h1,h2,h3,h4,h5⟩:=R.own i xs e;exact⟨a,vs,h1,aM h a _ h2,h3,h4,h5⟩
 dis:=R.dis
 io:=R.io
 ob:=R.ob.step (aA.refl _) (λi o e=>⟨e,rfl⟩) (λb hb=>by
  obtain⟨w1,w2,w3⟩:=R.ob.owned hb;have c9:b≠p:=λz=>w2 (z ▸ h);exact⟨az c9,w1,w3⟩) (λj ys b e1 e2=>R.ob.ky j ys b e1 e2) λb hb=>by
  have c9:b≠p:=λz=>R.ob.there b hb (z ▸ h);rw[az c9];exact R.ob.there b hb
inductive EV where
 | val (d:D)|var (i:Nat)|own (xs:List D)|obj (o:O)|any
inductive OV where
 | val (d:D)|var (i:Nat)|any
abbrev TX:=Sd->(EV->Sd->Prop)->Prop
abbrev TV:=Sd->(OV->Sd->Prop)->Prop
abbrev TD:=Sd->(D->Sd->Prop)->Prop
abbrev TB:=Sd->(Bool->Sd->Prop)->Prop
abbrev gh:=Sd->(List D->Sd->Prop)->Prop
structure dC(aq:Sd)(σ:St)(a:Addr):Prop where
 own:∀(j:Nat) (ys:List D),aq[j]?=some (some (.own ys))->σ[j]?≠some (some (.ref a))
 OG:¬gp aq σ a
instance {aq:Sd} {σ:St} {a:Addr}:CoeFun (dC aq σ a) λ_=>∀(j:Nat) (ys:List D),aq[j]?=some (some (.own ys))->σ[j]?≠some (some (.ref a)):=⟨dC.own⟩
theorem RS.eQ{Y:bN}{F:Hp}{aq:Sd}{σ:St}{H:Hp}(R:RS Y F aq σ H){a:Addr}(h:H a=none):dC aq σ a:=by
 refine⟨λj ys e z=>?_,λz=>(R.ob.owned z).2.1 h⟩;obtain⟨b,us,e1,e2,_⟩:=R.own j ys e;rw[e1]at z;cases z;rw[h]at e2;cases e2
def tf(F:Hp)(σ:St)(v:V):OV->Prop
 | .val d=>Rep F v d
 | .var i=>σ[i]?=some (some v)
 | .any=>True
def G4(Y:bN)(F H:Hp)(aq:Sd)(σ:St)(v:V):EV->Prop
 | .val d=>Rep F v d
 | .var i=>σ[i]?=some (some v)
 | .own xs=>∃a vs,v=.ref a/\H a=some (.lst vs)/\aG F vs xs/\F a=none/\Y.H0 a=none/\dC aq σ a
 | .obj o=>∃a,v=.ref a/\o.rep F H a/\∀b∈o.fp a,F b=none/\H b≠none/\Y.H0 b=none/\dC aq σ b
 | .any=>True
def lX(Y:bN)(t:TX):TE:=λσ H Q=>∃F aq Qd,RS Y F aq σ H/\t aq Qd/\∀v H' F' x aX,aA F F'->RS Y F' aX σ H'->G4 Y F' H' aX σ v x->Qd x aX->Q v H'
def lO(Y:bN)(t:TV):TE:=λσ H Q=>∃F aq Qd,RS Y F aq σ H/\t aq Qd/\∀v H' F' x aX,aA F F'->RS Y F' aX σ H'->tf F' σ v x->Qd x aX->Q v H'
def lD(Y:bN)(t:TD):TE:=λσ H Q=>∃F aq Qd,RS Y F aq σ H/\t aq Qd/\∀v H' F' x aX,aA F F'->RS Y F' aX σ H'->Rep F' v x->Qd x aX->Q v H'
def lB(Y:bN)(t:TB):TT:=λσ H Q=>∃F aq Qd,RS Y F aq σ H/\t aq Qd/\∀b H' F' aX,aA F F'->RS Y F' aX σ H'->Qd b aX->Q b H'
def YV(Y:bN)(t:gh):TA:=λσ H Q=>∃F aq Qd,RS Y F aq σ H/\t aq Qd/\∀vs H' F' xs aX,aA F F'->RS Y F' aX σ H'->aG F' vs xs->Qd xs aX->Q vs H'
structure GE where
 P:Program
 w:World
 K:PySem.W.Frag
 mg:Str->Option Value
 base:Heap
structure Stat where
 N:List Str
 sc:List (Str×NameKind)
 ios:List Nat:=[]
 yy:Bool:=false
 /-- within an except suite -/
 mL:Bool:=false
 /-- a raise may stand here -/
 rs:Bool:=false
 /-- what is wanted where an exception of a class leaves -/
 ex:Str->Sd->Prop:=λ_ _=>False
def VP(a T:Addr)(c:Str):HO:=.ext λh=>∃o vs a0,h.get? a=some o/\o.cls=.ref (KF.cls c)/\o.data=.fields vs/\vs[0]?=some a0/\vs[1]?=some (.ref T)
def tbO(T:Addr):HO:=.ext λh=>∃o ts,h.get? T=some o/\o.data=.fields ts/\ts[3]?=some .none
structure O8(X:Cx)(Y:bN)(F H:Hp)(a T:Addr)(c:Str):Prop where
 fa:F a=none
 fT:F T=none
 ha:H a=some (VP a T c)
 hT:H T=some (tbO T)
 ne:a≠T
 na:Y.H0 a=none
 nT:Y.H0 T=none
 la:X.cS.heap.get? a=none
 lT:X.cS.heap.get? T=none
def Xd(a:Addr)(c:Str):HO:=.ext λh=>∃o vs a0,h.get? a=some o/\o.cls=.ref (KF.cls c)/\o.data=.fields vs/\vs[0]?=some a0/\vs[1]?=some .none
structure dH(X:Cx)(G:GE)(k:Nat)(S:Stat)(Y:bN):Prop where
 P:X.prog=G.P
 w:X.w=G.w
 K:X.K=G.K
 kf:X.K=KF.K
 mg:X.mg=G.mg
 base:X.base=G.base
 N:X.N=S.N
 sc:X.env.scope.names=S.sc
 nd:S.N.Nodup
 ios:∀p∈Y.io,p.1∈S.ios
 obs:S.yy=false->S.ios=[]->Y.ob=[]
 calm:S.mL=false->X.calm=true
 kind:X.env.scope.kind=.function
 fn:S.yy=false->∀x,S.sc.lookup x=some .cell->X.fn x=true
 hd:S.mL=false->X.A.handled=none
 dp:X.A.depth+3*k+5<recursionLimit
 un:X.A.units+16*k+200<cLine
 po:S.mL=false->PassesOwn (model X.prog X.w) X.A X.env X.xe
 nx:S.yy=false->X.ex=[]/\X.stack=X.env::X.outer/\X.env.frame=some X.env.locals
 exc:∀c aq,S.ex c aq->∀pins σ H F s a T,L2.Inv X pins σ H s->RS Y F aq σ H->O8 X Y F H a T c->X.xe (.ref a) s
 made:S.rs=true->∀c aq,S.ex c aq->∀pins σ H F s a,L2.Inv X pins σ H s->RS Y F aq σ H->H a=some (Xd a c)->Y.H0 a=none->X.cS.heap.get? a=none->X.xe (.ref a) s
theorem dH.room{X:Cx}{G:GE}{k:Nat}{S:Stat}{Y:bN}(ok:dH X G k S Y)(h:S.mL=false):gd k X.A:=⟨ok.hd h,ok.dp,ok.un⟩
theorem dH.units{X:Cx}{G:GE}{k:Nat}{S:Stat}{Y:bN}(ok:dH X G k S Y):X.A.units+64<cLine:=by have:=ok.un;omega
variable {G:GE}{k:Nat}{S:Stat}
structure EX(G:GE)(k:Nat)(S:Stat)(e:Expr)(t:TX) :Prop where
 run:∀X Y,dH X G k S Y->PE X e (lX Y t)
instance {G:GE} {k:Nat} {S:Stat} {e:Expr} {t:TX} :CoeFun (EX G k S e t) λ_=>∀X Y,dH X G k S Y->PE X e (lX Y t):=⟨EX.run⟩
structure EO(G:GE)(k:Nat)(S:Stat)(e:Expr)(t:TV) :Prop where
 run:∀X Y,dH X G k S Y->PE X e (lO Y t)
instance {G:GE} {k:Nat} {S:Stat} {e:Expr} {t:TV} :CoeFun (EO G k S e t) λ_=>∀X Y,dH X G k S Y->PE X e (lO Y t):=⟨EO.run⟩
structure ED(G:GE)(k:Nat)(S:Stat)(e:Expr)(t:TD) :Prop where
 run:∀X Y,dH X G k S Y->PE X e (lD Y t)
instance {G:GE} {k:Nat} {S:Stat} {e:Expr} {t:TD} :CoeFun (ED G k S e t) λ_=>∀X Y,dH X G k S Y->PE X e (lD Y t):=⟨ED.run⟩
structure EB(G:GE)(k:Nat)(S:Stat)(e:Expr)(t:TB) :Prop where
 run:∀X Y,dH X G k S Y->PT X e (lB Y t)
instance {G:GE} {k:Nat} {S:Stat} {e:Expr} {t:TB} :CoeFun (EB G k S e t) λ_=>∀X Y,dH X G k S Y->PT X e (lB Y t):=⟨EB.run⟩
structure xT(G:GE)(k:Nat)(S:Stat)(es:List Expr)(t:gh) :Prop where
 run:∀X Y,dH X G k S Y->PA X es (YV Y t)
instance {G:GE} {k:Nat} {S:Stat} {es:List Expr} {t:gh} :CoeFun (xT G k S es t) λ_=>∀X Y,dH X G k S Y->PA X es (YV Y t):=⟨xT.run⟩
def Md:Expr->Bool
 | .Starred _ _=>false
 | _=>true
theorem iY{e:Expr}{es:List Expr}{env:Env}(h:Md e=true):starEach (e::es) env=(false,eval e env)::starEach es env:=by
 cases e<;>first|rfl|cases h
theorem bj{X:Cx}{e:Expr}{t t':TE}(h:PE X e t)(i:∀σ H Q,t' σ H Q->t σ H Q):PE X e t':=λpins s σ H Q I q=>h pins s σ H Q I (i σ H Q q)
theorem uh{X:Cx}{e:Expr}{t t':TT}(h:PT X e t)(i:∀σ H Q,t' σ H Q->t σ H Q):PT X e t':=λpins s σ H Q I q=>h pins s σ H Q I (i σ H Q q)
theorem oU{X:Cx}{e:List Expr}{t t':TA}(h:PA X e t)(i:∀σ H Q,t' σ H Q->t σ H Q):PA X e t':=λpos pins s σ H Q I q=>h pos pins s σ H Q I (i σ H Q q)
theorem dy{X:Cx}{e:Stmt}{t t':TS}(h:PS X e t)(i:∀D σ H,t' D σ H->t D σ H):PS X e t':=λpins s σ H D I q=>h pins s σ H D I (i D σ H q)
theorem vH{X:Cx}{e:List Stmt}{t t':TS}(h:p9 X e t)(i:∀D σ H,t' D σ H->t D σ H):p9 X e t':=λpins s σ H D I q=>h pins s σ H D I (i D σ H q)
theorem RS.wH{Y:bN}{F:Hp}{aq:Sd}{σ:St}{H:Hp}{a:Addr}{vs:List V}(R:RS Y F aq σ H)(h1:H a=some (.lst vs))(h2:F a=none)(h3:dC aq σ a)(h4:Y.H0 a=none):RS Y (upd F a (.lst vs)) aq σ H where
 len:=R.len
 lo:=R.lo.trans (aM h2)
 fr:=λb o e=>by
  by_cases hb:b=a
  ·subst hb;rw[aR]at e;cases e;exact h1
  ·rw[az hb]at e;exact R.fr b o e
 fN:=λb u e=>by
  by_cases hb:b=a
  ·subst hb;exact .inr (.inl h4)
  ·rw[az hb]at e;exact R.fN b u e
 old:=R.old
 sh:=λi d e=>by
  obtain⟨v,q1,q2⟩:=R.sh i d e;exact⟨v,q1,q2.mono (aM h2)⟩
 own:=λi xs e=>by
  obtain⟨b,us,q1,q2,q3,q4,q5⟩:=R.own i xs e;have c9:b≠a:=λz=>h3 i xs e (by rw[q1,z])
  exact⟨b,us,q1,q2,q3.mono (aM h2),by rw[az c9];exact q4,q5⟩
 dis:=R.dis
 io:=R.io
 ob:=R.ob.step (aM h2) (λi o e=>⟨e,rfl⟩) (λb hb=>by
  obtain⟨w1,w2,w3⟩:=R.ob.owned hb;have c9:b≠a:=λz=>h3.OG (z ▸ hb);exact⟨rfl,by rw[az c9];exact w1,w3⟩) (λj ys b e1 e2=>R.ob.ky j ys b e1 e2) R.ob.there
def X6:EV->OV
 | .val d=>.val d
 | .var i=>.var i
 | .own xs=>.val (.lst xs)
 | .obj _=>.any
 | .any=>.any
def aQ(t:TX):TV:=λσ Q=>t σ λx aC=>Q (X6 x) aC
theorem aS{e:Expr}{t:TX}(h:EX G k S e t):EO G k S e (aQ t):=.mk λX Y ok=>bj (h X Y ok) λσ H Q q=>by
 obtain⟨F,aq,Qd,R,q,K⟩:=q;refine⟨F,aq,_,R,q,λv H' F' x aX s R' r q'=>?_⟩;cases x with
 | val d=>exact K v H' F' (.val d) aX s R' r q'
 | var i=>exact K v H' F' (.var i) aX s R' r q'
 | own xs =>
  obtain⟨a,vs,rfl,h1,h2,h3,h4,h5⟩:=r;exact K _ H' _ (.val (.lst xs)) aX (s.trans (aM h3)) (R'.wH h1 h3 h5 h4) (.lst (.inl aR) (h2.mono (aM h3))) q'
 | obj o=>exact K v H' F' .any aX s R' trivial q'
 | any=>exact K v H' F' .any aX s R' trivial q'
def Y3:OV->EV
 | .val d=>.val d
 | .var i=>.var i
 | .any=>.any
def oX(t:TV):TX:=λσ Q=>t σ λx aC=>Q (Y3 x) aC
theorem fS{e:Expr}{t:TV}(h:EO G k S e t):EX G k S e (oX t):=.mk λX Y ok=>bj (h X Y ok) λσ H Q q=>by
 obtain⟨F,aq,Qd,R,q,K⟩:=q;refine⟨F,aq,_,R,q,λv H' F' x aX s R' r q'=>?_⟩;cases x with
 | val d=>exact K v H' F' (.val d) aX s R' r q'
 | var i=>exact K v H' F' (.var i) aX s R' r q'
 | any=>exact K v H' F' .any aX s R' trivial q'
theorem bb{α:Type}{l:List (Option α)}{i:Nat}{x:α}{y:Option α}(h:l[i]?=some (some x)):(l.set i y)[i]?=some y:=by
 have:=(List.getElem?_eq_some_iff.mp h).1;rw[List.getElem?_set_self this]
theorem bo{α:Type}{l:List (Option α)}{i j:Nat}{y:Option α}(h:j≠i):(l.set i y)[j]?=l[j]?:=by
 rw[List.getElem?_set_ne (Ne.symm h)]
theorem RS.ji{Y:bN}{F:Hp}{aq:Sd}{σ:St}{H:Hp}{i:Nat}{xs:List D}(R:RS Y F aq σ H)(h:aq[i]?=some (some (.own xs)))(dq:∀p∈Y.io,p.1≠i):
  ∃F' v,aA F F'/\RS Y F' (aq.set i (some (.sh (.lst xs)))) σ H/\σ[i]?=some (some v)/\Rep F' v (.lst xs):=by
 obtain⟨a,vs,q1,q2,q3,q4,q5⟩:=R.own i xs h;have sm:=aM (o:=.lst vs) q4;have rep:Rep (upd F a (.lst vs)) (.ref a) (.lst xs):=.lst (.inl aR) (q3.mono sm);have Xe:Y.H0 a=none:=by
  rcases q5 with q5|q5
  ·exact q5
  ·obtain⟨p,hp,e⟩:=List.mem_map.mp q5
   obtain⟨w1,ys,w2⟩:=R.io p hp;exact absurd (R.dis p.1 i ys xs a w2 h (by rw[w1,e]) q1) (dq p hp)
 have obF:sP Y (upd F a (.lst vs)) (aq.set i (some (.sh (.lst xs)))) σ H:=R.ob.step sm (λj o e=>by
  have hj:j≠i:=λz=>by subst z;rw[bb h]at e;cases e
  rw[bo hj]at e;exact⟨e,rfl⟩) (λb hb=>by
  obtain⟨w1,w2,w3⟩:=R.ob.owned hb;have c9:b≠a:=λz=>R.ob.ky i xs a h q1 (z ▸ hb);exact⟨rfl,by rw[az c9];exact w1,w3⟩) (λj ys b e1 e2=>by
  have hj:j≠i:=λz=>by subst z;rw[bb h]at e1;cases e1
  rw[bo hj]at e1;exact R.ob.ky j ys b e1 e2) R.ob.there
 refine⟨upd F a (.lst vs),.ref a,sm,⟨by simpa using R.len,R.lo.trans sm,λb o e=>?_,λb o e=>?_,R.old,λj d e=>?_,λj ys e=>?_,λj l ys zs b e1 e2 e3 e4=>?_,λp hp=>?_,obF⟩,q1,rep⟩
 ·by_cases hb:b=a
  ·subst hb;rw[aR]at e;cases e;exact q2
  ·rw[az hb]at e;exact R.fr b o e
 ·by_cases hb:b=a
  ·subst hb;exact .inr (.inl Xe)
  ·rw[az hb]at e;exact R.fN b o e
 ·by_cases hj:j=i
  ·subst hj
   rw[bb h]at e;cases e;exact⟨_,q1,rep⟩
  ·rw[bo hj]at e
   obtain⟨v,w1,w2⟩:=R.sh j d e;exact⟨v,w1,w2.mono sm⟩
 ·have hj:j≠i:=λz=>by subst z;rw[bb h]at e;cases e
  rw[bo hj]at e;obtain⟨b,us,w1,w2,w3,w4,w5⟩:=R.own j ys e;have c9:b≠a:=λz=>hj (R.dis j i ys xs a e h (z ▸ w1) q1);exact⟨b,us,w1,w2,w3.mono sm,by rw[az c9];exact w4,w5⟩
 ·have hj:j≠i:=λz=>by subst z;rw[bb h]at e1;cases e1
  have hl:l≠i:=λz=>by subst z;rw[bb h]at e2;cases e2
  rw[bo hj]at e1;rw[bo hl]at e2;exact R.dis j l ys zs b e1 e2 e3 e4
 ·obtain⟨w1,ys,w2⟩:=R.io p hp
  exact⟨w1,ys,by rw[bo (dq p hp)];exact w2⟩
def Oc(ios:List Nat)(x:OV)(aC:Sd)(Q:D->Sd->Prop):Prop:=match x with
 | .val d=>Q d aC
 | .any=>False
 | .var i=>match aC[i]? with
  | some (some (.own xs))=>i∉ios/\Q (.lst xs) (aC.set i (some (.sh (.lst xs))))
  | some (some (.sh d))=>Q d aC
  | _=>False
theorem Cz{ios:List Nat}{d:D}{aC:Sd}{Q:D->Sd->Prop}:Oc ios (.val d) aC Q=Q d aC:=rfl
theorem su{ios:List Nat}{i:Nat}{aC:Sd}{Q:D->Sd->Prop}:Oc ios (.var i) aC Q=(match aC[i]? with
  | some (some (.own xs))=>i∉ios/\Q (.lst xs) (aC.set i (some (.sh (.lst xs))))
  | some (some (.sh d))=>Q d aC
  | _=>False):=rfl
def ak(ios:List Nat)(t:TV):TD:=λσ Q=>t σ λx aC=>Oc ios x aC Q
theorem aD{e:Expr}{t:TV}(h:EO G k S e t):ED G k S e (ak S.ios t):=.mk λX Y ok=>bj (h X Y ok) λσ H Q q=>by
 obtain⟨F,aq,Qd,R,q,K⟩:=q;refine⟨F,aq,_,R,q,λv H' F' x aX s R' r q'=>?_⟩;cases x with
 | val d=>exact K v H' F' d aX s R' r q'
 | any=>exact False.elim q'
 | var i =>
  have r:σ[i]?=some (some v):=r;rw[su]at q'
  split at q'
  ·rename_i xs e
   obtain⟨hi,q'⟩:=q';obtain⟨F2,v2,s2,R2,e2,r2⟩:=R'.ji e λp hp z=>hi (z ▸ ok.ios p hp);rw[r]at e2;cases e2;exact K v H' F2 _ _ (s.trans s2) R2 r2 q'
  ·rename_i d e
   obtain⟨v2,e2,r2⟩:=R'.sh i d e;rw[r]at e2;cases e2;exact K v H' F' d aX s R' r2 q'
  ·exact q'.elim
def ag(i:Nat):TV:=λσ Q=>match σ[i]? with
 | some (some (.sh d))=>Q (.val d) σ
 | some (some (.own _))=>Q (.var i) σ
 | _=>False
theorem af(i:Nat){x:Str}{pos:Pos}(hN:S.N[i]?=some x:=by rfl)(hv:S.sc.lookup x=some .local\/S.sc.lookup x=some .cell\/S.sc.lookup x=some .free:=by first|exact Or.inl rfl|exact Or.inr (Or.inl rfl)|exact Or.inr (Or.inr rfl))
  (hd:(x==("__debug__":Str))=false:=by decide) (qT:(x==("__classdict__":Str))=false:=by decide):EO G k S (.Name x pos) (ag i):=.mk λX Y ok =>
 bj (ud (X:=X) (i:=i) (by rw[ok.N];exact hN) (by unfold Pj;rw[ok.sc];exact hv) hd qT) λσ H Q q=>by
  obtain⟨F,aq,Qd,R,q,K⟩:=q;unfold ag at q
  split at q
  ·rename_i d e
   obtain⟨v,e2,r2⟩:=R.sh i d e;exact⟨v,e2,K v H F (.val d) aq (aA.refl _) R r2 q⟩
  ·rename_i xs e
   obtain⟨a,vs,e2,_⟩:=R.own i xs e;exact⟨_,e2,K _ H F (.var i) aq (aA.refl _) R e2 q⟩
  ·exact q.elim
def aZ(d:D):TV:=λσ Q=>Q (.val d) σ
theorem k9{Y:bN}{v:V}{d:D}(r:∀F,Rep F v d)(σ:St)(H:Hp)(Q:VK)(q:lO Y (aZ d) σ H Q):tC v σ H Q:=by
 obtain⟨F,aq,Qd,R,q,K⟩:=q;exact K v H F (.val d) aq (aA.refl _) R (r F) q
theorem au{i j pos}:EO G k S (.Constant (.int i) j pos) (aZ (.int i)):=.mk λ_ _ _=>bj LY (k9 λ_=>.int i)
theorem fz{b j pos}:EO G k S (.Constant (.bool b) j pos) (aZ (.bl b)):=.mk λ_ _ _=>bj Tg (k9 λ_=>.bl b)
theorem BD{j pos}:EO G k S (.Constant .none j pos) (aZ .bC):=.mk λ_ _ _=>bj L0 (k9 λ_=>.bC)
theorem rH{x j pos}:EO G k S (.Constant (.str x) j pos) (aZ (.str x)):=.mk λ_ _ _=>bj L5 (k9 λ_=>.str x)
def C9(G:GE)(x:Str)(d:D):Prop:=∃u v,G.mg x=some u/\RelV v u/\∀F,Rep F v d
theorem d3{X:Cx}{Y:bN}(ok:dH X G k S Y){x:Str}(h:S.sc.lookup x=some .globalImplicit):Gl X x:=by
 unfold Gl;show X.env.scope.names.lookup x=_;rw[ok.sc];exact h
theorem vI{x:Str}{d:D}{pos:Pos}(h:C9 G x d)(hg:S.sc.lookup x=some .globalImplicit:=by rfl)(hd:(x==("__debug__":Str))=false:=by decide):EO G k S (.Name x pos) (aZ d):=.mk λX Y ok=>by
 obtain⟨u,v,h1,h2,h3⟩:=h;exact bj (Ei (d3 ok hg) (by rw[ok.mg];exact h1) h2 hd) (k9 h3)
def eK(σ:Sd):OV->Option D
 | .val d=>some d
 | .any=>none
 | .var i=>match σ[i]? with
  | some (some (.sh d))=>some d
  | some (some (.own xs))=>some (.lst xs)
  | some (some (.obj o))=>o.view
  | _=>none
theorem Rep.h{F H:Hp}(s:aA F H){v:V}{d:D}(r:Rep F v d):cg F H v d:=by
 cases d with
 | lst xs =>
  cases r with
  | lst h r=>exact⟨_,_,rfl,Rd.mono s h,r⟩
 | sT kvs =>
  cases r with
  | sT h r=>exact⟨_,_,rfl,s _ _ h,r⟩
 | kp w c e kvs =>
  cases r with
  | kp h1 h2 r=>exact⟨_,_,_,_,rfl,s _ _ h1,s _ _ h2,r⟩
 | _=>exact r
theorem RS.eK{Y:bN}{F:Hp}{aq:Sd}{σ:St}{H:Hp}(R:RS Y F aq σ H){v:V}{x:OV}{d:D}(r:tf F σ v x)(e:eK aq x=some d):cg F H v d:=by
 cases x with
 | val d'=>cases e;exact Rep.h R.fr r
 | any=>cases e
 | var i =>
  have r:σ[i]?=some (some v):=r;have e:(match aq[i]? with|some (some (.sh d))=>some d|some (some (.own xs))=>some (.lst xs)|some (some (.obj o))=>o.view|_=>none)=some d:=e
  split at e
  ·rename_i d' q
   cases e;obtain⟨v2,e2,r2⟩:=R.sh i d q;rw[r]at e2;cases e2;exact Rep.h R.fr r2
  ·rename_i xs q
   cases e;obtain⟨a,vs,e2,h2,h3,_⟩:=R.own i xs q;rw[r]at e2;cases e2;exact⟨a,vs,rfl,.inl h2,h3⟩
  ·rename_i o q
   obtain⟨a,e2,h2,_⟩:=R.ob.obj i o q;rw[r]at e2;cases e2;exact o.sees h2 e
  ·cases e
theorem cg.int{F H:Hp}{v:V}{i:Int}(r:cg F H v (.int i)):v=.int i:=by cases(show Rep F v (.int i)from r);rfl
theorem cg.bl{F H:Hp}{v:V}{i:Bool}(r:cg F H v (.bl i)):v=.bl i:=by cases(show Rep F v (.bl i)from r);rfl
theorem cg.str{F H:Hp}{v:V}{i:Str}(r:cg F H v (.str i)):v=.str i:=by cases(show Rep F v (.str i)from r);rfl
theorem cg.bC{F H:Hp}{v:V}(r:cg F H v .bC):v=.bC:=by cases(show Rep F v .bC from r);rfl
theorem cg.tup{F H:Hp}(s:aA F H){v:V}{xs:List D}(r:cg F H v (.tup xs)):∃a vs,v=.ref a/\H a=some (.tup vs)/\aG F vs xs:=by
 cases(show Rep F v (.tup xs)from r)with
 | tup h r=>exact⟨_,_,rfl,s _ _ h,r⟩
theorem cg.lst{F H:Hp}{v:V}{xs:List D}(r:cg F H v (.lst xs)):∃a vs,v=.ref a/\Rd H a (.lst vs)/\aG F vs xs:=r
def Goes(Y:bN)(F:Hp)(aq:Sd)(σ:St)(Qd:EV->Prop)(Q:VK):Prop:=∀v H' F' r,aA F F'->RS Y F' aq σ H'->G4 Y F' H' aq σ v r->Qd r->Q v H'
theorem Goes.val{Y:bN}{F:Hp}{aq:Sd}{σ:St}{Qd:EV->Prop}{Q:VK}(g:Goes Y F aq σ Qd Q){H:Hp}(R:RS Y F aq σ H){v:V}{d:D}(r:Rep F v d)(q:Qd (.val d)):Q v H:=g v H F (.val d) (aA.refl _) R r q
theorem Goes.own{Y:bN}{F:Hp}{aq:Sd}{σ:St}{Qd:EV->Prop}{Q:VK}(g:Goes Y F aq σ Qd Q){H:Hp}(R:RS Y F aq σ H){vs:List V}{xs:List D}(r:aG F vs xs)(q:Qd (.own xs)):∀p,H p=none->Q (.ref p) (upd H p (.lst vs)):=λp hp=>by
 refine g (.ref p) _ F (.own xs) (aA.refl _) (R.tu hp) ⟨p,vs,rfl,aR,r,same_none R.fr hp,(R.dQ hp).1,⟨λj ys e z=>?_,λz=>(R.ob.owned z).2.1 hp⟩⟩ q;obtain⟨a,us,e1,e2,_⟩:=R.own j ys e;rw[e1]at z;cases z;rw[hp]at e2;cases e2
theorem Goes.tup{Y:bN}{F:Hp}{aq:Sd}{σ:St}{Qd:EV->Prop}{Q:VK}(g:Goes Y F aq σ Qd Q){H:Hp}(R:RS Y F aq σ H){vs:List V}{xs:List D}(r:aG F vs xs)(q:Qd (.val (.tup xs))):∀p,H p=none->Q (.ref p) (upd H p (.tup vs)):=λp hp=>by
 have sm:=aM (o:=.tup vs) (same_none R.fr hp);exact g (.ref p) _ _ (.val (.tup xs)) sm (R.alloc hp) (.tup aR (r.mono sm)) q
def fJ(r:R2)(f:D->D->(EV->Prop)->Prop):Prop:=
 ∀Y F H aq σ v u x y Qd Q,RS Y F aq σ H->cg F H v x->cg F H u y->f x y Qd->Goes Y F aq σ Qd Q->r v u H Q
def bf(f:D->D->(EV->Prop)->Prop)(ta tb:TV):TX:=λσ Q=>ta σ λx aC=>tb aC λy bq=>match eK bq x,eK bq y with
 | some a,some b=>f a b λr=>Q r bq
 | _,_=>False
theorem tf.mono{F F':Hp}(s:aA F F'){σ:St}{v:V}{x:OV}(r:tf F σ v x):tf F' σ v x:=by
 cases x with
 | val d=>exact Rep.mono s r
 | var i=>exact r
 | any=>trivial
theorem uF{Y:bN}{r:R2}{f:D->D->(EV->Prop)->Prop}(hs:fJ r f){ta tb:TV}{σ:St}{H:Hp}{Q:VK}(q:lX Y (bf f ta tb) σ H Q):OQ r (lO Y ta) (lO Y tb) σ H Q:=by
 obtain⟨F,aq,Qd,R,q,K⟩:=q;refine⟨F,aq,_,R,q,λv1 H1 F1 x aC s1 R1 r1 q1=>?_⟩;refine⟨F1,aC,_,R1,q1,λv2 H2 F2 y bq s2 R2 r2 q2=>?_⟩
 split at q2
 ·rename_i a b ea eb
  exact hs Y F2 H2 bq σ v1 v2 a b _ Q R2 (R2.eK (r1.mono s2) ea) (R2.eK r2 eb) q2 λv H' F' r s R' rr qq=>K v H' F' r bq ((s1.trans s2).trans s) R' rr qq
 ·exact q2.elim
theorem nH{op:Operator}{f:D->D->(EV->Prop)->Prop}{r:PySem.W.Frag->R2}(ho:∀X,f9 X (binaryOp op) (r X.K))(hs:∀K,fJ (r K) f){a b:Expr}{ta tb:TV}{pos:Pos}(ha:EO G k S a ta)(hb:EO G k S b tb):
  EX G k S (.BinOp a op b pos) (bf f ta tb):=.mk λX Y ok=>bj (Tn (ho X) (ha X Y ok) (hb X Y ok)) λσ H Q q=>uF (hs X.K) q
def dk:D->D->(EV->Prop)->Prop
 | .int i,.int j,Q=>Q (.val (.int (i+j)))
 | .str a,.str b,Q=>a.length+b.length<=sizeLine/\Q (.val (.str (a++b)))
 | .lst a,.lst b,Q=>a.length+b.length<=sizeLine/\Q (.own (a++b))
 | .tup a,.tup b,Q=>(a≠[]/\a.length+b.length<=sizeLine)/\Q (.val (.tup (a++b)))
 | _,_,_=>False
def GC:R2:=λx y H Q=>∃l b xs zs,x=.ref l/\y=.ref b/\Rd H l (.lst xs)/\Rd H b (.lst zs)/\xs.length+zs.length<=sizeLine/\∀p,H p=none->Q (.ref p) (upd H p (.lst (xs++zs)))
theorem Inv.U8{X:Cx}{pins:List (Addr×Obj)}{σ:St}{H:Hp}{s:Shared}{l:Addr}{xs:List V}(I:L2.Inv X pins σ H s)(h:Rd H l (.lst xs)):
  xs.length<=sizeLine/\∃(its:List Value) (n:Nat),Vals xs its/\xs.length=its.length/\s.heap.get? l=some {cls:=.type "list",data:=.seq its.toArray n}:=by
 obtain⟨z,its,n,r,e⟩:=L2.Rd.ok h I.bU;exact⟨z,its,n,r,r.length,e⟩
theorem D9{X:Cx}:f9 X (binaryOp .Add) GC:=by
 intro pins s σ H x y v u Q I rx ry h;obtain⟨l,b,xs,zs,rfl,rfl,hH,hB,hz,q⟩:=h;cases rx;cases ry;obtain⟨z,its,n,r,hl,e⟩:=Inv.U8 I hH;obtain⟨z2,JU,n2,r2,Rw,e2⟩:=Inv.U8 I hB;refine PySem.P.add_list e e2 ?_ (by rw[List.size_toArray,List.size_toArray];omega)
 have ea:its.toArray++JU.toArray=(its++JU).toArray:=by simp
 rw[ea];exact⟨.ref _,_,I.Ku (t':=s.toks) (r.append r2) (by rw[List.length_append];omega),rfl,q _ I.fresh⟩
def Ey(K:PySem.W.Frag):R2:=λx y H Q=>(∃i j,x=.int i/\y=.int j/\Q (.int (i+j)) H)\/(∃i j,x=.str i/\y=.str j/\i.length+j.length<=sizeLine/\Q (.str (i++j)) H)\/GC x y H Q\/GD K x y H Q
theorem xj{X:Cx}:f9 X (binaryOp .Add) (Ey X.K):=Lq.or (ub.or (D9.or Ea))
theorem wm(K:PySem.W.Frag):fJ (Ey K) dk:=by
 intro Y F H aq σ v u x y Qd Q R rx ry q g;unfold dk at q
 split at q
 ·obtain rfl:=rx.int;obtain rfl:=ry.int
  exact .inl ⟨_,_,rfl,rfl,g.val R (.int _) q⟩
 ·obtain rfl:=rx.str;obtain rfl:=ry.str
  exact .inr (.inl ⟨_,_,rfl,rfl,q.1,g.val R (.str _) q.2⟩)
 ·obtain⟨a,vs,rfl,h1,r1⟩:=rx.lst;obtain⟨b,us,rfl,h2,r2⟩:=ry.lst
  exact .inr (.inr (.inl ⟨a,b,vs,us,rfl,rfl,h1,h2,by rw[r1.length,r2.length];exact q.1,g.own R (r1.append r2) q.2⟩))
 ·have Xs:=rx
  obtain⟨a,vs,rfl,h1,r1⟩:=rx.tup R.fr;obtain⟨b,us,rfl,h2,r2⟩:=ry.tup R.fr;refine .inr (.inr (.inr ⟨a,b,vs,us,rfl,rfl,.of h1,.of h2,λz=>?_,by rw[r1.length,r2.length];exact q.1.2,λz=>?_,λ_=>g.tup R (r1.append r2) q.2⟩))
  ·subst z
   cases r1;exact q.1.1 rfl
  ·subst z
   cases r2;rw[List.append_nil]at q;exact g.val R Xs q.2
 ·exact q.elim
theorem cI{a b:Expr}{ta tb:TV}{pos:Pos}(ha:EO G k S a ta)(hb:EO G k S b tb):EX G k S (.BinOp a .Add b pos) (bf dk ta tb):=nH (r:=Ey) (λ_=>xj) wm ha hb
def OA(C:Int->Int->Prop)(g:Int->Int->Int):D->D->(EV->Prop)->Prop
 | .int i,.int j,Q=>C i j/\Q (.val (.int (g i j)))
 | _,_,_=>False
theorem k7{C:Int->Int->Prop}{g:Int->Int->Int}:fJ (rI C λi j=>.int (g i j)) (OA C g):=by
 intro Y F H aq σ v u x y Qd Q R rx ry q gg;unfold OA at q
 split at q
 ·obtain rfl:=rx.int;obtain rfl:=ry.int
  exact⟨_,_,rfl,rfl,q.1,gg.val R (.int _) q.2⟩
 ·exact q.elim
def DQ(g:Int->Int->Int):D->D->(EV->Prop)->Prop
 | .int i,.int j,Q=>Q (.val (.int (g i j)))
 | _,_,_=>False
theorem wR{g:Int->Int->Int}:fJ (C5 λi j=>.int (g i j)) (DQ g):=by
 intro Y F H aq σ v u x y Qd Q R rx ry q gg;unfold DQ at q
 split at q
 ·obtain rfl:=rx.int;obtain rfl:=ry.int
  exact⟨_,_,rfl,rfl,gg.val R (.int _) q⟩
 ·exact q.elim
section
variable {a b:Expr}{ta tb:TV}{pos:Pos}
def fC:=DQ λi j=>i-j
def oP:=OA (λ_ j=>0<j) λi j=>i%j
def oW:=OA mG λi j=>i^j.toNat
theorem dW(ha:EO G k S a ta)(hb:EO G k S b tb):EX G k S (.BinOp a .Sub b pos) (bf fC ta tb):=nH (r:=λ_=>_) (λ_=>Lz) (λ_=>wR) ha hb
theorem lM(ha:EO G k S a ta)(hb:EO G k S b tb):EX G k S (.BinOp a .Mod b pos) (bf oP ta tb):=nH (r:=λ_=>_) (λ_=>Lv) (λ_=>k7) ha hb
theorem lN(ha:EO G k S a ta)(hb:EO G k S b tb):EX G k S (.BinOp a .Pow b pos) (bf oW ta tb):=nH (r:=λ_=>_) (λ_=>Ly) (λ_=>k7) ha hb
end
def ku:D->D->(EV->Prop)->Prop
 | .int i,.int j,Q=>gW i j/\Q (.val (.int (i*j)))
 | .lst xs,.int j,Q=>(-(2^63)<=j/\j<2^63/\xs.length*j.toNat<=sizeLine)/\Q (.own (List.replicate j.toNat xs).flatten)
 | _,_,_=>False
def GF:R2:=λx y H Q=>∃l k xs,x=.ref l/\y=.int k/\Rd H l (.lst xs)/\-(2^63)<=k/\k<2^63/\xs.length*k.toNat<=sizeLine /\
 ∀p,H p=none->Q (.ref p) (upd H p (.lst (List.replicate k.toNat xs).flatten))
theorem Ed{X:Cx}:f9 X (binaryOp .Mult) GF:=by
 intro pins s σ H x y v u Q I rx ry h;obtain⟨l,k,xs,rfl,rfl,hH,h1,h2,hz,q⟩:=h;cases rx;obtain⟨t,rfl⟩:=ry;obtain⟨z,its,n,r,hl,e⟩:=Inv.U8 I hH;have hlen:its.toArray.size*k.toNat<=sizeLine:=by rw[List.size_toArray,<- hl];exact hz
 have tR:¬its.toArray.size*k.toNat>(2^63-1)/8:=by
  have:(sizeLine:Nat)<=(2^63-1)/8:=by decide
  omega
 have Wa:¬(!Builtin.List.listFitsIndex k)=true:=by
  rw[fitsIndex_both h1 h2];exact Bool.false_ne_true
 have Rz:¬Builtin.List.listTooLong (its.toArray.size*k.toNat)=true:=by
  rw[A8 hlen];exact Bool.false_ne_true
 have AB:List.foldl (λx1 x2=>x1++x2) #[] (List.replicate (if its.toArray.isEmpty=true then 0 else k.toNat) its.toArray)=(List.replicate k.toNat its).flatten.toArray:=by
  have f0:∀m:Nat,List.foldl (λx1 x2=>x1++x2) #[] (List.replicate m its.toArray)=(List.replicate m its).flatten.toArray:=λm=>by
   have:=foldl_rep its m [];rw[List.nil_append]at this;exact this
  rw[f0];cases its with
  | nil=>simp
  | cons a r'=>rw[if_neg (by simp)]
 refine wpAny_binaryOp_repeat_ref (T:="list") (U:="int") ∅ ⟨_,e,rfl⟩ (λs'=>typeIs_int s' k t) noFill_list_mul F.fills_int_mul F.slot_int_rmul repeat_list F.slot_int_index.lookup
  (call_meets F.slot_int_rmul (typeIs_int s k t) F.entry_int_rmul (F.args_int_rmul_2 _ _) (int___rmul___int_list k t l its.toArray n)
   ⟨e,rfl,⟨_,e,rfl⟩,call_meets F.slot_list_mul ⟨_,e,rfl⟩ F.entry_list_mul (F.args_list_mul_2 _ _) (AutoListH.list___mul___list_int_3 l its.toArray n k t Wa tR Rz) ⟨e,?_⟩⟩)
 rw[AB];exact⟨.ref _,_,I.Ku (t':=s.toks) (r.rep k.toNat) (by rw[len_rep,Nat.mul_comm];exact hz),rfl,q _ I.fresh⟩
def TU:R2:=λx y H Q=>rI gW (λi j=>.int (i*j)) x y H Q\/GF x y H Q
theorem xf:fJ TU ku:=by
 intro Y F H aq σ v u x y Qd Q R rx ry q g;unfold ku at q
 split at q
 ·obtain rfl:=rx.int;obtain rfl:=ry.int
  exact .inl ⟨_,_,rfl,rfl,q.1,g.val R (.int _) q.2⟩
 ·obtain⟨a,vs,rfl,h1,r1⟩:=rx.lst;obtain rfl:=ry.int
  exact .inr ⟨a,_,vs,rfl,rfl,h1,q.1.1,q.1.2.1,by rw[r1.length];exact q.1.2.2,g.own R (r1.rep _) q.2⟩
 ·exact q.elim
theorem j3{a b:Expr}{ta tb:TV}{pos:Pos}(ha:EO G k S a ta)(hb:EO G k S b tb):EX G k S (.BinOp a .Mult b pos) (bf ku ta tb):=nH (r:=λ_=>TU) (λ_=>Lw.or Ed) (λ_=>xf) ha hb
def E2(t:TV):TV:=λσ Q=>t σ λx aC=>match eK aC x with
 | some (.int i)=>Q (.val (.int (-i))) aC
 | _=>False
theorem GH{a:Expr}{ta:TV}{pos:Pos}(ha:EO G k S a ta):EO G k S (.UnaryOp .USub a pos) (E2 ta):=.mk λX Y ok=>bj (Tq Ob (ha X Y ok)) λσ H Q q=>by
 obtain⟨F,aq,Qd,R,q,K⟩:=q;refine⟨F,aq,_,R,q,λv1 H1 F1 x aC s1 R1 r1 q1=>?_⟩
 split at q1
 ·rename_i i e
  obtain rfl:=(R1.eK r1 e).int;exact⟨i,rfl,K _ H1 F1 (.val (.int (-i))) aC s1 R1 (.int _) q1⟩
 ·exact q1.elim
end Vc
namespace Vc
open PySem L2
variable [KF]
variable {G:GE}{k:Nat}{S:Stat}
mutual
def dD:D->D->Bool
 | .bC,.bC=>true
 | .bl a,.bl b=>a==b
 | .bl a,.int j=>(if a then 1 else 0)==j
 | .int i,.bl b=>i==(if b then 1 else 0)
 | .int i,.int j=>i==j
 | .str x,.str y=>x==y
 | .lst xs,.lst ys=>kT xs ys
 | .tup xs,.tup ys=>kT xs ys
 | _,_=>false
def kT:List D->List D->Bool
 | [],[]=>true
 | x::xs,y::ys=>dD x y&&kT xs ys
 | _,_=>false
end
def bI:Nat->D->Bool
 | _,.bC=>true
 | _,.bl _=>true
 | _,.int _=>true
 | _,.str x=>x.cps.all (· < 0x110000)
 | n+1,.tup xs=>xs.all (bI n)
 | n+1,.lst xs=>xs.all (bI n)
 | _,_=>false
mutual
def toPy:D->PyData
 | .bC=>.none
 | .bl b=>.bool b
 | .int i=>.int i
 | .str x=>.str x
 | .tup xs=>.tuple (de xs)
 | .lst xs=>.list (de xs)
 | _=>.none
def de:List D->List PyData
 | []=>[]
 | x::xs=>toPy x::de xs
end
theorem oA{n m:Nat}(ih:∀x y,bI n x=true->bI m y=true->dD x y=PyData.eqv (toPy x) (toPy y)):∀xs ys:List D,xs.all (bI n)=true->ys.all (bI m)=true->kT xs ys=PyData.eqvAll (de xs) (de ys)
 | [],[],_,_=>rfl
 | [],_::_,_,_=>rfl
 | _::_,[],_,_=>rfl
 | x::xs,y::ys,h1,h2=>by
  rw[List.all_cons,Bool.and_eq_true]at h1 h2;show(dD x y&&kT xs ys)=(PyData.eqv (toPy x) (toPy y)&&PyData.eqvAll (de xs) (de ys));rw[ih x y h1.1 h2.1,oA ih xs ys h1.2 h2.2]
theorem tJ:∀(n m:Nat) (x y:D),bI n x=true->bI m y=true->dD x y=PyData.eqv (toPy x) (toPy y):=by
 intro n
 induction n with
 | zero =>
  intro m x y h1 h2;cases x with
  | tup _=>exact absurd h1 (by simp [bI])
  | lst _=>exact absurd h1 (by simp [bI])
  | dct _=>exact absurd h1 (by simp [bI])
  | exc _=>exact absurd h1 (by simp [bI])
  | fk _=>exact absurd h1 (by simp [bI])
  | sT _=>exact absurd h1 (by simp [bI])
  | kp _ _ _ _=>exact absurd h1 (by simp [bI])
  | _=>cases y<;>first|rfl | (cases m<;>exact absurd h2 (by simp [bI]))
 | succ n ih =>
  intro m x y h1 h2;cases x with
  | tup xs =>
   cases y with
   | tup ys =>
    cases m with
    | zero=>exact absurd h2 (by simp [bI])
    | succ m=>exact oA (ih m) xs ys h1 h2
   | _=>first|rfl | (cases m<;>exact absurd h2 (by simp [bI]))
  | lst xs =>
   cases y with
   | lst ys =>
    cases m with
    | zero=>exact absurd h2 (by simp [bI])
    | succ m=>exact oA (ih m) xs ys h1 h2
   | _=>first|rfl | (cases m<;>exact absurd h2 (by simp [bI]))
  | dct _=>exact absurd h1 (by simp [bI])
  | exc _=>exact absurd h1 (by simp [bI])
  | fk _=>exact absurd h1 (by simp [bI])
  | sT _=>exact absurd h1 (by simp [bI])
  | kp _ _ _ _=>exact absurd h1 (by simp [bI])
  | _=>cases y<;>first|rfl | (cases m<;>exact absurd h2 (by simp [bI]))
theorem cM{n:Nat}(ih:∀x,bI n x=true->(toPy x).canLay0=true/\(toPy x).depth<=n):∀xs:List D,xs.all (bI n)=true->PyData.canLayAll0 (de xs)=true/\PyData.depthAll (de xs)<=n
 | [],_=>⟨rfl,Nat.zero_le _⟩
 | x::xs,h=>by
  rw[List.all_cons,Bool.and_eq_true]at h;have h1:=ih x h.1;have h2:=cM ih xs h.2;refine⟨?_,?_⟩
  ·show((toPy x).canLay0&&PyData.canLayAll0 (de xs))=true
   rw[h1.1,h2.1];rfl
  ·show max (toPy x).depth (PyData.depthAll (de xs))<=n
   exact Nat.max_le.mpr ⟨h1.2,h2.2⟩
theorem eR:∀(n:Nat) (x:D),bI n x=true->(toPy x).canLay0=true/\(toPy x).depth<=n:=by
 intro n
 induction n with
 | zero =>
  intro x h;cases x with
  | tup _=>exact absurd h (by simp [bI])
  | lst _=>exact absurd h (by simp [bI])
  | dct _=>exact absurd h (by simp [bI])
  | exc _=>exact absurd h (by simp [bI])
  | fk _=>exact absurd h (by simp [bI])
  | sT _=>exact absurd h (by simp [bI])
  | kp _ _ _ _=>exact absurd h (by simp [bI])
  | _=>first|exact⟨rfl,Nat.zero_le _⟩ | (exact⟨by simpa [bI,toPy,PyData.canLay0,PyData.strOk]using h,Nat.zero_le _⟩)
 | succ n ih =>
  intro x h;cases x with
  | tup xs =>
   have:=cM ih xs h;exact⟨this.1,Nat.succ_le_succ this.2⟩
  | lst xs =>
   have:=cM ih xs h;exact⟨this.1,Nat.succ_le_succ this.2⟩
  | dct _=>exact absurd h (by simp [bI])
  | exc _=>exact absurd h (by simp [bI])
  | fk _=>exact absurd h (by simp [bI])
  | sT _=>exact absurd h (by simp [bI])
  | kp _ _ _ _=>exact absurd h (by simp [bI])
  | _=>first|exact⟨rfl,Nat.zero_le _⟩ | (exact⟨by simpa [bI,toPy,PyData.canLay0,PyData.strOk]using h,Nat.zero_le _⟩)
section
variable {P:Program}{w:World}{F H:Hp}{h:Heap}
mutual
theorem Rep.reads(ok:gn P w H h)(s:aA F H):∀ {v:V} {d:D} {u:Value} (n:Nat),Rep F v d->RelV v u->bI n d=true->∃as,Reads h u (toPy d) as
 | _,_,_,_,.bC,e,_=>by cases e;exact⟨_,.none⟩
 | _,_,_,_,.bl b,e,_=>by cases e;exact⟨_,.bool b⟩
 | _,_,_,_,.int i,e,_=>by obtain⟨t,rfl⟩:=e;exact⟨_,.int i t⟩
 | _,_,_,_,.str x,e,_=>by obtain⟨t,rfl⟩:=e;exact⟨_,.str x t⟩
 | _,_,_,0,.tup _ _,_,o=>by exact absurd o (by simp [bI])
 | _,_,_,0,.lst _ _,_,o=>by exact absurd o (by simp [bI])
 | _,_,_,n+1,.tup (a:=a) (vs:=vs) hf r,e,o=>by
  cases e;obtain⟨_,its,rv,ob,ho,hc,m,hd⟩:=ok a _ (s a _ hf);obtain⟨as,q⟩:=aG.reads ok s n r rv o;exact⟨as,.tuple ho hc hd q⟩
 | _,_,_,n+1,.lst (a:=a) (vs:=vs) hf r,e,o=>by
  cases e;obtain⟨_,its,m,rv,ho⟩:=L2.Rd.ok (Rd.mono s hf) ok;obtain⟨as,q⟩:=aG.reads ok s n r rv o;exact⟨_,.list ho rfl rfl q⟩
 | _,_,_,n,.fk _,_,o=>by cases n<;>exact absurd o (by simp [bI])
 | _,_,_,n,.exc _,_,o=>by cases n<;>exact absurd o (by simp [bI])
 | _,_,_,n,.wD _ _,_,o=>by cases n<;>exact absurd o (by simp [bI])
 | _,_,_,n,.sT _ _,_,o=>by cases n<;>exact absurd o (by simp [bI])
 | _,_,_,n,.kp _ _ _,_,o=>by cases n<;>exact absurd o (by simp [bI])
theorem aG.reads(ok:gn P w H h)(s:aA F H):∀ {vs:List V} {ds:List D} {us:List Value} (n:Nat),aG F vs ds->Vals vs us->ds.all (bI n)=true->∃as,ReadsAll h us (de ds) as
 | _,_,_,_,.nil,.nil,_=>⟨_,.nil⟩
 | _,_,_,n,.cons r t,.cons e f,o=>by
  rw[List.all_cons,Bool.and_eq_true]at o;obtain⟨as,h1⟩:=Rep.reads ok s n r e o.1;obtain⟨bs,h2⟩:=aG.reads ok s n t f o.2;exact⟨_,.cons h1 h2⟩
end
theorem cg.reads(ok:gn P w H h)(s:aA F H){v:V}{d:D}{u:Value}(r:cg F H v d)(e:RelV v u)(o:bI 8 d=true):∃as,Reads h u (toPy d) as:=by
 cases d with
 | lst xs =>
  obtain⟨a,vs,rfl,hf,r⟩:=r;cases e;obtain⟨_,its,n,rv,ho⟩:=L2.Rd.ok hf ok;obtain⟨as,q⟩:=aG.reads ok s 7 r rv o;exact⟨_,.list ho rfl rfl q⟩
 | sT _=>exact absurd o (by simp [bI])
 | kp _ _ _ _=>exact absurd o (by simp [bI])
 | _=>exact Rep.reads ok s 8 r e o
end
theorem fW{x:D}(h:bI 8 x=true):PySem.SeqAt.shaped (toPy x)=true:=by
 obtain⟨h1,h2⟩:=eR 8 x h;unfold PySem.SeqAt.shaped;rw[h1,decide_eq_true ⋯];rfl
def EA(neg:Bool):R2:=λv u H Q=>∃F x y,aA F H/\cg F H v x/\cg F H u y/\bI 8 x=true/\bI 8 y=true/\Q (.bl (if neg then !dD x y else dD x y)) H
theorem Lr{X:Cx}(hu:X.A.units+64<cLine):f9 X (compareOp .Eq) (EA false):=by
 intro pins s σ H v u v' u' Q I rv ru h;obtain⟨F,x,y,sm,rx,ry,ox,oy,q⟩:=h;obtain⟨as,r1⟩:=rx.reads I.bU sm rv ox;obtain⟨bs,r2⟩:=ry.reads I.bU sm ru oy;refine PyProof.Rows.eq_dataH r1 r2 (fW ox) (fW oy) hu ⟨.bl (dD x y),H,I,?_,q⟩;rw[tJ 8 8 x y ox oy];rfl
theorem Lx{X:Cx}(hu:X.A.units+64<cLine):f9 X (compareOp .NotEq) (EA true):=by
 intro pins s σ H v u v' u' Q I rv ru h;obtain⟨F,x,y,sm,rx,ry,ox,oy,q⟩:=h;obtain⟨as,r1⟩:=rx.reads I.bU sm rv ox;obtain⟨bs,r2⟩:=ry.reads I.bU sm ru oy;refine PyProof.Rows.ne_dataH r1 r2 (fW ox) (fW oy) hu ⟨.bl (!dD x y),H,I,?_,q⟩;rw[tJ 8 8 x y ox oy];rfl
end Vc
namespace Vc
open PySem L2
variable [KF]
variable {G:GE}{k:Nat}{S:Stat}
def kI(r:R2)(f:D->D->(Bool->Prop)->Prop):Prop:=
 ∀Y F H aq σ v u x y (Qd:Bool->Prop) (Q:VK),RS Y F aq σ H->cg F H v x->cg F H u y->f x y Qd->(∀b,Qd b->Q (.bl b) H)->r v u H Q
def aV(f:D->D->(Bool->Prop)->Prop)(ta tb:TV):TB:=λσ Q=>ta σ λx aC=>tb aC λy bq=>match eK bq x,eK bq y with
 | some a,some b=>f a b λr=>Q r bq
 | _,_=>False
def bV(t:TB):TV:=λσ Q=>t σ λb aC=>Q (.val (.bl b)) aC
theorem nc{Y:bN}{r:R2}{f:D->D->(Bool->Prop)->Prop}(hs:kI r f){ta tb:TV}{σ:St}{H:Hp}{Q:VK}{F:Hp}{aq:Sd}{Qd:Bool->Sd->Prop}(R:RS Y F aq σ H)(q:aV f ta tb aq Qd)
  (K:∀b H' F' aX,aA F F'->RS Y F' aX σ H'->Qd b aX->Q (.bl b) H'):OQ r (lO Y ta) (lO Y tb) σ H Q:=by
 refine⟨F,aq,_,R,q,λv1 H1 F1 x aC s1 R1 r1 q1=>?_⟩;refine⟨F1,aC,_,R1,q1,λv2 H2 F2 y bq s2 R2 r2 q2=>?_⟩
 split at q2
 ·rename_i a b ea eb
  exact hs Y F2 H2 bq σ v1 v2 a b _ Q R2 (R2.eK (r1.mono s2) ea) (R2.eK r2 eb) q2 λc qc=>K c H2 F2 bq (s1.trans s2) R2 qc
 ·exact q2.elim
def kh(G:GE)(k:Nat)(S:Stat)(op:CmpOp)(f:D->D->(Bool->Prop)->Prop):Prop:=∃r:R2,(∀X Y,dH X G k S Y->f9 X (compareOp op) r)/\kI r f
theorem aP{op:CmpOp}{f:D->D->(Bool->Prop)->Prop}(h:kh G k S op f){a b:Expr}{ta tb:TV}{pos:Pos}(ha:EO G k S a ta)(hb:EO G k S b tb)(hm:behindInMarks op b=false:=by first|exact A6 _|with_unfolding_all rfl):
  EB G k S (.Compare a [op] [b] pos) (aV f ta tb):=.mk λX Y ok=>by
 obtain⟨r,ho,hs⟩:=h;refine uh (Eu (ho X Y ok) (ha X Y ok) (hb X Y ok) hm) λσ H Q q=>?_;obtain⟨F,aq,Qd,R,q,K⟩:=q;exact nc hs R q λb H' F' aX s R' qq=>⟨b,rfl,K b H' F' aX s R' qq⟩
theorem nJ{op:CmpOp}{f:D->D->(Bool->Prop)->Prop}(h:kh G k S op f){a b:Expr}{ta tb:TV}{pos:Pos}(ha:EO G k S a ta)(hb:EO G k S b tb)(hm:behindInMarks op b=false:=by first|exact A6 _|with_unfolding_all rfl):
  EO G k S (.Compare a [op] [b] pos) (bV (aV f ta tb)):=.mk λX Y ok=>by
 obtain⟨r,ho,hs⟩:=h;refine bj (Eh (ho X Y ok) (ha X Y ok) (hb X Y ok) hm) λσ H Q q=>?_;obtain⟨F,aq,Qd,R,q,K⟩:=q;exact nc hs R q λb H' F' aX s R' qq=>K _ H' F' (.val (.bl b)) aX s R' (.bl b) qq
def eqT(x y:D)(Q:Bool->Prop):Prop:=(bI 8 x=true/\bI 8 y=true)/\Q (dD x y)
def neT(x y:D)(Q:Bool->Prop):Prop:=(bI 8 x=true/\bI 8 y=true)/\Q (!dD x y)
theorem mH:kh G k S .Eq eqT:=⟨EA false,λX Y ok=>Lr ok.units,λY F H aq σ v u x y Qd Q R rx ry q K=>⟨F,x,y,R.fr,rx,ry,q.1.1,q.1.2,K _ q.2⟩⟩
theorem g0:kh G k S .NotEq neT:=⟨EA true,λX Y ok=>Lx ok.units,λY F H aq σ v u x y Qd Q R rx ry q K=>⟨F,x,y,R.fr,rx,ry,q.1.1,q.1.2,K _ q.2⟩⟩
def JQ(p:Int->Int->Bool):D->D->(Bool->Prop)->Prop
 | .int i,.int j,Q=>Q (p i j)
 | _,_,_=>False
theorem fO{p:Int->Int->Bool}:kI (C5 λi j=>.bl (p i j)) (JQ p):=λY F H aq σ v u x y Qd Q R rx ry q K=>by
 unfold JQ at q
 split at q
 ·obtain rfl:=rx.int;obtain rfl:=ry.int
  exact⟨_,_,rfl,rfl,K _ q⟩
 ·exact q.elim
def Gv:=JQ λi j=>decide (i<j)
def Sg:=JQ λi j=>decide (i<=j)
def Gg:=JQ λi j=>decide (j<i)
def QY:=JQ λi j=>decide (j<=i)
theorem Dq:kh G k S .Lt Gv:=⟨_,λ_ _ _=>S6,fO⟩
theorem Hv:kh G k S .LtE Sg:=⟨_,λ_ _ _=>S5,fO⟩
theorem wt:kh G k S .Gt Gg:=⟨_,λ_ _ _=>S4,fO⟩
theorem Hu:kh G k S .GtE QY:=⟨_,λ_ _ _=>S3,fO⟩
def isNone:D->Bool
 | .bC=>true
 | _=>false
def JT(x y:D)(Q:Bool->Prop):Prop:=isNone y=true/\Q (!isNone x)
theorem cg.isNone{F H:Hp}{v:V}{x:D}(r:cg F H v x):decide (v=.bC)=isNone x:=by
 cases x with
 | lst xs=>obtain⟨a,vs,rfl,_⟩:=r;rfl
 | dct _=>cases(show Rep F v (.dct _)from r);rfl
 | exc _=>cases(show Rep F v (.exc _)from r);rfl
 | fk _=>cases(show Rep F v (.fk _)from r);rfl
 | sT _=>obtain⟨a,ks,rfl,_⟩:=r;rfl
 | kp _ _ _ _=>obtain⟨a,dx,ad,ks,rfl,_⟩:=r;rfl
 | bC=>obtain rfl:=r.bC;rfl
 | bl _=>obtain rfl:=r.bl;rfl
 | int _=>obtain rfl:=r.int;rfl
 | str _=>obtain rfl:=r.str;rfl
 | tup _=>cases(show Rep F v (.tup _)from r);rfl
theorem cg.Kz{F H:Hp}{v:V}{x:D}(r:cg F H v x)(h:Vc.isNone x=true):v=.bC:=by
 cases x<;>first|exact r.bC|cases h
theorem PC:kh G k S .IsNot JT:=⟨_,λ_ _ _=>Ec,λY F H aq σ v u x y Qd Q R rx ry q K=>⟨ry.Kz q.1,by rw[rx.isNone];exact K _ q.2⟩⟩
def N7:D->(Bool->Prop)->Prop
 | .bC,Q=>Q false
 | .bl b,Q=>Q b
 | .int i,Q=>Q (i != 0)
 | .lst xs,Q=>Q (!xs.isEmpty)
 | .tup xs,Q=>Q (!xs.isEmpty)
 | _,_=>False
def xF(t:TV):TB:=λσ Q=>t σ λx aC=>match eK aC x with
 | some d=>N7 d λb=>Q b aC
 | none=>False
theorem ip{F:Hp}{vs:List V}{xs:List D}(r:aG F vs xs):(!xs.isEmpty)=!vs.isEmpty:=by cases r<;>rfl
theorem o4{e:Expr}{t:TV}(h:EO G k S e t)(he:∀env whole,isTrue e env whole=(do let v <- whole;standAt e.pos;holding [v] (truthy v)):=by intro _ _;rfl):EB G k S e (xF t):=.mk λX Y ok=>by
 refine uh (Bw (h X Y ok) (he _)) λσ H Q q=>?_;obtain⟨F,aq,Qd,R,q,K⟩:=q;refine⟨F,aq,_,R,q,λv1 H1 F1 x aC s1 R1 r1 q1=>?_⟩
 split at q1
 ·rename_i d ed
  have r:=R1.eK r1 ed;unfold N7 at q1
  split at q1
  ·obtain rfl:=r.bC;exact⟨false,rfl,K _ H1 F1 aC s1 R1 q1⟩
  ·rename_i b;obtain rfl:=r.bl;exact⟨b,rfl,K _ H1 F1 aC s1 R1 q1⟩
  ·rename_i i;obtain rfl:=r.int;exact⟨_,rfl,K _ H1 F1 aC s1 R1 q1⟩
  ·rename_i xs;obtain⟨a,vs,rfl,h1,h2⟩:=r.lst
   exact⟨!xs.isEmpty,.inl ⟨vs,.inl h1,ip h2⟩,K _ H1 F1 aC s1 R1 q1⟩
  ·rename_i xs;obtain⟨a,vs,rfl,h1,h2⟩:=r.tup R1.fr
   exact⟨!xs.isEmpty,.inr (.inl ⟨vs,.inl (.inl h1),ip h2⟩),K _ H1 F1 aC s1 R1 q1⟩
  ·exact q1.elim
 ·exact q1.elim
def fD(t u:TB):TB:=λσ Q=>t σ λc aC=>if c=true then u aC Q else Q false aC
def mv(t u:TB):TB:=λσ Q=>t σ λc aC=>if c=true then Q true aC else u aC Q
def nO(t:TB):TB:=λσ Q=>t σ λc aC=>Q (!c) aC
structure EW(G:GE)(k:Nat)(S:Stat)(e:Expr)(t:TB) :Prop where
 run:∀X Y,dH X G k S Y->PW X e (lB Y t)
instance {G:GE} {k:Nat} {S:Stat} {e:Expr} {t:TB} :CoeFun (EW G k S e t) λ_=>∀X Y,dH X G k S Y->PW X e (lB Y t):=⟨EW.run⟩
theorem pw_imp{X:Cx}{e:Expr}{t t':TT}(h:PW X e t)(i:∀σ H Q,t' σ H Q->t σ H Q):PW X e t':=λwh pins s σ H Q I q=>h wh pins s σ H Q I (i σ H Q q)
section
variable {a b:Expr}{rest:List Expr}{ta tb:TB}{pos:Pos}
theorem C6(h:EW G k S a ta):EB G k S a ta:=.mk λX Y ok=>(h X Y ok).pt
theorem lL(ha:EB G k S a ta):EW G k S (.BoolOp .And [a] pos) ta:=.mk λX Y ok=>pw_and1 (ha X Y ok)
theorem rG(ha:EB G k S a ta):EW G k S (.BoolOp .Or [a] pos) ta:=.mk λX Y ok=>pw_or1 (ha X Y ok)
theorem lK(ha:EB G k S a ta)(hb:EW G k S (.BoolOp .And (b::rest) pos) tb):EW G k S (.BoolOp .And (a::b::rest) pos) (fD ta tb):=.mk λX Y ok=>pw_imp (pw_and (ha X Y ok) (hb X Y ok)) λσ H Q q=>by
 obtain⟨F,aq,Qd,R,q,K⟩:=q;refine⟨F,aq,_,R,q,λc H1 F1 aC s1 R1 q1=>?_⟩;cases c with
 | true=>exact⟨F1,aC,Qd,R1,q1,λb H' F' aX s R' qq=>K b H' F' aX (s1.trans s) R' qq⟩
 | false=>exact K false H1 F1 aC s1 R1 q1
theorem xv(ha:EB G k S a ta)(hb:EW G k S (.BoolOp .Or (b::rest) pos) tb):EW G k S (.BoolOp .Or (a::b::rest) pos) (mv ta tb):=.mk λX Y ok=>pw_imp (pw_or (ha X Y ok) (hb X Y ok)) λσ H Q q=>by
 obtain⟨F,aq,Qd,R,q,K⟩:=q;refine⟨F,aq,_,R,q,λc H1 F1 aC s1 R1 q1=>?_⟩;cases c with
 | false=>exact⟨F1,aC,Qd,R1,q1,λb H' F' aX s R' qq=>K b H' F' aX (s1.trans s) R' qq⟩
 | true=>exact K true H1 F1 aC s1 R1 q1
theorem oZ(ha:EB G k S a ta):EB G k S (.UnaryOp .Not a pos) (nO ta):=.mk λX Y ok=>uh (MC (ha X Y ok)) λσ H Q q=>by
 obtain⟨F,aq,Qd,R,q,K⟩:=q;exact⟨F,aq,_,R,q,λc H1 F1 aC s1 R1 q1=>K _ H1 F1 aC s1 R1 q1⟩
end
structure xM(G:GE)(k:Nat)(S:Stat)(e:Expr)(t:TB) :Prop where
 run:∀X Y,dH X G k S Y->PE X e (λσ H Q=>lB Y t σ H λb H'=>Q (.bl b) H')
instance {G:GE} {k:Nat} {S:Stat} {e:Expr} {t:TB} :CoeFun (xM G k S e t) λ_=>∀X Y,dH X G k S Y->PE X e (λσ H Q=>lB Y t σ H λb H'=>Q (.bl b) H'):=⟨xM.run⟩
section
variable {a b:Expr}{rest:List Expr}{ta tb:TB}{pos:Pos}
def j6(t:TV):TB:=λσ Q=>t σ λx aC=>match eK aC x with
 | some (.bl b)=>Q b aC
 | _=>False
theorem xJ{t:TV}(h:EO G k S a t):xM G k S a (j6 t):=.mk λX Y ok=>bj (h X Y ok) λσ H Q q=>by
 obtain⟨F,aq,Qd,R,q,K⟩:=q;refine⟨F,aq,_,R,q,λv1 H1 F1 x aC s1 R1 r1 q1=>?_⟩
 split at q1
 ·rename_i b eb
  obtain rfl:=(R1.eK r1 eb).bl;exact K b H1 F1 aC s1 R1 q1
 ·exact q1.elim
theorem Cy{op:BoolOp}(h:xM G k S a ta):xM G k S (.BoolOp op [a] pos) ta:=.mk λX Y ok=>L3 (h X Y ok)
theorem v_and(ha:xM G k S a ta)(hb:xM G k S (.BoolOp .And (b::rest) pos) tb):xM G k S (.BoolOp .And (a::b::rest) pos) (fD ta tb):=.mk λX Y ok=>bj (LX (ha X Y ok) (hb X Y ok)) λσ H Q q=>by
 obtain⟨F,aq,Qd,R,q,K⟩:=q;refine⟨F,aq,_,R,q,λc H1 F1 aC s1 R1 q1=>⟨c,rfl,?_⟩⟩;cases c with
 | true=>exact⟨F1,aC,Qd,R1,q1,λb H' F' aX s R' qq=>K b H' F' aX (s1.trans s) R' qq⟩
 | false=>exact K false H1 F1 aC s1 R1 q1
theorem v_or(ha:xM G k S a ta)(hb:xM G k S (.BoolOp .Or (b::rest) pos) tb):xM G k S (.BoolOp .Or (a::b::rest) pos) (mv ta tb):=.mk λX Y ok=>bj (Tp (ha X Y ok) (hb X Y ok)) λσ H Q q=>by
 obtain⟨F,aq,Qd,R,q,K⟩:=q;refine⟨F,aq,_,R,q,λc H1 F1 aC s1 R1 q1=>⟨c,rfl,?_⟩⟩;cases c with
 | false=>exact⟨F1,aC,Qd,R1,q1,λb H' F' aX s R' qq=>K b H' F' aX (s1.trans s) R' qq⟩
 | true=>exact K true H1 F1 aC s1 R1 q1
theorem MD(h:xM G k S a ta):EO G k S a (bV ta):=.mk λX Y ok=>bj (h X Y ok) λσ H Q q=>by
 obtain⟨F,aq,Qd,R,q,K⟩:=q;exact⟨F,aq,_,R,q,λb H1 F1 aC s1 R1 q1=>K _ H1 F1 (.val (.bl b)) aC s1 R1 (.bl b) q1⟩
end
end Vc
namespace Vc
open PySem L2
variable [KF]
variable {G:GE}{k:Nat}{S:Stat}
theorem aG.mD{F:Hp}{vs:List V}{xs:List D}{i:Int}{d:D}(r:aG F vs xs)(h:L2.mD xs i=some d):∃v,L2.mD vs i=some v/\Rep F v d:=by
 unfold L2.mD at h ⊢;rw[r.length];cases e:vt xs.length i with
 | none=>rw[e]at h;cases h
 | some j =>
  rw[e]at h;exact r.get (i:=j) h
def JV:D->D->(D->Prop)->Prop
 | .lst xs,.int i,Q=>match mD xs i with
  | some d=>Q d
  | none=>False
 | .tup xs,.int i,Q=>match mD xs i with
  | some d=>Q d
  | none=>False
 | .str z,.int i,Q=>z.length<=sizeLine/\match mD z.cps.toList i with
  | some c=>Q (.str ⟨#[c]⟩)
  | none=>False
 | .fk ns,.int i,Q=>match mD ns i with
  | some n=>Q (.int n)
  | none=>False
 | _,_,_=>False
theorem Dl{α β:Type}(f:α->β){xs:List α}{i:Int}{a:α}(h:L2.mD xs i=some a):L2.mD (xs.map f) i=some (f a):=by
 unfold L2.mD at h ⊢;rw[List.length_map];cases e:vt xs.length i with
 | none=>rw[e]at h;cases h
 | some j =>
  rw[e]at h;have h:xs[j]?=some a:=h;show(xs.map f)[j]?=_;rw[List.getElem?_map,h];rfl
def i7(ta tb:TV):TV:=λσ Q=>ta σ λx aC=>tb aC λy bq=>match eK bq x,eK bq y with
 | some a,some b=>JV a b λr=>Q (.val r) bq
 | _,_=>False
theorem dz{a b:Expr}{ta tb:TV}{pos:Pos}(ha:EO G k S a ta)(hb:EO G k S b tb)(hs:uO b:=by intro _ _;rfl):EO G k S (.Subscript a b pos) (i7 ta tb):=.mk λX Y ok =>
 bj (Tj JY (ha X Y ok) (hb X Y ok) hs) λσ H Q q=>by
  obtain⟨F,aq,Qd,R,q,K⟩:=q;refine⟨F,aq,_,R,q,λv1 H1 F1 x aC s1 R1 r1 q1=>?_⟩;refine⟨F1,aC,_,R1,q1,λv2 H2 F2 y bq s2 R2 r2 q2=>?_⟩
  split at q2
  ·rename_i a b ea eb
   have rx:=R2.eK (r1.mono s2) ea;have ry:=R2.eK r2 eb;have fin:∀ {v d},Rep F2 v d->Qd (.val d) bq->Q v H2:=λr qq=>K _ H2 F2 (.val _) bq (s1.trans s2) R2 r qq;unfold JV at q2
   split at q2
   ·obtain⟨p,vs,rfl,h1,r1⟩:=rx.lst;obtain rfl:=ry.int
    split at q2
    ·rename_i d e
     obtain⟨v,ev,rv⟩:=r1.mD e;exact .inl ⟨p,vs,_,v,rfl,rfl,.inl h1,ev,fin rv q2⟩
    ·exact q2.elim
   ·obtain⟨p,vs,rfl,h1,r1⟩:=rx.tup R2.fr;obtain rfl:=ry.int
    split at q2
    ·rename_i d e
     obtain⟨v,ev,rv⟩:=r1.mD e;exact .inr (.inl ⟨p,vs,_,v,rfl,rfl,.of h1,ev,fin rv q2⟩)
    ·exact q2.elim
   ·obtain rfl:=rx.str;obtain rfl:=ry.int
    obtain⟨hz,q2⟩:=q2
    split at q2
    ·rename_i c e
     exact .inr (.inr ⟨_,_,c,rfl,rfl,hz,e,fin (.str _) q2⟩)
    ·exact q2.elim
   ·rename_i ns i
    have rx:Rep F2 v1 (.fk ns):=rx;obtain rfl:=ry.int;cases rx with
    | fk h =>
     split at q2
     ·rename_i n e
      exact .inl ⟨_,ns.map V.int,_,.int n,rfl,rfl,by rw[ok.kf];exact R2.fr.seq h,Dl V.int e,fin (.int _) q2⟩
     ·exact q2.elim
   ·exact q2.elim
  ·exact q2.elim
theorem fU{F:Hp}:∀ns:List Int,aG F (ns.map V.int) (ns.map D.int)
 | []=>.nil
 | n::ns=>.cons (.int n) (fU ns)
theorem cg.fk{F H:Hp}(s:aA F H){v:V}{ns:List Int}(r:cg F H v (.fk ns)):∃a,v=.ref a/\e6 KF.K H a (ns.map V.int):=by
 cases(show Rep F v (.fk ns)from r)with
 | fk h=>exact⟨_,rfl,s.seq h⟩
abbrev yt:=Sd->(Option Int->Sd->Prop)->Prop
def lP(Y:bN)(t:yt):TO:=λσ H Q=>∃F aq Qd,RS Y F aq σ H/\t aq Qd/\∀o H' F' aX,aA F F'->RS Y F' aX σ H'->Qd o aX->Q o H'
structure Df(G:GE)(k:Nat)(S:Stat)(e:Option Expr)(t:yt) :Prop where
 run:∀X Y,dH X G k S Y->PO X e (lP Y t)
instance {G:GE} {k:Nat} {S:Stat} {e:Option Expr} {t:yt} :CoeFun (Df G k S e t) λ_=>∀X Y,dH X G k S Y->PO X e (lP Y t):=⟨Df.run⟩
theorem Bs{X:Cx}{e:Option Expr}{t t':TO}(h:PO X e t)(i:∀σ H Q,t' σ H Q->t σ H Q):PO X e t':=λpins s σ H Q I q=>h pins s σ H Q I (i σ H Q q)
def GN:yt:=λσ Q=>Q none σ
def BW(t:TV):yt:=λσ Q=>t σ λx aC=>match eK aC x with
 | some (.int i)=>Q (some i) aC
 | _=>False
theorem jr:Df G k S none GN:=.mk λX Y ok=>Bs Em λσ H Q q=>by
 obtain⟨F,aq,Qd,R,q,K⟩:=q;exact K none H F aq (aA.refl _) R q
theorem eS{e:Expr}{t:TV}(h:EO G k S e t):Df G k S (some e) (BW t):=.mk λX Y ok=>Bs (En (h X Y ok)) λσ H Q q=>by
 obtain⟨F,aq,Qd,R,q,K⟩:=q;refine⟨F,aq,_,R,q,λv1 H1 F1 x aC s1 R1 r1 q1=>?_⟩
 split at q1
 ·rename_i i e
  obtain rfl:=(R1.eK r1 e).int;exact⟨i,rfl,K _ H1 F1 aC s1 R1 q1⟩
 ·exact q1.elim
def cut{α:Type}(xs:List α)(lo hi:Option Int):List α:=(xs.drop (HT.cu xs.length 0 lo)).take (HT.cu xs.length xs.length hi-HT.cu xs.length 0 lo)
theorem aG.cut{F:Hp}{vs:List V}{xs:List D}(r:aG F vs xs)(lo hi:Option Int):aG F (qm vs lo hi) (cut xs lo hi):=by
 unfold qm Vc.cut;rw[r.length];exact(r.drop _).take _
def Xx:D->Option Int->Option Int->(EV->Prop)->Prop
 | .lst xs,lo,hi,Q=>Q (.own (cut xs lo hi))
 | .fk ns,lo,hi,Q=>Q (.own (cut (ns.map D.int) lo hi))
 | .tup xs,lo,hi,Q=>¬(HT.cu xs.length 0 lo=0/\HT.cu xs.length xs.length hi=xs.length)/\Q (.val (.tup (cut xs lo hi)))
 | _,_,_,_=>False
def BX(t:TV)(tl th:yt):TX:=λσ Q=>t σ λx aC=>tl aC λl bq=>th bq λu d7=>match eK d7 x with
 | some d=>Xx d l u λr=>Q r d7
 | none=>False
theorem MF{e:Expr}{lo hi:Option Expr}{t:TV}{tl th:yt}{p2 pos:Pos}(h:EO G k S e t)(hl:Df G k S lo tl)(hh:Df G k S hi th):EX G k S (.Subscript e (.Slice lo hi none p2) pos) (BX t tl th):=.mk λX Y ok =>
 bj (rE (yr.or vR BK) (h X Y ok) (hl X Y ok) (hh X Y ok)) λσ H Q q=>by
  obtain⟨F,aq,Qd,R,q,K⟩:=q;refine⟨F,aq,_,R,q,λv1 H1 F1 x aC s1 R1 r1 q1=>?_⟩;refine⟨F1,aC,_,R1,q1,λl H2 F2 bq s2 R2 q2=>?_⟩;refine⟨F2,bq,_,R2,q2,λu H3 F3 d7 s3 R3 q3=>?_⟩
  split at q3
  ·rename_i d e
   have rx:=R3.eK (r1.mono (s2.trans s3)) e;have g:Goes Y F3 d7 σ (λr=>Qd r d7) Q:=λv H' F' r s R' rr qq=>K v H' F' r d7 (((s1.trans s2).trans s3).trans s) R' rr qq;unfold Xx at q3
   split at q3
   ·obtain⟨p,vs,rfl,h1,r1⟩:=rx.lst
    exact .inl ⟨p,vs,rfl,.inl h1,g.own R3 (r1.cut _ _) q3⟩
   ·obtain⟨p,rfl,h1⟩:=rx.fk R3.fr
    exact .inl ⟨p,_,rfl,by rw[ok.kf];exact h1,g.own R3 ((fU _).cut _ _) q3⟩
   ·obtain⟨p,vs,rfl,h1,r1⟩:=rx.tup R3.fr
    exact .inr ⟨p,vs,rfl,.of h1,by rw[r1.length];exact q3.1,g.tup R3 (r1.cut _ _) q3.2⟩
   ·exact q3.elim
  ·exact q3.elim
def tN:gh:=λσ Q=>Q [] σ
def aJ(t:TD)(u:gh):gh:=λσ Q=>t σ λx aC=>u aC λxs bq=>Q (x::xs) bq
theorem ax:xT G k S [] tN:=.mk λX Y ok=>oU lF λσ H Q q=>by
 obtain⟨F,aq,Qd,R,q,K⟩:=q;exact K [] H F [] aq (aA.refl _) R .nil q
theorem ah{e:Expr}{es:List Expr}{t:TD}{u:gh}(h:ED G k S e t)(hs:xT G k S es u)(he:∀env,starEach (e::es) env=(false,eval e env)::starEach es env:=by exactλ_=>Vc.iY rfl):xT G k S (e::es) (aJ t u):=.mk λX Y ok =>
 oU (fR (h X Y ok) (hs X Y ok) (he _)) λσ H Q q=>by
  obtain⟨F,aq,Qd,R,q,K⟩:=q;refine⟨F,aq,_,R,q,λv1 H1 F1 x aC s1 R1 r1 q1=>?_⟩;exact⟨F1,aC,_,R1,q1,λvs H2 F2 xs bq s2 R2 r2 q2=>K _ H2 F2 (x::xs) bq (s1.trans s2) R2 (.cons (r1.mono s2) r2) q2⟩
def mq(t:gh):TX:=λσ Q=>t σ λxs aC=>xs.length<=sizeLine/\Q (.own xs) aC
def BZ(t:gh):TV:=λσ Q=>t σ λxs aC=>xs.length<=sizeLine/\Q (.val (.tup xs)) aC
theorem cP{es:List Expr}{t:gh}{pos:Pos}(h:xT G k S es t):EX G k S (.List es pos) (mq t):=.mk λX Y ok=>bj (LZ (h X Y ok)) λσ H Q q=>by
 obtain⟨F,aq,Qd,R,q,K⟩:=q;refine⟨F,aq,_,R,q,λvs H1 F1 xs aC s1 R1 r1 q1=>⟨by rw[r1.length];exact q1.1,?_⟩⟩
 have g:Goes Y F1 aC σ (λr=>Qd r aC) Q:=λv H' F' r s R' rr qq=>K v H' F' r aC (s1.trans s) R' rr qq;exact g.own R1 r1 q1.2
theorem j4{es:List Expr}{t:gh}{x1}{pos:Pos}(h:xT G k S es t):EO G k S (.Tuple es x1 pos) (BZ t):=.mk λX Y ok=>bj (L6 (h X Y ok)) λσ H Q q=>by
 obtain⟨F,aq,Qd,R,q,K⟩:=q;refine⟨F,aq,_,R,q,λvs H1 F1 xs aC s1 R1 r1 q1=>⟨by rw[r1.length];exact q1.1,λp hp=>?_⟩⟩
 have sm:=aM (o:=.tup vs) (same_none R1.fr hp);exact K _ _ _ (.val (.tup xs)) aC (s1.trans sm) (R1.alloc hp) (.tup aR (r1.mono sm)) q1.2
abbrev qf:=Sd->(List OV->Sd->Prop)->Prop
inductive qe (F:Hp)(σ:St):List V->List OV->Prop where
 | nil:qe F σ [] []
 | cons {v:V} {x:OV} {vs:List V} {xs:List OV}:tf F σ v x->qe F σ vs xs->qe F σ (v::vs) (x::xs)
def W5(Y:bN)(t:qf):TA:=λσ H Q=>∃F aq Qd,RS Y F aq σ H/\t aq Qd/\∀vs H' F' xs aX,aA F F'->RS Y F' aX σ H'->qe F' σ vs xs->Qd xs aX->Q vs H'
structure xU(G:GE)(k:Nat)(S:Stat)(es:List Expr)(t:qf) :Prop where
 run:∀X Y,dH X G k S Y->PA X es (W5 Y t)
instance {G:GE} {k:Nat} {S:Stat} {es:List Expr} {t:qf} :CoeFun (xU G k S es t) λ_=>∀X Y,dH X G k S Y->PA X es (W5 Y t):=⟨xU.run⟩
def dc:qf:=λσ Q=>Q [] σ
def bp(t:TV)(u:qf):qf:=λσ Q=>t σ λx aC=>u aC λxs bq=>Q (x::xs) bq
theorem a7:xU G k S [] dc:=.mk λX Y ok=>oU lF λσ H Q q=>by
 obtain⟨F,aq,Qd,R,q,K⟩:=q;exact K [] H F [] aq (aA.refl _) R .nil q
theorem aE{e:Expr}{es:List Expr}{t:TV}{u:qf}(h:EO G k S e t)(hs:xU G k S es u)(he:∀env,starEach (e::es) env=(false,eval e env)::starEach es env:=by exactλ_=>Vc.iY rfl):xU G k S (e::es) (bp t u):=.mk λX Y ok =>
 oU (fR (h X Y ok) (hs X Y ok) (he _)) λσ H Q q=>by
  obtain⟨F,aq,Qd,R,q,K⟩:=q;refine⟨F,aq,_,R,q,λv1 H1 F1 x aC s1 R1 r1 q1=>?_⟩;exact⟨F1,aC,_,R1,q1,λvs H2 F2 xs bq s2 R2 r2 q2=>K _ H2 F2 (x::xs) bq (s1.trans s2) R2 (.cons (r1.mono s2) r2) q2⟩
def hW(σ:Sd):List OV->Option (List D)
 | []=>some []
 | x::xs=>match eK σ x,hW σ xs with
  | some d,some ds=>some (d::ds)
  | _,_=>none
inductive gY (F H:Hp):List V->List D->Prop where
 | nil:gY F H [] []
 | cons {v:V} {x:D} {vs:List V} {xs:List D}:cg F H v x->gY F H vs xs->gY F H (v::vs) (x::xs)
theorem RS.hW{Y:bN}{F:Hp}{aq:Sd}{σ:St}{H:Hp}(R:RS Y F aq σ H):∀ {vs:List V} {xs:List OV} {ds:List D},qe F σ vs xs->Vc.hW aq xs=some ds->gY F H vs ds
 | _,_,_,.nil,e=>by cases e;exact .nil
 | _,_,_,.cons (x:=x) (xs:=xs) r t,e=>by
  have e:(match Vc.eK aq x,Vc.hW aq xs with|some d,some ds=>some (d::ds)|_,_=>none)=some _:=e
  split at e
  ·rename_i d ds e1 e2
   cases e;exact .cons (R.eK r e1) (RS.hW R t e2)
  ·cases e
theorem gY.one{F H:Hp}{vs:List V}{d:D}(r:gY F H vs [d]):∃v,vs=[v]/\cg F H v d:=by
 cases r with
 | cons r t=>cases t;exact⟨_,rfl,r⟩
theorem gY.two{F H:Hp}{vs:List V}{d e:D}(r:gY F H vs [d,e]):∃v u,vs=[v,u]/\cg F H v d/\cg F H u e:=by
 cases r with
 | cons r t =>
  obtain⟨u,rfl,q⟩:=t.one;exact⟨_,u,rfl,r,q⟩
def jd(r:List V->Hp->VK->Prop)(f:List D->(EV->Prop)->Prop):Prop:=
 ∀Y F H aq σ vs ds (Qd:EV->Prop) (Q:VK),RS Y F aq σ H->gY F H vs ds->f ds Qd->Goes Y F aq σ Qd Q->r vs H Q
def dB(f:List D->(EV->Prop)->Prop)(t:qf):TX:=λσ Q=>t σ λxs aC=>match hW aC xs with
 | some ds=>f ds λr=>Q r aC
 | none=>False
theorem jI{Y:bN}{r:List V->Hp->VK->Prop}{f:List D->(EV->Prop)->Prop}(hs:jd r f){t:qf}{σ:St}{H:Hp}{Q:VK}(q:lX Y (dB f t) σ H Q):Vd r (W5 Y t) σ H Q:=by
 obtain⟨F,aq,Qd,R,q,K⟩:=q;refine⟨F,aq,_,R,q,λvs H1 F1 xs aC s1 R1 r1 q1=>?_⟩
 split at q1
 ·rename_i ds e
  exact hs Y F1 H1 aC σ vs ds _ Q R1 (R1.hW r1 e) q1 λv H' F' r s R' rr qq=>K v H' F' r aC (s1.trans s) R' rr qq
 ·exact q1.elim
def xQ(G:GE)(k:Nat)(S:Stat)(f:Value)(g:List D->(EV->Prop)->Prop):Prop:=∃r:PySem.W.Frag->List V->Hp->VK->Prop,(∀X Y,dH X G k S Y->cT X f (r X.K))/\jd (r KF.K) g
section
variable {x:Str}{p pos:Pos}{e:Expr}{es:List Expr}{t:qf}{id T:String}{g:List D->(EV->Prop)->Prop}
theorem cp(h:xQ G k S (.builtin id) g)(hm:G.mg x=none)(ha:xU G k S (e::es) t)(hv:bootBuiltins x=some (.builtin id))(hg:S.sc.lookup x=some .globalImplicit:=by rfl)(hn:x≠"__name__":=by decide)(wL:(x==("__debug__":Str))=false:=by decide)
  (he:∀env,starEach (e::es) env=(false,eval e env)::starEach es env:=by exactλ_=>Vc.iY rfl) (jc:∀env,(backTo pos (starEach es env)).any (·.1)=false:=by intro _;rfl):EX G k S (.Call (.Name x p) (e::es) [] pos) (dB g t):=.mk λX Y ok=>by
 obtain⟨r,hc,hs⟩:=h;exact bj (Bk (hc X Y ok) (d3 ok hg) (by rw[ok.mg];exact hm) hv (ha X Y ok) hn wL (he _) (jc _)) λσ H Q q=>jI (by rw[ok.kf];exact hs) q
theorem uk(h:xQ G k S (.type T) g)(hm:G.mg x=none)(ha:xU G k S (e::es) t)(hv:bootBuiltins x=some (.type T))(hg:S.sc.lookup x=some .globalImplicit:=by rfl)(hn:x≠"__name__":=by decide)(wL:(x==("__debug__":Str))=false:=by decide)
  (he:∀env,starEach (e::es) env=(false,eval e env)::starEach es env:=by exactλ_=>Vc.iY rfl) (jc:∀env,(backTo pos (starEach es env)).any (·.1)=false:=by intro _;rfl):EX G k S (.Call (.Name x p) (e::es) [] pos) (dB g t):=.mk λX Y ok=>by
 obtain⟨r,hc,hs⟩:=h;exact bj (jt (hc X Y ok) (d3 ok hg) (by rw[ok.mg];exact hm) hv (ha X Y ok) hn wL (he _) (jc _)) λσ H Q q=>jI (by rw[ok.kf];exact hs) q
end
def cY:List D->(EV->Prop)->Prop
 | [.lst xs],Q=>Q (.val (.int xs.length))
 | [.tup xs],Q=>Q (.val (.int xs.length))
 | [.fk ns],Q=>Q (.val (.int ns.length))
 | [.str z],Q=>z.length<=sizeLine/\Q (.val (.int z.length))
 | _,_=>False
theorem f_len:xQ G k S (.builtin "len") cY:=⟨λK xs H Q=>(∃p ys,xs=[V.ref p]/\(e6 K H p ys\/gS K H p ys)/\Q (V.int ys.length) H)\/∃z,xs=[V.str z]/\z.length<=sizeLine/\Q (V.int z.length) H,λ_ _ _=>n8.or n9,λY F H aq σ vs ds Qd Q R r q g=>by
 unfold cY at q
 split at q
 ·obtain⟨v,rfl,rv⟩:=r.one
  obtain⟨p,us,rfl,h1,h2⟩:=rv.lst;exact .inl ⟨p,us,rfl,.inl (.inl h1),by rw[h2.length];exact g.val R (.int _) q⟩
 ·obtain⟨v,rfl,rv⟩:=r.one
  obtain⟨p,us,rfl,h1,h2⟩:=rv.tup R.fr;exact .inl ⟨p,us,rfl,.inr (.of h1),by rw[h2.length];exact g.val R (.int _) q⟩
 ·obtain⟨v,rfl,rv⟩:=r.one
  obtain⟨p,rfl,h1⟩:=rv.fk R.fr;exact .inl ⟨p,_,rfl,.inl h1,by rw[List.length_map];exact g.val R (.int _) q⟩
 ·obtain⟨v,rfl,rv⟩:=r.one
  obtain rfl:=rv.str;exact .inr ⟨_,rfl,q.1,g.val R (.int _) q.2⟩
 ·exact q.elim⟩
def yv:List D->(EV->Prop)->Prop
 | [.int i],Q=>Q (.val (.int (if i<0 then -i else i)))
 | _,_=>False
theorem Ge:xQ G k S (.builtin "abs") yv:=⟨λ_=>_,λ_ _ _=>yB,λY F H aq σ vs ds Qd Q R r q g=>by
 unfold yv at q
 split at q
 ·obtain⟨v,rfl,rv⟩:=r.one
  obtain rfl:=rv.int;exact⟨_,rfl,g.val R (.int _) q⟩
 ·exact q.elim⟩
def nz:List D->(EV->Prop)->Prop
 | [.int i,.int j],Q=>Q (.val (.int (if j>i then j else i)))
 | _,_=>False
def nA:List D->(EV->Prop)->Prop
 | [.int i,.int j],Q=>Q (.val (.int (if j<i then j else i)))
 | _,_=>False
theorem tK(hh:S.mL=false:=by rfl):xQ G k S (.builtin "max") nz:=⟨λ_=>_,λ_ _ ok=>wx (ok.calm hh),λY F H aq σ vs ds Qd Q R r q g=>by
 unfold nz at q
 split at q
 ·obtain⟨v,u,rfl,rv,ru⟩:=r.two
  obtain rfl:=rv.int;obtain rfl:=ru.int;exact⟨_,_,rfl,g.val R (.int _) q⟩
 ·exact q.elim⟩
theorem tL(hh:S.mL=false:=by rfl):xQ G k S (.builtin "min") nA:=⟨λ_=>_,λ_ _ ok=>wy (ok.calm hh),λY F H aq σ vs ds Qd Q R r q g=>by
 unfold nA at q
 split at q
 ·obtain⟨v,u,rfl,rv,ru⟩:=r.two
  obtain rfl:=rv.int;obtain rfl:=ru.int;exact⟨_,_,rfl,g.val R (.int _) q⟩
 ·exact q.elim⟩
def DS:List D->(EV->Prop)->Prop
 | [.int i],Q=>Q (.val (.int i))
 | [.bl b],Q=>Q (.val (.int (if b then 1 else 0)))
 | _,_=>False
theorem f_int:xQ G k S (.type "int") DS:=⟨λ_=>_,λ_ _ ok=>wu,λY F H aq σ vs ds Qd Q R r q g=>by
 unfold DS at q
 split at q
 ·obtain⟨v,rfl,rv⟩:=r.one
  obtain rfl:=rv.int;exact .inl ⟨_,rfl,g.val R (.int _) q⟩
 ·obtain⟨v,rfl,rv⟩:=r.one
  obtain rfl:=rv.bl;exact .inr ⟨_,rfl,g.val R (.int _) q⟩
 ·exact q.elim⟩
def qX:List D->(EV->Prop)->Prop
 | [.lst xs],Q=>Q (.own xs)
 | [.tup xs],Q=>Q (.own xs)
 | _,_=>False
theorem f_list:xQ G k S (.type "list") qX:=⟨λK xs H Q=>∃p ys,xs=[V.ref p]/\(e6 K H p ys\/gS K H p ys)/\∀l,H l=none->Q (.ref l) (upd H l (.lst ys)),λ_ _ ok=>og,λY F H aq σ vs ds Qd Q R r q g=>by
 unfold qX at q
 split at q
 ·obtain⟨v,rfl,rv⟩:=r.one
  obtain⟨p,us,rfl,h1,h2⟩:=rv.lst;exact⟨p,us,rfl,.inl (.inl h1),g.own R h2 q⟩
 ·obtain⟨v,rfl,rv⟩:=r.one
  obtain⟨p,us,rfl,h1,h2⟩:=rv.tup R.fr;exact⟨p,us,rfl,.inr (.of h1),g.own R h2 q⟩
 ·exact q.elim⟩
def gR:List D->(EV->Prop)->Prop
 | [.lst xs],Q=>Q (.val (.tup xs))
 | [.tup xs],Q=>Q (.val (.tup xs))
 | _,_=>False
theorem kz:xQ G k S (.type "tuple") gR:=⟨λK xs H Q=>∃p ys,xs=[V.ref p]/\((e6 K H p ys/\∀l,H l=none->Q (.ref l) (upd H l (.tup ys)))\/(gS K H p ys/\Q (.ref p) H)),λ_ _ ok=>mJ,λY F H aq σ vs ds Qd Q R r q g=>by
 unfold gR at q
 split at q
 ·obtain⟨v,rfl,rv⟩:=r.one
  obtain⟨p,us,rfl,h1,h2⟩:=rv.lst;exact⟨p,us,rfl,.inl ⟨.inl h1,g.tup R h2 q⟩⟩
 ·obtain⟨v,rfl,rv⟩:=r.one
  have rv':=rv;obtain⟨p,us,rfl,h1,h2⟩:=rv.tup R.fr;exact⟨p,us,rfl,.inr ⟨.of h1,g.val R rv' q⟩⟩
 ·exact q.elim⟩
end Vc
namespace Vc
open PySem L2
variable [KF]
variable {G:GE}{k:Nat}{S:Stat}
structure jO where
 nx:Sd->Prop
 rt:B->Sd->Prop
 bk:Sd->Prop:=λ_=>False
 ct:Sd->Prop:=λ_=>False
abbrev cJ:=jO->Sd->Prop
def Vq(Y:bN)(F H:Hp)(aq:Sd)(σ:St)(v:V):B->Prop
 | .sh d=>Rep F v d
 | .own xs=>∃a vs,v=.ref a/\H a=some (.lst vs)/\aG F vs xs/\F a=none/\Y.H0 a=none/\dC aq σ a
 | .obj o=>∃a,v=.ref a/\o.rep F H a/\∀b∈o.fp a,F b=none/\H b≠none/\Y.H0 b=none/\dC aq σ b
structure uN(Y:bN)(F:Hp)(De:jO)(Dn:Ends):Prop where
 nx:∀σ H F' aq,aA F F'->RS Y F' aq σ H->De.nx aq->Dn.nx σ H
 rt:∀v σ H F' aq b,aA F F'->RS Y F' aq σ H->Vq Y F' H aq σ v b->De.rt b aq->Dn.rt v H
 bk:∀σ H F' aq,aA F F'->RS Y F' aq σ H->De.bk aq->Dn.bk σ H
 ct:∀σ H F' aq,aA F F'->RS Y F' aq σ H->De.ct aq->Dn.ct σ H
theorem uN.mono{Y:bN}{F F':Hp}{De:jO}{Dn:Ends}(h:uN Y F De Dn)(s:aA F F'):uN Y F' De Dn:=
 ⟨λσ H F2 aq s2=>h.nx σ H F2 aq (s.trans s2),λv σ H F2 aq b s2=>h.rt v σ H F2 aq b (s.trans s2),λσ H F2 aq s2=>h.bk σ H F2 aq (s.trans s2),λσ H F2 aq s2=>h.ct σ H F2 aq (s.trans s2)⟩
def lS(Y:bN)(t:cJ):TS:=λDn σ H=>∃F aq De,RS Y F aq σ H/\t De aq/\uN Y F De Dn
structure ES(G:GE)(k:Nat)(S:Stat)(st:Stmt)(t:cJ) :Prop where
 run:∀X Y,dH X G k S Y->PS X st (lS Y t)
instance {G:GE} {k:Nat} {S:Stat} {st:Stmt} {t:cJ} :CoeFun (ES G k S st t) λ_=>∀X Y,dH X G k S Y->PS X st (lS Y t):=⟨ES.run⟩
structure d8(G:GE)(k:Nat)(S:Stat)(st:List Stmt)(t:cJ) :Prop where
 run:∀X Y,dH X G k S Y->p9 X st (lS Y t)
instance {G:GE} {k:Nat} {S:Stat} {st:List Stmt} {t:cJ} :CoeFun (d8 G k S st t) λ_=>∀X Y,dH X G k S Y->p9 X st (lS Y t):=⟨d8.run⟩
section
variable {st:Stmt}{rest:List Stmt}{t u:cJ}{pos:Pos}
def gE:cJ:=λDe σ=>De.nx σ
def bP(t u:cJ):cJ:=λDe σ=>t {De with nx:=u De} σ
theorem bO:d8 G k S [] gE:=.mk λX Y ok=>vH Es λDn σ H q=>by
 obtain⟨F,aq,De,R,q,K⟩:=q;exact K.nx σ H F aq (aA.refl _) R q
theorem aw(h1:ES G k S st t)(h2:d8 G k S rest u):d8 G k S (st::rest) (bP t u):=.mk λX Y ok=>vH (Bv (h1 X Y ok) (h2 X Y ok)) λDn σ H q=>by
 obtain⟨F,aq,De,R,q,K⟩:=q;refine⟨F,aq,_,R,q,⟨λcA H' F' aX s R' q'=>?_,K.rt,K.bk,K.ct⟩⟩;exact⟨F',aX,De,R',q',K.mono s⟩
theorem aH(h1:ES G k S st t):d8 G k S [st] t:=.mk λX Y ok=>Et (h1 X Y ok)
def p7:cJ:=λ_ _=>False
theorem eX:ES G k S st p7:=.mk λX Y ok=>dy Bu λDn σ H q=>by
 obtain⟨F,aq,De,R,q,K⟩:=q;exact q
def cB(c:TB)(t u:cJ):cJ:=λDe σ=>c σ λb aC=>if b=true then t De aC else u De aC
theorem cR{c:Expr}{a b:List Stmt}{tc:TB}(hc:EB G k S c tc)(ha:d8 G k S a t)(hb:d8 G k S b u):ES G k S (.If c a b pos) (cB tc t u):=.mk λX Y ok=>dy (TJ (hc X Y ok) (ha X Y ok) (hb X Y ok)) λDn σ H q=>by
 obtain⟨F,aq,De,R,q,K⟩:=q;refine⟨F,aq,_,R,q,λb H1 F1 aC s1 R1 q1=>?_⟩;cases b with
 | true=>exact⟨F1,aC,De,R1,q1,K.mono s1⟩
 | false=>exact⟨F1,aC,De,R1,q1,K.mono s1⟩
def qa(t:TX):cJ:=λDe σ=>t σ λ_ aC=>De.nx aC
theorem cN{e:Expr}{te:TX}(he:EX G k S e te)(hs:∀line env,swapsWith e none line env=pure false:=by intro _ _;rfl):ES G k S (.Expr e pos) (qa te):=.mk λX Y ok=>dy (Er (he X Y ok) (hs _ _)) λDn σ H q=>by
 obtain⟨F,aq,De,R,q,K⟩:=q;exact⟨F,aq,_,R,q,λv H1 F1 x aC s1 R1 r1 q1=>K.nx σ H1 F1 aC s1 R1 q1⟩
def er(ios:List Nat)(t:TX):cJ:=λDe σ=>t σ λx aC=>match x with
 | .val d=>De.rt (.sh d) aC
 | .own xs=>De.rt (.own xs) aC
 | .obj o=>De.rt (.obj o) aC
 | .any=>False
 | .var i=>match aC[i]? with
  | some (some (.own xs))=>i∉ios/\De.rt (.own xs) (aC.set i none)
  | some (some (.sh d))=>De.rt (.sh d) aC
  | some (some (.obj o))=>ios=[]/\De.rt (.obj o) (aC.set i none)
  | _=>False
theorem RS.forget{Y:bN}{F:Hp}{aq:Sd}{σ:St}{H:Hp}{i:Nat}{b:B}(R:RS Y F aq σ H)(e:aq[i]?=some (some b))(dq:∀p∈Y.io,p.1≠i):RS Y F (aq.set i none) σ H where
 len:=by simpa using R.len
 lo:=R.lo
 fr:=R.fr
 fN:=R.fN
 old:=R.old
 sh:=λj d q=>by
  by_cases hj:j=i
  ·subst hj;rw[bb e]at q;cases q
  ·rw[bo hj]at q;exact R.sh j d q
 own:=λj xs q=>by
  by_cases hj:j=i
  ·subst hj;rw[bb e]at q;cases q
  ·rw[bo hj]at q;exact R.own j xs q
 dis:=λj l xs ys a q1 q2 q3 q4=>by
  have hj:j≠i:=λz=>by subst z;rw[bb e]at q1;cases q1
  have hl:l≠i:=λz=>by subst z;rw[bb e]at q2;cases q2
  rw[bo hj]at q1;rw[bo hl]at q2;exact R.dis j l xs ys a q1 q2 q3 q4
 io:=λp hp=>by
  obtain⟨w1,ys,w2⟩:=R.io p hp;exact⟨w1,ys,by rw[bo (dq p hp)];exact w2⟩
 ob:=R.ob.put (λ_ _=>rfl) (λ_ z=>nomatch z) λ_ _ z=>nomatch z
theorem RS.Xe{Y:bN}{F:Hp}{aq:Sd}{σ:St}{H:Hp}{i:Nat}{xs:List D}(R:RS Y F aq σ H)(h:aq[i]?=some (some (.own xs)))(dq:∀p∈Y.io,p.1≠i){a:Addr}(q1:σ[i]?=some (some (.ref a))):Y.H0 a=none/\a∉Y.OB:=by
 obtain⟨b,vs,w1,w2,w3,w4,w5⟩:=R.own i xs h;rw[q1]at w1;cases w1;have nin:a∉Y.OB:=λq5=>by
  obtain⟨p,hp,e⟩:=List.mem_map.mp q5;obtain⟨z1,ys,z2⟩:=R.io p hp;exact absurd (R.dis p.1 i ys xs a z2 h (by rw[z1,e]) q1) (dq p hp)
 rcases w5 with w5|w5
 ·exact⟨w5,nin⟩
 ·exact absurd w5 nin
theorem bw{e:Expr}{te:TX}(he:EX G k S e te)(V5:S.yy=false:=by rfl):ES G k S (.Return (some e) pos) (er S.ios te):=.mk λX Y ok=>dy (MB (he X Y ok)) λDn σ H q=>by
 obtain⟨F,aq,De,R,q,K⟩:=q;refine⟨F,aq,_,R,q,λv H1 F1 x aC s1 R1 r1 q1=>?_⟩;cases x with
 | val d=>exact K.rt v σ H1 F1 aC (.sh d) s1 R1 r1 q1
 | own xs=>exact K.rt v σ H1 F1 aC (.own xs) s1 R1 r1 q1
 | obj o=>exact K.rt v σ H1 F1 aC (.obj o) s1 R1 r1 q1
 | any=>exact False.elim q1
 | var i =>
  have r1:σ[i]?=some (some v):=r1;dsimp only at q1
  split at q1
  ·rename_i xs e
   obtain⟨a,vs,w1,w2,w3,w4,w5⟩:=R1.own i xs e;rw[r1]at w1;cases w1;have dq:∀p∈Y.io,p.1≠i:=λp hp z=>q1.1 (z ▸ ok.ios p hp);refine K.rt _ σ H1 F1 _ (.own xs) s1 (R1.forget e dq) ⟨a,vs,rfl,w2,w3,w4,(R1.Xe e dq r1).1,⟨λj ys e2 z=>?_,λ⟨j,o,c,e2,e3,hm⟩=>?_⟩⟩ q1.2
   ·by_cases hj:j=i
    ·subst hj;rw[bb e]at e2;cases e2
    ·rw[bo hj]at e2
     exact hj (R1.dis j i ys xs a e2 e z r1)
   ·have hj:j≠i:=λz=>by subst z;rw[bb e]at e2;cases e2
    rw[bo hj]at e2;exact R1.ob.ky i xs a e r1 ⟨j,o,c,e2,e3,hm⟩
  ·rename_i d e
   obtain⟨v2,e2,r2⟩:=R1.sh i d e;rw[r1]at e2;cases e2;exact K.rt v σ H1 F1 aC (.sh d) s1 R1 r2 q1
  ·rename_i o e
   obtain⟨a,w1,w2,w3⟩:=R1.ob.obj i o e;rw[r1]at w1;cases w1;have JG:=ok.obs V5 q1.1;have dq:∀p∈Y.io,p.1≠i:=λp hp z=>by
    have:=ok.ios p hp;rw[q1.1]at this;cases this
   refine K.rt _ σ H1 F1 _ (.obj o) s1 (R1.forget e dq) ⟨a,rfl,w2,λb hb=>⟨(w3 b hb).1,(w3 b hb).2.1,?_,⟨λj ys e2 z=>?_,λ⟨j,o2,c,e2,e3,hm⟩=>?_⟩⟩⟩ q1.2
   ·rcases(w3 b hb).2.2 with z|z
    ·exact z
    ·rw[JG]at z;cases z
   ·have hj:j≠i:=λz=>by subst z;rw[bb e]at e2;cases e2
    rw[bo hj]at e2;exact R1.ob.ky j ys b e2 z ⟨i,o,a,e,r1,hb⟩
   ·have hj:j≠i:=λz=>by subst z;rw[bb e]at e2;cases e2
    rw[bo hj]at e2;exact R1.ob.zJ j i o2 o c a e2 e e3 r1 hj b hm hb
  ·exact q1.elim
end
theorem gs{α:Type}{l:List α}{i j:Nat}{x y:α}(h:(l.set i x)[j]?=some y):(j=i/\y=x)\/(j≠i/\l[j]?=some y):=by
 by_cases hj:j=i
 ·subst hj
  by_cases hl:j<l.length
  ·rw[List.getElem?_set_self hl]at h;exact .inl ⟨rfl,(Option.some.inj h).symm⟩
  ·have:(l.set j x)[j]?=none:=by rw[List.getElem?_eq_none_iff];simp;omega
   rw[this]at h;cases h
 ·rw[List.getElem?_set_ne (Ne.symm hj)]at h;exact .inr ⟨hj,h⟩
theorem bK{α:Type}{l:List α}{i j:Nat}{x:α}(h:j≠i):(l.set i x)[j]?=l[j]?:=List.getElem?_set_ne (Ne.symm h)
theorem jV{α:Type}{l:List α}{i:Nat}{x:α}(h:i<l.length):(l.set i x)[i]?=some x:=List.getElem?_set_self h
theorem Ag{α:Type}{l:List α}{i j:Nat}{x y:α}(h:(l.set i x)[j]?=some y):j<l.length:=by
 have:=(List.getElem?_eq_some_iff.mp h).1;simpa using this
theorem RS.vQ{Y:bN}{F:Hp}{aq:Sd}{σ:St}{H:Hp}{i:Nat}{d:D}{v:V}(R:RS Y F aq σ H)(r:Rep F v d)(dq:∀p∈Y.io,p.1≠i):RS Y F (aq.set i (some (.sh d))) (σ.set i (some v)) H where
 len:=by simpa using R.len
 lo:=R.lo
 fr:=R.fr
 fN:=R.fN
 old:=R.old
 sh:=λj e q=>by
  rcases gs q with⟨rfl,z⟩|⟨hj,q'⟩
  ·cases z
   exact⟨v,jV (by rw[<- R.len];exact Ag q),r⟩
  ·obtain⟨u,w1,w2⟩:=R.sh j e q'
   exact⟨u,by rw[bK hj];exact w1,w2⟩
 own:=λj xs q=>by
  rcases gs q with⟨_,z⟩|⟨hj,q'⟩
  ·cases z
  ·obtain⟨a,vs,w1,w2⟩:=R.own j xs q'
   exact⟨a,vs,by rw[bK hj];exact w1,w2⟩
 dis:=λj l xs ys a q1 q2 q3 q4=>by
  rcases gs q1 with⟨_,z⟩|⟨hj,q1⟩
  ·cases z
  rcases gs q2 with⟨_,z⟩|⟨hl,q2⟩
  ·cases z
  rw[bK hj]at q3;rw[bK hl]at q4;exact R.dis j l xs ys a q1 q2 q3 q4
 io:=λp hp=>by
  obtain⟨w1,ys,w2⟩:=R.io p hp;exact⟨by rw[bK (dq p hp)];exact w1,ys,by rw[bK (dq p hp)];exact w2⟩
 ob:=R.ob.put (λ_ hj=>bK hj) (λ_ z=>nomatch z) λ_ _ z=>nomatch z
theorem RS.Nc{Y:bN}{F:Hp}{aq:Sd}{σ:St}{H:Hp}{i:Nat}{xs:List D}{a:Addr}{vs:List V}(R:RS Y F aq σ H)(h1:H a=some (.lst vs))(h2:aG F vs xs)(h3:F a=none)(h4:Y.H0 a=none)(h5:dC aq σ a)
  (dq:∀p∈Y.io,p.1≠i):RS Y F (aq.set i (some (.own xs))) (σ.set i (some (.ref a))) H where
 len:=by simpa using R.len
 lo:=R.lo
 fr:=R.fr
 fN:=R.fN
 old:=R.old
 sh:=λj e q=>by
  rcases gs q with⟨_,z⟩|⟨hj,q'⟩
  ·cases z
  ·obtain⟨u,w1,w2⟩:=R.sh j e q'
   exact⟨u,by rw[bK hj];exact w1,w2⟩
 own:=λj ys q=>by
  rcases gs q with⟨rfl,z⟩|⟨hj,q'⟩
  ·cases z
   exact⟨a,vs,jV (by rw[<- R.len];exact Ag q),h1,h2,h3,.inl h4⟩
  ·obtain⟨b,us,w1,w2⟩:=R.own j ys q'
   exact⟨b,us,by rw[bK hj];exact w1,w2⟩
 dis:=λj l ys zs b q1 q2 q3 q4=>by
  rcases gs q1 with⟨rfl,z⟩|⟨hj,q1⟩
  ·rcases gs q2 with⟨e,z⟩|⟨hl,q2⟩
   ·exact e.symm
   ·rw[bK hl]at q4
    rcases gs q3 with⟨_,z3⟩|⟨hc,_⟩
    ·cases z3
     exact absurd q4 (h5 l zs q2)
    ·exact absurd rfl hc
  ·rw[bK hj]at q3
   rcases gs q2 with⟨e2,z⟩|⟨hl,q2⟩
   ·rcases gs q4 with⟨_,z4⟩|⟨hc,_⟩
    ·cases z4
     exact absurd q3 (h5 j ys (by assumption))
    ·exact absurd e2 hc
   ·rw[bK hl]at q4
    exact R.dis j l ys zs b (by assumption) q2 q3 q4
 io:=λp hp=>by
  obtain⟨w1,ys,w2⟩:=R.io p hp;exact⟨by rw[bK (dq p hp)];exact w1,ys,by rw[bK (dq p hp)];exact w2⟩
 ob:=R.ob.put (λ_ hj=>bK hj) (λ_ z=>nomatch z) λys b _ z=>by
  rcases gs z with⟨_,z2⟩|⟨hc,_⟩
  ·cases z2;exact h5.OG
  ·exact absurd rfl hc
theorem RS.Nb{Y:bN}{F:Hp}{aq:Sd}{σ:St}{H:Hp}{i:Nat}{o:O}{a:Addr}(R:RS Y F aq σ H)(h1:o.rep F H a)(h2:∀b∈o.fp a,F b=none/\H b≠none/\Y.H0 b=none/\dC aq σ b)
  (dq:∀p∈Y.io,p.1≠i):RS Y F (aq.set i (some (.obj o))) (σ.set i (some (.ref a))) H where
 len:=by simpa using R.len
 lo:=R.lo
 fr:=R.fr
 fN:=R.fN
 old:=R.old
 sh:=λj e q=>by
  rcases gs q with⟨_,z⟩|⟨hj,q'⟩
  ·cases z
  ·obtain⟨u,w1,w2⟩:=R.sh j e q'
   exact⟨u,by rw[bK hj];exact w1,w2⟩
 own:=λj ys q=>by
  rcases gs q with⟨_,z⟩|⟨hj,q'⟩
  ·cases z
  ·obtain⟨b,us,w1,w2⟩:=R.own j ys q'
   exact⟨b,us,by rw[bK hj];exact w1,w2⟩
 dis:=λj l ys zs b q1 q2 q3 q4=>by
  rcases gs q1 with⟨_,z⟩|⟨hj,q1⟩
  ·cases z
  rcases gs q2 with⟨_,z⟩|⟨hl,q2⟩
  ·cases z
  rw[bK hj]at q3;rw[bK hl]at q4;exact R.dis j l ys zs b q1 q2 q3 q4
 io:=λp hp=>by
  obtain⟨w1,ys,w2⟩:=R.io p hp;exact⟨by rw[bK (dq p hp)];exact w1,ys,by rw[bK (dq p hp)];exact w2⟩
 ob:=by
  have at':∀ {j:Nat} {c:Addr},j=i->(σ.set i (some (.ref a)))[j]?=some (some (.ref c))->c=a:=λ{j c} e z=>by
   subst e;rcases gs z with⟨_,z2⟩|⟨hc,_⟩
   ·cases z2;rfl
   ·exact absurd rfl hc
  refine⟨λj p q=>?_,λj l p p2 c d q1 q2 q3 q4 c9 x hx DN=>?_,λj ys b q1 q2 ⟨l,p,c,q3,q4,hm⟩=>?_,R.ob.there,R.ob.OT,R.ob.tab⟩
  ·rcases gs q with⟨rfl,z⟩|⟨hj,q'⟩
   ·cases z
    exact⟨a,jV (by rw[<- R.len];exact Ag q),h1,λb hb=>⟨(h2 b hb).1,(h2 b hb).2.1,.inl (h2 b hb).2.2.1⟩⟩
   ·obtain⟨c,w1,w2⟩:=R.ob.obj j p q'
    exact⟨c,by rw[bK hj];exact w1,w2⟩
  ·rcases gs q1 with⟨e1,z⟩|⟨hj,TK⟩
   ·cases z
    rcases gs q2 with⟨e2,z⟩|⟨hl,Xl⟩
    ·exact c9 (e1.trans e2.symm)
    ·rw[bK hl]at q4
     have:=at' e1 q3;subst this;exact(h2 x hx).2.2.2.OG ⟨l,p2,d,Xl,q4,DN⟩
   ·rw[bK hj]at q3
    rcases gs q2 with⟨e2,z⟩|⟨hl,Xl⟩
    ·cases z
     have:=at' e2 q4;subst this;exact(h2 x DN).2.2.2.OG ⟨j,p,c,TK,q3,hx⟩
    ·rw[bK hl]at q4
     exact R.ob.zJ j l p p2 c d TK Xl q3 q4 c9 x hx DN
  ·rcases gs q1 with⟨_,z⟩|⟨hj,TK⟩
   ·cases z
   rw[bK hj]at q2;rcases gs q3 with⟨e3,z⟩|⟨hl,q3'⟩
   ·cases z
    have:=at' e3 q4;subst this;exact(h2 b hm).2.2.2 j ys TK q2
   ·rw[bK hl]at q4
    exact R.ob.ky j ys b TK q2 ⟨l,p,c,q3',q4,hm⟩
def Va(ios:List Nat)(i:Nat)(x:EV)(σ:Sd)(Q:Sd->Prop):Prop:=match x with
 | .val d=>Q (σ.set i (some (.sh d)))
 | .own xs=>Q (σ.set i (some (.own xs)))
 | .obj o=>Q (σ.set i (some (.obj o)))
 | .any=>False
 | .var j=>match σ[j]? with
  | some (some (.own xs))=>j∉ios/\Q ((σ.set j (some (.sh (.lst xs)))).set i (some (.sh (.lst xs))))
  | some (some (.sh d))=>Q (σ.set i (some (.sh d)))
  | _=>False
theorem jG{Y:bN}{F:Hp}{aq:Sd}{σ:St}{H:Hp}{i:Nat}{v:V}{x:EV}{ios:List Nat}{Q:Sd->Prop}(R:RS Y F aq σ H)(r:G4 Y F H aq σ v x)(hi:i∉ios)(dq:∀p∈Y.io,p.1∈ios)(q:Va ios i x aq Q):
  ∃F' aX,aA F F'/\RS Y F' aX (σ.set i (some v)) H/\Q aX:=by
 have h0:∀p∈Y.io,p.1≠i:=λp hp z=>hi (z ▸ dq p hp);cases x with
 | val d=>exact⟨F,_,aA.refl _,R.vQ r h0,q⟩
 | own xs =>
  obtain⟨a,vs,rfl,h1,h2,h3,h4,h5⟩:=r;exact⟨F,_,aA.refl _,R.Nc h1 h2 h3 h4 h5 h0,q⟩
 | obj o =>
  obtain⟨a,rfl,h1,h2⟩:=r;exact⟨F,_,aA.refl _,R.Nb h1 h2 h0,q⟩
 | any=>exact False.elim q
 | var j =>
  have r:σ[j]?=some (some v):=r;unfold Va at q;dsimp only at q
  split at q
  ·rename_i xs e
   obtain⟨F2,v2,s2,R2,e2,r2⟩:=R.ji e λp hp z=>q.1 (z ▸ dq p hp);rw[r]at e2;cases e2;exact⟨F2,_,s2,R2.vQ r2 h0,q.2⟩
  ·rename_i d e
   obtain⟨v2,e2,r2⟩:=R.sh j d e;rw[r]at e2;cases e2;exact⟨F,_,aA.refl _,R.vQ r2 h0,q⟩
  ·exact q.elim
def dw(ios:List Nat)(i:Nat)(t:TX):cJ:=λDe σ=>t σ λx aC=>Va ios i x aC De.nx
theorem oM{X:Cx}{Y:bN}(ok:dH X G k S Y){x:Str}(h:S.sc.lookup x=some .local\/(S.sc.lookup x=some .cell/\S.yy=false)):L2.Loc X.env.scope x:=by
 unfold L2.Loc;rw[ok.sc];exact h.imp id (·.1)
theorem oD{X:Cx}{Y:bN}(ok:dH X G k S Y){x:Str}(h:S.sc.lookup x=some .local\/(S.sc.lookup x=some .cell/\S.yy=false)):X.fn x=true\/X.env.scope.names.lookup x=some .local:=by
 rcases h with h|h
 ·right;rw[ok.sc];exact h
 ·left;exact ok.fn h.2 x h.1
theorem bF(i:Nat){x:Str}{e:Expr}{te:TX}{pos pos':Pos}(he:EX G k S e te)(hi:S.N[i]?=some x:=by rfl)(hx:S.sc.lookup x=some .local\/(S.sc.lookup x=some .cell/\S.yy=false):=by first|exact Or.inl rfl|exact Or.inr ⟨rfl,rfl⟩)(hn:i∉S.ios:=by first|decide|exact List.not_mem_nil | (dsimp only;decide))
  (hs:∀line env,swapsWith e (some (.Name x pos')) line env=pure false:=by intro _ _;rfl):ES G k S (.Assign [.Name x pos'] e pos) (dw S.ios i te):=.mk λX Y ok =>
 dy (L2.ug (i:=i) (by rw[ok.N];exact ok.nd) (by rw[ok.N];exact hi) (oM ok hx) (he X Y ok) (hs _ _) (oD ok hx)) λDn σ H q=>by
  obtain⟨F,aq,De,R,q,K⟩:=q;refine⟨F,aq,_,R,q,λv H1 F1 y aC s1 R1 r1 q1=>?_⟩;obtain⟨F2,bq,s2,R2,q2⟩:=jG R1 r1 hn ok.ios q1;exact K.nx _ H1 F2 bq (s1.trans s2) R2 q2
theorem RS.write{Y:bN}{F:Hp}{aq:Sd}{σ:St}{H:Hp}{i:Nat}{xs ys:List D}{a:Addr}{us:List V}(R:RS Y F aq σ H)(e:aq[i]?=some (some (.own xs)))(h:σ[i]?=some (some (.ref a)))(r:aG F us ys):
  RS Y F (aq.set i (some (.own ys))) σ (upd H a (.lst us)):=by
 obtain⟨b,vs,w1,w2,w3,w4,w5⟩:=R.own i xs e;rw[h]at w1;cases w1;have hl:i<aq.length:=(List.getElem?_eq_some_iff.mp e).1;have JG:sP Y F (aq.set i (some (.own ys))) σ (upd H a (.lst us)):=R.ob.step (aA.refl _) (λj o q=>by
  rcases gs q with⟨_,z⟩|⟨hj,q⟩
  ·cases z
  ·exact⟨q,rfl⟩) (λb hb=>by
  obtain⟨z1,z2,z3⟩:=R.ob.owned hb;have c9:b≠a:=λz=>R.ob.ky i xs a e h (z ▸ hb);exact⟨az c9,z1,z3⟩) (λj zs b q1 q2=>by
  rcases gs q1 with⟨e1,_⟩|⟨hj,q1⟩
  ·subst e1
   rw[h]at q2;cases q2;exact R.ob.ky j xs a e h
  ·exact R.ob.ky j zs b q1 q2) λb hb=>by
  by_cases c9:b=a
  ·rw[c9,aR];exactλz=>nomatch z
  ·rw[az c9];exact R.ob.there b hb
 refine⟨by simpa using R.len,R.lo,λb o q=>?_,R.fN,λb o q n=>?_,λj d q=>?_,λj zs q=>?_,λj l zs qs b q1 q2 q3 q4=>?_,λp hp=>?_,JG⟩
 ·have:b≠a:=λz=>by rw[z,w4]at q;cases q
  rw[az this];exact R.fr b o q
 ·have:b≠a:=λz=>by
   subst z;rcases w5 with w5|w5
   ·rw[w5]at q;cases q
   ·exact bN.vp n w5
  rw[az this];exact R.old b o q n
 ·rcases gs q with⟨_,z⟩|⟨hj,q⟩
  ·cases z
  ·exact R.sh j d q
 ·rcases gs q with⟨rfl,z⟩|⟨hj,q⟩
  ·cases z
   exact⟨a,us,h,aR,r,w4,w5⟩
  ·obtain⟨b,ws,z1,z2,z3,z4,z5⟩:=R.own j zs q
   have:b≠a:=λz=>hj (R.dis j i zs xs a q e (z ▸ z1) h);exact⟨b,ws,z1,by rw[az this];exact z2,z3,z4,z5⟩
 ·have f:∀ {m:Nat} {ms:List D},(aq.set i (some (B.own ys)))[m]?=some (some (B.own ms))->∃C4,aq[m]?=some (some (B.own C4)):=λ{m ms} q=>by
   rcases gs q with⟨rfl,z⟩|⟨hj,q⟩
   ·exact⟨xs,e⟩
   ·exact⟨_,q⟩
  obtain⟨_,q1⟩:=f q1;obtain⟨_,q2⟩:=f q2;exact R.dis j l _ _ b q1 q2 q3 q4
 ·obtain⟨z1,zs,z2⟩:=R.io p hp
  refine⟨z1,?_⟩
  by_cases RC:p.1=i
  ·exact⟨ys,by rw[RC,jV hl]⟩
  ·exact⟨zs,by rw[bK RC];exact z2⟩
def qU(σ:Sd)(i:Nat):Prop:=∃xs,σ[i]?=some (some (B.own xs))
def Hr(i:Nat)(d:D)(σ:Sd)(Q:Sd->Prop):Prop:=match σ[i]? with
 | some (some (.own xs))=>xs.length<sizeLine/\Q (σ.set i (some (.own (xs++[d]))))
 | _=>False
def BQ(to:TV)(te:TD):TX:=λσ Q=>to σ λx aC=>match x with
 | .var i=>qU aC i/\te aC λd bq=>Hr i d bq λd7=>Q (.val .bC) d7
 | _=>False
theorem rF{o e:Expr}{to:TV}{te:TD}{apos gJ:Pos}(ho:EO G k S o to)(he:ED G k S e te)(hb:∀env,attributeBase o "append" env (eval o env)=eval o env:=by intro _;rfl)
  (Jz:∀env,((backTo gJ (starEach [e] env)).all (λx=>!x.1)&&(backToKw gJ (keywordEach [] env)).all (λx=>x.1.isSome)&&decide (([e]:List Expr).length+([]:List Keyword).length+(if([]:List Keyword).isEmpty then 0 else 1)<30))=true:=by intro _;rfl)
  (hline:(apos.endLine==gJ.line)=true:=by rfl) (hs:∀env,starEach [e] env=[(false,eval e env)]:=by intro _;rfl):EX G k S (.Call (.Attribute o "append" apos) [e] [] gJ) (BQ to te):=.mk λX Y ok=>by
 have ha:PA X [e] (se (lD Y te) BV):=fR (he X Y ok) lF (by rw[hs];rfl)
 refine bj (Ti F.plainAttrs_list F.slot_list_append F.type_list_append nB (ho X Y ok) ha (hb _) (Jz _) hline (by rw[hs];rfl) (by rfl)) λσ H Q q=>?_
 obtain⟨F,aq,Qd,R,q,K⟩:=q;refine⟨F,aq,_,R,q,λv1 H1 F1 x aC s1 R1 r1 q1=>?_⟩;cases x with
 | val d=>exact q1.elim
 | any=>exact q1.elim
 | var i =>
  obtain⟨⟨ys,e0⟩,q1⟩:=q1;have r1:σ[i]?=some (some v1):=r1;obtain⟨a,vs,w1,w2,w3,w4,w5⟩:=R1.own i ys e0;rw[r1]at w1;cases w1;refine⟨.inl ⟨rfl,vs,.of w2⟩,F1,aC,_,R1,q1,λv2 H2 F2 d bq s2 R2 r2 q2=>?_⟩;unfold Hr at q2
  split at q2
  ·rename_i xs e2
   obtain⟨b,us,z1,z2,z3,z4,z5⟩:=R2.own i xs e2;rw[r1]at z1;cases z1;exact⟨a,us,v2,rfl,rfl,z2,by rw[z3.length];exact q2.1,K .bC _ F2 (.val .bC) _ (s1.trans s2) (R2.write e2 r1 (z3.append (.cons r2 .nil))) .bC q2.2⟩
  ·exact q2.elim
end Vc
namespace Vc
open PySem L2
variable [KF]
variable {G:GE}{k:Nat}{S:Stat}
abbrev bz:=List D->(B->Prop)->Prop
def G3(H F H':Hp)(v:V):B->Prop
 | .sh d=>Rep F v d
 | .own xs=>∃a vs,v=.ref a/\H' a=some (.lst vs)/\aG F vs xs/\F a=none/\H a=none
 | .obj o=>∃a,v=.ref a/\o.rep F H' a/\∀b∈o.fp a,F b=none/\H' b≠none/\H b=none
def EY(sp:bz):Sp:=λvs H Q _=>∃F ds Qd,uP F H/\aG F vs ds/\sp ds Qd /\
 ∀v H' F' b,aA F F'->aA F' H'->aA H H'->(∀c o,F' c=some o->F c=some o\/Nw H c o)->G3 H F' H' v b->Qd b->Q v H'
theorem RS.call{Y:bN}{F F':Hp}{aq:Sd}{σ:St}{H H':Hp}(R:RS Y F aq σ H)(s1:aA F F')(s2:aA F' H')(s3:aA H H')(fr:∀c o,F' c=some o->F c=some o\/Nw H c o):RS Y F' aq σ H' where
 len:=R.len
 lo:=R.lo.trans s1
 fr:=s2
 fN:=λb o e=>by
  rcases fr b o e with h|h
  ·exact R.fN b o h
  ·exact .inr (h.imp (λh=>(R.dQ h).1) id)
 old:=λb o e n=>s3 b o (R.old b o e n)
 sh:=λi d e=>by
  obtain⟨v,h1,h2⟩:=R.sh i d e;exact⟨v,h1,h2.mono s1⟩
 own:=λi xs e=>by
  obtain⟨a,vs,h1,h2,h3,h4,h5⟩:=R.own i xs e;refine⟨a,vs,h1,s3 a _ h2,h3.mono s1,?_,h5⟩;cases q:F' a with
  | none=>rfl
  | some o =>
   rcases fr a o q with h|h
   ·rw[h4]at h;cases h
   ·rcases h with h|⟨ws,rfl⟩
    ·rw[h2]at h;cases h
    ·have z:=s2 a _ q;rw[s3 a _ h2]at z;cases z
 dis:=R.dis
 io:=R.io
 ob:=by
  have up:∀b,H b≠none->H' b=H b:=λb hb=>by
   cases q:H b with
   | none=>exact absurd q hb
   | some o=>exact s3 b o q
  refine R.ob.step s1 (λ_ _ e=>⟨e,rfl⟩) (λb hb=>?_) R.ob.ky λb hb=>by rw[up b (R.ob.there b hb)];exact R.ob.there b hb
  obtain⟨w1,w2,w3⟩:=R.ob.owned hb;refine⟨up b w2,?_,w3⟩;cases q:F' b with
  | none=>rfl
  | some o =>
   rcases fr b o q with h|h
   ·rw[w1]at h;cases h
   ·rcases h with h|⟨ws,rfl⟩
    ·exact absurd h w2
    ·exact absurd (by rw[<- up b w2];exact s2 b _ q) (R.ob.Gx hb)
def cq(G:GE)(k:Nat)(x:Str)(sp:bz):Prop:=∃f fd ps,d9 G.P G.w G.K G.mg G.base sW k f fd ps (EY sp)/\G.mg x=some (.ref f)/\PySem.W.keepIn G.K (.ref f)=true/\Binds G.K fd ps []
theorem cq.mono{x:Str}{sp:bz}{j:Nat}(h:cq G j x sp)(l:j<=k):cq G k x sp:=by
 obtain⟨f,fd,ps,h1,h2,h3,h4⟩:=h;exact⟨f,fd,ps,h1.mono l,h2,h3,h4⟩
def bE:B->EV
 | .sh d=>.val d
 | .own xs=>.own xs
 | .obj o=>.obj o
def Cl(sp:bz)(ds:List D)(Q:B->Prop):Prop:=sp ds Q
def dA(sp:bz)(t:gh):TX:=λσ Q=>t σ λds aC=>Cl sp ds λb=>Q (bE b) aC
theorem aK{x:Str}{sp:bz}{e:Expr}{es:List Expr}{t:gh}{p pos:Pos}(h:cq G k x sp)(ha:xT G k S (e::es) t)(hg:S.sc.lookup x=some .globalImplicit:=by rfl)(wL:(x==("__debug__":Str))=false:=by decide)
  (he:∀env,starEach (e::es) env=(false,eval e env)::starEach es env:=by exactλ_=>Vc.iY rfl) (jc:∀env,(backTo pos (starEach es env)).any (·.1)=false:=by intro _;rfl) (hh:S.mL=false:=by rfl):EX G k S (.Call (.Name x p) (e::es) [] pos) (dA sp t):=.mk λX Y ok=>by
 obtain⟨f,fd,ps,h1,h2,h3,h4⟩:=h;have wJ:d9 X.prog X.w X.K X.mg X.base sW k f fd ps (EY sp):=by rw[ok.P,ok.w,ok.K,ok.mg,ok.base];exact h1
 refine bj (vC (E:=E0) (dvs:=[]) (ds:=[]) wJ (ok.room hh) (d3 ok hg) (by rw[ok.mg];exact h2) (by rw[ok.K];exact h3) (by rw[ok.K];exact h4) .nil Gz (ha X Y ok) wL (he _) (jc _)) λσ H Q q=>?_
 obtain⟨F,aq,Qd,R,q,K⟩:=q;refine⟨F,aq,_,R,q,λvs H1 F1 ds aC s1 R1 r1 q1=>?_⟩;show EY sp (vs++[]) H1 Q E0;rw[List.append_nil];refine⟨F1,ds,_,⟨R1.fr,R1.ob.tab⟩,r1,q1,λv H' F' b s2 s3 s4 fr r2 q2=>?_⟩;have R2:=R1.call s2 s3 s4 fr;cases b with
 | sh d=>exact K v H' F' (.val d) aC (s1.trans s2) R2 r2 q2
 | own xs =>
  obtain⟨a,us,rfl,w1,w2,w3,w4⟩:=r2;refine K _ H' F' (.own xs) aC (s1.trans s2) R2 ⟨a,us,rfl,w1,w2,w3,(R1.dQ w4).1,R1.eQ w4⟩ q2
 | obj o =>
  obtain⟨a,rfl,w1,w2⟩:=r2;exact K _ H' F' (.obj o) aC (s1.trans s2) R2 ⟨a,rfl,w1,λb hb=>⟨(w2 b hb).1,(w2 b hb).2.1,(R1.dQ (w2 b hb).2.2).1,R1.eQ (w2 b hb).2.2⟩⟩ q2
def aW(n:Nat)(ds:List D):Sd:=ds.map (λd=>some (.sh d))++List.replicate (n-ds.length) none
theorem ml{F:Hp}:∀ {vs:List V} {ds:List D} (m:Nat) {i:Nat} {d:D},aG F vs ds->(ds.map (λd=>some (B.sh d))++List.replicate m none)[i]?=some (some (.sh d))->∃v,(vs.map some++List.replicate m none)[i]?=some (some v)/\Rep F v d
 | [],[],m,i,d,.nil,e=>by
  simp only[List.map_nil,List.nil_append,List.getElem?_replicate]at e
  split at e<;>cases e
 | v::vs,x::ds,m,0,d,.cons r t,e=>by
  simp at e;subst e;exact⟨v,by simp,r⟩
 | v::vs,x::ds,m,i+1,d,.cons r t,e=>by
  obtain⟨u,h1,h2⟩:=ml (i:=i) m t (by simpa using e)
  exact⟨u,by simpa using h1,h2⟩
theorem eF:∀(ds:List D) (m i:Nat) (xs:List D),(ds.map (λd=>some (B.sh d))++List.replicate m none)[i]?≠some (some (.own xs))
 | [],m,i,xs=>by
  simp only[List.map_nil,List.nil_append,List.getElem?_replicate];intro e
  split at e<;>cases e
 | x::ds,m,0,xs=>by simp
 | x::ds,m,i+1,xs=>by
  have:=eF ds m i xs;simpa using this
theorem jH:∀(ds:List D) (m i:Nat) (o:O),(ds.map (λd=>some (B.sh d))++List.replicate m none)[i]?≠some (some (.obj o))
 | [],m,i,o=>by
  simp only[List.map_nil,List.nil_append,List.getElem?_replicate];intro e
  split at e<;>cases e
 | x::ds,m,0,o=>by simp
 | x::ds,m,i+1,o=>by
  have:=jH ds m i o;simpa using this
theorem RS.start{F H:Hp}{vs:List V}{ds:List D}(n:Nat)(s:uP F H)(r:aG F vs ds):RS ⟨H,F,[],[]⟩ F (aW n ds) (vs.map some++List.replicate (n-vs.length) none) H where
 len:=by unfold aW;simp [r.length]
 lo:=aA.refl _
 fr:=s.1
 fN:=λb o e=>.inl e
 old:=λb o e _=>e
 sh:=λi d e=>by
  rw[r.length];exact ml _ r e
 own:=λi xs e=>absurd e (eF _ _ _ _)
 dis:=λi j xs ys a e=>absurd e (eF _ _ _ _)
 io:=λp hp=>absurd hp (by simp)
 ob:=.none (λi o=>jH _ _ _ _) s.2 λb hb=>by cases hb
theorem Gf{x qual:Str}{st:Stmt}{f:Addr}{fd:FuncData}{N ps:List Str}{sp:bz}{t:cJ}(hK:G.K=KF.K)(Fn:FQ G.K x qual st f fd)(Sc:aL N ps (ai st))(ht:d8 G k ⟨N,(ai st).names,[],false,false,false,λ_ _=>False⟩ (av st) t)
  (len:∀ds Q,sp ds Q->ds.length=ps.length)
  (body:∀ds Q,sp ds Q->t {nx:=λ_=>Q (.sh .bC),rt:=λb _=>Q b} (aW N.length ds)):d9 G.P G.w G.K G.mg G.base sW (k+1) f fd ps (EY sp):=by
 refine Fn.ok Sc (λvs H Q E h=>?_) (λjb A outer s H vs Q E hr h=>?_)
 ·obtain⟨F,ds,Qd,s,r,q,K⟩:=h
  rw[r.length];exact len _ _ q
 ·obtain⟨F,ds,Qd,sm,r,q,K⟩:=h
  refine⟨_,ht (qp sW G.P G.w G.K G.mg G.base N qual (ai st) f jb A outer s H E).OH ⟨H,F,[],[]⟩ ⟨rfl,rfl,rfl,hK,rfl,rfl,rfl,rfl,Sc.nd,λp hp=>absurd hp (by simp),λ_ _=>rfl,λ_=>rfl,Sc.kind,λ_ _ _=>rfl,λ_=>hr.hd,hr.dp,hr.un,λ_=>PassesOwn.never,λ_=>⟨rfl,rfl,rfl⟩,λ_ _ h=>h.elim,λh=>nomatch h⟩,F,aW N.length ds,_,RS.start _ sm r,body ds Qd q,?_⟩
  have same:∀ {F':Hp} {aq:Sd} {σ:St} {H':Hp},RS ⟨H,F,[],[]⟩ F' aq σ H'->aA H H':=λR b o e=>R.old b o e (by simp [bN.Gr])
  refine⟨λσ H' F' aq s' R' q'=>?_,λv σ H' F' aq b s' R' r' q'=>?_,λ_ _ _ _ _ _ h=>h.elim,λ_ _ _ _ _ _ h=>h.elim⟩
  ·exact K .bC H' F' (.sh .bC) s' R'.fr (same R') R'.fN .bC q'
  ·refine K v H' F' b s' R'.fr (same R') R'.fN ?_ q'
   cases b with
   | sh d=>exact r'
   | own xs =>
    obtain⟨a,us,rfl,w1,w2,w3,w4,w5⟩:=r';exact⟨a,us,rfl,w1,w2,w3,w4⟩
   | obj o =>
    obtain⟨a,rfl,w1,w2⟩:=r';exact⟨a,rfl,w1,λb hb=>⟨(w2 b hb).1,(w2 b hb).2.1,(w2 b hb).2.2.1⟩⟩
end Vc
namespace Vc
open PySem L2
variable [KF]
variable {G:GE}{k:Nat}{S:Stat}
abbrev kj:=D->Sd->(Sd->Prop)->Prop
def lG(Y:bN)(g:kj):TG:=λv σ H Q=>∃F aq d Qd,RS Y F aq σ H/\Rep F v d/\g d aq Qd/\∀cA H' F' aX,aA F F'->RS Y F' aX cA H'->Qd aX->Q cA H'
structure EG(G:GE)(k:Nat)(S:Stat)(tg:Expr)(g:kj) :Prop where
 run:∀X Y,dH X G k S Y->PG X tg (lG Y g)
instance {G:GE} {k:Nat} {S:Stat} {tg:Expr} {g:kj} :CoeFun (EG G k S tg g) λ_=>∀X Y,dH X G k S Y->PG X tg (lG Y g):=⟨EG.run⟩
theorem Bm{X:Cx}{e:Expr}{t t':TG}(h:PG X e t)(i:∀v σ H Q,t' v σ H Q->t v σ H Q):PG X e t':=λpins s σ H v u Q I r q=>h pins s σ H v u Q I r (i v σ H Q q)
def d0(i:Nat):kj:=λd σ Q=>Q (σ.set i (some (.sh d)))
theorem aU(i:Nat){x:Str}{pos:Pos}(hi:S.N[i]?=some x:=by rfl)(hx:S.sc.lookup x=some .local\/(S.sc.lookup x=some .cell/\S.yy=false):=by first|exact Or.inl rfl|exact Or.inr ⟨rfl,rfl⟩)(hn:i∉S.ios:=by first|decide|exact List.not_mem_nil | (dsimp only;decide)):EG G k S (.Name x pos) (d0 i):=.mk λX Y ok =>
 Bm (Ej (i:=i) (by rw[ok.N];exact ok.nd) (by rw[ok.N];exact hi) (oM ok hx) (oD ok hx)) λv σ H Q q=>by
  obtain⟨F,aq,d,Qd,R,r,q,K⟩:=q;exact K _ H F _ (aA.refl _) (R.vQ r λp hp z=>hn (z ▸ ok.ios p hp)) q
abbrev nY:=List D->Sd->(Sd->Prop)->Prop
def YW(Y:bN)(g:nY):FT:=λvs σ H Q=>∃F aq ds Qd,RS Y F aq σ H/\aG F vs ds/\g ds aq Qd/\∀cA H' F' aX,aA F F'->RS Y F' aX cA H'->Qd aX->Q cA H'
structure Oe(G:GE)(k:Nat)(S:Stat)(ts:List Expr)(g:nY) :Prop where
 run:∀X Y,dH X G k S Y->Og X ts (YW Y g)
instance {G:GE} {k:Nat} {S:Stat} {ts:List Expr} {g:nY} :CoeFun (Oe G k S ts g) λ_=>∀X Y,dH X G k S Y->Og X ts (YW Y g):=⟨Oe.run⟩
def CY:nY:=λds σ Q=>match ds with
 | []=>Q σ
 | _=>False
def gC(g:kj)(u:nY):nY:=λds σ Q=>match ds with
 | d::r=>g d σ λaC=>u r aC Q
 | []=>False
theorem gM:Oe G k S [] CY:=.mk λX Y ok pins s σ H vs us Q I r q=>Ek pins s σ H vs us Q I r (by
 obtain⟨F,aq,ds,Qd,R,rr,q,K⟩:=q;cases rr with
 | nil=>exact⟨rfl,K σ H F aq (aA.refl _) R q⟩
 | cons _ _=>exact q.elim)
theorem bQ{e:Expr}{es:List Expr}{g:kj}{u:nY}(h1:EG G k S e g)(h2:Oe G k S es u)(hs:∀env,(assignEach (e::es) env).map (·.2)=assign e env::(assignEach es env).map (·.2):=by intro _;rfl):Oe G k S (e::es) (gC g u):=.mk λX Y ok pins s σ H vs us Q I r q =>
 Bo (h1 X Y ok) (h2 X Y ok) (hs _) pins s σ H vs us Q I r (by
  obtain⟨F,aq,ds,Qd,R,rr,q,K⟩:=q;cases rr with
  | nil=>exact q.elim
  | cons r1 rs =>
   refine⟨_,_,rfl,F,aq,_,_,R,r1,q,λaC H1 F1 CP s1 R1 q1=>?_⟩;exact⟨F1,CP,_,_,R1,rs.mono s1,q1,λbq H2 F2 cW s2 R2 q2=>K bq H2 F2 cW (s1.trans s2) R2 q2⟩)
def CZ(n:Nat)(u:nY):kj:=λd σ Q=>match d with
 | .tup xs=>xs.length=n/\u xs σ Q
 | _=>False
theorem kZ{es:List Expr}{kk:Nat}{u:nY}{n:Nat}{pos:Pos}(h:Oe G k S es u)(hn:∀env,(assignEach es env).length=n:=by intro _;rfl)(JK:∀env,(assignEach es env).findIdx? (·.1)=none:=by intro _;rfl)(hh:S.mL=false:=by rfl):EG G k S (.Tuple es kk pos) (CZ n u):=.mk λX Y ok =>
 Bm (L8 (ok.calm hh) (h X Y ok) (hn _) (JK _)) λv σ H Q q=>by
  obtain⟨F,aq,d,Qd,R,r,q,K⟩:=q;cases d with
  | tup xs =>
   cases r with
   | tup hf rl =>
    exact⟨_,_,rfl,.of (R.fr _ _ hf),by rw[rl.length];exact q.1,F,aq,xs,Qd,R,rl,q.2,K⟩
  | _=>exact q.elim
def xV(F1 H1 F2 H2:Hp):Prop:=(F2=F1/\H2=H1)\/∃p o,H1 p=none/\F2=upd F1 p o/\H2=upd H1 p o
theorem xV.same{F1 H1 F2 H2:Hp}(g:xV F1 H1 F2 H2)(s:aA F1 H1):aA F1 F2:=by
 rcases g with⟨rfl,rfl⟩|⟨p,o,h,rfl,rfl⟩
 ·exact aA.refl _
 ·exact aM (same_none s h)
theorem xV.rs{Y:bN}{F1 H1 F2 H2:Hp}{aq:Sd}{σ:St}(g:xV F1 H1 F2 H2)(R:RS Y F1 aq σ H1):RS Y F2 aq σ H2:=by
 rcases g with⟨rfl,rfl⟩|⟨p,o,h,rfl,rfl⟩
 ·exact R
 ·exact R.alloc h
def gX(F:Hp)(J:It)(items:List D):Prop:=∀F1 H1,aA F F1->aA F1 H1->∀i:Nat,
 (∀x,items[i]?=some x->J.go i H1/\∀v H2,J.UK i H1 v H2->∃F2,xV F1 H1 F2 H2/\Rep F2 v x)/\(i=items.length->J.stop i H1)
theorem gX.mono{F F':Hp}{J:It}{items:List D}(h:gX F J items)(s:aA F F'):gX F' J items:=λF1 H1 s1=>h F1 H1 (s.trans s1)
def lI(Y:bN)(t:gh):TI:=λσ H R=>∃F aq Qd,RS Y F aq σ H/\t aq Qd/\∀H' F' aX J items,aA F F'->RS Y F' aX σ H'->gX F' J items->Qd items aX->R J H'
structure EI(G:GE)(k:Nat)(S:Stat)(tg iter:Expr)(t:gh) :Prop where
 run:∀X Y,dH X G k S Y->PI X tg iter (lI Y t)
instance {G:GE} {k:Nat} {S:Stat} {tg iter:Expr} {t:gh} :CoeFun (EI G k S tg iter t) λ_=>∀X Y,dH X G k S Y->PI X tg iter (lI Y t):=⟨EI.run⟩
theorem lJ{X:Cx}{tg e:Expr}{t t':TI}(h:PI X tg e t)(i:∀σ H Q,t' σ H Q->t σ H Q):PI X tg e t':=λpins s σ H Q I q=>h pins s σ H Q I (i σ H Q q)
theorem L9{X:Cx}{tg l:Expr}{tl:TE}(hl:PE X l tl):PI X tg l (λσ H R=>tl σ H λx H1=>(∃a,x=.ref a/\(∃xs,e6 X.K H1 a xs)/\R (Vj X.K a) H1)\/(∃a,x=.ref a/\(∃xs,gS X.K H1 a xs)/\R (Vk X.K a) H1)):=by
 intro pins s σ H R I h;refine b8 (hl pins s σ H _ I h) λv s1 ⟨x,H1,I1,r1,q1⟩=>?_;rcases q1 with⟨a,e,⟨xs,hq⟩,q⟩|⟨a,e,⟨xs,hq⟩,q⟩
 ·subst e
  cases r1;obtain⟨its,rv,p,hz⟩:=I1.list hq;refine wpAny_pyIter_list p.isList ?_;refine⟨s1.heap.objs.size,[s1.heap.objs.size],_,_,H1,rfl,I1.kept (t':=s1.toks) λb o e=>Heap.get?_push_of_some _ e,xH a _,⟨_,Heap.get?_push_size _ rfl,rfl,rfl⟩,λb hb=>?_,q⟩;have e:b=s1.heap.objs.size:=by simpa using hb
  subst e;exact I1.wG (Nat.le_refl _) (I1.bU.fresh (Nat.le_refl _))
 ·subst e
  cases r1;obtain⟨its,rv,p,hz⟩:=I1.tuple hq;refine wpAny_pyIter_tuple (show s1.heap.IsTuple a its.toArray from p) ?_
  refine⟨s1.heap.objs.size,[s1.heap.objs.size],_,_,H1,rfl,I1.kept (t':=s1.toks) λb o e=>Heap.get?_push_of_some _ e,uK a _,⟨_,Heap.get?_push_size _ rfl,rfl,rfl⟩,λb hb=>?_,q⟩;have e:b=s1.heap.objs.size:=by simpa using hb
  subst e;exact I1.wG (Nat.le_refl _) (I1.bU.fresh (Nat.le_refl _))
theorem DU{K:PySem.W.Frag}{F:Hp}{a:Addr}{vs:List V}{xs:List D}(h:Rd F a (.lst vs))(r:aG F vs xs):gX F (Vj K a) xs:=λF1 H1 s1 s2 i=>by
 have hs:e6 K H1 a vs:=.inl (Rd.mono (s1.trans s2) h);refine⟨λx e=>?_,λhl=>⟨vs,hs,by rw[r.length,hl];exact Nat.le_refl _⟩⟩
 obtain⟨v,e1,r1⟩:=r.get e;refine⟨⟨vs,v,hs,e1⟩,λv2 H2 y=>?_⟩;obtain⟨rfl,y⟩:=y;have:=y vs hs;rw[e1]at this;cases this;exact⟨F1,.inl ⟨rfl,rfl⟩,r1.mono s1⟩
theorem DV{K:PySem.W.Frag}{F:Hp}{a:Addr}{vs:List V}{xs:List D}(h:F a=some (.tup vs))(r:aG F vs xs):gX F (Vk K a) xs:=λF1 H1 s1 s2 i=>by
 have hs:gS K H1 a vs:=.of (s2 _ _ (s1 _ _ h));refine⟨λx e=>?_,λhl=>⟨vs,hs,by rw[r.length,hl];exact Nat.le_refl _⟩⟩
 obtain⟨v,e1,r1⟩:=r.get e;refine⟨⟨vs,v,hs,e1⟩,λv2 H2 y=>?_⟩;obtain⟨rfl,y⟩:=y;have:=y vs hs;rw[e1]at this;cases this;exact⟨F1,.inl ⟨rfl,rfl⟩,r1.mono s1⟩
def bJ(t:TD):gh:=λσ Q=>t σ λd aC=>match d with
 | .lst xs=>Q xs aC
 | .tup xs=>Q xs aC
 | _=>False
theorem cC{tg l:Expr}{t:TD}(h:ED G k S l t):EI G k S tg l (bJ t):=.mk λX Y ok=>lJ (L9 (h X Y ok)) λσ H Q q=>by
 obtain⟨F,aq,Qd,R,q,K⟩:=q;refine⟨F,aq,_,R,q,λv H1 F1 d aC s1 R1 r1 q1=>?_⟩;cases d with
 | lst xs =>
  cases r1 with
  | lst hf rl=>exact .inl ⟨_,rfl,⟨_,.inl (Rd.mono R1.fr hf)⟩,K H1 F1 aC _ xs s1 R1 (DU hf rl) q1⟩
 | tup xs =>
  cases r1 with
  | tup hf rl=>exact .inr ⟨_,rfl,⟨_,.of (R1.fr _ _ hf)⟩,K H1 F1 aC _ xs s1 R1 (DV hf rl) q1⟩
 | _=>exact q1.elim
def mO(lo:Int)(n:Nat):List D:=(List.range n).map λi=>.int (lo+(i:Nat))
theorem vq{F:Hp}(lo:Int)(n:Nat):gX F (O9 lo n) (mO lo n):=λF1 H1 s1 s2 i=>by
 refine⟨λx e=>?_,λhl=>?_⟩
 ·unfold mO at e
  rw[List.getElem?_map]at e;have hi:i<n:=by
   by_cases hi:i<n
   ·exact hi
   ·rw[List.getElem?_eq_none_iff.mpr (by simpa using hi)]at e;cases e
  rw[List.getElem?_range hi]at e;cases e;refine⟨hi,λv H2 y=>?_⟩;obtain⟨rfl,rfl⟩:=y;exact⟨F1,.inl ⟨rfl,rfl⟩,.int _⟩
 ·unfold mO at hl
  rw[List.length_map,List.length_range]at hl;exact Nat.le_of_eq hl.symm
def uo(t:qf):gh:=λσ Q=>t σ λxs aC=>match hW aC xs with
 | some [.int j]=>(-(2^62)<=j/\j<2^62)/\Q (mO 0 j.toNat) aC
 | _=>False
def EJ(t:qf):gh:=λσ Q=>t σ λxs aC=>match hW aC xs with
 | some [.int i,.int j]=>(-(2^62)<=i/\i<2^62/\-(2^62)<=j/\j<2^62)/\Q (mO i (j-i).toNat) aC
 | _=>False
theorem oJ{tg a:Expr}{t:qf}{p pos:Pos}(h:xU G k S [a] t)(hm:G.mg "range"=none)(hg:S.sc.lookup ("range":Str)=some .globalImplicit:=by rfl)(hs:∀env,starEach [a] env=[(false,eval a env)]:=by intro _;rfl):EI G k S tg (.Call (.Name "range" p) [a] [] pos) (uo t):=.mk λX Y ok =>
 lJ (xn (d3 ok hg) (by rw[ok.mg];exact hm) (h X Y ok) (hs _)) λσ H Q q=>by
  obtain⟨F,aq,Qd,R,q,K⟩:=q;refine⟨F,aq,_,R,q,λvs H1 F1 xs aC s1 R1 r1 q1=>?_⟩
  split at q1
  ·rename_i j e
   obtain⟨v,rfl,rv⟩:=(R1.hW r1 e).one;obtain rfl:=rv.int;exact⟨j,rfl,q1.1.1,q1.1.2,K H1 F1 aC _ _ s1 R1 (vq 0 _) q1.2⟩
  ·exact q1.elim
theorem JO{tg a b:Expr}{t:qf}{p pos:Pos}(h:xU G k S [a,b] t)(hm:G.mg "range"=none)(hg:S.sc.lookup ("range":Str)=some .globalImplicit:=by rfl)(hs:∀env,starEach [a,b] env=[(false,eval a env),(false,eval b env)]:=by intro _;rfl)(oI:∀env,starEach [b] env=[(false,eval b env)]:=by intro _;rfl):EI G k S tg (.Call (.Name "range" p) [a,b] [] pos) (EJ t):=.mk λX Y ok =>
 lJ (xo (d3 ok hg) (by rw[ok.mg];exact hm) (h X Y ok) (hs _) (oI _)) λσ H Q q=>by
  obtain⟨F,aq,Qd,R,q,K⟩:=q;refine⟨F,aq,_,R,q,λvs H1 F1 xs aC s1 R1 r1 q1=>?_⟩
  split at q1
  ·rename_i i j e
   obtain⟨v,u,rfl,rv,ru⟩:=(R1.hW r1 e).two;obtain rfl:=rv.int;obtain rfl:=ru.int;exact⟨i,j,rfl,q1.1,K H1 F1 aC _ _ s1 R1 (vq i _) q1.2⟩
  ·exact q1.elim
def qQ(g:kj)(tb:cJ)(De:jO):List D->Sd->Prop
 | [],σ=>De.nx σ
 | x::xs,σ=>g x σ λaC=>tb {De with nx:=qQ g tb De xs,ct:=qQ g tb De xs,bk:=De.nx} aC
def da(ti:gh)(g:kj)(tb:cJ):cJ:=λDe σ=>ti σ λitems aC=>qQ g tb De items aC
theorem gB{tg iter:Expr}{body:List Stmt}{ti:gh}{g:kj}{tb:cJ}{pos:Pos}(hi:EI G k S tg iter ti)(hg:EG G k S tg g)(hb:d8 G k S body tb)(hs:∀env x,foldedSetIterable iter env x=pure x:=by intro _ _;rfl)(hh:S.mL=false:=by rfl):
  ES G k S (.For tg iter body [] pos) (da ti g tb):=.mk λX Y ok=>dy (MA (ok.po hh) (ok.calm hh) (hi X Y ok) (hg X Y ok) (hb X Y ok) (hs _)) λDn σ H q=>by
 obtain⟨F,aq,De,R,q,K⟩:=q;refine⟨F,aq,_,R,q,λH1 F1 CP J items s1 R1 it q1=>?_⟩;refine⟨λi m cA H'=>∃F' aX,aA F1 F'/\RS Y F' aX cA H'/\qQ g tb De (items.drop i) aX/\m=items.length-i/\i<=items.length,⟨items.length,F1,CP,aA.refl _,R1,q1,rfl,Nat.zero_le _⟩,?_⟩;rintro i m cA H' ⟨F',aX,s',R',q',rfl,hi⟩;have AR:=it F' H' s' R'.fr i
 by_cases hl:i<items.length
 ·right
  have hd:items.drop i=items[i]::items.drop (i+1):=by rw[List.drop_eq_getElem_cons hl]
  rw[hd]at q';obtain⟨go,yl⟩:=AR.1 items[i] (by rw[List.getElem?_eq_getElem hl])
  refine⟨go,λbq H2=>∃F2 cW,aA F1 F2/\RS Y F2 cW bq H2/\qQ g tb De (items.drop (i+1)) cW,λbq H2 ⟨F2,cW,s2,R2,q2⟩=>⟨items.length-(i+1),by omega,F2,cW,s2,R2,q2,rfl,hl⟩,λv H2 y=>?_⟩
  obtain⟨F2,gr,rep⟩:=yl v H2 y;have s2:aA F1 F2:=s'.trans (gr.same R'.fr);refine⟨F2,aX,items[i],_,gr.rs R',rep,q',λd7 H3 F3 XT s3 R3 q3=>⟨F3,XT,_,R3,q3,?_⟩⟩;refine⟨λC7 H4 F4 mC s4 R4 q4=>⟨F4,mC,(s2.trans s3).trans s4,R4,q4⟩,λv4 C7 H4 F4 mC b s4 R4 r4 q4=>K.rt v4 C7 H4 F4 mC b (((s1.trans s2).trans s3).trans s4) R4 r4 q4,
   λC7 H4 F4 mC s4 R4 q4=>K.nx C7 H4 F4 mC (((s1.trans s2).trans s3).trans s4) R4 q4,λC7 H4 F4 mC s4 R4 q4=>⟨F4,mC,(s2.trans s3).trans s4,R4,q4⟩⟩
 ·left
  have e:i=items.length:=by omega
  subst e;rw[List.drop_length]at q';exact⟨AR.2 rfl,K.nx cA H' F' aX (s1.trans s') R' q'⟩
end Vc
namespace Vc
open PySem L2
variable [KF]
theorem oh{prog:Program}{w:World}{A:Around}{R:Result->Shared->Prop}{s:Shared}{elt target iter:Expr}{ifs:List Expr}{scope:Scope}{pos:Pos}{it acc:Value}{env:Env}(I:Nat->Shared->Prop)
  (turn:∀n s,I n s->wpAny (model prog w) A (pyNext it) (λr bA=>match r with
   | none=>R (.ok .next) bA
   | some v=>wpAny (model prog w) A (letOwnedTupleGo target it v) (λ_ GL=>wpAny (model prog w) A (assign target env v) (λ_ sd =>
     wpAny (model prog w) A (forIn ifs true λc r=>if r=true then do let ok <- isTrue c env (eval c env);pure (ForInStep.yield ok)else pure (ForInStep.yield r)) (λok BP =>
      if ok=true then wpAny (model prog w) A (eval elt env) (λx E1 =>
       wpAny (model prog w) A (call (.builtin "list.append") [acc,x]) (λ_ Uw=>∃m,m<n/\I m Uw) (λ_ _=>False) E1) (λ_ _=>False) BP
      else∃m,m<n/\I m BP) (λ_ _=>False) sd) (λ_ _=>False) GL) (λ_ _=>False) bA) (λ_ _=>False) s)
  (n:Nat) (h:I n s):codeAny (model prog w) A (.compLoop (.ListComp elt [⟨target,iter,ifs,0⟩] scope pos) 0 it acc env) R s:=by
 refine codeAny_loop rfl I (λn s hI=>?_) n h;show wpAny _ A ((compTurn (.ListComp elt [⟨target,iter,ifs,0⟩] scope pos) 0 it acc env).onRaise (λx=>do noteFrame x env;theTreesLotGoes x)) _ _ s
 refine wpAny_noted ?_;rw[compTurn_list];refine wpAny_bind (wpAny_standAt (wpAny_bind (wpAny_mono (turn n s hI) (λr bA RJ=>?_) λ_ _ h'=>h'.elim)));cases r with
 | none=>exact wpAny_pure RJ
 | some v =>
  refine wpAny_bind (wpAny_mono RJ (λ_ GL RK=>?_) λ_ _ h'=>h'.elim);refine wpAny_bind (wpAny_mono RK (λ_ sd WN=>wpAny_bind (wpAny_mono WN (λok BP RL=>?_) λ_ _ h'=>h'.elim)) λ_ _ h'=>h'.elim);cases ok with
  | false=>exact wpAny_pure ⟨rfl,RL⟩
  | true =>
   exact wpAny_bind (wpAny_bind (wpAny_mono RL (λx E1 WO=>wpAny_bind (wpAny_mono WO (λ_ Uw WQ=>wpAny_pure (wpAny_pure ⟨rfl,WQ⟩)) λ_ _ h'=>h'.elim)) λ_ _ h'=>h'.elim))
def gF(env:Env):List (Str×NameKind)->List (Str×Addr)->List (Str×Addr)
 | [],cs=>cs
 | (n,k)::r,cs=>if k==.free then gF env r ((n,(env.cells.lookup n).getD 0)::cs)else gF env r cs
theorem kO{env:Env}{scope:Scope}(h:∀x∈scope.names,x.2=.free->∃c,env.cells.lookup x.1=some c):closureFor scope env=pure (gF env scope.names []):=by
 have all:∀(l:List (Str×NameKind)) (cs:List (Str×Addr)),(∀x∈l,x.2=.free->∃c,env.cells.lookup x.1=some c) ->
   (forIn l cs λx cs=>if(x.2==NameKind.free)=true then(do let a <- cellOf env x.1;pure (ForInStep.yield ((x.1,a)::cs)))else pure (ForInStep.yield cs):Sem (List (Str×Addr)))=pure (gF env l cs):=by
  intro l
  induction l with
  | nil=>intro cs _;rfl
  | cons x l ih =>
   intro cs hl;obtain⟨n,k⟩:=x;rw[List.forIn_cons];unfold gF
   by_cases hk:k=.free
   ·subst hk
    obtain⟨c,e⟩:=hl (n,.free) List.mem_cons_self rfl;have e':env.cells.lookup n=some c:=e;simp only[beq_self_eq_true,if_true,cellOf,e',Option.getD_some,pure_bind];exact ih _ λy hy=>hl y (List.mem_cons_of_mem _ hy)
   ·have hb:(k==NameKind.free)=false:=by simpa using hk
    simp only[hb,Bool.false_eq_true,if_false,pure_bind];exact ih _ λy hy=>hl y (List.mem_cons_of_mem _ hy)
 have h1:=all scope.names [] h;have h2:closureFor scope env=((forIn scope.names ([]:List (Str×Addr)) λx cs=>if(x.2==NameKind.free)=true then(do let a <- cellOf env x.1;pure (ForInStep.yield ((x.1,a)::cs)))else pure (ForInStep.yield cs):Sem (List (Str×Addr))) >>= λcs=>pure cs):=rfl
 rw[h2,h1,pure_bind]
theorem bW{env:Env}:∀(l:List (Str×NameKind)) (cs:List (Str×Addr)) (x:Str) (c:Addr),(∀y∈l,y.2=.free->∃c,env.cells.lookup y.1=some c)->(gF env l cs).lookup x=some c->env.cells.lookup x=some c\/cs.lookup x=some c
 | [],cs,x,c,_,h=>.inr h
 | (n,k)::r,cs,x,c,hl,h=>by
  unfold gF at h
  by_cases hk:k=.free
  ·subst hk
   simp only[beq_self_eq_true,if_true]at h;obtain⟨c',e⟩:=hl (n,.free) List.mem_cons_self rfl;have e':env.cells.lookup n=some c':=e;rcases bW r _ x c (λy hy=>hl y (List.mem_cons_of_mem _ hy)) h with q|q
   ·exact .inl q
   ·rw[List.lookup_cons]at q
    cases hx:x==n with
    | true =>
     rw[hx]at q;have:=eq_of_beq hx;subst this;rw[e',Option.getD_some]at q;exact .inl (e'.trans q)
    | false=>rw[hx]at q;exact .inr q
  ·have hb:(k==NameKind.free)=false:=by simpa using hk
   simp only[hb,Bool.false_eq_true,if_false]at h;exact bW r cs x c (λy hy=>hl y (List.mem_cons_of_mem _ hy)) h
theorem jh{env:Env}:∀(l:List (Str×NameKind)) (cs:List (Str×Addr)) (x:Str),(cs.lookup x).isSome=true->((gF env l cs).lookup x).isSome=true
 | [],cs,x,h=>h
 | (n,k)::r,cs,x,h=>by
  unfold gF
  by_cases hk:k=.free
  ·subst hk
   simp only[beq_self_eq_true,if_true];refine jh r _ x ?_;rw[List.lookup_cons];cases hx:x==n with
   | true=>rfl
   | false=>exact h
  ·have hb:(k==NameKind.free)=false:=by simpa using hk
   simp only[hb,Bool.false_eq_true,if_false];exact jh r cs x h
theorem g9{env:Env}:∀(l:List (Str×NameKind)) (cs:List (Str×Addr)) (x:Str),(x,NameKind.free)∈l->((gF env l cs).lookup x).isSome=true
 | (n,k)::r,cs,x,h=>by
  unfold gF;rcases List.mem_cons.mp h with e|e
  ·cases e
   simp only[beq_self_eq_true,if_true];refine jh r _ _ ?_;rw[List.lookup_cons,beq_self_eq_true];rfl
  ·split
   ·exact g9 r _ x e
   ·exact g9 r cs x e
structure jN(X X':Cx)(scope:Scope)(N':List Str):Prop where
 P:X'.prog=X.prog
 w:X'.w=X.w
 K:X'.K=X.K
 mg:X'.mg=X.mg
 base:X'.base=X.base
 A:X'.A=X.A
 N:X'.N=N'
 sc:X'.env.scope=relabel scope X.env
 calm:X'.calm=true
 xe:X'.xe=λ_ _=>False
def Di(X:Cx)(ifs:List Expr)(t:TT):Prop:=∀(pins:List (Addr×Obj)) (s:Shared) (σ:St) (H:Hp) (Q:Bool->Hp->Prop),L2.Inv X pins σ H s->t σ H Q ->
 wpAny (model X.prog X.w) X.A (forIn ifs true λc r=>if r=true then do let ok <- isTrue c X.env (eval c X.env);pure (ForInStep.yield ok)else pure (ForInStep.yield r)) (TP X pins σ Q) X.xe s
theorem Ew{X:Cx}:Di X [] (λ_ H Q=>Q true H):=λpins s σ H Q I h=>wpAny_tests_nil ⟨H,I,h⟩
theorem Ex{X:Cx}{c:Expr}{t:TT}(h:PT X c t):Di X [c] t:=λpins s σ H Q I q=>wpAny_tests_one (h pins s σ H Q I q)
def e9(caps:List (Option Nat))(σ:St):St:=caps.map λc=>match c with
 | some j=>(σ[j]?).join
 | none=>none
def jJ(wi:TI)(caps:List (Option Nat))(g:TG)(tc:TT)(te:TE):TE:=λσ H Q=>wi σ H λJ H1=>∀acc,H1 acc=none->∃W:Nat->Nat->St->Hp->Prop,(∃m,W 0 m (e9 caps σ) (upd H1 acc (.lst [])))/\∀i m aC H,W i m aC H ->
 (J.stop i H/\Q (.ref acc) H)\/(J.go i H/\∀x H',J.UK i H x H'->g x aC H' λbq H2=>tc bq H2 λb H3=>if b=true then te bq H3 λv H4=>∃ys m',H4 acc=some (.lst ys)/\ys.length<sizeLine/\m'<m/\W (i+1) m' bq (upd H4 acc (.lst (ys++[v])))else∃m',m'<m/\W (i+1) m' bq H3)
theorem eV{env:Env}:∀ {names:List (Str×NameKind)} {x:Str} {k:NameKind},(names.map λ(n,k)=>if(k==NameKind.free&&env.scope.kind==.function&&env.kindOf n==some .cell)then(n,NameKind.cell)else(n,k)).lookup x=some k ->
  names.lookup x=some k\/(k=.cell/\names.lookup x=some .free)
 | [],_,_,h=>by simp at h
 | (n,k')::r,x,k,h=>by
  have ih:=@eV env r x k;have h:List.lookup x ((if(k'==NameKind.free&&env.scope.kind==.function&&env.kindOf n==some .cell)=true then(n,NameKind.cell)else(n,k'))::_)=some k:=h
  cases hx:x==n with
  | true =>
   by_cases hc:(k'==NameKind.free&&env.scope.kind==.function&&env.kindOf n==some .cell)=true
   ·rw[if_pos hc]at h
    simp only[List.lookup_cons,hx]at h ⊢;cases h;simp only[Bool.and_eq_true,beq_iff_eq]at hc;exact .inr ⟨rfl,by rw[hc.1.1]⟩
   ·rw[if_neg hc]at h
    simp only[List.lookup_cons,hx]at h ⊢;exact .inl h
  | false =>
   by_cases hc:(k'==NameKind.free&&env.scope.kind==.function&&env.kindOf n==some .cell)=true
   ·rw[if_pos hc]at h
    simp only[List.lookup_cons,hx]at h ⊢;exact ih h
   ·rw[if_neg hc]at h
    simp only[List.lookup_cons,hx]at h ⊢;exact ih h
theorem iB{env:Env}:∀ {names:List (Str×NameKind)} {x:Str},names.lookup x=some .free ->
  (names.map λ(n,k)=>if(k==NameKind.free&&env.scope.kind==.function&&env.kindOf n==some .cell)then(n,NameKind.cell)else(n,k)).lookup x=some .cell \/
  (names.map λ(n,k)=>if(k==NameKind.free&&env.scope.kind==.function&&env.kindOf n==some .cell)then(n,NameKind.cell)else(n,k)).lookup x=some .free
 | [],_,h=>by simp at h
 | (n,k')::r,x,h=>by
  have ih:=@iB env r x;show List.lookup x ((if(k'==NameKind.free&&env.scope.kind==.function&&env.kindOf n==some .cell)=true then(n,NameKind.cell)else(n,k'))::_)=some .cell\/List.lookup x ((if(k'==NameKind.free&&env.scope.kind==.function&&env.kindOf n==some .cell)=true then(n,NameKind.cell)else(n,k'))::_)=some .free
  cases hx:x==n with
  | true =>
   simp only[List.lookup_cons,hx]at h
   by_cases hc:(k'==NameKind.free&&env.scope.kind==.function&&env.kindOf n==some .cell)=true
   ·rw[if_pos hc];left;simp only[List.lookup_cons,hx]
   ·rw[if_neg hc];right;simp only[List.lookup_cons,hx];exact h
  | false =>
   simp only[List.lookup_cons,hx]at h
   by_cases hc:(k'==NameKind.free&&env.scope.kind==.function&&env.kindOf n==some .cell)=true
   ·rw[if_pos hc];simp only[List.lookup_cons,hx];exact ih h
   ·rw[if_neg hc];simp only[List.lookup_cons,hx];exact ih h
structure fm(X:Cx)(scope:Scope)(N':List Str)(caps:List (Option Nat)):Prop where
 kind:scope.kind=.function
 lA:∀y∈scope.names,y.2≠.cell
 names:∀y∈scope.names,y.2=.local->scope.names.lookup y.1=some .local
 free:∀y∈scope.names,y.2=.free->X.env.kindOf y.1=some .cell\/X.env.kindOf y.1=some .free
 len:caps.length=N'.length
 UN:∀(i:Nat) (j:Nat),caps[i]?=some (some j)->∃x,N'[i]?=some x/\X.N[j]?=some x/\scope.names.lookup x=some .free
section
variable {X:Cx}{pins:List (Addr×Obj)}{σ:St}{H:Hp}{s:Shared}{elt target iter:Expr}{ifs:List Expr}{scope:Scope}{pos:Pos}{N':List Str}{caps:List (Option Nat)}
theorem fm.cells(SC:fm X scope N' caps)(ok:X.Ok):∀x∈scope.names,x.2=.free->∃c,X.env.cells.lookup x.1=some c:=λx hx hf=>ok.has x.1 (SC.free x hx hf)
def CT(X:Cx)(scope:Scope)(N':List Str)(cS:Shared)(sY:Hp)(C:Addr)(fp:List Addr):Cx:=
 {X with N:=N',cS:=cS,sY:=sY,env:=compEnvC scope (gF X.env scope.names []) C X.env,outer:=X.stack,ex:=fp,fn:=λ_=>false,calm:=true,pn:=[],xe:=λ_ _=>False}
theorem HX(I:L2.Inv X pins σ H s)(SC:fm X scope N' caps)(hc:X.calm=true){fp:List Addr}(hf:∀b∈fp,f7 X pins H b)(gy:∀b∈fp,b<s.heap.objs.size):(CT X scope N' s H s.heap.objs.size fp).Ok where
 mod:=I.ok.mod
 kind:=SC.kind
 glob:=I.ok.glob
 blt:=I.ok.blt
 above:=Nat.le_refl _
 inj:=λx y c h1 h2=>by
  have f:∀z,(gF X.env scope.names []).lookup z=some c->X.env.cells.lookup z=some c:=λz h=>by
   rcases bW scope.names [] z c (SC.cells I.ok) h with q|q
   ·exact q
   ·cases q
  exact I.ok.inj x y c (f x h1) (f y h2)
 has:=λx hx=>by
  have hx:(relabel scope X.env).names.lookup x=some .cell\/(relabel scope X.env).names.lookup x=some .free:=hx;have vg:scope.names.lookup x=some .free:=by
   rcases hx with hx|hx
   ·rcases eV hx with q|⟨_,q⟩
    ·exact absurd rfl (SC.lA _ (PySem.mem_of_lookup q))
    ·exact q
   ·rcases eV hx with q|⟨q,_⟩
    ·exact q
    ·cases q
  exact Option.isSome_iff_exists.mp (g9 scope.names [] x (PySem.mem_of_lookup vg))
 Oi:=λx c h=>by cases h
 hd:=λ_=>I.ok.hd hc
 frames:=I.ok.frames
 Uv:=.inl rfl
 VM:=λb hb=>⟨Nat.ne_of_lt (gy b hb),λx c h=>by
  rcases bW scope.names [] x c (SC.cells I.ok) h with q|q
  ·exact(hf b hb).2.2.2.2.1 x c q
  ·cases q⟩
 bs:=I.bs
 CQ:=Nat.le_trans I.ok.CQ I.sz
 xh:=λb o e hb=>by
  rcases(hf b hb).2.2.2.1 with q|q
  ·exact I.ok.xh b o e q
  ·exact absurd (Nat.lt_of_lt_of_le (Heap.lt_size e) (Nat.le_trans I.ok.CQ q)) (Nat.lt_irrefl _)
 zN:=λb hb z=>by
  rcases List.mem_cons.mp (I.p6 b z)with q|q
  ·exact(hf b hb).2.1 q
  ·exact(hf b hb).2.2.1 q
 km:=I.stack
 Jn:=I.v7
theorem Dv(I:L2.Inv X pins σ H s)(SC:fm X scope N' caps)(hc:X.calm=true){fp:List Addr}(hf:∀b∈fp,f7 X pins H b)(gy:∀b∈fp,b<s.heap.objs.size){h1:Heap}{t1:Nat}(hn:h1.Ns s.heap.objs.size (λ_=>none))(hk:∀b o,s.heap.get? b=some o->h1.get? b=some o):
  L2.Inv (CT X scope N' s H s.heap.objs.size fp) [] (e9 caps σ) H {s with heap:=h1,toks:=t1} where
 ok:=HX I SC hc hf gy
 os:=rfl
 bare:=I.bare
 base:=Un.kept hk
 loc:=by
  refine⟨_,hn,λi x v e1 e2 _=>?_⟩;have e2:(caps.map λc=>match c with|some j=>(σ[j]?).join|none=>none)[i]?=some (some v):=e2
  rw[List.getElem?_map]at e2;cases ec:caps[i]? with
  | none=>rw[ec]at e2;cases e2
  | some c =>
   rw[ec]at e2;cases c with
   | none=>cases e2
   | some j =>
    have e2:(σ[j]?).join=some v:=Option.some.inj e2;have e3:σ[j]?=some (some v):=by
     cases q:σ[j]? with
     | none=>rw[q]at e2;cases e2
     | some w =>
      rw[q]at e2;cases w with
      | none=>cases e2
      | some z=>cases e2;rfl
    obtain⟨y,w1,w2,w3⟩:=SC.UN i j ec;have e1:N'[i]?=some x:=e1;rw[w1]at e1;cases e1;have JC:=SC.free (x,.free) (PySem.mem_of_lookup w3) rfl;obtain⟨m,hm,hl⟩:=I.loc;obtain⟨u,r,l⟩:=hl j x v w2 e3 (.inr JC);refine⟨u,r,?_⟩;rcases l with⟨k1,_⟩|⟨_,c,Oo,vd⟩
    ·have JC:X.env.kindOf x=some .cell\/X.env.kindOf x=some .free:=JC
     rw[k1]at JC;rcases JC with z|z<;>cases z
    ·right
     refine⟨iB w3,c,?_,?_⟩
     ·obtain⟨c',e'⟩:=Option.isSome_iff_exists.mp (g9 (env:=X.env) scope.names [] x (PySem.mem_of_lookup w3))
      rcases bW scope.names [] x c' (SC.cells I.ok) e' with q|q
      ·rw[Oo]at q;cases q
       exact e'
      ·cases q
     ·obtain⟨o,ho,hd⟩:=vd
      exact⟨o,hk _ _ ho,hd⟩
 cell:=λx c h=>by
  rcases bW scope.names [] x c (SC.cells I.ok) h with q|q
  ·obtain⟨v,o,ho,hd⟩:=I.cell x c q
   exact⟨v,o,hk _ _ ho,hd⟩
  ·cases q
 free:=I.bU.fresh (Nat.le_refl _)
 fb:=λx c h=>by
  rcases bW scope.names [] x c (SC.cells I.ok) h with q|q
  ·exact I.fb x c q
  ·cases q
 pin:=λp hp=>absurd (show p∈([]:List (Addr×Obj))from hp) (by simp)
 bU:=I.bU.kept hk
 len:=by
  show(caps.map _).length=N'.length;rw[List.length_map];exact SC.len
theorem ql(I:L2.Inv X pins σ H s)(SC:fm X scope N' caps)(hc:X.calm=true){it:Addr}{fp:List Addr}{tn:Nat->Heap->Prop}{J:It}(T:Turn X.prog X.w X.K target J fp it tn)(t0:tn 0 s.heap)(hf:∀b∈fp,f7 X pins H b)
  {g:TG} {tc:TT} {te:TE} (JB:∀X',jN X X' scope N'->PG X' target g/\Di X' ifs tc/\PE X' elt te) {Q:VK}
  (q:∀acc,H acc=none->∃W:Nat->Nat->St->Hp->Prop,(∃m,W 0 m (e9 caps σ) (upd H acc (.lst [])))/\∀i m aC H,W i m aC H ->
   (J.stop i H/\Q (.ref acc) H)\/(J.go i H/\∀x H',J.UK i H x H'->g x aC H' λbq H2=>tc bq H2 λb H3=>if b=true then te bq H3 λv H4=>∃ys m',H4 acc=some (.lst ys)/\ys.length<sizeLine/\m'<m/\W (i+1) m' bq (upd H4 acc (.lst (ys++[v])))else∃m',m'<m/\W (i+1) m' bq H3))
  {E:Value->Shared->Prop} {RR:Value->Addr->Result->Shared->Prop}
  (ZA:∀acc C H' s',L2.Inv X pins σ H' s'->f7 X pins H' C->(∃m,s'.heap.Ns C m)->Q (.ref acc) H'->RR (.ref acc) C (.ok .next) s'):
  wpAny (model X.prog X.w) X.A (newList []) (λacc BP=>wpAny (model X.prog X.w) X.A (newFunctionEnv scope X.env.globals (gF X.env scope.names []) [] X.env.qual none .none (some X.env)) (λPF E1 =>
   codeAny (model X.prog X.w) X.A (.compStart (.ListComp elt [⟨target,iter,ifs,0⟩] scope pos) 0 (.ref it) acc {PF with scope:=relabel scope X.env}) (RR acc PF.locals) E1) E BP) E s:=by
 refine wpAny_newObj_type ?_;have d2:H s.heap.objs.size=none:=I.bU.fresh (Nat.le_refl _);have I3:L2.Inv X pins σ (upd H s.heap.objs.size (.lst [])) {s with heap:=s.heap.push {cls:=.type "list",dict:=none,data:=.seq ([]:List Value).toArray}}:=I.Ku (t':=s.toks) (its:=[]) (ys:=[]) .nil (Nat.zero_le _)
 obtain⟨W,⟨m0,w0⟩,step⟩:=q _ d2;generalize hs3:({s with heap:=s.heap.push {cls:=.type "list",dict:=none,data:=.seq ([]:List Value).toArray}}:Shared)=s3 at I3 ⊢
 generalize Zy:upd H s.heap.objs.size (.lst [])=H3 at I3 w0;generalize Ra:s.heap.objs.size=acc at *;have Zb:∀b o,s.heap.get? b=some o->s3.heap.get? b=some o:=λb o e=>by rw[<- hs3];exact Heap.get?_push_of_some _ e
 have QV:∀b∈fp,b<s3.heap.objs.size:=λb hb=>by
  obtain⟨o,e,_⟩:=T.obj 0 _ t0 b hb;exact Heap.lt_size (Zb b o e)
 have UW:∀b∈fp,f7 X pins H3 b:=λb hb=>by
  obtain⟨f0,f⟩:=hf b hb;refine⟨?_,f⟩;obtain⟨o,e,_⟩:=T.obj 0 _ t0 b hb;have:b≠acc:=by rw[<- Ra];exact Nat.ne_of_lt (Heap.lt_size e)
  rw[<- Zy,az this];exact f0
 have t3:tn 0 s3.heap:=T.keep 0 _ _ t0 λb _ o e=>Zb b o e;refine wpAny_newFunctionEnv SC.lA (by intro y hy;simp at hy) (λh1 UY sb1=>?_) SC.kind
 have oH:∀b o,s3.heap.get? b=some o->h1.get? b=some o:=λb o e=>sb1.extBut b o (Nat.ne_of_lt (Heap.lt_size e)) (Heap.get?_push_of_some _ e);have cx:jN X (CT X scope N' s3 H3 s3.heap.objs.size fp) scope N':=⟨rfl,rfl,rfl,rfl,rfl,rfl,rfl,rfl,rfl,rfl⟩;obtain⟨hg,ht,he⟩:=JB _ cx;have JD:h1.Ns s3.heap.objs.size (λ_=>none):=by simpa using UY
 have VQ:∀ {H':Hp},(∀b∈fp,H' b=none)->∀b∈fp,f7 (CT X scope N' s3 H3 s3.heap.objs.size fp) [] H' b:=λ{H'} hn b hb=>by
  obtain⟨f0,f1,f2,f3,f4,f5⟩:=UW b hb;refine⟨hn b hb,Nat.ne_of_lt (QV b hb),?_,.inl hb,λx c h=>?_,λp hp=>absurd (show p∈([]:List (Addr×Obj))from hp) (by simp)⟩
  ·intro z
   rcases List.mem_cons.mp (I3.p6 b z)with q|q
   ·exact f1 q
   ·exact f2 q
  ·rcases bW scope.names [] x c (SC.cells I.ok) h with q|q
   ·exact f4 x c q
   ·cases q
 have loop:∀s4:Shared,L2.Inv (CT X scope N' s3 H3 s3.heap.objs.size fp) [] (e9 caps σ) H3 s4->tn 0 s4.heap->codeAny (model X.prog X.w) X.A (.compLoop (.ListComp elt [⟨target,iter,ifs,0⟩] scope pos) 0 (.ref it) (.ref acc) (compEnvC scope (gF X.env scope.names []) s3.heap.objs.size X.env)) (RR (.ref acc) s3.heap.objs.size) s4:=by
  intro s4 I4 t4;refine oh (λn s'=>∃i aC H',L2.Inv (CT X scope N' s3 H3 s3.heap.objs.size fp) [] aC H' s'/\tn i s'.heap/\(∀b∈fp,H' b=none)/\W i n aC H') ?_ m0 ⟨0,_,H3,I4,t4,λb hb=>(UW b hb).1,w0⟩;rintro n s5 ⟨i,aC,H5,I5,OO,CW,w5⟩;rcases step i n aC H5 w5 with⟨stop,qn⟩|⟨go,body⟩
  ·refine b8 (T.done (CT X scope N' s3 H3 s3.heap.objs.size fp) rfl rfl rfl rfl i [] s5 aC H5 _ I5 (VQ CW) OO stop) λr s6 ⟨hr,I6⟩=>?_
   subst hr;have u:=I6.base;refine ZA acc _ H5 s6 (I3.PD (ch:=fp) I6.os u I6.bU I6.bare λb hb=>?_) (I3.wG (Nat.le_refl _) I6.free) ?_ qn
   ·obtain⟨f0,f1,f2,f3,f4,f5⟩:=UW b hb
    exact⟨f3.imp id λz=>Heap.get?_none_of_le z,f1,f4,f5⟩
   ·obtain⟨m,hm,_⟩:=I6.loc
    exact⟨m,hm⟩
  ·refine b8 (T.item (CT X scope N' s3 H3 s3.heap.objs.size fp) rfl rfl rfl rfl i [] s5 aC H5 _ I5 (VQ CW) OO go) λr s6 ⟨u,hr,h6⟩=>?_
   subst hr;refine b8 h6 λ_ s7 ⟨x,H7,I7,r7,y7,Xz,Zu⟩=>?_;have Zi:=I7.pinned (VQ Zu) (T.obj _ _ Xz);have back:∀ {C8:St} {H8:Hp} {s8:Shared},L2.Inv (CT X scope N' s3 H3 s3.heap.objs.size fp) ([]++ju fp s7.heap) C8 H8 s8->L2.Inv (CT X scope N' s3 H3 s3.heap.objs.size fp) [] C8 H8 s8/\tn (i+1) s8.heap/\∀b∈fp,H8 b=none:=λ{C8 H8 s8} I8=>by
    refine⟨I8.fG,T.keep _ _ _ Xz λb hb o e=>(I8.pin (b,o) (List.mem_append_right _ (List.mem_append_right _ (dS hb e)))).1,λb hb=>?_⟩;obtain⟨o,e,d⟩:=T.obj _ _ Xz b hb;exact(I8.pin (b,o) (List.mem_append_right _ (List.mem_append_right _ (dS hb e)))).2.1
   refine b8 (hg _ s7 aC H7 x u _ Zi r7 (body x H7 y7)) λ_ s8 ⟨C8,H8,I8,q8⟩=>?_;refine b8 (ht _ s8 C8 H8 _ I8 q8) λb s9 ⟨H9,I9,q9⟩=>?_;cases b with
   | false =>
    obtain⟨m',hm,w9⟩:=q9;obtain⟨J1,J2,J3⟩:=back I9;exact⟨m',hm,i+1,C8,H9,J1,J2,J3,w9⟩
   | true =>
    refine b8 (he _ s9 C8 H9 _ I9 q9) λy s10 ⟨v,Ze,Zf,r10,ys,m',Vx,hz,hm,w10⟩=>?_;refine b8 (nB _ s10 C8 Ze (.ref acc) [v] (.ref acc) [y] (λz Vi=>z=.bC/\W (i+1) m' C8 Vi) Zf rfl (.cons r10 .nil) ⟨acc,ys,v,rfl,rfl,Vx,hz,rfl,w10⟩) λ_ s11 ⟨_,Vi,Zg,_,_,w11⟩=>?_;obtain⟨J1,J2,J3⟩:=back Zg;exact⟨m',hm,i+1,C8,Vi,J1,J2,J3,w11⟩
 have I4:=Dv (caps:=caps) (N':=N') I3 SC hc UW QV (t1:=s3.toks+([]:List (Str×Value)).length) JD oH;have t4:tn 0 h1:=T.keep 0 _ _ t3 λb _ o e=>oH b o e;exact codeAny_compStart_list (loop _ I4 t4) (T.self X.A 0 _ _ _ t4 (loop _ I4 t4))
end
end Vc
namespace Vc
open PySem L2
variable [KF]
section
variable {X:Cx}{elt target iter:Expr}{ifs:List Expr}{scope:Scope}{pos:Pos}{N':List Str}{caps:List (Option Nat)}{wi:TI}{g:TG}{tc:TT}{te:TE}
theorem u5{pins:List (Addr×Obj)}{σ:St}{H:Hp}{s:Shared}{C:Addr}{h':Heap}(f:f7 X pins H C)(I:L2.Inv X pins σ H s)(hs:Heap.SameBut C s.heap h'):L2.Inv X pins σ H {s with heap:=h'}:=by
 obtain⟨f0,f1,f2,f3,f4,f5⟩:=f;exact I.turned (t':=s.toks) (λb o hb e=>hs.extBut b o hb e) f0 f1 f3 f4 f5
theorem oV(hc:X.calm=true)(hi:PI X target iter wi)(SC:fm X scope N' caps)(JB:∀X',jN X X' scope N'->PG X' target g/\Di X' ifs tc/\PE X' elt te)(hs:∀x,foldedSetIterable iter X.env x=pure x):
  PE X (.ListComp elt [⟨target,iter,ifs,0⟩] scope pos) (jJ wi caps g tc te):=by
 intro pins s σ H Q I h;rw[eval_ListComp];refine wpAny_comprehension_free (use:=none) rfl hs (kO (SC.cells I.ok)) SC.kind SC.names (b8 (hi pins s σ H _ I h) λv s1 h1=>b8 h1 λU4 s2 h2=>?_);obtain⟨it,fp,tn,J,H2,rfl,I2,T,t0,f2,q2⟩:=h2;exact ql I2 SC hc T t0 f2 JB q2 (RR:=λacc C=>compPost (model X.prog X.w) X.A X.xe none (EP X pins σ Q) acc C) λacc C H' s' I' f' ⟨m,hm⟩ q'=>⟨m,hm,λh' gT=>⟨.ref acc,H',u5 f' I' gT,rfl,q'⟩⟩
theorem vF{i:Nat}{y:Str}{py eE:Pos}(hc:X.calm=true)(hi:PI X target iter wi)(SC:fm X scope N' caps)(JB:∀X',jN X X' scope N'->PG X' target g/\Di X' ifs tc/\PE X' elt te)(hs:∀x,foldedSetIterable iter X.env x=pure x)
  (hN:X.N.Nodup) (hy:X.N[i]?=some y) (hx:X.env.scope.names.lookup y=some .local) (hsw:swapsWith (.ListComp elt [⟨target,iter,ifs,0⟩] scope pos) (some (.Name y py)) eE.line X.env=pure true):
  PS X (.Assign [.Name y py] (.ListComp elt [⟨target,iter,ifs,0⟩] scope pos) eE) (BR (jJ wi caps g tc te) (nk i)):=by
 intro pins s σ H D I h;rw[exec_Assign_Name_used _ _ _ _ hsw];refine wpAny_bind (wpAny_standAt (wpAny_bind ?_));show wpAny _ X.A (do let _ <- comprehension (.ListComp elt [⟨target,iter,ifs,0⟩] scope pos) scope X.env _ (newList []) false (eval iter X.env) (some (assign (.Name y py) X.env))) _ _ s
 refine wpAny_bind (wpAny_mono (wpAny_comprehension_free (use:=some (assign (.Name y py) X.env)) (Q:=λ_ s'=>SP X pins D .next s') rfl hs (kO (SC.cells I.ok)) SC.kind SC.names (b8 (hi pins s σ H _ I h) λv s1 h1=>b8 h1 λU4 s2 h2=>?_))
  (λ_ s' hq=>wpAny_pure (wpAny_pure hq)) λ_ _ e=>e)
 obtain⟨it,fp,tn,J,H2,rfl,I2,T,t0,f2,q2⟩:=h2;refine ql (Q:=λx H1=>nk i x σ H1 D.nx) I2 SC hc T t0 f2 JB q2 (RR:=λacc C=>compPost (model X.prog X.w) X.A X.xe (some (assign (.Name y py) X.env)) (λ_ s'=>SP X pins D .next s') acc C) λacc C H' s' I' f' ⟨m,hm⟩ q'=>?_;show wpAny _ X.A (assign (.Name y py) X.env (.ref acc)) _ _ s';obtain⟨o,es,ep,ho,hd,r⟩:=id hm;have Ip:L2.Inv X (pins++ju [C] s'.heap) σ H' s':=I'.pinned (fp:=[C]) (λb hb=>(show b=C by simpa using hb) ▸ f') (λb hb=>by
  have e:b=C:=by simpa using hb
  subst e;exact⟨o,ho,λv z=>by rw[hd]at z;cases z⟩)
 refine wpAny_assign_Name (mn Ip hN hy (.inl hx) (show RelV (.ref acc) (.ref acc)from rfl) (λMJ XX=>?_) (.inr hx))
 have hC:MJ.heap.get? C=some o:=(XX.pin (C,o) (List.mem_append_right _ (List.mem_append_right _ (dS (by simp) ho)))).1
 exact⟨m,⟨o,es,ep,hC,hd,r⟩,λh' gT=>⟨_,H',u5 f' XX.fG gT,q'⟩⟩
end
variable {G:GE}{k:Nat}{S:Stat}
def iA(names sc:List (Str×NameKind)):List (Str×NameKind):=names.map λ(n,k)=>if(k==.free&&sc.lookup n==some .cell)then(n,.cell)else(n,k)
def aI(S:Stat)(scope:Scope)(N':List Str):Stat:=⟨N',iA scope.names S.sc,[],true,false,false,λ_ _=>False⟩
structure gU(S:Stat)(scope:Scope)(N':List Str)(caps:List (Option Nat)):Prop where
 kind:scope.kind=.function
 nd:N'.Nodup
 lA:scope.names.all (λy=>y.2 != .cell)=true
 names:scope.names.all (λy=>y.2 != .local||scope.names.lookup y.1==some .local)=true
 free:scope.names.all (λy=>y.2 != .free||S.sc.lookup y.1==some .cell||S.sc.lookup y.1==some .free)=true
 len:caps.length=N'.length
 UN:(caps.zip N').all (λp=>match p.1 with|some j=>S.N[j]?==some p.2&&scope.names.lookup p.2==some .free|none=>true)=true
theorem gU.sc{scope:Scope}{N':List Str}{caps:List (Option Nat)}(b:gU S scope N' caps){X:Cx}{Y:bN}(ok:dH X G k S Y):fm X scope N' caps where
 kind:=b.kind
 lA:=λy hy z=>by
  have:=List.all_eq_true.mp b.lA y hy;rw[z]at this;cases this
 names:=λy hy z=>by
  have:=List.all_eq_true.mp b.names y hy;rw[z]at this;simpa using this
 free:=λy hy z=>by
  have:=List.all_eq_true.mp b.free y hy;rw[z]at this;have kd:X.env.kindOf y.1=S.sc.lookup y.1:=by
   show X.env.scope.names.lookup y.1=_;rw[ok.sc]
  rw[kd];simpa using this
 len:=b.len
 UN:=λi j e=>by
  have hl:i<caps.length:=(List.getElem?_eq_some_iff.mp e).1;have Az:i<N'.length:=by rw[<- b.len];exact hl
  have hz:(caps.zip N')[i]?=some (some j,N'[i]):=by
   rw[List.getElem?_zip_eq_some];exact⟨e,by rw[List.getElem?_eq_getElem Az]⟩
  have:=List.all_eq_true.mp b.UN _ (List.mem_of_getElem? hz);simp only[Bool.and_eq_true,beq_iff_eq]at this;exact⟨N'[i],by rw[List.getElem?_eq_getElem Az],by rw[ok.N];exact this.1,this.2⟩
theorem hJ{X X':Cx}{Y:bN}{scope:Scope}{N':List Str}{caps:List (Option Nat)}(hh:S.mL=false)(ok:dH X G k S Y)(b:gU S scope N' caps)(c:jN X X' scope N')(Y':bN)(dq:Y'.io=[]):dH X' G k (aI S scope N') Y' where
 P:=c.P.trans ok.P
 w:=c.w.trans ok.w
 K:=c.K.trans ok.K
 kf:=c.K.trans ok.kf
 mg:=c.mg.trans ok.mg
 obs:=λh=>nomatch h
 base:=c.base.trans ok.base
 N:=c.N
 sc:=by
  rw[c.sc];show scope.names.map _=iA scope.names S.sc;unfold iA;refine List.map_congr_left λy _=>?_;obtain⟨n,kk⟩:=y;have kd:X.env.kindOf n=S.sc.lookup n:=by
   show X.env.scope.names.lookup n=_;rw[ok.sc]
  simp only[ok.kind,kd,beq_self_eq_true,Bool.and_true]
 nd:=b.nd
 ios:=λp hp=>by rw[dq]at hp;cases hp
 calm:=λ_=>c.calm
 kind:=by rw[c.sc];exact b.kind
 fn:=λh=>by cases h
 hd:=λ_=>by rw[c.A];exact ok.hd hh
 dp:=by rw[c.A];exact ok.dp
 un:=by rw[c.A];exact ok.un
 po:=λ_=>by rw[c.xe];exact PassesOwn.never
 nx:=λh=>nomatch h
 exc:=λ_ _ h=>h.elim
 made:=λh=>nomatch h
def kr:Sd->Sd->Prop
 | [],[]=>True
 | none::r,_::s=>kr r s
 | some b::r,c::s=>c=some b/\kr r s
 | _,_=>False
theorem kC:∀ {a b:Sd} {i:Nat} {x:B},kr a b->a[i]?=some (some x)->b[i]?=some (some x)
 | [],[],_,_,_,e=>by simp at e
 | none::r,c::s,0,_,h,e=>by simp at e
 | none::r,c::s,i+1,x,h,e=>by
  have h:kr r s:=h;simpa using kC (i:=i) h (by simpa using e)
 | some b::r,c::s,0,x,h,e=>by
  obtain⟨h1,h2⟩:c=some b/\kr r s:=h;simp at e;subst e;simp [h1]
 | some b::r,c::s,i+1,x,h,e=>by
  obtain⟨h1,h2⟩:c=some b/\kr r s:=h;simpa using kC (i:=i) h2 (by simpa using e)
 | [],_::_,_,_,h,_=>h.elim
 | none::_,[],_,_,h,_=>h.elim
 | some _::_,[],_,_,h,_=>h.elim
theorem kE:∀ {a b:Sd},kr a b->a.length=b.length
 | [],[],_=>rfl
 | none::r,c::s,h=>by
  have h:kr r s:=h;simp [kE h]
 | some b::r,c::s,h=>by
  obtain⟨_,h2⟩:c=some b/\kr r s:=h;simp [kE h2]
 | [],_::_,h=>h.elim
 | none::_,[],h=>h.elim
 | some _::_,[],h=>h.elim
def qR(ios:List Nat):List (Option Nat)->Sd->(Sd->Prop)->Prop
 | [],σ,Q=>Q σ
 | none::r,σ,Q=>qR ios r σ Q
 | some j::r,σ,Q=>match σ[j]? with
  | some (some (.own xs))=>j∉ios/\qR ios r (σ.set j (some (.sh (.lst xs)))) Q
  | _=>qR ios r σ Q
def dn(caps:List (Option Nat))(σ:Sd):Sd:=caps.map λc=>match c with
 | some j=>match σ[j]? with
  | some (some (.sh d))=>some (.sh d)
  | _=>none
 | none=>none
def gq(g:kj)(tc:TB)(te:TD)(kx:Sd):List D->List D->(List D->Prop)->Prop
 | [],acc,Q=>Q acc
 | x::xs,acc,Q=>g x kx λaC=>tc aC λb bq=>if b=true then te bq λd d7=>kr kx d7/\acc.length<sizeLine/\gq g tc te kx xs (acc++[d]) Q else kr kx bq/\gq g tc te kx xs acc Q
def cD(ios:List Nat)(caps:List (Option Nat))(ti:gh)(g:kj)(tc:TB)(te:TD):TX:=λσ Q=>ti σ λitems aC=>qR ios caps aC λbq=>gq g tc te (dn caps bq) items [] λds=>Q (.own ds) bq
theorem dR{ios:List Nat}{Y:bN}(dq:∀p∈Y.io,p.1∈ios):∀ {caps:List (Option Nat)} {F:Hp} {aq:Sd} {σ:St} {H:Hp} {Q:Sd->Prop},RS Y F aq σ H->qR ios caps aq Q->∃F' aX,aA F F'/\RS Y F' aX σ H/\Q aX
 | [],F,aq,σ,H,Q,R,q=>⟨F,aq,aA.refl _,R,q⟩
 | none::r,F,aq,σ,H,Q,R,q=>dR dq (caps:=r) R q
 | some j::r,F,aq,σ,H,Q,R,q=>by
  unfold qR at q
  split at q
  ·rename_i xs e
   obtain⟨F2,v2,s2,R2,e2,r2⟩:=R.ji e λp hp z=>q.1 (z ▸ dq p hp);obtain⟨F3,d7,s3,R3,q3⟩:=dR dq (caps:=r) R2 q.2;exact⟨F3,d7,s2.trans s3,R3,q3⟩
  ·exact dR dq (caps:=r) R q
theorem bX(caps:List (Option Nat))(aq:Sd):∀(i:Nat) (o:O),(dn caps aq)[i]?≠some (some (.obj o)):=λi o e=>by
 unfold dn at e;rw[List.getElem?_map]at e;cases ec:caps[i]? with
 | none=>rw[ec]at e;cases e
 | some c =>
  rw[ec]at e;cases c with
  | none=>cases e
  | some j =>
   have e:(match aq[j]? with|some (some (.sh d))=>some (B.sh d)|_=>none)=some (.obj o):=Option.some.inj e
   split at e<;>cases e
theorem uU{Y:bN}{F:Hp}{aq:Sd}{σ:St}{H:Hp}(R:RS Y F aq σ H)(caps:List (Option Nat)){F' H':Hp}(s1:aA F F')(s2:aA F' H'):RS ⟨H',F',[],[]⟩ F' (dn caps aq) (e9 caps σ) H' where
 len:=by unfold dn e9;simp
 lo:=aA.refl _
 fr:=s2
 fN:=λb o e=>.inl e
 old:=λb o e _=>e
 sh:=λi d e=>by
  unfold dn at e;rw[List.getElem?_map]at e;unfold e9;rw[List.getElem?_map];cases ec:caps[i]? with
  | none=>rw[ec]at e;cases e
  | some c =>
   rw[ec]at e;cases c with
   | none=>cases e
   | some j =>
    have e:(match aq[j]? with|some (some (.sh d))=>some (B.sh d)|_=>none)=some (.sh d):=Option.some.inj e
    split at e
    ·rename_i d' q
     cases e;obtain⟨v,h1,h2⟩:=R.sh j d q;exact⟨v,by show some ((σ[j]?).join)=_;rw[h1];rfl,h2.mono s1⟩
    ·cases e
 own:=λi xs e=>by
  unfold dn at e;rw[List.getElem?_map]at e;cases ec:caps[i]? with
  | none=>rw[ec]at e;cases e
  | some c =>
   rw[ec]at e;cases c with
   | none=>cases e
   | some j =>
    have e:(match aq[j]? with|some (some (.sh d))=>some (B.sh d)|_=>none)=some (.own xs):=Option.some.inj e
    split at e<;>cases e
 dis:=λi j xs ys a e=>by
  exfalso;unfold dn at e;rw[List.getElem?_map]at e;cases ec:caps[i]? with
  | none=>rw[ec]at e;cases e
  | some c =>
   rw[ec]at e;cases c with
   | none=>cases e
   | some j =>
    have e:(match aq[j]? with|some (some (.sh d))=>some (B.sh d)|_=>none)=some (.own xs):=Option.some.inj e
    split at e<;>cases e
 io:=λp hp=>by cases hp
 ob:=.none (bX _ _) (R.ob.tab.mono s1) λb hb=>by cases hb
theorem RS.less{Y:bN}{F:Hp}{kx aq:Sd}{σ:St}{H:Hp}(R:RS Y F aq σ H)(l:kr kx aq)(rC:∀(i:Nat) (xs:List D),kx[i]?≠some (some (.own xs)))(A7:∀(i:Nat) (o:O),kx[i]?≠some (some (.obj o))){H':Hp}(s:aA F H'):RS ⟨H',F,[],[]⟩ F kx σ H' where
 len:=(kE l).trans R.len
 lo:=aA.refl _
 fr:=s
 fN:=λb o e=>.inl e
 old:=λb o e _=>e
 sh:=λi d e=>R.sh i d (kC l e)
 own:=λi xs e=>absurd e (rC i xs)
 dis:=λi j xs ys a e=>absurd e (rC i xs)
 io:=λp hp=>by cases hp
 ob:=.none A7 R.ob.tab λb hb=>by cases hb
theorem bZ(caps:List (Option Nat))(aq:Sd):∀(i:Nat) (xs:List D),(dn caps aq)[i]?≠some (some (.own xs)):=λi xs e=>by
 unfold dn at e;rw[List.getElem?_map]at e;cases ec:caps[i]? with
 | none=>rw[ec]at e;cases e
 | some c =>
  rw[ec]at e;cases c with
  | none=>cases e
  | some j =>
   have e:(match aq[j]? with|some (some (.sh d))=>some (B.sh d)|_=>none)=some (.own xs):=Option.some.inj e
   split at e<;>cases e
theorem fu:∀a:Sd,kr a a
 | []=>trivial
 | none::r=>fu r
 | some b::r=>⟨rfl,fu r⟩
theorem RS.other{Y:bN}{F:Hp}{aq:Sd}{σ:St}{H:Hp}{a:Addr}{o:HO}(R:RS Y F aq σ H)(h1:F a=none)(h2:Y.H0 a=none)(h3:dC aq σ a):RS Y F aq σ (upd H a o) where
 len:=R.len
 lo:=R.lo
 fr:=λb u e=>by
  have:b≠a:=λz=>by rw[z,h1]at e;cases e
  rw[az this];exact R.fr b u e
 fN:=R.fN
 old:=λb u e n=>by
  have:b≠a:=λz=>by rw[z,h2]at e;cases e
  rw[az this];exact R.old b u e n
 sh:=R.sh
 own:=λi xs e=>by
  obtain⟨b,vs,w1,w2,w3⟩:=R.own i xs e;have:b≠a:=λz=>h3 i xs e (by rw[w1,z])
  exact⟨b,vs,w1,by rw[az this];exact w2,w3⟩
 dis:=R.dis
 io:=R.io
 ob:=R.ob.step (aA.refl _) (λ_ _ e=>⟨e,rfl⟩) (λb hb=>by
  obtain⟨w1,w2,w3⟩:=R.ob.owned hb;have c9:b≠a:=λz=>h3.OG (z ▸ hb);exact⟨az c9,w1,w3⟩) R.ob.ky λb hb=>by
  by_cases c9:b=a
  ·rw[c9,aR];exactλz=>nomatch z
  ·rw[az c9];exact R.ob.there b hb
def W3(g:kj):TG:=λv σ H Q=>∃Y:bN,Y.io=[]/\lG Y g v σ H Q
def WY(t:TB):TT:=λσ H Q=>∃Y:bN,Y.io=[]/\lB Y t σ H Q
def W0(t:TD):TE:=λσ H Q=>∃Y:bN,Y.io=[]/\lD Y t σ H Q
structure Dd(G:GE)(k:Nat)(S:Stat)(ifs:List Expr)(t:TB) :Prop where
 run:∀X Y,dH X G k S Y->Di X ifs (lB Y t)
instance {G:GE} {k:Nat} {S:Stat} {ifs:List Expr} {t:TB} :CoeFun (Dd G k S ifs t) λ_=>∀X Y,dH X G k S Y->Di X ifs (lB Y t):=⟨Dd.run⟩
def cE:TB:=λσ Q=>Q true σ
theorem dN:Dd G k S [] cE:=.mk λX Y ok pins s σ H Q I q=>Ew pins s σ H Q I (by
 obtain⟨F,aq,Qd,R,q,K⟩:=q;exact K true H F aq (aA.refl _) R q)
theorem uS{c:Expr}{t:TB}(h:EB G k S c t):Dd G k S [c] t:=.mk λX Y ok=>Ex (h X Y ok)
section
variable {elt target iter:Expr}{ifs:List Expr}{scope:Scope}{pos:Pos}{N':List Str}{caps:List (Option Nat)}{ti:gh}{g:kj}{tc:TB}{te:TD}
theorem oi{X:Cx}{Y:bN}(hh:S.mL=false)(ok:dH X G k S Y)(b:gU S scope N' caps)(hg:EG G k (aI S scope N') target g)(ht:Dd G k (aI S scope N') ifs tc)(he:ED G k (aI S scope N') elt te):
  ∀X',jN X X' scope N'->PG X' target (W3 g)/\Di X' ifs (WY tc)/\PE X' elt (W0 te):=λX' c =>
 ⟨λpins s σ H v u Q I r ⟨Y',dq,q⟩=>hg X' Y' (hJ hh ok b c Y' dq) pins s σ H v u Q I r q,λpins s σ H Q I ⟨Y',dq,q⟩=>ht X' Y' (hJ hh ok b c Y' dq) pins s σ H Q I q,λpins s σ H Q I ⟨Y',dq,q⟩=>he X' Y' (hJ hh ok b c Y' dq) pins s σ H Q I q⟩
theorem kQ{Y:bN}{ios:List Nat}(dq:∀p∈Y.io,p.1∈ios){σ:St}{H:Hp}{Q:VK}(q:lX Y (cD ios caps ti g tc te) σ H Q):jJ (lI Y ti) caps (W3 g) (WY tc) (W0 te) σ H Q:=by
 obtain⟨F,aq,Qd,R,q,K⟩:=q;refine⟨F,aq,_,R,q,λH1 F1 CP J items s1 R1 it q1 acc d2=>?_⟩;obtain⟨F2,cW,s2,R2,q2⟩:=dR dq R1 q1;have WT:=it.mono s2;have a0:Y.H0 acc=none:=(R2.dQ d2).1;have aF:F2 acc=none:=same_none R2.fr d2;have aN:dC cW σ acc:=R2.eQ d2;have sw:∀ {F5 H5:Hp} {o:HO},aA F5 H5->F5 acc=none->aA F5 (upd H5 acc o):=λ{F5 H5 o} s5 h b u e=>by
  have:b≠acc:=λz=>by rw[z,h]at e;cases e
  rw[az this];exact s5 b u e
 refine⟨λi m aC H'=>∃Fi ds ys,aA F2 Fi/\RS Y Fi cW σ H'/\H' acc=some (.lst ys)/\aG Fi ys ds/\Fi acc=none/\RS ⟨H',Fi,[],[]⟩ Fi (dn caps cW) aC H'/\gq g tc te (dn caps cW) (items.drop i) ds (λds=>Qd (.own ds) cW)/\m=items.length-i/\i<=items.length,
  ⟨items.length,F2,[],[],aA.refl _,R2.other aF a0 aN,aR,.nil,aF,uU R2 caps (aA.refl _) (sw R2.fr aF),q2,rfl,Nat.zero_le _⟩,?_⟩
 rintro i m aC Hi ⟨Fi,ds,ys,si,Ri,ie,ri,fi,Vr,qi,rfl,hi⟩;have AR:=WT Fi Hi si Ri.fr i
 by_cases hl:i<items.length
 ·right
  have hd:items.drop i=items[i]::items.drop (i+1):=by rw[List.drop_eq_getElem_cons hl]
  rw[hd]at qi;obtain⟨go,yl⟩:=AR.1 items[i] (by rw[List.getElem?_eq_getElem hl])
  refine⟨go,λv H' y=>?_⟩;obtain⟨F3,gr,rep⟩:=yl v H' y;have sF:aA Fi F3:=gr.same Ri.fr;have R3:=gr.rs Vr;have Vp:RS ⟨H',F3,[],[]⟩ F3 (dn caps cW) aC H':=R3.less (fu _) (bZ _ _) (bX _ _) R3.fr;have sH:aA Hi H':=by
   rcases gr with⟨_,rfl⟩|⟨p,o,hp,_,rfl⟩
   ·exact aA.refl _
   ·exact aM hp
  have Jm:∀c o,F3 c=some o->Fi c=some o\/Nw Hi c o:=λc o e=>by
   rcases gr with⟨rfl,_⟩|⟨p,o',hp,rfl,_⟩
   ·exact .inl e
   ·by_cases hc:c=p
    ·subst hc;exact .inr (.inl hp)
    ·rw[az hc]at e;exact .inl e
  -- behind the turn
  have back:∀ {F5 H5:Hp} {mV:Sd} {OW:St},aA F3 F5->RS ⟨H',F3,[],[]⟩ F5 mV OW H5->RS Y F5 cW σ H5/\H5 acc=some (.lst ys)/\F5 acc=none/\aA Fi F5:=λ{F5 H5 mV OW} s5 R5=>by
   have MK:aA Hi H5:=sH.trans λb o e=>R5.old b o e (by simp [bN.Gr])
   have CW:∀c o,F5 c=some o->Fi c=some o\/Nw Hi c o:=λc o e=>by
    rcases R5.fN c o e with z|z
    ·exact Jm c o z
    ·exact .inr (z.imp sH.free id)
   refine⟨Ri.call (sF.trans s5) R5.fr MK CW,MK _ _ ie,?_,sF.trans s5⟩;cases e:F5 acc with
   | none=>rfl
   | some o =>
    rcases CW acc o e with z|z
    ·rw[fi]at z;cases z
    ·rcases z with z|⟨ws,rfl⟩
     ·rw[ie]at z;cases z
     ·have y:=R5.fr acc _ e;rw[MK _ _ ie]at y;cases y
  refine⟨⟨H',F3,[],[]⟩,rfl,F3,_,items[i],_,Vp,rep,qi,λC7 H4 F4 mC s4 R4 q4=>?_⟩;refine⟨⟨H',F3,[],[]⟩,rfl,F4,mC,_,R4,q4,λb H5 F5 mV s5 R5 q5=>?_⟩;cases b with
  | false =>
   obtain⟨le,q5⟩:=q5;obtain⟨w1,w2,w3,w4⟩:=back (s4.trans s5) R5;exact⟨items.length-(i+1),by omega,F5,ds,ys,si.trans w4,w1,w2,ri.mono w4,w3,R5.less le (bZ _ _) (bX _ _) R5.fr,q5,rfl,hl⟩
  | true =>
   refine⟨⟨H',F3,[],[]⟩,rfl,F5,mV,_,R5,q5,λv6 H6 F6 d XU s6 R6 r6 q6=>?_⟩;obtain⟨le,hz,q6⟩:=q6;obtain⟨w1,w2,w3,w4⟩:=back ((s4.trans s5).trans s6) R6;exact⟨ys,items.length-(i+1),w2,by rw[ri.length];exact hz,by omega,F6,ds++[d],ys++[v6],si.trans w4,w1.other w3 a0 aN,aR,(ri.mono w4).append (.cons r6 .nil),w3,R6.less le (bZ _ _) (bX _ _) (sw R6.fr w3),q6,rfl,hl⟩
 ·left
  have e:i=items.length:=by omega
  subst e;rw[List.drop_length]at qi;exact⟨AR.2 rfl,K _ Hi Fi (.own ds) cW ((s1.trans s2).trans si) Ri ⟨acc,ys,rfl,ie,ri,fi,a0,aN⟩ qi⟩
theorem dU(hi:EI G k S target iter ti)(b:gU S scope N' caps)(hg:EG G k (aI S scope N') target g)(ht:Dd G k (aI S scope N') ifs tc)(he:ED G k (aI S scope N') elt te)(hs:∀env x,foldedSetIterable iter env x=pure x:=by intro _ _;rfl)(hh:S.mL=false:=by rfl):
  EX G k S (.ListComp elt [⟨target,iter,ifs,0⟩] scope pos) (cD S.ios caps ti g tc te):=.mk λX Y ok =>
 bj (oV (ok.calm hh) (hi X Y ok) (b.sc ok) (oi hh ok b hg ht he) (hs _)) λσ H Q q=>kQ ok.ios q
theorem jx(i:Nat){y:Str}{py eE:Pos}(hi:EI G k S target iter ti)(b:gU S scope N' caps)(hg:EG G k (aI S scope N') target g)(ht:Dd G k (aI S scope N') ifs tc)(he:ED G k (aI S scope N') elt te)
  (hy:S.N[i]?=some y:=by rfl) (hx:S.sc.lookup y=some .local\/(S.sc.lookup y=some .cell/\S.yy=false):=by first|exact Or.inl rfl|exact Or.inr ⟨rfl,rfl⟩) (hn:i∉S.ios:=by first|decide|exact List.not_mem_nil | (dsimp only;decide)) (hl:(py.line==pos.line)=true:=by rfl) (Gn:(scope.names.any λ(n,k)=>n==y&&(k==.local||k==.cell))=false:=by decide +kernel)
  (hs:∀env x,foldedSetIterable iter env x=pure x:=by intro _ _;rfl) (hh:S.mL=false:=by rfl):ES G k S (.Assign [.Name y py] (.ListComp elt [⟨target,iter,ifs,0⟩] scope pos) eE) (dw S.ios i (cD S.ios caps ti g tc te)):=.mk λX Y ok=>by
 have sw:swapsWith (.ListComp elt [⟨target,iter,ifs,0⟩] scope pos) (some (.Name y py)) eE.line X.env=pure (S.sc.lookup y==some .local):=by
  have e:swapsWith (.ListComp elt [⟨target,iter,ifs,0⟩] scope pos) (some (.Name y py)) eE.line X.env=pure (X.env.blockKind==.function&&X.env.kindOf y==some .local&&py.line==pos.line&&!(scope.names.any λ(n,k)=>n==y&&(k==.local||k==.cell))):=rfl
  have kb:X.env.blockKind=.function:=by unfold Env.blockKind;rw[ok.kind];rfl
  have kd:X.env.kindOf y=S.sc.lookup y:=by
   show X.env.scope.names.lookup y=_;rw[ok.sc]
  rw[e,kb,kd,hl,Gn];simp
 have fin:∀Dn σ H,lS Y (dw S.ios i (cD S.ios caps ti g tc te)) Dn σ H->BR (jJ (lI Y ti) caps (W3 g) (WY tc) (W0 te)) (nk i) Dn σ H:=λDn σ H q=>by
  obtain⟨F,aq,De,R,q,K⟩:=q;refine kQ ok.ios ⟨F,aq,_,R,q,λv H1 F1 y aC s1 R1 r1 q1=>?_⟩;obtain⟨F2,bq,s2,R2,q2⟩:=jG R1 r1 hn ok.ios q1;exact K.nx _ H1 F2 bq (s1.trans s2) R2 q2
 rcases hx with hx|hx
 ·refine dy (vF (i:=i) (ok.calm hh) (hi X Y ok) (b.sc ok) (oi hh ok b hg ht he) (hs _) (by rw[ok.N];exact ok.nd) (by rw[ok.N];exact hy) (by rw[ok.sc];exact hx) (by rw[sw,hx];rfl)) fin
 ·refine dy (L2.ug (i:=i) (by rw[ok.N];exact ok.nd) (by rw[ok.N];exact hy) (oM ok (.inr hx)) (oV (ok.calm hh) (hi X Y ok) (b.sc ok) (oi hh ok b hg ht he) (hs _)) (by rw[sw,hx.1];rfl) (oD ok (.inr hx))) fin
end
end Vc
namespace Vc
open PySem L2
variable [KF]
section
variable {prog:Program}{w:World}{A:Around}{E:Value->Shared->Prop}{s:Shared}
theorem zI{j t:Addr}{i:Nat}{xs:Array Value}{x:Value}{Q:Value->Shared->Prop}(hj:s.heap.IsTupleIter j t i)(ht:s.heap.IsTuple t xs)(hx:xs[i]?=some x)
  (q:∀g,g.IsTupleIter j t (i+1)->Heap.SameBut j s.heap g->Q x {s with heap:=g}):wpAny (model prog w) A (Builtin.SmallTypes.nextOf (.ref j)) Q E s:=by
 obtain⟨ob,h1,h2,h3⟩:=id hj;obtain⟨ot,h4,_,nt,h5⟩:=ht;unfold Builtin.SmallTypes.nextOf;refine wpAny_bind (wpAny_callSpecial?_slot (name:=Str.ofString "__next__") hj.typeIs F.slot_tuple_iterator_next (wpAny_call_entry F.slot_tuple_iterator_next hj.typeIs F.entry_tuple_iterator_next ?_ (F.args_tuple_iterator_next_1 _)));show wpAny _ _ (field (.ref j) 0 >>= _) _ _ s;refine wpAny_bind (wpAny_field h1 h3 (x:=.ref t) rfl ?_);show wpAny _ _ (if(Value.ref t==Value.none)=true then _ else _) _ _ s
 rw[if_neg (by intro z;exact absurd z Bool.false_ne_true)]
 show wpAny _ _ (field (.ref j) 1 >>= _) _ _ s;refine wpAny_bind (wpAny_field h1 h3 (x:=.int i 0) rfl ?_);show wpAny _ _ (seqItems? (.ref t) >>= _) _ _ s;refine wpAny_bind (wpAny_seqItems h4 h5 ?_);simp only[Int.toNat_natCast,hx];refine wpAny_bind (wpAny_setField h1 h3 (by simp) (wpAny_pure ⟨x,rfl,wpAny_pure (q _ ?_ (Heap.SameBut.update ..))⟩))
 refine⟨_,Heap.get?_update_self _ h1 (Obj.isFreed_of_fields (Obj.data_mapFields h3 _)),(Obj.cls_mapFields ..).trans h2,?_⟩;rw[Obj.data_mapFields h3];simp [rawInt]
theorem ou{j t:Addr}{i:Nat}{xs:Array Value}{Q:Value->Shared->Prop}(hh:A.handled=none)(hj:s.heap.IsTupleIter j t i)(ht:s.heap.IsTuple t xs)(hx:xs[i]?=none)
  (q:∀g e,Heap.ExtBut j s.heap g->(∃o,g.get? e=some o/\o.cls=.type "StopIteration")->E (.ref e) {s with heap:=g}):wpAny (model prog w) A (Builtin.SmallTypes.nextOf (.ref j)) Q E s:=by
 obtain⟨ob,h1,h2,h3⟩:=id hj;obtain⟨ot,h4,_,nt,h5⟩:=ht;unfold Builtin.SmallTypes.nextOf;refine wpAny_bind (wpAny_callSpecial?_slot (name:=Str.ofString "__next__") hj.typeIs F.slot_tuple_iterator_next (wpAny_call_entry F.slot_tuple_iterator_next hj.typeIs F.entry_tuple_iterator_next ?_ (F.args_tuple_iterator_next_1 _)));show wpAny _ _ (field (.ref j) 0 >>= _) _ _ s;refine wpAny_bind (wpAny_field h1 h3 (x:=.ref t) rfl ?_);show wpAny _ _ (if(Value.ref t==Value.none)=true then _ else _) _ _ s
 rw[if_neg (by intro z;exact absurd z Bool.false_ne_true)]
 show wpAny _ _ (field (.ref j) 1 >>= _) _ _ s;refine wpAny_bind (wpAny_field h1 h3 (x:=.int i 0) rfl ?_);show wpAny _ _ (seqItems? (.ref t) >>= _) _ _ s;refine wpAny_bind (wpAny_seqItems h4 h5 ?_);simp only[Int.toNat_natCast,hx];refine wpAny_bind (wpAny_rule (wpAny_bind (wpAny_setField h1 h3 (by simp) ?_)))
 show wpAny _ _ (newExc (.type "StopIteration") [] >>= _) _ _ _;refine wpAny_bind ?_;simp only[newExc,newTuple];refine wpAny_bind (wpAny_newObj_type ?_ (by size_fits))
 refine wpAny_bind (m:=firstArgMember _ _) (wpAny_of_eq (a:=Value.none) (by first|rfl | (simp only[firstArgMember];rfl)) ?_)
 refine wpAny_newObj_type ?_ (by size_fits)
 simp only[raiseNew];refine wpAny_bind (wpAny_handled ?_)
 first|rw[show A.in1.handled=none from hh]|rw[hh]
 refine wpAny_bind (wpAny_pure (wpAny_throw ?_));exact q _ _ (((Heap.SameBut.update ..).extBut.push _).push _) ⟨_,Heap.get?_push_size _ rfl,rfl⟩
end
def ki(tp:Bool)(h:Heap)(j a:Addr)(i:Nat):Prop:=if tp=true then h.IsTupleIter j a i else h.IsListIter j a i
def tj(tp:Bool)(h:Heap)(a:Addr)(xs:Array Value):Prop:=if tp=true then h.IsTuple a xs else h.IsList a xs
theorem ki.live{tp:Bool}{h:Heap}{j a:Addr}{i:Nat}(q:ki tp h j a i):∃o,h.get? j=some o/\∀v,o.data≠.cell v:=by
 cases tp with
 | true=>obtain⟨o,e,c,d⟩:=(show h.IsTupleIter j a i from q);exact⟨o,e,λv z=>by rw[d]at z;cases z⟩
 | false=>obtain⟨o,e,c,d⟩:=(show h.IsListIter j a i from q);exact⟨o,e,λv z=>by rw[d]at z;cases z⟩
theorem ki.at{tp:Bool}{h h':Heap}{j a:Addr}{i:Nat}(q:ki tp h j a i)(k:∀o,h.get? j=some o->h'.get? j=some o):ki tp h' j a i:=by
 cases tp with
 | true=>obtain⟨o,e,r⟩:=(show h.IsTupleIter j a i from q);exact(show h'.IsTupleIter j a i from⟨o,k o e,r⟩)
 | false=>obtain⟨o,e,r⟩:=(show h.IsListIter j a i from q);exact(show h'.IsListIter j a i from⟨o,k o e,r⟩)
theorem tj.at{tp:Bool}{h h':Heap}{a:Addr}{xs:Array Value}(q:tj tp h a xs)(k:∀o,h.get? a=some o->h'.get? a=some o):tj tp h' a xs:=by
 cases tp with
 | true=>obtain⟨o,e,r⟩:=(show h.IsTuple a xs from q);exact(show h'.IsTuple a xs from⟨o,k o e,r⟩)
 | false=>obtain⟨o,e,r⟩:=(show h.IsList a xs from q);exact(show h'.IsList a xs from⟨o,k o e,r⟩)
section
variable {prog:Program}{w:World}{A:Around}{E:Value->Shared->Prop}{s:Shared}
theorem draw{tp:Bool}{j a:Addr}{i:Nat}{xs:Array Value}{x:Value}{Q:Value->Shared->Prop}(hj:ki tp s.heap j a i)(ha:tj tp s.heap a xs)(hx:xs[i]?=some x)
  (q:∀g,ki tp g j a (i+1)->Heap.SameBut j s.heap g->Q x {s with heap:=g}):wpAny (model prog w) A (Builtin.SmallTypes.nextOf (.ref j)) Q E s:=by
 cases tp with
 | true=>exact zI hj ha hx q
 | false=>exact wpAny_nextOf_list_item hj ha hx q
theorem kS{tp:Bool}{j a:Addr}{i:Nat}{xs:Array Value}{Q:Value->Shared->Prop}(hh:A.handled=none)(hj:ki tp s.heap j a i)(ha:tj tp s.heap a xs)(hx:xs[i]?=none)
  (q:∀g e,Heap.ExtBut j s.heap g->(∃o,g.get? e=some o/\o.cls=.type "StopIteration")->E (.ref e) {s with heap:=g}):wpAny (model prog w) A (Builtin.SmallTypes.nextOf (.ref j)) Q E s:=by
 cases tp with
 | true=>exact ou hh hj ha hx q
 | false=>exact wpAny_nextOf_list_end hh hj ha hx q
structure UM(z U V i j:Addr):Prop where
 uz:U≠z
 vz:V≠z
 iz:i≠z
 jz:j≠z
 uv:U≠V
 ui:U≠i
 uj:U≠j
 vi:V≠i
 vj:V≠j
 ij:i≠j
theorem Fp{tp tq:Bool}{z U V i j l m:Addr}{n:Nat}{xs ys:Array Value}{x y a b:Value}{Q:Option Value->Shared->Prop}(D:UM z U V i j)(lz:l≠z/\l≠V/\l≠i/\l≠j)(mz:m≠z/\m≠V/\m≠i/\m≠j)
  (hz:IsZip s.heap z U V .none) (hU:IsPair s.heap U (.ref i) (.ref j)) (hV:IsPair s.heap V a b) (h1:ki tp s.heap i l n) (h2:ki tq s.heap j m n) (hl:tj tp s.heap l xs) (hm:tj tq s.heap m ys) (hx:xs[n]?=some x) (hy:ys[n]?=some y)
  (q:∀g,IsZip g z U V (rawInt s.heap.objs.size)->IsPair g V x y->ki tp g i l (n+1)->ki tq g j m (n+1)->IsPair g s.heap.objs.size x y->g.objs.size=s.heap.objs.size+1 ->
   (∀c o,c≠z->c≠V->c≠i->c≠j->s.heap.get? c=some o->g.get? c=some o)->Q (some (.ref s.heap.objs.size)) {s with heap:=g}):wpAny (model prog w) A (pyNext (.ref z)) Q E s:=by
 have hT:s.TypeIs (.ref z) "zip":=⟨_,hz,rfl⟩;unfold pyNext;refine wpAny_bind (wpAny_attempt (wpAny_callSpecial?_slot (name:=Str.ofString "__next__") hT F.slot_zip_next (wpAny_call_entry F.slot_zip_next hT F.entry_zip_next ?_ (F.args_zip_next_1 _))));show wpAny _ _ (field (.ref z) 2 >>= _) _ _ _;refine wpAny_bind (wpAny_field hz rfl (x:=.bool false) rfl ?_);show wpAny _ _ (field (.ref z) 3 >>= _) _ _ _;refine wpAny_bind (wpAny_field hz rfl (x:=.ref U) rfl (wpAny_bind (wpAny_seqItems hU rfl ?_)));show wpAny _ _ (Builtin.SmallTypes.ownedTupleIsFree (.ref z) >>= _) _ _ _;refine wpAny_bind ?_;unfold Builtin.SmallTypes.ownedTupleIsFree;refine wpAny_bind (wpAny_field hz rfl (x:=.none) rfl (wpAny_pure ?_));simp only[if_true];refine wpAny_bind (wpAny_rule (wpAny_bind (wpAny_field hz rfl (x:=.ref V) rfl (wpAny_bind (wpAny_setField_rec hz (by simp) λg1 z1 e1=>?_)))))
 replace z1:IsZip g1 z U V .ellipsis:=z1
 refine wpAny_bind ?_;simp only[List.zipIdx_cons,List.zipIdx_nil,List.forIn_cons,List.forIn_nil];refine wpAny_bind (wpAny_bind (wpAny_onRaise ?_));show wpAny _ _ (Builtin.SmallTypes.nextOf (.ref i) >>= _) _ _ _;refine wpAny_bind (draw (s:={s with heap:=g1}) (h1.at λo e=>e1.extBut _ _ D.iz e) (hl.at λo e=>e1.extBut _ _ lz.1 e) hx λg2 w2 e2=>wpAny_pure ?_)
 have v2:IsPair g2 V a b:=e2.extBut _ _ D.vi (e1.extBut _ _ D.vz hV);refine wpAny_bind (wpAny_seqItems v2 rfl (wpAny_bind (wpAny_updateSeq_pair v2 λg3 v3 e3=>?_)))
 replace v3:IsPair g3 V x b:=v3
 refine wpAny_bind (wpAny_letGo (wpAny_pure (wpAny_bind (wpAny_bind (wpAny_onRaise ?_)))));show wpAny _ _ (Builtin.SmallTypes.nextOf (.ref j) >>= _) _ _ _;have to3:∀c o,c≠z->c≠i->c≠V->s.heap.get? c=some o->g3.get? c=some o:=λc o c1 c2 c3 e=>e3.extBut _ _ c3 (e2.extBut _ _ c2 (e1.extBut _ _ c1 e));refine wpAny_bind (draw (s:={s with heap:=g3}) (h2.at λo e=>to3 j o D.jz D.ij.symm D.vj.symm e) (hm.at λo e=>to3 m o mz.1 mz.2.2.1 mz.2.1 e) hy λg4 w4 e4=>wpAny_pure ?_)
 have v4:IsPair g4 V x b:=e4.extBut _ _ D.vj v3;refine wpAny_bind (wpAny_seqItems v4 rfl (wpAny_bind (wpAny_updateSeq_pair v4 λg5 v5 e5=>?_)))
 replace v5:IsPair g5 V x y:=v5
 refine wpAny_bind (wpAny_letGo (wpAny_pure (wpAny_pure (wpAny_bind (wpAny_seqItems v5 rfl (wpAny_bind (wpAny_newTuple ?_)))))));have sz:g5.objs.size=s.heap.objs.size:=by rw[e5.1,e4.1,e3.1,e2.1,e1.1]
 have z5:IsZip g5 z U V .ellipsis:=e5.extBut _ _ D.vz.symm (e4.extBut _ _ D.jz.symm (e3.extBut _ _ D.vz.symm (e2.extBut _ _ D.iz.symm z1)));have k5:∀c o,c≠z->c≠V->c≠i->c≠j->s.heap.get? c=some o->g5.get? c=some o:=λc o c1 c2 c3 c4 e=>e5.extBut _ _ c2 (e4.extBut _ _ c4 (to3 c o c1 c3 c2 e));have i5:ki tp g5 i l (n+1):=w2.at λo e=>e5.extBut _ _ D.vi.symm (e4.extBut _ _ D.ij (e3.extBut _ _ D.vi.symm e));have j5:ki tq g5 j m (n+1):=w4.at λo e=>e5.extBut _ _ D.vj.symm e;have Zd:z<g5.objs.size:=Heap.lt_size z5;show wpAny _ _ (Builtin.SmallTypes.ownedTupleHandOut (.ref z) (.ref g5.objs.size) >>= _) _ _ _;refine wpAny_bind ?_;unfold Builtin.SmallTypes.ownedTupleHandOut;have z6:IsZip (g5.push {cls:=.type "tuple",data:=.seq #[x,y]}) z U V .ellipsis:=Heap.get?_push_of_some _ z5;refine wpAny_bind (wpAny_setField_rec z6 (by simp) λg7 z7 e7=>?_)
 replace z7:IsZip g7 z U V (rawInt g5.objs.size):=z7
 refine wpAny_setField_rec z7 (by simp) λg8 z8 e8=>?_
 replace z8:IsZip g8 z U V (rawInt g5.objs.size):=z8
 have up:∀c o,c≠z->g5.get? c=some o->g8.get? c=some o:=λc o c1 e=>e8.extBut _ _ c1 (e7.extBut _ _ c1 (Heap.get?_push_of_some _ e));have t8:IsPair g8 g5.objs.size x y:=e8.extBut _ _ (Nat.ne_of_gt Zd) (e7.extBut _ _ (Nat.ne_of_gt Zd) (Heap.get?_push_size _ rfl));have s8:g8.objs.size=g5.objs.size+1:=by rw[e8.1,e7.1,Heap.size_push]
 rw[sz]at z8 t8 s8;refine wpAny_pure ⟨_,rfl,wpAny_pure ?_⟩;show Q (some (.ref g5.objs.size)) _;rw[sz];exact q g8 z8 (up _ _ D.vz v5) (i5.at λo e=>up _ o D.iz e) (j5.at λo e=>up _ o D.jz e) t8 s8 λc o c1 c2 c3 c4 e=>up c o c1 (k5 c o c1 c2 c3 c4 e)
end
end Vc
namespace Vc
open PySem L2
variable [KF]
abbrev YN(tp:Bool):String:=if tp=true then "tuple_iterator" else "list_iterator"
abbrev zA(tp:Bool)(h:Heap)(l:Addr):Heap:=h.push {cls:=.type (YN tp),data:=.fields #[.ref l,.int 0 0]}
abbrev zB(tp tq:Bool)(h:Heap)(l m:Addr):Heap:=zA tq (zA tp h l) m
abbrev zC(tp tq:Bool)(h:Heap)(l m:Addr):Heap:=(zB tp tq h l m).push {cls:=.type "tuple",data:=.seq #[.ref h.objs.size,.ref (zA tp h l).objs.size]}
abbrev zD(tp tq:Bool)(h:Heap)(l m:Addr):Heap:=(zC tp tq h l m).push {cls:=.type "tuple",data:=.seq #[.none,.none]}
abbrev zE(tp tq:Bool)(h:Heap)(l m:Addr):Heap:=(zD tp tq h l m).push {cls:=.type "zip",data:=.fields #[.none,.bool false,.bool false,.ref (zB tp tq h l m).objs.size,.ref (zC tp tq h l m).objs.size]}
set_option maxHeartbeats 4000000 in
theorem CM(tp tq:Bool)(l m:Addr)(xs ys:Array Value):
  Meets (Builtin.«zip.__new__» ⟨[.type "zip",.ref l,.ref m],[]⟩) (λ_ R s=>tj tp s.heap l xs/\tj tq s.heap m ys/\R (.ok (.ret (.ref (zD tp tq s.heap l m).objs.size))) {s with heap:=zE tp tq s.heap l m}):=
 .of_wp λprog w A R s h=>by
  obtain⟨hp,g,d,tk,os⟩:=s;obtain⟨hl,hm,h⟩:=h;have sub:=sub_zip;cases tp with
  | true =>
   have L1:Heap.IsTuple (Shared.heap ⟨hp,g,d,tk,os⟩) l xs:=hl;cases tq with
   | true =>
    have L2:Heap.IsTuple (Shared.heap ⟨hp.push {cls:=.type "tuple_iterator",data:=.fields #[.ref l,.int 0 0]},g,d,tk,os⟩) m ys:=by
     obtain⟨o,e,r⟩:=(show hp.IsTuple m ys from hm);exact⟨o,Heap.get?_push_of_some _ e,r⟩
    wp_walk using wpAny_pyIter_tuple L1,wpAny_pyIter_tuple L2
    exact⟨_,rfl,h⟩
   | false =>
    have L2:Heap.IsList (Shared.heap ⟨hp.push {cls:=.type "tuple_iterator",data:=.fields #[.ref l,.int 0 0]},g,d,tk,os⟩) m ys:=by
     obtain⟨o,e,r⟩:=(show hp.IsList m ys from hm);exact⟨o,Heap.get?_push_of_some _ e,r⟩
    wp_walk using wpAny_pyIter_tuple L1,wpAny_pyIter_list L2
    exact⟨_,rfl,h⟩
  | false =>
   have L1:Heap.IsList (Shared.heap ⟨hp,g,d,tk,os⟩) l xs:=hl;cases tq with
   | true =>
    have L2:Heap.IsTuple (Shared.heap ⟨hp.push {cls:=.type "list_iterator",data:=.fields #[.ref l,.int 0 0]},g,d,tk,os⟩) m ys:=by
     obtain⟨o,e,r⟩:=(show hp.IsTuple m ys from hm);exact⟨o,Heap.get?_push_of_some _ e,r⟩
    wp_walk using wpAny_pyIter_list L1,wpAny_pyIter_tuple L2
    exact⟨_,rfl,h⟩
   | false =>
    have L2:Heap.IsList (Shared.heap ⟨hp.push {cls:=.type "list_iterator",data:=.fields #[.ref l,.int 0 0]},g,d,tk,os⟩) m ys:=by
     obtain⟨o,e,r⟩:=(show hp.IsList m ys from hm);exact⟨o,Heap.get?_push_of_some _ e,r⟩
    wp_walk using wpAny_pyIter_list L1,wpAny_pyIter_list L2
    exact⟨_,rfl,h⟩
theorem vZ{tp:Bool}{h:Heap}{j a:Addr}(e:h.get? j=some {cls:=.type (YN tp),data:=.fields #[.ref a,.int 0 0]}):ki tp h j a 0:=by
 cases tp with
 | true=>exact⟨_,e,rfl,rfl⟩
 | false=>exact⟨_,e,rfl,rfl⟩
section
variable {prog:Program}{w:World}{A:Around}{E:Value->Shared->Prop}{s:Shared}
theorem CL{tp tq:Bool}{l m:Addr}{xs ys:Array Value}{Q:Value->Shared->Prop}(hl:tj tp s.heap l xs)(hm:tj tq s.heap m ys)
  (q:∀g,IsZip g (s.heap.objs.size+4) (s.heap.objs.size+2) (s.heap.objs.size+3) .none->IsPair g (s.heap.objs.size+2) (.ref s.heap.objs.size) (.ref (s.heap.objs.size+1))->IsPair g (s.heap.objs.size+3) .none .none ->
   ki tp g s.heap.objs.size l 0->ki tq g (s.heap.objs.size+1) m 0->(∀c o,s.heap.get? c=some o->g.get? c=some o)->Q (.ref (s.heap.objs.size+4)) {s with heap:=g}):
  wpAny (model prog w) A (call (.type "zip") [.ref l,.ref m]) Q E s:=by
 refine callType_new F.called_zip ∅ (F.typeCall_zip_2 _ _) (F.newCall_zip_2 _ _) (λob=>F.args_object_init_3 ob _ _) F.entry_zip_new (CM tp tq l m xs ys) ⟨hl,hm,?_⟩
 have n1:(zA tp s.heap l).objs.size=s.heap.objs.size+1:=Heap.size_push ..;have n2:(zB tp tq s.heap l m).objs.size=s.heap.objs.size+2:=by rw[Heap.size_push,n1]
 have n3:(zC tp tq s.heap l m).objs.size=s.heap.objs.size+3:=by rw[Heap.size_push,n2]
 have n4:(zD tp tq s.heap l m).objs.size=s.heap.objs.size+4:=by rw[Heap.size_push,n3]
 have p5:(zE tp tq s.heap l m).get? (zD tp tq s.heap l m).objs.size=some _:=Heap.get?_push_size _ rfl;have p4:(zE tp tq s.heap l m).get? (zC tp tq s.heap l m).objs.size=some _:=Heap.get?_push_of_some _ (Heap.get?_push_size _ rfl);have p3:(zE tp tq s.heap l m).get? (zB tp tq s.heap l m).objs.size=some _:=Heap.get?_push_of_some _ (Heap.get?_push_of_some _ (Heap.get?_push_size _ rfl));have p2:(zE tp tq s.heap l m).get? (zA tp s.heap l).objs.size=some _:=Heap.get?_push_of_some _ (Heap.get?_push_of_some _ (Heap.get?_push_of_some _ (Heap.get?_push_size _ rfl)));have p1:(zE tp tq s.heap l m).get? s.heap.objs.size=some _:=Heap.get?_push_of_some _ (Heap.get?_push_of_some _ (Heap.get?_push_of_some _ (Heap.get?_push_of_some _ (Heap.get?_push_size _ rfl))));show _/\_;rw[n2,n3,n4]at p5;rw[n1,n2]at p3;rw[n3]at p4;rw[n1]at p2;rw[n4];refine⟨⟨_,p5,rfl⟩,q _ p5 p3 p4 (vZ p1) (vZ p2) λc o x=>?_⟩;exact Heap.get?_push_of_some _ (Heap.get?_push_of_some _ (Heap.get?_push_of_some _ (Heap.get?_push_of_some _ (Heap.get?_push_of_some _ x))))
theorem CN{tp tq:Bool}{z U V i j l m:Addr}{n:Nat}{xs ys:Array Value}{a b:Value}{Q:Option Value->Shared->Prop}(hh:A.handled=none)(D:UM z U V i j)(lz:l≠z/\l≠V/\l≠i/\l≠j)(mz:m≠z/\m≠V/\m≠i/\m≠j)
  (hz:IsZip s.heap z U V .none) (hU:IsPair s.heap U (.ref i) (.ref j)) (hV:IsPair s.heap V a b) (h1:ki tp s.heap i l n) (h2:ki tq s.heap j m n) (hl:tj tp s.heap l xs) (hm:tj tq s.heap m ys) (Ax:xs[n]?=none\/ys[n]?=none)
  (q:∀g,(∀c o,c≠z->c≠V->c≠i->c≠j->s.heap.get? c=some o->g.get? c=some o)->Q none {s with heap:=g}):wpAny (model prog w) A (pyNext (.ref z)) Q E s:=by
 have hT:s.TypeIs (.ref z) "zip":=⟨_,hz,rfl⟩;unfold pyNext;refine wpAny_bind (wpAny_attempt (wpAny_callSpecial?_slot (name:=Str.ofString "__next__") hT F.slot_zip_next (wpAny_call_entry F.slot_zip_next hT F.entry_zip_next ?_ (F.args_zip_next_1 _))));show wpAny _ _ (field (.ref z) 2 >>= _) _ _ _;refine wpAny_bind (wpAny_field hz rfl (x:=.bool false) rfl ?_);show wpAny _ _ (field (.ref z) 3 >>= _) _ _ _;refine wpAny_bind (wpAny_field hz rfl (x:=.ref U) rfl (wpAny_bind (wpAny_seqItems hU rfl ?_)));show wpAny _ _ (Builtin.SmallTypes.ownedTupleIsFree (.ref z) >>= _) _ _ _;refine wpAny_bind ?_;unfold Builtin.SmallTypes.ownedTupleIsFree;refine wpAny_bind (wpAny_field hz rfl (x:=.none) rfl (wpAny_pure ?_));simp only[if_true];refine wpAny_bind (wpAny_rule (wpAny_bind (wpAny_field hz rfl (x:=.ref V) rfl (wpAny_bind (wpAny_setField_rec hz (by simp) λg1 z1 e1=>?_)))))
 replace z1:IsZip g1 z U V .ellipsis:=z1
 refine wpAny_bind ?_;simp only[List.zipIdx_cons,List.zipIdx_nil,List.forIn_cons,List.forIn_nil];refine wpAny_bind (wpAny_bind (wpAny_onRaise ?_));show wpAny _ _ (Builtin.SmallTypes.nextOf (.ref i) >>= _) _ _ _;cases hx:xs[n]? with
 | none =>
  refine wpAny_bind (kS (s:={s with heap:=g1}) hh (h1.at λo e=>e1.extBut _ _ D.iz e) (hl.at λo e=>e1.extBut _ _ lz.1 e) hx λg2 e x2 he=>?_)
  obtain⟨oe,Jy,Rg⟩:=he;have z2:IsZip g2 z U V .ellipsis:=x2 _ _ D.iz.symm z1;have ez:e≠z:=λx=>by subst x;rw[z2]at Jy;cases Jy;simp at Rg
  refine wpAny_setField_rec z2 (by simp) λg3 _ e3=>?_
  refine wpAny_bind (wpAny_isInstance (T:="StopIteration") (b:=true) ⟨oe,e3.extBut _ _ ez Jy,Rg⟩ isSubtype_stop (wpAny_pure (q _ λc o c1 _ c3 _ x=>?_)));exact e3.extBut _ _ c1 (x2 _ _ c3 (e1.extBut _ _ c1 x))
 | some x =>
  have hy:ys[n]?=none:=by
   rcases Ax with h|h
   ·rw[hx]at h;cases h
   ·exact h
  refine wpAny_bind (draw (s:={s with heap:=g1}) (h1.at λo e=>e1.extBut _ _ D.iz e) (hl.at λo e=>e1.extBut _ _ lz.1 e) hx λg2 w2 e2=>wpAny_pure ?_)
  have v2:IsPair g2 V a b:=e2.extBut _ _ D.vi (e1.extBut _ _ D.vz hV);refine wpAny_bind (wpAny_seqItems v2 rfl (wpAny_bind (wpAny_updateSeq_pair v2 λg3 v3 e3=>?_)));refine wpAny_bind (wpAny_letGo (wpAny_pure (wpAny_bind (wpAny_bind (wpAny_onRaise ?_)))));show wpAny _ _ (Builtin.SmallTypes.nextOf (.ref j) >>= _) _ _ _;have to3:∀c o,c≠z->c≠i->c≠V->s.heap.get? c=some o->g3.get? c=some o:=λc o c1 c2 c3 e=>e3.extBut _ _ c3 (e2.extBut _ _ c2 (e1.extBut _ _ c1 e));refine wpAny_bind (kS (s:={s with heap:=g3}) hh (h2.at λo e=>to3 j o D.jz D.ij.symm D.vj.symm e) (hm.at λo e=>to3 m o mz.1 mz.2.2.1 mz.2.1 e) hy λg4 e x4 he=>?_)
  obtain⟨oe,Jy,Rg⟩:=he;have z4:IsZip g4 z U V .ellipsis:=x4 _ _ D.jz.symm (e3.extBut _ _ D.vz.symm (e2.extBut _ _ D.iz.symm z1));have ez:e≠z:=λx=>by subst x;rw[z4]at Jy;cases Jy;simp at Rg
  refine wpAny_setField_rec z4 (by simp) λg5 _ e5=>?_
  refine wpAny_bind (wpAny_isInstance (T:="StopIteration") (b:=true) ⟨oe,e5.extBut _ _ ez Jy,Rg⟩ isSubtype_stop (wpAny_pure (q _ λc o c1 c2 c3 c4 x=>?_)));exact e5.extBut _ _ c1 (x4 _ _ c4 (to3 c o c1 c3 c2 x))
end
end Vc
namespace Vc
open PySem L2
variable [KF]
section
variable {X:Cx}{pins:List (Addr×Obj)}{σ:St}{H:Hp}{s:Shared}
theorem v9(I:L2.Inv X pins σ H s){ch:List Addr}(hf:∀b∈ch,f7 X pins H b){h':Heap}{t':Nat}(kp:∀b o,b∉ch->s.heap.get? b=some o->h'.get? b=some o){T:Addr}{o:HO}(hT:s.heap.objs.size<=T)(new:cv X.prog X.w (upd H T o) h' T o):
  L2.Inv X pins σ (upd H T o) {s with heap:=h',toks:=t'}:=by
 have Gv:∀ {b u},s.heap.get? b=some u->b≠T:=λe=>Nat.ne_of_lt (Nat.lt_of_lt_of_le (Heap.lt_size e) hT);have OU:∀ {b u},H b=some u->b≠T:=λe=>Nat.ne_of_lt (Nat.lt_of_lt_of_le (I.bU.lt e) hT);have A1:∀ {b u},H b=some u->b∉ch:=λ{b u} e z=>by rw[(hf b z).1]at e;cases e
 refine I.step (g':=s.gens) (d':=s.drawn) (ch:=ch) (λb hb=>?_) (λb u _ _ hc e _=>kp b u hc e) (λb u _ _ hc e _=>⟨u.slots,kp b u hc e⟩) (λb u hc e n=>by rw[az (Gv e)];exact n) (λb u hc e=>⟨u,kp b u hc e⟩)
  (λb xs e=>by rw[az (OU e)];exact e) (λb u w e=>by rw[az (OU e)];exact e) (λb ps e=>⟨#[],by rw[az (OU e),e];simp⟩) (λm hm=>?_) (λb u e=>?_) I.bare
 ·obtain⟨f0,f1,f2,f3,f4,f5⟩:=hf b hb
  exact⟨f3.imp id λz=>Heap.get?_none_of_le z,f1,f4,f5⟩
 ·obtain⟨ob,es,ep,ho,r⟩:=hm
  refine⟨ob,es,ep,kp _ ob (λz=>?_) ho,r⟩;exact(hf _ z).2.1 rfl
 ·by_cases hb:b=T
  ·subst hb;rw[aR]at e;cases e;exact new
  ·rw[az hb]at e
   refine(I.bU b u e).uE (λc v hc q=>?_) (λc q=>by rw[az (OU q)];exact q) (λc xs q=>by rw[az (OU q)];exact q) λc o u q=>by rw[az (OU q)];exact q
   rcases hc with z|z
   ·subst z;exact kp _ v (A1 e) q
   ·exact kp _ v (A1 z) q
theorem v8(I:L2.Inv X pins σ H s){ch:List Addr}(hf:∀b∈ch,f7 X pins H b){h':Heap}{t':Nat}(kp:∀b o,b∉ch->s.heap.get? b=some o->h'.get? b=some o):L2.Inv X pins σ H {s with heap:=h',toks:=t'}:=by
 have A1:∀ {b u},H b=some u->b∉ch:=λ{b u} e z=>by rw[(hf b z).1]at e;cases e
 refine I.step (g':=s.gens) (d':=s.drawn) (ch:=ch) (λb hb=>?_) (λb u _ _ hc e _=>kp b u hc e) (λb u _ _ hc e _=>⟨u.slots,kp b u hc e⟩) (λb u hc e n=>n) (λb u hc e=>⟨u,kp b u hc e⟩)
  (λb xs e=>e) (λb u w e=>e) (λb ps e=>⟨#[],by rw[e];simp⟩) (λm hm=>?_) (λb u e=>?_) I.bare
 ·obtain⟨f0,f1,f2,f3,f4,f5⟩:=hf b hb
  exact⟨f3.imp id λz=>Heap.get?_none_of_le z,f1,f4,f5⟩
 ·obtain⟨ob,es,ep,ho,r⟩:=hm
  refine⟨ob,es,ep,kp _ ob (λz=>?_) ho,r⟩;exact(hf _ z).2.1 rfl
 ·refine(I.bU b u e).uE (λc v hc q=>?_) (λc q=>q) λc xs q=>q
  rcases hc with z|z
  ·subst z;exact kp _ v (A1 e) q
  ·exact kp _ v (A1 z) q
end
def Sq(tp:Bool)(K:PySem.W.Frag)(H:Hp)(a:Addr)(xs:List V):Prop:=if tp=true then gS K H a xs else e6 K H a xs
theorem Sq.is{tp:Bool}{X:Cx}{pins:List (Addr×Obj)}{σ:St}{H:Hp}{s:Shared}{a:Addr}{xs:List V}(I:L2.Inv X pins σ H s)(h:Sq tp X.K H a xs):∃its:List Value,Vals xs its/\tj tp s.heap a its.toArray/\a<s.heap.objs.size:=by
 cases tp with
 | true =>
  obtain⟨its,r,p,_⟩:=I.tuple (show gS X.K H a xs from h)
  exact⟨its,r,p,by obtain⟨o,e,_⟩:=p;exact Heap.lt_size e⟩
 | false =>
  obtain⟨its,r,p,_⟩:=I.list (show e6 X.K H a xs from h)
  exact⟨its,r,p.isList,p.lt⟩
theorem Sq.inj{tp:Bool}{X:Cx}{pins:List (Addr×Obj)}{σ:St}{H:Hp}{s:Shared}{a:Addr}{xs ys:List V}(I:L2.Inv X pins σ H s)(h:Sq tp X.K H a xs)(h':Sq tp X.K H a ys):xs=ys:=by
 cases tp with
 | true=>exact I.nP h h'
 | false=>exact I.qY h h'
def Vl(tp tq:Bool)(K:PySem.W.Frag)(l m:Addr):It:=
  ⟨λn H=>∃xs ys x y,Sq tp K H l xs/\Sq tq K H m ys/\xs[n]?=some x/\ys[n]?=some y,
   λn H v H'=>∃p x y,H p=none/\v=.ref p/\H'=upd H p (.tup [x,y])/\(∀xs,Sq tp K H l xs->xs[n]?=some x)/\∀ys,Sq tq K H m ys->ys[n]?=some y,
   λn H=>∃xs ys,Sq tp K H l xs/\Sq tq K H m ys/\(xs.length<=n\/ys.length<=n)⟩
theorem Cw{P:Program}{w:World}{K:PySem.W.Frag}{elts:List Expr}{kk:Nat}{gm:Pos}(tp tq:Bool)(z U V i j l m:Addr)(D:UM z U V i j)(lz:l≠z/\l≠V/\l≠i/\l≠j)(mz:m≠z/\m≠V/\m≠i/\m≠j):
  Turn P w K (.Tuple elts kk gm) (Vl tp tq K l m) [z,U,V,i,j] z (λn h=>IsZip h z U V .none/\IsPair h U (.ref i) (.ref j)/\(∃a b,IsPair h V a b)/\ki tp h i l n/\ki tq h j m n) where
 mem:=by simp
 obj:=λn h st b hb=>by
  obtain⟨h1,h2,⟨a,c,h3⟩,h4,h5⟩:=st;simp only[List.mem_cons,List.not_mem_nil,or_false]at hb;rcases hb with rfl|rfl|rfl|rfl|rfl
  ·exact⟨_,h1,λv q=>by cases q⟩
  ·exact⟨_,h2,λv q=>by cases q⟩
  ·exact⟨_,h3,λv q=>by cases q⟩
  ·exact h4.live
  ·exact h5.live
 keep:=λn h h' st kp=>by
  obtain⟨h1,h2,⟨a,c,h3⟩,h4,h5⟩:=st;exact⟨kp z (by simp) _ h1,kp U (by simp) _ h2,⟨a,c,kp V (by simp) _ h3⟩,h4.at λo e=>kp i (by simp) o e,h5.at λo e=>kp j (by simp) o e⟩
 item:=by
  intro X hP hw hK hc n pins s σ H E I hf st hg;subst hP hw hK;obtain⟨h1,h2,⟨a,c,h3⟩,h4,h5⟩:=st;obtain⟨xs,ys,x,y,q1,q2,e1,e2⟩:=hg;obtain⟨its,r1,p1,_⟩:=q1.is I;obtain⟨YR,r2,p2,_⟩:=q2.is I;obtain⟨u,hu,ru⟩:=r1.get e1;obtain⟨v,hv,rv⟩:=r2.get e2;refine Fp D lz mz h1 h2 h3 h4 h5 p1 p2 (x:=u) (y:=v) (by simpa using hu) (by simpa using hv) λg z1 v1 i1 j1 t1 s1 k1=>⟨_,rfl,?_⟩
  refine wpAny_letOwnedTupleGo_zip z1 λg' z2 Dy=>?_;have kp:∀b o,b∉[z,V,i,j]->s.heap.get? b=some o->g'.get? b=some o:=λb o hb e=>by
   simp only[List.mem_cons,List.not_mem_nil,or_false,not_or]at hb;exact Dy.extBut _ _ hb.1 (k1 b o hb.1 hb.2.1 hb.2.2.1 hb.2.2.2 e)
  have zT:s.heap.objs.size≠z:=Nat.ne_of_gt (Heap.lt_size h1);have UU:∀b∈[z,V,i,j],f7 X pins H b:=λb hb=>hf b (by
   simp only[List.mem_cons,List.not_mem_nil,or_false]at hb ⊢;rcases hb with e|e|e|e<;>simp [e])
  have t2:IsPair g' s.heap.objs.size u v:=Dy.extBut _ _ zT t1;have I':=v9 (t':=s.toks) (o:=.tup [x,y]) I UU kp (Nat.le_refl _) ⟨by show 2<=sizeLine;decide,[u,v],.cons ru (.cons rv .nil),⟨_,t2,rfl,_,rfl⟩⟩
  have Rj:H s.heap.objs.size=none:=I.bU.fresh (Nat.le_refl _);refine⟨.ref s.heap.objs.size,upd H s.heap.objs.size (.tup [x,y]),I',rfl,⟨_,x,y,Rj,rfl,rfl,λzs hz=>by rw[hz.inj I q1];exact e1,λzs hz=>by rw[hz.inj I q2];exact e2⟩,⟨z2,Dy.extBut _ _ D.uz (k1 _ _ D.uz D.uv D.ui D.uj h2),⟨u,v,Dy.extBut _ _ D.vz v1⟩,i1.at λo e=>Dy.extBut _ _ D.iz e,j1.at λo e=>Dy.extBut _ _ D.jz e⟩,λb hb=>?_⟩
  have wK:=(hf b hb).1;have:b≠s.heap.objs.size:=by
   obtain⟨o,e,_⟩:∃o,s.heap.get? b=some o/\True:=by
    simp only[List.mem_cons,List.not_mem_nil,or_false]at hb;rcases hb with rfl|rfl|rfl|rfl|rfl
    ·exact⟨_,h1,trivial⟩
    ·exact⟨_,h2,trivial⟩
    ·exact⟨_,h3,trivial⟩
    ·obtain⟨o,e,_⟩:=h4.live;exact⟨o,e,trivial⟩
    ·obtain⟨o,e,_⟩:=h5.live;exact⟨o,e,trivial⟩
   exact Nat.ne_of_lt (Heap.lt_size e)
  rw[az this];exact wK
 done:=by
  intro X hP hw hK hc n pins s σ H E I hf st hg;subst hP hw hK;obtain⟨h1,h2,⟨a,c,h3⟩,h4,h5⟩:=st;obtain⟨xs,ys,q1,q2,hl⟩:=hg;obtain⟨its,r1,p1,_⟩:=q1.is I;obtain⟨YR,r2,p2,_⟩:=q2.is I;have n1:=r1.length;have n2:=r2.length;refine CN (I.ok.hd hc) D lz mz h1 h2 h3 h4 h5 p1 p2 (hl.imp (λq=>by simp;omega) λq=>by simp;omega) λg k1=>⟨rfl,?_⟩
  refine v8 (t':=s.toks) (ch:=[z,V,i,j]) I (λb hb=>hf b ?_) λb o hb e=>?_
  ·simp only[List.mem_cons,List.not_mem_nil,or_false]at hb ⊢
   rcases hb with e|e|e|e<;>simp [e]
  ·simp only[List.mem_cons,List.not_mem_nil,or_false,not_or]at hb
   exact k1 b o hb.1 hb.2.1 hb.2.2.1 hb.2.2.2 e
 self:=λ_ _ _ _ _ st h=>wpAny_pyIter_zip st.1 h
theorem Fo(n:Nat):UM (n+4) (n+2) (n+3) n (n+1):=
  ⟨show(n+2:Nat)≠n+4 by omega,show(n+3:Nat)≠n+4 by omega,show(n:Nat)≠n+4 by omega,show(n+1:Nat)≠n+4 by omega,show(n+2:Nat)≠n+3 by omega,
   show(n+2:Nat)≠n by omega,show(n+2:Nat)≠n+1 by omega,show(n+3:Nat)≠n by omega,show(n+3:Nat)≠n+1 by omega,show(n:Nat)≠n+1 by omega⟩
theorem mX{l n:Nat}(h:l<n):l≠n+4/\l≠n+3/\l≠n/\l≠n+1:=by omega
def WR(K:PySem.W.Frag)(ta:TA):TI:=λσ H R=>ta σ H λvs H1=>∃tp tq l m xs ys,vs=[.ref l,.ref m]/\Sq tp K H1 l xs/\Sq tq K H1 m ys/\R (Vl tp tq K l m) H1
theorem Ma{X:Cx}{elts:List Expr}{kk:Nat}{gm:Pos}{a b:Expr}{ta:TA}{p pos:Pos}(hg:Gl X "zip")(hm:X.mg "zip"=none)(ha:PA X [a,b] ta)(hs:starEach [a,b] X.env=[(false,eval a X.env),(false,eval b X.env)])(oI:starEach [b] X.env=[(false,eval b X.env)]):
  PI X (.Tuple elts kk gm) (.Call (.Name "zip" p) [a,b] [] pos) (WR X.K ta):=by
 intro pins s σ H R I h;refine PyProof.Rows.Call_ (eP I hg hm PyProof.Rows.boot_zip (PyProof.Rows.callWith_type1 (b8 (ha pos pins s σ H _ I h) λus s1 ⟨vs,H1,I1,r1,q1⟩=>?_) (by rw[hs,oI]) (by rw[oI];rfl)))
 obtain⟨tp,tq,l,m,xs,ys,e,q1,q2,q⟩:=q1;subst e;obtain⟨u,v,rfl,ru,rv⟩:=vals2 r1;cases ru;cases rv;obtain⟨its,_,p1,ll⟩:=q1.is I1;obtain⟨YR,_,p2,lm⟩:=q2.is I1;refine CL p1 p2 λg z1 u1 v1 i1 j1 k1=>?_;refine wpAny_pyIter_zip z1 ?_;have N:∀n:Nat,s1.heap.objs.size<=s1.heap.objs.size+n:=λn=>Nat.le_add_right _ _;refine⟨s1.heap.objs.size+4,[s1.heap.objs.size+4,s1.heap.objs.size+2,s1.heap.objs.size+3,s1.heap.objs.size,s1.heap.objs.size+1],_,_,H1,rfl,I1.kept (t':=s1.toks) k1,
  Cw tp tq _ _ _ _ _ l m (Fo _) (mX ll) (mX lm),⟨z1,u1,⟨_,_,v1⟩,i1,j1⟩,λb hb=>?_,q⟩
 have wK:s1.heap.objs.size<=b:=by
  simp only[List.mem_cons,List.not_mem_nil,or_false]at hb;rcases hb with rfl|rfl|rfl|rfl|rfl
  ·exact N 4
  ·exact N 2
  ·exact N 3
  ·exact N 0
  ·exact N 1
 exact I1.wG wK (I1.bU.fresh wK)
end Vc
namespace Vc
open PySem L2
variable [KF]
theorem qu{prog:Program}{w:World}{A:Around}(hh:A.handled=none)(tp:Bool)(j a:Addr)(c9:a≠j)(xs:Array Value):
  Draws prog w A j [j,a] xs.size (λi v=>xs[i]?=some v) (λi h=>ki tp h j a i/\tj tp h a xs) where
 live:=λ_ _ st=>let ⟨o,e,_⟩:=st.1.live;⟨o,e⟩
 frame:=λ_ _ _ st kp=>⟨st.1.at λo e=>kp j (by simp) o e,st.2.at λo e=>kp a (by simp) o e⟩
 item:=λi s Q E hi st q=>by
  refine draw st.1 st.2 (x:=xs[i]) (by simp [hi]) λg w1 e1=>?_
  exact q _ g s.toks (by simp [hi]) ⟨w1,st.2.at λo e=>e1.extBut _ _ c9 e⟩ e1
 done:=λs Q E st q=>kS hh st.1 st.2 (by simp) q
def UL(tp:Bool)(K:PySem.W.Frag)(a:Addr):It:=
 ⟨λn H=>∃xs x,Sq tp K H a xs/\xs[n]?=some x,λn H v H'=>∃p x,H p=none/\v=.ref p/\H'=upd H p (.tup [.int n,x])/\∀xs,Sq tp K H a xs->xs[n]?=some x,λn H=>∃xs,Sq tp K H a xs/\xs.length=n⟩
theorem xG{P:Program}{w:World}{K:PySem.W.Frag}{elts:List Expr}{kk:Nat}{gm:Pos}(tp:Bool)(e j a:Addr)(ej:e≠j)(ae:a≠e)(aj:a≠j):
  Turn P w K (.Tuple elts kk gm) (UL tp K a) [e,j] e (λn h=>(∃old,IsEnum h e j n old)/\ki tp h j a n) where
 mem:=by simp
 obj:=λn h st b hb=>by
  obtain⟨⟨old,h1⟩,h2⟩:=st;simp only[List.mem_cons,List.not_mem_nil,or_false]at hb;rcases hb with rfl|rfl
  ·exact⟨_,h1,λv q=>by cases q⟩
  ·exact h2.live
 keep:=λn h h' st kp=>by
  obtain⟨⟨old,h1⟩,h2⟩:=st;exact⟨⟨old,kp e (by simp) _ h1⟩,h2.at λo q=>kp j (by simp) o q⟩
 item:=by
  intro X hP hw hK hc n pins s σ H E I hf st hg;subst hP hw hK;obtain⟨⟨old,h1⟩,h2⟩:=st;obtain⟨xs,x,q1,e1⟩:=hg;obtain⟨its,r1,p1,_⟩:=q1.is I;obtain⟨u,hu,ru⟩:=r1.get e1;have hn:n<its.toArray.size:=by
   have:=(List.getElem?_eq_some_iff.mp hu).1;simpa using this
  have Dr:=qu (prog:=X.prog) (w:=X.w) (A:=X.A.in1) (show X.A.in1.handled=none from I.ok.hd hc) tp j a aj its.toArray
  refine wpAny_pyNext_enum_itemD Dr h1 ⟨h2,p1⟩ hn ej (by simp only[List.mem_cons,List.not_mem_nil,or_false,not_or];exact⟨ej,ae.symm⟩) λx' g tk YK ho aB t1 s1 k1=>⟨_,rfl,?_⟩
  have hxu:x'=u:=by
   have:its.toArray[n]?=some u:=by simpa using hu
   rw[this]at YK;exact(Option.some.inj YK).symm
  subst hxu;refine wpAny_letOwnedTupleGo_enum ho λg' ZH mE=>?_;have kp:∀b o,b∉[e,j]->s.heap.get? b=some o->g'.get? b=some o:=λb o hb q=>by
   simp only[List.mem_cons,List.not_mem_nil,or_false,not_or]at hb;exact mE.extBut _ _ hb.1 (k1 b o hb.1 hb.2 q)
  have eT:s.heap.objs.size≠e:=Nat.ne_of_gt (Heap.lt_size h1);have t2:=mE.extBut _ _ eT t1;have I':=v9 (t':=tk+1) (o:=.tup [.int n,x]) I hf kp (Nat.le_refl _) ⟨by show 2<=sizeLine;decide,[.int n tk,x'],.cons ⟨tk,rfl⟩ (.cons ru .nil),⟨_,t2,rfl,_,rfl⟩⟩
  have Rj:H s.heap.objs.size=none:=I.bU.fresh (Nat.le_refl _);refine⟨.ref s.heap.objs.size,upd H s.heap.objs.size (.tup [.int n,x]),I',rfl,⟨_,x,Rj,rfl,rfl,λzs hz=>by rw[hz.inj I q1];exact e1⟩,⟨⟨x',by simpa using ZH⟩,aB.1.at λo q=>mE.extBut _ _ ej.symm q⟩,λb hb=>?_⟩
  have wK:=(hf b hb).1;have:b≠s.heap.objs.size:=by
   simp only[List.mem_cons,List.not_mem_nil,or_false]at hb;rcases hb with rfl|rfl
   ·exact eT.symm
   ·obtain⟨o,q,_⟩:=h2.live;exact Nat.ne_of_lt (Heap.lt_size q)
  rw[az this];exact wK
 done:=by
  intro X hP hw hK hc n pins s σ H E I hf st hg;subst hP hw hK;obtain⟨⟨old,h1⟩,h2⟩:=st;obtain⟨xs,q1,hl⟩:=hg;obtain⟨its,r1,p1,_⟩:=q1.is I;have n1:=r1.length;have Dr:=qu (prog:=X.prog) (w:=X.w) (A:=X.A.in1) (show X.A.in1.handled=none from I.ok.hd hc) tp j a aj its.toArray
  have hn:its.toArray.size=n:=by rw[List.size_toArray,<- n1,hl]
  rw[hn]at Dr;refine wpAny_pyNext_enum_endD Dr h1 ⟨h2,p1⟩ λg x1=>⟨rfl,?_⟩;refine v8 (t':=s.toks) (ch:=[e,j]) I hf λb o hb q=>?_;simp only[List.mem_cons,List.not_mem_nil,or_false,not_or]at hb;exact x1 b o hb.2 q
 self:=λ_ _ _ _ _ st h=>by
  obtain⟨⟨old,h1⟩,_⟩:=st;exact wpAny_pyIter_enum h1 h
variable {G:GE}{k:Nat}{S:Stat}
def Ut:D->Option (List D)
 | .lst xs=>some xs
 | .tup xs=>some xs
 | _=>none
def sO(xs ys:List D):List D:=(xs.zip ys).map λp=>.tup [p.1,p.2]
def jS(xs:List D):List D:=xs.mapIdx λi x=>.tup [.int i,x]
def NS(t:gh):gh:=λσ Q=>t σ λds aC=>match ds with
 | [a,b]=>match Ut a,Ut b with
  | some xs,some ys=>Q (sO xs ys) aC
  | _,_=>False
 | _=>False
theorem Rep.sq{F:Hp}{v:V}{d:D}{xs:List D}(r:Rep F v d)(e:Ut d=some xs)(K:PySem.W.Frag):∃tp a vs,v=.ref a/\(∀H,aA F H->Sq tp K H a vs)/\aG F vs xs:=by
 cases d with
 | lst ys =>
  cases e;cases r with
  | lst h r=>exact⟨false,_,_,rfl,λH s=>(show e6 K H _ _ from .inl (Rd.mono s h)),r⟩
 | tup ys =>
  cases e;cases r with
  | tup h r=>exact⟨true,_,_,rfl,λH s=>(show gS K H _ _ from .of (s _ _ h)),r⟩
 | _=>cases e
theorem CJ{xs ys:List D}{i:Nat}{d:D}(h:(sO xs ys)[i]?=some d):∃x y,xs[i]?=some x/\ys[i]?=some y/\d=.tup [x,y]:=by
 unfold sO at h;rw[List.getElem?_map]at h;cases e:(xs.zip ys)[i]? with
 | none=>rw[e]at h;cases h
 | some p =>
  rw[e]at h;obtain⟨e1,e2⟩:=List.getElem?_zip_eq_some.mp e;exact⟨p.1,p.2,e1,e2,(Option.some.inj h).symm⟩
theorem DW{K:PySem.W.Frag}{F:Hp}{tp tq:Bool}{l m:Addr}{vs us:List V}{xs ys:List D}(h1:∀H,aA F H->Sq tp K H l vs)(h2:∀H,aA F H->Sq tq K H m us)(r1:aG F vs xs)(r2:aG F us ys):gX F (Vl tp tq K l m) (sO xs ys):=λF1 H1 s1 s2 i=>by
 have a1:=h1 H1 (s1.trans s2);have a2:=h2 H1 (s1.trans s2);refine⟨λd e=>?_,λhl=>⟨vs,us,a1,a2,?_⟩⟩
 ·obtain⟨x,y,e1,e2,rfl⟩:=CJ e
  obtain⟨v,w1,q1⟩:=r1.get e1;obtain⟨u,w2,q2⟩:=r2.get e2;refine⟨⟨vs,us,v,u,a1,a2,w1,w2⟩,λz H2 yl=>?_⟩;obtain⟨p,v',u',hp,rfl,rfl,f1,f2⟩:=yl;have Qm:=f1 vs a1;have Dy:=f2 us a2;rw[w1]at Qm;cases Qm;rw[w2]at Dy;cases Dy;have sm:=aM (o:=.tup [v,u]) (same_none s2 hp);exact⟨upd F1 p (.tup [v,u]),.inr ⟨p,_,hp,rfl,rfl⟩,.tup aR (.cons ((q1.mono s1).mono sm) (.cons ((q2.mono s1).mono sm) .nil))⟩
 ·have:(sO xs ys).length=min xs.length ys.length:=by unfold sO;simp
  have n1:=r1.length;have n2:=r2.length;omega
theorem RO{elts:List Expr}{kk:Nat}{gm:Pos}{a b:Expr}{t:gh}{p pos:Pos}(h:xT G k S [a,b] t)(hm:G.mg "zip"=none)(hg:S.sc.lookup ("zip":Str)=some .globalImplicit:=by rfl)(hs:∀env,starEach [a,b] env=[(false,eval a env),(false,eval b env)]:=by intro _;rfl)(oI:∀env,starEach [b] env=[(false,eval b env)]:=by intro _;rfl):
  EI G k S (.Tuple elts kk gm) (.Call (.Name "zip" p) [a,b] [] pos) (NS t):=.mk λX Y ok=>lJ (Ma (d3 ok hg) (by rw[ok.mg];exact hm) (h X Y ok) (hs _) (oI _)) λσ H Q q=>by
 obtain⟨F,aq,Qd,R,q,K⟩:=q;refine⟨F,aq,_,R,q,λvs H1 F1 ds aC s1 R1 r1 q1=>?_⟩
 split at q1
 ·rename_i x y
  split at q1
  ·rename_i xs ys ex ey
   cases r1 with
   | cons rx r1 =>
    cases r1 with
    | cons ry r1 =>
     cases r1;obtain⟨tp,l,us,rfl,a1,b1⟩:=rx.sq ex X.K;obtain⟨tq,m,ws,rfl,a2,b2⟩:=ry.sq ey X.K;exact⟨tp,tq,l,m,us,ws,rfl,a1 H1 R1.fr,a2 H1 R1.fr,K H1 F1 aC _ _ s1 R1 (DW a1 a2 b1 b2) q1⟩
  ·exact q1.elim
 ·exact q1.elim
theorem DT{K:PySem.W.Frag}{F:Hp}{tp:Bool}{l:Addr}{vs:List V}{xs:List D}(h1:∀H,aA F H->Sq tp K H l vs)(r1:aG F vs xs):gX F (UL tp K l) (jS xs):=λF1 H1 s1 s2 i=>by
 have a1:=h1 H1 (s1.trans s2);refine⟨λd e=>?_,λhl=>⟨vs,a1,?_⟩⟩
 ·unfold jS at e
  rw[List.getElem?_mapIdx]at e;cases ex:xs[i]? with
  | none=>rw[ex]at e;cases e
  | some x =>
   rw[ex]at e;cases e;obtain⟨v,w1,q1⟩:=r1.get ex;refine⟨⟨vs,v,a1,w1⟩,λz H2 yl=>?_⟩;obtain⟨p,v',hp,rfl,rfl,f1⟩:=yl;have Qm:=f1 vs a1;rw[w1]at Qm;cases Qm;have sm:=aM (o:=.tup [.int i,v]) (same_none s2 hp);exact⟨upd F1 p (.tup [.int i,v]),.inr ⟨p,_,hp,rfl,rfl⟩,.tup aR (.cons (.int _) (.cons ((q1.mono s1).mono sm) .nil))⟩
 ·rw[r1.length,hl];unfold jS;simp
end Vc
namespace Vc
open PySem L2
variable [KF]
section
variable {prog:Program}{w:World}{A:Around}{R:Result->Shared->Prop}
def cU(bt:Nat->Nat->Bool):Nat->Nat
 | 0=>0
 | n+1=>if bt (n+1) (cU bt n)=true then n+1 else cU bt n
def xR(prog:Program)(w:World)(A:Around)(op:CmpOp)(h0:Heap)(its:Array Value)(bt:Nat->Nat->Bool):Prop:=
 ∀(i j:Nat) (x y:Value) (s:Shared) (Q:Value->Shared->Prop) (E:Value->Shared->Prop),its[i]?=some x->its[j]?=some y->(∀b o,h0.get? b=some o->s.heap.get? b=some o)->Q (.bool (bt i j)) s->wpAny (model prog w) A (richCompare op x y) Q E s
theorem Kx{h0:Heap}{its:Array Value}{bt:Nat->Nat->Bool}(hh:A.handled=none)(hc:xR prog w A.in1 .Lt h0 its bt){I l S:Addr}(UX:h0.IsList l its)(IS:I≠S)(n0:h0.get? I=none)(n1:h0.get? S=none)(kw:List (Str×Value)):
  ∀(d j:Nat) (s:Shared) (v:Value) (c:Nat),its.size-(j+1)=d->j+1<=its.size->s.heap.IsListIter I l (j+1)->its[cU bt j]?=some v->s.heap.get? S=some {cls:=.type "list",dict:=none,data:=.seq #[v,v] c,slots:=#[]} ->
  (∀b o,h0.get? b=some o->s.heap.get? b=some o) ->
  (∀v g tk,its[cU bt (its.size-1)]?=some v->(∀b o,h0.get? b=some o->g.get? b=some o)->R (.ok (.ret v)) {s with heap:=g,toks:=tk}) ->
  codeAny (model prog w) A (.builtin "min.loop" ⟨[.ref I,.none,.ref S],kw⟩) R s:=by
 have nm:(toString "min"++toString ".loop":String)="min.loop":=by decide
 have lI:l≠I:=λz=>by obtain⟨o,e,_⟩:=UX;rw[z,n0]at e;cases e
 have lS:l≠S:=λz=>by obtain⟨o,e,_⟩:=UX;rw[z,n1]at e;cases e
 have nI:∀ {b o},h0.get? b=some o->b≠I:=λe z=>by rw[z,n0]at e;cases e
 have nS:∀ {b o},h0.get? b=some o->b≠S:=λe z=>by rw[z,n1]at e;cases e
 intro d
 induction d with
 | zero =>
  intro j s v c hd hj hI hv hS k0 hR;have e1:j+1=its.size:=by omega
  have hl:s.heap.IsList l its:=by obtain⟨o,e,r⟩:=UX;exact⟨o,k0 _ _ e,r⟩
  refine codeAny_builtin F.entry_min_loop ?_;rw[Around.under_plainId F.plain_min_loop _];show wpAny _ A.in1 (seqItems? (.ref S) >>= _) _ _ s;refine wpAny_bind (wpAny_seqItems hS rfl ?_);show wpAny _ A.in1 (tryCatch (pyNext (.ref I)) _ >>= _) _ _ s;refine wpAny_bind (wpAny_tryCatch (wpAny_pyNext_list_end (show A.in1.handled=none from hh) hI hl (by simp;omega) λg x1=>?_))
  have S1:=x1 S _ IS.symm hS;show wpAny _ A.in1 (updateSeq S (λ_=>#[]) >>= _) _ _ _;refine wpAny_bind (wpAny_updateSeq (s:={s with heap:=g}) S1 rfl (wpAny_bind (wpAny_letGo (wpAny_pure ?_))))
  have e2:its.size-1=j:=by omega
  refine hR v _ s.toks (by rw[e2];exact hv) λb o e=>?_
  exact(Heap.get?_update_other _ _ (Ne.symm (nS e))).trans (x1 b o (nI e) (k0 b o e))
 | succ d ih =>
  intro j s v c hd hj hI hv hS k0 hR;have gy:j+1<its.size:=by omega
  have hl:s.heap.IsList l its:=by obtain⟨o,e,r⟩:=UX;exact⟨o,k0 _ _ e,r⟩
  refine codeAny_builtin F.entry_min_loop ?_;rw[Around.under_plainId F.plain_min_loop _];show wpAny _ A.in1 (seqItems? (.ref S) >>= _) _ _ s;refine wpAny_bind (wpAny_seqItems hS rfl ?_);show wpAny _ A.in1 (tryCatch (pyNext (.ref I)) _ >>= _) _ _ s;have hx:its[j+1]?=some its[j+1]:=by simp [gy]
  refine wpAny_bind (wpAny_tryCatch (wpAny_pyNext_list_item hI hl hx λg I1 x1=>?_));have S1:=x1.extBut S _ IS.symm hS;have k1:∀b o,h0.get? b=some o->g.get? b=some o:=λb o e=>x1.extBut b o (nI e) (k0 b o e);show wpAny _ A.in1 (tryCatch (holding [its[j+1],its[j+1]] (richCompare .Lt its[j+1] v >>= _)) _ >>= _) _ _ _;refine wpAny_bind (wpAny_tryCatch (wpAny_holding (wpAny_bind (hc (j+1) (cU bt j) _ v {s with heap:=g} _ _ hx hv k1 ?_))))
  refine wpAny_bind (wpAny_holding (wpAny_truthy_bool (wpAny_bind (wpAny_letGo (wpAny_pure ?_)))));cases hb:bt (j+1) (cU bt j)with
  | true =>
   simp only[if_true];refine wpAny_bind (wpAny_updateSeq (s:={s with heap:=g}) S1 rfl (wpAny_bind (wpAny_letGo ?_)))
   rw[nm];refine wpAny_pure ⟨plainId_quiet F.plain_min_loop _,ih (j+1) _ its[j+1] _ ⋯ gy ?_ (by simp only[cU,hb,if_true];exact hx) (Heap.get?_update_self _ S1 rfl) (λb o e=>(Heap.get?_update_other _ _ (Ne.symm (nS e))).trans (k1 b o e)) λv' g' tk WD k'=>?_⟩
   ·obtain⟨o,e,r⟩:=I1;exact⟨o,(Heap.get?_update_other _ _ (Ne.symm IS)).trans e,r⟩
   ·exact hR v' g' tk WD k'
  | false =>
   simp only[Bool.false_eq_true,if_false];refine wpAny_bind (wpAny_letGo ?_);rw[nm];refine wpAny_pure ⟨plainId_quiet F.plain_min_loop _,ih (j+1) _ v c ⋯ gy I1 (by simp only[cU,hb,Bool.false_eq_true,if_false];exact hv) S1 k1 λv' g' tk WD k'=>?_⟩
   exact hR v' g' tk WD k'
theorem tB(a v:Value):argsOk "min" ⟨[a],[(Str.ofString "default",v)]⟩:=by unfold argsOk;kernel_rfl
theorem rn{E:Value->Shared->Prop}{s:Shared}{its:Array Value}{bt:Nat->Nat->Bool}(hh:A.handled=none)(hc:xR prog w A.in1 .Lt s.heap its bt){l:Addr}(hl:s.heap.IsList l its){dv:Value}{Q:Value->Shared->Prop}
  (q0:its.size=0->∀g tk,(∀b o,s.heap.get? b=some o->g.get? b=some o)->Q dv {s with heap:=g,toks:=tk})
  (q1:∀v g tk,its[cU bt (its.size-1)]?=some v->(∀b o,s.heap.get? b=some o->g.get? b=some o)->Q v {s with heap:=g,toks:=tk}):
  wpAny (model prog w) A (call (.builtin "min") [.ref l] [(Str.ofString "default",dv)]) Q E s:=by
 have nm:(toString "min"++toString ".loop":String)="min.loop":=by decide
 refine wpAny_call (codeAny_call_builtin F.plain_min F.entry_min ?_);have run:wpAny (model prog w) A.in1 (Builtin.«min» ⟨[.ref l],[(Str.ofString "default",dv)]⟩) (λfin s'=>match fin with
   | .done f=>(match(Except.ok f:Result)with|.ok (.ret v)=>Q v s'|.ok _=>False|.error e=>E e s')
   | .again c'=>c'.quiet=true/\codeAny (model prog w) A c' (λr s'=>match r with|.ok (.ret v)=>Q v s'|.ok _=>False|.error e=>E e s') s') E s:=by
  show wpAny _ A.in1 (Builtin.Builtins.bindParams "min" ["key","default"] 0 ⟨[],[(Str.ofString "default",dv)]⟩ >>= _) _ _ s;refine wpAny_bind (wpAny_of_eq (show Builtin.Builtins.bindParams "min" ["key","default"] 0 ⟨[],[(Str.ofString "default",dv)]⟩=pure [none,some dv]from rfl) (wpAny_bind (wpAny_pure ?_)))
  refine wpAny_bind (wpAny_pyIter_list hl (wpAny_bind (wpAny_newObj_type ?_)));generalize Wc:s.heap.push {cls:=.type "list_iterator",data:=.fields #[.ref l,.int 0 0]}=g1;have n1:g1.objs.size=s.heap.objs.size+1:=by rw[<- Wc];exact Heap.size_push ..
  have I0:(g1.push {cls:=.type "list",dict:=none,data:=.seq ([]:List Value).toArray}).IsListIter s.heap.objs.size l 0:=⟨_,Heap.get?_push_of_some _ (by rw[<- Wc];exact Heap.get?_push_size _ rfl),rfl,rfl⟩
  have S0:=Heap.get?_push_size g1 (o:={cls:=.type "list",dict:=none,data:=.seq ([]:List Value).toArray}) rfl;have k0:∀b o,s.heap.get? b=some o->(g1.push {cls:=.type "list",dict:=none,data:=.seq ([]:List Value).toArray}).get? b=some o:=λb o e=>Heap.get?_push_of_some _ (by rw[<- Wc];exact Heap.get?_push_of_some _ e)
  have fr:∀a,s.heap.objs.size<=a->s.heap.get? a=none:=λa ha=>by
   cases e:s.heap.get? a with
   | none=>rfl
   | some o=>exact absurd (Heap.lt_size e) (Nat.not_lt.mpr ha)
  have nI:s.heap.get? s.heap.objs.size=none:=fr _ (Nat.le_refl _);have nS:s.heap.get? g1.objs.size=none:=fr _ (by rw[n1];exact Nat.le_succ _)
  have IS:s.heap.objs.size≠g1.objs.size:=by rw[n1];exact Nat.ne_of_lt (Nat.lt_succ_self _)
  rw[nm];refine wpAny_pure ⟨plainId_quiet F.plain_min_loop _,?_⟩;generalize Ov:g1.push {cls:=.type "list",dict:=none,data:=.seq ([]:List Value).toArray}=g2 at I0 S0 k0;have Rw:g2.IsList l its:=by obtain⟨o,e,r⟩:=hl;exact⟨o,k0 _ _ e,r⟩
  refine codeAny_builtin F.entry_min_loop ?_;rw[Around.under_plainId F.plain_min_loop _];show wpAny _ A.in1 (seqItems? (.ref g1.objs.size) >>= _) _ _ _;refine wpAny_bind (wpAny_seqItems (s:={s with heap:=g2}) S0 rfl ?_)
  show wpAny _ A.in1 (tryCatch (pyNext (.ref s.heap.objs.size)) _ >>= _) _ _ _
  by_cases hz:its.size=0
  ·refine wpAny_bind (wpAny_tryCatch (wpAny_pyNext_list_end (show A.in1.handled=none from hh) I0 Rw (by simp [hz]) λg x1=>?_))
   refine wpAny_bind (wpAny_rule (wpAny_pure ?_));exact q0 hz g s.toks λb o e=>x1 b o (λz=>by rw[z,nI]at e;cases e) (k0 b o e)
  ·have hx:its[0]?=some its[0]:=by simp [Nat.pos_of_ne_zero hz]
   refine wpAny_bind (wpAny_tryCatch (wpAny_pyNext_list_item I0 Rw hx λg I1 x1=>?_));have S1:=x1.extBut _ _ IS.symm S0;have k1:∀b o,s.heap.get? b=some o->g.get? b=some o:=λb o e=>x1.extBut b o (λz=>by rw[z,nI]at e;cases e) (k0 b o e)
   show wpAny _ A.in1 (updateSeq g1.objs.size (λ_=>#[its[0],its[0]]) >>= _) _ _ _;refine wpAny_bind (wpAny_updateSeq (s:={s with heap:=g}) S1 rfl ?_)
   rw[nm];refine wpAny_pure ⟨plainId_quiet F.plain_min_loop _,Kx hh hc hl IS nI nS _ _ 0 _ its[0] _ rfl (Nat.pos_of_ne_zero hz) ?_ hx (Heap.get?_update_self _ S1 rfl) (λb o e=>(Heap.get?_update_other _ _ (λz=>by rw[<- z,nS]at e;cases e)).trans (k1 b o e)) λv g' tk hv k'=>q1 v g' tk hv k'⟩
   obtain⟨o,e,r⟩:=I1;exact⟨o,(Heap.get?_update_other _ _ (Ne.symm IS)).trans e,r⟩
 simp only[checkBuiltinCall,F.kind_min];cases Wx:Manifest.signature? "min" with
 | none=>exact wpAny_pure run
 | some sig =>
  have ha:argsOk "min" ⟨[.ref l],[(Str.ofString "default",dv)]⟩:=tB _ _;have Ju:Bind.checkArgs "min" sig ⟨[.ref l],[(Str.ofString "default",dv)]⟩=pure ():=by simpa only[argsOk,Wx]using ha
  simp only[Ju];exact wpAny_pure run
end
end Vc
namespace Vc
open PySem L2
variable [KF]
variable {G:GE}{k:Nat}{S:Stat}
def isInt:D->Bool
 | .int _=>true
 | _=>false
def jm:D->Int
 | .int i=>i
 | _=>0
theorem aG.ints{F:Hp}:∀ {vs:List V} {xs:List D},aG F vs xs->xs.all isInt=true->vs=(xs.map jm).map V.int
 | _,_,.nil,_=>rfl
 | _,_,.cons (d:=d) r t,h=>by
  rw[List.all_cons,Bool.and_eq_true]at h;cases d with
  | int i =>
   cases r;rw[aG.ints t h.2];rfl
  | _=>exact absurd h.1 (by simp [isInt])
theorem yD{X:Cx}(hc:X.calm=true):cT X (.builtin "sum") (λxs H Q=>∃(a:Addr) (ns:List Int),xs=[.ref a]/\e6 X.K H a (ns.map V.int)/\Q (.int ns.sum) H):=by
 intro pins s σ H xs us Q I r h;obtain⟨a,ns,rfl,hq,q⟩:=h;obtain⟨u,rfl,ru⟩:=vals1 r;cases ru;obtain⟨its,rv,p,_⟩:=I.list hq;obtain⟨m,F⟩:=I.fr;have hi:=L2.intsAre_of rv;obtain⟨ys,e⟩:=(hi.allInts).items;have pl:=p.isList;rw[e]at pl;refine sum_intListG (I.ok.hd hc) pl λg tk t' kp=>⟨.int ns.sum,H,I.kept kp,⟨t',?_⟩,q⟩;have e1:preSum (numAt ys) ys.size=(PySem.numsOf its.toArray.toList).sum:=by
  rw[e,nums_intItems,preSum_eq,List.take_of_length_le (by simp)]
 rw[e1,show its.toArray.toList=its from rfl,hi.numsOf]
def sumF:List D->(EV->Prop)->Prop
 | [.lst xs],Q=>xs.all isInt=true/\Q (.val (.int (xs.map jm).sum))
 | _,_=>False
theorem zZ(hh:S.mL=false:=by rfl):xQ G k S (.builtin "sum") sumF:=⟨λK xs H Q=>∃(a:Addr) (ns:List Int),xs=[V.ref a]/\e6 K H a (ns.map V.int)/\Q (.int ns.sum) H,λ_ _ ok=>yD (ok.calm hh),λY F H aq σ vs ds Qd Q R r q g=>by
 unfold sumF at q
 split at q
 ·obtain⟨v,rfl,rv⟩:=r.one
  obtain⟨p,us,rfl,h1,h2⟩:=rv.lst;refine⟨p,_,rfl,?_,g.val R (.int _) q.2⟩;rw[<- h2.ints q.1];exact .inl h1
 ·exact q.elim⟩
end Vc
namespace Vc
open PySem L2
variable [KF]
variable {G:GE}{k:Nat}{S:Stat}
def jl:D->Bool
 | .tup xs=>xs.all isInt
 | _=>false
def ltI:D->D->Bool
 | .int i,.int j=>decide (i<j)
 | .tup xs,.tup ys=>HT.lexLt (xs.map jm) (ys.map jm)
 | _,_=>false
def kM:List D->Option D
 | []=>none
 | x::xs=>some (xs.foldl (λb y=>if ltI y b=true then y else b) x)
def sS(xs:List D)(i j:Nat):Bool:=ltI (xs.getD i .bC) (xs.getD j .bC)
theorem kN(xs:List D)(x:D):∀n,n<(x::xs).length->(x::xs).getD (cU (sS (x::xs)) n) .bC=(xs.take n).foldl (λb y=>if ltI y b=true then y else b) x
 | 0,_=>rfl
 | n+1,h=>by
  have ih:=kN xs x n (by simp at h ⊢;omega)
  have hl:n<xs.length:=by simpa using h
  have gx:(x::xs).getD (n+1) .bC=xs[n]:=by
   rw[List.getD_eq_getElem?_getD,List.getElem?_cons_succ,List.getElem?_eq_getElem hl];rfl
  rw[List.take_add_one,List.getElem?_eq_getElem hl,Option.toList_some,List.foldl_append,List.foldl_cons,List.foldl_nil,<- ih];have e:sS (x::xs) (n+1) (cU (sS (x::xs)) n)=ltI xs[n] ((x::xs).getD (cU (sS (x::xs)) n) .bC):=by
   unfold sS;rw[gx]
  show(x::xs).getD (if sS (x::xs) (n+1) (cU (sS (x::xs)) n)=true then n+1 else cU (sS (x::xs)) n) .bC=_
  rw[e]
  split
  ·exact gx
  ·rfl
theorem Dm{xs:List D}(h:xs≠[]):kM xs=some (xs.getD (cU (sS xs) (xs.length-1)) .bC):=by
 cases xs with
 | nil=>exact absurd rfl h
 | cons x xs =>
  have:=kN xs x xs.length (by simp)
  have e:(x::xs).length-1=xs.length:=by simp
  rw[e,this,List.take_length];rfl
theorem Hx{X:Cx}{pins:List (Addr×Obj)}{σ:St}{H F:Hp}{s:Shared}(I:L2.Inv X pins σ H s)(sm:aA F H)(hu:X.A.in1.units<cLine){vs:List V}{xs:List D}{its:List Value}(rl:aG F vs xs)(rv:Vals vs its)(hc:xs.all isInt=true\/xs.all jl=true):
  xR X.prog X.w X.A.in1 .Lt s.heap its.toArray (sS xs):=by
 intro i j x y s' Q E ex ey kp q;have jU:its[i]?=some x:=by simpa using ex
 have Zq:its[j]?=some y:=by simpa using ey
 have back:∀ {n z},its[n]?=some z->∃v d,vs[n]?=some v/\xs[n]?=some d/\RelV v z/\Rep F v d:=λ{n z} e=>by
  have hl:n<vs.length:=by rw[rv.length];exact(List.getElem?_eq_some_iff.mp e).1
  have ev:vs[n]?=some vs[n]:=List.getElem?_eq_getElem hl;obtain⟨d,e1,e2⟩:=rl.get' ev;obtain⟨u,e3,e4⟩:=rv.get ev;rw[e]at e3;cases e3;exact⟨_,d,ev,e1,e4,e2⟩
 obtain⟨v,d,_,hd,r1,p1⟩:=back jU;obtain⟨u,e,_,he,r2,p2⟩:=back Zq;have bt:sS xs i j=ltI d e:=by
  unfold sS;rw[List.getD_eq_getElem?_getD,List.getD_eq_getElem?_getD,hd,he];rfl
 rw[bt]at q;have md:d∈xs:=List.mem_of_getElem? hd;have me:e∈xs:=List.mem_of_getElem? he;show wpAny _ _ (compareOp .Lt x y) _ _ _;rcases hc with hc|hc
 ·have h1:=List.all_eq_true.mp hc d md
  have h2:=List.all_eq_true.mp hc e me;cases d with
  | int a =>
   cases e with
   | int b =>
    cases p1;cases p2;obtain⟨t,rfl⟩:=r1;obtain⟨t',rfl⟩:=r2;exact PyProof.Rows.lt_int q
   | _=>exact absurd h2 (by simp [isInt])
  | _=>exact absurd h1 (by simp [isInt])
 ·have h1:=List.all_eq_true.mp hc d md
  have h2:=List.all_eq_true.mp hc e me;cases d with
  | tup as =>
   cases e with
   | tup bs =>
    cases p1 with
    | tup hf rf =>
     cases p2 with
     | tup hg rg =>
      cases r1;cases r2;rename_i va vas vb vbs;obtain⟨_,ia,wa,oa,ga,ca⟩:=I.bU _ _ (sm _ _ hf);obtain⟨_,ib,wb,ob,gb,cb⟩:=I.bU _ _ (sm _ _ hg);rw[rf.ints h1]at wa;rw[rg.ints h2]at wb;exact HT.tW ⟨oa,kp _ _ ga,ca⟩ ⟨ob,kp _ _ gb,cb⟩ (L2.intsAre_of wa) (L2.intsAre_of wb) hu q
   | _=>exact absurd h2 (by simp [jl])
  | _=>exact absurd h1 (by simp [jl])
def NN(t:TV)(td:TD):TV:=λσ Q=>t σ λx aC=>td aC λdv bq=>match eK bq x with
 | some (.lst xs)=>(xs.all isInt=true\/xs.all jl=true)/\Q (.val ((kM xs).getD dv)) bq
 | _=>False
theorem T1{e d:Expr}{t:TV}{td:TD}{p kp pos:Pos}(h:EO G k S e t)(hd:ED G k S d td)(hm:G.mg "min"=none)(hg:S.sc.lookup ("min":Str)=some .globalImplicit:=by rfl)
  (he:∀env,starEach [e] env=[(false,eval e env)]:=by intro _;rfl) (hh:S.mL=false:=by rfl):EO G k S (.Call (.Name "min" p) [e] [⟨some "default",d,kp⟩] pos) (NN t td):=.mk λX Y ok=>by
 intro pins s σ H Q I q;obtain⟨F,aq,Qd,R,q,K⟩:=q;refine wpAny_Call_Name_kw (eP (u:=.builtin "min") I (d3 ok hg) (by rw[ok.mg];exact hm) (by decide +kernel) ?_ ∅ ∅)
 have ha:PA X [e] (se (lO Y t) BV):=fR (h X Y ok) lF (by rw[he];rfl)
 have hk:PK X [⟨some "default",d,kp⟩] (se (lD Y td) BV):=El (hd X Y ok) Mb;have hA:=ha pos pins s σ H (λvs H1=>∃v1 F1 x aC,vs=[v1]/\aA F F1/\RS Y F1 aC σ H1/\tf F1 σ v1 x/\td aC (λdv bq=>match eK bq x with
   | some (.lst xs)=>(xs.all isInt=true\/xs.all jl=true)/\Qd (.val ((kM xs).getD dv)) bq
   | _=>False)) I ⟨F,aq,_,R,q,λv1 H1 F1 x aC s1 R1 r1 q1=>⟨v1,F1,x,aC,rfl,s1,R1,r1,q1⟩⟩
 refine PyProof.Rows.callWith_kw (env:=X.env) (b8 hA λus s1 h1=>?_) (by rw[he];rfl) (by rw[he];rfl) rfl rfl
 obtain⟨vs,H1,I1,rvs,v1,F1,x,aC,rfl,Y7,R1,r1,q1⟩:=h1;obtain⟨u1,rfl,ru1⟩:=vals1 rvs;refine b8 (hk pos pins s1 σ H1 (λvs H2=>∃v2 F2 dv bq,vs=[v2]/\aA F1 F2/\RS Y F2 bq σ H2/\Rep F2 v2 dv/\(match eK bq x with
   | some (.lst xs)=>(xs.all isInt=true\/xs.all jl=true)/\Qd (.val ((kM xs).getD dv)) bq
   | _=>False)) I1 ⟨F1,aC,_,R1,q1,λv2 H2 F2 dv bq s2 R2 r2 q2=>⟨v2,F2,dv,bq,rfl,s2,R2,r2,q2⟩⟩) λws s2 h2=>?_
 obtain⟨vs2,H2,I2,Xr,v2,F2,dv,bq,rfl,Xy,R2,r2,q2⟩:=h2;obtain⟨u2,rfl,ru2⟩:=vals1 Xr
 split at q2
 ·rename_i xs ex
  obtain⟨hc,q2⟩:=q2;obtain⟨a,vs,rfl,U1,rl⟩:=(R2.eK (r1.mono Xy) ex).lst;cases ru1;obtain⟨its,rv,pl,_⟩:=I2.list (show e6 X.K H2 a vs from .inl U1)
  have hu:X.A.in1.units<cLine:=by
   have:=ok.units;show X.A.units+1<cLine;omega
  have Oo:=Hx I2 R2.fr hu rl rv hc;have len:its.toArray.size=xs.length:=by rw[List.size_toArray,<- rv.length,rl.length]
  refine rn (I2.ok.hd (ok.calm hh)) Oo pl.isList (λhz g tk kp=>?_) λz g tk hz kp=>?_
  ·have:xs=[]:=List.length_eq_zero_iff.mp (by rw[<- len];exact hz)
   subst this;exact⟨v2,H2,I2.kept kp,ru2,K v2 H2 F2 (.val dv) bq (Y7.trans Xy) R2 r2 q2⟩
  ·have Oy:its[cU (sS xs) (xs.length-1)]?=some z:=by rw[len]at hz;simpa using hz
   have c9:xs≠[]:=λe=>by
    subst e;have:its=[]:=List.length_eq_zero_iff.mp (by rw[<- rv.length,rl.length];rfl)
    rw[this]at Oy;simp at Oy
   have hl:cU (sS xs) (xs.length-1)<vs.length:=by rw[rv.length];exact(List.getElem?_eq_some_iff.mp Oy).1
   have ev:vs[cU (sS xs) (xs.length-1)]?=some vs[cU (sS xs) (xs.length-1)]:=List.getElem?_eq_getElem hl;obtain⟨dd,e1,e2⟩:=rl.get' ev;obtain⟨zz,e3,e4⟩:=rv.get ev;rw[Oy]at e3;cases e3;have eb:kM xs=some dd:=by rw[Dm c9,List.getD_eq_getElem?_getD,e1];rfl
   rw[eb]at q2;exact⟨_,H2,I2.kept kp,e4,K _ H2 F2 (.val dd) bq (Y7.trans Xy) R2 e2 q2⟩
 ·exact q2.elim
end Vc
namespace Vc
open PySem L2
variable [KF]
variable {G:GE}{k:Nat}{S:Stat}
theorem Aa{g:kj}{tb:cJ}{De:jO}{items:List D}(I:Nat->Sd->Prop)
  (AJ:∀i x σ (N:Sd->Prop),items[i]?=some x->I i σ->(∀cA,I (i+1) cA->N cA)->g x σ λaC=>tb {nx:=N,rt:=De.rt,bk:=De.nx,ct:=N} aC)
  (Ax:∀σ,I items.length σ->De.nx σ) {σ:Sd} (h0:I 0 σ):qQ g tb De items σ:=by
 have key:∀(xs:List D) (i:Nat) (σ:Sd),items.drop i=xs->i<=items.length->I i σ->qQ g tb De xs σ:=by
  intro xs
  induction xs with
  | nil =>
   intro i σ e l h;have:items.length<=i:=List.drop_eq_nil_iff.mp e;exact Ax σ ((Nat.le_antisymm l this) ▸ h)
  | cons x r ih =>
   intro i σ e l h;have hx:items[i]?=some x:=by
    have:=congrArg (·[0]?) e
    simpa using this
   have hr:items.drop (i+1)=r:=by rw[<- List.drop_drop,e];rfl
   have hl:i<items.length:=(List.getElem?_eq_some_iff.mp hx).1;exact AJ i x σ _ hx h λcA h'=>ih (i+1) cA hr hl h'
 exact key items 0 σ rfl (Nat.zero_le _) h0
theorem fq{α:Type}{g:kj}{tc:TB}{te:TD}{kx:Sd}{Q:List D->Prop}(gi:α->D)(f:α->Option D)(l:List α)
  (h:∀a∈l,∀(A:D->Prop) (Bn:Prop),(match f a with|some d=>A d|none=>Bn)->g (gi a) kx λaC=>tc aC λb bq=>if b=true then te bq λd d7=>kr kx d7/\A d else kr kx bq/\Bn)
  (hl:l.length<=sizeLine) (q:Q (l.filterMap f)):gq g tc te kx (l.map gi) [] Q:=by
 have key:∀(l:List α) (acc:List D),(∀a∈l,∀(A:D->Prop) (Bn:Prop),(match f a with|some d=>A d|none=>Bn)->g (gi a) kx λaC=>tc aC λb bq=>if b=true then te bq λd d7=>kr kx d7/\A d else kr kx bq/\Bn) ->
   acc.length+l.length<=sizeLine->Q (acc++l.filterMap f)->gq g tc te kx (l.map gi) acc Q:=by
  intro l
  induction l with
  | nil=>intro acc _ _ q;simpa [gq]using q
  | cons a l ih =>
   intro acc h hl q;rw[List.length_cons]at hl;rw[List.map_cons];refine h a (List.mem_cons_self ..) (λd=>acc.length<sizeLine/\gq g tc te kx (l.map gi) (acc++[d]) Q) (gq g tc te kx (l.map gi) acc Q) ?_;have hr:=λy hy=>h y (List.mem_cons_of_mem _ hy);cases e:f a with
   | some d =>
    refine⟨by omega,ih _ hr (by rw[List.length_append,List.length_singleton];omega) ?_⟩
    rw[List.filterMap_cons_some e]at q
    rwa [List.append_assoc]
   | none =>
    refine ih acc hr ⋯ ?_
    rwa [List.filterMap_cons_none e]at q
 exact key l [] h (by simpa using hl) q
theorem bL{α:Type}{g:kj}{te:TD}{kx:Sd}{Q:List D->Prop}(gi f:α->D)(l:List α)
  (h:∀a∈l,∀(A:D->Prop),A (f a)->g (gi a) kx λaC=>te aC λd d7=>kr kx d7/\A d)
  (hl:l.length<=sizeLine) (q:Q (l.map f)):gq g cE te kx (l.map gi) [] Q:=
 fq gi (λx=>some (f x)) l (λx hx A Bn ha=>h x hx A ha) hl (by simpa using q)
theorem di{α:Type}{g:kj}{tb:cJ}{De:jO}(gi:α->D)(l:List α)(I:Nat->Sd->Prop)
  (AJ:∀i a σ (N:Sd->Prop),l[i]?=some a->I i σ->(∀cA,I (i+1) cA->N cA)->g (gi a) σ λaC=>tb {nx:=N,rt:=De.rt,bk:=De.nx,ct:=N} aC)
  (Ax:∀σ,I l.length σ->De.nx σ) {σ:Sd} (h0:I 0 σ):qQ g tb De (l.map gi) σ:=by
 refine Aa I (λi x σ N hx hI hN=>?_) (λσ h=>Ax σ (by rwa [List.length_map]at h)) h0
 rw[List.getElem?_map]at hx;cases e:l[i]? with
 | none=>rw[e]at hx;cases hx
 | some a=>rw[e]at hx;cases hx;exact AJ i a σ N e hI hN
theorem fA(lo:Int)(n:Nat):mO lo n=(List.range n).map λi=>.int (lo+(i:Nat)):=rfl
theorem CK{α β:Type}(f:α->D)(g:β->D)(xs:List α)(ys:List β):sO (xs.map f) (ys.map g)=(xs.zip ys).map λp=>.tup [f p.1,g p.2]:=by
 unfold sO;rw[List.zip_map,List.map_map];rfl
theorem wF{α:Type}(f:α->D)(xs:List α):jS (xs.map f)=(xs.mapIdx λi x=>(i,x)).map λp=>.tup [.int (p.1:Nat),f p.2]:=by
 unfold jS;apply List.ext_getElem?;intro i;simp only[List.getElem?_mapIdx,List.getElem?_map];cases xs[i]?<;>rfl
theorem uR{α:Type}{xs:List α}{n:Nat}{d:α}(h:xs[n]?=some d):L2.mD xs (n:Int)=some d:=by
 have hn:=(List.getElem?_eq_some_iff.mp h).1;unfold L2.mD L2.vt;rw[if_pos (Int.natCast_nonneg n),if_pos ⋯]
 show xs[(n:Int).toNat]?=some d;rw[Int.toNat_natCast];exact h
theorem b9{xs:List D}{n:Nat}{i:Int}{d:D}{Q:D->Prop}(e:i=(n:Int))(h:xs[n]?=some d)(q:Q d):JV (.lst xs) (.int i) Q:=by
 subst e;show(match L2.mD xs (n:Int)with|some d=>Q d|none=>False)
 rw[uR h];exact q
theorem jo{xs:List D}{n:Nat}{i:Int}{d:D}{Q:D->Prop}(e:i=(n:Int))(h:xs[n]?=some d)(q:Q d):JV (.tup xs) (.int i) Q:=by
 subst e;show(match L2.mD xs (n:Int)with|some d=>Q d|none=>False)
 rw[uR h];exact q
theorem cL{xs:List D}{i:Int}{Q:D->Prop}(h0:0<=i)(h1:i<xs.length)(h:∀d∈xs,Q d):JV (.lst xs) (.int i) Q:=by
 have hn:i.toNat<xs.length:=by omega
 exact b9 (n:=i.toNat) ⋯ (List.getElem?_eq_getElem hn) (h _ (List.getElem_mem hn))
structure cG(G:GE)(x:Str)(st:Stmt)(ps:List Str)(f:Addr)(fd:FuncData):Prop where
 F:FQ G.K x x st f fd
 m:G.mg x=some (.ref f)
 b:Binds G.K fd ps []
theorem cG.fg{x:Str}{st:Stmt}{ps N:List Str}{f:Addr}{fd:FuncData}{t:cJ}{sp:bz}(d:cG G x st ps f fd)(hK:G.K=KF.K)(Sc:aL N ps (ai st))(ht:d8 G k ⟨N,(ai st).names,[],false,false,false,λ_ _=>False⟩ (av st) t)
  (len:∀ds Q,sp ds Q->ds.length=ps.length) (body:∀ds Q,sp ds Q->t {nx:=λ_=>Q (.sh .bC),rt:=λb _=>Q b} (aW N.length ds)):cq G (k+1) x sp:=
 ⟨f,fd,ps,Gf hK d.F Sc ht len body,d.m,d.F.kp,d.b⟩
theorem ao{t u:cJ}{De:jO}{σ:Sd}(h:∀N,N=u De->t {nx:=N,rt:=De.rt,bk:=De.bk,ct:=De.ct} σ):bP t u De σ:=h _ rfl
end Vc
namespace Vc
open PySem L2
variable [KF]
section
open AutoSeq1 (wpAny_loadPart')
theorem ra(l:Addr)(items:Array Value)(n:Nat)(dct:Option Addr)(sl:Array (Option Value)):
  Meets (Builtin.«enumerate.__new__» ⟨[.type "enumerate",.ref l],[]⟩) (λ_ R s=>s.heap.get? l=some {cls:=.type "tuple",dict:=dct,data:=.seq items n,slots:=sl} /\
   R (.ok (.ret (.ref (s.heap.push {cls:=.type "tuple_iterator",data:=.fields #[.ref l,.int 0 0]}).objs.size)))
    {s with heap:=(s.heap.push {cls:=.type "tuple_iterator",data:=.fields #[.ref l,.int 0 0]}).push {cls:=.type "enumerate",data:=.fields #[.none,.bool false,.ref s.heap.objs.size,rawInt 0,.none,.none]}}):=
 .of_wp λprog w A R s h=>by
  obtain⟨hp,g,d,tk,os⟩:=s;obtain⟨hl,h⟩:=h;have AK:=sub_enumerate;have hL:Heap.IsTuple (Shared.heap ⟨hp,g,d,tk,os⟩) l items:=⟨_,hl,rfl,n,rfl⟩
  wp_walk using wpAny_loadPart' hl
  refine wpAny_stack_any λst=>wpAny_pure ?_
  split
  ·rename_i c _ _ _ _ _
   cases(c==Value.type "enumerate")
   ·wp_walk using wpAny_loadPart' hl,wpAny_pyIter_tuple hL
    exact⟨_,rfl,h⟩
   ·wp_walk using wpAny_loadPart' hl,wpAny_pyIter_tuple hL
    exact⟨_,rfl,h⟩
  ·wp_walk using wpAny_loadPart' hl,wpAny_pyIter_tuple hL
   exact⟨_,rfl,h⟩
theorem tF{prog:Program}{w:World}{A:Around}{E:Value->Shared->Prop}{s:Shared}{l:Addr}{items:Array Value}{Q:Value->Shared->Prop}(hL:s.heap.IsTuple l items)
  (h:∀h',IsEnum h' (s.heap.objs.size+1) s.heap.objs.size 0 .none->ki true h' s.heap.objs.size l 0->h'.objs.size=s.heap.objs.size+2 ->
   (∀b o,s.heap.get? b=some o->h'.get? b=some o)->Q (.ref (s.heap.objs.size+1)) {s with heap:=h'}):
  wpAny (model prog w) A (call (.type "enumerate") [.ref l]) Q E s:=by
 obtain⟨⟨c,dct,dt,sl⟩,hl,hc,n,hd⟩:=hL
 replace hc:c=.type "tuple":=hc
 replace hd:dt=.seq items n:=hd
 subst hc hd;refine callType_new F.called_enumerate ∅ (F.typeCall_enumerate_1 _) (F.newCall_enumerate_1 _) (λobj=>F.args_object_init_2 obj _) F.entry_enumerate_new
  (ra l items n dct sl) ⟨hl,?_⟩
 have hz:(s.heap.push {cls:=.type "tuple_iterator",data:=.fields #[.ref l,.int 0 0]}).objs.size=s.heap.objs.size+1:=Heap.size_push ..;show _/\_;rw[hz];have he:IsEnum ((s.heap.push {cls:=.type "tuple_iterator",data:=.fields #[.ref l,.int 0 0]}).push
   {cls:=.type "enumerate",data:=.fields #[.none,.bool false,.ref s.heap.objs.size,rawInt 0,.none,.none]}) (s.heap.objs.size+1) s.heap.objs.size 0 .none:=by
  have:=Heap.get?_push_size (s.heap.push {cls:=.type "tuple_iterator",data:=.fields #[.ref l,.int 0 0]})
   (o:={cls:=.type "enumerate",data:=.fields #[.none,.bool false,.ref s.heap.objs.size,rawInt 0,.none,.none]}) rfl
  rw[hz]at this;exact this
 refine⟨⟨_,he,rfl⟩,h _ he ⟨_,Heap.get?_push_of_some _ (Heap.get?_push_size _ rfl),rfl,rfl⟩ (by rw[Heap.size_push,hz]) λb o x=>Heap.get?_push_of_some _ (Heap.get?_push_of_some _ x)⟩
end
def JN(K:PySem.W.Frag)(ta:TA):TI:=λσ H R=>ta σ H λvs H1=>∃tp a xs,vs=[.ref a]/\Sq tp K H1 a xs/\R (UL tp K a) H1
theorem Bp{X:Cx}{elts:List Expr}{kk:Nat}{gm:Pos}{a:Expr}{ta:TA}{p pos:Pos}(hg:Gl X "enumerate")(hm:X.mg "enumerate"=none)(hv:bootBuiltins "enumerate"=some (.type "enumerate"))(ha:PA X [a] ta)(hs:starEach [a] X.env=[(false,eval a X.env)]):
  PI X (.Tuple elts kk gm) (.Call (.Name "enumerate" p) [a] [] pos) (JN X.K ta):=by
 intro pins s σ H R I h;refine PyProof.Rows.Call_ (eP I hg hm hv (PyProof.Rows.callWith_type1 (b8 (ha pos pins s σ H _ I h) λus s1 ⟨vs,H1,I1,r1,q1⟩=>?_) hs rfl));obtain⟨tp,l,xs,e,q1,q⟩:=q1;subst e;obtain⟨u,rfl,ru⟩:=vals1 r1;cases ru;obtain⟨its,_,p1,ll⟩:=q1.is I1;have fin:∀h',IsEnum h' (s1.heap.objs.size+1) s1.heap.objs.size 0 .none->ki tp h' s1.heap.objs.size l 0->h'.objs.size=s1.heap.objs.size+2 ->
   (∀b o,s1.heap.get? b=some o->h'.get? b=some o)->wpAny (model X.prog X.w) X.A (pyIter (.ref (s1.heap.objs.size+1))) (Vn X pins σ (.Tuple elts kk gm) R) X.xe {s1 with heap:=h'}:=λg e1 i1 n1 k1=>by
  refine wpAny_pyIter_enum e1 ?_;refine⟨s1.heap.objs.size+1,[s1.heap.objs.size+1,s1.heap.objs.size],_,_,H1,rfl,I1.kept (t':=s1.toks) k1,
   xG tp _ _ l (show(s1.heap.objs.size+1:Nat)≠s1.heap.objs.size by omega) (Nat.ne_of_lt (Nat.lt_succ_of_lt ll)) (Nat.ne_of_lt ll),⟨⟨_,e1⟩,i1⟩,λb hb=>?_,q⟩
  have wK:s1.heap.objs.size<=b:=by
   simp only[List.mem_cons,List.not_mem_nil,or_false]at hb;rcases hb with rfl|rfl
   ·exact Nat.le_succ _
   ·exact Nat.le_refl _
  exact I1.wG wK (I1.bU.fresh wK)
 cases tp with
 | true=>exact tF p1 fin
 | false=>exact call_enumerate_list p1 fin
variable {G:GE}{k:Nat}{S:Stat}
def uG(t:gh):gh:=λσ Q=>t σ λds aC=>match ds with
 | [.lst xs]=>Q (jS xs) aC
 | [.tup xs]=>Q (jS xs) aC
 | _=>False
theorem DP{elts:List Expr}{kk:Nat}{gm:Pos}{a:Expr}{t:gh}{p pos:Pos}(h:xT G k S [a] t)(hm:G.mg "enumerate"=none)(hg:S.sc.lookup ("enumerate":Str)=some .globalImplicit:=by rfl)(hs:∀env,starEach [a] env=[(false,eval a env)]:=by intro _;rfl):
  EI G k S (.Tuple elts kk gm) (.Call (.Name "enumerate" p) [a] [] pos) (uG t):=.mk λX Y ok=>lJ (Bp (d3 ok hg) (by rw[ok.mg];exact hm) (by decide +kernel) (h X Y ok) (hs _)) λσ H Q q=>by
 obtain⟨F,aq,Qd,R,q,K⟩:=q;refine⟨F,aq,_,R,q,λvs H1 F1 ds aC s1 R1 r1 q1=>?_⟩;have go:∀d xs,Ut d=some xs->aG F1 vs [d]->Qd (jS xs) aC->∃tp a us,vs=[.ref a]/\Sq tp X.K H1 a us/\Q (UL tp X.K a) H1:=λd xs ex r1 q1=>by
  cases r1 with
  | cons rx r1 =>
   cases r1;obtain⟨tp,l,us,rfl,a1,b1⟩:=rx.sq ex X.K;exact⟨tp,l,us,rfl,a1 H1 R1.fr,K H1 F1 aC _ _ s1 R1 (DT a1 b1) q1⟩
 split at q1
 ·exact go _ _ rfl r1 q1
 ·exact go _ _ rfl r1 q1
 ·exact q1.elim
theorem yC{X:Cx}:cT X (.type "range") (λxs H Q=>∃j:Int,xs=[.int j]/\∀l,H l=none->Q (.ref l) (upd H l (.MH 0 j))):=by
 intro pins s σ H xs us Q I r h;obtain⟨j,rfl,q⟩:=h;obtain⟨u,rfl,rx⟩:=vals1 r;obtain⟨t,rfl⟩:=rx;refine call_range_1 ?_;exact⟨.ref s.heap.objs.size,_,I.laid (t':=s.toks+1+1) (o:=.MH 0 j) (λb o e=>Heap.get?_push_of_some _ e) (Nat.le_refl _) ⟨_,_,_,Heap.get?_push_size _ rfl⟩,rfl,q _ I.fresh⟩
def o6(n:Nat):List V:=(List.range n).map λi=>.int (i:Nat)
theorem CA{n:Nat}{acc:Array Value}(h:ItemsOf (λi v=>∃t,v=.int (0+i*1) t) acc n):Vals (o6 n) acc.toList:=by
 obtain⟨h1,h2⟩:=h;have:∀(xs:List V) (us:List Value),xs.length=us.length->(∀(i:Nat) v,us[i]?=some v->∃x,xs[i]?=some x/\RelV x v)->Vals xs us:=by
  intro xs
  induction xs with
  | nil=>intro us hl _;cases us with
   | nil=>exact .nil
   | cons _ _=>simp at hl
  | cons x xs ih=>intro us hl hr;cases us with
   | nil=>simp at hl
   | cons u us =>
    obtain⟨y,hy,ry⟩:=hr 0 u rfl;cases hy;exact .cons ry (ih us (by simpa using hl) λi v e=>hr (i+1) v e)
 refine this _ _ (by simp [o6,h1]) λi v e=>?_
 have hi:i<n:=by
  have:=(List.getElem?_eq_some_iff.mp e).1;simpa [h1]using this
 obtain⟨t,rfl⟩:=h2 i v (by simpa using e)
 refine⟨.int (i:Nat),by simp [o6,hi],⟨t,by simp⟩⟩
theorem mI{X:Cx}(hc:X.calm=true):cT X (.type "list") (λxs H Q=>∃p j,xs=[.ref p]/\H p=some (.MH 0 j)/\-(2^62)<=j/\j<=2^24/\∀l,H l=none->Q (.ref l) (upd H l (.lst (o6 j.toNat)))):=by
 intro pins s σ H xs us Q I r h;obtain⟨p,j,rfl,hp,h1,h2,q⟩:=h;obtain⟨u,rfl,rx⟩:=vals1 r;cases rx;obtain⟨t,u,v,e⟩:=I.bU p _ hp;refine call_list_range (n:=j.toNat) (I.ok.hd hc) (show IsRange s.heap p 0 j 1 t u v from e) (small_one ⋯ ⋯ ⋯ ⋯) (by rw[rangeSize_one];split<;>omega) ⋯ λh' tk dE c' kp e' it=>?_
 have hz:(o6 j.toNat).length<=sizeLine:=by simp [o6,sizeLine];omega
 exact⟨.ref s.heap.objs.size,_,I.laid (t':=tk) kp (Nat.le_refl _) (show cv X.prog X.w _ h' _ (.lst (o6 j.toNat))from⟨hz,dE.toList,c',CA it,by simpa using e'⟩),rfl,q _ I.fresh⟩
def XE(t:qf):TX:=λσ Q=>t σ λxs aC=>match hW aC xs with
 | some [.int j]=>(-(2^62)<=j/\j<=2^24)/\Q (.own (mO 0 j.toNat)) aC
 | _=>False
theorem BG{F:Hp}(n:Nat):aG F (o6 n) (mO 0 n):=by
 unfold o6 mO
 induction (List.range n)with
 | nil=>exact .nil
 | cons a as ih=>exact .cons (by simpa using Rep.int _) ih
theorem ME{a:Expr}{t:qf}{p p2 pos jv:Pos}(h:xU G k S [a] t)(hm:G.mg "list"=none)(ig:G.mg "range"=none)(hg:S.sc.lookup ("list":Str)=some .globalImplicit:=by rfl)(Ov:S.sc.lookup ("range":Str)=some .globalImplicit:=by rfl)
  (hs:∀env,starEach [a] env=[(false,eval a env)]:=by intro _;rfl) (oI:∀env,starEach [Expr.Call (.Name "range" p2) [a] [] jv] env=[(false,eval (Expr.Call (.Name "range" p2) [a] [] jv) env)]:=by intro _;rfl) (hh:S.mL=false:=by rfl):
  EX G k S (.Call (.Name "list" p) [.Call (.Name "range" p2) [a] [] jv] [] pos) (XE t):=.mk λX Y ok =>
 bj (jt (mI (ok.calm hh)) (d3 ok hg) (by rw[ok.mg];exact hm) (by decide +kernel) (fR (jt yC (d3 ok Ov) (by rw[ok.mg];exact ig) (by decide +kernel) (h X Y ok) ∅ ∅ (hs _) (by rfl)) lF (oI _)) ∅ ∅ (oI _) (by rfl)) λσ H Q q=>by
  obtain⟨F,aq,Qd,R,q,K⟩:=q;refine⟨F,aq,_,R,q,λvs H1 F1 xs aC s1 R1 r1 q1=>?_⟩
  split at q1
  ·rename_i j e
   obtain⟨v,rfl,rv⟩:=(R1.hW r1 e).one;obtain rfl:=rv.int;refine⟨j,rfl,λl hl=>⟨l,j,rfl,aR,q1.1.1,q1.1.2,?_⟩⟩;have R2:RS Y F1 aC σ (upd H1 l (.MH 0 j)):=R1.tu hl;have g:Goes Y F1 aC σ (λr=>Qd r aC) Q:=λv H' F' r s R' rr qq=>K v H' F' r aC (s1.trans s) R' rr qq;exact g.own R2 (BG _) q1.2
  ·exact q1.elim
end Vc
namespace Vs
open PySem PyProof.Rows
def R(ρ:Keyed->Nat)(xs:Array Keyed)(i:Nat):Nat:=match xs[i]? with
 | some p=>ρ p
 | none=>0
theorem fK{ρ:Keyed->Nat}{xs ys:Array Keyed}{i j:Nat}(h:xs[i]?=ys[j]?):R ρ xs i=R ρ ys j:=by unfold R;rw[h]
theorem cX{ρ:Keyed->Nat}{xs:Array Keyed}{i:Nat}{p:Keyed}(h:xs[i]?=some p):R ρ xs i=ρ p:=by unfold R;rw[h]
theorem qd{ρ:Keyed->Nat}{xs:Array Keyed}{src d:Nat}(hs:src<xs.size)(hd:d<=src)(k:Nat):
  R ρ (bubble xs src d) k=if k=src-d then R ρ xs src else if src-d<k/\k<=src then R ρ xs (k-1)else R ρ xs k:=by
 have e:=getElem?_bubble hs d hd k
 repeat' split
 all_goals (rename_i h1;first | (rename_i h2;first|rw[if_neg h2,if_pos h1]at e|rw[if_neg h2,if_neg h1]at e)|rw[if_pos h1]at e)
 all_goals exact fK e
theorem kJ{ρ:Keyed->Nat}{xs:Array Keyed}{i j:Nat}(hj:j<=xs.size)(k:Nat):
  R ρ (mirror xs i j ((j-i)/2)) k=if i<=k/\k<j then R ρ xs (i+j-1-k)else R ρ xs k:=by
 have e:=getElem?_mirror_all (i:=i) hj k
 split
 ·rename_i h1;rw[if_pos h1]at e;exact fK e
 ·rename_i h1;rw[if_neg h1]at e;exact fK e
theorem cw{ρ:Keyed->Nat}{xs:Array Keyed}{i j:Nat}(hj:j<=xs.size)(heq:∀k,i<=k->k<j->R ρ xs k=R ρ xs (j-1))(k:Nat):
  R ρ (mirror xs i j ((j-i)/2)) k=R ρ xs k:=by
 rw[kJ hj]
 split
 ·rw[heq _ ⋯ ⋯,heq k ⋯ ⋯]
 ·rfl
def fo(M:Model)(A:Around)(E:Value->Shared->Prop)(s:Shared)(ρ:Keyed->Nat)(kd:SortKind)(P:Keyed->Prop):Prop:=
 ∀(x y:Keyed) (st:SortSt) (Q:Option Bool->SortSt->Prop),P x->P y->kindOf st=kd->Q (some (decide (ρ x<ρ y))) st->wpS M A E s (lt' x y) Q st
structure SI(kd:SortKind)(a₀:Array Keyed)(st:SortSt):Prop where
 perm:(arrOf st).Perm a₀
 kind:kindOf st=kd
 failed:failedOf st=none
theorem SI.size{kd:SortKind}{a₀:Array Keyed}{st:SortSt}(h:SI kd a₀ st):(arrOf st).size=a₀.size:=h.perm.size_eq
theorem SI.setArr{kd:SortKind}{a₀:Array Keyed}{st:SortSt}(h:SI kd a₀ st){xs:Array Keyed}(hp:xs.Perm (arrOf st)):SI kd a₀ (setArr st xs):=⟨hp.trans h.perm,h.kind,h.failed⟩
theorem SI.at{kd:SortKind}{a₀:Array Keyed}{st:SortSt}(h:SI kd a₀ st){P:Keyed->Prop}(h0:∀p∈a₀.toList,P p){i:Nat}(hi:i<a₀.size):∃p,(arrOf st)[i]?=some p/\P p:=by
 have tS:i<(arrOf st).size:=by rw[h.size];exact hi
 exact⟨(arrOf st)[i],getElem?_pos _ i tS,h0 _ ((Array.perm_iff_toList_perm.mp h.perm).mem_iff.mp (by simp))⟩
structure Fw(kd:SortKind)(a₀:Array Keyed)(lo:Nat)(st aB:SortSt):Prop where
 si:SI kd a₀ aB
 same:∀k,k<lo->(arrOf aB)[k]?=(arrOf st)[k]?
 pend:pendingOf aB=pendingOf st
theorem Fw.refl{kd:SortKind}{a₀:Array Keyed}{lo:Nat}{st:SortSt}(h:SI kd a₀ st):Fw kd a₀ lo st st:=⟨h,λ_ _=>rfl,rfl⟩
theorem Fw.mirror{kd:SortKind}{a₀:Array Keyed}{lo i j:Nat}{st aB:SortSt}(h:Fw kd a₀ lo st aB)(hi:lo<=i)(hj:j<=a₀.size):Fw kd a₀ lo st (setArr aB (mirror (arrOf aB) i j ((j-i)/2))):=
 ⟨h.si.setArr (mirror_perm _ _ _ _),λk hk=>by
  show(PyProof.Rows.mirror (arrOf aB) i j ((j-i)/2))[k]?=_;rw[getElem?_mirror_all (by rw[h.si.size];exact hj),if_neg ⋯];exact h.same k hk,h.pend⟩
theorem Fw.bubble{kd:SortKind}{a₀:Array Keyed}{lo src d:Nat}{st aB:SortSt}(h:Fw kd a₀ lo st aB)(hs:src<a₀.size)(hd:lo<=src-d)(hd2:d<=src):Fw kd a₀ lo st (setArr aB (bubble (arrOf aB) src d)):=
 ⟨h.si.setArr (bubble_perm _ _ _),λk hk=>by
  show(PyProof.Rows.bubble (arrOf aB) src d)[k]?=_;rw[getElem?_bubble (by rw[h.si.size];exact hs) d hd2,if_neg ⋯,if_neg ⋯];exact h.same k hk,h.pend⟩
section
variable {M:Model}{A:Around}{E:Value->Shared->Prop}{s:Shared}{ρ:Keyed->Nat}{kd:SortKind}{P:Keyed->Prop}{a₀:Array Keyed}
theorem bh{arr:Array Keyed}{i:Nat}{p:Keyed}{st:SortSt}{Q:Keyed->SortSt->Prop}(h:arr[i]?=some p)(q:Q p st):wpS M A E s (elem' arr i) Q st:=by
 rw[elem'_eq,h];exact wpS_pure q
theorem wpS_ltAt{st:SortSt}{i j:Nat}{Q:Option Bool->SortSt->Prop}(hL:fo M A E s ρ kd P)(h0:∀p∈a₀.toList,P p)(hB:SI kd a₀ st)(hi:i<a₀.size)(hj:j<a₀.size)
  (h:Q (some (decide (R ρ (arrOf st) i<R ρ (arrOf st) j))) st):wpS M A E s (ltAt' i j) Q st:=by
 obtain⟨p,e1,p1⟩:=hB.at h0 hi;obtain⟨q,e2,p2⟩:=hB.at h0 hj;rw[cX e1,cX e2]at h;rw[ltAt'_eq];refine wpS_bind (wpS_get ?_);show wpS _ _ _ _ (do let x <- elem' (arrOf st) i;let y <- elem' (arrOf st) j;lt' x y) Q st
 exact wpS_bind (bh e1 (wpS_bind (bh e2 (hL p q st Q p1 p2 hB.kind h))))
theorem wpS_reverse{st:SortSt}{i j:Nat}{Q:Unit->SortSt->Prop}(h:Q () (setArr st (mirror (arrOf st) i j ((j-i)/2)))):wpS M A E s (reverseSlice' i j) Q st:=by
 rw[reverseSlice'_eq];exact wpS_modify h
def Seg(ρ:Keyed->Nat)(xs:Array Keyed)(lo hi:Nat):Prop:=∀i j,lo<=i->i<=j->j<hi->R ρ xs i<=R ρ xs j
def Neg(ρ:Keyed->Nat)(xs:Array Keyed)(lo hi:Nat):Prop:=∀i j,lo<=i->i<=j->j<hi->R ρ xs j<=R ρ xs i
theorem Seg.one{xs:Array Keyed}{lo:Nat}:Seg ρ xs lo (lo+1):=λi j h1 h2 h3=>by
 have:i=j:=by omega
 subst this;exact Nat.le_refl _
theorem Seg.snoc{xs:Array Keyed}{lo hi:Nat}(h:Seg ρ xs lo hi)(hl:lo<hi)(hr:R ρ xs (hi-1)<=R ρ xs hi):Seg ρ xs lo (hi+1):=λi j h1 h2 h3=>by
 by_cases hj:j<hi
 ·exact h i j h1 h2 hj
 ·have:j=hi:=by omega
  subst this
  by_cases tS:i=j
  ·subst tS;exact Nat.le_refl _
  ·exact Nat.le_trans (h i (j-1) h1 ⋯ ⋯) hr
theorem Neg.snoc{xs:Array Keyed}{lo hi:Nat}(h:Neg ρ xs lo hi)(hl:lo<hi)(hr:R ρ xs hi<=R ρ xs (hi-1)):Neg ρ xs lo (hi+1):=λi j h1 h2 h3=>by
 by_cases hj:j<hi
 ·exact h i j h1 h2 hj
 ·have:j=hi:=by omega
  subst this
  by_cases tS:i=j
  ·subst tS;exact Nat.le_refl _
  ·exact Nat.le_trans hr (h i (j-1) h1 ⋯ ⋯)
def yx(lo a bM:Nat):StateT SortSt Sem (Option (Option Nat)×Nat):=
 forIn [a:bM] ((none,a):Option (Option Nat)×Nat) λ_ dM=>do
  let G5 <- ltAt' (lo+dM.snd) (lo+dM.snd-1)
  match G5 with
  | some pB=>if pB=true then pure (ForInStep.done (none,dM.snd))else pure (ForInStep.yield (none,dM.snd+1))
  | _=>pure (ForInStep.done (some none,dM.snd))
theorem sy{st:SortSt}{lo a bM:Nat}{Q:Option (Option Nat)×Nat->SortSt->Prop}(hL:fo M A E s ρ kd P)(h0:∀p∈a₀.toList,P p)(hn:lo+bM<=a₀.size)(ha:1<=a)(ZC:a<=bM)(hB:SI kd a₀ st)
  (hs:Seg ρ (arrOf st) lo (lo+a))
  (h:∀n,a<=n->n<=bM->Seg ρ (arrOf st) lo (lo+n)->(n=bM\/R ρ (arrOf st) (lo+n)<R ρ (arrOf st) (lo+n-1))->Q (none,n) st):wpS M A E s (yx lo a bM) Q st:=by
 unfold yx;refine wpS_forRange (I:=λx c aB=>aB=st/\c=(none,x)/\Seg ρ (arrOf st) lo (lo+x)) ?step ?fin ⟨rfl,rfl,hs⟩
 case fin =>
  rintro c aB ⟨rfl,rfl,gT⟩;rw[show max a bM=bM by omega]at gT ⊢
  exact h bM ZC (Nat.le_refl _) gT (.inl rfl)
 case step =>
  rintro x c aB V4 hxn ⟨rfl,rfl,gT⟩;dsimp only;refine wpS_bind (wpS_ltAt hL h0 hB ⋯ ⋯ ?_)
  by_cases hl:R ρ (arrOf aB) (lo+x)<R ρ (arrOf aB) (lo+x-1)
  ·simp only[hl,decide_true,if_true]
   exact wpS_pure (h x V4 ⋯ gT (.inr hl))
  ·simp only[hl,decide_false,Bool.false_eq_true,if_false]
   refine wpS_pure ⟨rfl,rfl,?_⟩;exact gT.snoc ⋯ ⋯
def sg(lo n bM:Nat):StateT SortSt Sem (Option Nat):=do
 reverseSlice' lo (lo+n)
 let dM <- yx lo n bM
 match dM.fst with
 | some r=>pure r
 | none=>pure (some dM.snd)
theorem nR{st b7:SortSt}{lo n bM:Nat}{Q:Option Nat->SortSt->Prop}(hL:fo M A E s ρ kd P)(h0:∀p∈a₀.toList,P p)(hn:lo+bM<=a₀.size)(h1:1<=n)(AF:n<=bM)(hB:Fw kd a₀ lo b7 st)
  (hs:Neg ρ (arrOf st) lo (lo+n)) (h:∀m aB,Fw kd a₀ lo b7 aB->1<=m->m<=bM->Seg ρ (arrOf aB) lo (lo+m)->Q (some m) aB):wpS M A E s (sg lo n bM) Q st:=by
 unfold sg;have hsz:lo+n<=(arrOf st).size:=by rw[hB.si.size];omega
 refine wpS_bind (wpS_reverse ?_);have gN:=hB.mirror (i:=lo) (j:=lo+n) (Nat.le_refl _) ⋯
 refine wpS_bind (sy hL h0 hn h1 AF gN.si ?_ λm ZU ig hsm _=>wpS_pure (h m _ gN ⋯ ig hsm))
 intro i j hi kA hj;show R ρ (mirror (arrOf st) lo (lo+n) ((lo+n-lo)/2)) i<=R ρ (mirror (arrOf st) lo (lo+n) ((lo+n-lo)/2)) j;rw[kJ hsz,kJ hsz,if_pos ⋯,if_pos ⋯]
 exact hs _ _ ⋯ ⋯ ⋯
def uZ(lo n bM:Nat):StateT SortSt Sem (Option (Option Nat)×Nat×Nat):=
 forIn [n:bM] ((none,n,0):Option (Option Nat)×Nat×Nat) λ_ dM=>do
  let G5 <- ltAt' (lo+dM.snd.fst) (lo+dM.snd.fst-1)
  match G5 with
  | some pB =>
   if pB=true then
    if dM.snd.snd>0 then do
     reverseSlice' (lo+dM.snd.fst-(dM.snd.snd+1)) (lo+dM.snd.fst)
     pure (ForInStep.yield (none,dM.snd.fst+1,0))
    else pure (ForInStep.yield (none,dM.snd.fst+1,0))
   else do
    let G5 <- ltAt' (lo+dM.snd.fst-1) (lo+dM.snd.fst)
    match G5 with
    | some Ks =>
     if Ks=true then pure (ForInStep.done (none,dM.snd.fst,dM.snd.snd))
     else pure (ForInStep.yield (none,dM.snd.fst+1,dM.snd.snd+1))
    | _=>pure (ForInStep.done (some none,dM.snd.fst,dM.snd.snd))
  | _=>pure (ForInStep.done (some none,dM.snd.fst,dM.snd.snd))
theorem xK{st b7:SortSt}{lo n bM:Nat}{Q:Option (Option Nat)×Nat×Nat->SortSt->Prop}(hL:fo M A E s ρ kd P)(h0:∀p∈a₀.toList,P p)(hn:lo+bM<=a₀.size)(h1:1<=n)(AF:n<=bM)(hB:Fw kd a₀ lo b7 st)
  (hs:Neg ρ (arrOf st) lo (lo+n))
  (h:∀m tY aB,Fw kd a₀ lo b7 aB->n<=m->m<=bM->Neg ρ (arrOf aB) lo (lo+m)->tY+1<=m->(∀i,lo+m-(tY+1)<=i->i<lo+m->R ρ (arrOf aB) i=R ρ (arrOf aB) (lo+m-1))->Q (none,m,tY) aB):
  wpS M A E s (uZ lo n bM) Q st:=by
 unfold uZ;refine wpS_forRange (I:=λx c aB=>∃tY,c=(none,x,tY)/\Fw kd a₀ lo b7 aB/\Neg ρ (arrOf aB) lo (lo+x)/\tY+1<=x /\
   (∀i,lo+x-(tY+1)<=i->i<lo+x->R ρ (arrOf aB) i=R ρ (arrOf aB) (lo+x-1))) ?step ?fin ⟨0,rfl,hB,hs,by omega,λi h1 h2=>by congr 1;omega⟩
 case fin =>
  rintro c aB ⟨tY,rfl,gN,gT,hq,he⟩;rw[show max n bM=bM by omega]at gT hq he ⊢
  exact h bM tY aB gN AF (Nat.le_refl _) gT hq he
 case step =>
  rintro x c aB V4 hxn ⟨tY,rfl,gN,gT,hq,he⟩;dsimp only;have hsz:lo+x<=(arrOf aB).size:=by rw[gN.si.size];omega
  refine wpS_bind (wpS_ltAt hL h0 gN.si ⋯ ⋯ ?_)
  by_cases hl:R ρ (arrOf aB) (lo+x)<R ρ (arrOf aB) (lo+x-1)
  ·simp only[hl,decide_true,if_true]
   have GK:∀xs:Array Keyed,(∀k,R ρ xs k=R ρ (arrOf aB) k)->Neg ρ xs lo (lo+(x+1)):=λxs hk=>by
    have:=gT.snoc ⋯ (Nat.le_of_lt hl)
    intro i j h1 h2 h3;rw[hk,hk];exact this i j h1 h2 h3
   by_cases AA:tY>0
   ·rw[if_pos AA]
    refine wpS_bind (wpS_reverse (wpS_pure ⟨0,rfl,gN.mirror ⋯ ⋯,GK _ (cw hsz he),by omega,λi h1 h2=>by congr 1;omega⟩))
   ·rw[if_neg AA]
    exact wpS_pure ⟨0,rfl,gN,GK _ (λ_=>rfl),by omega,λi h1 h2=>by congr 1;omega⟩
  ·simp only[hl,decide_false,Bool.false_eq_true,if_false]
   refine wpS_bind (wpS_ltAt hL h0 gN.si ⋯ ⋯ ?_)
   by_cases hg:R ρ (arrOf aB) (lo+x-1)<R ρ (arrOf aB) (lo+x)
   ·simp only[hg,decide_true,if_true]
    exact wpS_pure (h x tY aB gN V4 ⋯ gT hq he)
   ·simp only[hg,decide_false,Bool.false_eq_true,if_false]
    have heq:R ρ (arrOf aB) (lo+x)=R ρ (arrOf aB) (lo+x-1):=by omega
    refine wpS_pure ⟨tY+1,rfl,gN,gT.snoc ⋯ ⋯,by omega,λi h1 h2=>?_⟩
    rw[show lo+(x+1)-1=lo+x by omega]
    by_cases ZO:i=lo+x
    ·rw[ZO]
    ·rw[heq];exact he i ⋯ ⋯
def qt(lo n bM:Nat):StateT SortSt Sem (Option Nat):=do
 liftM (rule "list.sort.descending-run")
 let dM <- uZ lo (n+1) bM
 match dM.fst with
 | some r=>pure r
 | none =>
  if dM.snd.snd>0 then do
   reverseSlice' (lo+dM.snd.fst-(dM.snd.snd+1)) (lo+dM.snd.fst)
   sg lo dM.snd.fst bM
  else sg lo dM.snd.fst bM
theorem nQ{st b7:SortSt}{lo n bM:Nat}{Q:Option Nat->SortSt->Prop}(hL:fo M A E s ρ kd P)(h0:∀p∈a₀.toList,P p)(hn:lo+bM<=a₀.size)(AF:n+1<=bM)(hB:Fw kd a₀ lo b7 st)
  (hs:Neg ρ (arrOf st) lo (lo+(n+1))) (h:∀m aB,Fw kd a₀ lo b7 aB->1<=m->m<=bM->Seg ρ (arrOf aB) lo (lo+m)->Q (some m) aB):wpS M A E s (qt lo n bM) Q st:=by
 unfold qt;refine wpS_bind (wpS_lift (wpAny_rule ⟨rfl,?_⟩));refine wpS_bind (xK hL h0 hn ⋯ AF hB hs λm tY aB gN ZU ig gT hq he=>?_)
 dsimp only;have hsz:lo+m<=(arrOf aB).size:=by rw[gN.si.size];omega
 by_cases AA:tY>0
 ·rw[if_pos AA]
  refine wpS_bind (wpS_reverse (nR hL h0 hn ⋯ ig (gN.mirror ⋯ ⋯) ?_ h))
  intro i j h1 h2 h3;show R ρ (mirror (arrOf aB) _ _ _) j<=R ρ (mirror (arrOf aB) _ _ _) i;rw[cw hsz he,cw hsz he];exact gT i j h1 h2 h3
 ·rw[if_neg AA]
  exact nR hL h0 hn ⋯ ig gN gT h
local macro_rules|`(tactic| walk_at "s_tail")=>`(tactic| (funext s3;obtain⟨r3,n3⟩:=s3;cases r3<;>rfl))
local macro_rules|`(tactic| walk_at "s_t3")=>`(tactic| (congr 1;funext _w;congr 1;walk_at "s_tail"))
local macro_rules|`(tactic| walk_at "s_desc")=>`(tactic| (congr 1;funext _u;congr 1;congr 1;funext s2;obtain⟨r2,n2,q2⟩:=s2;cases r2 with
  | some r2=>rfl
  | none=>(dsimp only;split;(congr 1;funext _v;walk_at "s_t3");walk_at "s_t3")))
theorem om(lo bM:Nat):countRun' lo bM=(do
  let dM <- yx lo 1 bM
  match dM.fst with
  | some r=>pure r
  | none =>
   if(dM.snd==bM)=true then pure (some dM.snd)
   else if dM.snd>1 then do
    let G5 <- ltAt' lo (lo+dM.snd-1)
    match G5 with
    | some Xq=>if Xq=true then pure (some dM.snd)else do
      reverseSlice' lo (lo+dM.snd)
      qt lo dM.snd bM
    | _=>pure none
   else qt lo dM.snd bM):=by
 rw[countRun'_eq];dsimp only;unfold qt sg uZ yx;congr 1;funext dM;obtain⟨r,n⟩:=dM;cases r with
 | some r=>rfl
 | none =>
  dsimp only
  split
  ·rfl
  ·split
   ·congr 1
    funext x;cases x with
    | none=>rfl
    | some b =>
     dsimp only
     split
     ·rfl
     ·congr 1
      funext _z;walk_at "s_desc"
   ·walk_at "s_desc"
end
end Vs
namespace Vs
open PySem PyProof.Rows
section
variable {M:Model}{A:Around}{E:Value->Shared->Prop}{s:Shared}{ρ:Keyed->Nat}{kd:SortKind}{P:Keyed->Prop}{a₀:Array Keyed}
theorem wpS_countRun{st:SortSt}{lo bM:Nat}{Q:Option Nat->SortSt->Prop}(hL:fo M A E s ρ kd P)(h0:∀p∈a₀.toList,P p)(hn:lo+bM<=a₀.size)(h1:1<=bM)(hB:SI kd a₀ st)
  (h:∀m aB,Fw kd a₀ lo st aB->1<=m->m<=bM->Seg ρ (arrOf aB) lo (lo+m)->Q (some m) aB):wpS M A E s (countRun' lo bM) Q st:=by
 rw[om];refine wpS_bind (sy hL h0 hn (Nat.le_refl 1) h1 hB Seg.one λn UY UZ Gn Z0=>?_);dsimp only
 by_cases AF:n=bM
 ·rw[if_pos (by simpa using AF)]
  exact wpS_pure (h n st (.refl hB) UY UZ Gn)
 ·rw[if_neg (by simpa using AF)]
  have gy:=Z0.resolve_left AF
  by_cases Yp:n>1
  ·rw[if_pos Yp]
   refine wpS_bind (wpS_ltAt hL h0 hB ⋯ ⋯ ?_)
   by_cases hr:R ρ (arrOf st) lo<R ρ (arrOf st) (lo+n-1)
   ·simp only[hr,decide_true,if_true]
    exact wpS_pure (h n st (.refl hB) UY UZ Gn)
   ·simp only[hr,decide_false,Bool.false_eq_true,if_false]
    have hsz:lo+n<=(arrOf st).size:=by rw[hB.size];omega
    have fh:∀k,lo<=k->k<lo+n->R ρ (arrOf st) k=R ρ (arrOf st) (lo+n-1):=λk oH Yw=>by
     have a1:=Gn lo k (Nat.le_refl _) oH Yw;have a2:=Gn k (lo+n-1) oH ⋯ ⋯
     omega
    refine wpS_bind (wpS_reverse (nQ hL h0 hn ⋯ ((Fw.refl hB).mirror (Nat.le_refl _) ⋯) ?_ h))
    intro i j hi kA hj;show R ρ (mirror (arrOf st) _ _ _) j<=R ρ (mirror (arrOf st) _ _ _) i;rw[cw hsz fh,cw hsz fh]
    by_cases ZP:j<lo+n
    ·rw[fh i hi ⋯,fh j ⋯ ZP];exact Nat.le_refl _
    ·have Rq:j=lo+n:=by omega
     subst Rq
     by_cases tS:i=lo+n
     ·subst tS;exact Nat.le_refl _
     ·rw[fh i hi ⋯];exact Nat.le_of_lt gy
  ·rw[if_neg Yp]
   have JD:n=1:=by omega
   subst JD;refine nQ hL h0 hn ⋯ (.refl hB) ?_ h
   intro i j hi kA hj
   by_cases tS:i=j
   ·subst tS;exact Nat.le_refl _
   ·have ZL:i=lo:=by omega
    have Yt:j=lo+1:=by omega
    subst ZL;subst Yt;exact Nat.le_of_lt gy
theorem wpS_binarySort{st:SortSt}{lo n ok:Nat}{Q:Bool->SortSt->Prop}(hL:fo M A E s ρ kd P)(h0:∀p∈a₀.toList,P p)(hn:lo+n<=a₀.size)(bU:ok<=n)(hB:SI kd a₀ st)(hs:Seg ρ (arrOf st) lo (lo+ok))
  (h:∀aB,Fw kd a₀ lo st aB->Seg ρ (arrOf aB) lo (lo+n)->Q true aB):wpS M A E s (binarySort' lo n ok) Q st:=by
 rw[binarySort'_eq];refine wpS_bind (wpS_mono (wpS_forRange (I:=λk c aB=>c=(none,())/\Fw kd a₀ lo st aB/\Seg ρ (arrOf aB) lo (lo+min k n))
  (Q:=λc aB=>c=(none,())/\Fw kd a₀ lo st aB/\Seg ρ (arrOf aB) lo (lo+n)) ?step ?fin ?init) ?post)
 case post =>
  rintro c aB ⟨rfl,gN,gT⟩;exact wpS_pure (h aB gN gT)
 case init =>
  refine⟨rfl,.refl hB,λi j hi kA hj=>?_⟩
  by_cases h1:ok=0
  ·have:i=j:=by omega
   subst this;exact Nat.le_refl _
  ·exact hs i j hi kA ⋯
 case fin =>
  rintro c aB ⟨hc,gN,gT⟩;refine⟨hc,gN,?_⟩
  rwa [show min (max (max ok 1) n) n=n by omega]at gT
 case step =>
  rintro k c aB hak hkn ⟨rfl,gN,gT⟩;rw[show min k n=k by omega]at gT
  have hk:lo+k<a₀.size:=by omega
  refine wpS_bind (wpS_mono (wpS_forRange (I:=λx c cZ=>cZ=aB/\∃l r,c=(none,l,r)/\l<=r/\r<=k/\r-l<=k-x /\
    (∀i,i<l->R ρ (arrOf aB) (lo+i)<=R ρ (arrOf aB) (lo+k))/\(∀i,r<=i->i<k->R ρ (arrOf aB) (lo+k)<R ρ (arrOf aB) (lo+i)))
   (Q:=λc cZ=>cZ=aB/\∃l r,c=(none,l,r)/\l<=k /\
    (∀i,i<l->R ρ (arrOf aB) (lo+i)<=R ρ (arrOf aB) (lo+k))/\(∀i,l<=i->i<k->R ρ (arrOf aB) (lo+k)<R ρ (arrOf aB) (lo+i))) ?istep ?ifin ?iinit) ?ipost)
  case iinit=>exact⟨rfl,0,k,rfl,by omega,by omega,by omega,λi hi=>by omega,λi h1 h2=>by omega⟩
  case ifin =>
   rintro c cZ ⟨rfl,l,r,rfl,ZS,Wv,hm,vm,Ow⟩;have:l=r:=by omega
   subst this;exact⟨rfl,l,l,rfl,Wv,vm,Ow⟩
  case istep =>
   rintro x c cZ _ hxk ⟨rfl,l,r,rfl,ZS,Wv,hm,vm,Ow⟩;dsimp only
   by_cases sU:l>=r
   ·rw[if_pos sU]
    have:l=r:=by omega
    subst this;exact wpS_pure ⟨rfl,l,l,rfl,Wv,vm,Ow⟩
   ·rw[if_neg sU]
    refine wpS_bind (wpS_ltAt hL h0 gN.si hk ⋯ ?_)
    by_cases vk:R ρ (arrOf cZ) (lo+k)<R ρ (arrOf cZ) (lo+(l+r)/2)
    ·simp only[vk,decide_true,if_true]
     refine wpS_pure ⟨rfl,l,(l+r)/2,rfl,by omega,by omega,by omega,vm,λi h1 h2=>?_⟩
     exact Nat.lt_of_lt_of_le vk (gT _ _ ⋯ ⋯ ⋯)
    ·simp only[vk,decide_false,Bool.false_eq_true,if_false]
     refine wpS_pure ⟨rfl,(l+r)/2+1,r,rfl,by omega,by omega,by omega,λi h1=>?_,Ow⟩
     exact Nat.le_trans (gT (lo+i) (lo+(l+r)/2) ⋯ ⋯ ⋯) (Nat.not_lt.mp vk)
  case ipost =>
   rintro c cZ ⟨rfl,l,r,rfl,hlk,vm,Ow⟩;show wpS _ _ _ _ (do moveDown' (lo+k) (lo+l);pure (ForInStep.yield (none,()))) _ _
   rw[moveDown'_eq];refine wpS_bind (wpS_modify (wpS_pure ⟨rfl,gN.bubble hk ⋯ ⋯,?_⟩))
   rw[show min (k+1) n=k+1 by omega]
   have Yx:lo+k<(arrOf cZ).size:=by rw[gN.si.size];exact hk
   intro i j hi kA hj;show R ρ (bubble (arrOf cZ) (lo+k) (lo+k-(lo+l))) i<=R ρ (bubble (arrOf cZ) (lo+k) (lo+k-(lo+l))) j;rw[qd Yx ⋯,qd Yx ⋯,show lo+k-(lo+k-(lo+l))=lo+l by omega]
   have Wj:∀i,lo<=i->i<lo+l->R ρ (arrOf cZ) i<=R ρ (arrOf cZ) (lo+k):=λi h1 h2=>by
    have:=vm (i-lo) ⋯;rwa [show lo+(i-lo)=i by omega]at this
   have Wd:∀i,lo+l<=i->i<lo+k->R ρ (arrOf cZ) (lo+k)<R ρ (arrOf cZ) i:=λi h1 h2=>by
    have:=Ow (i-lo) ⋯ ⋯;rwa [show lo+(i-lo)=i by omega]at this
   repeat' split
   all_goals first
    | (exfalso;omega)
    | exact Nat.le_refl _
    | exact Wj _ ⋯ ⋯
    | exact Nat.le_of_lt (Wd _ ⋯ ⋯)
    | exact gT _ _ ⋯ ⋯ ⋯
def ck:Bool->Keyed->Array Keyed->Nat->Nat->Nat->StateT SortSt Sem (Option Nat):=sortPriv% PySem.Builtin.gallop
def eL(left:Bool)(key:Keyed)(arr:Array Keyed)(base i:Nat):StateT SortSt Sem (Option Bool):=do
 let x <- elem' arr (base+i)
 if left then lt' x key else return(<- lt' key x).map (!·)
theorem tO(left:Bool)(key:Keyed)(arr:Array Keyed)(base n hint:Nat):ck left key arr base n hint=(do
 let mut kB:=0
 let mut xO:=1
 let mut lo:=0
 let mut hi:=0
 let some right <- eL left key arr base hint|return none
 if right then
  let lg:=n-hint
  for _ in [0:n]do
   if xO>=lg then break
   let some more <- eL left key arr base (hint+xO)|return none
   if !more then break
   kB:=xO
   xO:=2*xO+1
  lo:=hint+kB+1
  hi:=hint+min xO lg
 else
  let lg:=hint+1
  for _ in [0:n]do
   if xO>=lg then break
   let some found <- eL left key arr base (hint-xO)|return none
   if found then break
   kB:=xO
   xO:=2*xO+1
  lo:=hint+1-min xO lg
  hi:=hint-kB
 for _ in [0:n]do
  if lo>=hi then break
  let m:=lo+(hi-lo)/2
  let some more <- eL left key arr base m|return none
  if more then lo:=m+1 else hi:=m
 return some hi):=rfl
end
end Vs
namespace Vs
open PySem PyProof.Rows
section
variable {M:Model}{A:Around}{E:Value->Shared->Prop}{s:Shared}{ρ:Keyed->Nat}{kd:SortKind}{P:Keyed->Prop}{a₀:Array Keyed}
def QX(left:Bool)(key:Keyed)(arr:Array Keyed)(base n l h:Nat):StateT SortSt Sem (Option Nat):=do
 let mut lo:=l
 let mut hi:=h
 for _ in [0:n]do
  if lo>=hi then break
  let m:=lo+(hi-lo)/2
  let some more <- eL left key arr base m|return none
  if more then lo:=m+1 else hi:=m
 return some hi
def Tells(M:Model)(A:Around)(E:Value->Shared->Prop)(s:Shared)(left:Bool)(key:Keyed)(arr:Array Keyed)(base n:Nat)(st:SortSt)(p:Nat->Bool):Prop:=
 ∀i,i<n->∀Q:Option Bool->SortSt->Prop,Q (some (p i)) st->wpS M A E s (eL left key arr base i) Q st
theorem sA{left:Bool}{key:Keyed}{arr:Array Keyed}{base n l h:Nat}{st:SortSt}{p:Nat->Bool}{Q:Option Nat->SortSt->Prop}(hT:Tells M A E s left key arr base n st p)(hp:∀i j,i<=j->j<n->p j=true->p i=true)
  (ZQ:l<=h) (hh:h<=n) (h1:∀i,i<l->p i=true) (h2:∀i,h<=i->i<n->p i=false)
  (q:∀k,k<=n->(∀i,i<k->p i=true)->(∀i,k<=i->i<n->p i=false)->Q (some k) st):wpS M A E s (QX left key arr base n l h) Q st:=by
 unfold QX;dsimp only;refine wpS_bind (wpS_mono (wpS_forRange (I:=λx c aB=>aB=st/\∃l h,c=(none,l,h)/\l<=h/\h<=n/\h-l<=n-x/\(∀i,i<l->p i=true)/\(∀i,h<=i->i<n->p i=false))
  (Q:=λc aB=>aB=st/\∃k,c=(none,k,k)/\k<=n/\(∀i,i<k->p i=true)/\(∀i,k<=i->i<n->p i=false)) ?step ?fin ⟨rfl,l,h,rfl,ZQ,hh,by omega,h1,h2⟩) ?post)
 case post =>
  rintro c aB ⟨rfl,k,rfl,hk,q1,q2⟩;exact wpS_pure (q k hk q1 q2)
 case fin =>
  rintro c aB ⟨rfl,l,h,rfl,a1,a2,a3,a4,a5⟩;have:l=h:=by omega
  subst this;exact⟨rfl,l,rfl,a2,a4,a5⟩
 case step =>
  rintro x c aB _ hx ⟨rfl,l,h,rfl,a1,a2,a3,a4,a5⟩;dsimp only
  by_cases sU:l>=h
  ·rw[if_pos sU]
   have:l=h:=by omega
   subst this;exact wpS_pure ⟨rfl,l,rfl,a2,a4,a5⟩
  ·rw[if_neg sU]
   refine wpS_bind (hT _ ⋯ _ ?_)
   cases hm:p (l+(h-l)/2)with
   | true =>
    simp only[if_true];exact wpS_pure ⟨rfl,_,_,rfl,by omega,a2,by omega,λi hi=>hp i _ ⋯ ⋯ hm,a5⟩
   | false =>
    simp only[Bool.false_eq_true,if_false];refine wpS_pure ⟨rfl,_,_,rfl,by omega,by omega,by omega,a4,λi hi hn=>?_⟩
    cases e:p i with
    | false=>rfl
    | true=>rw[hp _ i hi hn e]at hm;cases hm
theorem dg{left:Bool}{key:Keyed}{arr:Array Keyed}{base n hint:Nat}{st:SortSt}{p:Nat->Bool}{Q:Option Nat->SortSt->Prop}(hT:Tells M A E s left key arr base n st p)(hp:∀i j,i<=j->j<n->p j=true->p i=true)(hn:hint<n)
  (q:∀k,k<=n->(∀i,i<k->p i=true)->(∀i,k<=i->i<n->p i=false)->Q (some k) st):wpS M A E s (ck left key arr base n hint) Q st:=by
 rw[tO];dsimp only;refine wpS_bind (hT hint hn _ ?_);have pf:∀i j,i<=j->j<n->p i=false->p j=false:=λi j h1 h2 h3=>by
  cases e:p j with
  | false=>rfl
  | true=>rw[hp i j h1 h2 e]at h3;cases h3
 cases h0:p hint with
 | true =>
  dsimp only;rw[if_pos rfl];refine wpS_bind (wpS_mono (wpS_forRange (I:=λx c aB=>aB=st/\∃l o,c=(none,l,o)/\l<o/\x+1<=o/\hint+l<n/\p (hint+l)=true)
   (Q:=λc aB=>aB=st/\∃l o,c=(none,l,o)/\l<o/\hint+l<n/\p (hint+l)=true/\(n-hint<=o\/(hint+o<n/\p (hint+o)=false))) ?step ?fin ⟨rfl,0,1,rfl,by omega,by omega,hn,h0⟩) ?post)
  case fin =>
   rintro c aB ⟨rfl,l,o,rfl,a1,a2,a3,a4⟩;exact⟨rfl,l,o,rfl,a1,a3,a4,.inl ⋯⟩
  case step =>
   rintro x c aB _ hx ⟨rfl,l,o,rfl,a1,a2,a3,a4⟩;dsimp only
   by_cases sU:o>=n-hint
   ·rw[if_pos sU]
    exact wpS_pure ⟨rfl,l,o,rfl,a1,a3,a4,.inl sU⟩
   ·rw[if_neg sU]
    refine wpS_bind (hT _ ⋯ _ ?_)
    cases hm:p (hint+o)with
    | true =>
     simp only[Bool.not_true,Bool.false_eq_true,if_false];exact wpS_pure ⟨rfl,_,_,rfl,by omega,by omega,by omega,hm⟩
    | false =>
     simp only[Bool.not_false,if_true];exact wpS_pure ⟨rfl,_,_,rfl,a1,a3,a4,.inr ⟨by omega,hm⟩⟩
  case post =>
   rintro c aB ⟨rfl,l,o,rfl,a1,a3,a4,a5⟩;refine sA (l:=hint+l+1) (h:=hint+min o (n-hint)) hT hp ⋯ ⋯ (λi hi=>hp i _ ⋯ a3 a4) (λi hi DK=>?_) q
   rcases a5 with a5|⟨a5,a6⟩
   ·omega
   ·exact pf (hint+o) i ⋯ DK a6
 | false =>
  dsimp only;rw[if_neg ∅]
  refine wpS_bind (wpS_mono (wpS_forRange (I:=λx c aB=>aB=st/\∃l o,c=(none,l,o)/\l<o/\x+1<=o/\l<=hint/\p (hint-l)=false)
   (Q:=λc aB=>aB=st/\∃l o,c=(none,l,o)/\l<o/\l<=hint/\p (hint-l)=false/\(hint+1<=o\/(o<=hint/\p (hint-o)=true))) ?step2 ?fin2 ⟨rfl,0,1,rfl,by omega,by omega,by omega,h0⟩) ?post2)
  case fin2 =>
   rintro c aB ⟨rfl,l,o,rfl,a1,a2,a3,a4⟩;exact⟨rfl,l,o,rfl,a1,a3,a4,.inl ⋯⟩
  case step2 =>
   rintro x c aB _ hx ⟨rfl,l,o,rfl,a1,a2,a3,a4⟩;dsimp only
   by_cases sU:o>=hint+1
   ·rw[if_pos sU]
    exact wpS_pure ⟨rfl,l,o,rfl,a1,a3,a4,.inl sU⟩
   ·rw[if_neg sU]
    refine wpS_bind (hT _ ⋯ _ ?_)
    cases hm:p (hint-o)with
    | true =>
     simp only[if_true];exact wpS_pure ⟨rfl,_,_,rfl,a1,a3,a4,.inr ⟨by omega,hm⟩⟩
    | false =>
     simp only[Bool.false_eq_true,if_false];exact wpS_pure ⟨rfl,_,_,rfl,by omega,by omega,by omega,hm⟩
  case post2 =>
   rintro c aB ⟨rfl,l,o,rfl,a1,a3,a4,a5⟩;refine sA (l:=hint+1-min o (hint+1)) (h:=hint-l) hT hp ⋯ ⋯ (λi hi=>?_) (λi hi DK=>pf (hint-l) i hi DK a4) q
   rcases a5 with a5|⟨a5,a6⟩
   ·omega
   ·exact hp i (hint-o) ⋯ ⋯ a6
def m8(ρ:Keyed->Nat)(left:Bool)(key:Keyed)(arr:Array Keyed)(base i:Nat):Bool:=if left=true then decide (R ρ arr (base+i)<ρ key)else !decide (ρ key<R ρ arr (base+i))
theorem tells{left:Bool}{key:Keyed}{arr:Array Keyed}{base n:Nat}{st:SortSt}(hL:fo M A E s ρ kd P)(hk:kindOf st=kd)(pk:P key)(pa:∀i,i<n->∃x,arr[base+i]?=some x/\P x):Tells M A E s left key arr base n st (m8 ρ left key arr base):=λi hi Q q=>by
 obtain⟨x,e,px⟩:=pa i hi;unfold eL;refine wpS_bind (bh e ?_);unfold m8 at q;rw[cX e]at q;cases left with
 | true =>
  simp only[if_true]at q ⊢;exact hL x key st Q px pk hk q
 | false =>
  simp only[Bool.false_eq_true,if_false]at q ⊢;exact wpS_bind (hL key x st _ pk px hk (wpS_pure q))
end
end Vs
namespace Vs
open PySem PyProof.Rows
def lj:Array Keyed->Array Keyed->StateT SortSt Sem (Array Keyed):=sortPriv% PySem.Builtin.mergeLo
def lh:Array Keyed->Array Keyed->StateT SortSt Sem (Array Keyed):=sortPriv% PySem.Builtin.mergeHi
def d5:Nat->StateT SortSt Sem Unit:=sortPriv% PySem.Builtin.setMinGallop
theorem dX(g:Nat):d5 g=modify (λst=>SortSt.mk' (kindOf st) (arrOf st) (pendingOf st) g (failedOf st)):=rfl
def So(ρ:Keyed->Nat)(l:List Keyed):Prop:=l.Pairwise λx y=>ρ x<=ρ y
structure J(ρ:Keyed->Nat)(L O A B:List Keyed):Prop where
 o:So ρ O
 a:So ρ A
 b:So ρ B
 oa:∀x∈O,∀y∈A,ρ x<=ρ y
 ob:∀x∈O,∀y∈B,ρ x<=ρ y
 p:(O++(A++B)).Perm L
def Good(ρ:Keyed->Nat)(L r:List Keyed):Prop:=So ρ r/\r.Perm L
theorem So.app{ρ:Keyed->Nat}{A B:List Keyed}(h1:So ρ A)(h2:So ρ B)(h:∀x∈A,∀y∈B,ρ x<=ρ y):So ρ (A++B):=List.pairwise_append.mpr ⟨h1,h2,h⟩
section
variable {ρ:Keyed->Nat}{L O A B X:List Keyed}{x z:Keyed}
theorem J.iq(j:J ρ L O (X++A) B)(h:∀x∈X,∀y∈B,ρ x<=ρ y):J ρ L (O++X) A B:=by
 obtain⟨a1,a2,a3⟩:=List.pairwise_append.mp j.a;refine⟨j.o.app a1 λx hx y hy=>j.oa x hx y (List.mem_append_left _ hy),a2,j.b,λx hx y hy=>?_,λx hx y hy=>?_,?_⟩
 ·rcases List.mem_append.mp hx with hx|hx
  ·exact j.oa x hx y (List.mem_append_right _ hy)
  ·exact a3 x hx y hy
 ·rcases List.mem_append.mp hx with hx|hx
  ·exact j.ob x hx y hy
  ·exact h x hx y hy
 ·have:=j.p
  simpa [List.append_assoc]using this
theorem J.iu(j:J ρ L O A (X++B))(h:∀x∈X,∀y∈A,ρ x<=ρ y):J ρ L (O++X) A B:=by
 obtain⟨a1,a2,a3⟩:=List.pairwise_append.mp j.b;refine⟨j.o.app a1 λx hx y hy=>j.ob x hx y (List.mem_append_left _ hy),j.a,a2,λx hx y hy=>?_,λx hx y hy=>?_,?_⟩
 ·rcases List.mem_append.mp hx with hx|hx
  ·exact j.oa x hx y hy
  ·exact h x hx y hy
 ·rcases List.mem_append.mp hx with hx|hx
  ·exact j.ob x hx y (List.mem_append_right _ hy)
  ·exact a3 x hx y hy
 ·refine List.Perm.trans ?_ j.p
  rw[List.append_assoc];refine List.Perm.append_left O ?_;rw[<- List.append_assoc,<- List.append_assoc];exact List.Perm.append_right B List.perm_append_comm
theorem J.gv(j:J ρ L O A []):Good ρ L (O++A):=⟨j.o.app j.a j.oa,by simpa using j.p⟩
theorem J.gu(j:J ρ L O [] B):Good ρ L (O++B):=⟨j.o.app j.b j.ob,by simpa using j.p⟩
theorem J.last(j:J ρ L O [z] B)(h:∀y∈B,ρ y<=ρ z):Good ρ L (O++B++[z]):=by
 refine⟨(j.o.app j.b j.ob).app (List.pairwise_singleton ..) λx hx y hy=>?_,?_⟩
 ·rw[List.mem_singleton.mp hy]
  rcases List.mem_append.mp hx with hx|hx
  ·exact j.oa x hx z (List.mem_singleton.mpr rfl)
  ·exact h x hx
 ·refine List.Perm.trans ?_ j.p
  rw[List.append_assoc];exact List.Perm.append_left O List.perm_append_comm
end
theorem ja{a:Array Keyed}{i:Nat}{x:Keyed}(h:a[i]?=some x):a.toList.drop i=x::a.toList.drop (i+1):=by
 have hi:i<a.toList.length:=by
  have:=(Array.getElem?_eq_some_iff.mp h).1;simpa using this
 rw[List.drop_eq_getElem_cons hi];have:a.toList[i]=x:=by
  have:=(Array.getElem?_eq_some_iff.mp h).2;simpa using this
 rw[this]
theorem jL(a:Array Keyed)(i:Nat):(a.extract i a.size).toList=a.toList.drop i:=by
 rw[Array.toList_extract];show(a.toList.drop i).take (a.size-i)=_;exact List.take_of_length_le (by rw[List.length_drop];exact Nat.le_refl _)
theorem kG(a:Array Keyed)(i k:Nat):(a.extract i (i+k)).toList=(a.toList.drop i).take k:=by
 rw[Array.toList_extract];show(a.toList.drop i).take (i+k-i)=_;rw[Nat.add_sub_cancel_left]
theorem so(a:Array Keyed)(i k:Nat):a.toList.drop i=(a.toList.drop i).take k++a.toList.drop (i+k):=by
 rw[<- List.drop_drop,List.take_append_drop]
theorem mw{a:Array Keyed}{i:Nat}(h:i=a.size):a.toList.drop i=[]:=by
 subst h;exact List.drop_length
theorem j7{a:Array Keyed}{i k:Nat}{x:Keyed}(h:x∈(a.toList.drop i).take k):∃m,m<k/\i+m<a.size/\a[i+m]?=some x:=by
 obtain⟨m,hm,e⟩:=List.mem_iff_getElem.mp h;rw[List.length_take,List.length_drop]at hm;rw[List.getElem_take,List.getElem_drop]at e;have hs:i+m<a.size:=by have:a.toList.length=a.size:=rfl;omega
 exact⟨m,by omega,hs,by rw[Array.getElem?_eq_getElem hs];exact congrArg some (by simpa using e)⟩
theorem Cu{a:Array Keyed}{i:Nat}{x:Keyed}(h:x∈a.toList.drop i):∃m,i<=m/\m<a.size/\a[m]?=some x:=by
 obtain⟨m,hm,e⟩:=List.mem_iff_getElem.mp h;rw[List.length_drop]at hm;rw[List.getElem_drop]at e;have hs:i+m<a.size:=by have:a.toList.length=a.size:=rfl;omega
 exact⟨i+m,by omega,hs,by rw[Array.getElem?_eq_getElem hs];exact congrArg some (by simpa using e)⟩
theorem So.seg{ρ:Keyed->Nat}{a:Array Keyed}(h:So ρ a.toList):Seg ρ a 0 a.size:=λi j _ kA hj=>by
 by_cases e:i=j
 ·subst e;exact Nat.le_refl _
 ·have hi:i<a.size:=by omega
  rw[cX (Array.getElem?_eq_getElem hi),cX (Array.getElem?_eq_getElem hj)];have:=List.pairwise_iff_getElem.mp h i j (by simpa using hi) (by simpa using hj) ⋯
  simpa using this
structure Kp(st aB:SortSt):Prop where
 a:arrOf aB=arrOf st
 k:kindOf aB=kindOf st
 p:pendingOf aB=pendingOf st
 f:failedOf aB=failedOf st
theorem Kp.refl{st:SortSt}:Kp st st:=⟨rfl,rfl,rfl,rfl⟩
theorem Kp.min{st aB:SortSt}(h:Kp st aB)(g:Nat):Kp st (SortSt.mk' (kindOf aB) (arrOf aB) (pendingOf aB) g (failedOf aB)):=⟨h.a,h.k,h.p,h.f⟩
section
variable {M:Model}{A:Around}{E:Value->Shared->Prop}{s:Shared}{ρ:Keyed->Nat}{kd:SortKind}{P:Keyed->Prop}
theorem c5{a:Array Keyed}(pa:∀x∈a.toList,P x){i:Nat}(h:i<a.size):∃x,a[i]?=some x/\P x:=
 ⟨a[i],Array.getElem?_eq_getElem h,pa _ (by simp)⟩
theorem CF{key:Keyed}{arr:Array Keyed}{base:Nat}{st:SortSt}{Q:Option Nat->SortSt->Prop}(hL:fo M A E s ρ kd P)(hk:kindOf st=kd)(pk:P key)(pa:∀x∈arr.toList,P x)(hs:So ρ arr.toList)(hb:base<arr.size)
  (q:∀k,base+k<=arr.size->(∀x∈(arr.toList.drop base).take k,ρ x<=ρ key)->(∀x∈arr.toList.drop (base+k),ρ key<ρ x)->Q (some k) st):wpS M A E s (ck false key arr base (arr.size-base) 0) Q st:=by
 refine dg (tells hL hk pk λi hi=>c5 pa ⋯) (λi j kA hj h=>?_) ⋯ λk oH h1 h2=>q k ⋯ (λx hx=>?_) λx hx=>?_
 ·have:=hs.seg (base+i) (base+j) (Nat.zero_le _) ⋯ ⋯
  simp only[m8,Bool.false_eq_true,if_false,Bool.not_eq_true',decide_eq_false_iff_not]at h ⊢;omega
 ·obtain⟨m,hm,ig,e⟩:=j7 hx
  have:=h1 m hm;simp only[m8,Bool.false_eq_true,if_false,Bool.not_eq_true',decide_eq_false_iff_not,cX e]at this;omega
 ·obtain⟨m,hm,ig,e⟩:=Cu hx
  have:=h2 (m-base) ⋯ ⋯
  rw[show base+k=base+k from rfl]at hm
  simp only[m8,Bool.false_eq_true,if_false,show base+(m-base)=m by omega,cX e,Bool.not_eq_false',decide_eq_true_eq]at this
  exact this
theorem CD{key:Keyed}{arr:Array Keyed}{base:Nat}{st:SortSt}{Q:Option Nat->SortSt->Prop}(hL:fo M A E s ρ kd P)(hk:kindOf st=kd)(pk:P key)(pa:∀x∈arr.toList,P x)(hs:So ρ arr.toList)(hb:base<arr.size)
  (q:∀k,base+k<=arr.size->(∀x∈(arr.toList.drop base).take k,ρ x<ρ key)->(∀x∈arr.toList.drop (base+k),ρ key<=ρ x)->Q (some k) st):wpS M A E s (ck true key arr base (arr.size-base) 0) Q st:=by
 refine dg (tells hL hk pk λi hi=>c5 pa ⋯) (λi j kA hj h=>?_) ⋯ λk oH h1 h2=>q k ⋯ (λx hx=>?_) λx hx=>?_
 ·have:=hs.seg (base+i) (base+j) (Nat.zero_le _) ⋯ ⋯
  simp only[m8,if_true,decide_eq_true_eq]at h ⊢;omega
 ·obtain⟨m,hm,ig,e⟩:=j7 hx
  have:=h1 m hm;simp only[m8,if_true,decide_eq_true_eq,cX e]at this;omega
 ·obtain⟨m,hm,ig,e⟩:=Cu hx
  have:=h2 (m-base) ⋯ ⋯
  simp only[m8,if_true,show base+(m-base)=m by omega,cX e,decide_eq_false_iff_not]at this
  omega
end
end Vs
namespace Vs
open PySem PyProof.Rows
section
variable {M:Model}{Ar:Around}{E:Value->Shared->Prop}{s:Shared}{ρ:Keyed->Nat}{kd:SortKind}{P:Keyed->Prop}{a b out:Array Keyed}{L:List Keyed}{ia ib:Nat}
abbrev GS:=Option (Array Keyed)×Array Keyed×Nat×Nat×Nat×Nat×Nat
def DH(a b out:Array Keyed)(ia ib g k k1:Nat):StateT SortSt Sem (ForInStep GS):=do
 let y <- elem' a ia
 if(ia+1+1==a.size)=true then pure (ForInStep.done (some (out.push y++b.extract ib b.size++a.extract (ia+1) a.size),out.push y,ia+1,ib,g,k,k1))
 else if(decide (k<7)&&decide (k1<7))=true then pure (ForInStep.done (none,out.push y,ia+1,ib,g,k,k1))
 else pure (ForInStep.yield (none,out.push y,ia+1,ib,g,k,k1))
def DG(a b out:Array Keyed)(ia ib g k bc:Nat):StateT SortSt Sem (ForInStep GS):=do
 let x <- elem' b ib
 if(ib+1==b.size)=true then pure (ForInStep.done (some (out.push x++a.extract ia a.size++b.extract (ib+1) b.size),out.push x,ia,ib+1,g,k,bc))
 else do
  let y <- elem' a ia
  let r <- ck true y b (ib+1) (b.size-(ib+1)) 0
  match r with
  | some k1 =>
   if k1>0 then
    if(ib+1+k1==b.size)=true then pure (ForInStep.done (some (out.push x++b.extract (ib+1) (ib+1+k1)++a.extract ia a.size++b.extract (ib+1+k1) b.size),out.push x++b.extract (ib+1) (ib+1+k1),ia,ib+1+k1,g,k,k1))
    else DH a b (out.push x++b.extract (ib+1) (ib+1+k1)) ia (ib+1+k1) g k k1
   else DH a b (out.push x) ia (ib+1) g k k1
  | _=>pure (ForInStep.done (some (out.push x++a.extract ia a.size++b.extract (ib+1) b.size),out.push x,ia,ib+1,g,k,bc))
def DF(a b out:Array Keyed)(ia ib g ac bc:Nat):StateT SortSt Sem (ForInStep GS):=do
 let x <- elem' b ib
 let r <- ck false x a ia (a.size-ia) 0
 match r with
 | some k =>
  if k>0 then
   if(ia+k+1==a.size)=true then pure (ForInStep.done (some (out++a.extract ia (ia+k)++b.extract ib b.size++a.extract (ia+k) a.size),out++a.extract ia (ia+k),ia+k,ib,g,k,bc))
   else if(ia+k==a.size)=true then pure (ForInStep.done (some (out++a.extract ia (ia+k)++a.extract (ia+k) a.size++b.extract ib b.size),out++a.extract ia (ia+k),ia+k,ib,g,k,bc))
   else DG a b (out++a.extract ia (ia+k)) (ia+k) ib g k bc
  else DG a b out ia ib g k bc
 | _=>pure (ForInStep.done (some (out++a.extract ia a.size++b.extract ib b.size),out,ia,ib,g,ac,bc))
def V(ρ:Keyed->Nat)(L:List Keyed)(a b out:Array Keyed)(ia ib:Nat):Prop:=J ρ L out.toList (a.toList.drop ia) (b.toList.drop ib)
theorem V.vy(j:V ρ L a b out ia ib)(e:ia+1=a.size)(hz:∀y∈b.toList,∀z,a[a.size-1]?=some z->ρ y<=ρ z):Good ρ L (out++b.extract ib b.size++a.extract ia a.size).toList:=by
 have ha:ia<a.size:=by omega
 have e1:a.toList.drop ia=[a[ia]]:=by rw[ja (Array.getElem?_eq_getElem ha),mw e]
 have j':J ρ L out.toList (a.toList.drop ia) (b.toList.drop ib):=j;rw[e1]at j';rw[Array.toList_append,Array.toList_append,jL,jL,e1];refine j'.last λy hy=>hz y (List.mem_of_mem_drop hy) _ ?_;rw[show a.size-1=ia by omega];exact Array.getElem?_eq_getElem ha
theorem V.gv(j:V ρ L a b out ia ib)(e:ib=b.size):Good ρ L (out++a.extract ia a.size++b.extract ib b.size).toList:=by
 have j':J ρ L out.toList (a.toList.drop ia) (b.toList.drop ib):=j;rw[mw e]at j';rw[Array.toList_append,Array.toList_append,jL,jL,mw e,List.append_nil];exact j'.gv
theorem V.gu(j:V ρ L a b out ia ib)(e:ia=a.size):Good ρ L (out++a.extract ia a.size++b.extract ib b.size).toList:=by
 have j':J ρ L out.toList (a.toList.drop ia) (b.toList.drop ib):=j;rw[mw e]at j';rw[Array.toList_append,Array.toList_append,jL,jL,mw e,List.append_nil];exact j'.gu
theorem V.nF{x:Keyed}(j:V ρ L a b out ia ib)(e:a[ia]?=some x)(h:∀y∈b.toList.drop ib,ρ x<=ρ y):V ρ L a b (out.push x) (ia+1) ib:=by
 have j':J ρ L out.toList (a.toList.drop ia) (b.toList.drop ib):=j;rw[ja e]at j';show J ρ L (out.push x).toList _ _;rw[Array.toList_push];exact J.iq (X:=[x]) j' λz hz y hy=>by rw[List.mem_singleton.mp hz];exact h y hy
theorem V.nG{x:Keyed}(j:V ρ L a b out ia ib)(e:b[ib]?=some x)(h:∀y∈a.toList.drop ia,ρ x<=ρ y):V ρ L a b (out.push x) ia (ib+1):=by
 have j':J ρ L out.toList (a.toList.drop ia) (b.toList.drop ib):=j;rw[ja e]at j';show J ρ L (out.push x).toList _ _;rw[Array.toList_push];exact J.iu (X:=[x]) j' λz hz y hy=>by rw[List.mem_singleton.mp hz];exact h y hy
theorem V.iq{k:Nat}(j:V ρ L a b out ia ib)(h:∀x∈(a.toList.drop ia).take k,∀y∈b.toList.drop ib,ρ x<=ρ y):V ρ L a b (out++a.extract ia (ia+k)) (ia+k) ib:=by
 have j':J ρ L out.toList (a.toList.drop ia) (b.toList.drop ib):=j;rw[so a ia k]at j';show J ρ L (out++a.extract ia (ia+k)).toList _ _;rw[Array.toList_append,kG];exact J.iq j' h
theorem V.iu{k:Nat}(j:V ρ L a b out ia ib)(h:∀x∈(b.toList.drop ib).take k,∀y∈a.toList.drop ia,ρ x<=ρ y):V ρ L a b (out++b.extract ib (ib+k)) ia (ib+k):=by
 have j':J ρ L out.toList (a.toList.drop ia) (b.toList.drop ib):=j;rw[so b ib k]at j';show J ρ L (out++b.extract ib (ib+k)).toList _ _;rw[Array.toList_append,kG];exact J.iu j' h
theorem V.Gj{x:Keyed}(j:V ρ L a b out ia ib)(e:a[ia]?=some x):∀y∈a.toList.drop ia,ρ x<=ρ y:=λy hy=>by
 have:=j.a;rw[ja e]at this hy;rcases List.mem_cons.mp hy with rfl|hy
 ·exact Nat.le_refl _
 ·exact(List.pairwise_cons.mp this).1 y hy
theorem V.Gk{x:Keyed}(j:V ρ L a b out ia ib)(e:b[ib]?=some x):∀y∈b.toList.drop ib,ρ x<=ρ y:=λy hy=>by
 have:=j.b;rw[ja e]at this hy;rcases List.mem_cons.mp hy with rfl|hy
 ·exact Nat.le_refl _
 ·exact(List.pairwise_cons.mp this).1 y hy
def Left(ρ:Keyed->Nat)(L:List Keyed)(a b:Array Keyed)(t:Nat)(out:Array Keyed)(ia ib:Nat):Prop:=V ρ L a b out ia ib/\ia+1<a.size/\ib<b.size/\t<=ia+ib
def PG(ρ:Keyed->Nat)(L:List Keyed)(a b:Array Keyed)(t:Nat)(b7:SortSt)(r:ForInStep GS)(st:SortSt):Prop:=Kp b7 st/\match r with
 | .done c=>(∃arr,c.1=some arr/\Good ρ L arr.toList)\/(c.1=none/\Left ρ L a b t c.2.1 c.2.2.1 c.2.2.2.1)
 | .yield c=>c.1=none/\Left ρ L a b t c.2.1 c.2.2.1 c.2.2.2.1
structure sR(ρ:Keyed->Nat)(P:Keyed->Prop)(a b:Array Keyed):Prop where
 pa:∀x∈a.toList,P x
 pb:∀x∈b.toList,P x
 sa:So ρ a.toList
 sb:So ρ b.toList
 a1:1<=a.size
 b1:1<=b.size
 z:∀y∈b.toList,∀z,a[a.size-1]?=some z->ρ y<=ρ z
 y:∀y∈a.toList,∀z,b[0]?=some z->ρ z<=ρ y
theorem sI{st b7:SortSt}{g k k1 t:Nat}(T:sR ρ P a b)(hK:Kp b7 st)(j:V ρ L a b out ia ib)(h1:ia+1<a.size)(h2:ib<b.size)(ht:t<=ia+ib)
  (h:∀x,a[ia]?=some x->∀y∈b.toList.drop ib,ρ x<=ρ y):wpS M Ar E s (DH a b out ia ib g k k1) (PG ρ L a b t b7) st:=by
 unfold DH;obtain⟨y,ey,py⟩:=c5 T.pa (show ia<a.size by omega)
 refine wpS_bind (bh ey ?_);have j':=j.nF ey (h y ey)
 by_cases e:ia+1+1=a.size
 ·rw[if_pos (by simpa using e)]
  exact wpS_pure ⟨hK,.inl ⟨_,rfl,j'.vy e T.z⟩⟩
 ·rw[if_neg (by simpa using e)]
  split
  ·exact wpS_pure ⟨hK,.inr ⟨rfl,j',by show ia+1+1<a.size;omega,h2,by show t<=ia+1+ib;omega⟩⟩
  ·exact wpS_pure ⟨hK,rfl,j',by show ia+1+1<a.size;omega,h2,by show t<=ia+1+ib;omega⟩
theorem sG{st b7:SortSt}{g k bc t:Nat}(hL:fo M Ar E s ρ kd P)(hk:kindOf b7=kd)(T:sR ρ P a b)(hK:Kp b7 st)(j:V ρ L a b out ia ib)(h1:ia+1<a.size)(h2:ib<b.size)(ht:t<=ia+ib)
  (h:∀x,b[ib]?=some x->∀y∈a.toList.drop ia,ρ x<=ρ y):wpS M Ar E s (DG a b out ia ib g k bc) (PG ρ L a b t b7) st:=by
 unfold DG;obtain⟨x,ex,px⟩:=c5 T.pb h2;obtain⟨y,ey,py⟩:=c5 T.pa (show ia<a.size by omega)
 refine wpS_bind (bh ex ?_);have j':=j.nG ex (h x ex)
 by_cases e:ib+1=b.size
 ·rw[if_pos (by simpa using e)]
  exact wpS_pure ⟨hK,.inl ⟨_,rfl,j'.gv e⟩⟩
 ·rw[if_neg (by simpa using e)]
  refine wpS_bind (bh ey ?_);refine wpS_bind (CD hL (hK.k.trans hk) py T.pb T.sb ⋯ λk1 oH q1 q2=>?_)
  dsimp only;have j2:=j'.iu (k:=k1) λx hx z hz=>Nat.le_trans (Nat.le_of_lt (q1 x hx)) (j'.Gj ey z hz)
  by_cases vh:k1>0
  ·rw[if_pos vh]
   by_cases e2:ib+1+k1=b.size
   ·rw[if_pos (by simpa using e2)]
    exact wpS_pure ⟨hK,.inl ⟨_,rfl,j2.gv e2⟩⟩
   ·rw[if_neg (by simpa using e2)]
    exact sI T hK j2 h1 ⋯ ⋯ λx' jU z hz=>by rw[ey]at jU;cases jU;exact q2 z hz
  ·rw[if_neg vh]
   have:k1=0:=by omega
   subst this;exact sI T hK j' h1 ⋯ ⋯ λx' jU z hz=>by rw[ey]at jU;cases jU;exact q2 z hz
theorem sE{st b7:SortSt}{g ac bc t:Nat}(hL:fo M Ar E s ρ kd P)(hk:kindOf b7=kd)(T:sR ρ P a b)(hK:Kp b7 st)(j:Left ρ L a b t out ia ib):wpS M Ar E s (DF a b out ia ib g ac bc) (PG ρ L a b t b7) st:=by
 obtain⟨j,h1,h2,ht⟩:=j;unfold DF;obtain⟨x,ex,px⟩:=c5 T.pb h2;refine wpS_bind (bh ex ?_);refine wpS_bind (CF hL (hK.k.trans hk) px T.pa T.sa ⋯ λk oH q1 q2=>?_)
 dsimp only;have j2:=j.iq (k:=k) λz hz y hy=>Nat.le_trans (q1 z hz) (j.Gk ex y hy)
 by_cases vh:k>0
 ·rw[if_pos vh]
  by_cases e:ia+k+1=a.size
  ·rw[if_pos (by simpa using e)]
   exact wpS_pure ⟨hK,.inl ⟨_,rfl,j2.vy e T.z⟩⟩
  ·rw[if_neg (by simpa using e)]
   by_cases e2:ia+k=a.size
   ·rw[if_pos (by simpa using e2)]
    exact wpS_pure ⟨hK,.inl ⟨_,rfl,j2.gu e2⟩⟩
   ·rw[if_neg (by simpa using e2)]
    exact sG hL hk T hK j2 ⋯ h2 ⋯ λx' jU z hz=>by rw[ex]at jU;cases jU;exact Nat.le_of_lt (q2 z hz)
 ·rw[if_neg vh]
  have:k=0:=by omega
  subst this;exact sG hL hk T hK j h1 h2 ht λx' jU z hz=>by rw[ex]at jU;cases jU;exact Nat.le_of_lt (q2 z hz)
abbrev IS:=Option (Array Keyed)×Array Keyed×Nat×Nat×Nat×Nat
abbrev OS:=Option (Array Keyed)×Array Keyed×Nat×Nat×Nat
def W9(a b:Array Keyed)(g:Nat)(c:IS):StateT SortSt Sem (ForInStep IS):=do
 let x <- elem' b c.2.2.2.1
 let y <- elem' a c.2.2.1
 let r <- lt' x y
 match r with
 | some w =>
  if w=true then do
   let x <- elem' b c.2.2.2.1
   if(c.2.2.2.1+1==b.size)=true then pure (ForInStep.done (some (c.2.1.push x++a.extract c.2.2.1 a.size++b.extract (c.2.2.2.1+1) b.size),c.2.1.push x,c.2.2.1,c.2.2.2.1+1,0,c.2.2.2.2.2+1))
   else if c.2.2.2.2.2+1>=g then pure (ForInStep.done (none,c.2.1.push x,c.2.2.1,c.2.2.2.1+1,0,c.2.2.2.2.2+1))
   else pure (ForInStep.yield (none,c.2.1.push x,c.2.2.1,c.2.2.2.1+1,0,c.2.2.2.2.2+1))
  else do
   let y <- elem' a c.2.2.1
   if(c.2.2.1+1+1==a.size)=true then pure (ForInStep.done (some (c.2.1.push y++b.extract c.2.2.2.1 b.size++a.extract (c.2.2.1+1) a.size),c.2.1.push y,c.2.2.1+1,c.2.2.2.1,c.2.2.2.2.1+1,0))
   else if c.2.2.2.2.1+1>=g then pure (ForInStep.done (none,c.2.1.push y,c.2.2.1+1,c.2.2.2.1,c.2.2.2.2.1+1,0))
   else pure (ForInStep.yield (none,c.2.1.push y,c.2.2.1+1,c.2.2.2.1,c.2.2.2.2.1+1,0))
 | _=>pure (ForInStep.done (some (c.2.1++a.extract c.2.2.1 a.size++b.extract c.2.2.2.1 b.size),c.2.1,c.2.2.1,c.2.2.2.1,c.2.2.2.2.1,c.2.2.2.2.2))
def W8(a b:Array Keyed)(c:GS):StateT SortSt Sem (ForInStep GS):=
 if c.2.2.2.2.1>1 then do
  d5 (c.2.2.2.2.1-1)
  DF a b c.2.1 c.2.2.1 c.2.2.2.1 (c.2.2.2.2.1-1) c.2.2.2.2.2.1 c.2.2.2.2.2.2
 else do
  d5 c.2.2.2.2.1
  DF a b c.2.1 c.2.2.1 c.2.2.2.1 c.2.2.2.2.1 c.2.2.2.2.2.1 c.2.2.2.2.2.2
def YX(r:GS):StateT SortSt Sem (ForInStep OS):=
 match r.1 with
 | some arr=>pure (ForInStep.done (some arr,r.2.1,r.2.2.1,r.2.2.2.1,r.2.2.2.2.1))
 | none=>do
  d5 (r.2.2.2.2.1+1)
  pure (ForInStep.yield (none,r.2.1,r.2.2.1,r.2.2.2.1,r.2.2.2.2.1+1))
def Xa(a b:Array Keyed)(g:Nat)(r:IS):StateT SortSt Sem (ForInStep OS):=
 match r.1 with
 | some arr=>pure (ForInStep.done (some arr,r.2.1,r.2.2.1,r.2.2.2.1,g))
 | none=>do
  liftM (rule "list.sort.gallop")
  let r2 <- forIn [0:a.size+b.size] ((none,r.2.1,r.2.2.1,r.2.2.2.1,g+1,r.2.2.2.2.1,r.2.2.2.2.2):GS) λ_ t=>W8 a b t
  YX r2
def Xb(a b:Array Keyed)(c:OS):StateT SortSt Sem (ForInStep OS):=do
 let r <- forIn [0:a.size+b.size] ((none,c.2.1,c.2.2.1,c.2.2.2.1,0,0):IS) λ_ r=>W9 a b c.2.2.2.2 r
 Xa a b c.2.2.2.2 r
def loZ(r:OS):StateT SortSt Sem (Array Keyed):=
 match r.1 with
 | some arr=>pure arr
 | none=>unsupported "internal:list.sort.merge-bound"
theorem oO(a b:Array Keyed):lj a b=(do
 liftM (rule "list.sort.merge-lo")
 let x <- elem' b 0
 if(1==b.size)=true then pure (#[x]++a.extract 0 a.size++b.extract 1 b.size)
 else if(0+1==a.size)=true then pure (#[x]++b.extract 1 b.size++a.extract 0 a.size)
 else do
  let st <- get
  let r <- forIn [0:a.size+b.size] ((none,#[x],0,1,gallopOf st):OS) λ_ r=>Xb a b r
  loZ r):=by kernel_rfl
theorem Fg{b7 st:SortSt}{g n m:Nat}{c:IS}(hL:fo M Ar E s ρ kd P)(hk:kindOf b7=kd)(T:sR ρ P a b)(hK:Kp b7 st)(j:Left ρ L a b (n+1+min m 1) c.2.1 c.2.2.1 c.2.2.2.1):
  wpS M Ar E s (W9 a b g c) (λr aB=>Kp b7 aB/\match r with
   | .done c=>(∃arr,c.1=some arr/\Good ρ L arr.toList)\/(c.1=none/\Left ρ L a b (n+1+1) c.2.1 c.2.2.1 c.2.2.2.1)
   | .yield c=>c.1=none/\Left ρ L a b (n+1+min (m+1) 1) c.2.1 c.2.2.1 c.2.2.2.1) st:=by
 obtain⟨ret,out,ia,ib,ac,bc⟩:=c;obtain⟨j,l1,l2,l3⟩:=j;dsimp only at j l1 l2 l3;unfold W9;dsimp only;obtain⟨x,ex,px⟩:=c5 T.pb l2;obtain⟨y,ey,py⟩:=c5 T.pa (show ia<a.size by omega)
 refine wpS_bind (bh ex (wpS_bind (bh ey (wpS_bind (hL x y st _ px py (hK.k.trans hk) ?_)))))
 by_cases gy:ρ x<ρ y
 ·rw[decide_eq_true gy]
  refine wpS_bind (bh ex ?_);have j':=j.nG ex λz hz=>Nat.le_trans (Nat.le_of_lt gy) (j.Gj ey z hz)
  by_cases e:ib+1=b.size
  ·rw[if_pos (by simpa using e)]
   exact wpS_pure ⟨hK,.inl ⟨_,rfl,j'.gv e⟩⟩
  ·rw[if_neg (by simpa using e)]
   split
   ·exact wpS_pure ⟨hK,.inr ⟨rfl,j',by show ia+1<a.size;omega,by show ib+1<b.size;omega,by show n+1+1<=ia+(ib+1);omega⟩⟩
   ·exact wpS_pure ⟨hK,rfl,j',by show ia+1<a.size;omega,by show ib+1<b.size;omega,by show n+1+min (m+1) 1<=ia+(ib+1);omega⟩
 ·rw[decide_eq_false gy]
  refine wpS_bind (bh ey ?_);have j':=j.nF ey λz hz=>Nat.le_trans (Nat.not_lt.mp gy) (j.Gk ex z hz)
  by_cases e:ia+1+1=a.size
  ·rw[if_pos (by simpa using e)]
   exact wpS_pure ⟨hK,.inl ⟨_,rfl,j'.vy e T.z⟩⟩
  ·rw[if_neg (by simpa using e)]
   split
   ·exact wpS_pure ⟨hK,.inr ⟨rfl,j',by show ia+1+1<a.size;omega,by show ib<b.size;omega,by show n+1+1<=ia+1+ib;omega⟩⟩
   ·exact wpS_pure ⟨hK,rfl,j',by show ia+1+1<a.size;omega,by show ib<b.size;omega,by show n+1+min (m+1) 1<=ia+1+ib;omega⟩
theorem Ff{b7 st:SortSt}{t:Nat}{c:GS}(hL:fo M Ar E s ρ kd P)(hk:kindOf b7=kd)(T:sR ρ P a b)(hK:Kp b7 st)(j:Left ρ L a b t c.2.1 c.2.2.1 c.2.2.2.1):wpS M Ar E s (W8 a b c) (PG ρ L a b t b7) st:=by
 unfold W8
 split
 ·rw[dX]
  exact wpS_bind (wpS_modify (sE hL hk T (hK.min _) j))
 ·rw[dX]
  exact wpS_bind (wpS_modify (sE hL hk T (hK.min _) j))
def PO(ρ:Keyed->Nat)(L:List Keyed)(a b:Array Keyed)(t:Nat)(b7:SortSt)(r:ForInStep OS)(st:SortSt):Prop:=match r with
 | .done c=>Kp b7 st/\∃arr,c.1=some arr/\Good ρ L arr.toList
 | .yield c=>Kp b7 st/\c.1=none/\Left ρ L a b t c.2.1 c.2.2.1 c.2.2.2.1
theorem Fh{b7 st:SortSt}{g n:Nat}{r:IS}(hL:fo M Ar E s ρ kd P)(hk:kindOf b7=kd)(T:sR ρ P a b)(hK:Kp b7 st)
  (h:(∃arr,r.1=some arr/\Good ρ L arr.toList)\/(r.1=none/\Left ρ L a b (n+1+1) r.2.1 r.2.2.1 r.2.2.2.1)):wpS M Ar E s (Xa a b g r) (PO ρ L a b (n+1+1) b7) st:=by
 obtain⟨ret,r⟩:=r;unfold Xa;rcases h with⟨arr,h1,h2⟩|⟨h1,hl⟩
 ·dsimp only at h1
  subst h1;exact wpS_pure ⟨hK,arr,rfl,h2⟩
 ·dsimp only at h1 hl
  subst h1;refine wpS_bind (wpS_lift (wpAny_rule ⟨rfl,?_⟩));refine wpS_bind (wpS_mono (wpS_forRange (I:=λx c aB=>Kp b7 aB/\c.1=none/\Left ρ L a b (n+1+1) c.2.1 c.2.2.1 c.2.2.2.1)
   (Q:=λc aB=>Kp b7 aB/\((∃arr,c.1=some arr/\Good ρ L arr.toList)\/(c.1=none/\Left ρ L a b (n+1+1) c.2.1 c.2.2.1 c.2.2.2.1))) ?gstep ?gfin ⟨hK,rfl,hl⟩) ?gpost)
  case gfin =>
   rintro c aB ⟨hK,h1,hl⟩;exact⟨hK,.inr ⟨h1,hl⟩⟩
  case gstep =>
   rintro m c aB _ hm ⟨hK,h1,hl⟩;refine wpS_mono (Ff hL hk T hK hl) λr cZ hr=>?_;obtain⟨k1,k2⟩:=hr;cases r with
   | done c=>exact⟨k1,k2⟩
   | yield c=>exact⟨k1,k2⟩
  case gpost =>
   rintro⟨ret,r⟩ aB ⟨hK,⟨arr,h1,h2⟩|⟨h1,hl⟩⟩
   ·dsimp only at h1
    subst h1;exact wpS_pure ⟨hK,arr,rfl,h2⟩
   ·dsimp only at h1 hl
    subst h1;unfold YX;rw[dX];exact wpS_bind (wpS_modify (wpS_pure ⟨hK.min _,rfl,hl⟩))
theorem Fj{b7 st:SortSt}{n:Nat}{c:OS}(hL:fo M Ar E s ρ kd P)(hk:kindOf b7=kd)(T:sR ρ P a b)(hn:0<a.size+b.size)(hK:Kp b7 st)(hl:Left ρ L a b (n+1) c.2.1 c.2.2.1 c.2.2.2.1):wpS M Ar E s (Xb a b c) (PO ρ L a b (n+1+1) b7) st:=by
 unfold Xb;refine wpS_bind (wpS_mono (wpS_forRange (I:=λx c aB=>Kp b7 aB/\c.1=none/\Left ρ L a b (n+1+min x 1) c.2.1 c.2.2.1 c.2.2.2.1)
  (Q:=λc aB=>Kp b7 aB/\((∃arr,c.1=some arr/\Good ρ L arr.toList)\/(c.1=none/\Left ρ L a b (n+1+1) c.2.1 c.2.2.1 c.2.2.2.1))) ?istep ?ifin ⟨hK,rfl,by simpa using hl⟩) ?ipost)
 case ifin =>
  rintro c aB ⟨hK,h1,hl⟩;rw[show min (max 0 (a.size+b.size)) 1=1 by omega]at hl
  exact⟨hK,.inr ⟨h1,hl⟩⟩
 case istep =>
  rintro m c aB _ hm ⟨hK,h1,hl⟩;refine wpS_mono (Fg hL hk T hK hl) λr cZ hr=>?_;obtain⟨k1,k2⟩:=hr;cases r with
  | done c=>exact⟨k1,k2⟩
  | yield c=>exact⟨k1,k2⟩
 case ipost =>
  rintro r aB ⟨hK,h⟩;exact Fh hL hk T hK h
theorem sL{st:SortSt}{Q:Array Keyed->SortSt->Prop}(hL:fo M Ar E s ρ kd P)(hk:kindOf st=kd)(T:sR ρ P a b)
  (q:∀r aB,Kp st aB->Good ρ (a.toList++b.toList) r.toList->Q r aB):wpS M Ar E s (lj a b) Q st:=by
 rw[oO];refine wpS_bind (wpS_lift (wpAny_rule ⟨rfl,?_⟩));obtain⟨x,ex,px⟩:=c5 T.pb (show 0<b.size from T.b1)
 refine wpS_bind (bh ex ?_);have j0:V ρ (a.toList++b.toList) a b #[] 0 0:=⟨List.Pairwise.nil,by simpa using T.sa,by simpa using T.sb,(λx hx=>by cases hx),(λx hx=>by cases hx),by simp⟩
 have j1:V ρ (a.toList++b.toList) a b #[x] 0 1:=by simpa using j0.nG ex λy hy=>T.y y (by simpa using hy) x ex
 by_cases e:1=b.size
 ·rw[if_pos (by simpa using e)]
  exact wpS_pure (q _ st .refl (j1.gv e))
 ·rw[if_neg (by simpa using e)]
  by_cases e2:0+1=a.size
  ·rw[if_pos (by simpa using e2)]
   exact wpS_pure (q _ st .refl (j1.vy e2 T.z))
  ·rw[if_neg (by simpa using e2)]
   have b1:=T.b1;have a1:=T.a1;refine wpS_bind (wpS_get ?_);refine wpS_bind (wpS_mono (wpS_forRange (I:=λx c aB=>Kp st aB/\c.1=none/\Left ρ (a.toList++b.toList) a b (x+1) c.2.1 c.2.2.1 c.2.2.2.1)
    (Q:=λc aB=>Kp st aB/\∃arr,c.1=some arr/\Good ρ (a.toList++b.toList) arr.toList) ?step ?fin ⟨.refl,rfl,j1,by show 0+1<a.size;omega,by show 1<b.size;omega,by show 0+1<=0+1;omega⟩) ?post)
   case fin =>
    rintro⟨ret,out,ia,ib,g⟩ aB ⟨hK,h1,j,h2,h3,h4⟩;dsimp only at h2 h3 h4;omega
   case post =>
    rintro⟨ret,r⟩ aB ⟨hK,arr,h1,h2⟩;dsimp only at h1;subst h1;exact wpS_pure (q arr aB hK h2)
   case step =>
    rintro n c aB _ hn ⟨hK,h1,hl⟩;refine wpS_mono (Fj hL hk T ⋯ hK hl) λr cZ hr=>?_
    cases r with
    | done c=>exact hr
    | yield c=>exact hr
end
end Vs
namespace Vs
open PySem PyProof.Rows
structure H(ρ:Keyed->Nat)(L O A B:List Keyed):Prop where
 o:So ρ O
 a:So ρ A
 b:So ρ B
 oa:∀x∈A,∀y∈O,ρ x<=ρ y
 ob:∀x∈B,∀y∈O,ρ x<=ρ y
 p:(A++(B++O)).Perm L
section
variable {ρ:Keyed->Nat}{L O A B X:List Keyed}{x z:Keyed}
theorem H.iu(j:H ρ L O A (B++X))(h:∀x∈X,∀y∈A,ρ y<=ρ x):H ρ L (X++O) A B:=by
 obtain⟨a1,a2,a3⟩:=List.pairwise_append.mp j.b;refine⟨So.app a2 j.o λx hx y hy=>j.ob x (List.mem_append_right _ hx) y hy,j.a,a1,λx hx y hy=>?_,λx hx y hy=>?_,?_⟩
 ·rcases List.mem_append.mp hy with hy|hy
  ·exact h y hy x hx
  ·exact j.oa x hx y hy
 ·rcases List.mem_append.mp hy with hy|hy
  ·exact a3 x hx y hy
  ·exact j.ob x (List.mem_append_left _ hx) y hy
 ·have:=j.p
  simpa [List.append_assoc]using this
theorem H.iq(j:H ρ L O (A++X) B)(h:∀x∈X,∀y∈B,ρ y<=ρ x):H ρ L (X++O) A B:=by
 obtain⟨a1,a2,a3⟩:=List.pairwise_append.mp j.a;refine⟨So.app a2 j.o λx hx y hy=>j.oa x (List.mem_append_right _ hx) y hy,a1,j.b,λx hx y hy=>?_,λx hx y hy=>?_,?_⟩
 ·rcases List.mem_append.mp hy with hy|hy
  ·exact a3 x hx y hy
  ·exact j.oa x (List.mem_append_left _ hx) y hy
 ·rcases List.mem_append.mp hy with hy|hy
  ·exact h y hy x hx
  ·exact j.ob x hx y hy
 ·refine List.Perm.trans ?_ j.p
  rw[List.append_assoc];refine List.Perm.append_left A ?_;rw[<- List.append_assoc,<- List.append_assoc];exact List.Perm.append_right O List.perm_append_comm
theorem H.gv(j:H ρ L O A []):Good ρ L (A++O):=⟨So.app j.a j.o j.oa,by simpa using j.p⟩
theorem H.gu(j:H ρ L O [] B):Good ρ L (B++O):=⟨So.app j.b j.o j.ob,by simpa using j.p⟩
theorem H.first(j:H ρ L O A [z])(h:∀y∈A,ρ z<=ρ y):Good ρ L ([z]++A++O):=by
 refine⟨So.app (So.app (List.pairwise_singleton ..) j.a λx hx y hy=>by rw[List.mem_singleton.mp hx];exact h y hy) j.o λx hx y hy=>?_,?_⟩
 ·rcases List.mem_append.mp hx with hx|hx
  ·exact j.ob x hx y hy
  ·exact j.oa x hx y hy
 ·refine List.Perm.trans ?_ j.p
  rw[<- List.append_assoc];exact List.Perm.append_right O List.perm_append_comm
end
theorem i9{a:Array Keyed}{n:Nat}{x:Keyed}(h1:1<=n)(h:a[n-1]?=some x):a.toList.take n=a.toList.take (n-1)++[x]:=by
 obtain⟨m,rfl⟩:∃m,n=m+1:=⟨n-1,by omega⟩
 rw[Nat.add_sub_cancel]at h ⊢;rw[List.take_add_one];have:a.toList[m]?=some x:=by simpa using h
 rw[this];rfl
theorem jK(a:Array Keyed)(n:Nat):(a.extract 0 n).toList=a.toList.take n:=by
 rw[Array.toList_extract];rfl
theorem kF(a:Array Keyed)(i n:Nat):(a.extract i n).toList=(a.toList.take n).drop i:=by
 rw[Array.toList_extract];show(a.toList.drop i).take (n-i)=_;rw[List.drop_take]
theorem sk(a:Array Keyed){i n:Nat}(h:i<=n):a.toList.take n=a.toList.take i++(a.toList.take n).drop i:=by
 have:=(List.take_append_drop i (a.toList.take n)).symm
 rwa [List.take_take,Nat.min_eq_left h]at this
theorem Ct{a:Array Keyed}{n:Nat}{x:Keyed}(h:x∈a.toList.take n):∃m,m<n/\m<a.size/\a[m]?=some x:=by
 obtain⟨m,hm,e⟩:=List.mem_iff_getElem.mp h;rw[List.length_take]at hm;rw[List.getElem_take]at e;have hs:m<a.size:=by have:a.toList.length=a.size:=rfl;omega
 exact⟨m,by omega,hs,by rw[Array.getElem?_eq_getElem hs];exact congrArg some (by simpa using e)⟩
theorem fF{a:Array Keyed}{i n:Nat}{x:Keyed}(h:x∈(a.toList.take n).drop i):∃m,i<=m/\m<n/\m<a.size/\a[m]?=some x:=by
 obtain⟨m,hm,e⟩:=List.mem_iff_getElem.mp h;rw[List.length_drop,List.length_take]at hm;rw[List.getElem_drop,List.getElem_take]at e;have hs:i+m<a.size:=by have:a.toList.length=a.size:=rfl;omega
 exact⟨i+m,by omega,by omega,hs,by rw[Array.getElem?_eq_getElem hs];exact congrArg some (by simpa using e)⟩
section
variable {M:Model}{Ar:Around}{E:Value->Shared->Prop}{s:Shared}{ρ:Keyed->Nat}{kd:SortKind}{P:Keyed->Prop}{a b out:Array Keyed}{L:List Keyed}{na nb:Nat}
theorem CH{key:Keyed}{arr:Array Keyed}{n:Nat}{st:SortSt}{Q:Option Nat->SortSt->Prop}(hL:fo M Ar E s ρ kd P)(hk:kindOf st=kd)(pk:P key)(pa:∀x∈arr.toList,P x)(hs:So ρ arr.toList)(hn:n<=arr.size)(h1:1<=n)
  (q:∀k,k<=n->(∀x∈arr.toList.take k,ρ x<=ρ key)->(∀x∈(arr.toList.take n).drop k,ρ key<ρ x)->Q (some k) st):wpS M Ar E s (ck false key arr 0 n (n-1)) Q st:=by
 refine dg (tells hL hk pk λi hi=>c5 pa ⋯) (λi j kA hj h=>?_) ⋯ λk oH h1 h2=>q k ⋯ (λx hx=>?_) λx hx=>?_
 ·have:=hs.seg (0+i) (0+j) (Nat.zero_le _) ⋯ ⋯
  simp only[m8,Bool.false_eq_true,if_false,Bool.not_eq_true',decide_eq_false_iff_not]at h ⊢;omega
 ·obtain⟨m,hm,ig,e⟩:=Ct hx
  have:=h1 m hm;simp only[m8,Bool.false_eq_true,if_false,Bool.not_eq_true',decide_eq_false_iff_not,Nat.zero_add,cX e]at this;omega
 ·obtain⟨m,hm,ig,ZV,e⟩:=fF hx
  have:=h2 m hm ig;simp only[m8,Bool.false_eq_true,if_false,Nat.zero_add,cX e,Bool.not_eq_false',decide_eq_true_eq]at this;exact this
theorem CG{key:Keyed}{arr:Array Keyed}{n:Nat}{st:SortSt}{Q:Option Nat->SortSt->Prop}(hL:fo M Ar E s ρ kd P)(hk:kindOf st=kd)(pk:P key)(pa:∀x∈arr.toList,P x)(hs:So ρ arr.toList)(hn:n<=arr.size)(h1:1<=n)
  (q:∀k,k<=n->(∀x∈arr.toList.take k,ρ x<ρ key)->(∀x∈(arr.toList.take n).drop k,ρ key<=ρ x)->Q (some k) st):wpS M Ar E s (ck true key arr 0 n (n-1)) Q st:=by
 refine dg (tells hL hk pk λi hi=>c5 pa ⋯) (λi j kA hj h=>?_) ⋯ λk oH h1 h2=>q k ⋯ (λx hx=>?_) λx hx=>?_
 ·have:=hs.seg (0+i) (0+j) (Nat.zero_le _) ⋯ ⋯
  simp only[m8,if_true,decide_eq_true_eq]at h ⊢;omega
 ·obtain⟨m,hm,ig,e⟩:=Ct hx
  have:=h1 m hm;simp only[m8,if_true,decide_eq_true_eq,Nat.zero_add,cX e]at this;omega
 ·obtain⟨m,hm,ig,ZV,e⟩:=fF hx
  have:=h2 m hm ig;simp only[m8,if_true,Nat.zero_add,cX e,decide_eq_false_iff_not]at this;omega
abbrev HS:=Option (Array Keyed)×Nat×Nat×Array Keyed×Nat×Nat×Nat
def DE(a b out:Array Keyed)(na nb g k k1:Nat):StateT SortSt Sem (ForInStep HS):=do
 let y <- elem' a (na-1)
 if(na-1==0)=true then pure (ForInStep.done (some (a.extract 0 (na-1)++b.extract 0 nb++(out.push y).reverse),na-1,nb,out.push y,g,k,k1))
 else if(decide (k<7)&&decide (k1<7))=true then pure (ForInStep.done (none,na-1,nb,out.push y,g,k,k1))
 else pure (ForInStep.yield (none,na-1,nb,out.push y,g,k,k1))
def DC(a b out:Array Keyed)(na nb g k bc:Nat):StateT SortSt Sem (ForInStep HS):=do
 let x <- elem' b (nb-1)
 if(nb-1==1)=true then pure (ForInStep.done (some (b.extract 0 (nb-1)++a.extract 0 na++(out.push x).reverse),na,nb-1,out.push x,g,k,bc))
 else do
  let y <- elem' a (na-1)
  let r <- ck true y b 0 (nb-1) (nb-1-1)
  match r with
  | some at2 =>
   if nb-1-at2>0 then
    if(at2==1)=true then pure (ForInStep.done (some (b.extract 0 at2++a.extract 0 na++(out.push x++(b.extract at2 (nb-1)).reverse).reverse),na,at2,out.push x++(b.extract at2 (nb-1)).reverse,g,k,nb-1-at2))
    else if(at2==0)=true then pure (ForInStep.done (some (a.extract 0 na++b.extract 0 at2++(out.push x++(b.extract at2 (nb-1)).reverse).reverse),na,at2,out.push x++(b.extract at2 (nb-1)).reverse,g,k,nb-1-at2))
    else DE a b (out.push x++(b.extract at2 (nb-1)).reverse) na at2 g k (nb-1-at2)
   else DE a b (out.push x) na (nb-1) g k (nb-1-at2)
  | _=>pure (ForInStep.done (some (a.extract 0 na++b.extract 0 (nb-1)++(out.push x).reverse),na,nb-1,out.push x,g,k,bc))
def Ad(a b out:Array Keyed)(na nb g ac bc:Nat):StateT SortSt Sem (ForInStep HS):=do
 let x <- elem' b (nb-1)
 let r <- ck false x a 0 na (na-1)
 match r with
 | some xN =>
  if na-xN>0 then
   if(xN==0)=true then pure (ForInStep.done (some (a.extract 0 xN++b.extract 0 nb++(out++(a.extract xN na).reverse).reverse),xN,nb,out++(a.extract xN na).reverse,g,na-xN,bc))
   else DC a b (out++(a.extract xN na).reverse) xN nb g (na-xN) bc
  else DC a b out na nb g (na-xN) bc
 | _=>pure (ForInStep.done (some (a.extract 0 na++b.extract 0 nb++out.reverse),na,nb,out,g,ac,bc))
def W(ρ:Keyed->Nat)(L:List Keyed)(a b out:Array Keyed)(na nb:Nat):Prop:=H ρ L out.toList.reverse (a.toList.take na) (b.toList.take nb)
theorem W.oC(j:W ρ L a b out na nb)(e:nb=1)(hb:1<=b.size)(hz:∀y∈a.toList,∀z,b[0]?=some z->ρ z<=ρ y):Good ρ L (b.extract 0 nb++a.extract 0 na++out.reverse).toList:=by
 subst e;have eb:b[0]?=some b[0]:=Array.getElem?_eq_getElem hb;have e1:b.toList.take 1=[b[0]]:=by rw[i9 (Nat.le_refl 1) eb];rfl
 have j':H ρ L out.toList.reverse (a.toList.take na) (b.toList.take 1):=j;rw[e1]at j';rw[Array.toList_append,Array.toList_append,jK,jK,e1,Array.toList_reverse];exact j'.first λy hy=>hz y (List.mem_of_mem_take hy) _ eb
theorem W.gu(j:W ρ L a b out na nb)(e:na=0):Good ρ L (a.extract 0 na++b.extract 0 nb++out.reverse).toList:=by
 subst e;have j':H ρ L out.toList.reverse [] (b.toList.take nb):=j;rw[Array.toList_append,Array.toList_append,jK,jK,Array.toList_reverse];exact j'.gu
theorem W.gv(j:W ρ L a b out na nb)(e:nb=0):Good ρ L (a.extract 0 na++b.extract 0 nb++out.reverse).toList:=by
 subst e;have j':H ρ L out.toList.reverse (a.toList.take na) []:=j;rw[Array.toList_append,Array.toList_append,jK,jK,Array.toList_reverse,List.take_zero,List.append_nil];exact j'.gv
theorem W.nF{x:Keyed}(j:W ρ L a b out na nb)(h1:1<=na)(e:a[na-1]?=some x)(h:∀y∈b.toList.take nb,ρ y<=ρ x):W ρ L a b (out.push x) (na-1) nb:=by
 have j':H ρ L out.toList.reverse (a.toList.take na) (b.toList.take nb):=j;rw[i9 h1 e]at j';show H ρ L (out.push x).toList.reverse _ _;rw[Array.toList_push,List.reverse_append];exact H.iq (X:=[x]) j' λz hz y hy=>by rw[List.mem_singleton.mp hz];exact h y hy
theorem W.nG{x:Keyed}(j:W ρ L a b out na nb)(h1:1<=nb)(e:b[nb-1]?=some x)(h:∀y∈a.toList.take na,ρ y<=ρ x):W ρ L a b (out.push x) na (nb-1):=by
 have j':H ρ L out.toList.reverse (a.toList.take na) (b.toList.take nb):=j;rw[i9 h1 e]at j';show H ρ L (out.push x).toList.reverse _ _;rw[Array.toList_push,List.reverse_append];exact H.iu (X:=[x]) j' λz hz y hy=>by rw[List.mem_singleton.mp hz];exact h y hy
theorem W.iq{k:Nat}(j:W ρ L a b out na nb)(hk:k<=na)(h:∀x∈(a.toList.take na).drop k,∀y∈b.toList.take nb,ρ y<=ρ x):W ρ L a b (out++(a.extract k na).reverse) k nb:=by
 have j':H ρ L out.toList.reverse (a.toList.take na) (b.toList.take nb):=j;rw[sk a hk]at j';show H ρ L (out++(a.extract k na).reverse).toList.reverse _ _;rw[Array.toList_append,List.reverse_append,Array.toList_reverse,List.reverse_reverse,kF];exact H.iq j' h
theorem W.iu{k:Nat}(j:W ρ L a b out na nb)(hk:k<=nb)(h:∀x∈(b.toList.take nb).drop k,∀y∈a.toList.take na,ρ y<=ρ x):W ρ L a b (out++(b.extract k nb).reverse) na k:=by
 have j':H ρ L out.toList.reverse (a.toList.take na) (b.toList.take nb):=j;rw[sk b hk]at j';show H ρ L (out++(b.extract k nb).reverse).toList.reverse _ _;rw[Array.toList_append,List.reverse_append,Array.toList_reverse,List.reverse_reverse,kF];exact H.iu j' h
theorem W.QH{x:Keyed}(j:W ρ L a b out na nb)(h1:1<=na)(e:a[na-1]?=some x):∀y∈a.toList.take na,ρ y<=ρ x:=λy hy=>by
 have:=j.a;rw[i9 h1 e]at this hy;rcases List.mem_append.mp hy with hy|hy
 ·exact(List.pairwise_append.mp this).2.2 y hy x (List.mem_singleton.mpr rfl)
 ·rw[List.mem_singleton.mp hy];exact Nat.le_refl _
theorem W.QI{x:Keyed}(j:W ρ L a b out na nb)(h1:1<=nb)(e:b[nb-1]?=some x):∀y∈b.toList.take nb,ρ y<=ρ x:=λy hy=>by
 have:=j.b;rw[i9 h1 e]at this hy;rcases List.mem_append.mp hy with hy|hy
 ·exact(List.pairwise_append.mp this).2.2 y hy x (List.mem_singleton.mpr rfl)
 ·rw[List.mem_singleton.mp hy];exact Nat.le_refl _
def dj(ρ:Keyed->Nat)(L:List Keyed)(a b:Array Keyed)(t:Nat)(out:Array Keyed)(na nb:Nat):Prop:=W ρ L a b out na nb/\1<=na/\2<=nb/\na<=a.size/\nb<=b.size/\na+nb+t<=a.size+b.size
def PH(ρ:Keyed->Nat)(L:List Keyed)(a b:Array Keyed)(t:Nat)(b7:SortSt)(r:ForInStep HS)(st:SortSt):Prop:=Kp b7 st/\match r with
 | .done c=>(∃arr,c.1=some arr/\Good ρ L arr.toList)\/(c.1=none/\dj ρ L a b t c.2.2.2.1 c.2.1 c.2.2.1)
 | .yield c=>c.1=none/\dj ρ L a b t c.2.2.2.1 c.2.1 c.2.2.1
theorem sD{st b7:SortSt}{g k k1 t:Nat}(T:sR ρ P a b)(hK:Kp b7 st)(j:W ρ L a b out na nb)(h1:1<=na)(h2:2<=nb)(h3:na<=a.size)(h4:nb<=b.size)(ht:na+nb+t<=a.size+b.size)
  (h:∀x,a[na-1]?=some x->∀y∈b.toList.take nb,ρ y<=ρ x):wpS M Ar E s (DE a b out na nb g k k1) (PH ρ L a b t b7) st:=by
 unfold DE;obtain⟨y,ey,py⟩:=c5 T.pa (show na-1<a.size by omega)
 refine wpS_bind (bh ey ?_);have j':=j.nF h1 ey (h y ey)
 by_cases e:na-1=0
 ·rw[if_pos (by simpa using e)]
  exact wpS_pure ⟨hK,.inl ⟨_,rfl,j'.gu e⟩⟩
 ·rw[if_neg (by simpa using e)]
  have lf:dj ρ L a b t (out.push y) (na-1) nb:=⟨j',by omega,h2,by omega,h4,by omega⟩
  split
  ·exact wpS_pure ⟨hK,.inr ⟨rfl,lf⟩⟩
  ·exact wpS_pure ⟨hK,rfl,lf⟩
theorem sC{st b7:SortSt}{g k bc t:Nat}(hL:fo M Ar E s ρ kd P)(hk:kindOf b7=kd)(T:sR ρ P a b)(hK:Kp b7 st)(j:W ρ L a b out na nb)(h1:1<=na)(h2:2<=nb)(h3:na<=a.size)(h4:nb<=b.size)(ht:na+nb+t<=a.size+b.size)
  (h:∀x,b[nb-1]?=some x->∀y∈a.toList.take na,ρ y<=ρ x):wpS M Ar E s (DC a b out na nb g k bc) (PH ρ L a b t b7) st:=by
 unfold DC;obtain⟨x,ex,px⟩:=c5 T.pb (show nb-1<b.size by omega)
 obtain⟨y,ey,py⟩:=c5 T.pa (show na-1<a.size by omega)
 refine wpS_bind (bh ex ?_);have j':=j.nG ⋯ ex (h x ex)
 by_cases e:nb-1=1
 ·rw[if_pos (by simpa using e)]
  exact wpS_pure ⟨hK,.inl ⟨_,rfl,j'.oC e T.b1 T.y⟩⟩
 ·rw[if_neg (by simpa using e)]
  refine wpS_bind (bh ey ?_);refine wpS_bind (CG hL (hK.k.trans hk) py T.pb T.sb ⋯ ⋯ λk1 oH q1 q2=>?_)
  dsimp only;have j2:=j'.iu oH λx hx z hz=>Nat.le_trans (j'.QH h1 ey z hz) (q2 x hx)
  by_cases vh:nb-1-k1>0
  ·rw[if_pos vh]
   by_cases e2:k1=1
   ·rw[if_pos (by simpa using e2)]
    exact wpS_pure ⟨hK,.inl ⟨_,rfl,j2.oC e2 T.b1 T.y⟩⟩
   ·rw[if_neg (by simpa using e2)]
    by_cases e3:k1=0
    ·rw[if_pos (by simpa using e3)]
     exact wpS_pure ⟨hK,.inl ⟨_,rfl,j2.gv e3⟩⟩
    ·rw[if_neg (by simpa using e3)]
     exact sD T hK j2 h1 ⋯ h3 ⋯ ⋯ λx' jU z hz=>by rw[ey]at jU;cases jU;exact Nat.le_of_lt (q1 z hz)
  ·rw[if_neg vh]
   have:k1=nb-1:=by omega
   subst this;exact sD T hK j' h1 ⋯ h3 ⋯ ⋯ λx' jU z hz=>by rw[ey]at jU;cases jU;exact Nat.le_of_lt (q1 z hz)
theorem CC{st b7:SortSt}{g ac bc t:Nat}(hL:fo M Ar E s ρ kd P)(hk:kindOf b7=kd)(T:sR ρ P a b)(hK:Kp b7 st)(j:dj ρ L a b t out na nb):wpS M Ar E s (Ad a b out na nb g ac bc) (PH ρ L a b t b7) st:=by
 obtain⟨j,h1,h2,h3,h4,ht⟩:=j;unfold Ad;obtain⟨x,ex,px⟩:=c5 T.pb (show nb-1<b.size by omega)
 refine wpS_bind (bh ex ?_);refine wpS_bind (CH hL (hK.k.trans hk) px T.pa T.sa h3 h1 λk oH q1 q2=>?_);dsimp only;have j2:=j.iq oH λz hz y hy=>Nat.le_trans (j.QI ⋯ ex y hy) (Nat.le_of_lt (q2 z hz))
 by_cases vh:na-k>0
 ·rw[if_pos vh]
  by_cases e:k=0
  ·rw[if_pos (by simpa using e)]
   exact wpS_pure ⟨hK,.inl ⟨_,rfl,j2.gu e⟩⟩
  ·rw[if_neg (by simpa using e)]
   exact sC hL hk T hK j2 ⋯ h2 ⋯ h4 ⋯ λx' jU z hz=>by rw[ex]at jU;cases jU;exact q1 z hz
 ·rw[if_neg vh]
  have:k=na:=by omega
  subst this;exact sC hL hk T hK j h1 h2 h3 h4 ht λx' jU z hz=>by rw[ex]at jU;cases jU;exact q1 z hz
abbrev HI:=Option (Array Keyed)×Nat×Nat×Array Keyed×Nat×Nat
abbrev HQ:=Option (Array Keyed)×Nat×Nat×Array Keyed×Nat
def Wf(a b:Array Keyed)(g:Nat)(c:HI):StateT SortSt Sem (ForInStep HI):=do
 let x <- elem' b (c.2.2.1-1)
 let y <- elem' a (c.2.1-1)
 let r <- lt' x y
 match r with
 | some w =>
  if w=true then do
   let y <- elem' a (c.2.1-1)
   if(c.2.1-1==0)=true then pure (ForInStep.done (some (a.extract 0 (c.2.1-1)++b.extract 0 c.2.2.1++(c.2.2.2.1.push y).reverse),c.2.1-1,c.2.2.1,c.2.2.2.1.push y,c.2.2.2.2.1+1,0))
   else if c.2.2.2.2.1+1>=g then pure (ForInStep.done (none,c.2.1-1,c.2.2.1,c.2.2.2.1.push y,c.2.2.2.2.1+1,0))
   else pure (ForInStep.yield (none,c.2.1-1,c.2.2.1,c.2.2.2.1.push y,c.2.2.2.2.1+1,0))
  else do
   let x <- elem' b (c.2.2.1-1)
   if(c.2.2.1-1==1)=true then pure (ForInStep.done (some (b.extract 0 (c.2.2.1-1)++a.extract 0 c.2.1++(c.2.2.2.1.push x).reverse),c.2.1,c.2.2.1-1,c.2.2.2.1.push x,0,c.2.2.2.2.2+1))
   else if c.2.2.2.2.2+1>=g then pure (ForInStep.done (none,c.2.1,c.2.2.1-1,c.2.2.2.1.push x,0,c.2.2.2.2.2+1))
   else pure (ForInStep.yield (none,c.2.1,c.2.2.1-1,c.2.2.2.1.push x,0,c.2.2.2.2.2+1))
 | _=>pure (ForInStep.done (some (a.extract 0 c.2.1++b.extract 0 c.2.2.1++c.2.2.2.1.reverse),c.2.1,c.2.2.1,c.2.2.2.1,c.2.2.2.2.1,c.2.2.2.2.2))
def Yr(a b:Array Keyed)(c:HS):StateT SortSt Sem (ForInStep HS):=
 if c.2.2.2.2.1>1 then do
  d5 (c.2.2.2.2.1-1)
  Ad a b c.2.2.2.1 c.2.1 c.2.2.1 (c.2.2.2.2.1-1) c.2.2.2.2.2.1 c.2.2.2.2.2.2
 else do
  d5 c.2.2.2.2.1
  Ad a b c.2.2.2.1 c.2.1 c.2.2.1 c.2.2.2.2.1 c.2.2.2.2.2.1 c.2.2.2.2.2.2
def Yq(r:HS):StateT SortSt Sem (ForInStep HQ):=
 match r.1 with
 | some arr=>pure (ForInStep.done (some arr,r.2.1,r.2.2.1,r.2.2.2.1,r.2.2.2.2.1))
 | none=>do
  d5 (r.2.2.2.2.1+1)
  pure (ForInStep.yield (none,r.2.1,r.2.2.1,r.2.2.2.1,r.2.2.2.2.1+1))
def Wg(a b:Array Keyed)(g:Nat)(r:HI):StateT SortSt Sem (ForInStep HQ):=
 match r.1 with
 | some arr=>pure (ForInStep.done (some arr,r.2.1,r.2.2.1,r.2.2.2.1,g))
 | none=>do
  liftM (rule "list.sort.gallop")
  let r2 <- forIn [0:a.size+b.size] ((none,r.2.1,r.2.2.1,r.2.2.2.1,g+1,r.2.2.2.2.1,r.2.2.2.2.2):HS) λ_ t=>Yr a b t
  Yq r2
def Wh(a b:Array Keyed)(c:HQ):StateT SortSt Sem (ForInStep HQ):=do
 let r <- forIn [0:a.size+b.size] ((none,c.2.1,c.2.2.1,c.2.2.2.1,0,0):HI) λ_ r=>Wf a b c.2.2.2.2 r
 Wg a b c.2.2.2.2 r
def ZM(r:HQ):StateT SortSt Sem (Array Keyed):=
 match r.1 with
 | some arr=>pure arr
 | none=>unsupported "internal:list.sort.merge-bound"
theorem oN(a b:Array Keyed):lh a b=(do
 liftM (rule "list.sort.merge-hi")
 let x <- elem' a (a.size-1)
 if(a.size-1==0)=true then pure (a.extract 0 (a.size-1)++b.extract 0 b.size++(#[x]:Array Keyed).reverse)
 else if(b.size==1)=true then pure (b.extract 0 b.size++a.extract 0 (a.size-1)++(#[x]:Array Keyed).reverse)
 else do
  let st <- get
  let r <- forIn [0:a.size+b.size] ((none,a.size-1,b.size,#[x],gallopOf st):HQ) λ_ r=>Wh a b r
  ZM r):=by kernel_rfl
theorem Fc{b7 st:SortSt}{g n m:Nat}{c:HI}(hL:fo M Ar E s ρ kd P)(hk:kindOf b7=kd)(T:sR ρ P a b)(hK:Kp b7 st)(j:dj ρ L a b (n+1+min m 1) c.2.2.2.1 c.2.1 c.2.2.1):
  wpS M Ar E s (Wf a b g c) (λr aB=>Kp b7 aB/\match r with
   | .done c=>(∃arr,c.1=some arr/\Good ρ L arr.toList)\/(c.1=none/\dj ρ L a b (n+1+1) c.2.2.2.1 c.2.1 c.2.2.1)
   | .yield c=>c.1=none/\dj ρ L a b (n+1+min (m+1) 1) c.2.2.2.1 c.2.1 c.2.2.1) st:=by
 obtain⟨ret,na,nb,out,ac,bc⟩:=c;obtain⟨j,l1,l2,l3,l4,l5⟩:=j;dsimp only at j l1 l2 l3 l4 l5;unfold Wf;dsimp only;obtain⟨x,ex,px⟩:=c5 T.pb (show nb-1<b.size by omega)
 obtain⟨y,ey,py⟩:=c5 T.pa (show na-1<a.size by omega)
 refine wpS_bind (bh ex (wpS_bind (bh ey (wpS_bind (hL x y st _ px py (hK.k.trans hk) ?_)))))
 by_cases gy:ρ x<ρ y
 ·rw[decide_eq_true gy]
  refine wpS_bind (bh ey ?_);have j':=j.nF l1 ey λz hz=>Nat.le_trans (j.QI ⋯ ex z hz) (Nat.le_of_lt gy)
  by_cases e:na-1=0
  ·rw[if_pos (by simpa using e)]
   exact wpS_pure ⟨hK,.inl ⟨_,rfl,j'.gu e⟩⟩
  ·rw[if_neg (by simpa using e)]
   split
   ·exact wpS_pure ⟨hK,.inr ⟨rfl,j',by show 1<=na-1;omega,l2,by show na-1<=a.size;omega,l4,by show na-1+nb+(n+1+1)<=_;omega⟩⟩
   ·exact wpS_pure ⟨hK,rfl,j',by show 1<=na-1;omega,l2,by show na-1<=a.size;omega,l4,by show na-1+nb+(n+1+min (m+1) 1)<=_;omega⟩
 ·rw[decide_eq_false gy]
  refine wpS_bind (bh ex ?_);have j':=j.nG ⋯ ex λz hz=>Nat.le_trans (j.QH l1 ey z hz) (Nat.not_lt.mp gy)
  by_cases e:nb-1=1
  ·rw[if_pos (by simpa using e)]
   exact wpS_pure ⟨hK,.inl ⟨_,rfl,j'.oC e T.b1 T.y⟩⟩
  ·rw[if_neg (by simpa using e)]
   split
   ·exact wpS_pure ⟨hK,.inr ⟨rfl,j',l1,by show 2<=nb-1;omega,l3,by show nb-1<=b.size;omega,by show na+(nb-1)+(n+1+1)<=_;omega⟩⟩
   ·exact wpS_pure ⟨hK,rfl,j',l1,by show 2<=nb-1;omega,l3,by show nb-1<=b.size;omega,by show na+(nb-1)+(n+1+min (m+1) 1)<=_;omega⟩
def XY(ρ:Keyed->Nat)(L:List Keyed)(a b:Array Keyed)(t:Nat)(b7:SortSt)(r:ForInStep HQ)(st:SortSt):Prop:=match r with
 | .done c=>Kp b7 st/\∃arr,c.1=some arr/\Good ρ L arr.toList
 | .yield c=>Kp b7 st/\c.1=none/\dj ρ L a b t c.2.2.2.1 c.2.1 c.2.2.1
theorem Fd{b7 st:SortSt}{g n:Nat}{r:HI}(hL:fo M Ar E s ρ kd P)(hk:kindOf b7=kd)(T:sR ρ P a b)(hK:Kp b7 st)
  (h:(∃arr,r.1=some arr/\Good ρ L arr.toList)\/(r.1=none/\dj ρ L a b (n+1+1) r.2.2.2.1 r.2.1 r.2.2.1)):wpS M Ar E s (Wg a b g r) (XY ρ L a b (n+1+1) b7) st:=by
 obtain⟨ret,r⟩:=r;unfold Wg;rcases h with⟨arr,h1,h2⟩|⟨h1,hl⟩
 ·dsimp only at h1
  subst h1;exact wpS_pure ⟨hK,arr,rfl,h2⟩
 ·dsimp only at h1 hl
  subst h1;refine wpS_bind (wpS_lift (wpAny_rule ⟨rfl,?_⟩));refine wpS_bind (wpS_mono (wpS_forRange (I:=λx c aB=>Kp b7 aB/\c.1=none/\dj ρ L a b (n+1+1) c.2.2.2.1 c.2.1 c.2.2.1)
   (Q:=λc aB=>Kp b7 aB/\((∃arr,c.1=some arr/\Good ρ L arr.toList)\/(c.1=none/\dj ρ L a b (n+1+1) c.2.2.2.1 c.2.1 c.2.2.1))) ?gstep ?gfin ⟨hK,rfl,hl⟩) ?gpost)
  case gfin =>
   rintro c aB ⟨hK,h1,hl⟩;exact⟨hK,.inr ⟨h1,hl⟩⟩
  case gstep =>
   rintro m c aB _ hm ⟨hK,h1,hl⟩;have go:∀g,wpS M Ar E s (do d5 g;Ad a b c.2.2.2.1 c.2.1 c.2.2.1 g c.2.2.2.2.2.1 c.2.2.2.2.2.2) (λr cZ=>match r with
     | .done c=>Kp b7 cZ/\((∃arr,c.1=some arr/\Good ρ L arr.toList)\/(c.1=none/\dj ρ L a b (n+1+1) c.2.2.2.1 c.2.1 c.2.2.1))
     | .yield c=>Kp b7 cZ/\c.1=none/\dj ρ L a b (n+1+1) c.2.2.2.1 c.2.1 c.2.2.1) aB:=λg=>by
    rw[dX];refine wpS_bind (wpS_modify (wpS_mono (CC hL hk T (hK.min g) hl) λr cZ hr=>?_));obtain⟨k1,k2⟩:=hr;cases r with
    | done c=>exact⟨k1,k2⟩
    | yield c=>exact⟨k1,k2⟩
   unfold Yr
   split
   ·refine wpS_mono (go _) λr cZ hr=>?_
    cases r<;>exact hr
   ·refine wpS_mono (go _) λr cZ hr=>?_
    cases r<;>exact hr
  case gpost =>
   rintro⟨ret,r⟩ aB ⟨hK,⟨arr,h1,h2⟩|⟨h1,hl⟩⟩
   ·dsimp only at h1
    subst h1;exact wpS_pure ⟨hK,arr,rfl,h2⟩
   ·dsimp only at h1 hl
    subst h1;unfold Yq;rw[dX];exact wpS_bind (wpS_modify (wpS_pure ⟨hK.min _,rfl,hl⟩))
theorem Fe{b7 st:SortSt}{n:Nat}{c:HQ}(hL:fo M Ar E s ρ kd P)(hk:kindOf b7=kd)(T:sR ρ P a b)(hn:0<a.size+b.size)(hK:Kp b7 st)(hl:dj ρ L a b (n+1) c.2.2.2.1 c.2.1 c.2.2.1):wpS M Ar E s (Wh a b c) (XY ρ L a b (n+1+1) b7) st:=by
 unfold Wh;refine wpS_bind (wpS_mono (wpS_forRange (I:=λx c aB=>Kp b7 aB/\c.1=none/\dj ρ L a b (n+1+min x 1) c.2.2.2.1 c.2.1 c.2.2.1)
  (Q:=λc aB=>Kp b7 aB/\((∃arr,c.1=some arr/\Good ρ L arr.toList)\/(c.1=none/\dj ρ L a b (n+1+1) c.2.2.2.1 c.2.1 c.2.2.1))) ?istep ?ifin ⟨hK,rfl,by simpa using hl⟩) ?ipost)
 case ifin =>
  rintro c aB ⟨hK,h1,hl⟩;rw[show min (max 0 (a.size+b.size)) 1=1 by omega]at hl
  exact⟨hK,.inr ⟨h1,hl⟩⟩
 case istep =>
  rintro m c aB _ hm ⟨hK,h1,hl⟩;refine wpS_mono (Fc hL hk T hK hl) λr cZ hr=>?_;obtain⟨k1,k2⟩:=hr;cases r with
  | done c=>exact⟨k1,k2⟩
  | yield c=>exact⟨k1,k2⟩
 case ipost =>
  rintro r aB ⟨hK,h⟩;exact Fd hL hk T hK h
theorem sJ{st:SortSt}{Q:Array Keyed->SortSt->Prop}(hL:fo M Ar E s ρ kd P)(hk:kindOf st=kd)(T:sR ρ P a b)
  (q:∀r aB,Kp st aB->Good ρ (a.toList++b.toList) r.toList->Q r aB):wpS M Ar E s (lh a b) Q st:=by
 rw[oN];have b1:=T.b1;have a1:=T.a1;refine wpS_bind (wpS_lift (wpAny_rule ⟨rfl,?_⟩));obtain⟨x,ex,px⟩:=c5 T.pa (show a.size-1<a.size by omega)
 refine wpS_bind (bh ex ?_);have j0:W ρ (a.toList++b.toList) a b #[] a.size b.size:=by
  have e1:a.toList.take a.size=a.toList:=List.take_of_length_le (Nat.le_refl _);have e2:b.toList.take b.size=b.toList:=List.take_of_length_le (Nat.le_refl _);unfold W;rw[e1,e2];exact⟨List.Pairwise.nil,T.sa,T.sb,(λx hx y hy=>by cases hy),(λx hx y hy=>by cases hy),by simp⟩
 have j1:W ρ (a.toList++b.toList) a b #[x] (a.size-1) b.size:=by simpa using j0.nF a1 ex λy hy=>T.z y (List.mem_of_mem_take hy) x ex
 by_cases e:a.size-1=0
 ·rw[if_pos (by simpa using e)]
  exact wpS_pure (q _ st .refl (by simpa using j1.gu e))
 ·rw[if_neg (by simpa using e)]
  by_cases e2:b.size=1
  ·rw[if_pos (by simpa using e2)]
   exact wpS_pure (q _ st .refl (by simpa using j1.oC e2 T.b1 T.y))
  ·rw[if_neg (by simpa using e2)]
   refine wpS_bind (wpS_get ?_);refine wpS_bind (wpS_mono (wpS_forRange (I:=λx c aB=>Kp st aB/\c.1=none/\dj ρ (a.toList++b.toList) a b (x+1) c.2.2.2.1 c.2.1 c.2.2.1)
    (Q:=λc aB=>Kp st aB/\∃arr,c.1=some arr/\Good ρ (a.toList++b.toList) arr.toList) ?step ?fin ⟨.refl,rfl,j1,by show 1<=a.size-1;omega,by show 2<=b.size;omega,by show a.size-1<=a.size;omega,by show b.size<=b.size;omega,by show a.size-1+b.size+(0+1)<=_;omega⟩) ?post)
   case fin =>
    rintro⟨ret,na,nb,out,g⟩ aB ⟨hK,h1,j,h2,h3,h4,h5,h6⟩;dsimp only at h2 h3 h4 h5 h6;omega
   case post =>
    rintro⟨ret,r⟩ aB ⟨hK,arr,h1,h2⟩;dsimp only at h1;subst h1;exact wpS_pure (q arr aB hK h2)
   case step =>
    rintro n c aB _ hn ⟨hK,h1,hl⟩;refine wpS_mono (Fe hL hk T ⋯ hK hl) λr cZ hr=>?_
    cases r with
    | done c=>exact hr
    | yield c=>exact hr
end
end Vs
namespace Vs
open PySem PyProof.Rows
abbrev Run:=Nat×Nat×Nat
theorem rm(i:Nat):mergeAt' i=(do
 let s <- get
 let (some (sa,na,power),some (sb,nb,_)):=((pendingOf s)[i]?,(pendingOf s)[i+1]?)|unsupported "internal:list.sort.pending"
 set (setPending s (((pendingOf s).setIfInBounds i (sa,na+nb,power)).eraseIdxIfInBounds (i+1)))
 let some k <- ck false (<- elem' (arrOf s) sb) (arrOf s) sa na 0|return false
 let (sa,na):=(sa+k,na-k)
 if na==0 then return true
 let some nb <- ck true (<- elem' (arrOf s) (sa+na-1)) (arrOf s) sb nb (nb-1)|return false
 if nb==0 then return true
 let x:=(arrOf s).extract sa sb
 let y:=(arrOf s).extract sb (sb+nb)
 let merged <- if na<=nb then lj x y else lh x y
 modify λs=>setArr s (merged.toList.zipIdx.foldl (λa (p,j)=>a.setIfInBounds (sa+j) p) (arrOf s))
 return(failedOf (<- get)).isNone):=rfl
def Ch(ρ:Keyed->Nat)(xs:Array Keyed):Nat->Nat->List Run->Prop
 | s,e,[]=>s=e
 | s,e,r::rs=>r.1=s/\1<=r.2.1/\Seg ρ xs s (s+r.2.1)/\Ch ρ xs (s+r.2.1) e rs
theorem Ch.app{ρ:Keyed->Nat}{xs:Array Keyed}:∀ {l m:List Run} {s e:Nat},Ch ρ xs s e (l++m) ↔ ∃t,Ch ρ xs s t l/\Ch ρ xs t e m
 | [],m,s,e=>⟨λh=>⟨s,rfl,h⟩,λ⟨t,h1,h2⟩=>by cases h1;exact h2⟩
 | r::l,m,s,e=>by
  constructor
  ·rintro⟨h1,h2,h3,h4⟩
   obtain⟨t,h5,h6⟩:=Ch.app.mp h4;exact⟨t,⟨h1,h2,h3,h5⟩,h6⟩
  ·rintro⟨t,⟨h1,h2,h3,h5⟩,h6⟩
   exact⟨h1,h2,h3,Ch.app.mpr ⟨t,h5,h6⟩⟩
theorem Ch.le{ρ:Keyed->Nat}{xs:Array Keyed}:∀ {l:List Run} {s e:Nat},Ch ρ xs s e l->s+l.length<=e
 | [],s,e,h=>by cases h;exact Nat.le_refl _
 | r::l,s,e,⟨_,h2,_,h4⟩=>by have:=Ch.le h4;simp only[List.length_cons];omega
theorem Seg.congr{ρ:Keyed->Nat}{xs ys:Array Keyed}{lo hi:Nat}(h:Seg ρ xs lo hi)(e:∀k,lo<=k->k<hi->ys[k]?=xs[k]?):Seg ρ ys lo hi:=λi j h1 h2 h3=>by
 rw[fK (e i h1 ⋯),fK (e j ⋯ h3)];exact h i j h1 h2 h3
theorem Ch.congr{ρ:Keyed->Nat}{xs ys:Array Keyed}:∀ {l:List Run} {s e:Nat},Ch ρ xs s e l->(∀k,s<=k->k<e->ys[k]?=xs[k]?)->Ch ρ ys s e l
 | [],s,e,h,_=>h
 | r::l,s,e,⟨h1,h2,h3,h4⟩,q=>by
  have:=Ch.le h4;exact⟨h1,h2,h3.congr λk a b=>q k a ⋯,Ch.congr h4 λk a b=>q k ⋯ b⟩
theorem oY(off:Nat):∀(m:List Keyed) (n:Nat) (xs:Array Keyed),off+n+m.length<=xs.size->∀k:Nat,
  ((m.zipIdx n).foldl (λa (p,j)=>a.setIfInBounds (off+j) p) xs)[k]?=(if off+n<=k/\k<off+n+m.length then m[k-(off+n)]? else xs[k]?)/\((m.zipIdx n).foldl (λa (p,j)=>a.setIfInBounds (off+j) p) xs).size=xs.size
 | [],n,xs,h,k=>⟨by rw[if_neg (by simp only[List.length_nil];omega)];rfl,rfl⟩
 | p::m,n,xs,h,k=>by
  simp only[List.length_cons]at h;rw[List.zipIdx_cons,List.foldl_cons];have ih:=oY off m (n+1) (xs.setIfInBounds (off+n) p) (by rw[Array.size_setIfInBounds];omega) k
  refine⟨?_,by rw[ih.2,Array.size_setIfInBounds]⟩
  rw[ih.1];simp only[List.length_cons]
  by_cases h1:off+(n+1)<=k/\k<off+(n+1)+m.length
  ·rw[if_pos h1,if_pos ⋯,show k-(off+n)=k-(off+(n+1))+1 by omega,List.getElem?_cons_succ]
  ·rw[if_neg h1]
   by_cases h2:k=off+n
   ·subst h2
    rw[if_pos ⋯,Nat.sub_self,List.getElem?_cons_zero,Array.getElem?_setIfInBounds_self_of_lt ⋯]
   ·rw[if_neg ⋯,Array.getElem?_setIfInBounds_ne ⋯]
theorem Bx{off:Nat}{m:List Keyed}{xs:Array Keyed}(h:off+m.length<=xs.size)(hp:m.Perm ((xs.toList.drop off).take m.length)):(m.zipIdx.foldl (λa (p,j)=>a.setIfInBounds (off+j) p) xs).Perm xs:=by
 rw[Array.perm_iff_toList_perm];have e:(m.zipIdx.foldl (λa (p,j)=>a.setIfInBounds (off+j) p) xs).toList=xs.toList.take off++(m++xs.toList.drop (off+m.length)):=by
  apply List.ext_getElem?;intro k;have:=(oY off m 0 xs (by simpa using h) k).1
  rw[Nat.add_zero]at this;rw[Array.getElem?_toList,this];have hl:(xs.toList.take off).length=off:=by rw[List.length_take];have:xs.toList.length=xs.size:=rfl;omega
  by_cases h1:k<off
  ·rw[if_neg ⋯,List.getElem?_append_left ⋯,List.getElem?_take_of_lt h1,Array.getElem?_toList]
  ·rw[List.getElem?_append_right ⋯,hl]
   by_cases h2:k<off+m.length
   ·rw[if_pos ⋯,List.getElem?_append_left ⋯]
   ·rw[if_neg ⋯,List.getElem?_append_right ⋯,List.getElem?_drop,show off+m.length+(k-off-m.length)=k by omega,Array.getElem?_toList]
 rw[e];have e2:xs.toList=xs.toList.take off++((xs.toList.drop off).take m.length++xs.toList.drop (off+m.length)):=by
  rw[<- List.drop_drop,List.take_append_drop,List.take_append_drop]
 exact(List.Perm.append_left _ (List.Perm.append_right _ hp)).trans (by rw[<- e2])
theorem lY{ρ:Keyed->Nat}{xs:Array Keyed}{i j:Nat}(h:Seg ρ xs i j)(hj:j<=xs.size):So ρ (xs.extract i j).toList:=by
 refine List.pairwise_iff_getElem.mpr λp q hp hq hpq=>?_;rw[kF,List.length_drop,List.length_take]at hq;have hs:xs.toList.length=xs.size:=rfl;have:=h (i+p) (i+q) ⋯ ⋯ ⋯
 have e1:xs[i+p]?=some ((xs.extract i j).toList[p]):=by
  rw[Array.getElem?_eq_getElem ⋯];simp
 have e2:xs[i+q]?=some ((xs.extract i j).toList[q]):=by
  rw[Array.getElem?_eq_getElem ⋯];simp
 rw[cX e1,cX e2]at this;exact this
theorem zM{xs:Array Keyed}{i j m:Nat}(h:i+m<j)(hj:j<=xs.size):(xs.extract i j)[m]?=xs[i+m]?:=by
 rw[Array.getElem?_extract];rw[if_pos ⋯]
theorem gL{xs:Array Keyed}{i j:Nat}{x:Keyed}(h:x∈(xs.extract i j).toList):∃m,i<=m/\m<j/\m<xs.size/\xs[m]?=some x:=by
 rw[kF]at h;exact fF h
section
variable {M:Model}{Ar:Around}{E:Value->Shared->Prop}{s:Shared}{ρ:Keyed->Nat}{kd:SortKind}{P:Keyed->Prop}{a₀:Array Keyed}
theorem Fb{key:Keyed}{arr:Array Keyed}{base n hint:Nat}{st:SortSt}{Q:Option Nat->SortSt->Prop}(hL:fo M Ar E s ρ kd P)(hk:kindOf st=kd)(pk:P key)(pa:∀i,i<n->∃x,arr[base+i]?=some x/\P x)(hs:Seg ρ arr base (base+n))(hn:hint<n)
  (q:∀k,k<=n->(∀i,base<=i->i<base+k->R ρ arr i<=ρ key)->(∀i,base+k<=i->i<base+n->ρ key<R ρ arr i)->Q (some k) st):wpS M Ar E s (ck false key arr base n hint) Q st:=by
 refine dg (tells hL hk pk pa) (λi j kA hj h=>?_) hn λk oH h1 h2=>q k oH (λi hi DK=>?_) λi hi DK=>?_
 ·have:=hs (base+i) (base+j) ⋯ ⋯ ⋯
  simp only[m8,Bool.false_eq_true,if_false,Bool.not_eq_true',decide_eq_false_iff_not]at h ⊢;omega
 ·have:=h1 (i-base) ⋯
  simp only[m8,Bool.false_eq_true,if_false,Bool.not_eq_true',decide_eq_false_iff_not,show base+(i-base)=i by omega]at this
  omega
 ·have:=h2 (i-base) ⋯ ⋯
  simp only[m8,Bool.false_eq_true,if_false,show base+(i-base)=i by omega,Bool.not_eq_false',decide_eq_true_eq]at this
  exact this
theorem E9{key:Keyed}{arr:Array Keyed}{base n hint:Nat}{st:SortSt}{Q:Option Nat->SortSt->Prop}(hL:fo M Ar E s ρ kd P)(hk:kindOf st=kd)(pk:P key)(pa:∀i,i<n->∃x,arr[base+i]?=some x/\P x)(hs:Seg ρ arr base (base+n))(hn:hint<n)
  (q:∀k,k<=n->(∀i,base<=i->i<base+k->R ρ arr i<ρ key)->(∀i,base+k<=i->i<base+n->ρ key<=R ρ arr i)->Q (some k) st):wpS M Ar E s (ck true key arr base n hint) Q st:=by
 refine dg (tells hL hk pk pa) (λi j kA hj h=>?_) hn λk oH h1 h2=>q k oH (λi hi DK=>?_) λi hi DK=>?_
 ·have:=hs (base+i) (base+j) ⋯ ⋯ ⋯
  simp only[m8,if_true,decide_eq_true_eq]at h ⊢;omega
 ·have:=h1 (i-base) ⋯
  simp only[m8,if_true,decide_eq_true_eq,show base+(i-base)=i by omega]at this
  exact this
 ·have:=h2 (i-base) ⋯ ⋯
  simp only[m8,if_true,show base+(i-base)=i by omega,decide_eq_false_iff_not]at this
  omega
theorem Fl{st aB:SortSt}{Q:PUnit->SortSt->Prop}(h:Q ⟨⟩ aB):wpS M Ar E s (set aB:StateT SortSt Sem PUnit) Q st:=by
 unfold wpS;rw[StateT.run_set];exact wpAny_pure ⟨rfl,h⟩
theorem N9{l:List Run}{i:Nat}(h:i+1<l.length):∃pre x y post,l=pre++x::y::post/\pre.length=i:=by
 refine⟨l.take i,l[i],l[i+1],l.drop (i+2),?_,by rw[List.length_take];omega⟩
 have e:=(List.take_append_drop i l).symm;rw[List.drop_eq_getElem_cons ⋯,List.drop_eq_getElem_cons h]at e
 exact e
theorem j9{st:SortSt}{i lo:Nat}{Q:Bool->SortSt->Prop}(hL:fo M Ar E s ρ kd P)(h0:∀p∈a₀.toList,P p)(hB:SI kd a₀ st)(vm:lo<=a₀.size)(hc:Ch ρ (arrOf st) 0 lo (pendingOf st).toList)(hi:i+1<(pendingOf st).size)
  (q:∀aB,SI kd a₀ aB->Ch ρ (arrOf aB) 0 lo (pendingOf aB).toList->(pendingOf aB).size+1=(pendingOf st).size->(∀k,lo<=k->(arrOf aB)[k]?=(arrOf st)[k]?)->Q true aB):wpS M Ar E s (mergeAt' i) Q st:=by
 rw[rm];refine wpS_bind (wpS_get ?_);obtain⟨pre,⟨sa,na,pw⟩,⟨sb,nb,Y4⟩,post,el,jc⟩:=N9 (l:=(pendingOf st).toList) (i:=i) (by simpa using hi)
 have e1:(pendingOf st)[i]?=some (sa,na,pw):=by
  rw[<- Array.getElem?_toList,el,List.getElem?_append_right ⋯,jc,Nat.sub_self];rfl
 have e2:(pendingOf st)[i+1]?=some (sb,nb,Y4):=by
  rw[<- Array.getElem?_toList,el,List.getElem?_append_right ⋯,jc,Nat.add_sub_cancel_left];rfl
 have AB:(((pendingOf st).setIfInBounds i (sa,na+nb,pw)).eraseIdxIfInBounds (i+1)).toList=pre++(sa,na+nb,pw)::post:=by
  have hs:i+1<((pendingOf st).setIfInBounds i (sa,na+nb,pw)).size:=by rw[Array.size_setIfInBounds];exact hi
  rw[Array.eraseIdxIfInBounds,dif_pos hs,Array.toList_eraseIdx,Array.toList_setIfInBounds,el,<- jc];rw[List.set_append_right _ _ (Nat.le_refl _),Nat.sub_self,List.set_cons_zero,List.eraseIdx_append_of_length_le (Nat.le_succ _),show pre.length.succ-pre.length=1 by omega]
  rfl
 have RF:(((pendingOf st).setIfInBounds i (sa,na+nb,pw)).eraseIdxIfInBounds (i+1)).size+1=(pendingOf st).size:=by
  have a1:(((pendingOf st).setIfInBounds i (sa,na+nb,pw)).eraseIdxIfInBounds (i+1)).toList.length=(pre++(sa,na+nb,pw)::post).length:=by rw[AB]
  have a2:(pendingOf st).toList.length=(pre++(sa,na,pw)::(sb,nb,Y4)::post).length:=by rw[el]
  simp only[List.length_append,List.length_cons,Array.length_toList]at a1 a2;omega
 rw[e1,e2];dsimp only;refine wpS_bind (Fl ?_);rw[el]at hc;obtain⟨t,c1,⟨rfl,c3,c4,rfl,c6,c7,c8⟩⟩:=Ch.app.mp hc;dsimp only at c1 c3 c4 c6 c7 c8 AB e1 e2 RF ⊢;have hle:=Ch.le c8;have hsz:=hB.size;have Pz:∀k,k<a₀.size->∃x,(arrOf st)[k]?=some x/\P x:=λk hk=>hB.at h0 hk;obtain⟨b0,eb,pb⟩:=Pz (sa+na) ⋯
 refine wpS_bind (bh eb ?_);refine wpS_bind (Fb hL hB.kind pb (λi hi=>Pz _ ⋯) c4 ⋯ λk hk g1 g2=>?_)
 dsimp only
 -- the whole of both,from what becomes of the array
 have fin:∀(ys:Array Keyed) (aB:SortSt),arrOf aB=ys->pendingOf aB=((pendingOf st).setIfInBounds i (sa,na+nb,pw)).eraseIdxIfInBounds (i+1)->kindOf aB=kd->failedOf aB=none->ys.Perm (arrOf st) ->
   (∀k,k<sa\/sa+na+nb<=k->ys[k]?=(arrOf st)[k]?)->Seg ρ ys sa (sa+na+nb)->Q true aB:=λys aB h1 h2 h3 h4 h5 h6 h7=>by
  refine q aB ⟨by rw[h1];exact h5.trans hB.perm,h3,h4⟩ ?_ (by rw[h2];exact RF) (λk hk=>by rw[h1];exact h6 k (.inr ⋯))
  rw[h1,h2,AB];refine Ch.app.mpr ⟨sa,c1.congr λk _ hk=>h6 k (.inl hk),rfl,?_,?_,?_⟩
  ·show 1<=na+nb;omega
  ·show Seg ρ ys sa (sa+(na+nb));rw[<- Nat.add_assoc];exact h7
  ·show Ch ρ ys (sa+(na+nb)) lo post
   rw[<- Nat.add_assoc];exact c8.congr λk hk _=>h6 k (.inr hk)
 have rb0:R ρ (arrOf st) (sa+na)=ρ b0:=cX eb
 by_cases vh:na-k=0
 ·rw[if_pos (by simpa using vh)]
  refine wpS_pure (fin (arrOf st) _ rfl rfl hB.kind hB.failed (Array.Perm.refl _) (λ_ _=>rfl) λi j h1 h2 h3=>?_)
  by_cases hj:j<sa+na
  ·exact c4 i j h1 h2 hj
  ·by_cases tS:i<sa+na
   ·have:=g1 i h1 ⋯
    have:=c7 (sa+na) j ⋯ ⋯ h3
    omega
   ·exact c7 i j ⋯ h2 h3
 ·rw[if_neg (by simpa using vh)]
  obtain⟨al,ea,pa⟩:=Pz (sa+k+(na-k)-1) ⋯
  have ral:R ρ (arrOf st) (sa+na-1)=ρ al:=by rw[show sa+na-1=sa+k+(na-k)-1 by omega];exact cX ea
  refine wpS_bind (bh ea ?_);refine wpS_bind (E9 hL hB.kind pa (λi hi=>Pz _ ⋯) c7 ⋯ λk2 Yw g3 g4=>?_)
  dsimp only
  by_cases Rt:k2=0
  ·subst Rt
   rw[if_pos (by simp)]
   refine wpS_pure (fin (arrOf st) _ rfl rfl hB.kind hB.failed (Array.Perm.refl _) (λ_ _=>rfl) λi j h1 h2 h3=>?_)
   by_cases hj:j<sa+na
   ·exact c4 i j h1 h2 hj
   ·by_cases tS:i<sa+na
    ·have:=g4 j ⋯ h3
     have:=c4 i (sa+na-1) h1 ⋯ ⋯
     omega
    ·exact c7 i j ⋯ h2 h3
  ·rw[if_neg (by simpa using Rt)]
   have X8:∀i j,j<=a₀.size->∀x∈((arrOf st).extract i j).toList,P x:=λi j hj x hx=>by
    obtain⟨m,m1,m2,m3,m4⟩:=gL hx;obtain⟨y,ey,py⟩:=Pz m ⋯
    rw[m4]at ey;cases ey;exact py
   have zx:((arrOf st).extract (sa+k) (sa+na)).size=na-k:=by rw[Array.size_extract];omega
   have zy:((arrOf st).extract (sa+na) (sa+na+k2)).size=k2:=by rw[Array.size_extract];omega
   have T:sR ρ P ((arrOf st).extract (sa+k) (sa+na)) ((arrOf st).extract (sa+na) (sa+na+k2)):=
    ⟨X8 _ _ ⋯,X8 _ _ ⋯,lY (λi j h1 h2 h3=>c4 i j ⋯ h2 h3) ⋯,lY (λi j h1 h2 h3=>c7 i j h1 h2 ⋯) ⋯,by omega,by omega,
     λy hy z hz=>by
      obtain⟨m,m1,m2,m3,m4⟩:=gL hy;rw[zx,zM ⋯ ⋯,show sa+k+(na-k-1)=sa+k+(na-k)-1 by omega,ea]at hz
      cases hz;have:=g3 m m1 m2;rw[cX m4]at this;omega,
     λy hy z hz=>by
      obtain⟨m,m1,m2,m3,m4⟩:=gL hy;rw[zM ⋯ ⋯,Nat.add_zero,eb]at hz
      cases hz;have:=g2 m m1 m2;rw[cX m4]at this;omega⟩
   have done:∀(r:Array Keyed) (aB:SortSt),Kp (setPending st (((pendingOf st).setIfInBounds i (sa,na+nb,pw)).eraseIdxIfInBounds (i+1))) aB->Good ρ (((arrOf st).extract (sa+k) (sa+na)).toList++((arrOf st).extract (sa+na) (sa+na+k2)).toList) r.toList ->
     wpS M Ar E s (do
      modify λs=>setArr s (r.toList.zipIdx.foldl (λa (p,j)=>a.setIfInBounds (sa+k+j) p) (arrOf s))
      let x <- get
      pure (failedOf x).isNone) Q aB:=λr aB hK hG=>by
    refine wpS_bind (wpS_modify (wpS_bind (wpS_get (wpS_pure ?_))));have ka:arrOf aB=arrOf st:=hK.a;have kp:pendingOf aB=_:=hK.p;have kf:failedOf aB=none:=hK.f.trans hB.failed;have kk:kindOf aB=kd:=hK.k.trans hB.kind;show Q (failedOf aB).isNone _;rw[kf];have hlen:r.toList.length=na-k+k2:=by
     have:=hG.2.length_eq;simp only[List.length_append,Array.length_toList,zx,zy]at this ⊢;exact this
    have Yg:sa+k+r.toList.length<=(arrOf st).size:=by omega
    have get:=λm=>(oY (sa+k) r.toList 0 (arrOf st) (by simpa using Yg) m).1
    simp only[Nat.add_zero]at get;have hX:((arrOf st).extract (sa+k) (sa+na)).toList++((arrOf st).extract (sa+na) (sa+na+k2)).toList=((arrOf st).toList.drop (sa+k)).take r.toList.length:=by
     rw[hlen,List.take_add,List.drop_drop,show sa+k+(na-k)=sa+na by omega]
     rw[show sa+na=sa+k+(na-k)by omega,kG,show sa+k+(na-k)=sa+na by omega,kG]
    refine fin _ _ (by show _=r.toList.zipIdx.foldl _ (arrOf st);rw[ka]) kp kk kf (Bx Yg (by rw[<- hX];exact hG.2)) (λm hm=>by rw[get m,if_neg ⋯]) ?_
    have ry:∀m,¬(sa+k<=m/\m<sa+k+r.toList.length)->R ρ (r.toList.zipIdx.foldl (λa (p,j)=>a.setIfInBounds (sa+k+j) p) (arrOf st)) m=R ρ (arrOf st) m:=λm hm=>fK (by rw[get m,if_neg hm])
    have rz:∀m (h:m-(sa+k)<r.toList.length),sa+k<=m->R ρ (r.toList.zipIdx.foldl (λa (p,j)=>a.setIfInBounds (sa+k+j) p) (arrOf st)) m=ρ (r.toList[m-(sa+k)]):=λm h hm=>by
     refine cX ?_;rw[get m,if_pos ⋯,List.getElem?_eq_getElem h]
    have low:∀z∈r.toList,∀i,sa<=i->i<sa+k->R ρ (arrOf st) i<=ρ z:=λz hz i i1 i2=>by
     rcases List.mem_append.mp (hG.2.mem_iff.mp hz)with hz|hz
     ·obtain⟨m,m1,m2,m3,m4⟩:=gL hz
      rw[<- cX (ρ:=ρ) m4];exact c4 i m i1 ⋯ m2
     ·obtain⟨m,m1,m2,m3,m4⟩:=gL hz
      have:=g1 i i1 i2;have:=c7 (sa+na) m ⋯ m1 ⋯
      rw[<- cX (ρ:=ρ) m4];omega
    have high:∀z∈r.toList,∀j,sa+na+k2<=j->j<sa+na+nb->ρ z<=R ρ (arrOf st) j:=λz hz j j1 j2=>by
     rcases List.mem_append.mp (hG.2.mem_iff.mp hz)with hz|hz
     ·obtain⟨m,m1,m2,m3,m4⟩:=gL hz
      have:=g4 j j1 j2;have:=c4 m (sa+na-1) ⋯ ⋯ ⋯
      rw[<- cX (ρ:=ρ) m4];omega
     ·obtain⟨m,m1,m2,m3,m4⟩:=gL hz
      rw[<- cX (ρ:=ρ) m4];exact c7 m j m1 ⋯ j2
    intro i j h1 h2 h3
    by_cases i1:i<sa+k
    ·rw[ry i ⋯]
     by_cases j1:j<sa+k
     ·rw[ry j ⋯];exact c4 i j h1 h2 ⋯
     ·by_cases j2:j<sa+k+r.toList.length
      ·rw[rz j ⋯ ⋯];exact low _ (List.getElem_mem _) i h1 i1
      ·rw[ry j ⋯]
       have:=g1 i h1 i1;have:=c7 (sa+na) j ⋯ ⋯ h3
       omega
    ·by_cases i2:i<sa+k+r.toList.length
     ·rw[rz i ⋯ ⋯]
      by_cases j2:j<sa+k+r.toList.length
      ·rw[rz j ⋯ ⋯]
       by_cases e:i=j
       ·subst e;exact Nat.le_refl _
       ·exact List.pairwise_iff_getElem.mp hG.1 _ _ ⋯ ⋯ ⋯
      ·rw[ry j ⋯];exact high _ (List.getElem_mem _) j ⋯ h3
     ·rw[ry i ⋯,ry j ⋯];exact c7 i j ⋯ h2 h3
   by_cases Ry:na-k<=k2
   ·rw[if_pos Ry]
    exact wpS_bind (sL hL hB.kind T done)
   ·rw[if_neg Ry]
    exact wpS_bind (sJ hL hB.kind T done)
end
end Vs
namespace Vs
open PySem PyProof.Rows
theorem Ch.modify{ρ:Keyed->Nat}{xs:Array Keyed}{f:Run->Run}(hf:∀r,(f r).1=r.1/\(f r).2.1=r.2.1):∀(l:List Run) (i s e:Nat),Ch ρ xs s e l->Ch ρ xs s e (l.modify i f)
 | [],i,s,e,h=>by rw[List.modify_nil];exact h
 | r::l,0,s,e,⟨h1,h2,h3,h4⟩=>by
  rw[List.modify_zero_cons];exact⟨(hf r).1.trans h1,by rw[(hf r).2];exact h2,by rw[(hf r).2];exact h3,by rw[(hf r).2];exact h4⟩
 | r::l,i+1,s,e,⟨h1,h2,h3,h4⟩=>by
  rw[List.modify_succ_cons];exact⟨h1,h2,h3,Ch.modify hf l i _ _ h4⟩
section
variable {M:Model}{Ar:Around}{E:Value->Shared->Prop}{s:Shared}{ρ:Keyed->Nat}{kd:SortKind}{P:Keyed->Prop}{a₀:Array Keyed}
theorem SI.vP{st:SortSt}(h:SI kd a₀ st)(p:Array Run):SI kd a₀ (setPending st p):=⟨h.perm,h.kind,h.failed⟩
def iw(lo n:Nat):StateT SortSt Sem (ForInStep (Option Unit×Nat)):=do
 modify λs=>setPending s ((pendingOf s).push (lo,n,0))
 pure (ForInStep.yield (none,lo+n))
def fP(size pw:Nat):StateT SortSt Sem (Option Unit×Unit):=
 forIn [:size] ((none,()):Option Unit×Unit) λ_ _=>do
  let x <- get
  match(if(pendingOf x).size>1 then(pendingOf x)[(pendingOf x).size-2]? else none)with
  | some (_,_,SY) =>
   if SY<=pw then pure (ForInStep.done (none,()))
   else do
    let r <- mergeAt' ((pendingOf x).size-2)
    if(!r)=true then pure (ForInStep.done (some (),()))else pure (ForInStep.yield (none,()))
  | _=>pure (ForInStep.done (none,()))
def fV(size lo n:Nat):StateT SortSt Sem (ForInStep (Option Unit×Nat)):=do
 let x <- get
 match(pendingOf x).back? with
 | some (s1,n1,_)=>do
  let r <- fP size (power' size (2*s1+n1) (2*s1+n1+n1+n) size)
  match r.fst with
  | some r=>pure (ForInStep.done (some r,lo))
  | none=>do
   modify λs=>setPending s ((pendingOf s).modify ((pendingOf s).size-1) λx=>(x.fst,x.2.fst,power' size (2*s1+n1) (2*s1+n1+n1+n) size))
   iw lo n
 | _=>iw lo n
theorem kc{st:SortSt}{lo n:Nat}{Q:ForInStep (Option Unit×Nat)->SortSt->Prop}(hB:SI kd a₀ st)(hc:Ch ρ (arrOf st) 0 lo (pendingOf st).toList)(hn:1<=n)(hs:Seg ρ (arrOf st) lo (lo+n))
  (q:∀aB,SI kd a₀ aB->Ch ρ (arrOf aB) 0 (lo+n) (pendingOf aB).toList->Q (.yield (none,lo+n)) aB):wpS M Ar E s (iw lo n) Q st:=by
 unfold iw;refine wpS_bind (wpS_modify (wpS_pure (q _ (hB.vP _) ?_)));show Ch ρ (arrOf st) 0 (lo+n) ((pendingOf st).push (lo,n,0)).toList;rw[Array.toList_push];exact Ch.app.mpr ⟨lo,hc,rfl,hn,hs,rfl⟩
theorem mU{st:SortSt}{pw lo n:Nat}{Q:Option Unit×Unit->SortSt->Prop}(hL:fo M Ar E s ρ kd P)(h0:∀p∈a₀.toList,P p)(hB:SI kd a₀ st)(vm:lo<=a₀.size)(hc:Ch ρ (arrOf st) 0 lo (pendingOf st).toList)(hs:Seg ρ (arrOf st) lo (lo+n))
  (q:∀aB,SI kd a₀ aB->Ch ρ (arrOf aB) 0 lo (pendingOf aB).toList->Seg ρ (arrOf aB) lo (lo+n)->Q (none,()) aB):wpS M Ar E s (fP a₀.size pw) Q st:=by
 unfold fP;refine wpS_forRange (I:=λx c aB=>c=(none,())/\SI kd a₀ aB/\Ch ρ (arrOf aB) 0 lo (pendingOf aB).toList/\Seg ρ (arrOf aB) lo (lo+n)) ?step ?fin ⟨rfl,hB,hc,hs⟩
 case fin =>
  rintro c aB ⟨rfl,h1,h2,h3⟩;exact q aB h1 h2 h3
 case step =>
  rintro x c aB _ hx ⟨rfl,h1,h2,h3⟩;refine wpS_bind (wpS_get ?_)
  by_cases hz:(pendingOf aB).size>1
  ·rw[if_pos hz]
   have e:(pendingOf aB)[(pendingOf aB).size-2]?=some (pendingOf aB)[(pendingOf aB).size-2]:=Array.getElem?_eq_getElem ⋯
   rw[e];dsimp only
   split
   ·exact wpS_pure (q aB h1 h2 h3)
   ·refine wpS_bind (j9 hL h0 h1 vm h2 ⋯ λxC b1 b2 b3 b4=>?_)
    simp only[Bool.not_true,Bool.false_eq_true,if_false];exact wpS_pure ⟨rfl,b1,b2,h3.congr λk hk _=>b4 k hk⟩
  ·rw[if_neg hz]
   exact wpS_pure (q aB h1 h2 h3)
theorem sM{st:SortSt}{lo n:Nat}{Q:ForInStep (Option Unit×Nat)->SortSt->Prop}(hL:fo M Ar E s ρ kd P)(h0:∀p∈a₀.toList,P p)(hB:SI kd a₀ st)(vm:lo<=a₀.size)(hc:Ch ρ (arrOf st) 0 lo (pendingOf st).toList)(hn:1<=n)(hs:Seg ρ (arrOf st) lo (lo+n))
  (q:∀aB,SI kd a₀ aB->Ch ρ (arrOf aB) 0 (lo+n) (pendingOf aB).toList->Q (.yield (none,lo+n)) aB):wpS M Ar E s (fV a₀.size lo n) Q st:=by
 unfold fV;refine wpS_bind (wpS_get ?_)
 split
 ·refine wpS_bind (mU hL h0 hB vm hc hs λaB b1 b2 b3=>?_)
  dsimp only;refine wpS_bind (wpS_modify (kc (b1.vP _) ?_ hn b3 q));show Ch ρ (arrOf aB) 0 lo ((pendingOf aB).modify _ _).toList;rw[Array.toList_modify];refine Ch.modify ?_ _ _ _ _ b2;intro r;exact⟨rfl,rfl⟩
 ·exact kc hB hc hn hs q
theorem JP(c:Prop)[Decidable c]{n:Nat}(h:2<=n):(if c then n-2-1 else n-2)+1<n:=by split<;>omega
local macro_rules|`(tactic| walk_at "s_rest")=>`(tactic| (unfold fV fP iw;congr 1;funext x;cases e:(pendingOf x).back? with
  | none=>rfl
  | some y=>(obtain⟨s1,n1,p1⟩:=y;dsimp only;congr 1;funext r;obtain⟨r1,r2⟩:=r;cases r1<;>rfl)))
theorem wpS_sortRuns{st:SortSt}{Q:Unit->SortSt->Prop}(hL:fo M Ar E s ρ kd P)(h0:∀p∈a₀.toList,P p)(hB:SI kd a₀ st)(hp:pendingOf st=#[])(h2:2<=a₀.size)
  (h:∀aB,SI kd a₀ aB->Seg ρ (arrOf aB) 0 a₀.size->Q () aB):wpS M Ar E s sortRuns' Q st:=by
 rw[sortRuns'_eq];refine wpS_bind (wpS_get ?_);dsimp only;rw[hB.size];generalize minRun' a₀.size a₀.size 0=mr;refine wpS_bind (wpS_mono (wpS_forRange (I:=λx c aB=>SI kd a₀ aB/\∃lo,c=(none,lo)/\lo<=a₀.size/\(x<=lo\/lo=a₀.size)/\Ch ρ (arrOf aB) 0 lo (pendingOf aB).toList)
  (Q:=λc aB=>SI kd a₀ aB/\c=(none,a₀.size)/\Ch ρ (arrOf aB) 0 a₀.size (pendingOf aB).toList) ?step ?fin ⟨hB,0,rfl,Nat.zero_le _,.inl (Nat.le_refl _),by rw[hp];rfl⟩) ?post)
 case fin =>
  rintro c aB ⟨gN,lo,rfl,l1,l2,hc⟩;have:lo=a₀.size:=by omega
  subst this;exact⟨gN,rfl,hc⟩
 case step =>
  rintro x c aB _ hx ⟨gN,lo,rfl,l1,l2,hc⟩;dsimp only
  by_cases sU:lo>=a₀.size
  ·rw[if_pos sU]
   have:lo=a₀.size:=by omega
   subst this;exact wpS_pure ⟨gN,rfl,hc⟩
  ·rw[if_neg sU]
   refine wpS_bind (wpS_countRun hL h0 ⋯ ⋯ gN λm U9 f1 m1 m2 s1=>?_)
   dsimp only;have Oq:Ch ρ (arrOf U9) 0 lo (pendingOf U9).toList:=by rw[f1.pend];exact hc.congr λk _ hk=>f1.same k hk
   have go:∀n xC,1<=n->lo+n<=a₀.size->SI kd a₀ xC->Ch ρ (arrOf xC) 0 lo (pendingOf xC).toList->Seg ρ (arrOf xC) lo (lo+n)->wpS M Ar E s (fV a₀.size lo n) (λr aB =>
     match r with
     | ForInStep.done c'=>SI kd a₀ aB/\c'=(none,a₀.size)/\Ch ρ (arrOf aB) 0 a₀.size (pendingOf aB).toList
     | ForInStep.yield c'=>SI kd a₀ aB/\∃lo,c'=(none,lo)/\lo<=a₀.size/\(x+1<=lo\/lo=a₀.size)/\Ch ρ (arrOf aB) 0 lo (pendingOf aB).toList) xC:=λn xC n1 n2 b1 b2 b3 =>
    sM hL h0 b1 l1 b2 n1 b3 λaB b1 b2=>⟨b1,lo+n,rfl,n2,by omega,b2⟩
   by_cases gy:m<mr
   ·rw[if_pos gy]
    refine wpS_bind (wpS_lift (wpAny_rule ⟨rfl,?_⟩));refine wpS_bind (wpS_binarySort hL h0 ⋯ ⋯ f1.si s1 λxC f2 s2=>?_)
    simp only[Bool.not_true,Bool.false_eq_true,if_false];have z:=go (min (a₀.size-lo) mr) xC ⋯ ⋯ f2.si (by rw[f2.pend];exact Oq.congr λk _ hk=>f2.same k hk) s2
    refine wpS_mono (Q:=_) (Eq.mpr (congrArg (λt=>wpS M Ar E s t _ xC) (?_:_=fV a₀.size lo (min (a₀.size-lo) mr))) z) ?_
    ·walk_at "s_rest"
    ·intro r cZ hr
     cases r<;>exact hr
   ·rw[if_neg gy]
    have z:=go m U9 m1 ⋯ f1.si Oq s1
    refine wpS_mono (Q:=_) (Eq.mpr (congrArg (λt=>wpS M Ar E s t _ U9) (?_:_=fV a₀.size lo m)) z) ?_
    ·walk_at "s_rest"
    ·intro r cZ hr
     cases r<;>exact hr
 case post =>
  rintro c aB ⟨gN,rfl,hc⟩;dsimp only;have jc:(pendingOf aB).size<=a₀.size:=by have:=Ch.le hc;simp only[Array.length_toList]at this;omega
  refine wpS_bind (wpS_mono (wpS_forRange (I:=λx c aB=>c=(none,())/\SI kd a₀ aB/\Ch ρ (arrOf aB) 0 a₀.size (pendingOf aB).toList/\((pendingOf aB).size+x<=a₀.size\/(pendingOf aB).size<=1))
   (Q:=λc aB=>c=(none,())/\SI kd a₀ aB/\Ch ρ (arrOf aB) 0 a₀.size (pendingOf aB).toList/\(pendingOf aB).size<=1) ?fstep ?ffin ⟨rfl,gN,hc,.inl ⋯⟩) ?fpost)
  case ffin =>
   rintro c aB ⟨rfl,b1,b2,b3⟩;exact⟨rfl,b1,b2,by omega⟩
  case fstep =>
   rintro x c aB _ hx ⟨rfl,b1,b2,b3⟩;refine wpS_bind (wpS_get ?_)
   try dsimp only
   by_cases hz:(pendingOf aB).size<=1
   ·rw[if_pos hz]
    exact wpS_pure ⟨rfl,b1,b2,hz⟩
   ·rw[if_neg hz]
    refine wpS_bind (j9 hL h0 b1 (Nat.le_refl _) b2 ?_ λxC c1 c2 c3 c4=>?_)
    ·exact JP _ ⋯
    ·simp only[Bool.not_true,Bool.false_eq_true,if_false]
     exact wpS_pure ⟨rfl,c1,c2,by omega⟩
  case fpost =>
   rintro c aB ⟨rfl,b1,b2,b3⟩;refine wpS_pure (h aB b1 ?_);have hl:(pendingOf aB).toList.length<=1:=by simpa using b3
   generalize (pendingOf aB).toList=l at b2 hl
   match l,b2,hl with
   | [],b2,_=>have:0=a₀.size:=b2;omega
   | [r],⟨_,_,h3,h4⟩,_ =>
    have h4:0+r.2.1=a₀.size:=h4;rw[h4]at h3;exact h3
   | _::_::_,_,hl=>simp at hl
end
end Vs
namespace Vs
open PySem PyProof.Rows PySem.W
theorem dJ:∀a:List Int,HT.lexLt a a=false
 | []=>rfl
 | x::a=>by rw[HT.b5,if_pos rfl];exact dJ a
theorem eB:∀a b c:List Int,HT.lexLt a b=true->HT.lexLt b c=true->HT.lexLt a c=true
 | [],[],_,h,_=>by cases h
 | [],_::_,[],_,h=>by cases h
 | [],_::_,_::_,_,_=>rfl
 | _::_,[],_,h,_=>by cases h
 | _::_,_::_,[],_,h=>by cases h
 | x::a,y::b,z::c,h1,h2=>by
  rw[HT.b5]at h1 h2 ⊢
  by_cases e1:x=y
  ·rw[if_pos e1]at h1
   by_cases e2:y=z
   ·rw[if_pos e2]at h2
    rw[if_pos (e1.trans e2)];exact eB a b c h1 h2
   ·rw[if_neg e2]at h2
    have:=of_decide_eq_true h2;rw[if_neg ⋯];exact decide_eq_true ⋯
  ·rw[if_neg e1]at h1
   have h1:=of_decide_eq_true h1
   by_cases e2:y=z
   ·rw[if_neg ⋯];exact decide_eq_true ⋯
   ·rw[if_neg e2]at h2
    have:=of_decide_eq_true h2;rw[if_neg ⋯];exact decide_eq_true ⋯
theorem lb:∀a b:List Int,HT.lexLt a b=false->HT.lexLt b a=false->a=b
 | [],[],_,_=>rfl
 | [],_::_,h,_=>by cases h
 | _::_,[],_,h=>by cases h
 | x::a,y::b,h1,h2=>by
  rw[HT.b5]at h1 h2
  by_cases e1:x=y
  ·rw[if_pos e1]at h1
   rw[if_pos e1.symm]at h2;rw[e1,lb a b h1 h2]
  ·rw[if_neg e1]at h1
   rw[if_neg (Ne.symm e1)]at h2;have:=of_decide_eq_false h1;have:=of_decide_eq_false h2;omega
def rk(d:Keyed->List Int)(l:List Keyed)(x:Keyed):Nat:=l.countP λp=>HT.lexLt (d p) (d x)
theorem ni{α:Type}{p q:α->Bool}:∀ {l:List α} {x:α},(∀y,p y=true->q y=true)->x∈l->p x=false->q x=true->l.countP p<l.countP q
 | y::l,x,h,hx,h1,h2=>by
  rcases List.mem_cons.mp hx with rfl|hx
  ·rw[List.countP_cons_of_neg (by rw[h1];decide),List.countP_cons_of_pos h2]
   exact Nat.lt_succ_of_le (List.countP_mono_left λy _=>h y)
  ·have ih:=ni h hx h1 h2
   rw[List.countP_cons,List.countP_cons];cases e:p y with
   | true=>rw[h y e];simpa using ih
   | false=>split<;>split<;>first|omega | (exfalso;simp_all)
theorem vL{d:Keyed->List Int}{l:List Keyed}{x y:Keyed}(hx:x∈l):decide (rk d l x<rk d l y)=HT.lexLt (d x) (d y):=by
 cases e:HT.lexLt (d x) (d y)with
 | true =>
  refine decide_eq_true (ni (x:=x) (λp hp=>eB _ _ _ hp e) hx (dJ _) e)
 | false =>
  refine decide_eq_false (Nat.not_lt.mpr (List.countP_mono_left λp _ hp=>?_));cases e2:HT.lexLt (d p) (d x)with
  | true=>rfl
  | false =>
   cases e3:HT.lexLt (d x) (d p)with
   | true=>rw[eB _ _ _ e3 hp]at e;cases e
   | false =>
    rw[lb _ _ e2 e3]at hp;rw[hp]at e;cases e
section
variable {prog:Program}{w:World}{A:Around}{E:Value->Shared->Prop}{s:Shared}
theorem jY{b:Bool}{Q:Bool->Shared->Prop}:∀ {vs ws:List Value} {ns ms:List Int} (i:Nat) (fin:Bool),IntsAre vs ns->IntsAre ws ms->fin=decide (vs.length<ws.length)->Q (HT.lexLt ns ms) s->KatLex prog w A b fin Q (vs.zip ws) i s
 | _,_,_,_,i,fin,.nil,.nil,e,q=>by subst e;exact kat_nil q
 | _,_,_,_,i,fin,.nil,.cons _ _ _,e,q=>by subst e;rw[HT.fw]at q;exact kat_nil (by simpa using q)
 | _,_,_,_,i,fin,.cons _ _ _,.nil,e,q=>by subst e;rw[HT.fv]at q;exact kat_nil (by simpa using q)
 | _,_,_,_,i,fin,.cons n t h1,.cons m u h2,e,q=>by
  rw[List.zip_cons_cons];refine kat_cons (wpAny_eqBool_int ?_);rw[HT.b5]at q
  by_cases h:n=m
  ·rw[if_pos h]at q
   rw[show(n==m)=true from by simpa using h]
   exact kat_yes (jY (i+1) fin h1 h2 (by rw[e];simp) q)
  ·rw[if_neg h]at q
   rw[show(n==m)=false from by simpa using h]
   refine kat_no ?_;cases(b&&i==0)with
   | true=>exact oneLt_int q
   | false=>exact kat_one _ _ (lt_int q)
def nZ(h:Heap)(v:Value)(ns:List Int):Prop:=∃a o xs n,v=.ref a/\h.get? a=some o/\o.cls=.type "tuple"/\o.data=.seq xs n/\IntsAre xs.toList ns
theorem nZ.kept{h g:Heap}{v:Value}{ns:List Int}(t:nZ h v ns)(k:∀b o,h.get? b=some o->g.get? b=some o):nZ g v ns:=by
 obtain⟨a,o,xs,n,e,ho,r⟩:=t;exact⟨a,o,xs,n,e,k _ _ ho,r⟩
theorem wZ{b:Bool}{v u:Value}{ns ms:List Int}{Q:Bool->Shared->Prop}(h1:nZ s.heap v ns)(h2:nZ s.heap u ms)(q:Q (HT.lexLt ns ms) s):wpAny (model prog w) A (keyLt' (tuples' b) v u) Q E s:=by
 obtain⟨a,o,xs,n,rfl,ho,hc,hd,hi⟩:=h1;obtain⟨a2,o2,xs2,n2,rfl,DL,Gi,hd2,DK⟩:=h2;exact kat_lt ho hd DL hd2 (jY 0 _ hi DK (by simp) q)
theorem D2{b:Bool}{l:List Keyed}{d:Keyed->List Int}(h:∀x∈l,nZ s.heap x.1 (d x)):fo (model prog w) A E s (rk d l) (tuples' b) (λx=>x∈l):=λx y st Q hx hy hk q=>by
 rw[vL hx]at q;rw[lt'_eq];refine wpS_bind (wpS_get ?_);rw[hk];exact wpS_bind (wpS_lift (wpAny_attempt (wZ (h x hx) (h y hy) ⟨rfl,wpS_pure q⟩)))
theorem AZ{vs:List Value}{Q:SortKind->Shared->Prop}(hl:0<vs.length)(h:∀v∈vs,∃ns,nZ s.heap v ns/\ns≠[])(q:Q (tuples' true) s):wpAny (model prog w) A (keyKind' vs.toArray) Q E s:=by
 have key:∀vs:List Value,(∀v∈vs,∃ns,nZ s.heap v ns/\ns≠[])->∃fs,KatTups s.heap vs fs/\fs.length=vs.length/\∀v∈fs,∃n t,v=Value.int n t:=by
  intro vs
  induction vs with
  | nil=>intro _;exact⟨[],KatTups.nil,rfl,λv hv=>by cases hv⟩
  | cons v vs ih =>
   intro h;obtain⟨ns,⟨a,o,xs,n,rfl,ho,hc,hd,hi⟩,c9⟩:=h v (List.mem_cons_self ..);obtain⟨fs,f1,f2,f3⟩:=ih λu hu=>h u (List.mem_cons_of_mem _ hu);obtain⟨f,hf,hn⟩:∃f,xs[0]?=some f/\∃n t,f=Value.int n t:=by
    rw[<- Array.getElem?_toList];generalize xs.toList=ys at hi;cases hi with
    | nil=>exact absurd rfl c9
    | cons n t _=>exact⟨_,rfl,n,t,rfl⟩
   refine⟨f::fs,KatTups.cons ho hc hd hf f1,by simp [f2],λv hv=>?_⟩
   rcases List.mem_cons.mp hv with rfl|hv
   ·exact hn
   ·exact f3 v hv
 obtain⟨fs,f1,f2,f3⟩:=key vs h;refine kat_kind (T:=.type "int") f1 ⋯ (λv hv=>?_) rfl q
 obtain⟨n,t,rfl⟩:=f3 v hv;exact Looks.now
theorem gA{a:Addr}{vs:List Value}{n:Nat}{kd:SortKind}{ρ:Keyed->Nat}{P:Keyed->Prop}{Pf:PySem.Fin->Shared->Prop}(ho:s.heap.get? a=some (seqObj "list" vs.toArray n))(hz:vs.length<=sizeLine)(h0:∀p∈(pairsOf vs).toList,P p)
  (hk:2<=vs.length->∀g:Heap,(∀b o,b≠a->s.heap.get? b=some o->g.get? b=some o)->(∀Q:SortKind->Shared->Prop,Q kd {s with heap:=g}->wpAny (model prog w) A (keyKind' vs.toArray) Q E {s with heap:=g})/\fo (model prog w) A E {s with heap:=g} ρ kd P)
  (h:∀(xs:Array Keyed) (g:Heap) (c:Nat),xs.Perm (pairsOf vs)->Seg ρ xs 0 vs.length->(∀b o,b≠a->s.heap.get? b=some o->g.get? b=some o)->g.get? a=some (seqObj "list" (xs.map (·.2)) c)->Pf (.done (.ret .none)) {s with heap:=g}):
  wpAny (model prog w) A (Builtin.«list.sort» ⟨[.ref a],[]⟩) Pf E s:=by
 rw[list_sort_plain];have ha:a<s.heap.objs.size:=Heap.lt_size ho;have hsz:vs.toArray.size=vs.length:=by simp
 refine wpAny_bind (listItems_at ho rfl ?_);refine wpAny_bind (listUpdate_at ho rfl ?_ (by rw[hsz];exact hz) (Nat.zero_le _))
 obtain⟨e1,RB⟩:∃e1,(s.heap.update a (Obj.mapSeq λ_=>#[])).get? a=some (seqObj "list" #[] e1):=⟨_,get?_update_seq ho (λ_=>#[])⟩;refine wpAny_bind (seqEpoch_at RB rfl ?_);refine wpAny_bind (wpAny_newTuple ?_ (by show vs.length<=_;exact hz))
 refine wpAny_bind (wpAny_newList ?_ (Nat.zero_le _));refine wpAny_holding ?_;have keep:∀b o,b≠a->s.heap.get? b=some o->(((s.heap.update a (Obj.mapSeq λ_=>#[])).push (seqObj "tuple" vs.toArray 0)).push (seqObj "list" #[] 0)).get? b=some o:=λb o hb e =>
  Heap.get?_push_of_some _ (Heap.get?_push_of_some _ ((Heap.get?_update_other _ _ (Ne.symm hb)).trans e))
 have Ox:(((s.heap.update a (Obj.mapSeq λ_=>#[])).push (seqObj "tuple" vs.toArray 0)).push (seqObj "list" #[] 0)).get? a=some (seqObj "list" #[] e1):=Heap.get?_push_of_some _ (Heap.get?_push_of_some _ RB);show wpAny (model prog w) A _ Pf E {s with heap:=((s.heap.update a (Obj.mapSeq λ_=>#[])).push (seqObj "tuple" vs.toArray 0)).push (seqObj "list" #[] 0)}
 dsimp only;generalize hg6:((s.heap.update a (Obj.mapSeq λ_=>#[])).push (seqObj "tuple" vs.toArray 0)).push (seqObj "list" #[] 0)=g6 at keep Ox;have fin:∀xs:Array Keyed,xs.Perm (pairsOf vs)->Seg ρ xs 0 vs.length->Pf (.done (.ret .none)) {s with heap:=g6.update a (Obj.mapSeq λ_=>xs.map (·.2))}:=λxs hp hs =>
  h xs _ _ hp hs (λb o hb e=>(Heap.get?_update_other _ _ (Ne.symm hb)).trans (keep b o hb e)) (get?_update_seq Ox λ_=>xs.map (·.2))
 by_cases h2:vs.toArray.size<2
 ·rw[if_pos h2,if_pos h2]
  refine wpAny_bind (wpAny_pure ?_);rw[StateT.run_pure];refine wpAny_bind (wpAny_pure ?_);dsimp only;refine wpAny_bind (seqEpoch_at Ox rfl ?_);refine wpAny_bind (listUpdate_at Ox rfl ?_ (Nat.zero_le _) (by rw[Array.size_map];show(pairsOf vs).size<=_;rw[pairsOf_size];exact Nat.le_succ_of_le hz))
  simp only[bne_self_eq_false,Bool.false_eq_true,if_false];refine wpAny_pure (fin _ (Array.Perm.refl _) λi j _ kA hj=>?_);have:i=j:=by omega
  subst this;exact Nat.le_refl _
 ·rw[if_neg h2,if_neg h2]
  obtain⟨k1,k2⟩:=hk ⋯ g6 keep
  refine wpAny_bind (k1 _ ?_);refine wpAny_bind (wpAny_mono (wpS_sortRuns (a₀:=pairsOf vs) (kd:=kd) (st:=SortSt.mk' kd (vs.toArray.zip vs.toArray) #[] 7 none)
   (Q:=λ_ aB=>SI kd (pairsOf vs) aB/\Seg ρ (arrOf aB) 0 (pairsOf vs).size) k2 h0 ⟨Array.Perm.refl _,rfl,rfl⟩ rfl (by rw[pairsOf_size];omega) λaB a1 a2=>⟨a1,a2⟩) ?_ λ_ _ e=>e)
  rintro⟨⟨⟩,aB⟩ s' ⟨rfl,hp,hs⟩;dsimp only;refine wpAny_bind (seqEpoch_at Ox rfl ?_);refine wpAny_bind (listUpdate_at Ox rfl ?_ (Nat.zero_le _) (by refine Nat.le_trans (Nat.le_of_eq ((Array.size_map ..).trans (hp.size.trans (pairsOf_size _)))) ?_;exact Nat.le_succ_of_le hz))
  rw[hp.failed];simp only[bne_self_eq_false,Bool.false_eq_true,if_false];rw[pairsOf_size]at hs;exact wpAny_pure (fin _ hp.perm hs)
theorem ux{l:Addr}{vs:List Value}{kd:SortKind}{ρ:Keyed->Nat}{P:Keyed->Prop}{Q:Value->Shared->Prop}(hl:s.heap.IsList l vs.toArray)(hz:vs.length<=sizeLine)(h0:∀p∈(pairsOf vs).toList,P p)
  (hk:2<=vs.length->∀(A':Around) (E':Value->Shared->Prop) (g:Heap),(∀b o,s.heap.get? b=some o->g.get? b=some o)->(∀Q:SortKind->Shared->Prop,Q kd {s with heap:=g}->wpAny (model prog w) A' (keyKind' vs.toArray) Q E' {s with heap:=g})/\fo (model prog w) A' E' {s with heap:=g} ρ kd P)
  (h:∀(xs:Array Keyed) (g:Heap) (c:Nat),xs.Perm (pairsOf vs)->Seg ρ xs 0 vs.length->(∀b o,s.heap.get? b=some o->g.get? b=some o)->g.get? (s.heap.objs.size+1)=some (seqObj "list" (xs.map (·.2)) c)->Q (.ref (s.heap.objs.size+1)) {s with heap:=g}):
  wpAny (model prog w) A (call (.builtin "sorted") [.ref l]) Q E s:=by
 refine Calls.call_function_entry kind_sorted plain_sorted entry_sorted (args_sorted1 _) ?_;unfold Builtin.«sorted»;refine wpAny_bind (m:=checkCount "sorted" 1 1 _) (wpAny_pure ?_);refine wpAny_bind (collect_list hl ?_ hz);refine wpAny_bind (wpAny_newList ?_ hz);have hsz:((s.heap.push (seqObj "list" #[] 0)).update s.heap.objs.size (Obj.mapSeq (·++vs.toArray))).objs.size=s.heap.objs.size+1:=by
  rw[Heap.size_update,size_push']
 have JF:(((s.heap.push (seqObj "list" #[] 0)).update s.heap.objs.size (Obj.mapSeq (·++vs.toArray))).push (seqObj "list" vs.toArray 0)).get? (s.heap.objs.size+1)=some (seqObj "list" vs.toArray 0):=by
  rw[<- hsz];exact Heap.get?_push_size _ rfl
 have keep:∀b o,s.heap.get? b=some o->(((s.heap.push (seqObj "list" #[] 0)).update s.heap.objs.size (Obj.mapSeq (·++vs.toArray))).push (seqObj "list" vs.toArray 0)).get? b=some o:=λb o e=>by
  have gy:b<s.heap.objs.size:=Heap.lt_size e;exact Heap.get?_push_of_some _ ((Heap.get?_update_other _ _ (Ne.symm (Nat.ne_of_lt gy))).trans (Heap.get?_push_of_some _ e))
 have ne:∀b o,s.heap.get? b=some o->b≠s.heap.objs.size+1:=λb o e=>Nat.ne_of_lt (Nat.lt_succ_of_lt (Heap.lt_size e));show wpAny _ _ _ _ _ {s with heap:=((s.heap.push (seqObj "list" #[] 0)).update s.heap.objs.size (Obj.mapSeq (·++vs.toArray))).push (seqObj "list" vs.toArray 0)}
 rw[hsz];refine wpAny_bind (wpAny_holding (wpAny_call_entry slot_list_sort ⟨_,JF,rfl⟩ entry_list_sort (gA (kd:=kd) (ρ:=ρ) (P:=P) JF hz h0 (λh2 g kg=>hk h2 _ _ g λb o e=>kg b o (ne b o e) (keep b o e)) λxs g c a1 a2 a3 a4=>⟨_,rfl,?_⟩) (args_list_sort _)));exact wpAny_pure ⟨_,rfl,h xs g c a1 a2 (λb o e=>a3 b o (ne b o e) (keep b o e)) a4⟩
end
end Vs
namespace Vc
open PySem L2
def toV:Value->V
 | .ref a=>.ref a
 | _=>.bC
theorem CB{us:List V}{its:List Value}(r:Vals us its)(h:∀u∈us,∃a,u=.ref a):us=its.map toV:=by
 induction r with
 | nil=>rfl
 | cons r _ ih =>
  obtain⟨a,rfl⟩:=h _ (List.mem_cons_self ..);cases r;rw[List.map_cons,<- ih λu hu=>h u (List.mem_cons_of_mem _ hu)];rfl
theorem E7{its:List Value}(h:∀v∈its,∃a,v=.ref a):Vals (its.map toV) its:=by
 induction its with
 | nil=>exact .nil
 | cons v its ih =>
  obtain⟨a,rfl⟩:=h _ (List.mem_cons_self ..);exact .cons rfl (ih λu hu=>h u (List.mem_cons_of_mem _ hu))
theorem eJ{α:Type}:∀l:List α,l.zip l=l.map λx=>(x,x)
 | []=>rfl
 | x::l=>by rw[List.zip_cons_cons,List.map_cons,eJ l]
theorem qh{X:Cx}:cT X (.builtin "sorted") (λxs H Q=>∃(p:Addr) (us:List V) (dd:V->List Int),xs=[.ref p]/\e6 X.K H p us/\(∀u∈us,(∃a,u=.ref a/\gS X.K H a ((dd u).map V.int))/\dd u≠[]) /\
  ∀(sV:List V),sV.Perm us->sV.Pairwise (λx y=>HT.lexLt (dd y) (dd x)=false)->∀l,H l=none->Q (.ref l) (upd H l (.lst sV))):=by
 intro pins s σ H xs Zc Q I r h;obtain⟨p,us,dd,rfl,hq,hu,q⟩:=h;obtain⟨u,rfl,rx⟩:=vals1 r;cases rx;obtain⟨its,rv,pl,hz⟩:=I.list hq;have hlen:=rv.length;have X5:us=its.map toV:=CB rv λu h=>by obtain⟨⟨a,e,_⟩,_⟩:=hu u h;exact⟨a,e⟩
 have AR:∀v∈its,∃a,v=.ref a:=λv hv=>by
  obtain⟨i,hi,e⟩:=List.mem_iff_getElem.mp hv;obtain⟨u,YJ,ru⟩:=rv.get (i:=i) (x:=us[i]'⋯) (List.getElem?_eq_getElem _)
  rw[List.getElem?_eq_getElem hi]at YJ;cases YJ;obtain⟨⟨a,e2,_⟩,_⟩:=hu (us[i]'⋯) (List.getElem_mem _)
  rw[e2]at ru;exact⟨a,by rw[<- e];exact ru⟩
 have tup:∀v∈its,Vs.nZ s.heap v (dd (toV v))/\dd (toV v)≠[]:=λv hv=>by
  obtain⟨a,rfl⟩:=AR v hv;have hm:toV (.ref a)∈us:=by rw[X5];exact List.mem_map.mpr ⟨_,hv,rfl⟩
  obtain⟨⟨b,e,hT⟩,c9⟩:=hu _ hm;cases e;obtain⟨ts,r1,⟨o,ho,hc,n,hd⟩,_⟩:=I.tuple hT;exact⟨⟨a,o,ts.toArray,n,rfl,ho,hc,hd,intsAre_of r1⟩,c9⟩
 have mem:∀x:PyProof.Rows.Keyed,x∈(PyProof.Rows.pairsOf its).toList->x.1∈its/\x.1=x.2:=λx hx=>by
  rw[PyProof.Rows.pairsOf_toList,eJ]at hx;obtain⟨v,hv,rfl⟩:=List.mem_map.mp hx;exact⟨hv,rfl⟩
 refine Vs.ux (kd:=PyProof.Rows.tuples' true) (ρ:=Vs.rk (λx=>dd (toV x.1)) (PyProof.Rows.pairsOf its).toList) (P:=λx=>x∈(PyProof.Rows.pairsOf its).toList) pl.isList ⋯ (λ_ h=>h) (λh2 A' E' g kg=>⟨λQ hQ=>?_,?_⟩) λxs g c hp hs kg hg=>?_
 ·exact Vs.AZ (s:={s with heap:=g}) ⋯ (λv hv=>⟨_,(tup v hv).1.kept kg,(tup v hv).2⟩) hQ
 ·exact Vs.D2 (s:={s with heap:=g}) λx hx=>(tup x.1 (mem x hx).1).1.kept kg
 ·have jc:xs.toList.Perm (PyProof.Rows.pairsOf its).toList:=Array.perm_iff_toList_perm.mp hp
  have hsz:xs.size=its.length:=by have:=hp.size_eq;rw[PyProof.Rows.pairsOf_size]at this;exact this
  have ig:∀x∈xs.toList,x.1∈its/\x.1=x.2:=λx hx=>mem x (jc.mem_iff.mp hx);have perm:(xs.toList.map λx=>toV x.2).Perm us:=by
   rw[X5];refine(jc.map λx=>toV x.2).trans ?_;rw[PyProof.Rows.pairsOf_toList,eJ,List.map_map];exact List.Perm.refl _
  have eq2:xs.toList.map (λx=>toV x.2)=(xs.map (·.2)).toList.map toV:=by
   rw[Array.toList_map,List.map_map];rfl
  refine⟨.ref (s.heap.objs.size+1),_,I.laid (t':=s.toks) (o:=.lst (xs.toList.map λx=>toV x.2)) kg (Nat.le_succ _) ⟨?_,(xs.map (·.2)).toList,c,?_,hg⟩,rfl,q _ perm ?_ _ (I.bU.fresh (Nat.le_succ _))⟩
  ·rw[perm.length_eq];exact hz
  ·rw[eq2]
   refine E7 λv hv=>?_;rw[Array.toList_map]at hv;obtain⟨x,hx,rfl⟩:=List.mem_map.mp hv;have:=ig x hx;exact AR _ (this.2 ▸ this.1)
  ·rw[List.pairwise_map]
   refine List.pairwise_iff_getElem.mpr λi j hi hj kA=>?_;have tS:i<xs.size:=by simpa using hi
   have Rq:j<xs.size:=by simpa using hj
   have h1:=hs i j (Nat.zero_le _) (Nat.le_of_lt kA) ⋯
   rw[Vs.cX (Array.getElem?_eq_getElem tS),Vs.cX (Array.getElem?_eq_getElem Rq)]at h1;have e1:xs.toList[i]=xs[i]:=rfl;have e2:xs.toList[j]=xs[j]:=rfl;rw[e1,e2];have m1:=ig xs[i] (by simp)
   have m2:=ig xs[j] (by simp)
   have:=Vs.vL (d:=λx=>dd (toV x.1)) (l:=(PyProof.Rows.pairsOf its).toList) (x:=xs[j]) (y:=xs[i]) (jc.mem_iff.mp (by simp))
   rw[decide_eq_false ⋯]at this
   rw[<- m1.2,<- m2.2];exact this.symm
variable [KF]
variable {G:GE}{k:Nat}{S:Stat}
def eh:D->List Int
 | .tup xs=>xs.map jm
 | .int i=>[i]
 | _=>[]
def kq(x y:D):Bool:=!HT.lexLt (eh y) (eh x)
def cz(xs:List D):List D:=xs.mergeSort kq
def eO:D->Bool
 | .tup xs=>xs.all isInt&&!xs.isEmpty
 | _=>false
theorem jq(a b c:D)(h1:kq a b=true)(h2:kq b c=true):kq a c=true:=by
 unfold kq at *;simp only[Bool.not_eq_true']at *;cases e:HT.lexLt (eh c) (eh a)with
 | false=>rfl
 | true =>
  cases e2:HT.lexLt (eh c) (eh b)with
  | true=>rw[h2]at e2;cases e2
  | false =>
   cases e3:HT.lexLt (eh b) (eh c)with
   | true=>rw[Vs.eB _ _ _ e3 e]at h1;cases h1
   | false=>rw[Vs.lb _ _ e2 e3]at e;rw[e]at h1;cases h1
theorem w8(a b:D):(kq a b||kq b a)=true:=by
 unfold kq;cases e:HT.lexLt (eh b) (eh a)with
 | false=>rfl
 | true =>
  cases e2:HT.lexLt (eh a) (eh b)with
  | false=>rfl
  | true=>have:=Vs.eB _ _ _ e e2;rw[Vs.dJ]at this;cases this
theorem bH(xs:List D):(cz xs).Perm xs:=List.mergeSort_perm xs kq
theorem eY(xs:List D):(cz xs).Pairwise λx y=>kq x y=true:=List.pairwise_mergeSort jq w8 xs
theorem ints_map:∀ {xs:List D},xs.all isInt=true->(xs.map jm).map D.int=xs
 | [],_=>rfl
 | x::xs,h=>by
  rw[List.all_cons,Bool.and_eq_true]at h;cases x with
  | int i=>rw[List.map_cons,List.map_cons,ints_map h.2];rfl
  | _=>exact absurd h.1 (by simp [isInt])
theorem d4{d:D}(h:eO d=true):d=.tup ((eh d).map D.int):=by
 cases d with
 | tup xs =>
  unfold eO at h;rw[Bool.and_eq_true]at h;show D.tup xs=.tup ((xs.map jm).map D.int);rw[ints_map h.1]
 | _=>exact absurd h (by simp [eO])
theorem fy{α:Type}{r:α->α->Prop}:∀ {l m:List α},l.Perm m->(∀a∈l,∀b∈l,r a b->r b a->a=b)->l.Pairwise r->m.Pairwise r->l=m
 | [],m,h,_,_,_=>(List.nil_perm.mp h).symm
 | a::l,[],h,_,_,_=>by have:=h.length_eq;simp at this
 | a::l,b::m,h,Py,h1,h2=>by
  have hb:b∈a::l:=h.symm.mem_iff.mp (List.mem_cons_self ..);have ha:a∈b::m:=h.mem_iff.mp (List.mem_cons_self ..);rw[List.pairwise_cons]at h1 h2;have e:a=b:=by
   rcases List.mem_cons.mp hb with e|hb
   ·exact e.symm
   ·rcases List.mem_cons.mp ha with e|ha
    ·exact e
    ·exact Py a (List.mem_cons_self ..) b (List.mem_cons_of_mem _ hb) (h1.1 b hb) (h2.1 a ha)
  subst e;rw[fy h.cons_inv (λx hx y hy=>Py x (List.mem_cons_of_mem _ hx) y (List.mem_cons_of_mem _ hy)) h1.2 h2.2]
theorem rV{xs ys:List D}(h:xs.all eO=true)(hp:ys.Perm xs)(hs:ys.Pairwise λx y=>kq x y=true):ys=cz xs:=by
 refine fy (hp.trans (bH xs).symm) (λa ha b hb h1 h2=>?_) hs (eY xs);have ia:=d4 (List.all_eq_true.mp h a (hp.mem_iff.mp ha));have ib:=d4 (List.all_eq_true.mp h b (hp.mem_iff.mp hb));unfold kq at h1 h2;simp only[Bool.not_eq_true']at h1 h2;rw[ia,ib,Vs.lb _ _ h2 h1]
def i3:List D->(EV->Prop)->Prop
 | [.lst xs],Q=>xs.all eO=true/\Q (.own (cz xs))
 | _,_=>False
def Dx(F:Hp):V->List Int
 | .ref a=>match F a with
  | some (.tup vs)=>vs.map λv=>match v with|.int i=>i|_=>0
  | _=>[]
 | _=>[]
theorem oq{F:Hp}{v:V}{d:D}(r:Rep F v d)(h:eO d=true):Dx F v=eh d/\∃a,v=.ref a/\F a=some (.tup ((eh d).map V.int)):=by
 cases r with
 | tup hf rl =>
  unfold eO at h;rw[Bool.and_eq_true]at h;have e:=rl.ints h.1;subst e;refine⟨?_,_,rfl,hf⟩;unfold Dx;dsimp only;rw[hf];dsimp only;rw[List.map_map];exact(List.map_congr_left (λx _=>rfl)).trans (List.map_id _)
 | _=>exact absurd h (by simp [eO])
theorem rK{F:Hp}:∀ {vs:List V} {xs:List D},aG F vs xs->xs.all eO=true->xs=vs.map λv=>.tup ((Dx F v).map D.int)
 | _,_,.nil,_=>rfl
 | _,_,.cons r t,h=>by
  rw[List.all_cons,Bool.and_eq_true]at h;rw[List.map_cons,<- rK t h.2,(oq r h.1).1,<- d4 h.1]
theorem aG.mem{F:Hp}:∀ {vs:List V} {xs:List D},aG F vs xs->∀v∈vs,∃d∈xs,Rep F v d
 | _,_,.cons r t,v,hv=>by
  rcases List.mem_cons.mp hv with rfl|hv
  ·exact⟨_,List.mem_cons_self ..,r⟩
  ·obtain⟨d,hd,rd⟩:=aG.mem t v hv
   exact⟨d,List.mem_cons_of_mem _ hd,rd⟩
theorem vK{F:Hp}{f:V->D}:∀ {vs:List V},(∀v∈vs,Rep F v (f v))->aG F vs (vs.map f)
 | [],_=>.nil
 | v::vs,h=>.cons (h v (List.mem_cons_self ..)) (vK λu hu=>h u (List.mem_cons_of_mem _ hu))
theorem qP:xQ G k S (.builtin "sorted") i3:=⟨λK xs H Q=>∃(p:Addr) (us:List V) (dd:V->List Int),xs=[.ref p]/\e6 K H p us/\(∀u∈us,(∃a,u=.ref a/\gS K H a ((dd u).map V.int))/\dd u≠[]) /\
  ∀(sV:List V),sV.Perm us->sV.Pairwise (λx y=>HT.lexLt (dd y) (dd x)=false)->∀l,H l=none->Q (.ref l) (upd H l (.lst sV)),λ_ _ ok=>qh,λY F H aq σ vs ds Qd Q R r q g=>by
 unfold i3 at q
 split at q
 ·rename_i xs
  obtain⟨v,rfl,rv⟩:=r.one;obtain⟨p,us,rfl,h1,h2⟩:=rv.lst;have all:=List.all_eq_true.mp q.1;refine⟨p,us,Dx F,rfl,.inl h1,λu hu=>?_,λsV hp hs=>?_⟩
  ·obtain⟨d,hd,rd⟩:=h2.mem u hu
   obtain⟨e1,a,rfl,e2⟩:=oq rd (all d hd);refine⟨⟨a,rfl,.of (by rw[e1];exact R.fr _ _ e2)⟩,?_⟩
   rw[e1];have hi:=all d hd;cases d with
   | tup ys =>
    unfold eO at hi;rw[Bool.and_eq_true]at hi;intro z;have:ys=[]:=by simpa [eh]using z
    subst this;exact absurd hi.2 ∅
   | _=>exact absurd hi (by simp [eO])
  ·have ex:=rK h2 q.1
   have rep:∀v∈sV,Rep F v (.tup ((Dx F v).map D.int)):=λv hv=>by
    obtain⟨d,hd,rd⟩:=h2.mem v (hp.mem_iff.mp hv);rw[(oq rd (all d hd)).1,<- d4 (all d hd)];exact rd
   have key:∀v,eh (.tup ((Dx F v).map D.int))=Dx F v:=λv=>by
    show((Dx F v).map D.int).map jm=_;rw[List.map_map];exact(List.map_congr_left (λx _=>rfl)).trans (List.map_id _)
   have e:sV.map (λv=>D.tup ((Dx F v).map D.int))=cz xs:=by
    refine rV q.1 (by rw[ex];exact hp.map _) ?_
    rw[List.pairwise_map];refine hs.imp λ{x y} h=>?_;unfold kq;rw[key,key,h];rfl
   have rl:=vK rep;rw[e]at rl;exact g.own R rl q.2
 ·exact q.elim⟩
end Vc
namespace Vc
open PySem L2
variable [KF]
variable {G:GE}{k:Nat}{S:Stat}
def AQ(i:Nat)(j:Int)(d:D)(σ:Sd)(Q:Sd->Prop):Prop:=match σ[i]? with
 | some (some (.own xs))=>match vt xs.length j with
  | some m=>Q (σ.set i (some (.own (xs.set m d))))
  | none=>False
 | _=>False
def sf(i:Nat)(tx:TV)(te:TD):cJ:=λDe σ=>te σ λd aC=>qU aC i/\tx aC λy bq=>match eK bq y with
 | some (.int j)=>AQ i j d bq De.nx
 | _=>False
theorem vG{X:Cx}{st:Stmt}{t t':TS}(h:PS X st t)(i:∀Dn σ H,t' Dn σ H->t Dn σ H):PS X st t':=λpins s σ H Dn I q=>h pins s σ H Dn I (i Dn σ H q)
theorem uq(i:Nat){x:Str}{ix e:Expr}{tx:TV}{te:TD}{pos eE gk:Pos}(he:ED G k S e te)(hx:EO G k S ix tx)(ho:EO G k S (.Name x gk) (ag i))
  (hs:∀line env,swapsWithSole [.Subscript (.Name x gk) ix eE] e line env=pure false:=by intro _ _;rfl) (hw:∀env,swappedStores [.Subscript (.Name x gk) ix eE] e env=pure none:=by intro _;rfl)
  (h1:∀env,(assignEach [.Subscript (.Name x gk) ix eE] env).map (·.2)=[assign (.Subscript (.Name x gk) ix eE) env]:=by intro _;rfl)
  (ha:∀env v,assign (.Subscript (.Name x gk) ix eE) env v=(do
   let ov <- holding [v] (eval (.Name x gk) env)
   let iv <- holding [v,ov] (eval ix env)
   standAt eE
   holding [v,ov,iv] (setItem ov iv v)
   release [v,ov,iv] []):=by intro _ _;rfl):ES G k S (.Assign [.Subscript (.Name x gk) ix eE] e pos) (sf i tx te):=.mk λX Y ok =>
 vG (Bt (he X Y ok) (L7 (ho X Y ok) (hx X Y ok) set_list (ha _)) (hs _ _) (hw _) (h1 _)) λDn σ H q=>by
  obtain⟨F,aq,De,R,q,K⟩:=q;refine⟨F,aq,_,R,q,λv H1 F1 d aC s1 R1 r1 q1=>?_⟩;obtain⟨⟨ys,e0⟩,q1⟩:=q1;refine⟨F1,aC,λov bq=>ov=.var i/\bq=aC,R1,?_,λv2 H2 F2 ov bq s2 R2 r2 q2=>?_⟩
  ·unfold ag;rw[e0];exact⟨rfl,rfl⟩
  ·obtain⟨rfl,rfl⟩:=q2
   have r2:σ[i]?=some (some v2):=r2;refine⟨F2,bq,_,R2,q1,λv3 H3 F3 y d7 s3 R3 r3 q3=>?_⟩
   split at q3
   ·rename_i j ej
    unfold AQ at q3
    split at q3
    ·rename_i xs ex
     split at q3
     ·rename_i m em
      obtain⟨a,vs,w1,w2,w3,w4,w5⟩:=R3.own i xs ex;rw[r2]at w1;cases w1;have rj:=(R3.eK r3 ej).int;subst rj;refine⟨a,vs,j,m,rfl,rfl,w2,by rw[w3.length];exact em,?_⟩
      exact K.nx _ _ F3 _ ((s1.trans s2).trans s3) (R3.write ex r2 (aG.set ((r1.mono s2).mono s3) m w3)) q3
     ·exact q3.elim
    ·exact q3.elim
   ·exact q3.elim
abbrev jP:=List D->List D->(B->List D->Prop)->Prop
def pD(sp:jP):Sp:=λvs H Q _=>∃F xs ds a us rest Qd,vs=.ref a::rest/\uP F H/\H a=some (.lst us)/\aG F us xs/\F a=none/\aG F rest ds/\sp xs ds Qd /\
 ∀v H' F' b ys sV,aA F F'->aA F' H'->(∀c o,c≠a->H c=some o->H' c=some o)->H' a=some (.lst sV)->aG F' sV ys->F' a=none->(∀c o,F' c=some o->F c=some o\/Nw H c o)->G3 H F' H' v b->Qd b ys->Q v H'
def f6(G:GE)(k:Nat)(x:Str)(sp:jP):Prop:=∃f fd ps,d9 G.P G.w G.K G.mg G.base sW k f fd ps (pD sp)/\G.mg x=some (.ref f)/\PySem.W.keepIn G.K (.ref f)=true/\Binds G.K fd ps []
theorem f6.mono{x:Str}{sp:jP}{j:Nat}(h:f6 G j x sp)(l:j<=k):f6 G k x sp:=by
 obtain⟨f,fd,ps,h1,h2,h3,h4⟩:=h;exact⟨f,fd,ps,h1.mono l,h2,h3,h4⟩
theorem dC.BF{aq:Sd}{σ:St}{a:Addr}{i:Nat}{xs ys:List D}(h:dC aq σ a)(e:aq[i]?=some (some (.own xs))):dC (aq.set i (some (.own ys))) σ a:=by
 refine⟨λj js e1 z=>?_,λ⟨j,o,c,e1,e2,hm⟩=>?_⟩
 ·rcases gs e1 with⟨rfl,_⟩|⟨_,e1⟩
  ·exact h j xs e z
  ·exact h j js e1 z
 ·rcases gs e1 with⟨_,z⟩|⟨_,e1⟩
  ·cases z
  ·exact h.OG ⟨j,o,c,e1,e2,hm⟩
theorem RS.yA{Y:bN}{F F':Hp}{aq:Sd}{σ:St}{H H':Hp}{i:Nat}{xs ys:List D}{a:Addr}{us:List V}(R:RS Y F aq σ H)(e:aq[i]?=some (some (.own xs)))(h:σ[i]?=some (some (.ref a)))(s1:aA F F')(s2:aA F' H')(s3:∀c o,c≠a->H c=some o->H' c=some o)
  (ha:H' a=some (.lst us)) (r:aG F' us ys) (fa:F' a=none) (fr:∀c o,F' c=some o->F c=some o\/Nw H c o):RS Y F' (aq.set i (some (.own ys))) σ H':=by
 obtain⟨b,vs,w1,w2,w3,w4,w5⟩:=R.own i xs e;rw[h]at w1;cases w1;have hl:i<aq.length:=(List.getElem?_eq_some_iff.mp e).1;have JG:sP Y F' (aq.set i (some (.own ys))) σ H':=R.ob.step s1 (λj o q=>by
  rcases gs q with⟨_,z⟩|⟨hj,q⟩
  ·cases z
  ·exact⟨q,rfl⟩) (λb hb=>by
  obtain⟨z1,z2,z3⟩:=R.ob.owned hb;have c9:b≠a:=λz=>R.ob.ky i xs a e h (z ▸ hb);refine⟨?_,?_,z3⟩
  ·cases q:H b with
   | none=>exact absurd q z2
   | some o=>exact s3 b o c9 q
  ·cases q:F' b with
   | none=>rfl
   | some o =>
    rcases fr b o q with w|w
    ·rw[z1]at w;cases w
    ·rcases w with w|⟨ws,rfl⟩
     ·exact absurd w z2
     ·cases q3:H b with
      | none=>exact absurd q3 z2
      | some o3 =>
       have y:=s2 b _ q;rw[s3 b o3 c9 q3]at y;cases y;exact absurd q3 (R.ob.Gx hb)) (λj zs b q1 q2=>by
  rcases gs q1 with⟨e1,_⟩|⟨hj,q1⟩
  ·subst e1
   rw[h]at q2;cases q2;exact R.ob.ky j xs a e h
  ·exact R.ob.ky j zs b q1 q2) λb hb=>by
  by_cases c9:b=a
  ·rw[c9,ha];exactλz=>nomatch z
  ·cases q:H b with
   | none=>exact absurd q (R.ob.there b hb)
   | some o=>rw[s3 b o c9 q];exactλz=>nomatch z
 refine⟨by simpa using R.len,R.lo.trans s1,s2,λb o q=>?_,λb o q n=>?_,λj d q=>?_,λj zs q=>?_,λj l zs qs b q1 q2 q3 q4=>?_,λp hp=>?_,JG⟩
 ·rcases fr b o q with h|h
  ·exact R.fN b o h
  ·exact .inr (h.imp (λh=>(R.dQ h).1) id)
 ·have:b≠a:=λz=>by
   subst z;rcases w5 with w5|w5
   ·rw[w5]at q;cases q
   ·exact bN.vp n w5
  exact s3 b o this (R.old b o q n)
 ·rcases gs q with⟨_,z⟩|⟨hj,q⟩
  ·cases z
  ·obtain⟨v,h1,h2⟩:=R.sh j d q
   exact⟨v,h1,h2.mono s1⟩
 ·rcases gs q with⟨rfl,z⟩|⟨hj,q⟩
  ·cases z
   exact⟨a,us,h,ha,r,fa,w5⟩
  ·obtain⟨b,ws,z1,z2,z3,z4,z5⟩:=R.own j zs q
   have:b≠a:=λz=>hj (R.dis j i zs xs a q e (z ▸ z1) h);refine⟨b,ws,z1,s3 b _ this z2,z3.mono s1,?_,z5⟩;cases q':F' b with
   | none=>rfl
   | some o =>
    rcases fr b o q' with h|h
    ·rw[z4]at h;cases h
    ·rcases h with h|⟨ws',rfl⟩
     ·rw[z2]at h;cases h
     ·have y:=s2 b _ q';rw[s3 b _ this z2]at y;cases y
 ·have f:∀ {m:Nat} {ms:List D},(aq.set i (some (B.own ys)))[m]?=some (some (B.own ms))->∃C4,aq[m]?=some (some (B.own C4)):=λ{m ms} q=>by
   rcases gs q with⟨rfl,z⟩|⟨hj,q⟩
   ·exact⟨xs,e⟩
   ·exact⟨_,q⟩
  obtain⟨_,q1⟩:=f q1;obtain⟨_,q2⟩:=f q2;exact R.dis j l _ _ b q1 q2 q3 q4
 ·obtain⟨z1,zs,z2⟩:=R.io p hp
  refine⟨z1,?_⟩
  by_cases RC:p.1=i
  ·exact⟨ys,by rw[RC,jV hl]⟩
  ·exact⟨zs,by rw[bK RC];exact z2⟩
def Vh(sp:jP)(xs ds:List D)(Q:B->List D->Prop):Prop:=sp xs ds Q
def du(sp:jP)(i:Nat)(t:gh):TX:=λσ Q=>qU σ i/\t σ λds aC=>match aC[i]? with
 | some (some (.own xs))=>Vh sp xs ds λb ys=>Q (bE b) (aC.set i (some (.own ys)))
 | _=>False
theorem a9{x y:Str}{sp:jP}{i:Nat}{es:List Expr}{t:gh}{p pos gk:Pos}(h:f6 G k x sp)(ho:EO G k S (.Name y gk) (ag i))(ha:xT G k S es t)(hg:S.sc.lookup x=some .globalImplicit:=by rfl)(wL:(x==("__debug__":Str))=false:=by decide)
  (he:∀env,starEach (.Name y gk::es) env=(false,eval (.Name y gk) env)::starEach es env:=by intro _;rfl) (jc:∀env,(backTo pos (starEach es env)).any (·.1)=false:=by intro _;rfl) (hh:S.mL=false:=by rfl):EX G k S (.Call (.Name x p) (.Name y gk::es) [] pos) (du sp i t):=.mk λX Y ok=>by
 obtain⟨f,fd,ps,h1,h2,h3,h4⟩:=h;have wJ:d9 X.prog X.w X.K X.mg X.base sW k f fd ps (pD sp):=by rw[ok.P,ok.w,ok.K,ok.mg,ok.base];exact h1
 refine bj (vC (E:=E0) (dvs:=[]) (ds:=[]) wJ (ok.room hh) (d3 ok hg) (by rw[ok.mg];exact h2) (by rw[ok.K];exact h3) (by rw[ok.K];exact h4) .nil Gz (fR (ho X Y ok) (ha X Y ok) (he _)) wL (he _) (jc _)) λσ H Q q=>?_
 obtain⟨F,aq,Qd,R,⟨⟨ys,e0⟩,q⟩,K⟩:=q;refine⟨F,aq,λov bq=>ov=.var i/\bq=aq,R,?_,λv1 H1 F1 ov aC s1 R1 r1 q1=>?_⟩
 ·unfold ag;rw[e0];exact⟨rfl,rfl⟩
 obtain⟨rfl,rfl⟩:=q1;have r1:σ[i]?=some (some v1):=r1;refine⟨F1,aC,_,R1,q,λvs H2 F2 ds bq s2 R2 r2 q2=>?_⟩
 split at q2
 ·rename_i xs ex
  obtain⟨a,us,w1,w2,w3,w4,w5⟩:=R2.own i xs ex;rw[r1]at w1;cases w1;show pD sp ((.ref a::vs)++[]) H2 Q E0;rw[List.append_nil];refine⟨F2,xs,ds,a,us,vs,_,rfl,⟨R2.fr,R2.ob.tab⟩,w2,w3,w4,r2,q2,λv H' F' b zs sV t1 t2 t3 t4 t5 t6 t7 t8 t9=>?_⟩;have R3:=R2.yA ex r1 t1 t2 t3 t4 t5 t6 t7;cases b with
  | sh d=>exact K v H' F' (.val d) _ ((s1.trans s2).trans t1) R3 t8 t9
  | own ws =>
   obtain⟨c,cs,rfl,z1,z2,z3,z4⟩:=t8;refine K _ H' F' (.own ws) _ ((s1.trans s2).trans t1) R3 ⟨c,cs,rfl,z1,z2,z3,(R2.dQ z4).1,(R2.eQ z4).BF ex⟩ t9
  | obj o =>
   obtain⟨c,rfl,z1,z2⟩:=t8;exact K _ H' F' (.obj o) _ ((s1.trans s2).trans t1) R3 ⟨c,rfl,z1,λb hb=>⟨(z2 b hb).1,(z2 b hb).2.1,(R2.dQ (z2 b hb).2.2).1,(R2.eQ (z2 b hb).2.2).BF ex⟩⟩ t9
 ·exact q2.elim
def bB(n:Nat)(xs ds:List D):Sd:=some (.own xs)::aW (n-1) ds
def tT(Q:B->List D->Prop)(b:B)(σ:Sd):Prop:=match σ[(0:Nat)]? with
 | some (some (.own ys))=>Q b ys
 | _=>False
theorem RS.bB{F H:Hp}{a:Addr}{us rest:List V}{xs ds:List D}(n:Nat)(hn:1<=n)(s:uP F H)(ha:H a=some (.lst us))(ru:aG F us xs)(fa:F a=none)(r:aG F rest ds):
  RS ⟨H,F,[(0,a)],[]⟩ F (bB n xs ds) ((V.ref a::rest).map some++List.replicate (n-(V.ref a::rest).length) none) H where
 len:=by unfold Vc.bB aW;simp [r.length];omega
 lo:=aA.refl _
 fr:=s.1
 fN:=λb o e=>.inl e
 old:=λb o e _=>e
 sh:=λi d e=>by
  cases i with
  | zero=>unfold Vc.bB at e;simp at e
  | succ i =>
   have e':(aW (n-1) ds)[i]?=some (some (.sh d)):=by unfold Vc.bB at e;simpa using e
   obtain⟨v,h1,h2⟩:=ml (n-1-ds.length) r e';refine⟨v,?_,h2⟩;have:n-(V.ref a::rest).length=n-1-ds.length:=by rw[List.length_cons,r.length];omega
   rw[this];simpa using h1
 own:=λi zs e=>by
  cases i with
  | zero =>
   unfold Vc.bB at e;simp at e;subst e;exact⟨a,us,by simp,ha,ru,fa,.inr (by simp [bN.OB])⟩
  | succ i =>
   have e':(aW (n-1) ds)[i]?=some (some (.own zs)):=by unfold Vc.bB at e;simpa using e
   exact absurd e' (eF _ _ _ _)
 dis:=λi j zs ys b e1 e2 _ _=>by
  have z:∀ {i:Nat} {zs:List D},(Vc.bB n xs ds)[i]?=some (some (.own zs))->i=0:=λ{i zs} e=>by
   cases i with
   | zero=>rfl
   | succ i =>
    have e':(aW (n-1) ds)[i]?=some (some (.own zs)):=by unfold Vc.bB at e;simpa using e
    exact absurd e' (eF _ _ _ _)
  rw[z e1,z e2]
 io:=λp hp=>by
  have:p=(0,a):=by simpa using hp
  subst this;exact⟨by simp,xs,rfl⟩
 ob:=.none (λi o e=>by
  cases i with
  | zero=>unfold Vc.bB at e;simp at e
  | succ i =>
   have e':(aW (n-1) ds)[i]?=some (some (.obj o)):=by unfold Vc.bB at e;simpa using e
   exact absurd e' (jH _ _ _ _)) s.2 λb hb=>by cases hb
theorem DB{x qual:Str}{st:Stmt}{f:Addr}{fd:FuncData}{N ps:List Str}{sp:jP}{t:cJ}(hK:G.K=KF.K)(Fn:FQ G.K x qual st f fd)(Sc:aL N ps (ai st))(ht:d8 G k ⟨N,(ai st).names,[0],false,false,false,λ_ _=>False⟩ (av st) t)(hn:1<=N.length)
  (len:∀xs ds Q,sp xs ds Q->ds.length+1=ps.length)
  (body:∀xs ds Q,sp xs ds Q->t {nx:=tT Q (.sh .bC),rt:=λb σ=>tT Q b σ} (bB N.length xs ds)):d9 G.P G.w G.K G.mg G.base sW (k+1) f fd ps (pD sp):=by
 refine Fn.ok Sc (λvs H Q E h=>?_) (λjb A outer s H vs Q E hr h=>?_)
 ·obtain⟨F,xs,ds,a,us,rest,Qd,rfl,s,h1,h2,h3,r,q,K⟩:=h
  rw[List.length_cons,r.length];exact len _ _ _ q
 ·obtain⟨F,xs,ds,a,us,rest,Qd,rfl,sm,h1,h2,h3,r,q,K⟩:=h
  refine⟨_,ht (qp sW G.P G.w G.K G.mg G.base N qual (ai st) f jb A outer s H E).OH ⟨H,F,[(0,a)],[]⟩ ⟨rfl,rfl,rfl,hK,rfl,rfl,rfl,rfl,Sc.nd,λp hp=>by
   have:p=(0,a):=by simpa using hp
   subst this;simp,(λ_ h=>nomatch h),λ_=>rfl,Sc.kind,λ_ _ _=>rfl,λ_=>hr.hd,hr.dp,hr.un,λ_=>PassesOwn.never,λ_=>⟨rfl,rfl,rfl⟩,λ_ _ h=>h.elim,λh=>nomatch h⟩,F,bB N.length xs ds,_,RS.bB _ hn sm h1 h2 h3 r,body xs ds Qd q,?_⟩
  have same:∀ {F':Hp} {aq:Sd} {σ:St} {H':Hp},RS ⟨H,F,[(0,a)],[]⟩ F' aq σ H'->∀c o,c≠a->H c=some o->H' c=some o:=λR c o hc e=>R.old c o e (by simpa [bN.Gr]using hc)
  have fin:∀ {F':Hp} {aq:Sd} {σ:St} {H':Hp} {v:V} {b:B},aA F F'->RS ⟨H,F,[(0,a)],[]⟩ F' aq σ H'->G3 H F' H' v b->tT Qd b aq->Q v H':=λ{F' aq σ H' v b} s' R' r' q'=>by
   unfold tT at q'
   split at q'
   ·rename_i ys ey
    obtain⟨c,sV,w1,w2,w3,w4,w5⟩:=R'.own 0 ys ey;have i0:=(R'.io (0,a) (by simp)).1
    rw[i0]at w1;cases w1;exact K v H' F' b ys sV s' R'.fr (same R') w2 w3 w4 R'.fN r' q'
   ·exact q'.elim
  refine⟨λσ H' F' aq s' R' q'=>?_,λv σ H' F' aq b s' R' r' q'=>?_,λ_ _ _ _ _ _ h=>h.elim,λ_ _ _ _ _ _ h=>h.elim⟩
  ·exact fin (b:=.sh .bC) s' R' .bC q'
  ·refine fin (b:=b) s' R' ?_ q'
   cases b with
   | sh d=>exact r'
   | own xs =>
    obtain⟨a,us,rfl,w1,w2,w3,w4,w5⟩:=r';exact⟨a,us,rfl,w1,w2,w3,w4⟩
   | obj o =>
    obtain⟨a,rfl,w1,w2⟩:=r';exact⟨a,rfl,w1,λb hb=>⟨(w2 b hb).1,(w2 b hb).2.1,(w2 b hb).2.2.1⟩⟩
theorem cG.UP{x:Str}{st:Stmt}{ps N:List Str}{f:Addr}{fd:FuncData}{t:cJ}{sp:jP}(d:cG G x st ps f fd)(hK:G.K=KF.K)(Sc:aL N ps (ai st))(ht:d8 G k ⟨N,(ai st).names,[0],false,false,false,λ_ _=>False⟩ (av st) t)(hn:1<=N.length)
  (len:∀xs ds Q,sp xs ds Q->ds.length+1=ps.length) (body:∀xs ds Q,sp xs ds Q->t {nx:=tT Q (.sh .bC),rt:=λb σ=>tT Q b σ} (bB N.length xs ds)):f6 G (k+1) x sp:=
 ⟨f,fd,ps,DB hK d.F Sc ht hn len body,d.m,d.F.kp,d.b⟩
end Vc
namespace Vc
open PySem L2
variable [KF]
variable {G:GE}{k:Nat}{S:Stat}
def ay(S:Stat)(scope:Scope)(N':List Str)(m:Nat):Stat:=⟨N',iA scope.names S.sc,[m],true,false,false,λ_ _=>False⟩
theorem gI{X X':Cx}{Y:bN}{scope:Scope}{N':List Str}{caps:List (Option Nat)}{m:Nat}(hh:S.mL=false)(ok:dH X G k S Y)(b:gU S scope N' caps)(c:jN X X' scope N')(Y':bN)(dq:∀p∈Y'.io,p.1=m):dH X' G k (ay S scope N' m) Y':=
 have z:=hJ hh ok b c ⟨Y'.H0,Y'.F0,[],[]⟩ rfl
 ⟨z.P,z.w,z.K,z.kf,z.mg,z.base,z.N,z.sc,z.nd,λp hp=>by rw[dq p hp];exact List.mem_singleton.mpr rfl,(λh=>nomatch h),z.calm,z.kind,(λh=>by cases h),z.hd,z.dp,z.un,z.po,(λh=>nomatch h),(λ_ _ h=>h.elim),λh=>nomatch h⟩
def ownAt(m:Nat)(σ:Sd)(Q:List D->Prop):Prop:=match σ[m]? with
 | some (some (.own ys))=>Q ys
 | _=>False
def gH(g:kj)(tc:TB)(te:TD)(qb:Sd)(m:Nat):List D->List D->List D->(List D->List D->Prop)->Prop
 | [],acc,xs,Q=>Q acc xs
 | x::r,acc,xs,Q=>g x (qb.set m (some (.own xs))) λaC=>tc aC λb bq=>if b=true then te bq λd d7=>kr qb d7/\acc.length<sizeLine/\ownAt m d7 λys=>gH g tc te qb m r (acc++[d]) ys Q
  else kr qb bq/\ownAt m bq λys=>gH g tc te qb m r acc ys Q
def fZ(ios:List Nat)(caps:List (Option Nat))(j m:Nat)(ti:gh)(g:kj)(tc:TB)(te:TD):TX:=λσ Q=>ti σ λitems aC=>qR ios (caps.set m none) aC λbq=>ownAt j bq λxs=>gH g tc te (dn (caps.set m none) bq) m items [] xs λds ys=>Q (.own ds) (bq.set j (some (.own ys)))
theorem yE{Y:bN}{F:Hp}{aq:Sd}{σ:St}{H:Hp}(R:RS Y F aq σ H)(caps:List (Option Nat))(m:Nat){F' H':Hp}(s1:aA F F')(s2:aA F' H'):RS ⟨H',F',[],[]⟩ F' (dn (caps.set m none) aq) (e9 caps σ) H':=by
 have R0:=uU R (caps.set m none) s1 s2;refine⟨by unfold dn e9;simp,R0.lo,R0.fr,R0.fN,R0.old,λi d e=>?_,λi xs e=>absurd e (bZ _ _ _ _),λi j xs ys a e=>absurd e (bZ _ _ _ _),λp hp=>(by cases hp),.none (bX _ _) R0.ob.tab λb hb=>by cases hb⟩
 obtain⟨v,h1,h2⟩:=R0.sh i d e;refine⟨v,?_,h2⟩
 by_cases hi:i=m
 ·subst hi
  unfold dn at e;rw[List.getElem?_map]at e
  by_cases hl:i<caps.length
  ·rw[List.getElem?_set_self hl]at e;cases e
  ·rw[List.getElem?_eq_none (by rw[List.length_set];omega)]at e;cases e
 ·unfold e9 at h1 ⊢
  rw[List.getElem?_map]at h1 ⊢;rw[List.getElem?_set_ne (Ne.symm hi)]at h1;exact h1
theorem RS.inner{Y:bN}{F:Hp}{qb aq:Sd}{σ:St}{H:Hp}{m:Nat}{a:Addr}{us:List V}{xs:List D}(R:RS Y F aq σ H)(l:kr qb aq)(rC:∀(i:Nat) (xs:List D),qb[i]?≠some (some (.own xs)))(A7:∀(i:Nat) (o:O),qb[i]?≠some (some (.obj o)))(hm:m<qb.length)(h:σ[m]?=some (some (.ref a)))(r:aG F us xs)(fa:F a=none){H':Hp}(s:aA F H')(ha:H' a=some (.lst us)):
  RS ⟨H',F,[(m,a)],[]⟩ F (qb.set m (some (.own xs))) σ H' where
 len:=by rw[List.length_set];exact(kE l).trans R.len
 lo:=aA.refl _
 fr:=s
 fN:=λb o e=>.inl e
 old:=λb o e _=>e
 sh:=λi d e=>by
  rcases gs e with⟨_,z⟩|⟨_,e⟩
  ·cases z
  ·exact R.sh i d (kC l e)
 own:=λi zs e=>by
  rcases gs e with⟨rfl,z⟩|⟨_,e⟩
  ·cases z
   exact⟨a,us,h,ha,r,fa,.inr (by simp [bN.OB])⟩
  ·exact absurd e (rC i zs)
 dis:=λi j zs ys b e1 e2 _ _=>by
  have z:∀ {i:Nat} {zs:List D},(qb.set m (some (B.own xs)))[i]?=some (some (.own zs))->i=m:=λ{i zs} e=>by
   rcases gs e with⟨rfl,_⟩|⟨_,e⟩
   ·rfl
   ·exact absurd e (rC i zs)
  rw[z e1,z e2]
 io:=λp hp=>by
  have:p=(m,a):=by simpa using hp
  subst this;exact⟨h,xs,by rw[jV hm]⟩
 ob:=.none (λi o e=>by
  rcases gs e with⟨_,z⟩|⟨_,e⟩
  ·cases z
  ·exact A7 i o e) R.ob.tab λb hb=>by cases hb
def W4(m:Nat)(g:kj):TG:=λv σ H Q=>∃Y:bN,(∀p∈Y.io,p.1=m)/\lG Y g v σ H Q
def WZ(m:Nat)(t:TB):TT:=λσ H Q=>∃Y:bN,(∀p∈Y.io,p.1=m)/\lB Y t σ H Q
def W2(m:Nat)(t:TD):TE:=λσ H Q=>∃Y:bN,(∀p∈Y.io,p.1=m)/\lD Y t σ H Q
section
variable {elt target iter:Expr}{ifs:List Expr}{scope:Scope}{pos:Pos}{N':List Str}{caps:List (Option Nat)}{ti:gh}{g:kj}{tc:TB}{te:TD}{j m:Nat}
theorem nh{X:Cx}{Y:bN}(hh:S.mL=false)(ok:dH X G k S Y)(b:gU S scope N' caps)(hg:EG G k (ay S scope N' m) target g)(ht:Dd G k (ay S scope N' m) ifs tc)(he:ED G k (ay S scope N' m) elt te):
  ∀X',jN X X' scope N'->PG X' target (W4 m g)/\Di X' ifs (WZ m tc)/\PE X' elt (W2 m te):=λX' c =>
 ⟨λpins s σ H v u Q I r ⟨Y',dq,q⟩=>hg X' Y' (gI hh ok b c Y' dq) pins s σ H v u Q I r q,λpins s σ H Q I ⟨Y',dq,q⟩=>ht X' Y' (gI hh ok b c Y' dq) pins s σ H Q I q,λpins s σ H Q I ⟨Y',dq,q⟩=>he X' Y' (gI hh ok b c Y' dq) pins s σ H Q I q⟩
theorem pz{α:Type}(l:List α)(i:Nat)(a b:α):(l.set i a).set i b=l.set i b:=by simp
theorem oj{Y:bN}{ios:List Nat}(dq:∀p∈Y.io,p.1∈ios)(tR:caps[m]?=some (some j)){σ:St}{H:Hp}{Q:VK}(q:lX Y (fZ ios caps j m ti g tc te) σ H Q):jJ (lI Y ti) caps (W4 m g) (WZ m tc) (W2 m te) σ H Q:=by
 obtain⟨F,aq,Qd,R,q,K⟩:=q;refine⟨F,aq,_,R,q,λH1 F1 CP J items s1 R1 it q1 acc d2=>?_⟩;obtain⟨F2,cW,s2,R2,q2⟩:=dR dq R1 q1;unfold ownAt at q2
 split at q2
 ·rename_i GO e0
  have WT:=it.mono s2;have a0:Y.H0 acc=none:=(R2.dQ d2).1;have aF:F2 acc=none:=same_none R2.fr d2;obtain⟨a,Zc,Yd,UQ,Ye,Yf,ha5⟩:=R2.own j GO e0;have Oh:a≠acc:=λz=>by rw[z,d2]at UQ;cases UQ
  have hj:j<cW.length:=(List.getElem?_eq_some_iff.mp e0).1;have aN:∀(xs:List D),dC (cW.set j (some (.own xs))) σ acc:=λxs=>(R2.eQ d2).BF e0;have sw:∀ {F5 H5:Hp} {o:HO},aA F5 H5->F5 acc=none->aA F5 (upd H5 acc o):=λ{F5 H5 o} s5 h b u e=>by
   have:b≠acc:=λz=>by rw[z,h]at e;cases e
   rw[az this];exact s5 b u e
  have hm:m<(dn (caps.set m none) cW).length:=by
   unfold dn;rw[List.length_map,List.length_set];exact(List.getElem?_eq_some_iff.mp tR).1
  have Yj:(e9 caps σ)[m]?=some (some (.ref a)):=by
   unfold e9;rw[List.getElem?_map,tR];show some ((σ[j]?).join)=_;rw[Yd];rfl
  have X4:cW.set j (some (.own GO))=cW:=by
   apply List.ext_getElem?;intro i
   by_cases hi:i=j
   ·subst hi;rw[jV hj,e0]
   ·rw[bK hi]
  refine⟨λi mm aC H'=>∃Fi ds ys xs us,aA F2 Fi/\RS Y Fi (cW.set j (some (.own xs))) σ H'/\H' acc=some (.lst ys)/\aG Fi ys ds/\Fi acc=none/\H' a=some (.lst us)/\aG Fi us xs/\Fi a=none/\aC[m]?=some (some (.ref a))/\RS ⟨H',Fi,[(m,a)],[]⟩ Fi ((dn (caps.set m none) cW).set m (some (.own xs))) aC H'/\gH g tc te (dn (caps.set m none) cW) m (items.drop i) ds xs (λds ys=>Qd (.own ds) (cW.set j (some (.own ys))))/\mm=items.length-i/\i<=items.length,
   ⟨items.length,F2,[],[],GO,Zc,aA.refl _,by rw[X4];exact R2.other aF a0 (X4 ▸ aN GO),aR,.nil,aF,by rw[az Oh];exact UQ,Ye,Yf,Yj,?_,q2,rfl,Nat.zero_le _⟩,?_⟩
  ·exact(yE R2 caps m (aA.refl _) (sw (o:=.lst []) R2.fr aF)).inner (fu _) (bZ _ _) (bX _ _) hm Yj Ye Yf (sw R2.fr aF) (by rw[az Oh];exact UQ)
  rintro i mm aC Hi ⟨Fi,ds,ys,xs,us,si,Ri,ie,ri,fi,V3,rui,Zt,ZW,Vr,qi,rfl,hi⟩;have AR:=WT Fi Hi si Ri.fr i
  by_cases hl:i<items.length
  ·right
   have hd:items.drop i=items[i]::items.drop (i+1):=by rw[List.drop_eq_getElem_cons hl]
   rw[hd]at qi;obtain⟨go,yl⟩:=AR.1 items[i] (by rw[List.getElem?_eq_getElem hl])
   refine⟨go,λv H' y=>?_⟩;obtain⟨F3,gr,rep⟩:=yl v H' y;have sF:aA Fi F3:=gr.same Ri.fr;have R3:=gr.rs Vr;have sH:aA Hi H':=by
    rcases gr with⟨_,rfl⟩|⟨p,o,hp,_,rfl⟩
    ·exact aA.refl _
    ·exact aM hp
   have Jm:∀c o,F3 c=some o->Fi c=some o\/Nw Hi c o:=λc o e=>by
    rcases gr with⟨rfl,_⟩|⟨p,o',hp,rfl,_⟩
    ·exact .inl e
    ·by_cases hc:c=p
     ·subst hc;exact .inr (.inl hp)
     ·rw[az hc]at e;exact .inl e
   have Zr:F3 a=none:=by
    cases e:F3 a with
    | none=>rfl
    | some o =>
     rcases Jm a o e with z|z
     ·rw[Zt]at z;cases z
     ·rcases z with z|⟨ws,rfl⟩
      ·rw[V3]at z;cases z
      ·have y:=R3.fr a _ e;rw[sH a _ V3]at y;cases y
   have lec:kr (dn (caps.set m none) cW) ((dn (caps.set m none) cW).set m (some (.own xs))):=by
    have:∀(l:Sd) (n:Nat),l[n]?=some none->∀b,kr l (l.set n b):=by
     intro l
     induction l with
     | nil=>intro n h;cases h
     | cons c l ih =>
      intro n h b;cases n with
      | zero =>
       simp at h;subst h;exact fu l
      | succ n =>
       have h:l[n]?=some none:=by simpa using h
       cases c with
       | none=>exact ih n h b
       | some c=>exact⟨rfl,ih n h b⟩
    refine this _ m ?_ _;unfold dn;rw[List.getElem?_map,List.getElem?_set_self (List.getElem?_eq_some_iff.mp tR).1];rfl
   have Vp:RS ⟨H',F3,[(m,a)],[]⟩ F3 ((dn (caps.set m none) cW).set m (some (.own xs))) aC H':=R3.inner lec (bZ _ _) (bX _ _) hm ZW (rui.mono sF) Zr R3.fr (sH _ _ V3)
   -- behind the turn
   have back:∀ {F5 H5:Hp} {mV:Sd} {OW:St} {zs:List D},aA F3 F5->RS ⟨H',F3,[(m,a)],[]⟩ F5 mV OW H5->mV[m]?=some (some (.own zs))->RS Y F5 (cW.set j (some (.own zs))) σ H5/\H5 acc=some (.lst ys)/\F5 acc=none/\aA Fi F5/\∃ws,H5 a=some (.lst ws)/\aG F5 ws zs/\F5 a=none/\OW[m]?=some (some (.ref a)):=λ{F5 H5 mV OW zs} s5 R5 ez=>by
    have i5:=(R5.io (m,a) (by simp)).1
    obtain⟨c,ws,w1,w2,w3,w4,_⟩:=R5.own m zs ez;rw[i5]at w1;cases w1;have MK:∀c o,c≠a->Hi c=some o->H5 c=some o:=λc o hc e=>R5.old c o (sH c o e) (by simpa [bN.Gr]using hc)
    have CW:∀c o,F5 c=some o->Fi c=some o\/Nw Hi c o:=λc o e=>by
     rcases R5.fN c o e with z|z
     ·exact Jm c o z
     ·exact .inr (z.imp sH.free id)
    have Ro:=Ri.yA (i:=j) (xs:=xs) (ys:=zs) (by rw[jV hj]) Yd (sF.trans s5) R5.fr MK w2 w3 w4 CW
    rw[pz]at Ro;refine⟨Ro,MK acc _ (Ne.symm Oh) ie,?_,sF.trans s5,ws,w2,w3,w4,i5⟩;cases e:F5 acc with
    | none=>rfl
    | some o =>
     rcases CW acc o e with z|z
     ·rw[fi]at z;cases z
     ·rcases z with z|⟨ws,rfl⟩
      ·rw[ie]at z;cases z
      ·have y:=R5.fr acc _ e;rw[MK acc _ (Ne.symm Oh) ie]at y;cases y
   refine⟨⟨H',F3,[(m,a)],[]⟩,λp hp=>by rw[List.mem_singleton.mp hp],F3,_,items[i],_,Vp,rep,qi,λC7 H4 F4 mC s4 R4 q4=>?_⟩
   refine⟨⟨H',F3,[(m,a)],[]⟩,λp hp=>by rw[List.mem_singleton.mp hp],F4,mC,_,R4,q4,λb H5 F5 mV s5 R5 q5=>?_⟩
   cases b with
   | false =>
    obtain⟨le,q5⟩:=q5;unfold ownAt at q5
    split at q5
    ·rename_i zs ez
     obtain⟨w1,w2,w3,w4,ws,v1,v2,v3,v4⟩:=back (s4.trans s5) R5 ez;exact⟨items.length-(i+1),by omega,F5,ds,ys,zs,ws,si.trans w4,w1,w2,ri.mono w4,w3,v1,v2,v3,v4,R5.inner le (bZ _ _) (bX _ _) hm v4 v2 v3 R5.fr v1,q5,rfl,hl⟩
    ·exact q5.elim
   | true =>
    refine⟨⟨H',F3,[(m,a)],[]⟩,λp hp=>by rw[List.mem_singleton.mp hp],F5,mV,_,R5,q5,λv6 H6 F6 d XU s6 R6 r6 q6=>?_⟩
    obtain⟨le,hz,q6⟩:=q6;unfold ownAt at q6
    split at q6
    ·rename_i zs ez
     obtain⟨w1,w2,w3,w4,ws,v1,v2,v3,v4⟩:=back ((s4.trans s5).trans s6) R6 ez;exact⟨ys,items.length-(i+1),w2,by rw[ri.length];exact hz,by omega,F6,ds++[d],ys++[v6],zs,ws,si.trans w4,w1.other w3 a0 (aN zs),aR,(ri.mono w4).append (.cons r6 .nil),w3,by rw[az Oh];exact v1,v2,v3,v4,
      R6.inner le (bZ _ _) (bX _ _) hm v4 v2 v3 (sw R6.fr w3) (by rw[az Oh];exact v1),q6,rfl,hl⟩
    ·exact q6.elim
  ·left
   have e:i=items.length:=by omega
   subst e;rw[List.drop_length]at qi;exact⟨AR.2 rfl,K _ Hi Fi (.own ds) _ ((s1.trans s2).trans si) Ri ⟨acc,ys,rfl,ie,ri,fi,a0,aN xs⟩ qi⟩
 ·exact q2.elim
theorem rT(i j m:Nat){y:Str}{py eE:Pos}(hi:EI G k S target iter ti)(b:gU S scope N' caps)(hg:EG G k (ay S scope N' m) target g)(ht:Dd G k (ay S scope N' m) ifs tc)(he:ED G k (ay S scope N' m) elt te)
  (tR:caps[m]?=some (some j):=by rfl) (hy:S.N[i]?=some y:=by rfl) (hx:S.sc.lookup y=some .local\/(S.sc.lookup y=some .cell/\S.yy=false):=by first|exact Or.inl rfl|exact Or.inr ⟨rfl,rfl⟩) (hn:i∉S.ios:=by first|decide|exact List.not_mem_nil | (dsimp only;decide)) (hl:(py.line==pos.line)=true:=by rfl) (Gn:(scope.names.any λ(n,k)=>n==y&&(k==.local||k==.cell))=false:=by decide +kernel)
  (hs:∀env x,foldedSetIterable iter env x=pure x:=by intro _ _;rfl) (hh:S.mL=false:=by rfl):ES G k S (.Assign [.Name y py] (.ListComp elt [⟨target,iter,ifs,0⟩] scope pos) eE) (dw S.ios i (fZ S.ios caps j m ti g tc te)):=.mk λX Y ok=>by
 have sw:swapsWith (.ListComp elt [⟨target,iter,ifs,0⟩] scope pos) (some (.Name y py)) eE.line X.env=pure (S.sc.lookup y==some .local):=by
  have e:swapsWith (.ListComp elt [⟨target,iter,ifs,0⟩] scope pos) (some (.Name y py)) eE.line X.env=pure (X.env.blockKind==.function&&X.env.kindOf y==some .local&&py.line==pos.line&&!(scope.names.any λ(n,k)=>n==y&&(k==.local||k==.cell))):=rfl
  have kb:X.env.blockKind=.function:=by unfold Env.blockKind;rw[ok.kind];rfl
  have kd:X.env.kindOf y=S.sc.lookup y:=by
   show X.env.scope.names.lookup y=_;rw[ok.sc]
  rw[e,kb,kd,hl,Gn];simp
 have fin:∀Dn σ H,lS Y (dw S.ios i (fZ S.ios caps j m ti g tc te)) Dn σ H->BR (jJ (lI Y ti) caps (W4 m g) (WZ m tc) (W2 m te)) (nk i) Dn σ H:=λDn σ H q=>by
  obtain⟨F,aq,De,R,q,K⟩:=q;refine oj ok.ios tR ⟨F,aq,_,R,q,λv H1 F1 y aC s1 R1 r1 q1=>?_⟩;obtain⟨F2,bq,s2,R2,q2⟩:=jG R1 r1 hn ok.ios q1;exact K.nx _ H1 F2 bq (s1.trans s2) R2 q2
 rcases hx with hx|hx
 ·refine dy (vF (i:=i) (ok.calm hh) (hi X Y ok) (b.sc ok) (nh hh ok b hg ht he) (hs _) (by rw[ok.N];exact ok.nd) (by rw[ok.N];exact hy) (by rw[ok.sc];exact hx) (by rw[sw,hx];rfl)) fin
 ·refine dy (L2.ug (i:=i) (by rw[ok.N];exact ok.nd) (by rw[ok.N];exact hy) (oM ok (.inr hx)) (oV (ok.calm hh) (hi X Y ok) (b.sc ok) (nh hh ok b hg ht he) (hs _)) (by rw[sw,hx.1];rfl) (oD ok (.inr hx))) fin
end
end Vc
namespace Vc
open PySem L2
variable [KF]
variable {G:GE}{k:Nat}{S:Stat}
def kH(i j:Int):Prop:=0<j/\j<2^200
theorem Ba{X:Cx}:f9 X (binaryOp .FloorDiv) (rI kH λi j=>.int (i/j)):=U7 λi j _ _ _ _ _ hc q=>by
 have h1:(0:Int)<j:=hc.1;have h2:j<2^200:=hc.2;refine PyProof.Rows.floordiv_int ⋯ (by rw[Int.fdiv_eq_ediv_of_nonneg i ⋯];exact q) (.inl (PyProof.noPylong_of_log2 ?_))
 have h3:j.natAbs<2^200:=by omega
 exact(Nat.log2_lt ⋯).mpr (Nat.lt_of_lt_of_le h3 (Nat.pow_le_pow_right ∅ ∅))
def kW:=OA kH λi j=>i/j
theorem iy{a b:Expr}{ta tb:TV}{pos:Pos}(ha:EO G k S a ta)(hb:EO G k S b tb):EX G k S (.BinOp a .FloorDiv b pos) (bf kW ta tb):=nH (r:=λ_=>_) (λ_=>Ba) (λ_=>k7) ha hb
end Vc
namespace Vc
open PySem L2
variable [KF]
variable {G:GE}{k:Nat}{S:Stat}
def TL:V->V->Hp->VK->Prop:=λo i H Q=>∃p xs j z,o=.ref p/\i=.int j/\0<=j/\H p=some (.lst xs)/\xs[j.toNat]?=some z/\Q z H
theorem Ae{X:Cx}:Pb X TL:=by
 intro pins s σ H o i ov iv Q I ro ri h;obtain⟨p,xs,j,z,rfl,rfl,h0,hp,hz,q⟩:=h;cases ro;obtain⟨t,rfl⟩:=ri;obtain⟨hsz,its,n,r,hl,e⟩:=I.Si hp;obtain⟨w,ew,T3⟩:=r.get hz;have hj:j.toNat<xs.length:=(List.getElem?_eq_some_iff.mp hz).1;have h24:(sizeLine:Nat)=2^24:=rfl;exact wpAny_getItem_list (items:=its.toArray) ⟨_,e,rfl,n,rfl⟩ h0 ⋯ (by simpa using ew) ⟨z,H,I,T3,q⟩
def Hs(i:Nat)(j e:Int)(σ:Sd)(Q:Sd->Prop):Prop:=match σ[i]? with
 | some (some (.own xs))=>match xs[j.toNat]? with
  | some (.int z)=>0<=j/\Q (σ.set i (some (.own (xs.set j.toNat (.int (z+e))))))
  | _=>False
 | _=>False
def BU(i:Nat)(tx:TV)(c:Int):cJ:=λDe σ=>qU σ i/\tx σ λy aC=>match eK aC y with
 | some (.int j)=>Hs i j c aC De.nx
 | _=>False
theorem GJ(i:Nat){x:Str}{ix:Expr}{tx:TV}{c:Int}{pos eE gk gJ:Pos}{cj:Nat}(ho:EO G k S (.Name x gk) (ag i))(hx:EO G k S ix tx)(he:EO G k S (.Constant (.int c) cj gJ) (aZ (.int c)))
  (ha:∀ov iv new,augStore ix ov iv new=(do holding [new,ov,iv] (setItem ov iv new);release [new,ov,iv] [];pure .next):=by intros;rfl):ES G k S (.AugAssign (.Subscript (.Name x gk) ix eE) .Add (.Constant (.int c) cj gJ) pos) (BU i tx c):=.mk λX Y ok =>
 vG (Eo (ho X Y ok) (hx X Y ok) Ae (he X Y ok) JS set_list ha) λDn σ H q=>by
  obtain⟨F,aq,De,R,⟨⟨ys,e0⟩,q⟩,K⟩:=q;refine⟨F,aq,λov bq=>ov=.var i/\bq=aq,R,?_,λv2 H2 F2 ov bq s2 R2 r2 q2=>?_⟩
  ·unfold ag;rw[e0];exact⟨rfl,rfl⟩
  obtain⟨rfl,rfl⟩:=q2;have r2:σ[i]?=some (some v2):=r2;refine⟨F2,bq,_,R2,q,λv3 H3 F3 y d7 s3 R3 r3 q3=>?_⟩
  split at q3
  ·rename_i j ej
   unfold Hs at q3
   split at q3
   ·rename_i xs ex
    split at q3
    ·rename_i z ez
     obtain⟨a,vs,w1,w2,w3,w4,w5⟩:=R3.own i xs ex;rw[r2]at w1;cases w1;have rj:=(R3.eK r3 ej).int;subst rj;obtain⟨u,eu,ru⟩:=w3.get ez;cases ru;refine⟨a,vs,j,_,rfl,rfl,q3.1,w2,eu,F3,d7,λov C7=>ov=.val (.int c)/\C7=d7,R3,⟨rfl,rfl⟩,λv4 H4 F4 ov C7 s4 R4 r4 q4=>?_⟩;obtain⟨rfl,rfl⟩:=q4;have r4:Rep F4 v4 (.int c):=r4;cases r4;refine⟨z,c,rfl,rfl,?_⟩;obtain⟨a',vs',y1,y2,y3,y4,y5⟩:=R4.own i xs ex;rw[r2]at y1;cases y1;have Yu:j.toNat<xs.length:=(List.getElem?_eq_some_iff.mp ez).1;refine⟨a,vs',j,j.toNat,rfl,rfl,y2,?_,?_⟩
     ·unfold vt
      rw[if_pos q3.1,if_pos (by rw[y3.length];omega)]
     ·exact K.nx _ _ F4 _ ((s2.trans s3).trans s4) (R4.write ex r2 (aG.set (.int _) j.toNat y3)) q3.2
    ·exact q3.elim
   ·exact q3.elim
  ·exact q3.elim
end Vc
namespace Vc
open PySem L2
variable [KF]
variable {G:GE}{k:Nat}{S:Stat}
structure Vo(H H':Hp)(p:Addr)(as:List Addr)(cs:List Int):Prop where
 same:aA H H'
 list:H' p=some (.lst (as.map V.ref))
 fresh:∀b∈p::as,H b=none
 nd:(p::as).Nodup
 len:as.length=cs.length
 pot:∀(i:Nat) (a:Addr) (c:Int),as[i]?=some a->cs[i]?=some c->H' a=some (.lst [.int c,.int 0])
end Vc
namespace Vc
open PySem L2
variable [KF]
variable {G:GE}{k:Nat}{S:Stat}
def Gu(Y:bN):TS:=λDn σ H=>∃F ns,RS Y F [some (.sh (.lst (List.map D.int ns)))] σ H/\Y.H0=H/\(Y.io=[]/\Y.ob=[])/\ns.length<=63/\∀p as cs H',Vo H H' p as cs->Dn.rt (.ref p) H'
structure Fq(G:GE)(k:Nat)(S:Stat)(b:List Stmt) :Prop where
 run:∀X Y,dH X G k S Y->p9 X b (Gu Y)
instance {G:GE} {k:Nat} {S:Stat} {b:List Stmt} :CoeFun (Fq G k S b) λ_=>∀X Y,dH X G k S Y->p9 X b (Gu Y):=⟨Fq.run⟩
end Vc
namespace Vc
open PySem L2
variable [KF]
variable {G:GE}{k:Nat}{S:Stat}
theorem RP(a b:D)(Q:D->Prop):JV (.lst [a,b]) (.int 0) Q=Q a:=rfl
theorem RQ(a b:D)(Q:D->Prop):JV (.lst [a,b]) (.int 1) Q=Q b:=rfl
theorem JW:vt 2 0=some 0:=rfl
theorem JX:vt 2 1=some 1:=rfl
theorem ng{α:Type}{g:kj}{te:TD}{qb:Sd}{m:Nat}{Q:List D->List D->Prop}{GO:List D}(gi:α->D)(P:D->Prop)(Rk:List D->Prop)(l:List α)
  (h:∀a∈l,∀xs,Rk xs->∀(A:D->List D->Prop) (Z:Prop),Z->(∀d ys,P d->Rk ys->A d ys)->g (gi a) (qb.set m (some (.own xs))) λaC=>te aC λd d7=>kr qb d7/\Z/\ownAt m d7 λys=>A d ys)
  (hl:l.length<=sizeLine) (h0:Rk GO) (q:∀ds ys,ds.length=l.length->(∀d∈ds,P d)->Rk ys->Q ds ys):gH g cE te qb m (l.map gi) [] GO Q:=by
 have key:∀(l2:List α) (acc xs:List D),(∀a∈l2,a∈l)->acc.length+l2.length=l.length->(∀d∈acc,P d)->Rk xs->gH g cE te qb m (l2.map gi) acc xs Q:=by
  intro l2
  induction l2 with
  | nil=>intro acc xs _ hlen d2 hr;exact q acc xs (by simpa using hlen) d2 hr
  | cons a l2 ih =>
   intro acc xs hm hlen d2 hr;have Yz:acc.length+(l2.length+1)=l.length:=by simpa using hlen
   show g (gi a) _ λaC=>cE aC λb bq=>_;exact h a (hm a (List.mem_cons_self ..)) xs hr (λd ys=>gH g cE te qb m (l2.map gi) (acc++[d]) ys Q) (acc.length<sizeLine) ⋯ λd ys hd hy =>
    ih _ ys (λx hx=>hm x (List.mem_cons_of_mem _ hx)) (by rw[List.length_append,List.length_singleton];omega) (λx hx=>by
     rcases List.mem_append.mp hx with hx|hx
     ·exact d2 x hx
     ·rw[List.mem_singleton.mp hx];exact hd) hy
 exact key l [] GO (λ_ h=>h) (by simp) (λd hd=>by cases hd) h0
end Vc
namespace Vc
open PySem L2
variable [KF]
variable {G:GE}{k:Nat}{S:Stat}
def NR(te:TD)(g:kj):cJ:=λDe σ=>te σ λd aC=>g d aC De.nx
theorem T5{tg e:Expr}{te:TD}{g:kj}{pos:Pos}(he:ED G k S e te)(hg:EG G k S tg g)(hs:∀line env,swapsWithSole [tg] e line env=pure false:=by intro _ _;rfl)(hw:∀env,swappedStores [tg] e env=pure none:=by intro _;rfl)
  (h1:∀env,(assignEach [tg] env).map (·.2)=[assign tg env]:=by intro _;rfl):ES G k S (.Assign [tg] e pos) (NR te g):=.mk λX Y ok=>dy (L2.Bt (he X Y ok) (hg X Y ok) (hs _ _) (hw _) (h1 _)) λDn σ H q=>by
 obtain⟨F,aq,De,R,q,K⟩:=q;refine⟨F,aq,_,R,q,λv1 H1 F1 d aC s1 R1 r1 q1=>⟨F1,aC,d,_,R1,r1,q1,λcA H' F' aX s' R' q'=>K.nx cA H' F' aX (s1.trans s') R' q'⟩⟩
def inD(x:D)(xs:List D):Bool:=xs.any λy=>dD y x
def DR:D->D->(Bool->Prop)->Prop
 | x,.lst xs,Q=>(bI 8 x=true/\bI 8 (.lst xs)=true)/\Q (inD x xs)
 | x,.tup xs,Q=>(bI 8 x=true/\bI 8 (.tup xs)=true)/\Q (inD x xs)
 | _,_,_=>False
def xg(x y:D)(Q:Bool->Prop):Prop:=DR x y λb=>Q !b
def EC(neg:Bool):R2:=λv u H Q=>∃F x y xs,aA F H/\cg F H v x/\cg F H u y/\(y=.lst xs\/y=.tup xs)/\bI 8 x=true/\bI 8 y=true/\Q (.bl (if neg then !inD x xs else inD x xs)) H
theorem eG{x:D}(hx:bI 8 x=true):∀(xs:List D),xs.all (bI 7)=true->(de xs).any (λy=>PyData.eqv y (toPy x))=inD x xs
 | [],_=>rfl
 | y::xs,h=>by
  rw[List.all_cons,Bool.and_eq_true]at h;show(PyData.eqv (toPy y) (toPy x)||(de xs).any _)=(dD y x||inD x xs)
  rw[eG hx xs h.2,tJ 7 8 y x h.1 hx]
theorem Ls{X:Cx}(hu:X.A.units+64<cLine):f9 X (compareOp .In) (EC false):=by
 intro pins s σ H v u v' u' Q I rv ru h;obtain⟨F,x,y,xs,sm,rx,ry,hy,ox,oy,q⟩:=h;obtain⟨as,r1⟩:=rx.reads I.bU sm rv ox;obtain⟨bs,r2⟩:=ry.reads I.bU sm ru oy;have hx:=eR 8 x ox;rcases hy with rfl|rfl
 ·have Bb:xs.all (bI 7)=true:=oy
  have hl:=cM (n:=7) (eR 7) xs Bb;exact SeqAt.in_list_reads r2 r1 hl.1 hx.1 (by have:=Nat.min_le_right (PyData.depthAll (de xs)) (toPy x).depth;omega) ⟨.bl _,H,I,rfl,by rw[eG ox xs Bb];exact q⟩
 ·have Bb:xs.all (bI 7)=true:=oy
  have hl:=cM (n:=7) (eR 7) xs Bb;exact SeqAt.in_tuple_reads r2 r1 hl.1 hx.1 (by have:=Nat.min_le_right (PyData.depthAll (de xs)) (toPy x).depth;omega) ⟨.bl _,H,I,rfl,by rw[eG ox xs Bb];exact q⟩
theorem Eb{X:Cx}(hu:X.A.units+64<cLine):f9 X (compareOp .NotIn) (EC true):=by
 intro pins s σ H v u v' u' Q I rv ru h;obtain⟨F,x,y,xs,sm,rx,ry,hy,ox,oy,q⟩:=h;obtain⟨as,r1⟩:=rx.reads I.bU sm rv ox;obtain⟨bs,r2⟩:=ry.reads I.bU sm ru oy;have hx:=eR 8 x ox;rcases hy with rfl|rfl
 ·have Bb:xs.all (bI 7)=true:=oy
  have hl:=cM (n:=7) (eR 7) xs Bb;exact SeqAt.notIn_list_reads r2 r1 hl.1 hx.1 (by have:=Nat.min_le_right (PyData.depthAll (de xs)) (toPy x).depth;omega) ⟨.bl _,H,I,rfl,by rw[eG ox xs Bb];exact q⟩
 ·have Bb:xs.all (bI 7)=true:=oy
  have hl:=cM (n:=7) (eR 7) xs Bb;exact SeqAt.notIn_tuple_reads r2 r1 hl.1 hx.1 (by have:=Nat.min_le_right (PyData.depthAll (de xs)) (toPy x).depth;omega) ⟨.bl _,H,I,rfl,by rw[eG ox xs Bb];exact q⟩
theorem Dp:kh G k S .In DR:=⟨EC false,λX Y ok=>Ls ok.units,λY F H aq σ v u x y Qd Q R rx ry q K=>by
 unfold DR at q
 split at q
 ·exact⟨F,_,_,_,R.fr,rx,ry,.inl rfl,q.1.1,q.1.2,K _ q.2⟩
 ·exact⟨F,_,_,_,R.fr,rx,ry,.inr rfl,q.1.1,q.1.2,K _ q.2⟩
 ·exact q.elim⟩
theorem yz:kh G k S .NotIn xg:=⟨EC true,λX Y ok=>Eb ok.units,λY F H aq σ v u x y Qd Q R rx ry q K=>by
 unfold xg DR at q
 split at q
 ·exact⟨F,_,_,_,R.fr,rx,ry,.inl rfl,q.1.1,q.1.2,K _ q.2⟩
 ·exact⟨F,_,_,_,R.fr,rx,ry,.inr rfl,q.1.1,q.1.2,K _ q.2⟩
 ·exact q.elim⟩
end Vc
namespace Vc
open PySem L2 PySem.Spec PyProof.Rows
theorem kY{α β:Type}{f g:α->Option β}:∀ {xs:List α},(∀x∈xs,f x=g x)->xs.filterMap f=xs.filterMap g
 | [],_=>rfl
 | x::xs,h=>by
  rw[List.filterMap_cons,List.filterMap_cons,h x (List.mem_cons_self ..),kY λy hy=>h y (List.mem_cons_of_mem _ hy)]
theorem rM{α:Type}(xs:List α):∀m:Nat,m<=xs.length->(List.range m).filterMap (λk=>xs[xs.length-1-k]?)=xs.reverse.take m
 | 0,_=>by simp
 | m+1,h=>by
  rw[List.range_succ,List.filterMap_append,rM xs m ⋯,List.take_add_one]
  congr 1;rw[List.getElem?_reverse ⋯]
  cases h2:xs[xs.length-1-m]?<;>simp [h2]
theorem rL{α:Type}(xs:List α):(List.range xs.length).filterMap (λk=>xs[xs.length-1-k]?)=xs.reverse:=by
 rw[rM xs xs.length (Nat.le_refl _)];exact List.take_of_length_le (by rw[List.length_reverse];exact Nat.le_refl _)
theorem mQ(its:List Value):slicePick its.toArray none none (some (-1))=its.reverse.toArray:=by
 have hb:sliceBounds none none (some (-1)) its.toArray.size=((its.length:Int)-1,-1,-1):=by rw[List.size_toArray];rfl
 unfold slicePick;rw[hb];show((sliceRange ((its.length:Int)-1) (-1) (-1)).filterMap (its.toArray[·]?)).toArray=_
 unfold sliceRange;dsimp only;rw[if_neg (show¬((-1:Int)>0)by decide)]
 have e:(if(its.length:Int)-1 > -1 then((its.length:Int)-1 - -1 - -1-1)/(- -1)else 0).toNat=its.length:=by
  have:(- -1:Int)=1:=by decide
  rw[this,Int.ediv_one]
  split<;>omega
 rw[e,List.filterMap_map];congr 1;refine Eq.trans ?_ (rL its);refine kY λk hk=>?_;show its.toArray[((its.length:Int)-1+-1*(k:Int)).toNat]?=its[its.length-1-k]?;rw[List.getElem?_toArray];congr 1;have:=List.mem_range.mp hk;omega
section
variable {prog:Program}{w:World}{A:Around}{E:Value->Shared->Prop}{s:Shared}
theorem jy{sl:Addr}{u:Tok}{n:Nat}{Q:Int×Int×Nat->Shared->Prop}(hs:s.heap.IsSliceOf sl .none .none (.int (-1) u))
  (h:Q ((n:Int)-1,-1,n) s):wpAny (model prog w) A (Builtin.Slice.sliceApplied (.ref sl) (pure (n:Int))) Q E s:=by
 obtain⟨os,wO,Jx,C1⟩:=id hs;unfold Builtin.Slice.sliceApplied Builtin.Slice.sliceFields;refine wpAny_bind (wpAny_bind (wpAny_field wO C1 (x:=.none) rfl (wpAny_bind (wpAny_field wO C1 (x:=.none) rfl (wpAny_bind (wpAny_field wO C1 (x:=.int (-1) u) rfl (wpAny_pure ?_)))))));refine wpAny_bind (slicePart_int ?_);show wpAny _ _ (if((-1:Int)==0)=true then _ else _) _ _ s
 rw[if_neg ∅]
 refine wpAny_bind (slicePart_none (wpAny_bind (slicePart_none (wpAny_bind (wpAny_pure ?_)))));have e:Builtin.Slice.slicePlaces ((n:Int)-1) (-1) (-1)=n:=by
  unfold Builtin.Slice.slicePlaces;rw[if_neg ∅]
  have:(- -1:Int)=1:=by decide
  rw[this,Int.ediv_one]
  split<;>omega
 show wpAny _ _ (pure ((n:Int)-1,(-1:Int),Builtin.Slice.slicePlaces ((n:Int)-1) (-1) (-1))) _ _ s;rw[e];exact wpAny_pure h
theorem xq(xs:Array Value):((List.range xs.size).filterMap λ(m:Nat)=>xs[((xs.size:Int)-1+(m:Int)*(-1)).toNat]?).toArray=xs.toList.reverse.toArray:=by
 congr 1;refine Eq.trans ?_ (rL xs.toList);rw[Array.length_toList];refine kY λk hk=>?_;rw[Array.getElem?_toList];congr 1;have:=List.mem_range.mp hk;omega
theorem ic{t sl:Addr}{items:Array Value}{u:Tok}{Q:Value->Shared->Prop}(ht:IsTup s.heap t items)(hs:s.heap.IsSliceOf sl .none .none (.int (-1) u))
  (h:Q (.ref s.heap.objs.size) {s with heap:=s.heap.push {cls:=.type "tuple",data:=.seq items.toList.reverse.toArray}})
  (hsz:items.size<=sizeLine):wpAny (model prog w) A (getItem (.ref t) (.ref sl)) Q E s:=by
 have ik:sizeOk (.seq items.toList.reverse.toArray):=by
  show items.toList.reverse.toArray.size<=sizeLine;rw[List.size_toArray,List.length_reverse,Array.length_toList];omega
 obtain⟨os,wO,Jx,C1⟩:=id hs;have Q9:s.TypeIs (.ref sl) "slice":=⟨os,wO,Jx⟩;unfold getItem
 try with_reducible refine wpAny_holding ?_
 first|refine wpAny_bind (wpAny_pure ?_)|skip
 refine wpAny_bind (wpAny_sequenceKey ht.typeIs ∅ ?_)
 refine wpAny_bind (wpAny_callSpecial?_slot (name:=Str.ofString "__getitem__") ht.typeIs PyProof.Rows.slot_tuple_getitem
  (wpAny_call_entry PyProof.Rows.slot_tuple_getitem ht.typeIs entry_tuple_getitem ?_ (args_tuple_getitem _ _)))
 show wpAny _ _ (Builtin.Tuple.tupleItemsOf (.ref t) >>= _) _ _ s;refine wpAny_bind (tupleItemsOf_ ht ?_);refine wpAny_bind (wpAny_typeOf Q9 ?_);rw[if_pos ∅]
 refine wpAny_bind (jy hs ?_);have Wl:¬((((items.size:Int)-1)==0&&(-1:Int)==1&&items.size==items.size)=true):=by
  intro q;rw[Bool.and_eq_true,Bool.and_eq_true]at q;exact absurd q.1.2 ∅
 show wpAny _ _ (if(((items.size:Int)-1)==0&&(-1:Int)==1&&items.size==items.size)=true then _ else _) _ _ s
 rw[if_neg Wl,xq]
 first
  | exact wpAny_bind (m:=Builtin.Tuple.tupleExact _) (wpAny_newObj_type (wpAny_pure ⟨_,rfl,wpAny_pure h⟩) ik)
  | exact wpAny_bind (m:=Builtin.Tuple.tupleExact _) (wpAny_newObj_type (wpAny_bind (wpAny_pure (wpAny_pure ⟨_,rfl,wpAny_pure h⟩))) ik)
  | exact wpAny_bind (wpAny_bind (m:=Builtin.Tuple.tupleExact _) (wpAny_newObj_type (wpAny_pure (wpAny_pure ⟨_,rfl,wpAny_pure h⟩)) ik))
  | exact wpAny_bind (wpAny_bind (m:=Builtin.Tuple.tupleExact _) (wpAny_newObj_type (wpAny_pure ⟨_,rfl,wpAny_pure h⟩) ik))
end
section
variable {X:Cx}{e:Expr}{te:TE}{st:Expr}{ts:TO}{pos p2:Pos}
def FR(X:Cx)(r:V->Hp->VK->Prop):Prop:=
 ∀(pins:List (Addr×Obj)) (s:Shared) (σ:L2.St) (H:Hp) (x:V) (v:Value) (u:Tok) (sl:Addr) (Q:VK),Inv X pins σ H s->RelV x v->s.heap.IsSliceOf sl .none .none (.int (-1) u)->r x H Q ->
  ∃T id,typeLookup (.type T) "__getitem__"=pure (some (.builtin id))/\s.TypeIs v T/\wpAny (model X.prog X.w) X.A (getItem v (.ref sl)) (EP X pins σ Q) X.xe s
theorem FR.or{r r':V->Hp->VK->Prop}(h:FR X r)(h':FR X r'):FR X (λx H Q=>r x H Q\/r' x H Q):=by
 intro pins s σ H x v u sl Q I rx hs q;rcases q with q|q
 ·exact h pins s σ H x v u sl Q I rx hs q
 ·exact h' pins s σ H x v u sl Q I rx hs q
def XN(r:V->Hp->VK->Prop)(te:TE)(ts:TO):TE:=λσ H Q=>te σ H λx H1=>ts σ H1 λl H2=>l=some (-1)/\r x H2 Q
theorem L4{r:V->Hp->VK->Prop}(hr:FR X r)(he:PE X e te)(hs:PO X (some st) ts):PE X (.Subscript e (.Slice none none (some st) p2) pos) (XN r te ts):=by
 intro pins s σ H Q I h;refine Subscript_ (b8 (he pins s σ H _ I h) λv s1 ⟨x,H1,I1,r1,q1⟩=>?_);refine wpAny_Slice ?_;rw[evalPart_none];refine wpAny_pure (wpAny_pure ?_);refine b8 (hs pins s1 σ H1 _ I1 q1) λvs s3 ⟨l,H3,I3,pl,el,q3⟩=>?_;subst el;cases pl with
 | int _ u =>
 have I4:Inv X pins σ H3 {s3 with heap:=s3.heap.push {cls:=.type "slice",data:=.fields #[.none,.none,.int (-1) u]}}:=I3.kept (t':=s3.toks) λb ob q=>Heap.get?_push_of_some _ q
 obtain⟨T,id,hT,ht,hg⟩:=hr pins {s3 with heap:=s3.heap.push {cls:=.type "slice",data:=.fields #[.none,.none,.int (-1) u]}} σ H3 x v u s3.heap.objs.size Q I4 r1 (Heap.IsSliceOf.new ..) q3
 show wpAny (model X.prog X.w) X.A (subscriptTail e (.Slice none none (some st) p2) v (.ref s3.heap.objs.size)) (EP X pins σ Q) X.xe {s3 with heap:=s3.heap.push {cls:=.type "slice",data:=.fields #[.none,.none,.int (-1) u]}}
 exact tail_any (ops:=[v,.ref s3.heap.objs.size]) ht hT hg (by with_unfolding_all rfl)
theorem EF:FR X (λx H Q=>∃a xs,x=.ref a/\gS X.K H a xs/\∀p,H p=none->Q (.ref p) (upd H p (.tup xs.reverse))):=by
 intro pins s σ H x v u sl Q I rx hs h;obtain⟨a,xs,rfl,hx,q⟩:=h;cases rx;obtain⟨its,r,ht,hz⟩:=I.tuple hx;have hlen:its.toArray.size=xs.length:=by rw[List.size_toArray];exact r.length.symm
 refine⟨"tuple",_,PyProof.Rows.slot_tuple_getitem.lookup,ht.typeIs,?_⟩;refine ic ht hs ?_ (by rw[hlen];exact hz)
 refine⟨.ref s.heap.objs.size,_,I.laid (t':=s.toks) (o:=.tup xs.reverse) (λb ob q=>Heap.get?_push_of_some _ q) (Nat.le_refl _) ?_,rfl,q _ (I.bU.fresh (Nat.le_refl _))⟩;exact⟨by rw[List.length_reverse];exact hz,_,r.reverse,IsTup.new _ _⟩
theorem BH:FR X (λx H Q=>∃a xs,x=.ref a/\e6 X.K H a xs/\∀p,H p=none->Q (.ref p) (upd H p (.lst xs.reverse))):=by
 intro pins s σ H x v u sl Q I rx hs h;obtain⟨a,xs,rfl,hx,q⟩:=h;cases rx;obtain⟨its,r,ht,hz⟩:=I.list hx;have hlen:=r.length;refine⟨"list",_,slot_list_getitem.lookup,ht.isList.typeIs,?_⟩;refine wpAny_getItem_list_slice ht.isList hs .none .none (.int (-1) u) ∅ ?_ (by rw[List.size_toArray]<;>omega)
 rw[mQ];refine⟨.ref s.heap.objs.size,_,I.laid (t':=s.toks) (o:=.lst xs.reverse) (λb ob q=>Heap.get?_push_of_some _ q) (Nat.le_refl _) ?_,rfl,q _ (I.bU.fresh (Nat.le_refl _))⟩;exact⟨by rw[List.length_reverse];exact hz,_,0,r.reverse,Heap.get?_push_size _ rfl⟩
end
variable [KF]
variable {G:GE}{k:Nat}{S:Stat}
def MG:D->(EV->Prop)->Prop
 | .lst xs,Q=>Q (.own xs.reverse)
 | .fk ns,Q=>Q (.own (ns.map D.int).reverse)
 | .tup xs,Q=>Q (.val (.tup xs.reverse))
 | _,_=>False
def NQ(t:TV)(ts:yt):TX:=λσ Q=>t σ λx aC=>ts aC λl bq=>l=some (-1)/\match eK bq x with
 | some d=>MG d λr=>Q r bq
 | none=>False
theorem T2{e:Expr}{st:Expr}{t:TV}{ts:yt}{p2 pos:Pos}(h:EO G k S e t)(hl:Df G k S (some st) ts):EX G k S (.Subscript e (.Slice none none (some st) p2) pos) (NQ t ts):=.mk λX Y ok =>
 bj (L4 (FR.or BH EF) (h X Y ok) (hl X Y ok)) λσ H Q q=>by
  obtain⟨F,aq,Qd,R,q,K⟩:=q;refine⟨F,aq,_,R,q,λv1 H1 F1 x aC s1 R1 r1 q1=>?_⟩;refine⟨F1,aC,_,R1,q1,λl H2 F2 bq s2 R2 q2=>?_⟩;refine⟨q2.1,?_⟩
  replace q2:=q2.2
  split at q2
  ·rename_i d e
   have rx:=R2.eK (r1.mono s2) e;have g:Goes Y F2 bq σ (λr=>Qd r bq) Q:=λv H' F' r s R' rr qq=>K v H' F' r bq ((s1.trans s2).trans s) R' rr qq;unfold MG at q2
   split at q2
   ·obtain⟨p,vs,rfl,h1,r1⟩:=rx.lst
    exact .inl ⟨p,vs,rfl,.inl h1,g.own R2 r1.reverse q2⟩
   ·obtain⟨p,rfl,h1⟩:=rx.fk R2.fr
    exact .inl ⟨p,_,rfl,by rw[ok.kf];exact h1,g.own R2 (fU _).reverse q2⟩
   ·obtain⟨p,vs,rfl,h1,r1⟩:=rx.tup R2.fr
    exact .inr ⟨p,vs,rfl,.of h1,g.tup R2 r1.reverse q2⟩
   ·exact q2.elim
  ·exact q2.elim
end Vc
namespace Vc
open PySem L2 PySem.Spec PyProof.Rows PySem.SeqAt PySem.MeetsSeq PySem.MeetsSeq2 PySem.MeetsSeq3
section
variable {prog:Program}{w:World}{A:Around}{E:Value->Shared->Prop}{s:Shared}
theorem h8{t sl:Addr}{items:Array Value}{vl vu:Value}{lo hi:Option Int}{Q:Value->Shared->Prop}(ht:IsTup s.heap t items)(hs:s.heap.IsSliceOf sl vl vu .none)(pl:IsPart vl lo)(pu:IsPart vu hi)
  (hw:HT.cu items.size 0 lo=0/\HT.cu items.size items.size hi=items.size)
  (h:Q (.ref t) s):wpAny (model prog w) A (getItem (.ref t) (.ref sl)) Q E s:=by
 obtain⟨os,wO,Jx,C1⟩:=id hs;have Q9:s.TypeIs (.ref sl) "slice":=⟨os,wO,Jx⟩;unfold getItem
 try with_reducible refine wpAny_holding ?_
 first|refine wpAny_bind (wpAny_pure ?_)|skip
 refine wpAny_bind (wpAny_sequenceKey ht.typeIs ∅ ?_)
 refine wpAny_bind (wpAny_callSpecial?_slot (name:=Str.ofString "__getitem__") ht.typeIs PyProof.Rows.slot_tuple_getitem
  (wpAny_call_entry PyProof.Rows.slot_tuple_getitem ht.typeIs entry_tuple_getitem ?_ (args_tuple_getitem _ _)))
 show wpAny _ _ (Builtin.Tuple.tupleItemsOf (.ref t) >>= _) _ _ s;refine wpAny_bind (tupleItemsOf_ ht ?_);refine wpAny_bind (wpAny_typeOf Q9 ?_);rw[if_pos ∅]
 refine wpAny_bind (HT.eD hs pl pu ?_);have WM:((((HT.cu items.size 0 lo:Nat):Int)==0&&(1:Int)==1&&(HT.cu items.size items.size hi-HT.cu items.size 0 lo)==items.size)=true):=by
  rw[hw.1,hw.2,Nat.sub_zero];simp
 show wpAny _ _ (if(((HT.cu items.size 0 lo:Nat):Int)==0&&(1:Int)==1&&(HT.cu items.size items.size hi-HT.cu items.size 0 lo)==items.size)=true then _ else _) _ _ s
 rw[if_pos WM];refine wpAny_bind (m:=Builtin.Tuple.tupleIsExact (.ref t)) ?_;unfold Builtin.Tuple.tupleIsExact;refine wpAny_bind (wpAny_typeOf ht.typeIs (wpAny_pure ?_));rw[if_pos ∅]
 refine wpAny_bind (wpAny_rule ?_);exact wpAny_pure ⟨_,rfl,wpAny_pure h⟩
end
section
variable {X:Cx}
theorem Ng:yr X (λx lo hi H Q=>∃a xs,x=.ref a/\gS X.K H a xs/\(HT.cu xs.length 0 lo=0/\HT.cu xs.length xs.length hi=xs.length)/\Q (.ref a) H):=by
 intro pins s σ H x v vl vu lo hi sl Q I rx hs pl pu h;obtain⟨a,xs,rfl,hx,hw,q⟩:=h;cases rx;obtain⟨its,r,ht,hz⟩:=I.tuple hx;have hlen:its.toArray.size=xs.length:=by rw[List.size_toArray];exact r.length.symm
 refine⟨"tuple",_,PyProof.Rows.slot_tuple_getitem.lookup,ht.typeIs,?_⟩;exact h8 ht hs pl pu (by rw[hlen];exact hw) ⟨.ref a,H,I,rfl,q⟩
end
variable [KF]
variable {G:GE}{k:Nat}{S:Stat}
def Y6:D->Option Int->Option Int->(EV->Prop)->Prop
 | .lst xs,lo,hi,Q=>Q (.own (cut xs lo hi))
 | .fk ns,lo,hi,Q=>Q (.own (cut (ns.map D.int) lo hi))
 | .tup xs,lo,hi,Q=>Q (.val (.tup (cut xs lo hi)))
 | _,_,_,_=>False
def xE(t:TV)(tl th:yt):TX:=λσ Q=>t σ λx aC=>tl aC λl bq=>th bq λu d7=>match eK d7 x with
 | some d=>Y6 d l u λr=>Q r d7
 | none=>False
theorem Du{α:Type}{xs:List α}{lo hi:Option Int}(h:HT.cu xs.length 0 lo=0/\HT.cu xs.length xs.length hi=xs.length):cut xs lo hi=xs:=by
 unfold cut;rw[h.1,h.2,List.drop_zero,Nat.sub_zero,List.take_of_length_le (Nat.le_refl _)]
theorem vJ{e:Expr}{lo hi:Option Expr}{t:TV}{tl th:yt}{p2 pos:Pos}(h:EO G k S e t)(hl:Df G k S lo tl)(hh:Df G k S hi th):EX G k S (.Subscript e (.Slice lo hi none p2) pos) (xE t tl th):=.mk λX Y ok =>
 bj (rE (yr.or vR (yr.or BK Ng)) (h X Y ok) (hl X Y ok) (hh X Y ok)) λσ H Q q=>by
  obtain⟨F,aq,Qd,R,q,K⟩:=q;refine⟨F,aq,_,R,q,λv1 H1 F1 x aC s1 R1 r1 q1=>?_⟩;refine⟨F1,aC,_,R1,q1,λl H2 F2 bq s2 R2 q2=>?_⟩;refine⟨F2,bq,_,R2,q2,λu H3 F3 d7 s3 R3 q3=>?_⟩
  split at q3
  ·rename_i d e
   have rx:=R3.eK (r1.mono (s2.trans s3)) e;have g:Goes Y F3 d7 σ (λr=>Qd r d7) Q:=λv H' F' r s R' rr qq=>K v H' F' r d7 (((s1.trans s2).trans s3).trans s) R' rr qq;cases d with
   | lst xs =>
    obtain⟨p,vs,rfl,h1,r1⟩:=rx.lst;exact .inl ⟨p,vs,rfl,.inl h1,g.own R3 (r1.cut _ _) q3⟩
   | fk ns =>
    obtain⟨p,rfl,h1⟩:=rx.fk R3.fr;exact .inl ⟨p,_,rfl,by rw[ok.kf];exact h1,g.own R3 ((fU _).cut _ _) q3⟩
   | tup xs =>
    have Xs:=rx;obtain⟨p,vs,rfl,h1,r1⟩:=rx.tup R3.fr
    replace q3:Qd (.val (.tup (cut xs l u))) d7:=q3
    by_cases hw:HT.cu xs.length 0 l=0/\HT.cu xs.length xs.length u=xs.length
    ·rw[Du hw]at q3
     exact .inr (.inr ⟨p,vs,rfl,.of h1,by rw[r1.length];exact hw,g.val R3 Xs q3⟩)
    ·exact .inr (.inl ⟨p,vs,rfl,.of h1,by rw[r1.length];exact hw,g.tup R3 (r1.cut _ _) q3⟩)
   | _=>exact q3.elim
  ·exact q3.elim
end Vc
namespace Vc
open PySem L2
variable [KF]
structure Moved(fs:List Addr)(a T:Addr)(h h':Heap)(T':Addr):Prop where
 keep:∀b o,h.get? b=some o->b≠a->b≠T->b∉fs->h'.get? b=some o
 slot:∀b o,h.get? b=some o->b∈fs->∃sl,h'.get? b=some {o with slots:=sl}
 ne:T'≠a
 new:h.get? T'=none\/T'=T
end Vc
set_option maxHeartbeats 0
namespace Vc
open PySem PySem.W
@[elab_as_elim] theorem aae{α:Type} {P:List α->Prop} (h:∀a,P [a]):∀us:List α,us.length=1->P us
 | [a],_=>h a
@[elab_as_elim] theorem aaf{α:Type} {P:List α->Prop} (h:∀a b,P [a,b]):∀us:List α,us.length=2->P us
 | [a,b],_=>h a b
@[elab_as_elim] theorem aag{α:Type} {P:List α->Prop} (h:∀a b c,P [a,b,c]):∀us:List α,us.length=3->P us
 | [a,b,c],_=>h a b c
@[elab_as_elim] theorem aah{α:Type} {P:List α->Prop} (h:∀a b c d,P [a,b,c,d]):∀us:List α,us.length=4->P us
 | [a,b,c,d],_=>h a b c d
@[elab_as_elim] theorem aai{α:Type} {P:List α->Prop} (h:∀a b c d e,P [a,b,c,d,e]):∀us:List α,us.length=5->P us
 | [a,b,c,d,e],_=>h a b c d e
theorem Od{q:Program}{loose:List Str}{XP:(Str->Option Value)->Heap->Prop}{K:Params->Frag}{as:List Addr}{n t:Nat}{r:RowW}{d:DefRec}{YT:List (Str×Expr)}{run:Value->List Value->Sem Value}
  (e:∀P,as=(K P).map (·.1)) (h:WalkO q loose XP (λw h=>(K w.params).In h) r d YT run):WalkX q loose XP (X.obsZ as) (X.valZ K n t) r d YT run:=
 λw cS bA mg mb G y a o pm cd doc dV kV ho hd qT hD hmg hg args vals Zo L wQ Rx U1 RG vm =>
  h w cS bA mg mb G (InK.keeps w _ _ (X.z_facts e y).2.1 L.keeps) a o pm cd doc dV kV ho hd qT hD hmg hg args vals Zo wQ Rx U1 RG vm
end Vc
namespace Vc
open PySem L2
variable [KF]
variable {G:GE}{k:Nat}{S:Stat}
def wc(is:List Int):List Int:=PyProof.Rows.firstMet (λi=>is.getD i 0) is.length
end Vc
namespace Vc
open PySem L2
variable [KF]
variable {G:GE}{k:Nat}{S:Stat}
def Sb:D->Option Key
 | .int i=>some (.inl i)
 | .str x=>some (.inr x)
 | _=>none
def vx:List D->Option (List Key)
 | []=>some []
 | d::ds=>match Sb d,vx ds with
  | some k,some ks=>some (k::ks)
  | _,_=>none
def qV:D->Option (List Key)
 | .tup ds=>vx ds
 | _=>none
theorem DY{d:D}{k:Key}(h:Sb d=some k):d=kD k:=by
 cases d<;>cases h<;>rfl
theorem qW:∀ {ds:List D} {ks:List Key},vx ds=some ks->ds=ks.map kD
 | [],ks,h=>by cases h;rfl
 | d::ds,ks,h=>by
  unfold vx at h
  split at h
  ·rename_i k WX e1 e2
   cases h;rw[DY e1,qW e2];rfl
  ·cases h
theorem vw{d:D}{ks:List Key}(h:qV d=some ks):d=.tup (ks.map kD):=by
 cases d with
 | tup ds=>rw[qW h]
 | _=>cases h
theorem Rep.key{F:Hp}{v:V}{k:Key}(r:Rep F v (kD k)):v=kV k:=by
 cases k with
 | inl i=>cases(show Rep F v (.int i)from r);rfl
 | inr x=>cases(show Rep F v (.str x)from r);rfl
theorem aG.keys{F:Hp}:∀ {ks:List Key} {vs:List V},aG F vs (ks.map kD)->vs=ks.map kV
 | [],_,r=>by cases r;rfl
 | k::ks,_,r=>by
  cases r with
  | cons h t=>rw[h.key,aG.keys t];rfl
theorem Rep.qV{F:Hp}{v:V}{ks:List Key}(r:Rep F v (.tup (ks.map kD))):∃b,v=.ref b/\F b=some (.tup (ks.map kV)):=by
 cases r with
 | tup h r=>exact⟨_,rfl,by rw[<- r.keys];exact h⟩
theorem IL(a b:Key):dD (kD a) (kD b)=decide (a=b):=by
 cases a<;>cases b<;>simp [kD,dD]<;>rfl
theorem u0:∀as bs:List Key,kT (as.map kD) (bs.map kD)=decide (as=bs)
 | [],[]=>rfl
 | [],b::bs=>rfl
 | a::as,[]=>rfl
 | a::as,b::bs=>by
  show(dD (kD a) (kD b)&&kT (as.map kD) (bs.map kD))=_;rw[IL,u0 as bs]
  by_cases h1:a=b
  ·subst h1
   by_cases h2:as=bs
   ·subst h2;simp
   ·simp [h2]
  ·simp [h1]
theorem eA(as bs:List Key):dD (.tup (as.map kD)) (.tup (bs.map kD))=decide (as=bs):=u0 as bs
def cK(kvs:List (D×D))(d:D):Option D:=(kvs.find? λkv=>dD kv.1 d).map (·.2)
def dput(kvs:List (D×D))(d v:D):List (D×D):=
 if(kvs.any λkv=>dD kv.1 d)=true then kvs.map (λkv=>if dD kv.1 d=true then(kv.1,v)else kv)else kvs++[(d,v)]
theorem cH.length{F:Hp}:∀ {ks:List (List Key×V)} {kvs:List (D×D)},cH F ks kvs->ks.length=kvs.length
 | _,_,.nil=>rfl
 | _,_,.cons _ r=>by simp [cH.length r]
theorem cH.any{F:Hp}(k:List Key):∀ {ks:List (List Key×V)} {kvs:List (D×D)},cH F ks kvs->(kvs.any λkv=>dD kv.1 (.tup (k.map kD)))=(ks.any λkv=>decide (kv.1=k))
 | _,_,.nil=>rfl
 | _,_,.cons _ r=>by rw[List.any_cons,List.any_cons,cH.any k r,eA]
theorem cH.val{F:Hp}(k:List Key):∀ {ks:List (List Key×V)} {kvs:List (D×D)},cH F ks kvs->(fI ks k=none/\cK kvs (.tup (k.map kD))=none)\/∃v d,fI ks k=some v/\cK kvs (.tup (k.map kD))=some d/\Rep F v d
 | _,_,.nil=>.inl ⟨rfl,rfl⟩
 | _,_,.cons (k:=k') (v:=v) (d:=d) (ks:=ks) (kvs:=kvs) h r=>by
  by_cases e:k'=k
  ·subst e
   refine .inr ⟨v,d,?_,?_,h⟩
   ·unfold fI;rw[List.find?_cons_of_pos (by simp)];rfl
   ·unfold cK;rw[List.find?_cons_of_pos (by rw[eA];simp)];rfl
  ·have e1:fI ((k',v)::ks) k=fI ks k:=by unfold fI;rw[List.find?_cons_of_neg (by simpa using e)]
   have e2:cK ((D.tup (k'.map kD),d)::kvs) (.tup (k.map kD))=cK kvs (.tup (k.map kD)):=by unfold cK;rw[List.find?_cons_of_neg (by rw[eA];simpa using e)]
   rw[e1,e2];exact cH.val k r
theorem cH.append{F:Hp}:∀ {ks WX:List (List Key×V)} {kvs Se:List (D×D)},cH F ks kvs->cH F WX Se->cH F (ks++WX) (kvs++Se)
 | _,_,_,_,.nil,s=>s
 | _,_,_,_,.cons h r,s=>.cons h (cH.append r s)
theorem cH.repl{F:Hp}{v:V}{d:D}(k:List Key)(hv:Rep F v d):∀ {ks:List (List Key×V)} {kvs:List (D×D)},cH F ks kvs->cH F (ks.map λkv=>if kv.1=k then(kv.1,v)else kv) (kvs.map λkv=>if dD kv.1 (.tup (k.map kD))=true then(kv.1,d)else kv)
 | _,_,.nil=>.nil
 | _,_,.cons (k:=k') h r=>by
  rw[List.map_cons,List.map_cons]
  by_cases e:k'=k
  ·rw[if_pos (show k'=k from e),if_pos (show dD (.tup (k'.map kD)) (.tup (k.map kD))=true by rw[eA];simpa using e)]
   exact .cons hv (cH.repl k hv r)
  ·rw[if_neg (show¬k'=k from e),if_neg (show¬dD (.tup (k'.map kD)) (.tup (k.map kD))=true by rw[eA];simpa using e)]
   exact .cons h (cH.repl k hv r)
theorem cH.put{F:Hp}{ks:List (List Key×V)}{kvs:List (D×D)}{v:V}{d:D}(k:List Key)(r:cH F ks kvs)(hv:Rep F v d):cH F (putK ks k v) (dput kvs (.tup (k.map kD)) d):=by
 unfold putK dput;rw[r.any k]
 split
 ·exact r.repl k hv
 ·exact r.append (.cons hv .nil)
def CU(kvs:List (D×D)):O where
 fp:=λa=>[a]
 rep:=λF H a=>∃ks,H a=some (.dT ks)/\cH F ks kvs
 self:=λa=>List.mem_singleton.mpr rfl
 solid:=λ{F H a b φ} ⟨ks,h,_⟩ hb z=>by
  rw[List.mem_singleton.mp hb,h]at z;cases z
 nt:=λ{F H a b vs} ⟨ks,h,_⟩ hb z=>by
  rw[List.mem_singleton.mp hb,h]at z;cases z
 mono:=λ{F F' H H' a} s e ⟨ks,h,r⟩=>⟨ks,by rw[e a (List.mem_singleton.mpr rfl)];exact h,r.mono s⟩
theorem RS.A9{Y:bN}{F:Hp}{aq:Sd}{σ:St}{H:Hp}{i:Nat}{o o':O}{a c:Addr}{u:HO}(R:RS Y F aq σ H)(e:aq[i]?=some (some (.obj o)))(h:σ[i]?=some (some (.ref a)))(hc:c∈o.fp a)(Ou:∀b,b∈o'.fp a->b∈o.fp a)
  (hr:o'.rep F (upd H c u) a):RS Y F (aq.set i (some (.obj o'))) σ (upd H c u):=by
 obtain⟨a',w1,w2,w3⟩:=R.ob.obj i o e;rw[h]at w1;cases w1;have ow:∀b∈o.fp a,gp aq σ b:=λb hb=>⟨i,o,a,e,h,hb⟩;have hl:i<aq.length:=(List.getElem?_eq_some_iff.mp e).1;have up:∀ {b:Addr},H b≠none->(upd H c u) b≠none:=λ{b} hb=>by
  by_cases z:b=c
  ·rw[z,aR];exactλy=>nomatch y
  ·rw[az z];exact hb
 refine⟨by simpa using R.len,R.lo,λb q z=>?_,R.fN,λb q z n=>?_,λj d z=>?_,λj xs z=>?_,λj l xs ys b z1 z2 z3 z4=>?_,λp hp=>?_,⟨λj p z=>?_,λj l p p2 b d z1 z2 z3 z4 c9 x hx DN=>?_,λj ys b z1 z2 ⟨l,p,d,z3,z4,hm⟩=>?_,λb hb=>up (R.ob.there b hb),R.ob.OT,R.ob.tab⟩⟩
 ·have:b≠c:=λy=>by rw[y,(w3 c hc).1]at z;cases z
  rw[az this];exact R.fr b q z
 ·have:b≠c:=λy=>by
   subst y;rcases(w3 b hc).2.2 with y|y
   ·rw[y]at z;cases z
   ·exact n (List.mem_append_right _ y)
  rw[az this];exact R.old b q z n
 ·rcases gs z with⟨_,y⟩|⟨_,z⟩
  ·cases y
  ·exact R.sh j d z
 ·rcases gs z with⟨_,y⟩|⟨_,z⟩
  ·cases y
  ·obtain⟨b,vs,y1,y2,y3⟩:=R.own j xs z
   have:b≠c:=λy=>R.ob.ky j xs b z y1 (y ▸ ow c hc);exact⟨b,vs,y1,by rw[az this];exact y2,y3⟩
 ·rcases gs z1 with⟨_,y⟩|⟨_,z1⟩
  ·cases y
  rcases gs z2 with⟨_,y⟩|⟨_,z2⟩
  ·cases y
  exact R.dis j l xs ys b z1 z2 z3 z4
 ·obtain⟨y1,xs,y2⟩:=R.io p hp
  have:p.1≠i:=λy=>by rw[y,e]at y2;cases y2
  exact⟨y1,xs,by rw[bK this];exact y2⟩
 ·rcases gs z with⟨rfl,y⟩|⟨hj,z⟩
  ·cases y
   exact⟨a,h,hr,λb hb=>⟨(w3 b (Ou b hb)).1,up (w3 b (Ou b hb)).2.1,(w3 b (Ou b hb)).2.2⟩⟩
  ·obtain⟨b,y1,y2,y3⟩:=R.ob.obj j p z
   refine⟨b,y1,p.mono (aA.refl _) (λd hd=>?_) y2,λd hd=>⟨(y3 d hd).1,up (y3 d hd).2.1,(y3 d hd).2.2⟩⟩;exact az λy=>R.ob.zJ i j o p a b e z h y1 (Ne.symm hj) c hc (y ▸ hd)
 ·rcases gs z1 with⟨e1,y⟩|⟨hj,y1⟩
  ·cases y
   subst e1;rw[h]at z3;cases z3;rcases gs z2 with⟨e2,_⟩|⟨Rw,y2⟩
   ·exact c9 e2.symm
   ·exact R.ob.zJ j l o p2 a d e y2 h z4 c9 x (Ou x hx) DN
  ·rcases gs z2 with⟨e2,y⟩|⟨Rw,y2⟩
   ·cases y
    subst e2;rw[h]at z4;cases z4;exact R.ob.zJ j l p o b a y1 e z3 h c9 x hx (Ou x DN)
   ·exact R.ob.zJ j l p p2 b d y1 y2 z3 z4 c9 x hx DN
 ·rcases gs z1 with⟨_,y⟩|⟨_,y1⟩
  ·cases y
  rcases gs z3 with⟨e3,y⟩|⟨_,y3⟩
  ·cases y
   subst e3;rw[h]at z4;cases z4;exact R.ob.ky j ys b y1 z2 (ow b (Ou b hm))
  ·exact R.ob.ky j ys b y1 z2 ⟨l,p,d,y3,z4,hm⟩
theorem RS.wC{Y:bN}{F:Hp}{aq:Sd}{σ:St}{H:Hp}{i:Nat}{kvs:List (D×D)}(R:RS Y F aq σ H)(e:aq[i]?=some (some (.obj (CU kvs))))(JG:Y.ob=[]):
  ∃F' v,aA F F'/\RS Y F' (aq.set i (some (.sh (.dct kvs)))) σ H/\σ[i]?=some (some v)/\Rep F' v (.dct kvs):=by
 obtain⟨a,w1,⟨ks,w2,w3⟩,w4⟩:=R.ob.obj i _ e;have ha:=w4 a (List.mem_singleton.mpr rfl);have hz:Y.H0 a=none:=ha.2.2.elim id λz=>by rw[JG]at z;cases z
 have sm:=aM (o:=.dT ks) ha.1;have ow:gp aq σ a:=⟨i,_,a,e,w1,List.mem_singleton.mpr rfl⟩;have hl:i<aq.length:=(List.getElem?_eq_some_iff.mp e).1;have rep:Rep (upd F a (.dT ks)) (.ref a) (.dct kvs):=.wD aR (w3.mono sm);refine⟨upd F a (.dT ks),.ref a,sm,⟨by simpa using R.len,R.lo.trans sm,λb q z=>?_,λb q z=>?_,R.old,λj d z=>?_,λj xs z=>?_,λj l xs ys b z1 z2 z3 z4=>?_,λp hp=>?_,?_⟩,w1,rep⟩
 ·by_cases hb:b=a
  ·subst hb;rw[aR]at z;cases z;exact w2
  ·rw[az hb]at z;exact R.fr b q z
 ·by_cases hb:b=a
  ·rw[hb];exact .inr (.inl hz)
  ·rw[az hb]at z;exact R.fN b q z
 ·rcases gs z with⟨rfl,y⟩|⟨_,z⟩
  ·cases y;exact⟨_,w1,rep⟩
  ·obtain⟨v,y1,y2⟩:=R.sh j d z
   exact⟨v,y1,y2.mono sm⟩
 ·rcases gs z with⟨_,y⟩|⟨_,z⟩
  ·cases y
  ·obtain⟨b,vs,y1,y2,y3,y4,y5⟩:=R.own j xs z
   have:b≠a:=λy=>R.ob.ky j xs b z y1 (y ▸ ow);exact⟨b,vs,y1,y2,y3.mono sm,by rw[az this];exact y4,y5⟩
 ·rcases gs z1 with⟨_,y⟩|⟨_,z1⟩
  ·cases y
  rcases gs z2 with⟨_,y⟩|⟨_,z2⟩
  ·cases y
  exact R.dis j l xs ys b z1 z2 z3 z4
 ·obtain⟨y1,xs,y2⟩:=R.io p hp
  have:p.1≠i:=λy=>by rw[y,e]at y2;cases y2
  exact⟨y1,xs,by rw[bK this];exact y2⟩
 ·refine⟨λj p z=>?_,λj l p p2 b d z1 z2=>?_,λj ys b z1 z2 ⟨l,p,d,z3,z4,hm⟩=>?_,R.ob.there,R.ob.OT,R.ob.tab.mono sm⟩
  ·rcases gs z with⟨_,y⟩|⟨hj,z⟩
   ·cases y
   obtain⟨b,y1,y2,y3⟩:=R.ob.obj j p z;refine⟨b,y1,p.mono sm (λ_ _=>rfl) y2,λd hd=>⟨?_,(y3 d hd).2⟩⟩;have c9:d≠a:=λy=>R.ob.zJ i j _ p a b e z w1 y1 (Ne.symm hj) a (List.mem_singleton.mpr rfl) (by rw[<- y];exact hd)
   rw[az c9];exact(y3 d hd).1
  ·rcases gs z1 with⟨_,y⟩|⟨_,z1⟩
   ·cases y
   rcases gs z2 with⟨_,y⟩|⟨_,z2⟩
   ·cases y
   exact R.ob.zJ j l p p2 b d z1 z2
  ·rcases gs z1 with⟨_,y⟩|⟨_,z1⟩
   ·cases y
   rcases gs z3 with⟨_,y⟩|⟨_,z3⟩
   ·cases y
   exact R.ob.ky j ys b z1 z2 ⟨l,p,d,z3,z4,hm⟩
def NK:TX:=λσ Q=>Q (.obj (CU [])) σ
theorem EE{pos:Pos}:EX G k S (.Dict [] [] pos) NK:=.mk λX Y ok=>bj Bl λσ H Q q=>by
 obtain⟨F,aq,Qd,R,q,K⟩:=q;intro p hp;refine K _ _ F (.obj (CU [])) aq (aA.refl _) (R.tu hp) ⟨p,rfl,⟨[],aR,.nil⟩,λb hb=>?_⟩ q;rw[List.mem_singleton.mp hb];exact⟨same_none R.fr hp,(by rw[aR];exactλz=>nomatch z),(R.dQ hp).1,R.eQ hp⟩
def XI(i:Nat):TV:=λσ Q=>(∃o,σ[i]?=some (some (.obj o)))/\Q (.var i) σ
theorem Xp(i:Nat){x:Str}{pos:Pos}(hN:S.N[i]?=some x:=by rfl)(hv:S.sc.lookup x=some .local\/S.sc.lookup x=some .cell\/S.sc.lookup x=some .free:=by first|exact Or.inl rfl|exact Or.inr (Or.inl rfl)|exact Or.inr (Or.inr rfl))
  (hd:(x==("__debug__":Str))=false:=by decide) (qT:(x==("__classdict__":Str))=false:=by decide):EO G k S (.Name x pos) (XI i):=.mk λX Y ok =>
 bj (ud (X:=X) (i:=i) (by rw[ok.N];exact hN) (by unfold Pj;rw[ok.sc];exact hv) hd qT) λσ H Q q=>by
  obtain⟨F,aq,Qd,R,⟨⟨o,e⟩,q⟩,K⟩:=q;obtain⟨a,w1,_⟩:=R.ob.obj i o e;exact⟨.ref a,w1,K _ H F (.var i) aq (aA.refl _) R w1 q⟩
def XB(i:Nat):TD:=λσ Q=>∃kvs,σ[i]?=some (some (.obj (CU kvs)))/\Q (.dct kvs) (σ.set i (some (.sh (.dct kvs))))
theorem Xo(i:Nat){x:Str}{pos:Pos}(hN:S.N[i]?=some x:=by rfl)(hv:S.sc.lookup x=some .local\/S.sc.lookup x=some .cell\/S.sc.lookup x=some .free:=by first|exact Or.inl rfl|exact Or.inr (Or.inl rfl)|exact Or.inr (Or.inr rfl))
  (hd:(x==("__debug__":Str))=false:=by decide) (qT:(x==("__classdict__":Str))=false:=by decide) (ZF:S.yy=false:=by rfl) (dq:S.ios=[]:=by rfl):ED G k S (.Name x pos) (XB i):=.mk λX Y ok =>
 bj (ud (X:=X) (i:=i) (by rw[ok.N];exact hN) (by unfold Pj;rw[ok.sc];exact hv) hd qT) λσ H Q q=>by
  obtain⟨F,aq,Qd,R,⟨kvs,e,q⟩,K⟩:=q;obtain⟨F',v,s,R',e2,r⟩:=R.wC e (ok.obs ZF dq);exact⟨v,e2,K v H F' (.dct kvs) _ s R' r q⟩
def NM(i:Nat)(tk tv:TD):cJ:=λDe σ=>tv σ λd aC=>(∃o,aC[i]?=some (some (.obj o)))/\tk aC λkd bq=>∃kvs ks,bq[i]?=some (some (.obj (CU kvs)))/\qV kd=some ks/\kvs.length<sizeLine/\De.nx (bq.set i (some (.obj (CU (dput kvs kd d)))))
theorem EK(i:Nat){x:Str}{ke ve:Expr}{tk tv:TD}{np pos' pos:Pos}(hv:ED G k S ve tv)(hk:ED G k S ke tk)(ho:EO G k S (.Name x np) (XI i))(hs:∀line env,swapsWith ve (some (.Subscript (.Name x np) ke pos')) line env=pure false:=by intro _ _;rfl):
  ES G k S (.Assign [.Subscript (.Name x np) ke pos'] ve pos) (NM i tk tv):=.mk λX Y ok =>
 dy (Ep (by have:=ok.units;omega) (ho X Y ok) (hk X Y ok) (hv X Y ok) (hs _ _)) λDn σ H q=>by
  obtain⟨F,aq,De,R,q,K⟩:=q;refine⟨F,aq,_,R,q,λv H1 F1 d aC s1 R1 r1 q1=>?_⟩;refine⟨F1,aC,λx XS=>x=.var i/\tk XS λkd bq=>∃kvs ks,bq[i]?=some (some (.obj (CU kvs)))/\qV kd=some ks/\kvs.length<sizeLine/\De.nx (bq.set i (some (.obj (CU (dput kvs kd d))))),R1,⟨q1.1,rfl,q1.2⟩,λv2 H2 F2 y bq s2 R2 r2 q2=>?_⟩;obtain⟨rfl,q2⟩:=q2;have r2:σ[i]?=some (some v2):=r2;refine⟨F2,bq,_,R2,q2,λv3 H3 F3 kd d7 s3 R3 r3 q3=>?_⟩;obtain⟨kvs,ks,e,ek,hl,q3⟩:=q3;obtain⟨a,w1,⟨us,w2,w3⟩,w4⟩:=R3.ob.obj i _ e;rw[r2]at w1;cases w1;obtain rfl:=vw ek;obtain⟨b,rfl,hb⟩:=r3.qV;refine⟨a,_,rfl,.t w2 (R3.fr b _ hb) (by rw[w3.length];exact hl),K.nx σ _ F3 _ ((s1.trans s2).trans s3) (R3.A9 (o':=CU (dput kvs (.tup (ks.map kD)) d)) e r2 (List.mem_singleton.mpr rfl) (λ_ z=>z) ⟨_,aR,w3.put ks (r1.mono (s2.trans s3))⟩) q3⟩
def JR:D->D->(Bool->Prop)->Prop
 | x,.dct kvs,Q=>(qV x).isSome=true/\Q (cK kvs x).isSome
 | _,_,_=>False
def vB(x y:D)(Q:Bool->Prop):Prop:=JR x y λb=>Q !b
def Bz(neg:Bool):R2:=λy x H Q=>∃a o,x=.ref a/\xS H a y o/\Q (.bl (if neg then !o.isSome else o.isSome)) H
theorem xk{X:Cx}(hu:X.A.units+1<cLine):f9 X (compareOp .NotIn) (Bz true):=by
 intro pins s σ H x y v u Q I rx ry h;obtain⟨a,o,rfl,g,q⟩:=h;cases ry;exact Dw hu I g rx λs' I'=>⟨.bl (!o.isSome),H,I',rfl,q⟩
theorem wU{F H:Hp}(s:aA F H){v u:V}{x:D}{kvs:List (D×D)}(rv:cg F H v x)(ru:cg F H u (.dct kvs))(hk:(qV x).isSome=true):∃a o,u=.ref a/\xS H a v o/\o.isSome=(cK kvs x).isSome:=by
 obtain⟨ks,ek⟩:=Option.isSome_iff_exists.mp hk;obtain rfl:=vw ek;obtain⟨b,rfl,hb⟩:=(show Rep F v (.tup (ks.map kD))from rv).qV
 cases(show Rep F u (.dct kvs)from ru)with
 | wD h r =>
  refine⟨_,_,rfl,.t (s _ _ h) (s _ _ hb),?_⟩;rcases r.val ks with⟨e1,e2⟩|⟨v,d,e1,e2,_⟩
  ·rw[e1,e2];rfl
  ·rw[e1,e2];rfl
theorem Hw:kh G k S .NotIn vB:=⟨Bz true,λX Y ok=>xk (by have:=ok.units;omega),λY F H aq σ v u x y Qd Q R rx ry q K=>by
 unfold vB JR at q
 split at q
 ·obtain⟨a,o,rfl,g,e⟩:=wU R.fr rx ry q.1
  exact⟨a,o,rfl,g,K _ (by rw[if_pos rfl,e];exact q.2)⟩
 ·exact q.elim⟩
end Vc
namespace Vc
open PySem PyProof.Rows
section
variable {prog:Program}{w:World}{A:Around}{R:Result->Shared->Prop}
def Kp(h g:Heap):Prop:=∀b o,h.get? b=some o->g.get? b=some o
end
end Vc
namespace Vc
open PySem PySem.W L2
section
variable {P:Addr}{K:Frag}(hP:K.lookup P=some (tabObj #[]))
include hP
end
end Vc
set_option maxHeartbeats 400000
set_option maxHeartbeats 400000
namespace Vs
open PySem PySem.Calls PyProof.Rows PyProof.V PySem.Spec
def jX:Value->Int
 | .int i _=>i
 | _=>0
section
variable {prog:Program}{w:World}{A:Around}{E:Value->Shared->Prop}{s:Shared}
theorem AY{vs:List Value}{ns:List Int}{Q:SortKind->Shared->Prop}(hl:2<=vs.length)(h:IntsAre vs ns)(q:Q oneType' s):wpAny (model prog w) A (keyKind' vs.toArray) Q E s:=by
 match vs,hl,h with
 | aal::aam::r,_,h =>
  rw[keyKind_ints h];exact wpAny_pure q
theorem D1{l:List Keyed}(h:∀x∈l,∃i t,x.1=Value.int i t):fo (model prog w) A E s (rk (λx=>[jX x.1]) l) oneType' (λx=>x∈l):=λx y st Q hx hy hk q=>by
 rw[vL hx]at q;rw[lt'_eq];refine wpS_bind (wpS_get ?_);rw[hk];obtain⟨i,t,e1⟩:=h x hx;obtain⟨j,u,e2⟩:=h y hy;rw[e1,e2,show HT.lexLt [jX (.int i t)] [jX (.int j u)]=decide (i<j)from by
  show(if i=j then HT.lexLt [] []else decide (i<j))=_
  by_cases e:i=j
  ·rw[if_pos e,decide_eq_false ⋯];rfl
  ·rw[if_neg e]]at q
 refine wpS_bind (wpS_lift (wpAny_attempt ?_));rw[e1,e2,keyLt'_oneType];exact oneLt_int ⟨rfl,wpS_pure q⟩
end
end Vs
namespace Vc
open PySem L2
variable [KF]
theorem eI:∀ {vs:List Value},(∀v∈vs,∃i t,v=Value.int i t)->Vals ((vs.map Vs.jX).map V.int) vs
 | [],_=>.nil
 | v::vs,h=>by
  obtain⟨i,t,rfl⟩:=h v (.head _);exact .cons ⟨t,rfl⟩ (eI λx hx=>h x (.tail _ hx))
variable {G:GE}{k:Nat}{S:Stat}
def rX(ns:List Int):List Int:=ns.mergeSort λx y=>decide (x<=y)
theorem ur(ns:List Int):(rX ns).Perm ns:=List.mergeSort_perm _ _
theorem pC(ns:List Int):(rX ns).Pairwise λx y=>x<=y:=by
 have:=List.pairwise_mergeSort (le:=λx y:Int=>decide (x<=y)) (λa b c h1 h2=>by simp only[decide_eq_true_eq]at *;omega) (λa b=>by simp only[Bool.or_eq_true,decide_eq_true_eq];omega) ns
 exact this.imp λh=>of_decide_eq_true h
theorem rY{ns ms:List Int}(h:ms.Perm ns)(hs:ms.Pairwise λx y=>x<=y):ms=rX ns:=
 (h.trans (ur ns).symm).eq_of_pairwise (le:=λx y:Int=>x<=y) (λa b _ _ h1 h2=>Int.le_antisymm h1 h2) hs (pC ns)
theorem nK{F:Hp}:∀ms:List Int,aG F (ms.map V.int) (ms.map D.int)
 | []=>.nil
 | i::ms=>.cons (.int i) (nK ms)
end Vc
namespace Vc
open PySem L2
variable [KF]
abbrev FMu:=List B->(B->List B->Prop)->Prop
variable {G:GE}{k:Nat}{S:Stat}
end Vc
namespace Vc
open PySem L2
variable [KF]
mutual
def Xf:D->Bool
 | .bC=>true
 | .bl _=>true
 | .int _=>true
 | .str _=>true
 | .tup xs=>A5 xs
 | .lst xs=>A5 xs
 | _=>false
def A5:List D->Bool
 | []=>true
 | x::xs=>Xf x&&A5 xs
end
mutual
theorem Rep.Cr{F F':Hp}(hs:∀c u,F c=some u->F' c=some u\/dl u=true):∀ {v:V} {d:D},Rep F v d->Xf d=true->Rep F' v d
 | _,_,.bC,_=>.bC
 | _,_,.bl b,_=>.bl b
 | _,_,.int i,_=>.int i
 | _,_,.str x,_=>.str x
 | _,_,.tup h r,n=>.tup ((hs _ _ h).elim id λz=>by cases z) (aG.Cr hs r n)
 | _,_,.lst h r,n=>.lst (by
   rcases h with h|⟨o,h⟩
   ·exact .inl ((hs _ _ h).elim id λz=>by cases z)
   ·exact .inr ⟨o,(hs _ _ h).elim id λz=>by cases z⟩) (aG.Cr hs r n)
 | _,_,.fk _,n=>by cases n
 | _,_,.exc _,n=>by cases n
 | _,_,.wD _ _,n=>by cases n
 | _,_,.sT _ _,n=>by cases n
 | _,_,.kp _ _ _,n=>by cases n
theorem aG.Cr{F F':Hp}(hs:∀c u,F c=some u->F' c=some u\/dl u=true):∀ {vs:List V} {ds:List D},aG F vs ds->A5 ds=true->aG F' vs ds
 | _,_,.nil,_=>.nil
 | _,_,.cons h r,n=>by
  have n:(Xf _&&A5 _)=true:=n;rw[Bool.and_eq_true]at n;exact .cons (Rep.Cr hs h n.1) (aG.Cr hs r n.2)
end
inductive AV where
 | d (x:D)|n (j:Nat)|l (j:Nat)
abbrev TAv:=Sd->(List AV->Sd->Prop)->Prop
variable {G:GE}{k:Nat}{S:Stat}
end Vc
namespace Vc
open PySem L2
variable [KF]
variable {G:GE}{k:Nat}{S:Stat}
theorem ln0{α:Type}{P:List α->Prop}(h:P [])(us:List α)(e:us.length=0):P us:=List.eq_nil_of_length_eq_zero e ▸ h
theorem OD{α:Type}{n:Nat}{P:List α->Prop}(h:∀(a:α) (r:List α),r.length=n->P (a::r)):∀us:List α,us.length=n+1->P us:=λus e=>by
 cases us with
 | nil=>cases e
 | cons a r=>exact h a r (Nat.succ.inj e)
@[elab_as_elim] theorem D0{α:Type} {P:List α->Prop} (h:∀a,P [a]) (us:List α) (e:us.length=1):P us:=OD (λa=>ln0 (P:=λr=>P (a::r)) (h a)) us e
@[elab_as_elim] theorem ln2{α:Type} {P:List α->Prop} (h:∀a b,P [a,b]) (us:List α) (e:us.length=2):P us:=OD (λa=>D0 (P:=λr=>P (a::r)) (h a)) us e
@[elab_as_elim] theorem C3{α:Type} {P:List α->Prop} (h:∀a b c,P [a,b,c]) (us:List α) (e:us.length=3):P us:=OD (λa=>ln2 (P:=λr=>P (a::r)) (h a)) us e
@[elab_as_elim] theorem W7{α:Type} {P:List α->Prop} (h:∀a b c d,P [a,b,c,d]) (us:List α) (e:us.length=4):P us:=OD (λa=>C3 (P:=λr=>P (a::r)) (h a)) us e
@[elab_as_elim] theorem ln5{α:Type} {P:List α->Prop} (h:∀a b c d e,P [a,b,c,d,e]) (us:List α) (e:us.length=5):P us:=OD (λa=>W7 (P:=λr=>P (a::r)) (h a)) us e
@[elab_as_elim] theorem ln6{α:Type} {P:List α->Prop} (h:∀a b c d e f,P [a,b,c,d,e,f]) (us:List α) (e:us.length=6):P us:=OD (λa=>ln5 (P:=λr=>P (a::r)) (h a)) us e
end Vc
namespace Vc
open PySem L2
def dZ(xs:Array Nat):Prop:=∀i j (hi:i<xs.size) (hj:j<xs.size),i<j->xs[i]<xs[j]
theorem kK(xs:Array Nat)(j:Nat)(R:dZ xs):∀(fuel lo hi:Nat),lo<=hi->hi<=xs.size->hi-lo<=fuel ->
  (∀i (h:i<xs.size),i<lo->xs[i]<j)->(∀i (h:i<xs.size),hi<=i->j<=xs[i]) ->
  SetTable.below.go xs j fuel lo hi<=xs.size/\(∀i (h:i<xs.size),i<SetTable.below.go xs j fuel lo hi->xs[i]<j)/\(∀i (h:i<xs.size),SetTable.below.go xs j fuel lo hi<=i->j<=xs[i])
 | 0,lo,hi,h1,h2,h3,h4,h5=>by
  unfold SetTable.below.go;have:lo=hi:=by omega
  subst this;exact⟨h2,h4,h5⟩
 | fuel+1,lo,hi,h1,h2,h3,h4,h5=>by
  unfold SetTable.below.go
  by_cases q:lo<hi
  ·rw[if_pos q]
   have hm:(lo+hi)/2<xs.size:=by omega
   have hg:xs.getD ((lo+hi)/2) j=xs[(lo+hi)/2]:=by rw[Array.getD,dif_pos hm];rfl
   dsimp only;rw[hg]
   by_cases q2:xs[(lo+hi)/2]<j
   ·rw[if_pos q2]
    refine kK xs j R fuel _ _ ⋯ h2 ⋯ (λi h ih=>?_) h5
    by_cases e:i=(lo+hi)/2
    ·subst e;exact q2
    ·exact Nat.lt_trans (R i _ h hm ⋯) q2
   ·rw[if_neg q2]
    refine kK xs j R fuel _ _ ⋯ ⋯ ⋯ h4 (λi h ih=>?_)
    by_cases e:i=(lo+hi)/2
    ·subst e;omega
    ·exact Nat.le_trans ⋯ (Nat.le_of_lt (R _ i hm h ⋯))
  ·rw[if_neg q]
   have:lo=hi:=by omega
   subst this;exact⟨h2,h4,h5⟩
theorem kL{xs:Array Nat}{j:Nat}(R:dZ xs):SetTable.below xs j<=xs.size/\(∀i (h:i<xs.size),i<SetTable.below xs j->xs[i]<j)/\(∀i (h:i<xs.size),SetTable.below xs j<=i->j<=xs[i]):=
 kK xs j R _ _ _ (Nat.zero_le _) (Nat.le_refl _) ⋯ (λi h q=>absurd q (Nat.not_lt_zero _)) (λi h q=>by omega)
theorem mM{α:Type}(xs:Array α)(p:Nat)(x:α)(hp:p<=xs.size)(i:Nat):
  (SetTable.insertAt xs p x)[i]?=if i<p then xs[i]? else if i=p then some x else xs[i-1]?:=by
 unfold SetTable.insertAt;rw[Array.getElem?_append];simp only[Array.size_push,Array.size_extract,Nat.min_eq_left hp,Nat.sub_zero]
 by_cases h:i<p
 ·rw[if_pos ⋯,if_pos h,Array.getElem?_push,if_neg (by simp;omega),Array.getElem?_extract]
  simp;omega
 ·rw[if_neg h]
  by_cases e:i=p
  ·subst e
   rw[if_pos ⋯,if_pos rfl,Array.getElem?_push,if_pos (by simp;omega)]
  ·rw[if_neg ⋯,if_neg e,Array.getElem?_extract]
   simp only[Nat.min_self]
   by_cases q:i-(p+1)<xs.size-p
   ·rw[if_pos q];congr 1;omega
   ·rw[if_neg q];symm;apply Array.getElem?_eq_none;omega
theorem rN{xs:Array Nat}:dZ xs ↔ ∀(i j a b:Nat),xs[i]?=some a->xs[j]?=some b->i<j->a<b:=by
 constructor
 ·intro R i j a b h1 h2 q
  obtain⟨hi,rfl⟩:=Array.getElem?_eq_some_iff.mp h1;obtain⟨hj,rfl⟩:=Array.getElem?_eq_some_iff.mp h2;exact R i j hi hj q
 ·intro R i j hi hj q
  exact R i j _ _ (Array.getElem?_eq_getElem hi) (Array.getElem?_eq_getElem hj) q
theorem rO{xs:Array Nat}{j:Nat}(R:dZ xs)(hn:xs[SetTable.below xs j]?≠some j):dZ (SetTable.insertAt xs (SetTable.below xs j) j):=by
 obtain⟨h1,h2,h3⟩:=kL (j:=j) R;generalize SetTable.below xs j=p at *;have R':=rN.mp R;have lo:∀(i a:Nat),xs[i]?=some a->i<p->a<j:=λi a q w=>by
  obtain⟨hi,rfl⟩:=Array.getElem?_eq_some_iff.mp q;exact h2 i hi w
 have hi:∀(i a:Nat),xs[i]?=some a->p<=i->j<a:=λi a q w=>by
  obtain⟨hi,rfl⟩:=Array.getElem?_eq_some_iff.mp q;have hp:p<xs.size:=by omega
  have k1:=h3 p hp (Nat.le_refl _);have k2:xs[p]≠j:=λe=>hn (by rw[Array.getElem?_eq_getElem hp,e])
  by_cases e:i=p
  ·subst e;omega
  ·have:=R p i hp hi ⋯;omega
 refine rN.mpr λi k a b e1 e2 q=>?_;rw[mM _ _ _ h1]at e1 e2
 split at e1
 ·rename_i c1
  split at e2
  ·exact R' i k a b e1 e2 q
  ·split at e2
   ·cases e2;exact lo i a e1 c1
   ·rename_i c2 c3
    have:=lo i a e1 c1;have:=hi _ _ e2 ⋯
    omega
 ·split at e1
  ·cases e1
   rw[if_neg ⋯,if_neg ⋯]at e2
   exact hi _ _ e2 ⋯
  ·rw[if_neg ⋯,if_neg ⋯]at e2
   exact R' _ _ a b e1 e2 ⋯
theorem eW(n:Nat):dZ (Array.range n):=by
 intro i j hi hj q;simpa using q
theorem xA{xs:List Nat}(h:xs.Pairwise (· < ·)):dZ xs.toArray:=by
 intro i j hi hj q;simp only[List.getElem_toArray];exact List.pairwise_iff_getElem.mp h i j (by simpa using hi) (by simpa using hj) q
theorem BL{t:SetTable}{j:Nat}(h:∀i,t.slot j≠.live i):t.place[SetTable.below t.place j]?≠some j:=by
 intro e;refine h (SetTable.below t.place j) ?_;unfold SetTable.slot;simp [e]
theorem gP{t:SetTable}{f:Nat->Int}{h:Int}:∀(fuel:Nat) (p:SetTable.Probe) (j:Nat) (dm:Option Nat),(∀d,p.dummy=some d->t.slot d=.dummy) ->
  SetTable.probe.go t f h fuel p=some (.empty j dm)->t.slot j=.empty/\∀d,dm=some d->t.slot d=.dummy
 | 0,p,j,dm,hp,e=>by simp [SetTable.probe.go]at e
 | fuel+1,p,j,dm,hp,e=>by
  unfold SetTable.probe.go at e;have X3:∀q:SetTable.Probe,(t.advance q).dummy=q.dummy:=λq=>by unfold SetTable.advance;split<;>rfl
  split at e
  ·rename_i e1
   simp only[Option.some.injEq,SetTable.Met.empty.injEq]at e;obtain⟨rfl,rfl⟩:=e;exact⟨e1,hp⟩
  ·rename_i e1
   exact gP fuel _ j dm (λd hd=>by rw[X3]at hd;cases hd;exact e1) e
  ·split at e
   ·simp at e
   ·exact gP fuel _ j dm (λd hd=>by rw[X3]at hd;exact hp d hd) e
theorem Ab{t:SetTable}{h:Int}{j:Nat}{b:Bool}(e:t.freeSlot h=some (j,b)):t.place[SetTable.below t.place j]?≠some j:=by
 unfold SetTable.freeSlot at e
 split at e
 ·rename_i k dm e1
  obtain⟨h1,h2⟩:=gP _ _ _ _ (λd hd=>by simp [SetTable.probeStart]at hd) e1
  simp only[Option.some.injEq,Prod.mk.injEq]at e;obtain⟨rfl,_⟩:=e;refine BL λi=>?_;cases dm with
  | none=>simp [h1]
  | some d=>simp [h2 d rfl]
 ·simp at e
theorem EH{t:SetTable}{n:Nat}(R:dZ t.place):dZ (t.orStandIn n).place:=by
 unfold SetTable.orStandIn
 split
 ·exact R
 ·exact eW n
theorem Kt{t:SetTable}{n:Nat}:(t.orStandIn n).led=t.led:=by unfold SetTable.orStandIn;split<;>rfl
theorem rP{t:SetTable}{es:Array (Int×Value)}{h:Int}{x:Value}(R:dZ t.place):dZ (layNew t es h x).2.1.place/\(layNew t es h x).2.1.led=t.led:=by
 unfold layNew
 split
 ·rename_i j b e
  exact⟨EH (rO R (Ab e)),Kt⟩
 ·exact⟨eW _,rfl⟩
theorem w6{mask finger moves:Nat}{led plain:Bool}{hs:Array Int}{t:SetTable}{o:Array Nat}(e:SetTable.laid mask finger moves led plain hs=some (t,o)):dZ t.place/\t.led=led:=by
 unfold SetTable.laid at e;cases c:SetTable.layClean mask hs with
 | none=>simp [c]at e
 | some owner =>
  simp only[c,Option.bind_eq_bind,Option.bind_some,Option.pure_def,Option.some.injEq,Prod.mk.injEq]at e;obtain⟨rfl,_⟩:=e;refine⟨xA ?_,rfl⟩;have:∀(l:List Nat),((l.filterMap λj=>(owner.getD j none).map (j,·)).map (·.1)).Sublist l:=by
   intro l
   induction l with
   | nil=>exact .slnil
   | cons a l ih =>
    rw[List.filterMap_cons];cases owner.getD a none with
    | none=>exact .cons _ ih
    | some b=>exact .cons₂ _ ih
  exact List.Pairwise.sublist (this _) List.pairwise_lt_range
theorem um{t:SetTable}{es:Array (Int×Value)}{n:Nat}:dZ (relayAll t es n).2.1.place/\(relayAll t es n).2.1.led=t.led:=by
 unfold relayAll
 split
 ·rename_i t' o e
  obtain⟨h1,h2⟩:=w6 e;dsimp only
  split
  ·exact⟨h1,h2⟩
  ·exact⟨eW _,rfl⟩
 ·exact⟨eW _,rfl⟩
theorem tD{xs:Array Nat}(R:dZ xs){i:Nat}(hi:i<xs.size):SetTable.below xs (xs[i]+1)=i+1:=by
 obtain⟨h1,h2,h3⟩:=kL (j:=xs[i]+1) R;generalize SetTable.below xs (xs[i]+1)=p at *;rcases Nat.lt_trichotomy p (i+1)with q|q|q
 ·have:=h3 i hi ⋯;omega
 ·exact q
 ·have:=h2 (i+1) ⋯ q
  have:=R i (i+1) hi ⋯ ⋯
  omega
theorem tE{xs:Array Nat}(R:dZ xs):SetTable.below xs 0=0:=by
 obtain⟨h1,h2,h3⟩:=kL (j:=0) R;generalize SetTable.below xs 0=p at *;cases p with
 | zero=>rfl
 | succ p=>exact absurd (h2 p ⋯ ⋯) (Nat.not_lt_zero _)
end Vc
namespace Vs
open PySem PySem.Calls PyProof.Rows PyProof.V PySem.Spec Vc
def gZ(w:World):Bool:=w.params.followText "set-order"
def jf(prog:Program)(w:World)(h:Heap)(a:Addr)(is:List Int):Prop:=
 ∃o es ep t,h.get? a=some o/\o.ExactSet/\o.data=.set es ep t/\ElemsOf (intKind prog w) es.toList/\(∀e∈es.toList,∃i t,e.2=Value.int i t) /\
  (es.toList.map λe=>jX e.2).Perm is/\es.size<scanBound/\t.fits es.size=true/\dZ t.place/\t.led=!gZ w
section
variable {prog:Program}{w:World}{A:Around}{E:Value->Shared->Prop}{s:Shared}
theorem AO{v i:Int}{t:Tok}:(intKind prog w).is v (.int i t)=true ↔ v=i:=
 ⟨λh=>(intKind prog w).inj (.int i t) v i h (intKind_is _ _ _ _),λh=>by subst h;exact intKind_is _ _ _ _⟩
theorem Dk{es:List (Int×Value)}(h:∀e∈es,∃i t,e.2=Value.int i t){is:List Int}(p:(es.map λe=>jX e.2).Perm is)(v:Int):
  is.any (·==v)=true ↔ ∃e∈es,(intKind prog w).is v e.2=true:=by
 rw[List.any_eq_true];constructor
 ·rintro⟨k,hk,q⟩
  obtain rfl:=beq_iff_eq.mp q;obtain⟨e,he,q⟩:=List.mem_map.mp (p.mem_iff.mpr hk);obtain⟨i,t,e2⟩:=h e he;refine⟨e,he,?_⟩;rw[e2]at q ⊢;exact AO.mpr q.symm
 ·rintro⟨e,he,q⟩
  obtain⟨i,t,e2⟩:=h e he;rw[e2]at q;obtain rfl:=AO.mp q;exact⟨v,p.mem_iff.mp (List.mem_map.mpr ⟨e,he,by rw[e2];rfl⟩),beq_self_eq_true v⟩
theorem lV{h:Heap}{a:Addr}{o:Obj}{es:Array (Int×Value)}{ep:Nat}{t:SetTable}(ho:h.get? a=some o)(hex:o.ExactSet)(hd:o.data=.set es ep t)
  {mE:Array (Int×Value)} {t':SetTable} {is:List Int} (h1:ElemsOf (intKind prog w) mE.toList) (h2:∀e∈mE.toList,∃i t,e.2=Value.int i t) (h3:(mE.toList.map λe=>jX e.2).Perm is)
  (hb:mE.size<scanBound) (hf:t'.fits mE.size=true) (hr:dZ t'.place) (hl:t'.led=!gZ w):
  (h.update a (Obj.putSet mE t')).get? a=some {o with data:=.set mE (ep+1) t'}/\jf prog w (h.update a (Obj.putSet mE t')) a is:=by
 have hg:(h.update a (Obj.putSet mE t')).get? a=some {o with data:=.set mE (ep+1) t'}:=by
  have:=Heap.get?_update_self (Obj.putSet mE t') ho (by rw[putSet_of mE t' hd];rfl)
  rw[putSet_of mE t' hd]at this;exact this
 exact⟨hg,_,mE,ep+1,t',hg,hex,rfl,h1,h2,h3,hb,hf,hr,hl⟩
theorem sN{g:Bool->Sem Unit}(hg:∀(b:Bool) (bA:Shared) (Q':Unit->Shared->Prop),Q' () bA->wpAny (model prog w) A (g b) Q' E bA)
  {a:Addr} {o:Obj} {es:Array (Int×Value)} {ep:Nat} {t:SetTable} (ho:s.heap.get? a=some o) (hex:o.ExactSet) (hd:o.data=.set es ep t)
  {jT:Array (Int×Value)} {t2:SetTable} {is:List Int} (h1:ElemsOf (intKind prog w) jT.toList) (h2:∀e∈jT.toList,∃i t,e.2=Value.int i t) (h3:(jT.toList.map λe=>jX e.2).Perm is)
  (hb:jT.size<scanBound) (hf:t2.fits jT.size=true) (hr:dZ t2.place) (hl:t2.led=!gZ w) {wd:Bool} {R:Option Bool->Shared->Prop}
  (h:∀h',Heap.SameBut a s.heap h'->jf prog w h' a is->R (some true) {s with heap:=h'}):
  wpAny (model prog w) A (do
    storeSet a jT t2
    if(!wd&&t2.tooFull)=true then do
      g (relayAll t2 jT (SetTable.grown jT.size)).2.2
      storeSet a (relayAll t2 jT (SetTable.grown jT.size)).1 (relayAll t2 jT (SetTable.grown jT.size)).2.1
      pure (some true)
     else pure (some true)) R E s:=by
 refine wpAny_bind (wpAny_storeSet_of ho hd ?_ (fits_of_scanBound hb));obtain⟨RB,Q0⟩:=lV ho hex hd h1 h2 h3 hb hf hr hl;have DM:=Heap.SameBut.update s.heap a (Obj.putSet jT t2)
 split
 ·have hp:=relayAll_perm t2 jT (SetTable.grown jT.size)
  have Rj:=relayAll_fits t2 jT (SetTable.grown jT.size);obtain⟨k1,k2⟩:=um (t:=t2) (es:=jT) (n:=SetTable.grown jT.size);have hz:(relayAll t2 jT (SetTable.grown jT.size)).1.size<scanBound:=by rw[<- Array.length_toList,hp.length_eq,Array.length_toList];exact hb
  refine wpAny_bind (hg _ _ _ ?_);refine wpAny_bind (wpAny_storeSet_of RB rfl ?_ (fits_of_scanBound hz));obtain⟨_,Ol⟩:=lV (w:=w) (prog:=prog) RB hex rfl (h1.perm hp) (λe he=>h2 e (hp.mem_iff.mp he)) ((hp.map _).trans h3) hz Rj k1 (k2.trans hl);exact wpAny_pure (h _ (DM.trans (Heap.SameBut.update _ a _)) Ol)
 ·exact wpAny_pure (h _ DM Q0)
theorem Fm{a:Addr}{is:List Int}{v:Int}{tk:Tok}{Q:Bool->Shared->Prop}(hS:jf prog w s.heap a is)(RE:is.length+1<scanBound)
  (h:∀b h',Heap.SameBut a s.heap h'->jf prog w h' a (step_dedup is v)->Q b {s with heap:=h'}):
  wpAny (model prog w) A (setAddHashed a (.int v tk) ((intKind prog w).hash v)) Q E s:=by
 obtain⟨o,es,ep,t,ho,hex,hd,h1,h2,h3,hb,hf,hr,hl⟩:=hS;have Ru:(intKind prog w).is v (.int v tk)=true:=intKind_is _ _ _ _;have hn:es.size=is.length:=by rw[<- h3.length_eq,List.length_map,Array.length_toList]
 unfold setAddHashed setAddHashedIn;refine wpAny_holding (wpAny_bind (wpAny_setState_of ho hd hf ?_));dsimp only;rw[byScan_of (x:=.int v tk) rfl hb h1];simp only[↓reduceIte];unfold setAddByScan;refine wpAny_bind (wpAny_bind (wpAny_rule (wpAny_bind (wpAny_setScan_of Ru ho hd hf h1 ?_))));have an:=Dk (prog:=prog) (w:=w) h2 h3 v;cases hi:List.findIdx? (λe=>(intKind prog w).is v e.2) es.toList with
 | some j =>
  dsimp only;obtain⟨hj,Z3,_⟩:=List.findIdx?_eq_some_iff_getElem.mp hi;refine wpAny_pure (wpAny_pure (h _ s.heap (Heap.SameBut.refl a s.heap) ?_));rw[step_dedup,if_pos (an.mpr ⟨_,List.getElem_mem hj,Z3⟩)];exact⟨o,es,ep,t,ho,hex,hd,h1,h2,h3,hb,hf,hr,hl⟩
 | none =>
  dsimp only;have ZZ:¬is.any (·==v)=true:=λq=>by
   obtain⟨e,he,q⟩:=an.mp q;have:=List.findIdx?_eq_none_iff.mp hi e he;rw[q]at this;exact Bool.noConfusion this
  rw[step_dedup,if_neg ZZ]at h;have k6:=layNew_perm t es ((intKind prog w).hash v) (.int v tk);have vf:=layNew_fits t es ((intKind prog w).hash v) (.int v tk);have YH:=rP (es:=es) (h:=(intKind prog w).hash v) (x:=.int v tk) hr;generalize layNew t es ((intKind prog w).hash v) (.int v tk)=L at k6 vf YH ⊢;obtain⟨jT,t1,wd,Zv⟩:=L;obtain⟨Gm,C2⟩:=YH;dsimp only at k6 vf Gm C2 ⊢;rw[Array.toList_push]at k6;have k1:ElemsOf (intKind prog w) jT.toList:=(h1.push Ru rfl).perm k6;have k2:∀e∈jT.toList,∃i t,e.2=Value.int i t:=λe he=>by
   rcases List.mem_append.mp (k6.mem_iff.mp he)with q|q
   ·exact h2 e q
   ·rw[List.mem_singleton]at q;subst q;exact⟨_,_,rfl⟩
  have k3:(jT.toList.map λe=>jX e.2).Perm (is++[v]):=by
   refine(k6.map _).trans ?_;rw[List.map_append];exact h3.append_right _
  have k4:jT.size<scanBound:=by rw[<- Array.length_toList,k6.length_eq,List.length_append,Array.length_toList,hn];simpa using RE
  have gw:∀(b:Bool) (bA:Shared) (Q':Unit->Shared->Prop),Q' () bA->wpAny (model prog w) A (match b with|true=>rule "set.scan.the-table-gave-way" |false=>pure ()) Q' E bA:=
   λb bA Q' hq=>by cases b<;>first|exact wpAny_pure hq|exact wpAny_rule hq
  refine wpAny_bind (gw _ _ _ ?_)
  split
  ·refine wpAny_bind ?_
   rw[hashByValue_scannable 8 (x:=.int v tk) rfl];refine wpAny_pure ?_;refine sN gw ho hex hd k1 k2 k3 k4 ?_ ?_ ?_ ?_
   ·exact vf
   ·exact Gm
   ·exact C2.trans hl
   ·intro h' DM mF;dsimp only;exact wpAny_pure (h _ h' DM mF)
  ·refine wpAny_bind (wpAny_pure ?_)
   simp only[↓reduceIte];refine sN gw ho hex hd k1 k2 k3 k4 vf Gm (C2.trans hl) ?_;intro h' DM mF;dsimp only;exact wpAny_pure (h _ h' DM mF)
end
end Vs
namespace Vs
open PySem PySem.Calls PyProof.Rows PyProof.V PySem.Spec Vc
section
variable {prog:Program}{w:World}{A:Around}{R:Result->Shared->Prop}{I:Addr}{fp wr:List Addr}{G:Array GenState->Array GenState->Prop}{n:Nat}{P:Nat->Value->Prop}{St:Nat->Shared->Prop}
theorem jf.at{h h':Heap}{a:Addr}{is:List Int}(hS:jf prog w h a is)(k:∀o,h.get? a=some o->h'.get? a=some o):jf prog w h' a is:=by
 obtain⟨o,es,ep,t,ho,r⟩:=hS;exact⟨o,es,ep,t,k o ho,r⟩
theorem Sh(W:WalksS prog w A.in1 I fp wr G n P St)(S:Addr)(Q5:S∉fp)(val:Nat->Int)(JL:∀i v,P i v->∃t,v=.int (val i) t)(hb:n+1<scanBound):
  ∀(k i:Nat) (s:Shared),n-i=k->i<=n->St i s->jf prog w s.heap S (firstMet val i) ->
   (∀s',Moved (S::wr) G s s'->jf prog w s'.heap S (firstMet val n)->R (.ok (.ret .none)) s') ->
   codeAny (model prog w) A (.builtin "set.update.loop" ⟨[.ref S,.ref I],[]⟩) R s:=by
 have X9:S∉wr:=λh=>Q5 (W.sub _ h);have AK:∀b∈wr,b∈S::wr:=λb hb=>List.mem_cons_of_mem _ hb;intro k
 induction k with
 | zero =>
  intro i s hk hi JK hS hR;obtain rfl:i=n:=by omega
  refine codeAny_builtin F.entry_set_update_loop ?_;rw[Around.under_plainId F.plain_set_update_loop _];show wpAny _ A.in1 (pyNext (.ref I) >>= _) _ _ s;refine wpAny_bind (W.done s _ _ JK λs' hm=>?_);show wpAny _ A.in1 (ret Value.none) _ _ s';exact wpAny_pure (hR s' (hm.mono AK) (hS.at λo e=>hm.heap S _ X9 e))
 | succ k ih =>
  intro i s hk hi JK hS hR;have gy:i<n:=by omega
  refine codeAny_builtin F.entry_set_update_loop ?_;rw[Around.under_plainId F.plain_set_update_loop _];show wpAny _ A.in1 (pyNext (.ref I) >>= _) _ _ s;refine wpAny_bind (W.item i s _ _ gy JK λv s' hP Wy hm=>?_);obtain⟨t,rfl⟩:=JL i v hP;have mF:=hS.at (h':=s'.heap) λo e=>hm.heap S _ X9 e;show wpAny _ A.in1 (holding [Value.int (val i) t] (setAdd S (.int (val i) t)) >>= _) _ _ s';refine wpAny_bind (wpAny_holding ?_);unfold setAdd;refine wpAny_holding (wpAny_bind ((intKind prog w).pyHash (k:=val i) (intKind_is _ _ _ _) ?_));refine Fm (s:={s' with toks:=s'.toks+1}) mF (by have:=firstMet_length_le val i;omega) λb h' DM Ol=>?_
  rw[<- firstMet_succ]at Ol;refine wpAny_pure ⟨plainId_quiet F.plain_set_update_loop _,ih (i+1) _ ⋯ gy (W.frame _ s' _ _ Wy (Nat.le_succ _) λb hb o e=>?_) Ol λMJ Wk V0=>?_⟩
  ·rw[DM.2 b (λh:b=S=>Q5 (by rw[<- h];exact hb))];exact e
  ·refine hR MJ (Moved.trans W.gtrans ((hm.mono AK).then_heap (Nat.le_succ _) λb o hb e=>?_) Wk) V0
   rw[DM.2 b (λh:b=S=>hb (by rw[h];exact List.mem_cons_self))];exact e
end
section
variable {prog:Program}{w:World}{A:Around}{E:Value->Shared->Prop}{s:Shared}
abbrev oQ(w:World):Obj:={cls:=.type "set",dict:=none,data:=.set #[] 0 (.fresh 0 0 (!gZ w))}
theorem wA(a:Value){Q₁:Value->Shared->Prop}(h:Q₁ (.ref s.heap.objs.size) {s with heap:=s.heap.push (oQ w)}):
  codeAny (model prog w) A (.call (.builtin "set.__new__") ⟨[.type "set",a],[]⟩) (wants Q₁ E) s:=by
 refine codeAny_of_tree ?_;show wpAny _ A.in1 (do checkBuiltinCall "set.__new__" ⟨[.type "set",a],[]⟩;again (.builtin "set.__new__" ⟨[.type "set",a],[]⟩)) _ _ s
 refine wpAny_bind (wpAny_of_eq (F.newCall_set_1 a) (wpAny_pure ⟨plainId_quiet F.plain_set_new _,codeAny_builtin F.entry_set_new ?_⟩));rw[Around.under_plainId F.plain_set_new _];unfold Builtin.«set.__new__» Builtin.Frozenset.newClass;have AK:=sub_set_self;obtain⟨hp,g,d,tk,os⟩:=s;dsimp only
 wp_walk
 refine wpAny_askSetting (wpAny_pure ?_);dsimp only;simp only[newObj];refine wpAny_bind (wpAny_alloc (wpAny_pure ?_));exact wpAny_pure h
theorem D5{h:Heap}{a:Addr}(e:h.get? a=some (oQ w)):jf prog w h a []:=
 ⟨_,#[],0,_,e,⟨rfl,rfl,rfl⟩,rfl,(λe he=>by cases he),(λe he=>by cases he),.nil,by decide,rfl,(λi j hi _ _=>absurd hi (Nat.not_lt_zero _)),rfl⟩
set_option maxHeartbeats 3200000 in
theorem wz{l:Addr}{items:Array Value}{ns:List Int}{Q:Value->Shared->Prop}(hh:A.handled=none)(hl:s.heap.IsList l items)(hi:IntsAre items.toList ns)(hb:items.size+1<scanBound)
  (h:∀(h':Heap) (tk:Nat),s.heap.objs.size<h'.objs.size->jf prog w h' s.heap.objs.size (firstMet (λi=>ns.getD i 0) items.size)->(∀b o,b<s.heap.objs.size->s.heap.get? b=some o->h'.get? b=some o)->Q (.ref s.heap.objs.size) {s with heap:=h',toks:=tk}):
  wpAny (model prog w) A (call (.type "set") [.ref l]) Q E s:=by
 obtain⟨c,tl,ZX⟩:=F.called_set.mro;have YB:=F.called_set.made;have AK:=F.called_set.sub;refine wpAny_call (codeAny_of_tree ?_);show wpAny _ _ (callAny (.type "set") _) _ _ _;refine wpAny_pure ⟨Code.quiet_builtin _ (by decide +kernel),codeAny_builtin F.entry_type_call ?_⟩
 rw[Around.under_plain (weight_type_call_type "set" [.ref l] []) rfl];have h1:=F.called_set.notType;have h2:=F.called_set.canCreate;have hct:=F.typeCall_set_1 (.ref l)
 repeat (any_goals (first|assumption|wp_step))
 refine codeAny_mono (wA (.ref l) (E:=E) (Q₁:=λobj bA=>obj=.ref s.heap.objs.size/\bA={s with heap:=s.heap.push (oQ w)}) ⟨rfl,rfl⟩) λr bA hr=>?_
 cases r with
 | error e=>exact hr
 | ok fl =>
  cases fl with
  | ret obj =>
   obtain⟨rfl,rfl⟩:=hr;have hS:(s.heap.push (oQ w)).get? s.heap.objs.size=some (oQ w):=Heap.get?_push_size _ rfl;have hT:Shared.TypeIs {s with heap:=s.heap.push (oQ w)} (.ref s.heap.objs.size) "set":=⟨_,hS,rfl⟩
   have hli:=F.called_set.init.lookup;have hbi:=F.called_set.init.bind (.ref s.heap.objs.size)
   repeat (any_goals (first|assumption|wp_step))
   refine codeAny_mono (codeAny_call_builtin (R:=wants (λr sd=>r=.none/\∃h' tk,sd={s with heap:=h',toks:=tk}/\s.heap.objs.size<h'.objs.size /\
     jf prog w h' s.heap.objs.size (firstMet (λi=>ns.getD i 0) items.size)/\(∀b o,b<s.heap.objs.size->s.heap.get? b=some o->h'.get? b=some o)) E) F.called_set.init.plain F.entry_set_init (check_set_init_1 hT ?_)) λXw sd AI=>?_
   ·obtain⟨ol,YF,Yi,nl,Yk⟩:=hl
    obtain⟨aak,SX,Y1,LA⟩:=ol;simp only at Yi Yk;subst Yi;subst Yk;have Wr:(s.heap.push (oQ w)).get? l=some {cls:=.type "list",dict:=SX,data:=.seq items nl,slots:=LA}:=Heap.get?_push_of_some _ YF;have aad:=F.sub_list_set;have aac:=F.sub_list_frozenset;have c9:(Value.type "list"==Value.type "dict")=false:=by decide
    have C2:(s.heap.push (oQ w)).IsList l items:=⟨_,Wr,rfl,nl,rfl⟩;unfold Builtin.«set.__init__» noKeywords Builtin.Frozenset.updateFrom;generalize Zz:pyIter=PI
    wp_walk
    subst Zz;refine wpAny_pyIter_list C2 (wpAny_bind (wpAny_runValue ?_));have Yy:l<s.heap.objs.size:=Heap.lt_size YF;have ZK:A.in1.in1.in1.handled=none:=by simp [hh]
    have hz:(s.heap.push (oQ w)).objs.size=s.heap.objs.size+1:=Heap.size_push ..;have JL:∀(i:Nat) (v:Value),items[i]?=some v->∃t,v=.int ((λi=>ns.getD i 0) i) t:=λi v hv=>IntsAre.int_at hi i v (by rw[Array.getElem?_toList];exact hv)
    refine Sh ((Walks.list ZK _ l (by rw[hz];exact Nat.ne_of_lt (Nat.lt_succ_of_lt Yy)) items).toS) s.heap.objs.size (by rw[hz];simp only[List.mem_cons,List.mem_singleton,List.not_mem_nil,or_false,not_or];exact⟨Nat.ne_of_lt (Nat.lt_succ_self _),Nat.ne_of_gt Yy⟩) (λi=>ns.getD i 0) JL hb (items.size-0) 0 _ ⋯ (Nat.zero_le _)
     ⟨⟨_,Heap.get?_push_size _ rfl,rfl,rfl⟩,(C2.push _)⟩ (D5 (Heap.get?_push_of_some _ hS)) λs' hm mF=>?_
    obtain⟨h',g',d',tk',Xk⟩:=s';have eg:g'=s.gens:=hm.gens;have ed:d'=s.drawn:=hm.drawn;have eo:Xk=s.os:=hm.os;subst eg;subst ed;subst eo;show wpAny _ _ _ _ _ _;refine wpAny_pure ?_;show wpAny _ _ (ret Value.none) _ _ _;refine wpAny_pure ⟨rfl,h',tk',rfl,(by obtain⟨o,_,_,_,e,_⟩:=mF;exact Heap.lt_size e),mF,λb o hb e=>?_⟩
    exact hm.heap b o (by rw[hz];simp only[List.mem_cons,List.mem_singleton,List.not_mem_nil,or_false,not_or];exact⟨Nat.ne_of_lt hb,Nat.ne_of_lt (Nat.lt_succ_of_lt hb)⟩) (Heap.get?_push_of_some _ (Heap.get?_push_of_some _ e))
   ·cases Xw with
    | error e=>exact AI
    | ok QT =>
     cases QT with
     | ret r =>
      obtain⟨rfl,h',tk,rfl,Oy,mF,JC⟩:=AI
      repeat (any_goals (first|assumption|wp_step))
      exact h _ _ Oy mF JC
     | _=>exact AI.elim
  | _=>exact hr.elim
end
end Vs
namespace Vs
open PySem PySem.Calls PyProof.Rows PyProof.V PySem.Spec Vc
theorem gK{α:Type}:∀(l:List α) (i:Nat) (x:α),l[i]?=some x->l.Perm (x::l.eraseIdx i)
 | [],i,x,e=>by simp at e
 | a::l,0,x,e=>by
  simp at e;subst e;exact List.Perm.refl _
 | a::l,i+1,x,e=>by
  rw[List.getElem?_cons_succ]at e;rw[List.eraseIdx_cons_succ];exact((gK l i x e).cons a).trans (List.Perm.swap x a _)
theorem vD{α:Type}(next:Nat->Nat):∀(fuel k:Nat) (left:List α) (out:Array α),left.length<=fuel->(pickOrder.go next fuel k left out).toList.Perm (out.toList++left)
 | 0,k,left,out,h=>by
  have:left=[]:=List.length_eq_zero_iff.mp ⋯
  subst this;rw[List.append_nil];exact List.Perm.refl _
 | fuel+1,k,left,out,h=>by
  unfold pickOrder.go
  split
  ·rename_i x e
   have hl:(left.eraseIdx (next k%left.length)).length<=fuel:=by
    rw[List.length_eraseIdx];have:next k%left.length<left.length:=(List.getElem?_eq_some_iff.mp e).1;rw[if_pos this];omega
   refine(vD next fuel (k+1) _ (out.push x) hl).trans ?_;rw[Array.toList_push,List.append_assoc];exact((gK left _ x e).symm).append_left _
  ·rename_i e
   cases left with
   | nil=>rw[List.append_nil]
   | cons a l =>
    have:next k%(a::l).length<(a::l).length:=Nat.mod_lt _ (Nat.succ_pos _);rw[List.getElem?_eq_getElem this]at e;cases e
theorem xr{α:Type}(next:Nat->Nat)(xs:Array α):(pickOrder next xs).toList.Perm xs.toList:=by
 have:=vD next xs.size 0 xs.toList #[] (by simp)
 simpa [pickOrder]using this
theorem we{α:Type}{M:Model}{A:Around}{E:Value->Shared->Prop}:∀(n:Nat) (xs:List α) (s:Shared) (Q:List α->Shared->Prop),xs.length<=n ->
  (∀ys d,ys.Perm xs->Q ys {s with drawn:=d})->wpAny M A (drawOrder n xs) Q E s
 | 0,xs,s,Q,hn,h=>by
  have:xs=[]:=List.length_eq_zero_iff.mp ⋯
  subst this;exact wpAny_pure (h [] s.drawn (List.Perm.refl _))
 | n+1,[],s,Q,hn,h=>wpAny_pure (h [] s.drawn (List.Perm.refl _))
 | n+1,x::xs,s,Q,hn,h=>by
  intro Γ p hΓ;show PySem.Sem.wp M Γ (.choose .order (x::xs).length _) _ _ p s;rw[PySem.Sem.wp_choose];refine⟨Nat.succ_ne_zero _,?_⟩;generalize hi:M.w.draws .order (s.drawn.get .order)%(x::xs).length=i;have gy:i<(x::xs).length:=by rw[<- hi];exact Nat.mod_lt _ (Nat.succ_pos _)
  have key:wpAny M A (do
    match(x::xs)[i]? with
    | some y=>return y::(<- drawOrder n ((x::xs).eraseIdx i))
    | none=>unsupported "internal:drawOrder") Q E {s with drawn:=s.drawn.bump .order}:=by
   rw[List.getElem?_eq_getElem gy];dsimp only;refine wpAny_bind (we n _ _ _ ?_ λys d hp=>?_)
   ·rw[List.length_eraseIdx,if_pos gy];simp only[List.length_cons]at hn ⊢;omega
   ·exact wpAny_pure (h _ d ((hp.cons _).trans (gK _ i _ (List.getElem?_eq_getElem gy)).symm))
  exact key Γ p hΓ
end Vs
namespace Vs
open PySem PySem.Calls PyProof.Rows PyProof.V PySem.Spec Vc
theorem bx:Slot "set_iterator" "__next__" "set_iterator.__next__":=
 .of (owner:="set_iterator") (n:="__next__") (by rw[typeLookup_type,builtinLookup_eq_fast];kernel_rfl) (by decide +kernel) (by decide +kernel) (by decide +kernel)
  (by first|exact .inl (by decide +kernel)|exact .inr (by decide +kernel)) (by rw[isSubtype_type];kernel_rfl)
theorem iZ:Slot "set_iterator" "__iter__" "set_iterator.__iter__":=
 .of (owner:="set_iterator") (n:="__iter__") (by rw[typeLookup_type,builtinLookup_eq_fast];kernel_rfl) (by decide +kernel) (by decide +kernel) (by decide +kernel)
  (by first|exact .inl (by decide +kernel)|exact .inr (by decide +kernel)) (by rw[isSubtype_type];kernel_rfl)
theorem dh:entryFor table "set_iterator.__next__"=some Builtin.«set_iterator.__next__»:=entryFor_of_tree (by kernel_rfl)
theorem oz:entryFor table "set.__iter__"=some Builtin.«frozenset.__iter__»:=entryFor_alias (id':="frozenset.__iter__") (by kernel_rfl) rfl (by decide +kernel) (by kernel_rfl)
theorem rD:Manifest.owners.lookup (String.ofList ['r','o','t','a','r','e','t','i','_','t','e','s'].reverse)=some Manifest.sig_set_iterator:=by kernel_rfl
theorem dF(a:Value):argsOk "set_iterator.__next__" ⟨[a],[]⟩:=by
 unfold argsOk;rw[signature?_of (id:="set_iterator.__next__") (n:=['_','_','t','x','e','n','_','_']) (o:=['r','o','t','a','r','e','t','i','_','t','e','s']) (by kernel_rfl) rD];kernel_rfl
def nX(h:Heap)(a:Addr)(es:Array (Int×Value))(ep:Nat)(t:SetTable):Prop:=∃o,h.get? a=some o/\o.ExactSet/\o.data=.set es ep t/\t.fits es.size=true
def sQ(h:Heap)(it:Addr)(f:Value)(i:Nat)(a:Addr)(n ep:Nat):Prop:=∃o,h.get? it=some o/\o.cls=.type "set_iterator"/\o.data=.fields #[f,.int i 0,.ref a,.int n 0,.int ep 0]
section
variable {prog:Program}{w:World}{A:Around}{E:Value->Shared->Prop}{s:Shared}{a it:Addr}{es:Array (Int×Value)}{ep i:Nat}{t:SetTable}
theorem uM{Q:Bool->Shared->Prop}(q:Q (gZ w) s):wpAny (model prog w) A setsByText Q E s:=by
 unfold setsByText;exact wpAny_bind (wpAny_askSetting (wpAny_pure q))
def ly(w:World)(a:Addr)(es:Array (Int×Value))(ep:Nat)(t:SetTable)(slot i:Nat):Option (Value×Nat):=
 if gZ w=true then((pickOrder (w.params.setOrder a ep) es)[i]?).map λe=>(e.2,slot)
 else match es[SetTable.below t.place slot]?,t.place[SetTable.below t.place slot]? with
  | some (_,x),some j=>some (x,j+1)
  | _,_=>none
theorem mB{slot:Nat}{Q:Option (Value×Nat)->Shared->Prop}(m:nX s.heap a es ep t)(hl:t.led=!gZ w)(hd:gZ w=false->(!t.plain&&decide (es.size>1))=false)
  (q:Q (ly w a es ep t slot i) s):wpAny (model prog w) A (setNext a slot i ep) Q E s:=by
 obtain⟨o,e1,e2,e3,e4⟩:=m;unfold setNext;refine wpAny_bind (wpAny_setState_of e1 e3 e4 ?_);dsimp only;refine wpAny_bind (uM ?_);unfold ly at q;cases hb:gZ w with
 | true =>
  rw[hb]at q;rw[if_pos rfl]at q;simp only[bne_self_eq_false,Bool.false_eq_true,if_false,if_true];refine wpAny_bind ?_;unfold setWalk;refine wpAny_bind (wpAny_setState_of e1 e3 e4 ?_);dsimp only;refine wpAny_bind (uM ?_);rw[hb,if_pos rfl];exact wpAny_bind (wpAny_askSetting (wpAny_pure (wpAny_pure q)))
 | false =>
  rw[hb]at q hl;rw[if_neg Bool.false_ne_true]at q;rw[if_neg Bool.false_ne_true];have V8:=hd hb;show wpAny _ _ (if(!t.plain&&decide (es.size>1))=true then _ else _) _ _ _
  rw[V8,if_neg Bool.false_ne_true];refine wpAny_bind (m:=(if(!t.led&&!es.isEmpty)=true then unsupported "set:maker-not-led" else pure ())) ?_
  rw[hl];exact wpAny_pure (wpAny_pure q)
end
end Vs
namespace Vs
open PySem PySem.Calls PyProof.Rows PyProof.V PySem.Spec Vc
section
variable {prog:Program}{w:World}{A:Around}{E:Value->Shared->Prop}{s:Shared}{a it:Addr}{es:Array (Int×Value)}{ep i:Nat}{t:SetTable}
theorem nX.ty{s:Shared}(m:nX s.heap a es ep t):s.TypeIs (.ref a) "set":=let ⟨o,e,x,_⟩:=m;⟨o,e,x.1⟩
theorem sQ.ty{s:Shared}{f:Value}{n:Nat}(m:sQ s.heap it f i a n ep):s.TypeIs (.ref it) "set_iterator":=let ⟨o,e,x,_⟩:=m;⟨o,e,x⟩
abbrev Y5(f:Value)(a:Addr)(n ep:Nat):Obj:={cls:=.type "set_iterator",data:=.fields #[f,.int 0 0,.ref a,.int n 0,.int ep 0]}
theorem CI{Q:Value->Shared->Prop}(m:nX s.heap a es ep t)(hz:es.size<=sizeLine)
  (q1:(gZ w=false->(!t.plain&&decide (es.size>1))=false)->Q (.ref s.heap.objs.size) {s with heap:=s.heap.push (Y5 (.int 0 0) a es.size ep)})
  (q2:gZ w=false->∀(ys:List Nat) d,ys.Perm (List.range es.size)->Q (.ref (s.heap.push (seqObj "tuple" (ys.map λ(j:Nat)=>Value.int j 0).toArray 0)).objs.size) {s with drawn:=d,heap:=(s.heap.push (seqObj "tuple" (ys.map λ(j:Nat)=>Value.int j 0).toArray 0)).push (Y5 (.ref s.heap.objs.size) a es.size ep)}):
  wpAny (model prog w) A (pyIter (.ref a)) Q E s:=by
 obtain⟨o,e1,e2,e3,e4⟩:=id m;refine wpAny_pyIter_slot m.ty F.slot_set_iter (wpAny_call_entry F.slot_set_iter m.ty oz ?_ (F.args_set_iter_1 _));unfold Builtin.«frozenset.__iter__» Builtin.Frozenset.slot0 slotArgs;simp only[List.isEmpty_nil,Bool.not_true,Bool.false_eq_true,↓reduceIte,bind_assoc,List.length_nil,bne_self_eq_false];unfold Builtin.Frozenset.addrOf Builtin.Frozenset.sizeOf;refine wpAny_bind (wpAny_pure ?_)
 try dsimp only
 refine wpAny_bind (wpAny_pure ?_);refine wpAny_bind (wpAny_bind (wpAny_setEntries_of e1 e3 e4 (wpAny_pure ?_)));unfold setDrawn;refine wpAny_bind (wpAny_bind (wpAny_setState_of e1 e3 e4 ?_));dsimp only;refine wpAny_bind (uM (wpAny_pure ?_));show wpAny _ _ (if(!gZ w&&(!t.plain&&decide (es.size>1)))=true then _ else _) _ _ _
 by_cases c:(!gZ w&&(!t.plain&&decide (es.size>1)))=true
 ·rw[if_pos c]
  have hb:gZ w=false:=by cases h:gZ w<;>simp [h]at c ⊢
  refine wpAny_bind (we _ _ _ _ (by simp) λys d hp=>?_)
  have hl:ys.length=es.size:=by rw[hp.length_eq,List.length_range]
  refine wpAny_bind (wpAny_newTuple ?_ (by simpa [hl]using hz))
  refine wpAny_bind (wpAny_setEpoch_of (Heap.get?_push_of_some _ e1) e3 e4 ?_);refine wpAny_bind (wpAny_newObj_type (wpAny_pure ⟨_,rfl,"set_iterator",_,⟨_,Heap.get?_push_size _ rfl,rfl⟩,bx.lookup,?_⟩));exact q2 hb ys d hp
 ·rw[if_neg c]
  refine wpAny_bind (wpAny_pure (wpAny_bind (wpAny_setEpoch_of e1 e3 e4 ?_)));refine wpAny_bind (wpAny_newObj_type (wpAny_pure ⟨_,rfl,"set_iterator",_,⟨_,Heap.get?_push_size _ rfl,rfl⟩,bx.lookup,?_⟩));exact q1 λhb=>by rw[hb]at c;simpa using c
theorem ER{slot j:Nat}{x:Value}{Q:Option Value->Shared->Prop}(u:sQ s.heap it (.int slot 0) i a es.size ep)(m:nX s.heap a es ep t)(hl:t.led=!gZ w)(hd:gZ w=false->(!t.plain&&decide (es.size>1))=false)
  (hx:ly w a es ep t slot i=some (x,j)) (q:∀h',sQ h' it (.int j 0) (i+1) a es.size ep->Heap.SameBut it s.heap h'->Q (some x) {s with heap:=h'}):wpAny (model prog w) A (pyNext (.ref it)) Q E s:=by
 obtain⟨o1,t1,t2,t3⟩:=id u;obtain⟨o,e1,e2,e3,e4⟩:=id m;unfold pyNext;refine wpAny_bind (wpAny_attempt (wpAny_callSpecial?_slot (name:=Str.ofString "__next__") u.ty bx (wpAny_call_entry bx u.ty dh ?_ (dF _))));unfold Builtin.«set_iterator.__next__» slotArgs;simp only[List.isEmpty_nil,Bool.not_true,Bool.false_eq_true,↓reduceIte,bind_assoc,List.length_nil,bne_self_eq_false];refine wpAny_bind (wpAny_pure ?_);refine wpAny_bind (wpAny_fieldsOf t1 t3 ?_);dsimp only;refine wpAny_bind (wpAny_setEntries_of e1 e3 e4 ?_);rw[if_neg (by simp)]
 try dsimp only
 rw[Int.toNat_natCast,Int.toNat_natCast,Int.toNat_natCast];refine wpAny_bind (mB m hl hd ?_);rw[hx];dsimp only;refine wpAny_bind (wpAny_setField t1 t3 (by simp) ?_)
 have r1:=Heap.get?_update_self (Obj.mapFields (·.setIfInBounds 0 (rawInt (j:Int)))) t1 (Obj.isFreed_of_fields (Obj.data_mapFields t3 _))
 refine wpAny_bind (wpAny_setField r1 (Obj.data_mapFields t3 _) (by simp) ?_)
 have r2:=Heap.get?_update_self (Obj.mapFields (·.setIfInBounds 1 (rawInt ((i:Int)+1)))) r1 (Obj.isFreed_of_fields (Obj.data_mapFields (Obj.data_mapFields t3 _) _))
 refine wpAny_pure ⟨_,rfl,wpAny_pure (q _ ⟨_,r2,(Obj.cls_mapFields ..).trans ((Obj.cls_mapFields ..).trans t2),?_⟩ ((Heap.SameBut.update ..).trans (Heap.SameBut.update ..)))⟩;rw[Obj.data_mapFields (Obj.data_mapFields t3 _)];simp [rawInt]
theorem Nf{slot:Nat}{Q:Option Value->Shared->Prop}(hh:A.handled=none)(u:sQ s.heap it (.int slot 0) i a es.size ep)(m:nX s.heap a es ep t)(hl:t.led=!gZ w)(hd:gZ w=false->(!t.plain&&decide (es.size>1))=false)
  (hx:ly w a es ep t slot i=none) (q:∀h',Heap.ExtBut it s.heap h'->Q none {s with heap:=h'}):wpAny (model prog w) A (pyNext (.ref it)) Q E s:=by
 obtain⟨o1,t1,t2,t3⟩:=id u;obtain⟨o,e1,e2,e3,e4⟩:=id m;unfold pyNext;refine wpAny_bind (wpAny_attempt (wpAny_callSpecial?_slot (name:=Str.ofString "__next__") u.ty bx (wpAny_call_entry bx u.ty dh ?_ (dF _))));unfold Builtin.«set_iterator.__next__» slotArgs;simp only[List.isEmpty_nil,Bool.not_true,Bool.false_eq_true,↓reduceIte,bind_assoc,List.length_nil,bne_self_eq_false];refine wpAny_bind (wpAny_pure ?_);refine wpAny_bind (wpAny_fieldsOf t1 t3 ?_);dsimp only;refine wpAny_bind (wpAny_setEntries_of e1 e3 e4 ?_);rw[if_neg (by simp)]
 try dsimp only
 rw[Int.toNat_natCast,Int.toNat_natCast,Int.toNat_natCast];refine wpAny_bind (mB m hl hd ?_);rw[hx];dsimp only;refine wpAny_bind (wpAny_setField t1 t3 (by simp) ?_)
 refine wpAny_bind ?_;simp only[newExc,newTuple];refine wpAny_bind (wpAny_newObj_type ?_ (by size_fits))
 refine wpAny_bind (m:=firstArgMember _ _) (wpAny_of_eq (a:=Value.none) (by first|rfl | (simp only[firstArgMember];rfl)) (wpAny_newObj_type ?_ (by size_fits)))
 simp only[raiseNew];refine wpAny_bind (wpAny_handled ?_);rw[show A.in1.handled=none from hh]
 refine wpAny_bind (wpAny_pure (wpAny_throw ?_));refine wpAny_bind (wpAny_isInstance (T:="StopIteration") (b:=true) ⟨_,Heap.get?_push_size _ rfl,rfl⟩ isSubtype_stop ?_);exact wpAny_pure (q _ (((Heap.SameBut.update ..).extBut.push _).push _))
end
end Vs
namespace Vs
open PySem PySem.Calls PyProof.Rows PyProof.V PySem.Spec Vc
theorem mK:entryFor table "set_iterator.__iter__"=some Builtin.«dict_keyiterator.__iter__»:=entryFor_alias (id':="dict_keyiterator.__iter__") (by kernel_rfl) rfl (by decide +kernel) (by kernel_rfl)
theorem n5(a:Value):argsOk "set_iterator.__iter__" ⟨[a],[]⟩:=by
 unfold argsOk;rw[signature?_of (id:="set_iterator.__iter__") (n:=['_','_','r','e','t','i','_','_']) (o:=['r','o','t','a','r','e','t','i','_','t','e','s']) (by kernel_rfl) rD];kernel_rfl
section
variable {prog:Program}{w:World}{A:Around}{E:Value->Shared->Prop}{s:Shared}{a it p:Addr}{es:Array (Int×Value)}{ep i:Nat}{t:SetTable}
theorem nX.at{h h':Heap}(m:nX h a es ep t)(k:∀o,h.get? a=some o->h'.get? a=some o):nX h' a es ep t:=let ⟨o,e,r⟩:=m;⟨o,k _ e,r⟩
theorem sQ.at{h h':Heap}{f:Value}{n:Nat}(m:sQ h it f i a n ep)(k:∀o,h.get? it=some o->h'.get? it=some o):sQ h' it f i a n ep:=let ⟨o,e,r⟩:=m;⟨o,k _ e,r⟩
theorem nU{f:Value}{n:Nat}{Q:Value->Shared->Prop}(u:sQ s.heap it f i a n ep)(q:Q (.ref it) s):wpAny (model prog w) A (pyIter (.ref it)) Q E s:=by
 refine wpAny_pyIter_slot u.ty iZ (wpAny_call_entry iZ u.ty mK ?_ (n5 _));show wpAny _ _ (ret (.ref it)) _ _ s;exact wpAny_pure ⟨_,rfl,"set_iterator",_,u.ty,bx.lookup,q⟩
def oT(w:World)(a:Addr)(es:Array (Int×Value))(ep:Nat):List Value:=(if gZ w=true then(pickOrder (w.params.setOrder a ep) es).toList else es.toList).map (·.2)
theorem nE:(oT w a es ep).Perm (es.toList.map (·.2)):=by
 unfold oT;refine List.Perm.map _ ?_
 split
 ·exact xr _ _
 ·exact List.Perm.refl _
theorem lE:(oT w a es ep).length=es.size:=by rw[nE.length_eq,List.length_map,Array.length_toList]
theorem Gw{slot:Nat}(hf:t.fits es.size=true)(R:dZ t.place)(hs:gZ w=false->SetTable.below t.place slot=i):
  (∀v,(oT w a es ep)[i]?=some v->∃j,ly w a es ep t slot i=some (v,j)/\(gZ w=false->SetTable.below t.place j=i+1))/\((oT w a es ep)[i]?=none->ly w a es ep t slot i=none):=by
 have hz:t.place.size=es.size:=by
  unfold SetTable.fits at hf;simp only[Bool.and_eq_true,beq_iff_eq]at hf;exact hf.1
 unfold oT ly;cases hb:gZ w with
 | true =>
  simp only[if_true,List.getElem?_map,Array.getElem?_toList,Option.map_eq_some_iff,Option.map_eq_none_iff];refine⟨λv=>?_,λh=>h⟩;rintro⟨e,he,rfl⟩;exact⟨slot,⟨e,he,rfl⟩,λh=>by cases h⟩
 | false =>
  rw[hs hb];simp only[Bool.false_eq_true,if_false,List.getElem?_map,Array.getElem?_toList,Option.map_eq_some_iff,Option.map_eq_none_iff];constructor
  ·rintro v ⟨e,he,rfl⟩
   have hi:i<t.place.size:=by rw[hz];exact(Array.getElem?_eq_some_iff.mp he).1
   refine⟨t.place[i]+1,?_,λ_=>tD R hi⟩;rw[he,Array.getElem?_eq_getElem hi]
  ·intro he
   rw[he]
theorem UH(hh:A.handled=none)(I:Addr)(ne:a≠I)(hf:t.fits es.size=true)(R:dZ t.place)(hl:t.led=!gZ w)(hd:gZ w=false->(!t.plain&&decide (es.size>1))=false):
  Walks prog w A I [I,a] [I] es.size (λi v=>(oT w a es ep)[i]?=some v) (λi h=>∃slot:Nat,sQ h I (.int slot 0) i a es.size ep/\nX h a es ep t/\(gZ w=false->SetTable.below t.place slot=i)) where
 sub:=λb hb=>List.mem_cons.mpr (.inl (List.mem_singleton.mp hb))
 frame:=λ_ _ _ ⟨slot,u,m,e⟩ kp=>⟨slot,u.at λo e=>kp I (.head _) o e,m.at λo e=>kp a (.tail _ (.head _)) o e,e⟩
 item:=λi s Q E hi ⟨slot,u,m,e⟩ q=>by
  obtain⟨v,x⟩:∃v,(oT w a es ep)[i]?=some v:=⟨_,List.getElem?_eq_getElem (by rw[lE];exact hi)⟩
  obtain⟨j,e1,e2⟩:=(Gw hf R e).1 _ x;refine ER u m hl hd e1 λh' u' sb=>q _ h' s.toks x ⟨j,u',m.at λo e=>(sb.2 a ne).trans e,e2⟩ λb o hb e=>(sb.2 b λy=>hb (List.mem_singleton.mpr y)).trans e
 done:=λs Q E ⟨slot,u,m,e⟩ q=>Nf hh u m hl hd ((Gw hf R e).2 (List.getElem?_eq_none (by rw[lE];exact Nat.le_refl _))) λh' ex=>q h' s.toks λb o hb e=>ex b o (λy=>hb (List.mem_singleton.mpr y)) e
 self:=λ_ _ _ _ ⟨_,u,_,_⟩ q=>nU u q
end
end Vs
namespace Vs
open PySem PySem.Calls PyProof.Rows PyProof.V PySem.Spec Vc
section
variable {prog:Program}{w:World}{A:Around}{E:Value->Shared->Prop}{s:Shared}{a it p:Addr}{es:Array (Int×Value)}{ep i:Nat}{t:SetTable}
abbrev GB(ys:List Nat):Obj:=seqObj "tuple" (ys.map λ(j:Nat)=>Value.int j 0).toArray 0
theorem EL{ys:List Nat}{k:Nat}{z:Int}{x:Value}{Q:Option Value->Shared->Prop}(u:sQ s.heap it (.ref p) i a es.size ep)(m:nX s.heap a es ep t)(hp:s.heap.get? p=some (GB ys))(hk:ys[i]?=some k)(hx:es[k]?=some (z,x))
  (q:∀h',sQ h' it (.ref p) (i+1) a es.size ep->Heap.SameBut it s.heap h'->Q (some x) {s with heap:=h'}):wpAny (model prog w) A (pyNext (.ref it)) Q E s:=by
 obtain⟨o1,t1,t2,t3⟩:=id u;obtain⟨o,e1,e2,e3,e4⟩:=id m;unfold pyNext;refine wpAny_bind (wpAny_attempt (wpAny_callSpecial?_slot (name:=Str.ofString "__next__") u.ty bx (wpAny_call_entry bx u.ty dh ?_ (dF _))));unfold Builtin.«set_iterator.__next__» slotArgs;simp only[List.isEmpty_nil,Bool.not_true,Bool.false_eq_true,↓reduceIte,bind_assoc,List.length_nil,bne_self_eq_false];refine wpAny_bind (wpAny_pure ?_);refine wpAny_bind (wpAny_fieldsOf t1 t3 ?_);dsimp only;refine wpAny_bind (wpAny_setEntries_of e1 e3 e4 ?_);rw[if_neg (by simp)]
 try dsimp only
 refine wpAny_bind (wpAny_seqItems hp rfl ?_);dsimp only;rw[Int.toNat_natCast,List.getElem?_toArray,List.getElem?_map,hk];dsimp only[Option.map_some];rw[Int.toNat_natCast,Int.toNat_natCast];unfold setNextDrawn;refine wpAny_bind (wpAny_bind (wpAny_setState_of e1 e3 e4 ?_));dsimp only;simp only[bne_self_eq_false,Bool.false_eq_true,↓reduceIte,hx];refine wpAny_pure ?_;refine wpAny_bind (wpAny_setField t1 t3 (by simp) ?_)
 have r1:=Heap.get?_update_self (Obj.mapFields (·.setIfInBounds 1 (rawInt ((i:Int)+1)))) t1 (Obj.isFreed_of_fields (Obj.data_mapFields t3 _))
 refine wpAny_pure ⟨_,rfl,wpAny_pure (q _ ⟨_,r1,(Obj.cls_mapFields ..).trans t2,?_⟩ (Heap.SameBut.update ..))⟩;rw[Obj.data_mapFields t3];simp [rawInt]
theorem M9{ys:List Nat}{Q:Option Value->Shared->Prop}(hh:A.handled=none)(u:sQ s.heap it (.ref p) i a es.size ep)(m:nX s.heap a es ep t)(hp:s.heap.get? p=some (GB ys))(hk:ys[i]?=none)
  (q:∀h',Heap.ExtBut it s.heap h'->Q none {s with heap:=h'}):wpAny (model prog w) A (pyNext (.ref it)) Q E s:=by
 obtain⟨o1,t1,t2,t3⟩:=id u;obtain⟨o,e1,e2,e3,e4⟩:=id m;unfold pyNext;refine wpAny_bind (wpAny_attempt (wpAny_callSpecial?_slot (name:=Str.ofString "__next__") u.ty bx (wpAny_call_entry bx u.ty dh ?_ (dF _))));unfold Builtin.«set_iterator.__next__» slotArgs;simp only[List.isEmpty_nil,Bool.not_true,Bool.false_eq_true,↓reduceIte,bind_assoc,List.length_nil,bne_self_eq_false];refine wpAny_bind (wpAny_pure ?_);refine wpAny_bind (wpAny_fieldsOf t1 t3 ?_);dsimp only;refine wpAny_bind (wpAny_setEntries_of e1 e3 e4 ?_);rw[if_neg (by simp)]
 try dsimp only
 refine wpAny_bind (wpAny_seqItems hp rfl ?_);dsimp only;rw[Int.toNat_natCast,List.getElem?_toArray,List.getElem?_map,hk];dsimp only[Option.map_none];refine wpAny_bind (wpAny_setField t1 t3 (by simp) ?_)
 have r1:=Heap.get?_update_self (Obj.mapFields (·.setIfInBounds 0 (rawInt 0))) t1 (Obj.isFreed_of_fields (Obj.data_mapFields t3 _))
 refine wpAny_bind (wpAny_setField r1 (Obj.data_mapFields t3 _) (by simp) ?_)
 refine wpAny_bind ?_;simp only[newExc,newTuple];refine wpAny_bind (wpAny_newObj_type ?_ (by size_fits))
 refine wpAny_bind (m:=firstArgMember _ _) (wpAny_of_eq (a:=Value.none) (by first|rfl | (simp only[firstArgMember];rfl)) (wpAny_newObj_type ?_ (by size_fits)))
 simp only[raiseNew];refine wpAny_bind (wpAny_handled ?_);rw[show A.in1.handled=none from hh]
 refine wpAny_bind (wpAny_pure (wpAny_throw ?_));refine wpAny_bind (wpAny_isInstance (T:="StopIteration") (b:=true) ⟨_,Heap.get?_push_size _ rfl,rfl⟩ isSubtype_stop ?_);exact wpAny_pure (q _ ((((Heap.SameBut.update ..).trans (Heap.SameBut.update ..)).extBut.push _).push _))
def Ee(es:Array (Int×Value))(ys:List Nat):List Value:=ys.map λk=>((es[k]?).getD (0,.none)).2
theorem nD{ys:List Nat}(h:ys.Perm (List.range es.size)):(Ee es ys).Perm (es.toList.map (·.2)):=by
 refine(h.map _).trans (List.Perm.of_eq ?_);refine List.ext_getElem (by simp) λi h1 h2=>?_
 have c:i<es.size:=by simpa using h2
 simp [c]
theorem UG(hh:A.handled=none)(I p:Addr){ys:List Nat}(hy:ys.Perm (List.range es.size))(ne:a≠I)(np:p≠I):
  Walks prog w A I [I,a,p] [I] es.size (λi v=>(Ee es ys)[i]?=some v) (λi h=>sQ h I (.ref p) i a es.size ep/\nX h a es ep t/\h.get? p=some (GB ys)) where
 sub:=λb hb=>List.mem_cons.mpr (.inl (List.mem_singleton.mp hb))
 frame:=λ_ _ _ st kp=>⟨st.1.at λo e=>kp I (.head _) o e,st.2.1.at λo e=>kp a (.tail _ (.head _)) o e,kp p (.tail _ (.tail _ (.head _))) _ st.2.2⟩
 item:=λi s Q E hi st q=>by
  have hl:ys.length=es.size:=by rw[hy.length_eq,List.length_range]
  obtain⟨k,hk⟩:∃k,ys[i]?=some k:=⟨_,List.getElem?_eq_getElem (by rw[hl];exact hi)⟩
  have kl:k<es.size:=List.mem_range.mp (hy.mem_iff.mp (List.mem_of_getElem? hk));obtain⟨e,he⟩:∃e,es[k]?=some e:=⟨_,Array.getElem?_eq_getElem kl⟩;refine EL st.1 st.2.1 st.2.2 hk he λh' u' sb=>q _ h' s.toks ?_ ⟨u',st.2.1.at λo e=>(sb.2 a ne).trans e,(sb.2 p np).trans st.2.2⟩ λb o hb e=>(sb.2 b λy=>hb (List.mem_singleton.mpr y)).trans e;unfold Ee;rw[List.getElem?_map,hk];simp [he]
 done:=λs Q E st q=>M9 hh st.1 st.2.1 st.2.2 (List.getElem?_eq_none (by rw[hy.length_eq,List.length_range];exact Nat.le_refl _)) λh' ex=>q h' s.toks λb o hb e=>ex b o (λy=>hb (List.mem_singleton.mpr y)) e
 self:=λ_ _ _ _ st q=>nU st.1 q
end
end Vs
namespace Vs
open PySem PySem.Calls PyProof.Rows PyProof.V PySem.Spec Vc
section
variable {prog:Program}{w:World}{A:Around}{E:Value->Shared->Prop}{s:Shared}{a it p:Addr}{es:Array (Int×Value)}{ep i:Nat}{t:SetTable}
theorem Rm{Q:Bool->Shared->Prop}(hT:s.TypeIs (.ref a) "set")(h:Q false s):wpAny (model prog w) A (Builtin.List.listLengthHint (.ref a)) Q E s:=by
 unfold Builtin.List.listLengthHint;refine wpAny_bind (wpAny_specialOf hT PySem.F.slot_set_len.lookup ?_);generalize Ys:("set.__len__":String)=id0
 wp_delta
 rw[show splitId id0=some ("set","__len__")from by subst Ys;decide +kernel]
 subst Ys;refine wpAny_bind (wpAny_isInstance (T:="set") (b:=true) hT (by rw[isSubtype_type];kernel_rfl) ?_)
 refine wpAny_ite_split (λJv=>absurd Jv ∅) (λ_=>?_)
 refine wpAny_ite_split (λ_=>?_) (λJv=>absurd (by decide +kernel) Jv)
 refine wpAny_bind (wpAny_typeOf hT ?_);exact wpAny_pure h
theorem VN{R:Result->Shared->Prop}(hh:A.handled=none)(m:nX s.heap a es ep t)(hz:es.size<=sizeLine)(Rr:dZ t.place)(hl:t.led=!gZ w)(S:Addr)(V1:S≠a)(res:Value)(c₀:Nat)(hS:s.heap.get? S=some {cls:=.type "list",data:=.seq #[] c₀})
  (hR:∀h' tk d dE c',(∀b o,b≠S->s.heap.get? b=some o->h'.get? b=some o)->h'.get? S=some {cls:=.type "list",dict:=none,data:=.seq dE c',slots:=#[]}->dE.toList.Perm (es.toList.map (·.2))->R (.ok (.ret res)) {s with heap:=h',toks:=tk,drawn:=d}):
  wpAny (model prog w) A.in1 (Builtin.List.listExtendWith (.ref S) (.ref a) res)
   (λfin s'=>match fin with|.done f=>R (.ok f) s'|.again c'=>c'.quiet=true/\codeAny (model prog w) A c' R s') (λe s'=>R (.error e) s') s:=by
 have Q6:=Heap.lt_size hS;have UR:a<s.heap.objs.size:=by obtain⟨o,e,_⟩:=m;exact Heap.lt_size e
 have YQ:∀(ord:List Value) (acc:Array Value),ord.length=es.size->ItemsOf (λi v=>ord[i]?=some v) acc es.size->acc.toList=ord:=λord acc hl it=>by
  refine List.ext_getElem? λj=>?_;rw[Array.getElem?_toList];cases ej:acc[j]? with
  | none =>
   have:acc.size<=j:=Array.getElem?_eq_none_iff.mp ej;rw[it.1]at this;rw[List.getElem?_eq_none ⋯]
  | some v=>exact(it.2 j v ej).symm
 have key:∀(rz:Bool) (I:Addr) (fp:List Addr) (P:Nat->Value->Prop) (St:Nat->Heap->Prop) (s1:Shared),Walks prog w A.in1 I fp [I] es.size P St->S∉fp->S≠I->St 0 s1.heap->s1.heap.get? S=some {cls:=.type "list",data:=.seq #[] c₀}->s1.TypeIs (.ref a) "set" ->
   (∀h' tk dE c',(∀b o,b≠S->b≠I->s1.heap.get? b=some o->h'.get? b=some o)->h'.get? S=some {cls:=.type "list",dict:=none,data:=.seq dE c',slots:=#[]}->ItemsOf P dE es.size->R (.ok (.ret res)) {s1 with heap:=h',toks:=tk}) ->
   wpAny (model prog w) A.in1 (do
     let room <- holding [.ref I] (Builtin.List.listLengthHint (.ref a))
     if(room||rz)=true then do
      rule "list.extend.makes-room"
      Builtin.List.listTouch (.ref S)
      again (.builtin "list.extend.loop" ⟨[.ref S,.ref I,res],[]⟩)
     else again (.builtin "list.extend.loop" ⟨[.ref S,.ref I,res],[]⟩))
    (λfin s'=>match fin with|.done f=>R (.ok f) s'|.again c'=>c'.quiet=true/\codeAny (model prog w) A c' R s') (λe s'=>R (.error e) s') s1:=by
  intro rz I fp P St s1 W Q5 hSI st Q0 hT fin;have loop:∀(h:Heap) (c₁:Nat),St 0 h->(∀b o,b≠S->s1.heap.get? b=some o->h.get? b=some o)->h.get? S=some {cls:=.type "list",data:=.seq #[] c₁} ->
    codeAny (model prog w) A (.builtin "list.extend.loop" ⟨[.ref S,.ref I,res],[]⟩) R {s1 with heap:=h}:=by
   intro h c₁ st hk Ol;refine codeAny_extend_loopS W.toS hz S Q5 res es.size 0 _ #[] c₁ rfl (Nat.zero_le _) st Ol (ItemsOf.nil _) λs' dE c' hm mF d2=>?_;rw[Moved.eq_with hm];refine fin s'.heap s'.toks dE c' (λb o hb hi e=>hm.heap b o (λq=>?_) (hk b o hb e)) mF d2;rcases List.mem_cons.mp q with q|q
   ·exact hb q
   ·exact hi (List.mem_singleton.mp q)
  refine wpAny_bind (wpAny_holding (Rm hT ?_));refine wpAny_ite_split (λ_=>?_) (λ_=>wpAny_pure ⟨plainId_quiet PySem.F.plain_extend_loop _,loop _ c₀ st (λb o _ e=>e) Q0⟩);refine wpAny_bind (wpAny_rule ?_);refine wpAny_bind ?_;show wpAny _ _ (updateSeq S (·.push .none) >>= λ_=>updateSeq S (·.pop)) _ _ _
  refine wpAny_bind (wpAny_updateSeq Q0 rfl ?_);have Gh:=Heap.get?_update_self (Obj.mapSeq (·.push Value.none)) Q0 rfl
  refine wpAny_updateSeq (hz:=by seq_fits) Gh rfl ?_
  have Q8:=Heap.get?_update_self (Obj.mapSeq (·.pop)) Gh rfl
  have Y2:∀b o,b≠S->s1.heap.get? b=some o->((s1.heap.update S (Obj.mapSeq (·.push Value.none))).update S (Obj.mapSeq (·.pop))).get? b=some o:=λb o hb e =>
   (Heap.get?_update_other _ _ (Ne.symm hb)).trans ((Heap.get?_update_other _ _ (Ne.symm hb)).trans e)
  exact wpAny_pure ⟨plainId_quiet PySem.F.plain_extend_loop _,loop _ _ (W.frame 0 _ _ st λb hb o e=>Y2 b o (λh=>Q5 (h ▸ hb)) e) Y2 Q8⟩
 unfold Builtin.List.listExtendWith;refine wpAny_bind (wpAny_typeOf (T:="set") m.ty ?_);have h1:Builtin.List.listSameRef (.ref S) (.ref a)=false:=by simp [Builtin.List.listSameRef,V1]
 simp only[h1,show(Value.type "set"==Value.type "list")=false from by decide,show(Value.type "set"==Value.type "tuple")=false from by decide,Bool.or_false,Bool.false_eq_true,if_false]
 refine wpAny_bind (CI m hz (λhd=>?_) λhb ys d hy=>?_)
 ·refine key _ _ [s.heap.objs.size,a] (λi v=>(oT w a es ep)[i]?=some v) (λi h=>∃slot:Nat,sQ h s.heap.objs.size (.int slot 0) i a es.size ep/\nX h a es ep t/\(gZ w=false->SetTable.below t.place slot=i)) _ (UH (A:=A.in1) (t:=t) hh _ (Nat.ne_of_lt UR) (by obtain⟨_,_,_,_,e⟩:=m;exact e) Rr hl hd) ?_ (Nat.ne_of_lt Q6) ⟨0,⟨_,Heap.get?_push_size _ rfl,rfl,rfl⟩,m.at λo e=>Heap.get?_push_of_some _ e,λ_=>tE Rr⟩ (Heap.get?_push_of_some _ hS) (nX.ty (s:={s with heap:=_}) (m.at λo e=>Heap.get?_push_of_some _ e)) λh' tk dE c' hk mF it=>?_
  ·simp only[List.mem_cons,List.not_mem_nil,or_false,not_or];exact⟨Nat.ne_of_lt Q6,V1⟩
  ·refine hR h' tk s.drawn dE c' (λb o hb e=>hk b o hb (Nat.ne_of_lt (Heap.lt_size e)) (Heap.get?_push_of_some _ e)) mF ?_
   rw[YQ _ dE lE it];exact nE
 ·have Gq:(s.heap.push (GB ys)).objs.size=s.heap.objs.size+1:=Heap.size_push ..
  refine key _ _ [(s.heap.push (GB ys)).objs.size,a,s.heap.objs.size] (λi v=>(Ee es ys)[i]?=some v) (λi h=>sQ h (s.heap.push (GB ys)).objs.size (.ref s.heap.objs.size) i a es.size ep/\nX h a es ep t/\h.get? s.heap.objs.size=some (GB ys)) _ (UG (A:=A.in1) (t:=t) (a:=a) (ep:=ep) hh (s.heap.push (GB ys)).objs.size s.heap.objs.size hy (by rw[Gq];exact Nat.ne_of_lt (Nat.lt_succ_of_lt UR)) (by rw[Gq];exact Nat.ne_of_lt (Nat.lt_succ_self _))) ?_ (by rw[Gq];exact Nat.ne_of_lt (Nat.lt_succ_of_lt Q6))
   ⟨⟨_,Heap.get?_push_size _ rfl,rfl,rfl⟩,m.at λo e=>Heap.get?_push_of_some _ (Heap.get?_push_of_some _ e),Heap.get?_push_of_some _ (Heap.get?_push_size _ rfl)⟩ (Heap.get?_push_of_some _ (Heap.get?_push_of_some _ hS)) (nX.ty (s:={s with heap:=_}) (m.at λo e=>Heap.get?_push_of_some _ (Heap.get?_push_of_some _ e))) λh' tk dE c' hk mF it=>?_
  ·simp only[List.mem_cons,List.not_mem_nil,or_false,not_or];exact⟨by rw[Gq];exact Nat.ne_of_lt (Nat.lt_succ_of_lt Q6),V1,Nat.ne_of_lt Q6⟩
  ·refine hR h' tk d dE c' (λb o hb e=>hk b o hb (by rw[Gq];exact Nat.ne_of_lt (Nat.lt_succ_of_lt (Heap.lt_size e))) (Heap.get?_push_of_some _ (Heap.get?_push_of_some _ e))) mF ?_
   rw[YQ _ dE (by rw[(nD hy).length_eq,List.length_map,Array.length_toList]) it];exact nD hy
end
end Vs
namespace Vs
open PySem PySem.Calls PyProof.Rows PyProof.V PySem.Spec Vc PySem.W
section
variable {prog:Program}{w:World}{A:Around}{E:Value->Shared->Prop}{s:Shared}{a it p:Addr}{es:Array (Int×Value)}{ep i:Nat}{t:SetTable}
theorem yY{R:List Value->Shared->Prop}(hh:A.handled=none)(m:nX s.heap a es ep t)(hz:es.size<=sizeLine)(Rr:dZ t.place)(hl:t.led=!gZ w)
  (h:∀(h':Heap) (tk:Nat) d (acc:List Value),(∀b o,s.heap.get? b=some o->h'.get? b=some o)->acc.Perm (es.toList.map (·.2))->R acc {s with heap:=h',toks:=tk,drawn:=d}):
  wpAny (model prog w) A (collect (.ref a)) R E s:=by
 have UR:a<s.heap.objs.size:=by obtain⟨o,e,_⟩:=m;exact Heap.lt_size e
 unfold collect;refine wpAny_bind (wpAny_runValue (codeAny_builtin entry_proto_collect' ?_));rw[Around.under_plainId PySem.F.plain_proto_collect _];show wpAny _ A.in1 (newList [] >>= λl=>again (.builtin "list.__iadd__" ⟨[l,.ref a],[]⟩)) _ _ s;refine wpAny_bind (wpAny_newObj_type ?_);refine wpAny_pure ⟨plainId_quiet PySem.F.plain_list_iadd _,codeAny_builtin entry_list_iadd' ?_⟩;rw[Around.under_plainId PySem.F.plain_list_iadd _];have Q7:(s.heap.push {cls:=.type "list",data:=.seq ([]:List Value).toArray}).get? s.heap.objs.size=some {cls:=.type "list",data:=.seq #[]}:=Heap.get?_push_size _ rfl;show wpAny _ A.in1 (Builtin.List.listExtendWith (.ref s.heap.objs.size) (.ref a) (.ref s.heap.objs.size)) _ _ _;have key:=VN (prog:=prog) (w:=w) (A:=A) (s:={s with heap:=s.heap.push {cls:=.type "list",data:=.seq ([]:List Value).toArray}})
  (R:=λ(q:Result) (s':Shared)=>∃(h':Heap) (tk:Nat) (d:_) (dE:Array Value) (c':Nat),q=.ok (.ret (.ref s.heap.objs.size))/\s'={s with heap:=h',toks:=tk,drawn:=d} /\
   (∀b o,s.heap.get? b=some o->h'.get? b=some o)/\h'.get? s.heap.objs.size=some {cls:=.type "list",dict:=none,data:=.seq dE c',slots:=#[]}/\dE.toList.Perm (es.toList.map (·.2)))
  hh (m.at λo e=>Heap.get?_push_of_some _ e) hz Rr hl s.heap.objs.size (Nat.ne_of_gt UR) (.ref s.heap.objs.size) 0 Q7
  (λh' tk d dE c' hk mF d2=>⟨h',tk,d,dE,c',rfl,rfl,λb o e=>hk b o (Nat.ne_of_lt (Heap.lt_size e)) (Heap.get?_push_of_some _ e),mF,d2⟩)
 refine wpAny_mono key (λfin s' x=>?_) λe s' x=>?_
 ·cases fin with
  | done f =>
   obtain⟨h',tk,d,dE,c',e,rfl,hk,mF,d2⟩:=x;cases e;show wpAny _ A (load s.heap.objs.size >>= _) _ _ _;refine wpAny_bind (wpAny_load mF ?_);exact wpAny_pure (h h' tk d dE.toList hk d2)
  | again c₁ =>
   refine⟨x.1,codeAny_mono x.2 λq sd y=>?_⟩;obtain⟨h',tk,d,dE,c',rfl,rfl,hk,mF,d2⟩:=y;show wpAny _ A (load s.heap.objs.size >>= _) _ _ _;refine wpAny_bind (wpAny_load mF ?_);exact wpAny_pure (h h' tk d dE.toList hk d2)
 ·obtain⟨_,_,_,_,_,e',_⟩:=x
  cases e'
end
end Vs
namespace Vs
open PySem PySem.Calls PyProof.Rows PyProof.V PySem.Spec Vc PySem.W
section
variable {prog:Program}{w:World}{A:Around}{E:Value->Shared->Prop}{s:Shared}{a:Addr}
theorem il:∀ {vs:List Value},(∀v∈vs,∃i t,v=Value.int i t)->IntsAre vs (vs.map jX)
 | [],_=>.nil
 | v::vs,h=>by
  obtain⟨i,t,rfl⟩:=h v (.head _);exact .cons _ t (il λx hx=>h x (.tail _ hx))
theorem Us{is:List Int}{Q:Value->Shared->Prop}(hh:A.handled=none)(m:jf prog w s.heap a is)
  (h:∀(vs:List Value) (h1 g:Heap) (c t:Nat) d,(∀v∈vs,∃i t,v=Value.int i t)->(vs.map jX).Perm is->(vs.map jX).Pairwise (λx y=>x<=y)->(∀b o,s.heap.get? b=some o->h1.get? b=some o)->(∀b o,h1.get? b=some o->g.get? b=some o)->g.get? h1.objs.size=some (seqObj "list" vs.toArray c)->Q (.ref h1.objs.size) {s with heap:=g,toks:=t,drawn:=d}):
  wpAny (model prog w) A (call (.builtin "sorted") [.ref a]) Q E s:=by
 obtain⟨o,es,ep,t,ho,hex,hd,h1,h2,h3,hb,hf,hr,hl⟩:=m;refine Calls.call_function_entry kind_sorted plain_sorted entry_sorted (args_sorted1 _) ?_;unfold Builtin.«sorted»;refine wpAny_bind (m:=checkCount "sorted" 1 1 _) (wpAny_pure (wpAny_bind (yY (A:=A.in1) hh ⟨o,ho,hex,hd,hf⟩ (fits_of_scanBound hb) hr hl λwJ tk d its k1 hp=>?_)));have fh:∀v∈its,∃i t,v=Value.int i t:=λv hv=>by
  obtain⟨e,he,rfl⟩:=List.mem_map.mp (hp.mem_iff.mp hv);exact h2 e he
 have Z2:(its.map jX).Perm is:=by
  refine(hp.map jX).trans ?_;rw[List.map_map];exact h3
 have ZR:its.length=es.size:=by rw[hp.length_eq,List.length_map,Array.length_toList]
 have hz:its.length<=sizeLine:=by rw[ZR];exact fits_of_scanBound hb
 have mem:∀x:Keyed,x∈(pairsOf its).toList->x.1∈its/\x.1=x.2:=λx hx=>by
  rw[pairsOf_toList,eJ]at hx;obtain⟨v,hv,rfl⟩:=List.mem_map.mp hx;exact⟨hv,rfl⟩
 refine wpAny_bind (wpAny_newList ?_ hz);have JF:(wJ.push (seqObj "list" its.toArray 0)).get? wJ.objs.size=some (seqObj "list" its.toArray 0):=Heap.get?_push_size _ rfl;have keep:∀b o,wJ.get? b=some o->(wJ.push (seqObj "list" its.toArray 0)).get? b=some o:=λb o e=>Heap.get?_push_of_some _ e;have ne:∀b o,wJ.get? b=some o->b≠wJ.objs.size:=λb o e=>Nat.ne_of_lt (Heap.lt_size e);show wpAny _ _ _ _ _ {s with heap:=wJ.push (seqObj "list" its.toArray 0),toks:=tk,drawn:=d}
 refine wpAny_bind (wpAny_holding (wpAny_call_entry slot_list_sort ⟨_,JF,rfl⟩ entry_list_sort (gA (s:={s with heap:=wJ.push (seqObj "list" its.toArray 0),toks:=tk,drawn:=d}) (kd:=oneType') (ρ:=rk (λx=>[jX x.1]) (pairsOf its).toList) (P:=λx=>x∈(pairsOf its).toList) JF hz (λ_ h=>h) (λZx g kg=>⟨λQ hQ=>?_,?_⟩) λxs g c a1 a2 a3 a4=>⟨_,rfl,?_⟩) (args_list_sort _)))
 ·exact AY (s:={s with heap:=g,toks:=tk,drawn:=d}) Zx (il fh) hQ
 ·exact D1 (s:={s with heap:=g,toks:=tk,drawn:=d}) λx hx=>fh x.1 (mem x hx).1
 ·refine wpAny_pure ⟨_,rfl,?_⟩
  have jc:xs.toList.Perm (pairsOf its).toList:=Array.perm_iff_toList_perm.mp a1;have ig:∀x∈xs.toList,x.1∈its/\x.1=x.2:=λx hx=>mem x (jc.mem_iff.mp hx);refine h (xs.toList.map (·.2)) wJ g c tk d ?_ ?_ ?_ k1 (λb o e=>a3 b o (ne b o e) (keep b o e)) (by rw[show(xs.toList.map (·.2)).toArray=xs.map (·.2)from by rw[<- Array.toList_map,Array.toArray_toList]];exact a4)
  ·intro v hv
   obtain⟨x,hx,rfl⟩:=List.mem_map.mp hv;have:=ig x hx;exact fh _ (this.2 ▸ this.1)
  ·refine List.Perm.trans ?_ Z2
   rw[List.map_map];refine(jc.map (jX ∘ λx=>x.2)).trans ?_;rw[pairsOf_toList,eJ,List.map_map];exact List.Perm.refl _
  ·rw[List.map_map,List.pairwise_map]
   refine List.pairwise_iff_getElem.mpr λi j hi hj kA=>?_;have tS:i<xs.size:=by simpa using hi
   have Rq:j<xs.size:=by simpa using hj
   have hsz:xs.size=its.length:=by have:=a1.size_eq;rw[pairsOf_size]at this;exact this
   have h1:=a2 i j (Nat.zero_le _) (Nat.le_of_lt kA) ⋯
   rw[cX (Array.getElem?_eq_getElem tS),cX (Array.getElem?_eq_getElem Rq)]at h1;show jX xs[i].2<=jX xs[j].2;have m1:=ig xs[i] (by simp)
   have m2:=ig xs[j] (by simp)
   have:=vL (d:=λx=>[jX x.1]) (l:=(pairsOf its).toList) (x:=xs[j]) (y:=xs[i]) (jc.mem_iff.mp (by simp))
   rw[decide_eq_false ⋯]at this
   rw[<- m1.2,<- m2.2];have e:(if jX xs[j].1=jX xs[i].1 then HT.lexLt [] []else decide (jX xs[j].1<jX xs[i].1))=false:=this.symm
   by_cases z:jX xs[j].1=jX xs[i].1
   ·omega
   ·rw[if_neg z]at e
    have:=of_decide_eq_false e;omega
end
end Vs
namespace Vc
open PySem L2
variable [KF]
theorem wV{X:Cx}{pins:List (Addr×Obj)}{σ:St}{H:Hp}{s:Shared}{d:Drawn}(I:Inv X pins σ H s):Inv X pins σ H {s with drawn:=d}:=
 ⟨I.ok,I.os,I.bare,I.base,I.loc,I.cell,I.free,I.fb,I.pin,I.bU,I.len⟩
def BA:List V->Hp->VK->Prop:=λxs H Q=>∃p is,xs=[.ref p]/\Rd H p (.lst (is.map V.int))/\is.length<4000 /\
 ∀ms:List Int,ms.Perm (wc is)->ms.Pairwise (λx y=>x<=y)->∀l,H l=none->Q (.ref l) (upd H l (.lst (ms.map V.int)))
theorem uc{X:Cx}{e:Expr}{t:TA}{p p2 pos jv:Pos}(hc:X.calm=true)(hg:Gl X "sorted")(hm:X.mg "sorted"=none)(hv:bootBuiltins "sorted"=some (.builtin "sorted"))(Ov:Gl X "set")(ig:X.mg "set"=none)(hv2:bootBuiltins "set"=some (.type "set"))(ha:PA X [e] t)
  (hs:starEach [e] X.env=[(false,eval e X.env)]) (oI:starEach [Expr.Call (.Name "set" p2) [e] [] jv] X.env=[(false,eval (Expr.Call (.Name "set" p2) [e] [] jv) X.env)]):
  PE X (.Call (.Name "sorted" p) [.Call (.Name "set" p2) [e] [] jv] [] pos) (Vd BA t):=by
 intro pins s σ H Q I h;refine wpAny_Call_Name_kw (eP I hg hm hv ?_ ∅ ∅)
 refine PyProof.Rows.callWith_builtin1 ?_ oI (by rfl)
 rw[oI];show wpAny _ _ (spliced ((false,eval (Expr.Call (.Name "set" p2) [e] [] jv) X.env)::backTo pos [])) _ _ s;refine Calls.spliced_cons ?_;refine wpAny_Call_Name_kw (eP I Ov ig hv2 ?_ ∅ ∅)
 refine PyProof.Rows.callWith_type1 (b8 (ha jv pins s σ H _ I h) λus s1 ⟨vs,H1,I1,r1,q1⟩=>?_) hs (by rfl)
 obtain⟨p,is,rfl,hp,hb,q⟩:=q1;obtain⟨u,rfl,rx⟩:=vals1 r1;cases rx;obtain⟨z,its,n,r',hl,e⟩:=Inv.U8 I1 hp;have hlen:its.length=is.length:=by rw[<- hl,List.length_map]
 refine Vs.wz (items:=its.toArray) (ns:=is) (I1.ok.hd hc) ⟨_,e,rfl,_,rfl⟩ (by simpa using intsAre_of r') (by rw[List.size_toArray,hlen];show is.length+1<4096;omega) λh' tk hz hS hk=>?_
 have JM:its.toArray.size=is.length:=by rw[List.size_toArray,hlen]
 rw[JM]at hS;show wpAny _ _ (spliced []) _ _ _;refine wpAny_pure ?_;refine Vs.Us (s:={s1 with heap:=h',toks:=tk}) (I1.ok.hd hc) hS λvs h1 g c t d fh YG Z4 k1 kg ZJ=>?_
 have I2:=(I1.kept (h':=h1) (t':=s1.toks) λb o eb=>k1 b o (hk b o (Heap.lt_size eb) eb));have fr:H1 h1.objs.size=none:=I2.fresh;refine⟨.ref h1.objs.size,_,wV (d:=d) (I2.laid (h':=g) (t':=t) (o:=.lst ((vs.map Vs.jX).map V.int)) kg (Nat.le_refl _) ⟨?_,vs,c,eI fh,ZJ⟩),rfl,q _ YG Z4 _ fr⟩;rw[List.length_map,YG.length_eq];have:=PyProof.Rows.firstMet_length_le (λi=>is.getD i 0) is.length;omega
variable {G:GE}{k:Nat}{S:Stat}
end Vc
namespace Vc
open PySem L2
variable [KF]
variable {G:GE}{k:Nat}{S:Stat}
def lZ:List D->(EV->Prop)->Prop
 | [.lst ds],Q=>(ds.all isInt=true/\ds.length<4000)/\Q (.own ((rX (wc (ds.map jm))).map D.int))
 | _,_=>False
theorem rW:jd BA lZ:=λY F H aq σ vs ds Qd Q R r q g=>by
 unfold lZ at q
 split at q
 ·rename_i ds
  obtain⟨⟨e2,hl⟩,q⟩:=q;obtain⟨v,rfl,rv⟩:=r.one;obtain⟨a,us,rfl,h1,h2⟩:=rv.lst;obtain rfl:=h2.ints e2;refine⟨a,ds.map jm,rfl,h1,by rw[List.length_map];exact hl,λms hp hs l hl=>?_⟩
  rw[<- rY hp hs]at q;exact g.own R (nK ms) q l hl
 ·exact q.elim
theorem xx{a:Expr}{t:qf}{p p2 pos jv:Pos}(h:xU G k S [a] t)(hm:G.mg "sorted"=none)(ig:G.mg "set"=none)(hg:S.sc.lookup ("sorted":Str)=some .globalImplicit:=by rfl)(Ov:S.sc.lookup ("set":Str)=some .globalImplicit:=by rfl)
  (hs:∀env,starEach [a] env=[(false,eval a env)]:=by intro _;rfl) (oI:∀env,starEach [Expr.Call (.Name "set" p2) [a] [] jv] env=[(false,eval (Expr.Call (.Name "set" p2) [a] [] jv) env)]:=by intro _;rfl) (hh:S.mL=false:=by rfl):
  EX G k S (.Call (.Name "sorted" p) [.Call (.Name "set" p2) [a] [] jv] [] pos) (dB lZ t):=.mk λX Y ok =>
 bj (uc (ok.calm hh) (d3 ok hg) (by rw[ok.mg];exact hm) (by decide +kernel) (d3 ok Ov) (by rw[ok.mg];exact ig) (by decide +kernel) (h X Y ok) (hs _) (oI _)) λσ H Q q=>jI rW q
end Vc
set_option maxHeartbeats 0
namespace Vm
open PySem L2 Vc
section
def top(i:Nat):Stmt:=PySem.Challenge.pw_closepoints_k15_whole_near_together.main.body.getD i (.Pass ⟨0,0,0,0⟩)
variable [KF]
structure Gl(G:GE):Prop where
 z_abs:G.mg "abs"=none
 z_enumerate:G.mg "enumerate"=none
 z_int:G.mg "int"=none
 z_len:G.mg "len"=none
 z_list:G.mg "list"=none
 z_max:G.mg "max"=none
 z_min:G.mg "min"=none
 z_range:G.mg "range"=none
 z_set:G.mg "set"=none
 z_sorted:G.mg "sorted"=none
 z_sum:G.mg "sum"=none
 z_tuple:G.mg "tuple"=none
 z_zip:G.mg "zip"=none
 gj:C9 G "MOST_POINTS_APART" (.int 14)
 wq:C9 G "SQUARES" (.str "squares")
 m9:C9 G "STREETS" (.str "streets")
variable {G:GE}{k:Nat}
abbrev iP:Stmt:=top 11
abbrev yh:List Str:=["count"]
local macro_rules | `(tactic| walk_at "5") => `(tactic| exact ⟨rfl,rfl,rfl,by decide +kernel,rfl,by decide +kernel,by decide +kernel⟩)
theorem MZ:aL yh ["count"] (ai iP):=by walk_at "5"
def Cd:cJ:=(cB (mv (aV Gv (ag 0) (aZ (.int 1))) (aV Gg (ag 0) (aZ (.int 3)))) p7 gE)
theorem Qy(E:Gl G):d8 G k ⟨yh,(ai iP).names,[],false,false,false,λ_ _=>False⟩ (av iP) (Cd):=(aH (cR (C6 (xv (aP Dq (af 0) au) (rG (aP wt (af 0) au)))) (aH eX) bO))
abbrev o7:Stmt:=top 12
abbrev GQ:List Str:=["point","count"]
theorem T6:aL GQ ["point","count"] (ai o7):=by walk_at "5"
def NT:cJ:=(cB (aV neT (aQ (dB cY (bp (ag 0) dc))) (ag 1)) p7 gE)
theorem Vy(E:Gl G):d8 G k ⟨GQ,(ai o7).names,[],false,false,false,λ_ _=>False⟩ (av o7) (NT):=(aH (cR (aP g0 (aS (cp f_len E.z_len (aE (af 0) a7) (by decide +kernel))) (af 1)) (aH eX) bO))
abbrev iH:Stmt:=top 13
abbrev ya:List Str:=["points","point"]
theorem MR:aL ya ["points"] (ai iH):=by walk_at "5"
def B5(pW:bz)(vT:bz):cJ:=(da (bJ (ak [] (ag 0))) (d0 1) (bP (qa (dA pW (aJ (ak [] (aQ (dB cY (bp (ag 1) dc)))) tN))) (qa (dA vT (aJ (ak [] (ag 1)) (aJ (ak [] (aQ (dB cY (bp (i7 (ag 0) (aZ (.int 0))) dc)))) tN))))))
theorem Qr(E:Gl G){pW:bz}(Aq:cq G k "need_count" pW){vT:bz}(Jo:cq G k "need_as_many_numbers" vT):d8 G k ⟨ya,(ai iH).names,[],false,false,false,λ_ _=>False⟩ (av iH) (B5 pW vT):=(aH (gB (cC (aD (af 0))) (aU 1 (hn:=by first|decide|exact of_decide_eq_true rfl)) (aw (cN (aK Aq (ah (aD (aS (cp f_len E.z_len (aE (af 1) a7) (by decide +kernel)))) ax))) (aH (cN (aK Jo (ah (aD (af 1)) (ah (aD (aS (cp f_len E.z_len (aE (dz (af 0) au) a7) (by decide +kernel)))) ax))))))))
abbrev iV:Stmt:=top 14
abbrev yn:List Str:=["way"]
theorem M5:aL yn ["way"] (ai iV):=by walk_at "5"
def Ck:cJ:=(cB (fD (aV neT (ag 0) (aZ (.str "streets"))) (aV neT (ag 0) (aZ (.str "squares")))) p7 gE)
theorem QD(E:Gl G):d8 G k ⟨yn,(ai iV).names,[],false,false,false,λ_ _=>False⟩ (av iV) (Ck):=(aH (cR (C6 (lK (aP g0 (af 0) (vI E.m9)) (lL (aP g0 (af 0) (vI E.wq))))) (aH eX) bO))
abbrev o8:Stmt:=top 15
abbrev GR:List Str:=["points","way"]
theorem T7:aL GR ["points","way"] (ai o8):=by walk_at "5"
def NU(pQ:bz)(pY:bz):cJ:=(bP (qa (dA pQ (aJ (ak [] (ag 0)) tN))) (qa (dA pY (aJ (ak [] (ag 1)) tN))))
theorem Vz(E:Gl G){pQ:bz}(Ak:cq G k "need_points" pQ){pY:bz}(Au:cq G k "need_way" pY):d8 G k ⟨GR,(ai o8).names,[],false,false,false,λ_ _=>False⟩ (av o8) (NU pQ pY):=(aw (cN (aK Ak (ah (aD (af 0)) ax))) (aH (cN (aK Au (ah (aD (af 1)) ax)))))
abbrev iQ:Stmt:=top 16
abbrev yi:List Str:=["points","place"]
theorem M0:aL yi ["points","place"] (ai iQ):=by walk_at "5"
def Ce:cJ:=(cB (mv (aV Gv (ag 1) (aZ (.int 0))) (aV QY (ag 1) (aQ (dB cY (bp (ag 0) dc))))) p7 gE)
theorem Qz(E:Gl G):d8 G k ⟨yi,(ai iQ).names,[],false,false,false,λ_ _=>False⟩ (av iQ) (Ce):=(aH (cR (C6 (xv (aP Dq (af 1) au) (rG (aP Hu (af 1) (aS (cp f_len E.z_len (aE (af 0) a7) (by decide +kernel))))))) (aH eX) bO))
abbrev iO:Stmt:=top 17
abbrev yg:List Str:=["bound"]
theorem MY:aL yg ["bound"] (ai iO):=by walk_at "5"
def Cb:cJ:=(cB (aV Gv (ag 0) (aZ (.int 0))) p7 gE)
theorem Qx(E:Gl G):d8 G k ⟨yg,(ai iO).names,[],false,false,false,λ_ _=>False⟩ (av iO) (Cb):=(aH (cR (aP Dq (af 0) au) (aH eX) bO))
abbrev iG:Stmt:=top 18
abbrev xZ:List Str:=["number"]
theorem MQ:aL xZ ["number"] (ai iG):=by walk_at "5"
def B4:cJ:=(cB (aV Gv (ag 0) (aZ (.int 1))) p7 gE)
theorem Qq(E:Gl G):d8 G k ⟨xZ,(ai iG).names,[],false,false,false,λ_ _=>False⟩ (av iG) (B4):=(aH (cR (aP Dq (af 0) au) (aH eX) bO))
abbrev pv:Stmt:=top 19
abbrev G1:List Str:=["points","many"]
theorem Ug:aL G1 ["points","many"] (ai pv):=by walk_at "5"
def N5:cJ:=(cB (aV Gg (aQ (dB cY (bp (ag 0) dc))) (ag 1)) p7 gE)
theorem VH(E:Gl G):d8 G k ⟨G1,(ai pv).names,[],false,false,false,λ_ _=>False⟩ (av pv) (N5):=(aH (cR (aP wt (aS (cp f_len E.z_len (aE (af 0) a7) (by decide +kernel))) (af 1)) (aH eX) bO))
abbrev iC:Stmt:=top 21
abbrev xW:List Str:=["way","point","other","differences"]
theorem MM:aL xW ["way","point","other"] (ai iC):=by walk_at "5"
def B1:cJ:=(bP (dw [] 3 (cD [] [none,none] (NS (aJ (ak [] (ag 1)) (aJ (ak [] (ag 2)) tN))) (CZ 2 (gC (d0 0) (gC (d0 1) CY))) cE (ak [] (aQ (dB yv (bp (aQ (bf fC (ag 0) (ag 1))) dc)))))) (bP (cB (aV eqT (ag 0) (aZ (.str "streets"))) (er [] (dB sumF (bp (ag 3) dc))) gE) (er [] (dB sumF (bp (aQ (cD [] [none] (bJ (ak [] (ag 3))) (d0 0) cE (ak [] (aQ (bf ku (ag 0) (ag 0)))))) dc)))))
local macro_rules | `(tactic| walk_at "6") => `(tactic| first|decide +kernel | (dsimp only[aI,ay];decide +kernel))
theorem Qn(E:Gl G):d8 G k ⟨xW,(ai iC).names,[],false,false,false,λ_ _=>False⟩ (av iC) (B1):=(aw (jx 3 (N':=["here","there"]) (RO (ah (aD (af 1)) (ah (aD (af 2)) ax)) E.z_zip) ⟨rfl,by walk_at "6",by walk_at "6",by walk_at "6",by walk_at "6",rfl,by walk_at "6"⟩ (kZ (bQ (aU 0 (hn:=by first|decide|exact of_decide_eq_true rfl)) (bQ (aU 1 (hn:=by first|decide|exact of_decide_eq_true rfl)) gM))) dN (aD (aS (cp Ge E.z_abs (aE (aS (dW (af 0) (af 1))) a7) (by decide +kernel))))) (aw (cR (aP mH (af 0) (vI E.m9)) (aH (bw (cp zZ E.z_sum (aE (af 3) a7) (by decide +kernel)))) bO) (aH (bw (cp zZ E.z_sum (aE (aS (dU (N':=["difference"]) (cC (aD (af 3))) ⟨rfl,by walk_at "6",by walk_at "6",by walk_at "6",by walk_at "6",rfl,by walk_at "6"⟩ (aU 0 (hn:=by first|decide|exact of_decide_eq_true rfl)) dN (aD (aS (j3 (af 0) (af 0)))))) a7) (by decide +kernel))))))
abbrev pg:Stmt:=top 22
abbrev GX:List Str:=["points","way","pairs","i","j"]
theorem Ub:aL GX ["points","way"] (ai pg):=by walk_at "5"
def UE(eZ:bz):cJ:=(bP (dw [] 2 (mq tN)) (bP (da (uo (bp (aQ (dB cY (bp (ag 0) dc))) dc)) (d0 3) (da (EJ (bp (aQ (bf dk (ag 3) (aZ (.int 1)))) (bp (aQ (dB cY (bp (ag 0) dc))) dc))) (d0 4) (qa (BQ (ag 2) (ak [] (BZ (aJ (ak [] (aQ (dA eZ (aJ (ak [] (ag 1)) (aJ (ak [] (i7 (ag 0) (ag 3))) (aJ (ak [] (i7 (ag 0) (ag 4))) tN)))))) (aJ (ak [] (ag 3)) (aJ (ak [] (ag 4)) tN))))))))) (er [] (oX (ag 2)))))
theorem VD(E:Gl G){eZ:bz}(nq:cq G k "far_between" eZ):d8 G k ⟨GX,(ai pg).names,[],false,false,false,λ_ _=>False⟩ (av pg) (UE eZ):=(aw (bF 2 (cP ax)) (aw (gB (oJ (aE (aS (cp f_len E.z_len (aE (af 0) a7) (by decide +kernel))) a7) E.z_range) (aU 3 (hn:=by first|decide|exact of_decide_eq_true rfl)) (aH (gB (JO (aE (aS (cI (af 3) au)) (aE (aS (cp f_len E.z_len (aE (af 0) a7) (by decide +kernel))) a7)) E.z_range) (aU 4 (hn:=by first|decide|exact of_decide_eq_true rfl)) (aH (cN (rF (af 2) (aD (j4 (ah (aD (aS (aK nq (ah (aD (af 1)) (ah (aD (dz (af 0) (af 3))) (ah (aD (dz (af 0) (af 4))) ax)))))) (ah (aD (af 3)) (ah (aD (af 4)) ax))))))))))) (aH (bw (fS (af 2))))))
abbrev iW:Stmt:=top 23
abbrev yo:List Str:=["points","way","one","other"]
theorem M6:aL yo ["points","way","one","other"] (ai iW):=by walk_at "5"
def Cm(cV:bz)(mj:bz)(eZ:bz):cJ:=(bP (qa (dA cV (aJ (ak [] (ag 0)) (aJ (ak [] (ag 1)) tN)))) (bP (qa (dA mj (aJ (ak [] (ag 0)) (aJ (ak [] (ag 2)) tN)))) (bP (qa (dA mj (aJ (ak [] (ag 0)) (aJ (ak [] (ag 3)) tN)))) (er [] (dA eZ (aJ (ak [] (ag 1)) (aJ (ak [] (i7 (ag 0) (ag 2))) (aJ (ak [] (i7 (ag 0) (ag 3))) tN))))))))
theorem QE(E:Gl G){cV:bz}(kn:cq G k "need_points_and_way" cV){mj:bz}(u6:cq G k "need_place" mj){eZ:bz}(nq:cq G k "far_between" eZ):d8 G k ⟨yo,(ai iW).names,[],false,false,false,λ_ _=>False⟩ (av iW) (Cm cV mj eZ):=(aw (cN (aK kn (ah (aD (af 0)) (ah (aD (af 1)) ax)))) (aw (cN (aK u6 (ah (aD (af 0)) (ah (aD (af 2)) ax)))) (aw (cN (aK u6 (ah (aD (af 0)) (ah (aD (af 3)) ax)))) (aH (bw (aK nq (ah (aD (af 1)) (ah (aD (dz (af 0) (af 2))) (ah (aD (dz (af 0) (af 3))) ax)))))))))
abbrev iR:Stmt:=top 24
abbrev yj:List Str:=["points","way"]
theorem M1:aL yj ["points","way"] (ai iR):=by walk_at "5"
def Cg(cV:bz)(d6:bz):cJ:=(bP (qa (dA cV (aJ (ak [] (ag 0)) (aJ (ak [] (ag 1)) tN)))) (er [] (dB i3 (bp (aQ (dA d6 (aJ (ak [] (ag 0)) (aJ (ak [] (ag 1)) tN)))) dc))))
theorem QA(E:Gl G){cV:bz}(kn:cq G k "need_points_and_way" cV){d6:bz}(oF:cq G k "pairs_by_places" d6):d8 G k ⟨yj,(ai iR).names,[],false,false,false,λ_ _=>False⟩ (av iR) (Cg cV d6):=(aw (cN (aK kn (ah (aD (af 0)) (ah (aD (af 1)) ax)))) (aH (bw (cp qP E.z_sorted (aE (aS (aK oF (ah (aD (af 0)) (ah (aD (af 1)) ax)))) a7) (by decide +kernel)))))
abbrev iM:Stmt:=top 27
abbrev yf:List Str:=["points","way","bound"]
theorem MX:aL yf ["points","way","bound"] (ai iM):=by walk_at "5"
def Ca(cV:bz)(pV:bz)(d6:bz):cJ:=(bP (qa (dA cV (aJ (ak [] (ag 0)) (aJ (ak [] (ag 1)) tN)))) (bP (qa (dA pV (aJ (ak [] (ag 2)) tN))) (er [] (cD [] [none,none,none,some 2] (bJ (ak [] (aQ (dA d6 (aJ (ak [] (ag 0)) (aJ (ak [] (ag 1)) tN)))))) (CZ 3 (gC (d0 0) (gC (d0 1) (gC (d0 2) CY)))) (aV Sg (ag 0) (ag 3)) (ak [] (BZ (aJ (ak [] (ag 1)) (aJ (ak [] (ag 2)) tN))))))))
theorem Qw(E:Gl G){cV:bz}(kn:cq G k "need_points_and_way" cV){pV:bz}(Ap:cq G k "need_bound" pV){d6:bz}(oF:cq G k "pairs_by_places" d6):d8 G k ⟨yf,(ai iM).names,[],false,false,false,λ_ _=>False⟩ (av iM) (Ca cV pV d6):=(aw (cN (aK kn (ah (aD (af 0)) (ah (aD (af 1)) ax)))) (aw (cN (aK Ap (ah (aD (af 2)) ax))) (aH (bw (dU (N':=["far","i","j","bound"]) (cC (aD (aS (aK oF (ah (aD (af 0)) (ah (aD (af 1)) ax)))))) ⟨rfl,by walk_at "6",by walk_at "6",by walk_at "6",by walk_at "6",rfl,by walk_at "6"⟩ (kZ (bQ (aU 0 (hn:=by first|decide|exact of_decide_eq_true rfl)) (bQ (aU 1 (hn:=by first|decide|exact of_decide_eq_true rfl)) (bQ (aU 2 (hn:=by first|decide|exact of_decide_eq_true rfl)) gM)))) (uS (aP Hv (af 0) (af 3))) (aD (j4 (ah (aD (af 1)) (ah (aD (af 2)) ax)))))))))
abbrev pj:Stmt:=top 28
abbrev GZ:List Str:=["points","way","bound"]
theorem Ud:aL GZ ["points","way","bound"] (ai pj):=by walk_at "5"
def NZ(a8:bz):cJ:=(er [] (dB cY (bp (aQ (dA a8 (aJ (ak [] (ag 0)) (aJ (ak [] (ag 1)) (aJ (ak [] (ag 2)) tN))))) dc)))
theorem VF(E:Gl G){a8:bz}(cm:cq G k "near_pairs" a8):d8 G k ⟨GZ,(ai pj).names,[],false,false,false,λ_ _=>False⟩ (av pj) (NZ a8):=(aH (bw (cp f_len E.z_len (aE (aS (aK cm (ah (aD (af 0)) (ah (aD (af 1)) (ah (aD (af 2)) ax))))) a7) (by decide +kernel))))
abbrev ph:Stmt:=top 29
abbrev GY:List Str:=["points","way","number","pairs"]
theorem Uc:aL GY ["points","way","number"] (ai ph):=by walk_at "5"
def NY(dY:bz)(pP:bz):cJ:=(bP (dw [] 3 (dA dY (aJ (ak [] (ag 0)) (aJ (ak [] (ag 1)) tN)))) (bP (qa (dA pP (aJ (ak [] (ag 2)) tN))) (bP (cB (aV Gg (ag 2) (aQ (dB cY (bp (ag 3) dc)))) (er [] (oX (aZ .bC))) gE) (er [] (oX (i7 (ag 3) (aQ (bf fC (ag 2) (aZ (.int 1))))))))))
theorem VE(E:Gl G){dY:bz}(jW:cq G k "all_pairs" dY){pP:bz}(Aj:cq G k "need_number" pP):d8 G k ⟨GY,(ai ph).names,[],false,false,false,λ_ _=>False⟩ (av ph) (NY dY pP):=(aw (bF 3 (aK jW (ah (aD (af 0)) (ah (aD (af 1)) ax)))) (aw (cN (aK Aj (ah (aD (af 2)) ax))) (aw (cR (aP wt (af 2) (aS (cp f_len E.z_len (aE (af 3) a7) (by decide +kernel)))) (aH (bw (fS BD))) bO) (aH (bw (fS (dz (af 3) (aS (dW (af 2) au)))))))))
abbrev iD:Stmt:=top 30
abbrev xX:List Str:=["points","way","bound","counts","i","j"]
theorem MN:aL xX ["points","way","bound"] (ai iD):=by walk_at "5"
def B2(a8:bz):cJ:=(bP (dw [] 3 (cD [] [none] (bJ (ak [] (ag 0))) (d0 0) cE (ak [] (aZ (.int 0))))) (bP (da (bJ (ak [] (aQ (dA a8 (aJ (ak [] (ag 0)) (aJ (ak [] (ag 1)) (aJ (ak [] (ag 2)) tN))))))) (CZ 2 (gC (d0 4) (gC (d0 5) CY))) (bP (BU 3 (ag 4) (1)) (BU 3 (ag 5) (1)))) (er [] (oX (ag 3)))))
theorem Qo(E:Gl G){a8:bz}(cm:cq G k "near_pairs" a8):d8 G k ⟨xX,(ai iD).names,[],false,false,false,λ_ _=>False⟩ (av iD) (B2 a8):=(aw (jx 3 (N':=["point"]) (cC (aD (af 0))) ⟨rfl,by walk_at "6",by walk_at "6",by walk_at "6",by walk_at "6",rfl,by walk_at "6"⟩ (aU 0 (hn:=by first|decide|exact of_decide_eq_true rfl)) dN (aD au)) (aw (gB (cC (aD (aS (aK cm (ah (aD (af 0)) (ah (aD (af 1)) (ah (aD (af 2)) ax))))))) (kZ (bQ (aU 4 (hn:=by first|decide|exact of_decide_eq_true rfl)) (bQ (aU 5 (hn:=by first|decide|exact of_decide_eq_true rfl)) gM))) (aw (GJ 3 (af 3) (af 4) au) (aH (GJ 3 (af 3) (af 5) au)))) (aH (bw (fS (af 3))))))
abbrev iX:Stmt:=top 31
abbrev yp:List Str:=["places","near","first","rest","taken","left"]
theorem M7:aL yp ["places","near"] (ai iX):=by walk_at "5"
def Cp(ei:bz):cJ:=(bP (cB (nO (xF (ag 0))) (er [] (mq tN)) gE) (bP (dw [] 2 (oX (i7 (ag 0) (aZ (.int 0))))) (bP (dw [] 3 (BX (ag 0) (BW (aZ (.int 1))) GN)) (bP (dw [] 4 (bf dk (aQ (mq (aJ (ak [] (ag 2)) tN))) (aQ (dA ei (aJ (ak [] (aQ (cD [] [none,some 1,some 2] (bJ (ak [] (ag 3))) (d0 0) (aV vB (BZ (aJ (ak [] (ag 2)) (aJ (ak [] (ag 0)) tN))) (ag 1)) (ak [] (ag 0))))) (aJ (ak [] (ag 1)) tN)))))) (bP (dw [] 5 (dA ei (aJ (ak [] (ag 3)) (aJ (ak [] (ag 1)) tN)))) (bP (cB (aV QY (aQ (dB cY (bp (ag 4) dc))) (aQ (dB cY (bp (ag 5) dc)))) (er [] (oX (ag 4))) gE) (er [] (oX (ag 5)))))))))
theorem QF(E:Gl G){ei:bz}(nu:cq G k "most_of" ei):d8 G k ⟨yp,(ai iX).names,[],false,false,false,λ_ _=>False⟩ (av iX) (Cp ei):=(aw (cR (oZ (o4 (af 0))) (aH (bw (cP ax))) bO) (aw (bF 2 (fS (dz (af 0) au))) (aw (bF 3 (MF (af 0) (eS au) jr)) (aw (bF 4 (cI (aS (cP (ah (aD (af 2)) ax))) (aS (aK nu (ah (aD (aS (dU (N':=["place","near","first"]) (cC (aD (af 3))) ⟨rfl,by walk_at "6",by walk_at "6",by walk_at "6",by walk_at "6",rfl,by walk_at "6"⟩ (aU 0 (hn:=by first|decide|exact of_decide_eq_true rfl)) (uS (aP Hw (j4 (ah (aD (af 2)) (ah (aD (af 0)) ax))) (af 1))) (aD (af 0))))) (ah (aD (af 1)) ax)))))) (aw (bF 5 (aK nu (ah (aD (af 3)) (ah (aD (af 1)) ax)))) (aw (cR (aP Hu (aS (cp f_len E.z_len (aE (af 4) a7) (by decide +kernel))) (aS (cp f_len E.z_len (aE (af 5) a7) (by decide +kernel)))) (aH (bw (fS (af 4)))) bO) (aH (bw (fS (af 5))))))))))
abbrev iL:Stmt:=top 32
abbrev ye:List Str:=["points","way","bound","pairs","near","pair"]
theorem MV:aL ye ["points","way","bound"] (ai iL):=by walk_at "5"
def B9(a8:bz)(vY:bz)(ei:bz):cJ:=(bP (dw [] 3 (dA a8 (aJ (ak [] (ag 0)) (aJ (ak [] (ag 1)) (aJ (ak [] (ag 2)) tN))))) (bP (qa (dA vY (aJ (ak [] (ag 0)) (aJ (ak [] (aZ (.int 14))) tN)))) (bP (dw [] 4 NK) (bP (da (bJ (ak [] (ag 3))) (d0 5) (NM 4 (ak [] (ag 5)) (ak [] (aZ (.bl true))))) (er [] (dA ei (aJ (ak [] (aQ (XE (bp (aQ (dB cY (bp (ag 0) dc))) dc)))) (aJ (XB 4) tN))))))))
theorem Qv(E:Gl G){a8:bz}(cm:cq G k "near_pairs" a8){vY:bz}(Jt:cq G k "need_at_most" vY){ei:bz}(nu:cq G k "most_of" ei):d8 G k ⟨ye,(ai iL).names,[],false,false,false,λ_ _=>False⟩ (av iL) (B9 a8 vY ei):=(aw (bF 3 (aK cm (ah (aD (af 0)) (ah (aD (af 1)) (ah (aD (af 2)) ax))))) (aw (cN (aK Jt (ah (aD (af 0)) (ah (aD (vI E.gj)) ax)))) (aw (bF 4 EE) (aw (gB (cC (aD (af 3))) (aU 5 (hn:=by first|decide|exact of_decide_eq_true rfl)) (aH (EK 4 (aD fz) (aD (af 5)) (Xp 4)))) (aH (bw (aK nu (ah (aD (aS (ME (aE (aS (cp f_len E.z_len (aE (af 0) a7) (by decide +kernel))) a7) E.z_list E.z_range))) (ah (Xo 4) ax)))))))))
abbrev iE:Stmt:=top 34
abbrev xY:List Str:=["points","way"]
theorem MP:aL xY ["points","way"] (ai iE):=by walk_at "5"
def B3(cV:bz)(d6:bz):cJ:=(bP (qa (dA cV (aJ (ak [] (ag 0)) (aJ (ak [] (ag 1)) tN)))) (er [] (oX (NN (aQ (dA d6 (aJ (ak [] (ag 0)) (aJ (ak [] (ag 1)) tN)))) (ak [] (aZ .bC))))))
theorem Qp(E:Gl G){cV:bz}(kn:cq G k "need_points_and_way" cV){d6:bz}(oF:cq G k "pairs_by_places" d6):d8 G k ⟨xY,(ai iE).names,[],false,false,false,λ_ _=>False⟩ (av iE) (B3 cV d6):=(aw (cN (aK kn (ah (aD (af 0)) (ah (aD (af 1)) ax)))) (aH (bw (fS (T1 (aS (aK oF (ah (aD (af 0)) (ah (aD (af 1)) ax)))) (aD BD) E.z_min)))))
abbrev iT:Stmt:=top 37
abbrev yk:List Str:=["cell"]
theorem M3:aL yk ["cell"] (ai iT):=by walk_at "5"
def Ci:cJ:=(er [] (mq (aJ (ak [] (aQ (dB yv (bp (ag 0) dc)))) (aJ (ak [] (aQ (bf oP (aQ (bf ku (aQ (bf dk (aQ (bf oP (ag 0) (aZ (.int 2147483647)))) (aZ (.int 1)))) (aZ (.int 742938285)))) (aZ (.int 2147483647))))) tN))))
theorem QB(E:Gl G):d8 G k ⟨yk,(ai iT).names,[],false,false,false,λ_ _=>False⟩ (av iT) (Ci):=(aH (bw (cP (ah (aD (aS (cp Ge E.z_abs (aE (af 0) a7) (by decide +kernel)))) (ah (aD (aS (lM (aS (j3 (aS (cI (aS (lM (af 0) au)) au)) au)) au))) ax)))))
abbrev iU:Stmt:=top 38
abbrev ym:List Str:=["reel","many","found","stir"]
theorem M4:aL ym ["reel","many"] (ai iU):=by walk_at "5"
def Cj:cJ:=(bP (cB (aV QY (i7 (ag 0) (aZ (.int 0))) (aQ (bf oW (aZ (.int 10)) (aZ (.int 18))))) (bP (dw [0] 2 (bf oP (i7 (ag 0) (aZ (.int 0))) (ag 1))) (bP (sf 0 (aZ (.int 0)) (ak [0] (aQ (bf kW (i7 (ag 0) (aZ (.int 0))) (ag 1))))) (er [0] (oX (ag 2))))) gE) (bP (sf 0 (aZ (.int 1)) (ak [0] (aQ (bf oP (aQ (bf dk (aQ (bf ku (i7 (ag 0) (aZ (.int 1))) (aZ (.int 48271)))) (aZ (.int 11)))) (aZ (.int 2147483647)))))) (bP (dw [0] 3 (bf oP (aQ (bf ku (i7 (ag 0) (aZ (.int 1))) (i7 (ag 0) (aZ (.int 1))))) (aZ (.int 2147483629)))) (er [0] (bf oP (aQ (bf kW (aQ (bf oP (aQ (bf ku (ag 3) (aZ (.int 69621)))) (aZ (.int 2147483587)))) (aZ (.int 8)))) (ag 1))))))
theorem QC(E:Gl G):d8 G k ⟨ym,(ai iU).names,[0],false,false,false,λ_ _=>False⟩ (av iU) (Cj):=(aw (cR (aP Hu (dz (af 0) au) (aS (lN au au))) (aw (bF 2 (lM (dz (af 0) au) (af 1))) (aw (uq 0 (aD (aS (iy (dz (af 0) au) (af 1)))) au (af 0)) (aH (bw (fS (af 2)))))) bO) (aw (uq 0 (aD (aS (lM (aS (cI (aS (j3 (dz (af 0) au) au)) au)) au))) au (af 0)) (aw (bF 3 (lM (aS (j3 (dz (af 0) au) (dz (af 0) au))) au)) (aH (bw (lM (aS (iy (aS (lM (aS (j3 (af 3) au)) au)) au)) (af 1)))))))
abbrev iK:Stmt:=top 39
abbrev yd:List Str:=["reel","most","count","many","wide","kind","found","k","point","base"]
theorem MU:aL yd ["reel","most"] (ai iK):=by walk_at "5"
def B8(bg:jP):cJ:=(bP (dw [0] 2 (bf dk (aZ (.int 1)) (aQ (du bg 0 (aJ (ak [0] (aZ (.int 3))) tN))))) (bP (dw [0] 3 (oX (i7 (aQ (mq (aJ (ak [0] (aQ (du bg 0 (aJ (ak [0] (aQ (bf dk (ag 1) (aZ (.int 1))))) tN)))) (aJ (ak [0] (ag 1)) (aJ (ak [0] (aQ (du bg 0 (aJ (ak [0] (aQ (bf dk (aQ (dB nA (bp (ag 1) (bp (aZ (.int 4)) dc)))) (aZ (.int 1))))) tN)))) tN))))) (aQ (du bg 0 (aJ (ak [0] (aZ (.int 3))) tN)))))) (bP (dw [0] 4 (oX (i7 (aQ (mq (aJ (ak [0] (aZ (.int 3))) (aJ (ak [0] (aZ (.int 9))) (aJ (ak [0] (aZ (.int 41))) (aJ (ak [0] (aZ (.int 1001))) (aJ (ak [0] (aQ (bf fC (aQ (bf ku (aZ (.int 2)) (aQ (bf oW (aZ (.int 10)) (aZ (.int 15)))))) (aZ (.int 1))))) tN))))))) (aQ (du bg 0 (aJ (ak [0] (aZ (.int 5))) tN)))))) (bP (dw [0] 5 (du bg 0 (aJ (ak [0] (aZ (.int 5))) tN))) (bP (dw [0] 6 (mq tN)) (bP (da (uo (bp (ag 3) dc)) (d0 7) (bP (dw [0] 8 (fZ [0] [none,some 0,some 4] 0 1 (uo (bp (ag 2) dc)) (d0 0) cE (ak [1] (aQ (bf fC (aQ (du bg 1 (aJ (ak [1] (ag 2)) tN))) (aQ (bf kW (ag 2) (aZ (.int 2))))))))) (bP (cB (aV eqT (ag 5) (aZ (.int 1))) (sf 8 (aZ (.int 0)) (ak [0] (aQ (bf fC (aZ (.int 0)) (aQ (bf kW (ag 4) (aZ (.int 2)))))))) gE) (bP (cB (fD (aV eqT (ag 5) (aZ (.int 2))) (fD (aV neT (ag 6) (aQ (mq tN))) (aV Gg (aQ (du bg 0 (aJ (ak [0] (aZ (.int 3))) tN))) (aZ (.int 0))))) (bP (dw [0] 9 (oX (i7 (ag 6) (aQ (du bg 0 (aJ (ak [0] (aQ (dB cY (bp (ag 6) dc)))) tN)))))) (dw [0] 8 (fZ [0] [none,some 0] 0 1 (bJ (ak [0] (ag 9))) (d0 0) cE (ak [1] (aQ (dB nz (bp (aQ (bf fC (aZ (.int 1)) (aQ (bf oW (aZ (.int 10)) (aZ (.int 15)))))) (bp (aQ (dB nA (bp (aQ (bf fC (aQ (bf oW (aZ (.int 10)) (aZ (.int 15)))) (aZ (.int 1)))) (bp (aQ (bf fC (aQ (bf dk (ag 0) (aQ (du bg 1 (aJ (ak [1] (aZ (.int 3))) tN))))) (aZ (.int 1)))) dc)))) dc)))))))) gE) (bP (cB (fD (aV eqT (ag 5) (aZ (.int 3))) (fD (aV neT (ag 6) (aQ (mq tN))) (aV eqT (aQ (du bg 0 (aJ (ak [0] (aZ (.int 4))) tN))) (aZ (.int 0))))) (dw [0] 8 (dB qX (bp (i7 (ag 6) (aQ (du bg 0 (aJ (ak [0] (aQ (dB cY (bp (ag 6) dc)))) tN)))) dc))) gE) (qa (BQ (ag 6) (ak [0] (aQ (dB gR (bp (ag 8) dc))))))))))) (er [0] (oX (ag 6)))))))))
theorem Qu(E:Gl G){bg:jP}(bS:f6 G k "_law_take" bg):d8 G k ⟨yd,(ai iK).names,[0],false,false,false,λ_ _=>False⟩ (av iK) (B8 bg):=(aw (bF 2 (cI au (aS (a9 bS (af 0) (ah (aD au) ax))))) (aw (bF 3 (fS (dz (aS (cP (ah (aD (aS (a9 bS (af 0) (ah (aD (aS (cI (af 1) au))) ax)))) (ah (aD (af 1)) (ah (aD (aS (a9 bS (af 0) (ah (aD (aS (cI (aS (cp tL E.z_min (aE (af 1) (aE au a7)) (by decide +kernel))) au))) ax)))) ax))))) (aS (a9 bS (af 0) (ah (aD au) ax)))))) (aw (bF 4 (fS (dz (aS (cP (ah (aD au) (ah (aD au) (ah (aD au) (ah (aD au) (ah (aD (aS (dW (aS (j3 au (aS (lN au au)))) au))) ax))))))) (aS (a9 bS (af 0) (ah (aD au) ax)))))) (aw (bF 5 (a9 bS (af 0) (ah (aD au) ax))) (aw (bF 6 (cP ax)) (aw (gB (oJ (aE (af 3) a7) E.z_range) (aU 7 (hn:=by first|decide|exact of_decide_eq_true rfl)) (aw (rT 8 0 1 (N':=["at","reel","wide"]) (oJ (aE (af 2) a7) E.z_range) ⟨rfl,by walk_at "6",by walk_at "6",by walk_at "6",by walk_at "6",rfl,by walk_at "6"⟩ (aU 0 (hn:=by first|decide|exact of_decide_eq_true rfl)) dN (aD (aS (dW (aS (a9 bS (af 1) (ah (aD (af 2)) ax))) (aS (iy (af 2) au)))))) (aw (cR (aP mH (af 5) au) (aH (uq 8 (aD (aS (dW au (aS (iy (af 4) au))))) au (af 8))) bO) (aw (cR (C6 (lK (aP mH (af 5) au) (lK (aP g0 (af 6) (aS (cP ax))) (lL (aP wt (aS (a9 bS (af 0) (ah (aD au) ax))) au))))) (aw (bF 9 (fS (dz (af 6) (aS (a9 bS (af 0) (ah (aD (aS (cp f_len E.z_len (aE (af 6) a7) (by decide +kernel)))) ax)))))) (aH (rT 8 0 1 (N':=["number","reel"]) (cC (aD (af 9))) ⟨rfl,by walk_at "6",by walk_at "6",by walk_at "6",by walk_at "6",rfl,by walk_at "6"⟩ (aU 0 (hn:=by first|decide|exact of_decide_eq_true rfl)) dN (aD (aS (cp tK E.z_max (aE (aS (dW au (aS (lN au au)))) (aE (aS (cp tL E.z_min (aE (aS (dW (aS (lN au au)) au)) (aE (aS (dW (aS (cI (af 0) (aS (a9 bS (af 1) (ah (aD au) ax))))) au)) a7)) (by decide +kernel))) a7)) (by decide +kernel))))))) bO) (aw (cR (C6 (lK (aP mH (af 5) au) (lK (aP g0 (af 6) (aS (cP ax))) (lL (aP mH (aS (a9 bS (af 0) (ah (aD au) ax))) au))))) (aH (bF 8 (uk f_list E.z_list (aE (dz (af 6) (aS (a9 bS (af 0) (ah (aD (aS (cp f_len E.z_len (aE (af 6) a7) (by decide +kernel)))) ax)))) a7) (by decide +kernel)))) bO) (aH (cN (rF (af 6) (aD (aS (uk kz E.z_tuple (aE (af 8) a7) (by decide +kernel)))))))))))) (aH (bw (fS (af 6))))))))))
abbrev iI:Stmt:=top 40
abbrev yb:List Str:=["reel","pairs","least","far","ends","some"]
theorem MS:aL yb ["reel","pairs","least"] (ai iI):=by walk_at "5"
def B6(bg:jP):cJ:=(bP (dw [0] 3 (oX (i7 (i7 (aQ (bf dk (aQ (mq (aJ (ak [0] (BZ (aJ (ak [0] (aZ (.int 9))) (aJ (ak [0] (aZ (.int 0))) (aJ (ak [0] (aZ (.int 1))) tN))))) tN))) (ag 1))) (aQ (du bg 0 (aJ (ak [0] (aQ (bf dk (aQ (dB cY (bp (ag 1) dc))) (aZ (.int 1))))) tN)))) (aZ (.int 0))))) (bP (dw [0] 4 (cD [0] [none] (bJ (ak [0] (aQ (bf dk (aQ (BX (ag 1) GN (BW (aZ (.int 1))))) (aQ (BX (ag 1) (BW (E2 (aZ (.int 1)))) GN)))))) (d0 0) cE (ak [] (i7 (ag 0) (aZ (.int 0)))))) (bP (dw [0] 5 (mq (aJ (ak [0] (ag 2)) (aJ (ak [0] (aQ (bf dk (ag 2) (aZ (.int 1))))) (aJ (ak [0] (aQ (du bg 0 (aJ (ak [0] (aZ (.int 12))) tN)))) (aJ (ak [0] (ag 3)) (aJ (ak [0] (aQ (bf dk (ag 3) (aZ (.int 1))))) (aJ (ak [0] (aQ (bf fC (ag 3) (aZ (.int 1))))) (aJ (ak [0] (aQ (du bg 0 (aJ (ak [0] (aQ (bf oW (aZ (.int 10)) (aZ (.int 6))))) tN)))) (aJ (ak [0] (aQ (bf fC (aQ (bf oW (aZ (.int 10)) (aZ (.int 34)))) (aZ (.int 1))))) tN)))))))))) (er [0] (cD [0] [none,some 2] (bJ (ak [0] (aQ (bf dk (ag 5) (ag 4))))) (d0 0) cE (ak [] (aQ (dB nz (bp (ag 1) (bp (aQ (dB nA (bp (aQ (bf fC (aQ (bf oW (aZ (.int 10)) (aZ (.int 34)))) (aZ (.int 1)))) (bp (ag 0) dc)))) dc))))))))))
theorem Qs(E:Gl G){bg:jP}(bS:f6 G k "_law_take" bg):d8 G k ⟨yb,(ai iI).names,[0],false,false,false,λ_ _=>False⟩ (av iI) (B6 bg):=(aw (bF 3 (fS (dz (dz (aS (cI (aS (cP (ah (aD (j4 (ah (aD au) (ah (aD au) (ah (aD au) ax))))) ax))) (af 1))) (aS (a9 bS (af 0) (ah (aD (aS (cI (aS (cp f_len E.z_len (aE (af 1) a7) (by decide +kernel))) au))) ax)))) au))) (aw (jx 4 (N':=["pair"]) (cC (aD (aS (cI (aS (MF (af 1) jr (eS au))) (aS (MF (af 1) (eS (GH au)) jr)))))) ⟨rfl,by walk_at "6",by walk_at "6",by walk_at "6",by walk_at "6",rfl,by walk_at "6"⟩ (aU 0 (hn:=by first|decide|exact of_decide_eq_true rfl)) dN (aD (dz (af 0) au))) (aw (bF 5 (cP (ah (aD (af 2)) (ah (aD (aS (cI (af 2) au))) (ah (aD (aS (a9 bS (af 0) (ah (aD au) ax)))) (ah (aD (af 3)) (ah (aD (aS (cI (af 3) au))) (ah (aD (aS (dW (af 3) au))) (ah (aD (aS (a9 bS (af 0) (ah (aD (aS (lN au au))) ax)))) (ah (aD (aS (dW (aS (lN au au)) au))) ax)))))))))) (aH (bw (dU (N':=["bound","least"]) (cC (aD (aS (cI (af 5) (af 4))))) ⟨rfl,by walk_at "6",by walk_at "6",by walk_at "6",by walk_at "6",rfl,by walk_at "6"⟩ (aU 0 (hn:=by first|decide|exact of_decide_eq_true rfl)) dN (aD (aS (cp tK E.z_max (aE (af 1) (aE (aS (cp tL E.z_min (aE (aS (dW (aS (lN au au)) au)) (aE (af 0) a7)) (by decide +kernel))) a7)) (by decide +kernel))))))))))
abbrev pd:Stmt:=top 41
abbrev GV:List Str:=["points","way","pairs","bound","near","many","behind","far","i","j"]
theorem T9:aL GV ["points","way","pairs","bound"] (ai pd):=by walk_at "5"
def NW(a8:bz)(vX:bz)(pN:bz)(gD:bz)(pZ:bz):cJ:=(bP (dw [] 4 (dA a8 (aJ (ak [] (ag 0)) (aJ (ak [] (ag 1)) (aJ (ak [] (ag 3)) tN))))) (bP (cB (aV neT (ag 4) (aQ (dB i3 (bp (aQ (cD [] [none,none,none,some 3] (bJ (ak [] (ag 2))) (CZ 3 (gC (d0 0) (gC (d0 1) (gC (d0 2) CY)))) (aV Sg (ag 0) (ag 3)) (ak [] (BZ (aJ (ak [] (ag 1)) (aJ (ak [] (ag 2)) tN)))))) dc)))) (er [] (oX (aZ (.bl false)))) gE) (bP (dw [] 5 (dB cY (bp (ag 4) dc))) (bP (cB (mv (aV neT (aQ (dA vX (aJ (ak [] (ag 0)) (aJ (ak [] (ag 1)) (aJ (ak [] (ag 3)) tN))))) (ag 5)) (aV neT (aQ (dB sumF (bp (aQ (dA pN (aJ (ak [] (ag 0)) (aJ (ak [] (ag 1)) (aJ (ak [] (ag 3)) tN))))) dc))) (aQ (bf ku (aZ (.int 2)) (ag 5))))) (er [] (oX (aZ (.bl false)))) gE) (bP (dw [] 6 (dA gD (aJ (ak [] (ag 0)) (aJ (ak [] (ag 1)) (aJ (ak [] (aQ (bf dk (aQ (dB cY (bp (ag 4) dc))) (aZ (.int 1))))) tN))))) (bP (cB (fD (aV JT (ag 6) (aZ .bC)) (aV Sg (i7 (ag 6) (aZ (.int 0))) (ag 3))) (er [] (oX (aZ (.bl false)))) gE) (bP (cB (aV eqT (ag 4) (aQ (mq tN))) (er [] (oX (aZ (.bl true)))) gE) (bP (NR (ak [] (aQ (dA gD (aJ (ak [] (ag 0)) (aJ (ak [] (ag 1)) (aJ (ak [] (aQ (dB cY (bp (ag 4) dc)))) tN)))))) (CZ 3 (gC (d0 7) (gC (d0 8) (gC (d0 9) CY))))) (bP (cB (mv (aV Gg (ag 7) (ag 3)) (mv (aV xg (BZ (aJ (ak [] (ag 8)) (aJ (ak [] (ag 9)) tN))) (ag 4)) (aV neT (aQ (dA pZ (aJ (ak [] (ag 0)) (aJ (ak [] (ag 1)) (aJ (ak [] (ag 8)) (aJ (ak [] (ag 9)) tN)))))) (ag 7)))) (er [] (oX (aZ (.bl false)))) gE) (er [] (oX (bV (mv (j6 (bV (aV eqT (ag 7) (aZ (.int 0))))) (j6 (bV (aV xg (BZ (aJ (ak [] (ag 8)) (aJ (ak [] (ag 9)) tN))) (aQ (dA a8 (aJ (ak [] (ag 0)) (aJ (ak [] (ag 1)) (aJ (ak [] (aQ (bf fC (ag 7) (aZ (.int 1))))) tN)))))))))))))))))))))
theorem VB(E:Gl G){a8:bz}(cm:cq G k "near_pairs" a8){vX:bz}(Js:cq G k "how_many_near" vX){pN:bz}(Ah:cq G k "near_counts" pN){gD:bz}(tQ:cq G k "so_manieth_pair" gD){pZ:bz}(Av:cq G k "how_far" pZ):d8 G k ⟨GV,(ai pd).names,[],false,false,false,λ_ _=>False⟩ (av pd) (NW a8 vX pN gD pZ):=(aw (bF 4 (aK cm (ah (aD (af 0)) (ah (aD (af 1)) (ah (aD (af 3)) ax))))) (aw (cR (aP g0 (af 4) (aS (cp qP E.z_sorted (aE (aS (dU (N':=["far","i","j","bound"]) (cC (aD (af 2))) ⟨rfl,by walk_at "6",by walk_at "6",by walk_at "6",by walk_at "6",rfl,by walk_at "6"⟩ (kZ (bQ (aU 0 (hn:=by first|decide|exact of_decide_eq_true rfl)) (bQ (aU 1 (hn:=by first|decide|exact of_decide_eq_true rfl)) (bQ (aU 2 (hn:=by first|decide|exact of_decide_eq_true rfl)) gM)))) (uS (aP Hv (af 0) (af 3))) (aD (j4 (ah (aD (af 1)) (ah (aD (af 2)) ax)))))) a7) (by decide +kernel)))) (aH (bw (fS fz))) bO) (aw (bF 5 (cp f_len E.z_len (aE (af 4) a7) (by decide +kernel))) (aw (cR (C6 (xv (aP g0 (aS (aK Js (ah (aD (af 0)) (ah (aD (af 1)) (ah (aD (af 3)) ax))))) (af 5)) (rG (aP g0 (aS (cp zZ E.z_sum (aE (aS (aK Ah (ah (aD (af 0)) (ah (aD (af 1)) (ah (aD (af 3)) ax))))) a7) (by decide +kernel))) (aS (j3 au (af 5))))))) (aH (bw (fS fz))) bO) (aw (bF 6 (aK tQ (ah (aD (af 0)) (ah (aD (af 1)) (ah (aD (aS (cI (aS (cp f_len E.z_len (aE (af 4) a7) (by decide +kernel))) au))) ax))))) (aw (cR (C6 (lK (aP PC (af 6) BD) (lL (aP Hv (dz (af 6) au) (af 3))))) (aH (bw (fS fz))) bO) (aw (cR (aP mH (af 4) (aS (cP ax))) (aH (bw (fS fz))) bO) (aw (T5 (aD (aS (aK tQ (ah (aD (af 0)) (ah (aD (af 1)) (ah (aD (aS (cp f_len E.z_len (aE (af 4) a7) (by decide +kernel)))) ax)))))) (kZ (bQ (aU 7 (hn:=by first|decide|exact of_decide_eq_true rfl)) (bQ (aU 8 (hn:=by first|decide|exact of_decide_eq_true rfl)) (bQ (aU 9 (hn:=by first|decide|exact of_decide_eq_true rfl)) gM))))) (aw (cR (C6 (xv (aP wt (af 7) (af 3)) (xv (aP yz (j4 (ah (aD (af 8)) (ah (aD (af 9)) ax))) (af 4)) (rG (aP g0 (aS (aK Av (ah (aD (af 0)) (ah (aD (af 1)) (ah (aD (af 8)) (ah (aD (af 9)) ax)))))) (af 7)))))) (aH (bw (fS fz))) bO) (aH (bw (fS (MD (v_or (xJ (nJ mH (af 7) au)) (Cy (xJ (nJ yz (j4 (ah (aD (af 8)) (ah (aD (af 9)) ax))) (aS (aK cm (ah (aD (af 0)) (ah (aD (af 1)) (ah (aD (aS (dW (af 7) au))) ax))))))))))))))))))))))
abbrev pq:Stmt:=top 42
abbrev G0:List Str:=["reel","pairs","far"]
theorem Ue:aL G0 ["reel","pairs"] (ai pq):=by walk_at "5"
def N0(bg:jP):cJ:=(bP (dw [0] 2 (oX (i7 (i7 (aQ (bf dk (aQ (mq (aJ (ak [0] (BZ (aJ (ak [0] (aZ (.int 9))) (aJ (ak [0] (aZ (.int 0))) (aJ (ak [0] (aZ (.int 1))) tN))))) tN))) (ag 1))) (aQ (du bg 0 (aJ (ak [0] (aQ (bf dk (aQ (dB cY (bp (ag 1) dc))) (aZ (.int 1))))) tN)))) (aZ (.int 0))))) (er [0] (dB nz (bp (aZ (.int 0)) (bp (aQ (bf fC (ag 2) (aQ (du bg 0 (aJ (ak [0] (aZ (.int 2))) tN))))) dc)))))
theorem VG(E:Gl G){bg:jP}(bS:f6 G k "_law_take" bg):d8 G k ⟨G0,(ai pq).names,[0],false,false,false,λ_ _=>False⟩ (av pq) (N0 bg):=(aw (bF 2 (fS (dz (dz (aS (cI (aS (cP (ah (aD (j4 (ah (aD au) (ah (aD au) (ah (aD au) ax))))) ax))) (af 1))) (aS (a9 bS (af 0) (ah (aD (aS (cI (aS (cp f_len E.z_len (aE (af 1) a7) (by decide +kernel))) au))) ax)))) au))) (aH (bw (cp tK E.z_max (aE au (aE (aS (dW (af 2) (aS (a9 bS (af 0) (ah (aD au) ax))))) a7)) (by decide +kernel)))))
abbrev iJ:Stmt:=top 43
abbrev yc:List Str:=["points"]
theorem MT:aL yc ["points"] (ai iJ):=by walk_at "5"
def B7:cJ:=(er [] (cD [] [none] (bJ (ak [] (ag 0))) (d0 0) cE (ak [] (aQ (dB gR (bp (aQ (cD [] [none] (bJ (ak [] (ag 0))) (d0 0) cE (ak [] (aQ (bf kW (ag 0) (aZ (.int 2))))))) dc))))))
theorem Qt(E:Gl G):d8 G k ⟨yc,(ai iJ).names,[],false,false,false,λ_ _=>False⟩ (av iJ) (B7):=(aH (bw (dU (N':=["point"]) (cC (aD (af 0))) ⟨rfl,by walk_at "6",by walk_at "6",by walk_at "6",by walk_at "6",rfl,by walk_at "6"⟩ (aU 0 (hn:=by first|decide|exact of_decide_eq_true rfl)) dN (aD (aS (uk kz E.z_tuple (aE (aS (dU (N':=["number"]) (cC (aD (af 0))) ⟨rfl,by walk_at "6",by walk_at "6",by walk_at "6",by walk_at "6",rfl,by walk_at "6"⟩ (aU 0 (hn:=by first|decide|exact of_decide_eq_true rfl)) dN (aD (aS (iy (af 0) au))))) a7) (by decide +kernel)))))))
abbrev pe:Stmt:=top 44
abbrev GW:List Str:=["points","way","bound","near","shifted","about","other"]
theorem Ua:aL GW ["points","way","bound"] (ai pe):=by walk_at "5"
def NX(a8:bz):cJ:=(bP (dw [] 3 (dA a8 (aJ (ak [] (ag 0)) (aJ (ak [] (ag 1)) (aJ (ak [] (ag 2)) tN))))) (bP (dw [] 4 (cD [] [none] (bJ (ak [] (ag 0))) (d0 0) cE (ak [] (aQ (dB gR (bp (aQ (cD [] [none] (bJ (ak [] (ag 0))) (d0 0) cE (ak [] (aQ (bf fC (ag 0) (aZ (.int 5))))))) dc)))))) (bP (dw [] 5 (cD [] [none] (bJ (ak [] (ag 0))) (d0 0) cE (ak [] (aQ (dB gR (bp (aQ (cD [] [none] (bJ (ak [] (ag 0))) (d0 0) cE (ak [] (aQ (bf fC (aZ (.int 0)) (ag 0)))))) dc)))))) (bP (da (bJ (ak [] (aQ (mq (aJ (ak [] (ag 4)) (aJ (ak [] (ag 5)) (aJ (ak [] (aQ (cD [] [none] (bJ (ak [] (ag 0))) (d0 0) cE (ak [] (aQ (NQ (ag 0) (BW (E2 (aZ (.int 1)))))))))) tN))))))) (d0 6) (cB (aV neT (aQ (dA a8 (aJ (ak [] (ag 6)) (aJ (ak [] (ag 1)) (aJ (ak [] (ag 2)) tN))))) (ag 3)) (er [] (oX (aZ (.bl false)))) gE)) (er [] (oX (aZ (.bl true))))))))
theorem VC(E:Gl G){a8:bz}(cm:cq G k "near_pairs" a8):d8 G k ⟨GW,(ai pe).names,[],false,false,false,λ_ _=>False⟩ (av pe) (NX a8):=(aw (bF 3 (aK cm (ah (aD (af 0)) (ah (aD (af 1)) (ah (aD (af 2)) ax))))) (aw (jx 4 (N':=["point"]) (cC (aD (af 0))) ⟨rfl,by walk_at "6",by walk_at "6",by walk_at "6",by walk_at "6",rfl,by walk_at "6"⟩ (aU 0 (hn:=by first|decide|exact of_decide_eq_true rfl)) dN (aD (aS (uk kz E.z_tuple (aE (aS (dU (N':=["number"]) (cC (aD (af 0))) ⟨rfl,by walk_at "6",by walk_at "6",by walk_at "6",by walk_at "6",rfl,by walk_at "6"⟩ (aU 0 (hn:=by first|decide|exact of_decide_eq_true rfl)) dN (aD (aS (dW (af 0) au))))) a7) (by decide +kernel))))) (aw (jx 5 (N':=["point"]) (cC (aD (af 0))) ⟨rfl,by walk_at "6",by walk_at "6",by walk_at "6",by walk_at "6",rfl,by walk_at "6"⟩ (aU 0 (hn:=by first|decide|exact of_decide_eq_true rfl)) dN (aD (aS (uk kz E.z_tuple (aE (aS (dU (N':=["number"]) (cC (aD (af 0))) ⟨rfl,by walk_at "6",by walk_at "6",by walk_at "6",by walk_at "6",rfl,by walk_at "6"⟩ (aU 0 (hn:=by first|decide|exact of_decide_eq_true rfl)) dN (aD (aS (dW au (af 0)))))) a7) (by decide +kernel))))) (aw (gB (cC (aD (aS (cP (ah (aD (af 4)) (ah (aD (af 5)) (ah (aD (aS (dU (N':=["point"]) (cC (aD (af 0))) ⟨rfl,by walk_at "6",by walk_at "6",by walk_at "6",by walk_at "6",rfl,by walk_at "6"⟩ (aU 0 (hn:=by first|decide|exact of_decide_eq_true rfl)) dN (aD (aS (T2 (af 0) (eS (GH au)))))))) ax))))))) (aU 6 (hn:=by first|decide|exact of_decide_eq_true rfl)) (aH (cR (aP g0 (aS (aK cm (ah (aD (af 6)) (ah (aD (af 1)) (ah (aD (af 2)) ax))))) (af 3)) (aH (bw (fS fz))) bO))) (aH (bw (fS fz)))))))
abbrev o9:Stmt:=top 45
abbrev GU:List Str:=["points","way","bound","told","near","beside","i","j"]
theorem T8:aL GU ["points","way","bound"] (ai o9):=by walk_at "5"
def NV(pU:bz)(a8:bz):cJ:=(bP (dw [] 3 (dA pU (aJ (ak [] (ag 0)) (aJ (ak [] (ag 1)) (aJ (ak [] (ag 2)) tN))))) (bP (dw [] 4 (dA a8 (aJ (ak [] (ag 0)) (aJ (ak [] (ag 1)) (aJ (ak [] (ag 2)) tN))))) (bP (cB (aV neT (ag 3) (aQ (dB lZ (bp (ag 3) dc)))) (er [] (oX (aZ (.bl false)))) gE) (bP (dw [] 5 (dB qX (bp (ag 3) dc))) (bP (da (bJ (ak [] (ag 4))) (CZ 2 (gC (d0 6) (gC (d0 7) CY))) (bP (cB (fD (aV DR (ag 6) (ag 3)) (aV DR (ag 7) (ag 3))) (er [] (oX (aZ (.bl false)))) gE) (cB (mv (aV DR (ag 6) (ag 3)) (aV DR (ag 7) (ag 3))) (dw [] 5 (bf dk (ag 5) (aQ (mq (aJ (ak [] (ag 6)) (aJ (ak [] (ag 7)) tN)))))) gE))) (bP (cB (aV neT (aQ (cD [] [none,some 5] (uo (bp (aQ (dB cY (bp (ag 0) dc))) dc)) (d0 0) (aV xg (ag 0) (ag 1)) (ak [] (ag 0)))) (aQ (mq tN))) (er [] (oX (aZ (.bl false)))) gE) (er [] (oX (bV (mv (j6 (bV (aV eqT (ag 0) (aQ (mq tN))))) (j6 (bV (aV Gg (aQ (dB cY (bp (ag 3) dc))) (aZ (.int 0)))))))))))))))
theorem VA(E:Gl G){pU:bz}(Ao:cq G k "most_apart" pU){a8:bz}(cm:cq G k "near_pairs" a8):d8 G k ⟨GU,(ai o9).names,[],false,false,false,λ_ _=>False⟩ (av o9) (NV pU a8):=(aw (bF 3 (aK Ao (ah (aD (af 0)) (ah (aD (af 1)) (ah (aD (af 2)) ax))))) (aw (bF 4 (aK cm (ah (aD (af 0)) (ah (aD (af 1)) (ah (aD (af 2)) ax))))) (aw (cR (aP g0 (af 3) (aS (xx (aE (af 3) a7) E.z_sorted E.z_set))) (aH (bw (fS fz))) bO) (aw (bF 5 (uk f_list E.z_list (aE (af 3) a7) (by decide +kernel))) (aw (gB (cC (aD (af 4))) (kZ (bQ (aU 6 (hn:=by first|decide|exact of_decide_eq_true rfl)) (bQ (aU 7 (hn:=by first|decide|exact of_decide_eq_true rfl)) gM))) (aw (cR (C6 (lK (aP Dp (af 6) (af 3)) (lL (aP Dp (af 7) (af 3))))) (aH (bw (fS fz))) bO) (aH (cR (C6 (xv (aP Dp (af 6) (af 3)) (rG (aP Dp (af 7) (af 3))))) (aH (bF 5 (cI (af 5) (aS (cP (ah (aD (af 6)) (ah (aD (af 7)) ax))))))) bO)))) (aw (cR (aP g0 (aS (dU (N':=["place","beside"]) (oJ (aE (aS (cp f_len E.z_len (aE (af 0) a7) (by decide +kernel))) a7) E.z_range) ⟨rfl,by walk_at "6",by walk_at "6",by walk_at "6",by walk_at "6",rfl,by walk_at "6"⟩ (aU 0 (hn:=by first|decide|exact of_decide_eq_true rfl)) (uS (aP yz (af 0) (af 1))) (aD (af 0)))) (aS (cP ax))) (aH (bw (fS fz))) bO) (aH (bw (fS (MD (v_or (xJ (nJ mH (af 0) (aS (cP ax)))) (Cy (xJ (nJ wt (aS (cp f_len E.z_len (aE (af 3) a7) (by decide +kernel))) au))))))))))))))
abbrev fc:Stmt:=top 46
abbrev yq:List Str:=["script","k","cell","reel","points","way","pairs","bounds","at","bound","small","line"]
theorem M8:aL yq ["script"] (ai fc):=by walk_at "5"
def Cq(pX:bz)(pT:jP)(bg:jP)(dY:bz)(gD:bz)(pO:bz)(pR:jP)(vV:bz)(vU:bz)(pS:bz)(vW:bz)(rZ:jP)(a8:bz):cJ:=(bP (da (uG (aJ (ak [] (aQ (bf dk (aQ (xE (ag 0) GN (BW (aZ (.int 3))))) (aQ (mq (aJ (ak [] (aQ (dB cY (bp (ag 0) dc)))) tN)))))) tN)) (CZ 2 (gC (d0 1) (gC (d0 2) CY))) (bP (dw [] 3 (dA pX (aJ (ak [] (ag 2)) tN))) (bP (dw [] 4 (du pT 3 (aJ (ak [] (i7 (aQ (mq (aJ (ak [] (aZ (.int 20))) (aJ (ak [] (aZ (.int 40))) tN)))) (aQ (dB DS (bp (bV (fD (j6 (bV (aV eqT (ag 1) (aZ (.int 0))))) (j6 (bV (aV eqT (aQ (du bg 3 (aJ (ak [] (aZ (.int 8))) tN))) (aZ (.int 0))))))) dc))))) tN))) (bP (dw [] 5 (oX (i7 (aQ (mq (aJ (ak [] (aZ (.str "streets"))) (aJ (ak [] (aZ (.str "squares"))) tN)))) (aQ (du bg 3 (aJ (ak [] (aZ (.int 2))) tN)))))) (bP (dw [] 6 (dA dY (aJ (ak [] (ag 4)) (aJ (ak [] (ag 5)) tN)))) (bP (cB (aV neT (aQ (dA gD (aJ (ak [] (ag 4)) (aJ (ak [] (ag 5)) (aJ (ak [] (aZ (.int 1))) tN))))) (aQ (dA pO (aJ (ak [] (ag 4)) (aJ (ak [] (ag 5)) tN))))) (er [] (oX (aZ (.bl false)))) gE) (bP (dw [] 7 (du pR 3 (aJ (ak [] (ag 6)) (aJ (ak [] (aZ (.int 0))) tN)))) (bP (dw [] 8 (du bg 3 (aJ (ak [] (aQ (dB cY (bp (ag 7) dc)))) tN))) (bP (da (bJ (ak [] (aQ (xE (aQ (bf dk (ag 7) (ag 7))) (BW (ag 8)) (BW (aQ (bf dk (ag 8) (aZ (.int 6))))))))) (d0 9) (bP (cB (nO (xF (aQ (dA vV (aJ (ak [] (ag 4)) (aJ (ak [] (ag 5)) (aJ (ak [] (ag 6)) (aJ (ak [] (ag 9)) tN)))))))) (er [] (oX (aZ (.bl false)))) gE) (cB (nO (xF (aQ (dA vU (aJ (ak [] (aQ (xE (ag 4) GN (BW (aZ (.int 10)))))) (aJ (ak [] (ag 5)) (aJ (ak [] (ag 9)) tN))))))) (er [] (oX (aZ (.bl false)))) gE))) (bP (dw [] 10 (dA pS (aJ (ak [] (ag 4)) tN))) (bP (cB (nO (xF (aQ (dA vW (aJ (ak [] (ag 10)) (aJ (ak [] (ag 5)) (aJ (ak [] (aQ (du rZ 3 (aJ (ak [] (aQ (dA dY (aJ (ak [] (ag 10)) (aJ (ak [] (ag 5)) tN))))) tN)))) tN))))))) (er [] (oX (aZ (.bl false)))) gE) (bP (dw [] 11 (cD [] [none] (bJ (ak [] (ag 4))) (d0 0) cE (ak [] (aQ (xE (ag 0) GN (BW (aZ (.int 1)))))))) (bP (dw [] 9 (du rZ 3 (aJ (ak [] (aQ (dA dY (aJ (ak [] (ag 11)) (aJ (ak [] (aZ (.str "streets"))) tN))))) tN))) (cB (aV neT (aQ (dA a8 (aJ (ak [] (ag 11)) (aJ (ak [] (aZ (.str "streets"))) (aJ (ak [] (ag 9)) tN))))) (aQ (dA a8 (aJ (ak [] (ag 11)) (aJ (ak [] (aZ (.str "squares"))) (aJ (ak [] (aQ (bf ku (ag 9) (ag 9)))) tN)))))) (er [] (oX (aZ (.bl false)))) gE)))))))))))))) (er [] (oX (aZ (.bl true)))))
theorem QG(E:Gl G){pX:bz}(As:cq G k "_law_reel" pX){pT:jP}(An:f6 G k "_law_points" pT){bg:jP}(bS:f6 G k "_law_take" bg){dY:bz}(jW:cq G k "all_pairs" dY){gD:bz}(tQ:cq G k "so_manieth_pair" gD){pO:bz}(Ai:cq G k "nearest_two" pO){pR:jP}(Al:f6 G k "_law_bounds" pR){vV:bz}(Jq:cq G k "_law_bound_right" vV){vU:bz}(Jp:cq G k "_law_apart_right" vU){pS:bz}(Am:cq G k "_law_halved" pS){vW:bz}(Jr:cq G k "_law_moved_right" vW){rZ:jP}(DI:f6 G k "_law_drawn_far" rZ){a8:bz}(cm:cq G k "near_pairs" a8):d8 G k ⟨yq,(ai fc).names,[],false,false,false,λ_ _=>False⟩ (av fc) (Cq pX pT bg dY gD pO pR vV vU pS vW rZ a8):=(aw (gB (DP (ah (aD (aS (cI (aS (vJ (af 0) jr (eS au))) (aS (cP (ah (aD (aS (cp f_len E.z_len (aE (af 0) a7) (by decide +kernel)))) ax)))))) ax) E.z_enumerate) (kZ (bQ (aU 1 (hn:=by first|decide|exact of_decide_eq_true rfl)) (bQ (aU 2 (hn:=by first|decide|exact of_decide_eq_true rfl)) gM))) (aw (bF 3 (aK As (ah (aD (af 2)) ax))) (aw (bF 4 (a9 An (af 3) (ah (aD (dz (aS (cP (ah (aD au) (ah (aD au) ax)))) (aS (uk f_int E.z_int (aE (MD (v_and (xJ (nJ mH (af 1) au)) (Cy (xJ (nJ mH (aS (a9 bS (af 3) (ah (aD au) ax))) au))))) a7) (by decide +kernel))))) ax))) (aw (bF 5 (fS (dz (aS (cP (ah (aD rH) (ah (aD rH) ax)))) (aS (a9 bS (af 3) (ah (aD au) ax)))))) (aw (bF 6 (aK jW (ah (aD (af 4)) (ah (aD (af 5)) ax)))) (aw (cR (aP g0 (aS (aK tQ (ah (aD (af 4)) (ah (aD (af 5)) (ah (aD au) ax))))) (aS (aK Ai (ah (aD (af 4)) (ah (aD (af 5)) ax))))) (aH (bw (fS fz))) bO) (aw (bF 7 (a9 Al (af 3) (ah (aD (af 6)) (ah (aD au) ax)))) (aw (bF 8 (a9 bS (af 3) (ah (aD (aS (cp f_len E.z_len (aE (af 7) a7) (by decide +kernel)))) ax))) (aw (gB (cC (aD (aS (vJ (aS (cI (af 7) (af 7))) (eS (af 8)) (eS (aS (cI (af 8) au))))))) (aU 9 (hn:=by first|decide|exact of_decide_eq_true rfl)) (aw (cR (oZ (o4 (aS (aK Jq (ah (aD (af 4)) (ah (aD (af 5)) (ah (aD (af 6)) (ah (aD (af 9)) ax)))))))) (aH (bw (fS fz))) bO) (aH (cR (oZ (o4 (aS (aK Jp (ah (aD (aS (vJ (af 4) jr (eS au)))) (ah (aD (af 5)) (ah (aD (af 9)) ax))))))) (aH (bw (fS fz))) bO)))) (aw (bF 10 (aK Am (ah (aD (af 4)) ax))) (aw (cR (oZ (o4 (aS (aK Jr (ah (aD (af 10)) (ah (aD (af 5)) (ah (aD (aS (a9 DI (af 3) (ah (aD (aS (aK jW (ah (aD (af 10)) (ah (aD (af 5)) ax))))) ax)))) ax))))))) (aH (bw (fS fz))) bO) (aw (jx 11 (N':=["point"]) (cC (aD (af 4))) ⟨rfl,by walk_at "6",by walk_at "6",by walk_at "6",by walk_at "6",rfl,by walk_at "6"⟩ (aU 0 (hn:=by first|decide|exact of_decide_eq_true rfl)) dN (aD (aS (vJ (af 0) jr (eS au))))) (aw (bF 9 (a9 DI (af 3) (ah (aD (aS (aK jW (ah (aD (af 11)) (ah (aD rH) ax))))) ax))) (aH (cR (aP g0 (aS (aK cm (ah (aD (af 11)) (ah (aD rH) (ah (aD (af 9)) ax))))) (aS (aK cm (ah (aD (af 11)) (ah (aD rH) (ah (aD (aS (j3 (af 9) (af 9)))) ax)))))) (aH (bw (fS fz))) bO))))))))))))))) (aH (bw (fS fz))))
end
section
local macro_rules|`(tactic| walk_at "vx")=>`(tactic| ((try simp only[aW,bB,List.map_cons,List.map_nil,List.length_cons,List.length_nil,List.replicate_succ,List.replicate_zero,List.cons_append,List.nil_append,Nat.reduceAdd,Nat.reduceSub]);(try dsimp only[bP,NR,Vc.DR,xg,gE,p7,cB,qa,er,dw,Va,BQ,Hr,qU,aQ,oX,X6,Y3,Cz,su,ak,ag,aZ,eK,hW,bf,dk,fC,ku,oP,oW,OA,DQ,E2,aV,bV,eqT,neT,JQ,Gv,Sg,Gg,QY,isNone,JT,N7,xF,fD,mv,nO,j6,i7,GN,BW,Xx,BX,Y6,xE,NQ,MG,tN,aJ,mq,BZ,dc,bp,dB,cY,yv,nz,nA,DS,qX,gR,bE,dA,d0,CY,gC,CZ,bJ,uo,EJ,da,cE,cD,qR,dn,kr,Ut,NS,uG,XE,i3,kW,Vc.BU,Vc.Hs,Vc.RP,Vc.RQ,Vc.JW,Vc.JX,tT,bB,AQ,sf,du,fZ,ownAt,sumF,NN,NK,XI,XB,NM,JR,vB,lZ,aW,List.getElem?_cons_zero,List.getElem?_cons_succ,List.getElem?_nil,List.set_cons_zero,List.set_cons_succ,List.map_cons,List.map_nil,List.length_cons,List.length_nil,List.replicate_succ,List.replicate_zero,List.cons_append,List.nil_append,Nat.reduceAdd,Nat.reduceSub]);try simp only[List.append_nil,Nat.add_sub_cancel,Nat.zero_add,List.not_mem_nil,not_false_eq_true,true_and,and_true,decide_eq_true_eq,ite_true,ite_false,Bool.not_eq_true',decide_eq_false_iff_not,List.getElem?_cons_zero,List.getElem?_cons_succ]))
local macro_rules|`(tactic| walk_at "vc")=>`(tactic| repeat (refine And.intro (by first|assumption|decide|omega | (unfold gW;omega) | (unfold Vg;omega) | (unfold mG;omega)) ?_))
local macro_rules|`(tactic| walk_at "vg")=>`(tactic| simp only[d0,CZ,gC,CY,List.length_cons,List.length_nil,Nat.reduceAdd,Nat.zero_add,true_and,List.set_cons_zero,List.set_cons_succ,Int.zero_add])
local macro_rules|`(tactic| walk_at "vd")=>`(tactic| walk_at "vx")
variable [KF]
theorem fM{α β:Type}(f:α->β)(xs:List α)(lo hi:Option Int):cut (xs.map f) lo hi=(cut xs lo hi).map f:=by
 unfold cut;rw[List.length_map,List.map_take,List.map_drop]
theorem oo{α:Type}(xs:List α)(lo hi:Option Int):(cut xs lo hi).length<=xs.length:=by
 unfold cut;rw[List.length_take,List.length_drop];omega
def XR(b:Bool):Str:=if b=true then "squares" else "streets"
def cO(b:Bool):D:=.str (XR b)
def cF(p:List Int):D:=.tup (p.map D.int)
def Bd(p:List Int):Prop:=p.length<=3/\∀x∈p,-(2^60)<x/\x<2^60
def fe(x:Int):Int:=if x<0 then -x else x
def stepI(b:Bool)(x y:Int):Int:=if b=true then fe (x-y)*fe (x-y)else fe (x-y)
def bT(b:Bool)(p q:List Int):Int:=((p.zip q).map λxy=>stepI b xy.1 xy.2).sum
def mh:bz:=λds Q=>∃b p q,ds=[cO b,cF p,cF q]/\Bd p/\Bd q/\Q (.sh (.int (bT b p q)))
theorem uL(b:Bool):bI 8 (cO b)=true:=by cases b<;>decide +kernel
theorem lC:bI 8 (.str "streets")=true:=by decide +kernel
theorem ua:bI 8 (.str "squares")=true:=by decide +kernel
theorem j8(b:Bool):dD (cO b) (.str "streets")=!b:=by cases b<;>decide +kernel
theorem sx(b:Bool):dD (cO b) (.str "squares")=b:=by cases b<;>decide +kernel
theorem sz:sizeLine=2^24:=rfl
theorem wg{p q:List Int}(h:Bd p):(p.zip q).length<=3:=by
 rw[List.length_zip];have:=h.1;omega
theorem uQ{α:Type}(l:List α)(f:α->Int):(l.map λa=>D.int (f a)).all isInt=true:=by
 rw[List.all_map];exact List.all_eq_true.mpr λ_ _=>rfl
theorem qZ{α:Type}(l:List α)(f:α->Int):(l.map λa=>D.int (f a)).map jm=l.map f:=by
 rw[List.map_map];rfl
theorem S8(ds:List D)(Q:B->Prop)(h:mh ds Q):B1 {nx:=λ_=>Q (.sh .bC),rt:=λb _=>Q b} (aW xW.length ds):=by
 obtain⟨b,p,q,rfl,hp,hq,h⟩:=h;unfold B1 cF;walk_at "vx";rw[CK];refine bL (λp=>.tup [.int p.1,.int p.2]) (λxy:Int×Int=>D.int (fe (xy.1-xy.2))) _ (λxy RH A ha=>?_) (by have:=wg (q:=q) hp;rw[sz];omega) ?_
 ·walk_at "vx"
  exact ha
 ·walk_at "vx"
  rw[j8];refine⟨⟨uL b,lC⟩,?_⟩;cases b with
  | false =>
   refine(if_pos rfl).mpr ?_;refine⟨uQ _ _,?_⟩;rw[qZ];exact h
  | true =>
   refine(if_neg ∅).mpr ?_
   rw[show(List.map (λxy:Int×Int=>D.int (fe (xy.1-xy.2))) (p.zip q))=(List.map (λxy:Int×Int=>(fe (xy.1-xy.2))) (p.zip q)).map D.int from by rw[List.map_map];rfl]
   refine bL D.int (λd:Int=>D.int (d*d)) _ (λd hd A ha=>?_) (by have:=wg (q:=q) hp;rw[sz,List.length_map];omega) ?_
   ·walk_at "vx"
    refine⟨?_,ha⟩;obtain⟨xy,RH,rfl⟩:=List.mem_map.mp hd;have h1:=hp.2 _ (List.of_mem_zip RH).1;have h2:=hq.2 _ (List.of_mem_zip RH).2;unfold gW fe;left
    split<;>omega
   ·walk_at "vx"
    refine⟨uQ _ _,?_⟩;rw[qZ,List.map_map];exact h
def Good(n:Nat)(pts:List (List Int)):Prop:=(1<=n/\n<=3)/\∀p∈pts,p.length=n/\∀x∈p,-(2^59)<x/\x<2^59
theorem Good.bd{n:Nat}{pts:List (List Int)}(g:Good n pts){p:List Int}(h:p∈pts):Bd p:=⟨by have:=(g.2 p h).1;have:=g.1.2;omega,λx hx=>by have:=(g.2 p h).2 x hx;omega⟩
theorem jw{n i a:Nat}(h:(List.range n)[i]?=some a):a=i/\i<n:=by
 have hi:i<n:=by
  have:=(List.getElem?_eq_some_iff.mp h).1
  rwa [List.length_range]at this
 rw[List.getElem?_range hi]at h;cases h;exact⟨rfl,hi⟩
def cy(pts:List (List Int)):D:=.lst (pts.map cF)
theorem eU{pts:List (List Int)}{j:Nat}(h:j<pts.length):(pts.map cF)[j]?=some (cF (pts.getD j [])):=by
 rw[List.getElem?_map,List.getD_eq_getElem?_getD,List.getElem?_eq_getElem h];rfl
theorem getD_mem{pts:List (List Int)}{j:Nat}(h:j<pts.length):pts.getD j []∈pts:=by
 rw[List.getD_eq_getElem?_getD,List.getElem?_eq_getElem h];exact List.getElem_mem h
def Shape(n:Nat)(pts:List (List Int)):Prop:=(1<=n/\n<=3)/\∀p∈pts,p.length=n
theorem Good.shape{n:Nat}{pts:List (List Int)}(g:Good n pts):Shape n pts:=⟨g.1,λp hp=>(g.2 p hp).1⟩
def jD:bz:=λds Q=>∃c:Int,ds=[.int c]/\1<=c/\c<=3/\Q (.sh .bC)
theorem Bg(ds:List D)(Q:B->Prop)(h:jD ds Q):Cd {nx:=λ_=>Q (.sh .bC),rt:=λb _=>Q b} (aW yh.length ds):=by
 obtain⟨c,rfl,h1,h2,h⟩:=h;unfold Cd;walk_at "vx";rw[if_neg ⋯,if_neg ⋯]
 exact h
def uC:bz:=λds Q=>∃(p:List Int) (c:Int),ds=[cF p,.int c]/\(p.length:Int)=c/\Q (.sh .bC)
theorem Tc(ds:List D)(Q:B->Prop)(h:uC ds Q):NT {nx:=λ_=>Q (.sh .bC),rt:=λb _=>Q b} (aW GQ.length ds):=by
 obtain⟨p,c,rfl,rfl,h⟩:=h;unfold NT cF;walk_at "vx";rw[List.length_map];refine⟨⟨rfl,rfl⟩,?_⟩;have e:dD (.int (p.length:Nat)) (.int (p.length:Nat))=true:=by simp [dD]
 rw[if_neg (by rw[e];decide)]
 exact h
def pL:bz:=λds Q=>∃n pts,ds=[cy pts]/\Shape n pts/\Q (.sh .bC)
theorem LR(ds:List D)(Q:B->Prop)(h:pL ds Q):B5 jD uC {nx:=λ_=>Q (.sh .bC),rt:=λb _=>Q b} (aW ya.length ds):=by
 obtain⟨n,pts,rfl,hg,h⟩:=h;unfold B5 cy;walk_at "vx";refine di cF pts (λi σ=>∃x,σ=[some (.sh (.lst (pts.map cF))),x]) (λi p σ N' hx hI qS=>?_) (λσ hI=>h) ⟨none,rfl⟩;obtain⟨x,rfl⟩:=hI;have hp:=hg.2 p (List.mem_of_getElem? hx);have h1:=hg.1;have h0:0<pts.length:=Nat.lt_of_le_of_lt (Nat.zero_le _) (List.getElem?_eq_some_iff.mp hx).1;have Zw:=hg.2 _ (getD_mem h0);walk_at "vg";refine ao λN2 jj=>?_;rw[show cF p=.tup (p.map D.int)from rfl]
 walk_at "vx";rw[List.length_map];refine⟨_,rfl,by omega,by omega,?_⟩
 walk_at "vx";subst jj;walk_at "vx";refine b9 (n:=0) rfl (eU h0) ?_;rw[show cF (pts.getD 0 [])=.tup ((pts.getD 0 []).map D.int)from rfl]
 walk_at "vx";rw[List.length_map];refine⟨p,_,rfl,by rw[hp,Zw],?_⟩
 exact qS _ ⟨_,rfl⟩
def pM:bz:=λds Q=>∃b,ds=[cO b]/\Q (.sh .bC)
theorem LU(ds:List D)(Q:B->Prop)(h:pM ds Q):Ck {nx:=λ_=>Q (.sh .bC),rt:=λb _=>Q b} (aW yn.length ds):=by
 obtain⟨b,rfl,h⟩:=h;unfold Ck;walk_at "vx";refine⟨⟨uL b,lC⟩,?_⟩;rw[j8];cases b with
 | false=>exact h
 | true =>
  refine(if_pos rfl).mpr ⟨⟨uL true,ua⟩,?_⟩;rw[sx];exact h
def jF:bz:=λds Q=>∃n b pts,ds=[cy pts,cO b]/\Shape n pts/\Q (.sh .bC)
theorem Td(ds:List D)(Q:B->Prop)(h:jF ds Q):NU pL pM {nx:=λ_=>Q (.sh .bC),rt:=λb _=>Q b} (aW GR.length ds):=by
 obtain⟨n,b,pts,rfl,hg,h⟩:=h;unfold NU;walk_at "vx";refine⟨n,pts,rfl,hg,?_⟩;walk_at "vx";exact⟨b,rfl,h⟩
theorem hZ(i:Int):dD (.int i) (.int i)=true:=by simp [dD]
theorem tZ(pts:List (List Int)):bI 8 (.lst (pts.map cF))=true:=by
 show(pts.map cF).all (bI 7)=true;rw[List.all_map];refine List.all_eq_true.mpr λp _=>?_;show(p.map D.int).all (bI 6)=true;rw[List.all_map];exact List.all_eq_true.mpr λ_ _=>rfl
theorem ne_nil(pts:List (List Int)):dD (.lst (pts.map cF)) (.lst [])=decide (pts=[]):=by cases pts<;>rfl
def pairD(b:Bool)(pts:List (List Int))(i j:Nat):D:=.tup [.int (bT b (pts.getD i []) (pts.getD j [])),.int i,.int j]
def fj(b:Bool)(pts:List (List Int))(i m:Nat):List D:=(List.range m).map λt=>pairD b pts i (i+1+t)
def cQ(b:Bool)(pts:List (List Int)):Nat->List D
 | 0=>[]
 | i+1=>cQ b pts i++fj b pts i (pts.length-(i+1))
def aY(b:Bool)(pts:List (List Int)):List D:=cQ b pts pts.length
theorem rQ(b:Bool)(pts:List (List Int))(i m:Nat):(fj b pts i m).length=m:=by unfold fj;rw[List.length_map,List.length_range]
theorem nL(b:Bool)(pts:List (List Int))(i m:Nat):fj b pts i (m+1)=fj b pts i m++[pairD b pts i (i+1+m)]:=by unfold fj;rw[List.range_succ,List.map_append];rfl
theorem nM(b:Bool)(pts:List (List Int)):∀i,(cQ b pts i).length<=i*pts.length
 | 0=>Nat.zero_le _
 | i+1=>by
  have ih:=nM b pts i;show(cQ b pts i++fj b pts i (pts.length-(i+1))).length<=_;rw[List.length_append,rQ,Nat.succ_mul];omega
theorem vM{b:Bool}{pts:List (List Int)}{i:Nat}(hl:pts.length<=1000)(hi:i<=pts.length):(cQ b pts i).length<=1000000:=
 Nat.le_trans (nM b pts i) (Nat.mul_le_mul (show i<=1000 by omega) hl)
theorem eC{b:Bool}{pts:List (List Int)}(hl:pts.length<=1000):(aY b pts).length<=1000000:=vM hl (Nat.le_refl _)
theorem lR{b:Bool}{pts:List (List Int)}:∀ {i:Nat} {d:D},d∈cQ b pts i->∃p q,p<i/\p<q/\(i<=pts.length->q<pts.length)/\d=pairD b pts p q
 | i+1,d,h=>by
  rcases List.mem_append.mp (show d∈cQ b pts i++fj b pts i (pts.length-(i+1))from h)with h|h
  ·obtain⟨p,q,h1,h2,h3,h4⟩:=lR h
   exact⟨p,q,by omega,h2,λz=>h3 ⋯,h4⟩
  ·obtain⟨t,ht,rfl⟩:=List.mem_map.mp h
   have ht:=List.mem_range.mp ht;exact⟨i,i+1+t,by omega,by omega,λz=>by omega,rfl⟩
theorem cc{b:Bool}{pts:List (List Int)}{d:D}(h:d∈aY b pts):∃p q,p<q/\q<pts.length/\d=pairD b pts p q:=by
 obtain⟨p,q,h1,h2,h3,h4⟩:=lR h;exact⟨p,q,h2,h3 (Nat.le_refl _),h4⟩
theorem lH(b:Bool)(pts:List (List Int)):(aY b pts).all eO=true:=List.all_eq_true.mpr λd hd=>by
 obtain⟨p,q,_,_,rfl⟩:=cc hd;rfl
def fB:bz:=λds Q=>∃b n pts,ds=[cy pts,cO b]/\Good n pts/\pts.length<=1000/\Q (.own (aY b pts))
def p8(sp:bz)(rest:cJ):cJ:=(bP (dw [] 2 (mq tN)) (bP (da (uo (bp (aQ (dB cY (bp (ag 0) dc))) dc)) (d0 3) (da (EJ (bp (aQ (bf dk (ag 3) (aZ (.int 1)))) (bp (aQ (dB cY (bp (ag 0) dc))) dc))) (d0 4) (qa (BQ (ag 2) (ak [] (BZ (aJ (ak [] (aQ (dA sp (aJ (ak [] (ag 1)) (aJ (ak [] (i7 (ag 0) (ag 3))) (aJ (ak [] (i7 (ag 0) (ag 4))) tN)))))) (aJ (ak [] (ag 3)) (aJ (ak [] (ag 4)) tN))))))))) rest))
theorem Bi{b:Bool}{n:Nat}{pts:List (List Int)}{rest:cJ}{De:jO}(hg:Good n pts)(hl:pts.length<=1000)(h:∀x3 x4,rest De [some (.sh (cy pts)),some (.sh (cO b)),some (.own (aY b pts)),x3,x4]):
  p8 mh rest De [some (.sh (cy pts)),some (.sh (cO b)),none,none,none]:=by
 unfold p8;refine ao λN hN=>?_;walk_at "vx";refine⟨by decide,?_⟩
 subst hN;refine ao λN hN=>?_;rw[show cy pts=.lst (pts.map cF)from rfl]
 walk_at "vx";rw[List.length_map,Int.toNat_natCast,fA];refine⟨by omega,di (λi:Nat=>.int (0+(i:Nat))) (List.range pts.length) (λi σ=>∃x3 x4,σ=[some (.sh (.lst (pts.map cF))),some (.sh (cO b)),some (.own (cQ b pts i)),x3,x4]) (λi a σ N' hx hI qS=>?_) (λσ hI=>?_) ⟨none,none,rfl⟩⟩
 ·obtain⟨rfl,hi⟩:=jw hx
  obtain⟨x3,x4,rfl⟩:=hI;walk_at "vg";walk_at "vx";rw[List.length_map,fA];refine⟨by omega,?_⟩
  rw[show((pts.length:Int)-((a:Int)+1)).toNat=pts.length-(a+1)by omega]
  refine di (λt:Nat=>.int ((a:Int)+1+(t:Nat))) (List.range (pts.length-(a+1))) (λm σ=>∃x4,σ=[some (.sh (.lst (pts.map cF))),some (.sh (cO b)),some (.own (cQ b pts a++fj b pts a m)),some (.sh (.int a)),x4]) (λm t σ N2 DN VX jj=>?_) (λσ VX=>?_) ⟨x4,by rw[show fj b pts a 0=[]from rfl,List.append_nil]⟩
  ·obtain⟨rfl,ht⟩:=jw DN
   obtain⟨x4,rfl⟩:=VX;walk_at "vx";have hj:a+1+t<pts.length:=by omega
   refine⟨⟨_,rfl⟩,?_⟩;refine b9 (n:=a) rfl (eU hi) ?_;refine b9 (n:=a+1+t) ⋯ (eU hj) ?_
   walk_at "vx";refine⟨b,_,_,rfl,hg.bd (getD_mem hi),hg.bd (getD_mem hj),?_⟩;walk_at "vx";have hz:=vM (b:=b) hl (show a<=pts.length by omega)
   refine⟨by decide,by rw[sz,List.length_append,rQ];omega,jj _ ⟨some (.sh (.int ((a:Int)+1+(t:Int)))),?_⟩⟩
   rw[nL,List.append_assoc];unfold pairD;rw[show((a+1+t:Nat):Int)=(a:Int)+1+(t:Int)by omega]
  ·obtain⟨x4,rfl⟩:=VX
   rw[List.length_range];exact qS _ ⟨some (.sh (.int a)),x4,rfl⟩
 ·obtain⟨x3,x4,rfl⟩:=hI
  subst hN;rw[List.length_range];exact h x3 x4
theorem Eg(ds:List D)(Q:B->Prop)(h:fB ds Q):UE mh {nx:=λ_=>Q (.sh .bC),rt:=λb _=>Q b} (aW GX.length ds):=by
 obtain⟨b,n,pts,rfl,hg,hl,h⟩:=h;exact Bi hg hl λx3 x4=>by walk_at "vx";exact h
def cf(xs:List D):Prop:=∃x y:Int,xs=[.int x,.int y]/\0<=x/\0<=y/\y<2147483647
def p0:bz:=λds Q=>∃c:Int,ds=[.int c]/\∀xs,cf xs->Q (.own xs)
theorem LV(ds:List D)(Q:B->Prop)(h:p0 ds Q):Ci {nx:=λ_=>Q (.sh .bC),rt:=λb _=>Q b} (aW yk.length ds):=by
 obtain⟨c,rfl,h⟩:=h;unfold Ci;walk_at "vx";refine⟨by decide,by unfold gW;omega,by decide,by decide,?_⟩
 exact h _ ⟨_,_,rfl,by split<;>omega,by omega,by omega⟩
def fY:jP:=λxs ds Q=>cf xs/\∃m:Int,ds=[.int m]/\1<=m/\m<2^200/\∀r ys,0<=r->r<m->cf ys->Q (.sh (.int r)) ys
theorem LW(xs ds:List D)(Q:B->List D->Prop)(h:fY xs ds Q):Cj {nx:=tT Q (.sh .bC),rt:=λb σ=>tT Q b σ} (bB ym.length xs ds):=by
 obtain⟨⟨x,y,rfl,hx,hy,hy2⟩,m,rfl,hm,ig,h⟩:=h;unfold Cj;refine ao λN hN=>?_;simp only[bB];walk_at "vx";refine⟨by unfold mG;decide,?_⟩
 split
 ·refine⟨by omega,by unfold kH;omega,⟨_,rfl⟩,?_⟩
  exact h _ _ (Int.emod_nonneg _ ⋯) (Int.emod_lt_of_pos _ ⋯) ⟨_,_,rfl,Int.ediv_nonneg hx ⋯,hy,hy2⟩
 ·subst hN
  refine ao λN hN=>?_;walk_at "vx";refine⟨by unfold gW;omega,by decide,⟨_,rfl⟩,?_⟩
  have YM:0<=(y*48271+11)%2147483647:=Int.emod_nonneg _ ∅
  have Gq:(y*48271+11)%2147483647<2147483647:=Int.emod_lt_of_pos _ ∅
  generalize (y*48271+11)%2147483647=z at YM Gq;subst hN;refine ao λN hN=>?_;walk_at "vx";refine⟨by unfold gW;omega,by decide,?_⟩
  have hs0:0<=z*z%2147483629:=Int.emod_nonneg _ ∅
  have Ww:z*z%2147483629<2147483629:=Int.emod_lt_of_pos _ ∅
  generalize z*z%2147483629=s at hs0 Ww;subst hN;walk_at "vx";refine⟨by unfold gW;omega,by decide,by unfold kH;decide,by omega,?_⟩
  exact h _ _ (Int.emod_nonneg _ ⋯) (Int.emod_lt_of_pos _ ⋯) ⟨_,_,rfl,hx,YM,Gq⟩
def gQ:jP:=λxs ds Q=>cf xs/\∃m:Nat,ds=[.int m]/\m<=150/\∀pts n ys,Good n pts->pts.length<=m->cf ys->Q (.own (pts.map cF)) ys
def sX(v:Int):Prop:=-(10^15)<=v/\v<=10^15
theorem oK:∀ds:List D,(∀d∈ds,∃v,d=.int v/\sX v)->∃p:List Int,ds=p.map D.int/\p.length=ds.length/\∀v∈p,sX v
 | [],_=>⟨[],rfl,rfl,λv hv=>by cases hv⟩
 | d::ds,h=>by
  obtain⟨v,rfl,hv⟩:=h d (List.mem_cons_self ..);obtain⟨p,e,hl,hp⟩:=oK ds λx hx=>h x (List.mem_cons_of_mem _ hx);refine⟨v::p,by rw[e];rfl,by simp [hl],λw hw=>?_⟩
  rcases List.mem_cons.mp hw with rfl|hw
  ·exact hv
  ·exact hp w hw
theorem AU{n:Nat}(h:0<n):vt n 0=some 0:=by unfold vt;rw[if_pos ⋯,if_pos ⋯];rfl
theorem xl(xs ds:List D)(Q:B->List D->Prop)(h:gQ xs ds Q):B8 fY {nx:=tT Q (.sh .bC),rt:=λb σ=>tT Q b σ} (bB yd.length xs ds):=by
 obtain⟨r0,m,rfl,hm,h⟩:=h;unfold B8
 -- count
 refine ao λN hN=>?_;walk_at "vx";refine⟨⟨_,rfl⟩,r0,3,rfl,by decide,by decide,λc x1 c0 c3 r1=>?_⟩
 walk_at "vx";subst hN
 -- many
 refine ao λN hN=>?_;walk_at "vd";refine⟨⟨_,rfl⟩,r1,_,rfl,by omega,by omega,λa1 x2 Pk X0 r2=>?_⟩
 walk_at "vx";refine⟨⟨_,rfl⟩,r2,_,rfl,by split<;>omega,by split<;>omega,λa2 x3 X1 X2 r3=>?_⟩
 walk_at "vx";refine⟨by decide,⟨_,rfl⟩,r3,3,rfl,by decide,by decide,λa3 x4 Zm a31 r4=>?_⟩
 walk_at "vx";refine cL Zm (by simp only[List.length_cons,List.length_nil];omega) λd hd=>?_
 obtain⟨many,rfl,hmn⟩:∃v:Nat,d=.int v/\v<=m:=by
  simp only[List.mem_cons,List.not_mem_nil,or_false]at hd;rcases hd with rfl|rfl|rfl
  ·exact⟨a1.toNat,by rw[Int.toNat_of_nonneg Pk],by omega⟩
  ·exact⟨m,rfl,Nat.le_refl _⟩
  ·exact⟨a2.toNat,by rw[Int.toNat_of_nonneg X1],by split at X2<;>omega⟩
 subst hN
 -- wide
 refine ao λN hN=>?_;walk_at "vx";refine⟨by unfold mG;decide,by unfold gW;decide,by decide,⟨_,rfl⟩,r4,5,rfl,by decide,by decide,λa4 x5 Zn a41 r5=>?_⟩
 walk_at "vx";refine cL Zn (by simp only[List.length_cons,List.length_nil];omega) λd hd=>?_
 obtain⟨wide,rfl,hw1,hw2⟩:∃v:Int,d=.int v/\3<=v/\v<=2*10^15-1:=by
  simp only[List.mem_cons,List.not_mem_nil,or_false]at hd;rcases hd with rfl|rfl|rfl|rfl|rfl
  ·exact⟨_,rfl,by decide,by decide⟩
  ·exact⟨_,rfl,by decide,by decide⟩
  ·exact⟨_,rfl,by decide,by decide⟩
  ·exact⟨_,rfl,by decide,by decide⟩
  ·exact⟨_,rfl,by decide,by decide⟩
 subst hN
 -- kind
 refine ao λN hN=>?_;walk_at "vx";refine⟨⟨_,rfl⟩,r5,5,rfl,by decide,by decide,λkind x6 _ _ r6=>?_⟩
 walk_at "vx";subst hN
 -- found
 refine ao λN hN=>?_;walk_at "vx";refine⟨by decide,?_⟩
 subst hN;obtain⟨cnt,Oq,ZG,ec⟩:∃n:Nat,1<=n/\n<=3/\1+c=(n:Int):=⟨(1+c).toNat,by omega,by omega,by omega⟩
 rw[ec]
 -- the loop
 refine ao λN hN=>?_;show da _ _ _ _ _;generalize ht:bP (dw [0] 8 _) _=tb;walk_at "vx";rw[Int.toNat_natCast,fA];refine⟨by omega,di (λi:Nat=>.int (0+(i:Nat))) (List.range many) (λi σ=>∃x pts k pt b,σ=[some (.own x),some (.sh (.int m)),some (.sh (.int cnt)),some (.sh (.int many)),some (.sh (.int wide)),some (.sh (.int kind)),some (.own (pts.map cF)),k,pt,b]/\cf x/\pts.length=i/\Good cnt pts/\∀p∈pts,∀v∈p,sX v) (λi a σ N' hx hI qS=>?_) (λσ hI=>?_) ⟨x6,[],none,none,none,rfl,r6,rfl,⟨⟨Oq,ZG⟩,λp hp=>by cases hp⟩,λp hp=>by cases hp⟩⟩
 ·obtain⟨rfl,hi⟩:=jw hx
  obtain⟨x,pts,k,pt,b,rfl,rx,hl,hg,hf⟩:=hI;walk_at "vg";subst ht
  -- the last: append
  have last:∀(x:List D) (p:List Int) b,cf x->p.length=cnt->(∀v∈p,sX v)->N' [some (.own x),some (.sh (.int m)),some (.sh (.int cnt)),some (.sh (.int many)),some (.sh (.int wide)),some (.sh (.int kind)),some (.own ((pts++[p]).map cF)),some (.sh (.int (a:Nat))),some (.sh (.lst (p.map D.int))),b]/\N' [some (.own x),some (.sh (.int m)),some (.sh (.int cnt)),some (.sh (.int many)),some (.sh (.int wide)),some (.sh (.int kind)),some (.own ((pts++[p]).map cF)),some (.sh (.int (a:Nat))),some (.own (p.map D.int)),b]:=λx p b rx hp hb=>by
   have Yo:Good cnt (pts++[p]):=⟨hg.1,λq hq=>by
    rcases List.mem_append.mp hq with hq|hq
    ·exact hg.2 q hq
    ·rw[List.mem_singleton.mp hq]
     exact⟨hp,λv hv=>by have:=hb v hv;unfold sX at this;omega⟩⟩
   have UU:∀q∈pts++[p],∀v∈q,sX v:=λq hq=>by
    rcases List.mem_append.mp hq with hq|hq
    ·exact hf q hq
    ·rw[List.mem_singleton.mp hq];exact hb
   exact⟨qS _ ⟨x,pts++[p],_,_,_,rfl,rx,by simp [hl],Yo,UU⟩,qS _ ⟨x,pts++[p],_,_,_,rfl,rx,by simp [hl],Yo,UU⟩⟩
  refine ao λN1 QZ=>?_;have k1:∀(x:List D) (p:List Int) b,cf x->p.length=cnt->(∀v∈p,sX v)->N1 [some (.own x),some (.sh (.int m)),some (.sh (.int cnt)),some (.sh (.int many)),some (.sh (.int wide)),some (.sh (.int kind)),some (.own (pts.map cF)),some (.sh (.int (a:Nat))),some (.own (p.map D.int)),b]:=by
   intro x p b rx hp hb;subst QZ;refine ao λN2 jj=>?_;have k2:∀(x:List D) (p:List Int) b,cf x->p.length=cnt->(∀v∈p,sX v)->N2 [some (.own x),some (.sh (.int m)),some (.sh (.int cnt)),some (.sh (.int many)),some (.sh (.int wide)),some (.sh (.int kind)),some (.own (pts.map cF)),some (.sh (.int (a:Nat))),some (.own (p.map D.int)),b]:=by
    intro x p b rx hp hb;subst jj;refine ao λN3 VY=>?_;have k3:∀(x:List D) (p:List Int) b,cf x->p.length=cnt->(∀v∈p,sX v)->N3 [some (.own x),some (.sh (.int m)),some (.sh (.int cnt)),some (.sh (.int many)),some (.sh (.int wide)),some (.sh (.int kind)),some (.own (pts.map cF)),some (.sh (.int (a:Nat))),some (.own (p.map D.int)),b]:=by
     intro x p b rx hp hb;subst VY;refine ao λN4 VZ=>?_;have k4:∀(x:List D) (p:List Int) b,cf x->p.length=cnt->(∀v∈p,sX v)->N4 [some (.own x),some (.sh (.int m)),some (.sh (.int cnt)),some (.sh (.int many)),some (.sh (.int wide)),some (.sh (.int kind)),some (.own (pts.map cF)),some (.sh (.int (a:Nat))),some (.own (p.map D.int)),b]:=by
      intro x p b rx hp hb;subst VZ;walk_at "vx";refine⟨⟨_,rfl⟩,by rw[List.length_map,sz];omega,?_⟩
      have:=(last x p b rx hp hb);rw[List.map_append]at this
      first|exact this.1|exact this.2
     -- kind 3
     walk_at "vx";refine⟨⟨rfl,rfl⟩,?_⟩
     split
     ·refine⟨Nat.zero_le _,⟨tZ pts,rfl⟩,?_⟩
      rw[ne_nil]
      by_cases AG:pts=[]
      ·refine(if_neg (by simp [AG])).mpr ?_
       exact k4 x p b rx hp hb
      ·have h0:0<pts.length:=List.length_pos_iff.mpr AG
       refine(if_pos (by simp [AG])).mpr ⟨⟨_,rfl⟩,rx,4,rfl,by decide,by decide,λr y _ _ ry=>?_⟩
       walk_at "vx";refine⟨⟨by rfl,rfl⟩,?_⟩
       split
       ·rw[List.length_map]
        refine⟨⟨_,rfl⟩,ry,_,rfl,by omega,by omega,λr2 y2 q0 q1 Xt=>?_⟩
        have hj:r2.toNat<pts.length:=by omega
        walk_at "vx";refine b9 (n:=r2.toNat) ⋯ (eU hj) ?_
        rw[show cF (pts.getD r2.toNat [])=.tup ((pts.getD r2.toNat []).map D.int)from rfl]
        exact k4 y2 _ b Xt (hg.2 _ (getD_mem hj)).1 (hf _ (getD_mem hj))
       ·exact k4 y p b ry hp hb
     ·exact k4 x p b rx hp hb
    -- kind 2
    walk_at "vx";refine⟨⟨rfl,rfl⟩,?_⟩
    split
    ·refine⟨Nat.zero_le _,⟨tZ pts,rfl⟩,?_⟩
     rw[ne_nil]
     by_cases AG:pts=[]
     ·refine(if_neg (by simp [AG])).mpr ?_
      exact k3 x p b rx hp hb
     ·have h0:0<pts.length:=List.length_pos_iff.mpr AG
      refine(if_pos (by simp [AG])).mpr ⟨⟨_,rfl⟩,rx,3,rfl,by decide,by decide,λr y _ _ ry=>?_⟩
      walk_at "vx"
      split
      ·rw[List.length_map]
       refine⟨⟨_,rfl⟩,ry,_,rfl,by omega,by omega,λr2 y2 q0 q1 Xt=>?_⟩
       have hj:r2.toNat<pts.length:=by omega
       walk_at "vx";refine b9 (n:=r2.toNat) ⋯ (eU hj) ?_
       rw[show cF (pts.getD r2.toNat [])=.tup ((pts.getD r2.toNat []).map D.int)from rfl]
       walk_at "vx";have gl:=(hg.2 _ (getD_mem hj)).1;have gf:=hf _ (getD_mem hj);generalize pts.getD r2.toNat []=base at gl gf;refine ng D.int (λd=>∃v,d=.int v/\sX v) cf base (λv hv z rz A Z hz ha=>?_) (by rw[sz];omega) Xt (λds ys C2 V9 Xu=>?_)
       ·walk_at "vx"
        refine⟨by unfold mG;decide,by unfold mG;decide,⟨_,rfl⟩,rz,3,rfl,by decide,by decide,λr3 z3 w0 w1 Xv=>?_⟩
        walk_at "vx";refine⟨hz,ha _ _ ⟨_,rfl,?_⟩ Xv⟩;unfold sX;rw[show(10:Int)^Int.toNat 15=10^15 from rfl]
        split<;>split<;>omega
       ·obtain⟨p2,rfl,pl,pf⟩:=oK ds V9
        exact k3 ys p2 _ Xu (by rw[pl,C2,gl]) pf
      ·exact k3 y p b ry hp hb
    ·exact k3 x p b rx hp hb
   -- kind 1
   walk_at "vx";refine⟨⟨rfl,rfl⟩,?_⟩
   split
   ·refine⟨by unfold kH;decide,⟨_,rfl⟩,?_⟩
    rw[AU (by rw[List.length_map];omega)]
    dsimp only;have e:(p.map D.int).set 0 (D.int (0-wide/2))=(p.set 0 (0-wide/2)).map D.int:=by rw[List.map_set]
    rw[e];refine k2 x _ b rx (by rw[List.length_set];exact hp) λv hv=>?_
    rcases List.mem_or_eq_of_mem_set hv with hv|rfl
    ·exact hb v hv
    ·unfold sX;omega
   ·exact k2 x p b rx hp hb
  -- the point
  walk_at "vx";rw[Int.toNat_natCast,fA];refine⟨by omega,ng (λi:Nat=>.int (0+(i:Nat))) (λd=>∃v,d=.int v/\sX v) cf _ (λv hv z rz A Z hz ha=>?_) (by rw[List.length_range,sz];omega) rx (λds ys C2 V9 Xu=>?_)⟩
  ·walk_at "vx"
   refine⟨⟨_,rfl⟩,rz,wide,rfl,by omega,by omega,λr3 z3 w0 w1 Xv=>?_⟩
   walk_at "vx";refine⟨by unfold kH;decide,hz,ha _ _ ⟨_,rfl,?_⟩ Xv⟩
   unfold sX;omega
  ·obtain⟨p2,rfl,pl,pf⟩:=oK ds V9
   exact k1 ys p2 _ Xu (by rw[pl,C2,List.length_range]) pf
 ·obtain⟨x,pts,k,pt,b,rfl,rx,hl,hg,hf⟩:=hI
  subst hN;rw[List.length_range]at hl;walk_at "vx";exact⟨by decide,h pts cnt x hg ⋯ rx⟩
theorem qo{α:Type}(xs:List α)(k:Nat):cut xs none (some (k:Int))=xs.take k:=by
 unfold cut;rw[HT.rS,HT.vO,List.drop_zero,Nat.sub_zero]
 by_cases h:k<=xs.length
 ·rw[Nat.min_eq_left h]
 ·rw[Nat.min_eq_right ⋯,List.take_of_length_le (Nat.le_refl _),List.take_of_length_le ⋯]
theorem wo{xs:List D}(h:xs.all eO=true):kM xs=(cz xs).head?:=by
 have key:∀(l:List D) (b:D),(∀x∈l,eO x=true)->eO b=true->∃m,l.foldl (λb y=>if ltI y b=true then y else b) b=m/\(m=b\/m∈l)/\eO m=true/\kq m b=true/\∀x∈l,kq m x=true:=by
  intro l
  induction l with
  | nil=>intro b _ hb;exact⟨b,rfl,.inl rfl,hb,by unfold kq;rw[Vs.dJ];rfl,λx hx=>by cases hx⟩
  | cons y l ih =>
   intro b hl hb;have hy:=hl y (List.mem_cons_self ..);have lt:ltI y b=HT.lexLt (eh y) (eh b):=by
    rw[d4 hy,d4 hb];rfl
   rw[List.foldl_cons]
   by_cases e:ltI y b=true
   ·rw[if_pos e]
    obtain⟨m,m1,m2,m3,m4,m5⟩:=ih y (λx hx=>hl x (List.mem_cons_of_mem _ hx)) hy;refine⟨m,m1,?_,m3,?_,λx hx=>?_⟩
    ·rcases m2 with rfl|m2
     ·exact .inr (List.mem_cons_self ..)
     ·exact .inr (List.mem_cons_of_mem _ m2)
    ·refine jq m y b m4 ?_
     unfold kq;rw[lt]at e;cases e2:HT.lexLt (eh b) (eh y)with
     | false=>rfl
     | true=>have:=Vs.eB _ _ _ e e2;rw[Vs.dJ]at this;cases this
    ·rcases List.mem_cons.mp hx with rfl|hx
     ·exact m4
     ·exact m5 x hx
   ·rw[if_neg e]
    obtain⟨m,m1,m2,m3,m4,m5⟩:=ih b (λx hx=>hl x (List.mem_cons_of_mem _ hx)) hb;refine⟨m,m1,?_,m3,m4,λx hx=>?_⟩
    ·rcases m2 with rfl|m2
     ·exact .inl rfl
     ·exact .inr (List.mem_cons_of_mem _ m2)
    ·rcases List.mem_cons.mp hx with rfl|hx
     ·refine jq m b x m4 ?_
      unfold kq;rw[lt]at e;simpa using e
     ·exact m5 x hx
 have hp:=bH xs;have hs:=eY xs;cases xs with
 | nil=>rw[List.perm_nil.mp hp];rfl
 | cons x xs =>
  have all:=List.all_eq_true.mp h;obtain⟨m,m1,m2,m3,m4,m5⟩:=key xs x (λy hy=>all y (List.mem_cons_of_mem _ hy)) (all x (List.mem_cons_self ..));have hm:m∈x::xs:=by rcases m2 with rfl|m2;exact List.mem_cons_self ..;exact List.mem_cons_of_mem _ m2
  have fh:∀y∈x::xs,kq m y=true:=λy hy=>by
   rcases List.mem_cons.mp hy with rfl|hy
   ·exact m4
   ·exact m5 y hy
  show some _=_;rw[m1];cases e:cz (x::xs)with
  | nil=>rw[e]at hp;exact absurd hp.length_eq (by simp)
  | cons a l =>
   rw[e]at hp hs;have ha:a∈x::xs:=hp.mem_iff.mp (List.mem_cons_self ..);have h1:=fh a ha;have h2:kq a m=true:=by
    rcases List.mem_cons.mp (hp.mem_iff.mpr hm)with rfl|hm
    ·unfold kq;rw[Vs.dJ];rfl
    ·exact(List.pairwise_cons.mp hs).1 m hm
   unfold kq at h1 h2;simp only[Bool.not_eq_true']at h1 h2;show some m=some a;rw[d4 m3,d4 (all a ha),Vs.lb _ _ h2 h1]
def E6(b:Bool)(pts:List (List Int)):D:=(kM (aY b pts)).getD .bC
def uD:bz:=λds Q=>∃b n pts,ds=[cy pts,cO b]/\Good n pts/\pts.length<=1000/\Q (.sh (E6 b pts))
theorem Tf(ds:List D)(Q:B->Prop)(h:uD ds Q):B3 jF fB {nx:=λ_=>Q (.sh .bC),rt:=λb _=>Q b} (aW xY.length ds):=by
 obtain⟨b,n,pts,rfl,hg,hl,h⟩:=h;unfold B3;refine ao λN hN=>?_;walk_at "vx";refine⟨n,b,pts,rfl,hg.shape,?_⟩;walk_at "vx";subst hN;walk_at "vx";refine⟨b,n,pts,rfl,hg,hl,?_⟩;walk_at "vx";refine⟨.inr (List.all_eq_true.mpr λd hd=>?_),h⟩;obtain⟨p,q,_,_,rfl⟩:=cc hd;rfl
def jE:bz:=λds Q=>∃pts j,ds=[cy pts,.int (j:Nat)]/\j<pts.length/\Q (.sh .bC)
theorem Bh(ds:List D)(Q:B->Prop)(h:jE ds Q):Ce {nx:=λ_=>Q (.sh .bC),rt:=λb _=>Q b} (aW yi.length ds):=by
 obtain⟨pts,j,rfl,hj,h⟩:=h;unfold Ce cy;walk_at "vx";rw[List.length_map];rw[if_neg ⋯,if_neg ⋯]
 exact h
def uA:bz:=λds Q=>∃b n pts i j,ds=[cy pts,cO b,.int (i:Nat),.int (j:Nat)]/\Good n pts/\i<pts.length/\j<pts.length/\Q (.sh (.int (bT b (pts.getD i []) (pts.getD j []))))
theorem S9(ds:List D)(Q:B->Prop)(h:uA ds Q):Cm jF jE mh {nx:=λ_=>Q (.sh .bC),rt:=λb _=>Q b} (aW yo.length ds):=by
 obtain⟨b,n,pts,i,j,rfl,hg,hi,hj,h⟩:=h;unfold Cm;walk_at "vx";refine⟨n,b,pts,rfl,hg.shape,?_⟩;walk_at "vx";refine⟨pts,i,rfl,hi,?_⟩;walk_at "vx";refine⟨pts,j,rfl,hj,?_⟩;rw[show cy pts=.lst (pts.map cF)from rfl]
 walk_at "vx";refine b9 (n:=i) rfl (eU hi) ?_;refine b9 (n:=j) rfl (eU hj) ?_;walk_at "vx";exact⟨b,_,_,rfl,hg.bd (getD_mem hi),hg.bd (getD_mem hj),h⟩
def fX:bz:=λds Q=>∃b n pts,ds=[cy pts,cO b]/\Good n pts/\pts.length<=1000/\Q (.own (cz (aY b pts)))
theorem LC(ds:List D)(Q:B->Prop)(h:fX ds Q):Cg jF fB {nx:=λ_=>Q (.sh .bC),rt:=λb _=>Q b} (aW yj.length ds):=by
 obtain⟨b,n,pts,rfl,hg,hl,h⟩:=h;unfold Cg;refine ao λN hN=>?_;walk_at "vx";refine⟨n,b,pts,rfl,hg.shape,?_⟩;walk_at "vx";subst hN;walk_at "vx";refine⟨b,n,pts,rfl,hg,hl,?_⟩;walk_at "vx";exact⟨lH b pts,h⟩
def pK:bz:=λds Q=>∃j:Int,ds=[.int j]/\1<=j/\Q (.sh .bC)
theorem LQ(ds:List D)(Q:B->Prop)(h:pK ds Q):B4 {nx:=λ_=>Q (.sh .bC),rt:=λb _=>Q b} (aW xZ.length ds):=by
 obtain⟨j,rfl,hj,h⟩:=h;unfold B4;walk_at "vx";rw[if_neg ⋯]
 exact h
def xa(b:Bool)(pts:List (List Int))(j:Int):D:=((cz (aY b pts))[(j-1).toNat]?).getD .bC
def pH:bz:=λds Q=>∃b n pts j,ds=[cy pts,cO b,.int j]/\Good n pts/\pts.length<=1000/\1<=j/\Q (.sh (xa b pts j))
theorem Ta(ds:List D)(Q:B->Prop)(h:pH ds Q):NY fX pK {nx:=λ_=>Q (.sh .bC),rt:=λb _=>Q b} (aW GY.length ds):=by
 obtain⟨b,n,pts,j,rfl,hg,hl,hj,h⟩:=h;unfold NY;refine ao λN hN=>?_;walk_at "vx";refine⟨b,n,pts,rfl,hg,hl,?_⟩;walk_at "vx";subst hN;refine ao λN hN=>?_;walk_at "vx";refine⟨j,rfl,hj,?_⟩;walk_at "vx";subst hN;walk_at "vx";unfold xa at h
 split
 ·rw[List.getElem?_eq_none ⋯]at h
  exact h
 ·have hi:(j-1).toNat<(cz (aY b pts)).length:=by omega
  rw[List.getElem?_eq_getElem hi]at h;exact b9 (n:=(j-1).toNat) ⋯ (List.getElem?_eq_getElem hi) h
def jM(t:Int×Nat×Nat):D:=.tup [.int t.1,.int (t.2.1:Nat),.int (t.2.2:Nat)]
theorem Cv{b:Bool}{pts:List (List Int)}:∀l:List D,(∀d∈l,∃i j,d=pairD b pts i j)->∃ts:List (Int×Nat×Nat),l=ts.map jM
 | [],_=>⟨[],rfl⟩
 | d::l,h=>by
  obtain⟨i,j,rfl⟩:=h d (List.mem_cons_self ..);obtain⟨ts,e⟩:=Cv l λx hx=>h x (List.mem_cons_of_mem _ hx);exact⟨(_,i,j)::ts,by rw[e];rfl⟩
theorem Bj(b:Bool)(pts:List (List Int)):∃ts:List (Int×Nat×Nat),aY b pts=ts.map jM:=Cv (b:=b) (pts:=pts) _ λd hd=>by
 obtain⟨p,q,_,_,h⟩:=cc hd;exact⟨p,q,h⟩
theorem nN(b:Bool)(pts:List (List Int)):∃ts:List (Int×Nat×Nat),cz (aY b pts)=ts.map jM:=Cv (b:=b) (pts:=pts) _ λd hd=>by
 obtain⟨p,q,_,_,h⟩:=cc ((bH _).mem_iff.mp hd);exact⟨p,q,h⟩
def nearF(bound:Int):D->Option D
 | .tup [.int f,.int i,.int j]=>if f<=bound then some (.tup [.int i,.int j])else none
 | _=>none
theorem fx(bound:Int)(t:Int×Nat×Nat):nearF bound (jM t)=if decide (t.1<=bound)=true then some (.tup [.int (t.2.1:Nat),.int (t.2.2:Nat)])else none:=by
 show(if t.1<=bound then _ else _)=_
 by_cases h:t.1<=bound
 ·rw[if_pos h,if_pos (decide_eq_true h)]
 ·rw[if_neg h,if_neg (by rw[decide_eq_false h];decide)]
def bD(b:Bool)(pts:List (List Int))(bound:Int):List D:=(aY b pts).filterMap (nearF bound)
def OX(b:Bool)(pts:List (List Int))(d d':D):Prop:=∃i j i' j':Nat,d=pairD b pts i j/\d'=pairD b pts i' j'/\(i<i'\/(i=i'/\j<j'))
theorem BI(b:Bool)(pts:List (List Int))(i:Nat):∀m,(fj b pts i m).Pairwise (OX b pts)
 | 0=>List.Pairwise.nil
 | m+1=>by
  rw[nL];refine List.pairwise_append.mpr ⟨BI b pts i m,List.pairwise_singleton ..,λx hx y hy=>?_⟩;rw[List.mem_singleton.mp hy];obtain⟨t,ht,rfl⟩:=List.mem_map.mp hx;have:=List.mem_range.mp ht;exact⟨i,i+1+t,i,i+1+m,rfl,rfl,.inr ⟨rfl,by omega⟩⟩
theorem vN(b:Bool)(pts:List (List Int)):∀i,(cQ b pts i).Pairwise (OX b pts)
 | 0=>List.Pairwise.nil
 | i+1=>by
  refine List.pairwise_append.mpr ⟨vN b pts i,BI b pts i _,λx hx y hy=>?_⟩;obtain⟨p,q,h1,_,_,rfl⟩:=lR hx;obtain⟨t,_,rfl⟩:=List.mem_map.mp hy;exact⟨p,q,i,i+1+t,rfl,rfl,.inl h1⟩
theorem rA(b:Bool)(pts:List (List Int))(bound:Int):(bD b pts bound).Pairwise λx y=>kq x y=true:=by
 unfold bD;rw[List.pairwise_filterMap];refine(vN b pts pts.length).imp λ{x y} h u hu v hv=>?_;obtain⟨i,j,i',j',rfl,rfl,h⟩:=h;have e1:u=.tup [.int (i:Nat),.int (j:Nat)]:=by
  have:(if bT b (pts.getD i []) (pts.getD j [])<=bound then some (D.tup [.int (i:Nat),.int (j:Nat)])else none)=some u:=hu
  split at this
  ·exact(Option.some.inj this).symm
  ·cases this
 have e2:v=.tup [.int (i':Nat),.int (j':Nat)]:=by
  have:(if bT b (pts.getD i' []) (pts.getD j' [])<=bound then some (D.tup [.int (i':Nat),.int (j':Nat)])else none)=some v:=hv
  split at this
  ·exact(Option.some.inj this).symm
  ·cases this
 subst e1 e2;unfold kq;show(!HT.lexLt [(i':Int),(j':Int)] [(i:Int),(j:Int)])=true;rw[HT.b5,HT.b5]
 by_cases e:(i':Int)=(i:Int)
 ·rw[if_pos e,if_neg ⋯,decide_eq_false ⋯];rfl
 ·rw[if_neg e,decide_eq_false ⋯];rfl
theorem nC(b:Bool)(pts:List (List Int))(bound:Int):(bD b pts bound).all eO=true:=List.all_eq_true.mpr λd hd=>by
 obtain⟨x,hx,h⟩:=List.mem_filterMap.mp hd;obtain⟨p,q,_,_,rfl⟩:=cc hx;have:(if bT b (pts.getD p []) (pts.getD q [])<=bound then some (D.tup [.int (p:Nat),.int (q:Nat)])else none)=some d:=h
 split at this
 ·cases this;rfl
 ·cases this
theorem A3(b:Bool)(pts:List (List Int))(bound:Int):cz ((cz (aY b pts)).filterMap (nearF bound))=bD b pts bound:=by
 have hp:((cz (aY b pts)).filterMap (nearF bound)).Perm (bD b pts bound):=(bH _).filterMap _;have all:((cz (aY b pts)).filterMap (nearF bound)).all eO=true:=List.all_eq_true.mpr λd hd=>List.all_eq_true.mp (nC b pts bound) d (hp.mem_iff.mp hd);exact(rV all hp.symm (rA b pts bound)).symm
theorem lr(b:Bool)(pts:List (List Int))(bound:Int):(bD b pts bound).length<=(aY b pts).length:=List.length_filterMap_le _ _
def jC:bz:=λds Q=>∃j:Int,ds=[.int j]/\0<=j/\Q (.sh .bC)
theorem Bf(ds:List D)(Q:B->Prop)(h:jC ds Q):Cb {nx:=λ_=>Q (.sh .bC),rt:=λb _=>Q b} (aW yg.length ds):=by
 obtain⟨j,rfl,hj,h⟩:=h;unfold Cb;walk_at "vx";rw[if_neg ⋯]
 exact h
def dG:bz:=λds Q=>∃b n pts j,ds=[cy pts,cO b,.int j]/\Good n pts/\pts.length<=1000/\0<=j/\Q (.own (bD b pts j))
theorem LO(ds:List D)(Q:B->Prop)(h:dG ds Q):Ca jF jC fB {nx:=λ_=>Q (.sh .bC),rt:=λb _=>Q b} (aW yf.length ds):=by
 obtain⟨b,n,pts,j,rfl,hg,hl,hj,h⟩:=h;unfold Ca;refine ao λN hN=>?_;walk_at "vx";refine⟨n,b,pts,rfl,hg.shape,?_⟩;walk_at "vx";subst hN;refine ao λN hN=>?_;walk_at "vx";refine⟨j,rfl,hj,?_⟩;walk_at "vx";subst hN;walk_at "vx";refine⟨b,n,pts,rfl,hg,hl,?_⟩;walk_at "vx";have hz:=eC (b:=b) hl;obtain⟨ts,e⟩:=Bj b pts;unfold bD at h;rw[e]at h hz ⊢;rw[List.length_map]at hz;refine fq jM (λt=>nearF j (jM t)) ts (λt ht A Bn ha=>?_) (by rw[sz];omega) ?_
 ·rw[fx]at ha
  unfold jM;walk_at "vx"
  by_cases hb:t.1<=j
  ·rw[if_pos (decide_eq_true hb)]at ha
   refine(if_pos hb).mpr ⟨by decide,ha⟩
  ·rw[if_neg (by rw[decide_eq_false hb];decide)]at ha
   exact(if_neg hb).mpr ha
 ·rw[List.filterMap_map]at h
  exact h
def pI:bz:=λds Q=>∃b n pts j,ds=[cy pts,cO b,.int j]/\Good n pts/\pts.length<=1000/\0<=j/\Q (.sh (.int ((bD b pts j).length:Nat)))
theorem LK(ds:List D)(Q:B->Prop)(h:pI ds Q):NZ dG {nx:=λ_=>Q (.sh .bC),rt:=λb _=>Q b} (aW GZ.length ds):=by
 obtain⟨b,n,pts,j,rfl,hg,hl,hj,h⟩:=h;unfold NZ;walk_at "vx";refine⟨b,n,pts,j,rfl,hg,hl,hj,?_⟩;walk_at "vx";exact h
def jk(k:Nat):D->Bool
 | .tup [.int i,.int j]=>decide (i=k)||decide (j=k)
 | _=>false
def A2(bound:Int)(k:Nat)(d:D):Bool:=((nearF bound d).map (jk k)).getD false
def eM(n:Nat)(c:Nat->Nat):List D:=(List.range n).map λk=>.int (c k:Nat)
theorem kP(n:Nat)(c:Nat->Nat):(eM n c).length=n:=by unfold eM;rw[List.length_map,List.length_range]
theorem hE{n k:Nat}(c:Nat->Nat)(h:k<n):(eM n c)[k]?=some (.int (c k:Nat)):=by
 unfold eM;rw[List.getElem?_map,List.getElem?_range h];rfl
theorem qk{n k:Nat}(c:Nat->Nat)(m:Nat)(h:k<n):(eM n c).set k (.int (m:Nat))=eM n λx=>if x=k then m else c x:=by
 apply List.ext_getElem?;intro i
 by_cases hi:i<n
 ·rw[hE _ hi]
  by_cases e:i=k
  ·subst e
   rw[List.getElem?_set_self (by rw[kP];exact hi),if_pos rfl]
  ·rw[List.getElem?_set_ne (Ne.symm e),hE _ hi,if_neg e]
 ·rw[List.getElem?_eq_none (by rw[List.length_set,kP];omega),List.getElem?_eq_none (by rw[kP];omega)]
theorem gG{n:Nat}{c c':Nat->Nat}(h:∀k,k<n->c k=c' k):eM n c=eM n c':=by
 unfold eM;refine List.map_congr_left λk hk=>?_;rw[h k (List.mem_range.mp hk)]
def fL(b:Bool)(pts:List (List Int))(bound:Int):List D:=eM pts.length λk=>(aY b pts).countP (A2 bound k)
theorem Dt{n i j:Nat}(c:Nat->Nat)(hi:i<n)(hj:j<n)(kA:i≠j)(e:Nat):
  ((eM n c).set i (.int ((c i+e:Nat):Int))).set j (.int ((c j+e:Nat):Int))=eM n λx=>c x+if x=i\/x=j then e else 0:=by
 rw[qk c _ hi,qk _ _ hj];refine gG λk _=>?_
 by_cases h1:k=j
 ·subst h1;rw[if_pos rfl,if_pos (.inr rfl)]
 ·rw[if_neg h1]
  by_cases h2:k=i
  ·subst h2;rw[if_pos rfl,if_pos (.inl rfl)]
  ·rw[if_neg h2,if_neg ⋯,Nat.add_zero]
def jB:bz:=λds Q=>∃b n pts j,ds=[cy pts,cO b,.int j]/\Good n pts/\pts.length<=1000/\0<=j/\Q (.own (fL b pts j))
theorem fQ(b:Bool)(pts:List (List Int))(bound:Int):∃ps:List (Nat×Nat),bD b pts bound=ps.map (λp=>D.tup [.int (p.1:Nat),.int (p.2:Nat)])/\∀p∈ps,p.1<p.2/\p.2<pts.length:=by
 have:∀l:List D,(∀d∈l,∃p:Nat×Nat,d=.tup [.int (p.1:Nat),.int (p.2:Nat)]/\p.1<p.2/\p.2<pts.length)->∃ps:List (Nat×Nat),l=ps.map (λp=>D.tup [.int (p.1:Nat),.int (p.2:Nat)])/\∀p∈ps,p.1<p.2/\p.2<pts.length:=by
  intro l
  induction l with
  | nil=>intro _;exact⟨[],rfl,λp hp=>by cases hp⟩
  | cons d l ih =>
   intro h;obtain⟨p,rfl,hp⟩:=h d (List.mem_cons_self ..);obtain⟨ps,e,AH⟩:=ih λx hx=>h x (List.mem_cons_of_mem _ hx);refine⟨p::ps,by rw[e];rfl,λx hx=>?_⟩
   rcases List.mem_cons.mp hx with rfl|hx
   ·exact hp
   ·exact AH x hx
 refine this _ λd hd=>?_;obtain⟨x,hx,h⟩:=List.mem_filterMap.mp hd;obtain⟨p,q,h1,h2,rfl⟩:=cc hx;have:(if bT b (pts.getD p []) (pts.getD q [])<=bound then some (D.tup [.int (p:Nat),.int (q:Nat)])else none)=some d:=h
 split at this
 ·exact⟨(p,q),(Option.some.inj this).symm,h1,h2⟩
 ·cases this
theorem lq(b:Bool)(pts:List (List Int))(bound:Int)(k:Nat):(bD b pts bound).countP (jk k)=(aY b pts).countP (A2 bound k):=by
 unfold bD;rw[List.countP_filterMap];rfl
theorem u9(k i j:Nat):jk k (.tup [.int (i:Nat),.int (j:Nat)])=decide (k=i\/k=j):=by
 show(decide ((i:Int)=(k:Int))||decide ((j:Int)=(k:Int)))=_
 by_cases h1:k=i
 ·subst h1;rw[decide_eq_true rfl,Bool.true_or,decide_eq_true (.inl rfl)]
 ·rw[decide_eq_false ⋯,Bool.false_or]
  by_cases h2:k=j
  ·subst h2;rw[decide_eq_true rfl,decide_eq_true (.inr rfl)]
  ·rw[decide_eq_false ⋯,decide_eq_false ⋯]
theorem Be(ds:List D)(Q:B->Prop)(h:jB ds Q):B2 dG {nx:=λ_=>Q (.sh .bC),rt:=λb _=>Q b} (aW xX.length ds):=by
 obtain⟨b,n,pts,bd,rfl,hg,hl,hj,h⟩:=h;unfold B2;refine ao λN hN=>?_;rw[show cy pts=.lst (pts.map cF)from rfl]
 walk_at "vx";refine bL cF (λ_=>.int 0) pts (λp hp A ha=>?_) (by rw[sz];omega) ?_
 ·walk_at "vx"
  exact ha
 rw[show pts.map (λ_=>D.int 0)=eM pts.length λ_=>0 from by unfold eM;rw[List.map_const',List.map_const',List.length_range];rfl]
 subst hN
 try dsimp only
 refine ao λN hN=>?_;walk_at "vx";refine⟨b,n,pts,bd,rfl,hg,hl,hj,?_⟩;obtain⟨ps,e,AH⟩:=fQ b pts bd;have hc:=lq b pts bd;rw[e]at hc ⊢;walk_at "vx";refine di (λp:Nat×Nat=>D.tup [.int (p.1:Nat),.int (p.2:Nat)]) ps (λi σ=>∃x4 x5,σ=[some (.sh (.lst (pts.map cF))),some (.sh (cO b)),some (.sh (.int bd)),some (.own (eM pts.length λk=>((ps.take i).map λp:Nat×Nat=>D.tup [.int (p.1:Nat),.int (p.2:Nat)]).countP (jk k))),x4,x5]) (λi p σ N' hx hI qS=>?_) (λσ hI=>?_) ⟨none,none,rfl⟩
 ·obtain⟨x4,x5,rfl⟩:=hI
  obtain⟨h1,h2⟩:=AH p (List.mem_of_getElem? hx);obtain⟨p1,p2⟩:=p;have h1:p1<p2:=h1;have h2:p2<pts.length:=h2;walk_at "vg";walk_at "vx";have hs:∀k,((ps.take (i+1)).map λp:Nat×Nat=>D.tup [.int (p.1:Nat),.int (p.2:Nat)]).countP (jk k)=((ps.take i).map λp:Nat×Nat=>D.tup [.int (p.1:Nat),.int (p.2:Nat)]).countP (jk k)+if k=p1\/k=p2 then 1 else 0:=λk=>by
   rw[List.take_add_one,hx,List.map_append,List.countP_append];congr 1;show [D.tup [.int (p1:Nat),.int (p2:Nat)]].countP (jk k)=_;rw[List.countP_singleton,u9]
   by_cases hk:k=p1\/k=p2
   ·rw[if_pos hk,if_pos (decide_eq_true hk)]
   ·rw[if_neg hk,if_neg (by rw[decide_eq_false hk];decide)]
  obtain⟨c,ec⟩:∃c:Nat->Nat,c=λk=>((ps.take i).map λp:Nat×Nat=>D.tup [.int (p.1:Nat),.int (p.2:Nat)]).countP (jk k):=⟨_,rfl⟩;have gT:(eM pts.length λk=>((ps.take (i+1)).map λp:Nat×Nat=>D.tup [.int (p.1:Nat),.int (p.2:Nat)]).countP (jk k))=eM pts.length λk=>c k+if k=p1\/k=p2 then 1 else 0:=gG λk _=>by rw[hs k,ec]
  rw[<- ec];rw[Int.toNat_natCast,Int.toNat_natCast,hE _ (show p1<pts.length by omega)]
  dsimp only;rw[List.getElem?_set_ne ⋯,hE _ h2]
  dsimp only;refine⟨⟨_,rfl⟩,by omega,⟨_,rfl⟩,by omega,qS _ ⟨some (.sh (.int (p1:Nat))),some (.sh (.int (p2:Nat))),?_⟩⟩
  rw[gT,<- Dt c (show p1<pts.length by omega) h2 ⋯ 1]
  rfl
 ·obtain⟨x4,x5,rfl⟩:=hI
  subst hN;walk_at "vx";unfold fL at h;rw[List.take_length];rw[gG λk _=>hc k];exact h
def jA:jP:=λxs ds Q=>cf xs/\∃b pts,ds=[.lst (cz (aY b pts)),.int 0]/\pts.length<=1000/\∀(js:List Int) ys,(∀j∈js,0<=j)->1<=js.length->js.length<=3000000->cf ys->Q (.own (js.map D.int)) ys
theorem Bc(xs ds:List D)(Q:B->List D->Prop)(h:jA xs ds Q):B6 fY {nx:=tT Q (.sh .bC),rt:=λb σ=>tT Q b σ} (bB yb.length xs ds):=by
 obtain⟨r0,b,pts,rfl,hl,h⟩:=h;have hz:=eC (b:=b) hl;have Oz:=(bH (aY b pts)).length_eq;obtain⟨ts,e⟩:=nN b pts;rw[e]at Oz ⊢;rw[List.length_map]at Oz;unfold B6
 -- far
 refine ao λN hN=>?_;walk_at "vx";rw[List.length_map];refine⟨by decide,by decide,by rw[sz];omega,⟨_,rfl⟩,r0,_,rfl,by omega,by omega,λa1 x1 Pk X0 r1=>?_⟩
 walk_at "vx";refine cL Pk (by rw[List.length_cons,List.length_map];omega) λd hd=>?_
 obtain⟨CV,i,j,rfl⟩:∃f i j,d=.tup [.int f,.int i,.int j]:=by
  rcases List.mem_cons.mp hd with rfl|hd
  ·exact⟨_,_,_,rfl⟩
  ·obtain⟨t,_,rfl⟩:=List.mem_map.mp hd
   exact⟨_,_,_,rfl⟩
 refine jo (n:=0) rfl rfl ?_;walk_at "vx";subst hN
 -- ends
 refine ao λN hN=>?_;walk_at "vx";rw[fM,fM,<- List.map_append];have Oq:=oo ts none (some 1);have Gi:=oo ts (some (-1)) none;rw[List.length_map,List.length_map];refine⟨by rw[sz];omega,?_⟩
 refine bL jM (λt=>.int t.1) _ (λt ht A ha=>?_) (by rw[List.length_append,sz];omega) ?_
 ·unfold jM
  walk_at "vx";refine jo (n:=0) rfl rfl ?_;walk_at "vx";exact ha
 walk_at "vx";generalize Yl:(cut ts none (some 1)++cut ts (some (-1)) none)=en;have hel:en.length<=2000000:=by rw[<- Yl,List.length_append];omega
 clear Yl Oq Gi;subst hN
 -- some
 refine ao λN hN=>?_;walk_at "vx";refine⟨⟨_,rfl⟩,r1,12,rfl,by decide,by decide,λa2 x2 _ _ r2=>?_⟩
 walk_at "vx";refine⟨⟨_,rfl⟩,by unfold mG;decide,r2,_,rfl,by decide,by decide,λa3 x3 _ _ r3=>?_⟩
 walk_at "vx";refine⟨by unfold mG;decide,by decide,?_⟩
 subst hN
 -- what is told
 walk_at "vx";rw[List.length_map];refine⟨by rw[sz];omega,?_⟩
 rw[show(D.int 0::D.int (0+1)::D.int a2::D.int CV::D.int (CV+1)::D.int (CV-1)::D.int a3::D.int (10^Int.toNat 34-1)::List.map (λt:Int×Nat×Nat=>D.int t.1) en)=(0::(0+1)::a2::CV::(CV+1)::(CV-1)::a3::(10^Int.toNat 34-1)::en.map λt=>t.1).map D.int from by simp only[List.map_cons,List.map_map];rfl]
 refine bL D.int (λj=>D.int (if(if j<10^Int.toNat 34-1 then j else 10^Int.toNat 34-1)>0 then(if j<10^Int.toNat 34-1 then j else 10^Int.toNat 34-1)else 0)) _ (λj hj A ha=>?_) (by simp only[List.length_cons,List.length_map];rw[sz];omega) ?_
 ·walk_at "vx"
  exact⟨by unfold mG;decide,ha⟩
 ·have:=h ((0::(0+1)::a2::CV::(CV+1)::(CV-1)::a3::(10^Int.toNat 34-1)::en.map λt=>t.1).map λj=>(if(if j<10^Int.toNat 34-1 then j else 10^Int.toNat 34-1)>0 then(if j<10^Int.toNat 34-1 then j else 10^Int.toNat 34-1)else 0)) x3 (λj hj=>by
   obtain⟨i,_,rfl⟩:=List.mem_map.mp hj
   split<;>omega) (by simp) (by simp only[List.length_map,List.length_cons];omega) r3
  rw[List.map_map]at this;exact this
def MO(nr:Int->Int->Bool):Nat->List Int->List Int
 | 0,_=>[]
 | _+1,[]=>[]
 | k+1,x::r=>if(MO nr k r).length<=(x::MO nr k (r.filter λy=>!nr x y)).length then x::MO nr k (r.filter λy=>!nr x y)else MO nr k r
theorem nV(nr:Int->Int->Bool):∀(k:Nat) (l:List Int),l.length<=k->l.Pairwise (λx y:Int=>x<y) ->
  (MO nr k l).Sublist l/\(MO nr k l).Pairwise (λx y=>nr x y=false)/\∀qs:List Int,qs.Sublist l->qs.Pairwise (λx y=>nr x y=false)->qs.length<=(MO nr k l).length/\(qs.length=(MO nr k l).length->HT.lexLt qs (MO nr k l)=false)
 | 0,l,h,_=>by
  have:l=[]:=List.length_eq_zero_iff.mp ⋯
  subst this;refine⟨List.Sublist.refl _,List.Pairwise.nil,λqs hq _=>?_⟩;have:=List.eq_nil_of_sublist_nil hq;subst this;exact⟨Nat.le_refl _,λ_=>rfl⟩
 | k+1,[],_,_=>by
  refine⟨List.Sublist.refl _,List.Pairwise.nil,λqs hq _=>?_⟩;have:=List.eq_nil_of_sublist_nil hq;subst this;exact⟨Nat.le_refl _,λ_=>rfl⟩
 | k+1,x::r,h,hp=>by
  rw[List.length_cons]at h;rw[List.pairwise_cons]at hp;have hfl:(r.filter λy=>!nr x y).length<=r.length:=List.length_filter_le _ _;have Ym:(r.filter λy=>!nr x y).Sublist r:=List.filter_sublist;obtain⟨s1,p1,b1⟩:=nV nr k (r.filter λy=>!nr x y) ⋯ (hp.2.sublist Ym)
  obtain⟨s2,p2,b2⟩:=nV nr k r ⋯ hp.2
  have pt:(x::MO nr k (r.filter λy=>!nr x y)).Pairwise (λx y=>nr x y=false):=by
   rw[List.pairwise_cons];refine⟨λy hy=>?_,p1⟩;have:=(List.mem_filter.mp (s1.subset hy)).2;simpa using this
  have key:∀qs:List Int,qs.Sublist (x::r)->qs.Pairwise (λx y=>nr x y=false)->(qs.Sublist r\/∃q',qs=x::q'/\q'.Sublist (r.filter λy=>!nr x y)/\q'.Pairwise (λx y=>nr x y=false)):=by
   intro qs hq hi;cases hq with
   | cons _ hq=>exact .inl hq
   | cons_cons _ hq =>
    rename_i q';rw[List.pairwise_cons]at hi;refine .inr ⟨q',rfl,?_,hi.2⟩;have:q'.filter (λy=>!nr x y)=q':=List.filter_eq_self.mpr λy hy=>by rw[hi.1 y hy];rfl
    rw[<- this];exact hq.filter _
  show(if(MO nr k r).length<=(x::MO nr k (r.filter λy=>!nr x y)).length then x::MO nr k (r.filter λy=>!nr x y)else MO nr k r).Sublist (x::r)/\_
  rw[show MO nr (k+1) (x::r)=if(MO nr k r).length<=(x::MO nr k (r.filter λy=>!nr x y)).length then x::MO nr k (r.filter λy=>!nr x y)else MO nr k r from rfl]
  by_cases hc:(MO nr k r).length<=(x::MO nr k (r.filter λy=>!nr x y)).length
  ·rw[if_pos hc]
   refine⟨(s1.trans Ym).cons_cons x,pt,λqs hq hi=>?_⟩;rcases key qs hq hi with h1|⟨q',rfl,h1,h2⟩
   ·obtain⟨c1,c2⟩:=b2 qs h1 hi
    refine⟨by omega,λe=>?_⟩
    cases qs with
    | nil=>simp at e
    | cons q qs =>
     have:x<q:=hp.1 q (h1.subset (List.mem_cons_self ..));rw[HT.b5,if_neg ⋯,decide_eq_false ⋯]
   ·obtain⟨c1,c2⟩:=b1 q' h1 h2
    rw[List.length_cons,List.length_cons];refine⟨by omega,λe=>?_⟩
    rw[HT.b5,if_pos rfl];exact c2 ⋯
  ·rw[if_neg hc]
   refine⟨s2.cons x,p2,λqs hq hi=>?_⟩;rcases key qs hq hi with h1|⟨q',rfl,h1,h2⟩
   ·exact b2 qs h1 hi
   ·obtain⟨c1,c2⟩:=b1 q' h1 h2
    rw[List.length_cons]at hc ⊢;exact⟨by omega,λe=>by omega⟩
def pl(n b:Nat):List Int:=((List.range n).filter λi=>b.testBit i).map λi:Nat=>(i:Int)
def df(n:Nat):List Int:=(List.range n).map λi:Nat=>(i:Int)
theorem o5(n:Nat):(df n).Pairwise λx y:Int=>x<y:=by
 unfold df;rw[List.pairwise_map];exact List.pairwise_lt_range.imp λh=>by omega
theorem rh{b:Bool}{pts:List (List Int)}{i j:Nat}(kA:i<j)(hj:j<pts.length):∀m,i<m->pairD b pts i j∈cQ b pts m
 | m+1,h=>by
  show _∈cQ b pts m++fj b pts m (pts.length-(m+1))
  by_cases e:i=m
  ·subst e
   exact List.mem_append_right _ (List.mem_map.mpr ⟨j-(i+1),List.mem_range.mpr ⋯,by rw[show i+1+(j-(i+1))=j by omega]⟩)
  ·exact List.mem_append_left _ (rh kA hj m ⋯)
theorem xc{b:Bool}{pts:List (List Int)}{i j:Nat}(kA:i<j)(hj:j<pts.length):pairD b pts i j∈aY b pts:=rh kA hj _ ⋯
def OI(b:Bool)(pts:List (List Int))(bd x y:Int):Bool:=decide (0<=x/\x<y/\y<pts.length/\bT b (pts.getD x.toNat []) (pts.getD y.toNat [])<=bd)
theorem lx{b:Bool}{pts:List (List Int)}{bd:Int}{i j:Nat}:D.tup [.int (i:Nat),.int (j:Nat)]∈bD b pts bd ↔ i<j/\j<pts.length/\bT b (pts.getD i []) (pts.getD j [])<=bd:=by
 unfold bD;rw[List.mem_filterMap];constructor
 ·rintro⟨x,hx,h⟩
  obtain⟨p,q,h1,h2,rfl⟩:=cc hx;have:(if bT b (pts.getD p []) (pts.getD q [])<=bd then some (D.tup [.int (p:Nat),.int (q:Nat)])else none)=some (D.tup [.int (i:Nat),.int (j:Nat)]):=h
  split at this
  ·rename_i hf
   simp only[Option.some.injEq,D.tup.injEq,List.cons.injEq,D.int.injEq,and_true]at this;obtain⟨e1,e2⟩:=this;have e1:p=i:=by omega
   have e2:q=j:=by omega
   subst e1 e2;exact⟨h1,h2,hf⟩
  ·cases this
 ·rintro⟨h1,h2,hf⟩
  refine⟨pairD b pts i j,xc h1 h2,?_⟩;show(if bT b (pts.getD i []) (pts.getD j [])<=bd then some (D.tup [.int (i:Nat),.int (j:Nat)])else none)=_
  rw[if_pos hf]
def i6:Nat->bz
 | 0=>λ_ _=>False
 | k+1=>λds Q=>∃(l:List Int) (kvs:List (D×D)),ds=[.lst (l.map D.int),.dct kvs]/\l.length<=k/\k<=1000/\Q (.own ((MO (λx y=>(cK kvs (.tup [.int x,.int y])).isSome) k l).map D.int))
theorem y0{α:Type}{xs:List α}{n:Nat}(h:n<=xs.length):cut xs (some (n:Int)) none=xs.drop n:=by
 unfold cut;rw[HT.rS,HT.vO,Nat.min_eq_left h,List.take_of_length_le (by rw[List.length_drop];omega)]
theorem y6{α:Type}(x:α)(r:List α):cut (x::r) (some 1) none=r:=by
 have:=y0 (xs:=x::r) (n:=1) (by simp)
 exact this
theorem nW(nr:Int->Int->Bool):∀(k:Nat) (l:List Int),(MO nr k l).length<=l.length
 | 0,l=>Nat.zero_le _
 | k+1,[]=>Nat.le_refl _
 | k+1,x::r=>by
  have h1:=nW nr k r;have h2:=nW nr k (r.filter λy=>!nr x y);have h3:(r.filter λy=>!nr x y).length<=r.length:=List.length_filter_le _ _;rw[show MO nr (k+1) (x::r)=if(MO nr k r).length<=(x::MO nr k (r.filter λy=>!nr x y)).length then x::MO nr k (r.filter λy=>!nr x y)else MO nr k r from rfl]
  split
  ·rw[List.length_cons,List.length_cons];omega
  ·rw[List.length_cons];omega
theorem LL(k:Nat)(ds:List D)(Q:B->Prop)(h:i6 (k+1) ds Q):Cp (i6 k) {nx:=λ_=>Q (.sh .bC),rt:=λb _=>Q b} (aW yp.length ds):=by
 obtain⟨l,kvs,rfl,hl,hk,h⟩:=h;unfold Cp;refine ao λN hN=>?_;walk_at "vx";cases l with
 | nil =>
  refine(if_pos rfl).mpr ⟨by decide,?_⟩
  have e:MO (λx y=>(cK kvs (.tup [.int x,.int y])).isSome) k []=[]:=by cases k<;>rfl
  rw[e]at h;exact h
 | cons x r =>
 refine(if_neg (by intro z;cases z)).mpr ?_
 obtain⟨k,rfl⟩:∃k',k=k'+1:=⟨k-1,by rw[List.length_cons]at hl;omega⟩
 rw[List.length_cons]at hl;subst hN;refine ao λN hN=>?_;walk_at "vx";refine b9 (n:=0) rfl (by rfl) ?_
 subst hN;refine ao λN hN=>?_;walk_at "vx";rw[y6];subst hN;refine ao λN hN=>?_;walk_at "vx";have hz:r.length<=sizeLine:=by rw[sz];omega
 refine⟨by decide,fq D.int (λy=>if(cK kvs (.tup [.int x,.int y])).isSome=true then none else some (D.int y)) r (λy hy A Bn ha=>?_) hz ?_⟩
 ·walk_at "vx"
  refine⟨by decide,rfl,?_⟩
  by_cases hd:(cK kvs (.tup [.int x,.int y])).isSome=true
  ·rw[if_pos hd]at ha
   exact(if_neg (by rw[hd];decide)).mpr ha
  ·rw[if_neg hd]at ha
   exact(if_pos (by simpa using hd)).mpr ha
 ·rw[show(r.filterMap λy=>if(cK kvs (.tup [.int x,.int y])).isSome=true then none else some (D.int y))=(r.filter λy=>!(cK kvs (.tup [.int x,.int y])).isSome).map D.int from by
   clear hz hl h
   induction r with
   | nil=>rfl
   | cons y r ih =>
    rw[List.filterMap_cons,List.filter_cons];cases hd:(cK kvs (.tup [.int x,.int y])).isSome with
    | true=>simp only[if_true,Bool.not_true,Bool.false_eq_true,if_false];exact ih
    | false=>simp only[Bool.false_eq_true,if_false,Bool.not_false,if_true,List.map_cons];rw[ih]]
  have hf:(r.filter λy=>!(cK kvs (.tup [.int x,.int y])).isSome).length<=r.length:=List.length_filter_le _ _;refine⟨_,kvs,rfl,by omega,by omega,?_⟩
  try walk_at "vx"
  have m1:=nW (λx y=>(cK kvs (.tup [.int x,.int y])).isSome) k (r.filter λy=>!(cK kvs (.tup [.int x,.int y])).isSome);refine⟨by rw[List.length_map,sz];show 1+_<=_;omega,?_⟩
  subst hN;refine ao λN hN=>?_;walk_at "vx";refine⟨r,kvs,rfl,by omega,by omega,?_⟩
  try walk_at "vx"
  subst hN;walk_at "vx";have e:MO (λx y=>(cK kvs (.tup [.int x,.int y])).isSome) (k+1) (x::r)=if(MO (λx y=>(cK kvs (.tup [.int x,.int y])).isSome) k r).length<=(x::MO (λx y=>(cK kvs (.tup [.int x,.int y])).isSome) k (r.filter λy=>!(cK kvs (.tup [.int x,.int y])).isSome)).length then x::MO (λx y=>(cK kvs (.tup [.int x,.int y])).isSome) k (r.filter λy=>!(cK kvs (.tup [.int x,.int y])).isSome)else MO (λx y=>(cK kvs (.tup [.int x,.int y])).isSome) k r:=rfl
  rw[e]at h;simp only[List.length_map,List.length_cons]at h ⊢
  split
  ·rename_i hc
   rw[if_pos ⋯]at h
   exact h
  ·rename_i hc
   rw[if_neg ⋯]at h
   exact h
def pJ:bz:=λds Q=>∃(pts:List (List Int)) (m:Nat),ds=[cy pts,.int (m:Int)]/\pts.length<=m/\Q (.sh .bC)
theorem LN(ds:List D)(Q:B->Prop)(h:pJ ds Q):N5 {nx:=λ_=>Q (.sh .bC),rt:=λb _=>Q b} (aW G1.length ds):=by
 obtain⟨pts,m,rfl,hm,h⟩:=h;unfold N5;rw[show cy pts=.lst (pts.map cF)from rfl]
 walk_at "vx";rw[List.length_map];exact(if_neg ⋯).mpr h
def xP(p:Nat×Nat):D:=.tup [.int (p.1:Nat),.int (p.2:Nat)]
theorem zH(kvs:List (D×D))(d v:D):(dput kvs d v).length<=kvs.length+1:=by
 unfold dput
 split
 ·rw[List.length_map];omega
 ·rw[List.length_append];exact Nat.le_refl _
theorem tI(x y x' y':Int):dD (.tup [.int x,.int y]) (.tup [.int x',.int y'])=decide (x=x'/\y=y'):=by
 have:=eA [.inl x,.inl y] [.inl x',.inl y'];rw[show([Sum.inl x,Sum.inl y]:List Key).map kD=[.int x,.int y]from rfl,show([Sum.inl x',Sum.inl y']:List Key).map kD=[.int x',.int y']from rfl]at this
 rw[this];simp
theorem qv(kvs:List (D×D))(d:D):(cK kvs d).isSome=kvs.any λkv=>dD kv.1 d:=by
 unfold cK;rw[Option.isSome_map,Bool.eq_iff_iff,List.find?_isSome,List.any_eq_true]
theorem zG(kvs:List (D×D))(x y x' y':Int)(v:D):(cK (dput kvs (.tup [.int x,.int y]) v) (.tup [.int x',.int y'])).isSome=((cK kvs (.tup [.int x',.int y'])).isSome||decide (x=x'/\y=y')):=by
 rw[qv,qv];unfold dput
 by_cases ha:(kvs.any λkv=>dD kv.1 (.tup [.int x,.int y]))=true
 ·rw[if_pos ha,List.any_map]
  rw[show((λkv:D×D=>dD kv.1 (.tup [.int x',.int y'])) ∘ λkv:D×D=>if dD kv.1 (.tup [.int x,.int y])=true then(kv.1,v)else kv)=λkv=>dD kv.1 (.tup [.int x',.int y'])from by
   funext kv;show dD (if dD kv.1 (.tup [.int x,.int y])=true then(kv.1,v)else kv).1 _=_
   split<;>rfl]
  by_cases e:x=x'/\y=y'
  ·obtain⟨rfl,rfl⟩:=e
   rw[ha,Bool.true_or]
  ·rw[decide_eq_false e,Bool.or_false]
 ·rw[if_neg ha,List.any_append]
  congr 1;show(dD _ _||false)=_
  rw[Bool.or_false,tI]
def l0:bz:=λds Q=>∃b n pts j,ds=[cy pts,cO b,.int j]/\Good n pts/\pts.length<=14/\0<=j/\Q (.own ((MO (OI b pts j) 14 (df pts.length)).map D.int))
theorem Ef(ds:List D)(Q:B->Prop)(h:l0 ds Q):B9 dG pJ (i6 15) {nx:=λ_=>Q (.sh .bC),rt:=λb _=>Q b} (aW ye.length ds):=by
 obtain⟨b,n,pts,j,rfl,hg,hm,h0,h⟩:=h;unfold B9;refine ao λN hN=>?_;walk_at "vx";refine⟨b,n,pts,j,rfl,hg,by omega,h0,?_⟩
 obtain⟨ps,e,AH⟩:=fQ b pts j;have wN:∀i k:Nat,(i,k)∈ps ↔ i<k/\k<pts.length/\bT b (pts.getD i []) (pts.getD k [])<=j:=λi k=>by
  rw[<- lx,e,List.mem_map];constructor
  ·intro hq;exact⟨(i,k),hq,rfl⟩
  ·rintro⟨⟨a,c⟩,hq,e⟩
   simp only[D.tup.injEq,List.cons.injEq,D.int.injEq,and_true]at e;obtain⟨e1,e2⟩:=e;have e1:a=i:=by omega
   have e2:c=k:=by omega
   subst e1 e2;exact hq
 have JM:=lr b pts j;have hzp:=eC (b:=b) (show pts.length<=1000 by omega)
 rw[e]at JM ⊢;rw[List.length_map]at JM
 try walk_at "vx"
 subst hN;refine ao λN hN=>?_;walk_at "vx";refine⟨pts,14,rfl,hm,?_⟩
 try walk_at "vx"
 subst hN;refine ao λN hN=>?_;walk_at "vx";subst hN;refine ao λN hN=>?_;walk_at "vx";refine di xP ps (λi σ=>∃kvs x5,σ=[some (.sh (cy pts)),some (.sh (cO b)),some (.sh (.int j)),some (.sh (.lst (ps.map xP))),some (.obj (CU kvs)),x5]/\kvs.length<=i/\∀x y:Int,(cK kvs (.tup [.int x,.int y])).isSome=(ps.take i).any λp=>decide ((p.1:Int)=x/\(p.2:Int)=y)) (λi p σ N' hx hI qS=>?_) (λσ hI=>?_) ⟨[],none,rfl,Nat.le_refl _,λ_ _=>rfl⟩
 ·obtain⟨kvs,x5,rfl,hi,hk⟩:=hI
  have ZN:i<ps.length:=(List.getElem?_eq_some_iff.mp hx).1;unfold xP;walk_at "vg";walk_at "vx";refine⟨⟨_,rfl⟩,kvs,_,rfl,rfl,by rw[sz];omega,qS _ ⟨_,_,rfl,Nat.le_trans (zH ..) ⋯,λx y=>?_⟩⟩
  rw[zG,hk x y,List.take_add_one,hx,List.any_append];show _=(_||(_||false))
  rw[Bool.or_false]
 ·obtain⟨kvs,x5,rfl,hi,hk⟩:=hI
  subst hN;rw[show cy pts=.lst (pts.map cF)from rfl]
  walk_at "vx";rw[List.length_map];refine⟨⟨by omega,by omega⟩,kvs,rfl,?_⟩
  rw[Int.toNat_natCast];refine⟨df pts.length,kvs,by unfold mO df;simp,by unfold df;rw[List.length_map,List.length_range];exact hm,by decide,?_⟩
  rw[show(λx y=>(cK kvs (.tup [.int x,.int y])).isSome)=OI b pts j from by
   funext x y;rw[hk,List.take_length];unfold OI;rw[Bool.eq_iff_iff,List.any_eq_true,decide_eq_true_eq];constructor
   ·rintro⟨⟨a,c⟩,hq,e⟩
    obtain⟨e1,e2⟩:=of_decide_eq_true e;have e1:(a:Int)=x:=e1;have e2:(c:Int)=y:=e2;obtain⟨h1,h2,h3⟩:=(wN a c).mp hq;subst e1 e2;rw[Int.toNat_natCast,Int.toNat_natCast];exact⟨by omega,by omega,by omega,h3⟩
   ·rintro⟨h1,h2,h3,h4⟩
    refine⟨(x.toNat,y.toNat),(wN _ _).mpr ⟨by omega,by omega,h4⟩,decide_eq_true ⟨?_,?_⟩⟩
    ·show((x.toNat:Nat):Int)=x;omega
    ·show((y.toNat:Nat):Int)=y;omega]
  exact h
theorem z0(b:Bool):bT b [] []=0:=rfl
theorem dI(b:Bool)(x y:Int)(p q:List Int):bT b (x::p) (y::q)=stepI b x y+bT b p q:=rfl
theorem EZ{b:Bool}{x y x' y':Int}(h:x'-y'=x-y\/x'-y'=y-x):stepI b x' y'=stepI b x y:=by
 unfold stepI;rcases h with h|h
 ·rw[h]
 ·rw[h,show y-x=-(x-y)by omega]
  rw[show fe (-(x-y))=fe (x-y)by unfold fe;split<;>split<;>omega]
theorem oB{b:Bool}{f:Int->Int}(h:∀x y,f x-f y=x-y\/f x-f y=y-x):∀p q:List Int,bT b (p.map f) (q.map f)=bT b p q
 | [],_=>rfl
 | _::_,[]=>rfl
 | x::p,y::q=>by
  rw[List.map_cons,List.map_cons,dI,dI,EZ (h x y),oB h p q]
theorem kU(b:Bool):∀p q p' q':List Int,p.length=q.length->bT b (p++p') (q++q')=bT b p q+bT b p' q'
 | [],[],p',q',_=>by rw[List.nil_append,List.nil_append,z0,Int.zero_add]
 | x::p,y::q,p',q',h=>by
  rw[List.cons_append,List.cons_append,dI,dI,kU b p q p' q' (by simpa using h),Int.add_assoc]
theorem u3(b:Bool):∀p q:List Int,p.length=q.length->bT b p.reverse q.reverse=bT b p q
 | [],[],_=>rfl
 | x::p,y::q,h=>by
  have h':p.length=q.length:=by simpa using h
  rw[List.reverse_cons,List.reverse_cons,kU b _ _ _ _ (by rw[List.length_reverse,List.length_reverse,h']),u3 b p q h',dI b x y p q]
  show _+(stepI b x y+0)=_;omega
theorem sq_nonneg(x:Int):0<=x*x:=by
 rcases Int.le_total 0 x with h|h
 ·exact Int.mul_nonneg h h
 ·have:=Int.mul_nonneg_of_nonpos_of_nonpos h h
  exact this
theorem r9(b:Bool)(x y:Int):0<=stepI b x y:=by
 cases b
 ·show 0<=fe (x-y)
  unfold fe;split<;>omega
 ·exact sq_nonneg _
theorem eN(b:Bool):∀p q:List Int,0<=bT b p q
 | [],_=>Int.le_refl _
 | _::_,[]=>Int.le_refl _
 | x::p,y::q=>by
  rw[dI];have:=r9 b x y;have:=eN b p q;omega
theorem map_getD{f:List Int->List Int}{pts:List (List Int)}{i:Nat}(h:i<pts.length):(pts.map f).getD i []=f (pts.getD i []):=by
 rw[List.getD_eq_getElem?_getD,List.getD_eq_getElem?_getD,List.getElem?_map,List.getElem?_eq_getElem h];rfl
theorem lU{b:Bool}{g:D->D}{pts xu:List (List Int)}(hl:xu.length=pts.length)(h:∀i j,i<pts.length->j<pts.length->pairD b xu i j=g (pairD b pts i j)):∀i,i<=pts.length->cQ b xu i=(cQ b pts i).map g
 | 0,_=>rfl
 | i+1,hi=>by
  show cQ b xu i++fj b xu i (xu.length-(i+1))=(cQ b pts i++fj b pts i (pts.length-(i+1))).map g;rw[lU hl h i ⋯,hl,List.map_append]
  congr 1;unfold fj;rw[List.map_map];refine List.map_congr_left λt ht=>?_;have:=List.mem_range.mp ht;exact h i (i+1+t) ⋯ ⋯
theorem xm{b:Bool}{f:List Int->List Int}{pts:List (List Int)}(h:∀p∈pts,∀q∈pts,bT b (f p) (f q)=bT b p q):aY b (pts.map f)=aY b pts:=by
 have hl:(pts.map f).length=pts.length:=List.length_map ..;unfold aY;rw[hl];refine(lU (g:=id) hl (λi j hi hj=>?_) _ (Nat.le_refl _)).trans (List.map_id _);unfold pairD;rw[map_getD hi,map_getD hj,h _ (getD_mem hi) _ (getD_mem hj)];rfl
theorem dP:∀(n:Nat) (x:D),bI n x=true->dD x x=true
 | _,.bC,_=>rfl
 | _,.bl b,_=>by simp [dD]
 | _,.int i,_=>by simp [dD]
 | _,.str s,_=>by simp [dD]
 | 0,.tup _,h=>by simp [bI]at h
 | 0,.lst _,h=>by simp [bI]at h
 | n+1,.tup xs,h=>by
  have h':xs.all (bI n)=true:=h;show kT xs xs=true
  induction xs with
  | nil=>rfl
  | cons x r ih =>
   rw[List.all_cons,Bool.and_eq_true]at h';show(dD x x&&kT r r)=true;rw[dP n x h'.1,ih (by show r.all (bI n)=true;exact h'.2) h'.2];rfl
 | n+1,.lst xs,h=>by
  have h':xs.all (bI n)=true:=h;show kT xs xs=true
  induction xs with
  | nil=>rfl
  | cons x r ih =>
   rw[List.all_cons,Bool.and_eq_true]at h';show(dD x x&&kT r r)=true;rw[dP n x h'.1,ih (by show r.all (bI n)=true;exact h'.2) h'.2];rfl
 | 0,.dct _,h=>by simp [bI]at h
 | 0,.exc _,h=>by simp [bI]at h
 | 0,.fk _,h=>by simp [bI]at h
 | n+1,.dct _,h=>by simp [bI]at h
 | n+1,.exc _,h=>by simp [bI]at h
 | n+1,.fk _,h=>by simp [bI]at h
 | _,.sT _,h=>by simp [bI]at h
 | _,.kp ..,h=>by simp [bI]at h
theorem D7(ps:List (Nat×Nat)):bI 8 (.lst (ps.map xP))=true:=List.all_eq_true.mpr λd hd=>by
 obtain⟨p,_,rfl⟩:=List.mem_map.mp hd;rfl
theorem bG(b:Bool)(pts:List (List Int))(j:Int):bI 8 (.lst (bD b pts j))=true:=by
 obtain⟨ps,e,_⟩:=fQ b pts j;rw[e];exact D7 ps
def pF:jP:=λxs ds Q=>cf xs/\∃b pts,ds=[.lst (cz (aY b pts))]/\pts.length<=1000/\∀(j:Int) ys,0<=j->(j<=9\/∃p q,p<q/\q<pts.length/\j<=bT b (pts.getD p []) (pts.getD q []))->cf ys->Q (.sh (.int j)) ys
theorem LI(xs ds:List D)(Q:B->List D->Prop)(h:pF xs ds Q):N0 fY {nx:=tT Q (.sh .bC),rt:=λb σ=>tT Q b σ} (bB G0.length xs ds):=by
 obtain⟨r0,b,pts,rfl,hl,h⟩:=h;have hz:=eC (b:=b) hl;have Oz:=(bH (aY b pts)).length_eq;unfold N0;refine ao λN hN=>?_;walk_at "vx";refine⟨by decide,by decide,by rw[sz];omega,⟨_,rfl⟩,r0,_,rfl,by omega,by omega,λa1 x1 Pk X0 r1=>?_⟩
 walk_at "vx";refine cL Pk (by rw[List.length_cons];omega) λd hd=>?_
 obtain⟨CV,i,j,rfl,hf⟩:∃f i j,d=.tup [.int f,.int i,.int j]/\(f=9\/∃p q,p<q/\q<pts.length/\f=bT b (pts.getD p []) (pts.getD q [])):=by
  rcases List.mem_cons.mp hd with rfl|hd
  ·exact⟨_,_,_,rfl,.inl rfl⟩
  ·obtain⟨p,q,h1,h2,rfl⟩:=cc ((bH _).mem_iff.mp hd)
   exact⟨_,_,_,rfl,.inr ⟨p,q,h1,h2,rfl⟩⟩
 refine jo (n:=0) rfl rfl ?_;walk_at "vx";subst hN;walk_at "vx";refine⟨⟨_,rfl⟩,r1,2,rfl,by decide,by decide,λa2 x2 X1 X2 r2=>?_⟩
 walk_at "vx";refine h _ _ (by split<;>omega) ?_ r2
 rcases hf with rfl|⟨p,q,h1,h2,rfl⟩
 ·left;split<;>omega
 ·right
  have:=eN b (pts.getD p []) (pts.getD q []);exact⟨p,q,h1,h2,by split<;>omega⟩
def mW(n:Nat)(pts:List (List Int)):Prop:=(1<=n/\n<=3)/\∀p∈pts,p.length=n/\∀x∈p,-(2^58)<=x/\x<2^58
theorem mW.good{n:Nat}{pts:List (List Int)}(g:mW n pts):Good n pts:=⟨g.1,λp hp=>⟨(g.2 p hp).1,λx hx=>by have:=(g.2 p hp).2 x hx;omega⟩⟩
theorem mW.map{n:Nat}{pts:List (List Int)}{f:Int->Int}(g:mW n pts)(h:∀x,-(2^58)<=x->x<2^58->-(2^59)<f x/\f x<2^59):Good n (pts.map λp=>p.map f):=⟨g.1,λq hq=>by
 obtain⟨p,hp,rfl⟩:=List.mem_map.mp hq;refine⟨by rw[List.length_map];exact(g.2 p hp).1,λx hx=>?_⟩
 obtain⟨y,hy,rfl⟩:=List.mem_map.mp hx;have:=(g.2 p hp).2 y hy;exact h y this.1 this.2⟩
def pG:bz:=λds Q=>∃n pts,ds=[cy pts]/\Good n pts/\pts.length<=1000/\Q (.own ((pts.map λp=>p.map (· / 2)).map cF))
theorem LJ(ds:List D)(Q:B->Prop)(h:pG ds Q):B7 {nx:=λ_=>Q (.sh .bC),rt:=λb _=>Q b} (aW yc.length ds):=by
 obtain⟨n,pts,rfl,hg,hl,h⟩:=h;unfold B7;rw[show cy pts=.lst (pts.map cF)from rfl]
 walk_at "vx";rw[List.map_map]at h;refine bL cF (λp=>cF (p.map (· / 2))) pts (λp hp A ha=>?_) (by rw[sz];omega) h
 have Wt:=(hg.bd hp).1;rw[show cF p=.tup (p.map D.int)from rfl]
 walk_at "vg";walk_at "vx";refine bL D.int (λx=>D.int (x/2)) p (λx hx A' Ju=>?_) (by rw[sz];omega) ?_
 ·walk_at "vg"
  walk_at "vx";exact⟨by unfold kH;decide,Ju⟩
 ·rw[show p.map (λx=>D.int (x/2))=(p.map (· / 2)).map D.int from by rw[List.map_map];rfl]
  exact ha
theorem lu{b:Bool}{f:List Int->List Int}{pts:List (List Int)}(j:Int)(h:∀p∈pts,∀q∈pts,bT b (f p) (f q)=bT b p q):bD b (pts.map f) j=bD b pts j:=by
 unfold bD;rw[xm h]
def uB:bz:=λds Q=>∃b n pts j,ds=[cy pts,cO b,.int j]/\mW n pts/\pts.length<=1000/\0<=j/\Q (.sh (.bl true))
theorem Tb(ds:List D)(Q:B->Prop)(h:uB ds Q):NX dG {nx:=λ_=>Q (.sh .bC),rt:=λb _=>Q b} (aW GW.length ds):=by
 obtain⟨b,n,pts,j,rfl,hg,hl,hj,h⟩:=h;unfold NX;refine ao λN hN=>?_;walk_at "vx";refine⟨b,n,pts,j,rfl,hg.good,hl,hj,?_⟩;walk_at "vx";rw[show cy pts=.lst (pts.map cF)from rfl]
 subst hN;refine ao λN hN=>?_;walk_at "vx";have Wt:∀p∈pts,p.length<=3:=λp hp=>by have:=(hg.2 p hp).1;have:=hg.1.2;omega
 refine bL cF (λp=>cF (p.map (· - 5))) pts (λp hp A ha=>?_) (by rw[sz];omega) ?_
 ·have:=Wt p hp
  rw[show cF p=.tup (p.map D.int)from rfl]
  walk_at "vg";walk_at "vx";refine bL D.int (λx=>D.int (x-5)) p (λx hx A' Ju=>?_) (by rw[sz];omega) ?_
  ·walk_at "vg"
   walk_at "vx";exact Ju
  ·rw[show p.map (λx=>D.int (x-5))=(p.map (· - 5)).map D.int from by rw[List.map_map];rfl]
   exact ha
 rw[show pts.map (λp=>cF (p.map (· - 5)))=(pts.map λp=>p.map (· - 5)).map cF from by rw[List.map_map];rfl]
 subst hN;refine ao λN hN=>?_;walk_at "vx";refine bL cF (λp=>cF (p.map (0 - ·))) pts (λp hp A ha=>?_) (by rw[sz];omega) ?_
 ·have:=Wt p hp
  rw[show cF p=.tup (p.map D.int)from rfl]
  walk_at "vg";walk_at "vx";refine bL D.int (λx=>D.int (0-x)) p (λx hx A' Ju=>?_) (by rw[sz];omega) ?_
  ·walk_at "vg"
   walk_at "vx";exact Ju
  ·rw[show p.map (λx=>D.int (0-x))=(p.map (0 - ·)).map D.int from by rw[List.map_map];rfl]
   exact ha
 rw[show pts.map (λp=>cF (p.map (0 - ·)))=(pts.map λp=>p.map (0 - ·)).map cF from by rw[List.map_map];rfl]
 subst hN;refine ao λN hN=>?_;walk_at "vx";refine bL cF (λp=>cF p.reverse) pts (λp hp A ha=>?_) (by rw[sz];omega) ?_
 ·rw[show cF p=.tup (p.map D.int)from rfl]
  walk_at "vg";walk_at "vx";rw[<- List.map_reverse];exact ha
 rw[show pts.map (λp=>cF p.reverse)=(pts.map List.reverse).map cF from by rw[List.map_map];rfl]
 walk_at "vx";refine⟨by decide,di cy [pts.map λp=>p.map (· - 5),pts.map λp=>p.map (0 - ·),pts.map List.reverse] (λi σ=>∃x4 x5 x6,σ=[some (.sh (.lst (pts.map cF))),some (.sh (cO b)),some (.sh (.int j)),some (.own (bD b pts j)),x4,x5,x6]) (λi a σ N' hx hI qS=>?_) (λσ hI=>?_) ⟨_,_,_,rfl⟩⟩
 ·obtain⟨x4,x5,x6,rfl⟩:=hI
  have ha:Good n a/\a.length<=1000/\bD b a j=bD b pts j:=by
   have hm:=List.mem_of_getElem? hx;simp only[List.mem_cons,List.not_mem_nil,or_false]at hm;rcases hm with rfl|rfl|rfl
   ·exact⟨hg.map λx _ _=>by omega,by rw[List.length_map];exact hl,lu j λp _ q _=>oB (λx y=>by left;omega) p q⟩
   ·exact⟨hg.map λx _ _=>by omega,by rw[List.length_map];exact hl,lu j λp _ q _=>oB (λx y=>by right;omega) p q⟩
   ·refine⟨⟨hg.1,λq hq=>?_⟩,by rw[List.length_map];exact hl,lu j λp hp q hq=>u3 b p q (by rw[(hg.2 p hp).1,(hg.2 q hq).1])⟩
    obtain⟨p,hp,rfl⟩:=List.mem_map.mp hq;have:=hg.good.2 p hp;exact⟨by rw[List.length_reverse];exact this.1,λx hx=>this.2 x (List.mem_reverse.mp hx)⟩
  obtain⟨g1,g2,g3⟩:=ha;walk_at "vg";walk_at "vx";refine⟨b,n,a,j,rfl,g1,g2,hj,?_⟩;rw[g3];walk_at "vx";refine⟨⟨bG b pts j,bG b pts j⟩,?_⟩;rw[dP 8 _ (bG b pts j)];exact(if_neg ∅).mpr (qS _ ⟨_,_,_,rfl⟩)
 ·obtain⟨x4,x5,x6,rfl⟩:=hI
  subst hN;walk_at "vx";exact h
theorem uw{ns:List Int}(h:ns.Pairwise λx y:Int=>x<y):rX ns=ns:=(rY (List.Perm.refl _) (h.imp λh=>Int.le_of_lt h)).symm
theorem kR:∀(l acc:List Int),(acc++l).Nodup->l.foldl PyProof.Rows.step_dedup acc=acc++l
 | [],acc,_=>by simp
 | x::l,acc,h=>by
  have hx:x∉acc:=λhm=>by
   rw[List.nodup_append]at h;exact h.2.2 x hm x (List.mem_cons_self ..) rfl
  have e:PyProof.Rows.step_dedup acc x=acc++[x]:=by
   unfold PyProof.Rows.step_dedup;rw[if_neg (by
    rw[List.any_eq_true];rintro⟨y,hy,he⟩;rw[beq_iff_eq]at he;subst he;exact hx hy)]
  rw[List.foldl_cons,e,kR l _ (by rw[List.append_assoc];exact h),List.append_assoc];rfl
theorem xI{ns:List Int}(h:ns.Pairwise λx y:Int=>x<y):wc ns=ns:=by
 unfold wc PyProof.Rows.firstMet;have e:(List.range ns.length).map (λi=>ns.getD i 0)=ns:=by
  apply List.ext_getElem (by simp)
  intro i h1 h2;rw[List.getElem_map,List.getElem_range,List.getD_eq_getElem?_getD,List.getElem?_eq_getElem h2];rfl
 rw[e,kR ns [] (by rw[List.nil_append];exact h.imp λh z=>by omega)];rfl
theorem ft(x:Int)(T:List Int):inD (.int x) (T.map D.int)=decide (x∈T):=by
 unfold inD;rw[List.any_map,Bool.eq_iff_iff,List.any_eq_true,decide_eq_true_eq];constructor
 ·rintro⟨y,hy,e⟩
  have:y=x:=by simpa [dD]using e
  exact this ▸ hy
 ·intro h
  exact⟨x,h,hZ x⟩
theorem dr(ns:List Int):bI 8 (.lst (ns.map D.int))=true:=by
 show(ns.map D.int).all (bI 7)=true;rw[List.all_map];exact List.all_eq_true.mpr λ_ _=>rfl
theorem kX{T:List Int}{p:Int}(hp:p∉T):∀l:List Int,(l.filter (λx=>decide (x∈T))).length+(l.filter (λx=>decide (x=p))).length<=(l.filter (λx=>decide (x∈T)||decide (x=p))).length
 | []=>Nat.le_refl _
 | x::l=>by
  have ih:=kX hp l
  by_cases h1:x∈T
  ·have h2:x≠p:=λz=>hp (z ▸ h1)
   rw[List.filter_cons_of_pos (by simpa using h1),List.filter_cons_of_neg (by simpa using h2),List.filter_cons_of_pos (by simp [h1]),List.length_cons,List.length_cons]
   omega
  ·by_cases h2:x=p
   ·rw[List.filter_cons_of_neg (by simpa using h1),List.filter_cons_of_pos (by simpa using h2),List.filter_cons_of_pos (by simp [h2]),List.length_cons,List.length_cons]
    omega
   ·rw[List.filter_cons_of_neg (by simpa using h1),List.filter_cons_of_neg (by simpa using h2),List.filter_cons_of_neg (by simp [h1,h2])]
    exact ih
theorem GP(nr:Int->Int->Bool){k n:Nat}(hk:n<=k):(MO nr k (df n)).Pairwise (λx y:Int=>x<y)/\(∀x∈MO nr k (df n),x∈df n) /\
  (∀x∈MO nr k (df n),∀y∈MO nr k (df n),x<y->nr x y=false)/\∀p∈df n,p∉MO nr k (df n)->∃q∈MO nr k (df n),(p<q/\nr p q=true)\/(q<p/\nr q p=true):=by
 obtain⟨h1,h2,h3⟩:=nV nr k (df n) (by unfold df;rw[List.length_map,List.length_range];exact hk) (o5 n)
 generalize MO nr k (df n)=T at h1 h2 h3;have hT:=(o5 n).sublist h1;have fh:∀x∈T,∀y∈T,x<y->nr x y=false:=by
  clear h1 h3
  induction T with
  | nil=>intro x hx;cases hx
  | cons t T ih =>
   rw[List.pairwise_cons]at h2 hT;intro x hx y hy RH;rcases List.mem_cons.mp hx with e1|YL
   ·rcases List.mem_cons.mp hy with e2|WL
    ·omega
    ·exact e1 ▸ h2.1 y WL
   ·rcases List.mem_cons.mp hy with e2|WL
    ·have:=hT.1 x YL;omega
    ·exact ih h2.2 hT.2 x YL y WL RH
 refine⟨hT,λx hx=>h1.subset hx,fh,λp hp Z1=>Classical.byContradiction λhc=>?_⟩;have hq:∀q∈T,(p<q->nr p q=false)/\(q<p->nr q p=false):=λq hq=>⟨λl=>by
  cases e:nr p q with
  | false=>rfl
  | true=>exact absurd ⟨q,hq,.inl ⟨l,e⟩⟩ hc,λl=>by
  cases e:nr q p with
  | false=>rfl
  | true=>exact absurd ⟨q,hq,.inr ⟨l,e⟩⟩ hc⟩
 have hs:((df n).filter (λx=>decide (x∈T)||decide (x=p))).Sublist (df n):=List.filter_sublist
 obtain⟨h4,_⟩:=h3 _ hs (((o5 n).sublist hs).imp_of_mem λ{a c} ha hb Jv=>by
  have ka:=(List.mem_filter.mp ha).2;have kb:=(List.mem_filter.mp hb).2;rw[Bool.or_eq_true,decide_eq_true_eq,decide_eq_true_eq]at ka kb;rcases ka with ka|ka<;>rcases kb with kb|kb
  ·exact fh a ka c kb Jv
  ·exact kb ▸ (hq a ka).2 (kb ▸ Jv)
  ·exact ka ▸ (hq c kb).1 (ka ▸ Jv)
  ·omega)
 have h5:=kX Z1 (df n);have h6:T.length<=((df n).filter (λx=>decide (x∈T))).length:=by
  have:=(h1.filter (λx=>decide (x∈T))).length_le
  rwa [List.filter_eq_self.mpr (λx hx=>decide_eq_true hx)]at this
 have h7:0<((df n).filter (λx=>decide (x=p))).length:=List.length_pos_iff.mpr λz=>by
  have:p∈(df n).filter (λx=>decide (x=p)):=List.mem_filter.mpr ⟨hp,decide_eq_true rfl⟩;rw[z]at this;cases this
 omega
theorem lQ{n:Nat}{x:Int}:x∈df n ↔ 0<=x/\x<n:=by
 unfold df;rw[List.mem_map];constructor
 ·rintro⟨i,hi,rfl⟩
  have:=List.mem_range.mp hi;omega
 ·rintro⟨h1,h2⟩
  exact⟨x.toNat,List.mem_range.mpr ⋯,by omega⟩
def pE:bz:=λds Q=>∃b n pts j,ds=[cy pts,cO b,.int j]/\Good n pts/\pts.length<=14/\0<=j/\Q (.sh (.bl true))
theorem LD(ds:List D)(Q:B->Prop)(h:pE ds Q):NV l0 dG {nx:=λ_=>Q (.sh .bC),rt:=λb _=>Q b} (aW GU.length ds):=by
 obtain⟨b,n,pts,j,rfl,hg,hl,hj,h⟩:=h;unfold NV;refine ao λN hN=>?_;walk_at "vx";refine⟨b,n,pts,j,rfl,hg,hl,hj,?_⟩;obtain⟨hT,Yc,Yb,V2⟩:=GP (OI b pts j) hl;generalize Ya:MO (OI b pts j) 14 (df pts.length)=T at hT Yc Yb V2;have hTl:T.length<=14:=by
  rw[<- Ya];refine Nat.le_trans (nW _ _ _) ?_;unfold df;rw[List.length_map,List.length_range];exact hl
 clear Ya;walk_at "vx";subst hN;refine ao λN hN=>?_;walk_at "vx";refine⟨b,n,pts,j,rfl,hg,by omega,hj,?_⟩
 obtain⟨ps,e,AH⟩:=fQ b pts j;have wN:∀i k:Nat,(i,k)∈ps ↔ i<k/\k<pts.length/\bT b (pts.getD i []) (pts.getD k [])<=j:=λi k=>by
  rw[<- lx,e,List.mem_map];constructor
  ·intro hq;exact⟨(i,k),hq,rfl⟩
  ·rintro⟨⟨a,c⟩,hq,e⟩
   simp only[D.tup.injEq,List.cons.injEq,D.int.injEq,and_true]at e;obtain⟨e1,e2⟩:=e;have e1:a=i:=by omega
   have e2:c=k:=by omega
   subst e1 e2;exact hq
 have JM:=lr b pts j;have hzp:=eC (b:=b) (show pts.length<=1000 by omega)
 rw[e]at JM ⊢;rw[List.length_map]at JM;walk_at "vx";subst hN;refine ao λN hN=>?_;walk_at "vx";have eT:(T.map D.int).map jm=T:=by rw[List.map_map];exact List.map_id _
 rw[eT,xI hT,uw hT];refine⟨⟨by rw[List.all_map];exact List.all_eq_true.mpr λ_ _=>rfl,by rw[List.length_map];omega⟩,⟨dr T,dr T⟩,?_⟩
 rw[dP 8 _ (dr T)];refine(if_neg ∅).mpr ?_
 subst hN;refine ao λN hN=>?_;walk_at "vx";subst hN;refine ao λN hN=>?_;show da _ _ _ _ _;generalize ht:bP (cB _ _ _) _=tb;walk_at "vx";refine di xP ps (λi σ=>∃(bs:List Int) (x6 x7:Option B),σ=[some (.sh (cy pts)),some (.sh (cO b)),some (.sh (.int j)),some (.own (T.map D.int)),some (.sh (.lst (ps.map xP))),some (.own (bs.map D.int)),x6,x7]/\bs.length<=14+2*i/\(∀x∈T,x∈bs)/\∀p∈ps.take i,((p.1:Nat):Int)∈T\/((p.2:Nat):Int)∈T->((p.1:Nat):Int)∈bs/\((p.2:Nat):Int)∈bs) (λi p σ N' hx hI qS=>?_) (λσ hI=>?_) ⟨T,none,none,?_,by omega,λx hx=>hx,λp hp=>by cases hp⟩
 ·obtain⟨bs,x6,x7,rfl,ZD,UT,Om⟩:=hI
  have ZN:i<ps.length:=(List.getElem?_eq_some_iff.mp hx).1;unfold xP;walk_at "vg";subst ht;refine ao λN2 jj=>?_;have hpp:=AH p (List.mem_of_getElem? hx);have Wm:¬(((p.1:Nat):Int)∈T/\((p.2:Nat):Int)∈T):=λz=>by
   have h1:=Yb _ z.1 _ z.2 ⋯
   have h2:=(wN p.1 p.2).mp (List.mem_of_getElem? hx);have h3:OI b pts j (p.1:Nat) (p.2:Nat)=true:=decide_eq_true ⟨by omega,by omega,by omega,by rw[Int.toNat_natCast,Int.toNat_natCast];exact h2.2.2⟩
   rw[h1]at h3;cases h3
  have go:N2 [some (B.sh (cy pts)),some (B.sh (cO b)),some (B.sh (D.int j)),some (B.own (List.map D.int T)),some (B.sh (D.lst (List.map (λp:Nat×Nat=>D.tup [D.int ((p.1:Nat):Int),D.int ((p.2:Nat):Int)]) ps))),some (B.own (List.map D.int bs)),some (B.sh (D.int ((p.1:Nat):Int))),some (B.sh (D.int ((p.2:Nat):Int)))]:=by
   subst jj;have yes:N' [some (B.sh (cy pts)),some (B.sh (cO b)),some (B.sh (D.int j)),some (B.own (List.map D.int T)),some (B.sh (D.lst (List.map (λp:Nat×Nat=>D.tup [D.int ((p.1:Nat):Int),D.int ((p.2:Nat):Int)]) ps))),some (B.own (List.map D.int (bs++[((p.1:Nat):Int),((p.2:Nat):Int)]))),some (B.sh (D.int ((p.1:Nat):Int))),some (B.sh (D.int ((p.2:Nat):Int)))]:=by
    refine qS _ ⟨bs++[((p.1:Nat):Int),((p.2:Nat):Int)],_,_,rfl,by rw[List.length_append,List.length_cons,List.length_cons,List.length_nil];omega,λx hx=>List.mem_append_left _ (UT x hx),λq hq U0=>?_⟩
    rw[List.take_add_one,hx]at hq;rcases List.mem_append.mp hq with hq|hq
    ·have:=Om q hq U0
     exact⟨List.mem_append_left _ this.1,List.mem_append_left _ this.2⟩
    ·have:q=p:=by simpa using hq
     subst this;exact⟨List.mem_append_right _ (by simp),List.mem_append_right _ (by simp)⟩
   walk_at "vx";rw[ft,ft];refine⟨⟨rfl,dr T⟩,?_⟩
   by_cases h1:((p.1:Nat):Int)∈T
   ·refine(if_pos (decide_eq_true h1)).mpr ⟨by decide,by rw[List.length_map,sz];omega,?_⟩
    rw[List.map_append]at yes;exact yes
   ·refine(if_neg (by rw[decide_eq_false h1];decide)).mpr ⟨⟨rfl,dr T⟩,?_⟩
    by_cases h2:((p.2:Nat):Int)∈T
    ·refine(if_pos (decide_eq_true h2)).mpr ⟨by decide,by rw[List.length_map,sz];omega,?_⟩
     rw[List.map_append]at yes;exact yes
    ·refine(if_neg (by rw[decide_eq_false h2];decide)).mpr ?_
     refine qS _ ⟨bs,_,_,rfl,by omega,UT,λq hq U0=>?_⟩
     rw[List.take_add_one,hx]at hq;rcases List.mem_append.mp hq with hq|hq
     ·exact Om q hq U0
     ·have:q=p:=by simpa using hq
      subst this;exact(U0.elim h1 h2).elim
  walk_at "vx";rw[ft,ft];refine⟨⟨rfl,dr T⟩,?_⟩
  by_cases h1:((p.1:Nat):Int)∈T
  ·refine(if_pos (decide_eq_true h1)).mpr ⟨⟨rfl,dr T⟩,(if_neg ?_).mpr go⟩
   rw[decide_eq_false λz=>Wm ⟨h1,z⟩];decide
  ·exact(if_neg (by rw[decide_eq_false h1];decide)).mpr go
 ·obtain⟨bs,x6,x7,rfl,ZD,UT,Om⟩:=hI
  show N _;subst hN;rw[List.take_length]at Om;refine ao λN hN=>?_;rw[show cy pts=.lst (pts.map cF)from rfl]
  walk_at "vx";rw[List.length_map,Int.toNat_natCast,fA];have V7:∀i:Nat,i<pts.length->((i:Nat):Int)∈bs:=λi hi=>by
   by_cases h1:((i:Nat):Int)∈T
   ·exact UT _ h1
   ·obtain⟨q,hq,hc⟩:=V2 _ (lQ.mpr ⟨by omega,by omega⟩) h1
    obtain⟨k,rfl⟩:∃k:Nat,q=k:=⟨q.toNat,by have:=lQ.mp (Yc _ hq);omega⟩
    rcases hc with⟨_,hc⟩|⟨_,hc⟩
    ·obtain⟨_,c2,c3,c4⟩:=of_decide_eq_true hc
     rw[Int.toNat_natCast,Int.toNat_natCast]at c4;exact(Om (i,k) ((wN i k).mpr ⟨by omega,by omega,c4⟩) (.inr hq)).1
    ·obtain⟨_,c2,c3,c4⟩:=of_decide_eq_true hc
     rw[Int.toNat_natCast,Int.toNat_natCast]at c4;exact(Om (k,i) ((wN k i).mpr ⟨by omega,by omega,c4⟩) (.inl hq)).2
  refine⟨by omega,fq (λi:Nat=>.int (0+(i:Nat))) (λ_=>none) _ (λi hi A Bn ha=>?_) (by rw[List.length_range,sz];omega) ?_⟩
  ·have hi:=List.mem_range.mp hi
   walk_at "vg";walk_at "vx";rw[ft];refine⟨⟨rfl,dr bs⟩,?_⟩;rw[decide_eq_true (V7 i hi)];exact(if_neg ∅).mpr ha
  rw[show(List.range pts.length).filterMap (λ_=>(none:Option D))=[]from by simp]
  walk_at "vx";refine⟨by decide,⟨rfl,rfl⟩,(if_neg ∅).mpr ?_⟩
  subst hN;walk_at "vx";refine⟨by decide,⟨tZ pts,rfl⟩,?_⟩
  rw[ne_nil]
  by_cases AG:pts=[]
  ·exact(if_pos (decide_eq_true AG)).mpr h
  refine(if_neg (by rw[decide_eq_false AG];decide)).mpr ?_
  have hT0:0<T.length:=by
   have jc:0<pts.length:=List.length_pos_iff.mpr AG
   by_cases h1:(0:Int)∈T
   ·exact List.length_pos_of_mem h1
   ·obtain⟨q,hq,_⟩:=V2 0 (lQ.mpr ⟨by omega,by omega⟩) h1
    exact List.length_pos_of_mem hq
  rw[List.length_map,decide_eq_true ⋯]
  exact h
 ·rfl
theorem vo{i j:Nat}(kA:i≠j):∀n:Nat,((List.range n).map λk=>if k=i\/k=j then(1:Int)else 0).sum=(if i<n then 1 else 0)+(if j<n then 1 else 0)
 | 0=>by simp
 | n+1=>by
  rw[List.range_succ,List.map_append,List.sum_append,vo kA n];show _+((if n=i\/n=j then(1:Int)else 0)+0)=_
  split<;>split<;>split<;>split<;>split<;>omega
theorem sum_add(f g:Nat->Int):∀l:List Nat,(l.map λk=>f k+g k).sum=(l.map f).sum+(l.map g).sum
 | []=>rfl
 | k::l=>by
  show f k+g k+(l.map λk=>f k+g k).sum=(f k+(l.map f).sum)+(g k+(l.map g).sum);rw[sum_add f g l];omega
theorem uW{n:Nat}:∀ps:List (Nat×Nat),(∀p∈ps,p.1<p.2/\p.2<n)->((List.range n).map λk=>(((ps.map xP).countP (jk k):Nat):Int)).sum=2*(ps.length:Int)
 | [],_=>by
  have:∀l:List Nat,(l.map λ_=>(0:Int)).sum=0:=λl=>by
   induction l with
   | nil=>rfl
   | cons a l ih=>show(0:Int)+(l.map λ_=>(0:Int)).sum=0;rw[ih];rfl
  exact this _
 | p::ps,h=>by
  have ih:=uW ps λq hq=>h q (List.mem_cons_of_mem _ hq);obtain⟨h1,h2⟩:=h p (List.mem_cons_self ..);have e:(λk=>((((p::ps).map xP).countP (jk k):Nat):Int))=λk=>(((ps.map xP).countP (jk k):Nat):Int)+(if k=p.1\/k=p.2 then(1:Int)else 0):=by
   funext k;rw[List.map_cons,List.countP_cons];show((_+(if jk k (.tup [.int (p.1:Nat),.int (p.2:Nat)])=true then 1 else 0):Nat):Int)=_
   rw[u9]
   by_cases hk:k=p.1\/k=p.2
   ·rw[if_pos (decide_eq_true hk),if_pos hk];omega
   ·rw[if_neg (by rw[decide_eq_false hk];decide),if_neg hk];omega
  rw[e,sum_add,ih,vo ⋯,if_pos ⋯,if_pos h2,List.length_cons]
  omega
theorem tH(b:Bool)(pts:List (List Int))(j:Int):((fL b pts j).map jm).sum=2*((bD b pts j).length:Int)/\(fL b pts j).all isInt=true:=by
 obtain⟨ps,e,AH⟩:=fQ b pts j;refine⟨?_,?_⟩
 ·have:=uW ps AH
  unfold fL eM;rw[List.map_map,e,List.length_map];rw[<- this];congr 1;refine List.map_congr_left λk _=>?_;show((((aY b pts).countP (A2 j k):Nat)):Int)=_;rw[<- lq,e];rfl
 ·unfold fL eM
  rw[List.all_map];exact List.all_eq_true.mpr λ_ _=>rfl
theorem jQ{b:Int}:∀ {l:List (Int×Nat×Nat)},l.Pairwise (λx y=>x.1<=y.1)->∀(i:Nat) (t:Int×Nat×Nat),l[i]?=some t->(t.1<=b ↔ i<l.countP λt=>decide (t.1<=b))
 | [],_,i,t,h=>by simp at h
 | x::l,hp,0,t,h=>by
  rw[List.pairwise_cons]at hp;have:x=t:=by simpa using h
  subst this;rw[List.countP_cons]
  by_cases hx:x.1<=b
  ·simp [hx]
  ·have:l.countP (λt=>decide (t.1<=b))=0:=List.countP_eq_zero.mpr λy hy=>by
    have:=hp.1 y hy;simp only[decide_eq_true_eq];omega
   rw[this];simp [hx]
 | x::l,hp,i+1,t,h=>by
  rw[List.pairwise_cons]at hp;have h:l[i]?=some t:=by simpa using h
  have ih:=jQ (b:=b) hp.2 i t h;rw[List.countP_cons]
  by_cases hx:x.1<=b
  ·rw[if_pos (decide_eq_true hx),ih];omega
  ·have:=hp.1 t (List.mem_of_getElem? h)
   have h0:l.countP (λt=>decide (t.1<=b))=0:=List.countP_eq_zero.mpr λy hy=>by
    have:=hp.1 y hy;simp only[decide_eq_true_eq];omega
   rw[h0,if_neg (by rw[decide_eq_false hx];decide)]
   omega
theorem DZ{t u:Int×Nat×Nat}(h:kq (jM t) (jM u)=true):t.1<=u.1:=by
 have h:(!(if u.1=t.1 then HT.lexLt [((u.2.1:Nat):Int),((u.2.2:Nat):Int)] [((t.2.1:Nat):Int),((t.2.2:Nat):Int)]else decide (u.1<t.1)))=true:=h
 by_cases e:u.1=t.1
 ·omega
 ·rw[if_neg e]at h
  have:=of_decide_eq_false (by simpa using h:decide (u.1<t.1)=false)
  omega
theorem BO(b:Bool)(pts:List (List Int)):∃ts:List (Int×Nat×Nat),cz (aY b pts)=ts.map jM/\(∀t∈ts,t.2.1<t.2.2/\t.2.2<pts.length/\t.1=bT b (pts.getD t.2.1 []) (pts.getD t.2.2 [])) /\
  ∀(j:Int) (i:Nat) (t:Int×Nat×Nat),ts[i]?=some t->(t.1<=j ↔ i<(bD b pts j).length):=by
 obtain⟨ts,e⟩:=nN b pts;refine⟨ts,e,λt ht=>?_,λj i t ht=>?_⟩
 ·have:jM t∈aY b pts:=(bH _).mem_iff.mp (by rw[e];exact List.mem_map.mpr ⟨t,ht,rfl⟩)
  obtain⟨p,q,h1,h2,h3⟩:=cc this;unfold jM pairD at h3;simp only[D.tup.injEq,List.cons.injEq,D.int.injEq,and_true]at h3;obtain⟨e1,e2,e3⟩:=h3;have e2:t.2.1=p:=by omega
  have e3:t.2.2=q:=by omega
  rw[e2,e3];exact⟨h1,h2,e1⟩
 ·have hp:ts.Pairwise λx y=>x.1<=y.1:=by
   have:=eY (aY b pts);rw[e,List.pairwise_map]at this;exact this.imp λh=>DZ h
  rw[jQ (b:=j) hp i t ht];have e2:(bD b pts j).length=ts.countP λt=>decide (t.1<=j):=by
   have p1:(bD b pts j).Perm ((ts.map jM).filterMap (nearF j)):=by
    rw[<- e];exact((bH (aY b pts)).filterMap (nearF j)).symm
   rw[p1.length_eq,List.filterMap_map,List.countP_eq_length_filter];clear p1 hp ht e
   induction ts with
   | nil=>rfl
   | cons u ts ih =>
    have e:(nearF j ∘ jM) u=_:=fx j u
    by_cases hu:decide (u.1<=j)=true
    ·rw[if_pos hu]at e
     rw[List.filterMap_cons_some e,List.filter_cons_of_pos (by simpa using hu),List.length_cons,List.length_cons,ih]
    ·rw[if_neg hu]at e
     rw[List.filterMap_cons_none e,List.filter_cons_of_neg (by simpa using hu),ih]
  rw[e2]
theorem vn(x y:Nat)(ps:List (Nat×Nat)):inD (.tup [.int ((x:Nat):Int),.int ((y:Nat):Int)]) (ps.map xP)=decide ((x,y)∈ps):=by
 unfold inD;rw[List.any_map,Bool.eq_iff_iff,List.any_eq_true,decide_eq_true_eq];constructor
 ·rintro⟨q,hq,e⟩
  have e:dD (.tup [.int ((q.1:Nat):Int),.int ((q.2:Nat):Int)]) (.tup [.int ((x:Nat):Int),.int ((y:Nat):Int)])=true:=e;rw[tI,decide_eq_true_eq]at e;have e1:q.1=x:=by omega
  have e2:q.2=y:=by omega
  rw[<- e1,<- e2];exact hq
 ·intro h
  refine⟨(x,y),h,?_⟩;show dD (.tup [.int ((x:Nat):Int),.int ((y:Nat):Int)]) (.tup [.int ((x:Nat):Int),.int ((y:Nat):Int)])=true;rw[tI];simp
theorem near_is(b:Bool)(pts:List (List Int))(j:Int):∃ps:List (Nat×Nat),bD b pts j=ps.map xP/\∀i k:Nat,(i,k)∈ps ↔ i<k/\k<pts.length/\bT b (pts.getD i []) (pts.getD k [])<=j:=by
 obtain⟨ps,e,AH⟩:=fQ b pts j;refine⟨ps,e,λi k=>?_⟩;rw[<- lx,e,List.mem_map];constructor
 ·intro hq;exact⟨(i,k),hq,rfl⟩
 ·rintro⟨⟨a,c⟩,hq,e⟩
  simp only[D.tup.injEq,List.cons.injEq,D.int.injEq,and_true]at e;obtain⟨e1,e2⟩:=e;have e1:a=i:=by omega
  have e2:c=k:=by omega
  subst e1 e2;exact hq
def uy:bz:=λds Q=>∃b n pts j,ds=[cy pts,cO b,.lst (cz (aY b pts)),.int j]/\Good n pts/\pts.length<=1000/\0<=j/\Q (.sh (.bl true))
theorem S7(ds:List D)(Q:B->Prop)(h:uy ds Q):NW dG pI jB pH uA {nx:=λ_=>Q (.sh .bC),rt:=λb _=>Q b} (aW GV.length ds):=by
 obtain⟨b,n,pts,j,rfl,hg,hl,hj,h⟩:=h;obtain⟨ts,e,hts,JA⟩:=BO b pts;have hz:=eC (b:=b) hl;have Oz:=(bH (aY b pts)).length_eq;have hz3:=lr b pts j;unfold NW;refine ao λN hN=>?_;walk_at "vx";refine⟨b,n,pts,j,rfl,hg,hl,hj,?_⟩;walk_at "vx";subst hN;refine ao λN hN=>?_;walk_at "vx";have DJ:=A3 b pts j;have Rn:((cz (aY b pts)).filterMap (nearF j)).Perm (bD b pts j):=(bH _).filterMap _;have hint:((cz (aY b pts)).filterMap (nearF j)).all eO=true:=List.all_eq_true.mpr λd hd=>List.all_eq_true.mp (nC b pts j) d (Rn.mem_iff.mp hd);have RA:∀i:Int,1<=i->xa b pts i=((ts[(i-1).toNat]?).map jM).getD .bC:=λi _=>by
  unfold xa;rw[e,List.getElem?_map]
 rw[e]at DJ hint Oz ⊢;rw[List.length_map]at Oz;rw[List.filterMap_map]at DJ hint;refine fq jM (nearF j ∘ jM) ts (λt ht A Bn ha=>?_) (by rw[sz];omega) ?_
 ·rw[show(nearF j ∘ jM) t=nearF j (jM t)from rfl,fx]at ha
  unfold jM;walk_at "vg";walk_at "vx"
  by_cases ht:t.1<=j
  ·rw[if_pos (decide_eq_true ht)]at ha
   exact(if_pos ht).mpr ⟨by decide,ha⟩
  ·rw[if_neg (by rw[decide_eq_false ht];decide)]at ha
   exact(if_neg ht).mpr ha
 walk_at "vx";refine⟨hint,⟨bG b pts j,?_⟩,?_⟩
 ·rw[DJ];exact bG b pts j
 rw[DJ,dP 8 _ (bG b pts j)];refine(if_neg ∅).mpr ?_
 subst hN;refine ao λN hN=>?_;walk_at "vx";subst hN;refine ao λN hN=>?_;walk_at "vx";refine⟨b,n,pts,j,rfl,hg,hl,hj,?_⟩;walk_at "vx";refine⟨⟨rfl,rfl⟩,?_⟩;rw[hZ];refine(if_neg ∅).mpr ?_
 obtain⟨Ww,oI⟩:=tH b pts j;refine⟨b,n,pts,j,rfl,hg,hl,hj,?_⟩;walk_at "vx";rw[Ww];refine⟨oI,by unfold gW;left;omega,⟨rfl,rfl⟩,?_⟩
 rw[hZ];refine(if_neg ∅).mpr ?_
 subst hN;obtain⟨ps,ep,AH⟩:=near_is b pts j;have Wb:=JA j;generalize hm:(bD b pts j).length=m at Wb hz3;refine ao λN hN=>?_;walk_at "vx";rw[hm];refine⟨b,n,pts,_,rfl,hg,hl,by omega,?_⟩
 rw[RA _ ⋯,show((m:Int)+1-1).toNat=m by omega]
 walk_at "vx";subst hN;refine ao λN hN=>?_;have go:∀x6,N [some (B.sh (cy pts)),some (B.sh (cO b)),some (B.sh (D.lst (List.map jM ts))),some (B.sh (D.int j)),some (B.own (bD b pts j)),some (B.sh (D.int (m:Int))),x6,none,none,none]:=by
  intro x6;subst hN;refine ao λN hN=>?_;walk_at "vx";refine⟨by decide,⟨bG b pts j,rfl⟩,?_⟩
  by_cases ZT:m=0
  ·have e0:bD b pts j=[]:=List.length_eq_zero_iff.mp ⋯
   rw[e0];exact(if_pos rfl).mpr h
  have e0:dD (.lst (bD b pts j)) (.lst [])=false:=by
   cases en:bD b pts j with
   | nil=>rw[en]at hm;exact absurd hm.symm ZT
   | cons _ _=>rfl
  rw[e0];refine(if_neg ∅).mpr ?_
  subst hN;refine ao λN hN=>?_;walk_at "vx";rw[hm];refine⟨b,n,pts,_,rfl,hg,hl,by omega,?_⟩
  rw[RA _ ⋯,show((m:Int)-1).toNat=m-1 by omega]
  have YC:m-1<ts.length:=by omega
  have et:ts[m-1]?=some ts[m-1]:=List.getElem?_eq_getElem YC;have ht:=hts _ (List.getElem_mem YC);have WC:=(Wb _ _ et).mpr ⋯
  rw[et];generalize ts[m-1]=t at ht WC;obtain⟨f,p,q⟩:=t;obtain⟨h1,h2,h3⟩:=ht;dsimp only at h1 h2 h3 WC;rw[show((some (f,p,q)).map jM).getD D.bC=.tup [.int f,.int ((p:Nat):Int),.int ((q:Nat):Int)]from rfl]
  walk_at "vx"
  try walk_at "vg"
  subst hN;refine ao λN hN=>?_;walk_at "vx";refine(if_neg ⋯).mpr ?_
  have JB:(p,q)∈ps:=(AH p q).mpr ⟨h1,h2,by rw[<- h3];exact WC⟩
  have c9:inD (.tup [.int ((p:Nat):Int),.int ((q:Nat):Int)]) (bD b pts j)=true:=by
   rw[ep,vn];exact decide_eq_true JB
  rw[c9];refine⟨by decide,⟨rfl,bG b pts j⟩,(if_neg ∅).mpr ?_⟩
  refine⟨b,n,pts,p,q,rfl,hg,by omega,h2,?_⟩
  walk_at "vx";rw[<- h3];refine⟨⟨rfl,rfl⟩,?_⟩;rw[hZ];refine(if_neg ∅).mpr ?_
  subst hN;walk_at "vx";refine⟨⟨rfl,rfl⟩,?_⟩;have hf0:0<=f:=by rw[h3];exact eN _ _ _
  by_cases Yn:f=0
  ·subst Yn
   exact(if_pos (hZ 0)).mpr h
  refine(if_neg (λz=>Yn (by simpa [dD]using z))).mpr ?_
  refine⟨by decide,?_⟩
  refine⟨b,n,pts,f-1,rfl,hg,hl,by omega,?_⟩
  walk_at "vx";obtain⟨qs,eq,Z5⟩:=near_is b pts (f-1);have AF:inD (.tup [.int ((p:Nat):Int),.int ((q:Nat):Int)]) (bD b pts (f-1))=false:=by
   rw[eq,vn];exact decide_eq_false λz=>by
    have:=((Z5 p q).mp z).2.2;rw[<- h3]at this;omega
  rw[AF];exact⟨⟨rfl,bG b pts (f-1)⟩,h⟩
 cases et:ts[m]? with
 | none =>
  walk_at "vx";refine(if_neg ∅).mpr (go _)
 | some t =>
  have:=Wb _ _ et;obtain⟨f,p,q⟩:=t;rw[show((some (f,p,q)).map jM).getD D.bC=.tup [.int f,.int ((p:Nat):Int),.int ((q:Nat):Int)]from rfl]
  walk_at "vx";have Rh:¬f<=j:=λz=>by have:=this.mp z;omega
  exact(if_neg (λz=>Rh (by simpa using z))).mpr (go _)
theorem D4{α:Type}{xs:List α}{i j:Option Int}{x:α}(h:x∈cut xs i j):x∈xs:=by
 unfold cut at h;exact List.mem_of_mem_drop (List.mem_of_mem_take h)
theorem D3(b:Bool)(pts:List (List Int)):xa b pts 1=E6 b pts/\bI 8 (E6 b pts)=true:=by
 unfold xa E6;rw[wo (lH b pts)];cases e:cz (aY b pts)with
 | nil=>exact⟨rfl,rfl⟩
 | cons d l =>
  refine⟨rfl,?_⟩;have:d∈aY b pts:=(bH _).mem_iff.mp (by rw[e];exact List.mem_cons_self ..)
  obtain⟨p,q,_,_,rfl⟩:=cc this;rfl
theorem Dz:∀ {p q:List Int},p.length<=1->q.length<=1->bT true p q=bT false p q*bT false p q
 | [],q,_,_=>rfl
 | p,[],_,_=>by unfold bT;rw[List.zip_nil_right];rfl
 | [x],[y],_,_=>by
  show fe (x-y)*fe (x-y)+0=(fe (x-y)+0)*(fe (x-y)+0);rw[Int.add_zero,Int.add_zero]
 | _::_::_,_,h,_=>by simp at h
 | _,_::_::_,_,h=>by simp at h
theorem Uu{f j:Int}(hf:0<=f)(hj:0<=j):f*f<=j*j ↔ f<=j:=by
 constructor
 ·intro h
  refine Classical.byContradiction λhc=>?_;have h1:j*j<=j*f:=Int.mul_le_mul_of_nonneg_left ⋯ hj
  have h2:j*f<f*f:=Int.mul_lt_mul_of_pos_right ⋯ ⋯
  omega
 ·intro h
  exact Int.mul_le_mul h h hf hj
theorem rR{pts:List (List Int)}{j:Int}(hp:∀p∈pts,p.length<=1)(hj:0<=j):∀i,(cQ false pts i).filterMap (nearF j)=(cQ true pts i).filterMap (nearF (j*j))
 | 0=>rfl
 | i+1=>by
  show(cQ false pts i++fj false pts i (pts.length-(i+1))).filterMap _=(cQ true pts i++fj true pts i (pts.length-(i+1))).filterMap _;rw[List.filterMap_append,List.filterMap_append,rR hp hj i];congr 1;unfold fj;rw[List.filterMap_map,List.filterMap_map];congr 1;funext t;have hl:∀k,(pts.getD k []).length<=1:=λk=>by
   by_cases hk:k<pts.length
   ·exact hp _ (getD_mem hk)
   ·rw[List.getD_eq_getElem?_getD,List.getElem?_eq_none ⋯];exact Nat.zero_le _
  show nearF j (jM (bT false (pts.getD i []) (pts.getD (i+1+t) []),i,i+1+t))=nearF (j*j) (jM (bT true (pts.getD i []) (pts.getD (i+1+t) []),i,i+1+t));rw[fx,fx];have e:(bT true (pts.getD i []) (pts.getD (i+1+t) [])<=j*j) ↔ bT false (pts.getD i []) (pts.getD (i+1+t) [])<=j:=by
   rw[Dz (hl _) (hl _)];exact Uu (eN _ _ _) hj
  by_cases h:bT false (pts.getD i []) (pts.getD (i+1+t) [])<=j
  ·rw[if_pos (decide_eq_true h),if_pos (decide_eq_true (e.mpr h))]
  ·rw[if_neg (by rw[decide_eq_false h];decide),if_neg (by rw[decide_eq_false λz=>h (e.mp z)];decide)]
theorem A4{pts:List (List Int)}{j:Int}(hp:∀p∈pts,p.length<=1)(hj:0<=j):bD true pts (j*j)=bD false pts j:=(rR hp hj _).symm
theorem tM{n:Nat}{pts:List (List Int)}(hg:Good n pts)(hp:∀p∈pts,p.length<=1){p q:Nat}(h1:p<pts.length)(h2:q<pts.length):bT false (pts.getD p []) (pts.getD q [])<2^61:=by
 have a1:=hp _ (getD_mem h1);have a2:=hp _ (getD_mem h2);have b1:=(hg.2 _ (getD_mem h1)).2;have b2:=(hg.2 _ (getD_mem h2)).2;generalize pts.getD p []=u at a1 b1;generalize pts.getD q []=v at a2 b2
 match u,v,a1,a2,b1,b2 with
 | [],v,_,_,_,_=>show(0:Int)<_;decide
 | x::r,[],_,_,_,_=>show(0:Int)<_;decide
 | [x],[y],_,_,b1,b2 =>
  have c1:=b1 x (by simp)
  have c2:=b2 y (by simp)
  show fe (x-y)+0<_;unfold fe
  split<;>omega
 | _::_::_,_,h,_,_,_=>simp at h
 | _,_::_::_,_,h,_,_=>simp at h
def BM:bz:=λds Q=>∃ns:List Int,ds=[.fk ns]/\ns.length<=63/\Q (.sh (.bl true))
theorem Te(ds:List D)(Q:B->Prop)(h:BM ds Q):Cq p0 gQ fY fX pH uD jA uy pE pG uB pF dG {nx:=λ_=>Q (.sh .bC),rt:=λb _=>Q b} (aW yq.length ds):=by
 obtain⟨ns,rfl,Wn,h⟩:=h;unfold Cq;refine ao λN hN=>?_;show da _ _ _ _ _;generalize ht:bP (dw [] 3 _) _=tb;walk_at "vx";rw[fM,show([D.int (ns.length:Int)]:List D)=[(ns.length:Int)].map D.int from rfl,<- List.map_append,wF]
 have hz:=oo ns none (some 3);refine⟨by decide,by rw[sz,List.length_map];omega,?_⟩
 refine di (λq:Nat×Int=>.tup [.int (q.1:Nat),.int q.2]) _ (λi σ=>∃x1 x2 x3 x4 x5 x6 x7 x8 x9 UI UJ,σ=[some (.sh (.fk ns)),x1,x2,x3,x4,x5,x6,x7,x8,x9,UI,UJ]) (λi q σ N' hx hI qS=>?_) (λσ hI=>?_) ⟨none,none,none,none,none,none,none,none,none,none,none,rfl⟩
 ·obtain⟨x1,x2,x3,x4,x5,x6,x7,x8,x9,UI,UJ,rfl⟩:=hI
  obtain⟨i',c⟩:=q;walk_at "vg";subst ht
  -- reel
  refine ao λN1 QZ=>?_;walk_at "vx";refine⟨c,rfl,λr0 Wu=>?_⟩;walk_at "vx";subst QZ
  -- points
  refine ao λN1 QZ=>?_;have key:∀pts n r,Good n pts->pts.length<=40->cf r->N1 [some (.sh (.fk ns)),some (.sh (.int (i':Nat))),some (.sh (.int c)),some (.own r),some (.own (pts.map cF)),x5,x6,x7,x8,x9,UI,UJ]:=by
   intro pts n r hg hl hr;subst QZ;have Az:pts.length<=1000:=by omega
   -- way
   refine ao λN2 jj=>?_;walk_at "vx";refine⟨by decide,⟨_,rfl⟩,hr,2,rfl,by decide,by decide,λw r1 w0 w1 Gm=>?_⟩
   walk_at "vx";refine cL w0 (by simp only[List.length_cons,List.length_nil];omega) λd hd=>?_
   obtain⟨b,rfl⟩:∃b,d=cO b:=by
    simp only[List.mem_cons,List.not_mem_nil,or_false]at hd;rcases hd with rfl|rfl
    ·exact⟨false,rfl⟩
    ·exact⟨true,rfl⟩
   subst jj
   -- pairs
   refine ao λN2 jj=>?_;walk_at "vx";refine⟨b,n,pts,rfl,hg,Az,?_⟩;walk_at "vx";subst jj
   -- the nearest two
   refine ao λN2 jj=>?_;walk_at "vx";refine⟨b,n,pts,1,rfl,hg,Az,by decide,?_⟩
   walk_at "vx";refine⟨b,n,pts,rfl,hg,Az,?_⟩;walk_at "vx";obtain⟨e2,Xj⟩:=D3 b pts;rw[e2];refine⟨⟨Xj,Xj⟩,?_⟩;rw[dP 8 _ Xj];refine(if_neg ∅).mpr ?_
   subst jj
   -- bounds
   refine ao λN2 jj=>?_;walk_at "vx";refine⟨⟨_,rfl⟩,Gm,b,pts,rfl,Az,λjs r2 Yv Yt hj2 Z6=>?_⟩;walk_at "vx";subst jj;refine ao λN2 jj=>?_;walk_at "vx";rw[List.length_map];refine⟨⟨_,rfl⟩,Z6,_,rfl,by omega,by omega,λat' r3 at0 xN Z7=>?_⟩
   walk_at "vx";subst jj;refine ao λN2 jj=>?_;show da _ _ _ _ _;generalize ht:bP (cB _ _ _) _=tb;walk_at "vx";rw[<- List.map_append,fM,List.length_map];refine⟨by rw[sz];omega,?_⟩
   refine di D.int _ (λi σ=>∃y7 y9,σ=[some (.sh (.fk ns)),some (.sh (.int (i':Nat))),some (.sh (.int c)),some (.own r3),some (.sh (.lst (pts.map cF))),some (.sh (cO b)),some (.sh (.lst (cz (aY b pts)))),y7,some (.sh (.int at')),y9,UI,UJ]) (λi j σ N3 hx hI VY=>?_) (λσ hI=>?_) ⟨_,_,rfl⟩
   ·obtain⟨y7,y9,rfl⟩:=hI
    have hj:0<=j:=by
     have:=D4 (List.mem_of_getElem? hx);rcases List.mem_append.mp this with z|z
     all_goals exact Yv j z
    walk_at "vg";subst ht;refine ao λN4 VZ=>?_;walk_at "vx";refine⟨b,n,pts,j,rfl,hg,Az,hj,?_⟩;walk_at "vx"
    try refine(if_neg ∅).mpr ?_
    subst VZ;walk_at "vx";have Vx:cut (pts.map cF) none (some 10)=(pts.take 10).map cF:=by rw[fM];exact congrArg _ (qo pts 10)
    rw[Vx];refine⟨b,n,pts.take 10,j,rfl,⟨hg.1,λp hp=>hg.2 p (List.mem_of_mem_take hp)⟩,by rw[List.length_take];omega,hj,?_⟩
    walk_at "vx"
    try refine(if_neg ∅).mpr ?_
    exact VY _ ⟨_,_,rfl⟩
   obtain⟨y7,y9,rfl⟩:=hI;show N2 _;subst jj
   -- small
   refine ao λN2 jj=>?_;walk_at "vx";refine⟨n,pts,rfl,hg,Az,?_⟩;walk_at "vx";have g8:mW n (pts.map λp=>p.map (· / 2)):=⟨hg.1,λq hq=>by
    obtain⟨p,hp,rfl⟩:=List.mem_map.mp hq;have:=hg.2 p hp;refine⟨by rw[List.length_map];exact this.1,λx hx=>?_⟩
    obtain⟨y,hy,rfl⟩:=List.mem_map.mp hx;have:=this.2 y hy;omega⟩
   have l8:(pts.map λp=>p.map (· / 2)).length<=1000:=by rw[List.length_map];exact Az
   generalize (pts.map λp=>p.map (· / 2))=small at g8 l8
   subst jj;refine ao λN2 jj=>?_;walk_at "vx";refine⟨⟨_,rfl⟩,b,n,small,rfl,g8.good,l8,?_⟩;walk_at "vx";refine⟨Z7,b,small,rfl,l8,λj r4 hj _ Z8=>?_⟩;walk_at "vx";refine⟨b,n,small,j,rfl,g8,l8,hj,?_⟩;walk_at "vx"
   try refine(if_neg ∅).mpr ?_
   subst jj
   -- line
   refine ao λN2 jj=>?_;walk_at "vx";refine bL cF (λp=>cF (p.take 1)) pts (λp hp A ha=>?_) (by rw[sz];omega) ?_
   ·rw[show cF p=.tup (p.map D.int)from rfl]
    walk_at "vg";walk_at "vx";rw[fM,show cut p none (some 1)=p.take 1 from qo p 1]
    exact ha
   rw[show pts.map (λp=>cF (p.take 1))=(pts.map (List.take 1)).map cF from by rw[List.map_map];rfl]
   have g1:Good 1 (pts.map (List.take 1)):=⟨⟨by decide,by decide⟩,λq hq=>by
    obtain⟨p,hp,rfl⟩:=List.mem_map.mp hq;have:=hg.2 p hp;have h1:=hg.1.1;exact⟨by rw[List.length_take];omega,λx hx=>this.2 x (List.mem_of_mem_take hx)⟩⟩
   have l1:(pts.map (List.take 1)).length<=1000:=by rw[List.length_map];exact Az
   generalize pts.map (List.take 1)=line at g1 l1;have s1:∀p∈line,p.length<=1:=λp hp=>by rw[(g1.2 p hp).1];exact Nat.le_refl _
   walk_at "vx";subst jj;refine ao λN2 jj=>?_;walk_at "vx";refine⟨⟨_,rfl⟩,false,1,line,rfl,g1,l1,?_⟩;walk_at "vx";refine⟨Z8,false,line,rfl,l1,λj r5 hj Yu hr5=>?_⟩;have Yv:j<2^61:=by
    rcases Yu with z|⟨p,q,h1,h2,z⟩
    ·omega
    ·have:=tM g1 s1 (show p<line.length by omega) h2
     omega
   walk_at "vx";subst jj;walk_at "vx";refine⟨false,1,line,j,rfl,g1,l1,hj,?_⟩;walk_at "vx";refine⟨by unfold gW;left;omega,true,1,line,j*j,rfl,g1,l1,Int.mul_nonneg hj hj,?_⟩
   rw[A4 s1 hj];walk_at "vx";refine⟨⟨bG _ _ _,bG _ _ _⟩,?_⟩;rw[dP 8 _ (bG _ _ _)];refine(if_neg ∅).mpr ?_
   exact qS _ ⟨_,_,_,_,_,_,_,_,_,_,_,rfl⟩
  walk_at "vx";refine⟨⟨_,rfl⟩,by decide,⟨rfl,rfl⟩,?_⟩
  split
  ·refine⟨⟨_,rfl⟩,Wu,8,rfl,by decide,by decide,λt r1 _ _ Gm=>?_⟩
   walk_at "vx";refine⟨⟨rfl,rfl⟩,?_⟩;refine cL (by split<;>omega) (by simp only[List.length_cons,List.length_nil];split<;>omega) λd hd=>?_
   simp only[List.mem_cons,List.not_mem_nil,or_false]at hd;rcases hd with rfl|rfl
   ·exact⟨Gm,20,rfl,by decide,λpts n ys hg hl hy=>key pts n ys hg ⋯ hy⟩
   ·exact⟨Gm,40,rfl,by decide,λpts n ys hg hl hy=>key pts n ys hg ⋯ hy⟩
  ·refine cL (by first|decide | (split<;>omega)) (by simp only[List.length_cons,List.length_nil];first|decide | (split<;>omega)) λd hd=>?_
   simp only[List.mem_cons,List.not_mem_nil,or_false]at hd;rcases hd with rfl|rfl
   ·exact⟨Wu,20,rfl,by decide,λpts n ys hg hl hy=>key pts n ys hg ⋯ hy⟩
   ·exact⟨Wu,40,rfl,by decide,λpts n ys hg hl hy=>key pts n ys hg ⋯ hy⟩
 ·obtain⟨x1,x2,x3,x4,x5,x6,x7,x8,x9,UI,UJ,rfl⟩:=hI
  subst hN;walk_at "vx";exact h
end
def vS(K:PySem.W.Frag):Sp:=λvs H Q _=>∃(a:Addr) (ns:List Int),vs=[.ref a]/\e6 K H a (ns.map V.int)/\ns.length<=63/\∀H',Q (.bl true) H'
-- level 17
section
variable [KF]{G:GE}{k:Nat}
theorem DA{x:Str}{st:Stmt}{ps:List Str}{f:Addr}{fd:FuncData}(d:cG G x st ps f fd):cq G k x λ_ _=>False:=
 ⟨f,fd,ps,⟨λvs H Q E h=>by obtain⟨_,_,_,_,_,z,_⟩:=h;exact z.elim,λA outer s H args us vs Q E _ _ _ _ h=>by obtain⟨_,_,_,_,_,z,_⟩:=h;exact z.elim⟩,d.m,d.F.kp,d.b⟩
local macro_rules|`(tactic| walk_at "8")=>`(tactic| (intro xs ds Q h;first|(obtain⟨e,_⟩:=h;rw[e];rfl) | (obtain⟨_,e,_⟩:=h;rw[e];rfl) | (obtain⟨_,_,e,_⟩:=h;rw[e];rfl) | (obtain⟨_,_,_,e,_⟩:=h;rw[e];rfl) | (obtain⟨_,_,_,_,e,_⟩:=h;rw[e];rfl) | (obtain⟨_,_,_,_,_,e,_⟩:=h;rw[e];rfl) | (obtain⟨_,_,_,_,_,_,e,_⟩:=h;rw[e];rfl) | (obtain⟨_,_,_,_,_,_,_,e,_⟩:=h;rw[e];rfl) | (obtain⟨_,_,_,_,_,_,_,_,e,_⟩:=h;rw[e];rfl) | (obtain⟨_,_,_,_,_,_,_,_,_,e,_⟩:=h;rw[e];rfl) | (obtain⟨_,_,_,_,_,_,_,_,_,_,e,_⟩:=h;rw[e];rfl)))
local macro_rules|`(tactic| walk_at "7")=>`(tactic| (intro ds Q h;first|(obtain⟨e,_⟩:=h;rw[e];rfl) | (obtain⟨_,e,_⟩:=h;rw[e];rfl) | (obtain⟨_,_,e,_⟩:=h;rw[e];rfl) | (obtain⟨_,_,_,e,_⟩:=h;rw[e];rfl) | (obtain⟨_,_,_,_,e,_⟩:=h;rw[e];rfl) | (obtain⟨_,_,_,_,_,e,_⟩:=h;rw[e];rfl) | (obtain⟨_,_,_,_,_,_,e,_⟩:=h;rw[e];rfl) | (obtain⟨_,_,_,_,_,_,_,e,_⟩:=h;rw[e];rfl) | (obtain⟨_,_,_,_,_,_,_,_,e,_⟩:=h;rw[e];rfl) | (obtain⟨_,_,_,_,_,_,_,_,_,e,_⟩:=h;rw[e];rfl) | (obtain⟨_,_,_,_,_,_,_,_,_,_,e,_⟩:=h;rw[e];rfl)))
theorem Lp(hK:G.K=KF.K)(hT:KF.tabs=[])(E:Gl G)
    {qH:Addr} {Jd:FuncData} (zm:cG G "need_count" iP ["count"] qH Jd)
    {zO:Addr} {QJ:FuncData} (HY:cG G "need_as_many_numbers" o7 ["point","count"] zO QJ)
    {qA:Addr} {IW:FuncData} (zf:cG G "need_points" iH ["points"] qA IW)
    {qM:Addr} {Ji:FuncData} (zt:cG G "need_way" iV ["way"] qM Ji)
    {zP:Addr} {QK:FuncData} (HZ:cG G "need_points_and_way" o8 ["points","way"] zP QK)
    {qI:Addr} {Je:FuncData} (zo:cG G "need_place" iQ ["points","place"] qI Je)
    {qG:Addr} {Jc:FuncData} (zl:cG G "need_bound" iO ["bound"] qG Jc)
    {qz:Addr} {IV:FuncData} (zc:cG G "need_number" iG ["number"] qz IV)
    {zY:Addr} {QS:FuncData} (Ij:cG G "need_at_most" pv ["points","many"] zY QS)
    {qw:Addr} {IP:FuncData} (y8:cG G "far_between" iC ["way","point","other"] qw IP)
    {zU:Addr} {QO:FuncData} (Ie:cG G "pairs_by_places" pg ["points","way"] zU QO)
    {qN:Addr} {Jj:FuncData} (zu:cG G "how_far" iW ["points","way","one","other"] qN Jj)
    {qJ:Addr} {Jf:FuncData} (zp:cG G "all_pairs" iR ["points","way"] qJ Jf)
    {qF:Addr} {Jb:FuncData} (zk:cG G "near_pairs" iM ["points","way","bound"] qF Jb)
    {zW:Addr} {QQ:FuncData} (Ih:cG G "how_many_near" pj ["points","way","bound"] zW QQ)
    {zV:Addr} {QP:FuncData} (Ig:cG G "so_manieth_pair" ph ["points","way","number"] zV QP)
    {qx:Addr} {IQ:FuncData} (za:cG G "near_counts" iD ["points","way","bound"] qx IQ)
    {qO:Addr} {Jk:FuncData} (uX:cG G "most_of" iX ["places","near"] qO Jk)
    {qE:Addr} {Ja:FuncData} (zj:cG G "most_apart" iL ["points","way","bound"] qE Ja)
    {qy:Addr} {IU:FuncData} (zb:cG G "nearest_two" iE ["points","way"] qy IU)
    {qK:Addr} {Jg:FuncData} (zq:cG G "_law_reel" iT ["cell"] qK Jg)
    {qL:Addr} {Jh:FuncData} (zr:cG G "_law_take" iU ["reel","many"] qL Jh)
    {qD:Addr} {IZ:FuncData} (zi:cG G "_law_points" iK ["reel","most"] qD IZ)
    {qB:Addr} {IX:FuncData} (zg:cG G "_law_bounds" iI ["reel","pairs","least"] qB IX)
    {zR:Addr} {QM:FuncData} (Ib:cG G "_law_bound_right" pd ["points","way","pairs","bound"] zR QM)
    {zX:Addr} {QR:FuncData} (Ii:cG G "_law_drawn_far" pq ["reel","pairs"] zX QR)
    {qC:Addr} {IY:FuncData} (zh:cG G "_law_halved" iJ ["points"] qC IY)
    {zS:Addr} {QN:FuncData} (Ic:cG G "_law_moved_right" pe ["points","way","bound"] zS QN)
    {zQ:Addr} {QL:FuncData} (Ia:cG G "_law_apart_right" o9 ["points","way","bound"] zQ QL)
    {nj:Addr} {z9:FuncData} (zv:cG G "law" fc ["script"] nj z9)
   :d9 G.P G.w G.K G.mg G.base sW 18 nj z9 ["script"] (vS G.K):=by
  have As:cq G 1 "_law_reel" p0:=zq.fg (k:=0) hK M3 (QB E) (by walk_at "7") LV
  have bS:f6 G 1 "_law_take" fY:=zr.UP (k:=0) hK M4 (QC E) ∅ (by walk_at "8") LW
  have An:f6 G 2 "_law_points" gQ:=zi.UP (k:=1) hK MU (Qu E (bS.mono ∅)) ∅ (by walk_at "8") xl
  have Aq:cq G 1 "need_count" jD:=zm.fg (k:=0) hK MZ (Qy E) (by walk_at "7") Bg
  have Jo:cq G 1 "need_as_many_numbers" uC:=HY.fg (k:=0) hK T6 (Vy E) (by walk_at "7") Tc
  have Ak:cq G 2 "need_points" pL:=zf.fg (k:=1) hK MR (Qr E (Aq.mono ∅) (Jo.mono ∅)) (by walk_at "7") LR
  have Au:cq G 1 "need_way" pM:=zt.fg (k:=0) hK M5 (QD E) (by walk_at "7") LU
  have kn:cq G 3 "need_points_and_way" jF:=HZ.fg (k:=2) hK T7 (Vz E (Ak.mono ∅) (Au.mono ∅)) (by walk_at "7") Td
  have nq:cq G 1 "far_between" mh:=y8.fg (k:=0) hK MM (Qn E) (by walk_at "7") S8
  have oF:cq G 2 "pairs_by_places" fB:=Ie.fg (k:=1) hK Ub (VD E (nq.mono ∅)) (by walk_at "7") Eg
  have jW:cq G 4 "all_pairs" fX:=zp.fg (k:=3) hK M1 (QA E (kn.mono ∅) (oF.mono ∅)) (by walk_at "7") LC
  have Aj:cq G 1 "need_number" pK:=zc.fg (k:=0) hK MQ (Qq E) (by walk_at "7") LQ
  have tQ:cq G 5 "so_manieth_pair" pH:=Ig.fg (k:=4) hK Uc (VE E (jW.mono ∅) (Aj.mono ∅)) (by walk_at "7") Ta
  have Ai:cq G 4 "nearest_two" uD:=zb.fg (k:=3) hK MP (Qp E (kn.mono ∅) (oF.mono ∅)) (by walk_at "7") Tf
  have Al:f6 G 2 "_law_bounds" jA:=zg.UP (k:=1) hK MS (Qs E (bS.mono ∅)) ∅ (by walk_at "8") Bc
  have Ap:cq G 1 "need_bound" jC:=zl.fg (k:=0) hK MY (Qx E) (by walk_at "7") Bf
  have cm:cq G 4 "near_pairs" dG:=zk.fg (k:=3) hK MX (Qw E (kn.mono ∅) (Ap.mono ∅) (oF.mono ∅)) (by walk_at "7") LO
  have Js:cq G 5 "how_many_near" pI:=Ih.fg (k:=4) hK Ud (VF E (cm.mono ∅)) (by walk_at "7") LK
  have Ah:cq G 5 "near_counts" jB:=za.fg (k:=4) hK MN (Qo E (cm.mono ∅)) (by walk_at "7") Be
  have u6:cq G 1 "need_place" jE:=zo.fg (k:=0) hK M0 (Qz E) (by walk_at "7") Bh
  have Av:cq G 4 "how_far" uA:=zu.fg (k:=3) hK M6 (QE E (kn.mono ∅) (u6.mono ∅) (nq.mono ∅)) (by walk_at "7") S9
  have Jq:cq G 6 "_law_bound_right" uy:=Ib.fg (k:=5) hK T9 (VB E (cm.mono ∅) (Js.mono ∅) (Ah.mono ∅) (tQ.mono ∅) (Av.mono ∅)) (by walk_at "7") S7
  have Jt:cq G 1 "need_at_most" pJ:=Ij.fg (k:=0) hK Ug (VH E) (by walk_at "7") LN
  have tP:∀n,cq G (0+n) "most_of" (i6 n):=by
    intro n
    induction n with
    | zero=>exact DA uX
    | succ n ih=>exact uX.fg (k:=0+n) hK M7 (QF E ih) (by walk_at "7") (LL n)
  have nu:cq G 15 "most_of" (i6 15):=tP 15;have Ao:cq G 16 "most_apart" l0:=zj.fg (k:=15) hK MV (Qv E (cm.mono ∅) (Jt.mono ∅) (nu.mono ∅)) (by walk_at "7") Ef
  have Jp:cq G 17 "_law_apart_right" pE:=Ia.fg (k:=16) hK T8 (VA E (Ao.mono ∅) (cm.mono ∅)) (by walk_at "7") LD
  have Am:cq G 1 "_law_halved" pG:=zh.fg (k:=0) hK MT (Qt E) (by walk_at "7") LJ
  have Jr:cq G 5 "_law_moved_right" uB:=Ic.fg (k:=4) hK Ua (VC E (cm.mono ∅)) (by walk_at "7") Tb
  have DI:f6 G 2 "_law_drawn_far" pF:=Ii.UP (k:=1) hK Ue (VG E (bS.mono ∅)) ∅ (by walk_at "8") LI
  refine(Gf (k:=17) (sp:=BM) hK zv.F M8 (QG E (As.mono ∅) (An.mono ∅) (bS.mono ∅) (jW.mono ∅) (tQ.mono ∅) (Ai.mono ∅) (Al.mono ∅) (Jq.mono ∅) (Jp.mono ∅) (Am.mono ∅) (Jr.mono ∅) (DI.mono ∅) (cm.mono ∅)) (by walk_at "7") Te).imp λvs H Q E' h=>?_
  obtain⟨a,ns,rfl,hS,hl,q⟩:=h;refine⟨H,[.fk ns],λb=>b=.sh (.bl true),⟨aA.refl _,λq hq=>by rw[hT]at hq;cases hq⟩,.cons (.fk (by rw[<- hK];exact hS)) .nil,⟨ns,rfl,hl,rfl⟩,λv H' F' b _ _ _ _ r e=>?_⟩
  subst e;have r:Rep F' v (.bl true):=r;cases r;exact q H'
end
open PySem.W in
theorem all_mk{l:OpenLaw}{w:World}{K:Frag}{h:Heap}{mg:Str->Option Value}{fa:Addr}(X:K.In h)(Gs:h.Ns mainGlobals mg)(ZI:mg "law"=some (.ref fa))
 {qH zO qA qM zP qI qG qz zY qw zU qN qJ qF zW zV qx qO qE qy qK qL qD qB zR zX qC zS zQ nj:Addr}
 {Ld Hh SH Pl K6 Ha Li Hn SJ Pm Le Hj Lc Hg K5 G9 SW Px K2 G6 SQ Pr Lj Ho Lf Hk Lb Hf SU Pu SR Pt K3 G7 Lk Hq La He K4 G8 Lg Hl Lh Hm K9 Hd K7 Hb SM Pp SV Pw K8 Hc SN Pq SK Pn Ln yw:Option Addr}
 {Nv Uh Nm NB Ui Nx Nu Nk Ur Nh Um NC Ny Nt Up Uo Ni ND Nr Nj Nz NA Nq Nn Uk Uq Np Ul Uj NF:Array (Option Value)}
 {KQ Kf IA Ms yQ HL Sv RT P0 Tr FU PJ KH J8 Iq Mj yJ HD KY Kk IH Mx yV HU Sw RU Qa Ts FV PL KR Kg IB Mt yR HM KP Ke Iz Mr yP HK KG J7 Io Mi yI HC SG R9 Qj TH Ga PZ KA J4 Ik Mf yF Hz SA RY Qf Tx FZ PU KZ Kl II My yW HV KS Kh IC Mu yS HN KO Kd Iy Mq yO HJ SE R7 Qh TC F8 PX SD RZ Qg Tz F7 PV KC J5 Il Mg yG HA K0 Km IJ Mz yX HW KN Kc Iw Mp yN HH KD J6 Im Mh yH HB KU Ki IE Mv yT HP KW Kj IG Mw yU HR KL Kb Iv Mm yM HG KI J9 Ir Mk yK HE Sy RW Qc Tv FX PQ SF R8 Qi TF F9 PY KJ Ka Iu Ml yL HF Sz RX Qe Tw FY PR Sx RV Qb Tt FW PN K1 AX zF Br tG yZ:Value}
  {fE:Tok}
  {uH:Tok}
  {uI:Tok}
  (a_q22:nsIn K mainGlobals "need_count"=some (some (.ref qH)))
  (l_q22:K.lookup qH=some ⟨KQ,Ld,.func (fnOf "need_count" "need_count" (aO iP) (av iP) (ai iP) .none Kf IA Ms Hh yQ HL),Nv⟩)
  (c_q22:codeIn K yQ "need_count"=true) (k_q22:keepIn K (.ref qH)=true)
  (a_q0:nsIn K mainGlobals "need_as_many_numbers"=some (some (.ref zO)))
  (l_q0:K.lookup zO=some ⟨Sv,SH,.func (fnOf "need_as_many_numbers" "need_as_many_numbers" (aO o7) (av o7) (ai o7) .none RT P0 Tr Pl FU PJ),Uh⟩)
  (c_q0:codeIn K FU "need_as_many_numbers"=true) (k_q0:keepIn K (.ref zO)=true)
  (a_q15:nsIn K mainGlobals "need_points"=some (some (.ref qA)))
  (l_q15:K.lookup qA=some ⟨KH,K6,.func (fnOf "need_points" "need_points" (aO iH) (av iH) (ai iH) .none J8 Iq Mj Ha yJ HD),Nm⟩)
  (c_q15:codeIn K yJ "need_points"=true) (k_q15:keepIn K (.ref qA)=true)
  (a_q27:nsIn K mainGlobals "need_way"=some (some (.ref qM)))
  (l_q27:K.lookup qM=some ⟨KY,Li,.func (fnOf "need_way" "need_way" (aO iV) (av iV) (ai iV) .none Kk IH Mx Hn yV HU),NB⟩)
  (c_q27:codeIn K yV "need_way"=true) (k_q27:keepIn K (.ref qM)=true)
  (a_q1:nsIn K mainGlobals "need_points_and_way"=some (some (.ref zP)))
  (l_q1:K.lookup zP=some ⟨Sw,SJ,.func (fnOf "need_points_and_way" "need_points_and_way" (aO o8) (av o8) (ai o8) .none RU Qa Ts Pm FV PL),Ui⟩)
  (c_q1:codeIn K FV "need_points_and_way"=true) (k_q1:keepIn K (.ref zP)=true)
  (a_q23:nsIn K mainGlobals "need_place"=some (some (.ref qI)))
  (l_q23:K.lookup qI=some ⟨KR,Le,.func (fnOf "need_place" "need_place" (aO iQ) (av iQ) (ai iQ) .none Kg IB Mt Hj yR HM),Nx⟩)
  (c_q23:codeIn K yR "need_place"=true) (k_q23:keepIn K (.ref qI)=true)
  (a_q21:nsIn K mainGlobals "need_bound"=some (some (.ref qG)))
  (l_q21:K.lookup qG=some ⟨KP,Lc,.func (fnOf "need_bound" "need_bound" (aO iO) (av iO) (ai iO) .none Ke Iz Mr Hg yP HK),Nu⟩)
  (c_q21:codeIn K yP "need_bound"=true) (k_q21:keepIn K (.ref qG)=true)
  (a_q14:nsIn K mainGlobals "need_number"=some (some (.ref qz)))
  (l_q14:K.lookup qz=some ⟨KG,K5,.func (fnOf "need_number" "need_number" (aO iG) (av iG) (ai iG) .none J7 Io Mi G9 yI HC),Nk⟩)
  (c_q14:codeIn K yI "need_number"=true) (k_q14:keepIn K (.ref qz)=true)
  (a_q9:nsIn K mainGlobals "need_at_most"=some (some (.ref zY)))
  (l_q9:K.lookup zY=some ⟨SG,SW,.func (fnOf "need_at_most" "need_at_most" (aO pv) (av pv) (ai pv) .none R9 Qj TH Px Ga PZ),Ur⟩)
  (c_q9:codeIn K Ga "need_at_most"=true) (k_q9:keepIn K (.ref zY)=true)
  (a_q10:nsIn K mainGlobals "far_between"=some (some (.ref qw)))
  (l_q10:K.lookup qw=some ⟨KA,K2,.func (fnOf "far_between" "far_between" (aO iC) (av iC) (ai iC) .none J4 Ik Mf G6 yF Hz),Nh⟩)
  (c_q10:codeIn K yF "far_between"=true) (k_q10:keepIn K (.ref qw)=true)
  (a_q5:nsIn K mainGlobals "pairs_by_places"=some (some (.ref zU)))
  (l_q5:K.lookup zU=some ⟨SA,SQ,.func (fnOf "pairs_by_places" "pairs_by_places" (aO pg) (av pg) (ai pg) .none RY Qf Tx Pr FZ PU),Um⟩)
  (c_q5:codeIn K FZ "pairs_by_places"=true) (k_q5:keepIn K (.ref zU)=true)
  (a_q28:nsIn K mainGlobals "how_far"=some (some (.ref qN)))
  (l_q28:K.lookup qN=some ⟨KZ,Lj,.func (fnOf "how_far" "how_far" (aO iW) (av iW) (ai iW) .none Kl II My Ho yW HV),NC⟩)
  (c_q28:codeIn K yW "how_far"=true) (k_q28:keepIn K (.ref qN)=true)
  (a_q24:nsIn K mainGlobals "all_pairs"=some (some (.ref qJ)))
  (l_q24:K.lookup qJ=some ⟨KS,Lf,.func (fnOf "all_pairs" "all_pairs" (aO iR) (av iR) (ai iR) .none Kh IC Mu Hk yS HN),Ny⟩)
  (c_q24:codeIn K yS "all_pairs"=true) (k_q24:keepIn K (.ref qJ)=true)
  (a_q20:nsIn K mainGlobals "near_pairs"=some (some (.ref qF)))
  (l_q20:K.lookup qF=some ⟨KO,Lb,.func (fnOf "near_pairs" "near_pairs" (aO iM) (av iM) (ai iM) .none Kd Iy Mq Hf yO HJ),Nt⟩)
  (c_q20:codeIn K yO "near_pairs"=true) (k_q20:keepIn K (.ref qF)=true)
  (a_q7:nsIn K mainGlobals "how_many_near"=some (some (.ref zW)))
  (l_q7:K.lookup zW=some ⟨SE,SU,.func (fnOf "how_many_near" "how_many_near" (aO pj) (av pj) (ai pj) .none R7 Qh TC Pu F8 PX),Up⟩)
  (c_q7:codeIn K F8 "how_many_near"=true) (k_q7:keepIn K (.ref zW)=true)
  (a_q6:nsIn K mainGlobals "so_manieth_pair"=some (some (.ref zV)))
  (l_q6:K.lookup zV=some ⟨SD,SR,.func (fnOf "so_manieth_pair" "so_manieth_pair" (aO ph) (av ph) (ai ph) .none RZ Qg Tz Pt F7 PV),Uo⟩)
  (c_q6:codeIn K F7 "so_manieth_pair"=true) (k_q6:keepIn K (.ref zV)=true)
  (a_q12:nsIn K mainGlobals "near_counts"=some (some (.ref qx)))
  (l_q12:K.lookup qx=some ⟨KC,K3,.func (fnOf "near_counts" "near_counts" (aO iD) (av iD) (ai iD) .none J5 Il Mg G7 yG HA),Ni⟩)
  (c_q12:codeIn K yG "near_counts"=true) (k_q12:keepIn K (.ref qx)=true)
  (a_q29:nsIn K mainGlobals "most_of"=some (some (.ref qO)))
  (l_q29:K.lookup qO=some ⟨K0,Lk,.func (fnOf "most_of" "most_of" (aO iX) (av iX) (ai iX) .none Km IJ Mz Hq yX HW),ND⟩)
  (c_q29:codeIn K yX "most_of"=true) (k_q29:keepIn K (.ref qO)=true)
  (a_q19:nsIn K mainGlobals "most_apart"=some (some (.ref qE)))
  (l_q19:K.lookup qE=some ⟨KN,La,.func (fnOf "most_apart" "most_apart" (aO iL) (av iL) (ai iL) .none Kc Iw Mp He yN HH),Nr⟩)
  (c_q19:codeIn K yN "most_apart"=true) (k_q19:keepIn K (.ref qE)=true)
  (a_q13:nsIn K mainGlobals "nearest_two"=some (some (.ref qy)))
  (l_q13:K.lookup qy=some ⟨KD,K4,.func (fnOf "nearest_two" "nearest_two" (aO iE) (av iE) (ai iE) .none J6 Im Mh G8 yH HB),Nj⟩)
  (c_q13:codeIn K yH "nearest_two"=true) (k_q13:keepIn K (.ref qy)=true)
  (a_q25:nsIn K mainGlobals "_law_reel"=some (some (.ref qK)))
  (l_q25:K.lookup qK=some ⟨KU,Lg,.func (fnOf "_law_reel" "_law_reel" (aO iT) (av iT) (ai iT) .none Ki IE Mv Hl yT HP),Nz⟩)
  (c_q25:codeIn K yT "_law_reel"=true) (k_q25:keepIn K (.ref qK)=true)
  (a_q26:nsIn K mainGlobals "_law_take"=some (some (.ref qL)))
  (l_q26:K.lookup qL=some ⟨KW,Lh,.func (fnOf "_law_take" "_law_take" (aO iU) (av iU) (ai iU) .none Kj IG Mw Hm yU HR),NA⟩)
  (c_q26:codeIn K yU "_law_take"=true) (k_q26:keepIn K (.ref qL)=true)
  (a_q18:nsIn K mainGlobals "_law_points"=some (some (.ref qD)))
  (l_q18:K.lookup qD=some ⟨KL,K9,.func (fnOf "_law_points" "_law_points" (aO iK) (av iK) (ai iK) .none Kb Iv Mm Hd yM HG),Nq⟩)
  (c_q18:codeIn K yM "_law_points"=true) (k_q18:keepIn K (.ref qD)=true)
  (a_q16:nsIn K mainGlobals "_law_bounds"=some (some (.ref qB)))
  (l_q16:K.lookup qB=some ⟨KI,K7,.func (fnOf "_law_bounds" "_law_bounds" (aO iI) (av iI) (ai iI) .none J9 Ir Mk Hb yK HE),Nn⟩)
  (c_q16:codeIn K yK "_law_bounds"=true) (k_q16:keepIn K (.ref qB)=true)
  (a_q3:nsIn K mainGlobals "_law_bound_right"=some (some (.ref zR)))
  (l_q3:K.lookup zR=some ⟨Sy,SM,.func (fnOf "_law_bound_right" "_law_bound_right" (aO pd) (av pd) (ai pd) .none RW Qc Tv Pp FX PQ),Uk⟩)
  (c_q3:codeIn K FX "_law_bound_right"=true) (k_q3:keepIn K (.ref zR)=true)
  (a_q8:nsIn K mainGlobals "_law_drawn_far"=some (some (.ref zX)))
  (l_q8:K.lookup zX=some ⟨SF,SV,.func (fnOf "_law_drawn_far" "_law_drawn_far" (aO pq) (av pq) (ai pq) .none R8 Qi TF Pw F9 PY),Uq⟩)
  (c_q8:codeIn K F9 "_law_drawn_far"=true) (k_q8:keepIn K (.ref zX)=true)
  (a_q17:nsIn K mainGlobals "_law_halved"=some (some (.ref qC)))
  (l_q17:K.lookup qC=some ⟨KJ,K8,.func (fnOf "_law_halved" "_law_halved" (aO iJ) (av iJ) (ai iJ) .none Ka Iu Ml Hc yL HF),Np⟩)
  (c_q17:codeIn K yL "_law_halved"=true) (k_q17:keepIn K (.ref qC)=true)
  (a_q4:nsIn K mainGlobals "_law_moved_right"=some (some (.ref zS)))
  (l_q4:K.lookup zS=some ⟨Sz,SN,.func (fnOf "_law_moved_right" "_law_moved_right" (aO pe) (av pe) (ai pe) .none RX Qe Tw Pq FY PR),Ul⟩)
  (c_q4:codeIn K FY "_law_moved_right"=true) (k_q4:keepIn K (.ref zS)=true)
  (a_q2:nsIn K mainGlobals "_law_apart_right"=some (some (.ref zQ)))
  (l_q2:K.lookup zQ=some ⟨Sx,SK,.func (fnOf "_law_apart_right" "_law_apart_right" (aO o9) (av o9) (ai o9) .none RV Qb Tt Pn FW PN),Uj⟩)
  (c_q2:codeIn K FW "_law_apart_right"=true) (k_q2:keepIn K (.ref zQ)=true)
  (a_q30:nsIn K mainGlobals "law"=some (some (.ref nj)))
  (l_q30:K.lookup nj=some ⟨K1,Ln,.func (fnOf "law" "law" (aO fc) (av fc) (ai fc) .none AX zF Br yw tG yZ),NF⟩)
  (c_q30:codeIn K tG "law"=true) (k_q30:keepIn K (.ref nj)=true)
  (z_abs:nsIn K mainGlobals "abs"=some none)
  (z_enumerate:nsIn K mainGlobals "enumerate"=some none)
  (z_int:nsIn K mainGlobals "int"=some none)
  (z_len:nsIn K mainGlobals "len"=some none)
  (z_list:nsIn K mainGlobals "list"=some none)
  (z_max:nsIn K mainGlobals "max"=some none)
  (z_min:nsIn K mainGlobals "min"=some none)
  (z_range:nsIn K mainGlobals "range"=some none)
  (z_set:nsIn K mainGlobals "set"=some none)
  (z_sorted:nsIn K mainGlobals "sorted"=some none)
  (z_sum:nsIn K mainGlobals "sum"=some none)
  (z_tuple:nsIn K mainGlobals "tuple"=some none)
  (z_zip:nsIn K mainGlobals "zip"=some none)
  (u_MOST_POINTS_APART:nsIn K mainGlobals "MOST_POINTS_APART"=some (some (.int (14) fE)))
  (u_SQUARES:nsIn K mainGlobals "SQUARES"=some (some (.str "squares" uH)))
  (u_STREETS:nsIn K mainGlobals "STREETS"=some (some (.str "streets" uI))):
  ∃fd:FuncData,(∀(s:Shared) (v:Value),BindsTo s fd ⟨[v],[]⟩ [("script",v)])/\∀base:Heap,K.In base->base.Ns mainGlobals mg->d9 l.prog w K mg base sW 18 fa fd ["script"] (vS K):=by
 have e:=ZI.symm.trans (mg_of X Gs a_q30);cases e;refine⟨fnOf "law" "law" (aO fc) (av fc) (ai fc) .none AX zF Br yw tG yZ,λs v=>.of_eq rfl,λbase _ _=>?_⟩
 letI:KF:=⟨K,λ_=>0,[]⟩
 have E:Gl ⟨l.prog,w,K,mg,base⟩:=⟨mg_none_of X Gs z_abs,mg_none_of X Gs z_enumerate,mg_none_of X Gs z_int,mg_none_of X Gs z_len,mg_none_of X Gs z_list,mg_none_of X Gs z_max,mg_none_of X Gs z_min,mg_none_of X Gs z_range,mg_none_of X Gs z_set,mg_none_of X Gs z_sorted,mg_none_of X Gs z_sum,mg_none_of X Gs z_tuple,mg_none_of X Gs z_zip,⟨_,.int (14),mg_of X Gs u_MOST_POINTS_APART,⟨_,rfl⟩,λF=>.int _⟩,⟨_,.str "squares",mg_of X Gs u_SQUARES,⟨_,rfl⟩,λF=>.str _⟩,⟨_,.str "streets",mg_of X Gs u_STREETS,⟨_,rfl⟩,λF=>.str _⟩⟩;have FG:=bu (K:=K) (st:=iP) l_q22 c_q22 k_q22;have zm:cG ⟨l.prog,w,K,mg,base⟩ "need_count" iP ["count"] _ _:=⟨FG,mg_of X Gs a_q22,FG.binds λ_ _ _ _ _ _ us hl=>D0 (λ_=>rfl) us hl⟩;have OY:=bu (K:=K) (st:=o7) l_q0 c_q0 k_q0;have HY:cG ⟨l.prog,w,K,mg,base⟩ "need_as_many_numbers" o7 ["point","count"] _ _:=⟨OY,mg_of X Gs a_q0,OY.binds λ_ _ _ _ _ _ us hl=>ln2 (λ_ _=>rfl) us hl⟩;have Fx:=bu (K:=K) (st:=iH) l_q15 c_q15 k_q15;have zf:cG ⟨l.prog,w,K,mg,base⟩ "need_points" iH ["points"] _ _:=⟨Fx,mg_of X Gs a_q15,Fx.binds λ_ _ _ _ _ _ us hl=>D0 (λ_=>rfl) us hl⟩;have FL:=bu (K:=K) (st:=iV) l_q27 c_q27 k_q27;have zt:cG ⟨l.prog,w,K,mg,base⟩ "need_way" iV ["way"] _ _:=⟨FL,mg_of X Gs a_q27,FL.binds λ_ _ _ _ _ _ us hl=>D0 (λ_=>rfl) us hl⟩;have OZ:=bu (K:=K) (st:=o8) l_q1 c_q1 k_q1;have HZ:cG ⟨l.prog,w,K,mg,base⟩ "need_points_and_way" o8 ["points","way"] _ _:=⟨OZ,mg_of X Gs a_q1,OZ.binds λ_ _ _ _ _ _ us hl=>ln2 (λ_ _=>rfl) us hl⟩;have FH:=bu (K:=K) (st:=iQ) l_q23 c_q23 k_q23;have zo:cG ⟨l.prog,w,K,mg,base⟩ "need_place" iQ ["points","place"] _ _:=⟨FH,mg_of X Gs a_q23,FH.binds λ_ _ _ _ _ _ us hl=>ln2 (λ_ _=>rfl) us hl⟩;have FE:=bu (K:=K) (st:=iO) l_q21 c_q21 k_q21;have zl:cG ⟨l.prog,w,K,mg,base⟩ "need_bound" iO ["bound"] _ _:=⟨FE,mg_of X Gs a_q21,FE.binds λ_ _ _ _ _ _ us hl=>D0 (λ_=>rfl) us hl⟩;have Fv:=bu (K:=K) (st:=iG) l_q14 c_q14 k_q14;have zc:cG ⟨l.prog,w,K,mg,base⟩ "need_number" iG ["number"] _ _:=⟨Fv,mg_of X Gs a_q14,Fv.binds λ_ _ _ _ _ _ us hl=>D0 (λ_=>rfl) us hl⟩;have O7:=bu (K:=K) (st:=pv) l_q9 c_q9 k_q9;have Ij:cG ⟨l.prog,w,K,mg,base⟩ "need_at_most" pv ["points","many"] _ _:=⟨O7,mg_of X Gs a_q9,O7.binds λ_ _ _ _ _ _ us hl=>ln2 (λ_ _=>rfl) us hl⟩;have Fs:=bu (K:=K) (st:=iC) l_q10 c_q10 k_q10;have y8:cG ⟨l.prog,w,K,mg,base⟩ "far_between" iC ["way","point","other"] _ _:=⟨Fs,mg_of X Gs a_q10,Fs.binds λ_ _ _ _ _ _ us hl=>C3 (λ_ _ _=>rfl) us hl⟩;have O3:=bu (K:=K) (st:=pg) l_q5 c_q5 k_q5;have Ie:cG ⟨l.prog,w,K,mg,base⟩ "pairs_by_places" pg ["points","way"] _ _:=⟨O3,mg_of X Gs a_q5,O3.binds λ_ _ _ _ _ _ us hl=>ln2 (λ_ _=>rfl) us hl⟩
 have FN:=bu (K:=K) (st:=iW) l_q28 c_q28 k_q28;have zu:cG ⟨l.prog,w,K,mg,base⟩ "how_far" iW ["points","way","one","other"] _ _:=⟨FN,mg_of X Gs a_q28,FN.binds λ_ _ _ _ _ _ us hl=>W7 (λ_ _ _ _=>rfl) us hl⟩;have FI:=bu (K:=K) (st:=iR) l_q24 c_q24 k_q24;have zp:cG ⟨l.prog,w,K,mg,base⟩ "all_pairs" iR ["points","way"] _ _:=⟨FI,mg_of X Gs a_q24,FI.binds λ_ _ _ _ _ _ us hl=>ln2 (λ_ _=>rfl) us hl⟩;have FD:=bu (K:=K) (st:=iM) l_q20 c_q20 k_q20;have zk:cG ⟨l.prog,w,K,mg,base⟩ "near_pairs" iM ["points","way","bound"] _ _:=⟨FD,mg_of X Gs a_q20,FD.binds λ_ _ _ _ _ _ us hl=>C3 (λ_ _ _=>rfl) us hl⟩;have O5:=bu (K:=K) (st:=pj) l_q7 c_q7 k_q7;have Ih:cG ⟨l.prog,w,K,mg,base⟩ "how_many_near" pj ["points","way","bound"] _ _:=⟨O5,mg_of X Gs a_q7,O5.binds λ_ _ _ _ _ _ us hl=>C3 (λ_ _ _=>rfl) us hl⟩;have O4:=bu (K:=K) (st:=ph) l_q6 c_q6 k_q6;have Ig:cG ⟨l.prog,w,K,mg,base⟩ "so_manieth_pair" ph ["points","way","number"] _ _:=⟨O4,mg_of X Gs a_q6,O4.binds λ_ _ _ _ _ _ us hl=>C3 (λ_ _ _=>rfl) us hl⟩;have Ft:=bu (K:=K) (st:=iD) l_q12 c_q12 k_q12;have za:cG ⟨l.prog,w,K,mg,base⟩ "near_counts" iD ["points","way","bound"] _ _:=⟨Ft,mg_of X Gs a_q12,Ft.binds λ_ _ _ _ _ _ us hl=>C3 (λ_ _ _=>rfl) us hl⟩;have FO:=bu (K:=K) (st:=iX) l_q29 c_q29 k_q29;have uX:cG ⟨l.prog,w,K,mg,base⟩ "most_of" iX ["places","near"] _ _:=⟨FO,mg_of X Gs a_q29,FO.binds λ_ _ _ _ _ _ us hl=>ln2 (λ_ _=>rfl) us hl⟩;have FC:=bu (K:=K) (st:=iL) l_q19 c_q19 k_q19;have zj:cG ⟨l.prog,w,K,mg,base⟩ "most_apart" iL ["points","way","bound"] _ _:=⟨FC,mg_of X Gs a_q19,FC.binds λ_ _ _ _ _ _ us hl=>C3 (λ_ _ _=>rfl) us hl⟩;have Fu:=bu (K:=K) (st:=iE) l_q13 c_q13 k_q13;have zb:cG ⟨l.prog,w,K,mg,base⟩ "nearest_two" iE ["points","way"] _ _:=⟨Fu,mg_of X Gs a_q13,Fu.binds λ_ _ _ _ _ _ us hl=>ln2 (λ_ _=>rfl) us hl⟩;have FJ:=bu (K:=K) (st:=iT) l_q25 c_q25 k_q25;have zq:cG ⟨l.prog,w,K,mg,base⟩ "_law_reel" iT ["cell"] _ _:=⟨FJ,mg_of X Gs a_q25,FJ.binds λ_ _ _ _ _ _ us hl=>D0 (λ_=>rfl) us hl⟩;have FK:=bu (K:=K) (st:=iU) l_q26 c_q26 k_q26;have zr:cG ⟨l.prog,w,K,mg,base⟩ "_law_take" iU ["reel","many"] _ _:=⟨FK,mg_of X Gs a_q26,FK.binds λ_ _ _ _ _ _ us hl=>ln2 (λ_ _=>rfl) us hl⟩;have FA:=bu (K:=K) (st:=iK) l_q18 c_q18 k_q18;have zi:cG ⟨l.prog,w,K,mg,base⟩ "_law_points" iK ["reel","most"] _ _:=⟨FA,mg_of X Gs a_q18,FA.binds λ_ _ _ _ _ _ us hl=>ln2 (λ_ _=>rfl) us hl⟩;have Fy:=bu (K:=K) (st:=iI) l_q16 c_q16 k_q16;have zg:cG ⟨l.prog,w,K,mg,base⟩ "_law_bounds" iI ["reel","pairs","least"] _ _:=⟨Fy,mg_of X Gs a_q16,Fy.binds λ_ _ _ _ _ _ us hl=>C3 (λ_ _ _=>rfl) us hl⟩;have O1:=bu (K:=K) (st:=pd) l_q3 c_q3 k_q3
 have Ib:cG ⟨l.prog,w,K,mg,base⟩ "_law_bound_right" pd ["points","way","pairs","bound"] _ _:=⟨O1,mg_of X Gs a_q3,O1.binds λ_ _ _ _ _ _ us hl=>W7 (λ_ _ _ _=>rfl) us hl⟩;have O6:=bu (K:=K) (st:=pq) l_q8 c_q8 k_q8;have Ii:cG ⟨l.prog,w,K,mg,base⟩ "_law_drawn_far" pq ["reel","pairs"] _ _:=⟨O6,mg_of X Gs a_q8,O6.binds λ_ _ _ _ _ _ us hl=>ln2 (λ_ _=>rfl) us hl⟩;have Fz:=bu (K:=K) (st:=iJ) l_q17 c_q17 k_q17;have zh:cG ⟨l.prog,w,K,mg,base⟩ "_law_halved" iJ ["points"] _ _:=⟨Fz,mg_of X Gs a_q17,Fz.binds λ_ _ _ _ _ _ us hl=>D0 (λ_=>rfl) us hl⟩;have O2:=bu (K:=K) (st:=pe) l_q4 c_q4 k_q4;have Ic:cG ⟨l.prog,w,K,mg,base⟩ "_law_moved_right" pe ["points","way","bound"] _ _:=⟨O2,mg_of X Gs a_q4,O2.binds λ_ _ _ _ _ _ us hl=>C3 (λ_ _ _=>rfl) us hl⟩;have O0:=bu (K:=K) (st:=o9) l_q2 c_q2 k_q2;have Ia:cG ⟨l.prog,w,K,mg,base⟩ "_law_apart_right" o9 ["points","way","bound"] _ _:=⟨O0,mg_of X Gs a_q2,O0.binds λ_ _ _ _ _ _ us hl=>C3 (λ_ _ _=>rfl) us hl⟩;have FP:=bu (K:=K) (st:=fc) l_q30 c_q30 k_q30;have zv:cG ⟨l.prog,w,K,mg,base⟩ "law" fc ["script"] _ _:=⟨FP,mg_of X Gs a_q30,FP.binds λ_ _ _ _ _ _ us hl=>D0 (λ_=>rfl) us hl⟩;exact Lp rfl rfl E zm HY zf zt HZ zo zl zc Ij y8 Ie zu zp zk Ih Ig za uX zj zb zq zr zi zg Ib Ii zh Ic Ia zv
theorem walk{l:PySem.W.OpenLaw}{q:Program}{loose:List Str}{XP:(Str->Option Value)->Heap->Prop}{YP:World->Heap->Prop}{d:DefRec}{K:Params->PySem.W.Frag}(hn:l.most=some 63)(Rf:d.params.defaults=[])
  (hY:∀(w:World) (h:Heap),YP w h->(K w.params).In h)
  (F:∀(w:World) (mg:Str->Option Value) (fa:Addr) (h:Heap),(K w.params).In h->h.Ns mainGlobals mg->mg d.name=some (.ref fa) ->
   ∃fd:FuncData,(∀(s:Shared) (u:Value),BindsTo s fd ⟨[u],[]⟩ [("script",u)])/\∀base:Heap,(K w.params).In base->base.Ns mainGlobals mg->d9 l.prog w (K w.params) mg base sW 18 fa fd ["script"] (vS (K w.params))):
  PySem.W.WalkO q loose XP YP l.row.toRowW d [] (λf vs=>PySem.call f vs):=
 L2.E8 (n:=63) (k:=18) (x:="script") (CX:=λ_=>sW) (sp:=λw=>vS (K w.params)) hn ∅ Rf ⟨rfl,by decide,by decide⟩ hY F (λ_ _ a ns hl _ hS=>⟨a,ns,rfl,hS,hl,λ_=>rfl⟩) λ_ _ _ _ _ z=>z
end Vm
namespace PySem.W.Fast
theorem tw1005603538396398631:True:=⟨⟩
theorem tw10186230786721403947:True:=⟨⟩
theorem tw10339365072064131387:True:=⟨⟩
theorem tw10352479717649542975:True:=⟨⟩
theorem tw10488372915174529849:True:=⟨⟩
theorem tw10539350992608458522:True:=⟨⟩
theorem tw10723930769608633848:True:=⟨⟩
theorem tw1079687731246292413:True:=⟨⟩
theorem tw10831257198485876370:True:=⟨⟩
theorem tw10885066483718481737:True:=⟨⟩
theorem tw10900668456134413721:True:=⟨⟩
theorem tw11057342365101679094:True:=⟨⟩
theorem tw1110582806919158601:True:=⟨⟩
theorem tw11288379759702425197:True:=⟨⟩
theorem tw11331124534261037692:True:=⟨⟩
theorem tw11335474921996732186:True:=⟨⟩
theorem tw11462192335233325687:True:=⟨⟩
theorem tw11471843979333019645:True:=⟨⟩
theorem tw11474634783461080410:True:=⟨⟩
theorem tw11481103646098010433:True:=⟨⟩
theorem tw11565754290666935970:True:=⟨⟩
theorem tw11588134033781302491:True:=⟨⟩
theorem tw11700059691438930596:True:=⟨⟩
theorem tw1202447765388645018:True:=⟨⟩
theorem tw12077426338633430266:True:=⟨⟩
theorem tw12083325781990809998:True:=⟨⟩
theorem tw12162192320369188018:True:=⟨⟩
theorem tw12211270911199609561:True:=⟨⟩
theorem tw12249486845987675046:True:=⟨⟩
theorem tw12268257084718798071:True:=⟨⟩
theorem tw12305239526188390815:True:=⟨⟩
theorem tw12370625347299949583:True:=⟨⟩
theorem tw12495569072086528040:True:=⟨⟩
theorem tw1256338855244449191:True:=⟨⟩
theorem tw12655661033484414871:True:=⟨⟩
theorem tw12813175648675254845:True:=⟨⟩
theorem tw12898807411444494790:True:=⟨⟩
theorem tw12952236228656886592:True:=⟨⟩
theorem tw13049196529063586478:True:=⟨⟩
theorem tw1307576199103741679:True:=⟨⟩
theorem tw13158326919465151875:True:=⟨⟩
theorem tw13178714028070288895:True:=⟨⟩
theorem tw13237109704972528919:True:=⟨⟩
theorem tw13275177846662014166:True:=⟨⟩
theorem tw13291038954873254680:True:=⟨⟩
theorem tw13294274214629560923:True:=⟨⟩
theorem tw13454283290907361631:True:=⟨⟩
theorem tw1361476357909855436:True:=⟨⟩
theorem tw1363470925141354038:True:=⟨⟩
theorem tw13669496935858318365:True:=⟨⟩
theorem tw13708980580373982133:True:=⟨⟩
theorem tw13885276351742227127:True:=⟨⟩
theorem tw1392407495724330377:True:=⟨⟩
theorem tw14108953891068506869:True:=⟨⟩
theorem tw14355452700699886306:True:=⟨⟩
theorem tw14705167315022179629:True:=⟨⟩
theorem tw14717563053800232198:True:=⟨⟩
theorem tw14907334811221714363:True:=⟨⟩
theorem tw14966494775248019882:True:=⟨⟩
theorem tw15025190049960948701:True:=⟨⟩
theorem tw15145428192220846431:True:=⟨⟩
theorem tw15178117500400953255:True:=⟨⟩
theorem tw15393382856881253881:True:=⟨⟩
theorem tw15401328155863977003:True:=⟨⟩
theorem tw1548616939167835700:True:=⟨⟩
theorem tw15652052889422332765:True:=⟨⟩
theorem tw15742822027044569987:True:=⟨⟩
theorem tw15771672526705097037:True:=⟨⟩
theorem tw15773618525032608916:True:=⟨⟩
theorem tw15782490011425522100:True:=⟨⟩
theorem tw15933253456955380665:True:=⟨⟩
theorem tw15998529218119919464:True:=⟨⟩
theorem tw16277256953791313332:True:=⟨⟩
theorem tw16337608325926292933:True:=⟨⟩
theorem tw16501158342424771553:True:=⟨⟩
theorem tw16517839442560525123:True:=⟨⟩
theorem tw16648155522655095143:True:=⟨⟩
theorem tw16796164075320112816:True:=⟨⟩
theorem tw16869849175348255489:True:=⟨⟩
theorem tw17043028252891066084:True:=⟨⟩
theorem tw17069454221224822457:True:=⟨⟩
theorem tw1738927329119332657:True:=⟨⟩
theorem tw17397177015975999365:True:=⟨⟩
theorem tw17539441399639365610:True:=⟨⟩
theorem tw17806708307086676872:True:=⟨⟩
theorem tw17806893698247358964:True:=⟨⟩
theorem tw17933758304004223501:True:=⟨⟩
theorem tw18027303813805954522:True:=⟨⟩
theorem tw18032697405739828293:True:=⟨⟩
theorem tw18162017046106604597:True:=⟨⟩
theorem tw18214597187900999484:True:=⟨⟩
theorem tw18277967006303292527:True:=⟨⟩
theorem tw18312113618474625114:True:=⟨⟩
theorem tw18355810534976465819:True:=⟨⟩
theorem tw18365933807572698331:True:=⟨⟩
theorem tw18411114828702201682:True:=⟨⟩
theorem tw1960537314476292643:True:=⟨⟩
theorem tw1966451219341059275:True:=⟨⟩
theorem tw1967139341141400524:True:=⟨⟩
theorem tw1990301394285409230:True:=⟨⟩
theorem tw204928671004431370:True:=⟨⟩
theorem tw2232834315814213743:True:=⟨⟩
theorem tw2257243497385207816:True:=⟨⟩
theorem tw2335726709361097769:True:=⟨⟩
theorem tw2993979800131968854:True:=⟨⟩
theorem tw3223192274545293961:True:=⟨⟩
theorem tw3303951462333206663:True:=⟨⟩
theorem tw348620066852923396:True:=⟨⟩
theorem tw3536233909858577848:True:=⟨⟩
theorem tw3597965825875472493:True:=⟨⟩
theorem tw3614476042140861598:True:=⟨⟩
theorem tw3641874202553007873:True:=⟨⟩
theorem tw3821012121459080509:True:=⟨⟩
theorem tw3831173220122006779:True:=⟨⟩
theorem tw3856466359313631195:True:=⟨⟩
theorem tw38895174473165735:True:=⟨⟩
theorem tw3945258159326195101:True:=⟨⟩
theorem tw3956167641338220290:True:=⟨⟩
theorem tw3960815081588206026:True:=⟨⟩
theorem tw3979443832121714346:True:=⟨⟩
theorem tw4050696412835188796:True:=⟨⟩
theorem tw4073502747519912726:True:=⟨⟩
theorem tw4236210922490943562:True:=⟨⟩
theorem tw4261597486928141413:True:=⟨⟩
theorem tw4274038223226931256:True:=⟨⟩
theorem tw4374926391844319871:True:=⟨⟩
theorem tw4386274375867897385:True:=⟨⟩
theorem tw4404522867397442063:True:=⟨⟩
theorem tw44148655203741601:True:=⟨⟩
theorem tw4529262993805452998:True:=⟨⟩
theorem tw4537202909363341096:True:=⟨⟩
theorem tw4613472581853720246:True:=⟨⟩
theorem tw4707287843107685007:True:=⟨⟩
theorem tw4825836541114916379:True:=⟨⟩
theorem tw4847509171803452407:True:=⟨⟩
theorem tw4904070762063029608:True:=⟨⟩
theorem tw4967120227708837340:True:=⟨⟩
theorem tw5045594985799992125:True:=⟨⟩
theorem tw5199433219451645137:True:=⟨⟩
theorem tw5224237409429190617:True:=⟨⟩
theorem tw5492065715069833270:True:=⟨⟩
theorem tw5530681636611238774:True:=⟨⟩
theorem tw5615703026935459454:True:=⟨⟩
theorem tw5717161018482602873:True:=⟨⟩
theorem tw6011076871946100968:True:=⟨⟩
theorem tw6063262179469333548:True:=⟨⟩
theorem tw6129496181905454075:True:=⟨⟩
theorem tw6193916031371350475:True:=⟨⟩
theorem tw6451128317333740984:True:=⟨⟩
theorem tw6748246582776803676:True:=⟨⟩
theorem tw6771001637386886576:True:=⟨⟩
theorem tw6822989757198198124:True:=⟨⟩
theorem tw6839874214869640056:True:=⟨⟩
theorem tw6859041115955379011:True:=⟨⟩
theorem tw6898433511436862985:True:=⟨⟩
theorem tw6901082967451487151:True:=⟨⟩
theorem tw6952612686588795914:True:=⟨⟩
theorem tw7536410697134593317:True:=⟨⟩
theorem tw7876727506259973107:True:=⟨⟩
theorem tw7966506434842427676:True:=⟨⟩
theorem tw7994633119081599078:True:=⟨⟩
theorem tw8332643387849646161:True:=⟨⟩
theorem tw8364271819980431299:True:=⟨⟩
theorem tw844579045921031711:True:=⟨⟩
theorem tw8585425273892321047:True:=⟨⟩
theorem tw859041357862253494:True:=⟨⟩
theorem tw8725098990235050354:True:=⟨⟩
theorem tw8903141464500358224:True:=⟨⟩
theorem tw8933980693911403306:True:=⟨⟩
theorem tw8953873799527950489:True:=⟨⟩
theorem tw9019080299876378850:True:=⟨⟩
theorem tw904523982250420334:True:=⟨⟩
theorem tw919557272457649945:True:=⟨⟩
theorem tw9273898220103781106:True:=⟨⟩
theorem tw932880813918665885:True:=⟨⟩
theorem tw9459959076234442691:True:=⟨⟩
theorem tw9510132979020056767:True:=⟨⟩
theorem tw9522991127115204359:True:=⟨⟩
theorem tw9528473371787636856:True:=⟨⟩
theorem tw975790671735530944:True:=⟨⟩
theorem tw9801146951634876051:True:=⟨⟩
theorem tw9850373735894032735:True:=⟨⟩
end PySem.W.Fast
open PySem PySem.W PyProof.Rows
set_option maxRecDepth 100000 in
set_option maxHeartbeats 0 in
theorem PySem.Challenge.cw_closepoints_k15_whole_near_together_holds : PySem.Challenge.rw_closepoints_k15_whole_near_together.Holds := by
 w_on;o_law;z_head;(case hw=>w_witness2)
 k_fill
 refine Vc.Od (λ_=>by kernel_rfl) (Vm.walk (l:=PySem.Challenge.rw_closepoints_k15_whole_near_together) rfl rfl (λw h Y=>Y) ?F)
 case F =>
  intro w mg fa h KX G hmg;refine' Vm.all_mk KX G hmg ?a_q22 ?l_q22 ?c_q22 ?k_q22 ?a_q0 ?l_q0 ?c_q0 ?k_q0 ?a_q15 ?l_q15 ?c_q15 ?k_q15 ?a_q27 ?l_q27 ?c_q27 ?k_q27 ?a_q1 ?l_q1 ?c_q1 ?k_q1 ?a_q23 ?l_q23 ?c_q23 ?k_q23 ?a_q21 ?l_q21 ?c_q21 ?k_q21 ?a_q14 ?l_q14 ?c_q14 ?k_q14 ?a_q9 ?l_q9 ?c_q9 ?k_q9 ?a_q10 ?l_q10 ?c_q10 ?k_q10 ?a_q5 ?l_q5 ?c_q5 ?k_q5 ?a_q28 ?l_q28 ?c_q28 ?k_q28 ?a_q24 ?l_q24 ?c_q24 ?k_q24 ?a_q20 ?l_q20 ?c_q20 ?k_q20 ?a_q7 ?l_q7 ?c_q7 ?k_q7 ?a_q6 ?l_q6 ?c_q6 ?k_q6 ?a_q12 ?l_q12 ?c_q12 ?k_q12 ?a_q29 ?l_q29 ?c_q29 ?k_q29 ?a_q19 ?l_q19 ?c_q19 ?k_q19 ?a_q13 ?l_q13 ?c_q13 ?k_q13 ?a_q25 ?l_q25 ?c_q25 ?k_q25 ?a_q26 ?l_q26 ?c_q26 ?k_q26 ?a_q18 ?l_q18 ?c_q18 ?k_q18 ?a_q16 ?l_q16 ?c_q16 ?k_q16 ?a_q3 ?l_q3 ?c_q3 ?k_q3 ?a_q8 ?l_q8 ?c_q8 ?k_q8 ?a_q17 ?l_q17 ?c_q17 ?k_q17 ?a_q4 ?l_q4 ?c_q4 ?k_q4 ?a_q2 ?l_q2 ?c_q2 ?k_q2 ?a_q30 ?l_q30 ?c_q30 ?k_q30 ?z_abs ?z_enumerate ?z_int ?z_len ?z_list ?z_max ?z_min ?z_range ?z_set ?z_sorted ?z_sum ?z_tuple ?z_zip ?u_MOST_POINTS_APART ?u_SQUARES ?u_STREETS
  (case a_q22=>k_is)
  (case l_q22=>k_is)
  (case c_q22=>k_is)
  (case k_q22=>k_is)
  (case a_q0=>k_is)
  (case l_q0=>k_is)
  (case c_q0=>k_is)
  (case k_q0=>k_is)
  (case a_q15=>k_is)
  (case l_q15=>k_is)
  (case c_q15=>k_is)
  (case k_q15=>k_is)
  (case a_q27=>k_is)
  (case l_q27=>k_is)
  (case c_q27=>k_is)
  (case k_q27=>k_is)
  (case a_q1=>k_is)
  (case l_q1=>k_is)
  (case c_q1=>k_is)
  (case k_q1=>k_is)
  (case a_q23=>k_is)
  (case l_q23=>k_is)
  (case c_q23=>k_is)
  (case k_q23=>k_is)
  (case a_q21=>k_is)
  (case l_q21=>k_is)
  (case c_q21=>k_is)
  (case k_q21=>k_is)
  (case a_q14=>k_is)
  (case l_q14=>k_is)
  (case c_q14=>k_is)
  (case k_q14=>k_is)
  (case a_q9=>k_is)
  (case l_q9=>k_is)
  (case c_q9=>k_is)
  (case k_q9=>k_is)
  (case a_q10=>k_is)
  (case l_q10=>k_is)
  (case c_q10=>k_is)
  (case k_q10=>k_is)
  (case a_q5=>k_is)
  (case l_q5=>k_is)
  (case c_q5=>k_is)
  (case k_q5=>k_is)
  (case a_q28=>k_is)
  (case l_q28=>k_is)
  (case c_q28=>k_is)
  (case k_q28=>k_is)
  (case a_q24=>k_is)
  (case l_q24=>k_is)
  (case c_q24=>k_is)
  (case k_q24=>k_is)
  (case a_q20=>k_is)
  (case l_q20=>k_is)
  (case c_q20=>k_is)
  (case k_q20=>k_is)
  (case a_q7=>k_is)
  (case l_q7=>k_is)
  (case c_q7=>k_is)
  (case k_q7=>k_is)
  (case a_q6=>k_is)
  (case l_q6=>k_is)
  (case c_q6=>k_is)
  (case k_q6=>k_is)
  (case a_q12=>k_is)
  (case l_q12=>k_is)
  (case c_q12=>k_is)
  (case k_q12=>k_is)
  (case a_q29=>k_is)
  (case l_q29=>k_is)
  (case c_q29=>k_is)
  (case k_q29=>k_is)
  (case a_q19=>k_is)
  (case l_q19=>k_is)
  (case c_q19=>k_is)
  (case k_q19=>k_is)
  (case a_q13=>k_is)
  (case l_q13=>k_is)
  (case c_q13=>k_is)
  (case k_q13=>k_is)
  (case a_q25=>k_is)
  (case l_q25=>k_is)
  (case c_q25=>k_is)
  (case k_q25=>k_is)
  (case a_q26=>k_is)
  (case l_q26=>k_is)
  (case c_q26=>k_is)
  (case k_q26=>k_is)
  (case a_q18=>k_is)
  (case l_q18=>k_is)
  (case c_q18=>k_is)
  (case k_q18=>k_is)
  (case a_q16=>k_is)
  (case l_q16=>k_is)
  (case c_q16=>k_is)
  (case k_q16=>k_is)
  (case a_q3=>k_is)
  (case l_q3=>k_is)
  (case c_q3=>k_is)
  (case k_q3=>k_is)
  (case a_q8=>k_is)
  (case l_q8=>k_is)
  (case c_q8=>k_is)
  (case k_q8=>k_is)
  (case a_q17=>k_is)
  (case l_q17=>k_is)
  (case c_q17=>k_is)
  (case k_q17=>k_is)
  (case a_q4=>k_is)
  (case l_q4=>k_is)
  (case c_q4=>k_is)
  (case k_q4=>k_is)
  (case a_q2=>k_is)
  (case l_q2=>k_is)
  (case c_q2=>k_is)
  (case k_q2=>k_is)
  (case a_q30=>k_is)
  (case l_q30=>k_is)
  (case c_q30=>k_is)
  (case k_q30=>k_is)
  (case z_abs=>k_is)
  (case z_enumerate=>k_is)
  (case z_int=>k_is)
  (case z_len=>k_is)
  (case z_list=>k_is)
  (case z_max=>k_is)
  (case z_min=>k_is)
  (case z_range=>k_is)
  (case z_set=>k_is)
  (case z_sorted=>k_is)
  (case z_sum=>k_is)
  (case z_tuple=>k_is)
  (case z_zip=>k_is)
  (case u_MOST_POINTS_APART=>k_is)
  (case u_SQUARES=>k_is)
  (case u_STREETS=>k_is)
