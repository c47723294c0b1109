import PyProof.Rows.All
import Wide.All
import OpenK.AllK
import Wide.FinOn
import Lean
import PyProof.EqAt
import PyProof.EqKinds
import PyProof.TupleCall
import PySem.Challenge.RW_closepoints_k34_long_kept_points
open PySem renaming wpAny_bind → abW
open PySem.Heap renaming get?_push_of_some → abX
open List renaming getElem?_eq_getElem → abY
open List renaming length_map → abZ
open PySem renaming wpAny_pure → ab0
open List renaming mem_cons_of_mem → ab1
open List renaming getElem?_eq_some_iff → ab2
open Nat renaming le_refl → ab3
open PySem.W renaming Frag → ab4
open List renaming mem_singleton → ab5
open List renaming mem_cons → ab6
open PySem renaming starEach → ab7
open List renaming mem_cons_self → ab8
open PyProof.Rows renaming wpS_bind → ab9
open PySem renaming sizeLine → aca
open List renaming getElem?_map → acb
open Bool renaming false_eq_true → acd
open ForInStep renaming done → ace
open PySem renaming mainGlobals → acf
open List renaming size_toArray → acg
open List renaming all_eq_true → ach
open PyProof.Rows renaming pendingOf → aci
open PyProof.Rows renaming wpS_pure → acj
open List renaming not_mem_nil → ack
noncomputable section
set_option Elab.async false
set_option linter.all false
set_option hygiene false
local macro_rules | `(tactic| omega) => `(tactic| first | lia | omega +splitNatSub)
local macro_rules | `(⋯) => `((by omega))
local macro_rules | `(∅) => `((by decide))
set_option maxRecDepth 100000
local macro_rules|`(tactic| walk_at "9")=>`(tactic| first|k_is|kernel_rfl|decide)
local macro_rules | `(tactic| ac_rfl) => `(tactic| walk_at "9")
set_option compiler.extract_closed false
-- CHANGE: your row's module here,as the last of these rows
namespace L2
open PySem PySem.Spec PyProof.Rows
abbrev Key:=Sum Int Str
def nY:Key->Value->Bool
 | .inl k,v=>Value.isInt k v
 | .inr x,v=>Value.isStrOf x v
def abi(w:World):Key->Int
 | .inl k=>hashInt k
 | .inr x=>hashStr w x
theorem bN:∀ {k:Key} {v:Value},nY k v=true->(∃i t,k=Sum.inl i/\v=Value.int i t)\/(∃x t,k=Sum.inr x/\v=Value.str x t)
 | .inl i,v,h=>by
  obtain⟨t,e⟩:=Value.isInt_shape (k:=i) (v:=v) h;exact .inl ⟨i,t,rfl,e⟩
 | .inr x,v,h=>by
  obtain⟨t,e⟩:=Value.isStrOf_shape (x:=x) (v:=v) h;exact .inr ⟨x,t,rfl,e⟩
theorem AK(i:Int)(t:Tok):nY (.inl i) (.int i t)=true:=by simp [nY,Value.isInt]
theorem AO(x:Str)(t:Tok):nY (.inr x) (.str x t)=true:=by simp [nY,Value.isStrOf]
theorem Qr(a b:Int):decide ((Sum.inl a:Key)=Sum.inl b)=(a==b):=by
 by_cases e:a=b
 ·subst e;simp
 ·have h:¬(Sum.inl a:Key)=Sum.inl b:=λq=>e (Sum.inl.inj q)
  rw[decide_eq_false h];exact(beq_eq_false_iff_ne.mpr e).symm
theorem Qu(a b:Str):decide ((Sum.inr a:Key)=Sum.inr b)=decide (a=b):=by
 by_cases e:a=b
 ·subst e;simp
 ·have h:¬(Sum.inr a:Key)=Sum.inr b:=λq=>e (Sum.inr.inj q)
  rw[decide_eq_false h,decide_eq_false e]
theorem Qs(a:Int)(b:Str):decide ((Sum.inl a:Key)=Sum.inr b)=false:=decide_eq_false (λq=>nomatch q)
theorem Qt(a:Str)(b:Int):decide ((Sum.inr a:Key)=Sum.inl b)=false:=decide_eq_false (λq=>nomatch q)
def b9(prog:Program)(w:World):PySem.KeyKind prog w Key where
 is:=nY
 hash:=abi w
 inj:=λv a b ha hb=>by
  rcases bN ha with⟨i,t,rfl,rfl⟩|⟨x,t,rfl,rfl⟩
  ·rcases bN hb with⟨j,u,rfl,e⟩|⟨y,u,rfl,e⟩
   ·injection e with e1 _;rw[e1]
   ·exact nomatch e
  ·rcases bN hb with⟨j,u,rfl,e⟩|⟨y,u,rfl,e⟩
   ·exact nomatch e
   ·injection e with e1 _;rw[e1]
 byValue:=λk v h=>by
  rcases bN h with⟨i,t,rfl,rfl⟩|⟨x,t,rfl,rfl⟩<;>rfl
 pyHash:=λhv h=>by
  rcases bN hv with⟨i,t,rfl,rfl⟩|⟨x,t,rfl,rfl⟩
  ·exact wpAny_pyHash_int h
  ·exact wpAny_pyHash_str h
 eqBool:=λhu hv h=>by
  rcases bN hu with⟨i,t,rfl,rfl⟩|⟨x,t,rfl,rfl⟩
  ·rcases bN hv with⟨j,u,rfl,rfl⟩|⟨y,u,rfl,rfl⟩
   ·rw[Qr]at h;exact wpAny_eqBool_int h
   ·rw[Qs]at h;exact SeqAt.EqAt.int_str i t y u _ _ _ _ h
  ·rcases bN hv with⟨j,u,rfl,rfl⟩|⟨y,u,rfl,rfl⟩
   ·rw[Qt]at h;exact SeqAt.EqAt.str_int x t j u _ _ _ _ h
   ·rw[Qu]at h;exact wpAny_eqBool_str h
 «strs»:=λk x t v h=>by
  rcases bN h with⟨i,u,rfl,e⟩|⟨y,u,rfl,e⟩
  ·exact nomatch e
  ·injection e with e1 _
   subst e1;cases v<;>rfl
theorem vO(prog:Program)(w:World)(i:Int)(t:Tok):(b9 prog w).is (.inl i) (.int i t)=true:=AK i t
theorem vP(prog:Program)(w:World)(x:Str)(t:Tok):(b9 prog w).is (.inr x) (.str x t)=true:=AO x t
end L2
namespace L2
open PySem PySem.Spec PyProof.Rows
inductive V where
 | aQ|bl (b:Bool)|int (i:Int)|str (x:Str)|Vg (b:Array UInt8)|Ld (b:UInt64)|ref (a:Addr)|ty (n:String)
 deriving DecidableEq
def RelV:V->Value->Prop
 | .aQ,u=>u=Value.none
 | .bl b,u=>u=Value.bool b
 | .int i,u=>∃t,u=Value.int i t
 | .str x,u=>∃t,u=Value.str x t
 | .Vg b,u=>∃t,u=Value.bytes b t
 | .Ld b,u=>∃t,u=Value.float b t
 | .ref a,u=>u=Value.ref a
 | .ty n,u=>u=Value.type n
abbrev Vals:List V->List Value->Prop:=Paired RelV
theorem Vals.length{xs:List V}{us:List Value}(r:Vals xs us):xs.length=us.length:=Paired.length r
theorem Vals.get:∀ {xs:List V} {us:List Value} {i:Nat} {x:V},Vals xs us->xs[i]?=some x->∃u,us[i]?=some u/\RelV x u
 | _,_,_,_,.nil,e=>by simp at e
 | _,_,0,_,.cons r _,e=>by simp at e;subst e;exact⟨_,rfl,r⟩
 | _,_,i+1,x,.cons _ t,e=>by
  obtain⟨u,h1,h2⟩:=Vals.get (i:=i) (x:=x) t (by simpa using e)
  exact⟨u,by simpa using h1,h2⟩
theorem Vals.set{x:V}{u:Value}(r:RelV x u):∀ {xs:List V} {us:List Value} (i:Nat),Vals xs us->Vals (xs.set i x) (us.set i u)
 | _,_,_,.nil=>.nil
 | _,_,0,.cons _ t=>.cons r t
 | _,_,i+1,.cons q t=>.cons q (Vals.set r i t)
theorem Vals.append:∀ {xs ys:List V} {us ws:List Value},Vals xs us->Vals ys ws->Vals (xs++ys) (us++ws)
 | _,_,_,_,.nil,s=>s
 | _,_,_,_,.cons r t,s=>.cons r (Vals.append t s)
theorem Vals.take:∀ {xs:List V} {us:List Value} (n:Nat),Vals xs us->Vals (xs.take n) (us.take n)
 | _,_,0,_=>.nil
 | _,_,_+1,.nil=>.nil
 | _,_,n+1,.cons r t=>.cons r (Vals.take n t)
theorem Vals.drop:∀ {xs:List V} {us:List Value} (n:Nat),Vals xs us->Vals (xs.drop n) (us.drop n)
 | _,_,0,r=>r
 | _,_,_+1,.nil=>.nil
 | _,_,n+1,.cons _ t=>Vals.drop n t
def gG:Option V->Option Value->Prop
 | some v,some u=>RelV v u
 | none,none=>True
 | _,_=>False
def KV{κ:Type}:List (κ×V)->List (κ×Value)->Prop:=Paired λ(p:κ×V) (q:κ×Value)=>p.1=q.1/\RelV p.2 q.2
def kV:Key->V
 | .inl i=>.int i
 | .inr x=>.str x
inductive HO where
 /-- a list -/
 | lst (xs:List V)
 /-- a tuple (never changes) -/
 | tup (xs:List V)
 /-- a dict whose keys are ints and texts;one whose keys are tuples of ints and texts (the empty one is both) -/
 | dK (kvs:List (Key×V))|dT (kvs:List (List Key×V))
 /-- a set of ints: its members,its size -/
 | set (S:Int->Bool) (n:Nat)
 /-- an instance of the class at C,its dict at dx,its attributes -/
 | ins (C dx:Addr) (fs:List (Str×V))
 /-- the dict of the instance at x -/
 | own (x:Addr)
 /-- the dict of an exception -/
 | xd (fs:List (Str×V))
 /-- a bound method,f of x -/
 | met (f x:Addr)
 /-- a range object lo,lo+1,.. below hi -/
 | rng (lo hi:Int)
 /-- a thing that is known to the object (the script;a dict while a loop walks it): read,never written while it is so -/
 | qj (o:Obj) (u:HO)
 /-- a code object's table -/
 | UX (ps:Array Value)
 /-- the same,and it may grow by the code of one lambda: as it was,the lambda's place,its name -/
 | lam (ps:Array Value) (pos:Pos) (qual:Str)
 /-- any other thing,by what is true of its one object (a def of one's own: SetO a S n:=HO.ext λh=>..) -/
 | ext (φ:Heap->Prop)
abbrev Hp:=Addr->Option HO
def upd(H:Hp)(a:Addr)(o:HO):Hp:=λb=>if b=a then some o else H b
theorem ay{H:Hp}{a:Addr}{o:HO}:upd H a o a=some o:=by unfold upd;rw[if_pos rfl]
theorem aq{H:Hp}{a b:Addr}{o:HO}(h:b≠a):upd H a o b=H b:=by unfold upd;rw[if_neg h]
theorem fu{H:Hp}{a b:Addr}{o u:HO}(h:H a=some o)(h':H b=some u)(d:o≠u):a≠b:=by
 intro e;subst e;rw[h]at h';exact d (Option.some.inj h')
theorem aZ{H:Hp}{a b:Addr}{o:HO}(h:H a=some o)(h':H b=none):a≠b:=by
 intro e;subst e;rw[h]at h';cases h'
section
variable (P:Program)(w:World)
def bR(H:Hp)(h:Heap)(a:Addr):HO->Prop
 | .lst xs=>xs.length<=aca/\∃(its:List Value) (n:Nat),Vals xs its/\h.get? a=some {cls:=.type "list",data:=.seq its.toArray n}
 | .tup xs=>xs.length<=aca/\∃its:List Value,Vals xs its/\IsTup h a its.toArray
 | .dK kvs=>kvs.length<=aca/\(a==sysModules)=false/\∃vs,KV kvs vs/\h.DictOf (b9 P w) a vs
 | .dT kvs=>kvs.length<=aca/\(a==sysModules)=false/\∃xs:List (List Key×Addr×Value),
   Paired (λ(p:List Key×V) (q:List Key×Addr×Value)=>p.1=q.1/\H q.2.1=some (.tup (p.1.map kV))/\RelV p.2 q.2.2) kvs xs /\
   ∃o es ep,h.get? a=some o/\o.ExactDict/\o.data=.dict es ep/\es.toList=xs.map (entryOfKey (tupleKind (b9 P w)))/\(xs.map (·.1)).Nodup
 | .set S n=>h.SetOf (intKind P w) a S n
 | .ins C dx fs=>H dx=some (.own a)/\fs.length<=1000/\dx≠a/\h.get? a=some (PySem.W.instObj C dx) /\
   ∃mA,h.Ns1 dx mA/\(∀f,gG (fs.lookup f) (mA f))/\PySem.Within mA (fs.map (·.1))
 | .own _=>∃o,h.get? a=some o
 | .xd fs=>∃mA,h.Ns1 a mA/\∀f,gG (fs.lookup f) (mA f)
 | .rng lo hi=>∃t u v,h.get? a=some {cls:=.type "range",data:=.fields #[.int lo t,.int hi u,.int 1 v]}
 | .qj o u=>h.get? a=some o/\bR H h a u
 | .UX ps=>h.get? a=some {cls:=.none,data:=.fields ps}
 | .lam ps pos qual=>∃more,h.get? a=some {cls:=.none,data:=.fields (ps++more)}/\TriplesOk (ps++more).toList/\(codeAmong pos (ps++more).toList=none\/∃c' o vs t,codeAmong pos (ps++more).toList=some (.ref c')/\H c'=some (.qj o (.own a))/\o.data=.fields vs/\vs[1]?=some (.str qual t))
 | .met f x=>h.get? a=some (PySem.W.methodObj (.ref f) (.ref x))
 | .ext φ=>φ h/\(∃o,h.get? a=some o)/\∀h1 h2:Heap,φ h1->(∀o,h1.get? a=some o->h2.get? a=some o)->φ h2
def hJ(H:Hp)(h:Heap):Prop:=∀a o,H a=some o->bR P w H h a o
end
section
variable {P:Program}{w:World}{H H':Hp}{h h':Heap}{a:Addr}{o:HO}
theorem bR.lt(x:bR P w H h a o):a<h.objs.size:=by
 cases o with
 | lst xs=>obtain⟨_,_,_,_,e⟩:=x;exact Heap.lt_size e
 | tup xs=>obtain⟨_,_,_,p⟩:=x;exact p.lt
 | dK kvs=>obtain⟨_,_,_,_,o,_,_,e,_⟩:=x;exact Heap.lt_size e
 | dT kvs=>obtain⟨_,_,_,_,o,_,_,e,_⟩:=x;exact Heap.lt_size e
 | set S n=>obtain⟨o,_,_,_,e,_⟩:=x;exact Heap.lt_size e
 | ins C dx fs=>obtain⟨_,_,_,e,_⟩:=x;exact Heap.lt_size e
 | own y=>obtain⟨_,e⟩:=x;exact Heap.lt_size e
 | xd fs=>obtain⟨_,⟨_,_,_,e,_⟩,_⟩:=x;exact Heap.lt_size e
 | rng lo hi=>obtain⟨_,_,_,e⟩:=x;exact Heap.lt_size e
 | qj ob u=>obtain⟨e,_⟩:=x;exact Heap.lt_size e
 | UX ps=>exact Heap.lt_size (show h.get? a=some _ from x)
 | lam ps pos qual=>obtain⟨_,e,_⟩:=x;exact Heap.lt_size e
 | met f y=>exact Heap.lt_size (show h.get? a=some _ from x)
 | ext φ=>obtain⟨_,⟨_,e⟩,_⟩:=x;exact Heap.lt_size e
theorem Paired.Qz{α β:Type}{F G:α->β->Prop}:∀ {Yx:List α} {Yy:List β},Paired F Yx Yy->(∀a b,F a b->G a b)->Paired G Yx Yy
 | _,_,.nil,_=>.nil
 | _,_,.cons r t,f=>.cons (f _ _ r) (Paired.Qz t f)
theorem bR.yr(x:bR P w H h a o)(k:∀b u,(b=a\/H b=some (.own a))->h.get? b=some u->h'.get? b=some u)
  (ho:∀b,H b=some (.own a)->H' b=some (.own a)) (ht:∀b xs,H b=some (.tup xs)->H' b=some (.tup xs)) (hf:∀b o u,H b=some (.qj o u)->H' b=some (.qj o u):=by exactλ_ _ _ q=>q):bR P w H' h' a o:=by
 induction o with
 | lst xs=>obtain⟨z,its,n,r,e⟩:=x;exact⟨z,its,n,r,k _ _ (.inl rfl) e⟩
 | tup xs=>obtain⟨z,its,r,ob,e,c⟩:=x;exact⟨z,its,r,ob,k _ _ (.inl rfl) e,c⟩
 | dK kvs=>obtain⟨z,y,vs,r,ob,es,ep,e,c⟩:=x;exact⟨z,y,vs,r,ob,es,ep,k _ _ (.inl rfl) e,c⟩
 | dT kvs =>
  obtain⟨z,y,xs,r,ob,es,ep,e,c⟩:=x;exact⟨z,y,xs,Paired.Qz r λp q z=>⟨z.1,ht _ _ z.2.1,z.2.2⟩,ob,es,ep,k _ _ (.inl rfl) e,c⟩
 | set S n=>obtain⟨ob,es,ep,t,e,c⟩:=x;exact⟨ob,es,ep,t,k _ _ (.inl rfl) e,c⟩
 | ins C dx fs =>
  obtain⟨d,z,ne,e,mA,⟨od,es,ep,e2,c⟩,r⟩:=x;exact⟨ho _ d,z,ne,k _ _ (.inl rfl) e,mA,⟨od,es,ep,k _ _ (.inr d) e2,c⟩,r⟩
 | own y=>obtain⟨ob,e⟩:=x;exact⟨ob,k _ _ (.inl rfl) e⟩
 | xd fs=>obtain⟨mA,⟨od,es,ep,e,c⟩,r⟩:=x;exact⟨mA,⟨od,es,ep,k _ _ (.inl rfl) e,c⟩,r⟩
 | rng lo hi=>obtain⟨t,u,v,e⟩:=x;exact⟨t,u,v,k _ _ (.inl rfl) e⟩
 | qj ob u ih=>obtain⟨e,q⟩:=x;exact⟨k _ _ (.inl rfl) e,ih q⟩
 | lam ps pos qual =>
  obtain⟨more,e,tr,c⟩:=x;refine⟨more,k _ _ (.inl rfl) e,tr,?_⟩;rcases c with c|⟨c',o,vs,t,c1,c2,c3⟩
  ·exact .inl c
  ·exact .inr ⟨c',o,vs,t,c1,hf _ _ _ c2,c3⟩
 | UX ps =>
  have e:h.get? a=some {cls:=.none,data:=.fields ps}:=x;show h'.get? a=some {cls:=.none,data:=.fields ps};exact k a _ (.inl rfl) e
 | met f y =>
  have e:h.get? a=some (PySem.W.methodObj (.ref f) (.ref y)):=x;show h'.get? a=some (PySem.W.methodObj (.ref f) (.ref y));exact k a _ (.inl rfl) e
 | ext φ=>obtain⟨p,⟨o,e⟩,st⟩:=x;exact⟨st _ _ p λo q=>k _ _ (.inl rfl) q,⟨o,k _ _ (.inl rfl) e⟩,st⟩
theorem hJ.lt(x:hJ P w H h)(e:H a=some o):a<h.objs.size:=(x a o e).lt
theorem hJ.fresh(x:hJ P w H h)(e:h.objs.size<=a):H a=none:=by
 cases q:H a with
 | none=>rfl
 | some u=>exact absurd (Nat.lt_of_lt_of_le (x.lt q) e) (Nat.lt_irrefl _)
theorem hJ.kept(x:hJ P w H h)(k:∀b u,h.get? b=some u->h'.get? b=some u):hJ P w H h':=λa o e =>
 (x a o e).yr (λb u _ q=>k b u q) (λ_ q=>q) λ_ _ q=>q
theorem hJ.laid(x:hJ P w H h)(k:∀b u,h.get? b=some u->h'.get? b=some u)(hp:h.objs.size<=a)(new:bR P w (upd H a o) h' a o):hJ P w (upd H a o) h':=λb u e=>by
 have hn:=x.fresh hp
 by_cases hb:b=a
 ·subst hb;rw[ay]at e;cases e;exact new
 ·rw[aq hb]at e
  exact(x b u e).yr (λc v _ q=>k c v q) (λc q=>by rw[aq (aZ q hn)];exact q) (λc xs q=>by rw[aq (aZ q hn)];exact q) λc o u q=>by rw[aq (aZ q hn)];exact q
end
def Rd(H:Hp)(a:Addr)(u:HO):Prop:=H a=some u\/∃o,H a=some (.qj o u)
theorem Rd.ok{P:Program}{w:World}{H:Hp}{h:Heap}{a:Addr}{u:HO}(r:Rd H a u)(x:hJ P w H h):bR P w H h a u:=by
 rcases r with r|⟨o,r⟩
 ·exact x a u r
 ·obtain⟨_,q⟩:=x a _ r
  exact q
def V1:Option HO->Prop
 | some (.lst _)=>True
 | some (.dK _)=>True
 | some (.dT _)=>True
 | some (.set _ _)=>True
 | some (.ins _ _ _)=>True
 | some (.ext _)=>True
 | some (.lam _ _ _)=>True
 | _=>False
section
variable {P:Program}{w:World}{H:Hp}{h h':Heap}{x e:Addr}{o':HO}
theorem hJ.write(ok:hJ P w H h)(mu:V1 (H x))(he:e=x\/H e=some (.own x))(k:∀b u,b≠e->h.get? b=some u->h'.get? b=some u)(Vp:∃u,h'.get? e=some u)
  (new:bR P w (upd H x o') h' x o'):hJ P w (upd H x o') h':=λb u q=>by
 have YJ:∀c y,H c=some (.own y)->c≠x:=λc y r z=>by subst z;rw[r]at mu;exact mu
 have abo:∀c xs,H c=some (.tup xs)->c≠x:=λc xs r z=>by subst z;rw[r]at mu;exact mu
 by_cases hb:b=x
 ·subst hb;rw[ay]at q;cases q;exact new
 ·rw[aq hb]at q
  by_cases Pb:b=e
  ·have q':H b=some (.own x):=by
    rcases he with z|z
    ·exact absurd (Pb.trans z) hb
    ·rw[Pb];exact z
   rw[q]at q';cases q';obtain⟨v,hv⟩:=Vp;exact⟨v,by rw[Pb];exact hv⟩
  ·refine(ok b u q).yr (λc v hc r=>k c v ?_ r) (λc r=>by rw[aq (YJ c b r)];exact r) (λc xs r=>by rw[aq (abo c xs r)];exact r) λc o u r=>by rw[aq (λz=>by subst z;rw[r]at mu;exact mu)];exact r
   rcases hc with rfl|hc
   ·exact Pb
   ·rintro rfl
    rcases he with z|z
    ·exact YJ c b hc z
    ·rw[hc]at z;cases z;exact hb rfl
end
structure Un(fs ex:List Addr)(H H':Hp)(h h':Heap):Prop where
 keep:∀b o,h.get? b=some o->H b=none->b∉fs->b∉ex->h'.get? b=some o
 slot:∀b o,h.get? b=some o->H b=none->b∈fs->b∉ex->∃sl,h'.get? b=some {o with slots:=sl}
 free:∀b o,h.get? b=some o->H b=none->b∉ex->H' b=none
 there:∀b o,h.get? b=some o->b∉ex->∃o',h'.get? b=some o'
 wC:∀b xs,H b=some (.tup xs)->H' b=some (.tup xs)
 rO:∀b o u,H b=some (.qj o u)->H' b=some (.qj o u)
 wz:∀b ps,H b=some (.UX ps)->∃more,H' b=some (.UX (ps++more))
section
variable {fs fs' ex mD:List Addr}{H H1 H2:Hp}{h h1 h2 h':Heap}{a x e:Addr}{o:HO}
theorem Un.any(u:Un fs ex H H1 h h1){b:Addr}{ob:Obj}(q:h.get? b=some ob)(n:H b=none)(hx:b∉ex):∃sl,h1.get? b=some {ob with slots:=sl}:=by
 by_cases hb:b∈fs
 ·exact u.slot b ob q n hb hx
 ·exact⟨ob.slots,u.keep b ob q n hb hx⟩
theorem Un.kept(k:∀b u,h.get? b=some u->h'.get? b=some u):Un fs ex H H h h':=
 ⟨λb ob q _ _ _=>k b ob q,λb ob q _ _ _=>⟨ob.slots,k b ob q⟩,λ_ _ _ n _=>n,λb ob q _=>⟨ob,k b ob q⟩,λ_ _ q=>q,λ_ _ _ q=>q,λ_ ps q=>⟨#[],by rw[q];simp⟩⟩
theorem Un.refl:Un fs ex H H h h:=Un.kept λ_ _ q=>q
theorem Un.laid(k:∀b u,h.get? b=some u->h'.get? b=some u)(hp:h.objs.size<=a)(hn:H a=none):Un fs ex H (upd H a o) h h' where
 keep:=λb u q _ _ _=>k b u q
 slot:=λb u q _ _ _=>⟨u.slots,k b u q⟩
 free:=λb u q n _=>by rw[aq (Nat.ne_of_lt (Nat.lt_of_lt_of_le (Heap.lt_size q) hp))];exact n
 there:=λb u q _=>⟨u,k b u q⟩
 wC:=λb xs q=>by rw[aq (aZ q hn)];exact q
 rO:=λb u xs q=>by rw[aq (aZ q hn)];exact q
 wz:=λb ps q=>⟨#[],by rw[aq (aZ q hn),q];simp⟩
theorem Un.write(mu:V1 (H x))(he:e=x\/H e=some (.own x))(k:∀b u,b≠e->h.get? b=some u->h'.get? b=some u)(Vp:∃u,h'.get? e=some u):Un fs ex H (upd H x o) h h':=by
 have hx:∀b,H b=none->b≠x:=λb n z=>by subst z;rw[n]at mu;exact mu
 have hb:∀b,H b=none->b≠e:=λb n z=>by
  subst z;rcases he with r|r
  ·exact hx b n r
  ·rw[n]at r;cases r
 have hm:∀b u,H b=some u->¬V1 (some u)->b≠x:=λb u q nm z=>by subst z;rw[q]at mu;exact nm mu
 refine⟨λb u q n _ _=>k b u (hb b n) q,λb u q n _ _=>⟨u.slots,k b u (hb b n) q⟩,λb u q n _=>by rw[aq (hx b n)];exact n,λb u q _=>?_,
  λb xs q=>by rw[aq (hm b _ q λz=>z)];exact q,λb u xs q=>by rw[aq (hm b _ q λz=>z)];exact q,λb ps q=>⟨#[],by rw[aq (hm b _ q λz=>z),q];simp⟩⟩
 by_cases Pb:b=e
 ·subst Pb;exact Vp
 ·exact⟨u,k b u Pb q⟩
end
def trk(h:Heap)(H:Hp):List Addr:=(List.range h.objs.size).filter λa=>(H a).isSome
def rV(h:Heap)(H:Hp):Heap:=PySem.W.hideAll h (trk h H)
theorem AB(h:Heap)(H:Hp):(rV h H).objs.size=h.objs.size:=PySem.W.hideAll_size _ _
theorem Ee{h:Heap}{H:Hp}{b:Addr}{o:Obj}(e:h.get? b=some o)(n:H b=none):(rV h H).get? b=some o:=
 PySem.W.hideAll_get _ e λhm=>by
  have q:(H b).isSome=true:=(List.mem_filter.mp hm).2;rw[n]at q;simp at q
theorem Ja{h:Heap}{H:Hp}{b:Addr}{o:Obj}(e:(rV h H).get? b=some o):h.get? b=some o/\H b=none:=by
 have e':h.get? b=some o:=PySem.W.of_hideAll (trk h H) e;refine⟨e',?_⟩;cases q:H b with
 | none=>rfl
 | some x =>
  have hm:b∈trk h H:=List.mem_filter.mpr ⟨List.mem_range.mpr (Heap.lt_size e'),by simp [q]⟩
  have z:(rV h H).get? b=none:=PySem.W.hideAll_none (trk h H) hm;rw[z]at e;cases e
def Hw(g h:Heap)(L:Addr):List (Addr×Obj):=(List.range h.objs.size).filterMap λa=>if a=L\/(g.get? a).isSome=true then none else(h.get? a).map λo=>(a,o)
def rest(g h:Heap)(L d:Addr):List (Addr×Obj):=(Hw g h L).filter λp=>decide (p.1≠d)
end L2
namespace L2
open PySem PySem.Spec PyProof.Rows
structure Mod(K:ab4)(mg:Str->Option Value)(base:Heap):Prop where
 Ew:K.In base
 glob:base.Ns acf mg
 blt:∃mb,base.Ns builtinsNs mb/\∀x:Str,x≠"__name__"->mb x=bootBuiltins x
 nolimit:base.NoLimit
structure Cx where
 prog:Program
 w:World
 K:ab4
 mg:Str->Option Value
 base:Heap
 A:Around
 N:List Str
 c5:Shared
 xh:Hp
 env:Env
 outer:List Env
 stack:List Env
 ex:List Addr
 fn:Str->Bool
 calm:Bool
 pn:List (Addr×Obj)
 xe:Value->Shared->Prop
def DR(l:List Env):List Addr:=l.filterMap (·.frame)
abbrev Cx.fs(X:Cx):List Addr:=DR X.outer
def Hu(sc:Scope)(x:Str):Prop:=sc.names.lookup x=some .local\/sc.names.lookup x=some .cell\/sc.names.lookup x=some .free
def Loc(sc:Scope)(x:Str):Prop:=sc.names.lookup x=some .local\/sc.names.lookup x=some .cell
def Look(env:Env)(h:Heap)(m:Str->Option Value)(x:Str)(u:Value):Prop:=
 (env.kindOf x=some .local/\m x=some u)\/((env.kindOf x=some .cell\/env.kindOf x=some .free)/\∃c,env.cells.lookup x=some c/\h.IsCell c (some u))
structure Cx.Ok(X:Cx):Prop where
 mod:Mod X.K X.mg X.base
 kind:X.env.scope.kind=.function
 glob:X.env.globals=acf
 blt:X.env.builtins=builtinsNs
 above:X.c5.heap.objs.size<=X.env.locals
 inj:∀x y c,X.env.cells.lookup x=some c->X.env.cells.lookup y=some c->x=y
 has:∀x,(X.env.kindOf x=some .cell\/X.env.kindOf x=some .free)->∃c,X.env.cells.lookup x=some c
 Vh:∀x c,X.fn x=true->X.env.cells.lookup x=some c->X.c5.heap.objs.size<=c
 hd:X.calm=true->X.A.handled=none
 frames:X.A.frames=some X.stack
 stk:X.stack=X.outer\/(X.stack=X.env::X.outer/\X.env.frame=some X.env.locals)
 exf:∀b∈X.ex,b≠X.env.locals/\∀x c,X.env.cells.lookup x=some c->c≠b
 bs:∀b o,X.base.get? b=some o->X.c5.heap.get? b=some o/\X.xh b=none
 Cg:X.base.objs.size<=X.c5.heap.objs.size
 A1:∀b o,X.base.get? b=some o->b∉X.ex
 DC:∀b∈X.ex,b∉X.fs
 lr:X.c5.heap.FunFrames X.base X.outer
 Lg:∀b∈X.fs,X.xh b=none
structure Inv(X:Cx)(pins:List (Addr×Obj))(σ:List (Option V))(H:Hp)(s:Shared):Prop where
 ok:X.Ok
 os:s.os=X.c5.os
 bare:AllBare s.gens
 base:Un X.fs X.ex X.xh H X.c5.heap s.heap
 loc:∃m,s.heap.Ns X.env.locals m/\∀(i:Nat) (x:Str) (v:V),X.N[i]?=some x->σ[i]?=some (some v)->Hu X.env.scope x->∃u,RelV v u/\Look X.env s.heap m x u
 cell:∀x c,X.env.cells.lookup x=some c->∃v,s.heap.IsCell c v
 free:H X.env.locals=none
 gJ:∀x c,X.env.cells.lookup x=some c->H c=none
 pin:∀p∈X.pn++pins,s.heap.get? p.1=some p.2/\H p.1=none/\p.1≠X.env.locals/\p.1∉X.fs/\∀v,p.2.data≠.cell v
 bG:hJ X.prog X.w H s.heap
 len:σ.length=X.N.length
section
variable {X:Cx}{pins:List (Addr×Obj)}{σ:List (Option V)}{H H':Hp}{s:Shared}{h':Heap}
theorem Cx.Ok.abm(ok:X.Ok){b:Addr}{o:Obj}(e:X.base.get? b=some o):b∉X.fs:=λhb=>by
 have:=(ok.lr.mem hb).1;rw[e]at this;cases this
theorem Inv.bs(I:Inv X pins σ H s):∀b o,X.base.get? b=some o->s.heap.get? b=some o/\H b=none:=λb o e =>
 ⟨I.base.keep b o (I.ok.bs b o e).1 (I.ok.bs b o e).2 (I.ok.abm e) (I.ok.A1 b o e),I.base.free b o (I.ok.bs b o e).1 (I.ok.bs b o e).2 (I.ok.A1 b o e)⟩
theorem Inv.bk(I:Inv X pins σ H s):∀b o,X.base.get? b=some o->s.heap.get? b=some o:=λb o e=>(I.bs b o e).1
theorem Inv.mod(I:Inv X pins σ H s):Mod X.K X.mg X.base:=I.ok.mod
theorem Inv.mG(I:Inv X pins σ H s):X.K.In s.heap:=I.ok.mod.Ew.keeps I.bk
theorem Inv.fr(I:Inv X pins σ H s):∃m,Fr X.base X.env.locals s.heap m:=
 let ⟨m,hn,_⟩:=I.loc
 ⟨m,hn,I.bk,Nat.le_trans I.ok.Cg I.ok.above⟩
theorem Inv.lt(I:Inv X pins σ H s):X.env.locals<s.heap.objs.size:=let ⟨_,hn,_⟩:=I.loc;hn.lt
theorem Inv.sz(I:Inv X pins σ H s):X.c5.heap.objs.size<=s.heap.objs.size:=Nat.le_trans I.ok.above (Nat.le_of_lt I.lt)
theorem Inv.abn(I:Inv X pins σ H s){a:Addr}(h:s.heap.objs.size<=a):a∉X.fs:=λhb=>by
 obtain⟨_,o,ho,_⟩:=I.ok.lr.mem hb;exact absurd (Nat.lt_of_lt_of_le (Heap.lt_size ho) (Nat.le_trans I.sz h)) (Nat.lt_irrefl _)
theorem Inv.MV(I:Inv X pins σ H s):∀x c,X.env.cells.lookup x=some c->c≠X.env.locals:=λx c e z=>by
 obtain⟨v,o,ho,hd⟩:=I.cell x c e;obtain⟨m,⟨o',es,ep,Pm,Vm,_⟩,_⟩:=I.loc;rw[z,Pm]at ho;cases ho;rw[Vm]at hd;cases hd
theorem Inv.lr(I:Inv X pins σ H s):s.heap.FunFrames X.base X.outer:=by
 have all:∀(l:List Env),(∀b∈DR l,b∈X.fs)->X.c5.heap.FunFrames X.base l->s.heap.FunFrames X.base l:=by
  intro l
  induction l with
  | nil=>intro _ _;trivial
  | cons env r ih =>
   intro hs hl;obtain⟨hk,⟨L,o,hf,hn,ho,hd⟩,hr⟩:=hl;have hL:L∈X.fs:=hs L (by unfold DR;rw[List.filterMap_cons,hf];exact ab8)
   obtain⟨sl,e⟩:=I.base.slot L o ho (I.ok.Lg L hL) hL λz=>I.ok.DC L z hL;exact⟨hk,⟨L,_,hf,hn,e,hd⟩,ih (λb hb=>hs b (by unfold DR;rw[List.filterMap_cons,hf];exact ab1 _ hb)) hr⟩
 exact all X.outer (λ_ hb=>hb) I.ok.lr
theorem Inv.stack(I:Inv X pins σ H s):s.heap.FunFrames X.base X.stack:=by
 rcases I.ok.stk with e|⟨e,hf⟩
 ·rw[e];exact I.lr
 ·rw[e]
  obtain⟨m,hn,_⟩:=I.loc;refine .cons (by rw[I.ok.kind];decide) hf hn ?_ I.lr
  exact Heap.get?_none_of_le (Nat.le_trans I.ok.Cg I.ok.above)
theorem Inv.tW(I:Inv X pins σ H s):∀b∈DR X.stack,b∈X.env.locals::X.fs:=λb hb=>by
 rcases I.ok.stk with e|⟨e,hf⟩
 ·rw[e]at hb;exact ab1 _ hb
 ·rw[e]at hb
  unfold DR at hb;rw[List.filterMap_cons,hf]at hb;exact hb
theorem Inv.Aa(I:Inv X pins σ H s):∀b∈DR X.stack,H b=none:=λb hb=>by
 rcases ab6.mp (I.tW b hb)with e|hb
 ·rw[e];exact I.free
 ·obtain⟨_,o,ho,_⟩:=I.ok.lr.mem hb
  exact I.base.free b o ho (I.ok.Lg b hb) λz=>I.ok.DC b z hb
theorem Inv.step{g':Array GenState}{t':Nat}{d':Drawn}{ch:List Addr}(I:Inv X pins σ H s)
  (Hc:∀b∈ch,(b∈X.ex\/X.c5.heap.get? b=none)/\b≠X.env.locals/\(∀x c,X.env.cells.lookup x=some c->c≠b)/\∀p∈X.pn++pins,p.1≠b)
  (keep:∀b o,b≠X.env.locals->b∉X.fs->b∉ch->s.heap.get? b=some o->H b=none->h'.get? b=some o)
  (slot:∀b o,b≠X.env.locals->b∈X.fs->b∉ch->s.heap.get? b=some o->H b=none->∃sl,h'.get? b=some {o with slots:=sl}) (free:∀b o,b∉ch->s.heap.get? b=some o->H b=none->H' b=none)
  (there:∀b o,b∉ch->s.heap.get? b=some o->∃o',h'.get? b=some o')
  (wC:∀b xs,H b=some (.tup xs)->H' b=some (.tup xs)) (rO:∀b o u,H b=some (.qj o u)->H' b=some (.qj o u)) (wz:∀b ps,H b=some (.UX ps)->∃more,H' b=some (.UX (ps++more)))
  (ns:∀m,s.heap.Ns X.env.locals m->h'.Ns X.env.locals m) (bG:hJ X.prog X.w H' h') (hg:AllBare g'):
  Inv X pins σ H' {s with heap:=h',gens:=g',drawn:=d',toks:=t'}:=by
 have neL:∀b o,X.c5.heap.get? b=some o->b≠X.env.locals:=λb o e=>Nat.ne_of_lt (Nat.lt_of_lt_of_le (Heap.lt_size e) I.ok.above);have neC:∀b o,X.c5.heap.get? b=some o->b∉X.ex->b∉ch:=λb o e hx hb=>by
  rcases(Hc b hb).1 with z|z
  ·exact hx z
  ·rw[e]at z;cases z
 have cellK:∀x c,X.env.cells.lookup x=some c->∀v,s.heap.IsCell c v->h'.IsCell c v:=λx c e v ⟨o,ho,hd⟩=>by
  have EL:c∉ch:=λz=>(Hc c z).2.2.1 x c e rfl
  by_cases hc:c∈X.fs
  ·obtain⟨sl,q⟩:=slot c o (I.MV x c e) hc EL ho (I.gJ x c e)
   exact⟨_,q,hd⟩
  ·exact⟨o,keep c o (I.MV x c e) hc EL ho (I.gJ x c e),hd⟩
 refine⟨I.ok,I.os,hg,⟨λb o e n hb hx=>?_,λb o e n hb hx=>?_,λb o e n hx=>?_,λb o e hx=>?_,λb xs e=>wC b xs (I.base.wC b xs e),λb o xs e=>rO b o xs (I.base.rO b o xs e),λb ps e=>?_⟩,?_,λx c e=>?_,?_,λx c e=>?_,λp hp=>?_,bG,I.len⟩
 ·exact keep b o (neL b o e) hb (neC b o e hx) (I.base.keep b o e n hb hx) (I.base.free b o e n hx)
 ·obtain⟨sl,e1⟩:=I.base.slot b o e n hb hx
  obtain⟨sl',e2⟩:=slot b _ (neL b o e) hb (neC b o e hx) e1 (I.base.free b o e n hx);exact⟨sl',e2⟩
 ·obtain⟨o',e1⟩:=I.base.there b o e hx
  exact free b o' (neC b o e hx) e1 (I.base.free b o e n hx)
 ·obtain⟨o',e1⟩:=I.base.there b o e hx
  exact there b o' (neC b o e hx) e1
 ·obtain⟨m1,e1⟩:=I.base.wz b ps e
  obtain⟨m2,e2⟩:=wz b _ e1;exact⟨m1++m2,by rw[e2,Array.append_assoc]⟩
 ·obtain⟨m,hn,hl⟩:=I.loc
  refine⟨m,ns m hn,λi x v e1 e2 e3=>?_⟩;obtain⟨u,r,l⟩:=hl i x v e1 e2 e3;refine⟨u,r,?_⟩;rcases l with l|⟨k,c,e,z⟩
  ·exact .inl l
  ·exact .inr ⟨k,c,e,cellK x c e _ z⟩
 ·obtain⟨v,z⟩:=I.cell x c e
  exact⟨v,cellK x c e v z⟩
 ·obtain⟨m,⟨o,_,_,ho,_⟩,_⟩:=I.loc
  exact free _ o (λz=>(Hc _ z).2.1 rfl) ho I.free
 ·obtain⟨v,o,ho,hd⟩:=I.cell x c e
  exact free c o (λz=>(Hc c z).2.2.1 x c e rfl) ho (I.gJ x c e)
 ·obtain⟨e,n,ne,nf,d⟩:=I.pin p hp
  have EL:p.1∉ch:=λz=>(Hc p.1 z).2.2.2 p hp rfl;exact⟨keep p.1 p.2 ne nf EL e n,free p.1 p.2 EL e n,ne,nf,d⟩
theorem Inv.un{t':Nat}(I:Inv X pins σ H s)(u:Un X.fs [] H H' s.heap h')(bG:hJ X.prog X.w H' h'):Inv X pins σ H' {s with heap:=h',toks:=t'}:=by
 obtain⟨m,⟨o,es,ep,ho,r⟩,_⟩:=id I.loc;obtain⟨sl,hL⟩:=u.any ho I.free (by simp)
 exact I.step (g':=s.gens) (d':=s.drawn) (ch:=[]) (λ_ z=>nomatch z) (λb o _ hb _ e n=>u.keep b o e n hb (by simp)) (λb o _ hb _ e n=>u.slot b o e n hb (by simp)) (λb o _ e n=>u.free b o e n (by simp)) (λb o _ e=>u.there b o e (by simp)) u.wC u.rO u.wz (λm' hm=>by
  obtain⟨o',Om,Ol,Pm,r'⟩:=hm;rw[ho]at Pm;cases Pm;exact⟨_,Om,Ol,hL,r'⟩) bG I.bare
theorem Inv.call{g':Array GenState}{t':Nat}{d':Drawn}{ch:List Addr}(I:Inv X pins σ H s)(u:Un (DR X.stack) ch H H' s.heap h')(bG:hJ X.prog X.w H' h')(hg:AllBare g')
  (Hc:∀b∈ch,(b∈X.ex\/X.c5.heap.get? b=none)/\b≠X.env.locals/\(∀x c,X.env.cells.lookup x=some c->c≠b)/\∀p∈X.pn++pins,p.1≠b):
  Inv X pins σ H' {s with heap:=h',gens:=g',drawn:=d',toks:=t'}:=by
 obtain⟨m,⟨o,es,ep,ho,r⟩,_⟩:=id I.loc;obtain⟨sl,hL⟩:=u.any ho I.free λz=>(Hc _ z).2.1 rfl;exact I.step (ch:=ch) Hc (λb o hL hb hc e n=>u.keep b o e n (λz=>(ab6.mp (I.tW b z)).elim hL hb) hc) (λb o _ _ hc e n=>u.any e n hc) (λb o hc e n=>u.free b o e n hc) (λb o hc e=>u.there b o e hc) u.wC u.rO u.wz (λm' hm=>by
  obtain⟨o',Om,Ol,Pm,r'⟩:=hm;rw[ho]at Pm;cases Pm;exact⟨_,Om,Ol,hL,r'⟩) bG hg
theorem Inv.turned{t':Nat}{it:Addr}(I:Inv X pins σ H s)(k:∀b o,b≠it->s.heap.get? b=some o->h'.get? b=some o)(hn:H it=none)(hL:it≠X.env.locals)
  (h1:it∈X.ex\/X.c5.heap.objs.size<=it) (h2:∀x c,X.env.cells.lookup x=some c->c≠it) (h3:∀p∈X.pn++pins,p.1≠it):Inv X pins σ H {s with heap:=h',toks:=t'}:=by
 have nit:∀b u,H b=some u->b≠it:=λb u e z=>by rw[z,hn]at e;cases e
 refine I.step (g':=s.gens) (d':=s.drawn) (ch:=[it]) (λb hb=>?_) (λb o _ _ hc e _=>k b o (λz=>hc (by simp [z])) e) (λb o _ _ hc e _=>⟨o.slots,k b o (λz=>hc (by simp [z])) e⟩) (λ_ _ _ _ n=>n)
  (λb o hc e=>⟨o,k b o (λz=>hc (by simp [z])) e⟩) (λ_ _ e=>e) (λ_ _ _ e=>e) (λb ps e=>⟨#[],by rw[e];simp⟩) (λm hm=>?_) (λb u e=>?_) I.bare
 ·have e:b=it:=by simpa using hb
  subst e;exact⟨h1.imp id λz=>Heap.get?_none_of_le z,hL,h2,h3⟩
 ·obtain⟨o,es,ep,ho,r⟩:=hm
  exact⟨o,es,ep,k _ o (Ne.symm hL) ho,r⟩
 ·refine(I.bG b u e).yr (λc v hc q=>k c v ?_ q) (λ_ q=>q) λ_ _ q=>q
  rcases hc with z|z
  ·rw[z];exact nit b u e
  ·exact nit c _ z
theorem Inv.tok(I:Inv X pins σ H s)(t:Nat):Inv X pins σ H {s with toks:=t}:=I.un (h':=s.heap) (t':=t) Un.refl I.bG
theorem Inv.kept{t':Nat}(I:Inv X pins σ H s)(k:∀b u,s.heap.get? b=some u->h'.get? b=some u):Inv X pins σ H {s with heap:=h',toks:=t'}:=I.un (Un.kept k) (I.bG.kept k)
theorem Inv.laid{a:Addr}{o:HO}{t':Nat}(I:Inv X pins σ H s)(k:∀b u,s.heap.get? b=some u->h'.get? b=some u)(hp:s.heap.objs.size<=a)(new:bR X.prog X.w (upd H a o) h' a o):
  Inv X pins σ (upd H a o) {s with heap:=h',toks:=t'}:=I.un (Un.laid k hp (I.bG.fresh hp)) (I.bG.laid k hp new)
theorem Inv.write{x e:Addr}{o:HO}{t':Nat}(I:Inv X pins σ H s)(mu:V1 (H x))(he:e=x\/H e=some (.own x))(k:∀b u,b≠e->s.heap.get? b=some u->h'.get? b=some u)(Vp:∃u,h'.get? e=some u)
  (new:bR X.prog X.w (upd H x o) h' x o):Inv X pins σ (upd H x o) {s with heap:=h',toks:=t'}:=I.un (Un.write mu he k Vp) (I.bG.write mu he k Vp new)
theorem Inv.zH{LI:List (Addr×Obj)}(I:Inv X pins σ H s)(h:∀p∈LI,s.heap.get? p.1=some p.2/\H p.1=none/\p.1≠X.env.locals/\p.1∉X.fs/\∀v,p.2.data≠.cell v):Inv X LI σ H s:=
 ⟨I.ok,I.os,I.bare,I.base,I.loc,I.cell,I.free,I.gJ,λp hp=>(List.mem_append.mp hp).elim (λz=>I.pin p (List.mem_append_left _ z)) (h p),I.bG,I.len⟩
theorem vT{N:List Str}(hN:N.Nodup){i j:Nat}{x:Str}(a:N[i]?=some x)(b:N[j]?=some x):i=j:=by
 obtain⟨h1,e1⟩:=ab2.mp a;obtain⟨h2,e2⟩:=ab2.mp b;exact(List.getElem_inj hN).mp (e1.trans e2.symm)
theorem Bl{M:Model}{A:Around}{E:Value->Shared->Prop}{i:Nat}{x:Str}{v:V}{u:Value}{Q:Unit->Shared->Prop}(I:Inv X pins σ H s)(hN:X.N.Nodup)(hi:X.N[i]?=some x)(hx:Loc X.env.scope x)(r:RelV v u)
  (h:∀s',Inv X pins (σ.set i (some v)) H s'->(∃a,Heap.SameBut a s.heap s'.heap/\(a=X.env.locals\/X.env.cells.lookup x=some a))->Q () s') (hf:X.fn x=true\/X.env.scope.names.lookup x=some .local:=by first|exact .inl rfl|exact .inr rfl|assumption):wpAny M A (storeName X.env x u) Q E s:=by
 obtain⟨m,hn,hl⟩:=id I.loc;have aaV:(X.env.scope.kind==.class||(X.env.scope.kind==.module&&X.env.locals != X.env.globals))=false:=by rw[I.ok.kind];rfl
 have XY:i<σ.length:=by rw[I.len];exact(ab2.mp hi).1
 have MV:=I.MV;have tracked:∀ {a:Addr} {h':Heap},(∃o,s.heap.get? a=some o/\H a=none)->Heap.SameBut a s.heap h'->hJ X.prog X.w H h':=λ{a h'} ha hs b ob e=>by
  obtain⟨_,_,y0⟩:=ha;refine(I.bG b ob e).yr (λc w' hc q=>(hs.2 c ?_).trans q) (λ_ q=>q) λ_ _ q=>q;rintro rfl;rcases hc with rfl|hc
  ·rw[y0]at e;cases e
  ·rw[y0]at hc;cases hc
 rcases hx with hk|hk
 ·refine wpAny_storeName_local hk hn (λh' hn' hs=>?_) aaV
  obtain⟨oL,_,_,Pn,_⟩:=id hn;refine h _ ⟨I.ok,I.os,I.bare,⟨λb o e n hb hx=>?_,λb o e n hb hx=>?_,I.base.free,λb o e hx=>?_,I.base.wC,I.base.rO,I.base.wz⟩,⟨_,hn',λj y v' e1 e2 e3=>?_⟩,λy c e=>?_,I.free,I.gJ,λp hp=>?_,tracked ⟨oL,Pn,I.free⟩ hs,by simpa using I.len⟩ ⟨_,hs,.inl rfl⟩
  ·exact(hs.2 b (Nat.ne_of_lt (Nat.lt_of_lt_of_le (Heap.lt_size e) I.ok.above))).trans (I.base.keep b o e n hb hx)
  ·obtain⟨sl,e1⟩:=I.base.slot b o e n hb hx
   exact⟨sl,(hs.2 b (Nat.ne_of_lt (Nat.lt_of_lt_of_le (Heap.lt_size e) I.ok.above))).trans e1⟩
  ·obtain⟨o',e1⟩:=I.base.there b o e hx
   exact⟨o',(hs.2 b (Nat.ne_of_lt (Nat.lt_of_lt_of_le (Heap.lt_size e) I.ok.above))).trans e1⟩
  ·by_cases hj:j=i
   ·subst hj
    rw[hi]at e1;cases e1;rw[List.getElem?_set_self XY]at e2;cases e2;exact⟨u,r,.inl ⟨hk,by simp⟩⟩
   ·rw[List.getElem?_set_ne (Ne.symm hj)]at e2
    obtain⟨u',r',q⟩:=hl j y v' e1 e2 e3;refine⟨u',r',?_⟩;rcases q with⟨k,e⟩|⟨k,c,e,z⟩
    ·refine .inl ⟨k,?_⟩
     have:y≠x:=λe=>hj (vT hN e1 (e ▸ hi));simp [this,e]
    ·exact .inr ⟨k,c,e,z.sameBut hs (MV y c e)⟩
  ·obtain⟨w',z⟩:=I.cell y c e
   exact⟨w',z.sameBut hs (MV y c e)⟩
  ·obtain⟨e,n,ne,nf,d⟩:=I.pin p hp
   exact⟨(hs.2 p.1 ne).trans e,n,ne,nf,d⟩
 ·have hfn:X.fn x=true:=by
   rcases hf with z|z
   ·exact z
   ·rw[z]at hk;cases hk
  obtain⟨c,hc⟩:=I.ok.has x (.inl hk);obtain⟨w',z⟩:=I.cell x c hc;refine wpAny_storeName_cell I.ok.kind hk hc z (λh' Vl hs=>?_);obtain⟨oc,hoc,aa2⟩:=id z;refine h {s with heap:=h'} ⟨I.ok,I.os,I.bare,⟨λb o e n hb hx=>?_,λb o e n hb hx=>?_,I.base.free,λb o e hx=>?_,I.base.wC,I.base.rO,I.base.wz⟩,⟨m,hn.sameBut hs (Ne.symm (MV x c hc)),λj y v' e1 e2 e3=>?_⟩,λy c' e=>?_,I.free,I.gJ,λp hp=>?_,tracked ⟨oc,hoc,I.gJ x c hc⟩ hs,by simpa using I.len⟩ ⟨c,hs,.inr hc⟩
  ·exact(hs.2 b (Nat.ne_of_lt (Nat.lt_of_lt_of_le (Heap.lt_size e) (I.ok.Vh x c hfn hc)))).trans (I.base.keep b o e n hb hx)
  ·obtain⟨sl,e1⟩:=I.base.slot b o e n hb hx
   exact⟨sl,(hs.2 b (Nat.ne_of_lt (Nat.lt_of_lt_of_le (Heap.lt_size e) (I.ok.Vh x c hfn hc)))).trans e1⟩
  ·obtain⟨o',e1⟩:=I.base.there b o e hx
   exact⟨o',(hs.2 b (Nat.ne_of_lt (Nat.lt_of_lt_of_le (Heap.lt_size e) (I.ok.Vh x c hfn hc)))).trans e1⟩
  ·by_cases hj:j=i
   ·subst hj
    rw[hi]at e1;cases e1;rw[List.getElem?_set_self XY]at e2;cases e2;exact⟨u,r,.inr ⟨.inl hk,c,hc,Vl⟩⟩
   ·rw[List.getElem?_set_ne (Ne.symm hj)]at e2
    obtain⟨u',r',q⟩:=hl j y v' e1 e2 e3;refine⟨u',r',?_⟩;rcases q with q|⟨k,c',e,z'⟩
    ·exact .inl q
    ·refine .inr ⟨k,c',e,z'.sameBut hs ?_⟩
     rintro rfl;exact hj (vT hN e1 (I.ok.inj _ _ _ e hc ▸ hi))
  ·by_cases hcc:c'=c
   ·subst hcc;exact⟨_,Vl⟩
   ·obtain⟨w2,z2⟩:=I.cell y c' e
    exact⟨w2,z2.sameBut hs hcc⟩
  ·obtain⟨e,n,ne,nf,d⟩:=I.pin p hp
   refine⟨(hs.2 p.1 ?_).trans e,n,ne,nf,d⟩;intro q;rw[q,hoc]at e;have q':oc=p.2:=Option.some.inj e;exact d w' (by rw[<- q'];exact aa2)
theorem oW{M:Model}{A:Around}{E:Value->Shared->Prop}{i:Nat}{x:Str}{v:V}{u:Value}{Q:Unit->Shared->Prop}(I:Inv X pins σ H s)(hN:X.N.Nodup)(hi:X.N[i]?=some x)(hx:Loc X.env.scope x)(r:RelV v u)
  (h:∀s',Inv X pins (σ.set i (some v)) H s'->Q () s') (hf:X.fn x=true\/X.env.scope.names.lookup x=some .local:=by first|exact .inl rfl|exact .inr rfl|assumption):wpAny M A (storeName X.env x u) Q E s:=
 Bl I hN hi hx r (λs' I' _=>h s' I') hf
theorem Inv.Wr{s':Shared}{ch:List Addr}(I:Inv X pins σ H s)(ho:s'.os=s.os)(u:Un (DR X.stack) ch H H' s.heap s'.heap)(bG:hJ X.prog X.w H' s'.heap)(hg:AllBare s'.gens)
  (Hc:∀b∈ch,(b∈X.ex\/X.c5.heap.get? b=none)/\b≠X.env.locals/\(∀x c,X.env.cells.lookup x=some c->c≠b)/\∀p∈X.pn++pins,p.1≠b):Inv X pins σ H' s':=by
 obtain⟨h',g',d',t',o'⟩:=s';have e:o'=s.os:=ho;subst e;exact I.call (g':=g') (t':=t') (d':=d') u bG hg Hc
end
abbrev XK:=Value->Option Addr->Hp->Prop
abbrev St:=List (Option V)
abbrev VK:=V->Hp->Prop
abbrev TE:=St->Hp->VK->Prop
abbrev TT:=St->Hp->(Bool->Hp->Prop)->Prop
abbrev TA:=St->Hp->(List V->Hp->Prop)->Prop
structure Ends where
 nx:St->Hp->Prop
 rt:VK
 bk:St->Hp->Prop:=λ_ _=>False
 ct:St->Hp->Prop:=λ_ _=>False
abbrev TS:=Ends->St->Hp->Prop
def EP(X:Cx)(pins:List (Addr×Obj))(σ:St)(Q:VK)(u:Value)(s':Shared):Prop:=∃v H',Inv X pins σ H' s'/\RelV v u/\Q v H'
def TP(X:Cx)(pins:List (Addr×Obj))(σ:St)(Q:Bool->Hp->Prop)(b:Bool)(s':Shared):Prop:=∃H',Inv X pins σ H' s'/\Q b H'
def AP(X:Cx)(pins:List (Addr×Obj))(σ:St)(Q:List V->Hp->Prop)(us:List Value)(s':Shared):Prop:=∃vs H',Inv X pins σ H' s'/\Vals vs us/\Q vs H'
def SP(X:Cx)(pins:List (Addr×Obj))(D:Ends)(f:Flow)(s':Shared):Prop:=
 match f with
 | .next=>∃bZ H',Inv X pins bZ H' s'/\D.nx bZ H'
 | .brk=>∃bZ H',Inv X pins bZ H' s'/\D.bk bZ H'
 | .cont=>∃bZ H',Inv X pins bZ H' s'/\D.ct bZ H'
 | .ret u=>∃v bZ H',Inv X pins bZ H' s'/\RelV v u/\D.rt v H'
def PE(X:Cx)(e:Expr)(t:TE):Prop:=
 ∀(pins:List (Addr×Obj)) (s:Shared) (σ:St) (H:Hp) (Q:VK),Inv X pins σ H s->t σ H Q->wpAny (model X.prog X.w) X.A (eval e X.env) (EP X pins σ Q) X.xe s
def PT(X:Cx)(e:Expr)(t:TT):Prop:=
 ∀(pins:List (Addr×Obj)) (s:Shared) (σ:St) (H:Hp) (Q:Bool->Hp->Prop),Inv X pins σ H s->t σ H Q->wpAny (model X.prog X.w) X.A (isTrue e X.env (eval e X.env)) (TP X pins σ Q) X.xe s
def PW(X:Cx)(e:Expr)(t:TT):Prop:=
 ∀(whole:Sem Value) (pins:List (Addr×Obj)) (s:Shared) (σ:St) (H:Hp) (Q:Bool->Hp->Prop),Inv X pins σ H s->t σ H Q->wpAny (model X.prog X.w) X.A (isTrue e X.env whole) (TP X pins σ Q) X.xe s
theorem PW.pt{X:Cx}{e:Expr}{t:TT}(h:PW X e t):PT X e t:=h _
def PA(X:Cx)(es:List Expr)(t:TA):Prop:=
 ∀(pos:Pos) (pins:List (Addr×Obj)) (s:Shared) (σ:St) (H:Hp) (Q:List V->Hp->Prop),Inv X pins σ H s->t σ H Q->wpAny (model X.prog X.w) X.A (spliced (backTo pos (ab7 es X.env))) (AP X pins σ Q) X.xe s
def PS(X:Cx)(st:Stmt)(t:TS):Prop:=
 ∀(pins:List (Addr×Obj)) (s:Shared) (σ:St) (H:Hp) (D:Ends),Inv X pins σ H s->t D σ H->wpAny (model X.prog X.w) X.A (exec st X.env) (SP X pins D) X.xe s
def qU(X:Cx)(st:List Stmt)(t:TS):Prop:=
 ∀(pins:List (Addr×Obj)) (s:Shared) (σ:St) (H:Hp) (D:Ends),Inv X pins σ H s->t D σ H->wpAny (model X.prog X.w) X.A (execs st X.env) (SP X pins D) X.xe s
theorem cv{α:Type}{t:Sem α}{Q Q':α->Shared->Prop}{M:Model}{A:Around}{E:Value->Shared->Prop}{s:Shared}(h:wpAny M A t Q E s)(hQ:∀a s,Q a s->Q' a s):wpAny M A t Q' E s:=wpAny_mono h hQ λ_ _ x=>x
end L2
namespace L2
open PySem PySem.Spec PyProof.Rows
section
variable {X:Cx}
def aat(i:Nat):TE:=λσ H Q=>∃v,σ[i]?=some (some v)/\Q v H
def tC(v:V):TE:=λ_ H Q=>Q v H
theorem jg{i:Nat}{x:Str}{pos:Pos}(hN:X.N[i]?=some x)(hv:Hu X.env.scope x)(hd:(x==("__debug__":Str))=false:=by decide)(mY:(x==("__classdict__":Str))=false:=by decide):PE X (.Name x pos) (aat i):=by
 intro pins s σ H Q I h;obtain⟨v,e,h⟩:=h;obtain⟨m,hn,hl⟩:=I.loc;obtain⟨u,r,l⟩:=hl i x v hN e hv;have fin:EP X pins σ Q u s:=⟨v,H,I,r,h⟩;rcases l with⟨hk,hm⟩|⟨hk,c,hc,yZ⟩
 ·exact wpAny_Name (wpAny_loadName_local I.ok.kind hk hn hm fin) hd
 ·rcases hk with hk|hk
  ·exact wpAny_Name (wpAny_loadName_cell I.ok.kind hk hc yZ fin) hd
  ·exact wpAny_Name (wpAny_loadName_free I.ok.kind hk hc yZ fin mY) hd
theorem Sj{i j pos}:PE X (.Constant (.int i) j pos) (tC (.int i)):=λ_ _ _ H _ I h=>wpAny_Constant_int ⟨.int i,H,I.tok _,⟨_,rfl⟩,h⟩
theorem Zu{b j pos}:PE X (.Constant (.bool b) j pos) (tC (.bl b)):=λ_ _ _ H _ I h=>Constant_bool ⟨.bl b,H,I,rfl,h⟩
theorem Sl{j pos}:PE X (.Constant .none j pos) (tC .aQ):=λ_ _ _ H _ I h=>Constant_none ⟨.aQ,H,I,rfl,h⟩
theorem Sr{x j pos}:PE X (.Constant (.str x) j pos) (tC (.str x)):=λ_ _ _ H _ I h=>Calls.Constant_str ⟨.str x,H,I.tok _,⟨_,rfl⟩,h⟩
def Gl(X:Cx)(x:Str):Prop:=X.env.kindOf x=some .globalImplicit
theorem r9{E:Value->Shared->Prop}{pins:List (Addr×Obj)}{s:Shared}{σ:St}{H:Hp}{x:Str}{u:Value}{pos:Pos}{Q:Value->Shared->Prop}(I:Inv X pins σ H s)(hg:Gl X x)(hm:X.mg x=some u)(h:Q u s)
  (hd:(x==("__debug__":Str))=false:=by decide):wpAny (model X.prog X.w) X.A (eval (.Name x pos) X.env) Q E s:=
 Calls.Name_function_global I.ok.kind hg (Calls.loadGlobal_global (by rw[I.ok.glob];exact I.mod.glob.keeps I.bk) hm h) hd
theorem jd{E:Value->Shared->Prop}{pins:List (Addr×Obj)}{s:Shared}{σ:St}{H:Hp}{x:Str}{u:Value}{pos:Pos}{Q:Value->Shared->Prop}(I:Inv X pins σ H s)(hg:Gl X x)(hm:X.mg x=none)(hv:bootBuiltins x=some u)(h:Q u s)
  (hn:x≠"__name__":=by decide) (hd:(x==("__debug__":Str))=false:=by decide):wpAny (model X.prog X.w) X.A (eval (.Name x pos) X.env) Q E s:=by
 obtain⟨mb,h1,h2⟩:=I.mod.blt;exact Calls.Name_function_global I.ok.kind hg (Calls.loadGlobal_builtin (by rw[I.ok.glob];exact I.mod.glob.keeps I.bk) hm (by rw[I.ok.blt];exact h1.keeps I.bk) ((h2 x hn).trans hv) h) hd
theorem Jr{x:Str}{v:V}{u:Value}{pos:Pos}(hg:Gl X x)(hm:X.mg x=some u)(r:RelV v u)(hd:(x==("__debug__":Str))=false:=by decide):PE X (.Name x pos) (tC v):=
 λ_ _ _ H _ I h=>r9 I hg hm ⟨v,H,I,r,h⟩ hd
theorem sj{x:Str}{v:V}{u:Value}{pos:Pos}(hg:Gl X x)(hm:X.mg x=none)(hv:bootBuiltins x=some u)(r:RelV v u)(hn:x≠"__name__":=by decide)(hd:(x==("__debug__":Str))=false:=by decide):PE X (.Name x pos) (tC v):=
 λ_ _ _ H _ I h=>jd I hg hm hv ⟨v,H,I,r,h⟩ hn hd
variable {a b:Expr}{ta tb:TE}{pos:Pos}
variable {tA tB':TT}{rest:List Expr}
def abE(t u:TT):TT:=λσ H Q=>t σ H λc H1=>if c=true then u σ H1 Q else Q false H1
def tOr(t u:TT):TT:=λσ H Q=>t σ H λc H1=>if c=true then Q true H1 else u σ H1 Q
def abH(t:TT):TT:=λσ H Q=>t σ H λc H1=>Q (!c) H1
theorem pw_and1(ha:PT X a tA):PW X (.BoolOp .And [a] pos) tA:=by
 intro wh pins s σ H Q I h;refine isTrue_and (cv (ha pins s σ H Q I h) λc s1 e=>?_);cases c with
 | true=>exact isTrue_and_nil e
 | false=>exact e
theorem pw_or1(ha:PT X a tA):PW X (.BoolOp .Or [a] pos) tA:=by
 intro wh pins s σ H Q I h;refine isTrue_or (cv (ha pins s σ H Q I h) λc s1 e=>?_);cases c with
 | false=>exact isTrue_or_nil e
 | true=>exact e
theorem pw_and(ha:PT X a tA)(hb:PW X (.BoolOp .And (b::rest) pos) tB'):PW X (.BoolOp .And (a::b::rest) pos) (abE tA tB'):=by
 intro wh pins s σ H Q I h;refine isTrue_and (cv (ha pins s σ H _ I h) λc s1 ⟨H1,I1,q1⟩=>?_);cases c with
 | true=>exact hb wh pins s1 σ H1 Q I1 q1
 | false=>exact⟨H1,I1,q1⟩
theorem pw_or(ha:PT X a tA)(hb:PW X (.BoolOp .Or (b::rest) pos) tB'):PW X (.BoolOp .Or (a::b::rest) pos) (tOr tA tB'):=by
 intro wh pins s σ H Q I h;refine isTrue_or (cv (ha pins s σ H _ I h) λc s1 ⟨H1,I1,q1⟩=>?_);cases c with
 | true=>exact⟨H1,I1,q1⟩
 | false=>exact hb wh pins s1 σ H1 Q I1 q1
theorem Ta(ha:PT X a tA):PT X (.UnaryOp .Not a pos) (abH tA):=by
 intro pins s σ H Q I h;exact isTrue_not (ha pins s σ H (λc H1=>Q (!c) H1) I h)
def aaj(ta tb:TE):TE:=λσ H Q=>ta σ H λx H1=>∃c,x=.bl c/\if c=true then tb σ H1 Q else Q (.bl false) H1
theorem Sn{op}{t:TE}(h:PE X a t):PE X (.BoolOp op [a] pos) t:=λpins s σ H Q I hw=>BoolOp_one (h pins s σ H Q I hw)
theorem Si(ha:PE X a ta)(hb:PE X (.BoolOp .And (b::rest) pos) tb):PE X (.BoolOp .And (a::b::rest) pos) (aaj ta tb):=by
 intro pins s σ H Q I h;refine BoolOp_and (cv (ha pins s σ H _ I h) λv s1 ⟨x,H1,I1,r1,q1⟩=>?_);obtain⟨c,rfl,q1⟩:=q1;cases r1;refine wpAny_truthy_bool ?_;cases c with
 | true=>exact hb pins s1 σ H1 Q I1 q1
 | false=>exact⟨.bl false,H1,I1,rfl,q1⟩
end
end L2
namespace L2
open PySem PySem.Spec PyProof.Rows
def f7(K:ab4)(H:Hp)(a:Addr)(xs:List V):Prop:=
 Rd H a (.lst xs) \/
  ∃(o:Obj) (its:Array Value) (n:Nat),K.lookup a=some o/\o.cls=.type "list"/\o.dict=none/\o.data=.seq its n/\its.size<=aca/\Vals xs its.toList
def k6(K:ab4)(H:Hp)(a:Addr)(xs:List V):Prop:=
 Rd H a (.tup xs) \/
  ∃(o:Obj) (its:Array Value) (n:Nat),K.lookup a=some o/\o.cls=.type "tuple"/\o.data=.seq its n/\its.size<=aca/\Vals xs its.toList
def aaC:Value->Option V
 | .none=>some .aQ
 | .bool b=>some (.bl b)
 | .int i _=>some (.int i)
 | .str x _=>some (.str x)
 | .bytes b _=>some (.Vg b)
 | .float b _=>some (.Ld b)
 | .ref a=>some (.ref a)
 | .type n=>some (.ty n)
 | _=>none
theorem RelV.abs{x:V}{u:Value}(r:RelV x u):aaC u=some x:=by
 cases x with
 | aQ=>cases r;rfl
 | bl _=>cases r;rfl
 | int _=>obtain⟨t,rfl⟩:=r;rfl
 | str _=>obtain⟨t,rfl⟩:=r;rfl
 | Vg _=>obtain⟨t,rfl⟩:=r;rfl
 | Ld _=>obtain⟨t,rfl⟩:=r;rfl
 | ref _=>cases r;rfl
 | ty _=>cases r;rfl
theorem RelV.inj{x y:V}{u:Value}(r:RelV x u)(q:RelV y u):x=y:=Option.some.inj (r.abs.symm.trans q.abs)
theorem Vals.inj:∀ {xs ys:List V} {us:List Value},Vals xs us->Vals ys us->xs=ys
 | _,_,_,.nil,.nil=>rfl
 | _,_,_,.cons r t,.cons r' t'=>by rw[r.inj r',Vals.inj t t']
section
variable {X:Cx}{pins:List (Addr×Obj)}{σ:St}{H:Hp}{s:Shared}{a:Addr}{xs ys:List V}
theorem f7.of{K:ab4}(h:H a=some (.lst xs)):f7 K H a xs:=.inl (.inl h)
theorem k6.of{K:ab4}(h:H a=some (.tup xs)):k6 K H a xs:=.inl (.inl h)
theorem Inv.list(I:Inv X pins σ H s)(h:f7 X.K H a xs):∃its:List Value,Vals xs its/\PlainL s.heap a its.toArray/\xs.length<=aca:=by
 rcases h with h|⟨o,its,n,hk,hc,hd,hs,hz,r⟩
 ·obtain⟨z,its,n,r,e⟩:=h.ok I.bG
  exact⟨its,r,⟨_,n,e,rfl,rfl,rfl⟩,z⟩
 ·refine⟨its.toList,r,⟨o,n,I.mG a o hk,hc,hd,by simpa using hs⟩,?_⟩
  have e:=r.length;simp only[Array.length_toList]at e;omega
theorem Inv.tuple(I:Inv X pins σ H s)(h:k6 X.K H a xs):∃its:List Value,Vals xs its/\IsTup s.heap a its.toArray/\xs.length<=aca:=by
 rcases h with h|⟨o,its,n,hk,hc,hs,hz,r⟩
 ·obtain⟨z,its,r,p⟩:=h.ok I.bG
  exact⟨its,r,p,z⟩
 ·refine⟨its.toList,r,⟨o,I.mG a o hk,hc,n,by simpa using hs⟩,?_⟩
  have e:=r.length;simp only[Array.length_toList]at e;omega
theorem Inv.vJ(I:Inv X pins σ H s)(h:f7 X.K H a xs)(h':f7 X.K H a ys):xs=ys:=by
 obtain⟨its,r,⟨o,n,e,_,_,d⟩,_⟩:=I.list h;obtain⟨its',r',⟨o',n',e',_,_,d'⟩,_⟩:=I.list h';rw[e]at e';cases e';rw[d]at d'
 injection d' with d1 _
 have:its=its':=by simpa using congrArg Array.toList d1
 subst this;exact r.inj r'
theorem Inv.qO(I:Inv X pins σ H s)(h:k6 X.K H a xs)(h':k6 X.K H a ys):xs=ys:=by
 obtain⟨its,r,⟨o,e,_,n,d⟩,_⟩:=I.tuple h;obtain⟨its',r',⟨o',e',_,n',d'⟩,_⟩:=I.tuple h';rw[e]at e';cases e';rw[d]at d'
 injection d' with d1 _
 have:its=its':=by simpa using congrArg Array.toList d1
 subst this;exact r.inj r'
end
abbrev Cx.pH(X:Cx)(E:Value->Shared->Prop):Cx:={X with xe:=E}
abbrev Cx.IZ(X:Cx):Cx:=X.pH λ_ _=>False
theorem Cx.Ok.pH{X:Cx}(ok:X.Ok)(E:Value->Shared->Prop):(X.pH E).Ok:=
 ⟨ok.mod,ok.kind,ok.glob,ok.blt,ok.above,ok.inj,ok.has,ok.Vh,ok.hd,ok.frames,ok.stk,ok.exf,ok.bs,ok.Cg,ok.A1,ok.DC,ok.lr,ok.Lg⟩
theorem Cx.Ok.g0{X:Cx}{E:Value->Shared->Prop}(ok:(X.pH E).Ok):X.Ok:=
 ⟨ok.mod,ok.kind,ok.glob,ok.blt,ok.above,ok.inj,ok.has,ok.Vh,ok.hd,ok.frames,ok.stk,ok.exf,ok.bs,ok.Cg,ok.A1,ok.DC,ok.lr,ok.Lg⟩
section
variable {X:Cx}{pins:List (Addr×Obj)}{σ:St}{H:Hp}{s:Shared}{E:Value->Shared->Prop}
theorem Inv.pH(I:Inv X pins σ H s)(E:Value->Shared->Prop):Inv (X.pH E) pins σ H s:=⟨I.ok.pH E,I.os,I.bare,I.base,I.loc,I.cell,I.free,I.gJ,I.pin,I.bG,I.len⟩
theorem Inv.g0(I:Inv (X.pH E) pins σ H s):Inv X pins σ H s:=⟨I.ok.g0,I.os,I.bare,I.base,I.loc,I.cell,I.free,I.gJ,I.pin,I.bG,I.len⟩
theorem SP.g0{D:Ends}{f:Flow}{s':Shared}(h:SP (X.pH E) pins D f s'):SP X pins D f s':=by
 cases f with
 | next=>obtain⟨bZ,H',I,q⟩:=h;exact⟨bZ,H',I.g0,q⟩
 | brk=>obtain⟨bZ,H',I,q⟩:=h;exact⟨bZ,H',I.g0,q⟩
 | cont=>obtain⟨bZ,H',I,q⟩:=h;exact⟨bZ,H',I.g0,q⟩
 | ret u=>obtain⟨v,bZ,H',I,r,q⟩:=h;exact⟨v,bZ,H',I.g0,r,q⟩
theorem qU.IZ{st:List Stmt}{t:TS}(h:qU X.IZ st t):qU X st t:=λpins s σ H D I hw =>
 wpAny_mono (h pins s σ H D (I.pH _) hw) (λ_ _ q=>q.g0) λ_ _ z=>False.elim z
end
section
variable {X:Cx}{st:Stmt}{rest:List Stmt}{t u:TS}{e:Expr}{te:TE}{pos:Pos}
def aaq:TS:=λD σ H=>D.nx σ H
def abJ(t u:TS):TS:=λD σ H=>t {D with nx:=u D} σ H
theorem zK:qU X [] aaq:=λ_ _ σ H _ I h=>wpAny_execs_nil ⟨σ,H,I,h⟩
theorem vZ(h1:PS X st t)(h2:qU X rest u):qU X (st::rest) (abJ t u):=by
 intro pins s σ H D I h;refine wpAny_execs_cons (cv (h1 pins s σ H {D with nx:=u D} I h) λf s1 q=>?_)
 cases f with
 | next =>
  obtain⟨bZ,H',I',q⟩:=q;exact h2 pins s1 bZ H' D I' q
 | ret v=>exact q
 | brk=>exact q
 | cont=>exact q
theorem sA(h1:PS X st t):qU X [st] t:=by
 intro pins s σ H D I h;refine wpAny_execs_cons (cv (h1 pins s σ H D I h) λf s1 q=>?_);cases f with
 | next=>exact wpAny_execs_nil q
 | ret v=>exact q
 | brk=>exact q
 | cont=>exact q
theorem Inv.quiet{pins:List (Addr×Obj)}{σ:St}{H:Hp}{s:Shared}(I:Inv X pins σ H s):interactive X.env=false:=by simp [interactive,I.ok.kind]
def aam(te:TE):TS:=λD σ H=>te σ H λ_ H1=>D.nx σ H1
theorem sv(he:PE X e te)(hs:swapsWith e none pos.line X.env=pure false:=by rfl):PS X (.Expr e pos) (aam te):=by
 intro pins s σ H D I h;exact wpAny_Expr_any (cv (he pins s σ H _ I h) λv s1 ⟨x,H1,I1,r1,q1⟩=>⟨σ,H1,I1,q1⟩) I.quiet hs
def abI(te:TE):TS:=λD σ H=>te σ H D.rt
theorem yb(he:PE X e te):PS X (.Return (some e) pos) (abI te):=by
 intro pins s σ H D I h;exact wpAny_Return_some (cv (he pins s σ H _ I h) λv s1 ⟨x,H1,I1,r1,q1⟩=>⟨x,σ,H1,I1,r1,q1⟩)
def abG(c:TT)(t u:TS):TS:=λD σ H=>c σ H λb H1=>if b=true then t D σ H1 else u D σ H1
theorem LJ{c:Expr}{a b:List Stmt}{tc:TT}(hc:PT X c tc)(ha:qU X a t)(hb:qU X b u):PS X (.If c a b pos) (abG tc t u):=by
 intro pins s σ H D I h;refine wpAny_If (cv (hc pins s σ H _ I h) λd s1 ⟨H1,I1,q1⟩=>?_);cases d with
 | true=>exact ha pins s1 σ H1 D I1 q1
 | false=>exact hb pins s1 σ H1 D I1 q1
def UI:TS:=λ_ _ _=>False
theorem Fu:PS X st UI:=λ_ _ _ _ _ _ h=>h.elim
end
abbrev TG:=V->St->Hp->(St->Hp->Prop)->Prop
abbrev K0:=List V->St->Hp->(St->Hp->Prop)->Prop
def PG(X:Cx)(target:Expr)(t:TG):Prop:=
 ∀(pins:List (Addr×Obj)) (s:Shared) (σ:St) (H:Hp) (v:V) (u:Value) (Q:St->Hp->Prop),Inv X pins σ H s->RelV v u->t v σ H Q ->
  wpAny (model X.prog X.w) X.A (assign target X.env u) (λ_ s'=>∃bZ H',Inv X pins bZ H' s'/\Q bZ H') X.xe s
def Ve(X:Cx)(ts:List Expr)(t:K0):Prop:=
 ∀(pins:List (Addr×Obj)) (s:Shared) (σ:St) (H:Hp) (vs:List V) (us:List Value) (Q:St->Hp->Prop),Inv X pins σ H s->Vals vs us->t vs σ H Q ->
  wpAny (model X.prog X.w) X.A (assignInOrder ((assignEach ts X.env).map (·.2)) us) (λ_ s'=>∃bZ H',Inv X pins bZ H' s'/\Q bZ H') X.xe s
abbrev Ml:=V->V->V->Hp->(Hp->Prop)->Prop
def V2(X:Cx)(t:Ml):Prop:=
 ∀(pins:List (Addr×Obj)) (s:Shared) (σ:St) (H:Hp) (o i v:V) (ov iv u:Value) (Q:Hp->Prop),Inv X pins σ H s->RelV o ov->RelV i iv->RelV v u->t o i v H Q ->
  wpAny (model X.prog X.w) X.A (setItem ov iv u) (λ_ s'=>∃H',Inv X pins σ H' s'/\Q H') X.xe s
section
variable {X:Cx}{pos:Pos}
def nN(i:Nat):TG:=λv σ H Q=>Q (σ.set i (some v)) H
theorem zG{i:Nat}{x:Str}(hN:X.N.Nodup)(hi:X.N[i]?=some x)(hx:Loc X.env.scope x)(hf:X.fn x=true\/X.env.scope.names.lookup x=some .local:=by first|exact .inl rfl|exact .inr rfl|assumption):PG X (.Name x pos) (nN i):=by
 intro pins s σ H v u Q I r h;exact wpAny_assign_Name (oW I hN hi hx r (λs' I'=>⟨_,H,I',h⟩) hf)
def aaR:K0:=λvs σ H Q=>vs=[]/\Q σ H
def XG(t:TG)(u:K0):K0:=λvs σ H Q=>∃v r,vs=v::r/\t v σ H λbZ H'=>u r bZ H' Q
theorem Ju:Ve X [] aaR:=by
 intro pins s σ H vs us Q I r h;obtain⟨e,h⟩:=h;subst e;cases r;exact assignInOrder_nil ⟨σ,H,I,h⟩
theorem Fh{e:Expr}{es:List Expr}{t:TG}{u:K0}(h1:PG X e t)(h2:Ve X es u)
  (hs:(assignEach (e::es) X.env).map (·.2)=assign e X.env::(assignEach es X.env).map (·.2):=by rfl):Ve X (e::es) (XG t u):=by
 intro pins s σ H vs us Q I r h;obtain⟨v,vr,e1,h⟩:=h;subst e1;cases r with
 | cons r rr =>
  rw[hs];refine assignInOrder_cons (cv (h1 pins s σ H _ _ _ I r h) λ_ s1 ⟨av,H1,I1,q1⟩=>?_);exact h2 pins s1 av H1 _ _ Q I1 rr q1
def aaT(K:ab4)(n:Nat)(t:K0):TG:=λv σ H Q=>∃a xs,v=.ref a/\k6 K H a xs/\xs.length=n/\t xs σ H Q
theorem Sv{es:List Expr}{k:Nat}{t:K0}{n:Nat}(hc:X.calm=true)(h:Ve X es t)
  (hn:(assignEach es X.env).length=n:=by rfl) (En:(assignEach es X.env).findIdx? (·.1)=none:=by rfl):PG X (.Tuple es k pos) (aaT X.K n t):=by
 intro pins s σ H v u Q I r hw;obtain⟨a,xs,e1,hq,hl,hw⟩:=hw;subst e1;cases r;obtain⟨its,rv,ht,hz⟩:=I.tuple hq;refine assign_Tuple_tuple (I.ok.hd hc) ht (by simp [hn,<- hl,rv.length]) En λh' hx=>?_
 have I1:Inv X pins σ H {s with heap:=h'}:=I.kept (t':=s.toks) λb o e=>hx b o (Nat.ne_of_lt (Heap.lt_size e)) e
 exact h pins _ σ H xs _ Q I1 (by simpa using rv) hw
def aaS(to ti:TE)(t:Ml):TG:=λv σ H Q=>to σ H λo H1=>ti σ H1 λi H2=>t o i v H2 λH3=>Q σ H3
theorem Ss{o i:Expr}{to ti:TE}{t:Ml}(ho:PE X o to)(hi:PE X i ti)(hs:V2 X t)
  (ha:∀v,assign (.Subscript o i pos) X.env v=(do
   let ov <- holding [v] (eval o X.env)
   let iv <- holding [v,ov] (eval i X.env)
   standAt pos
   holding [v,ov,iv] (setItem ov iv v)
   release [v,ov,iv] []):=by intro _;rfl):PG X (.Subscript o i pos) (aaS to ti t):=by
 intro pins s σ H v u Q I r h;rw[ha];refine abW (wpAny_holding (cv (ho pins s σ H _ I h) λov s1 ⟨x,H1,I1,r1,q1⟩=>?_));refine abW (wpAny_holding (cv (hi pins s1 σ H1 _ I1 q1) λiv s2 ⟨y,H2,I2,r2,q2⟩=>?_));refine abW (wpAny_standAt (abW (wpAny_holding (cv (hs pins s2 σ H2 x y v ov iv u _ I2 r1 r2 r q2) λ_ s3 ⟨H3,I3,q3⟩=>?_))));exact wpAny_release ⟨σ,H3,I3,q3⟩
def FX(te:TE)(g:TG):TS:=λD σ H=>te σ H λx H1=>g x σ H1 D.nx
theorem Fs{tg e:Expr}{te:TE}{g:TG}(he:PE X e te)(hg:PG X tg g)(hs:swapsWithSole [tg] e pos.line X.env=pure false:=by rfl)(hw:swappedStores [tg] e X.env=pure none:=by rfl)
  (h1:(assignEach [tg] X.env).map (·.2)=[assign tg X.env]:=by rfl):PS X (.Assign [tg] e pos) (FX te g):=by
 intro pins s σ H D I h;refine wpAny_Assign_stores (cv (he pins s σ H _ I h) λv s1 ⟨x,H1,I1,r1,q1⟩=>?_) hs hw;rw[h1];exact cv (hg pins s1 σ H1 x v _ I1 r1 q1) λ_ s2 q=>q
theorem yc{i:Nat}{x:Str}{e:Expr}{te:TE}{pos':Pos}(hN:X.N.Nodup)(hi:X.N[i]?=some x)(hx:Loc X.env.scope x)(he:PE X e te)(hs:swapsWith e (some (.Name x pos')) pos.line X.env=pure false:=by rfl)(hf:X.fn x=true\/X.env.scope.names.lookup x=some .local:=by first|exact .inl rfl|exact .inr rfl|assumption):
  PS X (.Assign [.Name x pos'] e pos) (FX te (nN i)):=by
 intro pins s σ H D I h;refine wpAny_Assign_Name (cv (he pins s σ H _ I h) λv s1 ⟨y,H1,I1,r1,q1⟩=>?_) hs;exact oW I1 hN hi hx r1 (λs2 I2=>⟨_,H1,I2,q1⟩) hf
end
structure It where
 go:Nat->Hp->Prop
 VJ:Nat->Hp->V->Hp->Prop
 stop:Nat->Hp->Prop
def iC(X:Cx)(pins:List (Addr×Obj))(H:Hp)(b:Addr):Prop:=
 H b=none/\b≠X.env.locals/\b∉X.fs/\(b∈X.ex\/X.c5.heap.objs.size<=b)/\(∀x c,X.env.cells.lookup x=some c->c≠b)/\∀p∈X.pn++pins,p.1≠b
theorem Inv.DQ{X:Cx}{pins:List (Addr×Obj)}{σ:St}{H H':Hp}{s:Shared}{b:Addr}(I:Inv X pins σ H s)(hb:s.heap.objs.size<=b)(hn:H' b=none):iC X pins H' b:=by
 refine⟨hn,Nat.ne_of_gt (Nat.lt_of_lt_of_le I.lt hb),I.abn hb,.inr (Nat.le_trans I.sz hb),λx c e z=>?_,λp hp z=>?_⟩
 ·obtain⟨v,q⟩:=I.cell x c e
  exact absurd (Nat.lt_of_lt_of_le q.lt (by rw[z];exact hb)) (Nat.lt_irrefl _)
 ·exact absurd (Nat.lt_of_lt_of_le (Heap.lt_size (I.pin p hp).1) (by rw[z];exact hb)) (Nat.lt_irrefl _)
structure Turn(P:Program)(w:World)(K:ab4)(tg:Expr)(J:It)(fp:List Addr)(it:Addr)(tn:Nat->Heap->Prop):Prop where
 mem:it∈fp
 obj:∀i h,tn i h->∀b∈fp,∃o,h.get? b=some o/\∀v,o.data≠.cell v
 keep:∀i h h',tn i h->(∀b∈fp,∀o,h.get? b=some o->h'.get? b=some o)->tn i h'
 item:∀(X:Cx),X.prog=P->X.w=w->X.K=K->X.calm=true->∀(i:Nat) (pins:List (Addr×Obj)) (s:Shared) (σ:St) (H:Hp) (E:Value->Shared->Prop),Inv X pins σ H s->(∀b∈fp,iC X pins H b)->tn i s.heap->J.go i H ->
  wpAny (model P w) X.A (pyNext (.ref it)) (λr s1=>∃u,r=some u /\
   wpAny (model P w) X.A (letOwnedTupleGo tg (.ref it) u) (λ_ s2=>∃x H',Inv X pins σ H' s2/\RelV x u/\J.VJ i H x H'/\tn (i+1) s2.heap/\∀b∈fp,H' b=none) E s1) E s
 done:∀(X:Cx),X.prog=P->X.w=w->X.K=K->X.calm=true->∀(i:Nat) (pins:List (Addr×Obj)) (s:Shared) (σ:St) (H:Hp) (E:Value->Shared->Prop),Inv X pins σ H s->(∀b∈fp,iC X pins H b)->tn i s.heap->J.stop i H ->
  wpAny (model P w) X.A (pyNext (.ref it)) (λr s1=>r=none/\Inv X pins σ H s1) E s
 self:∀(A:Around) (i:Nat) (s:Shared) (Q:Value->Shared->Prop) (E:Value->Shared->Prop),tn i s.heap->Q (.ref it) s->wpAny (model P w) A (pyIter (.ref it)) Q E s
abbrev TI:=St->Hp->(It->Hp->Prop)->Prop
def PIE(X:Cx)(pins:List (Addr×Obj))(σ:St)(tg:Expr)(R:It->Hp->Prop)(itv:Value)(s2:Shared):Prop:=
 ∃(it:Addr) (fp:List Addr) (tn:Nat->Heap->Prop) (J:It) (H':Hp),itv=.ref it/\Inv X pins σ H' s2/\Turn X.prog X.w X.K tg J fp it tn/\tn 0 s2.heap/\(∀b∈fp,iC X pins H' b)/\R J H'
def PI(X:Cx)(tg iter:Expr)(wi:TI):Prop:=
 ∀(pins:List (Addr×Obj)) (s:Shared) (σ:St) (H:Hp) (R:It->Hp->Prop),Inv X pins σ H s->wi σ H R ->
  wpAny (model X.prog X.w) X.A (eval iter X.env) (λv s1=>wpAny (model X.prog X.w) X.A (pyIter v) (PIE X pins σ tg R) X.xe s1) X.xe s
theorem DU{M:Model}{A:Around}{E:Value->Shared->Prop}{s:Shared}{tg:Expr}{it:Addr}{u:Value}{o:Obj}{n:String}{vs:Array Value}{Q:Unit->Shared->Prop}(ho:s.heap.get? it=some o)(hc:o.cls=.type n)(hd:o.data=.fields vs)
    (hn:["enumerate","zip","dict_itemiterator","dict_reverseitemiterator","odict_iterator","itertools.zip_longest","itertools.pairwise"].contains n=false) (hQ:Q () s):wpAny M A (letOwnedTupleGo tg (.ref it) u) Q E s:=by
  unfold letOwnedTupleGo;cases tg<;>first
    | exact ab0 hQ
    | (cases u<;>first
        | exact ab0 hQ
        | (refine abW (wpAny_load ho ?_)
           rw[hc,hd];show wpAny M A (if(["enumerate","zip","dict_itemiterator","dict_reverseitemiterator","odict_iterator","itertools.zip_longest","itertools.pairwise"].contains n&&vs[0]?==some (rawInt _))=true then _ else _) Q E s
           rw[if_neg (by intro h;rw[hn,Bool.false_and]at h;cases h)]
           exact ab0 hQ))
def Itl(K:ab4)(a:Addr):It:=
 ⟨λi H=>∃xs x,f7 K H a xs/\xs[i]?=some x,λi H x H'=>H'=H/\∀xs,f7 K H a xs->xs[i]?=some x,λi H=>∃xs,f7 K H a xs/\xs.length<=i⟩
def Itt(K:ab4)(a:Addr):It:=
 ⟨λi H=>∃xs x,k6 K H a xs/\xs[i]?=some x,λi H x H'=>H'=H/\∀xs,k6 K H a xs->xs[i]?=some x,λi H=>∃xs,k6 K H a xs/\xs.length<=i⟩
def V0(lo:Int)(n:Nat):It:=⟨λi _=>i<n,λi H x H'=>H'=H/\x=.int (lo+i),λi _=>n<=i⟩
theorem Bm{P:Program}{w:World}{K:ab4}{tg:Expr}(a it:Addr):Turn P w K tg (Itl K a) [it] it (λi h=>h.IsListIter it a i) where
 mem:=by simp
 obj:=λi h st b hb=>by
  have e:b=it:=by simpa using hb
  subst e;obtain⟨o,e,c,d⟩:=st;exact⟨o,e,λv z=>by rw[d]at z;cases z⟩
 keep:=λi h h' st k=>st.at λo e=>k it (by simp) o e
 item:=by
  intro X hP hw hK hc i pins s σ H E I hf st hg;subst hP hw hK;obtain⟨xs,x,hq,hx⟩:=hg;obtain⟨its,rv,p,hz⟩:=I.list hq;obtain⟨u,hu,ru⟩:=rv.get hx;obtain⟨f0,f1,f2,f3,f4,f5⟩:=hf it (by simp)
  refine wpAny_pyNext_list_item st p.isList (x:=u) (by simpa using hu) λh' az sb=>?_
  have I1:Inv X pins σ H {s with heap:=h'}:=I.turned (t':=s.toks) (λb o hb e=>(sb.2 b hb).trans e) f0 f1 f3 f4 f5
  obtain⟨o,e,c,d⟩:=id az;exact⟨u,rfl,DU (s:={s with heap:=h'}) e c d ∅ ⟨x,H,I1,ru,⟨rfl,λys hy=>by rw[I.vJ hy hq];exact hx⟩,az,λb hb=>(hf b hb).1⟩⟩
 done:=by
  intro X hP hw hK hc i pins s σ H E I hf st hg;subst hP hw hK;obtain⟨xs,hq,hx⟩:=hg;obtain⟨its,rv,p,hz⟩:=I.list hq;obtain⟨f0,f1,f2,f3,f4,f5⟩:=hf it (by simp)
  have hl:=rv.length;exact wpAny_pyNext_list_end (I.ok.hd hc) st p.isList (by simp;omega) λh' eb=>⟨rfl,I.turned (t':=s.toks) (λb o hb e=>eb b o hb e) f0 f1 f3 f4 f5⟩
 self:=λ_ _ _ _ _ st h=>wpAny_pyIter_listiter st h
theorem yC{P:Program}{w:World}{K:ab4}{tg:Expr}(a it:Addr):Turn P w K tg (Itt K a) [it] it (λi h=>h.IsTupleIter it a i) where
 mem:=by simp
 obj:=λi h st b hb=>by
  have e:b=it:=by simpa using hb
  subst e;obtain⟨o,e,c,d⟩:=st;exact⟨o,e,λv z=>by rw[d]at z;cases z⟩
 keep:=λi h h' st k=>st.at λo e=>k it (by simp) o e
 item:=by
  intro X hP hw hK hc i pins s σ H E I hf st hg;subst hP hw hK;obtain⟨xs,x,hq,hx⟩:=hg;obtain⟨its,rv,p,hz⟩:=I.tuple hq;obtain⟨u,hu,ru⟩:=rv.get hx;obtain⟨f0,f1,f2,f3,f4,f5⟩:=hf it (by simp)
  refine wpAny_pyNext_tuple_item st (show s.heap.IsTuple a its.toArray from p) (x:=u) (by simpa using hu) λh' az sb=>?_
  have I1:Inv X pins σ H {s with heap:=h'}:=I.turned (t':=s.toks) (λb o hb e=>(sb.2 b hb).trans e) f0 f1 f3 f4 f5
  obtain⟨o,e,c,d⟩:=id az;exact⟨u,rfl,DU (s:={s with heap:=h'}) e c d ∅ ⟨x,H,I1,ru,⟨rfl,λys hy=>by rw[I.qO hy hq];exact hx⟩,az,λb hb=>(hf b hb).1⟩⟩
 done:=by
  intro X hP hw hK hc i pins s σ H E I hf st hg;subst hP hw hK;obtain⟨xs,hq,hx⟩:=hg;obtain⟨its,rv,p,hz⟩:=I.tuple hq;obtain⟨f0,f1,f2,f3,f4,f5⟩:=hf it (by simp)
  have hl:=rv.length;exact wpAny_pyNext_tuple_end (I.ok.hd hc) st (show s.heap.IsTuple a its.toArray from p) (by simp;omega) λh' eb=>⟨rfl,I.turned (t':=s.toks) (λb o hb e=>eb b o hb e) f0 f1 f3 f4 f5⟩
 self:=λ_ _ _ _ _ st h=>wpAny_pyIter_tupleiter st h
theorem yB{P:Program}{w:World}{K:ab4}{tg:Expr}(it:Addr)(lo:Int)(n:Nat):Turn P w K tg (V0 lo n) [it] it (λi h=>IsRangeIter h it (lo+(i:Nat)*1) ((n:Int)-(i:Nat)) 1) where
 mem:=by simp
 obj:=λi h st b hb=>by
  have e:b=it:=by simpa using hb
  subst e;exact⟨_,st,λv z=>by
   have z':Data.fields _=Data.cell v:=z;cases z'⟩
 keep:=λi h h' st k=>k it (by simp) _ st
 item:=by
  intro X hP hw hK hc i pins s σ H E I hf st hg;subst hP hw hK;obtain⟨f0,f1,f2,f3,f4,f5⟩:=hf it (by simp)
  have W:=Walks.range (prog:=X.prog) (w:=X.w) (I.ok.hd hc) it lo 1 n;refine W.item i s _ _ hg st λv h' tk hv az kk=>?_;obtain⟨t,rfl⟩:=hv;have I1:Inv X pins σ H {s with heap:=h',toks:=tk}:=I.turned (λb o hb e=>kk b o (by simpa using hb) e) f0 f1 f3 f4 f5
  refine⟨_,rfl,DU (s:={s with heap:=h',toks:=tk}) (n:="range_iterator") az rfl rfl ∅ ⟨.int (lo+i),H,I1,⟨t,?_⟩,⟨rfl,rfl⟩,az,λb hb=>(hf b hb).1⟩⟩
  rw[Int.mul_one]
 done:=by
  intro X hP hw hK hc i pins s σ H E I hf st hg;subst hP hw hK;obtain⟨f0,f1,f2,f3,f4,f5⟩:=hf it (by simp)
  exact wpAny_pyNext_range_end (I.ok.hd hc) st (by have:n<=i:=hg;omega) λh' eb=>⟨rfl,I.turned (t':=s.toks) (λb o hb e=>eb b o hb e) f0 f1 f3 f4 f5⟩
 self:=λ_ _ _ _ _ st h=>wpAny_pyIter_rangeiter st h
end L2
namespace L2
open PySem PySem.Spec PyProof.Rows
section
variable {X:Cx}{tg:Expr}
theorem v8{pins:List (Addr×Obj)}{σ:St}{H:Hp}{s:Shared}{R:It->Hp->Prop}{E:Value->Shared->Prop}{lo hi:Int}{t u v:Tok}{tk:Nat}(I:Inv X pins σ H s)(h1:-(2^62)<=lo)(h2:lo<2^62)(h3:-(2^62)<=hi)(h4:hi<2^62)
  (q:R (V0 lo (hi-lo).toNat) H):wpAny (model X.prog X.w) X.A (pyIter (.ref s.heap.objs.size)) (PIE X pins σ tg R) E {s with heap:=s.heap.push {cls:=.type "range",data:=.fields #[.int lo t,.int hi u,.int 1 v]},toks:=tk}:=by
 refine wpAny_pyIter_range (IsRange.new ..) (small_one h1 h2 h3 h4) ?_;have I1:Inv X pins σ H {s with heap:=s.heap.push {cls:=.type "range",data:=.fields #[.int lo t,.int hi u,.int 1 v]},toks:=tk}:=I.kept λb o e=>abX _ e
 refine⟨(s.heap.push {cls:=.type "range",data:=.fields #[.int lo t,.int hi u,.int 1 v]}).objs.size,[(s.heap.push {cls:=.type "range",data:=.fields #[.int lo t,.int hi u,.int 1 v]}).objs.size],_,_,H,rfl,
  I1.kept (t':=tk) λb o e=>abX _ e,yB _ lo (hi-lo).toNat,?_,λb hb=>?_,q⟩
 ·have e1:lo+((0:Nat):Int)*1=lo:=by simp
  have e2:(((hi-lo).toNat:Nat):Int)-((0:Nat):Int)=Builtin.Range.rangeSize lo hi 1:=by rw[rangeSize_one];split<;>omega
  show IsRangeIter _ _ (lo+((0:Nat):Int)*1) ((((hi-lo).toNat:Nat):Int)-((0:Nat):Int)) 1;rw[e1,e2];exact Heap.get?_push_size _ rfl
 ·have e:b=(s.heap.push {cls:=.type "range",data:=.fields #[.int lo t,.int hi u,.int 1 v]}).objs.size:=by simpa using hb
  subst e;exact I1.DQ (ab3 _) (I1.bG.fresh (ab3 _))
def Ye(ta:TA):TI:=λσ H R=>ta σ H λvs H1=>∃j:Int,vs=[.int j]/\-(2^62)<=j/\j<2^62/\R (V0 0 j.toNat) H1
def Yf(ta:TA):TI:=λσ H R=>ta σ H λvs H1=>∃i j:Int,vs=[.int i,.int j]/\(-(2^62)<=i/\i<2^62/\-(2^62)<=j/\j<2^62)/\R (V0 i (j-i).toNat) H1
theorem Bb{a:Expr}{ta:TA}{p pos:Pos}(hg:Gl X "range")(hm:X.mg "range"=none)(ha:PA X [a] ta)(hs:ab7 [a] X.env=[(false,eval a X.env)]:=by rfl):PI X tg (.Call (.Name "range" p) [a] [] pos) (Ye ta):=by
 intro pins s σ H R I h;refine Call_ (jd I hg hm boot_range (PyProof.Rows.callWith_type1 (cv (ha pos pins s σ H _ I h) λus s1 ⟨vs,H1,I1,r1,q1⟩=>?_) hs rfl));obtain⟨j,e,q1,q2,q⟩:=q1;subst e;cases r1 with
 | cons r rr =>
  cases rr;obtain⟨t,rfl⟩:=r;exact call_range_1 (v8 I1 ⋯ ⋯ q1 q2 (by simpa using q))
theorem Bc{a b:Expr}{ta:TA}{p pos:Pos}(hg:Gl X "range")(hm:X.mg "range"=none)(ha:PA X [a,b] ta)(hs:ab7 [a,b] X.env=[(false,eval a X.env),(false,eval b X.env)]:=by rfl)(Bu:ab7 [b] X.env=[(false,eval b X.env)]:=by rfl):
  PI X tg (.Call (.Name "range" p) [a,b] [] pos) (Yf ta):=by
 intro pins s σ H R I h;refine Call_ (jd I hg hm boot_range (PyProof.Rows.callWith_type1 (cv (ha pos pins s σ H _ I h) λus s1 ⟨vs,H1,I1,r1,q1⟩=>?_) (by rw[hs,Bu]) (by rw[Bu];rfl)))
 obtain⟨i,j,e,⟨q1,q2,q3,q4⟩,q⟩:=q1;subst e;cases r1 with
 | cons r rr =>
  cases rr with
  | cons r' rr =>
   cases rr;obtain⟨t,rfl⟩:=r;obtain⟨t',rfl⟩:=r';exact call_range_2 (v8 I1 q1 q2 q3 q4 q)
def aan(wi:TI)(g:TG)(tb:TS):TS:=λD σ H=>wi σ H λJ H1=>∃W:Nat->Nat->St->Hp->Prop,(∃m,W 0 m σ H1)/\∀i m σ H,W i m σ H ->
 (J.stop i H/\D.nx σ H)\/(J.go i H/\∃N:St->Hp->Prop,(∀bZ H',N bZ H'->∃m',m'<m/\W (i+1) m' bZ H')/\∀x H',J.VJ i H x H'->g x σ H' λaL H2=>tb {D with nx:=N,ct:=N,bk:=D.nx} aL H2)
def lL(fp:List Addr)(h:Heap):List (Addr×Obj):=fp.filterMap λb=>(h.get? b).map λo=>(b,o)
theorem eh{fp:List Addr}{h:Heap}{b:Addr}{o:Obj}(hb:b∈fp)(e:h.get? b=some o):(b,o)∈lL fp h:=List.mem_filterMap.mpr ⟨b,hb,by rw[e];rfl⟩
theorem A3{fp:List Addr}{h:Heap}{p:Addr×Obj}(hp:p∈lL fp h):p.1∈fp/\h.get? p.1=some p.2:=by
 obtain⟨b,hb,e⟩:=List.mem_filterMap.mp hp;cases q:h.get? b with
 | none=>rw[q]at e;cases e
 | some o =>
  rw[q]at e;have e':(b,o)=p:=Option.some.inj e;subst e';exact⟨hb,q⟩
theorem Inv.pinned{pins:List (Addr×Obj)}{σ:St}{H:Hp}{s:Shared}{fp:List Addr}(I:Inv X pins σ H s)(hf:∀b∈fp,iC X pins H b)(ho:∀b∈fp,∃o,s.heap.get? b=some o/\∀v,o.data≠.cell v):Inv X (pins++lL fp s.heap) σ H s:=
 I.zH λp hp=>(List.mem_append.mp hp).elim (λz=>I.pin p (List.mem_append_right _ z)) λz=>by
  obtain⟨hb,e⟩:=A3 z;obtain⟨f0,f1,f2,_⟩:=hf p.1 hb;obtain⟨o,e',d⟩:=ho p.1 hb;rw[e]at e';cases e';exact⟨e,f0,f1,f2,d⟩
theorem Inv.gZ{pins pl:List (Addr×Obj)}{σ:St}{H:Hp}{s:Shared}(I:Inv X (pins++pl) σ H s):Inv X pins σ H s:=I.zH λp hp=>I.pin p (List.mem_append_right _ (List.mem_append_left _ hp))
theorem Ft{iter:Expr}{body:List Stmt}{wi:TI}{g:TG}{tb:TS}{pos:Pos}(hp:PassesOwn (model X.prog X.w) X.A X.env X.xe)(hc:X.calm=true)(hi:PI X tg iter wi)(hg:PG X tg g)(hb:qU X body tb)
  (hs:∀x,foldedSetIterable iter X.env x=pure x:=by intro _;rfl):PS X (.For tg iter body [] pos) (aan wi g tb):=by
 intro pins s σ H D I h;refine wpAny_For (cv (hi pins s σ H _ I h) λv s1 h1=>cv h1 λitv s2 h2=>?_) hs;obtain⟨it,fp,tn,J,H2,e,I2,T,Bk,f2,W,⟨m0,w0⟩,turn⟩:=h2;subst e
 -- what stays true of the iterator's objects through the loop
 have stat:∀ {H':Hp},(∀b∈fp,H' b=none)->∀b∈fp,iC X pins H' b:=λhn b hb=>⟨hn b hb,(f2 b hb).2⟩;refine codeAny_forLoop_any (λn s'=>∃i bZ H',Inv X pins bZ H' s'/\tn i s'.heap/\(∀b∈fp,H' b=none)/\W i n bZ H') ?_ m0 ⟨0,σ,H2,I2,Bk,λb hb=>(f2 b hb).1,w0⟩;rintro n s3 ⟨i,eY,H3,I3,st3,HY,w3⟩;rcases turn i n eY H3 w3 with⟨stop,qn⟩|⟨go,N,hN,step⟩
 ·refine wpAny_passesOwn hp (cv (T.done X rfl rfl rfl hc i pins s3 eY H3 X.xe I3 (stat HY) st3 stop) λr s4 ⟨hr,I4⟩=>?_)
  subst hr;exact wpAny_execs_nil ⟨eY,H3,I4,qn⟩
 ·refine wpAny_passesOwn hp (cv (T.item X rfl rfl rfl hc i pins s3 eY H3 X.xe I3 (stat HY) st3 go) λr s4 ⟨u,hr,h4⟩=>?_)
  subst hr;refine wpAny_passesOwn hp (cv h4 λ_ s5 ⟨x,H5,I5,r5,y5,VE,G8⟩=>?_);have I5':=I5.pinned (stat G8) (T.obj _ _ VE);refine wpAny_passesOwn hp (cv (hg _ s5 eY H5 x u _ I5' r5 (step x H5 y5)) λ_ s6 ⟨σ6,H6,I6,q6⟩=>?_);refine wpAny_passesOwn hp (cv (hb _ s6 σ6 H6 _ I6 q6) λf s7 q7=>?_);have again:∀ {G1:St} {H7:Hp},Inv X (pins++lL fp s5.heap) G1 H7 s7->N G1 H7->∃m,m<n/\∃i bZ H',Inv X pins bZ H' s7/\tn i s7.heap/\(∀b∈fp,H' b=none)/\W i m bZ H':=λ{G1 H7} I7 n7=>by
   obtain⟨m',hm,w7⟩:=hN G1 H7 n7;refine⟨m',hm,i+1,G1,H7,I7.gZ,T.keep _ _ _ VE λb hb o e=>(I7.pin (b,o) (List.mem_append_right _ (List.mem_append_right _ (eh hb e)))).1,λb hb=>?_,w7⟩;obtain⟨o,e,d⟩:=T.obj _ _ VE b hb;exact(I7.pin (b,o) (List.mem_append_right _ (List.mem_append_right _ (eh hb e)))).2.1
  cases f with
  | next=>obtain⟨G1,H7,I7,n7⟩:=q7;exact again I7 n7
  | cont=>obtain⟨G1,H7,I7,n7⟩:=q7;exact again I7 n7
  | brk=>obtain⟨G1,H7,I7,q7⟩:=q7;exact⟨G1,H7,I7.gZ,q7⟩
  | ret v=>obtain⟨x7,G1,H7,I7,r7,q7⟩:=q7;exact⟨x7,G1,H7,I7.gZ,r7,q7⟩
end
end L2
namespace L2
open PySem PySem.Spec PyProof.Rows
abbrev R2:=V->V->Hp->VK->Prop
def hW(X:Cx)(f:Value->Value->Sem Value)(r:R2):Prop:=
 ∀(pins:List (Addr×Obj)) (s:Shared) (σ:St) (H:Hp) (x y:V) (v u:Value) (Q:VK),Inv X pins σ H s->RelV x v->RelV y u->r x y H Q ->
  wpAny (model X.prog X.w) X.A (f v u) (EP X pins σ Q) X.xe s
def UnR(X:Cx)(f:Value->Sem Value)(r:V->Hp->VK->Prop):Prop:=
 ∀(pins:List (Addr×Obj)) (s:Shared) (σ:St) (H:Hp) (x:V) (v:Value) (Q:VK),Inv X pins σ H s->RelV x v->r x H Q ->
  wpAny (model X.prog X.w) X.A (f v) (EP X pins σ Q) X.xe s
def cR(X:Cx)(f:Value)(r:List V->Hp->VK->Prop):Prop:=
 ∀(pins:List (Addr×Obj)) (s:Shared) (σ:St) (H:Hp) (xs:List V) (us:List Value) (Q:VK),Inv X pins σ H s->Vals xs us->r xs H Q ->
  wpAny (model X.prog X.w) X.A (call f us) (EP X pins σ Q) X.xe s
def aaB(X:Cx)(r:V->Hp->(Bool->Hp->Prop)->Prop):Prop:=
 ∀(pins:List (Addr×Obj)) (s:Shared) (σ:St) (H:Hp) (x:V) (v:Value) (Q:Bool->Hp->Prop),Inv X pins σ H s->RelV x v->r x H Q ->
  wpAny (model X.prog X.w) X.A (truthy v) (TP X pins σ Q) X.xe s
def UJ(r:R2)(ta tb:TE):TE:=λσ H Q=>ta σ H λx H1=>tb σ H1 λy H2=>r x y H2 Q
def tUn(r:V->Hp->VK->Prop)(ta:TE):TE:=λσ H Q=>ta σ H λx H1=>r x H1 Q
def rI(C:Int->Int->Prop)(g:Int->Int->V):R2:=λx y H Q=>∃i j,x=.int i/\y=.int j/\C i j/\Q (g i j) H
def Hk(g:Int->Int->V):R2:=λx y H Q=>∃i j,x=.int i/\y=.int j/\Q (g i j) H
def rU(g:Int->V):V->Hp->VK->Prop:=λx H Q=>∃i,x=.int i/\Q (g i) H
section
variable {X:Cx}{a b c:Expr}{ta tb tc:TE}{pos:Pos}
theorem MS(ha:PE X a ta)(hb:PE X b tb){pins:List (Addr×Obj)}{s:Shared}{σ:St}{H:Hp}{R:V->V->Hp->Prop}(I:Inv X pins σ H s)
  (h:ta σ H λx H1=>tb σ H1 λy H2=>R x y H2) {Q:Value->Shared->Prop} {f:Value->Value->Sem Value}
  (hf:∀v u s2 x y H2,Inv X pins σ H2 s2->RelV x v->RelV y u->R x y H2->wpAny (model X.prog X.w) X.A (f v u) Q X.xe s2):
  wpAny (model X.prog X.w) X.A (eval a X.env) (λv bJ=>wpAny (model X.prog X.w) X.A (eval b X.env) (λu tX=>wpAny (model X.prog X.w) X.A (f v u) Q X.xe tX) X.xe bJ) X.xe s:=by
 refine cv (ha pins s σ H _ I h) λv s1 ⟨x,H1,I1,r1,q1⟩=>?_;refine cv (hb pins s1 σ H1 _ I1 q1) λu s2 ⟨y,H2,I2,r2,q2⟩=>?_;exact hf v u s2 x y H2 I2 r1 r2 q2
theorem Zw{op:Operator}{r:R2}(ho:hW X (binaryOp op) r)(ha:PE X a ta)(hb:PE X b tb):PE X (.BinOp a op b pos) (UJ r ta tb):=by
 intro pins s σ H Q I h;exact wpAny_BinOp (MS ha hb I h λv u s2 x y H2 I2 rx ry q=>ho pins s2 σ H2 x y v u Q I2 rx ry q)
theorem Zx{op:UnaryOp}{r:V->Hp->VK->Prop}(ho:UnR X (unaryOp op) r)(ha:PE X a ta):PE X (.UnaryOp op a pos) (tUn r ta):=by
 intro pins s σ H Q I h;exact UnaryOp_ (cv (ha pins s σ H _ I h) λv s1 ⟨x,H1,I1,r1,q1⟩=>ho pins s1 σ H1 x v Q I1 r1 q1)
theorem opI{f:Value->Value->Sem Value}{C:Int->Int->Prop}{g:Int->Int->Int}
  (rule:∀(i j:Int) (t u:Tok) (s:Shared) (Q:Value->Shared->Prop) (E:Value->Shared->Prop),C i j->Q (.int (g i j) s.toks) {s with toks:=s.toks+1}->wpAny (model X.prog X.w) X.A (f (.int i t) (.int j u)) Q E s):
  hW X f (rI C λi j=>.int (g i j)):=by
 intro pins s σ H x y v u Q I rx ry h;obtain⟨i,j,rfl,rfl,hc,q⟩:=h;obtain⟨t,rfl⟩:=rx;obtain⟨t',rfl⟩:=ry;exact rule i j t t' s _ _ hc ⟨.int (g i j),H,I.tok _,⟨_,rfl⟩,q⟩
theorem Y8{f:Value->Value->Sem Value}{g:Int->Int->Int}
  (rule:∀(i j:Int) (t u:Tok) (s:Shared) (Q:Value->Shared->Prop) (E:Value->Shared->Prop),Q (.int (g i j) s.toks) {s with toks:=s.toks+1}->wpAny (model X.prog X.w) X.A (f (.int i t) (.int j u)) Q E s):
  hW X f (Hk λi j=>.int (g i j)):=by
 intro pins s σ H x y v u Q I rx ry h;obtain⟨i,j,rfl,rfl,q⟩:=h;obtain⟨t,rfl⟩:=rx;obtain⟨t',rfl⟩:=ry;exact rule i j t t' s _ _ ⟨.int (g i j),H,I.tok _,⟨_,rfl⟩,q⟩
theorem Je{f:Value->Value->Sem Value}{g:Int->Int->Bool}
  (rule:∀(i j:Int) (t u:Tok) (s:Shared) (Q:Value->Shared->Prop) (E:Value->Shared->Prop),Q (.bool (g i j)) s->wpAny (model X.prog X.w) X.A (f (.int i t) (.int j u)) Q E s):
  hW X f (Hk λi j=>.bl (g i j)):=by
 intro pins s σ H x y v u Q I rx ry h;obtain⟨i,j,rfl,rfl,q⟩:=h;obtain⟨t,rfl⟩:=rx;obtain⟨t',rfl⟩:=ry;exact rule i j t t' s _ _ ⟨.bl (g i j),H,I,rfl,q⟩
def aay(i j:Int):Prop:=0<j/\j<1073741824
def nz(i j:Int):Prop:=0<=j/\j<=1000000/\i.natAbs<2^64
def jn(i j:Int):Prop:=(-(2^64)<i/\i<2^64)\/(-(2^64)<j/\j<2^64)
theorem jn.ok{i j:Int}(h:jn i j):IntMulOk i j:=by
 rcases h with⟨h1,h2⟩|⟨h1,h2⟩
 ·exact .of_left (intBits_le_64 h1 h2)
 ·exact .of_right (intBits_le_64 h1 h2)
theorem RK:hW X (binaryOp .Add) (Hk λi j=>.int (i+j)):=Y8 λ_ _ _ _ _ _ _ q=>add_int q
theorem RV:hW X (binaryOp .Sub) (Hk λi j=>.int (i-j)):=Y8 λ_ _ _ _ _ _ _ q=>sub_int q
theorem RP:hW X (binaryOp .Mult) (rI jn λi j=>.int (i*j)):=opI λ_ _ _ _ _ _ _ hc q=>mul_int q hc.ok
theorem RO:hW X (binaryOp .Mod) (rI (λ_ j=>0<j) λi j=>.int (i%j)):=opI λi j _ _ _ _ _ hc q=>by
 have h1:(0:Int)<j:=hc;exact mod_int' ⋯ (by rw[Int.fmod_eq_emod_of_nonneg i ⋯];exact q)
theorem RU:hW X (binaryOp .Pow) (rI nz λi j=>.int (i^j.toNat)):=opI λ_ _ _ _ _ _ _ hc q=>pow_int_small hc.1 hc.2.1 hc.2.2 q
theorem unI{f:Value->Sem Value}{g:Int->Int}
  (rule:∀(i:Int) (t:Tok) (s:Shared) (Q:Value->Shared->Prop) (E:Value->Shared->Prop),Q (.int (g i) s.toks) {s with toks:=s.toks+1}->wpAny (model X.prog X.w) X.A (f (.int i t)) Q E s):
  UnR X f (rU λi=>.int (g i)):=by
 intro pins s σ H x v Q I rx h;obtain⟨i,rfl,q⟩:=h;obtain⟨t,rfl⟩:=rx;exact rule i t s _ _ ⟨.int (g i),H,I.tok _,⟨_,rfl⟩,q⟩
theorem U5:UnR X (unaryOp .USub) (rU λi=>.int (-i)):=unI λ_ _ _ _ _ q=>neg_int q
end
section
variable {X:Cx}{a b c:Expr}{ta tb tc:TE}{pos:Pos}
theorem O2{pins:List (Addr×Obj)}{σ:St}{H:Hp}{s:Shared}{Q:VK}{k k':Bool}(I:Inv X pins σ H s)(q:Q (.bl k) H)(e:k=k'):EP X pins σ Q (.bool k') s:=by
 subst e;exact⟨.bl k,H,I,rfl,q⟩
theorem Zc:hW X (compareOp .Lt) (Hk λi j=>.bl (decide (i<j))):=Je λ_ _ _ _ _ _ _ q=>lt_int q
theorem Zb:hW X (compareOp .LtE) (Hk λi j=>.bl (decide (i<=j))):=Je λ_ _ _ _ _ _ _ q=>le_int q
theorem Za:hW X (compareOp .Gt) (Hk λi j=>.bl (decide (j<i))):=Je λ_ _ _ _ _ _ _ q=>gt_int q
theorem Y9:hW X (compareOp .GtE) (Hk λi j=>.bl (decide (j<=i))):=Je λ_ _ _ _ _ _ _ q=>ge_int q
theorem RN:hW X (compareOp .Is) (λx y H Q=>y=.aQ/\Q (.bl (decide (x=.aQ))) H):=by
 intro pins s σ H x y v u Q I rx ry h;obtain⟨rfl,q⟩:=h;cases ry;refine is_none_gen (O2 I q ?_);cases x<;>first
  | (cases rx;rfl)
  | (obtain⟨t,rfl⟩:=rx;rfl)
theorem hW.or{f:Value->Value->Sem Value}{r r':R2}(h:hW X f r)(h':hW X f r'):hW X f (λx y H Q=>r x y H Q\/r' x y H Q):=by
 intro pins s σ H x y v u Q I rx ry q;rcases q with q|q
 ·exact h pins s σ H x y v u Q I rx ry q
 ·exact h' pins s σ H x y v u Q I rx ry q
theorem om(b:Expr){op:CmpOp}(h:op≠.In:=by decide)(h2:op≠.NotIn:=by decide):behindInMarks op b=false:=by
 have e1:(op==CmpOp.In)=false:=by cases op<;>first|rfl|exact absurd rfl h
 have e2:(op==CmpOp.NotIn)=false:=by cases op<;>first|rfl|exact absurd rfl h2
 cases b<;>simp [behindInMarks,e1,e2]
theorem zv{op:CmpOp}{r:R2}(ho:hW X (compareOp op) r)(ha:PE X a ta)(hb:PE X b tb)(hm:behindInMarks op b=false):PE X (.Compare a [op] [b] pos) (UJ r ta tb):=by
 intro pins s σ H Q I h;exact wpAny_Compare1 (MS ha hb I h λv u s2 x y H2 I2 rx ry q=>ho pins s2 σ H2 x y v u Q I2 rx ry q) hm
def aas(t:TE):TT:=λσ H Q=>t σ H λx H'=>∃k,x=.bl k/\Q k H'
theorem sC{op:CmpOp}{r:R2}(ho:hW X (compareOp op) r)(ha:PE X a ta)(hb:PE X b tb)(hm:behindInMarks op b=false):PT X (.Compare a [op] [b] pos) (aas (UJ r ta tb)):=by
 intro pins s σ H Q I h;refine wpAny_isTrue_Compare1 (cv (ha pins s σ H _ I h) λv s1 ⟨x,H1,I1,r1,q1⟩=>cv (hb pins s1 σ H1 _ I1 q1) λu s2 ⟨y,H2,I2,r2,q2⟩ =>
  cv (ho pins s2 σ H2 x y v u _ I2 r1 r2 q2) λc s3 ⟨z,H3,I3,r3,k,e,q3⟩=>?_) hm
 subst e;cases r3;exact wpAny_truthy_bool ⟨H3,I3,q3⟩
def V6(K:ab4)(x:V)(H:Hp)(k:Bool):Prop:=
 match x with
 | .aQ=>k=false
 | .bl b=>k=b
 | .int i=>k=(i != 0)
 | .str y=>y.length<=aca/\k=((y.length:Int) != 0)
 | .Vg y=>y.size<=aca/\k=((y.size:Int) != 0)
 | .ref p=>(∃xs,f7 K H p xs/\k=!xs.isEmpty)\/(∃xs,k6 K H p xs/\k=!xs.isEmpty)\/∃kvs,H p=some (.dK kvs)/\k=!kvs.isEmpty
 | _=>False
theorem xK{κ:Type}{kvs:List (κ×V)}{vs:List (κ×Value)}(r:KV kvs vs):(!vs.isEmpty)=!kvs.isEmpty:=by
 cases r<;>rfl
theorem nW{xs:List V}{its:List Value}(r:Vals xs its):(!its.toArray.isEmpty)=!xs.isEmpty:=by
 cases r<;>simp
theorem je:(aca:Nat)<2^63:=by rw[sizeLine_eq];decide
theorem U0:aaB X (λx H Q=>∃k,V6 X.K x H k/\Q k H):=by
 intro pins s σ H x v Q I rx h;obtain⟨k,e,q⟩:=h;have hl:=je;have hs:aca=16777216:=sizeLine_eq;cases x with
 | aQ =>
  cases rx;have e':k=false:=e;subst e';exact truthy_none ⟨H,I,q⟩
 | bl b =>
  cases rx;have e':k=b:=e;subst e';exact wpAny_truthy_bool ⟨H,I,q⟩
 | int i =>
  obtain⟨t,rfl⟩:=rx;have e':k=(i != 0):=e;subst e';exact PySem.P.truthy_int ⟨H,I,q⟩
 | str y =>
  obtain⟨t,rfl⟩:=rx;obtain⟨hy,e'⟩:y.length<=aca/\k=((y.length:Int) != 0):=e;subst e';exact PySem.P.truthy_str ⋯ ⟨H,I.tok _,q⟩
 | Vg y =>
  obtain⟨t,rfl⟩:=rx;obtain⟨hy,e'⟩:y.size<=aca/\k=((y.size:Int) != 0):=e;subst e';exact PySem.W.truthy_bytes ⋯ ⟨H,I.tok _,q⟩
 | ref p =>
  cases rx;have e':(∃xs,f7 X.K H p xs/\k=!xs.isEmpty)\/(∃xs,k6 X.K H p xs/\k=!xs.isEmpty)\/∃kvs,H p=some (.dK kvs)/\k=!kvs.isEmpty:=e;rcases e' with⟨xs,hx,e'⟩|⟨xs,hx,e'⟩|⟨kvs,hx,e'⟩
  ·subst e'
   obtain⟨its,r,pl,hz⟩:=I.list hx;have hlen:=r.length;exact wpAny_truthy_list pl.isList (by simp only[acg];omega) ⟨H,I.tok _,by rw[nW r];exact q⟩
  ·subst e'
   obtain⟨its,r,pl,hz⟩:=I.tuple hx;have hlen:=r.length;exact truthy_tuple pl (by simp only[acg];omega) ⟨H,I.tok _,by rw[nW r];exact q⟩
  ·subst e'
   obtain⟨hz,hS,vs,r,m⟩:kvs.length<=aca/\(p==sysModules)=false/\∃vs,KV kvs vs/\s.heap.DictOf (b9 X.prog X.w) p vs:=I.bG p _ hx;have hlen:kvs.length=vs.length:=Paired.length r;exact wpAny_truthy_dict hS m ⋯ ⟨H,I.tok _,by rw[xK r];exact q⟩
 | _=>exact(show False from e).elim
theorem Fv(ha:PE X a ta)(he:∀whole,isTrue a X.env whole=(do let v <- whole;standAt a.pos;holding [v] (truthy v))):
  PT X a (λσ H Q=>ta σ H λx H'=>∃k,V6 X.K x H' k/\Q k H'):=by
 intro pins s σ H Q I h;exact isTrue_plain (cv (ha pins s σ H _ I h) λv s1 ⟨x,H1,I1,r1,q1⟩=>U0 pins s1 σ H1 x v Q I1 r1 q1) (he _)
theorem xV:hW X (binaryOp .Add) (λx y H Q=>∃i j,x=.str i/\y=.str j/\i.length+j.length<=aca/\Q (.str (i++j)) H):=by
 intro pins s σ H x y v u Q I rx ry h;obtain⟨i,j,rfl,rfl,hz,q⟩:=h;obtain⟨t,rfl⟩:=rx;obtain⟨t',rfl⟩:=ry;exact add_str (λt' tk=>⟨.str (i++j),H,I.tok _,⟨_,rfl⟩,q⟩) hz
theorem vals1{x:V}{us:List Value}(r:Vals [x] us):∃u,us=[u]/\RelV x u:=by
 cases r with
 | cons r1 r2=>cases r2;exact⟨_,rfl,r1⟩
theorem vals2{x y:V}{us:List Value}(r:Vals [x,y] us):∃u w',us=[u,w']/\RelV x u/\RelV y w':=by
 cases r with
 | cons r1 r2 =>
  cases r2 with
  | cons r3 r4=>cases r4;exact⟨_,_,rfl,r1,r3⟩
theorem Cj:cR X (.builtin "abs") (λxs H Q=>∃i,xs=[.int i]/\Q (.int (if i<0 then -i else i)) H):=by
 intro pins s σ H xs us Q I r h;obtain⟨i,rfl,q⟩:=h;obtain⟨u,rfl,t,rfl⟩:=vals1 r;exact call_abs_int λu tk=>⟨.int (if i<0 then -i else i),H,I.tok _,⟨_,rfl⟩,q⟩
theorem Ai(hc:X.calm=true):cR X (.builtin "max") (λxs H Q=>∃i j,xs=[.int i,.int j]/\Q (.int (if j>i then j else i)) H):=by
 intro pins s σ H xs us Q I r h;obtain⟨i,j,rfl,q⟩:=h;obtain⟨u,w',rfl,⟨t,rfl⟩,⟨t',rfl⟩⟩:=vals2 r;refine max_two_ints (I.ok.hd hc) λh' tk k=>⟨_,H,I.kept k,?_,q⟩
 by_cases hj:j>i
 ·rw[if_pos hj,if_pos hj];exact⟨_,rfl⟩
 ·rw[if_neg hj,if_neg hj];exact⟨_,rfl⟩
theorem Ak(hc:X.calm=true):cR X (.builtin "min") (λxs H Q=>∃i j,xs=[.int i,.int j]/\Q (.int (if j<i then j else i)) H):=by
 intro pins s σ H xs us Q I r h;obtain⟨i,j,rfl,q⟩:=h;obtain⟨u,w',rfl,⟨t,rfl⟩,⟨t',rfl⟩⟩:=vals2 r;refine min_two_ints (I.ok.hd hc) λh' tk k=>⟨_,H,I.kept k,?_,q⟩
 by_cases hj:j<i
 ·rw[if_pos hj,if_pos hj];exact⟨_,rfl⟩
 ·rw[if_neg hj,if_neg hj];exact⟨_,rfl⟩
theorem Ah:cR X (.type "int") (λxs H Q=>(∃i,xs=[.int i]/\Q (.int i) H)\/∃k,xs=[.bl k]/\Q (.int (if k then 1 else 0)) H):=by
 intro pins s σ H xs us Q I r h;rcases h with⟨i,rfl,q⟩|⟨k,rfl,q⟩
 ·obtain⟨u,rfl,t,rfl⟩:=vals1 r
  exact call_int_int ⟨.int i,H,I,⟨_,rfl⟩,q⟩
 ·obtain⟨u,rfl,r1⟩:=vals1 r
  cases r1;exact call_int_bool ⟨.int (if k then 1 else 0),H,I.tok _,⟨_,rfl⟩,q⟩
end
end L2
namespace L2
open PySem PySem.Spec PyProof.Rows
structure xi(h:Heap)(x dx C:Addr)(mA:Str->Option Value):Prop where
 obj:h.get? x=some (PySem.W.instObj C dx)
 ns:h.Ns1 dx mA
 ne:dx≠x
theorem AW{h:Heap}{dx:Addr}{mA:Str->Option Value}(n:h.Ns1 dx mA):∃od,h.get? dx=some od/\∀name,PySem.W.lookIn name od=some (mA name):=by
 obtain⟨o,es,ep,ho,hd,hk,_,hm⟩:=n;refine⟨o,ho,λname=>?_⟩;have e:=hm name;unfold nsFind findBy at e;rw[<- Array.find?_toList]at e;unfold PySem.W.lookIn;rw[hd];dsimp only
 split
 ·rename_i y q
  rw[q]at e;exact congrArg some e
 ·rename_i q
  rw[q]at e;have a:es.toList.any (·.refKey)=false:=by
   rw[List.any_eq_false];intro y hy;obtain⟨z,t,aaY⟩:=hk y (Array.mem_toList_iff.mp hy);simp [DictEntry.refKey,aaY]
  have a':¬es.toList.any (·.refKey)=true:=by rw[a];exact Bool.false_ne_true
  rw[if_neg a'];exact congrArg some e
theorem xi.look{h:Heap}{x dx C:Addr}{mA:Str->Option Value}(I:xi h x dx C mA):∃od,PySem.W.InstAt h x (PySem.W.instObj C dx) C (some od)/\∀name,PySem.W.lookIn name od=some (mA name):=
 let ⟨od,ho,hl⟩:=AW I.ns
 ⟨od,⟨I.obj,rfl,rfl,ho⟩,hl⟩
section
variable {prog:Program}{w:World}{A:Around}{E:Value->Shared->Prop}{s:Shared}{K:ab4}{x dx C f:Addr}{mA:Str->Option Value}{name:Str}{v:Value}
theorem get_map{expr:Bool}{Q:Value->Shared->Prop}(X:K.In s.heap)(I:xi s.heap x dx C mA)(hg:PySem.W.plainGet K C name=true)(hh:PySem.W.hasDictIn K C=true)
  (ha:PySem.W.findIn K (.ref C) name=some none) (hv:mA name=some v) (Yb:PySem.W.handedIn v=true) (h:Q v {s with toks:=s.toks+1}):
  wpAny (model prog w) A (getAttr (.ref x) name expr) Q E s:=by
 obtain⟨od,J,hl⟩:=I.look;exact PySem.W.get_value X J (PySem.W.plainGet_of hg).1 (PySem.W.findObj_own hh ha rfl (by rw[hl,hv])) Yb h
theorem DT{pl:Sem Bool}{Q:Value×List Value->Shared->Prop}(X:K.In s.heap)(I:xi s.heap x dx C mA)(hg:PySem.W.plainGet K C name=true)
  (hf:PySem.W.findIn K (.ref C) name=some (some (.ref f))) (ht:PySem.W.isFn K (.ref f)=true) (hv:mA name=none) (h:Q (.ref f,[.ref x]) s):
  wpAny (model prog w) A (getMethod (.ref x) name pl) Q E s:=by
 obtain⟨od,J,hl⟩:=I.look;exact PySem.W.method_fn X J (PySem.W.plainGet_of hg).1 (PySem.W.plainGet_of hg).2 hf (beq_iff_eq.mp ht) (by show(PySem.W.lookIn name od).map (·.isSome)=some false;rw[hl,hv];rfl) h
theorem JP{ns:List Str}{Q:Unit->Shared->Prop}(X:K.In s.heap)(I:xi s.heap x dx C mA)
  (hs:PySem.W.findIn K (.ref C) "__setattr__"=some (some (.builtin "object.__setattr__"))) (hp:PySem.W.plainOver K C=true) (ht:PySem.W.takerIn K C name=some none) (hh:PySem.W.hasDictIn K C=true)
  (hw:PySem.Within mA ns) (hsz:ns.length<=aca)
  (h:∀h',xi h' x dx C (λy=>if y=name then some v else mA y)->Heap.SameBut dx s.heap h'->Q () {s with heap:=h',toks:=s.toks+2}):
  wpAny (model prog w) A (setAttr (.ref x) name v) Q E s:=by
 obtain⟨od,J,hl⟩:=I.look;refine PySem.W.set_plain X J hs (PySem.W.osa_open (s:={s with toks:=s.toks+1}) (r:=none) X J hp ht λb=>?_)
 obtain⟨cd,hc,Vm⟩:=PySem.W.any_some hh;have hx:s.heap.get? x=some ⟨.ref C,some dx,.plain,#[]⟩:=I.obj;refine abW (ab0 (abW (abW (wpAny_loadPart hx (abW (PySem.W.Looks.here (s:={s with toks:=s.toks+1}) (PySem.W.looks_clsIn X hc) ?_))))))
 rw[Vm];refine ab0 (a:=some dx) (abW (ab0 (abW ?_)));refine wpAny_nsSet1 (s:={s with toks:=s.toks+1}) I.ns λh' Ei Bu=>?_
 obtain⟨oD,esD,epD,hoD,hdD,hcD⟩:=Ei.count (PySem.Within.cons name v hw);refine abW (wpAny_lookBehind hoD (by rw[hdD];exact pastItsLine_dict (Nat.le_trans hcD (by rw[List.length_cons];omega))) ?_)
 exact ab0 (h _ ⟨(Bu.2 _ (Ne.symm I.ne)).trans I.obj,Ei,I.ne⟩ Bu)
theorem EF{R:Result->Shared->Prop}{vs:List Value}{kw:List (Str×Value)}(X:K.In s.heap)(hm:PySem.W.makesIn K C=true)
  (hi:PySem.W.findIn K (.ref C) "__init__"=some (some (.ref f))) (hf:PySem.W.typeIn K (.ref f)=some (.type "function"))
  (h:codeAny (model prog w) (A.under (.builtin "type.__call__" ⟨.ref C::vs,kw⟩)) (.call (.ref f) ⟨.ref (s.heap.objs.size+1)::vs,kw⟩) (PySem.W.InitBack (s.heap.objs.size+1) R)
   {s with heap:=(s.heap.push PySem.W.emptyDict).push (PySem.W.instObj C s.heap.objs.size)}):
  codeAny (model prog w) A (.call (.ref C) ⟨vs,kw⟩) R s:=by
 obtain⟨hh,g,d,t,os⟩:=s;exact PySem.W.make_core (PySem.W.makes_of X hm) (PySem.W.looks_findIn X hi) (λself=>PySem.W.bind_fn X self hf) (.inl rfl) h
end
def cP(f:Str)(v:V):List (Str×V)->List (Str×V)
 | []=>[(f,v)]
 | (g,x)::r=>if g=f then(g,v)::r else(g,x)::cP f v r
theorem mL(f g:Str)(v:V):∀fs:List (Str×V),(cP f v fs).lookup g=if g=f then some v else fs.lookup g
 | []=>by
  show List.lookup g [(f,v)]=_
  by_cases h:g=f
  ·have hb:(g==f)=true:=beq_iff_eq.mpr h
   simp only[List.lookup,hb,if_pos h]
  ·have hb:(g==f)=false:=beq_eq_false_iff_ne.mpr h
   simp only[List.lookup,hb,if_neg h]
 | (k,x)::r=>by
  have ih:=mL f g v r;rw[show cP f v ((k,x)::r)=(if k=f then(k,v)::r else(k,x)::cP f v r)from rfl]
  by_cases hk:k=f
  ·rw[if_pos hk]
   by_cases h:g=k
   ·have hb:(g==k)=true:=beq_iff_eq.mpr h
    simp only[List.lookup,hb,if_pos (h.trans hk)]
   ·have hb:(g==k)=false:=beq_eq_false_iff_ne.mpr h
    simp only[List.lookup,hb,if_neg (λe:g=f=>h (e.trans hk.symm))]
  ·rw[if_neg hk]
   by_cases h:g=k
   ·have hb:(g==k)=true:=beq_iff_eq.mpr h
    simp only[List.lookup,hb,if_neg (λe:g=f=>hk (h.symm.trans e))]
   ·have hb:(g==k)=false:=beq_eq_false_iff_ne.mpr h
    simp only[List.lookup,hb];exact ih
theorem lC(f:Str)(v:V):∀fs:List (Str×V),f∈(cP f v fs).map (·.1)/\∀g,g∈fs.map (·.1)->g∈(cP f v fs).map (·.1)
 | []=>⟨by simp [cP],λg h=>by simp at h⟩
 | (k,x)::r=>by
  obtain⟨i1,i2⟩:=lC f v r;rw[show cP f v ((k,x)::r)=(if k=f then(k,v)::r else(k,x)::cP f v r)from rfl]
  by_cases hk:k=f
  ·rw[if_pos hk]
   subst hk;exact⟨by simp,λg h=>by simpa using h⟩
  ·rw[if_neg hk]
   refine⟨?_,λg h=>?_⟩
   ·rw[List.map_cons]
    exact ab1 _ i1
   ·rw[List.map_cons]at h ⊢
    rcases ab6.mp h with e|e
    ·exact ab6.mpr (.inl e)
    ·exact ab1 _ (i2 g e)
theorem mJ(f:Str)(v:V):∀fs:List (Str×V),(cP f v fs).length<=fs.length+1
 | []=>by simp [cP]
 | (k,x)::r=>by
  have ih:=mJ f v r;rw[show cP f v ((k,x)::r)=(if k=f then(k,v)::r else(k,x)::cP f v r)from rfl]
  by_cases hk:k=f
  ·rw[if_pos hk,List.length_cons,List.length_cons];omega
  ·rw[if_neg hk,List.length_cons,List.length_cons];omega
theorem gG.some_of{v:V}{o:Option Value}(r:gG (some v) o):∃u,o=some u/\RelV v u:=by
 cases o with
 | none=>exact(show False from r).elim
 | some u=>exact⟨u,rfl,r⟩
theorem gG.none_of{o:Option Value}(r:gG none o):o=none:=by
 cases o with
 | none=>rfl
 | some u=>exact(show False from r).elim
theorem AA{v:V}{u:Value}(r:RelV v u):PySem.W.handedIn u=true:=by
 cases v with
 | aQ=>cases(show u=Value.none from r);rfl
 | bl b=>cases(show u=Value.bool b from r);rfl
 | int i=>obtain⟨t,e⟩:=(show∃t,u=Value.int i t from r);cases e;rfl
 | str x=>obtain⟨t,e⟩:=(show∃t,u=Value.str x t from r);cases e;rfl
 | Vg b=>obtain⟨t,e⟩:=(show∃t,u=Value.bytes b t from r);cases e;rfl
 | Ld b=>obtain⟨t,e⟩:=(show∃t,u=Value.float b t from r);cases e;rfl
 | ref a=>cases(show u=Value.ref a from r);rfl
 | ty n=>cases(show u=Value.type n from r);rfl
section
variable {P:Program}{w:World}{H H':Hp}{h h':Heap}{a C dx:Addr}{fs fs':List (Str×V)}
theorem nc(bG:hJ P w H h)(e:H a=some (.ins C dx fs)):∃mA,xi h a dx C mA/\(∀f,gG (fs.lookup f) (mA f))/\PySem.Within mA (fs.map (·.1))/\fs.length<=1000/\H dx=some (.own a):=by
 obtain⟨d,z,ne,ob,mA,n,r,q⟩:=(show bR P w H h a (.ins C dx fs)from bG a _ e)
 exact⟨mA,⟨ob,n,ne⟩,r,q,z,d⟩
end
structure Bx(K:ab4)(C:Addr):Prop where
 pg:PySem.W.plainGet K C Str.empty=true
 hd:PySem.W.hasDictIn K C=true
 po:PySem.W.plainOver K C=true
 sa:PySem.W.findIn K (.ref C) "__setattr__"=some (some (.builtin "object.__setattr__"))
theorem Bx.get{K:ab4}{C:Addr}(c:Bx K C)(f:Str):PySem.W.plainGet K C f=true:=c.pg
def iY(K:ab4)(C:Addr)(f:Str):Prop:=PySem.W.findIn K (.ref C) f=some none
theorem iY.aav{K:ab4}{C:Addr}{f:Str}(n:iY K C f):PySem.W.takerIn K C f=some none:=by
 unfold PySem.W.takerIn;rw[show PySem.W.findIn K (.ref C) f=some none from n]
 rfl
structure Meth(K:ab4)(C:Addr)(m:Str)(f:Addr):Prop where
 at_:PySem.W.findIn K (.ref C) m=some (some (.ref f))
 fn:PySem.W.isFn K (.ref f)=true
 kp:PySem.W.keepIn K (.ref f)=true
section
variable {X:Cx}{pins:List (Addr×Obj)}{σ:St}{H:Hp}{s:Shared}{a C dx:Addr}{fs:List (Str×V)}{f:Str}{v:V}{A:Around}{E:Value->Shared->Prop}
theorem xE{b:Bool}{Q:Value->Shared->Prop}(I:Inv X pins σ H s)(e:H a=some (.ins C dx fs))(c:Bx X.K C)(n:iY X.K C f)(l:fs.lookup f=some v)
  (h:∀u s',Inv X pins σ H s'->RelV v u->Q u s'):wpAny (model X.prog X.w) A (getAttr (.ref a) f b) Q E s:=by
 obtain⟨mA,O,r,_,_,_⟩:=nc I.bG e;obtain⟨u,hu,ru⟩:=gG.some_of (v:=v) (o:=mA f) (by rw[<- l];exact r f)
 exact get_map I.mG O (c.get f) c.hd n hu (AA ru) (h u _ (I.tok _) ru)
theorem nP{m:Str}{g:Addr}{pl:Sem Bool}{Q:Value×List Value->Shared->Prop}(I:Inv X pins σ H s)(e:H a=some (.ins C dx fs))(c:Bx X.K C)(k:Meth X.K C m g)(l:fs.lookup m=none)
  (h:Q (.ref g,[.ref a]) s):wpAny (model X.prog X.w) A (getMethod (.ref a) m pl) Q E s:=by
 obtain⟨mA,O,r,_,_,_⟩:=nc I.bG e;have hn:mA m=none:=gG.none_of (by rw[<- l];exact r m)
 exact DT I.mG O (c.get m) k.at_ k.fn hn h
theorem yh{y:V}{u:Value}{Q:Unit->Shared->Prop}(I:Inv X pins σ H s)(e:H a=some (.ins C dx fs))(c:Bx X.K C)(n:iY X.K C f)(hl:fs.length<1000)(ry:RelV y u)
  (h:∀s',Inv X pins σ (upd H a (.ins C dx (cP f y fs))) s'->Q () s'):wpAny (model X.prog X.w) A (setAttr (.ref a) f u) Q E s:=by
 obtain⟨mA,O,r,wi,_,ho⟩:=nc I.bG e;have hz:(fs.map (·.1)).length<=aca:=by rw[abZ,sizeLine_eq];omega
 refine JP I.mG O c.sa c.po n.aav c.hd wi hz λh' O' sb=>h _ ?_;have hd:∃o,h'.get? dx=some o:=let ⟨o,_,_,e',_⟩:=O'.ns;⟨o,e'⟩;refine I.write (x:=a) (e:=dx) (by rw[e];exact True.intro) (.inr ho) (λb q hb z=>(sb.2 b hb).trans z) hd ?_
 refine⟨by rw[aq O.ne];exact ho,?_,O.ne,O'.obj,_,O'.ns,λg=>?_,λg hg=>?_⟩
 ·have:=mJ f y fs;omega
 ·show gG ((cP f y fs).lookup g) (if g=f then some u else mA g)
  rw[mL]
  by_cases q:g=f
  ·rw[if_pos q,if_pos q];exact ry
  ·rw[if_neg q,if_neg q];exact r g
 ·by_cases q:g=f
  ·rw[q];exact(lC f y fs).1
  ·refine(lC f y fs).2 g (wi g λz=>hg ?_)
   show(if g=f then some u else mA g)=none
   rw[if_neg q];exact z
theorem Inv.made(I:Inv X pins σ H s):Inv X pins σ (upd (upd H s.heap.objs.size (.own (s.heap.objs.size+1))) (s.heap.objs.size+1) (.ins C s.heap.objs.size []))
  {s with heap:=(s.heap.push PySem.W.emptyDict).push (PySem.W.instObj C s.heap.objs.size)}:=by
 have e1:(s.heap.push PySem.W.emptyDict).get? s.heap.objs.size=some PySem.W.emptyDict:=Heap.get?_push_size s.heap rfl;have e2:((s.heap.push PySem.W.emptyDict).push (PySem.W.instObj C s.heap.objs.size)).get? (s.heap.objs.size+1)=some (PySem.W.instObj C s.heap.objs.size):=by
  have:=Heap.get?_push_size (s.heap.push PySem.W.emptyDict) (o:=PySem.W.instObj C s.heap.objs.size) rfl
  rwa [Heap.size_push]at this
 have e3:(s.heap.push PySem.W.emptyDict).Ns s.heap.objs.size (λ_=>none):=⟨PySem.W.emptyDict,#[],_,e1,rfl,(λe he=>absurd he (by simp)),λ_=>rfl⟩
 have I1:=I.laid (a:=s.heap.objs.size) (o:=.own (s.heap.objs.size+1)) (h':=s.heap.push PySem.W.emptyDict) (t':=s.toks) (λb u q=>abX _ q) (ab3 _) ⟨_,e1⟩;refine I1.laid (a:=s.heap.objs.size+1) (o:=.ins C s.heap.objs.size []) (t':=s.toks) (λb u q=>abX _ q) (Nat.le_of_eq (Heap.size_push _ _)) ?_;have ne:s.heap.objs.size≠s.heap.objs.size+1:=Nat.ne_of_lt (Nat.lt_succ_self _);refine⟨by rw[aq ne,ay],Nat.zero_le _,ne,e2,λ_=>none,(Heap.Ns1.of_empty e3).at λo q=>abX _ q,λ_=>True.intro,λy hy=>absurd rfl hy⟩
theorem HB{prog:Program}{w:World}{env:Env}{e:Expr}{f:Str}{pos:Pos}{s:Shared}{Q:Value->Shared->Prop}(hb:attributeBase e f env (eval e env)=eval e env)
  (h:wpAny (model prog w) A (eval e env) (λo bJ=>wpAny (model prog w) A (getAttr o f true) Q E bJ) E s):wpAny (model prog w) A (eval (.Attribute e f pos) env) Q E s:=
 Attribute_any_ h (by rw[arm_eval_Attribute,hb])
end
def abF(K:ab4)(ta:TE)(f:Str):TE:=λσ H Q=>ta σ H λx H1=>∃a C dx fs v,x=.ref a/\H1 a=some (.ins C dx fs)/\Bx K C/\iY K C f/\fs.lookup f=some v/\Q v H1
def abD(K:ab4)(ta tv:TE)(f:Str):TS:=λD σ H=>tv σ H λy H1=>ta σ H1 λx H2=>∃a C dx fs,x=.ref a/\H2 a=some (.ins C dx fs)/\Bx K C/\iY K C f/\fs.length<1000 /\
 D.nx σ (upd H2 a (.ins C dx (cP f y fs)))
section
variable {X:Cx}{o e value:Expr}{f:Str}{pos pos' yz:Pos}{ta tv:TE}
theorem sk(he:PE X e ta)(hb:attributeBase e f X.env (eval e X.env)=eval e X.env):PE X (.Attribute e f pos) (abF X.K ta f):=by
 intro pins s σ H Q I h;refine HB hb (cv (he pins s σ H _ I h) λu s1 ⟨x,H1,I1,rx,a,C,dx,fs,v,ex,ea,c,n,l,q⟩=>?_);subst ex;obtain rfl:u=Value.ref a:=rx;exact xE I1 ea c n l λu' s2 I2 ru=>⟨v,H1,I2,ru,q⟩
theorem sx(ha:PE X o ta)(hv:PE X value tv)(hs:swapsWith value (some (.Attribute o f pos')) pos.line X.env=pure false):PS X (.Assign [.Attribute o f pos'] value pos) (abD X.K ta tv f):=by
 intro pins s σ H D I h;refine plainObj_wpAny_Assign_Attribute (cv (hv pins s σ H _ I h) λu s1 ⟨y,H1,I1,ry,q⟩=>cv (ha pins s1 σ H1 _ I1 q) λov s2 ⟨x,H2,I2,rx,a,C,dx,fs,ex,ea,c,n,l,q2⟩=>?_) hs;subst ex;obtain rfl:ov=Value.ref a:=rx;exact yh I2 ea c n l ry λs3 I3=>⟨σ,_,I3,q2⟩
def JC:V->V->Hp->VK->Prop:=λx y H Q=>∃i j,x=.int i/\y=.int j/\Q (.int (i+j)) H
end
section
variable {X:Cx}{pins:List (Addr×Obj)}{σ:St}{H:Hp}{s:Shared}{A:Around}{E:Value->Shared->Prop}{Q:Value->Shared->Prop}{c:Value}{b:Bool}
inductive jq (K:ab4)(H:Hp):V->Value->Prop where
 | aQ:jq K H .aQ (.type "NoneType")
 | bl (x:Bool):jq K H (.bl x) (.type "bool")
 | int (i:Int):jq K H (.int i) (.type "int")
 | str (x:Str):jq K H (.str x) (.type "str")
 | Ld (x:UInt64):jq K H (.Ld x) (.type "float")
 | lst {a:Addr} {xs:List V} (e:H a=some (.lst xs)):jq K H (.ref a) (.type "list")
 | qj {a:Addr} {o:Obj} {xs:List V} (e:H a=some (.qj o (.lst xs))):jq K H (.ref a) (.type "list")
 | tup {a:Addr} {xs:List V} (e:H a=some (.tup xs)):jq K H (.ref a) (.type "tuple")
 | dK {a:Addr} {kvs:List (Key×V)} (e:H a=some (.dK kvs)):jq K H (.ref a) (.type "dict")
 | dT {a:Addr} {kvs:List (List Key×V)} (e:H a=some (.dT kvs)):jq K H (.ref a) (.type "dict")
 | ins {a C dx:Addr} {fs:List (Str×V)} (e:H a=some (.ins C dx fs)) (cl:Bx K C) (ha:PySem.W.findIn K (.ref C) "__class__"=some (some (.builtin "object.__class__")))
   (hn:PySem.W.specialIn K (.builtin "object.__class__") "__get__"=some (some (.builtin "getset_descriptor.__get__"))) (htk:PySem.W.takesIn K (.builtin "object.__class__")=some true)
   (hm:PySem.W.mroIn K C (.type "object")=some true):jq K H (.ref a) (.ref C)
theorem AJ{x:V}{u t:Value}(I:Inv X pins σ H s)(rx:RelV x u)(ty:jq X.K H x t)(e:PySem.W.kitOne X.K t c=some b)(h:∀tk,Q (.bool b) {s with toks:=tk}):
  wpAny (model X.prog X.w) A (call (.builtin "isinstance") [u,c]) Q E s:=by
 cases ty with
 | aQ=>cases(show u=Value.none from rx);exact PySem.W.kia_one PySem.W.kitx_none I.mG True.intro e (λz=>nomatch z) h
 | bl y=>cases(show u=Value.bool y from rx);exact PySem.W.kia_one PySem.W.kitx_bool I.mG True.intro e (λz=>nomatch z) h
 | int i=>obtain⟨t,q⟩:=(show∃t,u=Value.int i t from rx);cases q;exact PySem.W.kia_one PySem.W.kitx_int I.mG True.intro e (λz=>nomatch z) h
 | str y=>obtain⟨t,q⟩:=(show∃t,u=Value.str y t from rx);cases q;exact PySem.W.kia_one PySem.W.kitx_str I.mG True.intro e (λz=>nomatch z) h
 | Ld y=>obtain⟨t,q⟩:=(show∃t,u=Value.float y t from rx);cases q;exact PySem.W.kia_one PySem.W.kitx_float I.mG True.intro e (λz=>nomatch z) h
 | @lst a xs ea =>
  cases(show u=Value.ref a from rx)
  obtain⟨_,_,n,_,h1⟩:=(show bR X.prog X.w H s.heap a (.lst xs)from I.bG a _ ea)
  exact PySem.W.kia_one PySem.W.kitx_list I.mG ⟨_,h1,rfl⟩ e (λz=>nomatch z) h
 | @qj a ob xs ea =>
  cases(show u=Value.ref a from rx)
  obtain⟨_,_,_,n,_,h1⟩:=(show bR X.prog X.w H s.heap a (.qj ob (.lst xs))from I.bG a _ ea)
  exact PySem.W.kia_one PySem.W.kitx_list I.mG ⟨_,h1,rfl⟩ e (λz=>nomatch z) h
 | @tup a xs ea =>
  cases(show u=Value.ref a from rx)
  obtain⟨_,_,_,p⟩:=(show bR X.prog X.w H s.heap a (.tup xs)from I.bG a _ ea)
  obtain⟨o,h1,h2,_⟩:=p;exact PySem.W.kia_one PySem.W.kitx_tuple I.mG ⟨o,h1,h2⟩ e (λz=>nomatch z) h
 | @dK a kvs ea =>
  cases(show u=Value.ref a from rx)
  obtain⟨_,_,vs,_,p⟩:=(show bR X.prog X.w H s.heap a (.dK kvs)from I.bG a _ ea)
  obtain⟨o,es,ep,h1,h2,_⟩:=p;exact PySem.W.kia_one PySem.W.kitx_dict I.mG ⟨o,h1,h2.1⟩ e (λz=>nomatch z) h
 | @dT a kvs ea =>
  cases(show u=Value.ref a from rx)
  obtain⟨_,_,xs,_,o,es,ep,h1,h2,_⟩:=(show bR X.prog X.w H s.heap a (.dT kvs)from I.bG a _ ea)
  exact PySem.W.kia_one PySem.W.kitx_dict I.mG ⟨o,h1,h2.1⟩ e (λz=>nomatch z) h
 | @ins a C dx fs ea cl ha hn htk hm =>
  cases(show u=Value.ref a from rx)
  obtain⟨mA,O,_⟩:=nc I.bG ea;obtain⟨od,J,_⟩:=O.look;exact PySem.W.kia_one (PySem.W.kitx_own (cl.get _) cl.hd ha hn htk hm) I.mG J e (λz=>nomatch z) h
end
end L2
namespace L2
open PySem PySem.Spec PyProof.Rows
structure d4(k:Nat)(A:Around):Prop where
 hd:A.handled=none
 dp:A.depth+3*k+5<recursionLimit
 un:A.units+16*k+200<cLine
theorem d4.mono{j k:Nat}{A:Around}(r:d4 k A)(h:j<=k):d4 j A:=⟨r.hd,by have:=r.dp;omega,by have:=r.un;omega⟩
theorem d4.deeper{k:Nat}{A:Around}(r:d4 (k+1) A)(env:Env):d4 k (A.deeper env):=
 ⟨r.hd,by have:=r.dp;show A.depth+1+3*k+5<_;omega,by have:=r.un;show A.units+3+16*k+200<_;omega⟩
theorem xP{A:Around}{C:Addr}{us:List Value}{kw:List (Str×Value)}:(A.under (.builtin "type.__call__" ⟨.ref C::us,kw⟩)).depth=A.depth+1:=by
 first|rfl|simp [Around.under,Code.weight,Code.isCreation,Code.isGuard,Code.isCaller,Code.frames,Code.isFrame,guardIds]
theorem xQ{A:Around}{C:Addr}{us:List Value}{kw:List (Str×Value)}:(A.under (.builtin "type.__call__" ⟨.ref C::us,kw⟩)).units=A.units+1:=by
 first|rfl|simp [Around.under,Code.cUnits,Code.frames,Code.isFrame]
theorem d4.make{k:Nat}{A:Around}(r:d4 (k+1) A)(C:Addr)(us:List Value)(kw:List (Str×Value)):d4 k (A.under (.builtin "type.__call__" ⟨.ref C::us,kw⟩)):=
 ⟨r.hd,by have:=r.dp;rw[xP];omega,by have:=r.un;rw[xQ];omega⟩
theorem d4.depth{k:Nat}{A:Around}(r:d4 k A):A.depth<recursionLimit:=by have:=r.dp;omega
def lZ:TA:=λ_ H Q=>Q [] H
def eB(ta:TE)(tr:TA):TA:=λσ H Q=>ta σ H λx H1=>tr σ H1 λxs H2=>Q (x::xs) H2
section
variable {X:Cx}{e:Expr}{es:List Expr}{te:TE}{t:TA}{pos:Pos}
theorem ei:PA X [] lZ:=λ_ _ _ _ H Q I h=>Calls.spliced_nil ⟨[],H,I,.nil,h⟩
theorem bX(ha:PE X e te)(hr:PA X es t)(hs:ab7 (e::es) X.env=(false,eval e X.env)::ab7 es X.env:=by rfl):PA X (e::es) (eB te t):=by
 intro pos pins s σ H Q I h;rw[hs];show wpAny _ _ (spliced ((false,eval e X.env)::backTo pos (ab7 es X.env))) _ _ s;refine Calls.spliced_cons (cv (ha pins s σ H _ I h) λu s1 ⟨x,H1,I1,r1,q1⟩=>?_);exact cv (hr pos pins s1 σ H1 _ I1 q1) λus s2 ⟨xs,H2,I2,r2,q2⟩=>⟨x::xs,H2,I2,.cons r1 r2,q2⟩
def UL(t:TA):TE:=λσ H Q=>t σ H λxs H1=>xs.length<=aca/\∀p,H1 p=none->Q (.ref p) (upd H1 p (.tup xs))
def aao(t:TA):TE:=λσ H Q=>t σ H λxs H1=>xs.length<=aca/\∀p,H1 p=none->Q (.ref p) (upd H1 p (.lst xs))
theorem Ff{x1}(h:PA X es t):PE X (.Tuple es x1 pos) (UL t):=by
 intro pins s σ H Q I hq;refine wpAny_Tuple_spliced (cv (h pos pins s σ H _ I hq) λus s1 ⟨xs,H1,I1,r,z,q⟩=>⟨by rw[<- r.length];exact z,?_⟩)
 have hf:H1 s1.heap.objs.size=none:=I1.bG.fresh (ab3 _);refine⟨.ref s1.heap.objs.size,upd H1 s1.heap.objs.size (.tup xs),I1.laid (t':=s1.toks) (λb u e=>abX _ e) (ab3 _) ?_,rfl,q _ hf⟩;exact⟨z,us,r,⟨_,Heap.get?_push_size _ rfl,rfl,_,rfl⟩⟩
theorem so(h:PA X es t):PE X (.List es pos) (aao t):=by
 intro pins s σ H Q I hq;refine wpAny_List_spliced (cv (h pos pins s σ H _ I hq) λus s1 ⟨xs,H1,I1,r,z,q⟩=>⟨by rw[<- r.length];exact z,?_⟩)
 have hf:H1 s1.heap.objs.size=none:=I1.bG.fresh (ab3 _);refine⟨.ref s1.heap.objs.size,upd H1 s1.heap.objs.size (.lst xs),I1.laid (t':=s1.toks) (λb u e=>abX _ e) (ab3 _) ?_,rfl,q _ hf⟩;exact⟨z,us,0,r,Heap.get?_push_size _ rfl⟩
end
abbrev Sp:=List V->Hp->VK->XK->Prop
abbrev Ae:=List Env->Hp->Shared->XK->Value->Shared->Prop
structure xc(P:Program)(w:World)(K:ab4)(mg:Str->Option Value)(base:Heap)(A:Around)(outer:List Env)(s:Shared)(H:Hp):Prop where
 frames:A.frames=some outer
 mod:Mod K mg base
 bs:∀b o,base.get? b=some o->s.heap.get? b=some o/\H b=none
 Cg:base.objs.size<=s.heap.objs.size
 lr:s.heap.FunFrames base outer
 Lg:∀b∈DR outer,H b=none
 bG:hJ P w H s.heap
 bare:AllBare s.gens
def CE(outer:List Env)(P:Program)(w:World)(H:Hp)(s:Shared)(Q:VK)(u:Value)(s':Shared):Prop:=
 ∃v H',s'.os=s.os/\AllBare s'.gens/\Un (DR outer) [] H H' s.heap s'.heap/\hJ P w H' s'.heap/\RelV v u/\Q v H'
def CR(CX:Ae)(outer:List Env)(P:Program)(w:World)(H:Hp)(s:Shared)(Q:VK)(E:XK)(r:Result)(s':Shared):Prop:=
 match r with
 | .ok (.ret u)=>CE outer P w H s Q u s'
 | .ok _=>False
 | .error e=>CX outer H s E e s'
structure ck(P:Program)(w:World)(K:ab4)(mg:Str->Option Value)(base:Heap)(CX:Ae)(k:Nat)(f:Addr)(fd:FuncData)(ps:List Str)(sp:Sp):Prop where
 len:∀vs H Q E,sp vs H Q E->vs.length=ps.length
 run:∀(A:Around) (outer:List Env) (s:Shared) (H:Hp) (args:Args) (us:List Value) (vs:List V) (Q:VK) (E:XK),d4 k A->xc P w K mg base A outer s H->BindsTo s fd args (ps.zip us)->Vals vs us->sp vs H Q E ->
  codeAny (model P w) A (.call (.ref f) args) (CR CX outer P w H s Q E) s
theorem ck.mono{P:Program}{w:World}{K:ab4}{mg:Str->Option Value}{base:Heap}{CX:Ae}{j k:Nat}{f:Addr}{fd:FuncData}{ps:List Str}{sp:Sp}(F:ck P w K mg base CX j f fd ps sp)(h:j<=k):
  ck P w K mg base CX k f fd ps sp:=⟨F.len,λA outer s H args us vs Q E hr=>F.run A outer s H args us vs Q E (hr.mono h)⟩
theorem ck.imp{P:Program}{w:World}{K:ab4}{mg:Str->Option Value}{base:Heap}{CX:Ae}{k:Nat}{f:Addr}{fd:FuncData}{ps:List Str}{sp sp':Sp}(F:ck P w K mg base CX k f fd ps sp)
  (h:∀vs H Q E,sp' vs H Q E->sp vs H Q E):ck P w K mg base CX k f fd ps sp':=
 ⟨λvs H Q E q=>F.len vs H Q E (h _ _ _ _ q),λA outer s H args us vs Q E hr he hb hv hs=>F.run A outer s H args us vs Q E hr he hb hv (h _ _ _ _ hs)⟩
theorem xc.make{P:Program}{w:World}{K:ab4}{mg:Str->Option Value}{base:Heap}{A:Around}{outer:List Env}{s:Shared}{H:Hp}(e:xc P w K mg base A outer s H)(C:Addr)(us:List Value)(kw:List (Str×Value)):
  xc P w K mg base (A.under (.builtin "type.__call__" ⟨.ref C::us,kw⟩)) outer s H:=⟨by first|exact e.frames | (simpa [Around.under,Code.envs,Code.isFrame,pushEnvs]using e.frames),e.mod,e.bs,e.Cg,e.lr,e.Lg,e.bG,e.bare⟩
section
variable {X:Cx}{pins:List (Addr×Obj)}{σ:St}{H:Hp}{s s':Shared}
theorem Inv.Xp(I:Inv X pins σ H s):xc X.prog X.w X.K X.mg X.base X.A X.stack s H:=
 ⟨I.ok.frames,I.ok.mod,I.bs,Nat.le_trans I.ok.Cg I.sz,I.stack,I.Aa,I.bG,I.bare⟩
theorem Inv.after{Q:VK}{u:Value}(I:Inv X pins σ H s)(h:CE X.stack X.prog X.w H s Q u s'):EP X pins σ Q u s':=by
 obtain⟨v,H',os,bare,un,bG,r,q⟩:=h;obtain⟨hh,g,d,t,os'⟩:=s';obtain rfl:os'=s.os:=os;exact⟨v,H',I.call (h':=hh) (g':=g) (d':=d) (t':=t) (ch:=[]) un bG bare (λb z=>absurd z (by simp)),r,q⟩
end
def aak(sp:Sp)(dvs:List V)(E:XK)(t:TA):TE:=λσ H Q=>t σ H λvs H1=>sp (vs++dvs) H1 Q E
def qN(C:Addr)(m:Str)(sp:Sp)(dvs:List V)(E:XK)(ta:TE)(t:TA):TE:=λσ H Q=>ta σ H λx H1=>∃a dx fs,x=.ref a/\H1 a=some (.ins C dx fs)/\fs.lookup m=none /\
 t σ H1 λvs H2=>sp (x::(vs++dvs)) H2 Q E
def aap(C:Addr)(sp:Sp)(dvs:List V)(E:XK)(t:TA):TE:=λσ H Q=>t σ H λvs H1=>∀x dx,H1 x=none->H1 dx=none->dx≠x ->
 sp (.ref x::(vs++dvs)) (upd (upd H1 dx (.own x)) x (.ins C dx [])) (λv H2=>v=.aQ/\Q (.ref x) H2) E
def Binds(K:ab4)(fd:FuncData)(ps:List Str)(ds:List Value):Prop:=
 ∀(s:Shared) (us:List Value),K.In s.heap->(us++ds).length=ps.length->BindsTo s fd ⟨us,[]⟩ (ps.zip (us++ds))
theorem Binds.all{K:ab4}{fd:FuncData}{ps:List Str}(h:∀us:List Value,us.length=ps.length->bindArgs fd ⟨us,[]⟩=pure (ps.zip us)):Binds K fd ps []:=λs us _ hl=>by
 rw[List.append_nil]at hl ⊢;exact .of_eq (h us hl)
def Passes(CX:Ae)(X:Cx)(E:XK):Prop:=∀(pins:List (Addr×Obj)) (σ:St) (H:Hp) (s:Shared) (e:Value) (s':Shared),Inv X pins σ H s->CX X.stack H s E e s'->X.xe e s'
section
variable {X:Cx}{CX:Ae}{k:Nat}{f C:Addr}{fd:FuncData}{ps:List Str}{sp:Sp}{dvs:List V}{ds:List Value}{E:XK}{x m:Str}{p pos apos:Pos}{e o:Expr}{es:List Expr}{ta:TE}{t:TA}
theorem ye{pins:List (Addr×Obj)}{σ:St}{H:Hp}{s:Shared}{Q:VK}{us:List Value}{vs:List V}(F:ck X.prog X.w X.K X.mg X.base CX k f fd ps sp)(hr:d4 k X.A)(hb:Binds X.K fd ps ds)(hd:Vals dvs ds)(hx:Passes CX X E)
  (I:Inv X pins σ H s) (r:Vals vs us) (h:sp (vs++dvs) H Q E):wpAny (model X.prog X.w) X.A (call (.ref f) us) (EP X pins σ Q) X.xe s:=by
 have r2:Vals (vs++dvs) (us++ds):=r.append hd;have hl:(us++ds).length=ps.length:=by rw[<- r2.length];exact F.len _ _ _ _ h
 refine wpAny_call (codeAny_mono (F.run X.A X.stack s H ⟨us,[]⟩ (us++ds) (vs++dvs) Q E hr I.Xp (hb s us I.mG hl) r2 h) λr s' hq=>?_);cases r with
 | error e=>exact hx pins σ H s e s' I hq
 | ok fl =>
  cases fl with
  | ret u=>exact I.after hq
  | next=>exact False.elim hq
  | brk=>exact False.elim hq
  | cont=>exact False.elim hq
theorem jM(F:ck X.prog X.w X.K X.mg X.base CX k f fd ps sp)(hr:d4 k X.A)(hg:Gl X x)(hm:X.mg x=some (.ref f))(hk:PySem.W.keepIn X.K (.ref f)=true)(hb:Binds X.K fd ps ds)(hd:Vals dvs ds)(hx:Passes CX X E)
  (ha:PA X (e::es) t) (jx:(x==("__debug__":Str))=false:=by decide) (he:ab7 (e::es) X.env=(false,eval e X.env)::ab7 es X.env:=by rfl) (dm:(backTo pos (ab7 es X.env)).any (·.1)=false:=by rfl):
  PE X (.Call (.Name x p) (e::es) [] pos) (aak sp dvs E t):=by
 intro pins s σ H Q I h;refine wpAny_Call_Name_kw (r9 I hg hm ?_ jx);refine PySem.W.callWith_K (h₀:=X.base) I.ok.mod.Ew hk (cv (ha pos pins s σ H _ I h) λus s1 ⟨vs,H1,I1,r,q⟩=>⟨I1.mG,?_⟩) he dm;exact ye F hr hb hd hx I1 r q
theorem zF{pl:Sem Bool}(he:PE X o ta)(c:Bx X.K C)(hm:Meth X.K C m f)(F:ck X.prog X.w X.K X.mg X.base CX k f fd ps sp)(hr:d4 k X.A)(hb:Binds X.K fd ps ds)(hd:Vals dvs ds)(hx:Passes CX X E)(ha:PA X (e::es) t)
  (En:ab7 (e::es) X.env=(false,eval e X.env)::ab7 es X.env:=by rfl) (dm:(backTo pos (ab7 es X.env)).any (·.1)=false:=by rfl)
  (ht:eval (.Call (.Attribute o m apos) (e::es) [] pos) X.env=(do
   let ov <- eval o X.env
   standAt apos.atName
   let (f,first) <- holding [ov] (getMethod ov m pl)
   callWith pos f first (backTo pos (ab7 (e::es) X.env)) (backToKw pos (keywordEach [] X.env))):=by rfl):
  PE X (.Call (.Attribute o m apos) (e::es) [] pos) (qN C m sp dvs E ta t):=by
 intro pins s σ H Q I h;refine PySem.W.methodCall_KW (pl:=pl) (cv (he pins s σ H _ I h) λu s1 ⟨x,H1,I1,rx,a,dx,fs,ex,ea,l,q⟩=>?_) ht;subst ex;obtain rfl:u=Value.ref a:=rx;refine nP I1 ea c hm l ?_;refine PySem.W.callWith_K (first:=[.ref a]) (h₀:=X.base) I.ok.mod.Ew hm.kp (cv (ha pos pins s1 σ H1 _ I1 q) λus s2 ⟨vs,H2,I2,r,q2⟩=>⟨I2.mG,?_⟩) En dm
 exact ye (us:=.ref a::us) (vs:=.ref a::vs) F hr hb hd hx I2 (.cons rfl r) q2
theorem Fd{pl:Sem Bool}(he:PE X o ta)(c:Bx X.K C)(hm:Meth X.K C m f)(F:ck X.prog X.w X.K X.mg X.base CX k f fd ps sp)(hr:d4 k X.A)(hb:Binds X.K fd ps ds)(hd:Vals dvs ds)(hx:Passes CX X E)
  (ht:eval (.Call (.Attribute o m apos) [] [] pos) X.env=(do
   let ov <- eval o X.env
   standAt apos.atName
   let (f,first) <- holding [ov] (getMethod ov m pl)
   callWith pos f first (backTo pos (ab7 [] X.env)) (backToKw pos (keywordEach [] X.env))):=by rfl):
  PE X (.Call (.Attribute o m apos) [] [] pos) (qN C m sp dvs E ta lZ):=by
 intro pins s σ H Q I h;refine PySem.W.methodCall_KW (pl:=pl) (cv (he pins s σ H _ I h) λu s1 ⟨x,H1,I1,rx,a,dx,fs,ex,ea,l,q⟩=>?_) ht;subst ex;obtain rfl:u=Value.ref a:=rx;refine nP I1 ea c hm l ?_;exact PySem.W.callWith_K0 (first:=[.ref a]) I1.mG hm.kp (ye (us:=[.ref a]) (vs:=[.ref a]) F hr hb hd hx I1 (.cons rfl .nil) q)
structure Mk(K:ab4)(C f:Addr):Prop where
 makes:PySem.W.makesIn K C=true
 init:PySem.W.findIn K (.ref C) "__init__"=some (some (.ref f))
 fn:PySem.W.isFn K (.ref f)=true
 kp:PySem.W.keepIn K (.ref C)=true
theorem FP{pins:List (Addr×Obj)}{σ:St}{H:Hp}{s:Shared}{Q:VK}{us:List Value}{vs:List V}(M:Mk X.K C f)(F:ck X.prog X.w X.K X.mg X.base CX k f fd ps sp)(hr:d4 (k+1) X.A)(hb:Binds X.K fd ps ds)(hd:Vals dvs ds)
  (hx:Passes CX X E) (I:Inv X pins σ H s) (r:Vals vs us)
  (h:∀x dx,H x=none->H dx=none->dx≠x->sp (.ref x::(vs++dvs)) (upd (upd H dx (.own x)) x (.ins C dx [])) (λv H2=>v=.aQ/\Q (.ref x) H2) E):
  wpAny (model X.prog X.w) X.A (call (.ref C) us) (EP X pins σ Q) X.xe s:=by
 have hq:=h (s.heap.objs.size+1) s.heap.objs.size (I.bG.fresh (Nat.le_succ _)) (I.bG.fresh (ab3 _)) (Nat.ne_of_lt (Nat.lt_succ_self _));have I2:=Inv.made (C:=C) I;have r2:Vals (V.ref (s.heap.objs.size+1)::(vs++dvs)) (Value.ref (s.heap.objs.size+1)::(us++ds)):=.cons rfl (r.append hd);have hl:(Value.ref (s.heap.objs.size+1)::us++ds).length=ps.length:=by
  have e:=r2.length;rw[F.len _ _ _ _ hq]at e;exact e.symm
 refine wpAny_call (EF (f:=f) I.mG M.makes M.init (beq_iff_eq.mp M.fn) (codeAny_mono (F.run _ X.stack _ _ ⟨Value.ref (s.heap.objs.size+1)::us,[]⟩ (Value.ref (s.heap.objs.size+1)::(us++ds)) _ _ E (hr.make C us [])
  (I2.Xp.make C us []) (hb _ (Value.ref (s.heap.objs.size+1)::us) I2.mG hl) r2 hq) λr s' X8=>?_))
 cases r with
 | error e=>exact hx pins σ _ _ e s' I2 X8
 | ok fl =>
  cases fl with
  | ret u =>
   obtain⟨v,H',I3,rv,ev,q3⟩:=I2.after X8;subst ev;exact⟨rv,⟨V.ref (s.heap.objs.size+1),H',I3,rfl,q3⟩⟩
  | next=>exact False.elim X8
  | brk=>exact False.elim X8
  | cont=>exact False.elim X8
theorem Js(M:Mk X.K C f)(F:ck X.prog X.w X.K X.mg X.base CX k f fd ps sp)(hr:d4 (k+1) X.A)(hg:Gl X x)(hm:X.mg x=some (.ref C))(hb:Binds X.K fd ps ds)(hd:Vals dvs ds)(hx:Passes CX X E)
  (ha:PA X (e::es) t) (jx:(x==("__debug__":Str))=false:=by decide) (he:ab7 (e::es) X.env=(false,eval e X.env)::ab7 es X.env:=by rfl) (dm:(backTo pos (ab7 es X.env)).any (·.1)=false:=by rfl):
  PE X (.Call (.Name x p) (e::es) [] pos) (aap C sp dvs E t):=by
 intro pins s σ H Q I h;refine wpAny_Call_Name_kw (r9 I hg hm ?_ jx);refine PySem.W.callWith_K (h₀:=X.base) I.ok.mod.Ew M.kp (cv (ha pos pins s σ H _ I h) λus s1 ⟨vs,H1,I1,r,q⟩=>⟨I1.mG,?_⟩) he dm;exact FP M F hr hb hd hx I1 r q
end
def PK(X:Cx)(Yu:List Keyword)(t:TA):Prop:=
 ∀(pos:Pos) (pins:List (Addr×Obj)) (s:Shared) (σ:St) (H:Hp) (Q:List V->Hp->Prop),Inv X pins σ H s->t σ H Q->wpAny (model X.prog X.w) X.A (evalAll ((backToKw pos (keywordEach Yu X.env)).map (·.2))) (AP X pins σ Q) X.xe s
section
variable {X:Cx}{CX:Ae}{k:Nat}{f C:Addr}{fd:FuncData}{ps ks:List Str}{sp:Sp}{E:XK}{x m:Str}{p pos apos abj:Pos}{e o:Expr}{es:List Expr}{Yu:List Keyword}{te ta:TE}{t tk:TA}{nm:Option Str}
theorem Sx:PK X [] lZ:=λ_ _ _ _ H Q I h=>wpAny_evalAll_nil ⟨[],H,I,.nil,h⟩
theorem Jv(ha:PE X e te)(hr:PK X Yu t):PK X (⟨nm,e,abj⟩::Yu) (eB te t):=by
 intro pos pins s σ H Q I h;show wpAny _ _ (evalAll ((do let v <- eval e X.env;standAt pos;pure v)::(backToKw pos (keywordEach Yu X.env)).map (·.2))) _ _ s
 refine wpAny_evalAll_cons (abW (cv (ha pins s σ H _ I h) λu s1 ⟨x,H1,I1,r1,q1⟩=>abW (wpAny_standAt (ab0 ?_))));exact cv (hr pos pins s1 σ H1 _ I1 q1) λus s2 ⟨xs,H2,I2,r2,q2⟩=>⟨x::xs,H2,I2,.cons r1 r2,q2⟩
variable {g:List Value->List Value->List Value}{gV:List V->List V->List V}
end
structure aB(N P:List Str)(sc:Scope):Prop where
 kind:sc.kind=.function
 co:sc.isCoroutine=false
 gen:sc.isGenerator=false
 nd:N.Nodup
 pre:N.take P.length=P
 par:∀x∈P,sc.names.lookup x=some .local\/sc.names.lookup x=some .cell
 QD:∀y∈sc.names,y.2≠.free
theorem pQ{kindOf:Str->Option NameKind}{x:Str}:∀ {binds:List (Str×Value)} {m:Str->Option Value},(∀v,(x,v)∉binds)->bindL kindOf binds m x=m x
 | [],_,_=>rfl
 | (n,v)::r,m,h=>by
  unfold bindL;rw[pQ λw hw=>h w (ab1 _ hw)]
  split
  ·have:x≠n:=by rintro rfl;exact h v ab8
   simp [this]
  ·rfl
theorem pO{kindOf:Str->Option NameKind}{x:Str}:∀ {binds:List (Str×Value)} {m:Str->Option Value},(∀v,(x,v)∉binds)->bindC kindOf binds m x=m x
 | [],_,_=>rfl
 | (n,v)::r,m,h=>by
  unfold bindC;rw[pO λw hw=>h w (ab1 _ hw)]
  split
  ·rfl
  ·have:x≠n:=by rintro rfl;exact h v ab8
   simp [this]
theorem pP{kindOf:Str->Option NameKind}{x:Str}{v:Value}:∀ {P:List Str} {vs:List Value} {i:Nat} {m:Str->Option Value},P.Nodup->P[i]?=some x->vs[i]?=some v->kindOf x=some .local ->
  bindL kindOf (P.zip vs) m x=some v
 | [],_,_,_,_,h,_,_=>by simp at h
 | _::_,[],_,_,_,_,h,_=>by simp at h
 | p::P,w::vs,0,m,nd,h1,h2,hk=>by
  simp at h1 h2;subst h1;subst h2;show bindL kindOf ((p,w)::P.zip vs) m p=_;unfold bindL;rw[pQ λv hv=>(List.nodup_cons.mp nd).1 (List.of_mem_zip hv).1,if_pos hk];simp
 | p::P,w::vs,i+1,m,nd,h1,h2,hk=>by
  show bindL kindOf ((p,w)::P.zip vs) m x=_;unfold bindL;exact pP (i:=i) (List.nodup_cons.mp nd).2 (by simpa using h1) (by simpa using h2) hk
theorem pN{kindOf:Str->Option NameKind}{x:Str}{v:Value}:∀ {P:List Str} {vs:List Value} {i:Nat} {m:Str->Option Value},P.Nodup->P[i]?=some x->vs[i]?=some v->kindOf x≠some .local ->
  bindC kindOf (P.zip vs) m x=some v
 | [],_,_,_,_,h,_,_=>by simp at h
 | _::_,[],_,_,_,_,h,_=>by simp at h
 | p::P,w::vs,0,m,nd,h1,h2,hk=>by
  simp at h1 h2;subst h1;subst h2;show bindC kindOf ((p,w)::P.zip vs) m p=_;unfold bindC;rw[pO λv hv=>(List.nodup_cons.mp nd).1 (List.of_mem_zip hv).1,if_neg hk];simp
 | p::P,w::vs,i+1,m,nd,h1,h2,hk=>by
  show bindC kindOf ((p,w)::P.zip vs) m x=_;unfold bindC;exact pN (i:=i) (List.nodup_cons.mp nd).2 (by simpa using h1) (by simpa using h2) hk
def start(N:List Str)(vs:List V):St:=vs.map some++List.replicate (N.length-vs.length) none
def nJ(CX:Ae)(P:Program)(w:World)(K:ab4)(mg:Str->Option Value)(base:Heap)(N:List Str)(qual:Str)(scope:Scope)(f:Addr)(cd:Value)(A:Around)(outer:List Env)(s:Shared)(H:Hp)(E:XK):Cx where
 prog:=P
 w:=w
 K:=K
 mg:=mg
 base:=base
 A:=A.deeper (envOfC qual scope s.heap.objs.size f cd)
 N:=N
 c5:=s
 xh:=H
 env:=envOfC qual scope s.heap.objs.size f cd
 outer:=outer
 stack:=envOfC qual scope s.heap.objs.size f cd::outer
 ex:=[]
 calm:=true
 fn:=λ_=>true
 pn:=[]
 xe:=λe s'=>wpAny (model P w) (A.deeper (envOfC qual scope s.heap.objs.size f cd)) (leaving (envOfC qual scope s.heap.objs.size f cd) e) (λ_ ZU=>CX outer H s E e ZU) (λe' ZU=>CX outer H s E e' ZU) s'
theorem uy{sc:Scope}{n:Nat}{x:Str}(h:sc.names.lookup x=some .cell):∃c,(cellsFrom n sc.names []).lookup x=some c:=by
 have q:=PySem.W.cellsFrom_some sc.names n [] (.inl h);exact Option.isSome_iff_exists.mp q
theorem AI{CX:Ae}{P:Program}{w:World}{K:ab4}{mg:Str->Option Value}{base:Heap}{N ps:List Str}{qual:Str}{scope:Scope}{f:Addr}{cd:Value}{A:Around}{outer:List Env}{s s1:Shared}{H:Hp}{E:XK}{us:List Value}{vs:List V}
  (S:aB N ps scope) (hd:A.handled=none) (e0:xc P w K mg base A outer s H) (hl:vs.length=ps.length) (r:Vals vs us)
  (x:InCallC s s.heap.objs.size (bindL (envOfC qual scope s.heap.objs.size f cd).kindOf (ps.zip us) λ_=>none) (cellsFrom (s.heap.objs.size+1) scope.names []) (bindC (envOfC qual scope s.heap.objs.size f cd).kindOf (ps.zip us) λ_=>none) s1):
  Inv (nJ CX P w K mg base N qual scope f cd A outer s H E) [] (start N vs) H s1:=by
 have dm:ps.length<=N.length:=by have:=congrArg List.length S.pre;rw[List.length_take]at this;omega
 obtain⟨h1,tk,rfl,hk⟩:=x.done;have YF:∀b:Addr,b∉(nJ CX P w K mg base N qual scope f cd A outer s H E).ex:=λb z=>absurd (show b∈([]:List Addr)from z) (by simp)
 refine⟨⟨e0.mod,S.kind,rfl,rfl,ab3 _,λy z c h1 h2=>?_,λy hy=>?_,λy c _ h=>?_,λ_=>hd,Around.frames_deeper e0.frames,.inr ⟨rfl,rfl⟩,λb z=>absurd z (YF b),e0.bs,e0.Cg,λb _ _=>YF b,λb z=>absurd z (YF b),e0.lr,e0.Lg⟩,
  rfl,e0.bare,Un.kept hk,⟨_,x.toInCall.ns,λi y v h1 h2 h3=>?_⟩,λy c h=>⟨_,x.cell y c h⟩,e0.bG.fresh (ab3 _),λy c h=>?_,λp hp=>absurd (show p∈([]:List (Addr×Obj))from hp) (by simp),e0.bG.kept hk,?_⟩
 ·exact name_of_addr x.apart (PySem.mem_of_lookup h1) (PySem.mem_of_lookup h2)
 ·have hy:scope.names.lookup y=some .cell\/scope.names.lookup y=some .free:=hy
  rcases hy with hy|hy
  ·exact uy hy
  ·exact absurd rfl (S.QD _ (PySem.mem_of_lookup hy))
 ·exact Nat.le_of_lt (x.above y c (PySem.mem_of_lookup h))
 ·have hi:i<vs.length:=by
   unfold start at h2
   by_cases hi:i<vs.length
   ·exact hi
   ·rw[List.getElem?_append_right (by simpa using hi)]at h2
    rw[List.getElem?_replicate]at h2
    split at h2<;>cases h2
  have ha:vs[i]?=some v:=by
   unfold start at h2;rw[List.getElem?_append_left (by simpa using hi),acb]at h2
   cases e:vs[i]? with
   | none=>rw[e]at h2;cases h2
   | some a=>rw[e]at h2;cases h2;rfl
  obtain⟨u,hu,rv⟩:=r.get ha;have hp:ps[i]?=some y:=by
   rw[<- S.pre,List.getElem?_take_of_lt ⋯];exact h1
  have ndP:ps.Nodup:=by rw[<- S.pre];exact S.nd.sublist (List.take_sublist _ _)
  refine⟨u,rv,?_⟩;rcases S.par y (List.mem_of_getElem? hp)with k|k
  ·exact .inl ⟨k,pP ndP hp hu k⟩
  ·obtain⟨c,e⟩:=uy (n:=s.heap.objs.size+1) k
   refine .inr ⟨.inl k,c,e,?_⟩;have q:=x.cell y c e;rw[pN ndP hp hu (by show scope.names.lookup y≠_;rw[k];decide)]at q
   exact q
 ·exact e0.bG.fresh (Nat.le_of_lt (x.above y c (PySem.mem_of_lookup h)))
 ·unfold start
  show _=N.length;rw[List.length_append,abZ,List.length_replicate];omega
theorem XE{CX:Ae}{P:Program}{w:World}{K:ab4}{mg:Str->Option Value}{base:Heap}{k:Nat}{f:Addr}{name qual:Str}{params:Arguments}{body:List Stmt}{scope:Scope}{dV kV doc pm h9 ct oc:Value}{an od:Option Addr}
  {Ji:Array (Option Value)} {N ps:List Str} {sp:Sp} (lk:K.lookup f=some ⟨oc,od,.func (PySem.W.fnOf name qual params body scope dV kV doc pm an h9 ct),Ji⟩) (mY:PySem.W.codeIn K h9 qual=true) (S:aB N ps scope)
  (len:∀vs H Q E,sp vs H Q E->vs.length=ps.length)
  (Ec:∀(A:Around) (outer:List Env) (s:Shared) (H:Hp) (vs:List V) (Q:VK) (E:XK),d4 k (A.deeper (envOfC qual scope s.heap.objs.size f h9))->sp vs H Q E ->
   ∃t,qU (nJ CX P w K mg base N qual scope f h9 A outer s H E) body t/\t {nx:=λ_ H'=>Q .aQ H',rt:=Q} (start N vs) H):
  ck P w K mg base CX (k+1) f (PySem.W.fnOf name qual params body scope dV kV doc pm an h9 ct) ps sp:=by
 refine⟨len,λA outer s H args us vs Q E hr e0 hb r Ls=>?_⟩;have hl:=len _ _ _ _ Ls;have KX:K.In s.heap:=e0.mod.Ew.keeps λb o e=>(e0.bs b o e).1;have lim:s.heap.NoLimit:=e0.mod.nolimit.keeps λb o e=>(e0.bs b o e).1;have X1:∀y∈ps.zip us,scope.names.lookup y.1=some .local\/(scope.names.lookup y.1=some .cell/\((cellsFrom (s.heap.objs.size+1) scope.names []).lookup y.1).isSome=true):=λ⟨n,v⟩ hy=>by
  rcases S.par n (List.of_mem_zip hy).1 with q|q
  ·exact .inl q
  ·exact .inr ⟨q,PySem.W.cellsFrom_some _ _ _ (.inl q)⟩
 refine codeAny_call_function hr.depth (KX _ _ lk) rfl S.co S.gen rfl (PySem.W.codeRec_of KX mY) (hb _ _ _ _ ?_);refine wpAny_newFunctionEnv_cells S.kind X1 λenv he s1 x=>?_;subst he;refine⟨lim.keeps x.toInCall.keep,codeAny_func ?_⟩;obtain⟨t,ht,hq⟩:=Ec A outer s H vs Q E (hr.deeper _) Ls;have I:Inv (nJ CX P w K mg base N qual scope f h9 A outer s H E) [] (start N vs) H s1:=AI S hr.hd e0 hl r x;refine wpAny_mono (ht [] s1 (start N vs) H _ I hq) (λfl s' hs=>?_) λe s' hs=>hs;have fin:∀ {bZ:St} {H':Hp} {v:V} {u:Value},Inv (nJ CX P w K mg base N qual scope f h9 A outer s H E) [] bZ H' s'->RelV v u->Q v H'->CE outer P w H s Q u s':=
  λ{bZ H' v u} J rv q=>⟨v,H',J.os,J.bare,J.base,J.bG,rv,q⟩
 cases fl with
 | ret u =>
  obtain⟨v,bZ,H',J,rv,q⟩:=hs;exact fin J rv q
 | next =>
  obtain⟨bZ,H',J,q⟩:=hs;exact fin (v:=V.aQ) (u:=Value.none) J rfl q
 | brk =>
  obtain⟨_,_,_,q⟩:=hs;exact False.elim q
 | cont =>
  obtain⟨_,_,_,q⟩:=hs;exact False.elim q
end L2
namespace L2
open PySem PySem.Spec PyProof.Rows
section
variable {X:Cx}{x:Str}{p pos:Pos}{e:Expr}{es:List Expr}{t:TA}{id T:String}{r:List V->Hp->VK->Prop}
def tCB(r:List V->Hp->VK->Prop)(t:TA):TE:=λσ H Q=>t σ H λvs H1=>r vs H1 Q
theorem oB(hc:cR X (.builtin id) r)(hg:Gl X x)(hm:X.mg x=none)(hv:bootBuiltins x=some (.builtin id))(ha:PA X (e::es) t)(hn:x≠"__name__":=by decide)(jx:(x==("__debug__":Str))=false:=by decide)
  (he:ab7 (e::es) X.env=(false,eval e X.env)::ab7 es X.env:=by rfl) (dm:(backTo pos (ab7 es X.env)).any (·.1)=false:=by rfl):PE X (.Call (.Name x p) (e::es) [] pos) (tCB r t):=by
 intro pins s σ H Q I h;refine wpAny_Call_Name_kw (jd I hg hm hv ?_ hn jx);exact PyProof.Rows.callWith_builtin1 (cv (ha pos pins s σ H _ I h) λus s1 ⟨vs,H1,I1,r1,q1⟩=>hc pins s1 σ H1 vs us Q I1 r1 q1) he dm
theorem Ba(hc:cR X (.type T) r)(hg:Gl X x)(hm:X.mg x=none)(hv:bootBuiltins x=some (.type T))(ha:PA X (e::es) t)(hn:x≠"__name__":=by decide)(jx:(x==("__debug__":Str))=false:=by decide)
  (he:ab7 (e::es) X.env=(false,eval e X.env)::ab7 es X.env:=by rfl) (dm:(backTo pos (ab7 es X.env)).any (·.1)=false:=by rfl):PE X (.Call (.Name x p) (e::es) [] pos) (tCB r t):=by
 intro pins s σ H Q I h;refine wpAny_Call_Name_kw (jd I hg hm hv ?_ hn jx);exact PyProof.Rows.callWith_type1 (cv (ha pos pins s σ H _ I h) λus s1 ⟨vs,H1,I1,r1,q1⟩=>hc pins s1 σ H1 vs us Q I1 r1 q1) he dm
end
end L2
namespace HT
open PySem PyProof.Rows
def lexLt:List Int->List Int->Bool
 | [],[]=>false
 | [],_::_=>true
 | _::_,[]=>false
 | x::xs,y::ys=>if x=y then lexLt xs ys else decide (x<y)
theorem bT(x y:Int)(xs ys:List Int):lexLt (x::xs) (y::ys)=if x=y then lexLt xs ys else decide (x<y):=rfl
theorem pq:lexLt [] []=false:=rfl
theorem gP(y:Int)(ys:List Int):lexLt [] (y::ys)=true:=rfl
theorem gO(x:Int)(xs:List Int):lexLt (x::xs) []=false:=rfl
theorem Dy(A:Around)(s:Shared)(a:Int)(t:Tok)(c:Int)(u:Tok):∃e,SeqAt.EqAt A s (.int a t) (.int c u) e/\(e=true ↔ a=c):=
 ⟨(a==c),SeqAt.EqAt.int_int a t c u,by simp⟩
theorem FK(A:Around)(s:Shared)(a:Int)(t:Tok)(c:Int)(u:Tok)(prog:Program)(w:World)(E:Value->Shared->Prop)(Q:Value->Shared->Prop)(h:Q (.bool (decide (a<c))) s):
  wpAny (model prog w) A (richCompare .Lt (.int a t) (.int c u)) Q E s:=
 (PyProof.Rows.lt_int h:wpAny (model prog w) A (compareOp .Lt (.int a t) (.int c u)) Q E s)
section
open PySem.SeqAt
open PySem.AutoSeq1 (wpAny_loadPart')
open PySem.MeetsSeq PySem.MeetsSeq2 PySem.MeetsSeq3
theorem pG(l b:Addr)(items eV:Array Value)(n n2:Nat)(dd Vi:Option Addr)(sl VD:Array (Option Value))(ns ms:List Int)(hi:IntsAre items.toList ns)(hj:IntsAre eV.toList ms):
  Meets (Builtin.«tuple.__lt__» ⟨[.ref l,.ref b],[]⟩)
   (λ_ R s=>s.heap.get? l=some {cls:=.type "tuple",dict:=dd,data:=.seq items n,slots:=sl}/\s.heap.get? b=some {cls:=.type "tuple",dict:=Vi,data:=.seq eV n2,slots:=VD} /\
    R (.ok (.ret (.bool (lexLt ns ms)))) s):=
 .of_wp λprog w A R s h=>by
  obtain⟨hp,g,d,tk,os⟩:=s;obtain⟨hl,hb,h⟩:=h;have f2:=AutoSeq1.sub_tuple_tuple;have z1:items.size=ns.length:=by rw[<- hi.length];simp
  have z2:eV.size=ms.length:=by rw[<- hj.length];simp
  wp_walk using wpAny_loadPart' hl,wpAny_loadPart' hb,wpAny_forIn_list _ (λrest b s'=>b.1=none/\s'=⟨hp,g,d,tk,os⟩/\∃(vs ws:List Value) (VC Hj:List Int),rest=vs.zip ws /\
   IntsAre vs VC/\IntsAre ws Hj/\VC.length+eV.size=Hj.length+items.size/\R (.ok (.ret (.bool (lexLt VC Hj)))) ⟨hp,g,d,tk,os⟩) _
  case turn =>
   rintro⟨y,x⟩ rest b s' ⟨Li,rfl,vs,ws,VC,Hj,hz,hvi,hwi,hlen,hR⟩;cases hvi with
   | nil=>rw[List.zip_nil_left]at hz;cases hz
   | cons a t abd =>
    cases hwi with
    | nil=>rw[List.zip_nil_right]at hz;cases hz
    | cons c u abe =>
     rw[List.zip_cons_cons]at hz
     injection hz with hyx X9
     injection hyx with hy hx
     subst hy hx;rw[bT]at hR;simp only[List.length_cons]at hlen;obtain⟨e,he,XX⟩:=Dy A.in1 ⟨hp,g,d,tk,os⟩ a t c u;refine abW (he prog w _ _ ?_);cases e with
     | true =>
      rw[if_pos (XX.mp rfl)]at hR
      wp_walk
      exact⟨rfl,rfl,_,_,_,_,X9,abd,abe,by omega,hR⟩
     | false =>
      rw[if_neg (λq=>absurd (XX.mpr q) Bool.false_ne_true)]at hR;have hri:=FK A.in1 ⟨hp,g,d,tk,os⟩ a t c u prog w
      wp_walk using hri
      exact⟨_,rfl,by simpa using hR⟩
  case fin =>
   rintro⟨b1,b2⟩ s' ⟨Li,rfl,vs,ws,VC,Hj,hz,hvi,hwi,hlen,hR⟩;simp only at Li;subst Li;have hv:lexLt VC Hj=decide (items.size<eV.size):=by
    cases hvi with
    | nil =>
     cases hwi with
     | nil =>
      simp only[List.length_nil]at hlen;rw[pq];exact(decide_eq_false ⋯).symm
     | cons c u hw =>
      simp only[List.length_nil,List.length_cons]at hlen;rw[gP];exact(decide_eq_true ⋯).symm
    | cons a t hv =>
     cases hwi with
     | nil =>
      simp only[List.length_nil,List.length_cons]at hlen;rw[gO];exact(decide_eq_false ⋯).symm
     | cons c u hw =>
      rw[List.zip_cons_cons]at hz;cases hz
   rw[hv]at hR
   wp_walk
   exact⟨_,rfl,by simpa [Builtin.Tuple.tupleCompareSizes]using hR⟩
  case h =>
   exact⟨rfl,rfl,items.toList,eV.toList,ns,ms,rfl,hi,hj,by omega,h⟩
end
section
variable {prog:Program}{w:World}{A:Around}{E:Value->Shared->Prop}{s:Shared}
theorem xO{l b:Addr}{items eV:Array Value}{ns ms:List Int}{Q:Value->Shared->Prop}(hl:IsTup s.heap l items)(hb:IsTup s.heap b eV)(hi:IntsAre items.toList ns)(hj:IntsAre eV.toList ms)
  (hu:A.units<cLine) (h:Q (.bool (lexLt ns ms)) s):wpAny (model prog w) A (compareOp .Lt (.ref l) (.ref b)) Q E s:=by
 obtain⟨⟨cls,dd,data,sl⟩,ho,hc,n,hd⟩:=id hl;obtain⟨⟨aaE,Vi,data2,VD⟩,Ij,Hb,n2,hd2⟩:=id hb;simp only at hc hd Hb hd2;subst hc hd Hb hd2;exact richCompare_meets_room (op:=.Lt) ⟨_,ho,rfl⟩ ⟨_,Ij,rfl⟩ PySem.F.slot_tuple_lt PySem.F.entry_tuple_lt (PySem.F.args_tuple_lt_2 _ _) (pG l b items eV n n2 dd Vi sl VD ns ms hi hj)
  ⟨ho,Ij,show Value.bool (lexLt ns ms)≠Value.notImplemented/\Q (.bool (lexLt ns ms)) s from⟨(λx=>nomatch x),h⟩⟩ hu
theorem HE{t b:Addr}{vs ws:List Value}{Q:Value->Shared->Prop}(ht:IsTup s.heap t vs.toArray)(hb:IsTup s.heap b ws.toArray)(hv:vs≠[])
  (h1:ws=[]->Q (.ref t) s) (h2:ws≠[]->Q (.ref s.heap.objs.size) {s with heap:=s.heap.push {cls:=.type "tuple",data:=.seq (vs++ws).toArray}})
  (hsz:vs.length+ws.length<=aca):wpAny (model prog w) A (binaryOp .Add (.ref t) (.ref b)) Q E s:=by
 obtain⟨⟨cls,dd,data,sl⟩,ho,hc,n,hd⟩:=id ht;obtain⟨⟨aaE,Vi,data2,VD⟩,Ij,Hb,n2,hd2⟩:=id hb;simp only at hc hd Hb hd2;subst hc hd Hb hd2;have e:vs.toArray++ws.toArray=(vs++ws).toArray:=by simp
 by_cases hw:ws=[]
 ·exact concat_meets ⟨_,ho,rfl⟩ ⟨_,Ij,rfl⟩ noFill_tuple_add seq_tuple_add PySem.F.slot_tuple_add PySem.F.entry_tuple_add (PySem.F.args_tuple_add_2 _ _)
   (tuple_addW1 t b vs.toArray ws.toArray n n2 dd Vi sl VD (by simpa using hv) (by simp [hw])) ⟨ho,Ij,h1 hw⟩
 ·refine concat_meets ⟨_,ho,rfl⟩ ⟨_,Ij,rfl⟩ noFill_tuple_add seq_tuple_add PySem.F.slot_tuple_add PySem.F.entry_tuple_add (PySem.F.args_tuple_add_2 _ _)
   (tuple_addW2 t b vs.toArray ws.toArray n n2 dd Vi sl VD (by simpa using hv) (by simpa using hw) (by rw[acg,acg];exact hsz)) ⟨ho,Ij,?_⟩
  rw[e];exact h2 hw
def dz(n d:Nat):Option Int->Nat
 | none=>d
 | some v=>if v<0 then(v+(n:Int)).toNat else min v.toNat n
theorem Ti(n d:Nat)(hd:d<=n)(o:Option Int):dz n d o<=n:=by
 cases o with
 | none=>exact hd
 | some v =>
  show(if v<0 then(v+(n:Int)).toNat else min v.toNat n)<=n
  by_cases hv:v<0
  ·rw[if_pos hv];omega
  ·rw[if_neg hv];exact Nat.min_le_right _ _
theorem yR(v:Int)(n d:Nat):(if v<0 then max (v+(n:Int)) 0 else min v (n:Int))=((dz n d (some v):Nat):Int):=by
 show(if v<0 then max (v+(n:Int)) 0 else min v (n:Int))=(((if v<0 then(v+(n:Int)).toNat else min v.toNat n):Nat):Int)
 by_cases hv:v<0
 ·simp only[if_pos hv];omega
 ·simp only[if_neg hv];omega
theorem xl(lo hi:Option Int)(n:Nat):Builtin.Slice.sliceAdjust lo hi 1 (n:Int)=(((dz n 0 lo:Nat):Int),((dz n n hi:Nat):Int)):=by
 have h1:¬((1:Int)<0):=by omega
 unfold Builtin.Slice.sliceAdjust;simp only[h1,if_false];refine Prod.ext ?_ ?_
 ·cases lo with
  | none=>rfl
  | some v=>exact yR v n 0
 ·cases hi with
  | none=>rfl
  | some v=>exact yR v n n
theorem xZ(i j:Nat):Builtin.Slice.slicePlaces (i:Int) (j:Int) 1=j-i:=by
 unfold Builtin.Slice.slicePlaces;have h1:(1:Int)>0:=by omega
 simp only[h1,if_true,Int.ediv_one]
 split<;>omega
theorem oI{v:Value}{o:Option Int}{Q:Option Int->Shared->Prop}(p:IsPart v o)(h:Q o s):wpAny (model prog w) A (Builtin.Slice.slicePartIndex v) Q E s:=by
 cases p with
 | none=>exact slicePart_none h
 | int i t=>exact slicePart_int h
theorem lQ{sl:Addr}{vl vu:Value}{lo hi:Option Int}{n:Nat}{Q:Int×Int×Nat->Shared->Prop}(hs:s.heap.IsSliceOf sl vl vu .none)(pl:IsPart vl lo)(pu:IsPart vu hi)
  (h:Q (((dz n 0 lo:Nat):Int),1,dz n n hi-dz n 0 lo) s):wpAny (model prog w) A (Builtin.Slice.sliceApplied (.ref sl) (pure (n:Int))) Q E s:=by
 obtain⟨os,X6,hcs,hds⟩:=id hs;unfold Builtin.Slice.sliceApplied Builtin.Slice.sliceFields;refine abW (abW (wpAny_field X6 hds (x:=vl) rfl (abW (wpAny_field X6 hds (x:=vu) rfl (abW (wpAny_field X6 hds (x:=.none) rfl (ab0 ?_)))))));refine abW (slicePart_none ?_);show wpAny _ _ (if((1:Int)==0)=true then _ else _) _ _ s
 rw[if_neg ∅]
 refine abW (oI pl (abW (oI pu (abW (ab0 ?_)))));show wpAny _ _ (match Builtin.Slice.sliceAdjust lo hi 1 (n:Int)with | (lo,hi)=>pure (lo,(1:Int),Builtin.Slice.slicePlaces lo hi 1)) _ _ s
 rw[xl lo hi n];show wpAny _ _ (pure (((dz n 0 lo:Nat):Int),(1:Int),Builtin.Slice.slicePlaces ((dz n 0 lo:Nat):Int) ((dz n n hi:Nat):Int) 1)) _ _ s;rw[xZ];exact ab0 h
theorem Fl(xs:Array Value)(i k:Nat):((List.range k).filterMap λ(m:Nat)=>xs[((i:Int)+(m:Int)*1).toNat]?).toArray=((xs.toList.drop i).take k).toArray:=by
 have e:(λ(m:Nat)=>xs[((i:Int)+(m:Int)*1).toNat]?)=λm=>xs[i+m]?:=by
  funext m;have:((i:Int)+(m:Int)*1).toNat=i+m:=by omega
  rw[this]
 rw[e];have:=pick_run xs i k;rw[List.filterMap_map]at this;have e2:((λx=>xs[x]?) ∘ λx=>i+x)=λm=>xs[i+m]?:=rfl;rw[e2]at this;rw[this]
theorem jw{t sl:Addr}{items:Array Value}{vl vu:Value}{lo hi:Option Int}{Q:Value->Shared->Prop}(ht:IsTup s.heap t items)(hs:s.heap.IsSliceOf sl vl vu .none)(pl:IsPart vl lo)(pu:IsPart vu hi)
  (hw:¬(dz items.size 0 lo=0/\dz items.size items.size hi=items.size))
  (h:Q (.ref s.heap.objs.size) {s with heap:=s.heap.push {cls:=.type "tuple",data:=.seq ((items.toList.drop (dz items.size 0 lo)).take (dz items.size items.size hi-dz items.size 0 lo)).toArray}})
  (hsz:items.size<=aca):wpAny (model prog w) A (getItem (.ref t) (.ref sl)) Q E s:=by
 have zb:sizeOk (.seq ((items.toList.drop (dz items.size 0 lo)).take (dz items.size items.size hi-dz items.size 0 lo)).toArray):=by
  show((items.toList.drop (dz items.size 0 lo)).take (dz items.size items.size hi-dz items.size 0 lo)).toArray.size<=aca;rw[acg,List.length_take,List.length_drop,Array.length_toList];omega
 have hj:dz items.size items.size hi<=items.size:=Ti _ _ (ab3 _) hi;obtain⟨os,X6,hcs,hds⟩:=id hs;have hTs:s.TypeIs (.ref sl) "slice":=⟨os,X6,hcs⟩;unfold getItem
 try with_reducible refine wpAny_holding ?_
 first|refine abW (ab0 ?_)|skip
 refine abW (wpAny_sequenceKey ht.typeIs ∅ ?_)
 refine abW (wpAny_callSpecial?_slot (name:=Str.ofString "__getitem__") ht.typeIs PyProof.Rows.slot_tuple_getitem
  (wpAny_call_entry PyProof.Rows.slot_tuple_getitem ht.typeIs entry_tuple_getitem ?_ (args_tuple_getitem _ _)))
 show wpAny _ _ (Builtin.Tuple.tupleItemsOf (.ref t) >>= _) _ _ s;refine abW (tupleItemsOf_ ht ?_);refine abW (wpAny_typeOf hTs ?_);rw[if_pos ∅]
 refine abW (lQ hs pl pu ?_);have Pk:¬((((dz items.size 0 lo:Nat):Int)==0&&(1:Int)==1&&(dz items.size items.size hi-dz items.size 0 lo)==items.size)=true):=by
  intro q;rw[Bool.and_eq_true,Bool.and_eq_true]at q;have q1:((dz items.size 0 lo:Nat):Int)=0:=eq_of_beq q.1.1;have q2:dz items.size items.size hi-dz items.size 0 lo=items.size:=eq_of_beq q.2;exact hw ⟨by omega,by omega⟩
 show wpAny _ _ (if(((dz items.size 0 lo:Nat):Int)==0&&(1:Int)==1&&(dz items.size items.size hi-dz items.size 0 lo)==items.size)=true then _ else _) _ _ s
 rw[if_neg Pk,Fl]
 first
  | exact abW (m:=Builtin.Tuple.tupleExact _) (wpAny_newObj_type (ab0 ⟨_,rfl,ab0 h⟩) zb)
  | exact abW (m:=Builtin.Tuple.tupleExact _) (wpAny_newObj_type (abW (ab0 (ab0 ⟨_,rfl,ab0 h⟩))) zb)
  | exact abW (abW (m:=Builtin.Tuple.tupleExact _) (wpAny_newObj_type (ab0 (ab0 ⟨_,rfl,ab0 h⟩)) zb))
  | exact abW (abW (m:=Builtin.Tuple.tupleExact _) (wpAny_newObj_type (ab0 ⟨_,rfl,ab0 h⟩) zb))
end
end HT
namespace L2
open PySem PySem.Spec PyProof.Rows
abbrev TO:=St->Hp->(Option Int->Hp->Prop)->Prop
def PO(X:Cx)(e:Option Expr)(t:TO):Prop:=
 ∀(pins:List (Addr×Obj)) (s:Shared) (σ:St) (H:Hp) (Q:Option Int->Hp->Prop),Inv X pins σ H s->t σ H Q ->
  wpAny (model X.prog X.w) X.A (evalPart e X.env) (λu s'=>∃o H',Inv X pins σ H' s'/\IsPart u o/\Q o H') X.xe s
def J0:TO:=λ_ H Q=>Q none H
def aar(t:TE):TO:=λσ H Q=>t σ H λx H1=>∃i,x=.int i/\Q (some i) H1
theorem intsAre_of{ns:List Int}:∀ {us:List Value},Vals (ns.map V.int) us->IntsAre us ns:=by
 induction ns with
 | nil=>intro us r;rw[List.map_nil]at r;cases r;exact .nil
 | cons n ns ih =>
  intro us r;rw[List.map_cons]at r;cases r with
  | cons r1 r2 =>
   obtain⟨t,e⟩:=r1;subst e;exact .cons n t (ih r2)
section
variable {X:Cx}{e:Expr}{te:TE}{lo hi:Option Expr}{tl th:TO}{pos p2:Pos}
theorem Jw:PO X none J0:=by
 intro pins s σ H Q I h;rw[evalPart_none];exact ab0 ⟨none,H,I,.none,h⟩
theorem Jx(h:PE X e te):PO X (some e) (aar te):=by
 intro pins s σ H Q I hw;rw[evalPart_some];refine cv (h pins s σ H _ I hw) λu s1 ⟨x,H1,I1,r1,q1⟩=>?_;obtain⟨i,rfl,q⟩:=q1;obtain⟨t,rfl⟩:=r1;exact⟨some i,H1,I1,.int i t,q⟩
def KZ(X:Cx)(r:V->Option Int->Option Int->Hp->VK->Prop):Prop:=
 ∀(pins:List (Addr×Obj)) (s:Shared) (σ:St) (H:Hp) (x:V) (v vl vu:Value) (lo hi:Option Int) (sl:Addr) (Q:VK),Inv X pins σ H s->RelV x v->s.heap.IsSliceOf sl vl vu .none->IsPart vl lo->IsPart vu hi->r x lo hi H Q ->
  ∃T id,typeLookup (.type T) "__getitem__"=pure (some (.builtin id))/\s.TypeIs v T/\wpAny (model X.prog X.w) X.A (getItem v (.ref sl)) (EP X pins σ Q) X.xe s
theorem KZ.or{r r':V->Option Int->Option Int->Hp->VK->Prop}(h:KZ X r)(h':KZ X r'):KZ X (λx lo hi H Q=>r x lo hi H Q\/r' x lo hi H Q):=by
 intro pins s σ H x v vl vu lo hi sl Q I rx hs pl pu q;rcases q with q|q
 ·exact h pins s σ H x v vl vu lo hi sl Q I rx hs pl pu q
 ·exact h' pins s σ H x v vl vu lo hi sl Q I rx hs pl pu q
def tSl(r:V->Option Int->Option Int->Hp->VK->Prop)(te:TE)(tl th:TO):TE:=λσ H Q=>te σ H λx H1=>tl σ H1 λl H2=>th σ H2 λu H3=>r x l u H3 Q
theorem Fe{r:V->Option Int->Option Int->Hp->VK->Prop}(hr:KZ X r)(he:PE X e te)(hl:PO X lo tl)(hu:PO X hi th):PE X (.Subscript e (.Slice lo hi none p2) pos) (tSl r te tl th):=by
 intro pins s σ H Q I h;refine Subscript_ (cv (he pins s σ H _ I h) λv s1 ⟨x,H1,I1,r1,q1⟩=>?_);refine wpAny_Slice (cv (hl pins s1 σ H1 _ I1 q1) λvl s2 ⟨l,H2,I2,pl,q2⟩=>cv (hu pins s2 σ H2 _ I2 q2) λvu s3 ⟨u,H3,I3,pu,q3⟩=>?_);rw[evalPart_none];refine ab0 ?_;have I4:Inv X pins σ H3 {s3 with heap:=s3.heap.push {cls:=.type "slice",data:=.fields #[vl,vu,.none]}}:=I3.kept (t':=s3.toks) λb ob q=>abX _ q
 obtain⟨T,id,hT,ht,hg⟩:=hr pins {s3 with heap:=s3.heap.push {cls:=.type "slice",data:=.fields #[vl,vu,.none]}} σ H3 x v vl vu l u s3.heap.objs.size Q I4 r1 (Heap.IsSliceOf.new ..) pl pu q3
 show wpAny (model X.prog X.w) X.A (subscriptTail e (.Slice lo hi none p2) v (.ref s3.heap.objs.size)) (EP X pins σ Q) X.xe {s3 with heap:=s3.heap.push {cls:=.type "slice",data:=.fields #[vl,vu,.none]}}
 exact tail_any (ops:=[.ref s3.heap.objs.size,v]) ht hT hg (by with_unfolding_all rfl)
def uD(xs:List V)(lo hi:Option Int):List V:=(xs.drop (HT.dz xs.length 0 lo)).take (HT.dz xs.length xs.length hi-HT.dz xs.length 0 lo)
theorem mB(xs:List V)(lo hi:Option Int):(uD xs lo hi).length<=xs.length:=by
 unfold uD;rw[List.length_take,List.length_drop];omega
def abz(K:ab4):V->Option Int->Option Int->Hp->VK->Prop:=λx lo hi H Q=>∃a xs,x=.ref a/\k6 K H a xs /\
 ¬(HT.dz xs.length 0 lo=0/\HT.dz xs.length xs.length hi=xs.length)/\∀p,H p=none->Q (.ref p) (upd H p (.tup (uD xs lo hi)))
theorem UC:KZ X (abz X.K):=by
 intro pins s σ H x v vl vu lo hi sl Q I rx hs pl pu h;obtain⟨a,xs,rfl,hx,hw,q⟩:=h;cases rx;obtain⟨its,r,ht,hz⟩:=I.tuple hx;have hlen:its.toArray.size=xs.length:=by rw[acg];exact r.length.symm
 refine⟨"tuple",_,PyProof.Rows.slot_tuple_getitem.lookup,ht.typeIs,?_⟩;refine HT.jw ht hs pl pu (by rw[hlen];exact hw) ?_ (by rw[hlen];exact hz)
 rw[hlen];refine⟨.ref s.heap.objs.size,_,I.laid (t':=s.toks) (o:=.tup (uD xs lo hi)) (λb ob q=>abX _ q) (ab3 _) ?_,rfl,q _ (I.bG.fresh (ab3 _))⟩;exact⟨Nat.le_trans (mB xs lo hi) hz,_,(r.drop (HT.dz xs.length 0 lo)).take (HT.dz xs.length xs.length hi-HT.dz xs.length 0 lo),IsTup.new _ _⟩
def LL(K:ab4):R2:=λx y H Q=>∃a b xs ys,x=.ref a/\y=.ref b/\k6 K H a xs/\k6 K H b ys/\xs≠[]/\xs.length+ys.length<=aca /\
 (ys=[]->Q (.ref a) H)/\(ys≠[]->∀p,H p=none->Q (.ref p) (upd H p (.tup (xs++ys))))
theorem Vals.sg{xs:List V}{us:List Value}(r:Vals xs us):us=[] ↔ xs=[]:=by
 cases r with
 | nil=>simp
 | cons _ _=>simp
theorem Jg:hW X (binaryOp .Add) (LL X.K):=by
 intro pins s σ H x y v u Q I rx ry h;obtain⟨a,b,xs,ys,rfl,rfl,ha,hb,hx,hz,q1,q2⟩:=h;cases rx;cases ry;obtain⟨its,r1,p1,_⟩:=I.tuple ha;obtain⟨vC,r2,p2,_⟩:=I.tuple hb;refine HT.HE p1 p2 (λz=>hx (r1.sg.mp z)) (λz=>⟨.ref a,H,I,rfl,q1 (r2.sg.mp z)⟩) (λz=>?_) (by rw[<- r1.length,<- r2.length];exact hz)
 refine⟨.ref s.heap.objs.size,_,I.laid (t':=s.toks) (o:=.tup (xs++ys)) (λb ob q=>abX _ q) (ab3 _) ?_,rfl,q2 (λw=>z (r2.sg.mpr w)) _ (I.bG.fresh (ab3 _))⟩;exact⟨by rw[List.length_append];exact hz,_,r1.append r2,IsTup.new _ _⟩
end
end L2
namespace L2
open PySem PySem.Spec PyProof.Rows
def zk(n:Nat)(i:Int):Option Nat:=if 0<=i then(if i<n then some i.toNat else none)else if -(n:Int)<=i then some (i+n).toNat else none
def mX{α:Type}(xs:List α)(i:Int):Option α:=(zk xs.length i).bind λj=>xs[j]?
theorem zl{n:Nat}{i:Int}{j:Nat}(h:zk n i=some j):seqIndex? i n=some j/\j<n/\-(n:Int)<=i/\i<n:=by
 unfold zk at h
 by_cases h0:0<=i
 ·rw[if_pos h0]at h
  by_cases h1:i<n
  ·rw[if_pos h1]at h
   have e:i.toNat=j:=Option.some.inj h;exact⟨by rw[seqIndex_of h0 h1,e],by omega,by omega,h1⟩
  ·rw[if_neg h1]at h;cases h
 ·rw[if_neg h0]at h
  by_cases h1:-(n:Int)<=i
  ·rw[if_pos h1]at h
   have e:(i+n).toNat=j:=Option.some.inj h;exact⟨by rw[seqIndex_neg ⋯ h1,e],by omega,h1,by omega⟩
  ·rw[if_neg h1]at h;cases h
theorem qZ{α:Type}{xs:List α}{i:Int}{v:α}(h:mX xs i=some v):∃j,seqIndex? i xs.length=some j/\xs[j]?=some v/\j<xs.length/\-(xs.length:Int)<=i/\i<xs.length:=by
 unfold mX at h;cases e:zk xs.length i with
 | none=>rw[e]at h;cases h
 | some j =>
  rw[e]at h;obtain⟨h1,h2,h3,h4⟩:=zl e;exact⟨j,h1,h,h2,h3,h4⟩
def yI(b:Expr):Prop:=∀o i,subscripted b false o i=operate [o,i] (getItem o i)
def Hs(X:Cx)(r:R2):Prop:=
 ∀(value slice:Expr) (pins:List (Addr×Obj)) (s:Shared) (σ:St) (H:Hp) (x y:V) (v u:Value) (Q:VK),Inv X pins σ H s->RelV x v->RelV y u->r x y H Q ->
  subscripted slice false v u=operate [v,u] (getItem v u)->wpAny (model X.prog X.w) X.A (subscriptTail value slice v u) (EP X pins σ Q) X.xe s
def MtR(X:Cx)(id:String)(r:V->List V->Hp->VK->Prop):Prop:=
 ∀(pins:List (Addr×Obj)) (s:Shared) (σ:St) (H:Hp) (x:V) (xs:List V) (v:Value) (us:List Value) (Q:VK),Inv X pins σ H s->RelV x v->Vals xs us->r x xs H Q ->
  wpAny (model X.prog X.w) X.A (call (.builtin id) (v::us)) (EP X pins σ Q) X.xe s
section
variable {X:Cx}{a b:Expr}{ta tb:TE}{pos:Pos}
theorem Hs.or{r r':R2}(h:Hs X r)(h':Hs X r'):Hs X (λx y H Q=>r x y H Q\/r' x y H Q):=by
 intro value slice pins s σ H x y v u Q I rx ry q hs;rcases q with q|q
 ·exact h value slice pins s σ H x y v u Q I rx ry q hs
 ·exact h' value slice pins s σ H x y v u Q I rx ry q hs
theorem Zv{r:R2}(hr:Hs X r)(ha:PE X a ta)(hb:PE X b tb)(hs:yI b):PE X (.Subscript a b pos) (UJ r ta tb):=by
 intro pins s σ H Q I h;exact Subscript_ (MS ha hb I h λv u s2 x y H2 I2 rx ry q=>hr a b pins s2 σ H2 x y v u Q I2 rx ry q (hs _ _))
def ZN(K:ab4):R2:=λx y H Q=>∃p xs i v,x=.ref p/\y=.int i/\f7 K H p xs/\mX xs i=some v/\Q v H
def ZP(K:ab4):R2:=λx y H Q=>∃p xs i v,x=.ref p/\y=.int i/\k6 K H p xs/\mX xs i=some v/\Q v H
def ZO:R2:=λx y H Q=>∃z i c,x=.str z/\y=.int i/\z.length<=aca/\mX z.cps.toList i=some c/\Q (.str ⟨#[c]⟩) H
theorem IA:Hs X (ZN X.K):=by
 intro value slice pins s σ H x y v u Q I rx ry h hs;obtain⟨p,xs,i,z,rfl,rfl,hq,he,q⟩:=h;cases rx;obtain⟨t,rfl⟩:=ry;obtain⟨its,r,pl,hz⟩:=I.list hq;obtain⟨j,h1,h2,h3,h4,h5⟩:=qZ he;obtain⟨w,ew,w8⟩:=r.get h2;have hl:=r.length;have hn:=je;have fin:EP X pins σ Q w s:=⟨z,H,I,w8,q⟩
 by_cases h0:0<=i
 ·have hj:i.toNat=j:=by
   rw[seqIndex_of h0 h5]at h1;exact Option.some.inj h1
  exact item_listR pl.isList h0 ⋯ (by rw[hj];simpa using ew) fin hs
 ·have hj:(i+(its.toArray.size:Int)).toNat=j:=by
   rw[seqIndex_neg ⋯ h4]at h1
   rw[acg,<- hl];exact Option.some.inj h1
  exact subscriptTail_builtinR (x:=w) pl.isList.typeIs slot_list_getitem.lookup
   (wpAny_getItem_list_neg (Q:=λr s'=>r=w/\EP X pins σ Q r s') pl.isList ⋯ (by rw[acg]<;>omega) ⋯ (by rw[hj];simpa using ew) ⟨rfl,fin⟩) hs
theorem PL:Hs X (ZP X.K):=by
 intro value slice pins s σ H x y v u Q I rx ry h hs;obtain⟨p,xs,i,z,rfl,rfl,hq,he,q⟩:=h;cases rx;obtain⟨t,rfl⟩:=ry;obtain⟨its,r,pl,hz⟩:=I.tuple hq;obtain⟨j,h1,h2,h3,h4,h5⟩:=qZ he;obtain⟨w,ew,w8⟩:=r.get h2;have hl:=r.length;have hn:=je;have fin:EP X pins σ Q w s:=⟨z,H,I,w8,q⟩;exact subscriptTail_builtinR (x:=w) pl.typeIs slot_tuple_getitem.lookup
  (getItem_tuple (j:=j) (Q:=λr s'=>r=w/\EP X pins σ Q r s') pl ⋯ ⋯ (by rw[acg,<- hl];exact h1) (by simpa using ew) ⟨rfl,fin⟩) hs
theorem PJ:Hs X ZO:=by
 intro value slice pins s σ H x y v u Q I rx ry h hs;obtain⟨z,i,c,rfl,rfl,hz,he,q⟩:=h;obtain⟨t,rfl⟩:=rx;obtain⟨t',rfl⟩:=ry;obtain⟨j,h1,h2,h3,h4,h5⟩:=qZ he;have hl:z.cps.toList.length=z.length:=by simp [Str.length]
 rw[hl]at h1 h4 h5;have hn:=je;exact tail_any (typeIs_str s z t) slot_str_getitem.lookup (getItem_str (c:=c) (by
  have e1:decide (i < -(2^63:Int))=false:=decide_eq_false ⋯
  have e2:decide (i>=2^63)=false:=decide_eq_false ⋯
  rw[e1,e2,Bool.or_false]) (by rw[h1];simpa using h2) ⟨.str ⟨#[c]⟩,H,I.tok _,⟨_,rfl⟩,q⟩) hs
def rIx(K:ab4):R2:=λx y H Q=>ZN K x y H Q\/ZP K x y H Q\/ZO x y H Q
theorem PF:Hs X (rIx X.K):=IA.or (PL.or PJ)
theorem xR(its:List Value)(n j:Nat)(u:Value):Obj.mapSeq (·.setIfInBounds j u) {cls:=.type "list",data:=.seq its.toArray n}={cls:=.type "list",data:=.seq (its.set j u).toArray n}:=by
 simp [Obj.mapSeq]
theorem Inv.lst{pins:List (Addr×Obj)}{σ:St}{H:Hp}{s:Shared}{p:Addr}{xs:List V}(I:Inv X pins σ H s)(h:H p=some (.lst xs)):
  ∃(its:List Value) (n:Nat),Vals xs its/\s.heap.get? p=some {cls:=.type "list",data:=.seq its.toArray n}/\xs.length<=aca:=by
 obtain⟨z,its,n,r,e⟩:=I.bG p _ h;exact⟨its,n,r,e,z⟩
theorem Inv.Qy{pins:List (Addr×Obj)}{σ:St}{H:Hp}{s:Shared}{p:Addr}{xs ys:List V}{its its':List Value}{n n':Nat}{f:Obj->Obj}(I:Inv X pins σ H s)(h:H p=some (.lst xs))
  (ho:s.heap.get? p=some {cls:=.type "list",data:=.seq its.toArray n}) (hf:f {cls:=.type "list",data:=.seq its.toArray n}={cls:=.type "list",data:=.seq its'.toArray n'}) (r:Vals ys its') (hz:ys.length<=aca) (t:Nat):
  Inv X pins σ (upd H p (.lst ys)) {s with heap:=s.heap.update p f,toks:=t}:=by
 have e:(s.heap.update p f).get? p=some {cls:=.type "list",data:=.seq its'.toArray n'}:=by
  rw[Heap.get?_update_self f ho (by rw[hf]<;>rfl),hf]
 refine I.write (x:=p) (e:=p) (by rw[h];trivial) (.inl rfl) (λb u hb q=>(Heap.get?_update_other _ _ (Ne.symm hb)).trans q) ⟨_,e⟩ ?_
 exact⟨hz,its',n',r,e⟩
def ZR:V->V->V->Hp->(Hp->Prop)->Prop:=λo i v H Q=>∃p xs k j,o=.ref p/\i=.int k/\H p=some (.lst xs)/\zk xs.length k=some j/\Q (upd H p (.lst (xs.set j v)))
theorem set_list:V2 X ZR:=by
 intro pins s σ H o i v ov iv u Q I ro ri rv h;obtain⟨p,xs,k,j,rfl,rfl,hp,hj,q⟩:=h;cases ro;obtain⟨t,rfl⟩:=ri;obtain⟨its,n,r,ho,hz⟩:=I.lst hp;obtain⟨h1,h2,h3,h4⟩:=zl hj;have hl:=r.length;have hn:=je;have I':Inv X pins σ (upd H p (.lst (xs.set j v))) {s with heap:=s.heap.update p (Obj.mapSeq (·.setIfInBounds j u))}:=
  I.Qy hp ho (xR its n j u) (r.set rv j) (by rw[List.length_set];exact hz) s.toks
 by_cases h0:0<=k
 ·have hk:k.toNat=j:=by
   rw[seqIndex_of h0 h4]at h1;exact Option.some.inj h1
  exact PySem.W.ki_setAt ho h0 ⋯ (by rw[acg,<- hl];exact h4) (by rw[hk];exact⟨_,I',q⟩)
 ·have hk:(k+(its.toArray.size:Int)).toNat=j:=by
   rw[seqIndex_neg ⋯ h3]at h1
   rw[acg,<- hl];exact Option.some.inj h1
  exact PySem.W.ki_setBack ho ⋯ (by rw[acg,<- hl];exact h3) ⋯ (by rw[hk];exact⟨_,I',q⟩)
theorem sV(lo hi:Option Int)(n:Nat):(sliceBounds lo hi none n).1=((HT.dz n 0 lo:Nat):Int)/\(sliceBounds lo hi none n).2.1=((HT.dz n n hi:Nat):Int)/\(sliceBounds lo hi none n).2.2=1:=by
 refine⟨?_,?_,rfl⟩
 ·cases lo with
  | none=>simp [sliceBounds,HT.dz]
  | some i =>
   simp only[sliceBounds,HT.dz,Option.getD_none,show(1:Int)>0 by decide,if_true]
   by_cases h:i<0
   ·simp only[h,if_true]<;>omega
   ·simp only[h,if_false]<;>omega
 ·cases hi with
  | none=>simp [sliceBounds,HT.dz]
  | some i =>
   simp only[sliceBounds,HT.dz,Option.getD_none,show(1:Int)>0 by decide,if_true]
   by_cases h:i<0
   ·simp only[h,if_true]<;>omega
   ·simp only[h,if_false]<;>omega
theorem pD(its:List Value)(lo hi:Option Int):slicePick its.toArray lo hi none=((its.drop (HT.dz its.length 0 lo)).take (HT.dz its.length its.length hi-HT.dz its.length 0 lo)).toArray:=by
 obtain⟨h1,h2,h3⟩:=sV lo hi its.toArray.size;unfold slicePick;rw[h1,h2,h3];simp only[sliceRange_one,pick_run,acg]<;>rfl
def aby(K:ab4):V->Option Int->Option Int->Hp->VK->Prop:=λx lo hi H Q=>∃a xs,x=.ref a/\f7 K H a xs/\∀p,H p=none->Q (.ref p) (upd H p (.lst (uD xs lo hi)))
theorem JQ:KZ X (aby X.K):=by
 intro pins s σ H x v vl vu lo hi sl Q I rx hs pl pu h;obtain⟨a,xs,rfl,hx,q⟩:=h;cases rx;obtain⟨its,r,ht,hz⟩:=I.list hx;have hlen:=r.length;refine⟨"list",_,slot_list_getitem.lookup,ht.isList.typeIs,?_⟩;refine wpAny_getItem_list_slice ht.isList hs pl pu .none (by simp) ?_ (by rw[acg]<;>omega)
 rw[pD,<- hlen];refine⟨.ref s.heap.objs.size,_,I.laid (t':=s.toks) (o:=.lst (uD xs lo hi)) (λb ob q=>abX _ q) (ab3 _) ?_,rfl,q _ (I.bG.fresh (ab3 _))⟩;exact⟨Nat.le_trans (mB xs lo hi) hz,_,0,(r.drop (HT.dz xs.length 0 lo)).take (HT.dz xs.length xs.length hi-HT.dz xs.length 0 lo),Heap.get?_push_size _ rfl⟩
theorem rm:cR X (.builtin "len") (λxs H Q=>∃p ys,xs=[.ref p]/\(f7 X.K H p ys\/k6 X.K H p ys)/\Q (.int ys.length) H):=by
 intro pins s σ H xs us Q I r h;obtain⟨p,ys,rfl,hq,q⟩:=h;obtain⟨u,rfl,rx⟩:=vals1 r;cases rx;have hn:=je;rcases hq with hq|hq
 ·obtain⟨its,r',pl,hz⟩:=I.list hq
  have hlen:=r'.length;exact Calls.call_len_list pl.isList (by simp only[acg]<;>omega) ⟨.int ys.length,H,I.tok _,⟨s.toks+1,by rw[acg,hlen]⟩,q⟩
 ·obtain⟨its,r',pl,hz⟩:=I.tuple hq
  have hlen:=r'.length;exact len_tuple pl (by simp only[acg]<;>omega) ⟨.int ys.length,H,I.tok _,⟨s.toks+1,by rw[acg,hlen]⟩,q⟩
theorem rn:cR X (.builtin "len") (λxs H Q=>∃z,xs=[.str z]/\z.length<=aca/\Q (.int z.length) H):=by
 intro pins s σ H xs us Q I r h;obtain⟨z,rfl,hz,q⟩:=h;obtain⟨u,rfl,t,rfl⟩:=vals1 r;have hn:=je;exact len_str ⋯ ⟨.int z.length,H,I.tok _,⟨_,rfl⟩,q⟩
theorem cR.or{f:Value}{r r':List V->Hp->VK->Prop}(h:cR X f r)(h':cR X f r'):cR X f (λxs H Q=>r xs H Q\/r' xs H Q):=by
 intro pins s σ H xs us Q I rs q;rcases q with q|q
 ·exact h pins s σ H xs us Q I rs q
 ·exact h' pins s σ H xs us Q I rs q
theorem rp:cR X (.type "list") (λxs H Q=>∃p ys,xs=[.ref p]/\(f7 X.K H p ys\/k6 X.K H p ys)/\∀l,H l=none->Q (.ref l) (upd H l (.lst ys))):=by
 intro pins s σ H xs us Q I r h;obtain⟨p,ys,rfl,hq,q⟩:=h;obtain⟨u,rfl,rx⟩:=vals1 r;cases rx;have fin:∀(its:List Value),Vals ys its->ys.length<=aca->∀(h':Heap) (c':Nat),(∀b o',s.heap.get? b=some o'->h'.get? b=some o') ->
   h'.get? s.heap.objs.size=some {cls:=.type "list",dict:=none,data:=.seq its.toArray c',slots:=#[]}->EP X pins σ Q (.ref s.heap.objs.size) {s with heap:=h'}:=λits r' hz h' c' kp e =>
  ⟨.ref s.heap.objs.size,_,I.laid (t':=s.toks) kp (ab3 _) (show bR X.prog X.w _ h' _ (.lst ys)from⟨hz,its,c',r',e⟩),rfl,q _ (I.bG.fresh (ab3 _))⟩
 rcases hq with hq|hq
 ·obtain⟨its,r',pl,hz⟩:=I.list hq
  have hlen:=r'.length;obtain⟨o,ho,hc,n,hd⟩:=pl.isList;exact call_list_seq p (.inl rfl) ho hc hd (λh' c' kp e=>fin its r' hz h' c' kp e) (by simp only[acg]<;>omega)
 ·obtain⟨its,r',pl,hz⟩:=I.tuple hq
  have hlen:=r'.length;obtain⟨o,ho,hc,n,hd⟩:=pl;exact call_list_seq p (.inr rfl) ho hc hd (λh' c' kp e=>fin its r' hz h' c' kp e) (by simp only[acg]<;>omega)
theorem ph:cR X (.type "tuple") (λxs H Q=>∃p ys,xs=[.ref p]/\((f7 X.K H p ys/\∀l,H l=none->Q (.ref l) (upd H l (.tup ys)))\/(k6 X.K H p ys/\Q (.ref p) H))):=by
 intro pins s σ H xs us Q I r h;obtain⟨p,ys,rfl,h⟩:=h;obtain⟨u,rfl,rx⟩:=vals1 r;cases rx;rcases h with⟨hq,q⟩|⟨hq,q⟩
 ·obtain⟨its,r',pl,hz⟩:=I.list hq
  have hlen:=r'.length;refine call_tuple_list pl.isList (λh' kp=>?_) (by simp only[acg]<;>omega)
  have I1:Inv X pins σ H {s with heap:=h'}:=I.kept (t':=s.toks) kp
  have I2:Inv X pins σ (upd H h'.objs.size (.tup ys)) {s with heap:=h'.push {cls:=.type "tuple",data:=.seq its.toArray}}:=
   I1.laid (t':=s.toks) (λb o e=>abX _ e) (ab3 _) (show bR X.prog X.w _ _ _ (.tup ys)from⟨hz,its,r',IsTup.new _ _⟩)
  exact⟨.ref h'.objs.size,_,I2,rfl,q _ (I1.bG.fresh (ab3 _))⟩
 ·obtain⟨its,r',pl,hz⟩:=I.tuple hq
  exact call_tuple_same pl ⟨.ref p,H,I,rfl,q⟩
def tyV(K:ab4)(T:String)(x:V)(H:Hp):Prop:=match x with
 | .str _=>T="str"
 | .int _=>T="int"
 | .ref p=>(T="list"/\∃xs,f7 K H p xs)\/(T="tuple"/\∃o,K.lookup p=some o/\o.cls=.type "tuple"/\o.dict=none) \/
   (T="dict"/\((∃kvs,H p=some (.dK kvs))\/∃kvs,H p=some (.dT kvs)))\/(T="set"/\∃S n,H p=some (.set S n))
 | _=>False
theorem U4{pins:List (Addr×Obj)}{σ:St}{H:Hp}{s:Shared}{T:String}{x:V}{v:Value}(I:Inv X pins σ H s)(r:RelV x v)(ty:tyV X.K T x H):
  s.TypeIs v T/\∀a,v=.ref a->∃ob,s.heap.get? a=some ob/\ob.dict=none:=by
 cases x with
 | str z =>
  obtain⟨t,rfl⟩:=r;cases(show T="str" from ty)
  exact⟨typeIs_str s z t,λ_ e=>nomatch e⟩
 | int i =>
  obtain⟨t,rfl⟩:=r;cases(show T="int" from ty)
  exact⟨typeIs_int s i t,λ_ e=>nomatch e⟩
 | ref p =>
  cases r;rcases ty with⟨rfl,xs,hq⟩|⟨rfl,o,hk,hc,hd⟩|⟨rfl,hk⟩|⟨rfl,S,n,hk⟩
  ·obtain⟨its,_,pl,_⟩:=I.list hq
   refine⟨pl.isList.typeIs,λa e=>?_⟩;cases e;obtain⟨o,n,e,c,hd,_⟩:=pl;exact⟨o,e,hd⟩
  ·refine⟨⟨o,I.mG p o hk,hc⟩,λa e=>?_⟩
   cases e;exact⟨o,I.mG _ o hk,hd⟩
  ·have z:∃o,s.heap.get? p=some o/\o.ExactDict:=by
    rcases hk with⟨kvs,hk⟩|⟨kvs,hk⟩
    ·obtain⟨_,_,_,_,o,_,_,e,ex,_⟩:=I.bG p _ hk
     exact⟨o,e,ex⟩
    ·obtain⟨_,_,_,_,o,_,_,e,ex,_⟩:=I.bG p _ hk
     exact⟨o,e,ex⟩
   obtain⟨o,e,ex⟩:=z;refine⟨⟨o,e,ex.1⟩,λa e2=>?_⟩;cases e2;exact⟨o,e,ex.2.1⟩
  ·obtain⟨o,_,_,_,e,ex,_⟩:=I.bG p _ hk
   refine⟨⟨o,e,ex.1⟩,λa e2=>?_⟩;cases e2;exact⟨o,e,ex.2.1⟩
 | _=>exact False.elim ty
def tBM(K:ab4)(T:String)(r:V->List V->Hp->VK->Prop)(to:TE)(t:TA):TE:=λσ H Q=>to σ H λx H1=>tyV K T x H1/\t σ H1 λxs H2=>r x xs H2 Q
variable {o e:Expr}{es:List Expr}{to:TE}{t:TA}{name:Str}{apos cI:Pos}{T id:String}{r:V->List V->Hp->VK->Prop}
theorem Fc(pa:PlainAttrs T)(slot:Slot T name id)(hty:typeOf (.builtin id)=pure (.type "method_descriptor"))(hm:MtR X id r)(ho:PE X o to)(ha:PA X (e::es) t)
  (XN:attributeBase o name X.env (eval o X.env)=eval o X.env:=by rfl)
  (xG:((backTo cI (ab7 (e::es) X.env)).all (λx=>!x.1)&&(backToKw cI (keywordEach [] X.env)).all (λx=>x.1.isSome)
  &&decide ((e::es).length+([]:List Keyword).length+(if([]:List Keyword).isEmpty then 0 else 1)<30))=true:=by rfl)
  (hline:(apos.endLine==cI.line)=true:=by rfl) (hs:ab7 (e::es) X.env=(false,eval e X.env)::ab7 es X.env:=by rfl) (Pq:(backTo cI (ab7 es X.env)).any (·.1)=false:=by rfl):
  PE X (.Call (.Attribute o name apos) (e::es) [] cI) (tBM X.K T r to t):=by
 intro pins s σ H Q I h;refine wpAny_Call_method_late XN xG hline rfl (cv (ho pins s σ H _ I h) λv s1 ⟨x,H1,I1,r1,ty,q1⟩=>?_);obtain⟨h1,h2⟩:=U4 I1 r1 ty;refine⟨T,id,pa,slot,hty,h1,h2,?_⟩;have hA:=ha cI pins s1 σ H1 _ I1 q1;rw[hs]at hA ⊢;refine Calls.callWith_builtin (by show(false||(backTo cI (ab7 es X.env)).any (·.1))=false;rw[Pq]<;>rfl) (Calls.evalArgs_plain ?_)
 exact cv hA λus s2 ⟨vs,H2,I2,r2,q2⟩=>hm pins s2 σ H2 x vs v us Q I2 r1 r2 q2
end
end L2
namespace L2
open PySem PySem.Spec PyProof.Rows
def MtM(X:Cx)(id:String)(r:V->List V->Hp->VK->Prop):Prop:=
 ∀(pins:List (Addr×Obj)) (s:Shared) (σ:St) (H:Hp) (x:V) (xs:List V) (v:Value) (us:List Value) (Q:VK),Inv X pins σ H s->RelV x v->Vals xs us->r x xs H Q ->
  wpAny (model X.prog X.w) X.A (call (.builtin id) (v::us)) (EP X pins σ Q) X.xe s
theorem Vals.one:∀ {x:V} {us:List Value},Vals [x] us->∃u,us=[u]/\RelV x u
 | _,_,.cons r .nil=>⟨_,rfl,r⟩
theorem Vals.rep{xs:List V}{us:List Value}(h:Vals xs us):∀k:Nat,Vals (List.replicate k xs).flatten (List.replicate k us).flatten
 | 0=>.nil
 | k+1=>by
  rw[List.replicate_succ,List.replicate_succ,List.flatten_cons,List.flatten_cons];exact Vals.append h (Vals.rep h k)
theorem foldl_rep(its:List Value):∀(k:Nat) (acc:List Value),
  List.foldl (λx1 x2=>x1++x2) acc.toArray (List.replicate k its.toArray)=(acc++(List.replicate k its).flatten).toArray
 | 0,acc=>by simp
 | k+1,acc=>by
  have e:acc.toArray++its.toArray=(acc++its).toArray:=by simp
  have e2:(acc++its)++(List.replicate k its).flatten=acc++(List.replicate (k+1) its).flatten:=by
   rw[List.replicate_succ,List.flatten_cons,List.append_assoc]
  rw[<- e2,<- foldl_rep its k (acc++its),<- e,List.replicate_succ,List.foldl_cons]
section
variable {X:Cx}{pins:List (Addr×Obj)}{σ:St}{H:Hp}{s:Shared}{l b:Addr}{xs ys zs:List V}
theorem Inv.Yw{its its':List Value}{n:Nat}{f:Array Value->Array Value}{t':Nat}(I:Inv X pins σ H s)(hH:H l=some (.lst xs))
  (e:s.heap.get? l=some {cls:=.type "list",data:=.seq its.toArray n}) (hf:f its.toArray=its'.toArray) (hv:Vals ys its') (hz:ys.length<=aca):
  Inv X pins σ (upd H l (.lst ys)) {s with heap:=s.heap.update l (Obj.mapSeq f),toks:=t'}:=by
 have q:=PySem.IsL.update e f;rw[hf]at q;refine I.write (x:=l) (e:=l) (by rw[hH];exact trivial) (.inl rfl) (λb' u hb hu=>(Heap.get?_update_other s.heap (Obj.mapSeq f) (Ne.symm hb)).trans hu) ⟨_,q⟩ ?_
 exact⟨hz,its',_,hv,q⟩
theorem Inv.Qw{its:List Value}{t':Nat}(I:Inv X pins σ H s)(hv:Vals ys its)(hz:ys.length<=aca):
  Inv X pins σ (upd H s.heap.objs.size (.lst ys)) {s with heap:=s.heap.push {cls:=.type "list",data:=.seq its.toArray},toks:=t'}:=
 I.laid (λ_ _ q=>abX _ q) (ab3 _) ⟨hz,its,0,hv,Heap.get?_push_size _ rfl⟩
theorem Inv.fresh(I:Inv X pins σ H s):H s.heap.objs.size=none:=I.bG.fresh (ab3 _)
theorem Inv.Qx(I:Inv X pins σ H s)(hH:H l=some (.lst xs)):xs.length<=aca/\∃(its:List Value) (n:Nat),Vals xs its/\xs.length=its.length/\s.heap.get? l=some {cls:=.type "list",data:=.seq its.toArray n}:=by
 obtain⟨z,its,n,r,e⟩:=I.bG l _ hH;exact⟨z,its,n,r,r.length,e⟩
theorem vV{n:Nat}(h:n<=aca):Builtin.List.listTooLong n=false:=by
 unfold Builtin.List.listTooLong;exact decide_eq_false ⋯
end
section
variable {X:Cx}
def JD:V->List V->Hp->VK->Prop:=λx vs H Q=>∃l xs y,x=.ref l/\vs=[y]/\H l=some (.lst xs)/\xs.length<aca/\Q .aQ (upd H l (.lst (xs++[y])))
theorem qA:MtM X "list.append" JD:=by
 intro pins s σ H x vs v us Q I rx rv h;obtain⟨l,xs,y,rfl,rfl,hH,hz,q⟩:=h;cases rx;obtain⟨u,rfl,ru⟩:=rv.one;obtain⟨z,its,n,r,hl,e⟩:=I.Qx hH;refine call_meets F.slot_list_append ⟨_,e,rfl⟩ F.entry_list_append (F.args_list_append_2 _ _) (PySem.list_append l its.toArray n u (by rw[acg];omega)) ⟨e,?_⟩
 refine⟨.aQ,_,I.Yw (its':=its++[u]) hH e (by simp) (r.append (.cons ru .nil)) ?_,rfl,q⟩
 rw[List.length_append,List.length_singleton];omega
def JF:V->List V->Hp->VK->Prop:=λx vs H Q=>∃l b xs zs,x=.ref l/\vs=[.ref b]/\H l=some (.lst xs)/\H b=some (.lst zs)/\xs.length+zs.length<=aca/\Q .aQ (upd H l (.lst (xs++zs)))
theorem AY:MtM X "list.extend" JF:=by
 intro pins s σ H x vs v us Q I rx rv h;obtain⟨l,b,xs,zs,rfl,rfl,hH,hB,hz,q⟩:=h;cases rx;obtain⟨u,rfl,ru⟩:=rv.one;cases ru;obtain⟨z,its,n,r,hl,e⟩:=I.Qx hH;obtain⟨z2,vC,n2,r2,pj,e2⟩:=I.Qx hB;have hsz:its.toArray.size+vC.toArray.size<=aca:=by rw[acg,acg];omega
 have Eg:¬(!its.toArray.isEmpty&&Builtin.List.listTooLong (its.toArray.size+vC.toArray.size))=true:=by
  rw[vV hsz,Bool.and_false];exact Bool.false_ne_true
 refine call_meets F.slot_list_extend ⟨_,e,rfl⟩ F.entry_list_extend (F.args_list_extend_2 _ _)
  (AutoSeq1.list_extend_list_list_0 l its.toArray n b vC.toArray n2 Eg (by rw[acg];omega) ⋯) ⟨e,e2,?_⟩
 refine⟨.aQ,_,I.Yw (its':=its++vC) hH e (by simp) (r.append r2) ?_,rfl,q⟩
 rw[List.length_append];omega
theorem len_rep{α:Type}(xs:List α)(k:Nat):(List.replicate k xs).flatten.length=k*xs.length:=by
 induction k with
 | zero=>simp
 | succ k ih=>rw[List.replicate_succ,List.flatten_cons,List.length_append,ih,Nat.succ_mul,Nat.add_comm]
end
end L2
namespace Att
open PySem PySem.W PySem.Calls PyProof.Rows
theorem mZ{P:Params}{h:Heap}:∀(ns:List Int) (vs:List Value),WellAll P h vs (ns.map WData.int)->IntsAre vs ns:=by
 intro ns
 induction ns with
 | nil =>
  intro vs w;rw[List.map_nil]at w;cases w;exact .nil
 | cons n ns ih =>
  intro vs w;rw[List.map_cons]at w;cases w with
  | cons a b =>
   cases a;exact .cons _ _ (ih _ b)
theorem Bj{l:OpenLaw}{n:Nat}(hn:l.most=some n){P:Params}{h:Heap}{args:List WData}{vals:List Value}
  (AG:l.row.toRowW.claim.pre args=true) (Yc:WellAll P h vals args):
  ∃a vs ns,vals=[Value.ref a]/\args=[WData.list (ns.map WData.int)]/\h.get? a=some {cls:=.type "list",data:=.seq vs.toArray}/\IntsAre vs ns/\ns.length<=n:=by
 have hsh:WShape.hasAll [] args [.list .int]=true:=(pre_splitW AG).1;have hc:l.pre.holds [] {args:=args}=true:=(pre_splitW AG).2;obtain⟨d,r,rfl,h1,h2⟩:=hasAllW_cons hsh;obtain rfl:=hasAllW_nil h2;obtain⟨xs,rfl,h3⟩:=hasW_list h1;obtain⟨ns,rfl⟩:=items_int h3;have hlen:ns.length<=n:=by
  unfold OpenLaw.pre at hc;have h4:(WTm.not (.lt (.lit (.int (n:Int))) (.len (.arg 0)))).holds [] {args:=[.list (ns.map .int)]}=true:=by
   have h4:=(holds_andW hc).1;rw[hn]at h4;exact h4
  have h5:=condW_of h4 (w_not (w_lt w_lit (w_len_list (w_arg rfl))));rw[abZ]at h5;refine Nat.le_of_not_lt λq=>?_;have q':(n:Int)<((ns.length:Nat):Int):=by omega
  first
   | (rw[decide_eq_true q']at h5;exact absurd h5 ∅)
   | (simp at h5;omega)
 cases Yc with
 | cons w1 w2 =>
  cases w2;cases w1 with
  | list ho iD=>exact⟨_,_,ns,rfl,rfl,ho,mZ ns _ iD,hlen⟩
theorem Be(l:OpenLaw)(args:List WData):l.row.toRowW.claim.post args (.bool true) args=true:=
 postW_of (r:=l.row.toRowW) (X:=(true==true))
  (show WShape.has [] (.bool true) .bool=true by first|rfl|decide|simp [WShape.has,WShape.arms,WShape.armsAll])
  (show(WTm.eq .res (.lit (.bool true))).value [] {args:=args,res:=some (.bool true),after:=args}=some (.bool (true==true))from w_eq_bool (w_res rfl) w_lit) rfl
theorem um{l:OpenLaw}{n:Nat}{q:Program}{loose:List Str}{XP:(Str->Option Value)->Heap->Prop}{YP:World->Heap->Prop}{d:DefRec}
  (hn:l.most=some n) (XS:d.params.defaults=[])
  (call:∀(w:World) (c5 bJ:Shared) (mg mb:Str->Option Value) (fa:Addr) (o:Obj) (pm cd doc:Value) (a:Addr) (vs:List Value) (ns:List Int),
   Ground q loose [] XP w c5 mg mb bJ.heap->YP w bJ.heap ->
   bJ.heap.get? fa=some o->o.data=.func (docDef d.name d.params d.body d.scope pm cd doc)->bJ.heap.CodeRec cd d.name->mg d.name=some (.ref fa) ->
   bJ.heap.get? a=some {cls:=.type "list",data:=.seq vs.toArray}->IntsAre vs ns->ns.length<=n->bJ.gens=#[] ->
   codeAny (model l.prog w) callerA (.call (.ref fa) ⟨[.ref a],[]⟩) (λr s'=>r=.ok (.ret (.bool true))/\OldK bJ.heap s'.heap/\s'.os=bJ.os/\AllBare s'.gens) bJ):
  WalkO q loose XP YP l.row.toRowW d [] (λf vs=>PySem.call f vs):=by
 intro w c5 bJ mg mb G Y fa o pm cd doc dV kV ho hd mY hD hmg hg args vals as AG X2 hrd Yc za;obtain rfl:dV=.none:=Dflts.none hD XS;obtain rfl:kV=.none:=Dflts.noKw hD;obtain⟨a,vs,ns,rfl,rfl,Pp,hints,hlen⟩:=Bj hn AG Yc;refine enter_call (codeAny_mono (call w c5 bJ mg mb fa o pm cd doc a vs ns G Y ho (fd_plain hd) mY hmg Pp hints hlen hg) λr s' hq=>?_);obtain⟨rfl,h2,h3,h4⟩:=hq;exact⟨.inl ⟨.bool true,.bool true,[],rfl,λ_=>rfl,.bool true,Be l _,λ_=>⟨List.Pairwise.nil,λ_ hm=>(nomatch hm)⟩⟩,h2,h3,h4⟩
end Att
namespace L2
open PySem PySem.Spec PyProof.Rows
theorem fG:∀ {vs:List Value} {ns:List Int},IntsAre vs ns->Vals (ns.map V.int) vs
 | _,_,.nil=>.nil
 | _,_,.cons n t h=>.cons ⟨t,rfl⟩ (fG h)
def Only(H:Hp):Prop:=∀b,H b=none\/∃o xs,H b=some (.qj o (.lst xs))
theorem EC{P:Program}{w:World}{K:ab4}{mg mb:Str->Option Value}{CX:Ae}{k:Nat}{fa a:Addr}{fd:FuncData}{x:Str}{sp:Sp}{bJ:Shared}{vs:List Value}{ns:List Int}
  (KX:K.In bJ.heap) (hns:bJ.heap.Ns acf mg) (hb:bJ.heap.Ns builtinsNs mb) (hbb:∀x:Str,x≠"__name__"->mb x=bootBuiltins x) (aa0:bJ.heap.NoLimit) (hg:bJ.gens=#[])
  (ha:bJ.heap.get? a=some {cls:=.type "list",data:=.seq vs.toArray}) (hi:IntsAre vs ns) (hl:ns.length<=aca) (hr:d4 k callerA)
  (F:∀base:Heap,K.In base->base.Ns acf mg->ck P w K mg base CX k fa fd [x] sp) (XO:∀(s:Shared) (u:Value),BindsTo s fd ⟨[u],[]⟩ [(x,u)])
  (Ls:∀H:Hp,Only H->f7 K H a (ns.map V.int)->sp [.ref a] H (λv _=>v=.bl true) λ_ _ _=>False)
  (hCX:∀H e s',CX [] H bJ (λ_ _ _=>False) e s'->False):
  codeAny (model P w) callerA (.call (.ref fa) ⟨[.ref a],[]⟩) (λr s'=>r=.ok (.ret (.bool true))/\OldK bJ.heap s'.heap/\s'.os=bJ.os/\AllBare s'.gens) bJ:=by
 have rv:=fG hi;have abk:=hi.length
 -- from an abstract heap in which nothing but the script may be tracked
 have core:∀H:Hp,Only H->f7 K H a (ns.map V.int)->hJ P w H bJ.heap->(∀b,H b≠none->b=a)->(H a≠none->K.lookup a=none) ->
   codeAny (model P w) callerA (.call (.ref fa) ⟨[.ref a],[]⟩) (λr s'=>r=.ok (.ret (.bool true))/\OldK bJ.heap s'.heap/\s'.os=bJ.os/\AllBare s'.gens) bJ:=by
  intro H hO hS bG hA hK;have yP:∀ {b:Addr} {o:Obj},bJ.heap.get? b=some o->H b=none->(rV bJ.heap H).get? b=some o:=λe n=>Ee e n;have YF:∀ {b:Addr} {o:Obj} {es:Array DictEntry} {ep:Nat},bJ.heap.get? b=some o->o.data=.dict es ep->H b=none:=λ{b o es ep} e d=>by
   cases q:H b with
   | none=>rfl
   | some u =>
    have e':b=a:=hA b (by rw[q];simp)
    subst e';rw[ha]at e;cases e;have d':Data.seq vs.toArray _=Data.dict es ep:=d;cases d'
  have nsK:∀ {b:Addr} {m:Str->Option Value},bJ.heap.Ns b m->(rV bJ.heap H).Ns b m:=λ{b m} ⟨o,es,ep,e,d,r⟩=>⟨o,es,ep,yP e (YF e d),d,r⟩;have hKb:K.In (rV bJ.heap H):=λb o e=>yP (KX b o e) (by
   cases q:H b with
   | none=>rfl
   | some u =>
    have e':b=a:=hA b (by rw[q];simp)
    subst e';rw[hK (by rw[q];simp)]at e;cases e)
  have hM:Mod K mg (rV bJ.heap H):=⟨hKb,nsK hns,⟨mb,nsK hb,hbb⟩,let ⟨mc,h1,h2⟩:=aa0;⟨mc,nsK h1,h2⟩⟩;have e0:xc P w K mg (rV bJ.heap H) callerA [] bJ H:=⟨rfl,hM,λb o e=>Ja e,Nat.le_of_eq (AB _ _),trivial,λb hb=>absurd (show b∈([]:List Addr)from hb) (by simp),bG,.of_eq hg⟩
  refine codeAny_mono ((F _ hKb (nsK hns)).run callerA [] bJ H ⟨[.ref a],[]⟩ [.ref a] [.ref a] _ _ hr e0 (XO bJ (.ref a)) (.cons rfl .nil) (Ls H hO hS)) λr s' h=>?_;cases r with
  | error e=>exact(hCX H e s' h).elim
  | ok fl =>
   cases fl with
   | next=>exact False.elim h
   | brk=>exact False.elim h
   | cont=>exact False.elim h
   | ret u =>
    obtain⟨v,H',os,bare,un,aa3,r',q⟩:=h;have q':v=.bl true:=q;subst q';obtain rfl:u=Value.bool true:=r';refine⟨rfl,OldK.of_keep λb o e=>?_,os,bare⟩;cases q:H b with
    | none=>exact un.keep b o e q (by intro z;exact absurd (show b∈([]:List Addr)from z) (by simp)) (by simp)
    | some u =>
     rcases hO b with z|⟨ob,xs,z⟩
     ·rw[q]at z;cases z
     ·have z2:=un.rO b ob _ z
      obtain⟨e1,_⟩:=bG b _ z;obtain⟨e2,_⟩:=aa3 b _ z2;rw[e]at e1;cases e1;exact e2
 cases hk:K.lookup a with
 | some o =>
  -- the script is one of the module's own objects
  have e:=KX a o hk;rw[ha]at e;cases e;refine core (λ_=>none) (λ_=>.inl rfl) (.inr ⟨_,vs.toArray,_,hk,rfl,rfl,rfl,by rw[acg,abk];exact hl,by simpa using rv⟩) (λb u z=>by have z':(none:Option HO)=some u:=z;cases z') (λb z=>absurd rfl z) λz=>absurd rfl z
 | none =>
  refine core (λb=>if b=a then some (.qj {cls:=.type "list",data:=.seq vs.toArray} (.lst (ns.map V.int)))else none) (λb=>?_) (.inl (.inr ⟨{cls:=.type "list",data:=.seq vs.toArray},if_pos rfl⟩)) (λb u z=>?_) (λb z=>?_) λ_=>hk
  ·by_cases hb:b=a
   ·exact .inr ⟨_,_,if_pos hb⟩
   ·exact .inl (if_neg hb)
  ·by_cases hb:b=a
   ·have z':=(if_pos hb).symm.trans z
    cases z';subst hb;exact⟨ha,by rw[abZ];exact hl,vs,_,rv,ha⟩
   ·have z':=(if_neg hb).symm.trans z
    cases z'
  ·by_cases hb:b=a
   ·exact hb
   ·exact absurd (if_neg hb) z
end L2
namespace L2
open PySem PySem.Spec PyProof.Rows
theorem Ka{l:PySem.W.OpenLaw}{n k:Nat}{q:Program}{loose:List Str}{XP:(Str->Option Value)->Heap->Prop}{YP:World->Heap->Prop}{d:DefRec}{K:Params->ab4}{CX:World->Ae}{sp:World->Sp}{x:Str}
  (hn:l.most=some n) (Ei:n<=aca) (XS:d.params.defaults=[]) (hr:d4 k callerA)
  (hY:∀(w:World) (h:Heap),YP w h->(K w.params).In h)
  (F:∀(w:World) (mg:Str->Option Value) (fa:Addr) (h:Heap),(K w.params).In h->h.Ns acf mg->mg d.name=some (.ref fa) ->
   ∃fd:FuncData,(∀(s:Shared) (u:Value),BindsTo s fd ⟨[u],[]⟩ [(x,u)]) /\
    ∀base:Heap,(K w.params).In base->base.Ns acf mg->ck l.prog w (K w.params) mg base (CX w) k fa fd [x] (sp w))
  (Ls:∀(w:World) (H:Hp) (a:Addr) (ns:List Int),ns.length<=n->Only H->f7 (K w.params) H a (ns.map V.int)->sp w [.ref a] H (λv _=>v=.bl true) λ_ _ _=>False)
  (hCX:∀(w:World) (H:Hp) (s:Shared) (e:Value) (s':Shared),CX w [] H s (λ_ _ _=>False) e s'->False):
  PySem.W.WalkO q loose XP YP l.row.toRowW d [] (λf vs=>PySem.call f vs):=by
 refine Att.um hn XS λw c5 bJ mg mb fa o pm cd doc a vs ns G Y ho hd mY hmg Pp hints hlen hg=>?_;have KX:=hY w _ Y;obtain⟨fd,hb,hF⟩:=F w mg fa _ KX G.T.g hmg;exact EC KX G.T.g G.T.b G.T.builtins G.T.nolimit hg Pp hints (Nat.le_trans hlen Ei) hr hF hb (λH hO hS=>Ls w H a ns hlen hO hS) λH e s'=>hCX w H bJ e s'
end L2
namespace L2
open PySem PySem.Spec PyProof.Rows
def inClass(s:Stmt)(j:Nat):Stmt:=match s with
 | .ClassDef _ _ _ body _ _ _ _ _ _ _=>body.getD j (.Pass ⟨0,0,0,0⟩)
 | _=>.Pass ⟨0,0,0,0⟩
def aI(s:Stmt):Arguments:=match s with
 | .FunctionDef _ a _ _ _ _ _ _ _ _=>a
 | _=>{posonlyargs:=[],args:=[],vararg:=none,kwonlyargs:=[],kw_defaults:=[],kwarg:=none,defaults:=[]}
def ak(s:Stmt):List Stmt:=match s with
 | .FunctionDef _ _ b _ _ _ _ _ _ _=>b
 | _=>[]
def ag(s:Stmt):Scope:=match s with
 | .FunctionDef _ _ _ _ _ _ sc _ _ _=>sc
 | _=>{kind:=.function,names:=[],isGenerator:=false,isCoroutine:=false}
abbrev iA:Ae:=λ_ _ _ _ _ _=>False
abbrev E0:XK:=λ_ _ _=>False
theorem jL{X:Cx}:Passes iA X E0:=λ_ _ _ _ _ _ _ h=>h.elim
structure Bq(K:ab4)(x qual:Str)(st:Stmt)(f:Addr)(fd:FuncData):Prop where
 ex:∃(oc:Value) (od:Option Addr) (kV doc pm:Value) (an:Option Addr) (h9 ct:Value) (Ji:Array (Option Value)),
  fd=PySem.W.fnOf x qual (aI st) (ak st) (ag st) .none kV doc pm an h9 ct/\K.lookup f=some ⟨oc,od,.func fd,Ji⟩/\PySem.W.codeIn K h9 qual=true
 kp:PySem.W.keepIn K (.ref f)=true
section
variable {P:Program}{w:World}{K:ab4}{mg:Str->Option Value}{base:Heap}
theorem Bq.ok{x qual:Str}{st:Stmt}{f:Addr}{fd:FuncData}{N ps:List Str}{k:Nat}{sp:Sp}(F:Bq K x qual st f fd)(S:aB N ps (ag st))(len:∀vs H Q E,sp vs H Q E->vs.length=ps.length)
  (Ec:∀(h9:Value) (A:Around) (outer:List Env) (s:Shared) (H:Hp) (vs:List V) (Q:VK) (E:XK),d4 k (A.deeper (envOfC qual (ag st) s.heap.objs.size f h9))->sp vs H Q E ->
   ∃t,qU (nJ iA P w K mg base N qual (ag st) f h9 A outer s H E).IZ (ak st) t/\t {nx:=λ_ H'=>Q .aQ H',rt:=Q} (start N vs) H):ck P w K mg base iA (k+1) f fd ps sp:=by
 obtain⟨oc,od,kV,doc,pm,an,h9,ct,Ji,rfl,lk,mY⟩:=F.ex;refine XE lk mY S len λA outer s H vs Q E hr Ls=>?_;obtain⟨t,h,q⟩:=Ec h9 A outer s H vs Q E hr Ls;exact⟨t,h.IZ,q⟩
theorem Bq.binds{x qual:Str}{st:Stmt}{f:Addr}{fd:FuncData}{ps:List Str}(F:Bq K x qual st f fd)
  (h:∀(kV doc pm:Value) (an:Option Addr) (h9 ct:Value) (us:List Value),us.length=ps.length->bindArgs (PySem.W.fnOf x qual (aI st) (ak st) (ag st) .none kV doc pm an h9 ct) ⟨us,[]⟩=pure (ps.zip us)):Binds K fd ps []:=by
 obtain⟨oc,od,kV,doc,pm,an,h9,ct,Ji,rfl,lk,mY⟩:=F.ex;exact .all (h kV doc pm an h9 ct)
theorem aV{x qual:Str}{st:Stmt}{f:Addr}{oc:Value}{od an:Option Addr}{Ji:Array (Option Value)}{kV doc pm h9 ct:Value}(l:K.lookup f=some ⟨oc,od,.func (PySem.W.fnOf x qual (aI st) (ak st) (ag st) .none kV doc pm an h9 ct),Ji⟩)
  (c:PySem.W.codeIn K h9 qual=true) (k:PySem.W.keepIn K (.ref f)=true):Bq K x qual st f (PySem.W.fnOf x qual (aI st) (ak st) (ag st) .none kV doc pm an h9 ct):=⟨⟨oc,od,kV,doc,pm,an,h9,ct,Ji,rfl,l,c⟩,k⟩
end
def ao(H H':Hp):Prop:=∀b o,H b=some o->H' b=some o
theorem ao.refl(H:Hp):ao H H:=λ_ _ h=>h
theorem ao.trans{H H1 H2:Hp}(a:ao H H1)(b:ao H1 H2):ao H H2:=λc o h=>b c o (a c o h)
theorem ao.free{H H':Hp}(e:ao H H'){l:Addr}(h:H' l=Option.none):H l=Option.none:=by
 cases q:H l with
 | none=>rfl
 | some o =>
  rw[e l o q]at h;cases h
theorem ao.seq{K:ab4}{H H':Hp}{a:Addr}{xs:List V}(e:ao H H')(h:f7 K H a xs):f7 K H' a xs:=by
 rcases h with(h|⟨o,h⟩)|h
 ·exact .inl (.inl (e _ _ h))
 ·exact .inl (.inr ⟨o,e _ _ h⟩)
 ·exact .inr h
end L2
namespace L2
open PySem PySem.Spec PyProof.Rows
section
variable {κ:Type}[DecidableEq κ]
def g9(kvs:List (κ×V))(k:κ):Option V:=(kvs.find? λkv=>decide (kv.1=k)).map (·.2)
def putK(kvs:List (κ×V))(k:κ)(v:V):List (κ×V):=
 if(kvs.any λkv=>decide (kv.1=k))=true then kvs.map (λkv=>if kv.1=k then(kv.1,v)else kv)else kvs++[(k,v)]
def mC(kvs:List (κ×V))(k:κ):List (κ×V):=kvs.filter λkv=>decide (kv.1≠k)
theorem k4{p:κ×V}{r:List (κ×V)}{k:κ}(e:p.1=k):g9 (p::r) k=some p.2:=by simp [g9,List.find?_cons,e]
theorem kZ{p:κ×V}{r:List (κ×V)}{k:κ}(e:¬p.1=k):g9 (p::r) k=g9 r k:=by simp [g9,List.find?_cons,e]
theorem wD(k:κ):∀kvs:List (κ×V),(kvs.any λkv=>decide (kv.1=k))=(g9 kvs k).isSome
 | []=>rfl
 | p::r=>by
  rw[List.any_cons]
  by_cases e:p.1=k
  ·simp only[k4 e,decide_eq_true e,Bool.true_or,Option.isSome_some]
  ·rw[kZ e,decide_eq_false e,Bool.false_or];exact wD k r
theorem mK(kvs:List (κ×V))(k:κ)(v:V):(putK kvs k v).length<=kvs.length+1:=by
 unfold putK
 split
 ·rw[abZ];omega
 ·rw[List.length_append,List.length_cons,List.length_nil];omega
theorem gG.lA{o:Option V}{u:Option Value}(r:gG o u):o.isSome=u.isSome:=by
 cases o with
 | none=>cases u with
  | none=>rfl
  | some _=>exact(show False from r).elim
 | some _=>cases u with
  | none=>exact(show False from r).elim
  | some _=>rfl
theorem KV.val{kvs:List (κ×V)}{vs:List (κ×Value)}(r:KV kvs vs)(k:κ):gG (g9 kvs k) (valueAt vs k):=by
 unfold KV at r
 induction r with
 | nil=>exact True.intro
 | @cons p q ps qs h t ih =>
  obtain⟨h1,h2⟩:=h
  by_cases e:p.1=k
  ·have e':q.1=k:=h1.symm.trans e
   have b:valueAt (q::qs) k=some q.2:=by simp [valueAt,List.find?_cons,e']
   rw[k4 e,b];exact h2
  ·have e':¬q.1=k:=λz=>e (h1.trans z)
   have b:valueAt (q::qs) k=valueAt qs k:=by simp [valueAt,List.find?_cons,e']
   rw[kZ e,b];exact ih
theorem KV.any{kvs:List (κ×V)}{vs:List (κ×Value)}(r:KV kvs vs)(k:κ):(kvs.any λkv=>decide (kv.1=k))=vs.any λkv=>decide (kv.1=k):=by
 unfold KV at r
 induction r with
 | nil=>rfl
 | cons h t ih=>rw[List.any_cons,List.any_cons,ih,h.1]
theorem KV.repl{kvs:List (κ×V)}{vs:List (κ×Value)}(r:KV kvs vs)(k:κ){y:V}{u:Value}(ry:RelV y u):
  KV (kvs.map λkv=>if kv.1=k then(kv.1,y)else kv) (vs.map λkv=>if kv.1=k then(kv.1,u)else kv):=by
 unfold KV at r ⊢
 induction r with
 | nil=>exact .nil
 | @cons p q ps qs h t ih =>
  rw[List.map_cons,List.map_cons];refine .cons ?_ ih;obtain⟨h1,h2⟩:=h
  by_cases e:p.1=k
  ·rw[if_pos e,if_pos (h1.symm.trans e)];exact⟨h1,ry⟩
  ·rw[if_neg e,if_neg (λz=>e (h1.trans z))];exact⟨h1,h2⟩
theorem KV.put{kvs:List (κ×V)}{vs:List (κ×Value)}(r:KV kvs vs)(k:κ){y:V}{u:Value}(ry:RelV y u):KV (putK kvs k y) (stored vs k u):=by
 unfold putK stored;rw[r.any k]
 by_cases e:(vs.any λkv=>decide (kv.1=k))=true
 ·rw[if_pos e,if_pos e];exact r.repl k ry
 ·rw[if_neg e,if_neg e];exact Paired.snoc r ⟨rfl,ry⟩
theorem KV.drop{kvs:List (κ×V)}{vs:List (κ×Value)}(r:KV kvs vs)(k:κ):KV (mC kvs k) (without vs k):=by
 unfold KV at r ⊢;unfold mC without
 induction r with
 | nil=>exact .nil
 | @cons p q ps qs h t ih =>
  obtain⟨h1,h2⟩:=h;rw[List.filter_cons,List.filter_cons]
  by_cases e:p.1=k
  ·have a:¬decide (p.1≠k)=true:=by simp [e]
   have b:¬decide (q.1≠k)=true:=by simp [h1.symm.trans e]
   rw[if_neg a,if_neg b];exact ih
  ·have e':¬q.1=k:=λz=>e (h1.trans z)
   have a:decide (p.1≠k)=true:=by simp [e]
   have b:decide (q.1≠k)=true:=by simp [e']
   rw[if_pos a,if_pos b];exact .cons ⟨h1,h2⟩ ih
theorem KV.length{kvs:List (κ×V)}{vs:List (κ×Value)}(r:KV kvs vs):kvs.length=vs.length:=Paired.length r
theorem Dw(kvs:List (κ×V))(k:κ):(mC kvs k).length<=kvs.length:=List.length_filter_le _ _
end
theorem vE{P:Program}{w:World}{k:Key}{u:Value}(r:RelV (kV k) u):(b9 P w).is k u=true:=by
 cases k with
 | inl i=>obtain⟨t,e⟩:=(show∃t,u=Value.int i t from r);subst e;exact vO P w i t
 | inr x=>obtain⟨t,e⟩:=(show∃t,u=Value.str x t from r);subst e;exact vP P w x t
theorem qv{P:Program}{w:World}:∀ {ks:List Key} {us:List Value},Vals (ks.map kV) us->ItemsAre (b9 P w) ks us
 | [],_,r=>by rw[List.map_nil]at r;cases r;exact .nil
 | k::ks,_,r=>by
  rw[List.map_cons]at r;cases r with
  | cons h t=>exact .cons (vE h) (qv t)
abbrev KT(H:Hp):List (List Key×V)->List (List Key×Addr×Value)->Prop:=Paired λp q=>p.1=q.1/\H q.2.1=some (.tup (p.1.map kV))/\RelV p.2 q.2.2
theorem KT.val{H:Hp}{kvs:List (List Key×V)}{xs:List (List Key×Addr×Value)}(r:KT H kvs xs)(k:List Key):gG (g9 kvs k) ((atKey xs k).map (·.2)):=by
 induction r with
 | nil=>exact True.intro
 | @cons p q ps qs h t ih =>
  obtain⟨h1,_,h2⟩:=h
  by_cases e:p.1=k
  ·have e':q.1=k:=h1.symm.trans e
   have b:atKey (q::qs) k=some q.2:=by simp [atKey,List.find?_cons,e']
   rw[k4 e,b];exact h2
  ·have e':¬q.1=k:=λz=>e (h1.trans z)
   have b:atKey (q::qs) k=atKey qs k:=by simp [atKey,List.find?_cons,e']
   rw[kZ e,b];exact ih
theorem KT.repl{H:Hp}{kvs:List (List Key×V)}{xs:List (List Key×Addr×Value)}(r:KT H kvs xs)(k:List Key){y:V}{u:Value}(ry:RelV y u):
  KT H (kvs.map λkv=>if kv.1=k then(kv.1,y)else kv) (xs.map (putAt k u)):=by
 induction r with
 | nil=>exact .nil
 | @cons p q ps qs h t ih =>
  rw[List.map_cons,List.map_cons];refine .cons ?_ ih;obtain⟨h1,h2,h3⟩:=h;unfold putAt
  by_cases e:p.1=k
  ·rw[if_pos e,if_pos (h1.symm.trans e)];exact⟨h1,h2,ry⟩
  ·rw[if_neg e,if_neg (λz=>e (h1.trans z))];exact⟨h1,h2,h3⟩
theorem KT.put{H:Hp}{kvs:List (List Key×V)}{xs:List (List Key×Addr×Value)}(r:KT H kvs xs)(k:List Key){b:Addr}{y:V}{u:Value}(hb:H b=some (.tup (k.map kV)))(ry:RelV y u):
  KT H (putK kvs k y) (storedH xs k b u):=by
 have e:(kvs.any λkv=>decide (kv.1=k))=(atKey xs k).isSome:=by
  rw[wD,(r.val k).lA,Option.isSome_map]
 unfold putK storedH;rw[e]
 by_cases q:(atKey xs k).isSome=true
 ·rw[if_pos q,if_pos q];exact r.repl k ry
 ·rw[if_neg q,if_neg q];exact Paired.snoc r ⟨rfl,hb,ry⟩
theorem KT.keeps{H H':Hp}{kvs:List (List Key×V)}{xs:List (List Key×Addr×Value)}(r:KT H kvs xs)(ht:∀b ys,H b=some (.tup ys)->H' b=some (.tup ys)):KT H' kvs xs:=
 Paired.Qz r λ_ _ z=>⟨z.1,ht _ _ z.2.1,z.2.2⟩
section
variable {P:Program}{w:World}{H:Hp}{h:Heap}{a:Addr}
theorem LU{u:HO}(ok:hJ P w H h)(e:Rd H a u):bR P w H h a u:=e.ok ok
theorem p9{kvs:List (Key×V)}(ok:hJ P w H h)(e:Rd H a (.dK kvs)):kvs.length<=aca/\(a==sysModules)=false/\∃vs,KV kvs vs/\h.DictOf (b9 P w) a vs:=
 show bR P w H h a (.dK kvs)from LU ok e
theorem nK{kvs:List (Key×V)}(ok:hJ P w H h)(e:H a=some (.dK kvs)):kvs.length<=aca/\(a==sysModules)=false/\∃vs,KV kvs vs/\h.DictOf (b9 P w) a vs:=p9 ok (.inl e)
theorem rY{ks:List Key}(ok:hJ P w H h)(e:H a=some (.tup (ks.map kV))):(tupleKind (b9 P w)).is h ks a:=by
 obtain⟨_,its,r,o,h1,h2,n,h3⟩:=(show bR P w H h a (.tup (ks.map kV))from ok a _ e)
 exact⟨o,its.toArray,n,h1,h2,h3,by simpa using qv r⟩
theorem uI{kvs:List (List Key×V)}(ok:hJ P w H h)(e:Rd H a (.dT kvs)):kvs.length<=aca/\(a==sysModules)=false /\
  ∃xs,KT H kvs xs/\h.DictOfH (tupleKind (b9 P w)) a xs:=by
 obtain⟨z,y,xs,r,o,es,ep,h1,h2,h3,h4,h5⟩:=(show bR P w H h a (.dT kvs)from LU ok e)
 refine⟨z,y,xs,r,o,es,ep,h1,h2,h3,h4,λx hx=>?_,h5⟩;have all:∀ {l:List (List Key×V)} {m:List (List Key×Addr×Value)},KT H l m->∀x∈m,(tupleKind (b9 P w)).is h x.1 x.2.1:=by
  intro l m q
  induction q with
  | nil=>intro x hx;exact nomatch hx
  | @cons p q ps qs hq t ih =>
   intro x hx;rcases ab6.mp hx with e|hx
   ·subst e
    exact rY ok (by rw[<- hq.1];exact hq.2.1)
   ·exact ih x hx
 exact all r x hx
theorem WW{kvs:List (List Key×V)}(ok:hJ P w H h)(e:H a=some (.dT kvs)):kvs.length<=aca/\(a==sysModules)=false /\
  ∃xs,KT H kvs xs/\h.DictOfH (tupleKind (b9 P w)) a xs:=uI ok (.inl e)
end
def qS(H:Hp)(a:Addr)(y:V)(r:Option V):Prop:=
 (∃kvs k,Rd H a (.dK kvs)/\y=kV k/\r=g9 kvs k)\/∃kvs k b,Rd H a (.dT kvs)/\y=.ref b/\H b=some (.tup (k.map kV))/\r=g9 kvs k
def Ho(H:Hp)(a:Addr)(y v:V)(H':Hp):Prop:=
 (∃kvs k,H a=some (.dK kvs)/\y=kV k/\kvs.length<aca/\H'=upd H a (.dK (putK kvs k v))) \/
 ∃kvs k b,H a=some (.dT kvs)/\y=.ref b/\H b=some (.tup (k.map kV))/\kvs.length<aca/\H'=upd H a (.dT (putK kvs k v))
theorem qS.k{H:Hp}{a:Addr}{kvs:List (Key×V)}{k:Key}(e:H a=some (.dK kvs)):qS H a (kV k) (g9 kvs k):=.inl ⟨kvs,k,.inl e,rfl,rfl⟩
theorem Ho.k{H:Hp}{a:Addr}{kvs:List (Key×V)}{k:Key}{v:V}(e:H a=some (.dK kvs))(hl:kvs.length<aca):Ho H a (kV k) v (upd H a (.dK (putK kvs k v))):=.inl ⟨kvs,k,e,rfl,hl,rfl⟩
section
variable {X:Cx}{pins:List (Addr×Obj)}{σ:St}{H:Hp}{s:Shared}{a:Addr}{y v:V}{u r:Value}{o:Option V}{A:Around}{E:Value->Shared->Prop}
theorem Inv.big(I:Inv X pins σ H s):sysModules<s.heap.objs.size:=by
 have h:acf<s.heap.objs.size:=(I.mod.glob.keeps I.bk).lt;exact Nat.lt_trans ∅ h
theorem An{Q:Value->Shared->Prop}(hu:A.units+1<cLine)(I:Inv X pins σ H s)(g:qS H a y (some v))(ry:RelV y u)(h:∀w' s',Inv X pins σ H s'->RelV v w'->Q w' s'):
  wpAny (model X.prog X.w) A (getItem (.ref a) u) Q E s:=by
 rcases g with⟨kvs,k,e,ey,l⟩|⟨kvs,k,b,e,ey,eb,l⟩
 ·subst ey
  obtain⟨z,hd,vs,rel,dd⟩:=p9 I.bG e;obtain⟨w',hw,w8⟩:=gG.some_of (v:=v) (o:=valueAt vs k) (by rw[l];exact rel.val k)
  exact wpAny_getItem_of (vE ry) dd.mapOf hw (h w' _ (I.tok _) w8)
 ·subst ey
  cases(show u=Value.ref b from ry)
  obtain⟨z,hd,xs,rel,dd⟩:=uI I.bG e;obtain⟨w',hw,w8⟩:=gG.some_of (v:=v) (o:=(atKey xs k).map (·.2)) (by rw[l];exact rel.val k)
  obtain⟨p,hp,Vw⟩:=Option.map_eq_some_iff.mp hw;refine wpAny_getItem_heap (tupleKind_room_in1 hu) (rY I.bG eb) dd hp ?_;rw[Vw];exact h w' _ (I.tok _) w8
theorem HG{Q:Value->Shared->Prop}(hu:A.units+1<cLine)(I:Inv X pins σ H s)(g:qS H a y o)(ry:RelV y u)(h:∀s',Inv X pins σ H s'->Q (.bool (!o.isSome)) s'):
  wpAny (model X.prog X.w) A (compareOp .NotIn u (.ref a)) Q E s:=by
 rcases g with⟨kvs,k,e,ey,l⟩|⟨kvs,k,b,e,ey,eb,l⟩
 ·subst ey
  obtain⟨z,hd,vs,rel,dd⟩:=p9 I.bG e;refine wpAny_notIn_of (vE ry) hd dd.mapOf ?_;rw[<- (rel.val k).lA,<- l];exact h _ (I.tok _)
 ·subst ey
  cases(show u=Value.ref b from ry)
  obtain⟨z,hd,xs,rel,dd⟩:=uI I.bG e;refine wpAny_notIn_heap (tupleKind_room_in1 hu) (rY I.bG eb) hd dd ?_;have q:=(rel.val k).lA;rw[Option.isSome_map]at q;rw[<- q,<- l];exact h _ (I.tok _)
theorem rE{h':Heap}{t':Nat}{ob:HO}(I:Inv X pins σ H s)(mu:V1 (H a))(hs:Heap.SameBut a s.heap h')(he:∃q,h'.get? a=some q)(new:bR X.prog X.w (upd H a ob) h' a ob):
  Inv X pins σ (upd H a ob) {s with heap:=h',toks:=t'}:=
 I.write (x:=a) (e:=a) mu (.inl rfl) (λb q hb z=>(hs.2 b hb).trans z) he new
theorem Du{P:Program}{w:World}{H':Hp}{h':Heap}{kvs:List (Key×V)}{vs:List (Key×Value)}(z:kvs.length<=aca)(hd:(a==sysModules)=false)(rel:KV kvs vs)(dd:h'.DictOf (b9 P w) a vs):
  bR P w H' h' a (.dK kvs):=⟨z,hd,vs,rel,dd⟩
theorem Ao{H':Hp}{Q:Unit->Shared->Prop}(hu:A.units+1<cLine)(I:Inv X pins σ H s)(g:Ho H a y v H')(ry:RelV y u)(rv:RelV v r)(h:∀s',Inv X pins σ H' s'->Q () s'):
  wpAny (model X.prog X.w) A (setItem (.ref a) u r) Q E s:=by
 rcases g with⟨kvs,k,e,ey,l,eH⟩|⟨kvs,k,b,e,ey,eb,l,eH⟩
 ·subst ey eH
  obtain⟨z,hd,vs,rel,dd⟩:=nK I.bG e;have hz:vs.length<=aca:=by rw[<- rel.length];exact z
  have hl:(putK kvs k v).length<=aca:=by have:=mK kvs k v;omega
  refine wpAny_setItem_pairs (hsz:=hz) (vE ry) dd λh' Oh hs=>h _ ?_;have he:∃q,h'.get? a=some q:=let ⟨q,_,_,hq,_⟩:=Oh;⟨q,hq⟩;exact rE I (by rw[e];exact True.intro) hs he (Du hl hd (rel.put k rv) Oh)
 ·subst ey eH
  cases(show u=Value.ref b from ry)
  obtain⟨z,hd,xs,rel,dd⟩:=WW I.bG e;have hz:xs.length<=aca:=by rw[<- Paired.length rel];exact z
  have hl:(putK kvs k v).length<=aca:=by have:=mK kvs k v;omega
  refine wpAny_setItem_heap (hsz:=hz) (tupleKind_room_in1 hu) (rY I.bG eb) dd λh' Oh hs=>h _ ?_;obtain⟨q,es,ep,hq,h2,h3,h4,_,h5⟩:=Oh;refine rE I (by rw[e];exact True.intro) hs ⟨q,hq⟩ ⟨hl,hd,_,(rel.put k eb rv).keeps λc ys ec=>?_,q,es,ep,hq,h2,h3,h4,h5⟩
  rw[aq (fu ec e (λz=>nomatch z))];exact ec
end
section
variable {X:Cx}{pins:List (Addr×Obj)}{σ:St}{H:Hp}{s:Shared}{a:Addr}{kvs:List (Key×V)}{k:Key}{u:Value}{A:Around}{E:Value->Shared->Prop}
theorem WH{v:V}{more:List Value}{Q:Value->Shared->Prop}(I:Inv X pins σ H s)(e:H a=some (.dK kvs))(ry:RelV (kV k) u)(l:g9 kvs k=some v)(hm:more=[]\/∃x,more=[x])
  (h:∀w' s',Inv X pins σ (upd H a (.dK (mC kvs k))) s'->RelV v w'->Q w' s'):wpAny (model X.prog X.w) A (call (.builtin "dict.pop") (.ref a::u::more)) Q E s:=by
 obtain⟨z,hd,vs,rel,dd⟩:=nK I.bG e;obtain⟨w',hw,w8⟩:=gG.some_of (v:=v) (o:=valueAt vs k) (by rw[<- l];exact rel.val k)
 have hp:(keyPart u).isSome=true:=by
  cases k with
  | inl i=>obtain⟨t,q⟩:=(show∃t,u=Value.int i t from ry);subst q;rfl
  | inr x=>obtain⟨t,q⟩:=(show∃t,u=Value.str x t from ry);subst q;rfl
 have ha:argsOk "dict.pop" ⟨.ref a::u::more,[]⟩:=by
  rcases hm with q|⟨x,q⟩
  ·subst q;exact PySem.F.args_dict_pop_2 _ _
  ·subst q;exact PySem.F.args_dict_pop_3 _ _ _
 refine call_meetsIn PySem.F.slot_dict_pop dd.typeIs PySem.F.entry_dict_pop ha (meets_dict_pop_there (b9 X.prog X.w) a (vE ry) more hm hp)
  ⟨vs,w',dd,by rw[<- rel.length];exact z,hw,λh' Oh hs=>h w' _ ?_ w8⟩
 have he:∃q,h'.get? a=some q:=let ⟨q,_,_,hq,_⟩:=Oh;⟨q,hq⟩;exact rE I (by rw[e];exact True.intro) hs he (Du (Nat.le_trans (Dw kvs k) z) hd (rel.drop k) Oh)
theorem WG{Q:Value->Shared->Prop}(I:Inv X pins σ H s)(e:Rd H a (.dK kvs))(h:∀t s',Inv X pins σ H s'->Q (.int kvs.length t) s'):wpAny (model X.prog X.w) A (call (.builtin "len") [.ref a]) Q E s:=by
 obtain⟨z,hd,vs,rel,dd⟩:=p9 I.bG e;refine call_len_dict hd dd (by rw[<- rel.length];rw[sizeLine_eq]at z;omega) ?_
 rw[<- rel.length];exact h _ _ (I.tok _)
end
def Mi(i:Expr):Prop:=∀ov iv,subscripted i false ov iv=operate [ov,iv] (getItem ov iv)
theorem JR{prog:Program}{w:World}{A:Around}{E:Value->Shared->Prop}{s:Shared}{env:Env}{value slice:Expr}{pos:Pos}{T id:String}{Q:Value->Shared->Prop}
  (hl:typeLookup (.type T) "__getitem__"=pure (some (.builtin id))) (hs:Mi slice)
  (h:wpAny (model prog w) A (eval value env) (λo bJ=>wpAny (model prog w) A (eval slice env) (λi tX=>tX.TypeIs o T/\wpAny (model prog w) A (getItem o i) Q E tX) E bJ) E s):
  wpAny (model prog w) A (eval (.Subscript value slice pos) env) Q E s:=by
 refine Subscript_ (wpAny_mono h (λo bJ Il=>wpAny_mono Il (λi tX Ep=>?_) λ_ _ x=>x) λ_ _ x=>x);obtain⟨hT,Ep⟩:=Ep;unfold subscriptTail;refine abW ?_;rw[getitemInPython_of_ne hT.not_modules];refine abW (wpAny_specialOf hT hl ?_);have fin:wpAny (model prog w) A (subscripted slice false o i) (λr wo=>wpAny (model prog w) A (letTemporaryGo value o r >>= λ_=>pure r) Q E wo) E tX:=by
  rw[hs o i];exact wpAny_operating (wpAny_mono Ep (λr wo Im=>abW (wpAny_letTemporaryGo (ab0 Im))) λ_ _ x=>x)
 first
  | exact ab0 (abW fin)
  | exact abW (ab0 (abW fin))
  | exact abW fin
theorem uG{X:Cx}{pins:List (Addr×Obj)}{σ:St}{H:Hp}{s:Shared}{a:Addr}{y:V}{o:Option V}(I:Inv X pins σ H s)(g:qS H a y o):s.TypeIs (.ref a) "dict":=by
 rcases g with⟨kvs,k,e,_,_⟩|⟨kvs,k,b,e,_,_,_⟩
 ·obtain⟨_,_,vs,_,dd⟩:=p9 I.bG e
  exact dd.typeIs
 ·obtain⟨_,_,xs,_,dd⟩:=uI I.bG e
  exact dd.typeIs
def aal(td ty:TE):TE:=λσ H Q=>td σ H λx H1=>ty σ H1 λy H2=>∃a v,x=.ref a/\qS H2 a y (some v)/\Q v H2
def ZV(td ty tv:TE):TS:=λD σ H=>tv σ H λv H1=>td σ H1 λx H2=>ty σ H2 λy H3=>∃a H4,x=.ref a/\Ho H3 a y v H4/\D.nx σ H4
section
variable {X:Cx}{o i e value:Expr}{pos pos' yz:Pos}{td ty tv:TE}
theorem Jq(hu:X.A.units+1<cLine)(ho:PE X o td)(hi:PE X i ty)(hs:Mi i):PE X (.Subscript o i pos) (aal td ty):=by
 intro pins s σ H Q I h;refine JR PySem.F.slot_dict_getitem.lookup hs (cv (ho pins s σ H _ I h) λu s1 ⟨x,H1,I1,rx,q1⟩=>cv (hi pins s1 σ H1 _ I1 q1) λiv s2 ⟨y,H2,I2,ry,a,v,ex,g,q2⟩=>?_);subst ex;obtain rfl:u=Value.ref a:=rx;exact⟨uG I2 g,An hu I2 g ry λw' s3 I3 w8=>⟨v,H2,I3,w8,q2⟩⟩
theorem zJ(hu:X.A.units+1<cLine)(ho:PE X o td)(hi:PE X i ty)(hv:PE X value tv)(hs:swapsWith value (some (.Subscript o i pos')) pos.line X.env=pure false):
  PS X (.Assign [.Subscript o i pos'] value pos) (ZV td ty tv):=by
 intro pins s σ H D I h;refine wpAny_Assign_Subscript (cv (hv pins s σ H _ I h) λr s1 ⟨v,H1,I1,rv,q1⟩=>cv (ho pins s1 σ H1 _ I1 q1) λu s2 ⟨x,H2,I2,rx,q2⟩=>cv (hi pins s2 σ H2 _ I2 q2) λiv s3 ⟨y,H3,I3,ry,a,H4,ex,g,q3⟩=>?_) hs;subst ex;obtain rfl:u=Value.ref a:=rx;exact Ao hu I3 g ry rv λs4 I4=>⟨σ,H4,I4,q3⟩
end
theorem Dt{P:Program}{w:World}{H:Hp}(h:Heap)(hb:sysModules<h.objs.size):bR P w H (h.push {cls:=.type "dict",data:=.dict #[]}) h.objs.size (.dK []):=
 ⟨Nat.zero_le _,beq_eq_false_iff_ne.mpr (Ne.symm (Nat.ne_of_lt hb)),[],.nil,Heap.DictOf.new h⟩
def FY:TE:=λ_ H Q=>∀p,H p=none->Q (.ref p) (upd H p (.dK []))
section
variable {X:Cx}{pos:Pos}
theorem gS:PE X (.Dict [] [] pos) FY:=λpins s σ H Q I h =>
 wpAny_Dict_empty ⟨.ref s.heap.objs.size,_,I.laid (a:=s.heap.objs.size) (o:=.dK []) (t':=s.toks) (λ_ _ q=>abX _ q) (ab3 _) (Dt s.heap I.big),rfl,h _ (I.bG.fresh (ab3 _))⟩
end
def tY:List (TE×TE)->St->Hp->(List (V×V)->Hp->Prop)->Prop
 | [],_,H,Q=>Q [] H
 | (tk,tv)::r,σ,H,Q=>tk σ H λx H1=>tv σ H1 λy H2=>tY r σ H2 λps H3=>Q ((x,y)::ps) H3
structure M1(X:Cx)(o:Expr)(m:Str)(apos:Pos)(e:Expr)(cI:Pos):Prop where
 base:attributeBase o m X.env (eval o X.env)=eval o X.env
 few:((backTo cI (ab7 [e] X.env)).all (λx=>!x.1)&&(backToKw cI (keywordEach [] X.env)).all (λx=>x.1.isSome)
 &&decide (([e]:List Expr).length+([]:List Keyword).length+(if([]:List Keyword).isEmpty then 0 else 1)<30))=true
 line:(apos.endLine==cI.line)=true
 trees:backTo cI (ab7 [e] X.env)=[(false,eval e X.env)]
def IsD(H:Hp)(a:Addr):Prop:=(∃kvs,Rd H a (.dK kvs))\/∃kvs,Rd H a (.dT kvs)
theorem Pz{X:Cx}{pins:List (Addr×Obj)}{σ:St}{H:Hp}{s:Shared}{a:Addr}(I:Inv X pins σ H s)(d:IsD H a):
  s.TypeIs (.ref a) "dict"/\(∀b,Value.ref a=.ref b->∃ob,s.heap.get? b=some ob/\ob.dict=none)/\(a==sysModules)=false:=by
 rcases d with⟨kvs,e⟩|⟨kvs,e⟩
 ·obtain⟨_,hd,vs,_,dd⟩:=p9 I.bG e
  refine⟨dd.typeIs,λb q=>?_,hd⟩;cases q;obtain⟨ob,_,_,h1,h2,_⟩:=dd;exact⟨ob,h1,h2.2.1⟩
 ·obtain⟨_,hd,xs,_,dd⟩:=uI I.bG e
  refine⟨dd.typeIs,λb q=>?_,hd⟩;cases q;obtain⟨ob,_,_,h1,h2,_⟩:=dd;exact⟨ob,h1,h2.2.1⟩
def UE(td ty:TE):TE:=λσ H Q=>td σ H λx H1=>∃a,x=.ref a/\IsD H1 a/\ty σ H1 λy H2=>∃kvs k v,H2 a=some (.dK kvs)/\y=kV k/\g9 kvs k=some v/\Q v (upd H2 a (.dK (mC kvs k)))
section
variable {X:Cx}{o e f:Expr}{apos cI:Pos}{td ty tx:TE}
theorem vY(ho:PE X o td)(he:PE X e ty)(m:M1 X o "pop" apos e cI):PE X (.Call (.Attribute o "pop" apos) [e] [] cI) (UE td ty):=by
 intro pins s σ H Q I h;refine wpAny_Call_method m.base m.few m.line PySem.F.plainAttrs_dict PySem.F.slot_dict_pop PySem.F.type_dict_pop (cv (ho pins s σ H _ I h) λu s1 ⟨x,H1,I1,rx,a,ex,d,q1⟩=>?_);subst ex;obtain rfl:u=Value.ref a:=rx;obtain⟨t1,t2,_⟩:=Pz I1 d;refine⟨t1,t2,?_⟩;rw[m.trees];refine Calls.callWith_builtin rfl (Calls.evalArgs_plain (Calls.spliced_cons (cv (he pins s1 σ H1 _ I1 q1) λiv s2 ⟨y,H2,I2,ry,kvs,k,v,ea,ey,l,q2⟩=>Calls.spliced_nil ?_)));subst ey;exact WH I2 ea ry l (.inl rfl) λw' s3 I3 w8=>⟨v,_,I3,w8,q2⟩
end
end L2
namespace Vc
open PySem L2
class KF where
 K:ab4
 /-- where the classes of exceptions stand -/
 cls:Str->Addr:=λ_=>0
 /-- the code tables that a lambda fills: where,as they were,the lambda's place,its name -/
 tabs:List (Addr×Array Value×Pos×Str):=[]
variable [KF]
inductive D where
 | aQ|bl (b:Bool)|int (i:Int)|str (x:Str)|tup (xs:List D)|lst (xs:List D)|dct (kvs:List (D×D))|exc (c:Str)
 /-- the law's own list: read,never changed -/
 | jj (ns:List Int)
 /-- a dict with whole numbers for keys -/
 | dM (kvs:List (Int×D))
 /-- kept points: the word,the count,the next name,the points by their names -/
 | kp (w:Str) (c e:Int) (kvs:List (Int×D))
def aaP(a:Addr)(c:Str):HO:=.ext λh=>∃o,h.get? a=some o/\o.cls=.ref (KF.cls c)
def kD:Key->D
 | .inl i=>.int i
 | .inr x=>.str x
def Hh(w:Str)(c e:Int)(ad:Addr):List (Str×V):=[("way",.str w),("count",.int c),("points_by_name",.ref ad),("ever_put",.int e)]
mutual
inductive Rep (F:Hp):V->D->Prop where
 | aQ:Rep F .aQ .aQ
 | bl (b:Bool):Rep F (.bl b) (.bl b)
 | int (i:Int):Rep F (.int i) (.int i)
 | str (x:Str):Rep F (.str x) (.str x)
 | tup {a:Addr} {vs:List V} {ds:List D}:F a=some (.tup vs)->aC F vs ds->Rep F (.ref a) (.tup ds)
 | lst {a:Addr} {vs:List V} {ds:List D}:Rd F a (.lst vs)->aC F vs ds->Rep F (.ref a) (.lst ds)
 | jj {a:Addr} {ns:List Int}:f7 KF.K F a (ns.map V.int)->Rep F (.ref a) (.jj ns)
 | exc {a:Addr} {c:Str}:F a=some (aaP a c)->Rep F (.ref a) (.exc c)
 | HK {a:Addr} {ks:List (List Key×V)} {kvs:List (D×D)}:F a=some (.dT ks)->qV F ks kvs->Rep F (.ref a) (.dct kvs)
 | dM {a:Addr} {ks:List (Key×V)} {kvs:List (Int×D)}:F a=some (.dK ks)->b6 F ks kvs->Rep F (.ref a) (.dM kvs)
 | kp {a dx ad:Addr} {w:Str} {c e:Int} {ks:List (Key×V)} {kvs:List (Int×D)}:F a=some (.ins (KF.cls "Kept") dx (Hh w c e ad))->F ad=some (.dK ks)->b6 F ks kvs->Rep F (.ref a) (.kp w c e kvs)
inductive b6 (F:Hp):List (Key×V)->List (Int×D)->Prop where
 | nil:b6 F [] []
 | cons {i:Int} {v:V} {d:D} {ks:List (Key×V)} {kvs:List (Int×D)}:Rep F v d->b6 F ks kvs->b6 F ((.inl i,v)::ks) ((i,d)::kvs)
inductive xj (F:Hp):List (Key×V)->List (D×D)->Prop where
 | nil:xj F [] []
 | cons {k:Key} {v:V} {d:D} {ks:List (Key×V)} {kvs:List (D×D)}:Rep F v d->xj F ks kvs->xj F ((k,v)::ks) ((kD k,d)::kvs)
inductive qV (F:Hp):List (List Key×V)->List (D×D)->Prop where
 | nil:qV F [] []
 | cons {k:List Key} {v:V} {d:D} {ks:List (List Key×V)} {kvs:List (D×D)}:Rep F v d->qV F ks kvs->qV F ((k,v)::ks) ((.tup (k.map kD),d)::kvs)
inductive aC (F:Hp):List V->List D->Prop where
 | nil:aC F [] []
 | cons {v:V} {d:D} {vs:List V} {ds:List D}:Rep F v d->aC F vs ds->aC F (v::vs) (d::ds)
end
theorem Rd.mono{F F':Hp}(s:ao F F'){a:Addr}{u:HO}(h:Rd F a u):Rd F' a u:=by
 rcases h with h|⟨o,h⟩
 ·exact .inl (s a _ h)
 ·exact .inr ⟨o,s a _ h⟩
mutual
theorem Rep.mono{F F':Hp}(s:ao F F'){v:V}{d:D}:Rep F v d->Rep F' v d
 | .aQ=>.aQ
 | .bl b=>.bl b
 | .int i=>.int i
 | .str x=>.str x
 | .tup h r=>.tup (s _ _ h) (aC.mono s r)
 | .lst h r=>.lst (Rd.mono s h) (aC.mono s r)
 | .jj h=>.jj (s.seq h)
 | .exc h=>.exc (s _ _ h)
 | .HK h r=>.HK (s _ _ h) (qV.mono s r)
 | .dM h r=>.dM (s _ _ h) (b6.mono s r)
 | .kp h1 h2 r=>.kp (s _ _ h1) (s _ _ h2) (b6.mono s r)
theorem b6.mono{F F':Hp}(s:ao F F'){ks:List (Key×V)}{kvs:List (Int×D)}:b6 F ks kvs->b6 F' ks kvs
 | .nil=>.nil
 | .cons h r=>.cons (Rep.mono s h) (b6.mono s r)
theorem xj.mono{F F':Hp}(s:ao F F'){ks:List (Key×V)}{kvs:List (D×D)}:xj F ks kvs->xj F' ks kvs
 | .nil=>.nil
 | .cons h r=>.cons (Rep.mono s h) (xj.mono s r)
theorem qV.mono{F F':Hp}(s:ao F F'){ks:List (List Key×V)}{kvs:List (D×D)}:qV F ks kvs->qV F' ks kvs
 | .nil=>.nil
 | .cons h r=>.cons (Rep.mono s h) (qV.mono s r)
theorem aC.mono{F F':Hp}(s:ao F F'){vs:List V}{ds:List D}:aC F vs ds->aC F' vs ds
 | .nil=>.nil
 | .cons h r=>.cons (Rep.mono s h) (aC.mono s r)
end
theorem aC.length{F:Hp}:∀ {vs:List V} {ds:List D},aC F vs ds->vs.length=ds.length
 | _,_,.nil=>rfl
 | _,_,.cons _ r=>by simp [aC.length r]
theorem aC.append{F:Hp}:∀ {vs ws:List V} {ds es:List D},aC F vs ds->aC F ws es->aC F (vs++ws) (ds++es)
 | _,_,_,_,.nil,s=>s
 | _,_,_,_,.cons h r,s=>.cons h (aC.append r s)
theorem aC.get{F:Hp}:∀ {vs:List V} {ds:List D} {i:Nat} {d:D},aC F vs ds->ds[i]?=some d->∃v,vs[i]?=some v/\Rep F v d
 | _,_,_,_,.nil,e=>by simp at e
 | _,_,0,_,.cons h _,e=>by simp at e;subst e;exact⟨_,by simp,h⟩
 | _,_,i+1,_,.cons _ r,e=>by
  obtain⟨v,h1,h2⟩:=aC.get (i:=i) r (by simpa using e)
  exact⟨v,by simpa using h1,h2⟩
theorem aC.get'{F:Hp}:∀ {vs:List V} {ds:List D} {i:Nat} {v:V},aC F vs ds->vs[i]?=some v->∃d,ds[i]?=some d/\Rep F v d
 | _,_,_,_,.nil,e=>by simp at e
 | _,_,0,_,.cons h _,e=>by simp at e;subst e;exact⟨_,by simp,h⟩
 | _,_,i+1,_,.cons _ r,e=>by
  obtain⟨v,h1,h2⟩:=aC.get' (i:=i) r (by simpa using e)
  exact⟨v,by simpa using h1,h2⟩
theorem aC.set{F:Hp}{v:V}{d:D}(h:Rep F v d):∀ {vs:List V} {ds:List D} (i:Nat),aC F vs ds->aC F (vs.set i v) (ds.set i d)
 | _,_,_,.nil=>.nil
 | _,_,0,.cons _ t=>.cons h t
 | _,_,i+1,.cons q t=>.cons q (aC.set h i t)
theorem aC.take{F:Hp}:∀ {vs:List V} {ds:List D} (n:Nat),aC F vs ds->aC F (vs.take n) (ds.take n)
 | _,_,0,_=>.nil
 | _,_,_+1,.nil=>.nil
 | _,_,n+1,.cons h r=>.cons h (aC.take n r)
theorem aC.drop{F:Hp}:∀ {vs:List V} {ds:List D} (n:Nat),aC F vs ds->aC F (vs.drop n) (ds.drop n)
 | _,_,0,r=>r
 | _,_,_+1,.nil=>.nil
 | _,_,n+1,.cons _ r=>aC.drop n r
theorem aC.rep{F:Hp}{vs:List V}{ds:List D}(r:aC F vs ds):∀n:Nat,aC F (List.replicate n vs).flatten (List.replicate n ds).flatten
 | 0=>.nil
 | n+1=>by
  rw[List.replicate_succ,List.replicate_succ,List.flatten_cons,List.flatten_cons];exact r.append (aC.rep r n)
def bS(F H:Hp)(v:V)(d:D):Prop:=match d with
 | .lst xs=>∃a vs,v=.ref a/\Rd H a (.lst vs)/\aC F vs xs
 | .dM kvs=>∃a ks,v=.ref a/\H a=some (.dK ks)/\b6 F ks kvs
 | .kp w c e kvs=>∃a dx ad ks,v=.ref a/\H a=some (.ins (KF.cls "Kept") dx (Hh w c e ad))/\H ad=some (.dK ks)/\b6 F ks kvs
 | d=>Rep F v d
theorem aJ{H:Hp}{p:Addr}{o:HO}(h:H p=none):ao H (upd H p o):=λb u e=>by
 rw[aq (aZ e h)];exact e
theorem dA{F H:Hp}(s:ao F H){a:Addr}{o:HO}(e:H a=some o):∃F',ao F F'/\ao F' H/\F' a=some o/\∀c u,F' c=some u->F c=some u\/(c=a/\u=o):=by
 cases ef:F a with
 | none =>
  refine⟨upd F a o,aJ ef,λb u q=>?_,ay,λc u q=>?_⟩
  ·by_cases hb:b=a
   ·subst hb;rw[ay]at q;cases q;exact e
   ·rw[aq hb]at q;exact s b u q
  ·by_cases hb:c=a
   ·subst hb;rw[ay]at q;cases q;exact .inr ⟨rfl,rfl⟩
   ·rw[aq hb]at q;exact .inl q
 | some u =>
  have:=s a u ef;rw[e]at this;cases this;exact⟨F,ao.refl _,s,ef,λ_ _ z=>.inl z⟩
def dl:HO->Bool
 | .dK _=>true
 | .ins _ _ _=>true
 | _=>false
structure O where
 fp:Addr->List Addr
 rep:Hp->Hp->Addr->Prop
 self:∀a,a∈fp a
 solid:∀ {F H:Hp} {a b:Addr} {φ:Heap->Prop},rep F H a->b∈fp a->H b≠some (.ext φ)
 nt:∀ {F H:Hp} {a b:Addr} {vs:List V},rep F H a->b∈fp a->H b≠some (.tup vs)
 mono:∀ {F F' H H':Hp} {a:Addr},ao F F'->(∀b∈fp a,H' b=H b)->rep F H a->rep F' H' a
 /-- what it is as data,where it is that -/
 view:Option D:=none
 sees:∀ {F H:Hp} {a:Addr} {d:D},rep F H a->view=some d->bS F H (.ref a) d:=by intro _ _ _ _ _ e;cases e
 lend:∀ {F H:Hp} {a:Addr} {d:D},ao F H->rep F H a->view=some d->∃F',ao F F'/\ao F' H/\Rep F' (.ref a) d/\∀c u,F' c=some u->F c=some u\/(dl u=true/\c∈fp a):=by intro _ _ _ _ _ _ e;cases e
 /-- where it stands -/
 loc:Option Addr:=none
 IL:∀ {F H:Hp} {a b:Addr},rep F H a->loc=some b->a=b:=by intro _ _ _ _ _ e;cases e
inductive B where
 | sh (d:D)
 | own (xs:List D)
 | obj (o:O)
abbrev Sd:=List (Option B)
structure bz where
 H0:Hp
 F0:Hp
 io:List (Nat×Addr)
 /-- the addresses of things that were handed in to be changed -/
 ob:List Addr
def bz.Vy(Y:bz):List Addr:=Y.io.map (·.2)
def bz.zf(Y:bz):List Addr:=Y.io.map (·.2)++Y.ob
theorem bz.zg{Y:bz}{a:Addr}(h:a∉Y.zf):a∉Y.Vy:=λz=>h (List.mem_append_left _ z)
def iL(ah:Sd)(σ:St)(b:Addr):Prop:=∃(i:Nat) (o:O) (a:Addr),ah[i]?=some (some (.obj o))/\σ[i]?=some (some (.ref a))/\b∈o.fp a
def k8(F:Hp):Prop:=∀q∈KF.tabs,F q.1=some (.lam q.2.1 q.2.2.1 q.2.2.2)
theorem k8.mono{F F':Hp}(h:k8 F)(s:ao F F'):k8 F':=λq hq=>s _ _ (h q hq)
def mv(F H:Hp):Prop:=ao F H/\k8 F
structure wU(Y:bz)(F:Hp)(ah:Sd)(σ:St)(H:Hp):Prop where
 obj:∀(i:Nat) (o:O),ah[i]?=some (some (.obj o))->∃a,σ[i]?=some (some (.ref a))/\o.rep F H a/\∀b∈o.fp a,F b=none/\H b≠none/\(Y.H0 b=none\/b∈Y.ob)
 o8:∀(i j:Nat) (o p:O) (a b:Addr),ah[i]?=some (some (.obj o))->ah[j]?=some (some (.obj p))->σ[i]?=some (some (.ref a))->σ[j]?=some (some (.ref b))->i≠j->∀c∈o.fp a,c∉p.fp b
 gv:∀(j:Nat) (xs:List D) (b:Addr),ah[j]?=some (some (.own xs))->σ[j]?=some (some (.ref b))->¬iL ah σ b
 there:∀b∈Y.ob,H b≠none
 UY:∀b∈Y.ob,Y.H0 b≠none
 tab:k8 F
theorem wU.owned{Y:bz}{F:Hp}{ah:Sd}{σ:St}{H:Hp}(X:wU Y F ah σ H){b:Addr}(h:iL ah σ b):F b=none/\H b≠none/\(Y.H0 b=none\/b∈Y.ob):=by
 obtain⟨i,o,a,e1,e2,hb⟩:=h;obtain⟨a',e3,_,h3⟩:=X.obj i o e1;rw[e2]at e3;cases e3;exact h3 b hb
theorem wU.LD{Y:bz}{F:Hp}{ah:Sd}{σ:St}{H:Hp}(X:wU Y F ah σ H){b:Addr}(h:iL ah σ b){vs:List V}:H b≠some (.tup vs):=by
 obtain⟨i,o,a,e1,e2,hb⟩:=h;obtain⟨a',e3,h2,_⟩:=X.obj i o e1;rw[e2]at e3;cases e3;exact o.nt h2 hb
theorem wU.step{Y Y':bz}{F F':Hp}{ah aA:Sd}{σ bZ:St}{H H':Hp}(X:wU Y F ah σ H)(hs:ao F F')
  (hσ:∀(i:Nat) (o:O),aA[i]?=some (some (.obj o))->ah[i]?=some (some (.obj o))/\bZ[i]?=σ[i]?)
  (hb:∀b,iL ah σ b->H' b=H b/\F' b=none/\(Y'.H0 b=none\/b∈Y'.ob))
  (aa5:∀(j:Nat) (ys:List D) (b:Addr),aA[j]?=some (some (.own ys))->bZ[j]?=some (some (.ref b))->¬iL ah σ b)
  (hth:∀b∈Y'.ob,H' b≠none) (hz:∀b∈Y'.ob,b∈Y.ob/\(Y.H0 b≠none->Y'.H0 b≠none):=by exactλb hb=>⟨hb,id⟩):wU Y' F' aA bZ H' where
 obj:=λi o e=>by
  obtain⟨e1,e2⟩:=hσ i o e;obtain⟨a,h1,h2,h3⟩:=X.obj i o e1;have ow:∀b∈o.fp a,iL ah σ b:=λb z=>⟨i,o,a,e1,h1,z⟩;refine⟨a,by rw[e2];exact h1,o.mono hs (λb z=>(hb b (ow b z)).1) h2,λb z=>⟨(hb b (ow b z)).2.1,?_,(hb b (ow b z)).2.2⟩⟩
  rw[(hb b (ow b z)).1];exact(h3 b z).2.1
 o8:=λi j o p a b e1 e2 e3 e4=>by
  obtain⟨q1,q2⟩:=hσ i o e1;obtain⟨q3,q4⟩:=hσ j p e2;rw[q2]at e3;rw[q4]at e4;exact X.o8 i j o p a b q1 q3 e3 e4
 gv:=λj xs b e1 e2 ⟨i,o,a,e3,e4,hm⟩=>by
  obtain⟨q1,q2⟩:=hσ i o e3;rw[q2]at e4;exact aa5 j xs b e1 e2 ⟨i,o,a,q1,e4,hm⟩
 there:=hth
 UY:=λb hb=>(hz b hb).2 (X.UY b (hz b hb).1)
 tab:=X.tab.mono hs
theorem wU.put{Y:bz}{F:Hp}{ah:Sd}{σ bZ:St}{H:Hp}{i:Nat}{b':Option B}(X:wU Y F ah σ H)(h1:∀j,j≠i->bZ[j]?=σ[j]?)(hn:∀o,b'≠some (.obj o))
  (hw:∀ys a,b'=some (.own ys)->bZ[i]?=some (some (.ref a))->¬iL ah σ a):wU Y F (ah.set i b') bZ H:=by
 have gs:∀ {j:Nat} {y:Option B},(ah.set i b')[j]?=some y->(j=i/\y=b')\/(j≠i/\ah[j]?=some y):=λ{j y} h=>by
  by_cases hj:j=i
  ·subst hj
   by_cases hl:j<ah.length
   ·rw[List.getElem?_set_self hl]at h;exact .inl ⟨rfl,(Option.some.inj h).symm⟩
   ·have:(ah.set j b')[j]?=none:=by rw[List.getElem?_eq_none_iff];simp;omega
    rw[this]at h;cases h
  ·rw[List.getElem?_set_ne (Ne.symm hj)]at h;exact .inr ⟨hj,h⟩
 refine X.step (ao.refl _) (λj o e=>?_) (λb hb=>⟨rfl,(X.owned hb).1,(X.owned hb).2.2⟩) (λj ys b e1 e2=>?_) X.there
 ·rcases gs e with⟨_,z⟩|⟨hj,z⟩
  ·exact absurd z.symm (hn o)
  ·exact⟨z,h1 j hj⟩
 ·rcases gs e1 with⟨rfl,z⟩|⟨hj,z⟩
  ·exact hw ys b z.symm e2
  ·rw[h1 j hj]at e2;exact X.gv j ys b z e2
theorem wU.none{Y:bz}{F:Hp}{ah:Sd}{σ:St}{H:Hp}(h:∀(i:Nat) (o:O),ah[i]?≠some (some (.obj o)))(abb:k8 F)(hth:∀b∈Y.ob,H b≠none)(hz:∀b∈Y.ob,Y.H0 b≠none:=by intro b hb;cases hb):wU Y F ah σ H where
 UY:=hz
 tab:=abb
 obj:=λi o e=>absurd e (h i o)
 o8:=λi _ o _ _ _ e=>absurd e (h i o)
 gv:=λ_ _ _ _ _ ⟨i,o,_,e,_⟩=>h i o e
 there:=hth
def Nw(H:Hp)(b:Addr)(o:HO):Prop:=H b=none\/∃vs,o=.tup vs
structure RS(Y:bz)(F:Hp)(ah:Sd)(σ:St)(H:Hp):Prop where
 len:ah.length=σ.length
 lo:ao Y.F0 F
 fr:ao F H
 eS:∀b o,F b=some o->Y.F0 b=some o\/Nw Y.H0 b o
 old:∀b o,Y.H0 b=some o->b∉Y.zf->H b=some o
 sh:∀(i:Nat) (d:D),ah[i]?=some (some (.sh d))->∃v,σ[i]?=some (some v)/\Rep F v d
 own:∀(i:Nat) (xs:List D),ah[i]?=some (some (.own xs))->∃a vs,σ[i]?=some (some (.ref a))/\H a=some (.lst vs)/\aC F vs xs/\F a=none/\(Y.H0 a=none\/a∈Y.Vy)
 dis:∀(i j:Nat) (xs ys:List D) (a:Addr),ah[i]?=some (some (.own xs))->ah[j]?=some (some (.own ys))->σ[i]?=some (some (.ref a))->σ[j]?=some (some (.ref a))->i=j
 io:∀p∈Y.io,σ[p.1]?=some (some (.ref p.2))/\∃xs,ah[p.1]?=some (some (.own xs))
 ob:wU Y F ah σ H
theorem FT{F H:Hp}{p:Addr}{o:HO}(s:ao F H):ao (upd F p o) (upd H p o):=λb u e=>by
 by_cases hb:b=p
 ·subst hb;rw[ay]at e ⊢;exact e
 ·rw[aq hb]at e ⊢;exact s b u e
theorem same_none{F H:Hp}(s:ao F H){p:Addr}(h:H p=none):F p=none:=s.free h
theorem RS.bW{Y:bz}{F:Hp}{ah:Sd}{σ:St}{H:Hp}{p:Addr}(R:RS Y F ah σ H)(h:H p=none):Y.H0 p=none/\p∉Y.zf:=by
 have cU:p∉Y.zf:=λhm=>by
  rcases List.mem_append.mp hm with hm|hm
  case inr=>exact R.ob.there p hm h
  obtain⟨q,hq,e⟩:=List.mem_map.mp hm;obtain⟨h1,xs,h2⟩:=R.io q hq;obtain⟨a,vs,h3,h4,_⟩:=R.own _ _ h2;rw[h1]at h3;cases h3;rw[e,h]at h4;cases h4
 refine⟨?_,cU⟩;cases e:Y.H0 p with
 | none=>rfl
 | some o=>rw[R.old p o e cU]at h;cases h
theorem RS.alloc{Y:bz}{F:Hp}{ah:Sd}{σ:St}{H:Hp}{p:Addr}{o:HO}(R:RS Y F ah σ H)(h:H p=none):RS Y (upd F p o) ah σ (upd H p o) where
 len:=R.len
 lo:=R.lo.trans (aJ (same_none R.fr h))
 fr:=FT R.fr
 eS:=λb u e=>by
  by_cases hb:b=p
  ·subst hb;exact .inr (.inl (R.bW h).1)
  ·rw[aq hb]at e;exact R.eS b u e
 old:=λb u e n=>by
  have:=R.old b u e n;rw[aq (aZ this h)];exact this
 sh:=λi d e=>by
  obtain⟨v,h1,h2⟩:=R.sh i d e;exact⟨v,h1,h2.mono (aJ (same_none R.fr h))⟩
 own:=λi xs e=>by
  obtain⟨a,vs,h1,h2,h3,h4,h5⟩:=R.own i xs e;have cy:=aZ h2 h;exact⟨a,vs,h1,by rw[aq cy];exact h2,h3.mono (aJ (same_none R.fr h)),by rw[aq cy];exact h4,h5⟩
 dis:=R.dis
 io:=R.io
 ob:=R.ob.step (aJ (same_none R.fr h)) (λi o e=>⟨e,rfl⟩) (λb hb=>by
  obtain⟨w1,w2,w3⟩:=R.ob.owned hb;have cy:b≠p:=λz=>w2 (z ▸ h);exact⟨aq cy,by rw[aq cy];exact w1,w3⟩) (λj ys b e1 e2=>R.ob.gv j ys b e1 e2) λb hb=>by
  have cy:b≠p:=λz=>R.ob.there b hb (z ▸ h);rw[aq cy];exact R.ob.there b hb
theorem RS.nD{Y:bz}{F:Hp}{ah:Sd}{σ:St}{H:Hp}{p:Addr}{o:HO}(R:RS Y F ah σ H)(h:H p=none):RS Y F ah σ (upd H p o) where
 len:=R.len
 lo:=R.lo
 fr:=R.fr.trans (aJ h)
 eS:=R.eS
 old:=λb u e n=>aJ h b u (R.old b u e n)
 sh:=R.sh
 own:=λi xs e=>by
  obtain⟨a,vs,h1,h2,h3,h4,h5⟩:=R.own i xs e;exact⟨a,vs,h1,aJ h a _ h2,h3,h4,h5⟩
 dis:=R.dis
 io:=R.io
 ob:=R.ob.step (ao.refl _) (λi o e=>⟨e,rfl⟩) (λb hb=>by
  obtain⟨w1,w2,w3⟩:=R.ob.owned hb;have cy:b≠p:=λz=>w2 (z ▸ h);exact⟨aq cy,w1,w3⟩) (λj ys b e1 e2=>R.ob.gv j ys b e1 e2) λb hb=>by
  have cy:b≠p:=λz=>R.ob.there b hb (z ▸ h);rw[aq cy];exact R.ob.there b hb
inductive EV where
 | val (d:D)|var (i:Nat)|own (xs:List D)|obj (o:O)|any
inductive OV where
 | val (d:D)|var (i:Nat)|any
abbrev TX:=Sd->(EV->Sd->Prop)->Prop
abbrev TV:=Sd->(OV->Sd->Prop)->Prop
abbrev TD:=Sd->(D->Sd->Prop)->Prop
abbrev TB:=Sd->(Bool->Sd->Prop)->Prop
abbrev eZ:=Sd->(List D->Sd->Prop)->Prop
structure dc(ah:Sd)(σ:St)(a:Addr):Prop where
 own:∀(j:Nat) (ys:List D),ah[j]?=some (some (.own ys))->σ[j]?≠some (some (.ref a))
 QC:¬iL ah σ a
instance {ah:Sd} {σ:St} {a:Addr}:CoeFun (dc ah σ a) λ_=>∀(j:Nat) (ys:List D),ah[j]?=some (some (.own ys))->σ[j]?≠some (some (.ref a)):=⟨dc.own⟩
theorem RS.de{Y:bz}{F:Hp}{ah:Sd}{σ:St}{H:Hp}(R:RS Y F ah σ H){a:Addr}(h:H a=none):dc ah σ a:=by
 refine⟨λj ys e z=>?_,λz=>(R.ob.owned z).2.1 h⟩;obtain⟨b,us,e1,e2,_⟩:=R.own j ys e;rw[e1]at z;cases z;rw[h]at e2;cases e2
def xk(F:Hp)(σ:St)(v:V):OV->Prop
 | .val d=>Rep F v d
 | .var i=>σ[i]?=some (some v)
 | .any=>True
def Ht(Y:bz)(F H:Hp)(ah:Sd)(σ:St)(v:V):EV->Prop
 | .val d=>Rep F v d
 | .var i=>σ[i]?=some (some v)
 | .own xs=>∃a vs,v=.ref a/\H a=some (.lst vs)/\aC F vs xs/\F a=none/\Y.H0 a=none/\dc ah σ a
 | .obj o=>∃a,v=.ref a/\o.rep F H a/\∀b∈o.fp a,F b=none/\H b≠none/\Y.H0 b=none/\dc ah σ b
 | .any=>True
def lX(Y:bz)(t:TX):TE:=λσ H Q=>∃F ah Qd,RS Y F ah σ H/\t ah Qd/\∀v H' F' x aA,ao F F'->RS Y F' aA σ H'->Ht Y F' H' aA σ v x->Qd x aA->Q v H'
def lO(Y:bz)(t:TV):TE:=λσ H Q=>∃F ah Qd,RS Y F ah σ H/\t ah Qd/\∀v H' F' x aA,ao F F'->RS Y F' aA σ H'->xk F' σ v x->Qd x aA->Q v H'
def lD(Y:bz)(t:TD):TE:=λσ H Q=>∃F ah Qd,RS Y F ah σ H/\t ah Qd/\∀v H' F' x aA,ao F F'->RS Y F' aA σ H'->Rep F' v x->Qd x aA->Q v H'
def lB(Y:bz)(t:TB):TT:=λσ H Q=>∃F ah Qd,RS Y F ah σ H/\t ah Qd/\∀b H' F' aA,ao F F'->RS Y F' aA σ H'->Qd b aA->Q b H'
def lDs(Y:bz)(t:eZ):TA:=λσ H Q=>∃F ah Qd,RS Y F ah σ H/\t ah Qd/\∀vs H' F' xs aA,ao F F'->RS Y F' aA σ H'->aC F' vs xs->Qd xs aA->Q vs H'
structure GE where
 P:Program
 w:World
 K:ab4
 mg:Str->Option Value
 base:Heap
structure Stat where
 N:List Str
 sc:List (Str×NameKind)
 ios:List Nat:=[]
 Ce:Bool:=false
 /-- within an except suite -/
 jl:Bool:=false
 /-- a raise may stand here -/
 rs:Bool:=false
 /-- what is wanted where an exception of a class leaves -/
 ex:Str->Sd->Prop:=λ_ _=>False
def aaQ(a T:Addr)(c:Str):HO:=.ext λh=>∃o vs a0,h.get? a=some o/\o.cls=.ref (KF.cls c)/\o.data=.fields vs/\vs[0]?=some a0/\vs[1]?=some (.ref T)
def tbO(T:Addr):HO:=.ext λh=>∃o ts,h.get? T=some o/\o.data=.fields ts/\ts[3]?=some .none
structure VZ(X:Cx)(Y:bz)(F H:Hp)(a T:Addr)(c:Str):Prop where
 fa:F a=none
 fT:F T=none
 ha:H a=some (aaQ a T c)
 hT:H T=some (tbO T)
 ne:a≠T
 na:Y.H0 a=none
 nT:Y.H0 T=none
 la:X.c5.heap.get? a=none
 lT:X.c5.heap.get? T=none
def abl(a:Addr)(c:Str):HO:=.ext λh=>∃o vs a0,h.get? a=some o/\o.cls=.ref (KF.cls c)/\o.data=.fields vs/\vs[0]?=some a0/\vs[1]?=some .none
structure dJ(X:Cx)(G:GE)(k:Nat)(S:Stat)(Y:bz):Prop where
 P:X.prog=G.P
 w:X.w=G.w
 K:X.K=G.K
 kf:X.K=KF.K
 mg:X.mg=G.mg
 base:X.base=G.base
 N:X.N=S.N
 sc:X.env.scope.names=S.sc
 nd:S.N.Nodup
 ios:∀p∈Y.io,p.1∈S.ios
 obs:S.Ce=false->S.ios=[]->Y.ob=[]
 calm:S.jl=false->X.calm=true
 kind:X.env.scope.kind=.function
 fn:S.Ce=false->∀x,S.sc.lookup x=some .cell->X.fn x=true
 hd:S.jl=false->X.A.handled=none
 dp:X.A.depth+3*k+5<recursionLimit
 un:X.A.units+16*k+200<cLine
 po:S.jl=false->PassesOwn (model X.prog X.w) X.A X.env X.xe
 nx:S.Ce=false->X.ex=[]/\X.stack=X.env::X.outer/\X.env.frame=some X.env.locals
 exc:∀c ah,S.ex c ah->∀pins σ H F s a T,L2.Inv X pins σ H s->RS Y F ah σ H->VZ X Y F H a T c->X.xe (.ref a) s
 made:S.rs=true->∀c ah,S.ex c ah->∀pins σ H F s a,L2.Inv X pins σ H s->RS Y F ah σ H->H a=some (abl a c)->Y.H0 a=none->X.c5.heap.get? a=none->X.xe (.ref a) s
theorem dJ.room{X:Cx}{G:GE}{k:Nat}{S:Stat}{Y:bz}(ok:dJ X G k S Y)(h:S.jl=false):d4 k X.A:=⟨ok.hd h,ok.dp,ok.un⟩
theorem dJ.units{X:Cx}{G:GE}{k:Nat}{S:Stat}{Y:bz}(ok:dJ X G k S Y):X.A.units+64<cLine:=by have:=ok.un;omega
variable {G:GE}{k:Nat}{S:Stat}
structure EX(G:GE)(k:Nat)(S:Stat)(e:Expr)(t:TX) :Prop where
 run:∀X Y,dJ X G k S Y->PE X e (lX Y t)
instance {G:GE} {k:Nat} {S:Stat} {e:Expr} {t:TX} :CoeFun (EX G k S e t) λ_=>∀X Y,dJ X G k S Y->PE X e (lX Y t):=⟨EX.run⟩
structure EO(G:GE)(k:Nat)(S:Stat)(e:Expr)(t:TV) :Prop where
 run:∀X Y,dJ X G k S Y->PE X e (lO Y t)
instance {G:GE} {k:Nat} {S:Stat} {e:Expr} {t:TV} :CoeFun (EO G k S e t) λ_=>∀X Y,dJ X G k S Y->PE X e (lO Y t):=⟨EO.run⟩
structure ED(G:GE)(k:Nat)(S:Stat)(e:Expr)(t:TD) :Prop where
 run:∀X Y,dJ X G k S Y->PE X e (lD Y t)
instance {G:GE} {k:Nat} {S:Stat} {e:Expr} {t:TD} :CoeFun (ED G k S e t) λ_=>∀X Y,dJ X G k S Y->PE X e (lD Y t):=⟨ED.run⟩
structure EB(G:GE)(k:Nat)(S:Stat)(e:Expr)(t:TB) :Prop where
 run:∀X Y,dJ X G k S Y->PT X e (lB Y t)
instance {G:GE} {k:Nat} {S:Stat} {e:Expr} {t:TB} :CoeFun (EB G k S e t) λ_=>∀X Y,dJ X G k S Y->PT X e (lB Y t):=⟨EB.run⟩
structure xa(G:GE)(k:Nat)(S:Stat)(es:List Expr)(t:eZ) :Prop where
 run:∀X Y,dJ X G k S Y->PA X es (lDs Y t)
instance {G:GE} {k:Nat} {S:Stat} {es:List Expr} {t:eZ} :CoeFun (xa G k S es t) λ_=>∀X Y,dJ X G k S Y->PA X es (lDs Y t):=⟨xa.run⟩
def Sy:Expr->Bool
 | .Starred _ _=>false
 | _=>true
theorem cM{e:Expr}{es:List Expr}{env:Env}(h:Sy e=true):ab7 (e::es) env=(false,eval e env)::ab7 es env:=by
 cases e<;>first|rfl|cases h
theorem aO{X:Cx}{e:Expr}{t t':TE}(h:PE X e t)(i:∀σ H Q,t' σ H Q->t σ H Q):PE X e t':=λpins s σ H Q I q=>h pins s σ H Q I (i σ H Q q)
theorem oC{X:Cx}{e:Expr}{t t':TT}(h:PT X e t)(i:∀σ H Q,t' σ H Q->t σ H Q):PT X e t':=λpins s σ H Q I q=>h pins s σ H Q I (i σ H Q q)
theorem gR{X:Cx}{e:List Expr}{t t':TA}(h:PA X e t)(i:∀σ H Q,t' σ H Q->t σ H Q):PA X e t':=λpos pins s σ H Q I q=>h pos pins s σ H Q I (i σ H Q q)
theorem cf{X:Cx}{e:Stmt}{t t':TS}(h:PS X e t)(i:∀D σ H,t' D σ H->t D σ H):PS X e t':=λpins s σ H D I q=>h pins s σ H D I (i D σ H q)
theorem sy{X:Cx}{e:List Stmt}{t t':TS}(h:qU X e t)(i:∀D σ H,t' D σ H->t D σ H):qU X e t':=λpins s σ H D I q=>h pins s σ H D I (i D σ H q)
theorem RS.Av{Y:bz}{F:Hp}{ah:Sd}{σ:St}{H:Hp}{a:Addr}{vs:List V}(R:RS Y F ah σ H)(h1:H a=some (.lst vs))(h2:F a=none)(h3:dc ah σ a)(h4:Y.H0 a=none):RS Y (upd F a (.lst vs)) ah σ H where
 len:=R.len
 lo:=R.lo.trans (aJ h2)
 fr:=λb o e=>by
  by_cases hb:b=a
  ·subst hb;rw[ay]at e;cases e;exact h1
  ·rw[aq hb]at e;exact R.fr b o e
 eS:=λb u e=>by
  by_cases hb:b=a
  ·subst hb;exact .inr (.inl h4)
  ·rw[aq hb]at e;exact R.eS b u e
 old:=R.old
 sh:=λi d e=>by
  obtain⟨v,q1,q2⟩:=R.sh i d e;exact⟨v,q1,q2.mono (aJ h2)⟩
 own:=λi xs e=>by
  obtain⟨b,us,q1,q2,q3,q4,q5⟩:=R.own i xs e;have cy:b≠a:=λz=>h3 i xs e (by rw[q1,z])
  exact⟨b,us,q1,q2,q3.mono (aJ h2),by rw[aq cy];exact q4,q5⟩
 dis:=R.dis
 io:=R.io
 ob:=R.ob.step (aJ h2) (λi o e=>⟨e,rfl⟩) (λb hb=>by
  obtain⟨w1,w2,w3⟩:=R.ob.owned hb;have cy:b≠a:=λz=>h3.QC (z ▸ hb);exact⟨rfl,by rw[aq cy];exact w1,w3⟩) (λj ys b e1 e2=>R.ob.gv j ys b e1 e2) R.ob.there
def fzV:EV->OV
 | .val d=>.val d
 | .var i=>.var i
 | .own xs=>.val (.lst xs)
 | .obj _=>.any
 | .any=>.any
def bw(t:TX):TV:=λσ Q=>t σ λx av=>Q (fzV x) av
theorem bB{e:Expr}{t:TX}(h:EX G k S e t):EO G k S e (bw t):=.mk λX Y ok=>aO (h X Y ok) λσ H Q q=>by
 obtain⟨F,ah,Qd,R,q,K⟩:=q;refine⟨F,ah,_,R,q,λv H' F' x aA s R' r q'=>?_⟩;cases x with
 | val d=>exact K v H' F' (.val d) aA s R' r q'
 | var i=>exact K v H' F' (.var i) aA s R' r q'
 | own xs =>
  obtain⟨a,vs,rfl,h1,h2,h3,h4,h5⟩:=r;exact K _ H' _ (.val (.lst xs)) aA (s.trans (aJ h3)) (R'.Av h1 h3 h5 h4) (.lst (.inl ay) (h2.mono (aJ h3))) q'
 | obj o=>exact K v H' F' .any aA s R' trivial q'
 | any=>exact K v H' F' .any aA s R' trivial q'
def oxV:OV->EV
 | .val d=>.val d
 | .var i=>.var i
 | .any=>.any
def oX(t:TV):TX:=λσ Q=>t σ λx av=>Q (oxV x) av
theorem ik{e:Expr}{t:TV}(h:EO G k S e t):EX G k S e (oX t):=.mk λX Y ok=>aO (h X Y ok) λσ H Q q=>by
 obtain⟨F,ah,Qd,R,q,K⟩:=q;refine⟨F,ah,_,R,q,λv H' F' x aA s R' r q'=>?_⟩;cases x with
 | val d=>exact K v H' F' (.val d) aA s R' r q'
 | var i=>exact K v H' F' (.var i) aA s R' r q'
 | any=>exact K v H' F' .any aA s R' trivial q'
theorem aS{α:Type}{l:List (Option α)}{i:Nat}{x:α}{y:Option α}(h:l[i]?=some (some x)):(l.set i y)[i]?=some y:=by
 have:=(ab2.mp h).1;rw[List.getElem?_set_self this]
theorem bh{α:Type}{l:List (Option α)}{i j:Nat}{y:Option α}(h:j≠i):(l.set i y)[j]?=l[j]?:=by
 rw[List.getElem?_set_ne (Ne.symm h)]
theorem RS.lq{Y:bz}{F:Hp}{ah:Sd}{σ:St}{H:Hp}{i:Nat}{xs:List D}(R:RS Y F ah σ H)(h:ah[i]?=some (some (.own xs)))(cU:∀p∈Y.io,p.1≠i):
  ∃F' v,ao F F'/\RS Y F' (ah.set i (some (.sh (.lst xs)))) σ H/\σ[i]?=some (some v)/\Rep F' v (.lst xs):=by
 obtain⟨a,vs,q1,q2,q3,q4,q5⟩:=R.own i xs h;have sm:=aJ (o:=.lst vs) q4;have rep:Rep (upd F a (.lst vs)) (.ref a) (.lst xs):=.lst (.inl ay) (q3.mono sm);have QA:Y.H0 a=none:=by
  rcases q5 with q5|q5
  ·exact q5
  ·obtain⟨p,hp,e⟩:=List.mem_map.mp q5
   obtain⟨w1,ys,w2⟩:=R.io p hp;exact absurd (R.dis p.1 i ys xs a w2 h (by rw[w1,e]) q1) (cU p hp)
 have obF:wU Y (upd F a (.lst vs)) (ah.set i (some (.sh (.lst xs)))) σ H:=R.ob.step sm (λj o e=>by
  have hj:j≠i:=λz=>by subst z;rw[aS h]at e;cases e
  rw[bh hj]at e;exact⟨e,rfl⟩) (λb hb=>by
  obtain⟨w1,w2,w3⟩:=R.ob.owned hb;have cy:b≠a:=λz=>R.ob.gv i xs a h q1 (z ▸ hb);exact⟨rfl,by rw[aq cy];exact w1,w3⟩) (λj ys b e1 e2=>by
  have hj:j≠i:=λz=>by subst z;rw[aS h]at e1;cases e1
  rw[bh hj]at e1;exact R.ob.gv j ys b e1 e2) R.ob.there
 refine⟨upd F a (.lst vs),.ref a,sm,⟨by simpa using R.len,R.lo.trans sm,λb o e=>?_,λb o e=>?_,R.old,λj d e=>?_,λj ys e=>?_,λj l ys zs b e1 e2 e3 e4=>?_,λp hp=>?_,obF⟩,q1,rep⟩
 ·by_cases hb:b=a
  ·subst hb;rw[ay]at e;cases e;exact q2
  ·rw[aq hb]at e;exact R.fr b o e
 ·by_cases hb:b=a
  ·subst hb;exact .inr (.inl QA)
  ·rw[aq hb]at e;exact R.eS b o e
 ·by_cases hj:j=i
  ·subst hj
   rw[aS h]at e;cases e;exact⟨_,q1,rep⟩
  ·rw[bh hj]at e
   obtain⟨v,w1,w2⟩:=R.sh j d e;exact⟨v,w1,w2.mono sm⟩
 ·have hj:j≠i:=λz=>by subst z;rw[aS h]at e;cases e
  rw[bh hj]at e;obtain⟨b,us,w1,w2,w3,w4,w5⟩:=R.own j ys e;have cy:b≠a:=λz=>hj (R.dis j i ys xs a e h (z ▸ w1) q1);exact⟨b,us,w1,w2,w3.mono sm,by rw[aq cy];exact w4,w5⟩
 ·have hj:j≠i:=λz=>by subst z;rw[aS h]at e1;cases e1
  have hl:l≠i:=λz=>by subst z;rw[aS h]at e2;cases e2
  rw[bh hj]at e1;rw[bh hl]at e2;exact R.dis j l ys zs b e1 e2 e3 e4
 ·obtain⟨w1,ys,w2⟩:=R.io p hp
  exact⟨w1,ys,by rw[bh (cU p hp)];exact w2⟩
def U8(ios:List Nat)(x:OV)(av:Sd)(Q:D->Sd->Prop):Prop:=match x with
 | .val d=>Q d av
 | .any=>False
 | .var i=>match av[i]? with
  | some (some (.own xs))=>i∉ios/\Q (.lst xs) (av.set i (some (.sh (.lst xs))))
  | some (some (.sh d))=>Q d av
  | _=>False
theorem kX{ios:List Nat}{d:D}{av:Sd}{Q:D->Sd->Prop}:U8 ios (.val d) av Q=Q d av:=rfl
theorem kY{ios:List Nat}{i:Nat}{av:Sd}{Q:D->Sd->Prop}:U8 ios (.var i) av Q=(match av[i]? with
  | some (some (.own xs))=>i∉ios/\Q (.lst xs) (av.set i (some (.sh (.lst xs))))
  | some (some (.sh d))=>Q d av
  | _=>False):=rfl
def aj(ios:List Nat)(t:TV):TD:=λσ Q=>t σ λx av=>U8 ios x av Q
theorem aH{e:Expr}{t:TV}(h:EO G k S e t):ED G k S e (aj S.ios t):=.mk λX Y ok=>aO (h X Y ok) λσ H Q q=>by
 obtain⟨F,ah,Qd,R,q,K⟩:=q;refine⟨F,ah,_,R,q,λv H' F' x aA s R' r q'=>?_⟩;cases x with
 | val d=>exact K v H' F' d aA s R' r q'
 | any=>exact False.elim q'
 | var i =>
  have r:σ[i]?=some (some v):=r;rw[kY]at q'
  split at q'
  ·rename_i xs e
   obtain⟨hi,q'⟩:=q';obtain⟨F2,v2,s2,R2,e2,r2⟩:=R'.lq e λp hp z=>hi (z ▸ ok.ios p hp);rw[r]at e2;cases e2;exact K v H' F2 _ _ (s.trans s2) R2 r2 q'
  ·rename_i d e
   obtain⟨v2,e2,r2⟩:=R'.sh i d e;rw[r]at e2;cases e2;exact K v H' F' d aA s R' r2 q'
  ·exact q'.elim
def ae(i:Nat):TV:=λσ Q=>match σ[i]? with
 | some (some (.sh d))=>Q (.val d) σ
 | some (some (.own _))=>Q (.var i) σ
 | _=>False
theorem af(i:Nat){x:Str}{pos:Pos}(hN:S.N[i]?=some x:=by rfl)(hv:S.sc.lookup x=some .local\/S.sc.lookup x=some .cell\/S.sc.lookup x=some .free:=by first|exact Or.inl rfl|exact Or.inr (Or.inl rfl)|exact Or.inr (Or.inr rfl))
  (hd:(x==("__debug__":Str))=false:=by decide) (mY:(x==("__classdict__":Str))=false:=by decide):EO G k S (.Name x pos) (ae i):=.mk λX Y ok =>
 aO (jg (X:=X) (i:=i) (by rw[ok.N];exact hN) (by unfold Hu;rw[ok.sc];exact hv) hd mY) λσ H Q q=>by
  obtain⟨F,ah,Qd,R,q,K⟩:=q;unfold ae at q
  split at q
  ·rename_i d e
   obtain⟨v,e2,r2⟩:=R.sh i d e;exact⟨v,e2,K v H F (.val d) ah (ao.refl _) R r2 q⟩
  ·rename_i xs e
   obtain⟨a,vs,e2,_⟩:=R.own i xs e;exact⟨_,e2,K _ H F (.var i) ah (ao.refl _) R e2 q⟩
  ·exact q.elim
def aY(d:D):TV:=λσ Q=>Q (.val d) σ
theorem nZ{Y:bz}{v:V}{d:D}(r:∀F,Rep F v d)(σ:St)(H:Hp)(Q:VK)(q:lO Y (aY d) σ H Q):tC v σ H Q:=by
 obtain⟨F,ah,Qd,R,q,K⟩:=q;exact K v H F (.val d) ah (ao.refl _) R (r F) q
theorem ax{i j pos}:EO G k S (.Constant (.int i) j pos) (aY (.int i)):=.mk λ_ _ _=>aO Sj (nZ λ_=>.int i)
theorem pB{b j pos}:EO G k S (.Constant (.bool b) j pos) (aY (.bl b)):=.mk λ_ _ _=>aO Zu (nZ λ_=>.bl b)
theorem iX{j pos}:EO G k S (.Constant .none j pos) (aY .aQ):=.mk λ_ _ _=>aO Sl (nZ λ_=>.aQ)
theorem FJ{x j pos}:EO G k S (.Constant (.str x) j pos) (aY (.str x)):=.mk λ_ _ _=>aO Sr (nZ λ_=>.str x)
def L4(G:GE)(x:Str)(d:D):Prop:=∃u v,G.mg x=some u/\RelV v u/\∀F,Rep F v d
theorem dy{X:Cx}{Y:bz}(ok:dJ X G k S Y){x:Str}(h:S.sc.lookup x=some .globalImplicit):Gl X x:=by
 unfold Gl;show X.env.scope.names.lookup x=_;rw[ok.sc];exact h
theorem FD{x:Str}{d:D}{pos:Pos}(h:L4 G x d)(hg:S.sc.lookup x=some .globalImplicit:=by rfl)(hd:(x==("__debug__":Str))=false:=by decide):EO G k S (.Name x pos) (aY d):=.mk λX Y ok=>by
 obtain⟨u,v,h1,h2,h3⟩:=h;exact aO (Jr (dy ok hg) (by rw[ok.mg];exact h1) h2 hd) (nZ h3)
def cS(σ:Sd):OV->Option D
 | .val d=>some d
 | .any=>none
 | .var i=>match σ[i]? with
  | some (some (.sh d))=>some d
  | some (some (.own xs))=>some (.lst xs)
  | some (some (.obj o))=>o.view
  | _=>none
theorem Rep.h{F H:Hp}(s:ao F H){v:V}{d:D}(r:Rep F v d):bS F H v d:=by
 cases d with
 | lst xs =>
  cases r with
  | lst h r=>exact⟨_,_,rfl,Rd.mono s h,r⟩
 | dM kvs =>
  cases r with
  | dM h r=>exact⟨_,_,rfl,s _ _ h,r⟩
 | kp w c e kvs =>
  cases r with
  | kp h1 h2 r=>exact⟨_,_,_,_,rfl,s _ _ h1,s _ _ h2,r⟩
 | _=>exact r
theorem RS.cS{Y:bz}{F:Hp}{ah:Sd}{σ:St}{H:Hp}(R:RS Y F ah σ H){v:V}{x:OV}{d:D}(r:xk F σ v x)(e:cS ah x=some d):bS F H v d:=by
 cases x with
 | val d'=>cases e;exact Rep.h R.fr r
 | any=>cases e
 | var i =>
  have r:σ[i]?=some (some v):=r;have e:(match ah[i]? with|some (some (.sh d))=>some d|some (some (.own xs))=>some (.lst xs)|some (some (.obj o))=>o.view|_=>none)=some d:=e
  split at e
  ·rename_i d' q
   cases e;obtain⟨v2,e2,r2⟩:=R.sh i d q;rw[r]at e2;cases e2;exact Rep.h R.fr r2
  ·rename_i xs q
   cases e;obtain⟨a,vs,e2,h2,h3,_⟩:=R.own i xs q;rw[r]at e2;cases e2;exact⟨a,vs,rfl,.inl h2,h3⟩
  ·rename_i o q
   obtain⟨a,e2,h2,_⟩:=R.ob.obj i o q;rw[r]at e2;cases e2;exact o.sees h2 e
  ·cases e
theorem bS.int{F H:Hp}{v:V}{i:Int}(r:bS F H v (.int i)):v=.int i:=by cases(show Rep F v (.int i)from r);rfl
theorem bS.bl{F H:Hp}{v:V}{i:Bool}(r:bS F H v (.bl i)):v=.bl i:=by cases(show Rep F v (.bl i)from r);rfl
theorem bS.str{F H:Hp}{v:V}{i:Str}(r:bS F H v (.str i)):v=.str i:=by cases(show Rep F v (.str i)from r);rfl
theorem bS.aQ{F H:Hp}{v:V}(r:bS F H v .aQ):v=.aQ:=by cases(show Rep F v .aQ from r);rfl
theorem bS.tup{F H:Hp}(s:ao F H){v:V}{xs:List D}(r:bS F H v (.tup xs)):∃a vs,v=.ref a/\H a=some (.tup vs)/\aC F vs xs:=by
 cases(show Rep F v (.tup xs)from r)with
 | tup h r=>exact⟨_,_,rfl,s _ _ h,r⟩
theorem bS.lst{F H:Hp}{v:V}{xs:List D}(r:bS F H v (.lst xs)):∃a vs,v=.ref a/\Rd H a (.lst vs)/\aC F vs xs:=r
def Goes(Y:bz)(F:Hp)(ah:Sd)(σ:St)(Qd:EV->Prop)(Q:VK):Prop:=∀v H' F' r,ao F F'->RS Y F' ah σ H'->Ht Y F' H' ah σ v r->Qd r->Q v H'
theorem Goes.val{Y:bz}{F:Hp}{ah:Sd}{σ:St}{Qd:EV->Prop}{Q:VK}(g:Goes Y F ah σ Qd Q){H:Hp}(R:RS Y F ah σ H){v:V}{d:D}(r:Rep F v d)(q:Qd (.val d)):Q v H:=g v H F (.val d) (ao.refl _) R r q
theorem Goes.own{Y:bz}{F:Hp}{ah:Sd}{σ:St}{Qd:EV->Prop}{Q:VK}(g:Goes Y F ah σ Qd Q){H:Hp}(R:RS Y F ah σ H){vs:List V}{xs:List D}(r:aC F vs xs)(q:Qd (.own xs)):∀p,H p=none->Q (.ref p) (upd H p (.lst vs)):=λp hp=>by
 refine g (.ref p) _ F (.own xs) (ao.refl _) (R.nD hp) ⟨p,vs,rfl,ay,r,same_none R.fr hp,(R.bW hp).1,⟨λj ys e z=>?_,λz=>(R.ob.owned z).2.1 hp⟩⟩ q;obtain⟨a,us,e1,e2,_⟩:=R.own j ys e;rw[e1]at z;cases z;rw[hp]at e2;cases e2
theorem Goes.tup{Y:bz}{F:Hp}{ah:Sd}{σ:St}{Qd:EV->Prop}{Q:VK}(g:Goes Y F ah σ Qd Q){H:Hp}(R:RS Y F ah σ H){vs:List V}{xs:List D}(r:aC F vs xs)(q:Qd (.val (.tup xs))):∀p,H p=none->Q (.ref p) (upd H p (.tup vs)):=λp hp=>by
 have sm:=aJ (o:=.tup vs) (same_none R.fr hp);exact g (.ref p) _ _ (.val (.tup xs)) sm (R.alloc hp) (.tup ay (r.mono sm)) q
def hZ(r:R2)(f:D->D->(EV->Prop)->Prop):Prop:=
 ∀Y F H ah σ v u x y Qd Q,RS Y F ah σ H->bS F H v x->bS F H u y->f x y Qd->Goes Y F ah σ Qd Q->r v u H Q
def bC(f:D->D->(EV->Prop)->Prop)(ta tb:TV):TX:=λσ Q=>ta σ λx av=>tb av λy aL=>match cS aL x,cS aL y with
 | some a,some b=>f a b λr=>Q r aL
 | _,_=>False
theorem xk.mono{F F':Hp}(s:ao F F'){σ:St}{v:V}{x:OV}(r:xk F σ v x):xk F' σ v x:=by
 cases x with
 | val d=>exact Rep.mono s r
 | var i=>exact r
 | any=>trivial
theorem yt{Y:bz}{r:R2}{f:D->D->(EV->Prop)->Prop}(hs:hZ r f){ta tb:TV}{σ:St}{H:Hp}{Q:VK}(q:lX Y (bC f ta tb) σ H Q):UJ r (lO Y ta) (lO Y tb) σ H Q:=by
 obtain⟨F,ah,Qd,R,q,K⟩:=q;refine⟨F,ah,_,R,q,λv1 H1 F1 x av s1 R1 r1 q1=>?_⟩;refine⟨F1,av,_,R1,q1,λv2 H2 F2 y aL s2 R2 r2 q2=>?_⟩
 split at q2
 ·rename_i a b ea eb
  exact hs Y F2 H2 aL σ v1 v2 a b _ Q R2 (R2.cS (r1.mono s2) ea) (R2.cS r2 eb) q2 λv H' F' r s R' rr qq=>K v H' F' r aL ((s1.trans s2).trans s) R' rr qq
 ·exact q2.elim
theorem qE{op:Operator}{f:D->D->(EV->Prop)->Prop}{r:ab4->R2}(ho:∀X,hW X (binaryOp op) (r X.K))(hs:∀K,hZ (r K) f){a b:Expr}{ta tb:TV}{pos:Pos}(ha:EO G k S a ta)(hb:EO G k S b tb):
  EX G k S (.BinOp a op b pos) (bC f ta tb):=.mk λX Y ok=>aO (Zw (ho X) (ha X Y ok) (hb X Y ok)) λσ H Q q=>yt (hs X.K) q
def eQ:D->D->(EV->Prop)->Prop
 | .int i,.int j,Q=>Q (.val (.int (i+j)))
 | .str a,.str b,Q=>a.length+b.length<=aca/\Q (.val (.str (a++b)))
 | .lst a,.lst b,Q=>a.length+b.length<=aca/\Q (.own (a++b))
 | .tup a,.tup b,Q=>(a≠[]/\a.length+b.length<=aca)/\Q (.val (.tup (a++b)))
 | _,_,_=>False
def LK:R2:=λx y H Q=>∃l b xs zs,x=.ref l/\y=.ref b/\Rd H l (.lst xs)/\Rd H b (.lst zs)/\xs.length+zs.length<=aca/\∀p,H p=none->Q (.ref p) (upd H p (.lst (xs++zs)))
theorem Inv.rdL{X:Cx}{pins:List (Addr×Obj)}{σ:St}{H:Hp}{s:Shared}{l:Addr}{xs:List V}(I:L2.Inv X pins σ H s)(h:Rd H l (.lst xs)):
  xs.length<=aca/\∃(its:List Value) (n:Nat),Vals xs its/\xs.length=its.length/\s.heap.get? l=some {cls:=.type "list",data:=.seq its.toArray n}:=by
 obtain⟨z,its,n,r,e⟩:=L2.Rd.ok h I.bG;exact⟨z,its,n,r,r.length,e⟩
theorem Jf{X:Cx}:hW X (binaryOp .Add) LK:=by
 intro pins s σ H x y v u Q I rx ry h;obtain⟨l,b,xs,zs,rfl,rfl,hH,hB,hz,q⟩:=h;cases rx;cases ry;obtain⟨z,its,n,r,hl,e⟩:=Inv.rdL I hH;obtain⟨z2,vC,n2,r2,pj,e2⟩:=Inv.rdL I hB;refine PySem.P.add_list e e2 ?_ (by rw[acg,acg];omega)
 have ea:its.toArray++vC.toArray=(its++vC).toArray:=by simp
 rw[ea];exact⟨.ref _,_,I.Qw (t':=s.toks) (r.append r2) (by rw[List.length_append];omega),rfl,q _ I.fresh⟩
def JC(K:ab4):R2:=λx y H Q=>(∃i j,x=.int i/\y=.int j/\Q (.int (i+j)) H)\/(∃i j,x=.str i/\y=.str j/\i.length+j.length<=aca/\Q (.str (i++j)) H)\/LK x y H Q\/LL K x y H Q
theorem A7{X:Cx}:hW X (binaryOp .Add) (JC X.K):=RK.or (xV.or (Jf.or Jg))
theorem Af(K:ab4):hZ (JC K) eQ:=by
 intro Y F H ah σ v u x y Qd Q R rx ry q g;unfold eQ at q
 split at q
 ·obtain rfl:=rx.int;obtain rfl:=ry.int
  exact .inl ⟨_,_,rfl,rfl,g.val R (.int _) q⟩
 ·obtain rfl:=rx.str;obtain rfl:=ry.str
  exact .inr (.inl ⟨_,_,rfl,rfl,q.1,g.val R (.str _) q.2⟩)
 ·obtain⟨a,vs,rfl,h1,r1⟩:=rx.lst;obtain⟨b,us,rfl,h2,r2⟩:=ry.lst
  exact .inr (.inr (.inl ⟨a,b,vs,us,rfl,rfl,h1,h2,by rw[r1.length,r2.length];exact q.1,g.own R (r1.append r2) q.2⟩))
 ·have rx':=rx
  obtain⟨a,vs,rfl,h1,r1⟩:=rx.tup R.fr;obtain⟨b,us,rfl,h2,r2⟩:=ry.tup R.fr;refine .inr (.inr (.inr ⟨a,b,vs,us,rfl,rfl,.of h1,.of h2,λz=>?_,by rw[r1.length,r2.length];exact q.1.2,λz=>?_,λ_=>g.tup R (r1.append r2) q.2⟩))
  ·subst z
   cases r1;exact q.1.1 rfl
  ·subst z
   cases r2;rw[List.append_nil]at q;exact g.val R rx' q.2
 ·exact q.elim
theorem dR{a b:Expr}{ta tb:TV}{pos:Pos}(ha:EO G k S a ta)(hb:EO G k S b tb):EX G k S (.BinOp a .Add b pos) (bC eQ ta tb):=qE (r:=JC) (λ_=>A7) Af ha hb
def Vx(C:Int->Int->Prop)(g:Int->Int->Int):D->D->(EV->Prop)->Prop
 | .int i,.int j,Q=>C i j/\Q (.val (.int (g i j)))
 | _,_,_=>False
theorem nQ{C:Int->Int->Prop}{g:Int->Int->Int}:hZ (rI C λi j=>.int (g i j)) (Vx C g):=by
 intro Y F H ah σ v u x y Qd Q R rx ry q gg;unfold Vx at q
 split at q
 ·obtain rfl:=rx.int;obtain rfl:=ry.int
  exact⟨_,_,rfl,rfl,q.1,gg.val R (.int _) q.2⟩
 ·exact q.elim
def Io(g:Int->Int->Int):D->D->(EV->Prop)->Prop
 | .int i,.int j,Q=>Q (.val (.int (g i j)))
 | _,_,_=>False
theorem AH{g:Int->Int->Int}:hZ (Hk λi j=>.int (g i j)) (Io g):=by
 intro Y F H ah σ v u x y Qd Q R rx ry q gg;unfold Io at q
 split at q
 ·obtain rfl:=rx.int;obtain rfl:=ry.int
  exact⟨_,_,rfl,rfl,gg.val R (.int _) q⟩
 ·exact q.elim
section
variable {a b:Expr}{ta tb:TV}{pos:Pos}
def oY:=Io λi j=>i-j
def vQ:=Vx (λ_ j=>0<j) λi j=>i%j
def pz:=Vx nz λi j=>i^j.toNat
theorem jQ(ha:EO G k S a ta)(hb:EO G k S b tb):EX G k S (.BinOp a .Sub b pos) (bC oY ta tb):=qE (r:=λ_=>_) (λ_=>RV) (λ_=>AH) ha hb
theorem qG(ha:EO G k S a ta)(hb:EO G k S b tb):EX G k S (.BinOp a .Mod b pos) (bC vQ ta tb):=qE (r:=λ_=>_) (λ_=>RO) (λ_=>nQ) ha hb
theorem mO(ha:EO G k S a ta)(hb:EO G k S b tb):EX G k S (.BinOp a .Pow b pos) (bC pz ta tb):=qE (r:=λ_=>_) (λ_=>RU) (λ_=>nQ) ha hb
end
def lK:D->D->(EV->Prop)->Prop
 | .int i,.int j,Q=>jn i j/\Q (.val (.int (i*j)))
 | .lst xs,.int j,Q=>(-(2^63)<=j/\j<2^63/\xs.length*j.toNat<=aca)/\Q (.own (List.replicate j.toNat xs).flatten)
 | _,_,_=>False
def LO:R2:=λx y H Q=>∃l k xs,x=.ref l/\y=.int k/\Rd H l (.lst xs)/\-(2^63)<=k/\k<2^63/\xs.length*k.toNat<=aca /\
 ∀p,H p=none->Q (.ref p) (upd H p (.lst (List.replicate k.toNat xs).flatten))
theorem Jh{X:Cx}:hW X (binaryOp .Mult) LO:=by
 intro pins s σ H x y v u Q I rx ry h;obtain⟨l,k,xs,rfl,rfl,hH,h1,h2,hz,q⟩:=h;cases rx;obtain⟨t,rfl⟩:=ry;obtain⟨z,its,n,r,hl,e⟩:=Inv.rdL I hH;have hlen:its.toArray.size*k.toNat<=aca:=by rw[acg,<- hl];exact hz
 have xF:¬its.toArray.size*k.toNat>(2^63-1)/8:=by
  have:(aca:Nat)<=(2^63-1)/8:=by decide
  omega
 have aaW:¬(!Builtin.List.listFitsIndex k)=true:=by
  rw[fitsIndex_both h1 h2];exact Bool.false_ne_true
 have Eg:¬Builtin.List.listTooLong (its.toArray.size*k.toNat)=true:=by
  rw[vV hlen];exact Bool.false_ne_true
 have El:List.foldl (λx1 x2=>x1++x2) #[] (List.replicate (if its.toArray.isEmpty=true then 0 else k.toNat) its.toArray)=(List.replicate k.toNat its).flatten.toArray:=by
  have f0:∀m:Nat,List.foldl (λx1 x2=>x1++x2) #[] (List.replicate m its.toArray)=(List.replicate m its).flatten.toArray:=λm=>by
   have:=foldl_rep its m [];rw[List.nil_append]at this;exact this
  rw[f0];cases its with
  | nil=>simp
  | cons a r'=>rw[if_neg (by simp)]
 refine wpAny_binaryOp_repeat_ref (T:="list") (U:="int") ∅ ⟨_,e,rfl⟩ (λs'=>typeIs_int s' k t) noFill_list_mul F.fills_int_mul F.slot_int_rmul repeat_list F.slot_int_index.lookup
  (call_meets F.slot_int_rmul (typeIs_int s k t) F.entry_int_rmul (F.args_int_rmul_2 _ _) (int___rmul___int_list k t l its.toArray n)
   ⟨e,rfl,⟨_,e,rfl⟩,call_meets F.slot_list_mul ⟨_,e,rfl⟩ F.entry_list_mul (F.args_list_mul_2 _ _) (AutoListH.list___mul___list_int_3 l its.toArray n k t aaW xF Eg) ⟨e,?_⟩⟩)
 rw[El];exact⟨.ref _,_,I.Qw (t':=s.toks) (r.rep k.toNat) (by rw[len_rep,Nat.mul_comm];exact hz),rfl,q _ I.fresh⟩
def ZQ:R2:=λx y H Q=>rI jn (λi j=>.int (i*j)) x y H Q\/LO x y H Q
theorem AZ:hZ ZQ lK:=by
 intro Y F H ah σ v u x y Qd Q R rx ry q g;unfold lK at q
 split at q
 ·obtain rfl:=rx.int;obtain rfl:=ry.int
  exact .inl ⟨_,_,rfl,rfl,q.1,g.val R (.int _) q.2⟩
 ·obtain⟨a,vs,rfl,h1,r1⟩:=rx.lst;obtain rfl:=ry.int
  exact .inr ⟨a,_,vs,rfl,rfl,h1,q.1.1,q.1.2.1,by rw[r1.length];exact q.1.2.2,g.own R (r1.rep _) q.2⟩
 ·exact q.elim
theorem jP{a b:Expr}{ta tb:TV}{pos:Pos}(ha:EO G k S a ta)(hb:EO G k S b tb):EX G k S (.BinOp a .Mult b pos) (bC lK ta tb):=qE (r:=λ_=>ZQ) (λ_=>RP.or Jh) (λ_=>AZ) ha hb
def JZ(t:TV):TV:=λσ Q=>t σ λx av=>match cS av x with
 | some (.int i)=>Q (.val (.int (-i))) av
 | _=>False
theorem LR{a:Expr}{ta:TV}{pos:Pos}(ha:EO G k S a ta):EO G k S (.UnaryOp .USub a pos) (JZ ta):=.mk λX Y ok=>aO (Zx U5 (ha X Y ok)) λσ H Q q=>by
 obtain⟨F,ah,Qd,R,q,K⟩:=q;refine⟨F,ah,_,R,q,λv1 H1 F1 x av s1 R1 r1 q1=>?_⟩
 split at q1
 ·rename_i i e
  obtain rfl:=(R1.cS r1 e).int;exact⟨i,rfl,K _ H1 F1 (.val (.int (-i))) av s1 R1 (.int _) q1⟩
 ·exact q1.elim
end Vc
namespace Vc
open PySem L2
variable [KF]
variable {G:GE}{k:Nat}{S:Stat}
mutual
def jk:D->D->Bool
 | .aQ,.aQ=>true
 | .bl a,.bl b=>a==b
 | .bl a,.int j=>(if a then 1 else 0)==j
 | .int i,.bl b=>i==(if b then 1 else 0)
 | .int i,.int j=>i==j
 | .str x,.str y=>x==y
 | .lst xs,.lst ys=>DA xs ys
 | .tup xs,.tup ys=>DA xs ys
 | _,_=>false
def DA:List D->List D->Bool
 | [],[]=>true
 | x::xs,y::ys=>jk x y&&DA xs ys
 | _,_=>false
end
def b7:Nat->D->Bool
 | _,.aQ=>true
 | _,.bl _=>true
 | _,.int _=>true
 | _,.str x=>x.cps.all (· < 0x110000)
 | n+1,.tup xs=>xs.all (b7 n)
 | n+1,.lst xs=>xs.all (b7 n)
 | _,_=>false
mutual
def toPy:D->PyData
 | .aQ=>.none
 | .bl b=>.bool b
 | .int i=>.int i
 | .str x=>.str x
 | .tup xs=>.tuple (di xs)
 | .lst xs=>.list (di xs)
 | _=>.none
def di:List D->List PyData
 | []=>[]
 | x::xs=>toPy x::di xs
end
theorem rK{n m:Nat}(ih:∀x y,b7 n x=true->b7 m y=true->jk x y=PyData.eqv (toPy x) (toPy y)):∀xs ys:List D,xs.all (b7 n)=true->ys.all (b7 m)=true->DA xs ys=PyData.eqvAll (di xs) (di ys)
 | [],[],_,_=>rfl
 | [],_::_,_,_=>rfl
 | _::_,[],_,_=>rfl
 | x::xs,y::ys,h1,h2=>by
  rw[List.all_cons,Bool.and_eq_true]at h1 h2;show(jk x y&&DA xs ys)=(PyData.eqv (toPy x) (toPy y)&&PyData.eqvAll (di xs) (di ys));rw[ih x y h1.1 h2.1,rK ih xs ys h1.2 h2.2]
theorem rJ:∀(n m:Nat) (x y:D),b7 n x=true->b7 m y=true->jk x y=PyData.eqv (toPy x) (toPy y):=by
 intro n
 induction n with
 | zero =>
  intro m x y h1 h2;cases x with
  | tup _=>exact absurd h1 (by simp [b7])
  | lst _=>exact absurd h1 (by simp [b7])
  | dct _=>exact absurd h1 (by simp [b7])
  | exc _=>exact absurd h1 (by simp [b7])
  | jj _=>exact absurd h1 (by simp [b7])
  | dM _=>exact absurd h1 (by simp [b7])
  | kp _ _ _ _=>exact absurd h1 (by simp [b7])
  | _=>cases y<;>first|rfl | (cases m<;>exact absurd h2 (by simp [b7]))
 | succ n ih =>
  intro m x y h1 h2;cases x with
  | tup xs =>
   cases y with
   | tup ys =>
    cases m with
    | zero=>exact absurd h2 (by simp [b7])
    | succ m=>exact rK (ih m) xs ys h1 h2
   | _=>first|rfl | (cases m<;>exact absurd h2 (by simp [b7]))
  | lst xs =>
   cases y with
   | lst ys =>
    cases m with
    | zero=>exact absurd h2 (by simp [b7])
    | succ m=>exact rK (ih m) xs ys h1 h2
   | _=>first|rfl | (cases m<;>exact absurd h2 (by simp [b7]))
  | dct _=>exact absurd h1 (by simp [b7])
  | exc _=>exact absurd h1 (by simp [b7])
  | jj _=>exact absurd h1 (by simp [b7])
  | dM _=>exact absurd h1 (by simp [b7])
  | kp _ _ _ _=>exact absurd h1 (by simp [b7])
  | _=>cases y<;>first|rfl | (cases m<;>exact absurd h2 (by simp [b7]))
theorem dD{n:Nat}(ih:∀x,b7 n x=true->(toPy x).canLay0=true/\(toPy x).depth<=n):∀xs:List D,xs.all (b7 n)=true->PyData.canLayAll0 (di xs)=true/\PyData.depthAll (di xs)<=n
 | [],_=>⟨rfl,Nat.zero_le _⟩
 | x::xs,h=>by
  rw[List.all_cons,Bool.and_eq_true]at h;have h1:=ih x h.1;have h2:=dD ih xs h.2;refine⟨?_,?_⟩
  ·show((toPy x).canLay0&&PyData.canLayAll0 (di xs))=true
   rw[h1.1,h2.1];rfl
  ·show max (toPy x).depth (PyData.depthAll (di xs))<=n
   exact Nat.max_le.mpr ⟨h1.2,h2.2⟩
theorem fM:∀(n:Nat) (x:D),b7 n x=true->(toPy x).canLay0=true/\(toPy x).depth<=n:=by
 intro n
 induction n with
 | zero =>
  intro x h;cases x with
  | tup _=>exact absurd h (by simp [b7])
  | lst _=>exact absurd h (by simp [b7])
  | dct _=>exact absurd h (by simp [b7])
  | exc _=>exact absurd h (by simp [b7])
  | jj _=>exact absurd h (by simp [b7])
  | dM _=>exact absurd h (by simp [b7])
  | kp _ _ _ _=>exact absurd h (by simp [b7])
  | _=>first|exact⟨rfl,Nat.zero_le _⟩ | (exact⟨by simpa [b7,toPy,PyData.canLay0,PyData.strOk]using h,Nat.zero_le _⟩)
 | succ n ih =>
  intro x h;cases x with
  | tup xs =>
   have:=dD ih xs h;exact⟨this.1,Nat.succ_le_succ this.2⟩
  | lst xs =>
   have:=dD ih xs h;exact⟨this.1,Nat.succ_le_succ this.2⟩
  | dct _=>exact absurd h (by simp [b7])
  | exc _=>exact absurd h (by simp [b7])
  | jj _=>exact absurd h (by simp [b7])
  | dM _=>exact absurd h (by simp [b7])
  | kp _ _ _ _=>exact absurd h (by simp [b7])
  | _=>first|exact⟨rfl,Nat.zero_le _⟩ | (exact⟨by simpa [b7,toPy,PyData.canLay0,PyData.strOk]using h,Nat.zero_le _⟩)
section
variable {P:Program}{w:World}{F H:Hp}{h:Heap}
mutual
theorem Rep.reads(ok:hJ P w H h)(s:ao F H):∀ {v:V} {d:D} {u:Value} (n:Nat),Rep F v d->RelV v u->b7 n d=true->∃as,Reads h u (toPy d) as
 | _,_,_,_,.aQ,e,_=>by cases e;exact⟨_,.none⟩
 | _,_,_,_,.bl b,e,_=>by cases e;exact⟨_,.bool b⟩
 | _,_,_,_,.int i,e,_=>by obtain⟨t,rfl⟩:=e;exact⟨_,.int i t⟩
 | _,_,_,_,.str x,e,_=>by obtain⟨t,rfl⟩:=e;exact⟨_,.str x t⟩
 | _,_,_,0,.tup _ _,_,o=>by exact absurd o (by simp [b7])
 | _,_,_,0,.lst _ _,_,o=>by exact absurd o (by simp [b7])
 | _,_,_,n+1,.tup (a:=a) (vs:=vs) hf r,e,o=>by
  cases e;obtain⟨_,its,rv,ob,ho,hc,m,hd⟩:=ok a _ (s a _ hf);obtain⟨as,q⟩:=aC.reads ok s n r rv o;exact⟨as,.tuple ho hc hd q⟩
 | _,_,_,n+1,.lst (a:=a) (vs:=vs) hf r,e,o=>by
  cases e;obtain⟨_,its,m,rv,ho⟩:=L2.Rd.ok (Rd.mono s hf) ok;obtain⟨as,q⟩:=aC.reads ok s n r rv o;exact⟨_,.list ho rfl rfl q⟩
 | _,_,_,n,.jj _,_,o=>by cases n<;>exact absurd o (by simp [b7])
 | _,_,_,n,.exc _,_,o=>by cases n<;>exact absurd o (by simp [b7])
 | _,_,_,n,.HK _ _,_,o=>by cases n<;>exact absurd o (by simp [b7])
 | _,_,_,n,.dM _ _,_,o=>by cases n<;>exact absurd o (by simp [b7])
 | _,_,_,n,.kp _ _ _,_,o=>by cases n<;>exact absurd o (by simp [b7])
theorem aC.reads(ok:hJ P w H h)(s:ao F H):∀ {vs:List V} {ds:List D} {us:List Value} (n:Nat),aC F vs ds->Vals vs us->ds.all (b7 n)=true->∃as,ReadsAll h us (di ds) as
 | _,_,_,_,.nil,.nil,_=>⟨_,.nil⟩
 | _,_,_,n,.cons r t,.cons e f,o=>by
  rw[List.all_cons,Bool.and_eq_true]at o;obtain⟨as,h1⟩:=Rep.reads ok s n r e o.1;obtain⟨bs,h2⟩:=aC.reads ok s n t f o.2;exact⟨_,.cons h1 h2⟩
end
theorem bS.reads(ok:hJ P w H h)(s:ao F H){v:V}{d:D}{u:Value}(r:bS F H v d)(e:RelV v u)(o:b7 8 d=true):∃as,Reads h u (toPy d) as:=by
 cases d with
 | lst xs =>
  obtain⟨a,vs,rfl,hf,r⟩:=r;cases e;obtain⟨_,its,n,rv,ho⟩:=L2.Rd.ok hf ok;obtain⟨as,q⟩:=aC.reads ok s 7 r rv o;exact⟨_,.list ho rfl rfl q⟩
 | dM _=>exact absurd o (by simp [b7])
 | kp _ _ _ _=>exact absurd o (by simp [b7])
 | _=>exact Rep.reads ok s 8 r e o
end
theorem iq{x:D}(h:b7 8 x=true):PySem.SeqAt.shaped (toPy x)=true:=by
 obtain⟨h1,h2⟩:=fM 8 x h;unfold PySem.SeqAt.shaped;rw[h1,decide_eq_true ⋯];rfl
def JE(neg:Bool):R2:=λv u H Q=>∃F x y,ao F H/\bS F H v x/\bS F H u y/\b7 8 x=true/\b7 8 y=true/\Q (.bl (if neg then !jk x y else jk x y)) H
theorem RL{X:Cx}(hu:X.A.units+64<cLine):hW X (compareOp .Eq) (JE false):=by
 intro pins s σ H v u v' u' Q I rv ru h;obtain⟨F,x,y,sm,rx,ry,ox,oy,q⟩:=h;obtain⟨as,r1⟩:=rx.reads I.bG sm rv ox;obtain⟨bs,r2⟩:=ry.reads I.bG sm ru oy;refine PyProof.Rows.eq_dataH r1 r2 (iq ox) (iq oy) hu ⟨.bl (jk x y),H,I,?_,q⟩;rw[rJ 8 8 x y ox oy];rfl
theorem RQ{X:Cx}(hu:X.A.units+64<cLine):hW X (compareOp .NotEq) (JE true):=by
 intro pins s σ H v u v' u' Q I rv ru h;obtain⟨F,x,y,sm,rx,ry,ox,oy,q⟩:=h;obtain⟨as,r1⟩:=rx.reads I.bG sm rv ox;obtain⟨bs,r2⟩:=ry.reads I.bG sm ru oy;refine PyProof.Rows.ne_dataH r1 r2 (iq ox) (iq oy) hu ⟨.bl (!jk x y),H,I,?_,q⟩;rw[rJ 8 8 x y ox oy];rfl
end Vc
namespace Vc
open PySem L2
variable [KF]
variable {G:GE}{k:Nat}{S:Stat}
def nB(r:R2)(f:D->D->(Bool->Prop)->Prop):Prop:=
 ∀Y F H ah σ v u x y (Qd:Bool->Prop) (Q:VK),RS Y F ah σ H->bS F H v x->bS F H u y->f x y Qd->(∀b,Qd b->Q (.bl b) H)->r v u H Q
def bf(f:D->D->(Bool->Prop)->Prop)(ta tb:TV):TB:=λσ Q=>ta σ λx av=>tb av λy aL=>match cS aL x,cS aL y with
 | some a,some b=>f a b λr=>Q r aL
 | _,_=>False
def bV(t:TB):TV:=λσ Q=>t σ λb av=>Q (.val (.bl b)) av
theorem pU{Y:bz}{r:R2}{f:D->D->(Bool->Prop)->Prop}(hs:nB r f){ta tb:TV}{σ:St}{H:Hp}{Q:VK}{F:Hp}{ah:Sd}{Qd:Bool->Sd->Prop}(R:RS Y F ah σ H)(q:bf f ta tb ah Qd)
  (K:∀b H' F' aA,ao F F'->RS Y F' aA σ H'->Qd b aA->Q (.bl b) H'):UJ r (lO Y ta) (lO Y tb) σ H Q:=by
 refine⟨F,ah,_,R,q,λv1 H1 F1 x av s1 R1 r1 q1=>?_⟩;refine⟨F1,av,_,R1,q1,λv2 H2 F2 y aL s2 R2 r2 q2=>?_⟩
 split at q2
 ·rename_i a b ea eb
  exact hs Y F2 H2 aL σ v1 v2 a b _ Q R2 (R2.cS (r1.mono s2) ea) (R2.cS r2 eb) q2 λc qc=>K c H2 F2 aL (s1.trans s2) R2 qc
 ·exact q2.elim
def nA(G:GE)(k:Nat)(S:Stat)(op:CmpOp)(f:D->D->(Bool->Prop)->Prop):Prop:=∃r:R2,(∀X Y,dJ X G k S Y->hW X (compareOp op) r)/\nB r f
theorem aW{op:CmpOp}{f:D->D->(Bool->Prop)->Prop}(h:nA G k S op f){a b:Expr}{ta tb:TV}{pos:Pos}(ha:EO G k S a ta)(hb:EO G k S b tb)(hm:behindInMarks op b=false:=by first|exact om _|with_unfolding_all rfl):
  EB G k S (.Compare a [op] [b] pos) (bf f ta tb):=.mk λX Y ok=>by
 obtain⟨r,ho,hs⟩:=h;refine oC (sC (ho X Y ok) (ha X Y ok) (hb X Y ok) hm) λσ H Q q=>?_;obtain⟨F,ah,Qd,R,q,K⟩:=q;exact pU hs R q λb H' F' aA s R' qq=>⟨b,rfl,K b H' F' aA s R' qq⟩
theorem v7{op:CmpOp}{f:D->D->(Bool->Prop)->Prop}(h:nA G k S op f){a b:Expr}{ta tb:TV}{pos:Pos}(ha:EO G k S a ta)(hb:EO G k S b tb)(hm:behindInMarks op b=false:=by first|exact om _|with_unfolding_all rfl):
  EO G k S (.Compare a [op] [b] pos) (bV (bf f ta tb)):=.mk λX Y ok=>by
 obtain⟨r,ho,hs⟩:=h;refine aO (zv (ho X Y ok) (ha X Y ok) (hb X Y ok) hm) λσ H Q q=>?_;obtain⟨F,ah,Qd,R,q,K⟩:=q;exact pU hs R q λb H' F' aA s R' qq=>K _ H' F' (.val (.bl b)) aA s R' (.bl b) qq
def eqT(x y:D)(Q:Bool->Prop):Prop:=(b7 8 x=true/\b7 8 y=true)/\Q (jk x y)
def neT(x y:D)(Q:Bool->Prop):Prop:=(b7 8 x=true/\b7 8 y=true)/\Q (!jk x y)
theorem gu:nA G k S .Eq eqT:=⟨JE false,λX Y ok=>RL ok.units,λY F H ah σ v u x y Qd Q R rx ry q K=>⟨F,x,y,R.fr,rx,ry,q.1.1,q.1.2,K _ q.2⟩⟩
theorem xt:nA G k S .NotEq neT:=⟨JE true,λX Y ok=>RQ ok.units,λY F H ah σ v u x y Qd Q R rx ry q K=>⟨F,x,y,R.fr,rx,ry,q.1.1,q.1.2,K _ q.2⟩⟩
def Px(p:Int->Int->Bool):D->D->(Bool->Prop)->Prop
 | .int i,.int j,Q=>Q (p i j)
 | _,_,_=>False
theorem ic{p:Int->Int->Bool}:nB (Hk λi j=>.bl (p i j)) (Px p):=λY F H ah σ v u x y Qd Q R rx ry q K=>by
 unfold Px at q
 split at q
 ·obtain rfl:=rx.int;obtain rfl:=ry.int
  exact⟨_,_,rfl,rfl,K _ q⟩
 ·exact q.elim
def LA:=Px λi j=>decide (i<j)
def leT:=Px λi j=>decide (i<=j)
def gtT:=Px λi j=>decide (j<i)
def geT:=Px λi j=>decide (j<=i)
theorem HD:nA G k S .Lt LA:=⟨_,λ_ _ _=>Zc,ic⟩
theorem Wq:nA G k S .LtE leT:=⟨_,λ_ _ _=>Zb,ic⟩
theorem Wo:nA G k S .Gt gtT:=⟨_,λ_ _ _=>Za,ic⟩
theorem Wn:nA G k S .GtE geT:=⟨_,λ_ _ _=>Y9,ic⟩
def isNone:D->Bool
 | .aQ=>true
 | _=>false
def Vz(x y:D)(Q:Bool->Prop):Prop:=isNone y=true/\Q (isNone x)
theorem bS.isNone{F H:Hp}{v:V}{x:D}(r:bS F H v x):decide (v=.aQ)=isNone x:=by
 cases x with
 | lst xs=>obtain⟨a,vs,rfl,_⟩:=r;rfl
 | dct _=>cases(show Rep F v (.dct _)from r);rfl
 | exc _=>cases(show Rep F v (.exc _)from r);rfl
 | jj _=>cases(show Rep F v (.jj _)from r);rfl
 | dM _=>obtain⟨a,ks,rfl,_⟩:=r;rfl
 | kp _ _ _ _=>obtain⟨a,dx,ad,ks,rfl,_⟩:=r;rfl
 | aQ=>obtain rfl:=r.aQ;rfl
 | bl _=>obtain rfl:=r.bl;rfl
 | int _=>obtain rfl:=r.int;rfl
 | str _=>obtain rfl:=r.str;rfl
 | tup _=>cases(show Rep F v (.tup _)from r);rfl
theorem bS.QE{F H:Hp}{v:V}{x:D}(r:bS F H v x)(h:Vc.isNone x=true):v=.aQ:=by
 cases x<;>first|exact r.aQ|cases h
theorem HC:nA G k S .Is Vz:=⟨_,λ_ _ _=>RN,λY F H ah σ v u x y Qd Q R rx ry q K=>⟨ry.QE q.1,by rw[rx.isNone];exact K _ q.2⟩⟩
def UZ:D->(Bool->Prop)->Prop
 | .aQ,Q=>Q false
 | .bl b,Q=>Q b
 | .int i,Q=>Q (i != 0)
 | .lst xs,Q=>Q (!xs.isEmpty)
 | .tup xs,Q=>Q (!xs.isEmpty)
 | _,_=>False
def pF(t:TV):TB:=λσ Q=>t σ λx av=>match cS av x with
 | some d=>UZ d λb=>Q b av
 | none=>False
theorem jy{F:Hp}{vs:List V}{xs:List D}(r:aC F vs xs):(!xs.isEmpty)=!vs.isEmpty:=by cases r<;>rfl
theorem gW{e:Expr}{t:TV}(h:EO G k S e t)(he:∀env whole,isTrue e env whole=(do let v <- whole;standAt e.pos;holding [v] (truthy v)):=by intro _ _;rfl):EB G k S e (pF t):=.mk λX Y ok=>by
 refine oC (Fv (h X Y ok) (he _)) λσ H Q q=>?_;obtain⟨F,ah,Qd,R,q,K⟩:=q;refine⟨F,ah,_,R,q,λv1 H1 F1 x av s1 R1 r1 q1=>?_⟩
 split at q1
 ·rename_i d ed
  have r:=R1.cS r1 ed;unfold UZ at q1
  split at q1
  ·obtain rfl:=r.aQ;exact⟨false,rfl,K _ H1 F1 av s1 R1 q1⟩
  ·rename_i b;obtain rfl:=r.bl;exact⟨b,rfl,K _ H1 F1 av s1 R1 q1⟩
  ·rename_i i;obtain rfl:=r.int;exact⟨_,rfl,K _ H1 F1 av s1 R1 q1⟩
  ·rename_i xs;obtain⟨a,vs,rfl,h1,h2⟩:=r.lst
   exact⟨!xs.isEmpty,.inl ⟨vs,.inl h1,jy h2⟩,K _ H1 F1 av s1 R1 q1⟩
  ·rename_i xs;obtain⟨a,vs,rfl,h1,h2⟩:=r.tup R1.fr
   exact⟨!xs.isEmpty,.inr (.inl ⟨vs,.inl (.inl h1),jy h2⟩),K _ H1 F1 av s1 R1 q1⟩
  ·exact q1.elim
 ·exact q1.elim
def kQ(t u:TB):TB:=λσ Q=>t σ λc av=>if c=true then u av Q else Q false av
def F7(t u:TB):TB:=λσ Q=>t σ λc av=>if c=true then Q true av else u av Q
def kR(t:TB):TB:=λσ Q=>t σ λc av=>Q (!c) av
structure EW(G:GE)(k:Nat)(S:Stat)(e:Expr)(t:TB) :Prop where
 run:∀X Y,dJ X G k S Y->PW X e (lB Y t)
instance {G:GE} {k:Nat} {S:Stat} {e:Expr} {t:TB} :CoeFun (EW G k S e t) λ_=>∀X Y,dJ X G k S Y->PW X e (lB Y t):=⟨EW.run⟩
theorem pw_imp{X:Cx}{e:Expr}{t t':TT}(h:PW X e t)(i:∀σ H Q,t' σ H Q->t σ H Q):PW X e t':=λwh pins s σ H Q I q=>h wh pins s σ H Q I (i σ H Q q)
section
variable {a b:Expr}{rest:List Expr}{ta tb:TB}{pos:Pos}
theorem Tg(h:EW G k S a ta):EB G k S a ta:=.mk λX Y ok=>(h X Y ok).pt
theorem sE(ha:EB G k S a ta):EW G k S (.BoolOp .And [a] pos) ta:=.mk λX Y ok=>pw_and1 (ha X Y ok)
theorem FI(ha:EB G k S a ta):EW G k S (.BoolOp .Or [a] pos) ta:=.mk λX Y ok=>pw_or1 (ha X Y ok)
theorem zL(ha:EB G k S a ta)(hb:EW G k S (.BoolOp .And (b::rest) pos) tb):EW G k S (.BoolOp .And (a::b::rest) pos) (kQ ta tb):=.mk λX Y ok=>pw_imp (pw_and (ha X Y ok) (hb X Y ok)) λσ H Q q=>by
 obtain⟨F,ah,Qd,R,q,K⟩:=q;refine⟨F,ah,_,R,q,λc H1 F1 av s1 R1 q1=>?_⟩;cases c with
 | true=>exact⟨F1,av,Qd,R1,q1,λb H' F' aA s R' qq=>K b H' F' aA (s1.trans s) R' qq⟩
 | false=>exact K false H1 F1 av s1 R1 q1
theorem Td(ha:EB G k S a ta)(hb:EW G k S (.BoolOp .Or (b::rest) pos) tb):EW G k S (.BoolOp .Or (a::b::rest) pos) (F7 ta tb):=.mk λX Y ok=>pw_imp (pw_or (ha X Y ok) (hb X Y ok)) λσ H Q q=>by
 obtain⟨F,ah,Qd,R,q,K⟩:=q;refine⟨F,ah,_,R,q,λc H1 F1 av s1 R1 q1=>?_⟩;cases c with
 | false=>exact⟨F1,av,Qd,R1,q1,λb H' F' aA s R' qq=>K b H' F' aA (s1.trans s) R' qq⟩
 | true=>exact K true H1 F1 av s1 R1 q1
theorem ji(ha:EB G k S a ta):EB G k S (.UnaryOp .Not a pos) (kR ta):=.mk λX Y ok=>oC (Ta (ha X Y ok)) λσ H Q q=>by
 obtain⟨F,ah,Qd,R,q,K⟩:=q;exact⟨F,ah,_,R,q,λc H1 F1 av s1 R1 q1=>K _ H1 F1 av s1 R1 q1⟩
end
structure Hr(G:GE)(k:Nat)(S:Stat)(e:Expr)(t:TB) :Prop where
 run:∀X Y,dJ X G k S Y->PE X e (λσ H Q=>lB Y t σ H λb H'=>Q (.bl b) H')
instance {G:GE} {k:Nat} {S:Stat} {e:Expr} {t:TB} :CoeFun (Hr G k S e t) λ_=>∀X Y,dJ X G k S Y->PE X e (λσ H Q=>lB Y t σ H λb H'=>Q (.bl b) H'):=⟨Hr.run⟩
section
variable {a b:Expr}{rest:List Expr}{ta tb:TB}{pos:Pos}
def wq(t:TV):TB:=λσ Q=>t σ λx av=>match cS av x with
 | some (.bl b)=>Q b av
 | _=>False
theorem U7{t:TV}(h:EO G k S a t):Hr G k S a (wq t):=.mk λX Y ok=>aO (h X Y ok) λσ H Q q=>by
 obtain⟨F,ah,Qd,R,q,K⟩:=q;refine⟨F,ah,_,R,q,λv1 H1 F1 x av s1 R1 r1 q1=>?_⟩
 split at q1
 ·rename_i b eb
  obtain rfl:=(R1.cS r1 eb).bl;exact K b H1 F1 av s1 R1 q1
 ·exact q1.elim
theorem aaw{op:BoolOp}(h:Hr G k S a ta):Hr G k S (.BoolOp op [a] pos) ta:=.mk λX Y ok=>Sn (h X Y ok)
theorem v_and(ha:Hr G k S a ta)(hb:Hr G k S (.BoolOp .And (b::rest) pos) tb):Hr G k S (.BoolOp .And (a::b::rest) pos) (kQ ta tb):=.mk λX Y ok=>aO (Si (ha X Y ok) (hb X Y ok)) λσ H Q q=>by
 obtain⟨F,ah,Qd,R,q,K⟩:=q;refine⟨F,ah,_,R,q,λc H1 F1 av s1 R1 q1=>⟨c,rfl,?_⟩⟩;cases c with
 | true=>exact⟨F1,av,Qd,R1,q1,λb H' F' aA s R' qq=>K b H' F' aA (s1.trans s) R' qq⟩
 | false=>exact K false H1 F1 av s1 R1 q1
theorem abA(h:Hr G k S a ta):EO G k S a (bV ta):=.mk λX Y ok=>aO (h X Y ok) λσ H Q q=>by
 obtain⟨F,ah,Qd,R,q,K⟩:=q;exact⟨F,ah,_,R,q,λb H1 F1 av s1 R1 q1=>K _ H1 F1 (.val (.bl b)) av s1 R1 (.bl b) q1⟩
end
end Vc
namespace Vc
open PySem L2
variable [KF]
variable {G:GE}{k:Nat}{S:Stat}
theorem aC.mX{F:Hp}{vs:List V}{xs:List D}{i:Int}{d:D}(r:aC F vs xs)(h:L2.mX xs i=some d):∃v,L2.mX vs i=some v/\Rep F v d:=by
 unfold L2.mX at h ⊢;rw[r.length];cases e:zk xs.length i with
 | none=>rw[e]at h;cases h
 | some j =>
  rw[e]at h;exact r.get (i:=j) h
def Lw:D->D->(D->Prop)->Prop
 | .lst xs,.int i,Q=>match mX xs i with
  | some d=>Q d
  | none=>False
 | .tup xs,.int i,Q=>match mX xs i with
  | some d=>Q d
  | none=>False
 | .str z,.int i,Q=>z.length<=aca/\match mX z.cps.toList i with
  | some c=>Q (.str ⟨#[c]⟩)
  | none=>False
 | .jj ns,.int i,Q=>match mX ns i with
  | some n=>Q (.int n)
  | none=>False
 | _,_,_=>False
theorem HA{α β:Type}(f:α->β){xs:List α}{i:Int}{a:α}(h:L2.mX xs i=some a):L2.mX (xs.map f) i=some (f a):=by
 unfold L2.mX at h ⊢;rw[abZ];cases e:zk xs.length i with
 | none=>rw[e]at h;cases h
 | some j =>
  rw[e]at h;have h:xs[j]?=some a:=h;show(xs.map f)[j]?=_;rw[acb,h];rfl
def gq(ta tb:TV):TV:=λσ Q=>ta σ λx av=>tb av λy aL=>match cS aL x,cS aL y with
 | some a,some b=>Lw a b λr=>Q (.val r) aL
 | _,_=>False
theorem cL{a b:Expr}{ta tb:TV}{pos:Pos}(ha:EO G k S a ta)(hb:EO G k S b tb)(hs:yI b:=by intro _ _;rfl):EO G k S (.Subscript a b pos) (gq ta tb):=.mk λX Y ok =>
 aO (Zv PF (ha X Y ok) (hb X Y ok) hs) λσ H Q q=>by
  obtain⟨F,ah,Qd,R,q,K⟩:=q;refine⟨F,ah,_,R,q,λv1 H1 F1 x av s1 R1 r1 q1=>?_⟩;refine⟨F1,av,_,R1,q1,λv2 H2 F2 y aL s2 R2 r2 q2=>?_⟩
  split at q2
  ·rename_i a b ea eb
   have rx:=R2.cS (r1.mono s2) ea;have ry:=R2.cS r2 eb;have fin:∀ {v d},Rep F2 v d->Qd (.val d) aL->Q v H2:=λr qq=>K _ H2 F2 (.val _) aL (s1.trans s2) R2 r qq;unfold Lw at q2
   split at q2
   ·obtain⟨p,vs,rfl,h1,r1⟩:=rx.lst;obtain rfl:=ry.int
    split at q2
    ·rename_i d e
     obtain⟨v,ev,rv⟩:=r1.mX e;exact .inl ⟨p,vs,_,v,rfl,rfl,.inl h1,ev,fin rv q2⟩
    ·exact q2.elim
   ·obtain⟨p,vs,rfl,h1,r1⟩:=rx.tup R2.fr;obtain rfl:=ry.int
    split at q2
    ·rename_i d e
     obtain⟨v,ev,rv⟩:=r1.mX e;exact .inr (.inl ⟨p,vs,_,v,rfl,rfl,.of h1,ev,fin rv q2⟩)
    ·exact q2.elim
   ·obtain rfl:=rx.str;obtain rfl:=ry.int
    obtain⟨hz,q2⟩:=q2
    split at q2
    ·rename_i c e
     exact .inr (.inr ⟨_,_,c,rfl,rfl,hz,e,fin (.str _) q2⟩)
    ·exact q2.elim
   ·rename_i ns i
    have rx:Rep F2 v1 (.jj ns):=rx;obtain rfl:=ry.int;cases rx with
    | jj h =>
     split at q2
     ·rename_i n e
      exact .inl ⟨_,ns.map V.int,_,.int n,rfl,rfl,by rw[ok.kf];exact R2.fr.seq h,HA V.int e,fin (.int _) q2⟩
     ·exact q2.elim
   ·exact q2.elim
  ·exact q2.elim
theorem qJ{F:Hp}:∀ns:List Int,aC F (ns.map V.int) (ns.map D.int)
 | []=>.nil
 | n::ns=>.cons (.int n) (qJ ns)
theorem bS.jj{F H:Hp}(s:ao F H){v:V}{ns:List Int}(r:bS F H v (.jj ns)):∃a,v=.ref a/\f7 KF.K H a (ns.map V.int):=by
 cases(show Rep F v (.jj ns)from r)with
 | jj h=>exact⟨_,rfl,s.seq h⟩
abbrev Mj:=Sd->(Option Int->Sd->Prop)->Prop
def lP(Y:bz)(t:Mj):TO:=λσ H Q=>∃F ah Qd,RS Y F ah σ H/\t ah Qd/\∀o H' F' aA,ao F F'->RS Y F' aA σ H'->Qd o aA->Q o H'
structure Vb(G:GE)(k:Nat)(S:Stat)(e:Option Expr)(t:Mj) :Prop where
 run:∀X Y,dJ X G k S Y->PO X e (lP Y t)
instance {G:GE} {k:Nat} {S:Stat} {e:Option Expr} {t:Mj} :CoeFun (Vb G k S e t) λ_=>∀X Y,dJ X G k S Y->PO X e (lP Y t):=⟨Vb.run⟩
theorem Fo{X:Cx}{e:Option Expr}{t t':TO}(h:PO X e t)(i:∀σ H Q,t' σ H Q->t σ H Q):PO X e t':=λpins s σ H Q I q=>h pins s σ H Q I (i σ H Q q)
def tP0:Mj:=λσ Q=>Q none σ
def tP1(t:TV):Mj:=λσ Q=>t σ λx av=>match cS av x with
 | some (.int i)=>Q (some i) av
 | _=>False
theorem E6:Vb G k S none tP0:=.mk λX Y ok=>Fo Jw λσ H Q q=>by
 obtain⟨F,ah,Qd,R,q,K⟩:=q;exact K none H F ah (ao.refl _) R q
theorem E8{e:Expr}{t:TV}(h:EO G k S e t):Vb G k S (some e) (tP1 t):=.mk λX Y ok=>Fo (Jx (h X Y ok)) λσ H Q q=>by
 obtain⟨F,ah,Qd,R,q,K⟩:=q;refine⟨F,ah,_,R,q,λv1 H1 F1 x av s1 R1 r1 q1=>?_⟩
 split at q1
 ·rename_i i e
  obtain rfl:=(R1.cS r1 e).int;exact⟨i,rfl,K _ H1 F1 av s1 R1 q1⟩
 ·exact q1.elim
def cut{α:Type}(xs:List α)(lo hi:Option Int):List α:=(xs.drop (HT.dz xs.length 0 lo)).take (HT.dz xs.length xs.length hi-HT.dz xs.length 0 lo)
theorem aC.cut{F:Hp}{vs:List V}{xs:List D}(r:aC F vs xs)(lo hi:Option Int):aC F (uD vs lo hi) (cut xs lo hi):=by
 unfold uD Vc.cut;rw[r.length];exact(r.drop _).take _
def slD:D->Option Int->Option Int->(EV->Prop)->Prop
 | .lst xs,lo,hi,Q=>Q (.own (cut xs lo hi))
 | .jj ns,lo,hi,Q=>Q (.own (cut (ns.map D.int) lo hi))
 | .tup xs,lo,hi,Q=>¬(HT.dz xs.length 0 lo=0/\HT.dz xs.length xs.length hi=xs.length)/\Q (.val (.tup (cut xs lo hi)))
 | _,_,_,_=>False
def F8(t:TV)(tl th:Mj):TX:=λσ Q=>t σ λx av=>tl av λl aL=>th aL λu eY=>match cS eY x with
 | some d=>slD d l u λr=>Q r eY
 | none=>False
theorem ZT{e:Expr}{lo hi:Option Expr}{t:TV}{tl th:Mj}{p2 pos:Pos}(h:EO G k S e t)(hl:Vb G k S lo tl)(hh:Vb G k S hi th):EX G k S (.Subscript e (.Slice lo hi none p2) pos) (F8 t tl th):=.mk λX Y ok =>
 aO (Fe (KZ.or JQ UC) (h X Y ok) (hl X Y ok) (hh X Y ok)) λσ H Q q=>by
  obtain⟨F,ah,Qd,R,q,K⟩:=q;refine⟨F,ah,_,R,q,λv1 H1 F1 x av s1 R1 r1 q1=>?_⟩;refine⟨F1,av,_,R1,q1,λl H2 F2 aL s2 R2 q2=>?_⟩;refine⟨F2,aL,_,R2,q2,λu H3 F3 eY s3 R3 q3=>?_⟩
  split at q3
  ·rename_i d e
   have rx:=R3.cS (r1.mono (s2.trans s3)) e;have g:Goes Y F3 eY σ (λr=>Qd r eY) Q:=λv H' F' r s R' rr qq=>K v H' F' r eY (((s1.trans s2).trans s3).trans s) R' rr qq;unfold slD at q3
   split at q3
   ·obtain⟨p,vs,rfl,h1,r1⟩:=rx.lst
    exact .inl ⟨p,vs,rfl,.inl h1,g.own R3 (r1.cut _ _) q3⟩
   ·obtain⟨p,rfl,h1⟩:=rx.jj R3.fr
    exact .inl ⟨p,_,rfl,by rw[ok.kf];exact h1,g.own R3 ((qJ _).cut _ _) q3⟩
   ·obtain⟨p,vs,rfl,h1,r1⟩:=rx.tup R3.fr
    exact .inr ⟨p,vs,rfl,.of h1,by rw[r1.length];exact q3.1,g.tup R3 (r1.cut _ _) q3.2⟩
   ·exact q3.elim
  ·exact q3.elim
def tN:eZ:=λσ Q=>Q [] σ
def aR(t:TD)(u:eZ):eZ:=λσ Q=>t σ λx av=>u av λxs aL=>Q (x::xs) aL
theorem aG:xa G k S [] tN:=.mk λX Y ok=>gR ei λσ H Q q=>by
 obtain⟨F,ah,Qd,R,q,K⟩:=q;exact K [] H F [] ah (ao.refl _) R .nil q
theorem ai{e:Expr}{es:List Expr}{t:TD}{u:eZ}(h:ED G k S e t)(hs:xa G k S es u)(he:∀env,ab7 (e::es) env=(false,eval e env)::ab7 es env:=by exactλ_=>Vc.cM rfl):xa G k S (e::es) (aR t u):=.mk λX Y ok =>
 gR (bX (h X Y ok) (hs X Y ok) (he _)) λσ H Q q=>by
  obtain⟨F,ah,Qd,R,q,K⟩:=q;refine⟨F,ah,_,R,q,λv1 H1 F1 x av s1 R1 r1 q1=>?_⟩;exact⟨F1,av,_,R1,q1,λvs H2 F2 xs aL s2 R2 r2 q2=>K _ H2 F2 (x::xs) aL (s1.trans s2) R2 (.cons (r1.mono s2) r2) q2⟩
def yu(t:eZ):TX:=λσ Q=>t σ λxs av=>xs.length<=aca/\Q (.own xs) av
def yv(t:eZ):TV:=λσ Q=>t σ λxs av=>xs.length<=aca/\Q (.val (.tup xs)) av
theorem gj{es:List Expr}{t:eZ}{pos:Pos}(h:xa G k S es t):EX G k S (.List es pos) (yu t):=.mk λX Y ok=>aO (so (h X Y ok)) λσ H Q q=>by
 obtain⟨F,ah,Qd,R,q,K⟩:=q;refine⟨F,ah,_,R,q,λvs H1 F1 xs av s1 R1 r1 q1=>⟨by rw[r1.length];exact q1.1,?_⟩⟩
 have g:Goes Y F1 av σ (λr=>Qd r av) Q:=λv H' F' r s R' rr qq=>K v H' F' r av (s1.trans s) R' rr qq;exact g.own R1 r1 q1.2
theorem gk{es:List Expr}{t:eZ}{x1}{pos:Pos}(h:xa G k S es t):EO G k S (.Tuple es x1 pos) (yv t):=.mk λX Y ok=>aO (Ff (h X Y ok)) λσ H Q q=>by
 obtain⟨F,ah,Qd,R,q,K⟩:=q;refine⟨F,ah,_,R,q,λvs H1 F1 xs av s1 R1 r1 q1=>⟨by rw[r1.length];exact q1.1,λp hp=>?_⟩⟩
 have sm:=aJ (o:=.tup vs) (same_none R1.fr hp);exact K _ _ _ (.val (.tup xs)) av (s1.trans sm) (R1.alloc hp) (.tup ay (r1.mono sm)) q1.2
abbrev wV:=Sd->(List OV->Sd->Prop)->Prop
inductive uk (F:Hp)(σ:St):List V->List OV->Prop where
 | nil:uk F σ [] []
 | cons {v:V} {x:OV} {vs:List V} {xs:List OV}:xk F σ v x->uk F σ vs xs->uk F σ (v::vs) (x::xs)
def lOs(Y:bz)(t:wV):TA:=λσ H Q=>∃F ah Qd,RS Y F ah σ H/\t ah Qd/\∀vs H' F' xs aA,ao F F'->RS Y F' aA σ H'->uk F' σ vs xs->Qd xs aA->Q vs H'
structure G4(G:GE)(k:Nat)(S:Stat)(es:List Expr)(t:wV) :Prop where
 run:∀X Y,dJ X G k S Y->PA X es (lOs Y t)
instance {G:GE} {k:Nat} {S:Stat} {es:List Expr} {t:wV} :CoeFun (G4 G k S es t) λ_=>∀X Y,dJ X G k S Y->PA X es (lOs Y t):=⟨G4.run⟩
def dN:wV:=λσ Q=>Q [] σ
def bD(t:TV)(u:wV):wV:=λσ Q=>t σ λx av=>u av λxs aL=>Q (x::xs) aL
theorem bj:G4 G k S [] dN:=.mk λX Y ok=>gR ei λσ H Q q=>by
 obtain⟨F,ah,Qd,R,q,K⟩:=q;exact K [] H F [] ah (ao.refl _) R .nil q
theorem aK{e:Expr}{es:List Expr}{t:TV}{u:wV}(h:EO G k S e t)(hs:G4 G k S es u)(he:∀env,ab7 (e::es) env=(false,eval e env)::ab7 es env:=by exactλ_=>Vc.cM rfl):G4 G k S (e::es) (bD t u):=.mk λX Y ok =>
 gR (bX (h X Y ok) (hs X Y ok) (he _)) λσ H Q q=>by
  obtain⟨F,ah,Qd,R,q,K⟩:=q;refine⟨F,ah,_,R,q,λv1 H1 F1 x av s1 R1 r1 q1=>?_⟩;exact⟨F1,av,_,R1,q1,λvs H2 F2 xs aL s2 R2 r2 q2=>K _ H2 F2 (x::xs) aL (s1.trans s2) R2 (.cons (r1.mono s2) r2) q2⟩
def i7(σ:Sd):List OV->Option (List D)
 | []=>some []
 | x::xs=>match cS σ x,i7 σ xs with
  | some d,some ds=>some (d::ds)
  | _,_=>none
inductive iM (F H:Hp):List V->List D->Prop where
 | nil:iM F H [] []
 | cons {v:V} {x:D} {vs:List V} {xs:List D}:bS F H v x->iM F H vs xs->iM F H (v::vs) (x::xs)
theorem RS.i7{Y:bz}{F:Hp}{ah:Sd}{σ:St}{H:Hp}(R:RS Y F ah σ H):∀ {vs:List V} {xs:List OV} {ds:List D},uk F σ vs xs->Vc.i7 ah xs=some ds->iM F H vs ds
 | _,_,_,.nil,e=>by cases e;exact .nil
 | _,_,_,.cons (x:=x) (xs:=xs) r t,e=>by
  have e:(match Vc.cS ah x,Vc.i7 ah xs with|some d,some ds=>some (d::ds)|_,_=>none)=some _:=e
  split at e
  ·rename_i d ds e1 e2
   cases e;exact .cons (R.cS r e1) (RS.i7 R t e2)
  ·cases e
theorem iM.one{F H:Hp}{vs:List V}{d:D}(r:iM F H vs [d]):∃v,vs=[v]/\bS F H v d:=by
 cases r with
 | cons r t=>cases t;exact⟨_,rfl,r⟩
theorem iM.two{F H:Hp}{vs:List V}{d e:D}(r:iM F H vs [d,e]):∃v u,vs=[v,u]/\bS F H v d/\bS F H u e:=by
 cases r with
 | cons r t =>
  obtain⟨u,rfl,q⟩:=t.one;exact⟨_,u,rfl,r,q⟩
def pJ(r:List V->Hp->VK->Prop)(f:List D->(EV->Prop)->Prop):Prop:=
 ∀Y F H ah σ vs ds (Qd:EV->Prop) (Q:VK),RS Y F ah σ H->iM F H vs ds->f ds Qd->Goes Y F ah σ Qd Q->r vs H Q
def eE(f:List D->(EV->Prop)->Prop)(t:wV):TX:=λσ Q=>t σ λxs av=>match i7 av xs with
 | some ds=>f ds λr=>Q r av
 | none=>False
theorem qM{Y:bz}{r:List V->Hp->VK->Prop}{f:List D->(EV->Prop)->Prop}(hs:pJ r f){t:wV}{σ:St}{H:Hp}{Q:VK}(q:lX Y (eE f t) σ H Q):tCB r (lOs Y t) σ H Q:=by
 obtain⟨F,ah,Qd,R,q,K⟩:=q;refine⟨F,ah,_,R,q,λvs H1 F1 xs av s1 R1 r1 q1=>?_⟩
 split at q1
 ·rename_i ds e
  exact hs Y F1 H1 av σ vs ds _ Q R1 (R1.i7 r1 e) q1 λv H' F' r s R' rr qq=>K v H' F' r av (s1.trans s) R' rr qq
 ·exact q1.elim
def yF(G:GE)(k:Nat)(S:Stat)(f:Value)(g:List D->(EV->Prop)->Prop):Prop:=∃r:ab4->List V->Hp->VK->Prop,(∀X Y,dJ X G k S Y->cR X f (r X.K))/\pJ (r KF.K) g
section
variable {x:Str}{p pos:Pos}{e:Expr}{es:List Expr}{t:wV}{id T:String}{g:List D->(EV->Prop)->Prop}
theorem cZ(h:yF G k S (.builtin id) g)(hm:G.mg x=none)(ha:G4 G k S (e::es) t)(hv:bootBuiltins x=some (.builtin id))(hg:S.sc.lookup x=some .globalImplicit:=by rfl)(hn:x≠"__name__":=by decide)(jx:(x==("__debug__":Str))=false:=by decide)
  (he:∀env,ab7 (e::es) env=(false,eval e env)::ab7 es env:=by exactλ_=>Vc.cM rfl) (dm:∀env,(backTo pos (ab7 es env)).any (·.1)=false:=by intro _;rfl):EX G k S (.Call (.Name x p) (e::es) [] pos) (eE g t):=.mk λX Y ok=>by
 obtain⟨r,hc,hs⟩:=h;exact aO (oB (hc X Y ok) (dy ok hg) (by rw[ok.mg];exact hm) hv (ha X Y ok) hn jx (he _) (dm _)) λσ H Q q=>qM (by rw[ok.kf];exact hs) q
theorem JG(h:yF G k S (.type T) g)(hm:G.mg x=none)(ha:G4 G k S (e::es) t)(hv:bootBuiltins x=some (.type T))(hg:S.sc.lookup x=some .globalImplicit:=by rfl)(hn:x≠"__name__":=by decide)(jx:(x==("__debug__":Str))=false:=by decide)
  (he:∀env,ab7 (e::es) env=(false,eval e env)::ab7 es env:=by exactλ_=>Vc.cM rfl) (dm:∀env,(backTo pos (ab7 es env)).any (·.1)=false:=by intro _;rfl):EX G k S (.Call (.Name x p) (e::es) [] pos) (eE g t):=.mk λX Y ok=>by
 obtain⟨r,hc,hs⟩:=h;exact aO (Ba (hc X Y ok) (dy ok hg) (by rw[ok.mg];exact hm) hv (ha X Y ok) hn jx (he _) (dm _)) λσ H Q q=>qM (by rw[ok.kf];exact hs) q
end
def fL:List D->(EV->Prop)->Prop
 | [.lst xs],Q=>Q (.val (.int xs.length))
 | [.tup xs],Q=>Q (.val (.int xs.length))
 | [.jj ns],Q=>Q (.val (.int ns.length))
 | [.str z],Q=>z.length<=aca/\Q (.val (.int z.length))
 | _,_=>False
theorem f_len:yF G k S (.builtin "len") fL:=⟨λK xs H Q=>(∃p ys,xs=[V.ref p]/\(f7 K H p ys\/k6 K H p ys)/\Q (V.int ys.length) H)\/∃z,xs=[V.str z]/\z.length<=aca/\Q (V.int z.length) H,λ_ _ _=>rm.or rn,λY F H ah σ vs ds Qd Q R r q g=>by
 unfold fL at q
 split at q
 ·obtain⟨v,rfl,rv⟩:=r.one
  obtain⟨p,us,rfl,h1,h2⟩:=rv.lst;exact .inl ⟨p,us,rfl,.inl (.inl h1),by rw[h2.length];exact g.val R (.int _) q⟩
 ·obtain⟨v,rfl,rv⟩:=r.one
  obtain⟨p,us,rfl,h1,h2⟩:=rv.tup R.fr;exact .inl ⟨p,us,rfl,.inr (.of h1),by rw[h2.length];exact g.val R (.int _) q⟩
 ·obtain⟨v,rfl,rv⟩:=r.one
  obtain⟨p,rfl,h1⟩:=rv.jj R.fr;exact .inl ⟨p,_,rfl,.inl h1,by rw[abZ];exact g.val R (.int _) q⟩
 ·obtain⟨v,rfl,rv⟩:=r.one
  obtain rfl:=rv.str;exact .inr ⟨_,rfl,q.1,g.val R (.int _) q.2⟩
 ·exact q.elim⟩
def Hv:List D->(EV->Prop)->Prop
 | [.int i],Q=>Q (.val (.int (if i<0 then -i else i)))
 | _,_=>False
theorem Xq:yF G k S (.builtin "abs") Hv:=⟨λ_=>_,λ_ _ _=>Cj,λY F H ah σ vs ds Qd Q R r q g=>by
 unfold Hv at q
 split at q
 ·obtain⟨v,rfl,rv⟩:=r.one
  obtain rfl:=rv.int;exact⟨_,rfl,g.val R (.int _) q⟩
 ·exact q.elim⟩
def vK:List D->(EV->Prop)->Prop
 | [.int i,.int j],Q=>Q (.val (.int (if j>i then j else i)))
 | _,_=>False
def zp:List D->(EV->Prop)->Prop
 | [.int i,.int j],Q=>Q (.val (.int (if j<i then j else i)))
 | _,_=>False
theorem DE(hh:S.jl=false:=by rfl):yF G k S (.builtin "max") vK:=⟨λ_=>_,λ_ _ ok=>Ai (ok.calm hh),λY F H ah σ vs ds Qd Q R r q g=>by
 unfold vK at q
 split at q
 ·obtain⟨v,u,rfl,rv,ru⟩:=r.two
  obtain rfl:=rv.int;obtain rfl:=ru.int;exact⟨_,_,rfl,g.val R (.int _) q⟩
 ·exact q.elim⟩
theorem Oq(hh:S.jl=false:=by rfl):yF G k S (.builtin "min") zp:=⟨λ_=>_,λ_ _ ok=>Ak (ok.calm hh),λY F H ah σ vs ds Qd Q R r q g=>by
 unfold zp at q
 split at q
 ·obtain⟨v,u,rfl,rv,ru⟩:=r.two
  obtain rfl:=rv.int;obtain rfl:=ru.int;exact⟨_,_,rfl,g.val R (.int _) q⟩
 ·exact q.elim⟩
def Er:List D->(EV->Prop)->Prop
 | [.int i],Q=>Q (.val (.int i))
 | [.bl b],Q=>Q (.val (.int (if b then 1 else 0)))
 | _,_=>False
theorem f_int:yF G k S (.type "int") Er:=⟨λ_=>_,λ_ _ ok=>Ah,λY F H ah σ vs ds Qd Q R r q g=>by
 unfold Er at q
 split at q
 ·obtain⟨v,rfl,rv⟩:=r.one
  obtain rfl:=rv.int;exact .inl ⟨_,rfl,g.val R (.int _) q⟩
 ·obtain⟨v,rfl,rv⟩:=r.one
  obtain rfl:=rv.bl;exact .inr ⟨_,rfl,g.val R (.int _) q⟩
 ·exact q.elim⟩
def qw:List D->(EV->Prop)->Prop
 | [.lst xs],Q=>Q (.own xs)
 | [.tup xs],Q=>Q (.own xs)
 | _,_=>False
theorem f_list:yF G k S (.type "list") qw:=⟨λK xs H Q=>∃p ys,xs=[V.ref p]/\(f7 K H p ys\/k6 K H p ys)/\∀l,H l=none->Q (.ref l) (upd H l (.lst ys)),λ_ _ ok=>rp,λY F H ah σ vs ds Qd Q R r q g=>by
 unfold qw at q
 split at q
 ·obtain⟨v,rfl,rv⟩:=r.one
  obtain⟨p,us,rfl,h1,h2⟩:=rv.lst;exact⟨p,us,rfl,.inl (.inl h1),g.own R h2 q⟩
 ·obtain⟨v,rfl,rv⟩:=r.one
  obtain⟨p,us,rfl,h1,h2⟩:=rv.tup R.fr;exact⟨p,us,rfl,.inr (.of h1),g.own R h2 q⟩
 ·exact q.elim⟩
def o5:List D->(EV->Prop)->Prop
 | [.lst xs],Q=>Q (.val (.tup xs))
 | [.tup xs],Q=>Q (.val (.tup xs))
 | _,_=>False
theorem HV:yF G k S (.type "tuple") o5:=⟨λK xs H Q=>∃p ys,xs=[V.ref p]/\((f7 K H p ys/\∀l,H l=none->Q (.ref l) (upd H l (.tup ys)))\/(k6 K H p ys/\Q (.ref p) H)),λ_ _ ok=>ph,λY F H ah σ vs ds Qd Q R r q g=>by
 unfold o5 at q
 split at q
 ·obtain⟨v,rfl,rv⟩:=r.one
  obtain⟨p,us,rfl,h1,h2⟩:=rv.lst;exact⟨p,us,rfl,.inl ⟨.inl h1,g.tup R h2 q⟩⟩
 ·obtain⟨v,rfl,rv⟩:=r.one
  have rv':=rv;obtain⟨p,us,rfl,h1,h2⟩:=rv.tup R.fr;exact⟨p,us,rfl,.inr ⟨.of h1,g.val R rv' q⟩⟩
 ·exact q.elim⟩
end Vc
namespace Vc
open PySem L2
variable [KF]
variable {G:GE}{k:Nat}{S:Stat}
structure iJ where
 nx:Sd->Prop
 rt:B->Sd->Prop
 bk:Sd->Prop:=λ_=>False
 ct:Sd->Prop:=λ_=>False
abbrev b5:=iJ->Sd->Prop
def aaA(Y:bz)(F H:Hp)(ah:Sd)(σ:St)(v:V):B->Prop
 | .sh d=>Rep F v d
 | .own xs=>∃a vs,v=.ref a/\H a=some (.lst vs)/\aC F vs xs/\F a=none/\Y.H0 a=none/\dc ah σ a
 | .obj o=>∃a,v=.ref a/\o.rep F H a/\∀b∈o.fp a,F b=none/\H b≠none/\Y.H0 b=none/\dc ah σ b
structure yH(Y:bz)(F:Hp)(De:iJ)(Dn:Ends):Prop where
 nx:∀σ H F' ah,ao F F'->RS Y F' ah σ H->De.nx ah->Dn.nx σ H
 rt:∀v σ H F' ah b,ao F F'->RS Y F' ah σ H->aaA Y F' H ah σ v b->De.rt b ah->Dn.rt v H
 bk:∀σ H F' ah,ao F F'->RS Y F' ah σ H->De.bk ah->Dn.bk σ H
 ct:∀σ H F' ah,ao F F'->RS Y F' ah σ H->De.ct ah->Dn.ct σ H
theorem yH.mono{Y:bz}{F F':Hp}{De:iJ}{Dn:Ends}(h:yH Y F De Dn)(s:ao F F'):yH Y F' De Dn:=
 ⟨λσ H F2 ah s2=>h.nx σ H F2 ah (s.trans s2),λv σ H F2 ah b s2=>h.rt v σ H F2 ah b (s.trans s2),λσ H F2 ah s2=>h.bk σ H F2 ah (s.trans s2),λσ H F2 ah s2=>h.ct σ H F2 ah (s.trans s2)⟩
def lS(Y:bz)(t:b5):TS:=λDn σ H=>∃F ah De,RS Y F ah σ H/\t De ah/\yH Y F De Dn
structure ES(G:GE)(k:Nat)(S:Stat)(st:Stmt)(t:b5) :Prop where
 run:∀X Y,dJ X G k S Y->PS X st (lS Y t)
instance {G:GE} {k:Nat} {S:Stat} {st:Stmt} {t:b5} :CoeFun (ES G k S st t) λ_=>∀X Y,dJ X G k S Y->PS X st (lS Y t):=⟨ES.run⟩
structure dr(G:GE)(k:Nat)(S:Stat)(st:List Stmt)(t:b5) :Prop where
 run:∀X Y,dJ X G k S Y->qU X st (lS Y t)
instance {G:GE} {k:Nat} {S:Stat} {st:List Stmt} {t:b5} :CoeFun (dr G k S st t) λ_=>∀X Y,dJ X G k S Y->qU X st (lS Y t):=⟨dr.run⟩
section
variable {st:Stmt}{rest:List Stmt}{t u:b5}{pos:Pos}
def iy:b5:=λDe σ=>De.nx σ
def bQ(t u:b5):b5:=λDe σ=>t {De with nx:=u De} σ
theorem bO:dr G k S [] iy:=.mk λX Y ok=>sy zK λDn σ H q=>by
 obtain⟨F,ah,De,R,q,K⟩:=q;exact K.nx σ H F ah (ao.refl _) R q
theorem aw(h1:ES G k S st t)(h2:dr G k S rest u):dr G k S (st::rest) (bQ t u):=.mk λX Y ok=>sy (vZ (h1 X Y ok) (h2 X Y ok)) λDn σ H q=>by
 obtain⟨F,ah,De,R,q,K⟩:=q;refine⟨F,ah,_,R,q,⟨λbZ H' F' aA s R' q'=>?_,K.rt,K.bk,K.ct⟩⟩;exact⟨F',aA,De,R',q',K.mono s⟩
theorem aE(h1:ES G k S st t):dr G k S [st] t:=.mk λX Y ok=>sA (h1 X Y ok)
def wx:b5:=λ_ _=>False
theorem ip:ES G k S st wx:=.mk λX Y ok=>cf Fu λDn σ H q=>by
 obtain⟨F,ah,De,R,q,K⟩:=q;exact q
def cF(c:TB)(t u:b5):b5:=λDe σ=>c σ λb av=>if b=true then t De av else u De av
theorem cT{c:Expr}{a b:List Stmt}{tc:TB}(hc:EB G k S c tc)(ha:dr G k S a t)(hb:dr G k S b u):ES G k S (.If c a b pos) (cF tc t u):=.mk λX Y ok=>cf (LJ (hc X Y ok) (ha X Y ok) (hb X Y ok)) λDn σ H q=>by
 obtain⟨F,ah,De,R,q,K⟩:=q;refine⟨F,ah,_,R,q,λb H1 F1 av s1 R1 q1=>?_⟩;cases b with
 | true=>exact⟨F1,av,De,R1,q1,K.mono s1⟩
 | false=>exact⟨F1,av,De,R1,q1,K.mono s1⟩
def o9(t:TX):b5:=λDe σ=>t σ λ_ av=>De.nx av
theorem cA{e:Expr}{te:TX}(he:EX G k S e te)(hs:∀line env,swapsWith e none line env=pure false:=by intro _ _;rfl):ES G k S (.Expr e pos) (o9 te):=.mk λX Y ok=>cf (sv (he X Y ok) (hs _ _)) λDn σ H q=>by
 obtain⟨F,ah,De,R,q,K⟩:=q;exact⟨F,ah,_,R,q,λv H1 F1 x av s1 R1 r1 q1=>K.nx σ H1 F1 av s1 R1 q1⟩
def dP(ios:List Nat)(t:TX):b5:=λDe σ=>t σ λx av=>match x with
 | .val d=>De.rt (.sh d) av
 | .own xs=>De.rt (.own xs) av
 | .obj o=>De.rt (.obj o) av
 | .any=>False
 | .var i=>match av[i]? with
  | some (some (.own xs))=>i∉ios/\De.rt (.own xs) (av.set i none)
  | some (some (.sh d))=>De.rt (.sh d) av
  | some (some (.obj o))=>ios=[]/\De.rt (.obj o) (av.set i none)
  | _=>False
theorem RS.forget{Y:bz}{F:Hp}{ah:Sd}{σ:St}{H:Hp}{i:Nat}{b:B}(R:RS Y F ah σ H)(e:ah[i]?=some (some b))(cU:∀p∈Y.io,p.1≠i):RS Y F (ah.set i none) σ H where
 len:=by simpa using R.len
 lo:=R.lo
 fr:=R.fr
 eS:=R.eS
 old:=R.old
 sh:=λj d q=>by
  by_cases hj:j=i
  ·subst hj;rw[aS e]at q;cases q
  ·rw[bh hj]at q;exact R.sh j d q
 own:=λj xs q=>by
  by_cases hj:j=i
  ·subst hj;rw[aS e]at q;cases q
  ·rw[bh hj]at q;exact R.own j xs q
 dis:=λj l xs ys a q1 q2 q3 q4=>by
  have hj:j≠i:=λz=>by subst z;rw[aS e]at q1;cases q1
  have hl:l≠i:=λz=>by subst z;rw[aS e]at q2;cases q2
  rw[bh hj]at q1;rw[bh hl]at q2;exact R.dis j l xs ys a q1 q2 q3 q4
 io:=λp hp=>by
  obtain⟨w1,ys,w2⟩:=R.io p hp;exact⟨w1,ys,by rw[bh (cU p hp)];exact w2⟩
 ob:=R.ob.put (λ_ _=>rfl) (λ_ z=>nomatch z) λ_ _ z=>nomatch z
theorem RS.QA{Y:bz}{F:Hp}{ah:Sd}{σ:St}{H:Hp}{i:Nat}{xs:List D}(R:RS Y F ah σ H)(h:ah[i]?=some (some (.own xs)))(cU:∀p∈Y.io,p.1≠i){a:Addr}(q1:σ[i]?=some (some (.ref a))):Y.H0 a=none/\a∉Y.Vy:=by
 obtain⟨b,vs,w1,w2,w3,w4,w5⟩:=R.own i xs h;rw[q1]at w1;cases w1;have nin:a∉Y.Vy:=λq5=>by
  obtain⟨p,hp,e⟩:=List.mem_map.mp q5;obtain⟨z1,ys,z2⟩:=R.io p hp;exact absurd (R.dis p.1 i ys xs a z2 h (by rw[z1,e]) q1) (cU p hp)
 rcases w5 with w5|w5
 ·exact⟨w5,nin⟩
 ·exact absurd w5 nin
theorem a8{e:Expr}{te:TX}(he:EX G k S e te)(aaU:S.Ce=false:=by rfl):ES G k S (.Return (some e) pos) (dP S.ios te):=.mk λX Y ok=>cf (yb (he X Y ok)) λDn σ H q=>by
 obtain⟨F,ah,De,R,q,K⟩:=q;refine⟨F,ah,_,R,q,λv H1 F1 x av s1 R1 r1 q1=>?_⟩;cases x with
 | val d=>exact K.rt v σ H1 F1 av (.sh d) s1 R1 r1 q1
 | own xs=>exact K.rt v σ H1 F1 av (.own xs) s1 R1 r1 q1
 | obj o=>exact K.rt v σ H1 F1 av (.obj o) s1 R1 r1 q1
 | any=>exact False.elim q1
 | var i =>
  have r1:σ[i]?=some (some v):=r1;dsimp only at q1
  split at q1
  ·rename_i xs e
   obtain⟨a,vs,w1,w2,w3,w4,w5⟩:=R1.own i xs e;rw[r1]at w1;cases w1;have cU:∀p∈Y.io,p.1≠i:=λp hp z=>q1.1 (z ▸ ok.ios p hp);refine K.rt _ σ H1 F1 _ (.own xs) s1 (R1.forget e cU) ⟨a,vs,rfl,w2,w3,w4,(R1.QA e cU r1).1,⟨λj ys e2 z=>?_,λ⟨j,o,c,e2,e3,hm⟩=>?_⟩⟩ q1.2
   ·by_cases hj:j=i
    ·subst hj;rw[aS e]at e2;cases e2
    ·rw[bh hj]at e2
     exact hj (R1.dis j i ys xs a e2 e z r1)
   ·have hj:j≠i:=λz=>by subst z;rw[aS e]at e2;cases e2
    rw[bh hj]at e2;exact R1.ob.gv i xs a e r1 ⟨j,o,c,e2,e3,hm⟩
  ·rename_i d e
   obtain⟨v2,e2,r2⟩:=R1.sh i d e;rw[r1]at e2;cases e2;exact K.rt v σ H1 F1 av (.sh d) s1 R1 r2 q1
  ·rename_i o e
   obtain⟨a,w1,w2,w3⟩:=R1.ob.obj i o e;rw[r1]at w1;cases w1;have AF:=ok.obs aaU q1.1;have cU:∀p∈Y.io,p.1≠i:=λp hp z=>by
    have:=ok.ios p hp;rw[q1.1]at this;cases this
   refine K.rt _ σ H1 F1 _ (.obj o) s1 (R1.forget e cU) ⟨a,rfl,w2,λb hb=>⟨(w3 b hb).1,(w3 b hb).2.1,?_,⟨λj ys e2 z=>?_,λ⟨j,o2,c,e2,e3,hm⟩=>?_⟩⟩⟩ q1.2
   ·rcases(w3 b hb).2.2 with z|z
    ·exact z
    ·rw[AF]at z;cases z
   ·have hj:j≠i:=λz=>by subst z;rw[aS e]at e2;cases e2
    rw[bh hj]at e2;exact R1.ob.gv j ys b e2 z ⟨i,o,a,e,r1,hb⟩
   ·have hj:j≠i:=λz=>by subst z;rw[aS e]at e2;cases e2
    rw[bh hj]at e2;exact R1.ob.o8 j i o2 o c a e2 e e3 r1 hj b hm hb
  ·exact q1.elim
end
theorem gs{α:Type}{l:List α}{i j:Nat}{x y:α}(h:(l.set i x)[j]?=some y):(j=i/\y=x)\/(j≠i/\l[j]?=some y):=by
 by_cases hj:j=i
 ·subst hj
  by_cases hl:j<l.length
  ·rw[List.getElem?_set_self hl]at h;exact .inl ⟨rfl,(Option.some.inj h).symm⟩
  ·have:(l.set j x)[j]?=none:=by rw[List.getElem?_eq_none_iff];simp;omega
   rw[this]at h;cases h
 ·rw[List.getElem?_set_ne (Ne.symm hj)]at h;exact .inr ⟨hj,h⟩
theorem bM{α:Type}{l:List α}{i j:Nat}{x:α}(h:j≠i):(l.set i x)[j]?=l[j]?:=List.getElem?_set_ne (Ne.symm h)
theorem mE{α:Type}{l:List α}{i:Nat}{x:α}(h:i<l.length):(l.set i x)[i]?=some x:=List.getElem?_set_self h
theorem DV{α:Type}{l:List α}{i j:Nat}{x y:α}(h:(l.set i x)[j]?=some y):j<l.length:=by
 have:=(ab2.mp h).1;simpa using this
theorem RS.zV{Y:bz}{F:Hp}{ah:Sd}{σ:St}{H:Hp}{i:Nat}{d:D}{v:V}(R:RS Y F ah σ H)(r:Rep F v d)(cU:∀p∈Y.io,p.1≠i):RS Y F (ah.set i (some (.sh d))) (σ.set i (some v)) H where
 len:=by simpa using R.len
 lo:=R.lo
 fr:=R.fr
 eS:=R.eS
 old:=R.old
 sh:=λj e q=>by
  rcases gs q with⟨rfl,z⟩|⟨hj,q'⟩
  ·cases z
   exact⟨v,mE (by rw[<- R.len];exact DV q),r⟩
  ·obtain⟨u,w1,w2⟩:=R.sh j e q'
   exact⟨u,by rw[bM hj];exact w1,w2⟩
 own:=λj xs q=>by
  rcases gs q with⟨_,z⟩|⟨hj,q'⟩
  ·cases z
  ·obtain⟨a,vs,w1,w2⟩:=R.own j xs q'
   exact⟨a,vs,by rw[bM hj];exact w1,w2⟩
 dis:=λj l xs ys a q1 q2 q3 q4=>by
  rcases gs q1 with⟨_,z⟩|⟨hj,q1⟩
  ·cases z
  rcases gs q2 with⟨_,z⟩|⟨hl,q2⟩
  ·cases z
  rw[bM hj]at q3;rw[bM hl]at q4;exact R.dis j l xs ys a q1 q2 q3 q4
 io:=λp hp=>by
  obtain⟨w1,ys,w2⟩:=R.io p hp;exact⟨by rw[bM (cU p hp)];exact w1,ys,by rw[bM (cU p hp)];exact w2⟩
 ob:=R.ob.put (λ_ hj=>bM hj) (λ_ z=>nomatch z) λ_ _ z=>nomatch z
theorem RS.FU{Y:bz}{F:Hp}{ah:Sd}{σ:St}{H:Hp}{i:Nat}{xs:List D}{a:Addr}{vs:List V}(R:RS Y F ah σ H)(h1:H a=some (.lst vs))(h2:aC F vs xs)(h3:F a=none)(h4:Y.H0 a=none)(h5:dc ah σ a)
  (cU:∀p∈Y.io,p.1≠i):RS Y F (ah.set i (some (.own xs))) (σ.set i (some (.ref a))) H where
 len:=by simpa using R.len
 lo:=R.lo
 fr:=R.fr
 eS:=R.eS
 old:=R.old
 sh:=λj e q=>by
  rcases gs q with⟨_,z⟩|⟨hj,q'⟩
  ·cases z
  ·obtain⟨u,w1,w2⟩:=R.sh j e q'
   exact⟨u,by rw[bM hj];exact w1,w2⟩
 own:=λj ys q=>by
  rcases gs q with⟨rfl,z⟩|⟨hj,q'⟩
  ·cases z
   exact⟨a,vs,mE (by rw[<- R.len];exact DV q),h1,h2,h3,.inl h4⟩
  ·obtain⟨b,us,w1,w2⟩:=R.own j ys q'
   exact⟨b,us,by rw[bM hj];exact w1,w2⟩
 dis:=λj l ys zs b q1 q2 q3 q4=>by
  rcases gs q1 with⟨rfl,z⟩|⟨hj,q1⟩
  ·rcases gs q2 with⟨e,z⟩|⟨hl,q2⟩
   ·exact e.symm
   ·rw[bM hl]at q4
    rcases gs q3 with⟨_,z3⟩|⟨hc,_⟩
    ·cases z3
     exact absurd q4 (h5 l zs q2)
    ·exact absurd rfl hc
  ·rw[bM hj]at q3
   rcases gs q2 with⟨e2,z⟩|⟨hl,q2⟩
   ·rcases gs q4 with⟨_,z4⟩|⟨hc,_⟩
    ·cases z4
     exact absurd q3 (h5 j ys (by assumption))
    ·exact absurd e2 hc
   ·rw[bM hl]at q4
    exact R.dis j l ys zs b (by assumption) q2 q3 q4
 io:=λp hp=>by
  obtain⟨w1,ys,w2⟩:=R.io p hp;exact⟨by rw[bM (cU p hp)];exact w1,ys,by rw[bM (cU p hp)];exact w2⟩
 ob:=R.ob.put (λ_ hj=>bM hj) (λ_ z=>nomatch z) λys b _ z=>by
  rcases gs z with⟨_,z2⟩|⟨hc,_⟩
  ·cases z2;exact h5.QC
  ·exact absurd rfl hc
theorem RS.T8{Y:bz}{F:Hp}{ah:Sd}{σ:St}{H:Hp}{i:Nat}{o:O}{a:Addr}(R:RS Y F ah σ H)(h1:o.rep F H a)(h2:∀b∈o.fp a,F b=none/\H b≠none/\Y.H0 b=none/\dc ah σ b)
  (cU:∀p∈Y.io,p.1≠i):RS Y F (ah.set i (some (.obj o))) (σ.set i (some (.ref a))) H where
 len:=by simpa using R.len
 lo:=R.lo
 fr:=R.fr
 eS:=R.eS
 old:=R.old
 sh:=λj e q=>by
  rcases gs q with⟨_,z⟩|⟨hj,q'⟩
  ·cases z
  ·obtain⟨u,w1,w2⟩:=R.sh j e q'
   exact⟨u,by rw[bM hj];exact w1,w2⟩
 own:=λj ys q=>by
  rcases gs q with⟨_,z⟩|⟨hj,q'⟩
  ·cases z
  ·obtain⟨b,us,w1,w2⟩:=R.own j ys q'
   exact⟨b,us,by rw[bM hj];exact w1,w2⟩
 dis:=λj l ys zs b q1 q2 q3 q4=>by
  rcases gs q1 with⟨_,z⟩|⟨hj,q1⟩
  ·cases z
  rcases gs q2 with⟨_,z⟩|⟨hl,q2⟩
  ·cases z
  rw[bM hj]at q3;rw[bM hl]at q4;exact R.dis j l ys zs b q1 q2 q3 q4
 io:=λp hp=>by
  obtain⟨w1,ys,w2⟩:=R.io p hp;exact⟨by rw[bM (cU p hp)];exact w1,ys,by rw[bM (cU p hp)];exact w2⟩
 ob:=by
  have at':∀ {j:Nat} {c:Addr},j=i->(σ.set i (some (.ref a)))[j]?=some (some (.ref c))->c=a:=λ{j c} e z=>by
   subst e;rcases gs z with⟨_,z2⟩|⟨hc,_⟩
   ·cases z2;rfl
   ·exact absurd rfl hc
  refine⟨λj p q=>?_,λj l p p2 c d q1 q2 q3 q4 cy x hx zc=>?_,λj ys b q1 q2 ⟨l,p,c,q3,q4,hm⟩=>?_,R.ob.there,R.ob.UY,R.ob.tab⟩
  ·rcases gs q with⟨rfl,z⟩|⟨hj,q'⟩
   ·cases z
    exact⟨a,mE (by rw[<- R.len];exact DV q),h1,λb hb=>⟨(h2 b hb).1,(h2 b hb).2.1,.inl (h2 b hb).2.2.1⟩⟩
   ·obtain⟨c,w1,w2⟩:=R.ob.obj j p q'
    exact⟨c,by rw[bM hj];exact w1,w2⟩
  ·rcases gs q1 with⟨e1,z⟩|⟨hj,ZL⟩
   ·cases z
    rcases gs q2 with⟨e2,z⟩|⟨hl,q2'⟩
    ·exact cy (e1.trans e2.symm)
    ·rw[bM hl]at q4
     have:=at' e1 q3;subst this;exact(h2 x hx).2.2.2.QC ⟨l,p2,d,q2',q4,zc⟩
   ·rw[bM hj]at q3
    rcases gs q2 with⟨e2,z⟩|⟨hl,q2'⟩
    ·cases z
     have:=at' e2 q4;subst this;exact(h2 x zc).2.2.2.QC ⟨j,p,c,ZL,q3,hx⟩
    ·rw[bM hl]at q4
     exact R.ob.o8 j l p p2 c d ZL q2' q3 q4 cy x hx zc
  ·rcases gs q1 with⟨_,z⟩|⟨hj,ZL⟩
   ·cases z
   rw[bM hj]at q2;rcases gs q3 with⟨e3,z⟩|⟨hl,q3'⟩
   ·cases z
    have:=at' e3 q4;subst this;exact(h2 b hm).2.2.2 j ys ZL q2
   ·rw[bM hl]at q4
    exact R.ob.gv j ys b ZL q2 ⟨l,p,c,q3',q4,hm⟩
def stD(ios:List Nat)(i:Nat)(x:EV)(σ:Sd)(Q:Sd->Prop):Prop:=match x with
 | .val d=>Q (σ.set i (some (.sh d)))
 | .own xs=>Q (σ.set i (some (.own xs)))
 | .obj o=>Q (σ.set i (some (.obj o)))
 | .any=>False
 | .var j=>match σ[j]? with
  | some (some (.own xs))=>j∉ios/\Q ((σ.set j (some (.sh (.lst xs)))).set i (some (.sh (.lst xs))))
  | some (some (.sh d))=>Q (σ.set i (some (.sh d)))
  | _=>False
theorem lV{Y:bz}{F:Hp}{ah:Sd}{σ:St}{H:Hp}{i:Nat}{v:V}{x:EV}{ios:List Nat}{Q:Sd->Prop}(R:RS Y F ah σ H)(r:Ht Y F H ah σ v x)(hi:i∉ios)(cU:∀p∈Y.io,p.1∈ios)(q:stD ios i x ah Q):
  ∃F' aA,ao F F'/\RS Y F' aA (σ.set i (some v)) H/\Q aA:=by
 have h0:∀p∈Y.io,p.1≠i:=λp hp z=>hi (z ▸ cU p hp);cases x with
 | val d=>exact⟨F,_,ao.refl _,R.zV r h0,q⟩
 | own xs =>
  obtain⟨a,vs,rfl,h1,h2,h3,h4,h5⟩:=r;exact⟨F,_,ao.refl _,R.FU h1 h2 h3 h4 h5 h0,q⟩
 | obj o =>
  obtain⟨a,rfl,h1,h2⟩:=r;exact⟨F,_,ao.refl _,R.T8 h1 h2 h0,q⟩
 | any=>exact False.elim q
 | var j =>
  have r:σ[j]?=some (some v):=r;unfold stD at q;dsimp only at q
  split at q
  ·rename_i xs e
   obtain⟨F2,v2,s2,R2,e2,r2⟩:=R.lq e λp hp z=>q.1 (z ▸ cU p hp);rw[r]at e2;cases e2;exact⟨F2,_,s2,R2.zV r2 h0,q.2⟩
  ·rename_i d e
   obtain⟨v2,e2,r2⟩:=R.sh j d e;rw[r]at e2;cases e2;exact⟨F,_,ao.refl _,R.zV r2 h0,q⟩
  ·exact q.elim
def eG(ios:List Nat)(i:Nat)(t:TX):b5:=λDe σ=>t σ λx av=>stD ios i x av De.nx
theorem n5{X:Cx}{Y:bz}(ok:dJ X G k S Y){x:Str}(h:S.sc.lookup x=some .local\/(S.sc.lookup x=some .cell/\S.Ce=false)):L2.Loc X.env.scope x:=by
 unfold L2.Loc;rw[ok.sc];exact h.imp id (·.1)
theorem nL{X:Cx}{Y:bz}(ok:dJ X G k S Y){x:Str}(h:S.sc.lookup x=some .local\/(S.sc.lookup x=some .cell/\S.Ce=false)):X.fn x=true\/X.env.scope.names.lookup x=some .local:=by
 rcases h with h|h
 ·right;rw[ok.sc];exact h
 ·left;exact ok.fn h.2 x h.1
theorem bU(i:Nat){x:Str}{e:Expr}{te:TX}{pos pos':Pos}(he:EX G k S e te)(hi:S.N[i]?=some x:=by rfl)(hx:S.sc.lookup x=some .local\/(S.sc.lookup x=some .cell/\S.Ce=false):=by first|exact Or.inl rfl|exact Or.inr ⟨rfl,rfl⟩)(hn:i∉S.ios:=by first|decide|exact ack | (dsimp only;decide))
  (hs:∀line env,swapsWith e (some (.Name x pos')) line env=pure false:=by intro _ _;rfl):ES G k S (.Assign [.Name x pos'] e pos) (eG S.ios i te):=.mk λX Y ok =>
 cf (L2.yc (i:=i) (by rw[ok.N];exact ok.nd) (by rw[ok.N];exact hi) (n5 ok hx) (he X Y ok) (hs _ _) (nL ok hx)) λDn σ H q=>by
  obtain⟨F,ah,De,R,q,K⟩:=q;refine⟨F,ah,_,R,q,λv H1 F1 y av s1 R1 r1 q1=>?_⟩;obtain⟨F2,aL,s2,R2,q2⟩:=lV R1 r1 hn ok.ios q1;exact K.nx _ H1 F2 aL (s1.trans s2) R2 q2
theorem RS.write{Y:bz}{F:Hp}{ah:Sd}{σ:St}{H:Hp}{i:Nat}{xs ys:List D}{a:Addr}{us:List V}(R:RS Y F ah σ H)(e:ah[i]?=some (some (.own xs)))(h:σ[i]?=some (some (.ref a)))(r:aC F us ys):
  RS Y F (ah.set i (some (.own ys))) σ (upd H a (.lst us)):=by
 obtain⟨b,vs,w1,w2,w3,w4,w5⟩:=R.own i xs e;rw[h]at w1;cases w1;have hl:i<ah.length:=(ab2.mp e).1;have AF:wU Y F (ah.set i (some (.own ys))) σ (upd H a (.lst us)):=R.ob.step (ao.refl _) (λj o q=>by
  rcases gs q with⟨_,z⟩|⟨hj,q⟩
  ·cases z
  ·exact⟨q,rfl⟩) (λb hb=>by
  obtain⟨z1,z2,z3⟩:=R.ob.owned hb;have cy:b≠a:=λz=>R.ob.gv i xs a e h (z ▸ hb);exact⟨aq cy,z1,z3⟩) (λj zs b q1 q2=>by
  rcases gs q1 with⟨e1,_⟩|⟨hj,q1⟩
  ·subst e1
   rw[h]at q2;cases q2;exact R.ob.gv j xs a e h
  ·exact R.ob.gv j zs b q1 q2) λb hb=>by
  by_cases cy:b=a
  ·rw[cy,ay];exactλz=>nomatch z
  ·rw[aq cy];exact R.ob.there b hb
 refine⟨by simpa using R.len,R.lo,λb o q=>?_,R.eS,λb o q n=>?_,λj d q=>?_,λj zs q=>?_,λj l zs qs b q1 q2 q3 q4=>?_,λp hp=>?_,AF⟩
 ·have:b≠a:=λz=>by rw[z,w4]at q;cases q
  rw[aq this];exact R.fr b o q
 ·have:b≠a:=λz=>by
   subst z;rcases w5 with w5|w5
   ·rw[w5]at q;cases q
   ·exact bz.zg n w5
  rw[aq this];exact R.old b o q n
 ·rcases gs q with⟨_,z⟩|⟨hj,q⟩
  ·cases z
  ·exact R.sh j d q
 ·rcases gs q with⟨rfl,z⟩|⟨hj,q⟩
  ·cases z
   exact⟨a,us,h,ay,r,w4,w5⟩
  ·obtain⟨b,ws,z1,z2,z3,z4,z5⟩:=R.own j zs q
   have:b≠a:=λz=>hj (R.dis j i zs xs a q e (z ▸ z1) h);exact⟨b,ws,z1,by rw[aq this];exact z2,z3,z4,z5⟩
 ·have f:∀ {m:Nat} {ms:List D},(ah.set i (some (B.own ys)))[m]?=some (some (B.own ms))->∃Hj,ah[m]?=some (some (B.own Hj)):=λ{m ms} q=>by
   rcases gs q with⟨rfl,z⟩|⟨hj,q⟩
   ·exact⟨xs,e⟩
   ·exact⟨_,q⟩
  obtain⟨_,q1⟩:=f q1;obtain⟨_,q2⟩:=f q2;exact R.dis j l _ _ b q1 q2 q3 q4
 ·obtain⟨z1,zs,z2⟩:=R.io p hp
  refine⟨z1,?_⟩
  by_cases Em:p.1=i
  ·exact⟨ys,by rw[Em,mE hl]⟩
  ·exact⟨zs,by rw[bM Em];exact z2⟩
def vB(σ:Sd)(i:Nat):Prop:=∃xs,σ[i]?=some (some (B.own xs))
def MO(i:Nat)(d:D)(σ:Sd)(Q:Sd->Prop):Prop:=match σ[i]? with
 | some (some (.own xs))=>xs.length<aca/\Q (σ.set i (some (.own (xs++[d]))))
 | _=>False
def JV(to:TV)(te:TD):TX:=λσ Q=>to σ λx av=>match x with
 | .var i=>vB av i/\te av λd aL=>MO i d aL λeY=>Q (.val .aQ) eY
 | _=>False
theorem FC{o e:Expr}{to:TV}{te:TD}{apos cI:Pos}(ho:EO G k S o to)(he:ED G k S e te)(hb:∀env,attributeBase o "append" env (eval o env)=eval o env:=by intro _;rfl)
  (xG:∀env,((backTo cI (ab7 [e] env)).all (λx=>!x.1)&&(backToKw cI (keywordEach [] env)).all (λx=>x.1.isSome)&&decide (([e]:List Expr).length+([]:List Keyword).length+(if([]:List Keyword).isEmpty then 0 else 1)<30))=true:=by intro _;rfl)
  (hline:(apos.endLine==cI.line)=true:=by rfl) (hs:∀env,ab7 [e] env=[(false,eval e env)]:=by intro _;rfl):EX G k S (.Call (.Attribute o "append" apos) [e] [] cI) (JV to te):=.mk λX Y ok=>by
 have ha:PA X [e] (eB (lD Y te) lZ):=bX (he X Y ok) ei (by rw[hs];rfl)
 refine aO (Fc F.plainAttrs_list F.slot_list_append F.type_list_append qA (ho X Y ok) ha (hb _) (xG _) hline (by rw[hs];rfl) (by rfl)) λσ H Q q=>?_
 obtain⟨F,ah,Qd,R,q,K⟩:=q;refine⟨F,ah,_,R,q,λv1 H1 F1 x av s1 R1 r1 q1=>?_⟩;cases x with
 | val d=>exact q1.elim
 | any=>exact q1.elim
 | var i =>
  obtain⟨⟨ys,e0⟩,q1⟩:=q1;have r1:σ[i]?=some (some v1):=r1;obtain⟨a,vs,w1,w2,w3,w4,w5⟩:=R1.own i ys e0;rw[r1]at w1;cases w1;refine⟨.inl ⟨rfl,vs,.of w2⟩,F1,av,_,R1,q1,λv2 H2 F2 d aL s2 R2 r2 q2=>?_⟩;unfold MO at q2
  split at q2
  ·rename_i xs e2
   obtain⟨b,us,z1,z2,z3,z4,z5⟩:=R2.own i xs e2;rw[r1]at z1;cases z1;exact⟨a,us,v2,rfl,rfl,z2,by rw[z3.length];exact q2.1,K .aQ _ F2 (.val .aQ) _ (s1.trans s2) (R2.write e2 r1 (z3.append (.cons r2 .nil))) .aQ q2.2⟩
  ·exact q2.elim
end Vc
namespace Vc
open PySem L2
variable [KF]
variable {G:GE}{k:Nat}{S:Stat}
abbrev bq:=List D->(B->Prop)->Prop
def B6(H F H':Hp)(v:V):B->Prop
 | .sh d=>Rep F v d
 | .own xs=>∃a vs,v=.ref a/\H' a=some (.lst vs)/\aC F vs xs/\F a=none/\H a=none
 | .obj o=>∃a,v=.ref a/\o.rep F H' a/\∀b∈o.fp a,F b=none/\H' b≠none/\H b=none
def ym(sp:bq):Sp:=λvs H Q _=>∃F ds Qd,mv F H/\aC F vs ds/\sp ds Qd /\
 ∀v H' F' b,ao F F'->ao F' H'->ao H H'->(∀c o,F' c=some o->F c=some o\/Nw H c o)->B6 H F' H' v b->Qd b->Q v H'
theorem RS.call{Y:bz}{F F':Hp}{ah:Sd}{σ:St}{H H':Hp}(R:RS Y F ah σ H)(s1:ao F F')(s2:ao F' H')(s3:ao H H')(fr:∀c o,F' c=some o->F c=some o\/Nw H c o):RS Y F' ah σ H' where
 len:=R.len
 lo:=R.lo.trans s1
 fr:=s2
 eS:=λb o e=>by
  rcases fr b o e with h|h
  ·exact R.eS b o h
  ·exact .inr (h.imp (λh=>(R.bW h).1) id)
 old:=λb o e n=>s3 b o (R.old b o e n)
 sh:=λi d e=>by
  obtain⟨v,h1,h2⟩:=R.sh i d e;exact⟨v,h1,h2.mono s1⟩
 own:=λi xs e=>by
  obtain⟨a,vs,h1,h2,h3,h4,h5⟩:=R.own i xs e;refine⟨a,vs,h1,s3 a _ h2,h3.mono s1,?_,h5⟩;cases q:F' a with
  | none=>rfl
  | some o =>
   rcases fr a o q with h|h
   ·rw[h4]at h;cases h
   ·rcases h with h|⟨ws,rfl⟩
    ·rw[h2]at h;cases h
    ·have z:=s2 a _ q;rw[s3 a _ h2]at z;cases z
 dis:=R.dis
 io:=R.io
 ob:=by
  have up:∀b,H b≠none->H' b=H b:=λb hb=>by
   cases q:H b with
   | none=>exact absurd q hb
   | some o=>exact s3 b o q
  refine R.ob.step s1 (λ_ _ e=>⟨e,rfl⟩) (λb hb=>?_) R.ob.gv λb hb=>by rw[up b (R.ob.there b hb)];exact R.ob.there b hb
  obtain⟨w1,w2,w3⟩:=R.ob.owned hb;refine⟨up b w2,?_,w3⟩;cases q:F' b with
  | none=>rfl
  | some o =>
   rcases fr b o q with h|h
   ·rw[w1]at h;cases h
   ·rcases h with h|⟨ws,rfl⟩
    ·exact absurd h w2
    ·exact absurd (by rw[<- up b w2];exact s2 b _ q) (R.ob.LD hb)
def c9(G:GE)(k:Nat)(x:Str)(sp:bq):Prop:=∃f fd ps,ck G.P G.w G.K G.mg G.base iA k f fd ps (ym sp)/\G.mg x=some (.ref f)/\PySem.W.keepIn G.K (.ref f)=true/\Binds G.K fd ps []
theorem c9.mono{x:Str}{sp:bq}{j:Nat}(h:c9 G j x sp)(l:j<=k):c9 G k x sp:=by
 obtain⟨f,fd,ps,h1,h2,h3,h4⟩:=h;exact⟨f,fd,ps,h1.mono l,h2,h3,h4⟩
def bE:B->EV
 | .sh d=>.val d
 | .own xs=>.own xs
 | .obj o=>.obj o
def Cl(sp:bq)(ds:List D)(Q:B->Prop):Prop:=sp ds Q
def jm(sp:bq)(t:eZ):TX:=λσ Q=>t σ λds av=>Cl sp ds λb=>Q (bE b) av
theorem bH{x:Str}{sp:bq}{e:Expr}{es:List Expr}{t:eZ}{p pos:Pos}(h:c9 G k x sp)(ha:xa G k S (e::es) t)(hg:S.sc.lookup x=some .globalImplicit:=by rfl)(jx:(x==("__debug__":Str))=false:=by decide)
  (he:∀env,ab7 (e::es) env=(false,eval e env)::ab7 es env:=by exactλ_=>Vc.cM rfl) (dm:∀env,(backTo pos (ab7 es env)).any (·.1)=false:=by intro _;rfl) (hh:S.jl=false:=by rfl):EX G k S (.Call (.Name x p) (e::es) [] pos) (jm sp t):=.mk λX Y ok=>by
 obtain⟨f,fd,ps,h1,h2,h3,h4⟩:=h;have vt:ck X.prog X.w X.K X.mg X.base iA k f fd ps (ym sp):=by rw[ok.P,ok.w,ok.K,ok.mg,ok.base];exact h1
 refine aO (jM (E:=E0) (dvs:=[]) (ds:=[]) vt (ok.room hh) (dy ok hg) (by rw[ok.mg];exact h2) (by rw[ok.K];exact h3) (by rw[ok.K];exact h4) .nil jL (ha X Y ok) jx (he _) (dm _)) λσ H Q q=>?_
 obtain⟨F,ah,Qd,R,q,K⟩:=q;refine⟨F,ah,_,R,q,λvs H1 F1 ds av s1 R1 r1 q1=>?_⟩;show ym sp (vs++[]) H1 Q E0;rw[List.append_nil];refine⟨F1,ds,_,⟨R1.fr,R1.ob.tab⟩,r1,q1,λv H' F' b s2 s3 s4 fr r2 q2=>?_⟩;have R2:=R1.call s2 s3 s4 fr;cases b with
 | sh d=>exact K v H' F' (.val d) av (s1.trans s2) R2 r2 q2
 | own xs =>
  obtain⟨a,us,rfl,w1,w2,w3,w4⟩:=r2;refine K _ H' F' (.own xs) av (s1.trans s2) R2 ⟨a,us,rfl,w1,w2,w3,(R1.bW w4).1,R1.de w4⟩ q2
 | obj o =>
  obtain⟨a,rfl,w1,w2⟩:=r2;exact K _ H' F' (.obj o) av (s1.trans s2) R2 ⟨a,rfl,w1,λb hb=>⟨(w2 b hb).1,(w2 b hb).2.1,(R1.bW (w2 b hb).2.2).1,R1.de (w2 b hb).2.2⟩⟩ q2
def aP(n:Nat)(ds:List D):Sd:=ds.map (λd=>some (.sh d))++List.replicate (n-ds.length) none
theorem oV{F:Hp}:∀ {vs:List V} {ds:List D} (m:Nat) {i:Nat} {d:D},aC F vs ds->(ds.map (λd=>some (B.sh d))++List.replicate m none)[i]?=some (some (.sh d))->∃v,(vs.map some++List.replicate m none)[i]?=some (some v)/\Rep F v d
 | [],[],m,i,d,.nil,e=>by
  simp only[List.map_nil,List.nil_append,List.getElem?_replicate]at e
  split at e<;>cases e
 | v::vs,x::ds,m,0,d,.cons r t,e=>by
  simp at e;subst e;exact⟨v,by simp,r⟩
 | v::vs,x::ds,m,i+1,d,.cons r t,e=>by
  obtain⟨u,h1,h2⟩:=oV (i:=i) m t (by simpa using e)
  exact⟨u,by simpa using h1,h2⟩
theorem fE:∀(ds:List D) (m i:Nat) (xs:List D),(ds.map (λd=>some (B.sh d))++List.replicate m none)[i]?≠some (some (.own xs))
 | [],m,i,xs=>by
  simp only[List.map_nil,List.nil_append,List.getElem?_replicate];intro e
  split at e<;>cases e
 | x::ds,m,0,xs=>by simp
 | x::ds,m,i+1,xs=>by
  have:=fE ds m i xs;simpa using this
theorem lW:∀(ds:List D) (m i:Nat) (o:O),(ds.map (λd=>some (B.sh d))++List.replicate m none)[i]?≠some (some (.obj o))
 | [],m,i,o=>by
  simp only[List.map_nil,List.nil_append,List.getElem?_replicate];intro e
  split at e<;>cases e
 | x::ds,m,0,o=>by simp
 | x::ds,m,i+1,o=>by
  have:=lW ds m i o;simpa using this
theorem RS.start{F H:Hp}{vs:List V}{ds:List D}(n:Nat)(s:mv F H)(r:aC F vs ds):RS ⟨H,F,[],[]⟩ F (aP n ds) (vs.map some++List.replicate (n-vs.length) none) H where
 len:=by unfold aP;simp [r.length]
 lo:=ao.refl _
 fr:=s.1
 eS:=λb o e=>.inl e
 old:=λb o e _=>e
 sh:=λi d e=>by
  rw[r.length];exact oV _ r e
 own:=λi xs e=>absurd e (fE _ _ _ _)
 dis:=λi j xs ys a e=>absurd e (fE _ _ _ _)
 io:=λp hp=>absurd hp (by simp)
 ob:=.none (λi o=>lW _ _ _ _) s.2 λb hb=>by cases hb
theorem DN{x qual:Str}{st:Stmt}{f:Addr}{fd:FuncData}{N ps:List Str}{sp:bq}{t:b5}(hK:G.K=KF.K)(Fn:Bq G.K x qual st f fd)(Sc:aB N ps (ag st))(ht:dr G k ⟨N,(ag st).names,[],false,false,false,λ_ _=>False⟩ (ak st) t)
  (len:∀ds Q,sp ds Q->ds.length=ps.length)
  (body:∀ds Q,sp ds Q->t {nx:=λ_=>Q (.sh .aQ),rt:=λb _=>Q b} (aP N.length ds)):ck G.P G.w G.K G.mg G.base iA (k+1) f fd ps (ym sp):=by
 refine Fn.ok Sc (λvs H Q E h=>?_) (λh9 A outer s H vs Q E hr h=>?_)
 ·obtain⟨F,ds,Qd,s,r,q,K⟩:=h
  rw[r.length];exact len _ _ q
 ·obtain⟨F,ds,Qd,sm,r,q,K⟩:=h
  refine⟨_,ht (nJ iA G.P G.w G.K G.mg G.base N qual (ag st) f h9 A outer s H E).IZ ⟨H,F,[],[]⟩ ⟨rfl,rfl,rfl,hK,rfl,rfl,rfl,rfl,Sc.nd,λp hp=>absurd hp (by simp),λ_ _=>rfl,λ_=>rfl,Sc.kind,λ_ _ _=>rfl,λ_=>hr.hd,hr.dp,hr.un,λ_=>PassesOwn.never,λ_=>⟨rfl,rfl,rfl⟩,λ_ _ h=>h.elim,λh=>nomatch h⟩,F,aP N.length ds,_,RS.start _ sm r,body ds Qd q,?_⟩
  have same:∀ {F':Hp} {ah:Sd} {σ:St} {H':Hp},RS ⟨H,F,[],[]⟩ F' ah σ H'->ao H H':=λR b o e=>R.old b o e (by simp [bz.zf])
  refine⟨λσ H' F' ah s' R' q'=>?_,λv σ H' F' ah b s' R' r' q'=>?_,λ_ _ _ _ _ _ h=>h.elim,λ_ _ _ _ _ _ h=>h.elim⟩
  ·exact K .aQ H' F' (.sh .aQ) s' R'.fr (same R') R'.eS .aQ q'
  ·refine K v H' F' b s' R'.fr (same R') R'.eS ?_ q'
   cases b with
   | sh d=>exact r'
   | own xs =>
    obtain⟨a,us,rfl,w1,w2,w3,w4,w5⟩:=r';exact⟨a,us,rfl,w1,w2,w3,w4⟩
   | obj o =>
    obtain⟨a,rfl,w1,w2⟩:=r';exact⟨a,rfl,w1,λb hb=>⟨(w2 b hb).1,(w2 b hb).2.1,(w2 b hb).2.2.1⟩⟩
end Vc
namespace Vc
open PySem L2
variable [KF]
variable {G:GE}{k:Nat}{S:Stat}
abbrev mw:=D->Sd->(Sd->Prop)->Prop
def lG(Y:bz)(g:mw):TG:=λv σ H Q=>∃F ah d Qd,RS Y F ah σ H/\Rep F v d/\g d ah Qd/\∀bZ H' F' aA,ao F F'->RS Y F' aA bZ H'->Qd aA->Q bZ H'
structure EG(G:GE)(k:Nat)(S:Stat)(tg:Expr)(g:mw) :Prop where
 run:∀X Y,dJ X G k S Y->PG X tg (lG Y g)
instance {G:GE} {k:Nat} {S:Stat} {tg:Expr} {g:mw} :CoeFun (EG G k S tg g) λ_=>∀X Y,dJ X G k S Y->PG X tg (lG Y g):=⟨EG.run⟩
theorem Fg{X:Cx}{e:Expr}{t t':TG}(h:PG X e t)(i:∀v σ H Q,t' v σ H Q->t v σ H Q):PG X e t':=λpins s σ H v u Q I r q=>h pins s σ H v u Q I r (i v σ H Q q)
def fK(i:Nat):mw:=λd σ Q=>Q (σ.set i (some (.sh d)))
theorem bg(i:Nat){x:Str}{pos:Pos}(hi:S.N[i]?=some x:=by rfl)(hx:S.sc.lookup x=some .local\/(S.sc.lookup x=some .cell/\S.Ce=false):=by first|exact Or.inl rfl|exact Or.inr ⟨rfl,rfl⟩)(hn:i∉S.ios:=by first|decide|exact ack | (dsimp only;decide)):EG G k S (.Name x pos) (fK i):=.mk λX Y ok =>
 Fg (zG (i:=i) (by rw[ok.N];exact ok.nd) (by rw[ok.N];exact hi) (n5 ok hx) (nL ok hx)) λv σ H Q q=>by
  obtain⟨F,ah,d,Qd,R,r,q,K⟩:=q;exact K _ H F _ (ao.refl _) (R.zV r λp hp z=>hn (z ▸ ok.ios p hp)) q
abbrev qW:=List D->Sd->(Sd->Prop)->Prop
def lGs(Y:bz)(g:qW):K0:=λvs σ H Q=>∃F ah ds Qd,RS Y F ah σ H/\aC F vs ds/\g ds ah Qd/\∀bZ H' F' aA,ao F F'->RS Y F' aA bZ H'->Qd aA->Q bZ H'
structure Va(G:GE)(k:Nat)(S:Stat)(ts:List Expr)(g:qW) :Prop where
 run:∀X Y,dJ X G k S Y->Ve X ts (lGs Y g)
instance {G:GE} {k:Nat} {S:Stat} {ts:List Expr} {g:qW} :CoeFun (Va G k S ts g) λ_=>∀X Y,dJ X G k S Y->Ve X ts (lGs Y g):=⟨Va.run⟩
def G9:qW:=λds σ Q=>match ds with
 | []=>Q σ
 | _=>False
def gC(g:mw)(u:qW):qW:=λds σ Q=>match ds with
 | d::r=>g d σ λav=>u r av Q
 | []=>False
theorem ja:Va G k S [] G9:=.mk λX Y ok pins s σ H vs us Q I r q=>Ju pins s σ H vs us Q I r (by
 obtain⟨F,ah,ds,Qd,R,rr,q,K⟩:=q;cases rr with
 | nil=>exact⟨rfl,K σ H F ah (ao.refl _) R q⟩
 | cons _ _=>exact q.elim)
theorem b8{e:Expr}{es:List Expr}{g:mw}{u:qW}(h1:EG G k S e g)(h2:Va G k S es u)(hs:∀env,(assignEach (e::es) env).map (·.2)=assign e env::(assignEach es env).map (·.2):=by intro _;rfl):Va G k S (e::es) (gC g u):=.mk λX Y ok pins s σ H vs us Q I r q =>
 Fh (h1 X Y ok) (h2 X Y ok) (hs _) pins s σ H vs us Q I r (by
  obtain⟨F,ah,ds,Qd,R,rr,q,K⟩:=q;cases rr with
  | nil=>exact q.elim
  | cons r1 rs =>
   refine⟨_,_,rfl,F,ah,_,_,R,r1,q,λav H1 F1 yD s1 R1 q1=>?_⟩;exact⟨F1,yD,_,_,R1,rs.mono s1,q1,λaL H2 F2 cj s2 R2 q2=>K aL H2 F2 cj (s1.trans s2) R2 q2⟩)
def Ha(n:Nat)(u:qW):mw:=λd σ Q=>match d with
 | .tup xs=>xs.length=n/\u xs σ Q
 | _=>False
theorem nO{es:List Expr}{kk:Nat}{u:qW}{n:Nat}{pos:Pos}(h:Va G k S es u)(hn:∀env,(assignEach es env).length=n:=by intro _;rfl)(En:∀env,(assignEach es env).findIdx? (·.1)=none:=by intro _;rfl)(hh:S.jl=false:=by rfl):EG G k S (.Tuple es kk pos) (Ha n u):=.mk λX Y ok =>
 Fg (Sv (ok.calm hh) (h X Y ok) (hn _) (En _)) λv σ H Q q=>by
  obtain⟨F,ah,d,Qd,R,r,q,K⟩:=q;cases d with
  | tup xs =>
   cases r with
   | tup hf rl =>
    exact⟨_,_,rfl,.of (R.fr _ _ hf),by rw[rl.length];exact q.1,F,ah,xs,Qd,R,rl,q.2,K⟩
  | _=>exact q.elim
def Grow(F1 H1 F2 H2:Hp):Prop:=(F2=F1/\H2=H1)\/∃p o,H1 p=none/\F2=upd F1 p o/\H2=upd H1 p o
theorem Grow.same{F1 H1 F2 H2:Hp}(g:Grow F1 H1 F2 H2)(s:ao F1 H1):ao F1 F2:=by
 rcases g with⟨rfl,rfl⟩|⟨p,o,h,rfl,rfl⟩
 ·exact ao.refl _
 ·exact aJ (same_none s h)
theorem Grow.rs{Y:bz}{F1 H1 F2 H2:Hp}{ah:Sd}{σ:St}(g:Grow F1 H1 F2 H2)(R:RS Y F1 ah σ H1):RS Y F2 ah σ H2:=by
 rcases g with⟨rfl,rfl⟩|⟨p,o,h,rfl,rfl⟩
 ·exact R
 ·exact R.alloc h
def mq(F:Hp)(J:It)(items:List D):Prop:=∀F1 H1,ao F F1->ao F1 H1->∀i:Nat,
 (∀x,items[i]?=some x->J.go i H1/\∀v H2,J.VJ i H1 v H2->∃F2,Grow F1 H1 F2 H2/\Rep F2 v x)/\(i=items.length->J.stop i H1)
theorem mq.mono{F F':Hp}{J:It}{items:List D}(h:mq F J items)(s:ao F F'):mq F' J items:=λF1 H1 s1=>h F1 H1 (s.trans s1)
def lI(Y:bz)(t:eZ):TI:=λσ H R=>∃F ah Qd,RS Y F ah σ H/\t ah Qd/\∀H' F' aA J items,ao F F'->RS Y F' aA σ H'->mq F' J items->Qd items aA->R J H'
structure EI(G:GE)(k:Nat)(S:Stat)(tg iter:Expr)(t:eZ) :Prop where
 run:∀X Y,dJ X G k S Y->PI X tg iter (lI Y t)
instance {G:GE} {k:Nat} {S:Stat} {tg iter:Expr} {t:eZ} :CoeFun (EI G k S tg iter t) λ_=>∀X Y,dJ X G k S Y->PI X tg iter (lI Y t):=⟨EI.run⟩
theorem sr{X:Cx}{tg e:Expr}{t t':TI}(h:PI X tg e t)(i:∀σ H Q,t' σ H Q->t σ H Q):PI X tg e t':=λpins s σ H Q I q=>h pins s σ H Q I (i σ H Q q)
theorem Fj{X:Cx}{tg l:Expr}{tl:TE}(hl:PE X l tl):PI X tg l (λσ H R=>tl σ H λx H1=>(∃a,x=.ref a/\(∃xs,f7 X.K H1 a xs)/\R (Itl X.K a) H1)\/(∃a,x=.ref a/\(∃xs,k6 X.K H1 a xs)/\R (Itt X.K a) H1)):=by
 intro pins s σ H R I h;refine cv (hl pins s σ H _ I h) λv s1 ⟨x,H1,I1,r1,q1⟩=>?_;rcases q1 with⟨a,e,⟨xs,hq⟩,q⟩|⟨a,e,⟨xs,hq⟩,q⟩
 ·subst e
  cases r1;obtain⟨its,rv,p,hz⟩:=I1.list hq;refine wpAny_pyIter_list p.isList ?_;refine⟨s1.heap.objs.size,[s1.heap.objs.size],_,_,H1,rfl,I1.kept (t':=s1.toks) λb o e=>abX _ e,Bm a _,⟨_,Heap.get?_push_size _ rfl,rfl,rfl⟩,λb hb=>?_,q⟩;have e:b=s1.heap.objs.size:=by simpa using hb
  subst e;exact I1.DQ (ab3 _) (I1.bG.fresh (ab3 _))
 ·subst e
  cases r1;obtain⟨its,rv,p,hz⟩:=I1.tuple hq;refine wpAny_pyIter_tuple (show s1.heap.IsTuple a its.toArray from p) ?_
  refine⟨s1.heap.objs.size,[s1.heap.objs.size],_,_,H1,rfl,I1.kept (t':=s1.toks) λb o e=>abX _ e,yC a _,⟨_,Heap.get?_push_size _ rfl,rfl,rfl⟩,λb hb=>?_,q⟩;have e:b=s1.heap.objs.size:=by simpa using hb
  subst e;exact I1.DQ (ab3 _) (I1.bG.fresh (ab3 _))
theorem Iv{K:ab4}{F:Hp}{a:Addr}{vs:List V}{xs:List D}(h:Rd F a (.lst vs))(r:aC F vs xs):mq F (Itl K a) xs:=λF1 H1 s1 s2 i=>by
 have hs:f7 K H1 a vs:=.inl (Rd.mono (s1.trans s2) h);refine⟨λx e=>?_,λhl=>⟨vs,hs,by rw[r.length,hl];exact ab3 _⟩⟩
 obtain⟨v,e1,r1⟩:=r.get e;refine⟨⟨vs,v,hs,e1⟩,λv2 H2 y=>?_⟩;obtain⟨rfl,y⟩:=y;have:=y vs hs;rw[e1]at this;cases this;exact⟨F1,.inl ⟨rfl,rfl⟩,r1.mono s1⟩
theorem Iw{K:ab4}{F:Hp}{a:Addr}{vs:List V}{xs:List D}(h:F a=some (.tup vs))(r:aC F vs xs):mq F (Itt K a) xs:=λF1 H1 s1 s2 i=>by
 have hs:k6 K H1 a vs:=.of (s2 _ _ (s1 _ _ h));refine⟨λx e=>?_,λhl=>⟨vs,hs,by rw[r.length,hl];exact ab3 _⟩⟩
 obtain⟨v,e1,r1⟩:=r.get e;refine⟨⟨vs,v,hs,e1⟩,λv2 H2 y=>?_⟩;obtain⟨rfl,y⟩:=y;have:=y vs hs;rw[e1]at this;cases this;exact⟨F1,.inl ⟨rfl,rfl⟩,r1.mono s1⟩
def cV(t:TD):eZ:=λσ Q=>t σ λd av=>match d with
 | .lst xs=>Q xs av
 | .tup xs=>Q xs av
 | _=>False
theorem gf{tg l:Expr}{t:TD}(h:ED G k S l t):EI G k S tg l (cV t):=.mk λX Y ok=>sr (Fj (h X Y ok)) λσ H Q q=>by
 obtain⟨F,ah,Qd,R,q,K⟩:=q;refine⟨F,ah,_,R,q,λv H1 F1 d av s1 R1 r1 q1=>?_⟩;cases d with
 | lst xs =>
  cases r1 with
  | lst hf rl=>exact .inl ⟨_,rfl,⟨_,.inl (Rd.mono R1.fr hf)⟩,K H1 F1 av _ xs s1 R1 (Iv hf rl) q1⟩
 | tup xs =>
  cases r1 with
  | tup hf rl=>exact .inr ⟨_,rfl,⟨_,.of (R1.fr _ _ hf)⟩,K H1 F1 av _ xs s1 R1 (Iw hf rl) q1⟩
 | _=>exact q1.elim
def Bh(lo:Int)(n:Nat):List D:=(List.range n).map λi=>.int (lo+(i:Nat))
theorem zi{F:Hp}(lo:Int)(n:Nat):mq F (V0 lo n) (Bh lo n):=λF1 H1 s1 s2 i=>by
 refine⟨λx e=>?_,λhl=>?_⟩
 ·unfold Bh at e
  rw[acb]at e;have hi:i<n:=by
   by_cases hi:i<n
   ·exact hi
   ·rw[List.getElem?_eq_none_iff.mpr (by simpa using hi)]at e;cases e
  rw[List.getElem?_range hi]at e;cases e;refine⟨hi,λv H2 y=>?_⟩;obtain⟨rfl,rfl⟩:=y;exact⟨F1,.inl ⟨rfl,rfl⟩,.int _⟩
 ·unfold Bh at hl
  rw[abZ,List.length_range]at hl;exact Nat.le_of_eq hl.symm
def pC(t:wV):eZ:=λσ Q=>t σ λxs av=>match i7 av xs with
 | some [.int j]=>(-(2^62)<=j/\j<2^62)/\Q (Bh 0 j.toNat) av
 | _=>False
def JL(t:wV):eZ:=λσ Q=>t σ λxs av=>match i7 av xs with
 | some [.int i,.int j]=>(-(2^62)<=i/\i<2^62/\-(2^62)<=j/\j<2^62)/\Q (Bh i (j-i).toNat) av
 | _=>False
theorem jc{tg a:Expr}{t:wV}{p pos:Pos}(h:G4 G k S [a] t)(hm:G.mg "range"=none)(hg:S.sc.lookup ("range":Str)=some .globalImplicit:=by rfl)(hs:∀env,ab7 [a] env=[(false,eval a env)]:=by intro _;rfl):EI G k S tg (.Call (.Name "range" p) [a] [] pos) (pC t):=.mk λX Y ok =>
 sr (Bb (dy ok hg) (by rw[ok.mg];exact hm) (h X Y ok) (hs _)) λσ H Q q=>by
  obtain⟨F,ah,Qd,R,q,K⟩:=q;refine⟨F,ah,_,R,q,λvs H1 F1 xs av s1 R1 r1 q1=>?_⟩
  split at q1
  ·rename_i j e
   obtain⟨v,rfl,rv⟩:=(R1.i7 r1 e).one;obtain rfl:=rv.int;exact⟨j,rfl,q1.1.1,q1.1.2,K H1 F1 av _ _ s1 R1 (zi 0 _) q1.2⟩
  ·exact q1.elim
theorem Pu{tg a b:Expr}{t:wV}{p pos:Pos}(h:G4 G k S [a,b] t)(hm:G.mg "range"=none)(hg:S.sc.lookup ("range":Str)=some .globalImplicit:=by rfl)(hs:∀env,ab7 [a,b] env=[(false,eval a env),(false,eval b env)]:=by intro _;rfl)(Bu:∀env,ab7 [b] env=[(false,eval b env)]:=by intro _;rfl):EI G k S tg (.Call (.Name "range" p) [a,b] [] pos) (JL t):=.mk λX Y ok =>
 sr (Bc (dy ok hg) (by rw[ok.mg];exact hm) (h X Y ok) (hs _) (Bu _)) λσ H Q q=>by
  obtain⟨F,ah,Qd,R,q,K⟩:=q;refine⟨F,ah,_,R,q,λvs H1 F1 xs av s1 R1 r1 q1=>?_⟩
  split at q1
  ·rename_i i j e
   obtain⟨v,u,rfl,rv,ru⟩:=(R1.i7 r1 e).two;obtain rfl:=rv.int;obtain rfl:=ru.int;exact⟨i,j,rfl,q1.1,K H1 F1 av _ _ s1 R1 (zi i _) q1.2⟩
  ·exact q1.elim
def vm(g:mw)(tb:b5)(De:iJ):List D->Sd->Prop
 | [],σ=>De.nx σ
 | x::xs,σ=>g x σ λav=>tb {De with nx:=vm g tb De xs,ct:=vm g tb De xs,bk:=De.nx} av
def dU(ti:eZ)(g:mw)(tb:b5):b5:=λDe σ=>ti σ λitems av=>vm g tb De items av
theorem mP{tg iter:Expr}{body:List Stmt}{ti:eZ}{g:mw}{tb:b5}{pos:Pos}(hi:EI G k S tg iter ti)(hg:EG G k S tg g)(hb:dr G k S body tb)(hs:∀env x,foldedSetIterable iter env x=pure x:=by intro _ _;rfl)(hh:S.jl=false:=by rfl):
  ES G k S (.For tg iter body [] pos) (dU ti g tb):=.mk λX Y ok=>cf (Ft (ok.po hh) (ok.calm hh) (hi X Y ok) (hg X Y ok) (hb X Y ok) (hs _)) λDn σ H q=>by
 obtain⟨F,ah,De,R,q,K⟩:=q;refine⟨F,ah,_,R,q,λH1 F1 yD J items s1 R1 it q1=>?_⟩;refine⟨λi m bZ H'=>∃F' aA,ao F1 F'/\RS Y F' aA bZ H'/\vm g tb De (items.drop i) aA/\m=items.length-i/\i<=items.length,⟨items.length,F1,yD,ao.refl _,R1,q1,rfl,Nat.zero_le _⟩,?_⟩;rintro i m bZ H' ⟨F',aA,s',R',q',rfl,hi⟩;have zh:=it F' H' s' R'.fr i
 by_cases hl:i<items.length
 ·right
  have hd:items.drop i=items[i]::items.drop (i+1):=by rw[List.drop_eq_getElem_cons hl]
  rw[hd]at q';obtain⟨go,yl⟩:=zh.1 items[i] (by rw[abY hl])
  refine⟨go,λaL H2=>∃F2 cj,ao F1 F2/\RS Y F2 cj aL H2/\vm g tb De (items.drop (i+1)) cj,λaL H2 ⟨F2,cj,s2,R2,q2⟩=>⟨items.length-(i+1),by omega,F2,cj,s2,R2,q2,rfl,hl⟩,λv H2 y=>?_⟩
  obtain⟨F2,gr,rep⟩:=yl v H2 y;have s2:ao F1 F2:=s'.trans (gr.same R'.fr);refine⟨F2,aA,items[i],_,gr.rs R',rep,q',λeY H3 F3 abK s3 R3 q3=>⟨F3,abK,_,R3,q3,?_⟩⟩;refine⟨λqR H4 F4 eD s4 R4 q4=>⟨F4,eD,(s2.trans s3).trans s4,R4,q4⟩,λv4 qR H4 F4 eD b s4 R4 r4 q4=>K.rt v4 qR H4 F4 eD b (((s1.trans s2).trans s3).trans s4) R4 r4 q4,
   λqR H4 F4 eD s4 R4 q4=>K.nx qR H4 F4 eD (((s1.trans s2).trans s3).trans s4) R4 q4,λqR H4 F4 eD s4 R4 q4=>⟨F4,eD,(s2.trans s3).trans s4,R4,q4⟩⟩
 ·left
  have e:i=items.length:=by omega
  subst e;rw[List.drop_length]at q';exact⟨zh.2 rfl,K.nx bZ H' F' aA (s1.trans s') R' q'⟩
end Vc
namespace Vc
open PySem L2
variable [KF]
theorem rA{prog:Program}{w:World}{A:Around}{R:Result->Shared->Prop}{s:Shared}{elt target iter:Expr}{ifs:List Expr}{scope:Scope}{pos:Pos}{it acc:Value}{env:Env}(I:Nat->Shared->Prop)
  (turn:∀n s,I n s->wpAny (model prog w) A (pyNext it) (λr bJ=>match r with
   | none=>R (.ok .next) bJ
   | some v=>wpAny (model prog w) A (letOwnedTupleGo target it v) (λ_ LX=>wpAny (model prog w) A (assign target env v) (λ_ tX =>
     wpAny (model prog w) A (forIn ifs true λc r=>if r=true then do let ok <- isTrue c env (eval c env);pure (ForInStep.yield ok)else pure (ForInStep.yield r)) (λok wo =>
      if ok=true then wpAny (model prog w) A (eval elt env) (λx JS =>
       wpAny (model prog w) A (call (.builtin "list.append") [acc,x]) (λ_ aai=>∃m,m<n/\I m aai) (λ_ _=>False) JS) (λ_ _=>False) wo
      else∃m,m<n/\I m wo) (λ_ _=>False) tX) (λ_ _=>False) LX) (λ_ _=>False) bJ) (λ_ _=>False) s)
  (n:Nat) (h:I n s):codeAny (model prog w) A (.compLoop (.ListComp elt [⟨target,iter,ifs,0⟩] scope pos) 0 it acc env) R s:=by
 refine codeAny_loop rfl I (λn s hI=>?_) n h;show wpAny _ A ((compTurn (.ListComp elt [⟨target,iter,ifs,0⟩] scope pos) 0 it acc env).onRaise (λx=>do noteFrame x env;theTreesLotGoes x)) _ _ s
 refine wpAny_noted ?_;rw[compTurn_list];refine abW (wpAny_standAt (abW (wpAny_mono (turn n s hI) (λr bJ Il=>?_) λ_ _ h'=>h'.elim)));cases r with
 | none=>exact ab0 Il
 | some v =>
  refine abW (wpAny_mono Il (λ_ LX Yd=>?_) λ_ _ h'=>h'.elim);refine abW (wpAny_mono Yd (λ_ tX Ep=>abW (wpAny_mono Ep (λok wo Im=>?_) λ_ _ h'=>h'.elim)) λ_ _ h'=>h'.elim);cases ok with
  | false=>exact ab0 ⟨rfl,Im⟩
  | true =>
   exact abW (abW (wpAny_mono Im (λx JS abf=>abW (wpAny_mono abf (λ_ aai abg=>ab0 (ab0 ⟨rfl,abg⟩)) λ_ _ h'=>h'.elim)) λ_ _ h'=>h'.elim))
def iZ(env:Env):List (Str×NameKind)->List (Str×Addr)->List (Str×Addr)
 | [],cs=>cs
 | (n,k)::r,cs=>if k==.free then iZ env r ((n,(env.cells.lookup n).getD 0)::cs)else iZ env r cs
theorem nF{env:Env}{scope:Scope}(h:∀x∈scope.names,x.2=.free->∃c,env.cells.lookup x.1=some c):closureFor scope env=pure (iZ env scope.names []):=by
 have all:∀(l:List (Str×NameKind)) (cs:List (Str×Addr)),(∀x∈l,x.2=.free->∃c,env.cells.lookup x.1=some c) ->
   (forIn l cs λx cs=>if(x.2==NameKind.free)=true then(do let a <- cellOf env x.1;pure (ForInStep.yield ((x.1,a)::cs)))else pure (ForInStep.yield cs):Sem (List (Str×Addr)))=pure (iZ env l cs):=by
  intro l
  induction l with
  | nil=>intro cs _;rfl
  | cons x l ih =>
   intro cs hl;obtain⟨n,k⟩:=x;rw[List.forIn_cons];unfold iZ
   by_cases hk:k=.free
   ·subst hk
    obtain⟨c,e⟩:=hl (n,.free) ab8 rfl;have e':env.cells.lookup n=some c:=e;simp only[beq_self_eq_true,if_true,cellOf,e',Option.getD_some,pure_bind];exact ih _ λy hy=>hl y (ab1 _ hy)
   ·have hb:(k==NameKind.free)=false:=by simpa using hk
    simp only[hb,acd,if_false,pure_bind];exact ih _ λy hy=>hl y (ab1 _ hy)
 have h1:=all scope.names [] h;have h2:closureFor scope env=((forIn scope.names ([]:List (Str×Addr)) λx cs=>if(x.2==NameKind.free)=true then(do let a <- cellOf env x.1;pure (ForInStep.yield ((x.1,a)::cs)))else pure (ForInStep.yield cs):Sem (List (Str×Addr))) >>= λcs=>pure cs):=rfl
 rw[h2,h1,pure_bind]
theorem cm{env:Env}:∀(l:List (Str×NameKind)) (cs:List (Str×Addr)) (x:Str) (c:Addr),(∀y∈l,y.2=.free->∃c,env.cells.lookup y.1=some c)->(iZ env l cs).lookup x=some c->env.cells.lookup x=some c\/cs.lookup x=some c
 | [],cs,x,c,_,h=>.inr h
 | (n,k)::r,cs,x,c,hl,h=>by
  unfold iZ at h
  by_cases hk:k=.free
  ·subst hk
   simp only[beq_self_eq_true,if_true]at h;obtain⟨c',e⟩:=hl (n,.free) ab8 rfl;have e':env.cells.lookup n=some c':=e;rcases cm r _ x c (λy hy=>hl y (ab1 _ hy)) h with q|q
   ·exact .inl q
   ·rw[List.lookup_cons]at q
    cases hx:x==n with
    | true =>
     rw[hx]at q;have:=eq_of_beq hx;subst this;rw[e',Option.getD_some]at q;exact .inl (e'.trans q)
    | false=>rw[hx]at q;exact .inr q
  ·have hb:(k==NameKind.free)=false:=by simpa using hk
   simp only[hb,acd,if_false]at h;exact cm r cs x c (λy hy=>hl y (ab1 _ hy)) h
theorem lg{env:Env}:∀(l:List (Str×NameKind)) (cs:List (Str×Addr)) (x:Str),(cs.lookup x).isSome=true->((iZ env l cs).lookup x).isSome=true
 | [],cs,x,h=>h
 | (n,k)::r,cs,x,h=>by
  unfold iZ
  by_cases hk:k=.free
  ·subst hk
   simp only[beq_self_eq_true,if_true];refine lg r _ x ?_;rw[List.lookup_cons];cases hx:x==n with
   | true=>rfl
   | false=>exact h
  ·have hb:(k==NameKind.free)=false:=by simpa using hk
   simp only[hb,acd,if_false];exact lg r cs x h
theorem jr{env:Env}:∀(l:List (Str×NameKind)) (cs:List (Str×Addr)) (x:Str),(x,NameKind.free)∈l->((iZ env l cs).lookup x).isSome=true
 | (n,k)::r,cs,x,h=>by
  unfold iZ;rcases ab6.mp h with e|e
  ·cases e
   simp only[beq_self_eq_true,if_true];refine lg r _ _ ?_;rw[List.lookup_cons,beq_self_eq_true];rfl
  ·split
   ·exact jr r _ x e
   ·exact jr r cs x e
structure jo(X X':Cx)(scope:Scope)(N':List Str):Prop where
 P:X'.prog=X.prog
 w:X'.w=X.w
 K:X'.K=X.K
 mg:X'.mg=X.mg
 base:X'.base=X.base
 A:X'.A=X.A
 N:X'.N=N'
 sc:X'.env.scope=relabel scope X.env
 calm:X'.calm=true
 xe:X'.xe=λ_ _=>False
def G6(X:Cx)(ifs:List Expr)(t:TT):Prop:=∀(pins:List (Addr×Obj)) (s:Shared) (σ:St) (H:Hp) (Q:Bool->Hp->Prop),L2.Inv X pins σ H s->t σ H Q ->
 wpAny (model X.prog X.w) X.A (forIn ifs true λc r=>if r=true then do let ok <- isTrue c X.env (eval c X.env);pure (ForInStep.yield ok)else pure (ForInStep.yield r)) (TP X pins σ Q) X.xe s
theorem JA{X:Cx}:G6 X [] (λ_ H Q=>Q true H):=λpins s σ H Q I h=>wpAny_tests_nil ⟨H,I,h⟩
theorem JB{X:Cx}{c:Expr}{t:TT}(h:PT X c t):G6 X [c] t:=λpins s σ H Q I q=>wpAny_tests_one (h pins s σ H Q I q)
def f9(caps:List (Option Nat))(σ:St):St:=caps.map λc=>match c with
 | some j=>(σ[j]?).join
 | none=>none
def lY(wi:TI)(caps:List (Option Nat))(g:TG)(tc:TT)(te:TE):TE:=λσ H Q=>wi σ H λJ H1=>∀acc,H1 acc=none->∃W:Nat->Nat->St->Hp->Prop,(∃m,W 0 m (f9 caps σ) (upd H1 acc (.lst [])))/\∀i m av H,W i m av H ->
 (J.stop i H/\Q (.ref acc) H)\/(J.go i H/\∀x H',J.VJ i H x H'->g x av H' λaL H2=>tc aL H2 λb H3=>if b=true then te aL H3 λv H4=>∃ys m',H4 acc=some (.lst ys)/\ys.length<aca/\m'<m/\W (i+1) m' aL (upd H4 acc (.lst (ys++[v])))else∃m',m'<m/\W (i+1) m' aL H3)
theorem fQ{env:Env}:∀ {names:List (Str×NameKind)} {x:Str} {k:NameKind},(names.map λ(n,k)=>if(k==NameKind.free&&env.scope.kind==.function&&env.kindOf n==some .cell)then(n,NameKind.cell)else(n,k)).lookup x=some k ->
  names.lookup x=some k\/(k=.cell/\names.lookup x=some .free)
 | [],_,_,h=>by simp at h
 | (n,k')::r,x,k,h=>by
  have ih:=@fQ env r x k;have h:List.lookup x ((if(k'==NameKind.free&&env.scope.kind==.function&&env.kindOf n==some .cell)=true then(n,NameKind.cell)else(n,k'))::_)=some k:=h
  cases hx:x==n with
  | true =>
   by_cases hc:(k'==NameKind.free&&env.scope.kind==.function&&env.kindOf n==some .cell)=true
   ·rw[if_pos hc]at h
    simp only[List.lookup_cons,hx]at h ⊢;cases h;simp only[Bool.and_eq_true,beq_iff_eq]at hc;exact .inr ⟨rfl,by rw[hc.1.1]⟩
   ·rw[if_neg hc]at h
    simp only[List.lookup_cons,hx]at h ⊢;exact .inl h
  | false =>
   by_cases hc:(k'==NameKind.free&&env.scope.kind==.function&&env.kindOf n==some .cell)=true
   ·rw[if_pos hc]at h
    simp only[List.lookup_cons,hx]at h ⊢;exact ih h
   ·rw[if_neg hc]at h
    simp only[List.lookup_cons,hx]at h ⊢;exact ih h
theorem jS{env:Env}:∀ {names:List (Str×NameKind)} {x:Str},names.lookup x=some .free ->
  (names.map λ(n,k)=>if(k==NameKind.free&&env.scope.kind==.function&&env.kindOf n==some .cell)then(n,NameKind.cell)else(n,k)).lookup x=some .cell \/
  (names.map λ(n,k)=>if(k==NameKind.free&&env.scope.kind==.function&&env.kindOf n==some .cell)then(n,NameKind.cell)else(n,k)).lookup x=some .free
 | [],_,h=>by simp at h
 | (n,k')::r,x,h=>by
  have ih:=@jS env r x;show List.lookup x ((if(k'==NameKind.free&&env.scope.kind==.function&&env.kindOf n==some .cell)=true then(n,NameKind.cell)else(n,k'))::_)=some .cell\/List.lookup x ((if(k'==NameKind.free&&env.scope.kind==.function&&env.kindOf n==some .cell)=true then(n,NameKind.cell)else(n,k'))::_)=some .free
  cases hx:x==n with
  | true =>
   simp only[List.lookup_cons,hx]at h
   by_cases hc:(k'==NameKind.free&&env.scope.kind==.function&&env.kindOf n==some .cell)=true
   ·rw[if_pos hc];left;simp only[List.lookup_cons,hx]
   ·rw[if_neg hc];right;simp only[List.lookup_cons,hx];exact h
  | false =>
   simp only[List.lookup_cons,hx]at h
   by_cases hc:(k'==NameKind.free&&env.scope.kind==.function&&env.kindOf n==some .cell)=true
   ·rw[if_pos hc];simp only[List.lookup_cons,hx];exact ih h
   ·rw[if_neg hc];simp only[List.lookup_cons,hx];exact ih h
structure gB(X:Cx)(scope:Scope)(N':List Str)(caps:List (Option Nat)):Prop where
 kind:scope.kind=.function
 oi:∀y∈scope.names,y.2≠.cell
 names:∀y∈scope.names,y.2=.local->scope.names.lookup y.1=some .local
 free:∀y∈scope.names,y.2=.free->X.env.kindOf y.1=some .cell\/X.env.kindOf y.1=some .free
 len:caps.length=N'.length
 cap:∀(i:Nat) (j:Nat),caps[i]?=some (some j)->∃x,N'[i]?=some x/\X.N[j]?=some x/\scope.names.lookup x=some .free
section
variable {X:Cx}{pins:List (Addr×Obj)}{σ:St}{H:Hp}{s:Shared}{elt target iter:Expr}{ifs:List Expr}{scope:Scope}{pos:Pos}{N':List Str}{caps:List (Option Nat)}
theorem gB.cells(SC:gB X scope N' caps)(ok:X.Ok):∀x∈scope.names,x.2=.free->∃c,X.env.cells.lookup x.1=some c:=λx hx hf=>ok.has x.1 (SC.free x hx hf)
def G7(X:Cx)(scope:Scope)(N':List Str)(c5:Shared)(xh:Hp)(C:Addr)(fp:List Addr):Cx:=
 {X with N:=N',c5:=c5,xh:=xh,env:=compEnvC scope (iZ X.env scope.names []) C X.env,outer:=X.stack,ex:=fp,fn:=λ_=>false,calm:=true,pn:=[],xe:=λ_ _=>False}
theorem Nu(I:L2.Inv X pins σ H s)(SC:gB X scope N' caps)(hc:X.calm=true){fp:List Addr}(hf:∀b∈fp,iC X pins H b)(iR:∀b∈fp,b<s.heap.objs.size):(G7 X scope N' s H s.heap.objs.size fp).Ok where
 mod:=I.ok.mod
 kind:=SC.kind
 glob:=I.ok.glob
 blt:=I.ok.blt
 above:=ab3 _
 inj:=λx y c h1 h2=>by
  have f:∀z,(iZ X.env scope.names []).lookup z=some c->X.env.cells.lookup z=some c:=λz h=>by
   rcases cm scope.names [] z c (SC.cells I.ok) h with q|q
   ·exact q
   ·cases q
  exact I.ok.inj x y c (f x h1) (f y h2)
 has:=λx hx=>by
  have hx:(relabel scope X.env).names.lookup x=some .cell\/(relabel scope X.env).names.lookup x=some .free:=hx;have y0:scope.names.lookup x=some .free:=by
   rcases hx with hx|hx
   ·rcases fQ hx with q|⟨_,q⟩
    ·exact absurd rfl (SC.oi _ (PySem.mem_of_lookup q))
    ·exact q
   ·rcases fQ hx with q|⟨q,_⟩
    ·exact q
    ·cases q
  exact Option.isSome_iff_exists.mp (jr scope.names [] x (PySem.mem_of_lookup y0))
 Vh:=λx c h=>by cases h
 hd:=λ_=>I.ok.hd hc
 frames:=I.ok.frames
 stk:=.inl rfl
 exf:=λb hb=>⟨Nat.ne_of_lt (iR b hb),λx c h=>by
  rcases cm scope.names [] x c (SC.cells I.ok) h with q|q
  ·exact(hf b hb).2.2.2.2.1 x c q
  ·cases q⟩
 bs:=I.bs
 Cg:=Nat.le_trans I.ok.Cg I.sz
 A1:=λb o e hb=>by
  rcases(hf b hb).2.2.2.1 with q|q
  ·exact I.ok.A1 b o e q
  ·exact absurd (Nat.lt_of_lt_of_le (Heap.lt_size e) (Nat.le_trans I.ok.Cg q)) (Nat.lt_irrefl _)
 DC:=λb hb z=>by
  rcases ab6.mp (I.tW b z)with q|q
  ·exact(hf b hb).2.1 q
  ·exact(hf b hb).2.2.1 q
 lr:=I.stack
 Lg:=I.Aa
theorem HF(I:L2.Inv X pins σ H s)(SC:gB X scope N' caps)(hc:X.calm=true){fp:List Addr}(hf:∀b∈fp,iC X pins H b)(iR:∀b∈fp,b<s.heap.objs.size){h1:Heap}{t1:Nat}(hn:h1.Ns s.heap.objs.size (λ_=>none))(hk:∀b o,s.heap.get? b=some o->h1.get? b=some o):
  L2.Inv (G7 X scope N' s H s.heap.objs.size fp) [] (f9 caps σ) H {s with heap:=h1,toks:=t1} where
 ok:=Nu I SC hc hf iR
 os:=rfl
 bare:=I.bare
 base:=Un.kept hk
 loc:=by
  refine⟨_,hn,λi x v e1 e2 _=>?_⟩;have e2:(caps.map λc=>match c with|some j=>(σ[j]?).join|none=>none)[i]?=some (some v):=e2
  rw[acb]at e2;cases ec:caps[i]? with
  | none=>rw[ec]at e2;cases e2
  | some c =>
   rw[ec]at e2;cases c with
   | none=>cases e2
   | some j =>
    have e2:(σ[j]?).join=some v:=Option.some.inj e2;have e3:σ[j]?=some (some v):=by
     cases q:σ[j]? with
     | none=>rw[q]at e2;cases e2
     | some w =>
      rw[q]at e2;cases w with
      | none=>cases e2
      | some z=>cases e2;rfl
    obtain⟨y,w1,w2,w3⟩:=SC.cap i j ec;have e1:N'[i]?=some x:=e1;rw[w1]at e1;cases e1;have Ln:=SC.free (x,.free) (PySem.mem_of_lookup w3) rfl;obtain⟨m,hm,hl⟩:=I.loc;obtain⟨u,r,l⟩:=hl j x v w2 e3 (.inr Ln);refine⟨u,r,?_⟩;rcases l with⟨k1,_⟩|⟨_,c,Vl,yZ⟩
    ·have Ln:X.env.kindOf x=some .cell\/X.env.kindOf x=some .free:=Ln
     rw[k1]at Ln;rcases Ln with z|z<;>cases z
    ·right
     refine⟨jS w3,c,?_,?_⟩
     ·obtain⟨c',e'⟩:=Option.isSome_iff_exists.mp (jr (env:=X.env) scope.names [] x (PySem.mem_of_lookup w3))
      rcases cm scope.names [] x c' (SC.cells I.ok) e' with q|q
      ·rw[Vl]at q;cases q
       exact e'
      ·cases q
     ·obtain⟨o,ho,hd⟩:=yZ
      exact⟨o,hk _ _ ho,hd⟩
 cell:=λx c h=>by
  rcases cm scope.names [] x c (SC.cells I.ok) h with q|q
  ·obtain⟨v,o,ho,hd⟩:=I.cell x c q
   exact⟨v,o,hk _ _ ho,hd⟩
  ·cases q
 free:=I.bG.fresh (ab3 _)
 gJ:=λx c h=>by
  rcases cm scope.names [] x c (SC.cells I.ok) h with q|q
  ·exact I.gJ x c q
  ·cases q
 pin:=λp hp=>absurd (show p∈([]:List (Addr×Obj))from hp) (by simp)
 bG:=I.bG.kept hk
 len:=by
  show(caps.map _).length=N'.length;rw[abZ];exact SC.len
theorem uC(I:L2.Inv X pins σ H s)(SC:gB X scope N' caps)(hc:X.calm=true){it:Addr}{fp:List Addr}{tn:Nat->Heap->Prop}{J:It}(T:Turn X.prog X.w X.K target J fp it tn)(t0:tn 0 s.heap)(hf:∀b∈fp,iC X pins H b)
  {g:TG} {tc:TT} {te:TE} (Ef:∀X',jo X X' scope N'->PG X' target g/\G6 X' ifs tc/\PE X' elt te) {Q:VK}
  (q:∀acc,H acc=none->∃W:Nat->Nat->St->Hp->Prop,(∃m,W 0 m (f9 caps σ) (upd H acc (.lst [])))/\∀i m av H,W i m av H ->
   (J.stop i H/\Q (.ref acc) H)\/(J.go i H/\∀x H',J.VJ i H x H'->g x av H' λaL H2=>tc aL H2 λb H3=>if b=true then te aL H3 λv H4=>∃ys m',H4 acc=some (.lst ys)/\ys.length<aca/\m'<m/\W (i+1) m' aL (upd H4 acc (.lst (ys++[v])))else∃m',m'<m/\W (i+1) m' aL H3))
  {E:Value->Shared->Prop} {RR:Value->Addr->Result->Shared->Prop}
  (hRR:∀acc C H' s',L2.Inv X pins σ H' s'->iC X pins H' C->(∃m,s'.heap.Ns C m)->Q (.ref acc) H'->RR (.ref acc) C (.ok .next) s'):
  wpAny (model X.prog X.w) X.A (newList []) (λacc wo=>wpAny (model X.prog X.w) X.A (newFunctionEnv scope X.env.globals (iZ X.env scope.names []) [] X.env.qual none .none (some X.env)) (λWs JS =>
   codeAny (model X.prog X.w) X.A (.compStart (.ListComp elt [⟨target,iter,ifs,0⟩] scope pos) 0 (.ref it) acc {Ws with scope:=relabel scope X.env}) (RR acc Ws.locals) JS) E wo) E s:=by
 refine wpAny_newObj_type ?_;have gL:H s.heap.objs.size=none:=I.bG.fresh (ab3 _);have I3:L2.Inv X pins σ (upd H s.heap.objs.size (.lst [])) {s with heap:=s.heap.push {cls:=.type "list",dict:=none,data:=.seq ([]:List Value).toArray}}:=I.Qw (t':=s.toks) (its:=[]) (ys:=[]) .nil (Nat.zero_le _)
 obtain⟨W,⟨m0,w0⟩,step⟩:=q _ gL;generalize hs3:({s with heap:=s.heap.push {cls:=.type "list",dict:=none,data:=.seq ([]:List Value).toArray}}:Shared)=s3 at I3 ⊢
 generalize hH3:upd H s.heap.objs.size (.lst [])=H3 at I3 w0;generalize XJ:s.heap.objs.size=acc at *;have up3:∀b o,s.heap.get? b=some o->s3.heap.get? b=some o:=λb o e=>by rw[<- hs3];exact abX _ e
 have XF:∀b∈fp,b<s3.heap.objs.size:=λb hb=>by
  obtain⟨o,e,_⟩:=T.obj 0 _ t0 b hb;exact Heap.lt_size (up3 b o e)
 have hf3:∀b∈fp,iC X pins H3 b:=λb hb=>by
  obtain⟨f0,f⟩:=hf b hb;refine⟨?_,f⟩;obtain⟨o,e,_⟩:=T.obj 0 _ t0 b hb;have:b≠acc:=by rw[<- XJ];exact Nat.ne_of_lt (Heap.lt_size e)
  rw[<- hH3,aq this];exact f0
 have t3:tn 0 s3.heap:=T.keep 0 _ _ t0 λb _ o e=>up3 b o e;refine wpAny_newFunctionEnv SC.oi (by intro y hy;simp at hy) (λh1 Vt sb1=>?_) SC.kind
 have rW:∀b o,s3.heap.get? b=some o->h1.get? b=some o:=λb o e=>sb1.extBut b o (Nat.ne_of_lt (Heap.lt_size e)) (abX _ e);have cx:jo X (G7 X scope N' s3 H3 s3.heap.objs.size fp) scope N':=⟨rfl,rfl,rfl,rfl,rfl,rfl,rfl,rfl,rfl,rfl⟩;obtain⟨hg,ht,he⟩:=Ef _ cx;have Pj:h1.Ns s3.heap.objs.size (λ_=>none):=by simpa using Vt
 have fpB:∀ {H':Hp},(∀b∈fp,H' b=none)->∀b∈fp,iC (G7 X scope N' s3 H3 s3.heap.objs.size fp) [] H' b:=λ{H'} hn b hb=>by
  obtain⟨f0,f1,f2,f3,f4,f5⟩:=hf3 b hb;refine⟨hn b hb,Nat.ne_of_lt (XF b hb),?_,.inl hb,λx c h=>?_,λp hp=>absurd (show p∈([]:List (Addr×Obj))from hp) (by simp)⟩
  ·intro z
   rcases ab6.mp (I3.tW b z)with q|q
   ·exact f1 q
   ·exact f2 q
  ·rcases cm scope.names [] x c (SC.cells I.ok) h with q|q
   ·exact f4 x c q
   ·cases q
 have loop:∀s4:Shared,L2.Inv (G7 X scope N' s3 H3 s3.heap.objs.size fp) [] (f9 caps σ) H3 s4->tn 0 s4.heap->codeAny (model X.prog X.w) X.A (.compLoop (.ListComp elt [⟨target,iter,ifs,0⟩] scope pos) 0 (.ref it) (.ref acc) (compEnvC scope (iZ X.env scope.names []) s3.heap.objs.size X.env)) (RR (.ref acc) s3.heap.objs.size) s4:=by
  intro s4 I4 t4;refine rA (λn s'=>∃i av H',L2.Inv (G7 X scope N' s3 H3 s3.heap.objs.size fp) [] av H' s'/\tn i s'.heap/\(∀b∈fp,H' b=none)/\W i n av H') ?_ m0 ⟨0,_,H3,I4,t4,λb hb=>(hf3 b hb).1,w0⟩;rintro n s5 ⟨i,av,H5,I5,VE,G8,w5⟩;rcases step i n av H5 w5 with⟨stop,qn⟩|⟨go,body⟩
  ·refine cv (T.done (G7 X scope N' s3 H3 s3.heap.objs.size fp) rfl rfl rfl rfl i [] s5 av H5 _ I5 (fpB G8) VE stop) λr s6 ⟨hr,I6⟩=>?_
   subst hr;have u:=I6.base;refine hRR acc _ H5 s6 (I3.Wr (ch:=fp) I6.os u I6.bG I6.bare λb hb=>?_) (I3.DQ (ab3 _) I6.free) ?_ qn
   ·obtain⟨f0,f1,f2,f3,f4,f5⟩:=hf3 b hb
    exact⟨f3.imp id λz=>Heap.get?_none_of_le z,f1,f4,f5⟩
   ·obtain⟨m,hm,_⟩:=I6.loc
    exact⟨m,hm⟩
  ·refine cv (T.item (G7 X scope N' s3 H3 s3.heap.objs.size fp) rfl rfl rfl rfl i [] s5 av H5 _ I5 (fpB G8) VE go) λr s6 ⟨u,hr,h6⟩=>?_
   subst hr;refine cv h6 λ_ s7 ⟨x,H7,I7,r7,y7,st7,fr7⟩=>?_;have I7':=I7.pinned (fpB fr7) (T.obj _ _ st7);have back:∀ {Hn:St} {H8:Hp} {s8:Shared},L2.Inv (G7 X scope N' s3 H3 s3.heap.objs.size fp) ([]++lL fp s7.heap) Hn H8 s8->L2.Inv (G7 X scope N' s3 H3 s3.heap.objs.size fp) [] Hn H8 s8/\tn (i+1) s8.heap/\∀b∈fp,H8 b=none:=λ{Hn H8 s8} I8=>by
    refine⟨I8.gZ,T.keep _ _ _ st7 λb hb o e=>(I8.pin (b,o) (List.mem_append_right _ (List.mem_append_right _ (eh hb e)))).1,λb hb=>?_⟩;obtain⟨o,e,d⟩:=T.obj _ _ st7 b hb;exact(I8.pin (b,o) (List.mem_append_right _ (List.mem_append_right _ (eh hb e)))).2.1
   refine cv (hg _ s7 av H7 x u _ I7' r7 (body x H7 y7)) λ_ s8 ⟨Hn,H8,I8,q8⟩=>?_;refine cv (ht _ s8 Hn H8 _ I8 q8) λb s9 ⟨H9,I9,q9⟩=>?_;cases b with
   | false =>
    obtain⟨m',hm,w9⟩:=q9;obtain⟨J1,J2,J3⟩:=back I9;exact⟨m',hm,i+1,Hn,H9,J1,J2,J3,w9⟩
   | true =>
    refine cv (he _ s9 Hn H9 _ I9 q9) λy s10 ⟨v,H10,I10,r10,ys,m',e10,hz,hm,w10⟩=>?_;refine cv (qA _ s10 Hn H10 (.ref acc) [v] (.ref acc) [y] (λz H11=>z=.aQ/\W (i+1) m' Hn H11) I10 rfl (.cons r10 .nil) ⟨acc,ys,v,rfl,rfl,e10,hz,rfl,w10⟩) λ_ s11 ⟨_,H11,I11,_,_,w11⟩=>?_;obtain⟨J1,J2,J3⟩:=back I11;exact⟨m',hm,i+1,Hn,H11,J1,J2,J3,w11⟩
 have I4:=HF (caps:=caps) (N':=N') I3 SC hc hf3 XF (t1:=s3.toks+([]:List (Str×Value)).length) Pj rW;have t4:tn 0 h1:=T.keep 0 _ _ t3 λb _ o e=>rW b o e;exact codeAny_compStart_list (loop _ I4 t4) (T.self X.A 0 _ _ _ t4 (loop _ I4 t4))
end
end Vc
namespace Vc
open PySem L2
variable [KF]
section
variable {X:Cx}{elt target iter:Expr}{ifs:List Expr}{scope:Scope}{pos:Pos}{N':List Str}{caps:List (Option Nat)}{wi:TI}{g:TG}{tc:TT}{te:TE}
theorem yX{pins:List (Addr×Obj)}{σ:St}{H:Hp}{s:Shared}{C:Addr}{h':Heap}(f:iC X pins H C)(I:L2.Inv X pins σ H s)(hs:Heap.SameBut C s.heap h'):L2.Inv X pins σ H {s with heap:=h'}:=by
 obtain⟨f0,f1,f2,f3,f4,f5⟩:=f;exact I.turned (t':=s.toks) (λb o hb e=>hs.extBut b o hb e) f0 f1 f3 f4 f5
theorem nq(hc:X.calm=true)(hi:PI X target iter wi)(SC:gB X scope N' caps)(Ef:∀X',jo X X' scope N'->PG X' target g/\G6 X' ifs tc/\PE X' elt te)(hs:∀x,foldedSetIterable iter X.env x=pure x):
  PE X (.ListComp elt [⟨target,iter,ifs,0⟩] scope pos) (lY wi caps g tc te):=by
 intro pins s σ H Q I h;rw[eval_ListComp];refine wpAny_comprehension_free (use:=none) rfl hs (nF (SC.cells I.ok)) SC.kind SC.names (cv (hi pins s σ H _ I h) λv s1 h1=>cv h1 λitv s2 h2=>?_);obtain⟨it,fp,tn,J,H2,rfl,I2,T,t0,f2,q2⟩:=h2;exact uC I2 SC hc T t0 f2 Ef q2 (RR:=λacc C=>compPost (model X.prog X.w) X.A X.xe none (EP X pins σ Q) acc C) λacc C H' s' I' f' ⟨m,hm⟩ q'=>⟨m,hm,λh' k7=>⟨.ref acc,H',yX f' I' k7,rfl,q'⟩⟩
theorem zI{i:Nat}{y:Str}{py gy:Pos}(hc:X.calm=true)(hi:PI X target iter wi)(SC:gB X scope N' caps)(Ef:∀X',jo X X' scope N'->PG X' target g/\G6 X' ifs tc/\PE X' elt te)(hs:∀x,foldedSetIterable iter X.env x=pure x)
  (hN:X.N.Nodup) (hy:X.N[i]?=some y) (hx:X.env.scope.names.lookup y=some .local) (hsw:swapsWith (.ListComp elt [⟨target,iter,ifs,0⟩] scope pos) (some (.Name y py)) gy.line X.env=pure true):
  PS X (.Assign [.Name y py] (.ListComp elt [⟨target,iter,ifs,0⟩] scope pos) gy) (FX (lY wi caps g tc te) (nN i)):=by
 intro pins s σ H D I h;rw[exec_Assign_Name_used _ _ _ _ hsw];refine abW (wpAny_standAt (abW ?_));show wpAny _ X.A (do let _ <- comprehension (.ListComp elt [⟨target,iter,ifs,0⟩] scope pos) scope X.env _ (newList []) false (eval iter X.env) (some (assign (.Name y py) X.env))) _ _ s
 refine abW (wpAny_mono (wpAny_comprehension_free (use:=some (assign (.Name y py) X.env)) (Q:=λ_ s'=>SP X pins D .next s') rfl hs (nF (SC.cells I.ok)) SC.kind SC.names (cv (hi pins s σ H _ I h) λv s1 h1=>cv h1 λitv s2 h2=>?_))
  (λ_ s' hq=>ab0 (ab0 hq)) λ_ _ e=>e)
 obtain⟨it,fp,tn,J,H2,rfl,I2,T,t0,f2,q2⟩:=h2;refine uC (Q:=λx H1=>nN i x σ H1 D.nx) I2 SC hc T t0 f2 Ef q2 (RR:=λacc C=>compPost (model X.prog X.w) X.A X.xe (some (assign (.Name y py) X.env)) (λ_ s'=>SP X pins D .next s') acc C) λacc C H' s' I' f' ⟨m,hm⟩ q'=>?_;show wpAny _ X.A (assign (.Name y py) X.env (.ref acc)) _ _ s';obtain⟨o,es,ep,ho,hd,r⟩:=id hm;have Ip:L2.Inv X (pins++lL [C] s'.heap) σ H' s':=I'.pinned (fp:=[C]) (λb hb=>(show b=C by simpa using hb) ▸ f') (λb hb=>by
  have e:b=C:=by simpa using hb
  subst e;exact⟨o,ho,λv z=>by rw[hd]at z;cases z⟩)
 refine wpAny_assign_Name (oW Ip hN hy (.inl hx) (show RelV (.ref acc) (.ref acc)from rfl) (λZU I''=>?_) (.inr hx))
 have hC:ZU.heap.get? C=some o:=(I''.pin (C,o) (List.mem_append_right _ (List.mem_append_right _ (eh (by simp) ho)))).1
 exact⟨m,⟨o,es,ep,hC,hd,r⟩,λh' k7=>⟨_,H',yX f' I''.gZ k7,q'⟩⟩
end
variable {G:GE}{k:Nat}{S:Stat}
def jR(names sc:List (Str×NameKind)):List (Str×NameKind):=names.map λ(n,k)=>if(k==.free&&sc.lookup n==some .cell)then(n,.cell)else(n,k)
def aM(S:Stat)(scope:Scope)(N':List Str):Stat:=⟨N',jR scope.names S.sc,[],true,false,false,λ_ _=>False⟩
structure iI(S:Stat)(scope:Scope)(N':List Str)(caps:List (Option Nat)):Prop where
 kind:scope.kind=.function
 nd:N'.Nodup
 oi:scope.names.all (λy=>y.2 != .cell)=true
 names:scope.names.all (λy=>y.2 != .local||scope.names.lookup y.1==some .local)=true
 free:scope.names.all (λy=>y.2 != .free||S.sc.lookup y.1==some .cell||S.sc.lookup y.1==some .free)=true
 len:caps.length=N'.length
 cap:(caps.zip N').all (λp=>match p.1 with|some j=>S.N[j]?==some p.2&&scope.names.lookup p.2==some .free|none=>true)=true
theorem iI.sc{scope:Scope}{N':List Str}{caps:List (Option Nat)}(b:iI S scope N' caps){X:Cx}{Y:bz}(ok:dJ X G k S Y):gB X scope N' caps where
 kind:=b.kind
 oi:=λy hy z=>by
  have:=ach.mp b.oi y hy;rw[z]at this;cases this
 names:=λy hy z=>by
  have:=ach.mp b.names y hy;rw[z]at this;simpa using this
 free:=λy hy z=>by
  have:=ach.mp b.free y hy;rw[z]at this;have kd:X.env.kindOf y.1=S.sc.lookup y.1:=by
   show X.env.scope.names.lookup y.1=_;rw[ok.sc]
  rw[kd];simpa using this
 len:=b.len
 cap:=λi j e=>by
  have hl:i<caps.length:=(ab2.mp e).1;have hl':i<N'.length:=by rw[<- b.len];exact hl
  have hz:(caps.zip N')[i]?=some (some j,N'[i]):=by
   rw[List.getElem?_zip_eq_some];exact⟨e,by rw[abY hl']⟩
  have:=ach.mp b.cap _ (List.mem_of_getElem? hz);simp only[Bool.and_eq_true,beq_iff_eq]at this;exact⟨N'[i],by rw[abY hl'],by rw[ok.N];exact this.1,this.2⟩
theorem d7{X X':Cx}{Y:bz}{scope:Scope}{N':List Str}{caps:List (Option Nat)}(hh:S.jl=false)(ok:dJ X G k S Y)(b:iI S scope N' caps)(c:jo X X' scope N')(Y':bz)(cU:Y'.io=[]):dJ X' G k (aM S scope N') Y' where
 P:=c.P.trans ok.P
 w:=c.w.trans ok.w
 K:=c.K.trans ok.K
 kf:=c.K.trans ok.kf
 mg:=c.mg.trans ok.mg
 obs:=λh=>nomatch h
 base:=c.base.trans ok.base
 N:=c.N
 sc:=by
  rw[c.sc];show scope.names.map _=jR scope.names S.sc;unfold jR;refine List.map_congr_left λy _=>?_;obtain⟨n,kk⟩:=y;have kd:X.env.kindOf n=S.sc.lookup n:=by
   show X.env.scope.names.lookup n=_;rw[ok.sc]
  simp only[ok.kind,kd,beq_self_eq_true,Bool.and_true]
 nd:=b.nd
 ios:=λp hp=>by rw[cU]at hp;cases hp
 calm:=λ_=>c.calm
 kind:=by rw[c.sc];exact b.kind
 fn:=λh=>by cases h
 hd:=λ_=>by rw[c.A];exact ok.hd hh
 dp:=by rw[c.A];exact ok.dp
 un:=by rw[c.A];exact ok.un
 po:=λ_=>by rw[c.xe];exact PassesOwn.never
 nx:=λh=>nomatch h
 exc:=λ_ _ h=>h.elim
 made:=λh=>nomatch h
def lF:Sd->Sd->Prop
 | [],[]=>True
 | none::r,_::s=>lF r s
 | some b::r,c::s=>c=some b/\lF r s
 | _,_=>False
theorem nh:∀ {a b:Sd} {i:Nat} {x:B},lF a b->a[i]?=some (some x)->b[i]?=some (some x)
 | [],[],_,_,_,e=>by simp at e
 | none::r,c::s,0,_,h,e=>by simp at e
 | none::r,c::s,i+1,x,h,e=>by
  have h:lF r s:=h;simpa using nh (i:=i) h (by simpa using e)
 | some b::r,c::s,0,x,h,e=>by
  obtain⟨h1,h2⟩:c=some b/\lF r s:=h;simp at e;subst e;simp [h1]
 | some b::r,c::s,i+1,x,h,e=>by
  obtain⟨h1,h2⟩:c=some b/\lF r s:=h;simpa using nh (i:=i) h2 (by simpa using e)
 | [],_::_,_,_,h,_=>h.elim
 | none::_,[],_,_,h,_=>h.elim
 | some _::_,[],_,_,h,_=>h.elim
theorem ni:∀ {a b:Sd},lF a b->a.length=b.length
 | [],[],_=>rfl
 | none::r,c::s,h=>by
  have h:lF r s:=h;simp [ni h]
 | some b::r,c::s,h=>by
  obtain⟨_,h2⟩:c=some b/\lF r s:=h;simp [ni h2]
 | [],_::_,h=>h.elim
 | none::_,[],h=>h.elim
 | some _::_,[],h=>h.elim
def vq(ios:List Nat):List (Option Nat)->Sd->(Sd->Prop)->Prop
 | [],σ,Q=>Q σ
 | none::r,σ,Q=>vq ios r σ Q
 | some j::r,σ,Q=>match σ[j]? with
  | some (some (.own xs))=>j∉ios/\vq ios r (σ.set j (some (.sh (.lst xs)))) Q
  | _=>vq ios r σ Q
def dI(caps:List (Option Nat))(σ:Sd):Sd:=caps.map λc=>match c with
 | some j=>match σ[j]? with
  | some (some (.sh d))=>some (.sh d)
  | _=>none
 | none=>none
def gI(g:mw)(tc:TB)(te:TD)(σ0:Sd):List D->List D->(List D->Prop)->Prop
 | [],acc,Q=>Q acc
 | x::xs,acc,Q=>g x σ0 λav=>tc av λb aL=>if b=true then te aL λd eY=>lF σ0 eY/\acc.length<aca/\gI g tc te σ0 xs (acc++[d]) Q else lF σ0 aL/\gI g tc te σ0 xs acc Q
def dS(ios:List Nat)(caps:List (Option Nat))(ti:eZ)(g:mw)(tc:TB)(te:TD):TX:=λσ Q=>ti σ λitems av=>vq ios caps av λaL=>gI g tc te (dI caps aL) items [] λds=>Q (.own ds) aL
theorem d8{ios:List Nat}{Y:bz}(cU:∀p∈Y.io,p.1∈ios):∀ {caps:List (Option Nat)} {F:Hp} {ah:Sd} {σ:St} {H:Hp} {Q:Sd->Prop},RS Y F ah σ H->vq ios caps ah Q->∃F' aA,ao F F'/\RS Y F' aA σ H/\Q aA
 | [],F,ah,σ,H,Q,R,q=>⟨F,ah,ao.refl _,R,q⟩
 | none::r,F,ah,σ,H,Q,R,q=>d8 cU (caps:=r) R q
 | some j::r,F,ah,σ,H,Q,R,q=>by
  unfold vq at q
  split at q
  ·rename_i xs e
   obtain⟨F2,v2,s2,R2,e2,r2⟩:=R.lq e λp hp z=>q.1 (z ▸ cU p hp);obtain⟨F3,eY,s3,R3,q3⟩:=d8 cU (caps:=r) R2 q.2;exact⟨F3,eY,s2.trans s3,R3,q3⟩
  ·exact d8 cU (caps:=r) R q
theorem cn(caps:List (Option Nat))(ah:Sd):∀(i:Nat) (o:O),(dI caps ah)[i]?≠some (some (.obj o)):=λi o e=>by
 unfold dI at e;rw[acb]at e;cases ec:caps[i]? with
 | none=>rw[ec]at e;cases e
 | some c =>
  rw[ec]at e;cases c with
  | none=>cases e
  | some j =>
   have e:(match ah[j]? with|some (some (.sh d))=>some (B.sh d)|_=>none)=some (.obj o):=Option.some.inj e
   split at e<;>cases e
theorem rq{Y:bz}{F:Hp}{ah:Sd}{σ:St}{H:Hp}(R:RS Y F ah σ H)(caps:List (Option Nat)){F' H':Hp}(s1:ao F F')(s2:ao F' H'):RS ⟨H',F',[],[]⟩ F' (dI caps ah) (f9 caps σ) H' where
 len:=by unfold dI f9;simp
 lo:=ao.refl _
 fr:=s2
 eS:=λb o e=>.inl e
 old:=λb o e _=>e
 sh:=λi d e=>by
  unfold dI at e;rw[acb]at e;unfold f9;rw[acb];cases ec:caps[i]? with
  | none=>rw[ec]at e;cases e
  | some c =>
   rw[ec]at e;cases c with
   | none=>cases e
   | some j =>
    have e:(match ah[j]? with|some (some (.sh d))=>some (B.sh d)|_=>none)=some (.sh d):=Option.some.inj e
    split at e
    ·rename_i d' q
     cases e;obtain⟨v,h1,h2⟩:=R.sh j d q;exact⟨v,by show some ((σ[j]?).join)=_;rw[h1];rfl,h2.mono s1⟩
    ·cases e
 own:=λi xs e=>by
  unfold dI at e;rw[acb]at e;cases ec:caps[i]? with
  | none=>rw[ec]at e;cases e
  | some c =>
   rw[ec]at e;cases c with
   | none=>cases e
   | some j =>
    have e:(match ah[j]? with|some (some (.sh d))=>some (B.sh d)|_=>none)=some (.own xs):=Option.some.inj e
    split at e<;>cases e
 dis:=λi j xs ys a e=>by
  exfalso;unfold dI at e;rw[acb]at e;cases ec:caps[i]? with
  | none=>rw[ec]at e;cases e
  | some c =>
   rw[ec]at e;cases c with
   | none=>cases e
   | some j =>
    have e:(match ah[j]? with|some (some (.sh d))=>some (B.sh d)|_=>none)=some (.own xs):=Option.some.inj e
    split at e<;>cases e
 io:=λp hp=>by cases hp
 ob:=.none (cn _ _) (R.ob.tab.mono s1) λb hb=>by cases hb
theorem RS.less{Y:bz}{F:Hp}{σ0 ah:Sd}{σ:St}{H:Hp}(R:RS Y F ah σ H)(l:lF σ0 ah)(vU:∀(i:Nat) (xs:List D),σ0[i]?≠some (some (.own xs)))(E1:∀(i:Nat) (o:O),σ0[i]?≠some (some (.obj o))){H':Hp}(s:ao F H'):RS ⟨H',F,[],[]⟩ F σ0 σ H' where
 len:=(ni l).trans R.len
 lo:=ao.refl _
 fr:=s
 eS:=λb o e=>.inl e
 old:=λb o e _=>e
 sh:=λi d e=>R.sh i d (nh l e)
 own:=λi xs e=>absurd e (vU i xs)
 dis:=λi j xs ys a e=>absurd e (vU i xs)
 io:=λp hp=>by cases hp
 ob:=.none E1 R.ob.tab λb hb=>by cases hb
theorem cq(caps:List (Option Nat))(ah:Sd):∀(i:Nat) (xs:List D),(dI caps ah)[i]?≠some (some (.own xs)):=λi xs e=>by
 unfold dI at e;rw[acb]at e;cases ec:caps[i]? with
 | none=>rw[ec]at e;cases e
 | some c =>
  rw[ec]at e;cases c with
  | none=>cases e
  | some j =>
   have e:(match ah[j]? with|some (some (.sh d))=>some (B.sh d)|_=>none)=some (.own xs):=Option.some.inj e
   split at e<;>cases e
theorem fj:∀a:Sd,lF a a
 | []=>trivial
 | none::r=>fj r
 | some b::r=>⟨rfl,fj r⟩
theorem RS.other{Y:bz}{F:Hp}{ah:Sd}{σ:St}{H:Hp}{a:Addr}{o:HO}(R:RS Y F ah σ H)(h1:F a=none)(h2:Y.H0 a=none)(h3:dc ah σ a):RS Y F ah σ (upd H a o) where
 len:=R.len
 lo:=R.lo
 fr:=λb u e=>by
  have:b≠a:=λz=>by rw[z,h1]at e;cases e
  rw[aq this];exact R.fr b u e
 eS:=R.eS
 old:=λb u e n=>by
  have:b≠a:=λz=>by rw[z,h2]at e;cases e
  rw[aq this];exact R.old b u e n
 sh:=R.sh
 own:=λi xs e=>by
  obtain⟨b,vs,w1,w2,w3⟩:=R.own i xs e;have:b≠a:=λz=>h3 i xs e (by rw[w1,z])
  exact⟨b,vs,w1,by rw[aq this];exact w2,w3⟩
 dis:=R.dis
 io:=R.io
 ob:=R.ob.step (ao.refl _) (λ_ _ e=>⟨e,rfl⟩) (λb hb=>by
  obtain⟨w1,w2,w3⟩:=R.ob.owned hb;have cy:b≠a:=λz=>h3.QC (z ▸ hb);exact⟨aq cy,w1,w3⟩) R.ob.gv λb hb=>by
  by_cases cy:b=a
  ·rw[cy,ay];exactλz=>nomatch z
  ·rw[aq cy];exact R.ob.there b hb
def lGe(g:mw):TG:=λv σ H Q=>∃Y:bz,Y.io=[]/\lG Y g v σ H Q
def lBe(t:TB):TT:=λσ H Q=>∃Y:bz,Y.io=[]/\lB Y t σ H Q
def lDe(t:TD):TE:=λσ H Q=>∃Y:bz,Y.io=[]/\lD Y t σ H Q
structure Hq(G:GE)(k:Nat)(S:Stat)(ifs:List Expr)(t:TB) :Prop where
 run:∀X Y,dJ X G k S Y->G6 X ifs (lB Y t)
instance {G:GE} {k:Nat} {S:Stat} {ifs:List Expr} {t:TB} :CoeFun (Hq G k S ifs t) λ_=>∀X Y,dJ X G k S Y->G6 X ifs (lB Y t):=⟨Hq.run⟩
def eC:TB:=λσ Q=>Q true σ
theorem mx:Hq G k S [] eC:=.mk λX Y ok pins s σ H Q I q=>JA pins s σ H Q I (by
 obtain⟨F,ah,Qd,R,q,K⟩:=q;exact K true H F ah (ao.refl _) R q)
theorem pK{c:Expr}{t:TB}(h:EB G k S c t):Hq G k S [c] t:=.mk λX Y ok=>JB (h X Y ok)
section
variable {elt target iter:Expr}{ifs:List Expr}{scope:Scope}{pos:Pos}{N':List Str}{caps:List (Option Nat)}{ti:eZ}{g:mw}{tc:TB}{te:TD}
theorem rB{X:Cx}{Y:bz}(hh:S.jl=false)(ok:dJ X G k S Y)(b:iI S scope N' caps)(hg:EG G k (aM S scope N') target g)(ht:Hq G k (aM S scope N') ifs tc)(he:ED G k (aM S scope N') elt te):
  ∀X',jo X X' scope N'->PG X' target (lGe g)/\G6 X' ifs (lBe tc)/\PE X' elt (lDe te):=λX' c =>
 ⟨λpins s σ H v u Q I r ⟨Y',cU,q⟩=>hg X' Y' (d7 hh ok b c Y' cU) pins s σ H v u Q I r q,λpins s σ H Q I ⟨Y',cU,q⟩=>ht X' Y' (d7 hh ok b c Y' cU) pins s σ H Q I q,λpins s σ H Q I ⟨Y',cU,q⟩=>he X' Y' (d7 hh ok b c Y' cU) pins s σ H Q I q⟩
theorem nH{Y:bz}{ios:List Nat}(cU:∀p∈Y.io,p.1∈ios){σ:St}{H:Hp}{Q:VK}(q:lX Y (dS ios caps ti g tc te) σ H Q):lY (lI Y ti) caps (lGe g) (lBe tc) (lDe te) σ H Q:=by
 obtain⟨F,ah,Qd,R,q,K⟩:=q;refine⟨F,ah,_,R,q,λH1 F1 yD J items s1 R1 it q1 acc gL=>?_⟩;obtain⟨F2,cj,s2,R2,q2⟩:=d8 cU R1 q1;have it2:=it.mono s2;have a0:Y.H0 acc=none:=(R2.bW gL).1;have aF:F2 acc=none:=same_none R2.fr gL;have aN:dc cj σ acc:=R2.de gL;have sw:∀ {F5 H5:Hp} {o:HO},ao F5 H5->F5 acc=none->ao F5 (upd H5 acc o):=λ{F5 H5 o} s5 h b u e=>by
  have:b≠acc:=λz=>by rw[z,h]at e;cases e
  rw[aq this];exact s5 b u e
 refine⟨λi m av H'=>∃Fi ds ys,ao F2 Fi/\RS Y Fi cj σ H'/\H' acc=some (.lst ys)/\aC Fi ys ds/\Fi acc=none/\RS ⟨H',Fi,[],[]⟩ Fi (dI caps cj) av H'/\gI g tc te (dI caps cj) (items.drop i) ds (λds=>Qd (.own ds) cj)/\m=items.length-i/\i<=items.length,
  ⟨items.length,F2,[],[],ao.refl _,R2.other aF a0 aN,ay,.nil,aF,rq R2 caps (ao.refl _) (sw R2.fr aF),q2,rfl,Nat.zero_le _⟩,?_⟩
 rintro i m av Hi ⟨Fi,ds,ys,si,Ri,fh,ri,fi,V5,qi,rfl,hi⟩;have zh:=it2 Fi Hi si Ri.fr i
 by_cases hl:i<items.length
 ·right
  have hd:items.drop i=items[i]::items.drop (i+1):=by rw[List.drop_eq_getElem_cons hl]
  rw[hd]at qi;obtain⟨go,yl⟩:=zh.1 items[i] (by rw[abY hl])
  refine⟨go,λv H' y=>?_⟩;obtain⟨F3,gr,rep⟩:=yl v H' y;have sF:ao Fi F3:=gr.same Ri.fr;have R3:=gr.rs V5;have V4:RS ⟨H',F3,[],[]⟩ F3 (dI caps cj) av H':=R3.less (fj _) (cq _ _) (cn _ _) R3.fr;have sH:ao Hi H':=by
   rcases gr with⟨_,rfl⟩|⟨p,o,hp,_,rfl⟩
   ·exact ao.refl _
   ·exact aJ hp
  have HY:∀c o,F3 c=some o->Fi c=some o\/Nw Hi c o:=λc o e=>by
   rcases gr with⟨rfl,_⟩|⟨p,o',hp,rfl,_⟩
   ·exact .inl e
   ·by_cases hc:c=p
    ·subst hc;exact .inr (.inl hp)
    ·rw[aq hc]at e;exact .inl e
  -- behind the turn
  have back:∀ {F5 H5:Hp} {o6:Sd} {VL:St},ao F3 F5->RS ⟨H',F3,[],[]⟩ F5 o6 VL H5->RS Y F5 cj σ H5/\H5 acc=some (.lst ys)/\F5 acc=none/\ao Fi F5:=λ{F5 H5 o6 VL} s5 R5=>by
   have Bi:ao Hi H5:=sH.trans λb o e=>R5.old b o e (by simp [bz.zf])
   have G8:∀c o,F5 c=some o->Fi c=some o\/Nw Hi c o:=λc o e=>by
    rcases R5.eS c o e with z|z
    ·exact HY c o z
    ·exact .inr (z.imp sH.free id)
   refine⟨Ri.call (sF.trans s5) R5.fr Bi G8,Bi _ _ fh,?_,sF.trans s5⟩;cases e:F5 acc with
   | none=>rfl
   | some o =>
    rcases G8 acc o e with z|z
    ·rw[fi]at z;cases z
    ·rcases z with z|⟨ws,rfl⟩
     ·rw[fh]at z;cases z
     ·have y:=R5.fr acc _ e;rw[Bi _ _ fh]at y;cases y
  refine⟨⟨H',F3,[],[]⟩,rfl,F3,_,items[i],_,V4,rep,qi,λqR H4 F4 eD s4 R4 q4=>?_⟩;refine⟨⟨H',F3,[],[]⟩,rfl,F4,eD,_,R4,q4,λb H5 F5 o6 s5 R5 q5=>?_⟩;cases b with
  | false =>
   obtain⟨le,q5⟩:=q5;obtain⟨w1,w2,w3,w4⟩:=back (s4.trans s5) R5;exact⟨items.length-(i+1),by omega,F5,ds,ys,si.trans w4,w1,w2,ri.mono w4,w3,R5.less le (cq _ _) (cn _ _) R5.fr,q5,rfl,hl⟩
  | true =>
   refine⟨⟨H',F3,[],[]⟩,rfl,F5,o6,_,R5,q5,λv6 H6 F6 d aax s6 R6 r6 q6=>?_⟩;obtain⟨le,hz,q6⟩:=q6;obtain⟨w1,w2,w3,w4⟩:=back ((s4.trans s5).trans s6) R6;exact⟨ys,items.length-(i+1),w2,by rw[ri.length];exact hz,by omega,F6,ds++[d],ys++[v6],si.trans w4,w1.other w3 a0 aN,ay,(ri.mono w4).append (.cons r6 .nil),w3,R6.less le (cq _ _) (cn _ _) (sw R6.fr w3),q6,rfl,hl⟩
 ·left
  have e:i=items.length:=by omega
  subst e;rw[List.drop_length]at qi;exact⟨zh.2 rfl,K _ Hi Fi (.own ds) cj ((s1.trans s2).trans si) Ri ⟨acc,ys,rfl,fh,ri,fi,a0,aN⟩ qi⟩
theorem fO(hi:EI G k S target iter ti)(b:iI S scope N' caps)(hg:EG G k (aM S scope N') target g)(ht:Hq G k (aM S scope N') ifs tc)(he:ED G k (aM S scope N') elt te)(hs:∀env x,foldedSetIterable iter env x=pure x:=by intro _ _;rfl)(hh:S.jl=false:=by rfl):
  EX G k S (.ListComp elt [⟨target,iter,ifs,0⟩] scope pos) (dS S.ios caps ti g tc te):=.mk λX Y ok =>
 aO (nq (ok.calm hh) (hi X Y ok) (b.sc ok) (rB hh ok b hg ht he) (hs _)) λσ H Q q=>nH ok.ios q
theorem FQ(i:Nat){y:Str}{py gy:Pos}(hi:EI G k S target iter ti)(b:iI S scope N' caps)(hg:EG G k (aM S scope N') target g)(ht:Hq G k (aM S scope N') ifs tc)(he:ED G k (aM S scope N') elt te)
  (hy:S.N[i]?=some y:=by rfl) (hx:S.sc.lookup y=some .local\/(S.sc.lookup y=some .cell/\S.Ce=false):=by first|exact Or.inl rfl|exact Or.inr ⟨rfl,rfl⟩) (hn:i∉S.ios:=by first|decide|exact ack | (dsimp only;decide)) (hl:(py.line==pos.line)=true:=by rfl) (Lr:(scope.names.any λ(n,k)=>n==y&&(k==.local||k==.cell))=false:=by decide +kernel)
  (hs:∀env x,foldedSetIterable iter env x=pure x:=by intro _ _;rfl) (hh:S.jl=false:=by rfl):ES G k S (.Assign [.Name y py] (.ListComp elt [⟨target,iter,ifs,0⟩] scope pos) gy) (eG S.ios i (dS S.ios caps ti g tc te)):=.mk λX Y ok=>by
 have sw:swapsWith (.ListComp elt [⟨target,iter,ifs,0⟩] scope pos) (some (.Name y py)) gy.line X.env=pure (S.sc.lookup y==some .local):=by
  have e:swapsWith (.ListComp elt [⟨target,iter,ifs,0⟩] scope pos) (some (.Name y py)) gy.line X.env=pure (X.env.blockKind==.function&&X.env.kindOf y==some .local&&py.line==pos.line&&!(scope.names.any λ(n,k)=>n==y&&(k==.local||k==.cell))):=rfl
  have kb:X.env.blockKind=.function:=by unfold Env.blockKind;rw[ok.kind];rfl
  have kd:X.env.kindOf y=S.sc.lookup y:=by
   show X.env.scope.names.lookup y=_;rw[ok.sc]
  rw[e,kb,kd,hl,Lr];simp
 have fin:∀Dn σ H,lS Y (eG S.ios i (dS S.ios caps ti g tc te)) Dn σ H->FX (lY (lI Y ti) caps (lGe g) (lBe tc) (lDe te)) (nN i) Dn σ H:=λDn σ H q=>by
  obtain⟨F,ah,De,R,q,K⟩:=q;refine nH ok.ios ⟨F,ah,_,R,q,λv H1 F1 y av s1 R1 r1 q1=>?_⟩;obtain⟨F2,aL,s2,R2,q2⟩:=lV R1 r1 hn ok.ios q1;exact K.nx _ H1 F2 aL (s1.trans s2) R2 q2
 rcases hx with hx|hx
 ·refine cf (zI (i:=i) (ok.calm hh) (hi X Y ok) (b.sc ok) (rB hh ok b hg ht he) (hs _) (by rw[ok.N];exact ok.nd) (by rw[ok.N];exact hy) (by rw[ok.sc];exact hx) (by rw[sw,hx];rfl)) fin
 ·refine cf (L2.yc (i:=i) (by rw[ok.N];exact ok.nd) (by rw[ok.N];exact hy) (n5 ok (.inr hx)) (nq (ok.calm hh) (hi X Y ok) (b.sc ok) (rB hh ok b hg ht he) (hs _)) (by rw[sw,hx.1];rfl) (nL ok (.inr hx))) fin
end
end Vc
namespace Vc
open PySem L2
variable [KF]
section
variable {prog:Program}{w:World}{A:Around}{E:Value->Shared->Prop}{s:Shared}
theorem Dv{j t:Addr}{i:Nat}{xs:Array Value}{x:Value}{Q:Value->Shared->Prop}(hj:s.heap.IsTupleIter j t i)(ht:s.heap.IsTuple t xs)(hx:xs[i]?=some x)
  (q:∀g,g.IsTupleIter j t (i+1)->Heap.SameBut j s.heap g->Q x {s with heap:=g}):wpAny (model prog w) A (Builtin.SmallTypes.nextOf (.ref j)) Q E s:=by
 obtain⟨ob,h1,h2,h3⟩:=id hj;obtain⟨ot,h4,_,nt,h5⟩:=ht;unfold Builtin.SmallTypes.nextOf;refine abW (wpAny_callSpecial?_slot (name:=Str.ofString "__next__") hj.typeIs F.slot_tuple_iterator_next (wpAny_call_entry F.slot_tuple_iterator_next hj.typeIs F.entry_tuple_iterator_next ?_ (F.args_tuple_iterator_next_1 _)));show wpAny _ _ (field (.ref j) 0 >>= _) _ _ s;refine abW (wpAny_field h1 h3 (x:=.ref t) rfl ?_);show wpAny _ _ (if(Value.ref t==Value.none)=true then _ else _) _ _ s
 rw[if_neg (by intro z;exact absurd z Bool.false_ne_true)]
 show wpAny _ _ (field (.ref j) 1 >>= _) _ _ s;refine abW (wpAny_field h1 h3 (x:=.int i 0) rfl ?_);show wpAny _ _ (seqItems? (.ref t) >>= _) _ _ s;refine abW (wpAny_seqItems h4 h5 ?_);simp only[Int.toNat_natCast,hx];refine abW (wpAny_setField h1 h3 (by simp) (ab0 ⟨x,rfl,ab0 (q _ ?_ (Heap.SameBut.update ..))⟩))
 refine⟨_,Heap.get?_update_self _ h1 (Obj.isFreed_of_fields (Obj.data_mapFields h3 _)),(Obj.cls_mapFields ..).trans h2,?_⟩;rw[Obj.data_mapFields h3];simp [rawInt]
theorem rG{j t:Addr}{i:Nat}{xs:Array Value}{Q:Value->Shared->Prop}(hh:A.handled=none)(hj:s.heap.IsTupleIter j t i)(ht:s.heap.IsTuple t xs)(hx:xs[i]?=none)
  (q:∀g e,Heap.ExtBut j s.heap g->(∃o,g.get? e=some o/\o.cls=.type "StopIteration")->E (.ref e) {s with heap:=g}):wpAny (model prog w) A (Builtin.SmallTypes.nextOf (.ref j)) Q E s:=by
 obtain⟨ob,h1,h2,h3⟩:=id hj;obtain⟨ot,h4,_,nt,h5⟩:=ht;unfold Builtin.SmallTypes.nextOf;refine abW (wpAny_callSpecial?_slot (name:=Str.ofString "__next__") hj.typeIs F.slot_tuple_iterator_next (wpAny_call_entry F.slot_tuple_iterator_next hj.typeIs F.entry_tuple_iterator_next ?_ (F.args_tuple_iterator_next_1 _)));show wpAny _ _ (field (.ref j) 0 >>= _) _ _ s;refine abW (wpAny_field h1 h3 (x:=.ref t) rfl ?_);show wpAny _ _ (if(Value.ref t==Value.none)=true then _ else _) _ _ s
 rw[if_neg (by intro z;exact absurd z Bool.false_ne_true)]
 show wpAny _ _ (field (.ref j) 1 >>= _) _ _ s;refine abW (wpAny_field h1 h3 (x:=.int i 0) rfl ?_);show wpAny _ _ (seqItems? (.ref t) >>= _) _ _ s;refine abW (wpAny_seqItems h4 h5 ?_);simp only[Int.toNat_natCast,hx];refine abW (wpAny_rule (abW (wpAny_setField h1 h3 (by simp) ?_)))
 show wpAny _ _ (newExc (.type "StopIteration") [] >>= _) _ _ _;refine abW ?_;simp only[newExc,newTuple];refine abW (wpAny_newObj_type ?_ (by size_fits))
 refine abW (m:=firstArgMember _ _) (wpAny_of_eq (a:=Value.none) (by first|rfl | (simp only[firstArgMember];rfl)) ?_)
 refine wpAny_newObj_type ?_ (by size_fits)
 simp only[raiseNew];refine abW (wpAny_handled ?_)
 first|rw[show A.in1.handled=none from hh]|rw[hh]
 refine abW (ab0 (wpAny_throw ?_));exact q _ _ (((Heap.SameBut.update ..).extBut.push _).push _) ⟨_,Heap.get?_push_size _ rfl,rfl⟩
end
def pe(tp:Bool)(h:Heap)(j a:Addr)(i:Nat):Prop:=if tp=true then h.IsTupleIter j a i else h.IsListIter j a i
def yJ(tp:Bool)(h:Heap)(a:Addr)(xs:Array Value):Prop:=if tp=true then h.IsTuple a xs else h.IsList a xs
theorem pe.live{tp:Bool}{h:Heap}{j a:Addr}{i:Nat}(q:pe tp h j a i):∃o,h.get? j=some o/\∀v,o.data≠.cell v:=by
 cases tp with
 | true=>obtain⟨o,e,c,d⟩:=(show h.IsTupleIter j a i from q);exact⟨o,e,λv z=>by rw[d]at z;cases z⟩
 | false=>obtain⟨o,e,c,d⟩:=(show h.IsListIter j a i from q);exact⟨o,e,λv z=>by rw[d]at z;cases z⟩
theorem pe.at{tp:Bool}{h h':Heap}{j a:Addr}{i:Nat}(q:pe tp h j a i)(k:∀o,h.get? j=some o->h'.get? j=some o):pe tp h' j a i:=by
 cases tp with
 | true=>obtain⟨o,e,r⟩:=(show h.IsTupleIter j a i from q);exact(show h'.IsTupleIter j a i from⟨o,k o e,r⟩)
 | false=>obtain⟨o,e,r⟩:=(show h.IsListIter j a i from q);exact(show h'.IsListIter j a i from⟨o,k o e,r⟩)
theorem yJ.at{tp:Bool}{h h':Heap}{a:Addr}{xs:Array Value}(q:yJ tp h a xs)(k:∀o,h.get? a=some o->h'.get? a=some o):yJ tp h' a xs:=by
 cases tp with
 | true=>obtain⟨o,e,r⟩:=(show h.IsTuple a xs from q);exact(show h'.IsTuple a xs from⟨o,k o e,r⟩)
 | false=>obtain⟨o,e,r⟩:=(show h.IsList a xs from q);exact(show h'.IsList a xs from⟨o,k o e,r⟩)
section
variable {prog:Program}{w:World}{A:Around}{E:Value->Shared->Prop}{s:Shared}
theorem draw{tp:Bool}{j a:Addr}{i:Nat}{xs:Array Value}{x:Value}{Q:Value->Shared->Prop}(hj:pe tp s.heap j a i)(ha:yJ tp s.heap a xs)(hx:xs[i]?=some x)
  (q:∀g,pe tp g j a (i+1)->Heap.SameBut j s.heap g->Q x {s with heap:=g}):wpAny (model prog w) A (Builtin.SmallTypes.nextOf (.ref j)) Q E s:=by
 cases tp with
 | true=>exact Dv hj ha hx q
 | false=>exact wpAny_nextOf_list_item hj ha hx q
theorem uH{tp:Bool}{j a:Addr}{i:Nat}{xs:Array Value}{Q:Value->Shared->Prop}(hh:A.handled=none)(hj:pe tp s.heap j a i)(ha:yJ tp s.heap a xs)(hx:xs[i]?=none)
  (q:∀g e,Heap.ExtBut j s.heap g->(∃o,g.get? e=some o/\o.cls=.type "StopIteration")->E (.ref e) {s with heap:=g}):wpAny (model prog w) A (Builtin.SmallTypes.nextOf (.ref j)) Q E s:=by
 cases tp with
 | true=>exact rG hh hj ha hx q
 | false=>exact wpAny_nextOf_list_end hh hj ha hx q
structure ZAp(z U V i j:Addr):Prop where
 uz:U≠z
 vz:V≠z
 iz:i≠z
 jz:j≠z
 uv:U≠V
 ui:U≠i
 uj:U≠j
 vi:V≠i
 vj:V≠j
 ij:i≠j
theorem Kn{tp tq:Bool}{z U V i j l m:Addr}{n:Nat}{xs ys:Array Value}{x y a b:Value}{Q:Option Value->Shared->Prop}(D:ZAp z U V i j)(lz:l≠z/\l≠V/\l≠i/\l≠j)(mz:m≠z/\m≠V/\m≠i/\m≠j)
  (hz:IsZip s.heap z U V .none) (hU:IsPair s.heap U (.ref i) (.ref j)) (hV:IsPair s.heap V a b) (h1:pe tp s.heap i l n) (h2:pe tq s.heap j m n) (hl:yJ tp s.heap l xs) (hm:yJ tq s.heap m ys) (hx:xs[n]?=some x) (hy:ys[n]?=some y)
  (q:∀g,IsZip g z U V (rawInt s.heap.objs.size)->IsPair g V x y->pe tp g i l (n+1)->pe tq g j m (n+1)->IsPair g s.heap.objs.size x y->g.objs.size=s.heap.objs.size+1 ->
   (∀c o,c≠z->c≠V->c≠i->c≠j->s.heap.get? c=some o->g.get? c=some o)->Q (some (.ref s.heap.objs.size)) {s with heap:=g}):wpAny (model prog w) A (pyNext (.ref z)) Q E s:=by
 have hT:s.TypeIs (.ref z) "zip":=⟨_,hz,rfl⟩;unfold pyNext;refine abW (wpAny_attempt (wpAny_callSpecial?_slot (name:=Str.ofString "__next__") hT F.slot_zip_next (wpAny_call_entry F.slot_zip_next hT F.entry_zip_next ?_ (F.args_zip_next_1 _))));show wpAny _ _ (field (.ref z) 2 >>= _) _ _ _;refine abW (wpAny_field hz rfl (x:=.bool false) rfl ?_);show wpAny _ _ (field (.ref z) 3 >>= _) _ _ _;refine abW (wpAny_field hz rfl (x:=.ref U) rfl (abW (wpAny_seqItems hU rfl ?_)));show wpAny _ _ (Builtin.SmallTypes.ownedTupleIsFree (.ref z) >>= _) _ _ _;refine abW ?_;unfold Builtin.SmallTypes.ownedTupleIsFree;refine abW (wpAny_field hz rfl (x:=.none) rfl (ab0 ?_));simp only[if_true];refine abW (wpAny_rule (abW (wpAny_field hz rfl (x:=.ref V) rfl (abW (wpAny_setField_rec hz (by simp) λg1 z1 e1=>?_)))))
 replace z1:IsZip g1 z U V .ellipsis:=z1
 refine abW ?_;simp only[List.zipIdx_cons,List.zipIdx_nil,List.forIn_cons,List.forIn_nil];refine abW (abW (wpAny_onRaise ?_));show wpAny _ _ (Builtin.SmallTypes.nextOf (.ref i) >>= _) _ _ _;refine abW (draw (s:={s with heap:=g1}) (h1.at λo e=>e1.extBut _ _ D.iz e) (hl.at λo e=>e1.extBut _ _ lz.1 e) hx λg2 w2 e2=>ab0 ?_)
 have v2:IsPair g2 V a b:=e2.extBut _ _ D.vi (e1.extBut _ _ D.vz hV);refine abW (wpAny_seqItems v2 rfl (abW (wpAny_updateSeq_pair v2 λg3 v3 e3=>?_)))
 replace v3:IsPair g3 V x b:=v3
 refine abW (wpAny_letGo (ab0 (abW (abW (wpAny_onRaise ?_)))));show wpAny _ _ (Builtin.SmallTypes.nextOf (.ref j) >>= _) _ _ _;have to3:∀c o,c≠z->c≠i->c≠V->s.heap.get? c=some o->g3.get? c=some o:=λc o c1 c2 c3 e=>e3.extBut _ _ c3 (e2.extBut _ _ c2 (e1.extBut _ _ c1 e));refine abW (draw (s:={s with heap:=g3}) (h2.at λo e=>to3 j o D.jz D.ij.symm D.vj.symm e) (hm.at λo e=>to3 m o mz.1 mz.2.2.1 mz.2.1 e) hy λg4 w4 e4=>ab0 ?_)
 have v4:IsPair g4 V x b:=e4.extBut _ _ D.vj v3;refine abW (wpAny_seqItems v4 rfl (abW (wpAny_updateSeq_pair v4 λg5 v5 e5=>?_)))
 replace v5:IsPair g5 V x y:=v5
 refine abW (wpAny_letGo (ab0 (ab0 (abW (wpAny_seqItems v5 rfl (abW (wpAny_newTuple ?_)))))));have sz:g5.objs.size=s.heap.objs.size:=by rw[e5.1,e4.1,e3.1,e2.1,e1.1]
 have z5:IsZip g5 z U V .ellipsis:=e5.extBut _ _ D.vz.symm (e4.extBut _ _ D.jz.symm (e3.extBut _ _ D.vz.symm (e2.extBut _ _ D.iz.symm z1)));have k5:∀c o,c≠z->c≠V->c≠i->c≠j->s.heap.get? c=some o->g5.get? c=some o:=λc o c1 c2 c3 c4 e=>e5.extBut _ _ c2 (e4.extBut _ _ c4 (to3 c o c1 c3 c2 e));have i5:pe tp g5 i l (n+1):=w2.at λo e=>e5.extBut _ _ D.vi.symm (e4.extBut _ _ D.ij (e3.extBut _ _ D.vi.symm e));have j5:pe tq g5 j m (n+1):=w4.at λo e=>e5.extBut _ _ D.vj.symm e;have zlt:z<g5.objs.size:=Heap.lt_size z5;show wpAny _ _ (Builtin.SmallTypes.ownedTupleHandOut (.ref z) (.ref g5.objs.size) >>= _) _ _ _;refine abW ?_;unfold Builtin.SmallTypes.ownedTupleHandOut;have z6:IsZip (g5.push {cls:=.type "tuple",data:=.seq #[x,y]}) z U V .ellipsis:=abX _ z5;refine abW (wpAny_setField_rec z6 (by simp) λg7 z7 e7=>?_)
 replace z7:IsZip g7 z U V (rawInt g5.objs.size):=z7
 refine wpAny_setField_rec z7 (by simp) λg8 z8 e8=>?_
 replace z8:IsZip g8 z U V (rawInt g5.objs.size):=z8
 have up:∀c o,c≠z->g5.get? c=some o->g8.get? c=some o:=λc o c1 e=>e8.extBut _ _ c1 (e7.extBut _ _ c1 (abX _ e));have t8:IsPair g8 g5.objs.size x y:=e8.extBut _ _ (Nat.ne_of_gt zlt) (e7.extBut _ _ (Nat.ne_of_gt zlt) (Heap.get?_push_size _ rfl));have s8:g8.objs.size=g5.objs.size+1:=by rw[e8.1,e7.1,Heap.size_push]
 rw[sz]at z8 t8 s8;refine ab0 ⟨_,rfl,ab0 ?_⟩;show Q (some (.ref g5.objs.size)) _;rw[sz];exact q g8 z8 (up _ _ D.vz v5) (i5.at λo e=>up _ o D.iz e) (j5.at λo e=>up _ o D.jz e) t8 s8 λc o c1 c2 c3 c4 e=>up c o c1 (k5 c o c1 c2 c3 c4 e)
end
end Vc
namespace Vc
open PySem L2
variable [KF]
abbrev itN(tp:Bool):String:=if tp=true then "tuple_iterator" else "list_iterator"
abbrev zA(tp:Bool)(h:Heap)(l:Addr):Heap:=h.push {cls:=.type (itN tp),data:=.fields #[.ref l,.int 0 0]}
abbrev zB(tp tq:Bool)(h:Heap)(l m:Addr):Heap:=zA tq (zA tp h l) m
abbrev zC(tp tq:Bool)(h:Heap)(l m:Addr):Heap:=(zB tp tq h l m).push {cls:=.type "tuple",data:=.seq #[.ref h.objs.size,.ref (zA tp h l).objs.size]}
abbrev zD(tp tq:Bool)(h:Heap)(l m:Addr):Heap:=(zC tp tq h l m).push {cls:=.type "tuple",data:=.seq #[.none,.none]}
abbrev zE(tp tq:Bool)(h:Heap)(l m:Addr):Heap:=(zD tp tq h l m).push {cls:=.type "zip",data:=.fields #[.none,.bool false,.bool false,.ref (zB tp tq h l m).objs.size,.ref (zC tp tq h l m).objs.size]}
set_option maxHeartbeats 4000000 in
theorem GZ(tp tq:Bool)(l m:Addr)(xs ys:Array Value):
  Meets (Builtin.«zip.__new__» ⟨[.type "zip",.ref l,.ref m],[]⟩) (λ_ R s=>yJ tp s.heap l xs/\yJ tq s.heap m ys/\R (.ok (.ret (.ref (zD tp tq s.heap l m).objs.size))) {s with heap:=zE tp tq s.heap l m}):=
 .of_wp λprog w A R s h=>by
  obtain⟨hp,g,d,tk,os⟩:=s;obtain⟨hl,hm,h⟩:=h;have sub:=sub_zip;cases tp with
  | true =>
   have L1:Heap.IsTuple (Shared.heap ⟨hp,g,d,tk,os⟩) l xs:=hl;cases tq with
   | true =>
    have L2:Heap.IsTuple (Shared.heap ⟨hp.push {cls:=.type "tuple_iterator",data:=.fields #[.ref l,.int 0 0]},g,d,tk,os⟩) m ys:=by
     obtain⟨o,e,r⟩:=(show hp.IsTuple m ys from hm);exact⟨o,abX _ e,r⟩
    wp_walk using wpAny_pyIter_tuple L1,wpAny_pyIter_tuple L2
    exact⟨_,rfl,h⟩
   | false =>
    have L2:Heap.IsList (Shared.heap ⟨hp.push {cls:=.type "tuple_iterator",data:=.fields #[.ref l,.int 0 0]},g,d,tk,os⟩) m ys:=by
     obtain⟨o,e,r⟩:=(show hp.IsList m ys from hm);exact⟨o,abX _ e,r⟩
    wp_walk using wpAny_pyIter_tuple L1,wpAny_pyIter_list L2
    exact⟨_,rfl,h⟩
  | false =>
   have L1:Heap.IsList (Shared.heap ⟨hp,g,d,tk,os⟩) l xs:=hl;cases tq with
   | true =>
    have L2:Heap.IsTuple (Shared.heap ⟨hp.push {cls:=.type "list_iterator",data:=.fields #[.ref l,.int 0 0]},g,d,tk,os⟩) m ys:=by
     obtain⟨o,e,r⟩:=(show hp.IsTuple m ys from hm);exact⟨o,abX _ e,r⟩
    wp_walk using wpAny_pyIter_list L1,wpAny_pyIter_tuple L2
    exact⟨_,rfl,h⟩
   | false =>
    have L2:Heap.IsList (Shared.heap ⟨hp.push {cls:=.type "list_iterator",data:=.fields #[.ref l,.int 0 0]},g,d,tk,os⟩) m ys:=by
     obtain⟨o,e,r⟩:=(show hp.IsList m ys from hm);exact⟨o,abX _ e,r⟩
    wp_walk using wpAny_pyIter_list L1,wpAny_pyIter_list L2
    exact⟨_,rfl,h⟩
theorem z9{tp:Bool}{h:Heap}{j a:Addr}(e:h.get? j=some {cls:=.type (itN tp),data:=.fields #[.ref a,.int 0 0]}):pe tp h j a 0:=by
 cases tp with
 | true=>exact⟨_,e,rfl,rfl⟩
 | false=>exact⟨_,e,rfl,rfl⟩
section
variable {prog:Program}{w:World}{A:Around}{E:Value->Shared->Prop}{s:Shared}
theorem GY{tp tq:Bool}{l m:Addr}{xs ys:Array Value}{Q:Value->Shared->Prop}(hl:yJ tp s.heap l xs)(hm:yJ tq s.heap m ys)
  (q:∀g,IsZip g (s.heap.objs.size+4) (s.heap.objs.size+2) (s.heap.objs.size+3) .none->IsPair g (s.heap.objs.size+2) (.ref s.heap.objs.size) (.ref (s.heap.objs.size+1))->IsPair g (s.heap.objs.size+3) .none .none ->
   pe tp g s.heap.objs.size l 0->pe tq g (s.heap.objs.size+1) m 0->(∀c o,s.heap.get? c=some o->g.get? c=some o)->Q (.ref (s.heap.objs.size+4)) {s with heap:=g}):
  wpAny (model prog w) A (call (.type "zip") [.ref l,.ref m]) Q E s:=by
 refine callType_new F.called_zip ∅ (F.typeCall_zip_2 _ _) (F.newCall_zip_2 _ _) (λob=>F.args_object_init_3 ob _ _) F.entry_zip_new (GZ tp tq l m xs ys) ⟨hl,hm,?_⟩
 have n1:(zA tp s.heap l).objs.size=s.heap.objs.size+1:=Heap.size_push ..;have n2:(zB tp tq s.heap l m).objs.size=s.heap.objs.size+2:=by rw[Heap.size_push,n1]
 have n3:(zC tp tq s.heap l m).objs.size=s.heap.objs.size+3:=by rw[Heap.size_push,n2]
 have n4:(zD tp tq s.heap l m).objs.size=s.heap.objs.size+4:=by rw[Heap.size_push,n3]
 have p5:(zE tp tq s.heap l m).get? (zD tp tq s.heap l m).objs.size=some _:=Heap.get?_push_size _ rfl;have p4:(zE tp tq s.heap l m).get? (zC tp tq s.heap l m).objs.size=some _:=abX _ (Heap.get?_push_size _ rfl);have p3:(zE tp tq s.heap l m).get? (zB tp tq s.heap l m).objs.size=some _:=abX _ (abX _ (Heap.get?_push_size _ rfl));have p2:(zE tp tq s.heap l m).get? (zA tp s.heap l).objs.size=some _:=abX _ (abX _ (abX _ (Heap.get?_push_size _ rfl)));have p1:(zE tp tq s.heap l m).get? s.heap.objs.size=some _:=abX _ (abX _ (abX _ (abX _ (Heap.get?_push_size _ rfl))));show _/\_;rw[n2,n3,n4]at p5;rw[n1,n2]at p3;rw[n3]at p4;rw[n1]at p2;rw[n4];refine⟨⟨_,p5,rfl⟩,q _ p5 p3 p4 (z9 p1) (z9 p2) λc o x=>?_⟩;exact abX _ (abX _ (abX _ (abX _ (abX _ x))))
theorem G0{tp tq:Bool}{z U V i j l m:Addr}{n:Nat}{xs ys:Array Value}{a b:Value}{Q:Option Value->Shared->Prop}(hh:A.handled=none)(D:ZAp z U V i j)(lz:l≠z/\l≠V/\l≠i/\l≠j)(mz:m≠z/\m≠V/\m≠i/\m≠j)
  (hz:IsZip s.heap z U V .none) (hU:IsPair s.heap U (.ref i) (.ref j)) (hV:IsPair s.heap V a b) (h1:pe tp s.heap i l n) (h2:pe tq s.heap j m n) (hl:yJ tp s.heap l xs) (hm:yJ tq s.heap m ys) (rT:xs[n]?=none\/ys[n]?=none)
  (q:∀g,(∀c o,c≠z->c≠V->c≠i->c≠j->s.heap.get? c=some o->g.get? c=some o)->Q none {s with heap:=g}):wpAny (model prog w) A (pyNext (.ref z)) Q E s:=by
 have hT:s.TypeIs (.ref z) "zip":=⟨_,hz,rfl⟩;unfold pyNext;refine abW (wpAny_attempt (wpAny_callSpecial?_slot (name:=Str.ofString "__next__") hT F.slot_zip_next (wpAny_call_entry F.slot_zip_next hT F.entry_zip_next ?_ (F.args_zip_next_1 _))));show wpAny _ _ (field (.ref z) 2 >>= _) _ _ _;refine abW (wpAny_field hz rfl (x:=.bool false) rfl ?_);show wpAny _ _ (field (.ref z) 3 >>= _) _ _ _;refine abW (wpAny_field hz rfl (x:=.ref U) rfl (abW (wpAny_seqItems hU rfl ?_)));show wpAny _ _ (Builtin.SmallTypes.ownedTupleIsFree (.ref z) >>= _) _ _ _;refine abW ?_;unfold Builtin.SmallTypes.ownedTupleIsFree;refine abW (wpAny_field hz rfl (x:=.none) rfl (ab0 ?_));simp only[if_true];refine abW (wpAny_rule (abW (wpAny_field hz rfl (x:=.ref V) rfl (abW (wpAny_setField_rec hz (by simp) λg1 z1 e1=>?_)))))
 replace z1:IsZip g1 z U V .ellipsis:=z1
 refine abW ?_;simp only[List.zipIdx_cons,List.zipIdx_nil,List.forIn_cons,List.forIn_nil];refine abW (abW (wpAny_onRaise ?_));show wpAny _ _ (Builtin.SmallTypes.nextOf (.ref i) >>= _) _ _ _;cases hx:xs[n]? with
 | none =>
  refine abW (uH (s:={s with heap:=g1}) hh (h1.at λo e=>e1.extBut _ _ D.iz e) (hl.at λo e=>e1.extBut _ _ lz.1 e) hx λg2 e x2 he=>?_)
  obtain⟨oe,Pg,XU⟩:=he;have z2:IsZip g2 z U V .ellipsis:=x2 _ _ D.iz.symm z1;have ez:e≠z:=λx=>by subst x;rw[z2]at Pg;cases Pg;simp at XU
  refine wpAny_setField_rec z2 (by simp) λg3 _ e3=>?_
  refine abW (wpAny_isInstance (T:="StopIteration") (b:=true) ⟨oe,e3.extBut _ _ ez Pg,XU⟩ isSubtype_stop (ab0 (q _ λc o c1 _ c3 _ x=>?_)));exact e3.extBut _ _ c1 (x2 _ _ c3 (e1.extBut _ _ c1 x))
 | some x =>
  have hy:ys[n]?=none:=by
   rcases rT with h|h
   ·rw[hx]at h;cases h
   ·exact h
  refine abW (draw (s:={s with heap:=g1}) (h1.at λo e=>e1.extBut _ _ D.iz e) (hl.at λo e=>e1.extBut _ _ lz.1 e) hx λg2 w2 e2=>ab0 ?_)
  have v2:IsPair g2 V a b:=e2.extBut _ _ D.vi (e1.extBut _ _ D.vz hV);refine abW (wpAny_seqItems v2 rfl (abW (wpAny_updateSeq_pair v2 λg3 v3 e3=>?_)));refine abW (wpAny_letGo (ab0 (abW (abW (wpAny_onRaise ?_)))));show wpAny _ _ (Builtin.SmallTypes.nextOf (.ref j) >>= _) _ _ _;have to3:∀c o,c≠z->c≠i->c≠V->s.heap.get? c=some o->g3.get? c=some o:=λc o c1 c2 c3 e=>e3.extBut _ _ c3 (e2.extBut _ _ c2 (e1.extBut _ _ c1 e));refine abW (uH (s:={s with heap:=g3}) hh (h2.at λo e=>to3 j o D.jz D.ij.symm D.vj.symm e) (hm.at λo e=>to3 m o mz.1 mz.2.2.1 mz.2.1 e) hy λg4 e x4 he=>?_)
  obtain⟨oe,Pg,XU⟩:=he;have z4:IsZip g4 z U V .ellipsis:=x4 _ _ D.jz.symm (e3.extBut _ _ D.vz.symm (e2.extBut _ _ D.iz.symm z1));have ez:e≠z:=λx=>by subst x;rw[z4]at Pg;cases Pg;simp at XU
  refine wpAny_setField_rec z4 (by simp) λg5 _ e5=>?_
  refine abW (wpAny_isInstance (T:="StopIteration") (b:=true) ⟨oe,e5.extBut _ _ ez Pg,XU⟩ isSubtype_stop (ab0 (q _ λc o c1 c2 c3 c4 x=>?_)));exact e5.extBut _ _ c1 (x4 _ _ c4 (to3 c o c1 c3 c2 x))
end
end Vc
namespace Vc
open PySem L2
variable [KF]
section
variable {X:Cx}{pins:List (Addr×Obj)}{σ:St}{H:Hp}{s:Shared}
theorem J8(I:L2.Inv X pins σ H s){ch:List Addr}(hf:∀b∈ch,iC X pins H b){h':Heap}{t':Nat}(kp:∀b o,b∉ch->s.heap.get? b=some o->h'.get? b=some o){T:Addr}{o:HO}(hT:s.heap.objs.size<=T)(new:bR X.prog X.w (upd H T o) h' T o):
  L2.Inv X pins σ (upd H T o) {s with heap:=h',toks:=t'}:=by
 have LA:∀ {b u},s.heap.get? b=some u->b≠T:=λe=>Nat.ne_of_lt (Nat.lt_of_lt_of_le (Heap.lt_size e) hT);have VI:∀ {b u},H b=some u->b≠T:=λe=>Nat.ne_of_lt (Nat.lt_of_lt_of_le (I.bG.lt e) hT);have EL:∀ {b u},H b=some u->b∉ch:=λ{b u} e z=>by rw[(hf b z).1]at e;cases e
 refine I.step (g':=s.gens) (d':=s.drawn) (ch:=ch) (λb hb=>?_) (λb u _ _ hc e _=>kp b u hc e) (λb u _ _ hc e _=>⟨u.slots,kp b u hc e⟩) (λb u hc e n=>by rw[aq (LA e)];exact n) (λb u hc e=>⟨u,kp b u hc e⟩)
  (λb xs e=>by rw[aq (VI e)];exact e) (λb u w e=>by rw[aq (VI e)];exact e) (λb ps e=>⟨#[],by rw[aq (VI e),e];simp⟩) (λm hm=>?_) (λb u e=>?_) I.bare
 ·obtain⟨f0,f1,f2,f3,f4,f5⟩:=hf b hb
  exact⟨f3.imp id λz=>Heap.get?_none_of_le z,f1,f4,f5⟩
 ·obtain⟨ob,es,ep,ho,r⟩:=hm
  refine⟨ob,es,ep,kp _ ob (λz=>?_) ho,r⟩;exact(hf _ z).2.1 rfl
 ·by_cases hb:b=T
  ·subst hb;rw[ay]at e;cases e;exact new
  ·rw[aq hb]at e
   refine(I.bG b u e).yr (λc v hc q=>?_) (λc q=>by rw[aq (VI q)];exact q) (λc xs q=>by rw[aq (VI q)];exact q) λc o u q=>by rw[aq (VI q)];exact q
   rcases hc with z|z
   ·subst z;exact kp _ v (EL e) q
   ·exact kp _ v (EL z) q
theorem J7(I:L2.Inv X pins σ H s){ch:List Addr}(hf:∀b∈ch,iC X pins H b){h':Heap}{t':Nat}(kp:∀b o,b∉ch->s.heap.get? b=some o->h'.get? b=some o):L2.Inv X pins σ H {s with heap:=h',toks:=t'}:=by
 have EL:∀ {b u},H b=some u->b∉ch:=λ{b u} e z=>by rw[(hf b z).1]at e;cases e
 refine I.step (g':=s.gens) (d':=s.drawn) (ch:=ch) (λb hb=>?_) (λb u _ _ hc e _=>kp b u hc e) (λb u _ _ hc e _=>⟨u.slots,kp b u hc e⟩) (λb u hc e n=>n) (λb u hc e=>⟨u,kp b u hc e⟩)
  (λb xs e=>e) (λb u w e=>e) (λb ps e=>⟨#[],by rw[e];simp⟩) (λm hm=>?_) (λb u e=>?_) I.bare
 ·obtain⟨f0,f1,f2,f3,f4,f5⟩:=hf b hb
  exact⟨f3.imp id λz=>Heap.get?_none_of_le z,f1,f4,f5⟩
 ·obtain⟨ob,es,ep,ho,r⟩:=hm
  refine⟨ob,es,ep,kp _ ob (λz=>?_) ho,r⟩;exact(hf _ z).2.1 rfl
 ·refine(I.bG b u e).yr (λc v hc q=>?_) (λc q=>q) λc xs q=>q
  rcases hc with z|z
  ·subst z;exact kp _ v (EL e) q
  ·exact kp _ v (EL z) q
end
def Sq(tp:Bool)(K:ab4)(H:Hp)(a:Addr)(xs:List V):Prop:=if tp=true then k6 K H a xs else f7 K H a xs
theorem Sq.is{tp:Bool}{X:Cx}{pins:List (Addr×Obj)}{σ:St}{H:Hp}{s:Shared}{a:Addr}{xs:List V}(I:L2.Inv X pins σ H s)(h:Sq tp X.K H a xs):∃its:List Value,Vals xs its/\yJ tp s.heap a its.toArray/\a<s.heap.objs.size:=by
 cases tp with
 | true =>
  obtain⟨its,r,p,_⟩:=I.tuple (show k6 X.K H a xs from h)
  exact⟨its,r,p,by obtain⟨o,e,_⟩:=p;exact Heap.lt_size e⟩
 | false =>
  obtain⟨its,r,p,_⟩:=I.list (show f7 X.K H a xs from h)
  exact⟨its,r,p.isList,p.lt⟩
theorem Sq.inj{tp:Bool}{X:Cx}{pins:List (Addr×Obj)}{σ:St}{H:Hp}{s:Shared}{a:Addr}{xs ys:List V}(I:L2.Inv X pins σ H s)(h:Sq tp X.K H a xs)(h':Sq tp X.K H a ys):xs=ys:=by
 cases tp with
 | true=>exact I.qO h h'
 | false=>exact I.vJ h h'
def Itz(tp tq:Bool)(K:ab4)(l m:Addr):It:=
  ⟨λn H=>∃xs ys x y,Sq tp K H l xs/\Sq tq K H m ys/\xs[n]?=some x/\ys[n]?=some y,
   λn H v H'=>∃p x y,H p=none/\v=.ref p/\H'=upd H p (.tup [x,y])/\(∀xs,Sq tp K H l xs->xs[n]?=some x)/\∀ys,Sq tq K H m ys->ys[n]?=some y,
   λn H=>∃xs ys,Sq tp K H l xs/\Sq tq K H m ys/\(xs.length<=n\/ys.length<=n)⟩
theorem GN{P:Program}{w:World}{K:ab4}{elts:List Expr}{kk:Nat}{yz:Pos}(tp tq:Bool)(z U V i j l m:Addr)(D:ZAp z U V i j)(lz:l≠z/\l≠V/\l≠i/\l≠j)(mz:m≠z/\m≠V/\m≠i/\m≠j):
  Turn P w K (.Tuple elts kk yz) (Itz tp tq K l m) [z,U,V,i,j] z (λn h=>IsZip h z U V .none/\IsPair h U (.ref i) (.ref j)/\(∃a b,IsPair h V a b)/\pe tp h i l n/\pe tq h j m n) where
 mem:=by simp
 obj:=λn h st b hb=>by
  obtain⟨h1,h2,⟨a,c,h3⟩,h4,h5⟩:=st;simp only[ab6,ack,or_false]at hb;rcases hb with rfl|rfl|rfl|rfl|rfl
  ·exact⟨_,h1,λv q=>by cases q⟩
  ·exact⟨_,h2,λv q=>by cases q⟩
  ·exact⟨_,h3,λv q=>by cases q⟩
  ·exact h4.live
  ·exact h5.live
 keep:=λn h h' st kp=>by
  obtain⟨h1,h2,⟨a,c,h3⟩,h4,h5⟩:=st;exact⟨kp z (by simp) _ h1,kp U (by simp) _ h2,⟨a,c,kp V (by simp) _ h3⟩,h4.at λo e=>kp i (by simp) o e,h5.at λo e=>kp j (by simp) o e⟩
 item:=by
  intro X hP hw hK hc n pins s σ H E I hf st hg;subst hP hw hK;obtain⟨h1,h2,⟨a,c,h3⟩,h4,h5⟩:=st;obtain⟨xs,ys,x,y,q1,q2,e1,e2⟩:=hg;obtain⟨its,r1,p1,_⟩:=q1.is I;obtain⟨jts,r2,p2,_⟩:=q2.is I;obtain⟨u,hu,ru⟩:=r1.get e1;obtain⟨v,hv,rv⟩:=r2.get e2;refine Kn D lz mz h1 h2 h3 h4 h5 p1 p2 (x:=u) (y:=v) (by simpa using hu) (by simpa using hv) λg z1 v1 i1 j1 t1 s1 k1=>⟨_,rfl,?_⟩
  refine wpAny_letOwnedTupleGo_zip z1 λg' z2 HR=>?_;have kp:∀b o,b∉[z,V,i,j]->s.heap.get? b=some o->g'.get? b=some o:=λb o hb e=>by
   simp only[ab6,ack,or_false,not_or]at hb;exact HR.extBut _ _ hb.1 (k1 b o hb.1 hb.2.1 hb.2.2.1 hb.2.2.2 e)
  have zT:s.heap.objs.size≠z:=Nat.ne_of_gt (Heap.lt_size h1);have hf':∀b∈[z,V,i,j],iC X pins H b:=λb hb=>hf b (by
   simp only[ab6,ack,or_false]at hb ⊢;rcases hb with e|e|e|e<;>simp [e])
  have t2:IsPair g' s.heap.objs.size u v:=HR.extBut _ _ zT t1;have I':=J8 (t':=s.toks) (o:=.tup [x,y]) I hf' kp (ab3 _) ⟨by show 2<=aca;decide,[u,v],.cons ru (.cons rv .nil),⟨_,t2,rfl,_,rfl⟩⟩
  have hfr:H s.heap.objs.size=none:=I.bG.fresh (ab3 _);refine⟨.ref s.heap.objs.size,upd H s.heap.objs.size (.tup [x,y]),I',rfl,⟨_,x,y,hfr,rfl,rfl,λzs hz=>by rw[hz.inj I q1];exact e1,λzs hz=>by rw[hz.inj I q2];exact e2⟩,⟨z2,HR.extBut _ _ D.uz (k1 _ _ D.uz D.uv D.ui D.uj h2),⟨u,v,HR.extBut _ _ D.vz v1⟩,i1.at λo e=>HR.extBut _ _ D.iz e,j1.at λo e=>HR.extBut _ _ D.jz e⟩,λb hb=>?_⟩
  have Li:=(hf b hb).1;have:b≠s.heap.objs.size:=by
   obtain⟨o,e,_⟩:∃o,s.heap.get? b=some o/\True:=by
    simp only[ab6,ack,or_false]at hb;rcases hb with rfl|rfl|rfl|rfl|rfl
    ·exact⟨_,h1,trivial⟩
    ·exact⟨_,h2,trivial⟩
    ·exact⟨_,h3,trivial⟩
    ·obtain⟨o,e,_⟩:=h4.live;exact⟨o,e,trivial⟩
    ·obtain⟨o,e,_⟩:=h5.live;exact⟨o,e,trivial⟩
   exact Nat.ne_of_lt (Heap.lt_size e)
  rw[aq this];exact Li
 done:=by
  intro X hP hw hK hc n pins s σ H E I hf st hg;subst hP hw hK;obtain⟨h1,h2,⟨a,c,h3⟩,h4,h5⟩:=st;obtain⟨xs,ys,q1,q2,hl⟩:=hg;obtain⟨its,r1,p1,_⟩:=q1.is I;obtain⟨jts,r2,p2,_⟩:=q2.is I;have n1:=r1.length;have n2:=r2.length;refine G0 (I.ok.hd hc) D lz mz h1 h2 h3 h4 h5 p1 p2 (hl.imp (λq=>by simp;omega) λq=>by simp;omega) λg k1=>⟨rfl,?_⟩
  refine J7 (t':=s.toks) (ch:=[z,V,i,j]) I (λb hb=>hf b ?_) λb o hb e=>?_
  ·simp only[ab6,ack,or_false]at hb ⊢
   rcases hb with e|e|e|e<;>simp [e]
  ·simp only[ab6,ack,or_false,not_or]at hb
   exact k1 b o hb.1 hb.2.1 hb.2.2.1 hb.2.2.2 e
 self:=λ_ _ _ _ _ st h=>wpAny_pyIter_zip st.1 h
theorem Km(n:Nat):ZAp (n+4) (n+2) (n+3) n (n+1):=
  ⟨show(n+2:Nat)≠n+4 by omega,show(n+3:Nat)≠n+4 by omega,show(n:Nat)≠n+4 by omega,show(n+1:Nat)≠n+4 by omega,show(n+2:Nat)≠n+3 by omega,
   show(n+2:Nat)≠n by omega,show(n+2:Nat)≠n+1 by omega,show(n+3:Nat)≠n by omega,show(n+3:Nat)≠n+1 by omega,show(n:Nat)≠n+1 by omega⟩
theorem pL{l n:Nat}(h:l<n):l≠n+4/\l≠n+3/\l≠n/\l≠n+1:=by omega
def abh(K:ab4)(ta:TA):TI:=λσ H R=>ta σ H λvs H1=>∃tp tq l m xs ys,vs=[.ref l,.ref m]/\Sq tp K H1 l xs/\Sq tq K H1 m ys/\R (Itz tp tq K l m) H1
theorem Sw{X:Cx}{elts:List Expr}{kk:Nat}{yz:Pos}{a b:Expr}{ta:TA}{p pos:Pos}(hg:Gl X "zip")(hm:X.mg "zip"=none)(ha:PA X [a,b] ta)(hs:ab7 [a,b] X.env=[(false,eval a X.env),(false,eval b X.env)])(Bu:ab7 [b] X.env=[(false,eval b X.env)]):
  PI X (.Tuple elts kk yz) (.Call (.Name "zip" p) [a,b] [] pos) (abh X.K ta):=by
 intro pins s σ H R I h;refine PyProof.Rows.Call_ (jd I hg hm PyProof.Rows.boot_zip (PyProof.Rows.callWith_type1 (cv (ha pos pins s σ H _ I h) λus s1 ⟨vs,H1,I1,r1,q1⟩=>?_) (by rw[hs,Bu]) (by rw[Bu];rfl)))
 obtain⟨tp,tq,l,m,xs,ys,e,q1,q2,q⟩:=q1;subst e;obtain⟨u,v,rfl,ru,rv⟩:=vals2 r1;cases ru;cases rv;obtain⟨its,_,p1,ll⟩:=q1.is I1;obtain⟨jts,_,p2,lm⟩:=q2.is I1;refine GY p1 p2 λg z1 u1 v1 i1 j1 k1=>?_;refine wpAny_pyIter_zip z1 ?_;have N:∀n:Nat,s1.heap.objs.size<=s1.heap.objs.size+n:=λn=>Nat.le_add_right _ _;refine⟨s1.heap.objs.size+4,[s1.heap.objs.size+4,s1.heap.objs.size+2,s1.heap.objs.size+3,s1.heap.objs.size,s1.heap.objs.size+1],_,_,H1,rfl,I1.kept (t':=s1.toks) k1,
  GN tp tq _ _ _ _ _ l m (Km _) (pL ll) (pL lm),⟨z1,u1,⟨_,_,v1⟩,i1,j1⟩,λb hb=>?_,q⟩
 have Li:s1.heap.objs.size<=b:=by
  simp only[ab6,ack,or_false]at hb;rcases hb with rfl|rfl|rfl|rfl|rfl
  ·exact N 4
  ·exact N 2
  ·exact N 3
  ·exact N 0
  ·exact N 1
 exact I1.DQ Li (I1.bG.fresh Li)
end Vc
namespace Vc
open PySem L2
variable [KF]
variable {G:GE}{k:Nat}{S:Stat}
def sq?:D->Option (List D)
 | .lst xs=>some xs
 | .tup xs=>some xs
 | _=>none
def wQ(xs ys:List D):List D:=(xs.zip ys).map λp=>.tup [p.1,p.2]
def J5(t:eZ):eZ:=λσ Q=>t σ λds av=>match ds with
 | [a,b]=>match sq? a,sq? b with
  | some xs,some ys=>Q (wQ xs ys) av
  | _,_=>False
 | _=>False
theorem Rep.sq{F:Hp}{v:V}{d:D}{xs:List D}(r:Rep F v d)(e:sq? d=some xs)(K:ab4):∃tp a vs,v=.ref a/\(∀H,ao F H->Sq tp K H a vs)/\aC F vs xs:=by
 cases d with
 | lst ys =>
  cases e;cases r with
  | lst h r=>exact⟨false,_,_,rfl,λH s=>(show f7 K H _ _ from .inl (Rd.mono s h)),r⟩
 | tup ys =>
  cases e;cases r with
  | tup h r=>exact⟨true,_,_,rfl,λH s=>(show k6 K H _ _ from .of (s _ _ h)),r⟩
 | _=>cases e
theorem GX{xs ys:List D}{i:Nat}{d:D}(h:(wQ xs ys)[i]?=some d):∃x y,xs[i]?=some x/\ys[i]?=some y/\d=.tup [x,y]:=by
 unfold wQ at h;rw[acb]at h;cases e:(xs.zip ys)[i]? with
 | none=>rw[e]at h;cases h
 | some p =>
  rw[e]at h;obtain⟨e1,e2⟩:=List.getElem?_zip_eq_some.mp e;exact⟨p.1,p.2,e1,e2,(Option.some.inj h).symm⟩
theorem Iy{K:ab4}{F:Hp}{tp tq:Bool}{l m:Addr}{vs us:List V}{xs ys:List D}(h1:∀H,ao F H->Sq tp K H l vs)(h2:∀H,ao F H->Sq tq K H m us)(r1:aC F vs xs)(r2:aC F us ys):mq F (Itz tp tq K l m) (wQ xs ys):=λF1 H1 s1 s2 i=>by
 have a1:=h1 H1 (s1.trans s2);have a2:=h2 H1 (s1.trans s2);refine⟨λd e=>?_,λhl=>⟨vs,us,a1,a2,?_⟩⟩
 ·obtain⟨x,y,e1,e2,rfl⟩:=GX e
  obtain⟨v,w1,q1⟩:=r1.get e1;obtain⟨u,w2,q2⟩:=r2.get e2;refine⟨⟨vs,us,v,u,a1,a2,w1,w2⟩,λz H2 yl=>?_⟩;obtain⟨p,v',u',hp,rfl,rfl,f1,f2⟩:=yl;have e1':=f1 vs a1;have HR:=f2 us a2;rw[w1]at e1';cases e1';rw[w2]at HR;cases HR;have sm:=aJ (o:=.tup [v,u]) (same_none s2 hp);exact⟨upd F1 p (.tup [v,u]),.inr ⟨p,_,hp,rfl,rfl⟩,.tup ay (.cons ((q1.mono s1).mono sm) (.cons ((q2.mono s1).mono sm) .nil))⟩
 ·have:(wQ xs ys).length=min xs.length ys.length:=by unfold wQ;simp
  have n1:=r1.length;have n2:=r2.length;omega
theorem Lv{elts:List Expr}{kk:Nat}{yz:Pos}{a b:Expr}{t:eZ}{p pos:Pos}(h:xa G k S [a,b] t)(hm:G.mg "zip"=none)(hg:S.sc.lookup ("zip":Str)=some .globalImplicit:=by rfl)(hs:∀env,ab7 [a,b] env=[(false,eval a env),(false,eval b env)]:=by intro _;rfl)(Bu:∀env,ab7 [b] env=[(false,eval b env)]:=by intro _;rfl):
  EI G k S (.Tuple elts kk yz) (.Call (.Name "zip" p) [a,b] [] pos) (J5 t):=.mk λX Y ok=>sr (Sw (dy ok hg) (by rw[ok.mg];exact hm) (h X Y ok) (hs _) (Bu _)) λσ H Q q=>by
 obtain⟨F,ah,Qd,R,q,K⟩:=q;refine⟨F,ah,_,R,q,λvs H1 F1 ds av s1 R1 r1 q1=>?_⟩
 split at q1
 ·rename_i x y
  split at q1
  ·rename_i xs ys ex ey
   cases r1 with
   | cons rx r1 =>
    cases r1 with
    | cons ry r1 =>
     cases r1;obtain⟨tp,l,us,rfl,a1,b1⟩:=rx.sq ex X.K;obtain⟨tq,m,ws,rfl,a2,b2⟩:=ry.sq ey X.K;exact⟨tp,tq,l,m,us,ws,rfl,a1 H1 R1.fr,a2 H1 R1.fr,K H1 F1 av _ _ s1 R1 (Iy a1 a2 b1 b2) q1⟩
  ·exact q1.elim
 ·exact q1.elim
end Vc
namespace Vc
open PySem L2
variable [KF]
section
variable {prog:Program}{w:World}{A:Around}{R:Result->Shared->Prop}
def cB(bt:Nat->Nat->Bool):Nat->Nat
 | 0=>0
 | n+1=>if bt (n+1) (cB bt n)=true then n+1 else cB bt n
def yG(prog:Program)(w:World)(A:Around)(op:CmpOp)(h0:Heap)(its:Array Value)(bt:Nat->Nat->Bool):Prop:=
 ∀(i j:Nat) (x y:Value) (s:Shared) (Q:Value->Shared->Prop) (E:Value->Shared->Prop),its[i]?=some x->its[j]?=some y->(∀b o,h0.get? b=some o->s.heap.get? b=some o)->Q (.bool (bt i j)) s->wpAny (model prog w) A (richCompare op x y) Q E s
theorem EH{h0:Heap}{its:Array Value}{bt:Nat->Nat->Bool}(hh:A.handled=none)(hc:yG prog w A.in1 .Lt h0 its bt){I l S:Addr}(hl0:h0.IsList l its)(IS:I≠S)(n0:h0.get? I=none)(n1:h0.get? S=none)(kw:List (Str×Value)):
  ∀(d j:Nat) (s:Shared) (v:Value) (c:Nat),its.size-(j+1)=d->j+1<=its.size->s.heap.IsListIter I l (j+1)->its[cB bt j]?=some v->s.heap.get? S=some {cls:=.type "list",dict:=none,data:=.seq #[v,v] c,slots:=#[]} ->
  (∀b o,h0.get? b=some o->s.heap.get? b=some o) ->
  (∀v g tk,its[cB bt (its.size-1)]?=some v->(∀b o,h0.get? b=some o->g.get? b=some o)->R (.ok (.ret v)) {s with heap:=g,toks:=tk}) ->
  codeAny (model prog w) A (.builtin "min.loop" ⟨[.ref I,.none,.ref S],kw⟩) R s:=by
 have nm:(toString "min"++toString ".loop":String)="min.loop":=by decide
 have lI:l≠I:=λz=>by obtain⟨o,e,_⟩:=hl0;rw[z,n0]at e;cases e
 have lS:l≠S:=λz=>by obtain⟨o,e,_⟩:=hl0;rw[z,n1]at e;cases e
 have nI:∀ {b o},h0.get? b=some o->b≠I:=λe z=>by rw[z,n0]at e;cases e
 have nS:∀ {b o},h0.get? b=some o->b≠S:=λe z=>by rw[z,n1]at e;cases e
 intro d
 induction d with
 | zero =>
  intro j s v c hd hj hI hv hS k0 hR;have e1:j+1=its.size:=by omega
  have hl:s.heap.IsList l its:=by obtain⟨o,e,r⟩:=hl0;exact⟨o,k0 _ _ e,r⟩
  refine codeAny_builtin F.entry_min_loop ?_;rw[Around.under_plainId F.plain_min_loop _];show wpAny _ A.in1 (seqItems? (.ref S) >>= _) _ _ s;refine abW (wpAny_seqItems hS rfl ?_);show wpAny _ A.in1 (tryCatch (pyNext (.ref I)) _ >>= _) _ _ s;refine abW (wpAny_tryCatch (wpAny_pyNext_list_end (show A.in1.handled=none from hh) hI hl (by simp;omega) λg x1=>?_))
  have S1:=x1 S _ IS.symm hS;show wpAny _ A.in1 (updateSeq S (λ_=>#[]) >>= _) _ _ _;refine abW (wpAny_updateSeq (s:={s with heap:=g}) S1 rfl (abW (wpAny_letGo (ab0 ?_))))
  have e2:its.size-1=j:=by omega
  refine hR v _ s.toks (by rw[e2];exact hv) λb o e=>?_
  exact(Heap.get?_update_other _ _ (Ne.symm (nS e))).trans (x1 b o (nI e) (k0 b o e))
 | succ d ih =>
  intro j s v c hd hj hI hv hS k0 hR;have iR:j+1<its.size:=by omega
  have hl:s.heap.IsList l its:=by obtain⟨o,e,r⟩:=hl0;exact⟨o,k0 _ _ e,r⟩
  refine codeAny_builtin F.entry_min_loop ?_;rw[Around.under_plainId F.plain_min_loop _];show wpAny _ A.in1 (seqItems? (.ref S) >>= _) _ _ s;refine abW (wpAny_seqItems hS rfl ?_);show wpAny _ A.in1 (tryCatch (pyNext (.ref I)) _ >>= _) _ _ s;have hx:its[j+1]?=some its[j+1]:=by simp [iR]
  refine abW (wpAny_tryCatch (wpAny_pyNext_list_item hI hl hx λg I1 x1=>?_));have S1:=x1.extBut S _ IS.symm hS;have k1:∀b o,h0.get? b=some o->g.get? b=some o:=λb o e=>x1.extBut b o (nI e) (k0 b o e);show wpAny _ A.in1 (tryCatch (holding [its[j+1],its[j+1]] (richCompare .Lt its[j+1] v >>= _)) _ >>= _) _ _ _;refine abW (wpAny_tryCatch (wpAny_holding (abW (hc (j+1) (cB bt j) _ v {s with heap:=g} _ _ hx hv k1 ?_))))
  refine abW (wpAny_holding (wpAny_truthy_bool (abW (wpAny_letGo (ab0 ?_)))));cases hb:bt (j+1) (cB bt j)with
  | true =>
   simp only[if_true];refine abW (wpAny_updateSeq (s:={s with heap:=g}) S1 rfl (abW (wpAny_letGo ?_)))
   rw[nm];refine ab0 ⟨plainId_quiet F.plain_min_loop _,ih (j+1) _ its[j+1] _ ⋯ iR ?_ (by simp only[cB,hb,if_true];exact hx) (Heap.get?_update_self _ S1 rfl) (λb o e=>(Heap.get?_update_other _ _ (Ne.symm (nS e))).trans (k1 b o e)) λv' g' tk Yb k'=>?_⟩
   ·obtain⟨o,e,r⟩:=I1;exact⟨o,(Heap.get?_update_other _ _ (Ne.symm IS)).trans e,r⟩
   ·exact hR v' g' tk Yb k'
  | false =>
   simp only[acd,if_false];refine abW (wpAny_letGo ?_);rw[nm];refine ab0 ⟨plainId_quiet F.plain_min_loop _,ih (j+1) _ v c ⋯ iR I1 (by simp only[cB,hb,acd,if_false];exact hv) S1 k1 λv' g' tk Yb k'=>?_⟩
   exact hR v' g' tk Yb k'
theorem xn(a v:Value):argsOk "min" ⟨[a],[(Str.ofString "default",v)]⟩:=by unfold argsOk;kernel_rfl
theorem vN{E:Value->Shared->Prop}{s:Shared}{its:Array Value}{bt:Nat->Nat->Bool}(hh:A.handled=none)(hc:yG prog w A.in1 .Lt s.heap its bt){l:Addr}(hl:s.heap.IsList l its){dv:Value}{Q:Value->Shared->Prop}
  (q0:its.size=0->∀g tk,(∀b o,s.heap.get? b=some o->g.get? b=some o)->Q dv {s with heap:=g,toks:=tk})
  (q1:∀v g tk,its[cB bt (its.size-1)]?=some v->(∀b o,s.heap.get? b=some o->g.get? b=some o)->Q v {s with heap:=g,toks:=tk}):
  wpAny (model prog w) A (call (.builtin "min") [.ref l] [(Str.ofString "default",dv)]) Q E s:=by
 have nm:(toString "min"++toString ".loop":String)="min.loop":=by decide
 refine wpAny_call (codeAny_call_builtin F.plain_min F.entry_min ?_);have run:wpAny (model prog w) A.in1 (Builtin.«min» ⟨[.ref l],[(Str.ofString "default",dv)]⟩) (λfin s'=>match fin with
   | .done f=>(match(Except.ok f:Result)with|.ok (.ret v)=>Q v s'|.ok _=>False|.error e=>E e s')
   | .again c'=>c'.quiet=true/\codeAny (model prog w) A c' (λr s'=>match r with|.ok (.ret v)=>Q v s'|.ok _=>False|.error e=>E e s') s') E s:=by
  show wpAny _ A.in1 (Builtin.Builtins.bindParams "min" ["key","default"] 0 ⟨[],[(Str.ofString "default",dv)]⟩ >>= _) _ _ s;refine abW (wpAny_of_eq (show Builtin.Builtins.bindParams "min" ["key","default"] 0 ⟨[],[(Str.ofString "default",dv)]⟩=pure [none,some dv]from rfl) (abW (ab0 ?_)))
  refine abW (wpAny_pyIter_list hl (abW (wpAny_newObj_type ?_)));generalize Ph:s.heap.push {cls:=.type "list_iterator",data:=.fields #[.ref l,.int 0 0]}=g1;have n1:g1.objs.size=s.heap.objs.size+1:=by rw[<- Ph];exact Heap.size_push ..
  have I0:(g1.push {cls:=.type "list",dict:=none,data:=.seq ([]:List Value).toArray}).IsListIter s.heap.objs.size l 0:=⟨_,abX _ (by rw[<- Ph];exact Heap.get?_push_size _ rfl),rfl,rfl⟩
  have S0:=Heap.get?_push_size g1 (o:={cls:=.type "list",dict:=none,data:=.seq ([]:List Value).toArray}) rfl;have k0:∀b o,s.heap.get? b=some o->(g1.push {cls:=.type "list",dict:=none,data:=.seq ([]:List Value).toArray}).get? b=some o:=λb o e=>abX _ (by rw[<- Ph];exact abX _ e)
  have fr:∀a,s.heap.objs.size<=a->s.heap.get? a=none:=λa ha=>by
   cases e:s.heap.get? a with
   | none=>rfl
   | some o=>exact absurd (Heap.lt_size e) (Nat.not_lt.mpr ha)
  have nI:s.heap.get? s.heap.objs.size=none:=fr _ (ab3 _);have nS:s.heap.get? g1.objs.size=none:=fr _ (by rw[n1];exact Nat.le_succ _)
  have IS:s.heap.objs.size≠g1.objs.size:=by rw[n1];exact Nat.ne_of_lt (Nat.lt_succ_self _)
  rw[nm];refine ab0 ⟨plainId_quiet F.plain_min_loop _,?_⟩;generalize XW:g1.push {cls:=.type "list",dict:=none,data:=.seq ([]:List Value).toArray}=g2 at I0 S0 k0;have pj:g2.IsList l its:=by obtain⟨o,e,r⟩:=hl;exact⟨o,k0 _ _ e,r⟩
  refine codeAny_builtin F.entry_min_loop ?_;rw[Around.under_plainId F.plain_min_loop _];show wpAny _ A.in1 (seqItems? (.ref g1.objs.size) >>= _) _ _ _;refine abW (wpAny_seqItems (s:={s with heap:=g2}) S0 rfl ?_)
  show wpAny _ A.in1 (tryCatch (pyNext (.ref s.heap.objs.size)) _ >>= _) _ _ _
  by_cases hz:its.size=0
  ·refine abW (wpAny_tryCatch (wpAny_pyNext_list_end (show A.in1.handled=none from hh) I0 pj (by simp [hz]) λg x1=>?_))
   refine abW (wpAny_rule (ab0 ?_));exact q0 hz g s.toks λb o e=>x1 b o (λz=>by rw[z,nI]at e;cases e) (k0 b o e)
  ·have hx:its[0]?=some its[0]:=by simp [Nat.pos_of_ne_zero hz]
   refine abW (wpAny_tryCatch (wpAny_pyNext_list_item I0 pj hx λg I1 x1=>?_));have S1:=x1.extBut _ _ IS.symm S0;have k1:∀b o,s.heap.get? b=some o->g.get? b=some o:=λb o e=>x1.extBut b o (λz=>by rw[z,nI]at e;cases e) (k0 b o e)
   show wpAny _ A.in1 (updateSeq g1.objs.size (λ_=>#[its[0],its[0]]) >>= _) _ _ _;refine abW (wpAny_updateSeq (s:={s with heap:=g}) S1 rfl ?_)
   rw[nm];refine ab0 ⟨plainId_quiet F.plain_min_loop _,EH hh hc hl IS nI nS _ _ 0 _ its[0] _ rfl (Nat.pos_of_ne_zero hz) ?_ hx (Heap.get?_update_self _ S1 rfl) (λb o e=>(Heap.get?_update_other _ _ (λz=>by rw[<- z,nS]at e;cases e)).trans (k1 b o e)) λv g' tk hv k'=>q1 v g' tk hv k'⟩
   obtain⟨o,e,r⟩:=I1;exact⟨o,(Heap.get?_update_other _ _ (Ne.symm IS)).trans e,r⟩
 simp only[checkBuiltinCall,F.kind_min];cases Pr:Manifest.signature? "min" with
 | none=>exact ab0 run
 | some sig =>
  have ha:argsOk "min" ⟨[.ref l],[(Str.ofString "default",dv)]⟩:=xn _ _;have ha':Bind.checkArgs "min" sig ⟨[.ref l],[(Str.ofString "default",dv)]⟩=pure ():=by simpa only[argsOk,Pr]using ha
  simp only[ha'];exact ab0 run
end
end Vc
namespace Vc
open PySem L2
variable [KF]
variable {G:GE}{k:Nat}{S:Stat}
def isInt:D->Bool
 | .int _=>true
 | _=>false
def ly:D->Int
 | .int i=>i
 | _=>0
theorem aC.ints{F:Hp}:∀ {vs:List V} {xs:List D},aC F vs xs->xs.all isInt=true->vs=(xs.map ly).map V.int
 | _,_,.nil,_=>rfl
 | _,_,.cons (d:=d) r t,h=>by
  rw[List.all_cons,Bool.and_eq_true]at h;cases d with
  | int i =>
   cases r;rw[aC.ints t h.2];rfl
  | _=>exact absurd h.1 (by simp [isInt])
theorem Ck{X:Cx}(hc:X.calm=true):cR X (.builtin "sum") (λxs H Q=>∃(a:Addr) (ns:List Int),xs=[.ref a]/\f7 X.K H a (ns.map V.int)/\Q (.int ns.sum) H):=by
 intro pins s σ H xs us Q I r h;obtain⟨a,ns,rfl,hq,q⟩:=h;obtain⟨u,rfl,ru⟩:=vals1 r;cases ru;obtain⟨its,rv,p,_⟩:=I.list hq;obtain⟨m,F⟩:=I.fr;have hi:=L2.intsAre_of rv;obtain⟨ys,e⟩:=(hi.allInts).items;have pl:=p.isList;rw[e]at pl;refine sum_intListG (I.ok.hd hc) pl λg tk t' kp=>⟨.int ns.sum,H,I.kept kp,⟨t',?_⟩,q⟩;have e1:preSum (numAt ys) ys.size=(PySem.numsOf its.toArray.toList).sum:=by
  rw[e,nums_intItems,preSum_eq,List.take_of_length_le (by simp)]
 rw[e1,show its.toArray.toList=its from rfl,hi.numsOf]
def sumF:List D->(EV->Prop)->Prop
 | [.lst xs],Q=>xs.all isInt=true/\Q (.val (.int (xs.map ly).sum))
 | _,_=>False
theorem Lc(hh:S.jl=false:=by rfl):yF G k S (.builtin "sum") sumF:=⟨λK xs H Q=>∃(a:Addr) (ns:List Int),xs=[V.ref a]/\f7 K H a (ns.map V.int)/\Q (.int ns.sum) H,λ_ _ ok=>Ck (ok.calm hh),λY F H ah σ vs ds Qd Q R r q g=>by
 unfold sumF at q
 split at q
 ·obtain⟨v,rfl,rv⟩:=r.one
  obtain⟨p,us,rfl,h1,h2⟩:=rv.lst;refine⟨p,_,rfl,?_,g.val R (.int _) q.2⟩;rw[<- h2.ints q.1];exact .inl h1
 ·exact q.elim⟩
def U2:D->Option String
 | .aQ=>some "NoneType"
 | .bl _=>some "bool"
 | .int _=>some "int"
 | .str _=>some "str"
 | .lst _=>some "list"
 | .tup _=>some "tuple"
 | _=>none
def eF(T U:String):Bool:=T==U||(T=="bool"&&U=="int")
def dW(U:String):Prop:=∀K:ab4,PySem.W.kitOne K (.type "NoneType") (.type U)=some (eF "NoneType" U)/\PySem.W.kitOne K (.type "bool") (.type U)=some (eF "bool" U)/\PySem.W.kitOne K (.type "int") (.type U)=some (eF "int" U) /\
 PySem.W.kitOne K (.type "str") (.type U)=some (eF "str" U)/\PySem.W.kitOne K (.type "list") (.type U)=some (eF "list" U)/\PySem.W.kitOne K (.type "tuple") (.type U)=some (eF "tuple" U)
theorem IH:dW "int":=λK=>⟨by rfl,by rfl,by rfl,by rfl,by rfl,by rfl⟩
theorem vF:dW "bool":=λK=>⟨by rfl,by rfl,by rfl,by rfl,by rfl,by rfl⟩
theorem vG:dW "list":=λK=>⟨by rfl,by rfl,by rfl,by rfl,by rfl,by rfl⟩
theorem kit_tuple:dW "tuple":=λK=>⟨by rfl,by rfl,by rfl,by rfl,by rfl,by rfl⟩
theorem dW.of{U:String}(h:dW U)(K:ab4){d:D}{T:String}(e:U2 d=some T):PySem.W.kitOne K (.type T) (.type U)=some (eF T U):=by
 obtain⟨h1,h2,h3,h4,h5,h6⟩:=h K;cases d<;>cases e<;>assumption
theorem bS.ty{F H:Hp}{v:V}{d:D}{T:String}(r:bS F H v d)(s:ao F H)(K:ab4)(e:U2 d=some T):jq K H v (.type T):=by
 cases d with
 | aQ=>cases e;obtain rfl:=r.aQ;exact .aQ
 | bl b=>cases e;obtain rfl:=r.bl;exact .bl b
 | int i=>cases e;obtain rfl:=r.int;exact .int i
 | str x=>cases e;obtain rfl:=r.str;exact .str x
 | lst xs =>
  cases e;obtain⟨a,vs,rfl,h,_⟩:=r.lst;rcases h with h|⟨o,h⟩
  ·exact .lst h
  ·exact .qj h
 | tup xs=>cases e;obtain⟨a,vs,rfl,h,_⟩:=r.tup s;exact .tup h
 | dct _=>cases e
 | exc _=>cases e
 | jj _=>cases e
 | dM _=>cases e
 | kp _ _ _ _=>cases e
theorem IG{X:Cx}{pins:List (Addr×Obj)}{σ:St}{H:Hp}{s:Shared}{x:V}{u:Value}{T:String}(I:L2.Inv X pins σ H s)(rx:RelV x u)(ty:jq X.K H x (.type T))(cy:T≠"dict"):
  ∃Hp':Heap->Prop,PySem.W.KitX X.K u (.type T) Hp'/\Hp' s.heap/\u≠.builtin "__main__.__loader__#opaque":=by
 cases ty with
 | aQ=>cases(show u=Value.none from rx);exact⟨_,PySem.W.kitx_none,True.intro,λz=>nomatch z⟩
 | bl y=>cases(show u=Value.bool y from rx);exact⟨_,PySem.W.kitx_bool,True.intro,λz=>nomatch z⟩
 | int i=>obtain⟨t,q⟩:=(show∃t,u=Value.int i t from rx);cases q;exact⟨_,PySem.W.kitx_int,True.intro,λz=>nomatch z⟩
 | str y=>obtain⟨t,q⟩:=(show∃t,u=Value.str y t from rx);cases q;exact⟨_,PySem.W.kitx_str,True.intro,λz=>nomatch z⟩
 | Ld y=>obtain⟨t,q⟩:=(show∃t,u=Value.float y t from rx);cases q;exact⟨_,PySem.W.kitx_float,True.intro,λz=>nomatch z⟩
 | @lst a xs ea =>
  cases(show u=Value.ref a from rx)
  obtain⟨_,_,n,_,h1⟩:=(show bR X.prog X.w H s.heap a (.lst xs)from I.bG a _ ea)
  exact⟨_,PySem.W.kitx_list,⟨_,h1,rfl⟩,λz=>nomatch z⟩
 | @qj a ob xs ea =>
  cases(show u=Value.ref a from rx)
  obtain⟨_,_,_,n,_,h1⟩:=(show bR X.prog X.w H s.heap a (.qj ob (.lst xs))from I.bG a _ ea)
  exact⟨_,PySem.W.kitx_list,⟨_,h1,rfl⟩,λz=>nomatch z⟩
 | @tup a xs ea =>
  cases(show u=Value.ref a from rx)
  obtain⟨_,_,_,p⟩:=(show bR X.prog X.w H s.heap a (.tup xs)from I.bG a _ ea)
  obtain⟨o,h1,h2,_⟩:=p;exact⟨_,PySem.W.kitx_tuple,⟨o,h1,h2⟩,λz=>nomatch z⟩
 | dK _=>exact absurd rfl cy
 | dT _=>exact absurd rfl cy
theorem U3{d:D}{T:String}(e:U2 d=some T):T≠"dict":=by cases d<;>cases e<;>decide
def Iu(Us:List String)(d:D)(Q:Bool->Prop):Prop:=match U2 d with
 | some T=>Q (Us.any (eF T))
 | none=>False
def pE(Us:List String)(t:TV):TB:=λσ Q=>t σ λx av=>match cS av x with
 | some d=>Iu Us d λb=>Q b av
 | none=>False
theorem oE{e:Expr}{t:TV}{u:Str}{U:String}{p p2 pos:Pos}(h:EO G k S e t)(kf:dW U)(hm:G.mg "isinstance"=none)(lx:G.mg u=none)(hv2:bootBuiltins u=some (.type U))(Ei:u≠"__name__":=by decide)(hd2:(u==("__debug__":Str))=false:=by decide)
  (hg:S.sc.lookup ("isinstance":Str)=some .globalImplicit:=by rfl) (XW:S.sc.lookup u=some .globalImplicit:=by rfl)
  (he:∀env,ab7 [e,.Name u p2] env=(false,eval e env)::ab7 [.Name u p2] env:=by intro _;rfl):EO G k S (.Call (.Name "isinstance" p) [e,.Name u p2] [] pos) (bV (pE [U] t)):=.mk λX Y ok=>by
 have ha:PA X [e,.Name u p2] (eB (lO Y t) (eB (tC (.ty U)) lZ)):=bX (h X Y ok) (bX (sj (dy ok XW) (by rw[ok.mg];exact lx) hv2 (show RelV (.ty U) (.type U)from rfl) Ei hd2) ei rfl) (he _)
 have hc:cR X (.builtin "isinstance") (λvs H Q=>∃F x d T,vs=[x,.ty U]/\ao F H/\bS F H x d/\U2 d=some T/\Q (.bl (eF T U)) H):=by
  intro pins s σ H xs us Q I r q;obtain⟨F,x,d,T,rfl,sm,rx,et,q⟩:=q;obtain⟨a,b,rfl,ra,rb⟩:=vals2 r;cases rb;exact AJ I ra (rx.ty sm X.K et) (kf.of X.K et) λtk=>⟨.bl _,H,I.tok tk,rfl,q⟩
 refine aO (oB hc (dy ok hg) (by rw[ok.mg];exact hm) (by decide +kernel) ha ∅ ∅ (he _) rfl) λσ H Q q=>?_
 obtain⟨F,ah,Qd,R,q,K⟩:=q;refine⟨F,ah,_,R,q,λv1 H1 F1 x av s1 R1 r1 q1=>?_⟩
 split at q1
 ·rename_i d ed
  unfold Iu at q1
  split at q1
  ·rename_i T eT
   refine⟨F1,v1,d,T,rfl,R1.fr,R1.cS r1 ed,eT,?_⟩;have e1:([U].any (eF T))=eF T U:=by simp
   rw[e1]at q1;exact K _ H1 F1 (.val (.bl (eF T U))) av s1 R1 (.bl _) q1
  ·exact q1.elim
 ·exact q1.elim
theorem FH{e:Expr}{t:TV}{u w:Str}{U W:String}{p p2 p3 p4 pos:Pos}{kk:Nat}(h:EO G k S e t)(kf:dW U)(kg:dW W)(hm:G.mg "isinstance"=none)(lx:G.mg u=none)(hm3:G.mg w=none)(hv2:bootBuiltins u=some (.type U))(hv3:bootBuiltins w=some (.type W))(Ei:u≠"__name__":=by decide)(hd2:(u==("__debug__":Str))=false:=by decide)(hn3:w≠"__name__":=by decide)(hd3:(w==("__debug__":Str))=false:=by decide)
  (hg:S.sc.lookup ("isinstance":Str)=some .globalImplicit:=by rfl) (XW:S.sc.lookup u=some .globalImplicit:=by rfl) (hg3:S.sc.lookup w=some .globalImplicit:=by rfl)
  (he:∀env,ab7 [e,.Tuple [.Name u p2,.Name w p3] kk p4] env=(false,eval e env)::ab7 [.Tuple [.Name u p2,.Name w p3] kk p4] env:=by intro _;rfl):EO G k S (.Call (.Name "isinstance" p) [e,.Tuple [.Name u p2,.Name w p3] kk p4] [] pos) (bV (pE [U,W] t)):=.mk λX Y ok=>by
 have hT:PE X (.Tuple [.Name u p2,.Name w p3] kk p4) (UL (eB (tC (.ty U)) (eB (tC (.ty W)) lZ))):=Ff (bX (sj (dy ok XW) (by rw[ok.mg];exact lx) hv2 (show RelV (.ty U) (.type U)from rfl) Ei hd2) (bX (sj (dy ok hg3) (by rw[ok.mg];exact hm3) hv3 (show RelV (.ty W) (.type W)from rfl) hn3 hd3) ei rfl) rfl)
 have ha:PA X [e,.Tuple [.Name u p2,.Name w p3] kk p4] (eB (lO Y t) (eB (UL (eB (tC (.ty U)) (eB (tC (.ty W)) lZ))) lZ)):=bX (h X Y ok) (bX hT ei rfl) (he _);have hc:cR X (.builtin "isinstance") (λvs H Q=>∃F x d T c,vs=[x,.ref c]/\H c=some (.tup [.ty U,.ty W])/\ao F H/\bS F H x d/\U2 d=some T/\Q (.bl (eF T U||eF T W)) H):=by
  intro pins s σ H xs us Q I r q;obtain⟨F,x,d,T,c,rfl,hcc,sm,rx,et,q⟩:=q;obtain⟨a,b,rfl,ra,rb⟩:=vals2 r;cases rb;obtain⟨_,its,rv,o,ho,hcl,n,hd⟩:=I.bG c _ hcc;obtain⟨z1,z2,rfl,w1,w2⟩:=vals2 rv;cases w1;cases w2;obtain⟨oc,od,odt,Ji⟩:=o;simp only at hcl hd;subst hcl hd;obtain⟨Hp',kx,Em,nb⟩:=IG I ra (rx.ty sm X.K et) (U3 et);refine PySem.W.kia_tup (b:=eF T U||eF T W) kx I.mG Em ho ?_ nb λtk=>⟨.bl _,H,I.tok tk,rfl,q⟩
  unfold PySem.W.kitAny;rw[kf.of X.K et];cases eF T U with
  | true=>rfl
  | false =>
   show PySem.W.kitAny X.K (.type T) [.type W]=_;unfold PySem.W.kitAny;rw[kg.of X.K et];cases eF T W with
   | true=>rfl
   | false=>rfl
 refine aO (oB hc (dy ok hg) (by rw[ok.mg];exact hm) (by decide +kernel) ha ∅ ∅ (he _) rfl) λσ H Q q=>?_
 obtain⟨F,ah,Qd,R,q,K⟩:=q;refine⟨F,ah,_,R,q,λv1 H1 F1 x av s1 R1 r1 q1=>⟨by show 2<=aca;decide,λc hc=>?_⟩⟩
 split at q1
 ·rename_i d ed
  unfold Iu at q1
  split at q1
  ·rename_i T eT
   have R2:=R1.nD (o:=.tup [.ty U,.ty W]) hc;refine⟨F1,v1,d,T,c,rfl,ay,R2.fr,R2.cS r1 ed,eT,?_⟩;have e1:([U,W].any (eF T))=(eF T U||eF T W):=by simp
   rw[e1]at q1;exact K _ _ F1 (.val (.bl _)) av s1 R2 (.bl _) q1
  ·exact q1.elim
 ·exact q1.elim
end Vc
namespace Vc
open PySem L2
variable [KF]
variable {G:GE}{k:Nat}{S:Stat}
def gM:D->Bool
 | .tup xs=>xs.all isInt
 | _=>false
def ltI:D->D->Bool
 | .int i,.int j=>decide (i<j)
 | .tup xs,.tup ys=>HT.lexLt (xs.map ly) (ys.map ly)
 | _,_=>false
def du:List D->Option D
 | []=>none
 | x::xs=>some (xs.foldl (λb y=>if ltI y b=true then y else b) x)
def pR(xs:List D)(i j:Nat):Bool:=ltI (xs.getD i .aQ) (xs.getD j .aQ)
theorem nE(xs:List D)(x:D):∀n,n<(x::xs).length->(x::xs).getD (cB (pR (x::xs)) n) .aQ=(xs.take n).foldl (λb y=>if ltI y b=true then y else b) x
 | 0,_=>rfl
 | n+1,h=>by
  have ih:=nE xs x n (by simp at h ⊢;omega)
  have hl:n<xs.length:=by simpa using h
  have gx:(x::xs).getD (n+1) .aQ=xs[n]:=by
   rw[List.getD_eq_getElem?_getD,List.getElem?_cons_succ,abY hl];rfl
  rw[List.take_add_one,abY hl,Option.toList_some,List.foldl_append,List.foldl_cons,List.foldl_nil,<- ih];have e:pR (x::xs) (n+1) (cB (pR (x::xs)) n)=ltI xs[n] ((x::xs).getD (cB (pR (x::xs)) n) .aQ):=by
   unfold pR;rw[gx]
  show(x::xs).getD (if pR (x::xs) (n+1) (cB (pR (x::xs)) n)=true then n+1 else cB (pR (x::xs)) n) .aQ=_
  rw[e]
  split
  ·exact gx
  ·rfl
theorem m9{xs:List D}(h:xs≠[]):du xs=some (xs.getD (cB (pR xs) (xs.length-1)) .aQ):=by
 cases xs with
 | nil=>exact absurd rfl h
 | cons x xs =>
  have:=nE xs x xs.length (by simp)
  have e:(x::xs).length-1=xs.length:=by simp
  rw[e,this,List.take_length];rfl
theorem CU{X:Cx}{pins:List (Addr×Obj)}{σ:St}{H F:Hp}{s:Shared}(I:L2.Inv X pins σ H s)(sm:ao F H)(hu:X.A.in1.units<cLine){vs:List V}{xs:List D}{its:List Value}(rl:aC F vs xs)(rv:Vals vs its)(hc:xs.all isInt=true\/xs.all gM=true):
  yG X.prog X.w X.A.in1 .Lt s.heap its.toArray (pR xs):=by
 intro i j x y s' Q E ex ey kp q;have mD:its[i]?=some x:=by simpa using ex
 have ey':its[j]?=some y:=by simpa using ey
 have back:∀ {n z},its[n]?=some z->∃v d,vs[n]?=some v/\xs[n]?=some d/\RelV v z/\Rep F v d:=λ{n z} e=>by
  have hl:n<vs.length:=by rw[rv.length];exact(ab2.mp e).1
  have ev:vs[n]?=some vs[n]:=abY hl;obtain⟨d,e1,e2⟩:=rl.get' ev;obtain⟨u,e3,e4⟩:=rv.get ev;rw[e]at e3;cases e3;exact⟨_,d,ev,e1,e4,e2⟩
 obtain⟨v,d,_,hd,r1,p1⟩:=back mD;obtain⟨u,e,_,he,r2,p2⟩:=back ey';have bt:pR xs i j=ltI d e:=by
  unfold pR;rw[List.getD_eq_getElem?_getD,List.getD_eq_getElem?_getD,hd,he];rfl
 rw[bt]at q;have md:d∈xs:=List.mem_of_getElem? hd;have me:e∈xs:=List.mem_of_getElem? he;show wpAny _ _ (compareOp .Lt x y) _ _ _;rcases hc with hc|hc
 ·have h1:=ach.mp hc d md
  have h2:=ach.mp hc e me;cases d with
  | int a =>
   cases e with
   | int b =>
    cases p1;cases p2;obtain⟨t,rfl⟩:=r1;obtain⟨t',rfl⟩:=r2;exact PyProof.Rows.lt_int q
   | _=>exact absurd h2 (by simp [isInt])
  | _=>exact absurd h1 (by simp [isInt])
 ·have h1:=ach.mp hc d md
  have h2:=ach.mp hc e me;cases d with
  | tup as =>
   cases e with
   | tup bs =>
    cases p1 with
    | tup hf rf =>
     cases p2 with
     | tup hg rg =>
      cases r1;cases r2;rename_i va vas vb vbs;obtain⟨_,ia,wa,oa,ga,ca⟩:=I.bG _ _ (sm _ _ hf);obtain⟨_,ib,wb,ob,gb,cb⟩:=I.bG _ _ (sm _ _ hg);rw[rf.ints h1]at wa;rw[rg.ints h2]at wb;exact HT.xO ⟨oa,kp _ _ ga,ca⟩ ⟨ob,kp _ _ gb,cb⟩ (L2.intsAre_of wa) (L2.intsAre_of wb) hu q
   | _=>exact absurd h2 (by simp [gM])
  | _=>exact absurd h1 (by simp [gM])
def JY(t:TV)(td:TD):TV:=λσ Q=>t σ λx av=>td av λdv aL=>match cS aL x with
 | some (.lst xs)=>(xs.all isInt=true\/xs.all gM=true)/\Q (.val ((du xs).getD dv)) aL
 | _=>False
theorem LQ{e d:Expr}{t:TV}{td:TD}{p kp pos:Pos}(h:EO G k S e t)(hd:ED G k S d td)(hm:G.mg "min"=none)(hg:S.sc.lookup ("min":Str)=some .globalImplicit:=by rfl)
  (he:∀env,ab7 [e] env=[(false,eval e env)]:=by intro _;rfl) (hh:S.jl=false:=by rfl):EO G k S (.Call (.Name "min" p) [e] [⟨some "default",d,kp⟩] pos) (JY t td):=.mk λX Y ok=>by
 intro pins s σ H Q I q;obtain⟨F,ah,Qd,R,q,K⟩:=q;refine wpAny_Call_Name_kw (jd (u:=.builtin "min") I (dy ok hg) (by rw[ok.mg];exact hm) (by decide +kernel) ?_ ∅ ∅)
 have ha:PA X [e] (eB (lO Y t) lZ):=bX (h X Y ok) ei (by rw[he];rfl)
 have hk:PK X [⟨some "default",d,kp⟩] (eB (lD Y td) lZ):=Jv (hd X Y ok) Sx;have hA:=ha pos pins s σ H (λvs H1=>∃v1 F1 x av,vs=[v1]/\ao F F1/\RS Y F1 av σ H1/\xk F1 σ v1 x/\td av (λdv aL=>match cS aL x with
   | some (.lst xs)=>(xs.all isInt=true\/xs.all gM=true)/\Qd (.val ((du xs).getD dv)) aL
   | _=>False)) I ⟨F,ah,_,R,q,λv1 H1 F1 x av s1 R1 r1 q1=>⟨v1,F1,x,av,rfl,s1,R1,r1,q1⟩⟩
 refine PyProof.Rows.callWith_kw (env:=X.env) (cv hA λus s1 h1=>?_) (by rw[he];rfl) (by rw[he];rfl) rfl rfl
 obtain⟨vs,H1,I1,rvs,v1,F1,x,av,rfl,sm1,R1,r1,q1⟩:=h1;obtain⟨u1,rfl,ru1⟩:=vals1 rvs;refine cv (hk pos pins s1 σ H1 (λvs H2=>∃v2 F2 dv aL,vs=[v2]/\ao F1 F2/\RS Y F2 aL σ H2/\Rep F2 v2 dv/\(match cS aL x with
   | some (.lst xs)=>(xs.all isInt=true\/xs.all gM=true)/\Qd (.val ((du xs).getD dv)) aL
   | _=>False)) I1 ⟨F1,av,_,R1,q1,λv2 H2 F2 dv aL s2 R2 r2 q2=>⟨v2,F2,dv,aL,rfl,s2,R2,r2,q2⟩⟩) λws s2 h2=>?_
 obtain⟨vs2,H2,I2,abC,v2,F2,dv,aL,rfl,sm2,R2,r2,q2⟩:=h2;obtain⟨u2,rfl,ru2⟩:=vals1 abC
 split at q2
 ·rename_i xs ex
  obtain⟨hc,q2⟩:=q2;obtain⟨a,vs,rfl,hrd,rl⟩:=(R2.cS (r1.mono sm2) ex).lst;cases ru1;obtain⟨its,rv,pl,_⟩:=I2.list (show f7 X.K H2 a vs from .inl hrd)
  have hu:X.A.in1.units<cLine:=by
   have:=ok.units;show X.A.units+1<cLine;omega
  have Vl:=CU I2 R2.fr hu rl rv hc;have len:its.toArray.size=xs.length:=by rw[acg,<- rv.length,rl.length]
  refine vN (I2.ok.hd (ok.calm hh)) Vl pl.isList (λhz g tk kp=>?_) λz g tk hz kp=>?_
  ·have:xs=[]:=List.length_eq_zero_iff.mp (by rw[<- len];exact hz)
   subst this;exact⟨v2,H2,I2.kept kp,ru2,K v2 H2 F2 (.val dv) aL (sm1.trans sm2) R2 r2 q2⟩
  ·have Pt:its[cB (pR xs) (xs.length-1)]?=some z:=by rw[len]at hz;simpa using hz
   have cy:xs≠[]:=λe=>by
    subst e;have:its=[]:=List.length_eq_zero_iff.mp (by rw[<- rv.length,rl.length];rfl)
    rw[this]at Pt;simp at Pt
   have hl:cB (pR xs) (xs.length-1)<vs.length:=by rw[rv.length];exact(ab2.mp Pt).1
   have ev:vs[cB (pR xs) (xs.length-1)]?=some vs[cB (pR xs) (xs.length-1)]:=abY hl;obtain⟨dd,e1,e2⟩:=rl.get' ev;obtain⟨zz,e3,e4⟩:=rv.get ev;rw[Pt]at e3;cases e3;have eb:du xs=some dd:=by rw[m9 cy,List.getD_eq_getElem?_getD,e1];rfl
   rw[eb]at q2;exact⟨_,H2,I2.kept kp,e4,K _ H2 F2 (.val dd) aL (sm1.trans sm2) R2 e2 q2⟩
 ·exact q2.elim
end Vc
namespace Vc
open PySem L2
variable [KF]
variable {G:GE}{k:Nat}{S:Stat}
def su:D->Bool
 | .aQ=>true
 | .bl _=>true
 | .int _=>true
 | .str _=>true
 | _=>false
theorem Rep.plain{F F':Hp}{v:V}{d:D}(r:Rep F v d)(h:su d=true):Rep F' v d:=by
 cases r with
 | aQ=>exact .aQ
 | bl b=>exact .bl b
 | int i=>exact .int i
 | str x=>exact .str x
 | _=>cases h
theorem vp{F H:Hp}(s:ao F H){v:V}{d:D}(r:bS F H v d):∃F',ao F F'/\ao F' H/\Rep F' v d:=by
 cases d with
 | lst xs =>
  obtain⟨a,vs,rfl,h,r⟩:=r;have key:∀o,H a=some o->∃F',ao F F'/\ao F' H/\F' a=some o:=λo e=>by
   cases ef:F a with
   | none =>
    refine⟨upd F a o,aJ ef,λb u q=>?_,ay⟩
    by_cases hb:b=a
    ·subst hb;rw[ay]at q;cases q;exact e
    ·rw[aq hb]at q;exact s b u q
   | some u =>
    have:=s a u ef;rw[e]at this;cases this;exact⟨F,ao.refl _,s,ef⟩
  rcases h with h|⟨o,h⟩
  ·obtain⟨F',s1,s2,e⟩:=key _ h
   exact⟨F',s1,s2,.lst (.inl e) (r.mono s1)⟩
  ·obtain⟨F',s1,s2,e⟩:=key _ h
   exact⟨F',s1,s2,.lst (.inr ⟨o,e⟩) (r.mono s1)⟩
 | dM kvs =>
  obtain⟨a,ks,rfl,h,r⟩:=r;obtain⟨F',s1,s2,e,_⟩:=dA s h;exact⟨F',s1,s2,.dM e (r.mono s1)⟩
 | kp w c e kvs =>
  obtain⟨a,dx,ad,ks,rfl,h1,h2,r⟩:=r;obtain⟨F1,s1,s2,e1,_⟩:=dA s h1;obtain⟨F2,s3,s4,e2,_⟩:=dA s2 h2;exact⟨F2,s1.trans s3,s4,.kp (s3 _ _ e1) e2 (r.mono (s1.trans s3))⟩
 | _=>exact⟨F,ao.refl _,s,r⟩
theorem bS.mono{F F' H:Hp}(s:ao F F'){v:V}{d:D}(r:bS F H v d):bS F' H v d:=by
 cases d with
 | lst xs =>
  obtain⟨a,vs,rfl,h,r⟩:=r;exact⟨a,vs,rfl,h,r.mono s⟩
 | dM kvs =>
  obtain⟨a,ks,e,h,r⟩:=r;exact⟨a,ks,e,h,r.mono s⟩
 | kp w c e kvs =>
  obtain⟨a,dx,ad,ks,e,h1,h2,r⟩:=r;exact⟨a,dx,ad,ks,e,h1,h2,r.mono s⟩
 | _=>exact Rep.mono s r
theorem nM{F H:Hp}(s:ao F H):∀ {vs:List V} {ds:List D},iM F H vs ds->∃F',ao F F'/\ao F' H/\aC F' vs ds
 | _,_,.nil=>⟨F,ao.refl _,s,.nil⟩
 | _,_,.cons h r=>by
  obtain⟨F1,s1,s2,q⟩:=nM s r;obtain⟨F2,s3,s4,p⟩:=vp s2 (h.mono s1);exact⟨F2,s1.trans s3,s4,.cons p (q.mono s3)⟩
def tCb(sp:bq)(t:wV):TX:=λσ Q=>t σ λxs av=>match i7 av xs with
 | some ds=>Cl sp ds λb=>match b with
  | .sh d=>su d=true/\Q (.val d) av
  | .own _=>False
  | .obj _=>False
 | none=>False
theorem zM{x:Str}{sp:bq}{e:Expr}{es:List Expr}{t:wV}{p pos:Pos}(h:c9 G k x sp)(ha:G4 G k S (e::es) t)(hg:S.sc.lookup x=some .globalImplicit:=by rfl)(jx:(x==("__debug__":Str))=false:=by decide)
  (he:∀env,ab7 (e::es) env=(false,eval e env)::ab7 es env:=by exactλ_=>Vc.cM rfl) (dm:∀env,(backTo pos (ab7 es env)).any (·.1)=false:=by intro _;rfl) (hh:S.jl=false:=by rfl):EX G k S (.Call (.Name x p) (e::es) [] pos) (tCb sp t):=.mk λX Y ok=>by
 obtain⟨f,fd,ps,h1,h2,h3,h4⟩:=h;have vt:ck X.prog X.w X.K X.mg X.base iA k f fd ps (ym sp):=by rw[ok.P,ok.w,ok.K,ok.mg,ok.base];exact h1
 refine aO (jM (E:=E0) (dvs:=[]) (ds:=[]) vt (ok.room hh) (dy ok hg) (by rw[ok.mg];exact h2) (by rw[ok.K];exact h3) (by rw[ok.K];exact h4) .nil jL (ha X Y ok) jx (he _) (dm _)) λσ H Q q=>?_
 obtain⟨F,ah,Qd,R,q,K⟩:=q;refine⟨F,ah,_,R,q,λvs H1 F1 xs av s1 R1 r1 q1=>?_⟩;show ym sp (vs++[]) H1 Q E0;rw[List.append_nil]
 split at q1
 ·rename_i ds ed
  obtain⟨F2,s2,s3,r2⟩:=nM R1.fr (R1.i7 r1 ed);refine⟨F2,ds,_,⟨s3,R1.ob.tab.mono s2⟩,r2,q1,λv H' F' b w1 w2 w3 fr r3 q2=>?_⟩;cases b with
  | own ys=>exact q2.elim
  | obj o=>exact q2.elim
  | sh d =>
   have r3:Rep F' v d:=r3;have q2:su d=true/\Qd (.val d) av:=q2;exact K v H' F1 (.val d) av s1 (R1.call (ao.refl _) ((s2.trans w1).trans w2) w3 λc o z=>.inl z) (r3.plain q2.1) q2.2
 ·exact q1.elim
theorem DP{g:mw}{tb:b5}{De:iJ}{items:List D}(I:Nat->Sd->Prop)
  (Eo:∀i x σ (N:Sd->Prop),items[i]?=some x->I i σ->(∀bZ,I (i+1) bZ->N bZ)->g x σ λav=>tb {nx:=N,rt:=De.rt,bk:=De.nx,ct:=N} av)
  (rT:∀σ,I items.length σ->De.nx σ) {σ:Sd} (h0:I 0 σ):vm g tb De items σ:=by
 have key:∀(xs:List D) (i:Nat) (σ:Sd),items.drop i=xs->i<=items.length->I i σ->vm g tb De xs σ:=by
  intro xs
  induction xs with
  | nil =>
   intro i σ e l h;have:items.length<=i:=List.drop_eq_nil_iff.mp e;exact rT σ ((Nat.le_antisymm l this) ▸ h)
  | cons x r ih =>
   intro i σ e l h;have hx:items[i]?=some x:=by
    have:=congrArg (·[0]?) e
    simpa using this
   have hr:items.drop (i+1)=r:=by rw[<- List.drop_drop,e];rfl
   have hl:i<items.length:=(ab2.mp hx).1;exact Eo i x σ _ hx h λbZ h'=>ih (i+1) bZ hr hl h'
 exact key items 0 σ rfl (Nat.zero_le _) h0
theorem e9{α:Type}{g:mw}{tc:TB}{te:TD}{σ0:Sd}{Q:List D->Prop}(gi:α->D)(f:α->Option D)(l:List α)
  (h:∀a∈l,∀(A:D->Prop) (Bn:Prop),(match f a with|some d=>A d|none=>Bn)->g (gi a) σ0 λav=>tc av λb aL=>if b=true then te aL λd eY=>lF σ0 eY/\A d else lF σ0 aL/\Bn)
  (hl:l.length<=aca) (q:Q (l.filterMap f)):gI g tc te σ0 (l.map gi) [] Q:=by
 have key:∀(l:List α) (acc:List D),(∀a∈l,∀(A:D->Prop) (Bn:Prop),(match f a with|some d=>A d|none=>Bn)->g (gi a) σ0 λav=>tc av λb aL=>if b=true then te aL λd eY=>lF σ0 eY/\A d else lF σ0 aL/\Bn) ->
   acc.length+l.length<=aca->Q (acc++l.filterMap f)->gI g tc te σ0 (l.map gi) acc Q:=by
  intro l
  induction l with
  | nil=>intro acc _ _ q;simpa [gI]using q
  | cons a l ih =>
   intro acc h hl q;rw[List.length_cons]at hl;rw[List.map_cons];refine h a (ab8 ..) (λd=>acc.length<aca/\gI g tc te σ0 (l.map gi) (acc++[d]) Q) (gI g tc te σ0 (l.map gi) acc Q) ?_;have hr:=λy hy=>h y (ab1 _ hy);cases e:f a with
   | some d =>
    refine⟨by omega,ih _ hr (by rw[List.length_append,List.length_singleton];omega) ?_⟩
    rw[List.filterMap_cons_some e]at q
    rwa [List.append_assoc]
   | none =>
    refine ih acc hr ⋯ ?_
    rwa [List.filterMap_cons_none e]at q
 exact key l [] h (by simpa using hl) q
theorem fb{α:Type}{g:mw}{te:TD}{σ0:Sd}{Q:List D->Prop}(gi f:α->D)(l:List α)
  (h:∀a∈l,∀(A:D->Prop),A (f a)->g (gi a) σ0 λav=>te av λd eY=>lF σ0 eY/\A d)
  (hl:l.length<=aca) (q:Q (l.map f)):gI g eC te σ0 (l.map gi) [] Q:=
 e9 gi (λx=>some (f x)) l (λx hx A Bn ha=>h x hx A ha) hl (by simpa using q)
theorem eJ{α:Type}{g:mw}{tb:b5}{De:iJ}(gi:α->D)(l:List α)(I:Nat->Sd->Prop)
  (Eo:∀i a σ (N:Sd->Prop),l[i]?=some a->I i σ->(∀bZ,I (i+1) bZ->N bZ)->g (gi a) σ λav=>tb {nx:=N,rt:=De.rt,bk:=De.nx,ct:=N} av)
  (rT:∀σ,I l.length σ->De.nx σ) {σ:Sd} (h0:I 0 σ):vm g tb De (l.map gi) σ:=by
 refine DP I (λi x σ N hx hI hN=>?_) (λσ h=>rT σ (by rwa [abZ]at h)) h0
 rw[acb]at hx;cases e:l[i]? with
 | none=>rw[e]at hx;cases hx
 | some a=>rw[e]at hx;cases hx;exact Eo i a σ N e hI hN
theorem dg(lo:Int)(n:Nat):Bh lo n=(List.range n).map λi=>.int (lo+(i:Nat)):=rfl
theorem wR{α β:Type}(f:α->D)(g:β->D)(xs:List α)(ys:List β):wQ (xs.map f) (ys.map g)=(xs.zip ys).map λp=>.tup [f p.1,g p.2]:=by
 unfold wQ;rw[List.zip_map,List.map_map];rfl
theorem yN{α:Type}{xs:List α}{n:Nat}{d:α}(h:xs[n]?=some d):L2.mX xs (n:Int)=some d:=by
 have hn:=(ab2.mp h).1;unfold L2.mX L2.zk;rw[if_pos (Int.natCast_nonneg n),if_pos ⋯]
 show xs[(n:Int).toNat]?=some d;rw[Int.toNat_natCast];exact h
theorem bo{xs:List D}{n:Nat}{i:Int}{d:D}{Q:D->Prop}(e:i=(n:Int))(h:xs[n]?=some d)(q:Q d):Lw (.lst xs) (.int i) Q:=by
 subst e;show(match L2.mX xs (n:Int)with|some d=>Q d|none=>False)
 rw[yN h];exact q
theorem dB{xs:List D}{n:Nat}{i:Int}{d:D}{Q:D->Prop}(e:i=(n:Int))(h:xs[n]?=some d)(q:Q d):Lw (.tup xs) (.int i) Q:=by
 subst e;show(match L2.mX xs (n:Int)with|some d=>Q d|none=>False)
 rw[yN h];exact q
theorem cW{xs:List D}{i:Int}{Q:D->Prop}(h0:0<=i)(h1:i<xs.length)(h:∀d∈xs,Q d):Lw (.lst xs) (.int i) Q:=by
 have hn:i.toNat<xs.length:=by omega
 exact bo (n:=i.toNat) ⋯ (abY hn) (h _ (List.getElem_mem hn))
structure cY(G:GE)(x:Str)(st:Stmt)(ps:List Str)(f:Addr)(fd:FuncData):Prop where
 F:Bq G.K x x st f fd
 m:G.mg x=some (.ref f)
 b:Binds G.K fd ps []
theorem cY.fg{x:Str}{st:Stmt}{ps N:List Str}{f:Addr}{fd:FuncData}{t:b5}{sp:bq}(d:cY G x st ps f fd)(hK:G.K=KF.K)(Sc:aB N ps (ag st))(ht:dr G k ⟨N,(ag st).names,[],false,false,false,λ_ _=>False⟩ (ak st) t)
  (len:∀ds Q,sp ds Q->ds.length=ps.length) (body:∀ds Q,sp ds Q->t {nx:=λ_=>Q (.sh .aQ),rt:=λb _=>Q b} (aP N.length ds)):c9 G (k+1) x sp:=
 ⟨f,fd,ps,DN hK d.F Sc ht len body,d.m,d.F.kp,d.b⟩
theorem au{t u:b5}{De:iJ}{σ:Sd}(h:∀N,N=u De->t {nx:=N,rt:=De.rt,bk:=De.bk,ct:=De.ct} σ):bQ t u De σ:=h _ rfl
end Vc
namespace Vs
open PySem PyProof.Rows
def R(ρ:Keyed->Nat)(xs:Array Keyed)(i:Nat):Nat:=match xs[i]? with
 | some p=>ρ p
 | none=>0
theorem h8{ρ:Keyed->Nat}{xs ys:Array Keyed}{i j:Nat}(h:xs[i]?=ys[j]?):R ρ xs i=R ρ ys j:=by unfold R;rw[h]
theorem dk{ρ:Keyed->Nat}{xs:Array Keyed}{i:Nat}{p:Keyed}(h:xs[i]?=some p):R ρ xs i=ρ p:=by unfold R;rw[h]
theorem uh{ρ:Keyed->Nat}{xs:Array Keyed}{src d:Nat}(hs:src<xs.size)(hd:d<=src)(k:Nat):
  R ρ (bubble xs src d) k=if k=src-d then R ρ xs src else if src-d<k/\k<=src then R ρ xs (k-1)else R ρ xs k:=by
 have e:=getElem?_bubble hs d hd k
 repeat' split
 all_goals (rename_i h1;first | (rename_i h2;first|rw[if_neg h2,if_pos h1]at e|rw[if_neg h2,if_neg h1]at e)|rw[if_pos h1]at e)
 all_goals exact h8 e
theorem nC{ρ:Keyed->Nat}{xs:Array Keyed}{i j:Nat}(hj:j<=xs.size)(k:Nat):
  R ρ (mirror xs i j ((j-i)/2)) k=if i<=k/\k<j then R ρ xs (i+j-1-k)else R ρ xs k:=by
 have e:=getElem?_mirror_all (i:=i) hj k
 split
 ·rename_i h1;rw[if_pos h1]at e;exact h8 e
 ·rename_i h1;rw[if_neg h1]at e;exact h8 e
theorem cH{ρ:Keyed->Nat}{xs:Array Keyed}{i j:Nat}(hj:j<=xs.size)(heq:∀k,i<=k->k<j->R ρ xs k=R ρ xs (j-1))(k:Nat):
  R ρ (mirror xs i j ((j-i)/2)) k=R ρ xs k:=by
 rw[nC hj]
 split
 ·rw[heq _ ⋯ ⋯,heq k ⋯ ⋯]
 ·rfl
def gA(M:Model)(A:Around)(E:Value->Shared->Prop)(s:Shared)(ρ:Keyed->Nat)(kd:SortKind)(P:Keyed->Prop):Prop:=
 ∀(x y:Keyed) (st:SortSt) (Q:Option Bool->SortSt->Prop),P x->P y->kindOf st=kd->Q (some (decide (ρ x<ρ y))) st->wpS M A E s (lt' x y) Q st
structure SI(kd:SortKind)(a₀:Array Keyed)(st:SortSt):Prop where
 perm:(arrOf st).Perm a₀
 kind:kindOf st=kd
 failed:failedOf st=none
theorem SI.size{kd:SortKind}{a₀:Array Keyed}{st:SortSt}(h:SI kd a₀ st):(arrOf st).size=a₀.size:=h.perm.size_eq
theorem SI.setArr{kd:SortKind}{a₀:Array Keyed}{st:SortSt}(h:SI kd a₀ st){xs:Array Keyed}(hp:xs.Perm (arrOf st)):SI kd a₀ (setArr st xs):=⟨hp.trans h.perm,h.kind,h.failed⟩
theorem SI.at{kd:SortKind}{a₀:Array Keyed}{st:SortSt}(h:SI kd a₀ st){P:Keyed->Prop}(h0:∀p∈a₀.toList,P p){i:Nat}(hi:i<a₀.size):∃p,(arrOf st)[i]?=some p/\P p:=by
 have xH:i<(arrOf st).size:=by rw[h.size];exact hi
 exact⟨(arrOf st)[i],getElem?_pos _ i xH,h0 _ ((Array.perm_iff_toList_perm.mp h.perm).mem_iff.mp (by simp))⟩
structure Fw(kd:SortKind)(a₀:Array Keyed)(lo:Nat)(st az:SortSt):Prop where
 si:SI kd a₀ az
 same:∀k,k<lo->(arrOf az)[k]?=(arrOf st)[k]?
 pend:aci az=aci st
theorem Fw.refl{kd:SortKind}{a₀:Array Keyed}{lo:Nat}{st:SortSt}(h:SI kd a₀ st):Fw kd a₀ lo st st:=⟨h,λ_ _=>rfl,rfl⟩
theorem Fw.mirror{kd:SortKind}{a₀:Array Keyed}{lo i j:Nat}{st az:SortSt}(h:Fw kd a₀ lo st az)(hi:lo<=i)(hj:j<=a₀.size):Fw kd a₀ lo st (setArr az (mirror (arrOf az) i j ((j-i)/2))):=
 ⟨h.si.setArr (mirror_perm _ _ _ _),λk hk=>by
  show(PyProof.Rows.mirror (arrOf az) i j ((j-i)/2))[k]?=_;rw[getElem?_mirror_all (by rw[h.si.size];exact hj),if_neg ⋯];exact h.same k hk,h.pend⟩
theorem Fw.bubble{kd:SortKind}{a₀:Array Keyed}{lo src d:Nat}{st az:SortSt}(h:Fw kd a₀ lo st az)(hs:src<a₀.size)(hd:lo<=src-d)(hd2:d<=src):Fw kd a₀ lo st (setArr az (bubble (arrOf az) src d)):=
 ⟨h.si.setArr (bubble_perm _ _ _),λk hk=>by
  show(PyProof.Rows.bubble (arrOf az) src d)[k]?=_;rw[getElem?_bubble (by rw[h.si.size];exact hs) d hd2,if_neg ⋯,if_neg ⋯];exact h.same k hk,h.pend⟩
section
variable {M:Model}{A:Around}{E:Value->Shared->Prop}{s:Shared}{ρ:Keyed->Nat}{kd:SortKind}{P:Keyed->Prop}{a₀:Array Keyed}
theorem a9{arr:Array Keyed}{i:Nat}{p:Keyed}{st:SortSt}{Q:Keyed->SortSt->Prop}(h:arr[i]?=some p)(q:Q p st):wpS M A E s (elem' arr i) Q st:=by
 rw[elem'_eq,h];exact acj q
theorem wpS_ltAt{st:SortSt}{i j:Nat}{Q:Option Bool->SortSt->Prop}(hL:gA M A E s ρ kd P)(h0:∀p∈a₀.toList,P p)(hB:SI kd a₀ st)(hi:i<a₀.size)(hj:j<a₀.size)
  (h:Q (some (decide (R ρ (arrOf st) i<R ρ (arrOf st) j))) st):wpS M A E s (ltAt' i j) Q st:=by
 obtain⟨p,e1,p1⟩:=hB.at h0 hi;obtain⟨q,e2,p2⟩:=hB.at h0 hj;rw[dk e1,dk e2]at h;rw[ltAt'_eq];refine ab9 (wpS_get ?_);show wpS _ _ _ _ (do let x <- elem' (arrOf st) i;let y <- elem' (arrOf st) j;lt' x y) Q st
 exact ab9 (a9 e1 (ab9 (a9 e2 (hL p q st Q p1 p2 hB.kind h))))
theorem wpS_reverse{st:SortSt}{i j:Nat}{Q:Unit->SortSt->Prop}(h:Q () (setArr st (mirror (arrOf st) i j ((j-i)/2)))):wpS M A E s (reverseSlice' i j) Q st:=by
 rw[reverseSlice'_eq];exact wpS_modify h
def Seg(ρ:Keyed->Nat)(xs:Array Keyed)(lo hi:Nat):Prop:=∀i j,lo<=i->i<=j->j<hi->R ρ xs i<=R ρ xs j
def Neg(ρ:Keyed->Nat)(xs:Array Keyed)(lo hi:Nat):Prop:=∀i j,lo<=i->i<=j->j<hi->R ρ xs j<=R ρ xs i
theorem Seg.one{xs:Array Keyed}{lo:Nat}:Seg ρ xs lo (lo+1):=λi j h1 h2 h3=>by
 have:i=j:=by omega
 subst this;exact ab3 _
theorem Seg.snoc{xs:Array Keyed}{lo hi:Nat}(h:Seg ρ xs lo hi)(hl:lo<hi)(hr:R ρ xs (hi-1)<=R ρ xs hi):Seg ρ xs lo (hi+1):=λi j h1 h2 h3=>by
 by_cases hj:j<hi
 ·exact h i j h1 h2 hj
 ·have:j=hi:=by omega
  subst this
  by_cases xH:i=j
  ·subst xH;exact ab3 _
  ·exact Nat.le_trans (h i (j-1) h1 ⋯ ⋯) hr
theorem Neg.snoc{xs:Array Keyed}{lo hi:Nat}(h:Neg ρ xs lo hi)(hl:lo<hi)(hr:R ρ xs hi<=R ρ xs (hi-1)):Neg ρ xs lo (hi+1):=λi j h1 h2 h3=>by
 by_cases hj:j<hi
 ·exact h i j h1 h2 hj
 ·have:j=hi:=by omega
  subst this
  by_cases xH:i=j
  ·subst xH;exact ab3 _
  ·exact Nat.le_trans hr (h i (j-1) h1 ⋯ ⋯)
def Cb(lo a bP:Nat):StateT SortSt Sem (Option (Option Nat)×Nat):=
 forIn [a:bP] ((none,a):Option (Option Nat)×Nat) λ_ d5=>do
  let Mm <- ltAt' (lo+d5.snd) (lo+d5.snd-1)
  match Mm with
  | some sW=>if sW=true then pure (ace (none,d5.snd))else pure (ForInStep.yield (none,d5.snd+1))
  | _=>pure (ace (some none,d5.snd))
theorem wF{st:SortSt}{lo a bP:Nat}{Q:Option (Option Nat)×Nat->SortSt->Prop}(hL:gA M A E s ρ kd P)(h0:∀p∈a₀.toList,P p)(hn:lo+bP<=a₀.size)(ha:1<=a)(han:a<=bP)(hB:SI kd a₀ st)
  (hs:Seg ρ (arrOf st) lo (lo+a))
  (h:∀n,a<=n->n<=bP->Seg ρ (arrOf st) lo (lo+n)->(n=bP\/R ρ (arrOf st) (lo+n)<R ρ (arrOf st) (lo+n-1))->Q (none,n) st):wpS M A E s (Cb lo a bP) Q st:=by
 unfold Cb;refine wpS_forRange (I:=λx c az=>az=st/\c=(none,x)/\Seg ρ (arrOf st) lo (lo+x)) ?step ?fin ⟨rfl,rfl,hs⟩
 case fin =>
  rintro c az ⟨rfl,rfl,k7⟩;rw[show max a bP=bP by omega]at k7 ⊢
  exact h bP han (ab3 _) k7 (.inl rfl)
 case step =>
  rintro x c az hax hxn ⟨rfl,rfl,k7⟩;dsimp only;refine ab9 (wpS_ltAt hL h0 hB ⋯ ⋯ ?_)
  by_cases hl:R ρ (arrOf az) (lo+x)<R ρ (arrOf az) (lo+x-1)
  ·simp only[hl,decide_true,if_true]
   exact acj (h x hax ⋯ k7 (.inr hl))
  ·simp only[hl,decide_false,acd,if_false]
   refine acj ⟨rfl,rfl,?_⟩;exact k7.snoc ⋯ ⋯
def wy(lo n bP:Nat):StateT SortSt Sem (Option Nat):=do
 reverseSlice' lo (lo+n)
 let d5 <- Cb lo n bP
 match d5.fst with
 | some r=>pure r
 | none=>pure (some d5.snd)
theorem qQ{st cu:SortSt}{lo n bP:Nat}{Q:Option Nat->SortSt->Prop}(hL:gA M A E s ρ kd P)(h0:∀p∈a₀.toList,P p)(hn:lo+bP<=a₀.size)(h1:1<=n)(Ii:n<=bP)(hB:Fw kd a₀ lo cu st)
  (hs:Neg ρ (arrOf st) lo (lo+n)) (h:∀m az,Fw kd a₀ lo cu az->1<=m->m<=bP->Seg ρ (arrOf az) lo (lo+m)->Q (some m) az):wpS M A E s (wy lo n bP) Q st:=by
 unfold wy;have hsz:lo+n<=(arrOf st).size:=by rw[hB.si.size];omega
 refine ab9 (wpS_reverse ?_);have jb:=hB.mirror (i:=lo) (j:=lo+n) (ab3 _) ⋯
 refine ab9 (wF hL h0 hn h1 Ii jb.si ?_ λm hm1 lx hsm _=>acj (h m _ jb ⋯ lx hsm))
 intro i j hi lu hj;show R ρ (mirror (arrOf st) lo (lo+n) ((lo+n-lo)/2)) i<=R ρ (mirror (arrOf st) lo (lo+n) ((lo+n-lo)/2)) j;rw[nC hsz,nC hsz,if_pos ⋯,if_pos ⋯]
 exact hs _ _ ⋯ ⋯ ⋯
def yT(lo n bP:Nat):StateT SortSt Sem (Option (Option Nat)×Nat×Nat):=
 forIn [n:bP] ((none,n,0):Option (Option Nat)×Nat×Nat) λ_ d5=>do
  let Mm <- ltAt' (lo+d5.snd.fst) (lo+d5.snd.fst-1)
  match Mm with
  | some sW =>
   if sW=true then
    if d5.snd.snd>0 then do
     reverseSlice' (lo+d5.snd.fst-(d5.snd.snd+1)) (lo+d5.snd.fst)
     pure (ForInStep.yield (none,d5.snd.fst+1,0))
    else pure (ForInStep.yield (none,d5.snd.fst+1,0))
   else do
    let Mm <- ltAt' (lo+d5.snd.fst-1) (lo+d5.snd.fst)
    match Mm with
    | some Qv =>
     if Qv=true then pure (ace (none,d5.snd.fst,d5.snd.snd))
     else pure (ForInStep.yield (none,d5.snd.fst+1,d5.snd.snd+1))
    | _=>pure (ace (some none,d5.snd.fst,d5.snd.snd))
  | _=>pure (ace (some none,d5.snd.fst,d5.snd.snd))
theorem Bp{st cu:SortSt}{lo n bP:Nat}{Q:Option (Option Nat)×Nat×Nat->SortSt->Prop}(hL:gA M A E s ρ kd P)(h0:∀p∈a₀.toList,P p)(hn:lo+bP<=a₀.size)(h1:1<=n)(Ii:n<=bP)(hB:Fw kd a₀ lo cu st)
  (hs:Neg ρ (arrOf st) lo (lo+n))
  (h:∀m xT az,Fw kd a₀ lo cu az->n<=m->m<=bP->Neg ρ (arrOf az) lo (lo+m)->xT+1<=m->(∀i,lo+m-(xT+1)<=i->i<lo+m->R ρ (arrOf az) i=R ρ (arrOf az) (lo+m-1))->Q (none,m,xT) az):
  wpS M A E s (yT lo n bP) Q st:=by
 unfold yT;refine wpS_forRange (I:=λx c az=>∃xT,c=(none,x,xT)/\Fw kd a₀ lo cu az/\Neg ρ (arrOf az) lo (lo+x)/\xT+1<=x /\
   (∀i,lo+x-(xT+1)<=i->i<lo+x->R ρ (arrOf az) i=R ρ (arrOf az) (lo+x-1))) ?step ?fin ⟨0,rfl,hB,hs,by omega,λi h1 h2=>by congr 1;omega⟩
 case fin =>
  rintro c az ⟨xT,rfl,jb,k7,hq,he⟩;rw[show max n bP=bP by omega]at k7 hq he ⊢
  exact h bP xT az jb Ii (ab3 _) k7 hq he
 case step =>
  rintro x c az hax hxn ⟨xT,rfl,jb,k7,hq,he⟩;dsimp only;have hsz:lo+x<=(arrOf az).size:=by rw[jb.si.size];omega
  refine ab9 (wpS_ltAt hL h0 jb.si ⋯ ⋯ ?_)
  by_cases hl:R ρ (arrOf az) (lo+x)<R ρ (arrOf az) (lo+x-1)
  ·simp only[hl,decide_true,if_true]
   have LW:∀xs:Array Keyed,(∀k,R ρ xs k=R ρ (arrOf az) k)->Neg ρ xs lo (lo+(x+1)):=λxs hk=>by
    have:=k7.snoc ⋯ (Nat.le_of_lt hl)
    intro i j h1 h2 h3;rw[hk,hk];exact this i j h1 h2 h3
   by_cases Ek:xT>0
   ·rw[if_pos Ek]
    refine ab9 (wpS_reverse (acj ⟨0,rfl,jb.mirror ⋯ ⋯,LW _ (cH hsz he),by omega,λi h1 h2=>by congr 1;omega⟩))
   ·rw[if_neg Ek]
    exact acj ⟨0,rfl,jb,LW _ (λ_=>rfl),by omega,λi h1 h2=>by congr 1;omega⟩
  ·simp only[hl,decide_false,acd,if_false]
   refine ab9 (wpS_ltAt hL h0 jb.si ⋯ ⋯ ?_)
   by_cases hg:R ρ (arrOf az) (lo+x-1)<R ρ (arrOf az) (lo+x)
   ·simp only[hg,decide_true,if_true]
    exact acj (h x xT az jb hax ⋯ k7 hq he)
   ·simp only[hg,decide_false,acd,if_false]
    have heq:R ρ (arrOf az) (lo+x)=R ρ (arrOf az) (lo+x-1):=by omega
    refine acj ⟨xT+1,rfl,jb,k7.snoc ⋯ ⋯,by omega,λi h1 h2=>?_⟩
    rw[show lo+(x+1)-1=lo+x by omega]
    by_cases hix:i=lo+x
    ·rw[hix]
    ·rw[heq];exact he i ⋯ ⋯
def uF(lo n bP:Nat):StateT SortSt Sem (Option Nat):=do
 liftM (rule "list.sort.descending-run")
 let d5 <- yT lo (n+1) bP
 match d5.fst with
 | some r=>pure r
 | none =>
  if d5.snd.snd>0 then do
   reverseSlice' (lo+d5.snd.fst-(d5.snd.snd+1)) (lo+d5.snd.fst)
   wy lo d5.snd.fst bP
  else wy lo d5.snd.fst bP
theorem qP{st cu:SortSt}{lo n bP:Nat}{Q:Option Nat->SortSt->Prop}(hL:gA M A E s ρ kd P)(h0:∀p∈a₀.toList,P p)(hn:lo+bP<=a₀.size)(Ii:n+1<=bP)(hB:Fw kd a₀ lo cu st)
  (hs:Neg ρ (arrOf st) lo (lo+(n+1))) (h:∀m az,Fw kd a₀ lo cu az->1<=m->m<=bP->Seg ρ (arrOf az) lo (lo+m)->Q (some m) az):wpS M A E s (uF lo n bP) Q st:=by
 unfold uF;refine ab9 (wpS_lift (wpAny_rule ⟨rfl,?_⟩));refine ab9 (Bp hL h0 hn ⋯ Ii hB hs λm xT az jb hm1 lx k7 hq he=>?_)
 dsimp only;have hsz:lo+m<=(arrOf az).size:=by rw[jb.si.size];omega
 by_cases Ek:xT>0
 ·rw[if_pos Ek]
  refine ab9 (wpS_reverse (qQ hL h0 hn ⋯ lx (jb.mirror ⋯ ⋯) ?_ h))
  intro i j h1 h2 h3;show R ρ (mirror (arrOf az) _ _ _) j<=R ρ (mirror (arrOf az) _ _ _) i;rw[cH hsz he,cH hsz he];exact k7 i j h1 h2 h3
 ·rw[if_neg Ek]
  exact qQ hL h0 hn ⋯ lx jb k7 h
local macro_rules|`(tactic| walk_at "s_tail")=>`(tactic| (funext s3;obtain⟨r3,n3⟩:=s3;cases r3<;>rfl))
local macro_rules|`(tactic| walk_at "s_t3")=>`(tactic| (congr 1;funext _w;congr 1;walk_at "s_tail"))
local macro_rules|`(tactic| walk_at "s_desc")=>`(tactic| (congr 1;funext _u;congr 1;congr 1;funext s2;obtain⟨r2,n2,q2⟩:=s2;cases r2 with
  | some r2=>rfl
  | none=>(dsimp only;split;(congr 1;funext _v;walk_at "s_t3");walk_at "s_t3")))
theorem rD(lo bP:Nat):countRun' lo bP=(do
  let d5 <- Cb lo 1 bP
  match d5.fst with
  | some r=>pure r
  | none =>
   if(d5.snd==bP)=true then pure (some d5.snd)
   else if d5.snd>1 then do
    let Mm <- ltAt' lo (lo+d5.snd-1)
    match Mm with
    | some abB=>if abB=true then pure (some d5.snd)else do
      reverseSlice' lo (lo+d5.snd)
      uF lo d5.snd bP
    | _=>pure none
   else uF lo d5.snd bP):=by
 rw[countRun'_eq];dsimp only;unfold uF wy yT Cb;congr 1;funext d5;obtain⟨r,n⟩:=d5;cases r with
 | some r=>rfl
 | none =>
  dsimp only
  split
  ·rfl
  ·split
   ·congr 1
    funext x;cases x with
    | none=>rfl
    | some b =>
     dsimp only
     split
     ·rfl
     ·congr 1
      funext _z;walk_at "s_desc"
   ·walk_at "s_desc"
end
end Vs
namespace Vs
open PySem PyProof.Rows
section
variable {M:Model}{A:Around}{E:Value->Shared->Prop}{s:Shared}{ρ:Keyed->Nat}{kd:SortKind}{P:Keyed->Prop}{a₀:Array Keyed}
theorem wpS_countRun{st:SortSt}{lo bP:Nat}{Q:Option Nat->SortSt->Prop}(hL:gA M A E s ρ kd P)(h0:∀p∈a₀.toList,P p)(hn:lo+bP<=a₀.size)(h1:1<=bP)(hB:SI kd a₀ st)
  (h:∀m az,Fw kd a₀ lo st az->1<=m->m<=bP->Seg ρ (arrOf az) lo (lo+m)->Q (some m) az):wpS M A E s (countRun' lo bP) Q st:=by
 rw[rD];refine ab9 (wF hL h0 hn (ab3 1) h1 hB Seg.one λn Vt Ei Lr hor=>?_);dsimp only
 by_cases Ii:n=bP
 ·rw[if_pos (by simpa using Ii)]
  exact acj (h n st (.refl hB) Vt Ei Lr)
 ·rw[if_neg (by simpa using Ii)]
  have iR:=hor.resolve_left Ii
  by_cases hgt:n>1
  ·rw[if_pos hgt]
   refine ab9 (wpS_ltAt hL h0 hB ⋯ ⋯ ?_)
   by_cases hr:R ρ (arrOf st) lo<R ρ (arrOf st) (lo+n-1)
   ·simp only[hr,decide_true,if_true]
    exact acj (h n st (.refl hB) Vt Ei Lr)
   ·simp only[hr,decide_false,acd,if_false]
    have hsz:lo+n<=(arrOf st).size:=by rw[hB.size];omega
    have iD:∀k,lo<=k->k<lo+n->R ρ (arrOf st) k=R ρ (arrOf st) (lo+n-1):=λk rW XZ=>by
     have a1:=Lr lo k (ab3 _) rW XZ;have a2:=Lr k (lo+n-1) rW ⋯ ⋯
     omega
    refine ab9 (wpS_reverse (qP hL h0 hn ⋯ ((Fw.refl hB).mirror (ab3 _) ⋯) ?_ h))
    intro i j hi lu hj;show R ρ (mirror (arrOf st) _ _ _) j<=R ρ (mirror (arrOf st) _ _ _) i;rw[cH hsz iD,cH hsz iD]
    by_cases hjn:j<lo+n
    ·rw[iD i hi ⋯,iD j ⋯ hjn];exact ab3 _
    ·have He:j=lo+n:=by omega
     subst He
     by_cases xH:i=lo+n
     ·subst xH;exact ab3 _
     ·rw[iD i hi ⋯];exact Nat.le_of_lt iR
  ·rw[if_neg hgt]
   have Pj:n=1:=by omega
   subst Pj;refine qP hL h0 hn ⋯ (.refl hB) ?_ h
   intro i j hi lu hj
   by_cases xH:i=j
   ·subst xH;exact ab3 _
   ·have hi0:i=lo:=by omega
    have hj1:j=lo+1:=by omega
    subst hi0;subst hj1;exact Nat.le_of_lt iR
theorem wpS_binarySort{st:SortSt}{lo n ok:Nat}{Q:Bool->SortSt->Prop}(hL:gA M A E s ρ kd P)(h0:∀p∈a₀.toList,P p)(hn:lo+n<=a₀.size)(bG:ok<=n)(hB:SI kd a₀ st)(hs:Seg ρ (arrOf st) lo (lo+ok))
  (h:∀az,Fw kd a₀ lo st az->Seg ρ (arrOf az) lo (lo+n)->Q true az):wpS M A E s (binarySort' lo n ok) Q st:=by
 rw[binarySort'_eq];refine ab9 (wpS_mono (wpS_forRange (I:=λk c az=>c=(none,())/\Fw kd a₀ lo st az/\Seg ρ (arrOf az) lo (lo+min k n))
  (Q:=λc az=>c=(none,())/\Fw kd a₀ lo st az/\Seg ρ (arrOf az) lo (lo+n)) ?step ?fin ?init) ?post)
 case post =>
  rintro c az ⟨rfl,jb,k7⟩;exact acj (h az jb k7)
 case init =>
  refine⟨rfl,.refl hB,λi j hi lu hj=>?_⟩
  by_cases h1:ok=0
  ·have:i=j:=by omega
   subst this;exact ab3 _
  ·exact hs i j hi lu ⋯
 case fin =>
  rintro c az ⟨hc,jb,k7⟩;refine⟨hc,jb,?_⟩
  rwa [show min (max (max ok 1) n) n=n by omega]at k7
 case step =>
  rintro k c az hak hkn ⟨rfl,jb,k7⟩;rw[show min k n=k by omega]at k7
  have hk:lo+k<a₀.size:=by omega
  refine ab9 (wpS_mono (wpS_forRange (I:=λx c dq=>dq=az/\∃l r,c=(none,l,r)/\l<=r/\r<=k/\r-l<=k-x /\
    (∀i,i<l->R ρ (arrOf az) (lo+i)<=R ρ (arrOf az) (lo+k))/\(∀i,r<=i->i<k->R ρ (arrOf az) (lo+k)<R ρ (arrOf az) (lo+i)))
   (Q:=λc dq=>dq=az/\∃l r,c=(none,l,r)/\l<=k /\
    (∀i,i<l->R ρ (arrOf az) (lo+i)<=R ρ (arrOf az) (lo+k))/\(∀i,l<=i->i<k->R ρ (arrOf az) (lo+k)<R ρ (arrOf az) (lo+i))) ?istep ?ifin ?iinit) ?ipost)
  case iinit=>exact⟨rfl,0,k,rfl,by omega,by omega,by omega,λi hi=>by omega,λi h1 h2=>by omega⟩
  case ifin =>
   rintro c dq ⟨rfl,l,r,rfl,hlr,hrk,hm,za,Vr⟩;have:l=r:=by omega
   subst this;exact⟨rfl,l,l,rfl,hrk,za,Vr⟩
  case istep =>
   rintro x c dq _ hxk ⟨rfl,l,r,rfl,hlr,hrk,hm,za,Vr⟩;dsimp only
   by_cases wX:l>=r
   ·rw[if_pos wX]
    have:l=r:=by omega
    subst this;exact acj ⟨rfl,l,l,rfl,hrk,za,Vr⟩
   ·rw[if_neg wX]
    refine ab9 (wpS_ltAt hL h0 jb.si hk ⋯ ?_)
    by_cases y9:R ρ (arrOf dq) (lo+k)<R ρ (arrOf dq) (lo+(l+r)/2)
    ·simp only[y9,decide_true,if_true]
     refine acj ⟨rfl,l,(l+r)/2,rfl,by omega,by omega,by omega,za,λi h1 h2=>?_⟩
     exact Nat.lt_of_lt_of_le y9 (k7 _ _ ⋯ ⋯ ⋯)
    ·simp only[y9,decide_false,acd,if_false]
     refine acj ⟨rfl,(l+r)/2+1,r,rfl,by omega,by omega,by omega,λi h1=>?_,Vr⟩
     exact Nat.le_trans (k7 (lo+i) (lo+(l+r)/2) ⋯ ⋯ ⋯) (Nat.not_lt.mp y9)
  case ipost =>
   rintro c dq ⟨rfl,l,r,rfl,ub,za,Vr⟩;show wpS _ _ _ _ (do moveDown' (lo+k) (lo+l);pure (ForInStep.yield (none,()))) _ _
   rw[moveDown'_eq];refine ab9 (wpS_modify (acj ⟨rfl,jb.bubble hk ⋯ ⋯,?_⟩))
   rw[show min (k+1) n=k+1 by omega]
   have hks:lo+k<(arrOf dq).size:=by rw[jb.si.size];exact hk
   intro i j hi lu hj;show R ρ (bubble (arrOf dq) (lo+k) (lo+k-(lo+l))) i<=R ρ (bubble (arrOf dq) (lo+k) (lo+k-(lo+l))) j;rw[uh hks ⋯,uh hks ⋯,show lo+k-(lo+k-(lo+l))=lo+l by omega]
   have aa1:∀i,lo<=i->i<lo+l->R ρ (arrOf dq) i<=R ρ (arrOf dq) (lo+k):=λi h1 h2=>by
    have:=za (i-lo) ⋯;rwa [show lo+(i-lo)=i by omega]at this
   have aaX:∀i,lo+l<=i->i<lo+k->R ρ (arrOf dq) (lo+k)<R ρ (arrOf dq) i:=λi h1 h2=>by
    have:=Vr (i-lo) ⋯ ⋯;rwa [show lo+(i-lo)=i by omega]at this
   repeat' split
   all_goals first
    | (exfalso;omega)
    | exact ab3 _
    | exact aa1 _ ⋯ ⋯
    | exact Nat.le_of_lt (aaX _ ⋯ ⋯)
    | exact k7 _ _ ⋯ ⋯ ⋯
def cD:Bool->Keyed->Array Keyed->Nat->Nat->Nat->StateT SortSt Sem (Option Nat):=sortPriv% PySem.Builtin.gallop
def fI(left:Bool)(key:Keyed)(arr:Array Keyed)(base i:Nat):StateT SortSt Sem (Option Bool):=do
 let x <- elem' arr (base+i)
 if left then lt' x key else return(<- lt' key x).map (!·)
theorem xD(left:Bool)(key:Keyed)(arr:Array Keyed)(base n hint:Nat):cD left key arr base n hint=(do
 let mut ng:=0
 let mut Bw:=1
 let mut lo:=0
 let mut hi:=0
 let some right <- fI left key arr base hint|return none
 if right then
  let n8:=n-hint
  for _ in [0:n]do
   if Bw>=n8 then break
   let some more <- fI left key arr base (hint+Bw)|return none
   if !more then break
   ng:=Bw
   Bw:=2*Bw+1
  lo:=hint+ng+1
  hi:=hint+min Bw n8
 else
  let n8:=hint+1
  for _ in [0:n]do
   if Bw>=n8 then break
   let some found <- fI left key arr base (hint-Bw)|return none
   if found then break
   ng:=Bw
   Bw:=2*Bw+1
  lo:=hint+1-min Bw n8
  hi:=hint-ng
 for _ in [0:n]do
  if lo>=hi then break
  let m:=lo+(hi-lo)/2
  let some more <- fI left key arr base m|return none
  if more then lo:=m+1 else hi:=m
 return some hi):=rfl
end
end Vs
namespace Vs
open PySem PyProof.Rows
section
variable {M:Model}{A:Around}{E:Value->Shared->Prop}{s:Shared}{ρ:Keyed->Nat}{kd:SortKind}{P:Keyed->Prop}{a₀:Array Keyed}
def XH(left:Bool)(key:Keyed)(arr:Array Keyed)(base n l h:Nat):StateT SortSt Sem (Option Nat):=do
 let mut lo:=l
 let mut hi:=h
 for _ in [0:n]do
  if lo>=hi then break
  let m:=lo+(hi-lo)/2
  let some more <- fI left key arr base m|return none
  if more then lo:=m+1 else hi:=m
 return some hi
def Tells(M:Model)(A:Around)(E:Value->Shared->Prop)(s:Shared)(left:Bool)(key:Keyed)(arr:Array Keyed)(base n:Nat)(st:SortSt)(p:Nat->Bool):Prop:=
 ∀i,i<n->∀Q:Option Bool->SortSt->Prop,Q (some (p i)) st->wpS M A E s (fI left key arr base i) Q st
theorem wG{left:Bool}{key:Keyed}{arr:Array Keyed}{base n l h:Nat}{st:SortSt}{p:Nat->Bool}{Q:Option Nat->SortSt->Prop}(hT:Tells M A E s left key arr base n st p)(hp:∀i j,i<=j->j<n->p j=true->p i=true)
  (hlh:l<=h) (hh:h<=n) (h1:∀i,i<l->p i=true) (h2:∀i,h<=i->i<n->p i=false)
  (q:∀k,k<=n->(∀i,i<k->p i=true)->(∀i,k<=i->i<n->p i=false)->Q (some k) st):wpS M A E s (XH left key arr base n l h) Q st:=by
 unfold XH;dsimp only;refine ab9 (wpS_mono (wpS_forRange (I:=λx c az=>az=st/\∃l h,c=(none,l,h)/\l<=h/\h<=n/\h-l<=n-x/\(∀i,i<l->p i=true)/\(∀i,h<=i->i<n->p i=false))
  (Q:=λc az=>az=st/\∃k,c=(none,k,k)/\k<=n/\(∀i,i<k->p i=true)/\(∀i,k<=i->i<n->p i=false)) ?step ?fin ⟨rfl,l,h,rfl,hlh,hh,by omega,h1,h2⟩) ?post)
 case post =>
  rintro c az ⟨rfl,k,rfl,hk,q1,q2⟩;exact acj (q k hk q1 q2)
 case fin =>
  rintro c az ⟨rfl,l,h,rfl,a1,a2,a3,a4,a5⟩;have:l=h:=by omega
  subst this;exact⟨rfl,l,rfl,a2,a4,a5⟩
 case step =>
  rintro x c az _ hx ⟨rfl,l,h,rfl,a1,a2,a3,a4,a5⟩;dsimp only
  by_cases wX:l>=h
  ·rw[if_pos wX]
   have:l=h:=by omega
   subst this;exact acj ⟨rfl,l,rfl,a2,a4,a5⟩
  ·rw[if_neg wX]
   refine ab9 (hT _ ⋯ _ ?_)
   cases hm:p (l+(h-l)/2)with
   | true =>
    simp only[if_true];exact acj ⟨rfl,_,_,rfl,by omega,a2,by omega,λi hi=>hp i _ ⋯ ⋯ hm,a5⟩
   | false =>
    simp only[acd,if_false];refine acj ⟨rfl,_,_,rfl,by omega,by omega,by omega,a4,λi hi hn=>?_⟩
    cases e:p i with
    | false=>rfl
    | true=>rw[hp _ i hi hn e]at hm;cases hm
theorem dF{left:Bool}{key:Keyed}{arr:Array Keyed}{base n hint:Nat}{st:SortSt}{p:Nat->Bool}{Q:Option Nat->SortSt->Prop}(hT:Tells M A E s left key arr base n st p)(hp:∀i j,i<=j->j<n->p j=true->p i=true)(hn:hint<n)
  (q:∀k,k<=n->(∀i,i<k->p i=true)->(∀i,k<=i->i<n->p i=false)->Q (some k) st):wpS M A E s (cD left key arr base n hint) Q st:=by
 rw[xD];dsimp only;refine ab9 (hT hint hn _ ?_);have pf:∀i j,i<=j->j<n->p i=false->p j=false:=λi j h1 h2 h3=>by
  cases e:p j with
  | false=>rfl
  | true=>rw[hp i j h1 h2 e]at h3;cases h3
 cases h0:p hint with
 | true =>
  dsimp only;rw[if_pos rfl];refine ab9 (wpS_mono (wpS_forRange (I:=λx c az=>az=st/\∃l o,c=(none,l,o)/\l<o/\x+1<=o/\hint+l<n/\p (hint+l)=true)
   (Q:=λc az=>az=st/\∃l o,c=(none,l,o)/\l<o/\hint+l<n/\p (hint+l)=true/\(n-hint<=o\/(hint+o<n/\p (hint+o)=false))) ?step ?fin ⟨rfl,0,1,rfl,by omega,by omega,hn,h0⟩) ?post)
  case fin =>
   rintro c az ⟨rfl,l,o,rfl,a1,a2,a3,a4⟩;exact⟨rfl,l,o,rfl,a1,a3,a4,.inl ⋯⟩
  case step =>
   rintro x c az _ hx ⟨rfl,l,o,rfl,a1,a2,a3,a4⟩;dsimp only
   by_cases wX:o>=n-hint
   ·rw[if_pos wX]
    exact acj ⟨rfl,l,o,rfl,a1,a3,a4,.inl wX⟩
   ·rw[if_neg wX]
    refine ab9 (hT _ ⋯ _ ?_)
    cases hm:p (hint+o)with
    | true =>
     simp only[Bool.not_true,acd,if_false];exact acj ⟨rfl,_,_,rfl,by omega,by omega,by omega,hm⟩
    | false =>
     simp only[Bool.not_false,if_true];exact acj ⟨rfl,_,_,rfl,a1,a3,a4,.inr ⟨by omega,hm⟩⟩
  case post =>
   rintro c az ⟨rfl,l,o,rfl,a1,a3,a4,a5⟩;refine wG (l:=hint+l+1) (h:=hint+min o (n-hint)) hT hp ⋯ ⋯ (λi hi=>hp i _ ⋯ a3 a4) (λi hi Ig=>?_) q
   rcases a5 with a5|⟨a5,a6⟩
   ·omega
   ·exact pf (hint+o) i ⋯ Ig a6
 | false =>
  dsimp only;rw[if_neg ∅]
  refine ab9 (wpS_mono (wpS_forRange (I:=λx c az=>az=st/\∃l o,c=(none,l,o)/\l<o/\x+1<=o/\l<=hint/\p (hint-l)=false)
   (Q:=λc az=>az=st/\∃l o,c=(none,l,o)/\l<o/\l<=hint/\p (hint-l)=false/\(hint+1<=o\/(o<=hint/\p (hint-o)=true))) ?step2 ?fin2 ⟨rfl,0,1,rfl,by omega,by omega,by omega,h0⟩) ?post2)
  case fin2 =>
   rintro c az ⟨rfl,l,o,rfl,a1,a2,a3,a4⟩;exact⟨rfl,l,o,rfl,a1,a3,a4,.inl ⋯⟩
  case step2 =>
   rintro x c az _ hx ⟨rfl,l,o,rfl,a1,a2,a3,a4⟩;dsimp only
   by_cases wX:o>=hint+1
   ·rw[if_pos wX]
    exact acj ⟨rfl,l,o,rfl,a1,a3,a4,.inl wX⟩
   ·rw[if_neg wX]
    refine ab9 (hT _ ⋯ _ ?_)
    cases hm:p (hint-o)with
    | true =>
     simp only[if_true];exact acj ⟨rfl,_,_,rfl,a1,a3,a4,.inr ⟨by omega,hm⟩⟩
    | false =>
     simp only[acd,if_false];exact acj ⟨rfl,_,_,rfl,by omega,by omega,by omega,hm⟩
  case post2 =>
   rintro c az ⟨rfl,l,o,rfl,a1,a3,a4,a5⟩;refine wG (l:=hint+1-min o (hint+1)) (h:=hint-l) hT hp ⋯ ⋯ (λi hi=>?_) (λi hi Ig=>pf (hint-l) i hi Ig a4) q
   rcases a5 with a5|⟨a5,a6⟩
   ·omega
   ·exact hp i (hint-o) ⋯ ⋯ a6
def pS(ρ:Keyed->Nat)(left:Bool)(key:Keyed)(arr:Array Keyed)(base i:Nat):Bool:=if left=true then decide (R ρ arr (base+i)<ρ key)else !decide (ρ key<R ρ arr (base+i))
theorem tells{left:Bool}{key:Keyed}{arr:Array Keyed}{base n:Nat}{st:SortSt}(hL:gA M A E s ρ kd P)(hk:kindOf st=kd)(pk:P key)(pa:∀i,i<n->∃x,arr[base+i]?=some x/\P x):Tells M A E s left key arr base n st (pS ρ left key arr base):=λi hi Q q=>by
 obtain⟨x,e,px⟩:=pa i hi;unfold fI;refine ab9 (a9 e ?_);unfold pS at q;rw[dk e]at q;cases left with
 | true =>
  simp only[if_true]at q ⊢;exact hL x key st Q px pk hk q
 | false =>
  simp only[acd,if_false]at q ⊢;exact ab9 (hL key x st _ pk px hk (acj q))
end
end Vs
namespace Vs
open PySem PyProof.Rows
def og:Array Keyed->Array Keyed->StateT SortSt Sem (Array Keyed):=sortPriv% PySem.Builtin.mergeLo
def n9:Array Keyed->Array Keyed->StateT SortSt Sem (Array Keyed):=sortPriv% PySem.Builtin.mergeHi
def eL:Nat->StateT SortSt Sem Unit:=sortPriv% PySem.Builtin.setMinGallop
theorem eo(g:Nat):eL g=modify (λst=>SortSt.mk' (kindOf st) (arrOf st) (aci st) g (failedOf st)):=rfl
def So(ρ:Keyed->Nat)(l:List Keyed):Prop:=l.Pairwise λx y=>ρ x<=ρ y
structure J(ρ:Keyed->Nat)(L O A B:List Keyed):Prop where
 o:So ρ O
 a:So ρ A
 b:So ρ B
 oa:∀x∈O,∀y∈A,ρ x<=ρ y
 ob:∀x∈O,∀y∈B,ρ x<=ρ y
 p:(O++(A++B)).Perm L
def Good(ρ:Keyed->Nat)(L r:List Keyed):Prop:=So ρ r/\r.Perm L
theorem So.app{ρ:Keyed->Nat}{A B:List Keyed}(h1:So ρ A)(h2:So ρ B)(h:∀x∈A,∀y∈B,ρ x<=ρ y):So ρ (A++B):=List.pairwise_append.mpr ⟨h1,h2,h⟩
section
variable {ρ:Keyed->Nat}{L O A B X:List Keyed}{x z:Keyed}
theorem J.jC(j:J ρ L O (X++A) B)(h:∀x∈X,∀y∈B,ρ x<=ρ y):J ρ L (O++X) A B:=by
 obtain⟨a1,a2,a3⟩:=List.pairwise_append.mp j.a;refine⟨j.o.app a1 λx hx y hy=>j.oa x hx y (List.mem_append_left _ hy),a2,j.b,λx hx y hy=>?_,λx hx y hy=>?_,?_⟩
 ·rcases List.mem_append.mp hx with hx|hx
  ·exact j.oa x hx y (List.mem_append_right _ hy)
  ·exact a3 x hx y hy
 ·rcases List.mem_append.mp hx with hx|hx
  ·exact j.ob x hx y hy
  ·exact h x hx y hy
 ·have:=j.p
  simpa [List.append_assoc]using this
theorem J.jD(j:J ρ L O A (X++B))(h:∀x∈X,∀y∈A,ρ x<=ρ y):J ρ L (O++X) A B:=by
 obtain⟨a1,a2,a3⟩:=List.pairwise_append.mp j.b;refine⟨j.o.app a1 λx hx y hy=>j.ob x hx y (List.mem_append_left _ hy),j.a,a2,λx hx y hy=>?_,λx hx y hy=>?_,?_⟩
 ·rcases List.mem_append.mp hx with hx|hx
  ·exact j.oa x hx y hy
  ·exact h x hx y hy
 ·rcases List.mem_append.mp hx with hx|hx
  ·exact j.ob x hx y (List.mem_append_right _ hy)
  ·exact a3 x hx y hy
 ·refine List.Perm.trans ?_ j.p
  rw[List.append_assoc];refine List.Perm.append_left O ?_;rw[<- List.append_assoc,<- List.append_assoc];exact List.Perm.append_right B List.perm_append_comm
theorem J.iQ(j:J ρ L O A []):Good ρ L (O++A):=⟨j.o.app j.a j.oa,by simpa using j.p⟩
theorem J.iP(j:J ρ L O [] B):Good ρ L (O++B):=⟨j.o.app j.b j.ob,by simpa using j.p⟩
theorem J.last(j:J ρ L O [z] B)(h:∀y∈B,ρ y<=ρ z):Good ρ L (O++B++[z]):=by
 refine⟨(j.o.app j.b j.ob).app (List.pairwise_singleton ..) λx hx y hy=>?_,?_⟩
 ·rw[ab5.mp hy]
  rcases List.mem_append.mp hx with hx|hx
  ·exact j.oa x hx z (ab5.mpr rfl)
  ·exact h x hx
 ·refine List.Perm.trans ?_ j.p
  rw[List.append_assoc];exact List.Perm.append_left O List.perm_append_comm
end
theorem kW{a:Array Keyed}{i:Nat}{x:Keyed}(h:a[i]?=some x):a.toList.drop i=x::a.toList.drop (i+1):=by
 have hi:i<a.toList.length:=by
  have:=(Array.getElem?_eq_some_iff.mp h).1;simpa using this
 rw[List.drop_eq_getElem_cons hi];have:a.toList[i]=x:=by
  have:=(Array.getElem?_eq_some_iff.mp h).2;simpa using this
 rw[this]
theorem mh(a:Array Keyed)(i:Nat):(a.extract i a.size).toList=a.toList.drop i:=by
 rw[Array.toList_extract];show(a.toList.drop i).take (a.size-i)=_;exact List.take_of_length_le (by rw[List.length_drop];exact ab3 _)
theorem ny(a:Array Keyed)(i k:Nat):(a.extract i (i+k)).toList=(a.toList.drop i).take k:=by
 rw[Array.toList_extract];show(a.toList.drop i).take (i+k-i)=_;rw[Nat.add_sub_cancel_left]
theorem wB(a:Array Keyed)(i k:Nat):a.toList.drop i=(a.toList.drop i).take k++a.toList.drop (i+k):=by
 rw[<- List.drop_drop,List.take_append_drop]
theorem o4{a:Array Keyed}{i:Nat}(h:i=a.size):a.toList.drop i=[]:=by
 subst h;exact List.drop_length
theorem mQ{a:Array Keyed}{i k:Nat}{x:Keyed}(h:x∈(a.toList.drop i).take k):∃m,m<k/\i+m<a.size/\a[i+m]?=some x:=by
 obtain⟨m,hm,e⟩:=List.mem_iff_getElem.mp h;rw[List.length_take,List.length_drop]at hm;rw[List.getElem_take,List.getElem_drop]at e;have hs:i+m<a.size:=by have:a.toList.length=a.size:=rfl;omega
 exact⟨m,by omega,hs,by rw[Array.getElem?_eq_getElem hs];exact congrArg some (by simpa using e)⟩
theorem GK{a:Array Keyed}{i:Nat}{x:Keyed}(h:x∈a.toList.drop i):∃m,i<=m/\m<a.size/\a[m]?=some x:=by
 obtain⟨m,hm,e⟩:=List.mem_iff_getElem.mp h;rw[List.length_drop]at hm;rw[List.getElem_drop]at e;have hs:i+m<a.size:=by have:a.toList.length=a.size:=rfl;omega
 exact⟨i+m,by omega,hs,by rw[Array.getElem?_eq_getElem hs];exact congrArg some (by simpa using e)⟩
theorem So.seg{ρ:Keyed->Nat}{a:Array Keyed}(h:So ρ a.toList):Seg ρ a 0 a.size:=λi j _ lu hj=>by
 by_cases e:i=j
 ·subst e;exact ab3 _
 ·have hi:i<a.size:=by omega
  rw[dk (Array.getElem?_eq_getElem hi),dk (Array.getElem?_eq_getElem hj)];have:=List.pairwise_iff_getElem.mp h i j (by simpa using hi) (by simpa using hj) ⋯
  simpa using this
structure Kp(st az:SortSt):Prop where
 a:arrOf az=arrOf st
 k:kindOf az=kindOf st
 p:aci az=aci st
 f:failedOf az=failedOf st
theorem Kp.refl{st:SortSt}:Kp st st:=⟨rfl,rfl,rfl,rfl⟩
theorem Kp.min{st az:SortSt}(h:Kp st az)(g:Nat):Kp st (SortSt.mk' (kindOf az) (arrOf az) (aci az) g (failedOf az)):=⟨h.a,h.k,h.p,h.f⟩
section
variable {M:Model}{A:Around}{E:Value->Shared->Prop}{s:Shared}{ρ:Keyed->Nat}{kd:SortKind}{P:Keyed->Prop}
theorem dt{a:Array Keyed}(pa:∀x∈a.toList,P x){i:Nat}(h:i<a.size):∃x,a[i]?=some x/\P x:=
 ⟨a[i],Array.getElem?_eq_getElem h,pa _ (by simp)⟩
theorem GU{key:Keyed}{arr:Array Keyed}{base:Nat}{st:SortSt}{Q:Option Nat->SortSt->Prop}(hL:gA M A E s ρ kd P)(hk:kindOf st=kd)(pk:P key)(pa:∀x∈arr.toList,P x)(hs:So ρ arr.toList)(hb:base<arr.size)
  (q:∀k,base+k<=arr.size->(∀x∈(arr.toList.drop base).take k,ρ x<=ρ key)->(∀x∈arr.toList.drop (base+k),ρ key<ρ x)->Q (some k) st):wpS M A E s (cD false key arr base (arr.size-base) 0) Q st:=by
 refine dF (tells hL hk pk λi hi=>dt pa ⋯) (λi j lu hj h=>?_) ⋯ λk rW h1 h2=>q k ⋯ (λx hx=>?_) λx hx=>?_
 ·have:=hs.seg (base+i) (base+j) (Nat.zero_le _) ⋯ ⋯
  simp only[pS,acd,if_false,Bool.not_eq_true',decide_eq_false_iff_not]at h ⊢;omega
 ·obtain⟨m,hm,lx,e⟩:=mQ hx
  have:=h1 m hm;simp only[pS,acd,if_false,Bool.not_eq_true',decide_eq_false_iff_not,dk e]at this;omega
 ·obtain⟨m,hm,lx,e⟩:=GK hx
  have:=h2 (m-base) ⋯ ⋯
  rw[show base+k=base+k from rfl]at hm
  simp only[pS,acd,if_false,show base+(m-base)=m by omega,dk e,Bool.not_eq_false',decide_eq_true_eq]at this
  exact this
theorem GR{key:Keyed}{arr:Array Keyed}{base:Nat}{st:SortSt}{Q:Option Nat->SortSt->Prop}(hL:gA M A E s ρ kd P)(hk:kindOf st=kd)(pk:P key)(pa:∀x∈arr.toList,P x)(hs:So ρ arr.toList)(hb:base<arr.size)
  (q:∀k,base+k<=arr.size->(∀x∈(arr.toList.drop base).take k,ρ x<ρ key)->(∀x∈arr.toList.drop (base+k),ρ key<=ρ x)->Q (some k) st):wpS M A E s (cD true key arr base (arr.size-base) 0) Q st:=by
 refine dF (tells hL hk pk λi hi=>dt pa ⋯) (λi j lu hj h=>?_) ⋯ λk rW h1 h2=>q k ⋯ (λx hx=>?_) λx hx=>?_
 ·have:=hs.seg (base+i) (base+j) (Nat.zero_le _) ⋯ ⋯
  simp only[pS,if_true,decide_eq_true_eq]at h ⊢;omega
 ·obtain⟨m,hm,lx,e⟩:=mQ hx
  have:=h1 m hm;simp only[pS,if_true,decide_eq_true_eq,dk e]at this;omega
 ·obtain⟨m,hm,lx,e⟩:=GK hx
  have:=h2 (m-base) ⋯ ⋯
  simp only[pS,if_true,show base+(m-base)=m by omega,dk e,decide_eq_false_iff_not]at this
  omega
end
end Vs
namespace Vs
open PySem PyProof.Rows
section
variable {M:Model}{Ar:Around}{E:Value->Shared->Prop}{s:Shared}{ρ:Keyed->Nat}{kd:SortKind}{P:Keyed->Prop}{a b out:Array Keyed}{L:List Keyed}{ia ib:Nat}
abbrev GS:=Option (Array Keyed)×Array Keyed×Nat×Nat×Nat×Nat×Nat
def Ie(a b out:Array Keyed)(ia ib g k k1:Nat):StateT SortSt Sem (ForInStep GS):=do
 let y <- elem' a ia
 if(ia+1+1==a.size)=true then pure (ace (some (out.push y++b.extract ib b.size++a.extract (ia+1) a.size),out.push y,ia+1,ib,g,k,k1))
 else if(decide (k<7)&&decide (k1<7))=true then pure (ace (none,out.push y,ia+1,ib,g,k,k1))
 else pure (ForInStep.yield (none,out.push y,ia+1,ib,g,k,k1))
def Ic(a b out:Array Keyed)(ia ib g k bc:Nat):StateT SortSt Sem (ForInStep GS):=do
 let x <- elem' b ib
 if(ib+1==b.size)=true then pure (ace (some (out.push x++a.extract ia a.size++b.extract (ib+1) b.size),out.push x,ia,ib+1,g,k,bc))
 else do
  let y <- elem' a ia
  let r <- cD true y b (ib+1) (b.size-(ib+1)) 0
  match r with
  | some k1 =>
   if k1>0 then
    if(ib+1+k1==b.size)=true then pure (ace (some (out.push x++b.extract (ib+1) (ib+1+k1)++a.extract ia a.size++b.extract (ib+1+k1) b.size),out.push x++b.extract (ib+1) (ib+1+k1),ia,ib+1+k1,g,k,k1))
    else Ie a b (out.push x++b.extract (ib+1) (ib+1+k1)) ia (ib+1+k1) g k k1
   else Ie a b (out.push x) ia (ib+1) g k k1
  | _=>pure (ace (some (out.push x++a.extract ia a.size++b.extract (ib+1) b.size),out.push x,ia,ib+1,g,k,bc))
def Ib(a b out:Array Keyed)(ia ib g ac bc:Nat):StateT SortSt Sem (ForInStep GS):=do
 let x <- elem' b ib
 let r <- cD false x a ia (a.size-ia) 0
 match r with
 | some k =>
  if k>0 then
   if(ia+k+1==a.size)=true then pure (ace (some (out++a.extract ia (ia+k)++b.extract ib b.size++a.extract (ia+k) a.size),out++a.extract ia (ia+k),ia+k,ib,g,k,bc))
   else if(ia+k==a.size)=true then pure (ace (some (out++a.extract ia (ia+k)++a.extract (ia+k) a.size++b.extract ib b.size),out++a.extract ia (ia+k),ia+k,ib,g,k,bc))
   else Ic a b (out++a.extract ia (ia+k)) (ia+k) ib g k bc
  else Ic a b out ia ib g k bc
 | _=>pure (ace (some (out++a.extract ia a.size++b.extract ib b.size),out,ia,ib,g,ac,bc))
def V(ρ:Keyed->Nat)(L:List Keyed)(a b out:Array Keyed)(ia ib:Nat):Prop:=J ρ L out.toList (a.toList.drop ia) (b.toList.drop ib)
theorem V.zm(j:V ρ L a b out ia ib)(e:ia+1=a.size)(hz:∀y∈b.toList,∀z,a[a.size-1]?=some z->ρ y<=ρ z):Good ρ L (out++b.extract ib b.size++a.extract ia a.size).toList:=by
 have ha:ia<a.size:=by omega
 have e1:a.toList.drop ia=[a[ia]]:=by rw[kW (Array.getElem?_eq_getElem ha),o4 e]
 have j':J ρ L out.toList (a.toList.drop ia) (b.toList.drop ib):=j;rw[e1]at j';rw[Array.toList_append,Array.toList_append,mh,mh,e1];refine j'.last λy hy=>hz y (List.mem_of_mem_drop hy) _ ?_;rw[show a.size-1=ia by omega];exact Array.getElem?_eq_getElem ha
theorem V.iQ(j:V ρ L a b out ia ib)(e:ib=b.size):Good ρ L (out++a.extract ia a.size++b.extract ib b.size).toList:=by
 have j':J ρ L out.toList (a.toList.drop ia) (b.toList.drop ib):=j;rw[o4 e]at j';rw[Array.toList_append,Array.toList_append,mh,mh,o4 e,List.append_nil];exact j'.iQ
theorem V.iP(j:V ρ L a b out ia ib)(e:ia=a.size):Good ρ L (out++a.extract ia a.size++b.extract ib b.size).toList:=by
 have j':J ρ L out.toList (a.toList.drop ia) (b.toList.drop ib):=j;rw[o4 e]at j';rw[Array.toList_append,Array.toList_append,mh,mh,o4 e,List.append_nil];exact j'.iP
theorem V.qC{x:Keyed}(j:V ρ L a b out ia ib)(e:a[ia]?=some x)(h:∀y∈b.toList.drop ib,ρ x<=ρ y):V ρ L a b (out.push x) (ia+1) ib:=by
 have j':J ρ L out.toList (a.toList.drop ia) (b.toList.drop ib):=j;rw[kW e]at j';show J ρ L (out.push x).toList _ _;rw[Array.toList_push];exact J.jC (X:=[x]) j' λz hz y hy=>by rw[ab5.mp hz];exact h y hy
theorem V.qD{x:Keyed}(j:V ρ L a b out ia ib)(e:b[ib]?=some x)(h:∀y∈a.toList.drop ia,ρ x<=ρ y):V ρ L a b (out.push x) ia (ib+1):=by
 have j':J ρ L out.toList (a.toList.drop ia) (b.toList.drop ib):=j;rw[kW e]at j';show J ρ L (out.push x).toList _ _;rw[Array.toList_push];exact J.jD (X:=[x]) j' λz hz y hy=>by rw[ab5.mp hz];exact h y hy
theorem V.jC{k:Nat}(j:V ρ L a b out ia ib)(h:∀x∈(a.toList.drop ia).take k,∀y∈b.toList.drop ib,ρ x<=ρ y):V ρ L a b (out++a.extract ia (ia+k)) (ia+k) ib:=by
 have j':J ρ L out.toList (a.toList.drop ia) (b.toList.drop ib):=j;rw[wB a ia k]at j';show J ρ L (out++a.extract ia (ia+k)).toList _ _;rw[Array.toList_append,ny];exact J.jC j' h
theorem V.jD{k:Nat}(j:V ρ L a b out ia ib)(h:∀x∈(b.toList.drop ib).take k,∀y∈a.toList.drop ia,ρ x<=ρ y):V ρ L a b (out++b.extract ib (ib+k)) ia (ib+k):=by
 have j':J ρ L out.toList (a.toList.drop ia) (b.toList.drop ib):=j;rw[wB b ib k]at j';show J ρ L (out++b.extract ib (ib+k)).toList _ _;rw[Array.toList_append,ny];exact J.jD j' h
theorem V.Lj{x:Keyed}(j:V ρ L a b out ia ib)(e:a[ia]?=some x):∀y∈a.toList.drop ia,ρ x<=ρ y:=λy hy=>by
 have:=j.a;rw[kW e]at this hy;rcases ab6.mp hy with rfl|hy
 ·exact ab3 _
 ·exact(List.pairwise_cons.mp this).1 y hy
theorem V.Lk{x:Keyed}(j:V ρ L a b out ia ib)(e:b[ib]?=some x):∀y∈b.toList.drop ib,ρ x<=ρ y:=λy hy=>by
 have:=j.b;rw[kW e]at this hy;rcases ab6.mp hy with rfl|hy
 ·exact ab3 _
 ·exact(List.pairwise_cons.mp this).1 y hy
def Left(ρ:Keyed->Nat)(L:List Keyed)(a b:Array Keyed)(t:Nat)(out:Array Keyed)(ia ib:Nat):Prop:=V ρ L a b out ia ib/\ia+1<a.size/\ib<b.size/\t<=ia+ib
def PG(ρ:Keyed->Nat)(L:List Keyed)(a b:Array Keyed)(t:Nat)(cu:SortSt)(r:ForInStep GS)(st:SortSt):Prop:=Kp cu st/\match r with
 | .done c=>(∃arr,c.1=some arr/\Good ρ L arr.toList)\/(c.1=none/\Left ρ L a b t c.2.1 c.2.2.1 c.2.2.2.1)
 | .yield c=>c.1=none/\Left ρ L a b t c.2.1 c.2.2.1 c.2.2.2.1
structure wW(ρ:Keyed->Nat)(P:Keyed->Prop)(a b:Array Keyed):Prop where
 pa:∀x∈a.toList,P x
 pb:∀x∈b.toList,P x
 sa:So ρ a.toList
 sb:So ρ b.toList
 a1:1<=a.size
 b1:1<=b.size
 z:∀y∈b.toList,∀z,a[a.size-1]?=some z->ρ y<=ρ z
 y:∀y∈a.toList,∀z,b[0]?=some z->ρ z<=ρ y
theorem wL{st cu:SortSt}{g k k1 t:Nat}(T:wW ρ P a b)(hK:Kp cu st)(j:V ρ L a b out ia ib)(h1:ia+1<a.size)(h2:ib<b.size)(ht:t<=ia+ib)
  (h:∀x,a[ia]?=some x->∀y∈b.toList.drop ib,ρ x<=ρ y):wpS M Ar E s (Ie a b out ia ib g k k1) (PG ρ L a b t cu) st:=by
 unfold Ie;obtain⟨y,ey,py⟩:=dt T.pa (show ia<a.size by omega)
 refine ab9 (a9 ey ?_);have j':=j.qC ey (h y ey)
 by_cases e:ia+1+1=a.size
 ·rw[if_pos (by simpa using e)]
  exact acj ⟨hK,.inl ⟨_,rfl,j'.zm e T.z⟩⟩
 ·rw[if_neg (by simpa using e)]
  split
  ·exact acj ⟨hK,.inr ⟨rfl,j',by show ia+1+1<a.size;omega,h2,by show t<=ia+1+ib;omega⟩⟩
  ·exact acj ⟨hK,rfl,j',by show ia+1+1<a.size;omega,h2,by show t<=ia+1+ib;omega⟩
theorem wK{st cu:SortSt}{g k bc t:Nat}(hL:gA M Ar E s ρ kd P)(hk:kindOf cu=kd)(T:wW ρ P a b)(hK:Kp cu st)(j:V ρ L a b out ia ib)(h1:ia+1<a.size)(h2:ib<b.size)(ht:t<=ia+ib)
  (h:∀x,b[ib]?=some x->∀y∈a.toList.drop ia,ρ x<=ρ y):wpS M Ar E s (Ic a b out ia ib g k bc) (PG ρ L a b t cu) st:=by
 unfold Ic;obtain⟨x,ex,px⟩:=dt T.pb h2;obtain⟨y,ey,py⟩:=dt T.pa (show ia<a.size by omega)
 refine ab9 (a9 ex ?_);have j':=j.qD ex (h x ex)
 by_cases e:ib+1=b.size
 ·rw[if_pos (by simpa using e)]
  exact acj ⟨hK,.inl ⟨_,rfl,j'.iQ e⟩⟩
 ·rw[if_neg (by simpa using e)]
  refine ab9 (a9 ey ?_);refine ab9 (GR hL (hK.k.trans hk) py T.pb T.sb ⋯ λk1 rW q1 q2=>?_)
  dsimp only;have j2:=j'.jD (k:=k1) λx hx z hz=>Nat.le_trans (Nat.le_of_lt (q1 x hx)) (j'.Lj ey z hz)
  by_cases wY:k1>0
  ·rw[if_pos wY]
   by_cases e2:ib+1+k1=b.size
   ·rw[if_pos (by simpa using e2)]
    exact acj ⟨hK,.inl ⟨_,rfl,j2.iQ e2⟩⟩
   ·rw[if_neg (by simpa using e2)]
    exact wL T hK j2 h1 ⋯ ⋯ λx' mD z hz=>by rw[ey]at mD;cases mD;exact q2 z hz
  ·rw[if_neg wY]
   have:k1=0:=by omega
   subst this;exact wL T hK j' h1 ⋯ ⋯ λx' mD z hz=>by rw[ey]at mD;cases mD;exact q2 z hz
theorem wJ{st cu:SortSt}{g ac bc t:Nat}(hL:gA M Ar E s ρ kd P)(hk:kindOf cu=kd)(T:wW ρ P a b)(hK:Kp cu st)(j:Left ρ L a b t out ia ib):wpS M Ar E s (Ib a b out ia ib g ac bc) (PG ρ L a b t cu) st:=by
 obtain⟨j,h1,h2,ht⟩:=j;unfold Ib;obtain⟨x,ex,px⟩:=dt T.pb h2;refine ab9 (a9 ex ?_);refine ab9 (GU hL (hK.k.trans hk) px T.pa T.sa ⋯ λk rW q1 q2=>?_)
 dsimp only;have j2:=j.jC (k:=k) λz hz y hy=>Nat.le_trans (q1 z hz) (j.Lk ex y hy)
 by_cases wY:k>0
 ·rw[if_pos wY]
  by_cases e:ia+k+1=a.size
  ·rw[if_pos (by simpa using e)]
   exact acj ⟨hK,.inl ⟨_,rfl,j2.zm e T.z⟩⟩
  ·rw[if_neg (by simpa using e)]
   by_cases e2:ia+k=a.size
   ·rw[if_pos (by simpa using e2)]
    exact acj ⟨hK,.inl ⟨_,rfl,j2.iP e2⟩⟩
   ·rw[if_neg (by simpa using e2)]
    exact wK hL hk T hK j2 ⋯ h2 ⋯ λx' mD z hz=>by rw[ex]at mD;cases mD;exact Nat.le_of_lt (q2 z hz)
 ·rw[if_neg wY]
  have:k=0:=by omega
  subst this;exact wK hL hk T hK j h1 h2 ht λx' mD z hz=>by rw[ex]at mD;cases mD;exact Nat.le_of_lt (q2 z hz)
abbrev IS:=Option (Array Keyed)×Array Keyed×Nat×Nat×Nat×Nat
abbrev OS:=Option (Array Keyed)×Array Keyed×Nat×Nat×Nat
def loI(a b:Array Keyed)(g:Nat)(c:IS):StateT SortSt Sem (ForInStep IS):=do
 let x <- elem' b c.2.2.2.1
 let y <- elem' a c.2.2.1
 let r <- lt' x y
 match r with
 | some w =>
  if w=true then do
   let x <- elem' b c.2.2.2.1
   if(c.2.2.2.1+1==b.size)=true then pure (ace (some (c.2.1.push x++a.extract c.2.2.1 a.size++b.extract (c.2.2.2.1+1) b.size),c.2.1.push x,c.2.2.1,c.2.2.2.1+1,0,c.2.2.2.2.2+1))
   else if c.2.2.2.2.2+1>=g then pure (ace (none,c.2.1.push x,c.2.2.1,c.2.2.2.1+1,0,c.2.2.2.2.2+1))
   else pure (ForInStep.yield (none,c.2.1.push x,c.2.2.1,c.2.2.2.1+1,0,c.2.2.2.2.2+1))
  else do
   let y <- elem' a c.2.2.1
   if(c.2.2.1+1+1==a.size)=true then pure (ace (some (c.2.1.push y++b.extract c.2.2.2.1 b.size++a.extract (c.2.2.1+1) a.size),c.2.1.push y,c.2.2.1+1,c.2.2.2.1,c.2.2.2.2.1+1,0))
   else if c.2.2.2.2.1+1>=g then pure (ace (none,c.2.1.push y,c.2.2.1+1,c.2.2.2.1,c.2.2.2.2.1+1,0))
   else pure (ForInStep.yield (none,c.2.1.push y,c.2.2.1+1,c.2.2.2.1,c.2.2.2.2.1+1,0))
 | _=>pure (ace (some (c.2.1++a.extract c.2.2.1 a.size++b.extract c.2.2.2.1 b.size),c.2.1,c.2.2.1,c.2.2.2.1,c.2.2.2.2.1,c.2.2.2.2.2))
def loG(a b:Array Keyed)(c:GS):StateT SortSt Sem (ForInStep GS):=
 if c.2.2.2.2.1>1 then do
  eL (c.2.2.2.2.1-1)
  Ib a b c.2.1 c.2.2.1 c.2.2.2.1 (c.2.2.2.2.1-1) c.2.2.2.2.2.1 c.2.2.2.2.2.2
 else do
  eL c.2.2.2.2.1
  Ib a b c.2.1 c.2.2.1 c.2.2.2.1 c.2.2.2.2.1 c.2.2.2.2.2.1 c.2.2.2.2.2.2
def loE(r:GS):StateT SortSt Sem (ForInStep OS):=
 match r.1 with
 | some arr=>pure (ace (some arr,r.2.1,r.2.2.1,r.2.2.2.1,r.2.2.2.2.1))
 | none=>do
  eL (r.2.2.2.2.1+1)
  pure (ForInStep.yield (none,r.2.1,r.2.2.1,r.2.2.2.1,r.2.2.2.2.1+1))
def loN(a b:Array Keyed)(g:Nat)(r:IS):StateT SortSt Sem (ForInStep OS):=
 match r.1 with
 | some arr=>pure (ace (some arr,r.2.1,r.2.2.1,r.2.2.2.1,g))
 | none=>do
  liftM (rule "list.sort.gallop")
  let r2 <- forIn [0:a.size+b.size] ((none,r.2.1,r.2.2.1,r.2.2.2.1,g+1,r.2.2.2.2.1,r.2.2.2.2.2):GS) λ_ t=>loG a b t
  loE r2
def loO(a b:Array Keyed)(c:OS):StateT SortSt Sem (ForInStep OS):=do
 let r <- forIn [0:a.size+b.size] ((none,c.2.1,c.2.2.1,c.2.2.2.1,0,0):IS) λ_ r=>loI a b c.2.2.2.2 r
 loN a b c.2.2.2.2 r
def loZ(r:OS):StateT SortSt Sem (Array Keyed):=
 match r.1 with
 | some arr=>pure arr
 | none=>unsupported "internal:list.sort.merge-bound"
theorem se(a b:Array Keyed):og a b=(do
 liftM (rule "list.sort.merge-lo")
 let x <- elem' b 0
 if(1==b.size)=true then pure (#[x]++a.extract 0 a.size++b.extract 1 b.size)
 else if(0+1==a.size)=true then pure (#[x]++b.extract 1 b.size++a.extract 0 a.size)
 else do
  let st <- get
  let r <- forIn [0:a.size+b.size] ((none,#[x],0,1,gallopOf st):OS) λ_ r=>loO a b r
  loZ r):=by kernel_rfl
theorem Ki{cu st:SortSt}{g n m:Nat}{c:IS}(hL:gA M Ar E s ρ kd P)(hk:kindOf cu=kd)(T:wW ρ P a b)(hK:Kp cu st)(j:Left ρ L a b (n+1+min m 1) c.2.1 c.2.2.1 c.2.2.2.1):
  wpS M Ar E s (loI a b g c) (λr az=>Kp cu az/\match r with
   | .done c=>(∃arr,c.1=some arr/\Good ρ L arr.toList)\/(c.1=none/\Left ρ L a b (n+1+1) c.2.1 c.2.2.1 c.2.2.2.1)
   | .yield c=>c.1=none/\Left ρ L a b (n+1+min (m+1) 1) c.2.1 c.2.2.1 c.2.2.2.1) st:=by
 obtain⟨ret,out,ia,ib,ac,bc⟩:=c;obtain⟨j,l1,l2,l3⟩:=j;dsimp only at j l1 l2 l3;unfold loI;dsimp only;obtain⟨x,ex,px⟩:=dt T.pb l2;obtain⟨y,ey,py⟩:=dt T.pa (show ia<a.size by omega)
 refine ab9 (a9 ex (ab9 (a9 ey (ab9 (hL x y st _ px py (hK.k.trans hk) ?_)))))
 by_cases iR:ρ x<ρ y
 ·rw[decide_eq_true iR]
  refine ab9 (a9 ex ?_);have j':=j.qD ex λz hz=>Nat.le_trans (Nat.le_of_lt iR) (j.Lj ey z hz)
  by_cases e:ib+1=b.size
  ·rw[if_pos (by simpa using e)]
   exact acj ⟨hK,.inl ⟨_,rfl,j'.iQ e⟩⟩
  ·rw[if_neg (by simpa using e)]
   split
   ·exact acj ⟨hK,.inr ⟨rfl,j',by show ia+1<a.size;omega,by show ib+1<b.size;omega,by show n+1+1<=ia+(ib+1);omega⟩⟩
   ·exact acj ⟨hK,rfl,j',by show ia+1<a.size;omega,by show ib+1<b.size;omega,by show n+1+min (m+1) 1<=ia+(ib+1);omega⟩
 ·rw[decide_eq_false iR]
  refine ab9 (a9 ey ?_);have j':=j.qC ey λz hz=>Nat.le_trans (Nat.not_lt.mp iR) (j.Lk ex z hz)
  by_cases e:ia+1+1=a.size
  ·rw[if_pos (by simpa using e)]
   exact acj ⟨hK,.inl ⟨_,rfl,j'.zm e T.z⟩⟩
  ·rw[if_neg (by simpa using e)]
   split
   ·exact acj ⟨hK,.inr ⟨rfl,j',by show ia+1+1<a.size;omega,by show ib<b.size;omega,by show n+1+1<=ia+1+ib;omega⟩⟩
   ·exact acj ⟨hK,rfl,j',by show ia+1+1<a.size;omega,by show ib<b.size;omega,by show n+1+min (m+1) 1<=ia+1+ib;omega⟩
theorem Kh{cu st:SortSt}{t:Nat}{c:GS}(hL:gA M Ar E s ρ kd P)(hk:kindOf cu=kd)(T:wW ρ P a b)(hK:Kp cu st)(j:Left ρ L a b t c.2.1 c.2.2.1 c.2.2.2.1):wpS M Ar E s (loG a b c) (PG ρ L a b t cu) st:=by
 unfold loG
 split
 ·rw[eo]
  exact ab9 (wpS_modify (wJ hL hk T (hK.min _) j))
 ·rw[eo]
  exact ab9 (wpS_modify (wJ hL hk T (hK.min _) j))
def PO(ρ:Keyed->Nat)(L:List Keyed)(a b:Array Keyed)(t:Nat)(cu:SortSt)(r:ForInStep OS)(st:SortSt):Prop:=match r with
 | .done c=>Kp cu st/\∃arr,c.1=some arr/\Good ρ L arr.toList
 | .yield c=>Kp cu st/\c.1=none/\Left ρ L a b t c.2.1 c.2.2.1 c.2.2.2.1
theorem Kj{cu st:SortSt}{g n:Nat}{r:IS}(hL:gA M Ar E s ρ kd P)(hk:kindOf cu=kd)(T:wW ρ P a b)(hK:Kp cu st)
  (h:(∃arr,r.1=some arr/\Good ρ L arr.toList)\/(r.1=none/\Left ρ L a b (n+1+1) r.2.1 r.2.2.1 r.2.2.2.1)):wpS M Ar E s (loN a b g r) (PO ρ L a b (n+1+1) cu) st:=by
 obtain⟨ret,r⟩:=r;unfold loN;rcases h with⟨arr,h1,h2⟩|⟨h1,hl⟩
 ·dsimp only at h1
  subst h1;exact acj ⟨hK,arr,rfl,h2⟩
 ·dsimp only at h1 hl
  subst h1;refine ab9 (wpS_lift (wpAny_rule ⟨rfl,?_⟩));refine ab9 (wpS_mono (wpS_forRange (I:=λx c az=>Kp cu az/\c.1=none/\Left ρ L a b (n+1+1) c.2.1 c.2.2.1 c.2.2.2.1)
   (Q:=λc az=>Kp cu az/\((∃arr,c.1=some arr/\Good ρ L arr.toList)\/(c.1=none/\Left ρ L a b (n+1+1) c.2.1 c.2.2.1 c.2.2.2.1))) ?gstep ?gfin ⟨hK,rfl,hl⟩) ?gpost)
  case gfin =>
   rintro c az ⟨hK,h1,hl⟩;exact⟨hK,.inr ⟨h1,hl⟩⟩
  case gstep =>
   rintro m c az _ hm ⟨hK,h1,hl⟩;refine wpS_mono (Kh hL hk T hK hl) λr dq hr=>?_;obtain⟨k1,k2⟩:=hr;cases r with
   | done c=>exact⟨k1,k2⟩
   | yield c=>exact⟨k1,k2⟩
  case gpost =>
   rintro⟨ret,r⟩ az ⟨hK,⟨arr,h1,h2⟩|⟨h1,hl⟩⟩
   ·dsimp only at h1
    subst h1;exact acj ⟨hK,arr,rfl,h2⟩
   ·dsimp only at h1 hl
    subst h1;unfold loE;rw[eo];exact ab9 (wpS_modify (acj ⟨hK.min _,rfl,hl⟩))
theorem Kk{cu st:SortSt}{n:Nat}{c:OS}(hL:gA M Ar E s ρ kd P)(hk:kindOf cu=kd)(T:wW ρ P a b)(hn:0<a.size+b.size)(hK:Kp cu st)(hl:Left ρ L a b (n+1) c.2.1 c.2.2.1 c.2.2.2.1):wpS M Ar E s (loO a b c) (PO ρ L a b (n+1+1) cu) st:=by
 unfold loO;refine ab9 (wpS_mono (wpS_forRange (I:=λx c az=>Kp cu az/\c.1=none/\Left ρ L a b (n+1+min x 1) c.2.1 c.2.2.1 c.2.2.2.1)
  (Q:=λc az=>Kp cu az/\((∃arr,c.1=some arr/\Good ρ L arr.toList)\/(c.1=none/\Left ρ L a b (n+1+1) c.2.1 c.2.2.1 c.2.2.2.1))) ?istep ?ifin ⟨hK,rfl,by simpa using hl⟩) ?ipost)
 case ifin =>
  rintro c az ⟨hK,h1,hl⟩;rw[show min (max 0 (a.size+b.size)) 1=1 by omega]at hl
  exact⟨hK,.inr ⟨h1,hl⟩⟩
 case istep =>
  rintro m c az _ hm ⟨hK,h1,hl⟩;refine wpS_mono (Ki hL hk T hK hl) λr dq hr=>?_;obtain⟨k1,k2⟩:=hr;cases r with
  | done c=>exact⟨k1,k2⟩
  | yield c=>exact⟨k1,k2⟩
 case ipost =>
  rintro r az ⟨hK,h⟩;exact Kj hL hk T hK h
theorem wN{st:SortSt}{Q:Array Keyed->SortSt->Prop}(hL:gA M Ar E s ρ kd P)(hk:kindOf st=kd)(T:wW ρ P a b)
  (q:∀r az,Kp st az->Good ρ (a.toList++b.toList) r.toList->Q r az):wpS M Ar E s (og a b) Q st:=by
 rw[se];refine ab9 (wpS_lift (wpAny_rule ⟨rfl,?_⟩));obtain⟨x,ex,px⟩:=dt T.pb (show 0<b.size from T.b1)
 refine ab9 (a9 ex ?_);have j0:V ρ (a.toList++b.toList) a b #[] 0 0:=⟨List.Pairwise.nil,by simpa using T.sa,by simpa using T.sb,(λx hx=>by cases hx),(λx hx=>by cases hx),by simp⟩
 have j1:V ρ (a.toList++b.toList) a b #[x] 0 1:=by simpa using j0.qD ex λy hy=>T.y y (by simpa using hy) x ex
 by_cases e:1=b.size
 ·rw[if_pos (by simpa using e)]
  exact acj (q _ st .refl (j1.iQ e))
 ·rw[if_neg (by simpa using e)]
  by_cases e2:0+1=a.size
  ·rw[if_pos (by simpa using e2)]
   exact acj (q _ st .refl (j1.zm e2 T.z))
  ·rw[if_neg (by simpa using e2)]
   have b1:=T.b1;have a1:=T.a1;refine ab9 (wpS_get ?_);refine ab9 (wpS_mono (wpS_forRange (I:=λx c az=>Kp st az/\c.1=none/\Left ρ (a.toList++b.toList) a b (x+1) c.2.1 c.2.2.1 c.2.2.2.1)
    (Q:=λc az=>Kp st az/\∃arr,c.1=some arr/\Good ρ (a.toList++b.toList) arr.toList) ?step ?fin ⟨.refl,rfl,j1,by show 0+1<a.size;omega,by show 1<b.size;omega,by show 0+1<=0+1;omega⟩) ?post)
   case fin =>
    rintro⟨ret,out,ia,ib,g⟩ az ⟨hK,h1,j,h2,h3,h4⟩;dsimp only at h2 h3 h4;omega
   case post =>
    rintro⟨ret,r⟩ az ⟨hK,arr,h1,h2⟩;dsimp only at h1;subst h1;exact acj (q arr az hK h2)
   case step =>
    rintro n c az _ hn ⟨hK,h1,hl⟩;refine wpS_mono (Kk hL hk T ⋯ hK hl) λr dq hr=>?_
    cases r with
    | done c=>exact hr
    | yield c=>exact hr
end
end Vs
namespace Vs
open PySem PyProof.Rows
structure H(ρ:Keyed->Nat)(L O A B:List Keyed):Prop where
 o:So ρ O
 a:So ρ A
 b:So ρ B
 oa:∀x∈A,∀y∈O,ρ x<=ρ y
 ob:∀x∈B,∀y∈O,ρ x<=ρ y
 p:(A++(B++O)).Perm L
section
variable {ρ:Keyed->Nat}{L O A B X:List Keyed}{x z:Keyed}
theorem H.jD(j:H ρ L O A (B++X))(h:∀x∈X,∀y∈A,ρ y<=ρ x):H ρ L (X++O) A B:=by
 obtain⟨a1,a2,a3⟩:=List.pairwise_append.mp j.b;refine⟨So.app a2 j.o λx hx y hy=>j.ob x (List.mem_append_right _ hx) y hy,j.a,a1,λx hx y hy=>?_,λx hx y hy=>?_,?_⟩
 ·rcases List.mem_append.mp hy with hy|hy
  ·exact h y hy x hx
  ·exact j.oa x hx y hy
 ·rcases List.mem_append.mp hy with hy|hy
  ·exact a3 x hx y hy
  ·exact j.ob x (List.mem_append_left _ hx) y hy
 ·have:=j.p
  simpa [List.append_assoc]using this
theorem H.jC(j:H ρ L O (A++X) B)(h:∀x∈X,∀y∈B,ρ y<=ρ x):H ρ L (X++O) A B:=by
 obtain⟨a1,a2,a3⟩:=List.pairwise_append.mp j.a;refine⟨So.app a2 j.o λx hx y hy=>j.oa x (List.mem_append_right _ hx) y hy,a1,j.b,λx hx y hy=>?_,λx hx y hy=>?_,?_⟩
 ·rcases List.mem_append.mp hy with hy|hy
  ·exact a3 x hx y hy
  ·exact j.oa x (List.mem_append_left _ hx) y hy
 ·rcases List.mem_append.mp hy with hy|hy
  ·exact h y hy x hx
  ·exact j.ob x hx y hy
 ·refine List.Perm.trans ?_ j.p
  rw[List.append_assoc];refine List.Perm.append_left A ?_;rw[<- List.append_assoc,<- List.append_assoc];exact List.Perm.append_right O List.perm_append_comm
theorem H.iQ(j:H ρ L O A []):Good ρ L (A++O):=⟨So.app j.a j.o j.oa,by simpa using j.p⟩
theorem H.iP(j:H ρ L O [] B):Good ρ L (B++O):=⟨So.app j.b j.o j.ob,by simpa using j.p⟩
theorem H.first(j:H ρ L O A [z])(h:∀y∈A,ρ z<=ρ y):Good ρ L ([z]++A++O):=by
 refine⟨So.app (So.app (List.pairwise_singleton ..) j.a λx hx y hy=>by rw[ab5.mp hx];exact h y hy) j.o λx hx y hy=>?_,?_⟩
 ·rcases List.mem_append.mp hx with hx|hx
  ·exact j.ob x hx y hy
  ·exact j.oa x hx y hy
 ·refine List.Perm.trans ?_ j.p
  rw[<- List.append_assoc];exact List.Perm.append_right O List.perm_append_comm
end
theorem kU{a:Array Keyed}{n:Nat}{x:Keyed}(h1:1<=n)(h:a[n-1]?=some x):a.toList.take n=a.toList.take (n-1)++[x]:=by
 obtain⟨m,rfl⟩:∃m,n=m+1:=⟨n-1,by omega⟩
 rw[Nat.add_sub_cancel]at h ⊢;rw[List.take_add_one];have:a.toList[m]?=some x:=by simpa using h
 rw[this];rfl
theorem l0(a:Array Keyed)(n:Nat):(a.extract 0 n).toList=a.toList.take n:=by
 rw[Array.toList_extract];rfl
theorem nv(a:Array Keyed)(i n:Nat):(a.extract i n).toList=(a.toList.take n).drop i:=by
 rw[Array.toList_extract];show(a.toList.drop i).take (n-i)=_;rw[List.drop_take]
theorem wA(a:Array Keyed){i n:Nat}(h:i<=n):a.toList.take n=a.toList.take i++(a.toList.take n).drop i:=by
 have:=(List.take_append_drop i (a.toList.take n)).symm
 rwa [List.take_take,Nat.min_eq_left h]at this
theorem GJ{a:Array Keyed}{n:Nat}{x:Keyed}(h:x∈a.toList.take n):∃m,m<n/\m<a.size/\a[m]?=some x:=by
 obtain⟨m,hm,e⟩:=List.mem_iff_getElem.mp h;rw[List.length_take]at hm;rw[List.getElem_take]at e;have hs:m<a.size:=by have:a.toList.length=a.size:=rfl;omega
 exact⟨m,by omega,hs,by rw[Array.getElem?_eq_getElem hs];exact congrArg some (by simpa using e)⟩
theorem gY{a:Array Keyed}{i n:Nat}{x:Keyed}(h:x∈(a.toList.take n).drop i):∃m,i<=m/\m<n/\m<a.size/\a[m]?=some x:=by
 obtain⟨m,hm,e⟩:=List.mem_iff_getElem.mp h;rw[List.length_drop,List.length_take]at hm;rw[List.getElem_drop,List.getElem_take]at e;have hs:i+m<a.size:=by have:a.toList.length=a.size:=rfl;omega
 exact⟨i+m,by omega,by omega,hs,by rw[Array.getElem?_eq_getElem hs];exact congrArg some (by simpa using e)⟩
section
variable {M:Model}{Ar:Around}{E:Value->Shared->Prop}{s:Shared}{ρ:Keyed->Nat}{kd:SortKind}{P:Keyed->Prop}{a b out:Array Keyed}{L:List Keyed}{na nb:Nat}
theorem GW{key:Keyed}{arr:Array Keyed}{n:Nat}{st:SortSt}{Q:Option Nat->SortSt->Prop}(hL:gA M Ar E s ρ kd P)(hk:kindOf st=kd)(pk:P key)(pa:∀x∈arr.toList,P x)(hs:So ρ arr.toList)(hn:n<=arr.size)(h1:1<=n)
  (q:∀k,k<=n->(∀x∈arr.toList.take k,ρ x<=ρ key)->(∀x∈(arr.toList.take n).drop k,ρ key<ρ x)->Q (some k) st):wpS M Ar E s (cD false key arr 0 n (n-1)) Q st:=by
 refine dF (tells hL hk pk λi hi=>dt pa ⋯) (λi j lu hj h=>?_) ⋯ λk rW h1 h2=>q k ⋯ (λx hx=>?_) λx hx=>?_
 ·have:=hs.seg (0+i) (0+j) (Nat.zero_le _) ⋯ ⋯
  simp only[pS,acd,if_false,Bool.not_eq_true',decide_eq_false_iff_not]at h ⊢;omega
 ·obtain⟨m,hm,lx,e⟩:=GJ hx
  have:=h1 m hm;simp only[pS,acd,if_false,Bool.not_eq_true',decide_eq_false_iff_not,Nat.zero_add,dk e]at this;omega
 ·obtain⟨m,hm,lx,hm3,e⟩:=gY hx
  have:=h2 m hm lx;simp only[pS,acd,if_false,Nat.zero_add,dk e,Bool.not_eq_false',decide_eq_true_eq]at this;exact this
theorem GV{key:Keyed}{arr:Array Keyed}{n:Nat}{st:SortSt}{Q:Option Nat->SortSt->Prop}(hL:gA M Ar E s ρ kd P)(hk:kindOf st=kd)(pk:P key)(pa:∀x∈arr.toList,P x)(hs:So ρ arr.toList)(hn:n<=arr.size)(h1:1<=n)
  (q:∀k,k<=n->(∀x∈arr.toList.take k,ρ x<ρ key)->(∀x∈(arr.toList.take n).drop k,ρ key<=ρ x)->Q (some k) st):wpS M Ar E s (cD true key arr 0 n (n-1)) Q st:=by
 refine dF (tells hL hk pk λi hi=>dt pa ⋯) (λi j lu hj h=>?_) ⋯ λk rW h1 h2=>q k ⋯ (λx hx=>?_) λx hx=>?_
 ·have:=hs.seg (0+i) (0+j) (Nat.zero_le _) ⋯ ⋯
  simp only[pS,if_true,decide_eq_true_eq]at h ⊢;omega
 ·obtain⟨m,hm,lx,e⟩:=GJ hx
  have:=h1 m hm;simp only[pS,if_true,decide_eq_true_eq,Nat.zero_add,dk e]at this;omega
 ·obtain⟨m,hm,lx,hm3,e⟩:=gY hx
  have:=h2 m hm lx;simp only[pS,if_true,Nat.zero_add,dk e,decide_eq_false_iff_not]at this;omega
abbrev HS:=Option (Array Keyed)×Nat×Nat×Array Keyed×Nat×Nat×Nat
def Ia(a b out:Array Keyed)(na nb g k k1:Nat):StateT SortSt Sem (ForInStep HS):=do
 let y <- elem' a (na-1)
 if(na-1==0)=true then pure (ace (some (a.extract 0 (na-1)++b.extract 0 nb++(out.push y).reverse),na-1,nb,out.push y,g,k,k1))
 else if(decide (k<7)&&decide (k1<7))=true then pure (ace (none,na-1,nb,out.push y,g,k,k1))
 else pure (ForInStep.yield (none,na-1,nb,out.push y,g,k,k1))
def HZ(a b out:Array Keyed)(na nb g k bc:Nat):StateT SortSt Sem (ForInStep HS):=do
 let x <- elem' b (nb-1)
 if(nb-1==1)=true then pure (ace (some (b.extract 0 (nb-1)++a.extract 0 na++(out.push x).reverse),na,nb-1,out.push x,g,k,bc))
 else do
  let y <- elem' a (na-1)
  let r <- cD true y b 0 (nb-1) (nb-1-1)
  match r with
  | some at2 =>
   if nb-1-at2>0 then
    if(at2==1)=true then pure (ace (some (b.extract 0 at2++a.extract 0 na++(out.push x++(b.extract at2 (nb-1)).reverse).reverse),na,at2,out.push x++(b.extract at2 (nb-1)).reverse,g,k,nb-1-at2))
    else if(at2==0)=true then pure (ace (some (a.extract 0 na++b.extract 0 at2++(out.push x++(b.extract at2 (nb-1)).reverse).reverse),na,at2,out.push x++(b.extract at2 (nb-1)).reverse,g,k,nb-1-at2))
    else Ia a b (out.push x++(b.extract at2 (nb-1)).reverse) na at2 g k (nb-1-at2)
   else Ia a b (out.push x) na (nb-1) g k (nb-1-at2)
  | _=>pure (ace (some (a.extract 0 na++b.extract 0 (nb-1)++(out.push x).reverse),na,nb-1,out.push x,g,k,bc))
def DS(a b out:Array Keyed)(na nb g ac bc:Nat):StateT SortSt Sem (ForInStep HS):=do
 let x <- elem' b (nb-1)
 let r <- cD false x a 0 na (na-1)
 match r with
 | some xq =>
  if na-xq>0 then
   if(xq==0)=true then pure (ace (some (a.extract 0 xq++b.extract 0 nb++(out++(a.extract xq na).reverse).reverse),xq,nb,out++(a.extract xq na).reverse,g,na-xq,bc))
   else HZ a b (out++(a.extract xq na).reverse) xq nb g (na-xq) bc
  else HZ a b out na nb g (na-xq) bc
 | _=>pure (ace (some (a.extract 0 na++b.extract 0 nb++out.reverse),na,nb,out,g,ac,bc))
def W(ρ:Keyed->Nat)(L:List Keyed)(a b out:Array Keyed)(na nb:Nat):Prop:=H ρ L out.toList.reverse (a.toList.take na) (b.toList.take nb)
theorem W.rL(j:W ρ L a b out na nb)(e:nb=1)(hb:1<=b.size)(hz:∀y∈a.toList,∀z,b[0]?=some z->ρ z<=ρ y):Good ρ L (b.extract 0 nb++a.extract 0 na++out.reverse).toList:=by
 subst e;have eb:b[0]?=some b[0]:=Array.getElem?_eq_getElem hb;have e1:b.toList.take 1=[b[0]]:=by rw[kU (ab3 1) eb];rfl
 have j':H ρ L out.toList.reverse (a.toList.take na) (b.toList.take 1):=j;rw[e1]at j';rw[Array.toList_append,Array.toList_append,l0,l0,e1,Array.toList_reverse];exact j'.first λy hy=>hz y (List.mem_of_mem_take hy) _ eb
theorem W.iP(j:W ρ L a b out na nb)(e:na=0):Good ρ L (a.extract 0 na++b.extract 0 nb++out.reverse).toList:=by
 subst e;have j':H ρ L out.toList.reverse [] (b.toList.take nb):=j;rw[Array.toList_append,Array.toList_append,l0,l0,Array.toList_reverse];exact j'.iP
theorem W.iQ(j:W ρ L a b out na nb)(e:nb=0):Good ρ L (a.extract 0 na++b.extract 0 nb++out.reverse).toList:=by
 subst e;have j':H ρ L out.toList.reverse (a.toList.take na) []:=j;rw[Array.toList_append,Array.toList_append,l0,l0,Array.toList_reverse,List.take_zero,List.append_nil];exact j'.iQ
theorem W.qC{x:Keyed}(j:W ρ L a b out na nb)(h1:1<=na)(e:a[na-1]?=some x)(h:∀y∈b.toList.take nb,ρ y<=ρ x):W ρ L a b (out.push x) (na-1) nb:=by
 have j':H ρ L out.toList.reverse (a.toList.take na) (b.toList.take nb):=j;rw[kU h1 e]at j';show H ρ L (out.push x).toList.reverse _ _;rw[Array.toList_push,List.reverse_append];exact H.jC (X:=[x]) j' λz hz y hy=>by rw[ab5.mp hz];exact h y hy
theorem W.qD{x:Keyed}(j:W ρ L a b out na nb)(h1:1<=nb)(e:b[nb-1]?=some x)(h:∀y∈a.toList.take na,ρ y<=ρ x):W ρ L a b (out.push x) na (nb-1):=by
 have j':H ρ L out.toList.reverse (a.toList.take na) (b.toList.take nb):=j;rw[kU h1 e]at j';show H ρ L (out.push x).toList.reverse _ _;rw[Array.toList_push,List.reverse_append];exact H.jD (X:=[x]) j' λz hz y hy=>by rw[ab5.mp hz];exact h y hy
theorem W.jC{k:Nat}(j:W ρ L a b out na nb)(hk:k<=na)(h:∀x∈(a.toList.take na).drop k,∀y∈b.toList.take nb,ρ y<=ρ x):W ρ L a b (out++(a.extract k na).reverse) k nb:=by
 have j':H ρ L out.toList.reverse (a.toList.take na) (b.toList.take nb):=j;rw[wA a hk]at j';show H ρ L (out++(a.extract k na).reverse).toList.reverse _ _;rw[Array.toList_append,List.reverse_append,Array.toList_reverse,List.reverse_reverse,nv];exact H.jC j' h
theorem W.jD{k:Nat}(j:W ρ L a b out na nb)(hk:k<=nb)(h:∀x∈(b.toList.take nb).drop k,∀y∈a.toList.take na,ρ y<=ρ x):W ρ L a b (out++(b.extract k nb).reverse) na k:=by
 have j':H ρ L out.toList.reverse (a.toList.take na) (b.toList.take nb):=j;rw[wA b hk]at j';show H ρ L (out++(b.extract k nb).reverse).toList.reverse _ _;rw[Array.toList_append,List.reverse_append,Array.toList_reverse,List.reverse_reverse,nv];exact H.jD j' h
theorem W.Xn{x:Keyed}(j:W ρ L a b out na nb)(h1:1<=na)(e:a[na-1]?=some x):∀y∈a.toList.take na,ρ y<=ρ x:=λy hy=>by
 have:=j.a;rw[kU h1 e]at this hy;rcases List.mem_append.mp hy with hy|hy
 ·exact(List.pairwise_append.mp this).2.2 y hy x (ab5.mpr rfl)
 ·rw[ab5.mp hy];exact ab3 _
theorem W.Xo{x:Keyed}(j:W ρ L a b out na nb)(h1:1<=nb)(e:b[nb-1]?=some x):∀y∈b.toList.take nb,ρ y<=ρ x:=λy hy=>by
 have:=j.b;rw[kU h1 e]at this hy;rcases List.mem_append.mp hy with hy|hy
 ·exact(List.pairwise_append.mp this).2.2 y hy x (ab5.mpr rfl)
 ·rw[ab5.mp hy];exact ab3 _
def dH(ρ:Keyed->Nat)(L:List Keyed)(a b:Array Keyed)(t:Nat)(out:Array Keyed)(na nb:Nat):Prop:=W ρ L a b out na nb/\1<=na/\2<=nb/\na<=a.size/\nb<=b.size/\na+nb+t<=a.size+b.size
def PH(ρ:Keyed->Nat)(L:List Keyed)(a b:Array Keyed)(t:Nat)(cu:SortSt)(r:ForInStep HS)(st:SortSt):Prop:=Kp cu st/\match r with
 | .done c=>(∃arr,c.1=some arr/\Good ρ L arr.toList)\/(c.1=none/\dH ρ L a b t c.2.2.2.1 c.2.1 c.2.2.1)
 | .yield c=>c.1=none/\dH ρ L a b t c.2.2.2.1 c.2.1 c.2.2.1
theorem wI{st cu:SortSt}{g k k1 t:Nat}(T:wW ρ P a b)(hK:Kp cu st)(j:W ρ L a b out na nb)(h1:1<=na)(h2:2<=nb)(h3:na<=a.size)(h4:nb<=b.size)(ht:na+nb+t<=a.size+b.size)
  (h:∀x,a[na-1]?=some x->∀y∈b.toList.take nb,ρ y<=ρ x):wpS M Ar E s (Ia a b out na nb g k k1) (PH ρ L a b t cu) st:=by
 unfold Ia;obtain⟨y,ey,py⟩:=dt T.pa (show na-1<a.size by omega)
 refine ab9 (a9 ey ?_);have j':=j.qC h1 ey (h y ey)
 by_cases e:na-1=0
 ·rw[if_pos (by simpa using e)]
  exact acj ⟨hK,.inl ⟨_,rfl,j'.iP e⟩⟩
 ·rw[if_neg (by simpa using e)]
  have lf:dH ρ L a b t (out.push y) (na-1) nb:=⟨j',by omega,h2,by omega,h4,by omega⟩
  split
  ·exact acj ⟨hK,.inr ⟨rfl,lf⟩⟩
  ·exact acj ⟨hK,rfl,lf⟩
theorem wH{st cu:SortSt}{g k bc t:Nat}(hL:gA M Ar E s ρ kd P)(hk:kindOf cu=kd)(T:wW ρ P a b)(hK:Kp cu st)(j:W ρ L a b out na nb)(h1:1<=na)(h2:2<=nb)(h3:na<=a.size)(h4:nb<=b.size)(ht:na+nb+t<=a.size+b.size)
  (h:∀x,b[nb-1]?=some x->∀y∈a.toList.take na,ρ y<=ρ x):wpS M Ar E s (HZ a b out na nb g k bc) (PH ρ L a b t cu) st:=by
 unfold HZ;obtain⟨x,ex,px⟩:=dt T.pb (show nb-1<b.size by omega)
 obtain⟨y,ey,py⟩:=dt T.pa (show na-1<a.size by omega)
 refine ab9 (a9 ex ?_);have j':=j.qD ⋯ ex (h x ex)
 by_cases e:nb-1=1
 ·rw[if_pos (by simpa using e)]
  exact acj ⟨hK,.inl ⟨_,rfl,j'.rL e T.b1 T.y⟩⟩
 ·rw[if_neg (by simpa using e)]
  refine ab9 (a9 ey ?_);refine ab9 (GV hL (hK.k.trans hk) py T.pb T.sb ⋯ ⋯ λk1 rW q1 q2=>?_)
  dsimp only;have j2:=j'.jD rW λx hx z hz=>Nat.le_trans (j'.Xn h1 ey z hz) (q2 x hx)
  by_cases wY:nb-1-k1>0
  ·rw[if_pos wY]
   by_cases e2:k1=1
   ·rw[if_pos (by simpa using e2)]
    exact acj ⟨hK,.inl ⟨_,rfl,j2.rL e2 T.b1 T.y⟩⟩
   ·rw[if_neg (by simpa using e2)]
    by_cases e3:k1=0
    ·rw[if_pos (by simpa using e3)]
     exact acj ⟨hK,.inl ⟨_,rfl,j2.iQ e3⟩⟩
    ·rw[if_neg (by simpa using e3)]
     exact wI T hK j2 h1 ⋯ h3 ⋯ ⋯ λx' mD z hz=>by rw[ey]at mD;cases mD;exact Nat.le_of_lt (q1 z hz)
  ·rw[if_neg wY]
   have:k1=nb-1:=by omega
   subst this;exact wI T hK j' h1 ⋯ h3 ⋯ ⋯ λx' mD z hz=>by rw[ey]at mD;cases mD;exact Nat.le_of_lt (q1 z hz)
theorem GQ{st cu:SortSt}{g ac bc t:Nat}(hL:gA M Ar E s ρ kd P)(hk:kindOf cu=kd)(T:wW ρ P a b)(hK:Kp cu st)(j:dH ρ L a b t out na nb):wpS M Ar E s (DS a b out na nb g ac bc) (PH ρ L a b t cu) st:=by
 obtain⟨j,h1,h2,h3,h4,ht⟩:=j;unfold DS;obtain⟨x,ex,px⟩:=dt T.pb (show nb-1<b.size by omega)
 refine ab9 (a9 ex ?_);refine ab9 (GW hL (hK.k.trans hk) px T.pa T.sa h3 h1 λk rW q1 q2=>?_);dsimp only;have j2:=j.jC rW λz hz y hy=>Nat.le_trans (j.Xo ⋯ ex y hy) (Nat.le_of_lt (q2 z hz))
 by_cases wY:na-k>0
 ·rw[if_pos wY]
  by_cases e:k=0
  ·rw[if_pos (by simpa using e)]
   exact acj ⟨hK,.inl ⟨_,rfl,j2.iP e⟩⟩
  ·rw[if_neg (by simpa using e)]
   exact wH hL hk T hK j2 ⋯ h2 ⋯ h4 ⋯ λx' mD z hz=>by rw[ex]at mD;cases mD;exact q1 z hz
 ·rw[if_neg wY]
  have:k=na:=by omega
  subst this;exact wH hL hk T hK j h1 h2 h3 h4 ht λx' mD z hz=>by rw[ex]at mD;cases mD;exact q1 z hz
abbrev HI:=Option (Array Keyed)×Nat×Nat×Array Keyed×Nat×Nat
abbrev HQ:=Option (Array Keyed)×Nat×Nat×Array Keyed×Nat
def hiI(a b:Array Keyed)(g:Nat)(c:HI):StateT SortSt Sem (ForInStep HI):=do
 let x <- elem' b (c.2.2.1-1)
 let y <- elem' a (c.2.1-1)
 let r <- lt' x y
 match r with
 | some w =>
  if w=true then do
   let y <- elem' a (c.2.1-1)
   if(c.2.1-1==0)=true then pure (ace (some (a.extract 0 (c.2.1-1)++b.extract 0 c.2.2.1++(c.2.2.2.1.push y).reverse),c.2.1-1,c.2.2.1,c.2.2.2.1.push y,c.2.2.2.2.1+1,0))
   else if c.2.2.2.2.1+1>=g then pure (ace (none,c.2.1-1,c.2.2.1,c.2.2.2.1.push y,c.2.2.2.2.1+1,0))
   else pure (ForInStep.yield (none,c.2.1-1,c.2.2.1,c.2.2.2.1.push y,c.2.2.2.2.1+1,0))
  else do
   let x <- elem' b (c.2.2.1-1)
   if(c.2.2.1-1==1)=true then pure (ace (some (b.extract 0 (c.2.2.1-1)++a.extract 0 c.2.1++(c.2.2.2.1.push x).reverse),c.2.1,c.2.2.1-1,c.2.2.2.1.push x,0,c.2.2.2.2.2+1))
   else if c.2.2.2.2.2+1>=g then pure (ace (none,c.2.1,c.2.2.1-1,c.2.2.2.1.push x,0,c.2.2.2.2.2+1))
   else pure (ForInStep.yield (none,c.2.1,c.2.2.1-1,c.2.2.2.1.push x,0,c.2.2.2.2.2+1))
 | _=>pure (ace (some (a.extract 0 c.2.1++b.extract 0 c.2.2.1++c.2.2.2.1.reverse),c.2.1,c.2.2.1,c.2.2.2.1,c.2.2.2.2.1,c.2.2.2.2.2))
def hiG(a b:Array Keyed)(c:HS):StateT SortSt Sem (ForInStep HS):=
 if c.2.2.2.2.1>1 then do
  eL (c.2.2.2.2.1-1)
  DS a b c.2.2.2.1 c.2.1 c.2.2.1 (c.2.2.2.2.1-1) c.2.2.2.2.2.1 c.2.2.2.2.2.2
 else do
  eL c.2.2.2.2.1
  DS a b c.2.2.2.1 c.2.1 c.2.2.1 c.2.2.2.2.1 c.2.2.2.2.2.1 c.2.2.2.2.2.2
def hiE(r:HS):StateT SortSt Sem (ForInStep HQ):=
 match r.1 with
 | some arr=>pure (ace (some arr,r.2.1,r.2.2.1,r.2.2.2.1,r.2.2.2.2.1))
 | none=>do
  eL (r.2.2.2.2.1+1)
  pure (ForInStep.yield (none,r.2.1,r.2.2.1,r.2.2.2.1,r.2.2.2.2.1+1))
def hiN(a b:Array Keyed)(g:Nat)(r:HI):StateT SortSt Sem (ForInStep HQ):=
 match r.1 with
 | some arr=>pure (ace (some arr,r.2.1,r.2.2.1,r.2.2.2.1,g))
 | none=>do
  liftM (rule "list.sort.gallop")
  let r2 <- forIn [0:a.size+b.size] ((none,r.2.1,r.2.2.1,r.2.2.2.1,g+1,r.2.2.2.2.1,r.2.2.2.2.2):HS) λ_ t=>hiG a b t
  hiE r2
def hiO(a b:Array Keyed)(c:HQ):StateT SortSt Sem (ForInStep HQ):=do
 let r <- forIn [0:a.size+b.size] ((none,c.2.1,c.2.2.1,c.2.2.2.1,0,0):HI) λ_ r=>hiI a b c.2.2.2.2 r
 hiN a b c.2.2.2.2 r
def hiZ(r:HQ):StateT SortSt Sem (Array Keyed):=
 match r.1 with
 | some arr=>pure arr
 | none=>unsupported "internal:list.sort.merge-bound"
theorem sd(a b:Array Keyed):n9 a b=(do
 liftM (rule "list.sort.merge-hi")
 let x <- elem' a (a.size-1)
 if(a.size-1==0)=true then pure (a.extract 0 (a.size-1)++b.extract 0 b.size++(#[x]:Array Keyed).reverse)
 else if(b.size==1)=true then pure (b.extract 0 b.size++a.extract 0 (a.size-1)++(#[x]:Array Keyed).reverse)
 else do
  let st <- get
  let r <- forIn [0:a.size+b.size] ((none,a.size-1,b.size,#[x],gallopOf st):HQ) λ_ r=>hiO a b r
  hiZ r):=by kernel_rfl
theorem Ke{cu st:SortSt}{g n m:Nat}{c:HI}(hL:gA M Ar E s ρ kd P)(hk:kindOf cu=kd)(T:wW ρ P a b)(hK:Kp cu st)(j:dH ρ L a b (n+1+min m 1) c.2.2.2.1 c.2.1 c.2.2.1):
  wpS M Ar E s (hiI a b g c) (λr az=>Kp cu az/\match r with
   | .done c=>(∃arr,c.1=some arr/\Good ρ L arr.toList)\/(c.1=none/\dH ρ L a b (n+1+1) c.2.2.2.1 c.2.1 c.2.2.1)
   | .yield c=>c.1=none/\dH ρ L a b (n+1+min (m+1) 1) c.2.2.2.1 c.2.1 c.2.2.1) st:=by
 obtain⟨ret,na,nb,out,ac,bc⟩:=c;obtain⟨j,l1,l2,l3,l4,l5⟩:=j;dsimp only at j l1 l2 l3 l4 l5;unfold hiI;dsimp only;obtain⟨x,ex,px⟩:=dt T.pb (show nb-1<b.size by omega)
 obtain⟨y,ey,py⟩:=dt T.pa (show na-1<a.size by omega)
 refine ab9 (a9 ex (ab9 (a9 ey (ab9 (hL x y st _ px py (hK.k.trans hk) ?_)))))
 by_cases iR:ρ x<ρ y
 ·rw[decide_eq_true iR]
  refine ab9 (a9 ey ?_);have j':=j.qC l1 ey λz hz=>Nat.le_trans (j.Xo ⋯ ex z hz) (Nat.le_of_lt iR)
  by_cases e:na-1=0
  ·rw[if_pos (by simpa using e)]
   exact acj ⟨hK,.inl ⟨_,rfl,j'.iP e⟩⟩
  ·rw[if_neg (by simpa using e)]
   split
   ·exact acj ⟨hK,.inr ⟨rfl,j',by show 1<=na-1;omega,l2,by show na-1<=a.size;omega,l4,by show na-1+nb+(n+1+1)<=_;omega⟩⟩
   ·exact acj ⟨hK,rfl,j',by show 1<=na-1;omega,l2,by show na-1<=a.size;omega,l4,by show na-1+nb+(n+1+min (m+1) 1)<=_;omega⟩
 ·rw[decide_eq_false iR]
  refine ab9 (a9 ex ?_);have j':=j.qD ⋯ ex λz hz=>Nat.le_trans (j.Xn l1 ey z hz) (Nat.not_lt.mp iR)
  by_cases e:nb-1=1
  ·rw[if_pos (by simpa using e)]
   exact acj ⟨hK,.inl ⟨_,rfl,j'.rL e T.b1 T.y⟩⟩
  ·rw[if_neg (by simpa using e)]
   split
   ·exact acj ⟨hK,.inr ⟨rfl,j',l1,by show 2<=nb-1;omega,l3,by show nb-1<=b.size;omega,by show na+(nb-1)+(n+1+1)<=_;omega⟩⟩
   ·exact acj ⟨hK,rfl,j',l1,by show 2<=nb-1;omega,l3,by show nb-1<=b.size;omega,by show na+(nb-1)+(n+1+min (m+1) 1)<=_;omega⟩
def PGH(ρ:Keyed->Nat)(L:List Keyed)(a b:Array Keyed)(t:Nat)(cu:SortSt)(r:ForInStep HQ)(st:SortSt):Prop:=match r with
 | .done c=>Kp cu st/\∃arr,c.1=some arr/\Good ρ L arr.toList
 | .yield c=>Kp cu st/\c.1=none/\dH ρ L a b t c.2.2.2.1 c.2.1 c.2.2.1
theorem Kf{cu st:SortSt}{g n:Nat}{r:HI}(hL:gA M Ar E s ρ kd P)(hk:kindOf cu=kd)(T:wW ρ P a b)(hK:Kp cu st)
  (h:(∃arr,r.1=some arr/\Good ρ L arr.toList)\/(r.1=none/\dH ρ L a b (n+1+1) r.2.2.2.1 r.2.1 r.2.2.1)):wpS M Ar E s (hiN a b g r) (PGH ρ L a b (n+1+1) cu) st:=by
 obtain⟨ret,r⟩:=r;unfold hiN;rcases h with⟨arr,h1,h2⟩|⟨h1,hl⟩
 ·dsimp only at h1
  subst h1;exact acj ⟨hK,arr,rfl,h2⟩
 ·dsimp only at h1 hl
  subst h1;refine ab9 (wpS_lift (wpAny_rule ⟨rfl,?_⟩));refine ab9 (wpS_mono (wpS_forRange (I:=λx c az=>Kp cu az/\c.1=none/\dH ρ L a b (n+1+1) c.2.2.2.1 c.2.1 c.2.2.1)
   (Q:=λc az=>Kp cu az/\((∃arr,c.1=some arr/\Good ρ L arr.toList)\/(c.1=none/\dH ρ L a b (n+1+1) c.2.2.2.1 c.2.1 c.2.2.1))) ?gstep ?gfin ⟨hK,rfl,hl⟩) ?gpost)
  case gfin =>
   rintro c az ⟨hK,h1,hl⟩;exact⟨hK,.inr ⟨h1,hl⟩⟩
  case gstep =>
   rintro m c az _ hm ⟨hK,h1,hl⟩;have go:∀g,wpS M Ar E s (do eL g;DS a b c.2.2.2.1 c.2.1 c.2.2.1 g c.2.2.2.2.2.1 c.2.2.2.2.2.2) (λr dq=>match r with
     | .done c=>Kp cu dq/\((∃arr,c.1=some arr/\Good ρ L arr.toList)\/(c.1=none/\dH ρ L a b (n+1+1) c.2.2.2.1 c.2.1 c.2.2.1))
     | .yield c=>Kp cu dq/\c.1=none/\dH ρ L a b (n+1+1) c.2.2.2.1 c.2.1 c.2.2.1) az:=λg=>by
    rw[eo];refine ab9 (wpS_modify (wpS_mono (GQ hL hk T (hK.min g) hl) λr dq hr=>?_));obtain⟨k1,k2⟩:=hr;cases r with
    | done c=>exact⟨k1,k2⟩
    | yield c=>exact⟨k1,k2⟩
   unfold hiG
   split
   ·refine wpS_mono (go _) λr dq hr=>?_
    cases r<;>exact hr
   ·refine wpS_mono (go _) λr dq hr=>?_
    cases r<;>exact hr
  case gpost =>
   rintro⟨ret,r⟩ az ⟨hK,⟨arr,h1,h2⟩|⟨h1,hl⟩⟩
   ·dsimp only at h1
    subst h1;exact acj ⟨hK,arr,rfl,h2⟩
   ·dsimp only at h1 hl
    subst h1;unfold hiE;rw[eo];exact ab9 (wpS_modify (acj ⟨hK.min _,rfl,hl⟩))
theorem Kg{cu st:SortSt}{n:Nat}{c:HQ}(hL:gA M Ar E s ρ kd P)(hk:kindOf cu=kd)(T:wW ρ P a b)(hn:0<a.size+b.size)(hK:Kp cu st)(hl:dH ρ L a b (n+1) c.2.2.2.1 c.2.1 c.2.2.1):wpS M Ar E s (hiO a b c) (PGH ρ L a b (n+1+1) cu) st:=by
 unfold hiO;refine ab9 (wpS_mono (wpS_forRange (I:=λx c az=>Kp cu az/\c.1=none/\dH ρ L a b (n+1+min x 1) c.2.2.2.1 c.2.1 c.2.2.1)
  (Q:=λc az=>Kp cu az/\((∃arr,c.1=some arr/\Good ρ L arr.toList)\/(c.1=none/\dH ρ L a b (n+1+1) c.2.2.2.1 c.2.1 c.2.2.1))) ?istep ?ifin ⟨hK,rfl,by simpa using hl⟩) ?ipost)
 case ifin =>
  rintro c az ⟨hK,h1,hl⟩;rw[show min (max 0 (a.size+b.size)) 1=1 by omega]at hl
  exact⟨hK,.inr ⟨h1,hl⟩⟩
 case istep =>
  rintro m c az _ hm ⟨hK,h1,hl⟩;refine wpS_mono (Ke hL hk T hK hl) λr dq hr=>?_;obtain⟨k1,k2⟩:=hr;cases r with
  | done c=>exact⟨k1,k2⟩
  | yield c=>exact⟨k1,k2⟩
 case ipost =>
  rintro r az ⟨hK,h⟩;exact Kf hL hk T hK h
theorem wM{st:SortSt}{Q:Array Keyed->SortSt->Prop}(hL:gA M Ar E s ρ kd P)(hk:kindOf st=kd)(T:wW ρ P a b)
  (q:∀r az,Kp st az->Good ρ (a.toList++b.toList) r.toList->Q r az):wpS M Ar E s (n9 a b) Q st:=by
 rw[sd];have b1:=T.b1;have a1:=T.a1;refine ab9 (wpS_lift (wpAny_rule ⟨rfl,?_⟩));obtain⟨x,ex,px⟩:=dt T.pa (show a.size-1<a.size by omega)
 refine ab9 (a9 ex ?_);have j0:W ρ (a.toList++b.toList) a b #[] a.size b.size:=by
  have e1:a.toList.take a.size=a.toList:=List.take_of_length_le (ab3 _);have e2:b.toList.take b.size=b.toList:=List.take_of_length_le (ab3 _);unfold W;rw[e1,e2];exact⟨List.Pairwise.nil,T.sa,T.sb,(λx hx y hy=>by cases hy),(λx hx y hy=>by cases hy),by simp⟩
 have j1:W ρ (a.toList++b.toList) a b #[x] (a.size-1) b.size:=by simpa using j0.qC a1 ex λy hy=>T.z y (List.mem_of_mem_take hy) x ex
 by_cases e:a.size-1=0
 ·rw[if_pos (by simpa using e)]
  exact acj (q _ st .refl (by simpa using j1.iP e))
 ·rw[if_neg (by simpa using e)]
  by_cases e2:b.size=1
  ·rw[if_pos (by simpa using e2)]
   exact acj (q _ st .refl (by simpa using j1.rL e2 T.b1 T.y))
  ·rw[if_neg (by simpa using e2)]
   refine ab9 (wpS_get ?_);refine ab9 (wpS_mono (wpS_forRange (I:=λx c az=>Kp st az/\c.1=none/\dH ρ (a.toList++b.toList) a b (x+1) c.2.2.2.1 c.2.1 c.2.2.1)
    (Q:=λc az=>Kp st az/\∃arr,c.1=some arr/\Good ρ (a.toList++b.toList) arr.toList) ?step ?fin ⟨.refl,rfl,j1,by show 1<=a.size-1;omega,by show 2<=b.size;omega,by show a.size-1<=a.size;omega,by show b.size<=b.size;omega,by show a.size-1+b.size+(0+1)<=_;omega⟩) ?post)
   case fin =>
    rintro⟨ret,na,nb,out,g⟩ az ⟨hK,h1,j,h2,h3,h4,h5,h6⟩;dsimp only at h2 h3 h4 h5 h6;omega
   case post =>
    rintro⟨ret,r⟩ az ⟨hK,arr,h1,h2⟩;dsimp only at h1;subst h1;exact acj (q arr az hK h2)
   case step =>
    rintro n c az _ hn ⟨hK,h1,hl⟩;refine wpS_mono (Kg hL hk T ⋯ hK hl) λr dq hr=>?_
    cases r with
    | done c=>exact hr
    | yield c=>exact hr
end
end Vs
namespace Vs
open PySem PyProof.Rows
abbrev Run:=Nat×Nat×Nat
theorem vM(i:Nat):mergeAt' i=(do
 let s <- get
 let (some (sa,na,power),some (sb,nb,_)):=((aci s)[i]?,(aci s)[i+1]?)|unsupported "internal:list.sort.pending"
 set (setPending s (((aci s).setIfInBounds i (sa,na+nb,power)).eraseIdxIfInBounds (i+1)))
 let some k <- cD false (<- elem' (arrOf s) sb) (arrOf s) sa na 0|return false
 let (sa,na):=(sa+k,na-k)
 if na==0 then return true
 let some nb <- cD true (<- elem' (arrOf s) (sa+na-1)) (arrOf s) sb nb (nb-1)|return false
 if nb==0 then return true
 let x:=(arrOf s).extract sa sb
 let y:=(arrOf s).extract sb (sb+nb)
 let merged <- if na<=nb then og x y else n9 x y
 modify λs=>setArr s (merged.toList.zipIdx.foldl (λa (p,j)=>a.setIfInBounds (sa+j) p) (arrOf s))
 return(failedOf (<- get)).isNone):=rfl
def Ch(ρ:Keyed->Nat)(xs:Array Keyed):Nat->Nat->List Run->Prop
 | s,e,[]=>s=e
 | s,e,r::rs=>r.1=s/\1<=r.2.1/\Seg ρ xs s (s+r.2.1)/\Ch ρ xs (s+r.2.1) e rs
theorem Ch.app{ρ:Keyed->Nat}{xs:Array Keyed}:∀ {l m:List Run} {s e:Nat},Ch ρ xs s e (l++m) ↔ ∃t,Ch ρ xs s t l/\Ch ρ xs t e m
 | [],m,s,e=>⟨λh=>⟨s,rfl,h⟩,λ⟨t,h1,h2⟩=>by cases h1;exact h2⟩
 | r::l,m,s,e=>by
  constructor
  ·rintro⟨h1,h2,h3,h4⟩
   obtain⟨t,h5,h6⟩:=Ch.app.mp h4;exact⟨t,⟨h1,h2,h3,h5⟩,h6⟩
  ·rintro⟨t,⟨h1,h2,h3,h5⟩,h6⟩
   exact⟨h1,h2,h3,Ch.app.mpr ⟨t,h5,h6⟩⟩
theorem Ch.le{ρ:Keyed->Nat}{xs:Array Keyed}:∀ {l:List Run} {s e:Nat},Ch ρ xs s e l->s+l.length<=e
 | [],s,e,h=>by cases h;exact ab3 _
 | r::l,s,e,⟨_,h2,_,h4⟩=>by have:=Ch.le h4;simp only[List.length_cons];omega
theorem Seg.congr{ρ:Keyed->Nat}{xs ys:Array Keyed}{lo hi:Nat}(h:Seg ρ xs lo hi)(e:∀k,lo<=k->k<hi->ys[k]?=xs[k]?):Seg ρ ys lo hi:=λi j h1 h2 h3=>by
 rw[h8 (e i h1 ⋯),h8 (e j ⋯ h3)];exact h i j h1 h2 h3
theorem Ch.congr{ρ:Keyed->Nat}{xs ys:Array Keyed}:∀ {l:List Run} {s e:Nat},Ch ρ xs s e l->(∀k,s<=k->k<e->ys[k]?=xs[k]?)->Ch ρ ys s e l
 | [],s,e,h,_=>h
 | r::l,s,e,⟨h1,h2,h3,h4⟩,q=>by
  have:=Ch.le h4;exact⟨h1,h2,h3.congr λk a b=>q k a ⋯,Ch.congr h4 λk a b=>q k ⋯ b⟩
theorem sD(off:Nat):∀(m:List Keyed) (n:Nat) (xs:Array Keyed),off+n+m.length<=xs.size->∀k:Nat,
  ((m.zipIdx n).foldl (λa (p,j)=>a.setIfInBounds (off+j) p) xs)[k]?=(if off+n<=k/\k<off+n+m.length then m[k-(off+n)]? else xs[k]?)/\((m.zipIdx n).foldl (λa (p,j)=>a.setIfInBounds (off+j) p) xs).size=xs.size
 | [],n,xs,h,k=>⟨by rw[if_neg (by simp only[List.length_nil];omega)];rfl,rfl⟩
 | p::m,n,xs,h,k=>by
  simp only[List.length_cons]at h;rw[List.zipIdx_cons,List.foldl_cons];have ih:=sD off m (n+1) (xs.setIfInBounds (off+n) p) (by rw[Array.size_setIfInBounds];omega) k
  refine⟨?_,by rw[ih.2,Array.size_setIfInBounds]⟩
  rw[ih.1];simp only[List.length_cons]
  by_cases h1:off+(n+1)<=k/\k<off+(n+1)+m.length
  ·rw[if_pos h1,if_pos ⋯,show k-(off+n)=k-(off+(n+1))+1 by omega,List.getElem?_cons_succ]
  ·rw[if_neg h1]
   by_cases h2:k=off+n
   ·subst h2
    rw[if_pos ⋯,Nat.sub_self,List.getElem?_cons_zero,Array.getElem?_setIfInBounds_self_of_lt ⋯]
   ·rw[if_neg ⋯,Array.getElem?_setIfInBounds_ne ⋯]
theorem Fy{off:Nat}{m:List Keyed}{xs:Array Keyed}(h:off+m.length<=xs.size)(hp:m.Perm ((xs.toList.drop off).take m.length)):(m.zipIdx.foldl (λa (p,j)=>a.setIfInBounds (off+j) p) xs).Perm xs:=by
 rw[Array.perm_iff_toList_perm];have e:(m.zipIdx.foldl (λa (p,j)=>a.setIfInBounds (off+j) p) xs).toList=xs.toList.take off++(m++xs.toList.drop (off+m.length)):=by
  apply List.ext_getElem?;intro k;have:=(sD off m 0 xs (by simpa using h) k).1
  rw[Nat.add_zero]at this;rw[Array.getElem?_toList,this];have hl:(xs.toList.take off).length=off:=by rw[List.length_take];have:xs.toList.length=xs.size:=rfl;omega
  by_cases h1:k<off
  ·rw[if_neg ⋯,List.getElem?_append_left ⋯,List.getElem?_take_of_lt h1,Array.getElem?_toList]
  ·rw[List.getElem?_append_right ⋯,hl]
   by_cases h2:k<off+m.length
   ·rw[if_pos ⋯,List.getElem?_append_left ⋯]
   ·rw[if_neg ⋯,List.getElem?_append_right ⋯,List.getElem?_drop,show off+m.length+(k-off-m.length)=k by omega,Array.getElem?_toList]
 rw[e];have e2:xs.toList=xs.toList.take off++((xs.toList.drop off).take m.length++xs.toList.drop (off+m.length)):=by
  rw[<- List.drop_drop,List.take_append_drop,List.take_append_drop]
 exact(List.Perm.append_left _ (List.Perm.append_right _ hp)).trans (by rw[<- e2])
theorem oJ{ρ:Keyed->Nat}{xs:Array Keyed}{i j:Nat}(h:Seg ρ xs i j)(hj:j<=xs.size):So ρ (xs.extract i j).toList:=by
 refine List.pairwise_iff_getElem.mpr λp q hp hq hpq=>?_;rw[nv,List.length_drop,List.length_take]at hq;have hs:xs.toList.length=xs.size:=rfl;have:=h (i+p) (i+q) ⋯ ⋯ ⋯
 have e1:xs[i+p]?=some ((xs.extract i j).toList[p]):=by
  rw[Array.getElem?_eq_getElem ⋯];simp
 have e2:xs[i+q]?=some ((xs.extract i j).toList[q]):=by
  rw[Array.getElem?_eq_getElem ⋯];simp
 rw[dk e1,dk e2]at this;exact this
theorem DB{xs:Array Keyed}{i j m:Nat}(h:i+m<j)(hj:j<=xs.size):(xs.extract i j)[m]?=xs[i+m]?:=by
 rw[Array.getElem?_extract];rw[if_pos ⋯]
theorem i9{xs:Array Keyed}{i j:Nat}{x:Keyed}(h:x∈(xs.extract i j).toList):∃m,i<=m/\m<j/\m<xs.size/\xs[m]?=some x:=by
 rw[nv]at h;exact gY h
section
variable {M:Model}{Ar:Around}{E:Value->Shared->Prop}{s:Shared}{ρ:Keyed->Nat}{kd:SortKind}{P:Keyed->Prop}{a₀:Array Keyed}
theorem Kc{key:Keyed}{arr:Array Keyed}{base n hint:Nat}{st:SortSt}{Q:Option Nat->SortSt->Prop}(hL:gA M Ar E s ρ kd P)(hk:kindOf st=kd)(pk:P key)(pa:∀i,i<n->∃x,arr[base+i]?=some x/\P x)(hs:Seg ρ arr base (base+n))(hn:hint<n)
  (q:∀k,k<=n->(∀i,base<=i->i<base+k->R ρ arr i<=ρ key)->(∀i,base+k<=i->i<base+n->ρ key<R ρ arr i)->Q (some k) st):wpS M Ar E s (cD false key arr base n hint) Q st:=by
 refine dF (tells hL hk pk pa) (λi j lu hj h=>?_) hn λk rW h1 h2=>q k rW (λi hi Ig=>?_) λi hi Ig=>?_
 ·have:=hs (base+i) (base+j) ⋯ ⋯ ⋯
  simp only[pS,acd,if_false,Bool.not_eq_true',decide_eq_false_iff_not]at h ⊢;omega
 ·have:=h1 (i-base) ⋯
  simp only[pS,acd,if_false,Bool.not_eq_true',decide_eq_false_iff_not,show base+(i-base)=i by omega]at this
  omega
 ·have:=h2 (i-base) ⋯ ⋯
  simp only[pS,acd,if_false,show base+(i-base)=i by omega,Bool.not_eq_false',decide_eq_true_eq]at this
  exact this
theorem Kb{key:Keyed}{arr:Array Keyed}{base n hint:Nat}{st:SortSt}{Q:Option Nat->SortSt->Prop}(hL:gA M Ar E s ρ kd P)(hk:kindOf st=kd)(pk:P key)(pa:∀i,i<n->∃x,arr[base+i]?=some x/\P x)(hs:Seg ρ arr base (base+n))(hn:hint<n)
  (q:∀k,k<=n->(∀i,base<=i->i<base+k->R ρ arr i<ρ key)->(∀i,base+k<=i->i<base+n->ρ key<=R ρ arr i)->Q (some k) st):wpS M Ar E s (cD true key arr base n hint) Q st:=by
 refine dF (tells hL hk pk pa) (λi j lu hj h=>?_) hn λk rW h1 h2=>q k rW (λi hi Ig=>?_) λi hi Ig=>?_
 ·have:=hs (base+i) (base+j) ⋯ ⋯ ⋯
  simp only[pS,if_true,decide_eq_true_eq]at h ⊢;omega
 ·have:=h1 (i-base) ⋯
  simp only[pS,if_true,decide_eq_true_eq,show base+(i-base)=i by omega]at this
  exact this
 ·have:=h2 (i-base) ⋯ ⋯
  simp only[pS,if_true,show base+(i-base)=i by omega,decide_eq_false_iff_not]at this
  omega
theorem Kl{st az:SortSt}{Q:PUnit->SortSt->Prop}(h:Q ⟨⟩ az):wpS M Ar E s (set az:StateT SortSt Sem PUnit) Q st:=by
 unfold wpS;rw[StateT.run_set];exact ab0 ⟨rfl,h⟩
theorem U1{l:List Run}{i:Nat}(h:i+1<l.length):∃pre x y post,l=pre++x::y::post/\pre.length=i:=by
 refine⟨l.take i,l[i],l[i+1],l.drop (i+2),?_,by rw[List.length_take];omega⟩
 have e:=(List.take_append_drop i l).symm;rw[List.drop_eq_getElem_cons ⋯,List.drop_eq_getElem_cons h]at e
 exact e
theorem mU{st:SortSt}{i lo:Nat}{Q:Bool->SortSt->Prop}(hL:gA M Ar E s ρ kd P)(h0:∀p∈a₀.toList,P p)(hB:SI kd a₀ st)(za:lo<=a₀.size)(hc:Ch ρ (arrOf st) 0 lo (aci st).toList)(hi:i+1<(aci st).size)
  (q:∀az,SI kd a₀ az->Ch ρ (arrOf az) 0 lo (aci az).toList->(aci az).size+1=(aci st).size->(∀k,lo<=k->(arrOf az)[k]?=(arrOf st)[k]?)->Q true az):wpS M Ar E s (mergeAt' i) Q st:=by
 rw[vM];refine ab9 (wpS_get ?_);obtain⟨pre,⟨sa,na,pw⟩,⟨sb,nb,pw2⟩,post,el,dm⟩:=U1 (l:=(aci st).toList) (i:=i) (by simpa using hi)
 have e1:(aci st)[i]?=some (sa,na,pw):=by
  rw[<- Array.getElem?_toList,el,List.getElem?_append_right ⋯,dm,Nat.sub_self];rfl
 have e2:(aci st)[i+1]?=some (sb,nb,pw2):=by
  rw[<- Array.getElem?_toList,el,List.getElem?_append_right ⋯,dm,Nat.add_sub_cancel_left];rfl
 have El:(((aci st).setIfInBounds i (sa,na+nb,pw)).eraseIdxIfInBounds (i+1)).toList=pre++(sa,na+nb,pw)::post:=by
  have hs:i+1<((aci st).setIfInBounds i (sa,na+nb,pw)).size:=by rw[Array.size_setIfInBounds];exact hi
  rw[Array.eraseIdxIfInBounds,dif_pos hs,Array.toList_eraseIdx,Array.toList_setIfInBounds,el,<- dm];rw[List.set_append_right _ _ (ab3 _),Nat.sub_self,List.set_cons_zero,List.eraseIdx_append_of_length_le (Nat.le_succ _),show pre.length.succ-pre.length=1 by omega]
  rfl
 have Ya:(((aci st).setIfInBounds i (sa,na+nb,pw)).eraseIdxIfInBounds (i+1)).size+1=(aci st).size:=by
  have a1:(((aci st).setIfInBounds i (sa,na+nb,pw)).eraseIdxIfInBounds (i+1)).toList.length=(pre++(sa,na+nb,pw)::post).length:=by rw[El]
  have a2:(aci st).toList.length=(pre++(sa,na,pw)::(sb,nb,pw2)::post).length:=by rw[el]
  simp only[List.length_append,List.length_cons,Array.length_toList]at a1 a2;omega
 rw[e1,e2];dsimp only;refine ab9 (Kl ?_);rw[el]at hc;obtain⟨t,c1,⟨rfl,c3,c4,rfl,c6,c7,c8⟩⟩:=Ch.app.mp hc;dsimp only at c1 c3 c4 c6 c7 c8 El e1 e2 Ya ⊢;have hle:=Ch.le c8;have hsz:=hB.size;have Wm:∀k,k<a₀.size->∃x,(arrOf st)[k]?=some x/\P x:=λk hk=>hB.at h0 hk;obtain⟨b0,eb,pb⟩:=Wm (sa+na) ⋯
 refine ab9 (a9 eb ?_);refine ab9 (Kc hL hB.kind pb (λi hi=>Wm _ ⋯) c4 ⋯ λk hk g1 g2=>?_)
 dsimp only
 -- the whole of both,from what becomes of the array
 have fin:∀(ys:Array Keyed) (az:SortSt),arrOf az=ys->aci az=((aci st).setIfInBounds i (sa,na+nb,pw)).eraseIdxIfInBounds (i+1)->kindOf az=kd->failedOf az=none->ys.Perm (arrOf st) ->
   (∀k,k<sa\/sa+na+nb<=k->ys[k]?=(arrOf st)[k]?)->Seg ρ ys sa (sa+na+nb)->Q true az:=λys az h1 h2 h3 h4 h5 h6 h7=>by
  refine q az ⟨by rw[h1];exact h5.trans hB.perm,h3,h4⟩ ?_ (by rw[h2];exact Ya) (λk hk=>by rw[h1];exact h6 k (.inr ⋯))
  rw[h1,h2,El];refine Ch.app.mpr ⟨sa,c1.congr λk _ hk=>h6 k (.inl hk),rfl,?_,?_,?_⟩
  ·show 1<=na+nb;omega
  ·show Seg ρ ys sa (sa+(na+nb));rw[<- Nat.add_assoc];exact h7
  ·show Ch ρ ys (sa+(na+nb)) lo post
   rw[<- Nat.add_assoc];exact c8.congr λk hk _=>h6 k (.inr hk)
 have rb0:R ρ (arrOf st) (sa+na)=ρ b0:=dk eb
 by_cases wY:na-k=0
 ·rw[if_pos (by simpa using wY)]
  refine acj (fin (arrOf st) _ rfl rfl hB.kind hB.failed (Array.Perm.refl _) (λ_ _=>rfl) λi j h1 h2 h3=>?_)
  by_cases hj:j<sa+na
  ·exact c4 i j h1 h2 hj
  ·by_cases xH:i<sa+na
   ·have:=g1 i h1 ⋯
    have:=c7 (sa+na) j ⋯ ⋯ h3
    omega
   ·exact c7 i j ⋯ h2 h3
 ·rw[if_neg (by simpa using wY)]
  obtain⟨al,ea,pa⟩:=Wm (sa+k+(na-k)-1) ⋯
  have ral:R ρ (arrOf st) (sa+na-1)=ρ al:=by rw[show sa+na-1=sa+k+(na-k)-1 by omega];exact dk ea
  refine ab9 (a9 ea ?_);refine ab9 (Kb hL hB.kind pa (λi hi=>Wm _ ⋯) c7 ⋯ λk2 XZ g3 g4=>?_)
  dsimp only
  by_cases X0:k2=0
  ·subst X0
   rw[if_pos (by simp)]
   refine acj (fin (arrOf st) _ rfl rfl hB.kind hB.failed (Array.Perm.refl _) (λ_ _=>rfl) λi j h1 h2 h3=>?_)
   by_cases hj:j<sa+na
   ·exact c4 i j h1 h2 hj
   ·by_cases xH:i<sa+na
    ·have:=g4 j ⋯ h3
     have:=c4 i (sa+na-1) h1 ⋯ ⋯
     omega
    ·exact c7 i j ⋯ h2 h3
  ·rw[if_neg (by simpa using X0)]
   have hPx:∀i j,j<=a₀.size->∀x∈((arrOf st).extract i j).toList,P x:=λi j hj x hx=>by
    obtain⟨m,m1,m2,m3,m4⟩:=i9 hx;obtain⟨y,ey,py⟩:=Wm m ⋯
    rw[m4]at ey;cases ey;exact py
   have zx:((arrOf st).extract (sa+k) (sa+na)).size=na-k:=by rw[Array.size_extract];omega
   have zy:((arrOf st).extract (sa+na) (sa+na+k2)).size=k2:=by rw[Array.size_extract];omega
   have T:wW ρ P ((arrOf st).extract (sa+k) (sa+na)) ((arrOf st).extract (sa+na) (sa+na+k2)):=
    ⟨hPx _ _ ⋯,hPx _ _ ⋯,oJ (λi j h1 h2 h3=>c4 i j ⋯ h2 h3) ⋯,oJ (λi j h1 h2 h3=>c7 i j h1 h2 ⋯) ⋯,by omega,by omega,
     λy hy z hz=>by
      obtain⟨m,m1,m2,m3,m4⟩:=i9 hy;rw[zx,DB ⋯ ⋯,show sa+k+(na-k-1)=sa+k+(na-k)-1 by omega,ea]at hz
      cases hz;have:=g3 m m1 m2;rw[dk m4]at this;omega,
     λy hy z hz=>by
      obtain⟨m,m1,m2,m3,m4⟩:=i9 hy;rw[DB ⋯ ⋯,Nat.add_zero,eb]at hz
      cases hz;have:=g2 m m1 m2;rw[dk m4]at this;omega⟩
   have done:∀(r:Array Keyed) (az:SortSt),Kp (setPending st (((aci st).setIfInBounds i (sa,na+nb,pw)).eraseIdxIfInBounds (i+1))) az->Good ρ (((arrOf st).extract (sa+k) (sa+na)).toList++((arrOf st).extract (sa+na) (sa+na+k2)).toList) r.toList ->
     wpS M Ar E s (do
      modify λs=>setArr s (r.toList.zipIdx.foldl (λa (p,j)=>a.setIfInBounds (sa+k+j) p) (arrOf s))
      let x <- get
      pure (failedOf x).isNone) Q az:=λr az hK hG=>by
    refine ab9 (wpS_modify (ab9 (wpS_get (acj ?_))));have ka:arrOf az=arrOf st:=hK.a;have kp:aci az=_:=hK.p;have kf:failedOf az=none:=hK.f.trans hB.failed;have kk:kindOf az=kd:=hK.k.trans hB.kind;show Q (failedOf az).isNone _;rw[kf];have hlen:r.toList.length=na-k+k2:=by
     have:=hG.2.length_eq;simp only[List.length_append,Array.length_toList,zx,zy]at this ⊢;exact this
    have Vk:sa+k+r.toList.length<=(arrOf st).size:=by omega
    have get:=λm=>(sD (sa+k) r.toList 0 (arrOf st) (by simpa using Vk) m).1
    simp only[Nat.add_zero]at get;have hX:((arrOf st).extract (sa+k) (sa+na)).toList++((arrOf st).extract (sa+na) (sa+na+k2)).toList=((arrOf st).toList.drop (sa+k)).take r.toList.length:=by
     rw[hlen,List.take_add,List.drop_drop,show sa+k+(na-k)=sa+na by omega]
     rw[show sa+na=sa+k+(na-k)by omega,ny,show sa+k+(na-k)=sa+na by omega,ny]
    refine fin _ _ (by show _=r.toList.zipIdx.foldl _ (arrOf st);rw[ka]) kp kk kf (Fy Vk (by rw[<- hX];exact hG.2)) (λm hm=>by rw[get m,if_neg ⋯]) ?_
    have ry:∀m,¬(sa+k<=m/\m<sa+k+r.toList.length)->R ρ (r.toList.zipIdx.foldl (λa (p,j)=>a.setIfInBounds (sa+k+j) p) (arrOf st)) m=R ρ (arrOf st) m:=λm hm=>h8 (by rw[get m,if_neg hm])
    have rz:∀m (h:m-(sa+k)<r.toList.length),sa+k<=m->R ρ (r.toList.zipIdx.foldl (λa (p,j)=>a.setIfInBounds (sa+k+j) p) (arrOf st)) m=ρ (r.toList[m-(sa+k)]):=λm h hm=>by
     refine dk ?_;rw[get m,if_pos ⋯,abY h]
    have low:∀z∈r.toList,∀i,sa<=i->i<sa+k->R ρ (arrOf st) i<=ρ z:=λz hz i i1 i2=>by
     rcases List.mem_append.mp (hG.2.mem_iff.mp hz)with hz|hz
     ·obtain⟨m,m1,m2,m3,m4⟩:=i9 hz
      rw[<- dk (ρ:=ρ) m4];exact c4 i m i1 ⋯ m2
     ·obtain⟨m,m1,m2,m3,m4⟩:=i9 hz
      have:=g1 i i1 i2;have:=c7 (sa+na) m ⋯ m1 ⋯
      rw[<- dk (ρ:=ρ) m4];omega
    have high:∀z∈r.toList,∀j,sa+na+k2<=j->j<sa+na+nb->ρ z<=R ρ (arrOf st) j:=λz hz j j1 j2=>by
     rcases List.mem_append.mp (hG.2.mem_iff.mp hz)with hz|hz
     ·obtain⟨m,m1,m2,m3,m4⟩:=i9 hz
      have:=g4 j j1 j2;have:=c4 m (sa+na-1) ⋯ ⋯ ⋯
      rw[<- dk (ρ:=ρ) m4];omega
     ·obtain⟨m,m1,m2,m3,m4⟩:=i9 hz
      rw[<- dk (ρ:=ρ) m4];exact c7 m j m1 ⋯ j2
    intro i j h1 h2 h3
    by_cases i1:i<sa+k
    ·rw[ry i ⋯]
     by_cases j1:j<sa+k
     ·rw[ry j ⋯];exact c4 i j h1 h2 ⋯
     ·by_cases j2:j<sa+k+r.toList.length
      ·rw[rz j ⋯ ⋯];exact low _ (List.getElem_mem _) i h1 i1
      ·rw[ry j ⋯]
       have:=g1 i h1 i1;have:=c7 (sa+na) j ⋯ ⋯ h3
       omega
    ·by_cases i2:i<sa+k+r.toList.length
     ·rw[rz i ⋯ ⋯]
      by_cases j2:j<sa+k+r.toList.length
      ·rw[rz j ⋯ ⋯]
       by_cases e:i=j
       ·subst e;exact ab3 _
       ·exact List.pairwise_iff_getElem.mp hG.1 _ _ ⋯ ⋯ ⋯
      ·rw[ry j ⋯];exact high _ (List.getElem_mem _) j ⋯ h3
     ·rw[ry i ⋯,ry j ⋯];exact c7 i j ⋯ h2 h3
   by_cases X3:na-k<=k2
   ·rw[if_pos X3]
    exact ab9 (wN hL hB.kind T done)
   ·rw[if_neg X3]
    exact ab9 (wM hL hB.kind T done)
end
end Vs
namespace Vs
open PySem PyProof.Rows
theorem Ch.modify{ρ:Keyed->Nat}{xs:Array Keyed}{f:Run->Run}(hf:∀r,(f r).1=r.1/\(f r).2.1=r.2.1):∀(l:List Run) (i s e:Nat),Ch ρ xs s e l->Ch ρ xs s e (l.modify i f)
 | [],i,s,e,h=>by rw[List.modify_nil];exact h
 | r::l,0,s,e,⟨h1,h2,h3,h4⟩=>by
  rw[List.modify_zero_cons];exact⟨(hf r).1.trans h1,by rw[(hf r).2];exact h2,by rw[(hf r).2];exact h3,by rw[(hf r).2];exact h4⟩
 | r::l,i+1,s,e,⟨h1,h2,h3,h4⟩=>by
  rw[List.modify_succ_cons];exact⟨h1,h2,h3,Ch.modify hf l i _ _ h4⟩
section
variable {M:Model}{Ar:Around}{E:Value->Shared->Prop}{s:Shared}{ρ:Keyed->Nat}{kd:SortKind}{P:Keyed->Prop}{a₀:Array Keyed}
theorem SI.zU{st:SortSt}(h:SI kd a₀ st)(p:Array Run):SI kd a₀ (setPending st p):=⟨h.perm,h.kind,h.failed⟩
def jO(lo n:Nat):StateT SortSt Sem (ForInStep (Option Unit×Nat)):=do
 modify λs=>setPending s ((aci s).push (lo,n,0))
 pure (ForInStep.yield (none,lo+n))
def ie(size pw:Nat):StateT SortSt Sem (Option Unit×Unit):=
 forIn [:size] ((none,()):Option Unit×Unit) λ_ _=>do
  let x <- get
  match(if(aci x).size>1 then(aci x)[(aci x).size-2]? else none)with
  | some (_,_,Y7) =>
   if Y7<=pw then pure (ace (none,()))
   else do
    let r <- mergeAt' ((aci x).size-2)
    if(!r)=true then pure (ace (some (),()))else pure (ForInStep.yield (none,()))
  | _=>pure (ace (none,()))
def il(size lo n:Nat):StateT SortSt Sem (ForInStep (Option Unit×Nat)):=do
 let x <- get
 match(aci x).back? with
 | some (s1,n1,_)=>do
  let r <- ie size (power' size (2*s1+n1) (2*s1+n1+n1+n) size)
  match r.fst with
  | some r=>pure (ace (some r,lo))
  | none=>do
   modify λs=>setPending s ((aci s).modify ((aci s).size-1) λx=>(x.fst,x.2.fst,power' size (2*s1+n1) (2*s1+n1+n1+n) size))
   jO lo n
 | _=>jO lo n
theorem mV{st:SortSt}{lo n:Nat}{Q:ForInStep (Option Unit×Nat)->SortSt->Prop}(hB:SI kd a₀ st)(hc:Ch ρ (arrOf st) 0 lo (aci st).toList)(hn:1<=n)(hs:Seg ρ (arrOf st) lo (lo+n))
  (q:∀az,SI kd a₀ az->Ch ρ (arrOf az) 0 (lo+n) (aci az).toList->Q (.yield (none,lo+n)) az):wpS M Ar E s (jO lo n) Q st:=by
 unfold jO;refine ab9 (wpS_modify (acj (q _ (hB.zU _) ?_)));show Ch ρ (arrOf st) 0 (lo+n) ((aci st).push (lo,n,0)).toList;rw[Array.toList_push];exact Ch.app.mpr ⟨lo,hc,rfl,hn,hs,rfl⟩
theorem pI{st:SortSt}{pw lo n:Nat}{Q:Option Unit×Unit->SortSt->Prop}(hL:gA M Ar E s ρ kd P)(h0:∀p∈a₀.toList,P p)(hB:SI kd a₀ st)(za:lo<=a₀.size)(hc:Ch ρ (arrOf st) 0 lo (aci st).toList)(hs:Seg ρ (arrOf st) lo (lo+n))
  (q:∀az,SI kd a₀ az->Ch ρ (arrOf az) 0 lo (aci az).toList->Seg ρ (arrOf az) lo (lo+n)->Q (none,()) az):wpS M Ar E s (ie a₀.size pw) Q st:=by
 unfold ie;refine wpS_forRange (I:=λx c az=>c=(none,())/\SI kd a₀ az/\Ch ρ (arrOf az) 0 lo (aci az).toList/\Seg ρ (arrOf az) lo (lo+n)) ?step ?fin ⟨rfl,hB,hc,hs⟩
 case fin =>
  rintro c az ⟨rfl,h1,h2,h3⟩;exact q az h1 h2 h3
 case step =>
  rintro x c az _ hx ⟨rfl,h1,h2,h3⟩;refine ab9 (wpS_get ?_)
  by_cases hz:(aci az).size>1
  ·rw[if_pos hz]
   have e:(aci az)[(aci az).size-2]?=some (aci az)[(aci az).size-2]:=Array.getElem?_eq_getElem ⋯
   rw[e];dsimp only
   split
   ·exact acj (q az h1 h2 h3)
   ·refine ab9 (mU hL h0 h1 za h2 ⋯ λBk b1 b2 b3 b4=>?_)
    simp only[Bool.not_true,acd,if_false];exact acj ⟨rfl,b1,b2,h3.congr λk hk _=>b4 k hk⟩
  ·rw[if_neg hz]
   exact acj (q az h1 h2 h3)
theorem wO{st:SortSt}{lo n:Nat}{Q:ForInStep (Option Unit×Nat)->SortSt->Prop}(hL:gA M Ar E s ρ kd P)(h0:∀p∈a₀.toList,P p)(hB:SI kd a₀ st)(za:lo<=a₀.size)(hc:Ch ρ (arrOf st) 0 lo (aci st).toList)(hn:1<=n)(hs:Seg ρ (arrOf st) lo (lo+n))
  (q:∀az,SI kd a₀ az->Ch ρ (arrOf az) 0 (lo+n) (aci az).toList->Q (.yield (none,lo+n)) az):wpS M Ar E s (il a₀.size lo n) Q st:=by
 unfold il;refine ab9 (wpS_get ?_)
 split
 ·refine ab9 (pI hL h0 hB za hc hs λaz b1 b2 b3=>?_)
  dsimp only;refine ab9 (wpS_modify (mV (b1.zU _) ?_ hn b3 q));show Ch ρ (arrOf az) 0 lo ((aci az).modify _ _).toList;rw[Array.toList_modify];refine Ch.modify ?_ _ _ _ _ b2;intro r;exact⟨rfl,rfl⟩
 ·exact mV hB hc hn hs q
theorem Pw(c:Prop)[Decidable c]{n:Nat}(h:2<=n):(if c then n-2-1 else n-2)+1<n:=by split<;>omega
local macro_rules|`(tactic| walk_at "s_rest")=>`(tactic| (unfold il ie jO;congr 1;funext x;cases e:(aci x).back? with
  | none=>rfl
  | some y=>(obtain⟨s1,n1,p1⟩:=y;dsimp only;congr 1;funext r;obtain⟨r1,r2⟩:=r;cases r1<;>rfl)))
theorem wpS_sortRuns{st:SortSt}{Q:Unit->SortSt->Prop}(hL:gA M Ar E s ρ kd P)(h0:∀p∈a₀.toList,P p)(hB:SI kd a₀ st)(hp:aci st=#[])(h2:2<=a₀.size)
  (h:∀az,SI kd a₀ az->Seg ρ (arrOf az) 0 a₀.size->Q () az):wpS M Ar E s sortRuns' Q st:=by
 rw[sortRuns'_eq];refine ab9 (wpS_get ?_);dsimp only;rw[hB.size];generalize minRun' a₀.size a₀.size 0=mr;refine ab9 (wpS_mono (wpS_forRange (I:=λx c az=>SI kd a₀ az/\∃lo,c=(none,lo)/\lo<=a₀.size/\(x<=lo\/lo=a₀.size)/\Ch ρ (arrOf az) 0 lo (aci az).toList)
  (Q:=λc az=>SI kd a₀ az/\c=(none,a₀.size)/\Ch ρ (arrOf az) 0 a₀.size (aci az).toList) ?step ?fin ⟨hB,0,rfl,Nat.zero_le _,.inl (ab3 _),by rw[hp];rfl⟩) ?post)
 case fin =>
  rintro c az ⟨jb,lo,rfl,l1,l2,hc⟩;have:lo=a₀.size:=by omega
  subst this;exact⟨jb,rfl,hc⟩
 case step =>
  rintro x c az _ hx ⟨jb,lo,rfl,l1,l2,hc⟩;dsimp only
  by_cases wX:lo>=a₀.size
  ·rw[if_pos wX]
   have:lo=a₀.size:=by omega
   subst this;exact acj ⟨jb,rfl,hc⟩
  ·rw[if_neg wX]
   refine ab9 (wpS_countRun hL h0 ⋯ ⋯ jb λm st1 f1 m1 m2 s1=>?_)
   dsimp only;have hc1:Ch ρ (arrOf st1) 0 lo (aci st1).toList:=by rw[f1.pend];exact hc.congr λk _ hk=>f1.same k hk
   have go:∀n Bk,1<=n->lo+n<=a₀.size->SI kd a₀ Bk->Ch ρ (arrOf Bk) 0 lo (aci Bk).toList->Seg ρ (arrOf Bk) lo (lo+n)->wpS M Ar E s (il a₀.size lo n) (λr az =>
     match r with
     | ace c'=>SI kd a₀ az/\c'=(none,a₀.size)/\Ch ρ (arrOf az) 0 a₀.size (aci az).toList
     | ForInStep.yield c'=>SI kd a₀ az/\∃lo,c'=(none,lo)/\lo<=a₀.size/\(x+1<=lo\/lo=a₀.size)/\Ch ρ (arrOf az) 0 lo (aci az).toList) Bk:=λn Bk n1 n2 b1 b2 b3 =>
    wO hL h0 b1 l1 b2 n1 b3 λaz b1 b2=>⟨b1,lo+n,rfl,n2,by omega,b2⟩
   by_cases iR:m<mr
   ·rw[if_pos iR]
    refine ab9 (wpS_lift (wpAny_rule ⟨rfl,?_⟩));refine ab9 (wpS_binarySort hL h0 ⋯ ⋯ f1.si s1 λBk f2 s2=>?_)
    simp only[Bool.not_true,acd,if_false];have z:=go (min (a₀.size-lo) mr) Bk ⋯ ⋯ f2.si (by rw[f2.pend];exact hc1.congr λk _ hk=>f2.same k hk) s2
    refine wpS_mono (Q:=_) (Eq.mpr (congrArg (λt=>wpS M Ar E s t _ Bk) (?_:_=il a₀.size lo (min (a₀.size-lo) mr))) z) ?_
    ·walk_at "s_rest"
    ·intro r dq hr
     cases r<;>exact hr
   ·rw[if_neg iR]
    have z:=go m st1 m1 ⋯ f1.si hc1 s1
    refine wpS_mono (Q:=_) (Eq.mpr (congrArg (λt=>wpS M Ar E s t _ st1) (?_:_=il a₀.size lo m)) z) ?_
    ·walk_at "s_rest"
    ·intro r dq hr
     cases r<;>exact hr
 case post =>
  rintro c az ⟨jb,rfl,hc⟩;dsimp only;have dm:(aci az).size<=a₀.size:=by have:=Ch.le hc;simp only[Array.length_toList]at this;omega
  refine ab9 (wpS_mono (wpS_forRange (I:=λx c az=>c=(none,())/\SI kd a₀ az/\Ch ρ (arrOf az) 0 a₀.size (aci az).toList/\((aci az).size+x<=a₀.size\/(aci az).size<=1))
   (Q:=λc az=>c=(none,())/\SI kd a₀ az/\Ch ρ (arrOf az) 0 a₀.size (aci az).toList/\(aci az).size<=1) ?fstep ?ffin ⟨rfl,jb,hc,.inl ⋯⟩) ?fpost)
  case ffin =>
   rintro c az ⟨rfl,b1,b2,b3⟩;exact⟨rfl,b1,b2,by omega⟩
  case fstep =>
   rintro x c az _ hx ⟨rfl,b1,b2,b3⟩;refine ab9 (wpS_get ?_)
   try dsimp only
   by_cases hz:(aci az).size<=1
   ·rw[if_pos hz]
    exact acj ⟨rfl,b1,b2,hz⟩
   ·rw[if_neg hz]
    refine ab9 (mU hL h0 b1 (ab3 _) b2 ?_ λBk c1 c2 c3 c4=>?_)
    ·exact Pw _ ⋯
    ·simp only[Bool.not_true,acd,if_false]
     exact acj ⟨rfl,c1,c2,by omega⟩
  case fpost =>
   rintro c az ⟨rfl,b1,b2,b3⟩;refine acj (h az b1 ?_);have hl:(aci az).toList.length<=1:=by simpa using b3
   generalize (aci az).toList=l at b2 hl
   match l,b2,hl with
   | [],b2,_=>have:0=a₀.size:=b2;omega
   | [r],⟨_,_,h3,h4⟩,_ =>
    have h4:0+r.2.1=a₀.size:=h4;rw[h4]at h3;exact h3
   | _::_::_,_,hl=>simp at hl
end
end Vs
namespace Vs
open PySem PyProof.Rows PySem.W
theorem dZ:∀a:List Int,HT.lexLt a a=false
 | []=>rfl
 | x::a=>by rw[HT.bT,if_pos rfl];exact dZ a
theorem fk:∀a b c:List Int,HT.lexLt a b=true->HT.lexLt b c=true->HT.lexLt a c=true
 | [],[],_,h,_=>by cases h
 | [],_::_,[],_,h=>by cases h
 | [],_::_,_::_,_,_=>rfl
 | _::_,[],_,h,_=>by cases h
 | _::_,_::_,[],_,h=>by cases h
 | x::a,y::b,z::c,h1,h2=>by
  rw[HT.bT]at h1 h2 ⊢
  by_cases e1:x=y
  ·rw[if_pos e1]at h1
   by_cases e2:y=z
   ·rw[if_pos e2]at h2
    rw[if_pos (e1.trans e2)];exact fk a b c h1 h2
   ·rw[if_neg e2]at h2
    have:=of_decide_eq_true h2;rw[if_neg ⋯];exact decide_eq_true ⋯
  ·rw[if_neg e1]at h1
   have h1:=of_decide_eq_true h1
   by_cases e2:y=z
   ·rw[if_neg ⋯];exact decide_eq_true ⋯
   ·rw[if_neg e2]at h2
    have:=of_decide_eq_true h2;rw[if_neg ⋯];exact decide_eq_true ⋯
theorem n6:∀a b:List Int,HT.lexLt a b=false->HT.lexLt b a=false->a=b
 | [],[],_,_=>rfl
 | [],_::_,h,_=>by cases h
 | _::_,[],_,h=>by cases h
 | x::a,y::b,h1,h2=>by
  rw[HT.bT]at h1 h2
  by_cases e1:x=y
  ·rw[if_pos e1]at h1
   rw[if_pos e1.symm]at h2;rw[e1,n6 a b h1 h2]
  ·rw[if_neg e1]at h1
   rw[if_neg (Ne.symm e1)]at h2;have:=of_decide_eq_false h1;have:=of_decide_eq_false h2;omega
def rk(d:Keyed->List Int)(l:List Keyed)(x:Keyed):Nat:=l.countP λp=>HT.lexLt (d p) (d x)
theorem pY{α:Type}{p q:α->Bool}:∀ {l:List α} {x:α},(∀y,p y=true->q y=true)->x∈l->p x=false->q x=true->l.countP p<l.countP q
 | y::l,x,h,hx,h1,h2=>by
  rcases ab6.mp hx with rfl|hx
  ·rw[List.countP_cons_of_neg (by rw[h1];decide),List.countP_cons_of_pos h2]
   exact Nat.lt_succ_of_le (List.countP_mono_left λy _=>h y)
  ·have ih:=pY h hx h1 h2
   rw[List.countP_cons,List.countP_cons];cases e:p y with
   | true=>rw[h y e];simpa using ih
   | false=>split<;>split<;>first|omega | (exfalso;simp_all)
theorem zP{d:Keyed->List Int}{l:List Keyed}{x y:Keyed}(hx:x∈l):decide (rk d l x<rk d l y)=HT.lexLt (d x) (d y):=by
 cases e:HT.lexLt (d x) (d y)with
 | true =>
  refine decide_eq_true (pY (x:=x) (λp hp=>fk _ _ _ hp e) hx (dZ _) e)
 | false =>
  refine decide_eq_false (Nat.not_lt.mpr (List.countP_mono_left λp _ hp=>?_));cases e2:HT.lexLt (d p) (d x)with
  | true=>rfl
  | false =>
   cases e3:HT.lexLt (d x) (d p)with
   | true=>rw[fk _ _ _ e3 hp]at e;cases e
   | false =>
    rw[n6 _ _ e2 e3]at hp;rw[hp]at e;cases e
section
variable {prog:Program}{w:World}{A:Around}{E:Value->Shared->Prop}{s:Shared}
theorem mH{b:Bool}{Q:Bool->Shared->Prop}:∀ {vs ws:List Value} {ns ms:List Int} (i:Nat) (fin:Bool),IntsAre vs ns->IntsAre ws ms->fin=decide (vs.length<ws.length)->Q (HT.lexLt ns ms) s->KatLex prog w A b fin Q (vs.zip ws) i s
 | _,_,_,_,i,fin,.nil,.nil,e,q=>by subst e;exact kat_nil q
 | _,_,_,_,i,fin,.nil,.cons _ _ _,e,q=>by subst e;rw[HT.gP]at q;exact kat_nil (by simpa using q)
 | _,_,_,_,i,fin,.cons _ _ _,.nil,e,q=>by subst e;rw[HT.gO]at q;exact kat_nil (by simpa using q)
 | _,_,_,_,i,fin,.cons n t h1,.cons m u h2,e,q=>by
  rw[List.zip_cons_cons];refine kat_cons (wpAny_eqBool_int ?_);rw[HT.bT]at q
  by_cases h:n=m
  ·rw[if_pos h]at q
   rw[show(n==m)=true from by simpa using h]
   exact kat_yes (mH (i+1) fin h1 h2 (by rw[e];simp) q)
  ·rw[if_neg h]at q
   rw[show(n==m)=false from by simpa using h]
   refine kat_no ?_;cases(b&&i==0)with
   | true=>exact oneLt_int q
   | false=>exact kat_one _ _ (lt_int q)
def qX(h:Heap)(v:Value)(ns:List Int):Prop:=∃a o xs n,v=.ref a/\h.get? a=some o/\o.cls=.type "tuple"/\o.data=.seq xs n/\IntsAre xs.toList ns
theorem qX.kept{h g:Heap}{v:Value}{ns:List Int}(t:qX h v ns)(k:∀b o,h.get? b=some o->g.get? b=some o):qX g v ns:=by
 obtain⟨a,o,xs,n,e,ho,r⟩:=t;exact⟨a,o,xs,n,e,k _ _ ho,r⟩
theorem AQ{b:Bool}{v u:Value}{ns ms:List Int}{Q:Bool->Shared->Prop}(h1:qX s.heap v ns)(h2:qX s.heap u ms)(q:Q (HT.lexLt ns ms) s):wpAny (model prog w) A (keyLt' (tuples' b) v u) Q E s:=by
 obtain⟨a,o,xs,n,rfl,ho,hc,hd,hi⟩:=h1;obtain⟨a2,o2,xs2,n2,rfl,Ij,Hb,hd2,Ig⟩:=h2;exact kat_lt ho hd Ij hd2 (mH 0 _ hi Ig (by simp) q)
theorem IQ{b:Bool}{l:List Keyed}{d:Keyed->List Int}(h:∀x∈l,qX s.heap x.1 (d x)):gA (model prog w) A E s (rk d l) (tuples' b) (λx=>x∈l):=λx y st Q hx hy hk q=>by
 rw[zP hx]at q;rw[lt'_eq];refine ab9 (wpS_get ?_);rw[hk];exact ab9 (wpS_lift (wpAny_attempt (AQ (h x hx) (h y hy) ⟨rfl,acj q⟩)))
theorem Ey{vs:List Value}{Q:SortKind->Shared->Prop}(hl:0<vs.length)(h:∀v∈vs,∃ns,qX s.heap v ns/\ns≠[])(q:Q (tuples' true) s):wpAny (model prog w) A (keyKind' vs.toArray) Q E s:=by
 have key:∀vs:List Value,(∀v∈vs,∃ns,qX s.heap v ns/\ns≠[])->∃fs,KatTups s.heap vs fs/\fs.length=vs.length/\∀v∈fs,∃n t,v=Value.int n t:=by
  intro vs
  induction vs with
  | nil=>intro _;exact⟨[],KatTups.nil,rfl,λv hv=>by cases hv⟩
  | cons v vs ih =>
   intro h;obtain⟨ns,⟨a,o,xs,n,rfl,ho,hc,hd,hi⟩,cy⟩:=h v (ab8 ..);obtain⟨fs,f1,f2,f3⟩:=ih λu hu=>h u (ab1 _ hu);obtain⟨f,hf,hn⟩:∃f,xs[0]?=some f/\∃n t,f=Value.int n t:=by
    rw[<- Array.getElem?_toList];generalize xs.toList=ys at hi;cases hi with
    | nil=>exact absurd rfl cy
    | cons n t _=>exact⟨_,rfl,n,t,rfl⟩
   refine⟨f::fs,KatTups.cons ho hc hd hf f1,by simp [f2],λv hv=>?_⟩
   rcases ab6.mp hv with rfl|hv
   ·exact hn
   ·exact f3 v hv
 obtain⟨fs,f1,f2,f3⟩:=key vs h;refine kat_kind (T:=.type "int") f1 ⋯ (λv hv=>?_) rfl q
 obtain⟨n,t,rfl⟩:=f3 v hv;exact Looks.now
theorem iU{a:Addr}{vs:List Value}{n:Nat}{kd:SortKind}{ρ:Keyed->Nat}{P:Keyed->Prop}{Pf:PySem.Fin->Shared->Prop}(ho:s.heap.get? a=some (seqObj "list" vs.toArray n))(hz:vs.length<=aca)(h0:∀p∈(pairsOf vs).toList,P p)
  (hk:2<=vs.length->∀g:Heap,(∀b o,b≠a->s.heap.get? b=some o->g.get? b=some o)->(∀Q:SortKind->Shared->Prop,Q kd {s with heap:=g}->wpAny (model prog w) A (keyKind' vs.toArray) Q E {s with heap:=g})/\gA (model prog w) A E {s with heap:=g} ρ kd P)
  (h:∀(xs:Array Keyed) (g:Heap) (c:Nat),xs.Perm (pairsOf vs)->Seg ρ xs 0 vs.length->(∀b o,b≠a->s.heap.get? b=some o->g.get? b=some o)->g.get? a=some (seqObj "list" (xs.map (·.2)) c)->Pf (.done (.ret .none)) {s with heap:=g}):
  wpAny (model prog w) A (Builtin.«list.sort» ⟨[.ref a],[]⟩) Pf E s:=by
 rw[list_sort_plain];have ha:a<s.heap.objs.size:=Heap.lt_size ho;have hsz:vs.toArray.size=vs.length:=by simp
 refine abW (listItems_at ho rfl ?_);refine abW (listUpdate_at ho rfl ?_ (by rw[hsz];exact hz) (Nat.zero_le _))
 obtain⟨e1,ho1⟩:∃e1,(s.heap.update a (Obj.mapSeq λ_=>#[])).get? a=some (seqObj "list" #[] e1):=⟨_,get?_update_seq ho (λ_=>#[])⟩;refine abW (seqEpoch_at ho1 rfl ?_);refine abW (wpAny_newTuple ?_ (by show vs.length<=_;exact hz))
 refine abW (wpAny_newList ?_ (Nat.zero_le _));refine wpAny_holding ?_;have keep:∀b o,b≠a->s.heap.get? b=some o->(((s.heap.update a (Obj.mapSeq λ_=>#[])).push (seqObj "tuple" vs.toArray 0)).push (seqObj "list" #[] 0)).get? b=some o:=λb o hb e =>
  abX _ (abX _ ((Heap.get?_update_other _ _ (Ne.symm hb)).trans e))
 have Vu:(((s.heap.update a (Obj.mapSeq λ_=>#[])).push (seqObj "tuple" vs.toArray 0)).push (seqObj "list" #[] 0)).get? a=some (seqObj "list" #[] e1):=abX _ (abX _ ho1);show wpAny (model prog w) A _ Pf E {s with heap:=((s.heap.update a (Obj.mapSeq λ_=>#[])).push (seqObj "tuple" vs.toArray 0)).push (seqObj "list" #[] 0)}
 dsimp only;generalize hg6:((s.heap.update a (Obj.mapSeq λ_=>#[])).push (seqObj "tuple" vs.toArray 0)).push (seqObj "list" #[] 0)=g6 at keep Vu;have fin:∀xs:Array Keyed,xs.Perm (pairsOf vs)->Seg ρ xs 0 vs.length->Pf (.done (.ret .none)) {s with heap:=g6.update a (Obj.mapSeq λ_=>xs.map (·.2))}:=λxs hp hs =>
  h xs _ _ hp hs (λb o hb e=>(Heap.get?_update_other _ _ (Ne.symm hb)).trans (keep b o hb e)) (get?_update_seq Vu λ_=>xs.map (·.2))
 by_cases h2:vs.toArray.size<2
 ·rw[if_pos h2,if_pos h2]
  refine abW (ab0 ?_);rw[StateT.run_pure];refine abW (ab0 ?_);dsimp only;refine abW (seqEpoch_at Vu rfl ?_);refine abW (listUpdate_at Vu rfl ?_ (Nat.zero_le _) (by rw[Array.size_map];show(pairsOf vs).size<=_;rw[pairsOf_size];exact Nat.le_succ_of_le hz))
  simp only[bne_self_eq_false,acd,if_false];refine ab0 (fin _ (Array.Perm.refl _) λi j _ lu hj=>?_);have:i=j:=by omega
  subst this;exact ab3 _
 ·rw[if_neg h2,if_neg h2]
  obtain⟨k1,k2⟩:=hk ⋯ g6 keep
  refine abW (k1 _ ?_);refine abW (wpAny_mono (wpS_sortRuns (a₀:=pairsOf vs) (kd:=kd) (st:=SortSt.mk' kd (vs.toArray.zip vs.toArray) #[] 7 none)
   (Q:=λ_ az=>SI kd (pairsOf vs) az/\Seg ρ (arrOf az) 0 (pairsOf vs).size) k2 h0 ⟨Array.Perm.refl _,rfl,rfl⟩ rfl (by rw[pairsOf_size];omega) λaz a1 a2=>⟨a1,a2⟩) ?_ λ_ _ e=>e)
  rintro⟨⟨⟩,az⟩ s' ⟨rfl,hp,hs⟩;dsimp only;refine abW (seqEpoch_at Vu rfl ?_);refine abW (listUpdate_at Vu rfl ?_ (Nat.zero_le _) (by refine Nat.le_trans (Nat.le_of_eq ((Array.size_map ..).trans (hp.size.trans (pairsOf_size _)))) ?_;exact Nat.le_succ_of_le hz))
  rw[hp.failed];simp only[bne_self_eq_false,acd,if_false];rw[pairsOf_size]at hs;exact ab0 (fin _ hp.perm hs)
theorem yj{l:Addr}{vs:List Value}{kd:SortKind}{ρ:Keyed->Nat}{P:Keyed->Prop}{Q:Value->Shared->Prop}(hl:s.heap.IsList l vs.toArray)(hz:vs.length<=aca)(h0:∀p∈(pairsOf vs).toList,P p)
  (hk:2<=vs.length->∀(A':Around) (E':Value->Shared->Prop) (g:Heap),(∀b o,s.heap.get? b=some o->g.get? b=some o)->(∀Q:SortKind->Shared->Prop,Q kd {s with heap:=g}->wpAny (model prog w) A' (keyKind' vs.toArray) Q E' {s with heap:=g})/\gA (model prog w) A' E' {s with heap:=g} ρ kd P)
  (h:∀(xs:Array Keyed) (g:Heap) (c:Nat),xs.Perm (pairsOf vs)->Seg ρ xs 0 vs.length->(∀b o,s.heap.get? b=some o->g.get? b=some o)->g.get? (s.heap.objs.size+1)=some (seqObj "list" (xs.map (·.2)) c)->Q (.ref (s.heap.objs.size+1)) {s with heap:=g}):
  wpAny (model prog w) A (call (.builtin "sorted") [.ref l]) Q E s:=by
 refine Calls.call_function_entry kind_sorted plain_sorted entry_sorted (args_sorted1 _) ?_;unfold Builtin.«sorted»;refine abW (m:=checkCount "sorted" 1 1 _) (ab0 ?_);refine abW (collect_list hl ?_ hz);refine abW (wpAny_newList ?_ hz);have hsz:((s.heap.push (seqObj "list" #[] 0)).update s.heap.objs.size (Obj.mapSeq (·++vs.toArray))).objs.size=s.heap.objs.size+1:=by
  rw[Heap.size_update,size_push']
 have Pn:(((s.heap.push (seqObj "list" #[] 0)).update s.heap.objs.size (Obj.mapSeq (·++vs.toArray))).push (seqObj "list" vs.toArray 0)).get? (s.heap.objs.size+1)=some (seqObj "list" vs.toArray 0):=by
  rw[<- hsz];exact Heap.get?_push_size _ rfl
 have keep:∀b o,s.heap.get? b=some o->(((s.heap.push (seqObj "list" #[] 0)).update s.heap.objs.size (Obj.mapSeq (·++vs.toArray))).push (seqObj "list" vs.toArray 0)).get? b=some o:=λb o e=>by
  have iR:b<s.heap.objs.size:=Heap.lt_size e;exact abX _ ((Heap.get?_update_other _ _ (Ne.symm (Nat.ne_of_lt iR))).trans (abX _ e))
 have ne:∀b o,s.heap.get? b=some o->b≠s.heap.objs.size+1:=λb o e=>Nat.ne_of_lt (Nat.lt_succ_of_lt (Heap.lt_size e));show wpAny _ _ _ _ _ {s with heap:=((s.heap.push (seqObj "list" #[] 0)).update s.heap.objs.size (Obj.mapSeq (·++vs.toArray))).push (seqObj "list" vs.toArray 0)}
 rw[hsz];refine abW (wpAny_holding (wpAny_call_entry slot_list_sort ⟨_,Pn,rfl⟩ entry_list_sort (iU (kd:=kd) (ρ:=ρ) (P:=P) Pn hz h0 (λh2 g kg=>hk h2 _ _ g λb o e=>kg b o (ne b o e) (keep b o e)) λxs g c a1 a2 a3 a4=>⟨_,rfl,?_⟩) (args_list_sort _)));exact ab0 ⟨_,rfl,h xs g c a1 a2 (λb o e=>a3 b o (ne b o e) (keep b o e)) a4⟩
end
end Vs
namespace Vc
open PySem L2
def toV:Value->V
 | .ref a=>.ref a
 | _=>.aQ
theorem GP{us:List V}{its:List Value}(r:Vals us its)(h:∀u∈us,∃a,u=.ref a):us=its.map toV:=by
 induction r with
 | nil=>rfl
 | cons r _ ih =>
  obtain⟨a,rfl⟩:=h _ (ab8 ..);cases r;rw[List.map_cons,<- ih λu hu=>h u (ab1 _ hu)];rfl
theorem J9{its:List Value}(h:∀v∈its,∃a,v=.ref a):Vals (its.map toV) its:=by
 induction its with
 | nil=>exact .nil
 | cons v its ih =>
  obtain⟨a,rfl⟩:=h _ (ab8 ..);exact .cons rfl (ih λu hu=>h u (ab1 _ hu))
theorem fH{α:Type}:∀l:List α,l.zip l=l.map λx=>(x,x)
 | []=>rfl
 | x::l=>by rw[List.zip_cons_cons,List.map_cons,fH l]
theorem ux{X:Cx}:cR X (.builtin "sorted") (λxs H Q=>∃(p:Addr) (us:List V) (dd:V->List Int),xs=[.ref p]/\f7 X.K H p us/\(∀u∈us,(∃a,u=.ref a/\k6 X.K H a ((dd u).map V.int))/\dd u≠[]) /\
  ∀(ud:List V),ud.Perm us->ud.Pairwise (λx y=>HT.lexLt (dd y) (dd x)=false)->∀l,H l=none->Q (.ref l) (upd H l (.lst ud))):=by
 intro pins s σ H xs L0 Q I r h;obtain⟨p,us,dd,rfl,hq,hu,q⟩:=h;obtain⟨u,rfl,rx⟩:=vals1 r;cases rx;obtain⟨its,rv,pl,hz⟩:=I.list hq;have hlen:=rv.length;have eus:us=its.map toV:=GP rv λu h=>by obtain⟨⟨a,e,_⟩,_⟩:=hu u h;exact⟨a,e⟩
 have zh:∀v∈its,∃a,v=.ref a:=λv hv=>by
  obtain⟨i,hi,e⟩:=List.mem_iff_getElem.mp hv;obtain⟨u,hu1,ru⟩:=rv.get (i:=i) (x:=us[i]'⋯) (abY _)
  rw[abY hi]at hu1;cases hu1;obtain⟨⟨a,e2,_⟩,_⟩:=hu (us[i]'⋯) (List.getElem_mem _)
  rw[e2]at ru;exact⟨a,by rw[<- e];exact ru⟩
 have tup:∀v∈its,Vs.qX s.heap v (dd (toV v))/\dd (toV v)≠[]:=λv hv=>by
  obtain⟨a,rfl⟩:=zh v hv;have hm:toV (.ref a)∈us:=by rw[eus];exact List.mem_map.mpr ⟨_,hv,rfl⟩
  obtain⟨⟨b,e,hT⟩,cy⟩:=hu _ hm;cases e;obtain⟨ts,r1,⟨o,ho,hc,n,hd⟩,_⟩:=I.tuple hT;exact⟨⟨a,o,ts.toArray,n,rfl,ho,hc,hd,intsAre_of r1⟩,cy⟩
 have mem:∀x:PyProof.Rows.Keyed,x∈(PyProof.Rows.pairsOf its).toList->x.1∈its/\x.1=x.2:=λx hx=>by
  rw[PyProof.Rows.pairsOf_toList,fH]at hx;obtain⟨v,hv,rfl⟩:=List.mem_map.mp hx;exact⟨hv,rfl⟩
 refine Vs.yj (kd:=PyProof.Rows.tuples' true) (ρ:=Vs.rk (λx=>dd (toV x.1)) (PyProof.Rows.pairsOf its).toList) (P:=λx=>x∈(PyProof.Rows.pairsOf its).toList) pl.isList ⋯ (λ_ h=>h) (λh2 A' E' g kg=>⟨λQ hQ=>?_,?_⟩) λxs g c hp hs kg hg=>?_
 ·exact Vs.Ey (s:={s with heap:=g}) ⋯ (λv hv=>⟨_,(tup v hv).1.kept kg,(tup v hv).2⟩) hQ
 ·exact Vs.IQ (s:={s with heap:=g}) λx hx=>(tup x.1 (mem x hx).1).1.kept kg
 ·have dm:xs.toList.Perm (PyProof.Rows.pairsOf its).toList:=Array.perm_iff_toList_perm.mp hp
  have hsz:xs.size=its.length:=by have:=hp.size_eq;rw[PyProof.Rows.pairsOf_size]at this;exact this
  have lx:∀x∈xs.toList,x.1∈its/\x.1=x.2:=λx hx=>mem x (dm.mem_iff.mp hx);have perm:(xs.toList.map λx=>toV x.2).Perm us:=by
   rw[eus];refine(dm.map λx=>toV x.2).trans ?_;rw[PyProof.Rows.pairsOf_toList,fH,List.map_map];exact List.Perm.refl _
  have eq2:xs.toList.map (λx=>toV x.2)=(xs.map (·.2)).toList.map toV:=by
   rw[Array.toList_map,List.map_map];rfl
  refine⟨.ref (s.heap.objs.size+1),_,I.laid (t':=s.toks) (o:=.lst (xs.toList.map λx=>toV x.2)) kg (Nat.le_succ _) ⟨?_,(xs.map (·.2)).toList,c,?_,hg⟩,rfl,q _ perm ?_ _ (I.bG.fresh (Nat.le_succ _))⟩
  ·rw[perm.length_eq];exact hz
  ·rw[eq2]
   refine J9 λv hv=>?_;rw[Array.toList_map]at hv;obtain⟨x,hx,rfl⟩:=List.mem_map.mp hv;have:=lx x hx;exact zh _ (this.2 ▸ this.1)
  ·rw[List.pairwise_map]
   refine List.pairwise_iff_getElem.mpr λi j hi hj lu=>?_;have xH:i<xs.size:=by simpa using hi
   have He:j<xs.size:=by simpa using hj
   have h1:=hs i j (Nat.zero_le _) (Nat.le_of_lt lu) ⋯
   rw[Vs.dk (Array.getElem?_eq_getElem xH),Vs.dk (Array.getElem?_eq_getElem He)]at h1;have e1:xs.toList[i]=xs[i]:=rfl;have e2:xs.toList[j]=xs[j]:=rfl;rw[e1,e2];have m1:=lx xs[i] (by simp)
   have m2:=lx xs[j] (by simp)
   have:=Vs.zP (d:=λx=>dd (toV x.1)) (l:=(PyProof.Rows.pairsOf its).toList) (x:=xs[j]) (y:=xs[i]) (dm.mem_iff.mp (by simp))
   rw[decide_eq_false ⋯]at this
   rw[<- m1.2,<- m2.2];exact this.symm
variable [KF]
variable {G:GE}{k:Nat}{S:Stat}
def eW:D->List Int
 | .tup xs=>xs.map ly
 | .int i=>[i]
 | _=>[]
def mI(x y:D):Bool:=!HT.lexLt (eW y) (eW x)
def fC(xs:List D):List D:=xs.mergeSort mI
def eU:D->Bool
 | .tup xs=>xs.all isInt&&!xs.isEmpty
 | _=>false
theorem lE(a b c:D)(h1:mI a b=true)(h2:mI b c=true):mI a c=true:=by
 unfold mI at *;simp only[Bool.not_eq_true']at *;cases e:HT.lexLt (eW c) (eW a)with
 | false=>rfl
 | true =>
  cases e2:HT.lexLt (eW c) (eW b)with
  | true=>rw[h2]at e2;cases e2
  | false =>
   cases e3:HT.lexLt (eW b) (eW c)with
   | true=>rw[Vs.fk _ _ _ e3 e]at h1;cases h1
   | false=>rw[Vs.n6 _ _ e2 e3]at e;rw[e]at h1;cases h1
theorem AR(a b:D):(mI a b||mI b a)=true:=by
 unfold mI;cases e:HT.lexLt (eW b) (eW a)with
 | false=>rfl
 | true =>
  cases e2:HT.lexLt (eW a) (eW b)with
  | false=>rfl
  | true=>have:=Vs.fk _ _ _ e e2;rw[Vs.dZ]at this;cases this
theorem er(xs:List D):(fC xs).Perm xs:=List.mergeSort_perm xs mI
theorem fS(xs:List D):(fC xs).Pairwise λx y=>mI x y=true:=List.pairwise_mergeSort lE AR xs
theorem ints_map:∀ {xs:List D},xs.all isInt=true->(xs.map ly).map D.int=xs
 | [],_=>rfl
 | x::xs,h=>by
  rw[List.all_cons,Bool.and_eq_true]at h;cases x with
  | int i=>rw[List.map_cons,List.map_cons,ints_map h.2];rfl
  | _=>exact absurd h.1 (by simp [isInt])
theorem eK{d:D}(h:eU d=true):d=.tup ((eW d).map D.int):=by
 cases d with
 | tup xs =>
  unfold eU at h;rw[Bool.and_eq_true]at h;show D.tup xs=.tup ((xs.map ly).map D.int);rw[ints_map h.1]
 | _=>exact absurd h (by simp [eU])
theorem gT{α:Type}{r:α->α->Prop}:∀ {l m:List α},l.Perm m->(∀a∈l,∀b∈l,r a b->r b a->a=b)->l.Pairwise r->m.Pairwise r->l=m
 | [],m,h,_,_,_=>(List.nil_perm.mp h).symm
 | a::l,[],h,_,_,_=>by have:=h.length_eq;simp at this
 | a::l,b::m,h,Wj,h1,h2=>by
  have hb:b∈a::l:=h.symm.mem_iff.mp (ab8 ..);have ha:a∈b::m:=h.mem_iff.mp (ab8 ..);rw[List.pairwise_cons]at h1 h2;have e:a=b:=by
   rcases ab6.mp hb with e|hb
   ·exact e.symm
   ·rcases ab6.mp ha with e|ha
    ·exact e
    ·exact Wj a (ab8 ..) b (ab1 _ hb) (h1.1 b hb) (h2.1 a ha)
  subst e;rw[gT h.cons_inv (λx hx y hy=>Wj x (ab1 _ hx) y (ab1 _ hy)) h1.2 h2.2]
theorem oK{xs ys:List D}(h:xs.all eU=true)(hp:ys.Perm xs)(hs:ys.Pairwise λx y=>mI x y=true):ys=fC xs:=by
 refine gT (hp.trans (er xs).symm) (λa ha b hb h1 h2=>?_) hs (fS xs);have ia:=eK (ach.mp h a (hp.mem_iff.mp ha));have ib:=eK (ach.mp h b (hp.mem_iff.mp hb));unfold mI at h1 h2;simp only[Bool.not_eq_true']at h1 h2;rw[ia,ib,Vs.n6 _ _ h2 h1]
def kH:List D->(EV->Prop)->Prop
 | [.lst xs],Q=>xs.all eU=true/\Q (.own (fC xs))
 | _,_=>False
def HL(F:Hp):V->List Int
 | .ref a=>match F a with
  | some (.tup vs)=>vs.map λv=>match v with|.int i=>i|_=>0
  | _=>[]
 | _=>[]
theorem rF{F:Hp}{v:V}{d:D}(r:Rep F v d)(h:eU d=true):HL F v=eW d/\∃a,v=.ref a/\F a=some (.tup ((eW d).map V.int)):=by
 cases r with
 | tup hf rl =>
  unfold eU at h;rw[Bool.and_eq_true]at h;have e:=rl.ints h.1;subst e;refine⟨?_,_,rfl,hf⟩;unfold HL;dsimp only;rw[hf];dsimp only;rw[List.map_map];exact(List.map_congr_left (λx _=>rfl)).trans (List.map_id _)
 | _=>exact absurd h (by simp [eU])
theorem wc{F:Hp}:∀ {vs:List V} {xs:List D},aC F vs xs->xs.all eU=true->xs=vs.map λv=>.tup ((HL F v).map D.int)
 | _,_,.nil,_=>rfl
 | _,_,.cons r t,h=>by
  rw[List.all_cons,Bool.and_eq_true]at h;rw[List.map_cons,<- wc t h.2,(rF r h.1).1,<- eK h.1]
theorem aC.mem{F:Hp}:∀ {vs:List V} {xs:List D},aC F vs xs->∀v∈vs,∃d∈xs,Rep F v d
 | _,_,.cons r t,v,hv=>by
  rcases ab6.mp hv with rfl|hv
  ·exact⟨_,ab8 ..,r⟩
  ·obtain⟨d,hd,rd⟩:=aC.mem t v hv
   exact⟨d,ab1 _ hd,rd⟩
theorem zO{F:Hp}{f:V->D}:∀ {vs:List V},(∀v∈vs,Rep F v (f v))->aC F vs (vs.map f)
 | [],_=>.nil
 | v::vs,h=>.cons (h v (ab8 ..)) (zO λu hu=>h u (ab1 _ hu))
theorem vg:yF G k S (.builtin "sorted") kH:=⟨λK xs H Q=>∃(p:Addr) (us:List V) (dd:V->List Int),xs=[.ref p]/\f7 K H p us/\(∀u∈us,(∃a,u=.ref a/\k6 K H a ((dd u).map V.int))/\dd u≠[]) /\
  ∀(ud:List V),ud.Perm us->ud.Pairwise (λx y=>HT.lexLt (dd y) (dd x)=false)->∀l,H l=none->Q (.ref l) (upd H l (.lst ud)),λ_ _ ok=>ux,λY F H ah σ vs ds Qd Q R r q g=>by
 unfold kH at q
 split at q
 ·rename_i xs
  obtain⟨v,rfl,rv⟩:=r.one;obtain⟨p,us,rfl,h1,h2⟩:=rv.lst;have all:=ach.mp q.1;refine⟨p,us,HL F,rfl,.inl h1,λu hu=>?_,λud hp hs=>?_⟩
  ·obtain⟨d,hd,rd⟩:=h2.mem u hu
   obtain⟨e1,a,rfl,e2⟩:=rF rd (all d hd);refine⟨⟨a,rfl,.of (by rw[e1];exact R.fr _ _ e2)⟩,?_⟩
   rw[e1];have hi:=all d hd;cases d with
   | tup ys =>
    unfold eU at hi;rw[Bool.and_eq_true]at hi;intro z;have:ys=[]:=by simpa [eW]using z
    subst this;exact absurd hi.2 ∅
   | _=>exact absurd hi (by simp [eU])
  ·have ex:=wc h2 q.1
   have rep:∀v∈ud,Rep F v (.tup ((HL F v).map D.int)):=λv hv=>by
    obtain⟨d,hd,rd⟩:=h2.mem v (hp.mem_iff.mp hv);rw[(rF rd (all d hd)).1,<- eK (all d hd)];exact rd
   have key:∀v,eW (.tup ((HL F v).map D.int))=HL F v:=λv=>by
    show((HL F v).map D.int).map ly=_;rw[List.map_map];exact(List.map_congr_left (λx _=>rfl)).trans (List.map_id _)
   have e:ud.map (λv=>D.tup ((HL F v).map D.int))=fC xs:=by
    refine oK q.1 (by rw[ex];exact hp.map _) ?_
    rw[List.pairwise_map];refine hs.imp λ{x y} h=>?_;unfold mI;rw[key,key,h];rfl
   have rl:=zO rep;rw[e]at rl;exact g.own R rl q.2
 ·exact q.elim⟩
end Vc
namespace Vc
open PySem L2
variable [KF]
variable {G:GE}{k:Nat}{S:Stat}
def Et(i:Nat)(j:Int)(d:D)(σ:Sd)(Q:Sd->Prop):Prop:=match σ[i]? with
 | some (some (.own xs))=>match zk xs.length j with
  | some m=>Q (σ.set i (some (.own (xs.set m d))))
  | none=>False
 | _=>False
def wu(i:Nat)(tx:TV)(te:TD):b5:=λDe σ=>te σ λd av=>vB av i/\tx av λy aL=>match cS aL y with
 | some (.int j)=>Et i j d aL De.nx
 | _=>False
theorem Jz{X:Cx}{st:Stmt}{t t':TS}(h:PS X st t)(i:∀Dn σ H,t' Dn σ H->t Dn σ H):PS X st t':=λpins s σ H Dn I q=>h pins s σ H Dn I (i Dn σ H q)
theorem yf(i:Nat){x:Str}{ix e:Expr}{tx:TV}{te:TD}{pos gy iE:Pos}(he:ED G k S e te)(hx:EO G k S ix tx)(ho:EO G k S (.Name x iE) (ae i))
  (hs:∀line env,swapsWithSole [.Subscript (.Name x iE) ix gy] e line env=pure false:=by intro _ _;rfl) (hw:∀env,swappedStores [.Subscript (.Name x iE) ix gy] e env=pure none:=by intro _;rfl)
  (h1:∀env,(assignEach [.Subscript (.Name x iE) ix gy] env).map (·.2)=[assign (.Subscript (.Name x iE) ix gy) env]:=by intro _;rfl)
  (ha:∀env v,assign (.Subscript (.Name x iE) ix gy) env v=(do
   let ov <- holding [v] (eval (.Name x iE) env)
   let iv <- holding [v,ov] (eval ix env)
   standAt gy
   holding [v,ov,iv] (setItem ov iv v)
   release [v,ov,iv] []):=by intro _ _;rfl):ES G k S (.Assign [.Subscript (.Name x iE) ix gy] e pos) (wu i tx te):=.mk λX Y ok =>
 Jz (Fs (he X Y ok) (Ss (ho X Y ok) (hx X Y ok) set_list (ha _)) (hs _ _) (hw _) (h1 _)) λDn σ H q=>by
  obtain⟨F,ah,De,R,q,K⟩:=q;refine⟨F,ah,_,R,q,λv H1 F1 d av s1 R1 r1 q1=>?_⟩;obtain⟨⟨ys,e0⟩,q1⟩:=q1;refine⟨F1,av,λov aL=>ov=.var i/\aL=av,R1,?_,λv2 H2 F2 ov aL s2 R2 r2 q2=>?_⟩
  ·unfold ae;rw[e0];exact⟨rfl,rfl⟩
  ·obtain⟨rfl,rfl⟩:=q2
   have r2:σ[i]?=some (some v2):=r2;refine⟨F2,aL,_,R2,q1,λv3 H3 F3 y eY s3 R3 r3 q3=>?_⟩
   split at q3
   ·rename_i j ej
    unfold Et at q3
    split at q3
    ·rename_i xs ex
     split at q3
     ·rename_i m em
      obtain⟨a,vs,w1,w2,w3,w4,w5⟩:=R3.own i xs ex;rw[r2]at w1;cases w1;have rj:=(R3.cS r3 ej).int;subst rj;refine⟨a,vs,j,m,rfl,rfl,w2,by rw[w3.length];exact em,?_⟩
      exact K.nx _ _ F3 _ ((s1.trans s2).trans s3) (R3.write ex r2 (aC.set ((r1.mono s2).mono s3) m w3)) q3
     ·exact q3.elim
    ·exact q3.elim
   ·exact q3.elim
abbrev hE:=List D->List D->(B->List D->Prop)->Prop
def sY(sp:hE):Sp:=λvs H Q _=>∃F xs ds a us rest Qd,vs=.ref a::rest/\mv F H/\H a=some (.lst us)/\aC F us xs/\F a=none/\aC F rest ds/\sp xs ds Qd /\
 ∀v H' F' b ys ud,ao F F'->ao F' H'->(∀c o,c≠a->H c=some o->H' c=some o)->H' a=some (.lst ud)->aC F' ud ys->F' a=none->(∀c o,F' c=some o->F c=some o\/Nw H c o)->B6 H F' H' v b->Qd b ys->Q v H'
def eP(G:GE)(k:Nat)(x:Str)(sp:hE):Prop:=∃f fd ps,ck G.P G.w G.K G.mg G.base iA k f fd ps (sY sp)/\G.mg x=some (.ref f)/\PySem.W.keepIn G.K (.ref f)=true/\Binds G.K fd ps []
theorem eP.mono{x:Str}{sp:hE}{j:Nat}(h:eP G j x sp)(l:j<=k):eP G k x sp:=by
 obtain⟨f,fd,ps,h1,h2,h3,h4⟩:=h;exact⟨f,fd,ps,h1.mono l,h2,h3,h4⟩
theorem dc.FL{ah:Sd}{σ:St}{a:Addr}{i:Nat}{xs ys:List D}(h:dc ah σ a)(e:ah[i]?=some (some (.own xs))):dc (ah.set i (some (.own ys))) σ a:=by
 refine⟨λj js e1 z=>?_,λ⟨j,o,c,e1,e2,hm⟩=>?_⟩
 ·rcases gs e1 with⟨rfl,_⟩|⟨_,e1⟩
  ·exact h j xs e z
  ·exact h j js e1 z
 ·rcases gs e1 with⟨_,z⟩|⟨_,e1⟩
  ·cases z
  ·exact h.QC ⟨j,o,c,e1,e2,hm⟩
theorem RS.Ci{Y:bz}{F F':Hp}{ah:Sd}{σ:St}{H H':Hp}{i:Nat}{xs ys:List D}{a:Addr}{us:List V}(R:RS Y F ah σ H)(e:ah[i]?=some (some (.own xs)))(h:σ[i]?=some (some (.ref a)))(s1:ao F F')(s2:ao F' H')(s3:∀c o,c≠a->H c=some o->H' c=some o)
  (ha:H' a=some (.lst us)) (r:aC F' us ys) (fa:F' a=none) (fr:∀c o,F' c=some o->F c=some o\/Nw H c o):RS Y F' (ah.set i (some (.own ys))) σ H':=by
 obtain⟨b,vs,w1,w2,w3,w4,w5⟩:=R.own i xs e;rw[h]at w1;cases w1;have hl:i<ah.length:=(ab2.mp e).1;have AF:wU Y F' (ah.set i (some (.own ys))) σ H':=R.ob.step s1 (λj o q=>by
  rcases gs q with⟨_,z⟩|⟨hj,q⟩
  ·cases z
  ·exact⟨q,rfl⟩) (λb hb=>by
  obtain⟨z1,z2,z3⟩:=R.ob.owned hb;have cy:b≠a:=λz=>R.ob.gv i xs a e h (z ▸ hb);refine⟨?_,?_,z3⟩
  ·cases q:H b with
   | none=>exact absurd q z2
   | some o=>exact s3 b o cy q
  ·cases q:F' b with
   | none=>rfl
   | some o =>
    rcases fr b o q with w|w
    ·rw[z1]at w;cases w
    ·rcases w with w|⟨ws,rfl⟩
     ·exact absurd w z2
     ·cases q3:H b with
      | none=>exact absurd q3 z2
      | some o3 =>
       have y:=s2 b _ q;rw[s3 b o3 cy q3]at y;cases y;exact absurd q3 (R.ob.LD hb)) (λj zs b q1 q2=>by
  rcases gs q1 with⟨e1,_⟩|⟨hj,q1⟩
  ·subst e1
   rw[h]at q2;cases q2;exact R.ob.gv j xs a e h
  ·exact R.ob.gv j zs b q1 q2) λb hb=>by
  by_cases cy:b=a
  ·rw[cy,ha];exactλz=>nomatch z
  ·cases q:H b with
   | none=>exact absurd q (R.ob.there b hb)
   | some o=>rw[s3 b o cy q];exactλz=>nomatch z
 refine⟨by simpa using R.len,R.lo.trans s1,s2,λb o q=>?_,λb o q n=>?_,λj d q=>?_,λj zs q=>?_,λj l zs qs b q1 q2 q3 q4=>?_,λp hp=>?_,AF⟩
 ·rcases fr b o q with h|h
  ·exact R.eS b o h
  ·exact .inr (h.imp (λh=>(R.bW h).1) id)
 ·have:b≠a:=λz=>by
   subst z;rcases w5 with w5|w5
   ·rw[w5]at q;cases q
   ·exact bz.zg n w5
  exact s3 b o this (R.old b o q n)
 ·rcases gs q with⟨_,z⟩|⟨hj,q⟩
  ·cases z
  ·obtain⟨v,h1,h2⟩:=R.sh j d q
   exact⟨v,h1,h2.mono s1⟩
 ·rcases gs q with⟨rfl,z⟩|⟨hj,q⟩
  ·cases z
   exact⟨a,us,h,ha,r,fa,w5⟩
  ·obtain⟨b,ws,z1,z2,z3,z4,z5⟩:=R.own j zs q
   have:b≠a:=λz=>hj (R.dis j i zs xs a q e (z ▸ z1) h);refine⟨b,ws,z1,s3 b _ this z2,z3.mono s1,?_,z5⟩;cases q':F' b with
   | none=>rfl
   | some o =>
    rcases fr b o q' with h|h
    ·rw[z4]at h;cases h
    ·rcases h with h|⟨ws',rfl⟩
     ·rw[z2]at h;cases h
     ·have y:=s2 b _ q';rw[s3 b _ this z2]at y;cases y
 ·have f:∀ {m:Nat} {ms:List D},(ah.set i (some (B.own ys)))[m]?=some (some (B.own ms))->∃Hj,ah[m]?=some (some (B.own Hj)):=λ{m ms} q=>by
   rcases gs q with⟨rfl,z⟩|⟨hj,q⟩
   ·exact⟨xs,e⟩
   ·exact⟨_,q⟩
  obtain⟨_,q1⟩:=f q1;obtain⟨_,q2⟩:=f q2;exact R.dis j l _ _ b q1 q2 q3 q4
 ·obtain⟨z1,zs,z2⟩:=R.io p hp
  refine⟨z1,?_⟩
  by_cases Em:p.1=i
  ·exact⟨ys,by rw[Em,mE hl]⟩
  ·exact⟨zs,by rw[bM Em];exact z2⟩
def aaz(sp:hE)(xs ds:List D)(Q:B->List D->Prop):Prop:=sp xs ds Q
def fF(sp:hE)(i:Nat)(t:eZ):TX:=λσ Q=>vB σ i/\t σ λds av=>match av[i]? with
 | some (some (.own xs))=>aaz sp xs ds λb ys=>Q (bE b) (av.set i (some (.own ys)))
 | _=>False
theorem bF{x y:Str}{sp:hE}{i:Nat}{es:List Expr}{t:eZ}{p pos iE:Pos}(h:eP G k x sp)(ho:EO G k S (.Name y iE) (ae i))(ha:xa G k S es t)(hg:S.sc.lookup x=some .globalImplicit:=by rfl)(jx:(x==("__debug__":Str))=false:=by decide)
  (he:∀env,ab7 (.Name y iE::es) env=(false,eval (.Name y iE) env)::ab7 es env:=by intro _;rfl) (dm:∀env,(backTo pos (ab7 es env)).any (·.1)=false:=by intro _;rfl) (hh:S.jl=false:=by rfl):EX G k S (.Call (.Name x p) (.Name y iE::es) [] pos) (fF sp i t):=.mk λX Y ok=>by
 obtain⟨f,fd,ps,h1,h2,h3,h4⟩:=h;have vt:ck X.prog X.w X.K X.mg X.base iA k f fd ps (sY sp):=by rw[ok.P,ok.w,ok.K,ok.mg,ok.base];exact h1
 refine aO (jM (E:=E0) (dvs:=[]) (ds:=[]) vt (ok.room hh) (dy ok hg) (by rw[ok.mg];exact h2) (by rw[ok.K];exact h3) (by rw[ok.K];exact h4) .nil jL (bX (ho X Y ok) (ha X Y ok) (he _)) jx (he _) (dm _)) λσ H Q q=>?_
 obtain⟨F,ah,Qd,R,⟨⟨ys,e0⟩,q⟩,K⟩:=q;refine⟨F,ah,λov aL=>ov=.var i/\aL=ah,R,?_,λv1 H1 F1 ov av s1 R1 r1 q1=>?_⟩
 ·unfold ae;rw[e0];exact⟨rfl,rfl⟩
 obtain⟨rfl,rfl⟩:=q1;have r1:σ[i]?=some (some v1):=r1;refine⟨F1,av,_,R1,q,λvs H2 F2 ds aL s2 R2 r2 q2=>?_⟩
 split at q2
 ·rename_i xs ex
  obtain⟨a,us,w1,w2,w3,w4,w5⟩:=R2.own i xs ex;rw[r1]at w1;cases w1;show sY sp ((.ref a::vs)++[]) H2 Q E0;rw[List.append_nil];refine⟨F2,xs,ds,a,us,vs,_,rfl,⟨R2.fr,R2.ob.tab⟩,w2,w3,w4,r2,q2,λv H' F' b zs ud t1 t2 t3 t4 t5 t6 t7 t8 t9=>?_⟩;have R3:=R2.Ci ex r1 t1 t2 t3 t4 t5 t6 t7;cases b with
  | sh d=>exact K v H' F' (.val d) _ ((s1.trans s2).trans t1) R3 t8 t9
  | own ws =>
   obtain⟨c,cs,rfl,z1,z2,z3,z4⟩:=t8;refine K _ H' F' (.own ws) _ ((s1.trans s2).trans t1) R3 ⟨c,cs,rfl,z1,z2,z3,(R2.bW z4).1,(R2.de z4).FL ex⟩ t9
  | obj o =>
   obtain⟨c,rfl,z1,z2⟩:=t8;exact K _ H' F' (.obj o) _ ((s1.trans s2).trans t1) R3 ⟨c,rfl,z1,λb hb=>⟨(z2 b hb).1,(z2 b hb).2.1,(R2.bW (z2 b hb).2.2).1,(R2.de (z2 b hb).2.2).FL ex⟩⟩ t9
 ·exact q2.elim
def bu(n:Nat)(xs ds:List D):Sd:=some (.own xs)::aP (n-1) ds
def vA(Q:B->List D->Prop)(b:B)(σ:Sd):Prop:=match σ[(0:Nat)]? with
 | some (some (.own ys))=>Q b ys
 | _=>False
theorem RS.bu{F H:Hp}{a:Addr}{us rest:List V}{xs ds:List D}(n:Nat)(hn:1<=n)(s:mv F H)(ha:H a=some (.lst us))(ru:aC F us xs)(fa:F a=none)(r:aC F rest ds):
  RS ⟨H,F,[(0,a)],[]⟩ F (bu n xs ds) ((V.ref a::rest).map some++List.replicate (n-(V.ref a::rest).length) none) H where
 len:=by unfold Vc.bu aP;simp [r.length];omega
 lo:=ao.refl _
 fr:=s.1
 eS:=λb o e=>.inl e
 old:=λb o e _=>e
 sh:=λi d e=>by
  cases i with
  | zero=>unfold Vc.bu at e;simp at e
  | succ i =>
   have e':(aP (n-1) ds)[i]?=some (some (.sh d)):=by unfold Vc.bu at e;simpa using e
   obtain⟨v,h1,h2⟩:=oV (n-1-ds.length) r e';refine⟨v,?_,h2⟩;have:n-(V.ref a::rest).length=n-1-ds.length:=by rw[List.length_cons,r.length];omega
   rw[this];simpa using h1
 own:=λi zs e=>by
  cases i with
  | zero =>
   unfold Vc.bu at e;simp at e;subst e;exact⟨a,us,by simp,ha,ru,fa,.inr (by simp [bz.Vy])⟩
  | succ i =>
   have e':(aP (n-1) ds)[i]?=some (some (.own zs)):=by unfold Vc.bu at e;simpa using e
   exact absurd e' (fE _ _ _ _)
 dis:=λi j zs ys b e1 e2 _ _=>by
  have z:∀ {i:Nat} {zs:List D},(Vc.bu n xs ds)[i]?=some (some (.own zs))->i=0:=λ{i zs} e=>by
   cases i with
   | zero=>rfl
   | succ i =>
    have e':(aP (n-1) ds)[i]?=some (some (.own zs)):=by unfold Vc.bu at e;simpa using e
    exact absurd e' (fE _ _ _ _)
  rw[z e1,z e2]
 io:=λp hp=>by
  have:p=(0,a):=by simpa using hp
  subst this;exact⟨by simp,xs,rfl⟩
 ob:=.none (λi o e=>by
  cases i with
  | zero=>unfold Vc.bu at e;simp at e
  | succ i =>
   have e':(aP (n-1) ds)[i]?=some (some (.obj o)):=by unfold Vc.bu at e;simpa using e
   exact absurd e' (lW _ _ _ _)) s.2 λb hb=>by cases hb
theorem HX{x qual:Str}{st:Stmt}{f:Addr}{fd:FuncData}{N ps:List Str}{sp:hE}{t:b5}(hK:G.K=KF.K)(Fn:Bq G.K x qual st f fd)(Sc:aB N ps (ag st))(ht:dr G k ⟨N,(ag st).names,[0],false,false,false,λ_ _=>False⟩ (ak st) t)(hn:1<=N.length)
  (len:∀xs ds Q,sp xs ds Q->ds.length+1=ps.length)
  (body:∀xs ds Q,sp xs ds Q->t {nx:=vA Q (.sh .aQ),rt:=λb σ=>vA Q b σ} (bu N.length xs ds)):ck G.P G.w G.K G.mg G.base iA (k+1) f fd ps (sY sp):=by
 refine Fn.ok Sc (λvs H Q E h=>?_) (λh9 A outer s H vs Q E hr h=>?_)
 ·obtain⟨F,xs,ds,a,us,rest,Qd,rfl,s,h1,h2,h3,r,q,K⟩:=h
  rw[List.length_cons,r.length];exact len _ _ _ q
 ·obtain⟨F,xs,ds,a,us,rest,Qd,rfl,sm,h1,h2,h3,r,q,K⟩:=h
  refine⟨_,ht (nJ iA G.P G.w G.K G.mg G.base N qual (ag st) f h9 A outer s H E).IZ ⟨H,F,[(0,a)],[]⟩ ⟨rfl,rfl,rfl,hK,rfl,rfl,rfl,rfl,Sc.nd,λp hp=>by
   have:p=(0,a):=by simpa using hp
   subst this;simp,(λ_ h=>nomatch h),λ_=>rfl,Sc.kind,λ_ _ _=>rfl,λ_=>hr.hd,hr.dp,hr.un,λ_=>PassesOwn.never,λ_=>⟨rfl,rfl,rfl⟩,λ_ _ h=>h.elim,λh=>nomatch h⟩,F,bu N.length xs ds,_,RS.bu _ hn sm h1 h2 h3 r,body xs ds Qd q,?_⟩
  have same:∀ {F':Hp} {ah:Sd} {σ:St} {H':Hp},RS ⟨H,F,[(0,a)],[]⟩ F' ah σ H'->∀c o,c≠a->H c=some o->H' c=some o:=λR c o hc e=>R.old c o e (by simpa [bz.zf]using hc)
  have fin:∀ {F':Hp} {ah:Sd} {σ:St} {H':Hp} {v:V} {b:B},ao F F'->RS ⟨H,F,[(0,a)],[]⟩ F' ah σ H'->B6 H F' H' v b->vA Qd b ah->Q v H':=λ{F' ah σ H' v b} s' R' r' q'=>by
   unfold vA at q'
   split at q'
   ·rename_i ys ey
    obtain⟨c,ud,w1,w2,w3,w4,w5⟩:=R'.own 0 ys ey;have i0:=(R'.io (0,a) (by simp)).1
    rw[i0]at w1;cases w1;exact K v H' F' b ys ud s' R'.fr (same R') w2 w3 w4 R'.eS r' q'
   ·exact q'.elim
  refine⟨λσ H' F' ah s' R' q'=>?_,λv σ H' F' ah b s' R' r' q'=>?_,λ_ _ _ _ _ _ h=>h.elim,λ_ _ _ _ _ _ h=>h.elim⟩
  ·exact fin (b:=.sh .aQ) s' R' .aQ q'
  ·refine fin (b:=b) s' R' ?_ q'
   cases b with
   | sh d=>exact r'
   | own xs =>
    obtain⟨a,us,rfl,w1,w2,w3,w4,w5⟩:=r';exact⟨a,us,rfl,w1,w2,w3,w4⟩
   | obj o =>
    obtain⟨a,rfl,w1,w2⟩:=r';exact⟨a,rfl,w1,λb hb=>⟨(w2 b hb).1,(w2 b hb).2.1,(w2 b hb).2.2.1⟩⟩
theorem cY.fio{x:Str}{st:Stmt}{ps N:List Str}{f:Addr}{fd:FuncData}{t:b5}{sp:hE}(d:cY G x st ps f fd)(hK:G.K=KF.K)(Sc:aB N ps (ag st))(ht:dr G k ⟨N,(ag st).names,[0],false,false,false,λ_ _=>False⟩ (ak st) t)(hn:1<=N.length)
  (len:∀xs ds Q,sp xs ds Q->ds.length+1=ps.length) (body:∀xs ds Q,sp xs ds Q->t {nx:=vA Q (.sh .aQ),rt:=λb σ=>vA Q b σ} (bu N.length xs ds)):eP G (k+1) x sp:=
 ⟨f,fd,ps,HX hK d.F Sc ht hn len body,d.m,d.F.kp,d.b⟩
end Vc
namespace Vc
open PySem L2
variable [KF]
variable {G:GE}{k:Nat}{S:Stat}
def aD(S:Stat)(scope:Scope)(N':List Str)(m:Nat):Stat:=⟨N',jR scope.names S.sc,[m],true,false,false,λ_ _=>False⟩
theorem i6{X X':Cx}{Y:bz}{scope:Scope}{N':List Str}{caps:List (Option Nat)}{m:Nat}(hh:S.jl=false)(ok:dJ X G k S Y)(b:iI S scope N' caps)(c:jo X X' scope N')(Y':bz)(cU:∀p∈Y'.io,p.1=m):dJ X' G k (aD S scope N' m) Y':=
 have z:=d7 hh ok b c ⟨Y'.H0,Y'.F0,[],[]⟩ rfl
 ⟨z.P,z.w,z.K,z.kf,z.mg,z.base,z.N,z.sc,z.nd,λp hp=>by rw[cU p hp];exact ab5.mpr rfl,(λh=>nomatch h),z.calm,z.kind,(λh=>by cases h),z.hd,z.dp,z.un,z.po,(λh=>nomatch h),(λ_ _ h=>h.elim),λh=>nomatch h⟩
def ownAt(m:Nat)(σ:Sd)(Q:List D->Prop):Prop:=match σ[m]? with
 | some (some (.own ys))=>Q ys
 | _=>False
def i3(g:mw)(tc:TB)(te:TD)(uf:Sd)(m:Nat):List D->List D->List D->(List D->List D->Prop)->Prop
 | [],acc,xs,Q=>Q acc xs
 | x::r,acc,xs,Q=>g x (uf.set m (some (.own xs))) λav=>tc av λb aL=>if b=true then te aL λd eY=>lF uf eY/\acc.length<aca/\ownAt m eY λys=>i3 g tc te uf m r (acc++[d]) ys Q
  else lF uf aL/\ownAt m aL λys=>i3 g tc te uf m r acc ys Q
def iw(ios:List Nat)(caps:List (Option Nat))(j m:Nat)(ti:eZ)(g:mw)(tc:TB)(te:TD):TX:=λσ Q=>ti σ λitems av=>vq ios (caps.set m none) av λaL=>ownAt j aL λxs=>i3 g tc te (dI (caps.set m none) aL) m items [] xs λds ys=>Q (.own ds) (aL.set j (some (.own ys)))
theorem Cm{Y:bz}{F:Hp}{ah:Sd}{σ:St}{H:Hp}(R:RS Y F ah σ H)(caps:List (Option Nat))(m:Nat){F' H':Hp}(s1:ao F F')(s2:ao F' H'):RS ⟨H',F',[],[]⟩ F' (dI (caps.set m none) ah) (f9 caps σ) H':=by
 have R0:=rq R (caps.set m none) s1 s2;refine⟨by unfold dI f9;simp,R0.lo,R0.fr,R0.eS,R0.old,λi d e=>?_,λi xs e=>absurd e (cq _ _ _ _),λi j xs ys a e=>absurd e (cq _ _ _ _),λp hp=>(by cases hp),.none (cn _ _) R0.ob.tab λb hb=>by cases hb⟩
 obtain⟨v,h1,h2⟩:=R0.sh i d e;refine⟨v,?_,h2⟩
 by_cases hi:i=m
 ·subst hi
  unfold dI at e;rw[acb]at e
  by_cases hl:i<caps.length
  ·rw[List.getElem?_set_self hl]at e;cases e
  ·rw[List.getElem?_eq_none (by rw[List.length_set];omega)]at e;cases e
 ·unfold f9 at h1 ⊢
  rw[acb]at h1 ⊢;rw[List.getElem?_set_ne (Ne.symm hi)]at h1;exact h1
theorem RS.inner{Y:bz}{F:Hp}{uf ah:Sd}{σ:St}{H:Hp}{m:Nat}{a:Addr}{us:List V}{xs:List D}(R:RS Y F ah σ H)(l:lF uf ah)(vU:∀(i:Nat) (xs:List D),uf[i]?≠some (some (.own xs)))(E1:∀(i:Nat) (o:O),uf[i]?≠some (some (.obj o)))(hm:m<uf.length)(h:σ[m]?=some (some (.ref a)))(r:aC F us xs)(fa:F a=none){H':Hp}(s:ao F H')(ha:H' a=some (.lst us)):
  RS ⟨H',F,[(m,a)],[]⟩ F (uf.set m (some (.own xs))) σ H' where
 len:=by rw[List.length_set];exact(ni l).trans R.len
 lo:=ao.refl _
 fr:=s
 eS:=λb o e=>.inl e
 old:=λb o e _=>e
 sh:=λi d e=>by
  rcases gs e with⟨_,z⟩|⟨_,e⟩
  ·cases z
  ·exact R.sh i d (nh l e)
 own:=λi zs e=>by
  rcases gs e with⟨rfl,z⟩|⟨_,e⟩
  ·cases z
   exact⟨a,us,h,ha,r,fa,.inr (by simp [bz.Vy])⟩
  ·exact absurd e (vU i zs)
 dis:=λi j zs ys b e1 e2 _ _=>by
  have z:∀ {i:Nat} {zs:List D},(uf.set m (some (B.own xs)))[i]?=some (some (.own zs))->i=m:=λ{i zs} e=>by
   rcases gs e with⟨rfl,_⟩|⟨_,e⟩
   ·rfl
   ·exact absurd e (vU i zs)
  rw[z e1,z e2]
 io:=λp hp=>by
  have:p=(m,a):=by simpa using hp
  subst this;exact⟨h,xs,by rw[mE hm]⟩
 ob:=.none (λi o e=>by
  rcases gs e with⟨_,z⟩|⟨_,e⟩
  ·cases z
  ·exact E1 i o e) R.ob.tab λb hb=>by cases hb
def lGm(m:Nat)(g:mw):TG:=λv σ H Q=>∃Y:bz,(∀p∈Y.io,p.1=m)/\lG Y g v σ H Q
def lBm(m:Nat)(t:TB):TT:=λσ H Q=>∃Y:bz,(∀p∈Y.io,p.1=m)/\lB Y t σ H Q
def lDm(m:Nat)(t:TD):TE:=λσ H Q=>∃Y:bz,(∀p∈Y.io,p.1=m)/\lD Y t σ H Q
section
variable {elt target iter:Expr}{ifs:List Expr}{scope:Scope}{pos:Pos}{N':List Str}{caps:List (Option Nat)}{ti:eZ}{g:mw}{tc:TB}{te:TD}{j m:Nat}
theorem pX{X:Cx}{Y:bz}(hh:S.jl=false)(ok:dJ X G k S Y)(b:iI S scope N' caps)(hg:EG G k (aD S scope N' m) target g)(ht:Hq G k (aD S scope N' m) ifs tc)(he:ED G k (aD S scope N' m) elt te):
  ∀X',jo X X' scope N'->PG X' target (lGm m g)/\G6 X' ifs (lBm m tc)/\PE X' elt (lDm m te):=λX' c =>
 ⟨λpins s σ H v u Q I r ⟨Y',cU,q⟩=>hg X' Y' (i6 hh ok b c Y' cU) pins s σ H v u Q I r q,λpins s σ H Q I ⟨Y',cU,q⟩=>ht X' Y' (i6 hh ok b c Y' cU) pins s σ H Q I q,λpins s σ H Q I ⟨Y',cU,q⟩=>he X' Y' (i6 hh ok b c Y' cU) pins s σ H Q I q⟩
theorem sU{α:Type}(l:List α)(i:Nat)(a b:α):(l.set i a).set i b=l.set i b:=by simp
theorem rC{Y:bz}{ios:List Nat}(cU:∀p∈Y.io,p.1∈ios)(xF:caps[m]?=some (some j)){σ:St}{H:Hp}{Q:VK}(q:lX Y (iw ios caps j m ti g tc te) σ H Q):lY (lI Y ti) caps (lGm m g) (lBm m tc) (lDm m te) σ H Q:=by
 obtain⟨F,ah,Qd,R,q,K⟩:=q;refine⟨F,ah,_,R,q,λH1 F1 yD J items s1 R1 it q1 acc gL=>?_⟩;obtain⟨F2,cj,s2,R2,q2⟩:=d8 cU R1 q1;unfold ownAt at q2
 split at q2
 ·rename_i L3 e0
  have it2:=it.mono s2;have a0:Y.H0 acc=none:=(R2.bW gL).1;have aF:F2 acc=none:=same_none R2.fr gL;obtain⟨a,L0,ha1,ha2,ha3,ha4,ha5⟩:=R2.own j L3 e0;have Vf:a≠acc:=λz=>by rw[z,gL]at ha2;cases ha2
  have hj:j<cj.length:=(ab2.mp e0).1;have aN:∀(xs:List D),dc (cj.set j (some (.own xs))) σ acc:=λxs=>(R2.de gL).FL e0;have sw:∀ {F5 H5:Hp} {o:HO},ao F5 H5->F5 acc=none->ao F5 (upd H5 acc o):=λ{F5 H5 o} s5 h b u e=>by
   have:b≠acc:=λz=>by rw[z,h]at e;cases e
   rw[aq this];exact s5 b u e
  have hm:m<(dI (caps.set m none) cj).length:=by
   unfold dI;rw[abZ,List.length_set];exact(ab2.mp xF).1
  have XQ:(f9 caps σ)[m]?=some (some (.ref a)):=by
   unfold f9;rw[acb,xF];show some ((σ[j]?).join)=_;rw[ha1];rfl
  have e00:cj.set j (some (.own L3))=cj:=by
   apply List.ext_getElem?;intro i
   by_cases hi:i=j
   ·subst hi;rw[mE hj,e0]
   ·rw[bM hi]
  refine⟨λi mm av H'=>∃Fi ds ys xs us,ao F2 Fi/\RS Y Fi (cj.set j (some (.own xs))) σ H'/\H' acc=some (.lst ys)/\aC Fi ys ds/\Fi acc=none/\H' a=some (.lst us)/\aC Fi us xs/\Fi a=none/\av[m]?=some (some (.ref a))/\RS ⟨H',Fi,[(m,a)],[]⟩ Fi ((dI (caps.set m none) cj).set m (some (.own xs))) av H'/\i3 g tc te (dI (caps.set m none) cj) m (items.drop i) ds xs (λds ys=>Qd (.own ds) (cj.set j (some (.own ys))))/\mm=items.length-i/\i<=items.length,
   ⟨items.length,F2,[],[],L3,L0,ao.refl _,by rw[e00];exact R2.other aF a0 (e00 ▸ aN L3),ay,.nil,aF,by rw[aq Vf];exact ha2,ha3,ha4,XQ,?_,q2,rfl,Nat.zero_le _⟩,?_⟩
  ·exact(Cm R2 caps m (ao.refl _) (sw (o:=.lst []) R2.fr aF)).inner (fj _) (cq _ _) (cn _ _) hm XQ ha3 ha4 (sw R2.fr aF) (by rw[aq Vf];exact ha2)
  rintro i mm av Hi ⟨Fi,ds,ys,xs,us,si,Ri,fh,ri,fi,hai,rui,fai,hmi,V5,qi,rfl,hi⟩;have zh:=it2 Fi Hi si Ri.fr i
  by_cases hl:i<items.length
  ·right
   have hd:items.drop i=items[i]::items.drop (i+1):=by rw[List.drop_eq_getElem_cons hl]
   rw[hd]at qi;obtain⟨go,yl⟩:=zh.1 items[i] (by rw[abY hl])
   refine⟨go,λv H' y=>?_⟩;obtain⟨F3,gr,rep⟩:=yl v H' y;have sF:ao Fi F3:=gr.same Ri.fr;have R3:=gr.rs V5;have sH:ao Hi H':=by
    rcases gr with⟨_,rfl⟩|⟨p,o,hp,_,rfl⟩
    ·exact ao.refl _
    ·exact aJ hp
   have HY:∀c o,F3 c=some o->Fi c=some o\/Nw Hi c o:=λc o e=>by
    rcases gr with⟨rfl,_⟩|⟨p,o',hp,rfl,_⟩
    ·exact .inl e
    ·by_cases hc:c=p
     ·subst hc;exact .inr (.inl hp)
     ·rw[aq hc]at e;exact .inl e
   have fa3:F3 a=none:=by
    cases e:F3 a with
    | none=>rfl
    | some o =>
     rcases HY a o e with z|z
     ·rw[fai]at z;cases z
     ·rcases z with z|⟨ws,rfl⟩
      ·rw[hai]at z;cases z
      ·have y:=R3.fr a _ e;rw[sH a _ hai]at y;cases y
   have lec:lF (dI (caps.set m none) cj) ((dI (caps.set m none) cj).set m (some (.own xs))):=by
    have:∀(l:Sd) (n:Nat),l[n]?=some none->∀b,lF l (l.set n b):=by
     intro l
     induction l with
     | nil=>intro n h;cases h
     | cons c l ih =>
      intro n h b;cases n with
      | zero =>
       simp at h;subst h;exact fj l
      | succ n =>
       have h:l[n]?=some none:=by simpa using h
       cases c with
       | none=>exact ih n h b
       | some c=>exact⟨rfl,ih n h b⟩
    refine this _ m ?_ _;unfold dI;rw[acb,List.getElem?_set_self (ab2.mp xF).1];rfl
   have V4:RS ⟨H',F3,[(m,a)],[]⟩ F3 ((dI (caps.set m none) cj).set m (some (.own xs))) av H':=R3.inner lec (cq _ _) (cn _ _) hm hmi (rui.mono sF) fa3 R3.fr (sH _ _ hai)
   -- behind the turn
   have back:∀ {F5 H5:Hp} {o6:Sd} {VL:St} {zs:List D},ao F3 F5->RS ⟨H',F3,[(m,a)],[]⟩ F5 o6 VL H5->o6[m]?=some (some (.own zs))->RS Y F5 (cj.set j (some (.own zs))) σ H5/\H5 acc=some (.lst ys)/\F5 acc=none/\ao Fi F5/\∃ws,H5 a=some (.lst ws)/\aC F5 ws zs/\F5 a=none/\VL[m]?=some (some (.ref a)):=λ{F5 H5 o6 VL zs} s5 R5 ez=>by
    have i5:=(R5.io (m,a) (by simp)).1
    obtain⟨c,ws,w1,w2,w3,w4,_⟩:=R5.own m zs ez;rw[i5]at w1;cases w1;have Bi:∀c o,c≠a->Hi c=some o->H5 c=some o:=λc o hc e=>R5.old c o (sH c o e) (by simpa [bz.zf]using hc)
    have G8:∀c o,F5 c=some o->Fi c=some o\/Nw Hi c o:=λc o e=>by
     rcases R5.eS c o e with z|z
     ·exact HY c o z
     ·exact .inr (z.imp sH.free id)
    have Ro:=Ri.Ci (i:=j) (xs:=xs) (ys:=zs) (by rw[mE hj]) ha1 (sF.trans s5) R5.fr Bi w2 w3 w4 G8
    rw[sU]at Ro;refine⟨Ro,Bi acc _ (Ne.symm Vf) fh,?_,sF.trans s5,ws,w2,w3,w4,i5⟩;cases e:F5 acc with
    | none=>rfl
    | some o =>
     rcases G8 acc o e with z|z
     ·rw[fi]at z;cases z
     ·rcases z with z|⟨ws,rfl⟩
      ·rw[fh]at z;cases z
      ·have y:=R5.fr acc _ e;rw[Bi acc _ (Ne.symm Vf) fh]at y;cases y
   refine⟨⟨H',F3,[(m,a)],[]⟩,λp hp=>by rw[ab5.mp hp],F3,_,items[i],_,V4,rep,qi,λqR H4 F4 eD s4 R4 q4=>?_⟩
   refine⟨⟨H',F3,[(m,a)],[]⟩,λp hp=>by rw[ab5.mp hp],F4,eD,_,R4,q4,λb H5 F5 o6 s5 R5 q5=>?_⟩
   cases b with
   | false =>
    obtain⟨le,q5⟩:=q5;unfold ownAt at q5
    split at q5
    ·rename_i zs ez
     obtain⟨w1,w2,w3,w4,ws,v1,v2,v3,v4⟩:=back (s4.trans s5) R5 ez;exact⟨items.length-(i+1),by omega,F5,ds,ys,zs,ws,si.trans w4,w1,w2,ri.mono w4,w3,v1,v2,v3,v4,R5.inner le (cq _ _) (cn _ _) hm v4 v2 v3 R5.fr v1,q5,rfl,hl⟩
    ·exact q5.elim
   | true =>
    refine⟨⟨H',F3,[(m,a)],[]⟩,λp hp=>by rw[ab5.mp hp],F5,o6,_,R5,q5,λv6 H6 F6 d aax s6 R6 r6 q6=>?_⟩
    obtain⟨le,hz,q6⟩:=q6;unfold ownAt at q6
    split at q6
    ·rename_i zs ez
     obtain⟨w1,w2,w3,w4,ws,v1,v2,v3,v4⟩:=back ((s4.trans s5).trans s6) R6 ez;exact⟨ys,items.length-(i+1),w2,by rw[ri.length];exact hz,by omega,F6,ds++[d],ys++[v6],zs,ws,si.trans w4,w1.other w3 a0 (aN zs),ay,(ri.mono w4).append (.cons r6 .nil),w3,by rw[aq Vf];exact v1,v2,v3,v4,
      R6.inner le (cq _ _) (cn _ _) hm v4 v2 v3 (sw R6.fr w3) (by rw[aq Vf];exact v1),q6,rfl,hl⟩
    ·exact q6.elim
  ·left
   have e:i=items.length:=by omega
   subst e;rw[List.drop_length]at qi;exact⟨zh.2 rfl,K _ Hi Fi (.own ds) _ ((s1.trans s2).trans si) Ri ⟨acc,ys,rfl,fh,ri,fi,a0,aN xs⟩ qi⟩
 ·exact q2.elim
theorem wg(i j m:Nat){y:Str}{py gy:Pos}(hi:EI G k S target iter ti)(b:iI S scope N' caps)(hg:EG G k (aD S scope N' m) target g)(ht:Hq G k (aD S scope N' m) ifs tc)(he:ED G k (aD S scope N' m) elt te)
  (xF:caps[m]?=some (some j):=by rfl) (hy:S.N[i]?=some y:=by rfl) (hx:S.sc.lookup y=some .local\/(S.sc.lookup y=some .cell/\S.Ce=false):=by first|exact Or.inl rfl|exact Or.inr ⟨rfl,rfl⟩) (hn:i∉S.ios:=by first|decide|exact ack | (dsimp only;decide)) (hl:(py.line==pos.line)=true:=by rfl) (Lr:(scope.names.any λ(n,k)=>n==y&&(k==.local||k==.cell))=false:=by decide +kernel)
  (hs:∀env x,foldedSetIterable iter env x=pure x:=by intro _ _;rfl) (hh:S.jl=false:=by rfl):ES G k S (.Assign [.Name y py] (.ListComp elt [⟨target,iter,ifs,0⟩] scope pos) gy) (eG S.ios i (iw S.ios caps j m ti g tc te)):=.mk λX Y ok=>by
 have sw:swapsWith (.ListComp elt [⟨target,iter,ifs,0⟩] scope pos) (some (.Name y py)) gy.line X.env=pure (S.sc.lookup y==some .local):=by
  have e:swapsWith (.ListComp elt [⟨target,iter,ifs,0⟩] scope pos) (some (.Name y py)) gy.line X.env=pure (X.env.blockKind==.function&&X.env.kindOf y==some .local&&py.line==pos.line&&!(scope.names.any λ(n,k)=>n==y&&(k==.local||k==.cell))):=rfl
  have kb:X.env.blockKind=.function:=by unfold Env.blockKind;rw[ok.kind];rfl
  have kd:X.env.kindOf y=S.sc.lookup y:=by
   show X.env.scope.names.lookup y=_;rw[ok.sc]
  rw[e,kb,kd,hl,Lr];simp
 have fin:∀Dn σ H,lS Y (eG S.ios i (iw S.ios caps j m ti g tc te)) Dn σ H->FX (lY (lI Y ti) caps (lGm m g) (lBm m tc) (lDm m te)) (nN i) Dn σ H:=λDn σ H q=>by
  obtain⟨F,ah,De,R,q,K⟩:=q;refine rC ok.ios xF ⟨F,ah,_,R,q,λv H1 F1 y av s1 R1 r1 q1=>?_⟩;obtain⟨F2,aL,s2,R2,q2⟩:=lV R1 r1 hn ok.ios q1;exact K.nx _ H1 F2 aL (s1.trans s2) R2 q2
 rcases hx with hx|hx
 ·refine cf (zI (i:=i) (ok.calm hh) (hi X Y ok) (b.sc ok) (pX hh ok b hg ht he) (hs _) (by rw[ok.N];exact ok.nd) (by rw[ok.N];exact hy) (by rw[ok.sc];exact hx) (by rw[sw,hx];rfl)) fin
 ·refine cf (L2.yc (i:=i) (by rw[ok.N];exact ok.nd) (by rw[ok.N];exact hy) (n5 ok (.inr hx)) (nq (ok.calm hh) (hi X Y ok) (b.sc ok) (pX hh ok b hg ht he) (hs _)) (by rw[sw,hx.1];rfl) (nL ok (.inr hx))) fin
end
end Vc
namespace Vc
open PySem L2
variable [KF]
variable {G:GE}{k:Nat}{S:Stat}
def HU(i:Nat)(ys:List D)(σ:Sd)(Q:Sd->Prop):Prop:=match σ[i]? with
 | some (some (.own xs))=>xs.length+ys.length<=aca/\Q (σ.set i (some (.own (xs++ys))))
 | _=>False
def JX(to:TV)(te:TX):TX:=λσ Q=>to σ λx av=>match x with
 | .var i=>vB av i/\te av λd aL=>match d with
  | .own ys=>HU i ys aL λeY=>Q (.val .aQ) eY
  | _=>False
 | _=>False
theorem FE{o e:Expr}{to:TV}{te:TX}{apos cI:Pos}(ho:EO G k S o to)(he:EX G k S e te)(hb:∀env,attributeBase o "extend" env (eval o env)=eval o env:=by intro _;rfl)
  (xG:∀env,((backTo cI (ab7 [e] env)).all (λx=>!x.1)&&(backToKw cI (keywordEach [] env)).all (λx=>x.1.isSome)&&decide (([e]:List Expr).length+([]:List Keyword).length+(if([]:List Keyword).isEmpty then 0 else 1)<30))=true:=by intro _;rfl)
  (hline:(apos.endLine==cI.line)=true:=by rfl) (hs:∀env,ab7 [e] env=[(false,eval e env)]:=by intro _;rfl):EX G k S (.Call (.Attribute o "extend" apos) [e] [] cI) (JX to te):=.mk λX Y ok=>by
 have ha:PA X [e] (eB (lX Y te) lZ):=bX (he X Y ok) ei (by rw[hs];rfl)
 refine aO (Fc F.plainAttrs_list F.slot_list_extend F.type_list_extend AY (ho X Y ok) ha (hb _) (xG _) hline (by rw[hs];rfl) (by rfl)) λσ H Q q=>?_
 obtain⟨F,ah,Qd,R,q,K⟩:=q;refine⟨F,ah,_,R,q,λv1 H1 F1 x av s1 R1 r1 q1=>?_⟩;cases x with
 | val d=>exact q1.elim
 | any=>exact q1.elim
 | var i =>
  obtain⟨⟨ys,e0⟩,q1⟩:=q1;have r1:σ[i]?=some (some v1):=r1;obtain⟨a,vs,w1,w2,w3,w4,w5⟩:=R1.own i ys e0;rw[r1]at w1;cases w1;refine⟨.inl ⟨rfl,vs,.of w2⟩,F1,av,_,R1,q1,λv2 H2 F2 d aL s2 R2 r2 q2=>?_⟩;cases d with
  | val _=>exact q2.elim
  | var _=>exact q2.elim
  | obj _=>exact q2.elim
  | any=>exact q2.elim
  | own zs =>
   have q2:HU i zs aL λeY=>Qd (.val .aQ) eY:=q2;unfold HU at q2
   split at q2
   ·rename_i xs e2
    obtain⟨b,us,z1,z2,z3,z4,z5⟩:=R2.own i xs e2;rw[r1]at z1;cases z1;obtain⟨c,cs,rfl,y1,y2,y3⟩:=r2;exact⟨a,c,us,cs,rfl,rfl,z2,y1,by rw[z3.length,y2.length];exact q2.1,K .aQ _ F2 (.val .aQ) _ (s1.trans s2) (R2.write e2 r1 (z3.append y2)) .aQ q2.2⟩
   ·exact q2.elim
def yE(i j:Int):Prop:=0<j/\j<2^200
theorem E3{X:Cx}:hW X (binaryOp .FloorDiv) (rI yE λi j=>.int (i/j)):=opI λi j _ _ _ _ _ hc q=>by
 have h1:(0:Int)<j:=hc.1;have h2:j<2^200:=hc.2;refine PyProof.Rows.floordiv_int ⋯ (by rw[Int.fdiv_eq_ediv_of_nonneg i ⋯];exact q) (.inl (PyProof.noPylong_of_log2 ?_))
 have h3:j.natAbs<2^200:=by omega
 exact(Nat.log2_lt ⋯).mpr (Nat.lt_of_lt_of_le h3 (Nat.pow_le_pow_right ∅ ∅))
def yV:=Vx yE λi j=>i/j
theorem zN{a b:Expr}{ta tb:TV}{pos:Pos}(ha:EO G k S a ta)(hb:EO G k S b tb):EX G k S (.BinOp a .FloorDiv b pos) (bC yV ta tb):=qE (r:=λ_=>_) (λ_=>E3) (λ_=>nQ) ha hb
end Vc
namespace Vc
open PySem L2
variable [KF]
variable {G:GE}{k:Nat}{S:Stat}
def bz.pA(Y:bz)(F H:Hp)(ps:List Addr):bz:=⟨λb=>if b∈ps then H b else Y.H0 b,F,Y.io,Y.ob⟩
structure pd(Y:bz)(F:Hp)(ah:Sd)(σ:St)(H:Hp)(b:Addr)(o:HO):Prop where
 h:H b=some o
 f:F b=none
 no:dc ah σ b
 z:Y.H0 b=none
 nb:b∉Y.ob
 nt:∀vs,o≠.tup vs
theorem RS.Jy{Y:bz}{F:Hp}{ah:Sd}{σ:St}{H:Hp}(R:RS Y F ah σ H)(ps:List Addr)(hP:∀b∈ps,∃o,pd Y F ah σ H b o):RS (Y.pA F H ps) F ah σ H where
 len:=R.len
 lo:=ao.refl _
 fr:=R.fr
 eS:=λb o e=>.inl e
 old:=λb o e n=>by
  have e:(if b∈ps then H b else Y.H0 b)=some o:=e
  split at e
  ·exact e
  ·exact R.old b o e n
 sh:=R.sh
 own:=λi xs e=>by
  obtain⟨a,vs,h1,h2,h3,h4,h5⟩:=R.own i xs e;refine⟨a,vs,h1,h2,h3,h4,?_⟩;rcases h5 with h5|h5
  ·left
   show(if a∈ps then H a else Y.H0 a)=none
   rw[if_neg λhp=>by obtain⟨o,ap⟩:=hP a hp;exact ap.no i xs e h1]
   exact h5
  ·exact .inr h5
 dis:=R.dis
 io:=R.io
 ob:=R.ob.step (ao.refl _) (λ_ _ e=>⟨e,rfl⟩) (λb hb=>by
  obtain⟨w1,w2,w3⟩:=R.ob.owned hb;refine⟨rfl,w1,w3.imp (λz=>?_) id⟩;show(if b∈ps then H b else Y.H0 b)=none
  rw[if_neg λhp=>by obtain⟨o,ap⟩:=hP b hp;exact ap.no.QC hb]
  exact z) R.ob.gv R.ob.there λb hb=>⟨hb,λh=>by
  show(if b∈ps then H b else Y.H0 b)≠none
  split
  ·exact R.ob.there b hb
  ·exact h⟩
theorem RS.ml{Y:bz}{F F':Hp}{ah aA:Sd}{σ bZ:St}{H H':Hp}(R0:RS Y F ah σ H){ps:List Addr}(hP:∀b∈ps,∃o,pd Y F ah σ H b o)(R:RS (Y.pA F H ps) F' aA bZ H'):
  RS Y F' aA bZ H'/\∀b o,b∈ps->pd Y F ah σ H b o->pd Y F' aA bZ H' b o:=by
 have at0:∀b,b∈ps->(Y.pA F H ps).H0 b=H b:=λb hb=>by show(if b∈ps then H b else Y.H0 b)=_;rw[if_pos hb]
 have xq:∀b,b∉ps->(Y.pA F H ps).H0 b=Y.H0 b:=λb hb=>by show(if b∈ps then H b else Y.H0 b)=_;rw[if_neg hb]
 have QA:∀b,b∈ps->b∉Y.zf:=λb hb hm=>by
  obtain⟨o,ap⟩:=hP b hb;rcases List.mem_append.mp hm with hm|hm
  case inr=>exact ap.nb hm
  obtain⟨q,hq,e⟩:=List.mem_map.mp hm;obtain⟨h1,xs,h2⟩:=R0.io q hq;exact ap.no _ _ h2 (by rw[h1,e])
 have qB:∀b,(Y.pA F H ps).H0 b=none->b∉ps/\Y.H0 b=none:=λb e=>by
  by_cases hb:b∈ps
  ·obtain⟨o,ap⟩:=hP b hb
   rw[at0 b hb,ap.h]at e;cases e
  ·exact⟨hb,by rw[xq b hb]at e;exact e⟩
 refine⟨⟨R.len,R0.lo.trans R.lo,R.fr,λb o e=>?_,λb o e n=>?_,R.sh,λi xs e=>?_,R.dis,R.io,R.ob.step (ao.refl _) (λ_ _ e=>⟨e,rfl⟩) (λb hb=>⟨rfl,(R.ob.owned hb).1,(R.ob.owned hb).2.2.imp (λz=>(qB b z).2) id⟩) R.ob.gv R.ob.there (λb hb=>⟨hb,λh z=>h (by rw[xq b λhp=>by obtain⟨o',ap⟩:=hP b hp;exact ap.nb hb];exact z)⟩)⟩,λb o hb ap=>⟨?_,?_,⟨λj ys e z=>?_,λz=>?_⟩,ap.z,ap.nb,ap.nt⟩⟩
 ·rcases R.eS b o e with h|h
  ·exact R0.eS b o h
  ·exact .inr (h.imp (λh=>(qB b h).2) id)
 ·refine R.old b o ?_ n
  rw[xq b λhb=>by obtain⟨o',ap⟩:=hP b hb;rw[ap.z]at e;cases e]
  exact e
 ·obtain⟨a,vs,h1,h2,h3,h4,h5⟩:=R.own i xs e
  exact⟨a,vs,h1,h2,h3,h4,h5.elim (λh=>.inl (qB a h).2) .inr⟩
 ·exact R.old b o (by rw[at0 b hb];exact ap.h) (QA b hb)
 ·cases q:F' b with
  | none=>rfl
  | some o' =>
   rcases R.eS b o' q with h|h
   ·rw[show(Y.pA F H ps).F0 b=F b from rfl,ap.f]at h;cases h
   ·rcases h with h|⟨ws,rfl⟩
    ·exact absurd hb (qB b h).1
    ·have y:=R.fr b _ q;rw[R.old b o (by rw[at0 b hb];exact ap.h) (QA b hb)]at y;cases y;exact absurd rfl (ap.nt _)
 ·obtain⟨a,vs,h1,h2,h3,h4,h5⟩:=R.own j ys e
  rw[z]at h1;cases h1;rcases h5 with h5|h5
  ·exact absurd hb (qB b h5).1
  ·exact QA b hb (List.mem_append_left _ h5)
 ·rcases(R.ob.owned z).2.2 with w|w
  ·exact absurd hb (qB b w).1
  ·exact ap.nb w
structure V3(H H':Hp)(p:Addr)(as:List Addr)(cs:List Int):Prop where
 same:ao H H'
 list:H' p=some (.lst (as.map V.ref))
 fresh:∀b∈p::as,H b=none
 nd:(p::as).Nodup
 len:as.length=cs.length
 pot:∀(i:Nat) (a:Addr) (c:Int),as[i]?=some a->cs[i]?=some c->H' a=some (.lst [.int c,.int 0])
def yo:Sp:=λvs H Q _=>∃F ns,mv F H/\aC F vs [.lst (List.map D.int ns)]/\ns.length<=63/\∀p as cs H',V3 H H' p as cs->Q (.ref p) H'
def gD(G:GE)(k:Nat)(x:Str):Prop:=∃f fd ps,ck G.P G.w G.K G.mg G.base iA k f fd ps yo/\G.mg x=some (.ref f)/\PySem.W.keepIn G.K (.ref f)=true/\Binds G.K fd ps []
theorem gD.mono{x:Str}{j:Nat}(h:gD G j x)(l:j<=k):gD G k x:=by
 obtain⟨f,fd,ps,h1,h2,h3,h4⟩:=h;exact⟨f,fd,ps,h1.mono l,h2,h3,h4⟩
def LY(Y:bz)(t:eZ):TE:=λσ H Q=>∃F ah Qd,RS Y F ah σ H/\t ah Qd/\(∀ds aA,Qd ds aA->∃ns:List Int,ds=[.lst (ns.map D.int)]/\ns.length<=63) /\
 ∀(p:Addr) (as:List Addr) (cs:List Int) H' F' ds aA,ao F F'->RS Y F' aA σ H'->pd Y F' aA σ H' p (.lst (as.map V.ref))->(p::as).Nodup->as.length=cs.length ->
  (∀(i:Nat) (a:Addr) (c:Int),as[i]?=some a->cs[i]?=some c->pd Y F' aA σ H' a (.lst [.int c,.int 0]))->Qd ds aA->Q (.ref p) H'
theorem Jt{x:Str}{e:Expr}{t:eZ}{p pos:Pos}(hh:S.jl=false)(h:gD G k x)(ha:xa G k S [e] t)(hg:S.sc.lookup x=some .globalImplicit:=by rfl)(jx:(x==("__debug__":Str))=false:=by decide)
  (he:∀env,ab7 [e] env=(false,eval e env)::ab7 [] env:=by intro _;rfl) (dm:∀env,(backTo pos (ab7 [] env)).any (·.1)=false:=by intro _;rfl) {X:Cx} {Y:bz} (ok:dJ X G k S Y):PE X (.Call (.Name x p) [e] [] pos) (LY Y t):=by
 obtain⟨f,fd,ps,h1,h2,h3,h4⟩:=h;have vt:ck X.prog X.w X.K X.mg X.base iA k f fd ps yo:=by rw[ok.P,ok.w,ok.K,ok.mg,ok.base];exact h1
 refine aO (jM (E:=E0) (dvs:=[]) (ds:=[]) vt (ok.room hh) (dy ok hg) (by rw[ok.mg];exact h2) (by rw[ok.K];exact h3) (by rw[ok.K];exact h4) .nil jL (ha X Y ok) jx (he _) (dm _)) λσ H Q q=>?_
 obtain⟨F,ah,Qd,R,q,sh,K⟩:=q;refine⟨F,ah,_,R,q,λvs H1 F1 ds av s1 R1 r1 q1=>?_⟩;show yo (vs++[]) H1 Q E0;rw[List.append_nil];obtain⟨ns,rfl,hl⟩:=sh _ _ q1;refine⟨F1,ns,⟨R1.fr,R1.ob.tab⟩,r1,hl,λp as cs H' P=>?_⟩;have R2:RS Y F1 av σ H':=R1.call (ao.refl _) (R1.fr.trans P.same) P.same λc o e=>.inl e;have apt:∀b∈p::as,∀o,H' b=some o->(∀vs,o≠.tup vs)->pd Y F1 av σ H' b o:=λb hb o e nt=>by
  have hf:=P.fresh b hb;exact⟨e,same_none R1.fr hf,R1.de hf,(R1.bW hf).1,λz=>(R1.bW hf).2 (List.mem_append_right _ z),nt⟩
 exact K p as cs H' F1 _ av s1 R2 (apt p (ab8 ..) _ P.list λ_ z=>nomatch z) P.nd P.len (λi a c e1 e2=>apt a (ab1 _ (List.mem_of_getElem? e1)) _ (P.pot i a c e1 e2) λ_ z=>nomatch z) q1
def vn(pre:Nat->Int->Sd->Sd)(tb:b5)(De:iJ):Nat->Nat->Sd->Prop
 | 0,_,σ=>De.nx σ
 | n+1,i,σ=>∀c:Int,tb {De with nx:=vn pre tb De n (i+1),ct:=vn pre tb De n (i+1),bk:=De.nx} (pre i c σ)
def Ab(t:eZ)(pre:Nat->Int->Sd->Sd)(tb:b5):b5:=λDe σ=>t σ λds av=>(∃ns:List Int,ds=[.lst (ns.map D.int)]/\ns.length<=63)/\∀n,vn pre tb De n 0 av
def S9(j:Nat):Nat->Int->Sd->Sd:=λ_ c σ=>σ.set j (some (.own [.int c,.int 0]))
def lSP(Y:bz)(t:b5):TS:=λDn σ H=>∃Y':bz,(Y'.io=Y.io/\Y'.ob=Y.ob)/\lS Y' t Dn σ H
theorem MT{X:Cx}{Y:bz}{body:List Stmt}{tb:b5}(hx0:S.ex=λ_ _=>False)(ok:dJ X G k S Y)(hb:dr G k S body tb):qU X body (lSP Y tb):=λpins s σ H Dn I ⟨Y',⟨cU,AF⟩,q⟩ =>
 hb X Y' ⟨ok.P,ok.w,ok.K,ok.kf,ok.mg,ok.base,ok.N,ok.sc,ok.nd,λp hp=>ok.ios p (by rw[<- cU];exact hp),(λh1 h2=>AF.trans (ok.obs h1 h2)),ok.calm,ok.kind,ok.fn,ok.hd,ok.dp,ok.un,ok.po,ok.nx,(λc ah h=>by rw[hx0]at h;exact h.elim),λ_ c ah h=>by rw[hx0]at h;exact h.elim⟩ pins s σ H Dn I q
theorem Fq{X:Cx}{Y:bz}{t:eZ}{pre:Nat->Int->Sd->Sd}{tb:b5}{J:Addr->It}{g:TG}{Dn:Ends}{σ:St}{H:Hp}
  (hgo:∀(p:Addr) (as:List Addr) (i:Nat) (a:Addr) (H:Hp),H p=some (.lst (as.map V.ref))->as[i]?=some a->(J p).go i H)
  (En:∀(p:Addr) (as:List Addr) (H:Hp),H p=some (.lst (as.map V.ref))->(J p).stop as.length H)
  (hy:∀(p:Addr) (as:List Addr) (i:Nat) (a:Addr) (c:Int) (F H:Hp) (ah:Sd) (σ:St) (x:V) (H':Hp),RS Y F ah σ H->(p::as).Nodup->as[i]?=some a ->
   (∀b∈p::as.drop (i+1),∃o,pd Y F ah σ H b o)->H p=some (.lst (as.map V.ref))->pd Y F ah σ H a (.lst [.int c,.int 0])->(J p).VJ i H x H' ->
   ∃F',ao F F'/\RS Y F' ah σ H'/\(∀b o,pd Y F ah σ H b o->pd Y F' ah σ H' b o)/\∀N:St->Hp->Prop,(∀aL,RS (Y.pA F' H' (p::as.drop (i+1))) F' (pre i c ah) aL H'->N aL H')->g x σ H' N)
  (q:lS Y (Ab t pre tb) Dn σ H):
  aan (λσ H R=>LY Y t σ H λx H1=>∃p as,x=.ref p/\H1 p=some (.lst (List.map V.ref as))/\R (J p) H1) g (lSP Y tb) Dn σ H:=by
 obtain⟨F,ah,De,R,q,K⟩:=q;refine⟨F,ah,_,R,q,λds aA h=>h.1,λp as cs H1 F1 ds yD s1 R1 ap nd len ya q1=>⟨p,as,rfl,ap.h,?_⟩⟩;have q1:=q1.2 as.length;refine⟨λi m bZ H'=>∃F' aA,ao F1 F'/\RS Y F' aA bZ H'/\pd Y F' aA bZ H' p (.lst (as.map V.ref))/\(∀(j:Nat) (a:Addr) (c:Int),i<=j->as[j]?=some a->cs[j]?=some c->pd Y F' aA bZ H' a (.lst [.int c,.int 0])) /\
  vn pre tb De (as.length-i) i aA/\m=as.length-i/\i<=as.length,⟨as.length,F1,yD,ao.refl _,R1,ap,λj a c _=>ya j a c,q1,rfl,Nat.zero_le _⟩,?_⟩
 rintro i m bZ H' ⟨F',aA,s',R',Wk,Fp,q',rfl,hi⟩
 by_cases hl:i<as.length
 ·right
  have e1:as[i]?=some as[i]:=abY hl;have pj:i<cs.length:=by rw[<- len];exact hl
  have e2:cs[i]?=some cs[i]:=abY pj;refine⟨hgo p as i _ H' Wk.h e1,λaL H2=>∃F2 cj,ao F1 F2/\RS Y F2 cj aL H2/\pd Y F2 cj aL H2 p (.lst (as.map V.ref))/\(∀(j:Nat) (a:Addr) (c:Int),i+1<=j->as[j]?=some a->cs[j]?=some c->pd Y F2 cj aL H2 a (.lst [.int c,.int 0])) /\
   vn pre tb De (as.length-(i+1)) (i+1) cj,λaL H2 ⟨F2,cj,w1,w2,w3,w4,w5⟩=>⟨as.length-(i+1),by omega,F2,cj,w1,w2,w3,w4,w5,rfl,hl⟩,λx H2 y=>?_⟩
  have Py:∀(j:Nat) (a:Addr),i+1<=j->as[j]?=some a->a∈p::as.drop (i+1):=λj a hj e=>by
   refine ab1 _ (List.mem_of_getElem? (i:=j-(i+1)) ?_);rw[List.getElem?_drop,show i+1+(j-(i+1))=j by omega];exact e
  have hP:∀b∈p::as.drop (i+1),∃o,pd Y F' aA bZ H' b o:=λb hb=>by
   rcases ab6.mp hb with rfl|hb
   ·exact⟨_,Wk⟩
   ·obtain⟨j,hj,e⟩:=List.mem_iff_getElem.mp hb
    rw[List.getElem_drop]at e;have He:i+1+j<as.length:=by rw[List.length_drop]at hj;omega
    have hj2:i+1+j<cs.length:=by rw[<- len];exact He
    exact⟨_,Fp (i+1+j) b cs[i+1+j] ⋯ (by rw[abY He,e]) (abY hj2)⟩
  obtain⟨F2,sF,R2,keep,go⟩:=hy p as i _ cs[i] F' H' aA bZ x H2 R' nd e1 hP Wk.h (Fp i _ _ (ab3 _) e1 e2) y;refine go _ λaL R3=>?_;have hn:as.length-i=(as.length-(i+1))+1:=by omega
  rw[hn]at q';have q2:=q' cs[i];have XI:∀b∈p::as.drop (i+1),∃o,pd Y F2 aA bZ H2 b o:=λb hb=>by
   obtain⟨o,a⟩:=hP b hb;exact⟨o,keep b o a⟩
  have again:∀ {qR:St} {H4 F4:Hp} {eD:Sd},ao F2 F4->RS (Y.pA F2 H2 (p::as.drop (i+1))) F4 eD qR H4->vn pre tb De (as.length-(i+1)) (i+1) eD->∃F2 cj,ao F1 F2/\RS Y F2 cj qR H4/\pd Y F2 cj qR H4 p (.lst (as.map V.ref))/\(∀(j:Nat) (a:Addr) (c:Int),i+1<=j->as[j]?=some a->cs[j]?=some c->pd Y F2 cj qR H4 a (.lst [.int c,.int 0]))/\vn pre tb De (as.length-(i+1)) (i+1) cj:=λ{qR H4 F4 eD} s4 R4 q4=>by
   obtain⟨R5,k5⟩:=R2.ml XI R4;exact⟨F4,eD,(s'.trans sF).trans s4,R5,k5 _ _ (ab8 ..) (keep _ _ Wk),λj a c hj ea ec=>k5 _ _ (Py j a hj ea) (keep _ _ (Fp j a c ⋯ ea ec)),q4⟩
  refine⟨Y.pA F2 H2 (p::as.drop (i+1)),⟨rfl,rfl⟩,F2,pre i cs[i] aA,_,R3,q2,⟨λqR H4 F4 eD s4 R4 q4=>again s4 R4 q4,λv4 qR H4 F4 eD b s4 R4 r4 q4=>?_,λqR H4 F4 eD s4 R4 q4=>?_,λqR H4 F4 eD s4 R4 q4=>again s4 R4 q4⟩⟩
  ·obtain⟨R5,k5⟩:=R2.ml XI R4
   refine K.rt v4 qR H4 F4 eD b (((s1.trans s').trans sF).trans s4) R5 ?_ q4;cases b with
   | sh d=>exact r4
   | own xs =>
    obtain⟨a,vs,w1,w2,w3,w4,w5,w6⟩:=r4;refine⟨a,vs,w1,w2,w3,w4,?_,w6⟩;have w5:(if a∈p::as.drop (i+1)then H2 a else Y.H0 a)=none:=w5
    split at w5
    ·rename_i hm
     obtain⟨o,ap⟩:=XI a hm;exact ap.z
    ·exact w5
   | obj o =>
    obtain⟨a,w1,w2,w3⟩:=r4;refine⟨a,w1,w2,λb hb=>⟨(w3 b hb).1,(w3 b hb).2.1,?_,(w3 b hb).2.2.2⟩⟩;have w5:(if b∈p::as.drop (i+1)then H2 b else Y.H0 b)=none:=(w3 b hb).2.2.1
    split at w5
    ·rename_i hm
     obtain⟨o,ap⟩:=XI b hm;exact ap.z
    ·exact w5
  ·obtain⟨R5,k5⟩:=R2.ml XI R4
   exact K.nx qR H4 F4 eD (((s1.trans s').trans sF).trans s4) R5 q4
 ·left
  have e:i=as.length:=by omega
  subst e;rw[Nat.sub_self]at q';exact⟨En p as H' Wk.h,K.nx bZ H' F' aA (s1.trans s') R' q'⟩
theorem RS.J6{Y:bz}{F:Hp}{ah:Sd}{σ:St}{H:Hp}{j:Nat}{a:Addr}{c:Int}{ps:List Addr}(R:RS Y F ah σ H)(hP:∀b∈ps,∃o,pd Y F ah σ H b o)(ha:pd Y F ah σ H a (.lst [.int c,.int 0]))(hn:a∉ps)(cU:∀p∈Y.io,p.1≠j):
  RS (Y.pA F H ps) F (ah.set j (some (.own [.int c,.int 0]))) (σ.set j (some (.ref a))) H:=
 (R.Jy ps hP).FU ha.h (.cons (.int _) (.cons (.int _) .nil)) ha.f (by show(if a∈ps then H a else Y.H0 a)=none;rw[if_neg hn];exact ha.z) ha.no cU
theorem IU{p:Addr}{as:List Addr}{i:Nat}{a:Addr}(nd:(p::as).Nodup)(e:as[i]?=some a):a∉p::as.drop (i+1):=by
 have hi:=(ab2.mp e).1;have ea:as[i]=a:=(ab2.mp e).2;intro h;rcases ab6.mp h with h|h
 ·exact(List.nodup_cons.mp nd).1 (by rw[<- h];exact List.mem_of_getElem? e)
 ·obtain⟨j,hj,e'⟩:=List.mem_iff_getElem.mp h
  rw[List.getElem_drop]at e';have He:i+1+j<as.length:=by rw[List.length_drop]at hj;omega
  have:=(List.nodup_cons.mp nd).2;exact List.pairwise_iff_getElem.mp this i (i+1+j) hi He ⋯ (by rw[ea,e'])
theorem Tj(j:Nat){x y:Str}{e:Expr}{t:eZ}{tb:b5}{body:List Stmt}{p cI iE pos:Pos}(h:gD G k x)(ha:xa G k S [e] t)(hb:dr G k S body tb)(hj:S.N[j]?=some y:=by rfl)(hx:S.sc.lookup y=some .local\/(S.sc.lookup y=some .cell/\S.Ce=false):=by first|exact Or.inl rfl|exact Or.inr ⟨rfl,rfl⟩)
  (hn:j∉S.ios:=by first|decide|exact ack | (dsimp only;decide)) (hg:S.sc.lookup x=some .globalImplicit:=by rfl) (jx:(x==("__debug__":Str))=false:=by decide)
  (he:∀env,ab7 [e] env=(false,eval e env)::ab7 [] env:=by intro _;rfl) (dm:∀env,(backTo cI (ab7 [] env)).any (·.1)=false:=by intro _;rfl)
  (hs:∀env x',foldedSetIterable (.Call (.Name x p) [e] [] cI) env x'=pure x':=by intro _ _;rfl) (hx0:S.ex=λ_ _=>False:=by rfl) (hh:S.jl=false:=by rfl):
  ES G k S (.For (.Name y iE) (.Call (.Name x p) [e] [] cI) body [] pos) (Ab t (S9 j) tb):=.mk λX Y ok=>by
 have pi:=Fj (tg:=.Name y iE) (Jt (p:=p) (pos:=cI) hh h ha hg jx he dm ok);refine cf (Ft (ok.po hh) (ok.calm hh) pi (L2.zG (i:=j) (by rw[ok.N];exact ok.nd) (by rw[ok.N];exact hj) (n5 ok hx) (nL ok hx)) (MT hx0 ok hb) (hs _)) λDn σ H q=>?_
 have r:=Fq (X:=X) (J:=λa=>Itl X.K a) (g:=nN j) (λp as i a H h e=>⟨as.map V.ref,.ref a,.of h,by rw[acb,e];rfl⟩) (λp as H h=>⟨as.map V.ref,.of h,by rw[abZ];exact ab3 _⟩)
  (λp as i a c F H ah σ x H' R nd e hP hp aa8 y=>by
   obtain⟨rfl,y⟩:=y;have hx:=y _ (.of hp);rw[acb,e]at hx;cases hx;refine⟨F,ao.refl _,R,λ_ _ a=>a,λN hN=>hN _ (R.J6 hP aa8 (IU nd e) λq hq z=>hn (by rw[<- z];exact ok.ios q hq))⟩) q
 obtain⟨F,ah,Qd,w1,w2,w3,w4⟩:=r;exact⟨F,ah,Qd,w1,w2,w3,λp as cs H' F' ds aA a1 a2 a3 a4 a5 a6 a7=>by
  obtain⟨p',as',e,z1,z2⟩:=w4 p as cs H' F' ds aA a1 a2 a3 a4 a5 a6 a7;exact .inl ⟨p',e,⟨_,.of z1⟩,z2⟩⟩
theorem vo{pre:Nat->Int->Sd->Sd}{tb:b5}{De:iJ}(I:Sd->Prop)(hb:∀i c σ (N:Sd->Prop),I σ->(∀bZ,I bZ->N bZ)->tb {De with nx:=N,ct:=N,bk:=De.nx} (pre i c σ))(hn:∀σ,I σ->De.nx σ):∀n i σ,I σ->vn pre tb De n i σ
 | 0,_,σ,h=>hn σ h
 | n+1,i,σ,h=>λc=>hb i c σ _ h λbZ h'=>vo I hb hn n (i+1) bZ h'
end Vc
namespace Vc
open PySem L2
variable [KF]
variable {G:GE}{k:Nat}{S:Stat}
def Ly(Y:bz):TS:=λDn σ H=>∃F ns,RS Y F [some (.sh (.lst (List.map D.int ns)))] σ H/\Y.H0=H/\(Y.io=[]/\Y.ob=[])/\ns.length<=63/\∀p as cs H',V3 H H' p as cs->Dn.rt (.ref p) H'
structure ug(G:GE)(k:Nat)(S:Stat)(b:List Stmt) :Prop where
 run:∀X Y,dJ X G k S Y->qU X b (Ly Y)
instance {G:GE} {k:Nat} {S:Stat} {b:List Stmt} :CoeFun (ug G k S b) λ_=>∀X Y,dJ X G k S Y->qU X b (Ly Y):=⟨ug.run⟩
def lLe(t:eZ):TE:=λσ H Q=>∃Y:bz,Y.io=[]/\aao (lDs Y t) σ H Q
abbrev GH:TB:=bf eqT (bw (eE fL (bD (ae 0) dN))) (aY (.int 0))
abbrev GO:eZ:=aR (aj [] (aY (.int 0))) (aR (aj [] (aY (.int 0))) tN)
abbrev GI:eZ:=cV (aj [] (bw (F8 (ae 0) tP0 (tP1 (aY (.int 63))))))
abbrev yw:eZ:=aR (aj [] (ae 0)) (aR (aj [] (aY (.int 0))) tN)
theorem yS{α:Type}(xs:List α)(lo hi:Option Int):(cut xs lo hi).length<=xs.length:=by
 unfold cut;rw[List.length_take,List.length_drop];omega
theorem uE(ns:List Int)(lo hi:Option Int):cut (ns.map D.int) lo hi=(cut ns lo hi).map D.int:=by
 unfold cut;rw[abZ,List.map_take,List.map_drop]
theorem aC.Yg{F:Hp}{vs:List V}{a b:Int}(r:aC F vs [.int a,.int b]):vs=[.int a,.int b]:=by
 cases r with
 | cons h r =>
  cases h;cases r with
  | cons h r=>cases h;cases r;rfl
section
variable {c:Expr}{zs es:List Expr}{tg iter:Expr}{scope:Scope}{N':List Str}{p1 p2 p3 p4 p5 p6 p7:Pos}
theorem Oi(abN:S.ios=[])(hc:EB G k S c GH)(hz:xa G k S zs GO)(hi:EI G k S tg iter GI)(b:iI S scope N' [none])(hg:EG G k (aM S scope N') tg (fK 0))(he:xa G k (aM S scope N') es yw)(hs:∀env x,foldedSetIterable iter env x=pure x:=by intro _ _;rfl) 
  (h1:∀env,ab7 [.List zs p1] env=(false,eval (.List zs p1) env)::ab7 [] env:=by intro _;rfl) (hh:S.jl=false:=by rfl):
  ug G k S [.If c [.Return (some (.List [.List zs p1] p2)) p3] [] p4,.Return (some (.ListComp (.List es p5) [⟨tg,iter,[],0⟩] scope p6)) p7]:=.mk λX Y ok=>by
 have Ef:∀X',jo X X' scope N'->PG X' tg (lGe (fK 0))/\G6 X' [] (lBe eC)/\PE X' (.List es p5) (lLe yw):=λX' cx =>
  ⟨λpins s σ H v u Q I r ⟨Y',cU,q⟩=>hg X' Y' (d7 hh ok b cx Y' cU) pins s σ H v u Q I r q,λpins s σ H Q I ⟨Y',cU,q⟩=>mx X' Y' (d7 hh ok b cx Y' cU) pins s σ H Q I q,λpins s σ H Q I ⟨Y',cU,q⟩=>so (he X' Y' (d7 hh ok b cx Y' cU)) pins s σ H Q I q⟩
 refine sy (vZ (L2.LJ (hc X Y ok) (sA (L2.yb (so (bX (so (hz X Y ok)) ei (h1 _))))) zK) (sA (L2.yb (nq (ok.calm hh) (hi X Y ok) (b.sc ok) Ef (hs _))))) λDn σ H q=>?_;obtain⟨F,ns,R,rfl,hY,hl,K⟩:=q;have same:∀ {F':Hp} {ah:Sd} {σ:St} {H':Hp},RS Y F' ah σ H'->ao Y.H0 H':=λR b o e=>R.old b o e (by rw[bz.zf,hY.1,hY.2];simp)
 refine⟨F,_,λ_ aA=>aA=[some (.sh (.lst (List.map D.int ns)))],R,?_,λbb H1 F1 av s1 R1 e1=>?_⟩
 ·simp only[GH,bf,bw,fzV,eE,bD,ae,dN,i7,cS,List.getElem?_cons_zero,fL,aY,eqT]
  exact⟨⟨rfl,rfl⟩,trivial⟩
 subst e1;cases bb with
 | true =>
  refine(if_pos rfl).mpr ?_;refine⟨F1,_,λds _=>ds=[.int 0,.int 0],R1,?_,λvs H2 F2 ds aL s2 R2 r2 e2=>?_⟩
  ·simp only[GO,aR,aj,kX,aY,tN]
  subst e2;obtain rfl:=r2.Yg;refine⟨by show 2<=aca;decide,λa ha=>⟨by show 1<=aca;decide,λp hp=>K p [a] [0] _ ?_⟩⟩
  have hpa:p≠a:=λz=>by rw[z,ay]at hp;cases hp
  have Vw:H2 p=none:=by rw[aq hpa]at hp;exact hp
  have sm:=same R2;refine⟨(sm.trans (aJ ha)).trans (aJ hp),ay,λb hb=>?_,by simp [hpa],rfl,λi a' c' e1 e2=>?_⟩
  ·rcases ab6.mp hb with rfl|hb
   ·exact sm.free Vw
   ·rw[ab5.mp hb];exact sm.free ha
  ·cases i with
   | zero =>
    cases e1;cases e2;rw[aq hpa.symm,ay]
   | succ i=>simp at e1
 | false =>
  refine(if_neg ∅).mpr ?_
  refine⟨F1,_,λitems aA=>(∃ms:List Int,items=ms.map D.int/\ms.length<=63)/\aA=[some (.sh (.lst (List.map D.int ns)))],R1,?_,λH2 F2 aL J items s2 R2 it e2 acc gL=>?_⟩
  ·simp only[GI,cV,aj,kX,kY,bw,fzV,F8,ae,tP0,tP1,aY,cS,List.getElem?_cons_zero,slD]
   exact⟨⟨cut ns none (some 63),uE _ _ _,Nat.le_trans (yS _ _ _) hl⟩,trivial⟩
  obtain⟨⟨ms,rfl,hm⟩,rfl⟩:=e2;have a0:Y.H0 acc=none:=(R2.bW gL).1;have aF:F2 acc=none:=same_none R2.fr gL;have noOwn:∀(σ:St) (a:Addr),dc [some (.sh (.lst (List.map D.int ns)))] σ a:=λσ a=>⟨λj ys e=>by
   cases j with
   | zero=>cases e
   | succ j=>simp at e,λ⟨j,o,c,e,_⟩=>by
   cases j with
   | zero=>cases e
   | succ j=>simp at e⟩
  have sw:∀ {F5 H5:Hp} {o:HO},ao F5 H5->F5 acc=none->ao F5 (upd H5 acc o):=λ{F5 H5 o} s5 h b u e=>by
   have:b≠acc:=λz=>by rw[z,h]at e;cases e
   rw[aq this];exact s5 b u e
  have YH:∀(i:Nat) (xs:List D),([none]:Sd)[i]?≠some (some (.own xs)):=λi xs e=>by
   cases i with
   | zero=>cases e
   | succ i=>simp at e
  have YG:∀(i:Nat) (o:O),([none]:Sd)[i]?≠some (some (.obj o)):=λi o e=>by
   cases i with
   | zero=>cases e
   | succ i=>simp at e
  refine⟨λi m av H'=>∃Fi as cs,ao F2 Fi/\RS Y Fi [some (.sh (.lst (List.map D.int ns)))] σ H'/\H' acc=some (.lst (List.map V.ref as))/\(acc::as).Nodup/\(∀b∈acc::as,Y.H0 b=none/\Fi b=none) /\
    (∀(i:Nat) (a:Addr) (c:Int),as[i]?=some a->cs[i]?=some c->H' a=some (.lst [.int c,.int 0]))/\as.length=cs.length/\as.length=i/\RS ⟨H',Fi,[],[]⟩ Fi [none] av H'/\m=ms.length-i/\i<=ms.length,
   ⟨ms.length,F2,[],[],ao.refl _,R2.other aF a0 (noOwn _ _),ay,by simp,λb hb=>by rw[ab5.mp hb];exact⟨a0,aF⟩,λi a c e=>by simp at e,rfl,rfl,rq R2 [none] (ao.refl _) (sw R2.fr aF),rfl,Nat.zero_le _⟩,?_⟩
  rintro i m av Hi ⟨Fi,as,cs,si,Ri,fh,nd,fr,ya,len,Yv,V5,rfl,hi⟩;have zh:=it Fi Hi si Ri.fr i
  by_cases pj:i<ms.length
  ·right
   obtain⟨go,yl⟩:=zh.1 (.int ms[i]) (by rw[acb,abY pj];rfl)
   refine⟨go,λv H' y=>?_⟩;obtain⟨F3,gr,rep⟩:=yl v H' y;have sF:ao Fi F3:=gr.same Ri.fr;have R3:=gr.rs V5;have V4:RS ⟨H',F3,[],[]⟩ F3 [none] av H':=R3.less (fj _) YH YG R3.fr;have sH:ao Hi H':=by
    rcases gr with⟨_,rfl⟩|⟨p,o,hp,_,rfl⟩
    ·exact ao.refl _
    ·exact aJ hp
   have HY:∀c o,F3 c=some o->Fi c=some o\/Nw Hi c o:=λc o e=>by
    rcases gr with⟨rfl,_⟩|⟨p,o',hp,rfl,_⟩
    ·exact .inl e
    ·by_cases hc:c=p
     ·subst hc;exact .inr (.inl hp)
     ·rw[aq hc]at e;exact .inl e
   refine⟨⟨H',F3,[],[]⟩,rfl,F3,_,.int ms[i],λah=>ah=[some (.sh (.int ms[i]))],V4,rep,rfl,λqR H4 F4 eD s4 R4 q4=>?_⟩;subst q4;refine⟨⟨H',F3,[],[]⟩,rfl,F4,_,λbb ah=>bb=true/\ah=[some (.sh (.int ms[i]))],R4,⟨rfl,rfl⟩,λbb H5 F5 o6 s5 R5 q5=>?_⟩;obtain⟨rfl,rfl⟩:=q5;refine(if_pos rfl).mpr ?_;refine⟨⟨H',F3,[],[]⟩,rfl,F5,_,λds ah=>ds=[.int ms[i],.int 0]/\ah=[some (.sh (.int ms[i]))],R5,?_,λvs H6 F6 ds aax s6 R6 r6 q6=>?_⟩
   ·simp only[yw,aR,aj,kX,kY,ae,aY,tN,List.getElem?_cons_zero]
    exact⟨trivial,trivial⟩
   obtain⟨rfl,rfl⟩:=q6;obtain rfl:=r6.Yg;refine⟨by show 2<=aca;decide,λa ha=>?_⟩
   have s36:ao F3 F6:=(s4.trans s5).trans s6;have Bi:ao Hi H6:=sH.trans λb o e=>R6.old b o e (by simp [bz.zf])
   have fr6:∀c o,F6 c=some o->Fi c=some o\/Nw Hi c o:=λc o e=>by
    rcases R6.eS c o e with z|z
    ·exact HY c o z
    ·exact .inr (z.imp sH.free id)
   have w1:RS Y F6 [some (.sh (.lst (List.map D.int ns)))] σ H6:=Ri.call (sF.trans s36) R6.fr Bi fr6;have live:∀b∈acc::as,∃o,Hi b=some (.lst o):=λb hb=>by
    rcases ab6.mp hb with rfl|hb
    ·exact⟨_,fh⟩
    ·obtain⟨j,hj,e⟩:=List.mem_iff_getElem.mp hb
     have hj2:j<cs.length:=by rw[<- len];exact hj
     exact⟨_,ya j b cs[j] (by rw[abY hj,e]) (abY hj2)⟩
   have w3:∀b∈acc::as,F6 b=none:=λb hb=>by
    cases e:F6 b with
    | none=>rfl
    | some o =>
     obtain⟨o',e'⟩:=live b hb;rcases fr6 b o e with z|z
     ·rw[(fr b hb).2]at z;cases z
     ·rcases z with z|⟨ws,rfl⟩
      ·rw[e']at z;cases z
      ·have y:=R6.fr b _ e;rw[Bi _ _ e']at y;cases y
   have na:∀b∈acc::as,b≠a:=λb hb=>by
    obtain⟨o',e'⟩:=live b hb;exact aZ (Bi _ _ e') ha
   have XM:(upd H6 a (.lst [.int ms[i],.int 0])) acc=some (.lst (List.map V.ref as)):=by rw[aq (na acc (ab8 ..))];exact Bi _ _ fh
   have R7:=w1.nD (o:=.lst [.int ms[i],.int 0]) ha;have aF6:=w3 acc (ab8 ..);have YC:a≠acc:=(na acc (ab8 ..)).symm;have V7:F6 a=none:=same_none w1.fr ha;refine⟨List.map V.ref as,ms.length-(i+1),XM,by rw[abZ,Yv];exact Nat.lt_of_lt_of_le pj (Nat.le_trans hm ∅),by omega,F6,as++[a],cs++[ms[i]],si.trans (sF.trans s36),R7.other aF6 a0 (noOwn _ _),?_,?_,?_,?_,by simp [len],by simp [Yv],R6.less (σ0:=[none]) trivial YH YG (sw (λb o e=>?_) aF6),rfl,pj⟩
   ·rw[ay,List.map_append];rfl
   ·rw[List.nodup_cons]at nd ⊢
    refine⟨λh=>?_,?_⟩
    ·rcases List.mem_append.mp h with h|h
     ·exact nd.1 h
     ·exact YC (ab5.mp h).symm
    ·rw[List.nodup_append]
     refine⟨nd.2,by simp,λx hx y hy z=>?_⟩
     rw[ab5.mp hy]at z;exact na x (ab1 _ hx) z
   ·intro b hb
    rcases ab6.mp hb with rfl|hb
    ·exact⟨a0,aF6⟩
    ·rcases List.mem_append.mp hb with hb|hb
     ·exact⟨(fr b (ab1 _ hb)).1,w3 b (ab1 _ hb)⟩
     ·rw[ab5.mp hb]
      exact⟨(w1.bW ha).1,V7⟩
   ·intro t a' c' e1 e2
    by_cases ht:t<as.length
    ·rw[List.getElem?_append_left ht]at e1
     rw[List.getElem?_append_left (by rw[<- len];exact ht)]at e2
     have hm':=List.mem_of_getElem? e1;have:a'≠acc:=λz=>(List.nodup_cons.mp nd).1 (by rw[<- z];exact hm')
     rw[aq this,aq (na a' (ab1 _ hm'))];exact Bi _ _ (ya t a' c' e1 e2)
    ·have h1:=(ab2.mp e1).1
     rw[List.length_append,List.length_singleton]at h1;have h2:t=as.length:=by omega
     subst h2;rw[List.getElem?_append_right (ab3 _),Nat.sub_self]at e1;rw[List.getElem?_append_right (by rw[len];exact ab3 _),len,Nat.sub_self]at e2
     cases e1;cases e2;rw[aq YC,ay]
   ·have:b≠a:=λz=>by rw[z,V7]at e;cases e
    rw[aq this];exact R6.fr b o e
  ·left
   have e:i=ms.length:=by omega
   refine⟨zh.2 (by rw[abZ];exact e),K acc as cs Hi ⟨same Ri,fh,λb hb=>(fr b hb).1,nd,len,ya⟩⟩
end
theorem cY.ya{x:Str}{st:Stmt}{ps N:List Str}{f:Addr}{fd:FuncData}(d:cY G x st ps f fd)(hK:G.K=KF.K)(Sc:aB N ps (ag st))(hN:N.length=1)(Lq:ps.length=1)(ht:ug G k ⟨N,(ag st).names,[],false,false,false,λ_ _=>False⟩ (ak st)):gD G (k+1) x:=by
 refine⟨f,fd,ps,?_,d.m,d.F.kp,d.b⟩;refine d.F.ok Sc (λvs H Q E h=>?_) (λh9 A outer s H vs Q E hr h=>?_)
 ·obtain⟨F,ns,s,r,_⟩:=h
  rw[r.length,Lq];rfl
 ·obtain⟨F,ns,sm,r,hl,K⟩:=h
  refine⟨_,ht (nJ iA G.P G.w G.K G.mg G.base N x (ag st) f h9 A outer s H E).IZ ⟨H,F,[],[]⟩ ⟨rfl,rfl,rfl,hK,rfl,rfl,rfl,rfl,Sc.nd,λp hp=>absurd hp (by simp),λ_ _=>rfl,λ_=>rfl,Sc.kind,λ_ _ _=>rfl,λ_=>hr.hd,hr.dp,hr.un,λ_=>PassesOwn.never,λ_=>⟨rfl,rfl,rfl⟩,λ_ _ h=>h.elim,λh=>nomatch h⟩,F,ns,?_,rfl,⟨rfl,rfl⟩,hl,λp as cs H' P=>K p as cs H' P⟩
  have:=RS.start N.length sm r;rw[hN]at this;show RS _ F _ (vs.map some++List.replicate (N.length-vs.length) none) H;rw[hN];exact this
end Vc
namespace Vc
open PySem L2
variable [KF]
variable {G:GE}{k:Nat}{S:Stat}
theorem Yh(a b:D)(Q:D->Prop):Lw (.lst [a,b]) (.int 0) Q=Q a:=rfl
theorem Yi(a b:D)(Q:D->Prop):Lw (.lst [a,b]) (.int 1) Q=Q b:=rfl
theorem PC:zk 2 0=some 0:=rfl
theorem PD:zk 2 1=some 1:=rfl
theorem pW{α:Type}{g:mw}{te:TD}{uf:Sd}{m:Nat}{Q:List D->List D->Prop}{L3:List D}(gi:α->D)(P:D->Prop)(Rk:List D->Prop)(l:List α)
  (h:∀a∈l,∀xs,Rk xs->∀(A:D->List D->Prop) (Z:Prop),Z->(∀d ys,P d->Rk ys->A d ys)->g (gi a) (uf.set m (some (.own xs))) λav=>te av λd eY=>lF uf eY/\Z/\ownAt m eY λys=>A d ys)
  (hl:l.length<=aca) (h0:Rk L3) (q:∀ds ys,ds.length=l.length->(∀d∈ds,P d)->Rk ys->Q ds ys):i3 g eC te uf m (l.map gi) [] L3 Q:=by
 have key:∀(l2:List α) (acc xs:List D),(∀a∈l2,a∈l)->acc.length+l2.length=l.length->(∀d∈acc,P d)->Rk xs->i3 g eC te uf m (l2.map gi) acc xs Q:=by
  intro l2
  induction l2 with
  | nil=>intro acc xs _ hlen gL hr;exact q acc xs (by simpa using hlen) gL hr
  | cons a l2 ih =>
   intro acc xs hm hlen gL hr;have abL:acc.length+(l2.length+1)=l.length:=by simpa using hlen
   show g (gi a) _ λav=>eC av λb aL=>_;exact h a (hm a (ab8 ..)) xs hr (λd ys=>i3 g eC te uf m (l2.map gi) (acc++[d]) ys Q) (acc.length<aca) ⋯ λd ys hd hy =>
    ih _ ys (λx hx=>hm x (ab1 _ hx)) (by rw[List.length_append,List.length_singleton];omega) (λx hx=>by
     rcases List.mem_append.mp hx with hx|hx
     ·exact gL x hx
     ·rw[ab5.mp hx];exact hd) hy
 exact key l [] L3 (λ_ h=>h) (by simp) (λd hd=>by cases hd) h0
end Vc
namespace Vc
open PySem L2
variable [KF]
section
variable {prog:Program}{w:World}{A:Around}{R:Result->Shared->Prop}
theorem xo(a:Value):argsOk "min" ⟨[a],[]⟩:=by unfold argsOk;kernel_rfl
theorem AX{E:Value->Shared->Prop}{s:Shared}{its:Array Value}{bt:Nat->Nat->Bool}(hh:A.handled=none)(hc:yG prog w A.in1 .Lt s.heap its bt){l:Addr}(hl:s.heap.IsList l its){Q:Value->Shared->Prop}
  (q0:its.size≠0)
  (q1:∀v g tk,its[cB bt (its.size-1)]?=some v->(∀b o,s.heap.get? b=some o->g.get? b=some o)->Q v {s with heap:=g,toks:=tk}):
  wpAny (model prog w) A (call (.builtin "min") [.ref l] []) Q E s:=by
 have nm:(toString "min"++toString ".loop":String)="min.loop":=by decide
 refine wpAny_call (codeAny_call_builtin F.plain_min F.entry_min ?_);have run:wpAny (model prog w) A.in1 (Builtin.«min» ⟨[.ref l],[]⟩) (λfin s'=>match fin with
   | .done f=>(match(Except.ok f:Result)with|.ok (.ret v)=>Q v s'|.ok _=>False|.error e=>E e s')
   | .again c'=>c'.quiet=true/\codeAny (model prog w) A c' (λr s'=>match r with|.ok (.ret v)=>Q v s'|.ok _=>False|.error e=>E e s') s') E s:=by
  show wpAny _ A.in1 (Builtin.Builtins.bindParams "min" ["key","default"] 0 ⟨[],[]⟩ >>= _) _ _ s;refine abW (wpAny_of_eq (show Builtin.Builtins.bindParams "min" ["key","default"] 0 ⟨[],[]⟩=pure [none,none]from rfl) (abW (ab0 ?_)))
  refine abW (wpAny_pyIter_list hl (abW (wpAny_newObj_type ?_)));generalize Ph:s.heap.push {cls:=.type "list_iterator",data:=.fields #[.ref l,.int 0 0]}=g1;have n1:g1.objs.size=s.heap.objs.size+1:=by rw[<- Ph];exact Heap.size_push ..
  have I0:(g1.push {cls:=.type "list",dict:=none,data:=.seq ([]:List Value).toArray}).IsListIter s.heap.objs.size l 0:=⟨_,abX _ (by rw[<- Ph];exact Heap.get?_push_size _ rfl),rfl,rfl⟩
  have S0:=Heap.get?_push_size g1 (o:={cls:=.type "list",dict:=none,data:=.seq ([]:List Value).toArray}) rfl;have k0:∀b o,s.heap.get? b=some o->(g1.push {cls:=.type "list",dict:=none,data:=.seq ([]:List Value).toArray}).get? b=some o:=λb o e=>abX _ (by rw[<- Ph];exact abX _ e)
  have fr:∀a,s.heap.objs.size<=a->s.heap.get? a=none:=λa ha=>by
   cases e:s.heap.get? a with
   | none=>rfl
   | some o=>exact absurd (Heap.lt_size e) (Nat.not_lt.mpr ha)
  have nI:s.heap.get? s.heap.objs.size=none:=fr _ (ab3 _);have nS:s.heap.get? g1.objs.size=none:=fr _ (by rw[n1];exact Nat.le_succ _)
  have IS:s.heap.objs.size≠g1.objs.size:=by rw[n1];exact Nat.ne_of_lt (Nat.lt_succ_self _)
  rw[nm];refine ab0 ⟨plainId_quiet F.plain_min_loop _,?_⟩;generalize XW:g1.push {cls:=.type "list",dict:=none,data:=.seq ([]:List Value).toArray}=g2 at I0 S0 k0;have pj:g2.IsList l its:=by obtain⟨o,e,r⟩:=hl;exact⟨o,k0 _ _ e,r⟩
  refine codeAny_builtin F.entry_min_loop ?_;rw[Around.under_plainId F.plain_min_loop _];show wpAny _ A.in1 (seqItems? (.ref g1.objs.size) >>= _) _ _ _;refine abW (wpAny_seqItems (s:={s with heap:=g2}) S0 rfl ?_)
  show wpAny _ A.in1 (tryCatch (pyNext (.ref s.heap.objs.size)) _ >>= _) _ _ _;have hz:=q0
  ·have hx:its[0]?=some its[0]:=by simp [Nat.pos_of_ne_zero hz]
   refine abW (wpAny_tryCatch (wpAny_pyNext_list_item I0 pj hx λg I1 x1=>?_));have S1:=x1.extBut _ _ IS.symm S0;have k1:∀b o,s.heap.get? b=some o->g.get? b=some o:=λb o e=>x1.extBut b o (λz=>by rw[z,nI]at e;cases e) (k0 b o e)
   show wpAny _ A.in1 (updateSeq g1.objs.size (λ_=>#[its[0],its[0]]) >>= _) _ _ _;refine abW (wpAny_updateSeq (s:={s with heap:=g}) S1 rfl ?_)
   rw[nm];refine ab0 ⟨plainId_quiet F.plain_min_loop _,EH hh hc hl IS nI nS _ _ 0 _ its[0] _ rfl (Nat.pos_of_ne_zero hz) ?_ hx (Heap.get?_update_self _ S1 rfl) (λb o e=>(Heap.get?_update_other _ _ (λz=>by rw[<- z,nS]at e;cases e)).trans (k1 b o e)) λv g' tk hv k'=>q1 v g' tk hv k'⟩
   obtain⟨o,e,r⟩:=I1;exact⟨o,(Heap.get?_update_other _ _ (Ne.symm IS)).trans e,r⟩
 simp only[checkBuiltinCall,F.kind_min];cases Pr:Manifest.signature? "min" with
 | none=>exact ab0 run
 | some sig =>
  have ha:argsOk "min" ⟨[.ref l],[]⟩:=xo _;have ha':Bind.checkArgs "min" sig ⟨[.ref l],[]⟩=pure ():=by simpa only[argsOk,Pr]using ha
  simp only[ha'];exact ab0 run
end
end Vc
namespace Vc
open PySem L2
variable [KF]
variable {G:GE}{k:Nat}{S:Stat}
def F9(te:TD)(g:mw):b5:=λDe σ=>te σ λd av=>g d av De.nx
theorem LV{tg e:Expr}{te:TD}{g:mw}{pos:Pos}(he:ED G k S e te)(hg:EG G k S tg g)(hs:∀line env,swapsWithSole [tg] e line env=pure false:=by intro _ _;rfl)(hw:∀env,swappedStores [tg] e env=pure none:=by intro _;rfl)
  (h1:∀env,(assignEach [tg] env).map (·.2)=[assign tg env]:=by intro _;rfl):ES G k S (.Assign [tg] e pos) (F9 te g):=.mk λX Y ok=>cf (L2.Fs (he X Y ok) (hg X Y ok) (hs _ _) (hw _) (h1 _)) λDn σ H q=>by
 obtain⟨F,ah,De,R,q,K⟩:=q;refine⟨F,ah,_,R,q,λv1 H1 F1 d av s1 R1 r1 q1=>⟨F1,av,d,_,R1,r1,q1,λbZ H' F' aA s' R' q'=>K.nx bZ H' F' aA (s1.trans s') R' q'⟩⟩
def LN(K:ab4):List V->Hp->VK->Prop:=λxs H Q=>∃F p us ds,xs=[.ref p]/\ao F H/\f7 K H p us/\aC F us ds/\(ds.all isInt=true\/ds.all gM=true)/\ds≠[]/\∀v d,Rep F v d->du ds=some d->Q v H
theorem Aj{X:Cx}(hc:X.calm=true)(hu:X.A.in1.units<cLine):cR X (.builtin "min") (LN X.K):=by
 intro pins s σ H xs L0 Q I rv0 h;obtain⟨F,p,us,ds,rfl,sm,hq,rl,hi,cy,q⟩:=h;obtain⟨u,rfl,ru⟩:=vals1 rv0;cases ru;obtain⟨its,rv,pl,_⟩:=I.list hq;have len:its.toArray.size=ds.length:=by rw[acg,<- rv.length,rl.length]
 refine AX (I.ok.hd hc) (CU I sm hu rl rv hi) pl.isList (by rw[len];exactλz=>cy (List.length_eq_zero_iff.mp z)) λz g tk hz kp=>?_
 have Pt:its[cB (pR ds) (ds.length-1)]?=some z:=by rw[len]at hz;simpa using hz
 have hl:cB (pR ds) (ds.length-1)<us.length:=by rw[rv.length];exact(ab2.mp Pt).1
 have ev:us[cB (pR ds) (ds.length-1)]?=some us[cB (pR ds) (ds.length-1)]:=abY hl;obtain⟨dd,e1,e2⟩:=rl.get' ev;obtain⟨zz,e3,e4⟩:=rv.get ev;rw[Pt]at e3;cases e3;have eb:du ds=some dd:=by rw[m9 cy,List.getD_eq_getElem?_getD,e1];rfl
 exact⟨_,H,I.kept kp,e4,q _ dd e2 eb⟩
def qz:List D->(EV->Prop)->Prop
 | [.lst xs],Q=>((xs.all isInt=true\/xs.all gM=true)/\xs≠[])/\Q (.val ((du xs).getD .aQ))
 | _,_=>False
theorem U6{X:Cx}{Y:bz}(ok:dJ X G k S Y):X.A.in1.units<cLine:=by
 have:=ok.units;show X.A.units+1<cLine;omega
theorem Oo(hh:S.jl=false:=by rfl):yF G k S (.builtin "min") qz:=⟨LN,λX Y ok=>Aj (ok.calm hh) (U6 ok),λY F H ah σ vs ds Qd Q R r q g=>by
 unfold qz at q
 split at q
 ·obtain⟨v,rfl,rv⟩:=r.one
  obtain⟨a,us,rfl,h1,h2⟩:=rv.lst;refine⟨F,a,us,_,rfl,R.fr,.inl h1,h2,q.1.1,q.1.2,λv d rd e=>?_⟩;have q2:=q.2;rw[e]at q2;exact g.val R rd q2
 ·exact q.elim⟩
def inD(x:D)(xs:List D):Bool:=xs.any λy=>jk y x
def inT:D->D->(Bool->Prop)->Prop
 | x,.lst xs,Q=>(b7 8 x=true/\b7 8 (.lst xs)=true)/\Q (inD x xs)
 | x,.tup xs,Q=>(b7 8 x=true/\b7 8 (.tup xs)=true)/\Q (inD x xs)
 | _,_,_=>False
def ZM(neg:Bool):R2:=λv u H Q=>∃F x y xs,ao F H/\bS F H v x/\bS F H u y/\(y=.lst xs\/y=.tup xs)/\b7 8 x=true/\b7 8 y=true/\Q (.bl (if neg then !inD x xs else inD x xs)) H
theorem mj{x:D}(hx:b7 8 x=true):∀(xs:List D),xs.all (b7 7)=true->(di xs).any (λy=>PyData.eqv y (toPy x))=inD x xs
 | [],_=>rfl
 | y::xs,h=>by
  rw[List.all_cons,Bool.and_eq_true]at h;show(PyData.eqv (toPy y) (toPy x)||(di xs).any _)=(jk y x||inD x xs)
  rw[mj hx xs h.2,rJ 7 8 y x h.1 hx]
theorem RM{X:Cx}(hu:X.A.units+64<cLine):hW X (compareOp .In) (ZM false):=by
 intro pins s σ H v u v' u' Q I rv ru h;obtain⟨F,x,y,xs,sm,rx,ry,hy,ox,oy,q⟩:=h;obtain⟨as,r1⟩:=rx.reads I.bG sm rv ox;obtain⟨bs,r2⟩:=ry.reads I.bG sm ru oy;have hx:=fM 8 x ox;rcases hy with rfl|rfl
 ·have Ze:xs.all (b7 7)=true:=oy
  have hl:=dD (n:=7) (fM 7) xs Ze;exact SeqAt.in_list_reads r2 r1 hl.1 hx.1 (by have:=Nat.min_le_right (PyData.depthAll (di xs)) (toPy x).depth;omega) ⟨.bl _,H,I,rfl,by rw[mj ox xs Ze];exact q⟩
 ·have Ze:xs.all (b7 7)=true:=oy
  have hl:=dD (n:=7) (fM 7) xs Ze;exact SeqAt.in_tuple_reads r2 r1 hl.1 hx.1 (by have:=Nat.min_le_right (PyData.depthAll (di xs)) (toPy x).depth;omega) ⟨.bl _,H,I,rfl,by rw[mj ox xs Ze];exact q⟩
theorem aaD:nA G k S .In inT:=⟨ZM false,λX Y ok=>RM ok.units,λY F H ah σ v u x y Qd Q R rx ry q K=>by
 unfold inT at q
 split at q
 ·exact⟨F,_,_,_,R.fr,rx,ry,.inl rfl,q.1.1,q.1.2,K _ q.2⟩
 ·exact⟨F,_,_,_,R.fr,rx,ry,.inr rfl,q.1.1,q.1.2,K _ q.2⟩
 ·exact q.elim⟩
end Vc
namespace Vc
open PySem L2
variable [KF]
variable {G:GE}{k:Nat}{S:Stat}
def xI(x:D)(xs:List D):Option Nat:=xs.findIdx? λy=>jk y x
def abx(K:ab4):V->List V->Hp->VK->Prop:=λo vs H Q=>∃F v x xs j,vs=[v]/\ao F H/\bS F H o (.lst xs)/\bS F H v x/\b7 8 x=true/\b7 8 (.lst xs)=true/\xI x xs=some j/\Q (.int j) H
theorem yd{P:Program}{w:World}{F H:Hp}{h:Heap}(ok:hJ P w H h)(s:ao F H){vs:List V}{ds:List D}{us:List Value}(r:aC F vs ds)(rv:Vals vs us)(o:ds.all (b7 7)=true):∃as,ReadsAll h us (di ds) as:=aC.reads ok s 7 r rv o
theorem vh{x:D}(hx:b7 8 x=true)(h:Heap):∀(xs:List D) (us:List Value) (as:List Addr),xs.all (b7 7)=true->ReadsAll h us (di xs) as->us.findIdx? (λu=>PyData.eqv (SeqAt.readOf h u) (toPy x))=xI x xs
 | [],_,_,_,r=>by cases r;rfl
 | y::xs,us,as,ho,r=>by
  rw[List.all_cons,Bool.and_eq_true]at ho;cases r with
  | cons r1 r2 =>
   have e:SeqAt.readOf h _=toPy y:=SeqAt.readOf_eq (fM 7 y ho.1).1 r1;have ih:=vh hx h xs _ _ ho.2 r2;unfold xI at ih ⊢;rw[List.findIdx?_cons,List.findIdx?_cons,e,<- rJ 7 8 y x ho.1 hx,ih]
theorem EK{X:Cx}(hu:X.A.units+64<cLine):MtM X "list.index" (abx X.K):=by
 intro pins s σ H o vs ov us Q I ro rv h;obtain⟨F,v,x,xs,j,rfl,sm,r1,r2,o1,o2,hj,q⟩:=h;obtain⟨a,ws,rfl,h1,h2⟩:=r1.lst;cases ro;obtain⟨u,rfl,ru⟩:=rv.one;obtain⟨z,its,n,w8,e⟩:=L2.Rd.ok h1 I.bG;obtain⟨as,ra⟩:=r2.reads I.bG sm ru o1;have o2':xs.all (b7 7)=true:=o2;obtain⟨bs,rb⟩:=yd I.bG sm h2 w8 o2';have hl:=dD (n:=7) (fM 7) xs o2';have hx:=fM 8 x o1;have hf:=vh o1 s.heap xs its bs o2' rb;rw[hj]at hf;obtain⟨iR,hit,Pk⟩:=List.findIdx?_eq_some_iff_getElem.mp hf;have hjz:its.length<=aca:=by rw[<- w8.length];exact z
 refine call_meets PySem.F.slot_list_index ⟨_,e,rfl⟩ PySem.F.entry_list_index (PySem.F.args_list_index_2 _ _) (SeqAt.list_indexAt a its.toArray n none #[] u (λy=>PyData.eqv (SeqAt.readOf s.heap y) (toPy x)) j (by simpa using iR) (by have:(aca:Nat)=2^24:=rfl;omega) (by simpa using hit) (λm hm hmj=>?_)) ⟨e,SeqAt.items_eqAt (vs:=its.toArray) (by simpa using rb) ra hl.1 hx.1 (by have:=Nat.min_le_right (PyData.depthAll (di xs)) (toPy x).depth;omega),?_⟩
 ·have:=Pk m hmj
  simpa using this
 ·exact⟨.int j,H,I.kept (λb o e=>e),⟨_,rfl⟩,q⟩
def UH(to:TV)(te:TD):TV:=λσ Q=>to σ λo av=>(∃ys,cS av o=some (.lst ys))/\te av λx aL=>match cS aL o with
 | some (.lst xs)=>(b7 8 x=true/\b7 8 (.lst xs)=true)/\∃j,xI x xs=some j/\Q (.val (.int (j:Nat))) aL
 | _=>False
theorem JK{o e:Expr}{to:TV}{te:TD}{apos cI:Pos}(ho:EO G k S o to)(he:ED G k S e te)(hb:∀env,attributeBase o "index" env (eval o env)=eval o env:=by intro _;rfl)
  (xG:∀env,((backTo cI (ab7 [e] env)).all (λx=>!x.1)&&(backToKw cI (keywordEach [] env)).all (λx=>x.1.isSome)&&decide (([e]:List Expr).length+([]:List Keyword).length+(if([]:List Keyword).isEmpty then 0 else 1)<30))=true:=by intro _;rfl)
  (hline:(apos.endLine==cI.line)=true:=by rfl) (hs:∀env,ab7 [e] env=[(false,eval e env)]:=by intro _;rfl):EO G k S (.Call (.Attribute o "index" apos) [e] [] cI) (UH to te):=.mk λX Y ok=>by
 have ha:PA X [e] (eB (lD Y te) lZ):=bX (he X Y ok) ei (by rw[hs];rfl)
 refine aO (Fc PySem.F.plainAttrs_list PySem.F.slot_list_index PySem.F.type_list_index (EK ok.units) (ho X Y ok) ha (hb _) (xG _) hline (by rw[hs];rfl) (by rfl)) λσ H Q q=>?_
 obtain⟨F,ah,Qd,R,q,K⟩:=q;refine⟨F,ah,_,R,q,λv1 H1 F1 x av s1 R1 r1 q1=>?_⟩;obtain⟨⟨ys,e0⟩,q1⟩:=q1;obtain⟨a,ws,e1,h1,_⟩:=(R1.cS r1 e0).lst;refine⟨by rw[e1];exact .inl ⟨rfl,ws,.inl h1⟩,F1,av,_,R1,q1,λv2 H2 F2 d aL s2 R2 r2 q2=>?_⟩
 split at q2
 ·rename_i xs e2
  obtain⟨⟨o1,o2⟩,j,hj,q2⟩:=q2;exact⟨F2,v2,d,xs,j,rfl,R2.fr,R2.cS (r1.mono s2) e2,Rep.h R2.fr r2,o1,o2,hj,K _ H2 F2 (.val (.int j)) aL (s1.trans s2) R2 (.int _) q2⟩
 ·exact q2.elim
end Vc
namespace Vc
open PySem L2
variable [KF]
variable {G:GE}{k:Nat}{S:Stat}
def mroIn(K:ab4)(C:Addr):List Value:=match K.lookup C with
 | some ⟨_,_,.cls cd,_⟩=>cd.mro
 | _=>[]
end Vc
set_option maxHeartbeats 0
namespace Vc
open PySem PySem.W
@[elab_as_elim] theorem abO{α:Type} {P:List α->Prop} (h:∀a,P [a]):∀us:List α,us.length=1->P us
 | [a],_=>h a
@[elab_as_elim] theorem abP{α:Type} {P:List α->Prop} (h:∀a b,P [a,b]):∀us:List α,us.length=2->P us
 | [a,b],_=>h a b
@[elab_as_elim] theorem abQ{α:Type} {P:List α->Prop} (h:∀a b c,P [a,b,c]):∀us:List α,us.length=3->P us
 | [a,b,c],_=>h a b c
@[elab_as_elim] theorem abR{α:Type} {P:List α->Prop} (h:∀a b c d,P [a,b,c,d]):∀us:List α,us.length=4->P us
 | [a,b,c,d],_=>h a b c d
@[elab_as_elim] theorem abS{α:Type} {P:List α->Prop} (h:∀a b c d e,P [a,b,c,d,e]):∀us:List α,us.length=5->P us
 | [a,b,c,d,e],_=>h a b c d e
theorem U9{q:Program}{loose:List Str}{XP:(Str->Option Value)->Heap->Prop}{K:Params->Frag}{as:List Addr}{n t:Nat}{r:RowW}{d:DefRec}{kwd:List (Str×Expr)}{run:Value->List Value->Sem Value}
  (e:∀P,as=(K P).map (·.1)) (h:WalkO q loose XP (λw h=>(K w.params).In h) r d kwd run):WalkX q loose XP (X.obsZ as) (X.valZ K n t) r d kwd run:=
 λw c5 bJ mg mb G y a o pm cd doc dV kV ho hd mY hD hmg hg args vals as' L AG X2 hrd Yc za =>
  h w c5 bJ mg mb G (InK.keeps w _ _ (X.z_facts e y).2.1 L.keeps) a o pm cd doc dV kV ho hd mY hD hmg hg args vals as' AG X2 hrd Yc za
end Vc
namespace Vc
open PySem L2
variable [KF]
variable {G:GE}{k:Nat}{S:Stat}
theorem RS.gQ{Y:bz}{F:Hp}{ah:Sd}{σ:St}{H:Hp}{i:Nat}{o o':O}{a c:Addr}{u:HO}(R:RS Y F ah σ H)(e:ah[i]?=some (some (.obj o)))(h:σ[i]?=some (some (.ref a)))(hc:c∈o.fp a)(Ed:∀b,b∈o'.fp a->b∈o.fp a)
  (hr:o'.rep F (upd H c u) a):RS Y F (ah.set i (some (.obj o'))) σ (upd H c u):=by
 obtain⟨a',w1,w2,w3⟩:=R.ob.obj i o e;rw[h]at w1;cases w1;have ow:∀b∈o.fp a,iL ah σ b:=λb hb=>⟨i,o,a,e,h,hb⟩;have hl:i<ah.length:=(ab2.mp e).1;have up:∀ {b:Addr},H b≠none->(upd H c u) b≠none:=λ{b} hb=>by
  by_cases z:b=c
  ·rw[z,ay];exactλy=>nomatch y
  ·rw[aq z];exact hb
 refine⟨by simpa using R.len,R.lo,λb q z=>?_,R.eS,λb q z n=>?_,λj d z=>?_,λj xs z=>?_,λj l xs ys b z1 z2 z3 z4=>?_,λp hp=>?_,⟨λj p z=>?_,λj l p p2 b d z1 z2 z3 z4 cy x hx zc=>?_,λj ys b z1 z2 ⟨l,p,d,z3,z4,hm⟩=>?_,λb hb=>up (R.ob.there b hb),R.ob.UY,R.ob.tab⟩⟩
 ·have:b≠c:=λy=>by rw[y,(w3 c hc).1]at z;cases z
  rw[aq this];exact R.fr b q z
 ·have:b≠c:=λy=>by
   subst y;rcases(w3 b hc).2.2 with y|y
   ·rw[y]at z;cases z
   ·exact n (List.mem_append_right _ y)
  rw[aq this];exact R.old b q z n
 ·rcases gs z with⟨_,y⟩|⟨_,z⟩
  ·cases y
  ·exact R.sh j d z
 ·rcases gs z with⟨_,y⟩|⟨_,z⟩
  ·cases y
  ·obtain⟨b,vs,y1,y2,y3⟩:=R.own j xs z
   have:b≠c:=λy=>R.ob.gv j xs b z y1 (y ▸ ow c hc);exact⟨b,vs,y1,by rw[aq this];exact y2,y3⟩
 ·rcases gs z1 with⟨_,y⟩|⟨_,z1⟩
  ·cases y
  rcases gs z2 with⟨_,y⟩|⟨_,z2⟩
  ·cases y
  exact R.dis j l xs ys b z1 z2 z3 z4
 ·obtain⟨y1,xs,y2⟩:=R.io p hp
  have:p.1≠i:=λy=>by rw[y,e]at y2;cases y2
  exact⟨y1,xs,by rw[bM this];exact y2⟩
 ·rcases gs z with⟨rfl,y⟩|⟨hj,z⟩
  ·cases y
   exact⟨a,h,hr,λb hb=>⟨(w3 b (Ed b hb)).1,up (w3 b (Ed b hb)).2.1,(w3 b (Ed b hb)).2.2⟩⟩
  ·obtain⟨b,y1,y2,y3⟩:=R.ob.obj j p z
   refine⟨b,y1,p.mono (ao.refl _) (λd hd=>?_) y2,λd hd=>⟨(y3 d hd).1,up (y3 d hd).2.1,(y3 d hd).2.2⟩⟩;exact aq λy=>R.ob.o8 i j o p a b e z h y1 (Ne.symm hj) c hc (y ▸ hd)
 ·rcases gs z1 with⟨e1,y⟩|⟨hj,y1⟩
  ·cases y
   subst e1;rw[h]at z3;cases z3;rcases gs z2 with⟨e2,_⟩|⟨pj,y2⟩
   ·exact cy e2.symm
   ·exact R.ob.o8 j l o p2 a d e y2 h z4 cy x (Ed x hx) zc
  ·rcases gs z2 with⟨e2,y⟩|⟨pj,y2⟩
   ·cases y
    subst e2;rw[h]at z4;cases z4;exact R.ob.o8 j l p o b a y1 e z3 h cy x hx (Ed x zc)
   ·exact R.ob.o8 j l p p2 b d y1 y2 z3 z4 cy x hx zc
 ·rcases gs z1 with⟨_,y⟩|⟨_,y1⟩
  ·cases y
  rcases gs z3 with⟨e3,y⟩|⟨_,y3⟩
  ·cases y
   subst e3;rw[h]at z4;cases z4;exact R.ob.gv j ys b y1 z2 (ow b (Ed b hm))
  ·exact R.ob.gv j ys b y1 z2 ⟨l,p,d,y3,z4,hm⟩
def J4(i:Nat):TV:=λσ Q=>(∃o,σ[i]?=some (some (.obj o)))/\Q (.var i) σ
theorem sI(i:Nat){x:Str}{pos:Pos}(hN:S.N[i]?=some x:=by rfl)(hv:S.sc.lookup x=some .local\/S.sc.lookup x=some .cell\/S.sc.lookup x=some .free:=by first|exact Or.inl rfl|exact Or.inr (Or.inl rfl)|exact Or.inr (Or.inr rfl))
  (hd:(x==("__debug__":Str))=false:=by decide) (mY:(x==("__classdict__":Str))=false:=by decide):EO G k S (.Name x pos) (J4 i):=.mk λX Y ok =>
 aO (jg (X:=X) (i:=i) (by rw[ok.N];exact hN) (by unfold Hu;rw[ok.sc];exact hv) hd mY) λσ H Q q=>by
  obtain⟨F,ah,Qd,R,⟨⟨o,e⟩,q⟩,K⟩:=q;obtain⟨a,w1,_⟩:=R.ob.obj i o e;exact⟨.ref a,w1,K _ H F (.var i) ah (ao.refl _) R w1 q⟩
def Fz(neg:Bool):R2:=λy x H Q=>∃a o,x=.ref a/\qS H a y o/\Q (.bl (if neg then !o.isSome else o.isSome)) H
theorem A8{X:Cx}(hu:X.A.units+1<cLine):hW X (compareOp .NotIn) (Fz true):=by
 intro pins s σ H x y v u Q I rx ry h;obtain⟨a,o,rfl,g,q⟩:=h;cases ry;exact HG hu I g rx λs' I'=>⟨.bl (!o.isSome),H,I',rfl,q⟩
end Vc
namespace Vc
open PySem PyProof.Rows
section
variable {prog:Program}{w:World}{A:Around}{R:Result->Shared->Prop}
def Kp(h g:Heap):Prop:=∀b o,h.get? b=some o->g.get? b=some o
end
end Vc
namespace Vc
open PySem PySem.W L2
section
variable {P:Addr}{K:Frag}(hP:K.lookup P=some (tabObj #[]))
include hP
end
end Vc
namespace Vc
open PySem L2
variable [KF]
theorem RS.QG{Y:bz}{F:Hp}{ah:Sd}{σ:St}{H H':Hp}{i:Nat}{o o':O}{a:Addr}(R:RS Y F ah σ H)(e:ah[i]?=some (some (.obj o)))(h:σ[i]?=some (some (.ref a)))
  (keep:∀b,b∉o.fp a->H b≠none->H' b=H b) (live:∀b,H b≠none->H' b≠none) (Ed:∀b∈o'.fp a,b∈o.fp a\/H b=none) (hn:∀b∈o'.fp a,H' b≠none)
  (hr:o'.rep F H' a):RS Y F (ah.set i (some (.obj o'))) σ H':=by
 obtain⟨a',w1,w2,w3⟩:=R.ob.obj i o e;rw[h]at w1;cases w1;have ow:∀b∈o.fp a,iL ah σ b:=λb hb=>⟨i,o,a,e,h,hb⟩;have hl:i<ah.length:=(ab2.mp e).1;refine⟨by simpa using R.len,R.lo,λb q z=>?_,R.eS,λb q z n=>?_,λj d z=>?_,λj xs z=>?_,λj l xs ys b z1 z2 z3 z4=>?_,λp hp=>?_,⟨λj p z=>?_,λj l p p2 b d z1 z2 z3 z4 cy x hx zc=>?_,λj ys b z1 z2 ⟨l,p,d,z3,z4,hm⟩=>?_,λb hb=>live b (R.ob.there b hb),R.ob.UY,R.ob.tab⟩⟩
 ·have hb:b∉o.fp a:=λy=>by rw[(w3 b y).1]at z;cases z
  have:=R.fr b q z;rw[keep b hb (by rw[this];exactλy=>nomatch y)];exact this
 ·have hb:b∉o.fp a:=λy=>by
   rcases(w3 b y).2.2 with y|y
   ·rw[y]at z;cases z
   ·exact n (List.mem_append_right _ y)
  have:=R.old b q z n;rw[keep b hb (by rw[this];exactλy=>nomatch y)];exact this
 ·rcases gs z with⟨_,y⟩|⟨_,z⟩
  ·cases y
  ·exact R.sh j d z
 ·rcases gs z with⟨_,y⟩|⟨_,z⟩
  ·cases y
  ·obtain⟨b,vs,y1,y2,y3⟩:=R.own j xs z
   have hb:b∉o.fp a:=λy=>R.ob.gv j xs b z y1 (ow b y);exact⟨b,vs,y1,by rw[keep b hb (by rw[y2];exactλy=>nomatch y)];exact y2,y3⟩
 ·rcases gs z1 with⟨_,y⟩|⟨_,z1⟩
  ·cases y
  rcases gs z2 with⟨_,y⟩|⟨_,z2⟩
  ·cases y
  exact R.dis j l xs ys b z1 z2 z3 z4
 ·obtain⟨y1,xs,y2⟩:=R.io p hp
  have:p.1≠i:=λy=>by rw[y,e]at y2;cases y2
  exact⟨y1,xs,by rw[bM this];exact y2⟩
 ·rcases gs z with⟨rfl,y⟩|⟨hj,z⟩
  ·cases y
   refine⟨a,h,hr,λb hb=>?_⟩;rcases Ed b hb with y|y
   ·exact⟨(w3 b y).1,hn b hb,(w3 b y).2.2⟩
   ·exact⟨same_none R.fr y,hn b hb,.inl (R.bW y).1⟩
  ·obtain⟨b,y1,y2,y3⟩:=R.ob.obj j p z
   have kp:∀d∈p.fp b,H' d=H d:=λd hd=>keep d (λy=>R.ob.o8 i j o p a b e z h y1 (Ne.symm hj) d y hd) (y3 d hd).2.1;exact⟨b,y1,p.mono (ao.refl _) kp y2,λd hd=>⟨(y3 d hd).1,live d (y3 d hd).2.1,(y3 d hd).2.2⟩⟩
 ·rcases gs z1 with⟨e1,y⟩|⟨hj,y1⟩
  ·cases y
   subst e1;rw[h]at z3;cases z3;rcases gs z2 with⟨e2,_⟩|⟨pj,y2⟩
   ·exact cy e2.symm
   ·rcases Ed x hx with y|y
    ·exact R.ob.o8 j l o p2 a d e y2 h z4 cy x y zc
    ·exact(R.ob.owned ⟨l,p2,d,y2,z4,zc⟩).2.1 y
  ·rcases gs z2 with⟨e2,y⟩|⟨pj,y2⟩
   ·cases y
    subst e2;rw[h]at z4;cases z4;rcases Ed x zc with y|y
    ·exact R.ob.o8 j l p o b a y1 e z3 h cy x hx y
    ·exact(R.ob.owned ⟨j,p,b,y1,z3,hx⟩).2.1 y
   ·exact R.ob.o8 j l p p2 b d y1 y2 z3 z4 cy x hx zc
 ·rcases gs z1 with⟨_,y⟩|⟨_,y1⟩
  ·cases y
  rcases gs z3 with⟨e3,y⟩|⟨_,y3⟩
  ·cases y
   subst e3;rw[h]at z4;cases z4;rcases Ed b hm with y|y
   ·exact R.ob.gv j ys b y1 z2 (ow b y)
   ·obtain⟨c,vs,u1,u2,_⟩:=R.own j ys y1
    rw[z2]at u1;cases u1;rw[y]at u2;cases u2
  ·exact R.ob.gv j ys b y1 z2 ⟨l,p,d,y3,z4,hm⟩
end Vc
set_option maxHeartbeats 400000
set_option maxHeartbeats 400000
namespace Vc
open PySem L2
section
variable {prog:Program}{w:World}{A:Around}{E:Value->Shared->Prop}{s:Shared}{d it:Addr}{en:Array DictEntry}{c i:Nat}
def G2(h:Heap)(d:Addr)(en:Array DictEntry)(c:Nat):Prop:=∃ob,h.get? d=some ob/\ob.ExactDict/\ob.data=.dict en c
theorem G2.ty(h:G2 s.heap d en c):s.TypeIs (.ref d) "dict":=let ⟨ob,e,x,_⟩:=h;⟨ob,e,x.1⟩
theorem HH{Q:Value->Shared->Prop}(lo:(d==sysModules)=false)(m:G2 s.heap d en c)
  (q:Q (.ref s.heap.objs.size) {s with heap:=s.heap.push {cls:=.type "dict_keyiterator",data:=.fields #[.ref d,.int 0 0,.int en.size 0,.int c 0]}}):wpAny (model prog w) A (pyIter (.ref d)) Q E s:=by
 obtain⟨ob,e1,e2,e3⟩:=id m;refine wpAny_pyIter_slot m.ty F.slot_dict_iter (wpAny_call_entry F.slot_dict_iter m.ty F.entry_dict_iter ?_ (F.args_dict_iter_1 _));unfold Builtin.«dict.__iter__» Builtin.Dict.dictSlotNone;refine abW (abW (wpAny_notOrdered_dict m.ty ?_));show wpAny _ _ (pure (Value.ref d)) _ _ _;refine ab0 ?_;show wpAny _ _ (Builtin.Dict.showsAll d >>= _) _ _ _;unfold Builtin.Dict.showsAll;rw[lo,if_neg Bool.false_ne_true];refine abW (ab0 (abW (wpAny_dictEntries e1 e3 (abW (wpAny_dictEpoch e1 e3 (abW (wpAny_newObj_type (ab0 ⟨_,rfl,"dict_keyiterator",_,⟨_,Heap.get?_push_size _ rfl,rfl⟩,F.slot_dict_keyiterator_next.lookup,?_⟩))))))));simpa [rawInt]using q
theorem HJ{e:DictEntry}{Q:Option Value->Shared->Prop}(t:s.heap.IsKeyIter it d i en.size c)(m:G2 s.heap d en c)(x:en[i]?=some e)
  (q:∀h',h'.IsKeyIter it d (i+1) en.size c->Heap.SameBut it s.heap h'->Q (some e.key) {s with heap:=h'}):wpAny (model prog w) A (pyNext (.ref it)) Q E s:=by
 obtain⟨o1,t1,t2,t3⟩:=id t;obtain⟨ob,e1,e2,e3⟩:=id m;unfold pyNext;refine abW (wpAny_attempt (wpAny_callSpecial?_slot (name:=Str.ofString "__next__") t.typeIs F.slot_dict_keyiterator_next (wpAny_call_entry F.slot_dict_keyiterator_next t.typeIs F.entry_dict_keyiterator_next ?_ (F.args_dict_keyiterator_next_1 _))));refine abW (ab0 (abW (abW ?_)))
 first|refine abW (wpAny_typeNameOfWhole_keyiter t.typeIs (ab0 ?_))|refine abW (wpAny_typeNameOf_keyiter t.typeIs (ab0 ?_))
 refine abW (wpAny_fieldsOf t1 t3 ?_);rw[show Builtin.Dict_items.ownsTuple "dict_keyiterator"=false by decide,if_neg Bool.false_ne_true]
 show wpAny _ _ (if(Value.ref d==Value.none)=true then _ else _) _ _ s
 rw[if_neg (show¬((Value.ref d==Value.none)=true)from Bool.false_ne_true)]
 refine abW (ab0 (abW (wpAny_dictEntries e1 e3 ?_)));rw[if_neg (by simp)]
 refine abW (ab0 (abW (wpAny_dictEpoch e1 e3 ?_)));rw[if_neg (by simp)]
 refine ab0 ?_;simp only[show¬((i:Int)<0)from by omega,if_false,Int.toNat_natCast,x]
 refine abW ?_
 first|refine abW (wpAny_typeNameOfWhole_keyiter t.typeIs (ab0 ?_))|refine abW (wpAny_typeNameOf_keyiter t.typeIs (ab0 ?_))
 refine abW (wpAny_isOneOf_keyiter t.typeIs ?_);show wpAny _ _ (setField (.ref it) 1 (rawInt ((i:Int)+1)) >>= _) _ _ s;refine abW (wpAny_setField t1 t3 (by simp) ?_)
 have t':(s.heap.update it (Obj.mapFields (·.setIfInBounds 1 (rawInt ((i:Int)+1))))).IsKeyIter it d (i+1) en.size c:=
  ⟨_,Heap.get?_update_self _ t1 (Obj.isFreed_of_fields (Obj.data_mapFields t3 _)),(Obj.cls_mapFields ..).trans t2,by rw[Obj.data_mapFields t3];simp [rawInt]⟩
 refine abW (wpAny_holding (abW (wpAny_isOneOf_keyiter (s:={s with heap:=s.heap.update it (Obj.mapFields (·.setIfInBounds 1 (rawInt ((i:Int)+1))))}) t'.typeIs ?_)))
 show wpAny _ _ (pure e.key) _ _ _;exact ab0 (ab0 ⟨_,rfl,ab0 (q _ t' (Heap.SameBut.update ..))⟩)
theorem NK{Q:Option Value->Shared->Prop}(hh:A.handled=none)(t:s.heap.IsKeyIter it d i en.size c)(m:G2 s.heap d en c)(x:en.size<=i)
  (q:∀h',Heap.ExtBut it s.heap h'->Q none {s with heap:=h'}):wpAny (model prog w) A (pyNext (.ref it)) Q E s:=by
 obtain⟨o1,t1,t2,t3⟩:=id t;obtain⟨ob,e1,e2,e3⟩:=id m;unfold pyNext;refine abW (wpAny_attempt (wpAny_callSpecial?_slot (name:=Str.ofString "__next__") t.typeIs F.slot_dict_keyiterator_next (wpAny_call_entry F.slot_dict_keyiterator_next t.typeIs F.entry_dict_keyiterator_next ?_ (F.args_dict_keyiterator_next_1 _))));refine abW (ab0 (abW (abW ?_)))
 first|refine abW (wpAny_typeNameOfWhole_keyiter t.typeIs (ab0 ?_))|refine abW (wpAny_typeNameOf_keyiter t.typeIs (ab0 ?_))
 refine abW (wpAny_fieldsOf t1 t3 ?_);rw[show Builtin.Dict_items.ownsTuple "dict_keyiterator"=false by decide,if_neg Bool.false_ne_true]
 show wpAny _ _ (if(Value.ref d==Value.none)=true then _ else _) _ _ s
 rw[if_neg (show¬((Value.ref d==Value.none)=true)from Bool.false_ne_true)]
 refine abW (ab0 (abW (wpAny_dictEntries e1 e3 ?_)));rw[if_neg (by simp)]
 refine abW (ab0 (abW (wpAny_dictEpoch e1 e3 ?_)));rw[if_neg (by simp)]
 refine ab0 ?_;simp only[show¬((i:Int)<0)from by omega,if_false,Int.toNat_natCast,Array.getElem?_eq_none x]
 refine abW ?_
 first|refine abW (wpAny_typeNameOfWhole_keyiter t.typeIs (ab0 ?_))|refine abW (wpAny_typeNameOf_keyiter t.typeIs (ab0 ?_))
 show wpAny _ _ (setField (.ref it) 0 .none >>= _) _ _ s;refine abW (wpAny_setField t1 t3 (by simp) ?_)
 show wpAny _ _ (newExc (.type "StopIteration") [] >>= _) _ _ _;refine abW ?_;simp only[newExc,newTuple];refine abW (wpAny_newObj_type ?_ (by size_fits))
 refine abW (m:=firstArgMember _ _) (wpAny_of_eq (a:=Value.none) (by first|rfl | (simp only[firstArgMember];rfl)) (wpAny_newObj_type ?_ (by size_fits)))
 simp only[raiseNew];refine abW (wpAny_handled ?_);rw[show A.in1.handled=none from hh]
 refine abW (ab0 (wpAny_throw ?_));refine abW (wpAny_isInstance (T:="StopIteration") (b:=true) ⟨_,Heap.get?_push_size _ rfl,rfl⟩ isSubtype_stop ?_);exact ab0 (q _ (((Heap.SameBut.update ..).extBut.push _).push _))
theorem G2.at{h h':Heap}(x:G2 h d en c)(e:∀o,h.get? d=some o->h'.get? d=some o):G2 h' d en c:=let ⟨o,a,r⟩:=x;⟨o,e _ a,r⟩
theorem Dr(hh:A.handled=none)(I d:Addr)(ne:d≠I)(en:Array DictEntry)(c:Nat):
  Walks prog w A I [I,d] [I] en.size (λi v=>∃e,en[i]?=some e/\v=e.key) (λi h=>h.IsKeyIter I d i en.size c/\G2 h d en c) where
 sub:=λb hb=>ab6.mpr (.inl (ab5.mp hb))
 frame:=λ_ _ _ st kp=>⟨st.1.at λo e=>kp I (.head _) o e,st.2.at λo e=>kp d (.tail _ (.head _)) o e⟩
 item:=λi s Q E hi st q=>by
  have x:en[i]?=some en[i]:=Array.getElem?_eq_getElem hi;refine HJ st.1 st.2 x λh' t' sb=>q _ h' s.toks ⟨_,x,rfl⟩ ⟨t',st.2.at λo e=>(sb.2 d ne).trans e⟩ λb o hb e=>(sb.2 b λy=>hb (ab5.mpr y)).trans e
 done:=λs Q E st q=>NK hh st.1 st.2 (ab3 _) λh' ex=>q h' s.toks λb o hb e=>ex b o (λy=>hb (ab5.mpr y)) e
 self:=λ_ _ _ _ st q=>wpAny_pyIter_keyiter st.1 q
theorem NM(lo:(d==sysModules)=false):PySem.W.KdlSrc prog w "dict" d d en.size (λi v=>∃e,en[i]?=some e/\v=e.key) (λh=>G2 h d en c) where
 type:=λ_ m=>m.ty
 there:=λ_ m=>let ⟨_,e,_⟩:=m;⟨Heap.lt_size e,Heap.lt_size e⟩
 keep:=λ_ _ m kp=>m.at λo e=>kp d (.inl rfl) o e
 notList:=by decide
 notTuple:=by decide
 hint:=λ_ _ _ _ m q=>PySem.W.kdl_hint_dict m.ty q
 iter:=λ_ s hh m=>⟨_,_,(λ_ _ q=>HH lo m q),Dr hh _ d (let ⟨_,e,_⟩:=m;Nat.ne_of_lt (Heap.lt_size e)) en c,⟨⟨_,Heap.get?_push_size _ rfl,rfl,rfl⟩,m.at λo e=>abX _ e⟩⟩
end
end Vc
namespace Vs
open PySem PySem.Calls PyProof.Rows PyProof.V PySem.Spec
section
variable {prog:Program}{w:World}{A:Around}{E:Value->Shared->Prop}{s:Shared}
theorem yk{T:String}{r d:Addr}{n:Nat}{P:Nat->Value->Prop}{OK:Heap->Prop}{vs:List Value}{kd:SortKind}{ρ:Keyed->Nat}{P':Keyed->Prop}{Q:Value->Shared->Prop}(K:PySem.W.KdlSrc prog w T r d n P OK)(hh:A.handled=none)(ok:OK s.heap)(hn:n<=aca)
  (hv:∀acc:Array Value,ItemsOf P acc n->acc.toList=vs) (hz:vs.length<=aca) (h0:∀p∈(pairsOf vs).toList,P' p)
  (hk:2<=vs.length->∀(A':Around) (E':Value->Shared->Prop) (g:Heap) (t:Nat),(∀b o,s.heap.get? b=some o->g.get? b=some o)->(∀Q:SortKind->Shared->Prop,Q kd {s with heap:=g,toks:=t}->wpAny (model prog w) A' (keyKind' vs.toArray) Q E' {s with heap:=g,toks:=t})/\gA (model prog w) A' E' {s with heap:=g,toks:=t} ρ kd P')
  (h:∀(xs:Array Keyed) (h1 g:Heap) (c t:Nat),xs.Perm (pairsOf vs)->Seg ρ xs 0 vs.length->(∀b o,s.heap.get? b=some o->h1.get? b=some o)->(∀b o,h1.get? b=some o->g.get? b=some o)->g.get? h1.objs.size=some (seqObj "list" (xs.map (·.2)) c)->Q (.ref h1.objs.size) {s with heap:=g,toks:=t}):
  wpAny (model prog w) A (call (.builtin "sorted") [.ref r]) Q E s:=by
 refine Calls.call_function_entry kind_sorted plain_sorted entry_sorted (args_sorted1 _) ?_;unfold Builtin.«sorted»;refine abW (m:=checkCount "sorted" 1 1 _) (ab0 (abW (PySem.W.kdu_collect (A:=A.in1) K hh ok hn λh1 t acc k1 items=>?_)));rw[hv acc items];refine abW (wpAny_newList ?_ hz);have Pn:(h1.push (seqObj "list" vs.toArray 0)).get? h1.objs.size=some (seqObj "list" vs.toArray 0):=Heap.get?_push_size _ rfl;have keep:∀b o,h1.get? b=some o->(h1.push (seqObj "list" vs.toArray 0)).get? b=some o:=λb o e=>abX _ e;have ne:∀b o,h1.get? b=some o->b≠h1.objs.size:=λb o e=>Nat.ne_of_lt (Heap.lt_size e);show wpAny _ _ _ _ _ {s with heap:=h1.push (seqObj "list" vs.toArray 0),toks:=t}
 refine abW (wpAny_holding (wpAny_call_entry slot_list_sort ⟨_,Pn,rfl⟩ entry_list_sort (iU (s:={s with heap:=h1.push (seqObj "list" vs.toArray 0),toks:=t}) (kd:=kd) (ρ:=ρ) (P:=P') Pn hz h0 (λh2 g kg=>hk h2 _ _ g t λb o e=>kg b o (ne b o (k1 b o e)) (keep b o (k1 b o e))) λxs g c a1 a2 a3 a4=>⟨_,rfl,?_⟩) (args_list_sort _)))
 exact ab0 ⟨_,rfl,h xs h1 g c t a1 a2 k1 (λb o e=>a3 b o (ne b o e) (keep b o e)) a4⟩
end
end Vs
namespace Vc
open PySem L2
section
variable {prog:Program}{w:World}{A:Around}{E:Value->Shared->Prop}{s:Shared}
open PySem.Spec in
theorem oH{nm:String}{a b:Addr}{oa ob:Obj}{es:Array DictEntry}{ep Ol:Nat}{Q:Bool->Shared->Prop}(ha:(a==sysModules)=false)(hb:(b==sysModules)=false)
  (Vv:s.heap.get? a=some oa) (Vn:oa.data=.dict es ep) (AF:s.heap.get? b=some ob) (jx:ob.data=.dict #[] Ol) (h:Q (decide (es.size=0)) s):
  wpAny (model prog w) A (Builtin.Dict.samePairs nm a b) Q E s:=by
 unfold Builtin.Dict.samePairs Builtin.Dict.showsAll;rw[if_neg (show¬(a==sysModules)=true by rw[ha];exact Bool.false_ne_true),if_neg (show¬(b==sysModules)=true by rw[hb];exact Bool.false_ne_true)]
 refine abW (ab0 (abW (ab0 ?_)));refine abW (wpAny_dictEntries Vv Vn ?_);dsimp only;refine abW (wpAny_dictEntries AF jx ?_)
 by_cases hsz:es.size=0
 case neg =>
  rw[if_pos (by simpa using hsz)]
  rw[decide_eq_false hsz]at h;exact abW (wpAny_rule (ab0 h))
 case pos =>
  rw[if_neg (by simpa using hsz)]
  rw[decide_eq_true hsz]at h;refine abW (wpAny_dictEpoch Vv Vn ?_);rw[Std.Legacy.Range.forIn_eq_forIn_range'];simp only[Std.Legacy.Range.size,Nat.sub_zero,Nat.add_sub_cancel,Nat.div_one,hsz,List.range'_zero,List.forIn_nil];exact abW (ab0 (ab0 h))
theorem eqE{K:Type}[DecidableEq K]{knd:PySem.KeyKind prog w K}{a b:Addr}{vs ws:List (K×Value)}{Q:Value->Shared->Prop}(hu:A.units<cLine)(ha:(a==sysModules)=false)(hb:(b==sysModules)=false)
  (da:s.heap.DictOf knd a vs) (db:s.heap.DictOf knd b ws) (hw:ws=[]) (h:Q (.bool (decide (vs=[]))) s):
  wpAny (model prog w) A (compareOp .Eq (.ref a) (.ref b)) Q E s:=by
 subst hw;refine wpAny_richCompare_same_room (op:=.Eq) da.typeIs db.typeIs PySem.F.slot_dict_eq (wpAny_call_entry PySem.F.slot_dict_eq da.typeIs PySem.F.entry_dict_eq ?_ (PySem.F.args_dict_eq_2 _ _)) hu;show wpAny _ _ (Builtin.Dict.dictSlotArgs "__eq__" ⟨[.ref a,.ref b],[]⟩ >>= _) _ _ s;refine abW ?_;unfold Builtin.Dict.dictSlotArgs;refine abW (wpAny_notOrdered_dict da.typeIs ?_);show wpAny _ _ (pure (Value.ref a,Value.ref b)) _ _ s;refine ab0 ?_;refine abW (wpAny_isInstance (T:="dict") db.typeIs PySem.F.sub_dict_dict ?_);simp only[Bool.not_true,acd,if_false];refine abW (ab0 (abW (ab0 ?_)));obtain⟨oa,es,ep,Vv,_,Vn,_,hp,_⟩:=da;obtain⟨ob,Om,Ol,AF,_,jx,_,Em,_⟩:=db;have e':Om=#[]:=by
  have:=Em.length;exact Array.eq_empty_of_size_eq_zero (by simpa using this)
 subst e';have el:es.size=vs.length:=by simpa using hp.length
 refine abW (oH ha hb Vv Vn AF jx ?_);refine ab0 ⟨_,rfl,?_,?_⟩
 ·exactλx=>nomatch x
 ·rw[show decide (es.size=0)=decide (vs=[])from by rw[el];cases vs<;>simp]
  simpa using h
theorem neE{K:Type}[DecidableEq K]{knd:PySem.KeyKind prog w K}{a b:Addr}{vs ws:List (K×Value)}{Q:Value->Shared->Prop}(hu:A.units<cLine)(ha:(a==sysModules)=false)(hb:(b==sysModules)=false)
  (da:s.heap.DictOf knd a vs) (db:s.heap.DictOf knd b ws) (hw:ws=[]) (h:Q (.bool (!decide (vs=[]))) s):
  wpAny (model prog w) A (compareOp .NotEq (.ref a) (.ref b)) Q E s:=by
 subst hw;refine wpAny_richCompare_same_room (op:=.NotEq) da.typeIs db.typeIs PySem.F.slot_dict_ne (wpAny_call_entry PySem.F.slot_dict_ne da.typeIs PySem.F.entry_dict_ne ?_ (PySem.F.args_dict_ne_2 _ _)) hu;show wpAny _ _ (Builtin.Dict.dictSlotArgs "__ne__" ⟨[.ref a,.ref b],[]⟩ >>= _) _ _ s;refine abW ?_;unfold Builtin.Dict.dictSlotArgs;refine abW (wpAny_notOrdered_dict da.typeIs ?_);show wpAny _ _ (pure (Value.ref a,Value.ref b)) _ _ s;refine ab0 ?_;refine abW (wpAny_isInstance (T:="dict") db.typeIs PySem.F.sub_dict_dict ?_);simp only[Bool.not_true,acd,if_false];refine abW (ab0 (abW (ab0 ?_)));obtain⟨oa,es,ep,Vv,_,Vn,_,hp,_⟩:=da;obtain⟨ob,Om,Ol,AF,_,jx,_,Em,_⟩:=db;have e':Om=#[]:=by
  have:=Em.length;exact Array.eq_empty_of_size_eq_zero (by simpa using this)
 subst e';have el:es.size=vs.length:=by simpa using hp.length
 refine abW (oH ha hb Vv Vn AF jx ?_);refine ab0 ⟨_,rfl,?_,?_⟩
 ·exactλx=>nomatch x
 ·rw[show decide (es.size=0)=decide (vs=[])from by rw[el];cases vs<;>simp]
  simpa using h
end
variable [KF]
def dn(kvs:List (Int×D))(i:Int):Option D:=(kvs.find? λp=>decide (p.1=i)).map (·.2)
def xJ(kvs:List (Int×D))(i:Int)(d:D):List (Int×D):=if(kvs.any λp=>decide (p.1=i))=true then kvs.map (λp=>if p.1=i then(p.1,d)else p)else kvs++[(i,d)]
def iT(kvs:List (Int×D))(i:Int):List (Int×D):=kvs.filter λp=>decide (p.1≠i)
theorem b6.length{F:Hp}:∀ {ks:List (Key×V)} {kvs:List (Int×D)},b6 F ks kvs->ks.length=kvs.length
 | _,_,.nil=>rfl
 | _,_,.cons _ r=>by simp [b6.length r]
theorem xM(i j:Int):((Sum.inl i:Key)=Sum.inl j)=(i=j):=by simp
theorem b6.val{F:Hp}(j:Int):∀ {ks:List (Key×V)} {kvs:List (Int×D)},b6 F ks kvs->(g9 ks (.inl j)=none/\dn kvs j=none)\/∃v d,g9 ks (.inl j)=some v/\dn kvs j=some d/\Rep F v d
 | _,_,.nil=>.inl ⟨rfl,rfl⟩
 | _,_,.cons (i:=i) (v:=v) (d:=d) (ks:=ks) (kvs:=kvs) h r=>by
  by_cases e:i=j
  ·subst e
   exact .inr ⟨v,d,k4 rfl,by unfold dn;rw[List.find?_cons_of_pos (by simp)];rfl,h⟩
  ·have e1:g9 ((Sum.inl i,v)::ks) (Sum.inl j)=g9 ks (Sum.inl j):=kZ (by show¬(Sum.inl i:Key)=Sum.inl j;rw[xM];exact e)
   have e2:dn ((i,d)::kvs) j=dn kvs j:=by unfold dn;rw[List.find?_cons_of_neg (by simpa using e)]
   rw[e1,e2];exact b6.val j r
theorem b6.append{F:Hp}:∀ {ks js:List (Key×V)} {kvs lvs:List (Int×D)},b6 F ks kvs->b6 F js lvs->b6 F (ks++js) (kvs++lvs)
 | _,_,_,_,.nil,s=>s
 | _,_,_,_,.cons h r,s=>.cons h (b6.append r s)
theorem b6.any{F:Hp}(j:Int):∀ {ks:List (Key×V)} {kvs:List (Int×D)},b6 F ks kvs->(ks.any λkv=>decide (kv.1=Sum.inl j))=(kvs.any λp=>decide (p.1=j))
 | _,_,.nil=>rfl
 | _,_,.cons (i:=i) _ r=>by
  rw[List.any_cons,List.any_cons,b6.any j r];congr 1;simp
theorem b6.repl{F:Hp}{v:V}{d:D}(j:Int)(hv:Rep F v d):∀ {ks:List (Key×V)} {kvs:List (Int×D)},b6 F ks kvs->b6 F (ks.map λkv=>if kv.1=Sum.inl j then(kv.1,v)else kv) (kvs.map λp=>if p.1=j then(p.1,d)else p)
 | _,_,.nil=>.nil
 | _,_,.cons (i:=i) h r=>by
  rw[List.map_cons,List.map_cons]
  by_cases e:i=j
  ·rw[if_pos (show(Sum.inl i:Key)=Sum.inl j by rw[e]),if_pos (show i=j from e)]
   exact .cons hv (b6.repl j hv r)
  ·rw[if_neg (show¬(Sum.inl i:Key)=Sum.inl j by rw[xM];exact e),if_neg (show¬i=j from e)]
   exact .cons h (b6.repl j hv r)
theorem b6.put{F:Hp}{ks:List (Key×V)}{kvs:List (Int×D)}{v:V}{d:D}(j:Int)(r:b6 F ks kvs)(hv:Rep F v d):b6 F (putK ks (.inl j) v) (xJ kvs j d):=by
 unfold putK xJ;rw[r.any j]
 split
 ·exact r.repl j hv
 ·exact r.append (.cons hv .nil)
theorem b6.drop{F:Hp}(j:Int):∀ {ks:List (Key×V)} {kvs:List (Int×D)},b6 F ks kvs->b6 F (mC ks (.inl j)) (iT kvs j)
 | _,_,.nil=>.nil
 | _,_,.cons (i:=i) h r=>by
  unfold mC iT;rw[List.filter_cons,List.filter_cons];have ih:=b6.drop j r;unfold mC iT at ih
  by_cases e:i=j
  ·subst e
   simpa using ih
  ·simp only[ne_eq,xM,e,not_false_eq_true,decide_true,if_true]
   exact .cons h (by simpa using ih)
def p8(a:Addr)(kvs:List (Int×D)):O where
 fp:=λb=>[b]
 rep:=λF H b=>b=a/\∃ks,H b=some (.dK ks)/\b6 F ks kvs
 self:=λa=>ab5.mpr rfl
 solid:=λ{F H a b φ} ⟨_,ks,h,_⟩ hb z=>by
  rw[ab5.mp hb,h]at z;cases z
 nt:=λ{F H a b vs} ⟨_,ks,h,_⟩ hb z=>by
  rw[ab5.mp hb,h]at z;cases z
 mono:=λ{F F' H H' a} s e ⟨e0,ks,h,r⟩=>⟨e0,ks,by rw[e a (ab5.mpr rfl)];exact h,r.mono s⟩
 view:=some (.dM kvs)
 sees:=λ{F H a d} ⟨_,ks,h,r⟩ e=>by cases e;exact⟨a,ks,rfl,h,r⟩
 lend:=λ{F H a d} s ⟨_,ks,h,r⟩ e=>by
  cases e;obtain⟨F',s1,s2,e1,e2⟩:=dA s h;refine⟨F',s1,s2,.dM e1 (r.mono s1),λc u z=>?_⟩;rcases e2 c u z with z|⟨rfl,rfl⟩
  ·exact .inl z
  ·exact .inr ⟨rfl,ab5.mpr rfl⟩
 loc:=some a
 IL:=λ{F H a b} ⟨e,_⟩ q=>by cases q;exact e
variable {G:GE}{k:Nat}{S:Stat}
def kS(i:Nat):TV:=λσ Q=>match σ[i]? with
 | some (some (.sh d))=>Q (.val d) σ
 | some (some _)=>Q (.var i) σ
 | _=>False
theorem lM(i:Nat){x:Str}{pos:Pos}(hN:S.N[i]?=some x:=by rfl)(hv:S.sc.lookup x=some .local\/S.sc.lookup x=some .cell\/S.sc.lookup x=some .free:=by first|exact Or.inl rfl|exact Or.inr (Or.inl rfl)|exact Or.inr (Or.inr rfl))
  (hd:(x==("__debug__":Str))=false:=by decide) (mY:(x==("__classdict__":Str))=false:=by decide):EO G k S (.Name x pos) (kS i):=.mk λX Y ok =>
 aO (jg (X:=X) (i:=i) (by rw[ok.N];exact hN) (by unfold Hu;rw[ok.sc];exact hv) hd mY) λσ H Q q=>by
  obtain⟨F,ah,Qd,R,q,K⟩:=q;unfold kS at q
  split at q
  ·rename_i d e
   obtain⟨v,e2,r2⟩:=R.sh i d e;exact⟨v,e2,K v H F (.val d) ah (ao.refl _) R r2 q⟩
  ·rename_i b hb e
   cases b with
   | sh d=>exact absurd rfl (hb d)
   | own xs =>
    obtain⟨a,vs,e2,_⟩:=R.own i xs e;exact⟨_,e2,K _ H F (.var i) ah (ao.refl _) R e2 q⟩
   | obj o =>
    obtain⟨a,e2,_⟩:=R.ob.obj i o e;exact⟨_,e2,K _ H F (.var i) ah (ao.refl _) R e2 q⟩
  ·exact q.elim
def UD:TX:=λσ Q=>∀p,Q (.obj (p8 p [])) σ
theorem JH{pos:Pos}:EX G k S (.Dict [] [] pos) UD:=.mk λX Y ok=>aO gS λσ H Q q=>by
 obtain⟨F,ah,Qd,R,q,K⟩:=q;intro p hp;refine K _ _ F (.obj (p8 p [])) ah (ao.refl _) (R.nD hp) ⟨p,rfl,⟨rfl,[],ay,.nil⟩,λb hb=>?_⟩ (q p);rw[ab5.mp hb];exact⟨same_none R.fr hp,(by rw[ay];exactλz=>nomatch z),(R.bW hp).1,R.de hp⟩
def m6(ta tb:TV):TV:=λσ Q=>ta σ λx av=>tb av λy aL=>match cS aL x,cS aL y with
 | some (.dM kvs),some (.int i)=>∃d,dn kvs i=some d/\Q (.val d) aL
 | _,_=>False
theorem iW{a b:Expr}{ta tb:TV}{pos:Pos}(ha:EO G k S a ta)(hb:EO G k S b tb)(hs:Mi b:=by intro _ _;rfl):EO G k S (.Subscript a b pos) (m6 ta tb):=.mk λX Y ok =>
 aO (Jq (by have:=ok.units;omega) (ha X Y ok) (hb X Y ok) hs) λσ H Q q=>by
  obtain⟨F,ah,Qd,R,q,K⟩:=q;refine⟨F,ah,_,R,q,λv1 H1 F1 x av s1 R1 r1 q1=>?_⟩;refine⟨F1,av,_,R1,q1,λv2 H2 F2 y aL s2 R2 r2 q2=>?_⟩
  split at q2
  ·rename_i kvs i ea eb
   obtain⟨a,ks,rfl,h,r⟩:=R2.cS (r1.mono s2) ea;obtain rfl:=(R2.cS r2 eb).int;obtain⟨d,hd,q2⟩:=q2;rcases r.val i with⟨_,e2⟩|⟨v,d',e1,e2,rd⟩
   ·rw[e2]at hd;cases hd
   ·rw[e2]at hd;cases hd
    refine⟨a,v,rfl,?_,K v H2 F2 (.val d) aL (s1.trans s2) R2 rd q2⟩;rw[<- e1];exact qS.k (k:=.inl i) h
  ·exact q2.elim
def inI:D->D->(Bool->Prop)->Prop
 | .int i,.dM kvs,Q=>Q (dn kvs i).isSome
 | _,_,_=>False
def IX(x y:D)(Q:Bool->Prop):Prop:=inI x y λb=>Q !b
theorem Iq{F H:Hp}{v u:V}{i:Int}{kvs:List (Int×D)}(rv:bS F H v (.int i))(ru:bS F H u (.dM kvs)):∃a o,u=.ref a/\qS H a v o/\o.isSome=(dn kvs i).isSome:=by
 obtain rfl:=rv.int;obtain⟨a,ks,rfl,h,r⟩:=ru;refine⟨a,_,rfl,.k (k:=.inl i) h,?_⟩;rcases r.val i with⟨e1,e2⟩|⟨v,d,e1,e2,_⟩
 ·rw[e1,e2];rfl
 ·rw[e1,e2];rfl
theorem MU:nA G k S .NotIn IX:=⟨Fz true,λX Y ok=>A8 (by have:=ok.units;omega),λY F H ah σ v u x y Qd Q R rx ry q K=>by
 unfold IX inI at q
 split at q
 ·obtain⟨a,o,rfl,g,e⟩:=Iq rx ry
  exact⟨a,o,rfl,g,K _ (by rw[if_pos rfl,e];exact q)⟩
 ·exact q.elim⟩
def AU:List D->(EV->Prop)->Prop
 | [.dM kvs],Q=>Q (.val (.int kvs.length))
 | _,_=>False
theorem xC:yF G k S (.builtin "len") AU:=⟨λ_ xs H Q=>∃a ks,xs=[.ref a]/\H a=some (.dK ks)/\Q (.int ks.length) H,λX Y ok=>by
  intro pins s σ H xs us Q I r h;obtain⟨a,ks,rfl,e,q⟩:=h;obtain⟨u,rfl,ru⟩:=vals1 r;cases ru;exact WG I (.inl e) λt s' I'=>⟨.int _,H,I',⟨_,rfl⟩,q⟩,λY F H ah σ vs ds Qd Q R r q g=>by
 unfold AU at q
 split at q
 ·obtain⟨v,rfl,rv⟩:=r.one
  obtain⟨a,ks,rfl,h,rr⟩:=rv;refine⟨a,ks,rfl,h,?_⟩;rw[rr.length];exact g.val R (.int _) q
 ·exact q.elim⟩
def Tb(neg:Bool):R2:=λx y H Q=>∃a b ks,x=.ref a/\y=.ref b/\H a=some (.dK ks)/\H b=some (.dK [])/\Q (.bl (if neg then !decide (ks=[])else decide (ks=[]))) H
theorem EA{vs:List (Key×Value)}(r:KV ([]:List (Key×V)) vs):vs=[]:=by
 have:=r.length;cases vs with
 | nil=>rfl
 | cons _ _=>simp at this
theorem Ez{ks:List (Key×V)}{vs:List (Key×Value)}(r:KV ks vs):decide (vs=[])=decide (ks=[]):=by
 have:=r.length;cases vs<;>cases ks<;>simp_all
theorem E2{X:Cx}(hu:X.A.units<cLine):hW X (compareOp .Eq) (Tb false):=by
 intro pins s σ H x y v u Q I rx ry h;obtain⟨a,b,ks,rfl,rfl,ea,eb,q⟩:=h;cases rx;cases ry;obtain⟨_,ha,xs,ra,da⟩:=nK I.bG ea;obtain⟨_,hb,ys,rb,db⟩:=nK I.bG eb;refine eqE hu ha hb da db (EA rb) ?_;rw[Ez ra];exact⟨.bl _,H,I,rfl,q⟩
theorem RT{X:Cx}(hu:X.A.units<cLine):hW X (compareOp .NotEq) (Tb true):=by
 intro pins s σ H x y v u Q I rx ry h;obtain⟨a,b,ks,rfl,rfl,ea,eb,q⟩:=h;cases rx;cases ry;obtain⟨_,ha,xs,ra,da⟩:=nK I.bG ea;obtain⟨_,hb,ys,rb,db⟩:=nK I.bG eb;refine neE hu ha hb da db (EA rb) ?_;rw[Ez ra];exact⟨.bl _,H,I,rfl,q⟩
def wt(neg:Bool)(t:TV):TB:=λσ Q=>t σ λx av=>match cS av x with
 | some (.dM kvs)=>Q (if neg then !decide (kvs=[])else decide (kvs=[])) av
 | _=>False
theorem FN{F:Hp}{ks:List (Key×V)}{kvs:List (Int×D)}(r:b6 F ks kvs):decide (ks=[])=decide (kvs=[]):=by
 cases r<;>simp
theorem lj{Y:bz}{neg:Bool}{ta:TV}{σ:St}{H:Hp}{Q:VK}{F:Hp}{ah:Sd}{Qd:Bool->Sd->Prop}(R:RS Y F ah σ H)(q:wt neg ta ah Qd)(K:∀b H' F' aA,ao F F'->RS Y F' aA σ H'->Qd b aA->Q (.bl b) H'):UJ (Tb neg) (lO Y ta) FY σ H Q:=by
 refine⟨F,ah,_,R,q,λv1 H1 F1 x av s1 R1 r1 q1=>?_⟩;intro p hp
 split at q1
 ·rename_i kvs ea
  obtain⟨a,ks,rfl,h,r⟩:=R1.cS r1 ea;refine⟨a,p,ks,rfl,rfl,by rw[aq (aZ h hp)];exact h,ay,?_⟩
  rw[FN r];exact K _ _ F1 av s1 (R1.nD hp) q1
 ·exact q1.elim
theorem ZS{a:Expr}{ta:TV}{p pos:Pos}(ha:EO G k S a ta)(hm:behindInMarks .Eq (.Dict [] [] p)=false:=by first|exact om _|with_unfolding_all rfl):EO G k S (.Compare a [.Eq] [.Dict [] [] p] pos) (bV (wt false ta)):=.mk λX Y ok=>by
 refine aO (zv (E2 (by have:=ok.units;omega)) (ha X Y ok) gS hm) λσ H Q q=>?_
 obtain⟨F,ah,Qd,R,q,K⟩:=q;exact lj R q λb H' F' aA s R' qq=>K _ H' F' (.val (.bl b)) aA s R' (.bl b) qq
theorem Te{a:Expr}{ta:TV}{p pos:Pos}(ha:EO G k S a ta)(hm:behindInMarks .Eq (.Dict [] [] p)=false:=by first|exact om _|with_unfolding_all rfl):EB G k S (.Compare a [.Eq] [.Dict [] [] p] pos) (wt false ta):=.mk λX Y ok=>by
 refine oC (sC (E2 (by have:=ok.units;omega)) (ha X Y ok) gS hm) λσ H Q q=>?_
 obtain⟨F,ah,Qd,R,q,K⟩:=q;exact lj R q λb H' F' aA s R' qq=>⟨b,rfl,K b H' F' aA s R' qq⟩
theorem Tf{a:Expr}{ta:TV}{p pos:Pos}(ha:EO G k S a ta)(hm:behindInMarks .NotEq (.Dict [] [] p)=false:=by first|exact om _|with_unfolding_all rfl):EB G k S (.Compare a [.NotEq] [.Dict [] [] p] pos) (wt true ta):=.mk λX Y ok=>by
 refine oC (sC (RT (by have:=ok.units;omega)) (ha X Y ok) gS hm) λσ H Q q=>?_
 obtain⟨F,ah,Qd,R,q,K⟩:=q;exact lj R q λb H' F' aA s R' qq=>⟨b,rfl,K b H' F' aA s R' qq⟩
def FZ(i:Nat)(tk:TV)(tv:TD):b5:=λDe σ=>tv σ λd av=>(∃a kvs,av[i]?=some (some (.obj (p8 a kvs))))/\tk av λy aL=>match cS aL y with
 | some (.int j)=>∃a kvs,aL[i]?=some (some (.obj (p8 a kvs)))/\kvs.length<aca/\De.nx (aL.set i (some (.obj (p8 a (xJ kvs j d)))))
 | _=>False
theorem zS(i:Nat){x:Str}{ke ve:Expr}{tk:TV}{tv:TD}{np pos' pos:Pos}(hv:ED G k S ve tv)(hk:EO G k S ke tk)(ho:EO G k S (.Name x np) (J4 i))(hs:∀line env,swapsWith ve (some (.Subscript (.Name x np) ke pos')) line env=pure false:=by intro _ _;rfl):
  ES G k S (.Assign [.Subscript (.Name x np) ke pos'] ve pos) (FZ i tk tv):=.mk λX Y ok =>
 cf (zJ (by have:=ok.units;omega) (ho X Y ok) (hk X Y ok) (hv X Y ok) (hs _ _)) λDn σ H q=>by
  obtain⟨F,ah,De,R,q,K⟩:=q;refine⟨F,ah,_,R,q,λv H1 F1 d av s1 R1 r1 q1=>?_⟩;obtain⟨⟨a0,IK,e0⟩,q1⟩:=q1;refine⟨F1,av,λx mn=>x=.var i/\mn=av,R1,⟨⟨_,e0⟩,rfl,rfl⟩,λv2 H2 F2 y aL s2 R2 r2 q2=>?_⟩;obtain⟨rfl,rfl⟩:=q2;have r2:σ[i]?=some (some v2):=r2;refine⟨F2,aL,_,R2,q1,λv3 H3 F3 kd eY s3 R3 r3 q3=>?_⟩
  split at q3
  ·rename_i j ej
   obtain rfl:=(R3.cS r3 ej).int;obtain⟨a,kvs,e,hl,q3⟩:=q3;obtain⟨b,w1,⟨rfl,us,w2,w3⟩,w4⟩:=R3.ob.obj i _ e;rw[r2]at w1;cases w1;refine⟨b,_,rfl,.k (k:=.inl j) w2 (by rw[w3.length];exact hl),K.nx σ _ F3 _ ((s1.trans s2).trans s3) (R3.gQ (o':=p8 b (xJ kvs j d)) e r2 (ab5.mpr rfl) (λ_ z=>z) ⟨rfl,_,ay,w3.put j (r1.mono (s2.trans s3))⟩) q3⟩
  ·exact q3.elim
def UK(i:Nat)(tk:TV):b5:=λDe σ=>(∃a kvs,σ[i]?=some (some (.obj (p8 a kvs))))/\tk σ λy aL=>match cS aL y with
 | some (.int j)=>∃a kvs,aL[i]?=some (some (.obj (p8 a kvs)))/\(dn kvs j).isSome=true/\De.nx (aL.set i (some (.obj (p8 a (iT kvs j)))))
 | _=>False
theorem JM(i:Nat){x:Str}{ke:Expr}{tk:TV}{np ap cp pos:Pos}(hk:EO G k S ke tk)(ho:EO G k S (.Name x np) (J4 i))(m:∀X:Cx,M1 X (.Name x np) "pop" ap ke cp:=by intro X;exact⟨rfl,rfl,rfl,rfl⟩):
  ES G k S (.Expr (.Call (.Attribute (.Name x np) "pop" ap) [ke] [] cp) pos) (UK i tk):=.mk λX Y ok =>
 cf (sv (vY (ho X Y ok) (hk X Y ok) (m X)) rfl) λDn σ H q=>by
  obtain⟨F,ah,De,R,⟨⟨a0,IK,e0⟩,q⟩,K⟩:=q;refine⟨F,ah,λx mn=>x=.var i/\mn=ah,R,⟨⟨_,e0⟩,rfl,rfl⟩,λv2 H2 F2 y aL s2 R2 r2 q2=>?_⟩;obtain⟨rfl,rfl⟩:=q2;have r2:σ[i]?=some (some v2):=r2;obtain⟨b0,w1,⟨rfl,L0,w2,w3⟩,w4⟩:=R2.ob.obj i _ e0;rw[r2]at w1;cases w1;refine⟨b0,rfl,.inl ⟨_,.inl w2⟩,F2,aL,_,R2,q,λv3 H3 F3 kd eY s3 R3 r3 q3=>?_⟩
  split at q3
  ·rename_i j ej
   obtain rfl:=(R3.cS r3 ej).int;obtain⟨a,kvs,e,hl,q3⟩:=q3;obtain⟨b,w1,⟨rfl,us,y2,y3⟩,y4⟩:=R3.ob.obj i _ e;rw[r2]at w1;cases w1;rcases y3.val j with⟨_,e2⟩|⟨v,d',e1,e2,rd⟩
   ·rw[e2]at hl;cases hl
   ·exact⟨us,.inl j,v,y2,rfl,e1,K.nx σ _ F3 _ (s2.trans s3) (R3.gQ (o':=p8 b0 (iT kvs j)) e r2 (ab5.mpr rfl) (λ_ z=>z) ⟨rfl,_,ay,y3.drop j⟩) q3⟩
  ·exact q3.elim
end Vc
namespace Vs
open PySem PySem.Calls PyProof.Rows PyProof.V PySem.Spec
def vy:Value->Int
 | .int i _=>i
 | _=>0
section
variable {prog:Program}{w:World}{A:Around}{E:Value->Shared->Prop}{s:Shared}
theorem Ex{vs:List Value}{ns:List Int}{Q:SortKind->Shared->Prop}(hl:2<=vs.length)(h:IntsAre vs ns)(q:Q oneType' s):wpAny (model prog w) A (keyKind' vs.toArray) Q E s:=by
 match vs,hl,h with
 | abT::abU::r,_,h =>
  rw[keyKind_ints h];exact ab0 q
theorem IP{l:List Keyed}(h:∀x∈l,∃i t,x.1=Value.int i t):gA (model prog w) A E s (rk (λx=>[vy x.1]) l) oneType' (λx=>x∈l):=λx y st Q hx hy hk q=>by
 rw[zP hx]at q;rw[lt'_eq];refine ab9 (wpS_get ?_);rw[hk];obtain⟨i,t,e1⟩:=h x hx;obtain⟨j,u,e2⟩:=h y hy;rw[e1,e2,show HT.lexLt [vy (.int i t)] [vy (.int j u)]=decide (i<j)from by
  show(if i=j then HT.lexLt [] []else decide (i<j))=_
  by_cases e:i=j
  ·rw[if_pos e,decide_eq_false ⋯];rfl
  ·rw[if_neg e]]at q
 refine ab9 (wpS_lift (wpAny_attempt ?_));rw[e1,e2,keyLt'_oneType];exact oneLt_int ⟨rfl,acj q⟩
end
end Vs
namespace Vc
open PySem L2
variable [KF]
def FA:List V->Hp->VK->Prop:=λxs H Q=>∃a ks,∃ns:List Int,xs=[.ref a]/\H a=some (.dK ks)/\ks.map (·.1)=ns.map Sum.inl /\
 ∀ms:List Int,ms.Perm ns->ms.Pairwise (λx y=>x<=y)->∀l,H l=none->Q (.ref l) (upd H l (.lst (ms.map V.int)))
theorem oz{prog:Program}{w:World}:∀ {es:List DictEntry} {vs:List (Key×Value)} {ns:List Int},PySem.Pairs (b9 prog w) es vs->vs.map (·.1)=ns.map Sum.inl->PyProof.Rows.IntsAre (es.map (·.key)) ns
 | _,_,[],.nil,_=>.nil
 | _,_,_::_,.nil,e=>by cases e
 | _,_,[],.cons _ _ _,e=>by cases e
 | _,_,n::ns,.cons (e:=e) (kv:=kv) h1 h2 r,q=>by
  rw[List.map_cons,List.map_cons]at q;obtain⟨q1,q2⟩:=List.cons.inj q;rw[q1]at h1;rcases bN (show nY (Sum.inl n) e.key=true from h1)with⟨i,t,a1,a2⟩|⟨x,t,a1,_⟩
  ·cases a1
   rw[List.map_cons,a2];exact .cons _ t (oz r q2)
  ·cases a1
theorem nR:∀ {vs:List Value} {ns:List Int},PyProof.Rows.IntsAre vs ns->vs.map Vs.vy=ns
 | _,_,.nil=>rfl
 | _,_,.cons n t h=>by rw[List.map_cons,nR h];rfl
theorem mF:∀ {vs:List Value} {ns:List Int},PyProof.Rows.IntsAre vs ns->∀v∈vs,∃i t,v=Value.int i t
 | _,_,.nil,v,hv=>by cases hv
 | _,_,.cons n t h,v,hv=>by
  rcases ab6.mp hv with rfl|hv
  ·exact⟨n,t,rfl⟩
  ·exact mF h v hv
theorem fG:∀ {vs:List Value},(∀v∈vs,∃i t,v=Value.int i t)->Vals ((vs.map Vs.vy).map V.int) vs
 | [],_=>.nil
 | v::vs,h=>by
  obtain⟨i,t,rfl⟩:=h v (.head _);exact .cons ⟨t,rfl⟩ (fG λx hx=>h x (.tail _ hx))
theorem xu{X:Cx}(hc:X.calm=true):cR X (.builtin "sorted") FA:=by
 intro pins s σ H xs L0 Q I r h;obtain⟨a,ks,ns,rfl,ha,ek,q⟩:=h;obtain⟨u,rfl,rx⟩:=vals1 r;cases rx;obtain⟨hz,hd,vs,rel,o,es,ep,e1,e2,e3,e4,e5,e6⟩:=nK I.bG ha;have hlv:ks.length=vs.length:=rel.length;have hle:es.toList.length=vs.length:=e5.length;have hkv:vs.map (·.1)=ns.map Sum.inl:=by
  rw[<- ek];clear e5 e6 hlv hle ha ek hz q
  induction rel with
  | nil=>rfl
  | cons hx _ ih=>rw[List.map_cons,List.map_cons,ih,hx.1]
 have hln:ns.length=vs.length:=by have:=congrArg List.length hkv;simpa using this.symm
 obtain⟨its,Oj⟩:∃its:List Value,its=es.toList.map (·.key):=⟨_,rfl⟩
 have ii:PyProof.Rows.IntsAre its ns:=by rw[Oj];exact oz e5 hkv
 have lits:its.length=vs.length:=by rw[Oj,abZ];exact hle
 have iD:=mF ii;have mem:∀x:PyProof.Rows.Keyed,x∈(PyProof.Rows.pairsOf its).toList->x.1∈its/\x.1=x.2:=λx hx=>by
  rw[PyProof.Rows.pairsOf_toList,fH]at hx;obtain⟨v,hv,rfl⟩:=List.mem_map.mp hx;exact⟨hv,rfl⟩
 refine Vs.yk (vs:=its) (kd:=PyProof.Rows.oneType') (ρ:=Vs.rk (λx=>[Vs.vy x.1]) (PyProof.Rows.pairsOf its).toList) (P':=λx=>x∈(PyProof.Rows.pairsOf its).toList) (NM (en:=es) (c:=ep) hd) (I.ok.hd hc) ⟨o,e1,e2,e3⟩ (by rw[<- Array.length_toList];omega) (λacc it=>?_) ⋯ (λ_ h=>h) (λh2 A' E' g t kg=>⟨λQ hQ=>?_,?_⟩) λys h1 g c' t hp hs k1 kg hg=>?_
 ·refine List.ext_getElem? λj=>?_
  rw[Array.getElem?_toList];cases ej:acc[j]? with
  | none =>
   have:acc.size<=j:=Array.getElem?_eq_none_iff.mp ej;rw[it.1]at this;rw[List.getElem?_eq_none (by rw[lits,<- hle,Array.length_toList];exact this)]
  | some v =>
   obtain⟨e,he,rfl⟩:=it.2 j v ej;rw[Oj,acb,Array.getElem?_toList,he];rfl
 ·exact Vs.Ex (s:={s with heap:=g,toks:=t}) h2 ii hQ
 ·exact Vs.IP (s:={s with heap:=g,toks:=t}) λx hx=>iD x.1 (mem x hx).1
 ·have dm:ys.toList.Perm (PyProof.Rows.pairsOf its).toList:=Array.perm_iff_toList_perm.mp hp
  have lx:∀x∈ys.toList,x.1∈its/\x.1=x.2:=λx hx=>mem x (dm.mem_iff.mp hx);obtain⟨ms,ems⟩:∃ms,ms=(ys.map (·.2)).toList.map Vs.vy:=⟨_,rfl⟩
  have perm:ms.Perm ns:=by
   rw[ems,Array.toList_map,List.map_map,<- nR ii];refine(dm.map (Vs.vy ∘ λx=>x.2)).trans ?_;rw[PyProof.Rows.pairsOf_toList,fH,List.map_map];exact List.Perm.refl _
  have I1:=I.kept (h':=h1) (t':=s.toks) k1;have fr:H h1.objs.size=none:=I1.fresh;refine⟨.ref h1.objs.size,_,I1.laid (h':=g) (t':=t) (o:=.lst (ms.map V.int)) kg (ab3 _) ⟨?_,(ys.map (·.2)).toList,c',?_,hg⟩,rfl,q ms perm ?_ _ fr⟩
  ·rw[abZ,perm.length_eq];omega
  ·rw[ems]
   refine fG λv hv=>?_;rw[Array.toList_map]at hv;obtain⟨x,hx,rfl⟩:=List.mem_map.mp hv;have:=lx x hx;exact iD _ (this.2 ▸ this.1)
  ·rw[ems,Array.toList_map,List.map_map,List.pairwise_map]
   refine List.pairwise_iff_getElem.mpr λi j hi hj lu=>?_;have xH:i<ys.size:=by simpa using hi
   have He:j<ys.size:=by simpa using hj
   have hsz:ys.size=its.length:=by have:=hp.size_eq;rw[PyProof.Rows.pairsOf_size]at this;exact this
   have h1:=hs i j (Nat.zero_le _) (Nat.le_of_lt lu) ⋯
   rw[Vs.dk (Array.getElem?_eq_getElem xH),Vs.dk (Array.getElem?_eq_getElem He)]at h1;show Vs.vy ys[i].2<=Vs.vy ys[j].2;have m1:=lx ys[i] (by simp)
   have m2:=lx ys[j] (by simp)
   have:=Vs.zP (d:=λx=>[Vs.vy x.1]) (l:=(PyProof.Rows.pairsOf its).toList) (x:=ys[j]) (y:=ys[i]) (dm.mem_iff.mp (by simp))
   rw[decide_eq_false ⋯]at this
   rw[<- m1.2,<- m2.2];have e:(if Vs.vy ys[j].1=Vs.vy ys[i].1 then HT.lexLt [] []else decide (Vs.vy ys[j].1<Vs.vy ys[i].1))=false:=this.symm
   by_cases z:Vs.vy ys[j].1=Vs.vy ys[i].1
   ·omega
   ·rw[if_neg z]at e
    have:=of_decide_eq_false e;omega
variable {G:GE}{k:Nat}{S:Stat}
def wj(ns:List Int):List Int:=ns.mergeSort λx y=>decide (x<=y)
theorem yi(ns:List Int):(wj ns).Perm ns:=List.mergeSort_perm _ _
theorem sX(ns:List Int):(wj ns).Pairwise λx y=>x<=y:=by
 have:=List.pairwise_mergeSort (le:=λx y:Int=>decide (x<=y)) (λa b c h1 h2=>by simp only[decide_eq_true_eq]at *;omega) (λa b=>by simp only[Bool.or_eq_true,decide_eq_true_eq];omega) ns
 exact this.imp λh=>of_decide_eq_true h
theorem wk{ns ms:List Int}(h:ms.Perm ns)(hs:ms.Pairwise λx y=>x<=y):ms=wj ns:=
 (h.trans (yi ns).symm).eq_of_pairwise (le:=λx y:Int=>x<=y) (λa b _ _ h1 h2=>Int.le_antisymm h1 h2) hs (sX ns)
def sortI:List D->(EV->Prop)->Prop
 | [.dM kvs],Q=>Q (.own ((wj (kvs.map (·.1))).map D.int))
 | _,_=>False
theorem qH{F:Hp}:∀ {ks:List (Key×V)} {kvs:List (Int×D)},b6 F ks kvs->ks.map (·.1)=(kvs.map (·.1)).map Sum.inl
 | _,_,.nil=>rfl
 | _,_,.cons _ r=>by rw[List.map_cons,List.map_cons,List.map_cons,qH r]
theorem qI{F:Hp}:∀ms:List Int,aC F (ms.map V.int) (ms.map D.int)
 | []=>.nil
 | i::ms=>.cons (.int i) (qI ms)
theorem jt(hh:S.jl=false:=by rfl):yF G k S (.builtin "sorted") sortI:=⟨λ_=>FA,λX Y ok=>xu (ok.calm hh),λY F H ah σ vs ds Qd Q R r q g=>by
 unfold sortI at q
 split at q
 ·rename_i kvs
  obtain⟨v,rfl,rv⟩:=r.one;obtain⟨a,ks,rfl,h,rr⟩:=rv;refine⟨a,ks,kvs.map (·.1),rfl,h,qH rr,λms hp hs l hl=>?_⟩
  rw[<- wk hp hs]at q;exact g.own R (qI ms) q l hl
 ·exact q.elim⟩
end Vc
namespace Vc
open PySem L2
variable [KF]
structure iH(F H:Hp)(vs:List V)(bs:List B):Prop where
 len:vs.length=bs.length
 sh:∀(i:Nat) (d:D),bs[i]?=some (.sh d)->∃v,vs[i]?=some v/\Rep F v d
 own:∀(i:Nat) (xs:List D),bs[i]?=some (.own xs)->∃a us,vs[i]?=some (.ref a)/\H a=some (.lst us)/\aC F us xs/\F a=none
 obj:∀(i:Nat) (o:O),bs[i]?=some (.obj o)->∃a,vs[i]?=some (.ref a)/\o.rep F H a/\∀c∈o.fp a,F c=none/\H c≠none
 dis:∀(i j:Nat) (xs ys:List D) (a:Addr),bs[i]?=some (.own xs)->bs[j]?=some (.own ys)->vs[i]?=some (.ref a)->vs[j]?=some (.ref a)->i=j
 o8:∀(i j:Nat) (o p:O) (a b:Addr),bs[i]?=some (.obj o)->bs[j]?=some (.obj p)->vs[i]?=some (.ref a)->vs[j]?=some (.ref b)->i≠j->∀c∈o.fp a,c∉p.fp b
 gv:∀(i j:Nat) (xs:List D) (o:O) (a b:Addr),bs[j]?=some (.own xs)->vs[j]?=some (.ref b)->bs[i]?=some (.obj o)->vs[i]?=some (.ref a)->b∉o.fp a
def iB(vs:List V)(bs:List B)(c:Addr):Prop:=(∃(i:Nat) (xs:List D),bs[i]?=some (.own xs)/\vs[i]?=some (.ref c))\/∃(i:Nat) (o:O) (a:Addr),bs[i]?=some (.obj o)/\vs[i]?=some (.ref a)/\c∈o.fp a
inductive dj:List B->List B->Prop where
 | nil:dj [] []
 | sh (d:D) {bs cs:List B}:dj bs cs->dj (.sh d::bs) (.sh d::cs)
 | own (xs ys:List D) {bs cs:List B}:dj bs cs->dj (.own xs::bs) (.own ys::cs)
 | obj {o p:O} {bs cs:List B}:p.fp=o.fp->p.loc=o.loc->o.loc≠none->dj bs cs->dj (.obj o::bs) (.obj p::cs)
theorem dj.len{bs cs:List B}(h:dj bs cs):bs.length=cs.length:=by
 induction h<;>simp_all
theorem dj.shr{bs cs:List B}(h:dj bs cs):∀ {i:Nat} {d:D},cs[i]?=some (.sh d)->bs[i]?=some (.sh d):=by
 induction h with
 | nil=>intro i d e;simp at e
 | sh d _ ih=>intro i e q;cases i with
  | zero=>simpa using q
  | succ i=>simp at q ⊢;exact ih q
 | own xs ys _ ih=>intro i e q;cases i with
  | zero=>simp at q
  | succ i=>simp at q ⊢;exact ih q
 | obj _ _ _ _ ih=>intro i e q;cases i with
  | zero=>simp at q
  | succ i=>simp at q ⊢;exact ih q
theorem dj.A9{bs cs:List B}(h:dj bs cs):∀ {i:Nat} {ys:List D},cs[i]?=some (.own ys)->∃xs,bs[i]?=some (.own xs):=by
 induction h with
 | nil=>intro i d e;simp at e
 | sh d _ ih=>intro i e q;cases i with
  | zero=>simp at q
  | succ i=>simp at q ⊢;exact ih q
 | own xs ys _ ih=>intro i e q;cases i with
  | zero=>exact⟨xs,by simp⟩
  | succ i=>simp at q ⊢;exact ih q
 | obj _ _ _ _ ih=>intro i e q;cases i with
  | zero=>simp at q
  | succ i=>simp at q ⊢;exact ih q
theorem dj.Zd{bs cs:List B}(h:dj bs cs):∀ {i:Nat} {xs:List D},bs[i]?=some (.own xs)->∃ys,cs[i]?=some (.own ys):=by
 induction h with
 | nil=>intro i d e;simp at e
 | sh d _ ih=>intro i e q;cases i with
  | zero=>simp at q
  | succ i=>simp at q ⊢;exact ih q
 | own xs ys _ ih=>intro i e q;cases i with
  | zero=>exact⟨ys,by simp⟩
  | succ i=>simp at q ⊢;exact ih q
 | obj _ _ _ _ ih=>intro i e q;cases i with
  | zero=>simp at q
  | succ i=>simp at q ⊢;exact ih q
theorem dj.A2{bs cs:List B}(h:dj bs cs):∀ {i:Nat} {p:O},cs[i]?=some (.obj p)->∃o,bs[i]?=some (.obj o)/\p.fp=o.fp/\p.loc=o.loc/\o.loc≠none:=by
 induction h with
 | nil=>intro i d e;simp at e
 | sh d _ ih=>intro i e q;cases i with
  | zero=>simp at q
  | succ i=>simp at q ⊢;exact ih q
 | own xs ys _ ih=>intro i e q;cases i with
  | zero=>simp at q
  | succ i=>simp at q ⊢;exact ih q
 | @obj o p _ _ h1 h2 h3 _ ih=>intro i e q;cases i with
  | zero=>simp at q;subst q;exact⟨o,by simp,h1,h2,h3⟩
  | succ i=>simp at q ⊢;exact ih q
theorem dj.abr{bs cs:List B}(h:dj bs cs):∀ {i:Nat} {o:O},bs[i]?=some (.obj o)->∃p,cs[i]?=some (.obj p)/\p.fp=o.fp/\p.loc=o.loc/\o.loc≠none:=by
 induction h with
 | nil=>intro i d e;simp at e
 | sh d _ ih=>intro i e q;cases i with
  | zero=>simp at q
  | succ i=>simp at q ⊢;exact ih q
 | own xs ys _ ih=>intro i e q;cases i with
  | zero=>simp at q
  | succ i=>simp at q ⊢;exact ih q
 | @obj o p _ _ h1 h2 h3 _ ih=>intro i e q;cases i with
  | zero=>simp at q;subst q;exact⟨p,by simp,h1,h2,h3⟩
  | succ i=>simp at q ⊢;exact ih q
abbrev iK:=List B->(B->List B->Prop)->Prop
def dh(sp:iK):Sp:=λvs H Q _=>∃F bs Qd,mv F H/\iH F H vs bs/\sp bs Qd /\
 ∀v H' F' b d6,ao F F'->ao F' H'->(∀c o,¬iB vs bs c->H c=some o->H' c=some o)->(∀c,iB vs bs c->H' c≠none)->iH F' H' vs d6->dj bs d6->(∀c o,F' c=some o->F c=some o\/Nw H c o)->B6 H F' H' v b->Qd b d6->Q v H'
variable {G:GE}{k:Nat}{S:Stat}
def qT(G:GE)(k:Nat)(x:Str)(sp:iK):Prop:=∃f fd ps,ck G.P G.w G.K G.mg G.base iA k f fd ps (dh sp)/\G.mg x=some (.ref f)/\PySem.W.keepIn G.K (.ref f)=true/\Binds G.K fd ps []
theorem qT.mono{x:Str}{sp:iK}{j:Nat}(h:qT G j x sp)(l:j<=k):qT G k x sp:=by
 obtain⟨f,fd,ps,h1,h2,h3,h4⟩:=h;exact⟨f,fd,ps,h1.mono l,h2,h3,h4⟩
def eX(sp:bq):iK:=λbs Q=>∃ds:List D,bs=ds.map .sh/\sp ds λb=>Q b bs
theorem lJ{bs:List B}(h:∀(i:Nat) (o:O),bs[i]?=some (.obj o)->o.loc≠none):dj bs bs:=by
 induction bs with
 | nil=>exact .nil
 | cons b bs ih =>
  have ih:=ih λi o e=>h (i+1) o (by simpa using e)
  cases b with
  | sh d=>exact .sh d ih
  | own xs=>exact .own xs xs ih
  | obj o=>exact .obj rfl rfl (h 0 o (by simp)) ih
theorem cQ{ds:List D}{i:Nat}{b:B}(h:(ds.map B.sh)[i]?=some b):∃d,b=.sh d/\ds[i]?=some d:=by
 rw[acb]at h;obtain⟨d,h1,h2⟩:=Option.map_eq_some_iff.mp h;exact⟨d,h2.symm,h1⟩
theorem v9{F:Hp}:∀(vs:List V) (ds:List D),vs.length=ds.length->(∀(i:Nat) (d:D),ds[i]?=some d->∃v,vs[i]?=some v/\Rep F v d)->aC F vs ds:=by
 intro vs
 induction vs with
 | nil=>intro ds hl _;cases ds with
  | nil=>exact .nil
  | cons _ _=>cases hl
 | cons v vs ih =>
  intro ds hl h;cases ds with
  | nil=>cases hl
  | cons d ds =>
   obtain⟨v',e,r⟩:=h 0 d (by simp)
   simp at e;subst e;exact .cons r (ih ds (by simpa using hl) λi d e=>by
    obtain⟨v',e',r'⟩:=h (i+1) d (by simpa using e)
    exact⟨v',by simpa using e',r'⟩)
theorem m8{F H:Hp}{vs:List V}{ds:List D}(h:iH F H vs (ds.map B.sh)):aC F vs ds:=
 v9 vs ds (by simpa using h.len) λi d e=>h.sh i d (by rw[acb,e];rfl)
theorem yM{F H:Hp}{vs:List V}{ds:List D}(h:aC F vs ds):iH F H vs (ds.map B.sh) where
 len:=by rw[abZ];exact h.length
 sh:=λi d e=>by
  obtain⟨d',e1,e2⟩:=cQ e;cases e1;exact h.get e2
 own:=λi xs e=>by obtain⟨d,e1,_⟩:=cQ e;cases e1
 obj:=λi o e=>by obtain⟨d,e1,_⟩:=cQ e;cases e1
 dis:=λi j xs ys a e=>by obtain⟨d,e1,_⟩:=cQ e;cases e1
 o8:=λi j o p a b e=>by obtain⟨d,e1,_⟩:=cQ e;cases e1
 gv:=λi j xs o a b e=>by obtain⟨d,e1,_⟩:=cQ e;cases e1
theorem yW{vs:List V}{ds:List D}{c:Addr}:¬iB vs (ds.map B.sh) c:=by
 rintro(⟨i,xs,e,_⟩|⟨i,o,a,e,_⟩)
 ·obtain⟨d,e1,_⟩:=cQ e;cases e1
 ·obtain⟨d,e1,_⟩:=cQ e;cases e1
theorem c9.mu{x:Str}{sp:bq}(h:c9 G k x sp):qT G k x (eX sp):=by
 obtain⟨f,fd,ps,h1,h2,h3,h4⟩:=h;refine⟨f,fd,ps,h1.imp λvs H Q E q=>?_,h2,h3,h4⟩;obtain⟨F,bs,Qd,s,r,⟨ds,rfl,q⟩,K⟩:=q;refine⟨F,ds,_,s,m8 r,q,λv H' F' b s1 s2 s3 fr rr qq=>K v H' F' b _ s1 s2 (λc o _ e=>s3 c o e) (λc z=>absurd z yW) (yM ((m8 r).mono s1)) (lJ λi o e=>?_) fr rr qq⟩;obtain⟨d,e1,_⟩:=cQ e;cases e1
def Yz(sp:hE):iK:=λbs Q=>∃(xs:List D) (ds:List D),bs=.own xs::ds.map .sh/\sp xs ds λb ys=>Q b (.own ys::ds.map .sh)
theorem df{xs:List D}{ds:List D}{i:Nat}{b:B}(h:(B.own xs::ds.map B.sh)[i]?=some b):(i=0/\b=.own xs)\/∃j d,i=j+1/\b=.sh d/\ds[j]?=some d:=by
 cases i with
 | zero=>simp at h;exact .inl ⟨rfl,h.symm⟩
 | succ j =>
  simp only[List.getElem?_cons_succ]at h;obtain⟨d,e1,e2⟩:=cQ h;exact .inr ⟨j,d,rfl,e1,e2⟩
theorem Hy{F H:Hp}{a:Addr}{us:List V}{vs:List V}{xs ds:List D}(h1:H a=some (.lst us))(h2:aC F us xs)(h3:F a=none)(h:aC F vs ds):iH F H (.ref a::vs) (.own xs::ds.map B.sh) where
 len:=by rw[List.length_cons,List.length_cons,abZ,h.length]
 sh:=λi d e=>by
  rcases df e with⟨_,z⟩|⟨j,d',rfl,z,e2⟩
  ·cases z
  ·cases z
   obtain⟨v,e3,r⟩:=h.get e2;exact⟨v,by simpa using e3,r⟩
 own:=λi ys e=>by
  rcases df e with⟨rfl,z⟩|⟨j,d',rfl,z,e2⟩
  ·cases z;exact⟨a,us,by simp,h1,h2,h3⟩
  ·cases z
 obj:=λi o e=>by
  rcases df e with⟨_,z⟩|⟨j,d',rfl,z,e2⟩<;>cases z
 dis:=λi j ys zs b e1 e2 _ _=>by
  rcases df e1 with⟨rfl,z⟩|⟨_,d',rfl,z,_⟩
  ·rcases df e2 with⟨rfl,z⟩|⟨_,d',rfl,z,_⟩
   ·rfl
   ·cases z
  ·cases z
 o8:=λi j o p a b e=>by
  rcases df e with⟨_,z⟩|⟨j,d',rfl,z,e2⟩<;>cases z
 gv:=λi j xs o a b _ _ e=>by
  rcases df e with⟨_,z⟩|⟨j,d',rfl,z,e2⟩<;>cases z
theorem eP.mu{x:Str}{sp:hE}(h:eP G k x sp):qT G k x (Yz sp):=by
 obtain⟨f,fd,ps,h1,h2,h3,h4⟩:=h;refine⟨f,fd,ps,h1.imp λvs H Q E q=>?_,h2,h3,h4⟩;obtain⟨F,bs,Qd,s,r,⟨xs,ds,rfl,q⟩,K⟩:=q;obtain⟨a,us,e1,e2,e3,e4⟩:=r.own 0 xs (by simp)
 have hl:=r.len;cases vs with
 | nil=>simp at e1
 | cons v vs =>
  simp at e1;subst e1;have rs:aC F vs ds:=v9 vs ds (by simpa using hl) λi d e=>by
   obtain⟨v,q1,q2⟩:=r.sh (i+1) d (by simp only[List.getElem?_cons_succ,acb,e];rfl)
   exact⟨v,by simpa using q1,q2⟩
  have ft:∀c,iB (.ref a::vs) (B.own xs::ds.map B.sh) c ↔ c=a:=λc=>by
   constructor
   ·rintro(⟨i,ys,e,z⟩|⟨i,o,b,e,_⟩)
    ·rcases df e with⟨rfl,_⟩|⟨_,d',rfl,z',_⟩
     ·simp at z;exact z.symm
     ·cases z'
    ·rcases df e with⟨rfl,z'⟩|⟨_,d',rfl,z',_⟩<;>cases z'
   ·rintro rfl
    exact .inl ⟨0,xs,by simp,by simp⟩
  refine⟨F,xs,ds,a,us,vs,_,rfl,s,e2,e3,e4,rs,q,λv H' F' b ys ud s1 s2 s3 a1 a2 a3 fr rr qq=>K v H' F' b _ s1 s2 (λc o z e=>s3 c o (λy=>z ((ft c).mpr y)) e) (λc z=>by rw[(ft c).mp z,a1];exactλy=>nomatch y) (Hy a1 a2 a3 (rs.mono s1)) (.own xs ys ?_) fr rr qq⟩
  exact lJ λi o e=>by obtain⟨d,z,_⟩:=cQ e;cases z
end Vc
namespace Vc
open PySem L2
variable [KF]
mutual
def VB:D->Bool
 | .aQ=>true
 | .bl _=>true
 | .int _=>true
 | .str _=>true
 | .tup xs=>jJ xs
 | .lst xs=>jJ xs
 | _=>false
def jJ:List D->Bool
 | []=>true
 | x::xs=>VB x&&jJ xs
end
mutual
theorem Rep.kT{F F':Hp}(hs:∀c u,F c=some u->F' c=some u\/dl u=true):∀ {v:V} {d:D},Rep F v d->VB d=true->Rep F' v d
 | _,_,.aQ,_=>.aQ
 | _,_,.bl b,_=>.bl b
 | _,_,.int i,_=>.int i
 | _,_,.str x,_=>.str x
 | _,_,.tup h r,n=>.tup ((hs _ _ h).elim id λz=>by cases z) (aC.kT hs r n)
 | _,_,.lst h r,n=>.lst (by
   rcases h with h|⟨o,h⟩
   ·exact .inl ((hs _ _ h).elim id λz=>by cases z)
   ·exact .inr ⟨o,(hs _ _ h).elim id λz=>by cases z⟩) (aC.kT hs r n)
 | _,_,.jj _,n=>by cases n
 | _,_,.exc _,n=>by cases n
 | _,_,.HK _ _,n=>by cases n
 | _,_,.dM _ _,n=>by cases n
 | _,_,.kp _ _ _,n=>by cases n
theorem aC.kT{F F':Hp}(hs:∀c u,F c=some u->F' c=some u\/dl u=true):∀ {vs:List V} {ds:List D},aC F vs ds->jJ ds=true->aC F' vs ds
 | _,_,.nil,_=>.nil
 | _,_,.cons h r,n=>by
  have n:(VB _&&jJ _)=true:=n;rw[Bool.and_eq_true]at n;exact .cons (Rep.kT hs h n.1) (aC.kT hs r n.2)
end
def noB:B->Bool
 | .sh d=>VB d
 | .own xs=>jJ xs
 | .obj _=>false
def QB:B->Bool
 | .sh _=>true
 | .own xs=>jJ xs
 | .obj _=>false
inductive AV where
 | d (x:D)|n (j:Nat)|l (j:Nat)
abbrev ua:=Sd->(List AV->Sd->Prop)->Prop
inductive cN (F:Hp)(σ:St):List V->List AV->Prop where
 | nil:cN F σ [] []
 | d {v:V} {x:D} {vs:List V} {as:List AV}:Rep F v x->cN F σ vs as->cN F σ (v::vs) (.d x::as)
 | n {v:V} {j:Nat} {vs:List V} {as:List AV}:σ[j]?=some (some v)->cN F σ vs as->cN F σ (v::vs) (.n j::as)
 | l {v:V} {j:Nat} {vs:List V} {as:List AV}:σ[j]?=some (some v)->cN F σ vs as->cN F σ (v::vs) (.l j::as)
theorem cN.length{F:Hp}{σ:St}:∀ {vs:List V} {as:List AV},cN F σ vs as->vs.length=as.length
 | _,_,.nil=>rfl
 | _,_,.d _ r=>by simp [cN.length r]
 | _,_,.n _ r=>by simp [cN.length r]
 | _,_,.l _ r=>by simp [cN.length r]
theorem cN.gd{F:Hp}{σ:St}:∀ {vs:List V} {as:List AV} {i:Nat} {x:D},cN F σ vs as->as[i]?=some (.d x)->∃v,vs[i]?=some v/\Rep F v x
 | _,_,_,_,.nil,e=>by simp at e
 | _,_,0,_,.d h _,e=>by simp at e;subst e;exact⟨_,by simp,h⟩
 | _,_,0,_,.n _ _,e=>by simp at e
 | _,_,0,_,.l _ _,e=>by simp at e
 | _,_,i+1,_,.d _ r,e=>by obtain⟨v,h1,h2⟩:=cN.gd (i:=i) r (by simpa using e);exact⟨v,by simpa using h1,h2⟩
 | _,_,i+1,_,.n _ r,e=>by obtain⟨v,h1,h2⟩:=cN.gd (i:=i) r (by simpa using e);exact⟨v,by simpa using h1,h2⟩
 | _,_,i+1,_,.l _ r,e=>by obtain⟨v,h1,h2⟩:=cN.gd (i:=i) r (by simpa using e);exact⟨v,by simpa using h1,h2⟩
theorem cN.gn{F:Hp}{σ:St}{j:Nat}:∀ {vs:List V} {as:List AV} {i:Nat},cN F σ vs as->as[i]?=some (.n j)\/as[i]?=some (.l j)->∃v,vs[i]?=some v/\σ[j]?=some (some v)
 | _,_,_,.nil,e=>by simp at e
 | _,_,0,.d _ _,e=>by simp at e
 | _,_,0,.n h _,e=>by
  rcases e with e|e
  ·simp at e;subst e;exact⟨_,by simp,h⟩
  ·simp at e
 | _,_,0,.l h _,e=>by
  rcases e with e|e
  ·simp at e
  ·simp at e;subst e;exact⟨_,by simp,h⟩
 | _,_,i+1,.d _ r,e=>by obtain⟨v,h1,h2⟩:=cN.gn (i:=i) r (by simpa using e);exact⟨v,by simpa using h1,h2⟩
 | _,_,i+1,.n _ r,e=>by obtain⟨v,h1,h2⟩:=cN.gn (i:=i) r (by simpa using e);exact⟨v,by simpa using h1,h2⟩
 | _,_,i+1,.l _ r,e=>by obtain⟨v,h1,h2⟩:=cN.gn (i:=i) r (by simpa using e);exact⟨v,by simpa using h1,h2⟩
def B8(σ:Sd):AV->Option B
 | .d x=>some (.sh x)
 | .n j=>match σ[j]? with
  | some (some b)=>some b
  | _=>none
 | .l j=>match σ[j]? with
  | some (some (.obj o))=>o.view.map B.sh
  | some (some (.sh d))=>some (.sh d)
  | _=>none
def dQ(σ:Sd):List AV->Option (List B)
 | []=>some []
 | a::r=>match B8 σ a,dQ σ r with
  | some b,some bs=>some (b::bs)
  | _,_=>none
theorem lb{σ:Sd}:∀ {as:List AV} {bs:List B},dQ σ as=some bs->as.length=bs.length
 | [],_,e=>by cases e;rfl
 | a::r,bs,e=>by
  unfold dQ at e
  split at e
  ·rename_i b d6 e1 e2
   cases e;simp [lb e2]
  ·cases e
theorem k9{σ:Sd}:∀ {as:List AV} {bs:List B} {i:Nat} {b:B},dQ σ as=some bs->bs[i]?=some b->∃a,as[i]?=some a/\B8 σ a=some b
 | [],_,_,_,e,q=>by cases e;simp at q
 | a::r,bs,i,b,e,q=>by
  unfold dQ at e
  split at e
  ·rename_i b' d6 e1 e2
   cases e;cases i with
   | zero=>simp at q;subst q;exact⟨a,by simp,e1⟩
   | succ i =>
    obtain⟨a',h1,h2⟩:=k9 (i:=i) e2 (by simpa using q)
    exact⟨a',by simpa using h1,h2⟩
  ·cases e
def bI:Sd->List AV->List B->Sd
 | σ,.n j::as,b::bs=>bI (σ.set j (some b)) as bs
 | σ,.d _::as,_::bs=>bI σ as bs
 | σ,.l _::as,_::bs=>bI σ as bs
 | σ,_,_=>σ
def mN:List AV->List Nat
 | []=>[]
 | .n j::as=>j::mN as
 | .d _::as=>mN as
 | .l _::as=>mN as
def zo:List AV->List Nat
 | []=>[]
 | .n _::as=>zo as
 | .d _::as=>zo as
 | .l j::as=>j::zo as
theorem dG{j:Nat}:∀ {as:List AV} {i:Nat},as[i]?=some (.n j)->j∈mN as
 | [],_,e=>by simp at e
 | .n x::as,0,e=>by simp at e;subst e;exact .head _
 | .d _::as,0,e=>by simp at e
 | .l _::as,0,e=>by simp at e
 | .n x::as,i+1,e=>.tail _ (dG (i:=i) (by simpa using e))
 | .d _::as,i+1,e=>dG (as:=as) (i:=i) (by simpa using e)
 | .l _::as,i+1,e=>dG (as:=as) (i:=i) (by simpa using e)
theorem nj{j:Nat}:∀ {as:List AV} {i:Nat},as[i]?=some (.l j)->j∈zo as
 | [],_,e=>by simp at e
 | .l x::as,0,e=>by simp at e;subst e;exact .head _
 | .d _::as,0,e=>by simp at e
 | .n _::as,0,e=>by simp at e
 | .l x::as,i+1,e=>.tail _ (nj (i:=i) (by simpa using e))
 | .d _::as,i+1,e=>nj (as:=as) (i:=i) (by simpa using e)
 | .n _::as,i+1,e=>nj (as:=as) (i:=i) (by simpa using e)
theorem jI{j:Nat}:∀ {as:List AV},j∈mN as->∃i:Nat,as[i]?=some (AV.n j)
 | [],e=>by cases e
 | .n x::as,e=>by
  rcases ab6.mp e with rfl|e
  ·exact⟨0,rfl⟩
  ·obtain⟨i,h⟩:=jI e;exact⟨i+1,by simpa using h⟩
 | .d _::as,e=>by obtain⟨i,h⟩:=jI (as:=as) e;exact⟨i+1,by simpa using h⟩
 | .l _::as,e=>by obtain⟨i,h⟩:=jI (as:=as) e;exact⟨i+1,by simpa using h⟩
theorem jH{j:Nat}:∀ {as:List AV} {i i':Nat},(mN as).Nodup->as[i]?=some (.n j)->as[i']?=some (.n j)->i=i'
 | [],_,_,_,e,_=>by simp at e
 | .n x::as,0,0,_,_,_=>rfl
 | .n x::as,0,i'+1,nd,e,e'=>by
  simp at e;subst e;exact absurd (dG (as:=as) (i:=i') (by simpa using e')) (List.nodup_cons.mp nd).1
 | .n x::as,i+1,0,nd,e,e'=>by
  simp at e';subst e';exact absurd (dG (as:=as) (i:=i) (by simpa using e)) (List.nodup_cons.mp nd).1
 | .n x::as,i+1,i'+1,nd,e,e'=>congrArg (·+1) (jH (as:=as) (i:=i) (i':=i') (List.nodup_cons.mp nd).2 (by simpa using e) (by simpa using e'))
 | .d _::as,0,_,_,e,_=>by simp at e
 | .d _::as,_+1,0,_,_,e=>by simp at e
 | .d _::as,i+1,i'+1,nd,e,e'=>congrArg (·+1) (jH (as:=as) (i:=i) (i':=i') nd (by simpa using e) (by simpa using e'))
 | .l _::as,0,_,_,e,_=>by simp at e
 | .l _::as,_+1,0,_,_,e=>by simp at e
 | .l _::as,i+1,i'+1,nd,e,e'=>congrArg (·+1) (jH (as:=as) (i:=i) (i':=i') nd (by simpa using e) (by simpa using e'))
theorem fR:∀(σ:Sd) (as:List AV) (bs:List B),(bI σ as bs).length=σ.length
 | σ,[],_=>by unfold bI;rfl
 | σ,.n j::as,[]=>by unfold bI;rfl
 | σ,.d _::as,[]=>by unfold bI;rfl
 | σ,.l _::as,[]=>by unfold bI;rfl
 | σ,.n j::as,b::bs=>by
  show(bI (σ.set j (some b)) as bs).length=_;rw[fR];simp
 | σ,.d _::as,b::bs=>fR σ as bs
 | σ,.l _::as,b::bs=>fR σ as bs
theorem dE{m:Nat}:∀(σ:Sd) (as:List AV) (bs:List B),m∉mN as->(bI σ as bs)[m]?=σ[m]?
 | σ,[],_,_=>by unfold bI;rfl
 | σ,.n j::as,[],_=>by unfold bI;rfl
 | σ,.d _::as,[],_=>by unfold bI;rfl
 | σ,.l _::as,[],_=>by unfold bI;rfl
 | σ,.n j::as,b::bs,h=>by
  have h:m≠j/\m∉mN as:=by simpa [mN]using h
  show(bI (σ.set j (some b)) as bs)[m]?=_;rw[dE _ as bs h.2,List.getElem?_set_ne (Ne.symm h.1)]
 | σ,.d _::as,b::bs,h=>dE σ as bs h
 | σ,.l _::as,b::bs,h=>dE σ as bs h
theorem fB{m:Nat}{b:B}:∀(σ:Sd) (as:List AV) (bs:List B) (i:Nat),(mN as).Nodup->as[i]?=some (.n m)->bs[i]?=some b->m<σ.length->(bI σ as bs)[m]?=some (some b)
 | σ,[],_,i,_,e,_,_=>by simp at e
 | σ,_::_,[],i,_,_,e,_=>by simp at e
 | σ,.n j::as,c::bs,0,nd,e,e',hl=>by
  simp at e e';subst e e';show(bI (σ.set j (some c)) as bs)[j]?=_;rw[dE _ as bs (List.nodup_cons.mp nd).1,List.getElem?_set_self hl]
 | σ,.n j::as,c::bs,i+1,nd,e,e',hl=>fB (σ.set j (some c)) as bs i (List.nodup_cons.mp nd).2 (by simpa using e) (by simpa using e') (by simpa using hl)
 | σ,.d _::as,c::bs,0,_,e,_,_=>by simp at e
 | σ,.d _::as,c::bs,i+1,nd,e,e',hl=>fB σ as bs i nd (by simpa using e) (by simpa using e') hl
 | σ,.l _::as,c::bs,0,_,e,_,_=>by simp at e
 | σ,.l _::as,c::bs,i+1,nd,e,e',hl=>fB σ as bs i nd (by simpa using e) (by simpa using e') hl
def lAv(Y:bz)(t:ua):TA:=λσ H Q=>∃F ah Qd,RS Y F ah σ H/\t ah Qd/\∀vs H' F' as aA,ao F F'->RS Y F' aA σ H'->cN F' σ vs as->Qd as aA->Q vs H'
structure G3(G:GE)(k:Nat)(S:Stat)(es:List Expr)(t:ua):Prop where
 run:∀X Y,dJ X G k S Y->PA X es (lAv Y t)
variable {G:GE}{k:Nat}{S:Stat}
def kP:ua:=λσ Q=>Q [] σ
def oZ(t:TD)(u:ua):ua:=λσ Q=>t σ λx av=>u av λas aL=>Q (.d x::as) aL
def JU(j:Nat)(u:ua):ua:=λσ Q=>(∃b,σ[j]?=some (some b))/\u σ λas aL=>Q (.n j::as) aL
def Hl(j:Nat)(u:ua):ua:=λσ Q=>(∃b,σ[j]?=some (some b))/\u σ λas aL=>Q (.l j::as) aL
theorem RS.bound{Y:bz}{F:Hp}{ah:Sd}{σ:St}{H:Hp}(R:RS Y F ah σ H){j:Nat}{b:B}(e:ah[j]?=some (some b)):∃v,σ[j]?=some (some v):=by
 cases b with
 | sh d=>obtain⟨v,h,_⟩:=R.sh j d e;exact⟨v,h⟩
 | own xs=>obtain⟨a,_,h,_⟩:=R.own j xs e;exact⟨_,h⟩
 | obj o=>obtain⟨a,h,_⟩:=R.ob.obj j o e;exact⟨_,h⟩
theorem cO:G3 G k S [] kP:=⟨λX Y ok=>gR ei λσ H Q q=>by
 obtain⟨F,ah,Qd,R,q,K⟩:=q;exact K [] H F [] ah (ao.refl _) R .nil q⟩
theorem eR{e:Expr}{es:List Expr}{t:TD}{u:ua}(h:ED G k S e t)(hs:G3 G k S es u)(he:∀env,ab7 (e::es) env=(false,eval e env)::ab7 es env:=by exactλ_=>Vc.cM rfl):G3 G k S (e::es) (oZ t u):=⟨λX Y ok =>
 gR (bX (h X Y ok) (hs.run X Y ok) (he _)) λσ H Q q=>by
  obtain⟨F,ah,Qd,R,q,K⟩:=q;refine⟨F,ah,_,R,q,λv1 H1 F1 x av s1 R1 r1 q1=>?_⟩;refine⟨F1,av,_,R1,q1,λvs H2 F2 as aL s2 R2 r2 q2=>?_⟩;exact K _ H2 F2 _ aL (s1.trans s2) R2 (.d (r1.mono s2) r2) q2⟩
section
variable {x:Str}{es:List Expr}{u:ua}{pos:Pos}
theorem xr(j:Nat)(hs:G3 G k S es u)(hN:S.N[j]?=some x:=by rfl)(hv:S.sc.lookup x=some .local\/S.sc.lookup x=some .cell\/S.sc.lookup x=some .free:=by first|exact Or.inl rfl|exact Or.inr (Or.inl rfl)|exact Or.inr (Or.inr rfl))
  (hd:(x==("__debug__":Str))=false:=by decide) (mY:(x==("__classdict__":Str))=false:=by decide) (he:∀env,ab7 (.Name x pos::es) env=(false,eval (.Name x pos) env)::ab7 es env:=by exactλ_=>Vc.cM rfl):G3 G k S (.Name x pos::es) (JU j u):=⟨λX Y ok =>
 gR (bX (jg (X:=X) (i:=j) (by rw[ok.N];exact hN) (by unfold Hu;rw[ok.sc];exact hv) hd mY) (hs.run X Y ok) (he _)) λσ H Q q=>by
  obtain⟨F,ah,Qd,R,⟨⟨b,e⟩,q⟩,K⟩:=q;obtain⟨v,ev⟩:=R.bound e;refine⟨v,ev,F,ah,_,R,q,λvs H2 F2 as aL s2 R2 r2 q2=>?_⟩;exact K _ H2 F2 _ aL s2 R2 (.n ev r2) q2⟩
theorem uo(j:Nat)(hs:G3 G k S es u)(hN:S.N[j]?=some x:=by rfl)(hv:S.sc.lookup x=some .local\/S.sc.lookup x=some .cell\/S.sc.lookup x=some .free:=by first|exact Or.inl rfl|exact Or.inr (Or.inl rfl)|exact Or.inr (Or.inr rfl))
  (hd:(x==("__debug__":Str))=false:=by decide) (mY:(x==("__classdict__":Str))=false:=by decide) (he:∀env,ab7 (.Name x pos::es) env=(false,eval (.Name x pos) env)::ab7 es env:=by exactλ_=>Vc.cM rfl):G3 G k S (.Name x pos::es) (Hl j u):=⟨λX Y ok =>
 gR (bX (jg (X:=X) (i:=j) (by rw[ok.N];exact hN) (by unfold Hu;rw[ok.sc];exact hv) hd mY) (hs.run X Y ok) (he _)) λσ H Q q=>by
  obtain⟨F,ah,Qd,R,⟨⟨b,e⟩,q⟩,K⟩:=q;obtain⟨v,ev⟩:=R.bound e;refine⟨v,ev,F,ah,_,R,q,λvs H2 F2 as aL s2 R2 r2 q2=>?_⟩;exact K _ H2 F2 _ aL s2 R2 (.l ev r2) q2⟩
end
def Bz(ah:Sd)(σ:St)(js:List Nat)(c:Addr):Prop:=∃j∈js,∃(o:O) (a:Addr),ah[j]?=some (some (.obj o))/\σ[j]?=some (some (.ref a))/\c∈o.fp a
theorem vI{Y:bz}{F:Hp}{ah:Sd}{σ:St}{H:Hp}(R:RS Y F ah σ H):∀js:List Nat,∃F2,ao F F2/\ao F2 H/\(∀j∈js,∀(o:O) (d:D) (a:Addr),ah[j]?=some (some (.obj o))->o.view=some d->σ[j]?=some (some (.ref a))->Rep F2 (.ref a) d) /\
  (∀c u,F2 c=some u->F c=some u\/(dl u=true/\Bz ah σ js c))/\(js=[]->F2=F)
 | []=>⟨F,ao.refl _,R.fr,(λj hj=>by cases hj),(λc u z=>.inl z),λ_=>rfl⟩
 | j::js=>by
  obtain⟨F2,s1,s2,h1,h2,_⟩:=vI R js
  by_cases hq:∃o d,ah[j]?=some (some (.obj o))/\o.view=some d
  ·obtain⟨o,d,e1,e2⟩:=hq
   obtain⟨a,w1,w2,w3⟩:=R.ob.obj j o e1;have w2':o.rep F2 H a:=o.mono s1 (λ_ _=>rfl) w2;obtain⟨F3,s3,s4,r3,h3⟩:=o.lend s2 w2' e2;refine⟨F3,s1.trans s3,s4,λi hi o' d' a' f1 f2 f3=>?_,λc u z=>?_,λz=>nomatch z⟩
   ·rcases ab6.mp hi with rfl|hi
    ·rw[e1]at f1;cases f1
     rw[e2]at f2;cases f2;rw[w1]at f3;cases f3;exact r3
    ·exact(h1 i hi o' d' a' f1 f2 f3).mono s3
   ·rcases h3 c u z with z|⟨z1,z2⟩
    ·rcases h2 c u z with z|⟨z1,i,hi,z2⟩
     ·exact .inl z
     ·exact .inr ⟨z1,i,.tail _ hi,z2⟩
    ·exact .inr ⟨z1,j,.head _,o,a,e1,w1,z2⟩
  ·refine⟨F2,s1,s2,λi hi o' d' a' f1 f2 f3=>?_,λc u z=>?_,λz=>nomatch z⟩
   ·rcases ab6.mp hi with rfl|hi
    ·exact absurd ⟨o',d',f1,f2⟩ hq
    ·exact h1 i hi o' d' a' f1 f2 f3
   ·rcases h2 c u z with z|⟨z1,i,hi,z2⟩
    ·exact .inl z
    ·exact .inr ⟨z1,i,.tail _ hi,z2⟩
theorem B9{σ:Sd}{j:Nat}{b:B}(h:B8 σ (.n j)=some b):σ[j]?=some (some b):=by
 have h:(match σ[j]? with|some (some b)=>some b|_=>none)=some b:=h
 split at h
 ·rename_i b' e;cases h;exact e
 ·cases h
theorem MP{σ:Sd}{j:Nat}{b:B}(h:B8 σ (.l j)=some b):∃d,b=.sh d/\(σ[j]?=some (some (.sh d))\/∃o,σ[j]?=some (some (.obj o))/\o.view=some d):=by
 have h:(match σ[j]? with|some (some (.obj o))=>o.view.map B.sh|some (some (.sh d))=>some (.sh d)|_=>none)=some b:=h
 split at h
 ·rename_i o e
  obtain⟨d,h1,h2⟩:=Option.map_eq_some_iff.mp h;exact⟨d,h2.symm,.inr ⟨o,e,h1⟩⟩
 ·rename_i d e;cases h;exact⟨d,rfl,.inl e⟩
 ·cases h
theorem xm{Y:bz}{F:Hp}{ah:Sd}{σ:St}{H:Hp}(R:RS Y F ah σ H){vs:List V}{as:List AV}{bs:List B}(ra:cN F σ vs as)(ea:dQ ah as=some bs){i:Nat}{b:B}(e:bs[i]?=some b):
  (∃d v,b=.sh d/\vs[i]?=some v/\(Rep F v d\/∃(j:Nat) (o:O) (a:Addr),as[i]?=some (.l j)/\v=.ref a/\ah[j]?=some (some (.obj o))/\σ[j]?=some (some (.ref a))/\o.view=some d)) \/
  ∃(j:Nat) (v:V),as[i]?=some (.n j)/\ah[j]?=some (some b)/\vs[i]?=some v/\σ[j]?=some (some v):=by
 obtain⟨a,h1,h2⟩:=k9 ea e;cases a with
 | d x =>
  cases h2;obtain⟨v,g1,g2⟩:=ra.gd h1;exact .inl ⟨x,v,rfl,g1,.inl g2⟩
 | n j =>
  obtain⟨v,g1,g2⟩:=ra.gn (.inl h1);exact .inr ⟨j,v,h1,B9 h2,g1,g2⟩
 | l j =>
  obtain⟨d,rfl,h3⟩:=MP h2;obtain⟨v,g1,g2⟩:=ra.gn (.inr h1);refine .inl ⟨d,v,rfl,g1,?_⟩;rcases h3 with h3|⟨o,h3,h4⟩
  ·obtain⟨v',f1,f2⟩:=R.sh j d h3
   rw[g2]at f1;cases f1;exact .inl f2
  ·obtain⟨a,f1,_⟩:=R.ob.obj j o h3
   rw[g2]at f1;cases f1;exact .inr ⟨j,o,a,h1,rfl,h3,g2,h4⟩
theorem Hz{Y:bz}{F F2:Hp}{ah:Sd}{σ:St}{H:Hp}(R:RS Y F ah σ H){vs:List V}{as:List AV}{bs:List B}(ra:cN F σ vs as)(ea:dQ ah as=some bs)(nd:(mN as).Nodup)(hl:∀j∈zo as,j∉mN as)
  (s1:ao F F2) (h1:∀j∈zo as,∀(o:O) (d:D) (a:Addr),ah[j]?=some (some (.obj o))->o.view=some d->σ[j]?=some (some (.ref a))->Rep F2 (.ref a) d) (h2:∀c u,F2 c=some u->F c=some u\/(dl u=true/\Bz ah σ (zo as) c)):iH F2 H vs bs:=by
 have vW:∀ {i:Nat} {b:B},bs[i]?=some b->(∀d,b≠.sh d)->∃j v,as[i]?=some (.n j)/\ah[j]?=some (some b)/\vs[i]?=some v/\σ[j]?=some (some v):=λe n=>by
  rcases xm R ra ea e with⟨d,v,z,_⟩|z
  ·exact absurd z (n d)
  ·exact z
 have free:∀ {j:Nat} {c:Addr},j∉zo as->F c=none->(∀i∈zo as,∀(o:O) (a:Addr),ah[i]?=some (some (.obj o))->σ[i]?=some (some (.ref a))->c∉o.fp a)->F2 c=none:=λ{j c} _ e n=>by
  cases q:F2 c with
  | none=>rfl
  | some u =>
   rcases h2 c u q with z|⟨_,i,hi,o,a,f1,f2,f3⟩
   ·rw[e]at z;cases z
   ·exact absurd f3 (n i hi o a f1 f2)
 refine⟨ra.length.trans (lb ea),λi d e=>?_,λi xs e=>?_,λi o e=>?_,λi j xs ys a e1 e2 e3 e4=>?_,λi j o p a b e1 e2 e3 e4 lu=>?_,λi j xs o a b e1 e2 e3 e4=>?_⟩
 ·rcases xm R ra ea e with⟨d',v,z,g1,g2⟩|⟨j,v,g1,g2,g3,g4⟩
  ·cases z
   refine⟨v,g1,?_⟩;rcases g2 with g2|⟨j,o,a,f1,rfl,f3,f4,f5⟩
   ·exact g2.mono s1
   ·exact h1 j (nj f1) o d a f3 f5 f4
  ·obtain⟨v',f1,f2⟩:=R.sh j d g2
   rw[g4]at f1;cases f1;exact⟨v,g3,f2.mono s1⟩
 ·obtain⟨j,v,g1,g2,g3,g4⟩:=vW e (λd z=>nomatch z)
  obtain⟨a,us,f1,f2,f3,f4,f5⟩:=R.own j xs g2;rw[g4]at f1;cases f1;refine⟨a,us,g3,f2,f3.mono s1,free (j:=j) (λz=>hl j z (dG g1)) f4 λi hi o b q1 q2 q3=>R.ob.gv j xs a g2 g4 ⟨i,o,b,q1,q2,q3⟩⟩
 ·obtain⟨j,v,g1,g2,g3,g4⟩:=vW e (λd z=>nomatch z)
  obtain⟨a,f1,f2,f3⟩:=R.ob.obj j o g2;rw[g4]at f1;cases f1;refine⟨a,g3,o.mono s1 (λ_ _=>rfl) f2,λc hc=>⟨free (j:=j) (λz=>hl j z (dG g1)) (f3 c hc).1 λi hi p b q1 q2 q3=>?_,(f3 c hc).2.1⟩⟩;exact R.ob.o8 j i o p a b g2 q1 g4 q2 (λz=>hl i hi (z ▸ dG g1)) c hc q3
 ·obtain⟨m,v,g1,g2,g3,g4⟩:=vW e1 (λd z=>nomatch z)
  obtain⟨n,w,y1,y2,y3,y4⟩:=vW e2 (λd z=>nomatch z);rw[e3]at g3;cases g3;rw[e4]at y3;cases y3;have:=R.dis m n xs ys a g2 y2 g4 y4;subst this;exact jH nd g1 y1
 ·obtain⟨m,v,g1,g2,g3,g4⟩:=vW e1 (λd z=>nomatch z)
  obtain⟨n,w,y1,y2,y3,y4⟩:=vW e2 (λd z=>nomatch z);rw[e3]at g3;cases g3;rw[e4]at y3;cases y3;exact R.ob.o8 m n o p a b g2 y2 g4 y4 λz=>lu (jH nd g1 (z ▸ y1))
 ·obtain⟨m,v,g1,g2,g3,g4⟩:=vW e1 (λd z=>nomatch z)
  obtain⟨n,w,y1,y2,y3,y4⟩:=vW e3 (λd z=>nomatch z);rw[e2]at g3;cases g3;rw[e4]at y3;cases y3;exactλz=>R.ob.gv m xs b g2 g4 ⟨n,o,a,y2,y4,z⟩
end Vc
namespace Vc
open PySem L2
variable [KF]
section
variable {Y:bz}{F:Hp}{ah:Sd}{σ:St}{H:Hp}{vs:List V}{as:List AV}{bs d6:List B}
theorem qY(R:RS Y F ah σ H)(ra:cN F σ vs as)(ea:dQ ah as=some bs){i:Nat}{b:B}(e:bs[i]?=some b)(n:∀d,b≠.sh d):∃j v,as[i]?=some (.n j)/\ah[j]?=some (some b)/\vs[i]?=some v/\σ[j]?=some (some v):=by
 rcases xm R ra ea e with⟨d,v,z,_⟩|z
 ·exact absurd z (n d)
 ·exact z
theorem yL(ra:cN F σ vs as)(ea:dQ ah as=some bs){i m:Nat}(e:as[i]?=some (.n m)):∃b v,bs[i]?=some b/\ah[m]?=some (some b)/\vs[i]?=some v/\σ[m]?=some (some v):=by
 have hi:i<bs.length:=by rw[<- lb ea];exact(ab2.mp e).1
 have hb:bs[i]?=some bs[i]:=abY hi;obtain⟨a,h1,h2⟩:=k9 ea hb;rw[e]at h1;cases h1;obtain⟨v,g1,g2⟩:=ra.gn (.inl e);exact⟨_,v,hb,B9 h2,g1,g2⟩
theorem rh(ra:cN F σ vs as)(ea:dQ ah as=some bs)(nd:(mN as).Nodup)(lk:dj bs d6){m:Nat}{b:B}(e:(bI ah as d6)[m]?=some (some b)):(m∉mN as/\ah[m]?=some (some b))\/∃i:Nat,as[i]?=some (AV.n m)/\d6[i]?=some b:=by
 by_cases hm:m∈mN as
 ·obtain⟨i,hi⟩:=jI hm
  obtain⟨c,v,g1,g2,_⟩:=yL ra ea hi;have hl:i<d6.length:=by rw[<- lk.len];exact(ab2.mp g1).1
  have hb:d6[i]?=some d6[i]:=abY hl;have:=fB ah as d6 i nd hi hb (ab2.mp g2).1;rw[this]at e;cases e;exact .inr ⟨i,hi,hb⟩
 ·rw[dE _ _ _ hm]at e
  exact .inl ⟨hm,e⟩
theorem uq(R:RS Y F ah σ H)(ra:cN F σ vs as)(ea:dQ ah as=some bs)(nd:(mN as).Nodup)(lk:dj bs d6){m:Nat}{p:O}(e:(bI ah as d6)[m]?=some (some (.obj p))):∃o,ah[m]?=some (some (.obj o))/\p.fp=o.fp:=by
 rcases rh ra ea nd lk e with⟨_,e⟩|⟨i,h1,h2⟩
 ·exact⟨p,e,rfl⟩
 ·obtain⟨o,h3,h4,_⟩:=lk.A2 h2
  obtain⟨j,v,g1,g2,_⟩:=qY R ra ea h3 (λd z=>nomatch z);rw[h1]at g1;cases g1;exact⟨o,g2,h4⟩
theorem ur(R:RS Y F ah σ H)(ra:cN F σ vs as)(ea:dQ ah as=some bs)(nd:(mN as).Nodup)(lk:dj bs d6){m:Nat}{ys:List D}(e:(bI ah as d6)[m]?=some (some (.own ys))):∃xs,ah[m]?=some (some (.own xs)):=by
 rcases rh ra ea nd lk e with⟨_,e⟩|⟨i,h1,h2⟩
 ·exact⟨ys,e⟩
 ·obtain⟨xs,h3⟩:=lk.A9 h2
  obtain⟨j,v,g1,g2,_⟩:=qY R ra ea h3 (λd z=>nomatch z);rw[h1]at g1;cases g1;exact⟨xs,g2⟩
theorem yO(R:RS Y F ah σ H)(ra:cN F σ vs as)(ea:dQ ah as=some bs)(nd:(mN as).Nodup)(lk:dj bs d6){a:Addr}(h:H a=none):dc (bI ah as d6) σ a:=by
 refine⟨λj ys e z=>?_,λ⟨j,p,c,e1,e2,hm⟩=>?_⟩
 ·obtain⟨xs,e'⟩:=ur R ra ea nd lk e
  obtain⟨c,us,f1,f2,_⟩:=R.own j xs e';rw[z]at f1;cases f1;rw[f2]at h;cases h
 ·obtain⟨o,f1,f2⟩:=uq R ra ea nd lk e1
  obtain⟨c',g1,_,g3⟩:=R.ob.obj j o f1;rw[e2]at g1;cases g1;exact(g3 a (by rw[<- f2];exact hm)).2.1 h
end
theorem RS.MR{Y:bz}{F F':Hp}{ah:Sd}{σ:St}{H H':Hp}(R:RS Y F ah σ H){vs:List V}{as:List AV}{bs d6:List B}(ra:cN F σ vs as)(ea:dQ ah as=some bs)(nd:(mN as).Nodup)(lk:dj bs d6)
  (s1:ao F F') (s2:ao F' H') (fm:∀c o,¬iB vs bs c->H c=some o->H' c=some o) (fn:∀c,iB vs bs c->H' c≠none) (fr:∀c o,F' c=some o->F c=some o\/Nw H c o)
  (ow:∀(i:Nat) (xs:List D),d6[i]?=some (.own xs)->∃a us,vs[i]?=some (.ref a)/\H' a=some (.lst us)/\aC F' us xs/\F' a=none)
  (oj:∀(i:Nat) (o:O),d6[i]?=some (.obj o)->∃a,vs[i]?=some (.ref a)/\o.rep F' H' a/\∀c∈o.fp a,F' c=none/\H' c≠none):RS Y F' (bI ah as d6) σ H':=by
 have vW:∀ {i:Nat} {b:B},bs[i]?=some b->(∀d,b≠.sh d)->∃j v,as[i]?=some (.n j)/\ah[j]?=some (some b)/\vs[i]?=some v/\σ[j]?=some (some v):=λe n=>qY R ra ea e n;have inn:∀ {i m:Nat},as[i]?=some (.n m)->∃b v,bs[i]?=some b/\ah[m]?=some (some b)/\vs[i]?=some v/\σ[m]?=some (some v):=λe=>yL ra ea e;have st:∀ {m:Nat} {b:B},(bI ah as d6)[m]?=some (some b)->(m∉mN as/\ah[m]?=some (some b))\/∃i:Nat,as[i]?=some (AV.n m)/\d6[i]?=some b:=λe=>rh ra ea nd lk e;have stO:∀ {m:Nat} {p:O},(bI ah as d6)[m]?=some (some (.obj p))->∃o,ah[m]?=some (some (.obj o))/\p.fp=o.fp:=λe=>uq R ra ea nd lk e;have stX:∀ {m:Nat} {ys:List D},(bI ah as d6)[m]?=some (some (.own ys))->∃xs,ah[m]?=some (some (.own xs)):=λe=>ur R ra ea nd lk e
 -- what is no argument is not touched
 have nfx:∀ {m:Nat} {xs:List D} {a:Addr},m∉mN as->ah[m]?=some (some (.own xs))->σ[m]?=some (some (.ref a))->¬iB vs bs a:=λ{m xs a} hm e1 e2 z=>by
  rcases z with⟨i,ys,z1,z2⟩|⟨i,o,b,z1,z2,z3⟩
  ·obtain⟨j,v,g1,g2,g3,g4⟩:=vW z1 (λd z=>nomatch z)
   rw[z2]at g3;cases g3;have:=R.dis m j xs ys a e1 g2 e2 g4;exact hm (this ▸ dG g1)
  ·obtain⟨j,v,g1,g2,g3,g4⟩:=vW z1 (λd z=>nomatch z)
   rw[z2]at g3;cases g3;exact R.ob.gv m xs a e1 e2 ⟨j,o,b,g2,g4,z3⟩
 have nfo:∀ {m:Nat} {o:O} {a c:Addr},m∉mN as->ah[m]?=some (some (.obj o))->σ[m]?=some (some (.ref a))->c∈o.fp a->¬iB vs bs c:=λ{m o a c} hm e1 e2 hc z=>by
  rcases z with⟨i,ys,z1,z2⟩|⟨i,p,b,z1,z2,z3⟩
  ·obtain⟨j,v,g1,g2,g3,g4⟩:=vW z1 (λd z=>nomatch z)
   rw[z2]at g3;cases g3;exact R.ob.gv j ys c g2 g4 ⟨m,o,a,e1,e2,hc⟩
  ·obtain⟨j,v,g1,g2,g3,g4⟩:=vW z1 (λd z=>nomatch z)
   rw[z2]at g3;cases g3;exact R.ob.o8 m j o p a b e1 g2 e2 g4 (λy=>hm (y ▸ dG g1)) c hc z3
 have up:∀ {c:Addr},H c≠none->H' c≠none:=λ{c} h=>by
  by_cases hf:iB vs bs c
  ·exact fn c hf
  ·cases q:H c with
   | none=>exact absurd q h
   | some o=>rw[fm c o hf q];exactλz=>nomatch z
 have kp:∀ {c:Addr},¬iB vs bs c->H c≠none->H' c=H c:=λ{c} hf h=>by
  cases q:H c with
  | none=>exact absurd q h
  | some o=>exact fm c o hf q
 have fz:∀ {c:Addr},¬iB vs bs c->F c=none->H c≠none->(∀us,H c≠some (.tup us))->F' c=none:=λ{c} hf h1 h2 h3=>by
  cases q:F' c with
  | none=>rfl
  | some o =>
   rcases fr c o q with w|w|⟨us,rfl⟩
   ·rw[h1]at w;cases w
   ·exact absurd w h2
   ·have:=s2 c _ q
    rw[kp hf h2]at this;exact absurd this (h3 us)
 have abt:∀ {c:Addr},iB vs bs c->Y.H0 c=none\/c∈Y.zf:=λ{c} z=>by
  rcases z with⟨i,ys,z1,z2⟩|⟨i,p,b,z1,z2,z3⟩
  ·obtain⟨j,v,g1,g2,g3,g4⟩:=vW z1 (λd z=>nomatch z)
   rw[z2]at g3;cases g3;obtain⟨a,us,f1,_,_,_,f5⟩:=R.own j ys g2;rw[g4]at f1;cases f1;exact f5.imp id λy=>List.mem_append_left _ y
  ·obtain⟨j,v,g1,g2,g3,g4⟩:=vW z1 (λd z=>nomatch z)
   rw[z2]at g3;cases g3;obtain⟨a,f1,_,f3⟩:=R.ob.obj j p g2;rw[g4]at f1;cases f1;exact(f3 c z3).2.2.imp id λy=>List.mem_append_right _ y
 refine⟨by rw[fR];exact R.len,R.lo.trans s1,s2,λb o q=>?_,λb o q n=>?_,λm d e=>?_,λm ys e=>?_,λm n ys zs a e1 e2 e3 e4=>?_,λp hp=>?_,⟨λm p e=>?_,λm n p q a b e1 e2 e3 e4 cy c hc Hb=>?_,λn ys b e1 e2 ⟨m,p,a,e3,e4,hm⟩=>?_,λb hb=>up (R.ob.there b hb),R.ob.UY,R.ob.tab.mono s1⟩⟩
 ·rcases fr b o q with h|h
  ·exact R.eS b o h
  ·exact .inr (h.imp (λh=>(R.bW h).1) id)
 ·refine fm b o (λz=>?_) (R.old b o q n)
  rcases abt z with y|y
  ·rw[q]at y;cases y
  ·exact n y
 ·have e0:ah[m]?=some (some (.sh d)):=by
   rcases st e with⟨_,e⟩|⟨i,h1,h2⟩
   ·exact e
   ·obtain⟨b,v,g1,g2,_⟩:=inn h1
    rw[lk.shr h2]at g1;cases g1;exact g2
  obtain⟨v,h1,h2⟩:=R.sh m d e0;exact⟨v,h1,h2.mono s1⟩
 ·rcases st e with⟨hm,e⟩|⟨i,h1,h2⟩
  ·obtain⟨a,us,g1,g2,g3,g4,g5⟩:=R.own m ys e
   have nf:=nfx hm e g1;exact⟨a,us,g1,fm a _ nf g2,g3.mono s1,fz nf g4 (by rw[g2];exactλz=>nomatch z) (λus z=>by rw[g2]at z;cases z),g5⟩
  ·obtain⟨a,us,g1,g2,g3,g4⟩:=ow i ys h2
   obtain⟨xs,h3⟩:=lk.A9 h2;obtain⟨j,v,f1,f2,f3,f4⟩:=vW h3 (λd z=>nomatch z);rw[h1]at f1;cases f1;rw[g1]at f3;cases f3;obtain⟨a',ud,k1,_,_,_,k5⟩:=R.own m xs f2;rw[f4]at k1;cases k1;exact⟨a,us,f4,g2,g3,g4,k5⟩
 ·obtain⟨xs,h1⟩:=stX e1
  obtain⟨xs',h2⟩:=stX e2;exact R.dis m n xs xs' a h1 h2 e3 e4
 ·obtain⟨h1,xs,h2⟩:=R.io p hp
  refine⟨h1,?_⟩
  by_cases hm:p.1∈mN as
  ·obtain⟨i,hi⟩:=jI hm
   obtain⟨b,v,g1,g2,_⟩:=inn hi;rw[h2]at g2;cases g2;obtain⟨ys,h3⟩:=lk.Zd g1;exact⟨ys,fB ah as d6 i nd hi h3 (ab2.mp h2).1⟩
  ·exact⟨xs,by rw[dE _ _ _ hm];exact h2⟩
 ·rcases st e with⟨hm,e⟩|⟨i,h1,h2⟩
  ·obtain⟨a,g1,g2,g3⟩:=R.ob.obj m p e
   have nf:∀c∈p.fp a,¬iB vs bs c:=λc hc=>nfo hm e g1 hc;refine⟨a,g1,p.mono s1 (λc hc=>kp (nf c hc) (g3 c hc).2.1) g2,λc hc=>⟨fz (nf c hc) (g3 c hc).1 (g3 c hc).2.1 (λus z=>p.nt g2 hc z),up (g3 c hc).2.1,(g3 c hc).2.2⟩⟩
  ·obtain⟨a,g1,g2,g3⟩:=oj i p h2
   obtain⟨o,h3,h4,_⟩:=lk.A2 h2;obtain⟨j,v,f1,f2,f3,f4⟩:=vW h3 (λd z=>nomatch z);rw[h1]at f1;cases f1;rw[g1]at f3;cases f3;obtain⟨a',k1,_,k3⟩:=R.ob.obj m o f2;rw[f4]at k1;cases k1;exact⟨a,f4,g2,λc hc=>⟨(g3 c hc).1,(g3 c hc).2,(k3 c (by rw[<- h4];exact hc)).2.2⟩⟩
 ·obtain⟨o,f1,f2⟩:=stO e1
  obtain⟨o',f3,f4⟩:=stO e2;exact R.ob.o8 m n o o' a b f1 f3 e3 e4 cy c (by rw[<- f2];exact hc) (by rw[<- f4];exact Hb)
 ·obtain⟨xs,h1⟩:=stX e1
  obtain⟨o,f1,f2⟩:=stO e3;exact R.ob.gv n xs b h1 e2 ⟨m,o,a,f1,e4,by rw[<- f2];exact hm⟩
variable {G:GE}{k:Nat}{S:Stat}
def CM(sp:iK)(bs:List B)(Q:B->List B->Prop):Prop:=sp bs Q
def my(sp:iK)(as:List AV)(σ:Sd)(Q:EV->Sd->Prop):Prop:=match dQ σ as with
 | some bs=>(mN as).Nodup/\(∀j∈zo as,j∉mN as)/\CM sp bs λb d6=>(zo as=[]\/(noB b=true/\d6.all QB=true))/\Q (bE b) (bI σ as d6)
 | none=>False
theorem gH{Y:bz}{F:Hp}{ah:Sd}{σ:St}{H:Hp}{sp:iK}{as:List AV}{vs:List V}{Qd:EV->Sd->Prop}{Q:VK}{E:XK}(R:RS Y F ah σ H)(ra:cN F σ vs as)(q:my sp as ah Qd)
  (K:∀v H' F' x aA,ao F F'->RS Y F' aA σ H'->Ht Y F' H' aA σ v x->Qd x aA->Q v H'):dh sp vs H Q E:=by
 unfold my at q
 split at q
 ·rename_i bs ea
  obtain⟨nd,hl,q⟩:=q;obtain⟨F2,s1,s2,h1,h2,h3⟩:=vI R (zo as);have ar:=Hz R ra ea nd hl s1 h1 h2;refine⟨F2,bs,_,⟨s2,R.ob.tab.mono s1⟩,ar,q,λv H' F' b d6 t1 t2 fm fn ar' lk fr rr qq=>?_⟩;obtain⟨hn,qq⟩:=qq
  -- what was lent is given back
  obtain⟨F3,e3⟩:∃F3:Hp,F3=λc=>@ite _ (F c=none/\F2 c≠none) (Classical.propDecidable _) none (F' c):=⟨_,rfl⟩;have Wl:∀c,(F3 c=none/\F c=none/\F2 c≠none)\/F3 c=F' c:=λc=>by
   by_cases z:F c=none/\F2 c≠none
   ·exact .inl ⟨by rw[e3];exact if_pos z,z⟩
   ·exact .inr (by rw[e3];exact if_neg z)
  have u1:ao F F3:=λc u z=>by
   rcases Wl c with⟨_,y,_⟩|y
   ·rw[z]at y;cases y
   ·rw[y];exact t1 c u (s1 c u z)
  have u2:∀c u,F3 c=some u->F' c=some u:=λc u z=>by
   rcases Wl c with⟨y,_⟩|y
   ·rw[z]at y;cases y
   ·rw[<- y];exact z
  have u3:ao F3 H':=λc u z=>t2 c u (u2 c u z);have u4:∀c o,F3 c=some o->F c=some o\/Nw H c o:=λc o z=>by
   rcases fr c o (u2 c o z)with y|y
   ·rcases Wl c with⟨y1,_⟩|y1
    ·rw[z]at y1;cases y1
    ·cases qF:F c with
     | some u=>rw[s1 c u qF]at y;cases y;exact .inl rfl
     | none =>
      exfalso;have:F3 c=none:=by rw[e3];exact if_pos ⟨qF,by rw[y];exactλz=>nomatch z⟩
      rw[z]at this;cases this
   ·exact .inr y
  have kT:zo as=[]->F3=F':=λe=>by
   have:=h3 e;subst this;funext c;rcases Wl c with⟨_,y1,y2⟩|y
   ·exact absurd y1 y2
   ·exact y
  have hs:∀c u,F' c=some u->F3 c=some u\/dl u=true:=λc u z=>by
   rcases Wl c with⟨_,y1,y2⟩|y
   ·right
    cases q2:F2 c with
    | none=>exact absurd q2 y2
    | some w =>
     have:=t1 c w q2;rw[z]at this;cases this;rcases h2 c u q2 with y|⟨y,_⟩
     ·rw[y1]at y;cases y
     ·exact y
   ·rw[y];exact .inl z
  have abu:∀(i:Nat) (xs:List D),d6[i]?=some (.own xs)->∃a us,vs[i]?=some (.ref a)/\H' a=some (.lst us)/\aC F3 us xs/\F3 a=none:=λi xs e=>by
   obtain⟨a,us,g1,g2,g3,g4⟩:=ar'.own i xs e;refine⟨a,us,g1,g2,?_,?_⟩
   ·rcases hn with hn|⟨_,hn⟩
    ·rw[kT hn];exact g3
    ·exact aC.kT hs g3 (ach.mp hn _ (List.mem_of_getElem? e))
   ·cases y:F3 a with
    | none=>rfl
    | some u=>rw[u2 a u y]at g4;cases g4
  have abp:∀(i:Nat) (o:O),d6[i]?=some (.obj o)->∃a,vs[i]?=some (.ref a)/\o.rep F3 H' a/\∀c∈o.fp a,F3 c=none/\H' c≠none:=λi o e=>by
   obtain⟨a,g1,g2,g3⟩:=ar'.obj i o e;rcases hn with hn|⟨_,hn⟩
   ·rw[kT hn];exact⟨a,g1,g2,g3⟩
   ·have:=ach.mp hn _ (List.mem_of_getElem? e)
    cases this
  have R3:=R.MR ra ea nd lk u1 u3 fm fn u4 abu abp;refine K v H' F3 (bE b) _ u1 R3 ?_ qq;cases b with
  | sh d =>
   have rr:Rep F' v d:=rr;show Rep F3 v d;rcases hn with hn|⟨hn,_⟩
   ·rw[kT hn];exact rr
   ·exact Rep.kT hs rr hn
  | own xs =>
   obtain⟨a,us,rfl,w1,w2,w3,w4⟩:=rr;refine⟨a,us,rfl,w1,?_,?_,(R.bW w4).1,?_⟩
   ·rcases hn with hn|⟨hn,_⟩
    ·rw[kT hn];exact w2
    ·exact aC.kT hs w2 hn
   ·cases y:F3 a with
    | none=>rfl
    | some u=>rw[u2 a u y]at w3;cases w3
   ·exact yO R ra ea nd lk w4
  | obj o =>
   obtain⟨a,rfl,w1,w2⟩:=rr;rcases hn with hn|⟨hn,_⟩
   ·rw[kT hn]
    exact⟨a,rfl,w1,λc hc=>⟨(w2 c hc).1,(w2 c hc).2.1,(R.bW (w2 c hc).2.2).1,yO R ra ea nd lk (w2 c hc).2.2⟩⟩
   ·cases hn
 ·exact q.elim
def JW(sp:iK)(t:ua):TX:=λσ Q=>t σ λas av=>my sp as av Q
theorem fN{x:Str}{sp:iK}{e:Expr}{es:List Expr}{t:ua}{p pos:Pos}(h:qT G k x sp)(ha:G3 G k S (e::es) t)(hg:S.sc.lookup x=some .globalImplicit:=by rfl)(jx:(x==("__debug__":Str))=false:=by decide)
  (he:∀env,ab7 (e::es) env=(false,eval e env)::ab7 es env:=by exactλ_=>Vc.cM rfl) (dm:∀env,(backTo pos (ab7 es env)).any (·.1)=false:=by intro _;rfl) (hh:S.jl=false:=by rfl):EX G k S (.Call (.Name x p) (e::es) [] pos) (JW sp t):=.mk λX Y ok=>by
 obtain⟨f,fd,ps,h1,h2,h3,h4⟩:=h;have vt:ck X.prog X.w X.K X.mg X.base iA k f fd ps (dh sp):=by rw[ok.P,ok.w,ok.K,ok.mg,ok.base];exact h1
 refine aO (jM (E:=E0) (dvs:=[]) (ds:=[]) vt (ok.room hh) (dy ok hg) (by rw[ok.mg];exact h2) (by rw[ok.K];exact h3) (by rw[ok.K];exact h4) .nil jL (ha.run X Y ok) jx (he _) (dm _)) λσ H Q q=>?_
 obtain⟨F,ah,Qd,R,q,K⟩:=q;refine⟨F,ah,_,R,q,λvs H1 F1 as av s1 R1 r1 q1=>?_⟩;show dh sp (vs++[]) H1 Q E0;rw[List.append_nil];exact gH R1 r1 q1 λv H' F' x aA s R' rx qx=>K v H' F' x aA (s1.trans s) R' rx qx
end Vc
namespace Vc
open PySem L2
variable [KF]
variable {G:GE}{k:Nat}{S:Stat}
def cE(n:Nat)(bs:List B):Sd:=bs.map some++List.replicate (n-bs.length) none
theorem cJ{α:Type}{xs:List α}{m i:Nat}{x:α}(h:(xs.map some++List.replicate m none)[i]?=some (some x)):xs[i]?=some x:=by
 rw[List.getElem?_append]at h
 split at h
 ·rw[acb]at h
  obtain⟨y,h1,h2⟩:=Option.map_eq_some_iff.mp h;cases h2;exact h1
 ·rw[List.getElem?_replicate]at h
  split at h<;>cases h
theorem oU{α:Type}{xs:List α}{m i:Nat}{x:α}(h:xs[i]?=some x):(xs.map some++List.replicate m none)[i]?=some (some x):=by
 rw[List.getElem?_append_left (by rw[abZ];exact(ab2.mp h).1),acb,h];rfl
def rX(vs:List V)(bs:List B):List (Nat×Addr):=(List.range bs.length).filterMap λ(i:Nat)=>match bs[i]?,vs[i]? with
 | some (.own _),some (.ref a)=>some (i,a)
 | _,_=>none
def vX(vs:List V)(bs:List B):List Addr:=(List.range bs.length).flatMap λ(i:Nat)=>match bs[i]?,vs[i]? with
 | some (.obj o),some (.ref a)=>o.fp a
 | _,_=>[]
theorem eg{vs:List V}{bs:List B}{i:Nat}{a:Addr}:(i,a)∈rX vs bs ↔ ∃xs,bs[i]?=some (.own xs)/\vs[i]?=some (.ref a):=by
 unfold rX;rw[List.mem_filterMap];constructor
 ·rintro⟨j,_,h⟩
  split at h
  ·rename_i xs b e1 e2
   cases h;exact⟨xs,e1,e2⟩
  ·cases h
 ·rintro⟨xs,e1,e2⟩
  exact⟨i,List.mem_range.mpr (ab2.mp e1).1,by rw[e1,e2]⟩
theorem jE{vs:List V}{bs:List B}{c:Addr}:c∈vX vs bs ↔ ∃(i:Nat) (o:O) (a:Addr),bs[i]?=some (.obj o)/\vs[i]?=some (.ref a)/\c∈o.fp a:=by
 unfold vX;rw[List.mem_flatMap];constructor
 ·rintro⟨j,_,h⟩
  split at h
  ·rename_i o b e1 e2
   exact⟨j,o,b,e1,e2,h⟩
  ·cases h
 ·rintro⟨i,o,a,e1,e2,e3⟩
  exact⟨i,List.mem_range.mpr (ab2.mp e1).1,by rw[e1,e2];exact e3⟩
theorem rN{vs:List V}{bs:List B}{F H:Hp}{c:Addr}:c∈(bz.mk H F (rX vs bs) (vX vs bs)).zf ↔ iB vs bs c:=by
 unfold bz.zf iB;rw[List.mem_append,jE,List.mem_map];constructor
 ·rintro(⟨⟨i,a⟩,h1,h2⟩|h)
  ·have h2:a=c:=h2
   subst h2;obtain⟨xs,e1,e2⟩:=eg.mp h1;exact .inl ⟨i,xs,e1,e2⟩
  ·exact .inr h
 ·rintro(⟨i,xs,e1,e2⟩|h)
  ·exact .inl ⟨(i,c),eg.mpr ⟨xs,e1,e2⟩,rfl⟩
  ·exact .inr h
theorem RS.cE{F H:Hp}{vs:List V}{bs:List B}(n:Nat)(s:mv F H)(r:iH F H vs bs):RS ⟨H,F,rX vs bs,vX vs bs⟩ F (Vc.cE n bs) (vs.map some++List.replicate (n-vs.length) none) H where
 len:=by unfold Vc.cE;simp [r.len]
 lo:=ao.refl _
 fr:=s.1
 eS:=λb o e=>.inl e
 old:=λb o e _=>e
 sh:=λi d e=>by
  obtain⟨v,h1,h2⟩:=r.sh i d (cJ e);exact⟨v,oU h1,h2⟩
 own:=λi xs e=>by
  obtain⟨a,us,h1,h2,h3,h4⟩:=r.own i xs (cJ e);exact⟨a,us,oU h1,h2,h3,h4,.inr (List.mem_map.mpr ⟨(i,a),eg.mpr ⟨xs,cJ e,h1⟩,rfl⟩)⟩
 dis:=λi j xs ys a e1 e2 e3 e4=>r.dis i j xs ys a (cJ e1) (cJ e2) (cJ e3) (cJ e4)
 io:=λp hp=>by
  obtain⟨i,a⟩:=p;obtain⟨xs,e1,e2⟩:=eg.mp hp;exact⟨oU e2,xs,oU e1⟩
 ob:=by
  refine⟨λi o e=>?_,λi j o p a b e1 e2 e3 e4 lu=>r.o8 i j o p a b (cJ e1) (cJ e2) (cJ e3) (cJ e4) lu,λj xs b e1 e2 ⟨i,o,a,e3,e4,hm⟩=>r.gv i j xs o a b (cJ e1) (cJ e2) (cJ e3) (cJ e4) hm,λb hb=>?_,λb hb=>?_,s.2⟩
  ·obtain⟨a,h1,h2,h3⟩:=r.obj i o (cJ e)
   exact⟨a,oU h1,h2,λc hc=>⟨(h3 c hc).1,(h3 c hc).2,.inr (jE.mpr ⟨i,o,a,cJ e,h1,hc⟩)⟩⟩
  ·obtain⟨i,o,a,e1,e2,e3⟩:=jE.mp hb
   obtain⟨a',h1,_,h3⟩:=r.obj i o e1;rw[e2]at h1;cases h1;exact(h3 b e3).2
  ·obtain⟨i,o,a,e1,e2,e3⟩:=jE.mp hb
   obtain⟨a',h1,_,h3⟩:=r.obj i o e1;rw[e2]at h1;cases h1;exact(h3 b e3).2
def gF:Nat->List B->List B->Sd->Prop
 | i,.sh _::bs,_::cs,σ=>gF (i+1) bs cs σ
 | i,.own _::bs,c::cs,σ=>σ[i]?=some (some c)/\gF (i+1) bs cs σ
 | i,.obj _::bs,c::cs,σ=>σ[i]?=some (some c)/\gF (i+1) bs cs σ
 | _,_,_,_=>True
theorem gF.at{σ:Sd}:∀ {bs cs:List B} {i j:Nat} {b c:B},gF i bs cs σ->bs[j]?=some b->(∀d,b≠.sh d)->cs[j]?=some c->σ[i+j]?=some (some c)
 | [],_,_,_,_,_,_,e,_,_=>by simp at e
 | _::_,[],_,_,_,_,_,_,_,e=>by simp at e
 | .sh d::bs,c'::cs,i,0,b,c,h,e,n,e'=>by simp at e;exact absurd e.symm (n d)
 | .own xs::bs,c'::cs,i,0,b,c,h,e,n,e'=>by simp at e';subst e';exact h.1
 | .obj o::bs,c'::cs,i,0,b,c,h,e,n,e'=>by simp at e';subst e';exact h.1
 | .sh d::bs,c'::cs,i,j+1,b,c,h,e,n,e'=>by
  have:=gF.at (i:=i+1) (j:=j) h (by simpa using e) n (by simpa using e')
  rw[show i+(j+1)=i+1+j by omega];exact this
 | .own xs::bs,c'::cs,i,j+1,b,c,h,e,n,e'=>by
  have:=gF.at (i:=i+1) (j:=j) h.2 (by simpa using e) n (by simpa using e')
  rw[show i+(j+1)=i+1+j by omega];exact this
 | .obj o::bs,c'::cs,i,j+1,b,c,h,e,n,e'=>by
  have:=gF.at (i:=i+1) (j:=j) h.2 (by simpa using e) n (by simpa using e')
  rw[show i+(j+1)=i+1+j by omega];exact this
def wZ(bs:List B)(Q:B->List B->Prop)(b:B)(σ:Sd):Prop:=∃d6,dj bs d6/\gF 0 bs d6 σ/\Q b d6
theorem Ca{F F' H H':Hp}{vs:List V}{bs d6:List B}{ah:Sd}{σ:St}(r:iH F H vs bs)(s:ao F F')(R:RS ⟨H,F,rX vs bs,vX vs bs⟩ F' ah σ H')(lk:dj bs d6)(mg:gF 0 bs d6 ah):iH F' H' vs d6:=by
 have abv:∀ {i:Nat} {ys:List D},d6[i]?=some (.own ys)->∃a us,vs[i]?=some (.ref a)/\H' a=some (.lst us)/\aC F' us ys/\F' a=none:=λ{i ys} e=>by
  obtain⟨xs,h1⟩:=lk.A9 e;have h2:=mg.at h1 (λd z=>nomatch z) e;rw[Nat.zero_add]at h2;obtain⟨a,us,g1,g2,g3,g4,g5⟩:=R.own i ys h2;obtain⟨a0,L0,f1,_⟩:=r.own i xs h1;have f2:=(R.io (i,a0) (eg.mpr ⟨xs,h1,f1⟩)).1;have f2:σ[i]?=some (some (.ref a0)):=f2;rw[g1]at f2;cases f2;exact⟨a,us,f1,g2,g3,g4⟩
 have abq:∀ {i:Nat} {p:O},d6[i]?=some (.obj p)->∃a,vs[i]?=some (.ref a)/\p.rep F' H' a/\∀c∈p.fp a,F' c=none/\H' c≠none:=λ{i p} e=>by
  obtain⟨o,h1,h3,h4,h5⟩:=lk.A2 e;have h2:=mg.at h1 (λd z=>nomatch z) e;rw[Nat.zero_add]at h2;obtain⟨a,g1,g2,g3⟩:=R.ob.obj i p h2;obtain⟨a0,f1,f2,_⟩:=r.obj i o h1;cases hl:o.loc with
  | none=>exact absurd hl h5
  | some l =>
   have e1:=o.IL f2 hl;have e2:=p.IL g2 (h4.trans hl);subst e1;subst e2;exact⟨a,f1,g2,λc hc=>⟨(g3 c hc).1,(g3 c hc).2.1⟩⟩
 refine⟨r.len.trans lk.len,λi d e=>?_,λi ys e=>abv e,λi p e=>abq e,λi j xs ys a e1 e2 e3 e4=>?_,λi j o p a b e1 e2 e3 e4 lu c hc Hb=>?_,λi j xs o a b e1 e2 e3 e4 hm=>?_⟩
 ·obtain⟨v,h1,h2⟩:=r.sh i d (lk.shr e)
  exact⟨v,h1,h2.mono s⟩
 ·obtain⟨xs',h1⟩:=lk.A9 e1
  obtain⟨ys',h2⟩:=lk.A9 e2;exact r.dis i j xs' ys' a h1 h2 e3 e4
 ·obtain⟨o',h1,h2,_⟩:=lk.A2 e1
  obtain⟨p',h3,h4,_⟩:=lk.A2 e2;exact r.o8 i j o' p' a b h1 h3 e3 e4 lu c (by rw[<- h2];exact hc) (by rw[<- h4];exact Hb)
 ·obtain⟨xs',h1⟩:=lk.A9 e1
  obtain⟨o',h2,h3,_⟩:=lk.A2 e3;exact r.gv i j xs' o' a b h1 e2 h2 e4 (by rw[<- h3];exact hm)
theorem Lf{x qual:Str}{st:Stmt}{f:Addr}{fd:FuncData}{N ps:List Str}{sp:iK}{t:b5}{ios:List Nat}(hK:G.K=KF.K)(Fn:Bq G.K x qual st f fd)(Sc:aB N ps (ag st))(ht:dr G k ⟨N,(ag st).names,ios,false,false,false,λ_ _=>False⟩ (ak st) t)
  (len:∀bs Q,sp bs Q->bs.length=ps.length) (Ew:∀bs Q,sp bs Q->∀(i:Nat) (xs:List D),bs[i]?=some (.own xs)->i∈ios) (cy:ios≠[])
  (body:∀bs Q,sp bs Q->t {nx:=wZ bs Q (.sh .aQ),rt:=λb σ=>wZ bs Q b σ} (cE N.length bs)):ck G.P G.w G.K G.mg G.base iA (k+1) f fd ps (dh sp):=by
 refine Fn.ok Sc (λvs H Q E h=>?_) (λh9 A outer s H vs Q E hr h=>?_)
 ·obtain⟨F,bs,Qd,s,r,q,K⟩:=h
  rw[r.len];exact len _ _ q
 ·obtain⟨F,bs,Qd,sm,r,q,K⟩:=h
  refine⟨_,ht (nJ iA G.P G.w G.K G.mg G.base N qual (ag st) f h9 A outer s H E).IZ ⟨H,F,rX vs bs,vX vs bs⟩ ⟨rfl,rfl,rfl,hK,rfl,rfl,rfl,rfl,Sc.nd,λp hp=>by
   obtain⟨i,a⟩:=p;obtain⟨xs,e1,_⟩:=eg.mp hp;exact Ew _ _ q i xs e1,(λ_ h=>absurd h cy),λ_=>rfl,Sc.kind,λ_ _ _=>rfl,λ_=>hr.hd,hr.dp,hr.un,λ_=>PassesOwn.never,λ_=>⟨rfl,rfl,rfl⟩,λ_ _ h=>h.elim,λh=>nomatch h⟩,F,cE N.length bs,_,RS.cE _ sm r,body bs Qd q,?_⟩
  have fin:∀ {F':Hp} {ah:Sd} {σ:St} {H':Hp} {v:V} {b:B},ao F F'->RS ⟨H,F,rX vs bs,vX vs bs⟩ F' ah σ H'->B6 H F' H' v b->wZ bs Qd b ah->Q v H':=λ{F' ah σ H' v b} s' R' r' q'=>by
   obtain⟨d6,lk,mg,q'⟩:=q';have ar:=Ca r s' R' lk mg;refine K v H' F' b d6 s' R'.fr (λc o z e=>R'.old c o e λy=>z (rN.mp y)) (λc z=>?_) ar lk R'.eS r' q';rcases z with⟨i,xs,e1,e2⟩|⟨i,o,a,e1,e2,e3⟩
   ·obtain⟨ys,h1⟩:=lk.Zd e1
    obtain⟨a,us,g1,g2,_⟩:=ar.own i ys h1;rw[e2]at g1;cases g1;rw[g2];exactλy=>nomatch y
   ·obtain⟨p,h1,h2,_⟩:=lk.abr e1
    obtain⟨a',g1,_,g3⟩:=ar.obj i p h1;rw[e2]at g1;cases g1;exact(g3 c (by rw[h2];exact e3)).2
  refine⟨λσ H' F' ah s' R' q'=>?_,λv σ H' F' ah b s' R' r' q'=>?_,λ_ _ _ _ _ _ h=>h.elim,λ_ _ _ _ _ _ h=>h.elim⟩
  ·exact fin (b:=.sh .aQ) s' R' .aQ q'
  ·refine fin (b:=b) s' R' ?_ q'
   cases b with
   | sh d=>exact r'
   | own xs =>
    obtain⟨a,us,rfl,w1,w2,w3,w4,w5⟩:=r';exact⟨a,us,rfl,w1,w2,w3,w4⟩
   | obj o =>
    obtain⟨a,rfl,w1,w2⟩:=r';exact⟨a,rfl,w1,λb hb=>⟨(w2 b hb).1,(w2 b hb).2.1,(w2 b hb).2.2.1⟩⟩
theorem cY.fmu{x:Str}{st:Stmt}{ps N:List Str}{f:Addr}{fd:FuncData}{t:b5}{sp:iK}{ios:List Nat}(d:cY G x st ps f fd)(hK:G.K=KF.K)(Sc:aB N ps (ag st))(ht:dr G k ⟨N,(ag st).names,ios,false,false,false,λ_ _=>False⟩ (ak st) t)
  (len:∀bs Q,sp bs Q->bs.length=ps.length) (Ew:∀bs Q,sp bs Q->∀(i:Nat) (xs:List D),bs[i]?=some (.own xs)->i∈ios) (cy:ios≠[])
  (body:∀bs Q,sp bs Q->t {nx:=wZ bs Q (.sh .aQ),rt:=λb σ=>wZ bs Q b σ} (cE N.length bs)):qT G (k+1) x sp:=
 ⟨f,fd,ps,Lf hK d.F Sc ht len Ew cy body,d.m,d.F.kp,d.b⟩
end Vc
namespace Vc
open PySem L2
variable [KF]
abbrev kC:Addr:=KF.cls "Kept"
def gw(a dx ad:Addr)(w:Str)(c e:Int)(kvs:List (Int×D)):O where
 fp:=λb=>[b,dx,ad]
 rep:=λF H b=>b=a/\H a=some (.ins kC dx (Hh w c e ad))/\H dx=some (.own a)/\∃ks,H ad=some (.dK ks)/\b6 F ks kvs
 self:=λa=>.head _
 solid:=λ{F H b c' φ} ⟨e0,h1,h2,ks,h3,_⟩ hb z=>by
  subst e0;simp only[ab6,ack,or_false]at hb;rcases hb with rfl|rfl|rfl
  ·rw[h1]at z;cases z
  ·rw[h2]at z;cases z
  ·rw[h3]at z;cases z
 nt:=λ{F H b c' vs} ⟨e0,h1,h2,ks,h3,_⟩ hb z=>by
  subst e0;simp only[ab6,ack,or_false]at hb;rcases hb with rfl|rfl|rfl
  ·rw[h1]at z;cases z
  ·rw[h2]at z;cases z
  ·rw[h3]at z;cases z
 mono:=λ{F F' H H' b} s e ⟨e0,h1,h2,ks,h3,r⟩=>by
  subst e0;exact⟨rfl,by rw[e b (by simp)];exact h1,by rw[e dx (by simp)];exact h2,ks,by rw[e ad (by simp)];exact h3,r.mono s⟩
 view:=some (.kp w c e kvs)
 sees:=λ{F H b d} ⟨e0,h1,h2,ks,h3,r⟩ q=>by cases q;subst e0;exact⟨b,dx,ad,ks,rfl,h1,h3,r⟩
 lend:=λ{F H b d} s ⟨e0,h1,h2,ks,h3,r⟩ q=>by
  cases q;subst e0;obtain⟨F1,s1,s2,e1,e2⟩:=dA s h1;obtain⟨F2,s3,s4,e3,e4⟩:=dA s2 h3;refine⟨F2,s1.trans s3,s4,.kp (s3 _ _ e1) e3 (r.mono (s1.trans s3)),λc u z=>?_⟩;rcases e4 c u z with z|⟨rfl,rfl⟩
  ·rcases e2 c u z with z|⟨rfl,rfl⟩
   ·exact .inl z
   ·exact .inr ⟨rfl,by simp⟩
  ·exact .inr ⟨rfl,by simp⟩
 loc:=some a
 IL:=λ{F H b c'} ⟨e0,_⟩ q=>by cases q;exact e0
variable {G:GE}{k:Nat}{S:Stat}
structure KG(G:GE):Prop where
 cls:Bx G.K kC
 no:∀f:Str,f∈(["way","count","points_by_name","ever_put"]:List Str)->iY G.K kC f
def O3(f:Str)(w:Str)(c e:Int):Option D:=if f="way" then some (.str w)else if f="count" then some (.int c)else if f="ever_put" then some (.int e)else none
def UG(f:Str)(t:TV):TV:=λσ Q=>t σ λx av=>match cS av x with
 | some (.kp w c e kvs)=>∃d,O3 f w c e=some d/\Q (.val d) av
 | _=>False
theorem II{f:Str}{w:Str}{c e:Int}{ad:Addr}{d:D}(h:O3 f w c e=some d):∃v,(Hh w c e ad).lookup f=some v/\(∀F:Hp,Rep F v d)/\f∈(["way","count","points_by_name","ever_put"]:List Str):=by
 unfold O3 at h
 by_cases h1:f="way"
 ·subst h1
  rw[if_pos rfl]at h;cases h;exact⟨.str w,rfl,λ_=>.str w,by simp⟩
 ·rw[if_neg h1]at h
  by_cases h2:f="count"
  ·subst h2
   rw[if_pos rfl]at h;cases h;exact⟨.int c,rfl,λ_=>.int c,by simp⟩
  ·rw[if_neg h2]at h
   by_cases h3:f="ever_put"
   ·subst h3
    rw[if_pos rfl]at h;cases h;exact⟨.int e,rfl,λ_=>.int e,by simp⟩
   ·rw[if_neg h3]at h;cases h
theorem FG{o:Expr}{t:TV}{f:Str}{pos:Pos}(kg:KG G)(h:EO G k S o t)(hb:∀env,attributeBase o f env (eval o env)=eval o env:=by intro _;rfl):EO G k S (.Attribute o f pos) (UG f t):=.mk λX Y ok =>
 aO (sk (h X Y ok) (hb _)) λσ H Q q=>by
  obtain⟨F,ah,Qd,R,q,K⟩:=q;refine⟨F,ah,_,R,q,λv1 H1 F1 x av s1 R1 r1 q1=>?_⟩
  split at q1
  ·rename_i w c e kvs ed
   obtain⟨d,hd,q1⟩:=q1;obtain⟨a,dx,ad,ks,rfl,h1,h2,_⟩:=R1.cS r1 ed;obtain⟨v,g1,g2,g3⟩:=II (ad:=ad) hd;exact⟨a,kC,dx,_,v,rfl,h1,by rw[ok.K];exact kg.cls,by rw[ok.K];exact kg.no f g3,g1,K v H1 F1 (.val d) av s1 R1 (g2 F1) q1⟩
  ·exact q1.elim
def VF(t:TD):TV:=λσ Q=>t σ λx av=>match x with
 | .kp w c e kvs=>Q (.val (.dM kvs)) av
 | _=>False
theorem JI{o:Expr}{t:TD}{pos:Pos}(kg:KG G)(h:ED G k S o t)(hb:∀env,attributeBase o "points_by_name" env (eval o env)=eval o env:=by intro _;rfl):EO G k S (.Attribute o "points_by_name" pos) (VF t):=.mk λX Y ok =>
 aO (sk (h X Y ok) (hb _)) λσ H Q q=>by
  obtain⟨F,ah,Qd,R,q,K⟩:=q;refine⟨F,ah,_,R,q,λv1 H1 F1 x av s1 R1 r1 q1=>?_⟩
  split at q1
  ·rename_i w c e kvs
   cases(show Rep F1 v1 (.kp w c e kvs)from r1)with
   | @kp a dx ad _ _ _ ks _ h1 h2 r =>
    exact⟨a,kC,dx,_,.ref ad,rfl,R1.fr _ _ h1,by rw[ok.K];exact kg.cls,by rw[ok.K];exact kg.no _ (by simp),rfl,K _ H1 F1 (.val (.dM kvs)) av s1 R1 (.dM h2 r) q1⟩
  ·exact q1.elim
theorem RS.kpW{Y:bz}{F:Hp}{ah:Sd}{σ:St}{H:Hp}{i:Nat}{a dx ad:Addr}{w:Str}{c e e':Int}{kvs Yt:List (Int×D)}{u:HO}{b:Addr}(R:RS Y F ah σ H)(q:ah[i]?=some (some (.obj (gw a dx ad w c e kvs))))(h:σ[i]?=some (some (.ref a)))(hb:b∈[a,dx,ad])
  (hr:(gw a dx ad w c e' Yt).rep F (upd H b u) a):RS Y F (ah.set i (some (.obj (gw a dx ad w c e' Yt)))) σ (upd H b u):=R.gQ q h hb (λ_ z=>z) hr
def tKP(i:Nat)(tk:TV)(tv:TD):b5:=λDe σ=>tv σ λd av=>(∃a dx ad w c e kvs,av[i]?=some (some (.obj (gw a dx ad w c e kvs))))/\tk av λy aL=>match cS aL y with
 | some (.int j)=>∃a dx ad w c e kvs,aL[i]?=some (some (.obj (gw a dx ad w c e kvs)))/\aL[i]?=av[i]?/\kvs.length<aca/\De.nx (aL.set i (some (.obj (gw a dx ad w c e (xJ kvs j d)))))
 | _=>False
theorem Tq(i:Nat){x:Str}{ke ve:Expr}{tk:TV}{tv:TD}{np ap pos' pos:Pos}(kg:KG G)(hv:ED G k S ve tv)(hk:EO G k S ke tk)(ho:EO G k S (.Name x np) (J4 i))(hb:∀env,attributeBase (.Name x np) "points_by_name" env (eval (.Name x np) env)=eval (.Name x np) env:=by intro _;rfl)
  (hs:∀line env,swapsWith ve (some (.Subscript (.Attribute (.Name x np) "points_by_name" ap) ke pos')) line env=pure false:=by intro _ _;rfl):
  ES G k S (.Assign [.Subscript (.Attribute (.Name x np) "points_by_name" ap) ke pos'] ve pos) (tKP i tk tv):=.mk λX Y ok =>
 cf (zJ (by have:=ok.units;omega) (sk (ho X Y ok) (hb _)) (hk X Y ok) (hv X Y ok) (hs _ _)) λDn σ H q=>by
  obtain⟨F,ah,De,R,q,K⟩:=q;refine⟨F,ah,_,R,q,λv H1 F1 d av s1 R1 r1 q1=>?_⟩;obtain⟨⟨a0,dx0,ad0,w0,c0,e0,IK,Vj⟩,q1⟩:=q1;refine⟨F1,av,λx mn=>x=.var i/\mn=av,R1,⟨⟨_,Vj⟩,rfl,rfl⟩,λv2 H2 F2 y aL s2 R2 r2 q2=>?_⟩;obtain⟨rfl,rfl⟩:=q2;have r2:σ[i]?=some (some v2):=r2;obtain⟨b0,w1,⟨rfl,g1,g2,L0,g3,g4⟩,_⟩:=R2.ob.obj i _ Vj;rw[r2]at w1;cases w1;refine⟨b0,kC,dx0,_,.ref ad0,rfl,g1,by rw[ok.K];exact kg.cls,by rw[ok.K];exact kg.no _ (by simp),rfl,F2,aL,_,R2,q1,λv3 H3 F3 kd eY s3 R3 r3 q3=>?_⟩
  split at q3
  ·rename_i j ej
   obtain rfl:=(R3.cS r3 ej).int;obtain⟨a,dx,ad,w,c,e,kvs,eq,eqq,hl,q3⟩:=q3;have eq':(B.obj (gw a dx ad w c e kvs))=.obj (gw b0 dx0 ad0 w0 c0 e0 IK):=by rw[eq,Vj]at eqq;exact Option.some.inj (Option.some.inj eqq)
   obtain⟨b,w1,⟨rfl,y1,y2,us,y3,y4⟩,_⟩:=R3.ob.obj i _ eq;rw[r2]at w1;cases w1;have efp:(gw b0 dx ad w c e kvs).fp b0=(gw b0 dx0 ad0 w0 c0 e0 IK).fp b0:=by
    have:=congrArg (λb=>match b with|B.obj o=>o.fp b0|_=>[]) eq'
    exact this
   have efp:[b0,dx,ad]=[b0,dx0,ad0]:=efp;simp only[List.cons.injEq,and_true,true_and]at efp;obtain⟨rfl,rfl⟩:=efp;have n1:b0≠ad:=fu y1 y3 (λz=>nomatch z);have n2:dx≠ad:=fu y2 y3 (λz=>nomatch z);refine⟨ad,_,rfl,.k (k:=.inl j) y3 (by rw[y4.length];exact hl),K.nx σ _ F3 _ ((s1.trans s2).trans s3) (R3.kpW eq r2 (by simp) ⟨rfl,?_,?_,_,ay,y4.put j (r1.mono (s2.trans s3))⟩) q3⟩
   ·rw[aq n1];exact y1
   ·rw[aq n2];exact y2
  ·exact q3.elim
def tKE(i:Nat)(tv:TV):b5:=λDe σ=>tv σ λx av=>match cS av x with
 | some (.int j)=>∃a dx ad w c e kvs,av[i]?=some (some (.obj (gw a dx ad w c e kvs)))/\De.nx (av.set i (some (.obj (gw a dx ad w c j kvs))))
 | _=>False
theorem Bg(w:Str)(c e j:Int)(ad:Addr):cP "ever_put" (.int j) (Hh w c e ad)=Hh w c j ad:=by
 unfold Hh;simp only[cP];rw[if_neg ∅,if_neg ∅,if_neg ∅]
 simp
theorem JN(i:Nat){x:Str}{ve:Expr}{tv:TV}{np ap pos:Pos}(kg:KG G)(hv:EO G k S ve tv)(ho:EO G k S (.Name x np) (J4 i))(hs:∀line env,swapsWith ve (some (.Attribute (.Name x np) "ever_put" ap)) line env=pure false:=by intro _ _;rfl):
  ES G k S (.Assign [.Attribute (.Name x np) "ever_put" ap] ve pos) (tKE i tv):=.mk λX Y ok =>
 cf (sx (ho X Y ok) (hv X Y ok) (hs _ _)) λDn σ H q=>by
  obtain⟨F,ah,De,R,q,K⟩:=q;refine⟨F,ah,_,R,q,λv H1 F1 y av s1 R1 r1 q1=>?_⟩
  split at q1
  ·rename_i j ej
   obtain rfl:=(R1.cS r1 ej).int;obtain⟨a,dx,ad,w,c,e,kvs,eq,q1⟩:=q1;refine⟨F1,av,λx mn=>x=.var i/\mn=av,R1,⟨⟨_,eq⟩,rfl,rfl⟩,λv2 H2 F2 y aL s2 R2 r2 q2=>?_⟩;obtain⟨rfl,rfl⟩:=q2;have r2:σ[i]?=some (some v2):=r2;obtain⟨b,w1,⟨rfl,y1,y2,us,y3,y4⟩,_⟩:=R2.ob.obj i _ eq;rw[r2]at w1;cases w1;have n1:dx≠b:=fu y2 y1 (λz=>nomatch z);have n2:ad≠b:=fu y3 y1 (λz=>nomatch z);refine⟨b,kC,dx,_,rfl,y1,by rw[ok.K];exact kg.cls,by rw[ok.K];exact kg.no _ (by simp),by show 4<1000;decide,?_⟩
   rw[Bg];exact K.nx σ _ F2 _ (s1.trans s2) (R2.kpW eq r2 (by simp) ⟨rfl,ay,by rw[aq n1];exact y2,us,by rw[aq n2];exact y3,y4⟩) q1
  ·exact q1.elim
def tKD(i:Nat)(tk:TV):b5:=λDe σ=>∃a dx ad w c e kvs,σ[i]?=some (some (.obj (gw a dx ad w c e kvs)))/\tk σ λy aL=>match cS aL y with
 | some (.int j)=>aL[i]?=some (some (.obj (gw a dx ad w c e kvs)))/\(dn kvs j).isSome=true/\De.nx (aL.set i (some (.obj (gw a dx ad w c e (iT kvs j)))))
 | _=>False
theorem Tp(i:Nat){x:Str}{ke:Expr}{tk:TV}{np bp ap cp pos:Pos}(kg:KG G)(hk:EO G k S ke tk)(ho:EO G k S (.Name x np) (J4 i))(hb:∀env,attributeBase (.Name x np) "points_by_name" env (eval (.Name x np) env)=eval (.Name x np) env:=by intro _;rfl)
  (m:∀X:Cx,M1 X (.Attribute (.Name x np) "points_by_name" bp) "pop" ap ke cp:=by intro X;exact⟨rfl,rfl,rfl,rfl⟩):
  ES G k S (.Expr (.Call (.Attribute (.Attribute (.Name x np) "points_by_name" bp) "pop" ap) [ke] [] cp) pos) (tKD i tk):=.mk λX Y ok =>
 cf (sv (vY (sk (ho X Y ok) (hb _)) (hk X Y ok) (m X)) rfl) λDn σ H q=>by
  obtain⟨F,ah,De,R,⟨a,dx,ad,w,c,e,kvs,Vj,q⟩,K⟩:=q;refine⟨F,ah,λx mn=>x=.var i/\mn=ah,R,⟨⟨_,Vj⟩,rfl,rfl⟩,λv2 H2 F2 y aL s2 R2 r2 q2=>?_⟩;obtain⟨rfl,rfl⟩:=q2;have r2:σ[i]?=some (some v2):=r2;obtain⟨b0,w1,⟨rfl,g1,g2,L0,g3,g4⟩,_⟩:=R2.ob.obj i _ Vj;rw[r2]at w1;cases w1;refine⟨b0,kC,dx,_,.ref ad,rfl,g1,by rw[ok.K];exact kg.cls,by rw[ok.K];exact kg.no _ (by simp),rfl,ad,rfl,.inl ⟨_,.inl g3⟩,F2,aL,_,R2,q,λv3 H3 F3 kd eY s3 R3 r3 q3=>?_⟩
  split at q3
  ·rename_i j ej
   obtain rfl:=(R3.cS r3 ej).int;obtain⟨eq,hl,q3⟩:=q3;obtain⟨b,w1,⟨_,y1,y2,us,y3,y4⟩,_⟩:=R3.ob.obj i _ eq;have n1:b0≠ad:=fu y1 y3 (λz=>nomatch z);have n2:dx≠ad:=fu y2 y3 (λz=>nomatch z);rcases y4.val j with⟨_,e2⟩|⟨v,d',e1,e2,rd⟩
   ·rw[e2]at hl;cases hl
   ·exact⟨us,.inl j,v,y3,rfl,e1,K.nx σ _ F3 _ (s2.trans s3) (R3.kpW eq r2 (by simp) ⟨rfl,by rw[aq n1];exact y1,by rw[aq n2];exact y2,_,ay,y4.drop j⟩) q3⟩
  ·exact q3.elim
end Vc
namespace Vc
open PySem L2
variable [KF]
variable {G:GE}{k:Nat}{S:Stat}
structure o7(G:GE)(m qual:Str)(st:Stmt)(ps:List Str)(f:Addr)(fd:FuncData):Prop where
 F:Bq G.K m qual st f fd
 mt:Meth G.K kC m f
 b:Binds G.K fd ps []
def cG(G:GE)(k:Nat)(m:Str)(sp:iK):Prop:=∃f fd ps,ck G.P G.w G.K G.mg G.base iA k f fd ps (dh sp)/\Meth G.K kC m f/\Binds G.K fd ps []
theorem cG.mono{x:Str}{sp:iK}{j:Nat}(h:cG G j x sp)(l:j<=k):cG G k x sp:=by
 obtain⟨f,fd,ps,h1,h2,h3⟩:=h;exact⟨f,fd,ps,h1.mono l,h2,h3⟩
theorem YB{f:Addr}{fd:FuncData}{ps:List Str}{sp:bq}(h1:ck G.P G.w G.K G.mg G.base iA k f fd ps (ym sp)):ck G.P G.w G.K G.mg G.base iA k f fd ps (dh (eX sp)):=by
 refine h1.imp λvs H Q E q=>?_;obtain⟨F,bs,Qd,s,r,⟨ds,rfl,q⟩,K⟩:=q;refine⟨F,ds,_,s,m8 r,q,λv H' F' b s1 s2 s3 fr rr qq=>K v H' F' b _ s1 s2 (λc o _ e=>s3 c o e) (λc z=>absurd z yW) (yM ((m8 r).mono s1)) (lJ λi o e=>?_) fr rr qq⟩;obtain⟨d,e1,_⟩:=cQ e;cases e1
theorem o7.fg{m qual:Str}{st:Stmt}{ps N:List Str}{f:Addr}{fd:FuncData}{t:b5}{sp:bq}(d:o7 G m qual st ps f fd)(hK:G.K=KF.K)(Sc:aB N ps (ag st))(ht:dr G k ⟨N,(ag st).names,[],false,false,false,λ_ _=>False⟩ (ak st) t)
  (len:∀ds Q,sp ds Q->ds.length=ps.length) (body:∀ds Q,sp ds Q->t {nx:=λ_=>Q (.sh .aQ),rt:=λb _=>Q b} (aP N.length ds)):cG G (k+1) m (eX sp):=
 ⟨f,fd,ps,YB (DN hK d.F Sc ht len body),d.mt,d.b⟩
theorem o7.fmu{m qual:Str}{st:Stmt}{ps N:List Str}{f:Addr}{fd:FuncData}{t:b5}{sp:iK}{ios:List Nat}(d:o7 G m qual st ps f fd)(hK:G.K=KF.K)(Sc:aB N ps (ag st))(ht:dr G k ⟨N,(ag st).names,ios,false,false,false,λ_ _=>False⟩ (ak st) t)
  (len:∀bs Q,sp bs Q->bs.length=ps.length) (Ew:∀bs Q,sp bs Q->∀(i:Nat) (xs:List D),bs[i]?=some (.own xs)->i∈ios) (cy:ios≠[])
  (body:∀bs Q,sp bs Q->t {nx:=wZ bs Q (.sh .aQ),rt:=λb σ=>wZ bs Q b σ} (cE N.length bs)):cG G (k+1) m sp:=
 ⟨f,fd,ps,Lf hK d.F Sc ht len Ew cy body,d.mt,d.b⟩
def uc(sp:iK)(to:TD)(t:ua):TX:=λσ Q=>to σ λx av=>(∃w c e kvs,x=.kp w c e kvs)/\t av λas aL=>my sp (.d x::as) aL Q
def PB(σ:Sd)(j:Nat):Prop:=∃o w c e kvs,σ[j]?=some (some (.obj o))/\o.view=some (.kp w c e kvs)
def VG(sp:iK)(j:Nat)(t:ua):TX:=λσ Q=>PB σ j/\t σ λas aL=>my sp (.n j::as) aL Q
def tMl(sp:iK)(j:Nat)(t:ua):TX:=λσ Q=>PB σ j/\t σ λas aL=>my sp (.l j::as) aL Q
theorem vH{w:Str}{c e:Int}{ad:Addr}{m:Str}(h:(["way","count","points_by_name","ever_put"]:List Str).contains m=false):(Hh w c e ad).lookup m=none:=by
 unfold Hh;simp only[List.contains_cons,List.contains_nil,Bool.or_false,Bool.or_eq_false_iff]at h;simp only[List.lookup,h.1,h.2.1,h.2.2.1,h.2.2.2]
section
variable {o e:Expr}{es:List Expr}{m:Str}{apos pos:Pos}{sp:iK}{to:TD}{t:ua}{pl:Env->Sem Bool}
theorem vL{X:Cx}{Y:bz}{C:Addr}(hm:(["way","count","points_by_name","ever_put"]:List Str).contains m=false)(hC:C=kC){σ:St}{H:Hp}{Q:VK}(q:lX Y (uc sp to t) σ H Q):qN C m (dh sp) [] E0 (lD Y to) (lAv Y t) σ H Q:=by
 subst hC;obtain⟨F,ah,Qd,R,q,K⟩:=q;refine⟨F,ah,_,R,q,λv1 H1 F1 x av s1 R1 r1 q1=>?_⟩;obtain⟨⟨w,c,e,kvs,rfl⟩,q1⟩:=q1;cases(show Rep F1 v1 (.kp w c e kvs)from r1)with
 | @kp a dx ad _ _ _ ks _ h1 h2 r =>
  refine⟨a,dx,_,rfl,R1.fr _ _ h1,vH hm,F1,av,_,R1,q1,λvs H2 F2 as aL s2 R2 r2 q2=>?_⟩;dsimp only;rw[List.append_nil];exact gH R2 (.d ((Rep.kp h1 h2 r).mono s2) r2) q2 λv H' F' x aA s R' rx qx=>K v H' F' x aA ((s1.trans s2).trans s) R' rx qx
theorem oF(h:cG G k m sp)(kg:KG G)(ho:ED G k S o to)(ha:G3 G k S (e::es) t)(hm:(["way","count","points_by_name","ever_put"]:List Str).contains m=false:=by decide)
  (En:∀env,ab7 (e::es) env=(false,eval e env)::ab7 es env:=by exactλ_=>Vc.cM rfl) (dm:∀env,(backTo pos (ab7 es env)).any (·.1)=false:=by intro _;rfl) (hh:S.jl=false:=by rfl)
  (ht:∀env,eval (.Call (.Attribute o m apos) (e::es) [] pos) env=(do
   let ov <- eval o env
   standAt apos.atName
   let (f,first) <- holding [ov] (getMethod ov m (pl env))
   callWith pos f first (backTo pos (ab7 (e::es) env)) (backToKw pos (keywordEach [] env))):=by intro _;rfl):EX G k S (.Call (.Attribute o m apos) (e::es) [] pos) (uc sp to t):=.mk λX Y ok=>by
 obtain⟨f,fd,ps,h1,h2,h3⟩:=h;have vt:ck X.prog X.w X.K X.mg X.base iA k f fd ps (dh sp):=by rw[ok.P,ok.w,ok.K,ok.mg,ok.base];exact h1
 exact aO (zF (pl:=pl X.env) (E:=E0) (dvs:=[]) (ds:=[]) (ho X Y ok) (by rw[ok.K];exact kg.cls) (by rw[ok.K];exact h2) vt (ok.room hh) (by rw[ok.K];exact h3) .nil jL (ha.run X Y ok) (En _) (dm _) (ht _)) λσ H Q q=>vL (X:=X) hm rfl q
theorem JT{Y:bz}{sp:iK}{to:TD}{C:Addr}{σ:St}{H:Hp}{Q:VK}(q:qN C m (dh sp) [] E0 (lD Y to) (lAv Y kP) σ H Q):qN C m (dh sp) [] E0 (lD Y to) lZ σ H Q:=by
 obtain⟨F,ah,Qd,R,q,K⟩:=q;refine⟨F,ah,Qd,R,q,λv H' F' x aA s R' r qq=>?_⟩;obtain⟨a,dx,fs,e1,e2,e3,F1,av,Q1,R1,q1,K1⟩:=K v H' F' x aA s R' r qq;exact⟨a,dx,fs,e1,e2,e3,K1 [] H' F1 [] av (ao.refl _) R1 .nil q1⟩
theorem fP(h:cG G k m sp)(kg:KG G)(ho:ED G k S o to)(hm:(["way","count","points_by_name","ever_put"]:List Str).contains m=false:=by decide)(hh:S.jl=false:=by rfl)
  (ht:∀env,eval (.Call (.Attribute o m apos) [] [] pos) env=(do
   let ov <- eval o env
   standAt apos.atName
   let (f,first) <- holding [ov] (getMethod ov m (pl env))
   callWith pos f first (backTo pos (ab7 [] env)) (backToKw pos (keywordEach [] env))):=by intro _;rfl):EX G k S (.Call (.Attribute o m apos) [] [] pos) (uc sp to kP):=.mk λX Y ok=>by
 obtain⟨f,fd,ps,h1,h2,h3⟩:=h;have vt:ck X.prog X.w X.K X.mg X.base iA k f fd ps (dh sp):=by rw[ok.P,ok.w,ok.K,ok.mg,ok.base];exact h1
 exact aO (Fd (pl:=pl X.env) (E:=E0) (dvs:=[]) (ds:=[]) (ho X Y ok) (by rw[ok.K];exact kg.cls) (by rw[ok.K];exact h2) vt (ok.room hh) (by rw[ok.K];exact h3) .nil jL (ht _)) λσ H Q q=>JT (vL (X:=X) hm rfl q)
end
section
variable {x:Str}{np:Pos}{e:Expr}{es:List Expr}{m:Str}{apos pos:Pos}{sp:iK}{t:ua}{pl:Env->Sem Bool}{j:Nat}
theorem EJ{Y:bz}{l:Bool}(hm:(["way","count","points_by_name","ever_put"]:List Str).contains m=false){σ:St}{H:Hp}{Q:VK}(q:lX Y (if l=true then tMl sp j t else VG sp j t) σ H Q):qN kC m (dh sp) [] E0 (aat j) (lAv Y t) σ H Q:=by
 obtain⟨F,ah,Qd,R,q,K⟩:=q;have q:PB ah j/\t ah λas aL=>my sp ((if l=true then AV.l j else AV.n j)::as) aL Qd:=by
  cases l with
  | true=>exact q
  | false=>exact q
 obtain⟨⟨o,w,c,e,kvs,e1,e2⟩,q⟩:=q;obtain⟨a,w1,w2,w3⟩:=R.ob.obj j o e1;obtain⟨a',dx,ad,ks,e3,h1,h2,_⟩:=o.sees w2 e2;cases e3;refine⟨.ref a,w1,a,dx,_,rfl,h1,vH hm,F,ah,_,R,q,λvs H2 F2 as aL s2 R2 r2 q2=>?_⟩;dsimp only;rw[List.append_nil];refine gH R2 ?_ q2 λv H' F' x aA s R' rx qx=>K v H' F' x aA (s2.trans s) R' rx qx;cases l with
 | true=>exact .l w1 r2
 | false=>exact .n w1 r2
theorem sG(l:Bool)(j:Nat)(h:cG G k m sp)(kg:KG G)(ha:G3 G k S (e::es) t)(hN:S.N[j]?=some x:=by rfl)(hv:S.sc.lookup x=some .local\/S.sc.lookup x=some .cell\/S.sc.lookup x=some .free:=by first|exact Or.inl rfl|exact Or.inr (Or.inl rfl)|exact Or.inr (Or.inr rfl))
  (hd:(x==("__debug__":Str))=false:=by decide) (mY:(x==("__classdict__":Str))=false:=by decide) (hm:(["way","count","points_by_name","ever_put"]:List Str).contains m=false:=by decide)
  (En:∀env,ab7 (e::es) env=(false,eval e env)::ab7 es env:=by exactλ_=>Vc.cM rfl) (dm:∀env,(backTo pos (ab7 es env)).any (·.1)=false:=by intro _;rfl) (hh:S.jl=false:=by rfl)
  (ht:∀env,eval (.Call (.Attribute (.Name x np) m apos) (e::es) [] pos) env=(do
   let ov <- eval (.Name x np) env
   standAt apos.atName
   let (f,first) <- holding [ov] (getMethod ov m (pl env))
   callWith pos f first (backTo pos (ab7 (e::es) env)) (backToKw pos (keywordEach [] env))):=by intro _;rfl):EX G k S (.Call (.Attribute (.Name x np) m apos) (e::es) [] pos) (if l=true then tMl sp j t else VG sp j t):=.mk λX Y ok=>by
 obtain⟨f,fd,ps,h1,h2,h3⟩:=h;have vt:ck X.prog X.w X.K X.mg X.base iA k f fd ps (dh sp):=by rw[ok.P,ok.w,ok.K,ok.mg,ok.base];exact h1
 exact aO (zF (pl:=pl X.env) (E:=E0) (dvs:=[]) (ds:=[]) (jg (X:=X) (i:=j) (by rw[ok.N];exact hN) (by unfold Hu;rw[ok.sc];exact hv) hd mY) (by rw[ok.K];exact kg.cls) (by rw[ok.K];exact h2) vt (ok.room hh) (by rw[ok.K];exact h3) .nil jL (ha.run X Y ok) (En _) (dm _) (ht _)) λσ H Q q=>EJ hm q
end
end Vc
namespace Vc
open PySem L2
variable [KF]
variable {G:GE}{k:Nat}{S:Stat}
def Bv(a dx:Addr)(fs:List (Str×V)):O where
 fp:=λb=>[b,dx]
 rep:=λF H b=>b=a/\H a=some (.ins kC dx fs)/\H dx=some (.own a)
 self:=λa=>.head _
 solid:=λ{F H b c' φ} ⟨e0,h1,h2⟩ hb z=>by
  subst e0;simp only[ab6,ack,or_false]at hb;rcases hb with rfl|rfl
  ·rw[h1]at z;cases z
  ·rw[h2]at z;cases z
 nt:=λ{F H b c' vs} ⟨e0,h1,h2⟩ hb z=>by
  subst e0;simp only[ab6,ack,or_false]at hb;rcases hb with rfl|rfl
  ·rw[h1]at z;cases z
  ·rw[h2]at z;cases z
 mono:=λ{F F' H H' b} s e ⟨e0,h1,h2⟩=>by
  subst e0;exact⟨rfl,by rw[e b (by simp)];exact h1,by rw[e dx (by simp)];exact h2⟩
def kqO(a dx ad:Addr)(fs:List (Str×V)):O where
 fp:=λb=>[b,dx,ad]
 rep:=λF H b=>b=a/\H a=some (.ins kC dx fs)/\H dx=some (.own a)/\H ad=some (.dK [])
 self:=λa=>.head _
 solid:=λ{F H b c' φ} ⟨e0,h1,h2,h3⟩ hb z=>by
  subst e0;simp only[ab6,ack,or_false]at hb;rcases hb with rfl|rfl|rfl
  ·rw[h1]at z;cases z
  ·rw[h2]at z;cases z
  ·rw[h3]at z;cases z
 nt:=λ{F H b c' vs} ⟨e0,h1,h2,h3⟩ hb z=>by
  subst e0;simp only[ab6,ack,or_false]at hb;rcases hb with rfl|rfl|rfl
  ·rw[h1]at z;cases z
  ·rw[h2]at z;cases z
  ·rw[h3]at z;cases z
 mono:=λ{F F' H H' b} s e ⟨e0,h1,h2,h3⟩=>by
  subst e0;exact⟨rfl,by rw[e b (by simp)];exact h1,by rw[e dx (by simp)];exact h2,by rw[e ad (by simp)];exact h3⟩
def plV:D->Option V
 | .str w=>some (.str w)
 | .int i=>some (.int i)
 | _=>none
def tKI(i:Nat)(f:Str)(tv:TV):b5:=λDe σ=>tv σ λx av=>match cS av x with
 | some d=>∃a dx fs v,plV d=some v/\av[i]?=some (some (.obj (Bv a dx fs)))/\fs.length<1000/\De.nx (av.set i (some (.obj (Bv a dx (cP f v fs)))))
 | _=>False
theorem FR(i:Nat){x f:Str}{ve:Expr}{tv:TV}{np ap pos:Pos}(kg:KG G)(hv:EO G k S ve tv)(ho:EO G k S (.Name x np) (J4 i))(hf:f∈(["way","count","points_by_name","ever_put"]:List Str):=by simp)(hs:∀line env,swapsWith ve (some (.Attribute (.Name x np) f ap)) line env=pure false:=by intro _ _;rfl):
  ES G k S (.Assign [.Attribute (.Name x np) f ap] ve pos) (tKI i f tv):=.mk λX Y ok =>
 cf (sx (ho X Y ok) (hv X Y ok) (hs _ _)) λDn σ H q=>by
  obtain⟨F,ah,De,R,q,K⟩:=q;refine⟨F,ah,_,R,q,λv H1 F1 y av s1 R1 r1 q1=>?_⟩
  split at q1
  ·rename_i d ed
   obtain⟨a,dx,fs,v',dm,eq,hl,q1⟩:=q1;have hvv:v=v':=by
    have:=R1.cS r1 ed;unfold plV at dm
    split at dm
    ·cases dm;exact this.str
    ·cases dm;exact this.int
    ·cases dm
   subst hvv;refine⟨F1,av,λx mn=>x=.var i/\mn=av,R1,⟨⟨_,eq⟩,rfl,rfl⟩,λv2 H2 F2 y aL s2 R2 r2 q2=>?_⟩;obtain⟨rfl,rfl⟩:=q2;have r2:σ[i]?=some (some v2):=r2;obtain⟨b,w1,⟨rfl,y1,y2⟩,_⟩:=R2.ob.obj i _ eq;rw[r2]at w1;cases w1;have n1:dx≠b:=fu y2 y1 (λz=>nomatch z);refine⟨b,kC,dx,_,rfl,y1,by rw[ok.K];exact kg.cls,by rw[ok.K];exact kg.no _ hf,hl,?_⟩
   exact K.nx σ _ F2 _ (s1.trans s2) (R2.gQ (o':=Bv b dx (cP f v fs)) eq r2 (.head _) (λ_ z=>z) ⟨rfl,ay,by rw[aq n1];exact y2⟩) q1
  ·exact q1.elim
def tKN(i:Nat):b5:=λDe σ=>∃a dx fs,σ[i]?=some (some (.obj (Bv a dx fs)))/\fs.length<1000/\∀ad,De.nx (σ.set i (some (.obj (kqO a dx ad (cP "points_by_name" (.ref ad) fs)))))
theorem Tn(i:Nat){x:Str}{np ap dp pos:Pos}(kg:KG G)(hN:S.N[i]?=some x:=by rfl)(hv:S.sc.lookup x=some .local\/S.sc.lookup x=some .cell\/S.sc.lookup x=some .free:=by first|exact Or.inl rfl|exact Or.inr (Or.inl rfl)|exact Or.inr (Or.inr rfl))
  (hd:(x==("__debug__":Str))=false:=by decide) (mY:(x==("__classdict__":Str))=false:=by decide) (hs:∀line env,swapsWith (.Dict [] [] dp) (some (.Attribute (.Name x np) "points_by_name" ap)) line env=pure false:=by intro _ _;rfl):
  ES G k S (.Assign [.Attribute (.Name x np) "points_by_name" ap] (.Dict [] [] dp) pos) (tKN i):=.mk λX Y ok =>
 cf (sx (jg (X:=X) (i:=i) (by rw[ok.N];exact hN) (by unfold Hu;rw[ok.sc];exact hv) hd mY) gS (hs _ _)) λDn σ H q=>by
  obtain⟨F,ah,De,R,⟨a,dx,fs,eq,hl,q⟩,K⟩:=q;intro p hp;obtain⟨b,w1,⟨rfl,y1,y2⟩,w3⟩:=R.ob.obj i _ eq;have n1:dx≠b:=fu y2 y1 (λz=>nomatch z);have p1:b≠p:=aZ y1 hp;have p2:dx≠p:=aZ y2 hp;refine⟨.ref b,w1,b,kC,dx,fs,rfl,by rw[aq p1];exact y1,by rw[ok.K];exact kg.cls,by rw[ok.K];exact kg.no _ (by simp),hl,?_⟩
  refine K.nx σ _ F _ (ao.refl _) (R.QG (o':=kqO b dx p (cP "points_by_name" (.ref p) fs)) eq w1 (λc hc hn=>?_) (λc hc=>?_) (λc hc=>?_) (λc hc=>?_) ⟨rfl,ay,by rw[aq n1,aq p2];exact y2,by rw[aq (Ne.symm p1),ay]⟩) (q p)
  ·have hc:c∉[b,dx]:=hc
   have c1:c≠b:=λz=>hc (by simp [z])
   have c2:c≠p:=λz=>hn (by rw[z];exact hp)
   rw[aq c1,aq c2]
  ·by_cases c1:c=b
   ·rw[c1,ay];exactλz=>nomatch z
   ·rw[aq c1]
    by_cases c2:c=p
    ·rw[c2,ay];exactλz=>nomatch z
    ·rw[aq c2];exact hc
  ·have hc:c∈[b,dx,p]:=hc
   simp only[ab6,ack,or_false]at hc;rcases hc with rfl|rfl|rfl
   ·exact .inl (by show _∈[_,_];simp)
   ·exact .inl (by show _∈[_,_];simp)
   ·exact .inr hp
  ·have hc:c∈[b,dx,p]:=hc
   simp only[ab6,ack,or_false]at hc;rcases hc with rfl|rfl|rfl
   ·rw[ay];exactλz=>nomatch z
   ·rw[aq n1,aq p2,y2];exactλz=>nomatch z
   ·rw[aq (Ne.symm p1),ay];exactλz=>nomatch z
def tKZ(i:Nat)(tv:TV):b5:=λDe σ=>tv σ λx av=>match cS av x with
 | some (.int j)=>∃a dx ad fs w c,av[i]?=some (some (.obj (kqO a dx ad fs)))/\fs.length<1000/\cP "ever_put" (.int j) fs=Hh w c j ad/\De.nx (av.set i (some (.obj (gw a dx ad w c j []))))
 | _=>False
theorem JO(i:Nat){x:Str}{ve:Expr}{tv:TV}{np ap pos:Pos}(kg:KG G)(hv:EO G k S ve tv)(ho:EO G k S (.Name x np) (J4 i))(hs:∀line env,swapsWith ve (some (.Attribute (.Name x np) "ever_put" ap)) line env=pure false:=by intro _ _;rfl):
  ES G k S (.Assign [.Attribute (.Name x np) "ever_put" ap] ve pos) (tKZ i tv):=.mk λX Y ok =>
 cf (sx (ho X Y ok) (hv X Y ok) (hs _ _)) λDn σ H q=>by
  obtain⟨F,ah,De,R,q,K⟩:=q;refine⟨F,ah,_,R,q,λv H1 F1 y av s1 R1 r1 q1=>?_⟩
  split at q1
  ·rename_i j ej
   obtain rfl:=(R1.cS r1 ej).int;obtain⟨a,dx,ad,fs,w,c,eq,hl,hp,q1⟩:=q1;refine⟨F1,av,λx mn=>x=.var i/\mn=av,R1,⟨⟨_,eq⟩,rfl,rfl⟩,λv2 H2 F2 y aL s2 R2 r2 q2=>?_⟩;obtain⟨rfl,rfl⟩:=q2;have r2:σ[i]?=some (some v2):=r2;obtain⟨b,w1,⟨rfl,y1,y2,y3⟩,_⟩:=R2.ob.obj i _ eq;rw[r2]at w1;cases w1;have n1:dx≠b:=fu y2 y1 (λz=>nomatch z);have n2:ad≠b:=fu y3 y1 (λz=>nomatch z);refine⟨b,kC,dx,_,rfl,y1,by rw[ok.K];exact kg.cls,by rw[ok.K];exact kg.no _ (by simp),hl,?_⟩
   rw[hp];exact K.nx σ _ F2 _ (s1.trans s2) (R2.gQ (o':=gw b dx ad w c j []) eq r2 (.head _) (λ_ z=>z) ⟨rfl,ay,by rw[aq n1];exact y2,[],by rw[aq n2];exact y3,.nil⟩) q1
  ·exact q1.elim
abbrev G5:=List D->(Str->Int->Prop)->Prop
def yn(sp:G5):Sp:=λvs H Q _=>∃F x dx rest ds Qd,vs=.ref x::rest/\mv F H/\H x=some (.ins kC dx [])/\H dx=some (.own x)/\F x=none/\F dx=none/\aC F rest ds/\sp ds Qd /\
 ∀H' F' ad w c,ao F F'->ao F' H'->(∀b o,b≠x->b≠dx->H b=some o->H' b=some o)->(gw x dx ad w c 0 []).rep F' H' x->F' x=none->F' dx=none->F' ad=none->H ad=none->(∀b o,F' b=some o->F b=some o\/Nw H b o)->Qd w c->Q .aQ H'
def xg(G:GE)(k:Nat)(sp:G5):Prop:=∃f fd ps k',k=k'+1/\ck G.P G.w G.K G.mg G.base iA k' f fd ps (yn sp)/\Mk G.K kC f/\Binds G.K fd ps []/\G.mg "Kept"=some (.ref kC)
theorem xg.mono{sp:G5}{j:Nat}(h:xg G j sp)(l:j<=k):xg G k sp:=by
 obtain⟨f,fd,ps,j',rfl,h1,h2⟩:=h;exact⟨f,fd,ps,k-1,by omega,h1.mono ⋯,h2⟩
structure InD(G:GE)(m qual:Str)(st:Stmt)(ps:List Str)(f:Addr)(fd:FuncData):Prop where
 F:Bq G.K m qual st f fd
 makes:Mk G.K kC f
 b:Binds G.K fd ps []
 mg:G.mg "Kept"=some (.ref kC)
def kO(n:Nat)(a dx:Addr)(ds:List D):Sd:=cE n (.obj (Bv a dx [])::ds.map .sh)
def inQ(x dx:Addr)(Q:Str->Int->Prop)(σ:Sd):Prop:=∃ad w c,σ[0]?=some (some (.obj (gw x dx ad w c 0 [])))/\Q w c
theorem Hx{F H:Hp}{x dx:Addr}{vs:List V}{ds:List D}(h1:H x=some (.ins kC dx []))(h2:H dx=some (.own x))(h3:F x=none)(h4:F dx=none)(h:aC F vs ds):iH F H (.ref x::vs) (.obj (Bv x dx [])::ds.map B.sh):=by
 have cs:∀ {i:Nat} {b:B},(B.obj (Bv x dx [])::ds.map B.sh)[i]?=some b->(i=0/\b=.obj (Bv x dx []))\/∃j d,i=j+1/\b=.sh d/\ds[j]?=some d:=λ{i b} h=>by
  cases i with
  | zero=>simp at h;exact .inl ⟨rfl,h.symm⟩
  | succ j =>
   simp only[List.getElem?_cons_succ]at h;obtain⟨d,e1,e2⟩:=cQ h;exact .inr ⟨j,d,rfl,e1,e2⟩
 refine⟨by rw[List.length_cons,List.length_cons,abZ,h.length],λi d e=>?_,λi xs e=>?_,λi o e=>?_,λi j ys zs b e1=>?_,λi j o p a b e1 e2 e3 e4 lu=>?_,λi j xs o a b e1=>?_⟩
 ·rcases cs e with⟨_,z⟩|⟨j,d',rfl,z,e2⟩
  ·cases z
  ·cases z
   obtain⟨v,e3,r⟩:=h.get e2;exact⟨v,by simpa using e3,r⟩
 ·rcases cs e with⟨_,z⟩|⟨j,d',rfl,z,e2⟩<;>cases z
 ·rcases cs e with⟨rfl,z⟩|⟨j,d',rfl,z,e2⟩
  ·cases z
   refine⟨x,by simp,⟨rfl,h1,h2⟩,λc hc=>?_⟩
   have hc:c∈[x,dx]:=hc;simp only[ab6,ack,or_false]at hc;rcases hc with rfl|rfl
   ·exact⟨h3,by rw[h1];exactλz=>nomatch z⟩
   ·exact⟨h4,by rw[h2];exactλz=>nomatch z⟩
  ·cases z
 ·rcases cs e1 with⟨_,z⟩|⟨j,d',rfl,z,e2⟩<;>cases z
 ·rcases cs e1 with⟨rfl,z⟩|⟨_,d',rfl,z,_⟩
  ·rcases cs e2 with⟨rfl,z⟩|⟨_,d',rfl,z,_⟩
   ·exact absurd rfl lu
   ·cases z
  ·cases z
 ·rcases cs e1 with⟨_,z⟩|⟨j,d',rfl,z,e2⟩<;>cases z
theorem XD{x qual:Str}{st:Stmt}{f:Addr}{fd:FuncData}{N ps:List Str}{sp:G5}{t:b5}(hK:G.K=KF.K)(Fn:Bq G.K x qual st f fd)(Sc:aB N ps (ag st))(ht:dr G k ⟨N,(ag st).names,[0],false,false,false,λ_ _=>False⟩ (ak st) t)
  (len:∀ds Q,sp ds Q->ds.length+1=ps.length)
  (body:∀ds Q,sp ds Q->∀a dx,t {nx:=inQ a dx Q,rt:=λ_ _=>False} (kO N.length a dx ds)):ck G.P G.w G.K G.mg G.base iA (k+1) f fd ps (yn sp):=by
 refine Fn.ok Sc (λvs H Q E h=>?_) (λh9 A outer s H vs Q E hr h=>?_)
 ·obtain⟨F,x,dx,rest,ds,Qd,rfl,s,h1,h2,h3,h4,r,q,K⟩:=h
  rw[List.length_cons,r.length];exact len _ _ q
 ·obtain⟨F,x,dx,rest,ds,Qd,rfl,sm,h1,h2,h3,h4,r,q,K⟩:=h
  have ar:=Hx h1 h2 h3 h4 r;have ft:∀c,iB (.ref x::rest) (B.obj (Bv x dx [])::ds.map B.sh) c->c=x\/c=dx:=λc z=>by
   rcases z with⟨i,ys,e,_⟩|⟨i,o,b,e,e2,hm⟩
   ·cases i with
    | zero=>simp at e
    | succ j=>simp only[List.getElem?_cons_succ]at e;obtain⟨d,e1,_⟩:=cQ e;cases e1
   ·cases i with
    | zero =>
     simp at e e2;subst e e2;have hm:c∈[x,dx]:=hm;simpa using hm
    | succ j=>simp only[List.getElem?_cons_succ]at e;obtain⟨d,e1,_⟩:=cQ e;cases e1
  have cU:∀p∈rX (.ref x::rest) (B.obj (Bv x dx [])::ds.map B.sh),p.1∈[0]:=λp hp=>by
   obtain⟨i,a⟩:=p;obtain⟨xs,e,_⟩:=eg.mp hp;cases i with
   | zero=>simp at e
   | succ j=>simp only[List.getElem?_cons_succ]at e;obtain⟨d,e1,_⟩:=cQ e;cases e1
  refine⟨_,ht (nJ iA G.P G.w G.K G.mg G.base N qual (ag st) f h9 A outer s H E).IZ ⟨H,F,rX (.ref x::rest) (.obj (Bv x dx [])::ds.map B.sh),vX (.ref x::rest) (.obj (Bv x dx [])::ds.map B.sh)⟩ ⟨rfl,rfl,rfl,hK,rfl,rfl,rfl,rfl,Sc.nd,cU,(λ_ h=>nomatch h),λ_=>rfl,Sc.kind,λ_ _ _=>rfl,λ_=>hr.hd,hr.dp,hr.un,λ_=>PassesOwn.never,λ_=>⟨rfl,rfl,rfl⟩,λ_ _ h=>h.elim,λh=>nomatch h⟩,F,kO N.length x dx ds,_,RS.cE _ sm ar,body ds Qd q x dx,?_⟩;refine⟨λσ H' F' ah s' R' q'=>?_,λv σ H' F' ah b s' R' r' q'=>q'.elim,λ_ _ _ _ _ _ h=>h.elim,λ_ _ _ _ _ _ h=>h.elim⟩;obtain⟨ad,w,c,e,q'⟩:=q';obtain⟨b,w1,w2,w3⟩:=R'.ob.obj 0 _ e;have w20:=w2;obtain⟨rfl,y1,y2,ks,y3,_⟩:=w20;have n1:ad≠b:=fu y3 y1 (λz=>nomatch z);have n2:ad≠dx:=fu y3 y2 (λz=>nomatch z);have had:H ad=none:=by
   rcases(w3 ad (by show ad∈[b,dx,ad];simp)).2.2 with z|z
   ·exact z
   ·rcases ft ad (rN (H:=H) (F:=F).mp (List.mem_append_right _ z))with z|z
    ·exact absurd z n1
    ·exact absurd z n2
  refine K H' F' ad w c s' R'.fr (λc o z1 z2 e=>R'.old c o e λy=>?_) w2 (w3 b (by show b∈[b,dx,ad];simp)).1 (w3 dx (by show dx∈[b,dx,ad];simp)).1 (w3 ad (by show ad∈[b,dx,ad];simp)).1 had R'.eS q'
  rcases ft c (rN.mp y)with z|z
  ·exact z1 z
  ·exact z2 z
theorem InD.fi{m qual:Str}{st:Stmt}{ps N:List Str}{f:Addr}{fd:FuncData}{t:b5}{sp:G5}(d:InD G m qual st ps f fd)(hK:G.K=KF.K)(Sc:aB N ps (ag st))(ht:dr G k ⟨N,(ag st).names,[0],false,false,false,λ_ _=>False⟩ (ak st) t)
  (len:∀ds Q,sp ds Q->ds.length+1=ps.length) (body:∀ds Q,sp ds Q->∀a dx,t {nx:=inQ a dx Q,rt:=λ_ _=>False} (kO N.length a dx ds)):xg G (k+1+1) sp:=
 ⟨f,fd,ps,k+1,rfl,XD hK d.F Sc ht len body,d.makes,d.b,d.mg⟩
def tMK(sp:G5)(t:eZ):TX:=λσ Q=>t σ λds av=>sp ds λw c=>∀a dx ad,Q (.obj (gw a dx ad w c 0 [])) av
theorem Tc{sp:G5}{e:Expr}{es:List Expr}{t:eZ}{p pos:Pos}(h:xg G k sp)(ha:xa G k S (e::es) t)(hg:S.sc.lookup ("Kept":Str)=some .globalImplicit:=by rfl)
  (he:∀env,ab7 (e::es) env=(false,eval e env)::ab7 es env:=by exactλ_=>Vc.cM rfl) (dm:∀env,(backTo pos (ab7 es env)).any (·.1)=false:=by intro _;rfl) (hh:S.jl=false:=by rfl):EX G k S (.Call (.Name "Kept" p) (e::es) [] pos) (tMK sp t):=.mk λX Y ok=>by
 obtain⟨f,fd,ps,k',rfl,h1,h2,h3,h4⟩:=h;have vt:ck X.prog X.w X.K X.mg X.base iA k' f fd ps (yn sp):=by rw[ok.P,ok.w,ok.K,ok.mg,ok.base];exact h1
 refine aO (Js (E:=E0) (dvs:=[]) (ds:=[]) (by rw[ok.K];exact h2) vt (ok.room hh) (dy ok hg) (by rw[ok.mg];exact h4) (by rw[ok.K];exact h3) .nil jL (ha X Y ok) ∅ (he _) (dm _)) λσ H Q q=>?_
 obtain⟨F,ah,Qd,R,q,K⟩:=q;refine⟨F,ah,_,R,q,λvs H1 F1 ds av s1 R1 r1 q1=>?_⟩;intro x dx hx XT cy;have fx:F1 x=none:=same_none R1.fr hx;have fdx:F1 dx=none:=same_none R1.fr XT;have up:∀ {b:Addr} {o:HO},H1 b=some o->(upd (upd H1 dx (.own x)) x (.ins kC dx [])) b=some o:=λ{b o} e=>by
  rw[aq (aZ e hx),aq (aZ e XT)];exact e
 refine⟨F1,x,dx,vs++[],ds,_,rfl,⟨λb o e=>up (R1.fr b o e),R1.ob.tab⟩,ay,by rw[aq cy,ay],fx,fdx,by rw[List.append_nil];exact r1,q1,λH' F' ad w c u1 u2 u3 u4 u5 u6 u7 u8 u9 u10=>⟨rfl,?_⟩⟩
 have sH:ao H1 H':=λb o e=>u3 b o (aZ e hx) (aZ e XT) (up e);have had:H1 ad=none:=by
  cases z:H1 ad with
  | none=>rfl
  | some o=>rw[up z]at u8;cases u8
 have R2:RS Y F' av σ H':=R1.call u1 u2 sH λb o z=>(u9 b o z).imp id λy=>y.imp (λy=>by
  cases z:H1 b with
  | none=>rfl
  | some o=>rw[up z]at y;cases y) id
 refine K _ H' F' (.obj (gw x dx ad w c 0 [])) av (s1.trans u1) R2 ⟨x,rfl,u4,λb hb=>?_⟩ (u10 x dx ad);obtain⟨_,g1,g2,ks,g3,_⟩:=u4;have hb:b∈[x,dx,ad]:=hb;simp only[ab6,ack,or_false]at hb;rcases hb with rfl|rfl|rfl
 ·exact⟨u5,(by rw[g1];exactλz=>nomatch z),(R1.bW hx).1,R1.de hx⟩
 ·exact⟨u6,(by rw[g2];exactλz=>nomatch z),(R1.bW XT).1,R1.de XT⟩
 ·exact⟨u7,(by rw[g3];exactλz=>nomatch z),(R1.bW had).1,R1.de had⟩
end Vc
namespace Vc
open PySem L2
variable [KF]
variable {G:GE}{k:Nat}{S:Stat}
theorem zt{y:List D}(h:jJ y=true)(ds:List D):(B.own y::ds.map B.sh).all QB=true:=by
 rw[List.all_cons,List.all_map,Bool.and_eq_true];exact⟨h,ach.mpr λ_ _=>rfl⟩
theorem ln0{α:Type}{P:List α->Prop}(h:P [])(us:List α)(e:us.length=0):P us:=List.eq_nil_of_length_eq_zero e ▸ h
theorem VA{α:Type}{n:Nat}{P:List α->Prop}(h:∀(a:α) (r:List α),r.length=n->P (a::r)):∀us:List α,us.length=n+1->P us:=λus e=>by
 cases us with
 | nil=>cases e
 | cons a r=>exact h a r (Nat.succ.inj e)
@[elab_as_elim] theorem EE{α:Type} {P:List α->Prop} (h:∀a,P [a]) (us:List α) (e:us.length=1):P us:=VA (λa=>ln0 (P:=λr=>P (a::r)) (h a)) us e
@[elab_as_elim] theorem ln2{α:Type} {P:List α->Prop} (h:∀a b,P [a,b]) (us:List α) (e:us.length=2):P us:=VA (λa=>EE (P:=λr=>P (a::r)) (h a)) us e
@[elab_as_elim] theorem Lz{α:Type} {P:List α->Prop} (h:∀a b c,P [a,b,c]) (us:List α) (e:us.length=3):P us:=VA (λa=>ln2 (P:=λr=>P (a::r)) (h a)) us e
@[elab_as_elim] theorem ln4{α:Type} {P:List α->Prop} (h:∀a b c d,P [a,b,c,d]) (us:List α) (e:us.length=4):P us:=VA (λa=>Lz (P:=λr=>P (a::r)) (h a)) us e
@[elab_as_elim] theorem ln5{α:Type} {P:List α->Prop} (h:∀a b c d e,P [a,b,c,d,e]) (us:List α) (e:us.length=5):P us:=VA (λa=>ln4 (P:=λr=>P (a::r)) (h a)) us e
@[elab_as_elim] theorem ln6{α:Type} {P:List α->Prop} (h:∀a b c d e f,P [a,b,c,d,e,f]) (us:List α) (e:us.length=6):P us:=VA (λa=>ln5 (P:=λr=>P (a::r)) (h a)) us e
theorem HM(p:Addr)(kvs:List (Int×D)):(p8 p kvs).view=some (.dM kvs):=rfl
theorem IJ(a dx ad:Addr)(w:Str)(c e:Int)(kvs:List (Int×D)):(gw a dx ad w c e kvs).view=some (.kp w c e kvs):=rfl
def QF:B->Bool
 | .own _=>false
 | _=>true
theorem xN{bs:List B}{i:Nat}{xs:List D}(k:Nat)(h:(bs.drop k).all QF=true)(e:bs[i]?=some (.own xs)):i∈List.range k:=by
 rw[List.mem_range];rcases Nat.lt_or_ge i k with z|z
 ·exact z
 ·have:B.own xs∈bs.drop k:=List.mem_of_getElem? (i:=i-k) (by rw[List.getElem?_drop,Nat.add_sub_cancel' z];exact e)
  cases ach.mp h _ this
end Vc
set_option maxHeartbeats 0
namespace K34
open PySem L2 Vc
section
def top(i:Nat):Stmt:=PySem.Challenge.pw_closepoints_k34_long_kept_points.main.body.getD i (.Pass ⟨0,0,0,0⟩)
variable [KF]
structure Gl(G:GE):Prop where
 kg:KG G
 z_abs:G.mg "abs"=none
 z_bool:G.mg "bool"=none
 z_int:G.mg "int"=none
 z_isinstance:G.mg "isinstance"=none
 z_len:G.mg "len"=none
 z_list:G.mg "list"=none
 z_max:G.mg "max"=none
 z_min:G.mg "min"=none
 z_range:G.mg "range"=none
 z_sorted:G.mg "sorted"=none
 z_sum:G.mg "sum"=none
 z_tuple:G.mg "tuple"=none
 z_zip:G.mg "zip"=none
 Ag:L4 G "SQUARES" (.str "squares")
 pT:L4 G "STREETS" (.str "streets")
variable {G:GE}{k:Nat}
abbrev j8:Stmt:=top 9
abbrev BM:List Str:=["count"]
local macro_rules | `(tactic| walk_at "5") => `(tactic| exact ⟨rfl,rfl,rfl,by decide +kernel,rfl,by decide +kernel,by decide +kernel⟩)
theorem TJ:aB BM ["count"] (ag j8):=by walk_at "5"
def Gn:b5:=(cF (F7 (bf LA (ae 0) (aY (.int 1))) (bf gtT (ae 0) (aY (.int 3)))) wx iy)
theorem W8(E:Gl G):dr G k ⟨BM,(ag j8).names,[],false,false,false,λ_ _=>False⟩ (ak j8) (Gn):=(aE (cT (Tg (Td (aW HD (af 0) ax) (FI (aW Wo (af 0) ax)))) (aE ip) bO))
abbrev sJ:Stmt:=top 10
abbrev L5:List Str:=["point","count"]
theorem ZW:aB L5 ["point","count"] (ag sJ):=by walk_at "5"
def UM:b5:=(cF (bf neT (bw (eE fL (bD (ae 0) dN))) (ae 1)) wx iy)
theorem aaF(E:Gl G):dr G k ⟨L5,(ag sJ).names,[],false,false,false,λ_ _=>False⟩ (ak sJ) (UM):=(aE (cT (aW xt (bB (cZ f_len E.z_len (aK (af 0) bj) (by decide +kernel))) (af 1)) (aE ip) bO))
abbrev jX:Stmt:=top 11
abbrev BF:List Str:=["points","point"]
theorem Tv:aB BF ["points"] (ag jX):=by walk_at "5"
def Gf(fW:bq)(kL:bq):b5:=(dU (cV (aj [] (ae 0))) (fK 1) (bQ (o9 (jm fW (aR (aj [] (bw (eE fL (bD (ae 1) dN)))) tN))) (o9 (jm kL (aR (aj [] (ae 1)) (aR (aj [] (bw (eE fL (bD (gq (ae 0) (aY (.int 0))) dN)))) tN))))))
theorem W0(E:Gl G){fW:bq}(ql:c9 G k "need_count" fW){kL:bq}(Ax:c9 G k "need_as_many_numbers" kL):dr G k ⟨BF,(ag jX).names,[],false,false,false,λ_ _=>False⟩ (ak jX) (Gf fW kL):=(aE (mP (gf (aH (af 0))) (bg 1) (aw (cA (bH ql (ai (aH (bB (cZ f_len E.z_len (aK (af 1) bj) (by decide +kernel)))) aG))) (aE (cA (bH Ax (ai (aH (af 1)) (ai (aH (bB (cZ f_len E.z_len (aK (cL (af 0) ax) bj) (by decide +kernel)))) aG))))))))
abbrev kB:Stmt:=top 12
abbrev B1:List Str:=["way"]
theorem T3:aB B1 ["way"] (ag kB):=by walk_at "5"
def GA:b5:=(cF (kQ (bf neT (ae 0) (aY (.str "streets"))) (bf neT (ae 0) (aY (.str "squares")))) wx iy)
theorem Xi(E:Gl G):dr G k ⟨B1,(ag kB).names,[],false,false,false,λ_ _=>False⟩ (ak kB) (GA):=(aE (cT (Tg (zL (aW xt (af 0) (FD E.pT)) (sE (aW xt (af 0) (FD E.Ag))))) (aE ip) bO))
abbrev sL:Stmt:=top 13
abbrev L6:List Str:=["points","way"]
theorem ZX:aB L6 ["points","way"] (ag sL):=by walk_at "5"
def UN(tJ:bq)(f6:bq):b5:=(bQ (o9 (jm tJ (aR (aj [] (ae 0)) tN))) (o9 (jm f6 (aR (aj [] (ae 1)) tN))))
theorem aaG(E:Gl G){tJ:bq}(DZ:c9 G k "need_points" tJ){f6:bq}(qt:c9 G k "need_way" f6):dr G k ⟨L6,(ag sL).names,[],false,false,false,λ_ _=>False⟩ (ak sL) (UN tJ f6):=(aw (cA (bH DZ (ai (aH (af 0)) aG))) (aE (cA (bH qt (ai (aH (af 1)) aG)))))
abbrev j9:Stmt:=top 14
abbrev BO:List Str:=["points","place"]
theorem TK:aB BO ["points","place"] (ag j9):=by walk_at "5"
def Gp:b5:=(cF (F7 (bf LA (ae 1) (aY (.int 0))) (bf geT (ae 1) (bw (eE fL (bD (ae 0) dN))))) wx iy)
theorem W9(E:Gl G):dr G k ⟨BO,(ag j9).names,[],false,false,false,λ_ _=>False⟩ (ak j9) (Gp):=(aE (cT (Tg (Td (aW HD (af 1) ax) (FI (aW Wn (af 1) (bB (cZ f_len E.z_len (aK (af 0) bj) (by decide +kernel))))))) (aE ip) bO))
abbrev j7:Stmt:=top 15
abbrev BL:List Str:=["bound"]
theorem TH:aB BL ["bound"] (ag j7):=by walk_at "5"
def Gm:b5:=(cF (bf LA (ae 0) (aY (.int 0))) wx iy)
theorem W7(E:Gl G):dr G k ⟨BL,(ag j7).names,[],false,false,false,λ_ _=>False⟩ (ak j7) (Gm):=(aE (cT (aW HD (af 0) ax) (aE ip) bO))
abbrev jU:Stmt:=top 17
abbrev BA:List Str:=["way","point","other","differences"]
theorem Tr:aB BA ["way","point","other"] (ag jU):=by walk_at "5"
def Ga:b5:=(bQ (eG [] 3 (dS [] [none,none] (J5 (aR (aj [] (ae 1)) (aR (aj [] (ae 2)) tN))) (Ha 2 (gC (fK 0) (gC (fK 1) G9))) eC (aj [] (bw (eE Hv (bD (bw (bC oY (ae 0) (ae 1))) dN)))))) (bQ (cF (bf eqT (ae 0) (aY (.str "streets"))) (dP [] (eE sumF (bD (ae 3) dN))) iy) (dP [] (eE sumF (bD (bw (dS [] [none] (cV (aj [] (ae 3))) (fK 0) eC (aj [] (bw (bC lK (ae 0) (ae 0)))))) dN)))))
local macro_rules | `(tactic| walk_at "6") => `(tactic| first|decide +kernel | (dsimp only[aM,aD];decide +kernel))
theorem WX(E:Gl G):dr G k ⟨BA,(ag jU).names,[],false,false,false,λ_ _=>False⟩ (ak jU) (Ga):=(aw (FQ 3 (N':=["here","there"]) (Lv (ai (aH (af 1)) (ai (aH (af 2)) aG)) E.z_zip) ⟨rfl,by walk_at "6",by walk_at "6",by walk_at "6",by walk_at "6",rfl,by walk_at "6"⟩ (nO (b8 (bg 0) (b8 (bg 1) ja))) mx (aH (bB (cZ Xq E.z_abs (aK (bB (jQ (af 0) (af 1))) bj) (by decide +kernel))))) (aw (cT (aW gu (af 0) (FD E.pT)) (aE (a8 (cZ Lc E.z_sum (aK (af 3) bj) (by decide +kernel)))) bO) (aE (a8 (cZ Lc E.z_sum (aK (bB (fO (N':=["difference"]) (gf (aH (af 3))) ⟨rfl,by walk_at "6",by walk_at "6",by walk_at "6",by walk_at "6",rfl,by walk_at "6"⟩ (bg 0) mx (aH (bB (jP (af 0) (af 0)))))) bj) (by decide +kernel))))))
abbrev sN:Stmt:=top 18
abbrev L8:List Str:=["points","way","pairs","i","j"]
theorem ZZ:aB L8 ["points","way"] (ag sN):=by walk_at "5"
def aau(fV:bq):b5:=(bQ (eG [] 2 (yu tN)) (bQ (dU (pC (bD (bw (eE fL (bD (ae 0) dN))) dN)) (fK 3) (dU (JL (bD (bw (bC eQ (ae 3) (aY (.int 1)))) (bD (bw (eE fL (bD (ae 0) dN))) dN))) (fK 4) (o9 (JV (ae 2) (aj [] (yv (aR (aj [] (bw (jm fV (aR (aj [] (ae 1)) (aR (aj [] (gq (ae 0) (ae 3))) (aR (aj [] (gq (ae 0) (ae 4))) tN)))))) (aR (aj [] (ae 3)) (aR (aj [] (ae 4)) tN))))))))) (dP [] (oX (ae 2)))))
theorem aaI(E:Gl G){fV:bq}(qk:c9 G k "far_between" fV):dr G k ⟨L8,(ag sN).names,[],false,false,false,λ_ _=>False⟩ (ak sN) (aau fV):=(aw (bU 2 (gj aG)) (aw (mP (jc (aK (bB (cZ f_len E.z_len (aK (af 0) bj) (by decide +kernel))) bj) E.z_range) (bg 3) (aE (mP (Pu (aK (bB (dR (af 3) ax)) (aK (bB (cZ f_len E.z_len (aK (af 0) bj) (by decide +kernel))) bj)) E.z_range) (bg 4) (aE (cA (FC (af 2) (aH (gk (ai (aH (bB (bH qk (ai (aH (af 1)) (ai (aH (cL (af 0) (af 3))) (ai (aH (cL (af 0) (af 4))) aG)))))) (ai (aH (af 3)) (ai (aH (af 4)) aG))))))))))) (aE (a8 (ik (af 2))))))
abbrev j4:Stmt:=top 20
abbrev BJ:List Str:=["points","way","bound"]
theorem TC:aB BJ ["points","way","bound"] (ag j4):=by walk_at "5"
def Gj(eM:bq)(tP:bq)(kM:bq):b5:=(bQ (o9 (jm eM (aR (aj [] (ae 0)) (aR (aj [] (ae 1)) tN)))) (bQ (o9 (jm tP (aR (aj [] (ae 2)) tN))) (dP [] (dS [] [none,none,none,some 2] (cV (aj [] (bw (jm kM (aR (aj [] (ae 0)) (aR (aj [] (ae 1)) tN)))))) (Ha 3 (gC (fK 0) (gC (fK 1) (gC (fK 2) G9)))) (bf leT (ae 0) (ae 3)) (aj [] (yv (aR (aj [] (ae 1)) (aR (aj [] (ae 2)) tN))))))))
theorem W5(E:Gl G){eM:bq}(rQ:c9 G k "need_points_and_way" eM){tP:bq}(D4:c9 G k "need_bound" tP){kM:bq}(Ay:c9 G k "pairs_by_places" kM):dr G k ⟨BJ,(ag j4).names,[],false,false,false,λ_ _=>False⟩ (ak j4) (Gj eM tP kM):=(aw (cA (bH rQ (ai (aH (af 0)) (ai (aH (af 1)) aG)))) (aw (cA (bH D4 (ai (aH (af 2)) aG))) (aE (a8 (fO (N':=["far","i","j","bound"]) (gf (aH (bB (bH Ay (ai (aH (af 0)) (ai (aH (af 1)) aG)))))) ⟨rfl,by walk_at "6",by walk_at "6",by walk_at "6",by walk_at "6",rfl,by walk_at "6"⟩ (nO (b8 (bg 0) (b8 (bg 1) (b8 (bg 2) ja)))) (pK (aW Wq (af 0) (af 3))) (aH (gk (ai (aH (af 1)) (ai (aH (af 2)) aG)))))))))
abbrev sR:Stmt:=top 22
abbrev Md:List Str:=["points","way","point","places"]
theorem Z3:aB Md ["points","way","point","places"] (ag sR):=by walk_at "5"
def UT(fV:bq):b5:=(dP [] (oX (JY (bw (dS [] [none,some 1,some 2,some 0] (cV (aj [] (ae 3))) (fK 0) eC (aj [] (yv (aR (aj [] (bw (jm fV (aR (aj [] (ae 1)) (aR (aj [] (ae 2)) (aR (aj [] (gq (ae 3) (ae 0))) tN)))))) (aR (aj [] (ae 0)) tN)))))) (aj [] (aY .aQ)))))
theorem aaM(E:Gl G){fV:bq}(qk:c9 G k "far_between" fV):dr G k ⟨Md,(ag sR).names,[],false,false,false,λ_ _=>False⟩ (ak sR) (UT fV):=(aE (a8 (ik (LQ (bB (fO (N':=["place","way","point","points"]) (gf (aH (af 3))) ⟨rfl,by walk_at "6",by walk_at "6",by walk_at "6",by walk_at "6",rfl,by walk_at "6"⟩ (bg 0) mx (aH (gk (ai (aH (bB (bH qk (ai (aH (af 1)) (ai (aH (af 2)) (ai (aH (cL (af 3) (af 0))) aG)))))) (ai (aH (af 0)) aG)))))) (aH iX) E.z_min))))
abbrev sS:Stmt:=top 23
abbrev Mf:List Str:=["points","way","place","others"]
theorem Z4:aB Mf ["points","way","place"] (ag sS):=by walk_at "5"
def UU(zY:bq):b5:=(bQ (eG [] 3 (dS [] [none,some 2] (pC (bD (bw (eE fL (bD (ae 0) dN))) dN)) (fK 0) (bf neT (ae 0) (ae 1)) (aj [] (ae 0)))) (dP [] (jm zY (aR (aj [] (ae 0)) (aR (aj [] (ae 1)) (aR (aj [] (gq (ae 0) (ae 2))) (aR (aj [] (ae 3)) tN)))))))
theorem aaN(E:Gl G){zY:bq}(O8:c9 G k "nearest_among" zY):dr G k ⟨Mf,(ag sS).names,[],false,false,false,λ_ _=>False⟩ (ak sS) (UU zY):=(aw (FQ 3 (N':=["other","place"]) (jc (aK (bB (cZ f_len E.z_len (aK (af 0) bj) (by decide +kernel))) bj) E.z_range) ⟨rfl,by walk_at "6",by walk_at "6",by walk_at "6",by walk_at "6",rfl,by walk_at "6"⟩ (bg 0) (pK (aW xt (af 0) (af 1))) (aH (af 0))) (aE (a8 (bH O8 (ai (aH (af 0)) (ai (aH (af 1)) (ai (aH (cL (af 0) (af 2))) (ai (aH (af 3)) aG))))))))
abbrev jW:Stmt:=top 24
abbrev BE:List Str:=["points","way"]
theorem Tt:aB BE ["points","way"] (ag jW):=by walk_at "5"
def Gd(eM:bq)(kM:bq):b5:=(bQ (o9 (jm eM (aR (aj [] (ae 0)) (aR (aj [] (ae 1)) tN)))) (dP [] (oX (JY (bw (jm kM (aR (aj [] (ae 0)) (aR (aj [] (ae 1)) tN)))) (aj [] (aY .aQ))))))
theorem WZ(E:Gl G){eM:bq}(rQ:c9 G k "need_points_and_way" eM){kM:bq}(Ay:c9 G k "pairs_by_places" kM):dr G k ⟨BE,(ag jW).names,[],false,false,false,λ_ _=>False⟩ (ak jW) (Gd eM kM):=(aw (cA (bH rQ (ai (aH (af 0)) (ai (aH (af 1)) aG)))) (aE (a8 (ik (LQ (bB (bH Ay (ai (aH (af 0)) (ai (aH (af 1)) aG)))) (aH iX) E.z_min)))))
abbrev j6:Stmt:=top 25
abbrev BK:List Str:=["points","way","place"]
theorem TF:aB BK ["points","way","place"] (ag j6):=by walk_at "5"
def Gk(eM:bq)(tQ:bq)(zZ:bq):b5:=(bQ (o9 (jm eM (aR (aj [] (ae 0)) (aR (aj [] (ae 1)) tN)))) (bQ (o9 (jm tQ (aR (aj [] (ae 0)) (aR (aj [] (ae 2)) tN)))) (dP [] (jm zZ (aR (aj [] (ae 0)) (aR (aj [] (ae 1)) (aR (aj [] (ae 2)) tN)))))))
theorem W6(E:Gl G){eM:bq}(rQ:c9 G k "need_points_and_way" eM){tQ:bq}(D5:c9 G k "need_place" tQ){zZ:bq}(O9:c9 G k "nearest_other" zZ):dr G k ⟨BK,(ag j6).names,[],false,false,false,λ_ _=>False⟩ (ak j6) (Gk eM tQ zZ):=(aw (cA (bH rQ (ai (aH (af 0)) (ai (aH (af 1)) aG)))) (aw (cA (bH D5 (ai (aH (af 0)) (ai (aH (af 2)) aG)))) (aE (a8 (bH O9 (ai (aH (af 0)) (ai (aH (af 1)) (ai (aH (af 2)) aG))))))))
abbrev sP:Stmt:=inClass (top 27) 0
abbrev Ma:List Str:=["self","way","count"]
theorem Z1:aB Ma ["self","way","count"] (ag sP):=by walk_at "5"
def UQ(fW:bq)(f6:bq):b5:=(bQ (o9 (jm fW (aR (aj [0] (ae 2)) tN))) (bQ (o9 (jm f6 (aR (aj [0] (ae 1)) tN))) (bQ (tKI 0 "way" (ae 1)) (bQ (tKI 0 "count" (ae 2)) (bQ (tKN 0) (tKZ 0 (aY (.int 0))))))))
theorem aaK(E:Gl G){fW:bq}(ql:c9 G k "need_count" fW){f6:bq}(qt:c9 G k "need_way" f6):dr G k ⟨Ma,(ag sP).names,[0],false,false,false,λ_ _=>False⟩ (ak sP) (UQ fW f6):=(aw (cA (bH ql (ai (aH (af 2)) aG))) (aw (cA (bH qt (ai (aH (af 1)) aG))) (aw (FR 0 E.kg (af 1) (sI 0)) (aw (FR 0 E.kg (af 2) (sI 0)) (aw (Tn 0 E.kg) (aE (JO 0 E.kg ax (sI 0))))))))
abbrev ko:Stmt:=inClass (top 27) 1
abbrev BV:List Str:=["self","point","name"]
theorem TU:aB BV ["self","point"] (ag ko):=by walk_at "5"
def Gw(kL:bq):b5:=(bQ (o9 (jm kL (aR (aj [0] (ae 1)) (aR (aj [0] (UG "count" (kS 0))) tN)))) (bQ (eG [0] 2 (oX (UG "ever_put" (kS 0)))) (bQ (tKP 0 (ae 2) (aj [0] (ae 1))) (bQ (tKE 0 (bw (bC eQ (ae 2) (aY (.int 1))))) (dP [0] (oX (ae 2)))))))
theorem Xe(E:Gl G){kL:bq}(Ax:c9 G k "need_as_many_numbers" kL):dr G k ⟨BV,(ag ko).names,[0],false,false,false,λ_ _=>False⟩ (ak ko) (Gw kL):=(aw (cA (bH Ax (ai (aH (af 1)) (ai (aH (FG E.kg (lM 0))) aG)))) (aw (bU 2 (ik (FG E.kg (lM 0)))) (aw (Tq 0 E.kg (aH (af 1)) (af 2) (sI 0)) (aw (JN 0 E.kg (bB (dR (af 2) ax)) (sI 0)) (aE (a8 (ik (af 2))))))))
abbrev kh:Stmt:=inClass (top 27) 2
abbrev BQ:List Str:=["self","name"]
theorem TN:aB BQ ["self","name"] (ag kh):=by walk_at "5"
def Gr(eO:bq):b5:=(bQ (o9 (tMl (eX eO) 0 (oZ (aj [0] (ae 1)) kP))) (tKD 0 (ae 1)))
theorem Xb(E:Gl G){eO:bq}(rS:cG G k "need_name" (eX eO)):dr G k ⟨BQ,(ag kh).names,[0],false,false,false,λ_ _=>False⟩ (ak kh) (Gr eO):=(aw (cA (sG true 0 rS E.kg (eR (aH (af 1)) cO))) (aE (Tp 0 E.kg (af 1) (sI 0))))
abbrev jY:Stmt:=inClass (top 27) 3
abbrev BG:List Str:=["self"]
theorem Tw:aB BG ["self"] (ag jY):=by walk_at "5"
def Gg:b5:=(dP [] (eE sortI (bD (VF (aj [] (ae 0))) dN)))
theorem W2(E:Gl G):dr G k ⟨BG,(ag jY).names,[],false,false,false,λ_ _=>False⟩ (ak jY) (Gg):=(aE (a8 (cZ jt E.z_sorted (aK (JI E.kg (aH (af 0))) bj) (by decide +kernel))))
abbrev jZ:Stmt:=inClass (top 27) 4
abbrev BH:List Str:=["self","name"]
theorem Tx:aB BH ["self","name"] (ag jZ):=by walk_at "5"
def Gh(eO:bq):b5:=(bQ (o9 (uc (eX eO) (aj [] (ae 0)) (oZ (aj [] (ae 1)) kP))) (dP [] (oX (m6 (VF (aj [] (ae 0))) (ae 1)))))
theorem W3(E:Gl G){eO:bq}(rS:cG G k "need_name" (eX eO)):dr G k ⟨BH,(ag jZ).names,[],false,false,false,λ_ _=>False⟩ (ak jZ) (Gh eO):=(aw (cA (oF rS E.kg (aH (af 0)) (eR (aH (af 1)) cO))) (aE (a8 (ik (iW (JI E.kg (aH (af 0))) (af 1))))))
abbrev kq:Stmt:=inClass (top 27) 5
abbrev BW:List Str:=["self","found","names"]
theorem TY:aB BW ["self"] (ag kq):=by walk_at "5"
def Gx(tI:bq)(eN:bq)(bL:bq):b5:=(bQ (eG [] 1 (jm tI (aR (aj [] (bw (uc (eX eN) (aj [] (ae 0)) kP))) (aR (aj [] (UG "way" (ae 0))) tN)))) (bQ (cF (bf Vz (ae 1) (aY .aQ)) (dP [] (oX (aY .aQ))) iy) (bQ (eG [] 2 (uc (eX bL) (aj [] (ae 0)) kP)) (dP [] (oX (yv (aR (aj [] (gq (ae 1) (aY (.int 0)))) (aR (aj [] (gq (ae 2) (gq (ae 1) (aY (.int 1))))) (aR (aj [] (gq (ae 2) (gq (ae 1) (aY (.int 2))))) tN)))))))))
theorem Xf(E:Gl G){tI:bq}(DY:c9 G k "nearest_two" tI){eN:bq}(rR:cG G k "plain_points" (eX eN)){bL:bq}(d9:cG G k "names" (eX bL)):dr G k ⟨BW,(ag kq).names,[],false,false,false,λ_ _=>False⟩ (ak kq) (Gx tI eN bL):=(aw (bU 1 (bH DY (ai (aH (bB (fP rR E.kg (aH (af 0))))) (ai (aH (FG E.kg (af 0))) aG)))) (aw (cT (aW HC (af 1) iX) (aE (a8 (ik iX))) bO) (aw (bU 2 (fP d9 E.kg (aH (af 0)))) (aE (a8 (ik (gk (ai (aH (cL (af 1) ax)) (ai (aH (cL (af 2) (cL (af 1) ax))) (ai (aH (cL (af 2) (cL (af 1) ax))) aG))))))))))
abbrev sT:Stmt:=inClass (top 27) 6
abbrev Mg:List Str:=["self","name","names","found"]
theorem Z5:aB Mg ["self","name"] (ag sT):=by walk_at "5"
def UW(eO:bq)(bL:bq)(tO:bq)(eN:bq):b5:=(bQ (o9 (uc (eX eO) (aj [] (ae 0)) (oZ (aj [] (ae 1)) kP))) (bQ (eG [] 2 (uc (eX bL) (aj [] (ae 0)) kP)) (bQ (eG [] 3 (jm tO (aR (aj [] (bw (uc (eX eN) (aj [] (ae 0)) kP))) (aR (aj [] (UG "way" (ae 0))) (aR (aj [] (UH (ae 2) (aj [] (ae 1)))) tN))))) (bQ (cF (bf Vz (ae 3) (aY .aQ)) (dP [] (oX (aY .aQ))) iy) (dP [] (oX (yv (aR (aj [] (gq (ae 3) (aY (.int 0)))) (aR (aj [] (gq (ae 2) (gq (ae 3) (aY (.int 1))))) tN)))))))))
theorem aaO(E:Gl G){eO:bq}(rS:cG G k "need_name" (eX eO)){bL:bq}(d9:cG G k "names" (eX bL)){tO:bq}(D3:c9 G k "nearest_of" tO){eN:bq}(rR:cG G k "plain_points" (eX eN)):dr G k ⟨Mg,(ag sT).names,[],false,false,false,λ_ _=>False⟩ (ak sT) (UW eO bL tO eN):=(aw (cA (oF rS E.kg (aH (af 0)) (eR (aH (af 1)) cO))) (aw (bU 2 (fP d9 E.kg (aH (af 0)))) (aw (bU 3 (bH D3 (ai (aH (bB (fP rR E.kg (aH (af 0))))) (ai (aH (FG E.kg (af 0))) (ai (aH (JK (af 2) (aH (af 1)))) aG))))) (aw (cT (aW HC (af 3) iX) (aE (a8 (ik iX))) bO) (aE (a8 (ik (gk (ai (aH (cL (af 3) ax)) (ai (aH (cL (af 2) (cL (af 3) ax))) aG))))))))))
abbrev kc:Stmt:=inClass (top 27) 7
abbrev BP:List Str:=["self","bound","names"]
theorem TL:aB BP ["self","bound"] (ag kc):=by walk_at "5"
def Gq(bL:bq)(tM:bq)(eN:bq):b5:=(bQ (eG [] 2 (uc (eX bL) (aj [] (ae 0)) kP)) (dP [] (dS [] [none,none,some 2] (cV (aj [] (bw (jm tM (aR (aj [] (bw (uc (eX eN) (aj [] (ae 0)) kP))) (aR (aj [] (UG "way" (ae 0))) (aR (aj [] (ae 1)) tN))))))) (Ha 2 (gC (fK 0) (gC (fK 1) G9))) eC (aj [] (yv (aR (aj [] (gq (ae 2) (ae 0))) (aR (aj [] (gq (ae 2) (ae 1))) tN)))))))
theorem Xa(E:Gl G){bL:bq}(d9:cG G k "names" (eX bL)){tM:bq}(D2:c9 G k "near_pairs" tM){eN:bq}(rR:cG G k "plain_points" (eX eN)):dr G k ⟨BP,(ag kc).names,[],false,false,false,λ_ _=>False⟩ (ak kc) (Gq bL tM eN):=(aw (bU 2 (fP d9 E.kg (aH (af 0)))) (aE (a8 (fO (N':=["i","j","names"]) (gf (aH (bB (bH D2 (ai (aH (bB (fP rR E.kg (aH (af 0))))) (ai (aH (FG E.kg (af 0))) (ai (aH (af 1)) aG))))))) ⟨rfl,by walk_at "6",by walk_at "6",by walk_at "6",by walk_at "6",rfl,by walk_at "6"⟩ (nO (b8 (bg 0) (b8 (bg 1) ja))) mx (aH (gk (ai (aH (cL (af 2) (af 0))) (ai (aH (cL (af 2) (af 1))) aG))))))))
abbrev sO:Stmt:=inClass (top 27) 8
abbrev L9:List Str:=["self","name"]
theorem Z0:aB L9 ["self","name"] (ag sO):=by walk_at "5"
def UP:b5:=(cF (bf IX (ae 1) (VF (aj [] (ae 0)))) wx iy)
theorem aaJ(E:Gl G):dr G k ⟨L9,(ag sO).names,[],false,false,false,λ_ _=>False⟩ (ak sO) (UP):=(aE (cT (aW MU (af 1) (JI E.kg (aH (af 0)))) (aE ip) bO))
abbrev sM:Stmt:=inClass (top 27) 9
abbrev L7:List Str:=["self"]
theorem ZY:aB L7 ["self"] (ag sM):=by walk_at "5"
def UO(bL:bq):b5:=(dP [] (dS [] [none,some 0] (cV (aj [] (bw (uc (eX bL) (aj [] (ae 0)) kP)))) (fK 0) eC (aj [] (m6 (VF (aj [] (ae 1))) (ae 0)))))
theorem aaH(E:Gl G){bL:bq}(d9:cG G k "names" (eX bL)):dr G k ⟨L7,(ag sM).names,[],false,false,false,λ_ _=>False⟩ (ak sM) (UO bL):=(aE (a8 (fO (N':=["name","self"]) (gf (aH (bB (fP d9 E.kg (aH (af 0)))))) ⟨rfl,by walk_at "6",by walk_at "6",by walk_at "6",by walk_at "6",rfl,by walk_at "6"⟩ (bg 0) mx (aH (iW (JI E.kg (aH (af 1))) (af 0))))))
abbrev ky:Stmt:=top 29
abbrev BX:List Str:=["pot","many","cell","stir"]
theorem T1:aB BX ["pot","many"] (ag ky):=by walk_at "5"
def Gy:b5:=(bQ (wu 0 (aY (.int 1)) (aj [0] (bw (bC eQ (gq (ae 0) (aY (.int 1))) (aY (.int 1)))))) (bQ (eG [0] 2 (oX (gq (ae 0) (aY (.int 0))))) (bQ (cF (bf geT (ae 2) (bw (bC pz (aY (.int 10)) (aY (.int 18))))) (bQ (wu 0 (aY (.int 0)) (aj [0] (bw (bC yV (ae 2) (ae 1))))) (dP [0] (bC vQ (ae 2) (ae 1)))) iy) (bQ (eG [0] 3 (bC vQ (bw (bC eQ (bw (bC eQ (bw (bC lK (ae 2) (aY (.int 69621)))) (bw (bC lK (gq (ae 0) (aY (.int 1))) (aY (.int 7919)))))) (aY (.int 13)))) (aY (.int 2147483647)))) (bQ (eG [0] 3 (bC vQ (bw (bC lK (ae 3) (ae 3))) (aY (.int 2147483629)))) (dP [0] (bC vQ (bw (bC yV (bw (bC vQ (bw (bC eQ (bw (bC lK (ae 3) (aY (.int 48271)))) (bw (bC lK (gq (ae 0) (aY (.int 1))) (aY (.int 40692)))))) (aY (.int 2147483587)))) (aY (.int 8)))) (ae 1))))))))
theorem Xg(E:Gl G):dr G k ⟨BX,(ag ky).names,[0],false,false,false,λ_ _=>False⟩ (ak ky) (Gy):=(aw (yf 0 (aH (bB (dR (cL (af 0) ax) ax))) ax (af 0)) (aw (bU 2 (ik (cL (af 0) ax))) (aw (cT (aW Wn (af 2) (bB (mO ax ax))) (aw (yf 0 (aH (bB (zN (af 2) (af 1)))) ax (af 0)) (aE (a8 (qG (af 2) (af 1))))) bO) (aw (bU 3 (qG (bB (dR (bB (dR (bB (jP (af 2) ax)) (bB (jP (cL (af 0) ax) ax)))) ax)) ax)) (aw (bU 3 (qG (bB (jP (af 3) (af 3))) ax)) (aE (a8 (qG (bB (zN (bB (qG (bB (dR (bB (jP (af 3) ax)) (bB (jP (cL (af 0) ax) ax)))) ax)) ax)) (af 1)))))))))
abbrev kz:Stmt:=top 30
abbrev KY:List Str:=["script"]
theorem T2:aB KY ["script"] (ag kz):=by walk_at "5"
theorem Xh(E:Gl G):ug G k ⟨KY,(ag kz).names,[],false,false,false,λ_ _=>False⟩ (ak kz):=Oi (N':=["cell"]) rfl (aW gu (bB (cZ f_len E.z_len (aK (af 0) bj) (by decide +kernel))) ax) (ai (aH ax) (ai (aH ax) aG)) (gf (aH (bB (ZT (af 0) E6 (E8 ax))))) ⟨rfl,by walk_at "6",by walk_at "6",by walk_at "6",by walk_at "6",rfl,by walk_at "6"⟩ (bg 0) (ai (aH (af 0)) (ai (aH ax) aG))
abbrev kF:Stmt:=top 31
abbrev B3:List Str:=["way","one","other","found","here","there","step"]
theorem T5:aB B3 ["way","one","other"] (ag kF):=by walk_at "5"
def GC:b5:=(bQ (eG [] 3 (oX (aY (.int 0)))) (bQ (dU (J5 (aR (aj [] (ae 1)) (aR (aj [] (ae 2)) tN))) (Ha 2 (gC (fK 4) (gC (fK 5) G9))) (bQ (eG [] 6 (eE vK (bD (bw (bC oY (ae 4) (ae 5))) (bD (bw (bC oY (ae 5) (ae 4))) dN)))) (eG [] 3 (bC eQ (ae 3) (gq (bw (yu (aR (aj [] (ae 6)) (aR (aj [] (bw (bC lK (ae 6) (ae 6)))) tN)))) (bw (eE Er (bD (bV (bf eqT (ae 0) (aY (.str "squares")))) dN)))))))) (dP [] (oX (ae 3)))))
theorem Xk(E:Gl G):dr G k ⟨B3,(ag kF).names,[],false,false,false,λ_ _=>False⟩ (ak kF) (GC):=(aw (bU 3 (ik ax)) (aw (mP (Lv (ai (aH (af 1)) (ai (aH (af 2)) aG)) E.z_zip) (nO (b8 (bg 4) (b8 (bg 5) ja))) (aw (bU 6 (cZ DE E.z_max (aK (bB (jQ (af 4) (af 5))) (aK (bB (jQ (af 5) (af 4))) bj)) (by decide +kernel))) (aE (bU 3 (dR (af 3) (cL (bB (gj (ai (aH (af 6)) (ai (aH (bB (jP (af 6) (af 6)))) aG)))) (bB (JG f_int E.z_int (aK (v7 gu (af 0) FJ) bj) (by decide +kernel))))))))) (aE (a8 (ik (af 3))))))
abbrev kG:Stmt:=top 32
abbrev B4:List Str:=["pot"]
theorem T6:aB B4 ["pot"] (ag kG):=by walk_at "5"
def GD(aX:hE):b5:=(dP [0] (oX (gq (bw (yu (aR (aj [0] (aY (.str "streets"))) (aR (aj [0] (aY (.str "squares"))) tN)))) (bw (fF aX 0 (aR (aj [0] (aY (.int 2))) tN))))))
theorem Xl(E:Gl G){aX:hE}(cc:eP G k "_law_next" aX):dr G k ⟨B4,(ag kG).names,[0],false,false,false,λ_ _=>False⟩ (ak kG) (GD aX):=(aE (a8 (ik (cL (bB (gj (ai (aH FJ) (ai (aH FJ) aG)))) (bB (bF cc (af 0) (ai (aH ax) aG)))))))
abbrev kA:Stmt:=top 33
abbrev BZ:List Str:=["found","due"]
theorem yg:aB BZ ["found","due"] (ag kA):=by walk_at "5"
def Gz(sp_q30:bq):b5:=(bQ (cF (bf Vz (ae 1) (aY .aQ)) (dP [] (oX (bV (bf Vz (ae 0) (aY .aQ))))) iy) (bQ (cF (pF (bV (pE ["list","tuple"] (ae 1)))) (bQ (cF (F7 (bf neT (bV (pE ["tuple"] (ae 0))) (bV (pE ["tuple"] (ae 1)))) (kR (pF (bV (pE ["list","tuple"] (ae 0)))))) (dP [] (oX (aY (.bl false)))) iy) (bQ (cF (bf neT (bw (eE fL (bD (ae 0) dN))) (bw (eE fL (bD (ae 1) dN)))) (dP [] (oX (aY (.bl false)))) iy) (dP [] (oX (bV (bf eqT (bw (dS [] [none,some 0,some 1] (pC (bD (bw (eE fL (bD (ae 1) dN))) dN)) (fK 0) (kR (pF (bw (jm sp_q30 (aR (aj [] (gq (ae 1) (ae 0))) (aR (aj [] (gq (ae 2) (ae 0))) tN)))))) (aj [] (ae 0)))) (bw (yu tN)))))))) iy) (dP [] (oX (bV (kQ (wq (bV (pE ["int"] (ae 0)))) (kQ (wq (bV (bf eqT (bV (pE ["bool"] (ae 0))) (bV (pE ["bool"] (ae 1)))))) (wq (bV (bf eqT (ae 0) (ae 1)))))))))))
theorem Dx(E:Gl G){sp_q30:bq}(gK:c9 G k "_law_same" sp_q30):dr G k ⟨BZ,(ag kA).names,[],false,false,false,λ_ _=>False⟩ (ak kA) (Gz sp_q30):=(aw (cT (aW HC (af 1) iX) (aE (a8 (ik (v7 HC (af 0) iX)))) bO) (aw (cT (gW (FH (af 1) vG kit_tuple E.z_isinstance E.z_list E.z_tuple (by decide +kernel) (by decide +kernel))) (aw (cT (Tg (Td (aW xt (oE (af 0) kit_tuple E.z_isinstance E.z_tuple (by decide +kernel)) (oE (af 1) kit_tuple E.z_isinstance E.z_tuple (by decide +kernel))) (FI (ji (gW (FH (af 0) vG kit_tuple E.z_isinstance E.z_list E.z_tuple (by decide +kernel) (by decide +kernel))))))) (aE (a8 (ik pB))) bO) (aw (cT (aW xt (bB (cZ f_len E.z_len (aK (af 0) bj) (by decide +kernel))) (bB (cZ f_len E.z_len (aK (af 1) bj) (by decide +kernel)))) (aE (a8 (ik pB))) bO) (aE (a8 (ik (v7 gu (bB (fO (N':=["k","found","due"]) (jc (aK (bB (cZ f_len E.z_len (aK (af 1) bj) (by decide +kernel))) bj) E.z_range) ⟨rfl,by walk_at "6",by walk_at "6",by walk_at "6",by walk_at "6",rfl,by walk_at "6"⟩ (bg 0) (pK (ji (gW (bB (bH gK (ai (aH (cL (af 1) (af 0))) (ai (aH (cL (af 2) (af 0))) aG))))))) (aH (af 0)))) (bB (gj aG)))))))) bO) (aE (a8 (ik (abA (v_and (U7 (oE (af 0) IH E.z_isinstance E.z_int (by decide +kernel))) (v_and (U7 (v7 gu (oE (af 0) vF E.z_isinstance E.z_bool (by decide +kernel)) (oE (af 1) vF E.z_isinstance E.z_bool (by decide +kernel)))) (aaw (U7 (v7 gu (af 0) (af 1))))))))))))
abbrev kn:Stmt:=top 34
abbrev BU:List Str:=["pot","count","own","some","kind","at"]
theorem TR:aB BU ["pot","count","own"] (ag kn):=by walk_at "5"
def Gv(aX:hE):b5:=(bQ (eG [0] 3 (iw [0] [none,some 0] 0 1 (pC (bD (ae 1) dN)) (fK 0) eC (aj [1] (bw (fF aX 1 (aR (aj [1] (aY (.int 5))) tN)))))) (bQ (eG [0] 4 (fF aX 0 (aR (aj [0] (aY (.int 4))) tN))) (bQ (cF (bf eqT (ae 4) (aY (.int 1))) (eG [0] 3 (iw [0] [none,some 0] 0 1 (pC (bD (ae 1) dN)) (fK 0) eC (aj [1] (bw (bC eQ (bw (bC oY (bw (fF aX 1 (aR (aj [1] (bw (bC oY (bw (bC lK (aY (.int 2)) (bw (bC pz (aY (.int 10)) (aY (.int 15)))))) (aY (.int 1))))) tN))) (bw (bC pz (aY (.int 10)) (aY (.int 15)))))) (aY (.int 1))))))) iy) (bQ (cF (kQ (bf gtT (ae 4) (aY (.int 1))) (wt true (ae 2))) (bQ (eG [0] 3 (eE qw (bD (m6 (ae 2) (gq (bw (eE sortI (bD (ae 2) dN))) (bw (fF aX 0 (aR (aj [0] (bw (eE AU (bD (ae 2) dN)))) tN))))) dN))) (bQ (eG [0] 5 (fF aX 0 (aR (aj [0] (ae 1)) tN))) (wu 3 (ae 5) (aj [0] (bw (eE vK (bD (bw (bC oY (aY (.int 1)) (bw (bC pz (aY (.int 10)) (aY (.int 15)))))) (bD (bw (eE zp (bD (bw (bC oY (bw (bC pz (aY (.int 10)) (aY (.int 15)))) (aY (.int 1)))) (bD (bw (bC oY (bw (bC eQ (gq (ae 3) (ae 5)) (bw (fF aX 0 (aR (aj [0] (aY (.int 3))) tN))))) (aY (.int 1)))) dN)))) dN)))))))) iy) (dP [0] (eE o5 (bD (ae 3) dN)))))))
theorem Xd(E:Gl G){aX:hE}(cc:eP G k "_law_next" aX):dr G k ⟨BU,(ag kn).names,[0],false,false,false,λ_ _=>False⟩ (ak kn) (Gv aX):=(aw (wg 3 0 1 (N':=["k","pot"]) (jc (aK (af 1) bj) E.z_range) ⟨rfl,by walk_at "6",by walk_at "6",by walk_at "6",by walk_at "6",rfl,by walk_at "6"⟩ (bg 0 (hn:=by first|decide | (dsimp only;decide) | (dsimp only[aM,aD];decide))) mx (aH (bB (bF cc (af 1) (ai (aH ax) aG))))) (aw (bU 4 (bF cc (af 0) (ai (aH ax) aG))) (aw (cT (aW gu (af 4) ax) (aE (wg 3 0 1 (N':=["k","pot"]) (jc (aK (af 1) bj) E.z_range) ⟨rfl,by walk_at "6",by walk_at "6",by walk_at "6",by walk_at "6",rfl,by walk_at "6"⟩ (bg 0 (hn:=by first|decide | (dsimp only;decide) | (dsimp only[aM,aD];decide))) mx (aH (bB (dR (bB (jQ (bB (bF cc (af 1) (ai (aH (bB (jQ (bB (jP ax (bB (mO ax ax)))) ax))) aG))) (bB (mO ax ax)))) ax))))) bO) (aw (cT (Tg (zL (aW Wo (af 4) ax) (sE (Tf (af 2))))) (aw (bU 3 (JG f_list E.z_list (aK (iW (af 2) (cL (bB (cZ jt E.z_sorted (aK (af 2) bj) (by decide +kernel))) (bB (bF cc (af 0) (ai (aH (bB (cZ xC E.z_len (aK (af 2) bj) (by decide +kernel)))) aG))))) bj) (by decide +kernel))) (aw (bU 5 (bF cc (af 0) (ai (aH (af 1)) aG))) (aE (yf 3 (aH (bB (cZ DE E.z_max (aK (bB (jQ ax (bB (mO ax ax)))) (aK (bB (cZ Oq E.z_min (aK (bB (jQ (bB (mO ax ax)) ax)) (aK (bB (jQ (bB (dR (cL (af 3) (af 5)) (bB (bF cc (af 0) (ai (aH ax) aG))))) ax)) bj)) (by decide +kernel))) bj)) (by decide +kernel)))) (af 5) (af 3))))) bO) (aE (a8 (JG HV E.z_tuple (aK (af 3) bj) (by decide +kernel))))))))
abbrev kE:Stmt:=top 35
abbrev B2:List Str:=["own","way","which","name","bound","names","found","other"]
theorem T4:aB B2 ["own","way","which","name","bound"] (ag kE):=by walk_at "5"
def GB(oT:bq):b5:=(bQ (eG [] 5 (eE sortI (bD (ae 0) dN))) (bQ (cF (bf eqT (ae 2) (aY (.int 0))) (dP [] (oX (ae 5))) iy) (bQ (cF (bf eqT (ae 2) (aY (.int 1))) (dP [] (oX (m6 (ae 0) (ae 3)))) iy) (bQ (cF (bf eqT (ae 2) (aY (.int 3))) (dP [] (eE qz (bD (bw (bC eQ (bw (dS [] [none,some 3,some 1,some 0] (cV (aj [] (ae 5))) (fK 0) (bf neT (ae 0) (ae 1)) (aj [] (yv (aR (aj [] (bw (jm oT (aR (aj [] (ae 2)) (aR (aj [] (m6 (ae 3) (ae 1))) (aR (aj [] (m6 (ae 3) (ae 0))) tN)))))) (aR (aj [] (ae 0)) tN)))))) (bw (yu (aR (aj [] (yv (aR (aj [] (bw (bC pz (aY (.int 10)) (aY (.int 40))))) (aR (aj [] (aY (.int 0))) tN)))) tN))))) dN))) iy) (bQ (eG [] 6 (yu tN)) (bQ (dU (cV (aj [] (ae 5))) (fK 7) (o9 (JX (ae 6) (dS [] [none,some 7,some 1,some 0] (cV (aj [] (ae 5))) (fK 0) (bf LA (ae 0) (ae 1)) (aj [] (yv (aR (aj [] (bw (jm oT (aR (aj [] (ae 2)) (aR (aj [] (m6 (ae 3) (ae 0))) (aR (aj [] (m6 (ae 3) (ae 1))) tN)))))) (aR (aj [] (ae 0)) (aR (aj [] (ae 1)) tN))))))))) (bQ (cF (bf eqT (ae 2) (aY (.int 2))) (dP [] (oX (gq (bw (bC eQ (bw (eE kH (bD (ae 6) dN))) (bw (yu (aR (aj [] (aY .aQ)) tN))))) (aY (.int 0))))) iy) (dP [] (eE kH (bD (bw (dS [] [none,none,none,some 4] (cV (aj [] (ae 6))) (Ha 3 (gC (fK 0) (gC (fK 1) (gC (fK 2) G9)))) (bf leT (ae 0) (ae 3)) (aj [] (yv (aR (aj [] (ae 1)) (aR (aj [] (ae 2)) tN)))))) dN))))))))))
theorem Xj(E:Gl G){oT:bq}(yY:c9 G k "_law_far" oT):dr G k ⟨B2,(ag kE).names,[],false,false,false,λ_ _=>False⟩ (ak kE) (GB oT):=(aw (bU 5 (cZ jt E.z_sorted (aK (af 0) bj) (by decide +kernel))) (aw (cT (aW gu (af 2) ax) (aE (a8 (ik (af 5)))) bO) (aw (cT (aW gu (af 2) ax) (aE (a8 (ik (iW (af 0) (af 3))))) bO) (aw (cT (aW gu (af 2) ax) (aE (a8 (cZ Oo E.z_min (aK (bB (dR (bB (fO (N':=["one","name","way","own"]) (gf (aH (af 5))) ⟨rfl,by walk_at "6",by walk_at "6",by walk_at "6",by walk_at "6",rfl,by walk_at "6"⟩ (bg 0) (pK (aW xt (af 0) (af 1))) (aH (gk (ai (aH (bB (bH yY (ai (aH (af 2)) (ai (aH (iW (af 3) (af 1))) (ai (aH (iW (af 3) (af 0))) aG)))))) (ai (aH (af 0)) aG)))))) (bB (gj (ai (aH (gk (ai (aH (bB (mO ax ax))) (ai (aH ax) aG)))) aG))))) bj) (by decide +kernel)))) bO) (aw (bU 6 (gj aG)) (aw (mP (gf (aH (af 5))) (bg 7) (aE (cA (FE (af 6) (fO (N':=["one","other","way","own"]) (gf (aH (af 5))) ⟨rfl,by walk_at "6",by walk_at "6",by walk_at "6",by walk_at "6",rfl,by walk_at "6"⟩ (bg 0) (pK (aW HD (af 0) (af 1))) (aH (gk (ai (aH (bB (bH yY (ai (aH (af 2)) (ai (aH (iW (af 3) (af 0))) (ai (aH (iW (af 3) (af 1))) aG)))))) (ai (aH (af 0)) (ai (aH (af 1)) aG)))))))))) (aw (cT (aW gu (af 2) ax) (aE (a8 (ik (cL (bB (dR (bB (cZ vg E.z_sorted (aK (af 6) bj) (by decide +kernel))) (bB (gj (ai (aH iX) aG))))) ax)))) bO) (aE (a8 (cZ vg E.z_sorted (aK (bB (fO (N':=["far","one","other","bound"]) (gf (aH (af 6))) ⟨rfl,by walk_at "6",by walk_at "6",by walk_at "6",by walk_at "6",rfl,by walk_at "6"⟩ (nO (b8 (bg 0) (b8 (bg 1) (b8 (bg 2) ja)))) (pK (aW Wq (af 0) (af 3))) (aH (gk (ai (aH (af 1)) (ai (aH (af 2)) aG)))))) bj) (by decide +kernel)))))))))))
abbrev j3:Stmt:=top 36
abbrev BI:List Str:=["kept","which","name","bound"]
theorem Tz:aB BI ["kept","which","name","bound"] (ag j3):=by walk_at "5"
def Gi(bL:bq)(tK:bq)(tT:bq)(z0:bq)(tR:bq):b5:=(bQ (cF (bf eqT (ae 1) (aY (.int 0))) (dP [] (uc (eX bL) (aj [] (ae 0)) kP)) iy) (bQ (cF (bf eqT (ae 1) (aY (.int 1))) (dP [] (uc (eX tK) (aj [] (ae 0)) (oZ (aj [] (ae 2)) kP))) iy) (bQ (cF (bf eqT (ae 1) (aY (.int 2))) (dP [] (uc (eX tT) (aj [] (ae 0)) kP)) iy) (bQ (cF (bf eqT (ae 1) (aY (.int 3))) (dP [] (uc (eX z0) (aj [] (ae 0)) (oZ (aj [] (ae 2)) kP))) iy) (dP [] (uc (eX tR) (aj [] (ae 0)) (oZ (aj [] (ae 3)) kP)))))))
theorem W4(E:Gl G){bL:bq}(d9:cG G k "names" (eX bL)){tK:bq}(D0:cG G k "point" (eX tK)){tT:bq}(D8:cG G k "two" (eX tT)){z0:bq}(Pa:cG G k "nearest" (eX z0)){tR:bq}(D6:cG G k "near" (eX tR)):dr G k ⟨BI,(ag j3).names,[],false,false,false,λ_ _=>False⟩ (ak j3) (Gi bL tK tT z0 tR):=(aw (cT (aW gu (af 1) ax) (aE (a8 (fP d9 E.kg (aH (af 0))))) bO) (aw (cT (aW gu (af 1) ax) (aE (a8 (oF D0 E.kg (aH (af 0)) (eR (aH (af 2)) cO)))) bO) (aw (cT (aW gu (af 1) ax) (aE (a8 (fP D8 E.kg (aH (af 0))))) bO) (aw (cT (aW gu (af 1) ax) (aE (a8 (oF Pa E.kg (aH (af 0)) (eR (aH (af 2)) cO)))) bO) (aE (a8 (oF D6 E.kg (aH (af 0)) (eR (aH (af 3)) cO))))))))
abbrev sQ:Stmt:=top 37
abbrev Mb:List Str:=["kept","own","way","which","name","bound","due"]
theorem Z2:aB Mb ["kept","own","way","which","name","bound"] (ag sQ):=by walk_at "5"
def UR(tU:bq)(sp_q30:bq)(tL:bq):b5:=(bQ (cF (kQ (wt false (ae 1)) (bf inT (ae 3) (yv (aR (aj [] (aY (.int 1))) (aR (aj [] (aY (.int 3))) tN))))) (dP [] (oX (aY (.bl true)))) iy) (bQ (eG [] 6 (jm tU (aR (aj [] (ae 1)) (aR (aj [] (ae 2)) (aR (aj [] (ae 3)) (aR (aj [] (ae 4)) (aR (aj [] (ae 5)) tN))))))) (bQ (cF (kQ (bf eqT (ae 3) (aY (.int 3))) (bf eqT (bw (eE AU (bD (ae 1) dN))) (aY (.int 1)))) (eG [] 6 (oX (aY .aQ))) iy) (dP [] (jm sp_q30 (aR (aj [] (bw (jm tL (aR (aj [] (ae 0)) (aR (aj [] (ae 3)) (aR (aj [] (ae 4)) (aR (aj [] (ae 5)) tN))))))) (aR (aj [] (ae 6)) tN)))))))
theorem aaL(E:Gl G){tU:bq}(Ea:c9 G k "_law_due" tU){sp_q30:bq}(gK:c9 G k "_law_same" sp_q30){tL:bq}(D1:c9 G k "_law_answer" tL):dr G k ⟨Mb,(ag sQ).names,[],false,false,false,λ_ _=>False⟩ (ak sQ) (UR tU sp_q30 tL):=(aw (cT (Tg (zL (Te (af 1)) (sE (aW aaD (af 3) (gk (ai (aH ax) (ai (aH ax) aG))))))) (aE (a8 (ik pB))) bO) (aw (bU 6 (bH Ea (ai (aH (af 1)) (ai (aH (af 2)) (ai (aH (af 3)) (ai (aH (af 4)) (ai (aH (af 5)) aG))))))) (aw (cT (Tg (zL (aW gu (af 3) ax) (sE (aW gu (bB (cZ xC E.z_len (aK (af 1) bj) (by decide +kernel))) ax)))) (aE (bU 6 (ik iX))) bO) (aE (a8 (bH gK (ai (aH (bB (bH D1 (ai (aH (af 0)) (ai (aH (af 3)) (ai (aH (af 4)) (ai (aH (af 5)) aG))))))) (ai (aH (af 6)) aG))))))))
abbrev kj:Stmt:=top 38
abbrev BR:List Str:=["pot","own","names","name"]
theorem TQ:aB BR ["pot","own"] (ag kj):=by walk_at "5"
def Gu(aX:hE):b5:=(bQ (eG [0] 2 (bC eQ (bw (eE sortI (bD (ae 1) dN))) (bw (bC lK (bw (yu (aR (aj [0] (aY (.int 0))) tN))) (bw (eE Er (bD (bV (wt false (ae 1))) dN))))))) (bQ (eG [0] 3 (oX (gq (bw (yu (aR (aj [0] (gq (ae 2) (bw (fF aX 0 (aR (aj [0] (bw (eE fL (bD (ae 2) dN)))) tN))))) (aR (aj [0] (gq (ae 2) (JZ (aY (.int 1))))) tN)))) (bw (fF aX 0 (aR (aj [0] (aY (.int 2))) tN)))))) (dP [0] (oX (yv (aR (aj [0] (ae 3)) (aR (aj [0] (gq (bw (yu (aR (aj [0] (aY (.int 0))) (aR (aj [0] (aY (.int 1))) (aR (aj [0] (bw (fF aX 0 (aR (aj [0] (aY (.int 30))) tN)))) (aR (aj [0] (bw (bC pz (aY (.int 10)) (aY (.int 15))))) (aR (aj [0] (bw (bC oY (bw (bC pz (aY (.int 10)) (aY (.int 34)))) (aY (.int 1))))) tN))))))) (bw (fF aX 0 (aR (aj [0] (aY (.int 5))) tN))))) tN)))))))
theorem Xc(E:Gl G){aX:hE}(cc:eP G k "_law_next" aX):dr G k ⟨BR,(ag kj).names,[0],false,false,false,λ_ _=>False⟩ (ak kj) (Gu aX):=(aw (bU 2 (dR (bB (cZ jt E.z_sorted (aK (af 1) bj) (by decide +kernel))) (bB (jP (bB (gj (ai (aH ax) aG))) (bB (JG f_int E.z_int (aK (ZS (af 1)) bj) (by decide +kernel))))))) (aw (bU 3 (ik (cL (bB (gj (ai (aH (cL (af 2) (bB (bF cc (af 0) (ai (aH (bB (cZ f_len E.z_len (aK (af 2) bj) (by decide +kernel)))) aG))))) (ai (aH (cL (af 2) (LR ax))) aG)))) (bB (bF cc (af 0) (ai (aH ax) aG)))))) (aE (a8 (ik (gk (ai (aH (af 3)) (ai (aH (cL (bB (gj (ai (aH ax) (ai (aH ax) (ai (aH (bB (bF cc (af 0) (ai (aH ax) aG)))) (ai (aH (bB (mO ax ax))) (ai (aH (bB (jQ (bB (mO ax ax)) ax))) aG))))))) (bB (bF cc (af 0) (ai (aH ax) aG))))) aG))))))))
abbrev jV:Stmt:=top 39
abbrev BD:List Str:=["pot","kept","own","way","count","coming","turn","names","name","bound"]
theorem Ts:aB BD ["pot","kept","own","way","count"] (ag jV):=by walk_at "5"
def Gb(aX:hE)(tS:iK)(fY:hE)(sp_q30:bq)(fZ:iK)(fX:hE)(kN:bq):b5:=(bQ (eG [0,1,2] 5 (eE AU (bD (kS 2) dN))) (bQ (dU (pC (bD (bw (bC eQ (aY (.int 30)) (bw (fF aX 0 (aR (aj [0,1,2] (aY (.int 112))) tN))))) dN)) (fK 6) (bQ (eG [0,1,2] 7 (eE sortI (bD (kS 2) dN))) (bQ (eG [0,1,2] 8 (oX (gq (bw (yu (aR (aj [0,1,2] (gq (ae 7) (bw (fF aX 0 (aR (aj [0,1,2] (bw (eE fL (bD (ae 7) dN)))) tN))))) (aR (aj [0,1,2] (gq (ae 7) (aY (.int 0)))) (aR (aj [0,1,2] (gq (ae 7) (JZ (aY (.int 1))))) tN))))) (bw (fF aX 0 (aR (aj [0,1,2] (aY (.int 3))) tN)))))) (bQ (UK 2 (ae 8)) (bQ (o9 (VG tS 1 (oZ (aj [0,1,2] (ae 8)) kP))) (bQ (FZ 2 (ae 5) (aj [0,1,2] (bw (JW (Yz fY) (JU 0 (oZ (aj [0,1,2] (ae 4)) (Hl 2 kP))))))) (bQ (cF (kR (pF (bw (tCb sp_q30 (bD (bw (VG fZ 1 (oZ (aj [0,1,2] (m6 (kS 2) (ae 5))) kP))) (bD (ae 5) dN)))))) (dP [0,1,2] (oX (aY (.bl false)))) iy) (bQ (eG [0,1,2] 5 (bC eQ (ae 5) (aY (.int 1)))) (cF (bf eqT (bw (bC vQ (ae 6) (aY (.int 8)))) (aY (.int 3))) (bQ (F9 (aj [0,1,2] (bw (JW (Yz fX) (JU 0 (Hl 2 kP))))) (Ha 2 (gC (fK 8) (gC (fK 9) G9)))) (cF (kR (pF (bw (JW (eX kN) (Hl 1 (Hl 2 (oZ (aj [0,1,2] (ae 3)) (oZ (aj [0,1,2] (bw (fF aX 0 (aR (aj [0,1,2] (aY (.int 5))) tN)))) (oZ (aj [0,1,2] (ae 8)) (oZ (aj [0,1,2] (ae 9)) kP)))))))))) (dP [0,1,2] (oX (aY (.bl false)))) iy)) iy))))))))) (dP [0,1,2] (oX (aY (.bl true))))))
theorem WY(E:Gl G){aX:hE}(cc:eP G k "_law_next" aX){tS:iK}(D7:cG G k "take" tS){fY:hE}(qo:eP G k "_law_point" fY){sp_q30:bq}(gK:c9 G k "_law_same" sp_q30){fZ:iK}(qp:cG G k "put" fZ){fX:hE}(qm:eP G k "_law_drawn" fX){kN:bq}(Az:c9 G k "_law_one_right" kN):dr G k ⟨BD,(ag jV).names,[0,1,2],false,false,false,λ_ _=>False⟩ (ak jV) (Gb aX tS fY sp_q30 fZ fX kN):=(aw (bU 5 (cZ xC E.z_len (aK (lM 2) bj) (by decide +kernel))) (aw (mP (jc (aK (bB (dR ax (bB (bF cc (af 0) (ai (aH ax) aG))))) bj) E.z_range) (bg 6 (hn:=by first|decide | (dsimp only;decide) | (dsimp only[aM,aD];decide))) (aw (bU 7 (cZ jt E.z_sorted (aK (lM 2) bj) (by decide +kernel))) (aw (bU 8 (ik (cL (bB (gj (ai (aH (cL (af 7) (bB (bF cc (af 0) (ai (aH (bB (cZ f_len E.z_len (aK (af 7) bj) (by decide +kernel)))) aG))))) (ai (aH (cL (af 7) ax)) (ai (aH (cL (af 7) (LR ax))) aG))))) (bB (bF cc (af 0) (ai (aH ax) aG)))))) (aw (JM 2 (af 8) (sI 2)) (aw (cA (sG false 1 D7 E.kg (eR (aH (af 8)) cO))) (aw (zS 2 (aH (bB (fN qo.mu (xr 0 (eR (aH (af 4)) (uo 2 cO)))))) (af 5) (sI 2)) (aw (cT (ji (gW (bB (zM gK (aK (bB (sG false 1 qp E.kg (eR (aH (iW (lM 2) (af 5))) cO))) (aK (af 5) bj)))))) (aE (a8 (ik pB))) bO) (aw (bU 5 (dR (af 5) ax)) (aE (cT (aW gu (bB (qG (af 6) ax)) ax) (aw (LV (aH (bB (fN qm.mu (xr 0 (uo 2 cO))))) (nO (b8 (bg 8 (hn:=by first|decide | (dsimp only;decide) | (dsimp only[aM,aD];decide))) (b8 (bg 9 (hn:=by first|decide | (dsimp only;decide) | (dsimp only[aM,aD];decide))) ja)))) (aE (cT (ji (gW (bB (fN Az.mu (uo 1 (uo 2 (eR (aH (af 3)) (eR (aH (bB (bF cc (af 0) (ai (aH ax) aG)))) (eR (aH (af 8)) (eR (aH (af 9)) cO)))))))))) (aE (a8 (ik pB))) bO))) bO)))))))))) (aE (a8 (ik pB)))))
abbrev gp:Stmt:=top 40
abbrev B5:List Str:=["script","pot","way","count","kept","own","coming","which","name","bound"]
theorem T7:aB B5 ["script"] (ag gp):=by walk_at "5"
def GF(tV:hE)(aX:hE)(zX:G5)(fY:hE)(sp_q30:bq)(fZ:iK)(tH:iK)(fX:hE)(kN:bq):b5:=(bQ (Ab (aR (aj [] (bw (F8 (ae 0) tP0 (tP1 (aY (.int 1)))))) tN) (S9 1) (bQ (eG [] 2 (fF tV 1 tN)) (bQ (eG [] 3 (bC eQ (aY (.int 1)) (bw (fF aX 1 (aR (aj [] (aY (.int 3))) tN))))) (bQ (eG [] 4 (tMK zX (aR (aj [] (ae 2)) (aR (aj [] (ae 3)) tN)))) (bQ (eG [] 5 UD) (bQ (dU (pC (bD (bw (bC eQ (aY (.int 40)) (bw (fF aX 1 (aR (aj [] (aY (.int 21))) tN))))) dN)) (fK 6) (bQ (FZ 5 (ae 6) (aj [] (bw (JW (Yz fY) (JU 1 (oZ (aj [] (ae 3)) (Hl 5 kP))))))) (cF (kR (pF (bw (tCb sp_q30 (bD (bw (VG fZ 4 (oZ (aj [] (m6 (kS 5) (ae 6))) kP))) (bD (ae 6) dN)))))) (dP [] (oX (aY (.bl false)))) iy))) (bQ (cF (kR (pF (bw (JW tH (JU 1 (JU 4 (JU 5 (oZ (aj [] (ae 2)) (oZ (aj [] (ae 3)) kP))))))))) (dP [] (oX (aY (.bl false)))) iy) (dU (cV (aj [] (bw (yu (aR (aj [] (aY (.int 0))) (aR (aj [] (aY (.int 1))) (aR (aj [] (aY (.int 2))) (aR (aj [] (aY (.int 3))) (aR (aj [] (aY (.int 3))) (aR (aj [] (aY (.int 3))) (aR (aj [] (aY (.int 4))) (aR (aj [] (aY (.int 4))) tN)))))))))))) (fK 7) (bQ (F9 (aj [] (bw (JW (Yz fX) (JU 1 (Hl 5 kP))))) (Ha 2 (gC (fK 8) (gC (fK 9) G9)))) (cF (kR (pF (bw (JW (eX kN) (Hl 4 (Hl 5 (oZ (aj [] (ae 2)) (oZ (aj [] (ae 7)) (oZ (aj [] (ae 8)) (oZ (aj [] (ae 9)) kP)))))))))) (dP [] (oX (aY (.bl false)))) iy)))))))))) (dP [] (oX (aY (.bl true)))))
theorem Xm(E:Gl G)(D9:gD G k "_law_pots"){tV:hE}(Eb:eP G k "_law_way" tV){aX:hE}(cc:eP G k "_law_next" aX){zX:G5}(O7:xg G k zX){fY:hE}(qo:eP G k "_law_point" fY){sp_q30:bq}(gK:c9 G k "_law_same" sp_q30){fZ:iK}(qp:cG G k "put" fZ){tH:iK}(DX:qT G k "_law_changed" tH){fX:hE}(qm:eP G k "_law_drawn" fX){kN:bq}(Az:c9 G k "_law_one_right" kN):dr G k ⟨B5,(ag gp).names,[],false,false,false,λ_ _=>False⟩ (ak gp) (GF tV aX zX fY sp_q30 fZ tH fX kN):=(aw (Tj 1 D9 (ai (aH (bB (ZT (af 0) E6 (E8 ax)))) aG) (aw (bU 2 (bF Eb (af 1) aG)) (aw (bU 3 (dR ax (bB (bF cc (af 1) (ai (aH ax) aG))))) (aw (bU 4 (Tc O7 (ai (aH (af 2)) (ai (aH (af 3)) aG)))) (aw (bU 5 JH) (aw (mP (jc (aK (bB (dR ax (bB (bF cc (af 1) (ai (aH ax) aG))))) bj) E.z_range) (bg 6) (aw (zS 5 (aH (bB (fN qo.mu (xr 1 (eR (aH (af 3)) (uo 5 cO)))))) (af 6) (sI 5)) (aE (cT (ji (gW (bB (zM gK (aK (bB (sG false 4 qp E.kg (eR (aH (iW (lM 5) (af 6))) cO))) (aK (af 6) bj)))))) (aE (a8 (ik pB))) bO)))) (aw (cT (ji (gW (bB (fN DX (xr 1 (xr 4 (xr 5 (eR (aH (af 2)) (eR (aH (af 3)) cO))))))))) (aE (a8 (ik pB))) bO) (aE (mP (gf (aH (bB (gj (ai (aH ax) (ai (aH ax) (ai (aH ax) (ai (aH ax) (ai (aH ax) (ai (aH ax) (ai (aH ax) (ai (aH ax) aG)))))))))))) (bg 7) (aw (LV (aH (bB (fN qm.mu (xr 1 (uo 5 cO))))) (nO (b8 (bg 8) (b8 (bg 9) ja)))) (aE (cT (ji (gW (bB (fN Az.mu (uo 4 (uo 5 (eR (aH (af 2)) (eR (aH (af 7)) (eR (aH (af 8)) (eR (aH (af 9)) cO)))))))))) (aE (a8 (ik pB))) bO)))))))))))) (aE (a8 (ik pB))))
end
section
local macro_rules|`(tactic| walk_at "vx")=>`(tactic| ((try simp only[aP,bu,List.map_cons,List.map_nil,List.length_cons,List.length_nil,List.replicate_succ,List.replicate_zero,List.cons_append,List.nil_append,Nat.reduceAdd,Nat.reduceSub]);(try dsimp only[bQ,F9,qz,Vc.inT,Vc.UH,iy,wx,cF,o9,dP,eG,stD,JV,MO,vB,bw,oX,fzV,oxV,kX,kY,aj,ae,aY,cS,i7,bC,eQ,oY,lK,vQ,pz,Vx,Io,JZ,bf,bV,eqT,neT,Px,LA,leT,gtT,geT,isNone,Vz,UZ,pF,kQ,F7,kR,wq,gq,tP0,tP1,slD,F8,tN,aR,yu,yv,dN,bD,eE,fL,Hv,vK,zp,Er,qw,o5,bE,jm,tCb,fK,G9,gC,Ha,cV,pC,JL,dU,eC,dS,vq,dI,lF,sq?,J5,kH,yV,Vc.Yh,Vc.Yi,Vc.PC,Vc.PD,vA,bu,Et,wu,fF,iw,ownAt,JX,HU,sumF,U2,eF,Iu,pE,JY,J4,kS,UD,m6,inI,IX,AU,wt,FZ,UK,sortI,JW,my,dQ,B8,bI,mN,zo,noB,QB,VB,jJ,kP,oZ,JU,Hl,uc,tMl,VG,UG,VF,tKP,tKE,tKD,tKI,tKN,tKZ,tMK,HM,IJ,Option.map_some,cE,kO,wZ,gF,aP,su,List.getElem?_cons_zero,List.getElem?_cons_succ,List.getElem?_nil,List.set_cons_zero,List.set_cons_succ,List.map_cons,List.map_nil,List.length_cons,List.length_nil,List.replicate_succ,List.replicate_zero,List.cons_append,List.nil_append,Nat.reduceAdd,Nat.reduceSub]);try simp only[List.append_nil,Nat.add_sub_cancel,Nat.zero_add,ack,not_false_eq_true,true_and,and_true,decide_eq_true_eq,ite_true,ite_false,Bool.not_eq_true',decide_eq_false_iff_not,List.getElem?_cons_zero,List.getElem?_cons_succ]))
local macro_rules | `(tactic| symm) => `(tactic| walk_at "vx")
local macro_rules|`(tactic| walk_at "vc")=>`(tactic| repeat (refine And.intro (by first|assumption|decide|omega | (unfold jn;omega) | (unfold aay;omega) | (unfold nz;omega)) ?_))
local macro_rules|`(tactic| walk_at "vg")=>`(tactic| simp only[fK,Ha,gC,G9,List.length_cons,List.length_nil,Nat.reduceAdd,Nat.zero_add,true_and,List.set_cons_zero,List.set_cons_succ,Int.zero_add])
local macro_rules|`(tactic| walk_at "vd")=>`(tactic| symm)
variable [KF]
def bA(b:Bool):Str:=if b=true then "squares" else "streets"
def cw(b:Bool):D:=.str (bA b)
def gU(p:List Int):D:=.tup (p.map D.int)
def Bd(p:List Int):Prop:=p.length<=3/\∀x∈p,-(2^60)<x/\x<2^60
def mW(x:Int):Int:=if x<0 then -x else x
def stepI(b:Bool)(x y:Int):Int:=if b=true then mW (x-y)*mW (x-y)else mW (x-y)
def ju(b:Bool)(p q:List Int):Int:=((p.zip q).map λxy=>stepI b xy.1 xy.2).sum
def gX:bq:=λds Q=>∃b p q,ds=[cw b,gU p,gU q]/\Bd p/\Bd q/\Q (.sh (.int (ju b p q)))
theorem tZ(b:Bool):b7 8 (cw b)=true:=by cases b<;>decide +kernel
theorem oq:b7 8 (.str "streets")=true:=by decide +kernel
theorem oo:b7 8 (.str "squares")=true:=by decide +kernel
theorem mS(b:Bool):jk (cw b) (.str "streets")=!b:=by cases b<;>decide +kernel
theorem mR(b:Bool):jk (cw b) (.str "squares")=b:=by cases b<;>decide +kernel
theorem sz:aca=2^24:=rfl
theorem Ad{p q:List Int}(h:Bd p):(p.zip q).length<=3:=by
 rw[List.length_zip];have:=h.1;omega
theorem yK{α:Type}(l:List α)(f:α->Int):(l.map λa=>D.int (f a)).all isInt=true:=by
 rw[List.all_map];exact ach.mpr λ_ _=>rfl
theorem fo{α:Type}(l:List α)(f:α->Int):(l.map λa=>D.int (f a)).map ly=l.map f:=by
 rw[List.map_map];rfl
theorem Zg(ds:List D)(Q:B->Prop)(h:gX ds Q):Ga {nx:=λ_=>Q (.sh .aQ),rt:=λb _=>Q b} (aP BA.length ds):=by
 obtain⟨b,p,q,rfl,hp,hq,h⟩:=h;unfold Ga gU;symm;rw[wR];refine fb (λp=>.tup [.int p.1,.int p.2]) (λxy:Int×Int=>D.int (mW (xy.1-xy.2))) _ (λxy Ik A ha=>?_) (by have:=Ad (q:=q) hp;rw[sz];omega) ?_
 ·symm
  exact ha
 ·symm
  rw[mS];refine⟨⟨tZ b,oq⟩,?_⟩;cases b with
  | false =>
   refine(if_pos rfl).mpr ?_;refine⟨yK _ _,?_⟩;rw[fo];exact h
  | true =>
   refine(if_neg ∅).mpr ?_
   rw[show(List.map (λxy:Int×Int=>D.int (mW (xy.1-xy.2))) (p.zip q))=(List.map (λxy:Int×Int=>(mW (xy.1-xy.2))) (p.zip q)).map D.int from by rw[List.map_map];rfl]
   refine fb D.int (λd:Int=>D.int (d*d)) _ (λd hd A ha=>?_) (by have:=Ad (q:=q) hp;rw[sz,abZ];omega) ?_
   ·symm
    refine⟨?_,ha⟩;obtain⟨xy,Ik,rfl⟩:=List.mem_map.mp hd;have h1:=hp.2 _ (List.of_mem_zip Ik).1;have h2:=hq.2 _ (List.of_mem_zip Ik).2;unfold jn mW;left
    split<;>omega
   ·symm
    refine⟨yK _ _,?_⟩;rw[fo,List.map_map];exact h
def Good(n:Nat)(pts:List (List Int)):Prop:=(1<=n/\n<=3)/\∀p∈pts,p.length=n/\∀x∈p,-(2^59)<x/\x<2^59
theorem Good.bd{n:Nat}{pts:List (List Int)}(g:Good n pts){p:List Int}(h:p∈pts):Bd p:=⟨by have:=(g.2 p h).1;have:=g.1.2;omega,λx hx=>by have:=(g.2 p h).2 x hx;omega⟩
theorem fA{n i a:Nat}(h:(List.range n)[i]?=some a):a=i/\i<n:=by
 have hi:i<n:=by
  have:=(ab2.mp h).1
  rwa [List.length_range]at this
 rw[List.getElem?_range hi]at h;cases h;exact⟨rfl,hi⟩
def jh(pts:List (List Int)):D:=.lst (pts.map gU)
theorem jN{pts:List (List Int)}{j:Nat}(h:j<pts.length):(pts.map gU)[j]?=some (gU (pts.getD j [])):=by
 rw[acb,List.getD_eq_getElem?_getD,abY h];rfl
theorem getD_mem{pts:List (List Int)}{j:Nat}(h:j<pts.length):pts.getD j []∈pts:=by
 rw[List.getD_eq_getElem?_getD,abY h];exact List.getElem_mem h
def Shape(n:Nat)(pts:List (List Int)):Prop:=(1<=n/\n<=3)/\∀p∈pts,p.length=n
theorem Good.shape{n:Nat}{pts:List (List Int)}(g:Good n pts):Shape n pts:=⟨g.1,λp hp=>(g.2 p hp).1⟩
def iu:bq:=λds Q=>∃c:Int,ds=[.int c]/\1<=c/\c<=3/\Q (.sh .aQ)
theorem E5(ds:List D)(Q:B->Prop)(h:iu ds Q):Gn {nx:=λ_=>Q (.sh .aQ),rt:=λb _=>Q b} (aP BM.length ds):=by
 obtain⟨c,rfl,h1,h2,h⟩:=h;unfold Gn;symm;rw[if_neg ⋯,if_neg ⋯]
 exact h
def tD:bq:=λds Q=>∃(p:List Int) (c:Int),ds=[gU p,.int c]/\(p.length:Int)=c/\Q (.sh .aQ)
theorem Zk(ds:List D)(Q:B->Prop)(h:tD ds Q):UM {nx:=λ_=>Q (.sh .aQ),rt:=λb _=>Q b} (aP L5.length ds):=by
 obtain⟨p,c,rfl,rfl,h⟩:=h;unfold UM gU;symm;rw[abZ];refine⟨⟨rfl,rfl⟩,?_⟩;have e:jk (.int (p.length:Nat)) (.int (p.length:Nat))=true:=by simp [jk]
 rw[if_neg (by rw[e];decide)]
 exact h
def tF:bq:=λds Q=>∃n pts,ds=[jh pts]/\Shape n pts/\Q (.sh .aQ)
theorem Se(ds:List D)(Q:B->Prop)(h:tF ds Q):Gf iu tD {nx:=λ_=>Q (.sh .aQ),rt:=λb _=>Q b} (aP BF.length ds):=by
 obtain⟨n,pts,rfl,hg,h⟩:=h;unfold Gf jh;symm;refine eJ gU pts (λi σ=>∃x,σ=[some (.sh (.lst (pts.map gU))),x]) (λi p σ N' hx hI O6=>?_) (λσ hI=>h) ⟨none,rfl⟩;obtain⟨x,rfl⟩:=hI;have hp:=hg.2 p (List.mem_of_getElem? hx);have h1:=hg.1;have h0:0<pts.length:=Nat.lt_of_le_of_lt (Nat.zero_le _) (ab2.mp hx).1;have h00:=hg.2 _ (getD_mem h0);walk_at "vg";refine au λN2 Aw=>?_;rw[show gU p=.tup (p.map D.int)from rfl]
 symm;rw[abZ];refine⟨_,rfl,by omega,by omega,?_⟩
 symm;subst Aw;symm;refine bo (n:=0) rfl (jN h0) ?_;rw[show gU (pts.getD 0 [])=.tup ((pts.getD 0 []).map D.int)from rfl]
 symm;rw[abZ];refine⟨p,_,rfl,by rw[hp,h00],?_⟩
 exact O6 _ ⟨_,rfl⟩
def nr:bq:=λds Q=>∃b,ds=[cw b]/\Q (.sh .aQ)
theorem Sf(ds:List D)(Q:B->Prop)(h:nr ds Q):GA {nx:=λ_=>Q (.sh .aQ),rt:=λb _=>Q b} (aP B1.length ds):=by
 obtain⟨b,rfl,h⟩:=h;unfold GA;symm;refine⟨⟨tZ b,oq⟩,?_⟩;rw[mS];cases b with
 | false=>exact h
 | true =>
  refine(if_pos rfl).mpr ⟨⟨tZ true,oo⟩,?_⟩;rw[mR];exact h
def oO:bq:=λds Q=>∃n b pts,ds=[jh pts,cw b]/\Shape n pts/\Q (.sh .aQ)
theorem Zn(ds:List D)(Q:B->Prop)(h:oO ds Q):UN tF nr {nx:=λ_=>Q (.sh .aQ),rt:=λb _=>Q b} (aP L6.length ds):=by
 obtain⟨n,b,pts,rfl,hg,h⟩:=h;unfold UN;symm;refine⟨n,pts,rfl,hg,?_⟩;symm;exact⟨b,rfl,h⟩
def pv:Nat->D->Bool
 | _,.aQ=>true
 | _,.int _=>true
 | n+1,.tup xs=>decide (xs.length<=1000000)&&xs.all (pv n)
 | n+1,.lst xs=>decide (xs.length<=1000000)&&xs.all (pv n)
 | _,_=>false
theorem rH(i:Int):jk (.int i) (.int i)=true:=by simp [jk]
theorem nk(m:Nat)(i:Int):pv m (.int i)=true:=by cases m<;>rfl
def pairD(b:Bool)(pts:List (List Int))(i j:Nat):D:=.tup [.int (ju b (pts.getD i []) (pts.getD j [])),.int i,.int j]
def iG(b:Bool)(pts:List (List Int))(i m:Nat):List D:=(List.range m).map λt=>pairD b pts i (i+1+t)
def gm(b:Bool)(pts:List (List Int)):Nat->List D
 | 0=>[]
 | i+1=>gm b pts i++iG b pts i (pts.length-(i+1))
def cz(b:Bool)(pts:List (List Int)):List D:=gm b pts pts.length
theorem wd(b:Bool)(pts:List (List Int))(i m:Nat):(iG b pts i m).length=m:=by unfold iG;rw[abZ,List.length_range]
theorem lN(b:Bool)(pts:List (List Int))(i m:Nat):iG b pts i (m+1)=iG b pts i m++[pairD b pts i (i+1+m)]:=by unfold iG;rw[List.range_succ,List.map_append];rfl
theorem qK(b:Bool)(pts:List (List Int)):∀i,(gm b pts i).length<=i*pts.length
 | 0=>Nat.zero_le _
 | i+1=>by
  have ih:=qK b pts i;show(gm b pts i++iG b pts i (pts.length-(i+1))).length<=_;rw[List.length_append,wd,Nat.succ_mul];omega
theorem zQ{b:Bool}{pts:List (List Int)}{i:Nat}(hl:pts.length<=1000)(hi:i<=pts.length):(gm b pts i).length<=1000000:=
 Nat.le_trans (qK b pts i) (Nat.mul_le_mul (show i<=1000 by omega) hl)
theorem oA{b:Bool}{pts:List (List Int)}(hl:pts.length<=1000):(cz b pts).length<=1000000:=zQ hl (ab3 _)
theorem oG{b:Bool}{pts:List (List Int)}:∀ {i:Nat} {d:D},d∈gm b pts i->∃p q,p<i/\p<q/\(i<=pts.length->q<pts.length)/\d=pairD b pts p q
 | i+1,d,h=>by
  rcases List.mem_append.mp (show d∈gm b pts i++iG b pts i (pts.length-(i+1))from h)with h|h
  ·obtain⟨p,q,h1,h2,h3,h4⟩:=oG h
   exact⟨p,q,by omega,h2,λz=>h3 ⋯,h4⟩
  ·obtain⟨t,ht,rfl⟩:=List.mem_map.mp h
   have ht:=List.mem_range.mp ht;exact⟨i,i+1+t,by omega,by omega,λz=>by omega,rfl⟩
theorem cK{b:Bool}{pts:List (List Int)}{d:D}(h:d∈cz b pts):∃p q,p<q/\q<pts.length/\d=pairD b pts p q:=by
 obtain⟨p,q,h1,h2,h3,h4⟩:=oG h;exact⟨p,q,h2,h3 (ab3 _),h4⟩
theorem xY(b:Bool)(pts:List (List Int)):(cz b pts).all eU=true:=ach.mpr λd hd=>by
 obtain⟨p,q,_,_,rfl⟩:=cK hd;rfl
def kK:bq:=λds Q=>∃b n pts,ds=[jh pts,cw b]/\Good n pts/\pts.length<=1000/\Q (.own (cz b pts))
def tY(sp:bq)(rest:b5):b5:=(bQ (eG [] 2 (yu tN)) (bQ (dU (pC (bD (bw (eE fL (bD (ae 0) dN))) dN)) (fK 3) (dU (JL (bD (bw (bC eQ (ae 3) (aY (.int 1)))) (bD (bw (eE fL (bD (ae 0) dN))) dN))) (fK 4) (o9 (JV (ae 2) (aj [] (yv (aR (aj [] (bw (jm sp (aR (aj [] (ae 1)) (aR (aj [] (gq (ae 0) (ae 3))) (aR (aj [] (gq (ae 0) (ae 4))) tN)))))) (aR (aj [] (ae 3)) (aR (aj [] (ae 4)) tN))))))))) rest))
theorem E9{b:Bool}{n:Nat}{pts:List (List Int)}{rest:b5}{De:iJ}(hg:Good n pts)(hl:pts.length<=1000)(h:∀x3 x4,rest De [some (.sh (jh pts)),some (.sh (cw b)),some (.own (cz b pts)),x3,x4]):
  tY gX rest De [some (.sh (jh pts)),some (.sh (cw b)),none,none,none]:=by
 unfold tY;refine au λN hN=>?_;symm;refine⟨by decide,?_⟩
 subst hN;refine au λN hN=>?_;rw[show jh pts=.lst (pts.map gU)from rfl]
 symm;rw[abZ,Int.toNat_natCast,dg];refine⟨by omega,eJ (λi:Nat=>.int (0+(i:Nat))) (List.range pts.length) (λi σ=>∃x3 x4,σ=[some (.sh (.lst (pts.map gU))),some (.sh (cw b)),some (.own (gm b pts i)),x3,x4]) (λi a σ N' hx hI O6=>?_) (λσ hI=>?_) ⟨none,none,rfl⟩⟩
 ·obtain⟨rfl,hi⟩:=fA hx
  obtain⟨x3,x4,rfl⟩:=hI;walk_at "vg";symm;rw[abZ,dg];refine⟨by omega,?_⟩
  rw[show((pts.length:Int)-((a:Int)+1)).toNat=pts.length-(a+1)by omega]
  refine eJ (λt:Nat=>.int ((a:Int)+1+(t:Nat))) (List.range (pts.length-(a+1))) (λm σ=>∃x4,σ=[some (.sh (.lst (pts.map gU))),some (.sh (cw b)),some (.own (gm b pts a++iG b pts a m)),some (.sh (.int a)),x4]) (λm t σ N2 zc hI2 Aw=>?_) (λσ hI2=>?_) ⟨x4,by rw[show iG b pts a 0=[]from rfl,List.append_nil]⟩
  ·obtain⟨rfl,ht⟩:=fA zc
   obtain⟨x4,rfl⟩:=hI2;symm;have hj:a+1+t<pts.length:=by omega
   refine⟨⟨_,rfl⟩,?_⟩;refine bo (n:=a) rfl (jN hi) ?_;refine bo (n:=a+1+t) ⋯ (jN hj) ?_
   symm;refine⟨b,_,_,rfl,hg.bd (getD_mem hi),hg.bd (getD_mem hj),?_⟩;symm;have hz:=zQ (b:=b) hl (show a<=pts.length by omega)
   refine⟨by decide,by rw[sz,List.length_append,wd];omega,Aw _ ⟨some (.sh (.int ((a:Int)+1+(t:Int)))),?_⟩⟩
   rw[lN,List.append_assoc];unfold pairD;rw[show((a+1+t:Nat):Int)=(a:Int)+1+(t:Int)by omega]
  ·obtain⟨x4,rfl⟩:=hI2
   rw[List.length_range];exact O6 _ ⟨some (.sh (.int a)),x4,rfl⟩
 ·obtain⟨x3,x4,rfl⟩:=hI
  subst hN;rw[List.length_range];exact h x3 x4
theorem Jo(ds:List D)(Q:B->Prop)(h:kK ds Q):aau gX {nx:=λ_=>Q (.sh .aQ),rt:=λb _=>Q b} (aP L8.length ds):=by
 obtain⟨b,n,pts,rfl,hg,hl,h⟩:=h;exact E9 hg hl λx3 x4=>by symm;exact h
theorem pM{xs:List D}(h:xs.all eU=true):du xs=(fC xs).head?:=by
 have key:∀(l:List D) (b:D),(∀x∈l,eU x=true)->eU b=true->∃m,l.foldl (λb y=>if ltI y b=true then y else b) b=m/\(m=b\/m∈l)/\eU m=true/\mI m b=true/\∀x∈l,mI m x=true:=by
  intro l
  induction l with
  | nil=>intro b _ hb;exact⟨b,rfl,.inl rfl,hb,by unfold mI;rw[Vs.dZ];rfl,λx hx=>by cases hx⟩
  | cons y l ih =>
   intro b hl hb;have hy:=hl y (ab8 ..);have lt:ltI y b=HT.lexLt (eW y) (eW b):=by
    rw[eK hy,eK hb];rfl
   rw[List.foldl_cons]
   by_cases e:ltI y b=true
   ·rw[if_pos e]
    obtain⟨m,m1,m2,m3,m4,m5⟩:=ih y (λx hx=>hl x (ab1 _ hx)) hy;refine⟨m,m1,?_,m3,?_,λx hx=>?_⟩
    ·rcases m2 with rfl|m2
     ·exact .inr (ab8 ..)
     ·exact .inr (ab1 _ m2)
    ·refine lE m y b m4 ?_
     unfold mI;rw[lt]at e;cases e2:HT.lexLt (eW b) (eW y)with
     | false=>rfl
     | true=>have:=Vs.fk _ _ _ e e2;rw[Vs.dZ]at this;cases this
    ·rcases ab6.mp hx with rfl|hx
     ·exact m4
     ·exact m5 x hx
   ·rw[if_neg e]
    obtain⟨m,m1,m2,m3,m4,m5⟩:=ih b (λx hx=>hl x (ab1 _ hx)) hb;refine⟨m,m1,?_,m3,m4,λx hx=>?_⟩
    ·rcases m2 with rfl|m2
     ·exact .inl rfl
     ·exact .inr (ab1 _ m2)
    ·rcases ab6.mp hx with rfl|hx
     ·refine lE m b x m4 ?_
      unfold mI;rw[lt]at e;simpa using e
     ·exact m5 x hx
 have hp:=er xs;have hs:=fS xs;cases xs with
 | nil=>rw[List.perm_nil.mp hp];rfl
 | cons x xs =>
  have all:=ach.mp h;obtain⟨m,m1,m2,m3,m4,m5⟩:=key xs x (λy hy=>all y (ab1 _ hy)) (all x (ab8 ..));have hm:m∈x::xs:=by rcases m2 with rfl|m2;exact ab8 ..;exact ab1 _ m2
  have iD:∀y∈x::xs,mI m y=true:=λy hy=>by
   rcases ab6.mp hy with rfl|hy
   ·exact m4
   ·exact m5 y hy
  show some _=_;rw[m1];cases e:fC (x::xs)with
  | nil=>rw[e]at hp;exact absurd hp.length_eq (by simp)
  | cons a l =>
   rw[e]at hp hs;have ha:a∈x::xs:=hp.mem_iff.mp (ab8 ..);have h1:=iD a ha;have h2:mI a m=true:=by
    rcases ab6.mp (hp.mem_iff.mpr hm)with rfl|hm
    ·unfold mI;rw[Vs.dZ];rfl
    ·exact(List.pairwise_cons.mp hs).1 m hm
   unfold mI at h1 h2;simp only[Bool.not_eq_true']at h1 h2;show some m=some a;rw[eK m3,eK (all a ha),Vs.n6 _ _ h2 h1]
def cX(xs:List D):Prop:=∃c n:Int,xs=[.int c,.int n]
def fU:hE:=λxs ds Q=>cX xs/\∃m:Int,ds=[.int m]/\1<=m/\m<2^200/\∀r ys,0<=r->r<m->cX ys->Q (.sh (.int r)) ys
theorem Sb(xs ds:List D)(Q:B->List D->Prop)(h:fU xs ds Q):Gy {nx:=vA Q (.sh .aQ),rt:=λb σ=>vA Q b σ} (bu BX.length xs ds):=by
 obtain⟨⟨x,y,rfl⟩,m,rfl,hm,lx,h⟩:=h;unfold Gy;refine au λN hN=>?_;simp only[bu];symm;refine⟨⟨_,rfl⟩,?_⟩;subst hN;refine au λN hN=>?_;symm;subst hN;refine au λN hN=>?_;symm;refine⟨by unfold nz;decide,?_⟩
 split
 ·refine⟨by unfold yE;omega,⟨_,rfl⟩,by omega,?_⟩
  exact h _ _ (Int.emod_nonneg _ ⋯) (Int.emod_lt_of_pos _ ⋯) ⟨_,_,rfl⟩
 ·subst hN
  symm;refine⟨by unfold jn;omega,by unfold jn;omega,by decide,by unfold jn;omega,by decide,by unfold jn;omega,by unfold jn;omega,by decide,by unfold yE;decide,by omega,?_⟩
  exact h _ _ (Int.emod_nonneg _ ⋯) (Int.emod_lt_of_pos _ ⋯) ⟨_,_,rfl⟩
def tG:hE:=λxs ds Q=>cX xs/\ds=[]/\∀b ys,cX ys->Q (.sh (cw b)) ys
theorem Sg(xs ds:List D)(Q:B->List D->Prop)(h:tG xs ds Q):GD fU {nx:=vA Q (.sh .aQ),rt:=λb σ=>vA Q b σ} (bu B4.length xs ds):=by
 obtain⟨r0,rfl,h⟩:=h;unfold GD;simp only[bu];symm;refine⟨by decide,⟨_,rfl⟩,r0,2,rfl,by decide,by decide,λr ys h0 h1 r1=>?_⟩
 symm;refine cW h0 (by simp only[List.length_cons,List.length_nil];omega) λd hd=>?_
 simp only[ab6,ack,or_false]at hd;rcases hd with rfl|rfl
 ·exact h false ys r1
 ·exact h true ys r1
def xf(v:Int):Prop:=-(10^15)<=v/\v<=10^15
theorem R8(ds:List D)(Q:B->Prop)(h:gX ds Q):GC {nx:=λ_=>Q (.sh .aQ),rt:=λb _=>Q b} (aP B3.length ds):=by
 obtain⟨b,p,q,rfl,hp,hq,h⟩:=h;unfold GC gU;symm;rw[wR];refine eJ (λp=>.tup [.int p.1,.int p.2]) (p.zip q) (λi σ=>∃x y z,σ=[some (.sh (cw b)),some (.sh (gU p)),some (.sh (gU q)),some (.sh (.int ((((p.zip q).take i).map λxy:Int×Int=>stepI b xy.1 xy.2).sum))),x,y,z]) (λi xy σ N Ik hI hN=>?_) (λσ hI=>?_) ⟨none,none,none,rfl⟩
 ·obtain⟨x,y,z,rfl⟩:=hI
  have hm:=List.mem_of_getElem? Ik;have h1:=hp.2 _ (List.of_mem_zip hm).1;have h2:=hq.2 _ (List.of_mem_zip hm).2;symm;rw[mR];refine⟨?_,by decide,⟨tZ b,oo⟩,?_⟩
  ·unfold jn;split<;>omega
  ·have e:(if xy.2-xy.1>xy.1-xy.2 then xy.2-xy.1 else xy.1-xy.2)=mW (xy.1-xy.2):=by unfold mW;split<;>split<;>omega
   rw[e];have hs:((((p.zip q).take (i+1)).map λxy:Int×Int=>stepI b xy.1 xy.2).sum)=(((p.zip q).take i).map λxy:Int×Int=>stepI b xy.1 xy.2).sum+stepI b xy.1 xy.2:=by
    rw[List.take_add_one,Ik];simp
   cases b with
   | false =>
    refine bo (n:=0) rfl rfl ?_;symm;exact hN _ ⟨_,_,_,by rw[hs];rfl⟩
   | true =>
    refine bo (n:=1) rfl rfl ?_;symm;exact hN _ ⟨_,_,_,by rw[hs];rfl⟩
 ·obtain⟨x,y,z,rfl⟩:=hI
  symm;rw[List.take_length];exact h
def dY:Nat->bq
 | 0=>λ_ _=>False
 | n+1=>λds Q=>∃x,ds=[x,x]/\pv n x=true/\Q (.sh (.bl true))
theorem rM{α β:Type}:∀l:List α,l.filterMap (λ_=>(none:Option β))=[]
 | []=>rfl
 | _::l=>by rw[List.filterMap_cons_none rfl,rM l]
theorem Jb{n:Nat}{xs:List D}(h:pv (n+1) (.lst xs)=true):xs.length<=1000000/\∀x∈xs,pv n x=true:=by
 have h':(decide (xs.length<=1000000)&&xs.all (pv n))=true:=h;rw[Bool.and_eq_true]at h';exact⟨of_decide_eq_true h'.1,ach.mp h'.2⟩
theorem Jc{n:Nat}{xs:List D}(h:pv (n+1) (.tup xs)=true):xs.length<=1000000/\∀x∈xs,pv n x=true:=by
 have h':(decide (xs.length<=1000000)&&xs.all (pv n))=true:=h;rw[Bool.and_eq_true]at h';exact⟨of_decide_eq_true h'.1,ach.mp h'.2⟩
theorem xU{n:Nat}{xs:List D}(h1:xs.length<=1000000)(h2:∀x∈xs,pv n x=true):pv (n+1) (.lst xs)=true/\pv (n+1) (.tup xs)=true:=by
 have:(decide (xs.length<=1000000)&&xs.all (pv n))=true:=by rw[Bool.and_eq_true];exact⟨decide_eq_true h1,ach.mpr h2⟩
 exact⟨this,this⟩
theorem xX(n:Nat)(ds:List D)(Q:B->Prop)(h:dY (n+1) ds Q):Gz (dY n) {nx:=λ_=>Q (.sh .aQ),rt:=λb _=>Q b} (aP BZ.length ds):=by
 obtain⟨x,rfl,ok,h⟩:=h;unfold Gz;cases x with
 | aQ=>symm;exact h
 | int i =>
  symm;have e:jk (.int i) (.int i)=true:=rH i;have e2:jk (.bl false) (.bl false)=true:=rfl;refine(if_neg ∅).mpr ((if_neg ∅).mpr ((if_pos ∅).mpr ?_))
  refine⟨⟨rfl,rfl⟩,?_⟩;refine(if_pos ∅).mpr ⟨⟨rfl,rfl⟩,?_⟩
  rw[e];exact h
 | tup xs =>
  cases n with
  | zero=>cases ok
  | succ n =>
   obtain⟨hl,ha⟩:=Jc ok;symm;refine(if_neg ∅).mpr ((if_pos ∅).mpr ⟨⟨rfl,rfl⟩,(if_neg ∅).mpr ((if_neg ∅).mpr ⟨⟨rfl,rfl⟩,(if_neg (by rw[rH];decide)).mpr ?_⟩)⟩)
   rw[Int.toNat_natCast,dg];refine⟨by omega,e9 (λi:Nat=>.int (0+(i:Nat))) (λ_=>none) (List.range xs.length) (λi hi A Bn hB=>?_) (by rw[sz,List.length_range];omega) ?_⟩
   ·have hi:=List.mem_range.mp hi
    symm;refine dB (n:=i) ⋯ (abY hi) ?_
    refine dB (n:=i) ⋯ (abY hi) ?_
    symm;exact⟨_,rfl,ha _ (List.getElem_mem hi),hB⟩
   ·rw[rM]
    exact⟨Nat.zero_le _,⟨rfl,rfl⟩,h⟩
 | lst xs =>
  cases n with
  | zero=>cases ok
  | succ n =>
   obtain⟨hl,ha⟩:=Jb ok;symm;refine(if_neg ∅).mpr ((if_pos ∅).mpr ⟨⟨rfl,rfl⟩,(if_neg ∅).mpr ((if_neg ∅).mpr ⟨⟨rfl,rfl⟩,(if_neg (by rw[rH];decide)).mpr ?_⟩)⟩)
   rw[Int.toNat_natCast,dg];refine⟨by omega,e9 (λi:Nat=>.int (0+(i:Nat))) (λ_=>none) (List.range xs.length) (λi hi A Bn hB=>?_) (by rw[sz,List.length_range];omega) ?_⟩
   ·have hi:=List.mem_range.mp hi
    symm;refine bo (n:=i) ⋯ (abY hi) ?_
    refine bo (n:=i) ⋯ (abY hi) ?_
    symm;exact⟨_,rfl,ha _ (List.getElem_mem hi),hB⟩
   ·rw[rM]
    exact⟨Nat.zero_le _,⟨rfl,rfl⟩,h⟩
 | str _=>cases n<;>cases ok
 | bl _=>cases n<;>cases ok
 | dct _=>cases n<;>cases ok
 | exc _=>cases n<;>cases ok
 | jj _=>cases n<;>cases ok
 | dM _=>cases n<;>cases ok
 | kp _ _ _ _=>cases n<;>cases ok
def m7(b:Bool)(pts:List (List Int)):D:=(du (cz b pts)).getD .aQ
def yq:bq:=λds Q=>∃b n pts,ds=[jh pts,cw b]/\Good n pts/\pts.length<=1000/\Q (.sh (m7 b pts))
theorem Zt(ds:List D)(Q:B->Prop)(h:yq ds Q):Gd oO kK {nx:=λ_=>Q (.sh .aQ),rt:=λb _=>Q b} (aP BE.length ds):=by
 obtain⟨b,n,pts,rfl,hg,hl,h⟩:=h;unfold Gd;refine au λN hN=>?_;symm;refine⟨n,b,pts,rfl,hg.shape,?_⟩;symm;subst hN;symm;refine⟨b,n,pts,rfl,hg,hl,?_⟩;symm;refine⟨.inr (ach.mpr λd hd=>?_),h⟩;obtain⟨p,q,_,_,rfl⟩:=cK hd;rfl
def eI(b:Bool)(pts:List (List Int))(p:List Int)(j:Nat):D:=.tup [.int (ju b p (pts.getD j [])),.int j]
def yQ(b:Bool)(pts:List (List Int))(p:List Int)(js:List Nat):D:=(du (js.map (eI b pts p))).getD .aQ
def oM:bq:=λds Q=>∃b n pts p js,ds=[jh pts,cw b,gU p,.lst (js.map λj:Nat=>.int j)]/\Good n pts/\Bd p/\js.length<=1000/\(∀j∈js,j<pts.length)/\Q (.sh (yQ b pts p js))
theorem Jj(ds:List D)(Q:B->Prop)(h:oM ds Q):UT gX {nx:=λ_=>Q (.sh .aQ),rt:=λb _=>Q b} (aP Md.length ds):=by
 obtain⟨b,n,pts,p,js,rfl,hg,hp,hl,hj,h⟩:=h;unfold UT jh;symm;refine fb (λj:Nat=>.int j) (eI b pts p) js (λj hm A ha=>?_) (by rw[sz];omega) ?_
 ·symm
  refine bo (n:=j) rfl (jN (hj j hm)) ?_;symm;refine⟨b,p,_,rfl,hp,hg.bd (getD_mem (hj j hm)),?_⟩;symm;exact⟨by decide,ha⟩
 ·symm
  refine⟨.inr ?_,h⟩;rw[List.all_map];exact ach.mpr λ_ _=>rfl
def others(n:Nat)(j:Int):List Nat:=(List.range n).filter λi=>decide ((i:Int)≠j)
def gh(b:Bool)(pts:List (List Int))(j:Nat):D:=yQ b pts (pts.getD j []) (others pts.length j)
theorem fc{α β:Type}(p:α->Bool)(f:α->β):∀l:List α,l.filterMap (λa=>if p a=true then some (f a)else none)=(l.filter p).map f
 | []=>rfl
 | a::l=>by
  cases e:p a with
  | true=>rw[List.filterMap_cons_some (by rw[e];rfl),List.filter_cons_of_pos e,List.map_cons,fc p f l]
  | false=>rw[List.filterMap_cons_none (by rw[e];rfl),List.filter_cons_of_neg (by rw[e];decide),fc p f l]
theorem fw{n i:Nat}{j:Int}(h:i∈others n j):i<n:=List.mem_range.mp (List.mem_filter.mp h).1
theorem ou(n:Nat)(j:Int):(others n j).length<=n:=by
 have:=List.length_filter_le (λi:Nat=>decide ((i:Int)≠j)) (List.range n);rw[List.length_range]at this;exact this
def fD:bq:=λds Q=>∃b n pts j,ds=[jh pts,cw b,.int (j:Nat)]/\Good n pts/\pts.length<=1000/\j<pts.length/\Q (.sh (gh b pts j))
theorem Jn(ds:List D)(Q:B->Prop)(h:fD ds Q):UU oM {nx:=λ_=>Q (.sh .aQ),rt:=λb _=>Q b} (aP Mf.length ds):=by
 obtain⟨b,n,pts,j,rfl,hg,hl,hj,h⟩:=h;unfold UU jh;refine au λN hN=>?_;symm;rw[abZ,Int.toNat_natCast,dg];refine⟨by omega,e9 (λi:Nat=>.int (0+(i:Nat))) (λi:Nat=>if decide ((i:Int)≠(j:Int))=true then some (.int (i:Nat))else none) _ (λi hm A Bn ha=>?_) (by rw[List.length_range,sz];omega) ?_⟩
 ·symm
  refine⟨⟨rfl,rfl⟩,?_⟩;rw[Int.zero_add]
  by_cases e:i=j
  ·subst e
   have e2:jk (.int (i:Nat)) (.int (i:Nat))=true:=by simp [jk]
   rw[if_neg (by rw[e2];decide)]
   rw[if_neg (by simp)]at ha
   exact ha
  ·have e2:jk (.int (i:Nat)) (.int (j:Nat))=false:=by simp [jk];omega
   rw[if_pos (by rw[e2])]
   rw[if_pos (decide_eq_true ⋯)]at ha
   exact ha
 ·rw[fc]
  symm;subst hN;symm;refine bo (n:=j) rfl (jN hj) ?_;symm;exact⟨b,n,pts,_,others pts.length j,rfl,hg,hg.bd (getD_mem hj),by have:=ou pts.length j;omega,λi hi=>fw hi,h⟩
theorem m9(b:Bool)(pts:List (List Int))(p:List Int):∀js:List Nat,(js=[]/\yQ b pts p js=.aQ)\/∃k∈js,yQ b pts p js=eI b pts p k
 | []=>.inl ⟨rfl,rfl⟩
 | j::js=>.inr (by
  show∃k∈j::js,(js.map (eI b pts p)).foldl (λb y=>if ltI y b=true then y else b) (eI b pts p j)=eI b pts p k
  have key:∀(rest:List Nat) (i:Nat),(∀x∈rest,x∈j::js)->i∈j::js->∃k∈j::js,(rest.map (eI b pts p)).foldl (λb y=>if ltI y b=true then y else b) (eI b pts p i)=eI b pts p k:=by
   intro rest
   induction rest with
   | nil=>intro i _ hi;exact⟨i,hi,rfl⟩
   | cons x rest ih =>
    intro i hr hi;rw[List.map_cons,List.foldl_cons]
    split
    ·exact ih x (λy hy=>hr y (ab1 _ hy)) (hr x (ab8 ..))
    ·exact ih i (λy hy=>hr y (ab1 _ hy)) hi
  exact key js j (λx hx=>ab1 _ hx) (ab8 ..))
def Mh(n:Nat)(nn:Nat->Option (Int×Nat)):Prop:=∀i f k,i<n->nn i=some (f,k)->k<n/\(nn k).isSome=true
def nnD:Option (Int×Nat)->D
 | none=>.aQ
 | some p=>.tup [.int p.1,.int (p.2:Nat)]
theorem xW{n j k:Nat}(h:k∈others n (j:Int)):k≠j:=by
 have:=(List.mem_filter.mp h).2;have:=of_decide_eq_true this;omega
def YD:D->Option (Int×Nat)
 | .tup [.int f,.int k]=>some (f,k.toNat)
 | _=>none
theorem EZ(o:Option (Int×Nat)):YD (nnD o)=o:=by
 cases o with
 | none=>rfl
 | some p=>show some (p.1,((p.2:Nat):Int).toNat)=some p;rw[Int.toNat_natCast]
def IY(b:Bool)(pts:List (List Int))(i:Nat):Option (Int×Nat):=YD (gh b pts i)
theorem IV(b:Bool)(pts:List (List Int)):(∀i,gh b pts i=nnD (IY b pts i))/\Mh pts.length (IY b pts):=by
 have h1:∀i,gh b pts i=nnD (IY b pts i)/\(∀f k,IY b pts i=some (f,k)->k<pts.length/\k≠i)/\(IY b pts i=none->others pts.length (i:Int)=[]):=by
  intro i;have go:∀o,gh b pts i=nnD o->IY b pts i=o:=λo e=>by unfold IY;rw[e,EZ]
  rcases m9 b pts (pts.getD i []) (others pts.length (i:Int))with⟨h1,h2⟩|⟨k,h1,h2⟩
  ·have e:=go none h2
   rw[e];exact⟨h2,λf k e=>(by cases e),λ_=>h1⟩
  ·have e:=go (some (ju b (pts.getD i []) (pts.getD k []),k)) h2
   rw[e];exact⟨h2,λf k' e=>by cases e;exact⟨fw h1,xW h1⟩,λe=>by cases e⟩
 refine⟨λi=>(h1 i).1,λi f k hi e=>?_⟩;obtain⟨hk,cy⟩:=(h1 i).2.1 f k e;refine⟨hk,?_⟩;cases e2:IY b pts k with
 | some _=>rfl
 | none =>
  have:=(h1 k).2.2 e2;have hm:i∈others pts.length (k:Int):=List.mem_filter.mpr ⟨List.mem_range.mpr hi,decide_eq_true ⋯⟩
  rw[this]at hm;cases hm
def lU:bq:=λds Q=>∃pts j,ds=[jh pts,.int (j:Nat)]/\j<pts.length/\Q (.sh .aQ)
theorem E7(ds:List D)(Q:B->Prop)(h:lU ds Q):Gp {nx:=λ_=>Q (.sh .aQ),rt:=λb _=>Q b} (aP BO.length ds):=by
 obtain⟨pts,j,rfl,hj,h⟩:=h;unfold Gp jh;symm;rw[abZ];rw[if_neg ⋯,if_neg ⋯]
 exact h
def VH(t:Int×Nat×Nat):D:=.tup [.int t.1,.int (t.2.1:Nat),.int (t.2.2:Nat)]
theorem LZ{b:Bool}{pts:List (List Int)}:∀l:List D,(∀d∈l,∃i j,d=pairD b pts i j)->∃ts:List (Int×Nat×Nat),l=ts.map VH
 | [],_=>⟨[],rfl⟩
 | d::l,h=>by
  obtain⟨i,j,rfl⟩:=h d (ab8 ..);obtain⟨ts,e⟩:=LZ l λx hx=>h x (ab1 _ hx);exact⟨(_,i,j)::ts,by rw[e];rfl⟩
theorem Fb(b:Bool)(pts:List (List Int)):∃ts:List (Int×Nat×Nat),cz b pts=ts.map VH:=LZ (b:=b) (pts:=pts) _ λd hd=>by
 obtain⟨p,q,_,_,h⟩:=cK hd;exact⟨p,q,h⟩
def nearF(bound:Int):D->Option D
 | .tup [.int f,.int i,.int j]=>if f<=bound then some (.tup [.int i,.int j])else none
 | _=>none
theorem ER(bound:Int)(t:Int×Nat×Nat):nearF bound (VH t)=if decide (t.1<=bound)=true then some (.tup [.int (t.2.1:Nat),.int (t.2.2:Nat)])else none:=by
 show(if t.1<=bound then _ else _)=_
 by_cases h:t.1<=bound
 ·rw[if_pos h,if_pos (decide_eq_true h)]
 ·rw[if_neg h,if_neg (by rw[decide_eq_false h];decide)]
def iV(b:Bool)(pts:List (List Int))(bound:Int):List D:=(cz b pts).filterMap (nearF bound)
def VM(b:Bool)(pts:List (List Int))(d d':D):Prop:=∃i j i' j':Nat,d=pairD b pts i j/\d'=pairD b pts i' j'/\(i<i'\/(i=i'/\j<j'))
theorem FO(b:Bool)(pts:List (List Int))(i:Nat):∀m,(iG b pts i m).Pairwise (VM b pts)
 | 0=>List.Pairwise.nil
 | m+1=>by
  rw[lN];refine List.pairwise_append.mpr ⟨FO b pts i m,List.pairwise_singleton ..,λx hx y hy=>?_⟩;rw[ab5.mp hy];obtain⟨t,ht,rfl⟩:=List.mem_map.mp hx;have:=List.mem_range.mp ht;exact⟨i,i+1+t,i,i+1+m,rfl,rfl,.inr ⟨rfl,by omega⟩⟩
theorem zR(b:Bool)(pts:List (List Int)):∀i,(gm b pts i).Pairwise (VM b pts)
 | 0=>List.Pairwise.nil
 | i+1=>by
  refine List.pairwise_append.mpr ⟨zR b pts i,FO b pts i _,λx hx y hy=>?_⟩;obtain⟨p,q,h1,_,_,rfl⟩:=oG hx;obtain⟨t,_,rfl⟩:=List.mem_map.mp hy;exact⟨p,q,i,i+1+t,rfl,rfl,.inl h1⟩
theorem vS(b:Bool)(pts:List (List Int))(bound:Int):(iV b pts bound).Pairwise λx y=>mI x y=true:=by
 unfold iV;rw[List.pairwise_filterMap];refine(zR b pts pts.length).imp λ{x y} h u hu v hv=>?_;obtain⟨i,j,i',j',rfl,rfl,h⟩:=h;have e1:u=.tup [.int (i:Nat),.int (j:Nat)]:=by
  have:(if ju b (pts.getD i []) (pts.getD j [])<=bound then some (D.tup [.int (i:Nat),.int (j:Nat)])else none)=some u:=hu
  split at this
  ·exact(Option.some.inj this).symm
  ·cases this
 have e2:v=.tup [.int (i':Nat),.int (j':Nat)]:=by
  have:(if ju b (pts.getD i' []) (pts.getD j' [])<=bound then some (D.tup [.int (i':Nat),.int (j':Nat)])else none)=some v:=hv
  split at this
  ·exact(Option.some.inj this).symm
  ·cases this
 subst e1 e2;unfold mI;show(!HT.lexLt [(i':Int),(j':Int)] [(i:Int),(j:Int)])=true;rw[HT.bT,HT.bT]
 by_cases e:(i':Int)=(i:Int)
 ·rw[if_pos e,if_neg ⋯,decide_eq_false ⋯];rfl
 ·rw[if_neg e,decide_eq_false ⋯];rfl
theorem EY(b:Bool)(pts:List (List Int))(bound:Int):(iV b pts bound).length<=(cz b pts).length:=List.length_filterMap_le _ _
def lR:bq:=λds Q=>∃j:Int,ds=[.int j]/\0<=j/\Q (.sh .aQ)
theorem E4(ds:List D)(Q:B->Prop)(h:lR ds Q):Gm {nx:=λ_=>Q (.sh .aQ),rt:=λb _=>Q b} (aP BL.length ds):=by
 obtain⟨j,rfl,hj,h⟩:=h;unfold Gm;symm;rw[if_neg ⋯]
 exact h
def tE:bq:=λds Q=>∃b n pts j,ds=[jh pts,cw b,.int j]/\Good n pts/\pts.length<=1000/\0<=j/\Q (.own (iV b pts j))
theorem R9(ds:List D)(Q:B->Prop)(h:tE ds Q):Gj oO lR kK {nx:=λ_=>Q (.sh .aQ),rt:=λb _=>Q b} (aP BJ.length ds):=by
 obtain⟨b,n,pts,j,rfl,hg,hl,hj,h⟩:=h;unfold Gj;refine au λN hN=>?_;symm;refine⟨n,b,pts,rfl,hg.shape,?_⟩;symm;subst hN;refine au λN hN=>?_;symm;refine⟨j,rfl,hj,?_⟩;symm;subst hN;symm;refine⟨b,n,pts,rfl,hg,hl,?_⟩;symm;have hz:=oA (b:=b) hl;obtain⟨ts,e⟩:=Fb b pts;unfold iV at h;rw[e]at h hz ⊢;rw[abZ]at hz;refine e9 VH (λt=>nearF j (VH t)) ts (λt ht A Bn ha=>?_) (by rw[sz];omega) ?_
 ·rw[ER]at ha
  unfold VH;symm
  by_cases hb:t.1<=j
  ·rw[if_pos (decide_eq_true hb)]at ha
   refine(if_pos hb).mpr ⟨by decide,ha⟩
  ·rw[if_neg (by rw[decide_eq_false hb];decide)]at ha
   exact(if_neg hb).mpr ha
 ·rw[List.filterMap_map]at h
  exact h
def uA(b:Bool)(pts:List (List Int))(j:Nat):List D:=(List.range j).map λi=>pairD b pts i j
def iO(b:Bool)(pts:List (List Int)):Nat->List D
 | 0=>[]
 | j+1=>iO b pts j++uA b pts j
theorem nG(b:Bool)(pts:List (List Int)):∀j,(iO b pts j).length<=j*j
 | 0=>Nat.zero_le _
 | j+1=>by
  have ih:=nG b pts j;show(iO b pts j++uA b pts j).length<=_;rw[List.length_append,uA,abZ,List.length_range,Nat.succ_mul,Nat.mul_succ];omega
theorem uB{b:Bool}{pts:List (List Int)}:∀ {n:Nat} {d:D},d∈iO b pts n ↔ ∃i j,i<j/\j<n/\d=pairD b pts i j
 | 0,d=>⟨(λh=>by cases h),(λ⟨i,j,_,h,_⟩=>by omega)⟩
 | n+1,d=>by
  show d∈iO b pts n++uA b pts n ↔ _;rw[List.mem_append,uB,uA,List.mem_map];constructor
  ·rintro(⟨i,j,h1,h2,h3⟩|⟨i,h1,h2⟩)
   ·exact⟨i,j,h1,by omega,h3⟩
   ·exact⟨i,n,List.mem_range.mp h1,by omega,h2.symm⟩
  ·rintro⟨i,j,h1,h2,h3⟩
   by_cases h:j<n
   ·exact .inl ⟨i,j,h1,h,h3⟩
   ·have:j=n:=by omega
    subst this;exact .inr ⟨i,List.mem_range.mpr h1,h3.symm⟩
def jT(b:Bool)(pts:List (List Int))(n:Nat):Nat->List D
 | 0=>[]
 | i+1=>jT b pts n i++iG b pts i (n-(i+1))
theorem we(b:Bool)(pts:List (List Int)):∀i,jT b pts pts.length i=gm b pts i
 | 0=>rfl
 | i+1=>by show jT b pts pts.length i++_=gm b pts i++_;rw[we b pts i]
theorem Zy{α:Type}(A C R X:List α):((A++C)++(R++X)).Perm ((A++R)++(C++X)):=by
 rw[List.append_assoc,List.append_assoc];refine List.Perm.append_left A ?_;rw[<- List.append_assoc,<- List.append_assoc];exact List.Perm.append_right X List.perm_append_comm
theorem qL(b:Bool)(pts:List (List Int))(n:Nat):∀i,i<=n->(jT b pts (n+1) i).Perm (jT b pts n i++(List.range i).map λt=>pairD b pts t n)
 | 0,_=>List.Perm.refl _
 | i+1,h=>by
  have ih:=qL b pts n i ⋯
  show(jT b pts (n+1) i++iG b pts i (n+1-(i+1))).Perm ((jT b pts n i++iG b pts i (n-(i+1)))++(List.range (i+1)).map λt=>pairD b pts t n);rw[show n+1-(i+1)=n-(i+1)+1 by omega,lN,show i+1+(n-(i+1))=n by omega,List.range_succ,List.map_append]
  exact(List.Perm.append_right _ ih).trans (Zy _ _ _ _)
theorem pV(b:Bool)(pts:List (List Int)):∀n,(iO b pts n).Perm (jT b pts n n)
 | 0=>List.Perm.refl _
 | n+1=>by
  have ih:=pV b pts n;show(iO b pts n++uA b pts n).Perm (jT b pts (n+1) n++iG b pts n (n+1-(n+1)));rw[Nat.sub_self,show iG b pts n 0=[]from rfl,List.append_nil]
  exact(List.Perm.append_right _ ih).trans (qL b pts n n (ab3 _)).symm
theorem xB(b:Bool)(pts:List (List Int)):(iO b pts pts.length).Perm (cz b pts):=by
 have:=pV b pts pts.length
 rwa [we]at this
theorem Ir{ls:List Int}{j:Nat}(h:j<ls.length):(ls.map D.int)[j]?=some (.int (ls.getD j 0)):=by
 rw[acb,List.getD_eq_getElem?_getD,abY h];rfl
theorem Dz(a b:Int):jk (.int a) (.int b)=decide (a=b):=by
 unfold jk
 by_cases h:a=b
 ·simp [h]
 ·simp [h]
def bK(ps:List (Int×List Int)):List (Int×D):=ps.map λp=>(p.1,gU p.2)
structure Vd(n:Nat)(ps:List (Int×List Int)):Prop where
 good:Good n (ps.map (·.2))
 inc:(ps.map (·.1)).Pairwise λx y:Int=>x<y
 len:ps.length<=1000
theorem jB(ps:List (Int×List Int)):(bK ps).map (·.1)=ps.map (·.1):=by unfold bK;rw[List.map_map];rfl
theorem eu{ns:List Int}(h:ns.Pairwise λx y:Int=>x<y):wj ns=ns:=(wk (List.Perm.refl _) (h.imp λh=>Int.le_of_lt h)).symm
theorem dX:∀ {ps:List (Int×List Int)} {k:Nat} {p:Int×List Int},(ps.map (·.1)).Pairwise (λx y:Int=>x<y)->ps[k]?=some p->dn (bK ps) p.1=some (gU p.2)
 | [],_,_,_,e=>by simp at e
 | q::ps,0,p,_,e=>by
  simp at e;subst e;show dn ((q.1,gU q.2)::bK ps) q.1=_;unfold dn;rw[List.find?_cons_of_pos (by simp)];rfl
 | q::ps,k+1,p,h,e=>by
  rw[List.map_cons,List.pairwise_cons]at h;have e:ps[k]?=some p:=by simpa using e
  have iR:=h.1 p.1 (List.mem_map.mpr ⟨p,List.mem_of_getElem? e,rfl⟩);have ih:=dX h.2 e;show dn ((q.1,gU q.2)::bK ps) p.1=_;unfold dn at ih ⊢;rw[List.find?_cons_of_neg (by simp;omega)]
  exact ih
theorem zj:∀ {ps:List (Int×List Int)} {i:Int},(dn (bK ps) i).isSome=true->∃(k:Nat) (p:Int×List Int),ps[k]?=some p/\p.1=i
 | [],i,h=>by cases h
 | q::ps,i,h=>by
  have h:(dn ((q.1,gU q.2)::bK ps) i).isSome=true:=h
  by_cases e:q.1=i
  ·exact⟨0,q,rfl,e⟩
  ·unfold dn at h
   rw[List.find?_cons_of_neg (by simpa using e)]at h
   obtain⟨k,p,h1,h2⟩:=zj (ps:=ps) (i:=i) h;exact⟨k+1,p,by simpa using h1,h2⟩
def wm:bq:=λds Q=>∃w c e kvs i,ds=[.kp w c e kvs,.int i]/\(dn kvs i).isSome=true/\Q (.sh .aQ)
theorem abw(ds:List D)(Q:B->Prop)(h:wm ds Q):UP {nx:=λ_=>Q (.sh .aQ),rt:=λb _=>Q b} (aP L9.length ds):=by
 obtain⟨w,c,e,kvs,i,rfl,hi,h⟩:=h;unfold UP;symm;rw[hi];exact(if_neg ∅).mpr h
def eA:bq:=λds Q=>∃w c e n ps,ds=[.kp w c e (bK ps)]/\Vd n ps/\Q (.own (ps.map λp=>.int p.1))
theorem Jm(ds:List D)(Q:B->Prop)(h:eA ds Q):Gg {nx:=λ_=>Q (.sh .aQ),rt:=λb _=>Q b} (aP BG.length ds):=by
 obtain⟨w,c,e,n,ps,rfl,ok,h⟩:=h;unfold Gg;symm;rw[jB,eu ok.inc,List.map_map];exact h
def oQ:bq:=λds Q=>∃w c e n ps,ds=[.kp w c e (bK ps)]/\Vd n ps/\Q (.own ((ps.map (·.2)).map gU))
theorem Zo(ds:List D)(Q:B->Prop)(h:oQ ds Q):UO eA {nx:=λ_=>Q (.sh .aQ),rt:=λb _=>Q b} (aP L7.length ds):=by
 obtain⟨w,c,e,n,ps,rfl,ok,h⟩:=h;have hl:=ok.len;unfold UO;symm;refine⟨⟨_,_,_,_,rfl⟩,⟨List.nodup_nil,(λ_ h=>h.elim),[.kp w c e (bK ps)],rfl,w,c,e,n,ps,rfl,ok,?_⟩⟩;refine⟨.inl trivial,?_⟩;symm;refine fb (λp:Int×List Int=>D.int p.1) (λp=>gU p.2) ps (λp hp A ha=>?_) (by rw[sz];omega) ?_
 ·obtain⟨k,hk⟩:=List.getElem?_of_mem hp
  symm;exact⟨_,dX ok.inc hk,ha⟩
 ·rw[List.map_map]at h
  exact h
def oP:bq:=λds Q=>∃w c e kvs i d,ds=[.kp w c e kvs,.int i]/\dn kvs i=some d/\Q (.sh d)
theorem Jp(ds:List D)(Q:B->Prop)(h:oP ds Q):Gh wm {nx:=λ_=>Q (.sh .aQ),rt:=λb _=>Q b} (aP BH.length ds):=by
 obtain⟨w,c,e,kvs,i,d,rfl,hi,h⟩:=h;unfold Gh;refine au λN hN=>?_;symm;refine⟨⟨_,_,_,_,rfl⟩,⟨List.nodup_nil,(λ_ h=>h.elim),[.kp w c e kvs,.int i],rfl,w,c,e,kvs,i,rfl,by rw[hi];rfl,.inl trivial,?_⟩⟩
 symm;subst hN;symm;exact⟨d,hi,h⟩
def nmV(ks:List Int):D->D
 | .int i=>.int (ks.getD i.toNat 0)
 | d=>d
def bx(ks:List Int):D->D
 | .tup (f::r)=>.tup (f::r.map (nmV ks))
 | d=>d
theorem d0{ps:List (Int×List Int)}{i:Nat}(h:i<ps.length):(ps.map λp=>D.int p.1)[i]?=some (.int ((ps.map (·.1)).getD i 0)):=by
 rw[acb,abY h,List.getD_eq_getElem?_getD,acb,abY h];rfl
def tj:bq:=λds Q=>∃b c e n ps,ds=[.kp (bA b) c e (bK ps)]/\Vd n ps/\Q (.sh (bx (ps.map (·.1)) (m7 b (ps.map (·.2)))))
theorem Ac(b:Bool)(pts:List (List Int)):m7 b pts=.aQ\/∃p q,p<q/\q<pts.length/\m7 b pts=pairD b pts p q:=by
 unfold m7;rw[pM (xY b pts)];cases e:fC (cz b pts)with
 | nil=>exact .inl rfl
 | cons a l =>
  have:a∈cz b pts:=(er _).mem_iff.mp (by rw[e];exact ab8 ..)
  obtain⟨p,q,h1,h2,h⟩:=cK this;exact .inr ⟨p,q,h1,h2,h⟩
theorem RX(ds:List D)(Q:B->Prop)(h:tj ds Q):Gx yq oQ eA {nx:=λ_=>Q (.sh .aQ),rt:=λb _=>Q b} (aP BW.length ds):=by
 obtain⟨b,c,e,n,ps,rfl,ok,h⟩:=h;have hl:=ok.len;unfold Gx;refine au λN hN=>?_;symm;refine⟨⟨_,_,_,_,rfl⟩,⟨List.nodup_nil,(λ_ h=>h.elim),[.kp (bA b) c e (bK ps)],rfl,bA b,c,e,n,ps,rfl,ok,.inl trivial,?_⟩⟩;symm;refine⟨.str (bA b),rfl,?_⟩;symm;refine⟨b,n,ps.map (·.2),rfl,ok.good,by rw[abZ];exact hl,?_⟩
 symm;subst hN;refine au λN hN=>?_;rcases Ac b (ps.map (·.2))with h2|⟨p,q,h1,h2,h3⟩
 ·rw[h2]at h ⊢
  symm;exact h
 ·rw[h3]at h ⊢
  rw[abZ]at h2;unfold pairD at h ⊢;symm
  try refine(if_neg ∅).mpr ?_
  subst hN;refine au λN hN=>?_;symm;refine⟨⟨_,_,_,_,rfl⟩,⟨List.nodup_nil,(λ_ h=>h.elim),[.kp (bA b) c e (bK ps)],rfl,bA b,c,e,n,ps,rfl,ok,.inl trivial,?_⟩⟩;symm;subst hN;symm;refine dB (n:=0) rfl rfl ?_;symm;refine dB (n:=1) rfl rfl (bo (n:=p) rfl (d0 ⋯) ?_)
  symm;refine dB (n:=2) rfl rfl (bo (n:=q) rfl (d0 ⋯) ?_)
  symm;refine⟨by decide,?_⟩
  exact h
theorem Zm(ds:List D)(Q:B->Prop)(h:fD ds Q):Gk oO lU fD {nx:=λ_=>Q (.sh .aQ),rt:=λb _=>Q b} (aP BK.length ds):=by
 obtain⟨b,n,pts,j,rfl,hg,hl,hj,h⟩:=h;unfold Gk;symm;refine⟨n,b,pts,rfl,hg.shape,?_⟩;symm;refine⟨pts,j,rfl,hj,?_⟩;symm;exact⟨b,n,pts,j,rfl,hg,hl,hj,h⟩
theorem zq(b:Bool)(pts:List (List Int))(i:Nat)(hi:i<pts.length):gh b pts i=.aQ\/∃(f:Int) (k:Nat),k<pts.length/\gh b pts i=.tup [.int f,.int (k:Nat)]:=by
 obtain⟨h1,h2⟩:=IV b pts;rw[h1 i];cases e:IY b pts i with
 | none=>exact .inl rfl
 | some p=>exact .inr ⟨p.1,p.2,(h2 i p.1 p.2 hi e).1,rfl⟩
theorem qu:∀ {ns:List Int} {k:Nat} {i:Int},ns.Pairwise (λx y:Int=>x<y)->ns[k]?=some i->xI (.int i) (ns.map D.int)=some k
 | [],_,_,_,e=>by simp at e
 | n::ns,0,i,_,e=>by
  simp at e;subst e;unfold xI;rw[List.map_cons,List.findIdx?_cons,if_pos (by simp [jk])]
 | n::ns,k+1,i,hp,e=>by
  rw[List.pairwise_cons]at hp;have e:ns[k]?=some i:=by simpa using e
  have:=hp.1 i (List.mem_of_getElem? e);have ih:=qu hp.2 e;unfold xI at ih ⊢;rw[List.map_cons,List.findIdx?_cons,if_neg (by simp [jk];omega),ih];rfl
theorem Es(ns:List Int):b7 8 (.lst (ns.map D.int))=true:=by
 show(ns.map D.int).all (b7 7)=true;rw[List.all_map];exact ach.mpr λ_ _=>rfl
theorem fq(ps:List (Int×List Int)):(ps.map λp=>D.int p.1)=(ps.map (·.1)).map D.int:=by rw[List.map_map];rfl
def oN:bq:=λds Q=>∃b c e n ps k i,ds=[.kp (bA b) c e (bK ps),.int i]/\Vd n ps/\(ps.map (·.1))[k]?=some i/\Q (.sh (bx (ps.map (·.1)) (gh b (ps.map (·.2)) k)))
theorem Jl(ds:List D)(Q:B->Prop)(h:oN ds Q):UW wm eA fD oQ {nx:=λ_=>Q (.sh .aQ),rt:=λb _=>Q b} (aP Mg.length ds):=by
 obtain⟨b,c,e,n,ps,k,i,rfl,ok,hk,h⟩:=h;have hl:=ok.len;have Bt:k<ps.length:=by have:=(ab2.mp hk).1;simpa using this
 have Hd:(dn (bK ps) i).isSome=true:=by
  rw[acb,abY Bt]at hk;have hk:ps[k].1=i:=by simpa using hk
  rw[<- hk,dX ok.inc (abY Bt)];rfl
 unfold UW;refine au λN hN=>?_;symm;refine⟨⟨_,_,_,_,rfl⟩,⟨List.nodup_nil,(λ_ h=>h.elim),[.kp (bA b) c e (bK ps),.int i],rfl,_,c,e,_,i,rfl,Hd,.inl trivial,?_⟩⟩;symm;subst hN;refine au λN hN=>?_;symm;refine⟨⟨_,_,_,_,rfl⟩,⟨List.nodup_nil,(λ_ h=>h.elim),[.kp (bA b) c e (bK ps)],rfl,bA b,c,e,n,ps,rfl,ok,.inl trivial,?_⟩⟩;symm;subst hN;refine au λN hN=>?_;symm;refine⟨⟨_,_,_,_,rfl⟩,⟨List.nodup_nil,(λ_ h=>h.elim),[.kp (bA b) c e (bK ps)],rfl,bA b,c,e,n,ps,rfl,ok,.inl trivial,?_⟩⟩;symm;refine⟨.str (bA b),rfl,?_⟩;symm;rw[fq];refine⟨⟨_,rfl⟩,⟨rfl,Es _⟩,k,qu ok.inc hk,?_⟩;symm;refine⟨b,n,ps.map (·.2),k,rfl,ok.good,by rw[abZ];exact hl,by rw[abZ];exact Bt,?_⟩
 symm;subst hN;refine au λN hN=>?_;rcases zq b (ps.map (·.2)) k (by rw[abZ];exact Bt)with h2|⟨f,q,h2,h3⟩
 ·rw[h2]at h ⊢
  symm;exact h
 ·rw[h3]at h ⊢
  rw[abZ]at h2;symm
  try refine(if_neg ∅).mpr ?_
  subst hN;symm;refine dB (n:=0) rfl rfl ?_;symm;refine dB (n:=1) rfl rfl (bo (n:=q) rfl (by rw[<- fq];exact d0 h2) ?_)
  symm;refine⟨by decide,?_⟩
  exact h
def prN(ks:List Int)(p:Nat×Nat):D:=.tup [.int (ks.getD p.1 0),.int (ks.getD p.2 0)]
def fv(ks:List Int)(b:Bool)(pts:List (List Int))(j:Int):List D:=(iV b pts j).map λd=>match d with|.tup [.int x,.int y]=>prN ks (x.toNat,y.toNat)|d=>d
theorem IW(b:Bool)(pts:List (List Int))(bound:Int):∃ps:List (Nat×Nat),iV b pts bound=ps.map (λp=>D.tup [.int (p.1:Nat),.int (p.2:Nat)])/\∀p∈ps,p.1<p.2/\p.2<pts.length:=by
 have:∀l:List D,(∀d∈l,∃p:Nat×Nat,d=.tup [.int (p.1:Nat),.int (p.2:Nat)]/\p.1<p.2/\p.2<pts.length)->∃ps:List (Nat×Nat),l=ps.map (λp=>D.tup [.int (p.1:Nat),.int (p.2:Nat)])/\∀p∈ps,p.1<p.2/\p.2<pts.length:=by
  intro l
  induction l with
  | nil=>intro _;exact⟨[],rfl,λp hp=>by cases hp⟩
  | cons d l ih =>
   intro h;obtain⟨p,rfl,hp⟩:=h d (ab8 ..);obtain⟨ps,e,Lq⟩:=ih λx hx=>h x (ab1 _ hx);refine⟨p::ps,by rw[e];rfl,λx hx=>?_⟩
   rcases ab6.mp hx with rfl|hx
   ·exact hp
   ·exact Lq x hx
 refine this _ λd hd=>?_;obtain⟨x,hx,h⟩:=List.mem_filterMap.mp hd;obtain⟨p,q,h1,h2,rfl⟩:=cK hx;have:(if ju b (pts.getD p []) (pts.getD q [])<=bound then some (D.tup [.int (p:Nat),.int (q:Nat)])else none)=some d:=h
 split at this
 ·exact⟨(p,q),(Option.some.inj this).symm,h1,h2⟩
 ·cases this
theorem jG(b:Bool)(pts:List (List Int))(bound:Int):∃ps:List (Nat×Nat),iV b pts bound=ps.map (λp=>D.tup [.int (p.1:Nat),.int (p.2:Nat)])/\ps.length<=(cz b pts).length/\∀p∈ps,p.1<p.2/\p.2<pts.length:=by
 obtain⟨ps,e,h⟩:=IW b pts bound;refine⟨ps,e,?_,h⟩;have:=EY b pts bound;rw[e,abZ]at this;exact this
theorem jF{ks:List Int}{b:Bool}{pts:List (List Int)}{j:Int}{qs:List (Nat×Nat)}(e:iV b pts j=qs.map (λp=>D.tup [.int (p.1:Nat),.int (p.2:Nat)])):fv ks b pts j=qs.map (prN ks):=by
 unfold fv;rw[e,List.map_map];refine List.map_congr_left λp _=>?_;show prN ks (((p.1:Nat):Int).toNat,((p.2:Nat):Int).toNat)=_;rw[Int.toNat_natCast,Int.toNat_natCast]
def yp:bq:=λds Q=>∃b c e n ps j,ds=[.kp (bA b) c e (bK ps),.int j]/\Vd n ps/\0<=j/\Q (.own (fv (ps.map (·.1)) b (ps.map (·.2)) j))
theorem Zh(ds:List D)(Q:B->Prop)(h:yp ds Q):Gq eA tE oQ {nx:=λ_=>Q (.sh .aQ),rt:=λb _=>Q b} (aP BP.length ds):=by
 obtain⟨b,c,e,n,ps,j,rfl,ok,hj,h⟩:=h;have hl:=ok.len;unfold Gq;refine au λN hN=>?_;symm;refine⟨⟨_,_,_,_,rfl⟩,⟨List.nodup_nil,(λ_ h=>h.elim),[.kp (bA b) c e (bK ps)],rfl,bA b,c,e,n,ps,rfl,ok,.inl trivial,?_⟩⟩;symm;subst hN;symm;refine⟨⟨_,_,_,_,rfl⟩,⟨List.nodup_nil,(λ_ h=>h.elim),[.kp (bA b) c e (bK ps)],rfl,bA b,c,e,n,ps,rfl,ok,.inl trivial,?_⟩⟩;symm;refine⟨.str (bA b),rfl,?_⟩;symm;refine⟨b,n,ps.map (·.2),j,rfl,ok.good,by rw[abZ];exact hl,hj,?_⟩
 obtain⟨qs,eq,hq,hqs⟩:=jG b (ps.map (·.2)) j
 have hzp:=oA (b:=b) (pts:=ps.map (·.2)) (by rw[abZ];exact hl)
 rw[jF eq]at h;rw[eq];symm;refine fb (λp:Nat×Nat=>D.tup [.int (p.1:Nat),.int (p.2:Nat)]) (prN (ps.map (·.1))) qs (λp hp A ha=>?_) (by rw[sz];omega) ?_
 ·obtain⟨h1,h2⟩:=hqs p hp
  rw[abZ]at h2;walk_at "vg";symm;refine bo (n:=p.1) rfl (d0 ⋯) (bo (n:=p.2) rfl (d0 h2) ?_)
  symm;exact⟨by decide,ha⟩
 ·exact h
theorem fy(k:Str)(v:V):∀l:List (Str×V),(cP k v l).length<=l.length+1
 | []=>ab3 _
 | (g,x)::r=>by
  have:=fy k v r;unfold cP
  split
  ·simp
  ·simp only[List.length_cons];omega
def tf:G5:=λds Q=>∃b c,ds=[cw b,.int c]/\1<=c/\c<=3/\Q (bA b) c
theorem RW(ds:List D)(Q:Str->Int->Prop)(h:tf ds Q)(a dx:Addr):UQ iu nr {nx:=inQ a dx Q,rt:=λ_ _=>False} (kO Ma.length a dx ds):=by
 obtain⟨b,c,rfl,h1,h2,h⟩:=h;unfold UQ cw;refine au λN hN=>?_;symm;refine⟨c,rfl,h1,h2,?_⟩;symm;subst hN;refine au λN hN=>?_;symm;refine⟨b,rfl,?_⟩;symm;subst hN;symm;refine⟨a,dx,[],.str (bA b),rfl,rfl,by simp [cP],?_⟩
 symm;refine⟨a,dx,_,.int c,rfl,rfl,by simp [cP],?_⟩
 symm;refine⟨a,dx,_,rfl,by have h1:=fy (Str.ofString "count") (.int c) (cP (Str.ofString "way") (.str (bA b)) []);have h2:=fy (Str.ofString "way") (.str (bA b)) [];exact Nat.lt_of_le_of_lt h1 (by have:(cP (Str.ofString "way") (V.str (bA b)) []).length<=1:=h2;omega),λad=>?_⟩
 symm;refine⟨a,dx,ad,_,bA b,c,rfl,by have h0:=fy (Str.ofString "points_by_name") (.ref ad) (cP (Str.ofString "count") (.int c) (cP (Str.ofString "way") (.str (bA b)) []));have h1:=fy (Str.ofString "count") (.int c) (cP (Str.ofString "way") (.str (bA b)) []);have h2:(cP (Str.ofString "way") (V.str (bA b)) []).length<=1:=fy (Str.ofString "way") (.str (bA b)) [];exact Nat.lt_of_le_of_lt h0 ⋯,rfl,?_⟩
 exact⟨ad,bA b,c,rfl,h⟩
def oS:iK:=λbs Q=>∃(a dx ad:Addr) (b:Bool) (c e:Int) (n:Nat) (ps:List (Int×List Int)) (p:List Int),bs=[.obj (gw a dx ad (bA b) c e (bK ps)),.sh (gU p)]/\(p.length:Int)=c/\ps.length<1000/\(∀q∈ps,q.1<e)/\Q (.sh (.int e)) [.obj (gw a dx ad (bA b) c (e+1) (bK (ps++[(e,p)]))),.sh (gU p)]
theorem nV{ps:List (Int×List Int)}{e:Int}{p:List Int}(h:∀q∈ps,q.1<e):xJ (bK ps) e (gU p)=bK (ps++[(e,p)]):=by
 unfold xJ;rw[if_neg (by
  rw[List.any_eq_true];rintro⟨x,hx,hd⟩;unfold bK at hx;obtain⟨q,hq,rfl⟩:=List.mem_map.mp hx;have:=h q hq;have:=of_decide_eq_true hd;have:q.1=e:=this;omega)]
 unfold bK;rw[List.map_append];rfl
theorem IE(bs:List B)(Q:B->List B->Prop)(h:oS bs Q)(i:Nat)(xs:List D)(e:bs[i]?=some (.own xs)):i∈[0]:=by
 obtain⟨a,dx,ad,b,c,e',n,ps,p,rfl,_⟩:=h;exact xN 1 rfl e
theorem Zq(bs:List B)(Q:B->List B->Prop)(h:oS bs Q):Gw tD {nx:=wZ bs Q (.sh .aQ),rt:=λb σ=>wZ bs Q b σ} (cE BV.length bs):=by
 obtain⟨a,dx,ad,b,c,e,n,ps,p,rfl,hp,hl,iR,h⟩:=h;unfold Gw;refine au λN hN=>?_;symm;refine⟨.int c,rfl,?_⟩;symm;refine⟨p,c,rfl,hp,?_⟩;symm;subst hN;refine au λN hN=>?_;symm;refine⟨.int e,rfl,?_⟩;symm;subst hN;refine au λN hN=>?_;symm;refine⟨⟨a,dx,ad,_,c,e,_,rfl⟩,a,dx,ad,_,c,e,_,rfl,by unfold bK;rw[abZ,sz];omega,?_⟩
 rw[nV iR];subst hN;refine au λN hN=>?_;symm;refine⟨a,dx,ad,_,c,e,_,rfl,?_⟩;subst hN;symm;exact⟨[.obj (gw a dx ad (bA b) c (e+1) (bK (ps++[(e,p)]))),.sh (gU p)],.obj rfl rfl (λz=>nomatch z) (.sh _ .nil),⟨rfl,trivial⟩,h⟩
def nu:iK:=λbs Q=>∃(a dx ad:Addr) (w:Str) (c e i:Int) (kvs:List (Int×D)),bs=[.obj (gw a dx ad w c e kvs),.sh (.int i)]/\(dn kvs i).isSome=true/\Q (.sh .aQ) [.obj (gw a dx ad w c e (iT kvs i)),.sh (.int i)]
theorem IC(bs:List B)(Q:B->List B->Prop)(h:nu bs Q)(i:Nat)(xs:List D)(e:bs[i]?=some (.own xs)):i∈[0]:=by
 obtain⟨a,dx,ad,w,c,e',j,kvs,rfl,_⟩:=h;exact xN 1 rfl e
theorem Sh(bs:List B)(Q:B->List B->Prop)(h:nu bs Q):Gr wm {nx:=wZ bs Q (.sh .aQ),rt:=λb σ=>wZ bs Q b σ} (cE BQ.length bs):=by
 obtain⟨a,dx,ad,w,c,e,i,kvs,rfl,hi,h⟩:=h;unfold Gr;refine au λN hN=>?_;symm;refine⟨⟨_,w,c,e,kvs,rfl,rfl⟩,⟨List.nodup_nil,λ_ _=>trivial,[.kp w c e kvs,.int i],rfl,w,c,e,kvs,i,rfl,hi,.inr ⟨rfl,rfl⟩,?_⟩⟩;symm;subst hN;symm;refine⟨a,dx,ad,w,c,e,kvs,rfl,rfl,hi,?_⟩;exact⟨[.obj (gw a dx ad w c e (iT kvs i)),.sh (.int i)],.obj rfl rfl (λz=>nomatch z) (.sh _ .nil),⟨rfl,trivial⟩,h⟩
theorem nU{P:Int->Prop}:∀(ds:List D) {n:Nat},ds.length=n->(∀d∈ds,∃v,d=.int v/\P v)->∃l:List Int,ds=l.map D.int/\l.length=n/\∀v∈l,P v
 | [],n,hn,_=>⟨[],rfl,hn,λv hv=>by cases hv⟩
 | d::ds,n,hn,h=>by
  obtain⟨v,rfl,hv⟩:=h d (ab8 ..);obtain⟨l,e,hl,hf⟩:=nU ds (n:=ds.length) rfl λx hx=>h x (ab1 _ hx);refine⟨v::l,by rw[e];rfl,by simpa [hl]using hn,λx hx=>?_⟩
  rcases ab6.mp hx with rfl|hx
  ·exact hv
  ·exact hf x hx
structure gE(n:Nat)(ps:List (Int×List Int)):Prop where
 n1:1<=n
 n3:n<=3
 pt:∀q∈ps,q.2.length=n/\∀v∈q.2,xf v
 inc:(ps.map (·.1)).Pairwise λx y:Int=>x<y
 len:ps.length<=1000
theorem gE.ok{n:Nat}{ps:List (Int×List Int)}(h:gE n ps):Vd n ps:=⟨⟨⟨h.n1,h.n3⟩,λp hp=>by
 obtain⟨q,hq,rfl⟩:=List.mem_map.mp hp;refine⟨(h.pt q hq).1,λx hx=>?_⟩;have:=(h.pt q hq).2 x hx;unfold xf at this;omega⟩,h.inc,h.len⟩
theorem Iz{n k:Nat}(h:k<n):zk n (k:Int)=some k:=by unfold zk;rw[if_pos ⋯,if_pos ⋯,Int.toNat_natCast]
def tB:hE:=λxs ds Q=>cX xs/\∃(n:Nat) (ps:List (Int×List Int)),ds=[.int n,.dM (bK ps)]/\gE n ps/\∀p ys,p.length=n->(∀v∈p,xf v)->cX ys->Q (.sh (gU p)) ys
theorem gN(ps:List (Int×List Int)):(bK ps).length=ps.length:=abZ ..
theorem Zj(xs ds:List D)(Q:B->List D->Prop)(h:tB xs ds Q):Gv fU {nx:=vA Q (.sh .aQ),rt:=λb σ=>vA Q b σ} (bu BU.length xs ds):=by
 obtain⟨r0,n,ps,rfl,kf,h⟩:=h;have h1:=kf.n1;have h3:=kf.n3;have hl:=kf.len;unfold Gv;simp only[bu];refine au λN hN=>?_;symm;rw[Int.toNat_natCast,dg];refine⟨by omega,pW (λi:Nat=>.int (0+(i:Nat))) (λd=>∃v,d=.int v/\xf v) cX _ (λv hv z rz A Z hz ha=>?_) (by rw[List.length_range,sz];omega) r0 (λds ys1 Ih XR r1=>?_)⟩
 ·walk_at "vg"
  symm;refine⟨⟨_,rfl⟩,rz,5,rfl,by decide,by decide,λr ys r0 r1 ry=>?_⟩
  symm;refine⟨hz,ha _ _ ⟨_,rfl,?_⟩ ry⟩;unfold xf;omega
 rw[List.length_range]at Ih;obtain⟨l1,rfl,Ih,Vq⟩:=nU ds Ih XR;subst hN;refine au λN hN=>?_;symm;refine⟨⟨_,rfl⟩,r1,4,rfl,by decide,by decide,λkind ys2 k0 k1 r2=>?_⟩
 symm;subst hN;refine au λN hN=>?_;symm;have X5:∀(l:List Int) (ys:List D),l.length=n->(∀v∈l,xf v)->cX ys->N [some (.own ys),some (.sh (.int n)),some (.sh (.dM (bK ps))),some (.own (l.map D.int)),some (.sh (.int kind)),none]:=by
  intro l ys Ih Vq ry;subst hN;have rT:∀(l:List Int) (ys:List D) (x:Option B),l.length=n->(∀v∈l,xf v)->cX ys->dP [0] (eE o5 (bD (ae 3) dN)) {nx:=vA Q (.sh .aQ),rt:=λb σ=>vA Q b σ} [some (.own ys),some (.sh (.int n)),some (.sh (.dM (bK ps))),some (.own (l.map D.int)),some (.sh (.int kind)),x]:=by
   intro l ys x Ih Vq ry;symm;exact h l ys Ih Vq ry
  show bQ (cF _ (bQ (eG [0] 3 (eE qw _)) _) _) _ _ _;generalize ht:bQ (eG [0] 3 (eE qw _)) _=tb;refine au λN hN=>?_;symm
  split
  ·split
   ·rename_i hk cy
    have Lq:0<ps.length:=by
     cases ps with
     | nil=>exact absurd rfl cy
     | cons _ _=>simp
    subst ht;refine au λN2 Aw=>?_;symm;refine⟨⟨_,rfl⟩,ry,_,rfl,by rw[gN];omega,by rw[gN];omega,λr ys2 q0 q1 ry2=>?_⟩
    rw[gN]at q1;rw[jB,eu kf.inc,<- fq];symm;obtain⟨k,rfl⟩:∃k:Nat,r=k:=⟨r.toNat,by omega⟩
    have XZ:k<ps.length:=by omega
    refine bo (n:=k) rfl (by rw[acb,abY XZ];rfl) ?_
    symm;refine⟨_,dX kf.inc (abY XZ),?_⟩;obtain⟨hp1,Vw⟩:=kf.pt ps[k] (List.getElem_mem _);generalize ps[k].2=p at hp1 Vw;show N2 [some (.own ys2),some (.sh (.int n)),some (.sh (.dM (bK ps))),some (.own (p.map D.int)),some (.sh (.int kind)),none];subst Aw;refine au λN2 Aw=>?_;symm;refine⟨⟨_,rfl⟩,ry2,_,rfl,by omega,by omega,λr ys3 q0 q1 ry3=>?_⟩
    obtain⟨j,rfl⟩:∃j:Nat,r=j:=⟨r.toNat,by omega⟩
    have hj:j<p.length:=by omega
    symm;subst Aw;symm;have e1:(10:Int)^(15:Int).toNat=1000000000000000:=by decide
    rw[e1];refine⟨by unfold nz;decide,by unfold nz;decide,bo (n:=j) rfl (Ir hj) ?_⟩
    symm;refine⟨⟨_,rfl⟩,ry3,3,rfl,by decide,by decide,λu ys4 u0 u1 ry4=>?_⟩
    symm;refine⟨⟨_,rfl⟩,?_⟩;rw[abZ,Iz hj];show N _;have aa9:∀v:Int,(p.map D.int).set j (.int v)=(p.set j v).map D.int:=λv=>by rw[List.map_set]
    rw[aa9];subst hN;refine rT _ ys4 _ (by rw[List.length_set];exact hp1) (λv hv=>?_) ry4
    rcases List.mem_or_eq_of_mem_set hv with hv|rfl
    ·exact Vw v hv
    ·unfold xf
     split<;>split at *<;>omega
   ·subst hN
    exact rT l ys _ Ih Vq ry
  ·subst hN
   exact rT l ys _ Ih Vq ry
 refine⟨⟨rfl,rfl⟩,?_⟩
 split
 ·rw[Int.toNat_natCast,dg]
  refine⟨by omega,pW (λi:Nat=>.int (0+(i:Nat))) (λd=>∃v,d=.int v/\xf v) cX _ (λv hv z rz A Z hz ha=>?_) (by rw[List.length_range,sz];omega) r2 (λds ys3 pj hd2 r3=>?_)⟩
  ·walk_at "vg"
   symm;have e1:(10:Int)^(15:Int).toNat=1000000000000000:=by decide
   rw[e1];refine⟨⟨_,rfl⟩,by unfold nz;decide,by unfold jn;decide,rz,_,rfl,by decide,by decide,λr ys r0 r1 ry=>?_⟩
   symm;refine⟨by unfold nz;decide,hz,ha _ _ ⟨_,rfl,?_⟩ ry⟩
   unfold xf;omega
  rw[List.length_range]at pj;obtain⟨l2,rfl,pj,hf2⟩:=nU ds pj hd2;exact X5 l2 ys3 pj hf2 r3
 ·exact X5 l1 ys2 Ih Vq r2
theorem nX{xs:List D}{Q:D->Prop}(h:0<xs.length)(q:∀d∈xs,Q d):Lw (.lst xs) (.int (-1)) Q:=by
 show(match L2.mX xs (-1)with|some d=>Q d|none=>False)
 have e:L2.mX xs (-1)=some (xs[xs.length-1]'⋯):=by
  unfold L2.mX L2.zk;rw[if_neg ∅,if_pos ⋯]
  show xs[(-1+(xs.length:Int)).toNat]?=_;rw[show(-1+(xs.length:Int)).toNat=xs.length-1 by omega]
  exact abY _
 rw[e];exact q _ (List.getElem_mem _)
def kI:hE:=λxs ds Q=>cX xs/\∃(n:Nat) (ps:List (Int×List Int)),ds=[.dM (bK ps)]/\gE n ps/\∀(nm bd:Int) ys,(ps=[]\/nm∈ps.map (·.1))->0<=bd->cX ys->Q (.sh (.tup [.int nm,.int bd])) ys
theorem Jk(xs ds:List D)(Q:B->List D->Prop)(h:kI xs ds Q):Gu fU {nx:=vA Q (.sh .aQ),rt:=λb σ=>vA Q b σ} (bu BR.length xs ds):=by
 obtain⟨r0,n,ps,rfl,kf,h⟩:=h;have hl:=kf.len;unfold Gu;simp only[bu];refine au λN hN=>?_;symm;rw[jB,eu kf.inc];have key:∀ns:List Int,ns≠[]->ns.length<=1000->(∀v∈ns,ps=[]\/v∈ps.map (·.1))->N [some (.own xs),some (.sh (.dM (bK ps))),some (.own (ns.map D.int)),none]:=by
  intro ns cy hln Ef;subst hN;have aa7:0<ns.length:=List.length_pos_iff.mpr cy;refine au λN hN=>?_;symm;refine⟨⟨_,rfl⟩,r0,_,rfl,by rw[abZ];omega,by rw[abZ];omega,λr y1 q0 q1 r1=>?_⟩
  symm;refine cW q0 q1 λd1 XR=>nX (by rw[abZ];exact aa7) λd2 hd2=>⟨by decide,⟨_,rfl⟩,r1,2,rfl,by decide,by decide,λr2 y2 q2 q3 hr2=>?_⟩
  symm;refine cW q2 q3 λd hd=>?_;have:d∈ns.map D.int:=by
   simp only[ab6,ack,or_false]at hd;rcases hd with rfl|rfl
   ·exact XR
   ·exact hd2
  obtain⟨nm,Lp,rfl⟩:=List.mem_map.mp this;subst hN;symm;refine⟨⟨_,rfl⟩,hr2,30,rfl,by decide,by decide,λr3 y3 q4 q5 hr3=>?_⟩
  symm;refine⟨by unfold nz;decide,by unfold nz;decide,by decide,⟨_,rfl⟩,hr3,5,rfl,by decide,by decide,λr4 y4 q6 q7 hr4=>?_⟩
  symm;refine cW q6 q7 λd hd=>?_;have e1:(10:Int)^(15:Int).toNat=10^15:=by decide
  have e2:(10:Int)^(34:Int).toNat=10^34:=by decide
  rw[e1,e2]at hd;obtain⟨bd,rfl,hb⟩:∃bd:Int,d=.int bd/\0<=bd:=by
   simp only[ab6,ack,or_false]at hd;rcases hd with rfl|rfl|rfl|rfl|rfl
   all_goals exact⟨_,rfl,by omega⟩
  symm;exact⟨by decide,h nm bd y4 (Ef nm Lp) hb hr4⟩
 cases ps with
 | nil=>exact⟨by decide,⟨by decide,by decide,by decide⟩,by decide,key [0] (by simp) (by simp) λv _=>.inl rfl⟩
 | cons p ps =>
  have e0:(if(if false=true then !decide (bK (p::ps)=[])else decide (bK (p::ps)=[]))=true then(1:Int)else 0)=0:=rfl
  rw[e0];refine⟨by decide,⟨by decide,by decide,by decide⟩,by show(((p::ps).map (·.1)).map D.int).length+0<=aca;rw[abZ,abZ,sz];omega,?_⟩
  have:=key ((p::ps).map (·.1)) (by simp) (by rw[abZ];exact hl) λv hv=>.inr hv
  rw[<- List.append_nil (((p::ps).map (·.1)).map D.int)]at this
  exact this
def kJ:bq:=λds Q=>∃b c e n ps w i j,ds=[.kp (bA b) c e (bK ps),.int w,.int i,.int j]/\gE n ps/\(w=1\/w=3->i∈ps.map (·.1))/\0<=j /\
 (w=0->Q (.own ((ps.map (·.1)).map D.int)))/\(w=1->∀d,dn (bK ps) i=some d->Q (.sh d))/\(w=2->Q (.sh (bx (ps.map (·.1)) (m7 b (ps.map (·.2)))))) /\
 (w=3->∀k:Nat,(ps.map (·.1))[k]?=some i->Q (.sh (bx (ps.map (·.1)) (gh b (ps.map (·.2)) k))))/\(w≠0->w≠1->w≠2->w≠3->Q (.own (fv (ps.map (·.1)) b (ps.map (·.2)) j)))
theorem cC(a b:Int):jk (.int a) (.int b)=decide (a=b):=Dz a b
theorem RY(ds:List D)(Q:B->Prop)(h:kJ ds Q):Gi eA oP tj oN yp {nx:=λ_=>Q (.sh .aQ),rt:=λb _=>Q b} (aP BI.length ds):=by
 obtain⟨b,c,e,n,ps,w,i,j,rfl,kf,hi,hj,q0,q1,q2,q3,q4⟩:=h;have ok:=kf.ok;unfold Gi;refine au λN hN=>?_;symm;refine⟨⟨rfl,rfl⟩,?_⟩;rw[cC]
 by_cases w0:w=0
 ·refine(if_pos (decide_eq_true w0)).mpr ?_
  refine⟨⟨_,_,_,_,rfl⟩,⟨List.nodup_nil,(λ_ h=>h.elim),[.kp (bA b) c e (bK ps)],rfl,bA b,c,e,n,ps,rfl,ok,.inl trivial,?_⟩⟩;rw[fq];symm;exact q0 w0
 refine(if_neg (by rw[decide_eq_false w0];decide)).mpr ?_
 subst hN;refine au λN hN=>?_;symm;refine⟨⟨rfl,rfl⟩,?_⟩;rw[cC]
 by_cases w1:w=1
 ·refine(if_pos (decide_eq_true w1)).mpr ?_
  obtain⟨k,p,hk,rfl⟩:∃(k:Nat) (p:Int×List Int),ps[k]?=some p/\p.1=i:=by
   obtain⟨p,hp,rfl⟩:=List.mem_map.mp (hi (.inl w1));obtain⟨k,hk⟩:=List.getElem?_of_mem hp;exact⟨k,p,hk,rfl⟩
  have Hd:=dX kf.inc hk;refine⟨⟨_,_,_,_,rfl⟩,⟨List.nodup_nil,(λ_ h=>h.elim),[.kp (bA b) c e (bK ps),.int p.1],rfl,bA b,c,e,bK ps,p.1,_,rfl,Hd,.inl trivial,?_⟩⟩;symm;exact q1 w1 _ Hd
 refine(if_neg (by rw[decide_eq_false w1];decide)).mpr ?_
 subst hN;refine au λN hN=>?_;symm;refine⟨⟨rfl,rfl⟩,?_⟩;rw[cC]
 by_cases w2:w=2
 ·refine(if_pos (decide_eq_true w2)).mpr ?_
  refine⟨⟨_,_,_,_,rfl⟩,⟨List.nodup_nil,(λ_ h=>h.elim),[.kp (bA b) c e (bK ps)],rfl,b,c,e,n,ps,rfl,ok,.inl trivial,?_⟩⟩;symm;exact q2 w2
 refine(if_neg (by rw[decide_eq_false w2];decide)).mpr ?_
 subst hN;refine au λN hN=>?_;symm;refine⟨⟨rfl,rfl⟩,?_⟩;rw[cC]
 by_cases w3:w=3
 ·refine(if_pos (decide_eq_true w3)).mpr ?_
  obtain⟨k,hk⟩:=List.getElem?_of_mem (hi (.inr w3));refine⟨⟨_,_,_,_,rfl⟩,⟨List.nodup_nil,(λ_ h=>h.elim),[.kp (bA b) c e (bK ps),.int i],rfl,b,c,e,n,ps,k,i,rfl,ok,hk,.inl trivial,?_⟩⟩;symm;exact q3 w3 k hk
 refine(if_neg (by rw[decide_eq_false w3];decide)).mpr ?_
 subst hN;symm;refine⟨⟨_,_,_,_,rfl⟩,⟨List.nodup_nil,(λ_ h=>h.elim),[.kp (bA b) c e (bK ps),.int j],rfl,b,c,e,n,ps,j,rfl,ok,hj,.inl trivial,?_⟩⟩;symm;exact q4 w0 w1 w2 w3
theorem Lx{ks:List Int}(h:ks.Pairwise λx y:Int=>x<y){i j:Nat}(lu:i<j)(hj:j<ks.length):ks.getD i 0<ks.getD j 0:=by
 rw[List.getD_eq_getElem?_getD,List.getD_eq_getElem?_getD,abY hj,abY (show i<ks.length by omega)]
 exact List.pairwise_iff_getElem.mp h i j ⋯ hj lu
theorem rZ{ks:List Int}(h:ks.Pairwise λx y:Int=>x<y){i j:Nat}(hi:i<ks.length)(hj:j<ks.length):(ks.getD i 0=ks.getD j 0 ↔ i=j)/\(ks.getD i 0<ks.getD j 0 ↔ i<j):=by
 rcases Nat.lt_trichotomy i j with h1|h1|h1
 ·have:=Lx h h1 hj
  exact⟨⟨λz=>by omega,λz=>by omega⟩,⟨λ_=>h1,λ_=>this⟩⟩
 ·subst h1
  exact⟨⟨λ_=>rfl,λ_=>rfl⟩,⟨λz=>by omega,λz=>by omega⟩⟩
 ·have:=Lx h h1 hi
  exact⟨⟨λz=>by omega,λz=>by omega⟩,⟨λz=>by omega,λz=>by omega⟩⟩
theorem lH{ks:List Int}(h:ks.Pairwise λx y:Int=>x<y):∀(r s:List Nat),(∀k∈r,k<ks.length)->(∀k∈s,k<ks.length)->HT.lexLt (r.map λk=>ks.getD k 0) (s.map λk=>ks.getD k 0)=HT.lexLt (r.map λk:Nat=>(k:Int)) (s.map λk:Nat=>(k:Int))
 | [],[],_,_=>rfl
 | [],_::_,_,_=>rfl
 | _::_,[],_,_=>rfl
 | x::r,y::s,hr,hs=>by
  have ih:=lH h r s (λk hk=>hr k (ab1 _ hk)) λk hk=>hs k (ab1 _ hk);obtain⟨c1,c2⟩:=rZ h (hr x (ab8 ..)) (hs y (ab8 ..));simp only[List.map_cons,HT.bT,ih]
  by_cases e:x=y
  ·rw[if_pos (c1.mpr e),if_pos ⋯]
  ·rw[if_neg (λz=>e (c1.mp z)),if_neg ⋯]
   by_cases l:x<y
   ·rw[decide_eq_true (c2.mpr l),decide_eq_true ⋯]
   ·rw[decide_eq_false (λz=>l (c2.mp z)),decide_eq_false ⋯]
def Hm(f:Int)(r:List Nat):D:=.tup (.int f::r.map λk:Nat=>D.int k)
theorem vR(ks:List Int)(f:Int)(r:List Nat):bx ks (Hm f r)=.tup (.int f::r.map λk=>.int (ks.getD k 0)):=by
 show D.tup (.int f::(r.map λk:Nat=>D.int k).map (nmV ks))=_;rw[List.map_map];rfl
theorem qy{ks:List Int}(h:ks.Pairwise λx y:Int=>x<y){f g:Int}{r s:List Nat}(hr:∀k∈r,k<ks.length)(hs:∀k∈s,k<ks.length):ltI (bx ks (Hm f r)) (bx ks (Hm g s))=ltI (Hm f r) (Hm g s):=by
 rw[vR,vR];show HT.lexLt (f::(r.map λk=>D.int (ks.getD k 0)).map ly) (g::(s.map λk=>D.int (ks.getD k 0)).map ly)=HT.lexLt (f::(r.map λk:Nat=>D.int k).map ly) (g::(s.map λk:Nat=>D.int k).map ly);rw[fo,fo,fo,fo,HT.bT,HT.bT,lH h r s hr hs]
theorem fold_map{φ:D->D}:∀(l:List D) (b:D),(∀x∈b::l,∀y∈b::l,ltI (φ x) (φ y)=ltI x y)->(l.map φ).foldl (λb y=>if ltI y b=true then y else b) (φ b)=φ (l.foldl (λb y=>if ltI y b=true then y else b) b)
 | [],b,_=>rfl
 | y::l,b,h=>by
  rw[List.map_cons,List.foldl_cons,List.foldl_cons,h y (by simp) b (by simp)]
  by_cases e:ltI y b=true
  ·rw[if_pos e,if_pos e]
   exact fold_map l y λx hx z hz=>h x (ab1 _ hx) z (ab1 _ hz)
  ·rw[if_neg e,if_neg e]
   refine fold_map l b λx hx z hz=>h x ?_ z ?_
   ·rcases ab6.mp hx with rfl|hx
    ·simp
    ·simp [hx]
   ·rcases ab6.mp hz with rfl|hz
    ·simp
    ·simp [hz]
theorem uw{φ:D->D}{l:List D}(h:∀x∈l,∀y∈l,ltI (φ x) (φ y)=ltI x y):du (l.map φ)=(du l).map φ:=by
 cases l with
 | nil=>rfl
 | cons b l=>exact congrArg some (fold_map l b h)
theorem vk:∀(l:List D) (b:D),l.foldl (λb y=>if ltI y b=true then y else b) b∈b::l
 | [],b=>ab8 ..
 | y::l,b=>by
  rw[List.foldl_cons];have:=vk l (if ltI y b=true then y else b)
  rcases ab6.mp this with h|h
  ·rw[h];split<;>simp
  ·simp [h]
theorem Cd{l:List D}{z:D}(h0:l≠[])(h:∀x∈l,ltI z x=false):du (l++[z])=du l:=by
 cases l with
 | nil=>exact absurd rfl h0
 | cons b l =>
  show some ((l++[z]).foldl _ b)=some (l.foldl _ b);rw[List.foldl_append,List.foldl_cons,List.foldl_nil,if_neg (by rw[h _ (vk l b)];decide)]
theorem getD_map{ks:List Int}(o:Option D):(o.map (bx ks)).getD .aQ=bx ks (o.getD .aQ):=by cases o<;>rfl
theorem FW:∀(l:List Int) (c:Int),(∀x∈l,x<=c)->l.sum<=l.length*c
 | [],c,_=>by simp
 | x::l,c,h=>by
  have ih:=FW l c λy hy=>h y (ab1 _ hy);have:=h x (ab8 ..);rw[List.sum_cons,List.length_cons];have e:((l.length+1:Nat):Int)*c=l.length*c+c:=by rw[Int.natCast_add,Int.add_mul];simp
  omega
theorem Ot{b:Bool}{p q:List Int}(hp:p.length<=3)(h1:∀v∈p,xf v)(h2:∀v∈q,xf v):ju b p q<10^40:=by
 have h:=FW ((p.zip q).map λxy=>stepI b xy.1 xy.2) (2*10^15*(2*10^15)) (λx hx=>by
  obtain⟨⟨u,v⟩,huv,rfl⟩:=List.mem_map.mp hx;have a1:=h1 u (List.of_mem_zip huv).1;have a2:=h2 v (List.of_mem_zip huv).2;unfold xf at a1 a2;have hab:0<=mW (u-v)/\mW (u-v)<=2*10^15:=by unfold mW;split<;>omega
  show stepI b u v<=_;unfold stepI
  split
  ·exact Int.mul_le_mul hab.2 hab.2 hab.1 ⋯
  ·omega)
 have hl:((p.zip q).map λxy=>stepI b xy.1 xy.2).length<=3:=by
  rw[abZ,List.length_zip];omega
 unfold ju;generalize ((p.zip q).map λxy=>stepI b xy.1 xy.2).sum=s at h;generalize ((p.zip q).map λxy=>stepI b xy.1 xy.2).length=m at h hl;omega
theorem XC{α:Type}(h:Nat->α)(j:Nat):∀n,j<=n->(List.range n).filterMap (λi=>if decide (i<j)=true then some (h i)else none)=(List.range j).map h:=by
 intro n hn;rw[fc];congr 1
 induction n with
 | zero =>
  have:j=0:=by omega
  subst this;rfl
 | succ n ih =>
  rw[List.range_succ,List.filter_append]
  by_cases e:j=n+1
  ·subst e
   rw[List.filter_eq_self.mpr,List.filter_eq_self.mpr,<- List.range_succ]
   ·intro i hi;simp at hi;simp;omega
   ·intro i hi;simp at hi;simp;omega
  ·rw[ih ⋯]
   have:List.filter (λi=>decide (i<j)) [n]=[]:=by simp;omega
   rw[this,List.append_nil]
theorem zu(b:Bool)(pts:List (List Int))(i j:Nat):pairD b pts i j=Hm (ju b (pts.getD i []) (pts.getD j [])) [i,j]:=rfl
theorem Bo{ks:List Int}{b:Bool}{pts:List (List Int)}(h:ks.Pairwise λx y:Int=>x<y)(hl:ks.length=pts.length):(du ((cz b pts).map (bx ks))).getD .aQ=bx ks (m7 b pts):=by
 unfold m7;rw[uw,getD_map];intro x hx y hy;obtain⟨i,j,h1,h2,rfl⟩:=cK hx;obtain⟨i',j',h3,h4,rfl⟩:=cK hy;rw[zu,zu];refine qy h ?_ ?_
 ·intro k hk
  simp only[ab6,ack,or_false]at hk;omega
 ·intro k hk
  simp only[ab6,ack,or_false]at hk;omega
theorem xS{ks:List Int}{b:Bool}{pts:List (List Int)}{k:Nat}(h:ks.Pairwise λx y:Int=>x<y)(hl:ks.length=pts.length):du (((others pts.length k).map (eI b pts (pts.getD k []))).map (bx ks))=(du ((others pts.length k).map (eI b pts (pts.getD k [])))).map (bx ks):=by
 refine uw λx hx y hy=>?_;obtain⟨i,h1,rfl⟩:=List.mem_map.mp hx;obtain⟨j,h2,rfl⟩:=List.mem_map.mp hy;have h1:=fw h1;have h2:=fw h2;show ltI (bx ks (Hm _ [i])) (bx ks (Hm _ [j]))=ltI (Hm _ [i]) (Hm _ [j]);refine qy h ?_ ?_
 ·intro k hk;rw[ab5.mp hk];omega
 ·intro k hk;rw[ab5.mp hk];omega
theorem mM(ks:List Int)(b:Bool)(pts:List (List Int))(j:Int):((cz b pts).map (bx ks)).filterMap (nearF j)=fv ks b pts j:=by
 unfold fv iV;rw[List.filterMap_map,List.map_filterMap];have cg:∀(l:List D) (f g:D->Option D),(∀d∈l,f d=g d)->l.filterMap f=l.filterMap g:=by
  intro l f g
  induction l with
  | nil=>intro _;rfl
  | cons d l ih =>
   intro h;rw[List.filterMap_cons,List.filterMap_cons,h d (ab8 ..),ih λx hx=>h x (ab1 _ hx)]
 refine cg _ _ _ λd hd=>?_;obtain⟨p,q,_,_,rfl⟩:=cK hd;show(if ju b (pts.getD p []) (pts.getD q [])<=j then some (D.tup [.int (ks.getD p 0),.int (ks.getD q 0)])else none)=Option.map _ (if ju b (pts.getD p []) (pts.getD q [])<=j then some (D.tup [.int (p:Nat),.int (q:Nat)])else none)
 split<;>rfl
theorem sf{ks:List Int}{b:Bool}{pts:List (List Int)}{j:Int}(h:ks.Pairwise λx y:Int=>x<y)(hl:ks.length=pts.length):(fv ks b pts j).Pairwise λx y=>mI x y=true:=by
 obtain⟨qs,e,_,hq⟩:=jG b pts j;rw[jF e];have hs:=vS b pts j;rw[e,List.pairwise_map]at hs;rw[List.pairwise_map];refine List.Pairwise.imp_of_mem (λ{x y} hx hy Ik=>?_) hs;have a1:=hq x hx;have a2:=hq y hy;unfold mI at Ik ⊢;have:=lH h [y.1,y.2] [x.1,x.2] (by intro k hk;simp only[ab6,ack,or_false]at hk;omega) (by intro k hk;simp only[ab6,ack,or_false]at hk;omega)
 show(!HT.lexLt [ks.getD y.1 0,ks.getD y.2 0] [ks.getD x.1 0,ks.getD x.2 0])=true;rw[show HT.lexLt [ks.getD y.1 0,ks.getD y.2 0] [ks.getD x.1 0,ks.getD x.2 0]=_ from this]
 exact Ik
theorem oh(ks:List Int)(b:Bool)(pts:List (List Int))(j:Int):(fv ks b pts j).all eU=true:=by
 obtain⟨qs,e,_,_⟩:=jG b pts j;rw[jF e,List.all_map];exact ach.mpr λ_ _=>rfl
theorem jf(ks:List Int)(b:Bool)(pts:List (List Int)):((cz b pts).map (bx ks)).all eU=true:=ach.mpr λd hd=>by
 obtain⟨x,hx,rfl⟩:=List.mem_map.mp hd;obtain⟨p,q,_,_,rfl⟩:=cK hx;rfl
def dw(ks:List Int)(b:Bool)(pts:List (List Int))(n:Nat):List D:=(iO b pts n).map (bx ks)
theorem fJ(ks:List Int)(b:Bool)(pts:List (List Int)):(dw ks b pts pts.length).Perm ((cz b pts).map (bx ks)):=(xB b pts).map _
theorem xx(ks:List Int)(b:Bool)(pts:List (List Int)):(dw ks b pts pts.length).all eU=true:=ach.mpr λd hd =>
 ach.mp (jf ks b pts) d ((fJ ks b pts).mem_iff.mp hd)
theorem Am{ks:List Int}{b:Bool}{pts:List (List Int)}(h:ks.Pairwise λx y:Int=>x<y)(hl:ks.length=pts.length):(fC (dw ks b pts pts.length)).head?.getD .aQ=bx ks (m7 b pts):=by
 have:fC (dw ks b pts pts.length)=fC ((cz b pts).map (bx ks)):=oK (jf ks b pts) ((er _).trans (fJ ks b pts)) (fS _);rw[this,<- pM (jf ks b pts),Bo h hl]
theorem xA{ks:List Int}{b:Bool}{pts:List (List Int)}{j:Int}(h:ks.Pairwise λx y:Int=>x<y)(hl:ks.length=pts.length):fC ((dw ks b pts pts.length).filterMap (nearF j))=fv ks b pts j:=by
 have hp:((dw ks b pts pts.length).filterMap (nearF j)).Perm (fv ks b pts j):=by
  rw[<- mM];exact(fJ ks b pts).filterMap _
 have all:((dw ks b pts pts.length).filterMap (nearF j)).all eU=true:=ach.mpr λd hd=>ach.mp (oh ks b pts j) d (hp.mem_iff.mp hd);exact(oK all hp.symm (sf h hl)).symm
theorem lh{α:Type}{g:mw}{tc:TB}{te:TD}{σ0:Sd}{Q:List D->Prop}{items:List D}(gi:α->D)(f:α->Option D)(l:List α)(he:items=l.map gi)
  (h:∀a∈l,∀(A:D->Prop) (Bn:Prop),(match f a with|some d=>A d|none=>Bn)->g (gi a) σ0 λav=>tc av λb aL=>if b=true then te aL λd eY=>lF σ0 eY/\A d else lF σ0 aL/\Bn)
  (hl:l.length<=aca) (q:Q (l.filterMap f)):gI g tc te σ0 items [] Q:=by
 subst he;exact e9 gi f l h hl q
theorem ig(ps:List (Int×List Int)):(ps.map (·.1)).map D.int=(List.range ps.length).map λk=>.int ((ps.map (·.1)).getD k 0):=by
 apply List.ext_getElem?;intro i
 by_cases h:i<ps.length
 ·rw[<- fq,d0 h,acb,List.getElem?_range h];rfl
 ·rw[List.getElem?_eq_none (by simpa using h),List.getElem?_eq_none (by simpa using h)]
theorem jA{ps:List (Int×List Int)}{k:Nat}(h:(ps.map (·.1)).Pairwise λx y:Int=>x<y)(hk:k<ps.length):dn (bK ps) ((ps.map (·.1)).getD k 0)=some (gU ((ps.map (·.2)).getD k [])):=by
 have:=dX h (abY hk);rw[List.getD_eq_getElem?_getD,acb,abY hk,List.getD_eq_getElem?_getD,acb,abY hk];exact this
theorem jv{n:Nat}{ps:List (Int×List Int)}{k:Nat}(kf:gE n ps)(hk:k<ps.length):(ps.map (·.2)).getD k []∈ps.map (·.2)/\((ps.map (·.2)).getD k []).length<=3/\∀v∈(ps.map (·.2)).getD k [],xf v:=by
 have e:(ps.map (·.2)).getD k []=ps[k].2:=by rw[List.getD_eq_getElem?_getD,acb,abY hk];rfl
 rw[e];have:=kf.pt ps[k] (List.getElem_mem _);have h3:=kf.n3;exact⟨List.mem_map.mpr ⟨_,List.getElem_mem _,rfl⟩,by omega,this.2⟩
def yA(u:Int×Int×Int):D:=.tup [.int u.1,.int u.2.1,.int u.2.2]
theorem GL:∀l:List D,(∀d∈l,∃u,d=yA u)->∃us:List (Int×Int×Int),l=us.map yA
 | [],_=>⟨[],rfl⟩
 | d::l,h=>by
  obtain⟨u,rfl⟩:=h d (ab8 ..);obtain⟨us,e⟩:=GL l λx hx=>h x (ab1 _ hx);exact⟨u::us,by rw[e];rfl⟩
theorem A0(bound:Int)(t:Int×Int×Int):nearF bound (yA t)=if decide (t.1<=bound)=true then some (.tup [.int t.2.1,.int t.2.2])else none:=by
 show(if t.1<=bound then _ else _)=_
 by_cases h:t.1<=bound
 ·rw[if_pos h,if_pos (decide_eq_true h)]
 ·rw[if_neg h,if_neg (by rw[decide_eq_false h];decide)]
theorem Al(ks:List Int)(b:Bool)(pts:List (List Int))(n:Nat):∃us:List (Int×Int×Int),dw ks b pts n=us.map yA:=GL _ λd hd=>by
 obtain⟨x,hx,rfl⟩:=List.mem_map.mp hd;obtain⟨i,j,_,_,rfl⟩:=uB.mp hx;exact⟨(ju b (pts.getD i []) (pts.getD j []),ks.getD i 0,ks.getD j 0),rfl⟩
def tm:bq:=λds Q=>∃b n ps w i j,ds=[.dM (bK ps),cw b,.int w,.int i,.int j]/\gE n ps/\(w=1\/w=3->i∈ps.map (·.1))/\0<=j /\
 (w=0->Q (.own ((ps.map (·.1)).map D.int)))/\(w=1->∀d,dn (bK ps) i=some d->Q (.sh d))/\(w=2->Q (.sh (bx (ps.map (·.1)) (m7 b (ps.map (·.2)))))) /\
 (w=3->(ps.length=1->∀d,Q (.sh d))/\∀k:Nat,ps.length≠1->(ps.map (·.1))[k]?=some i->Q (.sh (bx (ps.map (·.1)) (gh b (ps.map (·.2)) k))))/\(w≠0->w≠1->w≠2->w≠3->Q (.own (fv (ps.map (·.1)) b (ps.map (·.2)) j)))
theorem RZ(ds:List D)(Q:B->Prop)(h:tm ds Q):GB gX {nx:=λ_=>Q (.sh .aQ),rt:=λb _=>Q b} (aP B2.length ds):=by
 obtain⟨b,n,ps,w,i,j,rfl,kf,hi,hj,q0,q1,q2,q3,q4⟩:=h;have ok:=kf.ok;have hl:=kf.len;have Hf:(ps.map (·.2)).length=ps.length:=abZ ..
 have ub:(ps.map (·.1)).length=ps.length:=abZ ..
 unfold GB;refine au λN hN=>?_;symm;rw[jB,eu kf.inc];subst hN;refine au λN hN=>?_;symm;refine⟨⟨rfl,rfl⟩,?_⟩;rw[cC]
 by_cases w0:w=0
 ·refine(if_pos (decide_eq_true w0)).mpr ?_
  exact q0 w0
 refine(if_neg (by rw[decide_eq_false w0];decide)).mpr ?_
 subst hN;refine au λN hN=>?_;symm;refine⟨⟨rfl,rfl⟩,?_⟩;rw[cC]
 by_cases w1:w=1
 ·refine(if_pos (decide_eq_true w1)).mpr ?_
  obtain⟨k,p,hk,rfl⟩:∃(k:Nat) (p:Int×List Int),ps[k]?=some p/\p.1=i:=by
   obtain⟨p,hp,rfl⟩:=List.mem_map.mp (hi (.inl w1));obtain⟨k,hk⟩:=List.getElem?_of_mem hp;exact⟨k,p,hk,rfl⟩
  have Hd:=dX kf.inc hk;exact⟨_,Hd,q1 w1 _ Hd⟩
 refine(if_neg (by rw[decide_eq_false w1];decide)).mpr ?_
 subst hN;refine au λN hN=>?_;show cF _ (dP [] (eE qz _)) _ _ _;generalize ht:dP [] (eE qz _)=tb;symm;refine⟨⟨rfl,rfl⟩,?_⟩;rw[cC]
 by_cases w3:w=3
 ·refine(if_pos (decide_eq_true w3)).mpr ?_
  subst ht;symm;obtain⟨k,hk⟩:=List.getElem?_of_mem (hi (.inr w3));have Bt:k<ps.length:=by have:=(ab2.mp hk).1;rwa [ub]at this
  have hik:i=(ps.map (·.1)).getD k 0:=by rw[List.getD_eq_getElem?_getD,hk];rfl
  obtain⟨m1,m2,m3⟩:=jv kf Bt;refine lh (λa:Nat=>D.int ((ps.map (·.1)).getD a 0)) (λa=>if decide ((a:Int)≠(k:Int))=true then some (bx (ps.map (·.1)) (eI b (ps.map (·.2)) ((ps.map (·.2)).getD k []) a))else none) (List.range ps.length) (ig ps) (λa ha A Bn hA=>?_) (by rw[List.length_range,sz];omega) ?_
  ·have ha:=List.mem_range.mp ha
   obtain⟨a1,a2,a3⟩:=jv kf ha;walk_at "vg";symm;refine⟨⟨rfl,rfl⟩,?_⟩;have hc:=(rZ kf.inc (show a<(ps.map (·.1)).length by rw[ub];exact ha) (show k<(ps.map (·.1)).length by rw[ub];exact Bt)).1
   rw[hik,cC]
   by_cases e:a=k
   ·rw[if_neg (by rw[decide_eq_true (hc.mpr e)];decide)]
    rw[if_neg (by simp [e])]at hA
    exact hA
   ·rw[if_pos (by rw[decide_eq_false (λz=>e (hc.mp z))])]
    rw[if_pos (decide_eq_true ⋯)]at hA
    refine⟨_,jA kf.inc Bt,?_⟩;symm;refine⟨_,jA kf.inc ha,?_⟩;symm;refine⟨b,_,_,rfl,ok.good.bd m1,ok.good.bd a1,?_⟩;symm;exact⟨by decide,hA⟩
  rw[fc];have e10:(10:Int)^Int.toNat 40=10^40:=by decide
  rw[e10];have aa4:(List.range ps.length).filter (λa:Nat=>decide ((a:Int)≠(k:Int)))=others (ps.map (·.2)).length k:=by unfold others;rw[Hf]
  rw[aa4];have hmm:(others (ps.map (·.2)).length k).map (λa=>bx (ps.map (·.1)) (eI b (ps.map (·.2)) ((ps.map (·.2)).getD k []) a))=((others (ps.map (·.2)).length k).map (eI b (ps.map (·.2)) ((ps.map (·.2)).getD k []))).map (bx (ps.map (·.1))):=by rw[List.map_map];rfl
  rw[hmm];have hlen:=ou (ps.map (·.2)).length k
  refine⟨by unfold nz;decide,by decide,by decide,by rw[abZ,abZ,sz];omega,⟨.inr ?_,by simp⟩,?_⟩
  ·rw[List.all_append,List.all_map,List.all_map,Bool.and_eq_true]
   exact⟨ach.mpr λ_ _=>rfl,by decide⟩
  ·by_cases h1:ps.length=1
   ·exact(q3 w3).1 h1 _
   ·rw[Cd,xS kf.inc (by rw[ub,Hf]),getD_map]
    ·exact(q3 w3).2 k h1 hk
    ·have:∃a,a∈others (ps.map (·.2)).length k:=by
      refine⟨if k=0 then 1 else 0,List.mem_filter.mpr ⟨List.mem_range.mpr ?_,decide_eq_true ?_⟩⟩
      ·rw[Hf];split<;>omega
      ·split<;>omega
     obtain⟨a,ha⟩:=this;intro z;have:=List.length_eq_zero_iff.mpr z;rw[abZ,abZ]at this;rw[List.length_eq_zero_iff.mp this]at ha;cases ha
    ·intro x hx
     obtain⟨y,hy,rfl⟩:=List.mem_map.mp hx;obtain⟨a,ha,rfl⟩:=List.mem_map.mp hy;have ha:=fw ha;rw[Hf]at ha;obtain⟨a1,a2,a3⟩:=jv kf ha;have:=Ot (b:=b) (q:=(ps.map (·.2)).getD a []) m2 m3 a3
     show HT.lexLt [10^40,0] [ju b _ _,_]=false;rw[HT.bT,if_neg ⋯,decide_eq_false ⋯]
 refine(if_neg (by rw[decide_eq_false w3];decide)).mpr ?_
 subst hN;refine au λN hN=>?_;symm;refine⟨by decide,?_⟩
 subst hN;refine au λN hN=>?_;show dU _ _ _ _ _;generalize ht:o9 (JX _ _)=tb;symm;rw[ig];refine eJ (λa:Nat=>D.int ((ps.map (·.1)).getD a 0)) (List.range ps.length) (λt σ=>∃x7,σ=[some (.sh (.dM (bK ps))),some (.sh (cw b)),some (.sh (.int w)),some (.sh (.int i)),some (.sh (.int j)),some (.sh (.lst ((ps.map (·.1)).map D.int))),some (.own (dw (ps.map (·.1)) b (ps.map (·.2)) t)),x7]) (λt a σ N' hx hI O6=>?_) (λσ hI=>?_) ⟨none,by rw[ig]⟩
 ·obtain⟨rfl,ht'⟩:=fA hx
  obtain⟨x7,rfl⟩:=hI;obtain⟨m1,m2,m3⟩:=jv kf ht';walk_at "vg";subst ht;symm;refine⟨⟨_,rfl⟩,lh (λc:Nat=>D.int ((ps.map (·.1)).getD c 0)) (λc=>if decide (c<a)=true then some (bx (ps.map (·.1)) (pairD b (ps.map (·.2)) c a))else none) (List.range ps.length) (ig ps) (λc hc A Bn hA=>?_) (by rw[List.length_range,sz];omega) ?_⟩
  ·have hc:=List.mem_range.mp hc
   obtain⟨a1,a2,a3⟩:=jv kf hc;walk_at "vg";symm;have XQ:=(rZ kf.inc (show c<(ps.map (·.1)).length by rw[ub];exact hc) (show a<(ps.map (·.1)).length by rw[ub];exact ht')).2
   by_cases e:c<a
   ·rw[if_pos (XQ.mpr e)]
    rw[if_pos (decide_eq_true e)]at hA;refine⟨_,jA kf.inc hc,?_⟩;symm;refine⟨_,jA kf.inc ht',?_⟩;symm;refine⟨b,_,_,rfl,ok.good.bd a1,ok.good.bd m1,?_⟩;symm;exact⟨by decide,hA⟩
   ·rw[if_neg (λz=>e (XQ.mp z))]
    rw[if_neg (by rw[decide_eq_false e];decide)]at hA
    exact hA
  ·rw[XC _ a ps.length ⋯]
   have hz:=nG b (ps.map (·.2)) a
   have hz2:a*a<=1000*1000:=Nat.mul_le_mul ⋯ ⋯
   refine⟨by unfold dw;rw[abZ,abZ,List.length_range,sz];omega,O6 _ ⟨some (.sh (.int ((ps.map (·.1)).getD a 0))),?_⟩⟩
   have:dw (ps.map (·.1)) b (ps.map (·.2)) (a+1)=dw (ps.map (·.1)) b (ps.map (·.2)) a++(List.range a).map (λc=>bx (ps.map (·.1)) (pairD b (ps.map (·.2)) c a)):=by
    unfold dw;show(iO b (ps.map (·.2)) a++uA b (ps.map (·.2)) a).map _=_
    rw[List.map_append,uA,List.map_map];rfl
   rw[this]
 ·obtain⟨x7,rfl⟩:=hI
  rw[List.length_range,<- Hf];have hcl:=nG b (ps.map (·.2)) (ps.map (·.2)).length
  have abM:(ps.map (·.2)).length*(ps.map (·.2)).length<=1000*1000:=Nat.mul_le_mul ⋯ ⋯
  show N _;subst hN;refine au λN hN=>?_;symm;refine⟨⟨rfl,rfl⟩,?_⟩;rw[cC];have hlen:(dw (ps.map (·.1)) b (ps.map (·.2)) (ps.map (·.2)).length).length<=1000000:=by unfold dw;rw[abZ];omega
  by_cases w2:w=2
  ·refine(if_pos (decide_eq_true w2)).mpr ⟨xx _ _ _,by decide,by rw[(er _).length_eq,sz];omega,?_⟩
   have ht2:=Am (b:=b) kf.inc (show(ps.map (·.1)).length=(ps.map (·.2)).length by rw[ub,Hf])
   refine bo (n:=0) rfl (d:=bx (ps.map (·.1)) (m7 b (ps.map (·.2)))) ?_ (q2 w2)
   rw[<- ht2];cases fC (dw (ps.map (·.1)) b (ps.map (·.2)) (ps.map (·.2)).length)<;>rfl
  refine(if_neg (by rw[decide_eq_false w2];decide)).mpr ?_
  subst hN;symm;have Ej:=xA (b:=b) (j:=j) kf.inc (show(ps.map (·.1)).length=(ps.map (·.2)).length by rw[ub,Hf])
  have iD:((dw (ps.map (·.1)) b (ps.map (·.2)) (ps.map (·.2)).length).filterMap (nearF j)).all eU=true:=by
   have hp:((dw (ps.map (·.1)) b (ps.map (·.2)) (ps.map (·.2)).length).filterMap (nearF j)).Perm (fv (ps.map (·.1)) b (ps.map (·.2)) j):=by
    rw[<- mM];exact(fJ _ _ _).filterMap _
   exact ach.mpr λd hd=>ach.mp (oh _ b _ j) d (hp.mem_iff.mp hd)
  obtain⟨us,e⟩:=Al (ps.map (·.1)) b (ps.map (·.2)) (ps.map (·.2)).length
  rw[e]at hlen Ej iD;rw[abZ]at hlen;rw[List.filterMap_map]at Ej iD;refine lh yA (λt=>nearF j (yA t)) us e (λt ht A Bn ha=>?_) (by rw[sz];omega) ?_
  ·rw[A0]at ha
   unfold yA;walk_at "vg";symm
   by_cases hb:t.1<=j
   ·rw[if_pos hb]
    rw[if_pos (decide_eq_true hb)]at ha;exact⟨by decide,ha⟩
   ·rw[if_neg hb]
    rw[if_neg (by rw[decide_eq_false hb];decide)]at ha
    exact ha
  ·refine⟨iD,?_⟩
   have:=q4 w0 w1 w2 w3;rw[<- Ej]at this;exact this
theorem jK{m:Nat}{ns:List Int}(h:ns.length<=1000000):pv (m+1) (.tup (ns.map D.int))=true:=(xU (by rw[abZ];exact h) λx hx=>by
 obtain⟨v,_,rfl⟩:=List.mem_map.mp hx;exact nk m v).2
theorem A4{m:Nat}{ns:List Int}(h:ns.length<=1000000):pv (m+1) (.lst (ns.map D.int))=true:=(xU (by rw[abZ];exact h) λx hx=>by
 obtain⟨v,_,rfl⟩:=List.mem_map.mp hx;exact nk m v).1
theorem Jd(ks:List Int)(b:Bool)(pts:List (List Int)):pv 2 (bx ks (m7 b pts))=true:=by
 rcases Ac b pts with h|⟨p,q,_,_,h⟩
 ·rw[h];rfl
 ·rw[h];exact jK (ns:=[_,_,_]) (by simp)
theorem A5(ks:List Int)(b:Bool)(pts:List (List Int))(k:Nat)(hk:k<pts.length):pv 2 (bx ks (gh b pts k))=true:=by
 rcases zq b pts k hk with h|⟨f,q,_,h⟩
 ·rw[h];rfl
 ·rw[h];exact jK (ns:=[_,_]) (by simp)
theorem A6(ks:List Int)(b:Bool)(pts:List (List Int))(j:Int)(hl:pts.length<=1000):pv 2 (.lst (fv ks b pts j))=true:=by
 obtain⟨qs,e,hq,_⟩:=jG b pts j;have hz:=oA (b:=b) hl;rw[jF e];refine(xU (by rw[abZ];omega) λx hx=>?_).1
 obtain⟨p,_,rfl⟩:=List.mem_map.mp hx;exact jK (ns:=[_,_]) (by simp)
def tu:bq:=λds Q=>∃b c e n ps w i j,ds=[.kp (bA b) c e (bK ps),.dM (bK ps),cw b,.int w,.int i,.int j]/\gE n ps/\(ps=[]\/i∈ps.map (·.1))/\0<=j/\Q (.sh (.bl true))
theorem Zi(ds:List D)(Q:B->Prop)(h:tu ds Q):UR tm (dY 3) kJ {nx:=λ_=>Q (.sh .aQ),rt:=λb _=>Q b} (aP Mb.length ds):=by
 obtain⟨b,c,e,n,ps,w,i,j,rfl,kf,hi,hj,h⟩:=h;have hl:=kf.len;have Hf:(ps.map (·.2)).length=ps.length:=abZ ..
 have ub:(ps.map (·.1)).length=ps.length:=abZ ..
 unfold UR;refine au λN hN=>?_;have main:(w=1\/w=3->i∈ps.map (·.1))->N [some (.sh (.kp (bA b) c e (bK ps))),some (.sh (.dM (bK ps))),some (.sh (cw b)),some (.sh (.int w)),some (.sh (.int i)),some (.sh (.int j)),none]:=by
  intro hi;subst hN;refine au λN hN=>?_;have Lh:∀xs,¬w=3->pv 2 (.lst xs)=true->(∀Q':B->Prop,Q' (.own xs)->kJ [.kp (bA b) c e (bK ps),.int w,.int i,.int j] Q')->N [some (.sh (.kp (bA b) c e (bK ps))),some (.sh (.dM (bK ps))),some (.sh (cw b)),some (.sh (.int w)),some (.sh (.int i)),some (.sh (.int j)),some (.own xs)]:=by
   intro xs w3 ok ans;subst hN;refine au λN hN=>?_;symm;refine⟨⟨rfl,rfl⟩,?_⟩;rw[cC,if_neg (by rw[decide_eq_false w3];decide)]
   refine(if_neg ∅).mpr ?_
   subst hN;symm;refine ans _ ?_;symm;exact⟨_,rfl,ok,h⟩
  have O5:∀d,¬(w=3/\ps.length=1)->pv 2 d=true->(∀Q':B->Prop,Q' (.sh d)->kJ [.kp (bA b) c e (bK ps),.int w,.int i,.int j] Q')->N [some (.sh (.kp (bA b) c e (bK ps))),some (.sh (.dM (bK ps))),some (.sh (cw b)),some (.sh (.int w)),some (.sh (.int i)),some (.sh (.int j)),some (.sh d)]:=by
   intro d w3 ok ans;subst hN;refine au λN hN=>?_;symm;refine⟨⟨rfl,rfl⟩,?_⟩;have go:N [some (.sh (.kp (bA b) c e (bK ps))),some (.sh (.dM (bK ps))),some (.sh (cw b)),some (.sh (.int w)),some (.sh (.int i)),some (.sh (.int j)),some (.sh d)]:=by
    subst hN;symm;refine ans _ ?_;symm;exact⟨_,rfl,ok,h⟩
   rw[cC]
   by_cases w3':w=3
   ·refine(if_pos (decide_eq_true w3')).mpr ⟨⟨rfl,rfl⟩,?_⟩
    rw[gN,cC,if_neg (by rw[decide_eq_false (λz=>w3 ⟨w3',by omega⟩)];decide)]
    exact go
   ·exact(if_neg (by rw[decide_eq_false w3'];decide)).mpr go
  have O4:∀d,w=3->ps.length=1->N [some (.sh (.kp (bA b) c e (bK ps))),some (.sh (.dM (bK ps))),some (.sh (cw b)),some (.sh (.int w)),some (.sh (.int i)),some (.sh (.int j)),some (.sh d)]:=by
   intro d w3 h1;subst hN;refine au λN hN=>?_;symm;refine⟨⟨rfl,rfl⟩,?_⟩;rw[cC,if_pos (decide_eq_true w3)];refine⟨⟨rfl,rfl⟩,?_⟩;rw[gN,cC,if_pos (decide_eq_true ⋯)]
   subst hN;symm;refine⟨b,c,e,n,ps,w,i,j,rfl,kf,hi,hj,λz=>absurd z ⋯,λz=>absurd z ⋯,λz=>absurd z ⋯,λ_ k hk=>?_,λ_ _ _ z=>absurd w3 z⟩
   have Bt:k<ps.length:=by have:=(ab2.mp hk).1;rwa [ub]at this
   have:k=0:=by omega
   subst this;obtain⟨p,rfl⟩:=List.length_eq_one_iff.mp h1;rw[show gh b (List.map (·.2) [p]) 0=.aQ from rfl]
   symm;exact⟨_,rfl,rfl,h⟩
  symm;refine⟨b,n,ps,w,i,j,rfl,kf,hi,hj,λw0=>?_,λw1 d hd=>?_,λw2=>?_,λw3=>⟨λh1 d=>?_,λk h1 hk=>?_⟩,λw0 w1 w2 w3=>?_⟩
  ·symm
   refine Lh _ ⋯ (A4 ⋯) λQ' q=>⟨b,c,e,n,ps,w,i,j,rfl,kf,hi,hj,λ_=>q,λz=>absurd z ⋯,λz=>absurd z ⋯,λz=>absurd z ⋯,λz=>absurd w0 z⟩
  ·symm
   refine O5 _ ⋯ ?_ λQ' q=>⟨b,c,e,n,ps,w,i,j,rfl,kf,hi,hj,λz=>absurd z ⋯,λ_ d' Vm=>by rw[hd]at Vm;cases Vm;exact q,λz=>absurd z ⋯,λz=>absurd z ⋯,λ_ z=>absurd w1 z⟩
   obtain⟨k,p,hk,hpi⟩:=zj (ps:=ps) (i:=i) (by rw[hd];rfl)
   have:=dX kf.inc hk;rw[hpi,hd]at this;cases this;have hp:=kf.pt p (List.mem_of_getElem? hk);have:=kf.n3;exact jK ⋯
  ·symm
   refine O5 _ ⋯ (Jd _ _ _) λQ' q=>⟨b,c,e,n,ps,w,i,j,rfl,kf,hi,hj,λz=>absurd z ⋯,λz=>absurd z ⋯,λ_=>q,λz=>absurd z ⋯,λ_ _ z=>absurd w2 z⟩
  ·symm
   exact O4 d w3 h1
  ·have Bt:k<ps.length:=by have:=(ab2.mp hk).1;rwa [ub]at this
   symm;refine O5 _ (λz=>h1 z.2) (A5 _ _ _ k (by rw[Hf];exact Bt)) λQ' q=>⟨b,c,e,n,ps,w,i,j,rfl,kf,hi,hj,λz=>absurd z ⋯,λz=>absurd z ⋯,λz=>absurd z ⋯,λ_ k' Ln=>?_,λ_ _ _ z=>absurd w3 z⟩
   have aaZ:k'<ps.length:=by have:=(ab2.mp Ln).1;rwa [ub]at this
   have e1:(ps.map (·.1)).getD k 0=i:=by rw[List.getD_eq_getElem?_getD,hk];rfl
   have e2:(ps.map (·.1)).getD k' 0=i:=by rw[List.getD_eq_getElem?_getD,Ln];rfl
   have:k'=k:=(rZ kf.inc (by rw[ub];exact aaZ) (by rw[ub];exact Bt)).1.mp (by rw[e1,e2])
   rw[this];exact q
  ·symm
   refine Lh _ w3 (A6 _ _ _ _ (by rw[Hf];exact hl)) λQ' q=>⟨b,c,e,n,ps,w,i,j,rfl,kf,hi,hj,λz=>absurd z w0,λz=>absurd z w1,λz=>absurd z w2,λz=>absurd z w3,λ_ _ _ _=>q⟩
 symm
 by_cases hp:ps=[]
 ·subst hp
  refine(if_pos rfl).mpr ⟨by decide,⟨rfl,rfl⟩,?_⟩
  split
  ·exact h
  ·rename_i Ef
   refine main λz=>absurd ?_ Ef;rcases z with rfl|rfl<;>rfl
 ·refine(if_neg ?_).mpr ((if_neg ∅).mpr (main λ_=>hi.resolve_left hp))
  cases ps with
  | nil=>exact absurd rfl hp
  | cons p ps=>exactλz=>nomatch z
theorem zr:∀l:List Int,jJ (l.map D.int)=true
 | []=>rfl
 | _::l=>zr l
theorem LC(p:List Int):VB (gU p)=true:=zr p
theorem yU{n:Nat}{ps:List (Int×List Int)}{e:Int}{p:List Int}(k:gE n ps)(hl:ps.length<1000)(he:∀q∈ps,q.1<e)(hp:p.length=n)(hf:∀v∈p,xf v):gE n (ps++[(e,p)]):=⟨k.n1,k.n3,λq hq=>by
 rcases List.mem_append.mp hq with hq|hq
 ·exact k.pt q hq
 ·rw[ab5.mp hq];exact⟨hp,hf⟩,by
 rw[List.map_append,List.pairwise_append];refine⟨k.inc,List.pairwise_singleton _ _,λa ha c hc=>?_⟩;obtain⟨q,hq,rfl⟩:=List.mem_map.mp ha;rw[ab5.mp hc];exact he q hq,by rw[List.length_append,List.length_singleton];omega⟩
theorem vD{ps:List (Int×List Int)}{e:Int}{p:List Int}(he:∀q∈ps,q.1<e):dn (bK (ps++[(e,p)])) e=some (gU p):=by
 unfold dn bK;rw[List.map_append,List.find?_append,List.find?_eq_none.mpr]
 ·rw[Option.none_or]
  show Option.map _ (List.find? _ [(e,gU p)])=_;rw[List.find?_cons_of_pos (by simp)];rfl
 ·intro x hx
  obtain⟨q,hq,rfl⟩:=List.mem_map.mp hx;have:=he q hq;simp only[decide_eq_true_eq];omega
theorem Fx{ps:List (Int×List Int)}{e:Int}{p:List Int}(he:∀q∈ps,q.1<e):∀q∈ps++[(e,p)],q.1<e+1:=λq hq=>by
 rcases List.mem_append.mp hq with hq|hq
 ·have:=he q hq;omega
 ·rw[ab5.mp hq];omega
theorem HN(ps:List (Int×List Int))(i:Int):iT (bK ps) i=bK (ps.filter λq=>decide (q.1≠i)):=by
 unfold iT bK;rw[List.filter_map];rfl
theorem DL{n:Nat}{ps:List (Int×List Int)}(k:gE n ps)(i:Int):gE n (ps.filter λq=>decide (q.1≠i)):=⟨k.n1,k.n3,λq hq=>k.pt q (List.mem_filter.mp hq).1,k.inc.sublist (List.filter_sublist.map _),Nat.le_trans (List.length_filter_le _ _) k.len⟩
theorem HP{ps:List (Int×List Int)}{i:Int}(h:i∈ps.map (·.1)):(ps.filter λq=>decide (q.1≠i)).length<ps.length:=by
 obtain⟨p,hp,rfl⟩:=List.mem_map.mp h;exact List.length_filter_lt_length_iff_exists.mpr ⟨p,hp,by simp⟩
def sZ:iK:=λbs Q=>∃(y:List D) (a dx ad p6:Addr) (b:Bool) (n:Nat) (ps:List (Int×List Int)),bs=[.own y,.obj (gw a dx ad (bA b) n ps.length (bK ps)),.obj (p8 p6 (bK ps)),.sh (cw b),.sh (.int n)]/\cX y/\gE n ps/\0<ps.length/\ps.length<=100/\(∀q∈ps,q.1<(ps.length:Int)) /\
 ∀(y':List D) (e':Int) (Bf:List (Int×List Int)),cX y'->gE n Bf->0<Bf.length->Q (.sh (.bl true)) [.own y',.obj (gw a dx ad (bA b) n e' (bK Bf)),.obj (p8 p6 (bK Bf)),.sh (cw b),.sh (.int n)]
theorem IB(bs:List B)(Q:B->List B->Prop)(h:sZ bs Q)(i:Nat)(xs:List D)(e:bs[i]?=some (.own xs)):i∈[0,1,2]:=by
 obtain⟨y,a,dx,ad,p6,b,n,ps,rfl,_⟩:=h;exact xN 3 rfl e
theorem Zf(bs:List B)(Q:B->List B->Prop)(h:sZ bs Q):Gb fU nu tB (dY 3) oS kI tu {nx:=wZ bs Q (.sh .aQ),rt:=λb σ=>wZ bs Q b σ} (cE BD.length bs):=by
 obtain⟨y,a1,Bs,Br,p6,b,n,ZK,rfl,ry,kf0,hp0,X7,he0,h⟩:=h;have XB:∀y' e' Bf x5 x6 x7 x8 x9,cX y'->gE n Bf->0<Bf.length->wZ [.own y,.obj (gw a1 Bs Br (bA b) n ZK.length (bK ZK)),.obj (p8 p6 (bK ZK)),.sh (cw b),.sh (.int n)] Q (.sh (.bl true)) [some (.own y'),some (.obj (gw a1 Bs Br (bA b) n e' (bK Bf))),some (.obj (p8 p6 (bK Bf))),some (.sh (cw b)),some (.sh (.int n)),x5,x6,x7,x8,x9]:=λy' e' Bf x5 x6 x7 x8 x9 k1 k2 k3 =>
  ⟨[.own y',.obj (gw a1 Bs Br (bA b) n e' (bK Bf)),.obj (p8 p6 (bK Bf)),.sh (cw b),.sh (.int n)],.own _ _ (.obj rfl rfl (λz=>nomatch z) (.obj rfl rfl (λz=>nomatch z) (.sh _ (.sh _ .nil)))),⟨rfl,rfl,rfl,trivial⟩,h y' e' Bf k1 k2 k3⟩
 clear h;generalize wZ _ Q=MQ at XB;unfold Gb;refine au λN hN=>?_;symm;symm;symm;rw[gN];subst hN;refine au λN1 DW=>?_;show dU _ _ _ _ _;generalize ht:bQ (eG [0,1,2] 7 _) _=tb;symm;refine⟨⟨_,rfl⟩,ry,112,rfl,by decide,by decide,λma y3 ma0 ma1 r3=>?_⟩
 symm;obtain⟨many,Eh⟩:∃k:Nat,30+ma=k:=⟨(30+ma).toNat,by omega⟩
 rw[Eh,Int.toNat_natCast,dg];refine⟨by omega,eJ (λi:Nat=>.int (0+(i:Nat))) (List.range many) (λi σ=>∃y ps e x6 x7 x8 x9,σ=[some (.own y),some (.obj (gw a1 Bs Br (bA b) n e (bK ps))),some (.obj (p8 p6 (bK ps))),some (.sh (cw b)),some (.sh (.int n)),some (.sh (.int e)),x6,x7,x8,x9]/\cX y/\gE n ps/\0<ps.length/\ps.length<=100/\∀q∈ps,q.1<e) (λi k σ N2 hx hI Aw=>?_) (λσ hI=>?_) ⟨y3,ZK,ZK.length,_,_,_,_,rfl,r3,kf0,hp0,X7,he0⟩⟩
 ·obtain⟨rfl,hi⟩:=fA hx
  obtain⟨y,ps,e,x6,x7,x8,x9,rfl,ry,kf,Lq,dm,Hg⟩:=hI;have ub:(ps.map (·.1)).length=ps.length:=abZ ..
  walk_at "vg";subst ht;refine au λN3 rP=>?_;symm;rw[jB,eu kf.inc];subst rP;refine au λN3 rP=>?_;symm;refine⟨⟨_,rfl⟩,ry,_,rfl,by rw[abZ];omega,by rw[abZ];omega,λr y4 q0 q1 r4=>?_⟩
  symm;refine cW q0 q1 λd1 XR=>cW ⋯ (by rw[abZ,ub];omega) λd2 hd2=>nX (by rw[abZ,ub];exact Lq) λd3 hd3=>⟨by decide,⟨_,rfl⟩,r4,3,rfl,by decide,by decide,λr2 y5 q2 q3 r5=>?_⟩
  symm;refine cW q2 q3 λd hd=>?_;have:d∈(ps.map (·.1)).map D.int:=by
   simp only[ab6,ack,or_false]at hd;rcases hd with rfl|rfl|rfl
   ·exact XR
   ·exact hd2
   ·exact hd3
  obtain⟨nm,Lp,rfl⟩:=List.mem_map.mp this;obtain⟨p0,aa6,rfl⟩:=List.mem_map.mp Lp;obtain⟨k0,wY⟩:=List.getElem?_of_mem aa6;have Hd:=dX kf.inc wY;subst rP;refine au λN3 rP=>?_;symm;refine⟨⟨_,_,rfl⟩,p6,bK ps,rfl,by rw[Hd];rfl,?_⟩
  subst rP;refine au λN3 rP=>?_;symm;refine⟨⟨_,_,_,_,_,rfl,rfl⟩,by decide,(λ_ h=>h.elim),a1,Bs,Br,bA b,n,e,p0.1,bK ps,rfl,by rw[Hd];rfl,.inl trivial,?_⟩
  symm;rw[HN];have iR:=HP Lp;have kd:=DL kf p0.1;have Vo:∀q∈ps.filter (λq=>decide (q.1≠p0.1)),q.1<e:=λq hq=>Hg q (List.mem_filter.mp hq).1;generalize ps.filter (λq=>decide (q.1≠p0.1))=qs at iR kd Vo;subst rP;refine au λN3 rP=>?_;symm;refine⟨⟨_,rfl⟩,⟨_,rfl⟩,by decide,(λj hj=>by rw[ab5.mp hj];decide),y5,[.int n,.dM (bK qs)],rfl,r5,n,qs,rfl,kd,λp y6 hp hf r6=>?_⟩
  have Pk:jJ y6=true:=by obtain⟨_,_,rfl⟩:=r6;rfl
  refine⟨.inr ⟨LC p,zt Pk _⟩,?_⟩;symm;refine⟨⟨_,_,rfl⟩,p6,bK qs,rfl,by rw[gN,sz];omega,?_⟩
  rw[nV Vo];have hz:=yU kd ⋯ Vo hp hf
  have hzl:(qs++[(e,p)]).length<=100:=by rw[List.length_append,List.length_singleton];omega
  have hz0:0<(qs++[(e,p)]).length:=by rw[List.length_append,List.length_singleton];omega
  subst rP;refine au λN3 rP=>?_;symm;refine⟨⟨_,_,_,_,_,rfl,rfl⟩,_,vD Vo,by decide,(λ_ h=>h.elim),a1,Bs,Br,b,n,e,n,qs,p,rfl,by rw[hp],by omega,Vo,.inl trivial,?_⟩
  symm;refine⟨_,rfl,nk 2 e,?_⟩;symm
  try refine(if_neg ∅).mpr ?_
  subst rP;refine au λN3 rP=>?_;symm;subst rP;have X4:=Fx (p:=p) Vo;generalize qs++[(e,p)]=rs at hz hzl hz0 X4;symm;have fin:∀y x8 x9,cX y->N2 [some (.own y),some (.obj (gw a1 Bs Br (bA b) n (e+1) (bK rs))),some (.obj (p8 p6 (bK rs))),some (.sh (cw b)),some (.sh (.int n)),some (.sh (.int (e+1))),some (.sh (.int k)),some (.own ((ps.map (·.1)).map D.int)),x8,x9]:=λy x8 x9 ry=>Aw _ ⟨y,rs,e+1,_,_,_,_,rfl,ry,hz,hz0,hzl,X4⟩
  refine⟨by decide,⟨rfl,rfl⟩,?_⟩
  split
  ·refine⟨⟨_,rfl⟩,⟨_,rfl⟩,by decide,(λj hj=>by rw[ab5.mp hj];decide),y6,[.dM (bK rs)],rfl,r6,n,rs,rfl,hz,λnm bd y7 Lp Vk r7=>?_⟩
   have Pl:jJ y7=true:=by obtain⟨_,_,rfl⟩:=r7;rfl
   refine⟨.inr ⟨rfl,zt Pl _⟩,?_⟩;symm;refine⟨⟨_,rfl⟩,⟨_,rfl⟩,⟨_,rfl⟩,r7,5,rfl,by decide,by decide,λw y8 w0 w1 r8=>?_⟩
   symm;refine⟨List.nodup_nil,λ_ _=>trivial,[.kp (bA b) n (e+1) (bK rs),.dM (bK rs),cw b,.int w,.int nm,.int bd],rfl,b,n,e+1,n,rs,w,nm,bd,rfl,hz,Lp,Vk,.inr ⟨rfl,rfl⟩,?_⟩;symm;exact(if_neg ∅).mpr (fin _ _ _ r8)
  ·exact fin _ _ _ r6
 ·obtain⟨y,ps,e,x6,x7,x8,x9,rfl,ry,kf,Lq,dm,Hg⟩:=hI
  show N1 _;subst DW;symm;exact XB y e ps _ _ _ _ _ ry kf Lq
def FV:bq:=λds Q=>∃ns:List Int,ds=[.jj ns]/\ns.length<=63/\Q (.sh (.bl true))
theorem Zr(ds:List D)(Q:B->Prop)(h:FV ds Q):GF tG fU tf tB (dY 3) oS sZ kI tu {nx:=λ_=>Q (.sh .aQ),rt:=λb _=>Q b} (aP B5.length ds):=by
 obtain⟨ns,rfl,hns,h⟩:=h;unfold GF;refine au λN hN=>?_;unfold Ab;generalize ht:bQ (eG [] 2 _) _=tb;symm;refine⟨⟨cut ns none (some 1),by rw[uE],Nat.le_trans (yS _ _ _) hns⟩,λm=>vo (λσ=>∃x1 x2 x3 x4 x5 x6 x7 x8 x9,σ=[some (.sh (.jj ns)),x1,x2,x3,x4,x5,x6,x7,x8,x9]) (λi c σ N' hI O6=>?_) (λσ hI=>?_) m 0 _ ⟨_,_,_,_,_,_,_,_,_,rfl⟩⟩
 ·obtain⟨x1,x2,x3,x4,x5,x6,x7,x8,x9,rfl⟩:=hI
  subst ht;have r0:cX [.int c,.int 0]:=⟨_,_,rfl⟩;unfold S9;simp only[List.set_cons_zero,List.set_cons_succ];refine au λN1 DW=>?_;symm;refine⟨⟨_,rfl⟩,r0,rfl,λb y1 r1=>?_⟩;symm;subst DW;refine au λN1 DW=>?_;symm;refine⟨⟨_,rfl⟩,r1,3,rfl,by decide,by decide,λa1 y2 a10 a11 r2=>?_⟩
  symm;obtain⟨n,Vt,hn3,rfl⟩:∃n:Nat,1<=n/\n<=3/\a1=(n:Int)-1:=⟨(1+a1).toNat,by omega,by omega,by omega⟩
  rw[show 1+((n:Int)-1)=(n:Int)by omega]
  subst DW;refine au λN1 DW=>?_;symm;refine⟨b,n,rfl,by omega,by omega,λa1 Bs Br=>?_⟩
  subst DW;refine au λN1 DW=>?_;symm;intro p6;subst DW;refine au λN1 DW=>?_;show dU _ _ _ _ _;generalize ht:bQ (FZ 5 _ _) _=tb;symm;refine⟨⟨_,rfl⟩,r2,21,rfl,by decide,by decide,λma y3 ma0 ma1 r3=>?_⟩
  symm;obtain⟨many,Eh⟩:∃k:Nat,40+ma=k:=⟨(40+ma).toNat,by omega⟩
  rw[Eh,Int.toNat_natCast,dg];refine⟨by omega,eJ (λi:Nat=>.int (0+(i:Nat))) (List.range many) (λi σ=>∃y ps x6,σ=[some (.sh (.jj ns)),some (.own y),some (.sh (cw b)),some (.sh (.int n)),some (.obj (gw a1 Bs Br (bA b) n ps.length (bK ps))),some (.obj (p8 p6 (bK ps))),x6,x7,x8,x9]/\cX y/\gE n ps/\(∀q∈ps,q.1<(ps.length:Int))/\ps.length=i) (λi k σ N2 hx hI Aw=>?_) (λσ hI=>?_) ⟨y3,[],_,rfl,r3,⟨Vt,hn3,nofun,List.Pairwise.nil,by decide⟩,nofun,rfl⟩⟩
  ·obtain⟨rfl,hi⟩:=fA hx
   obtain⟨y,ps,x6,rfl,ry,kf,Hg,dm⟩:=hI;walk_at "vg";subst ht;refine au λN3 rP=>?_;symm;refine⟨⟨_,rfl⟩,⟨_,rfl⟩,by decide,(λj hj=>by rw[ab5.mp hj];decide),y,[.int n,.dM (bK ps)],rfl,ry,n,ps,rfl,kf,λp y6 hp hf r6=>?_⟩
   have Pk:jJ y6=true:=by obtain⟨_,_,rfl⟩:=r6;rfl
   refine⟨.inr ⟨LC p,zt Pk _⟩,?_⟩;symm;refine⟨⟨_,_,rfl⟩,p6,bK ps,rfl,by rw[gN,sz];omega,?_⟩
   rw[<- dm,nV Hg];have hz:=yU kf ⋯ Hg hp hf
   subst rP;symm;refine⟨⟨_,_,_,_,_,rfl,rfl⟩,_,vD Hg,by decide,(λ_ h=>h.elim),a1,Bs,Br,b,n,ps.length,n,ps,p,rfl,by rw[hp],by omega,Hg,.inl trivial,?_⟩
   symm;refine⟨_,rfl,nk 2 _,?_⟩;symm
   try refine(if_neg ∅).mpr ?_
   refine Aw _ ⟨y6,ps++[((ps.length:Int),p)],some (.sh (.int ps.length)),?_,r6,hz,?_,by rw[List.length_append,List.length_singleton];omega⟩
   ·rw[List.length_append,List.length_singleton];rfl
   ·rw[List.length_append,List.length_singleton];exact Fx Hg
  ·obtain⟨y,ps,x6,rfl,ry,kf,Hg,dm⟩:=hI
   rw[List.length_range]at dm;show N1 _;subst DW;refine au λN3 rP=>?_;symm;refine⟨⟨_,rfl⟩,⟨_,rfl⟩,⟨_,rfl⟩,by decide,(λ_ h=>h.elim),y,a1,Bs,Br,p6,b,n,ps,rfl,ry,kf,by omega,by omega,Hg,λy4 e4 rs r4 kr hr0=>⟨.inl trivial,?_⟩⟩
   symm;refine(if_neg ∅).mpr ?_
   subst rP;show dU _ _ _ _ _;generalize ht:bQ (F9 _ _) _=tb;symm;refine⟨by decide,?_⟩
   refine eJ (λw:Int=>D.int w) [0,1,2,3,3,3,4,4] (λi σ=>∃y x6 x7 x8 x9,σ=[some (.sh (.jj ns)),some (.own y),some (.sh (cw b)),some (.sh (.int n)),some (.obj (gw a1 Bs Br (bA b) n e4 (bK rs))),some (.obj (p8 p6 (bK rs))),x6,x7,x8,x9]/\cX y) (λi w σ N2 hx hI Aw=>?_) (λσ hI=>?_) ⟨y4,_,_,_,_,rfl,r4⟩
   ·obtain⟨y,x6,x7,x8,x9,rfl,ry⟩:=hI
    walk_at "vg";subst ht;refine au λN3 rP=>?_;symm;refine⟨⟨_,rfl⟩,⟨_,rfl⟩,by decide,(λj hj=>by rw[ab5.mp hj];decide),y,[.dM (bK rs)],rfl,ry,n,rs,rfl,kr,λnm bd y7 Lp Vk r7=>?_⟩
    have Pl:jJ y7=true:=by obtain⟨_,_,rfl⟩:=r7;rfl
    refine⟨.inr ⟨rfl,zt Pl _⟩,?_⟩;symm;subst rP;symm;refine⟨⟨_,rfl⟩,⟨_,rfl⟩,List.nodup_nil,λ_ _=>trivial,[.kp (bA b) n e4 (bK rs),.dM (bK rs),cw b,.int w,.int nm,.int bd],rfl,b,n,e4,n,rs,w,nm,bd,rfl,kr,Lp,Vk,.inr ⟨rfl,rfl⟩,?_⟩;symm;exact(if_neg ∅).mpr (Aw _ ⟨_,_,_,_,_,rfl,r7⟩)
   ·obtain⟨y,x6,x7,x8,x9,rfl,ry⟩:=hI
    exact O6 _ ⟨_,_,_,_,_,_,_,_,_,rfl⟩
 ·obtain⟨x1,x2,x3,x4,x5,x6,x7,x8,x9,rfl⟩:=hI
  subst hN;symm;exact h
end
def zW(K:ab4):Sp:=λvs H Q _=>∃(a:Addr) (ns:List Int),vs=[.ref a]/\f7 K H a (ns.map V.int)/\ns.length<=63/\∀H',Q (.bl true) H'
-- level 8
section
variable [KF]{G:GE}{k:Nat}
theorem HW{x:Str}{st:Stmt}{ps:List Str}{f:Addr}{fd:FuncData}(d:cY G x st ps f fd):c9 G k x λ_ _=>False:=
 ⟨f,fd,ps,⟨λvs H Q E h=>by obtain⟨_,_,_,_,_,z,_⟩:=h;exact z.elim,λA outer s H args us vs Q E _ _ _ _ h=>by obtain⟨_,_,_,_,_,z,_⟩:=h;exact z.elim⟩,d.m,d.F.kp,d.b⟩
local macro_rules|`(tactic| walk_at "8")=>`(tactic| (intro xs ds Q h;first|(obtain⟨e,_⟩:=h;rw[e];rfl) | (obtain⟨_,e,_⟩:=h;rw[e];rfl) | (obtain⟨_,_,e,_⟩:=h;rw[e];rfl) | (obtain⟨_,_,_,e,_⟩:=h;rw[e];rfl) | (obtain⟨_,_,_,_,e,_⟩:=h;rw[e];rfl) | (obtain⟨_,_,_,_,_,e,_⟩:=h;rw[e];rfl) | (obtain⟨_,_,_,_,_,_,e,_⟩:=h;rw[e];rfl) | (obtain⟨_,_,_,_,_,_,_,e,_⟩:=h;rw[e];rfl) | (obtain⟨_,_,_,_,_,_,_,_,e,_⟩:=h;rw[e];rfl) | (obtain⟨_,_,_,_,_,_,_,_,_,e,_⟩:=h;rw[e];rfl) | (obtain⟨_,_,_,_,_,_,_,_,_,_,e,_⟩:=h;rw[e];rfl)))
local macro_rules|`(tactic| walk_at "7")=>`(tactic| (intro ds Q h;first|(obtain⟨e,_⟩:=h;rw[e];rfl) | (obtain⟨_,e,_⟩:=h;rw[e];rfl) | (obtain⟨_,_,e,_⟩:=h;rw[e];rfl) | (obtain⟨_,_,_,e,_⟩:=h;rw[e];rfl) | (obtain⟨_,_,_,_,e,_⟩:=h;rw[e];rfl) | (obtain⟨_,_,_,_,_,e,_⟩:=h;rw[e];rfl) | (obtain⟨_,_,_,_,_,_,e,_⟩:=h;rw[e];rfl) | (obtain⟨_,_,_,_,_,_,_,e,_⟩:=h;rw[e];rfl) | (obtain⟨_,_,_,_,_,_,_,_,e,_⟩:=h;rw[e];rfl) | (obtain⟨_,_,_,_,_,_,_,_,_,e,_⟩:=h;rw[e];rfl) | (obtain⟨_,_,_,_,_,_,_,_,_,_,e,_⟩:=h;rw[e];rfl)))
theorem RJ(hK:G.K=KF.K)(hT:KF.tabs=[])(E:Gl G)
    {uR:Addr} {OG:FuncData} (C7:cY G "need_count" j8 ["count"] uR OG)
    {DF:Addr} {Xr:FuncData} (Nv:cY G "need_as_many_numbers" sJ ["point","count"] DF Xr)
    {uM:Addr} {Ox:FuncData} (C0:cY G "need_points" jX ["points"] uM Ox)
    {uY:Addr} {OY:FuncData} (Dk:cY G "need_way" kB ["way"] uY OY)
    {DG:Addr} {Xs:FuncData} (Nx:cY G "need_points_and_way" sL ["points","way"] DG Xs)
    {uS:Addr} {OH:FuncData} (C8:cY G "need_place" j9 ["points","place"] uS OH)
    {uQ:Addr} {OD:FuncData} (C6:cY G "need_bound" j7 ["bound"] uQ OD)
    {uJ:Addr} {Ou:FuncData} (CW:cY G "far_between" jU ["way","point","other"] uJ Ou)
    {DH:Addr} {Xu:FuncData} (Nz:cY G "pairs_by_places" sN ["points","way"] DH Xu)
    {uO:Addr} {OB:FuncData} (C4:cY G "near_pairs" j4 ["points","way","bound"] uO OB)
    {DJ:Addr} {Xy:FuncData} (ND:cY G "nearest_among" sR ["points","way","point","places"] DJ Xy)
    {DK:Addr} {Xz:FuncData} (NF:cY G "nearest_other" sS ["points","way","place"] DK Xz)
    {uL:Addr} {Ow:FuncData} (CZ:cY G "nearest_two" jW ["points","way"] uL Ow)
    {uP:Addr} {OC:FuncData} (C5:cY G "nearest_of" j6 ["points","way","place"] uP OC)
    {As:Addr} {Xw:FuncData} (NB:InD G "__init__" "Kept.__init__" sP ["self","way","count"] As Xw)
    {qf:Addr} {OQ:FuncData} (Dg:o7 G "put" "Kept.put" ko ["self","point"] qf OQ)
    {qe:Addr} {OJ:FuncData} (Dc:o7 G "take" "Kept.take" kh ["self","name"] qe OJ)
    {qa:Addr} {Oy:FuncData} (C1:o7 G "names" "Kept.names" jY ["self"] qa Oy)
    {qb:Addr} {Oz:FuncData} (C2:o7 G "point" "Kept.point" jZ ["self","name"] qb Oz)
    {qg:Addr} {OT:FuncData} (Dh:o7 G "two" "Kept.two" kq ["self"] qg OT)
    {Au:Addr} {XA:FuncData} (NI:o7 G "nearest" "Kept.nearest" sT ["self","name"] Au XA)
    {qd:Addr} {OI:FuncData} (C9:o7 G "near" "Kept.near" kc ["self","bound"] qd OI)
    {Aq:Addr} {Xv:FuncData} (NA:o7 G "need_name" "Kept.need_name" sO ["self","name"] Aq Xv)
    {Ap:Addr} {Xt:FuncData} (Ny:o7 G "plain_points" "Kept.plain_points" sM ["self"] Ap Xt)
    {uV:Addr} {OU:FuncData} (Di:cY G "_law_next" ky ["pot","many"] uV OU)
    {uW:Addr} {OW:FuncData} (Dj:cY G "_law_pots" kz ["script"] uW OW)
    {vd:Addr} {O0:FuncData} (Dm:cY G "_law_far" kF ["way","one","other"] vd O0)
    {vf:Addr} {O1:FuncData} (Dp:cY G "_law_way" kG ["pot"] vf O1)
    {uX:Addr} {OX:FuncData} (pZ:cY G "_law_same" kA ["found","due"] uX OX)
    {uU:Addr} {OO:FuncData} (Df:cY G "_law_point" kn ["pot","count","own"] uU OO)
    {uZ:Addr} {OZ:FuncData} (Dl:cY G "_law_due" kE ["own","way","which","name","bound"] uZ OZ)
    {uN:Addr} {OA:FuncData} (C3:cY G "_law_answer" j3 ["kept","which","name","bound"] uN OA)
    {DI:Addr} {Xx:FuncData} (NC:cY G "_law_one_right" sQ ["kept","own","way","which","name","bound"] DI Xx)
    {uT:Addr} {OM:FuncData} (Dd:cY G "_law_drawn" kj ["pot","own"] uT OM)
    {uK:Addr} {Ov:FuncData} (CY:cY G "_law_changed" jV ["pot","kept","own","way","count"] uK Ov)
    {qh:Addr} {DM:FuncData} (Dq:cY G "law" gp ["script"] qh DM)
   :ck G.P G.w G.K G.mg G.base iA 9 qh DM ["script"] (zW G.K):=by
  have D9:gD G 1 "_law_pots":=Dj.ya (k:=0) hK T2 rfl rfl (Xh E);have cc:eP G 1 "_law_next" fU:=Di.fio (k:=0) hK T1 (Xg E) ∅ (by walk_at "8") Sb
  have Eb:eP G 2 "_law_way" tG:=Dp.fio (k:=1) hK T6 (Xl E (cc.mono ∅)) ∅ (by walk_at "8") Sg
  have ql:c9 G 1 "need_count" iu:=C7.fg (k:=0) hK TJ (W8 E) (by walk_at "7") E5
  have qt:c9 G 1 "need_way" nr:=Dk.fg (k:=0) hK T3 (Xi E) (by walk_at "7") Sf
  have O7:xg G 3 tf:=NB.fi (k:=1) hK Z1 (aaK E (ql.mono ∅) (qt.mono ∅)) (by walk_at "7") RW
  have qo:eP G 2 "_law_point" tB:=Df.fio (k:=1) hK TR (Xd E (cc.mono ∅)) ∅ (by walk_at "8") Zj
  have vv:c9 G 1 "_law_same" (dY 1):=pZ.fg (k:=0) hK yg (Dx E (sp_q30:=dY 0) (HW pZ)) (by walk_at "7") (xX 0)
  have vw:c9 G 2 "_law_same" (dY 2):=pZ.fg (k:=1) hK yg (Dx E (vv.mono ∅)) (by walk_at "7") (xX 1)
  have vx:c9 G 3 "_law_same" (dY 3):=pZ.fg (k:=2) hK yg (Dx E (vw.mono ∅)) (by walk_at "7") (xX 2)
  have gK:=vx;have Ax:c9 G 1 "need_as_many_numbers" tD:=Nv.fg (k:=0) hK ZW (aaF E) (by walk_at "7") Zk
  have qp:cG G 2 "put" oS:=Dg.fmu (k:=1) (ios:=[0]) hK TU (Xe E (Ax.mono ∅)) (by walk_at "7") IE ∅ Zq
  have rS:cG G 1 "need_name" (eX wm):=NA.fg (k:=0) hK Z0 (aaJ E) (by walk_at "7") abw
  have D7:cG G 2 "take" nu:=Dc.fmu (k:=1) (ios:=[0]) hK TN (Xb E (rS.mono ∅)) (by walk_at "7") IC ∅ Sh
  have qm:eP G 2 "_law_drawn" kI:=Dd.fio (k:=1) hK TQ (Xc E (cc.mono ∅)) ∅ (by walk_at "8") Jk
  have yY:c9 G 1 "_law_far" gX:=Dm.fg (k:=0) hK T5 (Xk E) (by walk_at "7") R8
  have Ea:c9 G 2 "_law_due" tm:=Dl.fg (k:=1) hK T4 (Xj E (yY.mono ∅)) (by walk_at "7") RZ
  have d9:cG G 1 "names" (eX eA):=C1.fg (k:=0) hK Tw (W2 E) (by walk_at "7") Jm
  have D0:cG G 2 "point" (eX oP):=C2.fg (k:=1) hK Tx (W3 E (rS.mono ∅)) (by walk_at "7") Jp
  have DZ:c9 G 2 "need_points" tF:=C0.fg (k:=1) hK Tv (W0 E (ql.mono ∅) (Ax.mono ∅)) (by walk_at "7") Se
  have rQ:c9 G 3 "need_points_and_way" oO:=Nx.fg (k:=2) hK ZX (aaG E (DZ.mono ∅) (qt.mono ∅)) (by walk_at "7") Zn
  have qk:c9 G 1 "far_between" gX:=CW.fg (k:=0) hK Tr (WX E) (by walk_at "7") Zg
  have Ay:c9 G 2 "pairs_by_places" kK:=Nz.fg (k:=1) hK ZZ (aaI E (qk.mono ∅)) (by walk_at "7") Jo
  have DY:c9 G 4 "nearest_two" yq:=CZ.fg (k:=3) hK Tt (WZ E (rQ.mono ∅) (Ay.mono ∅)) (by walk_at "7") Zt
  have rR:cG G 2 "plain_points" (eX oQ):=Ny.fg (k:=1) hK ZY (aaH E (d9.mono ∅)) (by walk_at "7") Zo
  have D8:cG G 5 "two" (eX tj):=Dh.fg (k:=4) hK TY (Xf E (DY.mono ∅) (rR.mono ∅) (d9.mono ∅)) (by walk_at "7") RX
  have D5:c9 G 1 "need_place" lU:=C8.fg (k:=0) hK TK (W9 E) (by walk_at "7") E7
  have O8:c9 G 2 "nearest_among" oM:=ND.fg (k:=1) hK Z3 (aaM E (qk.mono ∅)) (by walk_at "7") Jj
  have O9:c9 G 3 "nearest_other" fD:=NF.fg (k:=2) hK Z4 (aaN E (O8.mono ∅)) (by walk_at "7") Jn
  have D3:c9 G 4 "nearest_of" fD:=C5.fg (k:=3) hK TF (W6 E (rQ.mono ∅) (D5.mono ∅) (O9.mono ∅)) (by walk_at "7") Zm
  have Pa:cG G 5 "nearest" (eX oN):=NI.fg (k:=4) hK Z5 (aaO E (rS.mono ∅) (d9.mono ∅) (D3.mono ∅) (rR.mono ∅)) (by walk_at "7") Jl
  have D4:c9 G 1 "need_bound" lR:=C6.fg (k:=0) hK TH (W7 E) (by walk_at "7") E4
  have D2:c9 G 4 "near_pairs" tE:=C4.fg (k:=3) hK TC (W5 E (rQ.mono ∅) (D4.mono ∅) (Ay.mono ∅)) (by walk_at "7") R9
  have D6:cG G 5 "near" (eX yp):=C9.fg (k:=4) hK TL (Xa E (d9.mono ∅) (D2.mono ∅) (rR.mono ∅)) (by walk_at "7") Zh
  have D1:c9 G 6 "_law_answer" kJ:=C3.fg (k:=5) hK Tz (W4 E (d9.mono ∅) (D0.mono ∅) (D8.mono ∅) (Pa.mono ∅) (D6.mono ∅)) (by walk_at "7") RY
  have Az:c9 G 7 "_law_one_right" tu:=NC.fg (k:=6) hK Z2 (aaL E (Ea.mono ∅) (gK.mono ∅) (D1.mono ∅)) (by walk_at "7") Zi
  have DX:qT G 8 "_law_changed" sZ:=CY.fmu (k:=7) (ios:=[0,1,2]) hK Ts (WY E (cc.mono ∅) (D7.mono ∅) (qo.mono ∅) (gK.mono ∅) (qp.mono ∅) (qm.mono ∅) (Az.mono ∅)) (by walk_at "7") IB ∅ Zf
  refine(DN (k:=8) (sp:=FV) hK Dq.F T7 (Xm E (D9.mono ∅) (Eb.mono ∅) (cc.mono ∅) (O7.mono ∅) (qo.mono ∅) (gK.mono ∅) (qp.mono ∅) (DX.mono ∅) (qm.mono ∅) (Az.mono ∅)) (by walk_at "7") Zr).imp λvs H Q E' h=>?_
  obtain⟨a,ns,rfl,hS,hl,q⟩:=h;refine⟨H,[.jj ns],λb=>b=.sh (.bl true),⟨ao.refl _,λq hq=>by rw[hT]at hq;cases hq⟩,.cons (.jj (by rw[<- hK];exact hS)) .nil,⟨ns,rfl,hl,rfl⟩,λv H' F' b _ _ _ _ r e=>?_⟩
  subst e;have r:Rep F' v (.bl true):=r;cases r;exact q H'
end
open PySem.W in
theorem all_mk{l:OpenLaw}{w:World}{K:Frag}{h:Heap}{mg:Str->Option Value}{fa:Addr}(X:K.In h)(Gs:h.Ns acf mg)(hfa:mg "law"=some (.ref fa))
  {aU:Addr}
 {uR DF uM uY DG uS uQ uJ DH uO DJ DK uL uP As qf qe qa qb qg Au qd Aq Ap uV uW vd vf uX uU uZ uN DI uT uK qh:Addr}
 {Rr Mz YX V8 Rh Ms RD MK YY V9 Rt MA Rq My Rc Mp Y0 Wb Rn Mw Y4 Wg Y5 Wh Rg Mr Rp Mx Y2 Wd Ry MF Rv MC Rj Mt Rl Mu Rz MG Y6 Wi Ru MB Y1 Wc YZ Wa RA MH RB MI RF MM RG MN RC MJ Rx ME RE ML Rm Mv Y3 Wf Rw MD Rf Mq RH B7:Option Addr}
 {Uk Z6 Uc Ux Z7 Ul Uj T9 Z9 Uh aaf aag Ub Ui aad Ur Uo Ud Ue Ut aah Um aac Z8 Uu Uv Uz UA Uw Uq Uy Ug aae Up Ua UB:Array (Option Value)}
 {QR Qb NY SN CB M9 YK Yj WK Zz K2 Wt QK PU NR SE Ct M0 Q6 Qn Oc S5 CO Np YL Yk WL ZA K3 Wu QS Qc NZ SQ CC Nb QQ Qa NX SM CA M8 QH PN NN Sz Cp MX YN Ym WN ZD K5 Ww QO PZ NV SJ Cy M6 YT Yq WT ZH K9 WB YV Yr WU ZI La WC QJ PR NQ SD Cr MZ QP P0 NW SK Cz M7 YR Yo WQ ZF K7 Wy QX Qi N7 SX CI Ni QU Qf N4 SU CF Nf QL PV NS SF Cu M3 QM PX NT SG Cv M4 QY Qj N8 SY CJ Nj YW Ys WV ZJ Lb WD QT Qe N0 SR CD Nc YQ Yn WO ZE K6 Wx YM Yl WM ZC K4 Wv QZ Qk N9 S2 CK Nk Q0 Ql Oa S3 CL Nm Q8 Qp Oe S7 CQ Nr Q9 Qq Og S8 CT Nt Q5 Qm Ob S4 CN Nn QW Qh N6 SW CH Nh Q7 Qo Od S6 CP Nq QN PY NU SH Cw M5 YS Yp WR ZG K8 Wz QV Qg N5 SV CG Ng QI PQ NP SA Cq MY Rb Eu Ds Fm xv CV:Value}
  {yx:Tok}
  {yy:Tok}
  (g_Kept:nsIn K acf "Kept"=some (some (.ref aU))) (pg_Kept:plainGet K aU Str.empty=true) (hd_Kept:hasDictIn K aU=true) (po_Kept:plainOver K aU=true) (sa_Kept:findIn K (.ref aU) "__setattr__"=some (some (.builtin "object.__setattr__")))
  (n1_Kept:findIn K (.ref aU) "way"=some none) (n2_Kept:findIn K (.ref aU) "count"=some none) (n3_Kept:findIn K (.ref aU) "points_by_name"=some none) (n4_Kept:findIn K (.ref aU) "ever_put"=some none)
  (mk_Kept:makesIn K aU=true) (kp_Kept:keepIn K (.ref aU)=true)
  (a_q20:nsIn K acf "need_count"=some (some (.ref uR)))
  (l_q20:K.lookup uR=some ⟨QR,Rr,.func (fnOf "need_count" "need_count" (aI j8) (ak j8) (ag j8) .none Qb NY SN Mz CB M9),Uk⟩)
  (c_q20:codeIn K CB "need_count"=true) (k_q20:keepIn K (.ref uR)=true)
  (a_q0:nsIn K acf "need_as_many_numbers"=some (some (.ref DF)))
  (l_q0:K.lookup DF=some ⟨YK,YX,.func (fnOf "need_as_many_numbers" "need_as_many_numbers" (aI sJ) (ak sJ) (ag sJ) .none Yj WK Zz V8 K2 Wt),Z6⟩)
  (c_q0:codeIn K K2 "need_as_many_numbers"=true) (k_q0:keepIn K (.ref DF)=true)
  (a_q13:nsIn K acf "need_points"=some (some (.ref uM)))
  (l_q13:K.lookup uM=some ⟨QK,Rh,.func (fnOf "need_points" "need_points" (aI jX) (ak jX) (ag jX) .none PU NR SE Ms Ct M0),Uc⟩)
  (c_q13:codeIn K Ct "need_points"=true) (k_q13:keepIn K (.ref uM)=true)
  (a_q31:nsIn K acf "need_way"=some (some (.ref uY)))
  (l_q31:K.lookup uY=some ⟨Q6,RD,.func (fnOf "need_way" "need_way" (aI kB) (ak kB) (ag kB) .none Qn Oc S5 MK CO Np),Ux⟩)
  (c_q31:codeIn K CO "need_way"=true) (k_q31:keepIn K (.ref uY)=true)
  (a_q1:nsIn K acf "need_points_and_way"=some (some (.ref DG)))
  (l_q1:K.lookup DG=some ⟨YL,YY,.func (fnOf "need_points_and_way" "need_points_and_way" (aI sL) (ak sL) (ag sL) .none Yk WL ZA V9 K3 Wu),Z7⟩)
  (c_q1:codeIn K K3 "need_points_and_way"=true) (k_q1:keepIn K (.ref DG)=true)
  (a_q21:nsIn K acf "need_place"=some (some (.ref uS)))
  (l_q21:K.lookup uS=some ⟨QS,Rt,.func (fnOf "need_place" "need_place" (aI j9) (ak j9) (ag j9) .none Qc NZ SQ MA CC Nb),Ul⟩)
  (c_q21:codeIn K CC "need_place"=true) (k_q21:keepIn K (.ref uS)=true)
  (a_q19:nsIn K acf "need_bound"=some (some (.ref uQ)))
  (l_q19:K.lookup uQ=some ⟨QQ,Rq,.func (fnOf "need_bound" "need_bound" (aI j7) (ak j7) (ag j7) .none Qa NX SM My CA M8),Uj⟩)
  (c_q19:codeIn K CA "need_bound"=true) (k_q19:keepIn K (.ref uQ)=true)
  (a_q10:nsIn K acf "far_between"=some (some (.ref uJ)))
  (l_q10:K.lookup uJ=some ⟨QH,Rc,.func (fnOf "far_between" "far_between" (aI jU) (ak jU) (ag jU) .none PN NN Sz Mp Cp MX),T9⟩)
  (c_q10:codeIn K Cp "far_between"=true) (k_q10:keepIn K (.ref uJ)=true)
  (a_q3:nsIn K acf "pairs_by_places"=some (some (.ref DH)))
  (l_q3:K.lookup DH=some ⟨YN,Y0,.func (fnOf "pairs_by_places" "pairs_by_places" (aI sN) (ak sN) (ag sN) .none Ym WN ZD Wb K5 Ww),Z9⟩)
  (c_q3:codeIn K K5 "pairs_by_places"=true) (k_q3:keepIn K (.ref DH)=true)
  (a_q17:nsIn K acf "near_pairs"=some (some (.ref uO)))
  (l_q17:K.lookup uO=some ⟨QO,Rn,.func (fnOf "near_pairs" "near_pairs" (aI j4) (ak j4) (ag j4) .none PZ NV SJ Mw Cy M6),Uh⟩)
  (c_q17:codeIn K Cy "near_pairs"=true) (k_q17:keepIn K (.ref uO)=true)
  (a_q7:nsIn K acf "nearest_among"=some (some (.ref DJ)))
  (l_q7:K.lookup DJ=some ⟨YT,Y4,.func (fnOf "nearest_among" "nearest_among" (aI sR) (ak sR) (ag sR) .none Yq WT ZH Wg K9 WB),aaf⟩)
  (c_q7:codeIn K K9 "nearest_among"=true) (k_q7:keepIn K (.ref DJ)=true)
  (a_q8:nsIn K acf "nearest_other"=some (some (.ref DK)))
  (l_q8:K.lookup DK=some ⟨YV,Y5,.func (fnOf "nearest_other" "nearest_other" (aI sS) (ak sS) (ag sS) .none Yr WU ZI Wh La WC),aag⟩)
  (c_q8:codeIn K La "nearest_other"=true) (k_q8:keepIn K (.ref DK)=true)
  (a_q12:nsIn K acf "nearest_two"=some (some (.ref uL)))
  (l_q12:K.lookup uL=some ⟨QJ,Rg,.func (fnOf "nearest_two" "nearest_two" (aI jW) (ak jW) (ag jW) .none PR NQ SD Mr Cr MZ),Ub⟩)
  (c_q12:codeIn K Cr "nearest_two"=true) (k_q12:keepIn K (.ref uL)=true)
  (a_q18:nsIn K acf "nearest_of"=some (some (.ref uP)))
  (l_q18:K.lookup uP=some ⟨QP,Rp,.func (fnOf "nearest_of" "nearest_of" (aI j6) (ak j6) (ag j6) .none P0 NW SK Mx Cz M7),Ui⟩)
  (c_q18:codeIn K Cz "nearest_of"=true) (k_q18:keepIn K (.ref uP)=true)
  (a_q5:findIn K (.ref aU) "__init__"=some (some (.ref As)))
  (l_q5:K.lookup As=some ⟨YR,Y2,.func (fnOf "__init__" "Kept.__init__" (aI sP) (ak sP) (ag sP) .none Yo WQ ZF Wd K7 Wy),aad⟩)
  (c_q5:codeIn K K7 "Kept.__init__"=true) (k_q5:keepIn K (.ref As)=true) (i_q5:isFn K (.ref As)=true)
  (a_q26:findIn K (.ref aU) "put"=some (some (.ref qf)))
  (l_q26:K.lookup qf=some ⟨QX,Ry,.func (fnOf "put" "Kept.put" (aI ko) (ak ko) (ag ko) .none Qi N7 SX MF CI Ni),Ur⟩)
  (c_q26:codeIn K CI "Kept.put"=true) (k_q26:keepIn K (.ref qf)=true) (i_q26:isFn K (.ref qf)=true)
  (a_q23:findIn K (.ref aU) "take"=some (some (.ref qe)))
  (l_q23:K.lookup qe=some ⟨QU,Rv,.func (fnOf "take" "Kept.take" (aI kh) (ak kh) (ag kh) .none Qf N4 SU MC CF Nf),Uo⟩)
  (c_q23:codeIn K CF "Kept.take"=true) (k_q23:keepIn K (.ref qe)=true) (i_q23:isFn K (.ref qe)=true)
  (a_q14:findIn K (.ref aU) "names"=some (some (.ref qa)))
  (l_q14:K.lookup qa=some ⟨QL,Rj,.func (fnOf "names" "Kept.names" (aI jY) (ak jY) (ag jY) .none PV NS SF Mt Cu M3),Ud⟩)
  (c_q14:codeIn K Cu "Kept.names"=true) (k_q14:keepIn K (.ref qa)=true) (i_q14:isFn K (.ref qa)=true)
  (a_q15:findIn K (.ref aU) "point"=some (some (.ref qb)))
  (l_q15:K.lookup qb=some ⟨QM,Rl,.func (fnOf "point" "Kept.point" (aI jZ) (ak jZ) (ag jZ) .none PX NT SG Mu Cv M4),Ue⟩)
  (c_q15:codeIn K Cv "Kept.point"=true) (k_q15:keepIn K (.ref qb)=true) (i_q15:isFn K (.ref qb)=true)
  (a_q27:findIn K (.ref aU) "two"=some (some (.ref qg)))
  (l_q27:K.lookup qg=some ⟨QY,Rz,.func (fnOf "two" "Kept.two" (aI kq) (ak kq) (ag kq) .none Qj N8 SY MG CJ Nj),Ut⟩)
  (c_q27:codeIn K CJ "Kept.two"=true) (k_q27:keepIn K (.ref qg)=true) (i_q27:isFn K (.ref qg)=true)
  (a_q9:findIn K (.ref aU) "nearest"=some (some (.ref Au)))
  (l_q9:K.lookup Au=some ⟨YW,Y6,.func (fnOf "nearest" "Kept.nearest" (aI sT) (ak sT) (ag sT) .none Ys WV ZJ Wi Lb WD),aah⟩)
  (c_q9:codeIn K Lb "Kept.nearest"=true) (k_q9:keepIn K (.ref Au)=true) (i_q9:isFn K (.ref Au)=true)
  (a_q22:findIn K (.ref aU) "near"=some (some (.ref qd)))
  (l_q22:K.lookup qd=some ⟨QT,Ru,.func (fnOf "near" "Kept.near" (aI kc) (ak kc) (ag kc) .none Qe N0 SR MB CD Nc),Um⟩)
  (c_q22:codeIn K CD "Kept.near"=true) (k_q22:keepIn K (.ref qd)=true) (i_q22:isFn K (.ref qd)=true)
  (a_q4:findIn K (.ref aU) "need_name"=some (some (.ref Aq)))
  (l_q4:K.lookup Aq=some ⟨YQ,Y1,.func (fnOf "need_name" "Kept.need_name" (aI sO) (ak sO) (ag sO) .none Yn WO ZE Wc K6 Wx),aac⟩)
  (c_q4:codeIn K K6 "Kept.need_name"=true) (k_q4:keepIn K (.ref Aq)=true) (i_q4:isFn K (.ref Aq)=true)
  (a_q2:findIn K (.ref aU) "plain_points"=some (some (.ref Ap)))
  (l_q2:K.lookup Ap=some ⟨YM,YZ,.func (fnOf "plain_points" "Kept.plain_points" (aI sM) (ak sM) (ag sM) .none Yl WM ZC Wa K4 Wv),Z8⟩)
  (c_q2:codeIn K K4 "Kept.plain_points"=true) (k_q2:keepIn K (.ref Ap)=true) (i_q2:isFn K (.ref Ap)=true)
  (a_q28:nsIn K acf "_law_next"=some (some (.ref uV)))
  (l_q28:K.lookup uV=some ⟨QZ,RA,.func (fnOf "_law_next" "_law_next" (aI ky) (ak ky) (ag ky) .none Qk N9 S2 MH CK Nk),Uu⟩)
  (c_q28:codeIn K CK "_law_next"=true) (k_q28:keepIn K (.ref uV)=true)
  (a_q29:nsIn K acf "_law_pots"=some (some (.ref uW)))
  (l_q29:K.lookup uW=some ⟨Q0,RB,.func (fnOf "_law_pots" "_law_pots" (aI kz) (ak kz) (ag kz) .none Ql Oa S3 MI CL Nm),Uv⟩)
  (c_q29:codeIn K CL "_law_pots"=true) (k_q29:keepIn K (.ref uW)=true)
  (a_q33:nsIn K acf "_law_far"=some (some (.ref vd)))
  (l_q33:K.lookup vd=some ⟨Q8,RF,.func (fnOf "_law_far" "_law_far" (aI kF) (ak kF) (ag kF) .none Qp Oe S7 MM CQ Nr),Uz⟩)
  (c_q33:codeIn K CQ "_law_far"=true) (k_q33:keepIn K (.ref vd)=true)
  (a_q34:nsIn K acf "_law_way"=some (some (.ref vf)))
  (l_q34:K.lookup vf=some ⟨Q9,RG,.func (fnOf "_law_way" "_law_way" (aI kG) (ak kG) (ag kG) .none Qq Og S8 MN CT Nt),UA⟩)
  (c_q34:codeIn K CT "_law_way"=true) (k_q34:keepIn K (.ref vf)=true)
  (a_q30:nsIn K acf "_law_same"=some (some (.ref uX)))
  (l_q30:K.lookup uX=some ⟨Q5,RC,.func (fnOf "_law_same" "_law_same" (aI kA) (ak kA) (ag kA) .none Qm Ob S4 MJ CN Nn),Uw⟩)
  (c_q30:codeIn K CN "_law_same"=true) (k_q30:keepIn K (.ref uX)=true)
  (a_q25:nsIn K acf "_law_point"=some (some (.ref uU)))
  (l_q25:K.lookup uU=some ⟨QW,Rx,.func (fnOf "_law_point" "_law_point" (aI kn) (ak kn) (ag kn) .none Qh N6 SW ME CH Nh),Uq⟩)
  (c_q25:codeIn K CH "_law_point"=true) (k_q25:keepIn K (.ref uU)=true)
  (a_q32:nsIn K acf "_law_due"=some (some (.ref uZ)))
  (l_q32:K.lookup uZ=some ⟨Q7,RE,.func (fnOf "_law_due" "_law_due" (aI kE) (ak kE) (ag kE) .none Qo Od S6 ML CP Nq),Uy⟩)
  (c_q32:codeIn K CP "_law_due"=true) (k_q32:keepIn K (.ref uZ)=true)
  (a_q16:nsIn K acf "_law_answer"=some (some (.ref uN)))
  (l_q16:K.lookup uN=some ⟨QN,Rm,.func (fnOf "_law_answer" "_law_answer" (aI j3) (ak j3) (ag j3) .none PY NU SH Mv Cw M5),Ug⟩)
  (c_q16:codeIn K Cw "_law_answer"=true) (k_q16:keepIn K (.ref uN)=true)
  (a_q6:nsIn K acf "_law_one_right"=some (some (.ref DI)))
  (l_q6:K.lookup DI=some ⟨YS,Y3,.func (fnOf "_law_one_right" "_law_one_right" (aI sQ) (ak sQ) (ag sQ) .none Yp WR ZG Wf K8 Wz),aae⟩)
  (c_q6:codeIn K K8 "_law_one_right"=true) (k_q6:keepIn K (.ref DI)=true)
  (a_q24:nsIn K acf "_law_drawn"=some (some (.ref uT)))
  (l_q24:K.lookup uT=some ⟨QV,Rw,.func (fnOf "_law_drawn" "_law_drawn" (aI kj) (ak kj) (ag kj) .none Qg N5 SV MD CG Ng),Up⟩)
  (c_q24:codeIn K CG "_law_drawn"=true) (k_q24:keepIn K (.ref uT)=true)
  (a_q11:nsIn K acf "_law_changed"=some (some (.ref uK)))
  (l_q11:K.lookup uK=some ⟨QI,Rf,.func (fnOf "_law_changed" "_law_changed" (aI jV) (ak jV) (ag jV) .none PQ NP SA Mq Cq MY),Ua⟩)
  (c_q11:codeIn K Cq "_law_changed"=true) (k_q11:keepIn K (.ref uK)=true)
  (a_q35:nsIn K acf "law"=some (some (.ref qh)))
  (l_q35:K.lookup qh=some ⟨Rb,RH,.func (fnOf "law" "law" (aI gp) (ak gp) (ag gp) .none Eu Ds Fm B7 xv CV),UB⟩)
  (c_q35:codeIn K xv "law"=true) (k_q35:keepIn K (.ref qh)=true)
  (z_abs:nsIn K acf "abs"=some none)
  (z_bool:nsIn K acf "bool"=some none)
  (z_int:nsIn K acf "int"=some none)
  (z_isinstance:nsIn K acf "isinstance"=some none)
  (z_len:nsIn K acf "len"=some none)
  (z_list:nsIn K acf "list"=some none)
  (z_max:nsIn K acf "max"=some none)
  (z_min:nsIn K acf "min"=some none)
  (z_range:nsIn K acf "range"=some none)
  (z_sorted:nsIn K acf "sorted"=some none)
  (z_sum:nsIn K acf "sum"=some none)
  (z_tuple:nsIn K acf "tuple"=some none)
  (z_zip:nsIn K acf "zip"=some none)
  (u_SQUARES:nsIn K acf "SQUARES"=some (some (.str "squares" yx)))
  (u_STREETS:nsIn K acf "STREETS"=some (some (.str "streets" yy))):
  ∃fd:FuncData,(∀(s:Shared) (v:Value),BindsTo s fd ⟨[v],[]⟩ [("script",v)])/\∀base:Heap,K.In base->base.Ns acf mg->ck l.prog w K mg base iA 9 fa fd ["script"] (zW K):=by
 have e:=hfa.symm.trans (mg_of X Gs a_q35);cases e;refine⟨fnOf "law" "law" (aI gp) (ak gp) (ag gp) .none Eu Ds Fm B7 xv CV,λs v=>.of_eq rfl,λbase _ _=>?_⟩
 letI:KF:=⟨K,λx=>if x="Kept" then aU else 0,[]⟩
 have dC:KF.cls "Kept"=aU:=if_pos rfl;have kg:KG ⟨l.prog,w,K,mg,base⟩:=⟨by rw[show kC=aU from dC];exact⟨pg_Kept,hd_Kept,po_Kept,sa_Kept⟩,λf hf=>by
  rw[show kC=aU from dC]
  simp only[ab6,ack,or_false]at hf;rcases hf with rfl|rfl|rfl|rfl
  ·exact n1_Kept
  ·exact n2_Kept
  ·exact n3_Kept
  ·exact n4_Kept⟩
 have E:Gl ⟨l.prog,w,K,mg,base⟩:=⟨kg,mg_none_of X Gs z_abs,mg_none_of X Gs z_bool,mg_none_of X Gs z_int,mg_none_of X Gs z_isinstance,mg_none_of X Gs z_len,mg_none_of X Gs z_list,mg_none_of X Gs z_max,mg_none_of X Gs z_min,mg_none_of X Gs z_range,mg_none_of X Gs z_sorted,mg_none_of X Gs z_sum,mg_none_of X Gs z_tuple,mg_none_of X Gs z_zip,⟨_,.str "squares",mg_of X Gs u_SQUARES,⟨_,rfl⟩,λF=>.str _⟩,⟨_,.str "streets",mg_of X Gs u_STREETS,⟨_,rfl⟩,λF=>.str _⟩⟩;have Kz:=aV (K:=K) (st:=j8) l_q20 c_q20 k_q20;have C7:cY ⟨l.prog,w,K,mg,base⟩ "need_count" j8 ["count"] _ _:=⟨Kz,mg_of X Gs a_q20,Kz.binds λ_ _ _ _ _ _ us hl=>EE (λ_=>rfl) us hl⟩;have VN:=aV (K:=K) (st:=sJ) l_q0 c_q0 k_q0;have Nv:cY ⟨l.prog,w,K,mg,base⟩ "need_as_many_numbers" sJ ["point","count"] _ _:=⟨VN,mg_of X Gs a_q0,VN.binds λ_ _ _ _ _ _ us hl=>ln2 (λ_ _=>rfl) us hl⟩;have Ks:=aV (K:=K) (st:=jX) l_q13 c_q13 k_q13;have C0:cY ⟨l.prog,w,K,mg,base⟩ "need_points" jX ["points"] _ _:=⟨Ks,mg_of X Gs a_q13,Ks.binds λ_ _ _ _ _ _ us hl=>EE (λ_=>rfl) us hl⟩;have KQ:=aV (K:=K) (st:=kB) l_q31 c_q31 k_q31;have Dk:cY ⟨l.prog,w,K,mg,base⟩ "need_way" kB ["way"] _ _:=⟨KQ,mg_of X Gs a_q31,KQ.binds λ_ _ _ _ _ _ us hl=>EE (λ_=>rfl) us hl⟩;have VO:=aV (K:=K) (st:=sL) l_q1 c_q1 k_q1;have Nx:cY ⟨l.prog,w,K,mg,base⟩ "need_points_and_way" sL ["points","way"] _ _:=⟨VO,mg_of X Gs a_q1,VO.binds λ_ _ _ _ _ _ us hl=>ln2 (λ_ _=>rfl) us hl⟩;have KA:=aV (K:=K) (st:=j9) l_q21 c_q21 k_q21;have C8:cY ⟨l.prog,w,K,mg,base⟩ "need_place" j9 ["points","place"] _ _:=⟨KA,mg_of X Gs a_q21,KA.binds λ_ _ _ _ _ _ us hl=>ln2 (λ_ _=>rfl) us hl⟩;have Ky:=aV (K:=K) (st:=j7) l_q19 c_q19 k_q19;have C6:cY ⟨l.prog,w,K,mg,base⟩ "need_bound" j7 ["bound"] _ _:=⟨Ky,mg_of X Gs a_q19,Ky.binds λ_ _ _ _ _ _ us hl=>EE (λ_=>rfl) us hl⟩;have Ko:=aV (K:=K) (st:=jU) l_q10 c_q10 k_q10;have CW:cY ⟨l.prog,w,K,mg,base⟩ "far_between" jU ["way","point","other"] _ _:=⟨Ko,mg_of X Gs a_q10,Ko.binds λ_ _ _ _ _ _ us hl=>Lz (λ_ _ _=>rfl) us hl⟩;have VQ:=aV (K:=K) (st:=sN) l_q3 c_q3 k_q3;have Nz:cY ⟨l.prog,w,K,mg,base⟩ "pairs_by_places" sN ["points","way"] _ _:=⟨VQ,mg_of X Gs a_q3,VQ.binds λ_ _ _ _ _ _ us hl=>ln2 (λ_ _=>rfl) us hl⟩;have Kw:=aV (K:=K) (st:=j4) l_q17 c_q17 k_q17;have C4:cY ⟨l.prog,w,K,mg,base⟩ "near_pairs" j4 ["points","way","bound"] _ _:=⟨Kw,mg_of X Gs a_q17,Kw.binds λ_ _ _ _ _ _ us hl=>Lz (λ_ _ _=>rfl) us hl⟩;have VW:=aV (K:=K) (st:=sR) l_q7 c_q7 k_q7;have ND:cY ⟨l.prog,w,K,mg,base⟩ "nearest_among" sR ["points","way","point","places"] _ _:=⟨VW,mg_of X Gs a_q7,VW.binds λ_ _ _ _ _ _ us hl=>ln4 (λ_ _ _ _=>rfl) us hl⟩
 have VX:=aV (K:=K) (st:=sS) l_q8 c_q8 k_q8;have NF:cY ⟨l.prog,w,K,mg,base⟩ "nearest_other" sS ["points","way","place"] _ _:=⟨VX,mg_of X Gs a_q8,VX.binds λ_ _ _ _ _ _ us hl=>Lz (λ_ _ _=>rfl) us hl⟩;have Kr:=aV (K:=K) (st:=jW) l_q12 c_q12 k_q12;have CZ:cY ⟨l.prog,w,K,mg,base⟩ "nearest_two" jW ["points","way"] _ _:=⟨Kr,mg_of X Gs a_q12,Kr.binds λ_ _ _ _ _ _ us hl=>ln2 (λ_ _=>rfl) us hl⟩;have Kx:=aV (K:=K) (st:=j6) l_q18 c_q18 k_q18;have C5:cY ⟨l.prog,w,K,mg,base⟩ "nearest_of" j6 ["points","way","place"] _ _:=⟨Kx,mg_of X Gs a_q18,Kx.binds λ_ _ _ _ _ _ us hl=>Lz (λ_ _ _=>rfl) us hl⟩;have VS:=aV (K:=K) (st:=sP) l_q5 c_q5 k_q5;have NB:InD ⟨l.prog,w,K,mg,base⟩ "__init__" "Kept.__init__" sP ["self","way","count"] _ _:=⟨VS,by rw[show kC=aU from dC];exact⟨mk_Kept,a_q5,i_q5,kp_Kept⟩,VS.binds λ_ _ _ _ _ _ us hl=>Lz (λ_ _ _=>rfl) us hl,by rw[show kC=aU from dC];exact mg_of X Gs g_Kept⟩
 have KJ:=aV (K:=K) (st:=ko) l_q26 c_q26 k_q26;have Dg:o7 ⟨l.prog,w,K,mg,base⟩ "put" "Kept.put" ko ["self","point"] _ _:=⟨KJ,by rw[show kC=aU from dC];exact⟨a_q26,i_q26,k_q26⟩,KJ.binds λ_ _ _ _ _ _ us hl=>ln2 (λ_ _=>rfl) us hl⟩
 have KD:=aV (K:=K) (st:=kh) l_q23 c_q23 k_q23;have Dc:o7 ⟨l.prog,w,K,mg,base⟩ "take" "Kept.take" kh ["self","name"] _ _:=⟨KD,by rw[show kC=aU from dC];exact⟨a_q23,i_q23,k_q23⟩,KD.binds λ_ _ _ _ _ _ us hl=>ln2 (λ_ _=>rfl) us hl⟩
 have Kt:=aV (K:=K) (st:=jY) l_q14 c_q14 k_q14;have C1:o7 ⟨l.prog,w,K,mg,base⟩ "names" "Kept.names" jY ["self"] _ _:=⟨Kt,by rw[show kC=aU from dC];exact⟨a_q14,i_q14,k_q14⟩,Kt.binds λ_ _ _ _ _ _ us hl=>EE (λ_=>rfl) us hl⟩
 have Ku:=aV (K:=K) (st:=jZ) l_q15 c_q15 k_q15;have C2:o7 ⟨l.prog,w,K,mg,base⟩ "point" "Kept.point" jZ ["self","name"] _ _:=⟨Ku,by rw[show kC=aU from dC];exact⟨a_q15,i_q15,k_q15⟩,Ku.binds λ_ _ _ _ _ _ us hl=>ln2 (λ_ _=>rfl) us hl⟩
 have KL:=aV (K:=K) (st:=kq) l_q27 c_q27 k_q27;have Dh:o7 ⟨l.prog,w,K,mg,base⟩ "two" "Kept.two" kq ["self"] _ _:=⟨KL,by rw[show kC=aU from dC];exact⟨a_q27,i_q27,k_q27⟩,KL.binds λ_ _ _ _ _ _ us hl=>EE (λ_=>rfl) us hl⟩
 have VY:=aV (K:=K) (st:=sT) l_q9 c_q9 k_q9;have NI:o7 ⟨l.prog,w,K,mg,base⟩ "nearest" "Kept.nearest" sT ["self","name"] _ _:=⟨VY,by rw[show kC=aU from dC];exact⟨a_q9,i_q9,k_q9⟩,VY.binds λ_ _ _ _ _ _ us hl=>ln2 (λ_ _=>rfl) us hl⟩
 have KC:=aV (K:=K) (st:=kc) l_q22 c_q22 k_q22;have C9:o7 ⟨l.prog,w,K,mg,base⟩ "near" "Kept.near" kc ["self","bound"] _ _:=⟨KC,by rw[show kC=aU from dC];exact⟨a_q22,i_q22,k_q22⟩,KC.binds λ_ _ _ _ _ _ us hl=>ln2 (λ_ _=>rfl) us hl⟩
 have VR:=aV (K:=K) (st:=sO) l_q4 c_q4 k_q4;have NA:o7 ⟨l.prog,w,K,mg,base⟩ "need_name" "Kept.need_name" sO ["self","name"] _ _:=⟨VR,by rw[show kC=aU from dC];exact⟨a_q4,i_q4,k_q4⟩,VR.binds λ_ _ _ _ _ _ us hl=>ln2 (λ_ _=>rfl) us hl⟩
 have VP:=aV (K:=K) (st:=sM) l_q2 c_q2 k_q2;have Ny:o7 ⟨l.prog,w,K,mg,base⟩ "plain_points" "Kept.plain_points" sM ["self"] _ _:=⟨VP,by rw[show kC=aU from dC];exact⟨a_q2,i_q2,k_q2⟩,VP.binds λ_ _ _ _ _ _ us hl=>EE (λ_=>rfl) us hl⟩
 have KN:=aV (K:=K) (st:=ky) l_q28 c_q28 k_q28;have Di:cY ⟨l.prog,w,K,mg,base⟩ "_law_next" ky ["pot","many"] _ _:=⟨KN,mg_of X Gs a_q28,KN.binds λ_ _ _ _ _ _ us hl=>ln2 (λ_ _=>rfl) us hl⟩;have KO:=aV (K:=K) (st:=kz) l_q29 c_q29 k_q29;have Dj:cY ⟨l.prog,w,K,mg,base⟩ "_law_pots" kz ["script"] _ _:=⟨KO,mg_of X Gs a_q29,KO.binds λ_ _ _ _ _ _ us hl=>EE (λ_=>rfl) us hl⟩;have KS:=aV (K:=K) (st:=kF) l_q33 c_q33 k_q33;have Dm:cY ⟨l.prog,w,K,mg,base⟩ "_law_far" kF ["way","one","other"] _ _:=⟨KS,mg_of X Gs a_q33,KS.binds λ_ _ _ _ _ _ us hl=>Lz (λ_ _ _=>rfl) us hl⟩;have KU:=aV (K:=K) (st:=kG) l_q34 c_q34 k_q34;have Dp:cY ⟨l.prog,w,K,mg,base⟩ "_law_way" kG ["pot"] _ _:=⟨KU,mg_of X Gs a_q34,KU.binds λ_ _ _ _ _ _ us hl=>EE (λ_=>rfl) us hl⟩;have KP:=aV (K:=K) (st:=kA) l_q30 c_q30 k_q30;have pZ:cY ⟨l.prog,w,K,mg,base⟩ "_law_same" kA ["found","due"] _ _:=⟨KP,mg_of X Gs a_q30,KP.binds λ_ _ _ _ _ _ us hl=>ln2 (λ_ _=>rfl) us hl⟩;have KI:=aV (K:=K) (st:=kn) l_q25 c_q25 k_q25;have Df:cY ⟨l.prog,w,K,mg,base⟩ "_law_point" kn ["pot","count","own"] _ _:=⟨KI,mg_of X Gs a_q25,KI.binds λ_ _ _ _ _ _ us hl=>Lz (λ_ _ _=>rfl) us hl⟩;have KR:=aV (K:=K) (st:=kE) l_q32 c_q32 k_q32;have Dl:cY ⟨l.prog,w,K,mg,base⟩ "_law_due" kE ["own","way","which","name","bound"] _ _:=⟨KR,mg_of X Gs a_q32,KR.binds λ_ _ _ _ _ _ us hl=>ln5 (λ_ _ _ _ _=>rfl) us hl⟩;have Kv:=aV (K:=K) (st:=j3) l_q16 c_q16 k_q16;have C3:cY ⟨l.prog,w,K,mg,base⟩ "_law_answer" j3 ["kept","which","name","bound"] _ _:=⟨Kv,mg_of X Gs a_q16,Kv.binds λ_ _ _ _ _ _ us hl=>ln4 (λ_ _ _ _=>rfl) us hl⟩;have VU:=aV (K:=K) (st:=sQ) l_q6 c_q6 k_q6;have NC:cY ⟨l.prog,w,K,mg,base⟩ "_law_one_right" sQ ["kept","own","way","which","name","bound"] _ _:=⟨VU,mg_of X Gs a_q6,VU.binds λ_ _ _ _ _ _ us hl=>ln6 (λ_ _ _ _ _ _=>rfl) us hl⟩;have KH:=aV (K:=K) (st:=kj) l_q24 c_q24 k_q24;have Dd:cY ⟨l.prog,w,K,mg,base⟩ "_law_drawn" kj ["pot","own"] _ _:=⟨KH,mg_of X Gs a_q24,KH.binds λ_ _ _ _ _ _ us hl=>ln2 (λ_ _=>rfl) us hl⟩;have Kq:=aV (K:=K) (st:=jV) l_q11 c_q11 k_q11;have CY:cY ⟨l.prog,w,K,mg,base⟩ "_law_changed" jV ["pot","kept","own","way","count"] _ _:=⟨Kq,mg_of X Gs a_q11,Kq.binds λ_ _ _ _ _ _ us hl=>ln5 (λ_ _ _ _ _=>rfl) us hl⟩;have KW:=aV (K:=K) (st:=gp) l_q35 c_q35 k_q35;have Dq:cY ⟨l.prog,w,K,mg,base⟩ "law" gp ["script"] _ _:=⟨KW,mg_of X Gs a_q35,KW.binds λ_ _ _ _ _ _ us hl=>EE (λ_=>rfl) us hl⟩;exact RJ rfl rfl E C7 Nv C0 Dk Nx C8 C6 CW Nz C4 ND NF CZ C5 NB Dg Dc C1 C2 Dh NI C9 NA Ny Di Dj Dm Dp pZ Df Dl C3 NC Dd CY Dq
theorem walk{l:PySem.W.OpenLaw}{q:Program}{loose:List Str}{XP:(Str->Option Value)->Heap->Prop}{YP:World->Heap->Prop}{d:DefRec}{K:Params->ab4}(hn:l.most=some 63)(XS:d.params.defaults=[])
  (hY:∀(w:World) (h:Heap),YP w h->(K w.params).In h)
  (F:∀(w:World) (mg:Str->Option Value) (fa:Addr) (h:Heap),(K w.params).In h->h.Ns acf mg->mg d.name=some (.ref fa) ->
   ∃fd:FuncData,(∀(s:Shared) (u:Value),BindsTo s fd ⟨[u],[]⟩ [("script",u)])/\∀base:Heap,(K w.params).In base->base.Ns acf mg->ck l.prog w (K w.params) mg base iA 9 fa fd ["script"] (zW (K w.params))):
  PySem.W.WalkO q loose XP YP l.row.toRowW d [] (λf vs=>PySem.call f vs):=
 L2.Ka (n:=63) (k:=9) (x:="script") (CX:=λ_=>iA) (sp:=λw=>zW (K w.params)) hn ∅ XS ⟨rfl,by decide,by decide⟩ hY F (λ_ _ a ns hl _ hS=>⟨a,ns,rfl,hS,hl,λ_=>rfl⟩) λ_ _ _ _ _ z=>z
end K34
namespace PySem.W.Fast
theorem tw1008450121214266734:True:=⟨⟩
theorem tw10149604623195581607:True:=⟨⟩
theorem tw10253574773896772684:True:=⟨⟩
theorem tw10299013015879130629:True:=⟨⟩
theorem tw10305477747606634824:True:=⟨⟩
theorem tw10369556131893888216:True:=⟨⟩
theorem tw10458027023106632216:True:=⟨⟩
theorem tw10583909004725566057:True:=⟨⟩
theorem tw10600303535528771576:True:=⟨⟩
theorem tw10691817076590647918:True:=⟨⟩
theorem tw10807698062935638198:True:=⟨⟩
theorem tw10917572190922874274:True:=⟨⟩
theorem tw1109388982770093801:True:=⟨⟩
theorem tw11105164475955440367:True:=⟨⟩
theorem tw11168280127921994434:True:=⟨⟩
theorem tw1130018204835223029:True:=⟨⟩
theorem tw1136679577102170190:True:=⟨⟩
theorem tw11414866068162318587:True:=⟨⟩
theorem tw1141494700026005505:True:=⟨⟩
theorem tw11438141093434708509:True:=⟨⟩
theorem tw11562902598933195941:True:=⟨⟩
theorem tw11670461863253065103:True:=⟨⟩
theorem tw11833411613230939630:True:=⟨⟩
theorem tw12060210136830717258:True:=⟨⟩
theorem tw12135947017995159160:True:=⟨⟩
theorem tw12171497605668344244:True:=⟨⟩
theorem tw12222032937373501538:True:=⟨⟩
theorem tw12370082265125783127:True:=⟨⟩
theorem tw12407428856891560220:True:=⟨⟩
theorem tw12433705859006581806:True:=⟨⟩
theorem tw12516326445757732076:True:=⟨⟩
theorem tw12519258630526698845:True:=⟨⟩
theorem tw12596856177572591481:True:=⟨⟩
theorem tw12762489154271132081:True:=⟨⟩
theorem tw12776516982464371496:True:=⟨⟩
theorem tw13126284152560113434:True:=⟨⟩
theorem tw13157417049082044165:True:=⟨⟩
theorem tw13172681204695344140:True:=⟨⟩
theorem tw13406057907235197444:True:=⟨⟩
theorem tw13477960593338707928:True:=⟨⟩
theorem tw13599772696985980535:True:=⟨⟩
theorem tw13639624224333495578:True:=⟨⟩
theorem tw13641064652118428964:True:=⟨⟩
theorem tw13711437191528887586:True:=⟨⟩
theorem tw13730878339690564394:True:=⟨⟩
theorem tw137614108414929219:True:=⟨⟩
theorem tw13902208592868757964:True:=⟨⟩
theorem tw14035919160597472607:True:=⟨⟩
theorem tw1409322179422583692:True:=⟨⟩
theorem tw14380662316552507821:True:=⟨⟩
theorem tw14447321102354582740:True:=⟨⟩
theorem tw14581219803206610440:True:=⟨⟩
theorem tw14639941708594639464:True:=⟨⟩
theorem tw1464089051022087278:True:=⟨⟩
theorem tw1476175039477474740:True:=⟨⟩
theorem tw14832270117218816273:True:=⟨⟩
theorem tw14869018061235526283:True:=⟨⟩
theorem tw14963549158012130718:True:=⟨⟩
theorem tw15094154917313759684:True:=⟨⟩
theorem tw15223245998596410101:True:=⟨⟩
theorem tw15238349367260226105:True:=⟨⟩
theorem tw15267509815000367717:True:=⟨⟩
theorem tw15473478975057326132:True:=⟨⟩
theorem tw15474331636441013424:True:=⟨⟩
theorem tw15679794312872658794:True:=⟨⟩
theorem tw15889616693529802463:True:=⟨⟩
theorem tw159084720414567987:True:=⟨⟩
theorem tw16173942693711620784:True:=⟨⟩
theorem tw1618055458174343711:True:=⟨⟩
theorem tw16333961657960263128:True:=⟨⟩
theorem tw16361198675377965818:True:=⟨⟩
theorem tw16519283075640413049:True:=⟨⟩
theorem tw16668050265891645204:True:=⟨⟩
theorem tw166971725261317295:True:=⟨⟩
theorem tw16700950234031883227:True:=⟨⟩
theorem tw16994850946533697984:True:=⟨⟩
theorem tw1713015521286630923:True:=⟨⟩
theorem tw17355045282915626401:True:=⟨⟩
theorem tw17509137357832160:True:=⟨⟩
theorem tw17560090638894928974:True:=⟨⟩
theorem tw17572754824020890221:True:=⟨⟩
theorem tw17655455273614823501:True:=⟨⟩
theorem tw18036029015232990250:True:=⟨⟩
theorem tw18277450976805418616:True:=⟨⟩
theorem tw18415279241330771290:True:=⟨⟩
theorem tw18434959127681493290:True:=⟨⟩
theorem tw1946962534275663125:True:=⟨⟩
theorem tw1997527252915397243:True:=⟨⟩
theorem tw203081568151124758:True:=⟨⟩
theorem tw2135380599742514769:True:=⟨⟩
theorem tw2205140231780818491:True:=⟨⟩
theorem tw2267286022945373933:True:=⟨⟩
theorem tw2271434804542600332:True:=⟨⟩
theorem tw2281128521486299647:True:=⟨⟩
theorem tw2281202054898350419:True:=⟨⟩
theorem tw2504070031223459632:True:=⟨⟩
theorem tw2547357143881568726:True:=⟨⟩
theorem tw2594148974625114661:True:=⟨⟩
theorem tw2624960384147675474:True:=⟨⟩
theorem tw2707603973700355080:True:=⟨⟩
theorem tw2760547501364811765:True:=⟨⟩
theorem tw2768078511649434119:True:=⟨⟩
theorem tw278463657629009664:True:=⟨⟩
theorem tw2826283908913348636:True:=⟨⟩
theorem tw2855777009692621555:True:=⟨⟩
theorem tw2969071614925652056:True:=⟨⟩
theorem tw3091525291253506022:True:=⟨⟩
theorem tw3221842579329091065:True:=⟨⟩
theorem tw322227872100362166:True:=⟨⟩
theorem tw3289135322034399579:True:=⟨⟩
theorem tw3310552182410840286:True:=⟨⟩
theorem tw334498395337587451:True:=⟨⟩
theorem tw3430947299444203112:True:=⟨⟩
theorem tw3544421882857631757:True:=⟨⟩
theorem tw3573880967151840089:True:=⟨⟩
theorem tw3602427679754066487:True:=⟨⟩
theorem tw3696981060856141308:True:=⟨⟩
theorem tw3773488920820403006:True:=⟨⟩
theorem tw3773618045148673779:True:=⟨⟩
theorem tw3801130260284428714:True:=⟨⟩
theorem tw3909250448229268293:True:=⟨⟩
theorem tw3936638864331524494:True:=⟨⟩
theorem tw4144419639645814220:True:=⟨⟩
theorem tw4155786319781155205:True:=⟨⟩
theorem tw4442019765345085035:True:=⟨⟩
theorem tw4486563520655948246:True:=⟨⟩
theorem tw4656425318987856962:True:=⟨⟩
theorem tw4692247606182239904:True:=⟨⟩
theorem tw4737720399170857939:True:=⟨⟩
theorem tw4868604564816581752:True:=⟨⟩
theorem tw4886300108520016308:True:=⟨⟩
theorem tw497579841990916267:True:=⟨⟩
theorem tw5015095214977874164:True:=⟨⟩
theorem tw5188818195111569545:True:=⟨⟩
theorem tw5232507090574646654:True:=⟨⟩
theorem tw5375754441217198896:True:=⟨⟩
theorem tw5412688568297589972:True:=⟨⟩
theorem tw5414751329520818329:True:=⟨⟩
theorem tw5428931534589975714:True:=⟨⟩
theorem tw5451396326024988623:True:=⟨⟩
theorem tw5458767565297769527:True:=⟨⟩
theorem tw5483081600718562899:True:=⟨⟩
theorem tw5504660764044903739:True:=⟨⟩
theorem tw5519223831090526178:True:=⟨⟩
theorem tw5532212347007614351:True:=⟨⟩
theorem tw5543878994375195249:True:=⟨⟩
theorem tw5554045419162463455:True:=⟨⟩
theorem tw5704408667271924477:True:=⟨⟩
theorem tw5878193929316279367:True:=⟨⟩
theorem tw5883813363077900807:True:=⟨⟩
theorem tw5980585967909207279:True:=⟨⟩
theorem tw6043786919493741221:True:=⟨⟩
theorem tw6058129233298556162:True:=⟨⟩
theorem tw6162234666694012493:True:=⟨⟩
theorem tw6560268724233101362:True:=⟨⟩
theorem tw6620330693218516162:True:=⟨⟩
theorem tw6652801011198156913:True:=⟨⟩
theorem tw6716769677267131502:True:=⟨⟩
theorem tw6731104338960673496:True:=⟨⟩
theorem tw6777035339230413129:True:=⟨⟩
theorem tw6806949298181472835:True:=⟨⟩
theorem tw686338727641964897:True:=⟨⟩
theorem tw6875881513907959079:True:=⟨⟩
theorem tw6929975105624431171:True:=⟨⟩
theorem tw6971897964746062936:True:=⟨⟩
theorem tw698159486828521489:True:=⟨⟩
theorem tw7075640475225403222:True:=⟨⟩
theorem tw7168282633969291807:True:=⟨⟩
theorem tw7169864640546713241:True:=⟨⟩
theorem tw7238080862955323977:True:=⟨⟩
theorem tw7353058743432972226:True:=⟨⟩
theorem tw7486468606702871646:True:=⟨⟩
theorem tw7551621775582705904:True:=⟨⟩
theorem tw7564194756554572779:True:=⟨⟩
theorem tw7804811764976691030:True:=⟨⟩
theorem tw7888237068916646325:True:=⟨⟩
theorem tw7906244771109880722:True:=⟨⟩
theorem tw7933861898326131338:True:=⟨⟩
theorem tw803533884336871857:True:=⟨⟩
theorem tw8058516280779341011:True:=⟨⟩
theorem tw8176831943687261598:True:=⟨⟩
theorem tw8185444424248863190:True:=⟨⟩
theorem tw8277495288033001309:True:=⟨⟩
theorem tw8475517227446613030:True:=⟨⟩
theorem tw8486974476975202288:True:=⟨⟩
theorem tw8659821118893190499:True:=⟨⟩
theorem tw8696118214264265048:True:=⟨⟩
theorem tw8863423583619113397:True:=⟨⟩
theorem tw8893464861481212487:True:=⟨⟩
theorem tw8990537277615866224:True:=⟨⟩
theorem tw9024296145626497943:True:=⟨⟩
theorem tw9229184384453130983:True:=⟨⟩
theorem tw9403689973925906451:True:=⟨⟩
theorem tw9418713198399483254:True:=⟨⟩
theorem tw9682546262380938693:True:=⟨⟩
theorem tw9784264926410919806:True:=⟨⟩
theorem tw986671766743408589:True:=⟨⟩
end PySem.W.Fast
open PySem PySem.W PyProof.Rows
set_option maxRecDepth 100000 in
set_option maxHeartbeats 0 in
theorem PySem.Challenge.cw_closepoints_k34_long_kept_points_holds : PySem.Challenge.rw_closepoints_k34_long_kept_points.Holds := by
 w_on;o_law;z_head;(case hw=>w_witness2)
 k_fill
 refine Vc.U9 (λ_=>by kernel_rfl) (K34.walk (l:=PySem.Challenge.rw_closepoints_k34_long_kept_points) rfl rfl (λw h Y=>Y) ?F)
 case F =>
  intro w mg fa h KX G hmg;refine' K34.all_mk KX G hmg ?g_Kept ?pg_Kept ?hd_Kept ?po_Kept ?sa_Kept ?n1_Kept ?n2_Kept ?n3_Kept ?n4_Kept ?mk_Kept ?kp_Kept ?a_q20 ?l_q20 ?c_q20 ?k_q20 ?a_q0 ?l_q0 ?c_q0 ?k_q0 ?a_q13 ?l_q13 ?c_q13 ?k_q13 ?a_q31 ?l_q31 ?c_q31 ?k_q31 ?a_q1 ?l_q1 ?c_q1 ?k_q1 ?a_q21 ?l_q21 ?c_q21 ?k_q21 ?a_q19 ?l_q19 ?c_q19 ?k_q19 ?a_q10 ?l_q10 ?c_q10 ?k_q10 ?a_q3 ?l_q3 ?c_q3 ?k_q3 ?a_q17 ?l_q17 ?c_q17 ?k_q17 ?a_q7 ?l_q7 ?c_q7 ?k_q7 ?a_q8 ?l_q8 ?c_q8 ?k_q8 ?a_q12 ?l_q12 ?c_q12 ?k_q12 ?a_q18 ?l_q18 ?c_q18 ?k_q18 ?a_q5 ?l_q5 ?c_q5 ?k_q5 ?i_q5 ?a_q26 ?l_q26 ?c_q26 ?k_q26 ?i_q26 ?a_q23 ?l_q23 ?c_q23 ?k_q23 ?i_q23 ?a_q14 ?l_q14 ?c_q14 ?k_q14 ?i_q14 ?a_q15 ?l_q15 ?c_q15 ?k_q15 ?i_q15 ?a_q27 ?l_q27 ?c_q27 ?k_q27 ?i_q27 ?a_q9 ?l_q9 ?c_q9 ?k_q9 ?i_q9 ?a_q22 ?l_q22 ?c_q22 ?k_q22 ?i_q22 ?a_q4 ?l_q4 ?c_q4 ?k_q4 ?i_q4 ?a_q2 ?l_q2 ?c_q2 ?k_q2 ?i_q2 ?a_q28 ?l_q28 ?c_q28 ?k_q28 ?a_q29 ?l_q29 ?c_q29 ?k_q29 ?a_q33 ?l_q33 ?c_q33 ?k_q33 ?a_q34 ?l_q34 ?c_q34 ?k_q34 ?a_q30 ?l_q30 ?c_q30 ?k_q30 ?a_q25 ?l_q25 ?c_q25 ?k_q25 ?a_q32 ?l_q32 ?c_q32 ?k_q32 ?a_q16 ?l_q16 ?c_q16 ?k_q16 ?a_q6 ?l_q6 ?c_q6 ?k_q6 ?a_q24 ?l_q24 ?c_q24 ?k_q24 ?a_q11 ?l_q11 ?c_q11 ?k_q11 ?a_q35 ?l_q35 ?c_q35 ?k_q35 ?z_abs ?z_bool ?z_int ?z_isinstance ?z_len ?z_list ?z_max ?z_min ?z_range ?z_sorted ?z_sum ?z_tuple ?z_zip ?u_SQUARES ?u_STREETS
  (case g_Kept=>ac_rfl)
  (case pg_Kept=>ac_rfl)
  (case hd_Kept=>ac_rfl)
  (case po_Kept=>ac_rfl)
  (case sa_Kept=>ac_rfl)
  (case n1_Kept=>ac_rfl)
  (case n2_Kept=>ac_rfl)
  (case n3_Kept=>ac_rfl)
  (case n4_Kept=>ac_rfl)
  (case mk_Kept=>ac_rfl)
  (case kp_Kept=>ac_rfl)
  (case a_q20=>ac_rfl)
  (case l_q20=>ac_rfl)
  (case c_q20=>ac_rfl)
  (case k_q20=>ac_rfl)
  (case a_q0=>ac_rfl)
  (case l_q0=>ac_rfl)
  (case c_q0=>ac_rfl)
  (case k_q0=>ac_rfl)
  (case a_q13=>ac_rfl)
  (case l_q13=>ac_rfl)
  (case c_q13=>ac_rfl)
  (case k_q13=>ac_rfl)
  (case a_q31=>ac_rfl)
  (case l_q31=>ac_rfl)
  (case c_q31=>ac_rfl)
  (case k_q31=>ac_rfl)
  (case a_q1=>ac_rfl)
  (case l_q1=>ac_rfl)
  (case c_q1=>ac_rfl)
  (case k_q1=>ac_rfl)
  (case a_q21=>ac_rfl)
  (case l_q21=>ac_rfl)
  (case c_q21=>ac_rfl)
  (case k_q21=>ac_rfl)
  (case a_q19=>ac_rfl)
  (case l_q19=>ac_rfl)
  (case c_q19=>ac_rfl)
  (case k_q19=>ac_rfl)
  (case a_q10=>ac_rfl)
  (case l_q10=>ac_rfl)
  (case c_q10=>ac_rfl)
  (case k_q10=>ac_rfl)
  (case a_q3=>ac_rfl)
  (case l_q3=>ac_rfl)
  (case c_q3=>ac_rfl)
  (case k_q3=>ac_rfl)
  (case a_q17=>ac_rfl)
  (case l_q17=>ac_rfl)
  (case c_q17=>ac_rfl)
  (case k_q17=>ac_rfl)
  (case a_q7=>ac_rfl)
  (case l_q7=>ac_rfl)
  (case c_q7=>ac_rfl)
  (case k_q7=>ac_rfl)
  (case a_q8=>ac_rfl)
  (case l_q8=>ac_rfl)
  (case c_q8=>ac_rfl)
  (case k_q8=>ac_rfl)
  (case a_q12=>ac_rfl)
  (case l_q12=>ac_rfl)
  (case c_q12=>ac_rfl)
  (case k_q12=>ac_rfl)
  (case a_q18=>ac_rfl)
  (case l_q18=>ac_rfl)
  (case c_q18=>ac_rfl)
  (case k_q18=>ac_rfl)
  (case a_q5=>ac_rfl)
  (case l_q5=>ac_rfl)
  (case c_q5=>ac_rfl)
  (case k_q5=>ac_rfl)
  (case i_q5=>ac_rfl)
  (case a_q26=>ac_rfl)
  (case l_q26=>ac_rfl)
  (case c_q26=>ac_rfl)
  (case k_q26=>ac_rfl)
  (case i_q26=>ac_rfl)
  (case a_q23=>ac_rfl)
  (case l_q23=>ac_rfl)
  (case c_q23=>ac_rfl)
  (case k_q23=>ac_rfl)
  (case i_q23=>ac_rfl)
  (case a_q14=>ac_rfl)
  (case l_q14=>ac_rfl)
  (case c_q14=>ac_rfl)
  (case k_q14=>ac_rfl)
  (case i_q14=>ac_rfl)
  (case a_q15=>ac_rfl)
  (case l_q15=>ac_rfl)
  (case c_q15=>ac_rfl)
  (case k_q15=>ac_rfl)
  (case i_q15=>ac_rfl)
  (case a_q27=>ac_rfl)
  (case l_q27=>ac_rfl)
  (case c_q27=>ac_rfl)
  (case k_q27=>ac_rfl)
  (case i_q27=>ac_rfl)
  (case a_q9=>ac_rfl)
  (case l_q9=>ac_rfl)
  (case c_q9=>ac_rfl)
  (case k_q9=>ac_rfl)
  (case i_q9=>ac_rfl)
  (case a_q22=>ac_rfl)
  (case l_q22=>ac_rfl)
  (case c_q22=>ac_rfl)
  (case k_q22=>ac_rfl)
  (case i_q22=>ac_rfl)
  (case a_q4=>ac_rfl)
  (case l_q4=>ac_rfl)
  (case c_q4=>ac_rfl)
  (case k_q4=>ac_rfl)
  (case i_q4=>ac_rfl)
  (case a_q2=>ac_rfl)
  (case l_q2=>ac_rfl)
  (case c_q2=>ac_rfl)
  (case k_q2=>ac_rfl)
  (case i_q2=>ac_rfl)
  (case a_q28=>ac_rfl)
  (case l_q28=>ac_rfl)
  (case c_q28=>ac_rfl)
  (case k_q28=>ac_rfl)
  (case a_q29=>ac_rfl)
  (case l_q29=>ac_rfl)
  (case c_q29=>ac_rfl)
  (case k_q29=>ac_rfl)
  (case a_q33=>ac_rfl)
  (case l_q33=>ac_rfl)
  (case c_q33=>ac_rfl)
  (case k_q33=>ac_rfl)
  (case a_q34=>ac_rfl)
  (case l_q34=>ac_rfl)
  (case c_q34=>ac_rfl)
  (case k_q34=>ac_rfl)
  (case a_q30=>ac_rfl)
  (case l_q30=>ac_rfl)
  (case c_q30=>ac_rfl)
  (case k_q30=>ac_rfl)
  (case a_q25=>ac_rfl)
  (case l_q25=>ac_rfl)
  (case c_q25=>ac_rfl)
  (case k_q25=>ac_rfl)
  (case a_q32=>ac_rfl)
  (case l_q32=>ac_rfl)
  (case c_q32=>ac_rfl)
  (case k_q32=>ac_rfl)
  (case a_q16=>ac_rfl)
  (case l_q16=>ac_rfl)
  (case c_q16=>ac_rfl)
  (case k_q16=>ac_rfl)
  (case a_q6=>ac_rfl)
  (case l_q6=>ac_rfl)
  (case c_q6=>ac_rfl)
  (case k_q6=>ac_rfl)
  (case a_q24=>ac_rfl)
  (case l_q24=>ac_rfl)
  (case c_q24=>ac_rfl)
  (case k_q24=>ac_rfl)
  (case a_q11=>ac_rfl)
  (case l_q11=>ac_rfl)
  (case c_q11=>ac_rfl)
  (case k_q11=>ac_rfl)
  (case a_q35=>ac_rfl)
  (case l_q35=>ac_rfl)
  (case c_q35=>ac_rfl)
  (case k_q35=>ac_rfl)
  (case z_abs=>ac_rfl)
  (case z_bool=>ac_rfl)
  (case z_int=>ac_rfl)
  (case z_isinstance=>ac_rfl)
  (case z_len=>ac_rfl)
  (case z_list=>ac_rfl)
  (case z_max=>ac_rfl)
  (case z_min=>ac_rfl)
  (case z_range=>ac_rfl)
  (case z_sorted=>ac_rfl)
  (case z_sum=>ac_rfl)
  (case z_tuple=>ac_rfl)
  (case z_zip=>ac_rfl)
  (case u_SQUARES=>ac_rfl)
  (case u_STREETS=>ac_rfl)
