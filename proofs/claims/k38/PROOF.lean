import PyProof.Rows.All
import Wide.All
import OpenK.AllK
import Wide.FinOn
import Lean
import PyProof.EqAt
import PyProof.EqKinds
import PyProof.TupleCall
import PySem.Challenge.RW_closepoints_k38_texts_of_no_points
set_option compiler.extract_closed false
-- CHANGE: your row's module here,as the last of these rows
set_option Elab.async false
set_option linter.all false
set_option hygiene false
local macro_rules | `(tactic| omega) => `(tactic| first | lia | omega +splitNatSub)
local macro_rules | `(⋯) => `((by omega))
local macro_rules | `(∅) => `((by decide))
set_option maxRecDepth 100000
namespace L2
open PySem PySem.Spec PyProof.Rows
noncomputable abbrev Key:=Sum Int Str
noncomputable def AQ:Key -> Value -> Bool
  | .inl k,v=>Value.isInt k v
  | .inr x,v=>Value.isStrOf x v
noncomputable def Ou(w:World):Key -> Int
  | .inl k=>hashInt k
  | .inr x=>hashStr w x
theorem bN:∀ {k:Key} {v:Value},AQ k v = true -> (∃i t,k = Sum.inl i /\ v = Value.int i t) \/ (∃x t,k = Sum.inr x /\ v = Value.str x t)
  | .inl i,v,h=>by
    obtain⟨t,e⟩:=Value.isInt_shape (k:=i) (v:=v) h;exact .inl ⟨i,t,rfl,e⟩
  | .inr x,v,h=>by
    obtain⟨t,e⟩:=Value.isStrOf_shape (x:=x) (v:=v) h;exact .inr ⟨x,t,rfl,e⟩
theorem DQ(a b:Int):decide ((Sum.inl a:Key) = Sum.inl b) = (a == b):=by
  by_cases e:a = b
  · subst e;simp
  · have h:¬(Sum.inl a:Key) = Sum.inl b:=λq=>e (Sum.inl.inj q)
    rw [decide_eq_false h];exact(beq_eq_false_iff_ne.mpr e).symm
theorem DT(a b:Str):decide ((Sum.inr a:Key) = Sum.inr b) = decide (a = b):=by
  by_cases e:a = b
  · subst e;simp
  · have h:¬(Sum.inr a:Key) = Sum.inr b:=λq=>e (Sum.inr.inj q)
    rw [decide_eq_false h,decide_eq_false e]
theorem DR(a:Int) (b:Str):decide ((Sum.inl a:Key) = Sum.inr b) = false:=decide_eq_false (λq=>nomatch q)
theorem DS(a:Str) (b:Int):decide ((Sum.inr a:Key) = Sum.inl b) = false:=decide_eq_false (λq=>nomatch q)
noncomputable def mC(prog:Program) (w:World):PySem.KeyKind prog w Key where
  is:=AQ
  hash:=Ou w
  inj:=λv a b ha hb=>by
    rcases bN ha with⟨i,t,rfl,rfl⟩ | ⟨x,t,rfl,rfl⟩
    · rcases bN hb with⟨j,u,rfl,e⟩ | ⟨y,u,rfl,e⟩
      · injection e with e1 _;rw [e1]
      · exact nomatch e
    · rcases bN hb with⟨j,u,rfl,e⟩ | ⟨y,u,rfl,e⟩
      · exact nomatch e
      · injection e with e1 _;rw [e1]
  byValue:=λk v h=>by
    rcases bN h with⟨i,t,rfl,rfl⟩ | ⟨x,t,rfl,rfl⟩<;>rfl
  pyHash:=λhv h=>by
    rcases bN hv with⟨i,t,rfl,rfl⟩ | ⟨x,t,rfl,rfl⟩
    · exact wpAny_pyHash_int h
    · exact wpAny_pyHash_str h
  eqBool:=λhu hv h=>by
    rcases bN hu with⟨i,t,rfl,rfl⟩ | ⟨x,t,rfl,rfl⟩
    · rcases bN hv with⟨j,u,rfl,rfl⟩ | ⟨y,u,rfl,rfl⟩
      · rw [DQ]at h;exact wpAny_eqBool_int h
      · rw [DR]at h;exact SeqAt.EqAt.int_str i t y u _ _ _ _ h
    · rcases bN hv with⟨j,u,rfl,rfl⟩ | ⟨y,u,rfl,rfl⟩
      · rw [DS]at h;exact SeqAt.EqAt.str_int x t j u _ _ _ _ h
      · rw [DT]at h;exact wpAny_eqBool_str h
  «strs»:=λk x t v h=>by
    rcases bN h with⟨i,u,rfl,e⟩ | ⟨y,u,rfl,e⟩
    · exact nomatch e
    · injection e with e1 _
      subst e1;cases v<;>rfl
end L2
namespace L2
open PySem PySem.Spec PyProof.Rows
inductive V where
  | bt | bl (b:Bool) | int (i:Int) | str (x:Str) | HP (b:Array UInt8) | CO (b:UInt64) | ref (a:Addr) | ty (n:String)
  deriving DecidableEq
noncomputable def RelV:V -> Value -> Prop
  | .bt,u=>u = Value.none
  | .bl b,u=>u = Value.bool b
  | .int i,u=>∃t,u = Value.int i t
  | .str x,u=>∃t,u = Value.str x t
  | .HP b,u=>∃t,u = Value.bytes b t
  | .CO b,u=>∃t,u = Value.float b t
  | .ref a,u=>u = Value.ref a
  | .ty n,u=>u = Value.type n
noncomputable abbrev Vals:List V -> List Value -> Prop:=Paired RelV
theorem Vals.length{xs:List V} {us:List Value} (r:Vals xs us):xs.length = us.length:=Paired.length r
theorem Vals.get:∀ {xs:List V} {us:List Value} {i:Nat} {x:V},Vals xs us -> xs[i]? = some x -> ∃u,us[i]? = some u /\ RelV x u
  | _,_,_,_,.nil,e=>by simp at e
  | _,_,0,_,.cons r _,e=>by simp at e;subst e;exact⟨_,rfl,r⟩
  | _,_,i+1,x,.cons _ t,e=>by
    obtain⟨u,h1,h2⟩:=Vals.get (i:=i) (x:=x) t (by simpa using e)
    exact⟨u,by simpa using h1,h2⟩
theorem Vals.set{x:V} {u:Value} (r:RelV x u):∀ {xs:List V} {us:List Value} (i:Nat),Vals xs us -> Vals (xs.set i x) (us.set i u)
  | _,_,_,.nil=>.nil
  | _,_,0,.cons _ t=>.cons r t
  | _,_,i+1,.cons q t=>.cons q (Vals.set r i t)
theorem Vals.append:∀ {xs ys:List V} {us ws:List Value},Vals xs us -> Vals ys ws -> Vals (xs ++ ys) (us ++ ws)
  | _,_,_,_,.nil,s=>s
  | _,_,_,_,.cons r t,s=>.cons r (Vals.append t s)
theorem Vals.take:∀ {xs:List V} {us:List Value} (n:Nat),Vals xs us -> Vals (xs.take n) (us.take n)
  | _,_,0,_=>.nil
  | _,_,_+1,.nil=>.nil
  | _,_,n+1,.cons r t=>.cons r (Vals.take n t)
theorem Vals.drop:∀ {xs:List V} {us:List Value} (n:Nat),Vals xs us -> Vals (xs.drop n) (us.drop n)
  | _,_,0,r=>r
  | _,_,_+1,.nil=>.nil
  | _,_,n+1,.cons _ t=>Vals.drop n t
noncomputable def Bo:Option V -> Option Value -> Prop
  | some v,some u=>RelV v u
  | none,none=>True
  | _,_=>False
noncomputable def KV{κ:Type}:List (κ × V) -> List (κ × Value) -> Prop:=Paired λ(p:κ × V) (q:κ × Value)=>p.1 = q.1 /\ RelV p.2 q.2
noncomputable def kV:Key -> V
  | .inl i=>.int i
  | .inr x=>.str x
inductive HO where
  /-- a list -/
  | lst (xs:List V)
  /-- a tuple (never changes) -/
  | tup (xs:List V)
  /-- a dict whose keys are ints and texts;one whose keys are tuples of ints and texts (the empty one is both) -/
  | dK (b6:List (Key × V)) | dT (b6:List (List Key × V))
  /-- a set of ints: its members,its size -/
  | set (S:Int -> Bool) (n:Nat)
  /-- an instance of the class at C,its dict at dx,its attributes -/
  | ins (C dx:Addr) (fs:List (Str × V))
  /-- the dict of the instance at x -/
  | own (x:Addr)
  /-- the dict of an exception -/
  | xd (fs:List (Str × V))
  /-- a bound method,f of x -/
  | met (f x:Addr)
  /-- a range object lo,lo + 1,.. below hi -/
  | MI (lo hi:Int)
  /-- a thing that is known to the object (the script;a dict while a loop walks it): read,never written while it is so -/
  | kj (o:Obj) (u:HO)
  /-- a code object's table -/
  | A6 (ps:Array Value)
  /-- the same,and it may grow by the code of one lambda: as it was,the lambda's place,its name -/
  | lam (ps:Array Value) (pos:Pos) (qual:Str)
  /-- any other thing,by what is true of its one object (a def of one's own: SetO a S n:=HO.ext λh=>..) -/
  | ext (φ:Heap -> Prop)
noncomputable abbrev Hp:=Addr -> Option HO
noncomputable def upd(H:Hp) (a:Addr) (o:HO):Hp:=λb=>if b = a then some o else H b
theorem aW{H:Hp} {a:Addr} {o:HO}:upd H a o a = some o:=by unfold upd;rw [if_pos rfl]
theorem az{H:Hp} {a b:Addr} {o:HO} (h:b ≠ a):upd H a o b = H b:=by unfold upd;rw [if_neg h]
theorem bX{H:Hp} {a b:Addr} {o:HO} (h:H a = some o) (h':H b = none):a ≠ b:=by
  intro e;subst e;rw [h]at h';cases h'
section
variable (P:Program) (w:World)
noncomputable def bQ(H:Hp) (h:Heap) (a:Addr):HO -> Prop
  | .lst xs=>xs.length <= sizeLine /\ ∃(its:List Value) (n:Nat),Vals xs its /\ h.get? a = some {cls:=.type "list",data:=.seq its.toArray n}
  | .tup xs=>xs.length <= sizeLine /\ ∃its:List Value,Vals xs its /\ IsTup h a its.toArray
  | .dK b6=>b6.length <= sizeLine /\ (a == sysModules) = false /\ ∃vs,KV b6 vs /\ h.DictOf (mC P w) a vs
  | .dT b6=>b6.length <= sizeLine /\ (a == sysModules) = false /\ ∃xs:List (List Key × Addr × Value),
      Paired (λ(p:List Key × V) (q:List Key × Addr × Value)=>p.1 = q.1 /\ H q.2.1 = some (.tup (p.1.map kV)) /\ RelV p.2 q.2.2) b6 xs /\
      ∃o es ep,h.get? a = some o /\ o.ExactDict /\ o.data = .dict es ep /\ es.toList = xs.map (entryOfKey (tupleKind (mC P w))) /\ (xs.map (·.1)).Nodup
  | .set S n=>h.SetOf (intKind P w) a S n
  | .ins C dx fs=>H dx = some (.own a) /\ fs.length <= 1000 /\ dx ≠ a /\ h.get? a = some (PySem.W.instObj C dx) /\
      ∃mA,h.Ns1 dx mA /\ (∀f,Bo (fs.lookup f) (mA f)) /\ PySem.Within mA (fs.map (·.1))
  | .own _=>∃o,h.get? a = some o
  | .xd fs=>∃mA,h.Ns1 a mA /\ ∀f,Bo (fs.lookup f) (mA f)
  | .MI lo hi=>∃t u v,h.get? a = some {cls:=.type "range",data:=.fields #[.int lo t,.int hi u,.int 1 v]}
  | .kj o u=>h.get? a = some o /\ bQ H h a u
  | .A6 ps=>h.get? a = some {cls:=.none,data:=.fields ps}
  | .lam ps pos qual=>∃more,h.get? a = some {cls:=.none,data:=.fields (ps ++ more)} /\ TriplesOk (ps ++ more).toList /\ (codeAmong pos (ps ++ more).toList = none \/ ∃c' o vs t,codeAmong pos (ps ++ more).toList = some (.ref c') /\ H c' = some (.kj o (.own a)) /\ o.data = .fields vs /\ vs[1]? = some (.str qual t))
  | .met f x=>h.get? a = some (PySem.W.methodObj (.ref f) (.ref x))
  | .ext φ=>φ h /\ (∃o,h.get? a = some o) /\ ∀h1 h2:Heap,φ h1 -> (∀o,h1.get? a = some o -> h2.get? a = some o) -> φ h2
noncomputable def eL(H:Hp) (h:Heap):Prop:=∀a o,H a = some o -> bQ P w H h a o
end
section
variable {P:Program} {w:World} {H H':Hp} {h h':Heap} {a:Addr} {o:HO}
theorem bQ.lt(x:bQ P w H h a o):a<h.objs.size:=by
  cases o with
  | lst xs=>obtain⟨_,_,_,_,e⟩:=x;exact Heap.lt_size e
  | tup xs=>obtain⟨_,_,_,p⟩:=x;exact p.lt
  | dK b6=>obtain⟨_,_,_,_,o,_,_,e,_⟩:=x;exact Heap.lt_size e
  | dT b6=>obtain⟨_,_,_,_,o,_,_,e,_⟩:=x;exact Heap.lt_size e
  | set S n=>obtain⟨o,_,_,_,e,_⟩:=x;exact Heap.lt_size e
  | ins C dx fs=>obtain⟨_,_,_,e,_⟩:=x;exact Heap.lt_size e
  | own y=>obtain⟨_,e⟩:=x;exact Heap.lt_size e
  | xd fs=>obtain⟨_,⟨_,_,_,e,_⟩,_⟩:=x;exact Heap.lt_size e
  | MI lo hi=>obtain⟨_,_,_,e⟩:=x;exact Heap.lt_size e
  | kj ob u=>obtain⟨e,_⟩:=x;exact Heap.lt_size e
  | A6 ps=>exact Heap.lt_size (show h.get? a = some _ from x)
  | lam ps pos qual=>obtain⟨_,e,_⟩:=x;exact Heap.lt_size e
  | met f y=>exact Heap.lt_size (show h.get? a = some _ from x)
  | ext φ=>obtain⟨_,⟨_,e⟩,_⟩:=x;exact Heap.lt_size e
theorem Paired.JW{α β:Type} {F G:α -> β -> Prop}:∀ {JU:List α} {JV:List β},Paired F JU JV -> (∀a b,F a b -> G a b) -> Paired G JU JV
  | _,_,.nil,_=>.nil
  | _,_,.cons r t,f=>.cons (f _ _ r) (Paired.JW t f)
theorem bQ.jV(x:bQ P w H h a o) (k:∀b u,(b = a \/ H b = some (.own a)) -> h.get? b = some u -> h'.get? b = some u)
    (ho:∀b,H b = some (.own a) -> H' b = some (.own a)) (ht:∀b xs,H b = some (.tup xs) -> H' b = some (.tup xs)) (hf:∀b o u,H b = some (.kj o u) -> H' b = some (.kj o u):=by exactλ_ _ _ q=>q):bQ P w H' h' a o:=by
  induction o with
  | lst xs=>obtain⟨z,its,n,r,e⟩:=x;exact⟨z,its,n,r,k _ _ (.inl rfl) e⟩
  | tup xs=>obtain⟨z,its,r,ob,e,c⟩:=x;exact⟨z,its,r,ob,k _ _ (.inl rfl) e,c⟩
  | dK b6=>obtain⟨z,y,vs,r,ob,es,ep,e,c⟩:=x;exact⟨z,y,vs,r,ob,es,ep,k _ _ (.inl rfl) e,c⟩
  | dT b6 =>
    obtain⟨z,y,xs,r,ob,es,ep,e,c⟩:=x;exact⟨z,y,xs,Paired.JW r λp q z=>⟨z.1,ht _ _ z.2.1,z.2.2⟩,ob,es,ep,k _ _ (.inl rfl) e,c⟩
  | set S n=>obtain⟨ob,es,ep,t,e,c⟩:=x;exact⟨ob,es,ep,t,k _ _ (.inl rfl) e,c⟩
  | ins C dx fs =>
    obtain⟨d,z,ne,e,mA,⟨od,es,ep,e2,c⟩,r⟩:=x;exact⟨ho _ d,z,ne,k _ _ (.inl rfl) e,mA,⟨od,es,ep,k _ _ (.inr d) e2,c⟩,r⟩
  | own y=>obtain⟨ob,e⟩:=x;exact⟨ob,k _ _ (.inl rfl) e⟩
  | xd fs=>obtain⟨mA,⟨od,es,ep,e,c⟩,r⟩:=x;exact⟨mA,⟨od,es,ep,k _ _ (.inl rfl) e,c⟩,r⟩
  | MI lo hi=>obtain⟨t,u,v,e⟩:=x;exact⟨t,u,v,k _ _ (.inl rfl) e⟩
  | kj ob u ih=>obtain⟨e,q⟩:=x;exact⟨k _ _ (.inl rfl) e,ih q⟩
  | lam ps pos qual =>
    obtain⟨more,e,tr,c⟩:=x;refine⟨more,k _ _ (.inl rfl) e,tr,?_⟩;rcases c with c | ⟨c',o,vs,t,c1,c2,c3⟩
    · exact .inl c
    · exact .inr ⟨c',o,vs,t,c1,hf _ _ _ c2,c3⟩
  | A6 ps =>
    have e:h.get? a = some {cls:=.none,data:=.fields ps}:=x;show h'.get? a = some {cls:=.none,data:=.fields ps};exact k a _ (.inl rfl) e
  | met f y =>
    have e:h.get? a = some (PySem.W.methodObj (.ref f) (.ref y)):=x;show h'.get? a = some (PySem.W.methodObj (.ref f) (.ref y));exact k a _ (.inl rfl) e
  | ext φ=>obtain⟨p,⟨o,e⟩,st⟩:=x;exact⟨st _ _ p λo q=>k _ _ (.inl rfl) q,⟨o,k _ _ (.inl rfl) e⟩,st⟩
theorem eL.lt(x:eL P w H h) (e:H a = some o):a<h.objs.size:=(x a o e).lt
theorem eL.fresh(x:eL P w H h) (e:h.objs.size <= a):H a = none:=by
  cases q:H a with
  | none=>rfl
  | some u=>exact absurd (Nat.lt_of_lt_of_le (x.lt q) e) (Nat.lt_irrefl _)
theorem eL.kept(x:eL P w H h) (k:∀b u,h.get? b = some u -> h'.get? b = some u):eL P w H h':=λa o e =>
  (x a o e).jV (λb u _ q=>k b u q) (λ_ q=>q) λ_ _ q=>q
theorem eL.laid(x:eL P w H h) (k:∀b u,h.get? b = some u -> h'.get? b = some u) (hp:h.objs.size <= a) (new:bQ P w (upd H a o) h' a o):eL P w (upd H a o) h':=λb u e=>by
  have hn:=x.fresh hp
  by_cases hb:b = a
  · subst hb;rw [aW]at e;cases e;exact new
  · rw [az hb]at e
    exact(x b u e).jV (λc v _ q=>k c v q) (λc q=>by rw [az (bX q hn)];exact q) (λc xs q=>by rw [az (bX q hn)];exact q) λc o u q=>by rw [az (bX q hn)];exact q
end
noncomputable def Rd(H:Hp) (a:Addr) (u:HO):Prop:=H a = some u \/ ∃o,H a = some (.kj o u)
theorem Rd.ok{P:Program} {w:World} {H:Hp} {h:Heap} {a:Addr} {u:HO} (r:Rd H a u) (x:eL P w H h):bQ P w H h a u:=by
  rcases r with r | ⟨o,r⟩
  · exact x a u r
  · obtain⟨_,q⟩:=x a _ r
    exact q
noncomputable def Mb:Option HO -> Prop
  | some (.lst _)=>True
  | some (.dK _)=>True
  | some (.dT _)=>True
  | some (.set _ _)=>True
  | some (.ins _ _ _)=>True
  | some (.ext _)=>True
  | some (.lam _ _ _)=>True
  | _=>False
section
variable {P:Program} {w:World} {H:Hp} {h h':Heap} {x e:Addr} {o':HO}
theorem eL.write(ok:eL P w H h) (mu:Mb (H x)) (he:e = x \/ H e = some (.own x)) (k:∀b u,b ≠ e -> h.get? b = some u -> h'.get? b = some u) (G9:∃u,h'.get? e = some u)
    (new:bQ P w (upd H x o') h' x o'):eL P w (upd H x o') h':=λb u q=>by
  have J6:∀c y,H c = some (.own y) -> c ≠ x:=λc y r z=>by subst z;rw [r]at mu;exact mu
  have OI:∀c xs,H c = some (.tup xs) -> c ≠ x:=λc xs r z=>by subst z;rw [r]at mu;exact mu
  by_cases hb:b = x
  · subst hb;rw [aW]at q;cases q;exact new
  · rw [az hb]at q
    by_cases C9:b = e
    · have q':H b = some (.own x):=by
        rcases he with z | z
        · exact absurd (C9.trans z) hb
        · rw [C9];exact z
      rw [q]at q';cases q';obtain⟨v,hv⟩:=G9;exact⟨v,by rw [C9];exact hv⟩
    · refine(ok b u q).jV (λc v hc r=>k c v ?_ r) (λc r=>by rw [az (J6 c b r)];exact r) (λc xs r=>by rw [az (OI c xs r)];exact r) λc o u r=>by rw [az (λz=>by subst z;rw [r]at mu;exact mu)];exact r
      rcases hc with rfl | hc
      · exact C9
      · rintro rfl
        rcases he with z | z
        · exact J6 c b hc z
        · rw [hc]at z;cases z;exact hb rfl
end
structure Un(fs ex:List Addr) (H H':Hp) (h h':Heap):Prop where
  keep:∀b o,h.get? b = some o -> H b = none -> b ∉ fs -> b ∉ ex -> h'.get? b = some o
  slot:∀b o,h.get? b = some o -> H b = none -> b ∈ fs -> b ∉ ex -> ∃sl,h'.get? b = some {o with slots:=sl}
  free:∀b o,h.get? b = some o -> H b = none -> b ∉ ex -> H' b = none
  there:∀b o,h.get? b = some o -> b ∉ ex -> ∃o',h'.get? b = some o'
  j6:∀b xs,H b = some (.tup xs) -> H' b = some (.tup xs)
  iZ:∀b o u,H b = some (.kj o u) -> H' b = some (.kj o u)
  j4:∀b ps,H b = some (.A6 ps) -> ∃more,H' b = some (.A6 (ps ++ more))
section
variable {fs Q0 ex xW:List Addr} {H H1 H2:Hp} {h h1 h2 h':Heap} {a x e:Addr} {o:HO}
theorem Un.any(u:Un fs ex H H1 h h1) {b:Addr} {ob:Obj} (q:h.get? b = some ob) (n:H b = none) (hx:b ∉ ex):∃sl,h1.get? b = some {ob with slots:=sl}:=by
  by_cases hb:b ∈ fs
  · exact u.slot b ob q n hb hx
  · exact⟨ob.slots,u.keep b ob q n hb hx⟩
theorem Un.kept(k:∀b u,h.get? b = some u -> h'.get? b = some u):Un fs ex H H h h':=
  ⟨λb ob q _ _ _=>k b ob q,λb ob q _ _ _=>⟨ob.slots,k b ob q⟩,λ_ _ _ n _=>n,λb ob q _=>⟨ob,k b ob q⟩,λ_ _ q=>q,λ_ _ _ q=>q,λ_ ps q=>⟨#[],by rw [q];simp⟩⟩
theorem Un.refl:Un fs ex H H h h:=Un.kept λ_ _ q=>q
theorem Un.laid(k:∀b u,h.get? b = some u -> h'.get? b = some u) (hp:h.objs.size <= a) (hn:H a = none):Un fs ex H (upd H a o) h h' where
  keep:=λb u q _ _ _=>k b u q
  slot:=λb u q _ _ _=>⟨u.slots,k b u q⟩
  free:=λb u q n _=>by rw [az (Nat.ne_of_lt (Nat.lt_of_lt_of_le (Heap.lt_size q) hp))];exact n
  there:=λb u q _=>⟨u,k b u q⟩
  j6:=λb xs q=>by rw [az (bX q hn)];exact q
  iZ:=λb u xs q=>by rw [az (bX q hn)];exact q
  j4:=λb ps q=>⟨#[],by rw [az (bX q hn),q];simp⟩
theorem Un.write(mu:Mb (H x)) (he:e = x \/ H e = some (.own x)) (k:∀b u,b ≠ e -> h.get? b = some u -> h'.get? b = some u) (G9:∃u,h'.get? e = some u):Un fs ex H (upd H x o) h h':=by
  have hx:∀b,H b = none -> b ≠ x:=λb n z=>by subst z;rw [n]at mu;exact mu
  have hb:∀b,H b = none -> b ≠ e:=λb n z=>by
    subst z;rcases he with r | r
    · exact hx b n r
    · rw [n]at r;cases r
  have hm:∀b u,H b = some u -> ¬Mb (some u) -> b ≠ x:=λb u q nm z=>by subst z;rw [q]at mu;exact nm mu
  refine⟨λb u q n _ _=>k b u (hb b n) q,λb u q n _ _=>⟨u.slots,k b u (hb b n) q⟩,λb u q n _=>by rw [az (hx b n)];exact n,λb u q _=>?_,
    λb xs q=>by rw [az (hm b _ q λz=>z)];exact q,λb u xs q=>by rw [az (hm b _ q λz=>z)];exact q,λb ps q=>⟨#[],by rw [az (hm b _ q λz=>z),q];simp⟩⟩
  by_cases C9:b = e
  · subst C9;exact G9
  · exact⟨u,k b u C9 q⟩
end
noncomputable def MQ(h:Heap) (H:Hp):List Addr:=(List.range h.objs.size).filter λa=>(H a).isSome
noncomputable def mh(h:Heap) (H:Hp):Heap:=PySem.W.hideAll h (MQ h H)
theorem sd(h:Heap) (H:Hp):(mh h H).objs.size = h.objs.size:=PySem.W.hideAll_size _ _
theorem vk{h:Heap} {H:Hp} {b:Addr} {o:Obj} (e:h.get? b = some o) (n:H b = none):(mh h H).get? b = some o:=
  PySem.W.hideAll_get _ e λhm=>by
    have q:(H b).isSome = true:=(List.mem_filter.mp hm).2;rw [n]at q;simp at q
theorem yG{h:Heap} {H:Hp} {b:Addr} {o:Obj} (e:(mh h H).get? b = some o):h.get? b = some o /\ H b = none:=by
  have e':h.get? b = some o:=PySem.W.of_hideAll (MQ h H) e;refine⟨e',?_⟩;cases q:H b with
  | none=>rfl
  | some x =>
    have hm:b ∈ MQ h H:=List.mem_filter.mpr ⟨List.mem_range.mpr (Heap.lt_size e'),by simp [q]⟩
    have z:(mh h H).get? b = none:=PySem.W.hideAll_none (MQ h H) hm;rw [z]at e;cases e
noncomputable def xI(g h:Heap) (L:Addr):List (Addr × Obj):=(List.range h.objs.size).filterMap λa=>if a = L \/ (g.get? a).isSome = true then none else(h.get? a).map λo=>(a,o)
noncomputable def rest(g h:Heap) (L d:Addr):List (Addr × Obj):=(xI g h L).filter λp=>decide (p.1 ≠ d)
end L2
namespace L2
open PySem PySem.Spec PyProof.Rows
structure Mod(K:PySem.W.Frag) (mg:Str -> Option Value) (base:Heap):Prop where
  DU:K.In base
  glob:base.Ns mainGlobals mg
  blt:∃mb,base.Ns builtinsNs mb /\ ∀x:Str,x ≠ "__name__" -> mb x = bootBuiltins x
  nolimit:base.NoLimit
structure Cx where
  prog:Program
  w:World
  K:PySem.W.Frag
  mg:Str -> Option Value
  base:Heap
  A:Around
  N:List Str
  bB:Shared
  eM:Hp
  env:Env
  outer:List Env
  stack:List Env
  ex:List Addr
  fn:Str -> Bool
  calm:Bool
  pn:List (Addr × Obj)
  xe:Value -> Shared -> Prop
noncomputable def gq(l:List Env):List Addr:=l.filterMap (·.frame)
noncomputable abbrev Cx.fs(X:Cx):List Addr:=gq X.outer
noncomputable def M5(sc:Scope) (x:Str):Prop:=sc.names.lookup x = some .local \/ sc.names.lookup x = some .cell \/ sc.names.lookup x = some .free
noncomputable def Loc(sc:Scope) (x:Str):Prop:=sc.names.lookup x = some .local \/ sc.names.lookup x = some .cell
noncomputable def Look(env:Env) (h:Heap) (m:Str -> Option Value) (x:Str) (u:Value):Prop:=
  (env.kindOf x = some .local /\ m x = some u) \/ ((env.kindOf x = some .cell \/ env.kindOf x = some .free) /\ ∃c,env.cells.lookup x = some c /\ h.IsCell c (some u))
structure Cx.Ok(X:Cx):Prop where
  mod:Mod X.K X.mg X.base
  kind:X.env.scope.kind = .function
  glob:X.env.globals = mainGlobals
  blt:X.env.builtins = builtinsNs
  above:X.bB.heap.objs.size <= X.env.locals
  inj:∀x y c,X.env.cells.lookup x = some c -> X.env.cells.lookup y = some c -> x = y
  has:∀x,(X.env.kindOf x = some .cell \/ X.env.kindOf x = some .free) -> ∃c,X.env.cells.lookup x = some c
  xM:∀x c,X.fn x = true -> X.env.cells.lookup x = some c -> X.bB.heap.objs.size <= c
  hd:X.calm = true -> X.A.handled = none
  frames:X.A.frames = some X.stack
  A3:X.stack = X.outer \/ (X.stack = X.env :: X.outer /\ X.env.frame = some X.env.locals)
  G8:∀b ∈ X.ex,b ≠ X.env.locals /\ ∀x c,X.env.cells.lookup x = some c -> c ≠ b
  bs:∀b o,X.base.get? b = some o -> X.bB.heap.get? b = some o /\ X.eM b = none
  rQ:X.base.objs.size <= X.bB.heap.objs.size
  mE:∀b o,X.base.get? b = some o -> b ∉ X.ex
  nN:∀b ∈ X.ex,b ∉ X.fs
  fI:X.bB.heap.FunFrames X.base X.outer
  uW:∀b ∈ X.fs,X.eM b = none
structure Inv(X:Cx) (pins:List (Addr × Obj)) (σ:List (Option V)) (H:Hp) (s:Shared):Prop where
  ok:X.Ok
  os:s.os = X.bB.os
  bare:AllBare s.gens
  base:Un X.fs X.ex X.eM H X.bB.heap s.heap
  loc:∃m,s.heap.Ns X.env.locals m /\ ∀(i:Nat) (x:Str) (v:V),X.N[i]? = some x -> σ[i]? = some (some v) -> M5 X.env.scope x -> ∃u,RelV v u /\ Look X.env s.heap m x u
  cell:∀x c,X.env.cells.lookup x = some c -> ∃v,s.heap.IsCell c v
  free:H X.env.locals = none
  cL:∀x c,X.env.cells.lookup x = some c -> H c = none
  pin:∀p ∈ X.pn ++ pins,s.heap.get? p.1 = some p.2 /\ H p.1 = none /\ p.1 ≠ X.env.locals /\ p.1 ∉ X.fs /\ ∀v,p.2.data ≠ .cell v
  bo:eL X.prog X.w H s.heap
  len:σ.length = X.N.length
section
variable {X:Cx} {pins:List (Addr × Obj)} {σ:List (Option V)} {H H':Hp} {s:Shared} {h':Heap}
theorem Cx.Ok.OG(ok:X.Ok) {b:Addr} {o:Obj} (e:X.base.get? b = some o):b ∉ X.fs:=λhb=>by
  have:=(ok.fI.mem hb).1;rw [e]at this;cases this
theorem Inv.bs(I:Inv X pins σ H s):∀b o,X.base.get? b = some o -> s.heap.get? b = some o /\ H b = none:=λb o e =>
  ⟨I.base.keep b o (I.ok.bs b o e).1 (I.ok.bs b o e).2 (I.ok.OG e) (I.ok.mE b o e),I.base.free b o (I.ok.bs b o e).1 (I.ok.bs b o e).2 (I.ok.mE b o e)⟩
theorem Inv.bk(I:Inv X pins σ H s):∀b o,X.base.get? b = some o -> s.heap.get? b = some o:=λb o e=>(I.bs b o e).1
theorem Inv.mod(I:Inv X pins σ H s):Mod X.K X.mg X.base:=I.ok.mod
theorem Inv.i7(I:Inv X pins σ H s):X.K.In s.heap:=I.ok.mod.DU.keeps I.bk
theorem Inv.lt(I:Inv X pins σ H s):X.env.locals<s.heap.objs.size:=let ⟨_,hn,_⟩:=I.loc;hn.lt
theorem Inv.sz(I:Inv X pins σ H s):X.bB.heap.objs.size <= s.heap.objs.size:=Nat.le_trans I.ok.above (Nat.le_of_lt I.lt)
theorem Inv.OH(I:Inv X pins σ H s) {a:Addr} (h:s.heap.objs.size <= a):a ∉ X.fs:=λhb=>by
  obtain⟨_,o,ho,_⟩:=I.ok.fI.mem hb;exact absurd (Nat.lt_of_lt_of_le (Heap.lt_size ho) (Nat.le_trans I.sz h)) (Nat.lt_irrefl _)
theorem Inv.ud(I:Inv X pins σ H s):∀x c,X.env.cells.lookup x = some c -> c ≠ X.env.locals:=λx c e z=>by
  obtain⟨v,o,ho,hd⟩:=I.cell x c e;obtain⟨m,⟨o',es,ep,vn,td,_⟩,_⟩:=I.loc;rw [z,vn]at ho;cases ho;rw [td]at hd;cases hd
theorem Inv.fI(I:Inv X pins σ H s):s.heap.FunFrames X.base X.outer:=by
  have all:∀(l:List Env),(∀b ∈ gq l,b ∈ X.fs) -> X.bB.heap.FunFrames X.base l -> s.heap.FunFrames X.base l:=by
    intro l
    induction l with
    | nil=>intro _ _;trivial
    | cons env r ih =>
      intro hs hl;obtain⟨hk,⟨L,o,hf,hn,ho,hd⟩,hr⟩:=hl;have hL:L ∈ X.fs:=hs L (by unfold gq;rw [List.filterMap_cons,hf];exact List.mem_cons_self)
      obtain⟨sl,e⟩:=I.base.slot L o ho (I.ok.uW L hL) hL λz=>I.ok.nN L z hL;exact⟨hk,⟨L,_,hf,hn,e,hd⟩,ih (λb hb=>hs b (by unfold gq;rw [List.filterMap_cons,hf];exact List.mem_cons_of_mem _ hb)) hr⟩
  exact all X.outer (λ_ hb=>hb) I.ok.fI
theorem Inv.stack(I:Inv X pins σ H s):s.heap.FunFrames X.base X.stack:=by
  rcases I.ok.A3 with e | ⟨e,hf⟩
  · rw [e];exact I.fI
  · rw [e]
    obtain⟨m,hn,_⟩:=I.loc;refine .cons (by rw [I.ok.kind];decide) hf hn ?_ I.fI
    exact Heap.get?_none_of_le (Nat.le_trans I.ok.rQ I.ok.above)
theorem Inv.ni(I:Inv X pins σ H s):∀b ∈ gq X.stack,b ∈ X.env.locals :: X.fs:=λb hb=>by
  rcases I.ok.A3 with e | ⟨e,hf⟩
  · rw [e]at hb;exact List.mem_cons_of_mem _ hb
  · rw [e]at hb
    unfold gq at hb;rw [List.filterMap_cons,hf]at hb;exact hb
theorem Inv.hG(I:Inv X pins σ H s):∀b ∈ gq X.stack,H b = none:=λb hb=>by
  rcases List.mem_cons.mp (I.ni b hb)with e | hb
  · rw [e];exact I.free
  · obtain⟨_,o,ho,_⟩:=I.ok.fI.mem hb
    exact I.base.free b o ho (I.ok.uW b hb) λz=>I.ok.nN b z hb
theorem Inv.step{g':Array GenState} {t':Nat} {d':Drawn} {ch:List Addr} (I:Inv X pins σ H s)
    (sZ:∀b ∈ ch,(b ∈ X.ex \/ X.bB.heap.get? b = none) /\ b ≠ X.env.locals /\ (∀x c,X.env.cells.lookup x = some c -> c ≠ b) /\ ∀p ∈ X.pn ++ pins,p.1 ≠ b)
    (keep:∀b o,b ≠ X.env.locals -> b ∉ X.fs -> b ∉ ch -> s.heap.get? b = some o -> H b = none -> h'.get? b = some o)
    (slot:∀b o,b ≠ X.env.locals -> b ∈ X.fs -> b ∉ ch -> s.heap.get? b = some o -> H b = none -> ∃sl,h'.get? b = some {o with slots:=sl}) (free:∀b o,b ∉ ch -> s.heap.get? b = some o -> H b = none -> H' b = none)
    (there:∀b o,b ∉ ch -> s.heap.get? b = some o -> ∃o',h'.get? b = some o')
    (j6:∀b xs,H b = some (.tup xs) -> H' b = some (.tup xs)) (iZ:∀b o u,H b = some (.kj o u) -> H' b = some (.kj o u)) (j4:∀b ps,H b = some (.A6 ps) -> ∃more,H' b = some (.A6 (ps ++ more)))
    (ns:∀m,s.heap.Ns X.env.locals m -> h'.Ns X.env.locals m) (bo:eL X.prog X.w H' h') (hg:AllBare g'):
    Inv X pins σ H' {s with heap:=h',gens:=g',drawn:=d',toks:=t'}:=by
  have Qq:∀b o,X.bB.heap.get? b = some o -> b ≠ X.env.locals:=λb o e=>Nat.ne_of_lt (Nat.lt_of_lt_of_le (Heap.lt_size e) I.ok.above);have ME:∀b o,X.bB.heap.get? b = some o -> b ∉ X.ex -> b ∉ ch:=λb o e hx hb=>by
    rcases(sZ b hb).1 with z | z
    · exact hx z
    · rw [e]at z;cases z
  have cellK:∀x c,X.env.cells.lookup x = some c -> ∀v,s.heap.IsCell c v -> h'.IsCell c v:=λx c e v ⟨o,ho,hd⟩=>by
    have vJ:c ∉ ch:=λz=>(sZ c z).2.2.1 x c e rfl
    by_cases hc:c ∈ X.fs
    · obtain⟨sl,q⟩:=slot c o (I.ud x c e) hc vJ ho (I.cL x c e)
      exact⟨_,q,hd⟩
    · exact⟨o,keep c o (I.ud x c e) hc vJ ho (I.cL x c e),hd⟩
  refine⟨I.ok,I.os,hg,⟨λb o e n hb hx=>?_,λb o e n hb hx=>?_,λb o e n hx=>?_,λb o e hx=>?_,λb xs e=>j6 b xs (I.base.j6 b xs e),λb o xs e=>iZ b o xs (I.base.iZ b o xs e),λb ps e=>?_⟩,?_,λx c e=>?_,?_,λx c e=>?_,λp hp=>?_,bo,I.len⟩
  · exact keep b o (Qq b o e) hb (ME b o e hx) (I.base.keep b o e n hb hx) (I.base.free b o e n hx)
  · obtain⟨sl,e1⟩:=I.base.slot b o e n hb hx
    obtain⟨Qw,e2⟩:=slot b _ (Qq b o e) hb (ME b o e hx) e1 (I.base.free b o e n hx);exact⟨Qw,e2⟩
  · obtain⟨o',e1⟩:=I.base.there b o e hx
    exact free b o' (ME b o e hx) e1 (I.base.free b o e n hx)
  · obtain⟨o',e1⟩:=I.base.there b o e hx
    exact there b o' (ME b o e hx) e1
  · obtain⟨m1,e1⟩:=I.base.j4 b ps e
    obtain⟨m2,e2⟩:=j4 b _ e1;exact⟨m1 ++ m2,by rw [e2,Array.append_assoc]⟩
  · obtain⟨m,hn,hl⟩:=I.loc
    refine⟨m,ns m hn,λi x v e1 e2 e3=>?_⟩;obtain⟨u,r,l⟩:=hl i x v e1 e2 e3;refine⟨u,r,?_⟩;rcases l with l | ⟨k,c,e,z⟩
    · exact .inl l
    · exact .inr ⟨k,c,e,cellK x c e _ z⟩
  · obtain⟨v,z⟩:=I.cell x c e
    exact⟨v,cellK x c e v z⟩
  · obtain⟨m,⟨o,_,_,ho,_⟩,_⟩:=I.loc
    exact free _ o (λz=>(sZ _ z).2.1 rfl) ho I.free
  · obtain⟨v,o,ho,hd⟩:=I.cell x c e
    exact free c o (λz=>(sZ c z).2.2.1 x c e rfl) ho (I.cL x c e)
  · obtain⟨e,n,ne,nf,d⟩:=I.pin p hp
    have vJ:p.1 ∉ ch:=λz=>(sZ p.1 z).2.2.2 p hp rfl;exact⟨keep p.1 p.2 ne nf vJ e n,free p.1 p.2 vJ e n,ne,nf,d⟩
theorem Inv.un{t':Nat} (I:Inv X pins σ H s) (u:Un X.fs [] H H' s.heap h') (bo:eL X.prog X.w H' h'):Inv X pins σ H' {s with heap:=h',toks:=t'}:=by
  obtain⟨m,⟨o,es,ep,ho,r⟩,_⟩:=id I.loc;obtain⟨sl,hL⟩:=u.any ho I.free (by simp)
  exact I.step (g':=s.gens) (d':=s.drawn) (ch:=[]) (λ_ z=>nomatch z) (λb o _ hb _ e n=>u.keep b o e n hb (by simp)) (λb o _ hb _ e n=>u.slot b o e n hb (by simp)) (λb o _ e n=>u.free b o e n (by simp)) (λb o _ e=>u.there b o e (by simp)) u.j6 u.iZ u.j4 (λm' hm=>by
    obtain⟨o',Cy,Np,vn,r'⟩:=hm;rw [ho]at vn;cases vn;exact⟨_,Cy,Np,hL,r'⟩) bo I.bare
theorem Inv.call{g':Array GenState} {t':Nat} {d':Drawn} {ch:List Addr} (I:Inv X pins σ H s) (u:Un (gq X.stack) ch H H' s.heap h') (bo:eL X.prog X.w H' h') (hg:AllBare g')
    (sZ:∀b ∈ ch,(b ∈ X.ex \/ X.bB.heap.get? b = none) /\ b ≠ X.env.locals /\ (∀x c,X.env.cells.lookup x = some c -> c ≠ b) /\ ∀p ∈ X.pn ++ pins,p.1 ≠ b):
    Inv X pins σ H' {s with heap:=h',gens:=g',drawn:=d',toks:=t'}:=by
  obtain⟨m,⟨o,es,ep,ho,r⟩,_⟩:=id I.loc;obtain⟨sl,hL⟩:=u.any ho I.free λz=>(sZ _ z).2.1 rfl;exact I.step (ch:=ch) sZ (λb o hL hb hc e n=>u.keep b o e n (λz=>(List.mem_cons.mp (I.ni b z)).elim hL hb) hc) (λb o _ _ hc e n=>u.any e n hc) (λb o hc e n=>u.free b o e n hc) (λb o hc e=>u.there b o e hc) u.j6 u.iZ u.j4 (λm' hm=>by
    obtain⟨o',Cy,Np,vn,r'⟩:=hm;rw [ho]at vn;cases vn;exact⟨_,Cy,Np,hL,r'⟩) bo hg
theorem Inv.turned{t':Nat} {it:Addr} (I:Inv X pins σ H s) (k:∀b o,b ≠ it -> s.heap.get? b = some o -> h'.get? b = some o) (hn:H it = none) (hL:it ≠ X.env.locals)
    (h1:it ∈ X.ex \/ X.bB.heap.objs.size <= it) (h2:∀x c,X.env.cells.lookup x = some c -> c ≠ it) (h3:∀p ∈ X.pn ++ pins,p.1 ≠ it):Inv X pins σ H {s with heap:=h',toks:=t'}:=by
  have Qr:∀b u,H b = some u -> b ≠ it:=λb u e z=>by rw [z,hn]at e;cases e
  refine I.step (g':=s.gens) (d':=s.drawn) (ch:=[it]) (λb hb=>?_) (λb o _ _ hc e _=>k b o (λz=>hc (by simp [z])) e) (λb o _ _ hc e _=>⟨o.slots,k b o (λz=>hc (by simp [z])) e⟩) (λ_ _ _ _ n=>n)
    (λb o hc e=>⟨o,k b o (λz=>hc (by simp [z])) e⟩) (λ_ _ e=>e) (λ_ _ _ e=>e) (λb ps e=>⟨#[],by rw [e];simp⟩) (λm hm=>?_) (λb u e=>?_) I.bare
  · have e:b = it:=by simpa using hb
    subst e;exact⟨h1.imp id λz=>Heap.get?_none_of_le z,hL,h2,h3⟩
  · obtain⟨o,es,ep,ho,r⟩:=hm
    exact⟨o,es,ep,k _ o (Ne.symm hL) ho,r⟩
  · refine(I.bo b u e).jV (λc v hc q=>k c v ?_ q) (λ_ q=>q) λ_ _ q=>q
    rcases hc with z | z
    · rw [z];exact Qr b u e
    · exact Qr c _ z
theorem Inv.tok(I:Inv X pins σ H s) (t:Nat):Inv X pins σ H {s with toks:=t}:=I.un (h':=s.heap) (t':=t) Un.refl I.bo
theorem Inv.kept{t':Nat} (I:Inv X pins σ H s) (k:∀b u,s.heap.get? b = some u -> h'.get? b = some u):Inv X pins σ H {s with heap:=h',toks:=t'}:=I.un (Un.kept k) (I.bo.kept k)
theorem Inv.laid{a:Addr} {o:HO} {t':Nat} (I:Inv X pins σ H s) (k:∀b u,s.heap.get? b = some u -> h'.get? b = some u) (hp:s.heap.objs.size <= a) (new:bQ X.prog X.w (upd H a o) h' a o):
    Inv X pins σ (upd H a o) {s with heap:=h',toks:=t'}:=I.un (Un.laid k hp (I.bo.fresh hp)) (I.bo.laid k hp new)
theorem Inv.write{x e:Addr} {o:HO} {t':Nat} (I:Inv X pins σ H s) (mu:Mb (H x)) (he:e = x \/ H e = some (.own x)) (k:∀b u,b ≠ e -> s.heap.get? b = some u -> h'.get? b = some u) (G9:∃u,h'.get? e = some u)
    (new:bQ X.prog X.w (upd H x o) h' x o):Inv X pins σ (upd H x o) {s with heap:=h',toks:=t'}:=I.un (Un.write mu he k G9) (I.bo.write mu he k G9 new)
theorem Inv.qT{qS:List (Addr × Obj)} (I:Inv X pins σ H s) (h:∀p ∈ qS,s.heap.get? p.1 = some p.2 /\ H p.1 = none /\ p.1 ≠ X.env.locals /\ p.1 ∉ X.fs /\ ∀v,p.2.data ≠ .cell v):Inv X qS σ H s:=
  ⟨I.ok,I.os,I.bare,I.base,I.loc,I.cell,I.free,I.cL,λp hp=>(List.mem_append.mp hp).elim (λz=>I.pin p (List.mem_append_left _ z)) (h p),I.bo,I.len⟩
theorem jI{N:List Str} (hN:N.Nodup) {i j:Nat} {x:Str} (a:N[i]? = some x) (b:N[j]? = some x):i = j:=by
  obtain⟨h1,e1⟩:=List.getElem?_eq_some_iff.mp a;obtain⟨h2,e2⟩:=List.getElem?_eq_some_iff.mp b;exact(List.getElem_inj hN).mp (e1.trans e2.symm)
theorem sM{M:Model} {A:Around} {E:Value -> Shared -> Prop} {i:Nat} {x:Str} {v:V} {u:Value} {Q:Unit -> Shared -> Prop} (I:Inv X pins σ H s) (hN:X.N.Nodup) (hi:X.N[i]? = some x) (hx:Loc X.env.scope x) (r:RelV v u)
    (h:∀s',Inv X pins (σ.set i (some v)) H s' -> (∃a,Heap.SameBut a s.heap s'.heap /\ (a = X.env.locals \/ X.env.cells.lookup x = some a)) -> Q () s') (hf:X.fn x = true \/ X.env.scope.names.lookup x = some .local:=by first | exact .inl rfl | exact .inr rfl | assumption):wpAny M A (storeName X.env x u) Q E s:=by
  obtain⟨m,hn,hl⟩:=id I.loc;have vf:(X.env.scope.kind == .class || (X.env.scope.kind == .module && X.env.locals != X.env.globals)) = false:=by rw [I.ok.kind];rfl
  have Jq:i<σ.length:=by rw [I.len];exact(List.getElem?_eq_some_iff.mp hi).1
  have ud:=I.ud;have tracked:∀ {a:Addr} {h':Heap},(∃o,s.heap.get? a = some o /\ H a = none) -> Heap.SameBut a s.heap h' -> eL X.prog X.w H h':=λ{a h'} ha hs b ob e=>by
    obtain⟨_,_,qy⟩:=ha;refine(I.bo b ob e).jV (λc w' hc q=>(hs.2 c ?_).trans q) (λ_ q=>q) λ_ _ q=>q;rintro rfl;rcases hc with rfl | hc
    · rw [qy]at e;cases e
    · rw [qy]at hc;cases hc
  rcases hx with hk | hk
  · refine wpAny_storeName_local hk hn (λh' NY hs=>?_) vf
    obtain⟨oL,_,_,PN,_⟩:=id hn;refine h _ ⟨I.ok,I.os,I.bare,⟨λb o e n hb hx=>?_,λb o e n hb hx=>?_,I.base.free,λb o e hx=>?_,I.base.j6,I.base.iZ,I.base.j4⟩,⟨_,NY,λj y v' e1 e2 e3=>?_⟩,λy c e=>?_,I.free,I.cL,λp hp=>?_,tracked ⟨oL,PN,I.free⟩ hs,by simpa using I.len⟩ ⟨_,hs,.inl rfl⟩
    · exact(hs.2 b (Nat.ne_of_lt (Nat.lt_of_lt_of_le (Heap.lt_size e) I.ok.above))).trans (I.base.keep b o e n hb hx)
    · obtain⟨sl,e1⟩:=I.base.slot b o e n hb hx
      exact⟨sl,(hs.2 b (Nat.ne_of_lt (Nat.lt_of_lt_of_le (Heap.lt_size e) I.ok.above))).trans e1⟩
    · obtain⟨o',e1⟩:=I.base.there b o e hx
      exact⟨o',(hs.2 b (Nat.ne_of_lt (Nat.lt_of_lt_of_le (Heap.lt_size e) I.ok.above))).trans e1⟩
    · by_cases hj:j = i
      · subst hj
        rw [hi]at e1;cases e1;rw [List.getElem?_set_self Jq]at e2;cases e2;exact⟨u,r,.inl ⟨hk,by simp⟩⟩
      · rw [List.getElem?_set_ne (Ne.symm hj)]at e2
        obtain⟨u',r',q⟩:=hl j y v' e1 e2 e3;refine⟨u',r',?_⟩;rcases q with⟨k,e⟩ | ⟨k,c,e,z⟩
        · refine .inl ⟨k,?_⟩
          have:y ≠ x:=λe=>hj (jI hN e1 (e ▸ hi));simp [this,e]
        · exact .inr ⟨k,c,e,z.sameBut hs (ud y c e)⟩
    · obtain⟨w',z⟩:=I.cell y c e
      exact⟨w',z.sameBut hs (ud y c e)⟩
    · obtain⟨e,n,ne,nf,d⟩:=I.pin p hp
      exact⟨(hs.2 p.1 ne).trans e,n,ne,nf,d⟩
  · have NR:X.fn x = true:=by
      rcases hf with z | z
      · exact z
      · rw [z]at hk;cases hk
    obtain⟨c,hc⟩:=I.ok.has x (.inl hk);obtain⟨w',z⟩:=I.cell x c hc;refine wpAny_storeName_cell I.ok.kind hk hc z (λh' Dc hs=>?_);obtain⟨oc,PQ,N9⟩:=id z;refine h {s with heap:=h'} ⟨I.ok,I.os,I.bare,⟨λb o e n hb hx=>?_,λb o e n hb hx=>?_,I.base.free,λb o e hx=>?_,I.base.j6,I.base.iZ,I.base.j4⟩,⟨m,hn.sameBut hs (Ne.symm (ud x c hc)),λj y v' e1 e2 e3=>?_⟩,λy c' e=>?_,I.free,I.cL,λp hp=>?_,tracked ⟨oc,PQ,I.cL x c hc⟩ hs,by simpa using I.len⟩ ⟨c,hs,.inr hc⟩
    · exact(hs.2 b (Nat.ne_of_lt (Nat.lt_of_lt_of_le (Heap.lt_size e) (I.ok.xM x c NR hc)))).trans (I.base.keep b o e n hb hx)
    · obtain⟨sl,e1⟩:=I.base.slot b o e n hb hx
      exact⟨sl,(hs.2 b (Nat.ne_of_lt (Nat.lt_of_lt_of_le (Heap.lt_size e) (I.ok.xM x c NR hc)))).trans e1⟩
    · obtain⟨o',e1⟩:=I.base.there b o e hx
      exact⟨o',(hs.2 b (Nat.ne_of_lt (Nat.lt_of_lt_of_le (Heap.lt_size e) (I.ok.xM x c NR hc)))).trans e1⟩
    · by_cases hj:j = i
      · subst hj
        rw [hi]at e1;cases e1;rw [List.getElem?_set_self Jq]at e2;cases e2;exact⟨u,r,.inr ⟨.inl hk,c,hc,Dc⟩⟩
      · rw [List.getElem?_set_ne (Ne.symm hj)]at e2
        obtain⟨u',r',q⟩:=hl j y v' e1 e2 e3;refine⟨u',r',?_⟩;rcases q with q | ⟨k,c',e,z'⟩
        · exact .inl q
        · refine .inr ⟨k,c',e,z'.sameBut hs ?_⟩
          rintro rfl;exact hj (jI hN e1 (I.ok.inj _ _ _ e hc ▸ hi))
    · by_cases Mp:c' = c
      · subst Mp;exact⟨_,Dc⟩
      · obtain⟨w2,z2⟩:=I.cell y c' e
        exact⟨w2,z2.sameBut hs Mp⟩
    · obtain⟨e,n,ne,nf,d⟩:=I.pin p hp
      refine⟨(hs.2 p.1 ?_).trans e,n,ne,nf,d⟩;intro q;rw [q,PQ]at e;have q':oc = p.2:=Option.some.inj e;exact d w' (by rw [<- q'];exact N9)
theorem hR{M:Model} {A:Around} {E:Value -> Shared -> Prop} {i:Nat} {x:Str} {v:V} {u:Value} {Q:Unit -> Shared -> Prop} (I:Inv X pins σ H s) (hN:X.N.Nodup) (hi:X.N[i]? = some x) (hx:Loc X.env.scope x) (r:RelV v u)
    (h:∀s',Inv X pins (σ.set i (some v)) H s' -> Q () s') (hf:X.fn x = true \/ X.env.scope.names.lookup x = some .local:=by first | exact .inl rfl | exact .inr rfl | assumption):wpAny M A (storeName X.env x u) Q E s:=
  sM I hN hi hx r (λs' I' _=>h s' I') hf
theorem Inv.nE{s':Shared} {ch:List Addr} (I:Inv X pins σ H s) (ho:s'.os = s.os) (u:Un (gq X.stack) ch H H' s.heap s'.heap) (bo:eL X.prog X.w H' s'.heap) (hg:AllBare s'.gens)
    (sZ:∀b ∈ ch,(b ∈ X.ex \/ X.bB.heap.get? b = none) /\ b ≠ X.env.locals /\ (∀x c,X.env.cells.lookup x = some c -> c ≠ b) /\ ∀p ∈ X.pn ++ pins,p.1 ≠ b):Inv X pins σ H' s':=by
  obtain⟨h',g',d',t',o'⟩:=s';have e:o' = s.os:=ho;subst e;exact I.call (g':=g') (t':=t') (d':=d') u bo hg sZ
end
noncomputable abbrev XK:=Value -> Option Addr -> Hp -> Prop
noncomputable abbrev St:=List (Option V)
noncomputable abbrev VK:=V -> Hp -> Prop
noncomputable abbrev TE:=St -> Hp -> VK -> Prop
noncomputable abbrev TT:=St -> Hp -> (Bool -> Hp -> Prop) -> Prop
noncomputable abbrev TA:=St -> Hp -> (List V -> Hp -> Prop) -> Prop
structure Ends where
  nx:St -> Hp -> Prop
  rt:VK
  bk:St -> Hp -> Prop:=λ_ _=>False
  ct:St -> Hp -> Prop:=λ_ _=>False
noncomputable abbrev TS:=Ends -> St -> Hp -> Prop
noncomputable def EP(X:Cx) (pins:List (Addr × Obj)) (σ:St) (Q:VK) (u:Value) (s':Shared):Prop:=∃v H',Inv X pins σ H' s' /\ RelV v u /\ Q v H'
noncomputable def TP(X:Cx) (pins:List (Addr × Obj)) (σ:St) (Q:Bool -> Hp -> Prop) (b:Bool) (s':Shared):Prop:=∃H',Inv X pins σ H' s' /\ Q b H'
noncomputable def AP(X:Cx) (pins:List (Addr × Obj)) (σ:St) (Q:List V -> Hp -> Prop) (us:List Value) (s':Shared):Prop:=∃vs H',Inv X pins σ H' s' /\ Vals vs us /\ Q vs H'
noncomputable def SP(X:Cx) (pins:List (Addr × Obj)) (D:Ends) (f:Flow) (s':Shared):Prop:=
  match f with
  | .next=>∃bO H',Inv X pins bO H' s' /\ D.nx bO H'
  | .brk=>∃bO H',Inv X pins bO H' s' /\ D.bk bO H'
  | .cont=>∃bO H',Inv X pins bO H' s' /\ D.ct bO H'
  | .ret u=>∃v bO H',Inv X pins bO H' s' /\ RelV v u /\ D.rt v H'
noncomputable def PE(X:Cx) (e:Expr) (t:TE):Prop:=
  ∀(pins:List (Addr × Obj)) (s:Shared) (σ:St) (H:Hp) (Q:VK),Inv X pins σ H s -> t σ H Q -> wpAny (model X.prog X.w) X.A (eval e X.env) (EP X pins σ Q) X.xe s
noncomputable def PT(X:Cx) (e:Expr) (t:TT):Prop:=
  ∀(pins:List (Addr × Obj)) (s:Shared) (σ:St) (H:Hp) (Q:Bool -> Hp -> Prop),Inv X pins σ H s -> t σ H Q -> wpAny (model X.prog X.w) X.A (isTrue e X.env (eval e X.env)) (TP X pins σ Q) X.xe s
noncomputable def PW(X:Cx) (e:Expr) (t:TT):Prop:=
  ∀(whole:Sem Value) (pins:List (Addr × Obj)) (s:Shared) (σ:St) (H:Hp) (Q:Bool -> Hp -> Prop),Inv X pins σ H s -> t σ H Q -> wpAny (model X.prog X.w) X.A (isTrue e X.env whole) (TP X pins σ Q) X.xe s
theorem PW.pt{X:Cx} {e:Expr} {t:TT} (h:PW X e t):PT X e t:=h _
noncomputable def PA(X:Cx) (es:List Expr) (t:TA):Prop:=
  ∀(pos:Pos) (pins:List (Addr × Obj)) (s:Shared) (σ:St) (H:Hp) (Q:List V -> Hp -> Prop),Inv X pins σ H s -> t σ H Q -> wpAny (model X.prog X.w) X.A (spliced (backTo pos (starEach es X.env))) (AP X pins σ Q) X.xe s
noncomputable def PS(X:Cx) (st:Stmt) (t:TS):Prop:=
  ∀(pins:List (Addr × Obj)) (s:Shared) (σ:St) (H:Hp) (D:Ends),Inv X pins σ H s -> t D σ H -> wpAny (model X.prog X.w) X.A (exec st X.env) (SP X pins D) X.xe s
noncomputable def nu(X:Cx) (st:List Stmt) (t:TS):Prop:=
  ∀(pins:List (Addr × Obj)) (s:Shared) (σ:St) (H:Hp) (D:Ends),Inv X pins σ H s -> t D σ H -> wpAny (model X.prog X.w) X.A (execs st X.env) (SP X pins D) X.xe s
theorem cp{α:Type} {t:Sem α} {Q Q':α -> Shared -> Prop} {M:Model} {A:Around} {E:Value -> Shared -> Prop} {s:Shared} (h:wpAny M A t Q E s) (hQ:∀a s,Q a s -> Q' a s):wpAny M A t Q' E s:=wpAny_mono h hQ λ_ _ x=>x
end L2
namespace L2
open PySem PySem.Spec PyProof.Rows
section
variable {X:Cx}
noncomputable def Pg(i:Nat):TE:=λσ H Q=>∃v,σ[i]? = some (some v) /\ Q v H
noncomputable def tC(v:V):TE:=λ_ H Q=>Q v H
theorem Fh{i:Nat} {x:Str} {pos:Pos} (hN:X.N[i]? = some x) (hv:M5 X.env.scope x) (hd:(x == ("__debug__":Str)) = false:=by decide) (jc:(x == ("__classdict__":Str)) = false:=by decide):PE X (.Name x pos) (Pg i):=by
  intro pins s σ H Q I h;obtain⟨v,e,h⟩:=h;obtain⟨m,hn,hl⟩:=I.loc;obtain⟨u,r,l⟩:=hl i x v hN e hv;have fin:EP X pins σ Q u s:=⟨v,H,I,r,h⟩;rcases l with⟨hk,hm⟩ | ⟨hk,c,hc,qx⟩
  · exact wpAny_Name (wpAny_loadName_local I.ok.kind hk hn hm fin) hd
  · rcases hk with hk | hk
    · exact wpAny_Name (wpAny_loadName_cell I.ok.kind hk hc qx fin) hd
    · exact wpAny_Name (wpAny_loadName_free I.ok.kind hk hc qx fin jc) hd
theorem Fb{i j pos}:PE X (.Constant (.int i) j pos) (tC (.int i)):=λ_ _ _ H _ I h=>wpAny_Constant_int ⟨.int i,H,I.tok _,⟨_,rfl⟩,h⟩
theorem KI{b j pos}:PE X (.Constant (.bool b) j pos) (tC (.bl b)):=λ_ _ _ H _ I h=>Constant_bool ⟨.bl b,H,I,rfl,h⟩
theorem Fd{j pos}:PE X (.Constant .none j pos) (tC .bt):=λ_ _ _ H _ I h=>Constant_none ⟨.bt,H,I,rfl,h⟩
theorem Fg{x j pos}:PE X (.Constant (.str x) j pos) (tC (.str x)):=λ_ _ _ H _ I h=>Calls.Constant_str ⟨.str x,H,I.tok _,⟨_,rfl⟩,h⟩
noncomputable def Gl(X:Cx) (x:Str):Prop:=X.env.kindOf x = some .globalImplicit
theorem fz{E:Value -> Shared -> Prop} {pins:List (Addr × Obj)} {s:Shared} {σ:St} {H:Hp} {x:Str} {u:Value} {pos:Pos} {Q:Value -> Shared -> Prop} (I:Inv X pins σ H s) (hg:Gl X x) (hm:X.mg x = some u) (h:Q u s)
    (hd:(x == ("__debug__":Str)) = false:=by decide):wpAny (model X.prog X.w) X.A (eval (.Name x pos) X.env) Q E s:=
  Calls.Name_function_global I.ok.kind hg (Calls.loadGlobal_global (by rw [I.ok.glob];exact I.mod.glob.keeps I.bk) hm h) hd
theorem iq{E:Value -> Shared -> Prop} {pins:List (Addr × Obj)} {s:Shared} {σ:St} {H:Hp} {x:Str} {u:Value} {pos:Pos} {Q:Value -> Shared -> Prop} (I:Inv X pins σ H s) (hg:Gl X x) (hm:X.mg x = none) (hv:bootBuiltins x = some u) (h:Q u s)
    (hn:x ≠ "__name__":=by decide) (hd:(x == ("__debug__":Str)) = false:=by decide):wpAny (model X.prog X.w) X.A (eval (.Name x pos) X.env) Q E s:=by
  obtain⟨mb,h1,h2⟩:=I.mod.blt;exact Calls.Name_function_global I.ok.kind hg (Calls.loadGlobal_builtin (by rw [I.ok.glob];exact I.mod.glob.keeps I.bk) hm (by rw [I.ok.blt];exact h1.keeps I.bk) ((h2 x hn).trans hv) h) hd
theorem qR{x:Str} {v:V} {u:Value} {pos:Pos} (hg:Gl X x) (hm:X.mg x = some u) (r:RelV v u) (hd:(x == ("__debug__":Str)) = false:=by decide):PE X (.Name x pos) (tC v):=
  λ_ _ _ H _ I h=>fz I hg hm ⟨v,H,I,r,h⟩ hd
theorem je{x:Str} {v:V} {u:Value} {pos:Pos} (hg:Gl X x) (hm:X.mg x = none) (hv:bootBuiltins x = some u) (r:RelV v u) (hn:x ≠ "__name__":=by decide) (hd:(x == ("__debug__":Str)) = false:=by decide):PE X (.Name x pos) (tC v):=
  λ_ _ _ H _ I h=>iq I hg hm hv ⟨v,H,I,r,h⟩ hn hd
variable {a b:Expr} {ta tb:TE} {pos:Pos}
variable {tA MO:TT} {rest:List Expr}
noncomputable def O2(t u:TT):TT:=λσ H Q=>t σ H λc H1=>if c = true then u σ H1 Q else Q false H1
noncomputable def SR(t u:TT):TT:=λσ H Q=>t σ H λc H1=>if c = true then Q true H1 else u σ H1 Q
noncomputable def O7(t:TT):TT:=λσ H Q=>t σ H λc H1=>Q (!c) H1
theorem pw_and1(ha:PT X a tA):PW X (.BoolOp .And [a] pos) tA:=by
  intro wh pins s σ H Q I h;refine isTrue_and (cp (ha pins s σ H Q I h) λc s1 e=>?_);cases c with
  | true=>exact isTrue_and_nil e
  | false=>exact e
theorem pw_or1(ha:PT X a tA):PW X (.BoolOp .Or [a] pos) tA:=by
  intro wh pins s σ H Q I h;refine isTrue_or (cp (ha pins s σ H Q I h) λc s1 e=>?_);cases c with
  | false=>exact isTrue_or_nil e
  | true=>exact e
theorem pw_and(ha:PT X a tA) (hb:PW X (.BoolOp .And (b :: rest) pos) MO):PW X (.BoolOp .And (a :: b :: rest) pos) (O2 tA MO):=by
  intro wh pins s σ H Q I h;refine isTrue_and (cp (ha pins s σ H _ I h) λc s1 ⟨H1,I1,q1⟩=>?_);cases c with
  | true=>exact hb wh pins s1 σ H1 Q I1 q1
  | false=>exact⟨H1,I1,q1⟩
theorem pw_or(ha:PT X a tA) (hb:PW X (.BoolOp .Or (b :: rest) pos) MO):PW X (.BoolOp .Or (a :: b :: rest) pos) (SR tA MO):=by
  intro wh pins s σ H Q I h;refine isTrue_or (cp (ha pins s σ H _ I h) λc s1 ⟨H1,I1,q1⟩=>?_);cases c with
  | true=>exact⟨H1,I1,q1⟩
  | false=>exact hb wh pins s1 σ H1 Q I1 q1
theorem FJ(ha:PT X a tA):PT X (.UnaryOp .Not a pos) (O7 tA):=by
  intro pins s σ H Q I h;exact isTrue_not (ha pins s σ H (λc H1=>Q (!c) H1) I h)
noncomputable def LR(ta tb:TE):TE:=λσ H Q=>ta σ H λx H1=>∃c,x = .bl c /\ if c = true then tb σ H1 Q else Q (.bl false) H1
noncomputable def LX(ta:TE):TE:=λσ H Q=>ta σ H λx H1=>∃c,x = .bl c /\ Q (.bl (!c)) H1
theorem Ff{op} {t:TE} (h:PE X a t):PE X (.BoolOp op [a] pos) t:=λpins s σ H Q I hw=>BoolOp_one (h pins s σ H Q I hw)
theorem E9(ha:PE X a ta) (hb:PE X (.BoolOp .And (b :: rest) pos) tb):PE X (.BoolOp .And (a :: b :: rest) pos) (LR ta tb):=by
  intro pins s σ H Q I h;refine BoolOp_and (cp (ha pins s σ H _ I h) λv s1 ⟨x,H1,I1,r1,q1⟩=>?_);obtain⟨c,rfl,q1⟩:=q1;cases r1;refine wpAny_truthy_bool ?_;cases c with
  | true=>exact hb pins s1 σ H1 Q I1 q1
  | false=>exact⟨.bl false,H1,I1,rfl,q1⟩
theorem Fe(ha:PE X a ta):PE X (.UnaryOp .Not a pos) (LX ta):=by
  intro pins s σ H Q I h;refine UnaryOp_ (cp (ha pins s σ H _ I h) λv s1 ⟨x,H1,I1,r1,q1⟩=>?_);obtain⟨c,rfl,q1⟩:=q1;cases r1;exact not_of (wpAny_truthy_bool ⟨.bl (!c),H1,I1,rfl,q1⟩)
end
end L2
namespace L2
open PySem PySem.Spec PyProof.Rows
noncomputable def eO(K:PySem.W.Frag) (H:Hp) (a:Addr) (xs:List V):Prop:=
  Rd H a (.lst xs) \/
    ∃(o:Obj) (its:Array Value) (n:Nat),K.lookup a = some o /\ o.cls = .type "list" /\ o.dict = none /\ o.data = .seq its n /\ its.size <= sizeLine /\ Vals xs its.toList
noncomputable def iW(K:PySem.W.Frag) (H:Hp) (a:Addr) (xs:List V):Prop:=
  Rd H a (.tup xs) \/
    ∃(o:Obj) (its:Array Value) (n:Nat),K.lookup a = some o /\ o.cls = .type "tuple" /\ o.data = .seq its n /\ its.size <= sizeLine /\ Vals xs its.toList
noncomputable def M6:Value -> Option V
  | .none=>some .bt
  | .bool b=>some (.bl b)
  | .int i _=>some (.int i)
  | .str x _=>some (.str x)
  | .bytes b _=>some (.HP b)
  | .float b _=>some (.CO b)
  | .ref a=>some (.ref a)
  | .type n=>some (.ty n)
  | _=>none
theorem RelV.abs{x:V} {u:Value} (r:RelV x u):M6 u = some x:=by
  cases x with
  | bt=>cases r;rfl
  | bl _=>cases r;rfl
  | int _=>obtain⟨t,rfl⟩:=r;rfl
  | str _=>obtain⟨t,rfl⟩:=r;rfl
  | HP _=>obtain⟨t,rfl⟩:=r;rfl
  | CO _=>obtain⟨t,rfl⟩:=r;rfl
  | ref _=>cases r;rfl
  | ty _=>cases r;rfl
theorem RelV.inj{x y:V} {u:Value} (r:RelV x u) (q:RelV y u):x = y:=Option.some.inj (r.abs.symm.trans q.abs)
theorem Vals.inj:∀ {xs ys:List V} {us:List Value},Vals xs us -> Vals ys us -> xs = ys
  | _,_,_,.nil,.nil=>rfl
  | _,_,_,.cons r t,.cons r' t'=>by rw [r.inj r',Vals.inj t t']
section
variable {X:Cx} {pins:List (Addr × Obj)} {σ:St} {H:Hp} {s:Shared} {a:Addr} {xs ys:List V}
theorem eO.of{K:PySem.W.Frag} (h:H a = some (.lst xs)):eO K H a xs:=.inl (.inl h)
theorem iW.of{K:PySem.W.Frag} (h:H a = some (.tup xs)):iW K H a xs:=.inl (.inl h)
theorem Inv.list(I:Inv X pins σ H s) (h:eO X.K H a xs):∃its:List Value,Vals xs its /\ PlainL s.heap a its.toArray /\ xs.length <= sizeLine:=by
  rcases h with h | ⟨o,its,n,hk,hc,hd,hs,hz,r⟩
  · obtain⟨z,its,n,r,e⟩:=h.ok I.bo
    exact⟨its,r,⟨_,n,e,rfl,rfl,rfl⟩,z⟩
  · refine⟨its.toList,r,⟨o,n,I.i7 a o hk,hc,hd,by simpa using hs⟩,?_⟩
    have e:=r.length;simp only [Array.length_toList]at e;omega
theorem Inv.tuple(I:Inv X pins σ H s) (h:iW X.K H a xs):∃its:List Value,Vals xs its /\ IsTup s.heap a its.toArray /\ xs.length <= sizeLine:=by
  rcases h with h | ⟨o,its,n,hk,hc,hs,hz,r⟩
  · obtain⟨z,its,r,p⟩:=h.ok I.bo
    exact⟨its,r,p,z⟩
  · refine⟨its.toList,r,⟨o,I.i7 a o hk,hc,n,by simpa using hs⟩,?_⟩
    have e:=r.length;simp only [Array.length_toList]at e;omega
theorem Inv.jG(I:Inv X pins σ H s) (h:eO X.K H a xs) (h':eO X.K H a ys):xs = ys:=by
  obtain⟨its,r,⟨o,n,e,_,_,d⟩,_⟩:=I.list h;obtain⟨its',r',⟨o',n',e',_,_,d'⟩,_⟩:=I.list h';rw [e]at e';cases e';rw [d]at d'
  injection d' with d1 _
  have:its = its':=by simpa using congrArg Array.toList d1
  subst this;exact r.inj r'
theorem Inv.lq(I:Inv X pins σ H s) (h:iW X.K H a xs) (h':iW X.K H a ys):xs = ys:=by
  obtain⟨its,r,⟨o,e,_,n,d⟩,_⟩:=I.tuple h;obtain⟨its',r',⟨o',e',_,n',d'⟩,_⟩:=I.tuple h';rw [e]at e';cases e';rw [d]at d'
  injection d' with d1 _
  have:its = its':=by simpa using congrArg Array.toList d1
  subst this;exact r.inj r'
end
noncomputable abbrev Cx.ku(X:Cx) (E:Value -> Shared -> Prop):Cx:={X with xe:=E}
noncomputable abbrev Cx.J7(X:Cx):Cx:=X.ku λ_ _=>False
theorem Cx.Ok.ku{X:Cx} (ok:X.Ok) (E:Value -> Shared -> Prop):(X.ku E).Ok:=
  ⟨ok.mod,ok.kind,ok.glob,ok.blt,ok.above,ok.inj,ok.has,ok.xM,ok.hd,ok.frames,ok.A3,ok.G8,ok.bs,ok.rQ,ok.mE,ok.nN,ok.fI,ok.uW⟩
theorem Cx.Ok.fk{X:Cx} {E:Value -> Shared -> Prop} (ok:(X.ku E).Ok):X.Ok:=
  ⟨ok.mod,ok.kind,ok.glob,ok.blt,ok.above,ok.inj,ok.has,ok.xM,ok.hd,ok.frames,ok.A3,ok.G8,ok.bs,ok.rQ,ok.mE,ok.nN,ok.fI,ok.uW⟩
section
variable {X:Cx} {pins:List (Addr × Obj)} {σ:St} {H:Hp} {s:Shared} {E:Value -> Shared -> Prop}
theorem Inv.ku(I:Inv X pins σ H s) (E:Value -> Shared -> Prop):Inv (X.ku E) pins σ H s:=⟨I.ok.ku E,I.os,I.bare,I.base,I.loc,I.cell,I.free,I.cL,I.pin,I.bo,I.len⟩
theorem Inv.fk(I:Inv (X.ku E) pins σ H s):Inv X pins σ H s:=⟨I.ok.fk,I.os,I.bare,I.base,I.loc,I.cell,I.free,I.cL,I.pin,I.bo,I.len⟩
theorem SP.fk{D:Ends} {f:Flow} {s':Shared} (h:SP (X.ku E) pins D f s'):SP X pins D f s':=by
  cases f with
  | next=>obtain⟨bO,H',I,q⟩:=h;exact⟨bO,H',I.fk,q⟩
  | brk=>obtain⟨bO,H',I,q⟩:=h;exact⟨bO,H',I.fk,q⟩
  | cont=>obtain⟨bO,H',I,q⟩:=h;exact⟨bO,H',I.fk,q⟩
  | ret u=>obtain⟨v,bO,H',I,r,q⟩:=h;exact⟨v,bO,H',I.fk,r,q⟩
theorem nu.J7{st:List Stmt} {t:TS} (h:nu X.J7 st t):nu X st t:=λpins s σ H D I hw =>
  wpAny_mono (h pins s σ H D (I.ku _) hw) (λ_ _ q=>q.fk) λ_ _ z=>False.elim z
end
section
variable {X:Cx} {st:Stmt} {rest:List Stmt} {t u:TS} {e:Expr} {te:TE} {pos:Pos}
noncomputable def LW:TS:=λD σ H=>D.nx σ H
noncomputable def O9(t u:TS):TS:=λD σ H=>t {D with nx:=u D} σ H
theorem zg:nu X [] LW:=λ_ _ σ H _ I h=>wpAny_execs_nil ⟨σ,H,I,h⟩
theorem we(h1:PS X st t) (h2:nu X rest u):nu X (st :: rest) (O9 t u):=by
  intro pins s σ H D I h;refine wpAny_execs_cons (cp (h1 pins s σ H {D with nx:=u D} I h) λf s1 q=>?_)
  cases f with
  | next =>
    obtain⟨bO,H',I',q⟩:=q;exact h2 pins s1 bO H' D I' q
  | ret v=>exact q
  | brk=>exact q
  | cont=>exact q
theorem zh(h1:PS X st t):nu X [st] t:=by
  intro pins s σ H D I h;refine wpAny_execs_cons (cp (h1 pins s σ H D I h) λf s1 q=>?_);cases f with
  | next=>exact wpAny_execs_nil q
  | ret v=>exact q
  | brk=>exact q
  | cont=>exact q
theorem Inv.quiet{pins:List (Addr × Obj)} {σ:St} {H:Hp} {s:Shared} (I:Inv X pins σ H s):interactive X.env = false:=by simp [interactive,I.ok.kind]
noncomputable def LV(te:TE):TS:=λD σ H=>te σ H λ_ H1=>D.nx σ H1
theorem zb(he:PE X e te) (hs:swapsWith e none pos.line X.env = pure false:=by rfl):PS X (.Expr e pos) (LV te):=by
  intro pins s σ H D I h;exact wpAny_Expr_any (cp (he pins s σ H _ I h) λv s1 ⟨x,H1,I1,r1,q1⟩=>⟨σ,H1,I1,q1⟩) I.quiet hs
noncomputable def O8(te:TE):TS:=λD σ H=>te σ H D.rt
theorem FI(he:PE X e te):PS X (.Return (some e) pos) (O8 te):=by
  intro pins s σ H D I h;exact wpAny_Return_some (cp (he pins s σ H _ I h) λv s1 ⟨x,H1,I1,r1,q1⟩=>⟨x,σ,H1,I1,r1,q1⟩)
noncomputable def O5(c:TT) (t u:TS):TS:=λD σ H=>c σ H λb H1=>if b = true then t D σ H1 else u D σ H1
theorem K0{c:Expr} {a b:List Stmt} {tc:TT} (hc:PT X c tc) (ha:nu X a t) (hb:nu X b u):PS X (.If c a b pos) (O5 tc t u):=by
  intro pins s σ H D I h;refine wpAny_If (cp (hc pins s σ H _ I h) λd s1 ⟨H1,I1,q1⟩=>?_);cases d with
  | true=>exact ha pins s1 σ H1 D I1 q1
  | false=>exact hb pins s1 σ H1 D I1 q1
end
noncomputable abbrev TG:=V -> St -> Hp -> (St -> Hp -> Prop) -> Prop
noncomputable abbrev An:=List V -> St -> Hp -> (St -> Hp -> Prop) -> Prop
noncomputable def PG(X:Cx) (target:Expr) (t:TG):Prop:=
  ∀(pins:List (Addr × Obj)) (s:Shared) (σ:St) (H:Hp) (v:V) (u:Value) (Q:St -> Hp -> Prop),Inv X pins σ H s -> RelV v u -> t v σ H Q ->
    wpAny (model X.prog X.w) X.A (assign target X.env u) (λ_ s'=>∃bO H',Inv X pins bO H' s' /\ Q bO H') X.xe s
noncomputable def G6(X:Cx) (ts:List Expr) (t:An):Prop:=
  ∀(pins:List (Addr × Obj)) (s:Shared) (σ:St) (H:Hp) (vs:List V) (us:List Value) (Q:St -> Hp -> Prop),Inv X pins σ H s -> Vals vs us -> t vs σ H Q ->
    wpAny (model X.prog X.w) X.A (assignInOrder ((assignEach ts X.env).map (·.2)) us) (λ_ s'=>∃bO H',Inv X pins bO H' s' /\ Q bO H') X.xe s
noncomputable abbrev Br:=V -> V -> V -> Hp -> (Hp -> Prop) -> Prop
noncomputable def HA(X:Cx) (t:Br):Prop:=
  ∀(pins:List (Addr × Obj)) (s:Shared) (σ:St) (H:Hp) (o i v:V) (ov iv u:Value) (Q:Hp -> Prop),Inv X pins σ H s -> RelV o ov -> RelV i iv -> RelV v u -> t o i v H Q ->
    wpAny (model X.prog X.w) X.A (setItem ov iv u) (λ_ s'=>∃H',Inv X pins σ H' s' /\ Q H') X.xe s
section
variable {X:Cx} {pos:Pos}
noncomputable def og(i:Nat):TG:=λv σ H Q=>Q (σ.set i (some v)) H
theorem yW{i:Nat} {x:Str} (hN:X.N.Nodup) (hi:X.N[i]? = some x) (hx:Loc X.env.scope x) (hf:X.fn x = true \/ X.env.scope.names.lookup x = some .local:=by first | exact .inl rfl | exact .inr rfl | assumption):PG X (.Name x pos) (og i):=by
  intro pins s σ H v u Q I r h;exact wpAny_assign_Name (hR I hN hi hx r (λs' I'=>⟨_,H,I',h⟩) hf)
noncomputable def Nx:An:=λvs σ H Q=>vs = [] /\ Q σ H
noncomputable def Jd(t:TG) (u:An):An:=λvs σ H Q=>∃v r,vs = v :: r /\ t v σ H λbO H'=>u r bO H' Q
theorem yX:G6 X [] Nx:=by
  intro pins s σ H vs us Q I r h;obtain⟨e,h⟩:=h;subst e;cases r;exact assignInOrder_nil ⟨σ,H,I,h⟩
theorem vX{e:Expr} {es:List Expr} {t:TG} {u:An} (h1:PG X e t) (h2:G6 X es u)
    (hs:(assignEach (e :: es) X.env).map (·.2) = assign e X.env :: (assignEach es X.env).map (·.2):=by rfl):G6 X (e :: es) (Jd t u):=by
  intro pins s σ H vs us Q I r h;obtain⟨v,vr,e1,h⟩:=h;subst e1;cases r with
  | cons r rr =>
    rw [hs];refine assignInOrder_cons (cp (h1 pins s σ H _ _ _ I r h) λ_ s1 ⟨av,H1,I1,q1⟩=>?_);exact h2 pins s1 av H1 _ _ Q I1 rr q1
noncomputable def Nz(K:PySem.W.Frag) (n:Nat) (t:An):TG:=λv σ H Q=>∃a xs,v = .ref a /\ iW K H a xs /\ xs.length = n /\ t xs σ H Q
theorem Fj{es:List Expr} {k:Nat} {t:An} {n:Nat} (hc:X.calm = true) (h:G6 X es t)
    (hn:(assignEach es X.env).length = n:=by rfl) (qz:(assignEach es X.env).findIdx? (·.1) = none:=by rfl):PG X (.Tuple es k pos) (Nz X.K n t):=by
  intro pins s σ H v u Q I r hw;obtain⟨a,xs,e1,hq,hl,hw⟩:=hw;subst e1;cases r;obtain⟨its,rv,ht,hz⟩:=I.tuple hq;refine assign_Tuple_tuple (I.ok.hd hc) ht (by simp [hn,<- hl,rv.length]) qz λh' hx=>?_
  have I1:Inv X pins σ H {s with heap:=h'}:=I.kept (t':=s.toks) λb o e=>hx b o (Nat.ne_of_lt (Heap.lt_size e)) e
  exact h pins _ σ H xs _ Q I1 (by simpa using rv) hw
noncomputable def Ny(to ti:TE) (t:Br):TG:=λv σ H Q=>to σ H λo H1=>ti σ H1 λi H2=>t o i v H2 λH3=>Q σ H3
theorem vW{o i:Expr} {to ti:TE} {t:Br} (ho:PE X o to) (hi:PE X i ti) (hs:HA X t)
    (ha:∀v,assign (.Subscript o i pos) X.env v = (do
      let ov <- holding [v] (eval o X.env)
      let iv <- holding [v,ov] (eval i X.env)
      standAt pos
      holding [v,ov,iv] (setItem ov iv v)
      release [v,ov,iv] []):=by intro _;rfl):PG X (.Subscript o i pos) (Ny to ti t):=by
  intro pins s σ H v u Q I r h;rw [ha];refine wpAny_bind (wpAny_holding (cp (ho pins s σ H _ I h) λov s1 ⟨x,H1,I1,r1,q1⟩=>?_));refine wpAny_bind (wpAny_holding (cp (hi pins s1 σ H1 _ I1 q1) λiv s2 ⟨y,H2,I2,r2,q2⟩=>?_));refine wpAny_bind (wpAny_standAt (wpAny_bind (wpAny_holding (cp (hs pins s2 σ H2 x y v ov iv u _ I2 r1 r2 r q2) λ_ s3 ⟨H3,I3,q3⟩=>?_))));exact wpAny_release ⟨σ,H3,I3,q3⟩
noncomputable def zL(te:TE) (g:TG):TS:=λD σ H=>te σ H λx H1=>g x σ H1 D.nx
theorem wc{tg e:Expr} {te:TE} {g:TG} (he:PE X e te) (hg:PG X tg g) (hs:swapsWithSole [tg] e pos.line X.env = pure false:=by rfl) (hw:swappedStores [tg] e X.env = pure none:=by rfl)
    (h1:(assignEach [tg] X.env).map (·.2) = [assign tg X.env]:=by rfl):PS X (.Assign [tg] e pos) (zL te g):=by
  intro pins s σ H D I h;refine wpAny_Assign_stores (cp (he pins s σ H _ I h) λv s1 ⟨x,H1,I1,r1,q1⟩=>?_) hs hw;rw [h1];exact cp (hg pins s1 σ H1 x v _ I1 r1 q1) λ_ s2 q=>q
theorem wd{i:Nat} {x:Str} {e:Expr} {te:TE} {pos':Pos} (hN:X.N.Nodup) (hi:X.N[i]? = some x) (hx:Loc X.env.scope x) (he:PE X e te) (hs:swapsWith e (some (.Name x pos')) pos.line X.env = pure false:=by rfl) (hf:X.fn x = true \/ X.env.scope.names.lookup x = some .local:=by first | exact .inl rfl | exact .inr rfl | assumption):
    PS X (.Assign [.Name x pos'] e pos) (zL te (og i)):=by
  intro pins s σ H D I h;refine wpAny_Assign_Name (cp (he pins s σ H _ I h) λv s1 ⟨y,H1,I1,r1,q1⟩=>?_) hs;exact hR I1 hN hi hx r1 (λs2 I2=>⟨_,H1,I2,q1⟩) hf
end
structure It where
  go:Nat -> Hp -> Prop
  Hk:Nat -> Hp -> V -> Hp -> Prop
  stop:Nat -> Hp -> Prop
noncomputable def eK(X:Cx) (pins:List (Addr × Obj)) (H:Hp) (b:Addr):Prop:=
  H b = none /\ b ≠ X.env.locals /\ b ∉ X.fs /\ (b ∈ X.ex \/ X.bB.heap.objs.size <= b) /\ (∀x c,X.env.cells.lookup x = some c -> c ≠ b) /\ ∀p ∈ X.pn ++ pins,p.1 ≠ b
theorem Inv.rZ{X:Cx} {pins:List (Addr × Obj)} {σ:St} {H H':Hp} {s:Shared} {b:Addr} (I:Inv X pins σ H s) (hb:s.heap.objs.size <= b) (hn:H' b = none):eK X pins H' b:=by
  refine⟨hn,Nat.ne_of_gt (Nat.lt_of_lt_of_le I.lt hb),I.OH hb,.inr (Nat.le_trans I.sz hb),λx c e z=>?_,λp hp z=>?_⟩
  · obtain⟨v,q⟩:=I.cell x c e
    exact absurd (Nat.lt_of_lt_of_le q.lt (by rw [z];exact hb)) (Nat.lt_irrefl _)
  · exact absurd (Nat.lt_of_lt_of_le (Heap.lt_size (I.pin p hp).1) (by rw [z];exact hb)) (Nat.lt_irrefl _)
structure qg(C:Cx -> Prop) (P:Program) (w:World) (K:PySem.W.Frag) (tg:Expr) (J:It) (fp:List Addr) (it:Addr) (tn:Nat -> Heap -> Prop):Prop where
  mem:it ∈ fp
  obj:∀i h,tn i h -> ∀b ∈ fp,∃o,h.get? b = some o /\ ∀v,o.data ≠ .cell v
  keep:∀i h h',tn i h -> (∀b ∈ fp,∀o,h.get? b = some o -> h'.get? b = some o) -> tn i h'
  item:∀(X:Cx),X.prog = P -> X.w = w -> X.K = K -> C X -> ∀(i:Nat) (pins:List (Addr × Obj)) (s:Shared) (σ:St) (H:Hp) (E:Value -> Shared -> Prop),Inv X pins σ H s -> (∀b ∈ fp,eK X pins H b) -> tn i s.heap -> J.go i H ->
    wpAny (model P w) X.A (pyNext (.ref it)) (λr s1=>∃u,r = some u /\
      wpAny (model P w) X.A (letOwnedTupleGo tg (.ref it) u) (λ_ s2=>∃x H',Inv X pins σ H' s2 /\ RelV x u /\ J.Hk i H x H' /\ tn (i+1) s2.heap /\ ∀b ∈ fp,H' b = none) E s1) E s
  done:∀(X:Cx),X.prog = P -> X.w = w -> X.K = K -> C X -> ∀(i:Nat) (pins:List (Addr × Obj)) (s:Shared) (σ:St) (H:Hp) (E:Value -> Shared -> Prop),Inv X pins σ H s -> (∀b ∈ fp,eK X pins H b) -> tn i s.heap -> J.stop i H ->
    wpAny (model P w) X.A (pyNext (.ref it)) (λr s1=>r = none /\ Inv X pins σ H s1) E s
  self:∀(A:Around) (i:Nat) (s:Shared) (Q:Value -> Shared -> Prop) (E:Value -> Shared -> Prop),tn i s.heap -> Q (.ref it) s -> wpAny (model P w) A (pyIter (.ref it)) Q E s
noncomputable abbrev Turn(P:Program) (w:World) (K:PySem.W.Frag) (tg:Expr) (J:It) (fp:List Addr) (it:Addr) (tn:Nat -> Heap -> Prop):Prop:=qg (λX=>X.calm = true) P w K tg J fp it tn
noncomputable abbrev TI:=St -> Hp -> (It -> Hp -> Prop) -> Prop
noncomputable def Hz(C:Cx -> Prop) (X:Cx) (pins:List (Addr × Obj)) (σ:St) (tg:Expr) (R:It -> Hp -> Prop) (MC:Value) (s2:Shared):Prop:=
  ∃(it:Addr) (fp:List Addr) (tn:Nat -> Heap -> Prop) (J:It) (H':Hp),MC = .ref it /\ Inv X pins σ H' s2 /\ qg C X.prog X.w X.K tg J fp it tn /\ tn 0 s2.heap /\ (∀b ∈ fp,eK X pins H' b) /\ R J H'
noncomputable abbrev Pr(X:Cx):=Hz (λX=>X.calm = true) X
noncomputable def M0(C:Cx -> Prop) (X:Cx) (tg iter:Expr) (wi:TI):Prop:=
  ∀(pins:List (Addr × Obj)) (s:Shared) (σ:St) (H:Hp) (R:It -> Hp -> Prop),Inv X pins σ H s -> wi σ H R ->
    wpAny (model X.prog X.w) X.A (eval iter X.env) (λv s1=>wpAny (model X.prog X.w) X.A (pyIter v) (Hz C X pins σ tg R) X.xe s1) X.xe s
noncomputable abbrev PI(X:Cx) (tg iter:Expr) (wi:TI):Prop:=M0 (λX=>X.calm = true) X tg iter wi
theorem oh{M:Model} {A:Around} {E:Value -> Shared -> Prop} {s:Shared} {tg:Expr} {it:Addr} {u:Value} {o:Obj} {n:String} {vs:Array Value} {Q:Unit -> Shared -> Prop} (ho:s.heap.get? it = some o) (hc:o.cls = .type n) (hd:o.data = .fields vs)
    (hn:["enumerate","zip","dict_itemiterator","dict_reverseitemiterator","odict_iterator","itertools.zip_longest","itertools.pairwise"].contains n = false) (hQ:Q () s):wpAny M A (letOwnedTupleGo tg (.ref it) u) Q E s:=by
  unfold letOwnedTupleGo;cases tg<;>first
    | exact wpAny_pure hQ
    | (cases u<;>first
        | exact wpAny_pure hQ
        | (refine wpAny_bind (wpAny_load ho ?_)
           rw [hc,hd];show wpAny M A (if(["enumerate","zip","dict_itemiterator","dict_reverseitemiterator","odict_iterator","itertools.zip_longest","itertools.pairwise"].contains n && vs[0]? == some (rawInt _)) = true then _ else _) Q E s
           rw [if_neg (by intro h;rw [hn,Bool.false_and]at h;cases h)]
           exact wpAny_pure hQ))
noncomputable def G5(K:PySem.W.Frag) (a:Addr):It:=
  ⟨λi H=>∃xs x,eO K H a xs /\ xs[i]? = some x,λi H x H'=>H' = H /\ ∀xs,eO K H a xs -> xs[i]? = some x,λi H=>∃xs,eO K H a xs /\ xs.length <= i⟩
noncomputable def MV(K:PySem.W.Frag) (a:Addr):It:=
  ⟨λi H=>∃xs x,iW K H a xs /\ xs[i]? = some x,λi H x H'=>H' = H /\ ∀xs,iW K H a xs -> xs[i]? = some x,λi H=>∃xs,iW K H a xs /\ xs.length <= i⟩
noncomputable def L9(lo:Int) (n:Nat):It:=⟨λi _=>i<n,λi H x H'=>H' = H /\ x = .int (lo+i),λi _=>n <= i⟩
theorem fG{P:Program} {w:World} {K:PySem.W.Frag} {tg:Expr} (a it:Addr):Turn P w K tg (G5 K a) [it] it (λi h=>h.IsListIter it a i) where
  mem:=by simp
  obj:=λi h st b hb=>by
    have e:b = it:=by simpa using hb
    subst e;obtain⟨o,e,c,d⟩:=st;exact⟨o,e,λv z=>by rw [d]at z;cases z⟩
  keep:=λi h h' st k=>st.at λo e=>k it (by simp) o e
  item:=by
    intro X hP hw hK hc i pins s σ H E I hf st hg;subst hP hw hK;obtain⟨xs,x,hq,hx⟩:=hg;obtain⟨its,rv,p,hz⟩:=I.list hq;obtain⟨u,hu,ru⟩:=rv.get hx;obtain⟨f0,f1,f2,f3,f4,f5⟩:=hf it (by simp)
    refine wpAny_pyNext_list_item st p.isList (x:=u) (by simpa using hu) λh' kq sb=>?_
    have I1:Inv X pins σ H {s with heap:=h'}:=I.turned (t':=s.toks) (λb o hb e=>(sb.2 b hb).trans e) f0 f1 f3 f4 f5
    obtain⟨o,e,c,d⟩:=id kq;exact⟨u,rfl,oh (s:={s with heap:=h'}) e c d ∅ ⟨x,H,I1,ru,⟨rfl,λys hy=>by rw [I.jG hy hq];exact hx⟩,kq,λb hb=>(hf b hb).1⟩⟩
  done:=by
    intro X hP hw hK hc i pins s σ H E I hf st hg;subst hP hw hK;obtain⟨xs,hq,hx⟩:=hg;obtain⟨its,rv,p,hz⟩:=I.list hq;obtain⟨f0,f1,f2,f3,f4,f5⟩:=hf it (by simp)
    have hl:=rv.length;exact wpAny_pyNext_list_end (I.ok.hd hc) st p.isList (by simp;omega) λh' eb=>⟨rfl,I.turned (t':=s.toks) (λb o hb e=>eb b o hb e) f0 f1 f3 f4 f5⟩
  self:=λ_ _ _ _ _ st h=>wpAny_pyIter_listiter st h
theorem p7{P:Program} {w:World} {K:PySem.W.Frag} {tg:Expr} (a it:Addr):Turn P w K tg (MV K a) [it] it (λi h=>h.IsTupleIter it a i) where
  mem:=by simp
  obj:=λi h st b hb=>by
    have e:b = it:=by simpa using hb
    subst e;obtain⟨o,e,c,d⟩:=st;exact⟨o,e,λv z=>by rw [d]at z;cases z⟩
  keep:=λi h h' st k=>st.at λo e=>k it (by simp) o e
  item:=by
    intro X hP hw hK hc i pins s σ H E I hf st hg;subst hP hw hK;obtain⟨xs,x,hq,hx⟩:=hg;obtain⟨its,rv,p,hz⟩:=I.tuple hq;obtain⟨u,hu,ru⟩:=rv.get hx;obtain⟨f0,f1,f2,f3,f4,f5⟩:=hf it (by simp)
    refine wpAny_pyNext_tuple_item st (show s.heap.IsTuple a its.toArray from p) (x:=u) (by simpa using hu) λh' kq sb=>?_
    have I1:Inv X pins σ H {s with heap:=h'}:=I.turned (t':=s.toks) (λb o hb e=>(sb.2 b hb).trans e) f0 f1 f3 f4 f5
    obtain⟨o,e,c,d⟩:=id kq;exact⟨u,rfl,oh (s:={s with heap:=h'}) e c d ∅ ⟨x,H,I1,ru,⟨rfl,λys hy=>by rw [I.lq hy hq];exact hx⟩,kq,λb hb=>(hf b hb).1⟩⟩
  done:=by
    intro X hP hw hK hc i pins s σ H E I hf st hg;subst hP hw hK;obtain⟨xs,hq,hx⟩:=hg;obtain⟨its,rv,p,hz⟩:=I.tuple hq;obtain⟨f0,f1,f2,f3,f4,f5⟩:=hf it (by simp)
    have hl:=rv.length;exact wpAny_pyNext_tuple_end (I.ok.hd hc) st (show s.heap.IsTuple a its.toArray from p) (by simp;omega) λh' eb=>⟨rfl,I.turned (t':=s.toks) (λb o hb e=>eb b o hb e) f0 f1 f3 f4 f5⟩
  self:=λ_ _ _ _ _ st h=>wpAny_pyIter_tupleiter st h
theorem p6{P:Program} {w:World} {K:PySem.W.Frag} {tg:Expr} (it:Addr) (lo:Int) (n:Nat):Turn P w K tg (L9 lo n) [it] it (λi h=>IsRangeIter h it (lo+(i:Nat)*1) ((n:Int)-(i:Nat)) 1) where
  mem:=by simp
  obj:=λi h st b hb=>by
    have e:b = it:=by simpa using hb
    subst e;exact⟨_,st,λv z=>by
      have z':Data.fields _ = Data.cell v:=z;cases z'⟩
  keep:=λi h h' st k=>k it (by simp) _ st
  item:=by
    intro X hP hw hK hc i pins s σ H E I hf st hg;subst hP hw hK;obtain⟨f0,f1,f2,f3,f4,f5⟩:=hf it (by simp)
    have W:=Walks.range (prog:=X.prog) (w:=X.w) (I.ok.hd hc) it lo 1 n;refine W.item i s _ _ hg st λv h' tk hv kq kk=>?_;obtain⟨t,rfl⟩:=hv;have I1:Inv X pins σ H {s with heap:=h',toks:=tk}:=I.turned (λb o hb e=>kk b o (by simpa using hb) e) f0 f1 f3 f4 f5
    refine⟨_,rfl,oh (s:={s with heap:=h',toks:=tk}) (n:="range_iterator") kq rfl rfl ∅ ⟨.int (lo+i),H,I1,⟨t,?_⟩,⟨rfl,rfl⟩,kq,λb hb=>(hf b hb).1⟩⟩
    rw [Int.mul_one]
  done:=by
    intro X hP hw hK hc i pins s σ H E I hf st hg;subst hP hw hK;obtain⟨f0,f1,f2,f3,f4,f5⟩:=hf it (by simp)
    exact wpAny_pyNext_range_end (I.ok.hd hc) st (by have:n <= i:=hg;omega) λh' eb=>⟨rfl,I.turned (t':=s.toks) (λb o hb e=>eb b o hb e) f0 f1 f3 f4 f5⟩
  self:=λ_ _ _ _ _ st h=>wpAny_pyIter_rangeiter st h
end L2
namespace L2
open PySem PySem.Spec PyProof.Rows
section
variable {X:Cx} {tg:Expr}
theorem wu{pins:List (Addr × Obj)} {σ:St} {H:Hp} {s:Shared} {R:It -> Hp -> Prop} {E:Value -> Shared -> Prop} {lo hi:Int} {t u v:Tok} {tk:Nat} (I:Inv X pins σ H s) (h1:-(2 ^ 62) <= lo) (h2:lo<2 ^ 62) (h3:-(2 ^ 62) <= hi) (h4:hi<2 ^ 62)
    (q:R (L9 lo (hi-lo).toNat) H):wpAny (model X.prog X.w) X.A (pyIter (.ref s.heap.objs.size)) (Pr X pins σ tg R) E {s with heap:=s.heap.push {cls:=.type "range",data:=.fields #[.int lo t,.int hi u,.int 1 v]},toks:=tk}:=by
  refine wpAny_pyIter_range (IsRange.new ..) (small_one h1 h2 h3 h4) ?_;have I1:Inv X pins σ H {s with heap:=s.heap.push {cls:=.type "range",data:=.fields #[.int lo t,.int hi u,.int 1 v]},toks:=tk}:=I.kept λb o e=>Heap.get?_push_of_some _ e
  refine⟨(s.heap.push {cls:=.type "range",data:=.fields #[.int lo t,.int hi u,.int 1 v]}).objs.size,[(s.heap.push {cls:=.type "range",data:=.fields #[.int lo t,.int hi u,.int 1 v]}).objs.size],_,_,H,rfl,
    I1.kept (t':=tk) λb o e=>Heap.get?_push_of_some _ e,p6 _ lo (hi-lo).toNat,?_,λb hb=>?_,q⟩
  · have e1:lo+((0:Nat):Int)*1 = lo:=by simp
    have e2:(((hi-lo).toNat:Nat):Int)-((0:Nat):Int) = Builtin.Range.rangeSize lo hi 1:=by rw [rangeSize_one];split<;>omega
    show IsRangeIter _ _ (lo+((0:Nat):Int)*1) ((((hi-lo).toNat:Nat):Int)-((0:Nat):Int)) 1;rw [e1,e2];exact Heap.get?_push_size _ rfl
  · have e:b = (s.heap.push {cls:=.type "range",data:=.fields #[.int lo t,.int hi u,.int 1 v]}).objs.size:=by simpa using hb
    subst e;exact I1.rZ (Nat.le_refl _) (I1.bo.fresh (Nat.le_refl _))
noncomputable def JC(ta:TA):TI:=λσ H R=>ta σ H λvs H1=>∃j:Int,vs = [.int j] /\ -(2 ^ 62) <= j /\ j<2 ^ 62 /\ R (L9 0 j.toNat) H1
theorem sC{a:Expr} {ta:TA} {p pos:Pos} (hg:Gl X "range") (hm:X.mg "range" = none) (ha:PA X [a] ta) (hs:starEach [a] X.env = [(false,eval a X.env)]:=by rfl):PI X tg (.Call (.Name "range" p) [a] [] pos) (JC ta):=by
  intro pins s σ H R I h;refine Call_ (iq I hg hm boot_range (PyProof.Rows.callWith_type1 (cp (ha pos pins s σ H _ I h) λus s1 ⟨vs,H1,I1,r1,q1⟩=>?_) hs rfl));obtain⟨j,e,q1,q2,q⟩:=q1;subst e;cases r1 with
  | cons r rr =>
    cases rr;obtain⟨t,rfl⟩:=r;exact call_range_1 (wu I1 ⋯ ⋯ q1 q2 (by simpa using q))
noncomputable def O4(wi:TI) (g:TG) (tb:TS):TS:=λD σ H=>wi σ H λJ H1=>∃W:Nat -> Nat -> St -> Hp -> Prop,(∃m,W 0 m σ H1) /\ ∀i m σ H,W i m σ H ->
  (J.stop i H /\ D.nx σ H) \/ (J.go i H /\ ∃N:St -> Hp -> Prop,(∀bO H',N bO H' -> ∃m',m'<m /\ W (i+1) m' bO H') /\ ∀x H',J.Hk i H x H' -> g x σ H' λbh H2=>tb {D with nx:=N,ct:=N,bk:=D.nx} bh H2)
noncomputable def iw(fp:List Addr) (h:Heap):List (Addr × Obj):=fp.filterMap λb=>(h.get? b).map λo=>(b,o)
theorem da{fp:List Addr} {h:Heap} {b:Addr} {o:Obj} (hb:b ∈ fp) (e:h.get? b = some o):(b,o) ∈ iw fp h:=List.mem_filterMap.mpr ⟨b,hb,by rw [e];rfl⟩
theorem sx{fp:List Addr} {h:Heap} {p:Addr × Obj} (hp:p ∈ iw fp h):p.1 ∈ fp /\ h.get? p.1 = some p.2:=by
  obtain⟨b,hb,e⟩:=List.mem_filterMap.mp hp;cases q:h.get? b with
  | none=>rw [q]at e;cases e
  | some o =>
    rw [q]at e;have e':(b,o) = p:=Option.some.inj e;subst e';exact⟨hb,q⟩
theorem Inv.pinned{pins:List (Addr × Obj)} {σ:St} {H:Hp} {s:Shared} {fp:List Addr} (I:Inv X pins σ H s) (hf:∀b ∈ fp,eK X pins H b) (ho:∀b ∈ fp,∃o,s.heap.get? b = some o /\ ∀v,o.data ≠ .cell v):Inv X (pins ++ iw fp s.heap) σ H s:=
  I.qT λp hp=>(List.mem_append.mp hp).elim (λz=>I.pin p (List.mem_append_right _ z)) λz=>by
    obtain⟨hb,e⟩:=sx z;obtain⟨f0,f1,f2,_⟩:=hf p.1 hb;obtain⟨o,e',d⟩:=ho p.1 hb;rw [e]at e';cases e';exact⟨e,f0,f1,f2,d⟩
theorem Inv.fj{pins pl:List (Addr × Obj)} {σ:St} {H:Hp} {s:Shared} (I:Inv X (pins ++ pl) σ H s):Inv X pins σ H s:=I.qT λp hp=>I.pin p (List.mem_append_right _ (List.mem_append_left _ hp))
theorem FH{iter:Expr} {body:List Stmt} {wi:TI} {g:TG} {tb:TS} {pos:Pos} (hp:PassesOwn (model X.prog X.w) X.A X.env X.xe) (hc:X.calm = true) (hi:PI X tg iter wi) (hg:PG X tg g) (hb:nu X body tb)
    (hs:∀x,foldedSetIterable iter X.env x = pure x:=by intro _;rfl):PS X (.For tg iter body [] pos) (O4 wi g tb):=by
  intro pins s σ H D I h;refine wpAny_For (cp (hi pins s σ H _ I h) λv s1 h1=>cp h1 λMC s2 h2=>?_) hs;obtain⟨it,fp,tn,J,H2,e,I2,T,SN,f2,W,⟨m0,w0⟩,turn⟩:=h2;subst e
  -- what stays true of the iterator's objects through the loop
  have stat:∀ {H':Hp},(∀b ∈ fp,H' b = none) -> ∀b ∈ fp,eK X pins H' b:=λhn b hb=>⟨hn b hb,(f2 b hb).2⟩;refine codeAny_forLoop_any (λn s'=>∃i bO H',Inv X pins bO H' s' /\ tn i s'.heap /\ (∀b ∈ fp,H' b = none) /\ W i n bO H') ?_ m0 ⟨0,σ,H2,I2,SN,λb hb=>(f2 b hb).1,w0⟩;rintro n s3 ⟨i,dX,H3,I3,Qz,Mk,w3⟩;rcases turn i n dX H3 w3 with⟨stop,qn⟩ | ⟨go,N,hN,step⟩
  · refine wpAny_passesOwn hp (cp (T.done X rfl rfl rfl hc i pins s3 dX H3 X.xe I3 (stat Mk) Qz stop) λr s4 ⟨hr,I4⟩=>?_)
    subst hr;exact wpAny_execs_nil ⟨dX,H3,I4,qn⟩
  · refine wpAny_passesOwn hp (cp (T.item X rfl rfl rfl hc i pins s3 dX H3 X.xe I3 (stat Mk) Qz go) λr s4 ⟨u,hr,h4⟩=>?_)
    subst hr;refine wpAny_passesOwn hp (cp h4 λ_ s5 ⟨x,H5,I5,r5,y5,Hf,CT⟩=>?_);have QJ:=I5.pinned (stat CT) (T.obj _ _ Hf);refine wpAny_passesOwn hp (cp (hg _ s5 dX H5 x u _ QJ r5 (step x H5 y5)) λ_ s6 ⟨S0,H6,I6,q6⟩=>?_);refine wpAny_passesOwn hp (cp (hb _ s6 S0 H6 _ I6 q6) λf s7 q7=>?_);have again:∀ {tu:St} {H7:Hp},Inv X (pins ++ iw fp s5.heap) tu H7 s7 -> N tu H7 -> ∃m,m<n /\ ∃i bO H',Inv X pins bO H' s7 /\ tn i s7.heap /\ (∀b ∈ fp,H' b = none) /\ W i m bO H':=λ{tu H7} I7 n7=>by
      obtain⟨m',hm,w7⟩:=hN tu H7 n7;refine⟨m',hm,i+1,tu,H7,I7.fj,T.keep _ _ _ Hf λb hb o e=>(I7.pin (b,o) (List.mem_append_right _ (List.mem_append_right _ (da hb e)))).1,λb hb=>?_,w7⟩;obtain⟨o,e,d⟩:=T.obj _ _ Hf b hb;exact(I7.pin (b,o) (List.mem_append_right _ (List.mem_append_right _ (da hb e)))).2.1
    cases f with
    | next=>obtain⟨tu,H7,I7,n7⟩:=q7;exact again I7 n7
    | cont=>obtain⟨tu,H7,I7,n7⟩:=q7;exact again I7 n7
    | brk=>obtain⟨tu,H7,I7,q7⟩:=q7;exact⟨tu,H7,I7.fj,q7⟩
    | ret v=>obtain⟨x7,tu,H7,I7,r7,q7⟩:=q7;exact⟨x7,tu,H7,I7.fj,r7,q7⟩
end
end L2
namespace L2
open PySem PySem.Spec PyProof.Rows
noncomputable abbrev R2:=V -> V -> Hp -> VK -> Prop
noncomputable def eN(X:Cx) (f:Value -> Value -> Sem Value) (r:R2):Prop:=
  ∀(pins:List (Addr × Obj)) (s:Shared) (σ:St) (H:Hp) (x y:V) (v u:Value) (Q:VK),Inv X pins σ H s -> RelV x v -> RelV y u -> r x y H Q ->
    wpAny (model X.prog X.w) X.A (f v u) (EP X pins σ Q) X.xe s
noncomputable def cb(X:Cx) (f:Value) (r:List V -> Hp -> VK -> Prop):Prop:=
  ∀(pins:List (Addr × Obj)) (s:Shared) (σ:St) (H:Hp) (xs:List V) (us:List Value) (Q:VK),Inv X pins σ H s -> Vals xs us -> r xs H Q ->
    wpAny (model X.prog X.w) X.A (call f us) (EP X pins σ Q) X.xe s
noncomputable def M4(X:Cx) (r:V -> Hp -> (Bool -> Hp -> Prop) -> Prop):Prop:=
  ∀(pins:List (Addr × Obj)) (s:Shared) (σ:St) (H:Hp) (x:V) (v:Value) (Q:Bool -> Hp -> Prop),Inv X pins σ H s -> RelV x v -> r x H Q ->
    wpAny (model X.prog X.w) X.A (truthy v) (TP X pins σ Q) X.xe s
noncomputable def Hg(r:R2) (ta tb:TE):TE:=λσ H Q=>ta σ H λx H1=>tb σ H1 λy H2=>r x y H2 Q
noncomputable def rI(C:Int -> Int -> Prop) (g:Int -> Int -> V):R2:=λx y H Q=>∃i j,x = .int i /\ y = .int j /\ C i j /\ Q (g i j) H
noncomputable def xA(g:Int -> Int -> V):R2:=λx y H Q=>∃i j,x = .int i /\ y = .int j /\ Q (g i j) H
section
variable {X:Cx} {a b c:Expr} {ta tb tc:TE} {pos:Pos}
theorem BI(ha:PE X a ta) (hb:PE X b tb) {pins:List (Addr × Obj)} {s:Shared} {σ:St} {H:Hp} {R:V -> V -> Hp -> Prop} (I:Inv X pins σ H s)
    (h:ta σ H λx H1=>tb σ H1 λy H2=>R x y H2) {Q:Value -> Shared -> Prop} {f:Value -> Value -> Sem Value}
    (hf:∀v u s2 x y H2,Inv X pins σ H2 s2 -> RelV x v -> RelV y u -> R x y H2 -> wpAny (model X.prog X.w) X.A (f v u) Q X.xe s2):
    wpAny (model X.prog X.w) X.A (eval a X.env) (λv bI=>wpAny (model X.prog X.w) X.A (eval b X.env) (λu zJ=>wpAny (model X.prog X.w) X.A (f v u) Q X.xe zJ) X.xe bI) X.xe s:=by
  refine cp (ha pins s σ H _ I h) λv s1 ⟨x,H1,I1,r1,q1⟩=>?_;refine cp (hb pins s1 σ H1 _ I1 q1) λu s2 ⟨y,H2,I2,r2,q2⟩=>?_;exact hf v u s2 x y H2 I2 r1 r2 q2
theorem KL{op:Operator} {r:R2} (ho:eN X (binaryOp op) r) (ha:PE X a ta) (hb:PE X b tb):PE X (.BinOp a op b pos) (Hg r ta tb):=by
  intro pins s σ H Q I h;exact wpAny_BinOp (BI ha hb I h λv u s2 x y H2 I2 rx ry q=>ho pins s2 σ H2 x y v u Q I2 rx ry q)
theorem Ku{f:Value -> Value -> Sem Value} {C:Int -> Int -> Prop} {g:Int -> Int -> Int}
    (rule:∀(i j:Int) (t u:Tok) (s:Shared) (Q:Value -> Shared -> Prop) (E:Value -> Shared -> Prop),C i j -> Q (.int (g i j) s.toks) {s with toks:=s.toks+1} -> wpAny (model X.prog X.w) X.A (f (.int i t) (.int j u)) Q E s):
    eN X f (rI C λi j=>.int (g i j)):=by
  intro pins s σ H x y v u Q I rx ry h;obtain⟨i,j,rfl,rfl,hc,q⟩:=h;obtain⟨t,rfl⟩:=rx;obtain⟨t',rfl⟩:=ry;exact rule i j t t' s _ _ hc ⟨.int (g i j),H,I.tok _,⟨_,rfl⟩,q⟩
theorem Kv{f:Value -> Value -> Sem Value} {g:Int -> Int -> Int}
    (rule:∀(i j:Int) (t u:Tok) (s:Shared) (Q:Value -> Shared -> Prop) (E:Value -> Shared -> Prop),Q (.int (g i j) s.toks) {s with toks:=s.toks+1} -> wpAny (model X.prog X.w) X.A (f (.int i t) (.int j u)) Q E s):
    eN X f (xA λi j=>.int (g i j)):=by
  intro pins s σ H x y v u Q I rx ry h;obtain⟨i,j,rfl,rfl,q⟩:=h;obtain⟨t,rfl⟩:=rx;obtain⟨t',rfl⟩:=ry;exact rule i j t t' s _ _ ⟨.int (g i j),H,I.tok _,⟨_,rfl⟩,q⟩
theorem yL{f:Value -> Value -> Sem Value} {g:Int -> Int -> Bool}
    (rule:∀(i j:Int) (t u:Tok) (s:Shared) (Q:Value -> Shared -> Prop) (E:Value -> Shared -> Prop),Q (.bool (g i j)) s -> wpAny (model X.prog X.w) X.A (f (.int i t) (.int j u)) Q E s):
    eN X f (xA λi j=>.bl (g i j)):=by
  intro pins s σ H x y v u Q I rx ry h;obtain⟨i,j,rfl,rfl,q⟩:=h;obtain⟨t,rfl⟩:=rx;obtain⟨t',rfl⟩:=ry;exact rule i j t t' s _ _ ⟨.bl (g i j),H,I,rfl,q⟩
noncomputable def rF(i j:Int):Prop:=0<j /\ j<1073741824
noncomputable def nv(i j:Int):Prop:=0 <= j /\ j <= 1000000 /\ i.natAbs<2 ^ 64
noncomputable def fQ(i j:Int):Prop:=(-(2 ^ 64)<i /\ i<2 ^ 64) \/ (-(2 ^ 64)<j /\ j<2 ^ 64)
theorem fQ.ok{i j:Int} (h:fQ i j):IntMulOk i j:=by
  rcases h with⟨h1,h2⟩ | ⟨h1,h2⟩
  · exact .of_left (intBits_le_64 h1 h2)
  · exact .of_right (intBits_le_64 h1 h2)
theorem p8(k:Nat):(0:Int) <= 2 ^ k:=by
  rw [two_pow_cast];exact Int.natCast_nonneg _
theorem EA:eN X (binaryOp .Add) (xA λi j=>.int (i+j)):=Kv λ_ _ _ _ _ _ _ q=>add_int q
theorem EY:eN X (binaryOp .Sub) (xA λi j=>.int (i-j)):=Kv λ_ _ _ _ _ _ _ q=>sub_int q
theorem EJ:eN X (binaryOp .Mult) (rI fQ λi j=>.int (i*j)):=Ku λ_ _ _ _ _ _ _ hc q=>mul_int q hc.ok
theorem yO:eN X (binaryOp .FloorDiv) (rI rF λi j=>.int (i/j)):=Ku λi j _ _ _ _ _ hc q=>by
  have h1:(0:Int)<j:=hc.1;have h2:j<1073741824:=hc.2;exact floordiv_int ⋯ (by rw [Int.fdiv_eq_ediv_of_nonneg i ⋯];exact q) (.inl (PyProof.noPylong_small ⋯))
theorem EH:eN X (binaryOp .Mod) (rI (λ_ j=>0<j) λi j=>.int (i%j)):=Ku λi j _ _ _ _ _ hc q=>by
  have h1:(0:Int)<j:=hc;exact mod_int' ⋯ (by rw [Int.fmod_eq_emod_of_nonneg i ⋯];exact q)
theorem EL:eN X (binaryOp .Pow) (rI nv λi j=>.int (i ^ j.toNat)):=Ku λ_ _ _ _ _ _ _ hc q=>pow_int_small hc.1 hc.2.1 hc.2.2 q
theorem ER:eN X (binaryOp .RShift) (rI (λ_ j=>0 <= j) λi j=>.int (i/2 ^ j.toNat)):=Ku λi j _ _ _ _ _ hc q =>
  rshift_int hc (by rw [Int.fdiv_eq_ediv_of_nonneg i (p8 _)];exact q)
end
section
variable {X:Cx} {a b c:Expr} {ta tb tc:TE} {pos:Pos}
theorem CN{pins:List (Addr × Obj)} {σ:St} {H:Hp} {s:Shared} {Q:VK} {k k':Bool} (I:Inv X pins σ H s) (q:Q (.bl k) H) (e:k = k'):EP X pins σ Q (.bool k') s:=by
  subst e;exact⟨.bl k,H,I,rfl,q⟩
theorem Kz:eN X (compareOp .Lt) (xA λi j=>.bl (decide (i<j))):=yL λ_ _ _ _ _ _ _ q=>lt_int q
theorem Ky:eN X (compareOp .LtE) (xA λi j=>.bl (decide (i <= j))):=yL λ_ _ _ _ _ _ _ q=>le_int q
theorem Kx:eN X (compareOp .Gt) (xA λi j=>.bl (decide (j<i))):=yL λ_ _ _ _ _ _ _ q=>gt_int q
theorem Kw:eN X (compareOp .GtE) (xA λi j=>.bl (decide (j <= i))):=yL λ_ _ _ _ _ _ _ q=>ge_int q
theorem EF:eN X (compareOp .Is) (λx y H Q=>y = .bt /\ Q (.bl (decide (x = .bt))) H):=by
  intro pins s σ H x y v u Q I rx ry h;obtain⟨rfl,q⟩:=h;cases ry;refine is_none_gen (CN I q ?_);cases x<;>first
    | (cases rx;rfl)
    | (obtain⟨t,rfl⟩:=rx;rfl)
theorem eN.or{f:Value -> Value -> Sem Value} {r r':R2} (h:eN X f r) (h':eN X f r'):eN X f (λx y H Q=>r x y H Q \/ r' x y H Q):=by
  intro pins s σ H x y v u Q I rx ry q;rcases q with q | q
  · exact h pins s σ H x y v u Q I rx ry q
  · exact h' pins s σ H x y v u Q I rx ry q
theorem vL(b:Expr) {op:CmpOp} (h:op ≠ .In:=by decide) (h2:op ≠ .NotIn:=by decide):behindInMarks op b = false:=by
  have e1:(op == CmpOp.In) = false:=by cases op<;>first | rfl | exact absurd rfl h
  have e2:(op == CmpOp.NotIn) = false:=by cases op<;>first | rfl | exact absurd rfl h2
  cases b<;>simp [behindInMarks,e1,e2]
theorem yV{op:CmpOp} {r:R2} (ho:eN X (compareOp op) r) (ha:PE X a ta) (hb:PE X b tb) (hm:behindInMarks op b = false):PE X (.Compare a [op] [b] pos) (Hg r ta tb):=by
  intro pins s σ H Q I h;exact wpAny_Compare1 (BI ha hb I h λv u s2 x y H2 I2 rx ry q=>ho pins s2 σ H2 x y v u Q I2 rx ry q) hm
noncomputable def A5(t:TE):TT:=λσ H Q=>t σ H λx H'=>∃k,x = .bl k /\ Q k H'
theorem zk{op:CmpOp} {r:R2} (ho:eN X (compareOp op) r) (ha:PE X a ta) (hb:PE X b tb) (hm:behindInMarks op b = false):PT X (.Compare a [op] [b] pos) (A5 (Hg r ta tb)):=by
  intro pins s σ H Q I h;refine wpAny_isTrue_Compare1 (cp (ha pins s σ H _ I h) λv s1 ⟨x,H1,I1,r1,q1⟩=>cp (hb pins s1 σ H1 _ I1 q1) λu s2 ⟨y,H2,I2,r2,q2⟩ =>
    cp (ho pins s2 σ H2 x y v u _ I2 r1 r2 q2) λc s3 ⟨z,H3,I3,r3,k,e,q3⟩=>?_) hm
  subst e;cases r3;exact wpAny_truthy_bool ⟨H3,I3,q3⟩
noncomputable def wH(r r':R2) (ta tb tc:TE):TE:=λσ H Q=>ta σ H λx H1=>tb σ H1 λy H2=>r x y H2 λz H3=>∃k,z = .bl k /\
  (if k = true then tc σ H3 λw' H4=>r' y w' H4 Q else Q (.bl false) H3)
theorem wj{op Ez:CmpOp} {r r':R2} (ho:eN X (compareOp op) r) (vn:eN X (compareOp Ez) r') (ha:PE X a ta) (hb:PE X b tb) (hc:PE X c tc)
    (hm:lastMarks [op,Ez] [b,c] = false:=by with_unfolding_all rfl):PT X (.Compare a [op,Ez] [b,c] pos) (A5 (wH r r' ta tb tc)):=by
  intro pins s σ H Q I h;refine isTrue_chain (cp (ha pins s σ H _ I h) λv s1 ⟨x,H1,I1,r1,q1⟩=>test_link (cp (hb pins s1 σ H1 _ I1 q1) λu s2 ⟨y,H2,I2,r2,q2⟩ =>
    cp (ho pins s2 σ H2 x y v u _ I2 r1 r2 q2) λd s3 ⟨z,H3,I3,r3,k,e,q3⟩=>?_)) hm
  subst e;cases r3;refine wpAny_truthy_bool ?_;cases k with
  | false =>
    obtain⟨k',e',q'⟩:=q3;cases e';exact ite_ff ⟨H3,I3,q'⟩
  | true =>
    refine ite_tt (test_last (cp (hc pins s3 σ H3 _ I3 q3) λw' s4 ⟨z',H4,I4,r4,q4⟩=>cp (vn pins s4 σ H4 y z' u w' _ I4 r2 r4 q4) λd' s5 ⟨z2,H5,I5,r5,k2,e2,q5⟩=>?_));subst e2;cases r5;exact wpAny_truthy_bool ⟨H5,I5,q5⟩
noncomputable def HC(K:PySem.W.Frag) (x:V) (H:Hp) (k:Bool):Prop:=
  match x with
  | .bt=>k = false
  | .bl b=>k = b
  | .int i=>k = (i != 0)
  | .str y=>y.length <= sizeLine /\ k = ((y.length:Int) != 0)
  | .HP y=>y.size <= sizeLine /\ k = ((y.size:Int) != 0)
  | .ref p=>(∃xs,eO K H p xs /\ k = !xs.isEmpty) \/ (∃xs,iW K H p xs /\ k = !xs.isEmpty) \/ ∃b6,H p = some (.dK b6) /\ k = !b6.isEmpty
  | _=>False
theorem pE{κ:Type} {b6:List (κ × V)} {vs:List (κ × Value)} (r:KV b6 vs):(!vs.isEmpty) = !b6.isEmpty:=by
  cases r<;>rfl
theorem jy{xs:List V} {its:List Value} (r:Vals xs its):(!its.toArray.isEmpty) = !xs.isEmpty:=by
  cases r<;>simp
theorem fY:(sizeLine:Nat)<2 ^ 63:=by rw [sizeLine_eq];decide
theorem GV:M4 X (λx H Q=>∃k,HC X.K x H k /\ Q k H):=by
  intro pins s σ H x v Q I rx h;obtain⟨k,e,q⟩:=h;have hl:=fY;have hs:sizeLine = 16777216:=sizeLine_eq;cases x with
  | bt =>
    cases rx;have e':k = false:=e;subst e';exact truthy_none ⟨H,I,q⟩
  | bl b =>
    cases rx;have e':k = b:=e;subst e';exact wpAny_truthy_bool ⟨H,I,q⟩
  | int i =>
    obtain⟨t,rfl⟩:=rx;have e':k = (i != 0):=e;subst e';exact PySem.P.truthy_int ⟨H,I,q⟩
  | str y =>
    obtain⟨t,rfl⟩:=rx;obtain⟨hy,e'⟩:y.length <= sizeLine /\ k = ((y.length:Int) != 0):=e;subst e';exact PySem.P.truthy_str ⋯ ⟨H,I.tok _,q⟩
  | HP y =>
    obtain⟨t,rfl⟩:=rx;obtain⟨hy,e'⟩:y.size <= sizeLine /\ k = ((y.size:Int) != 0):=e;subst e';exact PySem.W.truthy_bytes ⋯ ⟨H,I.tok _,q⟩
  | ref p =>
    cases rx;have e':(∃xs,eO X.K H p xs /\ k = !xs.isEmpty) \/ (∃xs,iW X.K H p xs /\ k = !xs.isEmpty) \/ ∃b6,H p = some (.dK b6) /\ k = !b6.isEmpty:=e;rcases e' with⟨xs,hx,e'⟩ | ⟨xs,hx,e'⟩ | ⟨b6,hx,e'⟩
    · subst e'
      obtain⟨its,r,pl,hz⟩:=I.list hx;have hlen:=r.length;exact wpAny_truthy_list pl.isList (by simp only [List.size_toArray];omega) ⟨H,I.tok _,by rw [jy r];exact q⟩
    · subst e'
      obtain⟨its,r,pl,hz⟩:=I.tuple hx;have hlen:=r.length;exact truthy_tuple pl (by simp only [List.size_toArray];omega) ⟨H,I.tok _,by rw [jy r];exact q⟩
    · subst e'
      obtain⟨hz,hS,vs,r,m⟩:b6.length <= sizeLine /\ (p == sysModules) = false /\ ∃vs,KV b6 vs /\ s.heap.DictOf (mC X.prog X.w) p vs:=I.bo p _ hx;have hlen:b6.length = vs.length:=Paired.length r;exact wpAny_truthy_dict hS m ⋯ ⟨H,I.tok _,by rw [pE r];exact q⟩
  | _=>exact(show False from e).elim
theorem wk(ha:PE X a ta) (he:∀whole,isTrue a X.env whole = (do let v <- whole;standAt a.pos;holding [v] (truthy v))):
    PT X a (λσ H Q=>ta σ H λx H'=>∃k,HC X.K x H' k /\ Q k H'):=by
  intro pins s σ H Q I h;exact isTrue_plain (cp (ha pins s σ H _ I h) λv s1 ⟨x,H1,I1,r1,q1⟩=>GV pins s1 σ H1 x v Q I1 r1 q1) (he _)
theorem pL:eN X (binaryOp .Add) (λx y H Q=>∃i j,x = .str i /\ y = .str j /\ i.length+j.length <= sizeLine /\ Q (.str (i ++ j)) H):=by
  intro pins s σ H x y v u Q I rx ry h;obtain⟨i,j,rfl,rfl,hz,q⟩:=h;obtain⟨t,rfl⟩:=rx;obtain⟨t',rfl⟩:=ry;exact add_str (λt' tk=>⟨.str (i ++ j),H,I.tok _,⟨_,rfl⟩,q⟩) hz
theorem vals1{x:V} {us:List Value} (r:Vals [x] us):∃u,us = [u] /\ RelV x u:=by
  cases r with
  | cons r1 r2=>cases r2;exact⟨_,rfl,r1⟩
theorem vals2{x y:V} {us:List Value} (r:Vals [x,y] us):∃u w',us = [u,w'] /\ RelV x u /\ RelV y w':=by
  cases r with
  | cons r1 r2 =>
    cases r2 with
    | cons r3 r4=>cases r4;exact⟨_,_,rfl,r1,r3⟩
theorem rV(hc:X.calm = true):cb X (.builtin "max") (λxs H Q=>∃i j,xs = [.int i,.int j] /\ Q (.int (if j>i then j else i)) H):=by
  intro pins s σ H xs us Q I r h;obtain⟨i,j,rfl,q⟩:=h;obtain⟨u,w',rfl,⟨t,rfl⟩,⟨t',rfl⟩⟩:=vals2 r;refine max_two_ints (I.ok.hd hc) λh' tk k=>⟨_,H,I.kept k,?_,q⟩
  by_cases hj:j>i
  · rw [if_pos hj,if_pos hj];exact⟨_,rfl⟩
  · rw [if_neg hj,if_neg hj];exact⟨_,rfl⟩
theorem rW(hc:X.calm = true):cb X (.builtin "min") (λxs H Q=>∃i j,xs = [.int i,.int j] /\ Q (.int (if j<i then j else i)) H):=by
  intro pins s σ H xs us Q I r h;obtain⟨i,j,rfl,q⟩:=h;obtain⟨u,w',rfl,⟨t,rfl⟩,⟨t',rfl⟩⟩:=vals2 r;refine min_two_ints (I.ok.hd hc) λh' tk k=>⟨_,H,I.kept k,?_,q⟩
  by_cases hj:j<i
  · rw [if_pos hj,if_pos hj];exact⟨_,rfl⟩
  · rw [if_neg hj,if_neg hj];exact⟨_,rfl⟩
theorem rT:cb X (.type "int") (λxs H Q=>(∃i,xs = [.int i] /\ Q (.int i) H) \/ ∃k,xs = [.bl k] /\ Q (.int (if k then 1 else 0)) H):=by
  intro pins s σ H xs us Q I r h;rcases h with⟨i,rfl,q⟩ | ⟨k,rfl,q⟩
  · obtain⟨u,rfl,t,rfl⟩:=vals1 r
    exact call_int_int ⟨.int i,H,I,⟨_,rfl⟩,q⟩
  · obtain⟨u,rfl,r1⟩:=vals1 r
    cases r1;exact call_int_bool ⟨.int (if k then 1 else 0),H,I.tok _,⟨_,rfl⟩,q⟩
theorem lK:cb X (.type "str") (λxs H Q=>∃i,xs = [.int i] /\ i.natAbs.log2<1920 /\ Q (.str (toString i)) H):=by
  intro pins s σ H xs us Q I r h;obtain⟨i,rfl,hz,q⟩:=h;obtain⟨u,rfl,t,rfl⟩:=vals1 r;exact PySem.P.str_of_int hz ⟨.str _,H,I.tok _,⟨_,rfl⟩,q⟩
end
end L2
namespace L2
open PySem PySem.Spec PyProof.Rows
structure Bm(h:Heap) (x dx C:Addr) (mA:Str -> Option Value):Prop where
  obj:h.get? x = some (PySem.W.instObj C dx)
  ns:h.Ns1 dx mA
  ne:dx ≠ x
theorem so{h:Heap} {dx:Addr} {mA:Str -> Option Value} (n:h.Ns1 dx mA):∃od,h.get? dx = some od /\ ∀name,PySem.W.lookIn name od = some (mA name):=by
  obtain⟨o,es,ep,ho,hd,hk,_,hm⟩:=n;refine⟨o,ho,λname=>?_⟩;have e:=hm name;unfold nsFind findBy at e;rw [<- Array.find?_toList]at e;unfold PySem.W.lookIn;rw [hd];dsimp only
  split
  · rename_i y q
    rw [q]at e;exact congrArg some e
  · rename_i q
    rw [q]at e;have a:es.toList.any (·.refKey) = false:=by
      rw [List.any_eq_false];intro y hy;obtain⟨z,t,NV⟩:=hk y (Array.mem_toList_iff.mp hy);simp [DictEntry.refKey,NV]
    have a':¬es.toList.any (·.refKey) = true:=by rw [a];exact Bool.false_ne_true
    rw [if_neg a'];exact congrArg some e
theorem Bm.look{h:Heap} {x dx C:Addr} {mA:Str -> Option Value} (I:Bm h x dx C mA):∃od,PySem.W.InstAt h x (PySem.W.instObj C dx) C (some od) /\ ∀name,PySem.W.lookIn name od = some (mA name):=
  let ⟨od,ho,hl⟩:=so I.ns
  ⟨od,⟨I.obj,rfl,rfl,ho⟩,hl⟩
section
variable {P:Program} {w:World} {H H':Hp} {h h':Heap} {a C dx:Addr} {fs Q0:List (Str × V)}
theorem yo(bo:eL P w H h) (e:H a = some (.ins C dx fs)):∃mA,Bm h a dx C mA /\ (∀f,Bo (fs.lookup f) (mA f)) /\ PySem.Within mA (fs.map (·.1)) /\ fs.length <= 1000 /\ H dx = some (.own a):=by
  obtain⟨d,z,ne,ob,mA,n,r,q⟩:=(show bQ P w H h a (.ins C dx fs)from bo a _ e)
  exact⟨mA,⟨ob,n,ne⟩,r,q,z,d⟩
end
structure MR(K:PySem.W.Frag) (C:Addr):Prop where
  pg:PySem.W.plainGet K C Str.empty = true
  hd:PySem.W.hasDictIn K C = true
  po:PySem.W.plainOver K C = true
  sa:PySem.W.findIn K (.ref C) "__setattr__" = some (some (.builtin "object.__setattr__"))
theorem MR.get{K:PySem.W.Frag} {C:Addr} (c:MR K C) (f:Str):PySem.W.plainGet K C f = true:=c.pg
section
variable {X:Cx} {o e value:Expr} {f:Str} {pos pos' iE:Pos} {ta tv:TE}
noncomputable def zp:V -> V -> Hp -> VK -> Prop:=λx y H Q=>∃i j,x = .int i /\ y = .int j /\ Q (.int (i+j)) H
end
section
variable {X:Cx} {pins:List (Addr × Obj)} {σ:St} {H:Hp} {s:Shared} {A:Around} {E:Value -> Shared -> Prop} {Q:Value -> Shared -> Prop} {c:Value} {b:Bool}
inductive gj (K:PySem.W.Frag) (H:Hp):V -> Value -> Prop where
  | bt:gj K H .bt (.type "NoneType")
  | bl (x:Bool):gj K H (.bl x) (.type "bool")
  | int (i:Int):gj K H (.int i) (.type "int")
  | str (x:Str):gj K H (.str x) (.type "str")
  | CO (x:UInt64):gj K H (.CO x) (.type "float")
  | lst {a:Addr} {xs:List V} (e:H a = some (.lst xs)):gj K H (.ref a) (.type "list")
  | kj {a:Addr} {o:Obj} {xs:List V} (e:H a = some (.kj o (.lst xs))):gj K H (.ref a) (.type "list")
  | tup {a:Addr} {xs:List V} (e:H a = some (.tup xs)):gj K H (.ref a) (.type "tuple")
  | dK {a:Addr} {b6:List (Key × V)} (e:H a = some (.dK b6)):gj K H (.ref a) (.type "dict")
  | dT {a:Addr} {b6:List (List Key × V)} (e:H a = some (.dT b6)):gj K H (.ref a) (.type "dict")
  | ins {a C dx:Addr} {fs:List (Str × V)} (e:H a = some (.ins C dx fs)) (cl:MR K C) (ha:PySem.W.findIn K (.ref C) "__class__" = some (some (.builtin "object.__class__")))
      (hn:PySem.W.specialIn K (.builtin "object.__class__") "__get__" = some (some (.builtin "getset_descriptor.__get__"))) (PU:PySem.W.takesIn K (.builtin "object.__class__") = some true)
      (hm:PySem.W.mroIn K C (.type "object") = some true):gj K H (.ref a) (.ref C)
theorem kQ{x:V} {u t:Value} (I:Inv X pins σ H s) (rx:RelV x u) (ty:gj X.K H x t) (e:PySem.W.kitOne X.K t c = some b) (h:∀tk,Q (.bool b) {s with toks:=tk}):
    wpAny (model X.prog X.w) A (call (.builtin "isinstance") [u,c]) Q E s:=by
  cases ty with
  | bt=>cases(show u = Value.none from rx);exact PySem.W.kia_one PySem.W.kitx_none I.i7 True.intro e (λz=>nomatch z) h
  | bl y=>cases(show u = Value.bool y from rx);exact PySem.W.kia_one PySem.W.kitx_bool I.i7 True.intro e (λz=>nomatch z) h
  | int i=>obtain⟨t,q⟩:=(show∃t,u = Value.int i t from rx);cases q;exact PySem.W.kia_one PySem.W.kitx_int I.i7 True.intro e (λz=>nomatch z) h
  | str y=>obtain⟨t,q⟩:=(show∃t,u = Value.str y t from rx);cases q;exact PySem.W.kia_one PySem.W.kitx_str I.i7 True.intro e (λz=>nomatch z) h
  | CO y=>obtain⟨t,q⟩:=(show∃t,u = Value.float y t from rx);cases q;exact PySem.W.kia_one PySem.W.kitx_float I.i7 True.intro e (λz=>nomatch z) h
  | @lst a xs ea =>
    cases(show u = Value.ref a from rx)
    obtain⟨_,_,n,_,h1⟩:=(show bQ X.prog X.w H s.heap a (.lst xs)from I.bo a _ ea)
    exact PySem.W.kia_one PySem.W.kitx_list I.i7 ⟨_,h1,rfl⟩ e (λz=>nomatch z) h
  | @kj a ob xs ea =>
    cases(show u = Value.ref a from rx)
    obtain⟨_,_,_,n,_,h1⟩:=(show bQ X.prog X.w H s.heap a (.kj ob (.lst xs))from I.bo a _ ea)
    exact PySem.W.kia_one PySem.W.kitx_list I.i7 ⟨_,h1,rfl⟩ e (λz=>nomatch z) h
  | @tup a xs ea =>
    cases(show u = Value.ref a from rx)
    obtain⟨_,_,_,p⟩:=(show bQ X.prog X.w H s.heap a (.tup xs)from I.bo a _ ea)
    obtain⟨o,h1,h2,_⟩:=p;exact PySem.W.kia_one PySem.W.kitx_tuple I.i7 ⟨o,h1,h2⟩ e (λz=>nomatch z) h
  | @dK a b6 ea =>
    cases(show u = Value.ref a from rx)
    obtain⟨_,_,vs,_,p⟩:=(show bQ X.prog X.w H s.heap a (.dK b6)from I.bo a _ ea)
    obtain⟨o,es,ep,h1,h2,_⟩:=p;exact PySem.W.kia_one PySem.W.kitx_dict I.i7 ⟨o,h1,h2.1⟩ e (λz=>nomatch z) h
  | @dT a b6 ea =>
    cases(show u = Value.ref a from rx)
    obtain⟨_,_,xs,_,o,es,ep,h1,h2,_⟩:=(show bQ X.prog X.w H s.heap a (.dT b6)from I.bo a _ ea)
    exact PySem.W.kia_one PySem.W.kitx_dict I.i7 ⟨o,h1,h2.1⟩ e (λz=>nomatch z) h
  | @ins a C dx fs ea cl ha hn PU hm =>
    cases(show u = Value.ref a from rx)
    obtain⟨mA,O,_⟩:=yo I.bo ea;obtain⟨od,J,_⟩:=O.look;exact PySem.W.kia_one (PySem.W.kitx_own (cl.get _) cl.hd ha hn PU hm) I.i7 J e (λz=>nomatch z) h
end
end L2
namespace L2
open PySem PySem.Spec PyProof.Rows
structure fH(k:Nat) (A:Around):Prop where
  hd:A.handled = none
  dp:A.depth+3*k+5<recursionLimit
  un:A.units+16*k+200<cLine
theorem fH.mono{j k:Nat} {A:Around} (r:fH k A) (h:j <= k):fH j A:=⟨r.hd,by have:=r.dp;omega,by have:=r.un;omega⟩
theorem fH.deeper{k:Nat} {A:Around} (r:fH (k+1) A) (env:Env):fH k (A.deeper env):=
  ⟨r.hd,by have:=r.dp;show A.depth+1+3*k+5<_;omega,by have:=r.un;show A.units+3+16*k+200<_;omega⟩
theorem fH.depth{k:Nat} {A:Around} (r:fH k A):A.depth<recursionLimit:=by have:=r.dp;omega
noncomputable def hX:TA:=λ_ H Q=>Q [] H
noncomputable def cv(ta:TE) (tr:TA):TA:=λσ H Q=>ta σ H λx H1=>tr σ H1 λxs H2=>Q (x :: xs) H2
section
variable {X:Cx} {e:Expr} {es:List Expr} {te:TE} {t:TA} {pos:Pos}
theorem cG:PA X [] hX:=λ_ _ _ _ H Q I h=>Calls.spliced_nil ⟨[],H,I,.nil,h⟩
theorem bA(ha:PE X e te) (hr:PA X es t) (hs:starEach (e :: es) X.env = (false,eval e X.env) :: starEach es X.env:=by rfl):PA X (e :: es) (cv te t):=by
  intro pos pins s σ H Q I h;rw [hs];show wpAny _ _ (spliced ((false,eval e X.env) :: backTo pos (starEach es X.env))) _ _ s;refine Calls.spliced_cons (cp (ha pins s σ H _ I h) λu s1 ⟨x,H1,I1,r1,q1⟩=>?_);exact cp (hr pos pins s1 σ H1 _ I1 q1) λus s2 ⟨xs,H2,I2,r2,q2⟩=>⟨x :: xs,H2,I2,.cons r1 r2,q2⟩
noncomputable def GH(t:TA):TE:=λσ H Q=>t σ H λxs H1=>xs.length <= sizeLine /\ ∀p,H1 p = none -> Q (.ref p) (upd H1 p (.tup xs))
noncomputable def O6(t:TA):TE:=λσ H Q=>t σ H λxs H1=>xs.length <= sizeLine /\ ∀p,H1 p = none -> Q (.ref p) (upd H1 p (.lst xs))
theorem vV{x1} (h:PA X es t):PE X (.Tuple es x1 pos) (GH t):=by
  intro pins s σ H Q I hq;refine wpAny_Tuple_spliced (cp (h pos pins s σ H _ I hq) λus s1 ⟨xs,H1,I1,r,z,q⟩=>⟨by rw [<- r.length];exact z,?_⟩)
  have hf:H1 s1.heap.objs.size = none:=I1.bo.fresh (Nat.le_refl _);refine⟨.ref s1.heap.objs.size,upd H1 s1.heap.objs.size (.tup xs),I1.laid (t':=s1.toks) (λb u e=>Heap.get?_push_of_some _ e) (Nat.le_refl _) ?_,rfl,q _ hf⟩;exact⟨z,us,r,⟨_,Heap.get?_push_size _ rfl,rfl,_,rfl⟩⟩
theorem Fc(h:PA X es t):PE X (.List es pos) (O6 t):=by
  intro pins s σ H Q I hq;refine wpAny_List_spliced (cp (h pos pins s σ H _ I hq) λus s1 ⟨xs,H1,I1,r,z,q⟩=>⟨by rw [<- r.length];exact z,?_⟩)
  have hf:H1 s1.heap.objs.size = none:=I1.bo.fresh (Nat.le_refl _);refine⟨.ref s1.heap.objs.size,upd H1 s1.heap.objs.size (.lst xs),I1.laid (t':=s1.toks) (λb u e=>Heap.get?_push_of_some _ e) (Nat.le_refl _) ?_,rfl,q _ hf⟩;exact⟨z,us,0,r,Heap.get?_push_size _ rfl⟩
end
noncomputable abbrev Sp:=List V -> Hp -> VK -> XK -> Prop
noncomputable abbrev rG:=List Env -> Hp -> Shared -> XK -> Value -> Shared -> Prop
structure rJ(P:Program) (w:World) (K:PySem.W.Frag) (mg:Str -> Option Value) (base:Heap) (A:Around) (outer:List Env) (s:Shared) (H:Hp):Prop where
  frames:A.frames = some outer
  mod:Mod K mg base
  bs:∀b o,base.get? b = some o -> s.heap.get? b = some o /\ H b = none
  rQ:base.objs.size <= s.heap.objs.size
  fI:s.heap.FunFrames base outer
  uW:∀b ∈ gq outer,H b = none
  bo:eL P w H s.heap
  bare:AllBare s.gens
noncomputable def CE(outer:List Env) (P:Program) (w:World) (H:Hp) (s:Shared) (Q:VK) (u:Value) (s':Shared):Prop:=
  ∃v H',s'.os = s.os /\ AllBare s'.gens /\ Un (gq outer) [] H H' s.heap s'.heap /\ eL P w H' s'.heap /\ RelV v u /\ Q v H'
noncomputable def CR(CX:rG) (outer:List Env) (P:Program) (w:World) (H:Hp) (s:Shared) (Q:VK) (E:XK) (r:Result) (s':Shared):Prop:=
  match r with
  | .ok (.ret u)=>CE outer P w H s Q u s'
  | .ok _=>False
  | .error e=>CX outer H s E e s'
structure dy(P:Program) (w:World) (K:PySem.W.Frag) (mg:Str -> Option Value) (base:Heap) (CX:rG) (k:Nat) (f:Addr) (fd:FuncData) (ps:List Str) (sp:Sp):Prop where
  len:∀vs H Q E,sp vs H Q E -> vs.length = ps.length
  run:∀(A:Around) (outer:List Env) (s:Shared) (H:Hp) (args:Args) (us:List Value) (vs:List V) (Q:VK) (E:XK),fH k A -> rJ P w K mg base A outer s H -> BindsTo s fd args (ps.zip us) -> Vals vs us -> sp vs H Q E ->
    codeAny (model P w) A (.call (.ref f) args) (CR CX outer P w H s Q E) s
theorem dy.mono{P:Program} {w:World} {K:PySem.W.Frag} {mg:Str -> Option Value} {base:Heap} {CX:rG} {j k:Nat} {f:Addr} {fd:FuncData} {ps:List Str} {sp:Sp} (F:dy P w K mg base CX j f fd ps sp) (h:j <= k):
    dy P w K mg base CX k f fd ps sp:=⟨F.len,λA outer s H args us vs Q E hr=>F.run A outer s H args us vs Q E (hr.mono h)⟩
theorem dy.imp{P:Program} {w:World} {K:PySem.W.Frag} {mg:Str -> Option Value} {base:Heap} {CX:rG} {k:Nat} {f:Addr} {fd:FuncData} {ps:List Str} {sp Qy:Sp} (F:dy P w K mg base CX k f fd ps sp)
    (h:∀vs H Q E,Qy vs H Q E -> sp vs H Q E):dy P w K mg base CX k f fd ps Qy:=
  ⟨λvs H Q E q=>F.len vs H Q E (h _ _ _ _ q),λA outer s H args us vs Q E hr he hb hv hs=>F.run A outer s H args us vs Q E hr he hb hv (h _ _ _ _ hs)⟩
section
variable {X:Cx} {pins:List (Addr × Obj)} {σ:St} {H:Hp} {s s':Shared}
theorem Inv.Cw(I:Inv X pins σ H s):rJ X.prog X.w X.K X.mg X.base X.A X.stack s H:=
  ⟨I.ok.frames,I.ok.mod,I.bs,Nat.le_trans I.ok.rQ I.sz,I.stack,I.hG,I.bo,I.bare⟩
theorem Inv.after{Q:VK} {u:Value} (I:Inv X pins σ H s) (h:CE X.stack X.prog X.w H s Q u s'):EP X pins σ Q u s':=by
  obtain⟨v,H',os,bare,un,bo,r,q⟩:=h;obtain⟨hh,g,d,t,Sv⟩:=s';obtain rfl:Sv = s.os:=os;exact⟨v,H',I.call (h':=hh) (g':=g) (d':=d) (t':=t) (ch:=[]) un bo bare (λb z=>absurd z (by simp)),r,q⟩
end
noncomputable def LU(sp:Sp) (dvs:List V) (E:XK) (t:TA):TE:=λσ H Q=>t σ H λvs H1=>sp (vs ++ dvs) H1 Q E
noncomputable def Binds(K:PySem.W.Frag) (fd:FuncData) (ps:List Str) (ds:List Value):Prop:=
  ∀(s:Shared) (us:List Value),K.In s.heap -> (us ++ ds).length = ps.length -> BindsTo s fd ⟨us,[]⟩ (ps.zip (us ++ ds))
theorem Binds.all{K:PySem.W.Frag} {fd:FuncData} {ps:List Str} (h:∀us:List Value,us.length = ps.length -> bindArgs fd ⟨us,[]⟩ = pure (ps.zip us)):Binds K fd ps []:=λs us _ hl=>by
  rw [List.append_nil]at hl ⊢;exact .of_eq (h us hl)
noncomputable def Passes(CX:rG) (X:Cx) (E:XK):Prop:=∀(pins:List (Addr × Obj)) (σ:St) (H:Hp) (s:Shared) (e:Value) (s':Shared),Inv X pins σ H s -> CX X.stack H s E e s' -> X.xe e s'
section
variable {X:Cx} {CX:rG} {k:Nat} {f C:Addr} {fd:FuncData} {ps:List Str} {sp:Sp} {dvs:List V} {ds:List Value} {E:XK} {x m:Str} {p pos apos:Pos} {e o:Expr} {es:List Expr} {ta:TE} {t:TA}
theorem FR{pins:List (Addr × Obj)} {σ:St} {H:Hp} {s:Shared} {Q:VK} {us:List Value} {vs:List V} (F:dy X.prog X.w X.K X.mg X.base CX k f fd ps sp) (hr:fH k X.A) (hb:Binds X.K fd ps ds) (hd:Vals dvs ds) (hx:Passes CX X E)
    (I:Inv X pins σ H s) (r:Vals vs us) (h:sp (vs ++ dvs) H Q E):wpAny (model X.prog X.w) X.A (call (.ref f) us) (EP X pins σ Q) X.xe s:=by
  have r2:Vals (vs ++ dvs) (us ++ ds):=r.append hd;have hl:(us ++ ds).length = ps.length:=by rw [<- r2.length];exact F.len _ _ _ _ h
  refine wpAny_call (codeAny_mono (F.run X.A X.stack s H ⟨us,[]⟩ (us ++ ds) (vs ++ dvs) Q E hr I.Cw (hb s us I.i7 hl) r2 h) λr s' hq=>?_);cases r with
  | error e=>exact hx pins σ H s e s' I hq
  | ok fl =>
    cases fl with
    | ret u=>exact I.after hq
    | next=>exact False.elim hq
    | brk=>exact False.elim hq
    | cont=>exact False.elim hq
theorem yU(F:dy X.prog X.w X.K X.mg X.base CX k f fd ps sp) (hr:fH k X.A) (hg:Gl X x) (hm:X.mg x = some (.ref f)) (hk:PySem.W.keepIn X.K (.ref f) = true) (hb:Binds X.K fd ps ds) (hd:Vals dvs ds) (hx:Passes CX X E)
    (ha:PA X (e :: es) t) (me:(x == ("__debug__":Str)) = false:=by decide) (he:starEach (e :: es) X.env = (false,eval e X.env) :: starEach es X.env:=by rfl) (i3:(backTo pos (starEach es X.env)).any (·.1) = false:=by rfl):
    PE X (.Call (.Name x p) (e :: es) [] pos) (LU sp dvs E t):=by
  intro pins s σ H Q I h;refine wpAny_Call_Name_kw (fz I hg hm ?_ me);refine PySem.W.callWith_K (h₀:=X.base) I.ok.mod.DU hk (cp (ha pos pins s σ H _ I h) λus s1 ⟨vs,H1,I1,r,q⟩=>⟨I1.i7,?_⟩) he i3;exact FR F hr hb hd hx I1 r q
end
structure aV(N P:List Str) (sc:Scope):Prop where
  kind:sc.kind = .function
  co:sc.isCoroutine = false
  gen:sc.isGenerator = false
  nd:N.Nodup
  pre:N.take P.length = P
  par:∀x ∈ P,sc.names.lookup x = some .local \/ sc.names.lookup x = some .cell
  D3:∀y ∈ sc.names,y.2 ≠ .free
theorem kE{kindOf:Str -> Option NameKind} {x:Str}:∀ {binds:List (Str × Value)} {m:Str -> Option Value},(∀v,(x,v) ∉ binds) -> bindL kindOf binds m x = m x
  | [],_,_=>rfl
  | (n,v) :: r,m,h=>by
    unfold bindL;rw [kE λw hw=>h w (List.mem_cons_of_mem _ hw)]
    split
    · have:x ≠ n:=by rintro rfl;exact h v List.mem_cons_self
      simp [this]
    · rfl
theorem kB{kindOf:Str -> Option NameKind} {x:Str}:∀ {binds:List (Str × Value)} {m:Str -> Option Value},(∀v,(x,v) ∉ binds) -> bindC kindOf binds m x = m x
  | [],_,_=>rfl
  | (n,v) :: r,m,h=>by
    unfold bindC;rw [kB λw hw=>h w (List.mem_cons_of_mem _ hw)]
    split
    · rfl
    · have:x ≠ n:=by rintro rfl;exact h v List.mem_cons_self
      simp [this]
theorem kC{kindOf:Str -> Option NameKind} {x:Str} {v:Value}:∀ {P:List Str} {vs:List Value} {i:Nat} {m:Str -> Option Value},P.Nodup -> P[i]? = some x -> vs[i]? = some v -> kindOf x = some .local ->
    bindL kindOf (P.zip vs) m x = some v
  | [],_,_,_,_,h,_,_=>by simp at h
  | _ :: _,[],_,_,_,_,h,_=>by simp at h
  | p :: P,w :: vs,0,m,nd,h1,h2,hk=>by
    simp at h1 h2;subst h1;subst h2;show bindL kindOf ((p,w) :: P.zip vs) m p = _;unfold bindL;rw [kE λv hv=>(List.nodup_cons.mp nd).1 (List.of_mem_zip hv).1,if_pos hk];simp
  | p :: P,w :: vs,i+1,m,nd,h1,h2,hk=>by
    show bindL kindOf ((p,w) :: P.zip vs) m x = _;unfold bindL;exact kC (i:=i) (List.nodup_cons.mp nd).2 (by simpa using h1) (by simpa using h2) hk
theorem kA{kindOf:Str -> Option NameKind} {x:Str} {v:Value}:∀ {P:List Str} {vs:List Value} {i:Nat} {m:Str -> Option Value},P.Nodup -> P[i]? = some x -> vs[i]? = some v -> kindOf x ≠ some .local ->
    bindC kindOf (P.zip vs) m x = some v
  | [],_,_,_,_,h,_,_=>by simp at h
  | _ :: _,[],_,_,_,_,h,_=>by simp at h
  | p :: P,w :: vs,0,m,nd,h1,h2,hk=>by
    simp at h1 h2;subst h1;subst h2;show bindC kindOf ((p,w) :: P.zip vs) m p = _;unfold bindC;rw [kB λv hv=>(List.nodup_cons.mp nd).1 (List.of_mem_zip hv).1,if_neg hk];simp
  | p :: P,w :: vs,i+1,m,nd,h1,h2,hk=>by
    show bindC kindOf ((p,w) :: P.zip vs) m x = _;unfold bindC;exact kA (i:=i) (List.nodup_cons.mp nd).2 (by simpa using h1) (by simpa using h2) hk
noncomputable def start(N:List Str) (vs:List V):St:=vs.map some ++ List.replicate (N.length-vs.length) none
noncomputable def lQ(CX:rG) (P:Program) (w:World) (K:PySem.W.Frag) (mg:Str -> Option Value) (base:Heap) (N:List Str) (qual:Str) (scope:Scope) (f:Addr) (cd:Value) (A:Around) (outer:List Env) (s:Shared) (H:Hp) (E:XK):Cx where
  prog:=P
  w:=w
  K:=K
  mg:=mg
  base:=base
  A:=A.deeper (envOfC qual scope s.heap.objs.size f cd)
  N:=N
  bB:=s
  eM:=H
  env:=envOfC qual scope s.heap.objs.size f cd
  outer:=outer
  stack:=envOfC qual scope s.heap.objs.size f cd :: outer
  ex:=[]
  calm:=true
  fn:=λ_=>true
  pn:=[]
  xe:=λe s'=>wpAny (model P w) (A.deeper (envOfC qual scope s.heap.objs.size f cd)) (leaving (envOfC qual scope s.heap.objs.size f cd) e) (λ_ Lc=>CX outer H s E e Lc) (λe' Lc=>CX outer H s E e' Lc) s'
theorem nG{sc:Scope} {n:Nat} {x:Str} (h:sc.names.lookup x = some .cell):∃c,(cellsFrom n sc.names []).lookup x = some c:=by
  have q:=PySem.W.cellsFrom_some sc.names n [] (.inl h);exact Option.isSome_iff_exists.mp q
theorem kO{CX:rG} {P:Program} {w:World} {K:PySem.W.Frag} {mg:Str -> Option Value} {base:Heap} {N ps:List Str} {qual:Str} {scope:Scope} {f:Addr} {cd:Value} {A:Around} {outer:List Env} {s s1:Shared} {H:Hp} {E:XK} {us:List Value} {vs:List V}
    (S:aV N ps scope) (hd:A.handled = none) (e0:rJ P w K mg base A outer s H) (hl:vs.length = ps.length) (r:Vals vs us)
    (x:InCallC s s.heap.objs.size (bindL (envOfC qual scope s.heap.objs.size f cd).kindOf (ps.zip us) λ_=>none) (cellsFrom (s.heap.objs.size+1) scope.names []) (bindC (envOfC qual scope s.heap.objs.size f cd).kindOf (ps.zip us) λ_=>none) s1):
    Inv (lQ CX P w K mg base N qual scope f cd A outer s H E) [] (start N vs) H s1:=by
  have i3:ps.length <= N.length:=by have:=congrArg List.length S.pre;rw [List.length_take]at this;omega
  obtain⟨h1,tk,rfl,hk⟩:=x.done;have JZ:∀b:Addr,b ∉ (lQ CX P w K mg base N qual scope f cd A outer s H E).ex:=λb z=>absurd (show b ∈ ([]:List Addr)from z) (by simp)
  refine⟨⟨e0.mod,S.kind,rfl,rfl,Nat.le_refl _,λy z c h1 h2=>?_,λy hy=>?_,λy c _ h=>?_,λ_=>hd,Around.frames_deeper e0.frames,.inr ⟨rfl,rfl⟩,λb z=>absurd z (JZ b),e0.bs,e0.rQ,λb _ _=>JZ b,λb z=>absurd z (JZ b),e0.fI,e0.uW⟩,
    rfl,e0.bare,Un.kept hk,⟨_,x.toInCall.ns,λi y v h1 h2 h3=>?_⟩,λy c h=>⟨_,x.cell y c h⟩,e0.bo.fresh (Nat.le_refl _),λy c h=>?_,λp hp=>absurd (show p ∈ ([]:List (Addr × Obj))from hp) (by simp),e0.bo.kept hk,?_⟩
  · exact name_of_addr x.apart (PySem.mem_of_lookup h1) (PySem.mem_of_lookup h2)
  · have hy:scope.names.lookup y = some .cell \/ scope.names.lookup y = some .free:=hy
    rcases hy with hy | hy
    · exact nG hy
    · exact absurd rfl (S.D3 _ (PySem.mem_of_lookup hy))
  · exact Nat.le_of_lt (x.above y c (PySem.mem_of_lookup h))
  · have hi:i<vs.length:=by
      unfold start at h2
      by_cases hi:i<vs.length
      · exact hi
      · rw [List.getElem?_append_right (by simpa using hi)]at h2
        rw [List.getElem?_replicate]at h2
        split at h2<;>cases h2
    have ha:vs[i]? = some v:=by
      unfold start at h2;rw [List.getElem?_append_left (by simpa using hi),List.getElem?_map]at h2
      cases e:vs[i]? with
      | none=>rw [e]at h2;cases h2
      | some a=>rw [e]at h2;cases h2;rfl
    obtain⟨u,hu,rv⟩:=r.get ha;have hp:ps[i]? = some y:=by
      rw [<- S.pre,List.getElem?_take_of_lt ⋯];exact h1
    have Qp:ps.Nodup:=by rw [<- S.pre];exact S.nd.sublist (List.take_sublist _ _)
    refine⟨u,rv,?_⟩;rcases S.par y (List.mem_of_getElem? hp)with k | k
    · exact .inl ⟨k,kC Qp hp hu k⟩
    · obtain⟨c,e⟩:=nG (n:=s.heap.objs.size+1) k
      refine .inr ⟨.inl k,c,e,?_⟩;have q:=x.cell y c e;rw [kA Qp hp hu (by show scope.names.lookup y ≠ _;rw [k];decide)]at q
      exact q
  · exact e0.bo.fresh (Nat.le_of_lt (x.above y c (PySem.mem_of_lookup h)))
  · unfold start
    show _ = N.length;rw [List.length_append,List.length_map,List.length_replicate];omega
theorem AF{CX:rG} {P:Program} {w:World} {K:PySem.W.Frag} {mg:Str -> Option Value} {base:Heap} {k:Nat} {f:Addr} {name qual:Str} {params:Arguments} {body:List Stmt} {scope:Scope} {dV kV doc pm fS ct oc:Value} {an od:Option Addr}
    {vP:Array (Option Value)} {N ps:List Str} {sp:Sp} (lk:K.lookup f = some ⟨oc,od,.func (PySem.W.fnOf name qual params body scope dV kV doc pm an fS ct),vP⟩) (jc:PySem.W.codeIn K fS qual = true) (S:aV N ps scope)
    (len:∀vs H Q E,sp vs H Q E -> vs.length = ps.length)
    (ve:∀(A:Around) (outer:List Env) (s:Shared) (H:Hp) (vs:List V) (Q:VK) (E:XK),fH k (A.deeper (envOfC qual scope s.heap.objs.size f fS)) -> sp vs H Q E ->
      ∃t,nu (lQ CX P w K mg base N qual scope f fS A outer s H E) body t /\ t {nx:=λ_ H'=>Q .bt H',rt:=Q} (start N vs) H):
    dy P w K mg base CX (k+1) f (PySem.W.fnOf name qual params body scope dV kV doc pm an fS ct) ps sp:=by
  refine⟨len,λA outer s H args us vs Q E hr e0 hb r oo=>?_⟩;have hl:=len _ _ _ _ oo;have KX:K.In s.heap:=e0.mod.DU.keeps λb o e=>(e0.bs b o e).1;have lim:s.heap.NoLimit:=e0.mod.nolimit.keeps λb o e=>(e0.bs b o e).1;have vm:∀y ∈ ps.zip us,scope.names.lookup y.1 = some .local \/ (scope.names.lookup y.1 = some .cell /\ ((cellsFrom (s.heap.objs.size+1) scope.names []).lookup y.1).isSome = true):=λ⟨n,v⟩ hy=>by
    rcases S.par n (List.of_mem_zip hy).1 with q | q
    · exact .inl q
    · exact .inr ⟨q,PySem.W.cellsFrom_some _ _ _ (.inl q)⟩
  refine codeAny_call_function hr.depth (KX _ _ lk) rfl S.co S.gen rfl (PySem.W.codeRec_of KX jc) (hb _ _ _ _ ?_);refine wpAny_newFunctionEnv_cells S.kind vm λenv he s1 x=>?_;subst he;refine⟨lim.keeps x.toInCall.keep,codeAny_func ?_⟩;obtain⟨t,ht,hq⟩:=ve A outer s H vs Q E (hr.deeper _) oo;have I:Inv (lQ CX P w K mg base N qual scope f fS A outer s H E) [] (start N vs) H s1:=kO S hr.hd e0 hl r x;refine wpAny_mono (ht [] s1 (start N vs) H _ I hq) (λfl s' hs=>?_) λe s' hs=>hs;have fin:∀ {bO:St} {H':Hp} {v:V} {u:Value},Inv (lQ CX P w K mg base N qual scope f fS A outer s H E) [] bO H' s' -> RelV v u -> Q v H' -> CE outer P w H s Q u s':=
    λ{bO H' v u} J rv q=>⟨v,H',J.os,J.bare,J.base,J.bo,rv,q⟩
  cases fl with
  | ret u =>
    obtain⟨v,bO,H',J,rv,q⟩:=hs;exact fin J rv q
  | next =>
    obtain⟨bO,H',J,q⟩:=hs;exact fin (v:=V.bt) (u:=Value.none) J rfl q
  | brk =>
    obtain⟨_,_,_,q⟩:=hs;exact False.elim q
  | cont =>
    obtain⟨_,_,_,q⟩:=hs;exact False.elim q
end L2
namespace L2
open PySem PySem.Spec PyProof.Rows
section
variable {X:Cx} {x:Str} {p pos:Pos} {e:Expr} {es:List Expr} {t:TA} {id T:String} {r:List V -> Hp -> VK -> Prop}
noncomputable def O3(r:List V -> Hp -> VK -> Prop) (t:TA):TE:=λσ H Q=>t σ H λvs H1=>r vs H1 Q
theorem de(hc:cb X (.builtin id) r) (hg:Gl X x) (hm:X.mg x = none) (hv:bootBuiltins x = some (.builtin id)) (ha:PA X (e :: es) t) (hn:x ≠ "__name__":=by decide) (me:(x == ("__debug__":Str)) = false:=by decide)
    (he:starEach (e :: es) X.env = (false,eval e X.env) :: starEach es X.env:=by rfl) (i3:(backTo pos (starEach es X.env)).any (·.1) = false:=by rfl):PE X (.Call (.Name x p) (e :: es) [] pos) (O3 r t):=by
  intro pins s σ H Q I h;refine wpAny_Call_Name_kw (iq I hg hm hv ?_ hn me);exact PyProof.Rows.callWith_builtin1 (cp (ha pos pins s σ H _ I h) λus s1 ⟨vs,H1,I1,r1,q1⟩=>hc pins s1 σ H1 vs us Q I1 r1 q1) he i3
theorem kY(hc:cb X (.type T) r) (hg:Gl X x) (hm:X.mg x = none) (hv:bootBuiltins x = some (.type T)) (ha:PA X (e :: es) t) (hn:x ≠ "__name__":=by decide) (me:(x == ("__debug__":Str)) = false:=by decide)
    (he:starEach (e :: es) X.env = (false,eval e X.env) :: starEach es X.env:=by rfl) (i3:(backTo pos (starEach es X.env)).any (·.1) = false:=by rfl):PE X (.Call (.Name x p) (e :: es) [] pos) (O3 r t):=by
  intro pins s σ H Q I h;refine wpAny_Call_Name_kw (iq I hg hm hv ?_ hn me);exact PyProof.Rows.callWith_type1 (cp (ha pos pins s σ H _ I h) λus s1 ⟨vs,H1,I1,r1,q1⟩=>hc pins s1 σ H1 vs us Q I1 r1 q1) he i3
end
end L2
namespace HT
open PySem PyProof.Rows
section
variable {prog:Program} {w:World} {A:Around} {E:Value -> Shared -> Prop} {s:Shared}
theorem xO{t b:Addr} {vs ws:List Value} {Q:Value -> Shared -> Prop} (ht:IsTup s.heap t vs.toArray) (hb:IsTup s.heap b ws.toArray) (hv:vs ≠ [])
    (h1:ws = [] -> Q (.ref t) s) (h2:ws ≠ [] -> Q (.ref s.heap.objs.size) {s with heap:=s.heap.push {cls:=.type "tuple",data:=.seq (vs ++ ws).toArray}})
    (Mv:vs.length+ws.length <= sizeLine):wpAny (model prog w) A (binaryOp .Add (.ref t) (.ref b)) Q E s:=by
  obtain⟨⟨cls,dd,data,sl⟩,ho,hc,n,hd⟩:=id ht;obtain⟨⟨QO,Pw,data2,MJ⟩,Ha,PC,n2,hd2⟩:=id hb;simp only at hc hd PC hd2;subst hc hd PC hd2;have e:vs.toArray ++ ws.toArray = (vs ++ ws).toArray:=by simp
  by_cases hw:ws = []
  · exact concat_meets ⟨_,ho,rfl⟩ ⟨_,Ha,rfl⟩ noFill_tuple_add seq_tuple_add PySem.F.slot_tuple_add PySem.F.entry_tuple_add (PySem.F.args_tuple_add_2 _ _)
      (tuple_addW1 t b vs.toArray ws.toArray n n2 dd Pw sl MJ (by simpa using hv) (by simp [hw])) ⟨ho,Ha,h1 hw⟩
  · refine concat_meets ⟨_,ho,rfl⟩ ⟨_,Ha,rfl⟩ noFill_tuple_add seq_tuple_add PySem.F.slot_tuple_add PySem.F.entry_tuple_add (PySem.F.args_tuple_add_2 _ _)
      (tuple_addW2 t b vs.toArray ws.toArray n n2 dd Pw sl MJ (by simpa using hv) (by simpa using hw) (by rw [List.size_toArray,List.size_toArray];exact Mv)) ⟨ho,Ha,?_⟩
    rw [e];exact h2 hw
noncomputable def cn(n d:Nat):Option Int -> Nat
  | none=>d
  | some v=>if v<0 then(v+(n:Int)).toNat else min v.toNat n
theorem FT(n d:Nat) (hd:d <= n) (o:Option Int):cn n d o <= n:=by
  cases o with
  | none=>exact hd
  | some v =>
    show(if v<0 then(v+(n:Int)).toNat else min v.toNat n) <= n
    by_cases hv:v<0
    · rw [if_pos hv];omega
    · rw [if_neg hv];exact Nat.min_le_right _ _
theorem ql(v:Int) (n d:Nat):(if v<0 then max (v+(n:Int)) 0 else min v (n:Int)) = ((cn n d (some v):Nat):Int):=by
  show(if v<0 then max (v+(n:Int)) 0 else min v (n:Int)) = (((if v<0 then(v+(n:Int)).toNat else min v.toNat n):Nat):Int)
  by_cases hv:v<0
  · simp only [if_pos hv];omega
  · simp only [if_neg hv];omega
theorem pf(lo hi:Option Int) (n:Nat):Builtin.Slice.sliceAdjust lo hi 1 (n:Int) = (((cn n 0 lo:Nat):Int),((cn n n hi:Nat):Int)):=by
  have h1:¬((1:Int)<0):=by omega
  unfold Builtin.Slice.sliceAdjust;simp only [h1,if_false];refine Prod.ext ?_ ?_
  · cases lo with
    | none=>rfl
    | some v=>exact ql v n 0
  · cases hi with
    | none=>rfl
    | some v=>exact ql v n n
theorem pO(i j:Nat):Builtin.Slice.slicePlaces (i:Int) (j:Int) 1 = j-i:=by
  unfold Builtin.Slice.slicePlaces;have h1:(1:Int)>0:=by omega
  simp only [h1,if_true,Int.ediv_one]
  split<;>omega
theorem jP{v:Value} {o:Option Int} {Q:Option Int -> Shared -> Prop} (p:IsPart v o) (h:Q o s):wpAny (model prog w) A (Builtin.Slice.slicePartIndex v) Q E s:=by
  cases p with
  | none=>exact slicePart_none h
  | int i t=>exact slicePart_int h
theorem dQ{sl:Addr} {vl vu:Value} {lo hi:Option Int} {n:Nat} {Q:Int × Int × Nat -> Shared -> Prop} (hs:s.heap.IsSliceOf sl vl vu .none) (pl:IsPart vl lo) (pu:IsPart vu hi)
    (h:Q (((cn n 0 lo:Nat):Int),1,cn n n hi-cn n 0 lo) s):wpAny (model prog w) A (Builtin.Slice.sliceApplied (.ref sl) (pure (n:Int))) Q E s:=by
  obtain⟨os,Dj,Mq,Jn⟩:=id hs;unfold Builtin.Slice.sliceApplied Builtin.Slice.sliceFields;refine wpAny_bind (wpAny_bind (wpAny_field Dj Jn (x:=vl) rfl (wpAny_bind (wpAny_field Dj Jn (x:=vu) rfl (wpAny_bind (wpAny_field Dj Jn (x:=.none) rfl (wpAny_pure ?_)))))));refine wpAny_bind (slicePart_none ?_);show wpAny _ _ (if((1:Int) == 0) = true then _ else _) _ _ s
  rw [if_neg ∅]
  refine wpAny_bind (jP pl (wpAny_bind (jP pu (wpAny_bind (wpAny_pure ?_)))));show wpAny _ _ (match Builtin.Slice.sliceAdjust lo hi 1 (n:Int)with | (lo,hi)=>pure (lo,(1:Int),Builtin.Slice.slicePlaces lo hi 1)) _ _ s
  rw [pf lo hi n];show wpAny _ _ (pure (((cn n 0 lo:Nat):Int),(1:Int),Builtin.Slice.slicePlaces ((cn n 0 lo:Nat):Int) ((cn n n hi:Nat):Int) 1)) _ _ s;rw [pO];exact wpAny_pure h
theorem v7(xs:Array Value) (i k:Nat):((List.range k).filterMap λ(m:Nat)=>xs[((i:Int)+(m:Int)*1).toNat]?).toArray = ((xs.toList.drop i).take k).toArray:=by
  have e:(λ(m:Nat)=>xs[((i:Int)+(m:Int)*1).toNat]?) = λm=>xs[i+m]?:=by
    funext m;have:((i:Int)+(m:Int)*1).toNat = i+m:=by omega
    rw [this]
  rw [e];have:=pick_run xs i k;rw [List.filterMap_map]at this;have e2:((λx=>xs[x]?) ∘ λx=>i+x) = λm=>xs[i+m]?:=rfl;rw [e2]at this;rw [this]
theorem gv{t sl:Addr} {items:Array Value} {vl vu:Value} {lo hi:Option Int} {Q:Value -> Shared -> Prop} (ht:IsTup s.heap t items) (hs:s.heap.IsSliceOf sl vl vu .none) (pl:IsPart vl lo) (pu:IsPart vu hi)
    (hw:¬(cn items.size 0 lo = 0 /\ cn items.size items.size hi = items.size))
    (h:Q (.ref s.heap.objs.size) {s with heap:=s.heap.push {cls:=.type "tuple",data:=.seq ((items.toList.drop (cn items.size 0 lo)).take (cn items.size items.size hi-cn items.size 0 lo)).toArray}})
    (Mv:items.size <= sizeLine):wpAny (model prog w) A (getItem (.ref t) (.ref sl)) Q E s:=by
  have qA:sizeOk (.seq ((items.toList.drop (cn items.size 0 lo)).take (cn items.size items.size hi-cn items.size 0 lo)).toArray):=by
    show((items.toList.drop (cn items.size 0 lo)).take (cn items.size items.size hi-cn items.size 0 lo)).toArray.size <= sizeLine;rw [List.size_toArray,List.length_take,List.length_drop,Array.length_toList];omega
  have hj:cn items.size items.size hi <= items.size:=FT _ _ (Nat.le_refl _) hi;obtain⟨os,Dj,Mq,Jn⟩:=id hs;have NI:s.TypeIs (.ref sl) "slice":=⟨os,Dj,Mq⟩;unfold getItem
  try with_reducible refine wpAny_holding ?_
  first | refine wpAny_bind (wpAny_pure ?_) | skip
  refine wpAny_bind (wpAny_sequenceKey ht.typeIs ∅ ?_)
  refine wpAny_bind (wpAny_callSpecial?_slot (name:=Str.ofString "__getitem__") ht.typeIs PyProof.Rows.slot_tuple_getitem
    (wpAny_call_entry PyProof.Rows.slot_tuple_getitem ht.typeIs entry_tuple_getitem ?_ (args_tuple_getitem _ _)))
  show wpAny _ _ (Builtin.Tuple.tupleItemsOf (.ref t) >>= _) _ _ s;refine wpAny_bind (tupleItemsOf_ ht ?_);refine wpAny_bind (wpAny_typeOf NI ?_);rw [if_pos ∅]
  refine wpAny_bind (dQ hs pl pu ?_);have N7:¬((((cn items.size 0 lo:Nat):Int) == 0 && (1:Int) == 1 && (cn items.size items.size hi-cn items.size 0 lo) == items.size) = true):=by
    intro q;rw [Bool.and_eq_true,Bool.and_eq_true]at q;have q1:((cn items.size 0 lo:Nat):Int) = 0:=eq_of_beq q.1.1;have q2:cn items.size items.size hi-cn items.size 0 lo = items.size:=eq_of_beq q.2;exact hw ⟨by omega,by omega⟩
  show wpAny _ _ (if(((cn items.size 0 lo:Nat):Int) == 0 && (1:Int) == 1 && (cn items.size items.size hi-cn items.size 0 lo) == items.size) = true then _ else _) _ _ s
  rw [if_neg N7,v7]
  first
    | exact wpAny_bind (m:=Builtin.Tuple.tupleExact _) (wpAny_newObj_type (wpAny_pure ⟨_,rfl,wpAny_pure h⟩) qA)
    | exact wpAny_bind (m:=Builtin.Tuple.tupleExact _) (wpAny_newObj_type (wpAny_bind (wpAny_pure (wpAny_pure ⟨_,rfl,wpAny_pure h⟩))) qA)
    | exact wpAny_bind (wpAny_bind (m:=Builtin.Tuple.tupleExact _) (wpAny_newObj_type (wpAny_pure (wpAny_pure ⟨_,rfl,wpAny_pure h⟩)) qA))
    | exact wpAny_bind (wpAny_bind (m:=Builtin.Tuple.tupleExact _) (wpAny_newObj_type (wpAny_pure ⟨_,rfl,wpAny_pure h⟩) qA))
end
end HT
namespace L2
open PySem PySem.Spec PyProof.Rows
noncomputable abbrev TO:=St -> Hp -> (Option Int -> Hp -> Prop) -> Prop
noncomputable def PO(X:Cx) (e:Option Expr) (t:TO):Prop:=
  ∀(pins:List (Addr × Obj)) (s:Shared) (σ:St) (H:Hp) (Q:Option Int -> Hp -> Prop),Inv X pins σ H s -> t σ H Q ->
    wpAny (model X.prog X.w) X.A (evalPart e X.env) (λu s'=>∃o H',Inv X pins σ H' s' /\ IsPart u o /\ Q o H') X.xe s
noncomputable def zO:TO:=λ_ H Q=>Q none H
noncomputable def LY(t:TE):TO:=λσ H Q=>t σ H λx H1=>∃i,x = .int i /\ Q (some i) H1
theorem intsAre_of{ns:List Int}:∀ {us:List Value},Vals (ns.map V.int) us -> IntsAre us ns:=by
  induction ns with
  | nil=>intro us r;rw [List.map_nil]at r;cases r;exact .nil
  | cons n ns ih =>
    intro us r;rw [List.map_cons]at r;cases r with
    | cons r1 r2 =>
      obtain⟨t,e⟩:=r1;subst e;exact .cons n t (ih r2)
section
variable {X:Cx} {e:Expr} {te:TE} {lo hi:Option Expr} {tl th:TO} {pos p2:Pos}
theorem yY:PO X none zO:=by
  intro pins s σ H Q I h;rw [evalPart_none];exact wpAny_pure ⟨none,H,I,.none,h⟩
theorem yZ(h:PE X e te):PO X (some e) (LY te):=by
  intro pins s σ H Q I hw;rw [evalPart_some];refine cp (h pins s σ H _ I hw) λu s1 ⟨x,H1,I1,r1,q1⟩=>?_;obtain⟨i,rfl,q⟩:=q1;obtain⟨t,rfl⟩:=r1;exact⟨some i,H1,I1,.int i t,q⟩
noncomputable def sX(X:Cx) (r:V -> Option Int -> Option Int -> Hp -> VK -> Prop):Prop:=
  ∀(pins:List (Addr × Obj)) (s:Shared) (σ:St) (H:Hp) (x:V) (v vl vu:Value) (lo hi:Option Int) (sl:Addr) (Q:VK),Inv X pins σ H s -> RelV x v -> s.heap.IsSliceOf sl vl vu .none -> IsPart vl lo -> IsPart vu hi -> r x lo hi H Q ->
    ∃T id,typeLookup (.type T) "__getitem__" = pure (some (.builtin id)) /\ s.TypeIs v T /\ wpAny (model X.prog X.w) X.A (getItem v (.ref sl)) (EP X pins σ Q) X.xe s
theorem sX.or{r r':V -> Option Int -> Option Int -> Hp -> VK -> Prop} (h:sX X r) (h':sX X r'):sX X (λx lo hi H Q=>r x lo hi H Q \/ r' x lo hi H Q):=by
  intro pins s σ H x v vl vu lo hi sl Q I rx hs pl pu q;rcases q with q | q
  · exact h pins s σ H x v vl vu lo hi sl Q I rx hs pl pu q
  · exact h' pins s σ H x v vl vu lo hi sl Q I rx hs pl pu q
noncomputable def SU(r:V -> Option Int -> Option Int -> Hp -> VK -> Prop) (te:TE) (tl th:TO):TE:=λσ H Q=>te σ H λx H1=>tl σ H1 λl H2=>th σ H2 λu H3=>r x l u H3 Q
theorem vU{r:V -> Option Int -> Option Int -> Hp -> VK -> Prop} (hr:sX X r) (he:PE X e te) (hl:PO X lo tl) (hu:PO X hi th):PE X (.Subscript e (.Slice lo hi none p2) pos) (SU r te tl th):=by
  intro pins s σ H Q I h;refine Subscript_ (cp (he pins s σ H _ I h) λv s1 ⟨x,H1,I1,r1,q1⟩=>?_);refine wpAny_Slice (cp (hl pins s1 σ H1 _ I1 q1) λvl s2 ⟨l,H2,I2,pl,q2⟩=>cp (hu pins s2 σ H2 _ I2 q2) λvu s3 ⟨u,H3,I3,pu,q3⟩=>?_);rw [evalPart_none];refine wpAny_pure ?_;have I4:Inv X pins σ H3 {s3 with heap:=s3.heap.push {cls:=.type "slice",data:=.fields #[vl,vu,.none]}}:=I3.kept (t':=s3.toks) λb ob q=>Heap.get?_push_of_some _ q
  obtain⟨T,id,hT,ht,hg⟩:=hr pins {s3 with heap:=s3.heap.push {cls:=.type "slice",data:=.fields #[vl,vu,.none]}} σ H3 x v vl vu l u s3.heap.objs.size Q I4 r1 (Heap.IsSliceOf.new ..) pl pu q3
  show wpAny (model X.prog X.w) X.A (subscriptTail e (.Slice lo hi none p2) v (.ref s3.heap.objs.size)) (EP X pins σ Q) X.xe {s3 with heap:=s3.heap.push {cls:=.type "slice",data:=.fields #[vl,vu,.none]}}
  exact tail_any (ops:=[.ref s3.heap.objs.size,v]) ht hT hg (by with_unfolding_all rfl)
noncomputable def nJ(xs:List V) (lo hi:Option Int):List V:=(xs.drop (HT.cn xs.length 0 lo)).take (HT.cn xs.length xs.length hi-HT.cn xs.length 0 lo)
theorem iL(xs:List V) (lo hi:Option Int):(nJ xs lo hi).length <= xs.length:=by
  unfold nJ;rw [List.length_take,List.length_drop];omega
noncomputable def OU(K:PySem.W.Frag):V -> Option Int -> Option Int -> Hp -> VK -> Prop:=λx lo hi H Q=>∃a xs,x = .ref a /\ iW K H a xs /\
  ¬(HT.cn xs.length 0 lo = 0 /\ HT.cn xs.length xs.length hi = xs.length) /\ ∀p,H p = none -> Q (.ref p) (upd H p (.tup (nJ xs lo hi)))
theorem GA:sX X (OU X.K):=by
  intro pins s σ H x v vl vu lo hi sl Q I rx hs pl pu h;obtain⟨a,xs,rfl,hx,hw,q⟩:=h;cases rx;obtain⟨its,r,ht,hz⟩:=I.tuple hx;have hlen:its.toArray.size = xs.length:=by rw [List.size_toArray];exact r.length.symm
  refine⟨"tuple",_,PyProof.Rows.slot_tuple_getitem.lookup,ht.typeIs,?_⟩;refine HT.gv ht hs pl pu (by rw [hlen];exact hw) ?_ (by rw [hlen];exact hz)
  rw [hlen];refine⟨.ref s.heap.objs.size,_,I.laid (t':=s.toks) (o:=.tup (nJ xs lo hi)) (λb ob q=>Heap.get?_push_of_some _ q) (Nat.le_refl _) ?_,rfl,q _ (I.bo.fresh (Nat.le_refl _))⟩;exact⟨Nat.le_trans (iL xs lo hi) hz,_,(r.drop (HT.cn xs.length 0 lo)).take (HT.cn xs.length xs.length hi-HT.cn xs.length 0 lo),IsTup.new _ _⟩
noncomputable def AX(K:PySem.W.Frag):R2:=λx y H Q=>∃a b xs ys,x = .ref a /\ y = .ref b /\ iW K H a xs /\ iW K H b ys /\ xs ≠ [] /\ xs.length+ys.length <= sizeLine /\
  (ys = [] -> Q (.ref a) H) /\ (ys ≠ [] -> ∀p,H p = none -> Q (.ref p) (upd H p (.tup (xs ++ ys))))
theorem Vals.mD{xs:List V} {us:List Value} (r:Vals xs us):us = [] ↔ xs = []:=by
  cases r with
  | nil=>simp
  | cons _ _=>simp
theorem yN:eN X (binaryOp .Add) (AX X.K):=by
  intro pins s σ H x y v u Q I rx ry h;obtain⟨a,b,xs,ys,rfl,rfl,ha,hb,hx,hz,q1,q2⟩:=h;cases rx;cases ry;obtain⟨its,r1,p1,_⟩:=I.tuple ha;obtain⟨Dx,r2,p2,_⟩:=I.tuple hb;refine HT.xO p1 p2 (λz=>hx (r1.mD.mp z)) (λz=>⟨.ref a,H,I,rfl,q1 (r2.mD.mp z)⟩) (λz=>?_) (by rw [<- r1.length,<- r2.length];exact hz)
  refine⟨.ref s.heap.objs.size,_,I.laid (t':=s.toks) (o:=.tup (xs ++ ys)) (λb ob q=>Heap.get?_push_of_some _ q) (Nat.le_refl _) ?_,rfl,q2 (λw=>z (r2.mD.mpr w)) _ (I.bo.fresh (Nat.le_refl _))⟩;exact⟨by rw [List.length_append];exact hz,_,r1.append r2,IsTup.new _ _⟩
end
end L2
namespace L2
open PySem PySem.Spec PyProof.Rows
noncomputable def qF(n:Nat) (i:Int):Option Nat:=if 0 <= i then(if i<n then some i.toNat else none)else if -(n:Int) <= i then some (i+n).toNat else none
noncomputable def ke{α:Type} (xs:List α) (i:Int):Option α:=(qF xs.length i).bind λj=>xs[j]?
theorem mn{n:Nat} {i:Int} {j:Nat} (h:qF n i = some j):seqIndex? i n = some j /\ j<n /\ -(n:Int) <= i /\ i<n:=by
  unfold qF at h
  by_cases h0:0 <= i
  · rw [if_pos h0]at h
    by_cases h1:i<n
    · rw [if_pos h1]at h
      have e:i.toNat = j:=Option.some.inj h;exact⟨by rw [seqIndex_of h0 h1,e],by omega,by omega,h1⟩
    · rw [if_neg h1]at h;cases h
  · rw [if_neg h0]at h
    by_cases h1:-(n:Int) <= i
    · rw [if_pos h1]at h
      have e:(i+n).toNat = j:=Option.some.inj h;exact⟨by rw [seqIndex_neg ⋯ h1,e],by omega,h1,by omega⟩
    · rw [if_neg h1]at h;cases h
theorem lC{α:Type} {xs:List α} {i:Int} {v:α} (h:ke xs i = some v):∃j,seqIndex? i xs.length = some j /\ xs[j]? = some v /\ j<xs.length /\ -(xs.length:Int) <= i /\ i<xs.length:=by
  unfold ke at h;cases e:qF xs.length i with
  | none=>rw [e]at h;cases h
  | some j =>
    rw [e]at h;obtain⟨h1,h2,h3,h4⟩:=mn e;exact⟨j,h1,h,h2,h3,h4⟩
noncomputable def qf(b:Expr):Prop:=∀o i,subscripted b false o i = operate [o,i] (getItem o i)
noncomputable def xG(X:Cx) (r:R2):Prop:=
  ∀(value slice:Expr) (pins:List (Addr × Obj)) (s:Shared) (σ:St) (H:Hp) (x y:V) (v u:Value) (Q:VK),Inv X pins σ H s -> RelV x v -> RelV y u -> r x y H Q ->
    subscripted slice false v u = operate [v,u] (getItem v u) -> wpAny (model X.prog X.w) X.A (subscriptTail value slice v u) (EP X pins σ Q) X.xe s
noncomputable def Ma(X:Cx) (id:String) (r:V -> List V -> Hp -> VK -> Prop):Prop:=
  ∀(pins:List (Addr × Obj)) (s:Shared) (σ:St) (H:Hp) (x:V) (xs:List V) (v:Value) (us:List Value) (Q:VK),Inv X pins σ H s -> RelV x v -> Vals xs us -> r x xs H Q ->
    wpAny (model X.prog X.w) X.A (call (.builtin id) (v :: us)) (EP X pins σ Q) X.xe s
section
variable {X:Cx} {a b:Expr} {ta tb:TE} {pos:Pos}
theorem xG.or{r r':R2} (h:xG X r) (h':xG X r'):xG X (λx y H Q=>r x y H Q \/ r' x y H Q):=by
  intro value slice pins s σ H x y v u Q I rx ry q hs;rcases q with q | q
  · exact h value slice pins s σ H x y v u Q I rx ry q hs
  · exact h' value slice pins s σ H x y v u Q I rx ry q hs
theorem KJ{r:R2} (hr:xG X r) (ha:PE X a ta) (hb:PE X b tb) (hs:qf b):PE X (.Subscript a b pos) (Hg r ta tb):=by
  intro pins s σ H Q I h;exact Subscript_ (BI ha hb I h λv u s2 x y H2 I2 rx ry q=>hr a b pins s2 σ H2 x y v u Q I2 rx ry q (hs _ _))
noncomputable def K4(K:PySem.W.Frag):R2:=λx y H Q=>∃p xs i v,x = .ref p /\ y = .int i /\ eO K H p xs /\ ke xs i = some v /\ Q v H
noncomputable def K6(K:PySem.W.Frag):R2:=λx y H Q=>∃p xs i v,x = .ref p /\ y = .int i /\ iW K H p xs /\ ke xs i = some v /\ Q v H
noncomputable def K5:R2:=λx y H Q=>∃z i c,x = .str z /\ y = .int i /\ z.length <= sizeLine /\ ke z.cps.toList i = some c /\ Q (.str ⟨#[c]⟩) H
theorem yz:xG X (K4 X.K):=by
  intro value slice pins s σ H x y v u Q I rx ry h hs;obtain⟨p,xs,i,z,rfl,rfl,hq,he,q⟩:=h;cases rx;obtain⟨t,rfl⟩:=ry;obtain⟨its,r,pl,hz⟩:=I.list hq;obtain⟨j,h1,h2,h3,h4,h5⟩:=lC he;obtain⟨w,ew,Lb⟩:=r.get h2;have hl:=r.length;have hn:=fY;have fin:EP X pins σ Q w s:=⟨z,H,I,Lb,q⟩
  by_cases h0:0 <= i
  · have hj:i.toNat = j:=by
      rw [seqIndex_of h0 h5]at h1;exact Option.some.inj h1
    exact item_listR pl.isList h0 ⋯ (by rw [hj];simpa using ew) fin hs
  · have hj:(i+(its.toArray.size:Int)).toNat = j:=by
      rw [seqIndex_neg ⋯ h4]at h1
      rw [List.size_toArray,<- hl];exact Option.some.inj h1
    exact subscriptTail_builtinR (x:=w) pl.isList.typeIs slot_list_getitem.lookup
      (wpAny_getItem_list_neg (Q:=λr s'=>r = w /\ EP X pins σ Q r s') pl.isList ⋯ (by rw [List.size_toArray]<;>omega) ⋯ (by rw [hj];simpa using ew) ⟨rfl,fin⟩) hs
theorem DC:xG X (K6 X.K):=by
  intro value slice pins s σ H x y v u Q I rx ry h hs;obtain⟨p,xs,i,z,rfl,rfl,hq,he,q⟩:=h;cases rx;obtain⟨t,rfl⟩:=ry;obtain⟨its,r,pl,hz⟩:=I.tuple hq;obtain⟨j,h1,h2,h3,h4,h5⟩:=lC he;obtain⟨w,ew,Lb⟩:=r.get h2;have hl:=r.length;have hn:=fY;have fin:EP X pins σ Q w s:=⟨z,H,I,Lb,q⟩;exact subscriptTail_builtinR (x:=w) pl.typeIs slot_tuple_getitem.lookup
    (getItem_tuple (j:=j) (Q:=λr s'=>r = w /\ EP X pins σ Q r s') pl ⋯ ⋯ (by rw [List.size_toArray,<- hl];exact h1) (by simpa using ew) ⟨rfl,fin⟩) hs
theorem DB:xG X K5:=by
  intro value slice pins s σ H x y v u Q I rx ry h hs;obtain⟨z,i,c,rfl,rfl,hz,he,q⟩:=h;obtain⟨t,rfl⟩:=rx;obtain⟨t',rfl⟩:=ry;obtain⟨j,h1,h2,h3,h4,h5⟩:=lC he;have hl:z.cps.toList.length = z.length:=by simp [Str.length]
  rw [hl]at h1 h4 h5;have hn:=fY;exact tail_any (typeIs_str s z t) slot_str_getitem.lookup (getItem_str (c:=c) (by
    have e1:decide (i < -(2 ^ 63:Int)) = false:=decide_eq_false ⋯
    have e2:decide (i >= 2 ^ 63) = false:=decide_eq_false ⋯
    rw [e1,e2,Bool.or_false]) (by rw [h1];simpa using h2) ⟨.str ⟨#[c]⟩,H,I.tok _,⟨_,rfl⟩,q⟩) hs
noncomputable def Sz(K:PySem.W.Frag):R2:=λx y H Q=>K4 K x y H Q \/ K6 K x y H Q \/ K5 x y H Q
theorem DA:xG X (Sz X.K):=yz.or (DC.or DB)
theorem pJ(its:List Value) (n j:Nat) (u:Value):Obj.mapSeq (·.setIfInBounds j u) {cls:=.type "list",data:=.seq its.toArray n} = {cls:=.type "list",data:=.seq (its.set j u).toArray n}:=by
  simp [Obj.mapSeq]
theorem Inv.lst{pins:List (Addr × Obj)} {σ:St} {H:Hp} {s:Shared} {p:Addr} {xs:List V} (I:Inv X pins σ H s) (h:H p = some (.lst xs)):
    ∃(its:List Value) (n:Nat),Vals xs its /\ s.heap.get? p = some {cls:=.type "list",data:=.seq its.toArray n} /\ xs.length <= sizeLine:=by
  obtain⟨z,its,n,r,e⟩:=I.bo p _ h;exact⟨its,n,r,e,z⟩
theorem Inv.D0{pins:List (Addr × Obj)} {σ:St} {H:Hp} {s:Shared} {p:Addr} {xs ys:List V} {its its':List Value} {n n':Nat} {f:Obj -> Obj} (I:Inv X pins σ H s) (h:H p = some (.lst xs))
    (ho:s.heap.get? p = some {cls:=.type "list",data:=.seq its.toArray n}) (hf:f {cls:=.type "list",data:=.seq its.toArray n} = {cls:=.type "list",data:=.seq its'.toArray n'}) (r:Vals ys its') (hz:ys.length <= sizeLine) (t:Nat):
    Inv X pins σ (upd H p (.lst ys)) {s with heap:=s.heap.update p f,toks:=t}:=by
  have e:(s.heap.update p f).get? p = some {cls:=.type "list",data:=.seq its'.toArray n'}:=by
    rw [Heap.get?_update_self f ho (by rw [hf]<;>rfl),hf]
  refine I.write (x:=p) (e:=p) (by rw [h];trivial) (.inl rfl) (λb u hb q=>(Heap.get?_update_other _ _ (Ne.symm hb)).trans q) ⟨_,e⟩ ?_
  exact⟨hz,its',n',r,e⟩
noncomputable def K8:V -> V -> V -> Hp -> (Hp -> Prop) -> Prop:=λo i v H Q=>∃p xs k j,o = .ref p /\ i = .int k /\ H p = some (.lst xs) /\ qF xs.length k = some j /\ Q (upd H p (.lst (xs.set j v)))
theorem set_list:HA X K8:=by
  intro pins s σ H o i v ov iv u Q I ro ri rv h;obtain⟨p,xs,k,j,rfl,rfl,hp,hj,q⟩:=h;cases ro;obtain⟨t,rfl⟩:=ri;obtain⟨its,n,r,ho,hz⟩:=I.lst hp;obtain⟨h1,h2,h3,h4⟩:=mn hj;have hl:=r.length;have hn:=fY;have I':Inv X pins σ (upd H p (.lst (xs.set j v))) {s with heap:=s.heap.update p (Obj.mapSeq (·.setIfInBounds j u))}:=
    I.D0 hp ho (pJ its n j u) (r.set rv j) (by rw [List.length_set];exact hz) s.toks
  by_cases h0:0 <= k
  · have hk:k.toNat = j:=by
      rw [seqIndex_of h0 h4]at h1;exact Option.some.inj h1
    exact PySem.W.ki_setAt ho h0 ⋯ (by rw [List.size_toArray,<- hl];exact h4) (by rw [hk];exact⟨_,I',q⟩)
  · have hk:(k+(its.toArray.size:Int)).toNat = j:=by
      rw [seqIndex_neg ⋯ h3]at h1
      rw [List.size_toArray,<- hl];exact Option.some.inj h1
    exact PySem.W.ki_setBack ho ⋯ (by rw [List.size_toArray,<- hl];exact h3) ⋯ (by rw [hk];exact⟨_,I',q⟩)
theorem m4(lo hi:Option Int) (n:Nat):(sliceBounds lo hi none n).1 = ((HT.cn n 0 lo:Nat):Int) /\ (sliceBounds lo hi none n).2.1 = ((HT.cn n n hi:Nat):Int) /\ (sliceBounds lo hi none n).2.2 = 1:=by
  refine⟨?_,?_,rfl⟩
  · cases lo with
    | none=>simp [sliceBounds,HT.cn]
    | some i =>
      simp only [sliceBounds,HT.cn,Option.getD_none,show(1:Int)>0 by decide,if_true]
      by_cases h:i<0
      · simp only [h,if_true]<;>omega
      · simp only [h,if_false]<;>omega
  · cases hi with
    | none=>simp [sliceBounds,HT.cn]
    | some i =>
      simp only [sliceBounds,HT.cn,Option.getD_none,show(1:Int)>0 by decide,if_true]
      by_cases h:i<0
      · simp only [h,if_true]<;>omega
      · simp only [h,if_false]<;>omega
theorem ko(its:List Value) (lo hi:Option Int):slicePick its.toArray lo hi none = ((its.drop (HT.cn its.length 0 lo)).take (HT.cn its.length its.length hi-HT.cn its.length 0 lo)).toArray:=by
  obtain⟨h1,h2,h3⟩:=m4 lo hi its.toArray.size;unfold slicePick;rw [h1,h2,h3];simp only [sliceRange_one,pick_run,List.size_toArray]<;>rfl
noncomputable def OQ(K:PySem.W.Frag):V -> Option Int -> Option Int -> Hp -> VK -> Prop:=λx lo hi H Q=>∃a xs,x = .ref a /\ eO K H a xs /\ ∀p,H p = none -> Q (.ref p) (upd H p (.lst (nJ xs lo hi)))
theorem zF:sX X (OQ X.K):=by
  intro pins s σ H x v vl vu lo hi sl Q I rx hs pl pu h;obtain⟨a,xs,rfl,hx,q⟩:=h;cases rx;obtain⟨its,r,ht,hz⟩:=I.list hx;have hlen:=r.length;refine⟨"list",_,slot_list_getitem.lookup,ht.isList.typeIs,?_⟩;refine wpAny_getItem_list_slice ht.isList hs pl pu .none (by simp) ?_ (by rw [List.size_toArray]<;>omega)
  rw [ko,<- hlen];refine⟨.ref s.heap.objs.size,_,I.laid (t':=s.toks) (o:=.lst (nJ xs lo hi)) (λb ob q=>Heap.get?_push_of_some _ q) (Nat.le_refl _) ?_,rfl,q _ (I.bo.fresh (Nat.le_refl _))⟩;exact⟨Nat.le_trans (iL xs lo hi) hz,_,0,(r.drop (HT.cn xs.length 0 lo)).take (HT.cn xs.length xs.length hi-HT.cn xs.length 0 lo),Heap.get?_push_size _ rfl⟩
theorem lH:cb X (.builtin "len") (λxs H Q=>∃p ys,xs = [.ref p] /\ (eO X.K H p ys \/ iW X.K H p ys) /\ Q (.int ys.length) H):=by
  intro pins s σ H xs us Q I r h;obtain⟨p,ys,rfl,hq,q⟩:=h;obtain⟨u,rfl,rx⟩:=vals1 r;cases rx;have hn:=fY;rcases hq with hq | hq
  · obtain⟨its,r',pl,hz⟩:=I.list hq
    have hlen:=r'.length;exact Calls.call_len_list pl.isList (by simp only [List.size_toArray]<;>omega) ⟨.int ys.length,H,I.tok _,⟨s.toks+1,by rw [List.size_toArray,hlen]⟩,q⟩
  · obtain⟨its,r',pl,hz⟩:=I.tuple hq
    have hlen:=r'.length;exact len_tuple pl (by simp only [List.size_toArray]<;>omega) ⟨.int ys.length,H,I.tok _,⟨s.toks+1,by rw [List.size_toArray,hlen]⟩,q⟩
theorem lJ:cb X (.builtin "len") (λxs H Q=>∃z,xs = [.str z] /\ z.length <= sizeLine /\ Q (.int z.length) H):=by
  intro pins s σ H xs us Q I r h;obtain⟨z,rfl,hz,q⟩:=h;obtain⟨u,rfl,t,rfl⟩:=vals1 r;have hn:=fY;exact len_str ⋯ ⟨.int z.length,H,I.tok _,⟨_,rfl⟩,q⟩
theorem cb.or{f:Value} {r r':List V -> Hp -> VK -> Prop} (h:cb X f r) (h':cb X f r'):cb X f (λxs H Q=>r xs H Q \/ r' xs H Q):=by
  intro pins s σ H xs us Q I rs q;rcases q with q | q
  · exact h pins s σ H xs us Q I rs q
  · exact h' pins s σ H xs us Q I rs q
theorem kh:cb X (.type "tuple") (λxs H Q=>∃p ys,xs = [.ref p] /\ ((eO X.K H p ys /\ ∀l,H l = none -> Q (.ref l) (upd H l (.tup ys))) \/ (iW X.K H p ys /\ Q (.ref p) H))):=by
  intro pins s σ H xs us Q I r h;obtain⟨p,ys,rfl,h⟩:=h;obtain⟨u,rfl,rx⟩:=vals1 r;cases rx;rcases h with⟨hq,q⟩ | ⟨hq,q⟩
  · obtain⟨its,r',pl,hz⟩:=I.list hq
    have hlen:=r'.length;refine call_tuple_list pl.isList (λh' kp=>?_) (by simp only [List.size_toArray]<;>omega)
    have I1:Inv X pins σ H {s with heap:=h'}:=I.kept (t':=s.toks) kp
    have I2:Inv X pins σ (upd H h'.objs.size (.tup ys)) {s with heap:=h'.push {cls:=.type "tuple",data:=.seq its.toArray}}:=
      I1.laid (t':=s.toks) (λb o e=>Heap.get?_push_of_some _ e) (Nat.le_refl _) (show bQ X.prog X.w _ _ _ (.tup ys)from⟨hz,its,r',IsTup.new _ _⟩)
    exact⟨.ref h'.objs.size,_,I2,rfl,q _ (I1.bo.fresh (Nat.le_refl _))⟩
  · obtain⟨its,r',pl,hz⟩:=I.tuple hq
    exact call_tuple_same pl ⟨.ref p,H,I,rfl,q⟩
noncomputable def QB(K:PySem.W.Frag) (T:String) (x:V) (H:Hp):Prop:=match x with
  | .str _=>T = "str"
  | .int _=>T = "int"
  | .ref p=>(T = "list" /\ ∃xs,eO K H p xs) \/ (T = "tuple" /\ ∃o,K.lookup p = some o /\ o.cls = .type "tuple" /\ o.dict = none) \/
      (T = "dict" /\ ((∃b6,H p = some (.dK b6)) \/ ∃b6,H p = some (.dT b6))) \/ (T = "set" /\ ∃S n,H p = some (.set S n))
  | _=>False
theorem GX{pins:List (Addr × Obj)} {σ:St} {H:Hp} {s:Shared} {T:String} {x:V} {v:Value} (I:Inv X pins σ H s) (r:RelV x v) (ty:QB X.K T x H):
    s.TypeIs v T /\ ∀a,v = .ref a -> ∃ob,s.heap.get? a = some ob /\ ob.dict = none:=by
  cases x with
  | str z =>
    obtain⟨t,rfl⟩:=r;cases(show T = "str" from ty)
    exact⟨typeIs_str s z t,λ_ e=>nomatch e⟩
  | int i =>
    obtain⟨t,rfl⟩:=r;cases(show T = "int" from ty)
    exact⟨typeIs_int s i t,λ_ e=>nomatch e⟩
  | ref p =>
    cases r;rcases ty with⟨rfl,xs,hq⟩ | ⟨rfl,o,hk,hc,hd⟩ | ⟨rfl,hk⟩ | ⟨rfl,S,n,hk⟩
    · obtain⟨its,_,pl,_⟩:=I.list hq
      refine⟨pl.isList.typeIs,λa e=>?_⟩;cases e;obtain⟨o,n,e,c,hd,_⟩:=pl;exact⟨o,e,hd⟩
    · refine⟨⟨o,I.i7 p o hk,hc⟩,λa e=>?_⟩
      cases e;exact⟨o,I.i7 _ o hk,hd⟩
    · have z:∃o,s.heap.get? p = some o /\ o.ExactDict:=by
        rcases hk with⟨b6,hk⟩ | ⟨b6,hk⟩
        · obtain⟨_,_,_,_,o,_,_,e,ex,_⟩:=I.bo p _ hk
          exact⟨o,e,ex⟩
        · obtain⟨_,_,_,_,o,_,_,e,ex,_⟩:=I.bo p _ hk
          exact⟨o,e,ex⟩
      obtain⟨o,e,ex⟩:=z;refine⟨⟨o,e,ex.1⟩,λa e2=>?_⟩;cases e2;exact⟨o,e,ex.2.1⟩
    · obtain⟨o,_,_,_,e,ex,_⟩:=I.bo p _ hk
      refine⟨⟨o,e,ex.1⟩,λa e2=>?_⟩;cases e2;exact⟨o,e,ex.2.1⟩
  | _=>exact False.elim ty
noncomputable def SQ(K:PySem.W.Frag) (T:String) (r:V -> List V -> Hp -> VK -> Prop) (to:TE) (t:TA):TE:=λσ H Q=>to σ H λx H1=>QB K T x H1 /\ t σ H1 λxs H2=>r x xs H2 Q
variable {o e:Expr} {es:List Expr} {to:TE} {t:TA} {name:Str} {apos bR:Pos} {T id:String} {r:V -> List V -> Hp -> VK -> Prop}
theorem kX(pa:PlainAttrs T) (slot:Slot T name id) (RJ:typeOf (.builtin id) = pure (.type "method_descriptor")) (hm:Ma X id r) (ho:PE X o to) (ha:PA X (e :: es) t)
    (Ji:attributeBase o name X.env (eval o X.env) = eval o X.env:=by rfl)
    (ip:((backTo bR (starEach (e :: es) X.env)).all (λx=>!x.1) && (backToKw bR (keywordEach [] X.env)).all (λx=>x.1.isSome)
      && decide ((e :: es).length+([]:List Keyword).length+(if([]:List Keyword).isEmpty then 0 else 1)<30)) = true:=by rfl)
    (hline:(apos.endLine == bR.line) = true:=by rfl) (hs:starEach (e :: es) X.env = (false,eval e X.env) :: starEach es X.env:=by rfl) (Dl:(backTo bR (starEach es X.env)).any (·.1) = false:=by rfl):
    PE X (.Call (.Attribute o name apos) (e :: es) [] bR) (SQ X.K T r to t):=by
  intro pins s σ H Q I h;refine wpAny_Call_method_late Ji ip hline rfl (cp (ho pins s σ H _ I h) λv s1 ⟨x,H1,I1,r1,ty,q1⟩=>?_);obtain⟨h1,h2⟩:=GX I1 r1 ty;refine⟨T,id,pa,slot,RJ,h1,h2,?_⟩;have hA:=ha bR pins s1 σ H1 _ I1 q1;rw [hs]at hA ⊢;refine Calls.callWith_builtin (by show(false || (backTo bR (starEach es X.env)).any (·.1)) = false;rw [Dl]<;>rfl) (Calls.evalArgs_plain ?_)
  exact cp hA λus s2 ⟨vs,H2,I2,r2,q2⟩=>hm pins s2 σ H2 x vs v us Q I2 r1 r2 q2
end
end L2
namespace L2
open PySem PySem.Spec PyProof.Rows
noncomputable def MZ(X:Cx) (id:String) (r:V -> List V -> Hp -> VK -> Prop):Prop:=
  ∀(pins:List (Addr × Obj)) (s:Shared) (σ:St) (H:Hp) (x:V) (xs:List V) (v:Value) (us:List Value) (Q:VK),Inv X pins σ H s -> RelV x v -> Vals xs us -> r x xs H Q ->
    wpAny (model X.prog X.w) X.A (call (.builtin id) (v :: us)) (EP X pins σ Q) X.xe s
theorem Vals.one:∀ {x:V} {us:List Value},Vals [x] us -> ∃u,us = [u] /\ RelV x u
  | _,_,.cons r .nil=>⟨_,rfl,r⟩
theorem Vals.two:∀ {x y:V} {us:List Value},Vals [x,y] us -> ∃u v,us = [u,v] /\ RelV x u /\ RelV y v
  | _,_,_,.cons r (.cons q .nil)=>⟨_,_,rfl,r,q⟩
theorem Vals.eraseIdx:∀ {xs:List V} {us:List Value} (i:Nat),Vals xs us -> Vals (xs.eraseIdx i) (us.eraseIdx i)
  | _,_,_,.nil=>.nil
  | _,_,0,.cons _ t=>t
  | _,_,i+1,.cons r t=>.cons r (Vals.eraseIdx i t)
theorem Vals.rep{xs:List V} {us:List Value} (h:Vals xs us):∀k:Nat,Vals (List.replicate k xs).flatten (List.replicate k us).flatten
  | 0=>.nil
  | k+1=>by
    rw [List.replicate_succ,List.replicate_succ,List.flatten_cons,List.flatten_cons];exact Vals.append h (Vals.rep h k)
theorem kS{α:Type}:∀(l:List α) (i:Nat),(l.eraseIdx i).length <= l.length
  | [],_=>Nat.le_refl _
  | _ :: _,0=>Nat.le_succ _
  | _ :: r,i+1=>Nat.succ_le_succ (kS r i)
theorem foldl_rep(its:List Value):∀(k:Nat) (acc:List Value),
    List.foldl (λx1 x2=>x1 ++ x2) acc.toArray (List.replicate k its.toArray) = (acc ++ (List.replicate k its).flatten).toArray
  | 0,acc=>by simp
  | k+1,acc=>by
    have e:acc.toArray ++ its.toArray = (acc ++ its).toArray:=by simp
    have e2:(acc ++ its) ++ (List.replicate k its).flatten = acc ++ (List.replicate (k+1) its).flatten:=by
      rw [List.replicate_succ,List.flatten_cons,List.append_assoc]
    rw [<- e2,<- foldl_rep its k (acc ++ its),<- e,List.replicate_succ,List.foldl_cons]
section
variable {X:Cx} {pins:List (Addr × Obj)} {σ:St} {H:Hp} {s:Shared} {l b:Addr} {xs ys zs:List V}
theorem Inv.DY{its its':List Value} {n:Nat} {f:Array Value -> Array Value} {t':Nat} (I:Inv X pins σ H s) (hH:H l = some (.lst xs))
    (e:s.heap.get? l = some {cls:=.type "list",data:=.seq its.toArray n}) (hf:f its.toArray = its'.toArray) (hv:Vals ys its') (hz:ys.length <= sizeLine):
    Inv X pins σ (upd H l (.lst ys)) {s with heap:=s.heap.update l (Obj.mapSeq f),toks:=t'}:=by
  have q:=PySem.IsL.update e f;rw [hf]at q;refine I.write (x:=l) (e:=l) (by rw [hH];exact trivial) (.inl rfl) (λb' u hb hu=>(Heap.get?_update_other s.heap (Obj.mapSeq f) (Ne.symm hb)).trans hu) ⟨_,q⟩ ?_
  exact⟨hz,its',_,hv,q⟩
theorem Inv.DX{its:List Value} {t':Nat} (I:Inv X pins σ H s) (hv:Vals ys its) (hz:ys.length <= sizeLine):
    Inv X pins σ (upd H s.heap.objs.size (.lst ys)) {s with heap:=s.heap.push {cls:=.type "list",data:=.seq its.toArray},toks:=t'}:=
  I.laid (λ_ _ q=>Heap.get?_push_of_some _ q) (Nat.le_refl _) ⟨hz,its,0,hv,Heap.get?_push_size _ rfl⟩
theorem Inv.fresh(I:Inv X pins σ H s):H s.heap.objs.size = none:=I.bo.fresh (Nat.le_refl _)
theorem Inv.DZ(I:Inv X pins σ H s) (hH:H l = some (.lst xs)):xs.length <= sizeLine /\ ∃(its:List Value) (n:Nat),Vals xs its /\ xs.length = its.length /\ s.heap.get? l = some {cls:=.type "list",data:=.seq its.toArray n}:=by
  obtain⟨z,its,n,r,e⟩:=I.bo l _ hH;exact⟨z,its,n,r,r.length,e⟩
theorem vM{n:Nat} (h:n <= sizeLine):Builtin.List.listTooLong n = false:=by
  unfold Builtin.List.listTooLong;exact decide_eq_false ⋯
end
section
variable {X:Cx}
noncomputable def zq:V -> List V -> Hp -> VK -> Prop:=λx vs H Q=>∃l xs y,x = .ref l /\ vs = [y] /\ H l = some (.lst xs) /\ xs.length<sizeLine /\ Q .bt (upd H l (.lst (xs ++ [y])))
theorem kU:MZ X "list.append" zq:=by
  intro pins s σ H x vs v us Q I rx rv h;obtain⟨l,xs,y,rfl,rfl,hH,hz,q⟩:=h;cases rx;obtain⟨u,rfl,ru⟩:=rv.one;obtain⟨z,its,n,r,hl,e⟩:=I.DZ hH;refine call_meets F.slot_list_append ⟨_,e,rfl⟩ F.entry_list_append (F.args_list_append_2 _ _) (PySem.list_append l its.toArray n u (by rw [List.size_toArray];omega)) ⟨e,?_⟩
  refine⟨.bt,_,I.DY (its':=its ++ [u]) hH e (by simp) (r.append (.cons ru .nil)) ?_,rfl,q⟩
  rw [List.length_append,List.length_singleton];omega
noncomputable def FK:V -> List V -> Hp -> VK -> Prop:=λx vs H Q=>∃l xs i k y,x = .ref l /\ vs = [.int i] /\ H l = some (.lst xs) /\ -(2 ^ 63) <= i /\ i<2 ^ 63 /\ seqIndex? i xs.length = some k /\ xs[k]? = some y /\ Q y (upd H l (.lst (xs.eraseIdx k)))
theorem vF:MZ X "list.pop" FK:=by
  intro pins s σ H x vs v us Q I rx rv h;obtain⟨l,xs,i,k,y,rfl,rfl,hH,h1,h2,hk,hy,q⟩:=h;cases rx;obtain⟨u,rfl,ru⟩:=rv.one;obtain⟨t,rfl⟩:=ru;obtain⟨z,its,n,r,hl,e⟩:=I.DZ hH;obtain⟨w,hw,Lb⟩:=r.get hy;refine call_meets F.slot_list_pop ⟨_,e,rfl⟩ F.entry_list_pop (F.args_list_pop_2 _ _)
    (MeetsSeq.list_pop_at l its.toArray n i t k w (fitsIndex_both h1 h2) (by rw [List.size_toArray,<- hl];exact hk) (by rw [<- Array.getElem?_toList];exact hw) (by rw [List.size_toArray];omega)) ⟨e,?_⟩
  refine⟨y,_,I.DY (its':=its.eraseIdx k) hH e ?_ (r.eraseIdx k) ?_,Lb,q⟩
  · show its.toArray.eraseIdxIfInBounds k = (its.eraseIdx k).toArray
    rw [List.eraseIdxIfInBounds_toArray]
  · have:=kS xs k
    omega
theorem len_rep{α:Type} (xs:List α) (k:Nat):(List.replicate k xs).flatten.length = k*xs.length:=by
  induction k with
  | zero=>simp
  | succ k ih=>rw [List.replicate_succ,List.flatten_cons,List.length_append,ih,Nat.succ_mul,Nat.add_comm]
end
end L2
namespace Pm
open PySem PySem.W PySem.Calls PyProof.Rows
theorem i6{P:Params} {h:Heap}:∀(ns:List Int) (vs:List Value),WellAll P h vs (ns.map WData.int) -> IntsAre vs ns:=by
  intro ns
  induction ns with
  | nil =>
    intro vs w;rw [List.map_nil]at w;cases w;exact .nil
  | cons n ns ih =>
    intro vs w;rw [List.map_cons]at w;cases w with
    | cons a b =>
      cases a;exact .cons _ _ (ih _ b)
theorem sL{l:OpenLaw} {n:Nat} (hn:l.most = some n) {P:Params} {h:Heap} {args:List WData} {vals:List Value}
    (sf:l.row.toRowW.claim.pre args = true) (Jx:WellAll P h vals args):
    ∃a vs ns,vals = [Value.ref a] /\ args = [WData.list (ns.map WData.int)] /\ h.get? a = some {cls:=.type "list",data:=.seq vs.toArray} /\ IntsAre vs ns /\ ns.length <= n:=by
  have RB:WShape.hasAll [] args [.list .int] = true:=(pre_splitW sf).1;have hc:l.pre.holds [] {args:=args} = true:=(pre_splitW sf).2;obtain⟨d,r,rfl,h1,h2⟩:=hasAllW_cons RB;obtain rfl:=hasAllW_nil h2;obtain⟨xs,rfl,h3⟩:=hasW_list h1;obtain⟨ns,rfl⟩:=items_int h3;have hlen:ns.length <= n:=by
    unfold OpenLaw.pre at hc;have h4:(WTm.not (.lt (.lit (.int (n:Int))) (.len (.arg 0)))).holds [] {args:=[.list (ns.map .int)]} = true:=by
      have h4:=(holds_andW hc).1;rw [hn]at h4;exact h4
    have h5:=condW_of h4 (w_not (w_lt w_lit (w_len_list (w_arg rfl))));rw [List.length_map]at h5;refine Nat.le_of_not_lt λq=>?_;have q':(n:Int)<((ns.length:Nat):Int):=by omega
    first
      | (rw [decide_eq_true q']at h5;exact absurd h5 ∅)
      | (simp at h5;omega)
  cases Jx with
  | cons w1 w2 =>
    cases w2;cases w1 with
    | list ho gw=>exact⟨_,_,ns,rfl,rfl,ho,i6 ns _ gw,hlen⟩
theorem sD(l:OpenLaw) (args:List WData):l.row.toRowW.claim.post args (.bool true) args = true:=
  postW_of (r:=l.row.toRowW) (X:=(true == true))
    (show WShape.has [] (.bool true) .bool = true by first | rfl | decide | simp [WShape.has,WShape.arms,WShape.armsAll])
    (show(WTm.eq .res (.lit (.bool true))).value [] {args:=args,res:=some (.bool true),after:=args} = some (.bool (true == true))from w_eq_bool (w_res rfl) w_lit) rfl
theorem nC{l:OpenLaw} {n:Nat} {q:Program} {loose:List Str} {XP:(Str -> Option Value) -> Heap -> Prop} {YP:World -> Heap -> Prop} {d:DefRec}
    (hn:l.most = some n) (Jm:d.params.defaults = [])
    (call:∀(w:World) (bB bI:Shared) (mg mb:Str -> Option Value) (fa:Addr) (o:Obj) (pm cd doc:Value) (a:Addr) (vs:List Value) (ns:List Int),
      Ground q loose [] XP w bB mg mb bI.heap -> YP w bI.heap ->
      bI.heap.get? fa = some o -> o.data = .func (docDef d.name d.params d.body d.scope pm cd doc) -> bI.heap.CodeRec cd d.name -> mg d.name = some (.ref fa) ->
      bI.heap.get? a = some {cls:=.type "list",data:=.seq vs.toArray} -> IntsAre vs ns -> ns.length <= n -> bI.gens = #[] ->
      codeAny (model l.prog w) callerA (.call (.ref fa) ⟨[.ref a],[]⟩) (λr s'=>r = .ok (.ret (.bool true)) /\ OldK bI.heap s'.heap /\ s'.os = bI.os /\ AllBare s'.gens) bI):
    WalkO q loose XP YP l.row.toRowW d [] (λf vs=>PySem.call f vs):=by
  intro w bB bI mg mb G Y fa o pm cd doc dV kV ho hd jc hD hmg hg args vals as sf Js PR Jx PL;obtain rfl:dV = .none:=Dflts.none hD Jm;obtain rfl:kV = .none:=Dflts.noKw hD;obtain⟨a,vs,ns,rfl,rfl,Di,hints,hlen⟩:=sL hn sf Jx;refine enter_call (codeAny_mono (call w bB bI mg mb fa o pm cd doc a vs ns G Y ho (fd_plain hd) jc hmg Di hints hlen hg) λr s' hq=>?_);obtain⟨rfl,h2,h3,h4⟩:=hq;exact⟨.inl ⟨.bool true,.bool true,[],rfl,λ_=>rfl,.bool true,sD l _,λ_=>⟨List.Pairwise.nil,λ_ hm=>(nomatch hm)⟩⟩,h2,h3,h4⟩
end Pm
namespace L2
open PySem PySem.Spec PyProof.Rows
theorem lr:∀ {vs:List Value} {ns:List Int},IntsAre vs ns -> Vals (ns.map V.int) vs
  | _,_,.nil=>.nil
  | _,_,.cons n t h=>.cons ⟨t,rfl⟩ (lr h)
noncomputable def Only(H:Hp):Prop:=∀b,H b = none \/ ∃o xs,H b = some (.kj o (.lst xs))
theorem vE{P:Program} {w:World} {K:PySem.W.Frag} {mg mb:Str -> Option Value} {CX:rG} {k:Nat} {fa a:Addr} {fd:FuncData} {x:Str} {sp:Sp} {bI:Shared} {vs:List Value} {ns:List Int}
    (KX:K.In bI.heap) (Ms:bI.heap.Ns mainGlobals mg) (hb:bI.heap.Ns builtinsNs mb) (Q9:∀x:Str,x ≠ "__name__" -> mb x = bootBuiltins x) (NX:bI.heap.NoLimit) (hg:bI.gens = #[])
    (ha:bI.heap.get? a = some {cls:=.type "list",data:=.seq vs.toArray}) (hi:IntsAre vs ns) (hl:ns.length <= sizeLine) (hr:fH k callerA)
    (F:∀base:Heap,K.In base -> base.Ns mainGlobals mg -> dy P w K mg base CX k fa fd [x] sp) (Jj:∀(s:Shared) (u:Value),BindsTo s fd ⟨[u],[]⟩ [(x,u)])
    (oo:∀H:Hp,Only H -> eO K H a (ns.map V.int) -> sp [.ref a] H (λv _=>v = .bl true) λ_ _ _=>False)
    (NB:∀H e s',CX [] H bI (λ_ _ _=>False) e s' -> False):
    codeAny (model P w) callerA (.call (.ref fa) ⟨[.ref a],[]⟩) (λr s'=>r = .ok (.ret (.bool true)) /\ OldK bI.heap s'.heap /\ s'.os = bI.os /\ AllBare s'.gens) bI:=by
  have rv:=lr hi;have OB:=hi.length
  -- from an abstract heap in which nothing but the script may be tracked
  have core:∀H:Hp,Only H -> eO K H a (ns.map V.int) -> eL P w H bI.heap -> (∀b,H b ≠ none -> b = a) -> (H a ≠ none -> K.lookup a = none) ->
      codeAny (model P w) callerA (.call (.ref fa) ⟨[.ref a],[]⟩) (λr s'=>r = .ok (.ret (.bool true)) /\ OldK bI.heap s'.heap /\ s'.os = bI.os /\ AllBare s'.gens) bI:=by
    intro H hO hS bo hA hK;have qk:∀ {b:Addr} {o:Obj},bI.heap.get? b = some o -> H b = none -> (mh bI.heap H).get? b = some o:=λe n=>vk e n;have JZ:∀ {b:Addr} {o:Obj} {es:Array DictEntry} {ep:Nat},bI.heap.get? b = some o -> o.data = .dict es ep -> H b = none:=λ{b o es ep} e d=>by
      cases q:H b with
      | none=>rfl
      | some u =>
        have e':b = a:=hA b (by rw [q];simp)
        subst e';rw [ha]at e;cases e;have d':Data.seq vs.toArray _ = Data.dict es ep:=d;cases d'
    have MG:∀ {b:Addr} {m:Str -> Option Value},bI.heap.Ns b m -> (mh bI.heap H).Ns b m:=λ{b m} ⟨o,es,ep,e,d,r⟩=>⟨o,es,ep,qk e (JZ e d),d,r⟩;have PB:K.In (mh bI.heap H):=λb o e=>qk (KX b o e) (by
      cases q:H b with
      | none=>rfl
      | some u =>
        have e':b = a:=hA b (by rw [q];simp)
        subst e';rw [hK (by rw [q];simp)]at e;cases e)
    have hM:Mod K mg (mh bI.heap H):=⟨PB,MG Ms,⟨mb,MG hb,Q9⟩,let ⟨mc,h1,h2⟩:=NX;⟨mc,MG h1,h2⟩⟩;have e0:rJ P w K mg (mh bI.heap H) callerA [] bI H:=⟨rfl,hM,λb o e=>yG e,Nat.le_of_eq (sd _ _),trivial,λb hb=>absurd (show b ∈ ([]:List Addr)from hb) (by simp),bo,.of_eq hg⟩
    refine codeAny_mono ((F _ PB (MG Ms)).run callerA [] bI H ⟨[.ref a],[]⟩ [.ref a] [.ref a] _ _ hr e0 (Jj bI (.ref a)) (.cons rfl .nil) (oo H hO hS)) λr s' h=>?_;cases r with
    | error e=>exact(NB H e s' h).elim
    | ok fl =>
      cases fl with
      | next=>exact False.elim h
      | brk=>exact False.elim h
      | cont=>exact False.elim h
      | ret u =>
        obtain⟨v,H',os,bare,un,Oa,r',q⟩:=h;have q':v = .bl true:=q;subst q';obtain rfl:u = Value.bool true:=r';refine⟨rfl,OldK.of_keep λb o e=>?_,os,bare⟩;cases q:H b with
        | none=>exact un.keep b o e q (by intro z;exact absurd (show b ∈ ([]:List Addr)from z) (by simp)) (by simp)
        | some u =>
          rcases hO b with z | ⟨ob,xs,z⟩
          · rw [q]at z;cases z
          · have z2:=un.iZ b ob _ z
            obtain⟨e1,_⟩:=bo b _ z;obtain⟨e2,_⟩:=Oa b _ z2;rw [e]at e1;cases e1;exact e2
  cases hk:K.lookup a with
  | some o =>
    -- the script is one of the module's own objects
    have e:=KX a o hk;rw [ha]at e;cases e;refine core (λ_=>none) (λ_=>.inl rfl) (.inr ⟨_,vs.toArray,_,hk,rfl,rfl,rfl,by rw [List.size_toArray,OB];exact hl,by simpa using rv⟩) (λb u z=>by have z':(none:Option HO) = some u:=z;cases z') (λb z=>absurd rfl z) λz=>absurd rfl z
  | none =>
    refine core (λb=>if b = a then some (.kj {cls:=.type "list",data:=.seq vs.toArray} (.lst (ns.map V.int)))else none) (λb=>?_) (.inl (.inr ⟨{cls:=.type "list",data:=.seq vs.toArray},if_pos rfl⟩)) (λb u z=>?_) (λb z=>?_) λ_=>hk
    · by_cases hb:b = a
      · exact .inr ⟨_,_,if_pos hb⟩
      · exact .inl (if_neg hb)
    · by_cases hb:b = a
      · have z':=(if_pos hb).symm.trans z
        cases z';subst hb;exact⟨ha,by rw [List.length_map];exact hl,vs,_,rv,ha⟩
      · have z':=(if_neg hb).symm.trans z
        cases z'
    · by_cases hb:b = a
      · exact hb
      · exact absurd (if_neg hb) z
end L2
namespace L2
open PySem PySem.Spec PyProof.Rows
theorem zW{l:PySem.W.OpenLaw} {n k:Nat} {q:Program} {loose:List Str} {XP:(Str -> Option Value) -> Heap -> Prop} {YP:World -> Heap -> Prop} {d:DefRec} {K:Params -> PySem.W.Frag} {CX:World -> rG} {sp:World -> Sp} {x:Str}
    (hn:l.most = some n) (Ju:n <= sizeLine) (Jm:d.params.defaults = []) (hr:fH k callerA)
    (hY:∀(w:World) (h:Heap),YP w h -> (K w.params).In h)
    (F:∀(w:World) (mg:Str -> Option Value) (fa:Addr) (h:Heap),(K w.params).In h -> h.Ns mainGlobals mg -> mg d.name = some (.ref fa) ->
      ∃fd:FuncData,(∀(s:Shared) (u:Value),BindsTo s fd ⟨[u],[]⟩ [(x,u)]) /\
        ∀base:Heap,(K w.params).In base -> base.Ns mainGlobals mg -> dy l.prog w (K w.params) mg base (CX w) k fa fd [x] (sp w))
    (oo:∀(w:World) (H:Hp) (a:Addr) (ns:List Int),ns.length <= n -> Only H -> eO (K w.params) H a (ns.map V.int) -> sp w [.ref a] H (λv _=>v = .bl true) λ_ _ _=>False)
    (NB:∀(w:World) (H:Hp) (s:Shared) (e:Value) (s':Shared),CX w [] H s (λ_ _ _=>False) e s' -> False):
    PySem.W.WalkO q loose XP YP l.row.toRowW d [] (λf vs=>PySem.call f vs):=by
  refine Pm.nC hn Jm λw bB bI mg mb fa o pm cd doc a vs ns G Y ho hd jc hmg Di hints hlen hg=>?_;have KX:=hY w _ Y;obtain⟨fd,hb,hF⟩:=F w mg fa _ KX G.T.g hmg;exact vE KX G.T.g G.T.b G.T.builtins G.T.nolimit hg Di hints (Nat.le_trans hlen Ju) hr hF hb (λH hO hS=>oo w H a ns hlen hO hS) λH e s'=>NB w H bI e s'
end L2
namespace L2
open PySem PySem.Spec PyProof.Rows
noncomputable def a5(s:Stmt):Arguments:=match s with
  | .FunctionDef _ a _ _ _ _ _ _ _ _=>a
  | _=>{posonlyargs:=[],args:=[],vararg:=none,kwonlyargs:=[],kw_defaults:=[],kwarg:=none,defaults:=[]}
noncomputable def ay(s:Stmt):List Stmt:=match s with
  | .FunctionDef _ _ b _ _ _ _ _ _ _=>b
  | _=>[]
noncomputable def ai(s:Stmt):Scope:=match s with
  | .FunctionDef _ _ _ _ _ _ sc _ _ _=>sc
  | _=>{kind:=.function,names:=[],isGenerator:=false,isCoroutine:=false}
noncomputable abbrev qd:rG:=λ_ _ _ _ _ _=>False
noncomputable abbrev E0:XK:=λ_ _ _=>False
theorem KH{X:Cx}:Passes qd X E0:=λ_ _ _ _ _ _ _ h=>h.elim
structure xF(K:PySem.W.Frag) (x qual:Str) (st:Stmt) (f:Addr) (fd:FuncData):Prop where
  ex:∃(oc:Value) (od:Option Addr) (kV doc pm:Value) (an:Option Addr) (fS ct:Value) (vP:Array (Option Value)),
    fd = PySem.W.fnOf x qual (a5 st) (ay st) (ai st) .none kV doc pm an fS ct /\ K.lookup f = some ⟨oc,od,.func fd,vP⟩ /\ PySem.W.codeIn K fS qual = true
  kp:PySem.W.keepIn K (.ref f) = true
section
variable {P:Program} {w:World} {K:PySem.W.Frag} {mg:Str -> Option Value} {base:Heap}
theorem xF.ok{x qual:Str} {st:Stmt} {f:Addr} {fd:FuncData} {N ps:List Str} {k:Nat} {sp:Sp} (F:xF K x qual st f fd) (S:aV N ps (ai st)) (len:∀vs H Q E,sp vs H Q E -> vs.length = ps.length)
    (ve:∀(fS:Value) (A:Around) (outer:List Env) (s:Shared) (H:Hp) (vs:List V) (Q:VK) (E:XK),fH k (A.deeper (envOfC qual (ai st) s.heap.objs.size f fS)) -> sp vs H Q E ->
      ∃t,nu (lQ qd P w K mg base N qual (ai st) f fS A outer s H E).J7 (ay st) t /\ t {nx:=λ_ H'=>Q .bt H',rt:=Q} (start N vs) H):dy P w K mg base qd (k+1) f fd ps sp:=by
  obtain⟨oc,od,kV,doc,pm,an,fS,ct,vP,rfl,lk,jc⟩:=F.ex;refine AF lk jc S len λA outer s H vs Q E hr oo=>?_;obtain⟨t,h,q⟩:=ve fS A outer s H vs Q E hr oo;exact⟨t,h.J7,q⟩
theorem xF.binds{x qual:Str} {st:Stmt} {f:Addr} {fd:FuncData} {ps:List Str} (F:xF K x qual st f fd)
    (h:∀(kV doc pm:Value) (an:Option Addr) (fS ct:Value) (us:List Value),us.length = ps.length -> bindArgs (PySem.W.fnOf x qual (a5 st) (ay st) (ai st) .none kV doc pm an fS ct) ⟨us,[]⟩ = pure (ps.zip us)):Binds K fd ps []:=by
  obtain⟨oc,od,kV,doc,pm,an,fS,ct,vP,rfl,lk,jc⟩:=F.ex;exact .all (h kV doc pm an fS ct)
theorem bJ{x qual:Str} {st:Stmt} {f:Addr} {oc:Value} {od an:Option Addr} {vP:Array (Option Value)} {kV doc pm fS ct:Value} (l:K.lookup f = some ⟨oc,od,.func (PySem.W.fnOf x qual (a5 st) (ay st) (ai st) .none kV doc pm an fS ct),vP⟩)
    (c:PySem.W.codeIn K fS qual = true) (k:PySem.W.keepIn K (.ref f) = true):xF K x qual st f (PySem.W.fnOf x qual (a5 st) (ay st) (ai st) .none kV doc pm an fS ct):=⟨⟨oc,od,kV,doc,pm,an,fS,ct,vP,rfl,l,c⟩,k⟩
end
noncomputable def ax(H H':Hp):Prop:=∀b o,H b = some o -> H' b = some o
theorem ax.refl(H:Hp):ax H H:=λ_ _ h=>h
theorem ax.trans{H H1 H2:Hp} (a:ax H H1) (b:ax H1 H2):ax H H2:=λc o h=>b c o (a c o h)
theorem ax.free{H H':Hp} (e:ax H H') {l:Addr} (h:H' l = Option.none):H l = Option.none:=by
  cases q:H l with
  | none=>rfl
  | some o =>
    rw [e l o q]at h;cases h
theorem ax.seq{K:PySem.W.Frag} {H H':Hp} {a:Addr} {xs:List V} (e:ax H H') (h:eO K H a xs):eO K H' a xs:=by
  rcases h with(h | ⟨o,h⟩) | h
  · exact .inl (.inl (e _ _ h))
  · exact .inl (.inr ⟨o,e _ _ h⟩)
  · exact .inr h
end L2
set_option Elab.async false
set_option linter.all false
set_option maxRecDepth 100000
set_option Elab.async false
set_option linter.all false
set_option maxRecDepth 100000
namespace Vc
open PySem L2
class KF where
  K:PySem.W.Frag
  /-- where the classes of exceptions stand -/
  cls:Str -> Addr:=λ_=>0
  /-- the code tables that a lambda fills: where,as they were,the lambda's place,its name -/
  tabs:List (Addr × Array Value × Pos × Str):=[]
variable [KF]
inductive D where
  | bt | bl (b:Bool) | int (i:Int) | str (x:Str) | tup (xs:List D) | lst (xs:List D) | dct (b6:List (D × D)) | exc (c:Str)
  /-- the law's own list: read,never changed -/
  | fP (ns:List Int)
  /-- a dict with whole numbers for keys -/
  | o6 (b6:List (Int × D))
  /-- kept points: the word,the count,the next name,the points by their names -/
  | kp (w:Str) (c e:Int) (b6:List (Int × D))
noncomputable def F2(a:Addr) (h:Heap):Prop:=∃o vs,h.get? a = some o /\ o.data = .fields vs /\ vs[2]? = some .none
theorem F2.mono{a:Addr} {h1 h2:Heap} (f:F2 a h1) (k:∀o,h1.get? a = some o -> h2.get? a = some o):F2 a h2:=
  let ⟨o,vs,e,r⟩:=f;⟨o,vs,k o e,r⟩
noncomputable def iY(a:Addr) (c:Str):HO:=.ext λh=>(∃o,h.get? a = some o /\ o.cls = .ref (KF.cls c)) /\ F2 a h
noncomputable def kD:Key -> D
  | .inl i=>.int i
  | .inr x=>.str x
noncomputable def Qe(w:Str) (c e:Int) (ad:Addr):List (Str × V):=[("way",.str w),("count",.int c),("points_by_name",.ref ad),("ever_put",.int e)]
mutual
inductive Rep (F:Hp):V -> D -> Prop where
  | bt:Rep F .bt .bt
  | bl (b:Bool):Rep F (.bl b) (.bl b)
  | int (i:Int):Rep F (.int i) (.int i)
  | str (x:Str):Rep F (.str x) (.str x)
  | tup {a:Addr} {vs:List V} {ds:List D}:F a = some (.tup vs) -> aM F vs ds -> Rep F (.ref a) (.tup ds)
  | lst {a:Addr} {vs:List V} {ds:List D}:Rd F a (.lst vs) -> aM F vs ds -> Rep F (.ref a) (.lst ds)
  | fP {a:Addr} {ns:List Int}:eO KF.K F a (ns.map V.int) -> Rep F (.ref a) (.fP ns)
  | exc {a:Addr} {c:Str}:F a = some (iY a c) -> Rep F (.ref a) (.exc c)
  | Cv {a:Addr} {ks:List (List Key × V)} {b6:List (D × D)}:F a = some (.dT ks) -> lx F ks b6 -> Rep F (.ref a) (.dct b6)
  | o6 {a:Addr} {ks:List (Key × V)} {b6:List (Int × D)}:Rd F a (.dK ks) -> h8 F ks b6 -> Rep F (.ref a) (.o6 b6)
  | kp {a dx ad:Addr} {w:Str} {c e:Int} {ks:List (Key × V)} {b6:List (Int × D)}:F a = some (.ins (KF.cls "Kept") dx (Qe w c e ad)) -> Rd F ad (.dK ks) -> h8 F ks b6 -> Rep F (.ref a) (.kp w c e b6)
inductive h8 (F:Hp):List (Key × V) -> List (Int × D) -> Prop where
  | nil:h8 F [] []
  | cons {i:Int} {v:V} {d:D} {ks:List (Key × V)} {b6:List (Int × D)}:Rep F v d -> h8 F ks b6 -> h8 F ((.inl i,v) :: ks) ((i,d) :: b6)
inductive o9 (F:Hp):List (Key × V) -> List (D × D) -> Prop where
  | nil:o9 F [] []
  | cons {k:Key} {v:V} {d:D} {ks:List (Key × V)} {b6:List (D × D)}:Rep F v d -> o9 F ks b6 -> o9 F ((k,v) :: ks) ((kD k,d) :: b6)
inductive lx (F:Hp):List (List Key × V) -> List (D × D) -> Prop where
  | nil:lx F [] []
  | cons {k:List Key} {v:V} {d:D} {ks:List (List Key × V)} {b6:List (D × D)}:Rep F v d -> lx F ks b6 -> lx F ((k,v) :: ks) ((.tup (k.map kD),d) :: b6)
inductive aM (F:Hp):List V -> List D -> Prop where
  | nil:aM F [] []
  | cons {v:V} {d:D} {vs:List V} {ds:List D}:Rep F v d -> aM F vs ds -> aM F (v :: vs) (d :: ds)
end
theorem Rd.mono{F F':Hp} (s:ax F F') {a:Addr} {u:HO} (h:Rd F a u):Rd F' a u:=by
  rcases h with h | ⟨o,h⟩
  · exact .inl (s a _ h)
  · exact .inr ⟨o,s a _ h⟩
mutual
theorem Rep.mono{F F':Hp} (s:ax F F') {v:V} {d:D}:Rep F v d -> Rep F' v d
  | .bt=>.bt
  | .bl b=>.bl b
  | .int i=>.int i
  | .str x=>.str x
  | .tup h r=>.tup (s _ _ h) (aM.mono s r)
  | .lst h r=>.lst (Rd.mono s h) (aM.mono s r)
  | .fP h=>.fP (s.seq h)
  | .exc h=>.exc (s _ _ h)
  | .Cv h r=>.Cv (s _ _ h) (lx.mono s r)
  | .o6 h r=>.o6 (Rd.mono s h) (h8.mono s r)
  | .kp h1 h2 r=>.kp (s _ _ h1) (Rd.mono s h2) (h8.mono s r)
theorem h8.mono{F F':Hp} (s:ax F F') {ks:List (Key × V)} {b6:List (Int × D)}:h8 F ks b6 -> h8 F' ks b6
  | .nil=>.nil
  | .cons h r=>.cons (Rep.mono s h) (h8.mono s r)
theorem o9.mono{F F':Hp} (s:ax F F') {ks:List (Key × V)} {b6:List (D × D)}:o9 F ks b6 -> o9 F' ks b6
  | .nil=>.nil
  | .cons h r=>.cons (Rep.mono s h) (o9.mono s r)
theorem lx.mono{F F':Hp} (s:ax F F') {ks:List (List Key × V)} {b6:List (D × D)}:lx F ks b6 -> lx F' ks b6
  | .nil=>.nil
  | .cons h r=>.cons (Rep.mono s h) (lx.mono s r)
theorem aM.mono{F F':Hp} (s:ax F F') {vs:List V} {ds:List D}:aM F vs ds -> aM F' vs ds
  | .nil=>.nil
  | .cons h r=>.cons (Rep.mono s h) (aM.mono s r)
end
theorem aM.length{F:Hp}:∀ {vs:List V} {ds:List D},aM F vs ds -> vs.length = ds.length
  | _,_,.nil=>rfl
  | _,_,.cons _ r=>by simp [aM.length r]
theorem aM.append{F:Hp}:∀ {vs ws:List V} {ds es:List D},aM F vs ds -> aM F ws es -> aM F (vs ++ ws) (ds ++ es)
  | _,_,_,_,.nil,s=>s
  | _,_,_,_,.cons h r,s=>.cons h (aM.append r s)
theorem aM.get{F:Hp}:∀ {vs:List V} {ds:List D} {i:Nat} {d:D},aM F vs ds -> ds[i]? = some d -> ∃v,vs[i]? = some v /\ Rep F v d
  | _,_,_,_,.nil,e=>by simp at e
  | _,_,0,_,.cons h _,e=>by simp at e;subst e;exact⟨_,by simp,h⟩
  | _,_,i+1,_,.cons _ r,e=>by
    obtain⟨v,h1,h2⟩:=aM.get (i:=i) r (by simpa using e)
    exact⟨v,by simpa using h1,h2⟩
theorem aM.set{F:Hp} {v:V} {d:D} (h:Rep F v d):∀ {vs:List V} {ds:List D} (i:Nat),aM F vs ds -> aM F (vs.set i v) (ds.set i d)
  | _,_,_,.nil=>.nil
  | _,_,0,.cons _ t=>.cons h t
  | _,_,i+1,.cons q t=>.cons q (aM.set h i t)
theorem aM.take{F:Hp}:∀ {vs:List V} {ds:List D} (n:Nat),aM F vs ds -> aM F (vs.take n) (ds.take n)
  | _,_,0,_=>.nil
  | _,_,_+1,.nil=>.nil
  | _,_,n+1,.cons h r=>.cons h (aM.take n r)
theorem aM.drop{F:Hp}:∀ {vs:List V} {ds:List D} (n:Nat),aM F vs ds -> aM F (vs.drop n) (ds.drop n)
  | _,_,0,r=>r
  | _,_,_+1,.nil=>.nil
  | _,_,n+1,.cons _ r=>aM.drop n r
theorem aM.rep{F:Hp} {vs:List V} {ds:List D} (r:aM F vs ds):∀n:Nat,aM F (List.replicate n vs).flatten (List.replicate n ds).flatten
  | 0=>.nil
  | n+1=>by
    rw [List.replicate_succ,List.replicate_succ,List.flatten_cons,List.flatten_cons];exact r.append (aM.rep r n)
noncomputable def bP(F H:Hp) (v:V) (d:D):Prop:=match d with
  | .lst xs=>∃a vs,v = .ref a /\ Rd H a (.lst vs) /\ aM F vs xs
  | .o6 b6=>∃a ks,v = .ref a /\ Rd H a (.dK ks) /\ h8 F ks b6
  | .kp w c e b6=>∃a dx ad ks,v = .ref a /\ H a = some (.ins (KF.cls "Kept") dx (Qe w c e ad)) /\ Rd H ad (.dK ks) /\ h8 F ks b6
  | d=>Rep F v d
theorem aP{H:Hp} {p:Addr} {o:HO} (h:H p = none):ax H (upd H p o):=λb u e=>by
  rw [az (bX e h)];exact e
noncomputable def dl:HO -> Bool
  | .dK _=>true
  | .ins _ _ _=>true
  | _=>false
structure O where
  fp:Addr -> List Addr
  rep:Hp -> Hp -> Addr -> Prop
  solid:∀ {F H:Hp} {a b:Addr} {φ:Heap -> Prop},rep F H a -> b ∈ fp a -> H b ≠ some (.ext φ)
  nt:∀ {F H:Hp} {a b:Addr} {vs:List V},rep F H a -> b ∈ fp a -> H b ≠ some (.tup vs)
  mono:∀ {F F' H H':Hp} {a:Addr},ax F F' -> (∀b ∈ fp a,H' b = H b) -> rep F H a -> rep F' H' a
  /-- what it is as data,where it is that -/
  view:Option D:=none
  sees:∀ {F H:Hp} {a:Addr} {d:D},rep F H a -> view = some d -> bP F H (.ref a) d:=by intro _ _ _ _ _ e;cases e
  lend:∀ {F H:Hp} {a:Addr} {d:D},ax F H -> rep F H a -> view = some d -> ∃F',ax F F' /\ ax F' H /\ Rep F' (.ref a) d /\ ∀c u,F' c = some u -> F c = some u \/ (dl u = true /\ c ∈ fp a):=by intro _ _ _ _ _ _ e;cases e
  /-- what it is as data when it is lent as a whole -/
  deep:Option D:=none
  Qj:∀ {F H:Hp} {a:Addr} {d:D},ax F H -> rep F H a -> deep = some d -> ∃F',ax F F' /\ ax F' H /\ Rep F' (.ref a) d:=by intro _ _ _ _ _ _ e;cases e
  /-- where it stands -/
  loc:Option Addr:=none
  Sb:∀ {F H:Hp} {a b:Addr},rep F H a -> loc = some b -> a = b:=by intro _ _ _ _ _ e;cases e
inductive B where
  | sh (d:D)
  | own (xs:List D)
  | obj (o:O)
noncomputable abbrev Sd:=List (Option B)
structure bM where
  H0:Hp
  F0:Hp
  io:List (Nat × Addr)
  /-- the addresses of things that were handed in to be changed -/
  ob:List Addr
noncomputable def bM.MA(Y:bM):List Addr:=Y.io.map (·.2)
noncomputable def bM.yp(Y:bM):List Addr:=Y.io.map (·.2) ++ Y.ob
theorem bM.yq{Y:bM} {a:Addr} (h:a ∉ Y.yp):a ∉ Y.MA:=λz=>h (List.mem_append_left _ z)
noncomputable def gf(ao:Sd) (σ:St) (b:Addr):Prop:=∃(i:Nat) (o:O) (a:Addr),ao[i]? = some (some (.obj o)) /\ σ[i]? = some (some (.ref a)) /\ b ∈ o.fp a
noncomputable def h9(F:Hp):Prop:=∀q ∈ KF.tabs,F q.1 = some (.lam q.2.1 q.2.2.1 q.2.2.2)
theorem h9.mono{F F':Hp} (h:h9 F) (s:ax F F'):h9 F':=λq hq=>s _ _ (h q hq)
noncomputable def tR(F H:Hp):Prop:=ax F H /\ h9 F
structure nz(Y:bM) (F:Hp) (ao:Sd) (σ:St) (H:Hp):Prop where
  obj:∀(i:Nat) (o:O),ao[i]? = some (some (.obj o)) -> ∃a,σ[i]? = some (some (.ref a)) /\ o.rep F H a /\ ∀b ∈ o.fp a,F b = none /\ H b ≠ none /\ (Y.H0 b = none \/ b ∈ Y.ob)
  xU:∀(i j:Nat) (o p:O) (a b:Addr),ao[i]? = some (some (.obj o)) -> ao[j]? = some (some (.obj p)) -> σ[i]? = some (some (.ref a)) -> σ[j]? = some (some (.ref b)) -> i ≠ j -> ∀c ∈ o.fp a,c ∉ p.fp b
  kc:∀(j:Nat) (xs:List D) (b:Addr),ao[j]? = some (some (.own xs)) -> σ[j]? = some (some (.ref b)) -> ¬gf ao σ b
  there:∀b ∈ Y.ob,H b ≠ none
  xB:∀b ∈ Y.ob,Y.H0 b ≠ none
  tab:h9 F
theorem nz.owned{Y:bM} {F:Hp} {ao:Sd} {σ:St} {H:Hp} (X:nz Y F ao σ H) {b:Addr} (h:gf ao σ b):F b = none /\ H b ≠ none /\ (Y.H0 b = none \/ b ∈ Y.ob):=by
  obtain⟨i,o,a,e1,e2,hb⟩:=h;obtain⟨a',e3,_,h3⟩:=X.obj i o e1;rw [e2]at e3;cases e3;exact h3 b hb
theorem nz.vK{Y:bM} {F:Hp} {ao:Sd} {σ:St} {H:Hp} (X:nz Y F ao σ H) {b:Addr} (h:gf ao σ b) {φ:Heap -> Prop}:H b ≠ some (.ext φ):=by
  obtain⟨i,o,a,e1,e2,hb⟩:=h;obtain⟨a',e3,h2,_⟩:=X.obj i o e1;rw [e2]at e3;cases e3;exact o.solid h2 hb
theorem nz.J5{Y:bM} {F:Hp} {ao:Sd} {σ:St} {H:Hp} (X:nz Y F ao σ H) {b:Addr} (h:gf ao σ b) {vs:List V}:H b ≠ some (.tup vs):=by
  obtain⟨i,o,a,e1,e2,hb⟩:=h;obtain⟨a',e3,h2,_⟩:=X.obj i o e1;rw [e2]at e3;cases e3;exact o.nt h2 hb
theorem nz.step{Y Y':bM} {F F':Hp} {ao aQ:Sd} {σ bO:St} {H H':Hp} (X:nz Y F ao σ H) (hs:ax F F')
    (My:∀(i:Nat) (o:O),aQ[i]? = some (some (.obj o)) -> ao[i]? = some (some (.obj o)) /\ bO[i]? = σ[i]?)
    (hb:∀b,gf ao σ b -> H' b = H b /\ F' b = none /\ (Y'.H0 b = none \/ b ∈ Y'.ob))
    (Od:∀(j:Nat) (ys:List D) (b:Addr),aQ[j]? = some (some (.own ys)) -> bO[j]? = some (some (.ref b)) -> ¬gf ao σ b)
    (Oh:∀b ∈ Y'.ob,H' b ≠ none) (hz:∀b ∈ Y'.ob,b ∈ Y.ob /\ (Y.H0 b ≠ none -> Y'.H0 b ≠ none):=by exactλb hb=>⟨hb,id⟩):nz Y' F' aQ bO H' where
  obj:=λi o e=>by
    obtain⟨e1,e2⟩:=My i o e;obtain⟨a,h1,h2,h3⟩:=X.obj i o e1;have ow:∀b ∈ o.fp a,gf ao σ b:=λb z=>⟨i,o,a,e1,h1,z⟩;refine⟨a,by rw [e2];exact h1,o.mono hs (λb z=>(hb b (ow b z)).1) h2,λb z=>⟨(hb b (ow b z)).2.1,?_,(hb b (ow b z)).2.2⟩⟩
    rw [(hb b (ow b z)).1];exact(h3 b z).2.1
  xU:=λi j o p a b e1 e2 e3 e4=>by
    obtain⟨q1,q2⟩:=My i o e1;obtain⟨q3,q4⟩:=My j p e2;rw [q2]at e3;rw [q4]at e4;exact X.xU i j o p a b q1 q3 e3 e4
  kc:=λj xs b e1 e2 ⟨i,o,a,e3,e4,hm⟩=>by
    obtain⟨q1,q2⟩:=My i o e3;rw [q2]at e4;exact Od j xs b e1 e2 ⟨i,o,a,q1,e4,hm⟩
  there:=Oh
  xB:=λb hb=>(hz b hb).2 (X.xB b (hz b hb).1)
  tab:=X.tab.mono hs
theorem nz.put{Y:bM} {F:Hp} {ao:Sd} {σ bO:St} {H:Hp} {i:Nat} {b':Option B} (X:nz Y F ao σ H) (h1:∀j,j ≠ i -> bO[j]? = σ[j]?) (hn:∀o,b' ≠ some (.obj o))
    (hw:∀ys a,b' = some (.own ys) -> bO[i]? = some (some (.ref a)) -> ¬gf ao σ a):nz Y F (ao.set i b') bO H:=by
  have gs:∀ {j:Nat} {y:Option B},(ao.set i b')[j]? = some y -> (j = i /\ y = b') \/ (j ≠ i /\ ao[j]? = some y):=λ{j y} h=>by
    by_cases hj:j = i
    · subst hj
      by_cases hl:j<ao.length
      · rw [List.getElem?_set_self hl]at h;exact .inl ⟨rfl,(Option.some.inj h).symm⟩
      · have:(ao.set j b')[j]? = none:=by rw [List.getElem?_eq_none_iff];simp;omega
        rw [this]at h;cases h
    · rw [List.getElem?_set_ne (Ne.symm hj)]at h;exact .inr ⟨hj,h⟩
  refine X.step (ax.refl _) (λj o e=>?_) (λb hb=>⟨rfl,(X.owned hb).1,(X.owned hb).2.2⟩) (λj ys b e1 e2=>?_) X.there
  · rcases gs e with⟨_,z⟩ | ⟨hj,z⟩
    · exact absurd z.symm (hn o)
    · exact⟨z,h1 j hj⟩
  · rcases gs e1 with⟨rfl,z⟩ | ⟨hj,z⟩
    · exact hw ys b z.symm e2
    · rw [h1 j hj]at e2;exact X.kc j ys b z e2
theorem nz.none{Y:bM} {F:Hp} {ao:Sd} {σ:St} {H:Hp} (h:∀(i:Nat) (o:O),ao[i]? ≠ some (some (.obj o))) (Og:h9 F) (Oh:∀b ∈ Y.ob,H b ≠ none) (hz:∀b ∈ Y.ob,Y.H0 b ≠ none:=by intro b hb;cases hb):nz Y F ao σ H where
  xB:=hz
  tab:=Og
  obj:=λi o e=>absurd e (h i o)
  xU:=λi _ o _ _ _ e=>absurd e (h i o)
  kc:=λ_ _ _ _ _ ⟨i,o,_,e,_⟩=>h i o e
  there:=Oh
noncomputable def Nw(H:Hp) (b:Addr) (o:HO):Prop:=H b = none \/ ∃vs,o = .tup vs
structure RS(Y:bM) (F:Hp) (ao:Sd) (σ:St) (H:Hp):Prop where
  len:ao.length = σ.length
  lo:ax Y.F0 F
  fr:ax F H
  eF:∀b o,F b = some o -> Y.F0 b = some o \/ Nw Y.H0 b o
  old:∀b o,Y.H0 b = some o -> b ∉ Y.yp -> H b = some o
  sh:∀(i:Nat) (d:D),ao[i]? = some (some (.sh d)) -> ∃v,σ[i]? = some (some v) /\ Rep F v d
  own:∀(i:Nat) (xs:List D),ao[i]? = some (some (.own xs)) -> ∃a vs,σ[i]? = some (some (.ref a)) /\ H a = some (.lst vs) /\ aM F vs xs /\ F a = none /\ (Y.H0 a = none \/ a ∈ Y.MA)
  dis:∀(i j:Nat) (xs ys:List D) (a:Addr),ao[i]? = some (some (.own xs)) -> ao[j]? = some (some (.own ys)) -> σ[i]? = some (some (.ref a)) -> σ[j]? = some (some (.ref a)) -> i = j
  io:∀p ∈ Y.io,σ[p.1]? = some (some (.ref p.2)) /\ ∃xs,ao[p.1]? = some (some (.own xs))
  ob:nz Y F ao σ H
theorem wz{F H:Hp} {p:Addr} {o:HO} (s:ax F H):ax (upd F p o) (upd H p o):=λb u e=>by
  by_cases hb:b = p
  · subst hb;rw [aW]at e ⊢;exact e
  · rw [az hb]at e ⊢;exact s b u e
theorem same_none{F H:Hp} (s:ax F H) {p:Addr} (h:H p = none):F p = none:=s.free h
theorem RS.cA{Y:bM} {F:Hp} {ao:Sd} {σ:St} {H:Hp} {p:Addr} (R:RS Y F ao σ H) (h:H p = none):Y.H0 p = none /\ p ∉ Y.yp:=by
  have cM:p ∉ Y.yp:=λhm=>by
    rcases List.mem_append.mp hm with hm | hm
    case inr=>exact R.ob.there p hm h
    obtain⟨q,hq,e⟩:=List.mem_map.mp hm;obtain⟨h1,xs,h2⟩:=R.io q hq;obtain⟨a,vs,h3,h4,_⟩:=R.own _ _ h2;rw [h1]at h3;cases h3;rw [e,h]at h4;cases h4
  refine⟨?_,cM⟩;cases e:Y.H0 p with
  | none=>rfl
  | some o=>rw [R.old p o e cM]at h;cases h
theorem RS.alloc{Y:bM} {F:Hp} {ao:Sd} {σ:St} {H:Hp} {p:Addr} {o:HO} (R:RS Y F ao σ H) (h:H p = none):RS Y (upd F p o) ao σ (upd H p o) where
  len:=R.len
  lo:=R.lo.trans (aP (same_none R.fr h))
  fr:=wz R.fr
  eF:=λb u e=>by
    by_cases hb:b = p
    · subst hb;exact .inr (.inl (R.cA h).1)
    · rw [az hb]at e;exact R.eF b u e
  old:=λb u e n=>by
    have:=R.old b u e n;rw [az (bX this h)];exact this
  sh:=λi d e=>by
    obtain⟨v,h1,h2⟩:=R.sh i d e;exact⟨v,h1,h2.mono (aP (same_none R.fr h))⟩
  own:=λi xs e=>by
    obtain⟨a,vs,h1,h2,h3,h4,h5⟩:=R.own i xs e;have dk:=bX h2 h;exact⟨a,vs,h1,by rw [az dk];exact h2,h3.mono (aP (same_none R.fr h)),by rw [az dk];exact h4,h5⟩
  dis:=R.dis
  io:=R.io
  ob:=R.ob.step (aP (same_none R.fr h)) (λi o e=>⟨e,rfl⟩) (λb hb=>by
    obtain⟨w1,w2,w3⟩:=R.ob.owned hb;have dk:b ≠ p:=λz=>w2 (z ▸ h);exact⟨az dk,by rw [az dk];exact w1,w3⟩) (λj ys b e1 e2=>R.ob.kc j ys b e1 e2) λb hb=>by
    have dk:b ≠ p:=λz=>R.ob.there b hb (z ▸ h);rw [az dk];exact R.ob.there b hb
theorem RS.lA{Y:bM} {F:Hp} {ao:Sd} {σ:St} {H:Hp} {p:Addr} {o:HO} (R:RS Y F ao σ H) (h:H p = none):RS Y F ao σ (upd H p o) where
  len:=R.len
  lo:=R.lo
  fr:=R.fr.trans (aP h)
  eF:=R.eF
  old:=λb u e n=>aP h b u (R.old b u e n)
  sh:=R.sh
  own:=λi xs e=>by
    obtain⟨a,vs,h1,h2,h3,h4,h5⟩:=R.own i xs e;exact⟨a,vs,h1,aP h a _ h2,h3,h4,h5⟩
  dis:=R.dis
  io:=R.io
  ob:=R.ob.step (ax.refl _) (λi o e=>⟨e,rfl⟩) (λb hb=>by
    obtain⟨w1,w2,w3⟩:=R.ob.owned hb;have dk:b ≠ p:=λz=>w2 (z ▸ h);exact⟨az dk,w1,w3⟩) (λj ys b e1 e2=>R.ob.kc j ys b e1 e2) λb hb=>by
    have dk:b ≠ p:=λz=>R.ob.there b hb (z ▸ h);rw [az dk];exact R.ob.there b hb
inductive EV where
  | val (d:D) | var (i:Nat) | own (xs:List D) | obj (o:O) | any
inductive OV where
  | val (d:D) | var (i:Nat) | any
noncomputable abbrev TX:=Sd -> (EV -> Sd -> Prop) -> Prop
noncomputable abbrev TV:=Sd -> (OV -> Sd -> Prop) -> Prop
noncomputable abbrev TD:=Sd -> (D -> Sd -> Prop) -> Prop
noncomputable abbrev TB:=Sd -> (Bool -> Sd -> Prop) -> Prop
noncomputable abbrev fq:=Sd -> (List D -> Sd -> Prop) -> Prop
structure eo(ao:Sd) (σ:St) (a:Addr):Prop where
  own:∀(j:Nat) (ys:List D),ao[j]? = some (some (.own ys)) -> σ[j]? ≠ some (some (.ref a))
  J0:¬gf ao σ a
instance {ao:Sd} {σ:St} {a:Addr}:CoeFun (eo ao σ a) λ_=>∀(j:Nat) (ys:List D),ao[j]? = some (some (.own ys)) -> σ[j]? ≠ some (some (.ref a)):=⟨eo.own⟩
theorem RS.d8{Y:bM} {F:Hp} {ao:Sd} {σ:St} {H:Hp} (R:RS Y F ao σ H) {a:Addr} (h:H a = none):eo ao σ a:=by
  refine⟨λj ys e z=>?_,λz=>(R.ob.owned z).2.1 h⟩;obtain⟨b,us,e1,e2,_⟩:=R.own j ys e;rw [e1]at z;cases z;rw [h]at e2;cases e2
noncomputable def rL(F:Hp) (σ:St) (v:V):OV -> Prop
  | .val d=>Rep F v d
  | .var i=>σ[i]? = some (some v)
  | .any=>True
noncomputable def Bp(Y:bM) (F H:Hp) (ao:Sd) (σ:St) (v:V):EV -> Prop
  | .val d=>Rep F v d
  | .var i=>σ[i]? = some (some v)
  | .own xs=>∃a vs,v = .ref a /\ H a = some (.lst vs) /\ aM F vs xs /\ F a = none /\ Y.H0 a = none /\ eo ao σ a
  | .obj o=>∃a,v = .ref a /\ o.rep F H a /\ ∀b ∈ o.fp a,F b = none /\ H b ≠ none /\ Y.H0 b = none /\ eo ao σ b
  | .any=>True
noncomputable def lX(Y:bM) (t:TX):TE:=λσ H Q=>∃F ao Qd,RS Y F ao σ H /\ t ao Qd /\ ∀v H' F' x aQ,ax F F' -> RS Y F' aQ σ H' -> Bp Y F' H' aQ σ v x -> Qd x aQ -> Q v H'
noncomputable def lO(Y:bM) (t:TV):TE:=λσ H Q=>∃F ao Qd,RS Y F ao σ H /\ t ao Qd /\ ∀v H' F' x aQ,ax F F' -> RS Y F' aQ σ H' -> rL F' σ v x -> Qd x aQ -> Q v H'
noncomputable def lD(Y:bM) (t:TD):TE:=λσ H Q=>∃F ao Qd,RS Y F ao σ H /\ t ao Qd /\ ∀v H' F' x aQ,ax F F' -> RS Y F' aQ σ H' -> Rep F' v x -> Qd x aQ -> Q v H'
noncomputable def lB(Y:bM) (t:TB):TT:=λσ H Q=>∃F ao Qd,RS Y F ao σ H /\ t ao Qd /\ ∀b H' F' aQ,ax F F' -> RS Y F' aQ σ H' -> Qd b aQ -> Q b H'
noncomputable def Qg(Y:bM) (t:fq):TA:=λσ H Q=>∃F ao Qd,RS Y F ao σ H /\ t ao Qd /\ ∀vs H' F' xs aQ,ax F F' -> RS Y F' aQ σ H' -> aM F' vs xs -> Qd xs aQ -> Q vs H'
structure GE where
  P:Program
  w:World
  K:PySem.W.Frag
  mg:Str -> Option Value
  base:Heap
structure Stat where
  N:List Str
  sc:List (Str × NameKind)
  ios:List Nat:=[]
  nD:Bool:=false
  /-- within an except suite -/
  kl:Bool:=false
  /-- a raise may stand here -/
  rs:Bool:=false
  /-- what is wanted where an exception of a class leaves -/
  ex:Str -> Sd -> Prop:=λ_ _=>False
noncomputable def xX(a T:Addr) (c:Str):HO:=.ext λh=>(∃o vs a0,h.get? a = some o /\ o.cls = .ref (KF.cls c) /\ o.data = .fields vs /\ vs[0]? = some a0 /\ vs[1]? = some (.ref T)) /\ F2 a h
noncomputable def MP(T:Addr):HO:=.ext λh=>∃o ts,h.get? T = some o /\ o.data = .fields ts /\ ts[3]? = some .none
structure Hy(X:Cx) (Y:bM) (F H:Hp) (a T:Addr) (c:Str):Prop where
  fa:F a = none
  fT:F T = none
  ha:H a = some (xX a T c)
  hT:H T = some (MP T)
  ne:a ≠ T
  na:Y.H0 a = none
  nT:Y.H0 T = none
  la:X.bB.heap.get? a = none
  lT:X.bB.heap.get? T = none
noncomputable def D1(a:Addr) (c:Str):HO:=.ext λh=>(∃o vs a0,h.get? a = some o /\ o.cls = .ref (KF.cls c) /\ o.data = .fields vs /\ vs[0]? = some a0 /\ vs[1]? = some .none) /\ F2 a h
structure cX(X:Cx) (G:GE) (k:Nat) (S:Stat) (Y:bM):Prop where
  P:X.prog = G.P
  w:X.w = G.w
  K:X.K = G.K
  kf:X.K = KF.K
  mg:X.mg = G.mg
  base:X.base = G.base
  N:X.N = S.N
  sc:X.env.scope.names = S.sc
  nd:S.N.Nodup
  ios:∀p ∈ Y.io,p.1 ∈ S.ios
  obs:S.nD = false -> S.ios = [] -> Y.ob = []
  calm:S.kl = false -> X.calm = true
  kind:X.env.scope.kind = .function
  fn:S.nD = false -> ∀x,S.sc.lookup x = some .cell -> X.fn x = true
  hd:S.kl = false -> X.A.handled = none
  dp:X.A.depth+3*k+5<recursionLimit
  un:X.A.units+16*k+200<cLine
  po:S.kl = false -> PassesOwn (model X.prog X.w) X.A X.env X.xe
  nx:S.nD = false -> X.ex = [] /\ X.stack = X.env :: X.outer /\ X.env.frame = some X.env.locals
  exc:∀c ao,S.ex c ao -> ∀pins σ H F s a T,L2.Inv X pins σ H s -> RS Y F ao σ H -> Hy X Y F H a T c -> X.xe (.ref a) s
  made:S.rs = true -> ∀c ao,S.ex c ao -> ∀pins σ H F s a,L2.Inv X pins σ H s -> RS Y F ao σ H -> H a = some (D1 a c) -> Y.H0 a = none -> X.bB.heap.get? a = none -> X.xe (.ref a) s
  hx:S.kl = true -> S.rs = true -> ∃a c,X.A.handled = some (.ref a) /\ Y.F0 a = some (iY a c)
theorem cX.room{X:Cx} {G:GE} {k:Nat} {S:Stat} {Y:bM} (ok:cX X G k S Y) (h:S.kl = false):fH k X.A:=⟨ok.hd h,ok.dp,ok.un⟩
theorem cX.units{X:Cx} {G:GE} {k:Nat} {S:Stat} {Y:bM} (ok:cX X G k S Y):X.A.units+64<cLine:=by have:=ok.un;omega
variable {G:GE} {k:Nat} {S:Stat}
structure EX(G:GE) (k:Nat) (S:Stat) (e:Expr) (t:TX) :Prop where
  run:∀X Y,cX X G k S Y -> PE X e (lX Y t)
instance {G:GE} {k:Nat} {S:Stat} {e:Expr} {t:TX} :CoeFun (EX G k S e t) λ_=>∀X Y,cX X G k S Y -> PE X e (lX Y t):=⟨EX.run⟩
structure EO(G:GE) (k:Nat) (S:Stat) (e:Expr) (t:TV) :Prop where
  run:∀X Y,cX X G k S Y -> PE X e (lO Y t)
instance {G:GE} {k:Nat} {S:Stat} {e:Expr} {t:TV} :CoeFun (EO G k S e t) λ_=>∀X Y,cX X G k S Y -> PE X e (lO Y t):=⟨EO.run⟩
structure ED(G:GE) (k:Nat) (S:Stat) (e:Expr) (t:TD) :Prop where
  run:∀X Y,cX X G k S Y -> PE X e (lD Y t)
instance {G:GE} {k:Nat} {S:Stat} {e:Expr} {t:TD} :CoeFun (ED G k S e t) λ_=>∀X Y,cX X G k S Y -> PE X e (lD Y t):=⟨ED.run⟩
structure EB(G:GE) (k:Nat) (S:Stat) (e:Expr) (t:TB) :Prop where
  run:∀X Y,cX X G k S Y -> PT X e (lB Y t)
instance {G:GE} {k:Nat} {S:Stat} {e:Expr} {t:TB} :CoeFun (EB G k S e t) λ_=>∀X Y,cX X G k S Y -> PT X e (lB Y t):=⟨EB.run⟩
structure rH(G:GE) (k:Nat) (S:Stat) (es:List Expr) (t:fq) :Prop where
  run:∀X Y,cX X G k S Y -> PA X es (Qg Y t)
instance {G:GE} {k:Nat} {S:Stat} {es:List Expr} {t:fq} :CoeFun (rH G k S es t) λ_=>∀X Y,cX X G k S Y -> PA X es (Qg Y t):=⟨rH.run⟩
noncomputable def Fq:Expr -> Bool
  | .Starred _ _=>false
  | _=>true
theorem dv{e:Expr} {es:List Expr} {env:Env} (h:Fq e = true):starEach (e :: es) env = (false,eval e env) :: starEach es env:=by
  cases e<;>first | rfl | cases h
theorem aY{X:Cx} {e:Expr} {t t':TE} (h:PE X e t) (i:∀σ H Q,t' σ H Q -> t σ H Q):PE X e t':=λpins s σ H Q I q=>h pins s σ H Q I (i σ H Q q)
theorem mH{X:Cx} {e:Expr} {t t':TT} (h:PT X e t) (i:∀σ H Q,t' σ H Q -> t σ H Q):PT X e t':=λpins s σ H Q I q=>h pins s σ H Q I (i σ H Q q)
theorem mF{X:Cx} {e:List Expr} {t t':TA} (h:PA X e t) (i:∀σ H Q,t' σ H Q -> t σ H Q):PA X e t':=λpos pins s σ H Q I q=>h pos pins s σ H Q I (i σ H Q q)
theorem eY{X:Cx} {e:Stmt} {t t':TS} (h:PS X e t) (i:∀D σ H,t' D σ H -> t D σ H):PS X e t':=λpins s σ H D I q=>h pins s σ H D I (i D σ H q)
theorem qU{X:Cx} {e:List Stmt} {t t':TS} (h:nu X e t) (i:∀D σ H,t' D σ H -> t D σ H):nu X e t':=λpins s σ H D I q=>h pins s σ H D I (i D σ H q)
theorem RS.r0{Y:bM} {F:Hp} {ao:Sd} {σ:St} {H:Hp} {a:Addr} {vs:List V} (R:RS Y F ao σ H) (h1:H a = some (.lst vs)) (h2:F a = none) (h3:eo ao σ a) (h4:Y.H0 a = none):RS Y (upd F a (.lst vs)) ao σ H where
  len:=R.len
  lo:=R.lo.trans (aP h2)
  fr:=λb o e=>by
    by_cases hb:b = a
    · subst hb;rw [aW]at e;cases e;exact h1
    · rw [az hb]at e;exact R.fr b o e
  eF:=λb u e=>by
    by_cases hb:b = a
    · subst hb;exact .inr (.inl h4)
    · rw [az hb]at e;exact R.eF b u e
  old:=R.old
  sh:=λi d e=>by
    obtain⟨v,q1,q2⟩:=R.sh i d e;exact⟨v,q1,q2.mono (aP h2)⟩
  own:=λi xs e=>by
    obtain⟨b,us,q1,q2,q3,q4,q5⟩:=R.own i xs e;have dk:b ≠ a:=λz=>h3 i xs e (by rw [q1,z])
    exact⟨b,us,q1,q2,q3.mono (aP h2),by rw [az dk];exact q4,q5⟩
  dis:=R.dis
  io:=R.io
  ob:=R.ob.step (aP h2) (λi o e=>⟨e,rfl⟩) (λb hb=>by
    obtain⟨w1,w2,w3⟩:=R.ob.owned hb;have dk:b ≠ a:=λz=>h3.J0 (z ▸ hb);exact⟨rfl,by rw [az dk];exact w1,w3⟩) (λj ys b e1 e2=>R.ob.kc j ys b e1 e2) R.ob.there
noncomputable def Py:EV -> OV
  | .val d=>.val d
  | .var i=>.var i
  | .own xs=>.val (.lst xs)
  | .obj _=>.any
  | .any=>.any
noncomputable def aH(t:TX):TV:=λσ Q=>t σ λx av=>Q (Py x) av
theorem aI{e:Expr} {t:TX} (h:EX G k S e t):EO G k S e (aH t):=.mk λX Y ok=>aY (h X Y ok) λσ H Q q=>by
  obtain⟨F,ao,Qd,R,q,K⟩:=q;refine⟨F,ao,_,R,q,λv H' F' x aQ s R' r q'=>?_⟩;cases x with
  | val d=>exact K v H' F' (.val d) aQ s R' r q'
  | var i=>exact K v H' F' (.var i) aQ s R' r q'
  | own xs =>
    obtain⟨a,vs,rfl,h1,h2,h3,h4,h5⟩:=r;exact K _ H' _ (.val (.lst xs)) aQ (s.trans (aP h3)) (R'.r0 h1 h3 h5 h4) (.lst (.inl aW) (h2.mono (aP h3))) q'
  | obj o=>exact K v H' F' .any aQ s R' trivial q'
  | any=>exact K v H' F' .any aQ s R' trivial q'
noncomputable def Qt:OV -> EV
  | .val d=>.val d
  | .var i=>.var i
  | .any=>.any
noncomputable def oX(t:TV):TX:=λσ Q=>t σ λx av=>Q (Qt x) av
theorem fO{e:Expr} {t:TV} (h:EO G k S e t):EX G k S e (oX t):=.mk λX Y ok=>aY (h X Y ok) λσ H Q q=>by
  obtain⟨F,ao,Qd,R,q,K⟩:=q;refine⟨F,ao,_,R,q,λv H' F' x aQ s R' r q'=>?_⟩;cases x with
  | val d=>exact K v H' F' (.val d) aQ s R' r q'
  | var i=>exact K v H' F' (.var i) aQ s R' r q'
  | any=>exact K v H' F' .any aQ s R' trivial q'
theorem aX{α:Type} {l:List (Option α)} {i:Nat} {x:α} {y:Option α} (h:l[i]? = some (some x)):(l.set i y)[i]? = some y:=by
  have:=(List.getElem?_eq_some_iff.mp h).1;rw [List.getElem?_set_self this]
theorem a9{α:Type} {l:List (Option α)} {i j:Nat} {y:Option α} (h:j ≠ i):(l.set i y)[j]? = l[j]?:=by
  rw [List.getElem?_set_ne (Ne.symm h)]
theorem RS.il{Y:bM} {F:Hp} {ao:Sd} {σ:St} {H:Hp} {i:Nat} {xs:List D} (R:RS Y F ao σ H) (h:ao[i]? = some (some (.own xs))) (cM:∀p ∈ Y.io,p.1 ≠ i):
    ∃F' v,ax F F' /\ RS Y F' (ao.set i (some (.sh (.lst xs)))) σ H /\ σ[i]? = some (some v) /\ Rep F' v (.lst xs):=by
  obtain⟨a,vs,q1,q2,q3,q4,q5⟩:=R.own i xs h;have sm:=aP (o:=.lst vs) q4;have rep:Rep (upd F a (.lst vs)) (.ref a) (.lst xs):=.lst (.inl aW) (q3.mono sm);have OD:Y.H0 a = none:=by
    rcases q5 with q5 | q5
    · exact q5
    · obtain⟨p,hp,e⟩:=List.mem_map.mp q5
      obtain⟨w1,ys,w2⟩:=R.io p hp;exact absurd (R.dis p.1 i ys xs a w2 h (by rw [w1,e]) q1) (cM p hp)
  have Sl:nz Y (upd F a (.lst vs)) (ao.set i (some (.sh (.lst xs)))) σ H:=R.ob.step sm (λj o e=>by
    have hj:j ≠ i:=λz=>by subst z;rw [aX h]at e;cases e
    rw [a9 hj]at e;exact⟨e,rfl⟩) (λb hb=>by
    obtain⟨w1,w2,w3⟩:=R.ob.owned hb;have dk:b ≠ a:=λz=>R.ob.kc i xs a h q1 (z ▸ hb);exact⟨rfl,by rw [az dk];exact w1,w3⟩) (λj ys b e1 e2=>by
    have hj:j ≠ i:=λz=>by subst z;rw [aX h]at e1;cases e1
    rw [a9 hj]at e1;exact R.ob.kc j ys b e1 e2) R.ob.there
  refine⟨upd F a (.lst vs),.ref a,sm,⟨by simpa using R.len,R.lo.trans sm,λb o e=>?_,λb o e=>?_,R.old,λj d e=>?_,λj ys e=>?_,λj l ys zs b e1 e2 e3 e4=>?_,λp hp=>?_,Sl⟩,q1,rep⟩
  · by_cases hb:b = a
    · subst hb;rw [aW]at e;cases e;exact q2
    · rw [az hb]at e;exact R.fr b o e
  · by_cases hb:b = a
    · subst hb;exact .inr (.inl OD)
    · rw [az hb]at e;exact R.eF b o e
  · by_cases hj:j = i
    · subst hj
      rw [aX h]at e;cases e;exact⟨_,q1,rep⟩
    · rw [a9 hj]at e
      obtain⟨v,w1,w2⟩:=R.sh j d e;exact⟨v,w1,w2.mono sm⟩
  · have hj:j ≠ i:=λz=>by subst z;rw [aX h]at e;cases e
    rw [a9 hj]at e;obtain⟨b,us,w1,w2,w3,w4,w5⟩:=R.own j ys e;have dk:b ≠ a:=λz=>hj (R.dis j i ys xs a e h (z ▸ w1) q1);exact⟨b,us,w1,w2,w3.mono sm,by rw [az dk];exact w4,w5⟩
  · have hj:j ≠ i:=λz=>by subst z;rw [aX h]at e1;cases e1
    have hl:l ≠ i:=λz=>by subst z;rw [aX h]at e2;cases e2
    rw [a9 hj]at e1;rw [a9 hl]at e2;exact R.dis j l ys zs b e1 e2 e3 e4
  · obtain⟨w1,ys,w2⟩:=R.io p hp
    exact⟨w1,ys,by rw [a9 (cM p hp)];exact w2⟩
noncomputable def GY(ios:List Nat) (x:OV) (av:Sd) (Q:D -> Sd -> Prop):Prop:=match x with
  | .val d=>Q d av
  | .any=>False
  | .var i=>match av[i]? with
    | some (some (.own xs))=>i ∉ ios /\ Q (.lst xs) (av.set i (some (.sh (.lst xs))))
    | some (some (.sh d))=>Q d av
    | _=>False
theorem xh{ios:List Nat} {d:D} {av:Sd} {Q:D -> Sd -> Prop}:GY ios (.val d) av Q = Q d av:=rfl
theorem oZ{ios:List Nat} {i:Nat} {av:Sd} {Q:D -> Sd -> Prop}:GY ios (.var i) av Q = (match av[i]? with
    | some (some (.own xs))=>i ∉ ios /\ Q (.lst xs) (av.set i (some (.sh (.lst xs))))
    | some (some (.sh d))=>Q d av
    | _=>False):=rfl
noncomputable def ak(ios:List Nat) (t:TV):TD:=λσ Q=>t σ λx av=>GY ios x av Q
theorem aE{e:Expr} {t:TV} (h:EO G k S e t):ED G k S e (ak S.ios t):=.mk λX Y ok=>aY (h X Y ok) λσ H Q q=>by
  obtain⟨F,ao,Qd,R,q,K⟩:=q;refine⟨F,ao,_,R,q,λv H' F' x aQ s R' r q'=>?_⟩;cases x with
  | val d=>exact K v H' F' d aQ s R' r q'
  | any=>exact False.elim q'
  | var i =>
    have r:σ[i]? = some (some v):=r;rw [oZ]at q'
    split at q'
    · rename_i xs e
      obtain⟨hi,q'⟩:=q';obtain⟨F2,v2,s2,R2,e2,r2⟩:=R'.il e λp hp z=>hi (z ▸ ok.ios p hp);rw [r]at e2;cases e2;exact K v H' F2 _ _ (s.trans s2) R2 r2 q'
    · rename_i d e
      obtain⟨v2,e2,r2⟩:=R'.sh i d e;rw [r]at e2;cases e2;exact K v H' F' d aQ s R' r2 q'
    · exact q'.elim
noncomputable def af(i:Nat):TV:=λσ Q=>match σ[i]? with
  | some (some (.sh d))=>Q (.val d) σ
  | some (some (.own _))=>Q (.var i) σ
  | _=>False
theorem ah(i:Nat) {x:Str} {pos:Pos} (hN:S.N[i]? = some x:=by rfl) (hv:S.sc.lookup x = some .local \/ S.sc.lookup x = some .cell \/ S.sc.lookup x = some .free:=by first | exact Or.inl rfl | exact Or.inr (Or.inl rfl) | exact Or.inr (Or.inr rfl))
    (hd:(x == ("__debug__":Str)) = false:=by decide) (jc:(x == ("__classdict__":Str)) = false:=by decide):EO G k S (.Name x pos) (af i):=.mk λX Y ok =>
  aY (Fh (X:=X) (i:=i) (by rw [ok.N];exact hN) (by unfold M5;rw [ok.sc];exact hv) hd jc) λσ H Q q=>by
    obtain⟨F,ao,Qd,R,q,K⟩:=q;unfold af at q
    split at q
    · rename_i d e
      obtain⟨v,e2,r2⟩:=R.sh i d e;exact⟨v,e2,K v H F (.val d) ao (ax.refl _) R r2 q⟩
    · rename_i xs e
      obtain⟨a,vs,e2,_⟩:=R.own i xs e;exact⟨_,e2,K _ H F (.var i) ao (ax.refl _) R e2 q⟩
    · exact q.elim
noncomputable def aD(d:D):TV:=λσ Q=>Q (.val d) σ
theorem jE{Y:bM} {v:V} {d:D} (r:∀F,Rep F v d) (σ:St) (H:Hp) (Q:VK) (q:lO Y (aD d) σ H Q):tC v σ H Q:=by
  obtain⟨F,ao,Qd,R,q,K⟩:=q;exact K v H F (.val d) ao (ax.refl _) R (r F) q
theorem aq{i j pos}:EO G k S (.Constant (.int i) j pos) (aD (.int i)):=.mk λ_ _ _=>aY Fb (jE λ_=>.int i)
theorem sG{b j pos}:EO G k S (.Constant (.bool b) j pos) (aD (.bl b)):=.mk λ_ _ _=>aY KI (jE λ_=>.bl b)
theorem kZ{j pos}:EO G k S (.Constant .none j pos) (aD .bt):=.mk λ_ _ _=>aY Fd (jE λ_=>.bt)
theorem aA{x j pos}:EO G k S (.Constant (.str x) j pos) (aD (.str x)):=.mk λ_ _ _=>aY Fg (jE λ_=>.str x)
noncomputable def xE(G:GE) (x:Str) (d:D):Prop:=∃u v,G.mg x = some u /\ RelV v u /\ ∀F,Rep F v d
theorem cc{X:Cx} {Y:bM} (ok:cX X G k S Y) {x:Str} (h:S.sc.lookup x = some .globalImplicit):Gl X x:=by
  unfold Gl;show X.env.scope.names.lookup x = _;rw [ok.sc];exact h
theorem qY{x:Str} {d:D} {pos:Pos} (h:xE G x d) (hg:S.sc.lookup x = some .globalImplicit:=by rfl) (hd:(x == ("__debug__":Str)) = false:=by decide):EO G k S (.Name x pos) (aD d):=.mk λX Y ok=>by
  obtain⟨u,v,h1,h2,h3⟩:=h;exact aY (qR (cc ok hg) (by rw [ok.mg];exact h1) h2 hd) (jE h3)
noncomputable def cw(σ:Sd):OV -> Option D
  | .val d=>some d
  | .any=>none
  | .var i=>match σ[i]? with
    | some (some (.sh d))=>some d
    | some (some (.own xs))=>some (.lst xs)
    | some (some (.obj o))=>o.view
    | _=>none
theorem Rep.h{F H:Hp} (s:ax F H) {v:V} {d:D} (r:Rep F v d):bP F H v d:=by
  cases d with
  | lst xs =>
    cases r with
    | lst h r=>exact⟨_,_,rfl,Rd.mono s h,r⟩
  | o6 b6 =>
    cases r with
    | o6 h r=>exact⟨_,_,rfl,Rd.mono s h,r⟩
  | kp w c e b6 =>
    cases r with
    | kp h1 h2 r=>exact⟨_,_,_,_,rfl,s _ _ h1,Rd.mono s h2,r⟩
  | _=>exact r
theorem RS.cw{Y:bM} {F:Hp} {ao:Sd} {σ:St} {H:Hp} (R:RS Y F ao σ H) {v:V} {x:OV} {d:D} (r:rL F σ v x) (e:cw ao x = some d):bP F H v d:=by
  cases x with
  | val d'=>cases e;exact Rep.h R.fr r
  | any=>cases e
  | var i =>
    have r:σ[i]? = some (some v):=r;have e:(match ao[i]? with | some (some (.sh d))=>some d | some (some (.own xs))=>some (.lst xs) | some (some (.obj o))=>o.view | _=>none) = some d:=e
    split at e
    · rename_i d' q
      cases e;obtain⟨v2,e2,r2⟩:=R.sh i d q;rw [r]at e2;cases e2;exact Rep.h R.fr r2
    · rename_i xs q
      cases e;obtain⟨a,vs,e2,h2,h3,_⟩:=R.own i xs q;rw [r]at e2;cases e2;exact⟨a,vs,rfl,.inl h2,h3⟩
    · rename_i o q
      obtain⟨a,e2,h2,_⟩:=R.ob.obj i o q;rw [r]at e2;cases e2;exact o.sees h2 e
    · cases e
theorem bP.int{F H:Hp} {v:V} {i:Int} (r:bP F H v (.int i)):v = .int i:=by cases(show Rep F v (.int i)from r);rfl
theorem bP.bl{F H:Hp} {v:V} {i:Bool} (r:bP F H v (.bl i)):v = .bl i:=by cases(show Rep F v (.bl i)from r);rfl
theorem bP.str{F H:Hp} {v:V} {i:Str} (r:bP F H v (.str i)):v = .str i:=by cases(show Rep F v (.str i)from r);rfl
theorem bP.bt{F H:Hp} {v:V} (r:bP F H v .bt):v = .bt:=by cases(show Rep F v .bt from r);rfl
theorem bP.tup{F H:Hp} (s:ax F H) {v:V} {xs:List D} (r:bP F H v (.tup xs)):∃a vs,v = .ref a /\ H a = some (.tup vs) /\ aM F vs xs:=by
  cases(show Rep F v (.tup xs)from r)with
  | tup h r=>exact⟨_,_,rfl,s _ _ h,r⟩
theorem bP.lst{F H:Hp} {v:V} {xs:List D} (r:bP F H v (.lst xs)):∃a vs,v = .ref a /\ Rd H a (.lst vs) /\ aM F vs xs:=r
noncomputable def Goes(Y:bM) (F:Hp) (ao:Sd) (σ:St) (Qd:EV -> Prop) (Q:VK):Prop:=∀v H' F' r,ax F F' -> RS Y F' ao σ H' -> Bp Y F' H' ao σ v r -> Qd r -> Q v H'
theorem Goes.val{Y:bM} {F:Hp} {ao:Sd} {σ:St} {Qd:EV -> Prop} {Q:VK} (g:Goes Y F ao σ Qd Q) {H:Hp} (R:RS Y F ao σ H) {v:V} {d:D} (r:Rep F v d) (q:Qd (.val d)):Q v H:=g v H F (.val d) (ax.refl _) R r q
theorem Goes.own{Y:bM} {F:Hp} {ao:Sd} {σ:St} {Qd:EV -> Prop} {Q:VK} (g:Goes Y F ao σ Qd Q) {H:Hp} (R:RS Y F ao σ H) {vs:List V} {xs:List D} (r:aM F vs xs) (q:Qd (.own xs)):∀p,H p = none -> Q (.ref p) (upd H p (.lst vs)):=λp hp=>by
  refine g (.ref p) _ F (.own xs) (ax.refl _) (R.lA hp) ⟨p,vs,rfl,aW,r,same_none R.fr hp,(R.cA hp).1,⟨λj ys e z=>?_,λz=>(R.ob.owned z).2.1 hp⟩⟩ q;obtain⟨a,us,e1,e2,_⟩:=R.own j ys e;rw [e1]at z;cases z;rw [hp]at e2;cases e2
theorem Goes.tup{Y:bM} {F:Hp} {ao:Sd} {σ:St} {Qd:EV -> Prop} {Q:VK} (g:Goes Y F ao σ Qd Q) {H:Hp} (R:RS Y F ao σ H) {vs:List V} {xs:List D} (r:aM F vs xs) (q:Qd (.val (.tup xs))):∀p,H p = none -> Q (.ref p) (upd H p (.tup vs)):=λp hp=>by
  have sm:=aP (o:=.tup vs) (same_none R.fr hp);exact g (.ref p) _ _ (.val (.tup xs)) sm (R.alloc hp) (.tup aW (r.mono sm)) q
noncomputable def fo(r:R2) (f:D -> D -> (EV -> Prop) -> Prop):Prop:=
  ∀Y F H ao σ v u x y Qd Q,RS Y F ao σ H -> bP F H v x -> bP F H u y -> f x y Qd -> Goes Y F ao σ Qd Q -> r v u H Q
noncomputable def aC(f:D -> D -> (EV -> Prop) -> Prop) (ta tb:TV):TX:=λσ Q=>ta σ λx av=>tb av λy bh=>match cw bh x,cw bh y with
  | some a,some b=>f a b λr=>Q r bh
  | _,_=>False
theorem rL.mono{F F':Hp} (s:ax F F') {σ:St} {v:V} {x:OV} (r:rL F σ v x):rL F' σ v x:=by
  cases x with
  | val d=>exact Rep.mono s r
  | var i=>exact r
  | any=>trivial
theorem pW{Y:bM} {r:R2} {f:D -> D -> (EV -> Prop) -> Prop} (hs:fo r f) {ta tb:TV} {σ:St} {H:Hp} {Q:VK} (q:lX Y (aC f ta tb) σ H Q):Hg r (lO Y ta) (lO Y tb) σ H Q:=by
  obtain⟨F,ao,Qd,R,q,K⟩:=q;refine⟨F,ao,_,R,q,λv1 H1 F1 x av s1 R1 r1 q1=>?_⟩;refine⟨F1,av,_,R1,q1,λv2 H2 F2 y bh s2 R2 r2 q2=>?_⟩
  split at q2
  · rename_i a b ea eb
    exact hs Y F2 H2 bh σ v1 v2 a b _ Q R2 (R2.cw (r1.mono s2) ea) (R2.cw r2 eb) q2 λv H' F' r s R' rr qq=>K v H' F' r bh ((s1.trans s2).trans s) R' rr qq
  · exact q2.elim
theorem iR{op:Operator} {f:D -> D -> (EV -> Prop) -> Prop} {r:PySem.W.Frag -> R2} (ho:∀X,eN X (binaryOp op) (r X.K)) (hs:∀K,fo (r K) f) {a b:Expr} {ta tb:TV} {pos:Pos} (ha:EO G k S a ta) (hb:EO G k S b tb):
    EX G k S (.BinOp a op b pos) (aC f ta tb):=.mk λX Y ok=>aY (KL (ho X) (ha X Y ok) (hb X Y ok)) λσ H Q q=>pW (hs X.K) q
noncomputable def bF:D -> D -> (EV -> Prop) -> Prop
  | .int i,.int j,Q=>Q (.val (.int (i+j)))
  | .str a,.str b,Q=>a.length+b.length <= sizeLine /\ Q (.val (.str (a ++ b)))
  | .lst a,.lst b,Q=>a.length+b.length <= sizeLine /\ Q (.own (a ++ b))
  | .tup a,.tup b,Q=>(a ≠ [] /\ a.length+b.length <= sizeLine) /\ Q (.val (.tup (a ++ b)))
  | _,_,_=>False
noncomputable def AW:R2:=λx y H Q=>∃l b xs zs,x = .ref l /\ y = .ref b /\ Rd H l (.lst xs) /\ Rd H b (.lst zs) /\ xs.length+zs.length <= sizeLine /\ ∀p,H p = none -> Q (.ref p) (upd H p (.lst (xs ++ zs)))
theorem Inv.MH{X:Cx} {pins:List (Addr × Obj)} {σ:St} {H:Hp} {s:Shared} {l:Addr} {xs:List V} (I:L2.Inv X pins σ H s) (h:Rd H l (.lst xs)):
    xs.length <= sizeLine /\ ∃(its:List Value) (n:Nat),Vals xs its /\ xs.length = its.length /\ s.heap.get? l = some {cls:=.type "list",data:=.seq its.toArray n}:=by
  obtain⟨z,its,n,r,e⟩:=L2.Rd.ok h I.bo;exact⟨z,its,n,r,r.length,e⟩
theorem yM{X:Cx}:eN X (binaryOp .Add) AW:=by
  intro pins s σ H x y v u Q I rx ry h;obtain⟨l,b,xs,zs,rfl,rfl,hH,hB,hz,q⟩:=h;cases rx;cases ry;obtain⟨z,its,n,r,hl,e⟩:=Inv.MH I hH;obtain⟨z2,Dx,n2,r2,NW,e2⟩:=Inv.MH I hB;refine PySem.P.add_list e e2 ?_ (by rw [List.size_toArray,List.size_toArray];omega)
  have ea:its.toArray ++ Dx.toArray = (its ++ Dx).toArray:=by simp
  rw [ea];exact⟨.ref _,_,I.DX (t':=s.toks) (r.append r2) (by rw [List.length_append];omega),rfl,q _ I.fresh⟩
noncomputable def zp(K:PySem.W.Frag):R2:=λx y H Q=>(∃i j,x = .int i /\ y = .int j /\ Q (.int (i+j)) H) \/ (∃i j,x = .str i /\ y = .str j /\ i.length+j.length <= sizeLine /\ Q (.str (i ++ j)) H) \/ AW x y H Q \/ AX K x y H Q
theorem sA{X:Cx}:eN X (binaryOp .Add) (zp X.K):=EA.or (pL.or (yM.or yN))
theorem rM(K:PySem.W.Frag):fo (zp K) bF:=by
  intro Y F H ao σ v u x y Qd Q R rx ry q g;unfold bF at q
  split at q
  · obtain rfl:=rx.int;obtain rfl:=ry.int
    exact .inl ⟨_,_,rfl,rfl,g.val R (.int _) q⟩
  · obtain rfl:=rx.str;obtain rfl:=ry.str
    exact .inr (.inl ⟨_,_,rfl,rfl,q.1,g.val R (.str _) q.2⟩)
  · obtain⟨a,vs,rfl,h1,r1⟩:=rx.lst;obtain⟨b,us,rfl,h2,r2⟩:=ry.lst
    exact .inr (.inr (.inl ⟨a,b,vs,us,rfl,rfl,h1,h2,by rw [r1.length,r2.length];exact q.1,g.own R (r1.append r2) q.2⟩))
  · have OY:=rx
    obtain⟨a,vs,rfl,h1,r1⟩:=rx.tup R.fr;obtain⟨b,us,rfl,h2,r2⟩:=ry.tup R.fr;refine .inr (.inr (.inr ⟨a,b,vs,us,rfl,rfl,.of h1,.of h2,λz=>?_,by rw [r1.length,r2.length];exact q.1.2,λz=>?_,λ_=>g.tup R (r1.append r2) q.2⟩))
    · subst z
      cases r1;exact q.1.1 rfl
    · subst z
      cases r2;rw [List.append_nil]at q;exact g.val R OY q.2
  · exact q.elim
theorem a6{a b:Expr} {ta tb:TV} {pos:Pos} (ha:EO G k S a ta) (hb:EO G k S b tb):EX G k S (.BinOp a .Add b pos) (aC bF ta tb):=iR (r:=zp) (λ_=>sA) rM ha hb
noncomputable def Ds(C:Int -> Int -> Prop) (g:Int -> Int -> Int):D -> D -> (EV -> Prop) -> Prop
  | .int i,.int j,Q=>C i j /\ Q (.val (.int (g i j)))
  | _,_,_=>False
theorem gx{C:Int -> Int -> Prop} {g:Int -> Int -> Int}:fo (rI C λi j=>.int (g i j)) (Ds C g):=by
  intro Y F H ao σ v u x y Qd Q R rx ry q gg;unfold Ds at q
  split at q
  · obtain rfl:=rx.int;obtain rfl:=ry.int
    exact⟨_,_,rfl,rfl,q.1,gg.val R (.int _) q.2⟩
  · exact q.elim
noncomputable def yn(g:Int -> Int -> Int):D -> D -> (EV -> Prop) -> Prop
  | .int i,.int j,Q=>Q (.val (.int (g i j)))
  | _,_,_=>False
theorem sj{g:Int -> Int -> Int}:fo (xA λi j=>.int (g i j)) (yn g):=by
  intro Y F H ao σ v u x y Qd Q R rx ry q gg;unfold yn at q
  split at q
  · obtain rfl:=rx.int;obtain rfl:=ry.int
    exact⟨_,_,rfl,rfl,gg.val R (.int _) q⟩
  · exact q.elim
section
variable {a b:Expr} {ta tb:TV} {pos:Pos}
noncomputable def kr:=yn λi j=>i-j
noncomputable def kK:=Ds rF λi j=>i/j
noncomputable def bZ:=Ds (λ_ j=>0<j) λi j=>i%j
noncomputable def pP:=Ds nv λi j=>i ^ j.toNat
noncomputable def Gh:=Ds (λ_ j=>0 <= j) λi j=>i/2 ^ j.toNat
theorem iT(ha:EO G k S a ta) (hb:EO G k S b tb):EX G k S (.BinOp a .Sub b pos) (aC kr ta tb):=iR (r:=λ_=>_) (λ_=>EY) (λ_=>sj) ha hb
theorem mJ(ha:EO G k S a ta) (hb:EO G k S b tb):EX G k S (.BinOp a .FloorDiv b pos) (aC kK ta tb):=iR (r:=λ_=>_) (λ_=>yO) (λ_=>gx) ha hb
theorem bu(ha:EO G k S a ta) (hb:EO G k S b tb):EX G k S (.BinOp a .Mod b pos) (aC bZ ta tb):=iR (r:=λ_=>_) (λ_=>EH) (λ_=>gx) ha hb
theorem oJ(ha:EO G k S a ta) (hb:EO G k S b tb):EX G k S (.BinOp a .Pow b pos) (aC pP ta tb):=iR (r:=λ_=>_) (λ_=>EL) (λ_=>gx) ha hb
theorem K9(ha:EO G k S a ta) (hb:EO G k S b tb):EX G k S (.BinOp a .RShift b pos) (aC Gh ta tb):=iR (r:=λ_=>_) (λ_=>ER) (λ_=>gx) ha hb
end
noncomputable def eW:D -> D -> (EV -> Prop) -> Prop
  | .int i,.int j,Q=>fQ i j /\ Q (.val (.int (i*j)))
  | .lst xs,.int j,Q=>(-(2 ^ 63) <= j /\ j<2 ^ 63 /\ xs.length*j.toNat <= sizeLine) /\ Q (.own (List.replicate j.toNat xs).flatten)
  | _,_,_=>False
noncomputable def AY:R2:=λx y H Q=>∃l k xs,x = .ref l /\ y = .int k /\ Rd H l (.lst xs) /\ -(2 ^ 63) <= k /\ k<2 ^ 63 /\ xs.length*k.toNat <= sizeLine /\
  ∀p,H p = none -> Q (.ref p) (upd H p (.lst (List.replicate k.toNat xs).flatten))
theorem yQ{X:Cx}:eN X (binaryOp .Mult) AY:=by
  intro pins s σ H x y v u Q I rx ry h;obtain⟨l,k,xs,rfl,rfl,hH,h1,h2,hz,q⟩:=h;cases rx;obtain⟨t,rfl⟩:=ry;obtain⟨z,its,n,r,hl,e⟩:=Inv.MH I hH;have hlen:its.toArray.size*k.toNat <= sizeLine:=by rw [List.size_toArray,<- hl];exact hz
  have NN:¬its.toArray.size*k.toNat>(2 ^ 63-1)/8:=by
    have:(sizeLine:Nat) <= (2 ^ 63-1)/8:=by decide
    omega
  have NQ:¬(!Builtin.List.listFitsIndex k) = true:=by
    rw [fitsIndex_both h1 h2];exact Bool.false_ne_true
  have Jt:¬Builtin.List.listTooLong (its.toArray.size*k.toNat) = true:=by
    rw [vM hlen];exact Bool.false_ne_true
  have N0:List.foldl (λx1 x2=>x1 ++ x2) #[] (List.replicate (if its.toArray.isEmpty = true then 0 else k.toNat) its.toArray) = (List.replicate k.toNat its).flatten.toArray:=by
    have f0:∀m:Nat,List.foldl (λx1 x2=>x1 ++ x2) #[] (List.replicate m its.toArray) = (List.replicate m its).flatten.toArray:=λm=>by
      have:=foldl_rep its m [];rw [List.nil_append]at this;exact this
    rw [f0];cases its with
    | nil=>simp
    | cons a r'=>rw [if_neg (by simp)]
  refine wpAny_binaryOp_repeat_ref (T:="list") (U:="int") ∅ ⟨_,e,rfl⟩ (λs'=>typeIs_int s' k t) noFill_list_mul F.fills_int_mul F.slot_int_rmul repeat_list F.slot_int_index.lookup
    (call_meets F.slot_int_rmul (typeIs_int s k t) F.entry_int_rmul (F.args_int_rmul_2 _ _) (int___rmul___int_list k t l its.toArray n)
      ⟨e,rfl,⟨_,e,rfl⟩,call_meets F.slot_list_mul ⟨_,e,rfl⟩ F.entry_list_mul (F.args_list_mul_2 _ _) (AutoListH.list___mul___list_int_3 l its.toArray n k t NQ NN Jt) ⟨e,?_⟩⟩)
  rw [N0];exact⟨.ref _,_,I.DX (t':=s.toks) (r.rep k.toNat) (by rw [len_rep,Nat.mul_comm];exact hz),rfl,q _ I.fresh⟩
noncomputable def K7:R2:=λx y H Q=>rI fQ (λi j=>.int (i*j)) x y H Q \/ AY x y H Q
theorem su:fo K7 eW:=by
  intro Y F H ao σ v u x y Qd Q R rx ry q g;unfold eW at q
  split at q
  · obtain rfl:=rx.int;obtain rfl:=ry.int
    exact .inl ⟨_,_,rfl,rfl,q.1,g.val R (.int _) q.2⟩
  · obtain⟨a,vs,rfl,h1,r1⟩:=rx.lst;obtain rfl:=ry.int
    exact .inr ⟨a,_,vs,rfl,rfl,h1,q.1.1,q.1.2.1,by rw [r1.length];exact q.1.2.2,g.own R (r1.rep _) q.2⟩
  · exact q.elim
theorem dN{a b:Expr} {ta tb:TV} {pos:Pos} (ha:EO G k S a ta) (hb:EO G k S b tb):EX G k S (.BinOp a .Mult b pos) (aC eW ta tb):=iR (r:=λ_=>K7) (λ_=>EJ.or yQ) (λ_=>su) ha hb
end Vc
set_option Elab.async false
set_option linter.all false
set_option maxRecDepth 100000
namespace Vc
open PySem L2
variable [KF]
variable {G:GE} {k:Nat} {S:Stat}
mutual
noncomputable def cT:D -> D -> Bool
  | .bt,.bt=>true
  | .bl a,.bl b=>a == b
  | .bl a,.int j=>(if a then 1 else 0) == j
  | .int i,.bl b=>i == (if b then 1 else 0)
  | .int i,.int j=>i == j
  | .str x,.str y=>x == y
  | .lst xs,.lst ys=>uH xs ys
  | .tup xs,.tup ys=>uH xs ys
  | _,_=>false
noncomputable def uH:List D -> List D -> Bool
  | [],[]=>true
  | x :: xs,y :: ys=>cT x y && uH xs ys
  | _,_=>false
end
noncomputable def bL:Nat -> D -> Bool
  | _,.bt=>true
  | _,.bl _=>true
  | _,.int _=>true
  | _,.str x=>x.cps.all (· < 0x110000)
  | n+1,.tup xs=>xs.all (bL n)
  | n+1,.lst xs=>xs.all (bL n)
  | _,_=>false
mutual
noncomputable def toPy:D -> PyData
  | .bt=>.none
  | .bl b=>.bool b
  | .int i=>.int i
  | .str x=>.str x
  | .tup xs=>.tuple (cY xs)
  | .lst xs=>.list (cY xs)
  | _=>.none
noncomputable def cY:List D -> List PyData
  | []=>[]
  | x :: xs=>toPy x :: cY xs
end
theorem lV{n m:Nat} (ih:∀x y,bL n x = true -> bL m y = true -> cT x y = PyData.eqv (toPy x) (toPy y)):∀xs ys:List D,xs.all (bL n) = true -> ys.all (bL m) = true -> uH xs ys = PyData.eqvAll (cY xs) (cY ys)
  | [],[],_,_=>rfl
  | [],_ :: _,_,_=>rfl
  | _ :: _,[],_,_=>rfl
  | x :: xs,y :: ys,h1,h2=>by
    rw [List.all_cons,Bool.and_eq_true]at h1 h2;show(cT x y && uH xs ys) = (PyData.eqv (toPy x) (toPy y) && PyData.eqvAll (cY xs) (cY ys));rw [ih x y h1.1 h2.1,lV ih xs ys h1.2 h2.2]
theorem pv:∀(n m:Nat) (x y:D),bL n x = true -> bL m y = true -> cT x y = PyData.eqv (toPy x) (toPy y):=by
  intro n
  induction n with
  | zero =>
    intro m x y h1 h2;cases x with
    | tup _=>exact absurd h1 (by simp [bL])
    | lst _=>exact absurd h1 (by simp [bL])
    | dct _=>exact absurd h1 (by simp [bL])
    | exc _=>exact absurd h1 (by simp [bL])
    | fP _=>exact absurd h1 (by simp [bL])
    | o6 _=>exact absurd h1 (by simp [bL])
    | kp _ _ _ _=>exact absurd h1 (by simp [bL])
    | _=>cases y<;>first | rfl | (cases m<;>exact absurd h2 (by simp [bL]))
  | succ n ih =>
    intro m x y h1 h2;cases x with
    | tup xs =>
      cases y with
      | tup ys =>
        cases m with
        | zero=>exact absurd h2 (by simp [bL])
        | succ m=>exact lV (ih m) xs ys h1 h2
      | _=>first | rfl | (cases m<;>exact absurd h2 (by simp [bL]))
    | lst xs =>
      cases y with
      | lst ys =>
        cases m with
        | zero=>exact absurd h2 (by simp [bL])
        | succ m=>exact lV (ih m) xs ys h1 h2
      | _=>first | rfl | (cases m<;>exact absurd h2 (by simp [bL]))
    | dct _=>exact absurd h1 (by simp [bL])
    | exc _=>exact absurd h1 (by simp [bL])
    | fP _=>exact absurd h1 (by simp [bL])
    | o6 _=>exact absurd h1 (by simp [bL])
    | kp _ _ _ _=>exact absurd h1 (by simp [bL])
    | _=>cases y<;>first | rfl | (cases m<;>exact absurd h2 (by simp [bL]))
theorem dc{n:Nat} (ih:∀x,bL n x = true -> (toPy x).canLay0 = true /\ (toPy x).depth <= n):∀xs:List D,xs.all (bL n) = true -> PyData.canLayAll0 (cY xs) = true /\ PyData.depthAll (cY xs) <= n
  | [],_=>⟨rfl,Nat.zero_le _⟩
  | x :: xs,h=>by
    rw [List.all_cons,Bool.and_eq_true]at h;have h1:=ih x h.1;have h2:=dc ih xs h.2;refine⟨?_,?_⟩
    · show((toPy x).canLay0 && PyData.canLayAll0 (cY xs)) = true
      rw [h1.1,h2.1];rfl
    · show max (toPy x).depth (PyData.depthAll (cY xs)) <= n
      exact Nat.max_le.mpr ⟨h1.2,h2.2⟩
theorem jd:∀(n:Nat) (x:D),bL n x = true -> (toPy x).canLay0 = true /\ (toPy x).depth <= n:=by
  intro n
  induction n with
  | zero =>
    intro x h;cases x with
    | tup _=>exact absurd h (by simp [bL])
    | lst _=>exact absurd h (by simp [bL])
    | dct _=>exact absurd h (by simp [bL])
    | exc _=>exact absurd h (by simp [bL])
    | fP _=>exact absurd h (by simp [bL])
    | o6 _=>exact absurd h (by simp [bL])
    | kp _ _ _ _=>exact absurd h (by simp [bL])
    | _=>first | exact⟨rfl,Nat.zero_le _⟩ | (exact⟨by simpa [bL,toPy,PyData.canLay0,PyData.strOk]using h,Nat.zero_le _⟩)
  | succ n ih =>
    intro x h;cases x with
    | tup xs =>
      have:=dc ih xs h;exact⟨this.1,Nat.succ_le_succ this.2⟩
    | lst xs =>
      have:=dc ih xs h;exact⟨this.1,Nat.succ_le_succ this.2⟩
    | dct _=>exact absurd h (by simp [bL])
    | exc _=>exact absurd h (by simp [bL])
    | fP _=>exact absurd h (by simp [bL])
    | o6 _=>exact absurd h (by simp [bL])
    | kp _ _ _ _=>exact absurd h (by simp [bL])
    | _=>first | exact⟨rfl,Nat.zero_le _⟩ | (exact⟨by simpa [bL,toPy,PyData.canLay0,PyData.strOk]using h,Nat.zero_le _⟩)
section
variable {P:Program} {w:World} {F H:Hp} {h:Heap}
mutual
theorem Rep.reads(ok:eL P w H h) (s:ax F H):∀ {v:V} {d:D} {u:Value} (n:Nat),Rep F v d -> RelV v u -> bL n d = true -> ∃as,Reads h u (toPy d) as
  | _,_,_,_,.bt,e,_=>by cases e;exact⟨_,.none⟩
  | _,_,_,_,.bl b,e,_=>by cases e;exact⟨_,.bool b⟩
  | _,_,_,_,.int i,e,_=>by obtain⟨t,rfl⟩:=e;exact⟨_,.int i t⟩
  | _,_,_,_,.str x,e,_=>by obtain⟨t,rfl⟩:=e;exact⟨_,.str x t⟩
  | _,_,_,0,.tup _ _,_,o=>by exact absurd o (by simp [bL])
  | _,_,_,0,.lst _ _,_,o=>by exact absurd o (by simp [bL])
  | _,_,_,n+1,.tup (a:=a) (vs:=vs) hf r,e,o=>by
    cases e;obtain⟨_,its,rv,ob,ho,hc,m,hd⟩:=ok a _ (s a _ hf);obtain⟨as,q⟩:=aM.reads ok s n r rv o;exact⟨as,.tuple ho hc hd q⟩
  | _,_,_,n+1,.lst (a:=a) (vs:=vs) hf r,e,o=>by
    cases e;obtain⟨_,its,m,rv,ho⟩:=L2.Rd.ok (Rd.mono s hf) ok;obtain⟨as,q⟩:=aM.reads ok s n r rv o;exact⟨_,.list ho rfl rfl q⟩
  | _,_,_,n,.fP _,_,o=>by cases n<;>exact absurd o (by simp [bL])
  | _,_,_,n,.exc _,_,o=>by cases n<;>exact absurd o (by simp [bL])
  | _,_,_,n,.Cv _ _,_,o=>by cases n<;>exact absurd o (by simp [bL])
  | _,_,_,n,.o6 _ _,_,o=>by cases n<;>exact absurd o (by simp [bL])
  | _,_,_,n,.kp _ _ _,_,o=>by cases n<;>exact absurd o (by simp [bL])
theorem aM.reads(ok:eL P w H h) (s:ax F H):∀ {vs:List V} {ds:List D} {us:List Value} (n:Nat),aM F vs ds -> Vals vs us -> ds.all (bL n) = true -> ∃as,ReadsAll h us (cY ds) as
  | _,_,_,_,.nil,.nil,_=>⟨_,.nil⟩
  | _,_,_,n,.cons r t,.cons e f,o=>by
    rw [List.all_cons,Bool.and_eq_true]at o;obtain⟨as,h1⟩:=Rep.reads ok s n r e o.1;obtain⟨bs,h2⟩:=aM.reads ok s n t f o.2;exact⟨_,.cons h1 h2⟩
end
theorem bP.reads(ok:eL P w H h) (s:ax F H) {v:V} {d:D} {u:Value} (r:bP F H v d) (e:RelV v u) (o:bL 8 d = true):∃as,Reads h u (toPy d) as:=by
  cases d with
  | lst xs =>
    obtain⟨a,vs,rfl,hf,r⟩:=r;cases e;obtain⟨_,its,n,rv,ho⟩:=L2.Rd.ok hf ok;obtain⟨as,q⟩:=aM.reads ok s 7 r rv o;exact⟨_,.list ho rfl rfl q⟩
  | o6 _=>exact absurd o (by simp [bL])
  | kp _ _ _ _=>exact absurd o (by simp [bL])
  | _=>exact Rep.reads ok s 8 r e o
end
theorem fC{x:D} (h:bL 8 x = true):PySem.SeqAt.shaped (toPy x) = true:=by
  obtain⟨h1,h2⟩:=jd 8 x h;unfold PySem.SeqAt.shaped;rw [h1,decide_eq_true ⋯];rfl
noncomputable def zr(neg:Bool):R2:=λv u H Q=>∃F x y,ax F H /\ bP F H v x /\ bP F H u y /\ bL 8 x = true /\ bL 8 y = true /\ Q (.bl (if neg then !cT x y else cT x y)) H
theorem EC{X:Cx} (hu:X.A.units+64<cLine):eN X (compareOp .Eq) (zr false):=by
  intro pins s σ H v u v' u' Q I rv ru h;obtain⟨F,x,y,sm,rx,ry,ox,oy,q⟩:=h;obtain⟨as,r1⟩:=rx.reads I.bo sm rv ox;obtain⟨bs,r2⟩:=ry.reads I.bo sm ru oy;refine PyProof.Rows.eq_dataH r1 r2 (fC ox) (fC oy) hu ⟨.bl (cT x y),H,I,?_,q⟩;rw [pv 8 8 x y ox oy];rfl
theorem EK{X:Cx} (hu:X.A.units+64<cLine):eN X (compareOp .NotEq) (zr true):=by
  intro pins s σ H v u v' u' Q I rv ru h;obtain⟨F,x,y,sm,rx,ry,ox,oy,q⟩:=h;obtain⟨as,r1⟩:=rx.reads I.bo sm rv ox;obtain⟨bs,r2⟩:=ry.reads I.bo sm ru oy;refine PyProof.Rows.ne_dataH r1 r2 (fC ox) (fC oy) hu ⟨.bl (!cT x y),H,I,?_,q⟩;rw [pv 8 8 x y ox oy];rfl
end Vc
set_option Elab.async false
set_option linter.all false
set_option maxRecDepth 100000
namespace Vc
open PySem L2
variable [KF]
variable {G:GE} {k:Nat} {S:Stat}
noncomputable def eJ(r:R2) (f:D -> D -> (Bool -> Prop) -> Prop):Prop:=
  ∀Y F H ao σ v u x y (Qd:Bool -> Prop) (Q:VK),RS Y F ao σ H -> bP F H v x -> bP F H u y -> f x y Qd -> (∀b,Qd b -> Q (.bl b) H) -> r v u H Q
noncomputable def a8(f:D -> D -> (Bool -> Prop) -> Prop) (ta tb:TV):TB:=λσ Q=>ta σ λx av=>tb av λy bh=>match cw bh x,cw bh y with
  | some a,some b=>f a b λr=>Q r bh
  | _,_=>False
noncomputable def bV(t:TB):TV:=λσ Q=>t σ λb av=>Q (.val (.bl b)) av
theorem kF{Y:bM} {r:R2} {f:D -> D -> (Bool -> Prop) -> Prop} (hs:eJ r f) {ta tb:TV} {σ:St} {H:Hp} {Q:VK} {F:Hp} {ao:Sd} {Qd:Bool -> Sd -> Prop} (R:RS Y F ao σ H) (q:a8 f ta tb ao Qd)
    (K:∀b H' F' aQ,ax F F' -> RS Y F' aQ σ H' -> Qd b aQ -> Q (.bl b) H'):Hg r (lO Y ta) (lO Y tb) σ H Q:=by
  refine⟨F,ao,_,R,q,λv1 H1 F1 x av s1 R1 r1 q1=>?_⟩;refine⟨F1,av,_,R1,q1,λv2 H2 F2 y bh s2 R2 r2 q2=>?_⟩
  split at q2
  · rename_i a b ea eb
    exact hs Y F2 H2 bh σ v1 v2 a b _ Q R2 (R2.cw (r1.mono s2) ea) (R2.cw r2 eb) q2 λc qc=>K c H2 F2 bh (s1.trans s2) R2 qc
  · exact q2.elim
noncomputable def gd(G:GE) (k:Nat) (S:Stat) (op:CmpOp) (f:D -> D -> (Bool -> Prop) -> Prop):Prop:=∃r:R2,(∀X Y,cX X G k S Y -> eN X (compareOp op) r) /\ eJ r f
theorem bq{op:CmpOp} {f:D -> D -> (Bool -> Prop) -> Prop} (h:gd G k S op f) {a b:Expr} {ta tb:TV} {pos:Pos} (ha:EO G k S a ta) (hb:EO G k S b tb) (hm:behindInMarks op b = false:=by first | exact vL _ | with_unfolding_all rfl):
    EB G k S (.Compare a [op] [b] pos) (a8 f ta tb):=.mk λX Y ok=>by
  obtain⟨r,ho,hs⟩:=h;refine mH (zk (ho X Y ok) (ha X Y ok) (hb X Y ok) hm) λσ H Q q=>?_;obtain⟨F,ao,Qd,R,q,K⟩:=q;exact kF hs R q λb H' F' aQ s R' qq=>⟨b,rfl,K b H' F' aQ s R' qq⟩
theorem eC{op:CmpOp} {f:D -> D -> (Bool -> Prop) -> Prop} (h:gd G k S op f) {a b:Expr} {ta tb:TV} {pos:Pos} (ha:EO G k S a ta) (hb:EO G k S b tb) (hm:behindInMarks op b = false:=by first | exact vL _ | with_unfolding_all rfl):
    EO G k S (.Compare a [op] [b] pos) (bV (a8 f ta tb)):=.mk λX Y ok=>by
  obtain⟨r,ho,hs⟩:=h;refine aY (yV (ho X Y ok) (ha X Y ok) (hb X Y ok) hm) λσ H Q q=>?_;obtain⟨F,ao,Qd,R,q,K⟩:=q;exact kF hs R q λb H' F' aQ s R' qq=>K _ H' F' (.val (.bl b)) aQ s R' (.bl b) qq
noncomputable def eqT(x y:D) (Q:Bool -> Prop):Prop:=(bL 8 x = true /\ bL 8 y = true) /\ Q (cT x y)
noncomputable def neT(x y:D) (Q:Bool -> Prop):Prop:=(bL 8 x = true /\ bL 8 y = true) /\ Q (!cT x y)
theorem dD:gd G k S .Eq eqT:=⟨zr false,λX Y ok=>EC ok.units,λY F H ao σ v u x y Qd Q R rx ry q K=>⟨F,x,y,R.fr,rx,ry,q.1.1,q.1.2,K _ q.2⟩⟩
theorem ph:gd G k S .NotEq neT:=⟨zr true,λX Y ok=>EK ok.units,λY F H ao σ v u x y Qd Q R rx ry q K=>⟨F,x,y,R.fr,rx,ry,q.1.1,q.1.2,K _ q.2⟩⟩
noncomputable def Dt(p:Int -> Int -> Bool):D -> D -> (Bool -> Prop) -> Prop
  | .int i,.int j,Q=>Q (p i j)
  | _,_,_=>False
theorem fy{p:Int -> Int -> Bool}:eJ (xA λi j=>.bl (p i j)) (Dt p):=λY F H ao σ v u x y Qd Q R rx ry q K=>by
  unfold Dt at q
  split at q
  · obtain rfl:=rx.int;obtain rfl:=ry.int
    exact⟨_,_,rfl,rfl,K _ q⟩
  · exact q.elim
noncomputable def He:=Dt λi j=>decide (i<j)
noncomputable def MD:=Dt λi j=>decide (i <= j)
noncomputable def CW:=Dt λi j=>decide (j<i)
noncomputable def NA:=Dt λi j=>decide (j <= i)
theorem HU:gd G k S .Lt He:=⟨_,λ_ _ _=>Kz,fy⟩
theorem HS:gd G k S .LtE MD:=⟨_,λ_ _ _=>Ky,fy⟩
theorem tT:gd G k S .Gt CW:=⟨_,λ_ _ _=>Kx,fy⟩
theorem M8:gd G k S .GtE NA:=⟨_,λ_ _ _=>Kw,fy⟩
noncomputable def isNone:D -> Bool
  | .bt=>true
  | _=>false
noncomputable def MB(x y:D) (Q:Bool -> Prop):Prop:=isNone y = true /\ Q (isNone x)
theorem bP.isNone{F H:Hp} {v:V} {x:D} (r:bP F H v x):decide (v = .bt) = isNone x:=by
  cases x with
  | lst xs=>obtain⟨a,vs,rfl,_⟩:=r;rfl
  | dct _=>cases(show Rep F v (.dct _)from r);rfl
  | exc _=>cases(show Rep F v (.exc _)from r);rfl
  | fP _=>cases(show Rep F v (.fP _)from r);rfl
  | o6 _=>obtain⟨a,ks,rfl,_⟩:=r;rfl
  | kp _ _ _ _=>obtain⟨a,dx,ad,ks,rfl,_⟩:=r;rfl
  | bt=>obtain rfl:=r.bt;rfl
  | bl _=>obtain rfl:=r.bl;rfl
  | int _=>obtain rfl:=r.int;rfl
  | str _=>obtain rfl:=r.str;rfl
  | tup _=>cases(show Rep F v (.tup _)from r);rfl
theorem bP.D4{F H:Hp} {v:V} {x:D} (r:bP F H v x) (h:Vc.isNone x = true):v = .bt:=by
  cases x<;>first | exact r.bt | cases h
theorem HR:gd G k S .Is MB:=⟨_,λ_ _ _=>EF,λY F H ao σ v u x y Qd Q R rx ry q K=>⟨ry.D4 q.1,by rw [rx.isNone];exact K _ q.2⟩⟩
noncomputable def zU:D -> (Bool -> Prop) -> Prop
  | .bt,Q=>Q false
  | .bl b,Q=>Q b
  | .int i,Q=>Q (i != 0)
  | .lst xs,Q=>Q (!xs.isEmpty)
  | .tup xs,Q=>Q (!xs.isEmpty)
  | _,_=>False
noncomputable def L3(t:TV):TB:=λσ Q=>t σ λx av=>match cw av x with
  | some d=>zU d λb=>Q b av
  | none=>False
theorem gy{F:Hp} {vs:List V} {xs:List D} (r:aM F vs xs):(!xs.isEmpty) = !vs.isEmpty:=by cases r<;>rfl
noncomputable def fb(t u:TB):TB:=λσ Q=>t σ λc av=>if c = true then u av Q else Q false av
noncomputable def oU(t u:TB):TB:=λσ Q=>t σ λc av=>if c = true then Q true av else u av Q
noncomputable def dj(t:TB):TB:=λσ Q=>t σ λc av=>Q (!c) av
structure EW(G:GE) (k:Nat) (S:Stat) (e:Expr) (t:TB) :Prop where
  run:∀X Y,cX X G k S Y -> PW X e (lB Y t)
instance {G:GE} {k:Nat} {S:Stat} {e:Expr} {t:TB} :CoeFun (EW G k S e t) λ_=>∀X Y,cX X G k S Y -> PW X e (lB Y t):=⟨EW.run⟩
theorem pw_imp{X:Cx} {e:Expr} {t t':TT} (h:PW X e t) (i:∀σ H Q,t' σ H Q -> t σ H Q):PW X e t':=λwh pins s σ H Q I q=>h wh pins s σ H Q I (i σ H Q q)
section
variable {a b:Expr} {rest:List Expr} {ta tb:TB} {pos:Pos}
theorem A1(h:EW G k S a ta):EB G k S a ta:=.mk λX Y ok=>(h X Y ok).pt
theorem wm(ha:EB G k S a ta):EW G k S (.BoolOp .And [a] pos) ta:=.mk λX Y ok=>pw_and1 (ha X Y ok)
theorem k7(ha:EB G k S a ta):EW G k S (.BoolOp .Or [a] pos) ta:=.mk λX Y ok=>pw_or1 (ha X Y ok)
theorem AZ(ha:EB G k S a ta) (hb:EW G k S (.BoolOp .And (b :: rest) pos) tb):EW G k S (.BoolOp .And (a :: b :: rest) pos) (fb ta tb):=.mk λX Y ok=>pw_imp (pw_and (ha X Y ok) (hb X Y ok)) λσ H Q q=>by
  obtain⟨F,ao,Qd,R,q,K⟩:=q;refine⟨F,ao,_,R,q,λc H1 F1 av s1 R1 q1=>?_⟩;cases c with
  | true=>exact⟨F1,av,Qd,R1,q1,λb H' F' aQ s R' qq=>K b H' F' aQ (s1.trans s) R' qq⟩
  | false=>exact K false H1 F1 av s1 R1 q1
theorem sI(ha:EB G k S a ta) (hb:EW G k S (.BoolOp .Or (b :: rest) pos) tb):EW G k S (.BoolOp .Or (a :: b :: rest) pos) (oU ta tb):=.mk λX Y ok=>pw_imp (pw_or (ha X Y ok) (hb X Y ok)) λσ H Q q=>by
  obtain⟨F,ao,Qd,R,q,K⟩:=q;refine⟨F,ao,_,R,q,λc H1 F1 av s1 R1 q1=>?_⟩;cases c with
  | false=>exact⟨F1,av,Qd,R1,q1,λb H' F' aQ s R' qq=>K b H' F' aQ (s1.trans s) R' qq⟩
  | true=>exact K true H1 F1 av s1 R1 q1
theorem eh(ha:EB G k S a ta):EB G k S (.UnaryOp .Not a pos) (dj ta):=.mk λX Y ok=>mH (FJ (ha X Y ok)) λσ H Q q=>by
  obtain⟨F,ao,Qd,R,q,K⟩:=q;exact⟨F,ao,_,R,q,λc H1 F1 av s1 R1 q1=>K _ H1 F1 av s1 R1 q1⟩
end
structure xt(G:GE) (k:Nat) (S:Stat) (e:Expr) (t:TB) :Prop where
  run:∀X Y,cX X G k S Y -> PE X e (λσ H Q=>lB Y t σ H λb H'=>Q (.bl b) H')
instance {G:GE} {k:Nat} {S:Stat} {e:Expr} {t:TB} :CoeFun (xt G k S e t) λ_=>∀X Y,cX X G k S Y -> PE X e (λσ H Q=>lB Y t σ H λb H'=>Q (.bl b) H'):=⟨xt.run⟩
section
variable {a b:Expr} {rest:List Expr} {ta tb:TB} {pos:Pos}
noncomputable def di(t:TV):TB:=λσ Q=>t σ λx av=>match cw av x with
  | some (.bl b)=>Q b av
  | _=>False
theorem iH{t:TV} (h:EO G k S a t):xt G k S a (di t):=.mk λX Y ok=>aY (h X Y ok) λσ H Q q=>by
  obtain⟨F,ao,Qd,R,q,K⟩:=q;refine⟨F,ao,_,R,q,λv1 H1 F1 x av s1 R1 r1 q1=>?_⟩
  split at q1
  · rename_i b eb
    obtain rfl:=(R1.cw r1 eb).bl;exact K b H1 F1 av s1 R1 q1
  · exact q1.elim
theorem oY{op:BoolOp} (h:xt G k S a ta):xt G k S (.BoolOp op [a] pos) ta:=.mk λX Y ok=>Ff (h X Y ok)
theorem v_and(ha:xt G k S a ta) (hb:xt G k S (.BoolOp .And (b :: rest) pos) tb):xt G k S (.BoolOp .And (a :: b :: rest) pos) (fb ta tb):=.mk λX Y ok=>aY (E9 (ha X Y ok) (hb X Y ok)) λσ H Q q=>by
  obtain⟨F,ao,Qd,R,q,K⟩:=q;refine⟨F,ao,_,R,q,λc H1 F1 av s1 R1 q1=>⟨c,rfl,?_⟩⟩;cases c with
  | true=>exact⟨F1,av,Qd,R1,q1,λb H' F' aQ s R' qq=>K b H' F' aQ (s1.trans s) R' qq⟩
  | false=>exact K false H1 F1 av s1 R1 q1
theorem wo(h:xt G k S a ta):EO G k S a (bV ta):=.mk λX Y ok=>aY (h X Y ok) λσ H Q q=>by
  obtain⟨F,ao,Qd,R,q,K⟩:=q;exact⟨F,ao,_,R,q,λb H1 F1 av s1 R1 q1=>K _ H1 F1 (.val (.bl b)) av s1 R1 (.bl b) q1⟩
theorem A0(ha:xt G k S a ta):EO G k S (.UnaryOp .Not a pos) (bV (dj ta)):=.mk λX Y ok=>aY (Fe (ha X Y ok)) λσ H Q q=>by
  obtain⟨F,ao,Qd,R,q,K⟩:=q;exact⟨F,ao,_,R,q,λc H1 F1 av s1 R1 q1=>⟨c,rfl,K _ H1 F1 (.val (.bl (!c))) av s1 R1 (.bl _) q1⟩⟩
end
end Vc
set_option Elab.async false
set_option linter.all false
set_option maxRecDepth 100000
namespace Vc
open PySem L2
variable [KF]
variable {G:GE} {k:Nat} {S:Stat}
theorem aM.ke{F:Hp} {vs:List V} {xs:List D} {i:Int} {d:D} (r:aM F vs xs) (h:L2.ke xs i = some d):∃v,L2.ke vs i = some v /\ Rep F v d:=by
  unfold L2.ke at h ⊢;rw [r.length];cases e:qF xs.length i with
  | none=>rw [e]at h;cases h
  | some j =>
    rw [e]at h;exact r.get (i:=j) h
noncomputable def xv:D -> D -> (D -> Prop) -> Prop
  | .lst xs,.int i,Q=>match ke xs i with
    | some d=>Q d
    | none=>False
  | .tup xs,.int i,Q=>match ke xs i with
    | some d=>Q d
    | none=>False
  | .str z,.int i,Q=>z.length <= sizeLine /\ match ke z.cps.toList i with
    | some c=>Q (.str ⟨#[c]⟩)
    | none=>False
  | .fP ns,.int i,Q=>match ke ns i with
    | some n=>Q (.int n)
    | none=>False
  | _,_,_=>False
theorem xJ{α β:Type} (f:α -> β) {xs:List α} {i:Int} {a:α} (h:L2.ke xs i = some a):L2.ke (xs.map f) i = some (f a):=by
  unfold L2.ke at h ⊢;rw [List.length_map];cases e:qF xs.length i with
  | none=>rw [e]at h;cases h
  | some j =>
    rw [e]at h;have h:xs[j]? = some a:=h;show(xs.map f)[j]? = _;rw [List.getElem?_map,h];rfl
noncomputable def jo(ta tb:TV):TV:=λσ Q=>ta σ λx av=>tb av λy bh=>match cw bh x,cw bh y with
  | some a,some b=>xv a b λr=>Q (.val r) bh
  | _,_=>False
theorem dq{a b:Expr} {ta tb:TV} {pos:Pos} (ha:EO G k S a ta) (hb:EO G k S b tb) (hs:qf b:=by intro _ _;rfl):EO G k S (.Subscript a b pos) (jo ta tb):=.mk λX Y ok =>
  aY (KJ DA (ha X Y ok) (hb X Y ok) hs) λσ H Q q=>by
    obtain⟨F,ao,Qd,R,q,K⟩:=q;refine⟨F,ao,_,R,q,λv1 H1 F1 x av s1 R1 r1 q1=>?_⟩;refine⟨F1,av,_,R1,q1,λv2 H2 F2 y bh s2 R2 r2 q2=>?_⟩
    split at q2
    · rename_i a b ea eb
      have rx:=R2.cw (r1.mono s2) ea;have ry:=R2.cw r2 eb;have fin:∀ {v d},Rep F2 v d -> Qd (.val d) bh -> Q v H2:=λr qq=>K _ H2 F2 (.val _) bh (s1.trans s2) R2 r qq;unfold xv at q2
      split at q2
      · obtain⟨p,vs,rfl,h1,r1⟩:=rx.lst;obtain rfl:=ry.int
        split at q2
        · rename_i d e
          obtain⟨v,ev,rv⟩:=r1.ke e;exact .inl ⟨p,vs,_,v,rfl,rfl,.inl h1,ev,fin rv q2⟩
        · exact q2.elim
      · obtain⟨p,vs,rfl,h1,r1⟩:=rx.tup R2.fr;obtain rfl:=ry.int
        split at q2
        · rename_i d e
          obtain⟨v,ev,rv⟩:=r1.ke e;exact .inr (.inl ⟨p,vs,_,v,rfl,rfl,.of h1,ev,fin rv q2⟩)
        · exact q2.elim
      · obtain rfl:=rx.str;obtain rfl:=ry.int
        obtain⟨hz,q2⟩:=q2
        split at q2
        · rename_i c e
          exact .inr (.inr ⟨_,_,c,rfl,rfl,hz,e,fin (.str _) q2⟩)
        · exact q2.elim
      · rename_i ns i
        have rx:Rep F2 v1 (.fP ns):=rx;obtain rfl:=ry.int;cases rx with
        | fP h =>
          split at q2
          · rename_i n e
            exact .inl ⟨_,ns.map V.int,_,.int n,rfl,rfl,by rw [ok.kf];exact R2.fr.seq h,xJ V.int e,fin (.int _) q2⟩
          · exact q2.elim
      · exact q2.elim
    · exact q2.elim
theorem k8{F:Hp}:∀ns:List Int,aM F (ns.map V.int) (ns.map D.int)
  | []=>.nil
  | n :: ns=>.cons (.int n) (k8 ns)
theorem bP.fP{F H:Hp} (s:ax F H) {v:V} {ns:List Int} (r:bP F H v (.fP ns)):∃a,v = .ref a /\ eO KF.K H a (ns.map V.int):=by
  cases(show Rep F v (.fP ns)from r)with
  | fP h=>exact⟨_,rfl,s.seq h⟩
noncomputable abbrev Bq:=Sd -> (Option Int -> Sd -> Prop) -> Prop
noncomputable def lP(Y:bM) (t:Bq):TO:=λσ H Q=>∃F ao Qd,RS Y F ao σ H /\ t ao Qd /\ ∀o H' F' aQ,ax F F' -> RS Y F' aQ σ H' -> Qd o aQ -> Q o H'
structure G4(G:GE) (k:Nat) (S:Stat) (e:Option Expr) (t:Bq) :Prop where
  run:∀X Y,cX X G k S Y -> PO X e (lP Y t)
instance {G:GE} {k:Nat} {S:Stat} {e:Option Expr} {t:Bq} :CoeFun (G4 G k S e t) λ_=>∀X Y,cX X G k S Y -> PO X e (lP Y t):=⟨G4.run⟩
theorem wa{X:Cx} {e:Option Expr} {t t':TO} (h:PO X e t) (i:∀σ H Q,t' σ H Q -> t σ H Q):PO X e t':=λpins s σ H Q I q=>h pins s σ H Q I (i σ H Q q)
noncomputable def wK:Bq:=λσ Q=>Q none σ
noncomputable def wL(t:TV):Bq:=λσ Q=>t σ λx av=>match cw av x with
  | some (.int i)=>Q (some i) av
  | _=>False
theorem d9:G4 G k S none wK:=.mk λX Y ok=>wa yY λσ H Q q=>by
  obtain⟨F,ao,Qd,R,q,K⟩:=q;exact K none H F ao (ax.refl _) R q
theorem eg{e:Expr} {t:TV} (h:EO G k S e t):G4 G k S (some e) (wL t):=.mk λX Y ok=>wa (yZ (h X Y ok)) λσ H Q q=>by
  obtain⟨F,ao,Qd,R,q,K⟩:=q;refine⟨F,ao,_,R,q,λv1 H1 F1 x av s1 R1 r1 q1=>?_⟩
  split at q1
  · rename_i i e
    obtain rfl:=(R1.cw r1 e).int;exact⟨i,rfl,K _ H1 F1 av s1 R1 q1⟩
  · exact q1.elim
noncomputable def cut{α:Type} (xs:List α) (lo hi:Option Int):List α:=(xs.drop (HT.cn xs.length 0 lo)).take (HT.cn xs.length xs.length hi-HT.cn xs.length 0 lo)
theorem aM.cut{F:Hp} {vs:List V} {xs:List D} (r:aM F vs xs) (lo hi:Option Int):aM F (nJ vs lo hi) (cut xs lo hi):=by
  unfold nJ Vc.cut;rw [r.length];exact(r.drop _).take _
noncomputable def tN:fq:=λσ Q=>Q [] σ
noncomputable def aJ(t:TD) (u:fq):fq:=λσ Q=>t σ λx av=>u av λxs bh=>Q (x :: xs) bh
theorem aB:rH G k S [] tN:=.mk λX Y ok=>mF cG λσ H Q q=>by
  obtain⟨F,ao,Qd,R,q,K⟩:=q;exact K [] H F [] ao (ax.refl _) R .nil q
theorem ag{e:Expr} {es:List Expr} {t:TD} {u:fq} (h:ED G k S e t) (hs:rH G k S es u) (he:∀env,starEach (e :: es) env = (false,eval e env) :: starEach es env:=by exactλ_=>Vc.dv rfl):rH G k S (e :: es) (aJ t u):=.mk λX Y ok =>
  mF (bA (h X Y ok) (hs X Y ok) (he _)) λσ H Q q=>by
    obtain⟨F,ao,Qd,R,q,K⟩:=q;refine⟨F,ao,_,R,q,λv1 H1 F1 x av s1 R1 r1 q1=>?_⟩;exact⟨F1,av,_,R1,q1,λvs H2 F2 xs bh s2 R2 r2 q2=>K _ H2 F2 (x :: xs) bh (s1.trans s2) R2 (.cons (r1.mono s2) r2) q2⟩
noncomputable def fc(t:fq):TX:=λσ Q=>t σ λxs av=>xs.length <= sizeLine /\ Q (.own xs) av
noncomputable def Pb(t:fq):TV:=λσ Q=>t σ λxs av=>xs.length <= sizeLine /\ Q (.val (.tup xs)) av
theorem bD{es:List Expr} {t:fq} {pos:Pos} (h:rH G k S es t):EX G k S (.List es pos) (fc t):=.mk λX Y ok=>aY (Fc (h X Y ok)) λσ H Q q=>by
  obtain⟨F,ao,Qd,R,q,K⟩:=q;refine⟨F,ao,_,R,q,λvs H1 F1 xs av s1 R1 r1 q1=>⟨by rw [r1.length];exact q1.1,?_⟩⟩
  have g:Goes Y F1 av σ (λr=>Qd r av) Q:=λv H' F' r s R' rr qq=>K v H' F' r av (s1.trans s) R' rr qq;exact g.own R1 r1 q1.2
theorem La{es:List Expr} {t:fq} {x1} {pos:Pos} (h:rH G k S es t):EO G k S (.Tuple es x1 pos) (Pb t):=.mk λX Y ok=>aY (vV (h X Y ok)) λσ H Q q=>by
  obtain⟨F,ao,Qd,R,q,K⟩:=q;refine⟨F,ao,_,R,q,λvs H1 F1 xs av s1 R1 r1 q1=>⟨by rw [r1.length];exact q1.1,λp hp=>?_⟩⟩
  have sm:=aP (o:=.tup vs) (same_none R1.fr hp);exact K _ _ _ (.val (.tup xs)) av (s1.trans sm) (R1.alloc hp) (.tup aW (r1.mono sm)) q1.2
noncomputable abbrev pe:=Sd -> (List OV -> Sd -> Prop) -> Prop
inductive nA (F:Hp) (σ:St):List V -> List OV -> Prop where
  | nil:nA F σ [] []
  | cons {v:V} {x:OV} {vs:List V} {xs:List OV}:rL F σ v x -> nA F σ vs xs -> nA F σ (v :: vs) (x :: xs)
noncomputable def OA(Y:bM) (t:pe):TA:=λσ H Q=>∃F ao Qd,RS Y F ao σ H /\ t ao Qd /\ ∀vs H' F' xs aQ,ax F F' -> RS Y F' aQ σ H' -> nA F' σ vs xs -> Qd xs aQ -> Q vs H'
structure xr(G:GE) (k:Nat) (S:Stat) (es:List Expr) (t:pe) :Prop where
  run:∀X Y,cX X G k S Y -> PA X es (OA Y t)
instance {G:GE} {k:Nat} {S:Stat} {es:List Expr} {t:pe} :CoeFun (xr G k S es t) λ_=>∀X Y,cX X G k S Y -> PA X es (OA Y t):=⟨xr.run⟩
noncomputable def dm:pe:=λσ Q=>Q [] σ
noncomputable def bH(t:TV) (u:pe):pe:=λσ Q=>t σ λx av=>u av λxs bh=>Q (x :: xs) bh
theorem bf:xr G k S [] dm:=.mk λX Y ok=>mF cG λσ H Q q=>by
  obtain⟨F,ao,Qd,R,q,K⟩:=q;exact K [] H F [] ao (ax.refl _) R .nil q
theorem aK{e:Expr} {es:List Expr} {t:TV} {u:pe} (h:EO G k S e t) (hs:xr G k S es u) (he:∀env,starEach (e :: es) env = (false,eval e env) :: starEach es env:=by exactλ_=>Vc.dv rfl):xr G k S (e :: es) (bH t u):=.mk λX Y ok =>
  mF (bA (h X Y ok) (hs X Y ok) (he _)) λσ H Q q=>by
    obtain⟨F,ao,Qd,R,q,K⟩:=q;refine⟨F,ao,_,R,q,λv1 H1 F1 x av s1 R1 r1 q1=>?_⟩;exact⟨F1,av,_,R1,q1,λvs H2 F2 xs bh s2 R2 r2 q2=>K _ H2 F2 (x :: xs) bh (s1.trans s2) R2 (.cons (r1.mono s2) r2) q2⟩
noncomputable def ig(σ:Sd):List OV -> Option (List D)
  | []=>some []
  | x :: xs=>match cw σ x,ig σ xs with
    | some d,some ds=>some (d :: ds)
    | _,_=>none
inductive gh (F H:Hp):List V -> List D -> Prop where
  | nil:gh F H [] []
  | cons {v:V} {x:D} {vs:List V} {xs:List D}:bP F H v x -> gh F H vs xs -> gh F H (v :: vs) (x :: xs)
theorem RS.ig{Y:bM} {F:Hp} {ao:Sd} {σ:St} {H:Hp} (R:RS Y F ao σ H):∀ {vs:List V} {xs:List OV} {ds:List D},nA F σ vs xs -> Vc.ig ao xs = some ds -> gh F H vs ds
  | _,_,_,.nil,e=>by cases e;exact .nil
  | _,_,_,.cons (x:=x) (xs:=xs) r t,e=>by
    have e:(match Vc.cw ao x,Vc.ig ao xs with | some d,some ds=>some (d :: ds) | _,_=>none) = some _:=e
    split at e
    · rename_i d ds e1 e2
      cases e;exact .cons (R.cw r e1) (RS.ig R t e2)
    · cases e
theorem gh.one{F H:Hp} {vs:List V} {d:D} (r:gh F H vs [d]):∃v,vs = [v] /\ bP F H v d:=by
  cases r with
  | cons r t=>cases t;exact⟨_,rfl,r⟩
theorem gh.two{F H:Hp} {vs:List V} {d e:D} (r:gh F H vs [d,e]):∃v u,vs = [v,u] /\ bP F H v d /\ bP F H u e:=by
  cases r with
  | cons r t =>
    obtain⟨u,rfl,q⟩:=t.one;exact⟨_,u,rfl,r,q⟩
noncomputable def kv(r:List V -> Hp -> VK -> Prop) (f:List D -> (EV -> Prop) -> Prop):Prop:=
  ∀Y F H ao σ vs ds (Qd:EV -> Prop) (Q:VK),RS Y F ao σ H -> gh F H vs ds -> f ds Qd -> Goes Y F ao σ Qd Q -> r vs H Q
noncomputable def dC(f:List D -> (EV -> Prop) -> Prop) (t:pe):TX:=λσ Q=>t σ λxs av=>match ig av xs with
  | some ds=>f ds λr=>Q r av
  | none=>False
theorem lj{Y:bM} {r:List V -> Hp -> VK -> Prop} {f:List D -> (EV -> Prop) -> Prop} (hs:kv r f) {t:pe} {σ:St} {H:Hp} {Q:VK} (q:lX Y (dC f t) σ H Q):O3 r (OA Y t) σ H Q:=by
  obtain⟨F,ao,Qd,R,q,K⟩:=q;refine⟨F,ao,_,R,q,λvs H1 F1 xs av s1 R1 r1 q1=>?_⟩
  split at q1
  · rename_i ds e
    exact hs Y F1 H1 av σ vs ds _ Q R1 (R1.ig r1 e) q1 λv H' F' r s R' rr qq=>K v H' F' r av (s1.trans s) R' rr qq
  · exact q1.elim
noncomputable def xD(G:GE) (k:Nat) (S:Stat) (f:Value) (g:List D -> (EV -> Prop) -> Prop):Prop:=∃r:PySem.W.Frag -> List V -> Hp -> VK -> Prop,(∀X Y,cX X G k S Y -> cb X f (r X.K)) /\ kv (r KF.K) g
section
variable {x:Str} {p pos:Pos} {e:Expr} {es:List Expr} {t:pe} {id T:String} {g:List D -> (EV -> Prop) -> Prop}
theorem df(h:xD G k S (.builtin id) g) (hm:G.mg x = none) (ha:xr G k S (e :: es) t) (hv:bootBuiltins x = some (.builtin id)) (hg:S.sc.lookup x = some .globalImplicit:=by rfl) (hn:x ≠ "__name__":=by decide) (me:(x == ("__debug__":Str)) = false:=by decide)
    (he:∀env,starEach (e :: es) env = (false,eval e env) :: starEach es env:=by exactλ_=>Vc.dv rfl) (i3:∀env,(backTo pos (starEach es env)).any (·.1) = false:=by intro _;rfl):EX G k S (.Call (.Name x p) (e :: es) [] pos) (dC g t):=.mk λX Y ok=>by
  obtain⟨r,hc,hs⟩:=h;exact aY (de (hc X Y ok) (cc ok hg) (by rw [ok.mg];exact hm) hv (ha X Y ok) hn me (he _) (i3 _)) λσ H Q q=>lj (by rw [ok.kf];exact hs) q
theorem gI(h:xD G k S (.type T) g) (hm:G.mg x = none) (ha:xr G k S (e :: es) t) (hv:bootBuiltins x = some (.type T)) (hg:S.sc.lookup x = some .globalImplicit:=by rfl) (hn:x ≠ "__name__":=by decide) (me:(x == ("__debug__":Str)) = false:=by decide)
    (he:∀env,starEach (e :: es) env = (false,eval e env) :: starEach es env:=by exactλ_=>Vc.dv rfl) (i3:∀env,(backTo pos (starEach es env)).any (·.1) = false:=by intro _;rfl):EX G k S (.Call (.Name x p) (e :: es) [] pos) (dC g t):=.mk λX Y ok=>by
  obtain⟨r,hc,hs⟩:=h;exact aY (kY (hc X Y ok) (cc ok hg) (by rw [ok.mg];exact hm) hv (ha X Y ok) hn me (he _) (i3 _)) λσ H Q q=>lj (by rw [ok.kf];exact hs) q
end
noncomputable def dJ:List D -> (EV -> Prop) -> Prop
  | [.lst xs],Q=>Q (.val (.int xs.length))
  | [.tup xs],Q=>Q (.val (.int xs.length))
  | [.fP ns],Q=>Q (.val (.int ns.length))
  | [.str z],Q=>z.length <= sizeLine /\ Q (.val (.int z.length))
  | _,_=>False
theorem f_len:xD G k S (.builtin "len") dJ:=⟨λK xs H Q=>(∃p ys,xs = [V.ref p] /\ (eO K H p ys \/ iW K H p ys) /\ Q (V.int ys.length) H) \/ ∃z,xs = [V.str z] /\ z.length <= sizeLine /\ Q (V.int z.length) H,λ_ _ _=>lH.or lJ,λY F H ao σ vs ds Qd Q R r q g=>by
  unfold dJ at q
  split at q
  · obtain⟨v,rfl,rv⟩:=r.one
    obtain⟨p,us,rfl,h1,h2⟩:=rv.lst;exact .inl ⟨p,us,rfl,.inl (.inl h1),by rw [h2.length];exact g.val R (.int _) q⟩
  · obtain⟨v,rfl,rv⟩:=r.one
    obtain⟨p,us,rfl,h1,h2⟩:=rv.tup R.fr;exact .inl ⟨p,us,rfl,.inr (.of h1),by rw [h2.length];exact g.val R (.int _) q⟩
  · obtain⟨v,rfl,rv⟩:=r.one
    obtain⟨p,rfl,h1⟩:=rv.fP R.fr;exact .inl ⟨p,_,rfl,.inl h1,by rw [List.length_map];exact g.val R (.int _) q⟩
  · obtain⟨v,rfl,rv⟩:=r.one
    obtain rfl:=rv.str;exact .inr ⟨_,rfl,q.1,g.val R (.int _) q.2⟩
  · exact q.elim⟩
noncomputable def qK:List D -> (EV -> Prop) -> Prop
  | [.int i,.int j],Q=>Q (.val (.int (if j>i then j else i)))
  | _,_=>False
noncomputable def oE:List D -> (EV -> Prop) -> Prop
  | [.int i,.int j],Q=>Q (.val (.int (if j<i then j else i)))
  | _,_=>False
theorem Cz(hh:S.kl = false:=by rfl):xD G k S (.builtin "max") qK:=⟨λ_=>_,λ_ _ ok=>rV (ok.calm hh),λY F H ao σ vs ds Qd Q R r q g=>by
  unfold qK at q
  split at q
  · obtain⟨v,u,rfl,rv,ru⟩:=r.two
    obtain rfl:=rv.int;obtain rfl:=ru.int;exact⟨_,_,rfl,g.val R (.int _) q⟩
  · exact q.elim⟩
theorem uJ(hh:S.kl = false:=by rfl):xD G k S (.builtin "min") oE:=⟨λ_=>_,λ_ _ ok=>rW (ok.calm hh),λY F H ao σ vs ds Qd Q R r q g=>by
  unfold oE at q
  split at q
  · obtain⟨v,u,rfl,rv,ru⟩:=r.two
    obtain rfl:=rv.int;obtain rfl:=ru.int;exact⟨_,_,rfl,g.val R (.int _) q⟩
  · exact q.elim⟩
noncomputable def Dw:List D -> (EV -> Prop) -> Prop
  | [.int i],Q=>Q (.val (.int i))
  | [.bl b],Q=>Q (.val (.int (if b then 1 else 0)))
  | _,_=>False
noncomputable def iG:List D -> (EV -> Prop) -> Prop
  | [.lst xs],Q=>Q (.val (.tup xs))
  | [.tup xs],Q=>Q (.val (.tup xs))
  | _,_=>False
theorem lW:xD G k S (.type "tuple") iG:=⟨λK xs H Q=>∃p ys,xs = [V.ref p] /\ ((eO K H p ys /\ ∀l,H l = none -> Q (.ref l) (upd H l (.tup ys))) \/ (iW K H p ys /\ Q (.ref p) H)),λ_ _ ok=>kh,λY F H ao σ vs ds Qd Q R r q g=>by
  unfold iG at q
  split at q
  · obtain⟨v,rfl,rv⟩:=r.one
    obtain⟨p,us,rfl,h1,h2⟩:=rv.lst;exact⟨p,us,rfl,.inl ⟨.inl h1,g.tup R h2 q⟩⟩
  · obtain⟨v,rfl,rv⟩:=r.one
    have SF:=rv;obtain⟨p,us,rfl,h1,h2⟩:=rv.tup R.fr;exact⟨p,us,rfl,.inr ⟨.of h1,g.val R SF q⟩⟩
  · exact q.elim⟩
end Vc
set_option Elab.async false
set_option linter.all false
set_option maxRecDepth 100000
namespace Vc
open PySem L2
variable [KF]
variable {G:GE} {k:Nat} {S:Stat}
structure jq where
  nx:Sd -> Prop
  rt:B -> Sd -> Prop
  bk:Sd -> Prop:=λ_=>False
  ct:Sd -> Prop:=λ_=>False
noncomputable abbrev cJ:=jq -> Sd -> Prop
noncomputable def M3(Y:bM) (F H:Hp) (ao:Sd) (σ:St) (v:V):B -> Prop
  | .sh d=>Rep F v d
  | .own xs=>∃a vs,v = .ref a /\ H a = some (.lst vs) /\ aM F vs xs /\ F a = none /\ Y.H0 a = none /\ eo ao σ a
  | .obj o=>∃a,v = .ref a /\ o.rep F H a /\ ∀b ∈ o.fp a,F b = none /\ H b ≠ none /\ Y.H0 b = none /\ eo ao σ b
structure ny(Y:bM) (F:Hp) (De:jq) (Dn:Ends):Prop where
  nx:∀σ H F' ao,ax F F' -> RS Y F' ao σ H -> De.nx ao -> Dn.nx σ H
  rt:∀v σ H F' ao b,ax F F' -> RS Y F' ao σ H -> M3 Y F' H ao σ v b -> De.rt b ao -> Dn.rt v H
  bk:∀σ H F' ao,ax F F' -> RS Y F' ao σ H -> De.bk ao -> Dn.bk σ H
  ct:∀σ H F' ao,ax F F' -> RS Y F' ao σ H -> De.ct ao -> Dn.ct σ H
theorem ny.mono{Y:bM} {F F':Hp} {De:jq} {Dn:Ends} (h:ny Y F De Dn) (s:ax F F'):ny Y F' De Dn:=
  ⟨λσ H F2 ao s2=>h.nx σ H F2 ao (s.trans s2),λv σ H F2 ao b s2=>h.rt v σ H F2 ao b (s.trans s2),λσ H F2 ao s2=>h.bk σ H F2 ao (s.trans s2),λσ H F2 ao s2=>h.ct σ H F2 ao (s.trans s2)⟩
noncomputable def lS(Y:bM) (t:cJ):TS:=λDn σ H=>∃F ao De,RS Y F ao σ H /\ t De ao /\ ny Y F De Dn
structure ES(G:GE) (k:Nat) (S:Stat) (st:Stmt) (t:cJ) :Prop where
  run:∀X Y,cX X G k S Y -> PS X st (lS Y t)
instance {G:GE} {k:Nat} {S:Stat} {st:Stmt} {t:cJ} :CoeFun (ES G k S st t) λ_=>∀X Y,cX X G k S Y -> PS X st (lS Y t):=⟨ES.run⟩
structure dZ(G:GE) (k:Nat) (S:Stat) (st:List Stmt) (t:cJ) :Prop where
  run:∀X Y,cX X G k S Y -> nu X st (lS Y t)
instance {G:GE} {k:Nat} {S:Stat} {st:List Stmt} {t:cJ} :CoeFun (dZ G k S st t) λ_=>∀X Y,cX X G k S Y -> nu X st (lS Y t):=⟨dZ.run⟩
section
variable {st:Stmt} {rest:List Stmt} {t u:cJ} {pos:Pos}
noncomputable def iU:cJ:=λDe σ=>De.nx σ
noncomputable def bS(t u:cJ):cJ:=λDe σ=>t {De with nx:=u De} σ
theorem b8:dZ G k S [] iU:=.mk λX Y ok=>qU zg λDn σ H q=>by
  obtain⟨F,ao,De,R,q,K⟩:=q;exact K.nx σ H F ao (ax.refl _) R q
theorem aw(h1:ES G k S st t) (h2:dZ G k S rest u):dZ G k S (st :: rest) (bS t u):=.mk λX Y ok=>qU (we (h1 X Y ok) (h2 X Y ok)) λDn σ H q=>by
  obtain⟨F,ao,De,R,q,K⟩:=q;refine⟨F,ao,_,R,q,⟨λbO H' F' aQ s R' q'=>?_,K.rt,K.bk,K.ct⟩⟩;exact⟨F',aQ,De,R',q',K.mono s⟩
theorem aL(h1:ES G k S st t):dZ G k S [st] t:=.mk λX Y ok=>zh (h1 X Y ok)
noncomputable def cB(c:TB) (t u:cJ):cJ:=λDe σ=>c σ λb av=>if b = true then t De av else u De av
theorem cK{c:Expr} {a b:List Stmt} {tc:TB} (hc:EB G k S c tc) (ha:dZ G k S a t) (hb:dZ G k S b u):ES G k S (.If c a b pos) (cB tc t u):=.mk λX Y ok=>eY (K0 (hc X Y ok) (ha X Y ok) (hb X Y ok)) λDn σ H q=>by
  obtain⟨F,ao,De,R,q,K⟩:=q;refine⟨F,ao,_,R,q,λb H1 F1 av s1 R1 q1=>?_⟩;cases b with
  | true=>exact⟨F1,av,De,R1,q1,K.mono s1⟩
  | false=>exact⟨F1,av,De,R1,q1,K.mono s1⟩
noncomputable def tm(t:TX):cJ:=λDe σ=>t σ λ_ av=>De.nx av
theorem dB{e:Expr} {te:TX} (he:EX G k S e te) (hs:∀line env,swapsWith e none line env = pure false:=by intro _ _;rfl):ES G k S (.Expr e pos) (tm te):=.mk λX Y ok=>eY (zb (he X Y ok) (hs _ _)) λDn σ H q=>by
  obtain⟨F,ao,De,R,q,K⟩:=q;exact⟨F,ao,_,R,q,λv H1 F1 x av s1 R1 r1 q1=>K.nx σ H1 F1 av s1 R1 q1⟩
noncomputable def dS(ios:List Nat) (t:TX):cJ:=λDe σ=>t σ λx av=>match x with
  | .val d=>De.rt (.sh d) av
  | .own xs=>De.rt (.own xs) av
  | .obj o=>De.rt (.obj o) av
  | .any=>False
  | .var i=>match av[i]? with
    | some (some (.own xs))=>i ∉ ios /\ De.rt (.own xs) (av.set i none)
    | some (some (.sh d))=>De.rt (.sh d) av
    | some (some (.obj o))=>ios = [] /\ De.rt (.obj o) (av.set i none)
    | _=>False
theorem RS.forget{Y:bM} {F:Hp} {ao:Sd} {σ:St} {H:Hp} {i:Nat} {b:B} (R:RS Y F ao σ H) (e:ao[i]? = some (some b)) (cM:∀p ∈ Y.io,p.1 ≠ i):RS Y F (ao.set i none) σ H where
  len:=by simpa using R.len
  lo:=R.lo
  fr:=R.fr
  eF:=R.eF
  old:=R.old
  sh:=λj d q=>by
    by_cases hj:j = i
    · subst hj;rw [aX e]at q;cases q
    · rw [a9 hj]at q;exact R.sh j d q
  own:=λj xs q=>by
    by_cases hj:j = i
    · subst hj;rw [aX e]at q;cases q
    · rw [a9 hj]at q;exact R.own j xs q
  dis:=λj l xs ys a q1 q2 q3 q4=>by
    have hj:j ≠ i:=λz=>by subst z;rw [aX e]at q1;cases q1
    have hl:l ≠ i:=λz=>by subst z;rw [aX e]at q2;cases q2
    rw [a9 hj]at q1;rw [a9 hl]at q2;exact R.dis j l xs ys a q1 q2 q3 q4
  io:=λp hp=>by
    obtain⟨w1,ys,w2⟩:=R.io p hp;exact⟨w1,ys,by rw [a9 (cM p hp)];exact w2⟩
  ob:=R.ob.put (λ_ _=>rfl) (λ_ z=>nomatch z) λ_ _ z=>nomatch z
theorem RS.OD{Y:bM} {F:Hp} {ao:Sd} {σ:St} {H:Hp} {i:Nat} {xs:List D} (R:RS Y F ao σ H) (h:ao[i]? = some (some (.own xs))) (cM:∀p ∈ Y.io,p.1 ≠ i) {a:Addr} (q1:σ[i]? = some (some (.ref a))):Y.H0 a = none /\ a ∉ Y.MA:=by
  obtain⟨b,vs,w1,w2,w3,w4,w5⟩:=R.own i xs h;rw [q1]at w1;cases w1;have nin:a ∉ Y.MA:=λq5=>by
    obtain⟨p,hp,e⟩:=List.mem_map.mp q5;obtain⟨z1,ys,z2⟩:=R.io p hp;exact absurd (R.dis p.1 i ys xs a z2 h (by rw [z1,e]) q1) (cM p hp)
  rcases w5 with w5 | w5
  · exact⟨w5,nin⟩
  · exact absurd w5 nin
theorem bj{e:Expr} {te:TX} (he:EX G k S e te) (NM:S.nD = false:=by rfl):ES G k S (.Return (some e) pos) (dS S.ios te):=.mk λX Y ok=>eY (FI (he X Y ok)) λDn σ H q=>by
  obtain⟨F,ao,De,R,q,K⟩:=q;refine⟨F,ao,_,R,q,λv H1 F1 x av s1 R1 r1 q1=>?_⟩;cases x with
  | val d=>exact K.rt v σ H1 F1 av (.sh d) s1 R1 r1 q1
  | own xs=>exact K.rt v σ H1 F1 av (.own xs) s1 R1 r1 q1
  | obj o=>exact K.rt v σ H1 F1 av (.obj o) s1 R1 r1 q1
  | any=>exact False.elim q1
  | var i =>
    have r1:σ[i]? = some (some v):=r1;dsimp only at q1
    split at q1
    · rename_i xs e
      obtain⟨a,vs,w1,w2,w3,w4,w5⟩:=R1.own i xs e;rw [r1]at w1;cases w1;have cM:∀p ∈ Y.io,p.1 ≠ i:=λp hp z=>q1.1 (z ▸ ok.ios p hp);refine K.rt _ σ H1 F1 _ (.own xs) s1 (R1.forget e cM) ⟨a,vs,rfl,w2,w3,w4,(R1.OD e cM r1).1,⟨λj ys e2 z=>?_,λ⟨j,o,c,e2,e3,hm⟩=>?_⟩⟩ q1.2
      · by_cases hj:j = i
        · subst hj;rw [aX e]at e2;cases e2
        · rw [a9 hj]at e2
          exact hj (R1.dis j i ys xs a e2 e z r1)
      · have hj:j ≠ i:=λz=>by subst z;rw [aX e]at e2;cases e2
        rw [a9 hj]at e2;exact R1.ob.kc i xs a e r1 ⟨j,o,c,e2,e3,hm⟩
    · rename_i d e
      obtain⟨v2,e2,r2⟩:=R1.sh i d e;rw [r1]at e2;cases e2;exact K.rt v σ H1 F1 av (.sh d) s1 R1 r2 q1
    · rename_i o e
      obtain⟨a,w1,w2,w3⟩:=R1.ob.obj i o e;rw [r1]at w1;cases w1;have N8:=ok.obs NM q1.1;have cM:∀p ∈ Y.io,p.1 ≠ i:=λp hp z=>by
        have:=ok.ios p hp;rw [q1.1]at this;cases this
      refine K.rt _ σ H1 F1 _ (.obj o) s1 (R1.forget e cM) ⟨a,rfl,w2,λb hb=>⟨(w3 b hb).1,(w3 b hb).2.1,?_,⟨λj ys e2 z=>?_,λ⟨j,o2,c,e2,e3,hm⟩=>?_⟩⟩⟩ q1.2
      · rcases(w3 b hb).2.2 with z | z
        · exact z
        · rw [N8]at z;cases z
      · have hj:j ≠ i:=λz=>by subst z;rw [aX e]at e2;cases e2
        rw [a9 hj]at e2;exact R1.ob.kc j ys b e2 z ⟨i,o,a,e,r1,hb⟩
      · have hj:j ≠ i:=λz=>by subst z;rw [aX e]at e2;cases e2
        rw [a9 hj]at e2;exact R1.ob.xU j i o2 o c a e2 e e3 r1 hj b hm hb
    · exact q1.elim
end
theorem gs{α:Type} {l:List α} {i j:Nat} {x y:α} (h:(l.set i x)[j]? = some y):(j = i /\ y = x) \/ (j ≠ i /\ l[j]? = some y):=by
  by_cases hj:j = i
  · subst hj
    by_cases hl:j<l.length
    · rw [List.getElem?_set_self hl]at h;exact .inl ⟨rfl,(Option.some.inj h).symm⟩
    · have:(l.set j x)[j]? = none:=by rw [List.getElem?_eq_none_iff];simp;omega
      rw [this]at h;cases h
  · rw [List.getElem?_set_ne (Ne.symm hj)]at h;exact .inr ⟨hj,h⟩
theorem bw{α:Type} {l:List α} {i j:Nat} {x:α} (h:j ≠ i):(l.set i x)[j]? = l[j]?:=List.getElem?_set_ne (Ne.symm h)
theorem qt{α:Type} {l:List α} {i:Nat} {x:α} (h:i<l.length):(l.set i x)[i]? = some x:=List.getElem?_set_self h
theorem uZ{α:Type} {l:List α} {i j:Nat} {x y:α} (h:(l.set i x)[j]? = some y):j<l.length:=by
  have:=(List.getElem?_eq_some_iff.mp h).1;simpa using this
theorem RS.oM{Y:bM} {F:Hp} {ao:Sd} {σ:St} {H:Hp} {i:Nat} {d:D} {v:V} (R:RS Y F ao σ H) (r:Rep F v d) (cM:∀p ∈ Y.io,p.1 ≠ i):RS Y F (ao.set i (some (.sh d))) (σ.set i (some v)) H where
  len:=by simpa using R.len
  lo:=R.lo
  fr:=R.fr
  eF:=R.eF
  old:=R.old
  sh:=λj e q=>by
    rcases gs q with⟨rfl,z⟩ | ⟨hj,q'⟩
    · cases z
      exact⟨v,qt (by rw [<- R.len];exact uZ q),r⟩
    · obtain⟨u,w1,w2⟩:=R.sh j e q'
      exact⟨u,by rw [bw hj];exact w1,w2⟩
  own:=λj xs q=>by
    rcases gs q with⟨_,z⟩ | ⟨hj,q'⟩
    · cases z
    · obtain⟨a,vs,w1,w2⟩:=R.own j xs q'
      exact⟨a,vs,by rw [bw hj];exact w1,w2⟩
  dis:=λj l xs ys a q1 q2 q3 q4=>by
    rcases gs q1 with⟨_,z⟩ | ⟨hj,q1⟩
    · cases z
    rcases gs q2 with⟨_,z⟩ | ⟨hl,q2⟩
    · cases z
    rw [bw hj]at q3;rw [bw hl]at q4;exact R.dis j l xs ys a q1 q2 q3 q4
  io:=λp hp=>by
    obtain⟨w1,ys,w2⟩:=R.io p hp;exact⟨by rw [bw (cM p hp)];exact w1,ys,by rw [bw (cM p hp)];exact w2⟩
  ob:=R.ob.put (λ_ hj=>bw hj) (λ_ z=>nomatch z) λ_ _ z=>nomatch z
theorem RS.Gg{Y:bM} {F:Hp} {ao:Sd} {σ:St} {H:Hp} {i:Nat} {xs:List D} {a:Addr} {vs:List V} (R:RS Y F ao σ H) (h1:H a = some (.lst vs)) (h2:aM F vs xs) (h3:F a = none) (h4:Y.H0 a = none) (h5:eo ao σ a)
    (cM:∀p ∈ Y.io,p.1 ≠ i):RS Y F (ao.set i (some (.own xs))) (σ.set i (some (.ref a))) H where
  len:=by simpa using R.len
  lo:=R.lo
  fr:=R.fr
  eF:=R.eF
  old:=R.old
  sh:=λj e q=>by
    rcases gs q with⟨_,z⟩ | ⟨hj,q'⟩
    · cases z
    · obtain⟨u,w1,w2⟩:=R.sh j e q'
      exact⟨u,by rw [bw hj];exact w1,w2⟩
  own:=λj ys q=>by
    rcases gs q with⟨rfl,z⟩ | ⟨hj,q'⟩
    · cases z
      exact⟨a,vs,qt (by rw [<- R.len];exact uZ q),h1,h2,h3,.inl h4⟩
    · obtain⟨b,us,w1,w2⟩:=R.own j ys q'
      exact⟨b,us,by rw [bw hj];exact w1,w2⟩
  dis:=λj l ys zs b q1 q2 q3 q4=>by
    rcases gs q1 with⟨rfl,z⟩ | ⟨hj,q1⟩
    · rcases gs q2 with⟨e,z⟩ | ⟨hl,q2⟩
      · exact e.symm
      · rw [bw hl]at q4
        rcases gs q3 with⟨_,z3⟩ | ⟨hc,_⟩
        · cases z3
          exact absurd q4 (h5 l zs q2)
        · exact absurd rfl hc
    · rw [bw hj]at q3
      rcases gs q2 with⟨e2,z⟩ | ⟨hl,q2⟩
      · rcases gs q4 with⟨_,z4⟩ | ⟨hc,_⟩
        · cases z4
          exact absurd q3 (h5 j ys (by assumption))
        · exact absurd e2 hc
      · rw [bw hl]at q4
        exact R.dis j l ys zs b (by assumption) q2 q3 q4
  io:=λp hp=>by
    obtain⟨w1,ys,w2⟩:=R.io p hp;exact⟨by rw [bw (cM p hp)];exact w1,ys,by rw [bw (cM p hp)];exact w2⟩
  ob:=R.ob.put (λ_ hj=>bw hj) (λ_ z=>nomatch z) λys b _ z=>by
    rcases gs z with⟨_,z2⟩ | ⟨hc,_⟩
    · cases z2;exact h5.J0
    · exact absurd rfl hc
theorem RS.Gf{Y:bM} {F:Hp} {ao:Sd} {σ:St} {H:Hp} {i:Nat} {o:O} {a:Addr} (R:RS Y F ao σ H) (h1:o.rep F H a) (h2:∀b ∈ o.fp a,F b = none /\ H b ≠ none /\ Y.H0 b = none /\ eo ao σ b)
    (cM:∀p ∈ Y.io,p.1 ≠ i):RS Y F (ao.set i (some (.obj o))) (σ.set i (some (.ref a))) H where
  len:=by simpa using R.len
  lo:=R.lo
  fr:=R.fr
  eF:=R.eF
  old:=R.old
  sh:=λj e q=>by
    rcases gs q with⟨_,z⟩ | ⟨hj,q'⟩
    · cases z
    · obtain⟨u,w1,w2⟩:=R.sh j e q'
      exact⟨u,by rw [bw hj];exact w1,w2⟩
  own:=λj ys q=>by
    rcases gs q with⟨_,z⟩ | ⟨hj,q'⟩
    · cases z
    · obtain⟨b,us,w1,w2⟩:=R.own j ys q'
      exact⟨b,us,by rw [bw hj];exact w1,w2⟩
  dis:=λj l ys zs b q1 q2 q3 q4=>by
    rcases gs q1 with⟨_,z⟩ | ⟨hj,q1⟩
    · cases z
    rcases gs q2 with⟨_,z⟩ | ⟨hl,q2⟩
    · cases z
    rw [bw hj]at q3;rw [bw hl]at q4;exact R.dis j l ys zs b q1 q2 q3 q4
  io:=λp hp=>by
    obtain⟨w1,ys,w2⟩:=R.io p hp;exact⟨by rw [bw (cM p hp)];exact w1,ys,by rw [bw (cM p hp)];exact w2⟩
  ob:=by
    have at':∀ {j:Nat} {c:Addr},j = i -> (σ.set i (some (.ref a)))[j]? = some (some (.ref c)) -> c = a:=λ{j c} e z=>by
      subst e;rcases gs z with⟨_,z2⟩ | ⟨hc,_⟩
      · cases z2;rfl
      · exact absurd rfl hc
    refine⟨λj p q=>?_,λj l p p2 c d q1 q2 q3 q4 dk x hx Dp=>?_,λj ys b q1 q2 ⟨l,p,c,q3,q4,hm⟩=>?_,R.ob.there,R.ob.xB,R.ob.tab⟩
    · rcases gs q with⟨rfl,z⟩ | ⟨hj,q'⟩
      · cases z
        exact⟨a,qt (by rw [<- R.len];exact uZ q),h1,λb hb=>⟨(h2 b hb).1,(h2 b hb).2.1,.inl (h2 b hb).2.2.1⟩⟩
      · obtain⟨c,w1,w2⟩:=R.ob.obj j p q'
        exact⟨c,by rw [bw hj];exact w1,w2⟩
    · rcases gs q1 with⟨e1,z⟩ | ⟨hj,K2⟩
      · cases z
        rcases gs q2 with⟨e2,z⟩ | ⟨hl,OO⟩
        · exact dk (e1.trans e2.symm)
        · rw [bw hl]at q4
          have:=at' e1 q3;subst this;exact(h2 x hx).2.2.2.J0 ⟨l,p2,d,OO,q4,Dp⟩
      · rw [bw hj]at q3
        rcases gs q2 with⟨e2,z⟩ | ⟨hl,OO⟩
        · cases z
          have:=at' e2 q4;subst this;exact(h2 x Dp).2.2.2.J0 ⟨j,p,c,K2,q3,hx⟩
        · rw [bw hl]at q4
          exact R.ob.xU j l p p2 c d K2 OO q3 q4 dk x hx Dp
    · rcases gs q1 with⟨_,z⟩ | ⟨hj,K2⟩
      · cases z
      rw [bw hj]at q2;rcases gs q3 with⟨e3,z⟩ | ⟨hl,Sx⟩
      · cases z
        have:=at' e3 q4;subst this;exact(h2 b hm).2.2.2 j ys K2 q2
      · rw [bw hl]at q4
        exact R.ob.kc j ys b K2 q2 ⟨l,p,c,Sx,q4,hm⟩
noncomputable def MN(ios:List Nat) (i:Nat) (x:EV) (σ:Sd) (Q:Sd -> Prop):Prop:=match x with
  | .val d=>Q (σ.set i (some (.sh d)))
  | .own xs=>Q (σ.set i (some (.own xs)))
  | .obj o=>Q (σ.set i (some (.obj o)))
  | .any=>False
  | .var j=>match σ[j]? with
    | some (some (.own xs))=>j ∉ ios /\ Q ((σ.set j (some (.sh (.lst xs)))).set i (some (.sh (.lst xs))))
    | some (some (.sh d))=>Q (σ.set i (some (.sh d)))
    | _=>False
theorem lb{Y:bM} {F:Hp} {ao:Sd} {σ:St} {H:Hp} {i:Nat} {v:V} {x:EV} {ios:List Nat} {Q:Sd -> Prop} (R:RS Y F ao σ H) (r:Bp Y F H ao σ v x) (hi:i ∉ ios) (cM:∀p ∈ Y.io,p.1 ∈ ios) (q:MN ios i x ao Q):
    ∃F' aQ,ax F F' /\ RS Y F' aQ (σ.set i (some v)) H /\ Q aQ:=by
  have h0:∀p ∈ Y.io,p.1 ≠ i:=λp hp z=>hi (z ▸ cM p hp);cases x with
  | val d=>exact⟨F,_,ax.refl _,R.oM r h0,q⟩
  | own xs =>
    obtain⟨a,vs,rfl,h1,h2,h3,h4,h5⟩:=r;exact⟨F,_,ax.refl _,R.Gg h1 h2 h3 h4 h5 h0,q⟩
  | obj o =>
    obtain⟨a,rfl,h1,h2⟩:=r;exact⟨F,_,ax.refl _,R.Gf h1 h2 h0,q⟩
  | any=>exact False.elim q
  | var j =>
    have r:σ[j]? = some (some v):=r;unfold MN at q;dsimp only at q
    split at q
    · rename_i xs e
      obtain⟨F2,v2,s2,R2,e2,r2⟩:=R.il e λp hp z=>q.1 (z ▸ cM p hp);rw [r]at e2;cases e2;exact⟨F2,_,s2,R2.oM r2 h0,q.2⟩
    · rename_i d e
      obtain⟨v2,e2,r2⟩:=R.sh j d e;rw [r]at e2;cases e2;exact⟨F,_,ax.refl _,R.oM r2 h0,q⟩
    · exact q.elim
noncomputable def cP(ios:List Nat) (i:Nat) (t:TX):cJ:=λDe σ=>t σ λx av=>MN ios i x av De.nx
theorem my{X:Cx} {Y:bM} (ok:cX X G k S Y) {x:Str} (h:S.sc.lookup x = some .local \/ (S.sc.lookup x = some .cell /\ S.nD = false)):L2.Loc X.env.scope x:=by
  unfold L2.Loc;rw [ok.sc];exact h.imp id (·.1)
theorem lZ{X:Cx} {Y:bM} (ok:cX X G k S Y) {x:Str} (h:S.sc.lookup x = some .local \/ (S.sc.lookup x = some .cell /\ S.nD = false)):X.fn x = true \/ X.env.scope.names.lookup x = some .local:=by
  rcases h with h | h
  · right;rw [ok.sc];exact h
  · left;exact ok.fn h.2 x h.1
theorem a7(i:Nat) {x:Str} {e:Expr} {te:TX} {pos pos':Pos} (he:EX G k S e te) (hi:S.N[i]? = some x:=by rfl) (hx:S.sc.lookup x = some .local \/ (S.sc.lookup x = some .cell /\ S.nD = false):=by first | exact Or.inl rfl | exact Or.inr ⟨rfl,rfl⟩) (hn:i ∉ S.ios:=by first | decide | exact List.not_mem_nil | (dsimp only;decide))
    (hs:∀line env,swapsWith e (some (.Name x pos')) line env = pure false:=by intro _ _;rfl):ES G k S (.Assign [.Name x pos'] e pos) (cP S.ios i te):=.mk λX Y ok =>
  eY (L2.wd (i:=i) (by rw [ok.N];exact ok.nd) (by rw [ok.N];exact hi) (my ok hx) (he X Y ok) (hs _ _) (lZ ok hx)) λDn σ H q=>by
    obtain⟨F,ao,De,R,q,K⟩:=q;refine⟨F,ao,_,R,q,λv H1 F1 y av s1 R1 r1 q1=>?_⟩;obtain⟨F2,bh,s2,R2,q2⟩:=lb R1 r1 hn ok.ios q1;exact K.nx _ H1 F2 bh (s1.trans s2) R2 q2
theorem RS.write{Y:bM} {F:Hp} {ao:Sd} {σ:St} {H:Hp} {i:Nat} {xs ys:List D} {a:Addr} {us:List V} (R:RS Y F ao σ H) (e:ao[i]? = some (some (.own xs))) (h:σ[i]? = some (some (.ref a))) (r:aM F us ys):
    RS Y F (ao.set i (some (.own ys))) σ (upd H a (.lst us)):=by
  obtain⟨b,vs,w1,w2,w3,w4,w5⟩:=R.own i xs e;rw [h]at w1;cases w1;have hl:i<ao.length:=(List.getElem?_eq_some_iff.mp e).1;have N8:nz Y F (ao.set i (some (.own ys))) σ (upd H a (.lst us)):=R.ob.step (ax.refl _) (λj o q=>by
    rcases gs q with⟨_,z⟩ | ⟨hj,q⟩
    · cases z
    · exact⟨q,rfl⟩) (λb hb=>by
    obtain⟨z1,z2,z3⟩:=R.ob.owned hb;have dk:b ≠ a:=λz=>R.ob.kc i xs a e h (z ▸ hb);exact⟨az dk,z1,z3⟩) (λj zs b q1 q2=>by
    rcases gs q1 with⟨e1,_⟩ | ⟨hj,q1⟩
    · subst e1
      rw [h]at q2;cases q2;exact R.ob.kc j xs a e h
    · exact R.ob.kc j zs b q1 q2) λb hb=>by
    by_cases dk:b = a
    · rw [dk,aW];exactλz=>nomatch z
    · rw [az dk];exact R.ob.there b hb
  refine⟨by simpa using R.len,R.lo,λb o q=>?_,R.eF,λb o q n=>?_,λj d q=>?_,λj zs q=>?_,λj l zs qs b q1 q2 q3 q4=>?_,λp hp=>?_,N8⟩
  · have:b ≠ a:=λz=>by rw [z,w4]at q;cases q
    rw [az this];exact R.fr b o q
  · have:b ≠ a:=λz=>by
      subst z;rcases w5 with w5 | w5
      · rw [w5]at q;cases q
      · exact bM.yq n w5
    rw [az this];exact R.old b o q n
  · rcases gs q with⟨_,z⟩ | ⟨hj,q⟩
    · cases z
    · exact R.sh j d q
  · rcases gs q with⟨rfl,z⟩ | ⟨hj,q⟩
    · cases z
      exact⟨a,us,h,aW,r,w4,w5⟩
    · obtain⟨b,ws,z1,z2,z3,z4,z5⟩:=R.own j zs q
      have:b ≠ a:=λz=>hj (R.dis j i zs xs a q e (z ▸ z1) h);exact⟨b,ws,z1,by rw [az this];exact z2,z3,z4,z5⟩
  · have f:∀ {m:Nat} {ms:List D},(ao.set i (some (B.own ys)))[m]? = some (some (B.own ms)) -> ∃Se,ao[m]? = some (some (B.own Se)):=λ{m ms} q=>by
      rcases gs q with⟨rfl,z⟩ | ⟨hj,q⟩
      · exact⟨xs,e⟩
      · exact⟨_,q⟩
    obtain⟨_,q1⟩:=f q1;obtain⟨_,q2⟩:=f q2;exact R.dis j l _ _ b q1 q2 q3 q4
  · obtain⟨z1,zs,z2⟩:=R.io p hp
    refine⟨z1,?_⟩
    by_cases Mt:p.1 = i
    · exact⟨ys,by rw [Mt,qt hl]⟩
    · exact⟨zs,by rw [bw Mt];exact z2⟩
noncomputable def kP(σ:Sd) (i:Nat):Prop:=∃xs,σ[i]? = some (some (B.own xs))
noncomputable def BH(i:Nat) (d:D) (σ:Sd) (Q:Sd -> Prop):Prop:=match σ[i]? with
  | some (some (.own xs))=>xs.length<sizeLine /\ Q (σ.set i (some (.own (xs ++ [d]))))
  | _=>False
noncomputable def sO(to:TV) (te:TD):TX:=λσ Q=>to σ λx av=>match x with
  | .var i=>kP av i /\ te av λd bh=>BH i d bh λdX=>Q (.val .bt) dX
  | _=>False
theorem gH{o e:Expr} {to:TV} {te:TD} {apos bR:Pos} (ho:EO G k S o to) (he:ED G k S e te) (hb:∀env,attributeBase o "append" env (eval o env) = eval o env:=by intro _;rfl)
    (ip:∀env,((backTo bR (starEach [e] env)).all (λx=>!x.1) && (backToKw bR (keywordEach [] env)).all (λx=>x.1.isSome) && decide (([e]:List Expr).length+([]:List Keyword).length+(if([]:List Keyword).isEmpty then 0 else 1)<30)) = true:=by intro _;rfl)
    (hline:(apos.endLine == bR.line) = true:=by rfl) (hs:∀env,starEach [e] env = [(false,eval e env)]:=by intro _;rfl):EX G k S (.Call (.Attribute o "append" apos) [e] [] bR) (sO to te):=.mk λX Y ok=>by
  have ha:PA X [e] (cv (lD Y te) hX):=bA (he X Y ok) cG (by rw [hs];rfl)
  refine aY (kX F.plainAttrs_list F.slot_list_append F.type_list_append kU (ho X Y ok) ha (hb _) (ip _) hline (by rw [hs];rfl) (by rfl)) λσ H Q q=>?_
  obtain⟨F,ao,Qd,R,q,K⟩:=q;refine⟨F,ao,_,R,q,λv1 H1 F1 x av s1 R1 r1 q1=>?_⟩;cases x with
  | val d=>exact q1.elim
  | any=>exact q1.elim
  | var i =>
    obtain⟨⟨ys,e0⟩,q1⟩:=q1;have r1:σ[i]? = some (some v1):=r1;obtain⟨a,vs,w1,w2,w3,w4,w5⟩:=R1.own i ys e0;rw [r1]at w1;cases w1;refine⟨.inl ⟨rfl,vs,.of w2⟩,F1,av,_,R1,q1,λv2 H2 F2 d bh s2 R2 r2 q2=>?_⟩;unfold BH at q2
    split at q2
    · rename_i xs e2
      obtain⟨b,us,z1,z2,z3,z4,z5⟩:=R2.own i xs e2;rw [r1]at z1;cases z1;exact⟨a,us,v2,rfl,rfl,z2,by rw [z3.length];exact q2.1,K .bt _ F2 (.val .bt) _ (s1.trans s2) (R2.write e2 r1 (z3.append (.cons r2 .nil))) .bt q2.2⟩
    · exact q2.elim
end Vc
set_option Elab.async false
set_option linter.all false
set_option maxRecDepth 100000
namespace Vc
open PySem L2
variable [KF]
variable {G:GE} {k:Nat} {S:Stat}
noncomputable abbrev b7:=List D -> (B -> Prop) -> Prop
noncomputable def HB(H F H':Hp) (v:V):B -> Prop
  | .sh d=>Rep F v d
  | .own xs=>∃a vs,v = .ref a /\ H' a = some (.lst vs) /\ aM F vs xs /\ F a = none /\ H a = none
  | .obj o=>∃a,v = .ref a /\ o.rep F H' a /\ ∀b ∈ o.fp a,F b = none /\ H' b ≠ none /\ H b = none
noncomputable def m5(sp:b7):Sp:=λvs H Q _=>∃F ds Qd,tR F H /\ aM F vs ds /\ sp ds Qd /\
  ∀v H' F' b,ax F F' -> ax F' H' -> ax H H' -> (∀c o,F' c = some o -> F c = some o \/ Nw H c o) -> HB H F' H' v b -> Qd b -> Q v H'
theorem RS.call{Y:bM} {F F':Hp} {ao:Sd} {σ:St} {H H':Hp} (R:RS Y F ao σ H) (s1:ax F F') (s2:ax F' H') (s3:ax H H') (fr:∀c o,F' c = some o -> F c = some o \/ Nw H c o):RS Y F' ao σ H' where
  len:=R.len
  lo:=R.lo.trans s1
  fr:=s2
  eF:=λb o e=>by
    rcases fr b o e with h | h
    · exact R.eF b o h
    · exact .inr (h.imp (λh=>(R.cA h).1) id)
  old:=λb o e n=>s3 b o (R.old b o e n)
  sh:=λi d e=>by
    obtain⟨v,h1,h2⟩:=R.sh i d e;exact⟨v,h1,h2.mono s1⟩
  own:=λi xs e=>by
    obtain⟨a,vs,h1,h2,h3,h4,h5⟩:=R.own i xs e;refine⟨a,vs,h1,s3 a _ h2,h3.mono s1,?_,h5⟩;cases q:F' a with
    | none=>rfl
    | some o =>
      rcases fr a o q with h | h
      · rw [h4]at h;cases h
      · rcases h with h | ⟨ws,rfl⟩
        · rw [h2]at h;cases h
        · have z:=s2 a _ q;rw [s3 a _ h2]at z;cases z
  dis:=R.dis
  io:=R.io
  ob:=by
    have up:∀b,H b ≠ none -> H' b = H b:=λb hb=>by
      cases q:H b with
      | none=>exact absurd q hb
      | some o=>exact s3 b o q
    refine R.ob.step s1 (λ_ _ e=>⟨e,rfl⟩) (λb hb=>?_) R.ob.kc λb hb=>by rw [up b (R.ob.there b hb)];exact R.ob.there b hb
    obtain⟨w1,w2,w3⟩:=R.ob.owned hb;refine⟨up b w2,?_,w3⟩;cases q:F' b with
    | none=>rfl
    | some o =>
      rcases fr b o q with h | h
      · rw [w1]at h;cases h
      · rcases h with h | ⟨ws,rfl⟩
        · exact absurd h w2
        · exact absurd (by rw [<- up b w2];exact s2 b _ q) (R.ob.J5 hb)
noncomputable def dn(G:GE) (k:Nat) (x:Str) (sp:b7):Prop:=∃f fd ps,dy G.P G.w G.K G.mg G.base qd k f fd ps (m5 sp) /\ G.mg x = some (.ref f) /\ PySem.W.keepIn G.K (.ref f) = true /\ Binds G.K fd ps []
theorem dn.mono{x:Str} {sp:b7} {j:Nat} (h:dn G j x sp) (l:j <= k):dn G k x sp:=by
  obtain⟨f,fd,ps,h1,h2,h3,h4⟩:=h;exact⟨f,fd,ps,h1.mono l,h2,h3,h4⟩
noncomputable def bE:B -> EV
  | .sh d=>.val d
  | .own xs=>.own xs
  | .obj o=>.obj o
noncomputable def Cl(sp:b7) (ds:List D) (Q:B -> Prop):Prop:=sp ds Q
noncomputable def cV(sp:b7) (t:fq):TX:=λσ Q=>t σ λds av=>Cl sp ds λb=>Q (bE b) av
theorem aO{x:Str} {sp:b7} {e:Expr} {es:List Expr} {t:fq} {p pos:Pos} (h:dn G k x sp) (ha:rH G k S (e :: es) t) (hg:S.sc.lookup x = some .globalImplicit:=by rfl) (me:(x == ("__debug__":Str)) = false:=by decide)
    (he:∀env,starEach (e :: es) env = (false,eval e env) :: starEach es env:=by exactλ_=>Vc.dv rfl) (i3:∀env,(backTo pos (starEach es env)).any (·.1) = false:=by intro _;rfl) (hh:S.kl = false:=by rfl):EX G k S (.Call (.Name x p) (e :: es) [] pos) (cV sp t):=.mk λX Y ok=>by
  obtain⟨f,fd,ps,h1,h2,h3,h4⟩:=h;have CY:dy X.prog X.w X.K X.mg X.base qd k f fd ps (m5 sp):=by rw [ok.P,ok.w,ok.K,ok.mg,ok.base];exact h1
  refine aY (yU (E:=E0) (dvs:=[]) (ds:=[]) CY (ok.room hh) (cc ok hg) (by rw [ok.mg];exact h2) (by rw [ok.K];exact h3) (by rw [ok.K];exact h4) .nil KH (ha X Y ok) me (he _) (i3 _)) λσ H Q q=>?_
  obtain⟨F,ao,Qd,R,q,K⟩:=q;refine⟨F,ao,_,R,q,λvs H1 F1 ds av s1 R1 r1 q1=>?_⟩;show m5 sp (vs ++ []) H1 Q E0;rw [List.append_nil];refine⟨F1,ds,_,⟨R1.fr,R1.ob.tab⟩,r1,q1,λv H' F' b s2 s3 s4 fr r2 q2=>?_⟩;have R2:=R1.call s2 s3 s4 fr;cases b with
  | sh d=>exact K v H' F' (.val d) av (s1.trans s2) R2 r2 q2
  | own xs =>
    obtain⟨a,us,rfl,w1,w2,w3,w4⟩:=r2;refine K _ H' F' (.own xs) av (s1.trans s2) R2 ⟨a,us,rfl,w1,w2,w3,(R1.cA w4).1,R1.d8 w4⟩ q2
  | obj o =>
    obtain⟨a,rfl,w1,w2⟩:=r2;exact K _ H' F' (.obj o) av (s1.trans s2) R2 ⟨a,rfl,w1,λb hb=>⟨(w2 b hb).1,(w2 b hb).2.1,(R1.cA (w2 b hb).2.2).1,R1.d8 (w2 b hb).2.2⟩⟩ q2
noncomputable def a4(n:Nat) (ds:List D):Sd:=ds.map (λd=>some (.sh d)) ++ List.replicate (n-ds.length) none
theorem oS{F:Hp}:∀ {vs:List V} {ds:List D} (m:Nat) {i:Nat} {d:D},aM F vs ds -> (ds.map (λd=>some (B.sh d)) ++ List.replicate m none)[i]? = some (some (.sh d)) -> ∃v,(vs.map some ++ List.replicate m none)[i]? = some (some v) /\ Rep F v d
  | [],[],m,i,d,.nil,e=>by
    simp only [List.map_nil,List.nil_append,List.getElem?_replicate]at e
    split at e<;>cases e
  | v :: vs,x :: ds,m,0,d,.cons r t,e=>by
    simp at e;subst e;exact⟨v,by simp,r⟩
  | v :: vs,x :: ds,m,i+1,d,.cons r t,e=>by
    obtain⟨u,h1,h2⟩:=oS (i:=i) m t (by simpa using e)
    exact⟨u,by simpa using h1,h2⟩
theorem iC:∀(ds:List D) (m i:Nat) (xs:List D),(ds.map (λd=>some (B.sh d)) ++ List.replicate m none)[i]? ≠ some (some (.own xs))
  | [],m,i,xs=>by
    simp only [List.map_nil,List.nil_append,List.getElem?_replicate];intro e
    split at e<;>cases e
  | x :: ds,m,0,xs=>by simp
  | x :: ds,m,i+1,xs=>by
    have:=iC ds m i xs;simpa using this
theorem lh:∀(ds:List D) (m i:Nat) (o:O),(ds.map (λd=>some (B.sh d)) ++ List.replicate m none)[i]? ≠ some (some (.obj o))
  | [],m,i,o=>by
    simp only [List.map_nil,List.nil_append,List.getElem?_replicate];intro e
    split at e<;>cases e
  | x :: ds,m,0,o=>by simp
  | x :: ds,m,i+1,o=>by
    have:=lh ds m i o;simpa using this
theorem RS.start{F H:Hp} {vs:List V} {ds:List D} (n:Nat) (s:tR F H) (r:aM F vs ds):RS ⟨H,F,[],[]⟩ F (a4 n ds) (vs.map some ++ List.replicate (n-vs.length) none) H where
  len:=by unfold a4;simp [r.length]
  lo:=ax.refl _
  fr:=s.1
  eF:=λb o e=>.inl e
  old:=λb o e _=>e
  sh:=λi d e=>by
    rw [r.length];exact oS _ r e
  own:=λi xs e=>absurd e (iC _ _ _ _)
  dis:=λi j xs ys a e=>absurd e (iC _ _ _ _)
  io:=λp hp=>absurd hp (by simp)
  ob:=.none (λi o=>lh _ _ _ _) s.2 λb hb=>by cases hb
theorem AG{x qual:Str} {st:Stmt} {f:Addr} {fd:FuncData} {N ps:List Str} {sp:b7} {t:cJ} (hK:G.K = KF.K) (Fn:xF G.K x qual st f fd) (Sc:aV N ps (ai st)) (ht:dZ G k ⟨N,(ai st).names,[],false,false,false,λ_ _=>False⟩ (ay st) t)
    (len:∀ds Q,sp ds Q -> ds.length = ps.length)
    (body:∀ds Q,sp ds Q -> t {nx:=λ_=>Q (.sh .bt),rt:=λb _=>Q b} (a4 N.length ds)):dy G.P G.w G.K G.mg G.base qd (k+1) f fd ps (m5 sp):=by
  refine Fn.ok Sc (λvs H Q E h=>?_) (λfS A outer s H vs Q E hr h=>?_)
  · obtain⟨F,ds,Qd,s,r,q,K⟩:=h
    rw [r.length];exact len _ _ q
  · obtain⟨F,ds,Qd,sm,r,q,K⟩:=h
    refine⟨_,ht (lQ qd G.P G.w G.K G.mg G.base N qual (ai st) f fS A outer s H E).J7 ⟨H,F,[],[]⟩ ⟨rfl,rfl,rfl,hK,rfl,rfl,rfl,rfl,Sc.nd,λp hp=>absurd hp (by simp),λ_ _=>rfl,λ_=>rfl,Sc.kind,λ_ _ _=>rfl,λ_=>hr.hd,hr.dp,hr.un,λ_=>PassesOwn.never,λ_=>⟨rfl,rfl,rfl⟩,λ_ _ h=>h.elim,(λh=>nomatch h),λh=>nomatch h⟩,F,a4 N.length ds,_,RS.start _ sm r,body ds Qd q,?_⟩
    have same:∀ {F':Hp} {ao:Sd} {σ:St} {H':Hp},RS ⟨H,F,[],[]⟩ F' ao σ H' -> ax H H':=λR b o e=>R.old b o e (by simp [bM.yp])
    refine⟨λσ H' F' ao s' R' q'=>?_,λv σ H' F' ao b s' R' r' q'=>?_,λ_ _ _ _ _ _ h=>h.elim,λ_ _ _ _ _ _ h=>h.elim⟩
    · exact K .bt H' F' (.sh .bt) s' R'.fr (same R') R'.eF .bt q'
    · refine K v H' F' b s' R'.fr (same R') R'.eF ?_ q'
      cases b with
      | sh d=>exact r'
      | own xs =>
        obtain⟨a,us,rfl,w1,w2,w3,w4,w5⟩:=r';exact⟨a,us,rfl,w1,w2,w3,w4⟩
      | obj o =>
        obtain⟨a,rfl,w1,w2⟩:=r';exact⟨a,rfl,w1,λb hb=>⟨(w2 b hb).1,(w2 b hb).2.1,(w2 b hb).2.2.1⟩⟩
end Vc
set_option Elab.async false
set_option linter.all false
set_option maxRecDepth 100000
namespace Vc
open PySem L2
variable [KF]
variable {G:GE} {k:Nat} {S:Stat}
noncomputable abbrev j9:=D -> Sd -> (Sd -> Prop) -> Prop
noncomputable def lG(Y:bM) (g:j9):TG:=λv σ H Q=>∃F ao d Qd,RS Y F ao σ H /\ Rep F v d /\ g d ao Qd /\ ∀bO H' F' aQ,ax F F' -> RS Y F' aQ bO H' -> Qd aQ -> Q bO H'
structure EG(G:GE) (k:Nat) (S:Stat) (tg:Expr) (g:j9) :Prop where
  run:∀X Y,cX X G k S Y -> PG X tg (lG Y g)
instance {G:GE} {k:Nat} {S:Stat} {tg:Expr} {g:j9} :CoeFun (EG G k S tg g) λ_=>∀X Y,cX X G k S Y -> PG X tg (lG Y g):=⟨EG.run⟩
theorem pN{X:Cx} {e:Expr} {t t':TG} (h:PG X e t) (i:∀v σ H Q,t' v σ H Q -> t v σ H Q):PG X e t':=λpins s σ H v u Q I r q=>h pins s σ H v u Q I r (i v σ H Q q)
noncomputable def fW(i:Nat):j9:=λd σ Q=>Q (σ.set i (some (.sh d)))
theorem bG(i:Nat) {x:Str} {pos:Pos} (hi:S.N[i]? = some x:=by rfl) (hx:S.sc.lookup x = some .local \/ (S.sc.lookup x = some .cell /\ S.nD = false):=by first | exact Or.inl rfl | exact Or.inr ⟨rfl,rfl⟩) (hn:i ∉ S.ios:=by first | decide | exact List.not_mem_nil | (dsimp only;decide)):EG G k S (.Name x pos) (fW i):=.mk λX Y ok =>
  pN (yW (i:=i) (by rw [ok.N];exact ok.nd) (by rw [ok.N];exact hi) (my ok hx) (lZ ok hx)) λv σ H Q q=>by
    obtain⟨F,ao,d,Qd,R,r,q,K⟩:=q;exact K _ H F _ (ax.refl _) (R.oM r λp hp z=>hn (z ▸ ok.ios p hp)) q
noncomputable abbrev ly:=List D -> Sd -> (Sd -> Prop) -> Prop
noncomputable def Qh(Y:bM) (g:ly):An:=λvs σ H Q=>∃F ao ds Qd,RS Y F ao σ H /\ aM F vs ds /\ g ds ao Qd /\ ∀bO H' F' aQ,ax F F' -> RS Y F' aQ bO H' -> Qd aQ -> Q bO H'
structure G3(G:GE) (k:Nat) (S:Stat) (ts:List Expr) (g:ly) :Prop where
  run:∀X Y,cX X G k S Y -> G6 X ts (Qh Y g)
instance {G:GE} {k:Nat} {S:Stat} {ts:List Expr} {g:ly} :CoeFun (G3 G k S ts g) λ_=>∀X Y,cX X G k S Y -> G6 X ts (Qh Y g):=⟨G3.run⟩
noncomputable def CU:ly:=λds σ Q=>match ds with
  | []=>Q σ
  | _=>False
noncomputable def gC(g:j9) (u:ly):ly:=λds σ Q=>match ds with
  | d :: r=>g d σ λav=>u r av Q
  | []=>False
theorem pA:G3 G k S [] CU:=.mk λX Y ok pins s σ H vs us Q I r q=>yX pins s σ H vs us Q I r (by
  obtain⟨F,ao,ds,Qd,R,rr,q,K⟩:=q;cases rr with
  | nil=>exact⟨rfl,K σ H F ao (ax.refl _) R q⟩
  | cons _ _=>exact q.elim)
theorem fv{e:Expr} {es:List Expr} {g:j9} {u:ly} (h1:EG G k S e g) (h2:G3 G k S es u) (hs:∀env,(assignEach (e :: es) env).map (·.2) = assign e env :: (assignEach es env).map (·.2):=by intro _;rfl):G3 G k S (e :: es) (gC g u):=.mk λX Y ok pins s σ H vs us Q I r q =>
  vX (h1 X Y ok) (h2 X Y ok) (hs _) pins s σ H vs us Q I r (by
    obtain⟨F,ao,ds,Qd,R,rr,q,K⟩:=q;cases rr with
    | nil=>exact q.elim
    | cons r1 rs =>
      refine⟨_,_,rfl,F,ao,_,_,R,r1,q,λav H1 F1 xq s1 R1 q1=>?_⟩;exact⟨F1,xq,_,_,R1,rs.mono s1,q1,λbh H2 F2 gb s2 R2 q2=>K bh H2 F2 gb (s1.trans s2) R2 q2⟩)
noncomputable def CV(n:Nat) (u:ly):j9:=λd σ Q=>match d with
  | .tup xs=>xs.length = n /\ u xs σ Q
  | _=>False
theorem uY{es:List Expr} {kk:Nat} {u:ly} {n:Nat} {pos:Pos} (h:G3 G k S es u) (hn:∀env,(assignEach es env).length = n:=by intro _;rfl) (qz:∀env,(assignEach es env).findIdx? (·.1) = none:=by intro _;rfl) (hh:S.kl = false:=by rfl):EG G k S (.Tuple es kk pos) (CV n u):=.mk λX Y ok =>
  pN (Fj (ok.calm hh) (h X Y ok) (hn _) (qz _)) λv σ H Q q=>by
    obtain⟨F,ao,d,Qd,R,r,q,K⟩:=q;cases d with
    | tup xs =>
      cases r with
      | tup hf rl =>
        exact⟨_,_,rfl,.of (R.fr _ _ hf),by rw [rl.length];exact q.1,F,ao,xs,Qd,R,rl,q.2,K⟩
    | _=>exact q.elim
noncomputable def tD(F1 H1 F2 H2:Hp):Prop:=(F2 = F1 /\ H2 = H1) \/ ∃p o,H1 p = none /\ F2 = upd F1 p o /\ H2 = upd H1 p o
theorem tD.same{F1 H1 F2 H2:Hp} (g:tD F1 H1 F2 H2) (s:ax F1 H1):ax F1 F2:=by
  rcases g with⟨rfl,rfl⟩ | ⟨p,o,h,rfl,rfl⟩
  · exact ax.refl _
  · exact aP (same_none s h)
theorem tD.rs{Y:bM} {F1 H1 F2 H2:Hp} {ao:Sd} {σ:St} (g:tD F1 H1 F2 H2) (R:RS Y F1 ao σ H1):RS Y F2 ao σ H2:=by
  rcases g with⟨rfl,rfl⟩ | ⟨p,o,h,rfl,rfl⟩
  · exact R
  · exact R.alloc h
noncomputable def fL(F:Hp) (J:It) (items:List D):Prop:=∀F1 H1,ax F F1 -> ax F1 H1 -> ∀i:Nat,
  (∀x,items[i]? = some x -> J.go i H1 /\ ∀v H2,J.Hk i H1 v H2 -> ∃F2,tD F1 H1 F2 H2 /\ Rep F2 v x) /\ (i = items.length -> J.stop i H1)
theorem fL.mono{F F':Hp} {J:It} {items:List D} (h:fL F J items) (s:ax F F'):fL F' J items:=λF1 H1 s1=>h F1 H1 (s.trans s1)
noncomputable def lI(Y:bM) (t:fq):TI:=λσ H R=>∃F ao Qd,RS Y F ao σ H /\ t ao Qd /\ ∀H' F' aQ J items,ax F F' -> RS Y F' aQ σ H' -> fL F' J items -> Qd items aQ -> R J H'
structure EI(G:GE) (k:Nat) (S:Stat) (tg iter:Expr) (t:fq) :Prop where
  run:∀X Y,cX X G k S Y -> PI X tg iter (lI Y t)
instance {G:GE} {k:Nat} {S:Stat} {tg iter:Expr} {t:fq} :CoeFun (EI G k S tg iter t) λ_=>∀X Y,cX X G k S Y -> PI X tg iter (lI Y t):=⟨EI.run⟩
theorem mG{X:Cx} {tg e:Expr} {t t':TI} (h:PI X tg e t) (i:∀σ H Q,t' σ H Q -> t σ H Q):PI X tg e t':=λpins s σ H Q I q=>h pins s σ H Q I (i σ H Q q)
theorem qE{K:PySem.W.Frag} {F:Hp} {a:Addr} {vs:List V} {xs:List D} (h:Rd F a (.lst vs)) (r:aM F vs xs):fL F (G5 K a) xs:=λF1 H1 s1 s2 i=>by
  have hs:eO K H1 a vs:=.inl (Rd.mono (s1.trans s2) h);refine⟨λx e=>?_,λhl=>⟨vs,hs,by rw [r.length,hl];exact Nat.le_refl _⟩⟩
  obtain⟨v,e1,r1⟩:=r.get e;refine⟨⟨vs,v,hs,e1⟩,λv2 H2 y=>?_⟩;obtain⟨rfl,y⟩:=y;have:=y vs hs;rw [e1]at this;cases this;exact⟨F1,.inl ⟨rfl,rfl⟩,r1.mono s1⟩
theorem yx{K:PySem.W.Frag} {F:Hp} {a:Addr} {vs:List V} {xs:List D} (h:F a = some (.tup vs)) (r:aM F vs xs):fL F (MV K a) xs:=λF1 H1 s1 s2 i=>by
  have hs:iW K H1 a vs:=.of (s2 _ _ (s1 _ _ h));refine⟨λx e=>?_,λhl=>⟨vs,hs,by rw [r.length,hl];exact Nat.le_refl _⟩⟩
  obtain⟨v,e1,r1⟩:=r.get e;refine⟨⟨vs,v,hs,e1⟩,λv2 H2 y=>?_⟩;obtain⟨rfl,y⟩:=y;have:=y vs hs;rw [e1]at this;cases this;exact⟨F1,.inl ⟨rfl,rfl⟩,r1.mono s1⟩
noncomputable def sJ(lo:Int) (n:Nat):List D:=(List.range n).map λi=>.int (lo+(i:Nat))
theorem yv{F:Hp} (lo:Int) (n:Nat):fL F (L9 lo n) (sJ lo n):=λF1 H1 s1 s2 i=>by
  refine⟨λx e=>?_,λhl=>?_⟩
  · unfold sJ at e
    rw [List.getElem?_map]at e;have hi:i<n:=by
      by_cases hi:i<n
      · exact hi
      · rw [List.getElem?_eq_none_iff.mpr (by simpa using hi)]at e;cases e
    rw [List.getElem?_range hi]at e;cases e;refine⟨hi,λv H2 y=>?_⟩;obtain⟨rfl,rfl⟩:=y;exact⟨F1,.inl ⟨rfl,rfl⟩,.int _⟩
  · unfold sJ at hl
    rw [List.length_map,List.length_range]at hl;exact Nat.le_of_eq hl.symm
noncomputable def pR(t:pe):fq:=λσ Q=>t σ λxs av=>match ig av xs with
  | some [.int j]=>(-(2 ^ 62) <= j /\ j<2 ^ 62) /\ Q (sJ 0 j.toNat) av
  | _=>False
theorem jx{tg a:Expr} {t:pe} {p pos:Pos} (h:xr G k S [a] t) (hm:G.mg "range" = none) (hg:S.sc.lookup ("range":Str) = some .globalImplicit:=by rfl) (hs:∀env,starEach [a] env = [(false,eval a env)]:=by intro _;rfl):EI G k S tg (.Call (.Name "range" p) [a] [] pos) (pR t):=.mk λX Y ok =>
  mG (sC (cc ok hg) (by rw [ok.mg];exact hm) (h X Y ok) (hs _)) λσ H Q q=>by
    obtain⟨F,ao,Qd,R,q,K⟩:=q;refine⟨F,ao,_,R,q,λvs H1 F1 xs av s1 R1 r1 q1=>?_⟩
    split at q1
    · rename_i j e
      obtain⟨v,rfl,rv⟩:=(R1.ig r1 e).one;obtain rfl:=rv.int;exact⟨j,rfl,q1.1.1,q1.1.2,K H1 F1 av _ _ s1 R1 (yv 0 _) q1.2⟩
    · exact q1.elim
noncomputable def md(g:j9) (tb:cJ) (De:jq):List D -> Sd -> Prop
  | [],σ=>De.nx σ
  | x :: xs,σ=>g x σ λav=>tb {De with nx:=md g tb De xs,ct:=md g tb De xs,bk:=De.nx} av
noncomputable def dR(ti:fq) (g:j9) (tb:cJ):cJ:=λDe σ=>ti σ λitems av=>md g tb De items av
theorem jO{tg iter:Expr} {body:List Stmt} {ti:fq} {g:j9} {tb:cJ} {pos:Pos} (hi:EI G k S tg iter ti) (hg:EG G k S tg g) (hb:dZ G k S body tb) (hs:∀env x,foldedSetIterable iter env x = pure x:=by intro _ _;rfl) (hh:S.kl = false:=by rfl):
    ES G k S (.For tg iter body [] pos) (dR ti g tb):=.mk λX Y ok=>eY (FH (ok.po hh) (ok.calm hh) (hi X Y ok) (hg X Y ok) (hb X Y ok) (hs _)) λDn σ H q=>by
  obtain⟨F,ao,De,R,q,K⟩:=q;refine⟨F,ao,_,R,q,λH1 F1 xq J items s1 R1 it q1=>?_⟩;refine⟨λi m bO H'=>∃F' aQ,ax F1 F' /\ RS Y F' aQ bO H' /\ md g tb De (items.drop i) aQ /\ m = items.length-i /\ i <= items.length,⟨items.length,F1,xq,ax.refl _,R1,q1,rfl,Nat.zero_le _⟩,?_⟩;rintro i m bO H' ⟨F',aQ,s',R',q',rfl,hi⟩;have JE:=it F' H' s' R'.fr i
  by_cases hl:i<items.length
  · right
    have hd:items.drop i = items[i] :: items.drop (i+1):=by rw [List.drop_eq_getElem_cons hl]
    rw [hd]at q';obtain⟨go,yl⟩:=JE.1 items[i] (by rw [List.getElem?_eq_getElem hl])
    refine⟨go,λbh H2=>∃F2 gb,ax F1 F2 /\ RS Y F2 gb bh H2 /\ md g tb De (items.drop (i+1)) gb,λbh H2 ⟨F2,gb,s2,R2,q2⟩=>⟨items.length-(i+1),by omega,F2,gb,s2,R2,q2,rfl,hl⟩,λv H2 y=>?_⟩
    obtain⟨F2,gr,rep⟩:=yl v H2 y;have s2:ax F1 F2:=s'.trans (gr.same R'.fr);refine⟨F2,aQ,items[i],_,gr.rs R',rep,q',λdX H3 F3 Pk s3 R3 q3=>⟨F3,Pk,_,R3,q3,?_⟩⟩;refine⟨λA7 H4 F4 nr s4 R4 q4=>⟨F4,nr,(s2.trans s3).trans s4,R4,q4⟩,λv4 A7 H4 F4 nr b s4 R4 r4 q4=>K.rt v4 A7 H4 F4 nr b (((s1.trans s2).trans s3).trans s4) R4 r4 q4,
      λA7 H4 F4 nr s4 R4 q4=>K.nx A7 H4 F4 nr (((s1.trans s2).trans s3).trans s4) R4 q4,λA7 H4 F4 nr s4 R4 q4=>⟨F4,nr,(s2.trans s3).trans s4,R4,q4⟩⟩
  · left
    have e:i = items.length:=by omega
    subst e;rw [List.drop_length]at q';exact⟨JE.2 rfl,K.nx bO H' F' aQ (s1.trans s') R' q'⟩
end Vc
set_option Elab.async false
set_option linter.all false
set_option maxRecDepth 100000
namespace Vc
open PySem L2
variable [KF]
theorem lM{prog:Program} {w:World} {A:Around} {R:Result -> Shared -> Prop} {s:Shared} {elt target iter:Expr} {ifs:List Expr} {scope:Scope} {pos:Pos} {it acc:Value} {env:Env} (I:Nat -> Shared -> Prop)
    (turn:∀n s,I n s -> wpAny (model prog w) A (pyNext it) (λr bI=>match r with
      | none=>R (.ok .next) bI
      | some v=>wpAny (model prog w) A (letOwnedTupleGo target it v) (λ_ A4=>wpAny (model prog w) A (assign target env v) (λ_ zJ =>
          wpAny (model prog w) A (forIn ifs true λc r=>if r = true then do let ok <- isTrue c env (eval c env);pure (ForInStep.yield ok)else pure (ForInStep.yield r)) (λok wG =>
            if ok = true then wpAny (model prog w) A (eval elt env) (λx zK =>
              wpAny (model prog w) A (call (.builtin "list.append") [acc,x]) (λ_ LQ=>∃m,m<n /\ I m LQ) (λ_ _=>False) zK) (λ_ _=>False) wG
            else∃m,m<n /\ I m wG) (λ_ _=>False) zJ) (λ_ _=>False) A4) (λ_ _=>False) bI) (λ_ _=>False) s)
    (n:Nat) (h:I n s):codeAny (model prog w) A (.compLoop (.ListComp elt [⟨target,iter,ifs,0⟩] scope pos) 0 it acc env) R s:=by
  refine codeAny_loop rfl I (λn s hI=>?_) n h;show wpAny _ A ((compTurn (.ListComp elt [⟨target,iter,ifs,0⟩] scope pos) 0 it acc env).onRaise (λx=>do noteFrame x env;theTreesLotGoes x)) _ _ s
  refine wpAny_noted ?_;rw [compTurn_list];refine wpAny_bind (wpAny_standAt (wpAny_bind (wpAny_mono (turn n s hI) (λr bI Jz=>?_) λ_ _ h'=>h'.elim)));cases r with
  | none=>exact wpAny_pure Jz
  | some v =>
    refine wpAny_bind (wpAny_mono Jz (λ_ A4 JA=>?_) λ_ _ h'=>h'.elim);refine wpAny_bind (wpAny_mono JA (λ_ zJ Om=>wpAny_bind (wpAny_mono Om (λok wG JB=>?_) λ_ _ h'=>h'.elim)) λ_ _ h'=>h'.elim);cases ok with
    | false=>exact wpAny_pure ⟨rfl,JB⟩
    | true =>
      exact wpAny_bind (wpAny_bind (wpAny_mono JB (λx zK Oo=>wpAny_bind (wpAny_mono Oo (λ_ LQ Oq=>wpAny_pure (wpAny_pure ⟨rfl,Oq⟩)) λ_ _ h'=>h'.elim)) λ_ _ h'=>h'.elim))
noncomputable def fU(env:Env):List (Str × NameKind) -> List (Str × Addr) -> List (Str × Addr)
  | [],cs=>cs
  | (n,k) :: r,cs=>if k == .free then fU env r ((n,(env.cells.lookup n).getD 0) :: cs)else fU env r cs
theorem js{env:Env} {scope:Scope} (h:∀x ∈ scope.names,x.2 = .free -> ∃c,env.cells.lookup x.1 = some c):closureFor scope env = pure (fU env scope.names []):=by
  have all:∀(l:List (Str × NameKind)) (cs:List (Str × Addr)),(∀x ∈ l,x.2 = .free -> ∃c,env.cells.lookup x.1 = some c) ->
      (forIn l cs λx cs=>if(x.2 == NameKind.free) = true then(do let a <- cellOf env x.1;pure (ForInStep.yield ((x.1,a) :: cs)))else pure (ForInStep.yield cs):Sem (List (Str × Addr))) = pure (fU env l cs):=by
    intro l
    induction l with
    | nil=>intro cs _;rfl
    | cons x l ih =>
      intro cs hl;obtain⟨n,k⟩:=x;rw [List.forIn_cons];unfold fU
      by_cases hk:k = .free
      · subst hk
        obtain⟨c,e⟩:=hl (n,.free) List.mem_cons_self rfl;have e':env.cells.lookup n = some c:=e;simp only [beq_self_eq_true,if_true,cellOf,e',Option.getD_some,pure_bind];exact ih _ λy hy=>hl y (List.mem_cons_of_mem _ hy)
      · have hb:(k == NameKind.free) = false:=by simpa using hk
        simp only [hb,Bool.false_eq_true,if_false,pure_bind];exact ih _ λy hy=>hl y (List.mem_cons_of_mem _ hy)
  have h1:=all scope.names [] h;have h2:closureFor scope env = ((forIn scope.names ([]:List (Str × Addr)) λx cs=>if(x.2 == NameKind.free) = true then(do let a <- cellOf env x.1;pure (ForInStep.yield ((x.1,a) :: cs)))else pure (ForInStep.yield cs):Sem (List (Str × Addr))) >>= λcs=>pure cs):=rfl
  rw [h2,h1,pure_bind]
theorem bT{env:Env}:∀(l:List (Str × NameKind)) (cs:List (Str × Addr)) (x:Str) (c:Addr),(∀y ∈ l,y.2 = .free -> ∃c,env.cells.lookup y.1 = some c) -> (fU env l cs).lookup x = some c -> env.cells.lookup x = some c \/ cs.lookup x = some c
  | [],cs,x,c,_,h=>.inr h
  | (n,k) :: r,cs,x,c,hl,h=>by
    unfold fU at h
    by_cases hk:k = .free
    · subst hk
      simp only [beq_self_eq_true,if_true]at h;obtain⟨c',e⟩:=hl (n,.free) List.mem_cons_self rfl;have e':env.cells.lookup n = some c':=e;rcases bT r _ x c (λy hy=>hl y (List.mem_cons_of_mem _ hy)) h with q | q
      · exact .inl q
      · rw [List.lookup_cons]at q
        cases hx:x == n with
        | true =>
          rw [hx]at q;have:=eq_of_beq hx;subst this;rw [e',Option.getD_some]at q;exact .inl (e'.trans q)
        | false=>rw [hx]at q;exact .inr q
    · have hb:(k == NameKind.free) = false:=by simpa using hk
      simp only [hb,Bool.false_eq_true,if_false]at h;exact bT r cs x c (λy hy=>hl y (List.mem_cons_of_mem _ hy)) h
theorem ic{env:Env}:∀(l:List (Str × NameKind)) (cs:List (Str × Addr)) (x:Str),(cs.lookup x).isSome = true -> ((fU env l cs).lookup x).isSome = true
  | [],cs,x,h=>h
  | (n,k) :: r,cs,x,h=>by
    unfold fU
    by_cases hk:k = .free
    · subst hk
      simp only [beq_self_eq_true,if_true];refine ic r _ x ?_;rw [List.lookup_cons];cases hx:x == n with
      | true=>rfl
      | false=>exact h
    · have hb:(k == NameKind.free) = false:=by simpa using hk
      simp only [hb,Bool.false_eq_true,if_false];exact ic r cs x h
theorem gn{env:Env}:∀(l:List (Str × NameKind)) (cs:List (Str × Addr)) (x:Str),(x,NameKind.free) ∈ l -> ((fU env l cs).lookup x).isSome = true
  | (n,k) :: r,cs,x,h=>by
    unfold fU;rcases List.mem_cons.mp h with e | e
    · cases e
      simp only [beq_self_eq_true,if_true];refine ic r _ _ ?_;rw [List.lookup_cons,beq_self_eq_true];rfl
    · split
      · exact gn r _ x e
      · exact gn r cs x e
structure iJ(X X':Cx) (scope:Scope) (N':List Str):Prop where
  P:X'.prog = X.prog
  w:X'.w = X.w
  K:X'.K = X.K
  mg:X'.mg = X.mg
  base:X'.base = X.base
  A:X'.A = X.A
  N:X'.N = N'
  sc:X'.env.scope = relabel scope X.env
  calm:X'.calm = X.calm
  xe:X'.xe = λ_ _=>False
noncomputable def xH(X:Cx) (ifs:List Expr) (t:TT):Prop:=∀(pins:List (Addr × Obj)) (s:Shared) (σ:St) (H:Hp) (Q:Bool -> Hp -> Prop),L2.Inv X pins σ H s -> t σ H Q ->
  wpAny (model X.prog X.w) X.A (forIn ifs true λc r=>if r = true then do let ok <- isTrue c X.env (eval c X.env);pure (ForInStep.yield ok)else pure (ForInStep.yield r)) (TP X pins σ Q) X.xe s
theorem qX{X:Cx}:xH X [] (λ_ H Q=>Q true H):=λpins s σ H Q I h=>wpAny_tests_nil ⟨H,I,h⟩
theorem zo{X:Cx} {c:Expr} {t:TT} (h:PT X c t):xH X [c] t:=λpins s σ H Q I q=>wpAny_tests_one (h pins s σ H Q I q)
noncomputable def jr(caps:List (Option Nat)) (σ:St):St:=caps.map λc=>match c with
  | some j=>(σ[j]?).join
  | none=>none
noncomputable def jW(wi:TI) (caps:List (Option Nat)) (g:TG) (tc:TT) (te:TE):TE:=λσ H Q=>wi σ H λJ H1=>∀acc,H1 acc = none -> ∃W:Nat -> Nat -> St -> Hp -> Prop,(∃m,W 0 m (jr caps σ) (upd H1 acc (.lst []))) /\ ∀i m av H,W i m av H ->
  (J.stop i H /\ Q (.ref acc) H) \/ (J.go i H /\ ∀x H',J.Hk i H x H' -> g x av H' λbh H2=>tc bh H2 λb H3=>if b = true then te bh H3 λv H4=>∃ys m',H4 acc = some (.lst ys) /\ ys.length<sizeLine /\ m'<m /\ W (i+1) m' bh (upd H4 acc (.lst (ys ++ [v])))else∃m',m'<m /\ W (i+1) m' bh H3)
theorem ei{env:Env}:∀ {names:List (Str × NameKind)} {x:Str} {k:NameKind},(names.map λ(n,k)=>if(k == NameKind.free && env.scope.kind == .function && env.kindOf n == some .cell)then(n,NameKind.cell)else(n,k)).lookup x = some k ->
    names.lookup x = some k \/ (k = .cell /\ names.lookup x = some .free)
  | [],_,_,h=>by simp at h
  | (n,k') :: r,x,k,h=>by
    have ih:=@ei env r x k;have h:List.lookup x ((if(k' == NameKind.free && env.scope.kind == .function && env.kindOf n == some .cell) = true then(n,NameKind.cell)else(n,k')) :: _) = some k:=h
    cases hx:x == n with
    | true =>
      by_cases hc:(k' == NameKind.free && env.scope.kind == .function && env.kindOf n == some .cell) = true
      · rw [if_pos hc]at h
        simp only [List.lookup_cons,hx]at h ⊢;cases h;simp only [Bool.and_eq_true,beq_iff_eq]at hc;exact .inr ⟨rfl,by rw [hc.1.1]⟩
      · rw [if_neg hc]at h
        simp only [List.lookup_cons,hx]at h ⊢;exact .inl h
    | false =>
      by_cases hc:(k' == NameKind.free && env.scope.kind == .function && env.kindOf n == some .cell) = true
      · rw [if_pos hc]at h
        simp only [List.lookup_cons,hx]at h ⊢;exact ih h
      · rw [if_neg hc]at h
        simp only [List.lookup_cons,hx]at h ⊢;exact ih h
theorem gK{env:Env}:∀ {names:List (Str × NameKind)} {x:Str},names.lookup x = some .free ->
    (names.map λ(n,k)=>if(k == NameKind.free && env.scope.kind == .function && env.kindOf n == some .cell)then(n,NameKind.cell)else(n,k)).lookup x = some .cell \/
    (names.map λ(n,k)=>if(k == NameKind.free && env.scope.kind == .function && env.kindOf n == some .cell)then(n,NameKind.cell)else(n,k)).lookup x = some .free
  | [],_,h=>by simp at h
  | (n,k') :: r,x,h=>by
    have ih:=@gK env r x;show List.lookup x ((if(k' == NameKind.free && env.scope.kind == .function && env.kindOf n == some .cell) = true then(n,NameKind.cell)else(n,k')) :: _) = some .cell \/ List.lookup x ((if(k' == NameKind.free && env.scope.kind == .function && env.kindOf n == some .cell) = true then(n,NameKind.cell)else(n,k')) :: _) = some .free
    cases hx:x == n with
    | true =>
      simp only [List.lookup_cons,hx]at h
      by_cases hc:(k' == NameKind.free && env.scope.kind == .function && env.kindOf n == some .cell) = true
      · rw [if_pos hc];left;simp only [List.lookup_cons,hx]
      · rw [if_neg hc];right;simp only [List.lookup_cons,hx];exact h
    | false =>
      simp only [List.lookup_cons,hx]at h
      by_cases hc:(k' == NameKind.free && env.scope.kind == .function && env.kindOf n == some .cell) = true
      · rw [if_pos hc];simp only [List.lookup_cons,hx];exact ih h
      · rw [if_neg hc];simp only [List.lookup_cons,hx];exact ih h
structure dY(X:Cx) (scope:Scope) (N':List Str) (caps:List (Option Nat)):Prop where
  kind:scope.kind = .function
  jH:∀y ∈ scope.names,y.2 ≠ .cell
  names:∀y ∈ scope.names,y.2 = .local -> scope.names.lookup y.1 = some .local
  free:∀y ∈ scope.names,y.2 = .free -> X.env.kindOf y.1 = some .cell \/ X.env.kindOf y.1 = some .free
  len:caps.length = N'.length
  G7:∀(i:Nat) (j:Nat),caps[i]? = some (some j) -> ∃x,N'[i]? = some x /\ X.N[j]? = some x /\ scope.names.lookup x = some .free
section
variable {X:Cx} {pins:List (Addr × Obj)} {σ:St} {H:Hp} {s:Shared} {elt target iter:Expr} {ifs:List Expr} {scope:Scope} {pos:Pos} {N':List Str} {caps:List (Option Nat)}
theorem dY.cells(SC:dY X scope N' caps) (ok:X.Ok):∀x ∈ scope.names,x.2 = .free -> ∃c,X.env.cells.lookup x.1 = some c:=λx hx hf=>ok.has x.1 (SC.free x hx hf)
noncomputable def sY(X:Cx) (scope:Scope) (N':List Str) (bB:Shared) (eM:Hp) (C:Addr) (fp:List Addr):Cx:=
  {X with N:=N',bB:=bB,eM:=eM,env:=compEnvC scope (fU X.env scope.names []) C X.env,outer:=X.stack,ex:=fp,fn:=λ_=>false,pn:=[],xe:=λ_ _=>False}
theorem B2(I:L2.Inv X pins σ H s) (SC:dY X scope N' caps) {fp:List Addr} (hf:∀b ∈ fp,eK X pins H b) (AI:∀b ∈ fp,b<s.heap.objs.size):(sY X scope N' s H s.heap.objs.size fp).Ok where
  mod:=I.ok.mod
  kind:=SC.kind
  glob:=I.ok.glob
  blt:=I.ok.blt
  above:=Nat.le_refl _
  inj:=λx y c h1 h2=>by
    have f:∀z,(fU X.env scope.names []).lookup z = some c -> X.env.cells.lookup z = some c:=λz h=>by
      rcases bT scope.names [] z c (SC.cells I.ok) h with q | q
      · exact q
      · cases q
    exact I.ok.inj x y c (f x h1) (f y h2)
  has:=λx hx=>by
    have hx:(relabel scope X.env).names.lookup x = some .cell \/ (relabel scope X.env).names.lookup x = some .free:=hx;have qy:scope.names.lookup x = some .free:=by
      rcases hx with hx | hx
      · rcases ei hx with q | ⟨_,q⟩
        · exact absurd rfl (SC.jH _ (PySem.mem_of_lookup q))
        · exact q
      · rcases ei hx with q | ⟨q,_⟩
        · exact q
        · cases q
    exact Option.isSome_iff_exists.mp (gn scope.names [] x (PySem.mem_of_lookup qy))
  xM:=λx c h=>by cases h
  hd:=I.ok.hd
  frames:=I.ok.frames
  A3:=.inl rfl
  G8:=λb hb=>⟨Nat.ne_of_lt (AI b hb),λx c h=>by
    rcases bT scope.names [] x c (SC.cells I.ok) h with q | q
    · exact(hf b hb).2.2.2.2.1 x c q
    · cases q⟩
  bs:=I.bs
  rQ:=Nat.le_trans I.ok.rQ I.sz
  mE:=λb o e hb=>by
    rcases(hf b hb).2.2.2.1 with q | q
    · exact I.ok.mE b o e q
    · exact absurd (Nat.lt_of_lt_of_le (Heap.lt_size e) (Nat.le_trans I.ok.rQ q)) (Nat.lt_irrefl _)
  nN:=λb hb z=>by
    rcases List.mem_cons.mp (I.ni b z)with q | q
    · exact(hf b hb).2.1 q
    · exact(hf b hb).2.2.1 q
  fI:=I.stack
  uW:=I.hG
theorem xT(I:L2.Inv X pins σ H s) (SC:dY X scope N' caps) {fp:List Addr} (hf:∀b ∈ fp,eK X pins H b) (AI:∀b ∈ fp,b<s.heap.objs.size) {h1:Heap} {t1:Nat} (hn:h1.Ns s.heap.objs.size (λ_=>none)) (hk:∀b o,s.heap.get? b = some o -> h1.get? b = some o):
    L2.Inv (sY X scope N' s H s.heap.objs.size fp) [] (jr caps σ) H {s with heap:=h1,toks:=t1} where
  ok:=B2 I SC hf AI
  os:=rfl
  bare:=I.bare
  base:=Un.kept hk
  loc:=by
    refine⟨_,hn,λi x v e1 e2 _=>?_⟩;have e2:(caps.map λc=>match c with | some j=>(σ[j]?).join | none=>none)[i]? = some (some v):=e2
    rw [List.getElem?_map]at e2;cases ec:caps[i]? with
    | none=>rw [ec]at e2;cases e2
    | some c =>
      rw [ec]at e2;cases c with
      | none=>cases e2
      | some j =>
        have e2:(σ[j]?).join = some v:=Option.some.inj e2;have e3:σ[j]? = some (some v):=by
          cases q:σ[j]? with
          | none=>rw [q]at e2;cases e2
          | some w =>
            rw [q]at e2;cases w with
            | none=>cases e2
            | some z=>cases e2;rfl
        obtain⟨y,w1,w2,w3⟩:=SC.G7 i j ec;have e1:N'[i]? = some x:=e1;rw [w1]at e1;cases e1;have Jr:=SC.free (x,.free) (PySem.mem_of_lookup w3) rfl;obtain⟨m,hm,hl⟩:=I.loc;obtain⟨u,r,l⟩:=hl j x v w2 e3 (.inr Jr);refine⟨u,r,?_⟩;rcases l with⟨k1,_⟩ | ⟨_,c,Dc,qx⟩
        · have Jr:X.env.kindOf x = some .cell \/ X.env.kindOf x = some .free:=Jr
          rw [k1]at Jr;rcases Jr with z | z<;>cases z
        · right
          refine⟨gK w3,c,?_,?_⟩
          · obtain⟨c',e'⟩:=Option.isSome_iff_exists.mp (gn (env:=X.env) scope.names [] x (PySem.mem_of_lookup w3))
            rcases bT scope.names [] x c' (SC.cells I.ok) e' with q | q
            · rw [Dc]at q;cases q
              exact e'
            · cases q
          · obtain⟨o,ho,hd⟩:=qx
            exact⟨o,hk _ _ ho,hd⟩
  cell:=λx c h=>by
    rcases bT scope.names [] x c (SC.cells I.ok) h with q | q
    · obtain⟨v,o,ho,hd⟩:=I.cell x c q
      exact⟨v,o,hk _ _ ho,hd⟩
    · cases q
  free:=I.bo.fresh (Nat.le_refl _)
  cL:=λx c h=>by
    rcases bT scope.names [] x c (SC.cells I.ok) h with q | q
    · exact I.cL x c q
    · cases q
  pin:=λp hp=>absurd (show p ∈ ([]:List (Addr × Obj))from hp) (by simp)
  bo:=I.bo.kept hk
  len:=by
    show(caps.map _).length = N'.length;rw [List.length_map];exact SC.len
theorem nI{Cc:Cx -> Prop} (I:L2.Inv X pins σ H s) (SC:dY X scope N' caps) (hc:∀(bB:Shared) (eM:Hp) (L:Addr) (fp:List Addr),Cc (sY X scope N' bB eM L fp)) {it:Addr} {fp:List Addr} {tn:Nat -> Heap -> Prop} {J:It} (T:qg Cc X.prog X.w X.K target J fp it tn) (t0:tn 0 s.heap) (hf:∀b ∈ fp,eK X pins H b)
    {g:TG} {tc:TT} {te:TE} (Df:∀X',iJ X X' scope N' -> PG X' target g /\ xH X' ifs tc /\ PE X' elt te) {Q:VK}
    (q:∀acc,H acc = none -> ∃W:Nat -> Nat -> St -> Hp -> Prop,(∃m,W 0 m (jr caps σ) (upd H acc (.lst []))) /\ ∀i m av H,W i m av H ->
      (J.stop i H /\ Q (.ref acc) H) \/ (J.go i H /\ ∀x H',J.Hk i H x H' -> g x av H' λbh H2=>tc bh H2 λb H3=>if b = true then te bh H3 λv H4=>∃ys m',H4 acc = some (.lst ys) /\ ys.length<sizeLine /\ m'<m /\ W (i+1) m' bh (upd H4 acc (.lst (ys ++ [v])))else∃m',m'<m /\ W (i+1) m' bh H3))
    {E:Value -> Shared -> Prop} {RR:Value -> Addr -> Result -> Shared -> Prop}
    (Q8:∀acc C H' s',L2.Inv X pins σ H' s' -> eK X pins H' C -> (∃m,s'.heap.Ns C m) -> Q (.ref acc) H' -> RR (.ref acc) C (.ok .next) s'):
    wpAny (model X.prog X.w) X.A (newList []) (λacc wG=>wpAny (model X.prog X.w) X.A (newFunctionEnv scope X.env.globals (fU X.env scope.names []) [] X.env.qual none .none (some X.env)) (λHV zK =>
      codeAny (model X.prog X.w) X.A (.compStart (.ListComp elt [⟨target,iter,ifs,0⟩] scope pos) 0 (.ref it) acc {HV with scope:=relabel scope X.env}) (RR acc HV.locals) zK) E wG) E s:=by
  refine wpAny_newObj_type ?_;have vd:H s.heap.objs.size = none:=I.bo.fresh (Nat.le_refl _);have I3:L2.Inv X pins σ (upd H s.heap.objs.size (.lst [])) {s with heap:=s.heap.push {cls:=.type "list",dict:=none,data:=.seq ([]:List Value).toArray}}:=I.DX (t':=s.toks) (its:=[]) (ys:=[]) .nil (Nat.zero_le _)
  obtain⟨W,⟨m0,w0⟩,step⟩:=q _ vd;generalize RA:({s with heap:=s.heap.push {cls:=.type "list",dict:=none,data:=.seq ([]:List Value).toArray}}:Shared) = s3 at I3 ⊢
  generalize Q5:upd H s.heap.objs.size (.lst []) = H3 at I3 w0;generalize Jh:s.heap.objs.size = acc at *;have QC:∀b o,s.heap.get? b = some o -> s3.heap.get? b = some o:=λb o e=>by rw [<- RA];exact Heap.get?_push_of_some _ e
  have Jc:∀b ∈ fp,b<s3.heap.objs.size:=λb hb=>by
    obtain⟨o,e,_⟩:=T.obj 0 _ t0 b hb;exact Heap.lt_size (QC b o e)
  have Mr:∀b ∈ fp,eK X pins H3 b:=λb hb=>by
    obtain⟨f0,f⟩:=hf b hb;refine⟨?_,f⟩;obtain⟨o,e,_⟩:=T.obj 0 _ t0 b hb;have:b ≠ acc:=by rw [<- Jh];exact Nat.ne_of_lt (Heap.lt_size e)
    rw [<- Q5,az this];exact f0
  have t3:tn 0 s3.heap:=T.keep 0 _ _ t0 λb _ o e=>QC b o e;refine wpAny_newFunctionEnv SC.jH (by intro y hy;simp at hy) (λh1 Rt SK=>?_) SC.kind
  have PH:∀b o,s3.heap.get? b = some o -> h1.get? b = some o:=λb o e=>SK.extBut b o (Nat.ne_of_lt (Heap.lt_size e)) (Heap.get?_push_of_some _ e);have cx:iJ X (sY X scope N' s3 H3 s3.heap.objs.size fp) scope N':=⟨rfl,rfl,rfl,rfl,rfl,rfl,rfl,rfl,rfl,rfl⟩;obtain⟨hg,ht,he⟩:=Df _ cx;have NZ:h1.Ns s3.heap.objs.size (λ_=>none):=by simpa using Rt
  have Nv:∀ {H':Hp},(∀b ∈ fp,H' b = none) -> ∀b ∈ fp,eK (sY X scope N' s3 H3 s3.heap.objs.size fp) [] H' b:=λ{H'} hn b hb=>by
    obtain⟨f0,f1,f2,f3,f4,f5⟩:=Mr b hb;refine⟨hn b hb,Nat.ne_of_lt (Jc b hb),?_,.inl hb,λx c h=>?_,λp hp=>absurd (show p ∈ ([]:List (Addr × Obj))from hp) (by simp)⟩
    · intro z
      rcases List.mem_cons.mp (I3.ni b z)with q | q
      · exact f1 q
      · exact f2 q
    · rcases bT scope.names [] x c (SC.cells I.ok) h with q | q
      · exact f4 x c q
      · cases q
  have loop:∀s4:Shared,L2.Inv (sY X scope N' s3 H3 s3.heap.objs.size fp) [] (jr caps σ) H3 s4 -> tn 0 s4.heap -> codeAny (model X.prog X.w) X.A (.compLoop (.ListComp elt [⟨target,iter,ifs,0⟩] scope pos) 0 (.ref it) (.ref acc) (compEnvC scope (fU X.env scope.names []) s3.heap.objs.size X.env)) (RR (.ref acc) s3.heap.objs.size) s4:=by
    intro s4 I4 t4;refine lM (λn s'=>∃i av H',L2.Inv (sY X scope N' s3 H3 s3.heap.objs.size fp) [] av H' s' /\ tn i s'.heap /\ (∀b ∈ fp,H' b = none) /\ W i n av H') ?_ m0 ⟨0,_,H3,I4,t4,λb hb=>(Mr b hb).1,w0⟩;rintro n s5 ⟨i,av,H5,I5,Hf,CT,w5⟩;rcases step i n av H5 w5 with⟨stop,qn⟩ | ⟨go,body⟩
    · refine cp (T.done (sY X scope N' s3 H3 s3.heap.objs.size fp) rfl rfl rfl (hc _ _ _ _) i [] s5 av H5 _ I5 (Nv CT) Hf stop) λr s6 ⟨hr,I6⟩=>?_
      subst hr;have u:=I6.base;refine Q8 acc _ H5 s6 (I3.nE (ch:=fp) I6.os u I6.bo I6.bare λb hb=>?_) (I3.rZ (Nat.le_refl _) I6.free) ?_ qn
      · obtain⟨f0,f1,f2,f3,f4,f5⟩:=Mr b hb
        exact⟨f3.imp id λz=>Heap.get?_none_of_le z,f1,f4,f5⟩
      · obtain⟨m,hm,_⟩:=I6.loc
        exact⟨m,hm⟩
    · refine cp (T.item (sY X scope N' s3 H3 s3.heap.objs.size fp) rfl rfl rfl (hc _ _ _ _) i [] s5 av H5 _ I5 (Nv CT) Hf go) λr s6 ⟨u,hr,h6⟩=>?_
      subst hr;refine cp h6 λ_ s7 ⟨x,H7,I7,r7,y7,O0,QZ⟩=>?_;have QK:=I7.pinned (Nv QZ) (T.obj _ _ O0);have back:∀ {xC:St} {H8:Hp} {s8:Shared},L2.Inv (sY X scope N' s3 H3 s3.heap.objs.size fp) ([] ++ iw fp s7.heap) xC H8 s8 -> L2.Inv (sY X scope N' s3 H3 s3.heap.objs.size fp) [] xC H8 s8 /\ tn (i+1) s8.heap /\ ∀b ∈ fp,H8 b = none:=λ{xC H8 s8} I8=>by
        refine⟨I8.fj,T.keep _ _ _ O0 λb hb o e=>(I8.pin (b,o) (List.mem_append_right _ (List.mem_append_right _ (da hb e)))).1,λb hb=>?_⟩;obtain⟨o,e,d⟩:=T.obj _ _ O0 b hb;exact(I8.pin (b,o) (List.mem_append_right _ (List.mem_append_right _ (da hb e)))).2.1
      refine cp (hg _ s7 av H7 x u _ QK r7 (body x H7 y7)) λ_ s8 ⟨xC,H8,I8,q8⟩=>?_;refine cp (ht _ s8 xC H8 _ I8 q8) λb s9 ⟨H9,I9,q9⟩=>?_;cases b with
      | false =>
        obtain⟨m',hm,w9⟩:=q9;obtain⟨J1,J2,J3⟩:=back I9;exact⟨m',hm,i+1,xC,H9,J1,J2,J3,w9⟩
      | true =>
        refine cp (he _ s9 xC H9 _ I9 q9) λy SH ⟨v,QG,QH,Sy,ys,m',QQ,hz,hm,w10⟩=>?_;refine cp (kU _ SH xC QG (.ref acc) [v] (.ref acc) [y] (λz MS=>z = .bt /\ W (i+1) m' xC MS) QH rfl (.cons Sy .nil) ⟨acc,ys,v,rfl,rfl,QQ,hz,rfl,w10⟩) λ_ Tw ⟨_,MS,QI,_,_,w11⟩=>?_;obtain⟨J1,J2,J3⟩:=back QI;exact⟨m',hm,i+1,xC,MS,J1,J2,J3,w11⟩
  have I4:=xT (caps:=caps) (N':=N') I3 SC Mr Jc (t1:=s3.toks+([]:List (Str × Value)).length) NZ PH;have t4:tn 0 h1:=T.keep 0 _ _ t3 λb _ o e=>PH b o e;exact codeAny_compStart_list (loop _ I4 t4) (T.self X.A 0 _ _ _ t4 (loop _ I4 t4))
end
end Vc
set_option Elab.async false
set_option linter.all false
set_option maxRecDepth 100000
namespace Vc
open PySem L2
variable [KF]
section
variable {X:Cx} {elt target iter:Expr} {ifs:List Expr} {scope:Scope} {pos:Pos} {N':List Str} {caps:List (Option Nat)} {wi:TI} {g:TG} {tc:TT} {te:TE}
theorem qp{pins:List (Addr × Obj)} {σ:St} {H:Hp} {s:Shared} {C:Addr} {h':Heap} (f:eK X pins H C) (I:L2.Inv X pins σ H s) (hs:Heap.SameBut C s.heap h'):L2.Inv X pins σ H {s with heap:=h'}:=by
  obtain⟨f0,f1,f2,f3,f4,f5⟩:=f;exact I.turned (t':=s.toks) (λb o hb e=>hs.extBut b o hb e) f0 f1 f3 f4 f5
theorem oH{Cc:Cx -> Prop} (hc:∀(bB:Shared) (eM:Hp) (L:Addr) (fp:List Addr),Cc (sY X scope N' bB eM L fp)) (hi:M0 Cc X target iter wi) (SC:dY X scope N' caps) (Df:∀X',iJ X X' scope N' -> PG X' target g /\ xH X' ifs tc /\ PE X' elt te) (hs:∀x,foldedSetIterable iter X.env x = pure x):
    PE X (.ListComp elt [⟨target,iter,ifs,0⟩] scope pos) (jW wi caps g tc te):=by
  intro pins s σ H Q I h;rw [eval_ListComp];refine wpAny_comprehension_free (use:=none) rfl hs (js (SC.cells I.ok)) SC.kind SC.names (cp (hi pins s σ H _ I h) λv s1 h1=>cp h1 λMC s2 h2=>?_);obtain⟨it,fp,tn,J,H2,rfl,I2,T,t0,f2,q2⟩:=h2;exact nI I2 SC hc T t0 f2 Df q2 (RR:=λacc C=>compPost (model X.prog X.w) X.A X.xe none (EP X pins σ Q) acc C) λacc C H' s' I' f' ⟨m,hm⟩ q'=>⟨m,hm,λh' Dm=>⟨.ref acc,H',qp f' I' Dm,rfl,q'⟩⟩
theorem qQ(hc:X.calm = true) (hi:PI X target iter wi) (SC:dY X scope N' caps) (Df:∀X',iJ X X' scope N' -> PG X' target g /\ xH X' ifs tc /\ PE X' elt te) (hs:∀x,foldedSetIterable iter X.env x = pure x):
    PE X (.ListComp elt [⟨target,iter,ifs,0⟩] scope pos) (jW wi caps g tc te):=oH (λ_ _ _ _=>hc) hi SC Df hs
theorem y0{i:Nat} {y:Str} {py eH:Pos} (hc:X.calm = true) (hi:PI X target iter wi) (SC:dY X scope N' caps) (Df:∀X',iJ X X' scope N' -> PG X' target g /\ xH X' ifs tc /\ PE X' elt te) (hs:∀x,foldedSetIterable iter X.env x = pure x)
    (hN:X.N.Nodup) (hy:X.N[i]? = some y) (hx:X.env.scope.names.lookup y = some .local) (RF:swapsWith (.ListComp elt [⟨target,iter,ifs,0⟩] scope pos) (some (.Name y py)) eH.line X.env = pure true):
    PS X (.Assign [.Name y py] (.ListComp elt [⟨target,iter,ifs,0⟩] scope pos) eH) (zL (jW wi caps g tc te) (og i)):=by
  intro pins s σ H D I h;rw [exec_Assign_Name_used _ _ _ _ RF];refine wpAny_bind (wpAny_standAt (wpAny_bind ?_));show wpAny _ X.A (do let _ <- comprehension (.ListComp elt [⟨target,iter,ifs,0⟩] scope pos) scope X.env _ (newList []) false (eval iter X.env) (some (assign (.Name y py) X.env))) _ _ s
  refine wpAny_bind (wpAny_mono (wpAny_comprehension_free (use:=some (assign (.Name y py) X.env)) (Q:=λ_ s'=>SP X pins D .next s') rfl hs (js (SC.cells I.ok)) SC.kind SC.names (cp (hi pins s σ H _ I h) λv s1 h1=>cp h1 λMC s2 h2=>?_))
    (λ_ s' hq=>wpAny_pure (wpAny_pure hq)) λ_ _ e=>e)
  obtain⟨it,fp,tn,J,H2,rfl,I2,T,t0,f2,q2⟩:=h2;refine nI (Q:=λx H1=>og i x σ H1 D.nx) I2 SC (λ_ _ _ _=>hc) T t0 f2 Df q2 (RR:=λacc C=>compPost (model X.prog X.w) X.A X.xe (some (assign (.Name y py) X.env)) (λ_ s'=>SP X pins D .next s') acc C) λacc C H' s' I' f' ⟨m,hm⟩ q'=>?_;show wpAny _ X.A (assign (.Name y py) X.env (.ref acc)) _ _ s';obtain⟨o,es,ep,ho,hd,r⟩:=id hm;have Ip:L2.Inv X (pins ++ iw [C] s'.heap) σ H' s':=I'.pinned (fp:=[C]) (λb hb=>(show b = C by simpa using hb) ▸ f') (λb hb=>by
    have e:b = C:=by simpa using hb
    subst e;exact⟨o,ho,λv z=>by rw [hd]at z;cases z⟩)
  refine wpAny_assign_Name (hR Ip hN hy (.inl hx) (show RelV (.ref acc) (.ref acc)from rfl) (λLc Pp=>?_) (.inr hx))
  have hC:Lc.heap.get? C = some o:=(Pp.pin (C,o) (List.mem_append_right _ (List.mem_append_right _ (da (by simp) ho)))).1
  exact⟨m,⟨o,es,ep,hC,hd,r⟩,λh' Dm=>⟨_,H',qp f' Pp.fj Dm,q'⟩⟩
end
variable {G:GE} {k:Nat} {S:Stat}
noncomputable def dh(names sc:List (Str × NameKind)):List (Str × NameKind):=names.map λ(n,k)=>if(k == .free && sc.lookup n == some .cell)then(n,.cell)else(n,k)
noncomputable def aS(S:Stat) (scope:Scope) (N':List Str):Stat:=⟨N',dh scope.names S.sc,[],true,false,false,λ_ _=>False⟩
structure iI(S:Stat) (scope:Scope) (N':List Str) (caps:List (Option Nat)):Prop where
  kind:scope.kind = .function
  nd:N'.Nodup
  jH:scope.names.all (λy=>y.2 != .cell) = true
  names:scope.names.all (λy=>y.2 != .local || scope.names.lookup y.1 == some .local) = true
  free:scope.names.all (λy=>y.2 != .free || S.sc.lookup y.1 == some .cell || S.sc.lookup y.1 == some .free) = true
  len:caps.length = N'.length
  G7:(caps.zip N').all (λp=>match p.1 with | some j=>S.N[j]? == some p.2 && scope.names.lookup p.2 == some .free | none=>true) = true
theorem iI.sc{scope:Scope} {N':List Str} {caps:List (Option Nat)} (b:iI S scope N' caps) {X:Cx} {Y:bM} (ok:cX X G k S Y):dY X scope N' caps where
  kind:=b.kind
  jH:=λy hy z=>by
    have:=List.all_eq_true.mp b.jH y hy;rw [z]at this;cases this
  names:=λy hy z=>by
    have:=List.all_eq_true.mp b.names y hy;rw [z]at this;simpa using this
  free:=λy hy z=>by
    have:=List.all_eq_true.mp b.free y hy;rw [z]at this;have kd:X.env.kindOf y.1 = S.sc.lookup y.1:=by
      show X.env.scope.names.lookup y.1 = _;rw [ok.sc]
    rw [kd];simpa using this
  len:=b.len
  G7:=λi j e=>by
    have hl:i<caps.length:=(List.getElem?_eq_some_iff.mp e).1;have PJ:i<N'.length:=by rw [<- b.len];exact hl
    have hz:(caps.zip N')[i]? = some (some j,N'[i]):=by
      rw [List.getElem?_zip_eq_some];exact⟨e,by rw [List.getElem?_eq_getElem PJ]⟩
    have:=List.all_eq_true.mp b.G7 _ (List.mem_of_getElem? hz);simp only [Bool.and_eq_true,beq_iff_eq]at this;exact⟨N'[i],by rw [List.getElem?_eq_getElem PJ],by rw [ok.N];exact this.1,this.2⟩
theorem ju{X X':Cx} {Y:bM} {scope:Scope} {N':List Str} {caps:List (Option Nat)} (hh:S.kl = false) (ok:cX X G k S Y) (b:iI S scope N' caps) (c:iJ X X' scope N') (Y':bM) (cM:Y'.io = []):cX X' G k (aS S scope N') Y' where
  P:=c.P.trans ok.P
  w:=c.w.trans ok.w
  K:=c.K.trans ok.K
  kf:=c.K.trans ok.kf
  mg:=c.mg.trans ok.mg
  obs:=λh=>nomatch h
  base:=c.base.trans ok.base
  N:=c.N
  sc:=by
    rw [c.sc];show scope.names.map _ = dh scope.names S.sc;unfold dh;refine List.map_congr_left λy _=>?_;obtain⟨n,kk⟩:=y;have kd:X.env.kindOf n = S.sc.lookup n:=by
      show X.env.scope.names.lookup n = _;rw [ok.sc]
    simp only [ok.kind,kd,beq_self_eq_true,Bool.and_true]
  nd:=b.nd
  ios:=λp hp=>by rw [cM]at hp;cases hp
  calm:=λ_=>c.calm.trans (ok.calm hh)
  kind:=by rw [c.sc];exact b.kind
  fn:=λh=>by cases h
  hd:=λ_=>by rw [c.A];exact ok.hd hh
  dp:=by rw [c.A];exact ok.dp
  un:=by rw [c.A];exact ok.un
  po:=λ_=>by rw [c.xe];exact PassesOwn.never
  nx:=λh=>nomatch h
  exc:=λ_ _ h=>h.elim
  made:=λh=>nomatch h
  hx:=λ_ h=>nomatch h
noncomputable def mv:Sd -> Sd -> Prop
  | [],[]=>True
  | none :: r,_ :: s=>mv r s
  | some b :: r,c :: s=>c = some b /\ mv r s
  | _,_=>False
theorem mw:∀ {a b:Sd} {i:Nat} {x:B},mv a b -> a[i]? = some (some x) -> b[i]? = some (some x)
  | [],[],_,_,_,e=>by simp at e
  | none :: r,c :: s,0,_,h,e=>by simp at e
  | none :: r,c :: s,i+1,x,h,e=>by
    have h:mv r s:=h;simpa using mw (i:=i) h (by simpa using e)
  | some b :: r,c :: s,0,x,h,e=>by
    obtain⟨h1,h2⟩:c = some b /\ mv r s:=h;simp at e;subst e;simp [h1]
  | some b :: r,c :: s,i+1,x,h,e=>by
    obtain⟨h1,h2⟩:c = some b /\ mv r s:=h;simpa using mw (i:=i) h2 (by simpa using e)
  | [],_ :: _,_,_,h,_=>h.elim
  | none :: _,[],_,_,h,_=>h.elim
  | some _ :: _,[],_,_,h,_=>h.elim
theorem mx:∀ {a b:Sd},mv a b -> a.length = b.length
  | [],[],_=>rfl
  | none :: r,c :: s,h=>by
    have h:mv r s:=h;simp [mx h]
  | some b :: r,c :: s,h=>by
    obtain⟨_,h2⟩:c = some b /\ mv r s:=h;simp [mx h2]
  | [],_ :: _,h=>h.elim
  | none :: _,[],h=>h.elim
  | some _ :: _,[],h=>h.elim
noncomputable def pz(ios:List Nat):List (Option Nat) -> Sd -> (Sd -> Prop) -> Prop
  | [],σ,Q=>Q σ
  | none :: r,σ,Q=>pz ios r σ Q
  | some j :: r,σ,Q=>match σ[j]? with
    | some (some (.own xs))=>j ∉ ios /\ pz ios r (σ.set j (some (.sh (.lst xs)))) Q
    | _=>pz ios r σ Q
noncomputable def gm(caps:List (Option Nat)) (σ:Sd):Sd:=caps.map λc=>match c with
  | some j=>match σ[j]? with
    | some (some (.sh d))=>some (.sh d)
    | _=>none
  | none=>none
noncomputable def eA(g:j9) (tc:TB) (te:TD) (ja:Sd):List D -> List D -> (List D -> Prop) -> Prop
  | [],acc,Q=>Q acc
  | x :: xs,acc,Q=>g x ja λav=>tc av λb bh=>if b = true then te bh λd dX=>mv ja dX /\ acc.length<sizeLine /\ eA g tc te ja xs (acc ++ [d]) Q else mv ja bh /\ eA g tc te ja xs acc Q
noncomputable def cu(ios:List Nat) (caps:List (Option Nat)) (ti:fq) (g:j9) (tc:TB) (te:TD):TX:=λσ Q=>ti σ λitems av=>pz ios caps av λbh=>eA g tc te (gm caps bh) items [] λds=>Q (.own ds) bh
theorem d6{ios:List Nat} {Y:bM} (cM:∀p ∈ Y.io,p.1 ∈ ios):∀ {caps:List (Option Nat)} {F:Hp} {ao:Sd} {σ:St} {H:Hp} {Q:Sd -> Prop},RS Y F ao σ H -> pz ios caps ao Q -> ∃F' aQ,ax F F' /\ RS Y F' aQ σ H /\ Q aQ
  | [],F,ao,σ,H,Q,R,q=>⟨F,ao,ax.refl _,R,q⟩
  | none :: r,F,ao,σ,H,Q,R,q=>d6 cM (caps:=r) R q
  | some j :: r,F,ao,σ,H,Q,R,q=>by
    unfold pz at q
    split at q
    · rename_i xs e
      obtain⟨F2,v2,s2,R2,e2,r2⟩:=R.il e λp hp z=>q.1 (z ▸ cM p hp);obtain⟨F3,dX,s3,R3,q3⟩:=d6 cM (caps:=r) R2 q.2;exact⟨F3,dX,s2.trans s3,R3,q3⟩
    · exact d6 cM (caps:=r) R q
theorem d3(caps:List (Option Nat)) (ao:Sd):∀(i:Nat) (o:O),(gm caps ao)[i]? ≠ some (some (.obj o)):=λi o e=>by
  unfold gm at e;rw [List.getElem?_map]at e;cases ec:caps[i]? with
  | none=>rw [ec]at e;cases e
  | some c =>
    rw [ec]at e;cases c with
    | none=>cases e
    | some j =>
      have e:(match ao[j]? with | some (some (.sh d))=>some (B.sh d) | _=>none) = some (.obj o):=Option.some.inj e
      split at e<;>cases e
theorem xN{Y:bM} {F:Hp} {ao:Sd} {σ:St} {H:Hp} (R:RS Y F ao σ H) (caps:List (Option Nat)) {F' H':Hp} (s1:ax F F') (s2:ax F' H'):RS ⟨H',F',[],[]⟩ F' (gm caps ao) (jr caps σ) H' where
  len:=by unfold gm jr;simp
  lo:=ax.refl _
  fr:=s2
  eF:=λb o e=>.inl e
  old:=λb o e _=>e
  sh:=λi d e=>by
    unfold gm at e;rw [List.getElem?_map]at e;unfold jr;rw [List.getElem?_map];cases ec:caps[i]? with
    | none=>rw [ec]at e;cases e
    | some c =>
      rw [ec]at e;cases c with
      | none=>cases e
      | some j =>
        have e:(match ao[j]? with | some (some (.sh d))=>some (B.sh d) | _=>none) = some (.sh d):=Option.some.inj e
        split at e
        · rename_i d' q
          cases e;obtain⟨v,h1,h2⟩:=R.sh j d q;exact⟨v,by show some ((σ[j]?).join) = _;rw [h1];rfl,h2.mono s1⟩
        · cases e
  own:=λi xs e=>by
    unfold gm at e;rw [List.getElem?_map]at e;cases ec:caps[i]? with
    | none=>rw [ec]at e;cases e
    | some c =>
      rw [ec]at e;cases c with
      | none=>cases e
      | some j =>
        have e:(match ao[j]? with | some (some (.sh d))=>some (B.sh d) | _=>none) = some (.own xs):=Option.some.inj e
        split at e<;>cases e
  dis:=λi j xs ys a e=>by
    exfalso;unfold gm at e;rw [List.getElem?_map]at e;cases ec:caps[i]? with
    | none=>rw [ec]at e;cases e
    | some c =>
      rw [ec]at e;cases c with
      | none=>cases e
      | some j =>
        have e:(match ao[j]? with | some (some (.sh d))=>some (B.sh d) | _=>none) = some (.own xs):=Option.some.inj e
        split at e<;>cases e
  io:=λp hp=>by cases hp
  ob:=.none (d3 _ _) (R.ob.tab.mono s1) λb hb=>by cases hb
theorem RS.less{Y:bM} {F:Hp} {ja ao:Sd} {σ:St} {H:Hp} (R:RS Y F ao σ H) (l:mv ja ao) (AU:∀(i:Nat) (xs:List D),ja[i]? ≠ some (some (.own xs))) (J4:∀(i:Nat) (o:O),ja[i]? ≠ some (some (.obj o))) {H':Hp} (s:ax F H'):RS ⟨H',F,[],[]⟩ F ja σ H' where
  len:=(mx l).trans R.len
  lo:=ax.refl _
  fr:=s
  eF:=λb o e=>.inl e
  old:=λb o e _=>e
  sh:=λi d e=>R.sh i d (mw l e)
  own:=λi xs e=>absurd e (AU i xs)
  dis:=λi j xs ys a e=>absurd e (AU i xs)
  io:=λp hp=>by cases hp
  ob:=.none J4 R.ob.tab λb hb=>by cases hb
theorem fR(caps:List (Option Nat)) (ao:Sd):∀(i:Nat) (xs:List D),(gm caps ao)[i]? ≠ some (some (.own xs)):=λi xs e=>by
  unfold gm at e;rw [List.getElem?_map]at e;cases ec:caps[i]? with
  | none=>rw [ec]at e;cases e
  | some c =>
    rw [ec]at e;cases c with
    | none=>cases e
    | some j =>
      have e:(match ao[j]? with | some (some (.sh d))=>some (B.sh d) | _=>none) = some (.own xs):=Option.some.inj e
      split at e<;>cases e
theorem jF:∀a:Sd,mv a a
  | []=>trivial
  | none :: r=>jF r
  | some b :: r=>⟨rfl,jF r⟩
theorem RS.other{Y:bM} {F:Hp} {ao:Sd} {σ:St} {H:Hp} {a:Addr} {o:HO} (R:RS Y F ao σ H) (h1:F a = none) (h2:Y.H0 a = none) (h3:eo ao σ a):RS Y F ao σ (upd H a o) where
  len:=R.len
  lo:=R.lo
  fr:=λb u e=>by
    have:b ≠ a:=λz=>by rw [z,h1]at e;cases e
    rw [az this];exact R.fr b u e
  eF:=R.eF
  old:=λb u e n=>by
    have:b ≠ a:=λz=>by rw [z,h2]at e;cases e
    rw [az this];exact R.old b u e n
  sh:=R.sh
  own:=λi xs e=>by
    obtain⟨b,vs,w1,w2,w3⟩:=R.own i xs e;have:b ≠ a:=λz=>h3 i xs e (by rw [w1,z])
    exact⟨b,vs,w1,by rw [az this];exact w2,w3⟩
  dis:=R.dis
  io:=R.io
  ob:=R.ob.step (ax.refl _) (λ_ _ e=>⟨e,rfl⟩) (λb hb=>by
    obtain⟨w1,w2,w3⟩:=R.ob.owned hb;have dk:b ≠ a:=λz=>h3.J0 (z ▸ hb);exact⟨az dk,w1,w3⟩) R.ob.kc λb hb=>by
    by_cases dk:b = a
    · rw [dk,aW];exactλz=>nomatch z
    · rw [az dk];exact R.ob.there b hb
noncomputable def Oz(g:j9):TG:=λv σ H Q=>∃Y:bM,Y.io = [] /\ lG Y g v σ H Q
noncomputable def Ox(t:TB):TT:=λσ H Q=>∃Y:bM,Y.io = [] /\ lB Y t σ H Q
noncomputable def Oy(t:TD):TE:=λσ H Q=>∃Y:bM,Y.io = [] /\ lD Y t σ H Q
structure A8(G:GE) (k:Nat) (S:Stat) (ifs:List Expr) (t:TB) :Prop where
  run:∀X Y,cX X G k S Y -> xH X ifs (lB Y t)
instance {G:GE} {k:Nat} {S:Stat} {ifs:List Expr} {t:TB} :CoeFun (A8 G k S ifs t) λ_=>∀X Y,cX X G k S Y -> xH X ifs (lB Y t):=⟨A8.run⟩
noncomputable def cR:TB:=λσ Q=>Q true σ
theorem fN:A8 G k S [] cR:=.mk λX Y ok pins s σ H Q I q=>qX pins s σ H Q I (by
  obtain⟨F,ao,Qd,R,q,K⟩:=q;exact K true H F ao (ax.refl _) R q)
theorem qj{c:Expr} {t:TB} (h:EB G k S c t):A8 G k S [c] t:=.mk λX Y ok=>zo (h X Y ok)
section
variable {elt target iter:Expr} {ifs:List Expr} {scope:Scope} {pos:Pos} {N':List Str} {caps:List (Option Nat)} {ti:fq} {g:j9} {tc:TB} {te:TD}
theorem lN{X:Cx} {Y:bM} (hh:S.kl = false) (ok:cX X G k S Y) (b:iI S scope N' caps) (hg:EG G k (aS S scope N') target g) (ht:A8 G k (aS S scope N') ifs tc) (he:ED G k (aS S scope N') elt te):
    ∀X',iJ X X' scope N' -> PG X' target (Oz g) /\ xH X' ifs (Ox tc) /\ PE X' elt (Oy te):=λX' c =>
  ⟨λpins s σ H v u Q I r ⟨Y',cM,q⟩=>hg X' Y' (ju hh ok b c Y' cM) pins s σ H v u Q I r q,λpins s σ H Q I ⟨Y',cM,q⟩=>ht X' Y' (ju hh ok b c Y' cM) pins s σ H Q I q,λpins s σ H Q I ⟨Y',cM,q⟩=>he X' Y' (ju hh ok b c Y' cM) pins s σ H Q I q⟩
theorem fV{Y:bM} {ios:List Nat} (cM:∀p ∈ Y.io,p.1 ∈ ios) {σ:St} {H:Hp} {Q:VK} (q:lX Y (cu ios caps ti g tc te) σ H Q):jW (lI Y ti) caps (Oz g) (Ox tc) (Oy te) σ H Q:=by
  obtain⟨F,ao,Qd,R,q,K⟩:=q;refine⟨F,ao,_,R,q,λH1 F1 xq J items s1 R1 it q1 acc vd=>?_⟩;obtain⟨F2,gb,s2,R2,q2⟩:=d6 cM R1 q1;have RQ:=it.mono s2;have a0:Y.H0 acc = none:=(R2.cA vd).1;have aF:F2 acc = none:=same_none R2.fr vd;have aN:eo gb σ acc:=R2.d8 vd;have sw:∀ {F5 H5:Hp} {o:HO},ax F5 H5 -> F5 acc = none -> ax F5 (upd H5 acc o):=λ{F5 H5 o} s5 h b u e=>by
    have:b ≠ acc:=λz=>by rw [z,h]at e;cases e
    rw [az this];exact s5 b u e
  refine⟨λi m av H'=>∃Fi ds ys,ax F2 Fi /\ RS Y Fi gb σ H' /\ H' acc = some (.lst ys) /\ aM Fi ys ds /\ Fi acc = none /\ RS ⟨H',Fi,[],[]⟩ Fi (gm caps gb) av H' /\ eA g tc te (gm caps gb) (items.drop i) ds (λds=>Qd (.own ds) gb) /\ m = items.length-i /\ i <= items.length,
    ⟨items.length,F2,[],[],ax.refl _,R2.other aF a0 aN,aW,.nil,aF,xN R2 caps (ax.refl _) (sw R2.fr aF),q2,rfl,Nat.zero_le _⟩,?_⟩
  rintro i m av Hi ⟨Fi,ds,ys,si,Ri,qv,ri,fi,QM,qi,rfl,hi⟩;have JE:=RQ Fi Hi si Ri.fr i
  by_cases hl:i<items.length
  · right
    have hd:items.drop i = items[i] :: items.drop (i+1):=by rw [List.drop_eq_getElem_cons hl]
    rw [hd]at qi;obtain⟨go,yl⟩:=JE.1 items[i] (by rw [List.getElem?_eq_getElem hl])
    refine⟨go,λv H' y=>?_⟩;obtain⟨F3,gr,rep⟩:=yl v H' y;have sF:ax Fi F3:=gr.same Ri.fr;have R3:=gr.rs QM;have QL:RS ⟨H',F3,[],[]⟩ F3 (gm caps gb) av H':=R3.less (jF _) (fR _ _) (d3 _ _) R3.fr;have sH:ax Hi H':=by
      rcases gr with⟨_,rfl⟩ | ⟨p,o,hp,_,rfl⟩
      · exact ax.refl _
      · exact aP hp
    have Mk:∀c o,F3 c = some o -> Fi c = some o \/ Nw Hi c o:=λc o e=>by
      rcases gr with⟨rfl,_⟩ | ⟨p,o',hp,rfl,_⟩
      · exact .inl e
      · by_cases hc:c = p
        · subst hc;exact .inr (.inl hp)
        · rw [az hc]at e;exact .inl e
    -- behind the turn
    have back:∀ {F5 H5:Hp} {z9:Sd} {QF:St},ax F3 F5 -> RS ⟨H',F3,[],[]⟩ F5 z9 QF H5 -> RS Y F5 gb σ H5 /\ H5 acc = some (.lst ys) /\ F5 acc = none /\ ax Fi F5:=λ{F5 H5 z9 QF} s5 R5=>by
      have OZ:ax Hi H5:=sH.trans λb o e=>R5.old b o e (by simp [bM.yp])
      have CT:∀c o,F5 c = some o -> Fi c = some o \/ Nw Hi c o:=λc o e=>by
        rcases R5.eF c o e with z | z
        · exact Mk c o z
        · exact .inr (z.imp sH.free id)
      refine⟨Ri.call (sF.trans s5) R5.fr OZ CT,OZ _ _ qv,?_,sF.trans s5⟩;cases e:F5 acc with
      | none=>rfl
      | some o =>
        rcases CT acc o e with z | z
        · rw [fi]at z;cases z
        · rcases z with z | ⟨ws,rfl⟩
          · rw [qv]at z;cases z
          · have y:=R5.fr acc _ e;rw [OZ _ _ qv]at y;cases y
    refine⟨⟨H',F3,[],[]⟩,rfl,F3,_,items[i],_,QL,rep,qi,λA7 H4 F4 nr s4 R4 q4=>?_⟩;refine⟨⟨H',F3,[],[]⟩,rfl,F4,nr,_,R4,q4,λb H5 F5 z9 s5 R5 q5=>?_⟩;cases b with
    | false =>
      obtain⟨le,q5⟩:=q5;obtain⟨w1,w2,w3,w4⟩:=back (s4.trans s5) R5;exact⟨items.length-(i+1),by omega,F5,ds,ys,si.trans w4,w1,w2,ri.mono w4,w3,R5.less le (fR _ _) (d3 _ _) R5.fr,q5,rfl,hl⟩
    | true =>
      refine⟨⟨H',F3,[],[]⟩,rfl,F5,z9,_,R5,q5,λv6 H6 F6 d S1 s6 R6 r6 q6=>?_⟩;obtain⟨le,hz,q6⟩:=q6;obtain⟨w1,w2,w3,w4⟩:=back ((s4.trans s5).trans s6) R6;exact⟨ys,items.length-(i+1),w2,by rw [ri.length];exact hz,by omega,F6,ds ++ [d],ys ++ [v6],si.trans w4,w1.other w3 a0 aN,aW,(ri.mono w4).append (.cons r6 .nil),w3,R6.less le (fR _ _) (d3 _ _) (sw R6.fr w3),q6,rfl,hl⟩
  · left
    have e:i = items.length:=by omega
    subst e;rw [List.drop_length]at qi;exact⟨JE.2 rfl,K _ Hi Fi (.own ds) gb ((s1.trans s2).trans si) Ri ⟨acc,ys,rfl,qv,ri,fi,a0,aN⟩ qi⟩
theorem cU(hi:EI G k S target iter ti) (b:iI S scope N' caps) (hg:EG G k (aS S scope N') target g) (ht:A8 G k (aS S scope N') ifs tc) (he:ED G k (aS S scope N') elt te) (hs:∀env x,foldedSetIterable iter env x = pure x:=by intro _ _;rfl) (hh:S.kl = false:=by rfl):
    EX G k S (.ListComp elt [⟨target,iter,ifs,0⟩] scope pos) (cu S.ios caps ti g tc te):=.mk λX Y ok =>
  aY (qQ (ok.calm hh) (hi X Y ok) (b.sc ok) (lN hh ok b hg ht he) (hs _)) λσ H Q q=>fV ok.ios q
theorem wy(i:Nat) {y:Str} {py eH:Pos} (hi:EI G k S target iter ti) (b:iI S scope N' caps) (hg:EG G k (aS S scope N') target g) (ht:A8 G k (aS S scope N') ifs tc) (he:ED G k (aS S scope N') elt te)
    (hy:S.N[i]? = some y:=by rfl) (hx:S.sc.lookup y = some .local \/ (S.sc.lookup y = some .cell /\ S.nD = false):=by first | exact Or.inl rfl | exact Or.inr ⟨rfl,rfl⟩) (hn:i ∉ S.ios:=by first | decide | exact List.not_mem_nil | (dsimp only;decide)) (hl:(py.line == pos.line) = true:=by rfl) (RC:(scope.names.any λ(n,k)=>n == y && (k == .local || k == .cell)) = false:=by decide +kernel)
    (hs:∀env x,foldedSetIterable iter env x = pure x:=by intro _ _;rfl) (hh:S.kl = false:=by rfl):ES G k S (.Assign [.Name y py] (.ListComp elt [⟨target,iter,ifs,0⟩] scope pos) eH) (cP S.ios i (cu S.ios caps ti g tc te)):=.mk λX Y ok=>by
  have sw:swapsWith (.ListComp elt [⟨target,iter,ifs,0⟩] scope pos) (some (.Name y py)) eH.line X.env = pure (S.sc.lookup y == some .local):=by
    have e:swapsWith (.ListComp elt [⟨target,iter,ifs,0⟩] scope pos) (some (.Name y py)) eH.line X.env = pure (X.env.blockKind == .function && X.env.kindOf y == some .local && py.line == pos.line && !(scope.names.any λ(n,k)=>n == y && (k == .local || k == .cell))):=rfl
    have kb:X.env.blockKind = .function:=by unfold Env.blockKind;rw [ok.kind];rfl
    have kd:X.env.kindOf y = S.sc.lookup y:=by
      show X.env.scope.names.lookup y = _;rw [ok.sc]
    rw [e,kb,kd,hl,RC];simp
  have fin:∀Dn σ H,lS Y (cP S.ios i (cu S.ios caps ti g tc te)) Dn σ H -> zL (jW (lI Y ti) caps (Oz g) (Ox tc) (Oy te)) (og i) Dn σ H:=λDn σ H q=>by
    obtain⟨F,ao,De,R,q,K⟩:=q;refine fV ok.ios ⟨F,ao,_,R,q,λv H1 F1 y av s1 R1 r1 q1=>?_⟩;obtain⟨F2,bh,s2,R2,q2⟩:=lb R1 r1 hn ok.ios q1;exact K.nx _ H1 F2 bh (s1.trans s2) R2 q2
  rcases hx with hx | hx
  · refine eY (y0 (i:=i) (ok.calm hh) (hi X Y ok) (b.sc ok) (lN hh ok b hg ht he) (hs _) (by rw [ok.N];exact ok.nd) (by rw [ok.N];exact hy) (by rw [ok.sc];exact hx) (by rw [sw,hx];rfl)) fin
  · refine eY (L2.wd (i:=i) (by rw [ok.N];exact ok.nd) (by rw [ok.N];exact hy) (my ok (.inr hx)) (qQ (ok.calm hh) (hi X Y ok) (b.sc ok) (lN hh ok b hg ht he) (hs _)) (by rw [sw,hx.1];rfl) (lZ ok (.inr hx))) fin
end
end Vc
set_option Elab.async false
set_option linter.all false
set_option maxRecDepth 100000
namespace Vc
open PySem L2
variable [KF]
section
variable {prog:Program} {w:World} {A:Around} {E:Value -> Shared -> Prop} {s:Shared}
theorem uE{j t:Addr} {i:Nat} {xs:Array Value} {x:Value} {Q:Value -> Shared -> Prop} (hj:s.heap.IsTupleIter j t i) (ht:s.heap.IsTuple t xs) (hx:xs[i]? = some x)
    (q:∀g,g.IsTupleIter j t (i+1) -> Heap.SameBut j s.heap g -> Q x {s with heap:=g}):wpAny (model prog w) A (Builtin.SmallTypes.nextOf (.ref j)) Q E s:=by
  obtain⟨ob,h1,h2,h3⟩:=id hj;obtain⟨ot,h4,_,nt,h5⟩:=ht;unfold Builtin.SmallTypes.nextOf;refine wpAny_bind (wpAny_callSpecial?_slot (name:=Str.ofString "__next__") hj.typeIs F.slot_tuple_iterator_next (wpAny_call_entry F.slot_tuple_iterator_next hj.typeIs F.entry_tuple_iterator_next ?_ (F.args_tuple_iterator_next_1 _)));show wpAny _ _ (field (.ref j) 0 >>= _) _ _ s;refine wpAny_bind (wpAny_field h1 h3 (x:=.ref t) rfl ?_);show wpAny _ _ (if(Value.ref t == Value.none) = true then _ else _) _ _ s
  rw [if_neg (by intro z;exact absurd z Bool.false_ne_true)]
  show wpAny _ _ (field (.ref j) 1 >>= _) _ _ s;refine wpAny_bind (wpAny_field h1 h3 (x:=.int i 0) rfl ?_);show wpAny _ _ (seqItems? (.ref t) >>= _) _ _ s;refine wpAny_bind (wpAny_seqItems h4 h5 ?_);simp only [Int.toNat_natCast,hx];refine wpAny_bind (wpAny_setField h1 h3 (by simp) (wpAny_pure ⟨x,rfl,wpAny_pure (q _ ?_ (Heap.SameBut.update ..))⟩))
  refine⟨_,Heap.get?_update_self _ h1 (Obj.isFreed_of_fields (Obj.data_mapFields h3 _)),(Obj.cls_mapFields ..).trans h2,?_⟩;rw [Obj.data_mapFields h3];simp [rawInt]
theorem lR{j t:Addr} {i:Nat} {xs:Array Value} {Q:Value -> Shared -> Prop} (hh:A.handled = none) (hj:s.heap.IsTupleIter j t i) (ht:s.heap.IsTuple t xs) (hx:xs[i]? = none)
    (q:∀g e,Heap.ExtBut j s.heap g -> (∃o,g.get? e = some o /\ o.cls = .type "StopIteration") -> E (.ref e) {s with heap:=g}):wpAny (model prog w) A (Builtin.SmallTypes.nextOf (.ref j)) Q E s:=by
  obtain⟨ob,h1,h2,h3⟩:=id hj;obtain⟨ot,h4,_,nt,h5⟩:=ht;unfold Builtin.SmallTypes.nextOf;refine wpAny_bind (wpAny_callSpecial?_slot (name:=Str.ofString "__next__") hj.typeIs F.slot_tuple_iterator_next (wpAny_call_entry F.slot_tuple_iterator_next hj.typeIs F.entry_tuple_iterator_next ?_ (F.args_tuple_iterator_next_1 _)));show wpAny _ _ (field (.ref j) 0 >>= _) _ _ s;refine wpAny_bind (wpAny_field h1 h3 (x:=.ref t) rfl ?_);show wpAny _ _ (if(Value.ref t == Value.none) = true then _ else _) _ _ s
  rw [if_neg (by intro z;exact absurd z Bool.false_ne_true)]
  show wpAny _ _ (field (.ref j) 1 >>= _) _ _ s;refine wpAny_bind (wpAny_field h1 h3 (x:=.int i 0) rfl ?_);show wpAny _ _ (seqItems? (.ref t) >>= _) _ _ s;refine wpAny_bind (wpAny_seqItems h4 h5 ?_);simp only [Int.toNat_natCast,hx];refine wpAny_bind (wpAny_rule (wpAny_bind (wpAny_setField h1 h3 (by simp) ?_)))
  show wpAny _ _ (newExc (.type "StopIteration") [] >>= _) _ _ _;refine wpAny_bind ?_;simp only [newExc,newTuple];refine wpAny_bind (wpAny_newObj_type ?_ (by size_fits))
  refine wpAny_bind (m:=firstArgMember _ _) (wpAny_of_eq (a:=Value.none) (by first | rfl | (simp only [firstArgMember];rfl)) ?_)
  refine wpAny_newObj_type ?_ (by size_fits)
  simp only [raiseNew];refine wpAny_bind (wpAny_handled ?_)
  first | rw [show A.in1.handled = none from hh] | rw [hh]
  refine wpAny_bind (wpAny_pure (wpAny_throw ?_));exact q _ _ (((Heap.SameBut.update ..).extBut.push _).push _) ⟨_,Heap.get?_push_size _ rfl,rfl⟩
end
noncomputable def iV(tp:Bool) (h:Heap) (j a:Addr) (i:Nat):Prop:=if tp = true then h.IsTupleIter j a i else h.IsListIter j a i
noncomputable def pd(tp:Bool) (h:Heap) (a:Addr) (xs:Array Value):Prop:=if tp = true then h.IsTuple a xs else h.IsList a xs
theorem iV.live{tp:Bool} {h:Heap} {j a:Addr} {i:Nat} (q:iV tp h j a i):∃o,h.get? j = some o /\ ∀v,o.data ≠ .cell v:=by
  cases tp with
  | true=>obtain⟨o,e,c,d⟩:=(show h.IsTupleIter j a i from q);exact⟨o,e,λv z=>by rw [d]at z;cases z⟩
  | false=>obtain⟨o,e,c,d⟩:=(show h.IsListIter j a i from q);exact⟨o,e,λv z=>by rw [d]at z;cases z⟩
theorem iV.at{tp:Bool} {h h':Heap} {j a:Addr} {i:Nat} (q:iV tp h j a i) (k:∀o,h.get? j = some o -> h'.get? j = some o):iV tp h' j a i:=by
  cases tp with
  | true=>obtain⟨o,e,r⟩:=(show h.IsTupleIter j a i from q);exact(show h'.IsTupleIter j a i from⟨o,k o e,r⟩)
  | false=>obtain⟨o,e,r⟩:=(show h.IsListIter j a i from q);exact(show h'.IsListIter j a i from⟨o,k o e,r⟩)
theorem pd.at{tp:Bool} {h h':Heap} {a:Addr} {xs:Array Value} (q:pd tp h a xs) (k:∀o,h.get? a = some o -> h'.get? a = some o):pd tp h' a xs:=by
  cases tp with
  | true=>obtain⟨o,e,r⟩:=(show h.IsTuple a xs from q);exact(show h'.IsTuple a xs from⟨o,k o e,r⟩)
  | false=>obtain⟨o,e,r⟩:=(show h.IsList a xs from q);exact(show h'.IsList a xs from⟨o,k o e,r⟩)
section
variable {prog:Program} {w:World} {A:Around} {E:Value -> Shared -> Prop} {s:Shared}
theorem draw{tp:Bool} {j a:Addr} {i:Nat} {xs:Array Value} {x:Value} {Q:Value -> Shared -> Prop} (hj:iV tp s.heap j a i) (ha:pd tp s.heap a xs) (hx:xs[i]? = some x)
    (q:∀g,iV tp g j a (i+1) -> Heap.SameBut j s.heap g -> Q x {s with heap:=g}):wpAny (model prog w) A (Builtin.SmallTypes.nextOf (.ref j)) Q E s:=by
  cases tp with
  | true=>exact uE hj ha hx q
  | false=>exact wpAny_nextOf_list_item hj ha hx q
theorem jv{tp:Bool} {j a:Addr} {i:Nat} {xs:Array Value} {Q:Value -> Shared -> Prop} (hh:A.handled = none) (hj:iV tp s.heap j a i) (ha:pd tp s.heap a xs) (hx:xs[i]? = none)
    (q:∀g e,Heap.ExtBut j s.heap g -> (∃o,g.get? e = some o /\ o.cls = .type "StopIteration") -> E (.ref e) {s with heap:=g}):wpAny (model prog w) A (Builtin.SmallTypes.nextOf (.ref j)) Q E s:=by
  cases tp with
  | true=>exact lR hh hj ha hx q
  | false=>exact wpAny_nextOf_list_end hh hj ha hx q
structure Md(z U V i j:Addr):Prop where
  uz:U ≠ z
  vz:V ≠ z
  iz:i ≠ z
  jz:j ≠ z
  uv:U ≠ V
  ui:U ≠ i
  uj:U ≠ j
  vi:V ≠ i
  vj:V ≠ j
  ij:i ≠ j
theorem zZ{tp tq:Bool} {z U V i j l m:Addr} {n:Nat} {xs ys:Array Value} {x y a b:Value} {Q:Option Value -> Shared -> Prop} (D:Md z U V i j) (lz:l ≠ z /\ l ≠ V /\ l ≠ i /\ l ≠ j) (mz:m ≠ z /\ m ≠ V /\ m ≠ i /\ m ≠ j)
    (hz:IsZip s.heap z U V .none) (hU:IsPair s.heap U (.ref i) (.ref j)) (hV:IsPair s.heap V a b) (h1:iV tp s.heap i l n) (h2:iV tq s.heap j m n) (hl:pd tp s.heap l xs) (hm:pd tq s.heap m ys) (hx:xs[n]? = some x) (hy:ys[n]? = some y)
    (q:∀g,IsZip g z U V (rawInt s.heap.objs.size) -> IsPair g V x y -> iV tp g i l (n+1) -> iV tq g j m (n+1) -> IsPair g s.heap.objs.size x y -> g.objs.size = s.heap.objs.size+1 ->
      (∀c o,c ≠ z -> c ≠ V -> c ≠ i -> c ≠ j -> s.heap.get? c = some o -> g.get? c = some o) -> Q (some (.ref s.heap.objs.size)) {s with heap:=g}):wpAny (model prog w) A (pyNext (.ref z)) Q E s:=by
  have hT:s.TypeIs (.ref z) "zip":=⟨_,hz,rfl⟩;unfold pyNext;refine wpAny_bind (wpAny_attempt (wpAny_callSpecial?_slot (name:=Str.ofString "__next__") hT F.slot_zip_next (wpAny_call_entry F.slot_zip_next hT F.entry_zip_next ?_ (F.args_zip_next_1 _))));show wpAny _ _ (field (.ref z) 2 >>= _) _ _ _;refine wpAny_bind (wpAny_field hz rfl (x:=.bool false) rfl ?_);show wpAny _ _ (field (.ref z) 3 >>= _) _ _ _;refine wpAny_bind (wpAny_field hz rfl (x:=.ref U) rfl (wpAny_bind (wpAny_seqItems hU rfl ?_)));show wpAny _ _ (Builtin.SmallTypes.ownedTupleIsFree (.ref z) >>= _) _ _ _;refine wpAny_bind ?_;unfold Builtin.SmallTypes.ownedTupleIsFree;refine wpAny_bind (wpAny_field hz rfl (x:=.none) rfl (wpAny_pure ?_));simp only [if_true];refine wpAny_bind (wpAny_rule (wpAny_bind (wpAny_field hz rfl (x:=.ref V) rfl (wpAny_bind (wpAny_setField_rec hz (by simp) λg1 z1 e1=>?_)))))
  replace z1:IsZip g1 z U V .ellipsis:=z1
  refine wpAny_bind ?_;simp only [List.zipIdx_cons,List.zipIdx_nil,List.forIn_cons,List.forIn_nil];refine wpAny_bind (wpAny_bind (wpAny_onRaise ?_));show wpAny _ _ (Builtin.SmallTypes.nextOf (.ref i) >>= _) _ _ _;refine wpAny_bind (draw (s:={s with heap:=g1}) (h1.at λo e=>e1.extBut _ _ D.iz e) (hl.at λo e=>e1.extBut _ _ lz.1 e) hx λg2 w2 e2=>wpAny_pure ?_)
  have v2:IsPair g2 V a b:=e2.extBut _ _ D.vi (e1.extBut _ _ D.vz hV);refine wpAny_bind (wpAny_seqItems v2 rfl (wpAny_bind (wpAny_updateSeq_pair v2 λg3 v3 e3=>?_)))
  replace v3:IsPair g3 V x b:=v3
  refine wpAny_bind (wpAny_letGo (wpAny_pure (wpAny_bind (wpAny_bind (wpAny_onRaise ?_)))));show wpAny _ _ (Builtin.SmallTypes.nextOf (.ref j) >>= _) _ _ _;have to3:∀c o,c ≠ z -> c ≠ i -> c ≠ V -> s.heap.get? c = some o -> g3.get? c = some o:=λc o c1 c2 c3 e=>e3.extBut _ _ c3 (e2.extBut _ _ c2 (e1.extBut _ _ c1 e));refine wpAny_bind (draw (s:={s with heap:=g3}) (h2.at λo e=>to3 j o D.jz D.ij.symm D.vj.symm e) (hm.at λo e=>to3 m o mz.1 mz.2.2.1 mz.2.1 e) hy λg4 w4 e4=>wpAny_pure ?_)
  have v4:IsPair g4 V x b:=e4.extBut _ _ D.vj v3;refine wpAny_bind (wpAny_seqItems v4 rfl (wpAny_bind (wpAny_updateSeq_pair v4 λg5 v5 e5=>?_)))
  replace v5:IsPair g5 V x y:=v5
  refine wpAny_bind (wpAny_letGo (wpAny_pure (wpAny_pure (wpAny_bind (wpAny_seqItems v5 rfl (wpAny_bind (wpAny_newTuple ?_)))))));have sz:g5.objs.size = s.heap.objs.size:=by rw [e5.1,e4.1,e3.1,e2.1,e1.1]
  have z5:IsZip g5 z U V .ellipsis:=e5.extBut _ _ D.vz.symm (e4.extBut _ _ D.jz.symm (e3.extBut _ _ D.vz.symm (e2.extBut _ _ D.iz.symm z1)));have k5:∀c o,c ≠ z -> c ≠ V -> c ≠ i -> c ≠ j -> s.heap.get? c = some o -> g5.get? c = some o:=λc o c1 c2 c3 c4 e=>e5.extBut _ _ c2 (e4.extBut _ _ c4 (to3 c o c1 c3 c2 e));have i5:iV tp g5 i l (n+1):=w2.at λo e=>e5.extBut _ _ D.vi.symm (e4.extBut _ _ D.ij (e3.extBut _ _ D.vi.symm e));have j5:iV tq g5 j m (n+1):=w4.at λo e=>e5.extBut _ _ D.vj.symm e;have QE:z<g5.objs.size:=Heap.lt_size z5;show wpAny _ _ (Builtin.SmallTypes.ownedTupleHandOut (.ref z) (.ref g5.objs.size) >>= _) _ _ _;refine wpAny_bind ?_;unfold Builtin.SmallTypes.ownedTupleHandOut;have z6:IsZip (g5.push {cls:=.type "tuple",data:=.seq #[x,y]}) z U V .ellipsis:=Heap.get?_push_of_some _ z5;refine wpAny_bind (wpAny_setField_rec z6 (by simp) λg7 z7 e7=>?_)
  replace z7:IsZip g7 z U V (rawInt g5.objs.size):=z7
  refine wpAny_setField_rec z7 (by simp) λg8 z8 e8=>?_
  replace z8:IsZip g8 z U V (rawInt g5.objs.size):=z8
  have up:∀c o,c ≠ z -> g5.get? c = some o -> g8.get? c = some o:=λc o c1 e=>e8.extBut _ _ c1 (e7.extBut _ _ c1 (Heap.get?_push_of_some _ e));have t8:IsPair g8 g5.objs.size x y:=e8.extBut _ _ (Nat.ne_of_gt QE) (e7.extBut _ _ (Nat.ne_of_gt QE) (Heap.get?_push_size _ rfl));have s8:g8.objs.size = g5.objs.size+1:=by rw [e8.1,e7.1,Heap.size_push]
  rw [sz]at z8 t8 s8;refine wpAny_pure ⟨_,rfl,wpAny_pure ?_⟩;show Q (some (.ref g5.objs.size)) _;rw [sz];exact q g8 z8 (up _ _ D.vz v5) (i5.at λo e=>up _ o D.iz e) (j5.at λo e=>up _ o D.jz e) t8 s8 λc o c1 c2 c3 c4 e=>up c o c1 (k5 c o c1 c2 c3 c4 e)
end
end Vc
set_option Elab.async false
set_option linter.all false
set_option maxRecDepth 100000
namespace Vc
open PySem L2
variable [KF]
noncomputable abbrev PY(tp:Bool):String:=if tp = true then "tuple_iterator" else "list_iterator"
noncomputable abbrev zA(tp:Bool) (h:Heap) (l:Addr):Heap:=h.push {cls:=.type (PY tp),data:=.fields #[.ref l,.int 0 0]}
noncomputable abbrev zB(tp tq:Bool) (h:Heap) (l m:Addr):Heap:=zA tq (zA tp h l) m
noncomputable abbrev zC(tp tq:Bool) (h:Heap) (l m:Addr):Heap:=(zB tp tq h l m).push {cls:=.type "tuple",data:=.seq #[.ref h.objs.size,.ref (zA tp h l).objs.size]}
noncomputable abbrev zD(tp tq:Bool) (h:Heap) (l m:Addr):Heap:=(zC tp tq h l m).push {cls:=.type "tuple",data:=.seq #[.none,.none]}
noncomputable abbrev zE(tp tq:Bool) (h:Heap) (l m:Addr):Heap:=(zD tp tq h l m).push {cls:=.type "zip",data:=.fields #[.none,.bool false,.bool false,.ref (zB tp tq h l m).objs.size,.ref (zC tp tq h l m).objs.size]}
set_option maxHeartbeats 4000000 in
theorem xn(tp tq:Bool) (l m:Addr) (xs ys:Array Value):
    Meets (Builtin.«zip.__new__» ⟨[.type "zip",.ref l,.ref m],[]⟩) (λ_ R s=>pd tp s.heap l xs /\ pd tq s.heap m ys /\ R (.ok (.ret (.ref (zD tp tq s.heap l m).objs.size))) {s with heap:=zE tp tq s.heap l m}):=
  .of_wp λprog w A R s h=>by
    obtain⟨hp,g,d,tk,os⟩:=s;obtain⟨hl,hm,h⟩:=h;have sub:=sub_zip;cases tp with
    | true =>
      have L1:Heap.IsTuple (Shared.heap ⟨hp,g,d,tk,os⟩) l xs:=hl;cases tq with
      | true =>
        have L2:Heap.IsTuple (Shared.heap ⟨hp.push {cls:=.type "tuple_iterator",data:=.fields #[.ref l,.int 0 0]},g,d,tk,os⟩) m ys:=by
          obtain⟨o,e,r⟩:=(show hp.IsTuple m ys from hm);exact⟨o,Heap.get?_push_of_some _ e,r⟩
        wp_walk using wpAny_pyIter_tuple L1,wpAny_pyIter_tuple L2
        exact⟨_,rfl,h⟩
      | false =>
        have L2:Heap.IsList (Shared.heap ⟨hp.push {cls:=.type "tuple_iterator",data:=.fields #[.ref l,.int 0 0]},g,d,tk,os⟩) m ys:=by
          obtain⟨o,e,r⟩:=(show hp.IsList m ys from hm);exact⟨o,Heap.get?_push_of_some _ e,r⟩
        wp_walk using wpAny_pyIter_tuple L1,wpAny_pyIter_list L2
        exact⟨_,rfl,h⟩
    | false =>
      have L1:Heap.IsList (Shared.heap ⟨hp,g,d,tk,os⟩) l xs:=hl;cases tq with
      | true =>
        have L2:Heap.IsTuple (Shared.heap ⟨hp.push {cls:=.type "list_iterator",data:=.fields #[.ref l,.int 0 0]},g,d,tk,os⟩) m ys:=by
          obtain⟨o,e,r⟩:=(show hp.IsTuple m ys from hm);exact⟨o,Heap.get?_push_of_some _ e,r⟩
        wp_walk using wpAny_pyIter_list L1,wpAny_pyIter_tuple L2
        exact⟨_,rfl,h⟩
      | false =>
        have L2:Heap.IsList (Shared.heap ⟨hp.push {cls:=.type "list_iterator",data:=.fields #[.ref l,.int 0 0]},g,d,tk,os⟩) m ys:=by
          obtain⟨o,e,r⟩:=(show hp.IsList m ys from hm);exact⟨o,Heap.get?_push_of_some _ e,r⟩
        wp_walk using wpAny_pyIter_list L1,wpAny_pyIter_list L2
        exact⟨_,rfl,h⟩
theorem rB{tp:Bool} {h:Heap} {j a:Addr} (e:h.get? j = some {cls:=.type (PY tp),data:=.fields #[.ref a,.int 0 0]}):iV tp h j a 0:=by
  cases tp with
  | true=>exact⟨_,e,rfl,rfl⟩
  | false=>exact⟨_,e,rfl,rfl⟩
section
variable {prog:Program} {w:World} {A:Around} {E:Value -> Shared -> Prop} {s:Shared}
theorem xm{tp tq:Bool} {l m:Addr} {xs ys:Array Value} {Q:Value -> Shared -> Prop} (hl:pd tp s.heap l xs) (hm:pd tq s.heap m ys)
    (q:∀g,IsZip g (s.heap.objs.size+4) (s.heap.objs.size+2) (s.heap.objs.size+3) .none -> IsPair g (s.heap.objs.size+2) (.ref s.heap.objs.size) (.ref (s.heap.objs.size+1)) -> IsPair g (s.heap.objs.size+3) .none .none ->
      iV tp g s.heap.objs.size l 0 -> iV tq g (s.heap.objs.size+1) m 0 -> (∀c o,s.heap.get? c = some o -> g.get? c = some o) -> Q (.ref (s.heap.objs.size+4)) {s with heap:=g}):
    wpAny (model prog w) A (call (.type "zip") [.ref l,.ref m]) Q E s:=by
  refine callType_new F.called_zip ∅ (F.typeCall_zip_2 _ _) (F.newCall_zip_2 _ _) (λob=>F.args_object_init_3 ob _ _) F.entry_zip_new (xn tp tq l m xs ys) ⟨hl,hm,?_⟩
  have n1:(zA tp s.heap l).objs.size = s.heap.objs.size+1:=Heap.size_push ..;have n2:(zB tp tq s.heap l m).objs.size = s.heap.objs.size+2:=by rw [Heap.size_push,n1]
  have n3:(zC tp tq s.heap l m).objs.size = s.heap.objs.size+3:=by rw [Heap.size_push,n2]
  have n4:(zD tp tq s.heap l m).objs.size = s.heap.objs.size+4:=by rw [Heap.size_push,n3]
  have p5:(zE tp tq s.heap l m).get? (zD tp tq s.heap l m).objs.size = some _:=Heap.get?_push_size _ rfl;have p4:(zE tp tq s.heap l m).get? (zC tp tq s.heap l m).objs.size = some _:=Heap.get?_push_of_some _ (Heap.get?_push_size _ rfl);have p3:(zE tp tq s.heap l m).get? (zB tp tq s.heap l m).objs.size = some _:=Heap.get?_push_of_some _ (Heap.get?_push_of_some _ (Heap.get?_push_size _ rfl));have p2:(zE tp tq s.heap l m).get? (zA tp s.heap l).objs.size = some _:=Heap.get?_push_of_some _ (Heap.get?_push_of_some _ (Heap.get?_push_of_some _ (Heap.get?_push_size _ rfl)));have p1:(zE tp tq s.heap l m).get? s.heap.objs.size = some _:=Heap.get?_push_of_some _ (Heap.get?_push_of_some _ (Heap.get?_push_of_some _ (Heap.get?_push_of_some _ (Heap.get?_push_size _ rfl))));show _ /\ _;rw [n2,n3,n4]at p5;rw [n1,n2]at p3;rw [n3]at p4;rw [n1]at p2;rw [n4];refine⟨⟨_,p5,rfl⟩,q _ p5 p3 p4 (rB p1) (rB p2) λc o x=>?_⟩;exact Heap.get?_push_of_some _ (Heap.get?_push_of_some _ (Heap.get?_push_of_some _ (Heap.get?_push_of_some _ (Heap.get?_push_of_some _ x))))
theorem xo{tp tq:Bool} {z U V i j l m:Addr} {n:Nat} {xs ys:Array Value} {a b:Value} {Q:Option Value -> Shared -> Prop} (hh:A.handled = none) (D:Md z U V i j) (lz:l ≠ z /\ l ≠ V /\ l ≠ i /\ l ≠ j) (mz:m ≠ z /\ m ≠ V /\ m ≠ i /\ m ≠ j)
    (hz:IsZip s.heap z U V .none) (hU:IsPair s.heap U (.ref i) (.ref j)) (hV:IsPair s.heap V a b) (h1:iV tp s.heap i l n) (h2:iV tq s.heap j m n) (hl:pd tp s.heap l xs) (hm:pd tq s.heap m ys) (vh:xs[n]? = none \/ ys[n]? = none)
    (q:∀g,(∀c o,c ≠ z -> c ≠ V -> c ≠ i -> c ≠ j -> s.heap.get? c = some o -> g.get? c = some o) -> Q none {s with heap:=g}):wpAny (model prog w) A (pyNext (.ref z)) Q E s:=by
  have hT:s.TypeIs (.ref z) "zip":=⟨_,hz,rfl⟩;unfold pyNext;refine wpAny_bind (wpAny_attempt (wpAny_callSpecial?_slot (name:=Str.ofString "__next__") hT F.slot_zip_next (wpAny_call_entry F.slot_zip_next hT F.entry_zip_next ?_ (F.args_zip_next_1 _))));show wpAny _ _ (field (.ref z) 2 >>= _) _ _ _;refine wpAny_bind (wpAny_field hz rfl (x:=.bool false) rfl ?_);show wpAny _ _ (field (.ref z) 3 >>= _) _ _ _;refine wpAny_bind (wpAny_field hz rfl (x:=.ref U) rfl (wpAny_bind (wpAny_seqItems hU rfl ?_)));show wpAny _ _ (Builtin.SmallTypes.ownedTupleIsFree (.ref z) >>= _) _ _ _;refine wpAny_bind ?_;unfold Builtin.SmallTypes.ownedTupleIsFree;refine wpAny_bind (wpAny_field hz rfl (x:=.none) rfl (wpAny_pure ?_));simp only [if_true];refine wpAny_bind (wpAny_rule (wpAny_bind (wpAny_field hz rfl (x:=.ref V) rfl (wpAny_bind (wpAny_setField_rec hz (by simp) λg1 z1 e1=>?_)))))
  replace z1:IsZip g1 z U V .ellipsis:=z1
  refine wpAny_bind ?_;simp only [List.zipIdx_cons,List.zipIdx_nil,List.forIn_cons,List.forIn_nil];refine wpAny_bind (wpAny_bind (wpAny_onRaise ?_));show wpAny _ _ (Builtin.SmallTypes.nextOf (.ref i) >>= _) _ _ _;cases hx:xs[n]? with
  | none =>
    refine wpAny_bind (jv (s:={s with heap:=g1}) hh (h1.at λo e=>e1.extBut _ _ D.iz e) (hl.at λo e=>e1.extBut _ _ lz.1 e) hx λg2 e x2 he=>?_)
    obtain⟨oe,Dd,Jo⟩:=he;have z2:IsZip g2 z U V .ellipsis:=x2 _ _ D.iz.symm z1;have ez:e ≠ z:=λx=>by subst x;rw [z2]at Dd;cases Dd;simp at Jo
    refine wpAny_setField_rec z2 (by simp) λg3 _ e3=>?_
    refine wpAny_bind (wpAny_isInstance (T:="StopIteration") (b:=true) ⟨oe,e3.extBut _ _ ez Dd,Jo⟩ isSubtype_stop (wpAny_pure (q _ λc o c1 _ c3 _ x=>?_)));exact e3.extBut _ _ c1 (x2 _ _ c3 (e1.extBut _ _ c1 x))
  | some x =>
    have hy:ys[n]? = none:=by
      rcases vh with h | h
      · rw [hx]at h;cases h
      · exact h
    refine wpAny_bind (draw (s:={s with heap:=g1}) (h1.at λo e=>e1.extBut _ _ D.iz e) (hl.at λo e=>e1.extBut _ _ lz.1 e) hx λg2 w2 e2=>wpAny_pure ?_)
    have v2:IsPair g2 V a b:=e2.extBut _ _ D.vi (e1.extBut _ _ D.vz hV);refine wpAny_bind (wpAny_seqItems v2 rfl (wpAny_bind (wpAny_updateSeq_pair v2 λg3 v3 e3=>?_)));refine wpAny_bind (wpAny_letGo (wpAny_pure (wpAny_bind (wpAny_bind (wpAny_onRaise ?_)))));show wpAny _ _ (Builtin.SmallTypes.nextOf (.ref j) >>= _) _ _ _;have to3:∀c o,c ≠ z -> c ≠ i -> c ≠ V -> s.heap.get? c = some o -> g3.get? c = some o:=λc o c1 c2 c3 e=>e3.extBut _ _ c3 (e2.extBut _ _ c2 (e1.extBut _ _ c1 e));refine wpAny_bind (jv (s:={s with heap:=g3}) hh (h2.at λo e=>to3 j o D.jz D.ij.symm D.vj.symm e) (hm.at λo e=>to3 m o mz.1 mz.2.2.1 mz.2.1 e) hy λg4 e x4 he=>?_)
    obtain⟨oe,Dd,Jo⟩:=he;have z4:IsZip g4 z U V .ellipsis:=x4 _ _ D.jz.symm (e3.extBut _ _ D.vz.symm (e2.extBut _ _ D.iz.symm z1));have ez:e ≠ z:=λx=>by subst x;rw [z4]at Dd;cases Dd;simp at Jo
    refine wpAny_setField_rec z4 (by simp) λg5 _ e5=>?_
    refine wpAny_bind (wpAny_isInstance (T:="StopIteration") (b:=true) ⟨oe,e5.extBut _ _ ez Dd,Jo⟩ isSubtype_stop (wpAny_pure (q _ λc o c1 c2 c3 c4 x=>?_)));exact e5.extBut _ _ c1 (x4 _ _ c4 (to3 c o c1 c3 c2 x))
end
end Vc
set_option Elab.async false
set_option linter.all false
set_option maxRecDepth 100000
namespace Vc
open PySem L2
variable [KF]
section
variable {X:Cx} {pins:List (Addr × Obj)} {σ:St} {H:Hp} {s:Shared}
theorem rD(I:L2.Inv X pins σ H s) {ch:List Addr} (hf:∀b ∈ ch,eK X pins H b) {h':Heap} {t':Nat} (kp:∀b o,b ∉ ch -> s.heap.get? b = some o -> h'.get? b = some o) {T:Addr} {o:HO} (hT:s.heap.objs.size <= T) (new:bQ X.prog X.w (upd H T o) h' T o):
    L2.Inv X pins σ (upd H T o) {s with heap:=h',toks:=t'}:=by
  have He:∀ {b u},s.heap.get? b = some u -> b ≠ T:=λe=>Nat.ne_of_lt (Nat.lt_of_lt_of_le (Heap.lt_size e) hT);have Hh:∀ {b u},H b = some u -> b ≠ T:=λe=>Nat.ne_of_lt (Nat.lt_of_lt_of_le (I.bo.lt e) hT);have vJ:∀ {b u},H b = some u -> b ∉ ch:=λ{b u} e z=>by rw [(hf b z).1]at e;cases e
  refine I.step (g':=s.gens) (d':=s.drawn) (ch:=ch) (λb hb=>?_) (λb u _ _ hc e _=>kp b u hc e) (λb u _ _ hc e _=>⟨u.slots,kp b u hc e⟩) (λb u hc e n=>by rw [az (He e)];exact n) (λb u hc e=>⟨u,kp b u hc e⟩)
    (λb xs e=>by rw [az (Hh e)];exact e) (λb u w e=>by rw [az (Hh e)];exact e) (λb ps e=>⟨#[],by rw [az (Hh e),e];simp⟩) (λm hm=>?_) (λb u e=>?_) I.bare
  · obtain⟨f0,f1,f2,f3,f4,f5⟩:=hf b hb
    exact⟨f3.imp id λz=>Heap.get?_none_of_le z,f1,f4,f5⟩
  · obtain⟨ob,es,ep,ho,r⟩:=hm
    refine⟨ob,es,ep,kp _ ob (λz=>?_) ho,r⟩;exact(hf _ z).2.1 rfl
  · by_cases hb:b = T
    · subst hb;rw [aW]at e;cases e;exact new
    · rw [az hb]at e
      refine(I.bo b u e).jV (λc v hc q=>?_) (λc q=>by rw [az (Hh q)];exact q) (λc xs q=>by rw [az (Hh q)];exact q) λc o u q=>by rw [az (Hh q)];exact q
      rcases hc with z | z
      · subst z;exact kp _ v (vJ e) q
      · exact kp _ v (vJ z) q
theorem rC(I:L2.Inv X pins σ H s) {ch:List Addr} (hf:∀b ∈ ch,eK X pins H b) {h':Heap} {t':Nat} (kp:∀b o,b ∉ ch -> s.heap.get? b = some o -> h'.get? b = some o):L2.Inv X pins σ H {s with heap:=h',toks:=t'}:=by
  have vJ:∀ {b u},H b = some u -> b ∉ ch:=λ{b u} e z=>by rw [(hf b z).1]at e;cases e
  refine I.step (g':=s.gens) (d':=s.drawn) (ch:=ch) (λb hb=>?_) (λb u _ _ hc e _=>kp b u hc e) (λb u _ _ hc e _=>⟨u.slots,kp b u hc e⟩) (λb u hc e n=>n) (λb u hc e=>⟨u,kp b u hc e⟩)
    (λb xs e=>e) (λb u w e=>e) (λb ps e=>⟨#[],by rw [e];simp⟩) (λm hm=>?_) (λb u e=>?_) I.bare
  · obtain⟨f0,f1,f2,f3,f4,f5⟩:=hf b hb
    exact⟨f3.imp id λz=>Heap.get?_none_of_le z,f1,f4,f5⟩
  · obtain⟨ob,es,ep,ho,r⟩:=hm
    refine⟨ob,es,ep,kp _ ob (λz=>?_) ho,r⟩;exact(hf _ z).2.1 rfl
  · refine(I.bo b u e).jV (λc v hc q=>?_) (λc q=>q) λc xs q=>q
    rcases hc with z | z
    · subst z;exact kp _ v (vJ e) q
    · exact kp _ v (vJ z) q
end
noncomputable def Sq(tp:Bool) (K:PySem.W.Frag) (H:Hp) (a:Addr) (xs:List V):Prop:=if tp = true then iW K H a xs else eO K H a xs
theorem Sq.is{tp:Bool} {X:Cx} {pins:List (Addr × Obj)} {σ:St} {H:Hp} {s:Shared} {a:Addr} {xs:List V} (I:L2.Inv X pins σ H s) (h:Sq tp X.K H a xs):∃its:List Value,Vals xs its /\ pd tp s.heap a its.toArray /\ a<s.heap.objs.size:=by
  cases tp with
  | true =>
    obtain⟨its,r,p,_⟩:=I.tuple (show iW X.K H a xs from h)
    exact⟨its,r,p,by obtain⟨o,e,_⟩:=p;exact Heap.lt_size e⟩
  | false =>
    obtain⟨its,r,p,_⟩:=I.list (show eO X.K H a xs from h)
    exact⟨its,r,p.isList,p.lt⟩
theorem Sq.inj{tp:Bool} {X:Cx} {pins:List (Addr × Obj)} {σ:St} {H:Hp} {s:Shared} {a:Addr} {xs ys:List V} (I:L2.Inv X pins σ H s) (h:Sq tp X.K H a xs) (h':Sq tp X.K H a ys):xs = ys:=by
  cases tp with
  | true=>exact I.lq h h'
  | false=>exact I.jG h h'
noncomputable def MX(tp tq:Bool) (K:PySem.W.Frag) (l m:Addr):It:=
  ⟨λn H=>∃xs ys x y,Sq tp K H l xs /\ Sq tq K H m ys /\ xs[n]? = some x /\ ys[n]? = some y,
   λn H v H'=>∃p x y,H p = none /\ v = .ref p /\ H' = upd H p (.tup [x,y]) /\ (∀xs,Sq tp K H l xs -> xs[n]? = some x) /\ ∀ys,Sq tq K H m ys -> ys[n]? = some y,
   λn H=>∃xs ys,Sq tp K H l xs /\ Sq tq K H m ys /\ (xs.length <= n \/ ys.length <= n)⟩
theorem xf{P:Program} {w:World} {K:PySem.W.Frag} {elts:List Expr} {kk:Nat} {iE:Pos} (tp tq:Bool) (z U V i j l m:Addr) (D:Md z U V i j) (lz:l ≠ z /\ l ≠ V /\ l ≠ i /\ l ≠ j) (mz:m ≠ z /\ m ≠ V /\ m ≠ i /\ m ≠ j):
    Turn P w K (.Tuple elts kk iE) (MX tp tq K l m) [z,U,V,i,j] z (λn h=>IsZip h z U V .none /\ IsPair h U (.ref i) (.ref j) /\ (∃a b,IsPair h V a b) /\ iV tp h i l n /\ iV tq h j m n) where
  mem:=by simp
  obj:=λn h st b hb=>by
    obtain⟨h1,h2,⟨a,c,h3⟩,h4,h5⟩:=st;simp only [List.mem_cons,List.not_mem_nil,or_false]at hb;rcases hb with rfl | rfl | rfl | rfl | rfl
    · exact⟨_,h1,λv q=>by cases q⟩
    · exact⟨_,h2,λv q=>by cases q⟩
    · exact⟨_,h3,λv q=>by cases q⟩
    · exact h4.live
    · exact h5.live
  keep:=λn h h' st kp=>by
    obtain⟨h1,h2,⟨a,c,h3⟩,h4,h5⟩:=st;exact⟨kp z (by simp) _ h1,kp U (by simp) _ h2,⟨a,c,kp V (by simp) _ h3⟩,h4.at λo e=>kp i (by simp) o e,h5.at λo e=>kp j (by simp) o e⟩
  item:=by
    intro X hP hw hK hc n pins s σ H E I hf st hg;subst hP hw hK;obtain⟨h1,h2,⟨a,c,h3⟩,h4,h5⟩:=st;obtain⟨xs,ys,x,y,q1,q2,e1,e2⟩:=hg;obtain⟨its,r1,p1,_⟩:=q1.is I;obtain⟨PZ,r2,p2,_⟩:=q2.is I;obtain⟨u,hu,ru⟩:=r1.get e1;obtain⟨v,hv,rv⟩:=r2.get e2;refine zZ D lz mz h1 h2 h3 h4 h5 p1 p2 (x:=u) (y:=v) (by simpa using hu) (by simpa using hv) λg z1 v1 i1 j1 t1 s1 k1=>⟨_,rfl,?_⟩
    refine wpAny_letOwnedTupleGo_zip z1 λg' z2 xV=>?_;have kp:∀b o,b ∉ [z,V,i,j] -> s.heap.get? b = some o -> g'.get? b = some o:=λb o hb e=>by
      simp only [List.mem_cons,List.not_mem_nil,or_false,not_or]at hb;exact xV.extBut _ _ hb.1 (k1 b o hb.1 hb.2.1 hb.2.2.1 hb.2.2.2 e)
    have zT:s.heap.objs.size ≠ z:=Nat.ne_of_gt (Heap.lt_size h1);have Rk:∀b ∈ [z,V,i,j],eK X pins H b:=λb hb=>hf b (by
      simp only [List.mem_cons,List.not_mem_nil,or_false]at hb ⊢;rcases hb with e | e | e | e<;>simp [e])
    have t2:IsPair g' s.heap.objs.size u v:=xV.extBut _ _ zT t1;have I':=rD (t':=s.toks) (o:=.tup [x,y]) I Rk kp (Nat.le_refl _) ⟨by show 2 <= sizeLine;decide,[u,v],.cons ru (.cons rv .nil),⟨_,t2,rfl,_,rfl⟩⟩
    have o7:H s.heap.objs.size = none:=I.bo.fresh (Nat.le_refl _);refine⟨.ref s.heap.objs.size,upd H s.heap.objs.size (.tup [x,y]),I',rfl,⟨_,x,y,o7,rfl,rfl,λzs hz=>by rw [hz.inj I q1];exact e1,λzs hz=>by rw [hz.inj I q2];exact e2⟩,⟨z2,xV.extBut _ _ D.uz (k1 _ _ D.uz D.uv D.ui D.uj h2),⟨u,v,xV.extBut _ _ D.vz v1⟩,i1.at λo e=>xV.extBut _ _ D.iz e,j1.at λo e=>xV.extBut _ _ D.jz e⟩,λb hb=>?_⟩
    have yd:=(hf b hb).1;have:b ≠ s.heap.objs.size:=by
      obtain⟨o,e,_⟩:∃o,s.heap.get? b = some o /\ True:=by
        simp only [List.mem_cons,List.not_mem_nil,or_false]at hb;rcases hb with rfl | rfl | rfl | rfl | rfl
        · exact⟨_,h1,trivial⟩
        · exact⟨_,h2,trivial⟩
        · exact⟨_,h3,trivial⟩
        · obtain⟨o,e,_⟩:=h4.live;exact⟨o,e,trivial⟩
        · obtain⟨o,e,_⟩:=h5.live;exact⟨o,e,trivial⟩
      exact Nat.ne_of_lt (Heap.lt_size e)
    rw [az this];exact yd
  done:=by
    intro X hP hw hK hc n pins s σ H E I hf st hg;subst hP hw hK;obtain⟨h1,h2,⟨a,c,h3⟩,h4,h5⟩:=st;obtain⟨xs,ys,q1,q2,hl⟩:=hg;obtain⟨its,r1,p1,_⟩:=q1.is I;obtain⟨PZ,r2,p2,_⟩:=q2.is I;have n1:=r1.length;have n2:=r2.length;refine xo (I.ok.hd hc) D lz mz h1 h2 h3 h4 h5 p1 p2 (hl.imp (λq=>by simp;omega) λq=>by simp;omega) λg k1=>⟨rfl,?_⟩
    refine rC (t':=s.toks) (ch:=[z,V,i,j]) I (λb hb=>hf b ?_) λb o hb e=>?_
    · simp only [List.mem_cons,List.not_mem_nil,or_false]at hb ⊢
      rcases hb with e | e | e | e<;>simp [e]
    · simp only [List.mem_cons,List.not_mem_nil,or_false,not_or]at hb
      exact k1 b o hb.1 hb.2.1 hb.2.2.1 hb.2.2.2 e
  self:=λ_ _ _ _ _ st h=>wpAny_pyIter_zip st.1 h
theorem zY(n:Nat):Md (n+4) (n+2) (n+3) n (n+1):=
  ⟨show(n+2:Nat) ≠ n+4 by omega,show(n+3:Nat) ≠ n+4 by omega,show(n:Nat) ≠ n+4 by omega,show(n+1:Nat) ≠ n+4 by omega,show(n+2:Nat) ≠ n+3 by omega,
   show(n+2:Nat) ≠ n by omega,show(n+2:Nat) ≠ n+1 by omega,show(n+3:Nat) ≠ n by omega,show(n+3:Nat) ≠ n+1 by omega,show(n:Nat) ≠ n+1 by omega⟩
theorem kz{l n:Nat} (h:l<n):l ≠ n+4 /\ l ≠ n+3 /\ l ≠ n /\ l ≠ n+1:=by omega
noncomputable def Ot(K:PySem.W.Frag) (ta:TA):TI:=λσ H R=>ta σ H λvs H1=>∃tp tq l m xs ys,vs = [.ref l,.ref m] /\ Sq tp K H1 l xs /\ Sq tq K H1 m ys /\ R (MX tp tq K l m) H1
theorem Fm{X:Cx} {elts:List Expr} {kk:Nat} {iE:Pos} {a b:Expr} {ta:TA} {p pos:Pos} (hg:Gl X "zip") (hm:X.mg "zip" = none) (ha:PA X [a,b] ta) (hs:starEach [a,b] X.env = [(false,eval a X.env),(false,eval b X.env)]) (tj:starEach [b] X.env = [(false,eval b X.env)]):
    PI X (.Tuple elts kk iE) (.Call (.Name "zip" p) [a,b] [] pos) (Ot X.K ta):=by
  intro pins s σ H R I h;refine PyProof.Rows.Call_ (iq I hg hm PyProof.Rows.boot_zip (PyProof.Rows.callWith_type1 (cp (ha pos pins s σ H _ I h) λus s1 ⟨vs,H1,I1,r1,q1⟩=>?_) (by rw [hs,tj]) (by rw [tj];rfl)))
  obtain⟨tp,tq,l,m,xs,ys,e,q1,q2,q⟩:=q1;subst e;obtain⟨u,v,rfl,ru,rv⟩:=vals2 r1;cases ru;cases rv;obtain⟨its,_,p1,ll⟩:=q1.is I1;obtain⟨PZ,_,p2,lm⟩:=q2.is I1;refine xm p1 p2 λg z1 u1 v1 i1 j1 k1=>?_;refine wpAny_pyIter_zip z1 ?_;have N:∀n:Nat,s1.heap.objs.size <= s1.heap.objs.size+n:=λn=>Nat.le_add_right _ _;refine⟨s1.heap.objs.size+4,[s1.heap.objs.size+4,s1.heap.objs.size+2,s1.heap.objs.size+3,s1.heap.objs.size,s1.heap.objs.size+1],_,_,H1,rfl,I1.kept (t':=s1.toks) k1,
    xf tp tq _ _ _ _ _ l m (zY _) (kz ll) (kz lm),⟨z1,u1,⟨_,_,v1⟩,i1,j1⟩,λb hb=>?_,q⟩
  have yd:s1.heap.objs.size <= b:=by
    simp only [List.mem_cons,List.not_mem_nil,or_false]at hb;rcases hb with rfl | rfl | rfl | rfl | rfl
    · exact N 4
    · exact N 2
    · exact N 3
    · exact N 0
    · exact N 1
  exact I1.rZ yd (I1.bo.fresh yd)
end Vc
set_option Elab.async false
set_option linter.all false
set_option maxRecDepth 100000
namespace Vc
open PySem L2
variable [KF]
theorem nM{prog:Program} {w:World} {A:Around} (hh:A.handled = none) (tp:Bool) (j a:Addr) (dk:a ≠ j) (xs:Array Value):
    Draws prog w A j [j,a] xs.size (λi v=>xs[i]? = some v) (λi h=>iV tp h j a i /\ pd tp h a xs) where
  live:=λ_ _ st=>let ⟨o,e,_⟩:=st.1.live;⟨o,e⟩
  frame:=λ_ _ _ st kp=>⟨st.1.at λo e=>kp j (by simp) o e,st.2.at λo e=>kp a (by simp) o e⟩
  item:=λi s Q E hi st q=>by
    refine draw st.1 st.2 (x:=xs[i]) (by simp [hi]) λg w1 e1=>?_
    exact q _ g s.toks (by simp [hi]) ⟨w1,st.2.at λo e=>e1.extBut _ _ dk e⟩ e1
  done:=λs Q E st q=>jv hh st.1 st.2 (by simp) q
noncomputable def L8(tp:Bool) (K:PySem.W.Frag) (a:Addr):It:=
  ⟨λn H=>∃xs x,Sq tp K H a xs /\ xs[n]? = some x,λn H v H'=>∃p x,H p = none /\ v = .ref p /\ H' = upd H p (.tup [.int n,x]) /\ ∀xs,Sq tp K H a xs -> xs[n]? = some x,λn H=>∃xs,Sq tp K H a xs /\ xs.length = n⟩
theorem sQ{P:Program} {w:World} {K:PySem.W.Frag} {elts:List Expr} {kk:Nat} {iE:Pos} (tp:Bool) (e j a:Addr) (ej:e ≠ j) (ae:a ≠ e) (aj:a ≠ j):
    Turn P w K (.Tuple elts kk iE) (L8 tp K a) [e,j] e (λn h=>(∃old,IsEnum h e j n old) /\ iV tp h j a n) where
  mem:=by simp
  obj:=λn h st b hb=>by
    obtain⟨⟨old,h1⟩,h2⟩:=st;simp only [List.mem_cons,List.not_mem_nil,or_false]at hb;rcases hb with rfl | rfl
    · exact⟨_,h1,λv q=>by cases q⟩
    · exact h2.live
  keep:=λn h h' st kp=>by
    obtain⟨⟨old,h1⟩,h2⟩:=st;exact⟨⟨old,kp e (by simp) _ h1⟩,h2.at λo q=>kp j (by simp) o q⟩
  item:=by
    intro X hP hw hK hc n pins s σ H E I hf st hg;subst hP hw hK;obtain⟨⟨old,h1⟩,h2⟩:=st;obtain⟨xs,x,q1,e1⟩:=hg;obtain⟨its,r1,p1,_⟩:=q1.is I;obtain⟨u,hu,ru⟩:=r1.get e1;have hn:n<its.toArray.size:=by
      have:=(List.getElem?_eq_some_iff.mp hu).1;simpa using this
    have Dr:=nM (prog:=X.prog) (w:=X.w) (A:=X.A.in1) (show X.A.in1.handled = none from I.ok.hd hc) tp j a aj its.toArray
    refine wpAny_pyNext_enum_itemD Dr h1 ⟨h2,p1⟩ hn ej (by simp only [List.mem_cons,List.not_mem_nil,or_false,not_or];exact⟨ej,ae.symm⟩) λx' g tk PV ho kq t1 s1 k1=>⟨_,rfl,?_⟩
    have RL:x' = u:=by
      have:its.toArray[n]? = some u:=by simpa using hu
      rw [this]at PV;exact(Option.some.inj PV).symm
    subst RL;refine wpAny_letOwnedTupleGo_enum ho λg' Rj Cy=>?_;have kp:∀b o,b ∉ [e,j] -> s.heap.get? b = some o -> g'.get? b = some o:=λb o hb q=>by
      simp only [List.mem_cons,List.not_mem_nil,or_false,not_or]at hb;exact Cy.extBut _ _ hb.1 (k1 b o hb.1 hb.2 q)
    have eT:s.heap.objs.size ≠ e:=Nat.ne_of_gt (Heap.lt_size h1);have t2:=Cy.extBut _ _ eT t1;have I':=rD (t':=tk+1) (o:=.tup [.int n,x]) I hf kp (Nat.le_refl _) ⟨by show 2 <= sizeLine;decide,[.int n tk,x'],.cons ⟨tk,rfl⟩ (.cons ru .nil),⟨_,t2,rfl,_,rfl⟩⟩
    have o7:H s.heap.objs.size = none:=I.bo.fresh (Nat.le_refl _);refine⟨.ref s.heap.objs.size,upd H s.heap.objs.size (.tup [.int n,x]),I',rfl,⟨_,x,o7,rfl,rfl,λzs hz=>by rw [hz.inj I q1];exact e1⟩,⟨⟨x',by simpa using Rj⟩,kq.1.at λo q=>Cy.extBut _ _ ej.symm q⟩,λb hb=>?_⟩
    have yd:=(hf b hb).1;have:b ≠ s.heap.objs.size:=by
      simp only [List.mem_cons,List.not_mem_nil,or_false]at hb;rcases hb with rfl | rfl
      · exact eT.symm
      · obtain⟨o,q,_⟩:=h2.live;exact Nat.ne_of_lt (Heap.lt_size q)
    rw [az this];exact yd
  done:=by
    intro X hP hw hK hc n pins s σ H E I hf st hg;subst hP hw hK;obtain⟨⟨old,h1⟩,h2⟩:=st;obtain⟨xs,q1,hl⟩:=hg;obtain⟨its,r1,p1,_⟩:=q1.is I;have n1:=r1.length;have Dr:=nM (prog:=X.prog) (w:=X.w) (A:=X.A.in1) (show X.A.in1.handled = none from I.ok.hd hc) tp j a aj its.toArray
    have hn:its.toArray.size = n:=by rw [List.size_toArray,<- n1,hl]
    rw [hn]at Dr;refine wpAny_pyNext_enum_endD Dr h1 ⟨h2,p1⟩ λg x1=>⟨rfl,?_⟩;refine rC (t':=s.toks) (ch:=[e,j]) I hf λb o hb q=>?_;simp only [List.mem_cons,List.not_mem_nil,or_false,not_or]at hb;exact x1 b o hb.2 q
  self:=λ_ _ _ _ _ st h=>by
    obtain⟨⟨old,h1⟩,_⟩:=st;exact wpAny_pyIter_enum h1 h
variable {G:GE} {k:Nat} {S:Stat}
noncomputable def LO:D -> Option (List D)
  | .lst xs=>some xs
  | .tup xs=>some xs
  | _=>none
noncomputable def nq(xs ys:List D):List D:=(xs.zip ys).map λp=>.tup [p.1,p.2]
noncomputable def iM(xs:List D):List D:=xs.mapIdx λi x=>.tup [.int i,x]
noncomputable def GJ(t:fq):fq:=λσ Q=>t σ λds av=>match ds with
  | [a,b]=>match LO a,LO b with
    | some xs,some ys=>Q (nq xs ys) av
    | _,_=>False
  | _=>False
theorem Rep.sq{F:Hp} {v:V} {d:D} {xs:List D} (r:Rep F v d) (e:LO d = some xs) (K:PySem.W.Frag):∃tp a vs,v = .ref a /\ (∀H,ax F H -> Sq tp K H a vs) /\ aM F vs xs:=by
  cases d with
  | lst ys =>
    cases e;cases r with
    | lst h r=>exact⟨false,_,_,rfl,λH s=>(show eO K H _ _ from .inl (Rd.mono s h)),r⟩
  | tup ys =>
    cases e;cases r with
    | tup h r=>exact⟨true,_,_,rfl,λH s=>(show iW K H _ _ from .of (s _ _ h)),r⟩
  | _=>cases e
theorem xl{xs ys:List D} {i:Nat} {d:D} (h:(nq xs ys)[i]? = some d):∃x y,xs[i]? = some x /\ ys[i]? = some y /\ d = .tup [x,y]:=by
  unfold nq at h;rw [List.getElem?_map]at h;cases e:(xs.zip ys)[i]? with
  | none=>rw [e]at h;cases h
  | some p =>
    rw [e]at h;obtain⟨e1,e2⟩:=List.getElem?_zip_eq_some.mp e;exact⟨p.1,p.2,e1,e2,(Option.some.inj h).symm⟩
theorem yy{K:PySem.W.Frag} {F:Hp} {tp tq:Bool} {l m:Addr} {vs us:List V} {xs ys:List D} (h1:∀H,ax F H -> Sq tp K H l vs) (h2:∀H,ax F H -> Sq tq K H m us) (r1:aM F vs xs) (r2:aM F us ys):fL F (MX tp tq K l m) (nq xs ys):=λF1 H1 s1 s2 i=>by
  have a1:=h1 H1 (s1.trans s2);have a2:=h2 H1 (s1.trans s2);refine⟨λd e=>?_,λhl=>⟨vs,us,a1,a2,?_⟩⟩
  · obtain⟨x,y,e1,e2,rfl⟩:=xl e
    obtain⟨v,w1,q1⟩:=r1.get e1;obtain⟨u,w2,q2⟩:=r2.get e2;refine⟨⟨vs,us,v,u,a1,a2,w1,w2⟩,λz H2 yl=>?_⟩;obtain⟨p,v',u',hp,rfl,rfl,f1,f2⟩:=yl;have Iw:=f1 vs a1;have xV:=f2 us a2;rw [w1]at Iw;cases Iw;rw [w2]at xV;cases xV;have sm:=aP (o:=.tup [v,u]) (same_none s2 hp);exact⟨upd F1 p (.tup [v,u]),.inr ⟨p,_,hp,rfl,rfl⟩,.tup aW (.cons ((q1.mono s1).mono sm) (.cons ((q2.mono s1).mono sm) .nil))⟩
  · have:(nq xs ys).length = min xs.length ys.length:=by unfold nq;simp
    have n1:=r1.length;have n2:=r2.length;omega
theorem JD{elts:List Expr} {kk:Nat} {iE:Pos} {a b:Expr} {t:fq} {p pos:Pos} (h:rH G k S [a,b] t) (hm:G.mg "zip" = none) (hg:S.sc.lookup ("zip":Str) = some .globalImplicit:=by rfl) (hs:∀env,starEach [a,b] env = [(false,eval a env),(false,eval b env)]:=by intro _;rfl) (tj:∀env,starEach [b] env = [(false,eval b env)]:=by intro _;rfl):
    EI G k S (.Tuple elts kk iE) (.Call (.Name "zip" p) [a,b] [] pos) (GJ t):=.mk λX Y ok=>mG (Fm (cc ok hg) (by rw [ok.mg];exact hm) (h X Y ok) (hs _) (tj _)) λσ H Q q=>by
  obtain⟨F,ao,Qd,R,q,K⟩:=q;refine⟨F,ao,_,R,q,λvs H1 F1 ds av s1 R1 r1 q1=>?_⟩
  split at q1
  · rename_i x y
    split at q1
    · rename_i xs ys ex ey
      cases r1 with
      | cons rx r1 =>
        cases r1 with
        | cons ry r1 =>
          cases r1;obtain⟨tp,l,us,rfl,a1,b1⟩:=rx.sq ex X.K;obtain⟨tq,m,ws,rfl,a2,b2⟩:=ry.sq ey X.K;exact⟨tp,tq,l,m,us,ws,rfl,a1 H1 R1.fr,a2 H1 R1.fr,K H1 F1 av _ _ s1 R1 (yy a1 a2 b1 b2) q1⟩
    · exact q1.elim
  · exact q1.elim
theorem yu{K:PySem.W.Frag} {F:Hp} {tp:Bool} {l:Addr} {vs:List V} {xs:List D} (h1:∀H,ax F H -> Sq tp K H l vs) (r1:aM F vs xs):fL F (L8 tp K l) (iM xs):=λF1 H1 s1 s2 i=>by
  have a1:=h1 H1 (s1.trans s2);refine⟨λd e=>?_,λhl=>⟨vs,a1,?_⟩⟩
  · unfold iM at e
    rw [List.getElem?_mapIdx]at e;cases ex:xs[i]? with
    | none=>rw [ex]at e;cases e
    | some x =>
      rw [ex]at e;cases e;obtain⟨v,w1,q1⟩:=r1.get ex;refine⟨⟨vs,v,a1,w1⟩,λz H2 yl=>?_⟩;obtain⟨p,v',hp,rfl,rfl,f1⟩:=yl;have Iw:=f1 vs a1;rw [w1]at Iw;cases Iw;have sm:=aP (o:=.tup [.int i,v]) (same_none s2 hp);exact⟨upd F1 p (.tup [.int i,v]),.inr ⟨p,_,hp,rfl,rfl⟩,.tup aW (.cons (.int _) (.cons ((q1.mono s1).mono sm) .nil))⟩
  · rw [r1.length,hl];unfold iM;simp
end Vc
set_option Elab.async false
set_option linter.all false
set_option maxRecDepth 100000
set_option Elab.async false
set_option linter.all false
set_option maxRecDepth 100000
namespace Vc
open PySem L2
variable [KF]
variable {G:GE} {k:Nat} {S:Stat}
noncomputable def isInt:D -> Bool
  | .int _=>true
  | _=>false
noncomputable def vq:D -> Int
  | .int i=>i
  | _=>0
theorem aM.ints{F:Hp}:∀ {vs:List V} {xs:List D},aM F vs xs -> xs.all isInt = true -> vs = (xs.map vq).map V.int
  | _,_,.nil,_=>rfl
  | _,_,.cons (d:=d) r t,h=>by
    rw [List.all_cons,Bool.and_eq_true]at h;cases d with
    | int i =>
      cases r;rw [aM.ints t h.2];rfl
    | _=>exact absurd h.1 (by simp [isInt])
noncomputable def sumF:List D -> (EV -> Prop) -> Prop
  | [.lst xs],Q=>xs.all isInt = true /\ Q (.val (.int (xs.map vq).sum))
  | _,_=>False
noncomputable def sR:D -> Option String
  | .bt=>some "NoneType"
  | .bl _=>some "bool"
  | .int _=>some "int"
  | .str _=>some "str"
  | .lst _=>some "list"
  | .tup _=>some "tuple"
  | _=>none
noncomputable def dr(T U:String):Bool:=T == U || (T == "bool" && U == "int")
noncomputable def cE(U:String):Prop:=∀K:PySem.W.Frag,PySem.W.kitOne K (.type "NoneType") (.type U) = some (dr "NoneType" U) /\ PySem.W.kitOne K (.type "bool") (.type U) = some (dr "bool" U) /\ PySem.W.kitOne K (.type "int") (.type U) = some (dr "int" U) /\
  PySem.W.kitOne K (.type "str") (.type U) = some (dr "str" U) /\ PySem.W.kitOne K (.type "list") (.type U) = some (dr "list" U) /\ PySem.W.kitOne K (.type "tuple") (.type U) = some (dr "tuple" U)
theorem qH:cE "str":=λK=>⟨by rfl,by rfl,by rfl,by rfl,by rfl,by rfl⟩
theorem yB:cE "int":=λK=>⟨by rfl,by rfl,by rfl,by rfl,by rfl,by rfl⟩
theorem vA:cE "bool":=λK=>⟨by rfl,by rfl,by rfl,by rfl,by rfl,by rfl⟩
theorem gB:cE "list":=λK=>⟨by rfl,by rfl,by rfl,by rfl,by rfl,by rfl⟩
theorem kit_tuple:cE "tuple":=λK=>⟨by rfl,by rfl,by rfl,by rfl,by rfl,by rfl⟩
theorem cE.of{U:String} (h:cE U) (K:PySem.W.Frag) {d:D} {T:String} (e:sR d = some T):PySem.W.kitOne K (.type T) (.type U) = some (dr T U):=by
  obtain⟨h1,h2,h3,h4,h5,h6⟩:=h K;cases d<;>cases e<;>assumption
theorem bP.ty{F H:Hp} {v:V} {d:D} {T:String} (r:bP F H v d) (s:ax F H) (K:PySem.W.Frag) (e:sR d = some T):gj K H v (.type T):=by
  cases d with
  | bt=>cases e;obtain rfl:=r.bt;exact .bt
  | bl b=>cases e;obtain rfl:=r.bl;exact .bl b
  | int i=>cases e;obtain rfl:=r.int;exact .int i
  | str x=>cases e;obtain rfl:=r.str;exact .str x
  | lst xs =>
    cases e;obtain⟨a,vs,rfl,h,_⟩:=r.lst;rcases h with h | ⟨o,h⟩
    · exact .lst h
    · exact .kj h
  | tup xs=>cases e;obtain⟨a,vs,rfl,h,_⟩:=r.tup s;exact .tup h
  | dct _=>cases e
  | exc _=>cases e
  | fP _=>cases e
  | o6 _=>cases e
  | kp _ _ _ _=>cases e
theorem yA{X:Cx} {pins:List (Addr × Obj)} {σ:St} {H:Hp} {s:Shared} {x:V} {u:Value} {T:String} (I:L2.Inv X pins σ H s) (rx:RelV x u) (ty:gj X.K H x (.type T)) (dk:T ≠ "dict"):
    ∃MT:Heap -> Prop,PySem.W.KitX X.K u (.type T) MT /\ MT s.heap /\ u ≠ .builtin "__main__.__loader__#opaque":=by
  cases ty with
  | bt=>cases(show u = Value.none from rx);exact⟨_,PySem.W.kitx_none,True.intro,λz=>nomatch z⟩
  | bl y=>cases(show u = Value.bool y from rx);exact⟨_,PySem.W.kitx_bool,True.intro,λz=>nomatch z⟩
  | int i=>obtain⟨t,q⟩:=(show∃t,u = Value.int i t from rx);cases q;exact⟨_,PySem.W.kitx_int,True.intro,λz=>nomatch z⟩
  | str y=>obtain⟨t,q⟩:=(show∃t,u = Value.str y t from rx);cases q;exact⟨_,PySem.W.kitx_str,True.intro,λz=>nomatch z⟩
  | CO y=>obtain⟨t,q⟩:=(show∃t,u = Value.float y t from rx);cases q;exact⟨_,PySem.W.kitx_float,True.intro,λz=>nomatch z⟩
  | @lst a xs ea =>
    cases(show u = Value.ref a from rx)
    obtain⟨_,_,n,_,h1⟩:=(show bQ X.prog X.w H s.heap a (.lst xs)from I.bo a _ ea)
    exact⟨_,PySem.W.kitx_list,⟨_,h1,rfl⟩,λz=>nomatch z⟩
  | @kj a ob xs ea =>
    cases(show u = Value.ref a from rx)
    obtain⟨_,_,_,n,_,h1⟩:=(show bQ X.prog X.w H s.heap a (.kj ob (.lst xs))from I.bo a _ ea)
    exact⟨_,PySem.W.kitx_list,⟨_,h1,rfl⟩,λz=>nomatch z⟩
  | @tup a xs ea =>
    cases(show u = Value.ref a from rx)
    obtain⟨_,_,_,p⟩:=(show bQ X.prog X.w H s.heap a (.tup xs)from I.bo a _ ea)
    obtain⟨o,h1,h2,_⟩:=p;exact⟨_,PySem.W.kitx_tuple,⟨o,h1,h2⟩,λz=>nomatch z⟩
  | dK _=>exact absurd rfl dk
  | dT _=>exact absurd rfl dk
theorem GW{d:D} {T:String} (e:sR d = some T):T ≠ "dict":=by cases d<;>cases e<;>decide
noncomputable def yt(Us:List String) (d:D) (Q:Bool -> Prop):Prop:=match sR d with
  | some T=>Q (Us.any (dr T))
  | none=>False
noncomputable def jX(Us:List String) (t:TV):TB:=λσ Q=>t σ λx av=>match cw av x with
  | some d=>yt Us d λb=>Q b av
  | none=>False
theorem iB{e:Expr} {t:TV} {u:Str} {U:String} {p p2 pos:Pos} (h:EO G k S e t) (kf:cE U) (hm:G.mg "isinstance" = none) (Dg:G.mg u = none) (Mx:bootBuiltins u = some (.type U)) (Ju:u ≠ "__name__":=by decide) (hd2:(u == ("__debug__":Str)) = false:=by decide)
    (hg:S.sc.lookup ("isinstance":Str) = some .globalImplicit:=by rfl) (ye:S.sc.lookup u = some .globalImplicit:=by rfl)
    (he:∀env,starEach [e,.Name u p2] env = (false,eval e env) :: starEach [.Name u p2] env:=by intro _;rfl):EO G k S (.Call (.Name "isinstance" p) [e,.Name u p2] [] pos) (bV (jX [U] t)):=.mk λX Y ok=>by
  have ha:PA X [e,.Name u p2] (cv (lO Y t) (cv (tC (.ty U)) hX)):=bA (h X Y ok) (bA (je (cc ok ye) (by rw [ok.mg];exact Dg) Mx (show RelV (.ty U) (.type U)from rfl) Ju hd2) cG rfl) (he _)
  have hc:cb X (.builtin "isinstance") (λvs H Q=>∃F x d T,vs = [x,.ty U] /\ ax F H /\ bP F H x d /\ sR d = some T /\ Q (.bl (dr T U)) H):=by
    intro pins s σ H xs us Q I r q;obtain⟨F,x,d,T,rfl,sm,rx,et,q⟩:=q;obtain⟨a,b,rfl,ra,rb⟩:=vals2 r;cases rb;exact kQ I ra (rx.ty sm X.K et) (kf.of X.K et) λtk=>⟨.bl _,H,I.tok tk,rfl,q⟩
  refine aY (de hc (cc ok hg) (by rw [ok.mg];exact hm) (by decide +kernel) ha ∅ ∅ (he _) rfl) λσ H Q q=>?_
  obtain⟨F,ao,Qd,R,q,K⟩:=q;refine⟨F,ao,_,R,q,λv1 H1 F1 x av s1 R1 r1 q1=>?_⟩
  split at q1
  · rename_i d ed
    unfold yt at q1
    split at q1
    · rename_i T eT
      refine⟨F1,v1,d,T,rfl,R1.fr,R1.cw r1 ed,eT,?_⟩;have e1:([U].any (dr T)) = dr T U:=by simp
      rw [e1]at q1;exact K _ H1 F1 (.val (.bl (dr T U))) av s1 R1 (.bl _) q1
    · exact q1.elim
  · exact q1.elim
theorem wq{e:Expr} {t:TV} {u w:Str} {U W:String} {p p2 p3 p4 pos:Pos} {kk:Nat} (h:EO G k S e t) (kf:cE U) (kg:cE W) (hm:G.mg "isinstance" = none) (Dg:G.mg u = none) (Rr:G.mg w = none) (Mx:bootBuiltins u = some (.type U)) (RK:bootBuiltins w = some (.type W)) (Ju:u ≠ "__name__":=by decide) (hd2:(u == ("__debug__":Str)) = false:=by decide) (Ru:w ≠ "__name__":=by decide) (Rf:(w == ("__debug__":Str)) = false:=by decide)
    (hg:S.sc.lookup ("isinstance":Str) = some .globalImplicit:=by rfl) (ye:S.sc.lookup u = some .globalImplicit:=by rfl) (Rn:S.sc.lookup w = some .globalImplicit:=by rfl)
    (he:∀env,starEach [e,.Tuple [.Name u p2,.Name w p3] kk p4] env = (false,eval e env) :: starEach [.Tuple [.Name u p2,.Name w p3] kk p4] env:=by intro _;rfl):EO G k S (.Call (.Name "isinstance" p) [e,.Tuple [.Name u p2,.Name w p3] kk p4] [] pos) (bV (jX [U,W] t)):=.mk λX Y ok=>by
  have hT:PE X (.Tuple [.Name u p2,.Name w p3] kk p4) (GH (cv (tC (.ty U)) (cv (tC (.ty W)) hX))):=vV (bA (je (cc ok ye) (by rw [ok.mg];exact Dg) Mx (show RelV (.ty U) (.type U)from rfl) Ju hd2) (bA (je (cc ok Rn) (by rw [ok.mg];exact Rr) RK (show RelV (.ty W) (.type W)from rfl) Ru Rf) cG rfl) rfl)
  have ha:PA X [e,.Tuple [.Name u p2,.Name w p3] kk p4] (cv (lO Y t) (cv (GH (cv (tC (.ty U)) (cv (tC (.ty W)) hX))) hX)):=bA (h X Y ok) (bA hT cG rfl) (he _);have hc:cb X (.builtin "isinstance") (λvs H Q=>∃F x d T c,vs = [x,.ref c] /\ H c = some (.tup [.ty U,.ty W]) /\ ax F H /\ bP F H x d /\ sR d = some T /\ Q (.bl (dr T U || dr T W)) H):=by
    intro pins s σ H xs us Q I r q;obtain⟨F,x,d,T,c,rfl,Mp,sm,rx,et,q⟩:=q;obtain⟨a,b,rfl,ra,rb⟩:=vals2 r;cases rb;obtain⟨_,its,rv,o,ho,PD,n,hd⟩:=I.bo c _ Mp;obtain⟨z1,z2,rfl,w1,w2⟩:=vals2 rv;cases w1;cases w2;obtain⟨oc,od,Tt,vP⟩:=o;simp only at PD hd;subst PD hd;obtain⟨MT,kx,Mt,nb⟩:=yA I ra (rx.ty sm X.K et) (GW et);refine PySem.W.kia_tup (b:=dr T U || dr T W) kx I.i7 Mt ho ?_ nb λtk=>⟨.bl _,H,I.tok tk,rfl,q⟩
    unfold PySem.W.kitAny;rw [kf.of X.K et];cases dr T U with
    | true=>rfl
    | false =>
      show PySem.W.kitAny X.K (.type T) [.type W] = _;unfold PySem.W.kitAny;rw [kg.of X.K et];cases dr T W with
      | true=>rfl
      | false=>rfl
  refine aY (de hc (cc ok hg) (by rw [ok.mg];exact hm) (by decide +kernel) ha ∅ ∅ (he _) rfl) λσ H Q q=>?_
  obtain⟨F,ao,Qd,R,q,K⟩:=q;refine⟨F,ao,_,R,q,λv1 H1 F1 x av s1 R1 r1 q1=>⟨by show 2 <= sizeLine;decide,λc hc=>?_⟩⟩
  split at q1
  · rename_i d ed
    unfold yt at q1
    split at q1
    · rename_i T eT
      have R2:=R1.lA (o:=.tup [.ty U,.ty W]) hc;refine⟨F1,v1,d,T,c,rfl,aW,R2.fr,R2.cw r1 ed,eT,?_⟩;have e1:([U,W].any (dr T)) = (dr T U || dr T W):=by simp
      rw [e1]at q1;exact K _ _ F1 (.val (.bl _)) av s1 R2 (.bl _) q1
    · exact q1.elim
  · exact q1.elim
end Vc
set_option Elab.async false
set_option linter.all false
set_option maxRecDepth 100000
set_option Elab.async false
set_option linter.all false
set_option maxRecDepth 100000
namespace Vc
open PySem L2
variable [KF]
variable {G:GE} {k:Nat} {S:Stat}
theorem uV{g:j9} {tb:cJ} {De:jq} {items:List D} (I:Nat -> Sd -> Prop)
    (vp:∀i x σ (N:Sd -> Prop),items[i]? = some x -> I i σ -> (∀bO,I (i+1) bO -> N bO) -> g x σ λav=>tb {nx:=N,rt:=De.rt,bk:=De.nx,ct:=N} av)
    (vh:∀σ,I items.length σ -> De.nx σ) {σ:Sd} (h0:I 0 σ):md g tb De items σ:=by
  have key:∀(xs:List D) (i:Nat) (σ:Sd),items.drop i = xs -> i <= items.length -> I i σ -> md g tb De xs σ:=by
    intro xs
    induction xs with
    | nil =>
      intro i σ e l h;have:items.length <= i:=List.drop_eq_nil_iff.mp e;exact vh σ ((Nat.le_antisymm l this) ▸ h)
    | cons x r ih =>
      intro i σ e l h;have hx:items[i]? = some x:=by
        have:=congrArg (·[0]?) e
        simpa using this
      have hr:items.drop (i+1) = r:=by rw [<- List.drop_drop,e];rfl
      have hl:i<items.length:=(List.getElem?_eq_some_iff.mp hx).1;exact vp i x σ _ hx h λbO h'=>ih (i+1) bO hr hl h'
  exact key items 0 σ rfl (Nat.zero_le _) h0
theorem eR{α:Type} {g:j9} {tc:TB} {te:TD} {ja:Sd} {Q:List D -> Prop} (gi:α -> D) (f:α -> Option D) (l:List α)
    (h:∀a ∈ l,∀(A:D -> Prop) (Bn:Prop),(match f a with | some d=>A d | none=>Bn) -> g (gi a) ja λav=>tc av λb bh=>if b = true then te bh λd dX=>mv ja dX /\ A d else mv ja bh /\ Bn)
    (hl:l.length <= sizeLine) (q:Q (l.filterMap f)):eA g tc te ja (l.map gi) [] Q:=by
  have key:∀(l:List α) (acc:List D),(∀a ∈ l,∀(A:D -> Prop) (Bn:Prop),(match f a with | some d=>A d | none=>Bn) -> g (gi a) ja λav=>tc av λb bh=>if b = true then te bh λd dX=>mv ja dX /\ A d else mv ja bh /\ Bn) ->
      acc.length+l.length <= sizeLine -> Q (acc ++ l.filterMap f) -> eA g tc te ja (l.map gi) acc Q:=by
    intro l
    induction l with
    | nil=>intro acc _ _ q;simpa [eA]using q
    | cons a l ih =>
      intro acc h hl q;rw [List.length_cons]at hl;rw [List.map_cons];refine h a (List.mem_cons_self ..) (λd=>acc.length<sizeLine /\ eA g tc te ja (l.map gi) (acc ++ [d]) Q) (eA g tc te ja (l.map gi) acc Q) ?_;have hr:=λy hy=>h y (List.mem_cons_of_mem _ hy);cases e:f a with
      | some d =>
        refine⟨by omega,ih _ hr (by rw [List.length_append,List.length_singleton];omega) ?_⟩
        rw [List.filterMap_cons_some e]at q
        rwa [List.append_assoc]
      | none =>
        refine ih acc hr ⋯ ?_
        rwa [List.filterMap_cons_none e]at q
  exact key l [] h (by simpa using hl) q
theorem bK{α:Type} {g:j9} {te:TD} {ja:Sd} {Q:List D -> Prop} (gi f:α -> D) (l:List α)
    (h:∀a ∈ l,∀(A:D -> Prop),A (f a) -> g (gi a) ja λav=>te av λd dX=>mv ja dX /\ A d)
    (hl:l.length <= sizeLine) (q:Q (l.map f)):eA g cR te ja (l.map gi) [] Q:=
  eR gi (λx=>some (f x)) l (λx hx A Bn ha=>h x hx A ha) hl (by simpa using q)
theorem d5{α:Type} {g:j9} {tb:cJ} {De:jq} (gi:α -> D) (l:List α) (I:Nat -> Sd -> Prop)
    (vp:∀i a σ (N:Sd -> Prop),l[i]? = some a -> I i σ -> (∀bO,I (i+1) bO -> N bO) -> g (gi a) σ λav=>tb {nx:=N,rt:=De.rt,bk:=De.nx,ct:=N} av)
    (vh:∀σ,I l.length σ -> De.nx σ) {σ:Sd} (h0:I 0 σ):md g tb De (l.map gi) σ:=by
  refine uV I (λi x σ N hx hI hN=>?_) (λσ h=>vh σ (by rwa [List.length_map]at h)) h0
  rw [List.getElem?_map]at hx;cases e:l[i]? with
  | none=>rw [e]at hx;cases hx
  | some a=>rw [e]at hx;cases hx;exact vp i a σ N e hI hN
theorem eZ(lo:Int) (n:Nat):sJ lo n = (List.range n).map λi=>.int (lo+(i:Nat)):=rfl
theorem rY{α:Type} (f:α -> D) (xs:List α):iM (xs.map f) = (xs.mapIdx λi x=>(i,x)).map λp=>.tup [.int (p.1:Nat),f p.2]:=by
  unfold iM;apply List.ext_getElem?;intro i;simp only [List.getElem?_mapIdx,List.getElem?_map];cases xs[i]?<;>rfl
theorem lE{α:Type} {xs:List α} {n:Nat} {d:α} (h:xs[n]? = some d):L2.ke xs (n:Int) = some d:=by
  have hn:=(List.getElem?_eq_some_iff.mp h).1;unfold L2.ke L2.qF;rw [if_pos (Int.natCast_nonneg n),if_pos ⋯]
  show xs[(n:Int).toNat]? = some d;rw [Int.toNat_natCast];exact h
theorem bg{xs:List D} {n:Nat} {i:Int} {d:D} {Q:D -> Prop} (e:i = (n:Int)) (h:xs[n]? = some d) (q:Q d):xv (.lst xs) (.int i) Q:=by
  subst e;show(match L2.ke xs (n:Int)with | some d=>Q d | none=>False)
  rw [lE h];exact q
theorem fX{xs:List D} {i:Int} {Q:D -> Prop} (h0:0 <= i) (h1:i<xs.length) (h:∀d ∈ xs,Q d):xv (.lst xs) (.int i) Q:=by
  have hn:i.toNat<xs.length:=by omega
  exact bg (n:=i.toNat) ⋯ (List.getElem?_eq_getElem hn) (h _ (List.getElem_mem hn))
structure cS(G:GE) (x:Str) (st:Stmt) (ps:List Str) (f:Addr) (fd:FuncData):Prop where
  F:xF G.K x x st f fd
  m:G.mg x = some (.ref f)
  b:Binds G.K fd ps []
theorem cS.fg{x:Str} {st:Stmt} {ps N:List Str} {f:Addr} {fd:FuncData} {t:cJ} {sp:b7} (d:cS G x st ps f fd) (hK:G.K = KF.K) (Sc:aV N ps (ai st)) (ht:dZ G k ⟨N,(ai st).names,[],false,false,false,λ_ _=>False⟩ (ay st) t)
    (len:∀ds Q,sp ds Q -> ds.length = ps.length) (body:∀ds Q,sp ds Q -> t {nx:=λ_=>Q (.sh .bt),rt:=λb _=>Q b} (a4 N.length ds)):dn G (k+1) x sp:=
  ⟨f,fd,ps,AG hK d.F Sc ht len body,d.m,d.F.kp,d.b⟩
theorem au{t u:cJ} {De:jq} {σ:Sd} (h:∀N,N = u De -> t {nx:=N,rt:=De.rt,bk:=De.bk,ct:=De.ct} σ):bS t u De σ:=h _ rfl
end Vc
set_option Elab.async false
set_option linter.all false
set_option maxRecDepth 100000
namespace Vc
open PySem L2
variable [KF]
section
open AutoSeq1 (wpAny_loadPart')
theorem oD(l:Addr) (items:Array Value) (n:Nat) (dct:Option Addr) (sl:Array (Option Value)):
    Meets (Builtin.«enumerate.__new__» ⟨[.type "enumerate",.ref l],[]⟩) (λ_ R s=>s.heap.get? l = some {cls:=.type "tuple",dict:=dct,data:=.seq items n,slots:=sl} /\
      R (.ok (.ret (.ref (s.heap.push {cls:=.type "tuple_iterator",data:=.fields #[.ref l,.int 0 0]}).objs.size)))
        {s with heap:=(s.heap.push {cls:=.type "tuple_iterator",data:=.fields #[.ref l,.int 0 0]}).push {cls:=.type "enumerate",data:=.fields #[.none,.bool false,.ref s.heap.objs.size,rawInt 0,.none,.none]}}):=
  .of_wp λprog w A R s h=>by
    obtain⟨hp,g,d,tk,os⟩:=s;obtain⟨hl,h⟩:=h;have RE:=sub_enumerate;have hL:Heap.IsTuple (Shared.heap ⟨hp,g,d,tk,os⟩) l items:=⟨_,hl,rfl,n,rfl⟩
    wp_walk using wpAny_loadPart' hl
    refine wpAny_stack_any λst=>wpAny_pure ?_
    split
    · rename_i c _ _ _ _ _
      cases(c == Value.type "enumerate")
      · wp_walk using wpAny_loadPart' hl,wpAny_pyIter_tuple hL
        exact⟨_,rfl,h⟩
      · wp_walk using wpAny_loadPart' hl,wpAny_pyIter_tuple hL
        exact⟨_,rfl,h⟩
    · wp_walk using wpAny_loadPart' hl,wpAny_pyIter_tuple hL
      exact⟨_,rfl,h⟩
theorem pj{prog:Program} {w:World} {A:Around} {E:Value -> Shared -> Prop} {s:Shared} {l:Addr} {items:Array Value} {Q:Value -> Shared -> Prop} (hL:s.heap.IsTuple l items)
    (h:∀h',IsEnum h' (s.heap.objs.size+1) s.heap.objs.size 0 .none -> iV true h' s.heap.objs.size l 0 -> h'.objs.size = s.heap.objs.size+2 ->
      (∀b o,s.heap.get? b = some o -> h'.get? b = some o) -> Q (.ref (s.heap.objs.size+1)) {s with heap:=h'}):
    wpAny (model prog w) A (call (.type "enumerate") [.ref l]) Q E s:=by
  obtain⟨⟨c,dct,dt,sl⟩,hl,hc,n,hd⟩:=hL
  replace hc:c = .type "tuple":=hc
  replace hd:dt = .seq items n:=hd
  subst hc hd;refine callType_new F.called_enumerate ∅ (F.typeCall_enumerate_1 _) (F.newCall_enumerate_1 _) (λobj=>F.args_object_init_2 obj _) F.entry_enumerate_new
    (oD l items n dct sl) ⟨hl,?_⟩
  have hz:(s.heap.push {cls:=.type "tuple_iterator",data:=.fields #[.ref l,.int 0 0]}).objs.size = s.heap.objs.size+1:=Heap.size_push ..;show _ /\ _;rw [hz];have he:IsEnum ((s.heap.push {cls:=.type "tuple_iterator",data:=.fields #[.ref l,.int 0 0]}).push
      {cls:=.type "enumerate",data:=.fields #[.none,.bool false,.ref s.heap.objs.size,rawInt 0,.none,.none]}) (s.heap.objs.size+1) s.heap.objs.size 0 .none:=by
    have:=Heap.get?_push_size (s.heap.push {cls:=.type "tuple_iterator",data:=.fields #[.ref l,.int 0 0]})
      (o:={cls:=.type "enumerate",data:=.fields #[.none,.bool false,.ref s.heap.objs.size,rawInt 0,.none,.none]}) rfl
    rw [hz]at this;exact this
  refine⟨⟨_,he,rfl⟩,h _ he ⟨_,Heap.get?_push_of_some _ (Heap.get?_push_size _ rfl),rfl,rfl⟩ (by rw [Heap.size_push,hz]) λb o x=>Heap.get?_push_of_some _ (Heap.get?_push_of_some _ x)⟩
end
noncomputable def Dq(K:PySem.W.Frag) (ta:TA):TI:=λσ H R=>ta σ H λvs H1=>∃tp a xs,vs = [.ref a] /\ Sq tp K H1 a xs /\ R (L8 tp K a) H1
theorem vY{X:Cx} {elts:List Expr} {kk:Nat} {iE:Pos} {a:Expr} {ta:TA} {p pos:Pos} (hg:Gl X "enumerate") (hm:X.mg "enumerate" = none) (hv:bootBuiltins "enumerate" = some (.type "enumerate")) (ha:PA X [a] ta) (hs:starEach [a] X.env = [(false,eval a X.env)]):
    PI X (.Tuple elts kk iE) (.Call (.Name "enumerate" p) [a] [] pos) (Dq X.K ta):=by
  intro pins s σ H R I h;refine PyProof.Rows.Call_ (iq I hg hm hv (PyProof.Rows.callWith_type1 (cp (ha pos pins s σ H _ I h) λus s1 ⟨vs,H1,I1,r1,q1⟩=>?_) hs rfl));obtain⟨tp,l,xs,e,q1,q⟩:=q1;subst e;obtain⟨u,rfl,ru⟩:=vals1 r1;cases ru;obtain⟨its,_,p1,ll⟩:=q1.is I1;have fin:∀h',IsEnum h' (s1.heap.objs.size+1) s1.heap.objs.size 0 .none -> iV tp h' s1.heap.objs.size l 0 -> h'.objs.size = s1.heap.objs.size+2 ->
      (∀b o,s1.heap.get? b = some o -> h'.get? b = some o) -> wpAny (model X.prog X.w) X.A (pyIter (.ref (s1.heap.objs.size+1))) (Pr X pins σ (.Tuple elts kk iE) R) X.xe {s1 with heap:=h'}:=λg e1 i1 n1 k1=>by
    refine wpAny_pyIter_enum e1 ?_;refine⟨s1.heap.objs.size+1,[s1.heap.objs.size+1,s1.heap.objs.size],_,_,H1,rfl,I1.kept (t':=s1.toks) k1,
      sQ tp _ _ l (show(s1.heap.objs.size+1:Nat) ≠ s1.heap.objs.size by omega) (Nat.ne_of_lt (Nat.lt_succ_of_lt ll)) (Nat.ne_of_lt ll),⟨⟨_,e1⟩,i1⟩,λb hb=>?_,q⟩
    have yd:s1.heap.objs.size <= b:=by
      simp only [List.mem_cons,List.not_mem_nil,or_false]at hb;rcases hb with rfl | rfl
      · exact Nat.le_succ _
      · exact Nat.le_refl _
    exact I1.rZ yd (I1.bo.fresh yd)
  cases tp with
  | true=>exact pj p1 fin
  | false=>exact call_enumerate_list p1 fin
variable {G:GE} {k:Nat} {S:Stat}
noncomputable def pX(t:fq):fq:=λσ Q=>t σ λds av=>match ds with
  | [.lst xs]=>Q (iM xs) av
  | [.tup xs]=>Q (iM xs) av
  | _=>False
theorem ym{elts:List Expr} {kk:Nat} {iE:Pos} {a:Expr} {t:fq} {p pos:Pos} (h:rH G k S [a] t) (hm:G.mg "enumerate" = none) (hg:S.sc.lookup ("enumerate":Str) = some .globalImplicit:=by rfl) (hs:∀env,starEach [a] env = [(false,eval a env)]:=by intro _;rfl):
    EI G k S (.Tuple elts kk iE) (.Call (.Name "enumerate" p) [a] [] pos) (pX t):=.mk λX Y ok=>mG (vY (cc ok hg) (by rw [ok.mg];exact hm) (by decide +kernel) (h X Y ok) (hs _)) λσ H Q q=>by
  obtain⟨F,ao,Qd,R,q,K⟩:=q;refine⟨F,ao,_,R,q,λvs H1 F1 ds av s1 R1 r1 q1=>?_⟩;have go:∀d xs,LO d = some xs -> aM F1 vs [d] -> Qd (iM xs) av -> ∃tp a us,vs = [.ref a] /\ Sq tp X.K H1 a us /\ Q (L8 tp X.K a) H1:=λd xs ex r1 q1=>by
    cases r1 with
    | cons rx r1 =>
      cases r1;obtain⟨tp,l,us,rfl,a1,b1⟩:=rx.sq ex X.K;exact⟨tp,l,us,rfl,a1 H1 R1.fr,K H1 F1 av _ _ s1 R1 (yu a1 b1) q1⟩
  split at q1
  · exact go _ _ rfl r1 q1
  · exact go _ _ rfl r1 q1
  · exact q1.elim
end Vc
set_option Elab.async false
set_option linter.all false
set_option maxRecDepth 100000
namespace Vs
open PySem PyProof.Rows
noncomputable def R(ρ:Keyed -> Nat) (xs:Array Keyed) (i:Nat):Nat:=match xs[i]? with
  | some p=>ρ p
  | none=>0
section
variable {M:Model} {A:Around} {E:Value -> Shared -> Prop} {s:Shared} {ρ:Keyed -> Nat} {kd:SortKind} {P:Keyed -> Prop} {M7:Array Keyed}
local macro_rules | `(tactic| walk_at "s_tail")=>`(tactic| (funext s3;obtain ⟨r3,n3⟩:=s3;cases r3<;>rfl))
local macro_rules | `(tactic| walk_at "s_t3")=>`(tactic| (congr 1;funext _w;congr 1;walk_at "s_tail"))
local macro_rules | `(tactic| walk_at "s_desc")=>`(tactic| (congr 1;funext _u;congr 1;congr 1;funext s2;obtain ⟨r2,n2,q2⟩:=s2;cases r2 with
  | some r2=>rfl
  | none=>(dsimp only;split;(congr 1;funext _v;walk_at "s_t3");walk_at "s_t3")))
end
end Vs
set_option Elab.async false
set_option linter.all false
set_option maxRecDepth 100000
set_option Elab.async false
set_option linter.all false
set_option maxRecDepth 100000
set_option Elab.async false
set_option linter.all false
set_option maxRecDepth 100000
namespace Vs
open PySem PyProof.Rows
noncomputable def So(ρ:Keyed -> Nat) (l:List Keyed):Prop:=l.Pairwise λx y=>ρ x <= ρ y
structure J(ρ:Keyed -> Nat) (L O A B:List Keyed):Prop where
  o:So ρ O
  a:So ρ A
  b:So ρ B
  oa:∀x ∈ O,∀y ∈ A,ρ x <= ρ y
  ob:∀x ∈ O,∀y ∈ B,ρ x <= ρ y
  p:(O ++ (A ++ B)).Perm L
noncomputable def Good(ρ:Keyed -> Nat) (L r:List Keyed):Prop:=So ρ r /\ r.Perm L
structure Kp(st kq:SortSt):Prop where
  a:arrOf kq = arrOf st
  k:kindOf kq = kindOf st
  p:pendingOf kq = pendingOf st
  f:failedOf kq = failedOf st
end Vs
set_option Elab.async false
set_option linter.all false
set_option maxRecDepth 100000
namespace Vs
open PySem PyProof.Rows
section
variable {M:Model} {Ar:Around} {E:Value -> Shared -> Prop} {s:Shared} {ρ:Keyed -> Nat} {kd:SortKind} {P:Keyed -> Prop} {a b out:Array Keyed} {L:List Keyed} {ia ib:Nat}
noncomputable abbrev GS:=Option (Array Keyed) × Array Keyed × Nat × Nat × Nat × Nat × Nat
noncomputable def V(ρ:Keyed -> Nat) (L:List Keyed) (a b out:Array Keyed) (ia ib:Nat):Prop:=J ρ L out.toList (a.toList.drop ia) (b.toList.drop ib)
noncomputable def Left(ρ:Keyed -> Nat) (L:List Keyed) (a b:Array Keyed) (t:Nat) (out:Array Keyed) (ia ib:Nat):Prop:=V ρ L a b out ia ib /\ ia+1<a.size /\ ib<b.size /\ t <= ia+ib
noncomputable def PG(ρ:Keyed -> Nat) (L:List Keyed) (a b:Array Keyed) (t:Nat) (MM:SortSt) (r:ForInStep GS) (st:SortSt):Prop:=Kp MM st /\ match r with
  | .done c=>(∃arr,c.1 = some arr /\ Good ρ L arr.toList) \/ (c.1 = none /\ Left ρ L a b t c.2.1 c.2.2.1 c.2.2.2.1)
  | .yield c=>c.1 = none /\ Left ρ L a b t c.2.1 c.2.2.1 c.2.2.2.1
noncomputable abbrev OS:=Option (Array Keyed) × Array Keyed × Nat × Nat × Nat
noncomputable def PO(ρ:Keyed -> Nat) (L:List Keyed) (a b:Array Keyed) (t:Nat) (MM:SortSt) (r:ForInStep OS) (st:SortSt):Prop:=match r with
  | .done c=>Kp MM st /\ ∃arr,c.1 = some arr /\ Good ρ L arr.toList
  | .yield c=>Kp MM st /\ c.1 = none /\ Left ρ L a b t c.2.1 c.2.2.1 c.2.2.2.1
end
end Vs
set_option Elab.async false
set_option linter.all false
set_option maxRecDepth 100000
namespace Vs
open PySem PyProof.Rows
structure H(ρ:Keyed -> Nat) (L O A B:List Keyed):Prop where
  o:So ρ O
  a:So ρ A
  b:So ρ B
  oa:∀x ∈ A,∀y ∈ O,ρ x <= ρ y
  ob:∀x ∈ B,∀y ∈ O,ρ x <= ρ y
  p:(A ++ (B ++ O)).Perm L
section
variable {M:Model} {Ar:Around} {E:Value -> Shared -> Prop} {s:Shared} {ρ:Keyed -> Nat} {kd:SortKind} {P:Keyed -> Prop} {a b out:Array Keyed} {L:List Keyed} {na nb:Nat}
noncomputable def W(ρ:Keyed -> Nat) (L:List Keyed) (a b out:Array Keyed) (na nb:Nat):Prop:=H ρ L out.toList.reverse (a.toList.take na) (b.toList.take nb)
end
end Vs
set_option Elab.async false
set_option linter.all false
set_option maxRecDepth 100000
set_option Elab.async false
set_option linter.all false
set_option maxRecDepth 100000
namespace Vs
open PySem PyProof.Rows
section
variable {M:Model} {Ar:Around} {E:Value -> Shared -> Prop} {s:Shared} {ρ:Keyed -> Nat} {kd:SortKind} {P:Keyed -> Prop} {M7:Array Keyed}
noncomputable def mI(lo n:Nat):StateT SortSt Sem (ForInStep (Option Unit × Nat)):=do
  modify λs=>setPending s ((pendingOf s).push (lo,n,0))
  pure (ForInStep.yield (none,lo+n))
noncomputable def kT(size pw:Nat):StateT SortSt Sem (Option Unit × Unit):=
  forIn [:size] ((none,()):Option Unit × Unit) λ_ _=>do
    let x <- get
    match(if(pendingOf x).size>1 then(pendingOf x)[(pendingOf x).size-2]? else none)with
    | some (_,_,Kt) =>
      if Kt <= pw then pure (ForInStep.done (none,()))
      else do
        let r <- mergeAt' ((pendingOf x).size-2)
        if(!r) = true then pure (ForInStep.done (some (),()))else pure (ForInStep.yield (none,()))
    | _=>pure (ForInStep.done (none,()))
noncomputable def zy(size lo n:Nat):StateT SortSt Sem (ForInStep (Option Unit × Nat)):=do
  let x <- get
  match(pendingOf x).back? with
  | some (s1,n1,_)=>do
    let r <- kT size (power' size (2*s1+n1) (2*s1+n1+n1+n) size)
    match r.fst with
    | some r=>pure (ForInStep.done (some r,lo))
    | none=>do
      modify λs=>setPending s ((pendingOf s).modify ((pendingOf s).size-1) λx=>(x.fst,x.2.fst,power' size (2*s1+n1) (2*s1+n1+n1+n) size))
      mI lo n
  | _=>mI lo n
local macro_rules | `(tactic| walk_at "s_rest")=>`(tactic| (unfold zy kT mI;congr 1;funext x;cases e:(pendingOf x).back? with
  | none=>rfl
  | some y=>(obtain⟨s1,n1,p1⟩:=y;dsimp only;congr 1;funext r;obtain⟨r1,r2⟩:=r;cases r1<;>rfl)))
end
end Vs
set_option Elab.async false
set_option linter.all false
set_option maxRecDepth 100000
set_option Elab.async false
set_option linter.all false
set_option maxRecDepth 100000
set_option Elab.async false
set_option linter.all false
set_option maxRecDepth 100000
namespace Vc
open PySem L2
variable [KF]
variable {G:GE} {k:Nat} {S:Stat}
noncomputable def oq(i:Nat) (j:Int) (d:D) (σ:Sd) (Q:Sd -> Prop):Prop:=match σ[i]? with
  | some (some (.own xs))=>match qF xs.length j with
    | some m=>Q (σ.set i (some (.own (xs.set m d))))
    | none=>False
  | _=>False
noncomputable def wJ(i:Nat) (tx:TV) (te:TD):cJ:=λDe σ=>te σ λd av=>kP av i /\ tx av λy bh=>match cw bh y with
  | some (.int j)=>oq i j d bh De.nx
  | _=>False
theorem zc{X:Cx} {st:Stmt} {t t':TS} (h:PS X st t) (i:∀Dn σ H,t' Dn σ H -> t Dn σ H):PS X st t':=λpins s σ H Dn I q=>h pins s σ H Dn I (i Dn σ H q)
theorem FU(i:Nat) {x:Str} {ix e:Expr} {tx:TV} {te:TD} {pos eH iu:Pos} (he:ED G k S e te) (hx:EO G k S ix tx) (ho:EO G k S (.Name x iu) (af i))
    (hs:∀line env,swapsWithSole [.Subscript (.Name x iu) ix eH] e line env = pure false:=by intro _ _;rfl) (hw:∀env,swappedStores [.Subscript (.Name x iu) ix eH] e env = pure none:=by intro _;rfl)
    (h1:∀env,(assignEach [.Subscript (.Name x iu) ix eH] env).map (·.2) = [assign (.Subscript (.Name x iu) ix eH) env]:=by intro _;rfl)
    (ha:∀env v,assign (.Subscript (.Name x iu) ix eH) env v = (do
      let ov <- holding [v] (eval (.Name x iu) env)
      let iv <- holding [v,ov] (eval ix env)
      standAt eH
      holding [v,ov,iv] (setItem ov iv v)
      release [v,ov,iv] []):=by intro _ _;rfl):ES G k S (.Assign [.Subscript (.Name x iu) ix eH] e pos) (wJ i tx te):=.mk λX Y ok =>
  zc (wc (he X Y ok) (vW (ho X Y ok) (hx X Y ok) set_list (ha _)) (hs _ _) (hw _) (h1 _)) λDn σ H q=>by
    obtain⟨F,ao,De,R,q,K⟩:=q;refine⟨F,ao,_,R,q,λv H1 F1 d av s1 R1 r1 q1=>?_⟩;obtain⟨⟨ys,e0⟩,q1⟩:=q1;refine⟨F1,av,λov bh=>ov = .var i /\ bh = av,R1,?_,λv2 H2 F2 ov bh s2 R2 r2 q2=>?_⟩
    · unfold af;rw [e0];exact⟨rfl,rfl⟩
    · obtain⟨rfl,rfl⟩:=q2
      have r2:σ[i]? = some (some v2):=r2;refine⟨F2,bh,_,R2,q1,λv3 H3 F3 y dX s3 R3 r3 q3=>?_⟩
      split at q3
      · rename_i j ej
        unfold oq at q3
        split at q3
        · rename_i xs ex
          split at q3
          · rename_i m em
            obtain⟨a,vs,w1,w2,w3,w4,w5⟩:=R3.own i xs ex;rw [r2]at w1;cases w1;have rj:=(R3.cw r3 ej).int;subst rj;refine⟨a,vs,j,m,rfl,rfl,w2,by rw [w3.length];exact em,?_⟩
            exact K.nx _ _ F3 _ ((s1.trans s2).trans s3) (R3.write ex r2 (aM.set ((r1.mono s2).mono s3) m w3)) q3
          · exact q3.elim
        · exact q3.elim
      · exact q3.elim
end Vc
set_option Elab.async false
set_option linter.all false
set_option maxRecDepth 100000
namespace Vc
open PySem L2
variable [KF]
variable {G:GE} {k:Nat} {S:Stat}
noncomputable def aG(S:Stat) (scope:Scope) (N':List Str) (m:Nat):Stat:=⟨N',dh scope.names S.sc,[m],true,false,false,λ_ _=>False⟩
end Vc
set_option Elab.async false
set_option linter.all false
set_option maxRecDepth 100000
set_option Elab.async false
set_option linter.all false
set_option maxRecDepth 100000
set_option Elab.async false
set_option linter.all false
set_option maxRecDepth 100000
namespace Vc
open PySem L2
variable [KF]
variable {G:GE} {k:Nat} {S:Stat}
structure M1(H H':Hp) (p:Addr) (as:List Addr) (cs:List Int):Prop where
  same:ax H H'
  list:H' p = some (.lst (as.map V.ref))
  fresh:∀b ∈ p :: as,H b = none
  nd:(p :: as).Nodup
  len:as.length = cs.length
  Tv:∀(i:Nat) (a:Addr) (c:Int),as[i]? = some a -> cs[i]? = some c -> H' a = some (.lst [.int c,.int 0])
end Vc
set_option Elab.async false
set_option linter.all false
set_option maxRecDepth 100000
namespace Vc
open PySem L2
variable [KF]
variable {G:GE} {k:Nat} {S:Stat}
noncomputable def AR(Y:bM):TS:=λDn σ H=>∃F ns,RS Y F [some (.sh (.lst (List.map D.int ns)))] σ H /\ Y.H0 = H /\ (Y.io = [] /\ Y.ob = []) /\ ns.length <= 63 /\ ∀p as cs H',M1 H H' p as cs -> Dn.rt (.ref p) H'
structure Aa(G:GE) (k:Nat) (S:Stat) (b:List Stmt) :Prop where
  run:∀X Y,cX X G k S Y -> nu X b (AR Y)
instance {G:GE} {k:Nat} {S:Stat} {b:List Stmt} :CoeFun (Aa G k S b) λ_=>∀X Y,cX X G k S Y -> nu X b (AR Y):=⟨Aa.run⟩
end Vc
set_option Elab.async false
set_option linter.all false
set_option maxRecDepth 100000
namespace Vc
open PySem L2
variable [KF]
variable {G:GE} {k:Nat} {S:Stat}
theorem JF(a b:D) (Q:D -> Prop):xv (.lst [a,b]) (.int 0) Q = Q a:=rfl
theorem JG(a b:D) (Q:D -> Prop):xv (.lst [a,b]) (.int 1) Q = Q b:=rfl
theorem Dy:qF 2 0 = some 0:=rfl
theorem Dz:qF 2 1 = some 1:=rfl
end Vc
set_option Elab.async false
set_option linter.all false
set_option maxRecDepth 100000
set_option Elab.async false
set_option linter.all false
set_option maxRecDepth 100000
namespace Vc
open PySem L2
variable [KF]
variable {G:GE} {k:Nat} {S:Stat}
noncomputable def zM(f f':D -> D -> (Bool -> Prop) -> Prop) (ta tb tc:TV):TB:=λσ Q=>ta σ λx av=>tb av λy bh=>match cw bh x,cw bh y with
  | some a,some b=>f a b λk=>if k = true then tc bh λz dX=>(match cw dX y,cw dX z with
    | some b',some c=>f' b' c λk2=>Q k2 dX
    | _,_=>False)else Q false bh
  | _,_=>False
theorem nH{Y:bM} {r r':R2} {f f':D -> D -> (Bool -> Prop) -> Prop} (hs:eJ r f) (Dm:eJ r' f') {ta tb tc:TV} {σ:St} {H:Hp} {Q:VK} {F:Hp} {ao:Sd} {Qd:Bool -> Sd -> Prop} (R:RS Y F ao σ H) (q:zM f f' ta tb tc ao Qd)
    (K:∀b H' F' aQ,ax F F' -> RS Y F' aQ σ H' -> Qd b aQ -> Q (.bl b) H'):wH r r' (lO Y ta) (lO Y tb) (lO Y tc) σ H Q:=by
  refine⟨F,ao,_,R,q,λv1 H1 F1 x av s1 R1 r1 q1=>?_⟩;refine⟨F1,av,_,R1,q1,λv2 H2 F2 y bh s2 R2 r2 q2=>?_⟩
  split at q2
  · rename_i a b ea eb
    refine hs Y F2 H2 bh σ v1 v2 a b _ _ R2 (R2.cw (r1.mono s2) ea) (R2.cw r2 eb) q2 λbb q3=>⟨bb,rfl,?_⟩;cases bb with
    | false=>exact K false H2 F2 bh (s1.trans s2) R2 q3
    | true =>
      refine⟨F2,bh,_,R2,q3,λv3 H3 F3 z dX s3 R3 r3 q4=>?_⟩
      split at q4
      · rename_i b' c QR ec
        exact Dm Y F3 H3 dX σ v2 v3 b' c _ _ R3 (R3.cw (r2.mono s3) QR) (R3.cw r3 ec) q4 λk2 q5=>K k2 H3 F3 dX ((s1.trans s2).trans s3) R3 q5
      · exact q4.elim
  · exact q2.elim
theorem FO{op Ez:CmpOp} {f f':D -> D -> (Bool -> Prop) -> Prop} (h:gd G k S op f) (h':gd G k S Ez f') {a b c:Expr} {ta tb tc:TV} {pos:Pos} (ha:EO G k S a ta) (hb:EO G k S b tb) (hc:EO G k S c tc)
    (hm:lastMarks [op,Ez] [b,c] = false:=by with_unfolding_all rfl):EB G k S (.Compare a [op,Ez] [b,c] pos) (zM f f' ta tb tc):=.mk λX Y ok=>by
  obtain⟨r,ho,hs⟩:=h;obtain⟨r',vn,Dm⟩:=h';refine mH (wj (ho X Y ok) (vn X Y ok) (ha X Y ok) (hb X Y ok) (hc X Y ok) hm) λσ H Q q=>?_;obtain⟨F,ao,Qd,R,q,K⟩:=q;exact nH hs Dm R q λb H' F' aQ s R' q'=>⟨b,rfl,K b H' F' aQ s R' q'⟩
noncomputable def GI(te:TD) (g:j9):cJ:=λDe σ=>te σ λd av=>g d av De.nx
theorem Le{tg e:Expr} {te:TD} {g:j9} {pos:Pos} (he:ED G k S e te) (hg:EG G k S tg g) (hs:∀line env,swapsWithSole [tg] e line env = pure false:=by intro _ _;rfl) (hw:∀env,swappedStores [tg] e env = pure none:=by intro _;rfl)
    (h1:∀env,(assignEach [tg] env).map (·.2) = [assign tg env]:=by intro _;rfl):ES G k S (.Assign [tg] e pos) (GI te g):=.mk λX Y ok=>eY (L2.wc (he X Y ok) (hg X Y ok) (hs _ _) (hw _) (h1 _)) λDn σ H q=>by
  obtain⟨F,ao,De,R,q,K⟩:=q;refine⟨F,ao,_,R,q,λv1 H1 F1 d av s1 R1 r1 q1=>⟨F1,av,d,_,R1,r1,q1,λbO H' F' aQ s' R' q'=>K.nx bO H' F' aQ (s1.trans s') R' q'⟩⟩
noncomputable def inD(x:D) (xs:List D):Bool:=xs.any λy=>cT y x
noncomputable def Mz:D -> D -> (Bool -> Prop) -> Prop
  | x,.lst xs,Q=>(bL 8 x = true /\ bL 8 (.lst xs) = true) /\ Q (inD x xs)
  | x,.tup xs,Q=>(bL 8 x = true /\ bL 8 (.tup xs) = true) /\ Q (inD x xs)
  | _,_,_=>False
noncomputable def K3(neg:Bool):R2:=λv u H Q=>∃F x y xs,ax F H /\ bP F H v x /\ bP F H u y /\ (y = .lst xs \/ y = .tup xs) /\ bL 8 x = true /\ bL 8 y = true /\ Q (.bl (if neg then !inD x xs else inD x xs)) H
theorem iD{x:D} (hx:bL 8 x = true):∀(xs:List D),xs.all (bL 7) = true -> (cY xs).any (λy=>PyData.eqv y (toPy x)) = inD x xs
  | [],_=>rfl
  | y :: xs,h=>by
    rw [List.all_cons,Bool.and_eq_true]at h;show(PyData.eqv (toPy y) (toPy x) || (cY xs).any _) = (cT y x || inD x xs)
    rw [iD hx xs h.2,pv 7 8 y x h.1 hx]
theorem EE{X:Cx} (hu:X.A.units+64<cLine):eN X (compareOp .In) (K3 false):=by
  intro pins s σ H v u v' u' Q I rv ru h;obtain⟨F,x,y,xs,sm,rx,ry,hy,ox,oy,q⟩:=h;obtain⟨as,r1⟩:=rx.reads I.bo sm rv ox;obtain⟨bs,r2⟩:=ry.reads I.bo sm ru oy;have hx:=jd 8 x ox;rcases hy with rfl | rfl
  · have KC:xs.all (bL 7) = true:=oy
    have hl:=dc (n:=7) (jd 7) xs KC;exact SeqAt.in_list_reads r2 r1 hl.1 hx.1 (by have:=Nat.min_le_right (PyData.depthAll (cY xs)) (toPy x).depth;omega) ⟨.bl _,H,I,rfl,by rw [iD ox xs KC];exact q⟩
  · have KC:xs.all (bL 7) = true:=oy
    have hl:=dc (n:=7) (jd 7) xs KC;exact SeqAt.in_tuple_reads r2 r1 hl.1 hx.1 (by have:=Nat.min_le_right (PyData.depthAll (cY xs)) (toPy x).depth;omega) ⟨.bl _,H,I,rfl,by rw [iD ox xs KC];exact q⟩
theorem M9:gd G k S .In Mz:=⟨K3 false,λX Y ok=>EE ok.units,λY F H ao σ v u x y Qd Q R rx ry q K=>by
  unfold Mz at q
  split at q
  · exact⟨F,_,_,_,R.fr,rx,ry,.inl rfl,q.1.1,q.1.2,K _ q.2⟩
  · exact⟨F,_,_,_,R.fr,rx,ry,.inr rfl,q.1.1,q.1.2,K _ q.2⟩
  · exact q.elim⟩
end Vc
set_option Elab.async false
set_option linter.all false
set_option maxRecDepth 100000
set_option Elab.async false
set_option linter.all false
set_option maxRecDepth 100000
set_option Elab.async false
set_option linter.all false
set_option maxRecDepth 100000
namespace Vc
open PySem L2 PySem.Spec PyProof.Rows PySem.SeqAt PySem.MeetsSeq PySem.MeetsSeq2 PySem.MeetsSeq3
section
variable {prog:Program} {w:World} {A:Around} {E:Value -> Shared -> Prop} {s:Shared}
theorem gu{t sl:Addr} {items:Array Value} {vl vu:Value} {lo hi:Option Int} {Q:Value -> Shared -> Prop} (ht:IsTup s.heap t items) (hs:s.heap.IsSliceOf sl vl vu .none) (pl:IsPart vl lo) (pu:IsPart vu hi)
    (hw:HT.cn items.size 0 lo = 0 /\ HT.cn items.size items.size hi = items.size)
    (h:Q (.ref t) s):wpAny (model prog w) A (getItem (.ref t) (.ref sl)) Q E s:=by
  obtain⟨os,Dj,Mq,Jn⟩:=id hs;have NI:s.TypeIs (.ref sl) "slice":=⟨os,Dj,Mq⟩;unfold getItem
  try with_reducible refine wpAny_holding ?_
  first | refine wpAny_bind (wpAny_pure ?_) | skip
  refine wpAny_bind (wpAny_sequenceKey ht.typeIs ∅ ?_)
  refine wpAny_bind (wpAny_callSpecial?_slot (name:=Str.ofString "__getitem__") ht.typeIs PyProof.Rows.slot_tuple_getitem
    (wpAny_call_entry PyProof.Rows.slot_tuple_getitem ht.typeIs entry_tuple_getitem ?_ (args_tuple_getitem _ _)))
  show wpAny _ _ (Builtin.Tuple.tupleItemsOf (.ref t) >>= _) _ _ s;refine wpAny_bind (tupleItemsOf_ ht ?_);refine wpAny_bind (wpAny_typeOf NI ?_);rw [if_pos ∅]
  refine wpAny_bind (HT.dQ hs pl pu ?_);have Ol:((((HT.cn items.size 0 lo:Nat):Int) == 0 && (1:Int) == 1 && (HT.cn items.size items.size hi-HT.cn items.size 0 lo) == items.size) = true):=by
    rw [hw.1,hw.2,Nat.sub_zero];simp
  show wpAny _ _ (if(((HT.cn items.size 0 lo:Nat):Int) == 0 && (1:Int) == 1 && (HT.cn items.size items.size hi-HT.cn items.size 0 lo) == items.size) = true then _ else _) _ _ s
  rw [if_pos Ol];refine wpAny_bind (m:=Builtin.Tuple.tupleIsExact (.ref t)) ?_;unfold Builtin.Tuple.tupleIsExact;refine wpAny_bind (wpAny_typeOf ht.typeIs (wpAny_pure ?_));rw [if_pos ∅]
  refine wpAny_bind (wpAny_rule ?_);exact wpAny_pure ⟨_,rfl,wpAny_pure h⟩
end
section
variable {X:Cx}
theorem Gi:sX X (λx lo hi H Q=>∃a xs,x = .ref a /\ iW X.K H a xs /\ (HT.cn xs.length 0 lo = 0 /\ HT.cn xs.length xs.length hi = xs.length) /\ Q (.ref a) H):=by
  intro pins s σ H x v vl vu lo hi sl Q I rx hs pl pu h;obtain⟨a,xs,rfl,hx,hw,q⟩:=h;cases rx;obtain⟨its,r,ht,hz⟩:=I.tuple hx;have hlen:its.toArray.size = xs.length:=by rw [List.size_toArray];exact r.length.symm
  refine⟨"tuple",_,PyProof.Rows.slot_tuple_getitem.lookup,ht.typeIs,?_⟩;exact gu ht hs pl pu (by rw [hlen];exact hw) ⟨.ref a,H,I,rfl,q⟩
end
variable [KF]
variable {G:GE} {k:Nat} {S:Stat}
theorem xR{α:Type} {xs:List α} {lo hi:Option Int} (h:HT.cn xs.length 0 lo = 0 /\ HT.cn xs.length xs.length hi = xs.length):cut xs lo hi = xs:=by
  unfold cut;rw [h.1,h.2,List.drop_zero,Nat.sub_zero,List.take_of_length_le (Nat.le_refl _)]
end Vc
set_option Elab.async false
set_option linter.all false
set_option maxRecDepth 100000
namespace Vs
open PySem
noncomputable def iK{α:Type} (a:Addr) (t:Sem α):Prop:=∀(M:Model) (Γ:Ctx) (Q:α -> Pos -> Shared -> Prop) (E:Value -> Pos -> Shared -> Prop) (p:Pos) (s:Shared),Vc.F2 a s.heap -> PySem.Sem.wp M Γ t Q E p s -> PySem.Sem.wp M Γ t (λx p s=>Vc.F2 a s.heap /\ Q x p s) (λe p s=>Vc.F2 a s.heap /\ E e p s) p s
section
variable {α β:Type} {a:Addr}
theorem bz(x:α):iK a (pure x:Sem α):=λM Γ Q E p s f h=>⟨f,h⟩
theorem cN(w:String):iK a (unsupported w:Sem α):=λM Γ Q E p s f h=>h.elim
theorem bc{m:Sem α} {k:α -> Sem β} (h1:iK a m) (h2:∀x,iK a (k x)):iK a (m >>= k):=λM Γ Q E p s f h=>by
  rw [PySem.Sem.wp_bind']at h ⊢;refine PySem.Sem.wp_mono M Γ m (λx p' s' z=>?_) (λ_ _ _ z=>z) p s (h1 M Γ _ _ p s f h);exact h2 x M Γ Q E p' s' z.1 z.2
theorem mq(b:Addr):iK a (load b):=λM Γ Q E p s f ⟨o,e,h⟩=>⟨o,e,f,h⟩
theorem jD:iK a stack:=λM Γ Q E p s f h=>⟨f,h⟩
theorem vB(o:Obj):iK a (alloc o):=λM Γ Q E p s f h=>by
  obtain⟨u,vs,e,r⟩:=f;exact⟨⟨u,vs,Heap.get?_push_of_some _ e,r⟩,h⟩
theorem kR(b:Addr) {g:Obj -> Obj} (hg:∀o vs,o.data = .fields vs -> ∃ws,(g o).data = .fields ws /\ ws[2]? = vs[2]?):iK a (update b g):=λM Γ Q E p s f ⟨hs,h⟩=>by
  refine⟨hs,?_,h⟩;obtain⟨o,vs,e,d,v⟩:=f
  by_cases z:b = a
  · subst z
    obtain⟨ws,d2,v2⟩:=hg o vs d;exact⟨_,ws,Heap.get?_update_self _ e (by rw [Obj.isFreed_of_fields d2]),d2,v2.trans v⟩
  · exact⟨o,vs,(Heap.get?_update_other _ _ z).trans e,d,v⟩
theorem dz{c:Prop} [Decidable c] {x y:Sem α} (h1:iK a x) (h2:iK a y):iK a (if c then x else y):=by split<;>assumption
theorem oz(v:Value):iK a (fieldsOf v):=by
  unfold fieldsOf
  split
  · refine bc (mq _) λo=>?_
    split
    · exact bz _
    · exact cN _
  · exact cN _
theorem gD(v:Value) (i:Nat):iK a (field v i):=by
  unfold field;refine bc (oz v) λvs=>?_
  split
  · exact bz _
  · exact cN _
theorem eV(v:Value) {i:Nat} (hi:i ≠ 2) (x:Value):iK a (setField v i x):=by
  unfold setField
  split
  · unfold updateField
    refine bc (mq _) λo=>?_
    split
    · refine dz (kR _ λo vs d=>⟨_,Obj.data_mapFields d _,?_⟩) (cN _)
      rw [Array.getElem?_setIfInBounds_ne hi]
    · exact cN _
  · exact cN _
theorem d7(e:Value) (f:Option Addr):iK a (setFlight e f):=by
  unfold setFlight;refine bc (gD _ _) λtb=>?_;refine dz (eV _ ∅ _) (bz _)
theorem oA:∀l:List Env,iK a (readyFrames l)
  | []=>by unfold readyFrames;exact bz _
  | env :: outer=>by
    unfold readyFrames
    split
    · refine bc (mq _) λo=>dz (bz _) ?_
      refine bc ?_ λim=>bc ?_ λback=>bc (kR _ λo vs d=>⟨vs,d,rfl⟩) λ_=>oA outer
      · unfold behindIsImport
        refine dz (bz _) ?_;refine dz (bz _) ?_;exact bc (gD _ _) λ_=>bz _
      · unfold keptBack
        split
        · refine dz (bz _) ?_
          refine bc ?_ λ_=>bz _;unfold underTheClaimsCaller;exact bc jD λ_=>bz _
        · exact bz _
    · exact cN _
theorem pI(env:Env):iK a (frameOf env):=by
  unfold frameOf;refine bc ?_ λl=>bc ?_ λr=>?_
  · unfold frameEnvs
    exact bc jD λ_=>bz _
  · unfold frameObject
    split
    · exact bz _
    · exact bc (oA _) λ_=>bz _
  · split
    · exact bz _
    · exact cN _
theorem mr(ty:String) (vs:List Value):iK a (newFields ty vs):=by
  unfold newFields newObj;have step:iK a (newObjAsIs (.type ty) (.fields vs.toArray)):=by
    unfold newObjAsIs;exact bc (vB _) λ_=>bz _
  dsimp only
  first
    | exact dz (cN _) step
    | exact bc (dz (cN _) (bz _)) λ_=>step
    | (split<;>first | exact cN _ | exact step | exact bc (cN _) λ_=>step)
theorem vC(f:Addr) (b:Bool):iK a (entryPlaceOf f b):=by
  unfold entryPlaceOf;refine bc jD λl=>?_
  split<;>exact bz _
theorem qI(e:Value) (env:Env):iK a (noteFrame e env):=by
  unfold noteFrame
  split
  · rename_i f _
    refine bc (gD _ _) λhead=>?_;have go:iK a (do setField e 1 (<- EntryCells.newEntry head (<- frameOf env) .none (rawInt f) .none (<- entryPlaceOf f (head != .none))):Sem Unit):=by
      refine bc (pI _) λ_=>bc (vC _ _) λ_=>bc ?_ λ_=>eV _ ∅ _
      unfold EntryCells.newEntry;exact mr _ _
    refine dz ?_ go;refine bc (gD _ _) λ_=>dz (bz _) ?_;exact bc (eV _ ∅ _) λ_=>go
  · exact cN _
theorem jC(env:Env) (e:Value):iK a (leaving env e):=by
  unfold leaving;exact bc (qI _ _) λ_=>d7 _ _
theorem iK.any{t:Sem α} (k:iK a t) {M:Model} {A:Around} {Q:α -> Shared -> Prop} {E:Value -> Shared -> Prop} {s:Shared} (f:Vc.F2 a s.heap) (h:wpAny M A t Q E s):wpAny M A t (λx s=>Vc.F2 a s.heap /\ Q x s) (λe s=>Vc.F2 a s.heap /\ E e s) s:=
  λΓ p RM=>k M Γ _ _ p s f (h Γ p RM)
end
end Vs
namespace Vc
open PySem L2
variable [KF]
structure qe(h:Heap) (a T:Addr) (c:Str):Prop where
  ex:∃o vs a0,h.get? a = some o /\ o.cls = .ref (KF.cls c) /\ o.data = .fields vs /\ vs[0]? = some a0 /\ vs[1]? = some (.ref T)
  tb:∃o ts,h.get? T = some o /\ o.data = .fields ts /\ ts[3]? = some .none
  f2:F2 a h
structure Moved(fs:List Addr) (a T:Addr) (h h':Heap) (T':Addr):Prop where
  keep:∀b o,h.get? b = some o -> b ≠ a -> b ≠ T -> b ∉ fs -> h'.get? b = some o
  slot:∀b o,h.get? b = some o -> b ∈ fs -> ∃sl,h'.get? b = some {o with slots:=sl}
  ne:T' ≠ a
  new:h.get? T' = none \/ T' = T
theorem gE{h h' base:Heap} {l l':List Env} {a T:Addr} {c:Str} {a0:Value} (ff:h.FunFrames base l)
    (x:Heap.FlyingW (PySem.W.hideAll h (a :: T :: gq l)) l' a (.ref (KF.cls c)) a0 h') (u:h.UpToSlots h') (f2:F2 a h'):∃T',Moved (gq l) a T h h' T' /\ qe h' a T' c:=by
  obtain⟨x1,x2,x3,oe,vs,T',oT,ts,y1,⟨y2,y3⟩,y4,y5,y6,y7,y8,y9,SY⟩:=x;have sl:∀b o,h.get? b = some o -> b ∈ gq l -> ∃sl,h'.get? b = some {o with slots:=sl}:=λb o e hb=>by
    obtain⟨_,o',e',d⟩:=ff.mem hb;rw [e]at e';cases e';exact u b o e d
  refine⟨T',⟨λb o e n1 n2 n3=>x1 b o (PySem.W.hideAll_get _ e λz=>?_),sl,y7,?_⟩,⟨oe,vs,a0,y1,y2,y4,y3,y5⟩,⟨oT,ts,y8,y9,SY⟩,f2⟩
  · rcases List.mem_cons.mp z with z | z
    · exact n1 z
    · rcases List.mem_cons.mp z with z | z
      · exact n2 z
      · exact n3 z
  · cases e:h.get? T' with
    | none=>exact .inl rfl
    | some o =>
      by_cases z:T' = T
      · exact .inr z
      by_cases zf:T' ∈ gq l
      · obtain⟨_,o',e',d⟩:=ff.mem zf
        obtain⟨s2,e2⟩:=sl T' o' e' zf;rw [y8]at e2;cases e2;exact absurd y9 (d _)
      · have:=PySem.W.hideAll_get (a :: T :: gq l) e λw=>by
          rcases List.mem_cons.mp w with w | w
          · exact y7 w
          · rcases List.mem_cons.mp w with w | w
            · exact z w
            · exact zf w
        rw [y6]at this;cases this
theorem ik{h base:Heap} {l:List Env} {a T:Addr} {c:Str} (ff:h.FunFrames base l) (f:qe h a T c) (ne:a ≠ T):∃a0,Heap.FlyingW (PySem.W.hideAll h (a :: T :: gq l)) l a (.ref (KF.cls c)) a0 h:=by
  obtain⟨o,vs,a0,e1,e2,e3,e4,e5⟩:=f.ex;obtain⟨oT,ts,t1,t2,t3⟩:=f.tb;exact⟨a0,λb o e=>PySem.W.of_hideAll _ e,PySem.W.hideAll_none _ (.head _),PySem.W.funFrames_hide ff λenv he b hb=>.tail _ (.tail _ (List.mem_filterMap.mpr ⟨env,he,hb⟩)),
    o,vs,T,oT,ts,e1,⟨e2,e4⟩,e3,e5,PySem.W.hideAll_none _ (.tail _ (.head _)),Ne.symm ne,t1,t2,t3⟩
section
variable {M:Model} {A:Around} {E:Value -> Shared -> Prop} {s:Shared} {base:Heap} {env:Env} {outer:List Env} {L a T:Addr} {c:Str} {Q:Unit -> Shared -> Prop}
theorem sk(o7:A.frames = some (env :: outer)) (hf:env.frame = some L) (ff:s.heap.FunFrames base (env :: outer)) (f:qe s.heap a T c) (ne:a ≠ T)
    (q:∀h' T',Moved (gq (env :: outer)) a T s.heap h' T' -> qe h' a T' c -> Q () {s with heap:=h'}):wpAny M A (leaving env (.ref a)) Q E s:=by
  obtain⟨a0,x⟩:=ik ff f ne;refine wpAny_mono ((Vs.jC env (.ref a)).any f.f2 (wpAny_leaves_onW (Q:=λ_ s'=>∃h',s' = {s with heap:=h'} /\ Heap.FlyingW _ outer a (.ref (KF.cls c)) a0 h' /\ s.heap.UpToSlots h') o7 hf x λh' y u=>⟨h',rfl,y,u⟩)) (λ_ s' z=>?_) λ_ _ z=>z.2
  obtain⟨f2,h',rfl,y,u⟩:=z;obtain⟨T',m,f'⟩:=gE ff y u f2;exact q h' T' m f'
theorem vD(o7:A.frames = some (env :: outer)) (hf:env.frame = some L) (ff:s.heap.FunFrames base (env :: outer)) (f:qe s.heap a T c) (ne:a ≠ T)
    (q:∀h' T',Moved (gq (env :: outer)) a T s.heap h' T' -> qe h' a T' c -> Q () {s with heap:=h'}):wpAny M A (noteFrame (.ref a) env) (λ_ s2=>wpAny M A (setFlight (.ref a) none) Q E s2) E s:=by
  obtain⟨a0,x⟩:=ik ff f ne;refine wpAny_mono ((Vs.qI (.ref a) env).any f.f2 (wpAny_looks_onW (Q:=λ_ s'=>∃h',s' = {s with heap:=h'} /\ Heap.HeldW _ (env :: outer) a (.ref (KF.cls c)) a0 L h' /\ s.heap.UpToSlots h') o7 hf x λh' y u=>⟨h',rfl,y,u⟩)) (λ_ s' z=>?_) λ_ _ z=>z.2
  obtain⟨f1,h1,rfl,y,u⟩:=z;refine wpAny_mono ((Vs.d7 (.ref a) none).any (s:={s with heap:=h1}) f1 (wpAny_landsW (s:={s with heap:=h1}) (Q:=λ_ s'=>∃h',s' = {s with heap:=h'} /\ Heap.FlyingW _ (env :: outer) a (.ref (KF.cls c)) a0 h' /\ h1.UpToSlots h') y λh' y u=>⟨h',rfl,y,u⟩)) (λ_ s' z=>?_) λ_ _ z=>z.2
  obtain⟨f2,h2,rfl,z,u2⟩:=z;obtain⟨T',m,f'⟩:=gE ff z (u.trans u2) f2;exact q h2 T' m f'
theorem rN(ff:s.heap.FunFrames base (env :: outer)) (f:qe s.heap a T c) (ne:a ≠ T)
    (q:∀h' T',Moved (gq (env :: outer)) a T s.heap h' T' -> qe h' a T' c -> Q () {s with heap:=h'}):wpAny M A (setFlight (.ref a) none) Q E s:=by
  obtain⟨a0,x⟩:=ik ff f ne;refine wpAny_mono ((Vs.d7 (.ref a) none).any f.f2 (PyProof.Rows.lands_againW (Q:=λ_ s'=>∃h',s' = {s with heap:=h'} /\ Heap.FlyingW _ (env :: outer) a (.ref (KF.cls c)) a0 h' /\ s.heap.UpToSlots h') x λh' y u=>⟨h',rfl,y,u⟩)) (λ_ s' z=>?_) λ_ _ z=>z.2
  obtain⟨f2,h2,rfl,z,u2⟩:=z;obtain⟨T',m,f'⟩:=gE ff z u2 f2;exact q h2 T' m f'
theorem leave_new(o7:A.frames = some (env :: outer)) (hf:env.frame = some L) (ff:s.heap.FunFrames base (env :: outer))
    (f:∃o vs a0,s.heap.get? a = some o /\ o.cls = .ref (KF.cls c) /\ o.data = .fields vs /\ vs[0]? = some a0 /\ vs[1]? = some .none) (f2:F2 a s.heap)
    (q:∀h' T',Moved (gq (env :: outer)) a a s.heap h' T' -> qe h' a T' c -> Q () {s with heap:=h'}):wpAny M A (leaving env (.ref a)) Q E s:=by
  obtain⟨o,vs,a0,e1,e2,e3,e4,e5⟩:=f;have QW:s.heap.FunFrames (PySem.W.hideAll s.heap (a :: a :: gq (env :: outer))) (env :: outer):=PySem.W.funFrames_hide ff λenv he b hb=>.tail _ (.tail _ (List.mem_filterMap.mpr ⟨env,he,hb⟩));refine wpAny_mono ((Vs.jC env (.ref a)).any f2 (wpAny_leaving_firstW (Q:=λ_ s'=>∃h',s' = {s with heap:=h'} /\ Heap.LeftW _ (env :: outer) a o.cls a0 s.heap h') (base:=PySem.W.hideAll s.heap (a :: a :: gq (env :: outer))) o7 QW hf e1 (λb o e=>PySem.W.of_hideAll _ e) (PySem.W.hideAll_none _ (.head _)) e3 e5 e4 λh' y=>⟨h',rfl,y⟩)) (λ_ s' z=>?_) λ_ _ z=>z.2
  obtain⟨g2,h',rfl,y⟩:=z;obtain⟨k1,k2,k3,k4⟩:=y;rw [e2]at k3;obtain⟨T',m,f'⟩:=gE (T:=a) ff ⟨k1,PySem.W.hideAll_none _ (.head _),k2,k3⟩ k4 g2;exact q h' T' m f'
end
theorem oW{P:Program} {w:World} {H:Hp} {h:Heap} {a:Addr} {o:HO} (x:bQ P w H h a o):∃u,h.get? a = some u:=by
  cases o with
  | lst xs=>obtain⟨_,_,_,_,e⟩:=x;exact⟨_,e⟩
  | tup xs=>obtain⟨_,_,_,o,e,_⟩:=x;exact⟨_,e⟩
  | dK b6=>obtain⟨_,_,_,_,o,_,_,e,_⟩:=x;exact⟨_,e⟩
  | dT b6=>obtain⟨_,_,_,_,o,_,_,e,_⟩:=x;exact⟨_,e⟩
  | set S n=>obtain⟨o,_,_,_,e,_⟩:=x;exact⟨_,e⟩
  | ins C dx fs=>obtain⟨_,_,_,e,_⟩:=x;exact⟨_,e⟩
  | own y=>exact x
  | xd fs=>obtain⟨mA,⟨o,es,ep,e,_⟩,_⟩:=x;exact⟨_,e⟩
  | MI lo hi=>obtain⟨_,_,_,e⟩:=x;exact⟨_,e⟩
  | kj o u=>exact⟨_,x.1⟩
  | A6 ps=>exact⟨_,x⟩
  | lam ps pos qual=>obtain⟨_,e,_⟩:=x;exact⟨_,e⟩
  | met f y=>exact⟨_,x⟩
  | ext φ=>exact x.2.1
noncomputable def cz(H:Hp) (a T T':Addr) (c:Str):Hp:=λb=>if b = a then some (xX a T' c)else if b = T' then some (MP T')else if b = T then none else H b
noncomputable def cW(o:Option HO):Prop:=∃φ,o = some (.ext φ)
theorem xY{P:Program} {w:World} {H:Hp} {h:Heap} {a T:Addr} {c:Str} (f:qe h a T c):bQ P w H h a (xX a T c):=by
  obtain⟨o,vs,a0,e1,e2⟩:=f.ex;exact⟨⟨⟨o,vs,a0,e1,e2⟩,f.f2⟩,⟨o,e1⟩,λh1 h2 ⟨⟨o,vs,a0,z1,z2⟩,z3⟩ k=>⟨⟨o,vs,a0,k o z1,z2⟩,z3.mono k⟩⟩
theorem GR{P:Program} {w:World} {H:Hp} {h:Heap} {a T:Addr} {c:Str} (f:qe h a T c):bQ P w H h T (MP T):=by
  obtain⟨o,vs,e1,e2⟩:=f.tb;exact⟨⟨o,vs,e1,e2⟩,⟨o,e1⟩,λh1 h2 ⟨o,vs,z1,z2⟩ k=>⟨o,vs,k o z1,z2⟩⟩
theorem jw{P:Program} {w:World} {fs:List Addr} {H:Hp} {h h':Heap} {a T T':Addr} {c:Str} (bo:eL P w H h) (m:Moved fs a T h h' T') (f:qe h' a T' c) (Rm:∀b ∈ fs,H b = none)
    (ea:cW (H a)) (eT:cW (H T)):eL P w (cz H a T T' c) h' /\ Un fs [a,T] H (cz H a T T' c) h h':=by
  obtain⟨φ,ea⟩:=ea;obtain⟨ψ,eT⟩:=eT;have JY:∀b o,H b = some o -> (∀φ,o ≠ .ext φ) -> b ≠ T':=λb o e n z=>by
    subst z;rcases m.new with z | z
    · obtain⟨u,hu⟩:=oW (bo b o e)
      rw [z]at hu;cases hu
    · subst z;rw [eT]at e;cases e;exact n _ rfl
  have other:∀b o,H b = some o -> (∀φ,o ≠ .ext φ) -> cz H a T T' c b = some o:=λb o e n=>by
    unfold cz;rw [if_neg (λz=>by subst z;rw [ea]at e;cases e;exact n _ rfl),if_neg (JY b o e n),if_neg (λz=>by subst z;rw [eT]at e;cases e;exact n _ rfl)]
    exact e
  refine⟨λb o e=>?_,⟨λb o e n n1 n2=>?_,λb o e n hb n2=>m.slot b o e hb,λb o e n n2=>?_,λb o e n2=>?_,λb xs e=>other b _ e (λφ z=>by cases z),λb o u e=>other b _ e (λφ z=>by cases z),λb ps e=>⟨#[],by rw [other b _ e (λφ z=>by cases z)];simp⟩⟩⟩
  · unfold cz at e
    split at e
    · rename_i z;subst z;cases e;exact xY f
    · rename_i za
      split at e
      · rename_i z;subst z;cases e;exact GR f
      · rename_i Tz
        split at e
        · cases e
        · rename_i zT
          refine(bo b o e).jV (λd u hd q=>?_) (λd q=>other d _ q (λφ z=>by cases z)) (λd xs q=>other d _ q (λφ z=>by cases z)) λd o u q=>other d _ q (λφ z=>by cases z)
          have Rh:H d ≠ none:=λz=>by
            rcases hd with hd | hd
            · subst hd;rw [e]at z;cases z
            · rw [hd]at z;cases z
          refine m.keep d u q (λz=>?_) (λz=>?_) λz=>Rh (Rm d z)
          · rcases hd with hd | hd
            · exact za (hd ▸ z)
            · rw [z,ea]at hd;cases hd
          · rcases hd with hd | hd
            · exact zT (hd ▸ z)
            · rw [z,eT]at hd;cases hd
  · simp only [List.mem_cons,List.not_mem_nil,or_false,not_or]at n2
    exact m.keep b o e n2.1 n2.2 n1
  · simp only [List.mem_cons,List.not_mem_nil,or_false,not_or]at n2
    unfold cz;rw [if_neg n2.1,if_neg (λz=>?_),if_neg n2.2]
    · exact n
    · subst z
      rcases m.new with z | z
      · rw [e]at z;cases z
      · exact n2.2 z
  · simp only [List.mem_cons,List.not_mem_nil,or_false,not_or]at n2
    by_cases hb:b ∈ fs
    · obtain⟨sl,q⟩:=m.slot b o e hb
      exact⟨_,q⟩
    · exact⟨o,m.keep b o e n2.1 n2.2 hb⟩
theorem zV{fs:List Addr} {eM H H':Hp} {h₀ h h':Heap} {L a T:Addr} (u1:Un fs [] eM H h₀ h) (u2:Un (L :: fs) [a,T] H H' h h') (hL:h₀.objs.size <= L) (ha:h₀.get? a = none) (hT:h₀.get? T = none):Un fs [] eM H' h₀ h':=by
  have nL:∀ {b:Addr} {o:Obj},h₀.get? b = some o -> b ≠ L:=λe z=>by
    have:=Heap.lt_size e;rw [z]at this;exact absurd (Nat.lt_of_lt_of_le this hL) (Nat.lt_irrefl _)
  have nx:∀ {b:Addr} {o:Obj},h₀.get? b = some o -> b ∉ [a,T]:=λe z=>by
    simp only [List.mem_cons,List.not_mem_nil,or_false]at z;rcases z with z | z
    · rw [z,ha]at e;cases e
    · rw [z,hT]at e;cases e
  have n0:∀b:Addr,b ∉ ([]:List Addr):=λb=>by simp
  refine⟨λb o e n nf _=>?_,λb o e n hf _=>?_,λb o e n _=>?_,λb o e _=>?_,λb xs e=>u2.j6 b xs (u1.j6 b xs e),λb o u e=>u2.iZ b o u (u1.iZ b o u e),λb ps e=>?_⟩
  · exact u2.keep b o (u1.keep b o e n nf (n0 b)) (u1.free b o e n (n0 b)) (λz=>by rcases List.mem_cons.mp z with z | z;exact nL e z;exact nf z) (nx e)
  · obtain⟨sl,e1⟩:=u1.slot b o e n hf (n0 b)
    obtain⟨MJ,e2⟩:=u2.slot b _ e1 (u1.free b o e n (n0 b)) (.tail _ hf) (nx e);exact⟨MJ,e2⟩
  · obtain⟨sl,e1⟩:=u1.any e n (n0 b)
    exact u2.free b _ e1 (u1.free b o e n (n0 b)) (nx e)
  · obtain⟨o1,e1⟩:=u1.there b o e (n0 b)
    exact u2.there b o1 e1 (nx e)
  · obtain⟨m1,e1⟩:=u1.j4 b ps e
    obtain⟨m2,e2⟩:=u2.j4 b _ e1;exact⟨m1 ++ m2,by rw [e2,Array.append_assoc]⟩
end Vc
set_option Elab.async false
set_option linter.all false
set_option maxRecDepth 100000
namespace Vc
open PySem L2
variable [KF]
variable {G:GE} {k:Nat} {S:Stat}
noncomputable def Hl(P:Program) (w:World):rG:=λouter H s E e s'=>∃a T c H',e = .ref a /\ s'.os = s.os /\ PyProof.Rows.AllBare s'.gens /\ Un (gq outer) [] H H' s.heap s'.heap /\ eL P w H' s'.heap /\ ax H H' /\
  H a = none /\ H T = none /\ s.heap.get? a = none /\ s.heap.get? T = none /\ a ≠ T /\ H' a = some (xX a T c) /\ H' T = some (MP T) /\ ∀t,E (.str c t) none H'
noncomputable abbrev ky:=List D -> (B -> Prop) -> (Str -> Prop) -> Prop
noncomputable def ML(sp:ky):Sp:=λvs H Q E=>∃F ds Qd Ed,tR F H /\ aM F vs ds /\ sp ds Qd Ed /\
  (∀v H' F' b,ax F F' -> ax F' H' -> ax H H' -> (∀c o,F' c = some o -> F c = some o \/ Nw H c o) -> HB H F' H' v b -> Qd b -> Q v H') /\ ∀c t H',Ed c -> E (.str c t) none H'
noncomputable def rK(G:GE) (k:Nat) (x:Str) (sp:ky):Prop:=∃f fd ps,dy G.P G.w G.K G.mg G.base (Hl G.P G.w) k f fd ps (ML sp) /\ G.mg x = some (.ref f) /\ PySem.W.keepIn G.K (.ref f) = true /\ Binds G.K fd ps []
theorem rK.mono{x:Str} {sp:ky} {j:Nat} (h:rK G j x sp) (l:j <= k):rK G k x sp:=by
  obtain⟨f,fd,ps,h1,h2,h3,h4⟩:=h;exact⟨f,fd,ps,h1.mono l,h2,h3,h4⟩
noncomputable def Pn(sp:ky) (ds:List D) (Q:B -> Prop) (E:Str -> Prop):Prop:=sp ds Q E
noncomputable def sP(ex:Str -> Sd -> Prop) (sp:ky) (t:fq):TX:=λσ Q=>t σ λds av=>Pn sp ds (λb=>Q (bE b) av) λc=>ex c av
theorem jf{x:Str} {sp:ky} {e:Expr} {es:List Expr} {t:fq} {p pos:Pos} (h:rK G k x sp) (ha:rH G k S (e :: es) t) (hg:S.sc.lookup x = some .globalImplicit:=by rfl) (me:(x == ("__debug__":Str)) = false:=by decide)
    (he:∀env,starEach (e :: es) env = (false,eval e env) :: starEach es env:=by exactλ_=>Vc.dv rfl) (i3:∀env,(backTo pos (starEach es env)).any (·.1) = false:=by intro _;rfl) (hh:S.kl = false:=by rfl) (Jk:S.nD = false:=by rfl):
    EX G k S (.Call (.Name x p) (e :: es) [] pos) (sP S.ex sp t):=.mk λX Y ok pins s σ H Q I q=>by
  obtain⟨f,fd,ps,h1,h2,h3,h4⟩:=h;have CY:dy X.prog X.w X.K X.mg X.base (Hl X.prog X.w) k f fd ps (ML sp):=by rw [ok.P,ok.w,ok.K,ok.mg,ok.base];exact h1
  obtain⟨F,ao,Qd,R,q,K⟩:=q;refine wpAny_Call_Name_kw (fz I (cc ok hg) (by rw [ok.mg];exact h2) ?_ me)
  refine PySem.W.callWith_K (h₀:=X.base) I.ok.mod.DU (by rw [ok.K];exact h3) (cp (ha X Y ok pos pins s σ H (λvs H1=>∃F1 ds av,ax F F1 /\ RS Y F1 av σ H1 /\ aM F1 vs ds /\ Pn sp ds (λb=>Qd (bE b) av) λc=>S.ex c av) I
    ⟨F,ao,_,R,q,λvs H1 F1 ds av s1 R1 r1 q1=>⟨F1,ds,av,s1,R1,r1,q1⟩⟩) λus s1 ⟨vs,H1,I1,r,F1,ds,av,GB,R1,r1,q1⟩=>⟨I1.i7,?_⟩) (he _) (i3 _)
  let E:XK:=λv _ _=>∃c t,v = .str c t /\ S.ex c av
  have oo:ML sp vs H1 Q E:=by
    refine⟨F1,ds,_,_,⟨R1.fr,R1.ob.tab⟩,r1,q1,λv H' F' b s2 s3 s4 fr r2 q2=>?_,λc t H' hx=>⟨c,t,rfl,hx⟩⟩;have R2:=R1.call s2 s3 s4 fr;cases b with
    | sh d=>exact K v H' F' (.val d) av (GB.trans s2) R2 r2 q2
    | own xs =>
      obtain⟨a,us,rfl,w1,w2,w3,w4⟩:=r2;refine K _ H' F' (.own xs) av (GB.trans s2) R2 ⟨a,us,rfl,w1,w2,w3,(R1.cA w4).1,R1.d8 w4⟩ q2
    | obj o =>
      obtain⟨a,rfl,w1,w2⟩:=r2;exact K _ H' F' (.obj o) av (GB.trans s2) R2 ⟨a,rfl,w1,λb hb=>⟨(w2 b hb).1,(w2 b hb).2.1,(R1.cA (w2 b hb).2.2).1,R1.d8 (w2 b hb).2.2⟩⟩ q2
  have hl:us.length = ps.length:=by rw [<- r.length];exact CY.len _ _ _ _ oo
  have hb:=h4 s1 us (by rw [<- ok.K];exact I1.i7) (by rw [List.append_nil];exact hl)
  rw [List.append_nil]at hb;refine wpAny_call (codeAny_mono (CY.run X.A X.stack s1 H1 ⟨us,[]⟩ us vs Q E (ok.room hh) I1.Cw hb r oo) λr s' hq=>?_);cases r with
  | error e =>
    obtain⟨a,T,c,H',rfl,os,bare,un,bo,sm,na,nT,la,lT,ne,fa,fT,ed⟩:=hq;obtain⟨c',t',ec,hx⟩:=ed 0;cases ec;have I2:L2.Inv X pins σ H' s':=I1.nE os un bo bare λb z=>absurd z (by simp)
    have R2:RS Y F1 av σ H':=R1.call (ax.refl _) (R1.fr.trans sm) sm λc o e=>.inl e;have old:∀b,s1.heap.get? b = none -> X.bB.heap.get? b = none:=λb e=>by
      cases e0:X.bB.heap.get? b with
      | none=>rfl
      | some o =>
        obtain⟨o',e1⟩:=I1.base.there b o e0 (by rw [(ok.nx Jk).1];simp)
        rw [e]at e1;cases e1
    exact ok.exc c av hx pins σ H' F1 s' a T I2 R2 ⟨same_none R1.fr na,same_none R1.fr nT,fa,fT,ne,(R1.cA na).1,(R1.cA nT).1,old a la,old T lT⟩
  | ok fl =>
    cases fl with
    | ret u=>exact I1.after hq
    | next=>exact False.elim hq
    | brk=>exact False.elim hq
    | cont=>exact False.elim hq
theorem dM{P:Program} {w:World} {H:Hp} {h:Heap} (ok:eL P w H h) {a:Addr} (e:h.get? a = none):H a = none:=by
  cases q:H a with
  | none=>rfl
  | some o =>
    obtain⟨u,z⟩:=oW (ok a o q);rw [e]at z;cases z
theorem gF{X:Cx} {pins:List (Addr × Obj)} {σ:St} {H:Hp} {s:Shared} (I:L2.Inv X pins σ H s) (hex:X.ex = []) {b:Addr} (e:s.heap.get? b = none):X.bB.heap.get? b = none:=by
  cases e0:X.bB.heap.get? b with
  | none=>rfl
  | some o =>
    obtain⟨o',e1⟩:=I.base.there b o e0 (by rw [hex];simp)
    rw [e]at e1;cases e1
theorem vQ{X:Cx} {Y:bM} {pins:List (Addr × Obj)} {σ:St} {ao:Sd} {H F:Hp} {s:Shared} {a T T':Addr} {h':Heap} {c:Str} {E:XK} (cM:Y.io = [] /\ Y.ob = []) (hY:Y.H0 = X.eM) (hex:X.ex = []) (qz:X.stack = X.env :: X.outer) (o7:X.env.frame = some X.env.locals)
    (I:L2.Inv X pins σ H s) (R:RS Y F ao σ H) (ea:cW (H a)) (eT:cW (H T)) (na:Y.H0 a = none) (nT:Y.H0 T = none) (la:X.bB.heap.get? a = none) (lT:X.bB.heap.get? T = none)
    (m:Moved (gq X.stack) a T s.heap h' T') (f:qe h' a T' c) (hE:∀t H',E (.str c t) none H'):Hl X.prog X.w X.outer X.eM X.bB E (.ref a) {s with heap:=h'}:=by
  obtain⟨se,Hj⟩:=jw I.bo m f I.hG ea eT;have Ph:Un (X.env.locals :: X.fs) [a,T] H (cz H a T T' c) s.heap h':=by
    have e:gq X.stack = X.env.locals :: gq X.outer:=by
      rw [qz];unfold gq;rw [List.filterMap_cons,o7]
    rw [e]at Hj;exact Hj
  have hb:Un X.fs [] X.eM H X.bB.heap s.heap:=by
    have:=I.base;rw [hex]at this;exact this
  have JY:Y.H0 T' = none /\ X.bB.heap.get? T' = none:=by
    rcases m.new with z | z
    · exact⟨(R.cA (dM I.bo z)).1,gF I hex z⟩
    · rw [z];exact⟨nT,lT⟩
  refine⟨a,T',c,cz H a T T' c,rfl,I.os,I.bare,zV hb Ph I.ok.above la lT,se,λb o e=>?_,by rw [<- hY];exact na,by rw [<- hY];exact JY.1,la,JY.2,m.ne.symm,?_,?_,λt=>hE t _⟩
  · have e':Y.H0 b = some o:=by rw [hY];exact e
    unfold cz;rw [if_neg (λz=>by rw [z,na]at e';cases e'),if_neg (λz=>by rw [z,JY.1]at e';cases e'),if_neg (λz=>by rw [z,nT]at e';cases e')]
    exact R.old b o e' (by simp [bM.yp,cM.1,cM.2])
  · unfold cz;rw [if_pos rfl]
  · unfold cz;rw [if_neg m.ne,if_pos rfl]
theorem CQ{x qual:Str} {st:Stmt} {f:Addr} {fd:FuncData} {N ps:List Str} {sp:ky} {t:(Str -> Sd -> Prop) -> cJ} (hK:G.K = KF.K) (Fn:xF G.K x qual st f fd) (Sc:aV N ps (ai st))
    (ht:∀Ed:Str -> Prop,dZ G k ⟨N,(ai st).names,[],false,false,true,λc _=>Ed c⟩ (ay st) (t λc _=>Ed c))
    (len:∀ds Q E,sp ds Q E -> ds.length = ps.length)
    (body:∀ds Q E,sp ds Q E -> t (λc _=>E c) {nx:=λ_=>Q (.sh .bt),rt:=λb _=>Q b} (a4 N.length ds)):dy G.P G.w G.K G.mg G.base (Hl G.P G.w) (k+1) f fd ps (ML sp):=by
  obtain⟨oc,od,kV,doc,pm,an,fS,ct,vP,rfl,lk,jc⟩:=Fn.ex;refine AF lk jc Sc (λvs H Q E h=>?_) λA outer s H vs Q E hr h=>?_
  · obtain⟨F,ds,Qd,Ed,s,r,q,K,_⟩:=h
    rw [r.length];exact len _ _ _ q
  · obtain⟨F,ds,Qd,Ed,sm,r,q,K,KE⟩:=h
    refine⟨_,ht Ed (lQ (Hl G.P G.w) G.P G.w G.K G.mg G.base N qual (ai st) f fS A outer s H E) ⟨H,F,[],[]⟩ ⟨rfl,rfl,rfl,hK,rfl,rfl,rfl,rfl,Sc.nd,λp hp=>absurd hp (by simp),λ_ _=>rfl,λ_=>rfl,Sc.kind,λ_ _ _=>rfl,λ_=>hr.hd,hr.dp,hr.un,λ_=>PassesOwn.leaving,λ_=>⟨rfl,rfl,rfl⟩,
      λc ao hx pins σ H1 F1 s1 a T I R fl=>?_,λ_ c ao hx pins σ H1 F1 s1 a I R ha na la=>?_,λh=>nomatch h⟩,F,a4 N.length ds,_,RS.start _ sm r,body ds Qd Ed q,?_⟩
    · refine sk (c:=c) (T:=T) I.ok.frames rfl I.stack ⟨(I.bo a _ fl.ha).1.1,(I.bo T _ fl.hT).1,(I.bo a _ fl.ha).1.2⟩ fl.ne λh' T' m f'=>?_
      exact vQ ⟨rfl,rfl⟩ rfl rfl rfl rfl I R ⟨_,fl.ha⟩ ⟨_,fl.hT⟩ fl.na fl.nT fl.la fl.lT m f' λt H'=>KE c t H' hx
    · refine leave_new (c:=c) I.ok.frames rfl I.stack (I.bo a _ ha).1.1 (I.bo a _ ha).1.2 λh' T' m f'=>?_
      exact vQ ⟨rfl,rfl⟩ rfl rfl rfl rfl I R ⟨_,ha⟩ ⟨_,ha⟩ na na la la m f' λt H'=>KE c t H' hx
    have same:∀ {F':Hp} {ao:Sd} {σ:St} {H':Hp},RS ⟨H,F,[],[]⟩ F' ao σ H' -> ax H H':=λR b o e=>R.old b o e (by simp [bM.yp])
    refine⟨λσ H' F' ao s' R' q'=>?_,λv σ H' F' ao b s' R' r' q'=>?_,λ_ _ _ _ _ _ h=>h.elim,λ_ _ _ _ _ _ h=>h.elim⟩
    · exact K .bt H' F' (.sh .bt) s' R'.fr (same R') R'.eF .bt q'
    · refine K v H' F' b s' R'.fr (same R') R'.eF ?_ q'
      cases b with
      | sh d=>exact r'
      | own xs =>
        obtain⟨a,us,rfl,w1,w2,w3,w4,w5⟩:=r';exact⟨a,us,rfl,w1,w2,w3,w4⟩
      | obj o =>
        obtain⟨a,rfl,w1,w2⟩:=r';exact⟨a,rfl,w1,λb hb=>⟨(w2 b hb).1,(w2 b hb).2.1,(w2 b hb).2.2.1⟩⟩
theorem cS.fx{x:Str} {st:Stmt} {ps N:List Str} {f:Addr} {fd:FuncData} {t:(Str -> Sd -> Prop) -> cJ} {sp:ky} (d:cS G x st ps f fd) (hK:G.K = KF.K) (Sc:aV N ps (ai st))
    (ht:∀Ed:Str -> Prop,dZ G k ⟨N,(ai st).names,[],false,false,true,λc _=>Ed c⟩ (ay st) (t λc _=>Ed c))
    (len:∀ds Q E,sp ds Q E -> ds.length = ps.length) (body:∀ds Q E,sp ds Q E -> t (λc _=>E c) {nx:=λ_=>Q (.sh .bt),rt:=λb _=>Q b} (a4 N.length ds)):rK G (k+1) x sp:=
  ⟨f,fd,ps,CQ hK d.F Sc ht len body,d.m,d.F.kp,d.b⟩
end Vc
set_option Elab.async false
set_option linter.all false
set_option maxRecDepth 100000
namespace Vc
open PySem L2
variable [KF]
variable {G:GE} {k:Nat} {S:Stat}
noncomputable def lF:List Value:=[.type "ValueError",.type "Exception",.type "BaseException",.type "object"]
noncomputable def mroIn(K:PySem.W.Frag) (C:Addr):List Value:=match K.lookup C with
  | some ⟨_,_,.cls cd,_⟩=>cd.mro
  | _=>[]
structure Hm(G:GE) (x:Str):Prop where
  mg:G.mg x = some (.ref (KF.cls x))
  exc:PySem.W.excIn G.K (KF.cls x) lF "ValueError.__new__" = true
theorem lL{K:PySem.W.Frag} {h:Heap} {C:Addr} {l:List Value} {id:String} (Z:K.In h) (q:PySem.W.excIn K C l id = true):
    ∃(bm:List Value) (N:Addr) (nm qn:Str) (bs:List Value) (hd:Bool) (sn:List Str) (sub:List Value) (ab:Bool) (col:Option Bool) (dd:Option Addr) (k0 k1 k2 k3 k5:Option Value) (mN:Str -> Option Value),
      mroIn K C = .ref C :: bm /\ h.get? C = some (excClassObj nm qn C N bs bm hd sn sub ab col dd k0 k1 k2 k3 k5 id) /\ h.Ns N mN /\ mN "__init__" = none /\ OwnTail h l bm:=by
  have q0:=q;unfold PySem.W.excIn at q
  split at q
  · rename_i o1 c1 s1 e1
    split at q
    · rename_i C2 tl j0 j1 j2 j3 RO j5 em es
      simp only [Bool.and_eq_true,beq_iff_eq,Bool.not_eq_true']at q;obtain⟨⟨⟨⟨⟨z1,z2⟩,z3⟩,z4⟩,z5⟩,z6⟩:=q;subst z1 z2;obtain⟨n1,n2,n3,n4,n5,n6,n7,n8,n9,Sf,Ts⟩:=c1;dsimp only at em z3 z5 z6;subst em z3;obtain rfl:s1 = #[j0,j1,j2,j3,some (.builtin RO),j5]:=by
        cases s1;simp only at es;rw [es]
      refine⟨tl,n4,n1,n5,n2,n6,n7,n8,n9,Sf,o1,j0,j1,j2,j3,j5,_,?_,Z _ _ e1,Heap.Ns.of_isNs (PySem.W.isNs_of_in Z z5),PySem.W.nsMap_none_of_in Z z5 z6,PySem.W.tail_of_in Z z4⟩;unfold mroIn;rw [e1]
    · cases q
  · cases q
theorem yf{P:Program} {w:World} {H:Hp} {h h':Heap} {a:Addr} {c:Str} (ok:eL P w H h) (kp:∀b u,h.get? b = some u -> h'.get? b = some u) (e:h.get? a = none)
    (f:∃o vs a0,h'.get? a = some o /\ o.cls = .ref (KF.cls c) /\ o.data = .fields vs /\ vs[0]? = some a0 /\ vs[1]? = some .none) (f2:F2 a h') {fs ex:List Addr}:eL P w (upd H a (D1 a c)) h' /\ Un fs ex H (upd H a (D1 a c)) h h':=by
  have na:=dM ok e;have ne:∀ {b:Addr} {u:HO},H b = some u -> b ≠ a:=λq z=>by rw [z,na]at q;cases q
  refine⟨λb u q=>?_,⟨λb u q _ _ _=>kp b u q,λb u q _ _ _=>⟨u.slots,kp b u q⟩,λb u q n _=>?_,λb u q _=>⟨u,kp b u q⟩,λb xs q=>by rw [az (ne q)];exact q,λb o u q=>by rw [az (ne q)];exact q,λb ps q=>⟨#[],by rw [az (ne q),q];simp⟩⟩⟩
  · by_cases hb:b = a
    · subst hb;rw [aW]at q;cases q
      obtain⟨o,vs,a0,z1,z2⟩:=f;exact⟨⟨⟨o,vs,a0,z1,z2⟩,f2⟩,⟨o,z1⟩,λh1 h2 ⟨⟨o,vs,a0,y1,y2⟩,y3⟩ k=>⟨⟨o,vs,a0,k o y1,y2⟩,y3.mono k⟩⟩
    · rw [az hb]at q
      exact(ok b u q).jV (λd v _ r=>kp d v r) (λd r=>by rw [az (ne r)];exact r) (λd xs r=>by rw [az (ne r)];exact r) λd o u r=>by rw [az (ne r)];exact r
  · rw [az λz=>by rw [z,e]at q;cases q];exact n
noncomputable def LZ(ex:Str -> Sd -> Prop) (x:Str) (t:fq):cJ:=λ_ σ=>t σ λds av=>ds.length <= sizeLine /\ ex x av
theorem mY{x:Str} {e:Expr} {t:fq} {np bR pos:Pos} (hc:Hm G x) (ha:rH G k S [e] t) (hg:S.sc.lookup x = some .globalImplicit:=by rfl) (me:(x == ("__debug__":Str)) = false:=by decide)
    (he:∀env,starEach [e] env = (false,eval e env) :: starEach [] env:=by intro _;rfl) (hh:S.kl = false:=by rfl) (Ry:S.rs = true:=by rfl) (Jk:S.nD = false:=by rfl):
    ES G k S (.Raise (some (.Call (.Name x np) [e] [] bR)) none pos) (LZ S.ex x t):=.mk λX Y ok pins s σ H D I q=>by
  obtain⟨F,ao,De,R,q,K⟩:=q;have hq:PySem.W.excIn X.K (KF.cls x) lF "ValueError.__new__" = true:=by rw [ok.K];exact hc.exc
  obtain⟨HN,N',MF,Qv,Mh,td,MK,zI,Mf,xQ,Mi,P0,Qa,Qb,JH,Qc,Qo,Rq,hC,hN,N6,hT⟩:=lL I.ok.mod.DU hq;have i3:(backTo bR (starEach [e] X.env)).any (·.1) = false:=by rw [he];rfl
  refine wpAny_Raise_call_subU (C:=KF.cls x) (nm:=MF) (q:=Qv) (N:=N') (bs:=Mh) (bm:=HN) (hdct:=td) (sn:=MK) (sub:=zI) (ab:=Mf) (col:=xQ) (dd:=Mi) (k0:=P0) (k1:=Qa) (k2:=Qb) (k3:=JH) (k5:=Qc) (mN:=Qo) (bmB:=lF)
    PySem.F.excBase_ValueError ∅ PySem.F.excBase_ValueError (hT.hasType ∅) (ok.hd hh) i3 N6 ?_
  refine fz I (cc ok hg) (by rw [ok.mg];exact hc.mg) ⟨rfl,?_⟩ me
  have go:=ha X Y ok bR pins s σ H (λvs H1=>∃F1 av,RS Y F1 av σ H1 /\ vs.length <= sizeLine /\ S.ex x av) I ⟨F,ao,_,R,q,λvs H1 F1 ds av s1 R1 r1 q1=>⟨F1,av,R1,by rw [r1.length];exact q1.1,q1.2⟩⟩
  rw [he]at go ⊢;refine Calls.evalArgs_plain (cp go λus s1 ⟨vs,H1,I1,r1,F1,av,R1,hl,hx⟩=>⟨rfl,by rw [<- r1.length];exact hl,I1.bk _ _ hC,hN.keeps I1.bk,hT.keeps I1.bk,λh' a m=>?_⟩)
  obtain⟨t0,y1,y2,y3⟩:=m.there;have hf:∃o vs a0,h'.get? a = some o /\ o.cls = .ref (KF.cls x) /\ o.data = .fields vs /\ vs[0]? = some a0 /\ vs[1]? = some .none:=⟨_,_,_,y1,rfl,rfl,rfl,rfl⟩;obtain⟨se,Hj⟩:=yf (fs:=X.fs) (ex:=[]) I1.bo m.keeps m.new hf ⟨_,_,y1,rfl,rfl⟩;have na:=dM I1.bo m.new;exact ok.made Ry x av hx pins σ _ F1 _ a (I1.un (t':=s1.toks) Hj se) (R1.lA na) aW (R1.cA na).1 (gF I1 (ok.nx Jk).1 m.new)
end Vc
set_option Elab.async false
set_option linter.all false
set_option maxRecDepth 100000
namespace Vc
open PySem L2
variable [KF]
variable {G:GE} {k:Nat} {S:Stat}
structure XCls(G:GE) (L:List Str):Prop where
  cls:∀c ∈ L,Hm G c
  mro:∀c ∈ L,mroIn G.K (KF.cls c) = .ref (KF.cls c) :: ((if c = "NearError" then []else [.ref (KF.cls "NearError")]) ++ lF)
  inj:∀c ∈ L,∀d ∈ L,KF.cls c = KF.cls d -> c = d
  near:("NearError":Str) ∈ L
noncomputable def eI(c d:Str):Bool:=c == d || d == "NearError"
theorem XCls.sub{L:List Str} (Z:XCls G L) {c d:Str} (hc:c ∈ L) (hd:d ∈ L):(mroIn G.K (KF.cls c)).contains (.ref (KF.cls d)) = eI c d:=by
  rw [Bool.eq_iff_iff,List.contains_iff_mem,Z.mro c hc];unfold eI;rw [Bool.or_eq_true,beq_iff_eq,beq_iff_eq,List.mem_cons,List.mem_append];constructor
  · rintro(h | h | h)
    · injection h with h
      exact .inl (Z.inj d hd c hc h).symm
    · split at h
      · cases h
      · rw [List.mem_singleton]at h
        injection h with h
        exact .inr (Z.inj d hd _ Z.near h)
    · simp [lF]at h
  · rintro(h | h)
    · subst h;exact .inl rfl
    · subst h
      by_cases z:c = "NearError"
      · subst z;exact .inl rfl
      · rw [if_neg z];exact .inr (.inl (List.mem_singleton.mpr rfl))
section
variable {M:Model} {A:Around} {E:Value -> Shared -> Prop} {h:Heap} {g:Array GenState} {d:Drawn} {t:Nat} {os:OsState}
theorem Nq{e C D' N N':Addr} {oe:Obj} {nm q MF q':Str} {bs bm Mh HN sub zI:List Value} {hd td ab Mf:Bool} {sn MK:List Str} {col xQ:Option Bool} {dd Mi:Option Addr} {k0 k1 k2 k3 k5 l0 l1 l2 l3 l5:Option Value} {id RN:String} {Q:Bool -> Shared -> Prop}
    (hC:h.get? C = some (excClassObj nm q C N bs bm hd sn sub ab col dd k0 k1 k2 k3 k5 id)) (hD:h.get? D' = some (excClassObj MF q' D' N' Mh HN td MK zI Mf xQ Mi l0 l1 l2 l3 l5 RN)) (he:h.get? e = some oe) (vf:oe.cls = .ref C)
    (hb:(Value.ref D' :: HN).contains (.type "BaseException") = true) (hi:(Value.ref C :: bm).contains (.ref D') = true) (hq:Q true ⟨h,g,d,t,os⟩):wpAny M A (excMatches (.ref e) (.ref D')) Q E ⟨h,g,d,t,os⟩:=by
  have nt:=tc_notTuple;unfold excMatches
  repeat (first
    | (with_reducible refine wpAny_loadPart_at he ?_
       rw [vf])
    | with_reducible refine wpAny_loadPart_at hD ?_
    | (with_reducible refine wpAny_isSubtype_exc hD ?_
       rw [hb])
    | (with_reducible refine wpAny_isSubtype_exc hC ?_
       rw [hi])
    | wp_step)
  exact hq
end
end Vc
set_option Elab.async false
set_option linter.all false
set_option maxRecDepth 100000
namespace Vc
open PySem L2
variable [KF]
variable {G:GE} {k:Nat} {S:Stat}
noncomputable def pD(X:Cx) (a:Addr):Cx:={X with A:=X.A.mark (some (.ref a)),calm:=false,xe:=λ_ _=>False}
noncomputable def v8(X:Cx) (pins:List (Addr × Obj)) (xe:Value -> Shared -> Prop):Cx:={X with pn:=X.pn ++ pins,xe:=xe}
section
variable {X:Cx} {pins:List (Addr × Obj)} {σ:St} {H:Hp} {s:Shared} {a:Addr} {xe:Value -> Shared -> Prop}
theorem Dk(ok:X.Ok):(pD X a).Ok:=
  ⟨ok.mod,ok.kind,ok.glob,ok.blt,ok.above,ok.inj,ok.has,ok.xM,(λh=>nomatch h),ok.frames,ok.A3,ok.G8,ok.bs,ok.rQ,ok.mE,ok.nN,ok.fI,ok.uW⟩
theorem Fp(ok:X.Ok):(v8 X pins xe).Ok:=
  ⟨ok.mod,ok.kind,ok.glob,ok.blt,ok.above,ok.inj,ok.has,ok.xM,ok.hd,ok.frames,ok.A3,ok.G8,ok.bs,ok.rQ,ok.mE,ok.nN,ok.fI,ok.uW⟩
theorem vo(I:L2.Inv X pins σ H s):L2.Inv (pD X a) pins σ H s:=⟨Dk I.ok,I.os,I.bare,I.base,I.loc,I.cell,I.free,I.cL,I.pin,I.bo,I.len⟩
theorem yg(ok:X.Ok) (I:L2.Inv (pD X a) pins σ H s):L2.Inv X pins σ H s:=⟨ok,I.os,I.bare,I.base,I.loc,I.cell,I.free,I.cL,I.pin,I.bo,I.len⟩
theorem Fo(I:L2.Inv X pins σ H s):L2.Inv (v8 X pins xe) [] σ H s:=
  ⟨Fp I.ok,I.os,I.bare,I.base,I.loc,I.cell,I.free,I.cL,λp hp=>I.pin p (by rw [List.append_nil]at hp;exact hp),I.bo,I.len⟩
theorem gG{qS:List (Addr × Obj)} (ok:X.Ok) (I:L2.Inv (v8 X pins xe) qS σ H s):L2.Inv X pins σ H s:=
  ⟨ok,I.os,I.bare,I.base,I.loc,I.cell,I.free,I.cL,λp hp=>I.pin p (List.mem_append_left _ hp),I.bo,I.len⟩
theorem wB{D:Ends} {f:Flow} (ok:X.Ok) (h:SP (v8 X pins xe) [] D f s):SP X pins D f s:=by
  cases f with
  | next=>obtain⟨bO,H',I,q⟩:=h;exact⟨bO,H',gG ok I,q⟩
  | brk=>obtain⟨bO,H',I,q⟩:=h;exact⟨bO,H',gG ok I,q⟩
  | cont=>obtain⟨bO,H',I,q⟩:=h;exact⟨bO,H',gG ok I,q⟩
  | ret u=>obtain⟨v,bO,H',I,r,q⟩:=h;exact⟨v,bO,H',gG ok I,r,q⟩
theorem x9{M:Model} {A:Around} {E:Value -> Shared -> Prop} {i:Nat} {n:Str} {pos:Pos} {Q:Unit -> Shared -> Prop} (I:L2.Inv X pins σ H s) (hN:X.N.Nodup) (hi:X.N[i]? = some n) (hx:X.env.kindOf n = some .local)
    (h:∀s',L2.Inv X pins (σ.set i none) H s' -> Q () s'):wpAny M A (do bindName X.env n .none;unbindBehindTheSuite X.env n pos) Q E s:=by
  obtain⟨m,hn,hl⟩:=id I.loc;have vf:(X.env.scope.kind == .class || (X.env.scope.kind == .module && X.env.locals != X.env.globals)) = false:=by rw [I.ok.kind];rfl
  have ud:=I.ud;refine wpAny_nameGoes_keeps hx hn vf λh' v NY hs=>h _ ?_;obtain⟨oL,_,_,PN,_⟩:=id hn;have nl:∀ {b:Addr} {o:Obj},X.bB.heap.get? b = some o -> b ≠ X.env.locals:=λe=>Nat.ne_of_lt (Nat.lt_of_lt_of_le (Heap.lt_size e) I.ok.above);refine⟨I.ok,I.os,I.bare,⟨λb o e n0 hb Hb=>(hs.2 b (nl e)).trans (I.base.keep b o e n0 hb Hb),λb o e n0 hb Hb=>?_,I.base.free,λb o e Hb=>?_,I.base.j6,I.base.iZ,I.base.j4⟩,⟨_,NY,λj y w e1 e2 e3=>?_⟩,λy c e=>?_,I.free,I.cL,λp hp=>?_,λb ob e=>?_,by simpa using I.len⟩
  · obtain⟨sl,e1⟩:=I.base.slot b o e n0 hb Hb
    exact⟨sl,(hs.2 b (nl e)).trans e1⟩
  · obtain⟨o',e1⟩:=I.base.there b o e Hb
    exact⟨o',(hs.2 b (nl e)).trans e1⟩
  · have hj:j ≠ i:=λz=>by
      subst z;rw [List.getElem?_set]at e2;simp only [if_true]at e2
      split at e2<;>cases e2
    rw [List.getElem?_set_ne (Ne.symm hj)]at e2;obtain⟨u,r,q⟩:=hl j y w e1 e2 e3;refine⟨u,r,?_⟩;rcases q with⟨kk,e⟩ | ⟨kk,c,e,z⟩
    · have:y ≠ n:=λz=>hj (jI hN e1 (z ▸ hi))
      exact .inl ⟨kk,by simp [this,e]⟩
    · exact .inr ⟨kk,c,e,z.sameBut hs (ud y c e)⟩
  · obtain⟨w,z⟩:=I.cell y c e
    exact⟨w,z.sameBut hs (ud y c e)⟩
  · obtain⟨e,n0,ne,nf,d⟩:=I.pin p hp
    exact⟨(hs.2 p.1 ne).trans e,n0,ne,nf,d⟩
  · refine(I.bo b ob e).jV (λc w hc q=>(hs.2 c ?_).trans q) (λ_ q=>q) λ_ _ q=>q
    rintro rfl;rcases hc with z | z
    · rw [<- z,I.free]at e;cases e
    · rw [I.free]at z;cases z
end
theorem RS.gone{Y:bM} {F:Hp} {ao:Sd} {σ:St} {H:Hp} {i:Nat} (R:RS Y F ao σ H) (cM:∀p ∈ Y.io,p.1 ≠ i):RS Y F (ao.set i none) (σ.set i none) H:=by
  have ne:∀ {j:Nat} {b:B},(ao.set i none)[j]? = some (some b) -> j ≠ i:=λe z=>by
    rcases gs e with⟨_,w⟩ | ⟨w,_⟩
    · cases w
    · exact w z
  refine⟨by simpa using R.len,R.lo,R.fr,R.eF,R.old,λj d e=>?_,λj xs e=>?_,λj l xs ys a e1 e2 e3 e4=>?_,λp hp=>?_,R.ob.put (λ_ hj=>bw hj) (λ_ z=>nomatch z) (λ_ _ z=>nomatch z)⟩
  · have:=ne e
    rw [bw this]at e ⊢;exact R.sh j d e
  · have:=ne e
    rw [bw this]at e ⊢;exact R.own j xs e
  · have h1:=ne e1
    have h2:=ne e2;rw [bw h1]at e1 e3;rw [bw h2]at e2 e4;exact R.dis j l xs ys a e1 e2 e3 e4
  · have:=cM p hp
    rw [bw this,bw this];exact R.io p hp
theorem RS.Px{Y:bM} {F:Hp} {ao:Sd} {σ:St} {H:Hp} {a T T':Addr} {c:Str} (R:RS Y F ao σ H) (fa:F a = none) (fT:F T = none) (na:Y.H0 a = none) (nT:Y.H0 T = none) (ea:cW (H a)) (eT:cW (H T)) (new:H T' = none \/ T' = T):
    RS Y F ao σ (cz H a T T' c) /\ F T' = none /\ Y.H0 T' = none:=by
  have Jg:F T' = none /\ Y.H0 T' = none:=by
    rcases new with z | z
    · exact⟨same_none R.fr z,(R.cA z).1⟩
    · rw [z];exact⟨fT,nT⟩
  have same:∀b o,b ≠ a -> b ≠ T -> b ≠ T' -> H b = some o -> cz H a T T' c b = some o:=λb o n1 n2 n3 e=>by
    unfold cz;rw [if_neg n1,if_neg n3,if_neg n2];exact e
  obtain⟨φ,ea⟩:=ea;obtain⟨ψ,eT⟩:=eT;refine⟨⟨R.len,R.lo,λb o e=>?_,R.eF,λb o e n=>?_,R.sh,λj xs e=>?_,R.dis,R.io,?_⟩,Jg⟩
  case refine_4 =>
    have up:∀b,H b ≠ none -> (∀φ,H b ≠ some (.ext φ)) -> cz H a T T' c b = H b:=λb h1 h2=>by
      cases q:H b with
      | none=>exact absurd q h1
      | some o =>
        refine same b o (λz=>h2 φ (z ▸ ea)) (λz=>h2 ψ (z ▸ eT)) (λz=>?_) q;rcases new with y | y
        · rw [z,y]at q;cases q
        · exact h2 ψ (by rw [z,y];exact eT)
    refine R.ob.step (ax.refl _) (λ_ _ e=>⟨e,rfl⟩) (λb hb=>⟨up b (R.ob.owned hb).2.1 λ_=>R.ob.vK hb,(R.ob.owned hb).1,(R.ob.owned hb).2.2⟩) R.ob.kc λb hb=>?_;unfold cz
    split
    · exactλz=>nomatch z
    split
    · exactλz=>nomatch z
    split
    · rename_i z;exact absurd (by rw [z];exact nT) (R.ob.xB b hb)
    · exact R.ob.there b hb
  · exact same b o (λz=>by rw [z,fa]at e;cases e) (λz=>by rw [z,fT]at e;cases e) (λz=>by rw [z,Jg.1]at e;cases e) (R.fr b o e)
  · exact same b o (λz=>by rw [z,na]at e;cases e) (λz=>by rw [z,nT]at e;cases e) (λz=>by rw [z,Jg.2]at e;cases e) (R.old b o e n)
  · obtain⟨b,vs,w1,w2,w3,w4,w5⟩:=R.own j xs e
    refine⟨b,vs,w1,same b _ (λz=>by rw [z,ea]at w2;cases w2) (λz=>by rw [z,eT]at w2;cases w2) (λz=>?_) w2,w3,w4,w5⟩
    rcases new with y | y
    · rw [z,y]at w2;cases w2
    · rw [z,y,eT]at w2;cases w2
end Vc
set_option Elab.async false
set_option linter.all false
set_option maxRecDepth 100000
namespace Vc
open PySem L2
variable [KF]
variable {G:GE} {k:Nat} {S:Stat}
noncomputable def iX(H:Hp) (a T:Addr) (c:Str):Hp:=λb=>if b = a then some (iY a c)else if b = T then none else H b
theorem tV{P:Program} {w:World} {fs:List Addr} {H:Hp} {h:Heap} {a T:Addr} {c:Str} (bo:eL P w H h) (f:qe h a T c) (ea:cW (H a)) (eT:cW (H T)):eL P w (iX H a T c) h /\ Un fs [a,T] H (iX H a T c) h h:=by
  obtain⟨φ,ea⟩:=ea;obtain⟨ψ,eT⟩:=eT;have other:∀b o,H b = some o -> (∀φ,o ≠ .ext φ) -> iX H a T c b = some o:=λb o e n=>by
    unfold iX;rw [if_neg (λz=>by subst z;rw [ea]at e;cases e;exact n _ rfl),if_neg (λz=>by subst z;rw [eT]at e;cases e;exact n _ rfl)]
    exact e
  refine⟨λb o e=>?_,⟨λb o e n n1 n2=>e,λb o e n hb n2=>⟨o.slots,e⟩,λb o e n n2=>?_,λb o e n2=>⟨o,e⟩,λb xs e=>other b _ e (λφ z=>by cases z),λb o u e=>other b _ e (λφ z=>by cases z),λb ps e=>⟨#[],by rw [other b _ e (λφ z=>by cases z)];simp⟩⟩⟩
  · unfold iX at e
    split at e
    · rename_i z;subst z;cases e
      obtain⟨o,vs,a0,y1,y2,_⟩:=f.ex;exact⟨⟨⟨o,y1,y2⟩,f.f2⟩,⟨o,y1⟩,λh1 h2 ⟨⟨o,z1,z2⟩,z3⟩ k=>⟨⟨o,k o z1,z2⟩,z3.mono k⟩⟩
    · split at e
      · cases e
      · exact(bo b o e).jV (λd u hd q=>q) (λd q=>other d _ q (λφ z=>by cases z)) (λd xs q=>other d _ q (λφ z=>by cases z)) λd o u q=>other d _ q (λφ z=>by cases z)
  · simp only [List.mem_cons,List.not_mem_nil,or_false,not_or]at n2
    unfold iX;rw [if_neg n2.1,if_neg n2.2];exact n
theorem RS.G7{Y:bM} {F:Hp} {ao:Sd} {σ:St} {H:Hp} {a T:Addr} {c:Str} (R:RS Y F ao σ H) (fa:F a = none) (fT:F T = none) (na:Y.H0 a = none) (nT:Y.H0 T = none) (ea:cW (H a)) (eT:cW (H T)):RS Y (upd F a (iY a c)) ao σ (iX H a T c):=by
  obtain⟨φ,ea⟩:=ea;obtain⟨ψ,eT⟩:=eT;have sm:=aP (o:=iY a c) fa;have same:∀b o,b ≠ a -> b ≠ T -> H b = some o -> iX H a T c b = some o:=λb o n1 n2 e=>by
    unfold iX;rw [if_neg n1,if_neg n2];exact e
  refine⟨R.len,R.lo.trans sm,λb o e=>?_,λb o e=>?_,λb o e n=>?_,λj d e=>?_,λj xs e=>?_,R.dis,R.io,?_⟩
  case refine_6 =>
    refine R.ob.step sm (λ_ _ e=>⟨e,rfl⟩) (λb hb=>?_) R.ob.kc λb hb=>?_
    · obtain⟨w1,w2,w3⟩:=R.ob.owned hb
      have n1:b ≠ a:=λz=>R.ob.vK hb (z ▸ ea);have n2:b ≠ T:=λz=>R.ob.vK hb (z ▸ eT);refine⟨?_,by rw [az n1];exact w1,w3⟩
      cases q:H b with
      | none=>exact absurd q w2
      | some o=>exact same b o n1 n2 q
    · unfold iX
      split
      · exactλz=>nomatch z
      split
      · rename_i z;exact absurd (by rw [z];exact nT) (R.ob.xB b hb)
      · exact R.ob.there b hb
  · by_cases hb:b = a
    · subst hb;rw [aW]at e;cases e
      unfold iX;rw [if_pos rfl]
    · rw [az hb]at e
      exact same b o hb (λz=>by rw [z,fT]at e;cases e) (R.fr b o e)
  · by_cases hb:b = a
    · rw [hb];exact .inr (.inl na)
    · rw [az hb]at e;exact R.eF b o e
  · exact same b o (λz=>by rw [z,na]at e;cases e) (λz=>by rw [z,nT]at e;cases e) (R.old b o e n)
  · obtain⟨v,h1,h2⟩:=R.sh j d e
    exact⟨v,h1,h2.mono sm⟩
  · obtain⟨b,vs,w1,w2,w3,w4,w5⟩:=R.own j xs e
    have nb:b ≠ a:=λz=>by rw [z,ea]at w2;cases w2
    exact⟨b,vs,w1,same b _ nb (λz=>by rw [z,eT]at w2;cases w2) w2,w3.mono sm,by rw [az nb];exact w4,w5⟩
theorem AA{X:Cx} {pins:List (Addr × Obj)} {σ:St} {H:Hp} {s:Shared} (I:L2.Inv X pins σ H s) {b:Addr} {φ:Heap -> Prop} (e:H b = some (.ext φ)) (l:X.bB.heap.get? b = none):
    (b ∈ X.ex \/ X.bB.heap.get? b = none) /\ b ≠ X.env.locals /\ (∀x c,X.env.cells.lookup x = some c -> c ≠ b) /\ ∀p ∈ X.pn ++ pins,p.1 ≠ b:=
  ⟨.inr l,(λz=>by rw [z,I.free]at e;cases e),(λx c q z=>by rw [<- z,I.cL x c q]at e;cases e),λp hp z=>by rw [<- z,(I.pin p hp).2.1]at e;cases e⟩
theorem pq{X:Cx} {pins:List (Addr × Obj)} {σ:St} {H:Hp} {s:Shared} (I:L2.Inv X pins σ H s) {a T:Addr} (ea:cW (H a)) (eT:cW (H T)) (la:X.bB.heap.get? a = none) (lT:X.bB.heap.get? T = none):
    ∀b ∈ [a,T],(b ∈ X.ex \/ X.bB.heap.get? b = none) /\ b ≠ X.env.locals /\ (∀x c,X.env.cells.lookup x = some c -> c ≠ b) /\ ∀p ∈ X.pn ++ pins,p.1 ≠ b:=λb hb=>by
  obtain⟨φ,ea⟩:=ea;obtain⟨ψ,eT⟩:=eT;simp only [List.mem_cons,List.not_mem_nil,or_false]at hb;rcases hb with rfl | rfl
  · exact AA I ea la
  · exact AA I eT lT
noncomputable def GF(L:List Str) (x:Str) (i:Nat) (tb:(Str -> Sd -> Prop) -> cJ) (th:cJ):cJ:=λDe σ =>
  tb (λc av=>(c ∈ L /\ eI c x = true) /\ th {nx:=λbh=>De.nx (bh.set i none),rt:=λ_ _=>False} (av.set i (some (.sh (.exc c))))) De σ
theorem Ld{L:List Str} {x n:Str} (i:Nat) {body wF:List Stmt} {b0:Stmt} {tb:(Str -> Sd -> Prop) -> cJ} {th:cJ} {np Jw pos:Pos} (Z:XCls G L) (Oj:x ∈ L)
    (hb:∀xW,dZ G k ⟨S.N,S.sc,S.ios,S.nD,false,false,xW⟩ body (tb xW)) (hs:dZ G k ⟨S.N,S.sc,S.ios,S.nD,true,true,λ_ _=>False⟩ (b0 :: wF) th)
    (hi:S.N[i]? = some n:=by rfl) (hn:S.sc.lookup n = some .local:=by rfl) (hg:S.sc.lookup x = some .globalImplicit:=by rfl) (me:(x == ("__debug__":Str)) = false:=by decide) (cM:i ∉ S.ios:=by first | decide | exact List.not_mem_nil | (dsimp only;decide)) (hh:S.kl = false:=by rfl) (Jk:S.nD = false:=by rfl):
    ES G k S (.Try body [.ExceptHandler (some (.Name x np)) (some n) (b0 :: wF) Jw] [] [] pos) (GF L x i tb th):=.mk λX Y ok pins s σ H D I q=>by
  obtain⟨F,ao,De,R,q,K⟩:=q;obtain⟨hex,qz,o7⟩:=ok.nx Jk;have Jp:∀p ∈ Y.io,p.1 ≠ i:=λp hp z=>cM (z ▸ ok.ios p hp);refine wpAny_Try_except ?_
  let Y1:bM:=⟨Y.H0,F,Y.io,Y.ob⟩
  have toY:∀ {F':Hp} {aQ:Sd} {bO:St} {H':Hp},RS Y1 F' aQ bO H' -> RS Y F' aQ bO H':=λR'=>⟨R'.len,R.lo.trans R'.lo,R'.fr,λb o e=>by
    rcases R'.eF b o e with z | z
    · exact R.eF b o z
    · exact .inr z,R'.old,R'.sh,R'.own,R'.dis,R'.io,⟨R'.ob.obj,R'.ob.xU,R'.ob.kc,R'.ob.there,R'.ob.xB,R'.ob.tab⟩⟩
  have R0:RS Y1 F ao σ H:=⟨R.len,ax.refl _,R.fr,λb o e=>.inl e,R.old,R.sh,R.own,R.dis,R.io,⟨R.ob.obj,R.ob.xU,R.ob.kc,R.ob.there,R.ob.xB,R.ob.tab⟩⟩;have K1:ny Y1 F De D:=⟨λσ H F' ao s R' q=>K.nx σ H F' ao s (toY R') q,λv σ H F' ao b s R' r q=>K.rt v σ H F' ao b s (toY R') (by cases b<;>exact r) q,λσ H F' ao s R' q=>K.bk σ H F' ao s (toY R') q,λσ H F' ao s R' q=>K.ct σ H F' ao s (toY R') q⟩
  let SX:Value -> Shared -> Prop:=λe s1=>wpAny (model X.prog X.w) X.A (noteFrame e X.env) (λ_ s2=>wpAny (model X.prog X.w) X.A (setFlight e none) (λ_ s3 =>
    wpAny (model X.prog X.w) X.A (handleBy e X.env [.ExceptHandler (some (.Name x np)) (some n) (b0 :: wF) Jw]) (SP X pins D) X.xe s3) X.xe s2) X.xe s1
  let xW:Str -> Sd -> Prop:=λc av=>(c ∈ L /\ eI c x = true) /\ th {nx:=λbh=>De.nx (bh.set i none),rt:=λ_ _=>False} (av.set i (some (.sh (.exc c))))
  have yH:cX (v8 X pins SX) G k ⟨S.N,S.sc,S.ios,S.nD,false,false,xW⟩ Y1:=by
    refine⟨ok.P,ok.w,ok.K,ok.kf,ok.mg,ok.base,ok.N,ok.sc,ok.nd,ok.ios,ok.obs,λ_=>ok.calm hh,ok.kind,ok.fn,λ_=>ok.hd hh,ok.dp,ok.un,λ_=>PassesOwn.looking,ok.nx,λc xq hx Qu av H1 F1 s1 a T I1 Pt fl=>?_,(λh=>nomatch h),λh=>nomatch h⟩;obtain⟨⟨Jl,Rc⟩,hq⟩:=hx;have R1:=toY Pt;have sF:ax F F1:=Pt.lo;have I2:L2.Inv X pins av H1 s1:=gG I.ok I1;have QY:X.A.frames = some (X.env :: X.outer):=by rw [<- qz];exact I.ok.frames
    have QV:s1.heap.FunFrames X.base (X.env :: X.outer):=by rw [<- qz];exact I2.stack
    refine vD QY o7 QV ⟨(I2.bo a _ fl.ha).1.1,(I2.bo T _ fl.hT).1,(I2.bo a _ fl.ha).1.2⟩ fl.ne λh2 T2 m2 f2=>?_;obtain⟨se,Hj⟩:=jw I2.bo m2 f2 (by rw [<- qz];exact I2.hG) ⟨_,fl.ha⟩ ⟨_,fl.hT⟩
    have I3:L2.Inv X pins av (cz H1 a T T2 c) {s1 with heap:=h2}:=I2.nE rfl (by rw [qz];exact Hj) se I2.bare (pq I2 ⟨_,fl.ha⟩ ⟨_,fl.hT⟩ fl.la fl.lT)
    obtain⟨R3,QT,Sg⟩:=R1.Px (T':=T2) (c:=c) fl.fa fl.fT fl.na fl.nT ⟨_,fl.ha⟩ ⟨_,fl.hT⟩ (m2.new.imp (dM I2.bo) id);have Qi:X.bB.heap.get? T2 = none:=m2.new.elim (λz=>gF I2 hex z) λz=>by rw [z];exact fl.lT
    have pC:cW (cz H1 a T T2 c a):=⟨_,by unfold cz;rw [if_pos rfl];rfl⟩
    have ND:cW (cz H1 a T T2 c T2):=⟨_,by unfold cz;rw [if_neg m2.ne,if_pos rfl];rfl⟩
    have Rw:PySem.W.excIn X.K (KF.cls c) lF "ValueError.__new__" = true:=by rw [ok.K];exact(Z.cls c Jl).exc
    have Rx:PySem.W.excIn X.K (KF.cls x) lF "ValueError.__new__" = true:=by rw [ok.K];exact(Z.cls x Oj).exc
    obtain⟨bm,N,nm,qn,bs,hd,sn,sub,ab,col,dd,k0,k1,k2,k3,k5,mN,hm,hC,_,_,_⟩:=lL I3.i7 Rw;obtain⟨HN,N',MF,Qv,Mh,td,MK,zI,Mf,xQ,Mi,P0,Qa,Qb,JH,Qc,Qo,Rq,hD,_,_,Jg⟩:=lL I3.i7 Rx;obtain⟨oe,vs,a0,e1,e2,_⟩:=f2.ex;refine wpAny_handleBy_cons (codeAny_handlers_test ?_) (by intro z;cases z)
    refine fz (X:=pD X a) (vo I3) (cc ok hg) (show X.mg x = some (.ref (KF.cls x))by rw [ok.mg];exact(Z.cls x Oj).mg) ?_ me
    refine Nq hC hD e1 e2 (by rw [List.contains_cons,Jg.hasType (b:=true) ∅,Bool.or_true]) (by rw [<- hm,ok.K,Z.sub Jl Oj];exact Rc) ?_
    refine codeAny_handlers_suite_as ?_;have QX:h2.FunFrames X.base (X.env :: X.outer):=by have:=I3.stack;rw [qz]at this;exact this
    refine rN (outer:=X.outer) (env:=X.env) (base:=X.base) QX f2 m2.ne.symm λh3 T3 m3 f3=>?_;obtain⟨Jv,Ph⟩:=jw se m3 f3 (by rw [<- qz];exact I3.hG) pC ND
    have I4:L2.Inv X pins av (cz (cz H1 a T T2 c) a T2 T3 c) {s1 with heap:=h3}:=I3.nE rfl (by rw [qz];exact Ph) Jv I3.bare (pq I3 pC ND fl.la Qi)
    obtain⟨R4,QU,Sh⟩:=R3.Px (T':=T3) (c:=c) fl.fa QT fl.na Sg pC ND (m3.new.imp (dM I3.bo) id);have RU:X.bB.heap.get? T3 = none:=m3.new.elim (λz=>gF I3 hex z) λz=>by rw [z];exact Qi
    have NK:cW (cz (cz H1 a T T2 c) a T2 T3 c a):=⟨_,by unfold cz;rw [if_pos rfl];rfl⟩
    have NF:cW (cz (cz H1 a T T2 c) a T2 T3 c T3):=⟨_,by unfold cz;rw [if_neg m3.ne,if_pos rfl];rfl⟩
    obtain⟨Ob,SV⟩:=tV (fs:=gq X.stack) Jv f3 NK NF;have I5:L2.Inv X pins av (iX (cz (cz H1 a T T2 c) a T2 T3 c) a T3 c) {s1 with heap:=h3}:=I4.nE rfl SV Ob I4.bare (pq I4 NK NF fl.la RU)
    have R5:=R4.G7 (c:=c) fl.fa QU fl.na Sh NK NF;have SJ:ax F (upd F1 a (iY a c)):=sF.trans (aP fl.fa);have lc:S.sc.lookup n = some .local \/ (S.sc.lookup n = some .cell /\ S.nD = false):=.inl hn;refine hR (X:=pD X a) (i:=i) (v:=.ref a) (vo I5) (by show X.N.Nodup;rw [ok.N];exact ok.nd) (by show X.N[i]? = some n;rw [ok.N];exact hi) (my ok lc) rfl (λs4 I6=>?_) (lZ ok lc)
    have R6:=R5.oM (i:=i) (d:=.exc c) (v:=.ref a) (.exc aW) Jp
    let Yh:bM:=⟨Y.H0,upd F1 a (iY a c),Y.io,Y.ob⟩
    have toYh:∀ {F':Hp} {aQ:Sd} {bO:St} {H':Hp},RS Yh F' aQ bO H' -> RS Y F' aQ bO H':=λR'=>⟨R'.len,R6.lo.trans R'.lo,R'.fr,λb o e=>by
      rcases R'.eF b o e with z | z
      · exact R6.eF b o z
      · exact .inr z,R'.old,R'.sh,R'.own,R'.dis,R'.io,⟨R'.ob.obj,R'.ob.xU,R'.ob.kc,R'.ob.there,R'.ob.xB,R'.ob.tab⟩⟩
    have R7:RS Yh (upd F1 a (iY a c)) _ _ _:=⟨R6.len,ax.refl _,R6.fr,λb o e=>.inl e,R6.old,R6.sh,R6.own,R6.dis,R6.io,⟨R6.ob.obj,R6.ob.xU,R6.ob.kc,R6.ob.there,R6.ob.xB,R6.ob.tab⟩⟩;have Sr:cX (pD X a) G k ⟨S.N,S.sc,S.ios,S.nD,true,true,λ_ _=>False⟩ Yh:=
      ⟨ok.P,ok.w,ok.K,ok.kf,ok.mg,ok.base,ok.N,ok.sc,ok.nd,ok.ios,ok.obs,(λh=>nomatch h),ok.kind,ok.fn,(λh=>nomatch h),ok.dp,ok.un,(λh=>nomatch h),ok.nx,(λ_ _ h=>h.elim),(λ_ _ _ h=>h.elim),λ_ _=>⟨a,c,rfl,aW⟩⟩
    let Dh:Ends:={nx:=λσ H=>∃F' aQ,ax (upd F1 a (iY a c)) F' /\ RS Y F' aQ σ H /\ De.nx (aQ.set i none),rt:=λ_ _=>False}
    have run:=hs (pD X a) Yh Sr pins s4 _ _ Dh I6 ⟨_,_,_,R7,hq,⟨λσ H F' ao s R q=>⟨F',ao,s,toYh R,q⟩,λ_ _ _ _ _ _ _ _ _ h=>h,λ_ _ _ _ _ _ h=>h,λ_ _ _ _ _ _ h=>h⟩⟩;refine wpAny_mono run (λf s5 h=>?_) λ_ _ z=>z.elim;cases f with
    | next =>
      obtain⟨tu,H7,I7,F7,Pl,SM,R7,q7⟩:=h;exact x9 (yg I.ok I7) (by rw [ok.N];exact ok.nd) (by rw [ok.N];exact hi) (by show X.env.scope.names.lookup n = _;rw [ok.sc];exact hn) λs8 I8=>⟨_,H7,I8,K.nx _ _ F7 (Pl.set i none) (SJ.trans SM) (R7.gone Jp) q7⟩
    | brk=>obtain⟨_,_,_,z⟩:=h;exact False.elim z
    | cont=>obtain⟨_,_,_,z⟩:=h;exact False.elim z
    | ret u=>obtain⟨_,_,_,_,_,z⟩:=h;exact False.elim z
  have run:=hb xW _ Y1 yH [] s σ H D (Fo I) ⟨F,ao,De,R0,q,K1⟩;refine wpAny_mono run (λf s1 h=>?_) λe s1 h=>h;have h:=wB I.ok h;cases f with
  | next=>exact wpAny_execs_nil h
  | brk=>exact h
  | cont=>exact h
  | ret u=>exact h
end Vc
set_option Elab.async false
set_option linter.all false
set_option maxRecDepth 100000
namespace Vx
open PySem PySem.W PySem.Calls PySem.Spec PyProof.Rows Builtin Builtin.ObjectAttr Builtin.Getset_descriptor
noncomputable def cQ(K:PySem.W.Frag) (C:Addr):Bool:=
  PySem.W.findIn K (.ref C) "__getattribute__" == some (some (.builtin "BaseException.__getattribute__")) && PySem.W.findIn K (.ref C) "__getattr__" == some none && PySem.W.findIn K (.ref C) "__class__" == some (some (.builtin "object.__class__")) &&
  PySem.W.mroIn K C (.type "object") == some true && PySem.W.mroIn K C (.type "BaseException") == some true && PySem.W.typeIn K (.ref C) == some (.type "type")
section
variable {prog:Program} {w:World} {A:Around} {E:Value -> Shared -> Prop} {h:Heap} {g:Array GenState} {d:Drawn} {t:Nat} {os:OsState} {K:PySem.W.Frag} {x C:Addr} {o:Obj}
theorem Pj{R:Result -> Shared -> Prop} {tp:Value} (Z:K.In h) (hx:h.get? x = some o) (hc:o.cls = .ref C) (hm:PySem.W.mroIn K C (.type "object") = some true) (q:R (.ok (.ret (.ref C))) ⟨h,g,d,t,os⟩):
    codeAny (model prog w) A (.call (.builtin "getset_descriptor.__get__") ⟨[.builtin "object.__class__",.ref x,tp],[]⟩) R ⟨h,g,d,t,os⟩:=by
  have L0:Looks (model prog w) h (typeOf (.ref x)) (.ref C):=hc ▸ (Looks.ld hx).andThen .now;have L1:=PySem.W.looks_mroIn (M:=model prog w) Z hm;refine codeAny_call_builtin PySem.W.KF.slot_gs.plain PySem.W.KF.entry_gs (PySem.W.KF.slot_gs.check _ _ _ _ _ _ _ _ PySem.W.KF.type_class (PySem.W.KF.args_gs _ _ _) ?_);unfold Builtin.«getset_descriptor.__get__» descrGet;rw [PySem.W.dga_obj];refine wpAny_bind (wpAny_pure ?_);unfold descrGetter descrCheckInstance descrNameAndClass isInstance;simp only [PySem.W.KF.owner_class]
  repeat lk
  refine⟨Code.quiet_builtin _ (by decide +kernel),codeAny_builtin KF.entry_class ?_⟩
  unfold Builtin.«object.__class__» shownTypeOf
  repeat lk
  exact q
theorem G2{tk:Tok} {Q:Fin -> Shared -> Prop} (Z:K.In h) (hx:h.get? x = some o) (hc:o.cls = .ref C) (hl:PySem.W.findIn K (.ref C) "__class__" = some (some (.builtin "object.__class__"))) (hm:PySem.W.mroIn K C (.type "object") = some true)
    (q:Q (.done (.ret (.ref C))) ⟨h,g,d,t,os⟩):wpAny (model prog w) A (Builtin.«object.__getattribute__» ⟨[.ref x,.str "__class__" tk],[]⟩) Q E ⟨h,g,d,t,os⟩:=by
  have L0:Looks (model prog w) h (typeOf (.ref x)) (.ref C):=hc ▸ (Looks.ld hx).andThen .now;have L1:=looks_findIn (M:=model prog w) Z hl;have f5:typeOf (.builtin "object.__class__") = pure (.type "getset_descriptor"):=KF.type_class;have f6:=F.slot_gs_get.lookup;have f7:=F.slot_gs_set.lookup
  repeat (any_goals (first | assumption | with_reducible refine L0.at ?_ | with_reducible refine L1.at ?_ | (with_reducible refine wpAny_loadPart_at hx ?_;rw [hc]) | wp_step))
  refine Pj Z hx hc hm ?_
  repeat (any_goals (first | assumption | wp_step))
theorem G1{M:Model} {v:Value} {Q:Unit -> Shared -> Prop} (Z:K.In h) (hx:h.get? x = some o) (hc:o.cls = .ref C) (hb:PySem.W.mroIn K C (.type "BaseException") = some true) (q:Q () ⟨h,g,d,t,os⟩):
    wpAny M A (checkBuiltinCall "BaseException.__getattribute__" ⟨[.ref x,v],[]⟩) Q E ⟨h,g,d,t,os⟩:=by
  have hk:builtinKind "BaseException.__getattribute__" = some .slot:=by decide +kernel
  have hs:splitId "BaseException.__getattribute__" = some ("BaseException","__getattribute__"):=by decide +kernel
  have L1:=looks_mroIn (M:=M) Z hb;have ha:=F.args_bexc_ga (.ref x) v;simp only [checkBuiltinCall,hk,hs];refine wpAny_bind ?_;unfold isInstance
  repeat (first | with_reducible refine L1.at ?_ | (with_reducible refine wpAny_loadPart_at hx ?_;rw [hc]) | wp_step)
  exact q
theorem L7{tk:Tok} {R:Result -> Shared -> Prop} (Z:K.In h) (hx:h.get? x = some o) (hc:o.cls = .ref C) (hl:PySem.W.findIn K (.ref C) "__class__" = some (some (.builtin "object.__class__"))) (hm:PySem.W.mroIn K C (.type "object") = some true)
    (hb:PySem.W.mroIn K C (.type "BaseException") = some true) (q:R (.ok (.ret (.ref C))) ⟨h,g,d,t,os⟩):
    codeAny (model prog w) A (.call (.builtin "BaseException.__getattribute__") ⟨[.ref x,.str "__class__" tk],[]⟩) R ⟨h,g,d,t,os⟩:=
  codeAny_call_builtin F.excAttr_ValueError.ga.plain F.entry_bexc_ga (G1 Z hx hc hb (G2 Z hx hc hl hm q))
theorem SW{tk:Tok} {fill expr:Bool} {Q:Value -> Shared -> Prop} (Z:K.In h) (hx:h.get? x = some o) (hc:o.cls = .ref C) (NT:PySem.W.findIn K (.ref C) "__getattribute__" = some (some (.builtin "BaseException.__getattribute__"))) (NU:PySem.W.findIn K (.ref C) "__getattr__" = some none)
    (hl:PySem.W.findIn K (.ref C) "__class__" = some (some (.builtin "object.__class__"))) (hm:PySem.W.mroIn K C (.type "object") = some true) (hb:PySem.W.mroIn K C (.type "BaseException") = some true) (q:Q (.ref C) ⟨h,g,d,t,os⟩):
    wpAny (model prog w) A (getAttrBy (.ref x) (.str "__class__" tk) fill expr) Q E ⟨h,g,d,t,os⟩:=by
  have L0:Looks (model prog w) h (typeOf (.ref x)) (.ref C):=hc ▸ (Looks.ld hx).andThen .now;have L1:=looks_findIn (M:=model prog w) Z NT;have L2:=looks_findIn (M:=model prog w) Z NU;have f3:=F.excAttr_ValueError.ga.bind (.ref x);have Hb:(expr && onTheHeap (Value.builtin "BaseException.__getattribute__")) = false:=by cases expr<;>rfl
  have Dp:(Value.builtin "BaseException.__getattribute__" == Value.builtin "object.__getattribute__") = false:=by decide +kernel
  have PX:(onTheHeap (Value.ref C) && Value.builtin "BaseException.__getattribute__" == Value.builtin "object.__getattribute__") = false:=by rw [Dp];rfl
  repeat (any_goals (first | assumption | with_reducible refine L1.at ?_ | with_reducible refine L2.at ?_ | (with_reducible refine wpAny_loadPart_at hx ?_;rw [hc]) | wp_step))
  refine L7 Z hx hc hl hm hb ?_
  repeat (any_goals (first | assumption | wp_step))
theorem L6{Q:Option Value -> Shared -> Prop} (Z:K.In h) (hx:h.get? x = some o) (hc:o.cls = .ref C) (NT:PySem.W.findIn K (.ref C) "__getattribute__" = some (some (.builtin "BaseException.__getattribute__"))) (NU:PySem.W.findIn K (.ref C) "__getattr__" = some none)
    (hl:PySem.W.findIn K (.ref C) "__class__" = some (some (.builtin "object.__class__"))) (hm:PySem.W.mroIn K C (.type "object") = some true) (hb:PySem.W.mroIn K C (.type "BaseException") = some true) (q:Q (some (.ref C)) ⟨h,g,d,t+1,os⟩):
    wpAny (model prog w) A (getAttr? (.ref x) "__class__") Q E ⟨h,g,d,t,os⟩:=by
  unfold getAttr? getAttrBy?
  repeat (any_goals (first | assumption | with_reducible apply SW Z hx hc NT NU hl hm hb | wp_step))
theorem Ow(e:cQ K C = true):KitX K (.ref x) (.ref C) (λh=>∃o,h.get? x = some o /\ o.cls = .ref C):=by
  unfold cQ at e;simp only [Bool.and_eq_true,beq_iff_eq]at e;obtain⟨⟨⟨⟨⟨e1,e2⟩,e3⟩,e4⟩,e5⟩,e6⟩:=e;obtain⟨cd,jc,_⟩:=Option.bind_eq_some_iff.mp e4;obtain⟨oc,ho,hd⟩:∃oc,K.lookup C = some oc /\ oc.data = .cls cd:=by
    unfold clsIn at jc
    split at jc
    · rename_i c' d' S4 Qw ho
      cases jc;exact⟨_,ho,rfl⟩
    · cases jc
  refine⟨λM h Z ⟨o,h1,h2⟩=>h2 ▸ (Looks.ld h1).andThen .now,λM h Z _=>?_,λh tp dd its n sl Z RG=>?_,?_⟩
  · intro A' Q' E' s' k q
    unfold isType loadHead;refine wpAny_bind (wpAny_loadPart (k _ _ (Z _ _ ho)) (wpAny_pure ?_));rw [hd];exact q
  · refine Bool.eq_false_iff.mpr λq=>?_
    have e:C = tp:=Value.ref.inj (beq_iff_eq.mp q);subst e;have z:=(Z _ _ ho).symm.trans RG;cases z;cases hd
  · intro prog w A E Q s Z ⟨o,h1,h2⟩ q
    obtain⟨hh,g,d,t,os⟩:=s;exact L6 Z h1 h2 e1 e2 e3 e4 e5 q
end
end Vx
set_option Elab.async false
set_option linter.all false
set_option maxRecDepth 100000
namespace Vc
open PySem L2
variable [KF]
variable {G:GE} {k:Nat} {S:Stat}
structure gk(G:GE) (L:List Str):Prop extends XCls G L where
  look:∀c ∈ L,Vx.cQ G.K (KF.cls c) = true
theorem qL{K:PySem.W.Frag} {C:Addr} {l:List Value} {v:Value} (h:mroIn K C = v :: l) (base:Value):PySem.W.mroIn K C base = some ((v :: l).contains base):=by
  unfold mroIn at h;unfold PySem.W.mroIn PySem.W.clsIn
  split at h
  · rename_i e
    rw [e];show(if _ then _ else _) = _
    rw [h];rfl
  · cases h
theorem qJ{K:PySem.W.Frag} {C:Addr} (e:Vx.cQ K C = true):PySem.W.typeIn K (.ref C) = some (.type "type") /\ (PySem.W.clsIn K C).isSome = true:=by
  unfold Vx.cQ at e;simp only [Bool.and_eq_true,beq_iff_eq]at e;obtain⟨⟨⟨⟨⟨e1,e2⟩,e3⟩,e4⟩,e5⟩,e6⟩:=e;obtain⟨cd,jc,_⟩:=Option.bind_eq_some_iff.mp e4;exact⟨e6,by rw [jc];rfl⟩
theorem gk.RT{L:List Str} (Z:gk G L) {c d:Str} (hc:c ∈ L) (hd:d ∈ L):PySem.W.kitOne G.K (.ref (KF.cls c)) (.ref (KF.cls d)) = some (eI c d):=by
  unfold PySem.W.kitOne
  split
  · rename_i e
    have e:=Value.ref.inj (beq_iff_eq.mp e);rw [Z.inj c hc d hd e];unfold eI;simp
  · obtain⟨h1,h2⟩:=qJ (Z.look d hd)
    show(if _ then PySem.W.mroIn G.K (KF.cls c) (.ref (KF.cls d))else none) = _
    rw [if_pos (by rw [h1,h2];rfl)]
    have hm:=Z.mro c hc;rw [qL hm,<- hm,Z.sub hc hd]
theorem gk.Ov{L:List Str} (Z:gk G L) {c:Str} (hc:c ∈ L):PySem.W.kitOne G.K (.ref (KF.cls c)) (.type "ValueError") = some true:=by
  unfold PySem.W.kitOne;rw [if_neg (by rw [beq_iff_eq];intro z;cases z)]
  show(if PySem.W.kitMeta "ValueError" = true then PySem.W.mroIn G.K (KF.cls c) (.type "ValueError")else none) = _
  rw [if_pos (by decide +kernel),qL (Z.mro c hc)]
  have:((Value.ref (KF.cls c)) :: ((if c = "NearError" then []else [Value.ref (KF.cls "NearError")]) ++ lF)).contains (.type "ValueError") = true:=by
    rw [List.contains_iff_mem];exact .tail _ (List.mem_append_right _ (.head _))
  rw [this]
theorem DW{K:PySem.W.Frag} {C:Addr} (e:Vx.cQ K C = true) {d:D} {T:String} (h:sR d = some T):PySem.W.kitOne K (.type T) (.ref C) = some false:=by
  obtain⟨h1,h2⟩:=qJ e;unfold PySem.W.kitOne;rw [if_neg (by rw [beq_iff_eq];intro z;cases z)]
  show(if _ then(fastBuiltinMro T).map (λl:List Value=>l.contains (.ref C))else none) = _
  rw [if_pos (by rw [h1,h2];rfl)]
  cases d<;>cases h<;>rfl
noncomputable def AO(L:List Str) (u:Str) (d:D) (Q:Bool -> Prop):Prop:=match d with
  | .exc c=>c ∈ L /\ Q (eI c u)
  | d=>(sR d).isSome = true /\ Q false
noncomputable def eE(L:List Str) (u:Str) (t:TV):TB:=λσ Q=>t σ λx av=>match cw av x with
  | some d=>AO L u d λb=>Q b av
  | none=>False
noncomputable def AK(L:List Str) (d:D) (Q:Bool -> Prop):Prop:=match d with
  | .exc c=>c ∈ L /\ Q true
  | d=>(sR d).isSome = true /\ Q false
noncomputable def wI(L:List Str) (t:TV):TB:=λσ Q=>t σ λx av=>match cw av x with
  | some d=>AK L d λb=>Q b av
  | none=>False
theorem bP.exc{F H:Hp} {v:V} {c:Str} (r:bP F H v (.exc c)):∃a,v = .ref a /\ F a = some (iY a c):=by
  cases(show Rep F v (.exc c)from r)with
  | exc h=>exact⟨_,rfl,h⟩
theorem vt{X:Cx} {L:List Str} {w:Value} {fd:D -> Bool} (hK:X.K = G.K) (Z:gk G L) (hc:∀c ∈ L,PySem.W.kitOne X.K (.ref (KF.cls c)) w = some (fd (.exc c))) (hn:∀d T,sR d = some T -> PySem.W.kitOne X.K (.type T) w = some (fd d)):
    cb X (.builtin "isinstance") (λvs H Q=>∃F x y d,vs = [x,y] /\ (∀u,RelV y u -> u = w) /\ ax F H /\ bP F H x d /\ (match d with | .exc c=>c ∈ L | d=>(sR d).isSome = true) /\ Q (.bl (fd d)) H):=by
  intro pins s σ H xs us Q I r q;obtain⟨F,x,y,d,rfl,hy,sm,rx,hd,q⟩:=q;obtain⟨a,b,rfl,ra,rb⟩:=vals2 r;obtain rfl:=hy b rb
  by_cases he:∃c,d = .exc c
  · obtain⟨c,rfl⟩:=he
    have Jl:c ∈ L:=hd;obtain⟨p,rfl,hF⟩:=rx.exc;cases ra;obtain⟨⟨⟨o,h1,h2⟩,_⟩,_⟩:=I.bo p _ (sm p _ hF);exact PySem.W.kia_one (Vx.Ow (by rw [hK];exact Z.look c Jl)) I.i7 ⟨o,h1,h2⟩ (hc c Jl) (λz=>nomatch z) λtk=>⟨.bl _,H,I.tok tk,rfl,q⟩
  · have td:(sR d).isSome = true:=by
      cases d<;>first | exact hd | exact absurd ⟨_,rfl⟩ he
    obtain⟨T,et⟩:=Option.isSome_iff_exists.mp td;exact kQ I ra (rx.ty sm X.K et) (hn d T et) λtk=>⟨.bl _,H,I.tok tk,rfl,q⟩
theorem dA{e:Expr} {t:TV} {u:Str} {L:List Str} {p p2 pos:Pos} (h:EO G k S e t) (Z:gk G L) (hu:u ∈ L) (hm:G.mg "isinstance" = none) (hd2:(u == ("__debug__":Str)) = false:=by decide)
    (hg:S.sc.lookup ("isinstance":Str) = some .globalImplicit:=by rfl) (ye:S.sc.lookup u = some .globalImplicit:=by rfl)
    (he:∀env,starEach [e,.Name u p2] env = (false,eval e env) :: starEach [.Name u p2] env:=by intro _;rfl):EO G k S (.Call (.Name "isinstance" p) [e,.Name u p2] [] pos) (bV (eE L u t)):=.mk λX Y ok=>by
  have ha:PA X [e,.Name u p2] (cv (lO Y t) (cv (tC (.ref (KF.cls u))) hX)):=bA (h X Y ok) (bA (qR (cc ok ye) (by rw [ok.mg];exact(Z.cls u hu).mg) (show RelV (.ref (KF.cls u)) (.ref (KF.cls u))from rfl) hd2) cG rfl) (he _)
  have hc:=vt (X:=X) (L:=L) (w:=.ref (KF.cls u)) (fd:=λd=>match d with | .exc c=>eI c u | _=>false) ok.K Z (λc hc=>by rw [ok.K];exact Z.RT hc hu) (λd T e=>by
    rw [ok.K,DW (Z.look u hu) e];cases d<;>first | rfl | cases e)
  refine aY (de hc (cc ok hg) (by rw [ok.mg];exact hm) (by decide +kernel) ha ∅ ∅ (he _) rfl) λσ H Q q=>?_
  obtain⟨F,ao,Qd,R,q,K⟩:=q;refine⟨F,ao,_,R,q,λv1 H1 F1 x av s1 R1 r1 q1=>?_⟩
  split at q1
  · rename_i d ed
    refine⟨F1,v1,_,d,rfl,λu e=>e,R1.fr,R1.cw r1 ed,?_,?_⟩
    · cases d<;>exact q1.1
    · refine K _ H1 F1 (.val (.bl _)) av s1 R1 (.bl _) ?_
      cases d<;>exact q1.2
  · exact q1.elim
theorem DV:cE "ValueError":=λK=>⟨by rfl,by rfl,by rfl,by rfl,by rfl,by rfl⟩
theorem FL{e:Expr} {t:TV} {L:List Str} {p p2 pos:Pos} (h:EO G k S e t) (Z:gk G L) (hm:G.mg "isinstance" = none) (Dg:G.mg "ValueError" = none)
    (hg:S.sc.lookup ("isinstance":Str) = some .globalImplicit:=by rfl) (ye:S.sc.lookup ("ValueError":Str) = some .globalImplicit:=by rfl)
    (he:∀env,starEach [e,.Name "ValueError" p2] env = (false,eval e env) :: starEach [.Name "ValueError" p2] env:=by intro _;rfl):EO G k S (.Call (.Name "isinstance" p) [e,.Name "ValueError" p2] [] pos) (bV (wI L t)):=.mk λX Y ok=>by
  have ha:PA X [e,.Name "ValueError" p2] (cv (lO Y t) (cv (tC (.ty "ValueError")) hX)):=bA (h X Y ok) (bA (je (cc ok ye) (by rw [ok.mg];exact Dg) (by decide +kernel) (show RelV (.ty "ValueError") (.type "ValueError")from rfl) ∅ ∅) cG rfl) (he _)
  have hc:=vt (X:=X) (L:=L) (w:=.type "ValueError") (fd:=λd=>match d with | .exc c=>true | _=>false) ok.K Z (λc hc=>by rw [ok.K];exact Z.Ov hc) (λd T e=>by
    rw [DV.of X.K e];cases d<;>cases e<;>rfl)
  refine aY (de hc (cc ok hg) (by rw [ok.mg];exact hm) (by decide +kernel) ha ∅ ∅ (he _) rfl) λσ H Q q=>?_
  obtain⟨F,ao,Qd,R,q,K⟩:=q;refine⟨F,ao,_,R,q,λv1 H1 F1 x av s1 R1 r1 q1=>?_⟩
  split at q1
  · rename_i d ed
    refine⟨F1,v1,_,d,rfl,λu e=>e,R1.fr,R1.cw r1 ed,?_,?_⟩
    · cases d<;>exact q1.1
    · refine K _ H1 F1 (.val (.bl _)) av s1 R1 (.bl _) ?_
      cases d<;>exact q1.2
  · exact q1.elim
end Vc
set_option Elab.async false
set_option linter.all false
set_option maxRecDepth 100000
namespace Vc
open PySem L2
variable [KF]
variable {G:GE} {k:Nat} {S:Stat}
structure tB(P:Program) (w:World) (K:PySem.W.Frag) (mg:Str -> Option Value) (base:Heap) (k:Nat) (f:Addr) (fd:FuncData) (ps:List Str) (sp:Sp):Prop where
  len:∀vs H Q E,sp vs H Q E -> vs.length = ps.length
  run:∀(A:Around) (outer:List Env) (s:Shared) (H:Hp) (args:Args) (us:List Value) (vs:List V) (Q:VK) (E:XK),A.depth+3*k+5<recursionLimit -> A.units+16*k+200<cLine -> rJ P w K mg base A outer s H ->
    BindsTo s fd args (ps.zip us) -> Vals vs us -> sp vs H Q E -> codeAny (model P w) A (.call (.ref f) args) (CR qd outer P w H s Q E) s
noncomputable def A9(G:GE) (k:Nat) (x:Str) (sp:b7):Prop:=∃f fd ps,tB G.P G.w G.K G.mg G.base k f fd ps (m5 sp) /\ G.mg x = some (.ref f) /\ PySem.W.keepIn G.K (.ref f) = true /\ Binds G.K fd ps []
theorem A9.mono{x:Str} {sp:b7} {j:Nat} (h:A9 G j x sp) (l:j <= k):A9 G k x sp:=by
  obtain⟨f,fd,ps,h1,h2,h3,h4⟩:=h;exact⟨f,fd,ps,⟨h1.len,λA outer s H args us vs Q E d u=>h1.run A outer s H args us vs Q E ⋯ ⋯⟩,h2,h3,h4⟩
theorem zu{x:Str} {sp:b7} {e:Expr} {es:List Expr} {t:fq} {p pos:Pos} (h:A9 G k x sp) (ha:rH G k S (e :: es) t) (hg:S.sc.lookup x = some .globalImplicit:=by rfl) (me:(x == ("__debug__":Str)) = false:=by decide)
    (he:∀env,starEach (e :: es) env = (false,eval e env) :: starEach es env:=by exactλ_=>Vc.dv rfl) (i3:∀env,(backTo pos (starEach es env)).any (·.1) = false:=by intro _;rfl):
    EX G k S (.Call (.Name x p) (e :: es) [] pos) (cV sp t):=.mk λX Y ok pins s σ H Q I q=>by
  obtain⟨f,fd,ps,h1,h2,h3,h4⟩:=h;have CY:tB X.prog X.w X.K X.mg X.base k f fd ps (m5 sp):=by rw [ok.P,ok.w,ok.K,ok.mg,ok.base];exact h1
  obtain⟨F,ao,Qd,R,q,K⟩:=q;refine wpAny_Call_Name_kw (fz I (cc ok hg) (by rw [ok.mg];exact h2) ?_ me)
  refine PySem.W.callWith_K (h₀:=X.base) I.ok.mod.DU (by rw [ok.K];exact h3) (cp (ha X Y ok pos pins s σ H (λvs H1=>∃F1 ds av,ax F F1 /\ RS Y F1 av σ H1 /\ aM F1 vs ds /\ Cl sp ds λb=>Qd (bE b) av) I
    ⟨F,ao,_,R,q,λvs H1 F1 ds av s1 R1 r1 q1=>⟨F1,ds,av,s1,R1,r1,q1⟩⟩) λus s1 ⟨vs,H1,I1,r,F1,ds,av,GB,R1,r1,q1⟩=>⟨I1.i7,?_⟩) (he _) (i3 _)
  have oo:m5 sp vs H1 Q E0:=by
    refine⟨F1,ds,_,⟨R1.fr,R1.ob.tab⟩,r1,q1,λv H' F' b s2 s3 s4 fr r2 q2=>?_⟩;have R2:=R1.call s2 s3 s4 fr;cases b with
    | sh d=>exact K v H' F' (.val d) av (GB.trans s2) R2 r2 q2
    | own xs =>
      obtain⟨a,us,rfl,w1,w2,w3,w4⟩:=r2;refine K _ H' F' (.own xs) av (GB.trans s2) R2 ⟨a,us,rfl,w1,w2,w3,(R1.cA w4).1,R1.d8 w4⟩ q2
    | obj o =>
      obtain⟨a,rfl,w1,w2⟩:=r2;exact K _ H' F' (.obj o) av (GB.trans s2) R2 ⟨a,rfl,w1,λb hb=>⟨(w2 b hb).1,(w2 b hb).2.1,(R1.cA (w2 b hb).2.2).1,R1.d8 (w2 b hb).2.2⟩⟩ q2
  have hl:us.length = ps.length:=by rw [<- r.length];exact CY.len _ _ _ _ oo
  have hb:=h4 s1 us (by rw [<- ok.K];exact I1.i7) (by rw [List.append_nil];exact hl)
  rw [List.append_nil]at hb;refine wpAny_call (codeAny_mono (CY.run X.A X.stack s1 H1 ⟨us,[]⟩ us vs Q E0 ok.dp ok.un I1.Cw hb r oo) λr s' hq=>?_);cases r with
  | error e=>exact False.elim hq
  | ok fl =>
    cases fl with
    | ret u=>exact I1.after hq
    | next=>exact False.elim hq
    | brk=>exact False.elim hq
    | cont=>exact False.elim hq
theorem CP{x qual:Str} {st:Stmt} {f:Addr} {fd:FuncData} {N ps:List Str} {sp:b7} {t:cJ} (hK:G.K = KF.K) (Fn:xF G.K x qual st f fd) (Sc:aV N ps (ai st)) (ht:dZ G k ⟨N,(ai st).names,[],false,true,false,λ_ _=>False⟩ (ay st) t)
    (len:∀ds Q,sp ds Q -> ds.length = ps.length)
    (body:∀ds Q,sp ds Q -> t {nx:=λ_=>Q (.sh .bt),rt:=λb _=>Q b} (a4 N.length ds)):tB G.P G.w G.K G.mg G.base (k+1) f fd ps (m5 sp):=by
  obtain⟨oc,od,kV,doc,pm,an,fS,ct,vP,rfl,lk,jc⟩:=Fn.ex;have JT:∀vs H Q E,m5 sp vs H Q E -> vs.length = ps.length:=λvs H Q E h=>by
    obtain⟨F,ds,Qd,s,r,q,K⟩:=h;rw [r.length];exact len _ _ q
  refine⟨JT,λA outer s H args us vs Q E Tc Tq e0 hb r oo=>?_⟩;have hl:=JT _ _ _ _ oo;have KX:G.K.In s.heap:=e0.mod.DU.keeps λb o e=>(e0.bs b o e).1;have lim:s.heap.NoLimit:=e0.mod.nolimit.keeps λb o e=>(e0.bs b o e).1;have vm:∀y ∈ ps.zip us,(ai st).names.lookup y.1 = some .local \/ ((ai st).names.lookup y.1 = some .cell /\ ((cellsFrom (s.heap.objs.size+1) (ai st).names []).lookup y.1).isSome = true):=λ⟨n,v⟩ hy=>by
    rcases Sc.par n (List.of_mem_zip hy).1 with q | q
    · exact .inl q
    · exact .inr ⟨q,PySem.W.cellsFrom_some _ _ _ (.inl q)⟩
  refine codeAny_call_function ⋯ (KX _ _ lk) rfl Sc.co Sc.gen rfl (PySem.W.codeRec_of KX jc) (hb _ _ _ _ ?_)
  refine wpAny_newFunctionEnv_cells Sc.kind vm λenv he s1 x=>?_;subst he;refine⟨lim.keeps x.toInCall.keep,codeAny_func ?_⟩;have e1:rJ G.P G.w G.K G.mg G.base {A with handled:=none} outer s H:=⟨e0.frames,e0.mod,e0.bs,e0.rQ,e0.fI,e0.uW,e0.bo,e0.bare⟩
  have J:=kO (CX:=qd) (E:=E) (N:=N) (qual:=qual) (f:=f) (cd:=fS) Sc (A:={A with handled:=none}) rfl e1 hl r x
  let X:Cx:={lQ qd G.P G.w G.K G.mg G.base N qual (ai st) f fS A outer s H E with calm:=false,xe:=λ_ _=>False}
  have fr:X.A.frames = some X.stack:=Around.frames_deeper e0.frames;have I:L2.Inv X [] (start N vs) H s1:=
    ⟨⟨J.ok.mod,J.ok.kind,J.ok.glob,J.ok.blt,J.ok.above,J.ok.inj,J.ok.has,J.ok.xM,(λh=>nomatch h),fr,J.ok.A3,J.ok.G8,J.ok.bs,J.ok.rQ,J.ok.mE,J.ok.nN,J.ok.fI,J.ok.uW⟩,J.os,J.bare,J.base,J.loc,J.cell,J.free,J.cL,J.pin,J.bo,J.len⟩
  obtain⟨F,ds,Qd,sm,r,q,K⟩:=oo;have same:∀ {F':Hp} {ao:Sd} {σ:St} {H':Hp},RS ⟨H,F,[],[]⟩ F' ao σ H' -> ax H H':=λR b o e=>R.old b o e (by simp [bM.yp])
  have Sn:cX X G k ⟨N,(ai st).names,[],false,true,false,λ_ _=>False⟩ ⟨H,F,[],[]⟩:=
    ⟨rfl,rfl,rfl,hK,rfl,rfl,rfl,rfl,Sc.nd,λp hp=>absurd hp (by simp),(λ_ _=>rfl),(λh=>nomatch h),Sc.kind,λ_ _ _=>rfl,(λh=>nomatch h),by show A.depth+1+3*k+5<_;omega,by show A.units+3+16*k+200<_;omega,(λh=>nomatch h),λ_=>⟨rfl,rfl,rfl⟩,(λ_ _ h=>h.elim),(λh=>nomatch h),λ_ h=>nomatch h⟩
  have run:=ht X ⟨H,F,[],[]⟩ Sn [] s1 (start N vs) H {nx:=λ_ H'=>Q .bt H',rt:=Q} I ⟨F,a4 N.length ds,_,RS.start _ sm r,body ds Qd q,⟨λσ H' F' ao s' R' q'=>K .bt H' F' (.sh .bt) s' R'.fr (same R') R'.eF .bt q',λv σ H' F' ao b s' R' r' q'=>by
    refine K v H' F' b s' R'.fr (same R') R'.eF ?_ q';cases b with
    | sh d=>exact r'
    | own xs =>
      obtain⟨a,us,rfl,w1,w2,w3,w4,w5⟩:=r';exact⟨a,us,rfl,w1,w2,w3,w4⟩
    | obj o =>
      obtain⟨a,rfl,w1,w2⟩:=r';exact⟨a,rfl,w1,λb hb=>⟨(w2 b hb).1,(w2 b hb).2.1,(w2 b hb).2.2.1⟩⟩,λ_ _ _ _ _ _ h=>h.elim,λ_ _ _ _ _ _ h=>h.elim⟩⟩
  refine wpAny_mono run (λfl s' hs=>?_) λe s' hs=>hs.elim;cases fl with
  | ret u =>
    obtain⟨v,bO,H',J,rv,q⟩:=hs;exact⟨v,H',J.os,J.bare,J.base,J.bo,rv,q⟩
  | next =>
    obtain⟨bO,H',J,q⟩:=hs;exact⟨.bt,H',J.os,J.bare,J.base,J.bo,rfl,q⟩
  | brk=>obtain⟨_,_,_,q⟩:=hs;exact False.elim q
  | cont=>obtain⟨_,_,_,q⟩:=hs;exact False.elim q
theorem cS.fh{x:Str} {st:Stmt} {ps N:List Str} {f:Addr} {fd:FuncData} {t:cJ} {sp:b7} (d:cS G x st ps f fd) (hK:G.K = KF.K) (Sc:aV N ps (ai st)) (ht:dZ G k ⟨N,(ai st).names,[],false,true,false,λ_ _=>False⟩ (ay st) t)
    (len:∀ds Q,sp ds Q -> ds.length = ps.length) (body:∀ds Q,sp ds Q -> t {nx:=λ_=>Q (.sh .bt),rt:=λb _=>Q b} (a4 N.length ds)):A9 G (k+1) x sp:=
  ⟨f,fd,ps,CP hK d.F Sc ht len body,d.m,d.F.kp,d.b⟩
end Vc
set_option Elab.async false
set_option linter.all false
set_option maxRecDepth 100000
namespace Vc
theorem xP{α β:Type} {f:α -> β} {cs:List α} {as:List β} (h:cs.map f = as) (nd:as.Nodup) {c d:α} (hc:c ∈ cs) (hd:d ∈ cs) (e:f c = f d):c = d:=by
  subst h
  induction cs with
  | nil=>cases hc
  | cons x r ih =>
    rw [List.map_cons,List.nodup_cons]at nd;rcases List.mem_cons.mp hc with rfl | Dc
    · rcases List.mem_cons.mp hd with rfl | td
      · rfl
      · exact absurd (e ▸ List.mem_map_of_mem td) nd.1
    · rcases List.mem_cons.mp hd with rfl | td
      · exact absurd (e ▸ List.mem_map_of_mem Dc) nd.1
      · exact ih Dc td nd.2
end Vc
set_option Elab.async false
set_option linter.all false
set_option maxRecDepth 100000
namespace Vc
open PySem L2
section
variable {X:Cx}
noncomputable def OT:V -> Option Int -> Option Int -> Hp -> VK -> Prop:=λx lo hi H Q=>∃z,x = .str z /\ z.length <= sizeLine /\ Q (.str (Txt.slice z lo hi)) H
theorem part_of{v:Value} {o:Option Int} (h:IsPart v o):∃l:Option (Int × Tok),v = partValue l /\ l.map (·.1) = o:=by
  cases h with
  | none=>exact⟨none,rfl,rfl⟩
  | int i t=>exact⟨some (i,t),rfl,rfl⟩
theorem Gz:sX X OT:=by
  intro pins s σ H x v vl vu lo hi sl Q I rx hs pl pu h;obtain⟨z,rfl,hz,q⟩:=h;obtain⟨t,rfl⟩:=rx;obtain⟨l,rfl,el⟩:=part_of pl;obtain⟨u,rfl,eu⟩:=part_of pu;refine⟨"str",_,F.slot_str_getitem.lookup,typeIs_str _ _ _,wpAny_getItem_str_slice (l:=l) (u:=u) (st:=none) hs rfl ?_⟩;subst el eu;cases l<;>cases u<;>exact post_val_or_str ⟨Nat.le_trans (Txt.slice_le z _ _) hz,λt' k=>⟨.str _,H,I.tok k,⟨t',rfl⟩,q⟩⟩
end
variable [KF]
variable {G:GE} {k:Nat} {S:Stat}
noncomputable def Qx:D -> Option Int -> Option Int -> (EV -> Prop) -> Prop
  | .str z,lo,hi,Q=>z.length <= sizeLine /\ Q (.val (.str (Txt.slice z lo hi)))
  | .lst xs,lo,hi,Q=>Q (.own (cut xs lo hi))
  | .fP ns,lo,hi,Q=>Q (.own (cut (ns.map D.int) lo hi))
  | .tup xs,lo,hi,Q=>Q (.val (.tup (cut xs lo hi)))
  | _,_,_,_=>False
noncomputable def jZ(t:TV) (tl th:Bq):TX:=λσ Q=>t σ λx av=>tl av λl bh=>th bh λu dX=>match cw dX x with
  | some d=>Qx d l u λr=>Q r dX
  | none=>False
theorem gJ{e:Expr} {lo hi:Option Expr} {t:TV} {tl th:Bq} {p2 pos:Pos} (h:EO G k S e t) (hl:G4 G k S lo tl) (hh:G4 G k S hi th):EX G k S (.Subscript e (.Slice lo hi none p2) pos) (jZ t tl th):=.mk λX Y ok =>
  aY (vU (sX.or Gz (sX.or zF (sX.or GA Gi))) (h X Y ok) (hl X Y ok) (hh X Y ok)) λσ H Q q=>by
    obtain⟨F,ao,Qd,R,q,K⟩:=q;refine⟨F,ao,_,R,q,λv1 H1 F1 x av s1 R1 r1 q1=>?_⟩;refine⟨F1,av,_,R1,q1,λl H2 F2 bh s2 R2 q2=>?_⟩;refine⟨F2,bh,_,R2,q2,λu H3 F3 dX s3 R3 q3=>?_⟩
    split at q3
    · rename_i d e
      have rx:=R3.cw (r1.mono (s2.trans s3)) e;have g:Goes Y F3 dX σ (λr=>Qd r dX) Q:=λv H' F' r s R' rr qq=>K v H' F' r dX (((s1.trans s2).trans s3).trans s) R' rr qq;cases d with
      | str z =>
        obtain rfl:=rx.str;exact .inl ⟨z,rfl,q3.1,g.val R3 (.str _) q3.2⟩
      | lst xs =>
        obtain⟨p,vs,rfl,h1,r1⟩:=rx.lst;exact .inr (.inl ⟨p,vs,rfl,.inl h1,g.own R3 (r1.cut _ _) q3⟩)
      | fP ns =>
        obtain⟨p,rfl,h1⟩:=rx.fP R3.fr;exact .inr (.inl ⟨p,_,rfl,by rw [ok.kf];exact h1,g.own R3 ((k8 _).cut _ _) q3⟩)
      | tup xs =>
        have OY:=rx;obtain⟨p,vs,rfl,h1,r1⟩:=rx.tup R3.fr
        replace q3:Qd (.val (.tup (cut xs l u))) dX:=q3
        by_cases hw:HT.cn xs.length 0 l = 0 /\ HT.cn xs.length xs.length u = xs.length
        · rw [xR hw]at q3
          exact .inr (.inr (.inr ⟨p,vs,rfl,.of h1,by rw [r1.length];exact hw,g.val R3 OY q3⟩))
        · exact .inr (.inr (.inl ⟨p,vs,rfl,.of h1,by rw [r1.length];exact hw,g.tup R3 (r1.cut _ _) q3⟩))
      | _=>exact q3.elim
    · exact q3.elim
theorem qP(x:Str):bL 8 (.str x) = true ↔ ∀c ∈ x.cps.toList,c<0x110000:=by
  show(x.cps.all (· < 0x110000)) = true ↔ _
  rw [Array.all_eq_true'];simp
theorem vO{x:Str} (l:List Nat) (hx:bL 8 (.str x) = true):bL 8 (.str ⟨(l.filterMap (x.cps[·]?)).toArray⟩) = true:=by
  rw [qP]at hx ⊢;intro c hc;have hc:c ∈ l.filterMap (x.cps[·]?):=by simpa using hc
  obtain⟨i,_,e⟩:=List.mem_filterMap.mp hc;exact hx c (by
    obtain⟨h,e⟩:=Array.getElem?_eq_some_iff.mp e;rw [<- e];simp)
theorem sy{x:Str} (lo hi:Option Int) (hx:bL 8 (.str x) = true):bL 8 (.str (Txt.slice x lo hi)) = true:=by
  unfold Txt.slice
  split
  · exact hx
  · exact vO _ hx
end Vc
set_option maxHeartbeats 0
set_option Elab.async false
set_option linter.all false
namespace Vc
open PySem PySem.W
@[elab_as_elim] theorem RV{α:Type} {P:List α -> Prop} (h:∀a,P [a]):∀us:List α,us.length = 1 -> P us
  | [a],_=>h a
@[elab_as_elim] theorem RW{α:Type} {P:List α -> Prop} (h:∀a b,P [a,b]):∀us:List α,us.length = 2 -> P us
  | [a,b],_=>h a b
@[elab_as_elim] theorem RX{α:Type} {P:List α -> Prop} (h:∀a b c,P [a,b,c]):∀us:List α,us.length = 3 -> P us
  | [a,b,c],_=>h a b c
@[elab_as_elim] theorem RY{α:Type} {P:List α -> Prop} (h:∀a b c d,P [a,b,c,d]):∀us:List α,us.length = 4 -> P us
  | [a,b,c,d],_=>h a b c d
@[elab_as_elim] theorem RZ{α:Type} {P:List α -> Prop} (h:∀a b c d e,P [a,b,c,d,e]):∀us:List α,us.length = 5 -> P us
  | [a,b,c,d,e],_=>h a b c d e
theorem G0{q:Program} {loose:List Str} {XP:(Str -> Option Value) -> Heap -> Prop} {K:Params -> Frag} {as:List Addr} {n t:Nat} {r:RowW} {d:DefRec} {Qf:List (Str × Expr)} {run:Value -> List Value -> Sem Value}
    (e:∀P,as = (K P).map (·.1)) (h:WalkO q loose XP (λw h=>(K w.params).In h) r d Qf run):WalkX q loose XP (X.obsZ as) (X.valZ K n t) r d Qf run:=
  λw bB bI mg mb G y a o pm cd doc dV kV ho hd jc hD hmg hg args vals QN L sf Js PR Jx PL =>
    h w bB bI mg mb G (InK.keeps w _ _ (X.z_facts e y).2.1 L.keeps) a o pm cd doc dV kV ho hd jc hD hmg hg args vals QN sf Js PR Jx PL
end Vc
set_option Elab.async false
set_option linter.all false
set_option maxRecDepth 100000
namespace Vc
open PySem L2
variable [KF]
variable {G:GE} {k:Nat} {S:Stat}
noncomputable def xu(i:Int):Str:=Str.ofString (toString i)
noncomputable def wC:List D -> (EV -> Prop) -> Prop
  | [.int i],Q=>i.natAbs.log2<1920 /\ Q (.val (.str (xu i)))
  | _,_=>False
theorem AB:xD G k S (.type "str") wC:=⟨λ_=>_,λ_ _ _=>lK,λY F H ao σ vs ds Qd Q R r q g=>by
  unfold wC at q
  split at q
  · obtain⟨v,rfl,rv⟩:=r.one
    obtain rfl:=rv.int;exact⟨_,rfl,q.1,g.val R (.str _) q.2⟩
  · exact q.elim⟩
noncomputable def isStr:D -> Bool
  | .str _=>true
  | _=>false
noncomputable def wD:D -> Str
  | .str z=>z
  | _=>""
theorem aM.strs{F:Hp}:∀ {vs:List V} {xs:List D},aM F vs xs -> xs.all isStr = true -> vs = (xs.map wD).map V.str
  | _,_,.nil,_=>rfl
  | _,_,.cons (d:=d) r t,h=>by
    rw [List.all_cons,Bool.and_eq_true]at h;cases d with
    | str i =>
      cases r;rw [aM.strs t h.2];rfl
    | _=>exact absurd h.1 (by simp [isStr])
theorem pV{ns:List Str}:∀ {us:List Value},Vals (ns.map V.str) us -> PyProof.Rows.StrsAre us ns:=by
  induction ns with
  | nil=>intro us r;rw [List.map_nil]at r;cases r;exact .nil
  | cons n ns ih =>
    intro us r;rw [List.map_cons]at r;cases r with
    | cons r1 r2 =>
      obtain⟨t,rfl⟩:=r1;exact .cons _ _ (ih r2)
noncomputable def joinFits(z:Str) (ys:List Str):Prop:=(ys.map (·.length)).sum+ys.length*z.length <= 16777216
noncomputable def rJoin(K:PySem.W.Frag):V -> List V -> Hp -> VK -> Prop:=λo vs H Q=>∃z p ys,o = .str z /\ vs = [.ref p] /\ eO K H p (ys.map V.str) /\ joinFits z ys /\ Q (.str (Txt.join z ys)) H
theorem yD{X:Cx}:Ma X "str.join" (rJoin X.K):=by
  intro pins s σ H o vs ov us Q I ro rv h;obtain⟨z,p,ys,rfl,rfl,hS,hz,q⟩:=h;obtain⟨t,rfl⟩:=ro;obtain⟨u,rfl,ru⟩:=vals1 rv;cases ru;obtain⟨its,SG,pl,_⟩:=I.list hS;exact PyProof.Rows.join_list pl.isList (by simpa using pV SG) hz λt' k=>⟨.str _,H,I.tok _,⟨_,rfl⟩,q⟩
noncomputable def vw(Q:OV -> Sd -> Prop) (σ:Sd):Option D -> Option D -> Prop
  | some (.str z),some (.lst xs)=>(xs.all isStr = true /\ joinFits z (xs.map wD)) /\ Q (.val (.str (Txt.join z (xs.map wD)))) σ
  | _,_=>False
noncomputable def jY(to ta:TV):TV:=λσ Q=>to σ λo av=>(∃z,cw av o = some (.str z)) /\ ta av λx bh=>vw Q bh (cw bh o) (cw bh x)
theorem jL{o e:Expr} {to te:TV} {apos bR:Pos} (ho:EO G k S o to) (he:EO G k S e te) (hb:∀env,attributeBase o "join" env (eval o env) = eval o env:=by intro _;rfl)
    (ip:∀env,((backTo bR (starEach [e] env)).all (λx=>!x.1) && (backToKw bR (keywordEach [] env)).all (λx=>x.1.isSome) && decide (([e]:List Expr).length+([]:List Keyword).length+(if([]:List Keyword).isEmpty then 0 else 1)<30)) = true:=by intro _;rfl)
    (hline:(apos.endLine == bR.line) = true:=by rfl) (hs:∀env,starEach [e] env = [(false,eval e env)]:=by intro _;rfl):EO G k S (.Call (.Attribute o "join" apos) [e] [] bR) (jY to te):=.mk λX Y ok=>by
  have ha:PA X [e] (cv (lO Y te) hX):=bA (he X Y ok) cG (by rw [hs];rfl)
  refine aY (kX PySem.F.plainAttrs_str PySem.F.slot_str_join PySem.F.type_str_join yD (ho X Y ok) ha (hb _) (ip _) hline (by rw [hs];rfl) (by rfl)) λσ H Q q=>?_
  obtain⟨F,ao,Qd,R,q,K⟩:=q;refine⟨F,ao,_,R,q,λv1 H1 F1 x av s1 R1 r1 q1=>?_⟩;obtain⟨⟨z,e0⟩,q1⟩:=q1;obtain rfl:=(R1.cw r1 e0).str;refine⟨rfl,F1,av,_,R1,q1,λv2 H2 F2 d bh s2 R2 r2 q2=>?_⟩;unfold vw at q2
  split at q2
  · rename_i z' xs e1 e2
    obtain⟨⟨hx,hz⟩,q2⟩:=q2;cases(R2.cw (r1.mono s2) e1).str;obtain⟨a,ws,rfl,h1,h2⟩:=(R2.cw r2 e2).lst;rw [h2.strs hx]at h1;exact⟨_,a,_,rfl,rfl,.inl h1,hz,K _ H2 F2 (.val (.str _)) bh (s1.trans s2) R2 (.str _) q2⟩
  · exact q2.elim
end Vc
set_option Elab.async false
set_option linter.all false
set_option maxRecDepth 100000
set_option Elab.async false
set_option linter.all false
set_option maxRecDepth 100000
namespace Vc
open PySem L2
variable [KF]
variable {G:GE} {k:Nat} {S:Stat}
noncomputable def GU:D -> (Bool -> Prop) -> Prop
  | .str z,Q=>z.length <= sizeLine /\ Q ((z.length:Int) != 0)
  | d,Q=>zU d Q
noncomputable def dU(t:TV):TB:=λσ Q=>t σ λx av=>match cw av x with
  | some d=>GU d λb=>Q b av
  | none=>False
theorem cH{e:Expr} {t:TV} (h:EO G k S e t) (he:∀env whole,isTrue e env whole = (do let v <- whole;standAt e.pos;holding [v] (truthy v)):=by intro _ _;rfl):EB G k S e (dU t):=.mk λX Y ok=>by
  refine mH (wk (h X Y ok) (he _)) λσ H Q q=>?_;obtain⟨F,ao,Qd,R,q,K⟩:=q;refine⟨F,ao,_,R,q,λv1 H1 F1 x av s1 R1 r1 q1=>?_⟩
  split at q1
  · rename_i d ed
    have r:=R1.cw r1 ed;unfold GU at q1
    split at q1
    · rename_i z
      obtain rfl:=r.str;exact⟨_,⟨q1.1,rfl⟩,K _ H1 F1 av s1 R1 q1.2⟩
    · unfold zU at q1
      split at q1
      · obtain rfl:=r.bt;exact⟨false,rfl,K _ H1 F1 av s1 R1 q1⟩
      · rename_i b _;obtain rfl:=r.bl;exact⟨b,rfl,K _ H1 F1 av s1 R1 q1⟩
      · rename_i i _;obtain rfl:=r.int;exact⟨_,rfl,K _ H1 F1 av s1 R1 q1⟩
      · rename_i xs _;obtain⟨a,vs,rfl,h1,h2⟩:=r.lst
        exact⟨!xs.isEmpty,.inl ⟨vs,.inl h1,gy h2⟩,K _ H1 F1 av s1 R1 q1⟩
      · rename_i xs _;obtain⟨a,vs,rfl,h1,h2⟩:=r.tup R1.fr
        exact⟨!xs.isEmpty,.inr (.inl ⟨vs,.inl (.inl h1),gy h2⟩),K _ H1 F1 av s1 R1 q1⟩
      · exact q1.elim
  · exact q1.elim
noncomputable def SA(K:PySem.W.Frag):V -> List V -> Hp -> VK -> Prop:=λo vs H Q=>∃z y,o = .str z /\ vs = [.str y] /\ Q (.bl (Txt.startswith z y)) H
theorem JX{X:Cx}:Ma X "str.startswith" (SA X.K):=by
  intro pins s σ H o vs ov us Q I ro rv h;obtain⟨z,y,rfl,rfl,q⟩:=h;obtain⟨t,rfl⟩:=ro;obtain⟨u,rfl,t',rfl⟩:=vals1 rv;exact SC.startswith ⟨.bl _,H,I,rfl,q⟩
noncomputable def O1(Q:OV -> Sd -> Prop) (σ:Sd):Option D -> Option D -> Prop
  | some (.str z),some (.str y)=>Q (.val (.bl (Txt.startswith z y))) σ
  | _,_=>False
noncomputable def Pa(to ta:TV):TV:=λσ Q=>to σ λo av=>(∃z,cw av o = some (.str z)) /\ ta av λx bh=>O1 Q bh (cw bh o) (cw bh x)
theorem OX{o e:Expr} {to te:TV} {apos bR:Pos} (ho:EO G k S o to) (he:EO G k S e te) (hb:∀env,attributeBase o "startswith" env (eval o env) = eval o env:=by intro _;rfl)
    (ip:∀env,((backTo bR (starEach [e] env)).all (λx=>!x.1) && (backToKw bR (keywordEach [] env)).all (λx=>x.1.isSome) && decide (([e]:List Expr).length+([]:List Keyword).length+(if([]:List Keyword).isEmpty then 0 else 1)<30)) = true:=by intro _;rfl)
    (hline:(apos.endLine == bR.line) = true:=by rfl) (hs:∀env,starEach [e] env = [(false,eval e env)]:=by intro _;rfl):EO G k S (.Call (.Attribute o "startswith" apos) [e] [] bR) (Pa to te):=.mk λX Y ok=>by
  have ha:PA X [e] (cv (lO Y te) hX):=bA (he X Y ok) cG (by rw [hs];rfl)
  refine aY (kX PySem.F.plainAttrs_str PySem.F.slot_str_startswith PySem.F.type_str_startswith JX (ho X Y ok) ha (hb _) (ip _) hline (by rw [hs];rfl) (by rfl)) λσ H Q q=>?_
  obtain⟨F,ao,Qd,R,q,K⟩:=q;refine⟨F,ao,_,R,q,λv1 H1 F1 x av s1 R1 r1 q1=>?_⟩;obtain⟨⟨z,e0⟩,q1⟩:=q1;obtain rfl:=(R1.cw r1 e0).str;refine⟨rfl,F1,av,_,R1,q1,λv2 H2 F2 d bh s2 R2 r2 q2=>?_⟩;unfold O1 at q2
  split at q2
  · rename_i z' y e1 e2
    cases(R2.cw (r1.mono s2) e1).str;cases(R2.cw r2 e2).str;exact⟨_,_,rfl,rfl,K _ H2 F2 (.val (.bl _)) bh (s1.trans s2) R2 (.bl _) q2⟩
  · exact q2.elim
noncomputable def Du:D -> D -> (Bool -> Prop) -> Prop
  | .str y,.str z,Q=>Q (Txt.contains z y)
  | _,_,_=>False
theorem HQ:gd G k S .In Du:=⟨λv u H Q=>∃y z,v = .str y /\ u = .str z /\ Q (.bl (Txt.contains z y)) H,λX Y ok=>by
    intro pins s σ H v u v' u' Q I rv ru h;obtain⟨y,z,rfl,rfl,q⟩:=h;obtain⟨t,rfl⟩:=rv;obtain⟨t',rfl⟩:=ru;exact P.in_str ⟨.bl _,H,I,rfl,q⟩,λY F H ao σ v u x y Qd Q R rx ry q K=>by
  unfold Du at q
  split at q
  · cases rx.str;cases ry.str
    exact⟨_,_,rfl,rfl,K _ q⟩
  · exact q.elim⟩
noncomputable def yr:D -> Bool
  | .bl _=>true
  | _=>false
noncomputable def Mg:D -> Bool
  | .bl b=>b
  | _=>false
theorem aM.Pu{F:Hp}:∀ {vs:List V} {xs:List D},aM F vs xs -> xs.all yr = true -> vs = (xs.map Mg).map V.bl
  | _,_,.nil,_=>rfl
  | _,_,.cons (d:=d) r t,h=>by
    rw [List.all_cons,Bool.and_eq_true]at h;cases d with
    | bl i =>
      cases r;rw [aM.Pu t h.2];rfl
    | _=>exact absurd h.1 (by simp [yr])
theorem xK{bs:List Bool}:∀ {us:List Value},Vals (bs.map V.bl) us -> us = bs.map Value.bool:=by
  induction bs with
  | nil=>intro us r;rw [List.map_nil]at r;cases r;rfl
  | cons n ns ih =>
    intro us r;rw [List.map_cons]at r;cases r with
    | cons r1 r2 =>
      cases r1;rw [ih r2];rfl
theorem range_all{α:Type} (l:List α) (f:α -> Bool) (g:Nat -> Bool) (h:∀i a,l[i]? = some a -> g i = f a):(List.range l.length).all g = l.all f:=by
  induction l generalizing g with
  | nil=>rfl
  | cons a l ih =>
    rw [List.length_cons,List.range_succ_eq_map,List.all_cons,List.all_cons,List.all_map,h 0 a rfl];rw [ih (g ∘ Nat.succ) λi b e=>h (i+1) b e]
theorem tU{X:Cx} (hc:X.calm = true):cb X (.builtin "all") (λxs H Q=>∃(a:Addr) (bs:List Bool),xs = [.ref a] /\ eO X.K H a (bs.map V.bl) /\ Q (.bl (bs.all id)) H):=by
  intro pins s σ H xs us Q I r h;obtain⟨a,bs,rfl,hq,q⟩:=h;obtain⟨u,rfl,ru⟩:=vals1 r;cases ru;obtain⟨its,rv,pl,_⟩:=I.list hq;have e:=xK rv;subst e;have hl:=pl.isList;obtain⟨o,ho,_⟩:=id hl;have dk:a ≠ s.heap.objs.size:=Nat.ne_of_lt (Heap.lt_size ho);refine call_all_walk (wpAny_pyIter_list hl ?_);have W:=Walks.list (prog:=X.prog) (w:=X.w) (A:=X.A.in1) (show X.A.in1.handled = none from I.ok.hd hc) s.heap.objs.size a dk (bs.map Value.bool).toArray
  refine⟨s.heap.objs.size,_,_,_,_,_,λi=>bs.getD i true,rfl,W,⟨⟨_,Heap.get?_push_size _ rfl,rfl,rfl⟩,?_⟩,λi v s' Q' E' hP hQ=>?_,λh' tk kp=>?_⟩
  · obtain⟨o2,e1,e2⟩:=hl
    exact⟨o2,Heap.get?_push_of_some _ e1,e2⟩
  · have hv:bs[i]?.map Value.bool = some v:=by simpa using hP
    cases hb:bs[i]? with
    | none=>rw [hb]at hv;cases hv
    | some b =>
      rw [hb]at hv;cases hv;have hQ:Q' (bs.getD i true) s':=hQ;rw [List.getD_eq_getElem?_getD,hb]at hQ;exact wpAny_truthy_bool hQ
  · refine⟨.bl _,H,I.kept λb o e=>kp b o ?_ (Heap.get?_push_of_some _ e),rfl,?_⟩
    · intro z
      rw [List.mem_singleton.mp z]at e;exact absurd (Heap.lt_size e) (Nat.lt_irrefl _)
    · have e2:(List.range (bs.map Value.bool).toArray.size).all (λi=>bs.getD i true) = bs.all id:=by
        rw [List.size_toArray,List.length_map];exact range_all bs id _ λi b e=>by rw [List.getD_eq_getElem?_getD,e];rfl
      rw [e2];exact q
noncomputable def rO:List D -> (EV -> Prop) -> Prop
  | [.lst xs],Q=>xs.all yr = true /\ Q (.val (.bl ((xs.map Mg).all id)))
  | _,_=>False
theorem uI(hh:S.kl = false:=by rfl):xD G k S (.builtin "all") rO:=⟨λK xs H Q=>∃(a:Addr) (bs:List Bool),xs = [V.ref a] /\ eO K H a (bs.map V.bl) /\ Q (.bl (bs.all id)) H,λ_ _ ok=>tU (ok.calm hh),λY F H ao σ vs ds Qd Q R r q g=>by
  unfold rO at q
  split at q
  · obtain⟨v,rfl,rv⟩:=r.one
    obtain⟨p,us,rfl,h1,h2⟩:=rv.lst;rw [h2.Pu q.1]at h1;exact⟨p,_,rfl,.inl h1,g.val R (.bl _) q.2⟩
  · exact q.elim⟩
theorem rU{X:Cx}:cb X (.type "int") (λxs H Q=>∃z n,xs = [.str z] /\ z.length <= 640 /\ intText? z = some n /\ Q (.int n) H):=by
  intro pins s σ H xs us Q I r h;obtain⟨z,n,rfl,hz,hn,q⟩:=h;obtain⟨u,rfl,t,rfl⟩:=vals1 r;exact PySem.W.KIN.call_text hn hz ⟨.int n,H,I.tok _,⟨_,rfl⟩,q⟩
noncomputable def eB:List D -> (EV -> Prop) -> Prop
  | [.str z],Q=>∃n,z.length <= 640 /\ intText? z = some n /\ Q (.val (.int n))
  | ds,Q=>Dw ds Q
theorem d4:xD G k S (.type "int") eB:=⟨λK xs H Q=>(∃z n,xs = [.str z] /\ z.length <= 640 /\ intText? z = some n /\ Q (.int n) H) \/ ((∃i,xs = [V.int i] /\ Q (.int i) H) \/ ∃k,xs = [V.bl k] /\ Q (.int (if k then 1 else 0)) H),λ_ _ ok=>cb.or rU rT,λY F H ao σ vs ds Qd Q R r q g=>by
  unfold eB at q
  split at q
  · obtain⟨v,rfl,rv⟩:=r.one
    obtain⟨n,h1,h2,q⟩:=q;obtain rfl:=rv.str;exact .inl ⟨_,n,rfl,h1,h2,g.val R (.int _) q⟩
  · unfold Dw at q
    split at q
    · obtain⟨v,rfl,rv⟩:=r.one
      obtain rfl:=rv.int;exact .inr (.inl ⟨_,rfl,g.val R (.int _) q⟩)
    · obtain⟨v,rfl,rv⟩:=r.one
      obtain rfl:=rv.bl;exact .inr (.inr ⟨_,rfl,g.val R (.int _) q⟩)
    · exact q.elim⟩
noncomputable def OW(K:PySem.W.Frag):V -> List V -> Hp -> VK -> Prop:=λo vs H Q=>∃z y,o = .str z /\ vs = [.str y] /\ (y.length == 0) = false /\ z.length+1 <= sizeLine /\ (Txt.split z y).length <= sizeLine /\ ∀l,H l = none -> Q (.ref l) (upd H l (.lst ((Txt.split z y).map V.str)))
theorem lu:∀l:List (Str × Tok),Vals ((l.map (·.1)).map V.str) (strValues l)
  | []=>.nil
  | (x,t) :: l=>.cons (show RelV (.str x) (.str x t)from⟨t,rfl⟩) (lu l)
theorem vG{X:Cx}:Ma X "str.split" (OW X.K):=by
  intro pins s σ H o vs ov us Q I ro rv h;obtain⟨z,y,rfl,rfl,hy,hz,hn,q⟩:=h;obtain⟨t,rfl⟩:=ro;obtain⟨u,rfl,t',rfl⟩:=vals1 rv;have fin:∀(l:List (Str × Tok)) (k:Nat),l.map (·.1) = Txt.split z y -> EP X pins σ Q (.ref s.heap.objs.size) {s with toks:=k,heap:=s.heap.push {cls:=.type "list",data:=.seq (strValues l).toArray}}:=λl k e =>
    ⟨.ref s.heap.objs.size,_,I.laid (t':=k) (λb o e=>Heap.get?_push_of_some _ e) (Nat.le_refl _) (show bQ X.prog X.w _ _ _ (.lst ((Txt.split z y).map V.str))from⟨by rw [List.length_map];exact hn,strValues l,0,by rw [<- e];exact lu l,Heap.get?_push_size _ rfl⟩),rfl,q _ (I.bo.fresh (Nat.le_refl _))⟩
  have Mv:z.length <= sizeLine:=by omega
  cases h1:(decide (z.length<y.length) || decide (Builtin.Str.strKind z<Builtin.Str.strKind y))
  · cases hf:(Builtin.Str.occurrences z y 0 z.length (z.length+1)).isEmpty
    · have e0:Txt.split z y = Builtin.Str.partsBetween z (Builtin.Str.occurrences z y 0 z.length (z.length+1)) y.length:=(if_neg (ne_true_of_eq_false h1)).trans (if_neg (ne_true_of_eq_false hf))
      refine call_meets PySem.F.slot_str_split (typeIs_str _ _ _) PySem.F.entry_str_split (PySem.F.args_str_split_2 _ _) (meets_str_split_sep z y t t' h1 hy hf Mv (by rw [<- e0];exact hn)) ?_
      show wants _ _ _ {s with toks:=_,heap:=s.heap.push {cls:=.type "list",data:=.seq (strsFrom s.toks (Builtin.Str.partsBetween z (Builtin.Str.occurrences z y 0 z.length (z.length+1)) y.length)).toArray}}
      rw [strsFrom_eq];exact fin (numbered s.toks _) _ ((numbered_texts _ _).trans e0.symm)
    · exact call_meets PySem.F.slot_str_split (typeIs_str _ _ _) PySem.F.entry_str_split (PySem.F.args_str_split_2 _ _) (meets_str_split_not_found z y t t' h1 hy hf) (fin [(z,t)] _ ((if_neg (ne_true_of_eq_false h1)).trans (if_pos hf)).symm)
  · exact call_meets PySem.F.slot_str_split (typeIs_str _ _ _) PySem.F.entry_str_split (PySem.F.args_str_split_2 _ _) (meets_str_split_cannot_occur z y t t' h1) (fin [(z,t)] _ (if_pos h1).symm)
noncomputable def GC(Q:EV -> Sd -> Prop) (σ:Sd):Option D -> Option D -> Prop
  | some (.str z),some (.str y)=>((y.length == 0) = false /\ z.length+1 <= sizeLine /\ (Txt.split z y).length <= sizeLine) /\ Q (.own ((Txt.split z y).map D.str)) σ
  | _,_=>False
noncomputable def oV(to ta:TV):TX:=λσ Q=>to σ λo av=>(∃z,cw av o = some (.str z)) /\ ta av λx bh=>GC Q bh (cw bh o) (cw bh x)
theorem k9{F:Hp}:∀l:List Str,aM F (l.map V.str) (l.map D.str)
  | []=>.nil
  | x :: l=>.cons (.str x) (k9 l)
theorem fB{o e:Expr} {to te:TV} {apos bR:Pos} (ho:EO G k S o to) (he:EO G k S e te) (hb:∀env,attributeBase o "split" env (eval o env) = eval o env:=by intro _;rfl)
    (ip:∀env,((backTo bR (starEach [e] env)).all (λx=>!x.1) && (backToKw bR (keywordEach [] env)).all (λx=>x.1.isSome) && decide (([e]:List Expr).length+([]:List Keyword).length+(if([]:List Keyword).isEmpty then 0 else 1)<30)) = true:=by intro _;rfl)
    (hline:(apos.endLine == bR.line) = true:=by rfl) (hs:∀env,starEach [e] env = [(false,eval e env)]:=by intro _;rfl):EX G k S (.Call (.Attribute o "split" apos) [e] [] bR) (oV to te):=.mk λX Y ok=>by
  have ha:PA X [e] (cv (lO Y te) hX):=bA (he X Y ok) cG (by rw [hs];rfl)
  refine aY (kX PySem.F.plainAttrs_str PySem.F.slot_str_split PySem.F.type_str_split vG (ho X Y ok) ha (hb _) (ip _) hline (by rw [hs];rfl) (by rfl)) λσ H Q q=>?_
  obtain⟨F,ao,Qd,R,q,K⟩:=q;refine⟨F,ao,_,R,q,λv1 H1 F1 x av s1 R1 r1 q1=>?_⟩;obtain⟨⟨z,e0⟩,q1⟩:=q1;obtain rfl:=(R1.cw r1 e0).str;refine⟨rfl,F1,av,_,R1,q1,λv2 H2 F2 d bh s2 R2 r2 q2=>?_⟩;unfold GC at q2
  split at q2
  · rename_i z' y e1 e2
    obtain⟨⟨c1,c2,c3⟩,q2⟩:=q2;cases(R2.cw (r1.mono s2) e1).str;cases(R2.cw r2 e2).str;have g:Goes Y F2 bh σ (λr=>Qd r bh) Q:=λv H' F' r s R' rr qq=>K v H' F' r bh ((s1.trans s2).trans s) R' rr qq;exact⟨_,_,rfl,rfl,c1,c2,c3,g.own R2 (k9 _) q2⟩
  · exact q2.elim
noncomputable def Lv(z:Str):List D:=z.cps.toList.map λc=>D.str ⟨#[c]⟩
noncomputable def MU(z:Str):It:=⟨λi _=>i<z.cps.toList.length,λi H x H'=>H' = H /\ ∃c,z.cps.toList[i]? = some c /\ x = .str ⟨#[c]⟩,λi _=>z.cps.toList.length <= i⟩
theorem qm(z:Str) (i:Nat):z.cps[i]? = z.cps.toList[i]?:=by simp
theorem xa{P:Program} {w:World} {K:PySem.W.Frag} {tg:Expr} (z:Str) (t:Tok) (it:Addr):Turn P w K tg (MU z) [it] it (λi h=>h.IsStrIter it "str_ascii_iterator" z t i) where
  mem:=by simp
  obj:=λi h st b hb=>by
    have e:b = it:=by simpa using hb
    subst e;obtain⟨o,e,c,d⟩:=st;exact⟨o,e,λv z=>by rw [d]at z;cases z⟩
  keep:=λi h h' st k=>by
    obtain⟨o,e,c⟩:=st;exact⟨o,k it (by simp) o e,c⟩
  item:=by
    intro X hP hw hK hc i pins s σ H E I hf st hg;subst hP hw hK;obtain⟨f0,f1,f2,f3,f4,f5⟩:=hf it (by simp)
    have hi:z.cps.toList[i]? = some z.cps.toList[i]:=List.getElem?_eq_getElem hg;refine wpAny_pyNext_ascii_item st (by rw [qm];exact hi) λh' kq sb=>?_
    have I1:Inv X pins σ H {s with heap:=h',toks:=s.toks+1}:=I.turned (t':=s.toks+1) (λb o hb e=>(sb.2 b hb).trans e) f0 f1 f3 f4 f5
    obtain⟨o,e,c,d⟩:=id kq;exact⟨_,rfl,oh (s:={s with heap:=h',toks:=s.toks+1}) e c d ∅ ⟨.str ⟨#[z.cps.toList[i]]⟩,H,I1,⟨_,rfl⟩,⟨rfl,_,hi,rfl⟩,kq,λb hb=>(hf b hb).1⟩⟩
  done:=by
    intro X hP hw hK hc i pins s σ H E I hf st hg;subst hP hw hK;obtain⟨f0,f1,f2,f3,f4,f5⟩:=hf it (by simp)
    exact wpAny_pyNext_ascii_end (I.ok.hd hc) st (by rw [qm];exact List.getElem?_eq_none_iff.mpr hg) λh' eb=>⟨rfl,I.turned (t':=s.toks) (λb o hb e=>eb b o hb e) f0 f1 f3 f4 f5⟩
  self:=λA i s Q E hit h=>wpAny_pyIter_striter_ascii hit h
theorem yw{F:Hp} (z:Str):fL F (MU z) (Lv z):=λF1 H1 s1 s2 i=>by
  refine⟨λx e=>?_,λhl=>?_⟩
  · unfold Lv at e
    rw [List.getElem?_map]at e;cases hc:z.cps.toList[i]? with
    | none=>rw [hc]at e;cases e
    | some c =>
      rw [hc]at e;cases e;refine⟨(List.getElem?_eq_some_iff.mp hc).1,λv H2 y=>?_⟩;obtain⟨rfl,c',e2,rfl⟩:=y;rw [hc]at e2;cases e2;exact⟨F1,.inl ⟨rfl,rfl⟩,.str _⟩
  · unfold Lv at hl
    rw [List.length_map]at hl;exact Nat.le_of_eq hl.symm
noncomputable def cq(t:TD):fq:=λσ Q=>t σ λd av=>match d with
  | .lst xs=>Q xs av
  | .tup xs=>Q xs av
  | .str z=>z.cps.all (· < 128) = true /\ Q (Lv z) av
  | _=>False
theorem Fl{X:Cx} {tg l:Expr} {tl:TE} (hl:PE X l tl):PI X tg l (λσ H R=>tl σ H λx H1=>(∃a,x = .ref a /\ (∃xs,eO X.K H1 a xs) /\ R (G5 X.K a) H1) \/ (∃a,x = .ref a /\ (∃xs,iW X.K H1 a xs) /\ R (MV X.K a) H1) \/ (∃z,x = .str z /\ z.cps.all (· < 128) = true /\ R (MU z) H1)):=by
  intro pins s σ H R I h;refine cp (hl pins s σ H _ I h) λv s1 ⟨x,H1,I1,r1,q1⟩=>?_;have fp:∀b ∈ [s1.heap.objs.size],eK X pins H1 b:=λb hb=>by
    have e:b = s1.heap.objs.size:=by simpa using hb
    subst e;exact I1.rZ (Nat.le_refl _) (I1.bo.fresh (Nat.le_refl _))
  rcases q1 with⟨a,e,⟨xs,hq⟩,q⟩ | ⟨a,e,⟨xs,hq⟩,q⟩ | ⟨z,e,hz,q⟩
  · subst e
    cases r1;obtain⟨its,rv,p,hz⟩:=I1.list hq;refine wpAny_pyIter_list p.isList ?_;exact⟨s1.heap.objs.size,[s1.heap.objs.size],_,_,H1,rfl,I1.kept (t':=s1.toks) λb o e=>Heap.get?_push_of_some _ e,fG a _,⟨_,Heap.get?_push_size _ rfl,rfl,rfl⟩,fp,q⟩
  · subst e
    cases r1;obtain⟨its,rv,p,hz⟩:=I1.tuple hq;refine wpAny_pyIter_tuple (show s1.heap.IsTuple a its.toArray from p) ?_
    exact⟨s1.heap.objs.size,[s1.heap.objs.size],_,_,H1,rfl,I1.kept (t':=s1.toks) λb o e=>Heap.get?_push_of_some _ e,p7 a _,⟨_,Heap.get?_push_size _ rfl,rfl,rfl⟩,fp,q⟩
  · subst e
    obtain⟨t,rfl⟩:=r1;refine wpAny_pyIter_ascii hz ?_;exact⟨s1.heap.objs.size,[s1.heap.objs.size],_,_,H1,rfl,I1.kept (t':=s1.toks) λb o e=>Heap.get?_push_of_some _ e,xa z t _,⟨_,Heap.get?_push_size _ rfl,rfl,rfl⟩,fp,q⟩
theorem du{tg l:Expr} {t:TD} (h:ED G k S l t):EI G k S tg l (cq t):=.mk λX Y ok=>mG (Fl (h X Y ok)) λσ H Q q=>by
  obtain⟨F,ao,Qd,R,q,K⟩:=q;refine⟨F,ao,_,R,q,λv H1 F1 d av s1 R1 r1 q1=>?_⟩;cases d with
  | lst xs =>
    cases r1 with
    | lst hf rl=>exact .inl ⟨_,rfl,⟨_,.inl (Rd.mono R1.fr hf)⟩,K H1 F1 av _ xs s1 R1 (qE hf rl) q1⟩
  | tup xs =>
    cases r1 with
    | tup hf rl=>exact .inr (.inl ⟨_,rfl,⟨_,.of (R1.fr _ _ hf)⟩,K H1 F1 av _ xs s1 R1 (yx hf rl) q1⟩)
  | str z =>
    cases r1;exact .inr (.inr ⟨z,rfl,q1.1,K H1 F1 av _ _ s1 R1 (yw z) q1.2⟩)
  | _=>exact q1.elim
end Vc
set_option Elab.async false
set_option linter.all false
set_option maxRecDepth 100000
set_option Elab.async false
set_option linter.all false
set_option maxRecDepth 100000
namespace Vc
open PySem L2
variable [KF]
variable {G:GE} {k:Nat} {S:Stat}
noncomputable def fe(is:List Int):List Int:=PyProof.Rows.firstMet (λi=>is.getD i 0) is.length
theorem rX{X:Cx} (hc:X.calm = true):cb X (.type "set") (λxs H Q=>∃p is,xs = [.ref p] /\ Rd H p (.lst (is.map V.int)) /\ is.length<4000 /\ ∀l,H l = none -> Q (.ref l) (upd H l (.set (λk=>(fe is).any (· == k)) (fe is).length))):=by
  intro pins s σ H xs us Q I r h;obtain⟨p,is,rfl,hp,hb,q⟩:=h;obtain⟨u,rfl,rx⟩:=vals1 r;cases rx;obtain⟨z,its,n,r',hl,e⟩:=Inv.MH I hp;have hlen:its.length = is.length:=by rw [<- hl,List.length_map]
  refine PySem.call_set_list (items:=its.toArray) (ns:=is) (I.ok.hd hc) ⟨_,e,rfl,_,rfl⟩ (by simpa using intsAre_of r') (by rw [List.size_toArray,hlen];show is.length+1<4096;omega) λh' tk hS hk=>?_
  refine⟨.ref s.heap.objs.size,_,I.laid (t':=tk) (λb o q=>hk b o (Heap.lt_size q) q) (Nat.le_refl _) ?_,rfl,q _ I.fresh⟩;have hz:its.toArray.size = is.length:=by rw [List.size_toArray,hlen]
  rw [hz]at hS;exact hS
theorem nF{X:Cx}:cb X (.builtin "len") (λxs H Q=>∃p S n,xs = [.ref p] /\ H p = some (.set S n) /\ Q (.int n) H):=by
  intro pins s σ H xs us Q I r h;obtain⟨p,S,n,rfl,hp,q⟩:=h;obtain⟨u,rfl,rx⟩:=vals1 r;cases rx;obtain⟨o,es,ep,t,e1,e2,e3,e4,e5,e6,e7,rfl⟩:=I.bo p _ hp;have:scanBound = 4096:=rfl;exact call_len_set e1 e2 e3 e7 ⋯ ⟨.int es.size,H,I.tok _,⟨_,rfl⟩,q⟩
noncomputable def nk(t:pe):TX:=λσ Q=>t σ λxs av=>match ig av xs with
  | some [.lst ds]=>(ds.all isInt = true /\ ds.length<4000) /\ Q (.val (.int (fe (ds.map vq)).length)) av
  | _=>False
theorem wt{a:Expr} {t:pe} {p p2 pos FG:Pos} (h:xr G k S [a] t) (hm:G.mg "len" = none) (Dg:G.mg "set" = none) (hg:S.sc.lookup ("len":Str) = some .globalImplicit:=by rfl) (ye:S.sc.lookup ("set":Str) = some .globalImplicit:=by rfl)
    (hs:∀env,starEach [a] env = [(false,eval a env)]:=by intro _;rfl) (tj:∀env,starEach [Expr.Call (.Name "set" p2) [a] [] FG] env = [(false,eval (Expr.Call (.Name "set" p2) [a] [] FG) env)]:=by intro _;rfl) (hh:S.kl = false:=by rfl):
    EX G k S (.Call (.Name "len" p) [.Call (.Name "set" p2) [a] [] FG] [] pos) (nk t):=.mk λX Y ok =>
  aY (de nF (cc ok hg) (by rw [ok.mg];exact hm) (by decide +kernel) (bA (kY (rX (ok.calm hh)) (cc ok ye) (by rw [ok.mg];exact Dg) (by decide +kernel) (h X Y ok) ∅ ∅ (hs _) (by rfl)) cG (tj _)) ∅ ∅ (tj _) (by rfl)) λσ H Q q=>by
    obtain⟨F,ao,Qd,R,q,K⟩:=q;refine⟨F,ao,_,R,q,λvs H1 F1 xs av s1 R1 r1 q1=>?_⟩
    split at q1
    · rename_i ds e
      obtain⟨⟨e2,hl⟩,q1⟩:=q1;obtain⟨v,rfl,rv⟩:=(R1.ig r1 e).one;obtain⟨a,us,rfl,h1,h2⟩:=rv.lst;obtain rfl:=h2.ints e2;refine⟨a,ds.map vq,rfl,h1,by rw [List.length_map];exact hl,λl hl=>⟨l,_,_,rfl,aW,?_⟩⟩
      exact K _ _ F1 (.val (.int _)) av s1 (R1.lA hl) (.int _) q1
    · exact q1.elim
end Vc
set_option Elab.async false
set_option linter.all false
set_option maxRecDepth 100000
set_option Elab.async false
set_option linter.all false
set_option maxRecDepth 100000
set_option Elab.async false
set_option linter.all false
set_option maxRecDepth 100000
set_option Elab.async false
set_option linter.all false
set_option maxRecDepth 100000
namespace Vc
open PySem PyProof.Rows
section
variable {prog:Program} {w:World} {A:Around} {R:Result -> Shared -> Prop}
noncomputable def Kp(h g:Heap):Prop:=∀b o,h.get? b = some o -> g.get? b = some o
end
end Vc
set_option Elab.async false
set_option linter.all false
set_option maxRecDepth 100000
set_option Elab.async false
set_option linter.all false
set_option maxRecDepth 100000
set_option Elab.async false
set_option linter.all false
set_option maxRecDepth 100000
set_option Elab.async false
set_option linter.all false
set_option maxRecDepth 100000
set_option Elab.async false
set_option linter.all false
set_option maxRecDepth 100000
namespace Vc
open PySem PySem.W L2
section
variable {P:Addr} {K:Frag} (hP:K.lookup P = some (tabObj #[]))
include hP
end
end Vc
set_option Elab.async false
set_option linter.all false
set_option maxRecDepth 100000
set_option Elab.async false
set_option linter.all false
set_option maxRecDepth 100000
set_option Elab.async false
set_option linter.all false
set_option maxRecDepth 100000
set_option Elab.async false
set_option linter.all false
set_option maxRecDepth 100000
set_option Elab.async false
set_option linter.all false
set_option maxRecDepth 100000
set_option maxHeartbeats 400000
set_option Elab.async false
set_option linter.all false
set_option maxRecDepth 100000
set_option maxHeartbeats 400000
set_option Elab.async false
set_option linter.all false
set_option maxRecDepth 100000
set_option Elab.async false
set_option linter.all false
set_option maxRecDepth 100000
set_option Elab.async false
set_option linter.all false
set_option maxRecDepth 100000
set_option Elab.async false
set_option linter.all false
set_option maxRecDepth 100000
set_option Elab.async false
set_option linter.all false
set_option maxRecDepth 100000
set_option Elab.async false
set_option linter.all false
set_option maxRecDepth 100000
set_option Elab.async false
set_option linter.all false
set_option maxRecDepth 100000
set_option Elab.async false
set_option linter.all false
set_option maxRecDepth 100000
set_option Elab.async false
set_option linter.all false
set_option maxRecDepth 100000
set_option Elab.async false
set_option linter.all false
set_option maxRecDepth 100000
set_option Elab.async false
set_option linter.all false
set_option maxRecDepth 100000
set_option Elab.async false
set_option linter.all false
set_option maxRecDepth 100000
set_option Elab.async false
set_option linter.all false
set_option maxRecDepth 100000
set_option Elab.async false
set_option linter.all false
set_option maxRecDepth 100000
set_option Elab.async false
set_option linter.all false
set_option maxRecDepth 100000
namespace Vc
open PySem L2
section
variable {X:Cx}
noncomputable def zt:V -> List V -> Hp -> VK -> Prop:=λx vs H Q=>∃l xs i y,x = .ref l /\ vs = [.int i,y] /\ H l = some (.lst xs) /\ 0 <= i /\ i<2 ^ 62 /\ xs.length<sizeLine /\ Q .bt (upd H l (.lst (xs.take i.toNat ++ y :: xs.drop i.toNat)))
theorem sU{xs:List V} {its:List Value} (r:Vals xs its):∀n,Vals (xs.take n) (its.take n):=by
  induction r with
  | nil=>intro n;rw [List.take_nil,List.take_nil];exact .nil
  | cons h t ih =>
    intro n;cases n with
    | zero=>exact .nil
    | succ n=>exact .cons h (ih n)
theorem sS{xs:List V} {its:List Value} (r:Vals xs its):∀n,Vals (xs.drop n) (its.drop n):=by
  induction r with
  | nil=>intro n;rw [List.drop_nil,List.drop_nil];exact .nil
  | cons h t ih =>
    intro n;cases n with
    | zero=>exact .cons h t
    | succ n=>exact ih n
theorem w8{α:Type} (l:List α) (n:Nat):l.take (min n l.length) = l.take n:=by
  by_cases h:n <= l.length
  · rw [Nat.min_eq_left h]
  · rw [Nat.min_eq_right ⋯,List.take_of_length_le (Nat.le_refl _),List.take_of_length_le ⋯]
theorem uF{α:Type} (l:List α) (n:Nat):l.drop (min n l.length) = l.drop n:=by
  by_cases h:n <= l.length
  · rw [Nat.min_eq_left h]
  · rw [Nat.min_eq_right ⋯,List.drop_of_length_le (Nat.le_refl _),List.drop_of_length_le ⋯]
theorem sr:MZ X "list.insert" zt:=by
  intro pins s σ H x vs v us Q I rx rv h;obtain⟨l,xs,i,y,rfl,rfl,hH,h1,h2,hz,q⟩:=h;cases rx;obtain⟨u1,u2,rfl,SD,SE⟩:=rv.two;obtain⟨t,rfl⟩:=SD;obtain⟨z,its,n,r,hl,e⟩:=I.DZ hH;have hf:Builtin.List.listFitsIndex i = true:=by
    unfold Builtin.List.listFitsIndex;simp only [Bool.and_eq_true,decide_eq_true_eq];omega
  refine call_meets F.slot_list_insert ⟨_,e,rfl⟩ F.entry_list_insert (F.args_list_insert_3 _ _ _)
    (AutoSeq1.list_insert_list_int_val_1 l its.toArray n i t u2 (by rw [hf];decide) (by rw [List.size_toArray];omega)) ⟨e,?_⟩
  refine⟨.bt,_,I.DY (its':=its.take i.toNat ++ u2 :: its.drop i.toNat) hH e ?_ ((sU r _).append (.cons SE (sS r _))) ?_,rfl,q⟩
  · show(its.toArray.extract 0 (if i<0 then(i+(its.toArray.size:Int)).toNat else min i.toNat its.toArray.size)).push u2 ++ its.toArray.extract (if i<0 then(i+(its.toArray.size:Int)).toNat else min i.toNat its.toArray.size) = _
    rw [if_neg ⋯,List.size_toArray]
    apply Array.toList_inj.mp;simp only [Array.toList_append,Array.toList_push,Array.toList_extract,List.extract_eq_take_drop,Nat.sub_zero,List.drop_zero,List.append_assoc,List.cons_append,List.nil_append];rw [w8,uF,List.take_of_length_le (l:=its.drop i.toNat) (by rw [List.length_drop];omega)]
  · simp only [List.length_append,List.length_cons,List.length_take,List.length_drop]
    omega
end
variable [KF]
variable {G:GE} {k:Nat} {S:Stat}
theorem aM.eraseIdx{F:Hp} {vs:List V} {xs:List D} (r:aM F vs xs) (n:Nat):aM F (vs.eraseIdx n) (xs.eraseIdx n):=by
  rw [List.eraseIdx_eq_take_drop_succ,List.eraseIdx_eq_take_drop_succ];exact(r.take _).append (r.drop _)
noncomputable def FE(i:Nat) (d:D) (σ:Sd) (Q:D -> Sd -> Prop):Prop:=match σ[i]?,d with
  | some (some (.own xs)),.int j=>0 <= j /\ j<xs.length /\ j<2 ^ 62 /\ ∀e,xs[j.toNat]? = some e -> Q e (σ.set i (some (.own (xs.eraseIdx j.toNat))))
  | _,_=>False
noncomputable def GD(to:TV) (te:TD):TX:=λσ Q=>to σ λx av=>match x with
  | .var i=>kP av i /\ te av λd bh=>FE i d bh λe dX=>Q (.val e) dX
  | _=>False
theorem zx{o e:Expr} {to:TV} {te:TD} {apos bR:Pos} (ho:EO G k S o to) (he:ED G k S e te) (hb:∀env,attributeBase o "pop" env (eval o env) = eval o env:=by intro _;rfl)
    (ip:∀env,((backTo bR (starEach [e] env)).all (λx=>!x.1) && (backToKw bR (keywordEach [] env)).all (λx=>x.1.isSome) && decide (([e]:List Expr).length+([]:List Keyword).length+(if([]:List Keyword).isEmpty then 0 else 1)<30)) = true:=by intro _;rfl)
    (hline:(apos.endLine == bR.line) = true:=by rfl) (hs:∀env,starEach [e] env = [(false,eval e env)]:=by intro _;rfl):EX G k S (.Call (.Attribute o "pop" apos) [e] [] bR) (GD to te):=.mk λX Y ok=>by
  have ha:PA X [e] (cv (lD Y te) hX):=bA (he X Y ok) cG (by rw [hs];rfl)
  refine aY (kX F.plainAttrs_list F.slot_list_pop F.type_list_pop vF (ho X Y ok) ha (hb _) (ip _) hline (by rw [hs];rfl) (by rfl)) λσ H Q q=>?_
  obtain⟨F,ao,Qd,R,q,K⟩:=q;refine⟨F,ao,_,R,q,λv1 H1 F1 x av s1 R1 r1 q1=>?_⟩;cases x with
  | val d=>exact q1.elim
  | any=>exact q1.elim
  | var i =>
    obtain⟨⟨ys,e0⟩,q1⟩:=q1;have r1:σ[i]? = some (some v1):=r1;obtain⟨a,vs,w1,w2,w3,w4,w5⟩:=R1.own i ys e0;rw [r1]at w1;cases w1;refine⟨.inl ⟨rfl,vs,.of w2⟩,F1,av,_,R1,q1,λv2 H2 F2 d bh s2 R2 r2 q2=>?_⟩;unfold FE at q2
    split at q2
    · rename_i xs j e2
      obtain⟨b,us,z1,z2,z3,z4,z5⟩:=R2.own i xs e2;rw [r1]at z1;cases z1;obtain⟨h0,h1,h3,q2⟩:=q2;cases(show Rep F2 v2 (.int j)from r2)
      have AI:j.toNat<xs.length:=by omega
      obtain⟨y,hy,ry⟩:∃y,us[j.toNat]? = some y /\ Rep F2 y xs[j.toNat]:=z3.get (List.getElem?_eq_getElem AI);have Tp:us.length = xs.length:=z3.length;refine⟨a,us,j,j.toNat,y,rfl,rfl,z2,?_,?_,?_,hy,K y _ F2 (.val xs[j.toNat]) _ (s1.trans s2) (R2.write e2 r1 (z3.eraseIdx j.toNat)) ry (q2 _ (List.getElem?_eq_getElem AI))⟩
      · omega
      · omega
      · refine(mn ?_).1
        unfold qF;rw [if_pos h0,if_pos ⋯]
    · exact q2.elim
noncomputable def Dv(i:Nat) (d y:D) (σ:Sd) (Q:Sd -> Prop):Prop:=match σ[i]?,d with
  | some (some (.own xs)),.int j=>0 <= j /\ j<2 ^ 62 /\ xs.length<sizeLine /\ Q (σ.set i (some (.own (xs.take j.toNat ++ y :: xs.drop j.toNat))))
  | _,_=>False
noncomputable def zN(to:TV) (te tf:TD):TX:=λσ Q=>to σ λx av=>match x with
  | .var i=>kP av i /\ te av λd bh=>tf bh λy dX=>Dv i d y dX λA7=>Q (.val .bt) A7
  | _=>False
theorem oI{o e f:Expr} {to:TV} {te tf:TD} {apos bR:Pos} (ho:EO G k S o to) (he:ED G k S e te) (hf:ED G k S f tf) (hb:∀env,attributeBase o "insert" env (eval o env) = eval o env:=by intro _;rfl)
    (ip:∀env,((backTo bR (starEach [e,f] env)).all (λx=>!x.1) && (backToKw bR (keywordEach [] env)).all (λx=>x.1.isSome) && decide (([e,f]:List Expr).length+([]:List Keyword).length+(if([]:List Keyword).isEmpty then 0 else 1)<30)) = true:=by intro _;rfl)
    (hline:(apos.endLine == bR.line) = true:=by rfl) (hs:∀env,starEach [e,f] env = [(false,eval e env),(false,eval f env)]:=by intro _;rfl) (tj:∀env,starEach [f] env = [(false,eval f env)]:=by intro _;rfl):EX G k S (.Call (.Attribute o "insert" apos) [e,f] [] bR) (zN to te tf):=.mk λX Y ok=>by
  have pC:PA X [f] (cv (lD Y tf) hX):=bA (hf X Y ok) cG (by rw [tj];rfl)
  have ha:PA X [e,f] (cv (lD Y te) (cv (lD Y tf) hX)):=bA (he X Y ok) pC (by rw [hs,tj])
  refine aY (kX F.plainAttrs_list F.slot_list_insert F.type_list_insert sr (ho X Y ok) ha (hb _) (ip _) hline (by rw [hs,tj]) (by rw [tj];rfl)) λσ H Q q=>?_
  obtain⟨F,ao,Qd,R,q,K⟩:=q;refine⟨F,ao,_,R,q,λv1 H1 F1 x av s1 R1 r1 q1=>?_⟩;cases x with
  | val d=>exact q1.elim
  | any=>exact q1.elim
  | var i =>
    obtain⟨⟨ys,e0⟩,q1⟩:=q1;have r1:σ[i]? = some (some v1):=r1;obtain⟨a,vs,w1,w2,w3,w4,w5⟩:=R1.own i ys e0;rw [r1]at w1;cases w1;refine⟨.inl ⟨rfl,vs,.of w2⟩,F1,av,_,R1,q1,λv2 H2 F2 d bh s2 R2 r2 q2=>?_⟩;refine⟨F2,bh,_,R2,q2,λv3 H3 F3 y dX s3 R3 r3 q3=>?_⟩;unfold Dv at q3
    split at q3
    · rename_i xs j e2
      obtain⟨b,us,z1,z2,z3,z4,z5⟩:=R3.own i xs e2;rw [r1]at z1;cases z1;obtain⟨h0,h1,h2,q3⟩:=q3;cases(show Rep F2 v2 (.int j)from r2)
      exact⟨a,us,j,v3,rfl,rfl,z2,h0,h1,by rw [z3.length];exact h2,K .bt _ F3 (.val .bt) _ ((s1.trans s2).trans s3) (R3.write e2 r1 ((z3.take _).append (.cons r3 (z3.drop _)))) .bt q3⟩
    · exact q3.elim
end Vc
set_option Elab.async false
set_option linter.all false
set_option maxRecDepth 100000
set_option Elab.async false
set_option linter.all false
set_option maxRecDepth 100000
set_option Elab.async false
set_option linter.all false
set_option maxRecDepth 100000
set_option Elab.async false
set_option linter.all false
set_option maxRecDepth 100000
set_option Elab.async false
set_option linter.all false
set_option maxRecDepth 100000
set_option Elab.async false
set_option linter.all false
set_option maxRecDepth 100000
namespace Vc
open PySem L2
variable [KF]
variable {G:GE} {k:Nat} {S:Stat}
noncomputable def Ml(i:Nat) (tx:TV):j9:=λd σ Q=>kP σ i /\ tx σ λy bh=>match cw bh y with
  | some (.int j)=>oq i j d bh Q
  | _=>False
theorem uX(i:Nat) {x:Str} {ix:Expr} {tx:TV} {eH iu:Pos} (hx:EO G k S ix tx) (ho:EO G k S (.Name x iu) (af i))
    (ha:∀env v,assign (.Subscript (.Name x iu) ix eH) env v = (do
      let ov <- holding [v] (eval (.Name x iu) env)
      let iv <- holding [v,ov] (eval ix env)
      standAt eH
      holding [v,ov,iv] (setItem ov iv v)
      release [v,ov,iv] []):=by intro _ _;rfl):EG G k S (.Subscript (.Name x iu) ix eH) (Ml i tx):=.mk λX Y ok =>
  pN (vW (ho X Y ok) (hx X Y ok) set_list (ha _)) λv σ H Q q=>by
    obtain⟨F1,av,d,Qd,R1,r1,q1,K⟩:=q;obtain⟨⟨ys,e0⟩,q1⟩:=q1;refine⟨F1,av,λov bh=>ov = .var i /\ bh = av,R1,?_,λv2 H2 F2 ov bh s2 R2 r2 q2=>?_⟩
    · unfold af;rw [e0];exact⟨rfl,rfl⟩
    · obtain⟨rfl,rfl⟩:=q2
      have r2:σ[i]? = some (some v2):=r2;refine⟨F2,bh,_,R2,q1,λv3 H3 F3 y dX s3 R3 r3 q3=>?_⟩
      split at q3
      · rename_i j ej
        unfold oq at q3
        split at q3
        · rename_i xs ex
          split at q3
          · rename_i m em
            obtain⟨a,vs,w1,w2,w3,w4,w5⟩:=R3.own i xs ex;rw [r2]at w1;cases w1;have rj:=(R3.cw r3 ej).int;subst rj;refine⟨a,vs,j,m,rfl,rfl,w2,by rw [w3.length];exact em,?_⟩
            exact K _ _ F3 _ (s2.trans s3) (R3.write ex r2 (aM.set ((r1.mono s2).mono s3) m w3)) q3
          · exact q3.elim
        · exact q3.elim
      · exact q3.elim
noncomputable def yE(x y:D) (Q:Bool -> Prop):Prop:=Du x y λb=>Q !b
theorem BK:gd G k S .NotIn yE:=⟨λv u H Q=>∃y z,v = .str y /\ u = .str z /\ Q (.bl (!Txt.contains z y)) H,λX Y ok=>by
    intro pins s σ H v u v' u' Q I rv ru h;obtain⟨y,z,rfl,rfl,q⟩:=h;obtain⟨t,rfl⟩:=rv;obtain⟨t',rfl⟩:=ru;exact P.notIn_str ⟨.bl _,H,I,rfl,q⟩,λY F H ao σ v u x y Qd Q R rx ry q K=>by
  unfold yE Du at q
  split at q
  · cases rx.str;cases ry.str
    exact⟨_,_,rfl,rfl,K _ q⟩
  · exact q.elim⟩
noncomputable def iP:D -> D -> (EV -> Prop) -> Prop
  | .str x,.int j,Q=>PySem.MulOk x j /\ Q (.val (.str (Txt.mul x j)))
  | _,_,_=>False
theorem yP{X:Cx}:eN X (binaryOp .Mult) λx y H Q=>∃z j,x = .str z /\ y = .int j /\ PySem.MulOk z j /\ Q (.str (Txt.mul z j)) H:=by
  intro pins s σ H x y v u Q I rx ry h;obtain⟨z,j,rfl,rfl,ok,q⟩:=h;obtain⟨t,rfl⟩:=rx;obtain⟨t',rfl⟩:=ry;exact SB.mul ok λt' k=>⟨.str _,H,I.kept (t':=k) λ_ _ e=>e,⟨_,rfl⟩,q⟩
theorem jM{a b:Expr} {ta tb:TV} {pos:Pos} (ha:EO G k S a ta) (hb:EO G k S b tb):EX G k S (.BinOp a .Mult b pos) (aC iP ta tb):=iR (r:=λ_=>_) (λ_=>yP) (λ_=>by
  intro Y F H ao σ v u x y Qd Q R rx ry q g;unfold iP at q
  split at q
  · obtain rfl:=rx.str;obtain rfl:=ry.int
    exact⟨_,_,rfl,rfl,q.1,g.val R (.str _) q.2⟩
  · exact q.elim) ha hb
end Vc
set_option Elab.async false
set_option linter.all false
set_option maxRecDepth 100000
set_option Elab.async false
set_option linter.all false
set_option maxRecDepth 100000
set_option Elab.async false
set_option linter.all false
set_option maxRecDepth 100000
namespace Vc
open PySem L2
variable [KF]
noncomputable abbrev S2:=List B -> (B -> List B -> Prop) -> Prop
variable {G:GE} {k:Nat} {S:Stat}
end Vc
set_option Elab.async false
set_option linter.all false
set_option maxRecDepth 100000
namespace Vc
open PySem L2
variable [KF]
mutual
noncomputable def Si:D -> Bool
  | .bt=>true
  | .bl _=>true
  | .int _=>true
  | .str _=>true
  | .tup xs=>D2 xs
  | .lst xs=>D2 xs
  | _=>false
noncomputable def D2:List D -> Bool
  | []=>true
  | x :: xs=>Si x && D2 xs
end
inductive AV where
  | d (x:D) | n (j:Nat) | l (j:Nat)
noncomputable abbrev S3:=Sd -> (List AV -> Sd -> Prop) -> Prop
variable {G:GE} {k:Nat} {S:Stat}
end Vc
set_option Elab.async false
set_option linter.all false
set_option maxRecDepth 100000
set_option Elab.async false
set_option linter.all false
set_option maxRecDepth 100000
set_option Elab.async false
set_option linter.all false
set_option maxRecDepth 100000
set_option Elab.async false
set_option linter.all false
set_option maxRecDepth 100000
set_option Elab.async false
set_option linter.all false
set_option maxRecDepth 100000
set_option Elab.async false
set_option linter.all false
set_option maxRecDepth 100000
set_option Elab.async false
set_option linter.all false
set_option maxRecDepth 100000
namespace Vc
open PySem L2
variable [KF]
variable {G:GE} {k:Nat} {S:Stat}
theorem R8{α:Type} {P:List α -> Prop} (h:P []) (us:List α) (e:us.length = 0):P us:=List.eq_nil_of_length_eq_zero e ▸ h
theorem Hd{α:Type} {n:Nat} {P:List α -> Prop} (h:∀(a:α) (r:List α),r.length = n -> P (a :: r)):∀us:List α,us.length = n+1 -> P us:=λus e=>by
  cases us with
  | nil=>cases e
  | cons a r=>exact h a r (Nat.succ.inj e)
@[elab_as_elim] theorem o8{α:Type} {P:List α -> Prop} (h:∀a,P [a]) (us:List α) (e:us.length = 1):P us:=Hd (λa=>R8 (P:=λr=>P (a :: r)) (h a)) us e
@[elab_as_elim] theorem ln2{α:Type} {P:List α -> Prop} (h:∀a b,P [a,b]) (us:List α) (e:us.length = 2):P us:=Hd (λa=>o8 (P:=λr=>P (a :: r)) (h a)) us e
@[elab_as_elim] theorem OC{α:Type} {P:List α -> Prop} (h:∀a b c,P [a,b,c]) (us:List α) (e:us.length = 3):P us:=Hd (λa=>ln2 (P:=λr=>P (a :: r)) (h a)) us e
@[elab_as_elim] theorem Qk{α:Type} {P:List α -> Prop} (h:∀a b c d,P [a,b,c,d]) (us:List α) (e:us.length = 4):P us:=Hd (λa=>OC (P:=λr=>P (a :: r)) (h a)) us e
@[elab_as_elim] theorem Ql{α:Type} {P:List α -> Prop} (h:∀a b c d e,P [a,b,c,d,e]) (us:List α) (e:us.length = 5):P us:=Hd (λa=>Qk (P:=λr=>P (a :: r)) (h a)) us e
@[elab_as_elim] theorem R9{α:Type} {P:List α -> Prop} (h:∀a b c d e f,P [a,b,c,d,e,f]) (us:List α) (e:us.length = 6):P us:=Hd (λa=>Ql (P:=λr=>P (a :: r)) (h a)) us e
end Vc
set_option Elab.async false
set_option linter.all false
set_option maxRecDepth 100000
set_option Elab.async false
set_option linter.all false
set_option maxRecDepth 100000
set_option Elab.async false
set_option linter.all false
set_option maxRecDepth 100000
set_option Elab.async false
set_option linter.all false
set_option maxRecDepth 100000
set_option Elab.async false
set_option linter.all false
set_option maxRecDepth 100000
set_option Elab.async false
set_option linter.all false
set_option maxRecDepth 100000
set_option Elab.async false
set_option linter.all false
set_option maxRecDepth 100000
set_option Elab.async false
set_option linter.all false
set_option maxRecDepth 100000
set_option Elab.async false
set_option linter.all false
set_option maxRecDepth 100000
set_option Elab.async false
set_option linter.all false
set_option maxRecDepth 100000
set_option Elab.async false
set_option linter.all false
set_option maxRecDepth 100000
set_option Elab.async false
set_option linter.all false
set_option maxRecDepth 100000
set_option Elab.async false
set_option linter.all false
set_option maxRecDepth 100000
set_option Elab.async false
set_option linter.all false
set_option maxRecDepth 100000
set_option Elab.async false
set_option linter.all false
set_option maxRecDepth 100000
set_option Elab.async false
set_option linter.all false
set_option maxRecDepth 100000
set_option Elab.async false
set_option linter.all false
set_option maxRecDepth 100000
set_option Elab.async false
set_option linter.all false
set_option maxRecDepth 100000
set_option Elab.async false
set_option linter.all false
set_option maxRecDepth 100000
set_option Elab.async false
set_option linter.all false
set_option maxRecDepth 100000
set_option Elab.async false
set_option linter.all false
set_option maxRecDepth 100000
set_option Elab.async false
set_option linter.all false
set_option maxRecDepth 100000
set_option Elab.async false
set_option linter.all false
set_option maxRecDepth 100000
set_option Elab.async false
set_option linter.all false
set_option maxRecDepth 100000
set_option Elab.async false
set_option linter.all false
set_option maxRecDepth 100000
set_option Elab.async false
set_option linter.all false
set_option maxRecDepth 100000
set_option Elab.async false
set_option linter.all false
set_option maxRecDepth 100000
set_option Elab.async false
set_option linter.all false
set_option maxRecDepth 100000
set_option Elab.async false
set_option linter.all false
set_option maxRecDepth 100000
set_option Elab.async false
set_option linter.all false
set_option maxRecDepth 100000
set_option Elab.async false
set_option linter.all false
set_option maxRecDepth 100000
set_option Elab.async false
set_option linter.all false
set_option maxRecDepth 100000
set_option Elab.async false
set_option linter.all false
set_option maxRecDepth 100000
set_option Elab.async false
set_option linter.all false
set_option maxRecDepth 100000
set_option Elab.async false
set_option linter.all false
set_option maxRecDepth 100000
set_option Elab.async false
set_option linter.all false
set_option maxRecDepth 100000
set_option Elab.async false
set_option linter.all false
set_option maxRecDepth 100000
set_option Elab.async false
set_option linter.all false
set_option maxRecDepth 100000
set_option Elab.async false
set_option linter.all false
set_option maxRecDepth 100000
set_option Elab.async false
set_option linter.all false
set_option maxRecDepth 100000
set_option Elab.async false
set_option linter.all false
set_option maxRecDepth 100000
set_option Elab.async false
set_option linter.all false
set_option maxRecDepth 100000
set_option Elab.async false
set_option linter.all false
set_option maxRecDepth 100000
set_option Elab.async false
set_option linter.all false
set_option maxRecDepth 100000
set_option Elab.async false
set_option linter.all false
set_option maxRecDepth 100000
set_option Elab.async false
set_option linter.all false
set_option maxRecDepth 100000
namespace Vs
open PySem PySem.Calls PyProof.Rows PyProof.V PySem.Spec
theorem ki:entryFor table "proto.unchain" = some Builtin.«proto.unchain»:=entryFor_of_tree (by kernel_rfl)
section
variable {prog:Program} {w:World} {A:Around} {E:Value -> Shared -> Prop} {s:Shared} {a e:Addr}
theorem p9{v:Value} {b:Bool} {Q:Value -> Shared -> Prop} (f:Vc.F2 a s.heap) (q:Q .none s):wpAny (model prog w) A (runValue (.builtin "proto.unchain" ⟨[v,.ref a,.ref a,.bool b],[]⟩)) Q E s:=by
  obtain⟨o,vs,e1,e2,e3⟩:=f;refine wpAny_runValue (codeAny_builtin ki ?_);unfold Builtin.«proto.unchain»;refine wpAny_bind (wpAny_field e1 e2 e3 ?_);exact wpAny_pure q
theorem sV{α:Type} {Q:α -> Shared -> Prop} {oe:Obj} {vs:Array Value} (hh:A.handled = some (.ref a)) (f:Vc.F2 a s.heap) (he:s.heap.get? e = some oe) (hd:oe.data = .fields vs) (hz:2<vs.size) (ne:a ≠ e)
    (q:E (.ref e) {s with heap:=s.heap.update e (Obj.mapFields (·.setIfInBounds 2 (.ref a)))}):wpAny (model prog w) A (raiseNew (.ref e):Sem α) Q E s:=by
  unfold raiseNew;refine wpAny_bind (wpAny_handled ?_);rw [hh];have z:(Value.ref a != Value.ref e) = true:=by
    rw [bne_iff_ne];intro h;cases h;exact ne rfl
  show wpAny _ _ (if(Value.ref a != Value.ref e) = true then _ else _) _ _ _
  rw [if_pos z];refine wpAny_bind (wpAny_holding (p9 f ?_));refine wpAny_bind ?_;unfold updateField;refine wpAny_bind (wpAny_load he ?_);rw [hd];show wpAny _ _ (if 2<vs.size then _ else _) _ _ _
  rw [if_pos hz];exact wpAny_update he (wpAny_throw q)
theorem eX{it l:Addr} {i:Nat} {items:Array Value} {Q:Option Value -> Shared -> Prop} (hh:A.handled = some (.ref a)) (f:Vc.F2 a s.heap) (hit:s.heap.IsListIter it l i) (hl:s.heap.IsList l items) (hx:items[i]? = none) (ha:a ≠ it)
    (q:∀h',Heap.ExtBut it s.heap h' -> Q none {s with heap:=h'}):wpAny (model prog w) A (pyNext (.ref it)) Q E s:=by
  obtain⟨o,ho,hc,hd⟩:=id hit;obtain⟨ol,Rv,Ti,nl,Rg⟩:=hl;unfold pyNext;refine wpAny_bind (wpAny_attempt (wpAny_callSpecial?_slot (name:="__next__") hit.typeIs slot_listiter_next (wpAny_call_entry slot_listiter_next hit.typeIs entry_listiter_next ?_ (args_listiter_next _))));show wpAny _ _ (field (.ref it) 0 >>= _) _ _ s;refine wpAny_bind (wpAny_field ho hd (x:=.ref l) rfl ?_);show wpAny _ _ (if(Value.ref l == Value.none) = true then _ else _) _ _ s
  rw [if_neg (show¬((Value.ref l == Value.none) = true)from Bool.false_ne_true)]
  refine wpAny_bind (wpAny_field ho hd (x:=.int i 0) rfl ?_);refine wpAny_bind (wpAny_seqItems Rv Rg ?_);simp only [Int.toNat_natCast,hx];refine wpAny_bind (wpAny_rule (wpAny_bind (wpAny_setField ho hd (by simp) ?_)))
  show wpAny _ _ (newExc (.type "StopIteration") [] >>= _) _ _ _;refine wpAny_bind ?_;simp only [newExc,newTuple];refine wpAny_bind (wpAny_newObj_type ?_ (by size_fits))
  refine wpAny_bind (m:=firstArgMember _ _) (wpAny_of_eq (a:=Value.none) (by first | rfl | (simp only [firstArgMember];rfl)) (wpAny_newObj_type ?_ (by size_fits)))
  have f1:Vc.F2 a (s.heap.update it (Obj.mapFields (·.setIfInBounds 0 .none))):=by
    obtain⟨u,vs,g1,g2⟩:=f;exact⟨u,vs,(Heap.get?_update_other _ _ (Ne.symm ha)).trans g1,g2⟩
  have f2:∀x y:Obj,Vc.F2 a (((s.heap.update it (Obj.mapFields (·.setIfInBounds 0 .none))).push x).push y):=λx y=>by
    obtain⟨u,vs,g1,g2⟩:=f1;exact⟨u,vs,Heap.get?_push_of_some _ (Heap.get?_push_of_some _ g1),g2⟩
  have lt:∀x:Obj,a<((s.heap.update it (Obj.mapFields (·.setIfInBounds 0 .none))).push x).objs.size:=λx=>by
    obtain⟨u,vs,g1,g2⟩:=f1;exact Heap.lt_size (Heap.get?_push_of_some x g1)
  refine sV (A:=A.in1) hh (f2 _ _) (Heap.get?_push_size _ rfl) rfl (by rw [Array.size_append];exact Nat.lt_of_lt_of_le (by decide:2<6) (Nat.le_add_right _ _)) (Nat.ne_of_lt (lt _)) ?_
  refine wpAny_bind (wpAny_isInstance (T:="StopIteration") (b:=true) ⟨_,Heap.get?_update_self _ (Heap.get?_push_size _ rfl) rfl,rfl⟩ isSubtype_stop ?_);refine wpAny_pure (q _ λb u hb e=>?_);refine(Heap.get?_update_other _ _ ?_).trans (Heap.get?_push_of_some _ (Heap.get?_push_of_some _ ((Heap.get?_update_other _ _ (Ne.symm hb)).trans e)));have AI:=Heap.lt_size e;exact Ne.symm (Nat.ne_of_lt (Nat.lt_of_lt_of_le AI (by simp)))
end
end Vs
namespace Vs
open PySem PySem.Calls PyProof.Rows PyProof.V PySem.Spec
section
variable {prog:Program} {w:World} {A:Around} {E:Value -> Shared -> Prop} {s:Shared} {a:Addr}
theorem Nr{h1 h2:Heap} (f:Vc.F2 a h1) (k:∀o,h1.get? a = some o -> h2.get? a = some o):Vc.F2 a h2:=
  let ⟨o,vs,e,r⟩:=f;⟨o,vs,k o e,r⟩
theorem o3(hh:A.handled = some (.ref a)) (I l:Addr) (hl:l ≠ I) (ha:a ≠ I) (items:Array Value):
    Walks prog w A I [I,l,a] [I] items.size (λi v=>items[i]? = some v) (λi h=>(h.IsListIter I l i /\ h.IsList l items) /\ Vc.F2 a h) where
  sub:=λb hb=>List.mem_cons.mpr (.inl (List.mem_singleton.mp hb))
  frame:=λ_ _ _ st kp=>⟨⟨st.1.1.at λo e=>kp I (.head _) o e,st.1.2.at λo e=>kp l (.tail _ (.head _)) o e⟩,Nr st.2 λo e=>kp a (.tail _ (.tail _ (.head _))) o e⟩
  item:=λi s Q E hi st q=>by
    have x:items[i]? = some items[i]:=Array.getElem?_eq_getElem hi;refine wpAny_pyNext_list_item st.1.1 st.1.2 x λh' RP sb=>q _ h' s.toks x ⟨⟨RP,st.1.2.extBut sb.extBut hl⟩,Nr st.2 λo e=>sb.extBut a o ha e⟩ λb o hb e=>sb.extBut b o (λz=>hb (List.mem_singleton.mpr z)) e
  done:=λs Q E st q=>eX hh st.2 st.1.1 st.1.2 (Array.getElem?_eq_none (Nat.le_refl _)) ha λh' ex=>q h' s.toks λb o hb e=>ex b o (λz=>hb (List.mem_singleton.mpr z)) e
  self:=λ_ _ _ _ st q=>wpAny_pyIter_listiter st.1.1 q
theorem iQ(ns:List Int):∀j,preSum (λi=>ns.getD i 0) j = (ns.take j).sum
  | 0=>rfl
  | j+1=>by
    rw [preSum,iQ ns j,List.take_succ,List.sum_append];congr 1;rw [List.getD_eq_getElem?_getD];cases ns[j]?<;>simp
theorem iO:∀ {its:List Value} {ns:List Int},IntsAre its ns -> its.length = ns.length
  | _,_,.nil=>rfl
  | _,_,.cons _ _ r=>by rw [List.length_cons,List.length_cons,iO r]
theorem sN{l:Addr} {its:List Value} {ns:List Int} {Q:Value -> Shared -> Prop} (hh:A.handled = some (.ref a)) (f:Vc.F2 a s.heap) (hl:s.heap.IsList l its.toArray) (hi:IntsAre its ns)
    (h:∀h' tk t',(∀b o,s.heap.get? b = some o -> h'.get? b = some o) -> Q (.int ns.sum t') {s with heap:=h',toks:=tk}):wpAny (model prog w) A (call (.builtin "sum") [.ref l]) Q E s:=by
  have Qn:l<s.heap.objs.size:=by obtain⟨o,e,_⟩:=hl;exact Heap.lt_size e
  have Qm:a<s.heap.objs.size:=by obtain⟨o,vs,e,_⟩:=f;exact Heap.lt_size e
  refine call_sum_walkG (wpAny_pyIter_list hl ?_);refine⟨s.heap.objs.size,[s.heap.objs.size,l,a],_,_,_,_,λi=>ns.getD i 0,rfl,o3 (A:=A.in1) hh _ l (Nat.ne_of_lt Qn) (Nat.ne_of_lt Qm) its.toArray,⟨⟨⟨_,Heap.get?_push_size _ rfl,rfl,rfl⟩,hl.push _⟩,Nr f λo e=>Heap.get?_push_of_some _ e⟩,λb hb=>?_,λi v e=>?_,λh' tk t' kp=>?_⟩
  · have hz:(s.heap.push {cls:=.type "list_iterator",data:=.fields #[.ref l,.int 0 0]}).objs.size = s.heap.objs.size+1:=Heap.size_push ..
    show b<(s.heap.push {cls:=.type "list_iterator",data:=.fields #[.ref l,.int 0 0]}).objs.size;rw [hz];simp only [List.mem_cons,List.not_mem_nil,or_false]at hb;rcases hb with rfl | rfl | rfl
    · exact Nat.lt_succ_self _
    · exact Nat.lt_succ_of_lt Qn
    · exact Nat.lt_succ_of_lt Qm
  · exact IntsAre.int_at hi i v (by rw [<- Array.getElem?_toList]at e;exact e)
  · have e1:preSum (λi=>ns.getD i 0) its.toArray.size = ns.sum:=by
      rw [iQ,show its.toArray.size = ns.length from iO hi,List.take_length]
    rw [e1];exact h h' tk t' λb o e=>kp b o (λz=>by rw [List.mem_singleton.mp z]at e;exact absurd (Heap.lt_size e) (Nat.lt_irrefl _)) (Heap.get?_push_of_some _ e)
end
end Vs
namespace Vc
open PySem L2
variable [KF]
noncomputable def Ba(a:Addr):Cx -> Prop:=λX=>X.A.handled = some (.ref a)
noncomputable def Pq(K:PySem.W.Frag) (a:Addr) (c:Str) (p:Addr):It:=⟨(G5 K p).go,(G5 K p).Hk,λi H=>(G5 K p).stop i H /\ H a = some (iY a c)⟩
theorem p0{P:Program} {w:World} {K:PySem.W.Frag} {tg:Expr} (a:Addr) (c:Str) (p it:Addr):qg (Ba a) P w K tg (Pq K a c p) [it] it (λi h=>h.IsListIter it p i) where
  mem:=List.mem_singleton.mpr rfl
  obj:=(fG (P:=P) (w:=w) (K:=K) (tg:=tg) p it).obj
  keep:=(fG (P:=P) (w:=w) (K:=K) (tg:=tg) p it).keep
  self:=(fG (P:=P) (w:=w) (K:=K) (tg:=tg) p it).self
  item:=λX hP hw hK hc i pins s σ H E I hf st hg=>by
    cases hP;cases hw;cases hK;obtain⟨xs,x,hq,hx⟩:=hg;obtain⟨its,rv,pl,_⟩:=I.list hq;obtain⟨u,hu,ru⟩:=rv.get hx;obtain⟨f0,f1,f2,f3,f4,f5⟩:=hf it (.head _);refine wpAny_pyNext_list_item st pl.isList (x:=u) (by simpa using hu) λh' kq sb=>⟨u,rfl,?_⟩
    obtain⟨o,e,cl,d⟩:=id kq;exact oh (s:={s with heap:=h'}) e cl d ∅ ⟨x,H,I.turned (t':=s.toks) (λb o hb e=>(sb.2 b hb).trans e) f0 f1 f3 f4 f5,ru,⟨rfl,λys hy=>by rw [I.jG hy hq];exact hx⟩,kq,λb hb=>(hf b hb).1⟩
  done:=λX hP hw hK hc i pins s σ H E I hf st hg=>by
    cases hP;cases hw;cases hK;obtain⟨⟨xs,hq,hx⟩,ha⟩:=hg;obtain⟨its,rv,pl,_⟩:=I.list hq;obtain⟨f0,f1,f2,f3,f4,f5⟩:=hf it (.head _);have hl:=rv.length;have ne:a ≠ it:=λz=>by rw [<- z,ha]at f0;cases f0
    exact Vs.eX hc (I.bo a _ ha).1.2 st pl.isList (Array.getElem?_eq_none (by simp;omega)) ne λh' ex=>⟨rfl,I.turned (t':=s.toks) (λb o hb e=>ex b o hb e) f0 f1 f3 f4 f5⟩
theorem vZ{X:Cx} {tg l:Expr} {tl:TE} {a:Addr} {c:Str} (hl:PE X l tl):M0 (Ba a) X tg l (λσ H R=>tl σ H λx H1=>∃p,x = .ref p /\ (∃xs,eO X.K H1 p xs) /\ R (Pq X.K a c p) H1):=λpins s σ H R I h =>
  cp (hl pins s σ H _ I h) λv s1 ⟨x,H1,I1,r1,p,e,⟨xs,hq⟩,q⟩=>by
    subst e;cases r1;obtain⟨its,rv,pl,_⟩:=I1.list hq;refine wpAny_pyIter_list pl.isList ⟨s1.heap.objs.size,[s1.heap.objs.size],_,_,H1,rfl,I1.kept (t':=s1.toks) λb o e=>Heap.get?_push_of_some _ e,p0 a c p _,⟨_,Heap.get?_push_size _ rfl,rfl,rfl⟩,λb hb=>?_,q⟩;rw [List.mem_singleton.mp hb];exact I1.rZ (Nat.le_refl _) (I1.bo.fresh (Nat.le_refl _))
variable {G:GE} {k:Nat} {S:Stat}
noncomputable def jA(t:TD):fq:=λσ Q=>t σ λd av=>match d with
  | .lst xs=>Q xs av
  | _=>False
noncomputable def BJ(S:Stat) (scope:Scope) (N':List Str):Stat:=⟨N',dh scope.names S.sc,[],true,true,false,λ_ _=>False⟩
theorem kH{X X':Cx} {Y:bM} {scope:Scope} {N':List Str} {caps:List (Option Nat)} (ok:cX X G k S Y) (b:iI S scope N' caps) (c:iJ X X' scope N') (Y':bM) (cM:Y'.io = []):cX X' G k (BJ S scope N') Y' where
  P:=c.P.trans ok.P
  w:=c.w.trans ok.w
  K:=c.K.trans ok.K
  kf:=c.K.trans ok.kf
  mg:=c.mg.trans ok.mg
  obs:=λh=>nomatch h
  base:=c.base.trans ok.base
  N:=c.N
  sc:=by
    rw [c.sc];show scope.names.map _ = dh scope.names S.sc;unfold dh;refine List.map_congr_left λy _=>?_;obtain⟨n,kk⟩:=y;have kd:X.env.kindOf n = S.sc.lookup n:=by
      show X.env.scope.names.lookup n = _;rw [ok.sc]
    simp only [ok.kind,kd,beq_self_eq_true,Bool.and_true]
  nd:=b.nd
  ios:=λp hp=>by rw [cM]at hp;cases hp
  calm:=λh=>nomatch h
  kind:=by rw [c.sc];exact b.kind
  fn:=λh=>nomatch h
  hd:=λh=>nomatch h
  dp:=by rw [c.A];exact ok.dp
  un:=by rw [c.A];exact ok.un
  po:=λh=>nomatch h
  nx:=λh=>nomatch h
  exc:=λ_ _ h=>h.elim
  made:=λh=>nomatch h
  hx:=λ_ h=>nomatch h
section
variable {elt target iter:Expr} {scope:Scope} {pos:Pos} {N':List Str} {caps:List (Option Nat)} {g:j9} {t te:TD}
theorem zv(hi:ED G k S iter t) (b:iI S scope N' caps) (hg:EG G k (BJ S scope N') target g) (he:ED G k (BJ S scope N') elt te) (hs:∀env x,foldedSetIterable iter env x = pure x:=by intro _ _;rfl) (hh:S.kl = true:=by rfl) (hr:S.rs = true:=by rfl):
    EX G k S (.ListComp elt [⟨target,iter,[],0⟩] scope pos) (cu S.ios caps (jA t) g cR te):=.mk λX Y ok=>by
  obtain⟨a,c,hA,hF⟩:=ok.hx hh hr;refine aY (oH (Cc:=Ba a) (λ_ _ _ _=>hA) (wi:=lI Y (jA t)) (λpins s σ H R I q=>vZ (c:=c) (hi X Y ok) pins s σ H R I ?_) (b.sc ok) (λX' cx =>
    ⟨λpins s σ H v u Q I r ⟨Y',cM,q⟩=>hg X' Y' (kH ok b cx Y' cM) pins s σ H v u Q I r q,λpins s σ H Q I ⟨Y',cM,q⟩=>qX pins s σ H Q I (by
      obtain⟨F,ao,Qd,R,q,K⟩:=q;exact K true H F ao (ax.refl _) R q),λpins s σ H Q I ⟨Y',cM,q⟩=>he X' Y' (kH ok b cx Y' cM) pins s σ H Q I q⟩) (hs _)) λσ H Q q=>fV (ti:=jA t) (tc:=cR) ok.ios q
  obtain⟨F,ao,Qd,R,q,K⟩:=q;refine⟨F,ao,_,R,q,λv H1 F1 d av s1 R1 r1 q1=>?_⟩;cases d with
  | lst xs =>
    cases r1 with
    | lst hf rl =>
      refine⟨_,rfl,⟨_,.inl (Rd.mono R1.fr hf)⟩,K H1 F1 av _ xs s1 R1 (λF2 H2 z1 z2 i=>?_) q1⟩;have y:=qE (K:=X.K) hf rl F2 H2 z1 z2 i;exact⟨y.1,λe=>⟨y.2 e,z2 _ _ (z1 _ _ (R1.lo _ _ hF))⟩⟩
  | _=>exact q1.elim
theorem FN{e:Expr} {t:pe} {p pos:Pos} (hm:G.mg "sum" = none) (ha:xr G k S [e] t) (hg:S.sc.lookup ("sum":Str) = some .globalImplicit:=by rfl) (hh:S.kl = true:=by rfl) (hr:S.rs = true:=by rfl)
    (he:∀env,starEach [e] env = (false,eval e env) :: starEach [] env:=by exactλ_=>Vc.dv rfl) (i3:∀env,(backTo pos (starEach [] env)).any (·.1) = false:=by intro _;rfl):EX G k S (.Call (.Name "sum" p) [e] [] pos) (dC sumF t):=.mk λX Y ok=>by
  obtain⟨a,c,hA,hF⟩:=ok.hx hh hr;have call:cb X (.builtin "sum") (λxs H Q=>∃(p:Addr) (ns:List Int),xs = [.ref p] /\ eO X.K H p (ns.map V.int) /\ H a = some (iY a c) /\ Q (.int ns.sum) H):=by
    intro pins s σ H xs us Q I r h;obtain⟨p,ns,rfl,hq,ha,q⟩:=h;obtain⟨u,rfl,ru⟩:=vals1 r;cases ru;obtain⟨its,rv,pl,_⟩:=I.list hq;exact Vs.sN hA (I.bo a _ ha).1.2 pl.isList (L2.intsAre_of rv) λg tk t' kp=>⟨.int ns.sum,H,I.kept kp,⟨t',rfl⟩,q⟩
  refine aY (de call (cc ok hg) (by rw [ok.mg];exact hm) (by decide +kernel) (ha X Y ok) ∅ ∅ (he _) (i3 _)) λσ H Q q=>?_
  obtain⟨F,ao,Qd,R,q,K⟩:=q;refine⟨F,ao,_,R,q,λvs H1 F1 xs av s1 R1 r1 q1=>?_⟩
  split at q1
  · rename_i ds ed
    unfold sumF at q1
    split at q1
    · have rr:=R1.ig r1 ed
      obtain⟨v,rfl,rv⟩:=rr.one;obtain⟨p,us,rfl,h1,h2⟩:=rv.lst;refine⟨p,_,rfl,?_,R1.fr _ _ (R1.lo _ _ hF),K _ H1 F1 (.val (.int _)) av s1 R1 (.int _) q1.2⟩;rw [<- h2.ints q1.1];exact .inl h1
    · exact q1.elim
  · exact q1.elim
end
end Vc
set_option Elab.async false
set_option linter.all false
set_option maxRecDepth 100000
namespace Vc
open PySem L2
variable [KF]
variable {G:GE} {k:Nat}
local macro_rules | `(tactic| walk_at "bn")=>`(tactic| (intro _ _ _ _ _ _ us hl;first | exact o8 (λ_=>rfl) us hl | exact ln2 (λ_ _=>rfl) us hl | exact OC (λ_ _ _=>rfl) us hl | exact Qk (λ_ _ _ _=>rfl) us hl | exact Ql (λ_ _ _ _ _=>rfl) us hl | exact R9 (λ_ _ _ _ _ _=>rfl) us hl))
end Vc
set_option maxHeartbeats 0
set_option Elab.async false
set_option linter.all false
set_option maxRecDepth 100000
namespace MY
open PySem L2 Vc
section
noncomputable def top(i:Nat):Stmt:=PySem.Challenge.pw_closepoints_k38_texts_of_no_points.main.body.getD i (.Pass ⟨0,0,0,0⟩)
variable [KF]
noncomputable abbrev XL:List Str:=["NearError","NoPoints","NoWay","NoPlace","NoBound","NoNumber","TooMany","NoPaper","NoText","NoForm","NoneYet"]
structure Gl(G:GE):Prop where
  f9:gk G XL
  z_ValueError:G.mg "ValueError" = none
  z_all:G.mg "all" = none
  z_bool:G.mg "bool" = none
  z_enumerate:G.mg "enumerate" = none
  z_int:G.mg "int" = none
  z_isinstance:G.mg "isinstance" = none
  z_len:G.mg "len" = none
  z_list:G.mg "list" = none
  z_max:G.mg "max" = none
  z_min:G.mg "min" = none
  z_range:G.mg "range" = none
  z_set:G.mg "set" = none
  z_str:G.mg "str" = none
  z_sum:G.mg "sum" = none
  z_tuple:G.mg "tuple" = none
  z_zip:G.mg "zip" = none
  rR:xE G "FIGURES" (.str "0123456789")
  eQ:xE G "MOST_FIGURES" (.int 15)
  rS:xE G "NOTHING" (.str "none")
variable {G:GE} {k:Nat}
noncomputable abbrev mV:Stmt:=top 13
noncomputable abbrev Bj:List Str:=["count"]
local macro_rules | `(tactic| walk_at "5") => `(tactic| exact ⟨rfl,rfl,rfl,by decide +kernel,rfl,by decide +kernel,by decide +kernel⟩)
theorem Lp:aV Bj ["count"] (ai mV):=by walk_at "5"
noncomputable def zS(ex:Str -> Sd -> Prop):cJ:=(cB (oU (a8 He (af 0) (aD (.int 1))) (a8 CW (af 0) (aD (.int 3)))) (LZ ex "NoPoints" (aJ (ak [] (aD (.str "a point has one, two or three numbers"))) tN)) iU)
theorem Nk(E:Gl G) (ex:Str -> Sd -> Prop):dZ G k ⟨Bj,(ai mV).names,[],false,false,true,ex⟩ (ay mV) (zS ex):=(aL (cK (A1 (sI (bq HU (ah 0) aq) (k7 (bq tT (ah 0) aq)))) (aL (mY (E.f9.cls "NoPoints" ∅) (ag (aE aA) aB))) b8))
noncomputable abbrev mM:Stmt:=top 14
noncomputable abbrev Bb:List Str:=["point","count"]
theorem Lf:aV Bb ["point","count"] (ai mM):=by walk_at "5"
noncomputable def zP(ex:Str -> Sd -> Prop):cJ:=(cB (a8 neT (aH (dC dJ (bH (af 0) dm))) (af 1)) (LZ ex "NoPoints" (aJ (ak [] (aD (.str "all points have as many numbers"))) tN)) iU)
theorem Nb(E:Gl G) (ex:Str -> Sd -> Prop):dZ G k ⟨Bb,(ai mM).names,[],false,false,true,ex⟩ (ay mM) (zP ex):=(aL (cK (bq ph (aI (df f_len E.z_len (aK (ah 0) bf) (by decide +kernel))) (ah 1)) (aL (mY (E.f9.cls "NoPoints" ∅) (ag (aE aA) aB))) b8))
noncomputable abbrev mO:Stmt:=top 15
noncomputable abbrev Bc:List Str:=["points","point"]
theorem Lg:aV Bc ["points"] (ai mO):=by walk_at "5"
noncomputable def zQ(ex:Str -> Sd -> Prop) (rq:ky) (rh:ky):cJ:=(dR (cq (ak [] (af 0))) (fW 1) (bS (tm (sP ex rq (aJ (ak [] (aH (dC dJ (bH (af 1) dm)))) tN))) (tm (sP ex rh (aJ (ak [] (af 1)) (aJ (ak [] (aH (dC dJ (bH (jo (af 0) (aD (.int 0))) dm)))) tN))))))
theorem Nc(E:Gl G) (ex:Str -> Sd -> Prop) {rq:ky} (C6:rK G k "need_count" rq) {rh:ky} (C0:rK G k "need_as_many_numbers" rh):dZ G k ⟨Bc,(ai mO).names,[],false,false,true,ex⟩ (ay mO) (zQ ex rq rh):=(aL (jO (du (aE (ah 0))) (bG 1) (aw (dB (jf C6 (ag (aE (aI (df f_len E.z_len (aK (ah 1) bf) (by decide +kernel)))) aB))) (aL (dB (jf C0 (ag (aE (ah 1)) (ag (aE (aI (df f_len E.z_len (aK (dq (ah 0) aq) bf) (by decide +kernel)))) aB))))))))
noncomputable abbrev mQ:Stmt:=top 20
noncomputable abbrev Bf:List Str:=["word","most"]
theorem Li:aV Bf ["word","most"] (ai mQ):=by walk_at "5"
noncomputable def GK:cJ:=(bS (cB (oU (dj (dU (af 0))) (a8 CW (aH (dC dJ (bH (af 0) dm))) (af 1))) (dS [] (oX (aD (.bl false)))) iU) (bS (cB (fb (a8 eqT (jo (af 0) (aD (.int 0))) (aD (.str "0"))) (a8 CW (aH (dC dJ (bH (af 0) dm))) (aD (.int 1)))) (dS [] (oX (aD (.bl false)))) iU) (dS [] (dC rO (bH (aH (cu [] [none] (cq (ak [] (af 0))) (fW 0) cR (ak [] (bV (a8 Du (af 0) (aD (.str "0123456789"))))))) dm)))))
theorem Ng(E:Gl G):dZ G k ⟨Bf,(ai mQ).names,[],false,false,false,λ_ _=>False⟩ (ay mQ) (GK):=(aw (cK (A1 (sI (eh (cH (ah 0))) (k7 (bq tT (aI (df f_len E.z_len (aK (ah 0) bf) (by decide +kernel))) (ah 1))))) (aL (bj (fO sG))) b8) (aw (cK (A1 (AZ (bq dD (dq (ah 0) aq) aA) (wm (bq tT (aI (df f_len E.z_len (aK (ah 0) bf) (by decide +kernel))) aq)))) (aL (bj (fO sG))) b8) (aL (bj (df uI E.z_all (aK (aI (cU (N':=["sign"]) (du (aE (ah 0))) ⟨rfl,by first | decide +kernel | (dsimp only [aS,aG];decide +kernel),by first | decide +kernel | (dsimp only [aS,aG];decide +kernel),by first | decide +kernel | (dsimp only [aS,aG];decide +kernel),by first | decide +kernel | (dsimp only [aS,aG];decide +kernel),rfl,by first | decide +kernel | (dsimp only [aS,aG];decide +kernel)⟩ (bG 0) fN (aE (eC HQ (ah 0) (qY E.rR))))) bf) (by decide +kernel))))))
noncomputable abbrev mX:Stmt:=top 21
noncomputable abbrev Bl:List Str:=["word"]
theorem Lr:aV Bl ["word"] (ai mX):=by walk_at "5"
noncomputable def GQ(oO:b7):cJ:=(bS (cB (dU (Pa (af 0) (aD (.str "-")))) (dS [] (oX (bV (fb (di (bV (a8 neT (af 0) (aD (.str "-0"))))) (di (aH (cV oO (aJ (ak [] (aH (jZ (af 0) (wL (aD (.int 1))) wK))) (aJ (ak [] (aD (.int 15))) tN))))))))) iU) (dS [] (cV oO (aJ (ak [] (af 0)) (aJ (ak [] (aD (.int 15))) tN)))))
theorem Nn(E:Gl G) {oO:b7} (ya:dn G k "is_figures" oO):dZ G k ⟨Bl,(ai mX).names,[],false,false,false,λ_ _=>False⟩ (ay mX) (GQ oO):=(aw (cK (cH (OX (ah 0) aA)) (aL (bj (fO (wo (v_and (iH (eC ph (ah 0) aA)) (oY (iH (aI (aO ya (ag (aE (aI (gJ (ah 0) (eg aq) d9))) (ag (aE (qY E.eQ)) aB))))))))))) b8) (aL (bj (aO ya (ag (aE (ah 0)) (ag (aE (qY E.eQ)) aB))))))
noncomputable abbrev gO:Stmt:=top 22
noncomputable abbrev tH:List Str:=["word"]
theorem FY:aV tH ["word"] (ai gO):=by walk_at "5"
noncomputable def wQ(rA:b7):cJ:=(dS [] (dC rO (bH (aH (cu [] [none] (cq (ak [] (aH (oV (af 0) (aD (.str ",")))))) (fW 0) cR (ak [] (aH (cV rA (aJ (ak [] (af 0)) tN)))))) dm)))
theorem IB(E:Gl G) {rA:b7} (C8:dn G k "is_number" rA):dZ G k ⟨tH,(ai gO).names,[],false,false,false,λ_ _=>False⟩ (ay gO) (wQ rA):=(aL (bj (df uI E.z_all (aK (aI (cU (N':=["part"]) (du (aE (aI (fB (ah 0) aA)))) ⟨rfl,by first | decide +kernel | (dsimp only [aS,aG];decide +kernel),by first | decide +kernel | (dsimp only [aS,aG];decide +kernel),by first | decide +kernel | (dsimp only [aS,aG];decide +kernel),by first | decide +kernel | (dsimp only [aS,aG];decide +kernel),rfl,by first | decide +kernel | (dsimp only [aS,aG];decide +kernel)⟩ (bG 0) fN (aE (aI (aO C8 (ag (aE (ah 0)) aB)))))) bf) (by decide +kernel))))
noncomputable abbrev mW:Stmt:=top 23
noncomputable abbrev Bk:List Str:=["word"]
theorem Lq:aV Bk ["word"] (ai mW):=by walk_at "5"
noncomputable def GP:cJ:=(dS [] (dC iG (bH (aH (cu [] [none] (cq (ak [] (aH (oV (af 0) (aD (.str ",")))))) (fW 0) cR (ak [] (aH (dC eB (bH (af 0) dm)))))) dm)))
theorem Nm(E:Gl G):dZ G k ⟨Bk,(ai mW).names,[],false,false,false,λ_ _=>False⟩ (ay mW) (GP):=(aL (bj (gI lW E.z_tuple (aK (aI (cU (N':=["part"]) (du (aE (aI (fB (ah 0) aA)))) ⟨rfl,by first | decide +kernel | (dsimp only [aS,aG];decide +kernel),by first | decide +kernel | (dsimp only [aS,aG];decide +kernel),by first | decide +kernel | (dsimp only [aS,aG];decide +kernel),by first | decide +kernel | (dsimp only [aS,aG];decide +kernel),rfl,by first | decide +kernel | (dsimp only [aS,aG];decide +kernel)⟩ (bG 0) fN (aE (aI (gI d4 E.z_int (aK (ah 0) bf) (by decide +kernel)))))) bf) (by decide +kernel))))
noncomputable abbrev mP:Stmt:=top 24
noncomputable abbrev Be:List Str:=["text","words","points"]
theorem Lh:aV Be ["text"] (ai mP):=by walk_at "5"
noncomputable def zR(ex:Str -> Sd -> Prop) (m8:b7) (rz:b7) (rk:ky):cJ:=(bS (cB (a8 eqT (af 0) (aD (.str "none"))) (dS [] (fc tN)) iU) (bS (cP [] 1 (oV (af 0) (aD (.str " ")))) (bS (cB (dj (dU (aH (dC rO (bH (aH (cu [] [none] (cq (ak [] (af 1))) (fW 0) cR (ak [] (aH (cV m8 (aJ (ak [] (af 0)) tN)))))) dm))))) (LZ ex "NoText" (aJ (ak [] (aD (.str "the text is not one of points"))) tN)) iU) (bS (cP [] 2 (cu [] [none] (cq (ak [] (af 1))) (fW 0) cR (ak [] (aH (cV rz (aJ (ak [] (af 0)) tN)))))) (bS (tm (sP ex rk (aJ (ak [] (af 2)) tN))) (dS [] (oX (af 2))))))))
theorem Nf(E:Gl G) (ex:Str -> Sd -> Prop) {m8:b7} (u5:dn G k "is_point" m8) {rz:b7} (C7:dn G k "point_from" rz) {rk:ky} (C1:rK G k "need_points" rk):dZ G k ⟨Be,(ai mP).names,[],false,false,true,ex⟩ (ay mP) (zR ex m8 rz rk):=(aw (cK (bq dD (ah 0) (qY E.rS)) (aL (bj (bD aB))) b8) (aw (a7 1 (fB (ah 0) aA)) (aw (cK (eh (cH (aI (df uI E.z_all (aK (aI (cU (N':=["word"]) (du (aE (ah 1))) ⟨rfl,by first | decide +kernel | (dsimp only [aS,aG];decide +kernel),by first | decide +kernel | (dsimp only [aS,aG];decide +kernel),by first | decide +kernel | (dsimp only [aS,aG];decide +kernel),by first | decide +kernel | (dsimp only [aS,aG];decide +kernel),rfl,by first | decide +kernel | (dsimp only [aS,aG];decide +kernel)⟩ (bG 0) fN (aE (aI (aO u5 (ag (aE (ah 0)) aB)))))) bf) (by decide +kernel))))) (aL (mY (E.f9.cls "NoText" ∅) (ag (aE aA) aB))) b8) (aw (wy 2 (N':=["word"]) (du (aE (ah 1))) ⟨rfl,by first | decide +kernel | (dsimp only [aS,aG];decide +kernel),by first | decide +kernel | (dsimp only [aS,aG];decide +kernel),by first | decide +kernel | (dsimp only [aS,aG];decide +kernel),by first | decide +kernel | (dsimp only [aS,aG];decide +kernel),rfl,by first | decide +kernel | (dsimp only [aS,aG];decide +kernel)⟩ (bG 0) fN (aE (aI (aO C7 (ag (aE (ah 0)) aB))))) (aw (dB (jf C1 (ag (aE (ah 2)) aB))) (aL (bj (fO (ah 2)))))))))
noncomputable abbrev gS:Stmt:=top 26
noncomputable abbrev tL:List Str:=["cell","k","number"]
theorem F9:aV tL ["cell","k"] (ai gS):=by walk_at "5"
noncomputable def wW:cJ:=(bS (cB (a8 NA (af 0) (aH (aC pP (aD (.int 10)) (aD (.int 18))))) (dS [] (aC bZ (aH (aC Gh (aH (aC kr (af 0) (aH (aC pP (aD (.int 10)) (aD (.int 18)))))) (aH (aC eW (aD (.int 28)) (af 1))))) (aD (.int 268435456)))) iU) (bS (cP [] 2 (aC bZ (aH (aC eW (aH (aC bF (aH (aC bF (aH (aC bZ (af 0) (aD (.int 2147483629)))) (aH (aC eW (aD (.int 1013)) (af 1))))) (aD (.int 1)))) (aD (.int 16807)))) (aD (.int 2147483647)))) (bS (cP [] 2 (aC bZ (aH (aC eW (af 2) (af 2))) (aD (.int 2147483629)))) (dS [] (aC kK (aH (aC bZ (aH (aC eW (af 2) (aD (.int 39373)))) (aD (.int 2147483587)))) (aD (.int 8)))))))
theorem IG(E:Gl G):dZ G k ⟨tL,(ai gS).names,[],false,false,false,λ_ _=>False⟩ (ay gS) (wW):=(aw (cK (bq M8 (ah 0) (aI (oJ aq aq))) (aL (bj (bu (aI (K9 (aI (iT (ah 0) (aI (oJ aq aq)))) (aI (dN aq (ah 1))))) aq))) b8) (aw (a7 2 (bu (aI (dN (aI (a6 (aI (a6 (aI (bu (ah 0) aq)) (aI (dN aq (ah 1))))) aq)) aq)) aq)) (aw (a7 2 (bu (aI (dN (ah 2) (ah 2))) aq)) (aL (bj (mJ (aI (bu (aI (dN (ah 2) aq)) aq)) aq))))))
noncomputable abbrev gL:Stmt:=top 27
noncomputable abbrev tE:List Str:=["script","many"]
theorem FV:aV tE ["script","many"] (ai gL):=by walk_at "5"
noncomputable def wM:cJ:=(dS [] (jZ (aH (aC bF (aH (jZ (af 0) wK (wL (af 1)))) (aH (fc (aJ (ak [] (aD (.int 0))) tN))))) wK (wL (aH (dC qK (bH (aD (.int 1)) (bH (aH (dC oE (bH (af 1) (bH (aH (dC dJ (bH (af 0) dm))) dm)))) dm)))))))
theorem Iy(E:Gl G):dZ G k ⟨tE,(ai gL).names,[],false,false,false,λ_ _=>False⟩ (ay gL) (wM):=(aL (bj (gJ (aI (a6 (aI (gJ (ah 0) d9 (eg (ah 1)))) (aI (bD (ag (aE aq) aB))))) d9 (eg (aI (df Cz E.z_max (aK aq (aK (aI (df uJ E.z_min (aK (ah 1) (aK (aI (df f_len E.z_len (aK (ah 0) bf) (by decide +kernel))) bf)) (by decide +kernel))) bf)) (by decide +kernel)))))))
noncomputable abbrev mS:Stmt:=top 28
noncomputable abbrev Bh:List Str:=["cell","most","count","many","kind","step","found","k","point","c","one","far","some"]
theorem Lk:aV Bh ["cell","most"] (ai mS):=by walk_at "5"
noncomputable def GN(aU:b7):cJ:=(bS (cP [] 2 (aC bF (aD (.int 1)) (aH (aC bZ (aH (cV aU (aJ (ak [] (af 0)) (aJ (ak [] (aD (.int 0))) tN)))) (aD (.int 3)))))) (bS (cP [] 3 (oX (jo (aH (fc (aJ (ak [] (aH (aC bZ (aH (cV aU (aJ (ak [] (af 0)) (aJ (ak [] (aD (.int 2))) tN)))) (aD (.int 5))))) (aJ (ak [] (aH (aC bZ (aH (cV aU (aJ (ak [] (af 0)) (aJ (ak [] (aD (.int 2))) tN)))) (aH (aC bF (af 1) (aD (.int 1))))))) (aJ (ak [] (af 1)) tN))))) (aH (aC bZ (aH (cV aU (aJ (ak [] (af 0)) (aJ (ak [] (aD (.int 3))) tN)))) (aD (.int 3))))))) (bS (cP [] 4 (aC bZ (aH (cV aU (aJ (ak [] (af 0)) (aJ (ak [] (aD (.int 4))) tN)))) (aD (.int 7)))) (bS (cP [] 5 (aC bF (aD (.int 1)) (aH (aC bZ (aH (cV aU (aJ (ak [] (af 0)) (aJ (ak [] (aD (.int 5))) tN)))) (aH (aC pP (aD (.int 10)) (aD (.int 6)))))))) (bS (cP [] 6 (fc tN)) (bS (dR (pR (bH (aH (dC oE (bH (af 1) (bH (af 3) dm)))) dm)) (fW 7) (bS (cP [] 8 (fc tN)) (bS (dR (pR (bH (af 2) dm)) (fW 9) (bS (cP [] 10 (cV aU (aJ (ak [] (af 0)) (aJ (ak [] (aH (aC bF (aH (aC bF (aD (.int 10)) (aH (aC eW (aD (.int 3)) (af 7))))) (af 9)))) tN)))) (bS (cP [] 11 (aC bF (aH (aC eW (aH (aC kr (af 10) (aD (.int 134217728)))) (aD (.int 7450580)))) (aH (aC bZ (af 10) (aD (.int 1000)))))) (bS (cP [] 12 (fc (aJ (ak [] (aH (aC kr (aH (aC bZ (af 10) (aD (.int 7)))) (aD (.int 3))))) (aJ (ak [] (aH (aC kr (aH (aC bZ (af 10) (aD (.int 101)))) (aD (.int 50))))) (aJ (ak [] (af 11)) (aJ (ak [] (aH (aC kr (aH (aC bZ (aH (cV aU (aJ (ak [] (af 0)) (aJ (ak [] (aH (aC bF (aD (.int 10)) (af 9)))) tN)))) (aD (.int 201)))) (aD (.int 100))))) tN)))))) (bS (cP [] 12 (aC bF (af 12) (aH (fc (aJ (ak [] (aH (aC kr (aH (aC bF (aH (aC eW (aH (aC bZ (af 10) (aD (.int 4)))) (aH (aC pP (aD (.int 10)) (aD (.int 14)))))) (aH (aC bZ (aH (aC kK (af 10) (aD (.int 4)))) (aD (.int 3)))))) (aD (.int 1))))) (aJ (ak [] (aH (aC bF (aH (aC eW (af 7) (af 5))) (aH (aC bZ (af 10) (aD (.int 2))))))) (aJ (ak [] (aH (aC bZ (aH (aC kK (af 7) (jo (aH (fc (aJ (ak [] (aD (.int 1))) (aJ (ak [] (aD (.int 5))) (aJ (ak [] (aD (.int 25))) tN))))) (af 9)))) (aD (.int 5))))) tN))))))) (tm (sO (af 8) (ak [] (jo (af 12) (af 4)))))))))) (tm (sO (af 6) (ak [] (aH (dC iG (bH (af 8) dm))))))))) (dS [] (oX (af 6)))))))))
theorem Ni(E:Gl G) {aU:b7} (bC:dn G k "_law_stir" aU):dZ G k ⟨Bh,(ai mS).names,[],false,false,false,λ_ _=>False⟩ (ay mS) (GN aU):=(aw (a7 2 (a6 aq (aI (bu (aI (aO bC (ag (aE (ah 0)) (ag (aE aq) aB)))) aq)))) (aw (a7 3 (fO (dq (aI (bD (ag (aE (aI (bu (aI (aO bC (ag (aE (ah 0)) (ag (aE aq) aB)))) aq))) (ag (aE (aI (bu (aI (aO bC (ag (aE (ah 0)) (ag (aE aq) aB)))) (aI (a6 (ah 1) aq))))) (ag (aE (ah 1)) aB))))) (aI (bu (aI (aO bC (ag (aE (ah 0)) (ag (aE aq) aB)))) aq))))) (aw (a7 4 (bu (aI (aO bC (ag (aE (ah 0)) (ag (aE aq) aB)))) aq)) (aw (a7 5 (a6 aq (aI (bu (aI (aO bC (ag (aE (ah 0)) (ag (aE aq) aB)))) (aI (oJ aq aq)))))) (aw (a7 6 (bD aB)) (aw (jO (jx (aK (aI (df uJ E.z_min (aK (ah 1) (aK (ah 3) bf)) (by decide +kernel))) bf) E.z_range) (bG 7) (aw (a7 8 (bD aB)) (aw (jO (jx (aK (ah 2) bf) E.z_range) (bG 9) (aw (a7 10 (aO bC (ag (aE (ah 0)) (ag (aE (aI (a6 (aI (a6 aq (aI (dN aq (ah 7))))) (ah 9)))) aB)))) (aw (a7 11 (a6 (aI (dN (aI (iT (ah 10) aq)) aq)) (aI (bu (ah 10) aq)))) (aw (a7 12 (bD (ag (aE (aI (iT (aI (bu (ah 10) aq)) aq))) (ag (aE (aI (iT (aI (bu (ah 10) aq)) aq))) (ag (aE (ah 11)) (ag (aE (aI (iT (aI (bu (aI (aO bC (ag (aE (ah 0)) (ag (aE (aI (a6 aq (ah 9)))) aB)))) aq)) aq))) aB)))))) (aw (a7 12 (a6 (ah 12) (aI (bD (ag (aE (aI (iT (aI (a6 (aI (dN (aI (bu (ah 10) aq)) (aI (oJ aq aq)))) (aI (bu (aI (mJ (ah 10) aq)) aq)))) aq))) (ag (aE (aI (a6 (aI (dN (ah 7) (ah 5))) (aI (bu (ah 10) aq))))) (ag (aE (aI (bu (aI (mJ (ah 7) (dq (aI (bD (ag (aE aq) (ag (aE aq) (ag (aE aq) aB))))) (ah 9)))) aq))) aB))))))) (aL (dB (gH (ah 8) (aE (dq (ah 12) (ah 4))))))))))) (aL (dB (gH (ah 6) (aE (aI (gI lW E.z_tuple (aK (ah 8) bf) (by decide +kernel)))))))))) (aL (bj (fO (ah 6))))))))))
noncomputable abbrev gQ:Stmt:=top 29
noncomputable abbrev tJ:List Str:=["found","due"]
theorem pU:aV tJ ["found","due"] (ai gQ):=by walk_at "5"
noncomputable def wU(sp_q15:b7):cJ:=(bS (cB (a8 MB (af 1) (aD .bt)) (dS [] (oX (bV (a8 MB (af 0) (aD .bt))))) iU) (bS (cB (dU (bV (jX ["str"] (af 1)))) (dS [] (oX (bV (fb (di (bV (jX ["str"] (af 0)))) (di (bV (a8 eqT (af 0) (af 1)))))))) iU) (bS (cB (dU (bV (jX ["list","tuple"] (af 1)))) (bS (cB (oU (a8 neT (bV (jX ["list"] (af 0))) (bV (jX ["list"] (af 1)))) (dj (dU (bV (jX ["list","tuple"] (af 0)))))) (dS [] (oX (aD (.bl false)))) iU) (bS (cB (a8 neT (aH (dC dJ (bH (af 0) dm))) (aH (dC dJ (bH (af 1) dm)))) (dS [] (oX (aD (.bl false)))) iU) (dS [] (oX (bV (a8 eqT (aH (cu [] [none,none] (GJ (aJ (ak [] (af 0)) (aJ (ak [] (af 1)) tN))) (CV 2 (gC (fW 0) (gC (fW 1) CU))) (dj (dU (aH (cV sp_q15 (aJ (ak [] (af 0)) (aJ (ak [] (af 1)) tN)))))) (ak [] (aD (.int 1))))) (aH (fc tN)))))))) iU) (dS [] (oX (bV (fb (di (bV (jX ["int"] (af 0)))) (fb (di (bV (dj (di (bV (jX ["bool"] (af 0))))))) (di (bV (a8 eqT (af 0) (af 1))))))))))))
theorem uG(E:Gl G) {sp_q15:b7} (kN:dn G k "_law_same" sp_q15):dZ G k ⟨tJ,(ai gQ).names,[],false,false,false,λ_ _=>False⟩ (ay gQ) (wU sp_q15):=(aw (cK (bq HR (ah 1) kZ) (aL (bj (fO (eC HR (ah 0) kZ)))) b8) (aw (cK (cH (iB (ah 1) qH E.z_isinstance E.z_str (by decide +kernel))) (aL (bj (fO (wo (v_and (iH (iB (ah 0) qH E.z_isinstance E.z_str (by decide +kernel))) (oY (iH (eC dD (ah 0) (ah 1))))))))) b8) (aw (cK (cH (wq (ah 1) gB kit_tuple E.z_isinstance E.z_list E.z_tuple (by decide +kernel) (by decide +kernel))) (aw (cK (A1 (sI (bq ph (iB (ah 0) gB E.z_isinstance E.z_list (by decide +kernel)) (iB (ah 1) gB E.z_isinstance E.z_list (by decide +kernel))) (k7 (eh (cH (wq (ah 0) gB kit_tuple E.z_isinstance E.z_list E.z_tuple (by decide +kernel) (by decide +kernel))))))) (aL (bj (fO sG))) b8) (aw (cK (bq ph (aI (df f_len E.z_len (aK (ah 0) bf) (by decide +kernel))) (aI (df f_len E.z_len (aK (ah 1) bf) (by decide +kernel)))) (aL (bj (fO sG))) b8) (aL (bj (fO (eC dD (aI (cU (N':=["one","other"]) (JD (ag (aE (ah 0)) (ag (aE (ah 1)) aB)) E.z_zip) ⟨rfl,by first | decide +kernel | (dsimp only [aS,aG];decide +kernel),by first | decide +kernel | (dsimp only [aS,aG];decide +kernel),by first | decide +kernel | (dsimp only [aS,aG];decide +kernel),by first | decide +kernel | (dsimp only [aS,aG];decide +kernel),rfl,by first | decide +kernel | (dsimp only [aS,aG];decide +kernel)⟩ (uY (fv (bG 0) (fv (bG 1) pA))) (qj (eh (cH (aI (aO kN (ag (aE (ah 0)) (ag (aE (ah 1)) aB))))))) (aE aq))) (aI (bD aB)))))))) b8) (aL (bj (fO (wo (v_and (iH (iB (ah 0) yB E.z_isinstance E.z_int (by decide +kernel))) (v_and (iH (A0 (iH (iB (ah 0) vA E.z_isinstance E.z_bool (by decide +kernel))))) (oY (iH (eC dD (ah 0) (ah 1)))))))))))))
noncomputable abbrev gM:Stmt:=top 30
noncomputable abbrev tF:List Str:=["e","found"]
theorem FW:aV tF ["e"] (ai gM):=by walk_at "5"
noncomputable def wN:cJ:=(bS (cP [] 1 (fc (aJ (ak [] (bV (eE XL "NoPoints" (af 0)))) (aJ (ak [] (bV (eE XL "NoWay" (af 0)))) (aJ (ak [] (bV (eE XL "NoPlace" (af 0)))) (aJ (ak [] (bV (eE XL "NoBound" (af 0)))) tN)))))) (bS (cP [] 1 (aC bF (af 1) (aH (fc (aJ (ak [] (bV (eE XL "NoNumber" (af 0)))) (aJ (ak [] (bV (eE XL "TooMany" (af 0)))) (aJ (ak [] (bV (eE XL "NoPaper" (af 0)))) tN))))))) (bS (cP [] 1 (aC bF (af 1) (aH (fc (aJ (ak [] (bV (eE XL "NoText" (af 0)))) (aJ (ak [] (bV (eE XL "NoForm" (af 0)))) (aJ (ak [] (bV (eE XL "NoneYet" (af 0)))) tN))))))) (dS [] (aC bF (af 1) (aH (fc (aJ (ak [] (bV (dj (di (bV (wI XL (af 0))))))) tN))))))))
theorem Iz(E:Gl G):dZ G k ⟨tF,(ai gM).names,[],false,true,false,λ_ _=>False⟩ (ay gM) (wN):=(aw (a7 1 (bD (ag (aE (dA (ah 0) E.f9 ∅ E.z_isinstance)) (ag (aE (dA (ah 0) E.f9 ∅ E.z_isinstance)) (ag (aE (dA (ah 0) E.f9 ∅ E.z_isinstance)) (ag (aE (dA (ah 0) E.f9 ∅ E.z_isinstance)) aB)))))) (aw (a7 1 (a6 (ah 1) (aI (bD (ag (aE (dA (ah 0) E.f9 ∅ E.z_isinstance)) (ag (aE (dA (ah 0) E.f9 ∅ E.z_isinstance)) (ag (aE (dA (ah 0) E.f9 ∅ E.z_isinstance)) aB))))))) (aw (a7 1 (a6 (ah 1) (aI (bD (ag (aE (dA (ah 0) E.f9 ∅ E.z_isinstance)) (ag (aE (dA (ah 0) E.f9 ∅ E.z_isinstance)) (ag (aE (dA (ah 0) E.f9 ∅ E.z_isinstance)) aB))))))) (aL (bj (a6 (ah 1) (aI (bD (ag (aE (A0 (iH (FL (ah 0) E.f9 E.z_isinstance E.z_ValueError)))) aB)))))))))
noncomputable abbrev gT:Stmt:=top 31
noncomputable abbrev tM:List Str:=["points"]
theorem Ga:aV tM ["points"] (ai gT):=by walk_at "5"
noncomputable def wX:cJ:=(bS (cB (a8 eqT (af 0) (aH (fc tN))) (dS [] (oX (aD (.str "none")))) iU) (dS [] (oX (jY (aD (.str " ")) (aH (cu [] [none] (cq (ak [] (af 0))) (fW 0) cR (ak [] (jY (aD (.str ",")) (aH (cu [] [none] (cq (ak [] (af 0))) (fW 0) cR (ak [] (aH (dC wC (bH (af 0) dm))))))))))))))
theorem IH(E:Gl G):dZ G k ⟨tM,(ai gT).names,[],false,false,false,λ_ _=>False⟩ (ay gT) (wX):=(aw (cK (bq dD (ah 0) (aI (bD aB))) (aL (bj (fO aA))) b8) (aL (bj (fO (jL aA (aI (cU (N':=["point"]) (du (aE (ah 0))) ⟨rfl,by first | decide +kernel | (dsimp only [aS,aG];decide +kernel),by first | decide +kernel | (dsimp only [aS,aG];decide +kernel),by first | decide +kernel | (dsimp only [aS,aG];decide +kernel),by first | decide +kernel | (dsimp only [aS,aG];decide +kernel),rfl,by first | decide +kernel | (dsimp only [aS,aG];decide +kernel)⟩ (bG 0) fN (aE (jL aA (aI (cU (N':=["number"]) (du (aE (ah 0))) ⟨rfl,by first | decide +kernel | (dsimp only [aS,aG];decide +kernel),by first | decide +kernel | (dsimp only [aS,aG];decide +kernel),by first | decide +kernel | (dsimp only [aS,aG];decide +kernel),by first | decide +kernel | (dsimp only [aS,aG];decide +kernel),rfl,by first | decide +kernel | (dsimp only [aS,aG];decide +kernel)⟩ (bG 0) fN (aE (aI (gI AB E.z_str (aK (ah 0) bf) (by decide +kernel)))))))))))))))
noncomputable abbrev gR:Stmt:=top 32
noncomputable abbrev tK:List Str:=["cell","k","wide","menu"]
theorem F8:aV tK ["cell","k"] (ai gR):=by walk_at "5"
noncomputable def wV (aU:b7):cJ:=(bS (cP [] 2 (oX (aD (.str " !\"#$&'()*+,-./0123456789:;<=>?@ABCDEFGHIJKLMNOP")))) (bS (cP [] 2 (aC bF (af 2) (aD (.str "QRSTUVWXYZ[\\]^_`abcdefghijklmnopqrstuvwxyz{|}~\n")))) (bS (cP [] 3 (oX (jo (aH (fc (aJ (ak [] (aD (.str "0019 --,,"))) (aJ (ak [] (af 2)) tN)))) (aH (aC bZ (aH (cV aU (aJ (ak [] (af 0)) (aJ (ak [] (af 1)) tN)))) (aD (.int 2))))))) (dS [] (oX (jo (af 3) (aH (aC bZ (aH (cV aU (aJ (ak [] (af 0)) (aJ (ak [] (aH (aC bF (af 1) (aD (.int 1))))) tN)))) (aH (dC dJ (bH (af 3) dm)))))))))))
theorem IE(E:Gl G) {aU:b7} (bC:dn G k "_law_stir" aU):dZ G k ⟨tK,(ai gR).names,[],false,false,false,λ_ _=>False⟩ (ay gR) (wV aU):=(aw (a7 2 (fO aA)) (aw (a7 2 (a6 (ah 2) aA)) (aw (a7 3 (fO (dq (aI (bD (ag (aE aA) (ag (aE (ah 2)) aB)))) (aI (bu (aI (aO bC (ag (aE (ah 0)) (ag (aE (ah 1)) aB)))) aq))))) (aL (bj (fO (dq (ah 3) (aI (bu (aI (aO bC (ag (aE (ah 0)) (ag (aE (aI (a6 (ah 1) aq))) aB)))) (aI (df f_len E.z_len (aK (ah 3) bf) (by decide +kernel))))))))))))
noncomputable abbrev mU:Stmt:=top 33
noncomputable abbrev Bi:List Str:=["cell","k","text","at","kind","words","one","other","odd"]
theorem Ln:aV Bi ["cell","k","text"] (ai mU):=by walk_at "5"
noncomputable def GO (aU:b7) (nc:b7):cJ:=(bS (cP [] 3 (aC bZ (aH (cV aU (aJ (ak [] (af 0)) (aJ (ak [] (af 1)) tN)))) (aH (aC bF (aH (dC dJ (bH (af 2) dm))) (aD (.int 1)))))) (bS (cP [] 4 (aC bZ (aH (cV aU (aJ (ak [] (af 0)) (aJ (ak [] (aH (aC bF (af 1) (aD (.int 1))))) tN)))) (aD (.int 8)))) (bS (cP [] 5 (oV (af 2) (aD (.str " ")))) (bS (cP [] 6 (aC bZ (aH (cV aU (aJ (ak [] (af 0)) (aJ (ak [] (aH (aC bF (af 1) (aD (.int 2))))) tN)))) (aH (dC dJ (bH (af 5) dm))))) (bS (cP [] 7 (aC bZ (aH (cV aU (aJ (ak [] (af 0)) (aJ (ak [] (aH (aC bF (af 1) (aD (.int 3))))) tN)))) (aH (dC dJ (bH (af 5) dm))))) (bS (cP [] 8 (fc (aJ (ak [] (aD (.str "0"))) (aJ (ak [] (aD (.str "-0"))) (aJ (ak [] (aD (.str "0,0"))) (aJ (ak [] (aD (.str "00"))) (aJ (ak [] (aD (.str "0,01"))) (aJ (ak [] (aD (.str "-01"))) (aJ (ak [] (aD (.str "+1"))) (aJ (ak [] (aD (.str ""))) (aJ (ak [] (aD (.str "-"))) (aJ (ak [] (aD (.str "--1"))) (aJ (ak [] (aD (.str ","))) (aJ (ak [] (aD (.str "1,"))) (aJ (ak [] (aD (.str ",1"))) (aJ (ak [] (aD (.str "1,,2"))) (aJ (ak [] (aD (.str "none"))) (aJ (ak [] (aD (.str "1_0"))) tN)))))))))))))))))) (bS (cP [] 8 (aC bF (af 8) (aH (fc (aJ (ak [] (aD (.str "1."))) (aJ (ak [] (aD (.str "x"))) (aJ (ak [] (aD (.str "1,2,3"))) (aJ (ak [] (aD (.str "1,2,3,4"))) (aJ (ak [] (aD (.str "0,-0"))) (aJ (ak [] (aH (aC iP (aD (.str "9")) (aD (.int 15))))) (aJ (ak [] (aH (aC iP (aD (.str "9")) (aD (.int 16))))) (aJ (ak [] (aH (aC bF (aD (.str "-")) (aH (aC iP (aD (.str "9")) (aD (.int 15))))))) (aJ (ak [] (aH (aC bF (aD (.str "1,-")) (aH (aC iP (aD (.str "9")) (aD (.int 16))))))) tN))))))))))))) (bS (cP [] 8 (aC bF (af 8) (aH (fc (aJ (ak [] (aD (.str "1,2,x"))) (aJ (ak [] (aD (.str "0,0,0,0,0"))) tN)))))) (bS (cB (a8 eqT (af 4) (aD (.int 0))) (dS [] (aC bF (aH (jZ (af 2) wK (wL (af 3)))) (aH (jZ (af 2) (wL (aH (aC bF (af 3) (aD (.int 1))))) wK)))) iU) (bS (cB (a8 He (af 4) (aD (.int 3))) (dS [] (aC bF (aH (aC bF (aH (jZ (af 2) wK (wL (af 3)))) (aH (cV nc (aJ (ak [] (af 0)) (aJ (ak [] (aH (aC bF (af 1) (aD (.int 4))))) tN)))))) (aH (jZ (af 2) (wL (aH (aC kr (aH (aC bF (af 3) (af 4))) (aD (.int 1))))) wK)))) iU) (bS (cB (a8 eqT (af 4) (aD (.int 3))) (tm (GD (af 5) (ak [] (af 6)))) (cB (a8 eqT (af 4) (aD (.int 4))) (tm (zN (af 5) (ak [] (af 7)) (ak [] (jo (af 5) (af 6))))) (cB (a8 eqT (af 4) (aD (.int 5))) (wJ 5 (af 6) (ak [] (jo (af 8) (aH (aC bZ (aH (cV aU (aJ (ak [] (af 0)) (aJ (ak [] (aH (aC bF (af 1) (aD (.int 6))))) tN)))) (aH (dC dJ (bH (af 8) dm)))))))) (cB (a8 eqT (af 4) (aD (.int 6))) (tm (zN (af 5) (ak [] (af 6)) (ak [] (jo (af 8) (aH (aC bZ (aH (cV aU (aJ (ak [] (af 0)) (aJ (ak [] (aH (aC bF (af 1) (aD (.int 6))))) tN)))) (aH (dC dJ (bH (af 8) dm))))))))) (GI (ak [] (Pb (aJ (ak [] (jo (af 5) (af 7))) (aJ (ak [] (jo (af 5) (af 6))) tN)))) (CV 2 (gC (Ml 5 (af 6)) (gC (Ml 5 (af 7)) CU)))))))) (dS [] (oX (jY (aD (.str " ")) (af 5)))))))))))))))
theorem Nj(E:Gl G) {aU:b7} (bC:dn G k "_law_stir" aU) {nc:b7} (u9:dn G k "_law_sign" nc):dZ G k ⟨Bi,(ai mU).names,[],false,false,false,λ_ _=>False⟩ (ay mU) (GO aU nc):=(aw (a7 3 (bu (aI (aO bC (ag (aE (ah 0)) (ag (aE (ah 1)) aB)))) (aI (a6 (aI (df f_len E.z_len (aK (ah 2) bf) (by decide +kernel))) aq)))) (aw (a7 4 (bu (aI (aO bC (ag (aE (ah 0)) (ag (aE (aI (a6 (ah 1) aq))) aB)))) aq)) (aw (a7 5 (fB (ah 2) aA)) (aw (a7 6 (bu (aI (aO bC (ag (aE (ah 0)) (ag (aE (aI (a6 (ah 1) aq))) aB)))) (aI (df f_len E.z_len (aK (ah 5) bf) (by decide +kernel))))) (aw (a7 7 (bu (aI (aO bC (ag (aE (ah 0)) (ag (aE (aI (a6 (ah 1) aq))) aB)))) (aI (df f_len E.z_len (aK (ah 5) bf) (by decide +kernel))))) (aw (a7 8 (bD (ag (aE aA) (ag (aE aA) (ag (aE aA) (ag (aE aA) (ag (aE aA) (ag (aE aA) (ag (aE aA) (ag (aE aA) (ag (aE aA) (ag (aE aA) (ag (aE aA) (ag (aE aA) (ag (aE aA) (ag (aE aA) (ag (aE aA) (ag (aE aA) aB)))))))))))))))))) (aw (a7 8 (a6 (ah 8) (aI (bD (ag (aE aA) (ag (aE aA) (ag (aE aA) (ag (aE aA) (ag (aE aA) (ag (aE (aI (jM aA aq))) (ag (aE (aI (jM aA aq))) (ag (aE (aI (a6 aA (aI (jM aA aq))))) (ag (aE (aI (a6 aA (aI (jM aA aq))))) aB))))))))))))) (aw (a7 8 (a6 (ah 8) (aI (bD (ag (aE aA) (ag (aE aA) aB)))))) (aw (cK (bq dD (ah 4) aq) (aL (bj (a6 (aI (gJ (ah 2) d9 (eg (ah 3)))) (aI (gJ (ah 2) (eg (aI (a6 (ah 3) aq))) d9))))) b8) (aw (cK (bq HU (ah 4) aq) (aL (bj (a6 (aI (a6 (aI (gJ (ah 2) d9 (eg (ah 3)))) (aI (aO u9 (ag (aE (ah 0)) (ag (aE (aI (a6 (ah 1) aq))) aB)))))) (aI (gJ (ah 2) (eg (aI (iT (aI (a6 (ah 3) (ah 4))) aq))) d9))))) b8) (aw (cK (bq dD (ah 4) aq) (aL (dB (zx (ah 5) (aE (ah 6))))) (aL (cK (bq dD (ah 4) aq) (aL (dB (oI (ah 5) (aE (ah 7)) (aE (dq (ah 5) (ah 6)))))) (aL (cK (bq dD (ah 4) aq) (aL (FU 5 (aE (dq (ah 8) (aI (bu (aI (aO bC (ag (aE (ah 0)) (ag (aE (aI (a6 (ah 1) aq))) aB)))) (aI (df f_len E.z_len (aK (ah 8) bf) (by decide +kernel))))))) (ah 6) (ah 5))) (aL (cK (bq dD (ah 4) aq) (aL (dB (oI (ah 5) (aE (ah 6)) (aE (dq (ah 8) (aI (bu (aI (aO bC (ag (aE (ah 0)) (ag (aE (aI (a6 (ah 1) aq))) aB)))) (aI (df f_len E.z_len (aK (ah 8) bf) (by decide +kernel)))))))))) (aL (Le (aE (La (ag (aE (dq (ah 5) (ah 7))) (ag (aE (dq (ah 5) (ah 6))) aB)))) (uY (fv (uX 5 (ah 6) (ah 5)) (fv (uX 5 (ah 7) (ah 5)) pA))) (hw:=λenv=>by unfold swappedStores;dsimp only;split<;>rfl)))))))))) (aL (bj (fO (jL aA (ah 5))))))))))))))))
noncomputable abbrev mR:Stmt:=top 34
noncomputable abbrev Bg:List Str:=["word","figures"]
theorem Lj:aV Bg ["word"] (ai mR):=by walk_at "5"
noncomputable def GL:cJ:=(bS (cP [] 1 (jZ (af 0) (wL (aH (dC eB (bH (bV (a8 eqT (aH (jZ (af 0) wK (wL (aD (.int 1))))) (aD (.str "-")))) dm)))) wK)) (bS (cB (oU (dj (zM MD MD (aD (.int 1)) (aH (dC dJ (bH (af 1) dm))) (aD (.int 15)))) (a8 neT (aH (cu [] [none] (cq (ak [] (af 1))) (fW 0) (a8 yE (af 0) (aD (.str "0123456789"))) (ak [] (af 0)))) (aH (fc tN)))) (dS [] (oX (aD .bt))) iU) (bS (cB (fb (a8 eqT (jo (af 1) (aD (.int 0))) (aD (.str "0"))) (a8 neT (af 0) (aD (.str "0")))) (dS [] (oX (aD .bt))) iU) (dS [] (dC eB (bH (af 0) dm))))))
theorem Nh(E:Gl G):dZ G k ⟨Bg,(ai mR).names,[],false,false,false,λ_ _=>False⟩ (ay mR) (GL):=(aw (a7 1 (gJ (ah 0) (eg (aI (gI d4 E.z_int (aK (eC dD (aI (gJ (ah 0) d9 (eg aq))) aA) bf) (by decide +kernel)))) d9)) (aw (cK (A1 (sI (eh (FO HS HS aq (aI (df f_len E.z_len (aK (ah 1) bf) (by decide +kernel))) aq)) (k7 (bq ph (aI (cU (N':=["sign"]) (du (aE (ah 1))) ⟨rfl,by first | decide +kernel | (dsimp only [aS,aG];decide +kernel),by first | decide +kernel | (dsimp only [aS,aG];decide +kernel),by first | decide +kernel | (dsimp only [aS,aG];decide +kernel),by first | decide +kernel | (dsimp only [aS,aG];decide +kernel),rfl,by first | decide +kernel | (dsimp only [aS,aG];decide +kernel)⟩ (bG 0) (qj (bq BK (ah 0) aA)) (aE (ah 0)))) (aI (bD aB)))))) (aL (bj (fO kZ))) b8) (aw (cK (A1 (AZ (bq dD (dq (ah 1) aq) aA) (wm (bq ph (ah 0) aA)))) (aL (bj (fO kZ))) b8) (aL (bj (gI d4 E.z_int (aK (ah 0) bf) (by decide +kernel)))))))
noncomputable abbrev gV:Stmt:=top 35
noncomputable abbrev tP:List Str:=["text","found"]
theorem Gd:aV tP ["text"] (ai gV):=by walk_at "5"
noncomputable def wZ(rn:b7):cJ:=(bS (cB (a8 eqT (af 0) (aD (.str "none"))) (dS [] (fc tN)) iU) (bS (cP [] 1 (cu [] [none] (cq (ak [] (aH (oV (af 0) (aD (.str " ")))))) (fW 0) cR (ak [] (aH (dC iG (bH (aH (cu [] [none] (cq (ak [] (aH (oV (af 0) (aD (.str ",")))))) (fW 0) cR (ak [] (aH (cV rn (aJ (ak [] (af 0)) tN)))))) dm)))))) (bS (cB (a8 neT (aH (cu [] [none] (cq (ak [] (af 1))) (fW 0) (a8 Mz (aD .bt) (af 0)) (ak [] (af 0)))) (aH (fc tN))) (dS [] (oX (aD (.str "text")))) iU) (bS (cB (oU (a8 CW (aH (nk (bH (aH (cu [] [none] (cq (ak [] (af 1))) (fW 0) cR (ak [] (aH (dC dJ (bH (af 0) dm)))))) dm))) (aD (.int 1))) (a8 CW (aH (dC dJ (bH (jo (af 1) (aD (.int 0))) dm))) (aD (.int 3)))) (dS [] (oX (aD (.str "points")))) iU) (dS [] (oX (af 1)))))))
theorem IJ(E:Gl G) {rn:b7} (C4:dn G k "_law_number" rn):dZ G k ⟨tP,(ai gV).names,[],false,false,false,λ_ _=>False⟩ (ay gV) (wZ rn):=(aw (cK (bq dD (ah 0) aA) (aL (bj (bD aB))) b8) (aw (wy 1 (N':=["word"]) (du (aE (aI (fB (ah 0) aA)))) ⟨rfl,by first | decide +kernel | (dsimp only [aS,aG];decide +kernel),by first | decide +kernel | (dsimp only [aS,aG];decide +kernel),by first | decide +kernel | (dsimp only [aS,aG];decide +kernel),by first | decide +kernel | (dsimp only [aS,aG];decide +kernel),rfl,by first | decide +kernel | (dsimp only [aS,aG];decide +kernel)⟩ (bG 0) fN (aE (aI (gI lW E.z_tuple (aK (aI (cU (N':=["part"]) (du (aE (aI (fB (ah 0) aA)))) ⟨rfl,by first | decide +kernel | (dsimp only [aS,aG];decide +kernel),by first | decide +kernel | (dsimp only [aS,aG];decide +kernel),by first | decide +kernel | (dsimp only [aS,aG];decide +kernel),by first | decide +kernel | (dsimp only [aS,aG];decide +kernel),rfl,by first | decide +kernel | (dsimp only [aS,aG];decide +kernel)⟩ (bG 0) fN (aE (aI (aO C4 (ag (aE (ah 0)) aB)))))) bf) (by decide +kernel))))) (aw (cK (bq ph (aI (cU (N':=["point"]) (du (aE (ah 1))) ⟨rfl,by first | decide +kernel | (dsimp only [aS,aG];decide +kernel),by first | decide +kernel | (dsimp only [aS,aG];decide +kernel),by first | decide +kernel | (dsimp only [aS,aG];decide +kernel),by first | decide +kernel | (dsimp only [aS,aG];decide +kernel),rfl,by first | decide +kernel | (dsimp only [aS,aG];decide +kernel)⟩ (bG 0) (qj (bq M9 kZ (ah 0))) (aE (ah 0)))) (aI (bD aB))) (aL (bj (fO aA))) b8) (aw (cK (A1 (sI (bq tT (aI (wt (aK (aI (cU (N':=["point"]) (du (aE (ah 1))) ⟨rfl,by first | decide +kernel | (dsimp only [aS,aG];decide +kernel),by first | decide +kernel | (dsimp only [aS,aG];decide +kernel),by first | decide +kernel | (dsimp only [aS,aG];decide +kernel),by first | decide +kernel | (dsimp only [aS,aG];decide +kernel),rfl,by first | decide +kernel | (dsimp only [aS,aG];decide +kernel)⟩ (bG 0) fN (aE (aI (df f_len E.z_len (aK (ah 0) bf) (by decide +kernel)))))) bf) E.z_len E.z_set)) aq) (k7 (bq tT (aI (df f_len E.z_len (aK (dq (ah 1) aq) bf) (by decide +kernel))) aq)))) (aL (bj (fO aA))) b8) (aL (bj (fO (ah 1))))))))
noncomputable abbrev gU:Stmt:=top 36
noncomputable abbrev tO:List Str:=["text","found","e","flags"]
theorem Gb:aV tO ["text"] (ai gU):=by walk_at "5"
noncomputable def wY(rm:ky) (m7:b7):cJ:=(bS (cP [] 1 (oX (aD .bt))) (bS (GF XL "NearError" 2 (λxW=>(cP [] 1 (sP xW rm (aJ (ak [] (af 0)) tN)))) (bS (cP [] 3 (cV m7 (aJ (ak [] (af 2)) tN))) (bS (cP [] 1 (oX (aD (.str "other")))) (cB (a8 eqT (aH (dC sumF (bH (aH (cu [] [none] (jA (ak [] (af 3))) (fW 0) cR (ak [] (aH (dC eB (bH (af 0) dm)))))) dm))) (aD (.int 1))) (cP [] 1 (oX (jo (aH (fc (aJ (ak [] (aD (.str "other"))) (aJ (ak [] (aD (.str "points"))) (aJ (ak [] (aD (.str "text"))) tN))))) (aH (aC bF (aH (dC eB (bH (jo (af 3) (aD (.int 0))) dm))) (aH (aC eW (aD (.int 2)) (aH (dC eB (bH (jo (af 3) (aD (.int 7))) dm)))))))))) iU)))) (dS [] (oX (af 1)))))
theorem II(E:Gl G) {rm:ky} (C3:rK G k "read_points" rm) {m7:b7} (u3:A9 G k "_law_flags" m7):dZ G k ⟨tO,(ai gU).names,[],false,false,false,λ_ _=>False⟩ (ay gU) (wY rm m7):=(aw (a7 1 (fO kZ)) (aw (Ld 2 E.f9.toXCls ∅ (λxW=>(aL (a7 1 (jf C3 (ag (aE (ah 0)) aB))))) (aw (a7 3 (zu u3 (ag (aE (ah 2)) aB))) (aw (a7 1 (fO aA)) (aL (cK (bq dD (aI (FN E.z_sum (aK (aI (zv (N':=["one"]) (aE (ah 3)) ⟨rfl,by first | decide +kernel | (dsimp only [aS,aG];decide +kernel),by first | decide +kernel | (dsimp only [aS,aG];decide +kernel),by first | decide +kernel | (dsimp only [aS,aG];decide +kernel),by first | decide +kernel | (dsimp only [aS,aG];decide +kernel),rfl,by first | decide +kernel | (dsimp only [aS,aG];decide +kernel)⟩ (bG 0) (aE (aI (gI d4 E.z_int (aK (ah 0) bf) (by decide +kernel)))))) bf))) aq) (aL (a7 1 (fO (dq (aI (bD (ag (aE aA) (ag (aE aA) (ag (aE aA) aB))))) (aI (a6 (aI (gI d4 E.z_int (aK (dq (ah 3) aq) bf) (by decide +kernel))) (aI (dN aq (aI (gI d4 E.z_int (aK (dq (ah 3) aq) bf) (by decide +kernel))))))))))) b8))))) (aL (bj (fO (ah 1))))))
noncomputable abbrev gN:Stmt:=top 37
noncomputable abbrev tG:List Str:=["text","due"]
theorem FX:aV tG ["text"] (ai gN):=by walk_at "5"
noncomputable def wO(nh:b7) (sp_q15:b7) (jT:b7):cJ:=(bS (cP [] 1 (cV nh (aJ (ak [] (af 0)) tN))) (dS [] (oX (bV (fb (di (aH (cV sp_q15 (aJ (ak [] (aH (cV jT (aJ (ak [] (af 0)) tN)))) (aJ (ak [] (af 1)) tN))))) (di (aH (cV sp_q15 (aJ (ak [] (aH (cV jT (aJ (ak [] (af 0)) tN)))) (aJ (ak [] (af 1)) tN))))))))))
theorem IA(E:Gl G) {nh:b7} (vb:dn G k "_law_due" nh) {sp_q15:b7} (kN:dn G k "_law_same" sp_q15) {jT:b7} (qu:dn G k "_law_told" jT):dZ G k ⟨tG,(ai gN).names,[],false,false,false,λ_ _=>False⟩ (ay gN) (wO nh sp_q15 jT):=(aw (a7 1 (aO vb (ag (aE (ah 0)) aB))) (aL (bj (fO (wo (v_and (iH (aI (aO kN (ag (aE (aI (aO qu (ag (aE (ah 0)) aB)))) (ag (aE (ah 1)) aB))))) (oY (iH (aI (aO kN (ag (aE (aI (aO qu (ag (aE (ah 0)) aB)))) (ag (aE (ah 1)) aB))))))))))))
noncomputable abbrev gP:Stmt:=top 38
noncomputable abbrev tI:List Str:=["cell","some","count","words","k","parts","c","one","odd"]
theorem FZ:aV tI ["cell"] (ai gP):=by walk_at "5"
noncomputable def wR(aU:b7):cJ:=(bS (cP [] 1 (fc (aJ (ak [] (aD (.str "0"))) (aJ (ak [] (aD (.str "-0"))) (aJ (ak [] (aD (.str "07"))) (aJ (ak [] (aD (.str "-"))) (aJ (ak [] (aD (.str ""))) (aJ (ak [] (aD (.str "x"))) (aJ (ak [] (aH (aC iP (aD (.str "9")) (aD (.int 16))))) (aJ (ak [] (aD (.str "-1"))) tN)))))))))) (bS (cP [] 2 (aC bF (aD (.int 1)) (aH (aC bZ (aH (cV aU (aJ (ak [] (af 0)) (aJ (ak [] (aD (.int 400))) tN)))) (aD (.int 5)))))) (bS (cP [] 3 (fc tN)) (bS (dR (pR (bH (aH (aC bF (aD (.int 1)) (aH (aC bZ (aH (cV aU (aJ (ak [] (af 0)) (aJ (ak [] (aD (.int 401))) tN)))) (aD (.int 8)))))) dm)) (fW 4) (bS (cP [] 5 (fc tN)) (bS (dR (pR (bH (jo (aH (fc (aJ (ak [] (af 2)) (aJ (ak [] (aH (aC bF (aD (.int 1)) (aH (aC bZ (aH (cV aU (aJ (ak [] (af 0)) (aJ (ak [] (aD (.int 402))) tN)))) (aD (.int 5))))))) tN)))) (aH (dC eB (bH (bV (a8 eqT (aH (aC bZ (aH (cV aU (aJ (ak [] (af 0)) (aJ (ak [] (aH (aC bF (aD (.int 403)) (af 4)))) tN)))) (aD (.int 8)))) (aD (.int 0)))) dm)))) dm)) (fW 6) (bS (cP [] 7 (cV aU (aJ (ak [] (af 0)) (aJ (ak [] (aH (aC bF (aH (aC bF (aD (.int 411)) (aH (aC eW (aD (.int 5)) (af 4))))) (af 6)))) tN)))) (bS (cP [] 8 (dC eB (bH (bV (a8 eqT (aH (aC bZ (aH (aC kK (af 7) (aD (.int 1000)))) (jo (aH (fc (aJ (ak [] (aH (aC pP (aD (.int 10)) (aD (.int 9))))) (aJ (ak [] (aD (.int 30))) tN)))) (aH (aC bZ (aH (cV aU (aJ (ak [] (af 0)) (aJ (ak [] (aD (.int 451))) tN)))) (aD (.int 2))))))) (aD (.int 0)))) dm))) (tm (sO (af 5) (ak [] (jo (aH (fc (aJ (ak [] (aH (dC wC (bH (aH (aC kr (aH (aC bZ (af 7) (aD (.int 1000)))) (aD (.int 500)))) dm)))) (aJ (ak [] (jo (af 1) (aH (aC bZ (af 7) (aD (.int 8)))))) tN)))) (af 8)))))))) (tm (sO (af 3) (ak [] (jY (aD (.str ",")) (af 5)))))))) (dS [] (oX (jY (aD (.str " ")) (af 3))))))))
theorem IC(E:Gl G) {aU:b7} (bC:dn G k "_law_stir" aU):dZ G k ⟨tI,(ai gP).names,[],false,false,false,λ_ _=>False⟩ (ay gP) (wR aU):=(aw (a7 1 (bD (ag (aE aA) (ag (aE aA) (ag (aE aA) (ag (aE aA) (ag (aE aA) (ag (aE aA) (ag (aE (aI (jM aA aq))) (ag (aE aA) aB)))))))))) (aw (a7 2 (a6 aq (aI (bu (aI (aO bC (ag (aE (ah 0)) (ag (aE aq) aB)))) aq)))) (aw (a7 3 (bD aB)) (aw (jO (jx (aK (aI (a6 aq (aI (bu (aI (aO bC (ag (aE (ah 0)) (ag (aE aq) aB)))) aq)))) bf) E.z_range) (bG 4) (aw (a7 5 (bD aB)) (aw (jO (jx (aK (dq (aI (bD (ag (aE (ah 2)) (ag (aE (aI (a6 aq (aI (bu (aI (aO bC (ag (aE (ah 0)) (ag (aE aq) aB)))) aq))))) aB)))) (aI (gI d4 E.z_int (aK (eC dD (aI (bu (aI (aO bC (ag (aE (ah 0)) (ag (aE (aI (a6 aq (ah 4)))) aB)))) aq)) aq) bf) (by decide +kernel)))) bf) E.z_range) (bG 6) (aw (a7 7 (aO bC (ag (aE (ah 0)) (ag (aE (aI (a6 (aI (a6 aq (aI (dN aq (ah 4))))) (ah 6)))) aB)))) (aw (a7 8 (gI d4 E.z_int (aK (eC dD (aI (bu (aI (mJ (ah 7) aq)) (dq (aI (bD (ag (aE (aI (oJ aq aq))) (ag (aE aq) aB)))) (aI (bu (aI (aO bC (ag (aE (ah 0)) (ag (aE aq) aB)))) aq))))) aq) bf) (by decide +kernel))) (aL (dB (gH (ah 5) (aE (dq (aI (bD (ag (aE (aI (gI AB E.z_str (aK (aI (iT (aI (bu (ah 7) aq)) aq)) bf) (by decide +kernel)))) (ag (aE (dq (ah 1) (aI (bu (ah 7) aq)))) aB)))) (ah 8))))))))) (aL (dB (gH (ah 3) (aE (jL aA (ah 5))))))))) (aL (bj (fO (jL aA (ah 3)))))))))
noncomputable abbrev eD:Stmt:=top 39
noncomputable abbrev tQ:List Str:=["script","k","cell","text","turn","once","some"]
theorem Ge:aV tQ ["script"] (ai eD):=by walk_at "5"
noncomputable def w6(m6:b7) (ng:b7) (rp:b7) (aU:b7) (fZ:b7) (m9:b7) (oP:b7):cJ:=(bS (dR (pX (aJ (ak [] (aH (cV m6 (aJ (ak [] (af 0)) (aJ (ak [] (aD (.int 4))) tN))))) tN)) (CV 2 (gC (fW 1) (gC (fW 2) CU))) (bS (cP [] 3 (cV ng (aJ (ak [] (aH (cV rp (aJ (ak [] (af 2)) (aJ (ak [] (jo (aH (fc (aJ (ak [] (aD (.int 20))) (aJ (ak [] (aD (.int 148))) tN)))) (aH (dC eB (bH (bV (fb (di (bV (a8 eqT (af 1) (aD (.int 0))))) (di (bV (a8 eqT (aH (aC bZ (aH (cV aU (aJ (ak [] (af 2)) (aJ (ak [] (aD (.int 460))) tN)))) (aD (.int 8)))) (aD (.int 0))))))) dm))))) tN))))) tN))) (bS (cB (dj (dU (aH (cV fZ (aJ (ak [] (aH (cV m9 (aJ (ak [] (af 2)) tN)))) tN))))) (dS [] (oX (aD (.bl false)))) iU) (dR (pR (bH (aD (.int 5)) dm)) (fW 4) (bS (cP [] 5 (cV oP (aJ (ak [] (af 2)) (aJ (ak [] (aH (aC bF (aD (.int 300)) (aH (aC eW (aD (.int 16)) (af 4)))))) (aJ (ak [] (af 3)) tN))))) (cB (oU (dj (dU (aH (cV fZ (aJ (ak [] (af 5)) tN))))) (dj (dU (aH (cV fZ (aJ (ak [] (aH (cV oP (aJ (ak [] (af 2)) (aJ (ak [] (aH (aC bF (aD (.int 308)) (aH (aC eW (aD (.int 16)) (af 4)))))) (aJ (ak [] (af 5)) tN)))))) tN)))))) (dS [] (oX (aD (.bl false)))) iU)))))) (bS (cP [] 6 (fc (aJ (ak [] (aD (.str ""))) (aJ (ak [] (aD (.str " "))) (aJ (ak [] (aD (.str ","))) (aJ (ak [] (aD (.str "none "))) (aJ (ak [] (aD (.str " none"))) (aJ (ak [] (aD (.str "none none"))) (aJ (ak [] (aD (.str "none 1"))) (aJ (ak [] (aD (.str "0"))) (aJ (ak [] (aD (.str "-0"))) (aJ (ak [] (aD (.str "0,0"))) (aJ (ak [] (aD (.str "1,2,3"))) (aJ (ak [] (aD (.str "1,2,3,4"))) (aJ (ak [] (aD (.str "1 2,3"))) tN))))))))))))))) (bS (cP [] 6 (aC bF (af 6) (aH (fc (aJ (ak [] (aD (.str "1,2 3"))) (aJ (ak [] (aD (.str "1, 2"))) (aJ (ak [] (aD (.str "1,2 "))) (aJ (ak [] (aD (.str " 1,2"))) (aJ (ak [] (aD (.str "1,2  3,4"))) (aJ (ak [] (aD (.str "1,2\n"))) (aJ (ak [] (aD (.str "1;2"))) (aJ (ak [] (aD (.str "(1,2)"))) tN)))))))))))) (bS (cP [] 6 (aC bF (af 6) (aH (fc (aJ (ak [] (aD (.str "1,2,3,4 x"))) (aJ (ak [] (aD (.str "x 1,2,3,4"))) (aJ (ak [] (aD (.str "1 1 1"))) tN))))))) (dS [] (oX (bV (a8 eqT (aH (cu [] [none] (cq (ak [] (af 6))) (fW 0) (dj (dU (aH (cV fZ (aJ (ak [] (af 0)) tN))))) (ak [] (af 0)))) (aH (fc tN))))))))))
theorem IK(E:Gl G) {m6:b7} (u0:dn G k "_law_cells" m6) {ng:b7} (va:dn G k "_law_text" ng) {rp:b7} (C5:dn G k "_law_points" rp) {aU:b7} (bC:dn G k "_law_stir" aU) {fZ:b7} (kM:dn G k "_law_right" fZ) {m9:b7} (u6:dn G k "_law_free" m9) {oP:b7} (yb:dn G k "_law_spoilt" oP):dZ G k ⟨tQ,(ai eD).names,[],false,false,false,λ_ _=>False⟩ (ay eD) (w6 m6 ng rp aU fZ m9 oP):=(aw (jO (ym (ag (aE (aI (aO u0 (ag (aE (ah 0)) (ag (aE aq) aB))))) aB) E.z_enumerate) (uY (fv (bG 1) (fv (bG 2) pA))) (aw (a7 3 (aO va (ag (aE (aI (aO C5 (ag (aE (ah 2)) (ag (aE (dq (aI (bD (ag (aE aq) (ag (aE aq) aB)))) (aI (gI d4 E.z_int (aK (wo (v_and (iH (eC dD (ah 1) aq)) (oY (iH (eC dD (aI (bu (aI (aO bC (ag (aE (ah 2)) (ag (aE aq) aB)))) aq)) aq))))) bf) (by decide +kernel))))) aB))))) aB))) (aw (cK (eh (cH (aI (aO kM (ag (aE (aI (aO u6 (ag (aE (ah 2)) aB)))) aB))))) (aL (bj (fO sG))) b8) (aL (jO (jx (aK aq bf) E.z_range) (bG 4) (aw (a7 5 (aO yb (ag (aE (ah 2)) (ag (aE (aI (a6 aq (aI (dN aq (ah 4)))))) (ag (aE (ah 3)) aB))))) (aL (cK (A1 (sI (eh (cH (aI (aO kM (ag (aE (ah 5)) aB))))) (k7 (eh (cH (aI (aO kM (ag (aE (aI (aO yb (ag (aE (ah 2)) (ag (aE (aI (a6 aq (aI (dN aq (ah 4)))))) (ag (aE (ah 5)) aB)))))) aB)))))))) (aL (bj (fO sG))) b8)))))))) (aw (a7 6 (bD (ag (aE aA) (ag (aE aA) (ag (aE aA) (ag (aE aA) (ag (aE aA) (ag (aE aA) (ag (aE aA) (ag (aE aA) (ag (aE aA) (ag (aE aA) (ag (aE aA) (ag (aE aA) (ag (aE aA) aB))))))))))))))) (aw (a7 6 (a6 (ah 6) (aI (bD (ag (aE aA) (ag (aE aA) (ag (aE aA) (ag (aE aA) (ag (aE aA) (ag (aE aA) (ag (aE aA) (ag (aE aA) aB)))))))))))) (aw (a7 6 (a6 (ah 6) (aI (bD (ag (aE aA) (ag (aE aA) (ag (aE aA) aB))))))) (aL (bj (fO (eC dD (aI (cU (N':=["text"]) (du (aE (ah 6))) ⟨rfl,by first | decide +kernel | (dsimp only [aS,aG];decide +kernel),by first | decide +kernel | (dsimp only [aS,aG];decide +kernel),by first | decide +kernel | (dsimp only [aS,aG];decide +kernel),by first | decide +kernel | (dsimp only [aS,aG];decide +kernel),rfl,by first | decide +kernel | (dsimp only [aS,aG];decide +kernel)⟩ (bG 0) (qj (eh (cH (aI (aO kM (ag (aE (ah 0)) aB)))))) (aE (ah 0)))) (aI (bD aB))))))))))
end
section
local macro_rules | `(tactic| walk_at "vx")=>`(tactic| ((try simp only [a4,List.map_cons,List.map_nil,List.length_cons,List.length_nil,List.replicate_succ,List.replicate_zero,List.cons_append,List.nil_append,Nat.reduceAdd,Nat.reduceSub]);(try dsimp only [bS,zM,GI,Vc.Mz,iU,cB,tm,dS,cP,MN,sO,BH,kP,aH,oX,Py,Qt,xh,oZ,ak,af,aD,cw,ig,aC,bF,kr,eW,kK,bZ,pP,Gh,Ds,yn,a8,bV,eqT,neT,Dt,He,MD,CW,NA,isNone,MB,zU,L3,fb,oU,dj,di,jo,wK,wL,tN,aJ,fc,Pb,dm,bH,dC,dJ,qK,oE,Dw,iG,bE,cV,fW,CU,gC,CV,pR,dR,cR,cu,pz,gm,mv,Qx,jZ,sP,LZ,GF,eE,AO,wI,AK,LO,GJ,pX,Vc.JF,Vc.JG,Vc.Dy,Vc.Dz,oq,wJ,sumF,sR,dr,yt,jX,jY,vw,wC,dU,GU,Pa,O1,Du,rO,eB,oV,GC,cq,jA,nk,GD,FE,zN,Dv,iP,yE,Ml,a4,List.getElem?_cons_zero,List.getElem?_cons_succ,List.getElem?_nil,List.set_cons_zero,List.set_cons_succ,List.map_cons,List.map_nil,List.length_cons,List.length_nil,List.replicate_succ,List.replicate_zero,List.cons_append,List.nil_append,Nat.reduceAdd,Nat.reduceSub]);try simp only [List.append_nil,Nat.add_sub_cancel,Nat.zero_add,List.not_mem_nil,not_false_eq_true,true_and,and_true,decide_eq_true_eq,ite_true,ite_false,Bool.not_eq_true',decide_eq_false_iff_not,List.getElem?_cons_zero,List.getElem?_cons_succ]))
local macro_rules | `(tactic| symm) => `(tactic| walk_at "vx")
local macro_rules | `(tactic| walk_at "vc")=>`(tactic| repeat (refine And.intro (by first | assumption | decide | omega | (unfold fQ;omega) | (unfold rF;omega) | (unfold nv;omega)) ?_))
local macro_rules | `(tactic| walk_at "vg")=>`(tactic| simp only [fW,CV,gC,CU,List.length_cons,List.length_nil,Nat.reduceAdd,Nat.zero_add,true_and,List.set_cons_zero,List.set_cons_succ,Int.zero_add])
local macro_rules | `(tactic| walk_at "vd")=>`(tactic| symm)
variable [KF]
noncomputable def bp(c k:Int):Int:=if 10 ^ 18 <= c then(c-10 ^ 18)/2 ^ (28*k).toNat%268435456 else
  ((c%2147483629+1013*k+1)*16807%2147483647*((c%2147483629+1013*k+1)*16807%2147483647)%2147483629)*39373%2147483587/8
theorem dw(c k:Int):0 <= bp c k /\ bp c k<268435456:=by
  unfold bp
  split<;>omega
noncomputable def c5:b7
  | [.int c,.int k],Q=>(0 <= k /\ k <= 1000) /\ Q (.sh (.int (bp c k)))
  | _,_=>False
theorem E7(ds:List D) (Q:B -> Prop) (h:c5 ds Q):wW {nx:=λ_=>Q (.sh .bt),rt:=λb _=>Q b} (a4 tL.length ds):=by
  unfold c5 at h
  split at h
  · rename_i c k
    obtain⟨⟨h1,h2⟩,q⟩:=h;unfold bp at q;unfold wW;symm;refine⟨by unfold nv;decide,?_⟩
    split
    · rename_i hc
      rw [if_pos (show 10 ^ 18 <= c from hc)]at q
      refine⟨by unfold nv;decide,?_⟩
      walk_at "vc";exact q
    · rename_i hc
      rw [if_neg (show¬10 ^ 18 <= c from hc)]at q
      walk_at "vc";exact q
  · exact h.elim
noncomputable def BL(ns:List Int) (many:Nat):List Int:=cut (cut ns none (some (many:Int)) ++ [0]) none (some (if(if(ns.length:Int)<many then(ns.length:Int)else many)>1 then(if(ns.length:Int)<many then(ns.length:Int)else many)else 1))
theorem qo{α β:Type} (f:α -> β) (xs:List α) (lo hi:Option Int):cut (xs.map f) lo hi = (cut xs lo hi).map f:=by
  unfold cut;rw [List.length_map,List.map_take,List.map_drop]
noncomputable def gX:b7:=λds Q=>∃(ns:List Int) (many:Nat),ds = [.fP ns,.int many] /\ ns.length <= 63 /\ many <= 10 /\ Q (.own ((BL ns many).map D.int))
theorem xS{α:Type} (xs:List α) (lo hi:Option Int):(cut xs lo hi).length <= xs.length:=by
  unfold cut;rw [List.length_take,List.length_drop];omega
theorem yR(ds:List D) (Q:B -> Prop) (h:gX ds Q):wM {nx:=λ_=>Q (.sh .bt),rt:=λb _=>Q b} (a4 tE.length ds):=by
  obtain⟨ns,many,rfl,hl,hm,q⟩:=h;unfold wM;symm;have e:cut (ns.map D.int) none (some (many:Int)) ++ [D.int 0] = (cut ns none (some (many:Int)) ++ [0]).map D.int:=by rw [qo,List.map_append];rfl
  have hz:=xS (ns.map D.int) none (some (many:Int));rw [List.length_map]at hz;refine⟨by decide,?_,?_⟩
  · have:(sizeLine:Nat) = 2 ^ 24:=rfl
    omega
  · rw [e,qo];exact q
noncomputable def iy(p:List Int):D:=.tup (p.map D.int)
noncomputable def Bd(p:List Int):Prop:=p.length <= 3 /\ ∀x ∈ p,-(2 ^ 60)<x /\ x<2 ^ 60
theorem sz:sizeLine = 2 ^ 24:=rfl
noncomputable def Good(n:Nat) (b9:List (List Int)):Prop:=(1 <= n /\ n <= 3) /\ ∀p ∈ b9,p.length = n /\ ∀x ∈ p,-(10 ^ 15)<x /\ x<10 ^ 15
theorem Good.bd{n:Nat} {b9:List (List Int)} (g:Good n b9) {p:List Int} (h:p ∈ b9):Bd p:=⟨by have:=(g.2 p h).1;have:=g.1.2;omega,λx hx=>by have:=(g.2 p h).2 x hx;omega⟩
noncomputable def fD:b7:=λds Q=>∃(c:Int) (m:Nat),ds = [.int c,.int m] /\ m <= 150 /\ ∀b9 n,Good n b9 -> b9.length <= m -> Q (.own (b9.map iy))
theorem dP{n i a:Nat} (h:(List.range n)[i]? = some a):a = i /\ i<n:=by
  have hi:i<n:=by
    have:=(List.getElem?_eq_some_iff.mp h).1
    rwa [List.length_range]at this
  rw [List.getElem?_range hi]at h;cases h;exact⟨rfl,hi⟩
theorem vR(ds:List D) (Q:B -> Prop) (h:fD ds Q):GN c5 {nx:=λ_=>Q (.sh .bt),rt:=λb _=>Q b} (a4 Bh.length ds):=by
  obtain⟨cell,m,rfl,hm,h⟩:=h;unfold GN;have S6:=dw cell 0;have qw:=dw cell 2;have S8:=dw cell 3;have S9:=dw cell 4;have Ta:=dw cell 5
  -- count
  refine au λN hN=>?_;symm;refine⟨by decide,by decide,?_⟩
  subst hN
  -- many
  refine au λN hN=>?_;symm;refine⟨by decide,by decide,by decide,by omega,by decide,by decide,by decide,?_⟩
  refine fX ⋯ (by simp only [List.length_cons,List.length_nil];omega) λd hd=>?_
  obtain⟨many,rfl,hv⟩:∃v,d = .int v /\ 0 <= v:=by
    simp only [List.mem_cons,List.not_mem_nil,or_false]at hd;rcases hd with rfl | rfl | rfl
    · exact⟨_,rfl,by omega⟩
    · exact⟨_,rfl,Int.emod_nonneg _ ⋯⟩
    · exact⟨_,rfl,by omega⟩
  symm;subst hN
  -- kind
  refine au λN hN=>?_;symm;refine⟨by decide,by decide,?_⟩
  subst hN
  -- step
  refine au λN hN=>?_;symm;refine⟨by decide,by unfold nv;decide,by decide,?_⟩
  subst hN
  -- found
  refine au λN hN=>?_;symm;refine⟨by decide,?_⟩
  subst hN
  -- the loop
  obtain⟨cnt,Ra,Rb,ec⟩:∃n:Nat,1 <= n /\ n <= 3 /\ 1+bp cell 0%3 = (n:Int):=⟨(1+bp cell 0%3).toNat,by omega,by omega,by omega⟩
  obtain⟨kind,Rp,Tg,ek⟩:∃v:Int,0 <= v /\ v<7 /\ bp cell 4%7 = v:=⟨_,by omega,by omega,rfl⟩
  obtain⟨step,Tn,Rz,es⟩:∃v:Int,1 <= v /\ v <= 10 ^ 6 /\ 1+bp cell 5%10 ^ Int.toNat 6 = v:=⟨_,by rw [show(10:Int) ^ Int.toNat 6 = 1000000 from rfl];omega,by rw [show(10:Int) ^ Int.toNat 6 = 1000000 from rfl];omega,rfl⟩
  rw [ec,ek,es];refine au λN hN=>?_;symm;obtain⟨n,hn,en⟩:∃n:Nat,n <= m /\ (if many<(m:Int)then many else(m:Int)) = (n:Int):=⟨(if many<(m:Int)then many else(m:Int)).toNat,by split<;>omega,by split<;>omega⟩
  rw [en,Int.toNat_natCast,eZ];refine⟨by omega,d5 (λi:Nat=>.int (0+(i:Nat))) (List.range n) (λi σ=>∃b9 k pt c one Mj wA,σ = [some (.sh (.int cell)),some (.sh (.int m)),some (.sh (.int cnt)),some (.sh (.int many)),some (.sh (.int kind)),some (.sh (.int step)),some (.own (b9.map iy)),k,pt,c,one,Mj,wA] /\ b9.length = i /\ Good cnt b9) (λi a σ N' hx hI Q6=>?_) (λσ hI=>?_) ⟨[],none,none,none,none,none,none,rfl,rfl,⟨⟨Ra,Rb⟩,λp hp=>by cases hp⟩⟩⟩
  · obtain⟨rfl,hi⟩:=dP hx
    obtain⟨b9,k0,Sw,c0,OJ,Nt,LL,rfl,hl,hg⟩:=hI;symm;rw [show(0:Int)+(a:Int) = a from Int.zero_add _]
    refine⟨by decide,?_⟩
    rw [Int.toNat_natCast,eZ];refine⟨by omega,d5 (λi:Nat=>.int (0+(i:Nat))) (List.range cnt) (λj σ=>∃(p:List Int) (c one Mj wA:Option B),σ = [some (.sh (.int cell)),some (.sh (.int m)),some (.sh (.int cnt)),some (.sh (.int many)),some (.sh (.int kind)),some (.sh (.int step)),some (.own (b9.map iy)),some (.sh (.int a)),some (.own (p.map D.int)),c,one,Mj,wA] /\ p.length = j /\ ∀x ∈ p,-(10 ^ 15)<x /\ x<10 ^ 15) (λj b σ N2 hy hJ Je=>?_) (λσ hJ=>?_) ⟨[],_,_,_,_,rfl,rfl,λx hx=>by cases hx⟩⟩
    · obtain⟨rfl,hj⟩:=dP hy
      obtain⟨p,c1,OM,Nu,LN,rfl,i3,Oe⟩:=hJ;walk_at "vg";have Oc:=dw cell (10+3*(a:Int)+(b:Int));have RH:=dw cell (10+(b:Int))
      -- one
      refine au λN3 pB=>?_;symm;refine⟨by unfold fQ;omega,by omega,?_⟩
      subst pB;generalize bp cell (10+3*(a:Int)+(b:Int)) = one at Oc ⊢
      -- far
      refine au λN3 pB=>?_;symm;refine⟨by unfold fQ;omega,by decide,?_⟩
      subst pB;obtain⟨Mj,Td,Te,ef⟩:∃v:Int,-(10 ^ 15)<v /\ v<10 ^ 15 /\ (one-134217728)*7450580+one%1000 = v:=⟨_,by omega,by omega,rfl⟩
      rw [ef]
      -- some
      refine au λN3 pB=>?_;symm;refine⟨by decide,by decide,by omega,by decide,by decide,?_⟩
      subst pB;refine au λN3 pB=>?_;symm;refine⟨by decide,by unfold nv;decide,by unfold fQ;omega,by unfold rF;omega,by decide,by unfold fQ;omega,by decide,by decide,?_⟩
      refine fX ⋯ (by simp only [List.length_cons,List.length_nil];omega) λd hd=>?_
      obtain⟨v,rfl,Tr,Mx⟩:∃v,d = .int v /\ 0<v /\ v<100:=by
        simp only [List.mem_cons,List.not_mem_nil,or_false]at hd;rcases hd with rfl | rfl | rfl
        · exact⟨_,rfl,by omega,by omega⟩
        · exact⟨_,rfl,by omega,by omega⟩
        · exact⟨_,rfl,by omega,by omega⟩
      symm;refine⟨by unfold rF;omega,by decide,by decide,by decide,?_⟩
      subst pB
      -- append
      symm;refine⟨⟨_,rfl⟩,?_⟩;have qz:0 <= (a:Int)*step /\ (a:Int)*step <= 150*10 ^ 6:=⟨Int.mul_nonneg ⋯ ⋯,Int.mul_le_mul ⋯ Rz ⋯ ⋯⟩
      refine fX Rp (by simp only [List.length_cons,List.length_nil];omega) λd hd=>?_
      obtain⟨x,rfl,PX,Dp⟩:∃x,d = .int x /\ -(10 ^ 15)<x /\ x<10 ^ 15:=by
        simp only [List.mem_cons,List.not_mem_nil,or_false]at hd;rw [show(10:Int) ^ Int.toNat 14 = 100000000000000 from rfl]at hd
        rcases hd with rfl | rfl | rfl | rfl | rfl | rfl | rfl
        · exact⟨_,rfl,by omega,by omega⟩
        · exact⟨_,rfl,by omega,by omega⟩
        · exact⟨_,rfl,by omega,by omega⟩
        · exact⟨_,rfl,by omega,by omega⟩
        · exact⟨_,rfl,by omega,by omega⟩
        · exact⟨_,rfl,by omega,by omega⟩
        · exact⟨_,rfl,by omega,by omega⟩
      symm;refine⟨by rw [sz,List.length_map];omega,Je _ ⟨p ++ [x],_,_,_,_,by rw [List.map_append];rfl,by simp [i3],λy hy=>?_⟩⟩
      rcases List.mem_append.mp hy with hy | hy
      · exact Oe y hy
      · rw [List.mem_singleton.mp hy];exact⟨PX,Dp⟩
    · obtain⟨p,c1,OM,Nu,LN,rfl,i3,Oe⟩:=hJ
      rw [List.length_range]at i3;symm;refine⟨⟨_,rfl⟩,by rw [sz,List.length_map];omega,Q6 _ ⟨b9 ++ [p],_,_,_,_,_,_,by rw [List.map_append];rfl,by simp [hl],hg.1,λq hq=>?_⟩⟩
      rcases List.mem_append.mp hq with hq | hq
      · exact hg.2 q hq
      · rw [List.mem_singleton.mp hq];exact⟨i3,Oe⟩
  · obtain⟨b9,k0,Sw,c0,OJ,Nt,LL,rfl,hl,hg⟩:=hI
    subst hN;symm;rw [List.length_range]at hl;exact h b9 cnt hg ⋯
noncomputable def iA(b9:List (List Int)):D:=.lst (b9.map iy)
noncomputable def yI:Nat -> D -> Bool
  | _,.bt=>true
  | _,.int _=>true
  | _,.str z=>bL 8 (.str z)
  | n+1,.tup xs=>decide (xs.length <= 1000000) && xs.all (yI n)
  | n+1,.lst xs=>decide (xs.length <= 1000000) && xs.all (yI n)
  | _,_=>false
noncomputable def cI:Nat -> b7
  | 0=>λ_ _=>False
  | n+1=>λds Q=>∃x,ds = [x,x] /\ yI n x = true /\ Q (.sh (.bl true))
theorem o5{α:Type}:∀l:List α,l.zip l = l.map λx=>(x,x)
  | []=>rfl
  | x :: l=>by rw [List.zip_cons_cons,List.map_cons,o5 l]
theorem sW(xs:List D):nq xs xs = xs.map λx=>.tup [x,x]:=by
  unfold nq;rw [o5,List.map_map];rfl
theorem lY{α β:Type}:∀l:List α,l.filterMap (λ_=>(none:Option β)) = []
  | []=>rfl
  | _ :: l=>by rw [List.filterMap_cons_none rfl,lY l]
theorem lU(i:Int):cT (.int i) (.int i) = true:=by simp [cT]
theorem pM(n:Nat) (ds:List D) (Q:B -> Prop) (h:cI (n+1) ds Q):wU (cI n) {nx:=λ_=>Q (.sh .bt),rt:=λb _=>Q b} (a4 tJ.length ds):=by
  obtain⟨x,rfl,ok,h⟩:=h;have Ls:∀xs:List D,(∀m,n = m+1 -> xs.length <= 1000000 /\ xs.all (yI m) = true) -> (∃m,n = m+1) -> eA (CV 2 (gC (fW 0) (gC (fW 1) CU)))
      (dj (L3 (aH (cV (cI n) (aJ (ak [] (af 0)) (aJ (ak [] (af 1)) tN)))))) (ak [] (aD (D.int 1))) [none,none] (nq xs xs) [] λds=>0 <= sizeLine /\ (bL 8 (.lst ds) = true /\ bL 8 (.lst []) = true) /\ Q (.sh (.bl (cT (.lst ds) (.lst [])))):=by
    intro xs hx hm;obtain⟨m,rfl⟩:=hm;obtain⟨hl,ha⟩:=hx m rfl;rw [sW];refine eR (λx=>.tup [x,x]) (λ_=>none) xs (λy hy A Bn hB=>?_) (by rw [sz];omega) ?_
    · symm
      exact⟨y,rfl,List.all_eq_true.mp ha y hy,hB⟩
    · rw [lY]
      exact⟨Nat.zero_le _,⟨rfl,rfl⟩,h⟩
  unfold wU;cases x with
  | bt=>symm;exact h
  | int i =>
    symm;have e:cT (.int i) (.int i) = true:=lU i;refine(if_neg ∅).mpr ((if_neg ∅).mpr ((if_neg ∅).mpr ((if_pos ∅).mpr ((if_pos ∅).mpr ⟨⟨rfl,rfl⟩,?_⟩))))
    rw [e];exact h
  | tup xs =>
    symm;refine(if_neg ∅).mpr ((if_neg ∅).mpr ((if_pos ∅).mpr ⟨⟨rfl,rfl⟩,(if_neg ∅).mpr ((if_neg ∅).mpr ⟨⟨rfl,rfl⟩,(if_neg (by rw [lU];decide)).mpr ?_⟩)⟩))
    cases n with
    | zero=>cases ok
    | succ n=>exact Ls xs (λm e=>by cases e;have yH:(decide (xs.length <= 1000000) && xs.all (yI n)) = true:=ok;rw [Bool.and_eq_true]at yH;exact⟨of_decide_eq_true yH.1,yH.2⟩) ⟨_,rfl⟩
  | lst xs =>
    symm;refine(if_neg ∅).mpr ((if_neg ∅).mpr ((if_pos ∅).mpr ⟨⟨rfl,rfl⟩,(if_neg ∅).mpr ((if_neg ∅).mpr ⟨⟨rfl,rfl⟩,(if_neg (by rw [lU];decide)).mpr ?_⟩)⟩))
    cases n with
    | zero=>cases ok
    | succ n=>exact Ls xs (λm e=>by cases e;have yH:(decide (xs.length <= 1000000) && xs.all (yI n)) = true:=ok;rw [Bool.and_eq_true]at yH;exact⟨of_decide_eq_true yH.1,yH.2⟩) ⟨_,rfl⟩
  | str z =>
    have hz:bL 8 (.str z) = true:=by cases n<;>exact ok
    symm;refine(if_neg ∅).mpr ((if_pos ∅).mpr ((if_pos ∅).mpr ⟨⟨hz,hz⟩,?_⟩))
    rw [show cT (.str z) (.str z) = true by simp [cT]];exact h
  | bl _=>cases n<;>cases ok
  | dct _=>cases n<;>cases ok
  | exc _=>cases n<;>cases ok
  | fP _=>cases n<;>cases ok
  | o6 _=>cases n<;>cases ok
  | kp _ _ _ _=>cases n<;>cases ok
theorem Ex(b9:List (List Int)):bL 8 (.lst (b9.map iy)) = true:=by
  show(b9.map iy).all (bL 7) = true;rw [List.all_map];refine List.all_eq_true.mpr λp _=>?_;show(p.map D.int).all (bL 6) = true;rw [List.all_map];exact List.all_eq_true.mpr λ_ _=>rfl
theorem ne_nil(b9:List (List Int)):cT (.lst (b9.map iy)) (.lst []) = decide (b9 = []):=by cases b9<;>rfl
theorem yJ(m:Nat) (i:Int):yI m (.int i) = true:=by cases m<;>rfl
theorem vx{z:Str} {ys:List Str} {B:Nat} (hB:∀y ∈ ys,y.length <= B):(Txt.join z ys).length <= ys.length*B+ys.length*z.length:=by
  have e:Txt.join z ys = Str.join z ys:=StrLaws.glued_eq_join z ys;rw [e];have h1:=StrLaws.join_length_le z ys;have h2:=StrLaws.sumLen_le ys hB;omega
theorem ml{i:Int} (h1:-(2 ^ 60)<i) (h2:i<2 ^ 60):i.natAbs.log2<60:=by
  by_cases e:i.natAbs = 0
  · rw [e];decide
  · exact(Nat.log2_lt e).mpr ⋯
theorem qB{i:Int} (h1:-(2 ^ 60)<i) (h2:i<2 ^ 60):(xu i).length <= 61:=by
  have h:=int_text_length_le (k:=60) ∅ (ml h1 h2)
  show(Str.ofString (toString i)).length <= 61;rw [ofString_length];exact h
noncomputable def km(p:List Int):Str:=Txt.join "," (p.map xu)
noncomputable def qW(b9:List (List Int)):Str:=if b9 = []then "none" else Txt.join " " (b9.map km)
theorem kG:((",":String):Str).length = 1:=by decide
theorem rP:((" ":String):Str).length = 1:=by decide
theorem mj{p:List Int} (h:Bd p):∀y ∈ p.map xu,y.length <= 61:=λy hy=>by
  obtain⟨i,hi,rfl⟩:=List.mem_map.mp hy;exact qB (h.2 i hi).1 (h.2 i hi).2
theorem sE{p:List Int} (h:Bd p):joinFits "," (p.map xu):=by
  have h1:=StrLaws.sumLen_le _ (mj h);have h2:=h.1;unfold joinFits;rw [kG];rw [List.length_map]at h1 ⊢;omega
theorem wg{p:List Int} (h:Bd p):(km p).length <= 200:=by
  have h1:=vx (z:=",") (mj h);have h2:=h.1;unfold km;rw [kG,List.length_map]at h1;omega
theorem pQ{n:Nat} {b9:List (List Int)} (g:Good n b9) (hl:b9.length <= 1000):joinFits " " (b9.map km):=by
  have h1:=StrLaws.sumLen_le (B:=200) (b9.map km) λy hy=>by
    obtain⟨p,hp,rfl⟩:=List.mem_map.mp hy;exact wg (g.bd hp)
  unfold joinFits;rw [rP];rw [List.length_map]at h1 ⊢;omega
theorem qh{α:Type} (l:List α) (f:α -> Str):(l.map λa=>D.str (f a)).all isStr = true:=by
  rw [List.all_map];exact List.all_eq_true.mpr λ_ _=>rfl
theorem oC{α:Type} (l:List α) (f:α -> Str):(l.map λa=>D.str (f a)).map wD = l.map f:=by
  rw [List.map_map];rfl
noncomputable def jk:b7:=λds Q=>∃n b9,ds = [iA b9] /\ Good n b9 /\ b9.length <= 1000 /\ Q (.sh (.str (qW b9)))
theorem KG(ds:List D) (Q:B -> Prop) (h:jk ds Q):wX {nx:=λ_=>Q (.sh .bt),rt:=λb _=>Q b} (a4 tM.length ds):=by
  obtain⟨n,b9,rfl,hg,hl,h⟩:=h;unfold wX iA;symm;refine⟨by decide,⟨Ex b9,rfl⟩,?_⟩
  rw [ne_nil]
  by_cases e:b9 = []
  · subst e
    refine(if_pos ∅).mpr ?_
    exact h
  · refine(if_neg (by rw [decide_eq_true_eq];exact e)).mpr ?_
    refine⟨⟨_,rfl⟩,?_⟩;refine bK iy (λp=>D.str (km p)) _ (λp hp A ha=>?_) (by rw [sz];omega) ?_
    · unfold iy
      symm;have hb:=hg.bd hp;have S7:=hb.1;refine⟨⟨_,rfl⟩,?_⟩;refine bK D.int (λi:Int=>D.str (xu i)) _ (λi hi A ha=>?_) (by rw [sz];omega) ?_
      · symm
        exact⟨Nat.lt_trans (ml (hb.2 i hi).1 (hb.2 i hi).2) ∅,ha⟩
      · symm
        rw [oC];exact⟨⟨qh _ _,sE hb⟩,ha⟩
    · symm
      rw [oC];refine⟨⟨qh _ _,pQ hg hl⟩,?_⟩;unfold qW at h;rw [if_neg e]at h;exact h
noncomputable def dg(m:Nat):List Nat:=(Nat.toDigits 10 m).map Char.toNat
theorem uC(m:Nat):NumText.AllDigits (dg m):=λc hc=>by
  obtain⟨ch,sZ,rfl⟩:=List.mem_map.mp hc;exact PyProof.Rows.digit_range (Nat.isDigit_of_mem_toDigits ∅ ∅ sZ)
theorem yj(m:Nat):(xu (m:Int)).cps.toList = dg m:=PySem.W.KIN.signs_num m
theorem yk(m:Nat):(xu (Int.negSucc m)).cps.toList = 45 :: dg (m+1):=by
  show(Str.ofString (toString (Int.negSucc m))).cps.toList = _;rw [PyProof.Rows.signs_ofString];have e:toString (Int.negSucc m) = "-" ++ Nat.repr (m+1):=rfl;rw [e,String.toList_append,List.map_append,Nat.toList_repr];rfl
theorem zH{a b:Str} (h:a.cps.toList = b.cps.toList):a = b:=by
  obtain⟨a⟩:=a;obtain⟨b⟩:=b;have:a = b:=by
    apply Array.ext';exact h
  rw [this]
theorem len_list(z:Str):z.length = z.cps.toList.length:=by
  show z.cps.size = _;simp
noncomputable def jn(c:Nat):List (List Nat) -> List Nat
  | []=>[]
  | [x]=>x
  | x :: y :: r=>x ++ c :: jn c (y :: r)
theorem qG(c:Nat):∀ts:List Str,(Str.join ⟨#[c]⟩ ts).cps.toList = jn c (ts.map λt=>t.cps.toList)
  | []=>rfl
  | [x]=>rfl
  | x :: y :: r=>by
    have ih:=qG c (y :: r);have e:(Str.join ⟨#[c]⟩ (x :: y :: r)).cps.toList = x.cps.toList ++ [c] ++ (Str.join ⟨#[c]⟩ (y :: r)).cps.toList:=by
      show((x.cps ++ #[c]) ++ (Str.join ⟨#[c]⟩ (y :: r)).cps).toList = _;simp
    rw [e,ih];show _ = x.cps.toList ++ c :: jn c ((y :: r).map λt=>t.cps.toList);simp
noncomputable def fM(b9:List (List Int)):Prop:=∀p ∈ b9,(1 <= p.length /\ p.length <= 3) /\ p.length = (b9.headD []).length
noncomputable def dW:ky:=λds Q E=>∃n:Nat,ds = [.int (n:Int)] /\ (1 <= n /\ n <= 3 -> Q (.sh .bt)) /\ (¬(1 <= n /\ n <= 3) -> E "NoPoints")
theorem xk(ds:List D) (Q:B -> Prop) (E:Str -> Prop) (h:dW ds Q E):zS (λc _=>E c) {nx:=λ_=>Q (.sh .bt),rt:=λb _=>Q b} (a4 Bj.length ds):=by
  obtain⟨n,rfl,h1,h2⟩:=h;unfold zS;symm
  split
  · exact⟨by decide,h2 ⋯⟩
  · split
    · exact⟨by decide,h2 ⋯⟩
    · exact h1 ⋯
noncomputable def j8:ky:=λds Q E=>∃(p:List Int) (n:Nat),ds = [iy p,.int (n:Int)] /\ (p.length = n -> Q (.sh .bt)) /\ (p.length ≠ n -> E "NoPoints")
theorem L5(ds:List D) (Q:B -> Prop) (E:Str -> Prop) (h:j8 ds Q E):zP (λc _=>E c) {nx:=λ_=>Q (.sh .bt),rt:=λb _=>Q b} (a4 Bb.length ds):=by
  obtain⟨p,n,rfl,h1,h2⟩:=h;unfold zP;rw [show iy p = .tup (p.map D.int)from rfl]
  symm;rw [List.length_map];refine⟨⟨rfl,rfl⟩,?_⟩;have e:cT (.int (p.length:Nat)) (.int (n:Nat)) = decide (p.length = n):=by
    by_cases h:p.length = n
    · subst h;simp [cT]
    · have:¬((p.length:Int) = (n:Int)):=by omega
      simp [cT,h,this]
  rw [e]
  by_cases h:p.length = n
  · rw [if_neg (by simp [h])];exact h1 h
  · rw [if_pos (by simp [h])];exact⟨by decide,h2 h⟩
theorem vg{α:Type} {l:List (List α)} (h:0<l.length):l[0]? = some (l.headD []):=by
  cases l with
  | nil=>simp at h
  | cons x r=>rfl
noncomputable def hZ:ky:=λds Q E=>∃b9:List (List Int),ds = [iA b9] /\ (fM b9 -> Q (.sh .bt)) /\ (¬fM b9 -> E "NoPoints")
theorem GZ(ds:List D) (Q:B -> Prop) (E:Str -> Prop) (h:hZ ds Q E):zQ (λc _=>E c) dW j8 {nx:=λ_=>Q (.sh .bt),rt:=λb _=>Q b} (a4 Bc.length ds):=by
  obtain⟨b9,rfl,h1,h2⟩:=h;unfold zQ;rw [show iA b9 = .lst (b9.map iy)from rfl]
  symm;refine d5 iy b9 (λi σ=>∃x1,σ = [some (.sh (.lst (b9.map iy))),x1] /\ ∀j p,j<i -> b9[j]? = some p -> (1 <= p.length /\ p.length <= 3) /\ p.length = (b9.headD []).length) (λi p σ N hx hI hN=>?_) (λσ hI=>?_) ⟨none,rfl,λj p hj=>absurd hj ⋯⟩
  · obtain⟨x1,rfl,ho⟩:=hI
    have hm:=List.mem_of_getElem? hx;have h0:0<b9.length:=by have:=(List.getElem?_eq_some_iff.mp hx).1;omega
    rw [show iy p = .tup (p.map D.int)from rfl]
    walk_at "vg";refine au λN1 Q7=>?_;symm;refine⟨p.length,by rw [List.length_map],λhc=>?_,λhc=>h2 λz=>hc (z p hm).1⟩
    subst Q7;symm;refine bg (n:=0) rfl (by rw [List.getElem?_map,vg h0];rfl) ?_
    rw [show iy (b9.headD []) = .tup ((b9.headD []).map D.int)from rfl]
    symm;refine⟨p,(b9.headD []).length,by rw [List.length_map];rfl,λhd=>hN _ ⟨_,rfl,λj r hj hr=>?_⟩,λhd=>h2 λz=>hd (z p hm).2⟩
    by_cases e:j = i
    · subst e;rw [hx]at hr;cases hr;exact⟨hc,hd⟩
    · exact ho j r ⋯ hr
  · obtain⟨x1,rfl,ho⟩:=hI
    refine h1 λp hp=>?_;obtain⟨j,hj,e⟩:=List.getElem_of_mem hp;exact ho j p hj (by rw [List.getElem?_eq_getElem hj,e])
theorem fu(a b:Str):cT (.str a) (.str b) = decide (a = b):=by
  by_cases h:a = b
  · subst h;simp [cT]
  · simp [cT,h]
noncomputable def px(c:Str):List D:=[.bl (eI c "NoPoints"),.bl (eI c "NoWay"),.bl (eI c "NoPlace"),.bl (eI c "NoBound"),.bl (eI c "NoNumber"),.bl (eI c "TooMany"),.bl (eI c "NoPaper"),.bl (eI c "NoText"),.bl (eI c "NoForm"),.bl (eI c "NoneYet"),.bl false]
noncomputable def gY:b7:=λds Q=>∃c,ds = [.exc c] /\ c ∈ XL /\ Q (.own (px c))
theorem yS(ds:List D) (Q:B -> Prop) (h:gY ds Q):wN {nx:=λ_=>Q (.sh .bt),rt:=λb _=>Q b} (a4 tF.length ds):=by
  obtain⟨c,rfl,hc,h⟩:=h;unfold wN;refine au λN hN=>?_;symm;refine⟨hc,hc,hc,hc,by decide,?_⟩
  subst hN;refine au λN hN=>?_;symm;refine⟨hc,hc,hc,by decide,by decide,?_⟩
  subst hN;refine au λN hN=>?_;symm;refine⟨hc,hc,hc,by decide,by decide,?_⟩
  subst hN;symm;refine⟨hc,by decide,by decide,?_⟩
  exact h
theorem ou{z:Str} {c:Nat} {r:List Nat} {Q:D -> Prop} (h:z.cps.toList = c :: r) (hz:z.length <= sizeLine) (q:Q (.str ⟨#[c]⟩)):xv (.str z) (.int 0) Q:=by
  refine⟨hz,?_⟩;have e:=lE (n:=0) (show z.cps.toList[0]? = some c by rw [h];rfl)
  rw [show((0:Nat):Int) = 0 from rfl]at e
  rw [e];exact q
theorem nB{z:Str} (h:∀c ∈ z.cps.toList,c<128):z.cps.all (· < 128) = true:=by
  rw [Array.all_eq_true'];intro c hc;have:=h c (by simpa using hc)
  simpa using this
theorem kW{z:Str} (h:∀c ∈ z.cps.toList,c<128):bL 8 (.str z) = true:=by
  rw [qP];intro c hc;have:=h c hc;omega
theorem mZ(z:Str) (h:1 <= z.length):(Txt.slice z (some 1) none).cps.toList = z.cps.toList.drop 1:=by
  have e:Txt.slice z (some 1) none = StrLaws.sliceText z (some ((1:Nat):Int)) (some ((z.length:Nat):Int)):=by
    unfold Txt.slice StrLaws.sliceText;rw [StrLaws.sliceIdx_none_hi];rfl
  rw [e,StrLaws.sliceText_nat z h (Nat.le_refl _)];show(z.cps.toList.drop 1).take (z.length-1) = _;rw [List.take_of_length_le (by rw [List.length_drop,len_list];exact Nat.le_refl _)]
theorem dash:(Str.ofString "-").cps = #[45]:=by decide +kernel
theorem starts(z:Str):Txt.startswith z "-" = (z.cps.toList.head? == some 45):=by
  unfold Txt.startswith Builtin.Str.subAt;show(decide (0+(Str.ofString "-").cps.size <= z.cps.size) && z.cps.extract 0 (0+(Str.ofString "-").cps.size) == (Str.ofString "-").cps) = _;rw [dash];obtain⟨⟨l⟩⟩:=z;cases l with
  | nil=>rfl
  | cons c r =>
    show(decide (0+1 <= (c :: r).length) && (c :: r).toArray.extract 0 1 == #[45]) = (some c == some 45);rw [decide_eq_true (by rw [List.length_cons];omega)]
    simp
theorem c6:((",":String):Str) = ⟨#[44]⟩:=by decide +kernel
theorem cF:((" ":String):Str) = ⟨#[32]⟩:=by decide +kernel
noncomputable def ie(c:Nat):Bool:=decide (48 <= c) && decide (c <= 57)
theorem uD{c:Nat} (h:c<128):Txt.contains "0123456789" ⟨#[c]⟩ = ie c:=by
  have h2:∀d:Fin 128,Txt.contains "0123456789" ⟨#[d.val]⟩ = ie d.val:=by decide +kernel
  exact h2 ⟨c,h⟩
noncomputable def gp(l:List Nat):Bool:=(decide (1 <= l.length) && decide (l.length <= 15)) && (!((l.head? == some 48) && decide (1<l.length)) && l.all ie)
noncomputable def fJ(l:List Nat):Bool:=if l.head? = some 45 then(decide (l ≠ [45,48]) && gp (l.drop 1))else gp l
noncomputable def h7(B:Nat) (z:Str):Prop:=(∀c ∈ z.cps.toList,c<128) /\ z.length <= B
theorem h7.le{B C:Nat} {z:Str} (h:h7 B z) (l:B <= C):h7 C z:=⟨h.1,Nat.le_trans h.2 l⟩
theorem nj{a b:Str}:a = b ↔ a.cps.toList = b.cps.toList:=⟨λh=>by rw [h],zH⟩
theorem pK{c:Nat} (h:c<128):bL 8 (.str ⟨#[c]⟩) = true:=kW λe he=>by
  have he:e ∈ [c]:=he;rw [List.mem_singleton.mp he];exact h
theorem rE:(Str.ofString "0").cps.toList = [48]:=by decide +kernel
theorem vI:(Str.ofString "-0").cps.toList = [45,48]:=by decide +kernel
theorem oG(c:Nat):cT (.str ⟨#[c]⟩) (.str "0") = decide (c = 48):=by
  rw [fu];refine decide_eq_decide.mpr ?_;rw [nj,rE];show [c] = [48] ↔ _;simp
noncomputable def jg:b7:=λds Q=>∃z,ds = [.str z,.int 15] /\ h7 1000000 z /\ Q (.sh (.bl (gp z.cps.toList)))
theorem EZ(ds:List D) (Q:B -> Prop) (h:jg ds Q):GK {nx:=λ_=>Q (.sh .bt),rt:=λb _=>Q b} (a4 Bf.length ds):=by
  obtain⟨z,rfl,ha,h⟩:=h;have hz:z.length <= sizeLine:=Nat.le_trans ha.2 (by rw [sz];decide)
  have hl:=len_list z;unfold GK;symm;refine⟨hz,?_⟩;cases e:z.cps.toList with
  | nil =>
    rw [e]at hl h;rw [hl];exact h
  | cons c r =>
    rw [e]at hl;have NW:z.length = r.length+1:=hl;have hc:c<128:=ha.1 c (by rw [e];exact .head _)
    rw [if_neg (by rw [NW];simp;omega)]
    refine⟨hz,?_⟩;have QS:gp (c :: r) = (decide (z.length <= 15) && (!((c == 48) && decide (1<z.length)) && (c :: r).all ie)):=by
      unfold gp;rw [NW];simp
    rw [e,QS]at h
    by_cases Pz:z.length <= 15
    · rw [if_neg ⋯]
      rw [decide_eq_true Pz,Bool.true_and]at h;refine ou e hz ⟨⟨pK hc,by decide +kernel⟩,?_⟩
      rw [oG];have tail:((c == 48) && decide (1<z.length)) = false -> (z.cps.all (· < 128) = true /\ eA (fW 0) cR (ak [] (bV (a8 Du (af 0) (aD (D.str (Str.ofString "0123456789")))))) [none] (Lv z) [] λds=>ds.all yr = true /\ Q (B.sh (D.bl ((List.map Mg ds).all id)))):=λz0=>by
        refine⟨nB ha.1,?_⟩;refine bK (λc:Nat=>D.str ⟨#[c]⟩) (λc:Nat=>D.bl (ie c)) _ (λx hx A pC=>?_) (by rw [<- len_list];exact hz) ?_
        · walk_at "vg"
          symm;rw [uD (ha.1 x hx)];exact pC
        · refine⟨by rw [List.all_map];exact List.all_eq_true.mpr λ_ _=>rfl,?_⟩
          rw [List.map_map,List.all_map,e];rw [z0]at h;exact h
      by_cases h0:c = 48
      · subst h0
        rw [if_pos ∅]
        refine⟨hz,?_⟩
        by_cases h1:1<z.length
        · rw [if_pos ⋯]
          rw [decide_eq_true h1]at h;exact h
        · rw [if_neg ⋯]
          exact tail (by rw [decide_eq_false h1];rfl)
      · have hb:(c == 48) = false:=beq_eq_false_iff_ne.mpr h0
        rw [if_neg (by rw [decide_eq_false h0];decide),if_neg ∅]
        exact tail (by rw [hb];rfl)
    · rw [if_pos ⋯]
      rw [decide_eq_false Pz]at h;exact h
theorem jU(c:Nat) (z:Str):jn c ((Txt.split z ⟨#[c]⟩).map λt=>t.cps.toList) = z.cps.toList:=by
  rw [<- qG,StrLaws.join_split z ⟨#[c]⟩]
theorem oQ(c:Nat) (z:Str):Txt.split z ⟨#[c]⟩ ≠ []:=λh=>by
  have g:=PyProof.Rows.split_pos z ⟨#[c]⟩;rw [h]at g;exact absurd g ∅
theorem vv{c:Nat}:∀ {xs:List (List Nat)} {x:List Nat},x ∈ xs -> (∀a ∈ x,a ∈ jn c xs) /\ x.length <= (jn c xs).length
  | [y],x,h=>by
    rw [List.mem_singleton.mp h];exact⟨λa ha=>ha,Nat.le_refl _⟩
  | y :: y2 :: r,x,h=>by
    show(∀a ∈ x,a ∈ y ++ c :: jn c (y2 :: r)) /\ x.length <= (y ++ c :: jn c (y2 :: r)).length;rw [List.length_append,List.length_cons];rcases List.mem_cons.mp h with rfl | h
    · exact⟨λa ha=>List.mem_append_left _ ha,by omega⟩
    · obtain⟨h1,h2⟩:=vv (c:=c) h
      exact⟨λa ha=>List.mem_append_right _ (List.mem_cons_of_mem _ (h1 a ha)),by omega⟩
theorem pG{c:Nat}:∀ {xs:List (List Nat)},xs ≠ [] -> (∀x ∈ xs,c ∉ x) -> (jn c xs).count c+1 = xs.length
  | [],h,_=>absurd rfl h
  | [y],_,h=>by
    show y.count c+1 = 1;rw [List.count_eq_zero.mpr (h y (.head _))]
  | y :: y2 :: r,_,h=>by
    show(y ++ c :: jn c (y2 :: r)).count c+1 = (y2 :: r).length+1;rw [List.count_append,List.count_eq_zero.mpr (h y (.head _)),List.count_cons_self,<- pG (c:=c) (xs:=y2 :: r) (by simp) λx hx=>h x (.tail _ hx)]
    omega
theorem cO{B c:Nat} {z t:Str} (h:h7 B z) (ht:t ∈ Txt.split z ⟨#[c]⟩):h7 B t:=by
  have e:=jU c z;have:=vv (c:=c) (xs:=(Txt.split z ⟨#[c]⟩).map λt=>t.cps.toList) (List.mem_map_of_mem (f:=λt:Str=>t.cps.toList) ht);rw [e]at this;exact⟨λa ha=>h.1 a (this.1 a ha),Nat.le_trans (by rw [len_list,len_list];exact this.2) h.2⟩
theorem split_len(c:Nat) (z:Str):(Txt.split z ⟨#[c]⟩).length = z.cps.toList.count c+1:=by
  have e:=pG (c:=c) (xs:=(Txt.split z ⟨#[c]⟩).map λt=>t.cps.toList) (λh=>oQ c z (List.map_eq_nil_iff.mp h)) (λx hx=>by
    obtain⟨t,ht,rfl⟩:=List.mem_map.mp hx;exact StrLaws.split_free z c t ht)
  rw [jU,List.length_map]at e;exact e.symm
theorem split_le{B c:Nat} {z:Str} (h:h7 B z):(Txt.split z ⟨#[c]⟩).length <= B+1:=by
  have:=List.count_le_length (a:=c) (l:=z.cps.toList);rw [split_len];have:=h.2;rw [len_list]at this;omega
noncomputable def jj:b7:=λds Q=>∃z,ds = [.str z] /\ h7 1000000 z /\ Q (.sh (.bl (fJ z.cps.toList)))
theorem E4(ds:List D) (Q:B -> Prop) (h:jj ds Q):GQ jg {nx:=λ_=>Q (.sh .bt),rt:=λb _=>Q b} (a4 Bl.length ds):=by
  obtain⟨z,rfl,ha,h⟩:=h;have hz:z.length <= sizeLine:=Nat.le_trans ha.2 (by rw [sz];decide)
  unfold GQ;symm;refine⟨⟨_,rfl⟩,?_⟩;rw [starts];unfold fJ at h
  by_cases h0:z.cps.toList.head? = some 45
  · rw [if_pos h0]at h
    rw [if_pos (by rw [h0];rfl)]
    refine⟨⟨kW ha.1,by decide +kernel⟩,?_⟩
    have l1:1 <= z.length:=by
      rw [len_list];cases e:z.cps.toList with
      | nil=>rw [e]at h0;cases h0
      | cons _ _=>simp
    have e0:cT (.str z) (.str (Str.ofString "-0")) = decide (z.cps.toList = [45,48]):=by
      rw [fu];refine decide_eq_decide.mpr ?_;rw [nj,vI]
    rw [e0]
    by_cases h1:z.cps.toList = [45,48]
    · rw [if_neg (by rw [decide_eq_true h1];decide)]
      rw [decide_eq_false (λh2=>h2 h1)]at h;exact h
    · rw [if_pos (by rw [decide_eq_false h1])]
      rw [decide_eq_true h1,Bool.true_and]at h;refine⟨hz,_,rfl,⟨λc hc=>?_,?_⟩,?_⟩
      · rw [mZ z l1]at hc
        exact ha.1 c (List.mem_of_mem_drop hc)
      · rw [len_list,mZ z l1,List.length_drop,<- len_list]
        have:=ha.2;omega
      · rw [mZ z l1];exact h
  · rw [if_neg h0]at h
    rw [if_neg (by simpa using h0)]
    exact⟨z,rfl,ha,h⟩
noncomputable def eG(w:Str):Bool:=(Txt.split w ",").all λt=>fJ t.cps.toList
noncomputable def gZ:b7:=λds Q=>∃z,ds = [.str z] /\ h7 1000000 z /\ Q (.sh (.bl (eG z)))
theorem E2(ds:List D) (Q:B -> Prop) (h:gZ ds Q):wQ jj {nx:=λ_=>Q (.sh .bt),rt:=λb _=>Q b} (a4 tH.length ds):=by
  obtain⟨z,rfl,ha,h⟩:=h;have hl:=split_le (c:=44) ha;have h2:=ha.2;unfold wQ;symm;unfold eG at h;rw [c6]at h ⊢;refine⟨⟨_,rfl⟩,⟨by decide +kernel,by rw [sz];omega,by rw [sz];omega⟩,?_⟩
  refine bK D.str (λt:Str=>D.bl (fJ t.cps.toList)) _ (λt ht A pC=>?_) (by rw [sz];omega) ?_
  · symm
    refine⟨t,rfl,cO ha ht,?_⟩;symm;exact pC
  · refine⟨by rw [List.all_map];exact List.all_eq_true.mpr λ_ _=>rfl,?_⟩
    rw [List.map_map,List.all_map];exact h
noncomputable def sv(z:Str):Int:=(intText? z).getD 0
theorem kL{l:List Nat} (h:gp l = true):1 <= l.length /\ l.length <= 15 /\ NumText.AllDigits l:=by
  unfold gp at h;rw [Bool.and_eq_true,Bool.and_eq_true,Bool.and_eq_true]at h;refine⟨of_decide_eq_true h.1.1,of_decide_eq_true h.1.2,λc hc=>?_⟩;have:=List.all_eq_true.mp h.2.2 c hc;unfold ie at this;rw [Bool.and_eq_true]at this;exact⟨of_decide_eq_true this.1,of_decide_eq_true this.2⟩
theorem num_reads{z:Str} (h:fJ z.cps.toList = true):z.length <= 16 /\ intText? z = some (sv z):=by
  have key:z.length <= 16 /\ ∃i,intText? z = some i:=by
    unfold fJ at h
    split at h
    · rename_i h0
      rw [Bool.and_eq_true]at h;cases e:z.cps.toList with
      | nil=>rw [e]at h0;cases h0
      | cons c r =>
        rw [e]at h0 h;obtain rfl:c = 45:=Option.some.inj h0;obtain⟨f1,f2,f3⟩:=kL (l:=r) h.2;have hl:z.length = r.length+1:=by rw [len_list,e];rfl
        exact⟨by omega,_,intText_neg e f3 (by intro z;rw [z]at f1;exact absurd f1 ∅) ⋯⟩
    · obtain⟨f1,f2,f3⟩:=kL h
      rw [<- len_list]at f2;exact⟨by omega,_,intText_digits f3 (by intro z;rw [z]at f1;exact absurd f1 ∅) ⋯⟩
  obtain⟨h1,i,e⟩:=key;exact⟨h1,by unfold sv;rw [e];rfl⟩
noncomputable def fA(w:Str):List Int:=(Txt.split w ",").map sv
theorem qV(w:Str):iy (fA w) = .tup ((Txt.split w ",").map λt=>D.int (sv t)):=by
  unfold iy fA;rw [List.map_map];rfl
noncomputable def g9:b7:=λds Q=>∃z,ds = [.str z] /\ h7 1000000 z /\ eG z = true /\ Q (.sh (iy (fA z)))
theorem E5(ds:List D) (Q:B -> Prop) (h:g9 ds Q):GP {nx:=λ_=>Q (.sh .bt),rt:=λb _=>Q b} (a4 Bk.length ds):=by
  obtain⟨z,rfl,ha,hp,h⟩:=h;have hl:=split_le (c:=44) ha;have h2:=ha.2;unfold GP;symm;rw [qV]at h;unfold eG at hp;rw [c6]at h hp ⊢;refine⟨⟨_,rfl⟩,⟨by decide +kernel,by rw [sz];omega,by rw [sz];omega⟩,?_⟩
  refine bK D.str (λt:Str=>D.int (sv t)) _ (λt ht A pC=>?_) (by rw [sz];omega) ?_
  · obtain⟨r1,r2⟩:=num_reads (List.all_eq_true.mp hp t ht)
    symm;exact⟨_,by omega,r2,pC⟩
  · symm
    exact h
noncomputable def Bs(z:Str):Prop:=h7 900000 z /\ z.cps.toList.count 32 <= 3000
theorem j7{z:Str} (h:Bs z):(Txt.split z ⟨#[32]⟩).length <= 3001:=by rw [split_len];have:=h.2;omega
noncomputable def fK(z:Str):List (List Int):=(Txt.split z " ").map fA
noncomputable def eP(z:Str):Bool:=(Txt.split z " ").all eG
noncomputable def fm:ky:=λds Q E=>∃z,ds = [.str z] /\ Bs z /\ (z = "none" -> ∀b,(b = .own [] \/ b = .sh (.lst [])) -> Q b) /\ (z ≠ "none" -> eP z = false -> E "NoText") /\ (z ≠ "none" -> eP z = true -> fM (fK z) -> ∀b,(b = .own ((fK z).map iy) \/ b = .sh (iA (fK z))) -> Q b) /\ (z ≠ "none" -> eP z = true -> ¬fM (fK z) -> E "NoPoints")
theorem zX(ds:List D) (Q:B -> Prop) (E:Str -> Prop) (h:fm ds Q E):zR (λc _=>E c) gZ g9 hZ {nx:=λ_=>Q (.sh .bt),rt:=λb _=>Q b} (a4 Be.length ds):=by
  obtain⟨z,rfl,hb,h1,h2,h3,h4⟩:=h;have hw:=j7 hb;have ha:h7 1000000 z:=hb.1.le ∅
  have pC:=hb.1.2;unfold zR;refine au λN hN=>?_;symm;refine⟨⟨kW ha.1,by decide +kernel⟩,?_⟩
  rw [fu]
  by_cases e:z = Str.ofString "none"
  · rw [if_pos (decide_eq_true e)]
    exact⟨by decide,h1 e _ (.inl rfl)⟩
  · rw [if_neg (by rw [decide_eq_false e];decide)]
    have h2:=h2 e;have h3:=h3 e;have h4:=h4 e;unfold eP at h2 h3 h4;unfold fK at h3 h4;rw [cF]at h2 h3 h4;subst hN
    -- words
    refine au λN hN=>?_;symm;rw [cF];refine⟨⟨_,rfl⟩,⟨by decide +kernel,by rw [sz];omega,by rw [sz];omega⟩,?_⟩
    subst hN
    -- all of points
    refine au λN hN=>?_;symm;refine bK D.str (λt:Str=>D.bl (eG t)) _ (λt ht A yc=>?_) (by rw [sz];omega) ?_
    · symm
      refine⟨t,rfl,cO ha ht,?_⟩;symm;exact yc
    refine⟨by rw [List.all_map];exact List.all_eq_true.mpr λ_ _=>rfl,?_⟩
    rw [List.map_map,List.all_map];rw [show(Txt.split z ⟨#[32]⟩).all (id ∘ Mg ∘ λt:Str=>D.bl (eG t)) = (Txt.split z ⟨#[32]⟩).all eG from rfl]
    cases gw:(Txt.split z ⟨#[32]⟩).all eG with
    | false =>
      refine(if_pos rfl).mpr ?_;exact⟨by decide,h2 gw⟩
    | true =>
      refine(if_neg ∅).mpr ?_
      subst hN
      -- points
      refine au λN hN=>?_;symm;refine bK D.str (λt:Str=>iy (fA t)) _ (λt ht A yc=>?_) (by rw [sz];omega) ?_
      · symm
        refine⟨t,rfl,cO ha ht,List.all_eq_true.mp gw t ht,?_⟩;symm;exact yc
      subst hN;symm;refine⟨(Txt.split z ⟨#[32]⟩).map fA,by unfold iA;rw [List.map_map];rfl,λbo=>?_,λN7=>h4 gw N7⟩
      symm;exact h3 gw bo _ (.inr (by unfold iA;rw [List.map_map];rfl))
theorem gW{z:Str} {k:Nat} (h:k <= z.length):(Txt.slice z none (some (k:Int))).cps.toList = z.cps.toList.take k:=by
  have e:Txt.slice z none (some (k:Int)) = StrLaws.sliceText z none (some (k:Int)):=rfl;rw [e,StrLaws.sliceText_to ⟨by omega,by rw [<- len_list];omega⟩]
  show(z.cps.toList.drop 0).take ((k:Int)-0).toNat = _;rw [List.drop_zero,Int.sub_zero,Int.toNat_natCast]
theorem e9{z:Str} {k:Nat} (h:k <= z.length):(Txt.slice z (some (k:Int)) none).cps.toList = z.cps.toList.drop k:=by
  have e:Txt.slice z (some (k:Int)) none = StrLaws.sliceText z (some (k:Int)) none:=rfl;rw [e,StrLaws.sliceText_from ⟨by omega,by rw [<- len_list];omega⟩]
  show(z.cps.toList.drop (k:Int).toNat).take _ = _;rw [Int.toNat_natCast,List.take_of_length_le];rw [List.length_drop];omega
theorem r9(z:Str):cT (.str (Txt.slice z none (some 1))) (.str (Str.ofString "-")) = decide (z.cps.toList.head? = some 45):=by
  rw [fu];refine decide_eq_decide.mpr ?_;rw [nj,show(Str.ofString "-").cps.toList = [45]by rw [dash]]
  cases e:z.cps.toList with
  | nil =>
    have h0:z.length = 0:=by rw [len_list,e];rfl
    have h1:=Txt.slice_le z none (some 1);have h2:(Txt.slice z none (some 1)).cps.toList = []:=List.length_eq_zero_iff.mp (by rw [<- len_list];omega)
    rw [h2];simp
  | cons c r =>
    rw [show(Txt.slice z none (some 1)).cps.toList = (c :: r).take 1 by rw [<- e];exact gW (k:=1) (by rw [len_list,e];simp)]
    simp
theorem qO:∀l:List Nat,cT (D.lst (l.filterMap λc=>if ie c = true then none else some (D.str ⟨#[c]⟩))) (D.lst []) = l.all ie
  | []=>rfl
  | c :: l=>by
    rw [List.filterMap_cons,List.all_cons];cases h:ie c with
    | true=>rw [if_pos rfl,Bool.true_and];exact qO l
    | false=>rw [if_neg ∅];rfl
noncomputable def jJ(z:Str):D:=if fJ z.cps.toList = true then .int (sv z)else .bt
noncomputable def ji:b7:=λds Q=>∃z,ds = [.str z] /\ h7 1000000 z /\ Q (.sh (jJ z))
theorem E3(ds:List D) (Q:B -> Prop) (h:ji ds Q):GL {nx:=λ_=>Q (.sh .bt),rt:=λb _=>Q b} (a4 Bg.length ds):=by
  obtain⟨z,rfl,ha,h⟩:=h;have hz:z.length <= sizeLine:=Nat.le_trans ha.2 (by rw [sz];decide)
  have h2:=ha.2;unfold GL;refine au λN hN=>?_;symm;obtain⟨f,ef⟩:∃f,f = Txt.slice z (some (if cT (D.str (Txt.slice z none (some 1))) (D.str (Str.ofString "-")) = true then 1 else 0)) none:=⟨_,rfl⟩
  have f1:f.cps.toList = if z.cps.toList.head? = some 45 then z.cps.toList.drop 1 else z.cps.toList:=by
    rw [ef,r9]
    by_cases h0:z.cps.toList.head? = some 45
    · rw [if_pos (decide_eq_true h0),if_pos h0]
      refine e9 (k:=1) ?_;rw [len_list];cases e:z.cps.toList with
      | nil=>rw [e]at h0;cases h0
      | cons _ _=>simp
    · rw [if_neg (by rw [decide_eq_false h0];decide),if_neg h0]
      exact e9 (k:=0) (Nat.zero_le _)
  have fl:f.length <= z.length:=by rw [ef];exact Txt.slice_le z _ none
  have fa:∀c ∈ f.cps.toList,c<128:=λc hc=>by
    rw [f1]at hc
    split at hc
    · exact ha.1 c (List.mem_of_mem_drop hc)
    · exact ha.1 c hc
  have ka:bL 8 (D.str (Txt.slice z none (some 1))) = true:=sy _ _ (kW ha.1);refine⟨hz,⟨ka,by decide +kernel⟩,hz,?_⟩
  rw [<- ef];clear ef;have NS:f.length <= sizeLine:=by omega
  have AH:=len_list f;subst hN;refine au λN hN=>?_;symm;have no:gp f.cps.toList = false -> Q (.sh .bt):=λhn=>by
    have:fJ z.cps.toList = false:=by
      unfold fJ;rw [f1]at hn
      split at hn
      · rename_i h0
        rw [if_pos h0,hn,Bool.and_false]
      · rename_i h0
        rw [if_neg h0,hn]
    unfold jJ at h;rw [this]at h;exact h
  refine⟨NS,?_⟩
  by_cases a1:¬1 <= f.length
  · rw [if_neg ⋯]
    exact no (by unfold gp;rw [decide_eq_false (p:=1 <= f.cps.toList.length) (by rw [<- AH];exact a1)];rfl)
  rw [if_pos ⋯]
  by_cases a2:¬f.length <= 15
  · rw [if_pos ⋯]
    exact no (by unfold gp;rw [decide_eq_false (p:=f.cps.toList.length <= 15) (by rw [<- AH];exact a2),Bool.and_false];rfl)
  rw [if_neg ⋯]
  refine⟨nB fa,?_⟩;refine eR (λc:Nat=>D.str ⟨#[c]⟩) (λc:Nat=>if ie c = true then none else some (D.str ⟨#[c]⟩)) f.cps.toList (λc hc A Bn hA=>?_) (by rw [<- AH];exact NS) ?_
  · walk_at "vg"
    symm;rw [uD (fa c hc)];cases hd:ie c with
    | true=>rw [hd]at hA;exact hA
    | false=>rw [hd]at hA;exact hA
  refine⟨Nat.zero_le _,?_⟩;have Ss:bL 8 (D.lst (f.cps.toList.filterMap λc=>if ie c = true then none else some (D.str ⟨#[c]⟩))) = true:=List.all_eq_true.mpr λd hd=>by
    obtain⟨c,hc,e⟩:=List.mem_filterMap.mp hd
    split at e
    · cases e
    · cases e
      exact pK (fa c hc)
  refine⟨⟨Ss,rfl⟩,?_⟩;rw [qO];cases gw:f.cps.toList.all ie with
  | false =>
    refine(if_pos rfl).mpr (no ?_);unfold gp;rw [gw,Bool.and_false,Bool.and_false]
  | true =>
    refine(if_neg ∅).mpr ?_
    cases e:f.cps.toList with
    | nil=>rw [e]at AH;rw [AH]at a1;exact absurd a1 ∅
    | cons c r =>
      have hc:c<128:=fa c (by rw [e];exact .head _)
      have CM:gp (c :: r) = !((c == 48) && decide (1<f.length)):=by
        unfold gp;rw [<- e,gw,decide_eq_true (p:=1 <= f.cps.toList.length) ⋯,decide_eq_true (p:=f.cps.toList.length <= 15) ⋯,Bool.true_and,Bool.and_true,Bool.true_and,AH,e]
        rfl
      have fin:fJ z.cps.toList = true -> ∃n,z.length <= 640 /\ intText? z = some n /\ Q (.sh (.int n)):=λhn=>by
        obtain⟨r1,r2⟩:=num_reads hn;unfold jJ at h;rw [if_pos hn]at h;exact⟨_,by omega,r2,h⟩
      subst hN;refine au λN hN=>?_;symm;refine ou e NS ⟨⟨pK hc,by decide +kernel⟩,?_⟩
      rw [oG];have e0:cT (.str z) (.str (Str.ofString "0")) = decide (z.cps.toList = [48]):=by
        rw [fu];refine decide_eq_decide.mpr ?_;rw [nj,rE]
      rw [e]at f1;rw [e]at AH;have PK:f.length = r.length+1:=AH;have tail:fJ z.cps.toList = true -> N [some (B.sh (D.str z)),some (B.sh (D.str f))]:=λhn=>by
        subst hN;symm;exact fin hn
      by_cases Mm:c = 48
      · subst Mm
        rw [if_pos ∅]
        refine⟨⟨kW ha.1,by decide +kernel⟩,?_⟩
        rw [e0]
        by_cases Hc:z.cps.toList = [48]
        · rw [if_neg (by rw [decide_eq_true Hc];decide)]
          exact tail (by rw [Hc];decide)
        · rw [if_pos (by rw [decide_eq_false Hc])]
          have hn:fJ z.cps.toList = false:=by
            unfold fJ
            by_cases h0:z.cps.toList.head? = some 45
            · rw [if_pos h0]at f1 ⊢
              cases ez:z.cps.toList with
              | nil=>rw [ez]at h0;cases h0
              | cons a t =>
                rw [ez]at h0 f1;obtain rfl:a = 45:=Option.some.inj h0;have ft:48 :: r = t:=f1;subst ft
                by_cases hr:r = []
                · subst hr;rfl
                · rw [show(45 :: 48 :: r).drop 1 = 48 :: r from rfl,CM,decide_eq_true (p:=1<f.length) (by cases r with | nil=>exact absurd rfl hr | cons _ _=>rw [PK];simp)]
                  simp
            · rw [if_neg h0]at f1 ⊢
              rw [<- f1,CM];have hr:1<f.length:=by
                cases r with
                | nil=>exact absurd f1.symm Hc
                | cons _ _=>rw [PK];simp
              rw [decide_eq_true hr];rfl
          unfold jJ at h;rw [hn]at h;exact h
      · have hb:(c == 48) = false:=beq_eq_false_iff_ne.mpr Mm
        rw [if_neg (by rw [decide_eq_false Mm];decide),if_neg ∅]
        refine tail ?_;have fg:gp (c :: r) = true:=by rw [CM,hb];rfl
        unfold fJ
        by_cases h0:z.cps.toList.head? = some 45
        · rw [if_pos h0]at f1 ⊢
          rw [<- f1,fg,Bool.and_true];refine decide_eq_true λHc=>?_;rw [Hc]at f1
          injection f1 with f1 _
          exact Mm f1
        · rw [if_neg h0]at f1 ⊢
          rw [<- f1];exact fg
theorem nK:∀(is:List Int) (u:List Int),u.Nodup -> (is.foldl PyProof.Rows.step_dedup u).Nodup /\ ∀x,x ∈ is.foldl PyProof.Rows.step_dedup u ↔ x ∈ u \/ x ∈ is
  | [],u,h=>⟨h,λx=>by simp⟩
  | i :: is,u,h=>by
    have hn:(PyProof.Rows.step_dedup u i).Nodup /\ ∀x,x ∈ PyProof.Rows.step_dedup u i ↔ x ∈ u \/ x = i:=by
      unfold PyProof.Rows.step_dedup
      split
      · rename_i e
        obtain⟨y,hy,e⟩:=List.any_eq_true.mp e;have e:y = i:=by simpa using e
        subst e;exact⟨h,λx=>⟨.inl,λz=>z.elim id λz=>z ▸ hy⟩⟩
      · rename_i e
        refine⟨List.nodup_append.mpr ⟨h,by simp,λa ha c hc z=>?_⟩,λx=>by simp⟩
        subst z;rw [List.mem_singleton]at hc;subst hc;exact e (List.any_eq_true.mpr ⟨a,ha,by simp⟩)
    obtain⟨h1,h2⟩:=nK is _ hn.1;refine⟨h1,λx=>?_⟩;rw [List.foldl_cons,h2,hn.2,List.mem_cons,or_assoc]
theorem xg{is:List Int}:(fe is).length <= 1 ↔ ∀x ∈ is,∀y ∈ is,x = y:=by
  have e:fe is = is.foldl PyProof.Rows.step_dedup []:=by
    unfold fe PyProof.Rows.firstMet;congr 1;refine List.ext_getElem (by simp) λi h1 h2=>?_
    simp [List.getD_eq_getElem?_getD,h2]
  obtain⟨h1,h2⟩:=nK is [] List.nodup_nil;rw [<- e]at h1 h2;have hm:∀x,x ∈ fe is ↔ x ∈ is:=λx=>by rw [h2];simp
  constructor
  · intro hl x hx y hy
    have hx:=(hm x).mpr hx;have hy:=(hm y).mpr hy
    match hu:fe is,hl,hx,hy with
    | [],_,hx,_=>cases hx
    | [a],_,hx,hy =>
      rw [List.mem_singleton.mp hx,List.mem_singleton.mp hy]
  · intro h
    match hu:fe is with
    | []=>exact Nat.zero_le _
    | [a]=>exact Nat.le_refl _
    | a :: b :: r =>
      rw [hu]at h1;have:a = b:=h a ((hm a).mp (by rw [hu];exact .head _)) b ((hm b).mp (by rw [hu];exact .tail _ (.head _)))
      exact absurd (.head _) ((List.nodup_cons.mp (this ▸ h1)).1)
noncomputable def kn(w:Str):D:=.tup ((Txt.split w ",").map jJ)
theorem qN(n:Nat) (z:Str):bL (n+1) (jJ z) = true:=by
  unfold jJ
  split<;>rfl
theorem FP(w:Str):bL 8 (kn w) = true:=List.all_eq_true.mpr λd hd=>by
  obtain⟨t,_,rfl⟩:=List.mem_map.mp hd;exact qN 6 t
theorem qM:∀l:List Str,inD .bt (l.map jJ) = !(l.all λt=>fJ t.cps.toList)
  | []=>rfl
  | t :: l=>by
    have ih:=qM l;unfold inD at ih ⊢;rw [List.map_cons,List.any_cons,ih,List.all_cons,Bool.not_and];congr 1;unfold jJ;cases h:fJ t.cps.toList<;>rfl
theorem FQ{w:Str} (h:eG w = true):kn w = iy (fA w):=by
  rw [qV];unfold kn;congr 1;refine List.map_congr_left λt ht=>?_;unfold eG at h;unfold jJ;rw [if_pos (List.all_eq_true.mp h t ht)]
theorem oF:∀l:List Str,cT (.lst (l.filterMap λw=>if eG w = true then none else some (kn w))) (.lst []) = l.all eG
  | []=>rfl
  | w :: l=>by
    rw [List.filterMap_cons,List.all_cons];cases h:eG w with
    | true=>rw [if_pos rfl,Bool.true_and];exact oF l
    | false=>rw [if_neg ∅];rfl
theorem zj(w:Str):1 <= (fA w).length:=by
  unfold fA;rw [List.length_map,c6,split_len];omega
theorem yK{ws:List Str} (h0:ws ≠ []):fM (ws.map fA) ↔ (fe (ws.map λw=>((fA w).length:Int))).length <= 1 /\ ((ws.map fA).headD []).length <= 3:=by
  obtain⟨w0,r,rfl⟩:=List.exists_cons_of_ne_nil h0;rw [xg];show fM (fA w0 :: r.map fA) ↔ _ /\ (fA w0).length <= 3;constructor
  · intro h
    refine⟨λx hx y hy=>?_,(h _ (.head _)).1.2⟩;have key:∀x ∈ (w0 :: r).map (λw=>((fA w).length:Int)),x = ((fA w0).length:Int):=λx hx=>by
      obtain⟨w,hw,rfl⟩:=List.mem_map.mp hx;have:=(h (fA w) (List.mem_map_of_mem (f:=fA) hw)).2;exact congrArg (Nat.cast:Nat -> Int) this
    rw [key x hx,key y hy]
  · rintro⟨h1,h3⟩ p hp
    have hp:p ∈ (w0 :: r).map fA:=hp;obtain⟨w,hw,rfl⟩:=List.mem_map.mp hp;have:=h1 _ (List.mem_map_of_mem (f:=λw=>((fA w).length:Int)) hw) _ (List.mem_map_of_mem (f:=λw=>((fA w).length:Int)) (List.mem_cons_self (a:=w0) (l:=r)));have e:(fA w).length = (fA w0).length:=by omega
    exact⟨⟨zj w,by omega⟩,e⟩
noncomputable def jR:b7:=λds Q=>∃z,ds = [.str z] /\ Bs z /\ (z = "none" -> Q (.own [])) /\ (z ≠ "none" -> eP z = false -> Q (.sh (.str "text"))) /\ (z ≠ "none" -> eP z = true -> fM (fK z) -> Q (.sh (iA (fK z)))) /\ (z ≠ "none" -> eP z = true -> ¬fM (fK z) -> Q (.sh (.str "points")))
theorem KD(ds:List D) (Q:B -> Prop) (h:jR ds Q):wZ ji {nx:=λ_=>Q (.sh .bt),rt:=λb _=>Q b} (a4 tP.length ds):=by
  obtain⟨z,rfl,hb,h1,h2,h3,h4⟩:=h;have hw:=j7 hb;have ha:h7 1000000 z:=hb.1.le ∅
  have pC:=hb.1.2;unfold wZ;refine au λN hN=>?_;symm;refine⟨⟨kW ha.1,by decide +kernel⟩,?_⟩
  rw [fu]
  by_cases e:z = Str.ofString "none"
  · rw [if_pos (decide_eq_true e)]
    exact⟨by decide,h1 e⟩
  · rw [if_neg (by rw [decide_eq_false e];decide)]
    have h2:=h2 e;have h3:=h3 e;have h4:=h4 e;unfold eP at h2 h3 h4;unfold fK at h3 h4;rw [cF]at h2 h3 h4;subst hN;refine au λN hN=>?_;symm;rw [cF];refine⟨⟨_,rfl⟩,⟨by decide +kernel,by rw [sz];omega,by rw [sz];omega⟩,?_⟩
    have dk:=oQ 32 z;have has:∀t ∈ Txt.split z ⟨#[32]⟩,h7 1000000 t:=λt ht=>cO ha ht;generalize Txt.split z ⟨#[32]⟩ = ws at hw h2 h3 h4 dk has;refine bK D.str kn ws (λw yh A yc=>?_) (by rw [sz];omega) ?_
    · have hl:=split_le (c:=44) (has w yh)
      have S5:=(has w yh).2;symm;unfold kn at yc;rw [c6]at yc ⊢;refine⟨⟨_,rfl⟩,⟨by decide +kernel,by rw [sz];omega,by rw [sz];omega⟩,?_⟩
      refine bK D.str jJ _ (λt ht A2 pC=>?_) (by rw [sz];omega) ?_
      · symm
        refine⟨t,rfl,cO (has w yh) ht,?_⟩;symm;exact pC
      · symm
        exact yc
    subst hN;refine au λN hN=>?_;symm;refine eR kn (λw=>if eG w = true then none else some (kn w)) ws (λw yh A Bn hA=>?_) (by rw [sz];omega) ?_
    · walk_at "vg"
      symm;unfold kn;refine⟨⟨rfl,FP w⟩,?_⟩;rw [qM];show(if(!(eG w)) = true then _ else _)
      cases hp:eG w with
      | true=>rw [hp]at hA;exact hA
      | false=>rw [hp]at hA;exact hA
    refine⟨Nat.zero_le _,⟨List.all_eq_true.mpr λd hd=>?_,rfl⟩,?_⟩
    · obtain⟨w,_,e⟩:=List.mem_filterMap.mp hd
      split at e
      · cases e
      · cases e
        exact List.all_eq_true.mpr λd hd=>by
          obtain⟨t,_,rfl⟩:=List.mem_map.mp hd;exact qN 5 t
    rw [oF];cases gw:ws.all eG with
    | false=>exact(if_pos rfl).mpr (h2 gw)
    | true =>
      refine(if_neg ∅).mpr ?_
      have er:ws.map kn = ws.map λw=>iy (fA w):=List.map_congr_left λw yh=>FQ (List.all_eq_true.mp gw w yh);have h3:=h3 gw;have h4:=h4 gw;subst hN;refine au λN hN=>?_;rw [er];symm;refine bK (λw=>iy (fA w)) (λw=>D.int ((fA w).length:Nat)) ws (λw yh A yc=>?_) (by rw [sz];omega) ?_
      · unfold iy
        walk_at "vg";symm;rw [List.length_map];exact yc
      refine⟨⟨by rw [List.all_map];exact List.all_eq_true.mpr λ_ _=>rfl,by rw [List.length_map];omega⟩,?_⟩
      have em:(ws.map λw=>D.int ((fA w).length:Nat)).map vq = ws.map λw=>((fA w).length:Int):=by rw [List.map_map];rfl
      rw [em];have key:=yK dk
      by_cases u1:1<(fe (ws.map λw=>((fA w).length:Int))).length
      · rw [if_pos ⋯]
        exact h4 λz=>absurd (key.mp z).1 ⋯
      · rw [if_neg ⋯]
        obtain⟨w0,r,rfl⟩:=List.exists_cons_of_ne_nil dk;refine bg (n:=0) rfl rfl ?_;unfold iy;dsimp only;rw [List.length_map]
        by_cases u2:3<(fA w0).length
        · rw [if_pos (by rw [decide_eq_true ⋯])]
          exact h4 λz=>absurd (key.mp z).2 (by show¬(fA w0).length <= 3;omega)
        · rw [if_neg (by rw [decide_eq_false ⋯];decide)]
          subst hN;symm;have h3:=h3 (key.mpr ⟨by omega,by show(fA w0).length <= 3;omega⟩)
          unfold iA at h3;rw [List.map_map]at h3;exact h3
noncomputable def KA(z:Str) (Q:B -> Prop):Prop:=(z = "none" -> ∀b,(b = .own [] \/ b = .sh (.lst [])) -> Q b) /\ (z ≠ "none" -> eP z = false -> Q (.sh (.str "text"))) /\ (z ≠ "none" -> eP z = true -> fM (fK z) -> ∀b,(b = .own ((fK z).map iy) \/ b = .sh (iA (fK z))) -> Q b) /\ (z ≠ "none" -> eP z = true -> ¬fM (fK z) -> Q (.sh (.str "points")))
noncomputable def jm:b7:=λds Q=>∃z,ds = [.str z] /\ Bs z /\ KA z Q
theorem E8(ds:List D) (Q:B -> Prop) (h:jm ds Q):wY fm gY {nx:=λ_=>Q (.sh .bt),rt:=λb _=>Q b} (a4 tO.length ds):=by
  obtain⟨z,rfl,hb,h1,h2,h3,h4⟩:=h;unfold wY;refine au λN hN=>?_;symm;subst hN;refine au λN hN=>?_;symm;have fin:∀b t,(b = .own [] \/ (∃d,b = .sh d) \/ ∃xs,b = .own xs) -> Q b -> N [some (B.sh (D.str z)),some b,none,t]:=λb t qw q=>by
    subst hN;rcases qw with rfl | ⟨d,rfl⟩ | ⟨xs,rfl⟩
    all_goals (symm;exact q)
  show fm [D.str z] _ _;refine⟨z,rfl,hb,λe b qw=>?_,λe ho=>?_,λe ho hk b qw=>?_,λe ho hk=>?_⟩
  · have q:=h1 e b qw
    rcases qw with rfl | rfl
    · exact fin _ _ (.inl rfl) q
    · exact fin _ _ (.inr (.inl ⟨_,rfl⟩)) q
  · refine⟨⟨by decide,rfl⟩,?_⟩
    refine⟨Str.ofString "NoText",rfl,by decide,?_⟩
    symm;rw [show px (Str.ofString "NoText") = ([false,false,false,false,false,false,false,true,false,false,false]:List Bool).map D.bl from rfl]
    refine bK D.bl (λb:Bool=>D.int (if b = true then 1 else 0)) _ (λb qw A ha=>?_) (by rw [sz];decide) ?_
    · walk_at "vg"
      symm;exact ha
    refine⟨rfl,⟨rfl,rfl⟩,(if_pos rfl).mpr ⟨by decide,bg (n:=0) rfl rfl ?_⟩⟩
    dsimp only;refine bg (n:=7) rfl rfl ?_;dsimp only;refine⟨by unfold fQ;decide,bg (n:=2) rfl rfl ?_⟩
    exact fin _ _ (.inr (.inl ⟨_,rfl⟩)) (h2 e ho)
  · have q:=h3 e ho hk b qw
    rcases qw with rfl | rfl
    · exact fin _ _ (.inr (.inr ⟨_,rfl⟩)) q
    · exact fin _ _ (.inr (.inl ⟨_,rfl⟩)) q
  · refine⟨⟨by decide,rfl⟩,?_⟩
    refine⟨Str.ofString "NoPoints",rfl,by decide,?_⟩
    symm;rw [show px (Str.ofString "NoPoints") = ([true,false,false,false,false,false,false,false,false,false,false]:List Bool).map D.bl from rfl]
    refine bK D.bl (λb:Bool=>D.int (if b = true then 1 else 0)) _ (λb qw A ha=>?_) (by rw [sz];decide) ?_
    · walk_at "vg"
      symm;exact ha
    refine⟨rfl,⟨rfl,rfl⟩,(if_pos rfl).mpr ⟨by decide,bg (n:=0) rfl rfl ?_⟩⟩
    dsimp only;refine bg (n:=7) rfl rfl ?_;dsimp only;refine⟨by unfold fQ;decide,bg (n:=1) rfl rfl ?_⟩
    exact fin _ _ (.inr (.inl ⟨_,rfl⟩)) (h4 e ho hk)
theorem zm{z:Str} (h:Bs z):yI 2 (iA (fK z)) = true:=by
  have hw:=j7 h;unfold iA fK;rw [cF];show(decide (_ <= 1000000) && _) = true;rw [Bool.and_eq_true];refine⟨decide_eq_true (by rw [List.length_map,List.length_map];omega),List.all_eq_true.mpr λd hd=>?_⟩
  rw [List.map_map]at hd;obtain⟨w,yh,rfl⟩:=List.mem_map.mp hd;have hl:=split_le (c:=44) (cO h.1 yh);show(decide (_ <= 1000000) && _) = true;rw [Bool.and_eq_true];refine⟨decide_eq_true ?_,List.all_eq_true.mpr λd hd=>?_⟩
  · unfold fA
    rw [List.length_map,List.length_map,c6];omega
  · obtain⟨i,_,rfl⟩:=List.mem_map.mp hd
    exact yJ 0 i
noncomputable def RD(x:D) (b:B):Prop:=b = .sh x \/ ∃xs,x = .lst xs /\ b = .own xs
noncomputable def fE:b7:=λds Q=>∃z,ds = [.str z] /\ Bs z /\ Q (.sh (.bl true))
theorem vS(ds:List D) (Q:B -> Prop) (h:fE ds Q):wO jR (cI 3) jm {nx:=λ_=>Q (.sh .bt),rt:=λb _=>Q b} (a4 tG.length ds):=by
  obtain⟨z,rfl,hb,h⟩:=h;unfold wO;refine au λN hN=>?_;symm;have go:∀x b0,RD x b0 -> yI 2 x = true -> (∀K:B -> Prop,(∀b,RD x b -> K b) -> KA z K) -> N [some (B.sh (D.str z)),some b0]:=λx b0 hr hx T=>by
    subst hN;rcases hr with rfl | ⟨Tx,rfl,rfl⟩
    all_goals
      symm;refine⟨z,rfl,hb,T _ λb hr=>?_⟩;rcases hr with rfl | ⟨xs,e,rfl⟩
      · symm
        refine⟨_,rfl,hx,?_⟩;symm;refine⟨z,rfl,hb,T _ λb hr=>?_⟩;rcases hr with rfl | ⟨xs,e,rfl⟩
        · symm
          refine⟨_,rfl,hx,?_⟩;symm;exact h
        · symm
          rw [<- e];refine⟨_,rfl,hx,?_⟩;symm;exact h
      · symm
        rw [<- e];refine⟨_,rfl,hx,?_⟩;symm;refine⟨z,rfl,hb,T _ λb hr=>?_⟩;rcases hr with rfl | ⟨xs,e,rfl⟩
        · symm
          refine⟨_,rfl,hx,?_⟩;symm;exact h
        · symm
          rw [<- e];refine⟨_,rfl,hx,?_⟩;symm;exact h
  show jR [D.str z] _;refine⟨z,rfl,hb,λe=>?_,λe ho=>?_,λe ho hk=>?_,λe ho hk=>?_⟩
  · exact go (.lst []) (.own []) (.inr ⟨[],rfl,rfl⟩) rfl λK hK=>⟨λ_ b qw=>hK b (qw.elim (λh=>.inr ⟨[],rfl,h⟩) .inl),λn=>absurd e n,λn=>absurd e n,λn=>absurd e n⟩
  · exact go (.str "text") _ (.inl rfl) (by decide +kernel) λK hK=>⟨λn=>absurd n e,λ_ _=>hK _ (.inl rfl),(λ_ h2=>by rw [ho]at h2;cases h2),(λ_ h2=>by rw [ho]at h2;cases h2)⟩
  · exact go (iA (fK z)) _ (.inl rfl) (zm hb) λK hK=>⟨λn=>absurd n e,(λ_ h2=>by rw [ho]at h2;cases h2),λ_ _ _ b qw=>hK b (qw.elim (λh=>.inr ⟨_,rfl,h⟩) .inl),λ_ _ h2=>absurd hk h2⟩
  · exact go (.str "points") _ (.inl rfl) (by decide +kernel) λK hK=>⟨λn=>absurd n e,(λ_ h2=>by rw [ho]at h2;cases h2),λ_ _ h2=>absurd h2 hk,λ_ _ _=>hK _ (.inl rfl)⟩
theorem pF{z:Str} {i:Int} {Q:D -> Prop} (h0:0 <= i) (h1:i<z.length) (hz:z.length <= sizeLine) (q:∀c ∈ z.cps.toList,Q (.str ⟨#[c]⟩)):xv (.str z) (.int i) Q:=by
  obtain⟨n,rfl⟩:=Int.eq_ofNat_of_zero_le h0;have hn:n<z.cps.toList.length:=by rw [<- len_list];omega
  refine⟨hz,?_⟩;rw [Vc.lE (List.getElem?_eq_getElem hn)];exact q _ (List.getElem_mem hn)
theorem jB{a b:D} {i:Int} {Q:D -> Prop} (h0:0 <= i) (h1:i<2) (qa:Q a) (qb:Q b):xv (.lst [a,b]) (.int i) Q:=by
  by_cases e:i = 0
  · subst e;exact bg (n:=0) rfl rfl qa
  · have:i = 1:=by omega
    subst this;exact bg (n:=1) rfl rfl qb
noncomputable def o4:Str:=Str.ofString " !\"#$&'()*+,-./0123456789:;<=>?@ABCDEFGHIJKLMNOP" ++ Str.ofString "QRSTUVWXYZ[\\]^_`abcdefghijklmnopqrstuvwxyz{|}~\n"
theorem xj:o4.length = 95:=by decide +kernel
theorem xi:∀c ∈ o4.cps.toList,c<128:=by
  have:(o4.cps.toList.all λc=>decide (c<128)) = true:=by decide +kernel
  exactλc hc=>of_decide_eq_true (List.all_eq_true.mp this c hc)
theorem zz{c:Nat} (h:c<128):h7 1 ⟨#[c]⟩:=⟨λe he=>by
  have he:e ∈ [c]:=he;rw [List.mem_singleton.mp he];exact h,Nat.le_refl 1⟩
noncomputable def jl:b7:=λds Q=>∃(c:Int) (k:Nat),ds = [.int c,.int (k:Int)] /\ k <= 900 /\ ∀z,h7 1 z -> Q (.sh (.str z))
theorem E6(ds:List D) (Q:B -> Prop) (h:jl ds Q):wV c5 {nx:=λ_=>Q (.sh .bt),rt:=λb _=>Q b} (a4 tK.length ds):=by
  obtain⟨c,k,rfl,hk,h⟩:=h;unfold wV;refine au λN hN=>?_;symm;subst hN;refine au λN hN=>?_;symm;refine⟨by decide +kernel,?_⟩
  show N [_,_,some (B.sh (D.str o4)),none];have w1:=xj;have w2:=xi;generalize o4 = w at w1 w2;subst hN;refine au λN hN=>?_;symm;refine⟨by decide,⟨by omega,by omega⟩,?_⟩
  symm;have fin:∀m:Str,1 <= m.length -> m.length <= 100 -> (∀c ∈ m.cps.toList,c<128) -> N [some (B.sh (D.int c)),some (B.sh (D.int k)),some (B.sh (D.str w)),some (B.sh (.str m))]:=λm m1 m2 m3=>by
    have hm:m.length <= sizeLine:=by rw [sz];omega
    subst hN;symm;refine⟨⟨by omega,by omega⟩,?_⟩
    symm;refine⟨hm,by omega,pF (Int.emod_nonneg _ ⋯) (Int.emod_lt_of_pos _ ⋯) hm λe he=>?_⟩
    exact h _ (zz (m3 e he))
  refine⟨by decide,jB (Int.emod_nonneg _ ∅) (Int.emod_lt_of_pos _ ∅) (fin _ (by decide +kernel) (by decide +kernel) ?_) (fin w ⋯ ⋯ w2)⟩
  have:((Str.ofString "0019 --,,").cps.toList.all λc=>decide (c < 128)) = true:=by decide +kernel
  exactλc hc=>of_decide_eq_true (List.all_eq_true.mp this c hc)
noncomputable def Tb(L W:Nat) (z:Str):Prop:=h7 L z /\ z.cps.toList.count 32 <= W
theorem app_list(a b:Str):(a ++ b).cps.toList = a.cps.toList ++ b.cps.toList:=by
  show(a.cps ++ b.cps).toList = _;simp
theorem jb(a b:Str):(a ++ b).length = a.length+b.length:=by
  rw [len_list,app_list,List.length_append,<- len_list,<- len_list]
theorem vH(n:Int) (h:n = 15 \/ n = 16):MulOk (Str.ofString "9") n:=by
  rcases h with rfl | rfl
  all_goals exact⟨by decide,λ_ _=>by decide +kernel,λ_ _=>by decide +kernel⟩
theorem jQ{z:Str} {k:Nat} (h:k <= z.length):(Txt.slice z (some ((k:Int)+1)) none).cps.toList = z.cps.toList.drop (k+1):=by
  by_cases hk:k+1 <= z.length
  · exact e9 (k:=k+1) hk
  · obtain rfl:k = z.length:=by omega
    have e:Builtin.Str.strSliceIndices (some ((z.length:Int)+1)) none 1 z.length = Builtin.Str.strSliceIndices (some (z.length:Int)) none 1 z.length:=by
      have a:¬((z.length:Int)+1<0):=by omega
      have b:¬((z.length:Int)<0):=by omega
      have d:max (0:Int) (min ((z.length:Int)+1) z.length) = max 0 (min (z.length:Int) z.length):=by omega
      simp only [Builtin.Str.strSliceIndices,a,b,if_false,d,show(1:Int)>0 by decide,if_true]
    have e2:Txt.slice z (some ((z.length:Int)+1)) none = Txt.slice z (some (z.length:Int)) none:=by unfold Txt.slice;rw [e]
    rw [e2,e9 (Nat.le_refl _),List.drop_of_length_le (by rw [<- len_list];exact Nat.le_refl _),List.drop_of_length_le (by rw [<- len_list];exact Nat.le_succ _)]
theorem Tb.sub{L W:Nat} {z y:Str} (h:Tb L W z) (s:y.cps.toList.Sublist z.cps.toList):Tb L W y:=
  ⟨⟨λc hc=>h.1.1 c (s.subset hc),by rw [len_list];exact Nat.le_trans s.length_le (by rw [<- len_list];exact h.1.2)⟩,Nat.le_trans (s.count_le 32) h.2⟩
theorem Tb.le{L W L2 W2:Nat} {z:Str} (h:Tb L W z) (a:L <= L2) (b:W <= W2):Tb L2 W2 z:=⟨h.1.le a,Nat.le_trans h.2 b⟩
theorem Tb.between{L W i j:Nat} {z a s b:Str} (h:Tb L W z) (hs:h7 1 s) (ha:a.cps.toList = z.cps.toList.take i) (hb:b.cps.toList = z.cps.toList.drop j) (Tf:i <= j):Tb (L+1) (W+1) (a ++ s ++ b):=by
  have ab:Tb L W (a ++ b):=h.sub (by
    rw [app_list,ha,hb];have:=List.take_append_drop i z.cps.toList
    conv=>rhs;rw [<- this]
    refine List.Sublist.append (List.Sublist.refl _) ?_;rw [show j = i+(j-i)by omega,<- List.drop_drop]
    exact List.drop_sublist _ _)
  have l:=ab.1.2;rw [jb]at l;have c:=ab.2;rw [app_list,List.count_append]at c;have s1:=hs.2;have s2:s.cps.toList.count 32 <= 1:=Nat.le_trans List.count_le_length (by rw [<- len_list];exact s1)
  refine⟨⟨λe he=>?_,by rw [jb,jb];omega⟩,by rw [app_list,app_list,List.count_append,List.count_append];omega⟩
  rw [app_list,app_list]at he;rcases List.mem_append.mp he with he | he
  · rcases List.mem_append.mp he with he | he
    · exact ab.1.1 e (by rw [app_list];exact List.mem_append_left _ he)
    · exact hs.1 e he
  · exact ab.1.1 e (by rw [app_list];exact List.mem_append_right _ he)
noncomputable def sT(vs:List Str):Nat:=(vs.map (·.length)).sum+vs.length
theorem cy(v:Str) (vs:List Str):sT (v :: vs) = v.length+1+sT vs:=by
  unfold sT;rw [List.map_cons,List.sum_cons,List.length_cons];omega
theorem pS(a b:List Str):sT (a ++ b) = sT a+sT b:=by
  unfold sT;rw [List.map_append,List.sum_append,List.length_append];omega
theorem mK:∀ {vs:List Str},vs ≠ [] -> (jn 32 (vs.map λt=>t.cps.toList)).length+1 = sT vs
  | [],h=>absurd rfl h
  | [x],_=>by
    show x.cps.toList.length+1 = _;rw [cy,len_list];rfl
  | x :: y :: r,_=>by
    have ih:=mK (vs:=y :: r) (by simp)
    show(x.cps.toList ++ 32 :: jn 32 ((y :: r).map λt=>t.cps.toList)).length+1 = _;rw [cy,<- ih,List.length_append,List.length_cons,len_list];omega
theorem mL:∀ {vs:List Str} {i:Nat} {w:Str} (v:Str),vs[i]? = some w -> sT (vs.set i v)+w.length = sT vs+v.length
  | x :: vs,0,w,v,h=>by
    obtain rfl:x = w:=Option.some.inj h;rw [List.set_cons_zero,cy,cy];omega
  | x :: vs,i+1,w,v,h=>by
    have:=mL (vs:=vs) (i:=i) v (by simpa using h)
    rw [List.set_cons_succ,cy,cy];omega
theorem pT:∀ {vs:List Str} {v:Str},v ∈ vs -> v.length+1 <= sT vs
  | x :: vs,v,h=>by
    rw [cy];rcases List.mem_cons.mp h with rfl | h
    · omega
    · have:=pT h;omega
theorem jN{vs:List Str} {k:Nat}:sT (vs.take k)+sT (vs.drop k) = sT vs:=by rw [<- pS,List.take_append_drop]
theorem wx{vs:List Str} {k:Nat}:sT (vs.eraseIdx k) <= sT vs:=by
  rw [List.eraseIdx_eq_take_drop_succ,pS];have h1:=jN (vs:=vs) (k:=k);have h2:=jN (vs:=vs.drop k) (k:=1);rw [List.drop_drop]at h2;omega
noncomputable def Wd(B:Nat) (vs:List Str):Prop:=∀v ∈ vs,h7 B v /\ 32 ∉ v.cps.toList
theorem Wd.tb{B L W:Nat} {vs:List Str} (h:Wd B vs) (h1:sT vs <= L+1) (h2:vs.length <= W+1):Tb L W (Txt.join ⟨#[32]⟩ vs):=by
  have e:(Txt.join ⟨#[32]⟩ vs).cps.toList = jn 32 (vs.map λt=>t.cps.toList):=by rw [show Txt.join ⟨#[32]⟩ vs = Str.join ⟨#[32]⟩ vs from StrLaws.glued_eq_join _ vs,qG]
  refine⟨⟨λc hc=>?_,?_⟩,?_⟩
  · rw [e]at hc
    clear e h1 h2
    induction vs with
    | nil=>cases hc
    | cons v vs ih =>
      cases vs with
      | nil=>exact(h v (.head _)).1.1 c hc
      | cons y r =>
        have hc:c ∈ v.cps.toList ++ 32 :: jn 32 ((y :: r).map λt=>t.cps.toList):=hc;rcases List.mem_append.mp hc with hc | hc
        · exact(h v (.head _)).1.1 c hc
        · rcases List.mem_cons.mp hc with rfl | hc
          · decide
          · exact ih (λx hx=>h x (.tail _ hx)) hc
  · rw [len_list,e]
    by_cases hv:vs = []
    · subst hv;exact Nat.zero_le _
    · have:=mK hv;omega
  · rw [e]
    by_cases hv:vs = []
    · subst hv;exact Nat.zero_le _
    · have:=pG (c:=32) (xs:=vs.map λt=>t.cps.toList) (λz=>hv (List.map_eq_nil_iff.mp z)) (λx hx=>by
        obtain⟨t,ht,rfl⟩:=List.mem_map.mp hx;exact(h t ht).2)
      rw [List.length_map]at this;omega
theorem mB(vs:List Str):(vs.map D.str).map wD = vs:=by rw [List.map_map];exact List.map_id' vs
theorem ins_map(vs:List Str) (k:Nat) (w:Str):(vs.map D.str).take k ++ D.str w :: (vs.map D.str).drop k = (vs.take k ++ w :: vs.drop k).map D.str:=by
  rw [List.map_append,List.map_cons,List.map_take,List.map_drop]
theorem AJ(vs:List Str) (k:Nat) (w:Str):sT (vs.take k ++ w :: vs.drop k) = sT vs+(w.length+1):=by
  rw [pS,cy];have:=jN (vs:=vs) (k:=k);omega
theorem qC(vs:List Str) (k:Nat) (w:Str):(vs.take k ++ w :: vs.drop k).length = vs.length+1:=by
  have:=congrArg List.length (List.take_append_drop k vs);rw [List.length_append]at this ⊢;rw [List.length_cons];omega
theorem qD{vs:List Str} {k:Nat} {w v:Str} {P:Prop} (h:v ∈ vs.take k ++ w :: vs.drop k) (h1:v ∈ vs -> P) (h2:v = w -> P):P:=by
  rcases List.mem_append.mp h with h | h
  · exact h1 (List.mem_of_mem_take h)
  · rcases List.mem_cons.mp h with h | h
    · exact h2 h
    · exact h1 (List.mem_of_mem_drop h)
theorem mm{n k:Nat} (h:k<n):qF n (k:Int) = some k:=by
  unfold qF;simp;omega
noncomputable def vN:List Str:=[Str.ofString "0",Str.ofString "-0",Str.ofString "0,0",Str.ofString "00",Str.ofString "0,01",Str.ofString "-01",Str.ofString "+1",Str.ofString "",Str.ofString "-",Str.ofString "--1",Str.ofString ",",Str.ofString "1,",Str.ofString ",1",Str.ofString "1,,2",Str.ofString "none",Str.ofString "1_0",Str.ofString "1.",Str.ofString "x",Str.ofString "1,2,3",Str.ofString "1,2,3,4",Str.ofString "0,-0",Txt.mul (Str.ofString "9") 15,Txt.mul (Str.ofString "9") 16,Str.ofString "-" ++ Txt.mul (Str.ofString "9") 15,Str.ofString "1,-" ++ Txt.mul (Str.ofString "9") 16,Str.ofString "1,2,x",Str.ofString "0,0,0,0,0"]
theorem yF:vN.length = 27:=rfl
theorem Ew:∀o ∈ vN,Tb 20 0 o:=by
  have:(vN.all λo=>(o.cps.toList.all λc=>decide (c<128)) && decide (o.length <= 20) && decide (o.cps.toList.count 32 <= 0)) = true:=by decide +kernel
  intro o ho;have h:=List.all_eq_true.mp this o ho;rw [Bool.and_eq_true,Bool.and_eq_true]at h;exact⟨⟨λc hc=>of_decide_eq_true (List.all_eq_true.mp h.1.1 c hc),of_decide_eq_true h.1.2⟩,of_decide_eq_true h.2⟩
noncomputable def fF:b7:=λds Q=>∃(c:Int) (k:Nat) (z:Str) (L W:Nat),ds = [.int c,.int (k:Int),.str z] /\ k <= 500 /\ Tb L W z /\ L <= 400000 /\ ∀y,Tb (2*L+40) (W+1) y -> Q (.sh (.str y))
theorem vT(ds:List D) (Q:B -> Prop) (h:fF ds Q):GO c5 jl {nx:=λ_=>Q (.sh .bt),rt:=λb _=>Q b} (a4 Bi.length ds):=by
  obtain⟨c,k,z,L,W,rfl,hk,hz,hL,h⟩:=h;have zl:=hz.1.2;have Jy:z.length <= sizeLine:=by rw [sz];omega
  unfold GO;refine au λN hN=>?_;symm;refine⟨⟨by omega,by omega⟩,?_⟩
  symm;refine⟨Jy,by omega,?_⟩
  obtain⟨at',e1,e2⟩:∃n:Nat,bp c k%((z.length:Int)+1) = n /\ n <= z.length:=by
    have h0:=Int.emod_nonneg (bp c k) (show(z.length:Int)+1 ≠ 0 by omega)
    have h1:=Int.emod_lt_of_pos (bp c k) (show(0:Int)<(z.length:Int)+1 by omega)
    exact⟨(bp c k%((z.length:Int)+1)).toNat,by omega,by omega⟩
  rw [e1];subst hN;refine au λN hN=>?_;symm;refine⟨⟨by omega,by omega⟩,?_⟩
  symm;refine⟨by decide,?_⟩
  have g0:=Int.emod_nonneg (bp c (k+1)) (show(8:Int) ≠ 0 by decide)
  have g1:=Int.emod_lt_of_pos (bp c (k+1)) (show(0:Int)<8 by decide)
  generalize bp c (k+1)%8 = kind at g0 g1;subst hN;refine au λN hN=>?_;symm;rw [cF];have hl:=split_le (c:=32) hz.1;have NP:=split_len 32 z;have PF:=jU 32 z;have hW:=hz.2;refine⟨⟨_,rfl⟩,⟨by decide +kernel,by rw [sz];omega,by rw [sz];omega⟩,?_⟩
  have o7:∀t ∈ Txt.split z ⟨#[32]⟩,h7 L t /\ 32 ∉ t.cps.toList:=λt ht=>⟨cO hz.1 ht,StrLaws.split_free z 32 t ht⟩;generalize Txt.split z ⟨#[32]⟩ = ws at hl NP o7 PF;have dk:1 <= ws.length:=by omega
  subst hN;refine au λN hN=>?_;symm;refine⟨⟨by omega,by omega⟩,?_⟩
  symm;rw [List.length_map];obtain⟨one,o1,o2⟩:∃n:Nat,bp c (k+2)%(ws.length:Int) = n /\ n<ws.length:=by
    have h0:=Int.emod_nonneg (bp c (k+2)) (show(ws.length:Int) ≠ 0 by omega)
    have h1:=Int.emod_lt_of_pos (bp c (k+2)) (show(0:Int)<(ws.length:Int)by omega)
    exact⟨(bp c (k+2)%(ws.length:Int)).toNat,by omega,by omega⟩
  refine⟨by omega,?_⟩
  rw [o1];subst hN;refine au λN hN=>?_;symm;refine⟨⟨by omega,by omega⟩,?_⟩
  symm;rw [List.length_map];obtain⟨xx,p1,p2⟩:∃n:Nat,bp c (k+3)%(ws.length:Int) = n /\ n<ws.length:=by
    have h0:=Int.emod_nonneg (bp c (k+3)) (show(ws.length:Int) ≠ 0 by omega)
    have h1:=Int.emod_lt_of_pos (bp c (k+3)) (show(0:Int)<(ws.length:Int)by omega)
    exact⟨(bp c (k+3)%(ws.length:Int)).toNat,by omega,by omega⟩
  refine⟨by omega,?_⟩
  rw [p1];subst hN;refine au λN hN=>?_;symm;subst hN;refine⟨by decide,?_⟩
  refine au λN hN=>?_;symm;refine⟨vH 15 ∅,vH 16 ∅,vH 15 ∅,by decide +kernel,vH 16 ∅,by decide +kernel,by decide,by decide,?_⟩
  subst hN;refine au λN hN=>?_;symm;refine⟨by decide,by decide,?_⟩
  show N [_,_,_,_,_,_,_,_,some (B.own (vN.map D.str))];have od:=Ew;have ol:=yF;generalize vN = os at od ol;subst hN
  -- a sign left out
  refine au λN hN=>?_;symm;refine⟨⟨rfl,rfl⟩,?_⟩;have sl:∀lo hi,(Txt.slice z lo hi).length <= z.length:=λlo hi=>Txt.slice_le z lo hi
  by_cases k0:kind = 0
  · subst k0
    refine(if_pos rfl).mpr ⟨Jy,Jy,?_,h _ ?_⟩
    · have:=sl none (some at')
      have:=sl (some (at'+1)) none;rw [sz];omega
    · refine(hz.sub (y:=_) ?_).le ⋯ ⋯
      rw [app_list,gW e2,jQ e2,<- List.eraseIdx_eq_take_drop_succ];exact List.eraseIdx_sublist _ _
  rw [show cT (.int kind) (.int 0) = false by simpa [cT]using k0]
  refine(if_neg ∅).mpr ?_
  subst hN
  -- a sign put in,or exchanged
  refine au λN hN=>?_;symm
  by_cases k3:kind<3
  · rw [if_pos k3]
    refine⟨Jy,?_⟩;refine⟨c,k+4,rfl,by omega,λsg hs=>?_⟩
    symm;have s1:=hs.2;have l1:=sl none (some at');have l2:=sl (some (at'+kind-1)) none;refine⟨by rw [sz];omega,Jy,by rw [jb,sz];omega,h _ ?_⟩
    refine Tb.le ?_ (show L+1 <= 2*L+40 by omega) (Nat.le_refl _)
    rcases(show kind = 1 \/ kind = 2 by omega)with rfl | rfl
    · refine hz.between hs (gW e2) (j:=at') ?_ (Nat.le_refl _)
      rw [show(at':Int)+1-1 = at' by omega]
      exact e9 e2
    · refine hz.between hs (gW e2) (j:=at'+1) ?_ (Nat.le_succ _)
      rw [show(at':Int)+2-1 = at'+1 by omega]
      exact jQ e2
  rw [if_neg k3];subst hN
  -- words
  refine au λN hN=>?_;have yi:Wd L ws:=o7;have hT:sT ws = z.length+1:=by
    have:=mK (vs:=ws) (by intro e;rw [e]at dk;exact absurd dk ∅)
    rw [PF]at this;rw [<- this,len_list]
  have fin:∀vs:List Str,Wd (L+20) vs -> sT vs <= 2*L+41 -> vs.length <= ws.length+1 -> ∀os2,N [some (B.sh (D.int c)),some (B.sh (D.int k)),some (B.sh (D.str z)),some (B.sh (D.int at')),some (B.sh (D.int kind)),some (B.own (vs.map D.str)),some (B.sh (D.int one)),some (B.sh (D.int xx)),os2]:=by
    intro vs v1 v2 v3 os2;subst hN;symm;rw [mB,cF];refine⟨⟨_,rfl⟩,⟨by rw [List.all_map];exact List.all_eq_true.mpr λ_ _=>rfl,?_⟩,h _ (v1.tb ⋯ ⋯)⟩
    unfold joinFits;have:(⟨#[32]⟩:Str).length = 1:=rfl;rw [this,Nat.mul_one];have:(vs.map (·.length)).sum+vs.length <= 2*L+41:=v2
    omega
  have mem:∀ {i:Nat} {w:Str},ws[i]? = some w -> h7 (L+20) w /\ 32 ∉ w.cps.toList:=λhi=>⟨(yi _ (List.mem_of_getElem? hi)).1.le ⋯,(yi _ (List.mem_of_getElem? hi)).2⟩
  have L4:Wd (L+20) ws:=λv hv=>⟨(yi v hv).1.le ⋯,(yi v hv).2⟩
  have QD:∀o ∈ os,h7 (L+20) o /\ 32 ∉ o.cps.toList:=λo ho=>⟨(od o ho).1.le ⋯,λhc=>by have:=(od o ho).2;have:=List.count_pos_iff.mpr hc;omega⟩
  symm;refine⟨⟨rfl,rfl⟩,?_⟩
  by_cases JH:kind = 3
  · rw [show cT (.int kind) (.int 3) = true by simp [cT,JH]]
    refine(if_pos rfl).mpr ⟨⟨_,rfl⟩,by omega,by rw [List.length_map];omega,by omega,λe he=>?_⟩
    rw [Int.toNat_natCast,show(ws.map D.str).eraseIdx one = (ws.eraseIdx one).map D.str by rw [List.eraseIdx_eq_take_drop_succ,List.eraseIdx_eq_take_drop_succ,List.map_append,List.map_take,List.map_drop]]
    exact fin _ (λv hv=>L4 v (List.mem_of_mem_eraseIdx hv)) (Nat.le_trans wx ⋯) (by rw [List.length_eraseIdx];split<;>omega) _
  rw [show cT (.int kind) (.int 3) = false by simpa [cT]using JH]
  refine(if_neg ∅).mpr ?_
  refine⟨⟨rfl,rfl⟩,?_⟩;have a1:ws[one]? = some ws[one]:=List.getElem?_eq_getElem o2;have a2:ws[xx]? = some ws[xx]:=List.getElem?_eq_getElem p2;generalize ws[one] = w1 at a1;generalize ws[xx] = w2 at a2;have m1:=pT (List.mem_of_getElem? a1);have m2:=pT (List.mem_of_getElem? a2)
  by_cases k4:kind = 4
  · rw [show cT (.int kind) (.int 4) = true by simp [cT,k4]]
    refine(if_pos rfl).mpr ⟨⟨_,rfl⟩,?_⟩;refine bg (n:=one) rfl (by rw [List.getElem?_map,a1];rfl) ⟨by omega,by omega,by rw [List.length_map,sz];omega,?_⟩
    rw [Int.toNat_natCast,ins_map];exact fin _ (λv hv=>qD hv (L4 v) λe=>e ▸ mem a1) (by rw [AJ];omega) (by rw [qC];exact Nat.le_refl _) _
  rw [show cT (.int kind) (.int 4) = false by simpa [cT]using k4]
  refine(if_neg ∅).mpr ?_
  refine⟨⟨rfl,rfl⟩,?_⟩;have Qs:∀i:Int,0 <= i -> i<27 -> ∀Q2:D -> Prop,(∀o ∈ os,Q2 (.str o)) -> xv (.lst (os.map D.str)) (.int i) Q2:=λi h0 h1 Q2 q=>by
    obtain⟨n,rfl⟩:=Int.eq_ofNat_of_zero_le h0;have hn:n<os.length:=by omega
    exact bg (n:=n) rfl (by rw [List.getElem?_map,List.getElem?_eq_getElem hn];rfl) (q _ (List.getElem_mem hn))
  have g6:=Int.emod_nonneg (bp c (k+6)) (show(27:Int) ≠ 0 by decide)
  have g7:=Int.emod_lt_of_pos (bp c (k+6)) (show(0:Int)<27 by decide)
  by_cases k5:kind = 5
  · rw [show cT (.int kind) (.int 5) = true by simp [cT,k5]]
    refine(if_pos rfl).mpr ?_;refine⟨⟨by omega,by omega⟩,?_⟩
    symm;rw [List.length_map,ol];refine⟨by decide,Qs _ g6 g7 _ λo ho=>⟨⟨_,rfl⟩,?_⟩⟩
    have Sj:=(od o ho).1.2;have hs:=mL (i:=one) o a1;rw [mm (by rw [List.length_map];exact o2)]
    show N [_,_,_,_,_,some (B.own ((ws.map D.str).set one (D.str o))),_,_,_];rw [<- List.map_set];exact fin _ (λv hv=>by
      rcases List.mem_or_eq_of_mem_set hv with hv | rfl
      · exact L4 v hv
      · exact QD _ ho) ⋯ (by rw [List.length_set];omega) _
  rw [show cT (.int kind) (.int 5) = false by simpa [cT]using k5]
  refine(if_neg ∅).mpr ?_
  refine⟨⟨rfl,rfl⟩,?_⟩
  by_cases k6:kind = 6
  · rw [show cT (.int kind) (.int 6) = true by simp [cT,k6]]
    refine(if_pos rfl).mpr ⟨⟨_,rfl⟩,?_⟩;refine⟨⟨by omega,by omega⟩,?_⟩
    symm;rw [List.length_map,ol];refine⟨by decide,Qs _ g6 g7 _ λo ho=>⟨by omega,by omega,by rw [List.length_map,sz];omega,?_⟩⟩
    have Sj:=(od o ho).1.2;rw [Int.toNat_natCast,ins_map];exact fin _ (λv hv=>qD hv (L4 v) λe=>e ▸ QD o ho) (by rw [AJ];omega) (by rw [qC];exact Nat.le_refl _) _
  rw [show cT (.int kind) (.int 6) = false by simpa [cT]using k6]
  refine(if_neg ∅).mpr ?_
  refine bg (n:=xx) rfl (by rw [List.getElem?_map,a2];rfl) (bg (n:=one) rfl (by rw [List.getElem?_map,a1];rfl) ⟨by decide,⟨_,rfl⟩,?_⟩)
  rw [mm (by rw [List.length_map];exact o2)]
  refine⟨⟨_,rfl⟩,?_⟩;rw [mm (by rw [List.length_set,List.length_map];exact p2)]
  show N [_,_,_,_,_,some (B.own (((ws.map D.str).set one (D.str w2)).set xx (D.str w1))),_,_,_];rw [<- List.map_set,<- List.map_set];have b1:=mL (i:=one) w2 a1;have b2:∃x,(ws.set one w2)[xx]? = some x /\ (x = w2 \/ one = xx):=by
    by_cases e:one = xx
    · exact⟨w2,by rw [<- e,List.getElem?_set_self o2],.inl rfl⟩
    · exact⟨w2,by rw [List.getElem?_set_ne e];exact a2,.inl rfl⟩
  obtain⟨x,b3,b4⟩:=b2;have b5:=mL (i:=xx) w1 b3;have bx:x.length = w2.length:=by
    rcases b4 with rfl | rfl
    · rfl
    · rw [List.getElem?_set_self o2]at b3;cases b3;rfl
  exact fin _ (λv hv=>by
    rcases List.mem_or_eq_of_mem_set hv with hv | rfl
    · rcases List.mem_or_eq_of_mem_set hv with hv | rfl
      · exact L4 v hv
      · exact mem a2
    · exact mem a1) ⋯ (by rw [List.length_set,List.length_set];omega) _
theorem fw(i:Int):∀c ∈ (xu i).cps.toList,c = 45 \/ (48 <= c /\ c <= 57):=by
  cases i with
  | ofNat m =>
    rw [show(xu (Int.ofNat m)).cps.toList = dg m from yj m]
    exactλc hc=>.inr (uC m c hc)
  | negSucc m =>
    rw [yk m];intro c hc;rcases List.mem_cons.mp hc with rfl | hc
    · exact .inl rfl
    · exact .inr (uC _ c hc)
theorem pH{k c:Nat}:∀ {xs:List (List Nat)},c ∈ jn k xs -> c = k \/ ∃x ∈ xs,c ∈ x
  | [y],h=>.inr ⟨y,.head _,h⟩
  | y :: y2 :: r,h=>by
    have h:c ∈ y ++ k :: jn k (y2 :: r):=h;rcases List.mem_append.mp h with h | h
    · exact .inr ⟨y,.head _,h⟩
    · rcases List.mem_cons.mp h with h | h
      · exact .inl h
      · rcases pH h with h | ⟨x,hx,h⟩
        · exact .inl h
        · exact .inr ⟨x,.tail _ hx,h⟩
theorem oK(c:Nat):∀ {vs:List Str},vs ≠ [] -> (jn c (vs.map λt=>t.cps.toList)).length+1 = sT vs
  | [],h=>absurd rfl h
  | [x],_=>by
    show x.cps.toList.length+1 = _;rw [cy,len_list];rfl
  | x :: y :: r,_=>by
    have ih:=oK c (vs:=y :: r) (by simp)
    show(x.cps.toList ++ c :: jn c ((y :: r).map λt=>t.cps.toList)).length+1 = _;rw [cy,<- ih,List.length_append,List.length_cons,len_list];omega
theorem qZ{B:Nat}:∀ {vs:List Str},Wd B vs -> sT vs <= vs.length*(B+1)
  | [],_=>Nat.zero_le _
  | v :: vs,h=>by
    have:=qZ (vs:=vs) λx hx=>h x (.tail _ hx);have h1:=(h v (.head _)).1.2;rw [cy,List.length_cons,Nat.succ_mul];omega
theorem jt{ps:List Str} (h:Wd 61 ps) (hl:ps.length <= 5):h7 400 (Txt.join ⟨#[44]⟩ ps) /\ 32 ∉ (Txt.join ⟨#[44]⟩ ps).cps.toList:=by
  have e:(Txt.join ⟨#[44]⟩ ps).cps.toList = jn 44 (ps.map λt=>t.cps.toList):=by rw [show Txt.join ⟨#[44]⟩ ps = Str.join ⟨#[44]⟩ ps from StrLaws.glued_eq_join _ ps,qG]
  refine⟨⟨λc hc=>?_,?_⟩,λhc=>?_⟩
  · rw [e]at hc
    rcases pH hc with rfl | ⟨x,hx,hc⟩
    · decide
    · obtain⟨t,ht,rfl⟩:=List.mem_map.mp hx
      exact(h t ht).1.1 c hc
  · rw [len_list,e]
    by_cases hv:ps = []
    · subst hv;exact Nat.zero_le _
    · have h1:=oK 44 hv
      have h2:=qZ h;have h3:ps.length*(61+1) <= 5*62:=Nat.mul_le_mul hl (Nat.le_refl _);omega
  · rw [e]at hc
    rcases pH hc with hc | ⟨x,hx,hc⟩
    · exact absurd hc ∅
    · obtain⟨t,ht,rfl⟩:=List.mem_map.mp hx
      exact(h t ht).2 hc
noncomputable def oN:List Str:=[Str.ofString "0",Str.ofString "-0",Str.ofString "07",Str.ofString "-",Str.ofString "",Str.ofString "x",Txt.mul (Str.ofString "9") 16,Str.ofString "-1"]
theorem zG:∀o ∈ oN,h7 61 o /\ 32 ∉ o.cps.toList:=by
  have:(oN.all λo=>(o.cps.toList.all λc=>decide (c<128)) && decide (o.length <= 61) && decide (o.cps.toList.count 32 = 0)) = true:=by decide +kernel
  intro o ho;have h:=List.all_eq_true.mp this o ho;rw [Bool.and_eq_true,Bool.and_eq_true]at h;exact⟨⟨λc hc=>of_decide_eq_true (List.all_eq_true.mp h.1.1 c hc),of_decide_eq_true h.1.2⟩,List.count_eq_zero.mp (of_decide_eq_true h.2)⟩
noncomputable def jh:b7:=λds Q=>∃c:Int,ds = [.int c] /\ ∀z,Tb 10000 10 z -> Q (.sh (.str z))
theorem E1(ds:List D) (Q:B -> Prop) (h:jh ds Q):wR c5 {nx:=λ_=>Q (.sh .bt),rt:=λb _=>Q b} (a4 tI.length ds):=by
  obtain⟨c,rfl,h⟩:=h;unfold wR;refine au λN hN=>?_;symm;refine⟨vH 16 ∅,by decide,?_⟩
  show N [_,some (B.own (oN.map D.str)),_,_,_,_,_,_,_];have sm:=zG;have sl:oN.length = 8:=rfl;generalize oN = ss at sm sl;subst hN;refine au λN hN=>?_;symm;refine⟨⟨by decide,by decide⟩,?_⟩
  symm;have c0:=Int.emod_nonneg (bp c 400) (show(5:Int) ≠ 0 by decide)
  have c1:=Int.emod_lt_of_pos (bp c 400) (show(0:Int)<5 by decide)
  generalize bp c 400%5 = cnt at c0 c1;refine⟨by decide,?_⟩
  subst hN;refine au λN hN=>?_;symm;subst hN;refine⟨by decide,?_⟩
  refine au λN hN=>?_;show dR _ _ _ _ _;generalize ht:bS (cP [] 5 _) _ = tb;symm;refine⟨⟨by decide,by decide⟩,?_⟩
  symm;refine⟨by decide,?_⟩
  obtain⟨m,em,hm⟩:∃m:Nat,1+bp c 401%8 = m /\ m <= 8:=by
    have h0:=Int.emod_nonneg (bp c 401) (show(8:Int) ≠ 0 by decide)
    have h1:=Int.emod_lt_of_pos (bp c 401) (show(0:Int)<8 by decide)
    exact⟨(1+bp c 401%8).toNat,by omega,by omega⟩
  rw [em,Int.toNat_natCast,eZ];refine⟨by omega,d5 (λi:Nat=>.int (0+(i:Nat))) (List.range m) (λi σ=>∃ws x4 x5 x6 x7 x8,σ = [some (.sh (.int c)),some (.own (ss.map D.str)),some (.sh (.int (1+cnt))),some (.own (ws.map D.str)),x4,x5,x6,x7,x8] /\ ws.length = i /\ Wd 400 ws) (λi k σ N2 hx hI Je=>?_) (λσ hI=>?_) ⟨[],none,none,none,none,none,rfl,rfl,λv hv=>by cases hv⟩⟩
  · obtain⟨rfl,hi⟩:=dP hx
    obtain⟨ws,x4,x5,x6,x7,x8,rfl,hw,yi⟩:=hI;walk_at "vg";subst ht;refine au λN3 pB=>?_;symm;refine⟨Nat.zero_le _,?_⟩;subst pB;refine au λN3 pB=>?_;show dR _ _ _ _ _;generalize Mw:bS (cP [] 7 _) _ = QA;symm;refine⟨⟨by decide,by decide⟩,?_⟩
    symm;have d0:=Int.emod_nonneg (bp c 402) (show(5:Int) ≠ 0 by decide)
    have d1:=Int.emod_lt_of_pos (bp c 402) (show(0:Int)<5 by decide)
    generalize bp c 402%5 = QP at d0 d1;refine⟨by decide,by decide,⟨by omega,by omega⟩,?_⟩
    symm;refine⟨by decide,⟨rfl,rfl⟩,?_⟩
    have inner:∀j:Int,1 <= j -> j <= 5 -> (-2 ^ 62 <= j /\ j<2 ^ 62) /\ md (fW 6) QA {nx:=N3,rt:=λb x=>Q b,bk:=N,ct:=N2} (sJ 0 j.toNat) [some (B.sh (D.int c)),some (B.own (ss.map D.str)),some (B.sh (D.int (1+cnt))),some (B.own (ws.map D.str)),some (B.sh (D.int (k:Int))),some (B.own []),x6,x7,x8]:=λj j0 j1=>by
      obtain⟨n,rfl⟩:=Int.eq_ofNat_of_zero_le (show 0 <= j by omega)
      refine⟨by omega,?_⟩
      rw [Int.toNat_natCast,eZ];refine d5 (λi:Nat=>.int (0+(i:Nat))) (List.range n) (λi σ=>∃ps y6 y7 y8,σ = [some (.sh (.int c)),some (.own (ss.map D.str)),some (.sh (.int (1+cnt))),some (.own (ws.map D.str)),some (.sh (.int (k:Int))),some (.own (ps.map D.str)),y6,y7,y8] /\ ps.length = i /\ Wd 61 ps) (λi t σ N4 Oi CZ NC=>?_) (λσ CZ=>?_) ⟨[],x6,x7,x8,rfl,rfl,λv hv=>by cases hv⟩
      · obtain⟨rfl,Ro⟩:=dP Oi
        obtain⟨ps,y6,y7,y8,rfl,hp,Mu⟩:=CZ;walk_at "vg";subst Mw;refine au λN5 Jf=>?_;symm;refine⟨by unfold fQ;omega,⟨by omega,by omega⟩,?_⟩
        symm;obtain⟨v0,v1⟩:=dw c (411+5*(k:Int)+t);generalize bp c (411+5*(k:Int)+t) = v at v0 v1;subst Jf;refine au λN5 Jf=>?_;symm;refine⟨by unfold rF;omega,by unfold nv;decide,by decide,⟨by decide,by decide⟩,?_⟩
        symm;have Ja:∀od:Int,(od = 0 \/ od = 1) -> N5 [some (.sh (.int c)),some (.own (ss.map D.str)),some (.sh (.int (1+cnt))),some (.own (ws.map D.str)),some (.sh (.int (k:Int))),some (.own (ps.map D.str)),some (.sh (.int (t:Int))),some (.sh (.int v)),some (.sh (.int od))]:=λod Tj=>by
          subst Jf;symm;have i0:=Int.emod_nonneg v (show(1000:Int) ≠ 0 by decide)
          have i1:=Int.emod_lt_of_pos v (show(0:Int)<1000 by decide)
          generalize v%1000 = r at i0 i1;have s0:=Int.emod_nonneg v (show(8:Int) ≠ 0 by decide)
          have s1:=Int.emod_lt_of_pos v (show(0:Int)<8 by decide)
          generalize v%8 = q at s0 s1;obtain⟨q,rfl⟩:=Int.eq_ofNat_of_zero_le s0;have hq:q<ss.length:=by omega
          have lg:=ml (i:=r-500) ⋯ ⋯
          have Jb:∀x:Str,h7 61 x /\ 32 ∉ x.cps.toList -> (ps.map D.str).length<sizeLine /\ N4 [some (.sh (.int c)),some (.own (ss.map D.str)),some (.sh (.int (1+cnt))),some (.own (ws.map D.str)),some (.sh (.int (k:Int))),some (.own (ps.map D.str ++ [D.str x])),some (.sh (.int (t:Int))),some (.sh (.int v)),some (.sh (.int od))]:=λx hx=>by
            refine⟨by rw [List.length_map,sz];omega,NC _ ⟨ps ++ [x],_,_,_,by rw [List.map_append];rfl,by rw [List.length_append,hp];rfl,λy hy=>?_⟩⟩
            rcases List.mem_append.mp hy with hy | hy
            · exact Mu y hy
            · rw [List.mem_singleton.mp hy];exact hx
          refine⟨⟨_,rfl⟩,by decide,by omega,by decide,bg (n:=q) rfl (by rw [List.getElem?_map,List.getElem?_eq_getElem hq];rfl) ⟨by decide,jB ⋯ ⋯ (Jb _ ⟨⟨λe he=>?_,qB ⋯ ⋯⟩,λhe=>?_⟩) (Jb _ (sm _ (List.getElem_mem hq)))⟩⟩
          · rcases fw _ e he with h | h<;>omega
          · rcases fw _ _ he with h | h<;>omega
        refine⟨by decide,jB (Int.emod_nonneg _ ∅) (Int.emod_lt_of_pos _ ∅) ?_ ?_⟩
        · symm
          refine⟨by decide,⟨rfl,rfl⟩,?_⟩
          exact Ja _ (by split<;>simp)
        · symm
          refine⟨by decide,⟨rfl,rfl⟩,?_⟩
          exact Ja _ (by split<;>simp)
      · obtain⟨ps,y6,y7,y8,rfl,hp,Mu⟩:=CZ
        rw [List.length_range]at hp;show N3 _;subst pB;clear Mw;symm;rw [mB,c6];have h2:=qZ Mu;have h3:ps.length*(61+1) <= 5*62:=Nat.mul_le_mul ⋯ (Nat.le_refl _)
        refine⟨⟨_,rfl⟩,⟨_,rfl⟩,⟨by rw [List.all_map];exact List.all_eq_true.mpr λ_ _=>rfl,?_⟩,by rw [List.length_map,sz];omega,?_⟩
        · unfold joinFits
          have:(⟨#[44]⟩:Str).length = 1:=rfl;rw [this,Nat.mul_one];have:(ps.map (·.length)).sum+ps.length = sT ps:=rfl
          omega
        · refine Je _ ⟨ws ++ [Txt.join ⟨#[44]⟩ ps],_,_,_,_,_,by rw [List.map_append];rfl,by rw [List.length_append,hw];rfl,λv hv=>?_⟩
          rcases List.mem_append.mp hv with hv | hv
          · exact yi v hv
          · rw [List.mem_singleton.mp hv]
            exact jt Mu ⋯
    refine jB (by split<;>decide) (by split<;>decide) ?_ ?_
    · exact inner _ ⋯ ⋯
    · exact inner _ ⋯ ⋯
  · obtain⟨ws,x4,x5,x6,x7,x8,rfl,hw,yi⟩:=hI
    rw [List.length_range]at hw;show N _;subst hN;clear ht;symm;rw [mB,cF];have hT:∀vs:List Str,Wd 400 vs -> sT vs <= vs.length*401:=λvs=>by
      induction vs with
      | nil=>intro _;exact Nat.le_refl _
      | cons v vs ih =>
        intro hv;have:=ih λx hx=>hv x (.tail _ hx);have h1:=(hv v (.head _)).1.2;rw [cy,List.length_cons,Nat.succ_mul];omega
    have hT:=hT ws yi;rw [hw]at hT;refine⟨⟨_,rfl⟩,⟨by rw [List.all_map];exact List.all_eq_true.mpr λ_ _=>rfl,?_⟩,h _ (yi.tb ⋯ ⋯)⟩
    unfold joinFits;have:(⟨#[32]⟩:Str).length = 1:=rfl;rw [this,Nat.mul_one];have:(ws.map (·.length)).sum+ws.length = sT ws:=rfl
    omega
theorem zi{p:List Int} (h:Bd p):h7 400 (km p) /\ 32 ∉ (km p).cps.toList:=by
  unfold km;rw [c6];refine jt (λv hv=>?_) (by rw [List.length_map];have:=h.1;omega)
  obtain⟨i,hi,rfl⟩:=List.mem_map.mp hv;exact⟨⟨λe he=>by rcases fw _ e he with h | h<;>omega,mj h _ hv⟩,λhe=>by rcases fw _ _ he with h | h<;>omega⟩
theorem jK{n:Nat} {b9:List (List Int)} (g:Good n b9) (h:b9.length <= 148):Tb 60000 150 (qW b9):=by
  unfold qW
  split
  · have:((Str.ofString "none").cps.toList.all λc=>decide (c<128)) = true:=by decide +kernel
    exact⟨⟨λc hc=>of_decide_eq_true (List.all_eq_true.mp this c hc),by decide +kernel⟩,by decide +kernel⟩
  · rw [cF]
    have hw:Wd 400 (b9.map km):=λv hv=>by
      obtain⟨p,hp,rfl⟩:=List.mem_map.mp hv;exact zi (g.bd hp)
    have h2:=qZ hw;rw [List.length_map]at h2;have h3:b9.length*(400+1) <= 148*401:=Nat.mul_le_mul h (Nat.le_refl _);exact hw.tb ⋯ (by rw [List.length_map];omega)
theorem Tb.x{L W:Nat} {z:Str} (h:Tb L W z) (h1:L <= 900000) (h2:W <= 3000):Bs z:=⟨h.1.le h1,Nat.le_trans h.2 h2⟩
noncomputable def oB:List Str:=[Str.ofString "",Str.ofString " ",Str.ofString ",",Str.ofString "none ",Str.ofString " none",Str.ofString "none none",Str.ofString "none 1",Str.ofString "0",Str.ofString "-0",Str.ofString "0,0",Str.ofString "1,2,3",Str.ofString "1,2,3,4",Str.ofString "1 2,3",Str.ofString "1,2 3",Str.ofString "1, 2",Str.ofString "1,2 ",Str.ofString " 1,2",Str.ofString "1,2  3,4",Str.ofString "1,2\n",Str.ofString "1;2",Str.ofString "(1,2)",Str.ofString "1,2,3,4 x",Str.ofString "x 1,2,3,4",Str.ofString "1 1 1"]
theorem yC:∀o ∈ oB,Tb 20 10 o:=by
  have:(oB.all λo=>(o.cps.toList.all λc=>decide (c<128)) && decide (o.length <= 20) && decide (o.cps.toList.count 32 <= 10)) = true:=by decide +kernel
  intro o ho;have h:=List.all_eq_true.mp this o ho;rw [Bool.and_eq_true,Bool.and_eq_true]at h;exact⟨⟨λc hc=>of_decide_eq_true (List.all_eq_true.mp h.1.1 c hc),of_decide_eq_true h.1.2⟩,of_decide_eq_true h.2⟩
noncomputable def jS:b7:=λds Q=>∃ns:List Int,ds = [.fP ns] /\ ns.length <= 63 /\ Q (.sh (.bl true))
theorem yT(ds:List D) (Q:B -> Prop) (h:jS ds Q):w6 gX jk fD c5 fE jh fF {nx:=λ_=>Q (.sh .bt),rt:=λb _=>Q b} (a4 tQ.length ds):=by
  obtain⟨ns,rfl,Ms,h⟩:=h;unfold w6;refine au λN hN=>?_;show dR _ _ _ _ _;generalize ht:bS (cP [] 3 _) _ = tb;symm;refine⟨ns,4,rfl,Ms,by decide,?_⟩
  symm;rw [rY];refine d5 (λp:Nat × Int=>.tup [.int (p.1:Nat),.int p.2]) _ (λi σ=>∃x1 x2 x3 x4 x5,σ = [some (.sh (.fP ns)),x1,x2,x3,x4,x5,none]) (λi p σ N2 hx hI Je=>?_) (λσ hI=>?_) ⟨none,none,none,none,none,rfl⟩
  · obtain⟨x1,x2,x3,x4,x5,rfl⟩:=hI
    obtain⟨k,c⟩:=p;walk_at "vg";subst ht;refine au λN3 pB=>?_;symm;have txt:∀z,Tb 60000 150 z -> N3 [some (.sh (.fP ns)),some (.sh (.int (k:Nat))),some (.sh (.int c)),some (.sh (.str z)),x4,x5,none]:=λz hz=>by
      subst pB;refine au λN3 pB=>?_;symm;refine⟨c,rfl,λy hy=>?_⟩;symm;refine⟨y,rfl,hy.x ∅ ∅,?_⟩
      symm;refine(if_neg ∅).mpr ?_
      subst pB;show dR _ _ _ _ _;generalize Mw:bS (cP [] 5 _) _ = QA;symm;rw [show Int.toNat 5 = 5 from rfl,eZ]
      refine⟨by decide,d5 (λi:Nat=>.int (0+(i:Nat))) (List.range 5) (λi σ=>∃y4 y5,σ = [some (.sh (.fP ns)),some (.sh (.int (k:Nat))),some (.sh (.int c)),some (.sh (.str z)),y4,y5,none]) (λi t σ N4 Oi CZ NC=>?_) (λσ CZ=>?_) ⟨_,_,rfl⟩⟩
      · obtain⟨rfl,Ro⟩:=dP Oi
        obtain⟨y4,y5,rfl⟩:=CZ;walk_at "vg";subst Mw;refine au λN5 Jf=>?_;symm;refine⟨by unfold fQ;omega,?_⟩
        rw [show(300:Int)+16*(t:Int) = ((300+16*t:Nat):Int)by omega]
        refine⟨c,300+16*t,z,60000,150,rfl,by omega,hz,by decide,λo ho=>?_⟩
        symm;subst Jf;symm;refine⟨o,rfl,ho.x ∅ ∅,?_⟩
        symm;refine(if_neg ∅).mpr ⟨by unfold fQ;omega,?_⟩
        rw [show(308:Int)+16*(t:Int) = ((308+16*t:Nat):Int)by omega]
        refine⟨c,308+16*t,o,2*60000+40,150+1,rfl,by omega,ho,by decide,λo2 Ha=>?_⟩
        symm;refine⟨o2,rfl,Ha.x ∅ ∅,?_⟩
        symm;exact(if_neg ∅).mpr (NC _ ⟨_,_,rfl⟩)
      · obtain⟨y4,y5,rfl⟩:=CZ
        exact Je _ ⟨_,_,_,_,_,rfl⟩
    refine⟨by decide,⟨rfl,rfl⟩,?_⟩
    cases cT (D.int (k:Nat)) (D.int 0)with
    | true =>
      refine(if_pos rfl).mpr ⟨⟨by decide,by decide⟩,?_⟩
      symm;refine⟨by decide,⟨rfl,rfl⟩,jB (by split<;>decide) (by split<;>decide) ?_ ?_⟩
      · refine⟨c,20,rfl,by decide,λb9 n g hl=>?_⟩
        symm;refine⟨n,b9,rfl,g,by omega,?_⟩
        symm;exact txt _ (jK g ⋯)
      · refine⟨c,148,rfl,by decide,λb9 n g hl=>?_⟩
        symm;refine⟨n,b9,rfl,g,by omega,?_⟩
        symm;exact txt _ (jK g ⋯)
    | false =>
      refine(if_neg ∅).mpr (bg (n:=0) rfl rfl ?_)
      refine⟨c,20,rfl,by decide,λb9 n g hl=>?_⟩
      symm;refine⟨n,b9,rfl,g,by omega,?_⟩
      symm;exact txt _ (jK g ⋯)
  · obtain⟨x1,x2,x3,x4,x5,rfl⟩:=hI
    show N _;subst hN;clear ht;refine au λN hN=>?_;symm;refine⟨by decide,?_⟩
    subst hN;refine au λN hN=>?_;symm;refine⟨by decide,by decide,?_⟩
    subst hN;refine au λN hN=>?_;symm;refine⟨by decide,by decide,?_⟩
    show N [_,_,_,_,_,_,some (B.own (oB.map D.str))];have lt:=yC;have ll:oB.length = 24:=rfl;generalize oB = ls at lt ll;subst hN;symm;refine eR D.str (λ_=>none) ls (λw hw A Bn hA=>?_) (by rw [sz];omega) ?_
    · walk_at "vg"
      symm;refine⟨w,rfl,(lt w hw).x ∅ ∅,?_⟩
      symm;exact(if_neg ∅).mpr hA
    rw [lY];exact⟨Nat.zero_le _,⟨rfl,rfl⟩,h⟩
end
noncomputable def rg(K:PySem.W.Frag):Sp:=λvs H Q _=>∃(a:Addr) (ns:List Int),vs = [.ref a] /\ eO K H a (ns.map V.int) /\ ns.length <= 63 /\ ∀H',Q (.bl true) H'
-- level 6
section
variable [KF] {G:GE} {k:Nat}
theorem xZ{x:Str} {st:Stmt} {ps:List Str} {f:Addr} {fd:FuncData} (d:cS G x st ps f fd):dn G k x λ_ _=>False:=
  ⟨f,fd,ps,⟨λvs H Q E h=>by obtain⟨_,_,_,_,_,z,_⟩:=h;exact z.elim,λA outer s H args us vs Q E _ _ _ _ h=>by obtain⟨_,_,_,_,_,z,_⟩:=h;exact z.elim⟩,d.m,d.F.kp,d.b⟩
local macro_rules|`(tactic| walk_at "8")=>`(tactic| (intro xs ds Q h;first|(obtain⟨e,_⟩:=h;rw[e];rfl) | (obtain⟨_,e,_⟩:=h;rw[e];rfl) | (obtain⟨_,_,e,_⟩:=h;rw[e];rfl) | (obtain⟨_,_,_,e,_⟩:=h;rw[e];rfl) | (obtain⟨_,_,_,_,e,_⟩:=h;rw[e];rfl) | (obtain⟨_,_,_,_,_,e,_⟩:=h;rw[e];rfl) | (obtain⟨_,_,_,_,_,_,e,_⟩:=h;rw[e];rfl) | (obtain⟨_,_,_,_,_,_,_,e,_⟩:=h;rw[e];rfl) | (obtain⟨_,_,_,_,_,_,_,_,e,_⟩:=h;rw[e];rfl) | (obtain⟨_,_,_,_,_,_,_,_,_,e,_⟩:=h;rw[e];rfl) | (obtain⟨_,_,_,_,_,_,_,_,_,_,e,_⟩:=h;rw[e];rfl)))
local macro_rules|`(tactic| walk_at "7")=>`(tactic| (intro ds Q h;first|(obtain⟨e,_⟩:=h;rw[e];rfl) | (obtain⟨_,e,_⟩:=h;rw[e];rfl) | (obtain⟨_,_,e,_⟩:=h;rw[e];rfl) | (obtain⟨_,_,_,e,_⟩:=h;rw[e];rfl) | (obtain⟨_,_,_,_,e,_⟩:=h;rw[e];rfl) | (obtain⟨_,_,_,_,_,e,_⟩:=h;rw[e];rfl) | (obtain⟨_,_,_,_,_,_,e,_⟩:=h;rw[e];rfl) | (obtain⟨_,_,_,_,_,_,_,e,_⟩:=h;rw[e];rfl) | (obtain⟨_,_,_,_,_,_,_,_,e,_⟩:=h;rw[e];rfl) | (obtain⟨_,_,_,_,_,_,_,_,_,e,_⟩:=h;rw[e];rfl) | (obtain⟨_,_,_,_,_,_,_,_,_,_,e,_⟩:=h;rw[e];rfl)))
theorem Ey(hK:G.K = KF.K) (hT:KF.tabs = []) (E:Gl G)
    {uR:Addr} {IY:FuncData} (Ca:cS G "need_count" mV ["count"] uR IY)
    {uK:Addr} {IL:FuncData} (B3:cS G "need_as_many_numbers" mM ["point","count"] uK IL)
    {uL:Addr} {IP:FuncData} (B4:cS G "need_points" mO ["points"] uL IP)
    {uN:Addr} {IU:FuncData} (B6:cS G "is_figures" mQ ["word","most"] uN IU)
    {uT:Addr} {I0:FuncData} (Cd:cS G "is_number" mX ["word"] uT I0)
    {nR:Addr} {CD:FuncData} (um:cS G "is_point" gO ["word"] nR CD)
    {uS:Addr} {IZ:FuncData} (Cb:cS G "point_from" mW ["word"] uS IZ)
    {uM:Addr} {IQ:FuncData} (B5:cS G "read_points" mP ["text"] uM IQ)
    {nW:Addr} {CI:FuncData} (ur:cS G "_law_stir" gS ["cell","k"] nW CI)
    {nO:Addr} {CA:FuncData} (ug:cS G "_law_cells" gL ["script","many"] nO CA)
    {uP:Addr} {IW:FuncData} (B8:cS G "_law_points" mS ["cell","most"] uP IW)
    {nU:Addr} {CG:FuncData} (kI:cS G "_law_same" gQ ["found","due"] nU CG)
    {nP:Addr} {CB:FuncData} (uh:cS G "_law_flags" gM ["e"] nP CB)
    {nX:Addr} {CJ:FuncData} (uw:cS G "_law_text" gT ["points"] nX CJ)
    {nV:Addr} {CH:FuncData} (uq:cS G "_law_sign" gR ["cell","k"] nV CH)
    {uQ:Addr} {IX:FuncData} (B9:cS G "_law_spoilt" mU ["cell","k","text"] uQ IX)
    {uO:Addr} {IV:FuncData} (B7:cS G "_law_number" mR ["word"] uO IV)
    {nZ:Addr} {CL:FuncData} (uy:cS G "_law_due" gV ["text"] nZ CL)
    {nY:Addr} {CK:FuncData} (ux:cS G "_law_told" gU ["text"] nY CK)
    {nQ:Addr} {CC:FuncData} (uk:cS G "_law_right" gN ["text"] nQ CC)
    {nS:Addr} {CF:FuncData} (uo:cS G "_law_free" gP ["cell"] nS CF)
    {kJ:Addr} {uU:FuncData} (uA:cS G "law" eD ["script"] kJ uU)
   :dy G.P G.w G.K G.mg G.base qd 7 kJ uU ["script"] (rg G.K):=by
  have u0:dn G 1 "_law_cells" gX:=ug.fg (k:=0) hK FV (Iy E) (λds Q h=>by first | (unfold gX at h;split at h<;>first | rfl | exact h.elim) | (obtain⟨e,_⟩:=h;rw [e];rfl) | (obtain⟨_,e,_⟩:=h;rw [e];rfl) | (obtain⟨_,_,e,_⟩:=h;rw [e];rfl) | (obtain⟨_,_,_,e,_⟩:=h;rw [e];rfl) | (obtain⟨_,_,_,_,e,_⟩:=h;rw [e];rfl) | (obtain⟨_,_,_,_,_,e,_⟩:=h;rw [e];rfl) | (obtain⟨_,_,_,_,_,_,e,_⟩:=h;rw [e];rfl) | (obtain⟨_,_,_,_,_,_,_,e,_⟩:=h;rw [e];rfl) | (obtain⟨_,_,_,_,_,_,_,_,e,_⟩:=h;rw [e];rfl) | (obtain⟨_,_,_,_,_,_,_,_,_,e,_⟩:=h;rw [e];rfl)) yR
  have va:dn G 1 "_law_text" jk:=uw.fg (k:=0) hK Ga (IH E) (λds Q h=>by first | (unfold jk at h;split at h<;>first | rfl | exact h.elim) | (obtain⟨e,_⟩:=h;rw [e];rfl) | (obtain⟨_,e,_⟩:=h;rw [e];rfl) | (obtain⟨_,_,e,_⟩:=h;rw [e];rfl) | (obtain⟨_,_,_,e,_⟩:=h;rw [e];rfl) | (obtain⟨_,_,_,_,e,_⟩:=h;rw [e];rfl) | (obtain⟨_,_,_,_,_,e,_⟩:=h;rw [e];rfl) | (obtain⟨_,_,_,_,_,_,e,_⟩:=h;rw [e];rfl) | (obtain⟨_,_,_,_,_,_,_,e,_⟩:=h;rw [e];rfl) | (obtain⟨_,_,_,_,_,_,_,_,e,_⟩:=h;rw [e];rfl) | (obtain⟨_,_,_,_,_,_,_,_,_,e,_⟩:=h;rw [e];rfl)) KG
  have bC:dn G 1 "_law_stir" c5:=ur.fg (k:=0) hK F9 (IG E) (λds Q h=>by first | (unfold c5 at h;split at h<;>first | rfl | exact h.elim) | (obtain⟨e,_⟩:=h;rw [e];rfl) | (obtain⟨_,e,_⟩:=h;rw [e];rfl) | (obtain⟨_,_,e,_⟩:=h;rw [e];rfl) | (obtain⟨_,_,_,e,_⟩:=h;rw [e];rfl) | (obtain⟨_,_,_,_,e,_⟩:=h;rw [e];rfl) | (obtain⟨_,_,_,_,_,e,_⟩:=h;rw [e];rfl) | (obtain⟨_,_,_,_,_,_,e,_⟩:=h;rw [e];rfl) | (obtain⟨_,_,_,_,_,_,_,e,_⟩:=h;rw [e];rfl) | (obtain⟨_,_,_,_,_,_,_,_,e,_⟩:=h;rw [e];rfl) | (obtain⟨_,_,_,_,_,_,_,_,_,e,_⟩:=h;rw [e];rfl)) E7
  have C5:dn G 2 "_law_points" fD:=B8.fg (k:=1) hK Lk (Ni E (bC.mono ∅)) (λds Q h=>by first | (unfold fD at h;split at h<;>first | rfl | exact h.elim) | (obtain⟨e,_⟩:=h;rw [e];rfl) | (obtain⟨_,e,_⟩:=h;rw [e];rfl) | (obtain⟨_,_,e,_⟩:=h;rw [e];rfl) | (obtain⟨_,_,_,e,_⟩:=h;rw [e];rfl) | (obtain⟨_,_,_,_,e,_⟩:=h;rw [e];rfl) | (obtain⟨_,_,_,_,_,e,_⟩:=h;rw [e];rfl) | (obtain⟨_,_,_,_,_,_,e,_⟩:=h;rw [e];rfl) | (obtain⟨_,_,_,_,_,_,_,e,_⟩:=h;rw [e];rfl) | (obtain⟨_,_,_,_,_,_,_,_,e,_⟩:=h;rw [e];rfl) | (obtain⟨_,_,_,_,_,_,_,_,_,e,_⟩:=h;rw [e];rfl)) vR
  have C4:dn G 1 "_law_number" ji:=B7.fg (k:=0) hK Lj (Nh E) (λds Q h=>by first | (unfold ji at h;split at h<;>first | rfl | exact h.elim) | (obtain⟨e,_⟩:=h;rw [e];rfl) | (obtain⟨_,e,_⟩:=h;rw [e];rfl) | (obtain⟨_,_,e,_⟩:=h;rw [e];rfl) | (obtain⟨_,_,_,e,_⟩:=h;rw [e];rfl) | (obtain⟨_,_,_,_,e,_⟩:=h;rw [e];rfl) | (obtain⟨_,_,_,_,_,e,_⟩:=h;rw [e];rfl) | (obtain⟨_,_,_,_,_,_,e,_⟩:=h;rw [e];rfl) | (obtain⟨_,_,_,_,_,_,_,e,_⟩:=h;rw [e];rfl) | (obtain⟨_,_,_,_,_,_,_,_,e,_⟩:=h;rw [e];rfl) | (obtain⟨_,_,_,_,_,_,_,_,_,e,_⟩:=h;rw [e];rfl)) E3
  have vb:dn G 2 "_law_due" jR:=uy.fg (k:=1) hK Gd (IJ E (C4.mono ∅)) (λds Q h=>by first | (unfold jR at h;split at h<;>first | rfl | exact h.elim) | (obtain⟨e,_⟩:=h;rw [e];rfl) | (obtain⟨_,e,_⟩:=h;rw [e];rfl) | (obtain⟨_,_,e,_⟩:=h;rw [e];rfl) | (obtain⟨_,_,_,e,_⟩:=h;rw [e];rfl) | (obtain⟨_,_,_,_,e,_⟩:=h;rw [e];rfl) | (obtain⟨_,_,_,_,_,e,_⟩:=h;rw [e];rfl) | (obtain⟨_,_,_,_,_,_,e,_⟩:=h;rw [e];rfl) | (obtain⟨_,_,_,_,_,_,_,e,_⟩:=h;rw [e];rfl) | (obtain⟨_,_,_,_,_,_,_,_,e,_⟩:=h;rw [e];rfl) | (obtain⟨_,_,_,_,_,_,_,_,_,e,_⟩:=h;rw [e];rfl)) KD
  have oi:dn G 1 "_law_same" (cI 1):=kI.fg (k:=0) hK pU (uG E (sp_q15:=cI 0) (xZ kI)) (λds Q h=>by first | (unfold cI at h;split at h<;>first | rfl | exact h.elim) | (obtain⟨e,_⟩:=h;rw [e];rfl) | (obtain⟨_,e,_⟩:=h;rw [e];rfl) | (obtain⟨_,_,e,_⟩:=h;rw [e];rfl) | (obtain⟨_,_,_,e,_⟩:=h;rw [e];rfl) | (obtain⟨_,_,_,_,e,_⟩:=h;rw [e];rfl) | (obtain⟨_,_,_,_,_,e,_⟩:=h;rw [e];rfl) | (obtain⟨_,_,_,_,_,_,e,_⟩:=h;rw [e];rfl) | (obtain⟨_,_,_,_,_,_,_,e,_⟩:=h;rw [e];rfl) | (obtain⟨_,_,_,_,_,_,_,_,e,_⟩:=h;rw [e];rfl) | (obtain⟨_,_,_,_,_,_,_,_,_,e,_⟩:=h;rw [e];rfl)) (pM 0)
  have oj:dn G 2 "_law_same" (cI 2):=kI.fg (k:=1) hK pU (uG E (oi.mono ∅)) (λds Q h=>by first | (unfold cI at h;split at h<;>first | rfl | exact h.elim) | (obtain⟨e,_⟩:=h;rw [e];rfl) | (obtain⟨_,e,_⟩:=h;rw [e];rfl) | (obtain⟨_,_,e,_⟩:=h;rw [e];rfl) | (obtain⟨_,_,_,e,_⟩:=h;rw [e];rfl) | (obtain⟨_,_,_,_,e,_⟩:=h;rw [e];rfl) | (obtain⟨_,_,_,_,_,e,_⟩:=h;rw [e];rfl) | (obtain⟨_,_,_,_,_,_,e,_⟩:=h;rw [e];rfl) | (obtain⟨_,_,_,_,_,_,_,e,_⟩:=h;rw [e];rfl) | (obtain⟨_,_,_,_,_,_,_,_,e,_⟩:=h;rw [e];rfl) | (obtain⟨_,_,_,_,_,_,_,_,_,e,_⟩:=h;rw [e];rfl)) (pM 1)
  have om:dn G 3 "_law_same" (cI 3):=kI.fg (k:=2) hK pU (uG E (oj.mono ∅)) (λds Q h=>by first | (unfold cI at h;split at h<;>first | rfl | exact h.elim) | (obtain⟨e,_⟩:=h;rw [e];rfl) | (obtain⟨_,e,_⟩:=h;rw [e];rfl) | (obtain⟨_,_,e,_⟩:=h;rw [e];rfl) | (obtain⟨_,_,_,e,_⟩:=h;rw [e];rfl) | (obtain⟨_,_,_,_,e,_⟩:=h;rw [e];rfl) | (obtain⟨_,_,_,_,_,e,_⟩:=h;rw [e];rfl) | (obtain⟨_,_,_,_,_,_,e,_⟩:=h;rw [e];rfl) | (obtain⟨_,_,_,_,_,_,_,e,_⟩:=h;rw [e];rfl) | (obtain⟨_,_,_,_,_,_,_,_,e,_⟩:=h;rw [e];rfl) | (obtain⟨_,_,_,_,_,_,_,_,_,e,_⟩:=h;rw [e];rfl)) (pM 2)
  have kN:=om;have ya:dn G 1 "is_figures" jg:=B6.fg (k:=0) hK Li (Ng E) (λds Q h=>by first | (unfold jg at h;split at h<;>first | rfl | exact h.elim) | (obtain⟨e,_⟩:=h;rw [e];rfl) | (obtain⟨_,e,_⟩:=h;rw [e];rfl) | (obtain⟨_,_,e,_⟩:=h;rw [e];rfl) | (obtain⟨_,_,_,e,_⟩:=h;rw [e];rfl) | (obtain⟨_,_,_,_,e,_⟩:=h;rw [e];rfl) | (obtain⟨_,_,_,_,_,e,_⟩:=h;rw [e];rfl) | (obtain⟨_,_,_,_,_,_,e,_⟩:=h;rw [e];rfl) | (obtain⟨_,_,_,_,_,_,_,e,_⟩:=h;rw [e];rfl) | (obtain⟨_,_,_,_,_,_,_,_,e,_⟩:=h;rw [e];rfl) | (obtain⟨_,_,_,_,_,_,_,_,_,e,_⟩:=h;rw [e];rfl)) EZ
  have C8:dn G 2 "is_number" jj:=Cd.fg (k:=1) hK Lr (Nn E (ya.mono ∅)) (λds Q h=>by first | (unfold jj at h;split at h<;>first | rfl | exact h.elim) | (obtain⟨e,_⟩:=h;rw [e];rfl) | (obtain⟨_,e,_⟩:=h;rw [e];rfl) | (obtain⟨_,_,e,_⟩:=h;rw [e];rfl) | (obtain⟨_,_,_,e,_⟩:=h;rw [e];rfl) | (obtain⟨_,_,_,_,e,_⟩:=h;rw [e];rfl) | (obtain⟨_,_,_,_,_,e,_⟩:=h;rw [e];rfl) | (obtain⟨_,_,_,_,_,_,e,_⟩:=h;rw [e];rfl) | (obtain⟨_,_,_,_,_,_,_,e,_⟩:=h;rw [e];rfl) | (obtain⟨_,_,_,_,_,_,_,_,e,_⟩:=h;rw [e];rfl) | (obtain⟨_,_,_,_,_,_,_,_,_,e,_⟩:=h;rw [e];rfl)) E4
  have u5:dn G 3 "is_point" gZ:=um.fg (k:=2) hK FY (IB E (C8.mono ∅)) (λds Q h=>by first | (unfold gZ at h;split at h<;>first | rfl | exact h.elim) | (obtain⟨e,_⟩:=h;rw [e];rfl) | (obtain⟨_,e,_⟩:=h;rw [e];rfl) | (obtain⟨_,_,e,_⟩:=h;rw [e];rfl) | (obtain⟨_,_,_,e,_⟩:=h;rw [e];rfl) | (obtain⟨_,_,_,_,e,_⟩:=h;rw [e];rfl) | (obtain⟨_,_,_,_,_,e,_⟩:=h;rw [e];rfl) | (obtain⟨_,_,_,_,_,_,e,_⟩:=h;rw [e];rfl) | (obtain⟨_,_,_,_,_,_,_,e,_⟩:=h;rw [e];rfl) | (obtain⟨_,_,_,_,_,_,_,_,e,_⟩:=h;rw [e];rfl) | (obtain⟨_,_,_,_,_,_,_,_,_,e,_⟩:=h;rw [e];rfl)) E2
  have C7:dn G 1 "point_from" g9:=Cb.fg (k:=0) hK Lq (Nm E) (λds Q h=>by first | (unfold g9 at h;split at h<;>first | rfl | exact h.elim) | (obtain⟨e,_⟩:=h;rw [e];rfl) | (obtain⟨_,e,_⟩:=h;rw [e];rfl) | (obtain⟨_,_,e,_⟩:=h;rw [e];rfl) | (obtain⟨_,_,_,e,_⟩:=h;rw [e];rfl) | (obtain⟨_,_,_,_,e,_⟩:=h;rw [e];rfl) | (obtain⟨_,_,_,_,_,e,_⟩:=h;rw [e];rfl) | (obtain⟨_,_,_,_,_,_,e,_⟩:=h;rw [e];rfl) | (obtain⟨_,_,_,_,_,_,_,e,_⟩:=h;rw [e];rfl) | (obtain⟨_,_,_,_,_,_,_,_,e,_⟩:=h;rw [e];rfl) | (obtain⟨_,_,_,_,_,_,_,_,_,e,_⟩:=h;rw [e];rfl)) E5
  have C6:rK G 1 "need_count" dW:=Ca.fx (k:=0) (t:=λex=>zS ex) hK Lp (λEd=>Nk E _) (λds Q E' h=>by first | (unfold dW at h;split at h<;>first | rfl | exact h.elim) | (obtain⟨e,_⟩:=h;rw [e];rfl) | (obtain⟨_,e,_⟩:=h;rw [e];rfl) | (obtain⟨_,_,e,_⟩:=h;rw [e];rfl) | (obtain⟨_,_,_,e,_⟩:=h;rw [e];rfl) | (obtain⟨_,_,_,_,e,_⟩:=h;rw [e];rfl) | (obtain⟨_,_,_,_,_,e,_⟩:=h;rw [e];rfl)) xk
  have C0:rK G 1 "need_as_many_numbers" j8:=B3.fx (k:=0) (t:=λex=>zP ex) hK Lf (λEd=>Nb E _) (λds Q E' h=>by first | (unfold j8 at h;split at h<;>first | rfl | exact h.elim) | (obtain⟨e,_⟩:=h;rw [e];rfl) | (obtain⟨_,e,_⟩:=h;rw [e];rfl) | (obtain⟨_,_,e,_⟩:=h;rw [e];rfl) | (obtain⟨_,_,_,e,_⟩:=h;rw [e];rfl) | (obtain⟨_,_,_,_,e,_⟩:=h;rw [e];rfl) | (obtain⟨_,_,_,_,_,e,_⟩:=h;rw [e];rfl)) L5
  have C1:rK G 2 "need_points" hZ:=B4.fx (k:=1) (t:=λex=>zQ ex dW j8) hK Lg (λEd=>Nc E _ (C6.mono ∅) (C0.mono ∅)) (λds Q E' h=>by first | (unfold hZ at h;split at h<;>first | rfl | exact h.elim) | (obtain⟨e,_⟩:=h;rw [e];rfl) | (obtain⟨_,e,_⟩:=h;rw [e];rfl) | (obtain⟨_,_,e,_⟩:=h;rw [e];rfl) | (obtain⟨_,_,_,e,_⟩:=h;rw [e];rfl) | (obtain⟨_,_,_,_,e,_⟩:=h;rw [e];rfl) | (obtain⟨_,_,_,_,_,e,_⟩:=h;rw [e];rfl)) GZ
  have C3:rK G 4 "read_points" fm:=B5.fx (k:=3) (t:=λex=>zR ex gZ g9 hZ) hK Lh (λEd=>Nf E _ (u5.mono ∅) (C7.mono ∅) (C1.mono ∅)) (λds Q E' h=>by first | (unfold fm at h;split at h<;>first | rfl | exact h.elim) | (obtain⟨e,_⟩:=h;rw [e];rfl) | (obtain⟨_,e,_⟩:=h;rw [e];rfl) | (obtain⟨_,_,e,_⟩:=h;rw [e];rfl) | (obtain⟨_,_,_,e,_⟩:=h;rw [e];rfl) | (obtain⟨_,_,_,_,e,_⟩:=h;rw [e];rfl) | (obtain⟨_,_,_,_,_,e,_⟩:=h;rw [e];rfl)) zX
  have u3:A9 G 1 "_law_flags" gY:=uh.fh (k:=0) hK FW (Iz E) (λds Q h=>by first | (unfold gY at h;split at h<;>first | rfl | exact h.elim) | (obtain⟨e,_⟩:=h;rw [e];rfl) | (obtain⟨_,e,_⟩:=h;rw [e];rfl) | (obtain⟨_,_,e,_⟩:=h;rw [e];rfl) | (obtain⟨_,_,_,e,_⟩:=h;rw [e];rfl) | (obtain⟨_,_,_,_,e,_⟩:=h;rw [e];rfl) | (obtain⟨_,_,_,_,_,e,_⟩:=h;rw [e];rfl) | (obtain⟨_,_,_,_,_,_,e,_⟩:=h;rw [e];rfl) | (obtain⟨_,_,_,_,_,_,_,e,_⟩:=h;rw [e];rfl) | (obtain⟨_,_,_,_,_,_,_,_,e,_⟩:=h;rw [e];rfl) | (obtain⟨_,_,_,_,_,_,_,_,_,e,_⟩:=h;rw [e];rfl)) yS
  have qu:dn G 5 "_law_told" jm:=ux.fg (k:=4) hK Gb (II E (C3.mono ∅) (u3.mono ∅)) (λds Q h=>by first | (unfold jm at h;split at h<;>first | rfl | exact h.elim) | (obtain⟨e,_⟩:=h;rw [e];rfl) | (obtain⟨_,e,_⟩:=h;rw [e];rfl) | (obtain⟨_,_,e,_⟩:=h;rw [e];rfl) | (obtain⟨_,_,_,e,_⟩:=h;rw [e];rfl) | (obtain⟨_,_,_,_,e,_⟩:=h;rw [e];rfl) | (obtain⟨_,_,_,_,_,e,_⟩:=h;rw [e];rfl) | (obtain⟨_,_,_,_,_,_,e,_⟩:=h;rw [e];rfl) | (obtain⟨_,_,_,_,_,_,_,e,_⟩:=h;rw [e];rfl) | (obtain⟨_,_,_,_,_,_,_,_,e,_⟩:=h;rw [e];rfl) | (obtain⟨_,_,_,_,_,_,_,_,_,e,_⟩:=h;rw [e];rfl)) E8
  have kM:dn G 6 "_law_right" fE:=uk.fg (k:=5) hK FX (IA E (vb.mono ∅) (kN.mono ∅) (qu.mono ∅)) (λds Q h=>by first | (unfold fE at h;split at h<;>first | rfl | exact h.elim) | (obtain⟨e,_⟩:=h;rw [e];rfl) | (obtain⟨_,e,_⟩:=h;rw [e];rfl) | (obtain⟨_,_,e,_⟩:=h;rw [e];rfl) | (obtain⟨_,_,_,e,_⟩:=h;rw [e];rfl) | (obtain⟨_,_,_,_,e,_⟩:=h;rw [e];rfl) | (obtain⟨_,_,_,_,_,e,_⟩:=h;rw [e];rfl) | (obtain⟨_,_,_,_,_,_,e,_⟩:=h;rw [e];rfl) | (obtain⟨_,_,_,_,_,_,_,e,_⟩:=h;rw [e];rfl) | (obtain⟨_,_,_,_,_,_,_,_,e,_⟩:=h;rw [e];rfl) | (obtain⟨_,_,_,_,_,_,_,_,_,e,_⟩:=h;rw [e];rfl)) vS
  have u6:dn G 2 "_law_free" jh:=uo.fg (k:=1) hK FZ (IC E (bC.mono ∅)) (λds Q h=>by first | (unfold jh at h;split at h<;>first | rfl | exact h.elim) | (obtain⟨e,_⟩:=h;rw [e];rfl) | (obtain⟨_,e,_⟩:=h;rw [e];rfl) | (obtain⟨_,_,e,_⟩:=h;rw [e];rfl) | (obtain⟨_,_,_,e,_⟩:=h;rw [e];rfl) | (obtain⟨_,_,_,_,e,_⟩:=h;rw [e];rfl) | (obtain⟨_,_,_,_,_,e,_⟩:=h;rw [e];rfl) | (obtain⟨_,_,_,_,_,_,e,_⟩:=h;rw [e];rfl) | (obtain⟨_,_,_,_,_,_,_,e,_⟩:=h;rw [e];rfl) | (obtain⟨_,_,_,_,_,_,_,_,e,_⟩:=h;rw [e];rfl) | (obtain⟨_,_,_,_,_,_,_,_,_,e,_⟩:=h;rw [e];rfl)) E1
  have u9:dn G 2 "_law_sign" jl:=uq.fg (k:=1) hK F8 (IE E (bC.mono ∅)) (λds Q h=>by first | (unfold jl at h;split at h<;>first | rfl | exact h.elim) | (obtain⟨e,_⟩:=h;rw [e];rfl) | (obtain⟨_,e,_⟩:=h;rw [e];rfl) | (obtain⟨_,_,e,_⟩:=h;rw [e];rfl) | (obtain⟨_,_,_,e,_⟩:=h;rw [e];rfl) | (obtain⟨_,_,_,_,e,_⟩:=h;rw [e];rfl) | (obtain⟨_,_,_,_,_,e,_⟩:=h;rw [e];rfl) | (obtain⟨_,_,_,_,_,_,e,_⟩:=h;rw [e];rfl) | (obtain⟨_,_,_,_,_,_,_,e,_⟩:=h;rw [e];rfl) | (obtain⟨_,_,_,_,_,_,_,_,e,_⟩:=h;rw [e];rfl) | (obtain⟨_,_,_,_,_,_,_,_,_,e,_⟩:=h;rw [e];rfl)) E6
  have yb:dn G 3 "_law_spoilt" fF:=B9.fg (k:=2) hK Ln (Nj E (bC.mono ∅) (u9.mono ∅)) (λds Q h=>by first | (unfold fF at h;split at h<;>first | rfl | exact h.elim) | (obtain⟨e,_⟩:=h;rw [e];rfl) | (obtain⟨_,e,_⟩:=h;rw [e];rfl) | (obtain⟨_,_,e,_⟩:=h;rw [e];rfl) | (obtain⟨_,_,_,e,_⟩:=h;rw [e];rfl) | (obtain⟨_,_,_,_,e,_⟩:=h;rw [e];rfl) | (obtain⟨_,_,_,_,_,e,_⟩:=h;rw [e];rfl) | (obtain⟨_,_,_,_,_,_,e,_⟩:=h;rw [e];rfl) | (obtain⟨_,_,_,_,_,_,_,e,_⟩:=h;rw [e];rfl) | (obtain⟨_,_,_,_,_,_,_,_,e,_⟩:=h;rw [e];rfl) | (obtain⟨_,_,_,_,_,_,_,_,_,e,_⟩:=h;rw [e];rfl)) vT
  refine(AG (k:=6) (sp:=jS) hK uA.F Ge (IK E (u0.mono ∅) (va.mono ∅) (C5.mono ∅) (bC.mono ∅) (kM.mono ∅) (u6.mono ∅) (yb.mono ∅)) (λds Q h=>by first | (unfold jS at h;split at h<;>first | rfl | exact h.elim) | (obtain⟨e,_⟩:=h;rw [e];rfl) | (obtain⟨_,e,_⟩:=h;rw [e];rfl) | (obtain⟨_,_,e,_⟩:=h;rw [e];rfl) | (obtain⟨_,_,_,e,_⟩:=h;rw [e];rfl) | (obtain⟨_,_,_,_,e,_⟩:=h;rw [e];rfl) | (obtain⟨_,_,_,_,_,e,_⟩:=h;rw [e];rfl) | (obtain⟨_,_,_,_,_,_,e,_⟩:=h;rw [e];rfl) | (obtain⟨_,_,_,_,_,_,_,e,_⟩:=h;rw [e];rfl) | (obtain⟨_,_,_,_,_,_,_,_,e,_⟩:=h;rw [e];rfl) | (obtain⟨_,_,_,_,_,_,_,_,_,e,_⟩:=h;rw [e];rfl)) yT).imp λvs H Q E' h=>?_
  obtain⟨a,ns,rfl,hS,hl,q⟩:=h;refine⟨H,[.fP ns],λb=>b = .sh (.bl true),⟨ax.refl _,λq hq=>by rw [hT]at hq;cases hq⟩,.cons (.fP (by rw [<- hK];exact hS)) .nil,⟨ns,rfl,hl,rfl⟩,λv H' F' b _ _ _ _ r e=>?_⟩
  subst e;have r:Rep F' v (.bl true):=r;cases r;exact q H'
end
open PySem.W in
theorem all_mk{l:OpenLaw} {w:World} {K:Frag} {h:Heap} {mg:Str -> Option Value} {fa:Addr} (X:K.In h) (Gs:h.Ns mainGlobals mg) (Rl:mg "law" = some (.ref fa))
    {uR:Addr} {Kq HK:Option Addr} {LI:Array (Option Value)} {Kf JQ Ir KW Ax Ie:Value}
    {uK:Addr} {Ki HD:Option Addr} {Lw:Array (Option Value)} {J8 JI Ii KN Ao HW:Value}
    {uL:Addr} {Kj HE:Option Addr} {Lx:Array (Option Value)} {J9 JK Ij KO Ap HX:Value}
    {uN:Addr} {Kl HG:Option Addr} {Lz:Array (Option Value)} {Kb JM Il KQ As HZ:Value}
    {uT:Addr} {Ks HM:Option Addr} {LK:Array (Option Value)} {Kh JS Iv KZ Az Ih:Value}
    {nR:Addr} {El Bw:Option Addr} {Gn:Array (Option Value)} {D8 DH Cj Fv tZ BQ:Value}
    {uS:Addr} {Kr HL:Option Addr} {LJ:Array (Option Value)} {Kg JR Iu KY Ay Ig:Value}
    {uM:Addr} {Kk HF:Option Addr} {Ly:Array (Option Value)} {Ka JL Ik KP Aq HY:Value}
    {nW:Addr} {Ep BD:Option Addr} {Gu:Array (Option Value)} {Ec DL Cq Fz t9 BW:Value}
    {nO:Addr} {Ei Bt:Option Addr} {Gj:Array (Option Value)} {D5 DE Ce Fs tW BM:Value}
    {uP:Addr} {Kn HI:Option Addr} {LC:Array (Option Value)} {Kd JO Io KS Av Ib:Value}
    {nU:Addr} {En Bz:Option Addr} {Gq:Array (Option Value)} {Ea DJ Cm Fx t6 BU:Value}
    {nP:Addr} {Ej Bu:Option Addr} {Gk:Array (Option Value)} {D6 DF Cg Ft tX BO:Value}
    {nX:Addr} {Er BE:Option Addr} {Gv:Array (Option Value)} {Ee DM Cr FA ua BX:Value}
    {nV:Addr} {Eo BA:Option Addr} {Gr:Array (Option Value)} {Eb DK Cp Fy t7 BV:Value}
    {uQ:Addr} {Ko HJ:Option Addr} {LD:Array (Option Value)} {Ke JP Iq KU Aw Ic:Value}
    {uO:Addr} {Km HH:Option Addr} {LA:Array (Option Value)} {Kc JN Im KR Au Ia:Value}
    {nZ:Addr} {Et BG:Option Addr} {Gx:Array (Option Value)} {Eg DP Cu FD uc B1:Value}
    {nY:Addr} {Es BF:Option Addr} {Gw:Array (Option Value)} {Ef DN Ct FC ub BZ:Value}
    {nQ:Addr} {Ek Bv:Option Addr} {Gm:Array (Option Value)} {D7 DG Ci Fu tY BP:Value}
    {nS:Addr} {Em Bx:Option Addr} {Gp:Array (Option Value)} {D9 DI Ck Fw t5 BR:Value}
    {kJ:Addr} {Eu tS:Option Addr} {Gy:Array (Option Value)} {Eh vy uB v9 pk uf:Value}
    {aR:Addr}
    {bW:Addr}
    {cZ:Addr}
    {cj:Addr}
    {cf:Addr}
    {bU:Addr}
    {cm:Addr}
    {cg:Addr}
    {cD:Addr}
    {cC:Addr}
    {ck:Addr}
    {pY:Tok}
    {i9:Tok}
    {pZ:Tok}
    (a_q7:nsIn K mainGlobals "need_count" = some (some (.ref uR)))
    (l_q7:K.lookup uR = some ⟨Kf,Kq,.func (fnOf "need_count" "need_count" (a5 mV) (ay mV) (ai mV) .none JQ Ir KW HK Ax Ie),LI⟩)
    (c_q7:codeIn K Ax "need_count" = true) (k_q7:keepIn K (.ref uR) = true)
    (a_q0:nsIn K mainGlobals "need_as_many_numbers" = some (some (.ref uK)))
    (l_q0:K.lookup uK = some ⟨J8,Ki,.func (fnOf "need_as_many_numbers" "need_as_many_numbers" (a5 mM) (ay mM) (ai mM) .none JI Ii KN HD Ao HW),Lw⟩)
    (c_q0:codeIn K Ao "need_as_many_numbers" = true) (k_q0:keepIn K (.ref uK) = true)
    (a_q1:nsIn K mainGlobals "need_points" = some (some (.ref uL)))
    (l_q1:K.lookup uL = some ⟨J9,Kj,.func (fnOf "need_points" "need_points" (a5 mO) (ay mO) (ai mO) .none JK Ij KO HE Ap HX),Lx⟩)
    (c_q1:codeIn K Ap "need_points" = true) (k_q1:keepIn K (.ref uL) = true)
    (a_q3:nsIn K mainGlobals "is_figures" = some (some (.ref uN)))
    (l_q3:K.lookup uN = some ⟨Kb,Kl,.func (fnOf "is_figures" "is_figures" (a5 mQ) (ay mQ) (ai mQ) .none JM Il KQ HG As HZ),Lz⟩)
    (c_q3:codeIn K As "is_figures" = true) (k_q3:keepIn K (.ref uN) = true)
    (a_q9:nsIn K mainGlobals "is_number" = some (some (.ref uT)))
    (l_q9:K.lookup uT = some ⟨Kh,Ks,.func (fnOf "is_number" "is_number" (a5 mX) (ay mX) (ai mX) .none JS Iv KZ HM Az Ih),LK⟩)
    (c_q9:codeIn K Az "is_number" = true) (k_q9:keepIn K (.ref uT) = true)
    (a_q13:nsIn K mainGlobals "is_point" = some (some (.ref nR)))
    (l_q13:K.lookup nR = some ⟨D8,El,.func (fnOf "is_point" "is_point" (a5 gO) (ay gO) (ai gO) .none DH Cj Fv Bw tZ BQ),Gn⟩)
    (c_q13:codeIn K tZ "is_point" = true) (k_q13:keepIn K (.ref nR) = true)
    (a_q8:nsIn K mainGlobals "point_from" = some (some (.ref uS)))
    (l_q8:K.lookup uS = some ⟨Kg,Kr,.func (fnOf "point_from" "point_from" (a5 mW) (ay mW) (ai mW) .none JR Iu KY HL Ay Ig),LJ⟩)
    (c_q8:codeIn K Ay "point_from" = true) (k_q8:keepIn K (.ref uS) = true)
    (a_q2:nsIn K mainGlobals "read_points" = some (some (.ref uM)))
    (l_q2:K.lookup uM = some ⟨Ka,Kk,.func (fnOf "read_points" "read_points" (a5 mP) (ay mP) (ai mP) .none JL Ik KP HF Aq HY),Ly⟩)
    (c_q2:codeIn K Aq "read_points" = true) (k_q2:keepIn K (.ref uM) = true)
    (a_q17:nsIn K mainGlobals "_law_stir" = some (some (.ref nW)))
    (l_q17:K.lookup nW = some ⟨Ec,Ep,.func (fnOf "_law_stir" "_law_stir" (a5 gS) (ay gS) (ai gS) .none DL Cq Fz BD t9 BW),Gu⟩)
    (c_q17:codeIn K t9 "_law_stir" = true) (k_q17:keepIn K (.ref nW) = true)
    (a_q10:nsIn K mainGlobals "_law_cells" = some (some (.ref nO)))
    (l_q10:K.lookup nO = some ⟨D5,Ei,.func (fnOf "_law_cells" "_law_cells" (a5 gL) (ay gL) (ai gL) .none DE Ce Fs Bt tW BM),Gj⟩)
    (c_q10:codeIn K tW "_law_cells" = true) (k_q10:keepIn K (.ref nO) = true)
    (a_q5:nsIn K mainGlobals "_law_points" = some (some (.ref uP)))
    (l_q5:K.lookup uP = some ⟨Kd,Kn,.func (fnOf "_law_points" "_law_points" (a5 mS) (ay mS) (ai mS) .none JO Io KS HI Av Ib),LC⟩)
    (c_q5:codeIn K Av "_law_points" = true) (k_q5:keepIn K (.ref uP) = true)
    (a_q15:nsIn K mainGlobals "_law_same" = some (some (.ref nU)))
    (l_q15:K.lookup nU = some ⟨Ea,En,.func (fnOf "_law_same" "_law_same" (a5 gQ) (ay gQ) (ai gQ) .none DJ Cm Fx Bz t6 BU),Gq⟩)
    (c_q15:codeIn K t6 "_law_same" = true) (k_q15:keepIn K (.ref nU) = true)
    (a_q11:nsIn K mainGlobals "_law_flags" = some (some (.ref nP)))
    (l_q11:K.lookup nP = some ⟨D6,Ej,.func (fnOf "_law_flags" "_law_flags" (a5 gM) (ay gM) (ai gM) .none DF Cg Ft Bu tX BO),Gk⟩)
    (c_q11:codeIn K tX "_law_flags" = true) (k_q11:keepIn K (.ref nP) = true)
    (a_q18:nsIn K mainGlobals "_law_text" = some (some (.ref nX)))
    (l_q18:K.lookup nX = some ⟨Ee,Er,.func (fnOf "_law_text" "_law_text" (a5 gT) (ay gT) (ai gT) .none DM Cr FA BE ua BX),Gv⟩)
    (c_q18:codeIn K ua "_law_text" = true) (k_q18:keepIn K (.ref nX) = true)
    (a_q16:nsIn K mainGlobals "_law_sign" = some (some (.ref nV)))
    (l_q16:K.lookup nV = some ⟨Eb,Eo,.func (fnOf "_law_sign" "_law_sign" (a5 gR) (ay gR) (ai gR) .none DK Cp Fy BA t7 BV),Gr⟩)
    (c_q16:codeIn K t7 "_law_sign" = true) (k_q16:keepIn K (.ref nV) = true)
    (a_q6:nsIn K mainGlobals "_law_spoilt" = some (some (.ref uQ)))
    (l_q6:K.lookup uQ = some ⟨Ke,Ko,.func (fnOf "_law_spoilt" "_law_spoilt" (a5 mU) (ay mU) (ai mU) .none JP Iq KU HJ Aw Ic),LD⟩)
    (c_q6:codeIn K Aw "_law_spoilt" = true) (k_q6:keepIn K (.ref uQ) = true)
    (a_q4:nsIn K mainGlobals "_law_number" = some (some (.ref uO)))
    (l_q4:K.lookup uO = some ⟨Kc,Km,.func (fnOf "_law_number" "_law_number" (a5 mR) (ay mR) (ai mR) .none JN Im KR HH Au Ia),LA⟩)
    (c_q4:codeIn K Au "_law_number" = true) (k_q4:keepIn K (.ref uO) = true)
    (a_q20:nsIn K mainGlobals "_law_due" = some (some (.ref nZ)))
    (l_q20:K.lookup nZ = some ⟨Eg,Et,.func (fnOf "_law_due" "_law_due" (a5 gV) (ay gV) (ai gV) .none DP Cu FD BG uc B1),Gx⟩)
    (c_q20:codeIn K uc "_law_due" = true) (k_q20:keepIn K (.ref nZ) = true)
    (a_q19:nsIn K mainGlobals "_law_told" = some (some (.ref nY)))
    (l_q19:K.lookup nY = some ⟨Ef,Es,.func (fnOf "_law_told" "_law_told" (a5 gU) (ay gU) (ai gU) .none DN Ct FC BF ub BZ),Gw⟩)
    (c_q19:codeIn K ub "_law_told" = true) (k_q19:keepIn K (.ref nY) = true)
    (a_q12:nsIn K mainGlobals "_law_right" = some (some (.ref nQ)))
    (l_q12:K.lookup nQ = some ⟨D7,Ek,.func (fnOf "_law_right" "_law_right" (a5 gN) (ay gN) (ai gN) .none DG Ci Fu Bv tY BP),Gm⟩)
    (c_q12:codeIn K tY "_law_right" = true) (k_q12:keepIn K (.ref nQ) = true)
    (a_q14:nsIn K mainGlobals "_law_free" = some (some (.ref nS)))
    (l_q14:K.lookup nS = some ⟨D9,Em,.func (fnOf "_law_free" "_law_free" (a5 gP) (ay gP) (ai gP) .none DI Ck Fw Bx t5 BR),Gp⟩)
    (c_q14:codeIn K t5 "_law_free" = true) (k_q14:keepIn K (.ref nS) = true)
    (a_q21:nsIn K mainGlobals "law" = some (some (.ref kJ)))
    (l_q21:K.lookup kJ = some ⟨Eh,Eu,.func (fnOf "law" "law" (a5 eD) (ay eD) (ai eD) .none vy uB v9 tS pk uf),Gy⟩)
    (c_q21:codeIn K pk "law" = true) (k_q21:keepIn K (.ref kJ) = true)
    (g_NearError:nsIn K mainGlobals "NearError" = some (some (.ref aR)))
    (e_NearError:excIn K aR lF "ValueError.__new__" = true) (m_NearError:Vc.mroIn K aR = [.ref aR,.type "ValueError",.type "Exception",.type "BaseException",.type "object"]) (w_NearError:Vx.cQ K aR = true)
    (g_NoPoints:nsIn K mainGlobals "NoPoints" = some (some (.ref bW)))
    (e_NoPoints:excIn K bW lF "ValueError.__new__" = true) (m_NoPoints:Vc.mroIn K bW = [.ref bW,.ref aR,.type "ValueError",.type "Exception",.type "BaseException",.type "object"]) (w_NoPoints:Vx.cQ K bW = true)
    (g_NoWay:nsIn K mainGlobals "NoWay" = some (some (.ref cZ)))
    (e_NoWay:excIn K cZ lF "ValueError.__new__" = true) (m_NoWay:Vc.mroIn K cZ = [.ref cZ,.ref aR,.type "ValueError",.type "Exception",.type "BaseException",.type "object"]) (w_NoWay:Vx.cQ K cZ = true)
    (g_NoPlace:nsIn K mainGlobals "NoPlace" = some (some (.ref cj)))
    (e_NoPlace:excIn K cj lF "ValueError.__new__" = true) (m_NoPlace:Vc.mroIn K cj = [.ref cj,.ref aR,.type "ValueError",.type "Exception",.type "BaseException",.type "object"]) (w_NoPlace:Vx.cQ K cj = true)
    (g_NoBound:nsIn K mainGlobals "NoBound" = some (some (.ref cf)))
    (e_NoBound:excIn K cf lF "ValueError.__new__" = true) (m_NoBound:Vc.mroIn K cf = [.ref cf,.ref aR,.type "ValueError",.type "Exception",.type "BaseException",.type "object"]) (w_NoBound:Vx.cQ K cf = true)
    (g_NoNumber:nsIn K mainGlobals "NoNumber" = some (some (.ref bU)))
    (e_NoNumber:excIn K bU lF "ValueError.__new__" = true) (m_NoNumber:Vc.mroIn K bU = [.ref bU,.ref aR,.type "ValueError",.type "Exception",.type "BaseException",.type "object"]) (w_NoNumber:Vx.cQ K bU = true)
    (g_TooMany:nsIn K mainGlobals "TooMany" = some (some (.ref cm)))
    (e_TooMany:excIn K cm lF "ValueError.__new__" = true) (m_TooMany:Vc.mroIn K cm = [.ref cm,.ref aR,.type "ValueError",.type "Exception",.type "BaseException",.type "object"]) (w_TooMany:Vx.cQ K cm = true)
    (g_NoPaper:nsIn K mainGlobals "NoPaper" = some (some (.ref cg)))
    (e_NoPaper:excIn K cg lF "ValueError.__new__" = true) (m_NoPaper:Vc.mroIn K cg = [.ref cg,.ref aR,.type "ValueError",.type "Exception",.type "BaseException",.type "object"]) (w_NoPaper:Vx.cQ K cg = true)
    (g_NoText:nsIn K mainGlobals "NoText" = some (some (.ref cD)))
    (e_NoText:excIn K cD lF "ValueError.__new__" = true) (m_NoText:Vc.mroIn K cD = [.ref cD,.ref aR,.type "ValueError",.type "Exception",.type "BaseException",.type "object"]) (w_NoText:Vx.cQ K cD = true)
    (g_NoForm:nsIn K mainGlobals "NoForm" = some (some (.ref cC)))
    (e_NoForm:excIn K cC lF "ValueError.__new__" = true) (m_NoForm:Vc.mroIn K cC = [.ref cC,.ref aR,.type "ValueError",.type "Exception",.type "BaseException",.type "object"]) (w_NoForm:Vx.cQ K cC = true)
    (g_NoneYet:nsIn K mainGlobals "NoneYet" = some (some (.ref ck)))
    (e_NoneYet:excIn K ck lF "ValueError.__new__" = true) (m_NoneYet:Vc.mroIn K ck = [.ref ck,.ref aR,.type "ValueError",.type "Exception",.type "BaseException",.type "object"]) (w_NoneYet:Vx.cQ K ck = true)
    (nd_cls:[aR,bW,cZ,cj,cf,bU,cm,cg,cD,cC,ck].Nodup)
    (z_ValueError:nsIn K mainGlobals "ValueError" = some none)
    (z_all:nsIn K mainGlobals "all" = some none)
    (z_bool:nsIn K mainGlobals "bool" = some none)
    (z_enumerate:nsIn K mainGlobals "enumerate" = some none)
    (z_int:nsIn K mainGlobals "int" = some none)
    (z_isinstance:nsIn K mainGlobals "isinstance" = some none)
    (z_len:nsIn K mainGlobals "len" = some none)
    (z_list:nsIn K mainGlobals "list" = some none)
    (z_max:nsIn K mainGlobals "max" = some none)
    (z_min:nsIn K mainGlobals "min" = some none)
    (z_range:nsIn K mainGlobals "range" = some none)
    (z_set:nsIn K mainGlobals "set" = some none)
    (z_str:nsIn K mainGlobals "str" = some none)
    (z_sum:nsIn K mainGlobals "sum" = some none)
    (z_tuple:nsIn K mainGlobals "tuple" = some none)
    (z_zip:nsIn K mainGlobals "zip" = some none)
    (u_FIGURES:nsIn K mainGlobals "FIGURES" = some (some (.str "0123456789" pY)))
    (u_MOST_FIGURES:nsIn K mainGlobals "MOST_FIGURES" = some (some (.int (15) i9)))
    (u_NOTHING:nsIn K mainGlobals "NOTHING" = some (some (.str "none" pZ))):
    ∃fd:FuncData,(∀(s:Shared) (v:Value),BindsTo s fd ⟨[v],[]⟩ [("script",v)]) /\ ∀base:Heap,K.In base -> base.Ns mainGlobals mg -> dy l.prog w K mg base qd 7 fa fd ["script"] (rg K):=by
  have e:=Rl.symm.trans (mg_of X Gs a_q21);cases e;refine⟨fnOf "law" "law" (a5 eD) (ay eD) (ai eD) .none vy uB v9 tS pk uf,λs v=>.of_eq rfl,λbase _ _=>?_⟩
  letI:KF:=⟨K,λx=>if x = "NearError" then aR else if x = "NoPoints" then bW else if x = "NoWay" then cZ else if x = "NoPlace" then cj else if x = "NoBound" then cf else if x = "NoNumber" then bU else if x = "TooMany" then cm else if x = "NoPaper" then cg else if x = "NoText" then cD else if x = "NoForm" then cC else if x = "NoneYet" then ck else 0,[]⟩
  have aZ:KF.cls "NearError" = aR:=if_pos rfl;have c9:KF.cls "NoPoints" = bW:=(if_neg ∅).trans <| if_pos rfl
  have gA:KF.cls "NoWay" = cZ:=(if_neg ∅).trans <| (if_neg ∅).trans <| if_pos rfl
  have dG:KF.cls "NoPlace" = cj:=(if_neg ∅).trans <| (if_neg ∅).trans <| (if_neg ∅).trans <| if_pos rfl
  have dE:KF.cls "NoBound" = cf:=(if_neg ∅).trans <| (if_neg ∅).trans <| (if_neg ∅).trans <| (if_neg ∅).trans <| if_pos rfl
  have c7:KF.cls "NoNumber" = bU:=(if_neg ∅).trans <| (if_neg ∅).trans <| (if_neg ∅).trans <| (if_neg ∅).trans <| (if_neg ∅).trans <| if_pos rfl
  have dI:KF.cls "TooMany" = cm:=(if_neg ∅).trans <| (if_neg ∅).trans <| (if_neg ∅).trans <| (if_neg ∅).trans <| (if_neg ∅).trans <| (if_neg ∅).trans <| if_pos rfl
  have dF:KF.cls "NoPaper" = cg:=(if_neg ∅).trans <| (if_neg ∅).trans <| (if_neg ∅).trans <| (if_neg ∅).trans <| (if_neg ∅).trans <| (if_neg ∅).trans <| (if_neg ∅).trans <| if_pos rfl
  have eU:KF.cls "NoText" = cD:=(if_neg ∅).trans <| (if_neg ∅).trans <| (if_neg ∅).trans <| (if_neg ∅).trans <| (if_neg ∅).trans <| (if_neg ∅).trans <| (if_neg ∅).trans <| (if_neg ∅).trans <| if_pos rfl
  have eS:KF.cls "NoForm" = cC:=(if_neg ∅).trans <| (if_neg ∅).trans <| (if_neg ∅).trans <| (if_neg ∅).trans <| (if_neg ∅).trans <| (if_neg ∅).trans <| (if_neg ∅).trans <| (if_neg ∅).trans <| (if_neg ∅).trans <| if_pos rfl
  have dH:KF.cls "NoneYet" = ck:=(if_neg ∅).trans <| (if_neg ∅).trans <| (if_neg ∅).trans <| (if_neg ∅).trans <| (if_neg ∅).trans <| (if_neg ∅).trans <| (if_neg ∅).trans <| (if_neg ∅).trans <| (if_neg ∅).trans <| (if_neg ∅).trans <| if_pos rfl
  have xc:gk ⟨l.prog,w,K,mg,base⟩ MY.XL:=by
    refine⟨⟨λc hc=>?_,λc hc=>?_,λc hc d hd e=>?_,by decide⟩,λc hc=>?_⟩
    · simp only [MY.XL,List.mem_cons,List.not_mem_nil,or_false]at hc
      rcases hc with rfl | rfl | rfl | rfl | rfl | rfl | rfl | rfl | rfl | rfl | rfl
      · exact⟨by rw [aZ];exact mg_of X Gs g_NearError,by rw [aZ];exact e_NearError⟩
      · exact⟨by rw [c9];exact mg_of X Gs g_NoPoints,by rw [c9];exact e_NoPoints⟩
      · exact⟨by rw [gA];exact mg_of X Gs g_NoWay,by rw [gA];exact e_NoWay⟩
      · exact⟨by rw [dG];exact mg_of X Gs g_NoPlace,by rw [dG];exact e_NoPlace⟩
      · exact⟨by rw [dE];exact mg_of X Gs g_NoBound,by rw [dE];exact e_NoBound⟩
      · exact⟨by rw [c7];exact mg_of X Gs g_NoNumber,by rw [c7];exact e_NoNumber⟩
      · exact⟨by rw [dI];exact mg_of X Gs g_TooMany,by rw [dI];exact e_TooMany⟩
      · exact⟨by rw [dF];exact mg_of X Gs g_NoPaper,by rw [dF];exact e_NoPaper⟩
      · exact⟨by rw [eU];exact mg_of X Gs g_NoText,by rw [eU];exact e_NoText⟩
      · exact⟨by rw [eS];exact mg_of X Gs g_NoForm,by rw [eS];exact e_NoForm⟩
      · exact⟨by rw [dH];exact mg_of X Gs g_NoneYet,by rw [dH];exact e_NoneYet⟩
    · simp only [MY.XL,List.mem_cons,List.not_mem_nil,or_false]at hc
      rcases hc with rfl | rfl | rfl | rfl | rfl | rfl | rfl | rfl | rfl | rfl | rfl
      · rw [aZ];exact m_NearError
      · rw [c9,aZ];exact m_NoPoints
      · rw [gA,aZ];exact m_NoWay
      · rw [dG,aZ];exact m_NoPlace
      · rw [dE,aZ];exact m_NoBound
      · rw [c7,aZ];exact m_NoNumber
      · rw [dI,aZ];exact m_TooMany
      · rw [dF,aZ];exact m_NoPaper
      · rw [eU,aZ];exact m_NoText
      · rw [eS,aZ];exact m_NoForm
      · rw [dH,aZ];exact m_NoneYet
    · exact xP (cs:=MY.XL) (as:=[aR,bW,cZ,cj,cf,bU,cm,cg,cD,cC,ck]) (by simp only [MY.XL,List.map_cons,List.map_nil,aZ,c9,gA,dG,dE,c7,dI,dF,eU,eS,dH]) nd_cls hc hd e
    · simp only [MY.XL,List.mem_cons,List.not_mem_nil,or_false]at hc
      rcases hc with rfl | rfl | rfl | rfl | rfl | rfl | rfl | rfl | rfl | rfl | rfl
      · rw [aZ];exact w_NearError
      · rw [c9];exact w_NoPoints
      · rw [gA];exact w_NoWay
      · rw [dG];exact w_NoPlace
      · rw [dE];exact w_NoBound
      · rw [c7];exact w_NoNumber
      · rw [dI];exact w_TooMany
      · rw [dF];exact w_NoPaper
      · rw [eU];exact w_NoText
      · rw [eS];exact w_NoForm
      · rw [dH];exact w_NoneYet
  have E:Gl ⟨l.prog,w,K,mg,base⟩:=⟨xc,mg_none_of X Gs z_ValueError,mg_none_of X Gs z_all,mg_none_of X Gs z_bool,mg_none_of X Gs z_enumerate,mg_none_of X Gs z_int,mg_none_of X Gs z_isinstance,mg_none_of X Gs z_len,mg_none_of X Gs z_list,mg_none_of X Gs z_max,mg_none_of X Gs z_min,mg_none_of X Gs z_range,mg_none_of X Gs z_set,mg_none_of X Gs z_str,mg_none_of X Gs z_sum,mg_none_of X Gs z_tuple,mg_none_of X Gs z_zip,⟨_,.str "0123456789",mg_of X Gs u_FIGURES,⟨_,rfl⟩,λF=>.str _⟩,⟨_,.int (15),mg_of X Gs u_MOST_FIGURES,⟨_,rfl⟩,λF=>.int _⟩,⟨_,.str "none",mg_of X Gs u_NOTHING,⟨_,rfl⟩,λF=>.str _⟩⟩;have Hv:=bJ (K:=K) (st:=mV) l_q7 c_q7 k_q7;have Ca:cS ⟨l.prog,w,K,mg,base⟩ "need_count" mV ["count"] _ _:=⟨Hv,mg_of X Gs a_q7,Hv.binds λ_ _ _ _ _ _ us hl=>o8 (λ_=>rfl) us hl⟩;have Hn:=bJ (K:=K) (st:=mM) l_q0 c_q0 k_q0;have B3:cS ⟨l.prog,w,K,mg,base⟩ "need_as_many_numbers" mM ["point","count"] _ _:=⟨Hn,mg_of X Gs a_q0,Hn.binds λ_ _ _ _ _ _ us hl=>ln2 (λ_ _=>rfl) us hl⟩;have Ho:=bJ (K:=K) (st:=mO) l_q1 c_q1 k_q1;have B4:cS ⟨l.prog,w,K,mg,base⟩ "need_points" mO ["points"] _ _:=⟨Ho,mg_of X Gs a_q1,Ho.binds λ_ _ _ _ _ _ us hl=>o8 (λ_=>rfl) us hl⟩;have Hr:=bJ (K:=K) (st:=mQ) l_q3 c_q3 k_q3;have B6:cS ⟨l.prog,w,K,mg,base⟩ "is_figures" mQ ["word","most"] _ _:=⟨Hr,mg_of X Gs a_q3,Hr.binds λ_ _ _ _ _ _ us hl=>ln2 (λ_ _=>rfl) us hl⟩;have Hx:=bJ (K:=K) (st:=mX) l_q9 c_q9 k_q9;have Cd:cS ⟨l.prog,w,K,mg,base⟩ "is_number" mX ["word"] _ _:=⟨Hx,mg_of X Gs a_q9,Hx.binds λ_ _ _ _ _ _ us hl=>o8 (λ_=>rfl) us hl⟩;have Ae:=bJ (K:=K) (st:=gO) l_q13 c_q13 k_q13;have um:cS ⟨l.prog,w,K,mg,base⟩ "is_point" gO ["word"] _ _:=⟨Ae,mg_of X Gs a_q13,Ae.binds λ_ _ _ _ _ _ us hl=>o8 (λ_=>rfl) us hl⟩;have Hw:=bJ (K:=K) (st:=mW) l_q8 c_q8 k_q8;have Cb:cS ⟨l.prog,w,K,mg,base⟩ "point_from" mW ["word"] _ _:=⟨Hw,mg_of X Gs a_q8,Hw.binds λ_ _ _ _ _ _ us hl=>o8 (λ_=>rfl) us hl⟩;have Hq:=bJ (K:=K) (st:=mP) l_q2 c_q2 k_q2;have B5:cS ⟨l.prog,w,K,mg,base⟩ "read_points" mP ["text"] _ _:=⟨Hq,mg_of X Gs a_q2,Hq.binds λ_ _ _ _ _ _ us hl=>o8 (λ_=>rfl) us hl⟩;have Ai:=bJ (K:=K) (st:=gS) l_q17 c_q17 k_q17;have ur:cS ⟨l.prog,w,K,mg,base⟩ "_law_stir" gS ["cell","k"] _ _:=⟨Ai,mg_of X Gs a_q17,Ai.binds λ_ _ _ _ _ _ us hl=>ln2 (λ_ _=>rfl) us hl⟩;have Ab:=bJ (K:=K) (st:=gL) l_q10 c_q10 k_q10;have ug:cS ⟨l.prog,w,K,mg,base⟩ "_law_cells" gL ["script","many"] _ _:=⟨Ab,mg_of X Gs a_q10,Ab.binds λ_ _ _ _ _ _ us hl=>ln2 (λ_ _=>rfl) us hl⟩;have Ht:=bJ (K:=K) (st:=mS) l_q5 c_q5 k_q5;have B8:cS ⟨l.prog,w,K,mg,base⟩ "_law_points" mS ["cell","most"] _ _:=⟨Ht,mg_of X Gs a_q5,Ht.binds λ_ _ _ _ _ _ us hl=>ln2 (λ_ _=>rfl) us hl⟩
  have Ag:=bJ (K:=K) (st:=gQ) l_q15 c_q15 k_q15;have kI:cS ⟨l.prog,w,K,mg,base⟩ "_law_same" gQ ["found","due"] _ _:=⟨Ag,mg_of X Gs a_q15,Ag.binds λ_ _ _ _ _ _ us hl=>ln2 (λ_ _=>rfl) us hl⟩;have Ac:=bJ (K:=K) (st:=gM) l_q11 c_q11 k_q11;have uh:cS ⟨l.prog,w,K,mg,base⟩ "_law_flags" gM ["e"] _ _:=⟨Ac,mg_of X Gs a_q11,Ac.binds λ_ _ _ _ _ _ us hl=>o8 (λ_=>rfl) us hl⟩;have Aj:=bJ (K:=K) (st:=gT) l_q18 c_q18 k_q18;have uw:cS ⟨l.prog,w,K,mg,base⟩ "_law_text" gT ["points"] _ _:=⟨Aj,mg_of X Gs a_q18,Aj.binds λ_ _ _ _ _ _ us hl=>o8 (λ_=>rfl) us hl⟩;have Ah:=bJ (K:=K) (st:=gR) l_q16 c_q16 k_q16;have uq:cS ⟨l.prog,w,K,mg,base⟩ "_law_sign" gR ["cell","k"] _ _:=⟨Ah,mg_of X Gs a_q16,Ah.binds λ_ _ _ _ _ _ us hl=>ln2 (λ_ _=>rfl) us hl⟩;have Hu:=bJ (K:=K) (st:=mU) l_q6 c_q6 k_q6;have B9:cS ⟨l.prog,w,K,mg,base⟩ "_law_spoilt" mU ["cell","k","text"] _ _:=⟨Hu,mg_of X Gs a_q6,Hu.binds λ_ _ _ _ _ _ us hl=>OC (λ_ _ _=>rfl) us hl⟩;have Hs:=bJ (K:=K) (st:=mR) l_q4 c_q4 k_q4;have B7:cS ⟨l.prog,w,K,mg,base⟩ "_law_number" mR ["word"] _ _:=⟨Hs,mg_of X Gs a_q4,Hs.binds λ_ _ _ _ _ _ us hl=>o8 (λ_=>rfl) us hl⟩;have Al:=bJ (K:=K) (st:=gV) l_q20 c_q20 k_q20;have uy:cS ⟨l.prog,w,K,mg,base⟩ "_law_due" gV ["text"] _ _:=⟨Al,mg_of X Gs a_q20,Al.binds λ_ _ _ _ _ _ us hl=>o8 (λ_=>rfl) us hl⟩;have Ak:=bJ (K:=K) (st:=gU) l_q19 c_q19 k_q19;have ux:cS ⟨l.prog,w,K,mg,base⟩ "_law_told" gU ["text"] _ _:=⟨Ak,mg_of X Gs a_q19,Ak.binds λ_ _ _ _ _ _ us hl=>o8 (λ_=>rfl) us hl⟩;have Ad:=bJ (K:=K) (st:=gN) l_q12 c_q12 k_q12;have uk:cS ⟨l.prog,w,K,mg,base⟩ "_law_right" gN ["text"] _ _:=⟨Ad,mg_of X Gs a_q12,Ad.binds λ_ _ _ _ _ _ us hl=>o8 (λ_=>rfl) us hl⟩;have Af:=bJ (K:=K) (st:=gP) l_q14 c_q14 k_q14;have uo:cS ⟨l.prog,w,K,mg,base⟩ "_law_free" gP ["cell"] _ _:=⟨Af,mg_of X Gs a_q14,Af.binds λ_ _ _ _ _ _ us hl=>o8 (λ_=>rfl) us hl⟩;have Am:=bJ (K:=K) (st:=eD) l_q21 c_q21 k_q21;have uA:cS ⟨l.prog,w,K,mg,base⟩ "law" eD ["script"] _ _:=⟨Am,mg_of X Gs a_q21,Am.binds λ_ _ _ _ _ _ us hl=>o8 (λ_=>rfl) us hl⟩;exact Ey rfl rfl E Ca B3 B4 B6 Cd um Cb B5 ur ug B8 kI uh uw uq B9 B7 uy ux uk uo uA
theorem walk{l:PySem.W.OpenLaw} {q:Program} {loose:List Str} {XP:(Str -> Option Value) -> Heap -> Prop} {YP:World -> Heap -> Prop} {d:DefRec} {K:Params -> PySem.W.Frag} (hn:l.most = some 63) (Jm:d.params.defaults = [])
    (hY:∀(w:World) (h:Heap),YP w h -> (K w.params).In h)
    (F:∀(w:World) (mg:Str -> Option Value) (fa:Addr) (h:Heap),(K w.params).In h -> h.Ns mainGlobals mg -> mg d.name = some (.ref fa) ->
      ∃fd:FuncData,(∀(s:Shared) (u:Value),BindsTo s fd ⟨[u],[]⟩ [("script",u)]) /\ ∀base:Heap,(K w.params).In base -> base.Ns mainGlobals mg -> dy l.prog w (K w.params) mg base qd 7 fa fd ["script"] (rg (K w.params))):
    PySem.W.WalkO q loose XP YP l.row.toRowW d [] (λf vs=>PySem.call f vs):=
  L2.zW (n:=63) (k:=7) (x:="script") (CX:=λ_=>qd) (sp:=λw=>rg (K w.params)) hn ∅ Jm ⟨rfl,by decide,by decide⟩ hY F (λ_ _ a ns hl _ hS=>⟨a,ns,rfl,hS,hl,λ_=>rfl⟩) λ_ _ _ _ _ z=>z
end MY
namespace PySem.W.Fast
theorem tw10061155330820573290:True:=⟨⟩
theorem tw10192477257182915024:True:=⟨⟩
theorem tw10387392199631758443:True:=⟨⟩
theorem tw10534948406121952820:True:=⟨⟩
theorem tw10718264576846626874:True:=⟨⟩
theorem tw10830091980152309537:True:=⟨⟩
theorem tw11079618798217949811:True:=⟨⟩
theorem tw11087516090334823984:True:=⟨⟩
theorem tw1130597410852307370:True:=⟨⟩
theorem tw11672338739801575634:True:=⟨⟩
theorem tw11742564948038671618:True:=⟨⟩
theorem tw11749156928304100625:True:=⟨⟩
theorem tw11881774798535009203:True:=⟨⟩
theorem tw11884801121643884749:True:=⟨⟩
theorem tw1200877303402898024:True:=⟨⟩
theorem tw12026679126092296258:True:=⟨⟩
theorem tw12195018117834915421:True:=⟨⟩
theorem tw1235806393365365190:True:=⟨⟩
theorem tw12478577628715339883:True:=⟨⟩
theorem tw12594380147244302244:True:=⟨⟩
theorem tw12640662819785171463:True:=⟨⟩
theorem tw12652618192721803261:True:=⟨⟩
theorem tw1265726088071457070:True:=⟨⟩
theorem tw12700247462919109698:True:=⟨⟩
theorem tw12708022107237822131:True:=⟨⟩
theorem tw12819182570216476761:True:=⟨⟩
theorem tw13240822252524849542:True:=⟨⟩
theorem tw13413957802920587421:True:=⟨⟩
theorem tw13425245700527451025:True:=⟨⟩
theorem tw13445233427744329999:True:=⟨⟩
theorem tw13596456210967754640:True:=⟨⟩
theorem tw13904980926843333524:True:=⟨⟩
theorem tw13955749857314378736:True:=⟨⟩
theorem tw14001292241708785550:True:=⟨⟩
theorem tw14317164100980789118:True:=⟨⟩
theorem tw14371458264060174281:True:=⟨⟩
theorem tw1439172213847254624:True:=⟨⟩
theorem tw14401836663297260693:True:=⟨⟩
theorem tw14417406847538489065:True:=⟨⟩
theorem tw14675810622896647975:True:=⟨⟩
theorem tw14702018278286598473:True:=⟨⟩
theorem tw14754570860491453265:True:=⟨⟩
theorem tw14780705727907565390:True:=⟨⟩
theorem tw14782171769155214328:True:=⟨⟩
theorem tw14907785409398224750:True:=⟨⟩
theorem tw14998607639223542070:True:=⟨⟩
theorem tw15059258467012548929:True:=⟨⟩
theorem tw1513049402275967688:True:=⟨⟩
theorem tw15133981147439853693:True:=⟨⟩
theorem tw15314375006120813207:True:=⟨⟩
theorem tw15407277543142451143:True:=⟨⟩
theorem tw15410065224114640786:True:=⟨⟩
theorem tw15420290789975669394:True:=⟨⟩
theorem tw15467132410706185621:True:=⟨⟩
theorem tw15470160331471463225:True:=⟨⟩
theorem tw15664077777767974135:True:=⟨⟩
theorem tw15664533589948685913:True:=⟨⟩
theorem tw15720165925692896887:True:=⟨⟩
theorem tw1587137275852933521:True:=⟨⟩
theorem tw15882818948690260434:True:=⟨⟩
theorem tw15917023686620700927:True:=⟨⟩
theorem tw15989287089538562111:True:=⟨⟩
theorem tw16028795048753919800:True:=⟨⟩
theorem tw16120782428624689156:True:=⟨⟩
theorem tw16331319870582265921:True:=⟨⟩
theorem tw16334267224236862294:True:=⟨⟩
theorem tw16496483654544383596:True:=⟨⟩
theorem tw16626348310862727288:True:=⟨⟩
theorem tw16662849328119802908:True:=⟨⟩
theorem tw16687503931898452240:True:=⟨⟩
theorem tw16703877064278906597:True:=⟨⟩
theorem tw1676992311444276575:True:=⟨⟩
theorem tw1692755046154166899:True:=⟨⟩
theorem tw1702055975433503805:True:=⟨⟩
theorem tw17036203067190209712:True:=⟨⟩
theorem tw17098991242095543272:True:=⟨⟩
theorem tw17154393533013327348:True:=⟨⟩
theorem tw17241734043797008040:True:=⟨⟩
theorem tw17261963405710487329:True:=⟨⟩
theorem tw17361620358956381188:True:=⟨⟩
theorem tw17490335855635235775:True:=⟨⟩
theorem tw17629226580443940265:True:=⟨⟩
theorem tw17709447070938544025:True:=⟨⟩
theorem tw17747817274012985799:True:=⟨⟩
theorem tw17771435742891029171:True:=⟨⟩
theorem tw17891042664161475682:True:=⟨⟩
theorem tw17907572727249159547:True:=⟨⟩
theorem tw18023449392968586983:True:=⟨⟩
theorem tw18268547550253122171:True:=⟨⟩
theorem tw1936403941390295110:True:=⟨⟩
theorem tw1948563269286098249:True:=⟨⟩
theorem tw1949341696785587879:True:=⟨⟩
theorem tw1983517770603123186:True:=⟨⟩
theorem tw2096260710125281470:True:=⟨⟩
theorem tw2146447059918445980:True:=⟨⟩
theorem tw2214423522994474403:True:=⟨⟩
theorem tw2357627124326799755:True:=⟨⟩
theorem tw2415079152628359575:True:=⟨⟩
theorem tw2468824657710708429:True:=⟨⟩
theorem tw2636441564502926067:True:=⟨⟩
theorem tw2670181241592791792:True:=⟨⟩
theorem tw2743949153763643890:True:=⟨⟩
theorem tw2811871789181460214:True:=⟨⟩
theorem tw3003642265029808576:True:=⟨⟩
theorem tw3077947038848688296:True:=⟨⟩
theorem tw3081452931609043773:True:=⟨⟩
theorem tw3191858713618783375:True:=⟨⟩
theorem tw3339985699869343964:True:=⟨⟩
theorem tw3595300088347757046:True:=⟨⟩
theorem tw3812582892693295544:True:=⟨⟩
theorem tw4043686501453718733:True:=⟨⟩
theorem tw4132616114921783858:True:=⟨⟩
theorem tw4439205000181455249:True:=⟨⟩
theorem tw4563875740263416822:True:=⟨⟩
theorem tw4624399318015536253:True:=⟨⟩
theorem tw4638979681964267442:True:=⟨⟩
theorem tw4759744916922319816:True:=⟨⟩
theorem tw4846462021940584131:True:=⟨⟩
theorem tw4931621878675754096:True:=⟨⟩
theorem tw5057529833528272647:True:=⟨⟩
theorem tw5204554496678097907:True:=⟨⟩
theorem tw5266838697687003516:True:=⟨⟩
theorem tw5343412143698840531:True:=⟨⟩
theorem tw5555295227244167696:True:=⟨⟩
theorem tw5724430193051384987:True:=⟨⟩
theorem tw5728723132418606138:True:=⟨⟩
theorem tw5986192070227223422:True:=⟨⟩
theorem tw5988405529097183765:True:=⟨⟩
theorem tw6089548461972218939:True:=⟨⟩
theorem tw6101816041789641653:True:=⟨⟩
theorem tw6188383626665212216:True:=⟨⟩
theorem tw6277095004707064179:True:=⟨⟩
theorem tw6400208869095756213:True:=⟨⟩
theorem tw6488637229266541748:True:=⟨⟩
theorem tw6505628990415350761:True:=⟨⟩
theorem tw6620778014653438785:True:=⟨⟩
theorem tw6749988412467702226:True:=⟨⟩
theorem tw6755663045153281309:True:=⟨⟩
theorem tw678162021088936612:True:=⟨⟩
theorem tw7223030650721707804:True:=⟨⟩
theorem tw7263102135304514318:True:=⟨⟩
theorem tw7319526525054812114:True:=⟨⟩
theorem tw735873682241161195:True:=⟨⟩
theorem tw7381445106785659359:True:=⟨⟩
theorem tw7481710986205364100:True:=⟨⟩
theorem tw7486744755012510622:True:=⟨⟩
theorem tw7488758425471369032:True:=⟨⟩
theorem tw7654878036130788573:True:=⟨⟩
theorem tw7689633999976797223:True:=⟨⟩
theorem tw7778625785466782350:True:=⟨⟩
theorem tw8053279712684462739:True:=⟨⟩
theorem tw8238557698067941656:True:=⟨⟩
theorem tw83395308226220064:True:=⟨⟩
theorem tw8397987768783711529:True:=⟨⟩
theorem tw8467380531091894658:True:=⟨⟩
theorem tw8475427320995461935:True:=⟨⟩
theorem tw85375549609414145:True:=⟨⟩
theorem tw8625489229827500379:True:=⟨⟩
theorem tw8661344624887109342:True:=⟨⟩
theorem tw8682034509306001426:True:=⟨⟩
theorem tw8939230956605501411:True:=⟨⟩
theorem tw894672538754007524:True:=⟨⟩
theorem tw9032752044342219616:True:=⟨⟩
theorem tw9041552763067446883:True:=⟨⟩
theorem tw9047174709867359811:True:=⟨⟩
theorem tw908352297882472819:True:=⟨⟩
theorem tw9094611409266514422:True:=⟨⟩
theorem tw9151704239851567603:True:=⟨⟩
theorem tw9308458712672198303:True:=⟨⟩
theorem tw9312145815605420284:True:=⟨⟩
theorem tw9331530631566169860:True:=⟨⟩
theorem tw9408472807638835704:True:=⟨⟩
theorem tw9474462342010751087:True:=⟨⟩
theorem tw9585725130197346935:True:=⟨⟩
theorem tw9640879402415021661:True:=⟨⟩
theorem tw9707451203365038249:True:=⟨⟩
theorem tw9742096786711290252:True:=⟨⟩
theorem tw9742110126790850233:True:=⟨⟩
theorem tw9749889173667509668:True:=⟨⟩
theorem tw994408744579675359:True:=⟨⟩
end PySem.W.Fast
open PySem PySem.W PyProof.Rows
set_option maxRecDepth 100000 in
set_option maxHeartbeats 0 in
theorem PySem.Challenge.cw_closepoints_k38_texts_of_no_points_holds : PySem.Challenge.rw_closepoints_k38_texts_of_no_points.Holds := by
  w_on;o_law;z_head;(case hw=>w_witness2)
  k_fill
  refine Vc.G0 (λ_=>by kernel_rfl) (MY.walk (l:=PySem.Challenge.rw_closepoints_k38_texts_of_no_points) rfl rfl (λw h Y=>Y) ?F)
  case F =>
    intro w mg fa h KX G hmg;refine' MY.all_mk KX G hmg ?a_q7 ?l_q7 ?c_q7 ?k_q7 ?a_q0 ?l_q0 ?c_q0 ?k_q0 ?a_q1 ?l_q1 ?c_q1 ?k_q1 ?a_q3 ?l_q3 ?c_q3 ?k_q3 ?a_q9 ?l_q9 ?c_q9 ?k_q9 ?a_q13 ?l_q13 ?c_q13 ?k_q13 ?a_q8 ?l_q8 ?c_q8 ?k_q8 ?a_q2 ?l_q2 ?c_q2 ?k_q2 ?a_q17 ?l_q17 ?c_q17 ?k_q17 ?a_q10 ?l_q10 ?c_q10 ?k_q10 ?a_q5 ?l_q5 ?c_q5 ?k_q5 ?a_q15 ?l_q15 ?c_q15 ?k_q15 ?a_q11 ?l_q11 ?c_q11 ?k_q11 ?a_q18 ?l_q18 ?c_q18 ?k_q18 ?a_q16 ?l_q16 ?c_q16 ?k_q16 ?a_q6 ?l_q6 ?c_q6 ?k_q6 ?a_q4 ?l_q4 ?c_q4 ?k_q4 ?a_q20 ?l_q20 ?c_q20 ?k_q20 ?a_q19 ?l_q19 ?c_q19 ?k_q19 ?a_q12 ?l_q12 ?c_q12 ?k_q12 ?a_q14 ?l_q14 ?c_q14 ?k_q14 ?a_q21 ?l_q21 ?c_q21 ?k_q21 ?g_NearError ?e_NearError ?m_NearError ?w_NearError ?g_NoPoints ?e_NoPoints ?m_NoPoints ?w_NoPoints ?g_NoWay ?e_NoWay ?m_NoWay ?w_NoWay ?g_NoPlace ?e_NoPlace ?m_NoPlace ?w_NoPlace ?g_NoBound ?e_NoBound ?m_NoBound ?w_NoBound ?g_NoNumber ?e_NoNumber ?m_NoNumber ?w_NoNumber ?g_TooMany ?e_TooMany ?m_TooMany ?w_TooMany ?g_NoPaper ?e_NoPaper ?m_NoPaper ?w_NoPaper ?g_NoText ?e_NoText ?m_NoText ?w_NoText ?g_NoForm ?e_NoForm ?m_NoForm ?w_NoForm ?g_NoneYet ?e_NoneYet ?m_NoneYet ?w_NoneYet ?nd_cls ?z_ValueError ?z_all ?z_bool ?z_enumerate ?z_int ?z_isinstance ?z_len ?z_list ?z_max ?z_min ?z_range ?z_set ?z_str ?z_sum ?z_tuple ?z_zip ?u_FIGURES ?u_MOST_FIGURES ?u_NOTHING
    (case a_q7=>first | k_is | kernel_rfl | decide)
    (case l_q7=>first | k_is | kernel_rfl | decide)
    (case c_q7=>first | k_is | kernel_rfl | decide)
    (case k_q7=>first | k_is | kernel_rfl | decide)
    (case a_q0=>first | k_is | kernel_rfl | decide)
    (case l_q0=>first | k_is | kernel_rfl | decide)
    (case c_q0=>first | k_is | kernel_rfl | decide)
    (case k_q0=>first | k_is | kernel_rfl | decide)
    (case a_q1=>first | k_is | kernel_rfl | decide)
    (case l_q1=>first | k_is | kernel_rfl | decide)
    (case c_q1=>first | k_is | kernel_rfl | decide)
    (case k_q1=>first | k_is | kernel_rfl | decide)
    (case a_q3=>first | k_is | kernel_rfl | decide)
    (case l_q3=>first | k_is | kernel_rfl | decide)
    (case c_q3=>first | k_is | kernel_rfl | decide)
    (case k_q3=>first | k_is | kernel_rfl | decide)
    (case a_q9=>first | k_is | kernel_rfl | decide)
    (case l_q9=>first | k_is | kernel_rfl | decide)
    (case c_q9=>first | k_is | kernel_rfl | decide)
    (case k_q9=>first | k_is | kernel_rfl | decide)
    (case a_q13=>first | k_is | kernel_rfl | decide)
    (case l_q13=>first | k_is | kernel_rfl | decide)
    (case c_q13=>first | k_is | kernel_rfl | decide)
    (case k_q13=>first | k_is | kernel_rfl | decide)
    (case a_q8=>first | k_is | kernel_rfl | decide)
    (case l_q8=>first | k_is | kernel_rfl | decide)
    (case c_q8=>first | k_is | kernel_rfl | decide)
    (case k_q8=>first | k_is | kernel_rfl | decide)
    (case a_q2=>first | k_is | kernel_rfl | decide)
    (case l_q2=>first | k_is | kernel_rfl | decide)
    (case c_q2=>first | k_is | kernel_rfl | decide)
    (case k_q2=>first | k_is | kernel_rfl | decide)
    (case a_q17=>first | k_is | kernel_rfl | decide)
    (case l_q17=>first | k_is | kernel_rfl | decide)
    (case c_q17=>first | k_is | kernel_rfl | decide)
    (case k_q17=>first | k_is | kernel_rfl | decide)
    (case a_q10=>first | k_is | kernel_rfl | decide)
    (case l_q10=>first | k_is | kernel_rfl | decide)
    (case c_q10=>first | k_is | kernel_rfl | decide)
    (case k_q10=>first | k_is | kernel_rfl | decide)
    (case a_q5=>first | k_is | kernel_rfl | decide)
    (case l_q5=>first | k_is | kernel_rfl | decide)
    (case c_q5=>first | k_is | kernel_rfl | decide)
    (case k_q5=>first | k_is | kernel_rfl | decide)
    (case a_q15=>first | k_is | kernel_rfl | decide)
    (case l_q15=>first | k_is | kernel_rfl | decide)
    (case c_q15=>first | k_is | kernel_rfl | decide)
    (case k_q15=>first | k_is | kernel_rfl | decide)
    (case a_q11=>first | k_is | kernel_rfl | decide)
    (case l_q11=>first | k_is | kernel_rfl | decide)
    (case c_q11=>first | k_is | kernel_rfl | decide)
    (case k_q11=>first | k_is | kernel_rfl | decide)
    (case a_q18=>first | k_is | kernel_rfl | decide)
    (case l_q18=>first | k_is | kernel_rfl | decide)
    (case c_q18=>first | k_is | kernel_rfl | decide)
    (case k_q18=>first | k_is | kernel_rfl | decide)
    (case a_q16=>first | k_is | kernel_rfl | decide)
    (case l_q16=>first | k_is | kernel_rfl | decide)
    (case c_q16=>first | k_is | kernel_rfl | decide)
    (case k_q16=>first | k_is | kernel_rfl | decide)
    (case a_q6=>first | k_is | kernel_rfl | decide)
    (case l_q6=>first | k_is | kernel_rfl | decide)
    (case c_q6=>first | k_is | kernel_rfl | decide)
    (case k_q6=>first | k_is | kernel_rfl | decide)
    (case a_q4=>first | k_is | kernel_rfl | decide)
    (case l_q4=>first | k_is | kernel_rfl | decide)
    (case c_q4=>first | k_is | kernel_rfl | decide)
    (case k_q4=>first | k_is | kernel_rfl | decide)
    (case a_q20=>first | k_is | kernel_rfl | decide)
    (case l_q20=>first | k_is | kernel_rfl | decide)
    (case c_q20=>first | k_is | kernel_rfl | decide)
    (case k_q20=>first | k_is | kernel_rfl | decide)
    (case a_q19=>first | k_is | kernel_rfl | decide)
    (case l_q19=>first | k_is | kernel_rfl | decide)
    (case c_q19=>first | k_is | kernel_rfl | decide)
    (case k_q19=>first | k_is | kernel_rfl | decide)
    (case a_q12=>first | k_is | kernel_rfl | decide)
    (case l_q12=>first | k_is | kernel_rfl | decide)
    (case c_q12=>first | k_is | kernel_rfl | decide)
    (case k_q12=>first | k_is | kernel_rfl | decide)
    (case a_q14=>first | k_is | kernel_rfl | decide)
    (case l_q14=>first | k_is | kernel_rfl | decide)
    (case c_q14=>first | k_is | kernel_rfl | decide)
    (case k_q14=>first | k_is | kernel_rfl | decide)
    (case a_q21=>first | k_is | kernel_rfl | decide)
    (case l_q21=>first | k_is | kernel_rfl | decide)
    (case c_q21=>first | k_is | kernel_rfl | decide)
    (case k_q21=>first | k_is | kernel_rfl | decide)
    (case g_NearError=>first | k_is | kernel_rfl | decide)
    (case e_NearError=>first | k_is | kernel_rfl | decide)
    (case m_NearError=>first | k_is | kernel_rfl | decide)
    (case w_NearError=>first | k_is | kernel_rfl | decide)
    (case g_NoPoints=>first | k_is | kernel_rfl | decide)
    (case e_NoPoints=>first | k_is | kernel_rfl | decide)
    (case m_NoPoints=>first | k_is | kernel_rfl | decide)
    (case w_NoPoints=>first | k_is | kernel_rfl | decide)
    (case g_NoWay=>first | k_is | kernel_rfl | decide)
    (case e_NoWay=>first | k_is | kernel_rfl | decide)
    (case m_NoWay=>first | k_is | kernel_rfl | decide)
    (case w_NoWay=>first | k_is | kernel_rfl | decide)
    (case g_NoPlace=>first | k_is | kernel_rfl | decide)
    (case e_NoPlace=>first | k_is | kernel_rfl | decide)
    (case m_NoPlace=>first | k_is | kernel_rfl | decide)
    (case w_NoPlace=>first | k_is | kernel_rfl | decide)
    (case g_NoBound=>first | k_is | kernel_rfl | decide)
    (case e_NoBound=>first | k_is | kernel_rfl | decide)
    (case m_NoBound=>first | k_is | kernel_rfl | decide)
    (case w_NoBound=>first | k_is | kernel_rfl | decide)
    (case g_NoNumber=>first | k_is | kernel_rfl | decide)
    (case e_NoNumber=>first | k_is | kernel_rfl | decide)
    (case m_NoNumber=>first | k_is | kernel_rfl | decide)
    (case w_NoNumber=>first | k_is | kernel_rfl | decide)
    (case g_TooMany=>first | k_is | kernel_rfl | decide)
    (case e_TooMany=>first | k_is | kernel_rfl | decide)
    (case m_TooMany=>first | k_is | kernel_rfl | decide)
    (case w_TooMany=>first | k_is | kernel_rfl | decide)
    (case g_NoPaper=>first | k_is | kernel_rfl | decide)
    (case e_NoPaper=>first | k_is | kernel_rfl | decide)
    (case m_NoPaper=>first | k_is | kernel_rfl | decide)
    (case w_NoPaper=>first | k_is | kernel_rfl | decide)
    (case g_NoText=>first | k_is | kernel_rfl | decide)
    (case e_NoText=>first | k_is | kernel_rfl | decide)
    (case m_NoText=>first | k_is | kernel_rfl | decide)
    (case w_NoText=>first | k_is | kernel_rfl | decide)
    (case g_NoForm=>first | k_is | kernel_rfl | decide)
    (case e_NoForm=>first | k_is | kernel_rfl | decide)
    (case m_NoForm=>first | k_is | kernel_rfl | decide)
    (case w_NoForm=>first | k_is | kernel_rfl | decide)
    (case g_NoneYet=>first | k_is | kernel_rfl | decide)
    (case e_NoneYet=>first | k_is | kernel_rfl | decide)
    (case m_NoneYet=>first | k_is | kernel_rfl | decide)
    (case w_NoneYet=>first | k_is | kernel_rfl | decide)
    (case nd_cls=>first | k_is | kernel_rfl | decide)
    (case z_ValueError=>first | k_is | kernel_rfl | decide)
    (case z_all=>first | k_is | kernel_rfl | decide)
    (case z_bool=>first | k_is | kernel_rfl | decide)
    (case z_enumerate=>first | k_is | kernel_rfl | decide)
    (case z_int=>first | k_is | kernel_rfl | decide)
    (case z_isinstance=>first | k_is | kernel_rfl | decide)
    (case z_len=>first | k_is | kernel_rfl | decide)
    (case z_list=>first | k_is | kernel_rfl | decide)
    (case z_max=>first | k_is | kernel_rfl | decide)
    (case z_min=>first | k_is | kernel_rfl | decide)
    (case z_range=>first | k_is | kernel_rfl | decide)
    (case z_set=>first | k_is | kernel_rfl | decide)
    (case z_str=>first | k_is | kernel_rfl | decide)
    (case z_sum=>first | k_is | kernel_rfl | decide)
    (case z_tuple=>first | k_is | kernel_rfl | decide)
    (case z_zip=>first | k_is | kernel_rfl | decide)
    (case u_FIGURES=>first | k_is | kernel_rfl | decide)
    (case u_MOST_FIGURES=>first | k_is | kernel_rfl | decide)
    (case u_NOTHING=>first | k_is | kernel_rfl | decide)
