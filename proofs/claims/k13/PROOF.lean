import PyProof.Rows.All
import Wide.All
import OpenK.AllK
import Wide.FinOn
import Lean
import PyProof.EqAt
import PyProof.EqKinds
import PyProof.TupleCall
import PySem.Challenge.RW_closepoints_k13_most_apart
set_option compiler.extract_closed false
-- CHANGE: your row's module here,as the last of these rows
set_option Elab.async false
set_option linter.all false
set_option maxRecDepth 100000
namespace L2
open PySem PySem.Spec PyProof.Rows

noncomputable abbrev Key:=Sum Int Str
noncomputable def keyIs:Key -> Value -> Bool
  | .inl k,v=>Value.isInt k v
  | .inr x,v=>Value.isStrOf x v
noncomputable def keyH (w:World):Key -> Int
  | .inl k=>hashInt k
  | .inr x=>hashStr w x
theorem keyIs_shape:∀ {k:Key} {v:Value},keyIs k v = true -> (∃ i t,k = Sum.inl i /\ v = Value.int i t) \/ (∃ x t,k = Sum.inr x /\ v = Value.str x t)
  | .inl i,v,h=>by
    obtain ⟨t,e⟩:=Value.isInt_shape (k:=i) (v:=v) h
    exact .inl ⟨i,t,rfl,e⟩
  | .inr x,v,h=>by
    obtain ⟨t,e⟩:=Value.isStrOf_shape (x:=x) (v:=v) h
    exact .inr ⟨x,t,rfl,e⟩
theorem keyIs_int (i:Int) (t:Tok):keyIs (.inl i) (.int i t) = true:=by simp [keyIs,Value.isInt]
theorem keyIs_str (x:Str) (t:Tok):keyIs (.inr x) (.str x t) = true:=by simp [keyIs,Value.isStrOf]
theorem key_ll (a b:Int):decide ((Sum.inl a:Key) = Sum.inl b) = (a == b):=by
  by_cases e:a = b
  · subst e;simp
  · have h:¬ (Sum.inl a:Key) = Sum.inl b:=fun q=>e (Sum.inl.inj q)
    rw [decide_eq_false h]
    exact (beq_eq_false_iff_ne.mpr e).symm
theorem key_rr (a b:Str):decide ((Sum.inr a:Key) = Sum.inr b) = decide (a = b):=by
  by_cases e:a = b
  · subst e;simp
  · have h:¬ (Sum.inr a:Key) = Sum.inr b:=fun q=>e (Sum.inr.inj q)
    rw [decide_eq_false h,decide_eq_false e]
theorem key_lr (a:Int) (b:Str):decide ((Sum.inl a:Key) = Sum.inr b) = false:=decide_eq_false (fun q=>nomatch q)
theorem key_rl (a:Str) (b:Int):decide ((Sum.inr a:Key) = Sum.inl b) = false:=decide_eq_false (fun q=>nomatch q)

noncomputable def mixKind (prog:Program) (w:World):PySem.KeyKind prog w Key where
  is:=keyIs
  hash:=keyH w
  inj:=fun v a b ha hb=>by
    rcases keyIs_shape ha with ⟨i,t,rfl,rfl⟩ | ⟨x,t,rfl,rfl⟩
    · rcases keyIs_shape hb with ⟨j,u,rfl,e⟩ | ⟨y,u,rfl,e⟩
      · injection e with e1 _;rw [e1]
      · exact nomatch e
    · rcases keyIs_shape hb with ⟨j,u,rfl,e⟩ | ⟨y,u,rfl,e⟩
      · exact nomatch e
      · injection e with e1 _;rw [e1]
  byValue:=fun k v h=>by
    rcases keyIs_shape h with ⟨i,t,rfl,rfl⟩ | ⟨x,t,rfl,rfl⟩<;>rfl
  pyHash:=fun hv h=>by
    rcases keyIs_shape hv with ⟨i,t,rfl,rfl⟩ | ⟨x,t,rfl,rfl⟩
    · exact wpAny_pyHash_int h
    · exact wpAny_pyHash_str h
  eqBool:=fun hu hv h=>by
    rcases keyIs_shape hu with ⟨i,t,rfl,rfl⟩ | ⟨x,t,rfl,rfl⟩
    · rcases keyIs_shape hv with ⟨j,u,rfl,rfl⟩ | ⟨y,u,rfl,rfl⟩
      · rw [key_ll] at h;exact wpAny_eqBool_int h
      · rw [key_lr] at h;exact SeqAt.EqAt.int_str i t y u _ _ _ _ h
    · rcases keyIs_shape hv with ⟨j,u,rfl,rfl⟩ | ⟨y,u,rfl,rfl⟩
      · rw [key_rl] at h;exact SeqAt.EqAt.str_int x t j u _ _ _ _ h
      · rw [key_rr] at h;exact wpAny_eqBool_str h
  «strs»:=fun k x t v h=>by
    rcases keyIs_shape h with ⟨i,u,rfl,e⟩ | ⟨y,u,rfl,e⟩
    · exact nomatch e
    · injection e with e1 _
      subst e1
      cases v<;>rfl

theorem mixKind_int (prog:Program) (w:World) (i:Int) (t:Tok):(mixKind prog w).is (.inl i) (.int i t) = true:=keyIs_int i t
theorem mixKind_str (prog:Program) (w:World) (x:Str) (t:Tok):(mixKind prog w).is (.inr x) (.str x t) = true:=keyIs_str x t
end L2

namespace L2
open PySem PySem.Spec PyProof.Rows

inductive V where
  | non | bl (b:Bool) | int (i:Int) | str (x:Str) | byt (b:Array UInt8) | flt (b:UInt64) | ref (a:Addr) | ty (n:String)
  deriving DecidableEq

noncomputable def RelV:V -> Value -> Prop
  | .non,u=>u = Value.none
  | .bl b,u=>u = Value.bool b
  | .int i,u=>∃ t,u = Value.int i t
  | .str x,u=>∃ t,u = Value.str x t
  | .byt b,u=>∃ t,u = Value.bytes b t
  | .flt b,u=>∃ t,u = Value.float b t
  | .ref a,u=>u = Value.ref a
  | .ty n,u=>u = Value.type n

noncomputable abbrev Vals:List V -> List Value -> Prop:=Paired RelV
theorem Vals.length {xs:List V} {us:List Value} (r:Vals xs us):xs.length = us.length:=Paired.length r
theorem Vals.get:∀ {xs:List V} {us:List Value} {i:Nat} {x:V},Vals xs us -> xs[i]? = some x -> ∃ u,us[i]? = some u /\ RelV x u
  | _,_,_,_,.nil,e=>by simp at e
  | _,_,0,_,.cons r _,e=>by simp at e;subst e;exact ⟨_,rfl,r⟩
  | _,_,i + 1,x,.cons _ t,e=>by
    obtain ⟨u,h1,h2⟩:=Vals.get (i:=i) (x:=x) t (by simpa using e)
    exact ⟨u,by simpa using h1,h2⟩
theorem Vals.set {x:V} {u:Value} (r:RelV x u):∀ {xs:List V} {us:List Value} (i:Nat),Vals xs us -> Vals (xs.set i x) (us.set i u)
  | _,_,_,.nil=>.nil
  | _,_,0,.cons _ t=>.cons r t
  | _,_,i + 1,.cons q t=>.cons q (Vals.set r i t)
theorem Vals.append:∀ {xs ys:List V} {us ws:List Value},Vals xs us -> Vals ys ws -> Vals (xs ++ ys) (us ++ ws)
  | _,_,_,_,.nil,s=>s
  | _,_,_,_,.cons r t,s=>.cons r (Vals.append t s)
theorem Vals.take:∀ {xs:List V} {us:List Value} (n:Nat),Vals xs us -> Vals (xs.take n) (us.take n)
  | _,_,0,_=>.nil
  | _,_,_ + 1,.nil=>.nil
  | _,_,n + 1,.cons r t=>.cons r (Vals.take n t)
theorem Vals.drop:∀ {xs:List V} {us:List Value} (n:Nat),Vals xs us -> Vals (xs.drop n) (us.drop n)
  | _,_,0,r=>r
  | _,_,_ + 1,.nil=>.nil
  | _,_,n + 1,.cons _ t=>Vals.drop n t
noncomputable def RelO:Option V -> Option Value -> Prop
  | some v,some u=>RelV v u
  | none,none=>True
  | _,_=>False
noncomputable def KV {κ:Type}:List (κ × V) -> List (κ × Value) -> Prop:=Paired fun (p:κ × V) (q:κ × Value)=>p.1 = q.1 /\ RelV p.2 q.2

noncomputable def kV:Key -> V
  | .inl i=>.int i
  | .inr x=>.str x

inductive HO where
  /-- a list -/
  | lst (xs:List V)
  /-- a tuple (never changes) -/
  | tup (xs:List V)
  /-- a dict whose keys are ints and texts;one whose keys are tuples of ints and texts (the empty one is both) -/
  | dK (kvs:List (Key × V)) | dT (kvs:List (List Key × V))
  /-- a set of ints: its members,its size -/
  | set (S:Int -> Bool) (n:Nat)
  /-- an instance of the class at C,its dict at dx,its attributes -/
  | ins (C dx:Addr) (fs:List (Str × V))
  /-- the dict of the instance at x -/
  | own (x:Addr)
  /-- the dict of an exception -/
  | xd (fs:List (Str × V))
  /-- a bound method,f of x -/
  | met (f x:Addr)
  /-- a range object lo,lo + 1,.. below hi -/
  | rng (lo hi:Int)
  /-- a thing that is known to the object (the script;a dict while a loop walks it): read,never written while it is so -/
  | frz (o:Obj) (u:HO)
  /-- a code object's table -/
  | tbl (ps:Array Value)
  /-- the same,and it may grow by the code of one lambda: as it was,the lambda's place,its name -/
  | lam (ps:Array Value) (pos:Pos) (qual:Str)
  /-- any other thing,by what is true of its one object (a def of one's own: SetO a S n:=HO.ext fun h=>..) -/
  | ext (φ:Heap -> Prop)

noncomputable abbrev Hp:=Addr -> Option HO
noncomputable def upd (H:Hp) (a:Addr) (o:HO):Hp:=fun b=>if b = a then some o else H b
theorem upd_same {H:Hp} {a:Addr} {o:HO}:upd H a o a = some o:=by unfold upd;rw [if_pos rfl]
theorem upd_ne {H:Hp} {a b:Addr} {o:HO} (h:b ≠ a):upd H a o b = H b:=by unfold upd;rw [if_neg h]
theorem ne_of {H:Hp} {a b:Addr} {o u:HO} (h:H a = some o) (h':H b = some u) (d:o ≠ u):a ≠ b:=by
  intro e;subst e;rw [h] at h';exact d (Option.some.inj h')
theorem ne_of_none {H:Hp} {a b:Addr} {o:HO} (h:H a = some o) (h':H b = none):a ≠ b:=by
  intro e;subst e;rw [h] at h';cases h'

section
variable (P:Program) (w:World)
noncomputable def ObjOk (H:Hp) (h:Heap) (a:Addr):HO -> Prop
  | .lst xs=>xs.length <= sizeLine /\ ∃ (its:List Value) (n:Nat),Vals xs its /\ h.get? a = some { cls:=.type "list",data:=.seq its.toArray n }
  | .tup xs=>xs.length <= sizeLine /\ ∃ its:List Value,Vals xs its /\ IsTup h a its.toArray
  | .dK kvs=>kvs.length <= sizeLine /\ (a == sysModules) = false /\ ∃ vs,KV kvs vs /\ h.DictOf (mixKind P w) a vs
  | .dT kvs=>kvs.length <= sizeLine /\ (a == sysModules) = false /\ ∃ xs:List (List Key × Addr × Value),
      Paired (fun (p:List Key × V) (q:List Key × Addr × Value)=>p.1 = q.1 /\ H q.2.1 = some (.tup (p.1.map kV)) /\ RelV p.2 q.2.2) kvs xs /\
      ∃ o es ep,h.get? a = some o /\ o.ExactDict /\ o.data = .dict es ep /\ es.toList = xs.map (entryOfKey (tupleKind (mixKind P w))) /\ (xs.map (·.1)).Nodup
  | .set S n=>h.SetOf (intKind P w) a S n
  | .ins C dx fs=>H dx = some (.own a) /\ fs.length <= 1000 /\ dx ≠ a /\ h.get? a = some (PySem.W.instObj C dx) /\
      ∃ mA,h.Ns1 dx mA /\ (∀ f,RelO (fs.lookup f) (mA f)) /\ PySem.Within mA (fs.map (·.1))
  | .own _=>∃ o,h.get? a = some o
  | .xd fs=>∃ mA,h.Ns1 a mA /\ ∀ f,RelO (fs.lookup f) (mA f)
  | .rng lo hi=>∃ t u v,h.get? a = some { cls:=.type "range",data:=.fields #[.int lo t,.int hi u,.int 1 v] }
  | .frz o u=>h.get? a = some o /\ ObjOk H h a u
  | .tbl ps=>h.get? a = some { cls:=.none,data:=.fields ps }
  | .lam ps pos qual=>∃ more,h.get? a = some { cls:=.none,data:=.fields (ps ++ more) } /\ TriplesOk (ps ++ more).toList /\ (codeAmong pos (ps ++ more).toList = none \/ ∃ c' o vs t,codeAmong pos (ps ++ more).toList = some (.ref c') /\ H c' = some (.frz o (.own a)) /\ o.data = .fields vs /\ vs[1]? = some (.str qual t))
  | .met f x=>h.get? a = some (PySem.W.methodObj (.ref f) (.ref x))
  | .ext φ=>φ h /\ (∃ o,h.get? a = some o) /\ ∀ h1 h2:Heap,φ h1 -> (∀ o,h1.get? a = some o -> h2.get? a = some o) -> φ h2
noncomputable def HOk (H:Hp) (h:Heap):Prop:=∀ a o,H a = some o -> ObjOk P w H h a o
end

section
variable {P:Program} {w:World} {H H':Hp} {h h':Heap} {a:Addr} {o:HO}
theorem ObjOk.lt (x:ObjOk P w H h a o):a < h.objs.size:=by
  cases o with
  | lst xs=>obtain ⟨_,_,_,_,e⟩:=x;exact Heap.lt_size e
  | tup xs=>obtain ⟨_,_,_,p⟩:=x;exact p.lt
  | dK kvs=>obtain ⟨_,_,_,_,o,_,_,e,_⟩:=x;exact Heap.lt_size e
  | dT kvs=>obtain ⟨_,_,_,_,o,_,_,e,_⟩:=x;exact Heap.lt_size e
  | set S n=>obtain ⟨o,_,_,_,e,_⟩:=x;exact Heap.lt_size e
  | ins C dx fs=>obtain ⟨_,_,_,e,_⟩:=x;exact Heap.lt_size e
  | own y=>obtain ⟨_,e⟩:=x;exact Heap.lt_size e
  | xd fs=>obtain ⟨_,⟨_,_,_,e,_⟩,_⟩:=x;exact Heap.lt_size e
  | rng lo hi=>obtain ⟨_,_,_,e⟩:=x;exact Heap.lt_size e
  | frz ob u=>obtain ⟨e,_⟩:=x;exact Heap.lt_size e
  | tbl ps=>exact Heap.lt_size (show h.get? a = some _ from x)
  | lam ps pos qual=>obtain ⟨_,e,_⟩:=x;exact Heap.lt_size e
  | met f y=>exact Heap.lt_size (show h.get? a = some _ from x)
  | ext φ=>obtain ⟨_,⟨_,e⟩,_⟩:=x;exact Heap.lt_size e
theorem Paired.mapP {α β:Type} {F G:α -> β -> Prop}:∀ {l₁:List α} {l₂:List β},Paired F l₁ l₂ -> (∀ a b,F a b -> G a b) -> Paired G l₁ l₂
  | _,_,.nil,_=>.nil
  | _,_,.cons r t,f=>.cons (f _ _ r) (Paired.mapP t f)
theorem ObjOk.stay (x:ObjOk P w H h a o) (k:∀ b u,(b = a \/ H b = some (.own a)) -> h.get? b = some u -> h'.get? b = some u)
    (ho:∀ b,H b = some (.own a) -> H' b = some (.own a)) (ht:∀ b xs,H b = some (.tup xs) -> H' b = some (.tup xs)) (hf:∀ b o u,H b = some (.frz o u) -> H' b = some (.frz o u):=by exact fun _ _ _ q=>q):ObjOk P w H' h' a o:=by
  induction o with
  | lst xs=>obtain ⟨z,its,n,r,e⟩:=x;exact ⟨z,its,n,r,k _ _ (.inl rfl) e⟩
  | tup xs=>obtain ⟨z,its,r,ob,e,c⟩:=x;exact ⟨z,its,r,ob,k _ _ (.inl rfl) e,c⟩
  | dK kvs=>obtain ⟨z,y,vs,r,ob,es,ep,e,c⟩:=x;exact ⟨z,y,vs,r,ob,es,ep,k _ _ (.inl rfl) e,c⟩
  | dT kvs =>
    obtain ⟨z,y,xs,r,ob,es,ep,e,c⟩:=x
    exact ⟨z,y,xs,Paired.mapP r fun p q z=>⟨z.1,ht _ _ z.2.1,z.2.2⟩,ob,es,ep,k _ _ (.inl rfl) e,c⟩
  | set S n=>obtain ⟨ob,es,ep,t,e,c⟩:=x;exact ⟨ob,es,ep,t,k _ _ (.inl rfl) e,c⟩
  | ins C dx fs =>
    obtain ⟨d,z,ne,e,mA,⟨od,es,ep,e2,c⟩,r⟩:=x
    exact ⟨ho _ d,z,ne,k _ _ (.inl rfl) e,mA,⟨od,es,ep,k _ _ (.inr d) e2,c⟩,r⟩
  | own y=>obtain ⟨ob,e⟩:=x;exact ⟨ob,k _ _ (.inl rfl) e⟩
  | xd fs=>obtain ⟨mA,⟨od,es,ep,e,c⟩,r⟩:=x;exact ⟨mA,⟨od,es,ep,k _ _ (.inl rfl) e,c⟩,r⟩
  | rng lo hi=>obtain ⟨t,u,v,e⟩:=x;exact ⟨t,u,v,k _ _ (.inl rfl) e⟩
  | frz ob u ih=>obtain ⟨e,q⟩:=x;exact ⟨k _ _ (.inl rfl) e,ih q⟩
  | lam ps pos qual =>
    obtain ⟨more,e,tr,c⟩:=x
    refine ⟨more,k _ _ (.inl rfl) e,tr,?_⟩
    rcases c with c | ⟨c',o,vs,t,c1,c2,c3⟩
    · exact .inl c
    · exact .inr ⟨c',o,vs,t,c1,hf _ _ _ c2,c3⟩
  | tbl ps =>
    have e:h.get? a = some { cls:=.none,data:=.fields ps }:=x
    show h'.get? a = some { cls:=.none,data:=.fields ps }
    exact k a _ (.inl rfl) e
  | met f y =>
    have e:h.get? a = some (PySem.W.methodObj (.ref f) (.ref y)):=x
    show h'.get? a = some (PySem.W.methodObj (.ref f) (.ref y))
    exact k a _ (.inl rfl) e
  | ext φ=>obtain ⟨p,⟨o,e⟩,st⟩:=x;exact ⟨st _ _ p fun o q=>k _ _ (.inl rfl) q,⟨o,k _ _ (.inl rfl) e⟩,st⟩
theorem HOk.lt (x:HOk P w H h) (e:H a = some o):a < h.objs.size:=(x a o e).lt
theorem HOk.fresh (x:HOk P w H h) (e:h.objs.size <= a):H a = none:=by
  cases q:H a with
  | none=>rfl
  | some u=>exact absurd (Nat.lt_of_lt_of_le (x.lt q) e) (Nat.lt_irrefl _)
theorem HOk.kept (x:HOk P w H h) (k:∀ b u,h.get? b = some u -> h'.get? b = some u):HOk P w H h':=fun a o e =>
  (x a o e).stay (fun b u _ q=>k b u q) (fun _ q=>q) fun _ _ q=>q
theorem HOk.laid (x:HOk P w H h) (k:∀ b u,h.get? b = some u -> h'.get? b = some u) (hp:h.objs.size <= a) (new:ObjOk P w (upd H a o) h' a o):HOk P w (upd H a o) h':=fun b u e=>by
  have hn:=x.fresh hp
  by_cases hb:b = a
  · subst hb;rw [upd_same] at e;cases e;exact new
  · rw [upd_ne hb] at e
    exact (x b u e).stay (fun c v _ q=>k c v q) (fun c q=>by rw [upd_ne (ne_of_none q hn)];exact q) (fun c xs q=>by rw [upd_ne (ne_of_none q hn)];exact q) fun c o u q=>by rw [upd_ne (ne_of_none q hn)];exact q
end

noncomputable def Rd (H:Hp) (a:Addr) (u:HO):Prop:=H a = some u \/ ∃ o,H a = some (.frz o u)
theorem Rd.ok {P:Program} {w:World} {H:Hp} {h:Heap} {a:Addr} {u:HO} (r:Rd H a u) (x:HOk P w H h):ObjOk P w H h a u:=by
  rcases r with r | ⟨o,r⟩
  · exact x a u r
  · obtain ⟨_,q⟩:=x a _ r
    exact q
noncomputable def Mut:Option HO -> Prop
  | some (.lst _)=>True
  | some (.dK _)=>True
  | some (.dT _)=>True
  | some (.set _ _)=>True
  | some (.ins _ _ _)=>True
  | some (.ext _)=>True
  | some (.lam _ _ _)=>True
  | _=>False
section
variable {P:Program} {w:World} {H:Hp} {h h':Heap} {x e:Addr} {o':HO}
theorem HOk.write (ok:HOk P w H h) (mu:Mut (H x)) (he:e = x \/ H e = some (.own x)) (k:∀ b u,b ≠ e -> h.get? b = some u -> h'.get? b = some u) (heo:∃ u,h'.get? e = some u)
    (new:ObjOk P w (upd H x o') h' x o'):HOk P w (upd H x o') h':=fun b u q=>by
  have nown:∀ c y,H c = some (.own y) -> c ≠ x:=fun c y r z=>by subst z;rw [r] at mu;exact mu
  have ntup:∀ c xs,H c = some (.tup xs) -> c ≠ x:=fun c xs r z=>by subst z;rw [r] at mu;exact mu
  by_cases hb:b = x
  · subst hb;rw [upd_same] at q;cases q;exact new
  · rw [upd_ne hb] at q
    by_cases hbe:b = e
    · have q':H b = some (.own x):=by
        rcases he with z | z
        · exact absurd (hbe.trans z) hb
        · rw [hbe];exact z
      rw [q] at q';cases q'
      obtain ⟨v,hv⟩:=heo
      exact ⟨v,by rw [hbe];exact hv⟩
    · refine (ok b u q).stay (fun c v hc r=>k c v ?_ r) (fun c r=>by rw [upd_ne (nown c b r)];exact r) (fun c xs r=>by rw [upd_ne (ntup c xs r)];exact r) fun c o u r=>by rw [upd_ne (fun z=>by subst z;rw [r] at mu;exact mu)];exact r
      rcases hc with rfl | hc
      · exact hbe
      · rintro rfl
        rcases he with z | z
        · exact nown c b hc z
        · rw [hc] at z;cases z;exact hb rfl
end

structure Un (fs ex:List Addr) (H H':Hp) (h h':Heap):Prop where
  keep:∀ b o,h.get? b = some o -> H b = none -> b ∉ fs -> b ∉ ex -> h'.get? b = some o
  slot:∀ b o,h.get? b = some o -> H b = none -> b ∈ fs -> b ∉ ex -> ∃ sl,h'.get? b = some { o with slots:=sl }
  free:∀ b o,h.get? b = some o -> H b = none -> b ∉ ex -> H' b = none
  there:∀ b o,h.get? b = some o -> b ∉ ex -> ∃ o',h'.get? b = some o'
  tups:∀ b xs,H b = some (.tup xs) -> H' b = some (.tup xs)
  frzs:∀ b o u,H b = some (.frz o u) -> H' b = some (.frz o u)
  tbls:∀ b ps,H b = some (.tbl ps) -> ∃ more,H' b = some (.tbl (ps ++ more))
section
variable {fs fs' ex ex':List Addr} {H H1 H2:Hp} {h h1 h2 h':Heap} {a x e:Addr} {o:HO}
theorem Un.any (u:Un fs ex H H1 h h1) {b:Addr} {ob:Obj} (q:h.get? b = some ob) (n:H b = none) (hx:b ∉ ex):∃ sl,h1.get? b = some { ob with slots:=sl }:=by
  by_cases hb:b ∈ fs
  · exact u.slot b ob q n hb hx
  · exact ⟨ob.slots,u.keep b ob q n hb hx⟩
theorem Un.kept (k:∀ b u,h.get? b = some u -> h'.get? b = some u):Un fs ex H H h h' :=
  ⟨fun b ob q _ _ _=>k b ob q,fun b ob q _ _ _=>⟨ob.slots,k b ob q⟩,fun _ _ _ n _=>n,fun b ob q _=>⟨ob,k b ob q⟩,fun _ _ q=>q,fun _ _ _ q=>q,fun _ ps q=>⟨#[],by rw [q];simp⟩⟩
theorem Un.refl:Un fs ex H H h h:=Un.kept fun _ _ q=>q
theorem Un.laid (k:∀ b u,h.get? b = some u -> h'.get? b = some u) (hp:h.objs.size <= a) (hn:H a = none):Un fs ex H (upd H a o) h h' where
  keep:=fun b u q _ _ _=>k b u q
  slot:=fun b u q _ _ _=>⟨u.slots,k b u q⟩
  free:=fun b u q n _=>by rw [upd_ne (Nat.ne_of_lt (Nat.lt_of_lt_of_le (Heap.lt_size q) hp))];exact n
  there:=fun b u q _=>⟨u,k b u q⟩
  tups:=fun b xs q=>by rw [upd_ne (ne_of_none q hn)];exact q
  frzs:=fun b u xs q=>by rw [upd_ne (ne_of_none q hn)];exact q
  tbls:=fun b ps q=>⟨#[],by rw [upd_ne (ne_of_none q hn),q];simp⟩
theorem Un.write (mu:Mut (H x)) (he:e = x \/ H e = some (.own x)) (k:∀ b u,b ≠ e -> h.get? b = some u -> h'.get? b = some u) (heo:∃ u,h'.get? e = some u):Un fs ex H (upd H x o) h h':=by
  have hx:∀ b,H b = none -> b ≠ x:=fun b n z=>by subst z;rw [n] at mu;exact mu
  have hb:∀ b,H b = none -> b ≠ e:=fun b n z=>by
    subst z
    rcases he with r | r
    · exact hx b n r
    · rw [n] at r;cases r
  have hm:∀ b u,H b = some u -> ¬ Mut (some u) -> b ≠ x:=fun b u q nm z=>by subst z;rw [q] at mu;exact nm mu
  refine ⟨fun b u q n _ _=>k b u (hb b n) q,fun b u q n _ _=>⟨u.slots,k b u (hb b n) q⟩,fun b u q n _=>by rw [upd_ne (hx b n)];exact n,fun b u q _=>?_,
    fun b xs q=>by rw [upd_ne (hm b _ q fun z=>z)];exact q,fun b u xs q=>by rw [upd_ne (hm b _ q fun z=>z)];exact q,fun b ps q=>⟨#[],by rw [upd_ne (hm b _ q fun z=>z),q];simp⟩⟩
  by_cases hbe:b = e
  · subst hbe;exact heo
  · exact ⟨u,k b u hbe q⟩
end

noncomputable def trk (h:Heap) (H:Hp):List Addr:=(List.range h.objs.size).filter fun a=>(H a).isSome
noncomputable def hidT (h:Heap) (H:Hp):Heap:=PySem.W.hideAll h (trk h H)
theorem hidT_size (h:Heap) (H:Hp):(hidT h H).objs.size = h.objs.size:=PySem.W.hideAll_size _ _
theorem hidT_get {h:Heap} {H:Hp} {b:Addr} {o:Obj} (e:h.get? b = some o) (n:H b = none):(hidT h H).get? b = some o :=
  PySem.W.hideAll_get _ e fun hm=>by
    have q:(H b).isSome = true:=(List.mem_filter.mp hm).2
    rw [n] at q;simp at q
theorem of_hidT {h:Heap} {H:Hp} {b:Addr} {o:Obj} (e:(hidT h H).get? b = some o):h.get? b = some o /\ H b = none:=by
  have e':h.get? b = some o:=PySem.W.of_hideAll (trk h H) e
  refine ⟨e',?_⟩
  cases q:H b with
  | none=>rfl
  | some x =>
    have hm:b ∈ trk h H:=List.mem_filter.mpr ⟨List.mem_range.mpr (Heap.lt_size e'),by simp [q]⟩
    have z:(hidT h H).get? b = none:=PySem.W.hideAll_none (trk h H) hm
    rw [z] at e;cases e

noncomputable def allNews (g h:Heap) (L:Addr):List (Addr × Obj):=(List.range h.objs.size).filterMap fun a=>if a = L \/ (g.get? a).isSome = true then none else (h.get? a).map fun o=>(a,o)
noncomputable def rest (g h:Heap) (L d:Addr):List (Addr × Obj):=(allNews g h L).filter fun p=>decide (p.1 ≠ d)
end L2

namespace L2
open PySem PySem.Spec PyProof.Rows

structure Mod (K:PySem.W.Frag) (mg:Str -> Option Value) (base:Heap):Prop where
  kin:K.In base
  glob:base.Ns mainGlobals mg
  blt:∃ mb,base.Ns builtinsNs mb /\ ∀ x:Str,x ≠ "__name__" -> mb x = bootBuiltins x
  nolimit:base.NoLimit

structure Cx where
  prog:Program
  w:World
  K:PySem.W.Frag
  mg:Str -> Option Value
  base:Heap
  A:Around
  N:List Str
  s₀:Shared
  H₀:Hp
  env:Env
  outer:List Env
  stack:List Env
  ex:List Addr
  fn:Str -> Bool
  calm:Bool
  pn:List (Addr × Obj)
  xe:Value -> Shared -> Prop
noncomputable def frs (l:List Env):List Addr:=l.filterMap (·.frame)
noncomputable abbrev Cx.fs (X:Cx):List Addr:=frs X.outer

noncomputable def Vis (sc:Scope) (x:Str):Prop:=sc.names.lookup x = some .local \/ sc.names.lookup x = some .cell \/ sc.names.lookup x = some .free
noncomputable def Loc (sc:Scope) (x:Str):Prop:=sc.names.lookup x = some .local \/ sc.names.lookup x = some .cell
noncomputable def Look (env:Env) (h:Heap) (m:Str -> Option Value) (x:Str) (u:Value):Prop :=
  (env.kindOf x = some .local /\ m x = some u) \/ ((env.kindOf x = some .cell \/ env.kindOf x = some .free) /\ ∃ c,env.cells.lookup x = some c /\ h.IsCell c (some u))

structure Cx.Ok (X:Cx):Prop where
  mod:Mod X.K X.mg X.base
  kind:X.env.scope.kind = .function
  glob:X.env.globals = mainGlobals
  blt:X.env.builtins = builtinsNs
  above:X.s₀.heap.objs.size <= X.env.locals
  inj:∀ x y c,X.env.cells.lookup x = some c -> X.env.cells.lookup y = some c -> x = y
  has:∀ x,(X.env.kindOf x = some .cell \/ X.env.kindOf x = some .free) -> ∃ c,X.env.cells.lookup x = some c
  cab:∀ x c,X.fn x = true -> X.env.cells.lookup x = some c -> X.s₀.heap.objs.size <= c
  hd:X.calm = true -> X.A.handled = none
  frames:X.A.frames = some X.stack
  stk:X.stack = X.outer \/ (X.stack = X.env :: X.outer /\ X.env.frame = some X.env.locals)
  exf:∀ b ∈ X.ex,b ≠ X.env.locals /\ ∀ x c,X.env.cells.lookup x = some c -> c ≠ b
  bs:∀ b o,X.base.get? b = some o -> X.s₀.heap.get? b = some o /\ X.H₀ b = none
  bsz:X.base.objs.size <= X.s₀.heap.objs.size
  noex:∀ b o,X.base.get? b = some o -> b ∉ X.ex
  exfs:∀ b ∈ X.ex,b ∉ X.fs
  funs:X.s₀.heap.FunFrames X.base X.outer
  frf:∀ b ∈ X.fs,X.H₀ b = none

structure Inv (X:Cx) (pins:List (Addr × Obj)) (σ:List (Option V)) (H:Hp) (s:Shared):Prop where
  ok:X.Ok
  os:s.os = X.s₀.os
  bare:AllBare s.gens
  base:Un X.fs X.ex X.H₀ H X.s₀.heap s.heap
  loc:∃ m,s.heap.Ns X.env.locals m /\ ∀ (i:Nat) (x:Str) (v:V),X.N[i]? = some x -> σ[i]? = some (some v) -> Vis X.env.scope x -> ∃ u,RelV v u /\ Look X.env s.heap m x u
  cell:∀ x c,X.env.cells.lookup x = some c -> ∃ v,s.heap.IsCell c v
  free:H X.env.locals = none
  freeC:∀ x c,X.env.cells.lookup x = some c -> H c = none
  pin:∀ p ∈ X.pn ++ pins,s.heap.get? p.1 = some p.2 /\ H p.1 = none /\ p.1 ≠ X.env.locals /\ p.1 ∉ X.fs /\ ∀ v,p.2.data ≠ .cell v
  hok:HOk X.prog X.w H s.heap
  len:σ.length = X.N.length

section
variable {X:Cx} {pins:List (Addr × Obj)} {σ:List (Option V)} {H H':Hp} {s:Shared} {h':Heap}

theorem Cx.Ok.nofr (ok:X.Ok) {b:Addr} {o:Obj} (e:X.base.get? b = some o):b ∉ X.fs:=fun hb=>by
  have:=(ok.funs.mem hb).1
  rw [e] at this;cases this
theorem Inv.bs (I:Inv X pins σ H s):∀ b o,X.base.get? b = some o -> s.heap.get? b = some o /\ H b = none:=fun b o e =>
  ⟨I.base.keep b o (I.ok.bs b o e).1 (I.ok.bs b o e).2 (I.ok.nofr e) (I.ok.noex b o e),I.base.free b o (I.ok.bs b o e).1 (I.ok.bs b o e).2 (I.ok.noex b o e)⟩
theorem Inv.bk (I:Inv X pins σ H s):∀ b o,X.base.get? b = some o -> s.heap.get? b = some o:=fun b o e=>(I.bs b o e).1
theorem Inv.mod (I:Inv X pins σ H s):Mod X.K X.mg X.base:=I.ok.mod
theorem Inv.kIn (I:Inv X pins σ H s):X.K.In s.heap:=I.ok.mod.kin.keeps I.bk
theorem Inv.fr (I:Inv X pins σ H s):∃ m,Fr X.base X.env.locals s.heap m :=
  let ⟨m,hn,_⟩:=I.loc
  ⟨m,hn,I.bk,Nat.le_trans I.ok.bsz I.ok.above⟩
theorem Inv.lt (I:Inv X pins σ H s):X.env.locals < s.heap.objs.size:=let ⟨_,hn,_⟩:=I.loc;hn.lt
theorem Inv.sz (I:Inv X pins σ H s):X.s₀.heap.objs.size <= s.heap.objs.size:=Nat.le_trans I.ok.above (Nat.le_of_lt I.lt)
theorem Inv.nofs (I:Inv X pins σ H s) {a:Addr} (h:s.heap.objs.size <= a):a ∉ X.fs:=fun hb=>by
  obtain ⟨_,o,ho,_⟩:=I.ok.funs.mem hb
  exact absurd (Nat.lt_of_lt_of_le (Heap.lt_size ho) (Nat.le_trans I.sz h)) (Nat.lt_irrefl _)
theorem Inv.cne (I:Inv X pins σ H s):∀ x c,X.env.cells.lookup x = some c -> c ≠ X.env.locals:=fun x c e z=>by
  obtain ⟨v,o,ho,hd⟩:=I.cell x c e
  obtain ⟨m,⟨o',es,ep,ho',hd',_⟩,_⟩:=I.loc
  rw [z,ho'] at ho;cases ho;rw [hd'] at hd;cases hd
theorem Inv.funs (I:Inv X pins σ H s):s.heap.FunFrames X.base X.outer:=by
  have all:∀ (l:List Env),(∀ b ∈ frs l,b ∈ X.fs) -> X.s₀.heap.FunFrames X.base l -> s.heap.FunFrames X.base l:=by
    intro l
    induction l with
    | nil=>intro _ _;trivial
    | cons env r ih =>
      intro hs hl
      obtain ⟨hk,⟨L,o,hf,hn,ho,hd⟩,hr⟩:=hl
      have hL:L ∈ X.fs:=hs L (by unfold frs;rw [List.filterMap_cons,hf];exact List.mem_cons_self)
      obtain ⟨sl,e⟩:=I.base.slot L o ho (I.ok.frf L hL) hL fun z=>I.ok.exfs L z hL
      exact ⟨hk,⟨L,_,hf,hn,e,hd⟩,ih (fun b hb=>hs b (by unfold frs;rw [List.filterMap_cons,hf];exact List.mem_cons_of_mem _ hb)) hr⟩
  exact all X.outer (fun _ hb=>hb) I.ok.funs

theorem Inv.stack (I:Inv X pins σ H s):s.heap.FunFrames X.base X.stack:=by
  rcases I.ok.stk with e | ⟨e,hf⟩
  · rw [e];exact I.funs
  · rw [e]
    obtain ⟨m,hn,_⟩:=I.loc
    refine .cons (by rw [I.ok.kind];decide) hf hn ?_ I.funs
    exact Heap.get?_none_of_le (Nat.le_trans I.ok.bsz I.ok.above)
theorem Inv.stkSub (I:Inv X pins σ H s):∀ b ∈ frs X.stack,b ∈ X.env.locals :: X.fs:=fun b hb=>by
  rcases I.ok.stk with e | ⟨e,hf⟩
  · rw [e] at hb;exact List.mem_cons_of_mem _ hb
  · rw [e] at hb
    unfold frs at hb
    rw [List.filterMap_cons,hf] at hb
    exact hb
theorem Inv.stkFree (I:Inv X pins σ H s):∀ b ∈ frs X.stack,H b = none:=fun b hb=>by
  rcases List.mem_cons.mp (I.stkSub b hb) with e | hb
  · rw [e];exact I.free
  · obtain ⟨_,o,ho,_⟩:=I.ok.funs.mem hb
    exact I.base.free b o ho (I.ok.frf b hb) fun z=>I.ok.exfs b z hb

theorem Inv.step {g':Array GenState} {t':Nat} {d':Drawn} {ch:List Addr} (I:Inv X pins σ H s)
    (hch:∀ b ∈ ch,(b ∈ X.ex \/ X.s₀.heap.get? b = none) /\ b ≠ X.env.locals /\ (∀ x c,X.env.cells.lookup x = some c -> c ≠ b) /\ ∀ p ∈ X.pn ++ pins,p.1 ≠ b)
    (keep:∀ b o,b ≠ X.env.locals -> b ∉ X.fs -> b ∉ ch -> s.heap.get? b = some o -> H b = none -> h'.get? b = some o)
    (slot:∀ b o,b ≠ X.env.locals -> b ∈ X.fs -> b ∉ ch -> s.heap.get? b = some o -> H b = none -> ∃ sl,h'.get? b = some { o with slots:=sl }) (free:∀ b o,b ∉ ch -> s.heap.get? b = some o -> H b = none -> H' b = none)
    (there:∀ b o,b ∉ ch -> s.heap.get? b = some o -> ∃ o',h'.get? b = some o')
    (tups:∀ b xs,H b = some (.tup xs) -> H' b = some (.tup xs)) (frzs:∀ b o u,H b = some (.frz o u) -> H' b = some (.frz o u)) (tbls:∀ b ps,H b = some (.tbl ps) -> ∃ more,H' b = some (.tbl (ps ++ more)))
    (ns:∀ m,s.heap.Ns X.env.locals m -> h'.Ns X.env.locals m) (hok:HOk X.prog X.w H' h') (hg:AllBare g') :
    Inv X pins σ H' { s with heap:=h',gens:=g',drawn:=d',toks:=t' }:=by
  have neL:∀ b o,X.s₀.heap.get? b = some o -> b ≠ X.env.locals:=fun b o e=>Nat.ne_of_lt (Nat.lt_of_lt_of_le (Heap.lt_size e) I.ok.above)
  have neC:∀ b o,X.s₀.heap.get? b = some o -> b ∉ X.ex -> b ∉ ch:=fun b o e hx hb=>by
    rcases (hch b hb).1 with z | z
    · exact hx z
    · rw [e] at z;cases z
  have cellK:∀ x c,X.env.cells.lookup x = some c -> ∀ v,s.heap.IsCell c v -> h'.IsCell c v:=fun x c e v ⟨o,ho,hd⟩=>by
    have nch:c ∉ ch:=fun z=>(hch c z).2.2.1 x c e rfl
    by_cases hc:c ∈ X.fs
    · obtain ⟨sl,q⟩:=slot c o (I.cne x c e) hc nch ho (I.freeC x c e)
      exact ⟨_,q,hd⟩
    · exact ⟨o,keep c o (I.cne x c e) hc nch ho (I.freeC x c e),hd⟩
  refine ⟨I.ok,I.os,hg,⟨fun b o e n hb hx=>?_,fun b o e n hb hx=>?_,fun b o e n hx=>?_,fun b o e hx=>?_,fun b xs e=>tups b xs (I.base.tups b xs e),fun b o xs e=>frzs b o xs (I.base.frzs b o xs e),fun b ps e=>?_⟩,?_,fun x c e=>?_,?_,fun x c e=>?_,fun p hp=>?_,hok,I.len⟩
  · exact keep b o (neL b o e) hb (neC b o e hx) (I.base.keep b o e n hb hx) (I.base.free b o e n hx)
  · obtain ⟨sl,e1⟩:=I.base.slot b o e n hb hx
    obtain ⟨sl',e2⟩:=slot b _ (neL b o e) hb (neC b o e hx) e1 (I.base.free b o e n hx)
    exact ⟨sl',e2⟩
  · obtain ⟨o',e1⟩:=I.base.there b o e hx
    exact free b o' (neC b o e hx) e1 (I.base.free b o e n hx)
  · obtain ⟨o',e1⟩:=I.base.there b o e hx
    exact there b o' (neC b o e hx) e1
  · obtain ⟨m1,e1⟩:=I.base.tbls b ps e
    obtain ⟨m2,e2⟩:=tbls b _ e1
    exact ⟨m1 ++ m2,by rw [e2,Array.append_assoc]⟩
  · obtain ⟨m,hn,hl⟩:=I.loc
    refine ⟨m,ns m hn,fun i x v e1 e2 e3=>?_⟩
    obtain ⟨u,r,l⟩:=hl i x v e1 e2 e3
    refine ⟨u,r,?_⟩
    rcases l with l | ⟨k,c,e,z⟩
    · exact .inl l
    · exact .inr ⟨k,c,e,cellK x c e _ z⟩
  · obtain ⟨v,z⟩:=I.cell x c e
    exact ⟨v,cellK x c e v z⟩
  · obtain ⟨m,⟨o,_,_,ho,_⟩,_⟩:=I.loc
    exact free _ o (fun z=>(hch _ z).2.1 rfl) ho I.free
  · obtain ⟨v,o,ho,hd⟩:=I.cell x c e
    exact free c o (fun z=>(hch c z).2.2.1 x c e rfl) ho (I.freeC x c e)
  · obtain ⟨e,n,ne,nf,d⟩:=I.pin p hp
    have nch:p.1 ∉ ch:=fun z=>(hch p.1 z).2.2.2 p hp rfl
    exact ⟨keep p.1 p.2 ne nf nch e n,free p.1 p.2 nch e n,ne,nf,d⟩
theorem Inv.un {t':Nat} (I:Inv X pins σ H s) (u:Un X.fs [] H H' s.heap h') (hok:HOk X.prog X.w H' h'):Inv X pins σ H' { s with heap:=h',toks:=t' }:=by
  obtain ⟨m,⟨o,es,ep,ho,r⟩,_⟩:=id I.loc
  obtain ⟨sl,hL⟩:=u.any ho I.free (by simp)
  exact I.step (g':=s.gens) (d':=s.drawn) (ch:=[]) (fun _ z=>nomatch z) (fun b o _ hb _ e n=>u.keep b o e n hb (by simp)) (fun b o _ hb _ e n=>u.slot b o e n hb (by simp)) (fun b o _ e n=>u.free b o e n (by simp)) (fun b o _ e=>u.there b o e (by simp)) u.tups u.frzs u.tbls (fun m' hm=>by
    obtain ⟨o',es',ep',ho',r'⟩:=hm
    rw [ho] at ho';cases ho'
    exact ⟨_,es',ep',hL,r'⟩) hok I.bare
theorem Inv.call {g':Array GenState} {t':Nat} {d':Drawn} {ch:List Addr} (I:Inv X pins σ H s) (u:Un (frs X.stack) ch H H' s.heap h') (hok:HOk X.prog X.w H' h') (hg:AllBare g')
    (hch:∀ b ∈ ch,(b ∈ X.ex \/ X.s₀.heap.get? b = none) /\ b ≠ X.env.locals /\ (∀ x c,X.env.cells.lookup x = some c -> c ≠ b) /\ ∀ p ∈ X.pn ++ pins,p.1 ≠ b) :
    Inv X pins σ H' { s with heap:=h',gens:=g',drawn:=d',toks:=t' }:=by
  obtain ⟨m,⟨o,es,ep,ho,r⟩,_⟩:=id I.loc
  obtain ⟨sl,hL⟩:=u.any ho I.free fun z=>(hch _ z).2.1 rfl
  exact I.step (ch:=ch) hch (fun b o hL hb hc e n=>u.keep b o e n (fun z=>(List.mem_cons.mp (I.stkSub b z)).elim hL hb) hc) (fun b o _ _ hc e n=>u.any e n hc) (fun b o hc e n=>u.free b o e n hc) (fun b o hc e=>u.there b o e hc) u.tups u.frzs u.tbls (fun m' hm=>by
    obtain ⟨o',es',ep',ho',r'⟩:=hm
    rw [ho] at ho';cases ho'
    exact ⟨_,es',ep',hL,r'⟩) hok hg
theorem Inv.turned {t':Nat} {it:Addr} (I:Inv X pins σ H s) (k:∀ b o,b ≠ it -> s.heap.get? b = some o -> h'.get? b = some o) (hn:H it = none) (hL:it ≠ X.env.locals)
    (h1:it ∈ X.ex \/ X.s₀.heap.objs.size <= it) (h2:∀ x c,X.env.cells.lookup x = some c -> c ≠ it) (h3:∀ p ∈ X.pn ++ pins,p.1 ≠ it):Inv X pins σ H { s with heap:=h',toks:=t' }:=by
  have nit:∀ b u,H b = some u -> b ≠ it:=fun b u e z=>by rw [z,hn] at e;cases e
  refine I.step (g':=s.gens) (d':=s.drawn) (ch:=[it]) (fun b hb=>?_) (fun b o _ _ hc e _=>k b o (fun z=>hc (by simp [z])) e) (fun b o _ _ hc e _=>⟨o.slots,k b o (fun z=>hc (by simp [z])) e⟩) (fun _ _ _ _ n=>n)
    (fun b o hc e=>⟨o,k b o (fun z=>hc (by simp [z])) e⟩) (fun _ _ e=>e) (fun _ _ _ e=>e) (fun b ps e=>⟨#[],by rw [e];simp⟩) (fun m hm=>?_) (fun b u e=>?_) I.bare
  · have e:b = it:=by simpa using hb
    subst e
    exact ⟨h1.imp id fun z=>Heap.get?_none_of_le z,hL,h2,h3⟩
  · obtain ⟨o,es,ep,ho,r⟩:=hm
    exact ⟨o,es,ep,k _ o (Ne.symm hL) ho,r⟩
  · refine (I.hok b u e).stay (fun c v hc q=>k c v ?_ q) (fun _ q=>q) fun _ _ q=>q
    rcases hc with z | z
    · rw [z];exact nit b u e
    · exact nit c _ z
theorem Inv.tok (I:Inv X pins σ H s) (t:Nat):Inv X pins σ H { s with toks:=t }:=I.un (h':=s.heap) (t':=t) Un.refl I.hok
theorem Inv.kept {t':Nat} (I:Inv X pins σ H s) (k:∀ b u,s.heap.get? b = some u -> h'.get? b = some u):Inv X pins σ H { s with heap:=h',toks:=t' }:=I.un (Un.kept k) (I.hok.kept k)
theorem Inv.laid {a:Addr} {o:HO} {t':Nat} (I:Inv X pins σ H s) (k:∀ b u,s.heap.get? b = some u -> h'.get? b = some u) (hp:s.heap.objs.size <= a) (new:ObjOk X.prog X.w (upd H a o) h' a o) :
    Inv X pins σ (upd H a o) { s with heap:=h',toks:=t' }:=I.un (Un.laid k hp (I.hok.fresh hp)) (I.hok.laid k hp new)
theorem Inv.write {x e:Addr} {o:HO} {t':Nat} (I:Inv X pins σ H s) (mu:Mut (H x)) (he:e = x \/ H e = some (.own x)) (k:∀ b u,b ≠ e -> s.heap.get? b = some u -> h'.get? b = some u) (heo:∃ u,h'.get? e = some u)
    (new:ObjOk X.prog X.w (upd H x o) h' x o):Inv X pins σ (upd H x o) { s with heap:=h',toks:=t' }:=I.un (Un.write mu he k heo) (I.hok.write mu he k heo new)
theorem Inv.pins_of {pins':List (Addr × Obj)} (I:Inv X pins σ H s) (h:∀ p ∈ pins',s.heap.get? p.1 = some p.2 /\ H p.1 = none /\ p.1 ≠ X.env.locals /\ p.1 ∉ X.fs /\ ∀ v,p.2.data ≠ .cell v):Inv X pins' σ H s :=
  ⟨I.ok,I.os,I.bare,I.base,I.loc,I.cell,I.free,I.freeC,fun p hp=>(List.mem_append.mp hp).elim (fun z=>I.pin p (List.mem_append_left _ z)) (h p),I.hok,I.len⟩

theorem nodup_ix {N:List Str} (hN:N.Nodup) {i j:Nat} {x:Str} (a:N[i]? = some x) (b:N[j]? = some x):i = j:=by
  obtain ⟨h1,e1⟩:=List.getElem?_eq_some_iff.mp a
  obtain ⟨h2,e2⟩:=List.getElem?_eq_some_iff.mp b
  exact (List.getElem_inj hN).mp (e1.trans e2.symm)

theorem store_ok2 {M:Model} {A:Around} {E:Value -> Shared -> Prop} {i:Nat} {x:Str} {v:V} {u:Value} {Q:Unit -> Shared -> Prop} (I:Inv X pins σ H s) (hN:X.N.Nodup) (hi:X.N[i]? = some x) (hx:Loc X.env.scope x) (r:RelV v u)
    (h:∀ s',Inv X pins (σ.set i (some v)) H s' -> (∃ a,Heap.SameBut a s.heap s'.heap /\ (a = X.env.locals \/ X.env.cells.lookup x = some a)) -> Q () s') (hf:X.fn x = true \/ X.env.scope.names.lookup x = some .local:=by first | exact .inl rfl | exact .inr rfl | assumption):wpAny M A (storeName X.env x u) Q E s:=by
  obtain ⟨m,hn,hl⟩:=id I.loc
  have hcls:(X.env.scope.kind == .class || (X.env.scope.kind == .module && X.env.locals != X.env.globals)) = false:=by rw [I.ok.kind];rfl
  have hiσ:i < σ.length:=by rw [I.len];exact (List.getElem?_eq_some_iff.mp hi).1
  have cne:=I.cne
  have tracked:∀ {a:Addr} {h':Heap},(∃ o,s.heap.get? a = some o /\ H a = none) -> Heap.SameBut a s.heap h' -> HOk X.prog X.w H h':=fun {a h'} ha hs b ob e=>by
    obtain ⟨_,_,hfree⟩:=ha
    refine (I.hok b ob e).stay (fun c w' hc q=>(hs.2 c ?_).trans q) (fun _ q=>q) fun _ _ q=>q
    rintro rfl
    rcases hc with rfl | hc
    · rw [hfree] at e;cases e
    · rw [hfree] at hc;cases hc
  rcases hx with hk | hk
  · refine wpAny_storeName_local hk hn (fun h' hn' hs=>?_) hcls
    obtain ⟨oL,_,_,hoL,_⟩:=id hn
    refine h _ ⟨I.ok,I.os,I.bare,⟨fun b o e n hb hx=>?_,fun b o e n hb hx=>?_,I.base.free,fun b o e hx=>?_,I.base.tups,I.base.frzs,I.base.tbls⟩,⟨_,hn',fun j y v' e1 e2 e3=>?_⟩,fun y c e=>?_,I.free,I.freeC,fun p hp=>?_,tracked ⟨oL,hoL,I.free⟩ hs,by simpa using I.len⟩ ⟨_,hs,.inl rfl⟩
    · exact (hs.2 b (Nat.ne_of_lt (Nat.lt_of_lt_of_le (Heap.lt_size e) I.ok.above))).trans (I.base.keep b o e n hb hx)
    · obtain ⟨sl,e1⟩:=I.base.slot b o e n hb hx
      exact ⟨sl,(hs.2 b (Nat.ne_of_lt (Nat.lt_of_lt_of_le (Heap.lt_size e) I.ok.above))).trans e1⟩
    · obtain ⟨o',e1⟩:=I.base.there b o e hx
      exact ⟨o',(hs.2 b (Nat.ne_of_lt (Nat.lt_of_lt_of_le (Heap.lt_size e) I.ok.above))).trans e1⟩
    · by_cases hj:j = i
      · subst hj
        rw [hi] at e1;cases e1
        rw [List.getElem?_set_self hiσ] at e2
        cases e2
        exact ⟨u,r,.inl ⟨hk,by simp⟩⟩
      · rw [List.getElem?_set_ne (Ne.symm hj)] at e2
        obtain ⟨u',r',q⟩:=hl j y v' e1 e2 e3
        refine ⟨u',r',?_⟩
        rcases q with ⟨k,e⟩ | ⟨k,c,e,z⟩
        · refine .inl ⟨k,?_⟩
          have:y ≠ x:=fun e=>hj (nodup_ix hN e1 (e ▸ hi))
          simp [this,e]
        · exact .inr ⟨k,c,e,z.sameBut hs (cne y c e)⟩
    · obtain ⟨w',z⟩:=I.cell y c e
      exact ⟨w',z.sameBut hs (cne y c e)⟩
    · obtain ⟨e,n,ne,nf,d⟩:=I.pin p hp
      exact ⟨(hs.2 p.1 ne).trans e,n,ne,nf,d⟩
  · have hfn:X.fn x = true:=by
      rcases hf with z | z
      · exact z
      · rw [z] at hk;cases hk
    obtain ⟨c,hc⟩:=I.ok.has x (.inl hk)
    obtain ⟨w',z⟩:=I.cell x c hc
    refine wpAny_storeName_cell I.ok.kind hk hc z (fun h' hc' hs=>?_)
    obtain ⟨oc,hoc,hocd⟩:=id z
    refine h { s with heap:=h' } ⟨I.ok,I.os,I.bare,⟨fun b o e n hb hx=>?_,fun b o e n hb hx=>?_,I.base.free,fun b o e hx=>?_,I.base.tups,I.base.frzs,I.base.tbls⟩,⟨m,hn.sameBut hs (Ne.symm (cne x c hc)),fun j y v' e1 e2 e3=>?_⟩,fun y c' e=>?_,I.free,I.freeC,fun p hp=>?_,tracked ⟨oc,hoc,I.freeC x c hc⟩ hs,by simpa using I.len⟩ ⟨c,hs,.inr hc⟩
    · exact (hs.2 b (Nat.ne_of_lt (Nat.lt_of_lt_of_le (Heap.lt_size e) (I.ok.cab x c hfn hc)))).trans (I.base.keep b o e n hb hx)
    · obtain ⟨sl,e1⟩:=I.base.slot b o e n hb hx
      exact ⟨sl,(hs.2 b (Nat.ne_of_lt (Nat.lt_of_lt_of_le (Heap.lt_size e) (I.ok.cab x c hfn hc)))).trans e1⟩
    · obtain ⟨o',e1⟩:=I.base.there b o e hx
      exact ⟨o',(hs.2 b (Nat.ne_of_lt (Nat.lt_of_lt_of_le (Heap.lt_size e) (I.ok.cab x c hfn hc)))).trans e1⟩
    · by_cases hj:j = i
      · subst hj
        rw [hi] at e1;cases e1
        rw [List.getElem?_set_self hiσ] at e2
        cases e2
        exact ⟨u,r,.inr ⟨.inl hk,c,hc,hc'⟩⟩
      · rw [List.getElem?_set_ne (Ne.symm hj)] at e2
        obtain ⟨u',r',q⟩:=hl j y v' e1 e2 e3
        refine ⟨u',r',?_⟩
        rcases q with q | ⟨k,c',e,z'⟩
        · exact .inl q
        · refine .inr ⟨k,c',e,z'.sameBut hs ?_⟩
          rintro rfl
          exact hj (nodup_ix hN e1 (I.ok.inj _ _ _ e hc ▸ hi))
    · by_cases hcc:c' = c
      · subst hcc;exact ⟨_,hc'⟩
      · obtain ⟨w2,z2⟩:=I.cell y c' e
        exact ⟨w2,z2.sameBut hs hcc⟩
    · obtain ⟨e,n,ne,nf,d⟩:=I.pin p hp
      refine ⟨(hs.2 p.1 ?_).trans e,n,ne,nf,d⟩
      intro q
      rw [q,hoc] at e
      have q':oc = p.2:=Option.some.inj e
      exact d w' (by rw [<- q'];exact hocd)
theorem store_ok {M:Model} {A:Around} {E:Value -> Shared -> Prop} {i:Nat} {x:Str} {v:V} {u:Value} {Q:Unit -> Shared -> Prop} (I:Inv X pins σ H s) (hN:X.N.Nodup) (hi:X.N[i]? = some x) (hx:Loc X.env.scope x) (r:RelV v u)
    (h:∀ s',Inv X pins (σ.set i (some v)) H s' -> Q () s') (hf:X.fn x = true \/ X.env.scope.names.lookup x = some .local:=by first | exact .inl rfl | exact .inr rfl | assumption):wpAny M A (storeName X.env x u) Q E s :=
  store_ok2 I hN hi hx r (fun s' I' _=>h s' I') hf
theorem Inv.call' {s':Shared} {ch:List Addr} (I:Inv X pins σ H s) (ho:s'.os = s.os) (u:Un (frs X.stack) ch H H' s.heap s'.heap) (hok:HOk X.prog X.w H' s'.heap) (hg:AllBare s'.gens)
    (hch:∀ b ∈ ch,(b ∈ X.ex \/ X.s₀.heap.get? b = none) /\ b ≠ X.env.locals /\ (∀ x c,X.env.cells.lookup x = some c -> c ≠ b) /\ ∀ p ∈ X.pn ++ pins,p.1 ≠ b):Inv X pins σ H' s':=by
  obtain ⟨h',g',d',t',o'⟩:=s'
  have e:o' = s.os:=ho
  subst e
  exact I.call (g':=g') (t':=t') (d':=d') u hok hg hch
end

noncomputable abbrev XK:=Value -> Option Addr -> Hp -> Prop
noncomputable abbrev St:=List (Option V)
noncomputable abbrev VK:=V -> Hp -> Prop
noncomputable abbrev TE:=St -> Hp -> VK -> Prop
noncomputable abbrev TT:=St -> Hp -> (Bool -> Hp -> Prop) -> Prop
noncomputable abbrev TA:=St -> Hp -> (List V -> Hp -> Prop) -> Prop
structure Ends where
  nx:St -> Hp -> Prop
  rt:VK
  bk:St -> Hp -> Prop:=fun _ _=>False
  ct:St -> Hp -> Prop:=fun _ _=>False
noncomputable abbrev TS:=Ends -> St -> Hp -> Prop

noncomputable def EP (X:Cx) (pins:List (Addr × Obj)) (σ:St) (Q:VK) (u:Value) (s':Shared):Prop:=∃ v H',Inv X pins σ H' s' /\ RelV v u /\ Q v H'
noncomputable def TP (X:Cx) (pins:List (Addr × Obj)) (σ:St) (Q:Bool -> Hp -> Prop) (b:Bool) (s':Shared):Prop:=∃ H',Inv X pins σ H' s' /\ Q b H'
noncomputable def AP (X:Cx) (pins:List (Addr × Obj)) (σ:St) (Q:List V -> Hp -> Prop) (us:List Value) (s':Shared):Prop:=∃ vs H',Inv X pins σ H' s' /\ Vals vs us /\ Q vs H'
noncomputable def SP (X:Cx) (pins:List (Addr × Obj)) (D:Ends) (f:Flow) (s':Shared):Prop :=
  match f with
  | .next=>∃ σ' H',Inv X pins σ' H' s' /\ D.nx σ' H'
  | .brk=>∃ σ' H',Inv X pins σ' H' s' /\ D.bk σ' H'
  | .cont=>∃ σ' H',Inv X pins σ' H' s' /\ D.ct σ' H'
  | .ret u=>∃ v σ' H',Inv X pins σ' H' s' /\ RelV v u /\ D.rt v H'

noncomputable def PE (X:Cx) (e:Expr) (t:TE):Prop :=
  ∀ (pins:List (Addr × Obj)) (s:Shared) (σ:St) (H:Hp) (Q:VK),Inv X pins σ H s -> t σ H Q -> wpAny (model X.prog X.w) X.A (eval e X.env) (EP X pins σ Q) X.xe s
noncomputable def PT (X:Cx) (e:Expr) (t:TT):Prop :=
  ∀ (pins:List (Addr × Obj)) (s:Shared) (σ:St) (H:Hp) (Q:Bool -> Hp -> Prop),Inv X pins σ H s -> t σ H Q -> wpAny (model X.prog X.w) X.A (isTrue e X.env (eval e X.env)) (TP X pins σ Q) X.xe s
noncomputable def PW (X:Cx) (e:Expr) (t:TT):Prop :=
  ∀ (whole:Sem Value) (pins:List (Addr × Obj)) (s:Shared) (σ:St) (H:Hp) (Q:Bool -> Hp -> Prop),Inv X pins σ H s -> t σ H Q -> wpAny (model X.prog X.w) X.A (isTrue e X.env whole) (TP X pins σ Q) X.xe s
theorem PW.pt {X:Cx} {e:Expr} {t:TT} (h:PW X e t):PT X e t:=h _
noncomputable def PA (X:Cx) (es:List Expr) (t:TA):Prop :=
  ∀ (pos:Pos) (pins:List (Addr × Obj)) (s:Shared) (σ:St) (H:Hp) (Q:List V -> Hp -> Prop),Inv X pins σ H s -> t σ H Q -> wpAny (model X.prog X.w) X.A (spliced (backTo pos (starEach es X.env))) (AP X pins σ Q) X.xe s
noncomputable def PS (X:Cx) (st:Stmt) (t:TS):Prop :=
  ∀ (pins:List (Addr × Obj)) (s:Shared) (σ:St) (H:Hp) (D:Ends),Inv X pins σ H s -> t D σ H -> wpAny (model X.prog X.w) X.A (exec st X.env) (SP X pins D) X.xe s
noncomputable def PSs (X:Cx) (st:List Stmt) (t:TS):Prop :=
  ∀ (pins:List (Addr × Obj)) (s:Shared) (σ:St) (H:Hp) (D:Ends),Inv X pins σ H s -> t D σ H -> wpAny (model X.prog X.w) X.A (execs st X.env) (SP X pins D) X.xe s
theorem thn {α:Type} {t:Sem α} {Q Q':α -> Shared -> Prop} {M:Model} {A:Around} {E:Value -> Shared -> Prop} {s:Shared} (h:wpAny M A t Q E s) (hQ:∀ a s,Q a s -> Q' a s):wpAny M A t Q' E s:=wpAny_mono h hQ fun _ _ x=>x
end L2

namespace L2
open PySem PySem.Spec PyProof.Rows
section
variable {X:Cx}

noncomputable def tVar (i:Nat):TE:=fun σ H Q=>∃ v,σ[i]? = some (some v) /\ Q v H
noncomputable def tC (v:V):TE:=fun _ H Q=>Q v H
theorem pe_var {i:Nat} {x:Str} {pos:Pos} (hN:X.N[i]? = some x) (hv:Vis X.env.scope x) (hd:(x == ("__debug__":Str)) = false:=by decide) (hcd:(x == ("__classdict__":Str)) = false:=by decide):PE X (.Name x pos) (tVar i):=by
  intro pins s σ H Q I h
  obtain ⟨v,e,h⟩:=h
  obtain ⟨m,hn,hl⟩:=I.loc
  obtain ⟨u,r,l⟩:=hl i x v hN e hv
  have fin:EP X pins σ Q u s:=⟨v,H,I,r,h⟩
  rcases l with ⟨hk,hm⟩ | ⟨hk,c,hc,hcell⟩
  · exact wpAny_Name (wpAny_loadName_local I.ok.kind hk hn hm fin) hd
  · rcases hk with hk | hk
    · exact wpAny_Name (wpAny_loadName_cell I.ok.kind hk hc hcell fin) hd
    · exact wpAny_Name (wpAny_loadName_free I.ok.kind hk hc hcell fin hcd) hd
theorem pe_int {i j pos}:PE X (.Constant (.int i) j pos) (tC (.int i)):=fun _ _ _ H _ I h=>wpAny_Constant_int ⟨.int i,H,I.tok _,⟨_,rfl⟩,h⟩
theorem pe_bl {b j pos}:PE X (.Constant (.bool b) j pos) (tC (.bl b)):=fun _ _ _ H _ I h=>Constant_bool ⟨.bl b,H,I,rfl,h⟩
theorem pe_non {j pos}:PE X (.Constant .none j pos) (tC .non):=fun _ _ _ H _ I h=>Constant_none ⟨.non,H,I,rfl,h⟩
theorem pe_str {x j pos}:PE X (.Constant (.str x) j pos) (tC (.str x)):=fun _ _ _ H _ I h=>Calls.Constant_str ⟨.str x,H,I.tok _,⟨_,rfl⟩,h⟩

noncomputable def Gl (X:Cx) (x:Str):Prop:=X.env.kindOf x = some .globalImplicit
theorem ld_glob {E:Value -> Shared -> Prop} {pins:List (Addr × Obj)} {s:Shared} {σ:St} {H:Hp} {x:Str} {u:Value} {pos:Pos} {Q:Value -> Shared -> Prop} (I:Inv X pins σ H s) (hg:Gl X x) (hm:X.mg x = some u) (h:Q u s)
    (hd:(x == ("__debug__":Str)) = false:=by decide):wpAny (model X.prog X.w) X.A (eval (.Name x pos) X.env) Q E s :=
  Calls.Name_function_global I.ok.kind hg (Calls.loadGlobal_global (by rw [I.ok.glob];exact I.mod.glob.keeps I.bk) hm h) hd
theorem ld_blt {E:Value -> Shared -> Prop} {pins:List (Addr × Obj)} {s:Shared} {σ:St} {H:Hp} {x:Str} {u:Value} {pos:Pos} {Q:Value -> Shared -> Prop} (I:Inv X pins σ H s) (hg:Gl X x) (hm:X.mg x = none) (hv:bootBuiltins x = some u) (h:Q u s)
    (hn:x ≠ "__name__":=by decide) (hd:(x == ("__debug__":Str)) = false:=by decide):wpAny (model X.prog X.w) X.A (eval (.Name x pos) X.env) Q E s:=by
  obtain ⟨mb,h1,h2⟩:=I.mod.blt
  exact Calls.Name_function_global I.ok.kind hg (Calls.loadGlobal_builtin (by rw [I.ok.glob];exact I.mod.glob.keeps I.bk) hm (by rw [I.ok.blt];exact h1.keeps I.bk) ((h2 x hn).trans hv) h) hd
theorem pe_glob {x:Str} {v:V} {u:Value} {pos:Pos} (hg:Gl X x) (hm:X.mg x = some u) (r:RelV v u) (hd:(x == ("__debug__":Str)) = false:=by decide):PE X (.Name x pos) (tC v) :=
  fun _ _ _ H _ I h=>ld_glob I hg hm ⟨v,H,I,r,h⟩ hd
theorem pe_bltn {x:Str} {v:V} {u:Value} {pos:Pos} (hg:Gl X x) (hm:X.mg x = none) (hv:bootBuiltins x = some u) (r:RelV v u) (hn:x ≠ "__name__":=by decide) (hd:(x == ("__debug__":Str)) = false:=by decide):PE X (.Name x pos) (tC v) :=
  fun _ _ _ H _ I h=>ld_blt I hg hm hv ⟨v,H,I,r,h⟩ hn hd

variable {a b:Expr} {ta tb:TE} {pos:Pos}
variable {tA tB':TT} {rest:List Expr}
noncomputable def tAnd (t u:TT):TT:=fun σ H Q=>t σ H fun c H1=>if c = true then u σ H1 Q else Q false H1
noncomputable def tOr (t u:TT):TT:=fun σ H Q=>t σ H fun c H1=>if c = true then Q true H1 else u σ H1 Q
noncomputable def tNot (t:TT):TT:=fun σ H Q=>t σ H fun c H1=>Q (!c) H1
theorem pw_and1 (ha:PT X a tA):PW X (.BoolOp .And [a] pos) tA:=by
  intro wh pins s σ H Q I h
  refine isTrue_and (thn (ha pins s σ H Q I h) fun c s1 e=>?_)
  cases c with
  | true=>exact isTrue_and_nil e
  | false=>exact e
theorem pw_or1 (ha:PT X a tA):PW X (.BoolOp .Or [a] pos) tA:=by
  intro wh pins s σ H Q I h
  refine isTrue_or (thn (ha pins s σ H Q I h) fun c s1 e=>?_)
  cases c with
  | false=>exact isTrue_or_nil e
  | true=>exact e
theorem pw_and (ha:PT X a tA) (hb:PW X (.BoolOp .And (b :: rest) pos) tB'):PW X (.BoolOp .And (a :: b :: rest) pos) (tAnd tA tB'):=by
  intro wh pins s σ H Q I h
  refine isTrue_and (thn (ha pins s σ H _ I h) fun c s1 ⟨H1,I1,q1⟩=>?_)
  cases c with
  | true=>exact hb wh pins s1 σ H1 Q I1 q1
  | false=>exact ⟨H1,I1,q1⟩
theorem pw_or (ha:PT X a tA) (hb:PW X (.BoolOp .Or (b :: rest) pos) tB'):PW X (.BoolOp .Or (a :: b :: rest) pos) (tOr tA tB'):=by
  intro wh pins s σ H Q I h
  refine isTrue_or (thn (ha pins s σ H _ I h) fun c s1 ⟨H1,I1,q1⟩=>?_)
  cases c with
  | true=>exact ⟨H1,I1,q1⟩
  | false=>exact hb wh pins s1 σ H1 Q I1 q1
theorem pt_not (ha:PT X a tA):PT X (.UnaryOp .Not a pos) (tNot tA):=by
  intro pins s σ H Q I h
  exact isTrue_not (ha pins s σ H (fun c H1=>Q (!c) H1) I h)
noncomputable def tAndV (ta tb:TE):TE:=fun σ H Q=>ta σ H fun x H1=>∃ c,x = .bl c /\ if c = true then tb σ H1 Q else Q (.bl false) H1
noncomputable def tNotV (ta:TE):TE:=fun σ H Q=>ta σ H fun x H1=>∃ c,x = .bl c /\ Q (.bl (!c)) H1
theorem pe_one {op} {t:TE} (h:PE X a t):PE X (.BoolOp op [a] pos) t:=fun pins s σ H Q I hw=>BoolOp_one (h pins s σ H Q I hw)
theorem pe_and (ha:PE X a ta) (hb:PE X (.BoolOp .And (b :: rest) pos) tb):PE X (.BoolOp .And (a :: b :: rest) pos) (tAndV ta tb):=by
  intro pins s σ H Q I h
  refine BoolOp_and (thn (ha pins s σ H _ I h) fun v s1 ⟨x,H1,I1,r1,q1⟩=>?_)
  obtain ⟨c,rfl,q1⟩:=q1
  cases r1
  refine wpAny_truthy_bool ?_
  cases c with
  | true=>exact hb pins s1 σ H1 Q I1 q1
  | false=>exact ⟨.bl false,H1,I1,rfl,q1⟩
theorem pe_not (ha:PE X a ta):PE X (.UnaryOp .Not a pos) (tNotV ta):=by
  intro pins s σ H Q I h
  refine UnaryOp_ (thn (ha pins s σ H _ I h) fun v s1 ⟨x,H1,I1,r1,q1⟩=>?_)
  obtain ⟨c,rfl,q1⟩:=q1
  cases r1
  exact not_of (wpAny_truthy_bool ⟨.bl (!c),H1,I1,rfl,q1⟩)
end
end L2

namespace L2
open PySem PySem.Spec PyProof.Rows

noncomputable def SqL (K:PySem.W.Frag) (H:Hp) (a:Addr) (xs:List V):Prop :=
  Rd H a (.lst xs) \/
    ∃ (o:Obj) (its:Array Value) (n:Nat),K.lookup a = some o /\ o.cls = .type "list" /\ o.dict = none /\ o.data = .seq its n /\ its.size <= sizeLine /\ Vals xs its.toList
noncomputable def SqT (K:PySem.W.Frag) (H:Hp) (a:Addr) (xs:List V):Prop :=
  Rd H a (.tup xs) \/
    ∃ (o:Obj) (its:Array Value) (n:Nat),K.lookup a = some o /\ o.cls = .type "tuple" /\ o.data = .seq its n /\ its.size <= sizeLine /\ Vals xs its.toList
noncomputable def absV:Value -> Option V
  | .none=>some .non
  | .bool b=>some (.bl b)
  | .int i _=>some (.int i)
  | .str x _=>some (.str x)
  | .bytes b _=>some (.byt b)
  | .float b _=>some (.flt b)
  | .ref a=>some (.ref a)
  | .type n=>some (.ty n)
  | _=>none
theorem RelV.abs {x:V} {u:Value} (r:RelV x u):absV u = some x:=by
  cases x with
  | non=>cases r;rfl
  | bl _=>cases r;rfl
  | int _=>obtain ⟨t,rfl⟩:=r;rfl
  | str _=>obtain ⟨t,rfl⟩:=r;rfl
  | byt _=>obtain ⟨t,rfl⟩:=r;rfl
  | flt _=>obtain ⟨t,rfl⟩:=r;rfl
  | ref _=>cases r;rfl
  | ty _=>cases r;rfl
theorem RelV.inj {x y:V} {u:Value} (r:RelV x u) (q:RelV y u):x = y:=Option.some.inj (r.abs.symm.trans q.abs)
theorem Vals.inj:∀ {xs ys:List V} {us:List Value},Vals xs us -> Vals ys us -> xs = ys
  | _,_,_,.nil,.nil=>rfl
  | _,_,_,.cons r t,.cons r' t'=>by rw [r.inj r',Vals.inj t t']
section
variable {X:Cx} {pins:List (Addr × Obj)} {σ:St} {H:Hp} {s:Shared} {a:Addr} {xs ys:List V}
theorem SqL.of {K:PySem.W.Frag} (h:H a = some (.lst xs)):SqL K H a xs:=.inl (.inl h)
theorem SqT.of {K:PySem.W.Frag} (h:H a = some (.tup xs)):SqT K H a xs:=.inl (.inl h)
theorem Inv.list (I:Inv X pins σ H s) (h:SqL X.K H a xs):∃ its:List Value,Vals xs its /\ PlainL s.heap a its.toArray /\ xs.length <= sizeLine:=by
  rcases h with h | ⟨o,its,n,hk,hc,hd,hs,hz,r⟩
  · obtain ⟨z,its,n,r,e⟩:=h.ok I.hok
    exact ⟨its,r,⟨_,n,e,rfl,rfl,rfl⟩,z⟩
  · refine ⟨its.toList,r,⟨o,n,I.kIn a o hk,hc,hd,by simpa using hs⟩,?_⟩
    have e:=r.length
    simp only [Array.length_toList] at e
    omega
theorem Inv.tuple (I:Inv X pins σ H s) (h:SqT X.K H a xs):∃ its:List Value,Vals xs its /\ IsTup s.heap a its.toArray /\ xs.length <= sizeLine:=by
  rcases h with h | ⟨o,its,n,hk,hc,hs,hz,r⟩
  · obtain ⟨z,its,r,p⟩:=h.ok I.hok
    exact ⟨its,r,p,z⟩
  · refine ⟨its.toList,r,⟨o,I.kIn a o hk,hc,n,by simpa using hs⟩,?_⟩
    have e:=r.length
    simp only [Array.length_toList] at e
    omega
theorem Inv.list_inj (I:Inv X pins σ H s) (h:SqL X.K H a xs) (h':SqL X.K H a ys):xs = ys:=by
  obtain ⟨its,r,⟨o,n,e,_,_,d⟩,_⟩:=I.list h
  obtain ⟨its',r',⟨o',n',e',_,_,d'⟩,_⟩:=I.list h'
  rw [e] at e';cases e'
  rw [d] at d'
  injection d' with d1 _
  have:its = its':=by simpa using congrArg Array.toList d1
  subst this
  exact r.inj r'
theorem Inv.tuple_inj (I:Inv X pins σ H s) (h:SqT X.K H a xs) (h':SqT X.K H a ys):xs = ys:=by
  obtain ⟨its,r,⟨o,e,_,n,d⟩,_⟩:=I.tuple h
  obtain ⟨its',r',⟨o',e',_,n',d'⟩,_⟩:=I.tuple h'
  rw [e] at e';cases e'
  rw [d] at d'
  injection d' with d1 _
  have:its = its':=by simpa using congrArg Array.toList d1
  subst this
  exact r.inj r'
end

noncomputable abbrev Cx.wish (X:Cx) (E:Value -> Shared -> Prop):Cx:={ X with xe:=E }
noncomputable abbrev Cx.nox (X:Cx):Cx:=X.wish fun _ _=>False
theorem Cx.Ok.wish {X:Cx} (ok:X.Ok) (E:Value -> Shared -> Prop):(X.wish E).Ok :=
  ⟨ok.mod,ok.kind,ok.glob,ok.blt,ok.above,ok.inj,ok.has,ok.cab,ok.hd,ok.frames,ok.stk,ok.exf,ok.bs,ok.bsz,ok.noex,ok.exfs,ok.funs,ok.frf⟩
theorem Cx.Ok.unwish {X:Cx} {E:Value -> Shared -> Prop} (ok:(X.wish E).Ok):X.Ok :=
  ⟨ok.mod,ok.kind,ok.glob,ok.blt,ok.above,ok.inj,ok.has,ok.cab,ok.hd,ok.frames,ok.stk,ok.exf,ok.bs,ok.bsz,ok.noex,ok.exfs,ok.funs,ok.frf⟩
section
variable {X:Cx} {pins:List (Addr × Obj)} {σ:St} {H:Hp} {s:Shared} {E:Value -> Shared -> Prop}
theorem Inv.wish (I:Inv X pins σ H s) (E:Value -> Shared -> Prop):Inv (X.wish E) pins σ H s:=⟨I.ok.wish E,I.os,I.bare,I.base,I.loc,I.cell,I.free,I.freeC,I.pin,I.hok,I.len⟩
theorem Inv.unwish (I:Inv (X.wish E) pins σ H s):Inv X pins σ H s:=⟨I.ok.unwish,I.os,I.bare,I.base,I.loc,I.cell,I.free,I.freeC,I.pin,I.hok,I.len⟩
theorem SP.unwish {D:Ends} {f:Flow} {s':Shared} (h:SP (X.wish E) pins D f s'):SP X pins D f s':=by
  cases f with
  | next=>obtain ⟨σ',H',I,q⟩:=h;exact ⟨σ',H',I.unwish,q⟩
  | brk=>obtain ⟨σ',H',I,q⟩:=h;exact ⟨σ',H',I.unwish,q⟩
  | cont=>obtain ⟨σ',H',I,q⟩:=h;exact ⟨σ',H',I.unwish,q⟩
  | ret u=>obtain ⟨v,σ',H',I,r,q⟩:=h;exact ⟨v,σ',H',I.unwish,r,q⟩
theorem PSs.nox {st:List Stmt} {t:TS} (h:PSs X.nox st t):PSs X st t:=fun pins s σ H D I hw =>
  wpAny_mono (h pins s σ H D (I.wish _) hw) (fun _ _ q=>q.unwish) fun _ _ z=>False.elim z
end

section
variable {X:Cx} {st:Stmt} {rest:List Stmt} {t u:TS} {e:Expr} {te:TE} {pos:Pos}
noncomputable def tNext:TS:=fun D σ H=>D.nx σ H
noncomputable def tSeq (t u:TS):TS:=fun D σ H=>t { D with nx:=u D } σ H
theorem pss_nil:PSs X [] tNext:=fun _ _ σ H _ I h=>wpAny_execs_nil ⟨σ,H,I,h⟩
theorem pss_cons (h1:PS X st t) (h2:PSs X rest u):PSs X (st :: rest) (tSeq t u):=by
  intro pins s σ H D I h
  refine wpAny_execs_cons (thn (h1 pins s σ H { D with nx:=u D } I h) fun f s1 q=>?_)
  cases f with
  | next =>
    obtain ⟨σ',H',I',q⟩:=q
    exact h2 pins s1 σ' H' D I' q
  | ret v=>exact q
  | brk=>exact q
  | cont=>exact q
theorem pss_one (h1:PS X st t):PSs X [st] t:=by
  intro pins s σ H D I h
  refine wpAny_execs_cons (thn (h1 pins s σ H D I h) fun f s1 q=>?_)
  cases f with
  | next=>exact wpAny_execs_nil q
  | ret v=>exact q
  | brk=>exact q
  | cont=>exact q
theorem Inv.quiet {pins:List (Addr × Obj)} {σ:St} {H:Hp} {s:Shared} (I:Inv X pins σ H s):interactive X.env = false:=by simp [interactive,I.ok.kind]
noncomputable def tDrop (te:TE):TS:=fun D σ H=>te σ H fun _ H1=>D.nx σ H1
theorem ps_expr (he:PE X e te) (hs:swapsWith e none pos.line X.env = pure false:=by rfl):PS X (.Expr e pos) (tDrop te):=by
  intro pins s σ H D I h
  exact wpAny_Expr_any (thn (he pins s σ H _ I h) fun v s1 ⟨x,H1,I1,r1,q1⟩=>⟨σ,H1,I1,q1⟩) I.quiet hs
noncomputable def tRet (te:TE):TS:=fun D σ H=>te σ H D.rt
theorem ps_ret (he:PE X e te):PS X (.Return (some e) pos) (tRet te):=by
  intro pins s σ H D I h
  exact wpAny_Return_some (thn (he pins s σ H _ I h) fun v s1 ⟨x,H1,I1,r1,q1⟩=>⟨x,σ,H1,I1,r1,q1⟩)
noncomputable def tIfS (c:TT) (t u:TS):TS:=fun D σ H=>c σ H fun b H1=>if b = true then t D σ H1 else u D σ H1
theorem ps_if {c:Expr} {a b:List Stmt} {tc:TT} (hc:PT X c tc) (ha:PSs X a t) (hb:PSs X b u):PS X (.If c a b pos) (tIfS tc t u):=by
  intro pins s σ H D I h
  refine wpAny_If (thn (hc pins s σ H _ I h) fun d s1 ⟨H1,I1,q1⟩=>?_)
  cases d with
  | true=>exact ha pins s1 σ H1 D I1 q1
  | false=>exact hb pins s1 σ H1 D I1 q1
noncomputable def tNever:TS:=fun _ _ _=>False
theorem ps_never:PS X st tNever:=fun _ _ _ _ _ _ h=>h.elim
end

noncomputable abbrev TG:=V -> St -> Hp -> (St -> Hp -> Prop) -> Prop
noncomputable abbrev TGs:=List V -> St -> Hp -> (St -> Hp -> Prop) -> Prop
noncomputable def PG (X:Cx) (target:Expr) (t:TG):Prop :=
  ∀ (pins:List (Addr × Obj)) (s:Shared) (σ:St) (H:Hp) (v:V) (u:Value) (Q:St -> Hp -> Prop),Inv X pins σ H s -> RelV v u -> t v σ H Q ->
    wpAny (model X.prog X.w) X.A (assign target X.env u) (fun _ s'=>∃ σ' H',Inv X pins σ' H' s' /\ Q σ' H') X.xe s
noncomputable def PGs (X:Cx) (ts:List Expr) (t:TGs):Prop :=
  ∀ (pins:List (Addr × Obj)) (s:Shared) (σ:St) (H:Hp) (vs:List V) (us:List Value) (Q:St -> Hp -> Prop),Inv X pins σ H s -> Vals vs us -> t vs σ H Q ->
    wpAny (model X.prog X.w) X.A (assignInOrder ((assignEach ts X.env).map (·.2)) us) (fun _ s'=>∃ σ' H',Inv X pins σ' H' s' /\ Q σ' H') X.xe s
noncomputable abbrev TSet:=V -> V -> V -> Hp -> (Hp -> Prop) -> Prop
noncomputable def PSet (X:Cx) (t:TSet):Prop :=
  ∀ (pins:List (Addr × Obj)) (s:Shared) (σ:St) (H:Hp) (o i v:V) (ov iv u:Value) (Q:Hp -> Prop),Inv X pins σ H s -> RelV o ov -> RelV i iv -> RelV v u -> t o i v H Q ->
    wpAny (model X.prog X.w) X.A (setItem ov iv u) (fun _ s'=>∃ H',Inv X pins σ H' s' /\ Q H') X.xe s
section
variable {X:Cx} {pos:Pos}
noncomputable def gName (i:Nat):TG:=fun v σ H Q=>Q (σ.set i (some v)) H
theorem pg_name {i:Nat} {x:Str} (hN:X.N.Nodup) (hi:X.N[i]? = some x) (hx:Loc X.env.scope x) (hf:X.fn x = true \/ X.env.scope.names.lookup x = some .local:=by first | exact .inl rfl | exact .inr rfl | assumption):PG X (.Name x pos) (gName i):=by
  intro pins s σ H v u Q I r h
  exact wpAny_assign_Name (store_ok I hN hi hx r (fun s' I'=>⟨_,H,I',h⟩) hf)
noncomputable def gNil:TGs:=fun vs σ H Q=>vs = [] /\ Q σ H
noncomputable def gCons (t:TG) (u:TGs):TGs:=fun vs σ H Q=>∃ v r,vs = v :: r /\ t v σ H fun σ' H'=>u r σ' H' Q
theorem pgs_nil:PGs X [] gNil:=by
  intro pins s σ H vs us Q I r h
  obtain ⟨e,h⟩:=h
  subst e
  cases r
  exact assignInOrder_nil ⟨σ,H,I,h⟩
theorem pgs_cons {e:Expr} {es:List Expr} {t:TG} {u:TGs} (h1:PG X e t) (h2:PGs X es u)
    (hs:(assignEach (e :: es) X.env).map (·.2) = assign e X.env :: (assignEach es X.env).map (·.2):=by rfl):PGs X (e :: es) (gCons t u):=by
  intro pins s σ H vs us Q I r h
  obtain ⟨v,vr,e1,h⟩:=h
  subst e1
  cases r with
  | cons r rr =>
    rw [hs]
    refine assignInOrder_cons (thn (h1 pins s σ H _ _ _ I r h) fun _ s1 ⟨σ1,H1,I1,q1⟩=>?_)
    exact h2 pins s1 σ1 H1 _ _ Q I1 rr q1
noncomputable def gTup (K:PySem.W.Frag) (n:Nat) (t:TGs):TG:=fun v σ H Q=>∃ a xs,v = .ref a /\ SqT K H a xs /\ xs.length = n /\ t xs σ H Q
theorem pg_tup {es:List Expr} {k:Nat} {t:TGs} {n:Nat} (hc:X.calm = true) (h:PGs X es t)
    (hn:(assignEach es X.env).length = n:=by rfl) (hst:(assignEach es X.env).findIdx? (·.1) = none:=by rfl):PG X (.Tuple es k pos) (gTup X.K n t):=by
  intro pins s σ H v u Q I r hw
  obtain ⟨a,xs,e1,hq,hl,hw⟩:=hw
  subst e1
  cases r
  obtain ⟨its,rv,ht,hz⟩:=I.tuple hq
  refine assign_Tuple_tuple (I.ok.hd hc) ht (by simp [hn,<- hl,rv.length]) hst fun h' hx=>?_
  have I1:Inv X pins σ H { s with heap:=h' }:=I.kept (t':=s.toks) fun b o e=>hx b o (Nat.ne_of_lt (Heap.lt_size e)) e
  exact h pins _ σ H xs _ Q I1 (by simpa using rv) hw
noncomputable def gSub (to ti:TE) (t:TSet):TG:=fun v σ H Q=>to σ H fun o H1=>ti σ H1 fun i H2=>t o i v H2 fun H3=>Q σ H3
theorem pg_sub {o i:Expr} {to ti:TE} {t:TSet} (ho:PE X o to) (hi:PE X i ti) (hs:PSet X t)
    (ha:∀ v,assign (.Subscript o i pos) X.env v = (do
      let ov <- holding [v] (eval o X.env)
      let iv <- holding [v,ov] (eval i X.env)
      standAt pos
      holding [v,ov,iv] (setItem ov iv v)
      release [v,ov,iv] []):=by intro _;rfl):PG X (.Subscript o i pos) (gSub to ti t):=by
  intro pins s σ H v u Q I r h
  rw [ha]
  refine wpAny_bind (wpAny_holding (thn (ho pins s σ H _ I h) fun ov s1 ⟨x,H1,I1,r1,q1⟩=>?_))
  refine wpAny_bind (wpAny_holding (thn (hi pins s1 σ H1 _ I1 q1) fun iv s2 ⟨y,H2,I2,r2,q2⟩=>?_))
  refine wpAny_bind (wpAny_standAt (wpAny_bind (wpAny_holding (thn (hs pins s2 σ H2 x y v ov iv u _ I2 r1 r2 r q2) fun _ s3 ⟨H3,I3,q3⟩=>?_))))
  exact wpAny_release ⟨σ,H3,I3,q3⟩
noncomputable def tAsg (te:TE) (g:TG):TS:=fun D σ H=>te σ H fun x H1=>g x σ H1 D.nx
theorem ps_asg {tg e:Expr} {te:TE} {g:TG} (he:PE X e te) (hg:PG X tg g) (hs:swapsWithSole [tg] e pos.line X.env = pure false:=by rfl) (hw:swappedStores [tg] e X.env = pure none:=by rfl)
    (h1:(assignEach [tg] X.env).map (·.2) = [assign tg X.env]:=by rfl):PS X (.Assign [tg] e pos) (tAsg te g):=by
  intro pins s σ H D I h
  refine wpAny_Assign_stores (thn (he pins s σ H _ I h) fun v s1 ⟨x,H1,I1,r1,q1⟩=>?_) hs hw
  rw [h1]
  exact thn (hg pins s1 σ H1 x v _ I1 r1 q1) fun _ s2 q=>q
theorem ps_set {i:Nat} {x:Str} {e:Expr} {te:TE} {pos':Pos} (hN:X.N.Nodup) (hi:X.N[i]? = some x) (hx:Loc X.env.scope x) (he:PE X e te) (hs:swapsWith e (some (.Name x pos')) pos.line X.env = pure false:=by rfl) (hf:X.fn x = true \/ X.env.scope.names.lookup x = some .local:=by first | exact .inl rfl | exact .inr rfl | assumption) :
    PS X (.Assign [.Name x pos'] e pos) (tAsg te (gName i)):=by
  intro pins s σ H D I h
  refine wpAny_Assign_Name (thn (he pins s σ H _ I h) fun v s1 ⟨y,H1,I1,r1,q1⟩=>?_) hs
  exact store_ok I1 hN hi hx r1 (fun s2 I2=>⟨_,H1,I2,q1⟩) hf
end

section
variable {X:Cx} {pos:Pos}
end

structure It where
  go:Nat -> Hp -> Prop
  yld:Nat -> Hp -> V -> Hp -> Prop
  stop:Nat -> Hp -> Prop
noncomputable def FpOk (X:Cx) (pins:List (Addr × Obj)) (H:Hp) (b:Addr):Prop :=
  H b = none /\ b ≠ X.env.locals /\ b ∉ X.fs /\ (b ∈ X.ex \/ X.s₀.heap.objs.size <= b) /\ (∀ x c,X.env.cells.lookup x = some c -> c ≠ b) /\ ∀ p ∈ X.pn ++ pins,p.1 ≠ b
theorem Inv.fpOk {X:Cx} {pins:List (Addr × Obj)} {σ:St} {H H':Hp} {s:Shared} {b:Addr} (I:Inv X pins σ H s) (hb:s.heap.objs.size <= b) (hn:H' b = none):FpOk X pins H' b:=by
  refine ⟨hn,Nat.ne_of_gt (Nat.lt_of_lt_of_le I.lt hb),I.nofs hb,.inr (Nat.le_trans I.sz hb),fun x c e z=>?_,fun p hp z=>?_⟩
  · obtain ⟨v,q⟩:=I.cell x c e
    exact absurd (Nat.lt_of_lt_of_le q.lt (by rw [z];exact hb)) (Nat.lt_irrefl _)
  · exact absurd (Nat.lt_of_lt_of_le (Heap.lt_size (I.pin p hp).1) (by rw [z];exact hb)) (Nat.lt_irrefl _)
structure Turn (P:Program) (w:World) (K:PySem.W.Frag) (tg:Expr) (J:It) (fp:List Addr) (it:Addr) (tn:Nat -> Heap -> Prop):Prop where
  mem:it ∈ fp
  obj:∀ i h,tn i h -> ∀ b ∈ fp,∃ o,h.get? b = some o /\ ∀ v,o.data ≠ .cell v
  keep:∀ i h h',tn i h -> (∀ b ∈ fp,∀ o,h.get? b = some o -> h'.get? b = some o) -> tn i h'
  item:∀ (X:Cx),X.prog = P -> X.w = w -> X.K = K -> X.calm = true -> ∀ (i:Nat) (pins:List (Addr × Obj)) (s:Shared) (σ:St) (H:Hp) (E:Value -> Shared -> Prop),Inv X pins σ H s -> (∀ b ∈ fp,FpOk X pins H b) -> tn i s.heap -> J.go i H ->
    wpAny (model P w) X.A (pyNext (.ref it)) (fun r s1=>∃ u,r = some u /\
      wpAny (model P w) X.A (letOwnedTupleGo tg (.ref it) u) (fun _ s2=>∃ x H',Inv X pins σ H' s2 /\ RelV x u /\ J.yld i H x H' /\ tn (i + 1) s2.heap /\ ∀ b ∈ fp,H' b = none) E s1) E s
  done:∀ (X:Cx),X.prog = P -> X.w = w -> X.K = K -> X.calm = true -> ∀ (i:Nat) (pins:List (Addr × Obj)) (s:Shared) (σ:St) (H:Hp) (E:Value -> Shared -> Prop),Inv X pins σ H s -> (∀ b ∈ fp,FpOk X pins H b) -> tn i s.heap -> J.stop i H ->
    wpAny (model P w) X.A (pyNext (.ref it)) (fun r s1=>r = none /\ Inv X pins σ H s1) E s
  self:∀ (A:Around) (i:Nat) (s:Shared) (Q:Value -> Shared -> Prop) (E:Value -> Shared -> Prop),tn i s.heap -> Q (.ref it) s -> wpAny (model P w) A (pyIter (.ref it)) Q E s
noncomputable abbrev TI:=St -> Hp -> (It -> Hp -> Prop) -> Prop
noncomputable def PIE (X:Cx) (pins:List (Addr × Obj)) (σ:St) (tg:Expr) (R:It -> Hp -> Prop) (itv:Value) (s2:Shared):Prop :=
  ∃ (it:Addr) (fp:List Addr) (tn:Nat -> Heap -> Prop) (J:It) (H':Hp),itv = .ref it /\ Inv X pins σ H' s2 /\ Turn X.prog X.w X.K tg J fp it tn /\ tn 0 s2.heap /\ (∀ b ∈ fp,FpOk X pins H' b) /\ R J H'
noncomputable def PI (X:Cx) (tg iter:Expr) (wi:TI):Prop :=
  ∀ (pins:List (Addr × Obj)) (s:Shared) (σ:St) (H:Hp) (R:It -> Hp -> Prop),Inv X pins σ H s -> wi σ H R ->
    wpAny (model X.prog X.w) X.A (eval iter X.env) (fun v s1=>wpAny (model X.prog X.w) X.A (pyIter v) (PIE X pins σ tg R) X.xe s1) X.xe s

theorem go_of {M:Model} {A:Around} {E:Value -> Shared -> Prop} {s:Shared} {tg:Expr} {it:Addr} {u:Value} {o:Obj} {n:String} {vs:Array Value} {Q:Unit -> Shared -> Prop} (ho:s.heap.get? it = some o) (hc:o.cls = .type n) (hd:o.data = .fields vs)
    (hn:["enumerate","zip","dict_itemiterator","dict_reverseitemiterator","odict_iterator","itertools.zip_longest","itertools.pairwise"].contains n = false) (hQ:Q () s):wpAny M A (letOwnedTupleGo tg (.ref it) u) Q E s:=by
  unfold letOwnedTupleGo
  cases tg<;>first
    | exact wpAny_pure hQ
    | (cases u<;>first
        | exact wpAny_pure hQ
        | (refine wpAny_bind (wpAny_load ho ?_)
           rw [hc,hd]
           show wpAny M A (if (["enumerate","zip","dict_itemiterator","dict_reverseitemiterator","odict_iterator","itertools.zip_longest","itertools.pairwise"].contains n && vs[0]? == some (rawInt _)) = true then _ else _) Q E s
           rw [if_neg (by intro h;rw [hn,Bool.false_and] at h;cases h)]
           exact wpAny_pure hQ))

noncomputable def Itl (K:PySem.W.Frag) (a:Addr):It :=
  ⟨fun i H=>∃ xs x,SqL K H a xs /\ xs[i]? = some x,fun i H x H'=>H' = H /\ ∀ xs,SqL K H a xs -> xs[i]? = some x,fun i H=>∃ xs,SqL K H a xs /\ xs.length <= i⟩
noncomputable def Itt (K:PySem.W.Frag) (a:Addr):It :=
  ⟨fun i H=>∃ xs x,SqT K H a xs /\ xs[i]? = some x,fun i H x H'=>H' = H /\ ∀ xs,SqT K H a xs -> xs[i]? = some x,fun i H=>∃ xs,SqT K H a xs /\ xs.length <= i⟩
noncomputable def Itr (lo:Int) (n:Nat):It:=⟨fun i _=>i < n,fun i H x H'=>H' = H /\ x = .int (lo + i),fun i _=>n <= i⟩
theorem turn_list {P:Program} {w:World} {K:PySem.W.Frag} {tg:Expr} (a it:Addr):Turn P w K tg (Itl K a) [it] it (fun i h=>h.IsListIter it a i) where
  mem:=by simp
  obj:=fun i h st b hb=>by
    have e:b = it:=by simpa using hb
    subst e
    obtain ⟨o,e,c,d⟩:=st
    exact ⟨o,e,fun v z=>by rw [d] at z;cases z⟩
  keep:=fun i h h' st k=>st.at fun o e=>k it (by simp) o e
  item:=by
    intro X hP hw hK hc i pins s σ H E I hf st hg
    subst hP hw hK
    obtain ⟨xs,x,hq,hx⟩:=hg
    obtain ⟨its,rv,p,hz⟩:=I.list hq
    obtain ⟨u,hu,ru⟩:=rv.get hx
    obtain ⟨f0,f1,f2,f3,f4,f5⟩:=hf it (by simp)
    refine wpAny_pyNext_list_item st p.isList (x:=u) (by simpa using hu) fun h' st' sb=>?_
    have I1:Inv X pins σ H { s with heap:=h' }:=I.turned (t':=s.toks) (fun b o hb e=>(sb.2 b hb).trans e) f0 f1 f3 f4 f5
    obtain ⟨o,e,c,d⟩:=id st'
    exact ⟨u,rfl,go_of (s:={ s with heap:=h' }) e c d (by decide) ⟨x,H,I1,ru,⟨rfl,fun ys hy=>by rw [I.list_inj hy hq];exact hx⟩,st',fun b hb=>(hf b hb).1⟩⟩
  done:=by
    intro X hP hw hK hc i pins s σ H E I hf st hg
    subst hP hw hK
    obtain ⟨xs,hq,hx⟩:=hg
    obtain ⟨its,rv,p,hz⟩:=I.list hq
    obtain ⟨f0,f1,f2,f3,f4,f5⟩:=hf it (by simp)
    have hl:=rv.length
    exact wpAny_pyNext_list_end (I.ok.hd hc) st p.isList (by simp;omega) fun h' eb=>⟨rfl,I.turned (t':=s.toks) (fun b o hb e=>eb b o hb e) f0 f1 f3 f4 f5⟩
  self:=fun _ _ _ _ _ st h=>wpAny_pyIter_listiter st h
theorem turn_tuple {P:Program} {w:World} {K:PySem.W.Frag} {tg:Expr} (a it:Addr):Turn P w K tg (Itt K a) [it] it (fun i h=>h.IsTupleIter it a i) where
  mem:=by simp
  obj:=fun i h st b hb=>by
    have e:b = it:=by simpa using hb
    subst e
    obtain ⟨o,e,c,d⟩:=st
    exact ⟨o,e,fun v z=>by rw [d] at z;cases z⟩
  keep:=fun i h h' st k=>st.at fun o e=>k it (by simp) o e
  item:=by
    intro X hP hw hK hc i pins s σ H E I hf st hg
    subst hP hw hK
    obtain ⟨xs,x,hq,hx⟩:=hg
    obtain ⟨its,rv,p,hz⟩:=I.tuple hq
    obtain ⟨u,hu,ru⟩:=rv.get hx
    obtain ⟨f0,f1,f2,f3,f4,f5⟩:=hf it (by simp)
    refine wpAny_pyNext_tuple_item st (show s.heap.IsTuple a its.toArray from p) (x:=u) (by simpa using hu) fun h' st' sb=>?_
    have I1:Inv X pins σ H { s with heap:=h' }:=I.turned (t':=s.toks) (fun b o hb e=>(sb.2 b hb).trans e) f0 f1 f3 f4 f5
    obtain ⟨o,e,c,d⟩:=id st'
    exact ⟨u,rfl,go_of (s:={ s with heap:=h' }) e c d (by decide) ⟨x,H,I1,ru,⟨rfl,fun ys hy=>by rw [I.tuple_inj hy hq];exact hx⟩,st',fun b hb=>(hf b hb).1⟩⟩
  done:=by
    intro X hP hw hK hc i pins s σ H E I hf st hg
    subst hP hw hK
    obtain ⟨xs,hq,hx⟩:=hg
    obtain ⟨its,rv,p,hz⟩:=I.tuple hq
    obtain ⟨f0,f1,f2,f3,f4,f5⟩:=hf it (by simp)
    have hl:=rv.length
    exact wpAny_pyNext_tuple_end (I.ok.hd hc) st (show s.heap.IsTuple a its.toArray from p) (by simp;omega) fun h' eb=>⟨rfl,I.turned (t':=s.toks) (fun b o hb e=>eb b o hb e) f0 f1 f3 f4 f5⟩
  self:=fun _ _ _ _ _ st h=>wpAny_pyIter_tupleiter st h
theorem turn_range {P:Program} {w:World} {K:PySem.W.Frag} {tg:Expr} (it:Addr) (lo:Int) (n:Nat):Turn P w K tg (Itr lo n) [it] it (fun i h=>IsRangeIter h it (lo + (i:Nat) * 1) ((n:Int) - (i:Nat)) 1) where
  mem:=by simp
  obj:=fun i h st b hb=>by
    have e:b = it:=by simpa using hb
    subst e
    exact ⟨_,st,fun v z=>by
      have z':Data.fields _ = Data.cell v:=z
      cases z'⟩
  keep:=fun i h h' st k=>k it (by simp) _ st
  item:=by
    intro X hP hw hK hc i pins s σ H E I hf st hg
    subst hP hw hK
    obtain ⟨f0,f1,f2,f3,f4,f5⟩:=hf it (by simp)
    have W:=Walks.range (prog:=X.prog) (w:=X.w) (I.ok.hd hc) it lo 1 n
    refine W.item i s _ _ hg st fun v h' tk hv st' kk=>?_
    obtain ⟨t,rfl⟩:=hv
    have I1:Inv X pins σ H { s with heap:=h',toks:=tk }:=I.turned (fun b o hb e=>kk b o (by simpa using hb) e) f0 f1 f3 f4 f5
    refine ⟨_,rfl,go_of (s:={ s with heap:=h',toks:=tk }) (n:="range_iterator") st' rfl rfl (by decide) ⟨.int (lo + i),H,I1,⟨t,?_⟩,⟨rfl,rfl⟩,st',fun b hb=>(hf b hb).1⟩⟩
    rw [Int.mul_one]
  done:=by
    intro X hP hw hK hc i pins s σ H E I hf st hg
    subst hP hw hK
    obtain ⟨f0,f1,f2,f3,f4,f5⟩:=hf it (by simp)
    exact wpAny_pyNext_range_end (I.ok.hd hc) st (by have:n <= i:=hg;omega) fun h' eb=>⟨rfl,I.turned (t':=s.toks) (fun b o hb e=>eb b o hb e) f0 f1 f3 f4 f5⟩
  self:=fun _ _ _ _ _ st h=>wpAny_pyIter_rangeiter st h
end L2

namespace L2
open PySem PySem.Spec PyProof.Rows
section
variable {X:Cx} {tg:Expr}
theorem range_it {pins:List (Addr × Obj)} {σ:St} {H:Hp} {s:Shared} {R:It -> Hp -> Prop} {E:Value -> Shared -> Prop} {lo hi:Int} {t u v:Tok} {tk:Nat} (I:Inv X pins σ H s) (h1:-(2 ^ 62) <= lo) (h2:lo < 2 ^ 62) (h3:-(2 ^ 62) <= hi) (h4:hi < 2 ^ 62)
    (q:R (Itr lo (hi - lo).toNat) H):wpAny (model X.prog X.w) X.A (pyIter (.ref s.heap.objs.size)) (PIE X pins σ tg R) E { s with heap:=s.heap.push { cls:=.type "range",data:=.fields #[.int lo t,.int hi u,.int 1 v] },toks:=tk }:=by
  refine wpAny_pyIter_range (IsRange.new ..) (small_one h1 h2 h3 h4) ?_
  have I1:Inv X pins σ H { s with heap:=s.heap.push { cls:=.type "range",data:=.fields #[.int lo t,.int hi u,.int 1 v] },toks:=tk }:=I.kept fun b o e=>Heap.get?_push_of_some _ e
  refine ⟨(s.heap.push { cls:=.type "range",data:=.fields #[.int lo t,.int hi u,.int 1 v] }).objs.size,[(s.heap.push { cls:=.type "range",data:=.fields #[.int lo t,.int hi u,.int 1 v] }).objs.size],_,_,H,rfl,
    I1.kept (t':=tk) fun b o e=>Heap.get?_push_of_some _ e,turn_range _ lo (hi - lo).toNat,?_,fun b hb=>?_,q⟩
  · have e1:lo + ((0:Nat):Int) * 1 = lo:=by simp
    have e2:(((hi - lo).toNat:Nat):Int) - ((0:Nat):Int) = Builtin.Range.rangeSize lo hi 1:=by rw [rangeSize_one];split<;>omega
    show IsRangeIter _ _ (lo + ((0:Nat):Int) * 1) ((((hi - lo).toNat:Nat):Int) - ((0:Nat):Int)) 1
    rw [e1,e2]
    exact Heap.get?_push_size _ rfl
  · have e:b = (s.heap.push { cls:=.type "range",data:=.fields #[.int lo t,.int hi u,.int 1 v] }).objs.size:=by simpa using hb
    subst e
    exact I1.fpOk (Nat.le_refl _) (I1.hok.fresh (Nat.le_refl _))
noncomputable def iRng1 (ta:TA):TI:=fun σ H R=>ta σ H fun vs H1=>∃ j:Int,vs = [.int j] /\ -(2 ^ 62) <= j /\ j < 2 ^ 62 /\ R (Itr 0 j.toNat) H1
noncomputable def iRng2 (ta:TA):TI:=fun σ H R=>ta σ H fun vs H1=>∃ i j:Int,vs = [.int i,.int j] /\ (-(2 ^ 62) <= i /\ i < 2 ^ 62 /\ -(2 ^ 62) <= j /\ j < 2 ^ 62) /\ R (Itr i (j - i).toNat) H1
theorem pi_range1 {a:Expr} {ta:TA} {p pos:Pos} (hg:Gl X "range") (hm:X.mg "range" = none) (ha:PA X [a] ta) (hs:starEach [a] X.env = [(false,eval a X.env)]:=by rfl):PI X tg (.Call (.Name "range" p) [a] [] pos) (iRng1 ta):=by
  intro pins s σ H R I h
  refine Call_ (ld_blt I hg hm boot_range (PyProof.Rows.callWith_type1 (thn (ha pos pins s σ H _ I h) fun us s1 ⟨vs,H1,I1,r1,q1⟩=>?_) hs rfl))
  obtain ⟨j,e,q1,q2,q⟩:=q1
  subst e
  cases r1 with
  | cons r rr =>
    cases rr
    obtain ⟨t,rfl⟩:=r
    exact call_range_1 (range_it I1 (by omega) (by omega) q1 q2 (by simpa using q))
theorem pi_range2 {a b:Expr} {ta:TA} {p pos:Pos} (hg:Gl X "range") (hm:X.mg "range" = none) (ha:PA X [a,b] ta) (hs:starEach [a,b] X.env = [(false,eval a X.env),(false,eval b X.env)]:=by rfl) (hs2:starEach [b] X.env = [(false,eval b X.env)]:=by rfl) :
    PI X tg (.Call (.Name "range" p) [a,b] [] pos) (iRng2 ta):=by
  intro pins s σ H R I h
  refine Call_ (ld_blt I hg hm boot_range (PyProof.Rows.callWith_type1 (thn (ha pos pins s σ H _ I h) fun us s1 ⟨vs,H1,I1,r1,q1⟩=>?_) (by rw [hs,hs2]) (by rw [hs2];rfl)))
  obtain ⟨i,j,e,⟨q1,q2,q3,q4⟩,q⟩:=q1
  subst e
  cases r1 with
  | cons r rr =>
    cases rr with
    | cons r' rr =>
      cases rr
      obtain ⟨t,rfl⟩:=r
      obtain ⟨t',rfl⟩:=r'
      exact call_range_2 (range_it I1 q1 q2 q3 q4 q)

noncomputable def tFor (wi:TI) (g:TG) (tb:TS):TS:=fun D σ H=>wi σ H fun J H1=>∃ W:Nat -> Nat -> St -> Hp -> Prop,(∃ m,W 0 m σ H1) /\ ∀ i m σ H,W i m σ H ->
  (J.stop i H /\ D.nx σ H) \/ (J.go i H /\ ∃ N:St -> Hp -> Prop,(∀ σ' H',N σ' H' -> ∃ m',m' < m /\ W (i + 1) m' σ' H') /\ ∀ x H',J.yld i H x H' -> g x σ H' fun σ2 H2=>tb { D with nx:=N,ct:=N,bk:=D.nx } σ2 H2)
noncomputable def pinsAt (fp:List Addr) (h:Heap):List (Addr × Obj):=fp.filterMap fun b=>(h.get? b).map fun o=>(b,o)
theorem mem_pinsAt {fp:List Addr} {h:Heap} {b:Addr} {o:Obj} (hb:b ∈ fp) (e:h.get? b = some o):(b,o) ∈ pinsAt fp h:=List.mem_filterMap.mpr ⟨b,hb,by rw [e];rfl⟩
theorem of_pinsAt {fp:List Addr} {h:Heap} {p:Addr × Obj} (hp:p ∈ pinsAt fp h):p.1 ∈ fp /\ h.get? p.1 = some p.2:=by
  obtain ⟨b,hb,e⟩:=List.mem_filterMap.mp hp
  cases q:h.get? b with
  | none=>rw [q] at e;cases e
  | some o =>
    rw [q] at e
    have e':(b,o) = p:=Option.some.inj e
    subst e'
    exact ⟨hb,q⟩
theorem Inv.pinned {pins:List (Addr × Obj)} {σ:St} {H:Hp} {s:Shared} {fp:List Addr} (I:Inv X pins σ H s) (hf:∀ b ∈ fp,FpOk X pins H b) (ho:∀ b ∈ fp,∃ o,s.heap.get? b = some o /\ ∀ v,o.data ≠ .cell v):Inv X (pins ++ pinsAt fp s.heap) σ H s :=
  I.pins_of fun p hp=>(List.mem_append.mp hp).elim (fun z=>I.pin p (List.mem_append_right _ z)) fun z=>by
    obtain ⟨hb,e⟩:=of_pinsAt z
    obtain ⟨f0,f1,f2,_⟩:=hf p.1 hb
    obtain ⟨o,e',d⟩:=ho p.1 hb
    rw [e] at e';cases e'
    exact ⟨e,f0,f1,f2,d⟩
theorem Inv.unpinned {pins pl:List (Addr × Obj)} {σ:St} {H:Hp} {s:Shared} (I:Inv X (pins ++ pl) σ H s):Inv X pins σ H s:=I.pins_of fun p hp=>I.pin p (List.mem_append_right _ (List.mem_append_left _ hp))
theorem ps_for {iter:Expr} {body:List Stmt} {wi:TI} {g:TG} {tb:TS} {pos:Pos} (hp:PassesOwn (model X.prog X.w) X.A X.env X.xe) (hc:X.calm = true) (hi:PI X tg iter wi) (hg:PG X tg g) (hb:PSs X body tb)
    (hs:∀ x,foldedSetIterable iter X.env x = pure x:=by intro _;rfl):PS X (.For tg iter body [] pos) (tFor wi g tb):=by
  intro pins s σ H D I h
  refine wpAny_For (thn (hi pins s σ H _ I h) fun v s1 h1=>thn h1 fun itv s2 h2=>?_) hs
  obtain ⟨it,fp,tn,J,H2,e,I2,T,st2,f2,W,⟨m0,w0⟩,turn⟩:=h2
  subst e
  -- what stays true of the iterator's objects through the loop
  have stat:∀ {H':Hp},(∀ b ∈ fp,H' b = none) -> ∀ b ∈ fp,FpOk X pins H' b:=fun hn b hb=>⟨hn b hb,(f2 b hb).2⟩
  refine codeAny_forLoop_any (fun n s'=>∃ i σ' H',Inv X pins σ' H' s' /\ tn i s'.heap /\ (∀ b ∈ fp,H' b = none) /\ W i n σ' H') ?_ m0 ⟨0,σ,H2,I2,st2,fun b hb=>(f2 b hb).1,w0⟩
  rintro n s3 ⟨i,σ3,H3,I3,st3,fr3,w3⟩
  rcases turn i n σ3 H3 w3 with ⟨stop,qn⟩ | ⟨go,N,hN,step⟩
  · refine wpAny_passesOwn hp (thn (T.done X rfl rfl rfl hc i pins s3 σ3 H3 X.xe I3 (stat fr3) st3 stop) fun r s4 ⟨hr,I4⟩=>?_)
    subst hr
    exact wpAny_execs_nil ⟨σ3,H3,I4,qn⟩
  · refine wpAny_passesOwn hp (thn (T.item X rfl rfl rfl hc i pins s3 σ3 H3 X.xe I3 (stat fr3) st3 go) fun r s4 ⟨u,hr,h4⟩=>?_)
    subst hr
    refine wpAny_passesOwn hp (thn h4 fun _ s5 ⟨x,H5,I5,r5,y5,st5,fr5⟩=>?_)
    have I5':=I5.pinned (stat fr5) (T.obj _ _ st5)
    refine wpAny_passesOwn hp (thn (hg _ s5 σ3 H5 x u _ I5' r5 (step x H5 y5)) fun _ s6 ⟨σ6,H6,I6,q6⟩=>?_)
    refine wpAny_passesOwn hp (thn (hb _ s6 σ6 H6 _ I6 q6) fun f s7 q7=>?_)
    have again:∀ {σ7:St} {H7:Hp},Inv X (pins ++ pinsAt fp s5.heap) σ7 H7 s7 -> N σ7 H7 -> ∃ m,m < n /\ ∃ i σ' H',Inv X pins σ' H' s7 /\ tn i s7.heap /\ (∀ b ∈ fp,H' b = none) /\ W i m σ' H':=fun {σ7 H7} I7 n7=>by
      obtain ⟨m',hm,w7⟩:=hN σ7 H7 n7
      refine ⟨m',hm,i + 1,σ7,H7,I7.unpinned,T.keep _ _ _ st5 fun b hb o e=>(I7.pin (b,o) (List.mem_append_right _ (List.mem_append_right _ (mem_pinsAt hb e)))).1,fun b hb=>?_,w7⟩
      obtain ⟨o,e,d⟩:=T.obj _ _ st5 b hb
      exact (I7.pin (b,o) (List.mem_append_right _ (List.mem_append_right _ (mem_pinsAt hb e)))).2.1
    cases f with
    | next=>obtain ⟨σ7,H7,I7,n7⟩:=q7;exact again I7 n7
    | cont=>obtain ⟨σ7,H7,I7,n7⟩:=q7;exact again I7 n7
    | brk=>obtain ⟨σ7,H7,I7,q7⟩:=q7;exact ⟨σ7,H7,I7.unpinned,q7⟩
    | ret v=>obtain ⟨x7,σ7,H7,I7,r7,q7⟩:=q7;exact ⟨x7,σ7,H7,I7.unpinned,r7,q7⟩
end

end L2

namespace L2
open PySem PySem.Spec PyProof.Rows

noncomputable abbrev R2:=V -> V -> Hp -> VK -> Prop
noncomputable def OpR (X:Cx) (f:Value -> Value -> Sem Value) (r:R2):Prop :=
  ∀ (pins:List (Addr × Obj)) (s:Shared) (σ:St) (H:Hp) (x y:V) (v u:Value) (Q:VK),Inv X pins σ H s -> RelV x v -> RelV y u -> r x y H Q ->
    wpAny (model X.prog X.w) X.A (f v u) (EP X pins σ Q) X.xe s
noncomputable def UnR (X:Cx) (f:Value -> Sem Value) (r:V -> Hp -> VK -> Prop):Prop :=
  ∀ (pins:List (Addr × Obj)) (s:Shared) (σ:St) (H:Hp) (x:V) (v:Value) (Q:VK),Inv X pins σ H s -> RelV x v -> r x H Q ->
    wpAny (model X.prog X.w) X.A (f v) (EP X pins σ Q) X.xe s
noncomputable def CallR (X:Cx) (f:Value) (r:List V -> Hp -> VK -> Prop):Prop :=
  ∀ (pins:List (Addr × Obj)) (s:Shared) (σ:St) (H:Hp) (xs:List V) (us:List Value) (Q:VK),Inv X pins σ H s -> Vals xs us -> r xs H Q ->
    wpAny (model X.prog X.w) X.A (call f us) (EP X pins σ Q) X.xe s
noncomputable def TruR (X:Cx) (r:V -> Hp -> (Bool -> Hp -> Prop) -> Prop):Prop :=
  ∀ (pins:List (Addr × Obj)) (s:Shared) (σ:St) (H:Hp) (x:V) (v:Value) (Q:Bool -> Hp -> Prop),Inv X pins σ H s -> RelV x v -> r x H Q ->
    wpAny (model X.prog X.w) X.A (truthy v) (TP X pins σ Q) X.xe s

noncomputable def tOp (r:R2) (ta tb:TE):TE:=fun σ H Q=>ta σ H fun x H1=>tb σ H1 fun y H2=>r x y H2 Q
noncomputable def tUn (r:V -> Hp -> VK -> Prop) (ta:TE):TE:=fun σ H Q=>ta σ H fun x H1=>r x H1 Q
noncomputable def rI (C:Int -> Int -> Prop) (g:Int -> Int -> V):R2:=fun x y H Q=>∃ i j,x = .int i /\ y = .int j /\ C i j /\ Q (g i j) H
noncomputable def rI0 (g:Int -> Int -> V):R2:=fun x y H Q=>∃ i j,x = .int i /\ y = .int j /\ Q (g i j) H
noncomputable def rU (g:Int -> V):V -> Hp -> VK -> Prop:=fun x H Q=>∃ i,x = .int i /\ Q (g i) H

section
variable {X:Cx} {a b c:Expr} {ta tb tc:TE} {pos:Pos}

theorem binT (ha:PE X a ta) (hb:PE X b tb) {pins:List (Addr × Obj)} {s:Shared} {σ:St} {H:Hp} {R:V -> V -> Hp -> Prop} (I:Inv X pins σ H s)
    (h:ta σ H fun x H1=>tb σ H1 fun y H2=>R x y H2) {Q:Value -> Shared -> Prop} {f:Value -> Value -> Sem Value}
    (hf:∀ v u s2 x y H2,Inv X pins σ H2 s2 -> RelV x v -> RelV y u -> R x y H2 -> wpAny (model X.prog X.w) X.A (f v u) Q X.xe s2) :
    wpAny (model X.prog X.w) X.A (eval a X.env) (fun v s₁=>wpAny (model X.prog X.w) X.A (eval b X.env) (fun u s₂=>wpAny (model X.prog X.w) X.A (f v u) Q X.xe s₂) X.xe s₁) X.xe s:=by
  refine thn (ha pins s σ H _ I h) fun v s1 ⟨x,H1,I1,r1,q1⟩=>?_
  refine thn (hb pins s1 σ H1 _ I1 q1) fun u s2 ⟨y,H2,I2,r2,q2⟩=>?_
  exact hf v u s2 x y H2 I2 r1 r2 q2

theorem pe_op {op:Operator} {r:R2} (ho:OpR X (binaryOp op) r) (ha:PE X a ta) (hb:PE X b tb):PE X (.BinOp a op b pos) (tOp r ta tb):=by
  intro pins s σ H Q I h
  exact wpAny_BinOp (binT ha hb I h fun v u s2 x y H2 I2 rx ry q=>ho pins s2 σ H2 x y v u Q I2 rx ry q)
theorem pe_un {op:UnaryOp} {r:V -> Hp -> VK -> Prop} (ho:UnR X (unaryOp op) r) (ha:PE X a ta):PE X (.UnaryOp op a pos) (tUn r ta):=by
  intro pins s σ H Q I h
  exact UnaryOp_ (thn (ha pins s σ H _ I h) fun v s1 ⟨x,H1,I1,r1,q1⟩=>ho pins s1 σ H1 x v Q I1 r1 q1)
theorem opI {f:Value -> Value -> Sem Value} {C:Int -> Int -> Prop} {g:Int -> Int -> Int}
    (rule:∀ (i j:Int) (t u:Tok) (s:Shared) (Q:Value -> Shared -> Prop) (E:Value -> Shared -> Prop),C i j -> Q (.int (g i j) s.toks) { s with toks:=s.toks + 1 } -> wpAny (model X.prog X.w) X.A (f (.int i t) (.int j u)) Q E s) :
    OpR X f (rI C fun i j=>.int (g i j)):=by
  intro pins s σ H x y v u Q I rx ry h
  obtain ⟨i,j,rfl,rfl,hc,q⟩:=h
  obtain ⟨t,rfl⟩:=rx
  obtain ⟨t',rfl⟩:=ry
  exact rule i j t t' s _ _ hc ⟨.int (g i j),H,I.tok _,⟨_,rfl⟩,q⟩
theorem opI0 {f:Value -> Value -> Sem Value} {g:Int -> Int -> Int}
    (rule:∀ (i j:Int) (t u:Tok) (s:Shared) (Q:Value -> Shared -> Prop) (E:Value -> Shared -> Prop),Q (.int (g i j) s.toks) { s with toks:=s.toks + 1 } -> wpAny (model X.prog X.w) X.A (f (.int i t) (.int j u)) Q E s) :
    OpR X f (rI0 fun i j=>.int (g i j)):=by
  intro pins s σ H x y v u Q I rx ry h
  obtain ⟨i,j,rfl,rfl,q⟩:=h
  obtain ⟨t,rfl⟩:=rx
  obtain ⟨t',rfl⟩:=ry
  exact rule i j t t' s _ _ ⟨.int (g i j),H,I.tok _,⟨_,rfl⟩,q⟩
theorem opB0 {f:Value -> Value -> Sem Value} {g:Int -> Int -> Bool}
    (rule:∀ (i j:Int) (t u:Tok) (s:Shared) (Q:Value -> Shared -> Prop) (E:Value -> Shared -> Prop),Q (.bool (g i j)) s -> wpAny (model X.prog X.w) X.A (f (.int i t) (.int j u)) Q E s) :
    OpR X f (rI0 fun i j=>.bl (g i j)):=by
  intro pins s σ H x y v u Q I rx ry h
  obtain ⟨i,j,rfl,rfl,q⟩:=h
  obtain ⟨t,rfl⟩:=rx
  obtain ⟨t',rfl⟩:=ry
  exact rule i j t t' s _ _ ⟨.bl (g i j),H,I,rfl,q⟩

noncomputable def CDiv (i j:Int):Prop:=0 < j /\ j < 1073741824
noncomputable def CPow (i j:Int):Prop:=0 <= j /\ j <= 1000000 /\ i.natAbs < 2 ^ 64
noncomputable def CMul (i j:Int):Prop:=(-(2 ^ 64) < i /\ i < 2 ^ 64) \/ (-(2 ^ 64) < j /\ j < 2 ^ 64)
theorem CMul.ok {i j:Int} (h:CMul i j):IntMulOk i j:=by
  rcases h with ⟨h1,h2⟩ | ⟨h1,h2⟩
  · exact .of_left (intBits_le_64 h1 h2)
  · exact .of_right (intBits_le_64 h1 h2)
theorem two_pow_nn (k:Nat):(0:Int) <= 2 ^ k:=by
  rw [two_pow_cast]
  exact Int.natCast_nonneg _

theorem op_add:OpR X (binaryOp .Add) (rI0 fun i j=>.int (i + j)):=opI0 fun _ _ _ _ _ _ _ q=>add_int q
theorem op_sub:OpR X (binaryOp .Sub) (rI0 fun i j=>.int (i - j)):=opI0 fun _ _ _ _ _ _ _ q=>sub_int q
theorem op_mul:OpR X (binaryOp .Mult) (rI CMul fun i j=>.int (i * j)):=opI fun _ _ _ _ _ _ _ hc q=>mul_int q hc.ok
theorem op_mod:OpR X (binaryOp .Mod) (rI (fun _ j=>0 < j) fun i j=>.int (i % j)):=opI fun i j _ _ _ _ _ hc q=>by
  have h1:(0:Int) < j:=hc
  exact mod_int' (by omega) (by rw [Int.fmod_eq_emod_of_nonneg i (by omega)];exact q)
theorem op_pow:OpR X (binaryOp .Pow) (rI CPow fun i j=>.int (i ^ j.toNat)):=opI fun _ _ _ _ _ _ _ hc q=>pow_int_small hc.1 hc.2.1 hc.2.2 q
theorem op_shl:OpR X (binaryOp .LShift) (rI CPow fun i j=>.int (i * 2 ^ j.toNat)):=opI fun _ _ _ _ _ _ _ hc q=>lshift_int_small hc.1 hc.2.1 hc.2.2 q
theorem op_shr:OpR X (binaryOp .RShift) (rI (fun _ j=>0 <= j) fun i j=>.int (i / 2 ^ j.toNat)):=opI fun i j _ _ _ _ _ hc q =>
  rshift_int hc (by rw [Int.fdiv_eq_ediv_of_nonneg i (two_pow_nn _)];exact q)
theorem op_and:OpR X (binaryOp .BitAnd) (rI0 fun i j=>.int (Builtin.bitAnd i j)):=opI0 fun _ _ _ _ _ _ _ q=>and_int q
theorem op_or:OpR X (binaryOp .BitOr) (rI0 fun i j=>.int (Builtin.bitOr i j)):=opI0 fun _ _ _ _ _ _ _ q=>or_int q
theorem unI {f:Value -> Sem Value} {g:Int -> Int}
    (rule:∀ (i:Int) (t:Tok) (s:Shared) (Q:Value -> Shared -> Prop) (E:Value -> Shared -> Prop),Q (.int (g i) s.toks) { s with toks:=s.toks + 1 } -> wpAny (model X.prog X.w) X.A (f (.int i t)) Q E s) :
    UnR X f (rU fun i=>.int (g i)):=by
  intro pins s σ H x v Q I rx h
  obtain ⟨i,rfl,q⟩:=h
  obtain ⟨t,rfl⟩:=rx
  exact rule i t s _ _ ⟨.int (g i),H,I.tok _,⟨_,rfl⟩,q⟩
theorem un_neg:UnR X (unaryOp .USub) (rU fun i=>.int (-i)):=unI fun _ _ _ _ _ q=>neg_int q
end

section
variable {X:Cx} {a b c:Expr} {ta tb tc:TE} {pos:Pos}
theorem fin_bl {pins:List (Addr × Obj)} {σ:St} {H:Hp} {s:Shared} {Q:VK} {k k':Bool} (I:Inv X pins σ H s) (q:Q (.bl k) H) (e:k = k'):EP X pins σ Q (.bool k') s:=by
  subst e
  exact ⟨.bl k,H,I,rfl,q⟩
theorem op_lt:OpR X (compareOp .Lt) (rI0 fun i j=>.bl (decide (i < j))):=opB0 fun _ _ _ _ _ _ _ q=>lt_int q
theorem op_le:OpR X (compareOp .LtE) (rI0 fun i j=>.bl (decide (i <= j))):=opB0 fun _ _ _ _ _ _ _ q=>le_int q
theorem op_gt:OpR X (compareOp .Gt) (rI0 fun i j=>.bl (decide (j < i))):=opB0 fun _ _ _ _ _ _ _ q=>gt_int q
theorem op_ge:OpR X (compareOp .GtE) (rI0 fun i j=>.bl (decide (j <= i))):=opB0 fun _ _ _ _ _ _ _ q=>ge_int q
theorem op_isN:OpR X (compareOp .Is) (fun x y H Q=>y = .non /\ Q (.bl (decide (x = .non))) H):=by
  intro pins s σ H x y v u Q I rx ry h
  obtain ⟨rfl,q⟩:=h
  cases ry
  refine is_none_gen (fin_bl I q ?_)
  cases x<;>first
    | (cases rx;rfl)
    | (obtain ⟨t,rfl⟩:=rx;rfl)
theorem OpR.or {f:Value -> Value -> Sem Value} {r r':R2} (h:OpR X f r) (h':OpR X f r'):OpR X f (fun x y H Q=>r x y H Q \/ r' x y H Q):=by
  intro pins s σ H x y v u Q I rx ry q
  rcases q with q | q
  · exact h pins s σ H x y v u Q I rx ry q
  · exact h' pins s σ H x y v u Q I rx ry q

theorem nomark (b:Expr) {op:CmpOp} (h:op ≠ .In:=by decide) (h2:op ≠ .NotIn:=by decide):behindInMarks op b = false:=by
  have e1:(op == CmpOp.In) = false:=by cases op<;>first | rfl | exact absurd rfl h
  have e2:(op == CmpOp.NotIn) = false:=by cases op<;>first | rfl | exact absurd rfl h2
  cases b<;>simp [behindInMarks,e1,e2]
theorem pe_cmpR {op:CmpOp} {r:R2} (ho:OpR X (compareOp op) r) (ha:PE X a ta) (hb:PE X b tb) (hm:behindInMarks op b = false):PE X (.Compare a [op] [b] pos) (tOp r ta tb):=by
  intro pins s σ H Q I h
  exact wpAny_Compare1 (binT ha hb I h fun v u s2 x y H2 I2 rx ry q=>ho pins s2 σ H2 x y v u Q I2 rx ry q) hm
noncomputable def tTest (t:TE):TT:=fun σ H Q=>t σ H fun x H'=>∃ k,x = .bl k /\ Q k H'
theorem pt_cmpR {op:CmpOp} {r:R2} (ho:OpR X (compareOp op) r) (ha:PE X a ta) (hb:PE X b tb) (hm:behindInMarks op b = false):PT X (.Compare a [op] [b] pos) (tTest (tOp r ta tb)):=by
  intro pins s σ H Q I h
  refine wpAny_isTrue_Compare1 (thn (ha pins s σ H _ I h) fun v s1 ⟨x,H1,I1,r1,q1⟩=>thn (hb pins s1 σ H1 _ I1 q1) fun u s2 ⟨y,H2,I2,r2,q2⟩ =>
    thn (ho pins s2 σ H2 x y v u _ I2 r1 r2 q2) fun c s3 ⟨z,H3,I3,r3,k,e,q3⟩=>?_) hm
  subst e
  cases r3
  exact wpAny_truthy_bool ⟨H3,I3,q3⟩
noncomputable def TruV (K:PySem.W.Frag) (x:V) (H:Hp) (k:Bool):Prop :=
  match x with
  | .non=>k = false
  | .bl b=>k = b
  | .int i=>k = (i != 0)
  | .str y=>y.length <= sizeLine /\ k = ((y.length:Int) != 0)
  | .byt y=>y.size <= sizeLine /\ k = ((y.size:Int) != 0)
  | .ref p=>(∃ xs,SqL K H p xs /\ k = !xs.isEmpty) \/ (∃ xs,SqT K H p xs /\ k = !xs.isEmpty) \/ ∃ kvs,H p = some (.dK kvs) /\ k = !kvs.isEmpty
  | _=>False
theorem isEmpty_kv {κ:Type} {kvs:List (κ × V)} {vs:List (κ × Value)} (r:KV kvs vs):(!vs.isEmpty) = !kvs.isEmpty:=by
  cases r<;>rfl
theorem isEmpty_of {xs:List V} {its:List Value} (r:Vals xs its):(!its.toArray.isEmpty) = !xs.isEmpty:=by
  cases r<;>simp
theorem line63:(sizeLine:Nat) < 2 ^ 63:=by rw [sizeLine_eq];decide
theorem tru_ok:TruR X (fun x H Q=>∃ k,TruV X.K x H k /\ Q k H):=by
  intro pins s σ H x v Q I rx h
  obtain ⟨k,e,q⟩:=h
  have hl:=line63
  have hs:sizeLine = 16777216:=sizeLine_eq
  cases x with
  | non =>
    cases rx
    have e':k = false:=e
    subst e'
    exact truthy_none ⟨H,I,q⟩
  | bl b =>
    cases rx
    have e':k = b:=e
    subst e'
    exact wpAny_truthy_bool ⟨H,I,q⟩
  | int i =>
    obtain ⟨t,rfl⟩:=rx
    have e':k = (i != 0):=e
    subst e'
    exact PySem.P.truthy_int ⟨H,I,q⟩
  | str y =>
    obtain ⟨t,rfl⟩:=rx
    obtain ⟨hy,e'⟩:y.length <= sizeLine /\ k = ((y.length:Int) != 0):=e
    subst e'
    exact PySem.P.truthy_str (by omega) ⟨H,I.tok _,q⟩
  | byt y =>
    obtain ⟨t,rfl⟩:=rx
    obtain ⟨hy,e'⟩:y.size <= sizeLine /\ k = ((y.size:Int) != 0):=e
    subst e'
    exact PySem.W.truthy_bytes (by omega) ⟨H,I.tok _,q⟩
  | ref p =>
    cases rx
    have e':(∃ xs,SqL X.K H p xs /\ k = !xs.isEmpty) \/ (∃ xs,SqT X.K H p xs /\ k = !xs.isEmpty) \/ ∃ kvs,H p = some (.dK kvs) /\ k = !kvs.isEmpty:=e
    rcases e' with ⟨xs,hx,e'⟩ | ⟨xs,hx,e'⟩ | ⟨kvs,hx,e'⟩
    · subst e'
      obtain ⟨its,r,pl,hz⟩:=I.list hx
      have hlen:=r.length
      exact wpAny_truthy_list pl.isList (by simp only [List.size_toArray];omega) ⟨H,I.tok _,by rw [isEmpty_of r];exact q⟩
    · subst e'
      obtain ⟨its,r,pl,hz⟩:=I.tuple hx
      have hlen:=r.length
      exact truthy_tuple pl (by simp only [List.size_toArray];omega) ⟨H,I.tok _,by rw [isEmpty_of r];exact q⟩
    · subst e'
      obtain ⟨hz,hS,vs,r,m⟩:kvs.length <= sizeLine /\ (p == sysModules) = false /\ ∃ vs,KV kvs vs /\ s.heap.DictOf (mixKind X.prog X.w) p vs:=I.hok p _ hx
      have hlen:kvs.length = vs.length:=Paired.length r
      exact wpAny_truthy_dict hS m (by omega) ⟨H,I.tok _,by rw [isEmpty_kv r];exact q⟩
  | _=>exact (show False from e).elim
theorem pt_truth (ha:PE X a ta) (he:∀ whole,isTrue a X.env whole = (do let v <- whole;standAt a.pos;holding [v] (truthy v))) :
    PT X a (fun σ H Q=>ta σ H fun x H'=>∃ k,TruV X.K x H' k /\ Q k H'):=by
  intro pins s σ H Q I h
  exact isTrue_plain (thn (ha pins s σ H _ I h) fun v s1 ⟨x,H1,I1,r1,q1⟩=>tru_ok pins s1 σ H1 x v Q I1 r1 q1) (he _)

theorem op_add_str:OpR X (binaryOp .Add) (fun x y H Q=>∃ i j,x = .str i /\ y = .str j /\ i.length + j.length <= sizeLine /\ Q (.str (i ++ j)) H):=by
  intro pins s σ H x y v u Q I rx ry h
  obtain ⟨i,j,rfl,rfl,hz,q⟩:=h
  obtain ⟨t,rfl⟩:=rx
  obtain ⟨t',rfl⟩:=ry
  exact add_str (fun t' tk=>⟨.str (i ++ j),H,I.tok _,⟨_,rfl⟩,q⟩) hz
theorem vals1 {x:V} {us:List Value} (r:Vals [x] us):∃ u,us = [u] /\ RelV x u:=by
  cases r with
  | cons r1 r2=>cases r2;exact ⟨_,rfl,r1⟩
theorem vals2 {x y:V} {us:List Value} (r:Vals [x,y] us):∃ u w',us = [u,w'] /\ RelV x u /\ RelV y w':=by
  cases r with
  | cons r1 r2 =>
    cases r2 with
    | cons r3 r4=>cases r4;exact ⟨_,_,rfl,r1,r3⟩
theorem call_abs:CallR X (.builtin "abs") (fun xs H Q=>∃ i,xs = [.int i] /\ Q (.int (if i < 0 then -i else i)) H):=by
  intro pins s σ H xs us Q I r h
  obtain ⟨i,rfl,q⟩:=h
  obtain ⟨u,rfl,t,rfl⟩:=vals1 r
  exact call_abs_int fun u tk=>⟨.int (if i < 0 then -i else i),H,I.tok _,⟨_,rfl⟩,q⟩
theorem call_max2 (hc:X.calm = true):CallR X (.builtin "max") (fun xs H Q=>∃ i j,xs = [.int i,.int j] /\ Q (.int (if j > i then j else i)) H):=by
  intro pins s σ H xs us Q I r h
  obtain ⟨i,j,rfl,q⟩:=h
  obtain ⟨u,w',rfl,⟨t,rfl⟩,⟨t',rfl⟩⟩:=vals2 r
  refine max_two_ints (I.ok.hd hc) fun h' tk k=>⟨_,H,I.kept k,?_,q⟩
  by_cases hj:j > i
  · rw [if_pos hj,if_pos hj];exact ⟨_,rfl⟩
  · rw [if_neg hj,if_neg hj];exact ⟨_,rfl⟩
theorem call_min2 (hc:X.calm = true):CallR X (.builtin "min") (fun xs H Q=>∃ i j,xs = [.int i,.int j] /\ Q (.int (if j < i then j else i)) H):=by
  intro pins s σ H xs us Q I r h
  obtain ⟨i,j,rfl,q⟩:=h
  obtain ⟨u,w',rfl,⟨t,rfl⟩,⟨t',rfl⟩⟩:=vals2 r
  refine min_two_ints (I.ok.hd hc) fun h' tk k=>⟨_,H,I.kept k,?_,q⟩
  by_cases hj:j < i
  · rw [if_pos hj,if_pos hj];exact ⟨_,rfl⟩
  · rw [if_neg hj,if_neg hj];exact ⟨_,rfl⟩
theorem call_int1:CallR X (.type "int") (fun xs H Q=>(∃ i,xs = [.int i] /\ Q (.int i) H) \/ ∃ k,xs = [.bl k] /\ Q (.int (if k then 1 else 0)) H):=by
  intro pins s σ H xs us Q I r h
  rcases h with ⟨i,rfl,q⟩ | ⟨k,rfl,q⟩
  · obtain ⟨u,rfl,t,rfl⟩:=vals1 r
    exact call_int_int ⟨.int i,H,I,⟨_,rfl⟩,q⟩
  · obtain ⟨u,rfl,r1⟩:=vals1 r
    cases r1
    exact call_int_bool ⟨.int (if k then 1 else 0),H,I.tok _,⟨_,rfl⟩,q⟩
end
end L2

namespace L2
open PySem PySem.Spec PyProof.Rows

structure ObjM (h:Heap) (x dx C:Addr) (mA:Str -> Option Value):Prop where
  obj:h.get? x = some (PySem.W.instObj C dx)
  ns:h.Ns1 dx mA
  ne:dx ≠ x

theorem lookIn_ns {h:Heap} {dx:Addr} {mA:Str -> Option Value} (n:h.Ns1 dx mA):∃ od,h.get? dx = some od /\ ∀ name,PySem.W.lookIn name od = some (mA name):=by
  obtain ⟨o,es,ep,ho,hd,hk,_,hm⟩:=n
  refine ⟨o,ho,fun name=>?_⟩
  have e:=hm name
  unfold nsFind findBy at e
  rw [<- Array.find?_toList] at e
  unfold PySem.W.lookIn
  rw [hd]
  dsimp only
  split
  · rename_i y q
    rw [q] at e
    exact congrArg some e
  · rename_i q
    rw [q] at e
    have a:es.toList.any (·.refKey) = false:=by
      rw [List.any_eq_false]
      intro y hy
      obtain ⟨z,t,hkey⟩:=hk y (Array.mem_toList_iff.mp hy)
      simp [DictEntry.refKey,hkey]
    have a':¬ es.toList.any (·.refKey) = true:=by rw [a];exact Bool.false_ne_true
    rw [if_neg a']
    exact congrArg some e

theorem ObjM.look {h:Heap} {x dx C:Addr} {mA:Str -> Option Value} (I:ObjM h x dx C mA):∃ od,PySem.W.InstAt h x (PySem.W.instObj C dx) C (some od) /\ ∀ name,PySem.W.lookIn name od = some (mA name) :=
  let ⟨od,ho,hl⟩:=lookIn_ns I.ns
  ⟨od,⟨I.obj,rfl,rfl,ho⟩,hl⟩

section
variable {prog:Program} {w:World} {A:Around} {E:Value -> Shared -> Prop} {s:Shared} {K:PySem.W.Frag} {x dx C f:Addr} {mA:Str -> Option Value} {name:Str} {v:Value}

end

section
variable {P:Program} {w:World} {H H':Hp} {h h':Heap} {a C dx:Addr} {fs fs':List (Str × V)}
theorem ins_get (hok:HOk P w H h) (e:H a = some (.ins C dx fs)):∃ mA,ObjM h a dx C mA /\ (∀ f,RelO (fs.lookup f) (mA f)) /\ PySem.Within mA (fs.map (·.1)) /\ fs.length <= 1000 /\ H dx = some (.own a):=by
  obtain ⟨d,z,ne,ob,mA,n,r,q⟩:=(show ObjOk P w H h a (.ins C dx fs) from hok a _ e)
  exact ⟨mA,⟨ob,n,ne⟩,r,q,z,d⟩
end

structure Cls (K:PySem.W.Frag) (C:Addr):Prop where
  pg:PySem.W.plainGet K C Str.empty = true
  hd:PySem.W.hasDictIn K C = true
  po:PySem.W.plainOver K C = true
  sa:PySem.W.findIn K (.ref C) "__setattr__" = some (some (.builtin "object.__setattr__"))
theorem Cls.get {K:PySem.W.Frag} {C:Addr} (c:Cls K C) (f:Str):PySem.W.plainGet K C f = true:=c.pg
structure Con (K:PySem.W.Frag) (C:Addr) (f:Str) (v:V) (u:Value):Prop where
  at_:PySem.W.findIn K (.ref C) f = some (some u)
  rel:RelV v u
  get:PySem.W.specialIn K u "__get__" = some none
  cp:PySem.W.copiedNames.contains f = false
structure Meth (K:PySem.W.Frag) (C:Addr) (m:Str) (f:Addr):Prop where
  at_:PySem.W.findIn K (.ref C) m = some (some (.ref f))
  fn:PySem.W.isFn K (.ref f) = true
  kp:PySem.W.keepIn K (.ref f) = true

section
variable {X:Cx} {pins:List (Addr × Obj)} {σ:St} {H:Hp} {s:Shared} {a C dx:Addr} {fs:List (Str × V)} {f:Str} {v:V} {A:Around} {E:Value -> Shared -> Prop}

end

section
variable {X:Cx} {o e value:Expr} {f:Str} {pos pos' tpos:Pos} {ta tv:TE}
noncomputable def rAdd:V -> V -> Hp -> VK -> Prop:=fun x y H Q=>∃ i j,x = .int i /\ y = .int j /\ Q (.int (i + j)) H
end

section
variable {X:Cx} {pins:List (Addr × Obj)} {σ:St} {H:Hp} {s:Shared} {A:Around} {E:Value -> Shared -> Prop} {Q:Value -> Shared -> Prop} {c:Value} {b:Bool}
inductive TyOf (K:PySem.W.Frag) (H:Hp):V -> Value -> Prop where
  | non:TyOf K H .non (.type "NoneType")
  | bl (x:Bool):TyOf K H (.bl x) (.type "bool")
  | int (i:Int):TyOf K H (.int i) (.type "int")
  | str (x:Str):TyOf K H (.str x) (.type "str")
  | flt (x:UInt64):TyOf K H (.flt x) (.type "float")
  | lst {a:Addr} {xs:List V} (e:H a = some (.lst xs)):TyOf K H (.ref a) (.type "list")
  | frz {a:Addr} {o:Obj} {xs:List V} (e:H a = some (.frz o (.lst xs))):TyOf K H (.ref a) (.type "list")
  | tup {a:Addr} {xs:List V} (e:H a = some (.tup xs)):TyOf K H (.ref a) (.type "tuple")
  | dK {a:Addr} {kvs:List (Key × V)} (e:H a = some (.dK kvs)):TyOf K H (.ref a) (.type "dict")
  | dT {a:Addr} {kvs:List (List Key × V)} (e:H a = some (.dT kvs)):TyOf K H (.ref a) (.type "dict")
  | ins {a C dx:Addr} {fs:List (Str × V)} (e:H a = some (.ins C dx fs)) (cl:Cls K C) (ha:PySem.W.findIn K (.ref C) "__class__" = some (some (.builtin "object.__class__")))
      (hn:PySem.W.specialIn K (.builtin "object.__class__") "__get__" = some (some (.builtin "getset_descriptor.__get__"))) (htk:PySem.W.takesIn K (.builtin "object.__class__") = some true)
      (hm:PySem.W.mroIn K C (.type "object") = some true):TyOf K H (.ref a) (.ref C)
theorem isinst_ok {x:V} {u t:Value} (I:Inv X pins σ H s) (rx:RelV x u) (ty:TyOf X.K H x t) (e:PySem.W.kitOne X.K t c = some b) (h:∀ tk,Q (.bool b) { s with toks:=tk }) :
    wpAny (model X.prog X.w) A (call (.builtin "isinstance") [u,c]) Q E s:=by
  cases ty with
  | non=>cases (show u = Value.none from rx);exact PySem.W.kia_one PySem.W.kitx_none I.kIn True.intro e (fun z=>nomatch z) h
  | bl y=>cases (show u = Value.bool y from rx);exact PySem.W.kia_one PySem.W.kitx_bool I.kIn True.intro e (fun z=>nomatch z) h
  | int i=>obtain ⟨t,q⟩:=(show ∃ t,u = Value.int i t from rx);cases q;exact PySem.W.kia_one PySem.W.kitx_int I.kIn True.intro e (fun z=>nomatch z) h
  | str y=>obtain ⟨t,q⟩:=(show ∃ t,u = Value.str y t from rx);cases q;exact PySem.W.kia_one PySem.W.kitx_str I.kIn True.intro e (fun z=>nomatch z) h
  | flt y=>obtain ⟨t,q⟩:=(show ∃ t,u = Value.float y t from rx);cases q;exact PySem.W.kia_one PySem.W.kitx_float I.kIn True.intro e (fun z=>nomatch z) h
  | @lst a xs ea =>
    cases (show u = Value.ref a from rx)
    obtain ⟨_,_,n,_,h1⟩:=(show ObjOk X.prog X.w H s.heap a (.lst xs) from I.hok a _ ea)
    exact PySem.W.kia_one PySem.W.kitx_list I.kIn ⟨_,h1,rfl⟩ e (fun z=>nomatch z) h
  | @frz a ob xs ea =>
    cases (show u = Value.ref a from rx)
    obtain ⟨_,_,_,n,_,h1⟩:=(show ObjOk X.prog X.w H s.heap a (.frz ob (.lst xs)) from I.hok a _ ea)
    exact PySem.W.kia_one PySem.W.kitx_list I.kIn ⟨_,h1,rfl⟩ e (fun z=>nomatch z) h
  | @tup a xs ea =>
    cases (show u = Value.ref a from rx)
    obtain ⟨_,_,_,p⟩:=(show ObjOk X.prog X.w H s.heap a (.tup xs) from I.hok a _ ea)
    obtain ⟨o,h1,h2,_⟩:=p
    exact PySem.W.kia_one PySem.W.kitx_tuple I.kIn ⟨o,h1,h2⟩ e (fun z=>nomatch z) h
  | @dK a kvs ea =>
    cases (show u = Value.ref a from rx)
    obtain ⟨_,_,vs,_,p⟩:=(show ObjOk X.prog X.w H s.heap a (.dK kvs) from I.hok a _ ea)
    obtain ⟨o,es,ep,h1,h2,_⟩:=p
    exact PySem.W.kia_one PySem.W.kitx_dict I.kIn ⟨o,h1,h2.1⟩ e (fun z=>nomatch z) h
  | @dT a kvs ea =>
    cases (show u = Value.ref a from rx)
    obtain ⟨_,_,xs,_,o,es,ep,h1,h2,_⟩:=(show ObjOk X.prog X.w H s.heap a (.dT kvs) from I.hok a _ ea)
    exact PySem.W.kia_one PySem.W.kitx_dict I.kIn ⟨o,h1,h2.1⟩ e (fun z=>nomatch z) h
  | @ins a C dx fs ea cl ha hn htk hm =>
    cases (show u = Value.ref a from rx)
    obtain ⟨mA,O,_⟩:=ins_get I.hok ea
    obtain ⟨od,J,_⟩:=O.look
    exact PySem.W.kia_one (PySem.W.kitx_own (cl.get _) cl.hd ha hn htk hm) I.kIn J e (fun z=>nomatch z) h
end
end L2

namespace L2
open PySem PySem.Spec PyProof.Rows

structure Room (k:Nat) (A:Around):Prop where
  hd:A.handled = none
  dp:A.depth + 3 * k + 5 < recursionLimit
  un:A.units + 16 * k + 200 < cLine
theorem Room.mono {j k:Nat} {A:Around} (r:Room k A) (h:j <= k):Room j A:=⟨r.hd,by have:=r.dp;omega,by have:=r.un;omega⟩
theorem Room.deeper {k:Nat} {A:Around} (r:Room (k + 1) A) (env:Env):Room k (A.deeper env) :=
  ⟨r.hd,by have:=r.dp;show A.depth + 1 + 3 * k + 5 < _;omega,by have:=r.un;show A.units + 3 + 16 * k + 200 < _;omega⟩
theorem Room.depth {k:Nat} {A:Around} (r:Room k A):A.depth < recursionLimit:=by have:=r.dp;omega
noncomputable def tNil:TA:=fun _ H Q=>Q [] H
noncomputable def tCons (ta:TE) (tr:TA):TA:=fun σ H Q=>ta σ H fun x H1=>tr σ H1 fun xs H2=>Q (x :: xs) H2
section
variable {X:Cx} {e:Expr} {es:List Expr} {te:TE} {t:TA} {pos:Pos}
theorem pa_nil:PA X [] tNil:=fun _ _ _ _ H Q I h=>Calls.spliced_nil ⟨[],H,I,.nil,h⟩
theorem pa_cons (ha:PE X e te) (hr:PA X es t) (hs:starEach (e :: es) X.env = (false,eval e X.env) :: starEach es X.env:=by rfl):PA X (e :: es) (tCons te t):=by
  intro pos pins s σ H Q I h
  rw [hs]
  show wpAny _ _ (spliced ((false,eval e X.env) :: backTo pos (starEach es X.env))) _ _ s
  refine Calls.spliced_cons (thn (ha pins s σ H _ I h) fun u s1 ⟨x,H1,I1,r1,q1⟩=>?_)
  exact thn (hr pos pins s1 σ H1 _ I1 q1) fun us s2 ⟨xs,H2,I2,r2,q2⟩=>⟨x :: xs,H2,I2,.cons r1 r2,q2⟩

noncomputable def tTup (t:TA):TE:=fun σ H Q=>t σ H fun xs H1=>xs.length <= sizeLine /\ ∀ p,H1 p = none -> Q (.ref p) (upd H1 p (.tup xs))
noncomputable def tLst (t:TA):TE:=fun σ H Q=>t σ H fun xs H1=>xs.length <= sizeLine /\ ∀ p,H1 p = none -> Q (.ref p) (upd H1 p (.lst xs))
theorem pe_tup {x1} (h:PA X es t):PE X (.Tuple es x1 pos) (tTup t):=by
  intro pins s σ H Q I hq
  refine wpAny_Tuple_spliced (thn (h pos pins s σ H _ I hq) fun us s1 ⟨xs,H1,I1,r,z,q⟩=>⟨by rw [<- r.length];exact z,?_⟩)
  have hf:H1 s1.heap.objs.size = none:=I1.hok.fresh (Nat.le_refl _)
  refine ⟨.ref s1.heap.objs.size,upd H1 s1.heap.objs.size (.tup xs),I1.laid (t':=s1.toks) (fun b u e=>Heap.get?_push_of_some _ e) (Nat.le_refl _) ?_,rfl,q _ hf⟩
  exact ⟨z,us,r,⟨_,Heap.get?_push_size _ rfl,rfl,_,rfl⟩⟩
theorem pe_lst (h:PA X es t):PE X (.List es pos) (tLst t):=by
  intro pins s σ H Q I hq
  refine wpAny_List_spliced (thn (h pos pins s σ H _ I hq) fun us s1 ⟨xs,H1,I1,r,z,q⟩=>⟨by rw [<- r.length];exact z,?_⟩)
  have hf:H1 s1.heap.objs.size = none:=I1.hok.fresh (Nat.le_refl _)
  refine ⟨.ref s1.heap.objs.size,upd H1 s1.heap.objs.size (.lst xs),I1.laid (t':=s1.toks) (fun b u e=>Heap.get?_push_of_some _ e) (Nat.le_refl _) ?_,rfl,q _ hf⟩
  exact ⟨z,us,0,r,Heap.get?_push_size _ rfl⟩
end

noncomputable abbrev Sp:=List V -> Hp -> VK -> XK -> Prop
noncomputable abbrev CXT:=List Env -> Hp -> Shared -> XK -> Value -> Shared -> Prop

structure Env0 (P:Program) (w:World) (K:PySem.W.Frag) (mg:Str -> Option Value) (base:Heap) (A:Around) (outer:List Env) (s:Shared) (H:Hp):Prop where
  frames:A.frames = some outer
  mod:Mod K mg base
  bs:∀ b o,base.get? b = some o -> s.heap.get? b = some o /\ H b = none
  bsz:base.objs.size <= s.heap.objs.size
  funs:s.heap.FunFrames base outer
  frf:∀ b ∈ frs outer,H b = none
  hok:HOk P w H s.heap
  bare:AllBare s.gens
noncomputable def CE (outer:List Env) (P:Program) (w:World) (H:Hp) (s:Shared) (Q:VK) (u:Value) (s':Shared):Prop :=
  ∃ v H',s'.os = s.os /\ AllBare s'.gens /\ Un (frs outer) [] H H' s.heap s'.heap /\ HOk P w H' s'.heap /\ RelV v u /\ Q v H'
noncomputable def CR (CX:CXT) (outer:List Env) (P:Program) (w:World) (H:Hp) (s:Shared) (Q:VK) (E:XK) (r:Result) (s':Shared):Prop :=
  match r with
  | .ok (.ret u)=>CE outer P w H s Q u s'
  | .ok _=>False
  | .error e=>CX outer H s E e s'
structure FnOk (P:Program) (w:World) (K:PySem.W.Frag) (mg:Str -> Option Value) (base:Heap) (CX:CXT) (k:Nat) (f:Addr) (fd:FuncData) (ps:List Str) (sp:Sp):Prop where
  len:∀ vs H Q E,sp vs H Q E -> vs.length = ps.length
  run:∀ (A:Around) (outer:List Env) (s:Shared) (H:Hp) (args:Args) (us:List Value) (vs:List V) (Q:VK) (E:XK),Room k A -> Env0 P w K mg base A outer s H -> BindsTo s fd args (ps.zip us) -> Vals vs us -> sp vs H Q E ->
    codeAny (model P w) A (.call (.ref f) args) (CR CX outer P w H s Q E) s
theorem FnOk.mono {P:Program} {w:World} {K:PySem.W.Frag} {mg:Str -> Option Value} {base:Heap} {CX:CXT} {j k:Nat} {f:Addr} {fd:FuncData} {ps:List Str} {sp:Sp} (F:FnOk P w K mg base CX j f fd ps sp) (h:j <= k) :
    FnOk P w K mg base CX k f fd ps sp:=⟨F.len,fun A outer s H args us vs Q E hr=>F.run A outer s H args us vs Q E (hr.mono h)⟩
theorem FnOk.imp {P:Program} {w:World} {K:PySem.W.Frag} {mg:Str -> Option Value} {base:Heap} {CX:CXT} {k:Nat} {f:Addr} {fd:FuncData} {ps:List Str} {sp sp':Sp} (F:FnOk P w K mg base CX k f fd ps sp)
    (h:∀ vs H Q E,sp' vs H Q E -> sp vs H Q E):FnOk P w K mg base CX k f fd ps sp' :=
  ⟨fun vs H Q E q=>F.len vs H Q E (h _ _ _ _ q),fun A outer s H args us vs Q E hr he hb hv hs=>F.run A outer s H args us vs Q E hr he hb hv (h _ _ _ _ hs)⟩

section
variable {X:Cx} {pins:List (Addr × Obj)} {σ:St} {H:Hp} {s s':Shared}
theorem Inv.env0 (I:Inv X pins σ H s):Env0 X.prog X.w X.K X.mg X.base X.A X.stack s H :=
  ⟨I.ok.frames,I.ok.mod,I.bs,Nat.le_trans I.ok.bsz I.sz,I.stack,I.stkFree,I.hok,I.bare⟩
theorem Inv.after {Q:VK} {u:Value} (I:Inv X pins σ H s) (h:CE X.stack X.prog X.w H s Q u s'):EP X pins σ Q u s':=by
  obtain ⟨v,H',os,bare,un,hok,r,q⟩:=h
  obtain ⟨hh,g,d,t,os'⟩:=s'
  obtain rfl:os' = s.os:=os
  exact ⟨v,H',I.call (h':=hh) (g':=g) (d':=d) (t':=t) (ch:=[]) un hok bare (fun b z=>absurd z (by simp)),r,q⟩
end

noncomputable def tCall (sp:Sp) (dvs:List V) (E:XK) (t:TA):TE:=fun σ H Q=>t σ H fun vs H1=>sp (vs ++ dvs) H1 Q E
noncomputable def Binds (K:PySem.W.Frag) (fd:FuncData) (ps:List Str) (ds:List Value):Prop :=
  ∀ (s:Shared) (us:List Value),K.In s.heap -> (us ++ ds).length = ps.length -> BindsTo s fd ⟨us,[]⟩ (ps.zip (us ++ ds))
theorem Binds.all {K:PySem.W.Frag} {fd:FuncData} {ps:List Str} (h:∀ us:List Value,us.length = ps.length -> bindArgs fd ⟨us,[]⟩ = pure (ps.zip us)):Binds K fd ps []:=fun s us _ hl=>by
  rw [List.append_nil] at hl ⊢
  exact .of_eq (h us hl)

noncomputable def Passes (CX:CXT) (X:Cx) (E:XK):Prop:=∀ (pins:List (Addr × Obj)) (σ:St) (H:Hp) (s:Shared) (e:Value) (s':Shared),Inv X pins σ H s -> CX X.stack H s E e s' -> X.xe e s'

section
variable {X:Cx} {CX:CXT} {k:Nat} {f C:Addr} {fd:FuncData} {ps:List Str} {sp:Sp} {dvs:List V} {ds:List Value} {E:XK} {x m:Str} {p pos apos:Pos} {e o:Expr} {es:List Expr} {ta:TE} {t:TA}

theorem run_fn {pins:List (Addr × Obj)} {σ:St} {H:Hp} {s:Shared} {Q:VK} {us:List Value} {vs:List V} (F:FnOk X.prog X.w X.K X.mg X.base CX k f fd ps sp) (hr:Room k X.A) (hb:Binds X.K fd ps ds) (hd:Vals dvs ds) (hx:Passes CX X E)
    (I:Inv X pins σ H s) (r:Vals vs us) (h:sp (vs ++ dvs) H Q E):wpAny (model X.prog X.w) X.A (call (.ref f) us) (EP X pins σ Q) X.xe s:=by
  have r2:Vals (vs ++ dvs) (us ++ ds):=r.append hd
  have hl:(us ++ ds).length = ps.length:=by rw [<- r2.length];exact F.len _ _ _ _ h
  refine wpAny_call (codeAny_mono (F.run X.A X.stack s H ⟨us,[]⟩ (us ++ ds) (vs ++ dvs) Q E hr I.env0 (hb s us I.kIn hl) r2 h) fun r s' hq=>?_)
  cases r with
  | error e=>exact hx pins σ H s e s' I hq
  | ok fl =>
    cases fl with
    | ret u=>exact I.after hq
    | next=>exact False.elim hq
    | brk=>exact False.elim hq
    | cont=>exact False.elim hq

theorem pe_call (F:FnOk X.prog X.w X.K X.mg X.base CX k f fd ps sp) (hr:Room k X.A) (hg:Gl X x) (hm:X.mg x = some (.ref f)) (hk:PySem.W.keepIn X.K (.ref f) = true) (hb:Binds X.K fd ps ds) (hd:Vals dvs ds) (hx:Passes CX X E)
    (ha:PA X (e :: es) t) (hdb:(x == ("__debug__":Str)) = false:=by decide) (he:starEach (e :: es) X.env = (false,eval e X.env) :: starEach es X.env:=by rfl) (hpl:(backTo pos (starEach es X.env)).any (·.1) = false:=by rfl) :
    PE X (.Call (.Name x p) (e :: es) [] pos) (tCall sp dvs E t):=by
  intro pins s σ H Q I h
  refine wpAny_Call_Name_kw (ld_glob I hg hm ?_ hdb)
  refine PySem.W.callWith_K (h₀:=X.base) I.ok.mod.kin hk (thn (ha pos pins s σ H _ I h) fun us s1 ⟨vs,H1,I1,r,q⟩=>⟨I1.kIn,?_⟩) he hpl
  exact run_fn F hr hb hd hx I1 r q
structure Mk (K:PySem.W.Frag) (C f:Addr):Prop where
  makes:PySem.W.makesIn K C = true
  init:PySem.W.findIn K (.ref C) "__init__" = some (some (.ref f))
  fn:PySem.W.isFn K (.ref f) = true
  kp:PySem.W.keepIn K (.ref C) = true

end

section
variable {X:Cx} {CX:CXT} {k:Nat} {f C:Addr} {fd:FuncData} {ps ks:List Str} {sp:Sp} {E:XK} {x m:Str} {p pos apos kpos:Pos} {e o:Expr} {es:List Expr} {kws:List Keyword} {te ta:TE} {t tk:TA} {nm:Option Str}
structure KBinds (K:PySem.W.Frag) (fd:FuncData) (ps ks:List Str) (g:List Value -> List Value -> List Value) (gV:List V -> List V -> List V):Prop where
  to:∀ (s:Shared) (us ws:List Value),K.In s.heap -> (g us ws).length = ps.length -> BindsTo s fd ⟨us,ks.zip ws⟩ (ps.zip (g us ws))
  rel:∀ {vs:List V} {us:List Value} {zs:List V} {ws:List Value},Vals vs us -> Vals zs ws -> Vals (gV vs zs) (g us ws)
variable {g:List Value -> List Value -> List Value} {gV:List V -> List V -> List V}
end

structure FnScope (N P:List Str) (sc:Scope):Prop where
  kind:sc.kind = .function
  co:sc.isCoroutine = false
  gen:sc.isGenerator = false
  nd:N.Nodup
  pre:N.take P.length = P
  par:∀ x ∈ P,sc.names.lookup x = some .local \/ sc.names.lookup x = some .cell
  nofree:∀ y ∈ sc.names,y.2 ≠ .free

theorem bindL_out {kindOf:Str -> Option NameKind} {x:Str}:∀ {binds:List (Str × Value)} {m:Str -> Option Value},(∀ v,(x,v) ∉ binds) -> bindL kindOf binds m x = m x
  | [],_,_=>rfl
  | (n,v) :: r,m,h=>by
    unfold bindL
    rw [bindL_out fun w hw=>h w (List.mem_cons_of_mem _ hw)]
    split
    · have:x ≠ n:=by rintro rfl;exact h v List.mem_cons_self
      simp [this]
    · rfl
theorem bindC_out {kindOf:Str -> Option NameKind} {x:Str}:∀ {binds:List (Str × Value)} {m:Str -> Option Value},(∀ v,(x,v) ∉ binds) -> bindC kindOf binds m x = m x
  | [],_,_=>rfl
  | (n,v) :: r,m,h=>by
    unfold bindC
    rw [bindC_out fun w hw=>h w (List.mem_cons_of_mem _ hw)]
    split
    · rfl
    · have:x ≠ n:=by rintro rfl;exact h v List.mem_cons_self
      simp [this]
theorem bindL_get {kindOf:Str -> Option NameKind} {x:Str} {v:Value}:∀ {P:List Str} {vs:List Value} {i:Nat} {m:Str -> Option Value},P.Nodup -> P[i]? = some x -> vs[i]? = some v -> kindOf x = some .local ->
    bindL kindOf (P.zip vs) m x = some v
  | [],_,_,_,_,h,_,_=>by simp at h
  | _ :: _,[],_,_,_,_,h,_=>by simp at h
  | p :: P,w :: vs,0,m,nd,h1,h2,hk=>by
    simp at h1 h2;subst h1;subst h2
    show bindL kindOf ((p,w) :: P.zip vs) m p = _
    unfold bindL
    rw [bindL_out fun v hv=>(List.nodup_cons.mp nd).1 (List.of_mem_zip hv).1,if_pos hk]
    simp
  | p :: P,w :: vs,i + 1,m,nd,h1,h2,hk=>by
    show bindL kindOf ((p,w) :: P.zip vs) m x = _
    unfold bindL
    exact bindL_get (i:=i) (List.nodup_cons.mp nd).2 (by simpa using h1) (by simpa using h2) hk
theorem bindC_get {kindOf:Str -> Option NameKind} {x:Str} {v:Value}:∀ {P:List Str} {vs:List Value} {i:Nat} {m:Str -> Option Value},P.Nodup -> P[i]? = some x -> vs[i]? = some v -> kindOf x ≠ some .local ->
    bindC kindOf (P.zip vs) m x = some v
  | [],_,_,_,_,h,_,_=>by simp at h
  | _ :: _,[],_,_,_,_,h,_=>by simp at h
  | p :: P,w :: vs,0,m,nd,h1,h2,hk=>by
    simp at h1 h2;subst h1;subst h2
    show bindC kindOf ((p,w) :: P.zip vs) m p = _
    unfold bindC
    rw [bindC_out fun v hv=>(List.nodup_cons.mp nd).1 (List.of_mem_zip hv).1,if_neg hk]
    simp
  | p :: P,w :: vs,i + 1,m,nd,h1,h2,hk=>by
    show bindC kindOf ((p,w) :: P.zip vs) m x = _
    unfold bindC
    exact bindC_get (i:=i) (List.nodup_cons.mp nd).2 (by simpa using h1) (by simpa using h2) hk

noncomputable def start (N:List Str) (vs:List V):St:=vs.map some ++ List.replicate (N.length - vs.length) none

noncomputable def cxOf (CX:CXT) (P:Program) (w:World) (K:PySem.W.Frag) (mg:Str -> Option Value) (base:Heap) (N:List Str) (qual:Str) (scope:Scope) (f:Addr) (cd:Value) (A:Around) (outer:List Env) (s:Shared) (H:Hp) (E:XK):Cx where
  prog:=P
  w:=w
  K:=K
  mg:=mg
  base:=base
  A:=A.deeper (envOfC qual scope s.heap.objs.size f cd)
  N:=N
  s₀:=s
  H₀:=H
  env:=envOfC qual scope s.heap.objs.size f cd
  outer:=outer
  stack:=envOfC qual scope s.heap.objs.size f cd :: outer
  ex:=[]
  calm:=true
  fn:=fun _=>true
  pn:=[]
  xe:=fun e s'=>wpAny (model P w) (A.deeper (envOfC qual scope s.heap.objs.size f cd)) (leaving (envOfC qual scope s.heap.objs.size f cd) e) (fun _ s''=>CX outer H s E e s'') (fun e' s''=>CX outer H s E e' s'') s'

theorem cell_has {sc:Scope} {n:Nat} {x:Str} (h:sc.names.lookup x = some .cell):∃ c,(cellsFrom n sc.names []).lookup x = some c:=by
  have q:=PySem.W.cellsFrom_some sc.names n [] (.inl h)
  exact Option.isSome_iff_exists.mp q

theorem inv_start {CX:CXT} {P:Program} {w:World} {K:PySem.W.Frag} {mg:Str -> Option Value} {base:Heap} {N ps:List Str} {qual:Str} {scope:Scope} {f:Addr} {cd:Value} {A:Around} {outer:List Env} {s s1:Shared} {H:Hp} {E:XK} {us:List Value} {vs:List V}
    (S:FnScope N ps scope) (hd:A.handled = none) (e0:Env0 P w K mg base A outer s H) (hl:vs.length = ps.length) (r:Vals vs us)
    (x:InCallC s s.heap.objs.size (bindL (envOfC qual scope s.heap.objs.size f cd).kindOf (ps.zip us) fun _=>none) (cellsFrom (s.heap.objs.size + 1) scope.names []) (bindC (envOfC qual scope s.heap.objs.size f cd).kindOf (ps.zip us) fun _=>none) s1) :
    Inv (cxOf CX P w K mg base N qual scope f cd A outer s H E) [] (start N vs) H s1:=by
  have hpl:ps.length <= N.length:=by have:=congrArg List.length S.pre;rw [List.length_take] at this;omega
  obtain ⟨h1,tk,rfl,hk⟩:=x.done
  have noA:∀ b:Addr,b ∉ (cxOf CX P w K mg base N qual scope f cd A outer s H E).ex:=fun b z=>absurd (show b ∈ ([]:List Addr) from z) (by simp)
  refine ⟨⟨e0.mod,S.kind,rfl,rfl,Nat.le_refl _,fun y z c h1 h2=>?_,fun y hy=>?_,fun y c _ h=>?_,fun _=>hd,Around.frames_deeper e0.frames,.inr ⟨rfl,rfl⟩,fun b z=>absurd z (noA b),e0.bs,e0.bsz,fun b _ _=>noA b,fun b z=>absurd z (noA b),e0.funs,e0.frf⟩,
    rfl,e0.bare,Un.kept hk,⟨_,x.toInCall.ns,fun i y v h1 h2 h3=>?_⟩,fun y c h=>⟨_,x.cell y c h⟩,e0.hok.fresh (Nat.le_refl _),fun y c h=>?_,fun p hp=>absurd (show p ∈ ([]:List (Addr × Obj)) from hp) (by simp),e0.hok.kept hk,?_⟩
  · exact name_of_addr x.apart (PySem.mem_of_lookup h1) (PySem.mem_of_lookup h2)
  · have hy:scope.names.lookup y = some .cell \/ scope.names.lookup y = some .free:=hy
    rcases hy with hy | hy
    · exact cell_has hy
    · exact absurd rfl (S.nofree _ (PySem.mem_of_lookup hy))
  · exact Nat.le_of_lt (x.above y c (PySem.mem_of_lookup h))
  · have hi:i < vs.length:=by
      unfold start at h2
      by_cases hi:i < vs.length
      · exact hi
      · rw [List.getElem?_append_right (by simpa using hi)] at h2
        rw [List.getElem?_replicate] at h2
        split at h2<;>cases h2
    have ha:vs[i]? = some v:=by
      unfold start at h2
      rw [List.getElem?_append_left (by simpa using hi),List.getElem?_map] at h2
      cases e:vs[i]? with
      | none=>rw [e] at h2;cases h2
      | some a=>rw [e] at h2;cases h2;rfl
    obtain ⟨u,hu,rv⟩:=r.get ha
    have hp:ps[i]? = some y:=by
      rw [<- S.pre,List.getElem?_take_of_lt (by omega)];exact h1
    have ndP:ps.Nodup:=by rw [<- S.pre];exact S.nd.sublist (List.take_sublist _ _)
    refine ⟨u,rv,?_⟩
    rcases S.par y (List.mem_of_getElem? hp) with k | k
    · exact .inl ⟨k,bindL_get ndP hp hu k⟩
    · obtain ⟨c,e⟩:=cell_has (n:=s.heap.objs.size + 1) k
      refine .inr ⟨.inl k,c,e,?_⟩
      have q:=x.cell y c e
      rw [bindC_get ndP hp hu (by show scope.names.lookup y ≠ _;rw [k];decide)] at q
      exact q
  · exact e0.hok.fresh (Nat.le_of_lt (x.above y c (PySem.mem_of_lookup h)))
  · unfold start
    show _ = N.length
    rw [List.length_append,List.length_map,List.length_replicate]
    omega

theorem fn_of {CX:CXT} {P:Program} {w:World} {K:PySem.W.Frag} {mg:Str -> Option Value} {base:Heap} {k:Nat} {f:Addr} {name qual:Str} {params:Arguments} {body:List Stmt} {scope:Scope} {dV kV doc pm cdv ct oc:Value} {an od:Option Addr}
    {osl:Array (Option Value)} {N ps:List Str} {sp:Sp} (lk:K.lookup f = some ⟨oc,od,.func (PySem.W.fnOf name qual params body scope dV kV doc pm an cdv ct),osl⟩) (hcd:PySem.W.codeIn K cdv qual = true) (S:FnScope N ps scope)
    (len:∀ vs H Q E,sp vs H Q E -> vs.length = ps.length)
    (hbody:∀ (A:Around) (outer:List Env) (s:Shared) (H:Hp) (vs:List V) (Q:VK) (E:XK),Room k (A.deeper (envOfC qual scope s.heap.objs.size f cdv)) -> sp vs H Q E ->
      ∃ t,PSs (cxOf CX P w K mg base N qual scope f cdv A outer s H E) body t /\ t { nx:=fun _ H'=>Q .non H',rt:=Q } (start N vs) H) :
    FnOk P w K mg base CX (k + 1) f (PySem.W.fnOf name qual params body scope dV kV doc pm an cdv ct) ps sp:=by
  refine ⟨len,fun A outer s H args us vs Q E hr e0 hb r hsp=>?_⟩
  have hl:=len _ _ _ _ hsp
  have KX:K.In s.heap:=e0.mod.kin.keeps fun b o e=>(e0.bs b o e).1
  have lim:s.heap.NoLimit:=e0.mod.nolimit.keeps fun b o e=>(e0.bs b o e).1
  have hkind:∀ y ∈ ps.zip us,scope.names.lookup y.1 = some .local \/ (scope.names.lookup y.1 = some .cell /\ ((cellsFrom (s.heap.objs.size + 1) scope.names []).lookup y.1).isSome = true):=fun ⟨n,v⟩ hy=>by
    rcases S.par n (List.of_mem_zip hy).1 with q | q
    · exact .inl q
    · exact .inr ⟨q,PySem.W.cellsFrom_some _ _ _ (.inl q)⟩
  refine codeAny_call_function hr.depth (KX _ _ lk) rfl S.co S.gen rfl (PySem.W.codeRec_of KX hcd) (hb _ _ _ _ ?_)
  refine wpAny_newFunctionEnv_cells S.kind hkind fun env he s1 x=>?_
  subst he
  refine ⟨lim.keeps x.toInCall.keep,codeAny_func ?_⟩
  obtain ⟨t,ht,hq⟩:=hbody A outer s H vs Q E (hr.deeper _) hsp
  have I:Inv (cxOf CX P w K mg base N qual scope f cdv A outer s H E) [] (start N vs) H s1:=inv_start S hr.hd e0 hl r x
  refine wpAny_mono (ht [] s1 (start N vs) H _ I hq) (fun fl s' hs=>?_) fun e s' hs=>hs
  have fin:∀ {σ':St} {H':Hp} {v:V} {u:Value},Inv (cxOf CX P w K mg base N qual scope f cdv A outer s H E) [] σ' H' s' -> RelV v u -> Q v H' -> CE outer P w H s Q u s' :=
    fun {σ' H' v u} J rv q=>⟨v,H',J.os,J.bare,J.base,J.hok,rv,q⟩
  cases fl with
  | ret u =>
    obtain ⟨v,σ',H',J,rv,q⟩:=hs
    exact fin J rv q
  | next =>
    obtain ⟨σ',H',J,q⟩:=hs
    exact fin (v:=V.non) (u:=Value.none) J rfl q
  | brk =>
    obtain ⟨_,_,_,q⟩:=hs
    exact False.elim q
  | cont =>
    obtain ⟨_,_,_,q⟩:=hs
    exact False.elim q
end L2

namespace L2
open PySem PySem.Spec PyProof.Rows
section
variable {X:Cx} {x:Str} {p pos:Pos} {e:Expr} {es:List Expr} {t:TA} {id T:String} {r:List V -> Hp -> VK -> Prop}

noncomputable def tCB (r:List V -> Hp -> VK -> Prop) (t:TA):TE:=fun σ H Q=>t σ H fun vs H1=>r vs H1 Q
theorem pe_callB (hc:CallR X (.builtin id) r) (hg:Gl X x) (hm:X.mg x = none) (hv:bootBuiltins x = some (.builtin id)) (ha:PA X (e :: es) t) (hn:x ≠ "__name__":=by decide) (hdb:(x == ("__debug__":Str)) = false:=by decide)
    (he:starEach (e :: es) X.env = (false,eval e X.env) :: starEach es X.env:=by rfl) (hpl:(backTo pos (starEach es X.env)).any (·.1) = false:=by rfl):PE X (.Call (.Name x p) (e :: es) [] pos) (tCB r t):=by
  intro pins s σ H Q I h
  refine wpAny_Call_Name_kw (ld_blt I hg hm hv ?_ hn hdb)
  exact PyProof.Rows.callWith_builtin1 (thn (ha pos pins s σ H _ I h) fun us s1 ⟨vs,H1,I1,r1,q1⟩=>hc pins s1 σ H1 vs us Q I1 r1 q1) he hpl
theorem pe_callTy (hc:CallR X (.type T) r) (hg:Gl X x) (hm:X.mg x = none) (hv:bootBuiltins x = some (.type T)) (ha:PA X (e :: es) t) (hn:x ≠ "__name__":=by decide) (hdb:(x == ("__debug__":Str)) = false:=by decide)
    (he:starEach (e :: es) X.env = (false,eval e X.env) :: starEach es X.env:=by rfl) (hpl:(backTo pos (starEach es X.env)).any (·.1) = false:=by rfl):PE X (.Call (.Name x p) (e :: es) [] pos) (tCB r t):=by
  intro pins s σ H Q I h
  refine wpAny_Call_Name_kw (ld_blt I hg hm hv ?_ hn hdb)
  exact PyProof.Rows.callWith_type1 (thn (ha pos pins s σ H _ I h) fun us s1 ⟨vs,H1,I1,r1,q1⟩=>hc pins s1 σ H1 vs us Q I1 r1 q1) he hpl
end
end L2

namespace HT
open PySem PyProof.Rows

noncomputable def lexLt:List Int -> List Int -> Bool
  | [],[]=>false
  | [],_ :: _=>true
  | _ :: _,[]=>false
  | x :: xs,y :: ys=>if x = y then lexLt xs ys else decide (x < y)
theorem lexLt_cons (x y:Int) (xs ys:List Int):lexLt (x :: xs) (y :: ys) = if x = y then lexLt xs ys else decide (x < y):=rfl
theorem lexLt_nil_nil:lexLt [] [] = false:=rfl
theorem lexLt_nil_cons (y:Int) (ys:List Int):lexLt [] (y :: ys) = true:=rfl
theorem lexLt_cons_nil (x:Int) (xs:List Int):lexLt (x :: xs) [] = false:=rfl

theorem eqAt_int (A:Around) (s:Shared) (a:Int) (t:Tok) (c:Int) (u:Tok):∃ e,SeqAt.EqAt A s (.int a t) (.int c u) e /\ (e = true ↔ a = c) :=
  ⟨(a == c),SeqAt.EqAt.int_int a t c u,by simp⟩
theorem rcLt_int (A:Around) (s:Shared) (a:Int) (t:Tok) (c:Int) (u:Tok) (prog:Program) (w:World) (E:Value -> Shared -> Prop) (Q:Value -> Shared -> Prop) (h:Q (.bool (decide (a < c))) s) :
    wpAny (model prog w) A (richCompare .Lt (.int a t) (.int c u)) Q E s :=
  (PyProof.Rows.lt_int h:wpAny (model prog w) A (compareOp .Lt (.int a t) (.int c u)) Q E s)

section
open PySem.SeqAt
open PySem.AutoSeq1 (wpAny_loadPart')
open PySem.MeetsSeq PySem.MeetsSeq2 PySem.MeetsSeq3

end

section
variable {prog:Program} {w:World} {A:Around} {E:Value -> Shared -> Prop} {s:Shared}

theorem cat_tup {t b:Addr} {vs ws:List Value} {Q:Value -> Shared -> Prop} (ht:IsTup s.heap t vs.toArray) (hb:IsTup s.heap b ws.toArray) (hv:vs ≠ [])
    (h1:ws = [] -> Q (.ref t) s) (h2:ws ≠ [] -> Q (.ref s.heap.objs.size) { s with heap:=s.heap.push { cls:=.type "tuple",data:=.seq (vs ++ ws).toArray } })
    (hsz:vs.length + ws.length <= sizeLine):wpAny (model prog w) A (binaryOp .Add (.ref t) (.ref b)) Q E s:=by
  obtain ⟨⟨cls,dd,data,sl⟩,ho,hc,n,hd⟩:=id ht
  obtain ⟨⟨cls2,dd2,data2,sl2⟩,ho2,hc2,n2,hd2⟩:=id hb
  simp only at hc hd hc2 hd2
  subst hc hd hc2 hd2
  have e:vs.toArray ++ ws.toArray = (vs ++ ws).toArray:=by simp
  by_cases hw:ws = []
  · exact concat_meets ⟨_,ho,rfl⟩ ⟨_,ho2,rfl⟩ noFill_tuple_add seq_tuple_add PySem.F.slot_tuple_add PySem.F.entry_tuple_add (PySem.F.args_tuple_add_2 _ _)
      (tuple_addW1 t b vs.toArray ws.toArray n n2 dd dd2 sl sl2 (by simpa using hv) (by simp [hw])) ⟨ho,ho2,h1 hw⟩
  · refine concat_meets ⟨_,ho,rfl⟩ ⟨_,ho2,rfl⟩ noFill_tuple_add seq_tuple_add PySem.F.slot_tuple_add PySem.F.entry_tuple_add (PySem.F.args_tuple_add_2 _ _)
      (tuple_addW2 t b vs.toArray ws.toArray n n2 dd dd2 sl sl2 (by simpa using hv) (by simpa using hw) (by rw [List.size_toArray,List.size_toArray];exact hsz)) ⟨ho,ho2,?_⟩
    rw [e]
    exact h2 hw

noncomputable def sIx (n d:Nat):Option Int -> Nat
  | none=>d
  | some v=>if v < 0 then (v + (n:Int)).toNat else min v.toNat n
theorem sIx_none (n d:Nat):sIx n d none = d:=rfl
theorem sIx_nat (n d k:Nat):sIx n d (some (k:Int)) = min k n:=by
  show (if (k:Int) < 0 then ((k:Int) + (n:Int)).toNat else min (k:Int).toNat n) = min k n
  rw [if_neg (by omega),Int.toNat_natCast]
theorem sIx_le (n d:Nat) (hd:d <= n) (o:Option Int):sIx n d o <= n:=by
  cases o with
  | none=>exact hd
  | some v =>
    show (if v < 0 then (v + (n:Int)).toNat else min v.toNat n) <= n
    by_cases hv:v < 0
    · rw [if_pos hv];omega
    · rw [if_neg hv];exact Nat.min_le_right _ _
theorem clip_eq (v:Int) (n d:Nat):(if v < 0 then max (v + (n:Int)) 0 else min v (n:Int)) = ((sIx n d (some v):Nat):Int):=by
  show (if v < 0 then max (v + (n:Int)) 0 else min v (n:Int)) = (((if v < 0 then (v + (n:Int)).toNat else min v.toNat n):Nat):Int)
  by_cases hv:v < 0
  · simp only [if_pos hv];omega
  · simp only [if_neg hv];omega
theorem adjust_gen (lo hi:Option Int) (n:Nat):Builtin.Slice.sliceAdjust lo hi 1 (n:Int) = (((sIx n 0 lo:Nat):Int),((sIx n n hi:Nat):Int)):=by
  have h1:¬ ((1:Int) < 0):=by omega
  unfold Builtin.Slice.sliceAdjust
  simp only [h1,if_false]
  refine Prod.ext ?_ ?_
  · cases lo with
    | none=>rfl
    | some v=>exact clip_eq v n 0
  · cases hi with
    | none=>rfl
    | some v=>exact clip_eq v n n
theorem places_gen (i j:Nat):Builtin.Slice.slicePlaces (i:Int) (j:Int) 1 = j - i:=by
  unfold Builtin.Slice.slicePlaces
  have h1:(1:Int) > 0:=by omega
  simp only [h1,if_true,Int.ediv_one]
  split<;>omega
theorem slicePart_ {v:Value} {o:Option Int} {Q:Option Int -> Shared -> Prop} (p:IsPart v o) (h:Q o s):wpAny (model prog w) A (Builtin.Slice.slicePartIndex v) Q E s:=by
  cases p with
  | none=>exact slicePart_none h
  | int i t=>exact slicePart_int h
theorem sliceApplied_gen {sl:Addr} {vl vu:Value} {lo hi:Option Int} {n:Nat} {Q:Int × Int × Nat -> Shared -> Prop} (hs:s.heap.IsSliceOf sl vl vu .none) (pl:IsPart vl lo) (pu:IsPart vu hi)
    (h:Q (((sIx n 0 lo:Nat):Int),1,sIx n n hi - sIx n 0 lo) s):wpAny (model prog w) A (Builtin.Slice.sliceApplied (.ref sl) (pure (n:Int))) Q E s:=by
  obtain ⟨os,hos,hcs,hds⟩:=id hs
  unfold Builtin.Slice.sliceApplied Builtin.Slice.sliceFields
  refine wpAny_bind (wpAny_bind (wpAny_field hos hds (x:=vl) rfl (wpAny_bind (wpAny_field hos hds (x:=vu) rfl (wpAny_bind (wpAny_field hos hds (x:=.none) rfl (wpAny_pure ?_)))))))
  refine wpAny_bind (slicePart_none ?_)
  show wpAny _ _ (if ((1:Int) == 0) = true then _ else _) _ _ s
  rw [if_neg (by decide)]
  refine wpAny_bind (slicePart_ pl (wpAny_bind (slicePart_ pu (wpAny_bind (wpAny_pure ?_)))))
  show wpAny _ _ (match Builtin.Slice.sliceAdjust lo hi 1 (n:Int) with | (lo,hi)=>pure (lo,(1:Int),Builtin.Slice.slicePlaces lo hi 1)) _ _ s
  rw [adjust_gen lo hi n]
  show wpAny _ _ (pure (((sIx n 0 lo:Nat):Int),(1:Int),Builtin.Slice.slicePlaces ((sIx n 0 lo:Nat):Int) ((sIx n n hi:Nat):Int) 1)) _ _ s
  rw [places_gen]
  exact wpAny_pure h
theorem pick_gen (xs:Array Value) (i k:Nat):((List.range k).filterMap fun (m:Nat)=>xs[((i:Int) + (m:Int) * 1).toNat]?).toArray = ((xs.toList.drop i).take k).toArray:=by
  have e:(fun (m:Nat)=>xs[((i:Int) + (m:Int) * 1).toNat]?) = fun m=>xs[i + m]?:=by
    funext m
    have:((i:Int) + (m:Int) * 1).toNat = i + m:=by omega
    rw [this]
  rw [e]
  have:=pick_run xs i k
  rw [List.filterMap_map] at this
  have e2:((fun x=>xs[x]?) ∘ fun x=>i + x) = fun m=>xs[i + m]?:=rfl
  rw [e2] at this
  rw [this]

theorem getItem_tuple_cut {t sl:Addr} {items:Array Value} {vl vu:Value} {lo hi:Option Int} {Q:Value -> Shared -> Prop} (ht:IsTup s.heap t items) (hs:s.heap.IsSliceOf sl vl vu .none) (pl:IsPart vl lo) (pu:IsPart vu hi)
    (hw:¬ (sIx items.size 0 lo = 0 /\ sIx items.size items.size hi = items.size))
    (h:Q (.ref s.heap.objs.size) { s with heap:=s.heap.push { cls:=.type "tuple",data:=.seq ((items.toList.drop (sIx items.size 0 lo)).take (sIx items.size items.size hi - sIx items.size 0 lo)).toArray } })
    (hsz:items.size <= sizeLine):wpAny (model prog w) A (getItem (.ref t) (.ref sl)) Q E s:=by
  have htake:sizeOk (.seq ((items.toList.drop (sIx items.size 0 lo)).take (sIx items.size items.size hi - sIx items.size 0 lo)).toArray):=by
    show ((items.toList.drop (sIx items.size 0 lo)).take (sIx items.size items.size hi - sIx items.size 0 lo)).toArray.size <= sizeLine
    rw [List.size_toArray,List.length_take,List.length_drop,Array.length_toList]
    omega
  have hj:sIx items.size items.size hi <= items.size:=sIx_le _ _ (Nat.le_refl _) hi
  obtain ⟨os,hos,hcs,hds⟩:=id hs
  have hTs:s.TypeIs (.ref sl) "slice":=⟨os,hos,hcs⟩
  unfold getItem
  try with_reducible refine wpAny_holding ?_
  first | refine wpAny_bind (wpAny_pure ?_) | skip
  refine wpAny_bind (wpAny_sequenceKey ht.typeIs (by decide) ?_)
  refine wpAny_bind (wpAny_callSpecial?_slot (name:=Str.ofString "__getitem__") ht.typeIs PyProof.Rows.slot_tuple_getitem
    (wpAny_call_entry PyProof.Rows.slot_tuple_getitem ht.typeIs entry_tuple_getitem ?_ (args_tuple_getitem _ _)))
  show wpAny _ _ (Builtin.Tuple.tupleItemsOf (.ref t) >>= _) _ _ s
  refine wpAny_bind (tupleItemsOf_ ht ?_)
  refine wpAny_bind (wpAny_typeOf hTs ?_)
  rw [if_pos (by decide)]
  refine wpAny_bind (sliceApplied_gen hs pl pu ?_)
  have hno:¬ ((((sIx items.size 0 lo:Nat):Int) == 0 && (1:Int) == 1 && (sIx items.size items.size hi - sIx items.size 0 lo) == items.size) = true):=by
    intro q
    rw [Bool.and_eq_true,Bool.and_eq_true] at q
    have q1:((sIx items.size 0 lo:Nat):Int) = 0:=eq_of_beq q.1.1
    have q2:sIx items.size items.size hi - sIx items.size 0 lo = items.size:=eq_of_beq q.2
    exact hw ⟨by omega,by omega⟩
  show wpAny _ _ (if (((sIx items.size 0 lo:Nat):Int) == 0 && (1:Int) == 1 && (sIx items.size items.size hi - sIx items.size 0 lo) == items.size) = true then _ else _) _ _ s
  rw [if_neg hno,pick_gen]
  first
    | exact wpAny_bind (m:=Builtin.Tuple.tupleExact _) (wpAny_newObj_type (wpAny_pure ⟨_,rfl,wpAny_pure h⟩) htake)
    | exact wpAny_bind (m:=Builtin.Tuple.tupleExact _) (wpAny_newObj_type (wpAny_bind (wpAny_pure (wpAny_pure ⟨_,rfl,wpAny_pure h⟩))) htake)
    | exact wpAny_bind (wpAny_bind (m:=Builtin.Tuple.tupleExact _) (wpAny_newObj_type (wpAny_pure (wpAny_pure ⟨_,rfl,wpAny_pure h⟩)) htake))
    | exact wpAny_bind (wpAny_bind (m:=Builtin.Tuple.tupleExact _) (wpAny_newObj_type (wpAny_pure ⟨_,rfl,wpAny_pure h⟩) htake))
end
end HT

namespace L2
open PySem PySem.Spec PyProof.Rows

noncomputable abbrev TO:=St -> Hp -> (Option Int -> Hp -> Prop) -> Prop
noncomputable def PO (X:Cx) (e:Option Expr) (t:TO):Prop :=
  ∀ (pins:List (Addr × Obj)) (s:Shared) (σ:St) (H:Hp) (Q:Option Int -> Hp -> Prop),Inv X pins σ H s -> t σ H Q ->
    wpAny (model X.prog X.w) X.A (evalPart e X.env) (fun u s'=>∃ o H',Inv X pins σ H' s' /\ IsPart u o /\ Q o H') X.xe s
noncomputable def tNoPart:TO:=fun _ H Q=>Q none H
noncomputable def tPart (t:TE):TO:=fun σ H Q=>t σ H fun x H1=>∃ i,x = .int i /\ Q (some i) H1

theorem intsAre_of {ns:List Int}:∀ {us:List Value},Vals (ns.map V.int) us -> IntsAre us ns:=by
  induction ns with
  | nil=>intro us r;rw [List.map_nil] at r;cases r;exact .nil
  | cons n ns ih =>
    intro us r
    rw [List.map_cons] at r
    cases r with
    | cons r1 r2 =>
      obtain ⟨t,e⟩:=r1
      subst e
      exact .cons n t (ih r2)

section
variable {X:Cx} {e:Expr} {te:TE} {lo hi:Option Expr} {tl th:TO} {pos p2:Pos}

theorem po_none:PO X none tNoPart:=by
  intro pins s σ H Q I h
  rw [evalPart_none]
  exact wpAny_pure ⟨none,H,I,.none,h⟩
theorem po_some (h:PE X e te):PO X (some e) (tPart te):=by
  intro pins s σ H Q I hw
  rw [evalPart_some]
  refine thn (h pins s σ H _ I hw) fun u s1 ⟨x,H1,I1,r1,q1⟩=>?_
  obtain ⟨i,rfl,q⟩:=q1
  obtain ⟨t,rfl⟩:=r1
  exact ⟨some i,H1,I1,.int i t,q⟩

noncomputable def SlR (X:Cx) (r:V -> Option Int -> Option Int -> Hp -> VK -> Prop):Prop :=
  ∀ (pins:List (Addr × Obj)) (s:Shared) (σ:St) (H:Hp) (x:V) (v vl vu:Value) (lo hi:Option Int) (sl:Addr) (Q:VK),Inv X pins σ H s -> RelV x v -> s.heap.IsSliceOf sl vl vu .none -> IsPart vl lo -> IsPart vu hi -> r x lo hi H Q ->
    ∃ T id,typeLookup (.type T) "__getitem__" = pure (some (.builtin id)) /\ s.TypeIs v T /\ wpAny (model X.prog X.w) X.A (getItem v (.ref sl)) (EP X pins σ Q) X.xe s
theorem SlR.or {r r':V -> Option Int -> Option Int -> Hp -> VK -> Prop} (h:SlR X r) (h':SlR X r'):SlR X (fun x lo hi H Q=>r x lo hi H Q \/ r' x lo hi H Q):=by
  intro pins s σ H x v vl vu lo hi sl Q I rx hs pl pu q
  rcases q with q | q
  · exact h pins s σ H x v vl vu lo hi sl Q I rx hs pl pu q
  · exact h' pins s σ H x v vl vu lo hi sl Q I rx hs pl pu q
noncomputable def tSl (r:V -> Option Int -> Option Int -> Hp -> VK -> Prop) (te:TE) (tl th:TO):TE:=fun σ H Q=>te σ H fun x H1=>tl σ H1 fun l H2=>th σ H2 fun u H3=>r x l u H3 Q
theorem pe_slice {r:V -> Option Int -> Option Int -> Hp -> VK -> Prop} (hr:SlR X r) (he:PE X e te) (hl:PO X lo tl) (hu:PO X hi th):PE X (.Subscript e (.Slice lo hi none p2) pos) (tSl r te tl th):=by
  intro pins s σ H Q I h
  refine Subscript_ (thn (he pins s σ H _ I h) fun v s1 ⟨x,H1,I1,r1,q1⟩=>?_)
  refine wpAny_Slice (thn (hl pins s1 σ H1 _ I1 q1) fun vl s2 ⟨l,H2,I2,pl,q2⟩=>thn (hu pins s2 σ H2 _ I2 q2) fun vu s3 ⟨u,H3,I3,pu,q3⟩=>?_)
  rw [evalPart_none]
  refine wpAny_pure ?_
  have I4:Inv X pins σ H3 { s3 with heap:=s3.heap.push { cls:=.type "slice",data:=.fields #[vl,vu,.none] } }:=I3.kept (t':=s3.toks) fun b ob q=>Heap.get?_push_of_some _ q
  obtain ⟨T,id,hT,ht,hg⟩:=hr pins { s3 with heap:=s3.heap.push { cls:=.type "slice",data:=.fields #[vl,vu,.none] } } σ H3 x v vl vu l u s3.heap.objs.size Q I4 r1 (Heap.IsSliceOf.new ..) pl pu q3
  show wpAny (model X.prog X.w) X.A (subscriptTail e (.Slice lo hi none p2) v (.ref s3.heap.objs.size)) (EP X pins σ Q) X.xe { s3 with heap:=s3.heap.push { cls:=.type "slice",data:=.fields #[vl,vu,.none] } }
  exact tail_any (ops:=[.ref s3.heap.objs.size,v]) ht hT hg (by with_unfolding_all rfl)

noncomputable def cutV (xs:List V) (lo hi:Option Int):List V:=(xs.drop (HT.sIx xs.length 0 lo)).take (HT.sIx xs.length xs.length hi - HT.sIx xs.length 0 lo)
theorem cutV_length (xs:List V) (lo hi:Option Int):(cutV xs lo hi).length <= xs.length:=by
  unfold cutV
  rw [List.length_take,List.length_drop]
  omega
noncomputable def rSlT (K:PySem.W.Frag):V -> Option Int -> Option Int -> Hp -> VK -> Prop:=fun x lo hi H Q=>∃ a xs,x = .ref a /\ SqT K H a xs /\
  ¬ (HT.sIx xs.length 0 lo = 0 /\ HT.sIx xs.length xs.length hi = xs.length) /\ ∀ p,H p = none -> Q (.ref p) (upd H p (.tup (cutV xs lo hi)))
theorem sl_tup:SlR X (rSlT X.K):=by
  intro pins s σ H x v vl vu lo hi sl Q I rx hs pl pu h
  obtain ⟨a,xs,rfl,hx,hw,q⟩:=h
  cases rx
  obtain ⟨its,r,ht,hz⟩:=I.tuple hx
  have hlen:its.toArray.size = xs.length:=by rw [List.size_toArray];exact r.length.symm
  refine ⟨"tuple",_,PyProof.Rows.slot_tuple_getitem.lookup,ht.typeIs,?_⟩
  refine HT.getItem_tuple_cut ht hs pl pu (by rw [hlen];exact hw) ?_ (by rw [hlen];exact hz)
  rw [hlen]
  refine ⟨.ref s.heap.objs.size,_,I.laid (t':=s.toks) (o:=.tup (cutV xs lo hi)) (fun b ob q=>Heap.get?_push_of_some _ q) (Nat.le_refl _) ?_,rfl,q _ (I.hok.fresh (Nat.le_refl _))⟩
  exact ⟨Nat.le_trans (cutV_length xs lo hi) hz,_,(r.drop (HT.sIx xs.length 0 lo)).take (HT.sIx xs.length xs.length hi - HT.sIx xs.length 0 lo),IsTup.new _ _⟩

noncomputable def rCatT (K:PySem.W.Frag):R2:=fun x y H Q=>∃ a b xs ys,x = .ref a /\ y = .ref b /\ SqT K H a xs /\ SqT K H b ys /\ xs ≠ [] /\ xs.length + ys.length <= sizeLine /\
  (ys = [] -> Q (.ref a) H) /\ (ys ≠ [] -> ∀ p,H p = none -> Q (.ref p) (upd H p (.tup (xs ++ ys))))
theorem Vals.nil_iff {xs:List V} {us:List Value} (r:Vals xs us):us = [] ↔ xs = []:=by
  cases r with
  | nil=>simp
  | cons _ _=>simp
theorem op_catT:OpR X (binaryOp .Add) (rCatT X.K):=by
  intro pins s σ H x y v u Q I rx ry h
  obtain ⟨a,b,xs,ys,rfl,rfl,ha,hb,hx,hz,q1,q2⟩:=h
  cases rx
  cases ry
  obtain ⟨its,r1,p1,_⟩:=I.tuple ha
  obtain ⟨its2,r2,p2,_⟩:=I.tuple hb
  refine HT.cat_tup p1 p2 (fun z=>hx (r1.nil_iff.mp z)) (fun z=>⟨.ref a,H,I,rfl,q1 (r2.nil_iff.mp z)⟩) (fun z=>?_) (by rw [<- r1.length,<- r2.length];exact hz)
  refine ⟨.ref s.heap.objs.size,_,I.laid (t':=s.toks) (o:=.tup (xs ++ ys)) (fun b ob q=>Heap.get?_push_of_some _ q) (Nat.le_refl _) ?_,rfl,q2 (fun w=>z (r2.nil_iff.mpr w)) _ (I.hok.fresh (Nat.le_refl _))⟩
  exact ⟨by rw [List.length_append];exact hz,_,r1.append r2,IsTup.new _ _⟩
end
end L2

namespace L2
open PySem PySem.Spec PyProof.Rows

noncomputable def ixN (n:Nat) (i:Int):Option Nat:=if 0 <= i then (if i < n then some i.toNat else none) else if -(n:Int) <= i then some (i + n).toNat else none
noncomputable def atI {α:Type} (xs:List α) (i:Int):Option α:=(ixN xs.length i).bind fun j=>xs[j]?
theorem ixN_seq {n:Nat} {i:Int} {j:Nat} (h:ixN n i = some j):seqIndex? i n = some j /\ j < n /\ -(n:Int) <= i /\ i < n:=by
  unfold ixN at h
  by_cases h0:0 <= i
  · rw [if_pos h0] at h
    by_cases h1:i < n
    · rw [if_pos h1] at h
      have e:i.toNat = j:=Option.some.inj h
      exact ⟨by rw [seqIndex_of h0 h1,e],by omega,by omega,h1⟩
    · rw [if_neg h1] at h;cases h
  · rw [if_neg h0] at h
    by_cases h1:-(n:Int) <= i
    · rw [if_pos h1] at h
      have e:(i + n).toNat = j:=Option.some.inj h
      exact ⟨by rw [seqIndex_neg (by omega) h1,e],by omega,h1,by omega⟩
    · rw [if_neg h1] at h;cases h
theorem atI_get {α:Type} {xs:List α} {i:Int} {v:α} (h:atI xs i = some v):∃ j,seqIndex? i xs.length = some j /\ xs[j]? = some v /\ j < xs.length /\ -(xs.length:Int) <= i /\ i < xs.length:=by
  unfold atI at h
  cases e:ixN xs.length i with
  | none=>rw [e] at h;cases h
  | some j =>
    rw [e] at h
    obtain ⟨h1,h2,h3,h4⟩:=ixN_seq e
    exact ⟨j,h1,h,h2,h3,h4⟩
noncomputable def PlainIx (b:Expr):Prop:=∀ o i,subscripted b false o i = operate [o,i] (getItem o i)
noncomputable def IxR (X:Cx) (r:R2):Prop :=
  ∀ (value slice:Expr) (pins:List (Addr × Obj)) (s:Shared) (σ:St) (H:Hp) (x y:V) (v u:Value) (Q:VK),Inv X pins σ H s -> RelV x v -> RelV y u -> r x y H Q ->
    subscripted slice false v u = operate [v,u] (getItem v u) -> wpAny (model X.prog X.w) X.A (subscriptTail value slice v u) (EP X pins σ Q) X.xe s
noncomputable def MtR (X:Cx) (id:String) (r:V -> List V -> Hp -> VK -> Prop):Prop :=
  ∀ (pins:List (Addr × Obj)) (s:Shared) (σ:St) (H:Hp) (x:V) (xs:List V) (v:Value) (us:List Value) (Q:VK),Inv X pins σ H s -> RelV x v -> Vals xs us -> r x xs H Q ->
    wpAny (model X.prog X.w) X.A (call (.builtin id) (v :: us)) (EP X pins σ Q) X.xe s
section
variable {X:Cx} {a b:Expr} {ta tb:TE} {pos:Pos}
theorem IxR.or {r r':R2} (h:IxR X r) (h':IxR X r'):IxR X (fun x y H Q=>r x y H Q \/ r' x y H Q):=by
  intro value slice pins s σ H x y v u Q I rx ry q hs
  rcases q with q | q
  · exact h value slice pins s σ H x y v u Q I rx ry q hs
  · exact h' value slice pins s σ H x y v u Q I rx ry q hs
theorem pe_ix {r:R2} (hr:IxR X r) (ha:PE X a ta) (hb:PE X b tb) (hs:PlainIx b):PE X (.Subscript a b pos) (tOp r ta tb):=by
  intro pins s σ H Q I h
  exact Subscript_ (binT ha hb I h fun v u s2 x y H2 I2 rx ry q=>hr a b pins s2 σ H2 x y v u Q I2 rx ry q (hs _ _))

noncomputable def rIxL (K:PySem.W.Frag):R2:=fun x y H Q=>∃ p xs i v,x = .ref p /\ y = .int i /\ SqL K H p xs /\ atI xs i = some v /\ Q v H
noncomputable def rIxT (K:PySem.W.Frag):R2:=fun x y H Q=>∃ p xs i v,x = .ref p /\ y = .int i /\ SqT K H p xs /\ atI xs i = some v /\ Q v H
noncomputable def rIxS:R2:=fun x y H Q=>∃ z i c,x = .str z /\ y = .int i /\ z.length <= sizeLine /\ atI z.cps.toList i = some c /\ Q (.str ⟨#[c]⟩) H
theorem ix_list:IxR X (rIxL X.K):=by
  intro value slice pins s σ H x y v u Q I rx ry h hs
  obtain ⟨p,xs,i,z,rfl,rfl,hq,he,q⟩:=h
  cases rx
  obtain ⟨t,rfl⟩:=ry
  obtain ⟨its,r,pl,hz⟩:=I.list hq
  obtain ⟨j,h1,h2,h3,h4,h5⟩:=atI_get he
  obtain ⟨w,ew,rw'⟩:=r.get h2
  have hl:=r.length
  have hn:=line63
  have fin:EP X pins σ Q w s:=⟨z,H,I,rw',q⟩
  by_cases h0:0 <= i
  · have hj:i.toNat = j:=by
      rw [seqIndex_of h0 h5] at h1
      exact Option.some.inj h1
    exact item_listR pl.isList h0 (by omega) (by rw [hj];simpa using ew) fin hs
  · have hj:(i + (its.toArray.size:Int)).toNat = j:=by
      rw [seqIndex_neg (by omega) h4] at h1
      rw [List.size_toArray,<- hl]
      exact Option.some.inj h1
    exact subscriptTail_builtinR (x:=w) pl.isList.typeIs slot_list_getitem.lookup
      (wpAny_getItem_list_neg (Q:=fun r s'=>r = w /\ EP X pins σ Q r s') pl.isList (by omega) (by rw [List.size_toArray]<;>omega) (by omega) (by rw [hj];simpa using ew) ⟨rfl,fin⟩) hs
theorem ix_tup:IxR X (rIxT X.K):=by
  intro value slice pins s σ H x y v u Q I rx ry h hs
  obtain ⟨p,xs,i,z,rfl,rfl,hq,he,q⟩:=h
  cases rx
  obtain ⟨t,rfl⟩:=ry
  obtain ⟨its,r,pl,hz⟩:=I.tuple hq
  obtain ⟨j,h1,h2,h3,h4,h5⟩:=atI_get he
  obtain ⟨w,ew,rw'⟩:=r.get h2
  have hl:=r.length
  have hn:=line63
  have fin:EP X pins σ Q w s:=⟨z,H,I,rw',q⟩
  exact subscriptTail_builtinR (x:=w) pl.typeIs slot_tuple_getitem.lookup
    (getItem_tuple (j:=j) (Q:=fun r s'=>r = w /\ EP X pins σ Q r s') pl (by omega) (by omega) (by rw [List.size_toArray,<- hl];exact h1) (by simpa using ew) ⟨rfl,fin⟩) hs
theorem ix_str:IxR X rIxS:=by
  intro value slice pins s σ H x y v u Q I rx ry h hs
  obtain ⟨z,i,c,rfl,rfl,hz,he,q⟩:=h
  obtain ⟨t,rfl⟩:=rx
  obtain ⟨t',rfl⟩:=ry
  obtain ⟨j,h1,h2,h3,h4,h5⟩:=atI_get he
  have hl:z.cps.toList.length = z.length:=by simp [Str.length]
  rw [hl] at h1 h4 h5
  have hn:=line63
  exact tail_any (typeIs_str s z t) slot_str_getitem.lookup (getItem_str (c:=c) (by
    have e1:decide (i < -(2 ^ 63:Int)) = false:=decide_eq_false (by omega)
    have e2:decide (i >= 2 ^ 63) = false:=decide_eq_false (by omega)
    rw [e1,e2,Bool.or_false]) (by rw [h1];simpa using h2) ⟨.str ⟨#[c]⟩,H,I.tok _,⟨_,rfl⟩,q⟩) hs
noncomputable def rIx (K:PySem.W.Frag):R2:=fun x y H Q=>rIxL K x y H Q \/ rIxT K x y H Q \/ rIxS x y H Q
theorem ix_seq:IxR X (rIx X.K):=ix_list.or (ix_tup.or ix_str)

theorem mapSeq_set (its:List Value) (n j:Nat) (u:Value):Obj.mapSeq (·.setIfInBounds j u) { cls:=.type "list",data:=.seq its.toArray n } = { cls:=.type "list",data:=.seq (its.set j u).toArray n }:=by
  simp [Obj.mapSeq]
theorem Inv.lst {pins:List (Addr × Obj)} {σ:St} {H:Hp} {s:Shared} {p:Addr} {xs:List V} (I:Inv X pins σ H s) (h:H p = some (.lst xs)) :
    ∃ (its:List Value) (n:Nat),Vals xs its /\ s.heap.get? p = some { cls:=.type "list",data:=.seq its.toArray n } /\ xs.length <= sizeLine:=by
  obtain ⟨z,its,n,r,e⟩:=I.hok p _ h
  exact ⟨its,n,r,e,z⟩
theorem Inv.lstUpd {pins:List (Addr × Obj)} {σ:St} {H:Hp} {s:Shared} {p:Addr} {xs ys:List V} {its its':List Value} {n n':Nat} {f:Obj -> Obj} (I:Inv X pins σ H s) (h:H p = some (.lst xs))
    (ho:s.heap.get? p = some { cls:=.type "list",data:=.seq its.toArray n }) (hf:f { cls:=.type "list",data:=.seq its.toArray n } = { cls:=.type "list",data:=.seq its'.toArray n' }) (r:Vals ys its') (hz:ys.length <= sizeLine) (t:Nat) :
    Inv X pins σ (upd H p (.lst ys)) { s with heap:=s.heap.update p f,toks:=t }:=by
  have e:(s.heap.update p f).get? p = some { cls:=.type "list",data:=.seq its'.toArray n' }:=by
    rw [Heap.get?_update_self f ho (by rw [hf]<;>rfl),hf]
  refine I.write (x:=p) (e:=p) (by rw [h];trivial) (.inl rfl) (fun b u hb q=>(Heap.get?_update_other _ _ (Ne.symm hb)).trans q) ⟨_,e⟩ ?_
  exact ⟨hz,its',n',r,e⟩
noncomputable def rSetL:V -> V -> V -> Hp -> (Hp -> Prop) -> Prop:=fun o i v H Q=>∃ p xs k j,o = .ref p /\ i = .int k /\ H p = some (.lst xs) /\ ixN xs.length k = some j /\ Q (upd H p (.lst (xs.set j v)))
theorem set_list:PSet X rSetL:=by
  intro pins s σ H o i v ov iv u Q I ro ri rv h
  obtain ⟨p,xs,k,j,rfl,rfl,hp,hj,q⟩:=h
  cases ro
  obtain ⟨t,rfl⟩:=ri
  obtain ⟨its,n,r,ho,hz⟩:=I.lst hp
  obtain ⟨h1,h2,h3,h4⟩:=ixN_seq hj
  have hl:=r.length
  have hn:=line63
  have I':Inv X pins σ (upd H p (.lst (xs.set j v))) { s with heap:=s.heap.update p (Obj.mapSeq (·.setIfInBounds j u)) } :=
    I.lstUpd hp ho (mapSeq_set its n j u) (r.set rv j) (by rw [List.length_set];exact hz) s.toks
  by_cases h0:0 <= k
  · have hk:k.toNat = j:=by
      rw [seqIndex_of h0 h4] at h1
      exact Option.some.inj h1
    exact PySem.W.ki_setAt ho h0 (by omega) (by rw [List.size_toArray,<- hl];exact h4) (by rw [hk];exact ⟨_,I',q⟩)
  · have hk:(k + (its.toArray.size:Int)).toNat = j:=by
      rw [seqIndex_neg (by omega) h3] at h1
      rw [List.size_toArray,<- hl]
      exact Option.some.inj h1
    exact PySem.W.ki_setBack ho (by omega) (by rw [List.size_toArray,<- hl];exact h3) (by omega) (by rw [hk];exact ⟨_,I',q⟩)

theorem slice_bounds (lo hi:Option Int) (n:Nat):(sliceBounds lo hi none n).1 = ((HT.sIx n 0 lo:Nat):Int) /\ (sliceBounds lo hi none n).2.1 = ((HT.sIx n n hi:Nat):Int) /\ (sliceBounds lo hi none n).2.2 = 1:=by
  refine ⟨?_,?_,rfl⟩
  · cases lo with
    | none=>simp [sliceBounds,HT.sIx]
    | some i =>
      simp only [sliceBounds,HT.sIx,Option.getD_none,show (1:Int) > 0 by decide,if_true]
      by_cases h:i < 0
      · simp only [h,if_true]<;>omega
      · simp only [h,if_false]<;>omega
  · cases hi with
    | none=>simp [sliceBounds,HT.sIx]
    | some i =>
      simp only [sliceBounds,HT.sIx,Option.getD_none,show (1:Int) > 0 by decide,if_true]
      by_cases h:i < 0
      · simp only [h,if_true]<;>omega
      · simp only [h,if_false]<;>omega
theorem slicePick_cut (its:List Value) (lo hi:Option Int):slicePick its.toArray lo hi none = ((its.drop (HT.sIx its.length 0 lo)).take (HT.sIx its.length its.length hi - HT.sIx its.length 0 lo)).toArray:=by
  obtain ⟨h1,h2,h3⟩:=slice_bounds lo hi its.toArray.size
  unfold slicePick
  rw [h1,h2,h3]
  simp only [sliceRange_one,pick_run,List.size_toArray]<;>rfl
noncomputable def rSlL (K:PySem.W.Frag):V -> Option Int -> Option Int -> Hp -> VK -> Prop:=fun x lo hi H Q=>∃ a xs,x = .ref a /\ SqL K H a xs /\ ∀ p,H p = none -> Q (.ref p) (upd H p (.lst (cutV xs lo hi)))
theorem sl_list:SlR X (rSlL X.K):=by
  intro pins s σ H x v vl vu lo hi sl Q I rx hs pl pu h
  obtain ⟨a,xs,rfl,hx,q⟩:=h
  cases rx
  obtain ⟨its,r,ht,hz⟩:=I.list hx
  have hlen:=r.length
  refine ⟨"list",_,slot_list_getitem.lookup,ht.isList.typeIs,?_⟩
  refine wpAny_getItem_list_slice ht.isList hs pl pu .none (by simp) ?_ (by rw [List.size_toArray]<;>omega)
  rw [slicePick_cut,<- hlen]
  refine ⟨.ref s.heap.objs.size,_,I.laid (t':=s.toks) (o:=.lst (cutV xs lo hi)) (fun b ob q=>Heap.get?_push_of_some _ q) (Nat.le_refl _) ?_,rfl,q _ (I.hok.fresh (Nat.le_refl _))⟩
  exact ⟨Nat.le_trans (cutV_length xs lo hi) hz,_,0,(r.drop (HT.sIx xs.length 0 lo)).take (HT.sIx xs.length xs.length hi - HT.sIx xs.length 0 lo),Heap.get?_push_size _ rfl⟩

theorem call_len_seq:CallR X (.builtin "len") (fun xs H Q=>∃ p ys,xs = [.ref p] /\ (SqL X.K H p ys \/ SqT X.K H p ys) /\ Q (.int ys.length) H):=by
  intro pins s σ H xs us Q I r h
  obtain ⟨p,ys,rfl,hq,q⟩:=h
  obtain ⟨u,rfl,rx⟩:=vals1 r
  cases rx
  have hn:=line63
  rcases hq with hq | hq
  · obtain ⟨its,r',pl,hz⟩:=I.list hq
    have hlen:=r'.length
    exact Calls.call_len_list pl.isList (by simp only [List.size_toArray]<;>omega) ⟨.int ys.length,H,I.tok _,⟨s.toks + 1,by rw [List.size_toArray,hlen]⟩,q⟩
  · obtain ⟨its,r',pl,hz⟩:=I.tuple hq
    have hlen:=r'.length
    exact len_tuple pl (by simp only [List.size_toArray]<;>omega) ⟨.int ys.length,H,I.tok _,⟨s.toks + 1,by rw [List.size_toArray,hlen]⟩,q⟩
theorem call_len_str:CallR X (.builtin "len") (fun xs H Q=>∃ z,xs = [.str z] /\ z.length <= sizeLine /\ Q (.int z.length) H):=by
  intro pins s σ H xs us Q I r h
  obtain ⟨z,rfl,hz,q⟩:=h
  obtain ⟨u,rfl,t,rfl⟩:=vals1 r
  have hn:=line63
  exact len_str (by omega) ⟨.int z.length,H,I.tok _,⟨_,rfl⟩,q⟩
theorem CallR.or {f:Value} {r r':List V -> Hp -> VK -> Prop} (h:CallR X f r) (h':CallR X f r'):CallR X f (fun xs H Q=>r xs H Q \/ r' xs H Q):=by
  intro pins s σ H xs us Q I rs q
  rcases q with q | q
  · exact h pins s σ H xs us Q I rs q
  · exact h' pins s σ H xs us Q I rs q
theorem call_list_of:CallR X (.type "list") (fun xs H Q=>∃ p ys,xs = [.ref p] /\ (SqL X.K H p ys \/ SqT X.K H p ys) /\ ∀ l,H l = none -> Q (.ref l) (upd H l (.lst ys))):=by
  intro pins s σ H xs us Q I r h
  obtain ⟨p,ys,rfl,hq,q⟩:=h
  obtain ⟨u,rfl,rx⟩:=vals1 r
  cases rx
  have fin:∀ (its:List Value),Vals ys its -> ys.length <= sizeLine -> ∀ (h':Heap) (c':Nat),(∀ b o',s.heap.get? b = some o' -> h'.get? b = some o') ->
      h'.get? s.heap.objs.size = some { cls:=.type "list",dict:=none,data:=.seq its.toArray c',slots:=#[] } -> EP X pins σ Q (.ref s.heap.objs.size) { s with heap:=h' }:=fun its r' hz h' c' kp e =>
    ⟨.ref s.heap.objs.size,_,I.laid (t':=s.toks) kp (Nat.le_refl _) (show ObjOk X.prog X.w _ h' _ (.lst ys) from ⟨hz,its,c',r',e⟩),rfl,q _ (I.hok.fresh (Nat.le_refl _))⟩
  rcases hq with hq | hq
  · obtain ⟨its,r',pl,hz⟩:=I.list hq
    have hlen:=r'.length
    obtain ⟨o,ho,hc,n,hd⟩:=pl.isList
    exact call_list_seq p (.inl rfl) ho hc hd (fun h' c' kp e=>fin its r' hz h' c' kp e) (by simp only [List.size_toArray]<;>omega)
  · obtain ⟨its,r',pl,hz⟩:=I.tuple hq
    have hlen:=r'.length
    obtain ⟨o,ho,hc,n,hd⟩:=pl
    exact call_list_seq p (.inr rfl) ho hc hd (fun h' c' kp e=>fin its r' hz h' c' kp e) (by simp only [List.size_toArray]<;>omega)
theorem call_tuple_of:CallR X (.type "tuple") (fun xs H Q=>∃ p ys,xs = [.ref p] /\ ((SqL X.K H p ys /\ ∀ l,H l = none -> Q (.ref l) (upd H l (.tup ys))) \/ (SqT X.K H p ys /\ Q (.ref p) H))):=by
  intro pins s σ H xs us Q I r h
  obtain ⟨p,ys,rfl,h⟩:=h
  obtain ⟨u,rfl,rx⟩:=vals1 r
  cases rx
  rcases h with ⟨hq,q⟩ | ⟨hq,q⟩
  · obtain ⟨its,r',pl,hz⟩:=I.list hq
    have hlen:=r'.length
    refine call_tuple_list pl.isList (fun h' kp=>?_) (by simp only [List.size_toArray]<;>omega)
    have I1:Inv X pins σ H { s with heap:=h' }:=I.kept (t':=s.toks) kp
    have I2:Inv X pins σ (upd H h'.objs.size (.tup ys)) { s with heap:=h'.push { cls:=.type "tuple",data:=.seq its.toArray } } :=
      I1.laid (t':=s.toks) (fun b o e=>Heap.get?_push_of_some _ e) (Nat.le_refl _) (show ObjOk X.prog X.w _ _ _ (.tup ys) from ⟨hz,its,r',IsTup.new _ _⟩)
    exact ⟨.ref h'.objs.size,_,I2,rfl,q _ (I1.hok.fresh (Nat.le_refl _))⟩
  · obtain ⟨its,r',pl,hz⟩:=I.tuple hq
    exact call_tuple_same pl ⟨.ref p,H,I,rfl,q⟩

noncomputable def tyV (K:PySem.W.Frag) (T:String) (x:V) (H:Hp):Prop:=match x with
  | .str _=>T = "str"
  | .int _=>T = "int"
  | .ref p=>(T = "list" /\ ∃ xs,SqL K H p xs) \/ (T = "tuple" /\ ∃ o,K.lookup p = some o /\ o.cls = .type "tuple" /\ o.dict = none) \/
      (T = "dict" /\ ((∃ kvs,H p = some (.dK kvs)) \/ ∃ kvs,H p = some (.dT kvs))) \/ (T = "set" /\ ∃ S n,H p = some (.set S n))
  | _=>False
theorem tyV_is {pins:List (Addr × Obj)} {σ:St} {H:Hp} {s:Shared} {T:String} {x:V} {v:Value} (I:Inv X pins σ H s) (r:RelV x v) (ty:tyV X.K T x H) :
    s.TypeIs v T /\ ∀ a,v = .ref a -> ∃ ob,s.heap.get? a = some ob /\ ob.dict = none:=by
  cases x with
  | str z =>
    obtain ⟨t,rfl⟩:=r
    cases (show T = "str" from ty)
    exact ⟨typeIs_str s z t,fun _ e=>nomatch e⟩
  | int i =>
    obtain ⟨t,rfl⟩:=r
    cases (show T = "int" from ty)
    exact ⟨typeIs_int s i t,fun _ e=>nomatch e⟩
  | ref p =>
    cases r
    rcases ty with ⟨rfl,xs,hq⟩ | ⟨rfl,o,hk,hc,hd⟩ | ⟨rfl,hk⟩ | ⟨rfl,S,n,hk⟩
    · obtain ⟨its,_,pl,_⟩:=I.list hq
      refine ⟨pl.isList.typeIs,fun a e=>?_⟩
      cases e
      obtain ⟨o,n,e,c,hd,_⟩:=pl
      exact ⟨o,e,hd⟩
    · refine ⟨⟨o,I.kIn p o hk,hc⟩,fun a e=>?_⟩
      cases e
      exact ⟨o,I.kIn _ o hk,hd⟩
    · have z:∃ o,s.heap.get? p = some o /\ o.ExactDict:=by
        rcases hk with ⟨kvs,hk⟩ | ⟨kvs,hk⟩
        · obtain ⟨_,_,_,_,o,_,_,e,ex,_⟩:=I.hok p _ hk
          exact ⟨o,e,ex⟩
        · obtain ⟨_,_,_,_,o,_,_,e,ex,_⟩:=I.hok p _ hk
          exact ⟨o,e,ex⟩
      obtain ⟨o,e,ex⟩:=z
      refine ⟨⟨o,e,ex.1⟩,fun a e2=>?_⟩
      cases e2
      exact ⟨o,e,ex.2.1⟩
    · obtain ⟨o,_,_,_,e,ex,_⟩:=I.hok p _ hk
      refine ⟨⟨o,e,ex.1⟩,fun a e2=>?_⟩
      cases e2
      exact ⟨o,e,ex.2.1⟩
  | _=>exact False.elim ty
noncomputable def tBM0 (K:PySem.W.Frag) (T:String) (r:V -> List V -> Hp -> VK -> Prop) (to:TE):TE:=fun σ H Q=>to σ H fun x H1=>tyV K T x H1 /\ r x [] H1 Q
noncomputable def tBM (K:PySem.W.Frag) (T:String) (r:V -> List V -> Hp -> VK -> Prop) (to:TE) (t:TA):TE:=fun σ H Q=>to σ H fun x H1=>tyV K T x H1 /\ t σ H1 fun xs H2=>r x xs H2 Q
variable {o e:Expr} {es:List Expr} {to:TE} {t:TA} {name:Str} {apos cpos:Pos} {T id:String} {r:V -> List V -> Hp -> VK -> Prop}
theorem pe_bm0 (pa:PlainAttrs T) (slot:Slot T name id) (hty:typeOf (.builtin id) = pure (.type "method_descriptor")) (hm:MtR X id r) (ho:PE X o to)
    (hbase:attributeBase o name X.env (eval o X.env) = eval o X.env:=by rfl) (hline:(apos.endLine == cpos.line) = true:=by rfl):PE X (.Call (.Attribute o name apos) [] [] cpos) (tBM0 X.K T r to):=by
  intro pins s σ H Q I h
  refine wpAny_Call_method0_late hbase hline (thn (ho pins s σ H _ I h) fun v s1 ⟨x,H1,I1,r1,ty,q1⟩=>?_)
  obtain ⟨h1,h2⟩:=tyV_is I1 r1 ty
  exact ⟨T,id,pa,slot,hty,h1,h2,Calls.callWith_builtin rfl (PySem.evalArgs_none (hm pins s1 σ H1 x [] v [] Q I1 r1 .nil q1))⟩
theorem pe_bm (pa:PlainAttrs T) (slot:Slot T name id) (hty:typeOf (.builtin id) = pure (.type "method_descriptor")) (hm:MtR X id r) (ho:PE X o to) (ha:PA X (e :: es) t)
    (hbase:attributeBase o name X.env (eval o X.env) = eval o X.env:=by rfl)
    (hfew:((backTo cpos (starEach (e :: es) X.env)).all (fun x=>!x.1) && (backToKw cpos (keywordEach [] X.env)).all (fun x=>x.1.isSome)
      && decide ((e :: es).length + ([]:List Keyword).length + (if ([]:List Keyword).isEmpty then 0 else 1) < 30)) = true:=by rfl)
    (hline:(apos.endLine == cpos.line) = true:=by rfl) (hs:starEach (e :: es) X.env = (false,eval e X.env) :: starEach es X.env:=by rfl) (hplain:(backTo cpos (starEach es X.env)).any (·.1) = false:=by rfl) :
    PE X (.Call (.Attribute o name apos) (e :: es) [] cpos) (tBM X.K T r to t):=by
  intro pins s σ H Q I h
  refine wpAny_Call_method_late hbase hfew hline rfl (thn (ho pins s σ H _ I h) fun v s1 ⟨x,H1,I1,r1,ty,q1⟩=>?_)
  obtain ⟨h1,h2⟩:=tyV_is I1 r1 ty
  refine ⟨T,id,pa,slot,hty,h1,h2,?_⟩
  have hA:=ha cpos pins s1 σ H1 _ I1 q1
  rw [hs] at hA ⊢
  refine Calls.callWith_builtin (by show (false || (backTo cpos (starEach es X.env)).any (·.1)) = false;rw [hplain]<;>rfl) (Calls.evalArgs_plain ?_)
  exact thn hA fun us s2 ⟨vs,H2,I2,r2,q2⟩=>hm pins s2 σ H2 x vs v us Q I2 r1 r2 q2
end
end L2

namespace L2
open PySem PySem.Spec PyProof.Rows

noncomputable def MtM (X:Cx) (id:String) (r:V -> List V -> Hp -> VK -> Prop):Prop :=
  ∀ (pins:List (Addr × Obj)) (s:Shared) (σ:St) (H:Hp) (x:V) (xs:List V) (v:Value) (us:List Value) (Q:VK),Inv X pins σ H s -> RelV x v -> Vals xs us -> r x xs H Q ->
    wpAny (model X.prog X.w) X.A (call (.builtin id) (v :: us)) (EP X pins σ Q) X.xe s

theorem Vals.one:∀ {x:V} {us:List Value},Vals [x] us -> ∃ u,us = [u] /\ RelV x u
  | _,_,.cons r .nil=>⟨_,rfl,r⟩
theorem Vals.rep {xs:List V} {us:List Value} (h:Vals xs us):∀ k:Nat,Vals (List.replicate k xs).flatten (List.replicate k us).flatten
  | 0=>.nil
  | k + 1=>by
    rw [List.replicate_succ,List.replicate_succ,List.flatten_cons,List.flatten_cons]
    exact Vals.append h (Vals.rep h k)
theorem foldl_rep (its:List Value):∀ (k:Nat) (acc:List Value),
    List.foldl (fun x1 x2=>x1 ++ x2) acc.toArray (List.replicate k its.toArray) = (acc ++ (List.replicate k its).flatten).toArray
  | 0,acc=>by simp
  | k + 1,acc=>by
    have e:acc.toArray ++ its.toArray = (acc ++ its).toArray:=by simp
    have e2:(acc ++ its) ++ (List.replicate k its).flatten = acc ++ (List.replicate (k + 1) its).flatten:=by
      rw [List.replicate_succ,List.flatten_cons,List.append_assoc]
    rw [<- e2,<- foldl_rep its k (acc ++ its),<- e,List.replicate_succ,List.foldl_cons]

section
variable {X:Cx} {pins:List (Addr × Obj)} {σ:St} {H:Hp} {s:Shared} {l b:Addr} {xs ys zs:List V}

theorem Inv.lset {its its':List Value} {n:Nat} {f:Array Value -> Array Value} {t':Nat} (I:Inv X pins σ H s) (hH:H l = some (.lst xs))
    (e:s.heap.get? l = some { cls:=.type "list",data:=.seq its.toArray n }) (hf:f its.toArray = its'.toArray) (hv:Vals ys its') (hz:ys.length <= sizeLine) :
    Inv X pins σ (upd H l (.lst ys)) { s with heap:=s.heap.update l (Obj.mapSeq f),toks:=t' }:=by
  have q:=PySem.IsL.update e f
  rw [hf] at q
  refine I.write (x:=l) (e:=l) (by rw [hH];exact trivial) (.inl rfl) (fun b' u hb hu=>(Heap.get?_update_other s.heap (Obj.mapSeq f) (Ne.symm hb)).trans hu) ⟨_,q⟩ ?_
  exact ⟨hz,its',_,hv,q⟩
theorem Inv.lnew {its:List Value} {t':Nat} (I:Inv X pins σ H s) (hv:Vals ys its) (hz:ys.length <= sizeLine) :
    Inv X pins σ (upd H s.heap.objs.size (.lst ys)) { s with heap:=s.heap.push { cls:=.type "list",data:=.seq its.toArray },toks:=t' } :=
  I.laid (fun _ _ q=>Heap.get?_push_of_some _ q) (Nat.le_refl _) ⟨hz,its,0,hv,Heap.get?_push_size _ rfl⟩
theorem Inv.fresh (I:Inv X pins σ H s):H s.heap.objs.size = none:=I.hok.fresh (Nat.le_refl _)
theorem Inv.lstM (I:Inv X pins σ H s) (hH:H l = some (.lst xs)):xs.length <= sizeLine /\ ∃ (its:List Value) (n:Nat),Vals xs its /\ xs.length = its.length /\ s.heap.get? l = some { cls:=.type "list",data:=.seq its.toArray n }:=by
  obtain ⟨z,its,n,r,e⟩:=I.hok l _ hH
  exact ⟨z,its,n,r,r.length,e⟩

theorem notLongL {n:Nat} (h:n <= sizeLine):Builtin.List.listTooLong n = false:=by
  unfold Builtin.List.listTooLong
  exact decide_eq_false (by omega)
end

section
variable {X:Cx}

noncomputable def rAppend:V -> List V -> Hp -> VK -> Prop:=fun x vs H Q=>∃ l xs y,x = .ref l /\ vs = [y] /\ H l = some (.lst xs) /\ xs.length < sizeLine /\ Q .non (upd H l (.lst (xs ++ [y])))
theorem mt_append:MtM X "list.append" rAppend:=by
  intro pins s σ H x vs v us Q I rx rv h
  obtain ⟨l,xs,y,rfl,rfl,hH,hz,q⟩:=h
  cases rx
  obtain ⟨u,rfl,ru⟩:=rv.one
  obtain ⟨z,its,n,r,hl,e⟩:=I.lstM hH
  refine call_meets F.slot_list_append ⟨_,e,rfl⟩ F.entry_list_append (F.args_list_append_2 _ _) (PySem.list_append l its.toArray n u (by rw [List.size_toArray];omega)) ⟨e,?_⟩
  refine ⟨.non,_,I.lset (its':=its ++ [u]) hH e (by simp) (r.append (.cons ru .nil)) ?_,rfl,q⟩
  rw [List.length_append,List.length_singleton]
  omega

noncomputable def rExtend:V -> List V -> Hp -> VK -> Prop:=fun x vs H Q=>∃ l b xs zs,x = .ref l /\ vs = [.ref b] /\ H l = some (.lst xs) /\ H b = some (.lst zs) /\ xs.length + zs.length <= sizeLine /\ Q .non (upd H l (.lst (xs ++ zs)))
theorem mt_extend:MtM X "list.extend" rExtend:=by
  intro pins s σ H x vs v us Q I rx rv h
  obtain ⟨l,b,xs,zs,rfl,rfl,hH,hB,hz,q⟩:=h
  cases rx
  obtain ⟨u,rfl,ru⟩:=rv.one
  cases ru
  obtain ⟨z,its,n,r,hl,e⟩:=I.lstM hH
  obtain ⟨z2,its2,n2,r2,hl2,e2⟩:=I.lstM hB
  have hsz:its.toArray.size + its2.toArray.size <= sizeLine:=by rw [List.size_toArray,List.size_toArray];omega
  have hlong:¬ (!its.toArray.isEmpty && Builtin.List.listTooLong (its.toArray.size + its2.toArray.size)) = true:=by
    rw [notLongL hsz,Bool.and_false]
    exact Bool.false_ne_true
  refine call_meets F.slot_list_extend ⟨_,e,rfl⟩ F.entry_list_extend (F.args_list_extend_2 _ _)
    (AutoSeq1.list_extend_list_list_0 l its.toArray n b its2.toArray n2 hlong (by rw [List.size_toArray];omega) (by omega)) ⟨e,e2,?_⟩
  refine ⟨.non,_,I.lset (its':=its ++ its2) hH e (by simp) (r.append r2) ?_,rfl,q⟩
  rw [List.length_append]
  omega

theorem len_rep {α:Type} (xs:List α) (k:Nat):(List.replicate k xs).flatten.length = k * xs.length:=by
  induction k with
  | zero=>simp
  | succ k ih=>rw [List.replicate_succ,List.flatten_cons,List.length_append,ih,Nat.succ_mul,Nat.add_comm]
end

section
variable {prog:Program} {w:World} {A:Around} {E:Value -> Shared -> Prop} {s:Shared}
set_option maxRecDepth 100000 in
end

section
variable {X:Cx}
end
end L2

namespace Att
open PySem PySem.W PySem.Calls PyProof.Rows

theorem ints_of_wellAll {P:Params} {h:Heap}:∀ (ns:List Int) (vs:List Value),WellAll P h vs (ns.map WData.int) -> IntsAre vs ns:=by
  intro ns
  induction ns with
  | nil =>
    intro vs w
    rw [List.map_nil] at w
    cases w
    exact .nil
  | cons n ns ih =>
    intro vs w
    rw [List.map_cons] at w
    cases w with
    | cons a b =>
      cases a
      exact .cons _ _ (ih _ b)

theorem script_of {l:OpenLaw} {n:Nat} (hn:l.most = some n) {P:Params} {h:Heap} {args:List WData} {vals:List Value}
    (hpre:l.row.toRowW.claim.pre args = true) (hwl:WellAll P h vals args) :
    ∃ a vs ns,vals = [Value.ref a] /\ args = [WData.list (ns.map WData.int)] /\ h.get? a = some { cls:=.type "list",data:=.seq vs.toArray } /\ IntsAre vs ns /\ ns.length <= n:=by
  have hsh:WShape.hasAll [] args [.list .int] = true:=(pre_splitW hpre).1
  have hc:l.pre.holds [] { args:=args } = true:=(pre_splitW hpre).2
  obtain ⟨d,r,rfl,h1,h2⟩:=hasAllW_cons hsh
  obtain rfl:=hasAllW_nil h2
  obtain ⟨xs,rfl,h3⟩:=hasW_list h1
  obtain ⟨ns,rfl⟩:=items_int h3
  have hlen:ns.length <= n:=by
    unfold OpenLaw.pre at hc
    have h4:(WTm.not (.lt (.lit (.int (n:Int))) (.len (.arg 0)))).holds [] { args:=[.list (ns.map .int)] } = true:=by
      have h4:=(holds_andW hc).1
      rw [hn] at h4
      exact h4
    have h5:=condW_of h4 (w_not (w_lt w_lit (w_len_list (w_arg rfl))))
    rw [List.length_map] at h5
    refine Nat.le_of_not_lt fun q=>?_
    have q':(n:Int) < ((ns.length:Nat):Int):=by omega
    first
      | (rw [decide_eq_true q'] at h5;exact absurd h5 (by decide))
      | (simp at h5;omega)
  cases hwl with
  | cons w1 w2 =>
    cases w2
    cases w1 with
    | list ho hall=>exact ⟨_,_,ns,rfl,rfl,ho,ints_of_wellAll ns _ hall,hlen⟩

theorem post_true (l:OpenLaw) (args:List WData):l.row.toRowW.claim.post args (.bool true) args = true :=
  postW_of (r:=l.row.toRowW) (X:=(true == true))
    (show WShape.has [] (.bool true) .bool = true by first | rfl | decide | simp [WShape.has,WShape.arms,WShape.armsAll])
    (show (WTm.eq .res (.lit (.bool true))).value [] { args:=args,res:=some (.bool true),after:=args } = some (.bool (true == true)) from w_eq_bool (w_res rfl) w_lit) rfl

theorem attach_call {l:OpenLaw} {n:Nat} {q:Program} {loose:List Str} {XP:(Str -> Option Value) -> Heap -> Prop} {YP:World -> Heap -> Prop} {d:DefRec}
    (hn:l.most = some n) (hdf:d.params.defaults = [])
    (call:∀ (w:World) (s₀ s₁:Shared) (mg mb:Str -> Option Value) (fa:Addr) (o:Obj) (pm cd doc:Value) (a:Addr) (vs:List Value) (ns:List Int),
      Ground q loose [] XP w s₀ mg mb s₁.heap -> YP w s₁.heap ->
      s₁.heap.get? fa = some o -> o.data = .func (docDef d.name d.params d.body d.scope pm cd doc) -> s₁.heap.CodeRec cd d.name -> mg d.name = some (.ref fa) ->
      s₁.heap.get? a = some { cls:=.type "list",data:=.seq vs.toArray } -> IntsAre vs ns -> ns.length <= n -> s₁.gens = #[] ->
      codeAny (model l.prog w) callerA (.call (.ref fa) ⟨[.ref a],[]⟩) (fun r s'=>r = .ok (.ret (.bool true)) /\ OldK s₁.heap s'.heap /\ s'.os = s₁.os /\ AllBare s'.gens) s₁) :
    WalkO q loose XP YP l.row.toRowW d [] (fun f vs=>PySem.call f vs):=by
  intro w s₀ s₁ mg mb G Y fa o pm cd doc dV kV ho hd hcd hD hmg hg args vals as hpre hlay hrd hwl hlo
  obtain rfl:dV = .none:=Dflts.none hD hdf
  obtain rfl:kV = .none:=Dflts.noKw hD
  obtain ⟨a,vs,ns,rfl,rfl,hobj,hints,hlen⟩:=script_of hn hpre hwl
  refine enter_call (codeAny_mono (call w s₀ s₁ mg mb fa o pm cd doc a vs ns G Y ho (fd_plain hd) hcd hmg hobj hints hlen hg) fun r s' hq=>?_)
  obtain ⟨rfl,h2,h3,h4⟩:=hq
  exact ⟨.inl ⟨.bool true,.bool true,[],rfl,fun _=>rfl,.bool true,post_true l _,fun _=>⟨List.Pairwise.nil,fun _ hm=>(nomatch hm)⟩⟩,h2,h3,h4⟩

section
variable {prog:Program} {w:World} {A:Around} {E:Value -> Shared -> Prop} {s:Shared} {K:Frag}

end
end Att

namespace L2
open PySem PySem.Spec PyProof.Rows

theorem vals_ints:∀ {vs:List Value} {ns:List Int},IntsAre vs ns -> Vals (ns.map V.int) vs
  | _,_,.nil=>.nil
  | _,_,.cons n t h=>.cons ⟨t,rfl⟩ (vals_ints h)

noncomputable def Only (H:Hp):Prop:=∀ b,H b = none \/ ∃ o xs,H b = some (.frz o (.lst xs))

theorem law_call {P:Program} {w:World} {K:PySem.W.Frag} {mg mb:Str -> Option Value} {CX:CXT} {k:Nat} {fa a:Addr} {fd:FuncData} {x:Str} {sp:Sp} {s₁:Shared} {vs:List Value} {ns:List Int}
    (KX:K.In s₁.heap) (hns:s₁.heap.Ns mainGlobals mg) (hb:s₁.heap.Ns builtinsNs mb) (hbb:∀ x:Str,x ≠ "__name__" -> mb x = bootBuiltins x) (hlim:s₁.heap.NoLimit) (hg:s₁.gens = #[])
    (ha:s₁.heap.get? a = some { cls:=.type "list",data:=.seq vs.toArray }) (hi:IntsAre vs ns) (hl:ns.length <= sizeLine) (hr:Room k callerA)
    (F:∀ base:Heap,K.In base -> base.Ns mainGlobals mg -> FnOk P w K mg base CX k fa fd [x] sp) (hbind:∀ (s:Shared) (u:Value),BindsTo s fd ⟨[u],[]⟩ [(x,u)])
    (hsp:∀ H:Hp,Only H -> SqL K H a (ns.map V.int) -> sp [.ref a] H (fun v _=>v = .bl true) fun _ _ _=>False)
    (hCX:∀ H e s',CX [] H s₁ (fun _ _ _=>False) e s' -> False) :
    codeAny (model P w) callerA (.call (.ref fa) ⟨[.ref a],[]⟩) (fun r s'=>r = .ok (.ret (.bool true)) /\ OldK s₁.heap s'.heap /\ s'.os = s₁.os /\ AllBare s'.gens) s₁:=by
  have rv:=vals_ints hi
  have lenV:=hi.length
  -- from an abstract heap in which nothing but the script may be tracked
  have core:∀ H:Hp,Only H -> SqL K H a (ns.map V.int) -> HOk P w H s₁.heap -> (∀ b,H b ≠ none -> b = a) -> (H a ≠ none -> K.lookup a = none) ->
      codeAny (model P w) callerA (.call (.ref fa) ⟨[.ref a],[]⟩) (fun r s'=>r = .ok (.ret (.bool true)) /\ OldK s₁.heap s'.heap /\ s'.os = s₁.os /\ AllBare s'.gens) s₁:=by
    intro H hO hS hok hA hK
    have base_of:∀ {b:Addr} {o:Obj},s₁.heap.get? b = some o -> H b = none -> (hidT s₁.heap H).get? b = some o:=fun e n=>hidT_get e n
    have noA:∀ {b:Addr} {o:Obj} {es:Array DictEntry} {ep:Nat},s₁.heap.get? b = some o -> o.data = .dict es ep -> H b = none:=fun {b o es ep} e d=>by
      cases q:H b with
      | none=>rfl
      | some u =>
        have e':b = a:=hA b (by rw [q];simp)
        subst e'
        rw [ha] at e;cases e
        have d':Data.seq vs.toArray _ = Data.dict es ep:=d
        cases d'
    have nsK:∀ {b:Addr} {m:Str -> Option Value},s₁.heap.Ns b m -> (hidT s₁.heap H).Ns b m:=fun {b m} ⟨o,es,ep,e,d,r⟩=>⟨o,es,ep,base_of e (noA e d),d,r⟩
    have hKb:K.In (hidT s₁.heap H):=fun b o e=>base_of (KX b o e) (by
      cases q:H b with
      | none=>rfl
      | some u =>
        have e':b = a:=hA b (by rw [q];simp)
        subst e'
        rw [hK (by rw [q];simp)] at e;cases e)
    have hM:Mod K mg (hidT s₁.heap H):=⟨hKb,nsK hns,⟨mb,nsK hb,hbb⟩,let ⟨mc,h1,h2⟩:=hlim;⟨mc,nsK h1,h2⟩⟩
    have e0:Env0 P w K mg (hidT s₁.heap H) callerA [] s₁ H:=⟨rfl,hM,fun b o e=>of_hidT e,Nat.le_of_eq (hidT_size _ _),trivial,fun b hb=>absurd (show b ∈ ([]:List Addr) from hb) (by simp),hok,.of_eq hg⟩
    refine codeAny_mono ((F _ hKb (nsK hns)).run callerA [] s₁ H ⟨[.ref a],[]⟩ [.ref a] [.ref a] _ _ hr e0 (hbind s₁ (.ref a)) (.cons rfl .nil) (hsp H hO hS)) fun r s' h=>?_
    cases r with
    | error e=>exact (hCX H e s' h).elim
    | ok fl =>
      cases fl with
      | next=>exact False.elim h
      | brk=>exact False.elim h
      | cont=>exact False.elim h
      | ret u =>
        obtain ⟨v,H',os,bare,un,hok',r',q⟩:=h
        have q':v = .bl true:=q
        subst q'
        obtain rfl:u = Value.bool true:=r'
        refine ⟨rfl,OldK.of_keep fun b o e=>?_,os,bare⟩
        cases q:H b with
        | none=>exact un.keep b o e q (by intro z;exact absurd (show b ∈ ([]:List Addr) from z) (by simp)) (by simp)
        | some u =>
          rcases hO b with z | ⟨ob,xs,z⟩
          · rw [q] at z;cases z
          · have z2:=un.frzs b ob _ z
            obtain ⟨e1,_⟩:=hok b _ z
            obtain ⟨e2,_⟩:=hok' b _ z2
            rw [e] at e1;cases e1
            exact e2
  cases hk:K.lookup a with
  | some o =>
    -- the script is one of the module's own objects
    have e:=KX a o hk
    rw [ha] at e
    cases e
    refine core (fun _=>none) (fun _=>.inl rfl) (.inr ⟨_,vs.toArray,_,hk,rfl,rfl,rfl,by rw [List.size_toArray,lenV];exact hl,by simpa using rv⟩) (fun b u z=>by have z':(none:Option HO) = some u:=z;cases z') (fun b z=>absurd rfl z) fun z=>absurd rfl z
  | none =>
    refine core (fun b=>if b = a then some (.frz { cls:=.type "list",data:=.seq vs.toArray } (.lst (ns.map V.int))) else none) (fun b=>?_) (.inl (.inr ⟨{ cls:=.type "list",data:=.seq vs.toArray },if_pos rfl⟩)) (fun b u z=>?_) (fun b z=>?_) fun _=>hk
    · by_cases hb:b = a
      · exact .inr ⟨_,_,if_pos hb⟩
      · exact .inl (if_neg hb)
    · by_cases hb:b = a
      · have z':=(if_pos hb).symm.trans z
        cases z'
        subst hb
        exact ⟨ha,by rw [List.length_map];exact hl,vs,_,rv,ha⟩
      · have z':=(if_neg hb).symm.trans z
        cases z'
    · by_cases hb:b = a
      · exact hb
      · exact absurd (if_neg hb) z
end L2

namespace L2
open PySem PySem.Spec PyProof.Rows

theorem walk_of {l:PySem.W.OpenLaw} {n k:Nat} {q:Program} {loose:List Str} {XP:(Str -> Option Value) -> Heap -> Prop} {YP:World -> Heap -> Prop} {d:DefRec} {K:Params -> PySem.W.Frag} {CX:World -> CXT} {sp:World -> Sp} {x:Str}
    (hn:l.most = some n) (hn2:n <= sizeLine) (hdf:d.params.defaults = []) (hr:Room k callerA)
    (hY:∀ (w:World) (h:Heap),YP w h -> (K w.params).In h)
    (F:∀ (w:World) (mg:Str -> Option Value) (fa:Addr) (h:Heap),(K w.params).In h -> h.Ns mainGlobals mg -> mg d.name = some (.ref fa) ->
      ∃ fd:FuncData,(∀ (s:Shared) (u:Value),BindsTo s fd ⟨[u],[]⟩ [(x,u)]) /\
        ∀ base:Heap,(K w.params).In base -> base.Ns mainGlobals mg -> FnOk l.prog w (K w.params) mg base (CX w) k fa fd [x] (sp w))
    (hsp:∀ (w:World) (H:Hp) (a:Addr) (ns:List Int),ns.length <= n -> Only H -> SqL (K w.params) H a (ns.map V.int) -> sp w [.ref a] H (fun v _=>v = .bl true) fun _ _ _=>False)
    (hCX:∀ (w:World) (H:Hp) (s:Shared) (e:Value) (s':Shared),CX w [] H s (fun _ _ _=>False) e s' -> False) :
    PySem.W.WalkO q loose XP YP l.row.toRowW d [] (fun f vs=>PySem.call f vs):=by
  refine Att.attach_call hn hdf fun w s₀ s₁ mg mb fa o pm cd doc a vs ns G Y ho hd hcd hmg hobj hints hlen hg=>?_
  have KX:=hY w _ Y
  obtain ⟨fd,hb,hF⟩:=F w mg fa _ KX G.T.g hmg
  exact law_call KX G.T.g G.T.b G.T.builtins G.T.nolimit hg hobj hints (Nat.le_trans hlen hn2) hr hF hb (fun H hO hS=>hsp w H a ns hlen hO hS) fun H e s'=>hCX w H s₁ e s'
end L2

namespace L2
open PySem PySem.Spec PyProof.Rows

noncomputable def defArgs (s:Stmt):Arguments:=match s with
  | .FunctionDef _ a _ _ _ _ _ _ _ _=>a
  | _=>{ posonlyargs:=[],args:=[],vararg:=none,kwonlyargs:=[],kw_defaults:=[],kwarg:=none,defaults:=[] }
noncomputable def defBody (s:Stmt):List Stmt:=match s with
  | .FunctionDef _ _ b _ _ _ _ _ _ _=>b
  | _=>[]
noncomputable def defScope (s:Stmt):Scope:=match s with
  | .FunctionDef _ _ _ _ _ _ sc _ _ _=>sc
  | _=>{ kind:=.function,names:=[],isGenerator:=false,isCoroutine:=false }

noncomputable abbrev CX0:CXT:=fun _ _ _ _ _ _=>False
noncomputable abbrev E0:XK:=fun _ _ _=>False
theorem pass0 {X:Cx}:Passes CX0 X E0:=fun _ _ _ _ _ _ _ h=>h.elim

structure Fun (K:PySem.W.Frag) (x qual:Str) (st:Stmt) (f:Addr) (fd:FuncData):Prop where
  ex:∃ (oc:Value) (od:Option Addr) (kV doc pm:Value) (an:Option Addr) (cdv ct:Value) (osl:Array (Option Value)),
    fd = PySem.W.fnOf x qual (defArgs st) (defBody st) (defScope st) .none kV doc pm an cdv ct /\ K.lookup f = some ⟨oc,od,.func fd,osl⟩ /\ PySem.W.codeIn K cdv qual = true
  kp:PySem.W.keepIn K (.ref f) = true
section
variable {P:Program} {w:World} {K:PySem.W.Frag} {mg:Str -> Option Value} {base:Heap}
theorem Fun.ok {x qual:Str} {st:Stmt} {f:Addr} {fd:FuncData} {N ps:List Str} {k:Nat} {sp:Sp} (F:Fun K x qual st f fd) (S:FnScope N ps (defScope st)) (len:∀ vs H Q E,sp vs H Q E -> vs.length = ps.length)
    (hbody:∀ (cdv:Value) (A:Around) (outer:List Env) (s:Shared) (H:Hp) (vs:List V) (Q:VK) (E:XK),Room k (A.deeper (envOfC qual (defScope st) s.heap.objs.size f cdv)) -> sp vs H Q E ->
      ∃ t,PSs (cxOf CX0 P w K mg base N qual (defScope st) f cdv A outer s H E).nox (defBody st) t /\ t { nx:=fun _ H'=>Q .non H',rt:=Q } (start N vs) H):FnOk P w K mg base CX0 (k + 1) f fd ps sp:=by
  obtain ⟨oc,od,kV,doc,pm,an,cdv,ct,osl,rfl,lk,hcd⟩:=F.ex
  refine fn_of lk hcd S len fun A outer s H vs Q E hr hsp=>?_
  obtain ⟨t,h,q⟩:=hbody cdv A outer s H vs Q E hr hsp
  exact ⟨t,h.nox,q⟩
theorem Fun.binds {x qual:Str} {st:Stmt} {f:Addr} {fd:FuncData} {ps:List Str} (F:Fun K x qual st f fd)
    (h:∀ (kV doc pm:Value) (an:Option Addr) (cdv ct:Value) (us:List Value),us.length = ps.length -> bindArgs (PySem.W.fnOf x qual (defArgs st) (defBody st) (defScope st) .none kV doc pm an cdv ct) ⟨us,[]⟩ = pure (ps.zip us)):Binds K fd ps []:=by
  obtain ⟨oc,od,kV,doc,pm,an,cdv,ct,osl,rfl,lk,hcd⟩:=F.ex
  exact .all (h kV doc pm an cdv ct)
theorem fun_mk {x qual:Str} {st:Stmt} {f:Addr} {oc:Value} {od an:Option Addr} {osl:Array (Option Value)} {kV doc pm cdv ct:Value} (l:K.lookup f = some ⟨oc,od,.func (PySem.W.fnOf x qual (defArgs st) (defBody st) (defScope st) .none kV doc pm an cdv ct),osl⟩)
    (c:PySem.W.codeIn K cdv qual = true) (k:PySem.W.keepIn K (.ref f) = true):Fun K x qual st f (PySem.W.fnOf x qual (defArgs st) (defBody st) (defScope st) .none kV doc pm an cdv ct):=⟨⟨oc,od,kV,doc,pm,an,cdv,ct,osl,rfl,l,c⟩,k⟩
end
section
variable {X:Cx}
end

noncomputable def Same (H H':Hp):Prop:=∀ b o,H b = some o -> H' b = some o
theorem Same.refl (H:Hp):Same H H:=fun _ _ h=>h
theorem Same.trans {H H1 H2:Hp} (a:Same H H1) (b:Same H1 H2):Same H H2:=fun c o h=>b c o (a c o h)
theorem Same.free {H H':Hp} (e:Same H H') {l:Addr} (h:H' l = Option.none):H l = Option.none:=by
  cases q:H l with
  | none=>rfl
  | some o =>
    rw [e l o q] at h
    cases h
theorem Same.seq {K:PySem.W.Frag} {H H':Hp} {a:Addr} {xs:List V} (e:Same H H') (h:SqL K H a xs):SqL K H' a xs:=by
  rcases h with (h | ⟨o,h⟩) | h
  · exact .inl (.inl (e _ _ h))
  · exact .inl (.inr ⟨o,e _ _ h⟩)
  · exact .inr h

end L2

set_option Elab.async false
set_option linter.all false
set_option maxRecDepth 100000
namespace L2
open PySem PySem.Spec PyProof.Rows

section
variable {κ:Type} [DecidableEq κ]
noncomputable def valV (kvs:List (κ × V)) (k:κ):Option V:=(kvs.find? fun kv=>decide (kv.1 = k)).map (·.2)
noncomputable def putK (kvs:List (κ × V)) (k:κ) (v:V):List (κ × V) :=
  if (kvs.any fun kv=>decide (kv.1 = k)) = true then kvs.map (fun kv=>if kv.1 = k then (kv.1,v) else kv) else kvs ++ [(k,v)]
theorem valV_pos {p:κ × V} {r:List (κ × V)} {k:κ} (e:p.1 = k):valV (p :: r) k = some p.2:=by simp [valV,List.find?_cons,e]
theorem valV_neg {p:κ × V} {r:List (κ × V)} {k:κ} (e:¬ p.1 = k):valV (p :: r) k = valV r k:=by simp [valV,List.find?_cons,e]
theorem valV_any (k:κ):∀ kvs:List (κ × V),(kvs.any fun kv=>decide (kv.1 = k)) = (valV kvs k).isSome
  | []=>rfl
  | p :: r=>by
    rw [List.any_cons]
    by_cases e:p.1 = k
    · simp only [valV_pos e,decide_eq_true e,Bool.true_or,Option.isSome_some]
    · rw [valV_neg e,decide_eq_false e,Bool.false_or];exact valV_any k r
theorem length_putK (kvs:List (κ × V)) (k:κ) (v:V):(putK kvs k v).length <= kvs.length + 1:=by
  unfold putK
  split
  · rw [List.length_map];omega
  · rw [List.length_append,List.length_cons,List.length_nil];omega
theorem RelO.isSome_eq {o:Option V} {u:Option Value} (r:RelO o u):o.isSome = u.isSome:=by
  cases o with
  | none=>cases u with
    | none=>rfl
    | some _=>exact (show False from r).elim
  | some _=>cases u with
    | none=>exact (show False from r).elim
    | some _=>rfl
theorem KV.val {kvs:List (κ × V)} {vs:List (κ × Value)} (r:KV kvs vs) (k:κ):RelO (valV kvs k) (valueAt vs k):=by
  unfold KV at r
  induction r with
  | nil=>exact True.intro
  | @cons p q ps qs h t ih =>
    obtain ⟨h1,h2⟩:=h
    by_cases e:p.1 = k
    · have e':q.1 = k:=h1.symm.trans e
      have b:valueAt (q :: qs) k = some q.2:=by simp [valueAt,List.find?_cons,e']
      rw [valV_pos e,b];exact h2
    · have e':¬ q.1 = k:=fun z=>e (h1.trans z)
      have b:valueAt (q :: qs) k = valueAt qs k:=by simp [valueAt,List.find?_cons,e']
      rw [valV_neg e,b];exact ih
theorem KV.any {kvs:List (κ × V)} {vs:List (κ × Value)} (r:KV kvs vs) (k:κ):(kvs.any fun kv=>decide (kv.1 = k)) = vs.any fun kv=>decide (kv.1 = k):=by
  unfold KV at r
  induction r with
  | nil=>rfl
  | cons h t ih=>rw [List.any_cons,List.any_cons,ih,h.1]
theorem KV.repl {kvs:List (κ × V)} {vs:List (κ × Value)} (r:KV kvs vs) (k:κ) {y:V} {u:Value} (ry:RelV y u) :
    KV (kvs.map fun kv=>if kv.1 = k then (kv.1,y) else kv) (vs.map fun kv=>if kv.1 = k then (kv.1,u) else kv):=by
  unfold KV at r ⊢
  induction r with
  | nil=>exact .nil
  | @cons p q ps qs h t ih =>
    rw [List.map_cons,List.map_cons]
    refine .cons ?_ ih
    obtain ⟨h1,h2⟩:=h
    by_cases e:p.1 = k
    · rw [if_pos e,if_pos (h1.symm.trans e)];exact ⟨h1,ry⟩
    · rw [if_neg e,if_neg (fun z=>e (h1.trans z))];exact ⟨h1,h2⟩
theorem KV.put {kvs:List (κ × V)} {vs:List (κ × Value)} (r:KV kvs vs) (k:κ) {y:V} {u:Value} (ry:RelV y u):KV (putK kvs k y) (stored vs k u):=by
  unfold putK stored
  rw [r.any k]
  by_cases e:(vs.any fun kv=>decide (kv.1 = k)) = true
  · rw [if_pos e,if_pos e];exact r.repl k ry
  · rw [if_neg e,if_neg e];exact Paired.snoc r ⟨rfl,ry⟩
theorem KV.length {kvs:List (κ × V)} {vs:List (κ × Value)} (r:KV kvs vs):kvs.length = vs.length:=Paired.length r
end


theorem kV_is {P:Program} {w:World} {k:Key} {u:Value} (r:RelV (kV k) u):(mixKind P w).is k u = true:=by
  cases k with
  | inl i=>obtain ⟨t,e⟩:=(show ∃ t,u = Value.int i t from r);subst e;exact mixKind_int P w i t
  | inr x=>obtain ⟨t,e⟩:=(show ∃ t,u = Value.str x t from r);subst e;exact mixKind_str P w x t
theorem items_are {P:Program} {w:World}:∀ {ks:List Key} {us:List Value},Vals (ks.map kV) us -> ItemsAre (mixKind P w) ks us
  | [],_,r=>by rw [List.map_nil] at r;cases r;exact .nil
  | k :: ks,_,r=>by
    rw [List.map_cons] at r
    cases r with
    | cons h t=>exact .cons (kV_is h) (items_are t)

noncomputable abbrev KT (H:Hp):List (List Key × V) -> List (List Key × Addr × Value) -> Prop:=Paired fun p q=>p.1 = q.1 /\ H q.2.1 = some (.tup (p.1.map kV)) /\ RelV p.2 q.2.2
theorem KT.val {H:Hp} {kvs:List (List Key × V)} {xs:List (List Key × Addr × Value)} (r:KT H kvs xs) (k:List Key):RelO (valV kvs k) ((atKey xs k).map (·.2)):=by
  induction r with
  | nil=>exact True.intro
  | @cons p q ps qs h t ih =>
    obtain ⟨h1,_,h2⟩:=h
    by_cases e:p.1 = k
    · have e':q.1 = k:=h1.symm.trans e
      have b:atKey (q :: qs) k = some q.2:=by simp [atKey,List.find?_cons,e']
      rw [valV_pos e,b];exact h2
    · have e':¬ q.1 = k:=fun z=>e (h1.trans z)
      have b:atKey (q :: qs) k = atKey qs k:=by simp [atKey,List.find?_cons,e']
      rw [valV_neg e,b];exact ih
theorem KT.repl {H:Hp} {kvs:List (List Key × V)} {xs:List (List Key × Addr × Value)} (r:KT H kvs xs) (k:List Key) {y:V} {u:Value} (ry:RelV y u) :
    KT H (kvs.map fun kv=>if kv.1 = k then (kv.1,y) else kv) (xs.map (putAt k u)):=by
  induction r with
  | nil=>exact .nil
  | @cons p q ps qs h t ih =>
    rw [List.map_cons,List.map_cons]
    refine .cons ?_ ih
    obtain ⟨h1,h2,h3⟩:=h
    unfold putAt
    by_cases e:p.1 = k
    · rw [if_pos e,if_pos (h1.symm.trans e)];exact ⟨h1,h2,ry⟩
    · rw [if_neg e,if_neg (fun z=>e (h1.trans z))];exact ⟨h1,h2,h3⟩
theorem KT.put {H:Hp} {kvs:List (List Key × V)} {xs:List (List Key × Addr × Value)} (r:KT H kvs xs) (k:List Key) {b:Addr} {y:V} {u:Value} (hb:H b = some (.tup (k.map kV))) (ry:RelV y u) :
    KT H (putK kvs k y) (storedH xs k b u):=by
  have e:(kvs.any fun kv=>decide (kv.1 = k)) = (atKey xs k).isSome:=by
    rw [valV_any,(r.val k).isSome_eq,Option.isSome_map]
  unfold putK storedH
  rw [e]
  by_cases q:(atKey xs k).isSome = true
  · rw [if_pos q,if_pos q];exact r.repl k ry
  · rw [if_neg q,if_neg q];exact Paired.snoc r ⟨rfl,hb,ry⟩
theorem KT.keeps {H H':Hp} {kvs:List (List Key × V)} {xs:List (List Key × Addr × Value)} (r:KT H kvs xs) (ht:∀ b ys,H b = some (.tup ys) -> H' b = some (.tup ys)):KT H' kvs xs :=
  Paired.mapP r fun _ _ z=>⟨z.1,ht _ _ z.2.1,z.2.2⟩

section
variable {P:Program} {w:World} {H:Hp} {h:Heap} {a:Addr}
theorem rd_of {u:HO} (ok:HOk P w H h) (e:Rd H a u):ObjOk P w H h a u:=e.ok ok
theorem dk_rd {kvs:List (Key × V)} (ok:HOk P w H h) (e:Rd H a (.dK kvs)):kvs.length <= sizeLine /\ (a == sysModules) = false /\ ∃ vs,KV kvs vs /\ h.DictOf (mixKind P w) a vs :=
  show ObjOk P w H h a (.dK kvs) from rd_of ok e
theorem dk_of {kvs:List (Key × V)} (ok:HOk P w H h) (e:H a = some (.dK kvs)):kvs.length <= sizeLine /\ (a == sysModules) = false /\ ∃ vs,KV kvs vs /\ h.DictOf (mixKind P w) a vs:=dk_rd ok (.inl e)
theorem key_of {ks:List Key} (ok:HOk P w H h) (e:H a = some (.tup (ks.map kV))):(tupleKind (mixKind P w)).is h ks a:=by
  obtain ⟨_,its,r,o,h1,h2,n,h3⟩:=(show ObjOk P w H h a (.tup (ks.map kV)) from ok a _ e)
  exact ⟨o,its.toArray,n,h1,h2,h3,by simpa using items_are r⟩
theorem dt_rd {kvs:List (List Key × V)} (ok:HOk P w H h) (e:Rd H a (.dT kvs)):kvs.length <= sizeLine /\ (a == sysModules) = false /\
    ∃ xs,KT H kvs xs /\ h.DictOfH (tupleKind (mixKind P w)) a xs:=by
  obtain ⟨z,y,xs,r,o,es,ep,h1,h2,h3,h4,h5⟩:=(show ObjOk P w H h a (.dT kvs) from rd_of ok e)
  refine ⟨z,y,xs,r,o,es,ep,h1,h2,h3,h4,fun x hx=>?_,h5⟩
  have all:∀ {l:List (List Key × V)} {m:List (List Key × Addr × Value)},KT H l m -> ∀ x ∈ m,(tupleKind (mixKind P w)).is h x.1 x.2.1:=by
    intro l m q
    induction q with
    | nil=>intro x hx;exact nomatch hx
    | @cons p q ps qs hq t ih =>
      intro x hx
      rcases List.mem_cons.mp hx with e | hx
      · subst e
        exact key_of ok (by rw [<- hq.1];exact hq.2.1)
      · exact ih x hx
  exact all r x hx
theorem dt_of {kvs:List (List Key × V)} (ok:HOk P w H h) (e:H a = some (.dT kvs)):kvs.length <= sizeLine /\ (a == sysModules) = false /\
    ∃ xs,KT H kvs xs /\ h.DictOfH (tupleKind (mixKind P w)) a xs:=dt_rd ok (.inl e)
end

noncomputable def DGet (H:Hp) (a:Addr) (y:V) (r:Option V):Prop :=
  (∃ kvs k,Rd H a (.dK kvs) /\ y = kV k /\ r = valV kvs k) \/ ∃ kvs k b,Rd H a (.dT kvs) /\ y = .ref b /\ H b = some (.tup (k.map kV)) /\ r = valV kvs k
noncomputable def DPut (H:Hp) (a:Addr) (y v:V) (H':Hp):Prop :=
  (∃ kvs k,H a = some (.dK kvs) /\ y = kV k /\ kvs.length < sizeLine /\ H' = upd H a (.dK (putK kvs k v))) \/
  ∃ kvs k b,H a = some (.dT kvs) /\ y = .ref b /\ H b = some (.tup (k.map kV)) /\ kvs.length < sizeLine /\ H' = upd H a (.dT (putK kvs k v))
theorem DGet.t {H:Hp} {a b:Addr} {kvs:List (List Key × V)} {k:List Key} (e:H a = some (.dT kvs)) (eb:H b = some (.tup (k.map kV))):DGet H a (.ref b) (valV kvs k):=.inr ⟨kvs,k,b,.inl e,rfl,eb,rfl⟩
theorem DPut.t {H:Hp} {a b:Addr} {kvs:List (List Key × V)} {k:List Key} {v:V} (e:H a = some (.dT kvs)) (eb:H b = some (.tup (k.map kV))) (hl:kvs.length < sizeLine) :
    DPut H a (.ref b) v (upd H a (.dT (putK kvs k v))):=.inr ⟨kvs,k,b,e,rfl,eb,hl,rfl⟩


section
variable {X:Cx} {pins:List (Addr × Obj)} {σ:St} {H:Hp} {s:Shared} {a:Addr} {y v:V} {u r:Value} {o:Option V} {A:Around} {E:Value -> Shared -> Prop}

theorem Inv.big (I:Inv X pins σ H s):sysModules < s.heap.objs.size:=by
  have h:mainGlobals < s.heap.objs.size:=(I.mod.glob.keeps I.bk).lt
  exact Nat.lt_trans (by decide) h

theorem d_notIn {Q:Value -> Shared -> Prop} (hu:A.units + 1 < cLine) (I:Inv X pins σ H s) (g:DGet H a y o) (ry:RelV y u) (h:∀ s',Inv X pins σ H s' -> Q (.bool (!o.isSome)) s') :
    wpAny (model X.prog X.w) A (compareOp .NotIn u (.ref a)) Q E s:=by
  rcases g with ⟨kvs,k,e,ey,l⟩ | ⟨kvs,k,b,e,ey,eb,l⟩
  · subst ey
    obtain ⟨z,hd,vs,rel,dd⟩:=dk_rd I.hok e
    refine wpAny_notIn_of (kV_is ry) hd dd.mapOf ?_
    rw [<- (rel.val k).isSome_eq,<- l]
    exact h _ (I.tok _)
  · subst ey
    cases (show u = Value.ref b from ry)
    obtain ⟨z,hd,xs,rel,dd⟩:=dt_rd I.hok e
    refine wpAny_notIn_heap (tupleKind_room_in1 hu) (key_of I.hok eb) hd dd ?_
    have q:=(rel.val k).isSome_eq
    rw [Option.isSome_map] at q
    rw [<- q,<- l]
    exact h _ (I.tok _)
theorem d_write {h':Heap} {t':Nat} {ob:HO} (I:Inv X pins σ H s) (mu:Mut (H a)) (hs:Heap.SameBut a s.heap h') (he:∃ q,h'.get? a = some q) (new:ObjOk X.prog X.w (upd H a ob) h' a ob) :
    Inv X pins σ (upd H a ob) { s with heap:=h',toks:=t' } :=
  I.write (x:=a) (e:=a) mu (.inl rfl) (fun b q hb z=>(hs.2 b hb).trans z) he new
theorem dk_new {P:Program} {w:World} {H':Hp} {h':Heap} {kvs:List (Key × V)} {vs:List (Key × Value)} (z:kvs.length <= sizeLine) (hd:(a == sysModules) = false) (rel:KV kvs vs) (dd:h'.DictOf (mixKind P w) a vs) :
    ObjOk P w H' h' a (.dK kvs):=⟨z,hd,vs,rel,dd⟩
theorem d_setItem {H':Hp} {Q:Unit -> Shared -> Prop} (hu:A.units + 1 < cLine) (I:Inv X pins σ H s) (g:DPut H a y v H') (ry:RelV y u) (rv:RelV v r) (h:∀ s',Inv X pins σ H' s' -> Q () s') :
    wpAny (model X.prog X.w) A (setItem (.ref a) u r) Q E s:=by
  rcases g with ⟨kvs,k,e,ey,l,eH⟩ | ⟨kvs,k,b,e,ey,eb,l,eH⟩
  · subst ey eH
    obtain ⟨z,hd,vs,rel,dd⟩:=dk_of I.hok e
    have hz:vs.length <= sizeLine:=by rw [<- rel.length];exact z
    have hl:(putK kvs k v).length <= sizeLine:=by have:=length_putK kvs k v;omega
    refine wpAny_setItem_pairs (hsz:=hz) (kV_is ry) dd fun h' dd' hs=>h _ ?_
    have he:∃ q,h'.get? a = some q:=let ⟨q,_,_,hq,_⟩:=dd';⟨q,hq⟩
    exact d_write I (by rw [e];exact True.intro) hs he (dk_new hl hd (rel.put k rv) dd')
  · subst ey eH
    cases (show u = Value.ref b from ry)
    obtain ⟨z,hd,xs,rel,dd⟩:=dt_of I.hok e
    have hz:xs.length <= sizeLine:=by rw [<- Paired.length rel];exact z
    have hl:(putK kvs k v).length <= sizeLine:=by have:=length_putK kvs k v;omega
    refine wpAny_setItem_heap (hsz:=hz) (tupleKind_room_in1 hu) (key_of I.hok eb) dd fun h' dd' hs=>h _ ?_
    obtain ⟨q,es,ep,hq,h2,h3,h4,_,h5⟩:=dd'
    refine d_write I (by rw [e];exact True.intro) hs ⟨q,hq⟩ ⟨hl,hd,_,(rel.put k eb rv).keeps fun c ys ec=>?_,q,es,ep,hq,h2,h3,h4,h5⟩
    rw [upd_ne (ne_of ec e (fun z=>nomatch z))]
    exact ec
end

section
variable {X:Cx} {pins:List (Addr × Obj)} {σ:St} {H:Hp} {s:Shared} {a:Addr} {kvs:List (Key × V)} {k:Key} {u:Value} {A:Around} {E:Value -> Shared -> Prop}
end


noncomputable def sDPut (td ty tv:TE):TS:=fun D σ H=>tv σ H fun v H1=>td σ H1 fun x H2=>ty σ H2 fun y H3=>∃ a H4,x = .ref a /\ DPut H3 a y v H4 /\ D.nx σ H4
section
variable {X:Cx} {o i e value:Expr} {pos pos' tpos:Pos} {td ty tv:TE}
theorem ps_dput (hu:X.A.units + 1 < cLine) (ho:PE X o td) (hi:PE X i ty) (hv:PE X value tv) (hs:swapsWith value (some (.Subscript o i pos')) pos.line X.env = pure false) :
    PS X (.Assign [.Subscript o i pos'] value pos) (sDPut td ty tv):=by
  intro pins s σ H D I h
  refine wpAny_Assign_Subscript (thn (hv pins s σ H _ I h) fun r s1 ⟨v,H1,I1,rv,q1⟩=>thn (ho pins s1 σ H1 _ I1 q1) fun u s2 ⟨x,H2,I2,rx,q2⟩=>thn (hi pins s2 σ H2 _ I2 q2) fun iv s3 ⟨y,H3,I3,ry,a,H4,ex,g,q3⟩=>?_) hs
  subst ex
  obtain rfl:u = Value.ref a:=rx
  exact d_setItem hu I3 g ry rv fun s4 I4=>⟨σ,H4,I4,q3⟩
end


theorem dt_empty {P:Program} {w:World} {H:Hp} (h:Heap) (hb:sysModules < h.objs.size):ObjOk P w H (h.push { cls:=.type "dict",data:=.dict #[] }) h.objs.size (.dT []) :=
  ⟨Nat.zero_le _,beq_eq_false_iff_ne.mpr (Ne.symm (Nat.ne_of_lt hb)),[],.nil,_,#[],0,Heap.get?_push_size _ rfl,⟨rfl,rfl,rfl⟩,rfl,rfl,List.nodup_nil⟩
noncomputable def tDNewT:TE:=fun _ H Q=>∀ p,H p = none -> Q (.ref p) (upd H p (.dT []))
section
variable {X:Cx} {pos:Pos}
theorem pe_dnewT:PE X (.Dict [] [] pos) tDNewT:=fun pins s σ H Q I h =>
  wpAny_Dict_empty ⟨.ref s.heap.objs.size,_,I.laid (a:=s.heap.objs.size) (o:=.dT []) (t':=s.toks) (fun _ _ q=>Heap.get?_push_of_some _ q) (Nat.le_refl _) (dt_empty s.heap I.big),rfl,h _ (I.hok.fresh (Nat.le_refl _))⟩
end

noncomputable def tPairs:List (TE × TE) -> St -> Hp -> (List (V × V) -> Hp -> Prop) -> Prop
  | [],_,H,Q=>Q [] H
  | (tk,tv) :: r,σ,H,Q=>tk σ H fun x H1=>tv σ H1 fun y H2=>tPairs r σ H2 fun ps H3=>Q ((x,y) :: ps) H3
structure M1 (X:Cx) (o:Expr) (m:Str) (apos:Pos) (e:Expr) (cpos:Pos):Prop where
  base:attributeBase o m X.env (eval o X.env) = eval o X.env
  few:((backTo cpos (starEach [e] X.env)).all (fun x=>!x.1) && (backToKw cpos (keywordEach [] X.env)).all (fun x=>x.1.isSome)
    && decide (([e]:List Expr).length + ([]:List Keyword).length + (if ([]:List Keyword).isEmpty then 0 else 1) < 30)) = true
  line:(apos.endLine == cpos.line) = true
  trees:backTo cpos (starEach [e] X.env) = [(false,eval e X.env)]
structure M2 (X:Cx) (o:Expr) (m:Str) (apos:Pos) (e f:Expr) (cpos:Pos):Prop where
  base:attributeBase o m X.env (eval o X.env) = eval o X.env
  few:((backTo cpos (starEach [e,f] X.env)).all (fun x=>!x.1) && (backToKw cpos (keywordEach [] X.env)).all (fun x=>x.1.isSome)
    && decide (([e,f]:List Expr).length + ([]:List Keyword).length + (if ([]:List Keyword).isEmpty then 0 else 1) < 30)) = true
  line:(apos.endLine == cpos.line) = true
  trees:backTo cpos (starEach [e,f] X.env) = [(false,eval e X.env),(false,eval f X.env)]

section
variable {X:Cx} {pins:List (Addr × Obj)} {σ:St} {H:Hp} {s:Shared} {a:Addr} {y d:V} {u r:Value} {o:Option V} {A:Around} {E:Value -> Shared -> Prop}
end

section
variable {X:Cx} {o e f:Expr} {apos cpos:Pos} {td ty tx:TE}
end

section
variable {X:Cx} {pins:List (Addr × Obj)} {σ:St} {H:Hp} {s:Shared} {a:Addr} {kvs:List (Key × V)} {A:Around} {E:Value -> Shared -> Prop}
end


section
variable {X:Cx} {pins:List (Addr × Obj)} {σ:St} {H:Hp} {s:Shared} {a:Addr} {y:V} {u:Value} {A:Around} {E:Value -> Shared -> Prop}
end
end L2

set_option Elab.async false
set_option linter.all false
set_option maxRecDepth 100000

namespace Vc
open PySem L2

class KF where
  K:PySem.W.Frag
  /-- where the classes of exceptions stand -/
  cls:Str -> Addr:=fun _=>0
  /-- the code tables that a lambda fills: where,as they were,the lambda's place,its name -/
  tabs:List (Addr × Array Value × Pos × Str):=[]
variable [KF]
inductive D where
  | non | bl (b:Bool) | int (i:Int) | str (x:Str) | tup (xs:List D) | lst (xs:List D) | dct (kvs:List (D × D)) | exc (c:Str)
  /-- the law's own list: read,never changed -/
  | scr (ns:List Int)

noncomputable def excO (a:Addr) (c:Str):HO:=.ext fun h=>∃ o,h.get? a = some o /\ o.cls = .ref (KF.cls c)
noncomputable def kD:Key -> D
  | .inl i=>.int i
  | .inr x=>.str x
mutual
inductive Rep (F:Hp):V -> D -> Prop where
  | non:Rep F .non .non
  | bl (b:Bool):Rep F (.bl b) (.bl b)
  | int (i:Int):Rep F (.int i) (.int i)
  | str (x:Str):Rep F (.str x) (.str x)
  | tup {a:Addr} {vs:List V} {ds:List D}:F a = some (.tup vs) -> RepL F vs ds -> Rep F (.ref a) (.tup ds)
  | lst {a:Addr} {vs:List V} {ds:List D}:Rd F a (.lst vs) -> RepL F vs ds -> Rep F (.ref a) (.lst ds)
  | scr {a:Addr} {ns:List Int}:SqL KF.K F a (ns.map V.int) -> Rep F (.ref a) (.scr ns)
  | exc {a:Addr} {c:Str}:F a = some (excO a c) -> Rep F (.ref a) (.exc c)
  | dctT {a:Addr} {ks:List (List Key × V)} {kvs:List (D × D)}:F a = some (.dT ks) -> RepT F ks kvs -> Rep F (.ref a) (.dct kvs)
inductive RepK (F:Hp):List (Key × V) -> List (D × D) -> Prop where
  | nil:RepK F [] []
  | cons {k:Key} {v:V} {d:D} {ks:List (Key × V)} {kvs:List (D × D)}:Rep F v d -> RepK F ks kvs -> RepK F ((k,v) :: ks) ((kD k,d) :: kvs)
inductive RepT (F:Hp):List (List Key × V) -> List (D × D) -> Prop where
  | nil:RepT F [] []
  | cons {k:List Key} {v:V} {d:D} {ks:List (List Key × V)} {kvs:List (D × D)}:Rep F v d -> RepT F ks kvs -> RepT F ((k,v) :: ks) ((.tup (k.map kD),d) :: kvs)
inductive RepL (F:Hp):List V -> List D -> Prop where
  | nil:RepL F [] []
  | cons {v:V} {d:D} {vs:List V} {ds:List D}:Rep F v d -> RepL F vs ds -> RepL F (v :: vs) (d :: ds)
end

theorem Rd.mono {F F':Hp} (s:Same F F') {a:Addr} {u:HO} (h:Rd F a u):Rd F' a u:=by
  rcases h with h | ⟨o,h⟩
  · exact .inl (s a _ h)
  · exact .inr ⟨o,s a _ h⟩
mutual
theorem Rep.mono {F F':Hp} (s:Same F F') {v:V} {d:D}:Rep F v d -> Rep F' v d
  | .non=>.non
  | .bl b=>.bl b
  | .int i=>.int i
  | .str x=>.str x
  | .tup h r=>.tup (s _ _ h) (RepL.mono s r)
  | .lst h r=>.lst (Rd.mono s h) (RepL.mono s r)
  | .scr h=>.scr (s.seq h)
  | .exc h=>.exc (s _ _ h)
  | .dctT h r=>.dctT (s _ _ h) (RepT.mono s r)
theorem RepK.mono {F F':Hp} (s:Same F F') {ks:List (Key × V)} {kvs:List (D × D)}:RepK F ks kvs -> RepK F' ks kvs
  | .nil=>.nil
  | .cons h r=>.cons (Rep.mono s h) (RepK.mono s r)
theorem RepT.mono {F F':Hp} (s:Same F F') {ks:List (List Key × V)} {kvs:List (D × D)}:RepT F ks kvs -> RepT F' ks kvs
  | .nil=>.nil
  | .cons h r=>.cons (Rep.mono s h) (RepT.mono s r)
theorem RepL.mono {F F':Hp} (s:Same F F') {vs:List V} {ds:List D}:RepL F vs ds -> RepL F' vs ds
  | .nil=>.nil
  | .cons h r=>.cons (Rep.mono s h) (RepL.mono s r)
end
theorem RepL.length {F:Hp}:∀ {vs:List V} {ds:List D},RepL F vs ds -> vs.length = ds.length
  | _,_,.nil=>rfl
  | _,_,.cons _ r=>by simp [RepL.length r]
theorem RepL.append {F:Hp}:∀ {vs ws:List V} {ds es:List D},RepL F vs ds -> RepL F ws es -> RepL F (vs ++ ws) (ds ++ es)
  | _,_,_,_,.nil,s=>s
  | _,_,_,_,.cons h r,s=>.cons h (RepL.append r s)
theorem RepL.get {F:Hp}:∀ {vs:List V} {ds:List D} {i:Nat} {d:D},RepL F vs ds -> ds[i]? = some d -> ∃ v,vs[i]? = some v /\ Rep F v d
  | _,_,_,_,.nil,e=>by simp at e
  | _,_,0,_,.cons h _,e=>by simp at e;subst e;exact ⟨_,by simp,h⟩
  | _,_,i + 1,_,.cons _ r,e=>by
    obtain ⟨v,h1,h2⟩:=RepL.get (i:=i) r (by simpa using e)
    exact ⟨v,by simpa using h1,h2⟩
theorem RepL.set {F:Hp} {v:V} {d:D} (h:Rep F v d):∀ {vs:List V} {ds:List D} (i:Nat),RepL F vs ds -> RepL F (vs.set i v) (ds.set i d)
  | _,_,_,.nil=>.nil
  | _,_,0,.cons _ t=>.cons h t
  | _,_,i + 1,.cons q t=>.cons q (RepL.set h i t)
theorem RepL.take {F:Hp}:∀ {vs:List V} {ds:List D} (n:Nat),RepL F vs ds -> RepL F (vs.take n) (ds.take n)
  | _,_,0,_=>.nil
  | _,_,_ + 1,.nil=>.nil
  | _,_,n + 1,.cons h r=>.cons h (RepL.take n r)
theorem RepL.drop {F:Hp}:∀ {vs:List V} {ds:List D} (n:Nat),RepL F vs ds -> RepL F (vs.drop n) (ds.drop n)
  | _,_,0,r=>r
  | _,_,_ + 1,.nil=>.nil
  | _,_,n + 1,.cons _ r=>RepL.drop n r
theorem RepL.rep {F:Hp} {vs:List V} {ds:List D} (r:RepL F vs ds):∀ n:Nat,RepL F (List.replicate n vs).flatten (List.replicate n ds).flatten
  | 0=>.nil
  | n + 1=>by
    rw [List.replicate_succ,List.replicate_succ,List.flatten_cons,List.flatten_cons]
    exact r.append (RepL.rep r n)

structure O where
  fp:Addr -> List Addr
  rep:Hp -> Hp -> Addr -> Prop
  self:∀ a,a ∈ fp a
  solid:∀ {F H:Hp} {a b:Addr} {φ:Heap -> Prop},rep F H a -> b ∈ fp a -> H b ≠ some (.ext φ)
  nt:∀ {F H:Hp} {a b:Addr} {vs:List V},rep F H a -> b ∈ fp a -> H b ≠ some (.tup vs)
  mono:∀ {F F' H H':Hp} {a:Addr},Same F F' -> (∀ b ∈ fp a,H' b = H b) -> rep F H a -> rep F' H' a
inductive B where
  | sh (d:D)
  | own (xs:List D)
  | obj (o:O)
noncomputable abbrev Sd:=List (Option B)
structure Dyn where
  H0:Hp
  F0:Hp
  io:List (Nat × Addr)
  /-- the addresses of things that were handed in to be changed -/
  ob:List Addr
noncomputable def Dyn.ioL (Y:Dyn):List Addr:=Y.io.map (·.2)
noncomputable def Dyn.ioA (Y:Dyn):List Addr:=Y.io.map (·.2) ++ Y.ob
theorem Dyn.ioL_sub {Y:Dyn} {a:Addr} (h:a ∉ Y.ioA):a ∉ Y.ioL:=fun z=>h (List.mem_append_left _ z)
noncomputable def Owned (σd:Sd) (σ:St) (b:Addr):Prop:=∃ (i:Nat) (o:O) (a:Addr),σd[i]? = some (some (.obj o)) /\ σ[i]? = some (some (.ref a)) /\ b ∈ o.fp a
noncomputable def TabsIn (F:Hp):Prop:=∀ q ∈ KF.tabs,F q.1 = some (.lam q.2.1 q.2.2.1 q.2.2.2)
theorem TabsIn.mono {F F':Hp} (h:TabsIn F) (s:Same F F'):TabsIn F':=fun q hq=>s _ _ (h q hq)
noncomputable def SameT (F H:Hp):Prop:=Same F H /\ TabsIn F
structure Obs (Y:Dyn) (F:Hp) (σd:Sd) (σ:St) (H:Hp):Prop where
  obj:∀ (i:Nat) (o:O),σd[i]? = some (some (.obj o)) -> ∃ a,σ[i]? = some (some (.ref a)) /\ o.rep F H a /\ ∀ b ∈ o.fp a,F b = none /\ H b ≠ none /\ (Y.H0 b = none \/ b ∈ Y.ob)
  dso:∀ (i j:Nat) (o p:O) (a b:Addr),σd[i]? = some (some (.obj o)) -> σd[j]? = some (some (.obj p)) -> σ[i]? = some (some (.ref a)) -> σ[j]? = some (some (.ref b)) -> i ≠ j -> ∀ c ∈ o.fp a,c ∉ p.fp b
  dsx:∀ (j:Nat) (xs:List D) (b:Addr),σd[j]? = some (some (.own xs)) -> σ[j]? = some (some (.ref b)) -> ¬ Owned σd σ b
  there:∀ b ∈ Y.ob,H b ≠ none
  thz:∀ b ∈ Y.ob,Y.H0 b ≠ none
  tab:TabsIn F
theorem Obs.owned {Y:Dyn} {F:Hp} {σd:Sd} {σ:St} {H:Hp} (X:Obs Y F σd σ H) {b:Addr} (h:Owned σd σ b):F b = none /\ H b ≠ none /\ (Y.H0 b = none \/ b ∈ Y.ob):=by
  obtain ⟨i,o,a,e1,e2,hb⟩:=h
  obtain ⟨a',e3,_,h3⟩:=X.obj i o e1
  rw [e2] at e3;cases e3
  exact h3 b hb
theorem Obs.notup {Y:Dyn} {F:Hp} {σd:Sd} {σ:St} {H:Hp} (X:Obs Y F σd σ H) {b:Addr} (h:Owned σd σ b) {vs:List V}:H b ≠ some (.tup vs):=by
  obtain ⟨i,o,a,e1,e2,hb⟩:=h
  obtain ⟨a',e3,h2,_⟩:=X.obj i o e1
  rw [e2] at e3;cases e3
  exact o.nt h2 hb
theorem Obs.step {Y Y':Dyn} {F F':Hp} {σd σd':Sd} {σ σ':St} {H H':Hp} (X:Obs Y F σd σ H) (hs:Same F F')
    (hσ:∀ (i:Nat) (o:O),σd'[i]? = some (some (.obj o)) -> σd[i]? = some (some (.obj o)) /\ σ'[i]? = σ[i]?)
    (hb:∀ b,Owned σd σ b -> H' b = H b /\ F' b = none /\ (Y'.H0 b = none \/ b ∈ Y'.ob))
    (hown:∀ (j:Nat) (ys:List D) (b:Addr),σd'[j]? = some (some (.own ys)) -> σ'[j]? = some (some (.ref b)) -> ¬ Owned σd σ b)
    (hth:∀ b ∈ Y'.ob,H' b ≠ none) (hz:∀ b ∈ Y'.ob,b ∈ Y.ob /\ (Y.H0 b ≠ none -> Y'.H0 b ≠ none):=by exact fun b hb=>⟨hb,id⟩):Obs Y' F' σd' σ' H' where
  obj:=fun i o e=>by
    obtain ⟨e1,e2⟩:=hσ i o e
    obtain ⟨a,h1,h2,h3⟩:=X.obj i o e1
    have ow:∀ b ∈ o.fp a,Owned σd σ b:=fun b z=>⟨i,o,a,e1,h1,z⟩
    refine ⟨a,by rw [e2];exact h1,o.mono hs (fun b z=>(hb b (ow b z)).1) h2,fun b z=>⟨(hb b (ow b z)).2.1,?_,(hb b (ow b z)).2.2⟩⟩
    rw [(hb b (ow b z)).1];exact (h3 b z).2.1
  dso:=fun i j o p a b e1 e2 e3 e4=>by
    obtain ⟨q1,q2⟩:=hσ i o e1
    obtain ⟨q3,q4⟩:=hσ j p e2
    rw [q2] at e3;rw [q4] at e4
    exact X.dso i j o p a b q1 q3 e3 e4
  dsx:=fun j xs b e1 e2 ⟨i,o,a,e3,e4,hm⟩=>by
    obtain ⟨q1,q2⟩:=hσ i o e3
    rw [q2] at e4
    exact hown j xs b e1 e2 ⟨i,o,a,q1,e4,hm⟩
  there:=hth
  thz:=fun b hb=>(hz b hb).2 (X.thz b (hz b hb).1)
  tab:=X.tab.mono hs
theorem Obs.put {Y:Dyn} {F:Hp} {σd:Sd} {σ σ':St} {H:Hp} {i:Nat} {b':Option B} (X:Obs Y F σd σ H) (h1:∀ j,j ≠ i -> σ'[j]? = σ[j]?) (hn:∀ o,b' ≠ some (.obj o))
    (hw:∀ ys a,b' = some (.own ys) -> σ'[i]? = some (some (.ref a)) -> ¬ Owned σd σ a):Obs Y F (σd.set i b') σ' H:=by
  have gs:∀ {j:Nat} {y:Option B},(σd.set i b')[j]? = some y -> (j = i /\ y = b') \/ (j ≠ i /\ σd[j]? = some y):=fun {j y} h=>by
    by_cases hj:j = i
    · subst hj
      by_cases hl:j < σd.length
      · rw [List.getElem?_set_self hl] at h;exact .inl ⟨rfl,(Option.some.inj h).symm⟩
      · have:(σd.set j b')[j]? = none:=by rw [List.getElem?_eq_none_iff];simp;omega
        rw [this] at h;cases h
    · rw [List.getElem?_set_ne (Ne.symm hj)] at h;exact .inr ⟨hj,h⟩
  refine X.step (Same.refl _) (fun j o e=>?_) (fun b hb=>⟨rfl,(X.owned hb).1,(X.owned hb).2.2⟩) (fun j ys b e1 e2=>?_) X.there
  · rcases gs e with ⟨_,z⟩ | ⟨hj,z⟩
    · exact absurd z.symm (hn o)
    · exact ⟨z,h1 j hj⟩
  · rcases gs e1 with ⟨rfl,z⟩ | ⟨hj,z⟩
    · exact hw ys b z.symm e2
    · rw [h1 j hj] at e2;exact X.dsx j ys b z e2
theorem Obs.none {Y:Dyn} {F:Hp} {σd:Sd} {σ:St} {H:Hp} (h:∀ (i:Nat) (o:O),σd[i]? ≠ some (some (.obj o))) (htab:TabsIn F) (hth:∀ b ∈ Y.ob,H b ≠ none) (hz:∀ b ∈ Y.ob,Y.H0 b ≠ none:=by intro b hb;cases hb):Obs Y F σd σ H where
  thz:=hz
  tab:=htab
  obj:=fun i o e=>absurd e (h i o)
  dso:=fun i _ o _ _ _ e=>absurd e (h i o)
  dsx:=fun _ _ _ _ _ ⟨i,o,_,e,_⟩=>h i o e
  there:=hth
noncomputable def Nw (H:Hp) (b:Addr) (o:HO):Prop:=H b = none \/ ∃ vs,o = .tup vs
structure RS (Y:Dyn) (F:Hp) (σd:Sd) (σ:St) (H:Hp):Prop where
  len:σd.length = σ.length
  lo:Same Y.F0 F
  fr:Same F H
  fro:∀ b o,F b = some o -> Y.F0 b = some o \/ Nw Y.H0 b o
  old:∀ b o,Y.H0 b = some o -> b ∉ Y.ioA -> H b = some o
  sh:∀ (i:Nat) (d:D),σd[i]? = some (some (.sh d)) -> ∃ v,σ[i]? = some (some v) /\ Rep F v d
  own:∀ (i:Nat) (xs:List D),σd[i]? = some (some (.own xs)) -> ∃ a vs,σ[i]? = some (some (.ref a)) /\ H a = some (.lst vs) /\ RepL F vs xs /\ F a = none /\ (Y.H0 a = none \/ a ∈ Y.ioL)
  dis:∀ (i j:Nat) (xs ys:List D) (a:Addr),σd[i]? = some (some (.own xs)) -> σd[j]? = some (some (.own ys)) -> σ[i]? = some (some (.ref a)) -> σ[j]? = some (some (.ref a)) -> i = j
  io:∀ p ∈ Y.io,σ[p.1]? = some (some (.ref p.2)) /\ ∃ xs,σd[p.1]? = some (some (.own xs))
  ob:Obs Y F σd σ H

theorem same_alloc {H:Hp} {p:Addr} {o:HO} (h:H p = none):Same H (upd H p o):=fun b u e=>by
  rw [upd_ne (ne_of_none e h)];exact e
theorem same_upd {F H:Hp} {p:Addr} {o:HO} (s:Same F H):Same (upd F p o) (upd H p o):=fun b u e=>by
  by_cases hb:b = p
  · subst hb;rw [upd_same] at e ⊢;exact e
  · rw [upd_ne hb] at e ⊢;exact s b u e
theorem same_none {F H:Hp} (s:Same F H) {p:Addr} (h:H p = none):F p = none:=s.free h

theorem RS.fresh0 {Y:Dyn} {F:Hp} {σd:Sd} {σ:St} {H:Hp} {p:Addr} (R:RS Y F σd σ H) (h:H p = none):Y.H0 p = none /\ p ∉ Y.ioA:=by
  have hio:p ∉ Y.ioA:=fun hm=>by
    rcases List.mem_append.mp hm with hm | hm
    case inr=>exact R.ob.there p hm h
    obtain ⟨q,hq,e⟩:=List.mem_map.mp hm
    obtain ⟨h1,xs,h2⟩:=R.io q hq
    obtain ⟨a,vs,h3,h4,_⟩:=R.own _ _ h2
    rw [h1] at h3;cases h3
    rw [e,h] at h4;cases h4
  refine ⟨?_,hio⟩
  cases e:Y.H0 p with
  | none=>rfl
  | some o=>rw [R.old p o e hio] at h;cases h

theorem RS.alloc {Y:Dyn} {F:Hp} {σd:Sd} {σ:St} {H:Hp} {p:Addr} {o:HO} (R:RS Y F σd σ H) (h:H p = none):RS Y (upd F p o) σd σ (upd H p o) where
  len:=R.len
  lo:=R.lo.trans (same_alloc (same_none R.fr h))
  fr:=same_upd R.fr
  fro:=fun b u e=>by
    by_cases hb:b = p
    · subst hb;exact .inr (.inl (R.fresh0 h).1)
    · rw [upd_ne hb] at e;exact R.fro b u e
  old:=fun b u e n=>by
    have:=R.old b u e n
    rw [upd_ne (ne_of_none this h)];exact this
  sh:=fun i d e=>by
    obtain ⟨v,h1,h2⟩:=R.sh i d e
    exact ⟨v,h1,h2.mono (same_alloc (same_none R.fr h))⟩
  own:=fun i xs e=>by
    obtain ⟨a,vs,h1,h2,h3,h4,h5⟩:=R.own i xs e
    have hne:=ne_of_none h2 h
    exact ⟨a,vs,h1,by rw [upd_ne hne];exact h2,h3.mono (same_alloc (same_none R.fr h)),by rw [upd_ne hne];exact h4,h5⟩
  dis:=R.dis
  io:=R.io
  ob:=R.ob.step (same_alloc (same_none R.fr h)) (fun i o e=>⟨e,rfl⟩) (fun b hb=>by
    obtain ⟨w1,w2,w3⟩:=R.ob.owned hb
    have hne:b ≠ p:=fun z=>w2 (z ▸ h)
    exact ⟨upd_ne hne,by rw [upd_ne hne];exact w1,w3⟩) (fun j ys b e1 e2=>R.ob.dsx j ys b e1 e2) fun b hb=>by
    have hne:b ≠ p:=fun z=>R.ob.there b hb (z ▸ h)
    rw [upd_ne hne];exact R.ob.there b hb
theorem RS.alloc0 {Y:Dyn} {F:Hp} {σd:Sd} {σ:St} {H:Hp} {p:Addr} {o:HO} (R:RS Y F σd σ H) (h:H p = none):RS Y F σd σ (upd H p o) where
  len:=R.len
  lo:=R.lo
  fr:=R.fr.trans (same_alloc h)
  fro:=R.fro
  old:=fun b u e n=>same_alloc h b u (R.old b u e n)
  sh:=R.sh
  own:=fun i xs e=>by
    obtain ⟨a,vs,h1,h2,h3,h4,h5⟩:=R.own i xs e
    exact ⟨a,vs,h1,same_alloc h a _ h2,h3,h4,h5⟩
  dis:=R.dis
  io:=R.io
  ob:=R.ob.step (Same.refl _) (fun i o e=>⟨e,rfl⟩) (fun b hb=>by
    obtain ⟨w1,w2,w3⟩:=R.ob.owned hb
    have hne:b ≠ p:=fun z=>w2 (z ▸ h)
    exact ⟨upd_ne hne,w1,w3⟩) (fun j ys b e1 e2=>R.ob.dsx j ys b e1 e2) fun b hb=>by
    have hne:b ≠ p:=fun z=>R.ob.there b hb (z ▸ h)
    rw [upd_ne hne];exact R.ob.there b hb
inductive EV where
  | val (d:D) | var (i:Nat) | own (xs:List D) | obj (o:O) | any
inductive OV where
  | val (d:D) | var (i:Nat) | any
noncomputable abbrev TX:=Sd -> (EV -> Sd -> Prop) -> Prop
noncomputable abbrev TV:=Sd -> (OV -> Sd -> Prop) -> Prop
noncomputable abbrev TD:=Sd -> (D -> Sd -> Prop) -> Prop
noncomputable abbrev TB:=Sd -> (Bool -> Sd -> Prop) -> Prop
noncomputable abbrev TDs:=Sd -> (List D -> Sd -> Prop) -> Prop

structure NoOwn (σd:Sd) (σ:St) (a:Addr):Prop where
  own:∀ (j:Nat) (ys:List D),σd[j]? = some (some (.own ys)) -> σ[j]? ≠ some (some (.ref a))
  nob:¬ Owned σd σ a
instance {σd:Sd} {σ:St} {a:Addr}:CoeFun (NoOwn σd σ a) fun _=>∀ (j:Nat) (ys:List D),σd[j]? = some (some (.own ys)) -> σ[j]? ≠ some (some (.ref a)):=⟨NoOwn.own⟩
theorem RS.noFresh {Y:Dyn} {F:Hp} {σd:Sd} {σ:St} {H:Hp} (R:RS Y F σd σ H) {a:Addr} (h:H a = none):NoOwn σd σ a:=by
  refine ⟨fun j ys e z=>?_,fun z=>(R.ob.owned z).2.1 h⟩
  obtain ⟨b,us,e1,e2,_⟩:=R.own j ys e
  rw [e1] at z;cases z
  rw [h] at e2;cases e2
noncomputable def RepO (F:Hp) (σ:St) (v:V):OV -> Prop
  | .val d=>Rep F v d
  | .var i=>σ[i]? = some (some v)
  | .any=>True
noncomputable def RepX (Y:Dyn) (F H:Hp) (σd:Sd) (σ:St) (v:V):EV -> Prop
  | .val d=>Rep F v d
  | .var i=>σ[i]? = some (some v)
  | .own xs=>∃ a vs,v = .ref a /\ H a = some (.lst vs) /\ RepL F vs xs /\ F a = none /\ Y.H0 a = none /\ NoOwn σd σ a
  | .obj o=>∃ a,v = .ref a /\ o.rep F H a /\ ∀ b ∈ o.fp a,F b = none /\ H b ≠ none /\ Y.H0 b = none /\ NoOwn σd σ b
  | .any=>True

noncomputable def lX (Y:Dyn) (t:TX):TE:=fun σ H Q=>∃ F σd Qd,RS Y F σd σ H /\ t σd Qd /\ ∀ v H' F' x σd',Same F F' -> RS Y F' σd' σ H' -> RepX Y F' H' σd' σ v x -> Qd x σd' -> Q v H'
noncomputable def lO (Y:Dyn) (t:TV):TE:=fun σ H Q=>∃ F σd Qd,RS Y F σd σ H /\ t σd Qd /\ ∀ v H' F' x σd',Same F F' -> RS Y F' σd' σ H' -> RepO F' σ v x -> Qd x σd' -> Q v H'
noncomputable def lD (Y:Dyn) (t:TD):TE:=fun σ H Q=>∃ F σd Qd,RS Y F σd σ H /\ t σd Qd /\ ∀ v H' F' x σd',Same F F' -> RS Y F' σd' σ H' -> Rep F' v x -> Qd x σd' -> Q v H'
noncomputable def lB (Y:Dyn) (t:TB):TT:=fun σ H Q=>∃ F σd Qd,RS Y F σd σ H /\ t σd Qd /\ ∀ b H' F' σd',Same F F' -> RS Y F' σd' σ H' -> Qd b σd' -> Q b H'
noncomputable def lDs (Y:Dyn) (t:TDs):TA:=fun σ H Q=>∃ F σd Qd,RS Y F σd σ H /\ t σd Qd /\ ∀ vs H' F' xs σd',Same F F' -> RS Y F' σd' σ H' -> RepL F' vs xs -> Qd xs σd' -> Q vs H'

structure GE where
  P:Program
  w:World
  K:PySem.W.Frag
  mg:Str -> Option Value
  base:Heap
structure Stat where
  N:List Str
  sc:List (Str × NameKind)
  ios:List Nat:=[]
  blk:Bool:=false
  /-- within an except suite -/
  hot:Bool:=false
  /-- a raise may stand here -/
  rs:Bool:=false
  /-- what is wanted where an exception of a class leaves -/
  ex:Str -> Sd -> Prop:=fun _ _=>False
noncomputable def flyO (a T:Addr) (c:Str):HO:=.ext fun h=>∃ o vs a0,h.get? a = some o /\ o.cls = .ref (KF.cls c) /\ o.data = .fields vs /\ vs[0]? = some a0 /\ vs[1]? = some (.ref T)
noncomputable def tbO (T:Addr):HO:=.ext fun h=>∃ o ts,h.get? T = some o /\ o.data = .fields ts /\ ts[3]? = some .none
structure Flies (X:Cx) (Y:Dyn) (F H:Hp) (a T:Addr) (c:Str):Prop where
  fa:F a = none
  fT:F T = none
  ha:H a = some (flyO a T c)
  hT:H T = some (tbO T)
  ne:a ≠ T
  na:Y.H0 a = none
  nT:Y.H0 T = none
  la:X.s₀.heap.get? a = none
  lT:X.s₀.heap.get? T = none
noncomputable def newO (a:Addr) (c:Str):HO:=.ext fun h=>∃ o vs a0,h.get? a = some o /\ o.cls = .ref (KF.cls c) /\ o.data = .fields vs /\ vs[0]? = some a0 /\ vs[1]? = some .none
structure XOk (X:Cx) (G:GE) (k:Nat) (S:Stat) (Y:Dyn):Prop where
  P:X.prog = G.P
  w:X.w = G.w
  K:X.K = G.K
  kf:X.K = KF.K
  mg:X.mg = G.mg
  base:X.base = G.base
  N:X.N = S.N
  sc:X.env.scope.names = S.sc
  nd:S.N.Nodup
  ios:∀ p ∈ Y.io,p.1 ∈ S.ios
  obs:S.blk = false -> S.ios = [] -> Y.ob = []
  calm:S.hot = false -> X.calm = true
  kind:X.env.scope.kind = .function
  fn:S.blk = false -> ∀ x,S.sc.lookup x = some .cell -> X.fn x = true
  hd:S.hot = false -> X.A.handled = none
  dp:X.A.depth + 3 * k + 5 < recursionLimit
  un:X.A.units + 16 * k + 200 < cLine
  po:S.hot = false -> PassesOwn (model X.prog X.w) X.A X.env X.xe
  nx:S.blk = false -> X.ex = [] /\ X.stack = X.env :: X.outer /\ X.env.frame = some X.env.locals
  exc:∀ c σd,S.ex c σd -> ∀ pins σ H F s a T,L2.Inv X pins σ H s -> RS Y F σd σ H -> Flies X Y F H a T c -> X.xe (.ref a) s
  made:S.rs = true -> ∀ c σd,S.ex c σd -> ∀ pins σ H F s a,L2.Inv X pins σ H s -> RS Y F σd σ H -> H a = some (newO a c) -> Y.H0 a = none -> X.s₀.heap.get? a = none -> X.xe (.ref a) s
theorem XOk.room {X:Cx} {G:GE} {k:Nat} {S:Stat} {Y:Dyn} (ok:XOk X G k S Y) (h:S.hot = false):Room k X.A:=⟨ok.hd h,ok.dp,ok.un⟩
theorem XOk.units {X:Cx} {G:GE} {k:Nat} {S:Stat} {Y:Dyn} (ok:XOk X G k S Y):X.A.units + 64 < cLine:=by have:=ok.un;omega

variable {G:GE} {k:Nat} {S:Stat}
structure EX (G:GE) (k:Nat) (S:Stat) (e:Expr) (t:TX) :Prop where
  run:∀ X Y,XOk X G k S Y -> PE X e (lX Y t)
instance {G:GE} {k:Nat} {S:Stat} {e:Expr} {t:TX} :CoeFun (EX G k S e t) fun _=>∀ X Y,XOk X G k S Y -> PE X e (lX Y t):=⟨EX.run⟩
structure EO (G:GE) (k:Nat) (S:Stat) (e:Expr) (t:TV) :Prop where
  run:∀ X Y,XOk X G k S Y -> PE X e (lO Y t)
instance {G:GE} {k:Nat} {S:Stat} {e:Expr} {t:TV} :CoeFun (EO G k S e t) fun _=>∀ X Y,XOk X G k S Y -> PE X e (lO Y t):=⟨EO.run⟩
structure ED (G:GE) (k:Nat) (S:Stat) (e:Expr) (t:TD) :Prop where
  run:∀ X Y,XOk X G k S Y -> PE X e (lD Y t)
instance {G:GE} {k:Nat} {S:Stat} {e:Expr} {t:TD} :CoeFun (ED G k S e t) fun _=>∀ X Y,XOk X G k S Y -> PE X e (lD Y t):=⟨ED.run⟩
structure EB (G:GE) (k:Nat) (S:Stat) (e:Expr) (t:TB) :Prop where
  run:∀ X Y,XOk X G k S Y -> PT X e (lB Y t)
instance {G:GE} {k:Nat} {S:Stat} {e:Expr} {t:TB} :CoeFun (EB G k S e t) fun _=>∀ X Y,XOk X G k S Y -> PT X e (lB Y t):=⟨EB.run⟩
structure EDs (G:GE) (k:Nat) (S:Stat) (es:List Expr) (t:TDs) :Prop where
  run:∀ X Y,XOk X G k S Y -> PA X es (lDs Y t)
instance {G:GE} {k:Nat} {S:Stat} {es:List Expr} {t:TDs} :CoeFun (EDs G k S es t) fun _=>∀ X Y,XOk X G k S Y -> PA X es (lDs Y t):=⟨EDs.run⟩

noncomputable def plainE:Expr -> Bool
  | .Starred _ _=>false
  | _=>true
theorem se_cons {e:Expr} {es:List Expr} {env:Env} (h:plainE e = true):starEach (e :: es) env = (false,eval e env) :: starEach es env:=by
  cases e<;>first | rfl | cases h
theorem pe_imp {X:Cx} {e:Expr} {t t':TE} (h:PE X e t) (i:∀ σ H Q,t' σ H Q -> t σ H Q):PE X e t':=fun pins s σ H Q I q=>h pins s σ H Q I (i σ H Q q)
theorem pt_imp {X:Cx} {e:Expr} {t t':TT} (h:PT X e t) (i:∀ σ H Q,t' σ H Q -> t σ H Q):PT X e t':=fun pins s σ H Q I q=>h pins s σ H Q I (i σ H Q q)
theorem pa_imp {X:Cx} {e:List Expr} {t t':TA} (h:PA X e t) (i:∀ σ H Q,t' σ H Q -> t σ H Q):PA X e t':=fun pos pins s σ H Q I q=>h pos pins s σ H Q I (i σ H Q q)
theorem ps_imp {X:Cx} {e:Stmt} {t t':TS} (h:PS X e t) (i:∀ D σ H,t' D σ H -> t D σ H):PS X e t':=fun pins s σ H D I q=>h pins s σ H D I (i D σ H q)
theorem pss_imp {X:Cx} {e:List Stmt} {t t':TS} (h:PSs X e t) (i:∀ D σ H,t' D σ H -> t D σ H):PSs X e t':=fun pins s σ H D I q=>h pins s σ H D I (i D σ H q)

theorem RS.freezeNew {Y:Dyn} {F:Hp} {σd:Sd} {σ:St} {H:Hp} {a:Addr} {vs:List V} (R:RS Y F σd σ H) (h1:H a = some (.lst vs)) (h2:F a = none) (h3:NoOwn σd σ a) (h4:Y.H0 a = none):RS Y (upd F a (.lst vs)) σd σ H where
  len:=R.len
  lo:=R.lo.trans (same_alloc h2)
  fr:=fun b o e=>by
    by_cases hb:b = a
    · subst hb;rw [upd_same] at e;cases e;exact h1
    · rw [upd_ne hb] at e;exact R.fr b o e
  fro:=fun b u e=>by
    by_cases hb:b = a
    · subst hb;exact .inr (.inl h4)
    · rw [upd_ne hb] at e;exact R.fro b u e
  old:=R.old
  sh:=fun i d e=>by
    obtain ⟨v,q1,q2⟩:=R.sh i d e
    exact ⟨v,q1,q2.mono (same_alloc h2)⟩
  own:=fun i xs e=>by
    obtain ⟨b,us,q1,q2,q3,q4,q5⟩:=R.own i xs e
    have hne:b ≠ a:=fun z=>h3 i xs e (by rw [q1,z])
    exact ⟨b,us,q1,q2,q3.mono (same_alloc h2),by rw [upd_ne hne];exact q4,q5⟩
  dis:=R.dis
  io:=R.io
  ob:=R.ob.step (same_alloc h2) (fun i o e=>⟨e,rfl⟩) (fun b hb=>by
    obtain ⟨w1,w2,w3⟩:=R.ob.owned hb
    have hne:b ≠ a:=fun z=>h3.nob (z ▸ hb)
    exact ⟨rfl,by rw [upd_ne hne];exact w1,w3⟩) (fun j ys b e1 e2=>R.ob.dsx j ys b e1 e2) R.ob.there

noncomputable def fzV:EV -> OV
  | .val d=>.val d
  | .var i=>.var i
  | .own xs=>.val (.lst xs)
  | .obj _=>.any
  | .any=>.any
noncomputable def tFz (t:TX):TV:=fun σ Q=>t σ fun x σ1=>Q (fzV x) σ1
theorem r_o {e:Expr} {t:TX} (h:EX G k S e t):EO G k S e (tFz t):=.mk fun X Y ok=>pe_imp (h X Y ok) fun σ H Q q=>by
  obtain ⟨F,σd,Qd,R,q,K⟩:=q
  refine ⟨F,σd,_,R,q,fun v H' F' x σd' s R' r q'=>?_⟩
  cases x with
  | val d=>exact K v H' F' (.val d) σd' s R' r q'
  | var i=>exact K v H' F' (.var i) σd' s R' r q'
  | own xs =>
    obtain ⟨a,vs,rfl,h1,h2,h3,h4,h5⟩:=r
    exact K _ H' _ (.val (.lst xs)) σd' (s.trans (same_alloc h3)) (R'.freezeNew h1 h3 h5 h4) (.lst (.inl upd_same) (h2.mono (same_alloc h3))) q'
  | obj o=>exact K v H' F' .any σd' s R' trivial q'
  | any=>exact K v H' F' .any σd' s R' trivial q'
noncomputable def oxV:OV -> EV
  | .val d=>.val d
  | .var i=>.var i
  | .any=>.any
noncomputable def oX (t:TV):TX:=fun σ Q=>t σ fun x σ1=>Q (oxV x) σ1
theorem r_x {e:Expr} {t:TV} (h:EO G k S e t):EX G k S e (oX t):=.mk fun X Y ok=>pe_imp (h X Y ok) fun σ H Q q=>by
  obtain ⟨F,σd,Qd,R,q,K⟩:=q
  refine ⟨F,σd,_,R,q,fun v H' F' x σd' s R' r q'=>?_⟩
  cases x with
  | val d=>exact K v H' F' (.val d) σd' s R' r q'
  | var i=>exact K v H' F' (.var i) σd' s R' r q'
  | any=>exact K v H' F' .any σd' s R' trivial q'

theorem set_get_self {α:Type} {l:List (Option α)} {i:Nat} {x:α} {y:Option α} (h:l[i]? = some (some x)):(l.set i y)[i]? = some y:=by
  have:=(List.getElem?_eq_some_iff.mp h).1
  rw [List.getElem?_set_self this]
theorem set_get_ne {α:Type} {l:List (Option α)} {i j:Nat} {y:Option α} (h:j ≠ i):(l.set i y)[j]? = l[j]?:=by
  rw [List.getElem?_set_ne (Ne.symm h)]

theorem RS.freezeVar {Y:Dyn} {F:Hp} {σd:Sd} {σ:St} {H:Hp} {i:Nat} {xs:List D} (R:RS Y F σd σ H) (h:σd[i]? = some (some (.own xs))) (hio:∀ p ∈ Y.io,p.1 ≠ i) :
    ∃ F' v,Same F F' /\ RS Y F' (σd.set i (some (.sh (.lst xs)))) σ H /\ σ[i]? = some (some v) /\ Rep F' v (.lst xs):=by
  obtain ⟨a,vs,q1,q2,q3,q4,q5⟩:=R.own i xs h
  have sm:=same_alloc (o:=.lst vs) q4
  have rep:Rep (upd F a (.lst vs)) (.ref a) (.lst xs):=.lst (.inl upd_same) (q3.mono sm)
  have nio:Y.H0 a = none:=by
    rcases q5 with q5 | q5
    · exact q5
    · obtain ⟨p,hp,e⟩:=List.mem_map.mp q5
      obtain ⟨w1,ys,w2⟩:=R.io p hp
      exact absurd (R.dis p.1 i ys xs a w2 h (by rw [w1,e]) q1) (hio p hp)
  have obF:Obs Y (upd F a (.lst vs)) (σd.set i (some (.sh (.lst xs)))) σ H:=R.ob.step sm (fun j o e=>by
    have hj:j ≠ i:=fun z=>by subst z;rw [set_get_self h] at e;cases e
    rw [set_get_ne hj] at e
    exact ⟨e,rfl⟩) (fun b hb=>by
    obtain ⟨w1,w2,w3⟩:=R.ob.owned hb
    have hne:b ≠ a:=fun z=>R.ob.dsx i xs a h q1 (z ▸ hb)
    exact ⟨rfl,by rw [upd_ne hne];exact w1,w3⟩) (fun j ys b e1 e2=>by
    have hj:j ≠ i:=fun z=>by subst z;rw [set_get_self h] at e1;cases e1
    rw [set_get_ne hj] at e1
    exact R.ob.dsx j ys b e1 e2) R.ob.there
  refine ⟨upd F a (.lst vs),.ref a,sm,⟨by simpa using R.len,R.lo.trans sm,fun b o e=>?_,fun b o e=>?_,R.old,fun j d e=>?_,fun j ys e=>?_,fun j l ys zs b e1 e2 e3 e4=>?_,fun p hp=>?_,obF⟩,q1,rep⟩
  · by_cases hb:b = a
    · subst hb;rw [upd_same] at e;cases e;exact q2
    · rw [upd_ne hb] at e;exact R.fr b o e
  · by_cases hb:b = a
    · subst hb;exact .inr (.inl nio)
    · rw [upd_ne hb] at e;exact R.fro b o e
  · by_cases hj:j = i
    · subst hj
      rw [set_get_self h] at e;cases e
      exact ⟨_,q1,rep⟩
    · rw [set_get_ne hj] at e
      obtain ⟨v,w1,w2⟩:=R.sh j d e
      exact ⟨v,w1,w2.mono sm⟩
  · have hj:j ≠ i:=fun z=>by subst z;rw [set_get_self h] at e;cases e
    rw [set_get_ne hj] at e
    obtain ⟨b,us,w1,w2,w3,w4,w5⟩:=R.own j ys e
    have hne:b ≠ a:=fun z=>hj (R.dis j i ys xs a e h (z ▸ w1) q1)
    exact ⟨b,us,w1,w2,w3.mono sm,by rw [upd_ne hne];exact w4,w5⟩
  · have hj:j ≠ i:=fun z=>by subst z;rw [set_get_self h] at e1;cases e1
    have hl:l ≠ i:=fun z=>by subst z;rw [set_get_self h] at e2;cases e2
    rw [set_get_ne hj] at e1;rw [set_get_ne hl] at e2
    exact R.dis j l ys zs b e1 e2 e3 e4
  · obtain ⟨w1,ys,w2⟩:=R.io p hp
    exact ⟨w1,ys,by rw [set_get_ne (hio p hp)];exact w2⟩

noncomputable def valQ (ios:List Nat) (x:OV) (σ1:Sd) (Q:D -> Sd -> Prop):Prop:=match x with
  | .val d=>Q d σ1
  | .any=>False
  | .var i=>match σ1[i]? with
    | some (some (.own xs))=>i ∉ ios /\ Q (.lst xs) (σ1.set i (some (.sh (.lst xs))))
    | some (some (.sh d))=>Q d σ1
    | _=>False
theorem valQ_val {ios:List Nat} {d:D} {σ1:Sd} {Q:D -> Sd -> Prop}:valQ ios (.val d) σ1 Q = Q d σ1:=rfl
theorem valQ_var {ios:List Nat} {i:Nat} {σ1:Sd} {Q:D -> Sd -> Prop}:valQ ios (.var i) σ1 Q = (match σ1[i]? with
    | some (some (.own xs))=>i ∉ ios /\ Q (.lst xs) (σ1.set i (some (.sh (.lst xs))))
    | some (some (.sh d))=>Q d σ1
    | _=>False):=rfl
noncomputable def tVal (ios:List Nat) (t:TV):TD:=fun σ Q=>t σ fun x σ1=>valQ ios x σ1 Q
theorem r_d {e:Expr} {t:TV} (h:EO G k S e t):ED G k S e (tVal S.ios t):=.mk fun X Y ok=>pe_imp (h X Y ok) fun σ H Q q=>by
  obtain ⟨F,σd,Qd,R,q,K⟩:=q
  refine ⟨F,σd,_,R,q,fun v H' F' x σd' s R' r q'=>?_⟩
  cases x with
  | val d=>exact K v H' F' d σd' s R' r q'
  | any=>exact False.elim q'
  | var i =>
    have r:σ[i]? = some (some v):=r
    rw [valQ_var] at q'
    split at q'
    · rename_i xs e
      obtain ⟨hi,q'⟩:=q'
      obtain ⟨F2,v2,s2,R2,e2,r2⟩:=R'.freezeVar e fun p hp z=>hi (z ▸ ok.ios p hp)
      rw [r] at e2;cases e2
      exact K v H' F2 _ _ (s.trans s2) R2 r2 q'
    · rename_i d e
      obtain ⟨v2,e2,r2⟩:=R'.sh i d e
      rw [r] at e2;cases e2
      exact K v H' F' d σd' s R' r2 q'
    · exact q'.elim

noncomputable def tVarD (i:Nat):TV:=fun σ Q=>match σ[i]? with
  | some (some (.sh d))=>Q (.val d) σ
  | some (some (.own _))=>Q (.var i) σ
  | _=>False
theorem r_var (i:Nat) {x:Str} {pos:Pos} (hN:S.N[i]? = some x:=by rfl) (hv:S.sc.lookup x = some .local \/ S.sc.lookup x = some .cell \/ S.sc.lookup x = some .free:=by first | exact Or.inl rfl | exact Or.inr (Or.inl rfl) | exact Or.inr (Or.inr rfl))
    (hd:(x == ("__debug__":Str)) = false:=by decide) (hcd:(x == ("__classdict__":Str)) = false:=by decide):EO G k S (.Name x pos) (tVarD i):=.mk fun X Y ok =>
  pe_imp (pe_var (X:=X) (i:=i) (by rw [ok.N];exact hN) (by unfold Vis;rw [ok.sc];exact hv) hd hcd) fun σ H Q q=>by
    obtain ⟨F,σd,Qd,R,q,K⟩:=q
    unfold tVarD at q
    split at q
    · rename_i d e
      obtain ⟨v,e2,r2⟩:=R.sh i d e
      exact ⟨v,e2,K v H F (.val d) σd (Same.refl _) R r2 q⟩
    · rename_i xs e
      obtain ⟨a,vs,e2,_⟩:=R.own i xs e
      exact ⟨_,e2,K _ H F (.var i) σd (Same.refl _) R e2 q⟩
    · exact q.elim
noncomputable def tCD (d:D):TV:=fun σ Q=>Q (.val d) σ
theorem lO_con {Y:Dyn} {v:V} {d:D} (r:∀ F,Rep F v d) (σ:St) (H:Hp) (Q:VK) (q:lO Y (tCD d) σ H Q):tC v σ H Q:=by
  obtain ⟨F,σd,Qd,R,q,K⟩:=q
  exact K v H F (.val d) σd (Same.refl _) R (r F) q
theorem r_int {i j pos}:EO G k S (.Constant (.int i) j pos) (tCD (.int i)):=.mk fun _ _ _=>pe_imp pe_int (lO_con fun _=>.int i)
theorem r_bl {b j pos}:EO G k S (.Constant (.bool b) j pos) (tCD (.bl b)):=.mk fun _ _ _=>pe_imp pe_bl (lO_con fun _=>.bl b)
theorem r_non {j pos}:EO G k S (.Constant .none j pos) (tCD .non):=.mk fun _ _ _=>pe_imp pe_non (lO_con fun _=>.non)
theorem r_str {x j pos}:EO G k S (.Constant (.str x) j pos) (tCD (.str x)):=.mk fun _ _ _=>pe_imp pe_str (lO_con fun _=>.str x)
noncomputable def ConG (G:GE) (x:Str) (d:D):Prop:=∃ u v,G.mg x = some u /\ RelV v u /\ ∀ F,Rep F v d
theorem gl_of {X:Cx} {Y:Dyn} (ok:XOk X G k S Y) {x:Str} (h:S.sc.lookup x = some .globalImplicit):Gl X x:=by
  unfold Gl
  show X.env.scope.names.lookup x = _
  rw [ok.sc];exact h
theorem r_con {x:Str} {d:D} {pos:Pos} (h:ConG G x d) (hg:S.sc.lookup x = some .globalImplicit:=by rfl) (hd:(x == ("__debug__":Str)) = false:=by decide):EO G k S (.Name x pos) (tCD d):=.mk fun X Y ok=>by
  obtain ⟨u,v,h1,h2,h3⟩:=h
  exact pe_imp (pe_glob (gl_of ok hg) (by rw [ok.mg];exact h1) h2 hd) (lO_con h3)

noncomputable def RepH (F H:Hp) (v:V) (d:D):Prop:=match d with
  | .lst xs=>∃ a vs,v = .ref a /\ Rd H a (.lst vs) /\ RepL F vs xs
  | d=>Rep F v d
noncomputable def drf (σ:Sd):OV -> Option D
  | .val d=>some d
  | .any=>none
  | .var i=>match σ[i]? with
    | some (some (.sh d))=>some d
    | some (some (.own xs))=>some (.lst xs)
    | _=>none
theorem Rep.h {F H:Hp} (s:Same F H) {v:V} {d:D} (r:Rep F v d):RepH F H v d:=by
  cases d with
  | lst xs =>
    cases r with
    | lst h r=>exact ⟨_,_,rfl,Rd.mono s h,r⟩
  | _=>exact r
theorem RS.drf {Y:Dyn} {F:Hp} {σd:Sd} {σ:St} {H:Hp} (R:RS Y F σd σ H) {v:V} {x:OV} {d:D} (r:RepO F σ v x) (e:drf σd x = some d):RepH F H v d:=by
  cases x with
  | val d'=>cases e;exact Rep.h R.fr r
  | any=>cases e
  | var i =>
    have r:σ[i]? = some (some v):=r
    have e:(match σd[i]? with | some (some (.sh d))=>some d | some (some (.own xs))=>some (.lst xs) | _=>none) = some d:=e
    split at e
    · rename_i d' q
      cases e
      obtain ⟨v2,e2,r2⟩:=R.sh i d q
      rw [r] at e2;cases e2
      exact Rep.h R.fr r2
    · rename_i xs q
      cases e
      obtain ⟨a,vs,e2,h2,h3,_⟩:=R.own i xs q
      rw [r] at e2;cases e2
      exact ⟨a,vs,rfl,.inl h2,h3⟩
    · cases e
theorem RepH.int {F H:Hp} {v:V} {i:Int} (r:RepH F H v (.int i)):v = .int i:=by cases (show Rep F v (.int i) from r);rfl
theorem RepH.bl {F H:Hp} {v:V} {i:Bool} (r:RepH F H v (.bl i)):v = .bl i:=by cases (show Rep F v (.bl i) from r);rfl
theorem RepH.str {F H:Hp} {v:V} {i:Str} (r:RepH F H v (.str i)):v = .str i:=by cases (show Rep F v (.str i) from r);rfl
theorem RepH.non {F H:Hp} {v:V} (r:RepH F H v .non):v = .non:=by cases (show Rep F v .non from r);rfl
theorem RepH.tup {F H:Hp} (s:Same F H) {v:V} {xs:List D} (r:RepH F H v (.tup xs)):∃ a vs,v = .ref a /\ H a = some (.tup vs) /\ RepL F vs xs:=by
  cases (show Rep F v (.tup xs) from r) with
  | tup h r=>exact ⟨_,_,rfl,s _ _ h,r⟩
theorem RepH.lst {F H:Hp} {v:V} {xs:List D} (r:RepH F H v (.lst xs)):∃ a vs,v = .ref a /\ Rd H a (.lst vs) /\ RepL F vs xs:=r

noncomputable def Goes (Y:Dyn) (F:Hp) (σd:Sd) (σ:St) (Qd:EV -> Prop) (Q:VK):Prop:=∀ v H' F' r,Same F F' -> RS Y F' σd σ H' -> RepX Y F' H' σd σ v r -> Qd r -> Q v H'
theorem Goes.val {Y:Dyn} {F:Hp} {σd:Sd} {σ:St} {Qd:EV -> Prop} {Q:VK} (g:Goes Y F σd σ Qd Q) {H:Hp} (R:RS Y F σd σ H) {v:V} {d:D} (r:Rep F v d) (q:Qd (.val d)):Q v H:=g v H F (.val d) (Same.refl _) R r q
theorem Goes.own {Y:Dyn} {F:Hp} {σd:Sd} {σ:St} {Qd:EV -> Prop} {Q:VK} (g:Goes Y F σd σ Qd Q) {H:Hp} (R:RS Y F σd σ H) {vs:List V} {xs:List D} (r:RepL F vs xs) (q:Qd (.own xs)):∀ p,H p = none -> Q (.ref p) (upd H p (.lst vs)):=fun p hp=>by
  refine g (.ref p) _ F (.own xs) (Same.refl _) (R.alloc0 hp) ⟨p,vs,rfl,upd_same,r,same_none R.fr hp,(R.fresh0 hp).1,⟨fun j ys e z=>?_,fun z=>(R.ob.owned z).2.1 hp⟩⟩ q
  obtain ⟨a,us,e1,e2,_⟩:=R.own j ys e
  rw [e1] at z;cases z
  rw [hp] at e2;cases e2
theorem Goes.tup {Y:Dyn} {F:Hp} {σd:Sd} {σ:St} {Qd:EV -> Prop} {Q:VK} (g:Goes Y F σd σ Qd Q) {H:Hp} (R:RS Y F σd σ H) {vs:List V} {xs:List D} (r:RepL F vs xs) (q:Qd (.val (.tup xs))):∀ p,H p = none -> Q (.ref p) (upd H p (.tup vs)):=fun p hp=>by
  have sm:=same_alloc (o:=.tup vs) (same_none R.fr hp)
  exact g (.ref p) _ _ (.val (.tup xs)) sm (R.alloc hp) (.tup upd_same (r.mono sm)) q
noncomputable def OpSound (r:R2) (f:D -> D -> (EV -> Prop) -> Prop):Prop :=
  ∀ Y F H σd σ v u x y Qd Q,RS Y F σd σ H -> RepH F H v x -> RepH F H u y -> f x y Qd -> Goes Y F σd σ Qd Q -> r v u H Q
noncomputable def tBin (f:D -> D -> (EV -> Prop) -> Prop) (ta tb:TV):TX:=fun σ Q=>ta σ fun x σ1=>tb σ1 fun y σ2=>match drf σ2 x,drf σ2 y with
  | some a,some b=>f a b fun r=>Q r σ2
  | _,_=>False
theorem RepO.mono {F F':Hp} (s:Same F F') {σ:St} {v:V} {x:OV} (r:RepO F σ v x):RepO F' σ v x:=by
  cases x with
  | val d=>exact Rep.mono s r
  | var i=>exact r
  | any=>trivial
theorem tBin_sound {Y:Dyn} {r:R2} {f:D -> D -> (EV -> Prop) -> Prop} (hs:OpSound r f) {ta tb:TV} {σ:St} {H:Hp} {Q:VK} (q:lX Y (tBin f ta tb) σ H Q):tOp r (lO Y ta) (lO Y tb) σ H Q:=by
  obtain ⟨F,σd,Qd,R,q,K⟩:=q
  refine ⟨F,σd,_,R,q,fun v1 H1 F1 x σ1 s1 R1 r1 q1=>?_⟩
  refine ⟨F1,σ1,_,R1,q1,fun v2 H2 F2 y σ2 s2 R2 r2 q2=>?_⟩
  split at q2
  · rename_i a b ea eb
    exact hs Y F2 H2 σ2 σ v1 v2 a b _ Q R2 (R2.drf (r1.mono s2) ea) (R2.drf r2 eb) q2 fun v H' F' r s R' rr qq=>K v H' F' r σ2 ((s1.trans s2).trans s) R' rr qq
  · exact q2.elim
theorem r_bin {op:Operator} {f:D -> D -> (EV -> Prop) -> Prop} {r:PySem.W.Frag -> R2} (ho:∀ X,OpR X (binaryOp op) (r X.K)) (hs:∀ K,OpSound (r K) f) {a b:Expr} {ta tb:TV} {pos:Pos} (ha:EO G k S a ta) (hb:EO G k S b tb) :
    EX G k S (.BinOp a op b pos) (tBin f ta tb):=.mk fun X Y ok=>pe_imp (pe_op (ho X) (ha X Y ok) (hb X Y ok)) fun σ H Q q=>tBin_sound (hs X.K) q

noncomputable def addD:D -> D -> (EV -> Prop) -> Prop
  | .int i,.int j,Q=>Q (.val (.int (i + j)))
  | .str a,.str b,Q=>a.length + b.length <= sizeLine /\ Q (.val (.str (a ++ b)))
  | .lst a,.lst b,Q=>a.length + b.length <= sizeLine /\ Q (.own (a ++ b))
  | .tup a,.tup b,Q=>(a ≠ [] /\ a.length + b.length <= sizeLine) /\ Q (.val (.tup (a ++ b)))
  | _,_,_=>False
noncomputable def rCatS:R2:=fun x y H Q=>∃ l b xs zs,x = .ref l /\ y = .ref b /\ Rd H l (.lst xs) /\ Rd H b (.lst zs) /\ xs.length + zs.length <= sizeLine /\ ∀ p,H p = none -> Q (.ref p) (upd H p (.lst (xs ++ zs)))
theorem Inv.rdL {X:Cx} {pins:List (Addr × Obj)} {σ:St} {H:Hp} {s:Shared} {l:Addr} {xs:List V} (I:L2.Inv X pins σ H s) (h:Rd H l (.lst xs)) :
    xs.length <= sizeLine /\ ∃ (its:List Value) (n:Nat),Vals xs its /\ xs.length = its.length /\ s.heap.get? l = some { cls:=.type "list",data:=.seq its.toArray n }:=by
  obtain ⟨z,its,n,r,e⟩:=L2.Rd.ok h I.hok
  exact ⟨z,its,n,r,r.length,e⟩
theorem op_catS {X:Cx}:OpR X (binaryOp .Add) rCatS:=by
  intro pins s σ H x y v u Q I rx ry h
  obtain ⟨l,b,xs,zs,rfl,rfl,hH,hB,hz,q⟩:=h
  cases rx
  cases ry
  obtain ⟨z,its,n,r,hl,e⟩:=Inv.rdL I hH
  obtain ⟨z2,its2,n2,r2,hl2,e2⟩:=Inv.rdL I hB
  refine PySem.P.add_list e e2 ?_ (by rw [List.size_toArray,List.size_toArray];omega)
  have ea:its.toArray ++ its2.toArray = (its ++ its2).toArray:=by simp
  rw [ea]
  exact ⟨.ref _,_,I.lnew (t':=s.toks) (r.append r2) (by rw [List.length_append];omega),rfl,q _ I.fresh⟩
noncomputable def rAdd (K:PySem.W.Frag):R2:=fun x y H Q=>(∃ i j,x = .int i /\ y = .int j /\ Q (.int (i + j)) H) \/ (∃ i j,x = .str i /\ y = .str j /\ i.length + j.length <= sizeLine /\ Q (.str (i ++ j)) H) \/ rCatS x y H Q \/ rCatT K x y H Q
theorem op_addAll {X:Cx}:OpR X (binaryOp .Add) (rAdd X.K):=op_add.or (op_add_str.or (op_catS.or op_catT))
theorem add_sound (K:PySem.W.Frag):OpSound (rAdd K) addD:=by
  intro Y F H σd σ v u x y Qd Q R rx ry q g
  unfold addD at q
  split at q
  · obtain rfl:=rx.int;obtain rfl:=ry.int
    exact .inl ⟨_,_,rfl,rfl,g.val R (.int _) q⟩
  · obtain rfl:=rx.str;obtain rfl:=ry.str
    exact .inr (.inl ⟨_,_,rfl,rfl,q.1,g.val R (.str _) q.2⟩)
  · obtain ⟨a,vs,rfl,h1,r1⟩:=rx.lst;obtain ⟨b,us,rfl,h2,r2⟩:=ry.lst
    exact .inr (.inr (.inl ⟨a,b,vs,us,rfl,rfl,h1,h2,by rw [r1.length,r2.length];exact q.1,g.own R (r1.append r2) q.2⟩))
  · have rx':=rx
    obtain ⟨a,vs,rfl,h1,r1⟩:=rx.tup R.fr;obtain ⟨b,us,rfl,h2,r2⟩:=ry.tup R.fr
    refine .inr (.inr (.inr ⟨a,b,vs,us,rfl,rfl,.of h1,.of h2,fun z=>?_,by rw [r1.length,r2.length];exact q.1.2,fun z=>?_,fun _=>g.tup R (r1.append r2) q.2⟩))
    · subst z
      cases r1
      exact q.1.1 rfl
    · subst z
      cases r2
      rw [List.append_nil] at q
      exact g.val R rx' q.2
  · exact q.elim
theorem r_add {a b:Expr} {ta tb:TV} {pos:Pos} (ha:EO G k S a ta) (hb:EO G k S b tb):EX G k S (.BinOp a .Add b pos) (tBin addD ta tb):=r_bin (r:=rAdd) (fun _=>op_addAll) add_sound ha hb
noncomputable def iiD (C:Int -> Int -> Prop) (g:Int -> Int -> Int):D -> D -> (EV -> Prop) -> Prop
  | .int i,.int j,Q=>C i j /\ Q (.val (.int (g i j)))
  | _,_,_=>False
theorem ii_sound {C:Int -> Int -> Prop} {g:Int -> Int -> Int}:OpSound (rI C fun i j=>.int (g i j)) (iiD C g):=by
  intro Y F H σd σ v u x y Qd Q R rx ry q gg
  unfold iiD at q
  split at q
  · obtain rfl:=rx.int;obtain rfl:=ry.int
    exact ⟨_,_,rfl,rfl,q.1,gg.val R (.int _) q.2⟩
  · exact q.elim
noncomputable def iiD0 (g:Int -> Int -> Int):D -> D -> (EV -> Prop) -> Prop
  | .int i,.int j,Q=>Q (.val (.int (g i j)))
  | _,_,_=>False
theorem ii0_sound {g:Int -> Int -> Int}:OpSound (rI0 fun i j=>.int (g i j)) (iiD0 g):=by
  intro Y F H σd σ v u x y Qd Q R rx ry q gg
  unfold iiD0 at q
  split at q
  · obtain rfl:=rx.int;obtain rfl:=ry.int
    exact ⟨_,_,rfl,rfl,gg.val R (.int _) q⟩
  · exact q.elim
section
variable {a b:Expr} {ta tb:TV} {pos:Pos}
noncomputable def subD:=iiD0 fun i j=>i - j
noncomputable def modD:=iiD (fun _ j=>0 < j) fun i j=>i % j
noncomputable def powD:=iiD CPow fun i j=>i ^ j.toNat
noncomputable def shrD:=iiD (fun _ j=>0 <= j) fun i j=>i / 2 ^ j.toNat
noncomputable def shlD:=iiD CPow fun i j=>i * 2 ^ j.toNat
noncomputable def andD:=iiD0 fun i j=>Builtin.bitAnd i j
noncomputable def orD:=iiD0 fun i j=>Builtin.bitOr i j
theorem r_sub (ha:EO G k S a ta) (hb:EO G k S b tb):EX G k S (.BinOp a .Sub b pos) (tBin subD ta tb):=r_bin (r:=fun _=>_) (fun _=>op_sub) (fun _=>ii0_sound) ha hb
theorem r_mod (ha:EO G k S a ta) (hb:EO G k S b tb):EX G k S (.BinOp a .Mod b pos) (tBin modD ta tb):=r_bin (r:=fun _=>_) (fun _=>op_mod) (fun _=>ii_sound) ha hb
theorem r_pow (ha:EO G k S a ta) (hb:EO G k S b tb):EX G k S (.BinOp a .Pow b pos) (tBin powD ta tb):=r_bin (r:=fun _=>_) (fun _=>op_pow) (fun _=>ii_sound) ha hb
theorem r_shr (ha:EO G k S a ta) (hb:EO G k S b tb):EX G k S (.BinOp a .RShift b pos) (tBin shrD ta tb):=r_bin (r:=fun _=>_) (fun _=>op_shr) (fun _=>ii_sound) ha hb
theorem r_shl (ha:EO G k S a ta) (hb:EO G k S b tb):EX G k S (.BinOp a .LShift b pos) (tBin shlD ta tb):=r_bin (r:=fun _=>_) (fun _=>op_shl) (fun _=>ii_sound) ha hb
theorem r_band (ha:EO G k S a ta) (hb:EO G k S b tb):EX G k S (.BinOp a .BitAnd b pos) (tBin andD ta tb):=r_bin (r:=fun _=>_) (fun _=>op_and) (fun _=>ii0_sound) ha hb
theorem r_bor (ha:EO G k S a ta) (hb:EO G k S b tb):EX G k S (.BinOp a .BitOr b pos) (tBin orD ta tb):=r_bin (r:=fun _=>_) (fun _=>op_or) (fun _=>ii0_sound) ha hb
end
noncomputable def mulD:D -> D -> (EV -> Prop) -> Prop
  | .int i,.int j,Q=>CMul i j /\ Q (.val (.int (i * j)))
  | .lst xs,.int j,Q=>(-(2 ^ 63) <= j /\ j < 2 ^ 63 /\ xs.length * j.toNat <= sizeLine) /\ Q (.own (List.replicate j.toNat xs).flatten)
  | _,_,_=>False
noncomputable def rRepS:R2:=fun x y H Q=>∃ l k xs,x = .ref l /\ y = .int k /\ Rd H l (.lst xs) /\ -(2 ^ 63) <= k /\ k < 2 ^ 63 /\ xs.length * k.toNat <= sizeLine /\
  ∀ p,H p = none -> Q (.ref p) (upd H p (.lst (List.replicate k.toNat xs).flatten))
theorem op_repS {X:Cx}:OpR X (binaryOp .Mult) rRepS:=by
  intro pins s σ H x y v u Q I rx ry h
  obtain ⟨l,k,xs,rfl,rfl,hH,h1,h2,hz,q⟩:=h
  cases rx
  obtain ⟨t,rfl⟩:=ry
  obtain ⟨z,its,n,r,hl,e⟩:=Inv.rdL I hH
  have hlen:its.toArray.size * k.toNat <= sizeLine:=by rw [List.size_toArray,<- hl];exact hz
  have hcap:¬ its.toArray.size * k.toNat > (2 ^ 63 - 1) / 8:=by
    have:(sizeLine:Nat) <= (2 ^ 63 - 1) / 8:=by decide
    omega
  have hfit:¬ (!Builtin.List.listFitsIndex k) = true:=by
    rw [fitsIndex_both h1 h2]
    exact Bool.false_ne_true
  have hlong:¬ Builtin.List.listTooLong (its.toArray.size * k.toNat) = true:=by
    rw [notLongL hlen]
    exact Bool.false_ne_true
  have hnew:List.foldl (fun x1 x2=>x1 ++ x2) #[] (List.replicate (if its.toArray.isEmpty = true then 0 else k.toNat) its.toArray) = (List.replicate k.toNat its).flatten.toArray:=by
    have f0:∀ m:Nat,List.foldl (fun x1 x2=>x1 ++ x2) #[] (List.replicate m its.toArray) = (List.replicate m its).flatten.toArray:=fun m=>by
      have:=foldl_rep its m []
      rw [List.nil_append] at this
      exact this
    rw [f0]
    cases its with
    | nil=>simp
    | cons a r'=>rw [if_neg (by simp)]
  refine wpAny_binaryOp_repeat_ref (T:="list") (U:="int") (by decide) ⟨_,e,rfl⟩ (fun s'=>typeIs_int s' k t) noFill_list_mul F.fills_int_mul F.slot_int_rmul repeat_list F.slot_int_index.lookup
    (call_meets F.slot_int_rmul (typeIs_int s k t) F.entry_int_rmul (F.args_int_rmul_2 _ _) (int___rmul___int_list k t l its.toArray n)
      ⟨e,rfl,⟨_,e,rfl⟩,call_meets F.slot_list_mul ⟨_,e,rfl⟩ F.entry_list_mul (F.args_list_mul_2 _ _) (AutoListH.list___mul___list_int_3 l its.toArray n k t hfit hcap hlong) ⟨e,?_⟩⟩)
  rw [hnew]
  exact ⟨.ref _,_,I.lnew (t':=s.toks) (r.rep k.toNat) (by rw [len_rep,Nat.mul_comm];exact hz),rfl,q _ I.fresh⟩
noncomputable def rMul:R2:=fun x y H Q=>rI CMul (fun i j=>.int (i * j)) x y H Q \/ rRepS x y H Q
theorem mul_sound:OpSound rMul mulD:=by
  intro Y F H σd σ v u x y Qd Q R rx ry q g
  unfold mulD at q
  split at q
  · obtain rfl:=rx.int;obtain rfl:=ry.int
    exact .inl ⟨_,_,rfl,rfl,q.1,g.val R (.int _) q.2⟩
  · obtain ⟨a,vs,rfl,h1,r1⟩:=rx.lst;obtain rfl:=ry.int
    exact .inr ⟨a,_,vs,rfl,rfl,h1,q.1.1,q.1.2.1,by rw [r1.length];exact q.1.2.2,g.own R (r1.rep _) q.2⟩
  · exact q.elim
theorem r_mul {a b:Expr} {ta tb:TV} {pos:Pos} (ha:EO G k S a ta) (hb:EO G k S b tb):EX G k S (.BinOp a .Mult b pos) (tBin mulD ta tb):=r_bin (r:=fun _=>rMul) (fun _=>op_mul.or op_repS) (fun _=>mul_sound) ha hb
noncomputable def tNeg (t:TV):TV:=fun σ Q=>t σ fun x σ1=>match drf σ1 x with
  | some (.int i)=>Q (.val (.int (-i))) σ1
  | _=>False
theorem r_neg {a:Expr} {ta:TV} {pos:Pos} (ha:EO G k S a ta):EO G k S (.UnaryOp .USub a pos) (tNeg ta):=.mk fun X Y ok=>pe_imp (pe_un un_neg (ha X Y ok)) fun σ H Q q=>by
  obtain ⟨F,σd,Qd,R,q,K⟩:=q
  refine ⟨F,σd,_,R,q,fun v1 H1 F1 x σ1 s1 R1 r1 q1=>?_⟩
  split at q1
  · rename_i i e
    obtain rfl:=(R1.drf r1 e).int
    exact ⟨i,rfl,K _ H1 F1 (.val (.int (-i))) σ1 s1 R1 (.int _) q1⟩
  · exact q1.elim
end Vc

set_option Elab.async false
set_option linter.all false
set_option maxRecDepth 100000

namespace Vc
open PySem L2
variable [KF]
variable {G:GE} {k:Nat} {S:Stat}

mutual
noncomputable def eqD:D -> D -> Bool
  | .non,.non=>true
  | .bl a,.bl b=>a == b
  | .bl a,.int j=>(if a then 1 else 0) == j
  | .int i,.bl b=>i == (if b then 1 else 0)
  | .int i,.int j=>i == j
  | .str x,.str y=>x == y
  | .lst xs,.lst ys=>eqDs xs ys
  | .tup xs,.tup ys=>eqDs xs ys
  | _,_=>false
noncomputable def eqDs:List D -> List D -> Bool
  | [],[]=>true
  | x :: xs,y :: ys=>eqD x y && eqDs xs ys
  | _,_=>false
end
noncomputable def okD:Nat -> D -> Bool
  | _,.non=>true
  | _,.bl _=>true
  | _,.int _=>true
  | _,.str x=>x.cps.all (· < 0x110000)
  | n + 1,.tup xs=>xs.all (okD n)
  | n + 1,.lst xs=>xs.all (okD n)
  | _,_=>false
mutual
noncomputable def toPy:D -> PyData
  | .non=>.none
  | .bl b=>.bool b
  | .int i=>.int i
  | .str x=>.str x
  | .tup xs=>.tuple (toPys xs)
  | .lst xs=>.list (toPys xs)
  | _=>.none
noncomputable def toPys:List D -> List PyData
  | []=>[]
  | x :: xs=>toPy x :: toPys xs
end

theorem eqDs_py {n m:Nat} (ih:∀ x y,okD n x = true -> okD m y = true -> eqD x y = PyData.eqv (toPy x) (toPy y)):∀ xs ys:List D,xs.all (okD n) = true -> ys.all (okD m) = true -> eqDs xs ys = PyData.eqvAll (toPys xs) (toPys ys)
  | [],[],_,_=>rfl
  | [],_ :: _,_,_=>rfl
  | _ :: _,[],_,_=>rfl
  | x :: xs,y :: ys,h1,h2=>by
    rw [List.all_cons,Bool.and_eq_true] at h1 h2
    show (eqD x y && eqDs xs ys) = (PyData.eqv (toPy x) (toPy y) && PyData.eqvAll (toPys xs) (toPys ys))
    rw [ih x y h1.1 h2.1,eqDs_py ih xs ys h1.2 h2.2]
theorem eqD_py:∀ (n m:Nat) (x y:D),okD n x = true -> okD m y = true -> eqD x y = PyData.eqv (toPy x) (toPy y):=by
  intro n
  induction n with
  | zero =>
    intro m x y h1 h2
    cases x with
    | tup _=>exact absurd h1 (by simp [okD])
    | lst _=>exact absurd h1 (by simp [okD])
    | dct _=>exact absurd h1 (by simp [okD])
    | exc _=>exact absurd h1 (by simp [okD])
    | scr _=>exact absurd h1 (by simp [okD])
    | _=>cases y<;>first | rfl | (cases m<;>exact absurd h2 (by simp [okD]))
  | succ n ih =>
    intro m x y h1 h2
    cases x with
    | tup xs =>
      cases y with
      | tup ys =>
        cases m with
        | zero=>exact absurd h2 (by simp [okD])
        | succ m=>exact eqDs_py (ih m) xs ys h1 h2
      | _=>first | rfl | (cases m<;>exact absurd h2 (by simp [okD]))
    | lst xs =>
      cases y with
      | lst ys =>
        cases m with
        | zero=>exact absurd h2 (by simp [okD])
        | succ m=>exact eqDs_py (ih m) xs ys h1 h2
      | _=>first | rfl | (cases m<;>exact absurd h2 (by simp [okD]))
    | dct _=>exact absurd h1 (by simp [okD])
    | exc _=>exact absurd h1 (by simp [okD])
    | scr _=>exact absurd h1 (by simp [okD])
    | _=>cases y<;>first | rfl | (cases m<;>exact absurd h2 (by simp [okD]))
theorem okD_layAll {n:Nat} (ih:∀ x,okD n x = true -> (toPy x).canLay0 = true /\ (toPy x).depth <= n):∀ xs:List D,xs.all (okD n) = true -> PyData.canLayAll0 (toPys xs) = true /\ PyData.depthAll (toPys xs) <= n
  | [],_=>⟨rfl,Nat.zero_le _⟩
  | x :: xs,h=>by
    rw [List.all_cons,Bool.and_eq_true] at h
    have h1:=ih x h.1
    have h2:=okD_layAll ih xs h.2
    refine ⟨?_,?_⟩
    · show ((toPy x).canLay0 && PyData.canLayAll0 (toPys xs)) = true
      rw [h1.1,h2.1];rfl
    · show max (toPy x).depth (PyData.depthAll (toPys xs)) <= n
      exact Nat.max_le.mpr ⟨h1.2,h2.2⟩
theorem okD_lay:∀ (n:Nat) (x:D),okD n x = true -> (toPy x).canLay0 = true /\ (toPy x).depth <= n:=by
  intro n
  induction n with
  | zero =>
    intro x h
    cases x with
    | tup _=>exact absurd h (by simp [okD])
    | lst _=>exact absurd h (by simp [okD])
    | dct _=>exact absurd h (by simp [okD])
    | exc _=>exact absurd h (by simp [okD])
    | scr _=>exact absurd h (by simp [okD])
    | _=>first | exact ⟨rfl,Nat.zero_le _⟩ | (exact ⟨by simpa [okD,toPy,PyData.canLay0,PyData.strOk] using h,Nat.zero_le _⟩)
  | succ n ih =>
    intro x h
    cases x with
    | tup xs =>
      have:=okD_layAll ih xs h
      exact ⟨this.1,Nat.succ_le_succ this.2⟩
    | lst xs =>
      have:=okD_layAll ih xs h
      exact ⟨this.1,Nat.succ_le_succ this.2⟩
    | dct _=>exact absurd h (by simp [okD])
    | exc _=>exact absurd h (by simp [okD])
    | scr _=>exact absurd h (by simp [okD])
    | _=>first | exact ⟨rfl,Nat.zero_le _⟩ | (exact ⟨by simpa [okD,toPy,PyData.canLay0,PyData.strOk] using h,Nat.zero_le _⟩)
section
variable {P:Program} {w:World} {F H:Hp} {h:Heap}
mutual
theorem Rep.reads (ok:HOk P w H h) (s:Same F H):∀ {v:V} {d:D} {u:Value} (n:Nat),Rep F v d -> RelV v u -> okD n d = true -> ∃ as,Reads h u (toPy d) as
  | _,_,_,_,.non,e,_=>by cases e;exact ⟨_,.none⟩
  | _,_,_,_,.bl b,e,_=>by cases e;exact ⟨_,.bool b⟩
  | _,_,_,_,.int i,e,_=>by obtain ⟨t,rfl⟩:=e;exact ⟨_,.int i t⟩
  | _,_,_,_,.str x,e,_=>by obtain ⟨t,rfl⟩:=e;exact ⟨_,.str x t⟩
  | _,_,_,0,.tup _ _,_,o=>by exact absurd o (by simp [okD])
  | _,_,_,0,.lst _ _,_,o=>by exact absurd o (by simp [okD])
  | _,_,_,n + 1,.tup (a:=a) (vs:=vs) hf r,e,o=>by
    cases e
    obtain ⟨_,its,rv,ob,ho,hc,m,hd⟩:=ok a _ (s a _ hf)
    obtain ⟨as,q⟩:=RepL.reads ok s n r rv o
    exact ⟨as,.tuple ho hc hd q⟩
  | _,_,_,n + 1,.lst (a:=a) (vs:=vs) hf r,e,o=>by
    cases e
    obtain ⟨_,its,m,rv,ho⟩:=L2.Rd.ok (Rd.mono s hf) ok
    obtain ⟨as,q⟩:=RepL.reads ok s n r rv o
    exact ⟨_,.list ho rfl rfl q⟩
  | _,_,_,n,.scr _,_,o=>by cases n<;>exact absurd o (by simp [okD])
  | _,_,_,n,.exc _,_,o=>by cases n<;>exact absurd o (by simp [okD])
  | _,_,_,n,.dctT _ _,_,o=>by cases n<;>exact absurd o (by simp [okD])
theorem RepL.reads (ok:HOk P w H h) (s:Same F H):∀ {vs:List V} {ds:List D} {us:List Value} (n:Nat),RepL F vs ds -> Vals vs us -> ds.all (okD n) = true -> ∃ as,ReadsAll h us (toPys ds) as
  | _,_,_,_,.nil,.nil,_=>⟨_,.nil⟩
  | _,_,_,n,.cons r t,.cons e f,o=>by
    rw [List.all_cons,Bool.and_eq_true] at o
    obtain ⟨as,h1⟩:=Rep.reads ok s n r e o.1
    obtain ⟨bs,h2⟩:=RepL.reads ok s n t f o.2
    exact ⟨_,.cons h1 h2⟩
end
theorem RepH.reads (ok:HOk P w H h) (s:Same F H) {v:V} {d:D} {u:Value} (r:RepH F H v d) (e:RelV v u) (o:okD 8 d = true):∃ as,Reads h u (toPy d) as:=by
  cases d with
  | lst xs =>
    obtain ⟨a,vs,rfl,hf,r⟩:=r
    cases e
    obtain ⟨_,its,n,rv,ho⟩:=L2.Rd.ok hf ok
    obtain ⟨as,q⟩:=RepL.reads ok s 7 r rv o
    exact ⟨_,.list ho rfl rfl q⟩
  | _=>exact Rep.reads ok s 8 r e o
end
theorem shaped_ok {x:D} (h:okD 8 x = true):PySem.SeqAt.shaped (toPy x) = true:=by
  obtain ⟨h1,h2⟩:=okD_lay 8 x h
  unfold PySem.SeqAt.shaped
  rw [h1,decide_eq_true (by omega)];rfl

noncomputable def rEqD (neg:Bool):R2:=fun v u H Q=>∃ F x y,Same F H /\ RepH F H v x /\ RepH F H u y /\ okD 8 x = true /\ okD 8 y = true /\ Q (.bl (if neg then !eqD x y else eqD x y)) H
theorem op_eqD {X:Cx} (hu:X.A.units + 64 < cLine):OpR X (compareOp .Eq) (rEqD false):=by
  intro pins s σ H v u v' u' Q I rv ru h
  obtain ⟨F,x,y,sm,rx,ry,ox,oy,q⟩:=h
  obtain ⟨as,r1⟩:=rx.reads I.hok sm rv ox
  obtain ⟨bs,r2⟩:=ry.reads I.hok sm ru oy
  refine PyProof.Rows.eq_dataH r1 r2 (shaped_ok ox) (shaped_ok oy) hu ⟨.bl (eqD x y),H,I,?_,q⟩
  rw [eqD_py 8 8 x y ox oy];rfl
theorem op_neD {X:Cx} (hu:X.A.units + 64 < cLine):OpR X (compareOp .NotEq) (rEqD true):=by
  intro pins s σ H v u v' u' Q I rv ru h
  obtain ⟨F,x,y,sm,rx,ry,ox,oy,q⟩:=h
  obtain ⟨as,r1⟩:=rx.reads I.hok sm rv ox
  obtain ⟨bs,r2⟩:=ry.reads I.hok sm ru oy
  refine PyProof.Rows.ne_dataH r1 r2 (shaped_ok ox) (shaped_ok oy) hu ⟨.bl (!eqD x y),H,I,?_,q⟩
  rw [eqD_py 8 8 x y ox oy];rfl
end Vc

set_option Elab.async false
set_option linter.all false
set_option maxRecDepth 100000

namespace Vc
open PySem L2
variable [KF]
variable {G:GE} {k:Nat} {S:Stat}

noncomputable def CmpSound (r:R2) (f:D -> D -> (Bool -> Prop) -> Prop):Prop :=
  ∀ Y F H σd σ v u x y (Qd:Bool -> Prop) (Q:VK),RS Y F σd σ H -> RepH F H v x -> RepH F H u y -> f x y Qd -> (∀ b,Qd b -> Q (.bl b) H) -> r v u H Q
noncomputable def tCmp2 (f:D -> D -> (Bool -> Prop) -> Prop) (ta tb:TV):TB:=fun σ Q=>ta σ fun x σ1=>tb σ1 fun y σ2=>match drf σ2 x,drf σ2 y with
  | some a,some b=>f a b fun r=>Q r σ2
  | _,_=>False
noncomputable def bV (t:TB):TV:=fun σ Q=>t σ fun b σ1=>Q (.val (.bl b)) σ1
theorem cmp_sound {Y:Dyn} {r:R2} {f:D -> D -> (Bool -> Prop) -> Prop} (hs:CmpSound r f) {ta tb:TV} {σ:St} {H:Hp} {Q:VK} {F:Hp} {σd:Sd} {Qd:Bool -> Sd -> Prop} (R:RS Y F σd σ H) (q:tCmp2 f ta tb σd Qd)
    (K:∀ b H' F' σd',Same F F' -> RS Y F' σd' σ H' -> Qd b σd' -> Q (.bl b) H'):tOp r (lO Y ta) (lO Y tb) σ H Q:=by
  refine ⟨F,σd,_,R,q,fun v1 H1 F1 x σ1 s1 R1 r1 q1=>?_⟩
  refine ⟨F1,σ1,_,R1,q1,fun v2 H2 F2 y σ2 s2 R2 r2 q2=>?_⟩
  split at q2
  · rename_i a b ea eb
    exact hs Y F2 H2 σ2 σ v1 v2 a b _ Q R2 (R2.drf (r1.mono s2) ea) (R2.drf r2 eb) q2 fun c qc=>K c H2 F2 σ2 (s1.trans s2) R2 qc
  · exact q2.elim
noncomputable def CmpR (G:GE) (k:Nat) (S:Stat) (op:CmpOp) (f:D -> D -> (Bool -> Prop) -> Prop):Prop:=∃ r:R2,(∀ X Y,XOk X G k S Y -> OpR X (compareOp op) r) /\ CmpSound r f
theorem r_tcmp {op:CmpOp} {f:D -> D -> (Bool -> Prop) -> Prop} (h:CmpR G k S op f) {a b:Expr} {ta tb:TV} {pos:Pos} (ha:EO G k S a ta) (hb:EO G k S b tb) (hm:behindInMarks op b = false:=by first | exact nomark _ | with_unfolding_all rfl) :
    EB G k S (.Compare a [op] [b] pos) (tCmp2 f ta tb):=.mk fun X Y ok=>by
  obtain ⟨r,ho,hs⟩:=h
  refine pt_imp (pt_cmpR (ho X Y ok) (ha X Y ok) (hb X Y ok) hm) fun σ H Q q=>?_
  obtain ⟨F,σd,Qd,R,q,K⟩:=q
  exact cmp_sound hs R q fun b H' F' σd' s R' qq=>⟨b,rfl,K b H' F' σd' s R' qq⟩
theorem r_cmp {op:CmpOp} {f:D -> D -> (Bool -> Prop) -> Prop} (h:CmpR G k S op f) {a b:Expr} {ta tb:TV} {pos:Pos} (ha:EO G k S a ta) (hb:EO G k S b tb) (hm:behindInMarks op b = false:=by first | exact nomark _ | with_unfolding_all rfl) :
    EO G k S (.Compare a [op] [b] pos) (bV (tCmp2 f ta tb)):=.mk fun X Y ok=>by
  obtain ⟨r,ho,hs⟩:=h
  refine pe_imp (pe_cmpR (ho X Y ok) (ha X Y ok) (hb X Y ok) hm) fun σ H Q q=>?_
  obtain ⟨F,σd,Qd,R,q,K⟩:=q
  exact cmp_sound hs R q fun b H' F' σd' s R' qq=>K _ H' F' (.val (.bl b)) σd' s R' (.bl b) qq
noncomputable def eqT (x y:D) (Q:Bool -> Prop):Prop:=(okD 8 x = true /\ okD 8 y = true) /\ Q (eqD x y)
noncomputable def neT (x y:D) (Q:Bool -> Prop):Prop:=(okD 8 x = true /\ okD 8 y = true) /\ Q (!eqD x y)
theorem c_eq:CmpR G k S .Eq eqT:=⟨rEqD false,fun X Y ok=>op_eqD ok.units,fun Y F H σd σ v u x y Qd Q R rx ry q K=>⟨F,x,y,R.fr,rx,ry,q.1.1,q.1.2,K _ q.2⟩⟩
theorem c_ne:CmpR G k S .NotEq neT:=⟨rEqD true,fun X Y ok=>op_neD ok.units,fun Y F H σd σ v u x y Qd Q R rx ry q K=>⟨F,x,y,R.fr,rx,ry,q.1.1,q.1.2,K _ q.2⟩⟩
noncomputable def iiT (p:Int -> Int -> Bool):D -> D -> (Bool -> Prop) -> Prop
  | .int i,.int j,Q=>Q (p i j)
  | _,_,_=>False
theorem iiT_sound {p:Int -> Int -> Bool}:CmpSound (rI0 fun i j=>.bl (p i j)) (iiT p):=fun Y F H σd σ v u x y Qd Q R rx ry q K=>by
  unfold iiT at q
  split at q
  · obtain rfl:=rx.int;obtain rfl:=ry.int
    exact ⟨_,_,rfl,rfl,K _ q⟩
  · exact q.elim
noncomputable def ltT:=iiT fun i j=>decide (i < j)
noncomputable def leT:=iiT fun i j=>decide (i <= j)
noncomputable def gtT:=iiT fun i j=>decide (j < i)
noncomputable def geT:=iiT fun i j=>decide (j <= i)
theorem c_lt:CmpR G k S .Lt ltT:=⟨_,fun _ _ _=>op_lt,iiT_sound⟩
theorem c_le:CmpR G k S .LtE leT:=⟨_,fun _ _ _=>op_le,iiT_sound⟩
theorem c_gt:CmpR G k S .Gt gtT:=⟨_,fun _ _ _=>op_gt,iiT_sound⟩
theorem c_ge:CmpR G k S .GtE geT:=⟨_,fun _ _ _=>op_ge,iiT_sound⟩
noncomputable def isNone:D -> Bool
  | .non=>true
  | _=>false
noncomputable def isT (x y:D) (Q:Bool -> Prop):Prop:=isNone y = true /\ Q (isNone x)
theorem RepH.isNone {F H:Hp} {v:V} {x:D} (r:RepH F H v x):decide (v = .non) = isNone x:=by
  cases x with
  | lst xs=>obtain ⟨a,vs,rfl,_⟩:=r;rfl
  | dct _=>cases (show Rep F v (.dct _) from r);rfl
  | exc _=>cases (show Rep F v (.exc _) from r);rfl
  | scr _=>cases (show Rep F v (.scr _) from r);rfl
  | non=>obtain rfl:=r.non;rfl
  | bl _=>obtain rfl:=r.bl;rfl
  | int _=>obtain rfl:=r.int;rfl
  | str _=>obtain rfl:=r.str;rfl
  | tup _=>cases (show Rep F v (.tup _) from r);rfl
theorem RepH.noneEq {F H:Hp} {v:V} {x:D} (r:RepH F H v x) (h:Vc.isNone x = true):v = .non:=by
  cases x<;>first | exact r.non | cases h
theorem c_is:CmpR G k S .Is isT:=⟨_,fun _ _ _=>op_isN,fun Y F H σd σ v u x y Qd Q R rx ry q K=>⟨ry.noneEq q.1,by rw [rx.isNone];exact K _ q.2⟩⟩
noncomputable def truD:D -> (Bool -> Prop) -> Prop
  | .non,Q=>Q false
  | .bl b,Q=>Q b
  | .int i,Q=>Q (i != 0)
  | .lst xs,Q=>Q (!xs.isEmpty)
  | .tup xs,Q=>Q (!xs.isEmpty)
  | _,_=>False
noncomputable def tTru (t:TV):TB:=fun σ Q=>t σ fun x σ1=>match drf σ1 x with
  | some d=>truD d fun b=>Q b σ1
  | none=>False
theorem isEmpty_repL {F:Hp} {vs:List V} {xs:List D} (r:RepL F vs xs):(!xs.isEmpty) = !vs.isEmpty:=by cases r<;>rfl
theorem r_ttru {e:Expr} {t:TV} (h:EO G k S e t) (he:∀ env whole,isTrue e env whole = (do let v <- whole;standAt e.pos;holding [v] (truthy v)):=by intro _ _;rfl):EB G k S e (tTru t):=.mk fun X Y ok=>by
  refine pt_imp (pt_truth (h X Y ok) (he _)) fun σ H Q q=>?_
  obtain ⟨F,σd,Qd,R,q,K⟩:=q
  refine ⟨F,σd,_,R,q,fun v1 H1 F1 x σ1 s1 R1 r1 q1=>?_⟩
  split at q1
  · rename_i d ed
    have r:=R1.drf r1 ed
    unfold truD at q1
    split at q1
    · obtain rfl:=r.non;exact ⟨false,rfl,K _ H1 F1 σ1 s1 R1 q1⟩
    · rename_i b;obtain rfl:=r.bl;exact ⟨b,rfl,K _ H1 F1 σ1 s1 R1 q1⟩
    · rename_i i;obtain rfl:=r.int;exact ⟨_,rfl,K _ H1 F1 σ1 s1 R1 q1⟩
    · rename_i xs;obtain ⟨a,vs,rfl,h1,h2⟩:=r.lst
      exact ⟨!xs.isEmpty,.inl ⟨vs,.inl h1,isEmpty_repL h2⟩,K _ H1 F1 σ1 s1 R1 q1⟩
    · rename_i xs;obtain ⟨a,vs,rfl,h1,h2⟩:=r.tup R1.fr
      exact ⟨!xs.isEmpty,.inr (.inl ⟨vs,.inl (.inl h1),isEmpty_repL h2⟩),K _ H1 F1 σ1 s1 R1 q1⟩
    · exact q1.elim
  · exact q1.elim
noncomputable def tAndB (t u:TB):TB:=fun σ Q=>t σ fun c σ1=>if c = true then u σ1 Q else Q false σ1
noncomputable def tOrB (t u:TB):TB:=fun σ Q=>t σ fun c σ1=>if c = true then Q true σ1 else u σ1 Q
noncomputable def tNotB (t:TB):TB:=fun σ Q=>t σ fun c σ1=>Q (!c) σ1
structure EW (G:GE) (k:Nat) (S:Stat) (e:Expr) (t:TB) :Prop where
  run:∀ X Y,XOk X G k S Y -> PW X e (lB Y t)
instance {G:GE} {k:Nat} {S:Stat} {e:Expr} {t:TB} :CoeFun (EW G k S e t) fun _=>∀ X Y,XOk X G k S Y -> PW X e (lB Y t):=⟨EW.run⟩
theorem pw_imp {X:Cx} {e:Expr} {t t':TT} (h:PW X e t) (i:∀ σ H Q,t' σ H Q -> t σ H Q):PW X e t':=fun wh pins s σ H Q I q=>h wh pins s σ H Q I (i σ H Q q)
section
variable {a b:Expr} {rest:List Expr} {ta tb:TB} {pos:Pos}
theorem r_w (h:EW G k S a ta):EB G k S a ta:=.mk fun X Y ok=>(h X Y ok).pt
theorem r_and1 (ha:EB G k S a ta):EW G k S (.BoolOp .And [a] pos) ta:=.mk fun X Y ok=>pw_and1 (ha X Y ok)
theorem r_or1 (ha:EB G k S a ta):EW G k S (.BoolOp .Or [a] pos) ta:=.mk fun X Y ok=>pw_or1 (ha X Y ok)
theorem r_and (ha:EB G k S a ta) (hb:EW G k S (.BoolOp .And (b :: rest) pos) tb):EW G k S (.BoolOp .And (a :: b :: rest) pos) (tAndB ta tb):=.mk fun X Y ok=>pw_imp (pw_and (ha X Y ok) (hb X Y ok)) fun σ H Q q=>by
  obtain ⟨F,σd,Qd,R,q,K⟩:=q
  refine ⟨F,σd,_,R,q,fun c H1 F1 σ1 s1 R1 q1=>?_⟩
  cases c with
  | true=>exact ⟨F1,σ1,Qd,R1,q1,fun b H' F' σd' s R' qq=>K b H' F' σd' (s1.trans s) R' qq⟩
  | false=>exact K false H1 F1 σ1 s1 R1 q1
theorem r_or (ha:EB G k S a ta) (hb:EW G k S (.BoolOp .Or (b :: rest) pos) tb):EW G k S (.BoolOp .Or (a :: b :: rest) pos) (tOrB ta tb):=.mk fun X Y ok=>pw_imp (pw_or (ha X Y ok) (hb X Y ok)) fun σ H Q q=>by
  obtain ⟨F,σd,Qd,R,q,K⟩:=q
  refine ⟨F,σd,_,R,q,fun c H1 F1 σ1 s1 R1 q1=>?_⟩
  cases c with
  | false=>exact ⟨F1,σ1,Qd,R1,q1,fun b H' F' σd' s R' qq=>K b H' F' σd' (s1.trans s) R' qq⟩
  | true=>exact K true H1 F1 σ1 s1 R1 q1
theorem r_tnot (ha:EB G k S a ta):EB G k S (.UnaryOp .Not a pos) (tNotB ta):=.mk fun X Y ok=>pt_imp (pt_not (ha X Y ok)) fun σ H Q q=>by
  obtain ⟨F,σd,Qd,R,q,K⟩:=q
  exact ⟨F,σd,_,R,q,fun c H1 F1 σ1 s1 R1 q1=>K _ H1 F1 σ1 s1 R1 q1⟩
end
structure EV' (G:GE) (k:Nat) (S:Stat) (e:Expr) (t:TB) :Prop where
  run:∀ X Y,XOk X G k S Y -> PE X e (fun σ H Q=>lB Y t σ H fun b H'=>Q (.bl b) H')
instance {G:GE} {k:Nat} {S:Stat} {e:Expr} {t:TB} :CoeFun (EV' G k S e t) fun _=>∀ X Y,XOk X G k S Y -> PE X e (fun σ H Q=>lB Y t σ H fun b H'=>Q (.bl b) H'):=⟨EV'.run⟩
section
variable {a b:Expr} {rest:List Expr} {ta tb:TB} {pos:Pos}
noncomputable def tBool (t:TV):TB:=fun σ Q=>t σ fun x σ1=>match drf σ1 x with
  | some (.bl b)=>Q b σ1
  | _=>False
theorem v_of {t:TV} (h:EO G k S a t):EV' G k S a (tBool t):=.mk fun X Y ok=>pe_imp (h X Y ok) fun σ H Q q=>by
  obtain ⟨F,σd,Qd,R,q,K⟩:=q
  refine ⟨F,σd,_,R,q,fun v1 H1 F1 x σ1 s1 R1 r1 q1=>?_⟩
  split at q1
  · rename_i b eb
    obtain rfl:=(R1.drf r1 eb).bl
    exact K b H1 F1 σ1 s1 R1 q1
  · exact q1.elim
theorem v_one {op:BoolOp} (h:EV' G k S a ta):EV' G k S (.BoolOp op [a] pos) ta:=.mk fun X Y ok=>pe_one (h X Y ok)
theorem v_and (ha:EV' G k S a ta) (hb:EV' G k S (.BoolOp .And (b :: rest) pos) tb):EV' G k S (.BoolOp .And (a :: b :: rest) pos) (tAndB ta tb):=.mk fun X Y ok=>pe_imp (pe_and (ha X Y ok) (hb X Y ok)) fun σ H Q q=>by
  obtain ⟨F,σd,Qd,R,q,K⟩:=q
  refine ⟨F,σd,_,R,q,fun c H1 F1 σ1 s1 R1 q1=>⟨c,rfl,?_⟩⟩
  cases c with
  | true=>exact ⟨F1,σ1,Qd,R1,q1,fun b H' F' σd' s R' qq=>K b H' F' σd' (s1.trans s) R' qq⟩
  | false=>exact K false H1 F1 σ1 s1 R1 q1
theorem r_bv (h:EV' G k S a ta):EO G k S a (bV ta):=.mk fun X Y ok=>pe_imp (h X Y ok) fun σ H Q q=>by
  obtain ⟨F,σd,Qd,R,q,K⟩:=q
  exact ⟨F,σd,_,R,q,fun b H1 F1 σ1 s1 R1 q1=>K _ H1 F1 (.val (.bl b)) σ1 s1 R1 (.bl b) q1⟩
theorem r_not (ha:EV' G k S a ta):EO G k S (.UnaryOp .Not a pos) (bV (tNotB ta)):=.mk fun X Y ok=>pe_imp (pe_not (ha X Y ok)) fun σ H Q q=>by
  obtain ⟨F,σd,Qd,R,q,K⟩:=q
  exact ⟨F,σd,_,R,q,fun c H1 F1 σ1 s1 R1 q1=>⟨c,rfl,K _ H1 F1 (.val (.bl (!c))) σ1 s1 R1 (.bl _) q1⟩⟩
end
end Vc

set_option Elab.async false
set_option linter.all false
set_option maxRecDepth 100000

namespace Vc
open PySem L2
variable [KF]
variable {G:GE} {k:Nat} {S:Stat}

theorem RepL.atI {F:Hp} {vs:List V} {xs:List D} {i:Int} {d:D} (r:RepL F vs xs) (h:L2.atI xs i = some d):∃ v,L2.atI vs i = some v /\ Rep F v d:=by
  unfold L2.atI at h ⊢
  rw [r.length]
  cases e:ixN xs.length i with
  | none=>rw [e] at h;cases h
  | some j =>
    rw [e] at h
    exact r.get (i:=j) h
noncomputable def ixD:D -> D -> (D -> Prop) -> Prop
  | .lst xs,.int i,Q=>match atI xs i with
    | some d=>Q d
    | none=>False
  | .tup xs,.int i,Q=>match atI xs i with
    | some d=>Q d
    | none=>False
  | .str z,.int i,Q=>z.length <= sizeLine /\ match atI z.cps.toList i with
    | some c=>Q (.str ⟨#[c]⟩)
    | none=>False
  | .scr ns,.int i,Q=>match atI ns i with
    | some n=>Q (.int n)
    | none=>False
  | _,_,_=>False
theorem atI_map {α β:Type} (f:α -> β) {xs:List α} {i:Int} {a:α} (h:L2.atI xs i = some a):L2.atI (xs.map f) i = some (f a):=by
  unfold L2.atI at h ⊢
  rw [List.length_map]
  cases e:ixN xs.length i with
  | none=>rw [e] at h;cases h
  | some j =>
    rw [e] at h
    have h:xs[j]? = some a:=h
    show (xs.map f)[j]? = _
    rw [List.getElem?_map,h];rfl
noncomputable def tIx (ta tb:TV):TV:=fun σ Q=>ta σ fun x σ1=>tb σ1 fun y σ2=>match drf σ2 x,drf σ2 y with
  | some a,some b=>ixD a b fun r=>Q (.val r) σ2
  | _,_=>False
theorem r_ix {a b:Expr} {ta tb:TV} {pos:Pos} (ha:EO G k S a ta) (hb:EO G k S b tb) (hs:PlainIx b:=by intro _ _;rfl):EO G k S (.Subscript a b pos) (tIx ta tb):=.mk fun X Y ok =>
  pe_imp (pe_ix ix_seq (ha X Y ok) (hb X Y ok) hs) fun σ H Q q=>by
    obtain ⟨F,σd,Qd,R,q,K⟩:=q
    refine ⟨F,σd,_,R,q,fun v1 H1 F1 x σ1 s1 R1 r1 q1=>?_⟩
    refine ⟨F1,σ1,_,R1,q1,fun v2 H2 F2 y σ2 s2 R2 r2 q2=>?_⟩
    split at q2
    · rename_i a b ea eb
      have rx:=R2.drf (r1.mono s2) ea
      have ry:=R2.drf r2 eb
      have fin:∀ {v d},Rep F2 v d -> Qd (.val d) σ2 -> Q v H2:=fun r qq=>K _ H2 F2 (.val _) σ2 (s1.trans s2) R2 r qq
      unfold ixD at q2
      split at q2
      · obtain ⟨p,vs,rfl,h1,r1⟩:=rx.lst;obtain rfl:=ry.int
        split at q2
        · rename_i d e
          obtain ⟨v,ev,rv⟩:=r1.atI e
          exact .inl ⟨p,vs,_,v,rfl,rfl,.inl h1,ev,fin rv q2⟩
        · exact q2.elim
      · obtain ⟨p,vs,rfl,h1,r1⟩:=rx.tup R2.fr;obtain rfl:=ry.int
        split at q2
        · rename_i d e
          obtain ⟨v,ev,rv⟩:=r1.atI e
          exact .inr (.inl ⟨p,vs,_,v,rfl,rfl,.of h1,ev,fin rv q2⟩)
        · exact q2.elim
      · obtain rfl:=rx.str;obtain rfl:=ry.int
        obtain ⟨hz,q2⟩:=q2
        split at q2
        · rename_i c e
          exact .inr (.inr ⟨_,_,c,rfl,rfl,hz,e,fin (.str _) q2⟩)
        · exact q2.elim
      · rename_i ns i
        have rx:Rep F2 v1 (.scr ns):=rx
        obtain rfl:=ry.int
        cases rx with
        | scr h =>
          split at q2
          · rename_i n e
            exact .inl ⟨_,ns.map V.int,_,.int n,rfl,rfl,by rw [ok.kf];exact R2.fr.seq h,atI_map V.int e,fin (.int _) q2⟩
          · exact q2.elim
      · exact q2.elim
    · exact q2.elim

theorem repl_ints {F:Hp}:∀ ns:List Int,RepL F (ns.map V.int) (ns.map D.int)
  | []=>.nil
  | n :: ns=>.cons (.int n) (repl_ints ns)
theorem RepH.scr {F H:Hp} (s:Same F H) {v:V} {ns:List Int} (r:RepH F H v (.scr ns)):∃ a,v = .ref a /\ SqL KF.K H a (ns.map V.int):=by
  cases (show Rep F v (.scr ns) from r) with
  | scr h=>exact ⟨_,rfl,s.seq h⟩
noncomputable abbrev TP':=Sd -> (Option Int -> Sd -> Prop) -> Prop
noncomputable def lP (Y:Dyn) (t:TP'):TO:=fun σ H Q=>∃ F σd Qd,RS Y F σd σ H /\ t σd Qd /\ ∀ o H' F' σd',Same F F' -> RS Y F' σd' σ H' -> Qd o σd' -> Q o H'
structure EPt (G:GE) (k:Nat) (S:Stat) (e:Option Expr) (t:TP') :Prop where
  run:∀ X Y,XOk X G k S Y -> PO X e (lP Y t)
instance {G:GE} {k:Nat} {S:Stat} {e:Option Expr} {t:TP'} :CoeFun (EPt G k S e t) fun _=>∀ X Y,XOk X G k S Y -> PO X e (lP Y t):=⟨EPt.run⟩
theorem po_imp {X:Cx} {e:Option Expr} {t t':TO} (h:PO X e t) (i:∀ σ H Q,t' σ H Q -> t σ H Q):PO X e t':=fun pins s σ H Q I q=>h pins s σ H Q I (i σ H Q q)
noncomputable def tP0:TP':=fun σ Q=>Q none σ
noncomputable def tP1 (t:TV):TP':=fun σ Q=>t σ fun x σ1=>match drf σ1 x with
  | some (.int i)=>Q (some i) σ1
  | _=>False
theorem p_none:EPt G k S none tP0:=.mk fun X Y ok=>po_imp po_none fun σ H Q q=>by
  obtain ⟨F,σd,Qd,R,q,K⟩:=q
  exact K none H F σd (Same.refl _) R q
theorem p_some {e:Expr} {t:TV} (h:EO G k S e t):EPt G k S (some e) (tP1 t):=.mk fun X Y ok=>po_imp (po_some (h X Y ok)) fun σ H Q q=>by
  obtain ⟨F,σd,Qd,R,q,K⟩:=q
  refine ⟨F,σd,_,R,q,fun v1 H1 F1 x σ1 s1 R1 r1 q1=>?_⟩
  split at q1
  · rename_i i e
    obtain rfl:=(R1.drf r1 e).int
    exact ⟨i,rfl,K _ H1 F1 σ1 s1 R1 q1⟩
  · exact q1.elim
noncomputable def cut {α:Type} (xs:List α) (lo hi:Option Int):List α:=(xs.drop (HT.sIx xs.length 0 lo)).take (HT.sIx xs.length xs.length hi - HT.sIx xs.length 0 lo)
theorem RepL.cut {F:Hp} {vs:List V} {xs:List D} (r:RepL F vs xs) (lo hi:Option Int):RepL F (cutV vs lo hi) (cut xs lo hi):=by
  unfold cutV Vc.cut
  rw [r.length]
  exact (r.drop _).take _
noncomputable def slD:D -> Option Int -> Option Int -> (EV -> Prop) -> Prop
  | .lst xs,lo,hi,Q=>Q (.own (cut xs lo hi))
  | .scr ns,lo,hi,Q=>Q (.own (cut (ns.map D.int) lo hi))
  | .tup xs,lo,hi,Q=>¬ (HT.sIx xs.length 0 lo = 0 /\ HT.sIx xs.length xs.length hi = xs.length) /\ Q (.val (.tup (cut xs lo hi)))
  | _,_,_,_=>False
noncomputable def tSlD (t:TV) (tl th:TP'):TX:=fun σ Q=>t σ fun x σ1=>tl σ1 fun l σ2=>th σ2 fun u σ3=>match drf σ3 x with
  | some d=>slD d l u fun r=>Q r σ3
  | none=>False
theorem r_sl {e:Expr} {lo hi:Option Expr} {t:TV} {tl th:TP'} {p2 pos:Pos} (h:EO G k S e t) (hl:EPt G k S lo tl) (hh:EPt G k S hi th):EX G k S (.Subscript e (.Slice lo hi none p2) pos) (tSlD t tl th):=.mk fun X Y ok =>
  pe_imp (pe_slice (SlR.or sl_list sl_tup) (h X Y ok) (hl X Y ok) (hh X Y ok)) fun σ H Q q=>by
    obtain ⟨F,σd,Qd,R,q,K⟩:=q
    refine ⟨F,σd,_,R,q,fun v1 H1 F1 x σ1 s1 R1 r1 q1=>?_⟩
    refine ⟨F1,σ1,_,R1,q1,fun l H2 F2 σ2 s2 R2 q2=>?_⟩
    refine ⟨F2,σ2,_,R2,q2,fun u H3 F3 σ3 s3 R3 q3=>?_⟩
    split at q3
    · rename_i d e
      have rx:=R3.drf (r1.mono (s2.trans s3)) e
      have g:Goes Y F3 σ3 σ (fun r=>Qd r σ3) Q:=fun v H' F' r s R' rr qq=>K v H' F' r σ3 (((s1.trans s2).trans s3).trans s) R' rr qq
      unfold slD at q3
      split at q3
      · obtain ⟨p,vs,rfl,h1,r1⟩:=rx.lst
        exact .inl ⟨p,vs,rfl,.inl h1,g.own R3 (r1.cut _ _) q3⟩
      · obtain ⟨p,rfl,h1⟩:=rx.scr R3.fr
        exact .inl ⟨p,_,rfl,by rw [ok.kf];exact h1,g.own R3 ((repl_ints _).cut _ _) q3⟩
      · obtain ⟨p,vs,rfl,h1,r1⟩:=rx.tup R3.fr
        exact .inr ⟨p,vs,rfl,.of h1,by rw [r1.length];exact q3.1,g.tup R3 (r1.cut _ _) q3.2⟩
      · exact q3.elim
    · exact q3.elim

noncomputable def tN:TDs:=fun σ Q=>Q [] σ
noncomputable def tCo (t:TD) (u:TDs):TDs:=fun σ Q=>t σ fun x σ1=>u σ1 fun xs σ2=>Q (x :: xs) σ2
theorem a_nil:EDs G k S [] tN:=.mk fun X Y ok=>pa_imp pa_nil fun σ H Q q=>by
  obtain ⟨F,σd,Qd,R,q,K⟩:=q
  exact K [] H F [] σd (Same.refl _) R .nil q
theorem a_cons {e:Expr} {es:List Expr} {t:TD} {u:TDs} (h:ED G k S e t) (hs:EDs G k S es u) (he:∀ env,starEach (e :: es) env = (false,eval e env) :: starEach es env:=by exact fun _=>Vc.se_cons rfl):EDs G k S (e :: es) (tCo t u):=.mk fun X Y ok =>
  pa_imp (pa_cons (h X Y ok) (hs X Y ok) (he _)) fun σ H Q q=>by
    obtain ⟨F,σd,Qd,R,q,K⟩:=q
    refine ⟨F,σd,_,R,q,fun v1 H1 F1 x σ1 s1 R1 r1 q1=>?_⟩
    exact ⟨F1,σ1,_,R1,q1,fun vs H2 F2 xs σ2 s2 R2 r2 q2=>K _ H2 F2 (x :: xs) σ2 (s1.trans s2) R2 (.cons (r1.mono s2) r2) q2⟩
noncomputable def tLs (t:TDs):TX:=fun σ Q=>t σ fun xs σ1=>xs.length <= sizeLine /\ Q (.own xs) σ1
noncomputable def tTu (t:TDs):TV:=fun σ Q=>t σ fun xs σ1=>xs.length <= sizeLine /\ Q (.val (.tup xs)) σ1
theorem r_lst {es:List Expr} {t:TDs} {pos:Pos} (h:EDs G k S es t):EX G k S (.List es pos) (tLs t):=.mk fun X Y ok=>pe_imp (pe_lst (h X Y ok)) fun σ H Q q=>by
  obtain ⟨F,σd,Qd,R,q,K⟩:=q
  refine ⟨F,σd,_,R,q,fun vs H1 F1 xs σ1 s1 R1 r1 q1=>⟨by rw [r1.length];exact q1.1,?_⟩⟩
  have g:Goes Y F1 σ1 σ (fun r=>Qd r σ1) Q:=fun v H' F' r s R' rr qq=>K v H' F' r σ1 (s1.trans s) R' rr qq
  exact g.own R1 r1 q1.2
theorem r_tup {es:List Expr} {t:TDs} {x1} {pos:Pos} (h:EDs G k S es t):EO G k S (.Tuple es x1 pos) (tTu t):=.mk fun X Y ok=>pe_imp (pe_tup (h X Y ok)) fun σ H Q q=>by
  obtain ⟨F,σd,Qd,R,q,K⟩:=q
  refine ⟨F,σd,_,R,q,fun vs H1 F1 xs σ1 s1 R1 r1 q1=>⟨by rw [r1.length];exact q1.1,fun p hp=>?_⟩⟩
  have sm:=same_alloc (o:=.tup vs) (same_none R1.fr hp)
  exact K _ _ _ (.val (.tup xs)) σ1 (s1.trans sm) (R1.alloc hp) (.tup upd_same (r1.mono sm)) q1.2

noncomputable abbrev TVs:=Sd -> (List OV -> Sd -> Prop) -> Prop
inductive RepOs (F:Hp) (σ:St):List V -> List OV -> Prop where
  | nil:RepOs F σ [] []
  | cons {v:V} {x:OV} {vs:List V} {xs:List OV}:RepO F σ v x -> RepOs F σ vs xs -> RepOs F σ (v :: vs) (x :: xs)
noncomputable def lOs (Y:Dyn) (t:TVs):TA:=fun σ H Q=>∃ F σd Qd,RS Y F σd σ H /\ t σd Qd /\ ∀ vs H' F' xs σd',Same F F' -> RS Y F' σd' σ H' -> RepOs F' σ vs xs -> Qd xs σd' -> Q vs H'
structure EOs (G:GE) (k:Nat) (S:Stat) (es:List Expr) (t:TVs) :Prop where
  run:∀ X Y,XOk X G k S Y -> PA X es (lOs Y t)
instance {G:GE} {k:Nat} {S:Stat} {es:List Expr} {t:TVs} :CoeFun (EOs G k S es t) fun _=>∀ X Y,XOk X G k S Y -> PA X es (lOs Y t):=⟨EOs.run⟩
noncomputable def tNo:TVs:=fun σ Q=>Q [] σ
noncomputable def tCoo (t:TV) (u:TVs):TVs:=fun σ Q=>t σ fun x σ1=>u σ1 fun xs σ2=>Q (x :: xs) σ2
theorem o_nil:EOs G k S [] tNo:=.mk fun X Y ok=>pa_imp pa_nil fun σ H Q q=>by
  obtain ⟨F,σd,Qd,R,q,K⟩:=q
  exact K [] H F [] σd (Same.refl _) R .nil q
theorem o_cons {e:Expr} {es:List Expr} {t:TV} {u:TVs} (h:EO G k S e t) (hs:EOs G k S es u) (he:∀ env,starEach (e :: es) env = (false,eval e env) :: starEach es env:=by exact fun _=>Vc.se_cons rfl):EOs G k S (e :: es) (tCoo t u):=.mk fun X Y ok =>
  pa_imp (pa_cons (h X Y ok) (hs X Y ok) (he _)) fun σ H Q q=>by
    obtain ⟨F,σd,Qd,R,q,K⟩:=q
    refine ⟨F,σd,_,R,q,fun v1 H1 F1 x σ1 s1 R1 r1 q1=>?_⟩
    exact ⟨F1,σ1,_,R1,q1,fun vs H2 F2 xs σ2 s2 R2 r2 q2=>K _ H2 F2 (x :: xs) σ2 (s1.trans s2) R2 (.cons (r1.mono s2) r2) q2⟩
noncomputable def drfs (σ:Sd):List OV -> Option (List D)
  | []=>some []
  | x :: xs=>match drf σ x,drfs σ xs with
    | some d,some ds=>some (d :: ds)
    | _,_=>none
inductive RepHs (F H:Hp):List V -> List D -> Prop where
  | nil:RepHs F H [] []
  | cons {v:V} {x:D} {vs:List V} {xs:List D}:RepH F H v x -> RepHs F H vs xs -> RepHs F H (v :: vs) (x :: xs)
theorem RS.drfs {Y:Dyn} {F:Hp} {σd:Sd} {σ:St} {H:Hp} (R:RS Y F σd σ H):∀ {vs:List V} {xs:List OV} {ds:List D},RepOs F σ vs xs -> Vc.drfs σd xs = some ds -> RepHs F H vs ds
  | _,_,_,.nil,e=>by cases e;exact .nil
  | _,_,_,.cons (x:=x) (xs:=xs) r t,e=>by
    have e:(match Vc.drf σd x,Vc.drfs σd xs with | some d,some ds=>some (d :: ds) | _,_=>none) = some _:=e
    split at e
    · rename_i d ds e1 e2
      cases e
      exact .cons (R.drf r e1) (RS.drfs R t e2)
    · cases e
theorem RepHs.one {F H:Hp} {vs:List V} {d:D} (r:RepHs F H vs [d]):∃ v,vs = [v] /\ RepH F H v d:=by
  cases r with
  | cons r t=>cases t;exact ⟨_,rfl,r⟩
theorem RepHs.two {F H:Hp} {vs:List V} {d e:D} (r:RepHs F H vs [d,e]):∃ v u,vs = [v,u] /\ RepH F H v d /\ RepH F H u e:=by
  cases r with
  | cons r t =>
    obtain ⟨u,rfl,q⟩:=t.one
    exact ⟨_,u,rfl,r,q⟩
noncomputable def CallSound (r:List V -> Hp -> VK -> Prop) (f:List D -> (EV -> Prop) -> Prop):Prop :=
  ∀ Y F H σd σ vs ds (Qd:EV -> Prop) (Q:VK),RS Y F σd σ H -> RepHs F H vs ds -> f ds Qd -> Goes Y F σd σ Qd Q -> r vs H Q
noncomputable def tCl (f:List D -> (EV -> Prop) -> Prop) (t:TVs):TX:=fun σ Q=>t σ fun xs σ1=>match drfs σ1 xs with
  | some ds=>f ds fun r=>Q r σ1
  | none=>False
theorem tCl_sound {Y:Dyn} {r:List V -> Hp -> VK -> Prop} {f:List D -> (EV -> Prop) -> Prop} (hs:CallSound r f) {t:TVs} {σ:St} {H:Hp} {Q:VK} (q:lX Y (tCl f t) σ H Q):tCB r (lOs Y t) σ H Q:=by
  obtain ⟨F,σd,Qd,R,q,K⟩:=q
  refine ⟨F,σd,_,R,q,fun vs H1 F1 xs σ1 s1 R1 r1 q1=>?_⟩
  split at q1
  · rename_i ds e
    exact hs Y F1 H1 σ1 σ vs ds _ Q R1 (R1.drfs r1 e) q1 fun v H' F' r s R' rr qq=>K v H' F' r σ1 (s1.trans s) R' rr qq
  · exact q1.elim
noncomputable def ClR (G:GE) (k:Nat) (S:Stat) (f:Value) (g:List D -> (EV -> Prop) -> Prop):Prop:=∃ r:PySem.W.Frag -> List V -> Hp -> VK -> Prop,(∀ X Y,XOk X G k S Y -> CallR X f (r X.K)) /\ CallSound (r KF.K) g
section
variable {x:Str} {p pos:Pos} {e:Expr} {es:List Expr} {t:TVs} {id T:String} {g:List D -> (EV -> Prop) -> Prop}
theorem r_bf (h:ClR G k S (.builtin id) g) (hm:G.mg x = none) (ha:EOs G k S (e :: es) t) (hv:bootBuiltins x = some (.builtin id)) (hg:S.sc.lookup x = some .globalImplicit:=by rfl) (hn:x ≠ "__name__":=by decide) (hdb:(x == ("__debug__":Str)) = false:=by decide)
    (he:∀ env,starEach (e :: es) env = (false,eval e env) :: starEach es env:=by exact fun _=>Vc.se_cons rfl) (hpl:∀ env,(backTo pos (starEach es env)).any (·.1) = false:=by intro _;rfl):EX G k S (.Call (.Name x p) (e :: es) [] pos) (tCl g t):=.mk fun X Y ok=>by
  obtain ⟨r,hc,hs⟩:=h
  exact pe_imp (pe_callB (hc X Y ok) (gl_of ok hg) (by rw [ok.mg];exact hm) hv (ha X Y ok) hn hdb (he _) (hpl _)) fun σ H Q q=>tCl_sound (by rw [ok.kf];exact hs) q
theorem r_bt (h:ClR G k S (.type T) g) (hm:G.mg x = none) (ha:EOs G k S (e :: es) t) (hv:bootBuiltins x = some (.type T)) (hg:S.sc.lookup x = some .globalImplicit:=by rfl) (hn:x ≠ "__name__":=by decide) (hdb:(x == ("__debug__":Str)) = false:=by decide)
    (he:∀ env,starEach (e :: es) env = (false,eval e env) :: starEach es env:=by exact fun _=>Vc.se_cons rfl) (hpl:∀ env,(backTo pos (starEach es env)).any (·.1) = false:=by intro _;rfl):EX G k S (.Call (.Name x p) (e :: es) [] pos) (tCl g t):=.mk fun X Y ok=>by
  obtain ⟨r,hc,hs⟩:=h
  exact pe_imp (pe_callTy (hc X Y ok) (gl_of ok hg) (by rw [ok.mg];exact hm) hv (ha X Y ok) hn hdb (he _) (hpl _)) fun σ H Q q=>tCl_sound (by rw [ok.kf];exact hs) q
end
noncomputable def lenF:List D -> (EV -> Prop) -> Prop
  | [.lst xs],Q=>Q (.val (.int xs.length))
  | [.tup xs],Q=>Q (.val (.int xs.length))
  | [.scr ns],Q=>Q (.val (.int ns.length))
  | [.str z],Q=>z.length <= sizeLine /\ Q (.val (.int z.length))
  | _,_=>False
theorem f_len:ClR G k S (.builtin "len") lenF:=⟨fun K xs H Q=>(∃ p ys,xs = [V.ref p] /\ (SqL K H p ys \/ SqT K H p ys) /\ Q (V.int ys.length) H) \/ ∃ z,xs = [V.str z] /\ z.length <= sizeLine /\ Q (V.int z.length) H,fun _ _ _=>call_len_seq.or call_len_str,fun Y F H σd σ vs ds Qd Q R r q g=>by
  unfold lenF at q
  split at q
  · obtain ⟨v,rfl,rv⟩:=r.one
    obtain ⟨p,us,rfl,h1,h2⟩:=rv.lst
    exact .inl ⟨p,us,rfl,.inl (.inl h1),by rw [h2.length];exact g.val R (.int _) q⟩
  · obtain ⟨v,rfl,rv⟩:=r.one
    obtain ⟨p,us,rfl,h1,h2⟩:=rv.tup R.fr
    exact .inl ⟨p,us,rfl,.inr (.of h1),by rw [h2.length];exact g.val R (.int _) q⟩
  · obtain ⟨v,rfl,rv⟩:=r.one
    obtain ⟨p,rfl,h1⟩:=rv.scr R.fr
    exact .inl ⟨p,_,rfl,.inl h1,by rw [List.length_map];exact g.val R (.int _) q⟩
  · obtain ⟨v,rfl,rv⟩:=r.one
    obtain rfl:=rv.str
    exact .inr ⟨_,rfl,q.1,g.val R (.int _) q.2⟩
  · exact q.elim⟩
noncomputable def absF:List D -> (EV -> Prop) -> Prop
  | [.int i],Q=>Q (.val (.int (if i < 0 then -i else i)))
  | _,_=>False
theorem f_abs:ClR G k S (.builtin "abs") absF:=⟨fun _=>_,fun _ _ _=>call_abs,fun Y F H σd σ vs ds Qd Q R r q g=>by
  unfold absF at q
  split at q
  · obtain ⟨v,rfl,rv⟩:=r.one
    obtain rfl:=rv.int
    exact ⟨_,rfl,g.val R (.int _) q⟩
  · exact q.elim⟩
noncomputable def max2F:List D -> (EV -> Prop) -> Prop
  | [.int i,.int j],Q=>Q (.val (.int (if j > i then j else i)))
  | _,_=>False
noncomputable def min2F:List D -> (EV -> Prop) -> Prop
  | [.int i,.int j],Q=>Q (.val (.int (if j < i then j else i)))
  | _,_=>False
theorem f_max2 (hh:S.hot = false:=by rfl):ClR G k S (.builtin "max") max2F:=⟨fun _=>_,fun _ _ ok=>call_max2 (ok.calm hh),fun Y F H σd σ vs ds Qd Q R r q g=>by
  unfold max2F at q
  split at q
  · obtain ⟨v,u,rfl,rv,ru⟩:=r.two
    obtain rfl:=rv.int;obtain rfl:=ru.int
    exact ⟨_,_,rfl,g.val R (.int _) q⟩
  · exact q.elim⟩
theorem f_min2 (hh:S.hot = false:=by rfl):ClR G k S (.builtin "min") min2F:=⟨fun _=>_,fun _ _ ok=>call_min2 (ok.calm hh),fun Y F H σd σ vs ds Qd Q R r q g=>by
  unfold min2F at q
  split at q
  · obtain ⟨v,u,rfl,rv,ru⟩:=r.two
    obtain rfl:=rv.int;obtain rfl:=ru.int
    exact ⟨_,_,rfl,g.val R (.int _) q⟩
  · exact q.elim⟩
noncomputable def intF:List D -> (EV -> Prop) -> Prop
  | [.int i],Q=>Q (.val (.int i))
  | [.bl b],Q=>Q (.val (.int (if b then 1 else 0)))
  | _,_=>False
theorem f_int:ClR G k S (.type "int") intF:=⟨fun _=>_,fun _ _ ok=>call_int1,fun Y F H σd σ vs ds Qd Q R r q g=>by
  unfold intF at q
  split at q
  · obtain ⟨v,rfl,rv⟩:=r.one
    obtain rfl:=rv.int
    exact .inl ⟨_,rfl,g.val R (.int _) q⟩
  · obtain ⟨v,rfl,rv⟩:=r.one
    obtain rfl:=rv.bl
    exact .inr ⟨_,rfl,g.val R (.int _) q⟩
  · exact q.elim⟩
noncomputable def listF:List D -> (EV -> Prop) -> Prop
  | [.lst xs],Q=>Q (.own xs)
  | [.tup xs],Q=>Q (.own xs)
  | _,_=>False
theorem f_list:ClR G k S (.type "list") listF:=⟨fun K xs H Q=>∃ p ys,xs = [V.ref p] /\ (SqL K H p ys \/ SqT K H p ys) /\ ∀ l,H l = none -> Q (.ref l) (upd H l (.lst ys)),fun _ _ ok=>call_list_of,fun Y F H σd σ vs ds Qd Q R r q g=>by
  unfold listF at q
  split at q
  · obtain ⟨v,rfl,rv⟩:=r.one
    obtain ⟨p,us,rfl,h1,h2⟩:=rv.lst
    exact ⟨p,us,rfl,.inl (.inl h1),g.own R h2 q⟩
  · obtain ⟨v,rfl,rv⟩:=r.one
    obtain ⟨p,us,rfl,h1,h2⟩:=rv.tup R.fr
    exact ⟨p,us,rfl,.inr (.of h1),g.own R h2 q⟩
  · exact q.elim⟩
noncomputable def tupleF:List D -> (EV -> Prop) -> Prop
  | [.lst xs],Q=>Q (.val (.tup xs))
  | [.tup xs],Q=>Q (.val (.tup xs))
  | _,_=>False
theorem f_tuple:ClR G k S (.type "tuple") tupleF:=⟨fun K xs H Q=>∃ p ys,xs = [V.ref p] /\ ((SqL K H p ys /\ ∀ l,H l = none -> Q (.ref l) (upd H l (.tup ys))) \/ (SqT K H p ys /\ Q (.ref p) H)),fun _ _ ok=>call_tuple_of,fun Y F H σd σ vs ds Qd Q R r q g=>by
  unfold tupleF at q
  split at q
  · obtain ⟨v,rfl,rv⟩:=r.one
    obtain ⟨p,us,rfl,h1,h2⟩:=rv.lst
    exact ⟨p,us,rfl,.inl ⟨.inl h1,g.tup R h2 q⟩⟩
  · obtain ⟨v,rfl,rv⟩:=r.one
    have rv':=rv
    obtain ⟨p,us,rfl,h1,h2⟩:=rv.tup R.fr
    exact ⟨p,us,rfl,.inr ⟨.of h1,g.val R rv' q⟩⟩
  · exact q.elim⟩
end Vc

set_option Elab.async false
set_option linter.all false
set_option maxRecDepth 100000

namespace Vc
open PySem L2
variable [KF]
variable {G:GE} {k:Nat} {S:Stat}

structure EndsD where
  nx:Sd -> Prop
  rt:B -> Sd -> Prop
  bk:Sd -> Prop:=fun _=>False
  ct:Sd -> Prop:=fun _=>False
noncomputable abbrev TSd:=EndsD -> Sd -> Prop
noncomputable def RepB (Y:Dyn) (F H:Hp) (σd:Sd) (σ:St) (v:V):B -> Prop
  | .sh d=>Rep F v d
  | .own xs=>∃ a vs,v = .ref a /\ H a = some (.lst vs) /\ RepL F vs xs /\ F a = none /\ Y.H0 a = none /\ NoOwn σd σ a
  | .obj o=>∃ a,v = .ref a /\ o.rep F H a /\ ∀ b ∈ o.fp a,F b = none /\ H b ≠ none /\ Y.H0 b = none /\ NoOwn σd σ b
structure EndOk (Y:Dyn) (F:Hp) (De:EndsD) (Dn:Ends):Prop where
  nx:∀ σ H F' σd,Same F F' -> RS Y F' σd σ H -> De.nx σd -> Dn.nx σ H
  rt:∀ v σ H F' σd b,Same F F' -> RS Y F' σd σ H -> RepB Y F' H σd σ v b -> De.rt b σd -> Dn.rt v H
  bk:∀ σ H F' σd,Same F F' -> RS Y F' σd σ H -> De.bk σd -> Dn.bk σ H
  ct:∀ σ H F' σd,Same F F' -> RS Y F' σd σ H -> De.ct σd -> Dn.ct σ H
theorem EndOk.mono {Y:Dyn} {F F':Hp} {De:EndsD} {Dn:Ends} (h:EndOk Y F De Dn) (s:Same F F'):EndOk Y F' De Dn :=
  ⟨fun σ H F2 σd s2=>h.nx σ H F2 σd (s.trans s2),fun v σ H F2 σd b s2=>h.rt v σ H F2 σd b (s.trans s2),fun σ H F2 σd s2=>h.bk σ H F2 σd (s.trans s2),fun σ H F2 σd s2=>h.ct σ H F2 σd (s.trans s2)⟩
noncomputable def lS (Y:Dyn) (t:TSd):TS:=fun Dn σ H=>∃ F σd De,RS Y F σd σ H /\ t De σd /\ EndOk Y F De Dn
structure ES (G:GE) (k:Nat) (S:Stat) (st:Stmt) (t:TSd) :Prop where
  run:∀ X Y,XOk X G k S Y -> PS X st (lS Y t)
instance {G:GE} {k:Nat} {S:Stat} {st:Stmt} {t:TSd} :CoeFun (ES G k S st t) fun _=>∀ X Y,XOk X G k S Y -> PS X st (lS Y t):=⟨ES.run⟩
structure ESs (G:GE) (k:Nat) (S:Stat) (st:List Stmt) (t:TSd) :Prop where
  run:∀ X Y,XOk X G k S Y -> PSs X st (lS Y t)
instance {G:GE} {k:Nat} {S:Stat} {st:List Stmt} {t:TSd} :CoeFun (ESs G k S st t) fun _=>∀ X Y,XOk X G k S Y -> PSs X st (lS Y t):=⟨ESs.run⟩
section
variable {st:Stmt} {rest:List Stmt} {t u:TSd} {pos:Pos}
noncomputable def tNx:TSd:=fun De σ=>De.nx σ
noncomputable def tSq (t u:TSd):TSd:=fun De σ=>t { De with nx:=u De } σ
theorem s_nil:ESs G k S [] tNx:=.mk fun X Y ok=>pss_imp pss_nil fun Dn σ H q=>by
  obtain ⟨F,σd,De,R,q,K⟩:=q
  exact K.nx σ H F σd (Same.refl _) R q
theorem s_cons (h1:ES G k S st t) (h2:ESs G k S rest u):ESs G k S (st :: rest) (tSq t u):=.mk fun X Y ok=>pss_imp (pss_cons (h1 X Y ok) (h2 X Y ok)) fun Dn σ H q=>by
  obtain ⟨F,σd,De,R,q,K⟩:=q
  refine ⟨F,σd,_,R,q,⟨fun σ' H' F' σd' s R' q'=>?_,K.rt,K.bk,K.ct⟩⟩
  exact ⟨F',σd',De,R',q',K.mono s⟩
theorem s_one (h1:ES G k S st t):ESs G k S [st] t:=.mk fun X Y ok=>pss_one (h1 X Y ok)
noncomputable def tNev:TSd:=fun _ _=>False
theorem s_never:ES G k S st tNev:=.mk fun X Y ok=>ps_imp ps_never fun Dn σ H q=>by
  obtain ⟨F,σd,De,R,q,K⟩:=q
  exact q
noncomputable def tIfD (c:TB) (t u:TSd):TSd:=fun De σ=>c σ fun b σ1=>if b = true then t De σ1 else u De σ1
theorem s_if {c:Expr} {a b:List Stmt} {tc:TB} (hc:EB G k S c tc) (ha:ESs G k S a t) (hb:ESs G k S b u):ES G k S (.If c a b pos) (tIfD tc t u):=.mk fun X Y ok=>ps_imp (ps_if (hc X Y ok) (ha X Y ok) (hb X Y ok)) fun Dn σ H q=>by
  obtain ⟨F,σd,De,R,q,K⟩:=q
  refine ⟨F,σd,_,R,q,fun b H1 F1 σ1 s1 R1 q1=>?_⟩
  cases b with
  | true=>exact ⟨F1,σ1,De,R1,q1,K.mono s1⟩
  | false=>exact ⟨F1,σ1,De,R1,q1,K.mono s1⟩
noncomputable def tDp (t:TX):TSd:=fun De σ=>t σ fun _ σ1=>De.nx σ1
theorem s_expr {e:Expr} {te:TX} (he:EX G k S e te) (hs:∀ line env,swapsWith e none line env = pure false:=by intro _ _;rfl):ES G k S (.Expr e pos) (tDp te):=.mk fun X Y ok=>ps_imp (ps_expr (he X Y ok) (hs _ _)) fun Dn σ H q=>by
  obtain ⟨F,σd,De,R,q,K⟩:=q
  exact ⟨F,σd,_,R,q,fun v H1 F1 x σ1 s1 R1 r1 q1=>K.nx σ H1 F1 σ1 s1 R1 q1⟩
noncomputable def tRt (ios:List Nat) (t:TX):TSd:=fun De σ=>t σ fun x σ1=>match x with
  | .val d=>De.rt (.sh d) σ1
  | .own xs=>De.rt (.own xs) σ1
  | .obj o=>De.rt (.obj o) σ1
  | .any=>False
  | .var i=>match σ1[i]? with
    | some (some (.own xs))=>i ∉ ios /\ De.rt (.own xs) (σ1.set i none)
    | some (some (.sh d))=>De.rt (.sh d) σ1
    | some (some (.obj o))=>ios = [] /\ De.rt (.obj o) (σ1.set i none)
    | _=>False
theorem RS.forget {Y:Dyn} {F:Hp} {σd:Sd} {σ:St} {H:Hp} {i:Nat} {b:B} (R:RS Y F σd σ H) (e:σd[i]? = some (some b)) (hio:∀ p ∈ Y.io,p.1 ≠ i):RS Y F (σd.set i none) σ H where
  len:=by simpa using R.len
  lo:=R.lo
  fr:=R.fr
  fro:=R.fro
  old:=R.old
  sh:=fun j d q=>by
    by_cases hj:j = i
    · subst hj;rw [set_get_self e] at q;cases q
    · rw [set_get_ne hj] at q;exact R.sh j d q
  own:=fun j xs q=>by
    by_cases hj:j = i
    · subst hj;rw [set_get_self e] at q;cases q
    · rw [set_get_ne hj] at q;exact R.own j xs q
  dis:=fun j l xs ys a q1 q2 q3 q4=>by
    have hj:j ≠ i:=fun z=>by subst z;rw [set_get_self e] at q1;cases q1
    have hl:l ≠ i:=fun z=>by subst z;rw [set_get_self e] at q2;cases q2
    rw [set_get_ne hj] at q1;rw [set_get_ne hl] at q2
    exact R.dis j l xs ys a q1 q2 q3 q4
  io:=fun p hp=>by
    obtain ⟨w1,ys,w2⟩:=R.io p hp
    exact ⟨w1,ys,by rw [set_get_ne (hio p hp)];exact w2⟩
  ob:=R.ob.put (fun _ _=>rfl) (fun _ z=>nomatch z) fun _ _ z=>nomatch z
theorem RS.nio {Y:Dyn} {F:Hp} {σd:Sd} {σ:St} {H:Hp} {i:Nat} {xs:List D} (R:RS Y F σd σ H) (h:σd[i]? = some (some (.own xs))) (hio:∀ p ∈ Y.io,p.1 ≠ i) {a:Addr} (q1:σ[i]? = some (some (.ref a))):Y.H0 a = none /\ a ∉ Y.ioL:=by
  obtain ⟨b,vs,w1,w2,w3,w4,w5⟩:=R.own i xs h
  rw [q1] at w1;cases w1
  have nin:a ∉ Y.ioL:=fun q5=>by
    obtain ⟨p,hp,e⟩:=List.mem_map.mp q5
    obtain ⟨z1,ys,z2⟩:=R.io p hp
    exact absurd (R.dis p.1 i ys xs a z2 h (by rw [z1,e]) q1) (hio p hp)
  rcases w5 with w5 | w5
  · exact ⟨w5,nin⟩
  · exact absurd w5 nin
theorem s_ret {e:Expr} {te:TX} (he:EX G k S e te) (hblk:S.blk = false:=by rfl):ES G k S (.Return (some e) pos) (tRt S.ios te):=.mk fun X Y ok=>ps_imp (ps_ret (he X Y ok)) fun Dn σ H q=>by
  obtain ⟨F,σd,De,R,q,K⟩:=q
  refine ⟨F,σd,_,R,q,fun v H1 F1 x σ1 s1 R1 r1 q1=>?_⟩
  cases x with
  | val d=>exact K.rt v σ H1 F1 σ1 (.sh d) s1 R1 r1 q1
  | own xs=>exact K.rt v σ H1 F1 σ1 (.own xs) s1 R1 r1 q1
  | obj o=>exact K.rt v σ H1 F1 σ1 (.obj o) s1 R1 r1 q1
  | any=>exact False.elim q1
  | var i =>
    have r1:σ[i]? = some (some v):=r1
    dsimp only at q1
    split at q1
    · rename_i xs e
      obtain ⟨a,vs,w1,w2,w3,w4,w5⟩:=R1.own i xs e
      rw [r1] at w1;cases w1
      have hio:∀ p ∈ Y.io,p.1 ≠ i:=fun p hp z=>q1.1 (z ▸ ok.ios p hp)
      refine K.rt _ σ H1 F1 _ (.own xs) s1 (R1.forget e hio) ⟨a,vs,rfl,w2,w3,w4,(R1.nio e hio r1).1,⟨fun j ys e2 z=>?_,fun ⟨j,o,c,e2,e3,hm⟩=>?_⟩⟩ q1.2
      · by_cases hj:j = i
        · subst hj;rw [set_get_self e] at e2;cases e2
        · rw [set_get_ne hj] at e2
          exact hj (R1.dis j i ys xs a e2 e z r1)
      · have hj:j ≠ i:=fun z=>by subst z;rw [set_get_self e] at e2;cases e2
        rw [set_get_ne hj] at e2
        exact R1.ob.dsx i xs a e r1 ⟨j,o,c,e2,e3,hm⟩
    · rename_i d e
      obtain ⟨v2,e2,r2⟩:=R1.sh i d e
      rw [r1] at e2;cases e2
      exact K.rt v σ H1 F1 σ1 (.sh d) s1 R1 r2 q1
    · rename_i o e
      obtain ⟨a,w1,w2,w3⟩:=R1.ob.obj i o e
      rw [r1] at w1;cases w1
      have hob:=ok.obs hblk q1.1
      have hio:∀ p ∈ Y.io,p.1 ≠ i:=fun p hp z=>by
        have:=ok.ios p hp
        rw [q1.1] at this;cases this
      refine K.rt _ σ H1 F1 _ (.obj o) s1 (R1.forget e hio) ⟨a,rfl,w2,fun b hb=>⟨(w3 b hb).1,(w3 b hb).2.1,?_,⟨fun j ys e2 z=>?_,fun ⟨j,o2,c,e2,e3,hm⟩=>?_⟩⟩⟩ q1.2
      · rcases (w3 b hb).2.2 with z | z
        · exact z
        · rw [hob] at z;cases z
      · have hj:j ≠ i:=fun z=>by subst z;rw [set_get_self e] at e2;cases e2
        rw [set_get_ne hj] at e2
        exact R1.ob.dsx j ys b e2 z ⟨i,o,a,e,r1,hb⟩
      · have hj:j ≠ i:=fun z=>by subst z;rw [set_get_self e] at e2;cases e2
        rw [set_get_ne hj] at e2
        exact R1.ob.dso j i o2 o c a e2 e e3 r1 hj b hm hb
    · exact q1.elim
end

theorem gs {α:Type} {l:List α} {i j:Nat} {x y:α} (h:(l.set i x)[j]? = some y):(j = i /\ y = x) \/ (j ≠ i /\ l[j]? = some y):=by
  by_cases hj:j = i
  · subst hj
    by_cases hl:j < l.length
    · rw [List.getElem?_set_self hl] at h;exact .inl ⟨rfl,(Option.some.inj h).symm⟩
    · have:(l.set j x)[j]? = none:=by rw [List.getElem?_eq_none_iff];simp;omega
      rw [this] at h;cases h
  · rw [List.getElem?_set_ne (Ne.symm hj)] at h;exact .inr ⟨hj,h⟩
theorem gs_ne {α:Type} {l:List α} {i j:Nat} {x:α} (h:j ≠ i):(l.set i x)[j]? = l[j]?:=List.getElem?_set_ne (Ne.symm h)
theorem gs_eq {α:Type} {l:List α} {i:Nat} {x:α} (h:i < l.length):(l.set i x)[i]? = some x:=List.getElem?_set_self h
theorem gs_lt {α:Type} {l:List α} {i j:Nat} {x y:α} (h:(l.set i x)[j]? = some y):j < l.length:=by
  have:=(List.getElem?_eq_some_iff.mp h).1
  simpa using this
theorem RS.setSh {Y:Dyn} {F:Hp} {σd:Sd} {σ:St} {H:Hp} {i:Nat} {d:D} {v:V} (R:RS Y F σd σ H) (r:Rep F v d) (hio:∀ p ∈ Y.io,p.1 ≠ i):RS Y F (σd.set i (some (.sh d))) (σ.set i (some v)) H where
  len:=by simpa using R.len
  lo:=R.lo
  fr:=R.fr
  fro:=R.fro
  old:=R.old
  sh:=fun j e q=>by
    rcases gs q with ⟨rfl,z⟩ | ⟨hj,q'⟩
    · cases z
      exact ⟨v,gs_eq (by rw [<- R.len];exact gs_lt q),r⟩
    · obtain ⟨u,w1,w2⟩:=R.sh j e q'
      exact ⟨u,by rw [gs_ne hj];exact w1,w2⟩
  own:=fun j xs q=>by
    rcases gs q with ⟨_,z⟩ | ⟨hj,q'⟩
    · cases z
    · obtain ⟨a,vs,w1,w2⟩:=R.own j xs q'
      exact ⟨a,vs,by rw [gs_ne hj];exact w1,w2⟩
  dis:=fun j l xs ys a q1 q2 q3 q4=>by
    rcases gs q1 with ⟨_,z⟩ | ⟨hj,q1⟩
    · cases z
    rcases gs q2 with ⟨_,z⟩ | ⟨hl,q2⟩
    · cases z
    rw [gs_ne hj] at q3;rw [gs_ne hl] at q4
    exact R.dis j l xs ys a q1 q2 q3 q4
  io:=fun p hp=>by
    obtain ⟨w1,ys,w2⟩:=R.io p hp
    exact ⟨by rw [gs_ne (hio p hp)];exact w1,ys,by rw [gs_ne (hio p hp)];exact w2⟩
  ob:=R.ob.put (fun _ hj=>gs_ne hj) (fun _ z=>nomatch z) fun _ _ z=>nomatch z
theorem RS.setOwn {Y:Dyn} {F:Hp} {σd:Sd} {σ:St} {H:Hp} {i:Nat} {xs:List D} {a:Addr} {vs:List V} (R:RS Y F σd σ H) (h1:H a = some (.lst vs)) (h2:RepL F vs xs) (h3:F a = none) (h4:Y.H0 a = none) (h5:NoOwn σd σ a)
    (hio:∀ p ∈ Y.io,p.1 ≠ i):RS Y F (σd.set i (some (.own xs))) (σ.set i (some (.ref a))) H where
  len:=by simpa using R.len
  lo:=R.lo
  fr:=R.fr
  fro:=R.fro
  old:=R.old
  sh:=fun j e q=>by
    rcases gs q with ⟨_,z⟩ | ⟨hj,q'⟩
    · cases z
    · obtain ⟨u,w1,w2⟩:=R.sh j e q'
      exact ⟨u,by rw [gs_ne hj];exact w1,w2⟩
  own:=fun j ys q=>by
    rcases gs q with ⟨rfl,z⟩ | ⟨hj,q'⟩
    · cases z
      exact ⟨a,vs,gs_eq (by rw [<- R.len];exact gs_lt q),h1,h2,h3,.inl h4⟩
    · obtain ⟨b,us,w1,w2⟩:=R.own j ys q'
      exact ⟨b,us,by rw [gs_ne hj];exact w1,w2⟩
  dis:=fun j l ys zs b q1 q2 q3 q4=>by
    rcases gs q1 with ⟨rfl,z⟩ | ⟨hj,q1⟩
    · rcases gs q2 with ⟨e,z⟩ | ⟨hl,q2⟩
      · exact e.symm
      · rw [gs_ne hl] at q4
        rcases gs q3 with ⟨_,z3⟩ | ⟨hc,_⟩
        · cases z3
          exact absurd q4 (h5 l zs q2)
        · exact absurd rfl hc
    · rw [gs_ne hj] at q3
      rcases gs q2 with ⟨e2,z⟩ | ⟨hl,q2⟩
      · rcases gs q4 with ⟨_,z4⟩ | ⟨hc,_⟩
        · cases z4
          exact absurd q3 (h5 j ys (by assumption))
        · exact absurd e2 hc
      · rw [gs_ne hl] at q4
        exact R.dis j l ys zs b (by assumption) q2 q3 q4
  io:=fun p hp=>by
    obtain ⟨w1,ys,w2⟩:=R.io p hp
    exact ⟨by rw [gs_ne (hio p hp)];exact w1,ys,by rw [gs_ne (hio p hp)];exact w2⟩
  ob:=R.ob.put (fun _ hj=>gs_ne hj) (fun _ z=>nomatch z) fun ys b _ z=>by
    rcases gs z with ⟨_,z2⟩ | ⟨hc,_⟩
    · cases z2;exact h5.nob
    · exact absurd rfl hc
theorem RS.setObj {Y:Dyn} {F:Hp} {σd:Sd} {σ:St} {H:Hp} {i:Nat} {o:O} {a:Addr} (R:RS Y F σd σ H) (h1:o.rep F H a) (h2:∀ b ∈ o.fp a,F b = none /\ H b ≠ none /\ Y.H0 b = none /\ NoOwn σd σ b)
    (hio:∀ p ∈ Y.io,p.1 ≠ i):RS Y F (σd.set i (some (.obj o))) (σ.set i (some (.ref a))) H where
  len:=by simpa using R.len
  lo:=R.lo
  fr:=R.fr
  fro:=R.fro
  old:=R.old
  sh:=fun j e q=>by
    rcases gs q with ⟨_,z⟩ | ⟨hj,q'⟩
    · cases z
    · obtain ⟨u,w1,w2⟩:=R.sh j e q'
      exact ⟨u,by rw [gs_ne hj];exact w1,w2⟩
  own:=fun j ys q=>by
    rcases gs q with ⟨_,z⟩ | ⟨hj,q'⟩
    · cases z
    · obtain ⟨b,us,w1,w2⟩:=R.own j ys q'
      exact ⟨b,us,by rw [gs_ne hj];exact w1,w2⟩
  dis:=fun j l ys zs b q1 q2 q3 q4=>by
    rcases gs q1 with ⟨_,z⟩ | ⟨hj,q1⟩
    · cases z
    rcases gs q2 with ⟨_,z⟩ | ⟨hl,q2⟩
    · cases z
    rw [gs_ne hj] at q3;rw [gs_ne hl] at q4
    exact R.dis j l ys zs b q1 q2 q3 q4
  io:=fun p hp=>by
    obtain ⟨w1,ys,w2⟩:=R.io p hp
    exact ⟨by rw [gs_ne (hio p hp)];exact w1,ys,by rw [gs_ne (hio p hp)];exact w2⟩
  ob:=by
    have at':∀ {j:Nat} {c:Addr},j = i -> (σ.set i (some (.ref a)))[j]? = some (some (.ref c)) -> c = a:=fun {j c} e z=>by
      subst e
      rcases gs z with ⟨_,z2⟩ | ⟨hc,_⟩
      · cases z2;rfl
      · exact absurd rfl hc
    refine ⟨fun j p q=>?_,fun j l p p2 c d q1 q2 q3 q4 hne x hx hx2=>?_,fun j ys b q1 q2 ⟨l,p,c,q3,q4,hm⟩=>?_,R.ob.there,R.ob.thz,R.ob.tab⟩
    · rcases gs q with ⟨rfl,z⟩ | ⟨hj,q'⟩
      · cases z
        exact ⟨a,gs_eq (by rw [<- R.len];exact gs_lt q),h1,fun b hb=>⟨(h2 b hb).1,(h2 b hb).2.1,.inl (h2 b hb).2.2.1⟩⟩
      · obtain ⟨c,w1,w2⟩:=R.ob.obj j p q'
        exact ⟨c,by rw [gs_ne hj];exact w1,w2⟩
    · rcases gs q1 with ⟨e1,z⟩ | ⟨hj,q1'⟩
      · cases z
        rcases gs q2 with ⟨e2,z⟩ | ⟨hl,q2'⟩
        · exact hne (e1.trans e2.symm)
        · rw [gs_ne hl] at q4
          have:=at' e1 q3
          subst this
          exact (h2 x hx).2.2.2.nob ⟨l,p2,d,q2',q4,hx2⟩
      · rw [gs_ne hj] at q3
        rcases gs q2 with ⟨e2,z⟩ | ⟨hl,q2'⟩
        · cases z
          have:=at' e2 q4
          subst this
          exact (h2 x hx2).2.2.2.nob ⟨j,p,c,q1',q3,hx⟩
        · rw [gs_ne hl] at q4
          exact R.ob.dso j l p p2 c d q1' q2' q3 q4 hne x hx hx2
    · rcases gs q1 with ⟨_,z⟩ | ⟨hj,q1'⟩
      · cases z
      rw [gs_ne hj] at q2
      rcases gs q3 with ⟨e3,z⟩ | ⟨hl,q3'⟩
      · cases z
        have:=at' e3 q4
        subst this
        exact (h2 b hm).2.2.2 j ys q1' q2
      · rw [gs_ne hl] at q4
        exact R.ob.dsx j ys b q1' q2 ⟨l,p,c,q3',q4,hm⟩
noncomputable def stD (ios:List Nat) (i:Nat) (x:EV) (σ:Sd) (Q:Sd -> Prop):Prop:=match x with
  | .val d=>Q (σ.set i (some (.sh d)))
  | .own xs=>Q (σ.set i (some (.own xs)))
  | .obj o=>Q (σ.set i (some (.obj o)))
  | .any=>False
  | .var j=>match σ[j]? with
    | some (some (.own xs))=>j ∉ ios /\ Q ((σ.set j (some (.sh (.lst xs)))).set i (some (.sh (.lst xs))))
    | some (some (.sh d))=>Q (σ.set i (some (.sh d)))
    | _=>False
theorem stD_sound {Y:Dyn} {F:Hp} {σd:Sd} {σ:St} {H:Hp} {i:Nat} {v:V} {x:EV} {ios:List Nat} {Q:Sd -> Prop} (R:RS Y F σd σ H) (r:RepX Y F H σd σ v x) (hi:i ∉ ios) (hio:∀ p ∈ Y.io,p.1 ∈ ios) (q:stD ios i x σd Q) :
    ∃ F' σd',Same F F' /\ RS Y F' σd' (σ.set i (some v)) H /\ Q σd':=by
  have h0:∀ p ∈ Y.io,p.1 ≠ i:=fun p hp z=>hi (z ▸ hio p hp)
  cases x with
  | val d=>exact ⟨F,_,Same.refl _,R.setSh r h0,q⟩
  | own xs =>
    obtain ⟨a,vs,rfl,h1,h2,h3,h4,h5⟩:=r
    exact ⟨F,_,Same.refl _,R.setOwn h1 h2 h3 h4 h5 h0,q⟩
  | obj o =>
    obtain ⟨a,rfl,h1,h2⟩:=r
    exact ⟨F,_,Same.refl _,R.setObj h1 h2 h0,q⟩
  | any=>exact False.elim q
  | var j =>
    have r:σ[j]? = some (some v):=r
    unfold stD at q
    dsimp only at q
    split at q
    · rename_i xs e
      obtain ⟨F2,v2,s2,R2,e2,r2⟩:=R.freezeVar e fun p hp z=>q.1 (z ▸ hio p hp)
      rw [r] at e2;cases e2
      exact ⟨F2,_,s2,R2.setSh r2 h0,q.2⟩
    · rename_i d e
      obtain ⟨v2,e2,r2⟩:=R.sh j d e
      rw [r] at e2;cases e2
      exact ⟨F,_,Same.refl _,R.setSh r2 h0,q⟩
    · exact q.elim
noncomputable def tSt (ios:List Nat) (i:Nat) (t:TX):TSd:=fun De σ=>t σ fun x σ1=>stD ios i x σ1 De.nx
theorem loc_of {X:Cx} {Y:Dyn} (ok:XOk X G k S Y) {x:Str} (h:S.sc.lookup x = some .local \/ (S.sc.lookup x = some .cell /\ S.blk = false)):L2.Loc X.env.scope x:=by
  unfold L2.Loc;rw [ok.sc];exact h.imp id (·.1)
theorem fn_of' {X:Cx} {Y:Dyn} (ok:XOk X G k S Y) {x:Str} (h:S.sc.lookup x = some .local \/ (S.sc.lookup x = some .cell /\ S.blk = false)):X.fn x = true \/ X.env.scope.names.lookup x = some .local:=by
  rcases h with h | h
  · right;rw [ok.sc];exact h
  · left;exact ok.fn h.2 x h.1
theorem s_set (i:Nat) {x:Str} {e:Expr} {te:TX} {pos pos':Pos} (he:EX G k S e te) (hi:S.N[i]? = some x:=by rfl) (hx:S.sc.lookup x = some .local \/ (S.sc.lookup x = some .cell /\ S.blk = false):=by first | exact Or.inl rfl | exact Or.inr ⟨rfl,rfl⟩) (hn:i ∉ S.ios:=by first | decide | exact List.not_mem_nil)
    (hs:∀ line env,swapsWith e (some (.Name x pos')) line env = pure false:=by intro _ _;rfl):ES G k S (.Assign [.Name x pos'] e pos) (tSt S.ios i te):=.mk fun X Y ok =>
  ps_imp (L2.ps_set (i:=i) (by rw [ok.N];exact ok.nd) (by rw [ok.N];exact hi) (loc_of ok hx) (he X Y ok) (hs _ _) (fn_of' ok hx)) fun Dn σ H q=>by
    obtain ⟨F,σd,De,R,q,K⟩:=q
    refine ⟨F,σd,_,R,q,fun v H1 F1 y σ1 s1 R1 r1 q1=>?_⟩
    obtain ⟨F2,σ2,s2,R2,q2⟩:=stD_sound R1 r1 hn ok.ios q1
    exact K.nx _ H1 F2 σ2 (s1.trans s2) R2 q2
theorem RS.write {Y:Dyn} {F:Hp} {σd:Sd} {σ:St} {H:Hp} {i:Nat} {xs ys:List D} {a:Addr} {us:List V} (R:RS Y F σd σ H) (e:σd[i]? = some (some (.own xs))) (h:σ[i]? = some (some (.ref a))) (r:RepL F us ys) :
    RS Y F (σd.set i (some (.own ys))) σ (upd H a (.lst us)):=by
  obtain ⟨b,vs,w1,w2,w3,w4,w5⟩:=R.own i xs e
  rw [h] at w1;cases w1
  have hl:i < σd.length:=(List.getElem?_eq_some_iff.mp e).1
  have hob:Obs Y F (σd.set i (some (.own ys))) σ (upd H a (.lst us)):=R.ob.step (Same.refl _) (fun j o q=>by
    rcases gs q with ⟨_,z⟩ | ⟨hj,q⟩
    · cases z
    · exact ⟨q,rfl⟩) (fun b hb=>by
    obtain ⟨z1,z2,z3⟩:=R.ob.owned hb
    have hne:b ≠ a:=fun z=>R.ob.dsx i xs a e h (z ▸ hb)
    exact ⟨upd_ne hne,z1,z3⟩) (fun j zs b q1 q2=>by
    rcases gs q1 with ⟨e1,_⟩ | ⟨hj,q1⟩
    · subst e1
      rw [h] at q2;cases q2
      exact R.ob.dsx j xs a e h
    · exact R.ob.dsx j zs b q1 q2) fun b hb=>by
    by_cases hne:b = a
    · rw [hne,upd_same];exact fun z=>nomatch z
    · rw [upd_ne hne];exact R.ob.there b hb
  refine ⟨by simpa using R.len,R.lo,fun b o q=>?_,R.fro,fun b o q n=>?_,fun j d q=>?_,fun j zs q=>?_,fun j l zs qs b q1 q2 q3 q4=>?_,fun p hp=>?_,hob⟩
  · have:b ≠ a:=fun z=>by rw [z,w4] at q;cases q
    rw [upd_ne this];exact R.fr b o q
  · have:b ≠ a:=fun z=>by
      subst z
      rcases w5 with w5 | w5
      · rw [w5] at q;cases q
      · exact Dyn.ioL_sub n w5
    rw [upd_ne this];exact R.old b o q n
  · rcases gs q with ⟨_,z⟩ | ⟨hj,q⟩
    · cases z
    · exact R.sh j d q
  · rcases gs q with ⟨rfl,z⟩ | ⟨hj,q⟩
    · cases z
      exact ⟨a,us,h,upd_same,r,w4,w5⟩
    · obtain ⟨b,ws,z1,z2,z3,z4,z5⟩:=R.own j zs q
      have:b ≠ a:=fun z=>hj (R.dis j i zs xs a q e (z ▸ z1) h)
      exact ⟨b,ws,z1,by rw [upd_ne this];exact z2,z3,z4,z5⟩
  · have f:∀ {m:Nat} {ms:List D},(σd.set i (some (B.own ys)))[m]? = some (some (B.own ms)) -> ∃ ms',σd[m]? = some (some (B.own ms')):=fun {m ms} q=>by
      rcases gs q with ⟨rfl,z⟩ | ⟨hj,q⟩
      · exact ⟨xs,e⟩
      · exact ⟨_,q⟩
    obtain ⟨_,q1⟩:=f q1
    obtain ⟨_,q2⟩:=f q2
    exact R.dis j l _ _ b q1 q2 q3 q4
  · obtain ⟨z1,zs,z2⟩:=R.io p hp
    refine ⟨z1,?_⟩
    by_cases hp':p.1 = i
    · exact ⟨ys,by rw [hp',gs_eq hl]⟩
    · exact ⟨zs,by rw [gs_ne hp'];exact z2⟩
noncomputable def isOwn (σ:Sd) (i:Nat):Prop:=∃ xs,σ[i]? = some (some (B.own xs))
noncomputable def appQ (i:Nat) (d:D) (σ:Sd) (Q:Sd -> Prop):Prop:=match σ[i]? with
  | some (some (.own xs))=>xs.length < sizeLine /\ Q (σ.set i (some (.own (xs ++ [d]))))
  | _=>False
noncomputable def tApp (to:TV) (te:TD):TX:=fun σ Q=>to σ fun x σ1=>match x with
  | .var i=>isOwn σ1 i /\ te σ1 fun d σ2=>appQ i d σ2 fun σ3=>Q (.val .non) σ3
  | _=>False
theorem r_append {o e:Expr} {to:TV} {te:TD} {apos cpos:Pos} (ho:EO G k S o to) (he:ED G k S e te) (hb:∀ env,attributeBase o "append" env (eval o env) = eval o env:=by intro _;rfl)
    (hfew:∀ env,((backTo cpos (starEach [e] env)).all (fun x=>!x.1) && (backToKw cpos (keywordEach [] env)).all (fun x=>x.1.isSome) && decide (([e]:List Expr).length + ([]:List Keyword).length + (if ([]:List Keyword).isEmpty then 0 else 1) < 30)) = true:=by intro _;rfl)
    (hline:(apos.endLine == cpos.line) = true:=by rfl) (hs:∀ env,starEach [e] env = [(false,eval e env)]:=by intro _;rfl):EX G k S (.Call (.Attribute o "append" apos) [e] [] cpos) (tApp to te):=.mk fun X Y ok=>by
  have ha:PA X [e] (tCons (lD Y te) tNil):=pa_cons (he X Y ok) pa_nil (by rw [hs];rfl)
  refine pe_imp (pe_bm F.plainAttrs_list F.slot_list_append F.type_list_append mt_append (ho X Y ok) ha (hb _) (hfew _) hline (by rw [hs];rfl) (by rfl)) fun σ H Q q=>?_
  obtain ⟨F,σd,Qd,R,q,K⟩:=q
  refine ⟨F,σd,_,R,q,fun v1 H1 F1 x σ1 s1 R1 r1 q1=>?_⟩
  cases x with
  | val d=>exact q1.elim
  | any=>exact q1.elim
  | var i =>
    obtain ⟨⟨ys,e0⟩,q1⟩:=q1
    have r1:σ[i]? = some (some v1):=r1
    obtain ⟨a,vs,w1,w2,w3,w4,w5⟩:=R1.own i ys e0
    rw [r1] at w1;cases w1
    refine ⟨.inl ⟨rfl,vs,.of w2⟩,F1,σ1,_,R1,q1,fun v2 H2 F2 d σ2 s2 R2 r2 q2=>?_⟩
    unfold appQ at q2
    split at q2
    · rename_i xs e2
      obtain ⟨b,us,z1,z2,z3,z4,z5⟩:=R2.own i xs e2
      rw [r1] at z1;cases z1
      exact ⟨a,us,v2,rfl,rfl,z2,by rw [z3.length];exact q2.1,K .non _ F2 (.val .non) _ (s1.trans s2) (R2.write e2 r1 (z3.append (.cons r2 .nil))) .non q2.2⟩
    · exact q2.elim
end Vc

set_option Elab.async false
set_option linter.all false
set_option maxRecDepth 100000

namespace Vc
open PySem L2
variable [KF]
variable {G:GE} {k:Nat} {S:Stat}

noncomputable abbrev FSp:=List D -> (B -> Prop) -> Prop
noncomputable def RepR (H F H':Hp) (v:V):B -> Prop
  | .sh d=>Rep F v d
  | .own xs=>∃ a vs,v = .ref a /\ H' a = some (.lst vs) /\ RepL F vs xs /\ F a = none /\ H a = none
  | .obj o=>∃ a,v = .ref a /\ o.rep F H' a /\ ∀ b ∈ o.fp a,F b = none /\ H' b ≠ none /\ H b = none
noncomputable def spOf (sp:FSp):Sp:=fun vs H Q _=>∃ F ds Qd,SameT F H /\ RepL F vs ds /\ sp ds Qd /\
  ∀ v H' F' b,Same F F' -> Same F' H' -> Same H H' -> (∀ c o,F' c = some o -> F c = some o \/ Nw H c o) -> RepR H F' H' v b -> Qd b -> Q v H'
theorem RS.call {Y:Dyn} {F F':Hp} {σd:Sd} {σ:St} {H H':Hp} (R:RS Y F σd σ H) (s1:Same F F') (s2:Same F' H') (s3:Same H H') (fr:∀ c o,F' c = some o -> F c = some o \/ Nw H c o):RS Y F' σd σ H' where
  len:=R.len
  lo:=R.lo.trans s1
  fr:=s2
  fro:=fun b o e=>by
    rcases fr b o e with h | h
    · exact R.fro b o h
    · exact .inr (h.imp (fun h=>(R.fresh0 h).1) id)
  old:=fun b o e n=>s3 b o (R.old b o e n)
  sh:=fun i d e=>by
    obtain ⟨v,h1,h2⟩:=R.sh i d e
    exact ⟨v,h1,h2.mono s1⟩
  own:=fun i xs e=>by
    obtain ⟨a,vs,h1,h2,h3,h4,h5⟩:=R.own i xs e
    refine ⟨a,vs,h1,s3 a _ h2,h3.mono s1,?_,h5⟩
    cases q:F' a with
    | none=>rfl
    | some o =>
      rcases fr a o q with h | h
      · rw [h4] at h;cases h
      · rcases h with h | ⟨ws,rfl⟩
        · rw [h2] at h;cases h
        · have z:=s2 a _ q;rw [s3 a _ h2] at z;cases z
  dis:=R.dis
  io:=R.io
  ob:=by
    have up:∀ b,H b ≠ none -> H' b = H b:=fun b hb=>by
      cases q:H b with
      | none=>exact absurd q hb
      | some o=>exact s3 b o q
    refine R.ob.step s1 (fun _ _ e=>⟨e,rfl⟩) (fun b hb=>?_) R.ob.dsx fun b hb=>by rw [up b (R.ob.there b hb)];exact R.ob.there b hb
    obtain ⟨w1,w2,w3⟩:=R.ob.owned hb
    refine ⟨up b w2,?_,w3⟩
    cases q:F' b with
    | none=>rfl
    | some o =>
      rcases fr b o q with h | h
      · rw [w1] at h;cases h
      · rcases h with h | ⟨ws,rfl⟩
        · exact absurd h w2
        · exact absurd (by rw [<- up b w2];exact s2 b _ q) (R.ob.notup hb)
noncomputable def FnG (G:GE) (k:Nat) (x:Str) (sp:FSp):Prop:=∃ f fd ps,FnOk G.P G.w G.K G.mg G.base CX0 k f fd ps (spOf sp) /\ G.mg x = some (.ref f) /\ PySem.W.keepIn G.K (.ref f) = true /\ Binds G.K fd ps []
theorem FnG.mono {x:Str} {sp:FSp} {j:Nat} (h:FnG G j x sp) (l:j <= k):FnG G k x sp:=by
  obtain ⟨f,fd,ps,h1,h2,h3,h4⟩:=h
  exact ⟨f,fd,ps,h1.mono l,h2,h3,h4⟩
noncomputable def bE:B -> EV
  | .sh d=>.val d
  | .own xs=>.own xs
  | .obj o=>.obj o
noncomputable def Cl (sp:FSp) (ds:List D) (Q:B -> Prop):Prop:=sp ds Q
noncomputable def tCa (sp:FSp) (t:TDs):TX:=fun σ Q=>t σ fun ds σ1=>Cl sp ds fun b=>Q (bE b) σ1
theorem r_call {x:Str} {sp:FSp} {e:Expr} {es:List Expr} {t:TDs} {p pos:Pos} (h:FnG G k x sp) (ha:EDs G k S (e :: es) t) (hg:S.sc.lookup x = some .globalImplicit:=by rfl) (hdb:(x == ("__debug__":Str)) = false:=by decide)
    (he:∀ env,starEach (e :: es) env = (false,eval e env) :: starEach es env:=by exact fun _=>Vc.se_cons rfl) (hpl:∀ env,(backTo pos (starEach es env)).any (·.1) = false:=by intro _;rfl) (hh:S.hot = false:=by rfl):EX G k S (.Call (.Name x p) (e :: es) [] pos) (tCa sp t):=.mk fun X Y ok=>by
  obtain ⟨f,fd,ps,h1,h2,h3,h4⟩:=h
  have h1':FnOk X.prog X.w X.K X.mg X.base CX0 k f fd ps (spOf sp):=by rw [ok.P,ok.w,ok.K,ok.mg,ok.base];exact h1
  refine pe_imp (pe_call (E:=E0) (dvs:=[]) (ds:=[]) h1' (ok.room hh) (gl_of ok hg) (by rw [ok.mg];exact h2) (by rw [ok.K];exact h3) (by rw [ok.K];exact h4) .nil pass0 (ha X Y ok) hdb (he _) (hpl _)) fun σ H Q q=>?_
  obtain ⟨F,σd,Qd,R,q,K⟩:=q
  refine ⟨F,σd,_,R,q,fun vs H1 F1 ds σ1 s1 R1 r1 q1=>?_⟩
  show spOf sp (vs ++ []) H1 Q E0
  rw [List.append_nil]
  refine ⟨F1,ds,_,⟨R1.fr,R1.ob.tab⟩,r1,q1,fun v H' F' b s2 s3 s4 fr r2 q2=>?_⟩
  have R2:=R1.call s2 s3 s4 fr
  cases b with
  | sh d=>exact K v H' F' (.val d) σ1 (s1.trans s2) R2 r2 q2
  | own xs =>
    obtain ⟨a,us,rfl,w1,w2,w3,w4⟩:=r2
    refine K _ H' F' (.own xs) σ1 (s1.trans s2) R2 ⟨a,us,rfl,w1,w2,w3,(R1.fresh0 w4).1,R1.noFresh w4⟩ q2
  | obj o =>
    obtain ⟨a,rfl,w1,w2⟩:=r2
    exact K _ H' F' (.obj o) σ1 (s1.trans s2) R2 ⟨a,rfl,w1,fun b hb=>⟨(w2 b hb).1,(w2 b hb).2.1,(R1.fresh0 (w2 b hb).2.2).1,R1.noFresh (w2 b hb).2.2⟩⟩ q2

noncomputable def startD (n:Nat) (ds:List D):Sd:=ds.map (fun d=>some (.sh d)) ++ List.replicate (n - ds.length) none
theorem start_sh {F:Hp}:∀ {vs:List V} {ds:List D} (m:Nat) {i:Nat} {d:D},RepL F vs ds -> (ds.map (fun d=>some (B.sh d)) ++ List.replicate m none)[i]? = some (some (.sh d)) -> ∃ v,(vs.map some ++ List.replicate m none)[i]? = some (some v) /\ Rep F v d
  | [],[],m,i,d,.nil,e=>by
    simp only [List.map_nil,List.nil_append,List.getElem?_replicate] at e
    split at e<;>cases e
  | v :: vs,x :: ds,m,0,d,.cons r t,e=>by
    simp at e;subst e
    exact ⟨v,by simp,r⟩
  | v :: vs,x :: ds,m,i + 1,d,.cons r t,e=>by
    obtain ⟨u,h1,h2⟩:=start_sh (i:=i) m t (by simpa using e)
    exact ⟨u,by simpa using h1,h2⟩
theorem start_own:∀ (ds:List D) (m i:Nat) (xs:List D),(ds.map (fun d=>some (B.sh d)) ++ List.replicate m none)[i]? ≠ some (some (.own xs))
  | [],m,i,xs=>by
    simp only [List.map_nil,List.nil_append,List.getElem?_replicate]
    intro e
    split at e<;>cases e
  | x :: ds,m,0,xs=>by simp
  | x :: ds,m,i + 1,xs=>by
    have:=start_own ds m i xs
    simpa using this
theorem start_obj:∀ (ds:List D) (m i:Nat) (o:O),(ds.map (fun d=>some (B.sh d)) ++ List.replicate m none)[i]? ≠ some (some (.obj o))
  | [],m,i,o=>by
    simp only [List.map_nil,List.nil_append,List.getElem?_replicate]
    intro e
    split at e<;>cases e
  | x :: ds,m,0,o=>by simp
  | x :: ds,m,i + 1,o=>by
    have:=start_obj ds m i o
    simpa using this
theorem RS.start {F H:Hp} {vs:List V} {ds:List D} (n:Nat) (s:SameT F H) (r:RepL F vs ds):RS ⟨H,F,[],[]⟩ F (startD n ds) (vs.map some ++ List.replicate (n - vs.length) none) H where
  len:=by unfold startD;simp [r.length]
  lo:=Same.refl _
  fr:=s.1
  fro:=fun b o e=>.inl e
  old:=fun b o e _=>e
  sh:=fun i d e=>by
    rw [r.length]
    exact start_sh _ r e
  own:=fun i xs e=>absurd e (start_own _ _ _ _)
  dis:=fun i j xs ys a e=>absurd e (start_own _ _ _ _)
  io:=fun p hp=>absurd hp (by simp)
  ob:=.none (fun i o=>start_obj _ _ _ _) s.2 fun b hb=>by cases hb
theorem fn_ok {x qual:Str} {st:Stmt} {f:Addr} {fd:FuncData} {N ps:List Str} {sp:FSp} {t:TSd} (hK:G.K = KF.K) (Fn:Fun G.K x qual st f fd) (Sc:FnScope N ps (defScope st)) (ht:ESs G k ⟨N,(defScope st).names,[],false,false,false,fun _ _=>False⟩ (defBody st) t)
    (len:∀ ds Q,sp ds Q -> ds.length = ps.length)
    (body:∀ ds Q,sp ds Q -> t { nx:=fun _=>Q (.sh .non),rt:=fun b _=>Q b } (startD N.length ds)):FnOk G.P G.w G.K G.mg G.base CX0 (k + 1) f fd ps (spOf sp):=by
  refine Fn.ok Sc (fun vs H Q E h=>?_) (fun cdv A outer s H vs Q E hr h=>?_)
  · obtain ⟨F,ds,Qd,s,r,q,K⟩:=h
    rw [r.length];exact len _ _ q
  · obtain ⟨F,ds,Qd,sm,r,q,K⟩:=h
    refine ⟨_,ht (cxOf CX0 G.P G.w G.K G.mg G.base N qual (defScope st) f cdv A outer s H E).nox ⟨H,F,[],[]⟩ ⟨rfl,rfl,rfl,hK,rfl,rfl,rfl,rfl,Sc.nd,fun p hp=>absurd hp (by simp),fun _ _=>rfl,fun _=>rfl,Sc.kind,fun _ _ _=>rfl,fun _=>hr.hd,hr.dp,hr.un,fun _=>PassesOwn.never,fun _=>⟨rfl,rfl,rfl⟩,fun _ _ h=>h.elim,fun h=>nomatch h⟩,F,startD N.length ds,_,RS.start _ sm r,body ds Qd q,?_⟩
    have same:∀ {F':Hp} {σd:Sd} {σ:St} {H':Hp},RS ⟨H,F,[],[]⟩ F' σd σ H' -> Same H H':=fun R b o e=>R.old b o e (by simp [Dyn.ioA])
    refine ⟨fun σ H' F' σd s' R' q'=>?_,fun v σ H' F' σd b s' R' r' q'=>?_,fun _ _ _ _ _ _ h=>h.elim,fun _ _ _ _ _ _ h=>h.elim⟩
    · exact K .non H' F' (.sh .non) s' R'.fr (same R') R'.fro .non q'
    · refine K v H' F' b s' R'.fr (same R') R'.fro ?_ q'
      cases b with
      | sh d=>exact r'
      | own xs =>
        obtain ⟨a,us,rfl,w1,w2,w3,w4,w5⟩:=r'
        exact ⟨a,us,rfl,w1,w2,w3,w4⟩
      | obj o =>
        obtain ⟨a,rfl,w1,w2⟩:=r'
        exact ⟨a,rfl,w1,fun b hb=>⟨(w2 b hb).1,(w2 b hb).2.1,(w2 b hb).2.2.1⟩⟩
end Vc

set_option Elab.async false
set_option linter.all false
set_option maxRecDepth 100000

namespace Vc
open PySem L2
variable [KF]
variable {G:GE} {k:Nat} {S:Stat}

noncomputable abbrev TGd:=D -> Sd -> (Sd -> Prop) -> Prop
noncomputable def lG (Y:Dyn) (g:TGd):TG:=fun v σ H Q=>∃ F σd d Qd,RS Y F σd σ H /\ Rep F v d /\ g d σd Qd /\ ∀ σ' H' F' σd',Same F F' -> RS Y F' σd' σ' H' -> Qd σd' -> Q σ' H'
structure EG (G:GE) (k:Nat) (S:Stat) (tg:Expr) (g:TGd) :Prop where
  run:∀ X Y,XOk X G k S Y -> PG X tg (lG Y g)
instance {G:GE} {k:Nat} {S:Stat} {tg:Expr} {g:TGd} :CoeFun (EG G k S tg g) fun _=>∀ X Y,XOk X G k S Y -> PG X tg (lG Y g):=⟨EG.run⟩
theorem pg_imp {X:Cx} {e:Expr} {t t':TG} (h:PG X e t) (i:∀ v σ H Q,t' v σ H Q -> t v σ H Q):PG X e t':=fun pins s σ H v u Q I r q=>h pins s σ H v u Q I r (i v σ H Q q)
noncomputable def gNm (i:Nat):TGd:=fun d σ Q=>Q (σ.set i (some (.sh d)))
theorem g_name (i:Nat) {x:Str} {pos:Pos} (hi:S.N[i]? = some x:=by rfl) (hx:S.sc.lookup x = some .local \/ (S.sc.lookup x = some .cell /\ S.blk = false):=by first | exact Or.inl rfl | exact Or.inr ⟨rfl,rfl⟩) (hn:i ∉ S.ios:=by first | decide | exact List.not_mem_nil):EG G k S (.Name x pos) (gNm i):=.mk fun X Y ok =>
  pg_imp (pg_name (i:=i) (by rw [ok.N];exact ok.nd) (by rw [ok.N];exact hi) (loc_of ok hx) (fn_of' ok hx)) fun v σ H Q q=>by
    obtain ⟨F,σd,d,Qd,R,r,q,K⟩:=q
    exact K _ H F _ (Same.refl _) (R.setSh r fun p hp z=>hn (z ▸ ok.ios p hp)) q
noncomputable abbrev TGsd:=List D -> Sd -> (Sd -> Prop) -> Prop
noncomputable def lGs (Y:Dyn) (g:TGsd):TGs:=fun vs σ H Q=>∃ F σd ds Qd,RS Y F σd σ H /\ RepL F vs ds /\ g ds σd Qd /\ ∀ σ' H' F' σd',Same F F' -> RS Y F' σd' σ' H' -> Qd σd' -> Q σ' H'
structure EGs (G:GE) (k:Nat) (S:Stat) (ts:List Expr) (g:TGsd) :Prop where
  run:∀ X Y,XOk X G k S Y -> PGs X ts (lGs Y g)
instance {G:GE} {k:Nat} {S:Stat} {ts:List Expr} {g:TGsd} :CoeFun (EGs G k S ts g) fun _=>∀ X Y,XOk X G k S Y -> PGs X ts (lGs Y g):=⟨EGs.run⟩
noncomputable def gN0:TGsd:=fun ds σ Q=>match ds with
  | []=>Q σ
  | _=>False
noncomputable def gC (g:TGd) (u:TGsd):TGsd:=fun ds σ Q=>match ds with
  | d :: r=>g d σ fun σ1=>u r σ1 Q
  | []=>False
theorem gs_nil:EGs G k S [] gN0:=.mk fun X Y ok pins s σ H vs us Q I r q=>pgs_nil pins s σ H vs us Q I r (by
  obtain ⟨F,σd,ds,Qd,R,rr,q,K⟩:=q
  cases rr with
  | nil=>exact ⟨rfl,K σ H F σd (Same.refl _) R q⟩
  | cons _ _=>exact q.elim)
theorem gs_cons {e:Expr} {es:List Expr} {g:TGd} {u:TGsd} (h1:EG G k S e g) (h2:EGs G k S es u) (hs:∀ env,(assignEach (e :: es) env).map (·.2) = assign e env :: (assignEach es env).map (·.2):=by intro _;rfl):EGs G k S (e :: es) (gC g u):=.mk fun X Y ok pins s σ H vs us Q I r q =>
  pgs_cons (h1 X Y ok) (h2 X Y ok) (hs _) pins s σ H vs us Q I r (by
    obtain ⟨F,σd,ds,Qd,R,rr,q,K⟩:=q
    cases rr with
    | nil=>exact q.elim
    | cons r1 rs =>
      refine ⟨_,_,rfl,F,σd,_,_,R,r1,q,fun σ1 H1 F1 σd1 s1 R1 q1=>?_⟩
      exact ⟨F1,σd1,_,_,R1,rs.mono s1,q1,fun σ2 H2 F2 σd2 s2 R2 q2=>K σ2 H2 F2 σd2 (s1.trans s2) R2 q2⟩)
noncomputable def gTu (n:Nat) (u:TGsd):TGd:=fun d σ Q=>match d with
  | .tup xs=>xs.length = n /\ u xs σ Q
  | _=>False
theorem g_tup {es:List Expr} {kk:Nat} {u:TGsd} {n:Nat} {pos:Pos} (h:EGs G k S es u) (hn:∀ env,(assignEach es env).length = n:=by intro _;rfl) (hst:∀ env,(assignEach es env).findIdx? (·.1) = none:=by intro _;rfl) (hh:S.hot = false:=by rfl):EG G k S (.Tuple es kk pos) (gTu n u):=.mk fun X Y ok =>
  pg_imp (pg_tup (ok.calm hh) (h X Y ok) (hn _) (hst _)) fun v σ H Q q=>by
    obtain ⟨F,σd,d,Qd,R,r,q,K⟩:=q
    cases d with
    | tup xs =>
      cases r with
      | tup hf rl =>
        exact ⟨_,_,rfl,.of (R.fr _ _ hf),by rw [rl.length];exact q.1,F,σd,xs,Qd,R,rl,q.2,K⟩
    | _=>exact q.elim

noncomputable def Grow (F1 H1 F2 H2:Hp):Prop:=(F2 = F1 /\ H2 = H1) \/ ∃ p o,H1 p = none /\ F2 = upd F1 p o /\ H2 = upd H1 p o
theorem Grow.same {F1 H1 F2 H2:Hp} (g:Grow F1 H1 F2 H2) (s:Same F1 H1):Same F1 F2:=by
  rcases g with ⟨rfl,rfl⟩ | ⟨p,o,h,rfl,rfl⟩
  · exact Same.refl _
  · exact same_alloc (same_none s h)
theorem Grow.rs {Y:Dyn} {F1 H1 F2 H2:Hp} {σd:Sd} {σ:St} (g:Grow F1 H1 F2 H2) (R:RS Y F1 σd σ H1):RS Y F2 σd σ H2:=by
  rcases g with ⟨rfl,rfl⟩ | ⟨p,o,h,rfl,rfl⟩
  · exact R
  · exact R.alloc h
noncomputable def ItRep (F:Hp) (J:It) (items:List D):Prop:=∀ F1 H1,Same F F1 -> Same F1 H1 -> ∀ i:Nat,
  (∀ x,items[i]? = some x -> J.go i H1 /\ ∀ v H2,J.yld i H1 v H2 -> ∃ F2,Grow F1 H1 F2 H2 /\ Rep F2 v x) /\ (i = items.length -> J.stop i H1)
theorem ItRep.mono {F F':Hp} {J:It} {items:List D} (h:ItRep F J items) (s:Same F F'):ItRep F' J items:=fun F1 H1 s1=>h F1 H1 (s.trans s1)
noncomputable def lI (Y:Dyn) (t:TDs):TI:=fun σ H R=>∃ F σd Qd,RS Y F σd σ H /\ t σd Qd /\ ∀ H' F' σd' J items,Same F F' -> RS Y F' σd' σ H' -> ItRep F' J items -> Qd items σd' -> R J H'
structure EI (G:GE) (k:Nat) (S:Stat) (tg iter:Expr) (t:TDs) :Prop where
  run:∀ X Y,XOk X G k S Y -> PI X tg iter (lI Y t)
instance {G:GE} {k:Nat} {S:Stat} {tg iter:Expr} {t:TDs} :CoeFun (EI G k S tg iter t) fun _=>∀ X Y,XOk X G k S Y -> PI X tg iter (lI Y t):=⟨EI.run⟩
theorem pi_imp {X:Cx} {tg e:Expr} {t t':TI} (h:PI X tg e t) (i:∀ σ H Q,t' σ H Q -> t σ H Q):PI X tg e t':=fun pins s σ H Q I q=>h pins s σ H Q I (i σ H Q q)
theorem pi_seq {X:Cx} {tg l:Expr} {tl:TE} (hl:PE X l tl):PI X tg l (fun σ H R=>tl σ H fun x H1=>(∃ a,x = .ref a /\ (∃ xs,SqL X.K H1 a xs) /\ R (Itl X.K a) H1) \/ (∃ a,x = .ref a /\ (∃ xs,SqT X.K H1 a xs) /\ R (Itt X.K a) H1)):=by
  intro pins s σ H R I h
  refine thn (hl pins s σ H _ I h) fun v s1 ⟨x,H1,I1,r1,q1⟩=>?_
  rcases q1 with ⟨a,e,⟨xs,hq⟩,q⟩ | ⟨a,e,⟨xs,hq⟩,q⟩
  · subst e
    cases r1
    obtain ⟨its,rv,p,hz⟩:=I1.list hq
    refine wpAny_pyIter_list p.isList ?_
    refine ⟨s1.heap.objs.size,[s1.heap.objs.size],_,_,H1,rfl,I1.kept (t':=s1.toks) fun b o e=>Heap.get?_push_of_some _ e,turn_list a _,⟨_,Heap.get?_push_size _ rfl,rfl,rfl⟩,fun b hb=>?_,q⟩
    have e:b = s1.heap.objs.size:=by simpa using hb
    subst e
    exact I1.fpOk (Nat.le_refl _) (I1.hok.fresh (Nat.le_refl _))
  · subst e
    cases r1
    obtain ⟨its,rv,p,hz⟩:=I1.tuple hq
    refine wpAny_pyIter_tuple (show s1.heap.IsTuple a its.toArray from p) ?_
    refine ⟨s1.heap.objs.size,[s1.heap.objs.size],_,_,H1,rfl,I1.kept (t':=s1.toks) fun b o e=>Heap.get?_push_of_some _ e,turn_tuple a _,⟨_,Heap.get?_push_size _ rfl,rfl,rfl⟩,fun b hb=>?_,q⟩
    have e:b = s1.heap.objs.size:=by simpa using hb
    subst e
    exact I1.fpOk (Nat.le_refl _) (I1.hok.fresh (Nat.le_refl _))
theorem itl_rep {K:PySem.W.Frag} {F:Hp} {a:Addr} {vs:List V} {xs:List D} (h:Rd F a (.lst vs)) (r:RepL F vs xs):ItRep F (Itl K a) xs:=fun F1 H1 s1 s2 i=>by
  have hs:SqL K H1 a vs:=.inl (Rd.mono (s1.trans s2) h)
  refine ⟨fun x e=>?_,fun hl=>⟨vs,hs,by rw [r.length,hl];exact Nat.le_refl _⟩⟩
  obtain ⟨v,e1,r1⟩:=r.get e
  refine ⟨⟨vs,v,hs,e1⟩,fun v2 H2 y=>?_⟩
  obtain ⟨rfl,y⟩:=y
  have:=y vs hs
  rw [e1] at this;cases this
  exact ⟨F1,.inl ⟨rfl,rfl⟩,r1.mono s1⟩
theorem itt_rep {K:PySem.W.Frag} {F:Hp} {a:Addr} {vs:List V} {xs:List D} (h:F a = some (.tup vs)) (r:RepL F vs xs):ItRep F (Itt K a) xs:=fun F1 H1 s1 s2 i=>by
  have hs:SqT K H1 a vs:=.of (s2 _ _ (s1 _ _ h))
  refine ⟨fun x e=>?_,fun hl=>⟨vs,hs,by rw [r.length,hl];exact Nat.le_refl _⟩⟩
  obtain ⟨v,e1,r1⟩:=r.get e
  refine ⟨⟨vs,v,hs,e1⟩,fun v2 H2 y=>?_⟩
  obtain ⟨rfl,y⟩:=y
  have:=y vs hs
  rw [e1] at this;cases this
  exact ⟨F1,.inl ⟨rfl,rfl⟩,r1.mono s1⟩
noncomputable def itemsD (t:TD):TDs:=fun σ Q=>t σ fun d σ1=>match d with
  | .lst xs=>Q xs σ1
  | .tup xs=>Q xs σ1
  | _=>False
theorem i_seq {tg l:Expr} {t:TD} (h:ED G k S l t):EI G k S tg l (itemsD t):=.mk fun X Y ok=>pi_imp (pi_seq (h X Y ok)) fun σ H Q q=>by
  obtain ⟨F,σd,Qd,R,q,K⟩:=q
  refine ⟨F,σd,_,R,q,fun v H1 F1 d σ1 s1 R1 r1 q1=>?_⟩
  cases d with
  | lst xs =>
    cases r1 with
    | lst hf rl=>exact .inl ⟨_,rfl,⟨_,.inl (Rd.mono R1.fr hf)⟩,K H1 F1 σ1 _ xs s1 R1 (itl_rep hf rl) q1⟩
  | tup xs =>
    cases r1 with
    | tup hf rl=>exact .inr ⟨_,rfl,⟨_,.of (R1.fr _ _ hf)⟩,K H1 F1 σ1 _ xs s1 R1 (itt_rep hf rl) q1⟩
  | _=>exact q1.elim
noncomputable def rngD (lo:Int) (n:Nat):List D:=(List.range n).map fun i=>.int (lo + (i:Nat))
theorem itr_rep {F:Hp} (lo:Int) (n:Nat):ItRep F (Itr lo n) (rngD lo n):=fun F1 H1 s1 s2 i=>by
  refine ⟨fun x e=>?_,fun hl=>?_⟩
  · unfold rngD at e
    rw [List.getElem?_map] at e
    have hi:i < n:=by
      by_cases hi:i < n
      · exact hi
      · rw [List.getElem?_eq_none_iff.mpr (by simpa using hi)] at e;cases e
    rw [List.getElem?_range hi] at e
    cases e
    refine ⟨hi,fun v H2 y=>?_⟩
    obtain ⟨rfl,rfl⟩:=y
    exact ⟨F1,.inl ⟨rfl,rfl⟩,.int _⟩
  · unfold rngD at hl
    rw [List.length_map,List.length_range] at hl
    exact Nat.le_of_eq hl.symm
noncomputable def rng1 (t:TVs):TDs:=fun σ Q=>t σ fun xs σ1=>match drfs σ1 xs with
  | some [.int j]=>(-(2 ^ 62) <= j /\ j < 2 ^ 62) /\ Q (rngD 0 j.toNat) σ1
  | _=>False
noncomputable def rng2 (t:TVs):TDs:=fun σ Q=>t σ fun xs σ1=>match drfs σ1 xs with
  | some [.int i,.int j]=>(-(2 ^ 62) <= i /\ i < 2 ^ 62 /\ -(2 ^ 62) <= j /\ j < 2 ^ 62) /\ Q (rngD i (j - i).toNat) σ1
  | _=>False
theorem i_rng1 {tg a:Expr} {t:TVs} {p pos:Pos} (h:EOs G k S [a] t) (hm:G.mg "range" = none) (hg:S.sc.lookup ("range":Str) = some .globalImplicit:=by rfl) (hs:∀ env,starEach [a] env = [(false,eval a env)]:=by intro _;rfl):EI G k S tg (.Call (.Name "range" p) [a] [] pos) (rng1 t):=.mk fun X Y ok =>
  pi_imp (pi_range1 (gl_of ok hg) (by rw [ok.mg];exact hm) (h X Y ok) (hs _)) fun σ H Q q=>by
    obtain ⟨F,σd,Qd,R,q,K⟩:=q
    refine ⟨F,σd,_,R,q,fun vs H1 F1 xs σ1 s1 R1 r1 q1=>?_⟩
    split at q1
    · rename_i j e
      obtain ⟨v,rfl,rv⟩:=(R1.drfs r1 e).one
      obtain rfl:=rv.int
      exact ⟨j,rfl,q1.1.1,q1.1.2,K H1 F1 σ1 _ _ s1 R1 (itr_rep 0 _) q1.2⟩
    · exact q1.elim
theorem i_rng2 {tg a b:Expr} {t:TVs} {p pos:Pos} (h:EOs G k S [a,b] t) (hm:G.mg "range" = none) (hg:S.sc.lookup ("range":Str) = some .globalImplicit:=by rfl) (hs:∀ env,starEach [a,b] env = [(false,eval a env),(false,eval b env)]:=by intro _;rfl) (hs2:∀ env,starEach [b] env = [(false,eval b env)]:=by intro _;rfl):EI G k S tg (.Call (.Name "range" p) [a,b] [] pos) (rng2 t):=.mk fun X Y ok =>
  pi_imp (pi_range2 (gl_of ok hg) (by rw [ok.mg];exact hm) (h X Y ok) (hs _) (hs2 _)) fun σ H Q q=>by
    obtain ⟨F,σd,Qd,R,q,K⟩:=q
    refine ⟨F,σd,_,R,q,fun vs H1 F1 xs σ1 s1 R1 r1 q1=>?_⟩
    split at q1
    · rename_i i j e
      obtain ⟨v,u,rfl,rv,ru⟩:=(R1.drfs r1 e).two
      obtain rfl:=rv.int;obtain rfl:=ru.int
      exact ⟨i,j,rfl,q1.1,K H1 F1 σ1 _ _ s1 R1 (itr_rep i _) q1.2⟩
    · exact q1.elim

noncomputable def forD (g:TGd) (tb:TSd) (De:EndsD):List D -> Sd -> Prop
  | [],σ=>De.nx σ
  | x :: xs,σ=>g x σ fun σ1=>tb { De with nx:=forD g tb De xs,ct:=forD g tb De xs,bk:=De.nx } σ1
noncomputable def tForD (ti:TDs) (g:TGd) (tb:TSd):TSd:=fun De σ=>ti σ fun items σ1=>forD g tb De items σ1
theorem s_for {tg iter:Expr} {body:List Stmt} {ti:TDs} {g:TGd} {tb:TSd} {pos:Pos} (hi:EI G k S tg iter ti) (hg:EG G k S tg g) (hb:ESs G k S body tb) (hs:∀ env x,foldedSetIterable iter env x = pure x:=by intro _ _;rfl) (hh:S.hot = false:=by rfl) :
    ES G k S (.For tg iter body [] pos) (tForD ti g tb):=.mk fun X Y ok=>ps_imp (ps_for (ok.po hh) (ok.calm hh) (hi X Y ok) (hg X Y ok) (hb X Y ok) (hs _)) fun Dn σ H q=>by
  obtain ⟨F,σd,De,R,q,K⟩:=q
  refine ⟨F,σd,_,R,q,fun H1 F1 σd1 J items s1 R1 it q1=>?_⟩
  refine ⟨fun i m σ' H'=>∃ F' σd',Same F1 F' /\ RS Y F' σd' σ' H' /\ forD g tb De (items.drop i) σd' /\ m = items.length - i /\ i <= items.length,⟨items.length,F1,σd1,Same.refl _,R1,q1,rfl,Nat.zero_le _⟩,?_⟩
  rintro i m σ' H' ⟨F',σd',s',R',q',rfl,hi⟩
  have itr:=it F' H' s' R'.fr i
  by_cases hl:i < items.length
  · right
    have hd:items.drop i = items[i] :: items.drop (i + 1):=by rw [List.drop_eq_getElem_cons hl]
    rw [hd] at q'
    obtain ⟨go,yl⟩:=itr.1 items[i] (by rw [List.getElem?_eq_getElem hl])
    refine ⟨go,fun σ2 H2=>∃ F2 σd2,Same F1 F2 /\ RS Y F2 σd2 σ2 H2 /\ forD g tb De (items.drop (i + 1)) σd2,fun σ2 H2 ⟨F2,σd2,s2,R2,q2⟩=>⟨items.length - (i + 1),by omega,F2,σd2,s2,R2,q2,rfl,hl⟩,fun v H2 y=>?_⟩
    obtain ⟨F2,gr,rep⟩:=yl v H2 y
    have s2:Same F1 F2:=s'.trans (gr.same R'.fr)
    refine ⟨F2,σd',items[i],_,gr.rs R',rep,q',fun σ3 H3 F3 σd3 s3 R3 q3=>⟨F3,σd3,_,R3,q3,?_⟩⟩
    refine ⟨fun σ4 H4 F4 σd4 s4 R4 q4=>⟨F4,σd4,(s2.trans s3).trans s4,R4,q4⟩,fun v4 σ4 H4 F4 σd4 b s4 R4 r4 q4=>K.rt v4 σ4 H4 F4 σd4 b (((s1.trans s2).trans s3).trans s4) R4 r4 q4,
      fun σ4 H4 F4 σd4 s4 R4 q4=>K.nx σ4 H4 F4 σd4 (((s1.trans s2).trans s3).trans s4) R4 q4,fun σ4 H4 F4 σd4 s4 R4 q4=>⟨F4,σd4,(s2.trans s3).trans s4,R4,q4⟩⟩
  · left
    have e:i = items.length:=by omega
    subst e
    rw [List.drop_length] at q'
    exact ⟨itr.2 rfl,K.nx σ' H' F' σd' (s1.trans s') R' q'⟩
end Vc

set_option Elab.async false
set_option linter.all false
set_option maxRecDepth 100000

namespace Vc
open PySem L2
variable [KF]

theorem codeAny_comp {prog:Program} {w:World} {A:Around} {R:Result -> Shared -> Prop} {s:Shared} {elt target iter:Expr} {ifs:List Expr} {scope:Scope} {pos:Pos} {it acc:Value} {env:Env} (I:Nat -> Shared -> Prop)
    (turn:∀ n s,I n s -> wpAny (model prog w) A (pyNext it) (fun r s₁=>match r with
      | none=>R (.ok .next) s₁
      | some v=>wpAny (model prog w) A (letOwnedTupleGo target it v) (fun _ s₁'=>wpAny (model prog w) A (assign target env v) (fun _ s₂ =>
          wpAny (model prog w) A (forIn ifs true fun c r=>if r = true then do let ok <- isTrue c env (eval c env);pure (ForInStep.yield ok) else pure (ForInStep.yield r)) (fun ok s₃ =>
            if ok = true then wpAny (model prog w) A (eval elt env) (fun x s₄ =>
              wpAny (model prog w) A (call (.builtin "list.append") [acc,x]) (fun _ s₅=>∃ m,m < n /\ I m s₅) (fun _ _=>False) s₄) (fun _ _=>False) s₃
            else ∃ m,m < n /\ I m s₃) (fun _ _=>False) s₂) (fun _ _=>False) s₁') (fun _ _=>False) s₁) (fun _ _=>False) s)
    (n:Nat) (h:I n s):codeAny (model prog w) A (.compLoop (.ListComp elt [⟨target,iter,ifs,0⟩] scope pos) 0 it acc env) R s:=by
  refine codeAny_loop rfl I (fun n s hI=>?_) n h
  show wpAny _ A ((compTurn (.ListComp elt [⟨target,iter,ifs,0⟩] scope pos) 0 it acc env).onRaise (fun x=>do noteFrame x env;theTreesLotGoes x)) _ _ s
  refine wpAny_noted ?_
  rw [compTurn_list]
  refine wpAny_bind (wpAny_standAt (wpAny_bind (wpAny_mono (turn n s hI) (fun r s₁ h₁=>?_) fun _ _ h'=>h'.elim)))
  cases r with
  | none=>exact wpAny_pure h₁
  | some v =>
    refine wpAny_bind (wpAny_mono h₁ (fun _ s₁' h₁'=>?_) fun _ _ h'=>h'.elim)
    refine wpAny_bind (wpAny_mono h₁' (fun _ s₂ h₂=>wpAny_bind (wpAny_mono h₂ (fun ok s₃ h₃=>?_) fun _ _ h'=>h'.elim)) fun _ _ h'=>h'.elim)
    cases ok with
    | false=>exact wpAny_pure ⟨rfl,h₃⟩
    | true =>
      exact wpAny_bind (wpAny_bind (wpAny_mono h₃ (fun x s₄ h₄=>wpAny_bind (wpAny_mono h₄ (fun _ s₅ h₅=>wpAny_pure (wpAny_pure ⟨rfl,h₅⟩)) fun _ _ h'=>h'.elim)) fun _ _ h'=>h'.elim))

noncomputable def clOf (env:Env):List (Str × NameKind) -> List (Str × Addr) -> List (Str × Addr)
  | [],cs=>cs
  | (n,k) :: r,cs=>if k == .free then clOf env r ((n,(env.cells.lookup n).getD 0) :: cs) else clOf env r cs
theorem closure_of {env:Env} {scope:Scope} (h:∀ x ∈ scope.names,x.2 = .free -> ∃ c,env.cells.lookup x.1 = some c):closureFor scope env = pure (clOf env scope.names []):=by
  have all:∀ (l:List (Str × NameKind)) (cs:List (Str × Addr)),(∀ x ∈ l,x.2 = .free -> ∃ c,env.cells.lookup x.1 = some c) ->
      (forIn l cs fun x cs=>if (x.2 == NameKind.free) = true then (do let a <- cellOf env x.1;pure (ForInStep.yield ((x.1,a) :: cs))) else pure (ForInStep.yield cs):Sem (List (Str × Addr))) = pure (clOf env l cs):=by
    intro l
    induction l with
    | nil=>intro cs _;rfl
    | cons x l ih =>
      intro cs hl
      obtain ⟨n,k⟩:=x
      rw [List.forIn_cons]
      unfold clOf
      by_cases hk:k = .free
      · subst hk
        obtain ⟨c,e⟩:=hl (n,.free) List.mem_cons_self rfl
        have e':env.cells.lookup n = some c:=e
        simp only [beq_self_eq_true,if_true,cellOf,e',Option.getD_some,pure_bind]
        exact ih _ fun y hy=>hl y (List.mem_cons_of_mem _ hy)
      · have hb:(k == NameKind.free) = false:=by simpa using hk
        simp only [hb,Bool.false_eq_true,if_false,pure_bind]
        exact ih _ fun y hy=>hl y (List.mem_cons_of_mem _ hy)
  have h1:=all scope.names [] h
  have h2:closureFor scope env = ((forIn scope.names ([]:List (Str × Addr)) fun x cs=>if (x.2 == NameKind.free) = true then (do let a <- cellOf env x.1;pure (ForInStep.yield ((x.1,a) :: cs))) else pure (ForInStep.yield cs):Sem (List (Str × Addr))) >>= fun cs=>pure cs):=rfl
  rw [h2,h1,pure_bind]
theorem clOf_lookup {env:Env}:∀ (l:List (Str × NameKind)) (cs:List (Str × Addr)) (x:Str) (c:Addr),(∀ y ∈ l,y.2 = .free -> ∃ c,env.cells.lookup y.1 = some c) -> (clOf env l cs).lookup x = some c -> env.cells.lookup x = some c \/ cs.lookup x = some c
  | [],cs,x,c,_,h=>.inr h
  | (n,k) :: r,cs,x,c,hl,h=>by
    unfold clOf at h
    by_cases hk:k = .free
    · subst hk
      simp only [beq_self_eq_true,if_true] at h
      obtain ⟨c',e⟩:=hl (n,.free) List.mem_cons_self rfl
      have e':env.cells.lookup n = some c':=e
      rcases clOf_lookup r _ x c (fun y hy=>hl y (List.mem_cons_of_mem _ hy)) h with q | q
      · exact .inl q
      · rw [List.lookup_cons] at q
        cases hx:x == n with
        | true =>
          rw [hx] at q
          have:=eq_of_beq hx
          subst this
          rw [e',Option.getD_some] at q
          exact .inl (e'.trans q)
        | false=>rw [hx] at q;exact .inr q
    · have hb:(k == NameKind.free) = false:=by simpa using hk
      simp only [hb,Bool.false_eq_true,if_false] at h
      exact clOf_lookup r cs x c (fun y hy=>hl y (List.mem_cons_of_mem _ hy)) h
theorem clOf_keep {env:Env}:∀ (l:List (Str × NameKind)) (cs:List (Str × Addr)) (x:Str),(cs.lookup x).isSome = true -> ((clOf env l cs).lookup x).isSome = true
  | [],cs,x,h=>h
  | (n,k) :: r,cs,x,h=>by
    unfold clOf
    by_cases hk:k = .free
    · subst hk
      simp only [beq_self_eq_true,if_true]
      refine clOf_keep r _ x ?_
      rw [List.lookup_cons]
      cases hx:x == n with
      | true=>rfl
      | false=>exact h
    · have hb:(k == NameKind.free) = false:=by simpa using hk
      simp only [hb,Bool.false_eq_true,if_false]
      exact clOf_keep r cs x h
theorem clOf_has {env:Env}:∀ (l:List (Str × NameKind)) (cs:List (Str × Addr)) (x:Str),(x,NameKind.free) ∈ l -> ((clOf env l cs).lookup x).isSome = true
  | (n,k) :: r,cs,x,h=>by
    unfold clOf
    rcases List.mem_cons.mp h with e | e
    · cases e
      simp only [beq_self_eq_true,if_true]
      refine clOf_keep r _ _ ?_
      rw [List.lookup_cons,beq_self_eq_true];rfl
    · split
      · exact clOf_has r _ x e
      · exact clOf_has r cs x e
structure CompX (X X':Cx) (scope:Scope) (N':List Str):Prop where
  P:X'.prog = X.prog
  w:X'.w = X.w
  K:X'.K = X.K
  mg:X'.mg = X.mg
  base:X'.base = X.base
  A:X'.A = X.A
  N:X'.N = N'
  sc:X'.env.scope = relabel scope X.env
  calm:X'.calm = true
  xe:X'.xe = fun _ _=>False
noncomputable def PTs (X:Cx) (ifs:List Expr) (t:TT):Prop:=∀ (pins:List (Addr × Obj)) (s:Shared) (σ:St) (H:Hp) (Q:Bool -> Hp -> Prop),L2.Inv X pins σ H s -> t σ H Q ->
  wpAny (model X.prog X.w) X.A (forIn ifs true fun c r=>if r = true then do let ok <- isTrue c X.env (eval c X.env);pure (ForInStep.yield ok) else pure (ForInStep.yield r)) (TP X pins σ Q) X.xe s
theorem pts_nil {X:Cx}:PTs X [] (fun _ H Q=>Q true H):=fun pins s σ H Q I h=>wpAny_tests_nil ⟨H,I,h⟩
theorem pts_one {X:Cx} {c:Expr} {t:TT} (h:PT X c t):PTs X [c] t:=fun pins s σ H Q I q=>wpAny_tests_one (h pins s σ H Q I q)
noncomputable def capSt (caps:List (Option Nat)) (σ:St):St:=caps.map fun c=>match c with
  | some j=>(σ[j]?).join
  | none=>none
noncomputable def tCompL (wi:TI) (caps:List (Option Nat)) (g:TG) (tc:TT) (te:TE):TE:=fun σ H Q=>wi σ H fun J H1=>∀ acc,H1 acc = none -> ∃ W:Nat -> Nat -> St -> Hp -> Prop,(∃ m,W 0 m (capSt caps σ) (upd H1 acc (.lst []))) /\ ∀ i m σ1 H,W i m σ1 H ->
  (J.stop i H /\ Q (.ref acc) H) \/ (J.go i H /\ ∀ x H',J.yld i H x H' -> g x σ1 H' fun σ2 H2=>tc σ2 H2 fun b H3=>if b = true then te σ2 H3 fun v H4=>∃ ys m',H4 acc = some (.lst ys) /\ ys.length < sizeLine /\ m' < m /\ W (i + 1) m' σ2 (upd H4 acc (.lst (ys ++ [v]))) else ∃ m',m' < m /\ W (i + 1) m' σ2 H3)

theorem relabel_back {env:Env}:∀ {names:List (Str × NameKind)} {x:Str} {k:NameKind},(names.map fun (n,k)=>if (k == NameKind.free && env.scope.kind == .function && env.kindOf n == some .cell) then (n,NameKind.cell) else (n,k)).lookup x = some k ->
    names.lookup x = some k \/ (k = .cell /\ names.lookup x = some .free)
  | [],_,_,h=>by simp at h
  | (n,k') :: r,x,k,h=>by
    have ih:=@relabel_back env r x k
    have h:List.lookup x ((if (k' == NameKind.free && env.scope.kind == .function && env.kindOf n == some .cell) = true then (n,NameKind.cell) else (n,k')) :: _) = some k:=h
    cases hx:x == n with
    | true =>
      by_cases hc:(k' == NameKind.free && env.scope.kind == .function && env.kindOf n == some .cell) = true
      · rw [if_pos hc] at h
        simp only [List.lookup_cons,hx] at h ⊢
        cases h
        simp only [Bool.and_eq_true,beq_iff_eq] at hc
        exact .inr ⟨rfl,by rw [hc.1.1]⟩
      · rw [if_neg hc] at h
        simp only [List.lookup_cons,hx] at h ⊢
        exact .inl h
    | false =>
      by_cases hc:(k' == NameKind.free && env.scope.kind == .function && env.kindOf n == some .cell) = true
      · rw [if_pos hc] at h
        simp only [List.lookup_cons,hx] at h ⊢
        exact ih h
      · rw [if_neg hc] at h
        simp only [List.lookup_cons,hx] at h ⊢
        exact ih h
theorem relabel_free {env:Env}:∀ {names:List (Str × NameKind)} {x:Str},names.lookup x = some .free ->
    (names.map fun (n,k)=>if (k == NameKind.free && env.scope.kind == .function && env.kindOf n == some .cell) then (n,NameKind.cell) else (n,k)).lookup x = some .cell \/
    (names.map fun (n,k)=>if (k == NameKind.free && env.scope.kind == .function && env.kindOf n == some .cell) then (n,NameKind.cell) else (n,k)).lookup x = some .free
  | [],_,h=>by simp at h
  | (n,k') :: r,x,h=>by
    have ih:=@relabel_free env r x
    show List.lookup x ((if (k' == NameKind.free && env.scope.kind == .function && env.kindOf n == some .cell) = true then (n,NameKind.cell) else (n,k')) :: _) = some .cell \/ List.lookup x ((if (k' == NameKind.free && env.scope.kind == .function && env.kindOf n == some .cell) = true then (n,NameKind.cell) else (n,k')) :: _) = some .free
    cases hx:x == n with
    | true =>
      simp only [List.lookup_cons,hx] at h
      by_cases hc:(k' == NameKind.free && env.scope.kind == .function && env.kindOf n == some .cell) = true
      · rw [if_pos hc];left;simp only [List.lookup_cons,hx]
      · rw [if_neg hc];right;simp only [List.lookup_cons,hx];exact h
    | false =>
      simp only [List.lookup_cons,hx] at h
      by_cases hc:(k' == NameKind.free && env.scope.kind == .function && env.kindOf n == some .cell) = true
      · rw [if_pos hc];simp only [List.lookup_cons,hx];exact ih h
      · rw [if_neg hc];simp only [List.lookup_cons,hx];exact ih h
structure CompSc (X:Cx) (scope:Scope) (N':List Str) (caps:List (Option Nat)):Prop where
  kind:scope.kind = .function
  nocell:∀ y ∈ scope.names,y.2 ≠ .cell
  names:∀ y ∈ scope.names,y.2 = .local -> scope.names.lookup y.1 = some .local
  free:∀ y ∈ scope.names,y.2 = .free -> X.env.kindOf y.1 = some .cell \/ X.env.kindOf y.1 = some .free
  len:caps.length = N'.length
  cap:∀ (i:Nat) (j:Nat),caps[i]? = some (some j) -> ∃ x,N'[i]? = some x /\ X.N[j]? = some x /\ scope.names.lookup x = some .free
section
variable {X:Cx} {pins:List (Addr × Obj)} {σ:St} {H:Hp} {s:Shared} {elt target iter:Expr} {ifs:List Expr} {scope:Scope} {pos:Pos} {N':List Str} {caps:List (Option Nat)}
theorem CompSc.cells (SC:CompSc X scope N' caps) (ok:X.Ok):∀ x ∈ scope.names,x.2 = .free -> ∃ c,X.env.cells.lookup x.1 = some c:=fun x hx hf=>ok.has x.1 (SC.free x hx hf)
noncomputable def cxB (X:Cx) (scope:Scope) (N':List Str) (s₀:Shared) (H₀:Hp) (C:Addr) (fp:List Addr):Cx :=
  { X with N:=N',s₀:=s₀,H₀:=H₀,env:=compEnvC scope (clOf X.env scope.names []) C X.env,outer:=X.stack,ex:=fp,fn:=fun _=>false,calm:=true,pn:=[],xe:=fun _ _=>False }
theorem cxB_ok (I:L2.Inv X pins σ H s) (SC:CompSc X scope N' caps) (hc:X.calm = true) {fp:List Addr} (hf:∀ b ∈ fp,FpOk X pins H b) (hlt:∀ b ∈ fp,b < s.heap.objs.size):(cxB X scope N' s H s.heap.objs.size fp).Ok where
  mod:=I.ok.mod
  kind:=SC.kind
  glob:=I.ok.glob
  blt:=I.ok.blt
  above:=Nat.le_refl _
  inj:=fun x y c h1 h2=>by
    have f:∀ z,(clOf X.env scope.names []).lookup z = some c -> X.env.cells.lookup z = some c:=fun z h=>by
      rcases clOf_lookup scope.names [] z c (SC.cells I.ok) h with q | q
      · exact q
      · cases q
    exact I.ok.inj x y c (f x h1) (f y h2)
  has:=fun x hx=>by
    have hx:(relabel scope X.env).names.lookup x = some .cell \/ (relabel scope X.env).names.lookup x = some .free:=hx
    have hfree:scope.names.lookup x = some .free:=by
      rcases hx with hx | hx
      · rcases relabel_back hx with q | ⟨_,q⟩
        · exact absurd rfl (SC.nocell _ (PySem.mem_of_lookup q))
        · exact q
      · rcases relabel_back hx with q | ⟨q,_⟩
        · exact q
        · cases q
    exact Option.isSome_iff_exists.mp (clOf_has scope.names [] x (PySem.mem_of_lookup hfree))
  cab:=fun x c h=>by cases h
  hd:=fun _=>I.ok.hd hc
  frames:=I.ok.frames
  stk:=.inl rfl
  exf:=fun b hb=>⟨Nat.ne_of_lt (hlt b hb),fun x c h=>by
    rcases clOf_lookup scope.names [] x c (SC.cells I.ok) h with q | q
    · exact (hf b hb).2.2.2.2.1 x c q
    · cases q⟩
  bs:=I.bs
  bsz:=Nat.le_trans I.ok.bsz I.sz
  noex:=fun b o e hb=>by
    rcases (hf b hb).2.2.2.1 with q | q
    · exact I.ok.noex b o e q
    · exact absurd (Nat.lt_of_lt_of_le (Heap.lt_size e) (Nat.le_trans I.ok.bsz q)) (Nat.lt_irrefl _)
  exfs:=fun b hb z=>by
    rcases List.mem_cons.mp (I.stkSub b z) with q | q
    · exact (hf b hb).2.1 q
    · exact (hf b hb).2.2.1 q
  funs:=I.stack
  frf:=I.stkFree
theorem cxB_inv (I:L2.Inv X pins σ H s) (SC:CompSc X scope N' caps) (hc:X.calm = true) {fp:List Addr} (hf:∀ b ∈ fp,FpOk X pins H b) (hlt:∀ b ∈ fp,b < s.heap.objs.size) {h1:Heap} {t1:Nat} (hn:h1.Ns s.heap.objs.size (fun _=>none)) (hk:∀ b o,s.heap.get? b = some o -> h1.get? b = some o) :
    L2.Inv (cxB X scope N' s H s.heap.objs.size fp) [] (capSt caps σ) H { s with heap:=h1,toks:=t1 } where
  ok:=cxB_ok I SC hc hf hlt
  os:=rfl
  bare:=I.bare
  base:=Un.kept hk
  loc:=by
    refine ⟨_,hn,fun i x v e1 e2 _=>?_⟩
    have e2:(caps.map fun c=>match c with | some j=>(σ[j]?).join | none=>none)[i]? = some (some v):=e2
    rw [List.getElem?_map] at e2
    cases ec:caps[i]? with
    | none=>rw [ec] at e2;cases e2
    | some c =>
      rw [ec] at e2
      cases c with
      | none=>cases e2
      | some j =>
        have e2:(σ[j]?).join = some v:=Option.some.inj e2
        have e3:σ[j]? = some (some v):=by
          cases q:σ[j]? with
          | none=>rw [q] at e2;cases e2
          | some w =>
            rw [q] at e2
            cases w with
            | none=>cases e2
            | some z=>cases e2;rfl
        obtain ⟨y,w1,w2,w3⟩:=SC.cap i j ec
        have e1:N'[i]? = some x:=e1
        rw [w1] at e1;cases e1
        have hk':=SC.free (x,.free) (PySem.mem_of_lookup w3) rfl
        obtain ⟨m,hm,hl⟩:=I.loc
        obtain ⟨u,r,l⟩:=hl j x v w2 e3 (.inr hk')
        refine ⟨u,r,?_⟩
        rcases l with ⟨k1,_⟩ | ⟨_,c,hc',hcell⟩
        · have hk':X.env.kindOf x = some .cell \/ X.env.kindOf x = some .free:=hk'
          rw [k1] at hk'
          rcases hk' with z | z<;>cases z
        · right
          refine ⟨relabel_free w3,c,?_,?_⟩
          · obtain ⟨c',e'⟩:=Option.isSome_iff_exists.mp (clOf_has (env:=X.env) scope.names [] x (PySem.mem_of_lookup w3))
            rcases clOf_lookup scope.names [] x c' (SC.cells I.ok) e' with q | q
            · rw [hc'] at q;cases q
              exact e'
            · cases q
          · obtain ⟨o,ho,hd⟩:=hcell
            exact ⟨o,hk _ _ ho,hd⟩
  cell:=fun x c h=>by
    rcases clOf_lookup scope.names [] x c (SC.cells I.ok) h with q | q
    · obtain ⟨v,o,ho,hd⟩:=I.cell x c q
      exact ⟨v,o,hk _ _ ho,hd⟩
    · cases q
  free:=I.hok.fresh (Nat.le_refl _)
  freeC:=fun x c h=>by
    rcases clOf_lookup scope.names [] x c (SC.cells I.ok) h with q | q
    · exact I.freeC x c q
    · cases q
  pin:=fun p hp=>absurd (show p ∈ ([]:List (Addr × Obj)) from hp) (by simp)
  hok:=I.hok.kept hk
  len:=by
    show (caps.map _).length = N'.length
    rw [List.length_map];exact SC.len
theorem comp_run (I:L2.Inv X pins σ H s) (SC:CompSc X scope N' caps) (hc:X.calm = true) {it:Addr} {fp:List Addr} {tn:Nat -> Heap -> Prop} {J:It} (T:Turn X.prog X.w X.K target J fp it tn) (t0:tn 0 s.heap) (hf:∀ b ∈ fp,FpOk X pins H b)
    {g:TG} {tc:TT} {te:TE} (hin:∀ X',CompX X X' scope N' -> PG X' target g /\ PTs X' ifs tc /\ PE X' elt te) {Q:VK}
    (q:∀ acc,H acc = none -> ∃ W:Nat -> Nat -> St -> Hp -> Prop,(∃ m,W 0 m (capSt caps σ) (upd H acc (.lst []))) /\ ∀ i m σ1 H,W i m σ1 H ->
      (J.stop i H /\ Q (.ref acc) H) \/ (J.go i H /\ ∀ x H',J.yld i H x H' -> g x σ1 H' fun σ2 H2=>tc σ2 H2 fun b H3=>if b = true then te σ2 H3 fun v H4=>∃ ys m',H4 acc = some (.lst ys) /\ ys.length < sizeLine /\ m' < m /\ W (i + 1) m' σ2 (upd H4 acc (.lst (ys ++ [v]))) else ∃ m',m' < m /\ W (i + 1) m' σ2 H3))
    {E:Value -> Shared -> Prop} {RR:Value -> Addr -> Result -> Shared -> Prop}
    (hRR:∀ acc C H' s',L2.Inv X pins σ H' s' -> FpOk X pins H' C -> (∃ m,s'.heap.Ns C m) -> Q (.ref acc) H' -> RR (.ref acc) C (.ok .next) s') :
    wpAny (model X.prog X.w) X.A (newList []) (fun acc s₃=>wpAny (model X.prog X.w) X.A (newFunctionEnv scope X.env.globals (clOf X.env scope.names []) [] X.env.qual none .none (some X.env)) (fun cenv s₄ =>
      codeAny (model X.prog X.w) X.A (.compStart (.ListComp elt [⟨target,iter,ifs,0⟩] scope pos) 0 (.ref it) acc { cenv with scope:=relabel scope X.env }) (RR acc cenv.locals) s₄) E s₃) E s:=by
  refine wpAny_newObj_type ?_
  have hacc:H s.heap.objs.size = none:=I.hok.fresh (Nat.le_refl _)
  have I3:L2.Inv X pins σ (upd H s.heap.objs.size (.lst [])) { s with heap:=s.heap.push { cls:=.type "list",dict:=none,data:=.seq ([]:List Value).toArray } }:=I.lnew (t':=s.toks) (its:=[]) (ys:=[]) .nil (Nat.zero_le _)
  obtain ⟨W,⟨m0,w0⟩,step⟩:=q _ hacc
  generalize hs3:({ s with heap:=s.heap.push { cls:=.type "list",dict:=none,data:=.seq ([]:List Value).toArray } }:Shared) = s3 at I3 ⊢
  generalize hH3:upd H s.heap.objs.size (.lst []) = H3 at I3 w0
  generalize hacc':s.heap.objs.size = acc at *
  have up3:∀ b o,s.heap.get? b = some o -> s3.heap.get? b = some o:=fun b o e=>by rw [<- hs3];exact Heap.get?_push_of_some _ e
  have fplt:∀ b ∈ fp,b < s3.heap.objs.size:=fun b hb=>by
    obtain ⟨o,e,_⟩:=T.obj 0 _ t0 b hb
    exact Heap.lt_size (up3 b o e)
  have hf3:∀ b ∈ fp,FpOk X pins H3 b:=fun b hb=>by
    obtain ⟨f0,f⟩:=hf b hb
    refine ⟨?_,f⟩
    obtain ⟨o,e,_⟩:=T.obj 0 _ t0 b hb
    have:b ≠ acc:=by rw [<- hacc'];exact Nat.ne_of_lt (Heap.lt_size e)
    rw [<- hH3,upd_ne this];exact f0
  have t3:tn 0 s3.heap:=T.keep 0 _ _ t0 fun b _ o e=>up3 b o e
  refine wpAny_newFunctionEnv SC.nocell (by intro y hy;simp at hy) (fun h1 hn1 sb1=>?_) SC.kind
  have hk1:∀ b o,s3.heap.get? b = some o -> h1.get? b = some o:=fun b o e=>sb1.extBut b o (Nat.ne_of_lt (Heap.lt_size e)) (Heap.get?_push_of_some _ e)
  have cx:CompX X (cxB X scope N' s3 H3 s3.heap.objs.size fp) scope N':=⟨rfl,rfl,rfl,rfl,rfl,rfl,rfl,rfl,rfl,rfl⟩
  obtain ⟨hg,ht,he⟩:=hin _ cx
  have hn1':h1.Ns s3.heap.objs.size (fun _=>none):=by simpa using hn1
  have fpB:∀ {H':Hp},(∀ b ∈ fp,H' b = none) -> ∀ b ∈ fp,FpOk (cxB X scope N' s3 H3 s3.heap.objs.size fp) [] H' b:=fun {H'} hn b hb=>by
    obtain ⟨f0,f1,f2,f3,f4,f5⟩:=hf3 b hb
    refine ⟨hn b hb,Nat.ne_of_lt (fplt b hb),?_,.inl hb,fun x c h=>?_,fun p hp=>absurd (show p ∈ ([]:List (Addr × Obj)) from hp) (by simp)⟩
    · intro z
      rcases List.mem_cons.mp (I3.stkSub b z) with q | q
      · exact f1 q
      · exact f2 q
    · rcases clOf_lookup scope.names [] x c (SC.cells I.ok) h with q | q
      · exact f4 x c q
      · cases q
  have loop:∀ s4:Shared,L2.Inv (cxB X scope N' s3 H3 s3.heap.objs.size fp) [] (capSt caps σ) H3 s4 -> tn 0 s4.heap -> codeAny (model X.prog X.w) X.A (.compLoop (.ListComp elt [⟨target,iter,ifs,0⟩] scope pos) 0 (.ref it) (.ref acc) (compEnvC scope (clOf X.env scope.names []) s3.heap.objs.size X.env)) (RR (.ref acc) s3.heap.objs.size) s4:=by
    intro s4 I4 t4
    refine codeAny_comp (fun n s'=>∃ i σ1 H',L2.Inv (cxB X scope N' s3 H3 s3.heap.objs.size fp) [] σ1 H' s' /\ tn i s'.heap /\ (∀ b ∈ fp,H' b = none) /\ W i n σ1 H') ?_ m0 ⟨0,_,H3,I4,t4,fun b hb=>(hf3 b hb).1,w0⟩
    rintro n s5 ⟨i,σ1,H5,I5,st5,fr5,w5⟩
    rcases step i n σ1 H5 w5 with ⟨stop,qn⟩ | ⟨go,body⟩
    · refine thn (T.done (cxB X scope N' s3 H3 s3.heap.objs.size fp) rfl rfl rfl rfl i [] s5 σ1 H5 _ I5 (fpB fr5) st5 stop) fun r s6 ⟨hr,I6⟩=>?_
      subst hr
      have u:=I6.base
      refine hRR acc _ H5 s6 (I3.call' (ch:=fp) I6.os u I6.hok I6.bare fun b hb=>?_) (I3.fpOk (Nat.le_refl _) I6.free) ?_ qn
      · obtain ⟨f0,f1,f2,f3,f4,f5⟩:=hf3 b hb
        exact ⟨f3.imp id fun z=>Heap.get?_none_of_le z,f1,f4,f5⟩
      · obtain ⟨m,hm,_⟩:=I6.loc
        exact ⟨m,hm⟩
    · refine thn (T.item (cxB X scope N' s3 H3 s3.heap.objs.size fp) rfl rfl rfl rfl i [] s5 σ1 H5 _ I5 (fpB fr5) st5 go) fun r s6 ⟨u,hr,h6⟩=>?_
      subst hr
      refine thn h6 fun _ s7 ⟨x,H7,I7,r7,y7,st7,fr7⟩=>?_
      have I7':=I7.pinned (fpB fr7) (T.obj _ _ st7)
      have back:∀ {σ8:St} {H8:Hp} {s8:Shared},L2.Inv (cxB X scope N' s3 H3 s3.heap.objs.size fp) ([] ++ pinsAt fp s7.heap) σ8 H8 s8 -> L2.Inv (cxB X scope N' s3 H3 s3.heap.objs.size fp) [] σ8 H8 s8 /\ tn (i + 1) s8.heap /\ ∀ b ∈ fp,H8 b = none:=fun {σ8 H8 s8} I8=>by
        refine ⟨I8.unpinned,T.keep _ _ _ st7 fun b hb o e=>(I8.pin (b,o) (List.mem_append_right _ (List.mem_append_right _ (mem_pinsAt hb e)))).1,fun b hb=>?_⟩
        obtain ⟨o,e,d⟩:=T.obj _ _ st7 b hb
        exact (I8.pin (b,o) (List.mem_append_right _ (List.mem_append_right _ (mem_pinsAt hb e)))).2.1
      refine thn (hg _ s7 σ1 H7 x u _ I7' r7 (body x H7 y7)) fun _ s8 ⟨σ8,H8,I8,q8⟩=>?_
      refine thn (ht _ s8 σ8 H8 _ I8 q8) fun b s9 ⟨H9,I9,q9⟩=>?_
      cases b with
      | false =>
        obtain ⟨m',hm,w9⟩:=q9
        obtain ⟨J1,J2,J3⟩:=back I9
        exact ⟨m',hm,i + 1,σ8,H9,J1,J2,J3,w9⟩
      | true =>
        refine thn (he _ s9 σ8 H9 _ I9 q9) fun y s10 ⟨v,H10,I10,r10,ys,m',e10,hz,hm,w10⟩=>?_
        refine thn (mt_append _ s10 σ8 H10 (.ref acc) [v] (.ref acc) [y] (fun z H11=>z = .non /\ W (i + 1) m' σ8 H11) I10 rfl (.cons r10 .nil) ⟨acc,ys,v,rfl,rfl,e10,hz,rfl,w10⟩) fun _ s11 ⟨_,H11,I11,_,_,w11⟩=>?_
        obtain ⟨J1,J2,J3⟩:=back I11
        exact ⟨m',hm,i + 1,σ8,H11,J1,J2,J3,w11⟩
  have I4:=cxB_inv (caps:=caps) (N':=N') I3 SC hc hf3 fplt (t1:=s3.toks + ([]:List (Str × Value)).length) hn1' hk1
  have t4:tn 0 h1:=T.keep 0 _ _ t3 fun b _ o e=>hk1 b o e
  exact codeAny_compStart_list (loop _ I4 t4) (T.self X.A 0 _ _ _ t4 (loop _ I4 t4))
end
end Vc

set_option Elab.async false
set_option linter.all false
set_option maxRecDepth 100000

namespace Vc
open PySem L2
variable [KF]
section
variable {X:Cx} {elt target iter:Expr} {ifs:List Expr} {scope:Scope} {pos:Pos} {N':List Str} {caps:List (Option Nat)} {wi:TI} {g:TG} {tc:TT} {te:TE}
theorem fp_turn {pins:List (Addr × Obj)} {σ:St} {H:Hp} {s:Shared} {C:Addr} {h':Heap} (f:FpOk X pins H C) (I:L2.Inv X pins σ H s) (hs:Heap.SameBut C s.heap h'):L2.Inv X pins σ H { s with heap:=h' }:=by
  obtain ⟨f0,f1,f2,f3,f4,f5⟩:=f
  exact I.turned (t':=s.toks) (fun b o hb e=>hs.extBut b o hb e) f0 f1 f3 f4 f5
theorem pe_comp (hc:X.calm = true) (hi:PI X target iter wi) (SC:CompSc X scope N' caps) (hin:∀ X',CompX X X' scope N' -> PG X' target g /\ PTs X' ifs tc /\ PE X' elt te) (hs:∀ x,foldedSetIterable iter X.env x = pure x) :
    PE X (.ListComp elt [⟨target,iter,ifs,0⟩] scope pos) (tCompL wi caps g tc te):=by
  intro pins s σ H Q I h
  rw [eval_ListComp]
  refine wpAny_comprehension_free (use:=none) rfl hs (closure_of (SC.cells I.ok)) SC.kind SC.names (thn (hi pins s σ H _ I h) fun v s1 h1=>thn h1 fun itv s2 h2=>?_)
  obtain ⟨it,fp,tn,J,H2,rfl,I2,T,t0,f2,q2⟩:=h2
  exact comp_run I2 SC hc T t0 f2 hin q2 (RR:=fun acc C=>compPost (model X.prog X.w) X.A X.xe none (EP X pins σ Q) acc C) fun acc C H' s' I' f' ⟨m,hm⟩ q'=>⟨m,hm,fun h' hs'=>⟨.ref acc,H',fp_turn f' I' hs',rfl,q'⟩⟩
theorem ps_comp {i:Nat} {y:Str} {py spos:Pos} (hc:X.calm = true) (hi:PI X target iter wi) (SC:CompSc X scope N' caps) (hin:∀ X',CompX X X' scope N' -> PG X' target g /\ PTs X' ifs tc /\ PE X' elt te) (hs:∀ x,foldedSetIterable iter X.env x = pure x)
    (hN:X.N.Nodup) (hy:X.N[i]? = some y) (hx:X.env.scope.names.lookup y = some .local) (hsw:swapsWith (.ListComp elt [⟨target,iter,ifs,0⟩] scope pos) (some (.Name y py)) spos.line X.env = pure true) :
    PS X (.Assign [.Name y py] (.ListComp elt [⟨target,iter,ifs,0⟩] scope pos) spos) (tAsg (tCompL wi caps g tc te) (gName i)):=by
  intro pins s σ H D I h
  rw [exec_Assign_Name_used _ _ _ _ hsw]
  refine wpAny_bind (wpAny_standAt (wpAny_bind ?_))
  show wpAny _ X.A (do let _ <- comprehension (.ListComp elt [⟨target,iter,ifs,0⟩] scope pos) scope X.env _ (newList []) false (eval iter X.env) (some (assign (.Name y py) X.env))) _ _ s
  refine wpAny_bind (wpAny_mono (wpAny_comprehension_free (use:=some (assign (.Name y py) X.env)) (Q:=fun _ s'=>SP X pins D .next s') rfl hs (closure_of (SC.cells I.ok)) SC.kind SC.names (thn (hi pins s σ H _ I h) fun v s1 h1=>thn h1 fun itv s2 h2=>?_))
    (fun _ s' hq=>wpAny_pure (wpAny_pure hq)) fun _ _ e=>e)
  obtain ⟨it,fp,tn,J,H2,rfl,I2,T,t0,f2,q2⟩:=h2
  refine comp_run (Q:=fun x H1=>gName i x σ H1 D.nx) I2 SC hc T t0 f2 hin q2 (RR:=fun acc C=>compPost (model X.prog X.w) X.A X.xe (some (assign (.Name y py) X.env)) (fun _ s'=>SP X pins D .next s') acc C) fun acc C H' s' I' f' ⟨m,hm⟩ q'=>?_
  show wpAny _ X.A (assign (.Name y py) X.env (.ref acc)) _ _ s'
  obtain ⟨o,es,ep,ho,hd,r⟩:=id hm
  have Ip:L2.Inv X (pins ++ pinsAt [C] s'.heap) σ H' s':=I'.pinned (fp:=[C]) (fun b hb=>(show b = C by simpa using hb) ▸ f') (fun b hb=>by
    have e:b = C:=by simpa using hb
    subst e
    exact ⟨o,ho,fun v z=>by rw [hd] at z;cases z⟩)
  refine wpAny_assign_Name (store_ok Ip hN hy (.inl hx) (show RelV (.ref acc) (.ref acc) from rfl) (fun s'' I''=>?_) (.inr hx))
  have hC:s''.heap.get? C = some o:=(I''.pin (C,o) (List.mem_append_right _ (List.mem_append_right _ (mem_pinsAt (by simp) ho)))).1
  exact ⟨m,⟨o,es,ep,hC,hd,r⟩,fun h' hs'=>⟨_,H',fp_turn f' I''.unpinned hs',q'⟩⟩
end

variable {G:GE} {k:Nat} {S:Stat}
noncomputable def relabelD (names sc:List (Str × NameKind)):List (Str × NameKind):=names.map fun (n,k)=>if (k == .free && sc.lookup n == some .cell) then (n,.cell) else (n,k)
noncomputable def blkS (S:Stat) (scope:Scope) (N':List Str):Stat:=⟨N',relabelD scope.names S.sc,[],true,false,false,fun _ _=>False⟩
structure BlkOk (S:Stat) (scope:Scope) (N':List Str) (caps:List (Option Nat)):Prop where
  kind:scope.kind = .function
  nd:N'.Nodup
  nocell:scope.names.all (fun y=>y.2 != .cell) = true
  names:scope.names.all (fun y=>y.2 != .local || scope.names.lookup y.1 == some .local) = true
  free:scope.names.all (fun y=>y.2 != .free || S.sc.lookup y.1 == some .cell || S.sc.lookup y.1 == some .free) = true
  len:caps.length = N'.length
  cap:(caps.zip N').all (fun p=>match p.1 with | some j=>S.N[j]? == some p.2 && scope.names.lookup p.2 == some .free | none=>true) = true
theorem BlkOk.sc {scope:Scope} {N':List Str} {caps:List (Option Nat)} (b:BlkOk S scope N' caps) {X:Cx} {Y:Dyn} (ok:XOk X G k S Y):CompSc X scope N' caps where
  kind:=b.kind
  nocell:=fun y hy z=>by
    have:=List.all_eq_true.mp b.nocell y hy
    rw [z] at this;cases this
  names:=fun y hy z=>by
    have:=List.all_eq_true.mp b.names y hy
    rw [z] at this
    simpa using this
  free:=fun y hy z=>by
    have:=List.all_eq_true.mp b.free y hy
    rw [z] at this
    have kd:X.env.kindOf y.1 = S.sc.lookup y.1:=by
      show X.env.scope.names.lookup y.1 = _
      rw [ok.sc]
    rw [kd]
    simpa using this
  len:=b.len
  cap:=fun i j e=>by
    have hl:i < caps.length:=(List.getElem?_eq_some_iff.mp e).1
    have hl':i < N'.length:=by rw [<- b.len];exact hl
    have hz:(caps.zip N')[i]? = some (some j,N'[i]):=by
      rw [List.getElem?_zip_eq_some]
      exact ⟨e,by rw [List.getElem?_eq_getElem hl']⟩
    have:=List.all_eq_true.mp b.cap _ (List.mem_of_getElem? hz)
    simp only [Bool.and_eq_true,beq_iff_eq] at this
    exact ⟨N'[i],by rw [List.getElem?_eq_getElem hl'],by rw [ok.N];exact this.1,this.2⟩
theorem comp_xok {X X':Cx} {Y:Dyn} {scope:Scope} {N':List Str} {caps:List (Option Nat)} (hh:S.hot = false) (ok:XOk X G k S Y) (b:BlkOk S scope N' caps) (c:CompX X X' scope N') (Y':Dyn) (hio:Y'.io = []):XOk X' G k (blkS S scope N') Y' where
  P:=c.P.trans ok.P
  w:=c.w.trans ok.w
  K:=c.K.trans ok.K
  kf:=c.K.trans ok.kf
  mg:=c.mg.trans ok.mg
  obs:=fun h=>nomatch h
  base:=c.base.trans ok.base
  N:=c.N
  sc:=by
    rw [c.sc]
    show scope.names.map _ = relabelD scope.names S.sc
    unfold relabelD
    refine List.map_congr_left fun y _=>?_
    obtain ⟨n,kk⟩:=y
    have kd:X.env.kindOf n = S.sc.lookup n:=by
      show X.env.scope.names.lookup n = _
      rw [ok.sc]
    simp only [ok.kind,kd,beq_self_eq_true,Bool.and_true]
  nd:=b.nd
  ios:=fun p hp=>by rw [hio] at hp;cases hp
  calm:=fun _=>c.calm
  kind:=by rw [c.sc];exact b.kind
  fn:=fun h=>by cases h
  hd:=fun _=>by rw [c.A];exact ok.hd hh
  dp:=by rw [c.A];exact ok.dp
  un:=by rw [c.A];exact ok.un
  po:=fun _=>by rw [c.xe];exact PassesOwn.never
  nx:=fun h=>nomatch h
  exc:=fun _ _ h=>h.elim
  made:=fun h=>nomatch h
noncomputable def leS:Sd -> Sd -> Prop
  | [],[]=>True
  | none :: r,_ :: s=>leS r s
  | some b :: r,c :: s=>c = some b /\ leS r s
  | _,_=>False
theorem leS_get:∀ {a b:Sd} {i:Nat} {x:B},leS a b -> a[i]? = some (some x) -> b[i]? = some (some x)
  | [],[],_,_,_,e=>by simp at e
  | none :: r,c :: s,0,_,h,e=>by simp at e
  | none :: r,c :: s,i + 1,x,h,e=>by
    have h:leS r s:=h
    simpa using leS_get (i:=i) h (by simpa using e)
  | some b :: r,c :: s,0,x,h,e=>by
    obtain ⟨h1,h2⟩:c = some b /\ leS r s:=h
    simp at e;subst e;simp [h1]
  | some b :: r,c :: s,i + 1,x,h,e=>by
    obtain ⟨h1,h2⟩:c = some b /\ leS r s:=h
    simpa using leS_get (i:=i) h2 (by simpa using e)
  | [],_ :: _,_,_,h,_=>h.elim
  | none :: _,[],_,_,h,_=>h.elim
  | some _ :: _,[],_,_,h,_=>h.elim
theorem leS_len:∀ {a b:Sd},leS a b -> a.length = b.length
  | [],[],_=>rfl
  | none :: r,c :: s,h=>by
    have h:leS r s:=h
    simp [leS_len h]
  | some b :: r,c :: s,h=>by
    obtain ⟨_,h2⟩:c = some b /\ leS r s:=h
    simp [leS_len h2]
  | [],_ :: _,h=>h.elim
  | none :: _,[],h=>h.elim
  | some _ :: _,[],h=>h.elim
noncomputable def frzC (ios:List Nat):List (Option Nat) -> Sd -> (Sd -> Prop) -> Prop
  | [],σ,Q=>Q σ
  | none :: r,σ,Q=>frzC ios r σ Q
  | some j :: r,σ,Q=>match σ[j]? with
    | some (some (.own xs))=>j ∉ ios /\ frzC ios r (σ.set j (some (.sh (.lst xs)))) Q
    | _=>frzC ios r σ Q
noncomputable def capD (caps:List (Option Nat)) (σ:Sd):Sd:=caps.map fun c=>match c with
  | some j=>match σ[j]? with
    | some (some (.sh d))=>some (.sh d)
    | _=>none
  | none=>none
noncomputable def compD (g:TGd) (tc:TB) (te:TD) (σ0:Sd):List D -> List D -> (List D -> Prop) -> Prop
  | [],acc,Q=>Q acc
  | x :: xs,acc,Q=>g x σ0 fun σ1=>tc σ1 fun b σ2=>if b = true then te σ2 fun d σ3=>leS σ0 σ3 /\ acc.length < sizeLine /\ compD g tc te σ0 xs (acc ++ [d]) Q else leS σ0 σ2 /\ compD g tc te σ0 xs acc Q
noncomputable def tComp (ios:List Nat) (caps:List (Option Nat)) (ti:TDs) (g:TGd) (tc:TB) (te:TD):TX:=fun σ Q=>ti σ fun items σ1=>frzC ios caps σ1 fun σ2=>compD g tc te (capD caps σ2) items [] fun ds=>Q (.own ds) σ2
theorem frzC_sound {ios:List Nat} {Y:Dyn} (hio:∀ p ∈ Y.io,p.1 ∈ ios):∀ {caps:List (Option Nat)} {F:Hp} {σd:Sd} {σ:St} {H:Hp} {Q:Sd -> Prop},RS Y F σd σ H -> frzC ios caps σd Q -> ∃ F' σd',Same F F' /\ RS Y F' σd' σ H /\ Q σd'
  | [],F,σd,σ,H,Q,R,q=>⟨F,σd,Same.refl _,R,q⟩
  | none :: r,F,σd,σ,H,Q,R,q=>frzC_sound hio (caps:=r) R q
  | some j :: r,F,σd,σ,H,Q,R,q=>by
    unfold frzC at q
    split at q
    · rename_i xs e
      obtain ⟨F2,v2,s2,R2,e2,r2⟩:=R.freezeVar e fun p hp z=>q.1 (z ▸ hio p hp)
      obtain ⟨F3,σ3,s3,R3,q3⟩:=frzC_sound hio (caps:=r) R2 q.2
      exact ⟨F3,σ3,s2.trans s3,R3,q3⟩
    · exact frzC_sound hio (caps:=r) R q
theorem capD_noobj (caps:List (Option Nat)) (σd:Sd):∀ (i:Nat) (o:O),(capD caps σd)[i]? ≠ some (some (.obj o)):=fun i o e=>by
  unfold capD at e
  rw [List.getElem?_map] at e
  cases ec:caps[i]? with
  | none=>rw [ec] at e;cases e
  | some c =>
    rw [ec] at e
    cases c with
    | none=>cases e
    | some j =>
      have e:(match σd[j]? with | some (some (.sh d))=>some (B.sh d) | _=>none) = some (.obj o):=Option.some.inj e
      split at e<;>cases e

theorem capD_rs {Y:Dyn} {F:Hp} {σd:Sd} {σ:St} {H:Hp} (R:RS Y F σd σ H) (caps:List (Option Nat)) {F' H':Hp} (s1:Same F F') (s2:Same F' H'):RS ⟨H',F',[],[]⟩ F' (capD caps σd) (capSt caps σ) H' where
  len:=by unfold capD capSt;simp
  lo:=Same.refl _
  fr:=s2
  fro:=fun b o e=>.inl e
  old:=fun b o e _=>e
  sh:=fun i d e=>by
    unfold capD at e
    rw [List.getElem?_map] at e
    unfold capSt
    rw [List.getElem?_map]
    cases ec:caps[i]? with
    | none=>rw [ec] at e;cases e
    | some c =>
      rw [ec] at e
      cases c with
      | none=>cases e
      | some j =>
        have e:(match σd[j]? with | some (some (.sh d))=>some (B.sh d) | _=>none) = some (.sh d):=Option.some.inj e
        split at e
        · rename_i d' q
          cases e
          obtain ⟨v,h1,h2⟩:=R.sh j d q
          exact ⟨v,by show some ((σ[j]?).join) = _;rw [h1];rfl,h2.mono s1⟩
        · cases e
  own:=fun i xs e=>by
    unfold capD at e
    rw [List.getElem?_map] at e
    cases ec:caps[i]? with
    | none=>rw [ec] at e;cases e
    | some c =>
      rw [ec] at e
      cases c with
      | none=>cases e
      | some j =>
        have e:(match σd[j]? with | some (some (.sh d))=>some (B.sh d) | _=>none) = some (.own xs):=Option.some.inj e
        split at e<;>cases e
  dis:=fun i j xs ys a e=>by
    exfalso
    unfold capD at e
    rw [List.getElem?_map] at e
    cases ec:caps[i]? with
    | none=>rw [ec] at e;cases e
    | some c =>
      rw [ec] at e
      cases c with
      | none=>cases e
      | some j =>
        have e:(match σd[j]? with | some (some (.sh d))=>some (B.sh d) | _=>none) = some (.own xs):=Option.some.inj e
        split at e<;>cases e
  io:=fun p hp=>by cases hp
  ob:=.none (capD_noobj _ _) (R.ob.tab.mono s1) fun b hb=>by cases hb
theorem RS.less {Y:Dyn} {F:Hp} {σ0 σd:Sd} {σ:St} {H:Hp} (R:RS Y F σd σ H) (l:leS σ0 σd) (noown:∀ (i:Nat) (xs:List D),σ0[i]? ≠ some (some (.own xs))) (noobj:∀ (i:Nat) (o:O),σ0[i]? ≠ some (some (.obj o))) {H':Hp} (s:Same F H'):RS ⟨H',F,[],[]⟩ F σ0 σ H' where
  len:=(leS_len l).trans R.len
  lo:=Same.refl _
  fr:=s
  fro:=fun b o e=>.inl e
  old:=fun b o e _=>e
  sh:=fun i d e=>R.sh i d (leS_get l e)
  own:=fun i xs e=>absurd e (noown i xs)
  dis:=fun i j xs ys a e=>absurd e (noown i xs)
  io:=fun p hp=>by cases hp
  ob:=.none noobj R.ob.tab fun b hb=>by cases hb
theorem capD_noown (caps:List (Option Nat)) (σd:Sd):∀ (i:Nat) (xs:List D),(capD caps σd)[i]? ≠ some (some (.own xs)):=fun i xs e=>by
  unfold capD at e
  rw [List.getElem?_map] at e
  cases ec:caps[i]? with
  | none=>rw [ec] at e;cases e
  | some c =>
    rw [ec] at e
    cases c with
    | none=>cases e
    | some j =>
      have e:(match σd[j]? with | some (some (.sh d))=>some (B.sh d) | _=>none) = some (.own xs):=Option.some.inj e
      split at e<;>cases e

theorem leS_refl:∀ a:Sd,leS a a
  | []=>trivial
  | none :: r=>leS_refl r
  | some b :: r=>⟨rfl,leS_refl r⟩
theorem RS.other {Y:Dyn} {F:Hp} {σd:Sd} {σ:St} {H:Hp} {a:Addr} {o:HO} (R:RS Y F σd σ H) (h1:F a = none) (h2:Y.H0 a = none) (h3:NoOwn σd σ a):RS Y F σd σ (upd H a o) where
  len:=R.len
  lo:=R.lo
  fr:=fun b u e=>by
    have:b ≠ a:=fun z=>by rw [z,h1] at e;cases e
    rw [upd_ne this];exact R.fr b u e
  fro:=R.fro
  old:=fun b u e n=>by
    have:b ≠ a:=fun z=>by rw [z,h2] at e;cases e
    rw [upd_ne this];exact R.old b u e n
  sh:=R.sh
  own:=fun i xs e=>by
    obtain ⟨b,vs,w1,w2,w3⟩:=R.own i xs e
    have:b ≠ a:=fun z=>h3 i xs e (by rw [w1,z])
    exact ⟨b,vs,w1,by rw [upd_ne this];exact w2,w3⟩
  dis:=R.dis
  io:=R.io
  ob:=R.ob.step (Same.refl _) (fun _ _ e=>⟨e,rfl⟩) (fun b hb=>by
    obtain ⟨w1,w2,w3⟩:=R.ob.owned hb
    have hne:b ≠ a:=fun z=>h3.nob (z ▸ hb)
    exact ⟨upd_ne hne,w1,w3⟩) R.ob.dsx fun b hb=>by
    by_cases hne:b = a
    · rw [hne,upd_same];exact fun z=>nomatch z
    · rw [upd_ne hne];exact R.ob.there b hb
noncomputable def lGe (g:TGd):TG:=fun v σ H Q=>∃ Y:Dyn,Y.io = [] /\ lG Y g v σ H Q
noncomputable def lBe (t:TB):TT:=fun σ H Q=>∃ Y:Dyn,Y.io = [] /\ lB Y t σ H Q
noncomputable def lDe (t:TD):TE:=fun σ H Q=>∃ Y:Dyn,Y.io = [] /\ lD Y t σ H Q
structure EBs (G:GE) (k:Nat) (S:Stat) (ifs:List Expr) (t:TB) :Prop where
  run:∀ X Y,XOk X G k S Y -> PTs X ifs (lB Y t)
instance {G:GE} {k:Nat} {S:Stat} {ifs:List Expr} {t:TB} :CoeFun (EBs G k S ifs t) fun _=>∀ X Y,XOk X G k S Y -> PTs X ifs (lB Y t):=⟨EBs.run⟩
noncomputable def tTrue:TB:=fun σ Q=>Q true σ
theorem b_nil:EBs G k S [] tTrue:=.mk fun X Y ok pins s σ H Q I q=>pts_nil pins s σ H Q I (by
  obtain ⟨F,σd,Qd,R,q,K⟩:=q
  exact K true H F σd (Same.refl _) R q)
theorem b_one {c:Expr} {t:TB} (h:EB G k S c t):EBs G k S [c] t:=.mk fun X Y ok=>pts_one (h X Y ok)
section
variable {elt target iter:Expr} {ifs:List Expr} {scope:Scope} {pos:Pos} {N':List Str} {caps:List (Option Nat)} {ti:TDs} {g:TGd} {tc:TB} {te:TD}
theorem comp_in {X:Cx} {Y:Dyn} (hh:S.hot = false) (ok:XOk X G k S Y) (b:BlkOk S scope N' caps) (hg:EG G k (blkS S scope N') target g) (ht:EBs G k (blkS S scope N') ifs tc) (he:ED G k (blkS S scope N') elt te) :
    ∀ X',CompX X X' scope N' -> PG X' target (lGe g) /\ PTs X' ifs (lBe tc) /\ PE X' elt (lDe te):=fun X' c =>
  ⟨fun pins s σ H v u Q I r ⟨Y',hio,q⟩=>hg X' Y' (comp_xok hh ok b c Y' hio) pins s σ H v u Q I r q,fun pins s σ H Q I ⟨Y',hio,q⟩=>ht X' Y' (comp_xok hh ok b c Y' hio) pins s σ H Q I q,fun pins s σ H Q I ⟨Y',hio,q⟩=>he X' Y' (comp_xok hh ok b c Y' hio) pins s σ H Q I q⟩
theorem comp_sound {Y:Dyn} {ios:List Nat} (hio:∀ p ∈ Y.io,p.1 ∈ ios) {σ:St} {H:Hp} {Q:VK} (q:lX Y (tComp ios caps ti g tc te) σ H Q):tCompL (lI Y ti) caps (lGe g) (lBe tc) (lDe te) σ H Q:=by
  obtain ⟨F,σd,Qd,R,q,K⟩:=q
  refine ⟨F,σd,_,R,q,fun H1 F1 σd1 J items s1 R1 it q1 acc hacc=>?_⟩
  obtain ⟨F2,σd2,s2,R2,q2⟩:=frzC_sound hio R1 q1
  have it2:=it.mono s2
  have a0:Y.H0 acc = none:=(R2.fresh0 hacc).1
  have aF:F2 acc = none:=same_none R2.fr hacc
  have aN:NoOwn σd2 σ acc:=R2.noFresh hacc
  have sw:∀ {F5 H5:Hp} {o:HO},Same F5 H5 -> F5 acc = none -> Same F5 (upd H5 acc o):=fun {F5 H5 o} s5 h b u e=>by
    have:b ≠ acc:=fun z=>by rw [z,h] at e;cases e
    rw [upd_ne this];exact s5 b u e
  refine ⟨fun i m σ1 H'=>∃ Fi ds ys,Same F2 Fi /\ RS Y Fi σd2 σ H' /\ H' acc = some (.lst ys) /\ RepL Fi ys ds /\ Fi acc = none /\ RS ⟨H',Fi,[],[]⟩ Fi (capD caps σd2) σ1 H' /\ compD g tc te (capD caps σd2) (items.drop i) ds (fun ds=>Qd (.own ds) σd2) /\ m = items.length - i /\ i <= items.length,
    ⟨items.length,F2,[],[],Same.refl _,R2.other aF a0 aN,upd_same,.nil,aF,capD_rs R2 caps (Same.refl _) (sw R2.fr aF),q2,rfl,Nat.zero_le _⟩,?_⟩
  rintro i m σ1 Hi ⟨Fi,ds,ys,si,Ri,hacci,ri,fi,Rin,qi,rfl,hi⟩
  have itr:=it2 Fi Hi si Ri.fr i
  by_cases hl:i < items.length
  · right
    have hd:items.drop i = items[i] :: items.drop (i + 1):=by rw [List.drop_eq_getElem_cons hl]
    rw [hd] at qi
    obtain ⟨go,yl⟩:=itr.1 items[i] (by rw [List.getElem?_eq_getElem hl])
    refine ⟨go,fun v H' y=>?_⟩
    obtain ⟨F3,gr,rep⟩:=yl v H' y
    have sF:Same Fi F3:=gr.same Ri.fr
    have R3:=gr.rs Rin
    have R3':RS ⟨H',F3,[],[]⟩ F3 (capD caps σd2) σ1 H':=R3.less (leS_refl _) (capD_noown _ _) (capD_noobj _ _) R3.fr
    have sH:Same Hi H':=by
      rcases gr with ⟨_,rfl⟩ | ⟨p,o,hp,_,rfl⟩
      · exact Same.refl _
      · exact same_alloc hp
    have fr3:∀ c o,F3 c = some o -> Fi c = some o \/ Nw Hi c o:=fun c o e=>by
      rcases gr with ⟨rfl,_⟩ | ⟨p,o',hp,rfl,_⟩
      · exact .inl e
      · by_cases hc:c = p
        · subst hc;exact .inr (.inl hp)
        · rw [upd_ne hc] at e;exact .inl e
    -- behind the turn
    have back:∀ {F5 H5:Hp} {σd5:Sd} {σ5:St},Same F3 F5 -> RS ⟨H',F3,[],[]⟩ F5 σd5 σ5 H5 -> RS Y F5 σd2 σ H5 /\ H5 acc = some (.lst ys) /\ F5 acc = none /\ Same Fi F5:=fun {F5 H5 σd5 σ5} s5 R5=>by
      have s35:Same Hi H5:=sH.trans fun b o e=>R5.old b o e (by simp [Dyn.ioA])
      have fr5:∀ c o,F5 c = some o -> Fi c = some o \/ Nw Hi c o:=fun c o e=>by
        rcases R5.fro c o e with z | z
        · exact fr3 c o z
        · exact .inr (z.imp sH.free id)
      refine ⟨Ri.call (sF.trans s5) R5.fr s35 fr5,s35 _ _ hacci,?_,sF.trans s5⟩
      cases e:F5 acc with
      | none=>rfl
      | some o =>
        rcases fr5 acc o e with z | z
        · rw [fi] at z;cases z
        · rcases z with z | ⟨ws,rfl⟩
          · rw [hacci] at z;cases z
          · have y:=R5.fr acc _ e;rw [s35 _ _ hacci] at y;cases y
    refine ⟨⟨H',F3,[],[]⟩,rfl,F3,_,items[i],_,R3',rep,qi,fun σ4 H4 F4 σd4 s4 R4 q4=>?_⟩
    refine ⟨⟨H',F3,[],[]⟩,rfl,F4,σd4,_,R4,q4,fun b H5 F5 σd5 s5 R5 q5=>?_⟩
    cases b with
    | false =>
      obtain ⟨le,q5⟩:=q5
      obtain ⟨w1,w2,w3,w4⟩:=back (s4.trans s5) R5
      exact ⟨items.length - (i + 1),by omega,F5,ds,ys,si.trans w4,w1,w2,ri.mono w4,w3,R5.less le (capD_noown _ _) (capD_noobj _ _) R5.fr,q5,rfl,hl⟩
    | true =>
      refine ⟨⟨H',F3,[],[]⟩,rfl,F5,σd5,_,R5,q5,fun v6 H6 F6 d σd6 s6 R6 r6 q6=>?_⟩
      obtain ⟨le,hz,q6⟩:=q6
      obtain ⟨w1,w2,w3,w4⟩:=back ((s4.trans s5).trans s6) R6
      exact ⟨ys,items.length - (i + 1),w2,by rw [ri.length];exact hz,by omega,F6,ds ++ [d],ys ++ [v6],si.trans w4,w1.other w3 a0 aN,upd_same,(ri.mono w4).append (.cons r6 .nil),w3,R6.less le (capD_noown _ _) (capD_noobj _ _) (sw R6.fr w3),q6,rfl,hl⟩
  · left
    have e:i = items.length:=by omega
    subst e
    rw [List.drop_length] at qi
    exact ⟨itr.2 rfl,K _ Hi Fi (.own ds) σd2 ((s1.trans s2).trans si) Ri ⟨acc,ys,rfl,hacci,ri,fi,a0,aN⟩ qi⟩
theorem r_comp (hi:EI G k S target iter ti) (b:BlkOk S scope N' caps) (hg:EG G k (blkS S scope N') target g) (ht:EBs G k (blkS S scope N') ifs tc) (he:ED G k (blkS S scope N') elt te) (hs:∀ env x,foldedSetIterable iter env x = pure x:=by intro _ _;rfl) (hh:S.hot = false:=by rfl) :
    EX G k S (.ListComp elt [⟨target,iter,ifs,0⟩] scope pos) (tComp S.ios caps ti g tc te):=.mk fun X Y ok =>
  pe_imp (pe_comp (ok.calm hh) (hi X Y ok) (b.sc ok) (comp_in hh ok b hg ht he) (hs _)) fun σ H Q q=>comp_sound ok.ios q
theorem s_comp (i:Nat) {y:Str} {py spos:Pos} (hi:EI G k S target iter ti) (b:BlkOk S scope N' caps) (hg:EG G k (blkS S scope N') target g) (ht:EBs G k (blkS S scope N') ifs tc) (he:ED G k (blkS S scope N') elt te)
    (hy:S.N[i]? = some y:=by rfl) (hx:S.sc.lookup y = some .local \/ (S.sc.lookup y = some .cell /\ S.blk = false):=by first | exact Or.inl rfl | exact Or.inr ⟨rfl,rfl⟩) (hn:i ∉ S.ios:=by first | decide | exact List.not_mem_nil) (hl:(py.line == pos.line) = true:=by rfl) (hsn:(scope.names.any fun (n,k)=>n == y && (k == .local || k == .cell)) = false:=by decide +kernel)
    (hs:∀ env x,foldedSetIterable iter env x = pure x:=by intro _ _;rfl) (hh:S.hot = false:=by rfl):ES G k S (.Assign [.Name y py] (.ListComp elt [⟨target,iter,ifs,0⟩] scope pos) spos) (tSt S.ios i (tComp S.ios caps ti g tc te)):=.mk fun X Y ok=>by
  have sw:swapsWith (.ListComp elt [⟨target,iter,ifs,0⟩] scope pos) (some (.Name y py)) spos.line X.env = pure (S.sc.lookup y == some .local):=by
    have e:swapsWith (.ListComp elt [⟨target,iter,ifs,0⟩] scope pos) (some (.Name y py)) spos.line X.env = pure (X.env.blockKind == .function && X.env.kindOf y == some .local && py.line == pos.line && !(scope.names.any fun (n,k)=>n == y && (k == .local || k == .cell))):=rfl
    have kb:X.env.blockKind = .function:=by unfold Env.blockKind;rw [ok.kind];rfl
    have kd:X.env.kindOf y = S.sc.lookup y:=by
      show X.env.scope.names.lookup y = _
      rw [ok.sc]
    rw [e,kb,kd,hl,hsn]
    simp
  have fin:∀ Dn σ H,lS Y (tSt S.ios i (tComp S.ios caps ti g tc te)) Dn σ H -> tAsg (tCompL (lI Y ti) caps (lGe g) (lBe tc) (lDe te)) (gName i) Dn σ H:=fun Dn σ H q=>by
    obtain ⟨F,σd,De,R,q,K⟩:=q
    refine comp_sound ok.ios ⟨F,σd,_,R,q,fun v H1 F1 y σ1 s1 R1 r1 q1=>?_⟩
    obtain ⟨F2,σ2,s2,R2,q2⟩:=stD_sound R1 r1 hn ok.ios q1
    exact K.nx _ H1 F2 σ2 (s1.trans s2) R2 q2
  rcases hx with hx | hx
  · refine ps_imp (ps_comp (i:=i) (ok.calm hh) (hi X Y ok) (b.sc ok) (comp_in hh ok b hg ht he) (hs _) (by rw [ok.N];exact ok.nd) (by rw [ok.N];exact hy) (by rw [ok.sc];exact hx) (by rw [sw,hx];rfl)) fin
  · refine ps_imp (L2.ps_set (i:=i) (by rw [ok.N];exact ok.nd) (by rw [ok.N];exact hy) (loc_of ok (.inr hx)) (pe_comp (ok.calm hh) (hi X Y ok) (b.sc ok) (comp_in hh ok b hg ht he) (hs _)) (by rw [sw,hx.1];rfl) (fn_of' ok (.inr hx))) fin
end
end Vc

set_option Elab.async false
set_option linter.all false
set_option maxRecDepth 100000

namespace Vc
open PySem L2
variable [KF]

section
variable {prog:Program} {w:World} {A:Around} {E:Value -> Shared -> Prop} {s:Shared}
theorem draw_tup {j t:Addr} {i:Nat} {xs:Array Value} {x:Value} {Q:Value -> Shared -> Prop} (hj:s.heap.IsTupleIter j t i) (ht:s.heap.IsTuple t xs) (hx:xs[i]? = some x)
    (q:∀ g,g.IsTupleIter j t (i + 1) -> Heap.SameBut j s.heap g -> Q x { s with heap:=g }):wpAny (model prog w) A (Builtin.SmallTypes.nextOf (.ref j)) Q E s:=by
  obtain ⟨ob,h1,h2,h3⟩:=id hj
  obtain ⟨ot,h4,_,nt,h5⟩:=ht
  unfold Builtin.SmallTypes.nextOf
  refine wpAny_bind (wpAny_callSpecial?_slot (name:=Str.ofString "__next__") hj.typeIs F.slot_tuple_iterator_next (wpAny_call_entry F.slot_tuple_iterator_next hj.typeIs F.entry_tuple_iterator_next ?_ (F.args_tuple_iterator_next_1 _)))
  show wpAny _ _ (field (.ref j) 0 >>= _) _ _ s
  refine wpAny_bind (wpAny_field h1 h3 (x:=.ref t) rfl ?_)
  show wpAny _ _ (if (Value.ref t == Value.none) = true then _ else _) _ _ s
  rw [if_neg (by intro z;exact absurd z Bool.false_ne_true)]
  show wpAny _ _ (field (.ref j) 1 >>= _) _ _ s
  refine wpAny_bind (wpAny_field h1 h3 (x:=.int i 0) rfl ?_)
  show wpAny _ _ (seqItems? (.ref t) >>= _) _ _ s
  refine wpAny_bind (wpAny_seqItems h4 h5 ?_)
  simp only [Int.toNat_natCast,hx]
  refine wpAny_bind (wpAny_setField h1 h3 (by simp) (wpAny_pure ⟨x,rfl,wpAny_pure (q _ ?_ (Heap.SameBut.update ..))⟩))
  refine ⟨_,Heap.get?_update_self _ h1 (Obj.isFreed_of_fields (Obj.data_mapFields h3 _)),(Obj.cls_mapFields ..).trans h2,?_⟩
  rw [Obj.data_mapFields h3]
  simp [rawInt]
theorem draw_tup_end {j t:Addr} {i:Nat} {xs:Array Value} {Q:Value -> Shared -> Prop} (hh:A.handled = none) (hj:s.heap.IsTupleIter j t i) (ht:s.heap.IsTuple t xs) (hx:xs[i]? = none)
    (q:∀ g e,Heap.ExtBut j s.heap g -> (∃ o,g.get? e = some o /\ o.cls = .type "StopIteration") -> E (.ref e) { s with heap:=g }):wpAny (model prog w) A (Builtin.SmallTypes.nextOf (.ref j)) Q E s:=by
  obtain ⟨ob,h1,h2,h3⟩:=id hj
  obtain ⟨ot,h4,_,nt,h5⟩:=ht
  unfold Builtin.SmallTypes.nextOf
  refine wpAny_bind (wpAny_callSpecial?_slot (name:=Str.ofString "__next__") hj.typeIs F.slot_tuple_iterator_next (wpAny_call_entry F.slot_tuple_iterator_next hj.typeIs F.entry_tuple_iterator_next ?_ (F.args_tuple_iterator_next_1 _)))
  show wpAny _ _ (field (.ref j) 0 >>= _) _ _ s
  refine wpAny_bind (wpAny_field h1 h3 (x:=.ref t) rfl ?_)
  show wpAny _ _ (if (Value.ref t == Value.none) = true then _ else _) _ _ s
  rw [if_neg (by intro z;exact absurd z Bool.false_ne_true)]
  show wpAny _ _ (field (.ref j) 1 >>= _) _ _ s
  refine wpAny_bind (wpAny_field h1 h3 (x:=.int i 0) rfl ?_)
  show wpAny _ _ (seqItems? (.ref t) >>= _) _ _ s
  refine wpAny_bind (wpAny_seqItems h4 h5 ?_)
  simp only [Int.toNat_natCast,hx]
  refine wpAny_bind (wpAny_rule (wpAny_bind (wpAny_setField h1 h3 (by simp) ?_)))
  show wpAny _ _ (newExc (.type "StopIteration") [] >>= _) _ _ _
  refine wpAny_bind ?_
  simp only [newExc,newTuple]
  refine wpAny_bind (wpAny_newObj_type ?_ (by size_fits))
  refine wpAny_bind (m:=firstArgMember _ _) (wpAny_of_eq (a:=Value.none) (by first | rfl | (simp only [firstArgMember];rfl)) ?_)
  refine wpAny_newObj_type ?_ (by size_fits)
  simp only [raiseNew]
  refine wpAny_bind (wpAny_handled ?_)
  first | rw [show A.in1.handled = none from hh] | rw [hh]
  refine wpAny_bind (wpAny_pure (wpAny_throw ?_))
  exact q _ _ (((Heap.SameBut.update ..).extBut.push _).push _) ⟨_,Heap.get?_push_size _ rfl,rfl⟩
end
noncomputable def SqI (tp:Bool) (h:Heap) (j a:Addr) (i:Nat):Prop:=if tp = true then h.IsTupleIter j a i else h.IsListIter j a i
noncomputable def SqA (tp:Bool) (h:Heap) (a:Addr) (xs:Array Value):Prop:=if tp = true then h.IsTuple a xs else h.IsList a xs
theorem SqI.live {tp:Bool} {h:Heap} {j a:Addr} {i:Nat} (q:SqI tp h j a i):∃ o,h.get? j = some o /\ ∀ v,o.data ≠ .cell v:=by
  cases tp with
  | true=>obtain ⟨o,e,c,d⟩:=(show h.IsTupleIter j a i from q);exact ⟨o,e,fun v z=>by rw [d] at z;cases z⟩
  | false=>obtain ⟨o,e,c,d⟩:=(show h.IsListIter j a i from q);exact ⟨o,e,fun v z=>by rw [d] at z;cases z⟩
theorem SqI.at {tp:Bool} {h h':Heap} {j a:Addr} {i:Nat} (q:SqI tp h j a i) (k:∀ o,h.get? j = some o -> h'.get? j = some o):SqI tp h' j a i:=by
  cases tp with
  | true=>obtain ⟨o,e,r⟩:=(show h.IsTupleIter j a i from q);exact (show h'.IsTupleIter j a i from ⟨o,k o e,r⟩)
  | false=>obtain ⟨o,e,r⟩:=(show h.IsListIter j a i from q);exact (show h'.IsListIter j a i from ⟨o,k o e,r⟩)
theorem SqA.at {tp:Bool} {h h':Heap} {a:Addr} {xs:Array Value} (q:SqA tp h a xs) (k:∀ o,h.get? a = some o -> h'.get? a = some o):SqA tp h' a xs:=by
  cases tp with
  | true=>obtain ⟨o,e,r⟩:=(show h.IsTuple a xs from q);exact (show h'.IsTuple a xs from ⟨o,k o e,r⟩)
  | false=>obtain ⟨o,e,r⟩:=(show h.IsList a xs from q);exact (show h'.IsList a xs from ⟨o,k o e,r⟩)
section
variable {prog:Program} {w:World} {A:Around} {E:Value -> Shared -> Prop} {s:Shared}
theorem draw {tp:Bool} {j a:Addr} {i:Nat} {xs:Array Value} {x:Value} {Q:Value -> Shared -> Prop} (hj:SqI tp s.heap j a i) (ha:SqA tp s.heap a xs) (hx:xs[i]? = some x)
    (q:∀ g,SqI tp g j a (i + 1) -> Heap.SameBut j s.heap g -> Q x { s with heap:=g }):wpAny (model prog w) A (Builtin.SmallTypes.nextOf (.ref j)) Q E s:=by
  cases tp with
  | true=>exact draw_tup hj ha hx q
  | false=>exact wpAny_nextOf_list_item hj ha hx q
theorem draw_end {tp:Bool} {j a:Addr} {i:Nat} {xs:Array Value} {Q:Value -> Shared -> Prop} (hh:A.handled = none) (hj:SqI tp s.heap j a i) (ha:SqA tp s.heap a xs) (hx:xs[i]? = none)
    (q:∀ g e,Heap.ExtBut j s.heap g -> (∃ o,g.get? e = some o /\ o.cls = .type "StopIteration") -> E (.ref e) { s with heap:=g }):wpAny (model prog w) A (Builtin.SmallTypes.nextOf (.ref j)) Q E s:=by
  cases tp with
  | true=>exact draw_tup_end hh hj ha hx q
  | false=>exact wpAny_nextOf_list_end hh hj ha hx q
structure ZAp (z U V i j:Addr):Prop where
  uz:U ≠ z
  vz:V ≠ z
  iz:i ≠ z
  jz:j ≠ z
  uv:U ≠ V
  ui:U ≠ i
  uj:U ≠ j
  vi:V ≠ i
  vj:V ≠ j
  ij:i ≠ j
theorem zip_one {tp tq:Bool} {z U V i j l m:Addr} {n:Nat} {xs ys:Array Value} {x y a b:Value} {Q:Option Value -> Shared -> Prop} (D:ZAp z U V i j) (lz:l ≠ z /\ l ≠ V /\ l ≠ i /\ l ≠ j) (mz:m ≠ z /\ m ≠ V /\ m ≠ i /\ m ≠ j)
    (hz:IsZip s.heap z U V .none) (hU:IsPair s.heap U (.ref i) (.ref j)) (hV:IsPair s.heap V a b) (h1:SqI tp s.heap i l n) (h2:SqI tq s.heap j m n) (hl:SqA tp s.heap l xs) (hm:SqA tq s.heap m ys) (hx:xs[n]? = some x) (hy:ys[n]? = some y)
    (q:∀ g,IsZip g z U V (rawInt s.heap.objs.size) -> IsPair g V x y -> SqI tp g i l (n + 1) -> SqI tq g j m (n + 1) -> IsPair g s.heap.objs.size x y -> g.objs.size = s.heap.objs.size + 1 ->
      (∀ c o,c ≠ z -> c ≠ V -> c ≠ i -> c ≠ j -> s.heap.get? c = some o -> g.get? c = some o) -> Q (some (.ref s.heap.objs.size)) { s with heap:=g }):wpAny (model prog w) A (pyNext (.ref z)) Q E s:=by
  have hT:s.TypeIs (.ref z) "zip":=⟨_,hz,rfl⟩
  unfold pyNext
  refine wpAny_bind (wpAny_attempt (wpAny_callSpecial?_slot (name:=Str.ofString "__next__") hT F.slot_zip_next (wpAny_call_entry F.slot_zip_next hT F.entry_zip_next ?_ (F.args_zip_next_1 _))))
  show wpAny _ _ (field (.ref z) 2 >>= _) _ _ _
  refine wpAny_bind (wpAny_field hz rfl (x:=.bool false) rfl ?_)
  show wpAny _ _ (field (.ref z) 3 >>= _) _ _ _
  refine wpAny_bind (wpAny_field hz rfl (x:=.ref U) rfl (wpAny_bind (wpAny_seqItems hU rfl ?_)))
  show wpAny _ _ (Builtin.SmallTypes.ownedTupleIsFree (.ref z) >>= _) _ _ _
  refine wpAny_bind ?_
  unfold Builtin.SmallTypes.ownedTupleIsFree
  refine wpAny_bind (wpAny_field hz rfl (x:=.none) rfl (wpAny_pure ?_))
  simp only [if_true]
  refine wpAny_bind (wpAny_rule (wpAny_bind (wpAny_field hz rfl (x:=.ref V) rfl (wpAny_bind (wpAny_setField_rec hz (by simp) fun g1 z1 e1=>?_)))))
  replace z1:IsZip g1 z U V .ellipsis:=z1
  refine wpAny_bind ?_
  simp only [List.zipIdx_cons,List.zipIdx_nil,List.forIn_cons,List.forIn_nil]
  refine wpAny_bind (wpAny_bind (wpAny_onRaise ?_))
  show wpAny _ _ (Builtin.SmallTypes.nextOf (.ref i) >>= _) _ _ _
  refine wpAny_bind (draw (s:={ s with heap:=g1 }) (h1.at fun o e=>e1.extBut _ _ D.iz e) (hl.at fun o e=>e1.extBut _ _ lz.1 e) hx fun g2 w2 e2=>wpAny_pure ?_)
  have v2:IsPair g2 V a b:=e2.extBut _ _ D.vi (e1.extBut _ _ D.vz hV)
  refine wpAny_bind (wpAny_seqItems v2 rfl (wpAny_bind (wpAny_updateSeq_pair v2 fun g3 v3 e3=>?_)))
  replace v3:IsPair g3 V x b:=v3
  refine wpAny_bind (wpAny_letGo (wpAny_pure (wpAny_bind (wpAny_bind (wpAny_onRaise ?_)))))
  show wpAny _ _ (Builtin.SmallTypes.nextOf (.ref j) >>= _) _ _ _
  have to3:∀ c o,c ≠ z -> c ≠ i -> c ≠ V -> s.heap.get? c = some o -> g3.get? c = some o:=fun c o c1 c2 c3 e=>e3.extBut _ _ c3 (e2.extBut _ _ c2 (e1.extBut _ _ c1 e))
  refine wpAny_bind (draw (s:={ s with heap:=g3 }) (h2.at fun o e=>to3 j o D.jz D.ij.symm D.vj.symm e) (hm.at fun o e=>to3 m o mz.1 mz.2.2.1 mz.2.1 e) hy fun g4 w4 e4=>wpAny_pure ?_)
  have v4:IsPair g4 V x b:=e4.extBut _ _ D.vj v3
  refine wpAny_bind (wpAny_seqItems v4 rfl (wpAny_bind (wpAny_updateSeq_pair v4 fun g5 v5 e5=>?_)))
  replace v5:IsPair g5 V x y:=v5
  refine wpAny_bind (wpAny_letGo (wpAny_pure (wpAny_pure (wpAny_bind (wpAny_seqItems v5 rfl (wpAny_bind (wpAny_newTuple ?_)))))))
  have sz:g5.objs.size = s.heap.objs.size:=by rw [e5.1,e4.1,e3.1,e2.1,e1.1]
  have z5:IsZip g5 z U V .ellipsis:=e5.extBut _ _ D.vz.symm (e4.extBut _ _ D.jz.symm (e3.extBut _ _ D.vz.symm (e2.extBut _ _ D.iz.symm z1)))
  have k5:∀ c o,c ≠ z -> c ≠ V -> c ≠ i -> c ≠ j -> s.heap.get? c = some o -> g5.get? c = some o:=fun c o c1 c2 c3 c4 e=>e5.extBut _ _ c2 (e4.extBut _ _ c4 (to3 c o c1 c3 c2 e))
  have i5:SqI tp g5 i l (n + 1):=w2.at fun o e=>e5.extBut _ _ D.vi.symm (e4.extBut _ _ D.ij (e3.extBut _ _ D.vi.symm e))
  have j5:SqI tq g5 j m (n + 1):=w4.at fun o e=>e5.extBut _ _ D.vj.symm e
  have zlt:z < g5.objs.size:=Heap.lt_size z5
  show wpAny _ _ (Builtin.SmallTypes.ownedTupleHandOut (.ref z) (.ref g5.objs.size) >>= _) _ _ _
  refine wpAny_bind ?_
  unfold Builtin.SmallTypes.ownedTupleHandOut
  have z6:IsZip (g5.push { cls:=.type "tuple",data:=.seq #[x,y] }) z U V .ellipsis:=Heap.get?_push_of_some _ z5
  refine wpAny_bind (wpAny_setField_rec z6 (by simp) fun g7 z7 e7=>?_)
  replace z7:IsZip g7 z U V (rawInt g5.objs.size):=z7
  refine wpAny_setField_rec z7 (by simp) fun g8 z8 e8=>?_
  replace z8:IsZip g8 z U V (rawInt g5.objs.size):=z8
  have up:∀ c o,c ≠ z -> g5.get? c = some o -> g8.get? c = some o:=fun c o c1 e=>e8.extBut _ _ c1 (e7.extBut _ _ c1 (Heap.get?_push_of_some _ e))
  have t8:IsPair g8 g5.objs.size x y:=e8.extBut _ _ (Nat.ne_of_gt zlt) (e7.extBut _ _ (Nat.ne_of_gt zlt) (Heap.get?_push_size _ rfl))
  have s8:g8.objs.size = g5.objs.size + 1:=by rw [e8.1,e7.1,Heap.size_push]
  rw [sz] at z8 t8 s8
  refine wpAny_pure ⟨_,rfl,wpAny_pure ?_⟩
  show Q (some (.ref g5.objs.size)) _
  rw [sz]
  exact q g8 z8 (up _ _ D.vz v5) (i5.at fun o e=>up _ o D.iz e) (j5.at fun o e=>up _ o D.jz e) t8 s8 fun c o c1 c2 c3 c4 e=>up c o c1 (k5 c o c1 c2 c3 c4 e)
end
end Vc

set_option Elab.async false
set_option linter.all false
set_option maxRecDepth 100000

namespace Vc
open PySem L2
variable [KF]
noncomputable abbrev itN (tp:Bool):String:=if tp = true then "tuple_iterator" else "list_iterator"
noncomputable abbrev zA (tp:Bool) (h:Heap) (l:Addr):Heap:=h.push { cls:=.type (itN tp),data:=.fields #[.ref l,.int 0 0] }
noncomputable abbrev zB (tp tq:Bool) (h:Heap) (l m:Addr):Heap:=zA tq (zA tp h l) m
noncomputable abbrev zC (tp tq:Bool) (h:Heap) (l m:Addr):Heap:=(zB tp tq h l m).push { cls:=.type "tuple",data:=.seq #[.ref h.objs.size,.ref (zA tp h l).objs.size] }
noncomputable abbrev zD (tp tq:Bool) (h:Heap) (l m:Addr):Heap:=(zC tp tq h l m).push { cls:=.type "tuple",data:=.seq #[.none,.none] }
noncomputable abbrev zE (tp tq:Bool) (h:Heap) (l m:Addr):Heap:=(zD tp tq h l m).push { cls:=.type "zip",data:=.fields #[.none,.bool false,.bool false,.ref (zB tp tq h l m).objs.size,.ref (zC tp tq h l m).objs.size] }
set_option maxHeartbeats 4000000 in
theorem zip_made (tp tq:Bool) (l m:Addr) (xs ys:Array Value) :
    Meets (Builtin.«zip.__new__» ⟨[.type "zip",.ref l,.ref m],[]⟩) (fun _ R s=>SqA tp s.heap l xs /\ SqA tq s.heap m ys /\ R (.ok (.ret (.ref (zD tp tq s.heap l m).objs.size))) { s with heap:=zE tp tq s.heap l m }) :=
  .of_wp fun prog w A R s h=>by
    obtain ⟨hp,g,d,tk,os⟩:=s
    obtain ⟨hl,hm,h⟩:=h
    have sub:=sub_zip
    cases tp with
    | true =>
      have L1:Heap.IsTuple (Shared.heap ⟨hp,g,d,tk,os⟩) l xs:=hl
      cases tq with
      | true =>
        have L2:Heap.IsTuple (Shared.heap ⟨hp.push { cls:=.type "tuple_iterator",data:=.fields #[.ref l,.int 0 0] },g,d,tk,os⟩) m ys:=by
          obtain ⟨o,e,r⟩:=(show hp.IsTuple m ys from hm);exact ⟨o,Heap.get?_push_of_some _ e,r⟩
        wp_walk using wpAny_pyIter_tuple L1,wpAny_pyIter_tuple L2
        exact ⟨_,rfl,h⟩
      | false =>
        have L2:Heap.IsList (Shared.heap ⟨hp.push { cls:=.type "tuple_iterator",data:=.fields #[.ref l,.int 0 0] },g,d,tk,os⟩) m ys:=by
          obtain ⟨o,e,r⟩:=(show hp.IsList m ys from hm);exact ⟨o,Heap.get?_push_of_some _ e,r⟩
        wp_walk using wpAny_pyIter_tuple L1,wpAny_pyIter_list L2
        exact ⟨_,rfl,h⟩
    | false =>
      have L1:Heap.IsList (Shared.heap ⟨hp,g,d,tk,os⟩) l xs:=hl
      cases tq with
      | true =>
        have L2:Heap.IsTuple (Shared.heap ⟨hp.push { cls:=.type "list_iterator",data:=.fields #[.ref l,.int 0 0] },g,d,tk,os⟩) m ys:=by
          obtain ⟨o,e,r⟩:=(show hp.IsTuple m ys from hm);exact ⟨o,Heap.get?_push_of_some _ e,r⟩
        wp_walk using wpAny_pyIter_list L1,wpAny_pyIter_tuple L2
        exact ⟨_,rfl,h⟩
      | false =>
        have L2:Heap.IsList (Shared.heap ⟨hp.push { cls:=.type "list_iterator",data:=.fields #[.ref l,.int 0 0] },g,d,tk,os⟩) m ys:=by
          obtain ⟨o,e,r⟩:=(show hp.IsList m ys from hm);exact ⟨o,Heap.get?_push_of_some _ e,r⟩
        wp_walk using wpAny_pyIter_list L1,wpAny_pyIter_list L2
        exact ⟨_,rfl,h⟩
theorem sqi_new {tp:Bool} {h:Heap} {j a:Addr} (e:h.get? j = some { cls:=.type (itN tp),data:=.fields #[.ref a,.int 0 0] }):SqI tp h j a 0:=by
  cases tp with
  | true=>exact ⟨_,e,rfl,rfl⟩
  | false=>exact ⟨_,e,rfl,rfl⟩
section
variable {prog:Program} {w:World} {A:Around} {E:Value -> Shared -> Prop} {s:Shared}
theorem zip_call {tp tq:Bool} {l m:Addr} {xs ys:Array Value} {Q:Value -> Shared -> Prop} (hl:SqA tp s.heap l xs) (hm:SqA tq s.heap m ys)
    (q:∀ g,IsZip g (s.heap.objs.size + 4) (s.heap.objs.size + 2) (s.heap.objs.size + 3) .none -> IsPair g (s.heap.objs.size + 2) (.ref s.heap.objs.size) (.ref (s.heap.objs.size + 1)) -> IsPair g (s.heap.objs.size + 3) .none .none ->
      SqI tp g s.heap.objs.size l 0 -> SqI tq g (s.heap.objs.size + 1) m 0 -> (∀ c o,s.heap.get? c = some o -> g.get? c = some o) -> Q (.ref (s.heap.objs.size + 4)) { s with heap:=g }) :
    wpAny (model prog w) A (call (.type "zip") [.ref l,.ref m]) Q E s:=by
  refine callType_new F.called_zip (by decide) (F.typeCall_zip_2 _ _) (F.newCall_zip_2 _ _) (fun ob=>F.args_object_init_3 ob _ _) F.entry_zip_new (zip_made tp tq l m xs ys) ⟨hl,hm,?_⟩
  have n1:(zA tp s.heap l).objs.size = s.heap.objs.size + 1:=Heap.size_push ..
  have n2:(zB tp tq s.heap l m).objs.size = s.heap.objs.size + 2:=by rw [Heap.size_push,n1]
  have n3:(zC tp tq s.heap l m).objs.size = s.heap.objs.size + 3:=by rw [Heap.size_push,n2]
  have n4:(zD tp tq s.heap l m).objs.size = s.heap.objs.size + 4:=by rw [Heap.size_push,n3]
  have p5:(zE tp tq s.heap l m).get? (zD tp tq s.heap l m).objs.size = some _:=Heap.get?_push_size _ rfl
  have p4:(zE tp tq s.heap l m).get? (zC tp tq s.heap l m).objs.size = some _:=Heap.get?_push_of_some _ (Heap.get?_push_size _ rfl)
  have p3:(zE tp tq s.heap l m).get? (zB tp tq s.heap l m).objs.size = some _:=Heap.get?_push_of_some _ (Heap.get?_push_of_some _ (Heap.get?_push_size _ rfl))
  have p2:(zE tp tq s.heap l m).get? (zA tp s.heap l).objs.size = some _:=Heap.get?_push_of_some _ (Heap.get?_push_of_some _ (Heap.get?_push_of_some _ (Heap.get?_push_size _ rfl)))
  have p1:(zE tp tq s.heap l m).get? s.heap.objs.size = some _:=Heap.get?_push_of_some _ (Heap.get?_push_of_some _ (Heap.get?_push_of_some _ (Heap.get?_push_of_some _ (Heap.get?_push_size _ rfl))))
  show _ /\ _
  rw [n2,n3,n4] at p5
  rw [n1,n2] at p3
  rw [n3] at p4
  rw [n1] at p2
  rw [n4]
  refine ⟨⟨_,p5,rfl⟩,q _ p5 p3 p4 (sqi_new p1) (sqi_new p2) fun c o x=>?_⟩
  exact Heap.get?_push_of_some _ (Heap.get?_push_of_some _ (Heap.get?_push_of_some _ (Heap.get?_push_of_some _ (Heap.get?_push_of_some _ x))))
theorem zip_none {tp tq:Bool} {z U V i j l m:Addr} {n:Nat} {xs ys:Array Value} {a b:Value} {Q:Option Value -> Shared -> Prop} (hh:A.handled = none) (D:ZAp z U V i j) (lz:l ≠ z /\ l ≠ V /\ l ≠ i /\ l ≠ j) (mz:m ≠ z /\ m ≠ V /\ m ≠ i /\ m ≠ j)
    (hz:IsZip s.heap z U V .none) (hU:IsPair s.heap U (.ref i) (.ref j)) (hV:IsPair s.heap V a b) (h1:SqI tp s.heap i l n) (h2:SqI tq s.heap j m n) (hl:SqA tp s.heap l xs) (hm:SqA tq s.heap m ys) (hend:xs[n]? = none \/ ys[n]? = none)
    (q:∀ g,(∀ c o,c ≠ z -> c ≠ V -> c ≠ i -> c ≠ j -> s.heap.get? c = some o -> g.get? c = some o) -> Q none { s with heap:=g }):wpAny (model prog w) A (pyNext (.ref z)) Q E s:=by
  have hT:s.TypeIs (.ref z) "zip":=⟨_,hz,rfl⟩
  unfold pyNext
  refine wpAny_bind (wpAny_attempt (wpAny_callSpecial?_slot (name:=Str.ofString "__next__") hT F.slot_zip_next (wpAny_call_entry F.slot_zip_next hT F.entry_zip_next ?_ (F.args_zip_next_1 _))))
  show wpAny _ _ (field (.ref z) 2 >>= _) _ _ _
  refine wpAny_bind (wpAny_field hz rfl (x:=.bool false) rfl ?_)
  show wpAny _ _ (field (.ref z) 3 >>= _) _ _ _
  refine wpAny_bind (wpAny_field hz rfl (x:=.ref U) rfl (wpAny_bind (wpAny_seqItems hU rfl ?_)))
  show wpAny _ _ (Builtin.SmallTypes.ownedTupleIsFree (.ref z) >>= _) _ _ _
  refine wpAny_bind ?_
  unfold Builtin.SmallTypes.ownedTupleIsFree
  refine wpAny_bind (wpAny_field hz rfl (x:=.none) rfl (wpAny_pure ?_))
  simp only [if_true]
  refine wpAny_bind (wpAny_rule (wpAny_bind (wpAny_field hz rfl (x:=.ref V) rfl (wpAny_bind (wpAny_setField_rec hz (by simp) fun g1 z1 e1=>?_)))))
  replace z1:IsZip g1 z U V .ellipsis:=z1
  refine wpAny_bind ?_
  simp only [List.zipIdx_cons,List.zipIdx_nil,List.forIn_cons,List.forIn_nil]
  refine wpAny_bind (wpAny_bind (wpAny_onRaise ?_))
  show wpAny _ _ (Builtin.SmallTypes.nextOf (.ref i) >>= _) _ _ _
  cases hx:xs[n]? with
  | none =>
    refine wpAny_bind (draw_end (s:={ s with heap:=g1 }) hh (h1.at fun o e=>e1.extBut _ _ D.iz e) (hl.at fun o e=>e1.extBut _ _ lz.1 e) hx fun g2 e x2 he=>?_)
    obtain ⟨oe,he1,he2⟩:=he
    have z2:IsZip g2 z U V .ellipsis:=x2 _ _ D.iz.symm z1
    have ez:e ≠ z:=fun x=>by subst x;rw [z2] at he1;cases he1;simp at he2
    refine wpAny_setField_rec z2 (by simp) fun g3 _ e3=>?_
    refine wpAny_bind (wpAny_isInstance (T:="StopIteration") (b:=true) ⟨oe,e3.extBut _ _ ez he1,he2⟩ isSubtype_stop (wpAny_pure (q _ fun c o c1 _ c3 _ x=>?_)))
    exact e3.extBut _ _ c1 (x2 _ _ c3 (e1.extBut _ _ c1 x))
  | some x =>
    have hy:ys[n]? = none:=by
      rcases hend with h | h
      · rw [hx] at h;cases h
      · exact h
    refine wpAny_bind (draw (s:={ s with heap:=g1 }) (h1.at fun o e=>e1.extBut _ _ D.iz e) (hl.at fun o e=>e1.extBut _ _ lz.1 e) hx fun g2 w2 e2=>wpAny_pure ?_)
    have v2:IsPair g2 V a b:=e2.extBut _ _ D.vi (e1.extBut _ _ D.vz hV)
    refine wpAny_bind (wpAny_seqItems v2 rfl (wpAny_bind (wpAny_updateSeq_pair v2 fun g3 v3 e3=>?_)))
    refine wpAny_bind (wpAny_letGo (wpAny_pure (wpAny_bind (wpAny_bind (wpAny_onRaise ?_)))))
    show wpAny _ _ (Builtin.SmallTypes.nextOf (.ref j) >>= _) _ _ _
    have to3:∀ c o,c ≠ z -> c ≠ i -> c ≠ V -> s.heap.get? c = some o -> g3.get? c = some o:=fun c o c1 c2 c3 e=>e3.extBut _ _ c3 (e2.extBut _ _ c2 (e1.extBut _ _ c1 e))
    refine wpAny_bind (draw_end (s:={ s with heap:=g3 }) hh (h2.at fun o e=>to3 j o D.jz D.ij.symm D.vj.symm e) (hm.at fun o e=>to3 m o mz.1 mz.2.2.1 mz.2.1 e) hy fun g4 e x4 he=>?_)
    obtain ⟨oe,he1,he2⟩:=he
    have z4:IsZip g4 z U V .ellipsis:=x4 _ _ D.jz.symm (e3.extBut _ _ D.vz.symm (e2.extBut _ _ D.iz.symm z1))
    have ez:e ≠ z:=fun x=>by subst x;rw [z4] at he1;cases he1;simp at he2
    refine wpAny_setField_rec z4 (by simp) fun g5 _ e5=>?_
    refine wpAny_bind (wpAny_isInstance (T:="StopIteration") (b:=true) ⟨oe,e5.extBut _ _ ez he1,he2⟩ isSubtype_stop (wpAny_pure (q _ fun c o c1 c2 c3 c4 x=>?_)))
    exact e5.extBut _ _ c1 (x4 _ _ c4 (to3 c o c1 c3 c2 x))
end
end Vc

set_option Elab.async false
set_option linter.all false
set_option maxRecDepth 100000

namespace Vc
open PySem L2
variable [KF]
section
variable {X:Cx} {pins:List (Addr × Obj)} {σ:St} {H:Hp} {s:Shared}
theorem turnLay (I:L2.Inv X pins σ H s) {ch:List Addr} (hf:∀ b ∈ ch,FpOk X pins H b) {h':Heap} {t':Nat} (kp:∀ b o,b ∉ ch -> s.heap.get? b = some o -> h'.get? b = some o) {T:Addr} {o:HO} (hT:s.heap.objs.size <= T) (new:ObjOk X.prog X.w (upd H T o) h' T o) :
    L2.Inv X pins σ (upd H T o) { s with heap:=h',toks:=t' }:=by
  have ltT:∀ {b u},s.heap.get? b = some u -> b ≠ T:=fun e=>Nat.ne_of_lt (Nat.lt_of_lt_of_le (Heap.lt_size e) hT)
  have trT:∀ {b u},H b = some u -> b ≠ T:=fun e=>Nat.ne_of_lt (Nat.lt_of_lt_of_le (I.hok.lt e) hT)
  have nch:∀ {b u},H b = some u -> b ∉ ch:=fun {b u} e z=>by rw [(hf b z).1] at e;cases e
  refine I.step (g':=s.gens) (d':=s.drawn) (ch:=ch) (fun b hb=>?_) (fun b u _ _ hc e _=>kp b u hc e) (fun b u _ _ hc e _=>⟨u.slots,kp b u hc e⟩) (fun b u hc e n=>by rw [upd_ne (ltT e)];exact n) (fun b u hc e=>⟨u,kp b u hc e⟩)
    (fun b xs e=>by rw [upd_ne (trT e)];exact e) (fun b u w e=>by rw [upd_ne (trT e)];exact e) (fun b ps e=>⟨#[],by rw [upd_ne (trT e),e];simp⟩) (fun m hm=>?_) (fun b u e=>?_) I.bare
  · obtain ⟨f0,f1,f2,f3,f4,f5⟩:=hf b hb
    exact ⟨f3.imp id fun z=>Heap.get?_none_of_le z,f1,f4,f5⟩
  · obtain ⟨ob,es,ep,ho,r⟩:=hm
    refine ⟨ob,es,ep,kp _ ob (fun z=>?_) ho,r⟩
    exact (hf _ z).2.1 rfl
  · by_cases hb:b = T
    · subst hb;rw [upd_same] at e;cases e;exact new
    · rw [upd_ne hb] at e
      refine (I.hok b u e).stay (fun c v hc q=>?_) (fun c q=>by rw [upd_ne (trT q)];exact q) (fun c xs q=>by rw [upd_ne (trT q)];exact q) fun c o u q=>by rw [upd_ne (trT q)];exact q
      rcases hc with z | z
      · subst z;exact kp _ v (nch e) q
      · exact kp _ v (nch z) q
theorem turnAll (I:L2.Inv X pins σ H s) {ch:List Addr} (hf:∀ b ∈ ch,FpOk X pins H b) {h':Heap} {t':Nat} (kp:∀ b o,b ∉ ch -> s.heap.get? b = some o -> h'.get? b = some o):L2.Inv X pins σ H { s with heap:=h',toks:=t' }:=by
  have nch:∀ {b u},H b = some u -> b ∉ ch:=fun {b u} e z=>by rw [(hf b z).1] at e;cases e
  refine I.step (g':=s.gens) (d':=s.drawn) (ch:=ch) (fun b hb=>?_) (fun b u _ _ hc e _=>kp b u hc e) (fun b u _ _ hc e _=>⟨u.slots,kp b u hc e⟩) (fun b u hc e n=>n) (fun b u hc e=>⟨u,kp b u hc e⟩)
    (fun b xs e=>e) (fun b u w e=>e) (fun b ps e=>⟨#[],by rw [e];simp⟩) (fun m hm=>?_) (fun b u e=>?_) I.bare
  · obtain ⟨f0,f1,f2,f3,f4,f5⟩:=hf b hb
    exact ⟨f3.imp id fun z=>Heap.get?_none_of_le z,f1,f4,f5⟩
  · obtain ⟨ob,es,ep,ho,r⟩:=hm
    refine ⟨ob,es,ep,kp _ ob (fun z=>?_) ho,r⟩
    exact (hf _ z).2.1 rfl
  · refine (I.hok b u e).stay (fun c v hc q=>?_) (fun c q=>q) fun c xs q=>q
    rcases hc with z | z
    · subst z;exact kp _ v (nch e) q
    · exact kp _ v (nch z) q
end
noncomputable def Sq (tp:Bool) (K:PySem.W.Frag) (H:Hp) (a:Addr) (xs:List V):Prop:=if tp = true then SqT K H a xs else SqL K H a xs
theorem Sq.is {tp:Bool} {X:Cx} {pins:List (Addr × Obj)} {σ:St} {H:Hp} {s:Shared} {a:Addr} {xs:List V} (I:L2.Inv X pins σ H s) (h:Sq tp X.K H a xs):∃ its:List Value,Vals xs its /\ SqA tp s.heap a its.toArray /\ a < s.heap.objs.size:=by
  cases tp with
  | true =>
    obtain ⟨its,r,p,_⟩:=I.tuple (show SqT X.K H a xs from h)
    exact ⟨its,r,p,by obtain ⟨o,e,_⟩:=p;exact Heap.lt_size e⟩
  | false =>
    obtain ⟨its,r,p,_⟩:=I.list (show SqL X.K H a xs from h)
    exact ⟨its,r,p.isList,p.lt⟩
theorem Sq.inj {tp:Bool} {X:Cx} {pins:List (Addr × Obj)} {σ:St} {H:Hp} {s:Shared} {a:Addr} {xs ys:List V} (I:L2.Inv X pins σ H s) (h:Sq tp X.K H a xs) (h':Sq tp X.K H a ys):xs = ys:=by
  cases tp with
  | true=>exact I.tuple_inj h h'
  | false=>exact I.list_inj h h'
noncomputable def Itz (tp tq:Bool) (K:PySem.W.Frag) (l m:Addr):It :=
  ⟨fun n H=>∃ xs ys x y,Sq tp K H l xs /\ Sq tq K H m ys /\ xs[n]? = some x /\ ys[n]? = some y,
   fun n H v H'=>∃ p x y,H p = none /\ v = .ref p /\ H' = upd H p (.tup [x,y]) /\ (∀ xs,Sq tp K H l xs -> xs[n]? = some x) /\ ∀ ys,Sq tq K H m ys -> ys[n]? = some y,
   fun n H=>∃ xs ys,Sq tp K H l xs /\ Sq tq K H m ys /\ (xs.length <= n \/ ys.length <= n)⟩
theorem turn_zip {P:Program} {w:World} {K:PySem.W.Frag} {elts:List Expr} {kk:Nat} {tpos:Pos} (tp tq:Bool) (z U V i j l m:Addr) (D:ZAp z U V i j) (lz:l ≠ z /\ l ≠ V /\ l ≠ i /\ l ≠ j) (mz:m ≠ z /\ m ≠ V /\ m ≠ i /\ m ≠ j) :
    Turn P w K (.Tuple elts kk tpos) (Itz tp tq K l m) [z,U,V,i,j] z (fun n h=>IsZip h z U V .none /\ IsPair h U (.ref i) (.ref j) /\ (∃ a b,IsPair h V a b) /\ SqI tp h i l n /\ SqI tq h j m n) where
  mem:=by simp
  obj:=fun n h st b hb=>by
    obtain ⟨h1,h2,⟨a,c,h3⟩,h4,h5⟩:=st
    simp only [List.mem_cons,List.not_mem_nil,or_false] at hb
    rcases hb with rfl | rfl | rfl | rfl | rfl
    · exact ⟨_,h1,fun v q=>by cases q⟩
    · exact ⟨_,h2,fun v q=>by cases q⟩
    · exact ⟨_,h3,fun v q=>by cases q⟩
    · exact h4.live
    · exact h5.live
  keep:=fun n h h' st kp=>by
    obtain ⟨h1,h2,⟨a,c,h3⟩,h4,h5⟩:=st
    exact ⟨kp z (by simp) _ h1,kp U (by simp) _ h2,⟨a,c,kp V (by simp) _ h3⟩,h4.at fun o e=>kp i (by simp) o e,h5.at fun o e=>kp j (by simp) o e⟩
  item:=by
    intro X hP hw hK hc n pins s σ H E I hf st hg
    subst hP hw hK
    obtain ⟨h1,h2,⟨a,c,h3⟩,h4,h5⟩:=st
    obtain ⟨xs,ys,x,y,q1,q2,e1,e2⟩:=hg
    obtain ⟨its,r1,p1,_⟩:=q1.is I
    obtain ⟨jts,r2,p2,_⟩:=q2.is I
    obtain ⟨u,hu,ru⟩:=r1.get e1
    obtain ⟨v,hv,rv⟩:=r2.get e2
    refine zip_one D lz mz h1 h2 h3 h4 h5 p1 p2 (x:=u) (y:=v) (by simpa using hu) (by simpa using hv) fun g z1 v1 i1 j1 t1 s1 k1=>⟨_,rfl,?_⟩
    refine wpAny_letOwnedTupleGo_zip z1 fun g' z2 e2'=>?_
    have kp:∀ b o,b ∉ [z,V,i,j] -> s.heap.get? b = some o -> g'.get? b = some o:=fun b o hb e=>by
      simp only [List.mem_cons,List.not_mem_nil,or_false,not_or] at hb
      exact e2'.extBut _ _ hb.1 (k1 b o hb.1 hb.2.1 hb.2.2.1 hb.2.2.2 e)
    have zT:s.heap.objs.size ≠ z:=Nat.ne_of_gt (Heap.lt_size h1)
    have hf':∀ b ∈ [z,V,i,j],FpOk X pins H b:=fun b hb=>hf b (by
      simp only [List.mem_cons,List.not_mem_nil,or_false] at hb ⊢
      rcases hb with e | e | e | e<;>simp [e])
    have t2:IsPair g' s.heap.objs.size u v:=e2'.extBut _ _ zT t1
    have I':=turnLay (t':=s.toks) (o:=.tup [x,y]) I hf' kp (Nat.le_refl _) ⟨by show 2 <= sizeLine;decide,[u,v],.cons ru (.cons rv .nil),⟨_,t2,rfl,_,rfl⟩⟩
    have hfr:H s.heap.objs.size = none:=I.hok.fresh (Nat.le_refl _)
    refine ⟨.ref s.heap.objs.size,upd H s.heap.objs.size (.tup [x,y]),I',rfl,⟨_,x,y,hfr,rfl,rfl,fun zs hz=>by rw [hz.inj I q1];exact e1,fun zs hz=>by rw [hz.inj I q2];exact e2⟩,⟨z2,e2'.extBut _ _ D.uz (k1 _ _ D.uz D.uv D.ui D.uj h2),⟨u,v,e2'.extBut _ _ D.vz v1⟩,i1.at fun o e=>e2'.extBut _ _ D.iz e,j1.at fun o e=>e2'.extBut _ _ D.jz e⟩,fun b hb=>?_⟩
    have hb':=(hf b hb).1
    have:b ≠ s.heap.objs.size:=by
      obtain ⟨o,e,_⟩:∃ o,s.heap.get? b = some o /\ True:=by
        simp only [List.mem_cons,List.not_mem_nil,or_false] at hb
        rcases hb with rfl | rfl | rfl | rfl | rfl
        · exact ⟨_,h1,trivial⟩
        · exact ⟨_,h2,trivial⟩
        · exact ⟨_,h3,trivial⟩
        · obtain ⟨o,e,_⟩:=h4.live;exact ⟨o,e,trivial⟩
        · obtain ⟨o,e,_⟩:=h5.live;exact ⟨o,e,trivial⟩
      exact Nat.ne_of_lt (Heap.lt_size e)
    rw [upd_ne this];exact hb'
  done:=by
    intro X hP hw hK hc n pins s σ H E I hf st hg
    subst hP hw hK
    obtain ⟨h1,h2,⟨a,c,h3⟩,h4,h5⟩:=st
    obtain ⟨xs,ys,q1,q2,hl⟩:=hg
    obtain ⟨its,r1,p1,_⟩:=q1.is I
    obtain ⟨jts,r2,p2,_⟩:=q2.is I
    have n1:=r1.length
    have n2:=r2.length
    refine zip_none (I.ok.hd hc) D lz mz h1 h2 h3 h4 h5 p1 p2 (hl.imp (fun q=>by simp;omega) fun q=>by simp;omega) fun g k1=>⟨rfl,?_⟩
    refine turnAll (t':=s.toks) (ch:=[z,V,i,j]) I (fun b hb=>hf b ?_) fun b o hb e=>?_
    · simp only [List.mem_cons,List.not_mem_nil,or_false] at hb ⊢
      rcases hb with e | e | e | e<;>simp [e]
    · simp only [List.mem_cons,List.not_mem_nil,or_false,not_or] at hb
      exact k1 b o hb.1 hb.2.1 hb.2.2.1 hb.2.2.2 e
  self:=fun _ _ _ _ _ st h=>wpAny_pyIter_zip st.1 h
theorem zap_new (n:Nat):ZAp (n + 4) (n + 2) (n + 3) n (n + 1) :=
  ⟨show (n + 2:Nat) ≠ n + 4 by omega,show (n + 3:Nat) ≠ n + 4 by omega,show (n:Nat) ≠ n + 4 by omega,show (n + 1:Nat) ≠ n + 4 by omega,show (n + 2:Nat) ≠ n + 3 by omega,
   show (n + 2:Nat) ≠ n by omega,show (n + 2:Nat) ≠ n + 1 by omega,show (n + 3:Nat) ≠ n by omega,show (n + 3:Nat) ≠ n + 1 by omega,show (n:Nat) ≠ n + 1 by omega⟩
theorem below_new {l n:Nat} (h:l < n):l ≠ n + 4 /\ l ≠ n + 3 /\ l ≠ n /\ l ≠ n + 1:=by omega
noncomputable def iZip (K:PySem.W.Frag) (ta:TA):TI:=fun σ H R=>ta σ H fun vs H1=>∃ tp tq l m xs ys,vs = [.ref l,.ref m] /\ Sq tp K H1 l xs /\ Sq tq K H1 m ys /\ R (Itz tp tq K l m) H1
theorem pi_zip {X:Cx} {elts:List Expr} {kk:Nat} {tpos:Pos} {a b:Expr} {ta:TA} {p pos:Pos} (hg:Gl X "zip") (hm:X.mg "zip" = none) (ha:PA X [a,b] ta) (hs:starEach [a,b] X.env = [(false,eval a X.env),(false,eval b X.env)]) (hs2:starEach [b] X.env = [(false,eval b X.env)]) :
    PI X (.Tuple elts kk tpos) (.Call (.Name "zip" p) [a,b] [] pos) (iZip X.K ta):=by
  intro pins s σ H R I h
  refine PyProof.Rows.Call_ (ld_blt I hg hm PyProof.Rows.boot_zip (PyProof.Rows.callWith_type1 (thn (ha pos pins s σ H _ I h) fun us s1 ⟨vs,H1,I1,r1,q1⟩=>?_) (by rw [hs,hs2]) (by rw [hs2];rfl)))
  obtain ⟨tp,tq,l,m,xs,ys,e,q1,q2,q⟩:=q1
  subst e
  obtain ⟨u,v,rfl,ru,rv⟩:=vals2 r1
  cases ru
  cases rv
  obtain ⟨its,_,p1,ll⟩:=q1.is I1
  obtain ⟨jts,_,p2,lm⟩:=q2.is I1
  refine zip_call p1 p2 fun g z1 u1 v1 i1 j1 k1=>?_
  refine wpAny_pyIter_zip z1 ?_
  have N:∀ n:Nat,s1.heap.objs.size <= s1.heap.objs.size + n:=fun n=>Nat.le_add_right _ _
  refine ⟨s1.heap.objs.size + 4,[s1.heap.objs.size + 4,s1.heap.objs.size + 2,s1.heap.objs.size + 3,s1.heap.objs.size,s1.heap.objs.size + 1],_,_,H1,rfl,I1.kept (t':=s1.toks) k1,
    turn_zip tp tq _ _ _ _ _ l m (zap_new _) (below_new ll) (below_new lm),⟨z1,u1,⟨_,_,v1⟩,i1,j1⟩,fun b hb=>?_,q⟩
  have hb':s1.heap.objs.size <= b:=by
    simp only [List.mem_cons,List.not_mem_nil,or_false] at hb
    rcases hb with rfl | rfl | rfl | rfl | rfl
    · exact N 4
    · exact N 2
    · exact N 3
    · exact N 0
    · exact N 1
  exact I1.fpOk hb' (I1.hok.fresh hb')
end Vc

set_option Elab.async false
set_option linter.all false
set_option maxRecDepth 100000

namespace Vc
open PySem L2
variable [KF]
theorem draws_sq {prog:Program} {w:World} {A:Around} (hh:A.handled = none) (tp:Bool) (j a:Addr) (hne:a ≠ j) (xs:Array Value) :
    Draws prog w A j [j,a] xs.size (fun i v=>xs[i]? = some v) (fun i h=>SqI tp h j a i /\ SqA tp h a xs) where
  live:=fun _ _ st=>let ⟨o,e,_⟩:=st.1.live;⟨o,e⟩
  frame:=fun _ _ _ st kp=>⟨st.1.at fun o e=>kp j (by simp) o e,st.2.at fun o e=>kp a (by simp) o e⟩
  item:=fun i s Q E hi st q=>by
    refine draw st.1 st.2 (x:=xs[i]) (by simp [hi]) fun g w1 e1=>?_
    exact q _ g s.toks (by simp [hi]) ⟨w1,st.2.at fun o e=>e1.extBut _ _ hne e⟩ e1
  done:=fun s Q E st q=>draw_end hh st.1 st.2 (by simp) q
noncomputable def Ite (tp:Bool) (K:PySem.W.Frag) (a:Addr):It :=
  ⟨fun n H=>∃ xs x,Sq tp K H a xs /\ xs[n]? = some x,fun n H v H'=>∃ p x,H p = none /\ v = .ref p /\ H' = upd H p (.tup [.int n,x]) /\ ∀ xs,Sq tp K H a xs -> xs[n]? = some x,fun n H=>∃ xs,Sq tp K H a xs /\ xs.length = n⟩
theorem turn_enum {P:Program} {w:World} {K:PySem.W.Frag} {elts:List Expr} {kk:Nat} {tpos:Pos} (tp:Bool) (e j a:Addr) (ej:e ≠ j) (ae:a ≠ e) (aj:a ≠ j) :
    Turn P w K (.Tuple elts kk tpos) (Ite tp K a) [e,j] e (fun n h=>(∃ old,IsEnum h e j n old) /\ SqI tp h j a n) where
  mem:=by simp
  obj:=fun n h st b hb=>by
    obtain ⟨⟨old,h1⟩,h2⟩:=st
    simp only [List.mem_cons,List.not_mem_nil,or_false] at hb
    rcases hb with rfl | rfl
    · exact ⟨_,h1,fun v q=>by cases q⟩
    · exact h2.live
  keep:=fun n h h' st kp=>by
    obtain ⟨⟨old,h1⟩,h2⟩:=st
    exact ⟨⟨old,kp e (by simp) _ h1⟩,h2.at fun o q=>kp j (by simp) o q⟩
  item:=by
    intro X hP hw hK hc n pins s σ H E I hf st hg
    subst hP hw hK
    obtain ⟨⟨old,h1⟩,h2⟩:=st
    obtain ⟨xs,x,q1,e1⟩:=hg
    obtain ⟨its,r1,p1,_⟩:=q1.is I
    obtain ⟨u,hu,ru⟩:=r1.get e1
    have hn:n < its.toArray.size:=by
      have:=(List.getElem?_eq_some_iff.mp hu).1
      simpa using this
    have Dr:=draws_sq (prog:=X.prog) (w:=X.w) (A:=X.A.in1) (show X.A.in1.handled = none from I.ok.hd hc) tp j a aj its.toArray
    refine wpAny_pyNext_enum_itemD Dr h1 ⟨h2,p1⟩ hn ej (by simp only [List.mem_cons,List.not_mem_nil,or_false,not_or];exact ⟨ej,ae.symm⟩) fun x' g tk hx' ho st' t1 s1 k1=>⟨_,rfl,?_⟩
    have hxu:x' = u:=by
      have:its.toArray[n]? = some u:=by simpa using hu
      rw [this] at hx';exact (Option.some.inj hx').symm
    subst hxu
    refine wpAny_letOwnedTupleGo_enum ho fun g' he' es'=>?_
    have kp:∀ b o,b ∉ [e,j] -> s.heap.get? b = some o -> g'.get? b = some o:=fun b o hb q=>by
      simp only [List.mem_cons,List.not_mem_nil,or_false,not_or] at hb
      exact es'.extBut _ _ hb.1 (k1 b o hb.1 hb.2 q)
    have eT:s.heap.objs.size ≠ e:=Nat.ne_of_gt (Heap.lt_size h1)
    have t2:=es'.extBut _ _ eT t1
    have I':=turnLay (t':=tk + 1) (o:=.tup [.int n,x]) I hf kp (Nat.le_refl _) ⟨by show 2 <= sizeLine;decide,[.int n tk,x'],.cons ⟨tk,rfl⟩ (.cons ru .nil),⟨_,t2,rfl,_,rfl⟩⟩
    have hfr:H s.heap.objs.size = none:=I.hok.fresh (Nat.le_refl _)
    refine ⟨.ref s.heap.objs.size,upd H s.heap.objs.size (.tup [.int n,x]),I',rfl,⟨_,x,hfr,rfl,rfl,fun zs hz=>by rw [hz.inj I q1];exact e1⟩,⟨⟨x',by simpa using he'⟩,st'.1.at fun o q=>es'.extBut _ _ ej.symm q⟩,fun b hb=>?_⟩
    have hb':=(hf b hb).1
    have:b ≠ s.heap.objs.size:=by
      simp only [List.mem_cons,List.not_mem_nil,or_false] at hb
      rcases hb with rfl | rfl
      · exact eT.symm
      · obtain ⟨o,q,_⟩:=h2.live;exact Nat.ne_of_lt (Heap.lt_size q)
    rw [upd_ne this];exact hb'
  done:=by
    intro X hP hw hK hc n pins s σ H E I hf st hg
    subst hP hw hK
    obtain ⟨⟨old,h1⟩,h2⟩:=st
    obtain ⟨xs,q1,hl⟩:=hg
    obtain ⟨its,r1,p1,_⟩:=q1.is I
    have n1:=r1.length
    have Dr:=draws_sq (prog:=X.prog) (w:=X.w) (A:=X.A.in1) (show X.A.in1.handled = none from I.ok.hd hc) tp j a aj its.toArray
    have hn:its.toArray.size = n:=by rw [List.size_toArray,<- n1,hl]
    rw [hn] at Dr
    refine wpAny_pyNext_enum_endD Dr h1 ⟨h2,p1⟩ fun g x1=>⟨rfl,?_⟩
    refine turnAll (t':=s.toks) (ch:=[e,j]) I hf fun b o hb q=>?_
    simp only [List.mem_cons,List.not_mem_nil,or_false,not_or] at hb
    exact x1 b o hb.2 q
  self:=fun _ _ _ _ _ st h=>by
    obtain ⟨⟨old,h1⟩,_⟩:=st
    exact wpAny_pyIter_enum h1 h
variable {G:GE} {k:Nat} {S:Stat}
noncomputable def sq?:D -> Option (List D)
  | .lst xs=>some xs
  | .tup xs=>some xs
  | _=>none
noncomputable def zipD (xs ys:List D):List D:=(xs.zip ys).map fun p=>.tup [p.1,p.2]
noncomputable def enumD (xs:List D):List D:=xs.mapIdx fun i x=>.tup [.int i,x]
noncomputable def tZip (t:TDs):TDs:=fun σ Q=>t σ fun ds σ1=>match ds with
  | [a,b]=>match sq? a,sq? b with
    | some xs,some ys=>Q (zipD xs ys) σ1
    | _,_=>False
  | _=>False
theorem Rep.sq {F:Hp} {v:V} {d:D} {xs:List D} (r:Rep F v d) (e:sq? d = some xs) (K:PySem.W.Frag):∃ tp a vs,v = .ref a /\ (∀ H,Same F H -> Sq tp K H a vs) /\ RepL F vs xs:=by
  cases d with
  | lst ys =>
    cases e
    cases r with
    | lst h r=>exact ⟨false,_,_,rfl,fun H s=>(show SqL K H _ _ from .inl (Rd.mono s h)),r⟩
  | tup ys =>
    cases e
    cases r with
    | tup h r=>exact ⟨true,_,_,rfl,fun H s=>(show SqT K H _ _ from .of (s _ _ h)),r⟩
  | _=>cases e
theorem zipD_get {xs ys:List D} {i:Nat} {d:D} (h:(zipD xs ys)[i]? = some d):∃ x y,xs[i]? = some x /\ ys[i]? = some y /\ d = .tup [x,y]:=by
  unfold zipD at h
  rw [List.getElem?_map] at h
  cases e:(xs.zip ys)[i]? with
  | none=>rw [e] at h;cases h
  | some p =>
    rw [e] at h
    obtain ⟨e1,e2⟩:=List.getElem?_zip_eq_some.mp e
    exact ⟨p.1,p.2,e1,e2,(Option.some.inj h).symm⟩
theorem itz_rep {K:PySem.W.Frag} {F:Hp} {tp tq:Bool} {l m:Addr} {vs us:List V} {xs ys:List D} (h1:∀ H,Same F H -> Sq tp K H l vs) (h2:∀ H,Same F H -> Sq tq K H m us) (r1:RepL F vs xs) (r2:RepL F us ys):ItRep F (Itz tp tq K l m) (zipD xs ys):=fun F1 H1 s1 s2 i=>by
  have a1:=h1 H1 (s1.trans s2)
  have a2:=h2 H1 (s1.trans s2)
  refine ⟨fun d e=>?_,fun hl=>⟨vs,us,a1,a2,?_⟩⟩
  · obtain ⟨x,y,e1,e2,rfl⟩:=zipD_get e
    obtain ⟨v,w1,q1⟩:=r1.get e1
    obtain ⟨u,w2,q2⟩:=r2.get e2
    refine ⟨⟨vs,us,v,u,a1,a2,w1,w2⟩,fun z H2 yl=>?_⟩
    obtain ⟨p,v',u',hp,rfl,rfl,f1,f2⟩:=yl
    have e1':=f1 vs a1
    have e2':=f2 us a2
    rw [w1] at e1';cases e1'
    rw [w2] at e2';cases e2'
    have sm:=same_alloc (o:=.tup [v,u]) (same_none s2 hp)
    exact ⟨upd F1 p (.tup [v,u]),.inr ⟨p,_,hp,rfl,rfl⟩,.tup upd_same (.cons ((q1.mono s1).mono sm) (.cons ((q2.mono s1).mono sm) .nil))⟩
  · have:(zipD xs ys).length = min xs.length ys.length:=by unfold zipD;simp
    have n1:=r1.length
    have n2:=r2.length
    omega
theorem i_zip {elts:List Expr} {kk:Nat} {tpos:Pos} {a b:Expr} {t:TDs} {p pos:Pos} (h:EDs G k S [a,b] t) (hm:G.mg "zip" = none) (hg:S.sc.lookup ("zip":Str) = some .globalImplicit:=by rfl) (hs:∀ env,starEach [a,b] env = [(false,eval a env),(false,eval b env)]:=by intro _;rfl) (hs2:∀ env,starEach [b] env = [(false,eval b env)]:=by intro _;rfl) :
    EI G k S (.Tuple elts kk tpos) (.Call (.Name "zip" p) [a,b] [] pos) (tZip t):=.mk fun X Y ok=>pi_imp (pi_zip (gl_of ok hg) (by rw [ok.mg];exact hm) (h X Y ok) (hs _) (hs2 _)) fun σ H Q q=>by
  obtain ⟨F,σd,Qd,R,q,K⟩:=q
  refine ⟨F,σd,_,R,q,fun vs H1 F1 ds σ1 s1 R1 r1 q1=>?_⟩
  split at q1
  · rename_i x y
    split at q1
    · rename_i xs ys ex ey
      cases r1 with
      | cons rx r1 =>
        cases r1 with
        | cons ry r1 =>
          cases r1
          obtain ⟨tp,l,us,rfl,a1,b1⟩:=rx.sq ex X.K
          obtain ⟨tq,m,ws,rfl,a2,b2⟩:=ry.sq ey X.K
          exact ⟨tp,tq,l,m,us,ws,rfl,a1 H1 R1.fr,a2 H1 R1.fr,K H1 F1 σ1 _ _ s1 R1 (itz_rep a1 a2 b1 b2) q1⟩
    · exact q1.elim
  · exact q1.elim
theorem ite_rep {K:PySem.W.Frag} {F:Hp} {tp:Bool} {l:Addr} {vs:List V} {xs:List D} (h1:∀ H,Same F H -> Sq tp K H l vs) (r1:RepL F vs xs):ItRep F (Ite tp K l) (enumD xs):=fun F1 H1 s1 s2 i=>by
  have a1:=h1 H1 (s1.trans s2)
  refine ⟨fun d e=>?_,fun hl=>⟨vs,a1,?_⟩⟩
  · unfold enumD at e
    rw [List.getElem?_mapIdx] at e
    cases ex:xs[i]? with
    | none=>rw [ex] at e;cases e
    | some x =>
      rw [ex] at e
      cases e
      obtain ⟨v,w1,q1⟩:=r1.get ex
      refine ⟨⟨vs,v,a1,w1⟩,fun z H2 yl=>?_⟩
      obtain ⟨p,v',hp,rfl,rfl,f1⟩:=yl
      have e1':=f1 vs a1
      rw [w1] at e1';cases e1'
      have sm:=same_alloc (o:=.tup [.int i,v]) (same_none s2 hp)
      exact ⟨upd F1 p (.tup [.int i,v]),.inr ⟨p,_,hp,rfl,rfl⟩,.tup upd_same (.cons (.int _) (.cons ((q1.mono s1).mono sm) .nil))⟩
  · rw [r1.length,hl];unfold enumD;simp
end Vc

set_option Elab.async false
set_option linter.all false
set_option maxRecDepth 100000

namespace Vc
open PySem L2
variable [KF]
section
variable {prog:Program} {w:World} {A:Around} {R:Result -> Shared -> Prop}
end
end Vc

set_option Elab.async false
set_option linter.all false
set_option maxRecDepth 100000

namespace Vc
open PySem L2
variable [KF]
variable {G:GE} {k:Nat} {S:Stat}
noncomputable def isInt:D -> Bool
  | .int _=>true
  | _=>false
noncomputable def intV:D -> Int
  | .int i=>i
  | _=>0
theorem RepL.ints {F:Hp}:∀ {vs:List V} {xs:List D},RepL F vs xs -> xs.all isInt = true -> vs = (xs.map intV).map V.int
  | _,_,.nil,_=>rfl
  | _,_,.cons (d:=d) r t,h=>by
    rw [List.all_cons,Bool.and_eq_true] at h
    cases d with
    | int i =>
      cases r
      rw [RepL.ints t h.2];rfl
    | _=>exact absurd h.1 (by simp [isInt])
theorem call_sum {X:Cx} (hc:X.calm = true):CallR X (.builtin "sum") (fun xs H Q=>∃ (a:Addr) (ns:List Int),xs = [.ref a] /\ SqL X.K H a (ns.map V.int) /\ Q (.int ns.sum) H):=by
  intro pins s σ H xs us Q I r h
  obtain ⟨a,ns,rfl,hq,q⟩:=h
  obtain ⟨u,rfl,ru⟩:=vals1 r
  cases ru
  obtain ⟨its,rv,p,_⟩:=I.list hq
  obtain ⟨m,F⟩:=I.fr
  have hi:=L2.intsAre_of rv
  obtain ⟨ys,e⟩:=(hi.allInts).items
  have pl:=p.isList
  rw [e] at pl
  refine sum_intListG (I.ok.hd hc) pl fun g tk t' kp=>⟨.int ns.sum,H,I.kept kp,⟨t',?_⟩,q⟩
  have e1:preSum (numAt ys) ys.size = (PySem.numsOf its.toArray.toList).sum:=by
    rw [e,nums_intItems,preSum_eq,List.take_of_length_le (by simp)]
  rw [e1,show its.toArray.toList = its from rfl,hi.numsOf]
noncomputable def sumF:List D -> (EV -> Prop) -> Prop
  | [.lst xs],Q=>xs.all isInt = true /\ Q (.val (.int (xs.map intV).sum))
  | _,_=>False
theorem f_sum (hh:S.hot = false:=by rfl):ClR G k S (.builtin "sum") sumF:=⟨fun K xs H Q=>∃ (a:Addr) (ns:List Int),xs = [V.ref a] /\ SqL K H a (ns.map V.int) /\ Q (.int ns.sum) H,fun _ _ ok=>call_sum (ok.calm hh),fun Y F H σd σ vs ds Qd Q R r q g=>by
  unfold sumF at q
  split at q
  · obtain ⟨v,rfl,rv⟩:=r.one
    obtain ⟨p,us,rfl,h1,h2⟩:=rv.lst
    refine ⟨p,_,rfl,?_,g.val R (.int _) q.2⟩
    rw [<- h2.ints q.1]
    exact .inl h1
  · exact q.elim⟩

noncomputable def tyN:D -> Option String
  | .non=>some "NoneType"
  | .bl _=>some "bool"
  | .int _=>some "int"
  | .str _=>some "str"
  | .lst _=>some "list"
  | .tup _=>some "tuple"
  | _=>none
noncomputable def subN (T U:String):Bool:=T == U || (T == "bool" && U == "int")
noncomputable def KitFact (U:String):Prop:=∀ K:PySem.W.Frag,PySem.W.kitOne K (.type "NoneType") (.type U) = some (subN "NoneType" U) /\ PySem.W.kitOne K (.type "bool") (.type U) = some (subN "bool" U) /\ PySem.W.kitOne K (.type "int") (.type U) = some (subN "int" U) /\
  PySem.W.kitOne K (.type "str") (.type U) = some (subN "str" U) /\ PySem.W.kitOne K (.type "list") (.type U) = some (subN "list" U) /\ PySem.W.kitOne K (.type "tuple") (.type U) = some (subN "tuple" U)
theorem kit_str:KitFact "str":=fun K=>⟨by rfl,by rfl,by rfl,by rfl,by rfl,by rfl⟩
theorem kit_int:KitFact "int":=fun K=>⟨by rfl,by rfl,by rfl,by rfl,by rfl,by rfl⟩
theorem kit_bool:KitFact "bool":=fun K=>⟨by rfl,by rfl,by rfl,by rfl,by rfl,by rfl⟩
theorem kit_list:KitFact "list":=fun K=>⟨by rfl,by rfl,by rfl,by rfl,by rfl,by rfl⟩
theorem kit_tuple:KitFact "tuple":=fun K=>⟨by rfl,by rfl,by rfl,by rfl,by rfl,by rfl⟩
theorem KitFact.of {U:String} (h:KitFact U) (K:PySem.W.Frag) {d:D} {T:String} (e:tyN d = some T):PySem.W.kitOne K (.type T) (.type U) = some (subN T U):=by
  obtain ⟨h1,h2,h3,h4,h5,h6⟩:=h K
  cases d<;>cases e<;>assumption
theorem RepH.ty {F H:Hp} {v:V} {d:D} {T:String} (r:RepH F H v d) (s:Same F H) (K:PySem.W.Frag) (e:tyN d = some T):TyOf K H v (.type T):=by
  cases d with
  | non=>cases e;obtain rfl:=r.non;exact .non
  | bl b=>cases e;obtain rfl:=r.bl;exact .bl b
  | int i=>cases e;obtain rfl:=r.int;exact .int i
  | str x=>cases e;obtain rfl:=r.str;exact .str x
  | lst xs =>
    cases e
    obtain ⟨a,vs,rfl,h,_⟩:=r.lst
    rcases h with h | ⟨o,h⟩
    · exact .lst h
    · exact .frz h
  | tup xs=>cases e;obtain ⟨a,vs,rfl,h,_⟩:=r.tup s;exact .tup h
  | dct _=>cases e
  | exc _=>cases e
  | scr _=>cases e
noncomputable def isiD (Us:List String) (d:D) (Q:Bool -> Prop):Prop:=match tyN d with
  | some T=>Q (Us.any (subN T))
  | none=>False
noncomputable def tIsi (Us:List String) (t:TV):TB:=fun σ Q=>t σ fun x σ1=>match drf σ1 x with
  | some d=>isiD Us d fun b=>Q b σ1
  | none=>False
theorem r_isi1 {e:Expr} {t:TV} {u:Str} {U:String} {p p2 pos:Pos} (h:EO G k S e t) (kf:KitFact U) (hm:G.mg "isinstance" = none) (hm2:G.mg u = none) (hv2:bootBuiltins u = some (.type U)) (hn2:u ≠ "__name__":=by decide) (hd2:(u == ("__debug__":Str)) = false:=by decide)
    (hg:S.sc.lookup ("isinstance":Str) = some .globalImplicit:=by rfl) (hg2:S.sc.lookup u = some .globalImplicit:=by rfl)
    (he:∀ env,starEach [e,.Name u p2] env = (false,eval e env) :: starEach [.Name u p2] env:=by intro _;rfl):EO G k S (.Call (.Name "isinstance" p) [e,.Name u p2] [] pos) (bV (tIsi [U] t)):=.mk fun X Y ok=>by
  have ha:PA X [e,.Name u p2] (tCons (lO Y t) (tCons (tC (.ty U)) tNil)):=pa_cons (h X Y ok) (pa_cons (pe_bltn (gl_of ok hg2) (by rw [ok.mg];exact hm2) hv2 (show RelV (.ty U) (.type U) from rfl) hn2 hd2) pa_nil rfl) (he _)
  have hc:CallR X (.builtin "isinstance") (fun vs H Q=>∃ F x d T,vs = [x,.ty U] /\ Same F H /\ RepH F H x d /\ tyN d = some T /\ Q (.bl (subN T U)) H):=by
    intro pins s σ H xs us Q I r q
    obtain ⟨F,x,d,T,rfl,sm,rx,et,q⟩:=q
    obtain ⟨a,b,rfl,ra,rb⟩:=vals2 r
    cases rb
    exact isinst_ok I ra (rx.ty sm X.K et) (kf.of X.K et) fun tk=>⟨.bl _,H,I.tok tk,rfl,q⟩
  refine pe_imp (pe_callB hc (gl_of ok hg) (by rw [ok.mg];exact hm) (by decide +kernel) ha (by decide) (by decide) (he _) rfl) fun σ H Q q=>?_
  obtain ⟨F,σd,Qd,R,q,K⟩:=q
  refine ⟨F,σd,_,R,q,fun v1 H1 F1 x σ1 s1 R1 r1 q1=>?_⟩
  split at q1
  · rename_i d ed
    unfold isiD at q1
    split at q1
    · rename_i T eT
      refine ⟨F1,v1,d,T,rfl,R1.fr,R1.drf r1 ed,eT,?_⟩
      have e1:([U].any (subN T)) = subN T U:=by simp
      rw [e1] at q1
      exact K _ H1 F1 (.val (.bl (subN T U))) σ1 s1 R1 (.bl _) q1
    · exact q1.elim
  · exact q1.elim
end Vc

set_option Elab.async false
set_option linter.all false
set_option maxRecDepth 100000

namespace Vc
open PySem L2
variable [KF]
variable {G:GE} {k:Nat} {S:Stat}
end Vc

set_option Elab.async false
set_option linter.all false
set_option maxRecDepth 100000

namespace Vc
open PySem L2
variable [KF]
variable {G:GE} {k:Nat} {S:Stat}
noncomputable def plainD:D -> Bool
  | .non=>true
  | .bl _=>true
  | .int _=>true
  | .str _=>true
  | _=>false
theorem Rep.plain {F F':Hp} {v:V} {d:D} (r:Rep F v d) (h:plainD d = true):Rep F' v d:=by
  cases r with
  | non=>exact .non
  | bl b=>exact .bl b
  | int i=>exact .int i
  | str x=>exact .str x
  | _=>cases h
theorem freeze_lent {F H:Hp} (s:Same F H) {v:V} {d:D} (r:RepH F H v d):∃ F',Same F F' /\ Same F' H /\ Rep F' v d:=by
  cases d with
  | lst xs =>
    obtain ⟨a,vs,rfl,h,r⟩:=r
    have key:∀ o,H a = some o -> ∃ F',Same F F' /\ Same F' H /\ F' a = some o:=fun o e=>by
      cases ef:F a with
      | none =>
        refine ⟨upd F a o,same_alloc ef,fun b u q=>?_,upd_same⟩
        by_cases hb:b = a
        · subst hb;rw [upd_same] at q;cases q;exact e
        · rw [upd_ne hb] at q;exact s b u q
      | some u =>
        have:=s a u ef
        rw [e] at this;cases this
        exact ⟨F,Same.refl _,s,ef⟩
    rcases h with h | ⟨o,h⟩
    · obtain ⟨F',s1,s2,e⟩:=key _ h
      exact ⟨F',s1,s2,.lst (.inl e) (r.mono s1)⟩
    · obtain ⟨F',s1,s2,e⟩:=key _ h
      exact ⟨F',s1,s2,.lst (.inr ⟨o,e⟩) (r.mono s1)⟩
  | _=>exact ⟨F,Same.refl _,s,r⟩
theorem RepH.mono {F F' H:Hp} (s:Same F F') {v:V} {d:D} (r:RepH F H v d):RepH F' H v d:=by
  cases d with
  | lst xs =>
    obtain ⟨a,vs,rfl,h,r⟩:=r
    exact ⟨a,vs,rfl,h,r.mono s⟩
  | _=>exact Rep.mono s r
theorem freeze_all {F H:Hp} (s:Same F H):∀ {vs:List V} {ds:List D},RepHs F H vs ds -> ∃ F',Same F F' /\ Same F' H /\ RepL F' vs ds
  | _,_,.nil=>⟨F,Same.refl _,s,.nil⟩
  | _,_,.cons h r=>by
    obtain ⟨F1,s1,s2,q⟩:=freeze_all s r
    obtain ⟨F2,s3,s4,p⟩:=freeze_lent s2 (h.mono s1)
    exact ⟨F2,s1.trans s3,s4,.cons p (q.mono s3)⟩
noncomputable def tCb (sp:FSp) (t:TVs):TX:=fun σ Q=>t σ fun xs σ1=>match drfs σ1 xs with
  | some ds=>Cl sp ds fun b=>match b with
    | .sh d=>plainD d = true /\ Q (.val d) σ1
    | .own _=>False
    | .obj _=>False
  | none=>False
theorem r_callb {x:Str} {sp:FSp} {e:Expr} {es:List Expr} {t:TVs} {p pos:Pos} (h:FnG G k x sp) (ha:EOs G k S (e :: es) t) (hg:S.sc.lookup x = some .globalImplicit:=by rfl) (hdb:(x == ("__debug__":Str)) = false:=by decide)
    (he:∀ env,starEach (e :: es) env = (false,eval e env) :: starEach es env:=by exact fun _=>Vc.se_cons rfl) (hpl:∀ env,(backTo pos (starEach es env)).any (·.1) = false:=by intro _;rfl) (hh:S.hot = false:=by rfl):EX G k S (.Call (.Name x p) (e :: es) [] pos) (tCb sp t):=.mk fun X Y ok=>by
  obtain ⟨f,fd,ps,h1,h2,h3,h4⟩:=h
  have h1':FnOk X.prog X.w X.K X.mg X.base CX0 k f fd ps (spOf sp):=by rw [ok.P,ok.w,ok.K,ok.mg,ok.base];exact h1
  refine pe_imp (pe_call (E:=E0) (dvs:=[]) (ds:=[]) h1' (ok.room hh) (gl_of ok hg) (by rw [ok.mg];exact h2) (by rw [ok.K];exact h3) (by rw [ok.K];exact h4) .nil pass0 (ha X Y ok) hdb (he _) (hpl _)) fun σ H Q q=>?_
  obtain ⟨F,σd,Qd,R,q,K⟩:=q
  refine ⟨F,σd,_,R,q,fun vs H1 F1 xs σ1 s1 R1 r1 q1=>?_⟩
  show spOf sp (vs ++ []) H1 Q E0
  rw [List.append_nil]
  split at q1
  · rename_i ds ed
    obtain ⟨F2,s2,s3,r2⟩:=freeze_all R1.fr (R1.drfs r1 ed)
    refine ⟨F2,ds,_,⟨s3,R1.ob.tab.mono s2⟩,r2,q1,fun v H' F' b w1 w2 w3 fr r3 q2=>?_⟩
    cases b with
    | own ys=>exact q2.elim
    | obj o=>exact q2.elim
    | sh d =>
      have r3:Rep F' v d:=r3
      have q2:plainD d = true /\ Qd (.val d) σ1:=q2
      exact K v H' F1 (.val d) σ1 s1 (R1.call (Same.refl _) ((s2.trans w1).trans w2) w3 fun c o z=>.inl z) (r3.plain q2.1) q2.2
  · exact q1.elim
theorem forD_ind {g:TGd} {tb:TSd} {De:EndsD} {items:List D} (I:Nat -> Sd -> Prop)
    (hstep:∀ i x σ (N:Sd -> Prop),items[i]? = some x -> I i σ -> (∀ σ',I (i + 1) σ' -> N σ') -> g x σ fun σ1=>tb { nx:=N,rt:=De.rt,bk:=De.nx,ct:=N } σ1)
    (hend:∀ σ,I items.length σ -> De.nx σ) {σ:Sd} (h0:I 0 σ):forD g tb De items σ:=by
  have key:∀ (xs:List D) (i:Nat) (σ:Sd),items.drop i = xs -> i <= items.length -> I i σ -> forD g tb De xs σ:=by
    intro xs
    induction xs with
    | nil =>
      intro i σ e l h
      have:items.length <= i:=List.drop_eq_nil_iff.mp e
      exact hend σ ((Nat.le_antisymm l this) ▸ h)
    | cons x r ih =>
      intro i σ e l h
      have hx:items[i]? = some x:=by
        have:=congrArg (·[0]?) e
        simpa using this
      have hr:items.drop (i + 1) = r:=by rw [<- List.drop_drop,e];rfl
      have hl:i < items.length:=(List.getElem?_eq_some_iff.mp hx).1
      exact hstep i x σ _ hx h fun σ' h'=>ih (i + 1) σ' hr hl h'
  exact key items 0 σ rfl (Nat.zero_le _) h0
theorem compD_on {α:Type} {g:TGd} {tc:TB} {te:TD} {σ0:Sd} {Q:List D -> Prop} (gi:α -> D) (f:α -> Option D) (l:List α)
    (h:∀ a ∈ l,∀ (A:D -> Prop) (Bn:Prop),(match f a with | some d=>A d | none=>Bn) -> g (gi a) σ0 fun σ1=>tc σ1 fun b σ2=>if b = true then te σ2 fun d σ3=>leS σ0 σ3 /\ A d else leS σ0 σ2 /\ Bn)
    (hl:l.length <= sizeLine) (q:Q (l.filterMap f)):compD g tc te σ0 (l.map gi) [] Q:=by
  have key:∀ (l:List α) (acc:List D),(∀ a ∈ l,∀ (A:D -> Prop) (Bn:Prop),(match f a with | some d=>A d | none=>Bn) -> g (gi a) σ0 fun σ1=>tc σ1 fun b σ2=>if b = true then te σ2 fun d σ3=>leS σ0 σ3 /\ A d else leS σ0 σ2 /\ Bn) ->
      acc.length + l.length <= sizeLine -> Q (acc ++ l.filterMap f) -> compD g tc te σ0 (l.map gi) acc Q:=by
    intro l
    induction l with
    | nil=>intro acc _ _ q;simpa [compD] using q
    | cons a l ih =>
      intro acc h hl q
      rw [List.length_cons] at hl
      rw [List.map_cons]
      refine h a (List.mem_cons_self ..) (fun d=>acc.length < sizeLine /\ compD g tc te σ0 (l.map gi) (acc ++ [d]) Q) (compD g tc te σ0 (l.map gi) acc Q) ?_
      have hr:=fun y hy=>h y (List.mem_cons_of_mem _ hy)
      cases e:f a with
      | some d =>
        refine ⟨by omega,ih _ hr (by rw [List.length_append,List.length_singleton];omega) ?_⟩
        rw [List.filterMap_cons_some e] at q
        rwa [List.append_assoc]
      | none =>
        refine ih acc hr (by omega) ?_
        rwa [List.filterMap_cons_none e] at q
  exact key l [] h (by simpa using hl) q
theorem compD_onM {α:Type} {g:TGd} {te:TD} {σ0:Sd} {Q:List D -> Prop} (gi f:α -> D) (l:List α)
    (h:∀ a ∈ l,∀ (A:D -> Prop),A (f a) -> g (gi a) σ0 fun σ1=>te σ1 fun d σ3=>leS σ0 σ3 /\ A d)
    (hl:l.length <= sizeLine) (q:Q (l.map f)):compD g tTrue te σ0 (l.map gi) [] Q :=
  compD_on gi (fun x=>some (f x)) l (fun x hx A Bn ha=>h x hx A ha) hl (by simpa using q)
theorem forD_on {α:Type} {g:TGd} {tb:TSd} {De:EndsD} (gi:α -> D) (l:List α) (I:Nat -> Sd -> Prop)
    (hstep:∀ i a σ (N:Sd -> Prop),l[i]? = some a -> I i σ -> (∀ σ',I (i + 1) σ' -> N σ') -> g (gi a) σ fun σ1=>tb { nx:=N,rt:=De.rt,bk:=De.nx,ct:=N } σ1)
    (hend:∀ σ,I l.length σ -> De.nx σ) {σ:Sd} (h0:I 0 σ):forD g tb De (l.map gi) σ:=by
  refine forD_ind I (fun i x σ N hx hI hN=>?_) (fun σ h=>hend σ (by rwa [List.length_map] at h)) h0
  rw [List.getElem?_map] at hx
  cases e:l[i]? with
  | none=>rw [e] at hx;cases hx
  | some a=>rw [e] at hx;cases hx;exact hstep i a σ N e hI hN
theorem rngD_map (lo:Int) (n:Nat):rngD lo n = (List.range n).map fun i=>.int (lo + (i:Nat)):=rfl
theorem zipD_map {α β:Type} (f:α -> D) (g:β -> D) (xs:List α) (ys:List β):zipD (xs.map f) (ys.map g) = (xs.zip ys).map fun p=>.tup [f p.1,g p.2]:=by
  unfold zipD
  rw [List.zip_map,List.map_map];rfl
theorem enumD_map {α:Type} (f:α -> D) (xs:List α):enumD (xs.map f) = (xs.mapIdx fun i x=>(i,x)).map fun p=>.tup [.int (p.1:Nat),f p.2]:=by
  unfold enumD
  apply List.ext_getElem?
  intro i
  simp only [List.getElem?_mapIdx,List.getElem?_map]
  cases xs[i]?<;>rfl
theorem atI_nat {α:Type} {xs:List α} {n:Nat} {d:α} (h:xs[n]? = some d):L2.atI xs (n:Int) = some d:=by
  have hn:=(List.getElem?_eq_some_iff.mp h).1
  unfold L2.atI L2.ixN
  rw [if_pos (Int.natCast_nonneg n),if_pos (by omega)]
  show xs[(n:Int).toNat]? = some d
  rw [Int.toNat_natCast];exact h
theorem ix_lst_at {xs:List D} {n:Nat} {i:Int} {d:D} {Q:D -> Prop} (e:i = (n:Int)) (h:xs[n]? = some d) (q:Q d):ixD (.lst xs) (.int i) Q:=by
  subst e
  show (match L2.atI xs (n:Int) with | some d=>Q d | none=>False)
  rw [atI_nat h]
  exact q
theorem ix_tup_at {xs:List D} {n:Nat} {i:Int} {d:D} {Q:D -> Prop} (e:i = (n:Int)) (h:xs[n]? = some d) (q:Q d):ixD (.tup xs) (.int i) Q:=by
  subst e
  show (match L2.atI xs (n:Int) with | some d=>Q d | none=>False)
  rw [atI_nat h]
  exact q
theorem ix_lst_all {xs:List D} {i:Int} {Q:D -> Prop} (h0:0 <= i) (h1:i < xs.length) (h:∀ d ∈ xs,Q d):ixD (.lst xs) (.int i) Q:=by
  have hn:i.toNat < xs.length:=by omega
  exact ix_lst_at (n:=i.toNat) (by omega) (List.getElem?_eq_getElem hn) (h _ (List.getElem_mem hn))
structure FnD (G:GE) (x:Str) (st:Stmt) (ps:List Str) (f:Addr) (fd:FuncData):Prop where
  F:Fun G.K x x st f fd
  m:G.mg x = some (.ref f)
  b:Binds G.K fd ps []
theorem FnD.fg {x:Str} {st:Stmt} {ps N:List Str} {f:Addr} {fd:FuncData} {t:TSd} {sp:FSp} (d:FnD G x st ps f fd) (hK:G.K = KF.K) (Sc:FnScope N ps (defScope st)) (ht:ESs G k ⟨N,(defScope st).names,[],false,false,false,fun _ _=>False⟩ (defBody st) t)
    (len:∀ ds Q,sp ds Q -> ds.length = ps.length) (body:∀ ds Q,sp ds Q -> t { nx:=fun _=>Q (.sh .non),rt:=fun b _=>Q b } (startD N.length ds)):FnG G (k + 1) x sp :=
  ⟨f,fd,ps,fn_ok hK d.F Sc ht len body,d.m,d.F.kp,d.b⟩
theorem tSq_step {t u:TSd} {De:EndsD} {σ:Sd} (h:∀ N,N = u De -> t { nx:=N,rt:=De.rt,bk:=De.bk,ct:=De.ct } σ):tSq t u De σ:=h _ rfl
end Vc

set_option Elab.async false
set_option linter.all false
set_option maxRecDepth 100000

namespace Vc
open PySem L2
variable [KF]
section
open AutoSeq1 (wpAny_loadPart')
theorem meets_enumT (l:Addr) (items:Array Value) (n:Nat) (dct:Option Addr) (sl:Array (Option Value)) :
    Meets (Builtin.«enumerate.__new__» ⟨[.type "enumerate",.ref l],[]⟩) (fun _ R s=>s.heap.get? l = some { cls:=.type "tuple",dict:=dct,data:=.seq items n,slots:=sl } /\
      R (.ok (.ret (.ref (s.heap.push { cls:=.type "tuple_iterator",data:=.fields #[.ref l,.int 0 0] }).objs.size)))
        { s with heap:=(s.heap.push { cls:=.type "tuple_iterator",data:=.fields #[.ref l,.int 0 0] }).push { cls:=.type "enumerate",data:=.fields #[.none,.bool false,.ref s.heap.objs.size,rawInt 0,.none,.none] } }) :=
  .of_wp fun prog w A R s h=>by
    obtain ⟨hp,g,d,tk,os⟩:=s;obtain ⟨hl,h⟩:=h
    have hsub:=sub_enumerate
    have hL:Heap.IsTuple (Shared.heap ⟨hp,g,d,tk,os⟩) l items:=⟨_,hl,rfl,n,rfl⟩
    wp_walk using wpAny_loadPart' hl
    refine wpAny_stack_any fun st=>wpAny_pure ?_
    split
    · rename_i c _ _ _ _ _
      cases (c == Value.type "enumerate")
      · wp_walk using wpAny_loadPart' hl,wpAny_pyIter_tuple hL
        exact ⟨_,rfl,h⟩
      · wp_walk using wpAny_loadPart' hl,wpAny_pyIter_tuple hL
        exact ⟨_,rfl,h⟩
    · wp_walk using wpAny_loadPart' hl,wpAny_pyIter_tuple hL
      exact ⟨_,rfl,h⟩
theorem call_enumT {prog:Program} {w:World} {A:Around} {E:Value -> Shared -> Prop} {s:Shared} {l:Addr} {items:Array Value} {Q:Value -> Shared -> Prop} (hL:s.heap.IsTuple l items)
    (h:∀ h',IsEnum h' (s.heap.objs.size + 1) s.heap.objs.size 0 .none -> SqI true h' s.heap.objs.size l 0 -> h'.objs.size = s.heap.objs.size + 2 ->
      (∀ b o,s.heap.get? b = some o -> h'.get? b = some o) -> Q (.ref (s.heap.objs.size + 1)) { s with heap:=h' }) :
    wpAny (model prog w) A (call (.type "enumerate") [.ref l]) Q E s:=by
  obtain ⟨⟨c,dct,dt,sl⟩,hl,hc,n,hd⟩:=hL
  replace hc:c = .type "tuple":=hc
  replace hd:dt = .seq items n:=hd
  subst hc hd
  refine callType_new F.called_enumerate (by decide) (F.typeCall_enumerate_1 _) (F.newCall_enumerate_1 _) (fun obj=>F.args_object_init_2 obj _) F.entry_enumerate_new
    (meets_enumT l items n dct sl) ⟨hl,?_⟩
  have hz:(s.heap.push { cls:=.type "tuple_iterator",data:=.fields #[.ref l,.int 0 0] }).objs.size = s.heap.objs.size + 1:=Heap.size_push ..
  show _ /\ _
  rw [hz]
  have he:IsEnum ((s.heap.push { cls:=.type "tuple_iterator",data:=.fields #[.ref l,.int 0 0] }).push
      { cls:=.type "enumerate",data:=.fields #[.none,.bool false,.ref s.heap.objs.size,rawInt 0,.none,.none] }) (s.heap.objs.size + 1) s.heap.objs.size 0 .none:=by
    have:=Heap.get?_push_size (s.heap.push { cls:=.type "tuple_iterator",data:=.fields #[.ref l,.int 0 0] })
      (o:={ cls:=.type "enumerate",data:=.fields #[.none,.bool false,.ref s.heap.objs.size,rawInt 0,.none,.none] }) rfl
    rw [hz] at this;exact this
  refine ⟨⟨_,he,rfl⟩,h _ he ⟨_,Heap.get?_push_of_some _ (Heap.get?_push_size _ rfl),rfl,rfl⟩ (by rw [Heap.size_push,hz]) fun b o x=>Heap.get?_push_of_some _ (Heap.get?_push_of_some _ x)⟩
end
noncomputable def iEnumT (K:PySem.W.Frag) (ta:TA):TI:=fun σ H R=>ta σ H fun vs H1=>∃ tp a xs,vs = [.ref a] /\ Sq tp K H1 a xs /\ R (Ite tp K a) H1
theorem pi_enumT {X:Cx} {elts:List Expr} {kk:Nat} {tpos:Pos} {a:Expr} {ta:TA} {p pos:Pos} (hg:Gl X "enumerate") (hm:X.mg "enumerate" = none) (hv:bootBuiltins "enumerate" = some (.type "enumerate")) (ha:PA X [a] ta) (hs:starEach [a] X.env = [(false,eval a X.env)]) :
    PI X (.Tuple elts kk tpos) (.Call (.Name "enumerate" p) [a] [] pos) (iEnumT X.K ta):=by
  intro pins s σ H R I h
  refine PyProof.Rows.Call_ (ld_blt I hg hm hv (PyProof.Rows.callWith_type1 (thn (ha pos pins s σ H _ I h) fun us s1 ⟨vs,H1,I1,r1,q1⟩=>?_) hs rfl))
  obtain ⟨tp,l,xs,e,q1,q⟩:=q1
  subst e
  obtain ⟨u,rfl,ru⟩:=vals1 r1
  cases ru
  obtain ⟨its,_,p1,ll⟩:=q1.is I1
  have fin:∀ h',IsEnum h' (s1.heap.objs.size + 1) s1.heap.objs.size 0 .none -> SqI tp h' s1.heap.objs.size l 0 -> h'.objs.size = s1.heap.objs.size + 2 ->
      (∀ b o,s1.heap.get? b = some o -> h'.get? b = some o) -> wpAny (model X.prog X.w) X.A (pyIter (.ref (s1.heap.objs.size + 1))) (PIE X pins σ (.Tuple elts kk tpos) R) X.xe { s1 with heap:=h' }:=fun g e1 i1 n1 k1=>by
    refine wpAny_pyIter_enum e1 ?_
    refine ⟨s1.heap.objs.size + 1,[s1.heap.objs.size + 1,s1.heap.objs.size],_,_,H1,rfl,I1.kept (t':=s1.toks) k1,
      turn_enum tp _ _ l (show (s1.heap.objs.size + 1:Nat) ≠ s1.heap.objs.size by omega) (Nat.ne_of_lt (Nat.lt_succ_of_lt ll)) (Nat.ne_of_lt ll),⟨⟨_,e1⟩,i1⟩,fun b hb=>?_,q⟩
    have hb':s1.heap.objs.size <= b:=by
      simp only [List.mem_cons,List.not_mem_nil,or_false] at hb
      rcases hb with rfl | rfl
      · exact Nat.le_succ _
      · exact Nat.le_refl _
    exact I1.fpOk hb' (I1.hok.fresh hb')
  cases tp with
  | true=>exact call_enumT p1 fin
  | false=>exact call_enumerate_list p1 fin
variable {G:GE} {k:Nat} {S:Stat}
noncomputable def tEnumS (t:TDs):TDs:=fun σ Q=>t σ fun ds σ1=>match ds with
  | [.lst xs]=>Q (enumD xs) σ1
  | [.tup xs]=>Q (enumD xs) σ1
  | _=>False
theorem i_enumS {elts:List Expr} {kk:Nat} {tpos:Pos} {a:Expr} {t:TDs} {p pos:Pos} (h:EDs G k S [a] t) (hm:G.mg "enumerate" = none) (hg:S.sc.lookup ("enumerate":Str) = some .globalImplicit:=by rfl) (hs:∀ env,starEach [a] env = [(false,eval a env)]:=by intro _;rfl) :
    EI G k S (.Tuple elts kk tpos) (.Call (.Name "enumerate" p) [a] [] pos) (tEnumS t):=.mk fun X Y ok=>pi_imp (pi_enumT (gl_of ok hg) (by rw [ok.mg];exact hm) (by decide +kernel) (h X Y ok) (hs _)) fun σ H Q q=>by
  obtain ⟨F,σd,Qd,R,q,K⟩:=q
  refine ⟨F,σd,_,R,q,fun vs H1 F1 ds σ1 s1 R1 r1 q1=>?_⟩
  have go:∀ d xs,sq? d = some xs -> RepL F1 vs [d] -> Qd (enumD xs) σ1 -> ∃ tp a us,vs = [.ref a] /\ Sq tp X.K H1 a us /\ Q (Ite tp X.K a) H1:=fun d xs ex r1 q1=>by
    cases r1 with
    | cons rx r1 =>
      cases r1
      obtain ⟨tp,l,us,rfl,a1,b1⟩:=rx.sq ex X.K
      exact ⟨tp,l,us,rfl,a1 H1 R1.fr,K H1 F1 σ1 _ _ s1 R1 (ite_rep a1 b1) q1⟩
  split at q1
  · exact go _ _ rfl r1 q1
  · exact go _ _ rfl r1 q1
  · exact q1.elim

theorem call_rng {X:Cx}:CallR X (.type "range") (fun xs H Q=>∃ j:Int,xs = [.int j] /\ ∀ l,H l = none -> Q (.ref l) (upd H l (.rng 0 j))):=by
  intro pins s σ H xs us Q I r h
  obtain ⟨j,rfl,q⟩:=h
  obtain ⟨u,rfl,rx⟩:=vals1 r
  obtain ⟨t,rfl⟩:=rx
  refine call_range_1 ?_
  exact ⟨.ref s.heap.objs.size,_,I.laid (t':=s.toks + 1 + 1) (o:=.rng 0 j) (fun b o e=>Heap.get?_push_of_some _ e) (Nat.le_refl _) ⟨_,_,_,Heap.get?_push_size _ rfl⟩,rfl,q _ I.fresh⟩
noncomputable def rngV (n:Nat):List V:=(List.range n).map fun i=>.int (i:Nat)
theorem vals_rng {n:Nat} {acc:Array Value} (h:ItemsOf (fun i v=>∃ t,v = .int (0 + i * 1) t) acc n):Vals (rngV n) acc.toList:=by
  obtain ⟨h1,h2⟩:=h
  have:∀ (xs:List V) (us:List Value),xs.length = us.length -> (∀ (i:Nat) v,us[i]? = some v -> ∃ x,xs[i]? = some x /\ RelV x v) -> Vals xs us:=by
    intro xs
    induction xs with
    | nil=>intro us hl _;cases us with
      | nil=>exact .nil
      | cons _ _=>simp at hl
    | cons x xs ih=>intro us hl hr;cases us with
      | nil=>simp at hl
      | cons u us =>
        obtain ⟨y,hy,ry⟩:=hr 0 u rfl
        cases hy
        exact .cons ry (ih us (by simpa using hl) fun i v e=>hr (i + 1) v e)
  refine this _ _ (by simp [rngV,h1]) fun i v e=>?_
  have hi:i < n:=by
    have:=(List.getElem?_eq_some_iff.mp e).1
    simpa [h1] using this
  obtain ⟨t,rfl⟩:=h2 i v (by simpa using e)
  refine ⟨.int (i:Nat),by simp [rngV,hi],⟨t,by simp⟩⟩
theorem call_list_rng {X:Cx} (hc:X.calm = true):CallR X (.type "list") (fun xs H Q=>∃ p j,xs = [.ref p] /\ H p = some (.rng 0 j) /\ -(2 ^ 62) <= j /\ j <= 2 ^ 24 /\ ∀ l,H l = none -> Q (.ref l) (upd H l (.lst (rngV j.toNat)))):=by
  intro pins s σ H xs us Q I r h
  obtain ⟨p,j,rfl,hp,h1,h2,q⟩:=h
  obtain ⟨u,rfl,rx⟩:=vals1 r
  cases rx
  obtain ⟨t,u,v,e⟩:=I.hok p _ hp
  refine call_list_range (n:=j.toNat) (I.ok.hd hc) (show IsRange s.heap p 0 j 1 t u v from e) (small_one (by omega) (by omega) (by omega) (by omega)) (by rw [rangeSize_one];split<;>omega) (by omega) fun h' tk acc' c' kp e' it=>?_
  have hz:(rngV j.toNat).length <= sizeLine:=by simp [rngV,sizeLine];omega
  exact ⟨.ref s.heap.objs.size,_,I.laid (t':=tk) kp (Nat.le_refl _) (show ObjOk X.prog X.w _ h' _ (.lst (rngV j.toNat)) from ⟨hz,acc'.toList,c',vals_rng it,by simpa using e'⟩),rfl,q _ I.fresh⟩
noncomputable def tLR (t:TVs):TX:=fun σ Q=>t σ fun xs σ1=>match drfs σ1 xs with
  | some [.int j]=>(-(2 ^ 62) <= j /\ j <= 2 ^ 24) /\ Q (.own (rngD 0 j.toNat)) σ1
  | _=>False
theorem repL_rng {F:Hp} (n:Nat):RepL F (rngV n) (rngD 0 n):=by
  unfold rngV rngD
  induction (List.range n) with
  | nil=>exact .nil
  | cons a as ih=>exact .cons (by simpa using Rep.int _) ih
theorem r_lrng {a:Expr} {t:TVs} {p p2 pos pos2:Pos} (h:EOs G k S [a] t) (hm:G.mg "list" = none) (hm2:G.mg "range" = none) (hg:S.sc.lookup ("list":Str) = some .globalImplicit:=by rfl) (hg2:S.sc.lookup ("range":Str) = some .globalImplicit:=by rfl)
    (hs:∀ env,starEach [a] env = [(false,eval a env)]:=by intro _;rfl) (hs2:∀ env,starEach [Expr.Call (.Name "range" p2) [a] [] pos2] env = [(false,eval (Expr.Call (.Name "range" p2) [a] [] pos2) env)]:=by intro _;rfl) (hh:S.hot = false:=by rfl) :
    EX G k S (.Call (.Name "list" p) [.Call (.Name "range" p2) [a] [] pos2] [] pos) (tLR t):=.mk fun X Y ok =>
  pe_imp (pe_callTy (call_list_rng (ok.calm hh)) (gl_of ok hg) (by rw [ok.mg];exact hm) (by decide +kernel) (pa_cons (pe_callTy call_rng (gl_of ok hg2) (by rw [ok.mg];exact hm2) (by decide +kernel) (h X Y ok) (by decide) (by decide) (hs _) (by rfl)) pa_nil (hs2 _)) (by decide) (by decide) (hs2 _) (by rfl)) fun σ H Q q=>by
    obtain ⟨F,σd,Qd,R,q,K⟩:=q
    refine ⟨F,σd,_,R,q,fun vs H1 F1 xs σ1 s1 R1 r1 q1=>?_⟩
    split at q1
    · rename_i j e
      obtain ⟨v,rfl,rv⟩:=(R1.drfs r1 e).one
      obtain rfl:=rv.int
      refine ⟨j,rfl,fun l hl=>⟨l,j,rfl,upd_same,q1.1.1,q1.1.2,?_⟩⟩
      have R2:RS Y F1 σ1 σ (upd H1 l (.rng 0 j)):=R1.alloc0 hl
      have g:Goes Y F1 σ1 σ (fun r=>Qd r σ1) Q:=fun v H' F' r s R' rr qq=>K v H' F' r σ1 (s1.trans s) R' rr qq
      exact g.own R2 (repL_rng _) q1.2
    · exact q1.elim
end Vc

set_option Elab.async false
set_option linter.all false
set_option maxRecDepth 100000
namespace Vs
open PySem PyProof.Rows
noncomputable def R (ρ:Keyed -> Nat) (xs:Array Keyed) (i:Nat):Nat:=match xs[i]? with
  | some p=>ρ p
  | none=>0
theorem R_congr {ρ:Keyed -> Nat} {xs ys:Array Keyed} {i j:Nat} (h:xs[i]? = ys[j]?):R ρ xs i = R ρ ys j:=by unfold R;rw [h]
theorem R_at {ρ:Keyed -> Nat} {xs:Array Keyed} {i:Nat} {p:Keyed} (h:xs[i]? = some p):R ρ xs i = ρ p:=by unfold R;rw [h]
theorem R_bubble {ρ:Keyed -> Nat} {xs:Array Keyed} {src d:Nat} (hs:src < xs.size) (hd:d <= src) (k:Nat) :
    R ρ (bubble xs src d) k = if k = src - d then R ρ xs src else if src - d < k /\ k <= src then R ρ xs (k - 1) else R ρ xs k:=by
  have e:=getElem?_bubble hs d hd k
  repeat' split
  all_goals (rename_i h1;first | (rename_i h2;first | rw [if_neg h2,if_pos h1] at e | rw [if_neg h2,if_neg h1] at e) | rw [if_pos h1] at e)
  all_goals exact R_congr e
theorem R_mirror {ρ:Keyed -> Nat} {xs:Array Keyed} {i j:Nat} (hj:j <= xs.size) (k:Nat) :
    R ρ (mirror xs i j ((j - i) / 2)) k = if i <= k /\ k < j then R ρ xs (i + j - 1 - k) else R ρ xs k:=by
  have e:=getElem?_mirror_all (i:=i) hj k
  split
  · rename_i h1;rw [if_pos h1] at e;exact R_congr e
  · rename_i h1;rw [if_neg h1] at e;exact R_congr e
theorem R_mirror_equal {ρ:Keyed -> Nat} {xs:Array Keyed} {i j:Nat} (hj:j <= xs.size) (heq:∀ k,i <= k -> k < j -> R ρ xs k = R ρ xs (j - 1)) (k:Nat) :
    R ρ (mirror xs i j ((j - i) / 2)) k = R ρ xs k:=by
  rw [R_mirror hj]
  split
  · rw [heq _ (by omega) (by omega),heq k (by omega) (by omega)]
  · rfl
noncomputable def LtH (M:Model) (A:Around) (E:Value -> Shared -> Prop) (s:Shared) (ρ:Keyed -> Nat) (kd:SortKind) (P:Keyed -> Prop):Prop :=
  ∀ (x y:Keyed) (st:SortSt) (Q:Option Bool -> SortSt -> Prop),P x -> P y -> kindOf st = kd -> Q (some (decide (ρ x < ρ y))) st -> wpS M A E s (lt' x y) Q st
structure SI (kd:SortKind) (a₀:Array Keyed) (st:SortSt):Prop where
  perm:(arrOf st).Perm a₀
  kind:kindOf st = kd
  failed:failedOf st = none
theorem SI.size {kd:SortKind} {a₀:Array Keyed} {st:SortSt} (h:SI kd a₀ st):(arrOf st).size = a₀.size:=h.perm.size_eq
theorem SI.setArr {kd:SortKind} {a₀:Array Keyed} {st:SortSt} (h:SI kd a₀ st) {xs:Array Keyed} (hp:xs.Perm (arrOf st)):SI kd a₀ (setArr st xs):=⟨hp.trans h.perm,h.kind,h.failed⟩
theorem SI.at {kd:SortKind} {a₀:Array Keyed} {st:SortSt} (h:SI kd a₀ st) {P:Keyed -> Prop} (h0:∀ p ∈ a₀.toList,P p) {i:Nat} (hi:i < a₀.size):∃ p,(arrOf st)[i]? = some p /\ P p:=by
  have hi':i < (arrOf st).size:=by rw [h.size];exact hi
  exact ⟨(arrOf st)[i],getElem?_pos _ i hi',h0 _ ((Array.perm_iff_toList_perm.mp h.perm).mem_iff.mp (by simp))⟩
structure Fw (kd:SortKind) (a₀:Array Keyed) (lo:Nat) (st st':SortSt):Prop where
  si:SI kd a₀ st'
  same:∀ k,k < lo -> (arrOf st')[k]? = (arrOf st)[k]?
  pend:pendingOf st' = pendingOf st
theorem Fw.refl {kd:SortKind} {a₀:Array Keyed} {lo:Nat} {st:SortSt} (h:SI kd a₀ st):Fw kd a₀ lo st st:=⟨h,fun _ _=>rfl,rfl⟩
theorem Fw.mirror {kd:SortKind} {a₀:Array Keyed} {lo i j:Nat} {st st':SortSt} (h:Fw kd a₀ lo st st') (hi:lo <= i) (hj:j <= a₀.size):Fw kd a₀ lo st (setArr st' (mirror (arrOf st') i j ((j - i) / 2))) :=
  ⟨h.si.setArr (mirror_perm _ _ _ _),fun k hk=>by
    show (PyProof.Rows.mirror (arrOf st') i j ((j - i) / 2))[k]? = _
    rw [getElem?_mirror_all (by rw [h.si.size];exact hj),if_neg (by omega)];exact h.same k hk,h.pend⟩
theorem Fw.bubble {kd:SortKind} {a₀:Array Keyed} {lo src d:Nat} {st st':SortSt} (h:Fw kd a₀ lo st st') (hs:src < a₀.size) (hd:lo <= src - d) (hd2:d <= src):Fw kd a₀ lo st (setArr st' (bubble (arrOf st') src d)) :=
  ⟨h.si.setArr (bubble_perm _ _ _),fun k hk=>by
    show (PyProof.Rows.bubble (arrOf st') src d)[k]? = _
    rw [getElem?_bubble (by rw [h.si.size];exact hs) d hd2,if_neg (by omega),if_neg (by omega)];exact h.same k hk,h.pend⟩
section
variable {M:Model} {A:Around} {E:Value -> Shared -> Prop} {s:Shared} {ρ:Keyed -> Nat} {kd:SortKind} {P:Keyed -> Prop} {a₀:Array Keyed}
theorem wpS_elem {arr:Array Keyed} {i:Nat} {p:Keyed} {st:SortSt} {Q:Keyed -> SortSt -> Prop} (h:arr[i]? = some p) (q:Q p st):wpS M A E s (elem' arr i) Q st:=by
  rw [elem'_eq,h];exact wpS_pure q
theorem wpS_ltAt {st:SortSt} {i j:Nat} {Q:Option Bool -> SortSt -> Prop} (hL:LtH M A E s ρ kd P) (h0:∀ p ∈ a₀.toList,P p) (hB:SI kd a₀ st) (hi:i < a₀.size) (hj:j < a₀.size)
    (h:Q (some (decide (R ρ (arrOf st) i < R ρ (arrOf st) j))) st):wpS M A E s (ltAt' i j) Q st:=by
  obtain ⟨p,e1,p1⟩:=hB.at h0 hi
  obtain ⟨q,e2,p2⟩:=hB.at h0 hj
  rw [R_at e1,R_at e2] at h
  rw [ltAt'_eq]
  refine wpS_bind (wpS_get ?_)
  show wpS _ _ _ _ (do let x <- elem' (arrOf st) i;let y <- elem' (arrOf st) j;lt' x y) Q st
  exact wpS_bind (wpS_elem e1 (wpS_bind (wpS_elem e2 (hL p q st Q p1 p2 hB.kind h))))
theorem wpS_reverse {st:SortSt} {i j:Nat} {Q:Unit -> SortSt -> Prop} (h:Q () (setArr st (mirror (arrOf st) i j ((j - i) / 2)))):wpS M A E s (reverseSlice' i j) Q st:=by
  rw [reverseSlice'_eq];exact wpS_modify h
noncomputable def Seg (ρ:Keyed -> Nat) (xs:Array Keyed) (lo hi:Nat):Prop:=∀ i j,lo <= i -> i <= j -> j < hi -> R ρ xs i <= R ρ xs j
noncomputable def Neg (ρ:Keyed -> Nat) (xs:Array Keyed) (lo hi:Nat):Prop:=∀ i j,lo <= i -> i <= j -> j < hi -> R ρ xs j <= R ρ xs i
theorem Seg.one {xs:Array Keyed} {lo:Nat}:Seg ρ xs lo (lo + 1):=fun i j h1 h2 h3=>by
  have:i = j:=by omega
  subst this;exact Nat.le_refl _
theorem Seg.snoc {xs:Array Keyed} {lo hi:Nat} (h:Seg ρ xs lo hi) (hl:lo < hi) (hr:R ρ xs (hi - 1) <= R ρ xs hi):Seg ρ xs lo (hi + 1):=fun i j h1 h2 h3=>by
  by_cases hj:j < hi
  · exact h i j h1 h2 hj
  · have:j = hi:=by omega
    subst this
    by_cases hi':i = j
    · subst hi';exact Nat.le_refl _
    · exact Nat.le_trans (h i (j - 1) h1 (by omega) (by omega)) hr
theorem Neg.snoc {xs:Array Keyed} {lo hi:Nat} (h:Neg ρ xs lo hi) (hl:lo < hi) (hr:R ρ xs hi <= R ρ xs (hi - 1)):Neg ρ xs lo (hi + 1):=fun i j h1 h2 h3=>by
  by_cases hj:j < hi
  · exact h i j h1 h2 hj
  · have:j = hi:=by omega
    subst this
    by_cases hi':i = j
    · subst hi';exact Nat.le_refl _
    · exact Nat.le_trans hr (h i (j - 1) h1 (by omega) (by omega))
noncomputable def ascL (lo a nrem:Nat):StateT SortSt Sem (Option (Option Nat) × Nat) :=
  forIn [a:nrem] ((none,a):Option (Option Nat) × Nat) fun _ __s=>do
    let __x <- ltAt' (lo + __s.snd) (lo + __s.snd - 1)
    match __x with
    | some smaller=>if smaller = true then pure (ForInStep.done (none,__s.snd)) else pure (ForInStep.yield (none,__s.snd + 1))
    | _=>pure (ForInStep.done (some none,__s.snd))
theorem wpS_ascL {st:SortSt} {lo a nrem:Nat} {Q:Option (Option Nat) × Nat -> SortSt -> Prop} (hL:LtH M A E s ρ kd P) (h0:∀ p ∈ a₀.toList,P p) (hn:lo + nrem <= a₀.size) (ha:1 <= a) (han:a <= nrem) (hB:SI kd a₀ st)
    (hs:Seg ρ (arrOf st) lo (lo + a))
    (h:∀ n,a <= n -> n <= nrem -> Seg ρ (arrOf st) lo (lo + n) -> (n = nrem \/ R ρ (arrOf st) (lo + n) < R ρ (arrOf st) (lo + n - 1)) -> Q (none,n) st):wpS M A E s (ascL lo a nrem) Q st:=by
  unfold ascL
  refine wpS_forRange (I:=fun x c st'=>st' = st /\ c = (none,x) /\ Seg ρ (arrOf st) lo (lo + x)) ?step ?fin ⟨rfl,rfl,hs⟩
  case fin =>
    rintro c st' ⟨rfl,rfl,hs'⟩
    rw [show max a nrem = nrem by omega] at hs' ⊢
    exact h nrem han (Nat.le_refl _) hs' (.inl rfl)
  case step =>
    rintro x c st' hax hxn ⟨rfl,rfl,hs'⟩
    dsimp only
    refine wpS_bind (wpS_ltAt hL h0 hB (by omega) (by omega) ?_)
    by_cases hl:R ρ (arrOf st') (lo + x) < R ρ (arrOf st') (lo + x - 1)
    · simp only [hl,decide_true,if_true]
      exact wpS_pure (h x hax (by omega) hs' (.inr hl))
    · simp only [hl,decide_false,Bool.false_eq_true,if_false]
      refine wpS_pure ⟨rfl,rfl,?_⟩
      exact hs'.snoc (by omega) (by omega)
noncomputable def tailL (lo n nrem:Nat):StateT SortSt Sem (Option Nat):=do
  reverseSlice' lo (lo + n)
  let __s <- ascL lo n nrem
  match __s.fst with
  | some r=>pure r
  | none=>pure (some __s.snd)
theorem wpS_tailL {st st0:SortSt} {lo n nrem:Nat} {Q:Option Nat -> SortSt -> Prop} (hL:LtH M A E s ρ kd P) (h0:∀ p ∈ a₀.toList,P p) (hn:lo + nrem <= a₀.size) (h1:1 <= n) (hnn:n <= nrem) (hB:Fw kd a₀ lo st0 st)
    (hs:Neg ρ (arrOf st) lo (lo + n)) (h:∀ m st',Fw kd a₀ lo st0 st' -> 1 <= m -> m <= nrem -> Seg ρ (arrOf st') lo (lo + m) -> Q (some m) st'):wpS M A E s (tailL lo n nrem) Q st:=by
  unfold tailL
  have hsz:lo + n <= (arrOf st).size:=by rw [hB.si.size];omega
  refine wpS_bind (wpS_reverse ?_)
  have hB':=hB.mirror (i:=lo) (j:=lo + n) (Nat.le_refl _) (by omega)
  refine wpS_bind (wpS_ascL hL h0 hn h1 hnn hB'.si ?_ fun m hm1 hm2 hsm _=>wpS_pure (h m _ hB' (by omega) hm2 hsm))
  intro i j hi hij hj
  show R ρ (mirror (arrOf st) lo (lo + n) ((lo + n - lo) / 2)) i <= R ρ (mirror (arrOf st) lo (lo + n) ((lo + n - lo) / 2)) j
  rw [R_mirror hsz,R_mirror hsz,if_pos (by omega),if_pos (by omega)]
  exact hs _ _ (by omega) (by omega) (by omega)
noncomputable def descL (lo n nrem:Nat):StateT SortSt Sem (Option (Option Nat) × Nat × Nat) :=
  forIn [n:nrem] ((none,n,0):Option (Option Nat) × Nat × Nat) fun _ __s=>do
    let __x <- ltAt' (lo + __s.snd.fst) (lo + __s.snd.fst - 1)
    match __x with
    | some smaller =>
      if smaller = true then
        if __s.snd.snd > 0 then do
          reverseSlice' (lo + __s.snd.fst - (__s.snd.snd + 1)) (lo + __s.snd.fst)
          pure (ForInStep.yield (none,__s.snd.fst + 1,0))
        else pure (ForInStep.yield (none,__s.snd.fst + 1,0))
      else do
        let __x <- ltAt' (lo + __s.snd.fst - 1) (lo + __s.snd.fst)
        match __x with
        | some larger =>
          if larger = true then pure (ForInStep.done (none,__s.snd.fst,__s.snd.snd))
          else pure (ForInStep.yield (none,__s.snd.fst + 1,__s.snd.snd + 1))
        | _=>pure (ForInStep.done (some none,__s.snd.fst,__s.snd.snd))
    | _=>pure (ForInStep.done (some none,__s.snd.fst,__s.snd.snd))
theorem wpS_descL {st st0:SortSt} {lo n nrem:Nat} {Q:Option (Option Nat) × Nat × Nat -> SortSt -> Prop} (hL:LtH M A E s ρ kd P) (h0:∀ p ∈ a₀.toList,P p) (hn:lo + nrem <= a₀.size) (h1:1 <= n) (hnn:n <= nrem) (hB:Fw kd a₀ lo st0 st)
    (hs:Neg ρ (arrOf st) lo (lo + n))
    (h:∀ m neq st',Fw kd a₀ lo st0 st' -> n <= m -> m <= nrem -> Neg ρ (arrOf st') lo (lo + m) -> neq + 1 <= m -> (∀ i,lo + m - (neq + 1) <= i -> i < lo + m -> R ρ (arrOf st') i = R ρ (arrOf st') (lo + m - 1)) -> Q (none,m,neq) st') :
    wpS M A E s (descL lo n nrem) Q st:=by
  unfold descL
  refine wpS_forRange (I:=fun x c st'=>∃ neq,c = (none,x,neq) /\ Fw kd a₀ lo st0 st' /\ Neg ρ (arrOf st') lo (lo + x) /\ neq + 1 <= x /\
      (∀ i,lo + x - (neq + 1) <= i -> i < lo + x -> R ρ (arrOf st') i = R ρ (arrOf st') (lo + x - 1))) ?step ?fin ⟨0,rfl,hB,hs,by omega,fun i h1 h2=>by congr 1;omega⟩
  case fin =>
    rintro c st' ⟨neq,rfl,hB',hs',hq,he⟩
    rw [show max n nrem = nrem by omega] at hs' hq he ⊢
    exact h nrem neq st' hB' hnn (Nat.le_refl _) hs' hq he
  case step =>
    rintro x c st' hax hxn ⟨neq,rfl,hB',hs',hq,he⟩
    dsimp only
    have hsz:lo + x <= (arrOf st').size:=by rw [hB'.si.size];omega
    refine wpS_bind (wpS_ltAt hL h0 hB'.si (by omega) (by omega) ?_)
    by_cases hl:R ρ (arrOf st') (lo + x) < R ρ (arrOf st') (lo + x - 1)
    · simp only [hl,decide_true,if_true]
      have step1:∀ xs:Array Keyed,(∀ k,R ρ xs k = R ρ (arrOf st') k) -> Neg ρ xs lo (lo + (x + 1)):=fun xs hk=>by
        have:=hs'.snoc (by omega) (Nat.le_of_lt hl)
        intro i j h1 h2 h3
        rw [hk,hk];exact this i j h1 h2 h3
      by_cases hneq:neq > 0
      · rw [if_pos hneq]
        refine wpS_bind (wpS_reverse (wpS_pure ⟨0,rfl,hB'.mirror (by omega) (by omega),step1 _ (R_mirror_equal hsz he),by omega,fun i h1 h2=>by congr 1;omega⟩))
      · rw [if_neg hneq]
        exact wpS_pure ⟨0,rfl,hB',step1 _ (fun _=>rfl),by omega,fun i h1 h2=>by congr 1;omega⟩
    · simp only [hl,decide_false,Bool.false_eq_true,if_false]
      refine wpS_bind (wpS_ltAt hL h0 hB'.si (by omega) (by omega) ?_)
      by_cases hg:R ρ (arrOf st') (lo + x - 1) < R ρ (arrOf st') (lo + x)
      · simp only [hg,decide_true,if_true]
        exact wpS_pure (h x neq st' hB' hax (by omega) hs' hq he)
      · simp only [hg,decide_false,Bool.false_eq_true,if_false]
        have heq:R ρ (arrOf st') (lo + x) = R ρ (arrOf st') (lo + x - 1):=by omega
        refine wpS_pure ⟨neq + 1,rfl,hB',hs'.snoc (by omega) (by omega),by omega,fun i h1 h2=>?_⟩
        rw [show lo + (x + 1) - 1 = lo + x by omega]
        by_cases hix:i = lo + x
        · rw [hix]
        · rw [heq];exact he i (by omega) (by omega)
noncomputable def descP (lo n nrem:Nat):StateT SortSt Sem (Option Nat):=do
  liftM (rule "list.sort.descending-run")
  let __s <- descL lo (n + 1) nrem
  match __s.fst with
  | some r=>pure r
  | none =>
    if __s.snd.snd > 0 then do
      reverseSlice' (lo + __s.snd.fst - (__s.snd.snd + 1)) (lo + __s.snd.fst)
      tailL lo __s.snd.fst nrem
    else tailL lo __s.snd.fst nrem
theorem wpS_descP {st st0:SortSt} {lo n nrem:Nat} {Q:Option Nat -> SortSt -> Prop} (hL:LtH M A E s ρ kd P) (h0:∀ p ∈ a₀.toList,P p) (hn:lo + nrem <= a₀.size) (hnn:n + 1 <= nrem) (hB:Fw kd a₀ lo st0 st)
    (hs:Neg ρ (arrOf st) lo (lo + (n + 1))) (h:∀ m st',Fw kd a₀ lo st0 st' -> 1 <= m -> m <= nrem -> Seg ρ (arrOf st') lo (lo + m) -> Q (some m) st'):wpS M A E s (descP lo n nrem) Q st:=by
  unfold descP
  refine wpS_bind (wpS_lift (wpAny_rule ⟨rfl,?_⟩))
  refine wpS_bind (wpS_descL hL h0 hn (by omega) hnn hB hs fun m neq st' hB' hm1 hm2 hs' hq he=>?_)
  dsimp only
  have hsz:lo + m <= (arrOf st').size:=by rw [hB'.si.size];omega
  by_cases hneq:neq > 0
  · rw [if_pos hneq]
    refine wpS_bind (wpS_reverse (wpS_tailL hL h0 hn (by omega) hm2 (hB'.mirror (by omega) (by omega)) ?_ h))
    intro i j h1 h2 h3
    show R ρ (mirror (arrOf st') _ _ _) j <= R ρ (mirror (arrOf st') _ _ _) i
    rw [R_mirror_equal hsz he,R_mirror_equal hsz he]
    exact hs' i j h1 h2 h3
  · rw [if_neg hneq]
    exact wpS_tailL hL h0 hn (by omega) hm2 hB' hs' h
local macro_rules | `(tactic| walk_at "s_tail")=>`(tactic| (funext s3;obtain ⟨r3,n3⟩:=s3;cases r3<;>rfl))
local macro_rules | `(tactic| walk_at "s_t3")=>`(tactic| (congr 1;funext _w;congr 1;walk_at "s_tail"))
local macro_rules | `(tactic| walk_at "s_desc")=>`(tactic| (congr 1;funext _u;congr 1;congr 1;funext s2;obtain ⟨r2,n2,q2⟩:=s2;cases r2 with
  | some r2=>rfl
  | none=>(dsimp only;split;(congr 1;funext _v;walk_at "s_t3");walk_at "s_t3")))
theorem countRunL_eq (lo nrem:Nat):countRun' lo nrem = (do
    let __s <- ascL lo 1 nrem
    match __s.fst with
    | some r=>pure r
    | none =>
      if (__s.snd == nrem) = true then pure (some __s.snd)
      else if __s.snd > 1 then do
        let __x <- ltAt' lo (lo + __s.snd - 1)
        match __x with
        | some rose=>if rose = true then pure (some __s.snd) else do
            reverseSlice' lo (lo + __s.snd)
            descP lo __s.snd nrem
        | _=>pure none
      else descP lo __s.snd nrem):=by
  rw [countRun'_eq]
  dsimp only
  unfold descP tailL descL ascL
  congr 1
  funext __s
  obtain ⟨r,n⟩:=__s
  cases r with
  | some r=>rfl
  | none =>
    dsimp only
    split
    · rfl
    · split
      · congr 1
        funext x
        cases x with
        | none=>rfl
        | some b =>
          dsimp only
          split
          · rfl
          · congr 1
            funext _z
            walk_at "s_desc"
      · walk_at "s_desc"
end
end Vs

set_option Elab.async false
set_option linter.all false
set_option maxRecDepth 100000
namespace Vs
open PySem PyProof.Rows
section
variable {M:Model} {A:Around} {E:Value -> Shared -> Prop} {s:Shared} {ρ:Keyed -> Nat} {kd:SortKind} {P:Keyed -> Prop} {a₀:Array Keyed}
theorem wpS_countRun {st:SortSt} {lo nrem:Nat} {Q:Option Nat -> SortSt -> Prop} (hL:LtH M A E s ρ kd P) (h0:∀ p ∈ a₀.toList,P p) (hn:lo + nrem <= a₀.size) (h1:1 <= nrem) (hB:SI kd a₀ st)
    (h:∀ m st',Fw kd a₀ lo st st' -> 1 <= m -> m <= nrem -> Seg ρ (arrOf st') lo (lo + m) -> Q (some m) st'):wpS M A E s (countRun' lo nrem) Q st:=by
  rw [countRunL_eq]
  refine wpS_bind (wpS_ascL hL h0 hn (Nat.le_refl 1) h1 hB Seg.one fun n hn1 hn2 hsn hor=>?_)
  dsimp only
  by_cases hnn:n = nrem
  · rw [if_pos (by simpa using hnn)]
    exact wpS_pure (h n st (.refl hB) hn1 hn2 hsn)
  · rw [if_neg (by simpa using hnn)]
    have hlt:=hor.resolve_left hnn
    by_cases hgt:n > 1
    · rw [if_pos hgt]
      refine wpS_bind (wpS_ltAt hL h0 hB (by omega) (by omega) ?_)
      by_cases hr:R ρ (arrOf st) lo < R ρ (arrOf st) (lo + n - 1)
      · simp only [hr,decide_true,if_true]
        exact wpS_pure (h n st (.refl hB) hn1 hn2 hsn)
      · simp only [hr,decide_false,Bool.false_eq_true,if_false]
        have hsz:lo + n <= (arrOf st).size:=by rw [hB.size];omega
        have hall:∀ k,lo <= k -> k < lo + n -> R ρ (arrOf st) k = R ρ (arrOf st) (lo + n - 1):=fun k hk1 hk2=>by
          have a1:=hsn lo k (Nat.le_refl _) hk1 hk2
          have a2:=hsn k (lo + n - 1) hk1 (by omega) (by omega)
          omega
        refine wpS_bind (wpS_reverse (wpS_descP hL h0 hn (by omega) ((Fw.refl hB).mirror (Nat.le_refl _) (by omega)) ?_ h))
        intro i j hi hij hj
        show R ρ (mirror (arrOf st) _ _ _) j <= R ρ (mirror (arrOf st) _ _ _) i
        rw [R_mirror_equal hsz hall,R_mirror_equal hsz hall]
        by_cases hjn:j < lo + n
        · rw [hall i hi (by omega),hall j (by omega) hjn];exact Nat.le_refl _
        · have hj':j = lo + n:=by omega
          subst hj'
          by_cases hi':i = lo + n
          · subst hi';exact Nat.le_refl _
          · rw [hall i hi (by omega)];exact Nat.le_of_lt hlt
    · rw [if_neg hgt]
      have hn1':n = 1:=by omega
      subst hn1'
      refine wpS_descP hL h0 hn (by omega) (.refl hB) ?_ h
      intro i j hi hij hj
      by_cases hi':i = j
      · subst hi';exact Nat.le_refl _
      · have hi0:i = lo:=by omega
        have hj1:j = lo + 1:=by omega
        subst hi0;subst hj1
        exact Nat.le_of_lt hlt
theorem wpS_binarySort {st:SortSt} {lo n ok:Nat} {Q:Bool -> SortSt -> Prop} (hL:LtH M A E s ρ kd P) (h0:∀ p ∈ a₀.toList,P p) (hn:lo + n <= a₀.size) (hok:ok <= n) (hB:SI kd a₀ st) (hs:Seg ρ (arrOf st) lo (lo + ok))
    (h:∀ st',Fw kd a₀ lo st st' -> Seg ρ (arrOf st') lo (lo + n) -> Q true st'):wpS M A E s (binarySort' lo n ok) Q st:=by
  rw [binarySort'_eq]
  refine wpS_bind (wpS_mono (wpS_forRange (I:=fun k c st'=>c = (none,()) /\ Fw kd a₀ lo st st' /\ Seg ρ (arrOf st') lo (lo + min k n))
    (Q:=fun c st'=>c = (none,()) /\ Fw kd a₀ lo st st' /\ Seg ρ (arrOf st') lo (lo + n)) ?step ?fin ?init) ?post)
  case post =>
    rintro c st' ⟨rfl,hB',hs'⟩
    exact wpS_pure (h st' hB' hs')
  case init =>
    refine ⟨rfl,.refl hB,fun i j hi hij hj=>?_⟩
    by_cases h1:ok = 0
    · have:i = j:=by omega
      subst this;exact Nat.le_refl _
    · exact hs i j hi hij (by omega)
  case fin =>
    rintro c st' ⟨hc,hB',hs'⟩
    refine ⟨hc,hB',?_⟩
    rwa [show min (max (max ok 1) n) n = n by omega] at hs'
  case step =>
    rintro k c st' hak hkn ⟨rfl,hB',hs'⟩
    rw [show min k n = k by omega] at hs'
    have hk:lo + k < a₀.size:=by omega
    refine wpS_bind (wpS_mono (wpS_forRange (I:=fun x c st''=>st'' = st' /\ ∃ l r,c = (none,l,r) /\ l <= r /\ r <= k /\ r - l <= k - x /\
        (∀ i,i < l -> R ρ (arrOf st') (lo + i) <= R ρ (arrOf st') (lo + k)) /\ (∀ i,r <= i -> i < k -> R ρ (arrOf st') (lo + k) < R ρ (arrOf st') (lo + i)))
      (Q:=fun c st''=>st'' = st' /\ ∃ l r,c = (none,l,r) /\ l <= k /\
        (∀ i,i < l -> R ρ (arrOf st') (lo + i) <= R ρ (arrOf st') (lo + k)) /\ (∀ i,l <= i -> i < k -> R ρ (arrOf st') (lo + k) < R ρ (arrOf st') (lo + i))) ?istep ?ifin ?iinit) ?ipost)
    case iinit=>exact ⟨rfl,0,k,rfl,by omega,by omega,by omega,fun i hi=>by omega,fun i h1 h2=>by omega⟩
    case ifin =>
      rintro c st'' ⟨rfl,l,r,rfl,hlr,hrk,hm,hlo,hhi⟩
      have:l = r:=by omega
      subst this
      exact ⟨rfl,l,l,rfl,hrk,hlo,hhi⟩
    case istep =>
      rintro x c st'' _ hxk ⟨rfl,l,r,rfl,hlr,hrk,hm,hlo,hhi⟩
      dsimp only
      by_cases hge:l >= r
      · rw [if_pos hge]
        have:l = r:=by omega
        subst this
        exact wpS_pure ⟨rfl,l,l,rfl,hrk,hlo,hhi⟩
      · rw [if_neg hge]
        refine wpS_bind (wpS_ltAt hL h0 hB'.si hk (by omega) ?_)
        by_cases hless:R ρ (arrOf st'') (lo + k) < R ρ (arrOf st'') (lo + (l + r) / 2)
        · simp only [hless,decide_true,if_true]
          refine wpS_pure ⟨rfl,l,(l + r) / 2,rfl,by omega,by omega,by omega,hlo,fun i h1 h2=>?_⟩
          exact Nat.lt_of_lt_of_le hless (hs' _ _ (by omega) (by omega) (by omega))
        · simp only [hless,decide_false,Bool.false_eq_true,if_false]
          refine wpS_pure ⟨rfl,(l + r) / 2 + 1,r,rfl,by omega,by omega,by omega,fun i h1=>?_,hhi⟩
          exact Nat.le_trans (hs' (lo + i) (lo + (l + r) / 2) (by omega) (by omega) (by omega)) (Nat.not_lt.mp hless)
    case ipost =>
      rintro c st'' ⟨rfl,l,r,rfl,hlk,hlo,hhi⟩
      show wpS _ _ _ _ (do moveDown' (lo + k) (lo + l);pure (ForInStep.yield (none,()))) _ _
      rw [moveDown'_eq]
      refine wpS_bind (wpS_modify (wpS_pure ⟨rfl,hB'.bubble hk (by omega) (by omega),?_⟩))
      rw [show min (k + 1) n = k + 1 by omega]
      have hks:lo + k < (arrOf st'').size:=by rw [hB'.si.size];exact hk
      intro i j hi hij hj
      show R ρ (bubble (arrOf st'') (lo + k) (lo + k - (lo + l))) i <= R ρ (bubble (arrOf st'') (lo + k) (lo + k - (lo + l))) j
      rw [R_bubble hks (by omega),R_bubble hks (by omega),show lo + k - (lo + k - (lo + l)) = lo + l by omega]
      have hlo':∀ i,lo <= i -> i < lo + l -> R ρ (arrOf st'') i <= R ρ (arrOf st'') (lo + k):=fun i h1 h2=>by
        have:=hlo (i - lo) (by omega);rwa [show lo + (i - lo) = i by omega] at this
      have hhi':∀ i,lo + l <= i -> i < lo + k -> R ρ (arrOf st'') (lo + k) < R ρ (arrOf st'') i:=fun i h1 h2=>by
        have:=hhi (i - lo) (by omega) (by omega);rwa [show lo + (i - lo) = i by omega] at this
      repeat' split
      all_goals first
        | (exfalso;omega)
        | exact Nat.le_refl _
        | exact hlo' _ (by omega) (by omega)
        | exact Nat.le_of_lt (hhi' _ (by omega) (by omega))
        | exact hs' _ _ (by omega) (by omega) (by omega)
noncomputable def gallop':Bool -> Keyed -> Array Keyed -> Nat -> Nat -> Nat -> StateT SortSt Sem (Option Nat):=sortPriv% PySem.Builtin.gallop
noncomputable def beyond' (left:Bool) (key:Keyed) (arr:Array Keyed) (base i:Nat):StateT SortSt Sem (Option Bool):=do
  let x <- elem' arr (base + i)
  if left then lt' x key else return (<- lt' key x).map (!·)
theorem gallop'_eq (left:Bool) (key:Keyed) (arr:Array Keyed) (base n hint:Nat):gallop' left key arr base n hint = (do
  let mut lastofs:=0
  let mut ofs:=1
  let mut lo:=0
  let mut hi:=0
  let some right <- beyond' left key arr base hint | return none
  if right then
    let maxofs:=n - hint
    for _ in [0:n] do
      if ofs >= maxofs then break
      let some more <- beyond' left key arr base (hint + ofs) | return none
      if !more then break
      lastofs:=ofs
      ofs:=2 * ofs + 1
    lo:=hint + lastofs + 1
    hi:=hint + min ofs maxofs
  else
    let maxofs:=hint + 1
    for _ in [0:n] do
      if ofs >= maxofs then break
      let some found <- beyond' left key arr base (hint - ofs) | return none
      if found then break
      lastofs:=ofs
      ofs:=2 * ofs + 1
    lo:=hint + 1 - min ofs maxofs
    hi:=hint - lastofs
  for _ in [0:n] do
    if lo >= hi then break
    let m:=lo + (hi - lo) / 2
    let some more <- beyond' left key arr base m | return none
    if more then lo:=m + 1 else hi:=m
  return some hi):=rfl
end
end Vs

set_option Elab.async false
set_option linter.all false
set_option maxRecDepth 100000
namespace Vs
open PySem PyProof.Rows
section
variable {M:Model} {A:Around} {E:Value -> Shared -> Prop} {s:Shared} {ρ:Keyed -> Nat} {kd:SortKind} {P:Keyed -> Prop} {a₀:Array Keyed}
noncomputable def gFin (left:Bool) (key:Keyed) (arr:Array Keyed) (base n l h:Nat):StateT SortSt Sem (Option Nat):=do
  let mut lo:=l
  let mut hi:=h
  for _ in [0:n] do
    if lo >= hi then break
    let m:=lo + (hi - lo) / 2
    let some more <- beyond' left key arr base m | return none
    if more then lo:=m + 1 else hi:=m
  return some hi
noncomputable def Tells (M:Model) (A:Around) (E:Value -> Shared -> Prop) (s:Shared) (left:Bool) (key:Keyed) (arr:Array Keyed) (base n:Nat) (st:SortSt) (p:Nat -> Bool):Prop :=
  ∀ i,i < n -> ∀ Q:Option Bool -> SortSt -> Prop,Q (some (p i)) st -> wpS M A E s (beyond' left key arr base i) Q st
theorem wpS_gFin {left:Bool} {key:Keyed} {arr:Array Keyed} {base n l h:Nat} {st:SortSt} {p:Nat -> Bool} {Q:Option Nat -> SortSt -> Prop} (hT:Tells M A E s left key arr base n st p) (hp:∀ i j,i <= j -> j < n -> p j = true -> p i = true)
    (hlh:l <= h) (hh:h <= n) (h1:∀ i,i < l -> p i = true) (h2:∀ i,h <= i -> i < n -> p i = false)
    (q:∀ k,k <= n -> (∀ i,i < k -> p i = true) -> (∀ i,k <= i -> i < n -> p i = false) -> Q (some k) st):wpS M A E s (gFin left key arr base n l h) Q st:=by
  unfold gFin
  dsimp only
  refine wpS_bind (wpS_mono (wpS_forRange (I:=fun x c st'=>st' = st /\ ∃ l h,c = (none,l,h) /\ l <= h /\ h <= n /\ h - l <= n - x /\ (∀ i,i < l -> p i = true) /\ (∀ i,h <= i -> i < n -> p i = false))
    (Q:=fun c st'=>st' = st /\ ∃ k,c = (none,k,k) /\ k <= n /\ (∀ i,i < k -> p i = true) /\ (∀ i,k <= i -> i < n -> p i = false)) ?step ?fin ⟨rfl,l,h,rfl,hlh,hh,by omega,h1,h2⟩) ?post)
  case post =>
    rintro c st' ⟨rfl,k,rfl,hk,q1,q2⟩
    exact wpS_pure (q k hk q1 q2)
  case fin =>
    rintro c st' ⟨rfl,l,h,rfl,a1,a2,a3,a4,a5⟩
    have:l = h:=by omega
    subst this
    exact ⟨rfl,l,rfl,a2,a4,a5⟩
  case step =>
    rintro x c st' _ hx ⟨rfl,l,h,rfl,a1,a2,a3,a4,a5⟩
    dsimp only
    by_cases hge:l >= h
    · rw [if_pos hge]
      have:l = h:=by omega
      subst this
      exact wpS_pure ⟨rfl,l,rfl,a2,a4,a5⟩
    · rw [if_neg hge]
      refine wpS_bind (hT _ (by omega) _ ?_)
      cases hm:p (l + (h - l) / 2) with
      | true =>
        simp only [if_true]
        exact wpS_pure ⟨rfl,_,_,rfl,by omega,a2,by omega,fun i hi=>hp i _ (by omega) (by omega) hm,a5⟩
      | false =>
        simp only [Bool.false_eq_true,if_false]
        refine wpS_pure ⟨rfl,_,_,rfl,by omega,by omega,by omega,a4,fun i hi hn=>?_⟩
        cases e:p i with
        | false=>rfl
        | true=>rw [hp _ i hi hn e] at hm;cases hm
theorem wpS_gallop {left:Bool} {key:Keyed} {arr:Array Keyed} {base n hint:Nat} {st:SortSt} {p:Nat -> Bool} {Q:Option Nat -> SortSt -> Prop} (hT:Tells M A E s left key arr base n st p) (hp:∀ i j,i <= j -> j < n -> p j = true -> p i = true) (hn:hint < n)
    (q:∀ k,k <= n -> (∀ i,i < k -> p i = true) -> (∀ i,k <= i -> i < n -> p i = false) -> Q (some k) st):wpS M A E s (gallop' left key arr base n hint) Q st:=by
  rw [gallop'_eq]
  dsimp only
  refine wpS_bind (hT hint hn _ ?_)
  have pf:∀ i j,i <= j -> j < n -> p i = false -> p j = false:=fun i j h1 h2 h3=>by
    cases e:p j with
    | false=>rfl
    | true=>rw [hp i j h1 h2 e] at h3;cases h3
  cases h0:p hint with
  | true =>
    dsimp only
    rw [if_pos rfl]
    refine wpS_bind (wpS_mono (wpS_forRange (I:=fun x c st'=>st' = st /\ ∃ l o,c = (none,l,o) /\ l < o /\ x + 1 <= o /\ hint + l < n /\ p (hint + l) = true)
      (Q:=fun c st'=>st' = st /\ ∃ l o,c = (none,l,o) /\ l < o /\ hint + l < n /\ p (hint + l) = true /\ (n - hint <= o \/ (hint + o < n /\ p (hint + o) = false))) ?step ?fin ⟨rfl,0,1,rfl,by omega,by omega,hn,h0⟩) ?post)
    case fin =>
      rintro c st' ⟨rfl,l,o,rfl,a1,a2,a3,a4⟩
      exact ⟨rfl,l,o,rfl,a1,a3,a4,.inl (by omega)⟩
    case step =>
      rintro x c st' _ hx ⟨rfl,l,o,rfl,a1,a2,a3,a4⟩
      dsimp only
      by_cases hge:o >= n - hint
      · rw [if_pos hge]
        exact wpS_pure ⟨rfl,l,o,rfl,a1,a3,a4,.inl hge⟩
      · rw [if_neg hge]
        refine wpS_bind (hT _ (by omega) _ ?_)
        cases hm:p (hint + o) with
        | true =>
          simp only [Bool.not_true,Bool.false_eq_true,if_false]
          exact wpS_pure ⟨rfl,_,_,rfl,by omega,by omega,by omega,hm⟩
        | false =>
          simp only [Bool.not_false,if_true]
          exact wpS_pure ⟨rfl,_,_,rfl,a1,a3,a4,.inr ⟨by omega,hm⟩⟩
    case post =>
      rintro c st' ⟨rfl,l,o,rfl,a1,a3,a4,a5⟩
      refine wpS_gFin (l:=hint + l + 1) (h:=hint + min o (n - hint)) hT hp (by omega) (by omega) (fun i hi=>hp i _ (by omega) a3 a4) (fun i hi hi2=>?_) q
      rcases a5 with a5 | ⟨a5,a6⟩
      · omega
      · exact pf (hint + o) i (by omega) hi2 a6
  | false =>
    dsimp only
    rw [if_neg (by decide)]
    refine wpS_bind (wpS_mono (wpS_forRange (I:=fun x c st'=>st' = st /\ ∃ l o,c = (none,l,o) /\ l < o /\ x + 1 <= o /\ l <= hint /\ p (hint - l) = false)
      (Q:=fun c st'=>st' = st /\ ∃ l o,c = (none,l,o) /\ l < o /\ l <= hint /\ p (hint - l) = false /\ (hint + 1 <= o \/ (o <= hint /\ p (hint - o) = true))) ?step2 ?fin2 ⟨rfl,0,1,rfl,by omega,by omega,by omega,h0⟩) ?post2)
    case fin2 =>
      rintro c st' ⟨rfl,l,o,rfl,a1,a2,a3,a4⟩
      exact ⟨rfl,l,o,rfl,a1,a3,a4,.inl (by omega)⟩
    case step2 =>
      rintro x c st' _ hx ⟨rfl,l,o,rfl,a1,a2,a3,a4⟩
      dsimp only
      by_cases hge:o >= hint + 1
      · rw [if_pos hge]
        exact wpS_pure ⟨rfl,l,o,rfl,a1,a3,a4,.inl hge⟩
      · rw [if_neg hge]
        refine wpS_bind (hT _ (by omega) _ ?_)
        cases hm:p (hint - o) with
        | true =>
          simp only [if_true]
          exact wpS_pure ⟨rfl,_,_,rfl,a1,a3,a4,.inr ⟨by omega,hm⟩⟩
        | false =>
          simp only [Bool.false_eq_true,if_false]
          exact wpS_pure ⟨rfl,_,_,rfl,by omega,by omega,by omega,hm⟩
    case post2 =>
      rintro c st' ⟨rfl,l,o,rfl,a1,a3,a4,a5⟩
      refine wpS_gFin (l:=hint + 1 - min o (hint + 1)) (h:=hint - l) hT hp (by omega) (by omega) (fun i hi=>?_) (fun i hi hi2=>pf (hint - l) i hi hi2 a4) q
      rcases a5 with a5 | ⟨a5,a6⟩
      · omega
      · exact hp i (hint - o) (by omega) (by omega) a6
noncomputable def byR (ρ:Keyed -> Nat) (left:Bool) (key:Keyed) (arr:Array Keyed) (base i:Nat):Bool:=if left = true then decide (R ρ arr (base + i) < ρ key) else !decide (ρ key < R ρ arr (base + i))
theorem tells {left:Bool} {key:Keyed} {arr:Array Keyed} {base n:Nat} {st:SortSt} (hL:LtH M A E s ρ kd P) (hk:kindOf st = kd) (pk:P key) (pa:∀ i,i < n -> ∃ x,arr[base + i]? = some x /\ P x):Tells M A E s left key arr base n st (byR ρ left key arr base):=fun i hi Q q=>by
  obtain ⟨x,e,px⟩:=pa i hi
  unfold beyond'
  refine wpS_bind (wpS_elem e ?_)
  unfold byR at q
  rw [R_at e] at q
  cases left with
  | true =>
    simp only [if_true] at q ⊢
    exact hL x key st Q px pk hk q
  | false =>
    simp only [Bool.false_eq_true,if_false] at q ⊢
    exact wpS_bind (hL key x st _ pk px hk (wpS_pure q))
end
end Vs

set_option Elab.async false
set_option linter.all false
set_option maxRecDepth 100000
namespace Vs
open PySem PyProof.Rows
noncomputable def mergeLo':Array Keyed -> Array Keyed -> StateT SortSt Sem (Array Keyed):=sortPriv% PySem.Builtin.mergeLo
noncomputable def mergeHi':Array Keyed -> Array Keyed -> StateT SortSt Sem (Array Keyed):=sortPriv% PySem.Builtin.mergeHi
noncomputable def setMin':Nat -> StateT SortSt Sem Unit:=sortPriv% PySem.Builtin.setMinGallop
theorem setMin'_eq (g:Nat):setMin' g = modify (fun st=>SortSt.mk' (kindOf st) (arrOf st) (pendingOf st) g (failedOf st)):=rfl
noncomputable def So (ρ:Keyed -> Nat) (l:List Keyed):Prop:=l.Pairwise fun x y=>ρ x <= ρ y
structure J (ρ:Keyed -> Nat) (L O A B:List Keyed):Prop where
  o:So ρ O
  a:So ρ A
  b:So ρ B
  oa:∀ x ∈ O,∀ y ∈ A,ρ x <= ρ y
  ob:∀ x ∈ O,∀ y ∈ B,ρ x <= ρ y
  p:(O ++ (A ++ B)).Perm L
noncomputable def Good (ρ:Keyed -> Nat) (L r:List Keyed):Prop:=So ρ r /\ r.Perm L
theorem So.app {ρ:Keyed -> Nat} {A B:List Keyed} (h1:So ρ A) (h2:So ρ B) (h:∀ x ∈ A,∀ y ∈ B,ρ x <= ρ y):So ρ (A ++ B):=List.pairwise_append.mpr ⟨h1,h2,h⟩
section
variable {ρ:Keyed -> Nat} {L O A B X:List Keyed} {x z:Keyed}
theorem J.manyA (j:J ρ L O (X ++ A) B) (h:∀ x ∈ X,∀ y ∈ B,ρ x <= ρ y):J ρ L (O ++ X) A B:=by
  obtain ⟨a1,a2,a3⟩:=List.pairwise_append.mp j.a
  refine ⟨j.o.app a1 fun x hx y hy=>j.oa x hx y (List.mem_append_left _ hy),a2,j.b,fun x hx y hy=>?_,fun x hx y hy=>?_,?_⟩
  · rcases List.mem_append.mp hx with hx | hx
    · exact j.oa x hx y (List.mem_append_right _ hy)
    · exact a3 x hx y hy
  · rcases List.mem_append.mp hx with hx | hx
    · exact j.ob x hx y hy
    · exact h x hx y hy
  · have:=j.p
    simpa [List.append_assoc] using this
theorem J.manyB (j:J ρ L O A (X ++ B)) (h:∀ x ∈ X,∀ y ∈ A,ρ x <= ρ y):J ρ L (O ++ X) A B:=by
  obtain ⟨a1,a2,a3⟩:=List.pairwise_append.mp j.b
  refine ⟨j.o.app a1 fun x hx y hy=>j.ob x hx y (List.mem_append_left _ hy),j.a,a2,fun x hx y hy=>?_,fun x hx y hy=>?_,?_⟩
  · rcases List.mem_append.mp hx with hx | hx
    · exact j.oa x hx y hy
    · exact h x hx y hy
  · rcases List.mem_append.mp hx with hx | hx
    · exact j.ob x hx y (List.mem_append_right _ hy)
    · exact a3 x hx y hy
  · refine List.Perm.trans ?_ j.p
    rw [List.append_assoc]
    refine List.Perm.append_left O ?_
    rw [<- List.append_assoc,<- List.append_assoc]
    exact List.Perm.append_right B List.perm_append_comm
theorem J.doneB (j:J ρ L O A []):Good ρ L (O ++ A):=⟨j.o.app j.a j.oa,by simpa using j.p⟩
theorem J.doneA (j:J ρ L O [] B):Good ρ L (O ++ B):=⟨j.o.app j.b j.ob,by simpa using j.p⟩
theorem J.last (j:J ρ L O [z] B) (h:∀ y ∈ B,ρ y <= ρ z):Good ρ L (O ++ B ++ [z]):=by
  refine ⟨(j.o.app j.b j.ob).app (List.pairwise_singleton ..) fun x hx y hy=>?_,?_⟩
  · rw [List.mem_singleton.mp hy]
    rcases List.mem_append.mp hx with hx | hx
    · exact j.oa x hx z (List.mem_singleton.mpr rfl)
    · exact h x hx
  · refine List.Perm.trans ?_ j.p
    rw [List.append_assoc]
    exact List.Perm.append_left O List.perm_append_comm
end
theorem tl_cons {a:Array Keyed} {i:Nat} {x:Keyed} (h:a[i]? = some x):a.toList.drop i = x :: a.toList.drop (i + 1):=by
  have hi:i < a.toList.length:=by
    have:=(Array.getElem?_eq_some_iff.mp h).1
    simpa using this
  rw [List.drop_eq_getElem_cons hi]
  have:a.toList[i] = x:=by
    have:=(Array.getElem?_eq_some_iff.mp h).2
    simpa using this
  rw [this]
theorem tl_all (a:Array Keyed) (i:Nat):(a.extract i a.size).toList = a.toList.drop i:=by
  rw [Array.toList_extract]
  show (a.toList.drop i).take (a.size - i) = _
  exact List.take_of_length_le (by rw [List.length_drop];exact Nat.le_refl _)
theorem tl_some (a:Array Keyed) (i k:Nat):(a.extract i (i + k)).toList = (a.toList.drop i).take k:=by
  rw [Array.toList_extract]
  show (a.toList.drop i).take (i + k - i) = _
  rw [Nat.add_sub_cancel_left]
theorem tl_split (a:Array Keyed) (i k:Nat):a.toList.drop i = (a.toList.drop i).take k ++ a.toList.drop (i + k):=by
  rw [<- List.drop_drop,List.take_append_drop]
theorem tl_nil {a:Array Keyed} {i:Nat} (h:i = a.size):a.toList.drop i = []:=by
  subst h;exact List.drop_length
theorem tl_take_mem {a:Array Keyed} {i k:Nat} {x:Keyed} (h:x ∈ (a.toList.drop i).take k):∃ m,m < k /\ i + m < a.size /\ a[i + m]? = some x:=by
  obtain ⟨m,hm,e⟩:=List.mem_iff_getElem.mp h
  rw [List.length_take,List.length_drop] at hm
  rw [List.getElem_take,List.getElem_drop] at e
  have hs:i + m < a.size:=by have:a.toList.length = a.size:=rfl;omega
  exact ⟨m,by omega,hs,by rw [Array.getElem?_eq_getElem hs];exact congrArg some (by simpa using e)⟩
theorem tl_mem {a:Array Keyed} {i:Nat} {x:Keyed} (h:x ∈ a.toList.drop i):∃ m,i <= m /\ m < a.size /\ a[m]? = some x:=by
  obtain ⟨m,hm,e⟩:=List.mem_iff_getElem.mp h
  rw [List.length_drop] at hm
  rw [List.getElem_drop] at e
  have hs:i + m < a.size:=by have:a.toList.length = a.size:=rfl;omega
  exact ⟨i + m,by omega,hs,by rw [Array.getElem?_eq_getElem hs];exact congrArg some (by simpa using e)⟩
theorem So.seg {ρ:Keyed -> Nat} {a:Array Keyed} (h:So ρ a.toList):Seg ρ a 0 a.size:=fun i j _ hij hj=>by
  by_cases e:i = j
  · subst e;exact Nat.le_refl _
  · have hi:i < a.size:=by omega
    rw [R_at (Array.getElem?_eq_getElem hi),R_at (Array.getElem?_eq_getElem hj)]
    have:=List.pairwise_iff_getElem.mp h i j (by simpa using hi) (by simpa using hj) (by omega)
    simpa using this
structure Kp (st st':SortSt):Prop where
  a:arrOf st' = arrOf st
  k:kindOf st' = kindOf st
  p:pendingOf st' = pendingOf st
  f:failedOf st' = failedOf st
theorem Kp.refl {st:SortSt}:Kp st st:=⟨rfl,rfl,rfl,rfl⟩
theorem Kp.min {st st':SortSt} (h:Kp st st') (g:Nat):Kp st (SortSt.mk' (kindOf st') (arrOf st') (pendingOf st') g (failedOf st')):=⟨h.a,h.k,h.p,h.f⟩
section
variable {M:Model} {A:Around} {E:Value -> Shared -> Prop} {s:Shared} {ρ:Keyed -> Nat} {kd:SortKind} {P:Keyed -> Prop}
theorem at_ex {a:Array Keyed} (pa:∀ x ∈ a.toList,P x) {i:Nat} (h:i < a.size):∃ x,a[i]? = some x /\ P x :=
  ⟨a[i],Array.getElem?_eq_getElem h,pa _ (by simp)⟩
theorem wpS_galR {key:Keyed} {arr:Array Keyed} {base:Nat} {st:SortSt} {Q:Option Nat -> SortSt -> Prop} (hL:LtH M A E s ρ kd P) (hk:kindOf st = kd) (pk:P key) (pa:∀ x ∈ arr.toList,P x) (hs:So ρ arr.toList) (hb:base < arr.size)
    (q:∀ k,base + k <= arr.size -> (∀ x ∈ (arr.toList.drop base).take k,ρ x <= ρ key) -> (∀ x ∈ arr.toList.drop (base + k),ρ key < ρ x) -> Q (some k) st):wpS M A E s (gallop' false key arr base (arr.size - base) 0) Q st:=by
  refine wpS_gallop (tells hL hk pk fun i hi=>at_ex pa (by omega)) (fun i j hij hj h=>?_) (by omega) fun k hk1 h1 h2=>q k (by omega) (fun x hx=>?_) fun x hx=>?_
  · have:=hs.seg (base + i) (base + j) (Nat.zero_le _) (by omega) (by omega)
    simp only [byR,Bool.false_eq_true,if_false,Bool.not_eq_true',decide_eq_false_iff_not] at h ⊢
    omega
  · obtain ⟨m,hm,hm2,e⟩:=tl_take_mem hx
    have:=h1 m hm
    simp only [byR,Bool.false_eq_true,if_false,Bool.not_eq_true',decide_eq_false_iff_not,R_at e] at this
    omega
  · obtain ⟨m,hm,hm2,e⟩:=tl_mem hx
    have:=h2 (m - base) (by omega) (by omega)
    rw [show base + k = base + k from rfl] at hm
    simp only [byR,Bool.false_eq_true,if_false,show base + (m - base) = m by omega,R_at e,Bool.not_eq_false',decide_eq_true_eq] at this
    exact this
theorem wpS_galL {key:Keyed} {arr:Array Keyed} {base:Nat} {st:SortSt} {Q:Option Nat -> SortSt -> Prop} (hL:LtH M A E s ρ kd P) (hk:kindOf st = kd) (pk:P key) (pa:∀ x ∈ arr.toList,P x) (hs:So ρ arr.toList) (hb:base < arr.size)
    (q:∀ k,base + k <= arr.size -> (∀ x ∈ (arr.toList.drop base).take k,ρ x < ρ key) -> (∀ x ∈ arr.toList.drop (base + k),ρ key <= ρ x) -> Q (some k) st):wpS M A E s (gallop' true key arr base (arr.size - base) 0) Q st:=by
  refine wpS_gallop (tells hL hk pk fun i hi=>at_ex pa (by omega)) (fun i j hij hj h=>?_) (by omega) fun k hk1 h1 h2=>q k (by omega) (fun x hx=>?_) fun x hx=>?_
  · have:=hs.seg (base + i) (base + j) (Nat.zero_le _) (by omega) (by omega)
    simp only [byR,if_true,decide_eq_true_eq] at h ⊢
    omega
  · obtain ⟨m,hm,hm2,e⟩:=tl_take_mem hx
    have:=h1 m hm
    simp only [byR,if_true,decide_eq_true_eq,R_at e] at this
    omega
  · obtain ⟨m,hm,hm2,e⟩:=tl_mem hx
    have:=h2 (m - base) (by omega) (by omega)
    simp only [byR,if_true,show base + (m - base) = m by omega,R_at e,decide_eq_false_iff_not] at this
    omega
end
end Vs

set_option Elab.async false
set_option linter.all false
set_option maxRecDepth 100000
namespace Vs
open PySem PyProof.Rows
section
variable {M:Model} {Ar:Around} {E:Value -> Shared -> Prop} {s:Shared} {ρ:Keyed -> Nat} {kd:SortKind} {P:Keyed -> Prop} {a b out:Array Keyed} {L:List Keyed} {ia ib:Nat}
noncomputable abbrev GS:=Option (Array Keyed) × Array Keyed × Nat × Nat × Nat × Nat × Nat
noncomputable def galC (a b out:Array Keyed) (ia ib g k k1:Nat):StateT SortSt Sem (ForInStep GS):=do
  let y <- elem' a ia
  if (ia + 1 + 1 == a.size) = true then pure (ForInStep.done (some (out.push y ++ b.extract ib b.size ++ a.extract (ia + 1) a.size),out.push y,ia + 1,ib,g,k,k1))
  else if (decide (k < 7) && decide (k1 < 7)) = true then pure (ForInStep.done (none,out.push y,ia + 1,ib,g,k,k1))
  else pure (ForInStep.yield (none,out.push y,ia + 1,ib,g,k,k1))
noncomputable def galB (a b out:Array Keyed) (ia ib g k bc:Nat):StateT SortSt Sem (ForInStep GS):=do
  let x <- elem' b ib
  if (ib + 1 == b.size) = true then pure (ForInStep.done (some (out.push x ++ a.extract ia a.size ++ b.extract (ib + 1) b.size),out.push x,ia,ib + 1,g,k,bc))
  else do
    let y <- elem' a ia
    let r <- gallop' true y b (ib + 1) (b.size - (ib + 1)) 0
    match r with
    | some k1 =>
      if k1 > 0 then
        if (ib + 1 + k1 == b.size) = true then pure (ForInStep.done (some (out.push x ++ b.extract (ib + 1) (ib + 1 + k1) ++ a.extract ia a.size ++ b.extract (ib + 1 + k1) b.size),out.push x ++ b.extract (ib + 1) (ib + 1 + k1),ia,ib + 1 + k1,g,k,k1))
        else galC a b (out.push x ++ b.extract (ib + 1) (ib + 1 + k1)) ia (ib + 1 + k1) g k k1
      else galC a b (out.push x) ia (ib + 1) g k k1
    | _=>pure (ForInStep.done (some (out.push x ++ a.extract ia a.size ++ b.extract (ib + 1) b.size),out.push x,ia,ib + 1,g,k,bc))
noncomputable def galA (a b out:Array Keyed) (ia ib g ac bc:Nat):StateT SortSt Sem (ForInStep GS):=do
  let x <- elem' b ib
  let r <- gallop' false x a ia (a.size - ia) 0
  match r with
  | some k =>
    if k > 0 then
      if (ia + k + 1 == a.size) = true then pure (ForInStep.done (some (out ++ a.extract ia (ia + k) ++ b.extract ib b.size ++ a.extract (ia + k) a.size),out ++ a.extract ia (ia + k),ia + k,ib,g,k,bc))
      else if (ia + k == a.size) = true then pure (ForInStep.done (some (out ++ a.extract ia (ia + k) ++ a.extract (ia + k) a.size ++ b.extract ib b.size),out ++ a.extract ia (ia + k),ia + k,ib,g,k,bc))
      else galB a b (out ++ a.extract ia (ia + k)) (ia + k) ib g k bc
    else galB a b out ia ib g k bc
  | _=>pure (ForInStep.done (some (out ++ a.extract ia a.size ++ b.extract ib b.size),out,ia,ib,g,ac,bc))
noncomputable def V (ρ:Keyed -> Nat) (L:List Keyed) (a b out:Array Keyed) (ia ib:Nat):Prop:=J ρ L out.toList (a.toList.drop ia) (b.toList.drop ib)
theorem V.lastA (j:V ρ L a b out ia ib) (e:ia + 1 = a.size) (hz:∀ y ∈ b.toList,∀ z,a[a.size - 1]? = some z -> ρ y <= ρ z):Good ρ L (out ++ b.extract ib b.size ++ a.extract ia a.size).toList:=by
  have ha:ia < a.size:=by omega
  have e1:a.toList.drop ia = [a[ia]]:=by rw [tl_cons (Array.getElem?_eq_getElem ha),tl_nil e]
  have j':J ρ L out.toList (a.toList.drop ia) (b.toList.drop ib):=j
  rw [e1] at j'
  rw [Array.toList_append,Array.toList_append,tl_all,tl_all,e1]
  refine j'.last fun y hy=>hz y (List.mem_of_mem_drop hy) _ ?_
  rw [show a.size - 1 = ia by omega];exact Array.getElem?_eq_getElem ha
theorem V.doneB (j:V ρ L a b out ia ib) (e:ib = b.size):Good ρ L (out ++ a.extract ia a.size ++ b.extract ib b.size).toList:=by
  have j':J ρ L out.toList (a.toList.drop ia) (b.toList.drop ib):=j
  rw [tl_nil e] at j'
  rw [Array.toList_append,Array.toList_append,tl_all,tl_all,tl_nil e,List.append_nil]
  exact j'.doneB
theorem V.doneA (j:V ρ L a b out ia ib) (e:ia = a.size):Good ρ L (out ++ a.extract ia a.size ++ b.extract ib b.size).toList:=by
  have j':J ρ L out.toList (a.toList.drop ia) (b.toList.drop ib):=j
  rw [tl_nil e] at j'
  rw [Array.toList_append,Array.toList_append,tl_all,tl_all,tl_nil e,List.append_nil]
  exact j'.doneA
theorem V.pushA {x:Keyed} (j:V ρ L a b out ia ib) (e:a[ia]? = some x) (h:∀ y ∈ b.toList.drop ib,ρ x <= ρ y):V ρ L a b (out.push x) (ia + 1) ib:=by
  have j':J ρ L out.toList (a.toList.drop ia) (b.toList.drop ib):=j
  rw [tl_cons e] at j'
  show J ρ L (out.push x).toList _ _
  rw [Array.toList_push]
  exact J.manyA (X:=[x]) j' fun z hz y hy=>by rw [List.mem_singleton.mp hz];exact h y hy
theorem V.pushB {x:Keyed} (j:V ρ L a b out ia ib) (e:b[ib]? = some x) (h:∀ y ∈ a.toList.drop ia,ρ x <= ρ y):V ρ L a b (out.push x) ia (ib + 1):=by
  have j':J ρ L out.toList (a.toList.drop ia) (b.toList.drop ib):=j
  rw [tl_cons e] at j'
  show J ρ L (out.push x).toList _ _
  rw [Array.toList_push]
  exact J.manyB (X:=[x]) j' fun z hz y hy=>by rw [List.mem_singleton.mp hz];exact h y hy
theorem V.manyA {k:Nat} (j:V ρ L a b out ia ib) (h:∀ x ∈ (a.toList.drop ia).take k,∀ y ∈ b.toList.drop ib,ρ x <= ρ y):V ρ L a b (out ++ a.extract ia (ia + k)) (ia + k) ib:=by
  have j':J ρ L out.toList (a.toList.drop ia) (b.toList.drop ib):=j
  rw [tl_split a ia k] at j'
  show J ρ L (out ++ a.extract ia (ia + k)).toList _ _
  rw [Array.toList_append,tl_some]
  exact J.manyA j' h
theorem V.manyB {k:Nat} (j:V ρ L a b out ia ib) (h:∀ x ∈ (b.toList.drop ib).take k,∀ y ∈ a.toList.drop ia,ρ x <= ρ y):V ρ L a b (out ++ b.extract ib (ib + k)) ia (ib + k):=by
  have j':J ρ L out.toList (a.toList.drop ia) (b.toList.drop ib):=j
  rw [tl_split b ib k] at j'
  show J ρ L (out ++ b.extract ib (ib + k)).toList _ _
  rw [Array.toList_append,tl_some]
  exact J.manyB j' h
theorem V.headA {x:Keyed} (j:V ρ L a b out ia ib) (e:a[ia]? = some x):∀ y ∈ a.toList.drop ia,ρ x <= ρ y:=fun y hy=>by
  have:=j.a
  rw [tl_cons e] at this hy
  rcases List.mem_cons.mp hy with rfl | hy
  · exact Nat.le_refl _
  · exact (List.pairwise_cons.mp this).1 y hy
theorem V.headB {x:Keyed} (j:V ρ L a b out ia ib) (e:b[ib]? = some x):∀ y ∈ b.toList.drop ib,ρ x <= ρ y:=fun y hy=>by
  have:=j.b
  rw [tl_cons e] at this hy
  rcases List.mem_cons.mp hy with rfl | hy
  · exact Nat.le_refl _
  · exact (List.pairwise_cons.mp this).1 y hy
noncomputable def Left (ρ:Keyed -> Nat) (L:List Keyed) (a b:Array Keyed) (t:Nat) (out:Array Keyed) (ia ib:Nat):Prop:=V ρ L a b out ia ib /\ ia + 1 < a.size /\ ib < b.size /\ t <= ia + ib
noncomputable def PG (ρ:Keyed -> Nat) (L:List Keyed) (a b:Array Keyed) (t:Nat) (st0:SortSt) (r:ForInStep GS) (st:SortSt):Prop:=Kp st0 st /\ match r with
  | .done c=>(∃ arr,c.1 = some arr /\ Good ρ L arr.toList) \/ (c.1 = none /\ Left ρ L a b t c.2.1 c.2.2.1 c.2.2.2.1)
  | .yield c=>c.1 = none /\ Left ρ L a b t c.2.1 c.2.2.1 c.2.2.2.1
structure Two (ρ:Keyed -> Nat) (P:Keyed -> Prop) (a b:Array Keyed):Prop where
  pa:∀ x ∈ a.toList,P x
  pb:∀ x ∈ b.toList,P x
  sa:So ρ a.toList
  sb:So ρ b.toList
  a1:1 <= a.size
  b1:1 <= b.size
  z:∀ y ∈ b.toList,∀ z,a[a.size - 1]? = some z -> ρ y <= ρ z
  y:∀ y ∈ a.toList,∀ z,b[0]? = some z -> ρ z <= ρ y
theorem wpS_galC {st st0:SortSt} {g k k1 t:Nat} (T:Two ρ P a b) (hK:Kp st0 st) (j:V ρ L a b out ia ib) (h1:ia + 1 < a.size) (h2:ib < b.size) (ht:t <= ia + ib)
    (h:∀ x,a[ia]? = some x -> ∀ y ∈ b.toList.drop ib,ρ x <= ρ y):wpS M Ar E s (galC a b out ia ib g k k1) (PG ρ L a b t st0) st:=by
  unfold galC
  obtain ⟨y,ey,py⟩:=at_ex T.pa (show ia < a.size by omega)
  refine wpS_bind (wpS_elem ey ?_)
  have j':=j.pushA ey (h y ey)
  by_cases e:ia + 1 + 1 = a.size
  · rw [if_pos (by simpa using e)]
    exact wpS_pure ⟨hK,.inl ⟨_,rfl,j'.lastA e T.z⟩⟩
  · rw [if_neg (by simpa using e)]
    split
    · exact wpS_pure ⟨hK,.inr ⟨rfl,j',by show ia + 1 + 1 < a.size;omega,h2,by show t <= ia + 1 + ib;omega⟩⟩
    · exact wpS_pure ⟨hK,rfl,j',by show ia + 1 + 1 < a.size;omega,h2,by show t <= ia + 1 + ib;omega⟩
theorem wpS_galB {st st0:SortSt} {g k bc t:Nat} (hL:LtH M Ar E s ρ kd P) (hk:kindOf st0 = kd) (T:Two ρ P a b) (hK:Kp st0 st) (j:V ρ L a b out ia ib) (h1:ia + 1 < a.size) (h2:ib < b.size) (ht:t <= ia + ib)
    (h:∀ x,b[ib]? = some x -> ∀ y ∈ a.toList.drop ia,ρ x <= ρ y):wpS M Ar E s (galB a b out ia ib g k bc) (PG ρ L a b t st0) st:=by
  unfold galB
  obtain ⟨x,ex,px⟩:=at_ex T.pb h2
  obtain ⟨y,ey,py⟩:=at_ex T.pa (show ia < a.size by omega)
  refine wpS_bind (wpS_elem ex ?_)
  have j':=j.pushB ex (h x ex)
  by_cases e:ib + 1 = b.size
  · rw [if_pos (by simpa using e)]
    exact wpS_pure ⟨hK,.inl ⟨_,rfl,j'.doneB e⟩⟩
  · rw [if_neg (by simpa using e)]
    refine wpS_bind (wpS_elem ey ?_)
    refine wpS_bind (wpS_galL hL (hK.k.trans hk) py T.pb T.sb (by omega) fun k1 hk1 q1 q2=>?_)
    dsimp only
    have j2:=j'.manyB (k:=k1) fun x hx z hz=>Nat.le_trans (Nat.le_of_lt (q1 x hx)) (j'.headA ey z hz)
    by_cases hk0:k1 > 0
    · rw [if_pos hk0]
      by_cases e2:ib + 1 + k1 = b.size
      · rw [if_pos (by simpa using e2)]
        exact wpS_pure ⟨hK,.inl ⟨_,rfl,j2.doneB e2⟩⟩
      · rw [if_neg (by simpa using e2)]
        exact wpS_galC T hK j2 h1 (by omega) (by omega) fun x' ex' z hz=>by rw [ey] at ex';cases ex';exact q2 z hz
    · rw [if_neg hk0]
      have:k1 = 0:=by omega
      subst this
      exact wpS_galC T hK j' h1 (by omega) (by omega) fun x' ex' z hz=>by rw [ey] at ex';cases ex';exact q2 z hz
theorem wpS_galA {st st0:SortSt} {g ac bc t:Nat} (hL:LtH M Ar E s ρ kd P) (hk:kindOf st0 = kd) (T:Two ρ P a b) (hK:Kp st0 st) (j:Left ρ L a b t out ia ib):wpS M Ar E s (galA a b out ia ib g ac bc) (PG ρ L a b t st0) st:=by
  obtain ⟨j,h1,h2,ht⟩:=j
  unfold galA
  obtain ⟨x,ex,px⟩:=at_ex T.pb h2
  refine wpS_bind (wpS_elem ex ?_)
  refine wpS_bind (wpS_galR hL (hK.k.trans hk) px T.pa T.sa (by omega) fun k hk1 q1 q2=>?_)
  dsimp only
  have j2:=j.manyA (k:=k) fun z hz y hy=>Nat.le_trans (q1 z hz) (j.headB ex y hy)
  by_cases hk0:k > 0
  · rw [if_pos hk0]
    by_cases e:ia + k + 1 = a.size
    · rw [if_pos (by simpa using e)]
      exact wpS_pure ⟨hK,.inl ⟨_,rfl,j2.lastA e T.z⟩⟩
    · rw [if_neg (by simpa using e)]
      by_cases e2:ia + k = a.size
      · rw [if_pos (by simpa using e2)]
        exact wpS_pure ⟨hK,.inl ⟨_,rfl,j2.doneA e2⟩⟩
      · rw [if_neg (by simpa using e2)]
        exact wpS_galB hL hk T hK j2 (by omega) h2 (by omega) fun x' ex' z hz=>by rw [ex] at ex';cases ex';exact Nat.le_of_lt (q2 z hz)
  · rw [if_neg hk0]
    have:k = 0:=by omega
    subst this
    exact wpS_galB hL hk T hK j h1 h2 ht fun x' ex' z hz=>by rw [ex] at ex';cases ex';exact Nat.le_of_lt (q2 z hz)
noncomputable abbrev IS:=Option (Array Keyed) × Array Keyed × Nat × Nat × Nat × Nat
noncomputable abbrev OS:=Option (Array Keyed) × Array Keyed × Nat × Nat × Nat
noncomputable def loI (a b:Array Keyed) (g:Nat) (c:IS):StateT SortSt Sem (ForInStep IS):=do
  let x <- elem' b c.2.2.2.1
  let y <- elem' a c.2.2.1
  let r <- lt' x y
  match r with
  | some w =>
    if w = true then do
      let x <- elem' b c.2.2.2.1
      if (c.2.2.2.1 + 1 == b.size) = true then pure (ForInStep.done (some (c.2.1.push x ++ a.extract c.2.2.1 a.size ++ b.extract (c.2.2.2.1 + 1) b.size),c.2.1.push x,c.2.2.1,c.2.2.2.1 + 1,0,c.2.2.2.2.2 + 1))
      else if c.2.2.2.2.2 + 1 >= g then pure (ForInStep.done (none,c.2.1.push x,c.2.2.1,c.2.2.2.1 + 1,0,c.2.2.2.2.2 + 1))
      else pure (ForInStep.yield (none,c.2.1.push x,c.2.2.1,c.2.2.2.1 + 1,0,c.2.2.2.2.2 + 1))
    else do
      let y <- elem' a c.2.2.1
      if (c.2.2.1 + 1 + 1 == a.size) = true then pure (ForInStep.done (some (c.2.1.push y ++ b.extract c.2.2.2.1 b.size ++ a.extract (c.2.2.1 + 1) a.size),c.2.1.push y,c.2.2.1 + 1,c.2.2.2.1,c.2.2.2.2.1 + 1,0))
      else if c.2.2.2.2.1 + 1 >= g then pure (ForInStep.done (none,c.2.1.push y,c.2.2.1 + 1,c.2.2.2.1,c.2.2.2.2.1 + 1,0))
      else pure (ForInStep.yield (none,c.2.1.push y,c.2.2.1 + 1,c.2.2.2.1,c.2.2.2.2.1 + 1,0))
  | _=>pure (ForInStep.done (some (c.2.1 ++ a.extract c.2.2.1 a.size ++ b.extract c.2.2.2.1 b.size),c.2.1,c.2.2.1,c.2.2.2.1,c.2.2.2.2.1,c.2.2.2.2.2))
noncomputable def loG (a b:Array Keyed) (c:GS):StateT SortSt Sem (ForInStep GS) :=
  if c.2.2.2.2.1 > 1 then do
    setMin' (c.2.2.2.2.1 - 1)
    galA a b c.2.1 c.2.2.1 c.2.2.2.1 (c.2.2.2.2.1 - 1) c.2.2.2.2.2.1 c.2.2.2.2.2.2
  else do
    setMin' c.2.2.2.2.1
    galA a b c.2.1 c.2.2.1 c.2.2.2.1 c.2.2.2.2.1 c.2.2.2.2.2.1 c.2.2.2.2.2.2
noncomputable def loE (r:GS):StateT SortSt Sem (ForInStep OS) :=
  match r.1 with
  | some arr=>pure (ForInStep.done (some arr,r.2.1,r.2.2.1,r.2.2.2.1,r.2.2.2.2.1))
  | none=>do
    setMin' (r.2.2.2.2.1 + 1)
    pure (ForInStep.yield (none,r.2.1,r.2.2.1,r.2.2.2.1,r.2.2.2.2.1 + 1))
noncomputable def loN (a b:Array Keyed) (g:Nat) (r:IS):StateT SortSt Sem (ForInStep OS) :=
  match r.1 with
  | some arr=>pure (ForInStep.done (some arr,r.2.1,r.2.2.1,r.2.2.2.1,g))
  | none=>do
    liftM (rule "list.sort.gallop")
    let r2 <- forIn [0:a.size + b.size] ((none,r.2.1,r.2.2.1,r.2.2.2.1,g + 1,r.2.2.2.2.1,r.2.2.2.2.2):GS) fun _ t=>loG a b t
    loE r2
noncomputable def loO (a b:Array Keyed) (c:OS):StateT SortSt Sem (ForInStep OS):=do
  let r <- forIn [0:a.size + b.size] ((none,c.2.1,c.2.2.1,c.2.2.2.1,0,0):IS) fun _ r=>loI a b c.2.2.2.2 r
  loN a b c.2.2.2.2 r
noncomputable def loZ (r:OS):StateT SortSt Sem (Array Keyed) :=
  match r.1 with
  | some arr=>pure arr
  | none=>unsupported "internal:list.sort.merge-bound"
theorem mergeLo'_eq2 (a b:Array Keyed):mergeLo' a b = (do
  liftM (rule "list.sort.merge-lo")
  let x <- elem' b 0
  if (1 == b.size) = true then pure (#[x] ++ a.extract 0 a.size ++ b.extract 1 b.size)
  else if (0 + 1 == a.size) = true then pure (#[x] ++ b.extract 1 b.size ++ a.extract 0 a.size)
  else do
    let st <- get
    let r <- forIn [0:a.size + b.size] ((none,#[x],0,1,gallopOf st):OS) fun _ r=>loO a b r
    loZ r):=by kernel_rfl
theorem wpS_loI {st0 st:SortSt} {g n m:Nat} {c:IS} (hL:LtH M Ar E s ρ kd P) (hk:kindOf st0 = kd) (T:Two ρ P a b) (hK:Kp st0 st) (j:Left ρ L a b (n + 1 + min m 1) c.2.1 c.2.2.1 c.2.2.2.1) :
    wpS M Ar E s (loI a b g c) (fun r st'=>Kp st0 st' /\ match r with
      | .done c=>(∃ arr,c.1 = some arr /\ Good ρ L arr.toList) \/ (c.1 = none /\ Left ρ L a b (n + 1 + 1) c.2.1 c.2.2.1 c.2.2.2.1)
      | .yield c=>c.1 = none /\ Left ρ L a b (n + 1 + min (m + 1) 1) c.2.1 c.2.2.1 c.2.2.2.1) st:=by
  obtain ⟨ret,out,ia,ib,ac,bc⟩:=c
  obtain ⟨j,l1,l2,l3⟩:=j
  dsimp only at j l1 l2 l3
  unfold loI
  dsimp only
  obtain ⟨x,ex,px⟩:=at_ex T.pb l2
  obtain ⟨y,ey,py⟩:=at_ex T.pa (show ia < a.size by omega)
  refine wpS_bind (wpS_elem ex (wpS_bind (wpS_elem ey (wpS_bind (hL x y st _ px py (hK.k.trans hk) ?_)))))
  by_cases hlt:ρ x < ρ y
  · rw [decide_eq_true hlt]
    refine wpS_bind (wpS_elem ex ?_)
    have j':=j.pushB ex fun z hz=>Nat.le_trans (Nat.le_of_lt hlt) (j.headA ey z hz)
    by_cases e:ib + 1 = b.size
    · rw [if_pos (by simpa using e)]
      exact wpS_pure ⟨hK,.inl ⟨_,rfl,j'.doneB e⟩⟩
    · rw [if_neg (by simpa using e)]
      split
      · exact wpS_pure ⟨hK,.inr ⟨rfl,j',by show ia + 1 < a.size;omega,by show ib + 1 < b.size;omega,by show n + 1 + 1 <= ia + (ib + 1);omega⟩⟩
      · exact wpS_pure ⟨hK,rfl,j',by show ia + 1 < a.size;omega,by show ib + 1 < b.size;omega,by show n + 1 + min (m + 1) 1 <= ia + (ib + 1);omega⟩
  · rw [decide_eq_false hlt]
    refine wpS_bind (wpS_elem ey ?_)
    have j':=j.pushA ey fun z hz=>Nat.le_trans (Nat.not_lt.mp hlt) (j.headB ex z hz)
    by_cases e:ia + 1 + 1 = a.size
    · rw [if_pos (by simpa using e)]
      exact wpS_pure ⟨hK,.inl ⟨_,rfl,j'.lastA e T.z⟩⟩
    · rw [if_neg (by simpa using e)]
      split
      · exact wpS_pure ⟨hK,.inr ⟨rfl,j',by show ia + 1 + 1 < a.size;omega,by show ib < b.size;omega,by show n + 1 + 1 <= ia + 1 + ib;omega⟩⟩
      · exact wpS_pure ⟨hK,rfl,j',by show ia + 1 + 1 < a.size;omega,by show ib < b.size;omega,by show n + 1 + min (m + 1) 1 <= ia + 1 + ib;omega⟩
theorem wpS_loG {st0 st:SortSt} {t:Nat} {c:GS} (hL:LtH M Ar E s ρ kd P) (hk:kindOf st0 = kd) (T:Two ρ P a b) (hK:Kp st0 st) (j:Left ρ L a b t c.2.1 c.2.2.1 c.2.2.2.1):wpS M Ar E s (loG a b c) (PG ρ L a b t st0) st:=by
  unfold loG
  split
  · rw [setMin'_eq]
    exact wpS_bind (wpS_modify (wpS_galA hL hk T (hK.min _) j))
  · rw [setMin'_eq]
    exact wpS_bind (wpS_modify (wpS_galA hL hk T (hK.min _) j))
noncomputable def PO (ρ:Keyed -> Nat) (L:List Keyed) (a b:Array Keyed) (t:Nat) (st0:SortSt) (r:ForInStep OS) (st:SortSt):Prop:=match r with
  | .done c=>Kp st0 st /\ ∃ arr,c.1 = some arr /\ Good ρ L arr.toList
  | .yield c=>Kp st0 st /\ c.1 = none /\ Left ρ L a b t c.2.1 c.2.2.1 c.2.2.2.1
theorem wpS_loN {st0 st:SortSt} {g n:Nat} {r:IS} (hL:LtH M Ar E s ρ kd P) (hk:kindOf st0 = kd) (T:Two ρ P a b) (hK:Kp st0 st)
    (h:(∃ arr,r.1 = some arr /\ Good ρ L arr.toList) \/ (r.1 = none /\ Left ρ L a b (n + 1 + 1) r.2.1 r.2.2.1 r.2.2.2.1)):wpS M Ar E s (loN a b g r) (PO ρ L a b (n + 1 + 1) st0) st:=by
  obtain ⟨ret,r⟩:=r
  unfold loN
  rcases h with ⟨arr,h1,h2⟩ | ⟨h1,hl⟩
  · dsimp only at h1
    subst h1
    exact wpS_pure ⟨hK,arr,rfl,h2⟩
  · dsimp only at h1 hl
    subst h1
    refine wpS_bind (wpS_lift (wpAny_rule ⟨rfl,?_⟩))
    refine wpS_bind (wpS_mono (wpS_forRange (I:=fun x c st'=>Kp st0 st' /\ c.1 = none /\ Left ρ L a b (n + 1 + 1) c.2.1 c.2.2.1 c.2.2.2.1)
      (Q:=fun c st'=>Kp st0 st' /\ ((∃ arr,c.1 = some arr /\ Good ρ L arr.toList) \/ (c.1 = none /\ Left ρ L a b (n + 1 + 1) c.2.1 c.2.2.1 c.2.2.2.1))) ?gstep ?gfin ⟨hK,rfl,hl⟩) ?gpost)
    case gfin =>
      rintro c st' ⟨hK,h1,hl⟩
      exact ⟨hK,.inr ⟨h1,hl⟩⟩
    case gstep =>
      rintro m c st' _ hm ⟨hK,h1,hl⟩
      refine wpS_mono (wpS_loG hL hk T hK hl) fun r st'' hr=>?_
      obtain ⟨k1,k2⟩:=hr
      cases r with
      | done c=>exact ⟨k1,k2⟩
      | yield c=>exact ⟨k1,k2⟩
    case gpost =>
      rintro ⟨ret,r⟩ st' ⟨hK,⟨arr,h1,h2⟩ | ⟨h1,hl⟩⟩
      · dsimp only at h1
        subst h1
        exact wpS_pure ⟨hK,arr,rfl,h2⟩
      · dsimp only at h1 hl
        subst h1
        unfold loE
        rw [setMin'_eq]
        exact wpS_bind (wpS_modify (wpS_pure ⟨hK.min _,rfl,hl⟩))
theorem wpS_loO {st0 st:SortSt} {n:Nat} {c:OS} (hL:LtH M Ar E s ρ kd P) (hk:kindOf st0 = kd) (T:Two ρ P a b) (hn:0 < a.size + b.size) (hK:Kp st0 st) (hl:Left ρ L a b (n + 1) c.2.1 c.2.2.1 c.2.2.2.1):wpS M Ar E s (loO a b c) (PO ρ L a b (n + 1 + 1) st0) st:=by
  unfold loO
  refine wpS_bind (wpS_mono (wpS_forRange (I:=fun x c st'=>Kp st0 st' /\ c.1 = none /\ Left ρ L a b (n + 1 + min x 1) c.2.1 c.2.2.1 c.2.2.2.1)
    (Q:=fun c st'=>Kp st0 st' /\ ((∃ arr,c.1 = some arr /\ Good ρ L arr.toList) \/ (c.1 = none /\ Left ρ L a b (n + 1 + 1) c.2.1 c.2.2.1 c.2.2.2.1))) ?istep ?ifin ⟨hK,rfl,by simpa using hl⟩) ?ipost)
  case ifin =>
    rintro c st' ⟨hK,h1,hl⟩
    rw [show min (max 0 (a.size + b.size)) 1 = 1 by omega] at hl
    exact ⟨hK,.inr ⟨h1,hl⟩⟩
  case istep =>
    rintro m c st' _ hm ⟨hK,h1,hl⟩
    refine wpS_mono (wpS_loI hL hk T hK hl) fun r st'' hr=>?_
    obtain ⟨k1,k2⟩:=hr
    cases r with
    | done c=>exact ⟨k1,k2⟩
    | yield c=>exact ⟨k1,k2⟩
  case ipost =>
    rintro r st' ⟨hK,h⟩
    exact wpS_loN hL hk T hK h
theorem wpS_mergeLo {st:SortSt} {Q:Array Keyed -> SortSt -> Prop} (hL:LtH M Ar E s ρ kd P) (hk:kindOf st = kd) (T:Two ρ P a b)
    (q:∀ r st',Kp st st' -> Good ρ (a.toList ++ b.toList) r.toList -> Q r st'):wpS M Ar E s (mergeLo' a b) Q st:=by
  rw [mergeLo'_eq2]
  refine wpS_bind (wpS_lift (wpAny_rule ⟨rfl,?_⟩))
  obtain ⟨x,ex,px⟩:=at_ex T.pb (show 0 < b.size from T.b1)
  refine wpS_bind (wpS_elem ex ?_)
  have j0:V ρ (a.toList ++ b.toList) a b #[] 0 0:=⟨List.Pairwise.nil,by simpa using T.sa,by simpa using T.sb,(fun x hx=>by cases hx),(fun x hx=>by cases hx),by simp⟩
  have j1:V ρ (a.toList ++ b.toList) a b #[x] 0 1:=by simpa using j0.pushB ex fun y hy=>T.y y (by simpa using hy) x ex
  by_cases e:1 = b.size
  · rw [if_pos (by simpa using e)]
    exact wpS_pure (q _ st .refl (j1.doneB e))
  · rw [if_neg (by simpa using e)]
    by_cases e2:0 + 1 = a.size
    · rw [if_pos (by simpa using e2)]
      exact wpS_pure (q _ st .refl (j1.lastA e2 T.z))
    · rw [if_neg (by simpa using e2)]
      have b1:=T.b1
      have a1:=T.a1
      refine wpS_bind (wpS_get ?_)
      refine wpS_bind (wpS_mono (wpS_forRange (I:=fun x c st'=>Kp st st' /\ c.1 = none /\ Left ρ (a.toList ++ b.toList) a b (x + 1) c.2.1 c.2.2.1 c.2.2.2.1)
        (Q:=fun c st'=>Kp st st' /\ ∃ arr,c.1 = some arr /\ Good ρ (a.toList ++ b.toList) arr.toList) ?step ?fin ⟨.refl,rfl,j1,by show 0 + 1 < a.size;omega,by show 1 < b.size;omega,by show 0 + 1 <= 0 + 1;omega⟩) ?post)
      case fin =>
        rintro ⟨ret,out,ia,ib,g⟩ st' ⟨hK,h1,j,h2,h3,h4⟩
        dsimp only at h2 h3 h4
        omega
      case post =>
        rintro ⟨ret,r⟩ st' ⟨hK,arr,h1,h2⟩
        dsimp only at h1
        subst h1
        exact wpS_pure (q arr st' hK h2)
      case step =>
        rintro n c st' _ hn ⟨hK,h1,hl⟩
        refine wpS_mono (wpS_loO hL hk T (by omega) hK hl) fun r st'' hr=>?_
        cases r with
        | done c=>exact hr
        | yield c=>exact hr
end
end Vs

set_option Elab.async false
set_option linter.all false
set_option maxRecDepth 100000
namespace Vs
open PySem PyProof.Rows
structure H (ρ:Keyed -> Nat) (L O A B:List Keyed):Prop where
  o:So ρ O
  a:So ρ A
  b:So ρ B
  oa:∀ x ∈ A,∀ y ∈ O,ρ x <= ρ y
  ob:∀ x ∈ B,∀ y ∈ O,ρ x <= ρ y
  p:(A ++ (B ++ O)).Perm L
section
variable {ρ:Keyed -> Nat} {L O A B X:List Keyed} {x z:Keyed}
theorem H.manyB (j:H ρ L O A (B ++ X)) (h:∀ x ∈ X,∀ y ∈ A,ρ y <= ρ x):H ρ L (X ++ O) A B:=by
  obtain ⟨a1,a2,a3⟩:=List.pairwise_append.mp j.b
  refine ⟨So.app a2 j.o fun x hx y hy=>j.ob x (List.mem_append_right _ hx) y hy,j.a,a1,fun x hx y hy=>?_,fun x hx y hy=>?_,?_⟩
  · rcases List.mem_append.mp hy with hy | hy
    · exact h y hy x hx
    · exact j.oa x hx y hy
  · rcases List.mem_append.mp hy with hy | hy
    · exact a3 x hx y hy
    · exact j.ob x (List.mem_append_left _ hx) y hy
  · have:=j.p
    simpa [List.append_assoc] using this
theorem H.manyA (j:H ρ L O (A ++ X) B) (h:∀ x ∈ X,∀ y ∈ B,ρ y <= ρ x):H ρ L (X ++ O) A B:=by
  obtain ⟨a1,a2,a3⟩:=List.pairwise_append.mp j.a
  refine ⟨So.app a2 j.o fun x hx y hy=>j.oa x (List.mem_append_right _ hx) y hy,a1,j.b,fun x hx y hy=>?_,fun x hx y hy=>?_,?_⟩
  · rcases List.mem_append.mp hy with hy | hy
    · exact a3 x hx y hy
    · exact j.oa x (List.mem_append_left _ hx) y hy
  · rcases List.mem_append.mp hy with hy | hy
    · exact h y hy x hx
    · exact j.ob x hx y hy
  · refine List.Perm.trans ?_ j.p
    rw [List.append_assoc]
    refine List.Perm.append_left A ?_
    rw [<- List.append_assoc,<- List.append_assoc]
    exact List.Perm.append_right O List.perm_append_comm
theorem H.doneB (j:H ρ L O A []):Good ρ L (A ++ O):=⟨So.app j.a j.o j.oa,by simpa using j.p⟩
theorem H.doneA (j:H ρ L O [] B):Good ρ L (B ++ O):=⟨So.app j.b j.o j.ob,by simpa using j.p⟩
theorem H.first (j:H ρ L O A [z]) (h:∀ y ∈ A,ρ z <= ρ y):Good ρ L ([z] ++ A ++ O):=by
  refine ⟨So.app (So.app (List.pairwise_singleton ..) j.a fun x hx y hy=>by rw [List.mem_singleton.mp hx];exact h y hy) j.o fun x hx y hy=>?_,?_⟩
  · rcases List.mem_append.mp hx with hx | hx
    · exact j.ob x hx y hy
    · exact j.oa x hx y hy
  · refine List.Perm.trans ?_ j.p
    rw [<- List.append_assoc]
    exact List.Perm.append_right O List.perm_append_comm
end
theorem tk_snoc {a:Array Keyed} {n:Nat} {x:Keyed} (h1:1 <= n) (h:a[n - 1]? = some x):a.toList.take n = a.toList.take (n - 1) ++ [x]:=by
  obtain ⟨m,rfl⟩:∃ m,n = m + 1:=⟨n - 1,by omega⟩
  rw [Nat.add_sub_cancel] at h ⊢
  rw [List.take_add_one]
  have:a.toList[m]? = some x:=by simpa using h
  rw [this];rfl
theorem tk_all (a:Array Keyed) (n:Nat):(a.extract 0 n).toList = a.toList.take n:=by
  rw [Array.toList_extract];rfl
theorem tk_some (a:Array Keyed) (i n:Nat):(a.extract i n).toList = (a.toList.take n).drop i:=by
  rw [Array.toList_extract]
  show (a.toList.drop i).take (n - i) = _
  rw [List.drop_take]
theorem tk_split (a:Array Keyed) {i n:Nat} (h:i <= n):a.toList.take n = a.toList.take i ++ (a.toList.take n).drop i:=by
  have:=(List.take_append_drop i (a.toList.take n)).symm
  rwa [List.take_take,Nat.min_eq_left h] at this
theorem tk_mem {a:Array Keyed} {n:Nat} {x:Keyed} (h:x ∈ a.toList.take n):∃ m,m < n /\ m < a.size /\ a[m]? = some x:=by
  obtain ⟨m,hm,e⟩:=List.mem_iff_getElem.mp h
  rw [List.length_take] at hm
  rw [List.getElem_take] at e
  have hs:m < a.size:=by have:a.toList.length = a.size:=rfl;omega
  exact ⟨m,by omega,hs,by rw [Array.getElem?_eq_getElem hs];exact congrArg some (by simpa using e)⟩
theorem tk_drop_mem {a:Array Keyed} {i n:Nat} {x:Keyed} (h:x ∈ (a.toList.take n).drop i):∃ m,i <= m /\ m < n /\ m < a.size /\ a[m]? = some x:=by
  obtain ⟨m,hm,e⟩:=List.mem_iff_getElem.mp h
  rw [List.length_drop,List.length_take] at hm
  rw [List.getElem_drop,List.getElem_take] at e
  have hs:i + m < a.size:=by have:a.toList.length = a.size:=rfl;omega
  exact ⟨i + m,by omega,by omega,hs,by rw [Array.getElem?_eq_getElem hs];exact congrArg some (by simpa using e)⟩
section
variable {M:Model} {Ar:Around} {E:Value -> Shared -> Prop} {s:Shared} {ρ:Keyed -> Nat} {kd:SortKind} {P:Keyed -> Prop} {a b out:Array Keyed} {L:List Keyed} {na nb:Nat}
theorem wpS_gphR {key:Keyed} {arr:Array Keyed} {n:Nat} {st:SortSt} {Q:Option Nat -> SortSt -> Prop} (hL:LtH M Ar E s ρ kd P) (hk:kindOf st = kd) (pk:P key) (pa:∀ x ∈ arr.toList,P x) (hs:So ρ arr.toList) (hn:n <= arr.size) (h1:1 <= n)
    (q:∀ k,k <= n -> (∀ x ∈ arr.toList.take k,ρ x <= ρ key) -> (∀ x ∈ (arr.toList.take n).drop k,ρ key < ρ x) -> Q (some k) st):wpS M Ar E s (gallop' false key arr 0 n (n - 1)) Q st:=by
  refine wpS_gallop (tells hL hk pk fun i hi=>at_ex pa (by omega)) (fun i j hij hj h=>?_) (by omega) fun k hk1 h1 h2=>q k (by omega) (fun x hx=>?_) fun x hx=>?_
  · have:=hs.seg (0 + i) (0 + j) (Nat.zero_le _) (by omega) (by omega)
    simp only [byR,Bool.false_eq_true,if_false,Bool.not_eq_true',decide_eq_false_iff_not] at h ⊢
    omega
  · obtain ⟨m,hm,hm2,e⟩:=tk_mem hx
    have:=h1 m hm
    simp only [byR,Bool.false_eq_true,if_false,Bool.not_eq_true',decide_eq_false_iff_not,Nat.zero_add,R_at e] at this
    omega
  · obtain ⟨m,hm,hm2,hm3,e⟩:=tk_drop_mem hx
    have:=h2 m hm hm2
    simp only [byR,Bool.false_eq_true,if_false,Nat.zero_add,R_at e,Bool.not_eq_false',decide_eq_true_eq] at this
    exact this
theorem wpS_gphL {key:Keyed} {arr:Array Keyed} {n:Nat} {st:SortSt} {Q:Option Nat -> SortSt -> Prop} (hL:LtH M Ar E s ρ kd P) (hk:kindOf st = kd) (pk:P key) (pa:∀ x ∈ arr.toList,P x) (hs:So ρ arr.toList) (hn:n <= arr.size) (h1:1 <= n)
    (q:∀ k,k <= n -> (∀ x ∈ arr.toList.take k,ρ x < ρ key) -> (∀ x ∈ (arr.toList.take n).drop k,ρ key <= ρ x) -> Q (some k) st):wpS M Ar E s (gallop' true key arr 0 n (n - 1)) Q st:=by
  refine wpS_gallop (tells hL hk pk fun i hi=>at_ex pa (by omega)) (fun i j hij hj h=>?_) (by omega) fun k hk1 h1 h2=>q k (by omega) (fun x hx=>?_) fun x hx=>?_
  · have:=hs.seg (0 + i) (0 + j) (Nat.zero_le _) (by omega) (by omega)
    simp only [byR,if_true,decide_eq_true_eq] at h ⊢
    omega
  · obtain ⟨m,hm,hm2,e⟩:=tk_mem hx
    have:=h1 m hm
    simp only [byR,if_true,decide_eq_true_eq,Nat.zero_add,R_at e] at this
    omega
  · obtain ⟨m,hm,hm2,hm3,e⟩:=tk_drop_mem hx
    have:=h2 m hm hm2
    simp only [byR,if_true,Nat.zero_add,R_at e,decide_eq_false_iff_not] at this
    omega
noncomputable abbrev HS:=Option (Array Keyed) × Nat × Nat × Array Keyed × Nat × Nat × Nat
noncomputable def gahC (a b out:Array Keyed) (na nb g k k1:Nat):StateT SortSt Sem (ForInStep HS):=do
  let y <- elem' a (na - 1)
  if (na - 1 == 0) = true then pure (ForInStep.done (some (a.extract 0 (na - 1) ++ b.extract 0 nb ++ (out.push y).reverse),na - 1,nb,out.push y,g,k,k1))
  else if (decide (k < 7) && decide (k1 < 7)) = true then pure (ForInStep.done (none,na - 1,nb,out.push y,g,k,k1))
  else pure (ForInStep.yield (none,na - 1,nb,out.push y,g,k,k1))
noncomputable def gahB (a b out:Array Keyed) (na nb g k bc:Nat):StateT SortSt Sem (ForInStep HS):=do
  let x <- elem' b (nb - 1)
  if (nb - 1 == 1) = true then pure (ForInStep.done (some (b.extract 0 (nb - 1) ++ a.extract 0 na ++ (out.push x).reverse),na,nb - 1,out.push x,g,k,bc))
  else do
    let y <- elem' a (na - 1)
    let r <- gallop' true y b 0 (nb - 1) (nb - 1 - 1)
    match r with
    | some at2 =>
      if nb - 1 - at2 > 0 then
        if (at2 == 1) = true then pure (ForInStep.done (some (b.extract 0 at2 ++ a.extract 0 na ++ (out.push x ++ (b.extract at2 (nb - 1)).reverse).reverse),na,at2,out.push x ++ (b.extract at2 (nb - 1)).reverse,g,k,nb - 1 - at2))
        else if (at2 == 0) = true then pure (ForInStep.done (some (a.extract 0 na ++ b.extract 0 at2 ++ (out.push x ++ (b.extract at2 (nb - 1)).reverse).reverse),na,at2,out.push x ++ (b.extract at2 (nb - 1)).reverse,g,k,nb - 1 - at2))
        else gahC a b (out.push x ++ (b.extract at2 (nb - 1)).reverse) na at2 g k (nb - 1 - at2)
      else gahC a b (out.push x) na (nb - 1) g k (nb - 1 - at2)
    | _=>pure (ForInStep.done (some (a.extract 0 na ++ b.extract 0 (nb - 1) ++ (out.push x).reverse),na,nb - 1,out.push x,g,k,bc))
noncomputable def gahA (a b out:Array Keyed) (na nb g ac bc:Nat):StateT SortSt Sem (ForInStep HS):=do
  let x <- elem' b (nb - 1)
  let r <- gallop' false x a 0 na (na - 1)
  match r with
  | some at1 =>
    if na - at1 > 0 then
      if (at1 == 0) = true then pure (ForInStep.done (some (a.extract 0 at1 ++ b.extract 0 nb ++ (out ++ (a.extract at1 na).reverse).reverse),at1,nb,out ++ (a.extract at1 na).reverse,g,na - at1,bc))
      else gahB a b (out ++ (a.extract at1 na).reverse) at1 nb g (na - at1) bc
    else gahB a b out na nb g (na - at1) bc
  | _=>pure (ForInStep.done (some (a.extract 0 na ++ b.extract 0 nb ++ out.reverse),na,nb,out,g,ac,bc))
noncomputable def W (ρ:Keyed -> Nat) (L:List Keyed) (a b out:Array Keyed) (na nb:Nat):Prop:=H ρ L out.toList.reverse (a.toList.take na) (b.toList.take nb)
theorem W.firstB (j:W ρ L a b out na nb) (e:nb = 1) (hb:1 <= b.size) (hz:∀ y ∈ a.toList,∀ z,b[0]? = some z -> ρ z <= ρ y):Good ρ L (b.extract 0 nb ++ a.extract 0 na ++ out.reverse).toList:=by
  subst e
  have eb:b[0]? = some b[0]:=Array.getElem?_eq_getElem hb
  have e1:b.toList.take 1 = [b[0]]:=by rw [tk_snoc (Nat.le_refl 1) eb];rfl
  have j':H ρ L out.toList.reverse (a.toList.take na) (b.toList.take 1):=j
  rw [e1] at j'
  rw [Array.toList_append,Array.toList_append,tk_all,tk_all,e1,Array.toList_reverse]
  exact j'.first fun y hy=>hz y (List.mem_of_mem_take hy) _ eb
theorem W.doneA (j:W ρ L a b out na nb) (e:na = 0):Good ρ L (a.extract 0 na ++ b.extract 0 nb ++ out.reverse).toList:=by
  subst e
  have j':H ρ L out.toList.reverse [] (b.toList.take nb):=j
  rw [Array.toList_append,Array.toList_append,tk_all,tk_all,Array.toList_reverse]
  exact j'.doneA
theorem W.doneB (j:W ρ L a b out na nb) (e:nb = 0):Good ρ L (a.extract 0 na ++ b.extract 0 nb ++ out.reverse).toList:=by
  subst e
  have j':H ρ L out.toList.reverse (a.toList.take na) []:=j
  rw [Array.toList_append,Array.toList_append,tk_all,tk_all,Array.toList_reverse,List.take_zero,List.append_nil]
  exact j'.doneB
theorem W.pushA {x:Keyed} (j:W ρ L a b out na nb) (h1:1 <= na) (e:a[na - 1]? = some x) (h:∀ y ∈ b.toList.take nb,ρ y <= ρ x):W ρ L a b (out.push x) (na - 1) nb:=by
  have j':H ρ L out.toList.reverse (a.toList.take na) (b.toList.take nb):=j
  rw [tk_snoc h1 e] at j'
  show H ρ L (out.push x).toList.reverse _ _
  rw [Array.toList_push,List.reverse_append]
  exact H.manyA (X:=[x]) j' fun z hz y hy=>by rw [List.mem_singleton.mp hz];exact h y hy
theorem W.pushB {x:Keyed} (j:W ρ L a b out na nb) (h1:1 <= nb) (e:b[nb - 1]? = some x) (h:∀ y ∈ a.toList.take na,ρ y <= ρ x):W ρ L a b (out.push x) na (nb - 1):=by
  have j':H ρ L out.toList.reverse (a.toList.take na) (b.toList.take nb):=j
  rw [tk_snoc h1 e] at j'
  show H ρ L (out.push x).toList.reverse _ _
  rw [Array.toList_push,List.reverse_append]
  exact H.manyB (X:=[x]) j' fun z hz y hy=>by rw [List.mem_singleton.mp hz];exact h y hy
theorem W.manyA {k:Nat} (j:W ρ L a b out na nb) (hk:k <= na) (h:∀ x ∈ (a.toList.take na).drop k,∀ y ∈ b.toList.take nb,ρ y <= ρ x):W ρ L a b (out ++ (a.extract k na).reverse) k nb:=by
  have j':H ρ L out.toList.reverse (a.toList.take na) (b.toList.take nb):=j
  rw [tk_split a hk] at j'
  show H ρ L (out ++ (a.extract k na).reverse).toList.reverse _ _
  rw [Array.toList_append,List.reverse_append,Array.toList_reverse,List.reverse_reverse,tk_some]
  exact H.manyA j' h
theorem W.manyB {k:Nat} (j:W ρ L a b out na nb) (hk:k <= nb) (h:∀ x ∈ (b.toList.take nb).drop k,∀ y ∈ a.toList.take na,ρ y <= ρ x):W ρ L a b (out ++ (b.extract k nb).reverse) na k:=by
  have j':H ρ L out.toList.reverse (a.toList.take na) (b.toList.take nb):=j
  rw [tk_split b hk] at j'
  show H ρ L (out ++ (b.extract k nb).reverse).toList.reverse _ _
  rw [Array.toList_append,List.reverse_append,Array.toList_reverse,List.reverse_reverse,tk_some]
  exact H.manyB j' h
theorem W.endA {x:Keyed} (j:W ρ L a b out na nb) (h1:1 <= na) (e:a[na - 1]? = some x):∀ y ∈ a.toList.take na,ρ y <= ρ x:=fun y hy=>by
  have:=j.a
  rw [tk_snoc h1 e] at this hy
  rcases List.mem_append.mp hy with hy | hy
  · exact (List.pairwise_append.mp this).2.2 y hy x (List.mem_singleton.mpr rfl)
  · rw [List.mem_singleton.mp hy];exact Nat.le_refl _
theorem W.endB {x:Keyed} (j:W ρ L a b out na nb) (h1:1 <= nb) (e:b[nb - 1]? = some x):∀ y ∈ b.toList.take nb,ρ y <= ρ x:=fun y hy=>by
  have:=j.b
  rw [tk_snoc h1 e] at this hy
  rcases List.mem_append.mp hy with hy | hy
  · exact (List.pairwise_append.mp this).2.2 y hy x (List.mem_singleton.mpr rfl)
  · rw [List.mem_singleton.mp hy];exact Nat.le_refl _
noncomputable def LeftH (ρ:Keyed -> Nat) (L:List Keyed) (a b:Array Keyed) (t:Nat) (out:Array Keyed) (na nb:Nat):Prop:=W ρ L a b out na nb /\ 1 <= na /\ 2 <= nb /\ na <= a.size /\ nb <= b.size /\ na + nb + t <= a.size + b.size
noncomputable def PH (ρ:Keyed -> Nat) (L:List Keyed) (a b:Array Keyed) (t:Nat) (st0:SortSt) (r:ForInStep HS) (st:SortSt):Prop:=Kp st0 st /\ match r with
  | .done c=>(∃ arr,c.1 = some arr /\ Good ρ L arr.toList) \/ (c.1 = none /\ LeftH ρ L a b t c.2.2.2.1 c.2.1 c.2.2.1)
  | .yield c=>c.1 = none /\ LeftH ρ L a b t c.2.2.2.1 c.2.1 c.2.2.1
theorem wpS_gahC {st st0:SortSt} {g k k1 t:Nat} (T:Two ρ P a b) (hK:Kp st0 st) (j:W ρ L a b out na nb) (h1:1 <= na) (h2:2 <= nb) (h3:na <= a.size) (h4:nb <= b.size) (ht:na + nb + t <= a.size + b.size)
    (h:∀ x,a[na - 1]? = some x -> ∀ y ∈ b.toList.take nb,ρ y <= ρ x):wpS M Ar E s (gahC a b out na nb g k k1) (PH ρ L a b t st0) st:=by
  unfold gahC
  obtain ⟨y,ey,py⟩:=at_ex T.pa (show na - 1 < a.size by omega)
  refine wpS_bind (wpS_elem ey ?_)
  have j':=j.pushA h1 ey (h y ey)
  by_cases e:na - 1 = 0
  · rw [if_pos (by simpa using e)]
    exact wpS_pure ⟨hK,.inl ⟨_,rfl,j'.doneA e⟩⟩
  · rw [if_neg (by simpa using e)]
    have lf:LeftH ρ L a b t (out.push y) (na - 1) nb:=⟨j',by omega,h2,by omega,h4,by omega⟩
    split
    · exact wpS_pure ⟨hK,.inr ⟨rfl,lf⟩⟩
    · exact wpS_pure ⟨hK,rfl,lf⟩
theorem wpS_gahB {st st0:SortSt} {g k bc t:Nat} (hL:LtH M Ar E s ρ kd P) (hk:kindOf st0 = kd) (T:Two ρ P a b) (hK:Kp st0 st) (j:W ρ L a b out na nb) (h1:1 <= na) (h2:2 <= nb) (h3:na <= a.size) (h4:nb <= b.size) (ht:na + nb + t <= a.size + b.size)
    (h:∀ x,b[nb - 1]? = some x -> ∀ y ∈ a.toList.take na,ρ y <= ρ x):wpS M Ar E s (gahB a b out na nb g k bc) (PH ρ L a b t st0) st:=by
  unfold gahB
  obtain ⟨x,ex,px⟩:=at_ex T.pb (show nb - 1 < b.size by omega)
  obtain ⟨y,ey,py⟩:=at_ex T.pa (show na - 1 < a.size by omega)
  refine wpS_bind (wpS_elem ex ?_)
  have j':=j.pushB (by omega) ex (h x ex)
  by_cases e:nb - 1 = 1
  · rw [if_pos (by simpa using e)]
    exact wpS_pure ⟨hK,.inl ⟨_,rfl,j'.firstB e T.b1 T.y⟩⟩
  · rw [if_neg (by simpa using e)]
    refine wpS_bind (wpS_elem ey ?_)
    refine wpS_bind (wpS_gphL hL (hK.k.trans hk) py T.pb T.sb (by omega) (by omega) fun k1 hk1 q1 q2=>?_)
    dsimp only
    have j2:=j'.manyB hk1 fun x hx z hz=>Nat.le_trans (j'.endA h1 ey z hz) (q2 x hx)
    by_cases hk0:nb - 1 - k1 > 0
    · rw [if_pos hk0]
      by_cases e2:k1 = 1
      · rw [if_pos (by simpa using e2)]
        exact wpS_pure ⟨hK,.inl ⟨_,rfl,j2.firstB e2 T.b1 T.y⟩⟩
      · rw [if_neg (by simpa using e2)]
        by_cases e3:k1 = 0
        · rw [if_pos (by simpa using e3)]
          exact wpS_pure ⟨hK,.inl ⟨_,rfl,j2.doneB e3⟩⟩
        · rw [if_neg (by simpa using e3)]
          exact wpS_gahC T hK j2 h1 (by omega) h3 (by omega) (by omega) fun x' ex' z hz=>by rw [ey] at ex';cases ex';exact Nat.le_of_lt (q1 z hz)
    · rw [if_neg hk0]
      have:k1 = nb - 1:=by omega
      subst this
      exact wpS_gahC T hK j' h1 (by omega) h3 (by omega) (by omega) fun x' ex' z hz=>by rw [ey] at ex';cases ex';exact Nat.le_of_lt (q1 z hz)
theorem wpS_gahA {st st0:SortSt} {g ac bc t:Nat} (hL:LtH M Ar E s ρ kd P) (hk:kindOf st0 = kd) (T:Two ρ P a b) (hK:Kp st0 st) (j:LeftH ρ L a b t out na nb):wpS M Ar E s (gahA a b out na nb g ac bc) (PH ρ L a b t st0) st:=by
  obtain ⟨j,h1,h2,h3,h4,ht⟩:=j
  unfold gahA
  obtain ⟨x,ex,px⟩:=at_ex T.pb (show nb - 1 < b.size by omega)
  refine wpS_bind (wpS_elem ex ?_)
  refine wpS_bind (wpS_gphR hL (hK.k.trans hk) px T.pa T.sa h3 h1 fun k hk1 q1 q2=>?_)
  dsimp only
  have j2:=j.manyA hk1 fun z hz y hy=>Nat.le_trans (j.endB (by omega) ex y hy) (Nat.le_of_lt (q2 z hz))
  by_cases hk0:na - k > 0
  · rw [if_pos hk0]
    by_cases e:k = 0
    · rw [if_pos (by simpa using e)]
      exact wpS_pure ⟨hK,.inl ⟨_,rfl,j2.doneA e⟩⟩
    · rw [if_neg (by simpa using e)]
      exact wpS_gahB hL hk T hK j2 (by omega) h2 (by omega) h4 (by omega) fun x' ex' z hz=>by rw [ex] at ex';cases ex';exact q1 z hz
  · rw [if_neg hk0]
    have:k = na:=by omega
    subst this
    exact wpS_gahB hL hk T hK j h1 h2 h3 h4 ht fun x' ex' z hz=>by rw [ex] at ex';cases ex';exact q1 z hz
noncomputable abbrev HI:=Option (Array Keyed) × Nat × Nat × Array Keyed × Nat × Nat
noncomputable abbrev HQ:=Option (Array Keyed) × Nat × Nat × Array Keyed × Nat
noncomputable def hiI (a b:Array Keyed) (g:Nat) (c:HI):StateT SortSt Sem (ForInStep HI):=do
  let x <- elem' b (c.2.2.1 - 1)
  let y <- elem' a (c.2.1 - 1)
  let r <- lt' x y
  match r with
  | some w =>
    if w = true then do
      let y <- elem' a (c.2.1 - 1)
      if (c.2.1 - 1 == 0) = true then pure (ForInStep.done (some (a.extract 0 (c.2.1 - 1) ++ b.extract 0 c.2.2.1 ++ (c.2.2.2.1.push y).reverse),c.2.1 - 1,c.2.2.1,c.2.2.2.1.push y,c.2.2.2.2.1 + 1,0))
      else if c.2.2.2.2.1 + 1 >= g then pure (ForInStep.done (none,c.2.1 - 1,c.2.2.1,c.2.2.2.1.push y,c.2.2.2.2.1 + 1,0))
      else pure (ForInStep.yield (none,c.2.1 - 1,c.2.2.1,c.2.2.2.1.push y,c.2.2.2.2.1 + 1,0))
    else do
      let x <- elem' b (c.2.2.1 - 1)
      if (c.2.2.1 - 1 == 1) = true then pure (ForInStep.done (some (b.extract 0 (c.2.2.1 - 1) ++ a.extract 0 c.2.1 ++ (c.2.2.2.1.push x).reverse),c.2.1,c.2.2.1 - 1,c.2.2.2.1.push x,0,c.2.2.2.2.2 + 1))
      else if c.2.2.2.2.2 + 1 >= g then pure (ForInStep.done (none,c.2.1,c.2.2.1 - 1,c.2.2.2.1.push x,0,c.2.2.2.2.2 + 1))
      else pure (ForInStep.yield (none,c.2.1,c.2.2.1 - 1,c.2.2.2.1.push x,0,c.2.2.2.2.2 + 1))
  | _=>pure (ForInStep.done (some (a.extract 0 c.2.1 ++ b.extract 0 c.2.2.1 ++ c.2.2.2.1.reverse),c.2.1,c.2.2.1,c.2.2.2.1,c.2.2.2.2.1,c.2.2.2.2.2))
noncomputable def hiG (a b:Array Keyed) (c:HS):StateT SortSt Sem (ForInStep HS) :=
  if c.2.2.2.2.1 > 1 then do
    setMin' (c.2.2.2.2.1 - 1)
    gahA a b c.2.2.2.1 c.2.1 c.2.2.1 (c.2.2.2.2.1 - 1) c.2.2.2.2.2.1 c.2.2.2.2.2.2
  else do
    setMin' c.2.2.2.2.1
    gahA a b c.2.2.2.1 c.2.1 c.2.2.1 c.2.2.2.2.1 c.2.2.2.2.2.1 c.2.2.2.2.2.2
noncomputable def hiE (r:HS):StateT SortSt Sem (ForInStep HQ) :=
  match r.1 with
  | some arr=>pure (ForInStep.done (some arr,r.2.1,r.2.2.1,r.2.2.2.1,r.2.2.2.2.1))
  | none=>do
    setMin' (r.2.2.2.2.1 + 1)
    pure (ForInStep.yield (none,r.2.1,r.2.2.1,r.2.2.2.1,r.2.2.2.2.1 + 1))
noncomputable def hiN (a b:Array Keyed) (g:Nat) (r:HI):StateT SortSt Sem (ForInStep HQ) :=
  match r.1 with
  | some arr=>pure (ForInStep.done (some arr,r.2.1,r.2.2.1,r.2.2.2.1,g))
  | none=>do
    liftM (rule "list.sort.gallop")
    let r2 <- forIn [0:a.size + b.size] ((none,r.2.1,r.2.2.1,r.2.2.2.1,g + 1,r.2.2.2.2.1,r.2.2.2.2.2):HS) fun _ t=>hiG a b t
    hiE r2
noncomputable def hiO (a b:Array Keyed) (c:HQ):StateT SortSt Sem (ForInStep HQ):=do
  let r <- forIn [0:a.size + b.size] ((none,c.2.1,c.2.2.1,c.2.2.2.1,0,0):HI) fun _ r=>hiI a b c.2.2.2.2 r
  hiN a b c.2.2.2.2 r
noncomputable def hiZ (r:HQ):StateT SortSt Sem (Array Keyed) :=
  match r.1 with
  | some arr=>pure arr
  | none=>unsupported "internal:list.sort.merge-bound"
theorem mergeHi'_eq2 (a b:Array Keyed):mergeHi' a b = (do
  liftM (rule "list.sort.merge-hi")
  let x <- elem' a (a.size - 1)
  if (a.size - 1 == 0) = true then pure (a.extract 0 (a.size - 1) ++ b.extract 0 b.size ++ (#[x]:Array Keyed).reverse)
  else if (b.size == 1) = true then pure (b.extract 0 b.size ++ a.extract 0 (a.size - 1) ++ (#[x]:Array Keyed).reverse)
  else do
    let st <- get
    let r <- forIn [0:a.size + b.size] ((none,a.size - 1,b.size,#[x],gallopOf st):HQ) fun _ r=>hiO a b r
    hiZ r):=by kernel_rfl
theorem wpS_hiI {st0 st:SortSt} {g n m:Nat} {c:HI} (hL:LtH M Ar E s ρ kd P) (hk:kindOf st0 = kd) (T:Two ρ P a b) (hK:Kp st0 st) (j:LeftH ρ L a b (n + 1 + min m 1) c.2.2.2.1 c.2.1 c.2.2.1) :
    wpS M Ar E s (hiI a b g c) (fun r st'=>Kp st0 st' /\ match r with
      | .done c=>(∃ arr,c.1 = some arr /\ Good ρ L arr.toList) \/ (c.1 = none /\ LeftH ρ L a b (n + 1 + 1) c.2.2.2.1 c.2.1 c.2.2.1)
      | .yield c=>c.1 = none /\ LeftH ρ L a b (n + 1 + min (m + 1) 1) c.2.2.2.1 c.2.1 c.2.2.1) st:=by
  obtain ⟨ret,na,nb,out,ac,bc⟩:=c
  obtain ⟨j,l1,l2,l3,l4,l5⟩:=j
  dsimp only at j l1 l2 l3 l4 l5
  unfold hiI
  dsimp only
  obtain ⟨x,ex,px⟩:=at_ex T.pb (show nb - 1 < b.size by omega)
  obtain ⟨y,ey,py⟩:=at_ex T.pa (show na - 1 < a.size by omega)
  refine wpS_bind (wpS_elem ex (wpS_bind (wpS_elem ey (wpS_bind (hL x y st _ px py (hK.k.trans hk) ?_)))))
  by_cases hlt:ρ x < ρ y
  · rw [decide_eq_true hlt]
    refine wpS_bind (wpS_elem ey ?_)
    have j':=j.pushA l1 ey fun z hz=>Nat.le_trans (j.endB (by omega) ex z hz) (Nat.le_of_lt hlt)
    by_cases e:na - 1 = 0
    · rw [if_pos (by simpa using e)]
      exact wpS_pure ⟨hK,.inl ⟨_,rfl,j'.doneA e⟩⟩
    · rw [if_neg (by simpa using e)]
      split
      · exact wpS_pure ⟨hK,.inr ⟨rfl,j',by show 1 <= na - 1;omega,l2,by show na - 1 <= a.size;omega,l4,by show na - 1 + nb + (n + 1 + 1) <= _;omega⟩⟩
      · exact wpS_pure ⟨hK,rfl,j',by show 1 <= na - 1;omega,l2,by show na - 1 <= a.size;omega,l4,by show na - 1 + nb + (n + 1 + min (m + 1) 1) <= _;omega⟩
  · rw [decide_eq_false hlt]
    refine wpS_bind (wpS_elem ex ?_)
    have j':=j.pushB (by omega) ex fun z hz=>Nat.le_trans (j.endA l1 ey z hz) (Nat.not_lt.mp hlt)
    by_cases e:nb - 1 = 1
    · rw [if_pos (by simpa using e)]
      exact wpS_pure ⟨hK,.inl ⟨_,rfl,j'.firstB e T.b1 T.y⟩⟩
    · rw [if_neg (by simpa using e)]
      split
      · exact wpS_pure ⟨hK,.inr ⟨rfl,j',l1,by show 2 <= nb - 1;omega,l3,by show nb - 1 <= b.size;omega,by show na + (nb - 1) + (n + 1 + 1) <= _;omega⟩⟩
      · exact wpS_pure ⟨hK,rfl,j',l1,by show 2 <= nb - 1;omega,l3,by show nb - 1 <= b.size;omega,by show na + (nb - 1) + (n + 1 + min (m + 1) 1) <= _;omega⟩
noncomputable def PGH (ρ:Keyed -> Nat) (L:List Keyed) (a b:Array Keyed) (t:Nat) (st0:SortSt) (r:ForInStep HQ) (st:SortSt):Prop:=match r with
  | .done c=>Kp st0 st /\ ∃ arr,c.1 = some arr /\ Good ρ L arr.toList
  | .yield c=>Kp st0 st /\ c.1 = none /\ LeftH ρ L a b t c.2.2.2.1 c.2.1 c.2.2.1
theorem wpS_hiN {st0 st:SortSt} {g n:Nat} {r:HI} (hL:LtH M Ar E s ρ kd P) (hk:kindOf st0 = kd) (T:Two ρ P a b) (hK:Kp st0 st)
    (h:(∃ arr,r.1 = some arr /\ Good ρ L arr.toList) \/ (r.1 = none /\ LeftH ρ L a b (n + 1 + 1) r.2.2.2.1 r.2.1 r.2.2.1)):wpS M Ar E s (hiN a b g r) (PGH ρ L a b (n + 1 + 1) st0) st:=by
  obtain ⟨ret,r⟩:=r
  unfold hiN
  rcases h with ⟨arr,h1,h2⟩ | ⟨h1,hl⟩
  · dsimp only at h1
    subst h1
    exact wpS_pure ⟨hK,arr,rfl,h2⟩
  · dsimp only at h1 hl
    subst h1
    refine wpS_bind (wpS_lift (wpAny_rule ⟨rfl,?_⟩))
    refine wpS_bind (wpS_mono (wpS_forRange (I:=fun x c st'=>Kp st0 st' /\ c.1 = none /\ LeftH ρ L a b (n + 1 + 1) c.2.2.2.1 c.2.1 c.2.2.1)
      (Q:=fun c st'=>Kp st0 st' /\ ((∃ arr,c.1 = some arr /\ Good ρ L arr.toList) \/ (c.1 = none /\ LeftH ρ L a b (n + 1 + 1) c.2.2.2.1 c.2.1 c.2.2.1))) ?gstep ?gfin ⟨hK,rfl,hl⟩) ?gpost)
    case gfin =>
      rintro c st' ⟨hK,h1,hl⟩
      exact ⟨hK,.inr ⟨h1,hl⟩⟩
    case gstep =>
      rintro m c st' _ hm ⟨hK,h1,hl⟩
      have go:∀ g,wpS M Ar E s (do setMin' g;gahA a b c.2.2.2.1 c.2.1 c.2.2.1 g c.2.2.2.2.2.1 c.2.2.2.2.2.2) (fun r st''=>match r with
          | .done c=>Kp st0 st'' /\ ((∃ arr,c.1 = some arr /\ Good ρ L arr.toList) \/ (c.1 = none /\ LeftH ρ L a b (n + 1 + 1) c.2.2.2.1 c.2.1 c.2.2.1))
          | .yield c=>Kp st0 st'' /\ c.1 = none /\ LeftH ρ L a b (n + 1 + 1) c.2.2.2.1 c.2.1 c.2.2.1) st':=fun g=>by
        rw [setMin'_eq]
        refine wpS_bind (wpS_modify (wpS_mono (wpS_gahA hL hk T (hK.min g) hl) fun r st'' hr=>?_))
        obtain ⟨k1,k2⟩:=hr
        cases r with
        | done c=>exact ⟨k1,k2⟩
        | yield c=>exact ⟨k1,k2⟩
      unfold hiG
      split
      · refine wpS_mono (go _) fun r st'' hr=>?_
        cases r<;>exact hr
      · refine wpS_mono (go _) fun r st'' hr=>?_
        cases r<;>exact hr
    case gpost =>
      rintro ⟨ret,r⟩ st' ⟨hK,⟨arr,h1,h2⟩ | ⟨h1,hl⟩⟩
      · dsimp only at h1
        subst h1
        exact wpS_pure ⟨hK,arr,rfl,h2⟩
      · dsimp only at h1 hl
        subst h1
        unfold hiE
        rw [setMin'_eq]
        exact wpS_bind (wpS_modify (wpS_pure ⟨hK.min _,rfl,hl⟩))
theorem wpS_hiO {st0 st:SortSt} {n:Nat} {c:HQ} (hL:LtH M Ar E s ρ kd P) (hk:kindOf st0 = kd) (T:Two ρ P a b) (hn:0 < a.size + b.size) (hK:Kp st0 st) (hl:LeftH ρ L a b (n + 1) c.2.2.2.1 c.2.1 c.2.2.1):wpS M Ar E s (hiO a b c) (PGH ρ L a b (n + 1 + 1) st0) st:=by
  unfold hiO
  refine wpS_bind (wpS_mono (wpS_forRange (I:=fun x c st'=>Kp st0 st' /\ c.1 = none /\ LeftH ρ L a b (n + 1 + min x 1) c.2.2.2.1 c.2.1 c.2.2.1)
    (Q:=fun c st'=>Kp st0 st' /\ ((∃ arr,c.1 = some arr /\ Good ρ L arr.toList) \/ (c.1 = none /\ LeftH ρ L a b (n + 1 + 1) c.2.2.2.1 c.2.1 c.2.2.1))) ?istep ?ifin ⟨hK,rfl,by simpa using hl⟩) ?ipost)
  case ifin =>
    rintro c st' ⟨hK,h1,hl⟩
    rw [show min (max 0 (a.size + b.size)) 1 = 1 by omega] at hl
    exact ⟨hK,.inr ⟨h1,hl⟩⟩
  case istep =>
    rintro m c st' _ hm ⟨hK,h1,hl⟩
    refine wpS_mono (wpS_hiI hL hk T hK hl) fun r st'' hr=>?_
    obtain ⟨k1,k2⟩:=hr
    cases r with
    | done c=>exact ⟨k1,k2⟩
    | yield c=>exact ⟨k1,k2⟩
  case ipost =>
    rintro r st' ⟨hK,h⟩
    exact wpS_hiN hL hk T hK h
theorem wpS_mergeHi {st:SortSt} {Q:Array Keyed -> SortSt -> Prop} (hL:LtH M Ar E s ρ kd P) (hk:kindOf st = kd) (T:Two ρ P a b)
    (q:∀ r st',Kp st st' -> Good ρ (a.toList ++ b.toList) r.toList -> Q r st'):wpS M Ar E s (mergeHi' a b) Q st:=by
  rw [mergeHi'_eq2]
  have b1:=T.b1
  have a1:=T.a1
  refine wpS_bind (wpS_lift (wpAny_rule ⟨rfl,?_⟩))
  obtain ⟨x,ex,px⟩:=at_ex T.pa (show a.size - 1 < a.size by omega)
  refine wpS_bind (wpS_elem ex ?_)
  have j0:W ρ (a.toList ++ b.toList) a b #[] a.size b.size:=by
    have e1:a.toList.take a.size = a.toList:=List.take_of_length_le (Nat.le_refl _)
    have e2:b.toList.take b.size = b.toList:=List.take_of_length_le (Nat.le_refl _)
    unfold W
    rw [e1,e2]
    exact ⟨List.Pairwise.nil,T.sa,T.sb,(fun x hx y hy=>by cases hy),(fun x hx y hy=>by cases hy),by simp⟩
  have j1:W ρ (a.toList ++ b.toList) a b #[x] (a.size - 1) b.size:=by simpa using j0.pushA a1 ex fun y hy=>T.z y (List.mem_of_mem_take hy) x ex
  by_cases e:a.size - 1 = 0
  · rw [if_pos (by simpa using e)]
    exact wpS_pure (q _ st .refl (by simpa using j1.doneA e))
  · rw [if_neg (by simpa using e)]
    by_cases e2:b.size = 1
    · rw [if_pos (by simpa using e2)]
      exact wpS_pure (q _ st .refl (by simpa using j1.firstB e2 T.b1 T.y))
    · rw [if_neg (by simpa using e2)]
      refine wpS_bind (wpS_get ?_)
      refine wpS_bind (wpS_mono (wpS_forRange (I:=fun x c st'=>Kp st st' /\ c.1 = none /\ LeftH ρ (a.toList ++ b.toList) a b (x + 1) c.2.2.2.1 c.2.1 c.2.2.1)
        (Q:=fun c st'=>Kp st st' /\ ∃ arr,c.1 = some arr /\ Good ρ (a.toList ++ b.toList) arr.toList) ?step ?fin ⟨.refl,rfl,j1,by show 1 <= a.size - 1;omega,by show 2 <= b.size;omega,by show a.size - 1 <= a.size;omega,by show b.size <= b.size;omega,by show a.size - 1 + b.size + (0 + 1) <= _;omega⟩) ?post)
      case fin =>
        rintro ⟨ret,na,nb,out,g⟩ st' ⟨hK,h1,j,h2,h3,h4,h5,h6⟩
        dsimp only at h2 h3 h4 h5 h6
        omega
      case post =>
        rintro ⟨ret,r⟩ st' ⟨hK,arr,h1,h2⟩
        dsimp only at h1
        subst h1
        exact wpS_pure (q arr st' hK h2)
      case step =>
        rintro n c st' _ hn ⟨hK,h1,hl⟩
        refine wpS_mono (wpS_hiO hL hk T (by omega) hK hl) fun r st'' hr=>?_
        cases r with
        | done c=>exact hr
        | yield c=>exact hr
end
end Vs

set_option Elab.async false
set_option linter.all false
set_option maxRecDepth 100000
namespace Vs
open PySem PyProof.Rows
noncomputable abbrev Run:=Nat × Nat × Nat
theorem mergeAt'_eq (i:Nat):mergeAt' i = (do
  let s <- get
  let (some (sa,na,power),some (sb,nb,_)):=((pendingOf s)[i]?,(pendingOf s)[i + 1]?) | unsupported "internal:list.sort.pending"
  set (setPending s (((pendingOf s).setIfInBounds i (sa,na + nb,power)).eraseIdxIfInBounds (i + 1)))
  let some k <- gallop' false (<- elem' (arrOf s) sb) (arrOf s) sa na 0 | return false
  let (sa,na):=(sa + k,na - k)
  if na == 0 then return true
  let some nb <- gallop' true (<- elem' (arrOf s) (sa + na - 1)) (arrOf s) sb nb (nb - 1) | return false
  if nb == 0 then return true
  let x:=(arrOf s).extract sa sb
  let y:=(arrOf s).extract sb (sb + nb)
  let merged <- if na <= nb then mergeLo' x y else mergeHi' x y
  modify fun s=>setArr s (merged.toList.zipIdx.foldl (fun a (p,j)=>a.setIfInBounds (sa + j) p) (arrOf s))
  return (failedOf (<- get)).isNone):=rfl
noncomputable def Ch (ρ:Keyed -> Nat) (xs:Array Keyed):Nat -> Nat -> List Run -> Prop
  | s,e,[]=>s = e
  | s,e,r :: rs=>r.1 = s /\ 1 <= r.2.1 /\ Seg ρ xs s (s + r.2.1) /\ Ch ρ xs (s + r.2.1) e rs
theorem Ch.app {ρ:Keyed -> Nat} {xs:Array Keyed}:∀ {l m:List Run} {s e:Nat},Ch ρ xs s e (l ++ m) ↔ ∃ t,Ch ρ xs s t l /\ Ch ρ xs t e m
  | [],m,s,e=>⟨fun h=>⟨s,rfl,h⟩,fun ⟨t,h1,h2⟩=>by cases h1;exact h2⟩
  | r :: l,m,s,e=>by
    constructor
    · rintro ⟨h1,h2,h3,h4⟩
      obtain ⟨t,h5,h6⟩:=Ch.app.mp h4
      exact ⟨t,⟨h1,h2,h3,h5⟩,h6⟩
    · rintro ⟨t,⟨h1,h2,h3,h5⟩,h6⟩
      exact ⟨h1,h2,h3,Ch.app.mpr ⟨t,h5,h6⟩⟩
theorem Ch.le {ρ:Keyed -> Nat} {xs:Array Keyed}:∀ {l:List Run} {s e:Nat},Ch ρ xs s e l -> s + l.length <= e
  | [],s,e,h=>by cases h;exact Nat.le_refl _
  | r :: l,s,e,⟨_,h2,_,h4⟩=>by have:=Ch.le h4;simp only [List.length_cons];omega
theorem Seg.congr {ρ:Keyed -> Nat} {xs ys:Array Keyed} {lo hi:Nat} (h:Seg ρ xs lo hi) (e:∀ k,lo <= k -> k < hi -> ys[k]? = xs[k]?):Seg ρ ys lo hi:=fun i j h1 h2 h3=>by
  rw [R_congr (e i h1 (by omega)),R_congr (e j (by omega) h3)];exact h i j h1 h2 h3
theorem Ch.congr {ρ:Keyed -> Nat} {xs ys:Array Keyed}:∀ {l:List Run} {s e:Nat},Ch ρ xs s e l -> (∀ k,s <= k -> k < e -> ys[k]? = xs[k]?) -> Ch ρ ys s e l
  | [],s,e,h,_=>h
  | r :: l,s,e,⟨h1,h2,h3,h4⟩,q=>by
    have:=Ch.le h4
    exact ⟨h1,h2,h3.congr fun k a b=>q k a (by omega),Ch.congr h4 fun k a b=>q k (by omega) b⟩
theorem put_get (off:Nat):∀ (m:List Keyed) (n:Nat) (xs:Array Keyed),off + n + m.length <= xs.size -> ∀ k:Nat,
    ((m.zipIdx n).foldl (fun a (p,j)=>a.setIfInBounds (off + j) p) xs)[k]? = (if off + n <= k /\ k < off + n + m.length then m[k - (off + n)]? else xs[k]?) /\ ((m.zipIdx n).foldl (fun a (p,j)=>a.setIfInBounds (off + j) p) xs).size = xs.size
  | [],n,xs,h,k=>⟨by rw [if_neg (by simp only [List.length_nil];omega)];rfl,rfl⟩
  | p :: m,n,xs,h,k=>by
    simp only [List.length_cons] at h
    rw [List.zipIdx_cons,List.foldl_cons]
    have ih:=put_get off m (n + 1) (xs.setIfInBounds (off + n) p) (by rw [Array.size_setIfInBounds];omega) k
    refine ⟨?_,by rw [ih.2,Array.size_setIfInBounds]⟩
    rw [ih.1]
    simp only [List.length_cons]
    by_cases h1:off + (n + 1) <= k /\ k < off + (n + 1) + m.length
    · rw [if_pos h1,if_pos (by omega),show k - (off + n) = k - (off + (n + 1)) + 1 by omega,List.getElem?_cons_succ]
    · rw [if_neg h1]
      by_cases h2:k = off + n
      · subst h2
        rw [if_pos (by omega),Nat.sub_self,List.getElem?_cons_zero,Array.getElem?_setIfInBounds_self_of_lt (by omega)]
      · rw [if_neg (by omega),Array.getElem?_setIfInBounds_ne (by omega)]
theorem put_perm {off:Nat} {m:List Keyed} {xs:Array Keyed} (h:off + m.length <= xs.size) (hp:m.Perm ((xs.toList.drop off).take m.length)):(m.zipIdx.foldl (fun a (p,j)=>a.setIfInBounds (off + j) p) xs).Perm xs:=by
  rw [Array.perm_iff_toList_perm]
  have e:(m.zipIdx.foldl (fun a (p,j)=>a.setIfInBounds (off + j) p) xs).toList = xs.toList.take off ++ (m ++ xs.toList.drop (off + m.length)):=by
    apply List.ext_getElem?
    intro k
    have:=(put_get off m 0 xs (by simpa using h) k).1
    rw [Nat.add_zero] at this
    rw [Array.getElem?_toList,this]
    have hl:(xs.toList.take off).length = off:=by rw [List.length_take];have:xs.toList.length = xs.size:=rfl;omega
    by_cases h1:k < off
    · rw [if_neg (by omega),List.getElem?_append_left (by omega),List.getElem?_take_of_lt h1,Array.getElem?_toList]
    · rw [List.getElem?_append_right (by omega),hl]
      by_cases h2:k < off + m.length
      · rw [if_pos (by omega),List.getElem?_append_left (by omega)]
      · rw [if_neg (by omega),List.getElem?_append_right (by omega),List.getElem?_drop,show off + m.length + (k - off - m.length) = k by omega,Array.getElem?_toList]
  rw [e]
  have e2:xs.toList = xs.toList.take off ++ ((xs.toList.drop off).take m.length ++ xs.toList.drop (off + m.length)):=by
    rw [<- List.drop_drop,List.take_append_drop,List.take_append_drop]
  exact (List.Perm.append_left _ (List.Perm.append_right _ hp)).trans (by rw [<- e2])
theorem so_extract {ρ:Keyed -> Nat} {xs:Array Keyed} {i j:Nat} (h:Seg ρ xs i j) (hj:j <= xs.size):So ρ (xs.extract i j).toList:=by
  refine List.pairwise_iff_getElem.mpr fun p q hp hq hpq=>?_
  rw [tk_some,List.length_drop,List.length_take] at hq
  have hs:xs.toList.length = xs.size:=rfl
  have:=h (i + p) (i + q) (by omega) (by omega) (by omega)
  have e1:xs[i + p]? = some ((xs.extract i j).toList[p]):=by
    rw [Array.getElem?_eq_getElem (by omega)];simp
  have e2:xs[i + q]? = some ((xs.extract i j).toList[q]):=by
    rw [Array.getElem?_eq_getElem (by omega)];simp
  rw [R_at e1,R_at e2] at this
  exact this
theorem ex_get {xs:Array Keyed} {i j m:Nat} (h:i + m < j) (hj:j <= xs.size):(xs.extract i j)[m]? = xs[i + m]?:=by
  rw [Array.getElem?_extract]
  rw [if_pos (by omega)]
theorem ex_mem {xs:Array Keyed} {i j:Nat} {x:Keyed} (h:x ∈ (xs.extract i j).toList):∃ m,i <= m /\ m < j /\ m < xs.size /\ xs[m]? = some x:=by
  rw [tk_some] at h
  exact tk_drop_mem h
section
variable {M:Model} {Ar:Around} {E:Value -> Shared -> Prop} {s:Shared} {ρ:Keyed -> Nat} {kd:SortKind} {P:Keyed -> Prop} {a₀:Array Keyed}
theorem wpS_gsR {key:Keyed} {arr:Array Keyed} {base n hint:Nat} {st:SortSt} {Q:Option Nat -> SortSt -> Prop} (hL:LtH M Ar E s ρ kd P) (hk:kindOf st = kd) (pk:P key) (pa:∀ i,i < n -> ∃ x,arr[base + i]? = some x /\ P x) (hs:Seg ρ arr base (base + n)) (hn:hint < n)
    (q:∀ k,k <= n -> (∀ i,base <= i -> i < base + k -> R ρ arr i <= ρ key) -> (∀ i,base + k <= i -> i < base + n -> ρ key < R ρ arr i) -> Q (some k) st):wpS M Ar E s (gallop' false key arr base n hint) Q st:=by
  refine wpS_gallop (tells hL hk pk pa) (fun i j hij hj h=>?_) hn fun k hk1 h1 h2=>q k hk1 (fun i hi hi2=>?_) fun i hi hi2=>?_
  · have:=hs (base + i) (base + j) (by omega) (by omega) (by omega)
    simp only [byR,Bool.false_eq_true,if_false,Bool.not_eq_true',decide_eq_false_iff_not] at h ⊢
    omega
  · have:=h1 (i - base) (by omega)
    simp only [byR,Bool.false_eq_true,if_false,Bool.not_eq_true',decide_eq_false_iff_not,show base + (i - base) = i by omega] at this
    omega
  · have:=h2 (i - base) (by omega) (by omega)
    simp only [byR,Bool.false_eq_true,if_false,show base + (i - base) = i by omega,Bool.not_eq_false',decide_eq_true_eq] at this
    exact this
theorem wpS_gsL {key:Keyed} {arr:Array Keyed} {base n hint:Nat} {st:SortSt} {Q:Option Nat -> SortSt -> Prop} (hL:LtH M Ar E s ρ kd P) (hk:kindOf st = kd) (pk:P key) (pa:∀ i,i < n -> ∃ x,arr[base + i]? = some x /\ P x) (hs:Seg ρ arr base (base + n)) (hn:hint < n)
    (q:∀ k,k <= n -> (∀ i,base <= i -> i < base + k -> R ρ arr i < ρ key) -> (∀ i,base + k <= i -> i < base + n -> ρ key <= R ρ arr i) -> Q (some k) st):wpS M Ar E s (gallop' true key arr base n hint) Q st:=by
  refine wpS_gallop (tells hL hk pk pa) (fun i j hij hj h=>?_) hn fun k hk1 h1 h2=>q k hk1 (fun i hi hi2=>?_) fun i hi hi2=>?_
  · have:=hs (base + i) (base + j) (by omega) (by omega) (by omega)
    simp only [byR,if_true,decide_eq_true_eq] at h ⊢
    omega
  · have:=h1 (i - base) (by omega)
    simp only [byR,if_true,decide_eq_true_eq,show base + (i - base) = i by omega] at this
    exact this
  · have:=h2 (i - base) (by omega) (by omega)
    simp only [byR,if_true,show base + (i - base) = i by omega,decide_eq_false_iff_not] at this
    omega
theorem wpS_set {st st':SortSt} {Q:PUnit -> SortSt -> Prop} (h:Q ⟨⟩ st'):wpS M Ar E s (set st':StateT SortSt Sem PUnit) Q st:=by
  unfold wpS;rw [StateT.run_set];exact wpAny_pure ⟨rfl,h⟩
theorem two_at {l:List Run} {i:Nat} (h:i + 1 < l.length):∃ pre x y post,l = pre ++ x :: y :: post /\ pre.length = i:=by
  refine ⟨l.take i,l[i],l[i + 1],l.drop (i + 2),?_,by rw [List.length_take];omega⟩
  have e:=(List.take_append_drop i l).symm
  rw [List.drop_eq_getElem_cons (by omega),List.drop_eq_getElem_cons h] at e
  exact e
theorem wpS_mergeAt {st:SortSt} {i lo:Nat} {Q:Bool -> SortSt -> Prop} (hL:LtH M Ar E s ρ kd P) (h0:∀ p ∈ a₀.toList,P p) (hB:SI kd a₀ st) (hlo:lo <= a₀.size) (hc:Ch ρ (arrOf st) 0 lo (pendingOf st).toList) (hi:i + 1 < (pendingOf st).size)
    (q:∀ st',SI kd a₀ st' -> Ch ρ (arrOf st') 0 lo (pendingOf st').toList -> (pendingOf st').size + 1 = (pendingOf st).size -> (∀ k,lo <= k -> (arrOf st')[k]? = (arrOf st)[k]?) -> Q true st'):wpS M Ar E s (mergeAt' i) Q st:=by
  rw [mergeAt'_eq]
  refine wpS_bind (wpS_get ?_)
  obtain ⟨pre,⟨sa,na,pw⟩,⟨sb,nb,pw2⟩,post,el,hpl⟩:=two_at (l:=(pendingOf st).toList) (i:=i) (by simpa using hi)
  have e1:(pendingOf st)[i]? = some (sa,na,pw):=by
    rw [<- Array.getElem?_toList,el,List.getElem?_append_right (by omega),hpl,Nat.sub_self];rfl
  have e2:(pendingOf st)[i + 1]? = some (sb,nb,pw2):=by
    rw [<- Array.getElem?_toList,el,List.getElem?_append_right (by omega),hpl,Nat.add_sub_cancel_left];rfl
  have hnew:(((pendingOf st).setIfInBounds i (sa,na + nb,pw)).eraseIdxIfInBounds (i + 1)).toList = pre ++ (sa,na + nb,pw) :: post:=by
    have hs:i + 1 < ((pendingOf st).setIfInBounds i (sa,na + nb,pw)).size:=by rw [Array.size_setIfInBounds];exact hi
    rw [Array.eraseIdxIfInBounds,dif_pos hs,Array.toList_eraseIdx,Array.toList_setIfInBounds,el,<- hpl]
    rw [List.set_append_right _ _ (Nat.le_refl _),Nat.sub_self,List.set_cons_zero,List.eraseIdx_append_of_length_le (Nat.le_succ _),show pre.length.succ - pre.length = 1 by omega]
    rfl
  have hsz2:(((pendingOf st).setIfInBounds i (sa,na + nb,pw)).eraseIdxIfInBounds (i + 1)).size + 1 = (pendingOf st).size:=by
    have a1:(((pendingOf st).setIfInBounds i (sa,na + nb,pw)).eraseIdxIfInBounds (i + 1)).toList.length = (pre ++ (sa,na + nb,pw) :: post).length:=by rw [hnew]
    have a2:(pendingOf st).toList.length = (pre ++ (sa,na,pw) :: (sb,nb,pw2) :: post).length:=by rw [el]
    simp only [List.length_append,List.length_cons,Array.length_toList] at a1 a2
    omega
  rw [e1,e2]
  dsimp only
  refine wpS_bind (wpS_set ?_)
  rw [el] at hc
  obtain ⟨t,c1,⟨rfl,c3,c4,rfl,c6,c7,c8⟩⟩:=Ch.app.mp hc
  dsimp only at c1 c3 c4 c6 c7 c8 hnew e1 e2 hsz2 ⊢
  have hle:=Ch.le c8
  have hsz:=hB.size
  have atx:∀ k,k < a₀.size -> ∃ x,(arrOf st)[k]? = some x /\ P x:=fun k hk=>hB.at h0 hk
  obtain ⟨b0,eb,pb⟩:=atx (sa + na) (by omega)
  refine wpS_bind (wpS_elem eb ?_)
  refine wpS_bind (wpS_gsR hL hB.kind pb (fun i hi=>atx _ (by omega)) c4 (by omega) fun k hk g1 g2=>?_)
  dsimp only
  -- the whole of both,from what becomes of the array
  have fin:∀ (ys:Array Keyed) (st':SortSt),arrOf st' = ys -> pendingOf st' = ((pendingOf st).setIfInBounds i (sa,na + nb,pw)).eraseIdxIfInBounds (i + 1) -> kindOf st' = kd -> failedOf st' = none -> ys.Perm (arrOf st) ->
      (∀ k,k < sa \/ sa + na + nb <= k -> ys[k]? = (arrOf st)[k]?) -> Seg ρ ys sa (sa + na + nb) -> Q true st':=fun ys st' h1 h2 h3 h4 h5 h6 h7=>by
    refine q st' ⟨by rw [h1];exact h5.trans hB.perm,h3,h4⟩ ?_ (by rw [h2];exact hsz2) (fun k hk=>by rw [h1];exact h6 k (.inr (by omega)))
    rw [h1,h2,hnew]
    refine Ch.app.mpr ⟨sa,c1.congr fun k _ hk=>h6 k (.inl hk),rfl,?_,?_,?_⟩
    · show 1 <= na + nb;omega
    · show Seg ρ ys sa (sa + (na + nb));rw [<- Nat.add_assoc];exact h7
    · show Ch ρ ys (sa + (na + nb)) lo post
      rw [<- Nat.add_assoc]
      exact c8.congr fun k hk _=>h6 k (.inr hk)
  have rb0:R ρ (arrOf st) (sa + na) = ρ b0:=R_at eb
  by_cases hk0:na - k = 0
  · rw [if_pos (by simpa using hk0)]
    refine wpS_pure (fin (arrOf st) _ rfl rfl hB.kind hB.failed (Array.Perm.refl _) (fun _ _=>rfl) fun i j h1 h2 h3=>?_)
    by_cases hj:j < sa + na
    · exact c4 i j h1 h2 hj
    · by_cases hi':i < sa + na
      · have:=g1 i h1 (by omega)
        have:=c7 (sa + na) j (by omega) (by omega) h3
        omega
      · exact c7 i j (by omega) h2 h3
  · rw [if_neg (by simpa using hk0)]
    obtain ⟨al,ea,pa⟩:=atx (sa + k + (na - k) - 1) (by omega)
    have ral:R ρ (arrOf st) (sa + na - 1) = ρ al:=by rw [show sa + na - 1 = sa + k + (na - k) - 1 by omega];exact R_at ea
    refine wpS_bind (wpS_elem ea ?_)
    refine wpS_bind (wpS_gsL hL hB.kind pa (fun i hi=>atx _ (by omega)) c7 (by omega) fun k2 hk2 g3 g4=>?_)
    dsimp only
    by_cases hk20:k2 = 0
    · subst hk20
      rw [if_pos (by simp)]
      refine wpS_pure (fin (arrOf st) _ rfl rfl hB.kind hB.failed (Array.Perm.refl _) (fun _ _=>rfl) fun i j h1 h2 h3=>?_)
      by_cases hj:j < sa + na
      · exact c4 i j h1 h2 hj
      · by_cases hi':i < sa + na
        · have:=g4 j (by omega) h3
          have:=c4 i (sa + na - 1) h1 (by omega) (by omega)
          omega
        · exact c7 i j (by omega) h2 h3
    · rw [if_neg (by simpa using hk20)]
      have hPx:∀ i j,j <= a₀.size -> ∀ x ∈ ((arrOf st).extract i j).toList,P x:=fun i j hj x hx=>by
        obtain ⟨m,m1,m2,m3,m4⟩:=ex_mem hx
        obtain ⟨y,ey,py⟩:=atx m (by omega)
        rw [m4] at ey;cases ey;exact py
      have zx:((arrOf st).extract (sa + k) (sa + na)).size = na - k:=by rw [Array.size_extract];omega
      have zy:((arrOf st).extract (sa + na) (sa + na + k2)).size = k2:=by rw [Array.size_extract];omega
      have T:Two ρ P ((arrOf st).extract (sa + k) (sa + na)) ((arrOf st).extract (sa + na) (sa + na + k2)) :=
        ⟨hPx _ _ (by omega),hPx _ _ (by omega),so_extract (fun i j h1 h2 h3=>c4 i j (by omega) h2 h3) (by omega),so_extract (fun i j h1 h2 h3=>c7 i j h1 h2 (by omega)) (by omega),by omega,by omega,
          fun y hy z hz=>by
            obtain ⟨m,m1,m2,m3,m4⟩:=ex_mem hy
            rw [zx,ex_get (by omega) (by omega),show sa + k + (na - k - 1) = sa + k + (na - k) - 1 by omega,ea] at hz
            cases hz
            have:=g3 m m1 m2
            rw [R_at m4] at this
            omega,
          fun y hy z hz=>by
            obtain ⟨m,m1,m2,m3,m4⟩:=ex_mem hy
            rw [ex_get (by omega) (by omega),Nat.add_zero,eb] at hz
            cases hz
            have:=g2 m m1 m2
            rw [R_at m4] at this
            omega⟩
      have done:∀ (r:Array Keyed) (st':SortSt),Kp (setPending st (((pendingOf st).setIfInBounds i (sa,na + nb,pw)).eraseIdxIfInBounds (i + 1))) st' -> Good ρ (((arrOf st).extract (sa + k) (sa + na)).toList ++ ((arrOf st).extract (sa + na) (sa + na + k2)).toList) r.toList ->
          wpS M Ar E s (do
            modify fun s=>setArr s (r.toList.zipIdx.foldl (fun a (p,j)=>a.setIfInBounds (sa + k + j) p) (arrOf s))
            let x <- get
            pure (failedOf x).isNone) Q st':=fun r st' hK hG=>by
        refine wpS_bind (wpS_modify (wpS_bind (wpS_get (wpS_pure ?_))))
        have ka:arrOf st' = arrOf st:=hK.a
        have kp:pendingOf st' = _:=hK.p
        have kf:failedOf st' = none:=hK.f.trans hB.failed
        have kk:kindOf st' = kd:=hK.k.trans hB.kind
        show Q (failedOf st').isNone _
        rw [kf]
        have hlen:r.toList.length = na - k + k2:=by
          have:=hG.2.length_eq
          simp only [List.length_append,Array.length_toList,zx,zy] at this ⊢
          exact this
        have hbd:sa + k + r.toList.length <= (arrOf st).size:=by omega
        have get:=fun m=>(put_get (sa + k) r.toList 0 (arrOf st) (by simpa using hbd) m).1
        simp only [Nat.add_zero] at get
        have hX:((arrOf st).extract (sa + k) (sa + na)).toList ++ ((arrOf st).extract (sa + na) (sa + na + k2)).toList = ((arrOf st).toList.drop (sa + k)).take r.toList.length:=by
          rw [hlen,List.take_add,List.drop_drop,show sa + k + (na - k) = sa + na by omega]
          rw [show sa + na = sa + k + (na - k) by omega,tl_some,show sa + k + (na - k) = sa + na by omega,tl_some]
        refine fin _ _ (by show _ = r.toList.zipIdx.foldl _ (arrOf st);rw [ka]) kp kk kf (put_perm hbd (by rw [<- hX];exact hG.2)) (fun m hm=>by rw [get m,if_neg (by omega)]) ?_
        have ry:∀ m,¬ (sa + k <= m /\ m < sa + k + r.toList.length) -> R ρ (r.toList.zipIdx.foldl (fun a (p,j)=>a.setIfInBounds (sa + k + j) p) (arrOf st)) m = R ρ (arrOf st) m:=fun m hm=>R_congr (by rw [get m,if_neg hm])
        have rz:∀ m (h:m - (sa + k) < r.toList.length),sa + k <= m -> R ρ (r.toList.zipIdx.foldl (fun a (p,j)=>a.setIfInBounds (sa + k + j) p) (arrOf st)) m = ρ (r.toList[m - (sa + k)]):=fun m h hm=>by
          refine R_at ?_
          rw [get m,if_pos (by omega),List.getElem?_eq_getElem h]
        have low:∀ z ∈ r.toList,∀ i,sa <= i -> i < sa + k -> R ρ (arrOf st) i <= ρ z:=fun z hz i i1 i2=>by
          rcases List.mem_append.mp (hG.2.mem_iff.mp hz) with hz | hz
          · obtain ⟨m,m1,m2,m3,m4⟩:=ex_mem hz
            rw [<- R_at (ρ:=ρ) m4];exact c4 i m i1 (by omega) m2
          · obtain ⟨m,m1,m2,m3,m4⟩:=ex_mem hz
            have:=g1 i i1 i2
            have:=c7 (sa + na) m (by omega) m1 (by omega)
            rw [<- R_at (ρ:=ρ) m4];omega
        have high:∀ z ∈ r.toList,∀ j,sa + na + k2 <= j -> j < sa + na + nb -> ρ z <= R ρ (arrOf st) j:=fun z hz j j1 j2=>by
          rcases List.mem_append.mp (hG.2.mem_iff.mp hz) with hz | hz
          · obtain ⟨m,m1,m2,m3,m4⟩:=ex_mem hz
            have:=g4 j j1 j2
            have:=c4 m (sa + na - 1) (by omega) (by omega) (by omega)
            rw [<- R_at (ρ:=ρ) m4];omega
          · obtain ⟨m,m1,m2,m3,m4⟩:=ex_mem hz
            rw [<- R_at (ρ:=ρ) m4];exact c7 m j m1 (by omega) j2
        intro i j h1 h2 h3
        by_cases i1:i < sa + k
        · rw [ry i (by omega)]
          by_cases j1:j < sa + k
          · rw [ry j (by omega)];exact c4 i j h1 h2 (by omega)
          · by_cases j2:j < sa + k + r.toList.length
            · rw [rz j (by omega) (by omega)];exact low _ (List.getElem_mem _) i h1 i1
            · rw [ry j (by omega)]
              have:=g1 i h1 i1
              have:=c7 (sa + na) j (by omega) (by omega) h3
              omega
        · by_cases i2:i < sa + k + r.toList.length
          · rw [rz i (by omega) (by omega)]
            by_cases j2:j < sa + k + r.toList.length
            · rw [rz j (by omega) (by omega)]
              by_cases e:i = j
              · subst e;exact Nat.le_refl _
              · exact List.pairwise_iff_getElem.mp hG.1 _ _ (by omega) (by omega) (by omega)
            · rw [ry j (by omega)];exact high _ (List.getElem_mem _) j (by omega) h3
          · rw [ry i (by omega),ry j (by omega)];exact c7 i j (by omega) h2 h3
      by_cases hle2:na - k <= k2
      · rw [if_pos hle2]
        exact wpS_bind (wpS_mergeLo hL hB.kind T done)
      · rw [if_neg hle2]
        exact wpS_bind (wpS_mergeHi hL hB.kind T done)
end
end Vs

set_option Elab.async false
set_option linter.all false
set_option maxRecDepth 100000
namespace Vs
open PySem PyProof.Rows
theorem Ch.modify {ρ:Keyed -> Nat} {xs:Array Keyed} {f:Run -> Run} (hf:∀ r,(f r).1 = r.1 /\ (f r).2.1 = r.2.1):∀ (l:List Run) (i s e:Nat),Ch ρ xs s e l -> Ch ρ xs s e (l.modify i f)
  | [],i,s,e,h=>by rw [List.modify_nil];exact h
  | r :: l,0,s,e,⟨h1,h2,h3,h4⟩=>by
    rw [List.modify_zero_cons]
    exact ⟨(hf r).1.trans h1,by rw [(hf r).2];exact h2,by rw [(hf r).2];exact h3,by rw [(hf r).2];exact h4⟩
  | r :: l,i + 1,s,e,⟨h1,h2,h3,h4⟩=>by
    rw [List.modify_succ_cons]
    exact ⟨h1,h2,h3,Ch.modify hf l i _ _ h4⟩
section
variable {M:Model} {Ar:Around} {E:Value -> Shared -> Prop} {s:Shared} {ρ:Keyed -> Nat} {kd:SortKind} {P:Keyed -> Prop} {a₀:Array Keyed}
theorem SI.setPend {st:SortSt} (h:SI kd a₀ st) (p:Array Run):SI kd a₀ (setPending st p):=⟨h.perm,h.kind,h.failed⟩
noncomputable def pushRun (lo n:Nat):StateT SortSt Sem (ForInStep (Option Unit × Nat)):=do
  modify fun s=>setPending s ((pendingOf s).push (lo,n,0))
  pure (ForInStep.yield (none,lo + n))
noncomputable def mergeDown (size pw:Nat):StateT SortSt Sem (Option Unit × Unit) :=
  forIn [:size] ((none,()):Option Unit × Unit) fun _ _=>do
    let x <- get
    match (if (pendingOf x).size > 1 then (pendingOf x)[(pendingOf x).size - 2]? else none) with
    | some (_,_,older) =>
      if older <= pw then pure (ForInStep.done (none,()))
      else do
        let r <- mergeAt' ((pendingOf x).size - 2)
        if (!r) = true then pure (ForInStep.done (some (),())) else pure (ForInStep.yield (none,()))
    | _=>pure (ForInStep.done (none,()))
noncomputable def restRun (size lo n:Nat):StateT SortSt Sem (ForInStep (Option Unit × Nat)):=do
  let x <- get
  match (pendingOf x).back? with
  | some (s1,n1,_)=>do
    let r <- mergeDown size (power' size (2 * s1 + n1) (2 * s1 + n1 + n1 + n) size)
    match r.fst with
    | some r=>pure (ForInStep.done (some r,lo))
    | none=>do
      modify fun s=>setPending s ((pendingOf s).modify ((pendingOf s).size - 1) fun x=>(x.fst,x.2.fst,power' size (2 * s1 + n1) (2 * s1 + n1 + n1 + n) size))
      pushRun lo n
  | _=>pushRun lo n
theorem wpS_pushRun {st:SortSt} {lo n:Nat} {Q:ForInStep (Option Unit × Nat) -> SortSt -> Prop} (hB:SI kd a₀ st) (hc:Ch ρ (arrOf st) 0 lo (pendingOf st).toList) (hn:1 <= n) (hs:Seg ρ (arrOf st) lo (lo + n))
    (q:∀ st',SI kd a₀ st' -> Ch ρ (arrOf st') 0 (lo + n) (pendingOf st').toList -> Q (.yield (none,lo + n)) st'):wpS M Ar E s (pushRun lo n) Q st:=by
  unfold pushRun
  refine wpS_bind (wpS_modify (wpS_pure (q _ (hB.setPend _) ?_)))
  show Ch ρ (arrOf st) 0 (lo + n) ((pendingOf st).push (lo,n,0)).toList
  rw [Array.toList_push]
  exact Ch.app.mpr ⟨lo,hc,rfl,hn,hs,rfl⟩
theorem wpS_mergeDown {st:SortSt} {pw lo n:Nat} {Q:Option Unit × Unit -> SortSt -> Prop} (hL:LtH M Ar E s ρ kd P) (h0:∀ p ∈ a₀.toList,P p) (hB:SI kd a₀ st) (hlo:lo <= a₀.size) (hc:Ch ρ (arrOf st) 0 lo (pendingOf st).toList) (hs:Seg ρ (arrOf st) lo (lo + n))
    (q:∀ st',SI kd a₀ st' -> Ch ρ (arrOf st') 0 lo (pendingOf st').toList -> Seg ρ (arrOf st') lo (lo + n) -> Q (none,()) st'):wpS M Ar E s (mergeDown a₀.size pw) Q st:=by
  unfold mergeDown
  refine wpS_forRange (I:=fun x c st'=>c = (none,()) /\ SI kd a₀ st' /\ Ch ρ (arrOf st') 0 lo (pendingOf st').toList /\ Seg ρ (arrOf st') lo (lo + n)) ?step ?fin ⟨rfl,hB,hc,hs⟩
  case fin =>
    rintro c st' ⟨rfl,h1,h2,h3⟩
    exact q st' h1 h2 h3
  case step =>
    rintro x c st' _ hx ⟨rfl,h1,h2,h3⟩
    refine wpS_bind (wpS_get ?_)
    by_cases hz:(pendingOf st').size > 1
    · rw [if_pos hz]
      have e:(pendingOf st')[(pendingOf st').size - 2]? = some (pendingOf st')[(pendingOf st').size - 2]:=Array.getElem?_eq_getElem (by omega)
      rw [e]
      dsimp only
      split
      · exact wpS_pure (q st' h1 h2 h3)
      · refine wpS_bind (wpS_mergeAt hL h0 h1 hlo h2 (by omega) fun st2 b1 b2 b3 b4=>?_)
        simp only [Bool.not_true,Bool.false_eq_true,if_false]
        exact wpS_pure ⟨rfl,b1,b2,h3.congr fun k hk _=>b4 k hk⟩
    · rw [if_neg hz]
      exact wpS_pure (q st' h1 h2 h3)
theorem wpS_restRun {st:SortSt} {lo n:Nat} {Q:ForInStep (Option Unit × Nat) -> SortSt -> Prop} (hL:LtH M Ar E s ρ kd P) (h0:∀ p ∈ a₀.toList,P p) (hB:SI kd a₀ st) (hlo:lo <= a₀.size) (hc:Ch ρ (arrOf st) 0 lo (pendingOf st).toList) (hn:1 <= n) (hs:Seg ρ (arrOf st) lo (lo + n))
    (q:∀ st',SI kd a₀ st' -> Ch ρ (arrOf st') 0 (lo + n) (pendingOf st').toList -> Q (.yield (none,lo + n)) st'):wpS M Ar E s (restRun a₀.size lo n) Q st:=by
  unfold restRun
  refine wpS_bind (wpS_get ?_)
  split
  · refine wpS_bind (wpS_mergeDown hL h0 hB hlo hc hs fun st' b1 b2 b3=>?_)
    dsimp only
    refine wpS_bind (wpS_modify (wpS_pushRun (b1.setPend _) ?_ hn b3 q))
    show Ch ρ (arrOf st') 0 lo ((pendingOf st').modify _ _).toList
    rw [Array.toList_modify]
    refine Ch.modify ?_ _ _ _ _ b2
    intro r
    exact ⟨rfl,rfl⟩
  · exact wpS_pushRun hB hc hn hs q
theorem idx_lt (c:Prop) [Decidable c] {n:Nat} (h:2 <= n):(if c then n - 2 - 1 else n - 2) + 1 < n:=by split<;>omega
local macro_rules | `(tactic| walk_at "s_rest")=>`(tactic| (unfold restRun mergeDown pushRun;congr 1;funext x;cases e:(pendingOf x).back? with
  | none=>rfl
  | some y=>(obtain ⟨s1,n1,p1⟩:=y;dsimp only;congr 1;funext r;obtain ⟨r1,r2⟩:=r;cases r1<;>rfl)))
theorem wpS_sortRuns {st:SortSt} {Q:Unit -> SortSt -> Prop} (hL:LtH M Ar E s ρ kd P) (h0:∀ p ∈ a₀.toList,P p) (hB:SI kd a₀ st) (hp:pendingOf st = #[]) (h2:2 <= a₀.size)
    (h:∀ st',SI kd a₀ st' -> Seg ρ (arrOf st') 0 a₀.size -> Q () st'):wpS M Ar E s sortRuns' Q st:=by
  rw [sortRuns'_eq]
  refine wpS_bind (wpS_get ?_)
  dsimp only
  rw [hB.size]
  generalize minRun' a₀.size a₀.size 0 = mr
  refine wpS_bind (wpS_mono (wpS_forRange (I:=fun x c st'=>SI kd a₀ st' /\ ∃ lo,c = (none,lo) /\ lo <= a₀.size /\ (x <= lo \/ lo = a₀.size) /\ Ch ρ (arrOf st') 0 lo (pendingOf st').toList)
    (Q:=fun c st'=>SI kd a₀ st' /\ c = (none,a₀.size) /\ Ch ρ (arrOf st') 0 a₀.size (pendingOf st').toList) ?step ?fin ⟨hB,0,rfl,Nat.zero_le _,.inl (Nat.le_refl _),by rw [hp];rfl⟩) ?post)
  case fin =>
    rintro c st' ⟨hB',lo,rfl,l1,l2,hc⟩
    have:lo = a₀.size:=by omega
    subst this
    exact ⟨hB',rfl,hc⟩
  case step =>
    rintro x c st' _ hx ⟨hB',lo,rfl,l1,l2,hc⟩
    dsimp only
    by_cases hge:lo >= a₀.size
    · rw [if_pos hge]
      have:lo = a₀.size:=by omega
      subst this
      exact wpS_pure ⟨hB',rfl,hc⟩
    · rw [if_neg hge]
      refine wpS_bind (wpS_countRun hL h0 (by omega) (by omega) hB' fun m st1 f1 m1 m2 s1=>?_)
      dsimp only
      have hc1:Ch ρ (arrOf st1) 0 lo (pendingOf st1).toList:=by rw [f1.pend];exact hc.congr fun k _ hk=>f1.same k hk
      have go:∀ n st2,1 <= n -> lo + n <= a₀.size -> SI kd a₀ st2 -> Ch ρ (arrOf st2) 0 lo (pendingOf st2).toList -> Seg ρ (arrOf st2) lo (lo + n) -> wpS M Ar E s (restRun a₀.size lo n) (fun r st' =>
          match r with
          | ForInStep.done c'=>SI kd a₀ st' /\ c' = (none,a₀.size) /\ Ch ρ (arrOf st') 0 a₀.size (pendingOf st').toList
          | ForInStep.yield c'=>SI kd a₀ st' /\ ∃ lo,c' = (none,lo) /\ lo <= a₀.size /\ (x + 1 <= lo \/ lo = a₀.size) /\ Ch ρ (arrOf st') 0 lo (pendingOf st').toList) st2:=fun n st2 n1 n2 b1 b2 b3 =>
        wpS_restRun hL h0 b1 l1 b2 n1 b3 fun st' b1 b2=>⟨b1,lo + n,rfl,n2,by omega,b2⟩
      by_cases hlt:m < mr
      · rw [if_pos hlt]
        refine wpS_bind (wpS_lift (wpAny_rule ⟨rfl,?_⟩))
        refine wpS_bind (wpS_binarySort hL h0 (by omega) (by omega) f1.si s1 fun st2 f2 s2=>?_)
        simp only [Bool.not_true,Bool.false_eq_true,if_false]
        have z:=go (min (a₀.size - lo) mr) st2 (by omega) (by omega) f2.si (by rw [f2.pend];exact hc1.congr fun k _ hk=>f2.same k hk) s2
        refine wpS_mono (Q:=_) (Eq.mpr (congrArg (fun t=>wpS M Ar E s t _ st2) (?_:_ = restRun a₀.size lo (min (a₀.size - lo) mr))) z) ?_
        · walk_at "s_rest"
        · intro r st'' hr
          cases r<;>exact hr
      · rw [if_neg hlt]
        have z:=go m st1 m1 (by omega) f1.si hc1 s1
        refine wpS_mono (Q:=_) (Eq.mpr (congrArg (fun t=>wpS M Ar E s t _ st1) (?_:_ = restRun a₀.size lo m)) z) ?_
        · walk_at "s_rest"
        · intro r st'' hr
          cases r<;>exact hr
  case post =>
    rintro c st' ⟨hB',rfl,hc⟩
    dsimp only
    have hpl:(pendingOf st').size <= a₀.size:=by have:=Ch.le hc;simp only [Array.length_toList] at this;omega
    refine wpS_bind (wpS_mono (wpS_forRange (I:=fun x c st'=>c = (none,()) /\ SI kd a₀ st' /\ Ch ρ (arrOf st') 0 a₀.size (pendingOf st').toList /\ ((pendingOf st').size + x <= a₀.size \/ (pendingOf st').size <= 1))
      (Q:=fun c st'=>c = (none,()) /\ SI kd a₀ st' /\ Ch ρ (arrOf st') 0 a₀.size (pendingOf st').toList /\ (pendingOf st').size <= 1) ?fstep ?ffin ⟨rfl,hB',hc,.inl (by omega)⟩) ?fpost)
    case ffin =>
      rintro c st' ⟨rfl,b1,b2,b3⟩
      exact ⟨rfl,b1,b2,by omega⟩
    case fstep =>
      rintro x c st' _ hx ⟨rfl,b1,b2,b3⟩
      refine wpS_bind (wpS_get ?_)
      try dsimp only
      by_cases hz:(pendingOf st').size <= 1
      · rw [if_pos hz]
        exact wpS_pure ⟨rfl,b1,b2,hz⟩
      · rw [if_neg hz]
        refine wpS_bind (wpS_mergeAt hL h0 b1 (Nat.le_refl _) b2 ?_ fun st2 c1 c2 c3 c4=>?_)
        · exact idx_lt _ (by omega)
        · simp only [Bool.not_true,Bool.false_eq_true,if_false]
          exact wpS_pure ⟨rfl,c1,c2,by omega⟩
    case fpost =>
      rintro c st' ⟨rfl,b1,b2,b3⟩
      refine wpS_pure (h st' b1 ?_)
      have hl:(pendingOf st').toList.length <= 1:=by simpa using b3
      generalize (pendingOf st').toList = l at b2 hl
      match l,b2,hl with
      | [],b2,_=>have:0 = a₀.size:=b2;omega
      | [r],⟨_,_,h3,h4⟩,_ =>
        have h4:0 + r.2.1 = a₀.size:=h4
        rw [h4] at h3;exact h3
      | _ :: _ :: _,_,hl=>simp at hl
end
end Vs

set_option Elab.async false
set_option linter.all false
set_option maxRecDepth 100000
namespace Vs
open PySem PyProof.Rows PySem.W
theorem lx_irrefl:∀ a:List Int,HT.lexLt a a = false
  | []=>rfl
  | x :: a=>by rw [HT.lexLt_cons,if_pos rfl];exact lx_irrefl a
theorem lx_trans:∀ a b c:List Int,HT.lexLt a b = true -> HT.lexLt b c = true -> HT.lexLt a c = true
  | [],[],_,h,_=>by cases h
  | [],_ :: _,[],_,h=>by cases h
  | [],_ :: _,_ :: _,_,_=>rfl
  | _ :: _,[],_,h,_=>by cases h
  | _ :: _,_ :: _,[],_,h=>by cases h
  | x :: a,y :: b,z :: c,h1,h2=>by
    rw [HT.lexLt_cons] at h1 h2 ⊢
    by_cases e1:x = y
    · rw [if_pos e1] at h1
      by_cases e2:y = z
      · rw [if_pos e2] at h2
        rw [if_pos (e1.trans e2)];exact lx_trans a b c h1 h2
      · rw [if_neg e2] at h2
        have:=of_decide_eq_true h2
        rw [if_neg (by omega)];exact decide_eq_true (by omega)
    · rw [if_neg e1] at h1
      have h1:=of_decide_eq_true h1
      by_cases e2:y = z
      · rw [if_neg (by omega)];exact decide_eq_true (by omega)
      · rw [if_neg e2] at h2
        have:=of_decide_eq_true h2
        rw [if_neg (by omega)];exact decide_eq_true (by omega)
theorem lx_tri:∀ a b:List Int,HT.lexLt a b = false -> HT.lexLt b a = false -> a = b
  | [],[],_,_=>rfl
  | [],_ :: _,h,_=>by cases h
  | _ :: _,[],_,h=>by cases h
  | x :: a,y :: b,h1,h2=>by
    rw [HT.lexLt_cons] at h1 h2
    by_cases e1:x = y
    · rw [if_pos e1] at h1
      rw [if_pos e1.symm] at h2
      rw [e1,lx_tri a b h1 h2]
    · rw [if_neg e1] at h1
      rw [if_neg (Ne.symm e1)] at h2
      have:=of_decide_eq_false h1
      have:=of_decide_eq_false h2
      omega
noncomputable def rk (d:Keyed -> List Int) (l:List Keyed) (x:Keyed):Nat:=l.countP fun p=>HT.lexLt (d p) (d x)
theorem countP_lt {α:Type} {p q:α -> Bool}:∀ {l:List α} {x:α},(∀ y,p y = true -> q y = true) -> x ∈ l -> p x = false -> q x = true -> l.countP p < l.countP q
  | y :: l,x,h,hx,h1,h2=>by
    rcases List.mem_cons.mp hx with rfl | hx
    · rw [List.countP_cons_of_neg (by rw [h1];decide),List.countP_cons_of_pos h2]
      exact Nat.lt_succ_of_le (List.countP_mono_left fun y _=>h y)
    · have ih:=countP_lt h hx h1 h2
      rw [List.countP_cons,List.countP_cons]
      cases e:p y with
      | true=>rw [h y e];simpa using ih
      | false=>split<;>split<;>first | omega | (exfalso;simp_all)
theorem rk_lt {d:Keyed -> List Int} {l:List Keyed} {x y:Keyed} (hx:x ∈ l):decide (rk d l x < rk d l y) = HT.lexLt (d x) (d y):=by
  cases e:HT.lexLt (d x) (d y) with
  | true =>
    refine decide_eq_true (countP_lt (x:=x) (fun p hp=>lx_trans _ _ _ hp e) hx (lx_irrefl _) e)
  | false =>
    refine decide_eq_false (Nat.not_lt.mpr (List.countP_mono_left fun p _ hp=>?_))
    cases e2:HT.lexLt (d p) (d x) with
    | true=>rfl
    | false =>
      cases e3:HT.lexLt (d x) (d p) with
      | true=>rw [lx_trans _ _ _ e3 hp] at e;cases e
      | false =>
        rw [lx_tri _ _ e2 e3] at hp
        rw [hp] at e;cases e
section
variable {prog:Program} {w:World} {A:Around} {E:Value -> Shared -> Prop} {s:Shared}
theorem katLex_ints {b:Bool} {Q:Bool -> Shared -> Prop}:∀ {vs ws:List Value} {ns ms:List Int} (i:Nat) (fin:Bool),IntsAre vs ns -> IntsAre ws ms -> fin = decide (vs.length < ws.length) -> Q (HT.lexLt ns ms) s -> KatLex prog w A b fin Q (vs.zip ws) i s
  | _,_,_,_,i,fin,.nil,.nil,e,q=>by subst e;exact kat_nil q
  | _,_,_,_,i,fin,.nil,.cons _ _ _,e,q=>by subst e;rw [HT.lexLt_nil_cons] at q;exact kat_nil (by simpa using q)
  | _,_,_,_,i,fin,.cons _ _ _,.nil,e,q=>by subst e;rw [HT.lexLt_cons_nil] at q;exact kat_nil (by simpa using q)
  | _,_,_,_,i,fin,.cons n t h1,.cons m u h2,e,q=>by
    rw [List.zip_cons_cons]
    refine kat_cons (wpAny_eqBool_int ?_)
    rw [HT.lexLt_cons] at q
    by_cases h:n = m
    · rw [if_pos h] at q
      rw [show (n == m) = true from by simpa using h]
      exact kat_yes (katLex_ints (i + 1) fin h1 h2 (by rw [e];simp) q)
    · rw [if_neg h] at q
      rw [show (n == m) = false from by simpa using h]
      refine kat_no ?_
      cases (b && i == 0) with
      | true=>exact oneLt_int q
      | false=>exact kat_one _ _ (lt_int q)
noncomputable def TupI (h:Heap) (v:Value) (ns:List Int):Prop:=∃ a o xs n,v = .ref a /\ h.get? a = some o /\ o.cls = .type "tuple" /\ o.data = .seq xs n /\ IntsAre xs.toList ns
theorem TupI.kept {h g:Heap} {v:Value} {ns:List Int} (t:TupI h v ns) (k:∀ b o,h.get? b = some o -> g.get? b = some o):TupI g v ns:=by
  obtain ⟨a,o,xs,n,e,ho,r⟩:=t
  exact ⟨a,o,xs,n,e,k _ _ ho,r⟩
theorem keyLt_tup {b:Bool} {v u:Value} {ns ms:List Int} {Q:Bool -> Shared -> Prop} (h1:TupI s.heap v ns) (h2:TupI s.heap u ms) (q:Q (HT.lexLt ns ms) s):wpAny (model prog w) A (keyLt' (tuples' b) v u) Q E s:=by
  obtain ⟨a,o,xs,n,rfl,ho,hc,hd,hi⟩:=h1
  obtain ⟨a2,o2,xs2,n2,rfl,ho2,hc2,hd2,hi2⟩:=h2
  exact kat_lt ho hd ho2 hd2 (katLex_ints 0 _ hi hi2 (by simp) q)
theorem ltH_tup {b:Bool} {l:List Keyed} {d:Keyed -> List Int} (h:∀ x ∈ l,TupI s.heap x.1 (d x)):LtH (model prog w) A E s (rk d l) (tuples' b) (fun x=>x ∈ l):=fun x y st Q hx hy hk q=>by
  rw [rk_lt hx] at q
  rw [lt'_eq]
  refine wpS_bind (wpS_get ?_)
  rw [hk]
  exact wpS_bind (wpS_lift (wpAny_attempt (keyLt_tup (h x hx) (h y hy) ⟨rfl,wpS_pure q⟩)))
theorem kind_tup {vs:List Value} {Q:SortKind -> Shared -> Prop} (hl:0 < vs.length) (h:∀ v ∈ vs,∃ ns,TupI s.heap v ns /\ ns ≠ []) (q:Q (tuples' true) s):wpAny (model prog w) A (keyKind' vs.toArray) Q E s:=by
  have key:∀ vs:List Value,(∀ v ∈ vs,∃ ns,TupI s.heap v ns /\ ns ≠ []) -> ∃ fs,KatTups s.heap vs fs /\ fs.length = vs.length /\ ∀ v ∈ fs,∃ n t,v = Value.int n t:=by
    intro vs
    induction vs with
    | nil=>intro _;exact ⟨[],KatTups.nil,rfl,fun v hv=>by cases hv⟩
    | cons v vs ih =>
      intro h
      obtain ⟨ns,⟨a,o,xs,n,rfl,ho,hc,hd,hi⟩,hne⟩:=h v (List.mem_cons_self ..)
      obtain ⟨fs,f1,f2,f3⟩:=ih fun u hu=>h u (List.mem_cons_of_mem _ hu)
      obtain ⟨f,hf,hn⟩:∃ f,xs[0]? = some f /\ ∃ n t,f = Value.int n t:=by
        rw [<- Array.getElem?_toList]
        generalize xs.toList = ys at hi
        cases hi with
        | nil=>exact absurd rfl hne
        | cons n t _=>exact ⟨_,rfl,n,t,rfl⟩
      refine ⟨f :: fs,KatTups.cons ho hc hd hf f1,by simp [f2],fun v hv=>?_⟩
      rcases List.mem_cons.mp hv with rfl | hv
      · exact hn
      · exact f3 v hv
  obtain ⟨fs,f1,f2,f3⟩:=key vs h
  refine kat_kind (T:=.type "int") f1 (by omega) (fun v hv=>?_) rfl q
  obtain ⟨n,t,rfl⟩:=f3 v hv
  exact Looks.now
theorem list_sort_any {a:Addr} {vs:List Value} {n:Nat} {kd:SortKind} {ρ:Keyed -> Nat} {P:Keyed -> Prop} {Pf:PySem.Fin -> Shared -> Prop} (ho:s.heap.get? a = some (seqObj "list" vs.toArray n)) (hz:vs.length <= sizeLine) (h0:∀ p ∈ (pairsOf vs).toList,P p)
    (hk:2 <= vs.length -> ∀ g:Heap,(∀ b o,b ≠ a -> s.heap.get? b = some o -> g.get? b = some o) -> (∀ Q:SortKind -> Shared -> Prop,Q kd { s with heap:=g } -> wpAny (model prog w) A (keyKind' vs.toArray) Q E { s with heap:=g }) /\ LtH (model prog w) A E { s with heap:=g } ρ kd P)
    (h:∀ (xs:Array Keyed) (g:Heap) (c:Nat),xs.Perm (pairsOf vs) -> Seg ρ xs 0 vs.length -> (∀ b o,b ≠ a -> s.heap.get? b = some o -> g.get? b = some o) -> g.get? a = some (seqObj "list" (xs.map (·.2)) c) -> Pf (.done (.ret .none)) { s with heap:=g }) :
    wpAny (model prog w) A (Builtin.«list.sort» ⟨[.ref a],[]⟩) Pf E s:=by
  rw [list_sort_plain]
  have ha:a < s.heap.objs.size:=Heap.lt_size ho
  have hsz:vs.toArray.size = vs.length:=by simp
  refine wpAny_bind (listItems_at ho rfl ?_)
  refine wpAny_bind (listUpdate_at ho rfl ?_ (by rw [hsz];exact hz) (Nat.zero_le _))
  obtain ⟨e1,ho1⟩:∃ e1,(s.heap.update a (Obj.mapSeq fun _=>#[])).get? a = some (seqObj "list" #[] e1):=⟨_,get?_update_seq ho (fun _=>#[])⟩
  refine wpAny_bind (seqEpoch_at ho1 rfl ?_)
  refine wpAny_bind (wpAny_newTuple ?_ (by show vs.length <= _;exact hz))
  refine wpAny_bind (wpAny_newList ?_ (Nat.zero_le _))
  refine wpAny_holding ?_
  have keep:∀ b o,b ≠ a -> s.heap.get? b = some o -> (((s.heap.update a (Obj.mapSeq fun _=>#[])).push (seqObj "tuple" vs.toArray 0)).push (seqObj "list" #[] 0)).get? b = some o:=fun b o hb e =>
    Heap.get?_push_of_some _ (Heap.get?_push_of_some _ ((Heap.get?_update_other _ _ (Ne.symm hb)).trans e))
  have ho6:(((s.heap.update a (Obj.mapSeq fun _=>#[])).push (seqObj "tuple" vs.toArray 0)).push (seqObj "list" #[] 0)).get? a = some (seqObj "list" #[] e1):=Heap.get?_push_of_some _ (Heap.get?_push_of_some _ ho1)
  show wpAny (model prog w) A _ Pf E { s with heap:=((s.heap.update a (Obj.mapSeq fun _=>#[])).push (seqObj "tuple" vs.toArray 0)).push (seqObj "list" #[] 0) }
  dsimp only
  generalize hg6:((s.heap.update a (Obj.mapSeq fun _=>#[])).push (seqObj "tuple" vs.toArray 0)).push (seqObj "list" #[] 0) = g6 at keep ho6
  have fin:∀ xs:Array Keyed,xs.Perm (pairsOf vs) -> Seg ρ xs 0 vs.length -> Pf (.done (.ret .none)) { s with heap:=g6.update a (Obj.mapSeq fun _=>xs.map (·.2)) }:=fun xs hp hs =>
    h xs _ _ hp hs (fun b o hb e=>(Heap.get?_update_other _ _ (Ne.symm hb)).trans (keep b o hb e)) (get?_update_seq ho6 fun _=>xs.map (·.2))
  by_cases h2:vs.toArray.size < 2
  · rw [if_pos h2,if_pos h2]
    refine wpAny_bind (wpAny_pure ?_)
    rw [StateT.run_pure]
    refine wpAny_bind (wpAny_pure ?_)
    dsimp only
    refine wpAny_bind (seqEpoch_at ho6 rfl ?_)
    refine wpAny_bind (listUpdate_at ho6 rfl ?_ (Nat.zero_le _) (by rw [Array.size_map];show (pairsOf vs).size <= _;rw [pairsOf_size];exact Nat.le_succ_of_le hz))
    simp only [bne_self_eq_false,Bool.false_eq_true,if_false]
    refine wpAny_pure (fin _ (Array.Perm.refl _) fun i j _ hij hj=>?_)
    have:i = j:=by omega
    subst this;exact Nat.le_refl _
  · rw [if_neg h2,if_neg h2]
    obtain ⟨k1,k2⟩:=hk (by omega) g6 keep
    refine wpAny_bind (k1 _ ?_)
    refine wpAny_bind (wpAny_mono (wpS_sortRuns (a₀:=pairsOf vs) (kd:=kd) (st:=SortSt.mk' kd (vs.toArray.zip vs.toArray) #[] 7 none)
      (Q:=fun _ st'=>SI kd (pairsOf vs) st' /\ Seg ρ (arrOf st') 0 (pairsOf vs).size) k2 h0 ⟨Array.Perm.refl _,rfl,rfl⟩ rfl (by rw [pairsOf_size];omega) fun st' a1 a2=>⟨a1,a2⟩) ?_ fun _ _ e=>e)
    rintro ⟨⟨⟩,st'⟩ s' ⟨rfl,hp,hs⟩
    dsimp only
    refine wpAny_bind (seqEpoch_at ho6 rfl ?_)
    refine wpAny_bind (listUpdate_at ho6 rfl ?_ (Nat.zero_le _) (by refine Nat.le_trans (Nat.le_of_eq ((Array.size_map ..).trans (hp.size.trans (pairsOf_size _)))) ?_;exact Nat.le_succ_of_le hz))
    rw [hp.failed]
    simp only [bne_self_eq_false,Bool.false_eq_true,if_false]
    rw [pairsOf_size] at hs
    exact wpAny_pure (fin _ hp.perm hs)
theorem sorted_any {l:Addr} {vs:List Value} {kd:SortKind} {ρ:Keyed -> Nat} {P:Keyed -> Prop} {Q:Value -> Shared -> Prop} (hl:s.heap.IsList l vs.toArray) (hz:vs.length <= sizeLine) (h0:∀ p ∈ (pairsOf vs).toList,P p)
    (hk:2 <= vs.length -> ∀ (A':Around) (E':Value -> Shared -> Prop) (g:Heap),(∀ b o,s.heap.get? b = some o -> g.get? b = some o) -> (∀ Q:SortKind -> Shared -> Prop,Q kd { s with heap:=g } -> wpAny (model prog w) A' (keyKind' vs.toArray) Q E' { s with heap:=g }) /\ LtH (model prog w) A' E' { s with heap:=g } ρ kd P)
    (h:∀ (xs:Array Keyed) (g:Heap) (c:Nat),xs.Perm (pairsOf vs) -> Seg ρ xs 0 vs.length -> (∀ b o,s.heap.get? b = some o -> g.get? b = some o) -> g.get? (s.heap.objs.size + 1) = some (seqObj "list" (xs.map (·.2)) c) -> Q (.ref (s.heap.objs.size + 1)) { s with heap:=g }) :
    wpAny (model prog w) A (call (.builtin "sorted") [.ref l]) Q E s:=by
  refine Calls.call_function_entry kind_sorted plain_sorted entry_sorted (args_sorted1 _) ?_
  unfold Builtin.«sorted»
  refine wpAny_bind (m:=checkCount "sorted" 1 1 _) (wpAny_pure ?_)
  refine wpAny_bind (collect_list hl ?_ hz)
  refine wpAny_bind (wpAny_newList ?_ hz)
  have hsz:((s.heap.push (seqObj "list" #[] 0)).update s.heap.objs.size (Obj.mapSeq (· ++ vs.toArray))).objs.size = s.heap.objs.size + 1:=by
    rw [Heap.size_update,size_push']
  have hoL:(((s.heap.push (seqObj "list" #[] 0)).update s.heap.objs.size (Obj.mapSeq (· ++ vs.toArray))).push (seqObj "list" vs.toArray 0)).get? (s.heap.objs.size + 1) = some (seqObj "list" vs.toArray 0):=by
    rw [<- hsz];exact Heap.get?_push_size _ rfl
  have keep:∀ b o,s.heap.get? b = some o -> (((s.heap.push (seqObj "list" #[] 0)).update s.heap.objs.size (Obj.mapSeq (· ++ vs.toArray))).push (seqObj "list" vs.toArray 0)).get? b = some o:=fun b o e=>by
    have hlt:b < s.heap.objs.size:=Heap.lt_size e
    exact Heap.get?_push_of_some _ ((Heap.get?_update_other _ _ (Ne.symm (Nat.ne_of_lt hlt))).trans (Heap.get?_push_of_some _ e))
  have ne:∀ b o,s.heap.get? b = some o -> b ≠ s.heap.objs.size + 1:=fun b o e=>Nat.ne_of_lt (Nat.lt_succ_of_lt (Heap.lt_size e))
  show wpAny _ _ _ _ _ { s with heap:=((s.heap.push (seqObj "list" #[] 0)).update s.heap.objs.size (Obj.mapSeq (· ++ vs.toArray))).push (seqObj "list" vs.toArray 0) }
  rw [hsz]
  refine wpAny_bind (wpAny_holding (wpAny_call_entry slot_list_sort ⟨_,hoL,rfl⟩ entry_list_sort (list_sort_any (kd:=kd) (ρ:=ρ) (P:=P) hoL hz h0 (fun h2 g kg=>hk h2 _ _ g fun b o e=>kg b o (ne b o e) (keep b o e)) fun xs g c a1 a2 a3 a4=>⟨_,rfl,?_⟩) (args_list_sort _)))
  exact wpAny_pure ⟨_,rfl,h xs g c a1 a2 (fun b o e=>a3 b o (ne b o e) (keep b o e)) a4⟩
end
end Vs

set_option Elab.async false
set_option linter.all false
set_option maxRecDepth 100000
namespace Vc
open PySem L2
noncomputable def toV:Value -> V
  | .ref a=>.ref a
  | _=>.non
theorem vals_toV {us:List V} {its:List Value} (r:Vals us its) (h:∀ u ∈ us,∃ a,u = .ref a):us = its.map toV:=by
  induction r with
  | nil=>rfl
  | cons r _ ih =>
    obtain ⟨a,rfl⟩:=h _ (List.mem_cons_self ..)
    cases r
    rw [List.map_cons,<- ih fun u hu=>h u (List.mem_cons_of_mem _ hu)];rfl
theorem vals_of {its:List Value} (h:∀ v ∈ its,∃ a,v = .ref a):Vals (its.map toV) its:=by
  induction its with
  | nil=>exact .nil
  | cons v its ih =>
    obtain ⟨a,rfl⟩:=h _ (List.mem_cons_self ..)
    exact .cons rfl (ih fun u hu=>h u (List.mem_cons_of_mem _ hu))
theorem zip_selfV {α:Type}:∀ l:List α,l.zip l = l.map fun x=>(x,x)
  | []=>rfl
  | x :: l=>by rw [List.zip_cons_cons,List.map_cons,zip_selfV l]
theorem call_sorted {X:Cx}:CallR X (.builtin "sorted") (fun xs H Q=>∃ (p:Addr) (us:List V) (dd:V -> List Int),xs = [.ref p] /\ SqL X.K H p us /\ (∀ u ∈ us,(∃ a,u = .ref a /\ SqT X.K H a ((dd u).map V.int)) /\ dd u ≠ []) /\
    ∀ (us':List V),us'.Perm us -> us'.Pairwise (fun x y=>HT.lexLt (dd y) (dd x) = false) -> ∀ l,H l = none -> Q (.ref l) (upd H l (.lst us'))):=by
  intro pins s σ H xs us0 Q I r h
  obtain ⟨p,us,dd,rfl,hq,hu,q⟩:=h
  obtain ⟨u,rfl,rx⟩:=vals1 r
  cases rx
  obtain ⟨its,rv,pl,hz⟩:=I.list hq
  have hlen:=rv.length
  have eus:us = its.map toV:=vals_toV rv fun u h=>by obtain ⟨⟨a,e,_⟩,_⟩:=hu u h;exact ⟨a,e⟩
  have itr:∀ v ∈ its,∃ a,v = .ref a:=fun v hv=>by
    obtain ⟨i,hi,e⟩:=List.mem_iff_getElem.mp hv
    obtain ⟨u,hu1,ru⟩:=rv.get (i:=i) (x:=us[i]'(by omega)) (List.getElem?_eq_getElem _)
    rw [List.getElem?_eq_getElem hi] at hu1
    cases hu1
    obtain ⟨⟨a,e2,_⟩,_⟩:=hu (us[i]'(by omega)) (List.getElem_mem _)
    rw [e2] at ru
    exact ⟨a,by rw [<- e];exact ru⟩
  have tup:∀ v ∈ its,Vs.TupI s.heap v (dd (toV v)) /\ dd (toV v) ≠ []:=fun v hv=>by
    obtain ⟨a,rfl⟩:=itr v hv
    have hm:toV (.ref a) ∈ us:=by rw [eus];exact List.mem_map.mpr ⟨_,hv,rfl⟩
    obtain ⟨⟨b,e,hT⟩,hne⟩:=hu _ hm
    cases e
    obtain ⟨ts,r1,⟨o,ho,hc,n,hd⟩,_⟩:=I.tuple hT
    exact ⟨⟨a,o,ts.toArray,n,rfl,ho,hc,hd,intsAre_of r1⟩,hne⟩
  have mem:∀ x:PyProof.Rows.Keyed,x ∈ (PyProof.Rows.pairsOf its).toList -> x.1 ∈ its /\ x.1 = x.2:=fun x hx=>by
    rw [PyProof.Rows.pairsOf_toList,zip_selfV] at hx
    obtain ⟨v,hv,rfl⟩:=List.mem_map.mp hx
    exact ⟨hv,rfl⟩
  refine Vs.sorted_any (kd:=PyProof.Rows.tuples' true) (ρ:=Vs.rk (fun x=>dd (toV x.1)) (PyProof.Rows.pairsOf its).toList) (P:=fun x=>x ∈ (PyProof.Rows.pairsOf its).toList) pl.isList (by omega) (fun _ h=>h) (fun h2 A' E' g kg=>⟨fun Q hQ=>?_,?_⟩) fun xs g c hp hs kg hg=>?_
  · exact Vs.kind_tup (s:={ s with heap:=g }) (by omega) (fun v hv=>⟨_,(tup v hv).1.kept kg,(tup v hv).2⟩) hQ
  · exact Vs.ltH_tup (s:={ s with heap:=g }) fun x hx=>(tup x.1 (mem x hx).1).1.kept kg
  · have hpl:xs.toList.Perm (PyProof.Rows.pairsOf its).toList:=Array.perm_iff_toList_perm.mp hp
    have hsz:xs.size = its.length:=by have:=hp.size_eq;rw [PyProof.Rows.pairsOf_size] at this;exact this
    have hm2:∀ x ∈ xs.toList,x.1 ∈ its /\ x.1 = x.2:=fun x hx=>mem x (hpl.mem_iff.mp hx)
    have perm:(xs.toList.map fun x=>toV x.2).Perm us:=by
      rw [eus]
      refine (hpl.map fun x=>toV x.2).trans ?_
      rw [PyProof.Rows.pairsOf_toList,zip_selfV,List.map_map]
      exact List.Perm.refl _
    have eq2:xs.toList.map (fun x=>toV x.2) = (xs.map (·.2)).toList.map toV:=by
      rw [Array.toList_map,List.map_map];rfl
    refine ⟨.ref (s.heap.objs.size + 1),_,I.laid (t':=s.toks) (o:=.lst (xs.toList.map fun x=>toV x.2)) kg (Nat.le_succ _) ⟨?_,(xs.map (·.2)).toList,c,?_,hg⟩,rfl,q _ perm ?_ _ (I.hok.fresh (Nat.le_succ _))⟩
    · rw [perm.length_eq];exact hz
    · rw [eq2]
      refine vals_of fun v hv=>?_
      rw [Array.toList_map] at hv
      obtain ⟨x,hx,rfl⟩:=List.mem_map.mp hv
      have:=hm2 x hx
      exact itr _ (this.2 ▸ this.1)
    · rw [List.pairwise_map]
      refine List.pairwise_iff_getElem.mpr fun i j hi hj hij=>?_
      have hi':i < xs.size:=by simpa using hi
      have hj':j < xs.size:=by simpa using hj
      have h1:=hs i j (Nat.zero_le _) (Nat.le_of_lt hij) (by omega)
      rw [Vs.R_at (Array.getElem?_eq_getElem hi'),Vs.R_at (Array.getElem?_eq_getElem hj')] at h1
      have e1:xs.toList[i] = xs[i]:=rfl
      have e2:xs.toList[j] = xs[j]:=rfl
      rw [e1,e2]
      have m1:=hm2 xs[i] (by simp)
      have m2:=hm2 xs[j] (by simp)
      have:=Vs.rk_lt (d:=fun x=>dd (toV x.1)) (l:=(PyProof.Rows.pairsOf its).toList) (x:=xs[j]) (y:=xs[i]) (hpl.mem_iff.mp (by simp))
      rw [decide_eq_false (by omega)] at this
      rw [<- m1.2,<- m2.2]
      exact this.symm
variable [KF]
variable {G:GE} {k:Nat} {S:Stat}
noncomputable def keyD:D -> List Int
  | .tup xs=>xs.map intV
  | .int i=>[i]
  | _=>[]
noncomputable def leK (x y:D):Bool:=!HT.lexLt (keyD y) (keyD x)
noncomputable def sortD (xs:List D):List D:=xs.mergeSort leK
noncomputable def intT:D -> Bool
  | .tup xs=>xs.all isInt && !xs.isEmpty
  | _=>false
theorem leK_trans (a b c:D) (h1:leK a b = true) (h2:leK b c = true):leK a c = true:=by
  unfold leK at *
  simp only [Bool.not_eq_true'] at *
  cases e:HT.lexLt (keyD c) (keyD a) with
  | false=>rfl
  | true =>
    cases e2:HT.lexLt (keyD c) (keyD b) with
    | true=>rw [h2] at e2;cases e2
    | false =>
      cases e3:HT.lexLt (keyD b) (keyD c) with
      | true=>rw [Vs.lx_trans _ _ _ e3 e] at h1;cases h1
      | false=>rw [Vs.lx_tri _ _ e2 e3] at e;rw [e] at h1;cases h1
theorem leK_total (a b:D):(leK a b || leK b a) = true:=by
  unfold leK
  cases e:HT.lexLt (keyD b) (keyD a) with
  | false=>rfl
  | true =>
    cases e2:HT.lexLt (keyD a) (keyD b) with
    | false=>rfl
    | true=>have:=Vs.lx_trans _ _ _ e e2;rw [Vs.lx_irrefl] at this;cases this
theorem sortD_perm (xs:List D):(sortD xs).Perm xs:=List.mergeSort_perm xs leK
theorem sortD_sorted (xs:List D):(sortD xs).Pairwise fun x y=>leK x y = true:=List.pairwise_mergeSort leK_trans leK_total xs
theorem ints_map:∀ {xs:List D},xs.all isInt = true -> (xs.map intV).map D.int = xs
  | [],_=>rfl
  | x :: xs,h=>by
    rw [List.all_cons,Bool.and_eq_true] at h
    cases x with
    | int i=>rw [List.map_cons,List.map_cons,ints_map h.2];rfl
    | _=>exact absurd h.1 (by simp [isInt])
theorem intT_eq {d:D} (h:intT d = true):d = .tup ((keyD d).map D.int):=by
  cases d with
  | tup xs =>
    unfold intT at h
    rw [Bool.and_eq_true] at h
    show D.tup xs = .tup ((xs.map intV).map D.int)
    rw [ints_map h.1]
  | _=>exact absurd h (by simp [intT])
theorem perm_sorted_eq {α:Type} {r:α -> α -> Prop}:∀ {l m:List α},l.Perm m -> (∀ a ∈ l,∀ b ∈ l,r a b -> r b a -> a = b) -> l.Pairwise r -> m.Pairwise r -> l = m
  | [],m,h,_,_,_=>(List.nil_perm.mp h).symm
  | a :: l,[],h,_,_,_=>by have:=h.length_eq;simp at this
  | a :: l,b :: m,h,anti,h1,h2=>by
    have hb:b ∈ a :: l:=h.symm.mem_iff.mp (List.mem_cons_self ..)
    have ha:a ∈ b :: m:=h.mem_iff.mp (List.mem_cons_self ..)
    rw [List.pairwise_cons] at h1 h2
    have e:a = b:=by
      rcases List.mem_cons.mp hb with e | hb
      · exact e.symm
      · rcases List.mem_cons.mp ha with e | ha
        · exact e
        · exact anti a (List.mem_cons_self ..) b (List.mem_cons_of_mem _ hb) (h1.1 b hb) (h2.1 a ha)
    subst e
    rw [perm_sorted_eq h.cons_inv (fun x hx y hy=>anti x (List.mem_cons_of_mem _ hx) y (List.mem_cons_of_mem _ hy)) h1.2 h2.2]
theorem sortD_eq {xs ys:List D} (h:xs.all intT = true) (hp:ys.Perm xs) (hs:ys.Pairwise fun x y=>leK x y = true):ys = sortD xs:=by
  refine perm_sorted_eq (hp.trans (sortD_perm xs).symm) (fun a ha b hb h1 h2=>?_) hs (sortD_sorted xs)
  have ia:=intT_eq (List.all_eq_true.mp h a (hp.mem_iff.mp ha))
  have ib:=intT_eq (List.all_eq_true.mp h b (hp.mem_iff.mp hb))
  unfold leK at h1 h2
  simp only [Bool.not_eq_true'] at h1 h2
  rw [ia,ib,Vs.lx_tri _ _ h2 h1]
noncomputable def sortedF:List D -> (EV -> Prop) -> Prop
  | [.lst xs],Q=>xs.all intT = true /\ Q (.own (sortD xs))
  | _,_=>False
noncomputable def ddF (F:Hp):V -> List Int
  | .ref a=>match F a with
    | some (.tup vs)=>vs.map fun v=>match v with | .int i=>i | _=>0
    | _=>[]
  | _=>[]
theorem ddF_rep {F:Hp} {v:V} {d:D} (r:Rep F v d) (h:intT d = true):ddF F v = keyD d /\ ∃ a,v = .ref a /\ F a = some (.tup ((keyD d).map V.int)):=by
  cases r with
  | tup hf rl =>
    unfold intT at h
    rw [Bool.and_eq_true] at h
    have e:=rl.ints h.1
    subst e
    refine ⟨?_,_,rfl,hf⟩
    unfold ddF
    dsimp only
    rw [hf]
    dsimp only
    rw [List.map_map]
    exact (List.map_congr_left (fun x _=>rfl)).trans (List.map_id _)
  | _=>exact absurd h (by simp [intT])
theorem repL_map {F:Hp}:∀ {vs:List V} {xs:List D},RepL F vs xs -> xs.all intT = true -> xs = vs.map fun v=>.tup ((ddF F v).map D.int)
  | _,_,.nil,_=>rfl
  | _,_,.cons r t,h=>by
    rw [List.all_cons,Bool.and_eq_true] at h
    rw [List.map_cons,<- repL_map t h.2,(ddF_rep r h.1).1,<- intT_eq h.1]
theorem RepL.mem {F:Hp}:∀ {vs:List V} {xs:List D},RepL F vs xs -> ∀ v ∈ vs,∃ d ∈ xs,Rep F v d
  | _,_,.cons r t,v,hv=>by
    rcases List.mem_cons.mp hv with rfl | hv
    · exact ⟨_,List.mem_cons_self ..,r⟩
    · obtain ⟨d,hd,rd⟩:=RepL.mem t v hv
      exact ⟨d,List.mem_cons_of_mem _ hd,rd⟩
theorem repL_of {F:Hp} {f:V -> D}:∀ {vs:List V},(∀ v ∈ vs,Rep F v (f v)) -> RepL F vs (vs.map f)
  | [],_=>.nil
  | v :: vs,h=>.cons (h v (List.mem_cons_self ..)) (repL_of fun u hu=>h u (List.mem_cons_of_mem _ hu))
theorem f_sorted:ClR G k S (.builtin "sorted") sortedF:=⟨fun K xs H Q=>∃ (p:Addr) (us:List V) (dd:V -> List Int),xs = [.ref p] /\ SqL K H p us /\ (∀ u ∈ us,(∃ a,u = .ref a /\ SqT K H a ((dd u).map V.int)) /\ dd u ≠ []) /\
    ∀ (us':List V),us'.Perm us -> us'.Pairwise (fun x y=>HT.lexLt (dd y) (dd x) = false) -> ∀ l,H l = none -> Q (.ref l) (upd H l (.lst us')),fun _ _ ok=>call_sorted,fun Y F H σd σ vs ds Qd Q R r q g=>by
  unfold sortedF at q
  split at q
  · rename_i xs
    obtain ⟨v,rfl,rv⟩:=r.one
    obtain ⟨p,us,rfl,h1,h2⟩:=rv.lst
    have all:=List.all_eq_true.mp q.1
    refine ⟨p,us,ddF F,rfl,.inl h1,fun u hu=>?_,fun us' hp hs=>?_⟩
    · obtain ⟨d,hd,rd⟩:=h2.mem u hu
      obtain ⟨e1,a,rfl,e2⟩:=ddF_rep rd (all d hd)
      refine ⟨⟨a,rfl,.of (by rw [e1];exact R.fr _ _ e2)⟩,?_⟩
      rw [e1]
      have hi:=all d hd
      cases d with
      | tup ys =>
        unfold intT at hi
        rw [Bool.and_eq_true] at hi
        intro z
        have:ys = []:=by simpa [keyD] using z
        subst this
        exact absurd hi.2 (by decide)
      | _=>exact absurd hi (by simp [intT])
    · have ex:=repL_map h2 q.1
      have rep:∀ v ∈ us',Rep F v (.tup ((ddF F v).map D.int)):=fun v hv=>by
        obtain ⟨d,hd,rd⟩:=h2.mem v (hp.mem_iff.mp hv)
        rw [(ddF_rep rd (all d hd)).1,<- intT_eq (all d hd)];exact rd
      have key:∀ v,keyD (.tup ((ddF F v).map D.int)) = ddF F v:=fun v=>by
        show ((ddF F v).map D.int).map intV = _
        rw [List.map_map]
        exact (List.map_congr_left (fun x _=>rfl)).trans (List.map_id _)
      have e:us'.map (fun v=>D.tup ((ddF F v).map D.int)) = sortD xs:=by
        refine sortD_eq q.1 (by rw [ex];exact hp.map _) ?_
        rw [List.pairwise_map]
        refine hs.imp fun {x y} h=>?_
        unfold leK
        rw [key,key,h];rfl
      have rl:=repL_of rep
      rw [e] at rl
      exact g.own R rl q.2
  · exact q.elim⟩
end Vc

set_option Elab.async false
set_option linter.all false
set_option maxRecDepth 100000
namespace Vc
open PySem L2
variable [KF]
variable {G:GE} {k:Nat} {S:Stat}
noncomputable def itemQ (i:Nat) (j:Int) (d:D) (σ:Sd) (Q:Sd -> Prop):Prop:=match σ[i]? with
  | some (some (.own xs))=>match ixN xs.length j with
    | some m=>Q (σ.set i (some (.own (xs.set m d))))
    | none=>False
  | _=>False
noncomputable def tItem (i:Nat) (tx:TV) (te:TD):TSd:=fun De σ=>te σ fun d σ1=>isOwn σ1 i /\ tx σ1 fun y σ2=>match drf σ2 y with
  | some (.int j)=>itemQ i j d σ2 De.nx
  | _=>False
theorem ps_imp' {X:Cx} {st:Stmt} {t t':TS} (h:PS X st t) (i:∀ Dn σ H,t' Dn σ H -> t Dn σ H):PS X st t':=fun pins s σ H Dn I q=>h pins s σ H Dn I (i Dn σ H q)
theorem s_item (i:Nat) {x:Str} {ix e:Expr} {tx:TV} {te:TD} {pos spos npos:Pos} (he:ED G k S e te) (hx:EO G k S ix tx) (ho:EO G k S (.Name x npos) (tVarD i))
    (hs:∀ line env,swapsWithSole [.Subscript (.Name x npos) ix spos] e line env = pure false:=by intro _ _;rfl) (hw:∀ env,swappedStores [.Subscript (.Name x npos) ix spos] e env = pure none:=by intro _;rfl)
    (h1:∀ env,(assignEach [.Subscript (.Name x npos) ix spos] env).map (·.2) = [assign (.Subscript (.Name x npos) ix spos) env]:=by intro _;rfl)
    (ha:∀ env v,assign (.Subscript (.Name x npos) ix spos) env v = (do
      let ov <- holding [v] (eval (.Name x npos) env)
      let iv <- holding [v,ov] (eval ix env)
      standAt spos
      holding [v,ov,iv] (setItem ov iv v)
      release [v,ov,iv] []):=by intro _ _;rfl):ES G k S (.Assign [.Subscript (.Name x npos) ix spos] e pos) (tItem i tx te):=.mk fun X Y ok =>
  ps_imp' (ps_asg (he X Y ok) (pg_sub (ho X Y ok) (hx X Y ok) set_list (ha _)) (hs _ _) (hw _) (h1 _)) fun Dn σ H q=>by
    obtain ⟨F,σd,De,R,q,K⟩:=q
    refine ⟨F,σd,_,R,q,fun v H1 F1 d σ1 s1 R1 r1 q1=>?_⟩
    obtain ⟨⟨ys,e0⟩,q1⟩:=q1
    refine ⟨F1,σ1,fun ov σ2=>ov = .var i /\ σ2 = σ1,R1,?_,fun v2 H2 F2 ov σ2 s2 R2 r2 q2=>?_⟩
    · unfold tVarD;rw [e0];exact ⟨rfl,rfl⟩
    · obtain ⟨rfl,rfl⟩:=q2
      have r2:σ[i]? = some (some v2):=r2
      refine ⟨F2,σ2,_,R2,q1,fun v3 H3 F3 y σ3 s3 R3 r3 q3=>?_⟩
      split at q3
      · rename_i j ej
        unfold itemQ at q3
        split at q3
        · rename_i xs ex
          split at q3
          · rename_i m em
            obtain ⟨a,vs,w1,w2,w3,w4,w5⟩:=R3.own i xs ex
            rw [r2] at w1;cases w1
            have rj:=(R3.drf r3 ej).int
            subst rj
            refine ⟨a,vs,j,m,rfl,rfl,w2,by rw [w3.length];exact em,?_⟩
            exact K.nx _ _ F3 _ ((s1.trans s2).trans s3) (R3.write ex r2 (RepL.set ((r1.mono s2).mono s3) m w3)) q3
          · exact q3.elim
        · exact q3.elim
      · exact q3.elim

noncomputable abbrev FIo:=List D -> List D -> (B -> List D -> Prop) -> Prop
noncomputable def spOfIo (sp:FIo):Sp:=fun vs H Q _=>∃ F xs ds a us rest Qd,vs = .ref a :: rest /\ SameT F H /\ H a = some (.lst us) /\ RepL F us xs /\ F a = none /\ RepL F rest ds /\ sp xs ds Qd /\
  ∀ v H' F' b ys us',Same F F' -> Same F' H' -> (∀ c o,c ≠ a -> H c = some o -> H' c = some o) -> H' a = some (.lst us') -> RepL F' us' ys -> F' a = none -> (∀ c o,F' c = some o -> F c = some o \/ Nw H c o) -> RepR H F' H' v b -> Qd b ys -> Q v H'
noncomputable def FnIo (G:GE) (k:Nat) (x:Str) (sp:FIo):Prop:=∃ f fd ps,FnOk G.P G.w G.K G.mg G.base CX0 k f fd ps (spOfIo sp) /\ G.mg x = some (.ref f) /\ PySem.W.keepIn G.K (.ref f) = true /\ Binds G.K fd ps []
theorem FnIo.mono {x:Str} {sp:FIo} {j:Nat} (h:FnIo G j x sp) (l:j <= k):FnIo G k x sp:=by
  obtain ⟨f,fd,ps,h1,h2,h3,h4⟩:=h
  exact ⟨f,fd,ps,h1.mono l,h2,h3,h4⟩
theorem NoOwn.reown {σd:Sd} {σ:St} {a:Addr} {i:Nat} {xs ys:List D} (h:NoOwn σd σ a) (e:σd[i]? = some (some (.own xs))):NoOwn (σd.set i (some (.own ys))) σ a:=by
  refine ⟨fun j js e1 z=>?_,fun ⟨j,o,c,e1,e2,hm⟩=>?_⟩
  · rcases gs e1 with ⟨rfl,_⟩ | ⟨_,e1⟩
    · exact h j xs e z
    · exact h j js e1 z
  · rcases gs e1 with ⟨_,z⟩ | ⟨_,e1⟩
    · cases z
    · exact h.nob ⟨j,o,c,e1,e2,hm⟩
theorem RS.callIo {Y:Dyn} {F F':Hp} {σd:Sd} {σ:St} {H H':Hp} {i:Nat} {xs ys:List D} {a:Addr} {us:List V} (R:RS Y F σd σ H) (e:σd[i]? = some (some (.own xs))) (h:σ[i]? = some (some (.ref a))) (s1:Same F F') (s2:Same F' H') (s3:∀ c o,c ≠ a -> H c = some o -> H' c = some o)
    (ha:H' a = some (.lst us)) (r:RepL F' us ys) (fa:F' a = none) (fr:∀ c o,F' c = some o -> F c = some o \/ Nw H c o):RS Y F' (σd.set i (some (.own ys))) σ H':=by
  obtain ⟨b,vs,w1,w2,w3,w4,w5⟩:=R.own i xs e
  rw [h] at w1;cases w1
  have hl:i < σd.length:=(List.getElem?_eq_some_iff.mp e).1
  have hob:Obs Y F' (σd.set i (some (.own ys))) σ H':=R.ob.step s1 (fun j o q=>by
    rcases gs q with ⟨_,z⟩ | ⟨hj,q⟩
    · cases z
    · exact ⟨q,rfl⟩) (fun b hb=>by
    obtain ⟨z1,z2,z3⟩:=R.ob.owned hb
    have hne:b ≠ a:=fun z=>R.ob.dsx i xs a e h (z ▸ hb)
    refine ⟨?_,?_,z3⟩
    · cases q:H b with
      | none=>exact absurd q z2
      | some o=>exact s3 b o hne q
    · cases q:F' b with
      | none=>rfl
      | some o =>
        rcases fr b o q with w | w
        · rw [z1] at w;cases w
        · rcases w with w | ⟨ws,rfl⟩
          · exact absurd w z2
          · cases q3:H b with
            | none=>exact absurd q3 z2
            | some o3 =>
              have y:=s2 b _ q;rw [s3 b o3 hne q3] at y;cases y;exact absurd q3 (R.ob.notup hb)) (fun j zs b q1 q2=>by
    rcases gs q1 with ⟨e1,_⟩ | ⟨hj,q1⟩
    · subst e1
      rw [h] at q2;cases q2
      exact R.ob.dsx j xs a e h
    · exact R.ob.dsx j zs b q1 q2) fun b hb=>by
    by_cases hne:b = a
    · rw [hne,ha];exact fun z=>nomatch z
    · cases q:H b with
      | none=>exact absurd q (R.ob.there b hb)
      | some o=>rw [s3 b o hne q];exact fun z=>nomatch z
  refine ⟨by simpa using R.len,R.lo.trans s1,s2,fun b o q=>?_,fun b o q n=>?_,fun j d q=>?_,fun j zs q=>?_,fun j l zs qs b q1 q2 q3 q4=>?_,fun p hp=>?_,hob⟩
  · rcases fr b o q with h | h
    · exact R.fro b o h
    · exact .inr (h.imp (fun h=>(R.fresh0 h).1) id)
  · have:b ≠ a:=fun z=>by
      subst z
      rcases w5 with w5 | w5
      · rw [w5] at q;cases q
      · exact Dyn.ioL_sub n w5
    exact s3 b o this (R.old b o q n)
  · rcases gs q with ⟨_,z⟩ | ⟨hj,q⟩
    · cases z
    · obtain ⟨v,h1,h2⟩:=R.sh j d q
      exact ⟨v,h1,h2.mono s1⟩
  · rcases gs q with ⟨rfl,z⟩ | ⟨hj,q⟩
    · cases z
      exact ⟨a,us,h,ha,r,fa,w5⟩
    · obtain ⟨b,ws,z1,z2,z3,z4,z5⟩:=R.own j zs q
      have:b ≠ a:=fun z=>hj (R.dis j i zs xs a q e (z ▸ z1) h)
      refine ⟨b,ws,z1,s3 b _ this z2,z3.mono s1,?_,z5⟩
      cases q':F' b with
      | none=>rfl
      | some o =>
        rcases fr b o q' with h | h
        · rw [z4] at h;cases h
        · rcases h with h | ⟨ws',rfl⟩
          · rw [z2] at h;cases h
          · have y:=s2 b _ q';rw [s3 b _ this z2] at y;cases y
  · have f:∀ {m:Nat} {ms:List D},(σd.set i (some (B.own ys)))[m]? = some (some (B.own ms)) -> ∃ ms',σd[m]? = some (some (B.own ms')):=fun {m ms} q=>by
      rcases gs q with ⟨rfl,z⟩ | ⟨hj,q⟩
      · exact ⟨xs,e⟩
      · exact ⟨_,q⟩
    obtain ⟨_,q1⟩:=f q1
    obtain ⟨_,q2⟩:=f q2
    exact R.dis j l _ _ b q1 q2 q3 q4
  · obtain ⟨z1,zs,z2⟩:=R.io p hp
    refine ⟨z1,?_⟩
    by_cases hp':p.1 = i
    · exact ⟨ys,by rw [hp',gs_eq hl]⟩
    · exact ⟨zs,by rw [gs_ne hp'];exact z2⟩
noncomputable def ClIo (sp:FIo) (xs ds:List D) (Q:B -> List D -> Prop):Prop:=sp xs ds Q
noncomputable def tCio (sp:FIo) (i:Nat) (t:TDs):TX:=fun σ Q=>isOwn σ i /\ t σ fun ds σ1=>match σ1[i]? with
  | some (some (.own xs))=>ClIo sp xs ds fun b ys=>Q (bE b) (σ1.set i (some (.own ys)))
  | _=>False
theorem r_callio {x y:Str} {sp:FIo} {i:Nat} {es:List Expr} {t:TDs} {p pos npos:Pos} (h:FnIo G k x sp) (ho:EO G k S (.Name y npos) (tVarD i)) (ha:EDs G k S es t) (hg:S.sc.lookup x = some .globalImplicit:=by rfl) (hdb:(x == ("__debug__":Str)) = false:=by decide)
    (he:∀ env,starEach (.Name y npos :: es) env = (false,eval (.Name y npos) env) :: starEach es env:=by intro _;rfl) (hpl:∀ env,(backTo pos (starEach es env)).any (·.1) = false:=by intro _;rfl) (hh:S.hot = false:=by rfl):EX G k S (.Call (.Name x p) (.Name y npos :: es) [] pos) (tCio sp i t):=.mk fun X Y ok=>by
  obtain ⟨f,fd,ps,h1,h2,h3,h4⟩:=h
  have h1':FnOk X.prog X.w X.K X.mg X.base CX0 k f fd ps (spOfIo sp):=by rw [ok.P,ok.w,ok.K,ok.mg,ok.base];exact h1
  refine pe_imp (pe_call (E:=E0) (dvs:=[]) (ds:=[]) h1' (ok.room hh) (gl_of ok hg) (by rw [ok.mg];exact h2) (by rw [ok.K];exact h3) (by rw [ok.K];exact h4) .nil pass0 (pa_cons (ho X Y ok) (ha X Y ok) (he _)) hdb (he _) (hpl _)) fun σ H Q q=>?_
  obtain ⟨F,σd,Qd,R,⟨⟨ys,e0⟩,q⟩,K⟩:=q
  refine ⟨F,σd,fun ov σ2=>ov = .var i /\ σ2 = σd,R,?_,fun v1 H1 F1 ov σ1 s1 R1 r1 q1=>?_⟩
  · unfold tVarD;rw [e0];exact ⟨rfl,rfl⟩
  obtain ⟨rfl,rfl⟩:=q1
  have r1:σ[i]? = some (some v1):=r1
  refine ⟨F1,σ1,_,R1,q,fun vs H2 F2 ds σ2 s2 R2 r2 q2=>?_⟩
  split at q2
  · rename_i xs ex
    obtain ⟨a,us,w1,w2,w3,w4,w5⟩:=R2.own i xs ex
    rw [r1] at w1;cases w1
    show spOfIo sp ((.ref a :: vs) ++ []) H2 Q E0
    rw [List.append_nil]
    refine ⟨F2,xs,ds,a,us,vs,_,rfl,⟨R2.fr,R2.ob.tab⟩,w2,w3,w4,r2,q2,fun v H' F' b zs us' t1 t2 t3 t4 t5 t6 t7 t8 t9=>?_⟩
    have R3:=R2.callIo ex r1 t1 t2 t3 t4 t5 t6 t7
    cases b with
    | sh d=>exact K v H' F' (.val d) _ ((s1.trans s2).trans t1) R3 t8 t9
    | own ws =>
      obtain ⟨c,cs,rfl,z1,z2,z3,z4⟩:=t8
      refine K _ H' F' (.own ws) _ ((s1.trans s2).trans t1) R3 ⟨c,cs,rfl,z1,z2,z3,(R2.fresh0 z4).1,(R2.noFresh z4).reown ex⟩ t9
    | obj o =>
      obtain ⟨c,rfl,z1,z2⟩:=t8
      exact K _ H' F' (.obj o) _ ((s1.trans s2).trans t1) R3 ⟨c,rfl,z1,fun b hb=>⟨(z2 b hb).1,(z2 b hb).2.1,(R2.fresh0 (z2 b hb).2.2).1,(R2.noFresh (z2 b hb).2.2).reown ex⟩⟩ t9
  · exact q2.elim
noncomputable def startIo (n:Nat) (xs ds:List D):Sd:=some (.own xs) :: startD (n - 1) ds
noncomputable def ioQ (Q:B -> List D -> Prop) (b:B) (σ:Sd):Prop:=match σ[(0:Nat)]? with
  | some (some (.own ys))=>Q b ys
  | _=>False
theorem RS.startIo {F H:Hp} {a:Addr} {us rest:List V} {xs ds:List D} (n:Nat) (hn:1 <= n) (s:SameT F H) (ha:H a = some (.lst us)) (ru:RepL F us xs) (fa:F a = none) (r:RepL F rest ds) :
    RS ⟨H,F,[(0,a)],[]⟩ F (startIo n xs ds) ((V.ref a :: rest).map some ++ List.replicate (n - (V.ref a :: rest).length) none) H where
  len:=by unfold Vc.startIo startD;simp [r.length];omega
  lo:=Same.refl _
  fr:=s.1
  fro:=fun b o e=>.inl e
  old:=fun b o e _=>e
  sh:=fun i d e=>by
    cases i with
    | zero=>unfold Vc.startIo at e;simp at e
    | succ i =>
      have e':(startD (n - 1) ds)[i]? = some (some (.sh d)):=by unfold Vc.startIo at e;simpa using e
      obtain ⟨v,h1,h2⟩:=start_sh (n - 1 - ds.length) r e'
      refine ⟨v,?_,h2⟩
      have:n - (V.ref a :: rest).length = n - 1 - ds.length:=by rw [List.length_cons,r.length];omega
      rw [this]
      simpa using h1
  own:=fun i zs e=>by
    cases i with
    | zero =>
      unfold Vc.startIo at e
      simp at e
      subst e
      exact ⟨a,us,by simp,ha,ru,fa,.inr (by simp [Dyn.ioL])⟩
    | succ i =>
      have e':(startD (n - 1) ds)[i]? = some (some (.own zs)):=by unfold Vc.startIo at e;simpa using e
      exact absurd e' (start_own _ _ _ _)
  dis:=fun i j zs ys b e1 e2 _ _=>by
    have z:∀ {i:Nat} {zs:List D},(Vc.startIo n xs ds)[i]? = some (some (.own zs)) -> i = 0:=fun {i zs} e=>by
      cases i with
      | zero=>rfl
      | succ i =>
        have e':(startD (n - 1) ds)[i]? = some (some (.own zs)):=by unfold Vc.startIo at e;simpa using e
        exact absurd e' (start_own _ _ _ _)
    rw [z e1,z e2]
  io:=fun p hp=>by
    have:p = (0,a):=by simpa using hp
    subst this
    exact ⟨by simp,xs,rfl⟩
  ob:=.none (fun i o e=>by
    cases i with
    | zero=>unfold Vc.startIo at e;simp at e
    | succ i =>
      have e':(startD (n - 1) ds)[i]? = some (some (.obj o)):=by unfold Vc.startIo at e;simpa using e
      exact absurd e' (start_obj _ _ _ _)) s.2 fun b hb=>by cases hb
theorem fn_okIo {x qual:Str} {st:Stmt} {f:Addr} {fd:FuncData} {N ps:List Str} {sp:FIo} {t:TSd} (hK:G.K = KF.K) (Fn:Fun G.K x qual st f fd) (Sc:FnScope N ps (defScope st)) (ht:ESs G k ⟨N,(defScope st).names,[0],false,false,false,fun _ _=>False⟩ (defBody st) t) (hn:1 <= N.length)
    (len:∀ xs ds Q,sp xs ds Q -> ds.length + 1 = ps.length)
    (body:∀ xs ds Q,sp xs ds Q -> t { nx:=ioQ Q (.sh .non),rt:=fun b σ=>ioQ Q b σ } (startIo N.length xs ds)):FnOk G.P G.w G.K G.mg G.base CX0 (k + 1) f fd ps (spOfIo sp):=by
  refine Fn.ok Sc (fun vs H Q E h=>?_) (fun cdv A outer s H vs Q E hr h=>?_)
  · obtain ⟨F,xs,ds,a,us,rest,Qd,rfl,s,h1,h2,h3,r,q,K⟩:=h
    rw [List.length_cons,r.length];exact len _ _ _ q
  · obtain ⟨F,xs,ds,a,us,rest,Qd,rfl,sm,h1,h2,h3,r,q,K⟩:=h
    refine ⟨_,ht (cxOf CX0 G.P G.w G.K G.mg G.base N qual (defScope st) f cdv A outer s H E).nox ⟨H,F,[(0,a)],[]⟩ ⟨rfl,rfl,rfl,hK,rfl,rfl,rfl,rfl,Sc.nd,fun p hp=>by
      have:p = (0,a):=by simpa using hp
      subst this;simp,(fun _ h=>nomatch h),fun _=>rfl,Sc.kind,fun _ _ _=>rfl,fun _=>hr.hd,hr.dp,hr.un,fun _=>PassesOwn.never,fun _=>⟨rfl,rfl,rfl⟩,fun _ _ h=>h.elim,fun h=>nomatch h⟩,F,startIo N.length xs ds,_,RS.startIo _ hn sm h1 h2 h3 r,body xs ds Qd q,?_⟩
    have same:∀ {F':Hp} {σd:Sd} {σ:St} {H':Hp},RS ⟨H,F,[(0,a)],[]⟩ F' σd σ H' -> ∀ c o,c ≠ a -> H c = some o -> H' c = some o:=fun R c o hc e=>R.old c o e (by simpa [Dyn.ioA] using hc)
    have fin:∀ {F':Hp} {σd:Sd} {σ:St} {H':Hp} {v:V} {b:B},Same F F' -> RS ⟨H,F,[(0,a)],[]⟩ F' σd σ H' -> RepR H F' H' v b -> ioQ Qd b σd -> Q v H':=fun {F' σd σ H' v b} s' R' r' q'=>by
      unfold ioQ at q'
      split at q'
      · rename_i ys ey
        obtain ⟨c,us',w1,w2,w3,w4,w5⟩:=R'.own 0 ys ey
        have i0:=(R'.io (0,a) (by simp)).1
        rw [i0] at w1;cases w1
        exact K v H' F' b ys us' s' R'.fr (same R') w2 w3 w4 R'.fro r' q'
      · exact q'.elim
    refine ⟨fun σ H' F' σd s' R' q'=>?_,fun v σ H' F' σd b s' R' r' q'=>?_,fun _ _ _ _ _ _ h=>h.elim,fun _ _ _ _ _ _ h=>h.elim⟩
    · exact fin (b:=.sh .non) s' R' .non q'
    · refine fin (b:=b) s' R' ?_ q'
      cases b with
      | sh d=>exact r'
      | own xs =>
        obtain ⟨a,us,rfl,w1,w2,w3,w4,w5⟩:=r'
        exact ⟨a,us,rfl,w1,w2,w3,w4⟩
      | obj o =>
        obtain ⟨a,rfl,w1,w2⟩:=r'
        exact ⟨a,rfl,w1,fun b hb=>⟨(w2 b hb).1,(w2 b hb).2.1,(w2 b hb).2.2.1⟩⟩
theorem FnD.fio {x:Str} {st:Stmt} {ps N:List Str} {f:Addr} {fd:FuncData} {t:TSd} {sp:FIo} (d:FnD G x st ps f fd) (hK:G.K = KF.K) (Sc:FnScope N ps (defScope st)) (ht:ESs G k ⟨N,(defScope st).names,[0],false,false,false,fun _ _=>False⟩ (defBody st) t) (hn:1 <= N.length)
    (len:∀ xs ds Q,sp xs ds Q -> ds.length + 1 = ps.length) (body:∀ xs ds Q,sp xs ds Q -> t { nx:=ioQ Q (.sh .non),rt:=fun b σ=>ioQ Q b σ } (startIo N.length xs ds)):FnIo G (k + 1) x sp :=
  ⟨f,fd,ps,fn_okIo hK d.F Sc ht hn len body,d.m,d.F.kp,d.b⟩
end Vc

set_option Elab.async false
set_option linter.all false
set_option maxRecDepth 100000
namespace Vc
open PySem L2
variable [KF]
variable {G:GE} {k:Nat} {S:Stat}
noncomputable def blkIo (S:Stat) (scope:Scope) (N':List Str) (m:Nat):Stat:=⟨N',relabelD scope.names S.sc,[m],true,false,false,fun _ _=>False⟩
theorem comp_xokIo {X X':Cx} {Y:Dyn} {scope:Scope} {N':List Str} {caps:List (Option Nat)} {m:Nat} (hh:S.hot = false) (ok:XOk X G k S Y) (b:BlkOk S scope N' caps) (c:CompX X X' scope N') (Y':Dyn) (hio:∀ p ∈ Y'.io,p.1 = m):XOk X' G k (blkIo S scope N' m) Y' :=
  have z:=comp_xok hh ok b c ⟨Y'.H0,Y'.F0,[],[]⟩ rfl
  ⟨z.P,z.w,z.K,z.kf,z.mg,z.base,z.N,z.sc,z.nd,fun p hp=>by rw [hio p hp];exact List.mem_singleton.mpr rfl,(fun h=>nomatch h),z.calm,z.kind,(fun h=>by cases h),z.hd,z.dp,z.un,z.po,(fun h=>nomatch h),(fun _ _ h=>h.elim),fun h=>nomatch h⟩
noncomputable def ownAt (m:Nat) (σ:Sd) (Q:List D -> Prop):Prop:=match σ[m]? with
  | some (some (.own ys))=>Q ys
  | _=>False
noncomputable def compIo (g:TGd) (tc:TB) (te:TD) (σc:Sd) (m:Nat):List D -> List D -> List D -> (List D -> List D -> Prop) -> Prop
  | [],acc,xs,Q=>Q acc xs
  | x :: r,acc,xs,Q=>g x (σc.set m (some (.own xs))) fun σ1=>tc σ1 fun b σ2=>if b = true then te σ2 fun d σ3=>leS σc σ3 /\ acc.length < sizeLine /\ ownAt m σ3 fun ys=>compIo g tc te σc m r (acc ++ [d]) ys Q
    else leS σc σ2 /\ ownAt m σ2 fun ys=>compIo g tc te σc m r acc ys Q
noncomputable def tCompIo (ios:List Nat) (caps:List (Option Nat)) (j m:Nat) (ti:TDs) (g:TGd) (tc:TB) (te:TD):TX:=fun σ Q=>ti σ fun items σ1=>frzC ios (caps.set m none) σ1 fun σ2=>ownAt j σ2 fun xs=>compIo g tc te (capD (caps.set m none) σ2) m items [] xs fun ds ys=>Q (.own ds) (σ2.set j (some (.own ys)))
theorem capD_rs' {Y:Dyn} {F:Hp} {σd:Sd} {σ:St} {H:Hp} (R:RS Y F σd σ H) (caps:List (Option Nat)) (m:Nat) {F' H':Hp} (s1:Same F F') (s2:Same F' H'):RS ⟨H',F',[],[]⟩ F' (capD (caps.set m none) σd) (capSt caps σ) H':=by
  have R0:=capD_rs R (caps.set m none) s1 s2
  refine ⟨by unfold capD capSt;simp,R0.lo,R0.fr,R0.fro,R0.old,fun i d e=>?_,fun i xs e=>absurd e (capD_noown _ _ _ _),fun i j xs ys a e=>absurd e (capD_noown _ _ _ _),fun p hp=>(by cases hp),.none (capD_noobj _ _) R0.ob.tab fun b hb=>by cases hb⟩
  obtain ⟨v,h1,h2⟩:=R0.sh i d e
  refine ⟨v,?_,h2⟩
  by_cases hi:i = m
  · subst hi
    unfold capD at e
    rw [List.getElem?_map] at e
    by_cases hl:i < caps.length
    · rw [List.getElem?_set_self hl] at e;cases e
    · rw [List.getElem?_eq_none (by rw [List.length_set];omega)] at e;cases e
  · unfold capSt at h1 ⊢
    rw [List.getElem?_map] at h1 ⊢
    rw [List.getElem?_set_ne (Ne.symm hi)] at h1
    exact h1
theorem RS.inner {Y:Dyn} {F:Hp} {σc σd:Sd} {σ:St} {H:Hp} {m:Nat} {a:Addr} {us:List V} {xs:List D} (R:RS Y F σd σ H) (l:leS σc σd) (noown:∀ (i:Nat) (xs:List D),σc[i]? ≠ some (some (.own xs))) (noobj:∀ (i:Nat) (o:O),σc[i]? ≠ some (some (.obj o))) (hm:m < σc.length) (h:σ[m]? = some (some (.ref a))) (r:RepL F us xs) (fa:F a = none) {H':Hp} (s:Same F H') (ha:H' a = some (.lst us)) :
    RS ⟨H',F,[(m,a)],[]⟩ F (σc.set m (some (.own xs))) σ H' where
  len:=by rw [List.length_set];exact (leS_len l).trans R.len
  lo:=Same.refl _
  fr:=s
  fro:=fun b o e=>.inl e
  old:=fun b o e _=>e
  sh:=fun i d e=>by
    rcases gs e with ⟨_,z⟩ | ⟨_,e⟩
    · cases z
    · exact R.sh i d (leS_get l e)
  own:=fun i zs e=>by
    rcases gs e with ⟨rfl,z⟩ | ⟨_,e⟩
    · cases z
      exact ⟨a,us,h,ha,r,fa,.inr (by simp [Dyn.ioL])⟩
    · exact absurd e (noown i zs)
  dis:=fun i j zs ys b e1 e2 _ _=>by
    have z:∀ {i:Nat} {zs:List D},(σc.set m (some (B.own xs)))[i]? = some (some (.own zs)) -> i = m:=fun {i zs} e=>by
      rcases gs e with ⟨rfl,_⟩ | ⟨_,e⟩
      · rfl
      · exact absurd e (noown i zs)
    rw [z e1,z e2]
  io:=fun p hp=>by
    have:p = (m,a):=by simpa using hp
    subst this
    exact ⟨h,xs,by rw [gs_eq hm]⟩
  ob:=.none (fun i o e=>by
    rcases gs e with ⟨_,z⟩ | ⟨_,e⟩
    · cases z
    · exact noobj i o e) R.ob.tab fun b hb=>by cases hb
noncomputable def lGm (m:Nat) (g:TGd):TG:=fun v σ H Q=>∃ Y:Dyn,(∀ p ∈ Y.io,p.1 = m) /\ lG Y g v σ H Q
noncomputable def lBm (m:Nat) (t:TB):TT:=fun σ H Q=>∃ Y:Dyn,(∀ p ∈ Y.io,p.1 = m) /\ lB Y t σ H Q
noncomputable def lDm (m:Nat) (t:TD):TE:=fun σ H Q=>∃ Y:Dyn,(∀ p ∈ Y.io,p.1 = m) /\ lD Y t σ H Q
section
variable {elt target iter:Expr} {ifs:List Expr} {scope:Scope} {pos:Pos} {N':List Str} {caps:List (Option Nat)} {ti:TDs} {g:TGd} {tc:TB} {te:TD} {j m:Nat}
theorem comp_inIo {X:Cx} {Y:Dyn} (hh:S.hot = false) (ok:XOk X G k S Y) (b:BlkOk S scope N' caps) (hg:EG G k (blkIo S scope N' m) target g) (ht:EBs G k (blkIo S scope N' m) ifs tc) (he:ED G k (blkIo S scope N' m) elt te) :
    ∀ X',CompX X X' scope N' -> PG X' target (lGm m g) /\ PTs X' ifs (lBm m tc) /\ PE X' elt (lDm m te):=fun X' c =>
  ⟨fun pins s σ H v u Q I r ⟨Y',hio,q⟩=>hg X' Y' (comp_xokIo hh ok b c Y' hio) pins s σ H v u Q I r q,fun pins s σ H Q I ⟨Y',hio,q⟩=>ht X' Y' (comp_xokIo hh ok b c Y' hio) pins s σ H Q I q,fun pins s σ H Q I ⟨Y',hio,q⟩=>he X' Y' (comp_xokIo hh ok b c Y' hio) pins s σ H Q I q⟩
theorem set_set_self {α:Type} (l:List α) (i:Nat) (a b:α):(l.set i a).set i b = l.set i b:=by simp
theorem comp_soundIo {Y:Dyn} {ios:List Nat} (hio:∀ p ∈ Y.io,p.1 ∈ ios) (hcap:caps[m]? = some (some j)) {σ:St} {H:Hp} {Q:VK} (q:lX Y (tCompIo ios caps j m ti g tc te) σ H Q):tCompL (lI Y ti) caps (lGm m g) (lBm m tc) (lDm m te) σ H Q:=by
  obtain ⟨F,σd,Qd,R,q,K⟩:=q
  refine ⟨F,σd,_,R,q,fun H1 F1 σd1 J items s1 R1 it q1 acc hacc=>?_⟩
  obtain ⟨F2,σd2,s2,R2,q2⟩:=frzC_sound hio R1 q1
  unfold ownAt at q2
  split at q2
  · rename_i xs0 e0
    have it2:=it.mono s2
    have a0:Y.H0 acc = none:=(R2.fresh0 hacc).1
    have aF:F2 acc = none:=same_none R2.fr hacc
    obtain ⟨a,us0,ha1,ha2,ha3,ha4,ha5⟩:=R2.own j xs0 e0
    have ane:a ≠ acc:=fun z=>by rw [z,hacc] at ha2;cases ha2
    have hj:j < σd2.length:=(List.getElem?_eq_some_iff.mp e0).1
    have aN:∀ (xs:List D),NoOwn (σd2.set j (some (.own xs))) σ acc:=fun xs=>(R2.noFresh hacc).reown e0
    have sw:∀ {F5 H5:Hp} {o:HO},Same F5 H5 -> F5 acc = none -> Same F5 (upd H5 acc o):=fun {F5 H5 o} s5 h b u e=>by
      have:b ≠ acc:=fun z=>by rw [z,h] at e;cases e
      rw [upd_ne this];exact s5 b u e
    have hm:m < (capD (caps.set m none) σd2).length:=by
      unfold capD
      rw [List.length_map,List.length_set]
      exact (List.getElem?_eq_some_iff.mp hcap).1
    have hcm:(capSt caps σ)[m]? = some (some (.ref a)):=by
      unfold capSt
      rw [List.getElem?_map,hcap]
      show some ((σ[j]?).join) = _
      rw [ha1];rfl
    have e00:σd2.set j (some (.own xs0)) = σd2:=by
      apply List.ext_getElem?
      intro i
      by_cases hi:i = j
      · subst hi;rw [gs_eq hj,e0]
      · rw [gs_ne hi]
    refine ⟨fun i mm σ1 H'=>∃ Fi ds ys xs us,Same F2 Fi /\ RS Y Fi (σd2.set j (some (.own xs))) σ H' /\ H' acc = some (.lst ys) /\ RepL Fi ys ds /\ Fi acc = none /\ H' a = some (.lst us) /\ RepL Fi us xs /\ Fi a = none /\ σ1[m]? = some (some (.ref a)) /\ RS ⟨H',Fi,[(m,a)],[]⟩ Fi ((capD (caps.set m none) σd2).set m (some (.own xs))) σ1 H' /\ compIo g tc te (capD (caps.set m none) σd2) m (items.drop i) ds xs (fun ds ys=>Qd (.own ds) (σd2.set j (some (.own ys)))) /\ mm = items.length - i /\ i <= items.length,
      ⟨items.length,F2,[],[],xs0,us0,Same.refl _,by rw [e00];exact R2.other aF a0 (e00 ▸ aN xs0),upd_same,.nil,aF,by rw [upd_ne ane];exact ha2,ha3,ha4,hcm,?_,q2,rfl,Nat.zero_le _⟩,?_⟩
    · exact (capD_rs' R2 caps m (Same.refl _) (sw (o:=.lst []) R2.fr aF)).inner (leS_refl _) (capD_noown _ _) (capD_noobj _ _) hm hcm ha3 ha4 (sw R2.fr aF) (by rw [upd_ne ane];exact ha2)
    rintro i mm σ1 Hi ⟨Fi,ds,ys,xs,us,si,Ri,hacci,ri,fi,hai,rui,fai,hmi,Rin,qi,rfl,hi⟩
    have itr:=it2 Fi Hi si Ri.fr i
    by_cases hl:i < items.length
    · right
      have hd:items.drop i = items[i] :: items.drop (i + 1):=by rw [List.drop_eq_getElem_cons hl]
      rw [hd] at qi
      obtain ⟨go,yl⟩:=itr.1 items[i] (by rw [List.getElem?_eq_getElem hl])
      refine ⟨go,fun v H' y=>?_⟩
      obtain ⟨F3,gr,rep⟩:=yl v H' y
      have sF:Same Fi F3:=gr.same Ri.fr
      have R3:=gr.rs Rin
      have sH:Same Hi H':=by
        rcases gr with ⟨_,rfl⟩ | ⟨p,o,hp,_,rfl⟩
        · exact Same.refl _
        · exact same_alloc hp
      have fr3:∀ c o,F3 c = some o -> Fi c = some o \/ Nw Hi c o:=fun c o e=>by
        rcases gr with ⟨rfl,_⟩ | ⟨p,o',hp,rfl,_⟩
        · exact .inl e
        · by_cases hc:c = p
          · subst hc;exact .inr (.inl hp)
          · rw [upd_ne hc] at e;exact .inl e
      have fa3:F3 a = none:=by
        cases e:F3 a with
        | none=>rfl
        | some o =>
          rcases fr3 a o e with z | z
          · rw [fai] at z;cases z
          · rcases z with z | ⟨ws,rfl⟩
            · rw [hai] at z;cases z
            · have y:=R3.fr a _ e;rw [sH a _ hai] at y;cases y
      have lec:leS (capD (caps.set m none) σd2) ((capD (caps.set m none) σd2).set m (some (.own xs))):=by
        have:∀ (l:Sd) (n:Nat),l[n]? = some none -> ∀ b,leS l (l.set n b):=by
          intro l
          induction l with
          | nil=>intro n h;cases h
          | cons c l ih =>
            intro n h b
            cases n with
            | zero =>
              simp at h
              subst h
              exact leS_refl l
            | succ n =>
              have h:l[n]? = some none:=by simpa using h
              cases c with
              | none=>exact ih n h b
              | some c=>exact ⟨rfl,ih n h b⟩
        refine this _ m ?_ _
        unfold capD
        rw [List.getElem?_map,List.getElem?_set_self (List.getElem?_eq_some_iff.mp hcap).1];rfl
      have R3':RS ⟨H',F3,[(m,a)],[]⟩ F3 ((capD (caps.set m none) σd2).set m (some (.own xs))) σ1 H':=R3.inner lec (capD_noown _ _) (capD_noobj _ _) hm hmi (rui.mono sF) fa3 R3.fr (sH _ _ hai)
      -- behind the turn
      have back:∀ {F5 H5:Hp} {σd5:Sd} {σ5:St} {zs:List D},Same F3 F5 -> RS ⟨H',F3,[(m,a)],[]⟩ F5 σd5 σ5 H5 -> σd5[m]? = some (some (.own zs)) -> RS Y F5 (σd2.set j (some (.own zs))) σ H5 /\ H5 acc = some (.lst ys) /\ F5 acc = none /\ Same Fi F5 /\ ∃ ws,H5 a = some (.lst ws) /\ RepL F5 ws zs /\ F5 a = none /\ σ5[m]? = some (some (.ref a)):=fun {F5 H5 σd5 σ5 zs} s5 R5 ez=>by
        have i5:=(R5.io (m,a) (by simp)).1
        obtain ⟨c,ws,w1,w2,w3,w4,_⟩:=R5.own m zs ez
        rw [i5] at w1;cases w1
        have s35:∀ c o,c ≠ a -> Hi c = some o -> H5 c = some o:=fun c o hc e=>R5.old c o (sH c o e) (by simpa [Dyn.ioA] using hc)
        have fr5:∀ c o,F5 c = some o -> Fi c = some o \/ Nw Hi c o:=fun c o e=>by
          rcases R5.fro c o e with z | z
          · exact fr3 c o z
          · exact .inr (z.imp sH.free id)
        have Ro:=Ri.callIo (i:=j) (xs:=xs) (ys:=zs) (by rw [gs_eq hj]) ha1 (sF.trans s5) R5.fr s35 w2 w3 w4 fr5
        rw [set_set_self] at Ro
        refine ⟨Ro,s35 acc _ (Ne.symm ane) hacci,?_,sF.trans s5,ws,w2,w3,w4,i5⟩
        cases e:F5 acc with
        | none=>rfl
        | some o =>
          rcases fr5 acc o e with z | z
          · rw [fi] at z;cases z
          · rcases z with z | ⟨ws,rfl⟩
            · rw [hacci] at z;cases z
            · have y:=R5.fr acc _ e;rw [s35 acc _ (Ne.symm ane) hacci] at y;cases y
      refine ⟨⟨H',F3,[(m,a)],[]⟩,fun p hp=>by rw [List.mem_singleton.mp hp],F3,_,items[i],_,R3',rep,qi,fun σ4 H4 F4 σd4 s4 R4 q4=>?_⟩
      refine ⟨⟨H',F3,[(m,a)],[]⟩,fun p hp=>by rw [List.mem_singleton.mp hp],F4,σd4,_,R4,q4,fun b H5 F5 σd5 s5 R5 q5=>?_⟩
      cases b with
      | false =>
        obtain ⟨le,q5⟩:=q5
        unfold ownAt at q5
        split at q5
        · rename_i zs ez
          obtain ⟨w1,w2,w3,w4,ws,v1,v2,v3,v4⟩:=back (s4.trans s5) R5 ez
          exact ⟨items.length - (i + 1),by omega,F5,ds,ys,zs,ws,si.trans w4,w1,w2,ri.mono w4,w3,v1,v2,v3,v4,R5.inner le (capD_noown _ _) (capD_noobj _ _) hm v4 v2 v3 R5.fr v1,q5,rfl,hl⟩
        · exact q5.elim
      | true =>
        refine ⟨⟨H',F3,[(m,a)],[]⟩,fun p hp=>by rw [List.mem_singleton.mp hp],F5,σd5,_,R5,q5,fun v6 H6 F6 d σd6 s6 R6 r6 q6=>?_⟩
        obtain ⟨le,hz,q6⟩:=q6
        unfold ownAt at q6
        split at q6
        · rename_i zs ez
          obtain ⟨w1,w2,w3,w4,ws,v1,v2,v3,v4⟩:=back ((s4.trans s5).trans s6) R6 ez
          exact ⟨ys,items.length - (i + 1),w2,by rw [ri.length];exact hz,by omega,F6,ds ++ [d],ys ++ [v6],zs,ws,si.trans w4,w1.other w3 a0 (aN zs),upd_same,(ri.mono w4).append (.cons r6 .nil),w3,by rw [upd_ne ane];exact v1,v2,v3,v4,
            R6.inner le (capD_noown _ _) (capD_noobj _ _) hm v4 v2 v3 (sw R6.fr w3) (by rw [upd_ne ane];exact v1),q6,rfl,hl⟩
        · exact q6.elim
    · left
      have e:i = items.length:=by omega
      subst e
      rw [List.drop_length] at qi
      exact ⟨itr.2 rfl,K _ Hi Fi (.own ds) _ ((s1.trans s2).trans si) Ri ⟨acc,ys,rfl,hacci,ri,fi,a0,aN xs⟩ qi⟩
  · exact q2.elim
theorem s_compIo (i j m:Nat) {y:Str} {py spos:Pos} (hi:EI G k S target iter ti) (b:BlkOk S scope N' caps) (hg:EG G k (blkIo S scope N' m) target g) (ht:EBs G k (blkIo S scope N' m) ifs tc) (he:ED G k (blkIo S scope N' m) elt te)
    (hcap:caps[m]? = some (some j):=by rfl) (hy:S.N[i]? = some y:=by rfl) (hx:S.sc.lookup y = some .local \/ (S.sc.lookup y = some .cell /\ S.blk = false):=by first | exact Or.inl rfl | exact Or.inr ⟨rfl,rfl⟩) (hn:i ∉ S.ios:=by first | decide | exact List.not_mem_nil) (hl:(py.line == pos.line) = true:=by rfl) (hsn:(scope.names.any fun (n,k)=>n == y && (k == .local || k == .cell)) = false:=by decide +kernel)
    (hs:∀ env x,foldedSetIterable iter env x = pure x:=by intro _ _;rfl) (hh:S.hot = false:=by rfl):ES G k S (.Assign [.Name y py] (.ListComp elt [⟨target,iter,ifs,0⟩] scope pos) spos) (tSt S.ios i (tCompIo S.ios caps j m ti g tc te)):=.mk fun X Y ok=>by
  have sw:swapsWith (.ListComp elt [⟨target,iter,ifs,0⟩] scope pos) (some (.Name y py)) spos.line X.env = pure (S.sc.lookup y == some .local):=by
    have e:swapsWith (.ListComp elt [⟨target,iter,ifs,0⟩] scope pos) (some (.Name y py)) spos.line X.env = pure (X.env.blockKind == .function && X.env.kindOf y == some .local && py.line == pos.line && !(scope.names.any fun (n,k)=>n == y && (k == .local || k == .cell))):=rfl
    have kb:X.env.blockKind = .function:=by unfold Env.blockKind;rw [ok.kind];rfl
    have kd:X.env.kindOf y = S.sc.lookup y:=by
      show X.env.scope.names.lookup y = _
      rw [ok.sc]
    rw [e,kb,kd,hl,hsn]
    simp
  have fin:∀ Dn σ H,lS Y (tSt S.ios i (tCompIo S.ios caps j m ti g tc te)) Dn σ H -> tAsg (tCompL (lI Y ti) caps (lGm m g) (lBm m tc) (lDm m te)) (gName i) Dn σ H:=fun Dn σ H q=>by
    obtain ⟨F,σd,De,R,q,K⟩:=q
    refine comp_soundIo ok.ios hcap ⟨F,σd,_,R,q,fun v H1 F1 y σ1 s1 R1 r1 q1=>?_⟩
    obtain ⟨F2,σ2,s2,R2,q2⟩:=stD_sound R1 r1 hn ok.ios q1
    exact K.nx _ H1 F2 σ2 (s1.trans s2) R2 q2
  rcases hx with hx | hx
  · refine ps_imp (ps_comp (i:=i) (ok.calm hh) (hi X Y ok) (b.sc ok) (comp_inIo hh ok b hg ht he) (hs _) (by rw [ok.N];exact ok.nd) (by rw [ok.N];exact hy) (by rw [ok.sc];exact hx) (by rw [sw,hx];rfl)) fin
  · refine ps_imp (L2.ps_set (i:=i) (by rw [ok.N];exact ok.nd) (by rw [ok.N];exact hy) (loc_of ok (.inr hx)) (pe_comp (ok.calm hh) (hi X Y ok) (b.sc ok) (comp_inIo hh ok b hg ht he) (hs _)) (by rw [sw,hx.1];rfl) (fn_of' ok (.inr hx))) fin
end
end Vc

set_option Elab.async false
set_option linter.all false
set_option maxRecDepth 100000
namespace Vc
open PySem L2
variable [KF]
variable {G:GE} {k:Nat} {S:Stat}
noncomputable def extQ (i:Nat) (ys:List D) (σ:Sd) (Q:Sd -> Prop):Prop:=match σ[i]? with
  | some (some (.own xs))=>xs.length + ys.length <= sizeLine /\ Q (σ.set i (some (.own (xs ++ ys))))
  | _=>False
noncomputable def tExt (to:TV) (te:TX):TX:=fun σ Q=>to σ fun x σ1=>match x with
  | .var i=>isOwn σ1 i /\ te σ1 fun d σ2=>match d with
    | .own ys=>extQ i ys σ2 fun σ3=>Q (.val .non) σ3
    | _=>False
  | _=>False
theorem r_extend {o e:Expr} {to:TV} {te:TX} {apos cpos:Pos} (ho:EO G k S o to) (he:EX G k S e te) (hb:∀ env,attributeBase o "extend" env (eval o env) = eval o env:=by intro _;rfl)
    (hfew:∀ env,((backTo cpos (starEach [e] env)).all (fun x=>!x.1) && (backToKw cpos (keywordEach [] env)).all (fun x=>x.1.isSome) && decide (([e]:List Expr).length + ([]:List Keyword).length + (if ([]:List Keyword).isEmpty then 0 else 1) < 30)) = true:=by intro _;rfl)
    (hline:(apos.endLine == cpos.line) = true:=by rfl) (hs:∀ env,starEach [e] env = [(false,eval e env)]:=by intro _;rfl):EX G k S (.Call (.Attribute o "extend" apos) [e] [] cpos) (tExt to te):=.mk fun X Y ok=>by
  have ha:PA X [e] (tCons (lX Y te) tNil):=pa_cons (he X Y ok) pa_nil (by rw [hs];rfl)
  refine pe_imp (pe_bm F.plainAttrs_list F.slot_list_extend F.type_list_extend mt_extend (ho X Y ok) ha (hb _) (hfew _) hline (by rw [hs];rfl) (by rfl)) fun σ H Q q=>?_
  obtain ⟨F,σd,Qd,R,q,K⟩:=q
  refine ⟨F,σd,_,R,q,fun v1 H1 F1 x σ1 s1 R1 r1 q1=>?_⟩
  cases x with
  | val d=>exact q1.elim
  | any=>exact q1.elim
  | var i =>
    obtain ⟨⟨ys,e0⟩,q1⟩:=q1
    have r1:σ[i]? = some (some v1):=r1
    obtain ⟨a,vs,w1,w2,w3,w4,w5⟩:=R1.own i ys e0
    rw [r1] at w1;cases w1
    refine ⟨.inl ⟨rfl,vs,.of w2⟩,F1,σ1,_,R1,q1,fun v2 H2 F2 d σ2 s2 R2 r2 q2=>?_⟩
    cases d with
    | val _=>exact q2.elim
    | var _=>exact q2.elim
    | obj _=>exact q2.elim
    | any=>exact q2.elim
    | own zs =>
      have q2:extQ i zs σ2 fun σ3=>Qd (.val .non) σ3:=q2
      unfold extQ at q2
      split at q2
      · rename_i xs e2
        obtain ⟨b,us,z1,z2,z3,z4,z5⟩:=R2.own i xs e2
        rw [r1] at z1;cases z1
        obtain ⟨c,cs,rfl,y1,y2,y3⟩:=r2
        exact ⟨a,c,us,cs,rfl,rfl,z2,y1,by rw [z3.length,y2.length];exact q2.1,K .non _ F2 (.val .non) _ (s1.trans s2) (R2.write e2 r1 (z3.append y2)) .non q2.2⟩
      · exact q2.elim
noncomputable def CDivW (i j:Int):Prop:=0 < j /\ j < 2 ^ 200
theorem op_fdivW {X:Cx}:OpR X (binaryOp .FloorDiv) (rI CDivW fun i j=>.int (i / j)):=opI fun i j _ _ _ _ _ hc q=>by
  have h1:(0:Int) < j:=hc.1
  have h2:j < 2 ^ 200:=hc.2
  refine PyProof.Rows.floordiv_int (by omega) (by rw [Int.fdiv_eq_ediv_of_nonneg i (by omega)];exact q) (.inl (PyProof.noPylong_of_log2 ?_))
  have h3:j.natAbs < 2 ^ 200:=by omega
  exact (Nat.log2_lt (by omega)).mpr (Nat.lt_of_lt_of_le h3 (Nat.pow_le_pow_right (by decide) (by decide)))
noncomputable def fdivW:=iiD CDivW fun i j=>i / j
theorem r_fdivW {a b:Expr} {ta tb:TV} {pos:Pos} (ha:EO G k S a ta) (hb:EO G k S b tb):EX G k S (.BinOp a .FloorDiv b pos) (tBin fdivW ta tb):=r_bin (r:=fun _=>_) (fun _=>op_fdivW) (fun _=>ii_sound) ha hb
end Vc

set_option Elab.async false
set_option linter.all false
set_option maxRecDepth 100000
namespace Vc
open PySem L2
variable [KF]
variable {G:GE} {k:Nat} {S:Stat}
end Vc

set_option Elab.async false
set_option linter.all false
set_option maxRecDepth 100000

namespace Vc
open PySem L2
variable [KF]
variable {G:GE} {k:Nat} {S:Stat}

structure Apt (Y:Dyn) (F:Hp) (σd:Sd) (σ:St) (H:Hp) (b:Addr) (o:HO):Prop where
  h:H b = some o
  f:F b = none
  no:NoOwn σd σ b
  z:Y.H0 b = none
  nb:b ∉ Y.ob
  nt:∀ vs,o ≠ .tup vs
structure Pots (H H':Hp) (p:Addr) (as:List Addr) (cs:List Int):Prop where
  same:Same H H'
  list:H' p = some (.lst (as.map V.ref))
  fresh:∀ b ∈ p :: as,H b = none
  nd:(p :: as).Nodup
  len:as.length = cs.length
  pot:∀ (i:Nat) (a:Addr) (c:Int),as[i]? = some a -> cs[i]? = some c -> H' a = some (.lst [.int c,.int 0])
end Vc

set_option Elab.async false
set_option linter.all false
set_option maxRecDepth 100000

namespace Vc
open PySem L2
variable [KF]
variable {G:GE} {k:Nat} {S:Stat}
noncomputable def lPots (Y:Dyn):TS:=fun Dn σ H=>∃ F ns,RS Y F [some (.sh (.lst (List.map D.int ns)))] σ H /\ Y.H0 = H /\ (Y.io = [] /\ Y.ob = []) /\ ns.length <= 63 /\ ∀ p as cs H',Pots H H' p as cs -> Dn.rt (.ref p) H'
structure EPots (G:GE) (k:Nat) (S:Stat) (b:List Stmt) :Prop where
  run:∀ X Y,XOk X G k S Y -> PSs X b (lPots Y)
instance {G:GE} {k:Nat} {S:Stat} {b:List Stmt} :CoeFun (EPots G k S b) fun _=>∀ X Y,XOk X G k S Y -> PSs X b (lPots Y):=⟨EPots.run⟩
section
variable {c:Expr} {zs es:List Expr} {tg iter:Expr} {scope:Scope} {N':List Str} {p1 p2 p3 p4 p5 p6 p7:Pos}
end
end Vc

set_option Elab.async false
set_option linter.all false
set_option maxRecDepth 100000

namespace Vc
open PySem L2
variable [KF]
variable {G:GE} {k:Nat} {S:Stat}
theorem ix2_0 (a b:D) (Q:D -> Prop):ixD (.lst [a,b]) (.int 0) Q = Q a:=rfl
theorem ix2_1 (a b:D) (Q:D -> Prop):ixD (.lst [a,b]) (.int 1) Q = Q b:=rfl
theorem ixN2_0:ixN 2 0 = some 0:=rfl
theorem ixN2_1:ixN 2 1 = some 1:=rfl
theorem compIo_on {α:Type} {g:TGd} {te:TD} {σc:Sd} {m:Nat} {Q:List D -> List D -> Prop} {xs0:List D} (gi:α -> D) (P:D -> Prop) (Rk:List D -> Prop) (l:List α)
    (h:∀ a ∈ l,∀ xs,Rk xs -> ∀ (A:D -> List D -> Prop) (Z:Prop),Z -> (∀ d ys,P d -> Rk ys -> A d ys) -> g (gi a) (σc.set m (some (.own xs))) fun σ1=>te σ1 fun d σ3=>leS σc σ3 /\ Z /\ ownAt m σ3 fun ys=>A d ys)
    (hl:l.length <= sizeLine) (h0:Rk xs0) (q:∀ ds ys,ds.length = l.length -> (∀ d ∈ ds,P d) -> Rk ys -> Q ds ys):compIo g tTrue te σc m (l.map gi) [] xs0 Q:=by
  have key:∀ (l2:List α) (acc xs:List D),(∀ a ∈ l2,a ∈ l) -> acc.length + l2.length = l.length -> (∀ d ∈ acc,P d) -> Rk xs -> compIo g tTrue te σc m (l2.map gi) acc xs Q:=by
    intro l2
    induction l2 with
    | nil=>intro acc xs _ hlen hacc hr;exact q acc xs (by simpa using hlen) hacc hr
    | cons a l2 ih =>
      intro acc xs hm hlen hacc hr
      have hlen':acc.length + (l2.length + 1) = l.length:=by simpa using hlen
      show g (gi a) _ fun σ1=>tTrue σ1 fun b σ2=>_
      exact h a (hm a (List.mem_cons_self ..)) xs hr (fun d ys=>compIo g tTrue te σc m (l2.map gi) (acc ++ [d]) ys Q) (acc.length < sizeLine) (by omega) fun d ys hd hy =>
        ih _ ys (fun x hx=>hm x (List.mem_cons_of_mem _ hx)) (by rw [List.length_append,List.length_singleton];omega) (fun x hx=>by
          rcases List.mem_append.mp hx with hx | hx
          · exact hacc x hx
          · rw [List.mem_singleton.mp hx];exact hd) hy
  exact key l [] xs0 (fun _ h=>h) (by simp) (fun d hd=>by cases hd) h0

end Vc

set_option Elab.async false
set_option linter.all false
set_option maxRecDepth 100000

namespace Vc
open PySem L2
variable [KF]
section
variable {prog:Program} {w:World} {A:Around} {R:Result -> Shared -> Prop}
end
end Vc

set_option Elab.async false
set_option linter.all false
set_option maxRecDepth 100000

namespace Vc
open PySem L2
variable [KF]
variable {G:GE} {k:Nat} {S:Stat}
end Vc

set_option Elab.async false
set_option linter.all false
set_option maxRecDepth 100000

namespace Vc
open PySem L2
variable [KF]
variable {G:GE} {k:Nat} {S:Stat}
end Vc

set_option Elab.async false
set_option linter.all false
set_option maxRecDepth 100000

namespace Vc
open PySem L2 PySem.Spec PyProof.Rows
section
variable {prog:Program} {w:World} {A:Around} {E:Value -> Shared -> Prop} {s:Shared}
end
section
variable {X:Cx} {e:Expr} {te:TE} {st:Expr} {ts:TO} {pos p2:Pos}
end
variable [KF]
variable {G:GE} {k:Nat} {S:Stat}
end Vc

set_option Elab.async false
set_option linter.all false
set_option maxRecDepth 100000

namespace Vc
open PySem L2 PySem.Spec PyProof.Rows PySem.SeqAt PySem.MeetsSeq PySem.MeetsSeq2 PySem.MeetsSeq3
section
variable {prog:Program} {w:World} {A:Around} {E:Value -> Shared -> Prop} {s:Shared}
end
section
variable {X:Cx}
end
variable [KF]
variable {G:GE} {k:Nat} {S:Stat}
end Vc

set_option Elab.async false
set_option linter.all false
set_option maxRecDepth 100000

namespace Vc
open PySem L2
variable [KF]

structure Fly (h:Heap) (a T:Addr) (c:Str):Prop where
  ex:∃ o vs a0,h.get? a = some o /\ o.cls = .ref (KF.cls c) /\ o.data = .fields vs /\ vs[0]? = some a0 /\ vs[1]? = some (.ref T)
  tb:∃ o ts,h.get? T = some o /\ o.data = .fields ts /\ ts[3]? = some .none
structure Moved (fs:List Addr) (a T:Addr) (h h':Heap) (T':Addr):Prop where
  keep:∀ b o,h.get? b = some o -> b ≠ a -> b ≠ T -> b ∉ fs -> h'.get? b = some o
  slot:∀ b o,h.get? b = some o -> b ∈ fs -> ∃ sl,h'.get? b = some { o with slots:=sl }
  ne:T' ≠ a
  new:h.get? T' = none \/ T' = T
section
variable {M:Model} {A:Around} {E:Value -> Shared -> Prop} {s:Shared} {base:Heap} {env:Env} {outer:List Env} {L a T:Addr} {c:Str} {Q:Unit -> Shared -> Prop}
end
end Vc

set_option Elab.async false
set_option linter.all false
set_option maxRecDepth 100000

namespace Vc
open PySem L2
variable [KF]
variable {G:GE} {k:Nat} {S:Stat}

end Vc

set_option Elab.async false
set_option linter.all false
set_option maxRecDepth 100000

namespace Vc
open PySem L2
variable [KF]
variable {G:GE} {k:Nat} {S:Stat}

noncomputable def bmV:List Value:=[.type "ValueError",.type "Exception",.type "BaseException",.type "object"]
noncomputable def mroIn (K:PySem.W.Frag) (C:Addr):List Value:=match K.lookup C with
  | some ⟨_,_,.cls cd,_⟩=>cd.mro
  | _=>[]
structure ClsX (G:GE) (x:Str):Prop where
  mg:G.mg x = some (.ref (KF.cls x))
  exc:PySem.W.excIn G.K (KF.cls x) bmV "ValueError.__new__" = true
end Vc

set_option Elab.async false
set_option linter.all false
set_option maxRecDepth 100000

namespace Vc
open PySem L2
variable [KF]
variable {G:GE} {k:Nat} {S:Stat}

structure XCls (G:GE) (L:List Str):Prop where
  cls:∀ c ∈ L,ClsX G c
  mro:∀ c ∈ L,mroIn G.K (KF.cls c) = .ref (KF.cls c) :: ((if c = "NearError" then [] else [.ref (KF.cls "NearError")]) ++ bmV)
  inj:∀ c ∈ L,∀ d ∈ L,KF.cls c = KF.cls d -> c = d
  near:("NearError":Str) ∈ L
section
variable {M:Model} {A:Around} {E:Value -> Shared -> Prop} {h:Heap} {g:Array GenState} {d:Drawn} {t:Nat} {os:OsState}
end
end Vc

set_option Elab.async false
set_option linter.all false
set_option maxRecDepth 100000

namespace Vc
open PySem L2
variable [KF]
variable {G:GE} {k:Nat} {S:Stat}

section
variable {X:Cx} {pins:List (Addr × Obj)} {σ:St} {H:Hp} {s:Shared} {a:Addr} {xe:Value -> Shared -> Prop}
end
end Vc

set_option Elab.async false
set_option linter.all false
set_option maxRecDepth 100000

namespace Vc
open PySem L2
variable [KF]
variable {G:GE} {k:Nat} {S:Stat}

end Vc

set_option Elab.async false
set_option linter.all false
set_option maxRecDepth 100000

namespace Vx
open PySem PySem.W PySem.Calls PySem.Spec PyProof.Rows Builtin Builtin.ObjectAttr Builtin.Getset_descriptor

noncomputable def lookX (K:PySem.W.Frag) (C:Addr):Bool :=
  PySem.W.findIn K (.ref C) "__getattribute__" == some (some (.builtin "BaseException.__getattribute__")) && PySem.W.findIn K (.ref C) "__getattr__" == some none && PySem.W.findIn K (.ref C) "__class__" == some (some (.builtin "object.__class__")) &&
  PySem.W.mroIn K C (.type "object") == some true && PySem.W.mroIn K C (.type "BaseException") == some true && PySem.W.typeIn K (.ref C) == some (.type "type")
section
variable {prog:Program} {w:World} {A:Around} {E:Value -> Shared -> Prop} {h:Heap} {g:Array GenState} {d:Drawn} {t:Nat} {os:OsState} {K:PySem.W.Frag} {x C:Addr} {o:Obj}
end
end Vx

set_option Elab.async false
set_option linter.all false
set_option maxRecDepth 100000

namespace Vc
open PySem L2
variable [KF]
variable {G:GE} {k:Nat} {S:Stat}

structure XClsI (G:GE) (L:List Str):Prop extends XCls G L where
  look:∀ c ∈ L,Vx.lookX G.K (KF.cls c) = true
end Vc

set_option Elab.async false
set_option linter.all false
set_option maxRecDepth 100000

namespace Vc
open PySem L2
variable [KF]
variable {G:GE} {k:Nat} {S:Stat}

structure FnOkH (P:Program) (w:World) (K:PySem.W.Frag) (mg:Str -> Option Value) (base:Heap) (k:Nat) (f:Addr) (fd:FuncData) (ps:List Str) (sp:Sp):Prop where
  len:∀ vs H Q E,sp vs H Q E -> vs.length = ps.length
  run:∀ (A:Around) (outer:List Env) (s:Shared) (H:Hp) (args:Args) (us:List Value) (vs:List V) (Q:VK) (E:XK),A.depth + 3 * k + 5 < recursionLimit -> A.units + 16 * k + 200 < cLine -> Env0 P w K mg base A outer s H ->
    BindsTo s fd args (ps.zip us) -> Vals vs us -> sp vs H Q E -> codeAny (model P w) A (.call (.ref f) args) (CR CX0 outer P w H s Q E) s
end Vc

set_option Elab.async false
set_option linter.all false
set_option maxRecDepth 100000

namespace Vx
open PySem PySem.Spec PySem.Calls PyProof.Rows Builtin
end Vx
namespace Vc
open PySem L2
variable [KF]
variable {G:GE} {k:Nat} {S:Stat}
end Vc
namespace Vc
end Vc

set_option Elab.async false
set_option linter.all false
set_option maxRecDepth 100000

namespace Vc
open PySem L2
section
variable {X:Cx}
end
variable [KF]
variable {G:GE} {k:Nat} {S:Stat}
end Vc

set_option maxHeartbeats 0
set_option Elab.async false
set_option linter.all false
namespace Vc
open PySem PySem.W
@[elab_as_elim] theorem len1 {α:Type} {P:List α -> Prop} (h:∀ a,P [a]):∀ us:List α,us.length = 1 -> P us
  | [a],_=>h a
@[elab_as_elim] theorem len2 {α:Type} {P:List α -> Prop} (h:∀ a b,P [a,b]):∀ us:List α,us.length = 2 -> P us
  | [a,b],_=>h a b
@[elab_as_elim] theorem len3 {α:Type} {P:List α -> Prop} (h:∀ a b c,P [a,b,c]):∀ us:List α,us.length = 3 -> P us
  | [a,b,c],_=>h a b c
@[elab_as_elim] theorem len4 {α:Type} {P:List α -> Prop} (h:∀ a b c d,P [a,b,c,d]):∀ us:List α,us.length = 4 -> P us
  | [a,b,c,d],_=>h a b c d
@[elab_as_elim] theorem len5 {α:Type} {P:List α -> Prop} (h:∀ a b c d e,P [a,b,c,d,e]):∀ us:List α,us.length = 5 -> P us
  | [a,b,c,d,e],_=>h a b c d e
theorem x_of_o {q:Program} {loose:List Str} {XP:(Str -> Option Value) -> Heap -> Prop} {K:Params -> Frag} {as:List Addr} {n t:Nat} {r:RowW} {d:DefRec} {kwd:List (Str × Expr)} {run:Value -> List Value -> Sem Value}
    (e:∀ P,as = (K P).map (·.1)) (h:WalkO q loose XP (fun w h=>(K w.params).In h) r d kwd run):WalkX q loose XP (X.obsZ as) (X.valZ K n t) r d kwd run :=
  fun w s₀ s₁ mg mb G y a o pm cd doc dV kV ho hd hcd hD hmg hg args vals as' L hpre hlay hrd hwl hlo =>
    h w s₀ s₁ mg mb G (InK.keeps w _ _ (X.z_facts e y).2.1 L.keeps) a o pm cd doc dV kV ho hd hcd hD hmg hg args vals as' hpre hlay hrd hwl hlo
end Vc

set_option Elab.async false
set_option linter.all false
set_option maxRecDepth 100000

namespace Vc
open PySem L2
variable [KF]
variable {G:GE} {k:Nat} {S:Stat}
end Vc

set_option Elab.async false
set_option linter.all false
set_option maxRecDepth 100000

namespace Vc
open PySem L2
variable [KF]
variable {G:GE} {k:Nat} {S:Stat}
end Vc

set_option Elab.async false
set_option linter.all false
set_option maxRecDepth 100000

namespace Vc
open PySem L2
variable [KF]
variable {G:GE} {k:Nat} {S:Stat}
end Vc

set_option Elab.async false
set_option linter.all false
set_option maxRecDepth 100000

namespace Vc
open PySem L2
variable [KF]
variable {G:GE} {k:Nat} {S:Stat}
end Vc

set_option Elab.async false
set_option linter.all false
set_option maxRecDepth 100000

namespace Vc
open PySem L2
variable [KF]
variable {G:GE} {k:Nat} {S:Stat}
end Vc

set_option Elab.async false
set_option linter.all false
set_option maxRecDepth 100000

namespace Vc
open PySem L2
variable [KF]
variable {G:GE} {k:Nat} {S:Stat}
noncomputable def keyK:D -> Option Key
  | .int i=>some (.inl i)
  | .str x=>some (.inr x)
  | _=>none
noncomputable def keysK:List D -> Option (List Key)
  | []=>some []
  | d :: ds=>match keyK d,keysK ds with
    | some k,some ks=>some (k :: ks)
    | _,_=>none
noncomputable def keyT:D -> Option (List Key)
  | .tup ds=>keysK ds
  | _=>none
theorem keyK_is {d:D} {k:Key} (h:keyK d = some k):d = kD k:=by
  cases d<;>cases h<;>rfl
theorem keysK_is:∀ {ds:List D} {ks:List Key},keysK ds = some ks -> ds = ks.map kD
  | [],ks,h=>by cases h;rfl
  | d :: ds,ks,h=>by
    unfold keysK at h
    split at h
    · rename_i k ks' e1 e2
      cases h
      rw [keyK_is e1,keysK_is e2];rfl
    · cases h
theorem keyT_is {d:D} {ks:List Key} (h:keyT d = some ks):d = .tup (ks.map kD):=by
  cases d with
  | tup ds=>rw [keysK_is h]
  | _=>cases h
theorem Rep.key {F:Hp} {v:V} {k:Key} (r:Rep F v (kD k)):v = kV k:=by
  cases k with
  | inl i=>cases (show Rep F v (.int i) from r);rfl
  | inr x=>cases (show Rep F v (.str x) from r);rfl
theorem RepL.keys {F:Hp}:∀ {ks:List Key} {vs:List V},RepL F vs (ks.map kD) -> vs = ks.map kV
  | [],_,r=>by cases r;rfl
  | k :: ks,_,r=>by
    cases r with
    | cons h t=>rw [h.key,RepL.keys t];rfl
theorem Rep.keyT {F:Hp} {v:V} {ks:List Key} (r:Rep F v (.tup (ks.map kD))):∃ b,v = .ref b /\ F b = some (.tup (ks.map kV)):=by
  cases r with
  | tup h r=>exact ⟨_,rfl,by rw [<- r.keys];exact h⟩
theorem eqD_kD (a b:Key):eqD (kD a) (kD b) = decide (a = b):=by
  cases a<;>cases b<;>simp [kD,eqD]<;>rfl
theorem eqDs_kD:∀ as bs:List Key,eqDs (as.map kD) (bs.map kD) = decide (as = bs)
  | [],[]=>rfl
  | [],b :: bs=>rfl
  | a :: as,[]=>rfl
  | a :: as,b :: bs=>by
    show (eqD (kD a) (kD b) && eqDs (as.map kD) (bs.map kD)) = _
    rw [eqD_kD,eqDs_kD as bs]
    by_cases h1:a = b
    · subst h1
      by_cases h2:as = bs
      · subst h2;simp
      · simp [h2]
    · simp [h1]
theorem eqD_keyT (as bs:List Key):eqD (.tup (as.map kD)) (.tup (bs.map kD)) = decide (as = bs):=eqDs_kD as bs
noncomputable def dval (kvs:List (D × D)) (d:D):Option D:=(kvs.find? fun kv=>eqD kv.1 d).map (·.2)
noncomputable def dput (kvs:List (D × D)) (d v:D):List (D × D) :=
  if (kvs.any fun kv=>eqD kv.1 d) = true then kvs.map (fun kv=>if eqD kv.1 d = true then (kv.1,v) else kv) else kvs ++ [(d,v)]
theorem RepT.length {F:Hp}:∀ {ks:List (List Key × V)} {kvs:List (D × D)},RepT F ks kvs -> ks.length = kvs.length
  | _,_,.nil=>rfl
  | _,_,.cons _ r=>by simp [RepT.length r]
theorem RepT.any {F:Hp} (k:List Key):∀ {ks:List (List Key × V)} {kvs:List (D × D)},RepT F ks kvs -> (kvs.any fun kv=>eqD kv.1 (.tup (k.map kD))) = (ks.any fun kv=>decide (kv.1 = k))
  | _,_,.nil=>rfl
  | _,_,.cons _ r=>by rw [List.any_cons,List.any_cons,RepT.any k r,eqD_keyT]
theorem RepT.val {F:Hp} (k:List Key):∀ {ks:List (List Key × V)} {kvs:List (D × D)},RepT F ks kvs -> (valV ks k = none /\ dval kvs (.tup (k.map kD)) = none) \/ ∃ v d,valV ks k = some v /\ dval kvs (.tup (k.map kD)) = some d /\ Rep F v d
  | _,_,.nil=>.inl ⟨rfl,rfl⟩
  | _,_,.cons (k:=k') (v:=v) (d:=d) (ks:=ks) (kvs:=kvs) h r=>by
    by_cases e:k' = k
    · subst e
      refine .inr ⟨v,d,?_,?_,h⟩
      · unfold valV;rw [List.find?_cons_of_pos (by simp)];rfl
      · unfold dval;rw [List.find?_cons_of_pos (by rw [eqD_keyT];simp)];rfl
    · have e1:valV ((k',v) :: ks) k = valV ks k:=by unfold valV;rw [List.find?_cons_of_neg (by simpa using e)]
      have e2:dval ((D.tup (k'.map kD),d) :: kvs) (.tup (k.map kD)) = dval kvs (.tup (k.map kD)):=by unfold dval;rw [List.find?_cons_of_neg (by rw [eqD_keyT];simpa using e)]
      rw [e1,e2]
      exact RepT.val k r
theorem RepT.append {F:Hp}:∀ {ks ks':List (List Key × V)} {kvs kvs':List (D × D)},RepT F ks kvs -> RepT F ks' kvs' -> RepT F (ks ++ ks') (kvs ++ kvs')
  | _,_,_,_,.nil,s=>s
  | _,_,_,_,.cons h r,s=>.cons h (RepT.append r s)
theorem RepT.repl {F:Hp} {v:V} {d:D} (k:List Key) (hv:Rep F v d):∀ {ks:List (List Key × V)} {kvs:List (D × D)},RepT F ks kvs -> RepT F (ks.map fun kv=>if kv.1 = k then (kv.1,v) else kv) (kvs.map fun kv=>if eqD kv.1 (.tup (k.map kD)) = true then (kv.1,d) else kv)
  | _,_,.nil=>.nil
  | _,_,.cons (k:=k') h r=>by
    rw [List.map_cons,List.map_cons]
    by_cases e:k' = k
    · rw [if_pos (show k' = k from e),if_pos (show eqD (.tup (k'.map kD)) (.tup (k.map kD)) = true by rw [eqD_keyT];simpa using e)]
      exact .cons hv (RepT.repl k hv r)
    · rw [if_neg (show ¬ k' = k from e),if_neg (show ¬ eqD (.tup (k'.map kD)) (.tup (k.map kD)) = true by rw [eqD_keyT];simpa using e)]
      exact .cons h (RepT.repl k hv r)
theorem RepT.put {F:Hp} {ks:List (List Key × V)} {kvs:List (D × D)} {v:V} {d:D} (k:List Key) (r:RepT F ks kvs) (hv:Rep F v d):RepT F (putK ks k v) (dput kvs (.tup (k.map kD)) d):=by
  unfold putK dput
  rw [r.any k]
  split
  · exact r.repl k hv
  · exact r.append (.cons hv .nil)
noncomputable def dtO (kvs:List (D × D)):O where
  fp:=fun a=>[a]
  rep:=fun F H a=>∃ ks,H a = some (.dT ks) /\ RepT F ks kvs
  self:=fun a=>List.mem_singleton.mpr rfl
  solid:=fun {F H a b φ} ⟨ks,h,_⟩ hb z=>by
    rw [List.mem_singleton.mp hb,h] at z;cases z
  nt:=fun {F H a b vs} ⟨ks,h,_⟩ hb z=>by
    rw [List.mem_singleton.mp hb,h] at z;cases z
  mono:=fun {F F' H H' a} s e ⟨ks,h,r⟩=>⟨ks,by rw [e a (List.mem_singleton.mpr rfl)];exact h,r.mono s⟩
theorem RS.objWrite {Y:Dyn} {F:Hp} {σd:Sd} {σ:St} {H:Hp} {i:Nat} {o o':O} {a c:Addr} {u:HO} (R:RS Y F σd σ H) (e:σd[i]? = some (some (.obj o))) (h:σ[i]? = some (some (.ref a))) (hc:c ∈ o.fp a) (hfp:∀ b,b ∈ o'.fp a -> b ∈ o.fp a)
    (hr:o'.rep F (upd H c u) a):RS Y F (σd.set i (some (.obj o'))) σ (upd H c u):=by
  obtain ⟨a',w1,w2,w3⟩:=R.ob.obj i o e
  rw [h] at w1;cases w1
  have ow:∀ b ∈ o.fp a,Owned σd σ b:=fun b hb=>⟨i,o,a,e,h,hb⟩
  have hl:i < σd.length:=(List.getElem?_eq_some_iff.mp e).1
  have up:∀ {b:Addr},H b ≠ none -> (upd H c u) b ≠ none:=fun {b} hb=>by
    by_cases z:b = c
    · rw [z,upd_same];exact fun y=>nomatch y
    · rw [upd_ne z];exact hb
  refine ⟨by simpa using R.len,R.lo,fun b q z=>?_,R.fro,fun b q z n=>?_,fun j d z=>?_,fun j xs z=>?_,fun j l xs ys b z1 z2 z3 z4=>?_,fun p hp=>?_,⟨fun j p z=>?_,fun j l p p2 b d z1 z2 z3 z4 hne x hx hx2=>?_,fun j ys b z1 z2 ⟨l,p,d,z3,z4,hm⟩=>?_,fun b hb=>up (R.ob.there b hb),R.ob.thz,R.ob.tab⟩⟩
  · have:b ≠ c:=fun y=>by rw [y,(w3 c hc).1] at z;cases z
    rw [upd_ne this];exact R.fr b q z
  · have:b ≠ c:=fun y=>by
      subst y
      rcases (w3 b hc).2.2 with y | y
      · rw [y] at z;cases z
      · exact n (List.mem_append_right _ y)
    rw [upd_ne this];exact R.old b q z n
  · rcases gs z with ⟨_,y⟩ | ⟨_,z⟩
    · cases y
    · exact R.sh j d z
  · rcases gs z with ⟨_,y⟩ | ⟨_,z⟩
    · cases y
    · obtain ⟨b,vs,y1,y2,y3⟩:=R.own j xs z
      have:b ≠ c:=fun y=>R.ob.dsx j xs b z y1 (y ▸ ow c hc)
      exact ⟨b,vs,y1,by rw [upd_ne this];exact y2,y3⟩
  · rcases gs z1 with ⟨_,y⟩ | ⟨_,z1⟩
    · cases y
    rcases gs z2 with ⟨_,y⟩ | ⟨_,z2⟩
    · cases y
    exact R.dis j l xs ys b z1 z2 z3 z4
  · obtain ⟨y1,xs,y2⟩:=R.io p hp
    have:p.1 ≠ i:=fun y=>by rw [y,e] at y2;cases y2
    exact ⟨y1,xs,by rw [gs_ne this];exact y2⟩
  · rcases gs z with ⟨rfl,y⟩ | ⟨hj,z⟩
    · cases y
      exact ⟨a,h,hr,fun b hb=>⟨(w3 b (hfp b hb)).1,up (w3 b (hfp b hb)).2.1,(w3 b (hfp b hb)).2.2⟩⟩
    · obtain ⟨b,y1,y2,y3⟩:=R.ob.obj j p z
      refine ⟨b,y1,p.mono (Same.refl _) (fun d hd=>?_) y2,fun d hd=>⟨(y3 d hd).1,up (y3 d hd).2.1,(y3 d hd).2.2⟩⟩
      exact upd_ne fun y=>R.ob.dso i j o p a b e z h y1 (Ne.symm hj) c hc (y ▸ hd)
  · rcases gs z1 with ⟨e1,y⟩ | ⟨hj,y1⟩
    · cases y
      subst e1
      rw [h] at z3;cases z3
      rcases gs z2 with ⟨e2,_⟩ | ⟨hl2,y2⟩
      · exact hne e2.symm
      · exact R.ob.dso j l o p2 a d e y2 h z4 hne x (hfp x hx) hx2
    · rcases gs z2 with ⟨e2,y⟩ | ⟨hl2,y2⟩
      · cases y
        subst e2
        rw [h] at z4;cases z4
        exact R.ob.dso j l p o b a y1 e z3 h hne x hx (hfp x hx2)
      · exact R.ob.dso j l p p2 b d y1 y2 z3 z4 hne x hx hx2
  · rcases gs z1 with ⟨_,y⟩ | ⟨_,y1⟩
    · cases y
    rcases gs z3 with ⟨e3,y⟩ | ⟨_,y3⟩
    · cases y
      subst e3
      rw [h] at z4;cases z4
      exact R.ob.dsx j ys b y1 z2 (ow b (hfp b hm))
    · exact R.ob.dsx j ys b y1 z2 ⟨l,p,d,y3,z4,hm⟩
theorem RS.dctFreeze {Y:Dyn} {F:Hp} {σd:Sd} {σ:St} {H:Hp} {i:Nat} {kvs:List (D × D)} (R:RS Y F σd σ H) (e:σd[i]? = some (some (.obj (dtO kvs)))) (hob:Y.ob = []) :
    ∃ F' v,Same F F' /\ RS Y F' (σd.set i (some (.sh (.dct kvs)))) σ H /\ σ[i]? = some (some v) /\ Rep F' v (.dct kvs):=by
  obtain ⟨a,w1,⟨ks,w2,w3⟩,w4⟩:=R.ob.obj i _ e
  have ha:=w4 a (List.mem_singleton.mpr rfl)
  have hz:Y.H0 a = none:=ha.2.2.elim id fun z=>by rw [hob] at z;cases z
  have sm:=same_alloc (o:=.dT ks) ha.1
  have ow:Owned σd σ a:=⟨i,_,a,e,w1,List.mem_singleton.mpr rfl⟩
  have hl:i < σd.length:=(List.getElem?_eq_some_iff.mp e).1
  have rep:Rep (upd F a (.dT ks)) (.ref a) (.dct kvs):=.dctT upd_same (w3.mono sm)
  refine ⟨upd F a (.dT ks),.ref a,sm,⟨by simpa using R.len,R.lo.trans sm,fun b q z=>?_,fun b q z=>?_,R.old,fun j d z=>?_,fun j xs z=>?_,fun j l xs ys b z1 z2 z3 z4=>?_,fun p hp=>?_,?_⟩,w1,rep⟩
  · by_cases hb:b = a
    · subst hb;rw [upd_same] at z;cases z;exact w2
    · rw [upd_ne hb] at z;exact R.fr b q z
  · by_cases hb:b = a
    · rw [hb];exact .inr (.inl hz)
    · rw [upd_ne hb] at z;exact R.fro b q z
  · rcases gs z with ⟨rfl,y⟩ | ⟨_,z⟩
    · cases y;exact ⟨_,w1,rep⟩
    · obtain ⟨v,y1,y2⟩:=R.sh j d z
      exact ⟨v,y1,y2.mono sm⟩
  · rcases gs z with ⟨_,y⟩ | ⟨_,z⟩
    · cases y
    · obtain ⟨b,vs,y1,y2,y3,y4,y5⟩:=R.own j xs z
      have:b ≠ a:=fun y=>R.ob.dsx j xs b z y1 (y ▸ ow)
      exact ⟨b,vs,y1,y2,y3.mono sm,by rw [upd_ne this];exact y4,y5⟩
  · rcases gs z1 with ⟨_,y⟩ | ⟨_,z1⟩
    · cases y
    rcases gs z2 with ⟨_,y⟩ | ⟨_,z2⟩
    · cases y
    exact R.dis j l xs ys b z1 z2 z3 z4
  · obtain ⟨y1,xs,y2⟩:=R.io p hp
    have:p.1 ≠ i:=fun y=>by rw [y,e] at y2;cases y2
    exact ⟨y1,xs,by rw [gs_ne this];exact y2⟩
  · refine ⟨fun j p z=>?_,fun j l p p2 b d z1 z2=>?_,fun j ys b z1 z2 ⟨l,p,d,z3,z4,hm⟩=>?_,R.ob.there,R.ob.thz,R.ob.tab.mono sm⟩
    · rcases gs z with ⟨_,y⟩ | ⟨hj,z⟩
      · cases y
      obtain ⟨b,y1,y2,y3⟩:=R.ob.obj j p z
      refine ⟨b,y1,p.mono sm (fun _ _=>rfl) y2,fun d hd=>⟨?_,(y3 d hd).2⟩⟩
      have hne:d ≠ a:=fun y=>R.ob.dso i j _ p a b e z w1 y1 (Ne.symm hj) a (List.mem_singleton.mpr rfl) (by rw [<- y];exact hd)
      rw [upd_ne hne]
      exact (y3 d hd).1
    · rcases gs z1 with ⟨_,y⟩ | ⟨_,z1⟩
      · cases y
      rcases gs z2 with ⟨_,y⟩ | ⟨_,z2⟩
      · cases y
      exact R.ob.dso j l p p2 b d z1 z2
    · rcases gs z1 with ⟨_,y⟩ | ⟨_,z1⟩
      · cases y
      rcases gs z3 with ⟨_,y⟩ | ⟨_,z3⟩
      · cases y
      exact R.ob.dsx j ys b z1 z2 ⟨l,p,d,z3,z4,hm⟩
noncomputable def tDNt:TX:=fun σ Q=>Q (.obj (dtO [])) σ
theorem r_dnewT {pos:Pos}:EX G k S (.Dict [] [] pos) tDNt:=.mk fun X Y ok=>pe_imp pe_dnewT fun σ H Q q=>by
  obtain ⟨F,σd,Qd,R,q,K⟩:=q
  intro p hp
  refine K _ _ F (.obj (dtO [])) σd (Same.refl _) (R.alloc0 hp) ⟨p,rfl,⟨[],upd_same,.nil⟩,fun b hb=>?_⟩ q
  rw [List.mem_singleton.mp hb]
  exact ⟨same_none R.fr hp,(by rw [upd_same];exact fun z=>nomatch z),(R.fresh0 hp).1,R.noFresh hp⟩
noncomputable def tOv (i:Nat):TV:=fun σ Q=>(∃ o,σ[i]? = some (some (.obj o))) /\ Q (.var i) σ
theorem r_ov (i:Nat) {x:Str} {pos:Pos} (hN:S.N[i]? = some x:=by rfl) (hv:S.sc.lookup x = some .local \/ S.sc.lookup x = some .cell \/ S.sc.lookup x = some .free:=by first | exact Or.inl rfl | exact Or.inr (Or.inl rfl) | exact Or.inr (Or.inr rfl))
    (hd:(x == ("__debug__":Str)) = false:=by decide) (hcd:(x == ("__classdict__":Str)) = false:=by decide):EO G k S (.Name x pos) (tOv i):=.mk fun X Y ok =>
  pe_imp (pe_var (X:=X) (i:=i) (by rw [ok.N];exact hN) (by unfold Vis;rw [ok.sc];exact hv) hd hcd) fun σ H Q q=>by
    obtain ⟨F,σd,Qd,R,⟨⟨o,e⟩,q⟩,K⟩:=q
    obtain ⟨a,w1,_⟩:=R.ob.obj i o e
    exact ⟨.ref a,w1,K _ H F (.var i) σd (Same.refl _) R w1 q⟩
noncomputable def tDz (i:Nat):TD:=fun σ Q=>∃ kvs,σ[i]? = some (some (.obj (dtO kvs))) /\ Q (.dct kvs) (σ.set i (some (.sh (.dct kvs))))
theorem r_dz (i:Nat) {x:Str} {pos:Pos} (hN:S.N[i]? = some x:=by rfl) (hv:S.sc.lookup x = some .local \/ S.sc.lookup x = some .cell \/ S.sc.lookup x = some .free:=by first | exact Or.inl rfl | exact Or.inr (Or.inl rfl) | exact Or.inr (Or.inr rfl))
    (hd:(x == ("__debug__":Str)) = false:=by decide) (hcd:(x == ("__classdict__":Str)) = false:=by decide) (hbk:S.blk = false:=by rfl) (hio:S.ios = []:=by rfl):ED G k S (.Name x pos) (tDz i):=.mk fun X Y ok =>
  pe_imp (pe_var (X:=X) (i:=i) (by rw [ok.N];exact hN) (by unfold Vis;rw [ok.sc];exact hv) hd hcd) fun σ H Q q=>by
    obtain ⟨F,σd,Qd,R,⟨kvs,e,q⟩,K⟩:=q
    obtain ⟨F',v,s,R',e2,r⟩:=R.dctFreeze e (ok.obs hbk hio)
    exact ⟨v,e2,K v H F' (.dct kvs) _ s R' r q⟩
noncomputable def tDpT (i:Nat) (tk tv:TD):TSd:=fun De σ=>tv σ fun d σ1=>(∃ o,σ1[i]? = some (some (.obj o))) /\ tk σ1 fun kd σ2=>∃ kvs ks,σ2[i]? = some (some (.obj (dtO kvs))) /\ keyT kd = some ks /\ kvs.length < sizeLine /\ De.nx (σ2.set i (some (.obj (dtO (dput kvs kd d)))))
theorem s_dputT (i:Nat) {x:Str} {ke ve:Expr} {tk tv:TD} {np pos' pos:Pos} (hv:ED G k S ve tv) (hk:ED G k S ke tk) (ho:EO G k S (.Name x np) (tOv i)) (hs:∀ line env,swapsWith ve (some (.Subscript (.Name x np) ke pos')) line env = pure false:=by intro _ _;rfl) :
    ES G k S (.Assign [.Subscript (.Name x np) ke pos'] ve pos) (tDpT i tk tv):=.mk fun X Y ok =>
  ps_imp (ps_dput (by have:=ok.units;omega) (ho X Y ok) (hk X Y ok) (hv X Y ok) (hs _ _)) fun Dn σ H q=>by
    obtain ⟨F,σd,De,R,q,K⟩:=q
    refine ⟨F,σd,_,R,q,fun v H1 F1 d σ1 s1 R1 r1 q1=>?_⟩
    refine ⟨F1,σ1,fun x σ1'=>x = .var i /\ tk σ1' fun kd σ2=>∃ kvs ks,σ2[i]? = some (some (.obj (dtO kvs))) /\ keyT kd = some ks /\ kvs.length < sizeLine /\ De.nx (σ2.set i (some (.obj (dtO (dput kvs kd d))))),R1,⟨q1.1,rfl,q1.2⟩,fun v2 H2 F2 y σ2 s2 R2 r2 q2=>?_⟩
    obtain ⟨rfl,q2⟩:=q2
    have r2:σ[i]? = some (some v2):=r2
    refine ⟨F2,σ2,_,R2,q2,fun v3 H3 F3 kd σ3 s3 R3 r3 q3=>?_⟩
    obtain ⟨kvs,ks,e,ek,hl,q3⟩:=q3
    obtain ⟨a,w1,⟨us,w2,w3⟩,w4⟩:=R3.ob.obj i _ e
    rw [r2] at w1;cases w1
    obtain rfl:=keyT_is ek
    obtain ⟨b,rfl,hb⟩:=r3.keyT
    refine ⟨a,_,rfl,.t w2 (R3.fr b _ hb) (by rw [w3.length];exact hl),K.nx σ _ F3 _ ((s1.trans s2).trans s3) (R3.objWrite (o':=dtO (dput kvs (.tup (ks.map kD)) d)) e r2 (List.mem_singleton.mpr rfl) (fun _ z=>z) ⟨_,upd_same,w3.put ks (r1.mono (s2.trans s3))⟩) q3⟩
noncomputable def inDT:D -> D -> (Bool -> Prop) -> Prop
  | x,.dct kvs,Q=>(keyT x).isSome = true /\ Q (dval kvs x).isSome
  | _,_,_=>False
noncomputable def ninDT (x y:D) (Q:Bool -> Prop):Prop:=inDT x y fun b=>Q !b
noncomputable def rInDct (neg:Bool):R2:=fun y x H Q=>∃ a o,x = .ref a /\ DGet H a y o /\ Q (.bl (if neg then !o.isSome else o.isSome)) H
theorem op_ninDct {X:Cx} (hu:X.A.units + 1 < cLine):OpR X (compareOp .NotIn) (rInDct true):=by
  intro pins s σ H x y v u Q I rx ry h
  obtain ⟨a,o,rfl,g,q⟩:=h
  cases ry
  exact d_notIn hu I g rx fun s' I'=>⟨.bl (!o.isSome),H,I',rfl,q⟩
theorem inDct_get {F H:Hp} (s:Same F H) {v u:V} {x:D} {kvs:List (D × D)} (rv:RepH F H v x) (ru:RepH F H u (.dct kvs)) (hk:(keyT x).isSome = true):∃ a o,u = .ref a /\ DGet H a v o /\ o.isSome = (dval kvs x).isSome:=by
  obtain ⟨ks,ek⟩:=Option.isSome_iff_exists.mp hk
  obtain rfl:=keyT_is ek
  obtain ⟨b,rfl,hb⟩:=(show Rep F v (.tup (ks.map kD)) from rv).keyT
  cases (show Rep F u (.dct kvs) from ru) with
  | dctT h r =>
    refine ⟨_,_,rfl,.t (s _ _ h) (s _ _ hb),?_⟩
    rcases r.val ks with ⟨e1,e2⟩ | ⟨v,d,e1,e2,_⟩
    · rw [e1,e2];rfl
    · rw [e1,e2];rfl
theorem c_ninD:CmpR G k S .NotIn ninDT:=⟨rInDct true,fun X Y ok=>op_ninDct (by have:=ok.units;omega),fun Y F H σd σ v u x y Qd Q R rx ry q K=>by
  unfold ninDT inDT at q
  split at q
  · obtain ⟨a,o,rfl,g,e⟩:=inDct_get R.fr rx ry q.1
    exact ⟨a,o,rfl,g,K _ (by rw [if_pos rfl,e];exact q.2)⟩
  · exact q.elim⟩
end Vc

set_option Elab.async false
set_option linter.all false
set_option maxRecDepth 100000
namespace Vx
open PySem PySem.Spec PyProof.Rows PySem.Builtin L2
end Vx
namespace Vc
open PySem L2
variable [KF]
variable {G:GE} {k:Nat} {S:Stat}
end Vc

set_option Elab.async false
set_option linter.all false
set_option maxRecDepth 100000

namespace Vc
open PySem L2
variable [KF]
variable {G:GE} {k:Nat} {S:Stat}
end Vc

set_option Elab.async false
set_option linter.all false
set_option maxRecDepth 100000

namespace Vc
open PySem PyProof.Rows
section
variable {prog:Program} {w:World} {A:Around} {R:Result -> Shared -> Prop}
noncomputable def Kp (h g:Heap):Prop:=∀ b o,h.get? b = some o -> g.get? b = some o
end
end Vc

set_option Elab.async false
set_option linter.all false
set_option maxRecDepth 100000
namespace Vc
open PySem PySem.Spec PyProof.Rows L2
section
variable {prog:Program} {w:World} {A:Around}
noncomputable def lamP (x:Str) (p:Pos):Arguments:={ posonlyargs:=[],args:=[{ arg:=x,annotation:=none,pos:=p }],vararg:=none,kwonlyargs:=[],kw_defaults:=[],kwarg:=none,defaults:=[] }
noncomputable def lamB (x:Str) (n:Nat) (p1 p2 p3:Pos):Expr:=.Subscript (.Name x p1) (.Constant (.int 0) n p2) p3
example {qual:Str} {p p1 p2 p3:Pos} {n:Nat} {scope:Scope} {pm ctv:Value} {a c':Addr}:bindArgs (PySem.W.kla_fn "<lambda>" qual (lamP "one" p) (lamB "one" n p1 p2 p3) scope [] pm (.ref c') ctv) ⟨[.ref a],[]⟩ = pure [(("one":Str),Value.ref a)]:=rfl
end
end Vc

set_option Elab.async false
set_option linter.all false
set_option maxRecDepth 100000
namespace Vc
open PySem PySem.Spec PyProof.Rows L2
section
variable {M:Model} {A:Around} {E:Value -> Shared -> Prop} {s:Shared} {params:Arguments} {body:Expr} {scope:Scope} {env:Env} {c P:Addr} {ps more:Array Value} {pos:Pos} {mg:Str -> Option Value} {Q:Value -> Shared -> Prop}
end
end Vc

set_option Elab.async false
set_option linter.all false
set_option maxRecDepth 100000
namespace Vc
open PySem PySem.Spec PyProof.Rows L2
section
variable [KF] {X:Cx} {pins:List (Addr × Obj)} {σ:L2.St} {H H1:Hp} {s:Shared} {P f c':Addr} {ps more':Array Value} {pos:Pos} {qual:Str} {oc fo:Obj} {vs:Array Value} {t:Tok} {h':Heap} {t':Nat}
end
end Vc

set_option Elab.async false
set_option linter.all false
set_option maxRecDepth 100000
namespace Vc
open PySem PySem.Spec PyProof.Rows L2
structure LamAt (X:Cx) (c P:Addr):Prop where
  code:X.env.code = .ref c
  hd:PySem.W.CodeHd X.base c P
  gP:mainGlobals ≠ P
  bm:X.base.BuiltinsAt X.mg P
section
variable [KF] {X:Cx} {c P:Addr} {ps:Array Value} {lpos:Pos} {params:Arguments} {body:Expr} {scope:Scope}
end
section
variable [KF] {G:GE} {k:Nat} {S:Stat}
end
end Vc

set_option Elab.async false
set_option linter.all false
set_option maxRecDepth 100000
namespace Vc
open PySem PySem.W L2
section
variable {P:Addr} {K:Frag} (hP:K.lookup P = some (tabObj #[]))
include hP
end
end Vc

set_option Elab.async false
set_option linter.all false
set_option maxRecDepth 100000
namespace Vc
open PySem PySem.Spec PyProof.Rows L2
section
variable [KF] {G:GE} {k:Nat}
structure LamG (G:GE) (fd:FuncData) (lpos:Pos) (x:Str):Prop where
  ex:∃ (c P bm:Addr) (sl:Array (Option Value)),fd.code = .ref c /\ PySem.W.codeHdIn G.K c P = true /\ (P,#[],lpos,x ++ ".<locals>." ++ "<lambda>") ∈ KF.tabs /\ mainGlobals ≠ P /\ G.mg "__builtins__" = some (.ref bm) /\ bm ≠ builtinsNs /\ bm ≠ mainGlobals /\ bm ≠ P /\ G.K.lookup bm = some ⟨.type "module",some builtinsNs,.plain,sl⟩
end
end Vc

set_option Elab.async false
set_option linter.all false
set_option maxRecDepth 100000
namespace Vc
open PySem L2
variable [KF]
structure CompSc1 (X:Cx) (scope:Scope) (N':List Str) (caps:List (Option Nat)) (z:Str):Prop where
  kind:scope.kind = .function
  names:∀ y ∈ scope.names,y.2 = .local -> scope.names.lookup y.1 = some .local
  free:∀ y ∈ scope.names,y.2 = .free -> X.env.kindOf y.1 = some .cell \/ X.env.kindOf y.1 = some .free
  len:caps.length = N'.length
  cap:∀ (i:Nat) (j:Nat),caps[i]? = some (some j) -> ∃ x,N'[i]? = some x /\ X.N[j]? = some x /\ scope.names.lookup x = some .free
  cz:scope.names.lookup z = some .cell
  one:∀ y ∈ scope.names,y.2 = .cell -> y.1 = z
  lay:∀ h:Heap,pushCells h scope.names = h.push { cls:=.type "cell",data:=.cell none }
  frm:∀ n acc,cellsFrom n scope.names acc = (z,n) :: acc
section
variable {X:Cx} {pins:List (Addr × Obj)} {σ:St} {H:Hp} {s:Shared} {elt target iter:Expr} {ifs:List Expr} {scope:Scope} {pos:Pos} {N':List Str} {caps:List (Option Nat)} {z:Str}
end
section
variable {X:Cx} {elt iter:Expr} {ifs:List Expr} {scope:Scope} {pos:Pos} {N':List Str} {caps:List (Option Nat)} {wi:TI} {tc:TT} {te:TE}
end
variable {G:GE} {k:Nat} {S:Stat}
structure BlkC (S:Stat) (scope:Scope) (N':List Str) (caps:List (Option Nat)) (z:Str):Prop where
  kind:scope.kind = .function
  nd:N'.Nodup
  names:scope.names.all (fun y=>y.2 != .local || scope.names.lookup y.1 == some .local) = true
  free:scope.names.all (fun y=>y.2 != .free || S.sc.lookup y.1 == some .cell || S.sc.lookup y.1 == some .free) = true
  len:caps.length = N'.length
  cap:(caps.zip N').all (fun p=>match p.1 with | some j=>S.N[j]? == some p.2 && scope.names.lookup p.2 == some .free | none=>true) = true
  cz:scope.names.lookup z = some .cell
  one:scope.names.all (fun y=>y.2 != .cell || y.1 == z) = true
  lay:∀ h:Heap,pushCells h scope.names = h.push { cls:=.type "cell",data:=.cell none }
  frm:∀ n acc,cellsFrom n scope.names acc = (z,n) :: acc
  idx:N'[0]? = some z
end Vc

set_option Elab.async false
set_option linter.all false
set_option maxRecDepth 100000
namespace Vc
open PySem L2
variable [KF]
section
variable {X:Cx}
end
end Vc

set_option Elab.async false
set_option linter.all false
set_option maxRecDepth 100000
namespace Vc
open PySem L2
variable [KF]
variable {G:GE} {k:Nat} {S:Stat}
end Vc

set_option Elab.async false
set_option linter.all false
set_option maxRecDepth 100000
namespace Vc
open PySem L2
variable [KF]
variable {G:GE} {k:Nat} {S:Stat}
end Vc

set_option maxHeartbeats 400000
set_option Elab.async false
set_option linter.all false
set_option maxRecDepth 100000
namespace Vc
open PySem L2
variable [KF]
variable {G:GE} {k:Nat} {S:Stat}
end Vc

set_option maxHeartbeats 400000
set_option Elab.async false
set_option linter.all false
set_option maxRecDepth 100000
namespace Vc
open PySem L2
variable [KF]
variable {G:GE} {k:Nat} {S:Stat}
end Vc

set_option Elab.async false
set_option linter.all false
set_option maxRecDepth 100000
namespace Vc
open PySem L2
section
variable {prog:Program} {w:World} {K:Type} [DecidableEq K] {kn:HeapKind prog w K} {A:Around} {E:Value -> Shared -> Prop} {s:Shared}
end
end Vc

set_option Elab.async false
set_option linter.all false
set_option maxRecDepth 100000
namespace Vc
open PySem L2
section
variable {prog:Program} {w:World} {A:Around} {E:Value -> Shared -> Prop} {s:Shared} {d it:Addr} {en:Array DictEntry} {c i:Nat}
end
end Vc

set_option Elab.async false
set_option linter.all false
set_option maxRecDepth 100000
namespace Vs
open PySem PySem.Calls PyProof.Rows PyProof.V PySem.Spec
section
variable {prog:Program} {w:World} {A:Around} {E:Value -> Shared -> Prop} {s:Shared}
end
end Vs
namespace Vc
open PySem L2
section
variable {X:Cx}
end
end Vc

set_option Elab.async false
set_option linter.all false
set_option maxRecDepth 100000
namespace Vc
open PySem L2
variable [KF]
variable {G:GE} {k:Nat} {S:Stat}
end Vc

set_option Elab.async false
set_option linter.all false
set_option maxRecDepth 100000
namespace Vc
open PySem L2
variable [KF]
variable {G:GE} {k:Nat} {S:Stat}
end Vc

set_option Elab.async false
set_option linter.all false
set_option maxRecDepth 100000
namespace Vc
open PySem L2
variable [KF]
variable {G:GE} {k:Nat} {S:Stat}
end Vc

set_option Elab.async false
set_option linter.all false
set_option maxRecDepth 100000
namespace Vc
open PySem L2
variable [KF]
variable {G:GE} {k:Nat} {S:Stat}
noncomputable abbrev TWs:=Sd -> (List (List D) -> Sd -> Prop) -> Prop
noncomputable def Owns (Y:Dyn) (F:Hp) (σd:Sd) (σ:St) (H:Hp) (as:List Addr) (xss:List (List D)):Prop:=Paired (fun a xs=>∃ vs,Apt Y F σd σ H a (.lst vs) /\ RepL F vs xs) as xss
noncomputable def lWs (Y:Dyn) (t:TWs):TA:=fun σ H Q=>∃ F σd Qd,RS Y F σd σ H /\ t σd Qd /\ ∀ (as:List Addr) (xss:List (List D)) H' F' σd',Same F F' -> RS Y F' σd' σ H' -> as.Nodup -> Owns Y F' σd' σ H' as xss -> Qd xss σd' -> Q (as.map V.ref) H'
structure EWs (G:GE) (k:Nat) (S:Stat) (es:List Expr) (t:TWs):Prop where
  run:∀ X Y,XOk X G k S Y -> PA X es (lWs Y t)
end Vc

set_option Elab.async false
set_option linter.all false
set_option maxRecDepth 100000
namespace Vc
open PySem L2
variable [KF]
variable {G:GE} {k:Nat} {S:Stat}
end Vc

set_option Elab.async false
set_option linter.all false
set_option maxRecDepth 100000
namespace Vc
open PySem L2
variable [KF]
variable {G:GE} {k:Nat} {S:Stat}
end Vc

set_option Elab.async false
set_option linter.all false
set_option maxRecDepth 100000
namespace Vc
open PySem L2 PyProof.Rows
variable [KF]
variable {G:GE} {k:Nat} {S:Stat}
end Vc

set_option Elab.async false
set_option linter.all false
set_option maxRecDepth 100000
namespace HT
open PySem PyProof.Rows
section
open PySem.SeqAt
open PySem.AutoSeq1 (wpAny_loadPart')
open PySem.MeetsSeq PySem.MeetsSeq2 PySem.MeetsSeq3
theorem drop_get {xs:Array Value} {ns:List Int} (h:IntsAre xs.toList ns) {i:Nat} (hi:i < xs.size):∃ t,xs[i] = .int (ns.getD i 0) t /\ ns.drop i = ns.getD i 0 :: ns.drop (i + 1):=by
  have hl:xs.size = ns.length:=by rw [<- h.length];simp
  obtain ⟨t,e⟩:=PyProof.Rows.IntsAre.int_at h i xs[i] (by simp [hi])
  refine ⟨t,e,?_⟩
  rw [List.drop_eq_getElem_cons (by omega),List.getD_eq_getElem?_getD,List.getElem?_eq_getElem (by omega)];rfl
theorem lt_loop (l b:Addr) (xs ys:Array Value) (n n2:Nat) (dd dd2:Option Addr) (sl sl2:Array (Option Value)) (ns ms:List Int) (hx:IntsAre xs.toList ns) (hy:IntsAre ys.toList ms) (k:Nat) :
    ∀ i:Nat,xs.size - i = k -> i <= xs.size -> i <= ys.size -> Meets (Builtin.«list.__eq__.loop» ⟨[.ref l,.ref b,rawInt i,rawInt 0],[]⟩)
      (fun A R s=>s.heap.get? l = some { cls:=.type "list",dict:=dd,data:=.seq xs n,slots:=sl } /\ s.heap.get? b = some { cls:=.type "list",dict:=dd2,data:=.seq ys n2,slots:=sl2 } /\ R (.ok (.ret (.bool (lexLt (ns.drop i) (ms.drop i))))) s):=by
  have z1:xs.size = ns.length:=by rw [<- hx.length];simp
  have z2:ys.size = ms.length:=by rw [<- hy.length];simp
  have fin:∀ i:Nat,i <= xs.size -> i <= ys.size -> (xs.size <= i \/ ys.size <= i) -> lexLt (ns.drop i) (ms.drop i) = decide (xs.size < ys.size):=fun i h1 h2 h=>by
    by_cases e1:xs.size <= i
    · rw [List.drop_of_length_le (by omega)]
      by_cases e2:ys.size <= i
      · rw [List.drop_of_length_le (by omega),lexLt_nil_nil,decide_eq_false (by omega)]
      · rw [List.drop_eq_getElem_cons (by omega),lexLt_nil_cons,decide_eq_true (by omega)]
    · rw [List.drop_eq_getElem_cons (l:=ns) (by omega),List.drop_of_length_le (l:=ms) (by omega),lexLt_cons_nil,decide_eq_false (by omega)]
  induction k with
  | zero =>
    intro i hk h1 h2 prog w A R s h
    obtain ⟨hp,g,d,tk,os⟩:=s;obtain ⟨hl,hb,h⟩:=h
    wp_walk using wpAny_loadPart' hl,wpAny_loadPart' hb
    have e1:xs[((i:Nat):Int).toNat]? = none:=by simp;omega
    rw [e1]
    wp_walk using wpAny_loadPart' hl,wpAny_loadPart' hb
    show R (.ok (.ret (.bool (decide (xs.size < ys.size))))) _
    rw [fin i h1 h2 (.inl (by omega))] at h
    exact h
  | succ k ih =>
    intro i hk h1 h2 prog w A R s h
    obtain ⟨hp,g,d,tk,os⟩:=s;obtain ⟨hl,hb,h⟩:=h
    wp_walk using wpAny_loadPart' hl,wpAny_loadPart' hb
    have hlt:i < xs.size:=by omega
    have e1:xs[((i:Nat):Int).toNat]? = some xs[i]:=by simp [hlt]
    by_cases hlt2:i < ys.size
    · have e2:ys[((i:Nat):Int).toNat]? = some ys[i]:=by simp [hlt2]
      have hc:((i:Int) + 1) = ((i + 1:Nat):Int):=by push_cast;rfl
      obtain ⟨t,v1,d1⟩:=drop_get hx hlt
      obtain ⟨u,v2,d2⟩:=drop_get hy hlt2
      rw [d1,d2,lexLt_cons] at h
      rw [e1,e2]
      obtain ⟨e,he,hiff⟩:=eqAt_int A.in1 ⟨hp,g,d,tk,os⟩ (ns.getD i 0) t (ms.getD i 0) u
      rw [<- v1,<- v2] at he
      refine wpAny_bind (he prog w _ _ ?_)
      cases e with
      | true =>
        rw [if_pos (hiff.mp rfl)] at h
        wp_walk
        rw [hc]
        exact ⟨plainId_quiet plain_eq_loop _,codeAny_builtin entry_eq_loop (by
          rw [Around.under_plainId plain_eq_loop _]
          exact ih (i + 1) (by omega) (by omega) (by omega) prog w A R _ ⟨hl,hb,h⟩)⟩
      | false =>
        rw [if_neg (fun q=>absurd (hiff.mpr q) Bool.false_ne_true)] at h
        have hri:=rcLt_int A.in1 ⟨hp,g,d,tk,os⟩ (ns.getD i 0) t (ms.getD i 0) u prog w
        rw [<- v1,<- v2] at hri
        wp_walk using wpAny_loadPart' hl,wpAny_loadPart' hb
        rw [e1,e2]
        wp_walk using hri
        exact h
    · have e2:ys[((i:Nat):Int).toNat]? = none:=by simp;omega
      rw [e1,e2]
      wp_walk using wpAny_loadPart' hl,wpAny_loadPart' hb
      show R (.ok (.ret (.bool (decide (xs.size < ys.size))))) _
      rw [fin i h1 h2 (.inr (by omega))] at h
      exact h
theorem list_lt_ints (l b:Addr) (xs ys:Array Value) (n n2:Nat) (dd dd2:Option Addr) (sl sl2:Array (Option Value)) (ns ms:List Int) (hx:IntsAre xs.toList ns) (hy:IntsAre ys.toList ms) :
    Meets (Builtin.«list.__lt__» ⟨[.ref l,.ref b],[]⟩)
      (fun A R s=>s.heap.get? l = some { cls:=.type "list",dict:=dd,data:=.seq xs n,slots:=sl } /\ s.heap.get? b = some { cls:=.type "list",dict:=dd2,data:=.seq ys n2,slots:=sl2 } /\ R (.ok (.ret (.bool (lexLt ns ms)))) s):=by
  intro prog w A R s h
  obtain ⟨hp,g,d,tk,os⟩:=s;obtain ⟨hl,hb,h⟩:=h
  have f3:=AutoSeq1.sub_list_list
  wp_walk using wpAny_loadPart' hl,wpAny_loadPart' hb
  exact ⟨plainId_quiet plain_eq_loop _,codeAny_builtin entry_eq_loop (by
    rw [Around.under_plainId plain_eq_loop _]
    exact lt_loop l b xs ys n n2 dd dd2 sl sl2 ns ms hx hy _ 0 rfl (Nat.zero_le _) (Nat.zero_le _) prog w A R _ ⟨hl,hb,by simpa using h⟩)⟩
end
section
variable {prog:Program} {w:World} {A:Around} {E:Value -> Shared -> Prop} {s:Shared}
theorem lt_lstInts {l b:Addr} {xs ys:Array Value} {ns ms:List Int} {Q:Value -> Shared -> Prop} (hl:s.heap.IsList l xs) (hb:s.heap.IsList b ys) (dl:∃ o,s.heap.get? l = some o /\ o.dict = none) (hi:IntsAre xs.toList ns) (hj:IntsAre ys.toList ms)
    (hu:A.units < cLine) (h:Q (.bool (lexLt ns ms)) s):wpAny (model prog w) A (compareOp .Lt (.ref l) (.ref b)) Q E s:=by
  obtain ⟨⟨cls,dd,data,sl⟩,ho,hc,n,hd⟩:=id hl
  obtain ⟨⟨cls2,dd2,data2,sl2⟩,ho2,hc2,n2,hd2⟩:=id hb
  simp only at hc hd hc2 hd2
  subst hc hd hc2 hd2
  exact richCompare_meets_room (op:=.Lt) ⟨_,ho,rfl⟩ ⟨_,ho2,rfl⟩ PySem.F.slot_list_lt PySem.F.entry_list_lt (PySem.F.args_list_lt_2 _ _) (list_lt_ints l b xs ys n n2 dd dd2 sl sl2 ns ms hi hj)
    ⟨ho,ho2,show Value.bool (lexLt ns ms) ≠ Value.notImplemented /\ Q (.bool (lexLt ns ms)) s from ⟨(fun x=>nomatch x),h⟩⟩ hu
end
end HT

set_option Elab.async false
set_option linter.all false
set_option maxRecDepth 100000
namespace Vs
open PySem PyProof.Rows PySem.W
section
variable {prog:Program} {w:World} {A:Around} {E:Value -> Shared -> Prop} {s:Shared}
end
end Vs
namespace Vc
open PySem L2
variable [KF]
noncomputable def entD (ks ps:List Int):D:=.tup [.tup (ks.map D.int),.lst (ps.map D.int)]
noncomputable def EntP (F:Hp) (v:V) (e:List Int × List Int):Prop:=Rep F v (entD e.1 e.2)
open Classical in
noncomputable def entF (F:Hp) (v:V):List Int × List Int:=if h:∃ e,EntP F v e then Classical.choose h else ([],[])
theorem ints_all (ns:List Int):(ns.map D.int).all isInt = true:=by rw [List.all_map];exact List.all_eq_true.mpr fun _ _=>rfl
theorem ints_okD (ns:List Int) (m:Nat):okD (m + 1) (.tup (ns.map D.int)) = true /\ okD (m + 1) (.lst (ns.map D.int)) = true:=by
  have:(ns.map D.int).all (okD m) = true:=by
    rw [List.all_map]
    exact List.all_eq_true.mpr fun _ _=>by cases m<;>rfl
  exact ⟨this,this⟩
theorem eqDs_ints (as bs:List Int):eqDs (as.map D.int) (bs.map D.int) = decide (as = bs):=by
  have e:∀ l:List Int,l.map D.int = (l.map (Sum.inl:Int -> Key)).map kD:=fun l=>by rw [List.map_map];rfl
  rw [e,e,eqDs_kD]
  have inj:∀ {a b:List Int},a.map (Sum.inl:Int -> Key) = b.map Sum.inl -> a = b:=fun {a b} h=>by
    have:=congrArg (List.map fun k:Key=>match k with | .inl i=>i | .inr _=>0) h
    rw [List.map_map,List.map_map] at this
    have id':∀ l:List Int,l.map ((fun k:Key=>match k with | .inl i=>i | .inr _=>0) ∘ Sum.inl) = l:=fun l=>(List.map_congr_left fun x _=>rfl).trans (List.map_id _)
    rwa [id',id'] at this
  by_cases h:as = bs
  · rw [h,decide_eq_true rfl,decide_eq_true rfl]
  · rw [decide_eq_false h,decide_eq_false fun z=>h (inj z)]
theorem ints_inj:∀ {a b:List Int},a.map V.int = b.map V.int -> a = b
  | [],[],_=>rfl
  | [],_ :: _,h=>by cases h
  | _ :: _,[],h=>by cases h
  | x :: a,y :: b,h=>by
    rw [List.map_cons,List.map_cons] at h
    obtain ⟨h1,h2⟩:=List.cons.inj h
    rw [V.int.inj h1,ints_inj h2]
theorem im (ns:List Int):(ns.map D.int).map intV = ns:=by
  rw [List.map_map]
  exact (List.map_congr_left fun x _=>rfl).trans (List.map_id _)
theorem rd_inj {F:Hp} {l:Addr} {xs ys:List V} (h1:Rd F l (.lst xs)) (h2:Rd F l (.lst ys)):xs = ys:=by
  rcases h1 with h1 | ⟨o,h1⟩<;>rcases h2 with h2 | ⟨o',h2⟩<;>rw [h1] at h2<;>cases h2<;>rfl
end Vc

set_option Elab.async false
set_option linter.all false
set_option maxRecDepth 100000
namespace Vc
open PySem L2
variable [KF]
variable {G:GE} {k:Nat} {S:Stat}
end Vc

set_option Elab.async false
set_option linter.all false
set_option maxRecDepth 100000
namespace Vc
open PySem L2
section
variable {X:Cx}
end
variable [KF]
variable {G:GE} {k:Nat} {S:Stat}
end Vc

set_option Elab.async false
set_option linter.all false
set_option maxRecDepth 100000
namespace Vc
open PySem L2
variable [KF]
variable {G:GE} {k:Nat} {S:Stat}
section
variable {elt target iter:Expr} {ifs:List Expr} {scope:Scope} {pos:Pos} {N':List Str} {caps:List (Option Nat)} {ti:TDs} {g:TGd} {tc:TB} {te:TD} {j m j2 n:Nat}
end
end Vc

set_option Elab.async false
set_option linter.all false
set_option maxRecDepth 100000
namespace Vc
open PySem L2 PyProof.Rows
section
variable {prog:Program} {w:World} {K:Type} [DecidableEq K] {knd:HeapKind prog w K} {A:Around} {E:Value -> Shared -> Prop} {s:Shared}
end
variable [KF]
variable {G:GE} {k:Nat} {S:Stat}
end Vc

set_option Elab.async false
set_option linter.all false
set_option maxRecDepth 100000
namespace Vc
open PySem L2
variable [KF]
section
variable {X:Cx} {elt iter:Expr} {ifs:List Expr} {scope:Scope} {pos:Pos} {N':List Str} {caps:List (Option Nat)} {wi:TI} {tc:TT} {te:TE}
end
variable {G:GE} {k:Nat} {S:Stat}
end Vc

set_option Elab.async false
set_option linter.all false
set_option maxRecDepth 100000
namespace Vc
open PySem L2
section
variable {prog:Program} {w:World} {A:Around} {E:Value -> Shared -> Prop} {s:Shared}
theorem min_two_in {a b:Value} {bt:Bool} {Q:Value -> Shared -> Prop} (hh:A.handled = none)
    (hc:∀ (s':Shared) (Q':Value -> Shared -> Prop) (E':Value -> Shared -> Prop),(∀ c o,s.heap.get? c = some o -> s'.heap.get? c = some o) -> Q' (.bool bt) s' -> wpAny (model prog w) A.in1 (richCompare .Lt b a) Q' E' s')
    (h:∀ g tk,(∀ c o,s.heap.get? c = some o -> g.get? c = some o) -> Q (if bt = true then b else a) { s with heap:=g,toks:=tk }) :
    wpAny (model prog w) A (call (.builtin "min") [a,b]) Q E s:=by
  have nm:(toString "min" ++ toString ".loop":String) = "min.loop":=by decide
  refine call_function_tree F.kind_min F.plain_min F.entry_min (F.args_min2 _ _) ?_
  show wpAny _ A.in1 (Builtin.Builtins.bindParams "min" ["key","default"] 0 ⟨[],[]⟩ >>= _) _ _ s
  refine wpAny_bind (wpAny_of_eq (show Builtin.Builtins.bindParams "min" ["key","default"] 0 ⟨[],[]⟩ = pure [none,none] from rfl) ?_)
  show wpAny _ A.in1 (newTuple [a,b] >>= _) _ _ s
  refine wpAny_bind (wpAny_newObj_type ?_)
  generalize hg0:s.heap.push { cls:=.type "tuple",data:=.seq #[a,b] } = g0
  have n0:g0.objs.size = s.heap.objs.size + 1:=by rw [<- hg0];exact Heap.size_push ..
  have hT:g0.IsTuple s.heap.objs.size #[a,b]:=by rw [<- hg0];exact ⟨_,Heap.get?_push_size _ rfl,rfl,0,rfl⟩
  have k00:∀ c o,s.heap.get? c = some o -> g0.get? c = some o:=fun c o e=>by rw [<- hg0];exact Heap.get?_push_of_some _ e
  refine wpAny_bind (wpAny_pyIter_tuple (s:={ s with heap:=g0 }) hT ?_)
  refine wpAny_bind (wpAny_newObj_type ?_)
  show wpAny _ _ _ _ _ { s with heap:=(g0.push { cls:=.type "tuple_iterator",data:=.fields #[.ref s.heap.objs.size,.int 0 0] }).push { cls:=.type "list",dict:=none,data:=.seq ([]:List Value).toArray } }
  generalize hg1:g0.push { cls:=.type "tuple_iterator",data:=.fields #[.ref s.heap.objs.size,.int 0 0] } = g1
  have n1:g1.objs.size = g0.objs.size + 1:=by rw [<- hg1];exact Heap.size_push ..
  have I0:(g1.push { cls:=.type "list",dict:=none,data:=.seq ([]:List Value).toArray }).IsTupleIter g0.objs.size s.heap.objs.size 0:=⟨_,Heap.get?_push_of_some _ (by rw [<- hg1];exact Heap.get?_push_size _ rfl),rfl,rfl⟩
  have S0:=Heap.get?_push_size g1 (o:={ cls:=.type "list",dict:=none,data:=.seq ([]:List Value).toArray }) rfl
  have k0:∀ c o,g0.get? c = some o -> (g1.push { cls:=.type "list",dict:=none,data:=.seq ([]:List Value).toArray }).get? c = some o:=fun c o e=>Heap.get?_push_of_some _ (by rw [<- hg1];exact Heap.get?_push_of_some _ e)
  have IS:g0.objs.size ≠ g1.objs.size:=by omega
  have TI:s.heap.objs.size ≠ g0.objs.size:=by omega
  have TS:s.heap.objs.size ≠ g1.objs.size:=by omega
  have neI:∀ {c o},s.heap.get? c = some o -> c ≠ g0.objs.size:=fun e=>Nat.ne_of_lt (by rw [n0];exact Nat.lt_succ_of_lt (Heap.lt_size e))
  have neS:∀ {c o},s.heap.get? c = some o -> c ≠ g1.objs.size:=fun e=>Nat.ne_of_lt (by rw [n1,n0];exact Nat.lt_succ_of_lt (Nat.lt_succ_of_lt (Heap.lt_size e)))
  generalize hg2:g1.push { cls:=.type "list",dict:=none,data:=.seq ([]:List Value).toArray } = g2 at I0 S0 k0
  obtain ⟨oT,eT,rT⟩:=hT
  -- the first one
  rw [nm]
  refine wpAny_pure ⟨plainId_quiet F.plain_min_loop _,codeAny_builtin F.entry_min_loop ?_⟩
  rw [Around.under_plainId F.plain_min_loop _]
  show wpAny _ A.in1 (seqItems? (.ref g1.objs.size) >>= _) _ _ _
  refine wpAny_bind (wpAny_seqItems (s:={ s with heap:=g2 }) S0 rfl ?_)
  show wpAny _ A.in1 (tryCatch (pyNext (.ref g0.objs.size)) _ >>= _) _ _ _
  refine wpAny_bind (wpAny_tryCatch (wpAny_pyNext_tuple_item I0 ⟨oT,k0 _ _ eT,rT⟩ (x:=a) rfl fun g I1 x1=>?_))
  have S1:=x1.extBut _ _ IS.symm S0
  have T1:=x1.extBut _ _ TI (k0 _ _ eT)
  have k1:∀ c o,s.heap.get? c = some o -> g.get? c = some o:=fun c o e=>x1.extBut c o (neI e) (k0 c o (k00 c o e))
  show wpAny _ A.in1 (updateSeq g1.objs.size (fun _=>#[a,a]) >>= _) _ _ _
  refine wpAny_bind (wpAny_updateSeq (s:={ s with heap:=g }) S1 rfl ?_)
  have S2:=Heap.get?_update_self (h:=g) (a:=g1.objs.size) (f:=Obj.mapSeq fun _=>#[a,a]) S1 rfl
  generalize hg3:g.update g1.objs.size (Obj.mapSeq fun _=>#[a,a]) = g3 at S2
  have up3:∀ c o,c ≠ g1.objs.size -> g.get? c = some o -> g3.get? c = some o:=fun c o hn e=>by rw [<- hg3];exact (Heap.get?_update_other _ _ (Ne.symm hn)).trans e
  have I2:g3.IsTupleIter g0.objs.size s.heap.objs.size 1:=by obtain ⟨o,e,r⟩:=I1;exact ⟨o,up3 _ _ IS e,r⟩
  -- the second one
  rw [nm]
  refine wpAny_pure ⟨plainId_quiet F.plain_min_loop _,codeAny_builtin F.entry_min_loop ?_⟩
  rw [Around.under_plainId F.plain_min_loop _]
  show wpAny _ A.in1 (seqItems? (.ref g1.objs.size) >>= _) _ _ _
  refine wpAny_bind (wpAny_seqItems (s:={ s with heap:=g3 }) S2 rfl ?_)
  show wpAny _ A.in1 (tryCatch (pyNext (.ref g0.objs.size)) _ >>= _) _ _ _
  refine wpAny_bind (wpAny_tryCatch (wpAny_pyNext_tuple_item I2 ⟨oT,up3 _ _ TS T1,rT⟩ (x:=b) rfl fun g4 I4 x4=>?_))
  have S4:=x4.extBut _ _ IS.symm S2
  have T4:=x4.extBut _ _ TI (up3 _ _ TS T1)
  have k4:∀ c o,s.heap.get? c = some o -> g4.get? c = some o:=fun c o e=>x4.extBut c o (neI e) (up3 c o (neS e) (k1 c o e))
  show wpAny _ A.in1 (tryCatch (holding [b,b] (richCompare .Lt b a >>= _)) _ >>= _) _ _ _
  refine wpAny_bind (wpAny_tryCatch (wpAny_holding (wpAny_bind (hc { s with heap:=g4 } _ _ k4 ?_))))
  refine wpAny_bind (wpAny_holding (wpAny_truthy_bool (wpAny_bind (wpAny_letGo (wpAny_pure ?_)))))
  -- the end
  have fin:∀ (g5:Heap) (v:Value) (c:Nat),g5.IsTupleIter g0.objs.size s.heap.objs.size 2 -> g5.get? s.heap.objs.size = some oT -> g5.get? g1.objs.size = some { cls:=.type "list",dict:=none,data:=.seq #[v,v] c,slots:=#[] } -> (∀ c o,s.heap.get? c = some o -> g5.get? c = some o) -> v = (if bt = true then b else a) ->
      codeAny (model prog w) A (.builtin "min.loop" ⟨[.ref g0.objs.size,.none,.ref g1.objs.size],[]⟩) (fun r s'=>match r with | .ok (.ret v)=>Q v s' | .ok _=>False | .error e=>E e s') { s with heap:=g5 }:=by
    intro g5 v c I5 T5 S5 k5 hv
    refine codeAny_builtin F.entry_min_loop ?_
    rw [Around.under_plainId F.plain_min_loop _]
    show wpAny _ A.in1 (seqItems? (.ref g1.objs.size) >>= _) _ _ _
    refine wpAny_bind (wpAny_seqItems (s:={ s with heap:=g5 }) S5 rfl ?_)
    show wpAny _ A.in1 (tryCatch (pyNext (.ref g0.objs.size)) _ >>= _) _ _ _
    refine wpAny_bind (wpAny_tryCatch (wpAny_pyNext_tuple_end (show A.in1.handled = none from hh) I5 ⟨oT,T5,rT⟩ rfl fun g6 x6=>?_))
    have S6:=x6 g1.objs.size _ IS.symm S5
    show wpAny _ A.in1 (updateSeq g1.objs.size (fun _=>#[]) >>= _) _ _ _
    refine wpAny_bind (wpAny_updateSeq (s:={ s with heap:=g6 }) S6 rfl (wpAny_bind (wpAny_letGo (wpAny_pure ?_))))
    rw [hv]
    refine h _ s.toks fun c o e=>?_
    exact (Heap.get?_update_other _ _ (Ne.symm (neS e))).trans (x6 c o (neI e) (k5 c o e))
  cases bt with
  | true =>
    simp only [if_true]
    refine wpAny_bind (wpAny_updateSeq (s:={ s with heap:=g4 }) S4 rfl (wpAny_bind (wpAny_letGo ?_)))
    rw [nm]
    refine wpAny_pure ⟨plainId_quiet F.plain_min_loop _,fin _ b _ ?_ ?_ (Heap.get?_update_self _ S4 rfl) (fun c o e=>(Heap.get?_update_other _ _ (Ne.symm (neS e))).trans (k4 c o e)) (by simp)⟩
    · obtain ⟨o,e,r⟩:=I4;exact ⟨o,(Heap.get?_update_other _ _ (Ne.symm IS)).trans e,r⟩
    · exact (Heap.get?_update_other _ _ (Ne.symm TS)).trans T4
  | false =>
    simp only [Bool.false_eq_true,if_false]
    refine wpAny_bind (wpAny_letGo ?_)
    rw [nm]
    exact wpAny_pure ⟨plainId_quiet F.plain_min_loop _,fin _ a _ I4 T4 S4 k4 (by simp)⟩
end
end Vc

set_option Elab.async false
set_option linter.all false
set_option maxRecDepth 100000
namespace HT
open PySem PyProof.Rows
section
open PySem.SeqAt
open PySem.AutoSeq1 (wpAny_loadPart')
open PySem.MeetsSeq PySem.MeetsSeq2 PySem.MeetsSeq3
noncomputable def LX (A:Around) (s:Shared):List (Value × Value) -> Bool -> Prop
  | [],r=>r = false
  | (y,x) :: rest,r=>∃ e,EqAt A s y x e /\ (e = true -> LX A s rest r) /\ (e = false -> ∀ (prog:Program) (w:World) (E Q:Value -> Shared -> Prop),Q (.bool r) s -> wpAny (model prog w) A (richCompare .Lt y x) Q E s)
theorem tuple_lt_lex (l b:Addr) (items items2:Array Value) (n n2:Nat) (dd dd2:Option Addr) (sl sl2:Array (Option Value)) (hs:items.size = items2.size) (r:Bool) :
    Meets (Builtin.«tuple.__lt__» ⟨[.ref l,.ref b],[]⟩)
      (fun A R s=>s.heap.get? l = some { cls:=.type "tuple",dict:=dd,data:=.seq items n,slots:=sl } /\ s.heap.get? b = some { cls:=.type "tuple",dict:=dd2,data:=.seq items2 n2,slots:=sl2 } /\
        LX A.in1 s (items.toList.zip items2.toList) r /\ R (.ok (.ret (.bool r))) s) :=
  .of_wp fun prog w A R s h=>by
    obtain ⟨hp,g,d,tk,os⟩:=s;obtain ⟨hl,hb,hx,h⟩:=h
    have f2:=AutoSeq1.sub_tuple_tuple
    wp_walk using wpAny_loadPart' hl,wpAny_loadPart' hb,wpAny_forIn_list _ (fun rest b s'=>b.1 = none /\ s' = ⟨hp,g,d,tk,os⟩ /\ LX A.in1 ⟨hp,g,d,tk,os⟩ rest r) _
    case turn =>
      rintro ⟨y,x⟩ rest b s' ⟨hb',rfl,e,he,h1,h2⟩
      refine wpAny_bind (he prog w _ _ ?_)
      cases e with
      | true =>
        have h1:=h1 rfl
        wp_walk
        exact ⟨rfl,rfl,h1⟩
      | false =>
        have hri:=h2 rfl prog w
        wp_walk using hri
        exact ⟨_,rfl,by simpa using h⟩
    case fin =>
      rintro ⟨b1,b2⟩ s' ⟨hb',rfl,hR⟩
      simp only at hb'
      subst hb'
      have hr:r = false:=hR
      subst hr
      wp_walk
      exact ⟨_,rfl,by simpa [Builtin.Tuple.tupleCompareSizes,hs] using h⟩
    case h =>
      exact ⟨rfl,rfl,hx⟩
end
section
variable {prog:Program} {w:World} {A:Around} {E:Value -> Shared -> Prop} {s:Shared}
theorem lt_tupLex {l b:Addr} {items items2:Array Value} {r:Bool} {Q:Value -> Shared -> Prop} (hl:IsTup s.heap l items) (hb:IsTup s.heap b items2) (hs:items.size = items2.size) (hx:LX A.in1 s (items.toList.zip items2.toList) r)
    (hu:A.units < cLine) (h:Q (.bool r) s):wpAny (model prog w) A (compareOp .Lt (.ref l) (.ref b)) Q E s:=by
  obtain ⟨⟨cls,dd,data,sl⟩,ho,hc,n,hd⟩:=id hl
  obtain ⟨⟨cls2,dd2,data2,sl2⟩,ho2,hc2,n2,hd2⟩:=id hb
  simp only at hc hd hc2 hd2
  subst hc hd hc2 hd2
  exact richCompare_meets_room (op:=.Lt) ⟨_,ho,rfl⟩ ⟨_,ho2,rfl⟩ PySem.F.slot_tuple_lt PySem.F.entry_tuple_lt (PySem.F.args_tuple_lt_2 _ _) (tuple_lt_lex l b items items2 n n2 dd dd2 sl sl2 hs r)
    ⟨ho,ho2,hx,show Value.bool r ≠ Value.notImplemented /\ Q (.bool r) s from ⟨(fun x=>nomatch x),h⟩⟩ hu
end
end HT
namespace Vc
open PySem L2
variable [KF]
noncomputable def ilD (x:Int) (ps:List Int):D:=.tup [.int x,.lst (ps.map D.int)]
noncomputable def ltIL (a b:Int × List Int):Bool:=if a.1 = b.1 then HT.lexLt a.2 b.2 else decide (a.1 < b.1)
theorem rep_il {F:Hp} {v:V} {x:Int} {ps:List Int} (h:Rep F v (ilD x ps)):∃ a l,v = .ref a /\ F a = some (.tup [.int x,.ref l]) /\ Rd F l (.lst (ps.map V.int)):=by
  unfold ilD at h
  cases h with
  | tup h r =>
    cases r with
    | cons r1 r =>
    cases r with
    | cons r2 r =>
    cases r
    cases r1
    cases r2 with
    | lst h2 rl =>
      refine ⟨_,_,rfl,h,?_⟩
      have z:=rl.ints (ints_all ps)
      rw [im] at z
      rw [<- z];exact h2
theorem lt_il {X:Cx} {pins:List (Addr × Obj)} {σ:St} {H F:Hp} {s s':Shared} (I:L2.Inv X pins σ H s) (sm:Same F H) (kp:∀ c o,s.heap.get? c = some o -> s'.heap.get? c = some o) {A:Around} (hu:A.units + 100 < cLine) {v1 v2:V} {u1 u2:Value} {e1 e2:Int × List Int} (p1:Rep F v1 (ilD e1.1 e1.2)) (p2:Rep F v2 (ilD e2.1 e2.2)) (r1:RelV v1 u1) (r2:RelV v2 u2)
    {Q:Value -> Shared -> Prop} {E:Value -> Shared -> Prop} (q:Q (.bool (ltIL e1 e2)) s'):wpAny (model X.prog X.w) A (compareOp .Lt u1 u2) Q E s':=by
  have I':L2.Inv X pins σ H { s with heap:=s'.heap }:=I.kept (t':=s.toks) kp
  obtain ⟨a,l,rfl,f1,f3⟩:=rep_il p1
  obtain ⟨a',l',rfl,g1,g3⟩:=rep_il p2
  cases r1;cases r2
  obtain ⟨_,its,rv,hT⟩:=I'.hok a _ (sm _ _ f1)
  obtain ⟨_,its',rv',hT'⟩:=I'.hok a' _ (sm _ _ g1)
  cases rv with
  | cons z1 rv =>
  cases rv with
  | cons z2 rv =>
  cases rv
  obtain ⟨t1,rfl⟩:=z1
  cases z2
  cases rv' with
  | cons z1 rv' =>
  cases rv' with
  | cons z2 rv' =>
  cases rv'
  obtain ⟨t2,rfl⟩:=z1
  cases z2
  have rl:∀ {F:Hp} {t:Addr} {ns:List Int},Rd F t (.lst (ns.map V.int)) -> Rep F (.ref t) (.lst (ns.map D.int)):=fun {F t ns} h=>.lst h (by
    clear h
    induction ns with
    | nil=>exact .nil
    | cons x ns ih=>exact .cons (.int x) ih)
  have eL:PySem.SeqAt.EqAt A.in1 s' (.ref l) (.ref l') (eqD (.lst (e1.2.map D.int)) (.lst (e2.2.map D.int))):=by
    by_cases e:l = l'
    · subst e
      have:=ints_inj (rd_inj f3 g3)
      rw [this]
      have z:eqD (.lst (e2.2.map D.int)) (.lst (e2.2.map D.int)) = true:=by
        show eqDs _ _ = true
        rw [eqDs_ints,decide_eq_true rfl]
      rw [z]
      exact PySem.SeqAt.EqAt.same _
    · refine PySem.SeqAt.EqAt.of_refs e fun prog w E Q hq=>?_
      obtain ⟨as,w1⟩:=(rl f3).reads I'.hok sm 8 rfl (ints_okD e1.2 7).2
      obtain ⟨bs,w2⟩:=(rl g3).reads I'.hok sm 8 rfl (ints_okD e2.2 7).2
      exact PyProof.Rows.eq_dataH (E:=E) w1 w2 (shaped_ok (ints_okD e1.2 7).2) (shaped_ok (ints_okD e2.2 7).2) (show A.units + 1 + 64 < cLine by omega) (by rw [<- eqD_py 8 8 _ _ (ints_okD e1.2 7).2 (ints_okD e2.2 7).2];exact hq)
  rw [show eqD (.lst (e1.2.map D.int)) (.lst (e2.2.map D.int)) = decide (e1.2 = e2.2) from eqDs_ints _ _] at eL
  have lL:∀ (prog:Program) (w:World) (E Q:Value -> Shared -> Prop),Q (.bool (HT.lexLt e1.2 e2.2)) s' -> wpAny (model prog w) A.in1 (richCompare .Lt (.ref l) (.ref l')) Q E s':=fun prog w E Q h=>by
    obtain ⟨_,i1,m1,w1,k1⟩:=L2.Rd.ok (Rd.mono sm f3) I'.hok
    obtain ⟨_,i2,m2,w2,k2⟩:=L2.Rd.ok (Rd.mono sm g3) I'.hok
    exact HT.lt_lstInts (A:=A.in1) ⟨_,k1,rfl,_,rfl⟩ ⟨_,k2,rfl,_,rfl⟩ ⟨_,k1,rfl⟩ (L2.intsAre_of w1) (L2.intsAre_of w2) (show A.units + 1 < cLine by omega) h
  refine HT.lt_tupLex hT hT' rfl (r:=ltIL e1 e2) ?_ (by omega) q
  refine ⟨_,PySem.SeqAt.EqAt.int_int e1.1 t1 e2.1 t2,fun h=>?_,fun h=>?_⟩
  · have h:e1.1 = e2.1:=by simpa using h
    refine ⟨_,eL,fun h2=>?_,fun h2=>?_⟩
    · show ltIL e1 e2 = false
      unfold ltIL
      rw [if_pos h,of_decide_eq_true h2,Vs.lx_irrefl]
    · unfold ltIL
      rw [if_pos h]
      exact lL
  · have h:¬ e1.1 = e2.1:=by simpa using h
    unfold ltIL
    rw [if_neg h]
    intro prog w E Q hq
    exact HT.rcLt_int _ _ _ _ _ _ prog w E Q hq
noncomputable def rMinIL:List V -> Hp -> VK -> Prop:=fun xs H Q=>∃ (F:Hp) (v u:V) (e1 e2:Int × List Int),xs = [v,u] /\ Same F H /\ Rep F v (ilD e1.1 e1.2) /\ Rep F u (ilD e2.1 e2.2) /\ Q (if ltIL e2 e1 = true then u else v) H
theorem call_minIL {X:Cx} (hc:X.calm = true) (hu:X.A.units + 110 < cLine):CallR X (.builtin "min") rMinIL:=by
  intro pins s σ H xs us Q I r h
  obtain ⟨F,v,u,e1,e2,rfl,sm,p1,p2,q⟩:=h
  obtain ⟨w1,w2,rfl,r1,r2⟩:=vals2 r
  refine min_two_in (bt:=ltIL e2 e1) (I.ok.hd hc) (fun s' Q' E' kp q'=>?_) fun g tk kp=>?_
  · exact lt_il I sm kp (A:=X.A.in1) (show X.A.units + 1 + 100 < cLine by omega) p2 p1 r2 r1 q'
  · refine ⟨_,H,I.kept kp,?_,q⟩
    cases ltIL e2 e1
    · exact r1
    · exact r2
variable {G:GE} {k:Nat} {S:Stat}
noncomputable def minIL:List D -> (EV -> Prop) -> Prop
  | [a,b],Q=>∃ e1 e2:Int × List Int,a = ilD e1.1 e1.2 /\ b = ilD e2.1 e2.2 /\ Q (.val (if ltIL e2 e1 = true then b else a))
  | _,_=>False
theorem f_minIL (hh:S.hot = false:=by rfl):ClR G k S (.builtin "min") minIL:=⟨fun _=>rMinIL,fun _ _ ok=>call_minIL (ok.calm hh) (by have:=ok.un;omega),fun Y F H σd σ vs ds Qd Q R r q g=>by
  unfold minIL at q
  split at q
  · obtain ⟨e1,e2,rfl,rfl,q⟩:=q
    obtain ⟨v,u,rfl,rv,ru⟩:=r.two
    refine ⟨F,v,u,e1,e2,rfl,R.fr,rv,ru,?_⟩
    cases h:ltIL e2 e1 with
    | true =>
      rw [h] at q
      exact g.val R ru q
    | false =>
      rw [h] at q
      exact g.val R rv q
  · exact q.elim⟩
noncomputable def rBl (K:PySem.W.Frag):V -> List V -> Hp -> VK -> Prop:=fun x vs H Q=>∃ i,x = .int i /\ vs = [] /\ Q (.int (Builtin.Int.intBits i)) H
theorem mt_bl {X:Cx}:MtR X "int.bit_length" (rBl X.K):=by
  intro pins s σ H o vs ov us Q I ro rv h
  obtain ⟨i,rfl,rfl,q⟩:=h
  obtain ⟨t,rfl⟩:=ro
  cases rv
  exact PyProof.Rows.call_int_bit_length ⟨.int _,H,I.tok _,⟨_,rfl⟩,q⟩
noncomputable def blQ (Q:OV -> Sd -> Prop) (σ:Sd):Option D -> Prop
  | some (.int i)=>Q (.val (.int (Builtin.Int.intBits i))) σ
  | _=>False
noncomputable def tBl (to:TV):TV:=fun σ Q=>to σ fun o σ1=>blQ Q σ1 (drf σ1 o)
theorem r_bl' {o:Expr} {to:TV} {apos cpos:Pos} (ho:EO G k S o to) (hb:∀ env,attributeBase o "bit_length" env (eval o env) = eval o env:=by intro _;rfl)
    (hline:(apos.endLine == cpos.line) = true:=by rfl):EO G k S (.Call (.Attribute o "bit_length" apos) [] [] cpos) (tBl to):=.mk fun X Y ok=>by
  refine pe_imp (pe_bm0 PySem.F.plainAttrs_int PyProof.Rows.slot_int_bit_length PyProof.Rows.type_int_bit_length mt_bl (ho X Y ok) (hb _) hline) fun σ H Q q=>?_
  obtain ⟨F,σd,Qd,R,q,K⟩:=q
  refine ⟨F,σd,_,R,q,fun v1 H1 F1 x σ1 s1 R1 r1 q1=>?_⟩
  unfold blQ at q1
  split at q1
  · rename_i z e
    cases (R1.drf r1 e).int
    exact ⟨rfl,_,rfl,rfl,K _ H1 F1 (.val (.int _)) σ1 s1 R1 (.int _) q1⟩
  · exact q1.elim
end Vc

set_option Elab.async false
set_option linter.all false
set_option maxRecDepth 100000
namespace Vc
open PySem L2
variable [KF]
variable {G:GE} {k:Nat} {S:Stat}
end Vc

set_option maxHeartbeats 0
set_option Elab.async false
set_option linter.all false
set_option maxRecDepth 100000
namespace K13
open PySem L2 Vc

section
noncomputable def top (i:Nat):Stmt:=PySem.Challenge.pw_closepoints_k13_most_apart.main.body.getD i (.Pass ⟨0,0,0,0⟩)
variable [KF]
structure Gl (G:GE):Prop where
  z_abs:G.mg "abs" = none
  z_bool:G.mg "bool" = none
  z_enumerate:G.mg "enumerate" = none
  z_int:G.mg "int" = none
  z_isinstance:G.mg "isinstance" = none
  z_len:G.mg "len" = none
  z_list:G.mg "list" = none
  z_max:G.mg "max" = none
  z_min:G.mg "min" = none
  z_range:G.mg "range" = none
  z_sorted:G.mg "sorted" = none
  z_str:G.mg "str" = none
  z_sum:G.mg "sum" = none
  z_tuple:G.mg "tuple" = none
  z_zip:G.mg "zip" = none
  c_MOST_POINTS_APART:ConG G "MOST_POINTS_APART" (.int 14)
  c_SQUARES:ConG G "SQUARES" (.str "squares")
  c_STREETS:ConG G "STREETS" (.str "streets")
variable {G:GE} {k:Nat}
noncomputable abbrev s_q12:Stmt:=top 9
noncomputable abbrev N_q12:List Str:=["count"]
theorem sc_q12:FnScope N_q12 ["count"] (defScope s_q12):=⟨rfl,rfl,rfl,by decide +kernel,rfl,by decide +kernel,by decide +kernel⟩
noncomputable def t_q12:TSd:=(tIfD (tOrB (tCmp2 ltT (tVarD 0) (tCD (.int 1))) (tCmp2 gtT (tVarD 0) (tCD (.int 3)))) tNev tNx)
theorem e_q12 (E:Gl G):ESs G k ⟨N_q12,(defScope s_q12).names,[],false,false,false,fun _ _=>False⟩ (defBody s_q12) (t_q12):=(s_one (s_if (r_w (r_or (r_tcmp c_lt (r_var 0) r_int) (r_or1 (r_tcmp c_gt (r_var 0) r_int)))) (s_one s_never) s_nil))
noncomputable abbrev s_q0:Stmt:=top 10
noncomputable abbrev N_q0:List Str:=["point","count"]
theorem sc_q0:FnScope N_q0 ["point","count"] (defScope s_q0):=⟨rfl,rfl,rfl,by decide +kernel,rfl,by decide +kernel,by decide +kernel⟩
noncomputable def t_q0:TSd:=(tIfD (tCmp2 neT (tFz (tCl lenF (tCoo (tVarD 0) tNo))) (tVarD 1)) tNev tNx)
theorem e_q0 (E:Gl G):ESs G k ⟨N_q0,(defScope s_q0).names,[],false,false,false,fun _ _=>False⟩ (defBody s_q0) (t_q0):=(s_one (s_if (r_tcmp c_ne (r_o (r_bf f_len E.z_len (o_cons (r_var 0) o_nil) (by decide +kernel))) (r_var 1)) (s_one s_never) s_nil))
noncomputable abbrev s_q6:Stmt:=top 11
noncomputable abbrev N_q6:List Str:=["points","point"]
theorem sc_q6:FnScope N_q6 ["points"] (defScope s_q6):=⟨rfl,rfl,rfl,by decide +kernel,rfl,by decide +kernel,by decide +kernel⟩
noncomputable def t_q6 (sp_q12:FSp) (sp_q0:FSp):TSd:=(tForD (itemsD (tVal [] (tVarD 0))) (gNm 1) (tSq (tDp (tCa sp_q12 (tCo (tVal [] (tFz (tCl lenF (tCoo (tVarD 1) tNo)))) tN))) (tDp (tCa sp_q0 (tCo (tVal [] (tVarD 1)) (tCo (tVal [] (tFz (tCl lenF (tCoo (tIx (tVarD 0) (tCD (.int 0))) tNo)))) tN))))))
theorem e_q6 (E:Gl G) {sp_q12:FSp} (h_q12:FnG G k "need_count" sp_q12) {sp_q0:FSp} (h_q0:FnG G k "need_as_many_numbers" sp_q0):ESs G k ⟨N_q6,(defScope s_q6).names,[],false,false,false,fun _ _=>False⟩ (defBody s_q6) (t_q6 sp_q12 sp_q0):=(s_one (s_for (i_seq (r_d (r_var 0))) (g_name 1) (s_cons (s_expr (r_call h_q12 (a_cons (r_d (r_o (r_bf f_len E.z_len (o_cons (r_var 1) o_nil) (by decide +kernel)))) a_nil))) (s_one (s_expr (r_call h_q0 (a_cons (r_d (r_var 1)) (a_cons (r_d (r_o (r_bf f_len E.z_len (o_cons (r_ix (r_var 0) r_int) o_nil) (by decide +kernel)))) a_nil))))))))
noncomputable abbrev s_q18:Stmt:=top 12
noncomputable abbrev N_q18:List Str:=["way"]
theorem sc_q18:FnScope N_q18 ["way"] (defScope s_q18):=⟨rfl,rfl,rfl,by decide +kernel,rfl,by decide +kernel,by decide +kernel⟩
noncomputable def t_q18:TSd:=(tIfD (tAndB (tCmp2 neT (tVarD 0) (tCD (.str "streets"))) (tCmp2 neT (tVarD 0) (tCD (.str "squares")))) tNev tNx)
theorem e_q18 (E:Gl G):ESs G k ⟨N_q18,(defScope s_q18).names,[],false,false,false,fun _ _=>False⟩ (defBody s_q18) (t_q18):=(s_one (s_if (r_w (r_and (r_tcmp c_ne (r_var 0) (r_con E.c_STREETS)) (r_and1 (r_tcmp c_ne (r_var 0) (r_con E.c_SQUARES))))) (s_one s_never) s_nil))
noncomputable abbrev s_q1:Stmt:=top 13
noncomputable abbrev N_q1:List Str:=["points","way"]
theorem sc_q1:FnScope N_q1 ["points","way"] (defScope s_q1):=⟨rfl,rfl,rfl,by decide +kernel,rfl,by decide +kernel,by decide +kernel⟩
noncomputable def t_q1 (sp_q6:FSp) (sp_q18:FSp):TSd:=(tSq (tDp (tCa sp_q6 (tCo (tVal [] (tVarD 0)) tN))) (tDp (tCa sp_q18 (tCo (tVal [] (tVarD 1)) tN))))
theorem e_q1 (E:Gl G) {sp_q6:FSp} (h_q6:FnG G k "need_points" sp_q6) {sp_q18:FSp} (h_q18:FnG G k "need_way" sp_q18):ESs G k ⟨N_q1,(defScope s_q1).names,[],false,false,false,fun _ _=>False⟩ (defBody s_q1) (t_q1 sp_q6 sp_q18):=(s_cons (s_expr (r_call h_q6 (a_cons (r_d (r_var 0)) a_nil))) (s_one (s_expr (r_call h_q18 (a_cons (r_d (r_var 1)) a_nil)))))
noncomputable abbrev s_q11:Stmt:=top 14
noncomputable abbrev N_q11:List Str:=["bound"]
theorem sc_q11:FnScope N_q11 ["bound"] (defScope s_q11):=⟨rfl,rfl,rfl,by decide +kernel,rfl,by decide +kernel,by decide +kernel⟩
noncomputable def t_q11:TSd:=(tIfD (tCmp2 ltT (tVarD 0) (tCD (.int 0))) tNev tNx)
theorem e_q11 (E:Gl G):ESs G k ⟨N_q11,(defScope s_q11).names,[],false,false,false,fun _ _=>False⟩ (defBody s_q11) (t_q11):=(s_one (s_if (r_tcmp c_lt (r_var 0) r_int) (s_one s_never) s_nil))
noncomputable abbrev s_q3:Stmt:=top 15
noncomputable abbrev N_q3:List Str:=["points","many"]
theorem sc_q3:FnScope N_q3 ["points","many"] (defScope s_q3):=⟨rfl,rfl,rfl,by decide +kernel,rfl,by decide +kernel,by decide +kernel⟩
noncomputable def t_q3:TSd:=(tIfD (tCmp2 gtT (tFz (tCl lenF (tCoo (tVarD 0) tNo))) (tVarD 1)) tNev tNx)
theorem e_q3 (E:Gl G):ESs G k ⟨N_q3,(defScope s_q3).names,[],false,false,false,fun _ _=>False⟩ (defBody s_q3) (t_q3):=(s_one (s_if (r_tcmp c_gt (r_o (r_bf f_len E.z_len (o_cons (r_var 0) o_nil) (by decide +kernel))) (r_var 1)) (s_one s_never) s_nil))
noncomputable abbrev s_q4:Stmt:=top 17
noncomputable abbrev N_q4:List Str:=["way","point","other","differences"]
theorem sc_q4:FnScope N_q4 ["way","point","other"] (defScope s_q4):=⟨rfl,rfl,rfl,by decide +kernel,rfl,by decide +kernel,by decide +kernel⟩
noncomputable def t_q4:TSd:=(tSq (tSt [] 3 (tComp [] [none,none] (tZip (tCo (tVal [] (tVarD 1)) (tCo (tVal [] (tVarD 2)) tN))) (gTu 2 (gC (gNm 0) (gC (gNm 1) gN0))) tTrue (tVal [] (tFz (tCl absF (tCoo (tFz (tBin subD (tVarD 0) (tVarD 1))) tNo)))))) (tSq (tIfD (tCmp2 eqT (tVarD 0) (tCD (.str "streets"))) (tRt [] (tCl sumF (tCoo (tVarD 3) tNo))) tNx) (tRt [] (tCl sumF (tCoo (tFz (tComp [] [none] (itemsD (tVal [] (tVarD 3))) (gNm 0) tTrue (tVal [] (tFz (tBin mulD (tVarD 0) (tVarD 0)))))) tNo)))))
theorem e_q4 (E:Gl G):ESs G k ⟨N_q4,(defScope s_q4).names,[],false,false,false,fun _ _=>False⟩ (defBody s_q4) (t_q4):=(s_cons (s_comp 3 (N':=["here","there"]) (i_zip (a_cons (r_d (r_var 1)) (a_cons (r_d (r_var 2)) a_nil)) E.z_zip) ⟨rfl,by decide +kernel,by decide +kernel,by decide +kernel,by decide +kernel,rfl,by decide +kernel⟩ (g_tup (gs_cons (g_name 0) (gs_cons (g_name 1) gs_nil))) b_nil (r_d (r_o (r_bf f_abs E.z_abs (o_cons (r_o (r_sub (r_var 0) (r_var 1))) o_nil) (by decide +kernel))))) (s_cons (s_if (r_tcmp c_eq (r_var 0) (r_con E.c_STREETS)) (s_one (s_ret (r_bf f_sum E.z_sum (o_cons (r_var 3) o_nil) (by decide +kernel)))) s_nil) (s_one (s_ret (r_bf f_sum E.z_sum (o_cons (r_o (r_comp (N':=["difference"]) (i_seq (r_d (r_var 3))) ⟨rfl,by decide +kernel,by decide +kernel,by decide +kernel,by decide +kernel,rfl,by decide +kernel⟩ (g_name 0) b_nil (r_d (r_o (r_mul (r_var 0) (r_var 0)))))) o_nil) (by decide +kernel))))))
noncomputable abbrev s_q2:Stmt:=top 18
noncomputable abbrev N_q2:List Str:=["points","way","pairs","i","j"]
theorem sc_q2:FnScope N_q2 ["points","way"] (defScope s_q2):=⟨rfl,rfl,rfl,by decide +kernel,rfl,by decide +kernel,by decide +kernel⟩
noncomputable def t_q2 (sp_q4:FSp):TSd:=(tSq (tSt [] 2 (tLs tN)) (tSq (tForD (rng1 (tCoo (tFz (tCl lenF (tCoo (tVarD 0) tNo))) tNo)) (gNm 3) (tForD (rng2 (tCoo (tFz (tBin addD (tVarD 3) (tCD (.int 1)))) (tCoo (tFz (tCl lenF (tCoo (tVarD 0) tNo))) tNo))) (gNm 4) (tDp (tApp (tVarD 2) (tVal [] (tTu (tCo (tVal [] (tFz (tCa sp_q4 (tCo (tVal [] (tVarD 1)) (tCo (tVal [] (tIx (tVarD 0) (tVarD 3))) (tCo (tVal [] (tIx (tVarD 0) (tVarD 4))) tN)))))) (tCo (tVal [] (tVarD 3)) (tCo (tVal [] (tVarD 4)) tN))))))))) (tRt [] (oX (tVarD 2)))))
theorem e_q2 (E:Gl G) {sp_q4:FSp} (h_q4:FnG G k "far_between" sp_q4):ESs G k ⟨N_q2,(defScope s_q2).names,[],false,false,false,fun _ _=>False⟩ (defBody s_q2) (t_q2 sp_q4):=(s_cons (s_set 2 (r_lst a_nil)) (s_cons (s_for (i_rng1 (o_cons (r_o (r_bf f_len E.z_len (o_cons (r_var 0) o_nil) (by decide +kernel))) o_nil) E.z_range) (g_name 3) (s_one (s_for (i_rng2 (o_cons (r_o (r_add (r_var 3) r_int)) (o_cons (r_o (r_bf f_len E.z_len (o_cons (r_var 0) o_nil) (by decide +kernel))) o_nil)) E.z_range) (g_name 4) (s_one (s_expr (r_append (r_var 2) (r_d (r_tup (a_cons (r_d (r_o (r_call h_q4 (a_cons (r_d (r_var 1)) (a_cons (r_d (r_ix (r_var 0) (r_var 3))) (a_cons (r_d (r_ix (r_var 0) (r_var 4))) a_nil)))))) (a_cons (r_d (r_var 3)) (a_cons (r_d (r_var 4)) a_nil))))))))))) (s_one (s_ret (r_x (r_var 2))))))
noncomputable abbrev s_q10:Stmt:=top 21
noncomputable abbrev N_q10:List Str:=["points","way","bound"]
theorem sc_q10:FnScope N_q10 ["points","way","bound"] (defScope s_q10):=⟨rfl,rfl,rfl,by decide +kernel,rfl,by decide +kernel,by decide +kernel⟩
noncomputable def t_q10 (sp_q1:FSp) (sp_q11:FSp) (sp_q2:FSp):TSd:=(tSq (tDp (tCa sp_q1 (tCo (tVal [] (tVarD 0)) (tCo (tVal [] (tVarD 1)) tN)))) (tSq (tDp (tCa sp_q11 (tCo (tVal [] (tVarD 2)) tN))) (tRt [] (tComp [] [none,none,none,some 2] (itemsD (tVal [] (tFz (tCa sp_q2 (tCo (tVal [] (tVarD 0)) (tCo (tVal [] (tVarD 1)) tN)))))) (gTu 3 (gC (gNm 0) (gC (gNm 1) (gC (gNm 2) gN0)))) (tCmp2 leT (tVarD 0) (tVarD 3)) (tVal [] (tTu (tCo (tVal [] (tVarD 1)) (tCo (tVal [] (tVarD 2)) tN))))))))
theorem e_q10 (E:Gl G) {sp_q1:FSp} (h_q1:FnG G k "need_points_and_way" sp_q1) {sp_q11:FSp} (h_q11:FnG G k "need_bound" sp_q11) {sp_q2:FSp} (h_q2:FnG G k "pairs_by_places" sp_q2):ESs G k ⟨N_q10,(defScope s_q10).names,[],false,false,false,fun _ _=>False⟩ (defBody s_q10) (t_q10 sp_q1 sp_q11 sp_q2):=(s_cons (s_expr (r_call h_q1 (a_cons (r_d (r_var 0)) (a_cons (r_d (r_var 1)) a_nil)))) (s_cons (s_expr (r_call h_q11 (a_cons (r_d (r_var 2)) a_nil))) (s_one (s_ret (r_comp (N':=["far","i","j","bound"]) (i_seq (r_d (r_o (r_call h_q2 (a_cons (r_d (r_var 0)) (a_cons (r_d (r_var 1)) a_nil)))))) ⟨rfl,by decide +kernel,by decide +kernel,by decide +kernel,by decide +kernel,rfl,by decide +kernel⟩ (g_tup (gs_cons (g_name 0) (gs_cons (g_name 1) (gs_cons (g_name 2) gs_nil)))) (b_one (r_tcmp c_le (r_var 0) (r_var 3))) (r_d (r_tup (a_cons (r_d (r_var 1)) (a_cons (r_d (r_var 2)) a_nil)))))))))
noncomputable abbrev s_q20:Stmt:=top 22
noncomputable abbrev N_q20:List Str:=["places","near","first","rest","taken","left"]
theorem sc_q20:FnScope N_q20 ["places","near"] (defScope s_q20):=⟨rfl,rfl,rfl,by decide +kernel,rfl,by decide +kernel,by decide +kernel⟩
noncomputable def t_q20 (sp_q20:FSp):TSd:=(tSq (tIfD (tNotB (tTru (tVarD 0))) (tRt [] (tLs tN)) tNx) (tSq (tSt [] 2 (oX (tIx (tVarD 0) (tCD (.int 0))))) (tSq (tSt [] 3 (tSlD (tVarD 0) (tP1 (tCD (.int 1))) tP0)) (tSq (tSt [] 4 (tBin addD (tFz (tLs (tCo (tVal [] (tVarD 2)) tN))) (tFz (tCa sp_q20 (tCo (tVal [] (tFz (tComp [] [none,some 1,some 2] (itemsD (tVal [] (tVarD 3))) (gNm 0) (tCmp2 ninDT (tTu (tCo (tVal [] (tVarD 2)) (tCo (tVal [] (tVarD 0)) tN))) (tVarD 1)) (tVal [] (tVarD 0))))) (tCo (tVal [] (tVarD 1)) tN)))))) (tSq (tSt [] 5 (tCa sp_q20 (tCo (tVal [] (tVarD 3)) (tCo (tVal [] (tVarD 1)) tN)))) (tSq (tIfD (tCmp2 geT (tFz (tCl lenF (tCoo (tVarD 4) tNo))) (tFz (tCl lenF (tCoo (tVarD 5) tNo)))) (tRt [] (oX (tVarD 4))) tNx) (tRt [] (oX (tVarD 5)))))))))
theorem e_q20 (E:Gl G) {sp_q20:FSp} (h_q20:FnG G k "most_of" sp_q20):ESs G k ⟨N_q20,(defScope s_q20).names,[],false,false,false,fun _ _=>False⟩ (defBody s_q20) (t_q20 sp_q20):=(s_cons (s_if (r_tnot (r_ttru (r_var 0))) (s_one (s_ret (r_lst a_nil))) s_nil) (s_cons (s_set 2 (r_x (r_ix (r_var 0) r_int))) (s_cons (s_set 3 (r_sl (r_var 0) (p_some r_int) p_none)) (s_cons (s_set 4 (r_add (r_o (r_lst (a_cons (r_d (r_var 2)) a_nil))) (r_o (r_call h_q20 (a_cons (r_d (r_o (r_comp (N':=["place","near","first"]) (i_seq (r_d (r_var 3))) ⟨rfl,by decide +kernel,by decide +kernel,by decide +kernel,by decide +kernel,rfl,by decide +kernel⟩ (g_name 0) (b_one (r_tcmp c_ninD (r_tup (a_cons (r_d (r_var 2)) (a_cons (r_d (r_var 0)) a_nil))) (r_var 1))) (r_d (r_var 0))))) (a_cons (r_d (r_var 1)) a_nil)))))) (s_cons (s_set 5 (r_call h_q20 (a_cons (r_d (r_var 3)) (a_cons (r_d (r_var 1)) a_nil)))) (s_cons (s_if (r_tcmp c_ge (r_o (r_bf f_len E.z_len (o_cons (r_var 4) o_nil) (by decide +kernel))) (r_o (r_bf f_len E.z_len (o_cons (r_var 5) o_nil) (by decide +kernel)))) (s_one (s_ret (r_x (r_var 4)))) s_nil) (s_one (s_ret (r_x (r_var 5))))))))))
noncomputable abbrev s_q9:Stmt:=top 23
noncomputable abbrev N_q9:List Str:=["points","way","bound","pairs","near","pair"]
theorem sc_q9:FnScope N_q9 ["points","way","bound"] (defScope s_q9):=⟨rfl,rfl,rfl,by decide +kernel,rfl,by decide +kernel,by decide +kernel⟩
noncomputable def t_q9 (sp_q10:FSp) (sp_q3:FSp) (sp_q20:FSp):TSd:=(tSq (tSt [] 3 (tCa sp_q10 (tCo (tVal [] (tVarD 0)) (tCo (tVal [] (tVarD 1)) (tCo (tVal [] (tVarD 2)) tN))))) (tSq (tDp (tCa sp_q3 (tCo (tVal [] (tVarD 0)) (tCo (tVal [] (tCD (.int 14))) tN)))) (tSq (tSt [] 4 tDNt) (tSq (tForD (itemsD (tVal [] (tVarD 3))) (gNm 5) (tDpT 4 (tVal [] (tVarD 5)) (tVal [] (tCD (.bl true))))) (tRt [] (tCa sp_q20 (tCo (tVal [] (tFz (tLR (tCoo (tFz (tCl lenF (tCoo (tVarD 0) tNo))) tNo)))) (tCo (tDz 4) tN))))))))
theorem e_q9 (E:Gl G) {sp_q10:FSp} (h_q10:FnG G k "near_pairs" sp_q10) {sp_q3:FSp} (h_q3:FnG G k "need_at_most" sp_q3) {sp_q20:FSp} (h_q20:FnG G k "most_of" sp_q20):ESs G k ⟨N_q9,(defScope s_q9).names,[],false,false,false,fun _ _=>False⟩ (defBody s_q9) (t_q9 sp_q10 sp_q3 sp_q20):=(s_cons (s_set 3 (r_call h_q10 (a_cons (r_d (r_var 0)) (a_cons (r_d (r_var 1)) (a_cons (r_d (r_var 2)) a_nil))))) (s_cons (s_expr (r_call h_q3 (a_cons (r_d (r_var 0)) (a_cons (r_d (r_con E.c_MOST_POINTS_APART)) a_nil)))) (s_cons (s_set 4 r_dnewT) (s_cons (s_for (i_seq (r_d (r_var 3))) (g_name 5) (s_one (s_dputT 4 (r_d r_bl) (r_d (r_var 5)) (r_ov 4)))) (s_one (s_ret (r_call h_q20 (a_cons (r_d (r_o (r_lrng (o_cons (r_o (r_bf f_len E.z_len (o_cons (r_var 0) o_nil) (by decide +kernel))) o_nil) E.z_list E.z_range))) (a_cons (r_dz 4) a_nil)))))))))
noncomputable abbrev s_q16:Stmt:=top 26
noncomputable abbrev N_q16:List Str:=["cell"]
theorem sc_q16:FnScope N_q16 ["cell"] (defScope s_q16):=⟨rfl,rfl,rfl,by decide +kernel,rfl,by decide +kernel,by decide +kernel⟩
noncomputable def t_q16:TSd:=(tRt [] (tLs (tCo (tVal [] (tFz (tCl absF (tCoo (tVarD 0) tNo)))) (tCo (tVal [] (tFz (tBin modD (tFz (tBin mulD (tFz (tBin addD (tFz (tBin modD (tVarD 0) (tCD (.int 2147483647)))) (tCD (.int 1)))) (tCD (.int 742938285)))) (tCD (.int 2147483647))))) tN))))
theorem e_q16 (E:Gl G):ESs G k ⟨N_q16,(defScope s_q16).names,[],false,false,false,fun _ _=>False⟩ (defBody s_q16) (t_q16):=(s_one (s_ret (r_lst (a_cons (r_d (r_o (r_bf f_abs E.z_abs (o_cons (r_var 0) o_nil) (by decide +kernel)))) (a_cons (r_d (r_o (r_mod (r_o (r_mul (r_o (r_add (r_o (r_mod (r_var 0) r_int)) r_int)) r_int)) r_int))) a_nil)))))
noncomputable abbrev s_q17:Stmt:=top 27
noncomputable abbrev N_q17:List Str:=["reel","many","found","stir"]
theorem sc_q17:FnScope N_q17 ["reel","many"] (defScope s_q17):=⟨rfl,rfl,rfl,by decide +kernel,rfl,by decide +kernel,by decide +kernel⟩
noncomputable def t_q17:TSd:=(tSq (tIfD (tCmp2 geT (tIx (tVarD 0) (tCD (.int 0))) (tFz (tBin powD (tCD (.int 10)) (tCD (.int 18))))) (tSq (tSt [0] 2 (tBin modD (tIx (tVarD 0) (tCD (.int 0))) (tVarD 1))) (tSq (tItem 0 (tCD (.int 0)) (tVal [0] (tFz (tBin fdivW (tIx (tVarD 0) (tCD (.int 0))) (tVarD 1))))) (tRt [0] (oX (tVarD 2))))) tNx) (tSq (tItem 0 (tCD (.int 1)) (tVal [0] (tFz (tBin modD (tFz (tBin addD (tFz (tBin mulD (tIx (tVarD 0) (tCD (.int 1))) (tCD (.int 48271)))) (tCD (.int 11)))) (tCD (.int 2147483647)))))) (tSq (tSt [0] 3 (tBin modD (tFz (tBin mulD (tIx (tVarD 0) (tCD (.int 1))) (tIx (tVarD 0) (tCD (.int 1))))) (tCD (.int 2147483629)))) (tRt [0] (tBin modD (tFz (tBin fdivW (tFz (tBin modD (tFz (tBin mulD (tVarD 3) (tCD (.int 69621)))) (tCD (.int 2147483587)))) (tCD (.int 8)))) (tVarD 1))))))
theorem e_q17 (E:Gl G):ESs G k ⟨N_q17,(defScope s_q17).names,[0],false,false,false,fun _ _=>False⟩ (defBody s_q17) (t_q17):=(s_cons (s_if (r_tcmp c_ge (r_ix (r_var 0) r_int) (r_o (r_pow r_int r_int))) (s_cons (s_set 2 (r_mod (r_ix (r_var 0) r_int) (r_var 1))) (s_cons (s_item 0 (r_d (r_o (r_fdivW (r_ix (r_var 0) r_int) (r_var 1)))) r_int (r_var 0)) (s_one (s_ret (r_x (r_var 2)))))) s_nil) (s_cons (s_item 0 (r_d (r_o (r_mod (r_o (r_add (r_o (r_mul (r_ix (r_var 0) r_int) r_int)) r_int)) r_int))) r_int (r_var 0)) (s_cons (s_set 3 (r_mod (r_o (r_mul (r_ix (r_var 0) r_int) (r_ix (r_var 0) r_int))) r_int)) (s_one (s_ret (r_mod (r_o (r_fdivW (r_o (r_mod (r_o (r_mul (r_var 3) r_int)) r_int)) r_int)) (r_var 1)))))))
noncomputable abbrev s_q13:Stmt:=top 28
noncomputable abbrev N_q13:List Str:=["found","due","k"]
theorem sc_q13:FnScope N_q13 ["found","due"] (defScope s_q13):=⟨rfl,rfl,rfl,by decide +kernel,rfl,by decide +kernel,by decide +kernel⟩
noncomputable def t_q13 (sp_q13:FSp):TSd:=(tSq (tIfD (tCmp2 isT (tVarD 1) (tCD .non)) (tRt [] (oX (bV (tCmp2 isT (tVarD 0) (tCD .non))))) tNx) (tSq (tIfD (tTru (bV (tIsi ["bool"] (tVarD 1)))) (tRt [] (oX (bV (tAndB (tBool (bV (tIsi ["bool"] (tVarD 0)))) (tBool (bV (tCmp2 eqT (tVarD 0) (tVarD 1)))))))) tNx) (tSq (tIfD (tTru (bV (tIsi ["int"] (tVarD 1)))) (tRt [] (oX (bV (tAndB (tBool (bV (tIsi ["int"] (tVarD 0)))) (tAndB (tBool (bV (tNotB (tBool (bV (tIsi ["bool"] (tVarD 0))))))) (tBool (bV (tCmp2 eqT (tVarD 0) (tVarD 1))))))))) tNx) (tSq (tIfD (tTru (bV (tIsi ["str"] (tVarD 1)))) (tRt [] (oX (bV (tAndB (tBool (bV (tIsi ["str"] (tVarD 0)))) (tBool (bV (tCmp2 eqT (tVarD 0) (tVarD 1)))))))) tNx) (tSq (tIfD (tTru (bV (tIsi ["tuple"] (tVarD 1)))) (tIfD (tNotB (tTru (bV (tIsi ["tuple"] (tVarD 0))))) (tRt [] (oX (tCD (.bl false)))) tNx) (tIfD (tNotB (tTru (bV (tIsi ["list"] (tVarD 0))))) (tRt [] (oX (tCD (.bl false)))) tNx)) (tSq (tIfD (tCmp2 neT (tFz (tCl lenF (tCoo (tVarD 0) tNo))) (tFz (tCl lenF (tCoo (tVarD 1) tNo)))) (tRt [] (oX (tCD (.bl false)))) tNx) (tSq (tForD (rng1 (tCoo (tFz (tCl lenF (tCoo (tVarD 1) tNo))) tNo)) (gNm 2) (tIfD (tNotB (tTru (tFz (tCa sp_q13 (tCo (tVal [] (tIx (tVarD 0) (tVarD 2))) (tCo (tVal [] (tIx (tVarD 1) (tVarD 2))) tN)))))) (tRt [] (oX (tCD (.bl false)))) tNx)) (tRt [] (oX (tCD (.bl true)))))))))))
theorem e_q13 (E:Gl G) {sp_q13:FSp} (h_q13:FnG G k "_law_alike" sp_q13):ESs G k ⟨N_q13,(defScope s_q13).names,[],false,false,false,fun _ _=>False⟩ (defBody s_q13) (t_q13 sp_q13):=(s_cons (s_if (r_tcmp c_is (r_var 1) r_non) (s_one (s_ret (r_x (r_cmp c_is (r_var 0) r_non)))) s_nil) (s_cons (s_if (r_ttru (r_isi1 (r_var 1) kit_bool E.z_isinstance E.z_bool (by decide +kernel))) (s_one (s_ret (r_x (r_bv (v_and (v_of (r_isi1 (r_var 0) kit_bool E.z_isinstance E.z_bool (by decide +kernel))) (v_one (v_of (r_cmp c_eq (r_var 0) (r_var 1))))))))) s_nil) (s_cons (s_if (r_ttru (r_isi1 (r_var 1) kit_int E.z_isinstance E.z_int (by decide +kernel))) (s_one (s_ret (r_x (r_bv (v_and (v_of (r_isi1 (r_var 0) kit_int E.z_isinstance E.z_int (by decide +kernel))) (v_and (v_of (r_not (v_of (r_isi1 (r_var 0) kit_bool E.z_isinstance E.z_bool (by decide +kernel))))) (v_one (v_of (r_cmp c_eq (r_var 0) (r_var 1)))))))))) s_nil) (s_cons (s_if (r_ttru (r_isi1 (r_var 1) kit_str E.z_isinstance E.z_str (by decide +kernel))) (s_one (s_ret (r_x (r_bv (v_and (v_of (r_isi1 (r_var 0) kit_str E.z_isinstance E.z_str (by decide +kernel))) (v_one (v_of (r_cmp c_eq (r_var 0) (r_var 1))))))))) s_nil) (s_cons (s_if (r_ttru (r_isi1 (r_var 1) kit_tuple E.z_isinstance E.z_tuple (by decide +kernel))) (s_one (s_if (r_tnot (r_ttru (r_isi1 (r_var 0) kit_tuple E.z_isinstance E.z_tuple (by decide +kernel)))) (s_one (s_ret (r_x r_bl))) s_nil)) (s_one (s_if (r_tnot (r_ttru (r_isi1 (r_var 0) kit_list E.z_isinstance E.z_list (by decide +kernel)))) (s_one (s_ret (r_x r_bl))) s_nil))) (s_cons (s_if (r_tcmp c_ne (r_o (r_bf f_len E.z_len (o_cons (r_var 0) o_nil) (by decide +kernel))) (r_o (r_bf f_len E.z_len (o_cons (r_var 1) o_nil) (by decide +kernel)))) (s_one (s_ret (r_x r_bl))) s_nil) (s_cons (s_for (i_rng1 (o_cons (r_o (r_bf f_len E.z_len (o_cons (r_var 1) o_nil) (by decide +kernel))) o_nil) E.z_range) (g_name 2) (s_one (s_if (r_tnot (r_ttru (r_o (r_call h_q13 (a_cons (r_d (r_ix (r_var 0) (r_var 2))) (a_cons (r_d (r_ix (r_var 1) (r_var 2))) a_nil)))))) (s_one (s_ret (r_x r_bl))) s_nil))) (s_one (s_ret (r_x r_bl))))))))))
noncomputable abbrev s_q8:Stmt:=top 29
noncomputable abbrev N_q8:List Str:=["reel","most","count","many","wide","kind","found","k","point","base"]
theorem sc_q8:FnScope N_q8 ["reel","most"] (defScope s_q8):=⟨rfl,rfl,rfl,by decide +kernel,rfl,by decide +kernel,by decide +kernel⟩
noncomputable def t_q8 (sp_q17:FIo):TSd:=(tSq (tSt [0] 2 (tBin addD (tCD (.int 1)) (tFz (tCio sp_q17 0 (tCo (tVal [0] (tCD (.int 3))) tN))))) (tSq (tSt [0] 3 (oX (tIx (tFz (tLs (tCo (tVal [0] (tFz (tCio sp_q17 0 (tCo (tVal [0] (tFz (tBin addD (tVarD 1) (tCD (.int 1))))) tN)))) (tCo (tVal [0] (tVarD 1)) (tCo (tVal [0] (tFz (tCio sp_q17 0 (tCo (tVal [0] (tFz (tBin addD (tFz (tCl min2F (tCoo (tVarD 1) (tCoo (tCD (.int 4)) tNo)))) (tCD (.int 1))))) tN)))) tN))))) (tFz (tCio sp_q17 0 (tCo (tVal [0] (tCD (.int 3))) tN)))))) (tSq (tSt [0] 4 (oX (tIx (tFz (tLs (tCo (tVal [0] (tCD (.int 3))) (tCo (tVal [0] (tCD (.int 9))) (tCo (tVal [0] (tCD (.int 41))) (tCo (tVal [0] (tCD (.int 1001))) (tCo (tVal [0] (tFz (tBin subD (tFz (tBin mulD (tCD (.int 2)) (tFz (tBin powD (tCD (.int 10)) (tCD (.int 15)))))) (tCD (.int 1))))) tN))))))) (tFz (tCio sp_q17 0 (tCo (tVal [0] (tCD (.int 5))) tN)))))) (tSq (tSt [0] 5 (tCio sp_q17 0 (tCo (tVal [0] (tCD (.int 5))) tN))) (tSq (tSt [0] 6 (tLs tN)) (tSq (tForD (rng1 (tCoo (tVarD 3) tNo)) (gNm 7) (tSq (tSt [0] 8 (tCompIo [0] [none,some 0,some 4] 0 1 (rng1 (tCoo (tVarD 2) tNo)) (gNm 0) tTrue (tVal [1] (tFz (tBin subD (tFz (tCio sp_q17 1 (tCo (tVal [1] (tVarD 2)) tN))) (tFz (tBin fdivW (tVarD 2) (tCD (.int 2))))))))) (tSq (tIfD (tCmp2 eqT (tVarD 5) (tCD (.int 1))) (tItem 8 (tCD (.int 0)) (tVal [0] (tFz (tBin subD (tCD (.int 0)) (tFz (tBin fdivW (tVarD 4) (tCD (.int 2)))))))) tNx) (tSq (tIfD (tAndB (tCmp2 eqT (tVarD 5) (tCD (.int 2))) (tAndB (tCmp2 neT (tVarD 6) (tFz (tLs tN))) (tCmp2 gtT (tFz (tCio sp_q17 0 (tCo (tVal [0] (tCD (.int 3))) tN))) (tCD (.int 0))))) (tSq (tSt [0] 9 (oX (tIx (tVarD 6) (tFz (tCio sp_q17 0 (tCo (tVal [0] (tFz (tCl lenF (tCoo (tVarD 6) tNo)))) tN)))))) (tSt [0] 8 (tCompIo [0] [none,some 0] 0 1 (itemsD (tVal [0] (tVarD 9))) (gNm 0) tTrue (tVal [1] (tFz (tCl max2F (tCoo (tFz (tBin subD (tCD (.int 1)) (tFz (tBin powD (tCD (.int 10)) (tCD (.int 15)))))) (tCoo (tFz (tCl min2F (tCoo (tFz (tBin subD (tFz (tBin powD (tCD (.int 10)) (tCD (.int 15)))) (tCD (.int 1)))) (tCoo (tFz (tBin subD (tFz (tBin addD (tVarD 0) (tFz (tCio sp_q17 1 (tCo (tVal [1] (tCD (.int 3))) tN))))) (tCD (.int 1)))) tNo)))) tNo)))))))) tNx) (tSq (tIfD (tAndB (tCmp2 eqT (tVarD 5) (tCD (.int 3))) (tAndB (tCmp2 neT (tVarD 6) (tFz (tLs tN))) (tCmp2 eqT (tFz (tCio sp_q17 0 (tCo (tVal [0] (tCD (.int 4))) tN))) (tCD (.int 0))))) (tSt [0] 8 (tCl listF (tCoo (tIx (tVarD 6) (tFz (tCio sp_q17 0 (tCo (tVal [0] (tFz (tCl lenF (tCoo (tVarD 6) tNo)))) tN)))) tNo))) tNx) (tDp (tApp (tVarD 6) (tVal [0] (tFz (tCl tupleF (tCoo (tVarD 8) tNo))))))))))) (tRt [0] (oX (tVarD 6)))))))))
theorem e_q8 (E:Gl G) {sp_q17:FIo} (h_q17:FnIo G k "_law_take" sp_q17):ESs G k ⟨N_q8,(defScope s_q8).names,[0],false,false,false,fun _ _=>False⟩ (defBody s_q8) (t_q8 sp_q17):=(s_cons (s_set 2 (r_add r_int (r_o (r_callio h_q17 (r_var 0) (a_cons (r_d r_int) a_nil))))) (s_cons (s_set 3 (r_x (r_ix (r_o (r_lst (a_cons (r_d (r_o (r_callio h_q17 (r_var 0) (a_cons (r_d (r_o (r_add (r_var 1) r_int))) a_nil)))) (a_cons (r_d (r_var 1)) (a_cons (r_d (r_o (r_callio h_q17 (r_var 0) (a_cons (r_d (r_o (r_add (r_o (r_bf f_min2 E.z_min (o_cons (r_var 1) (o_cons r_int o_nil)) (by decide +kernel))) r_int))) a_nil)))) a_nil))))) (r_o (r_callio h_q17 (r_var 0) (a_cons (r_d r_int) a_nil)))))) (s_cons (s_set 4 (r_x (r_ix (r_o (r_lst (a_cons (r_d r_int) (a_cons (r_d r_int) (a_cons (r_d r_int) (a_cons (r_d r_int) (a_cons (r_d (r_o (r_sub (r_o (r_mul r_int (r_o (r_pow r_int r_int)))) r_int))) a_nil))))))) (r_o (r_callio h_q17 (r_var 0) (a_cons (r_d r_int) a_nil)))))) (s_cons (s_set 5 (r_callio h_q17 (r_var 0) (a_cons (r_d r_int) a_nil))) (s_cons (s_set 6 (r_lst a_nil)) (s_cons (s_for (i_rng1 (o_cons (r_var 3) o_nil) E.z_range) (g_name 7) (s_cons (s_compIo 8 0 1 (N':=["at","reel","wide"]) (i_rng1 (o_cons (r_var 2) o_nil) E.z_range) ⟨rfl,by decide +kernel,by decide +kernel,by decide +kernel,by decide +kernel,rfl,by decide +kernel⟩ (g_name 0) b_nil (r_d (r_o (r_sub (r_o (r_callio h_q17 (r_var 1) (a_cons (r_d (r_var 2)) a_nil))) (r_o (r_fdivW (r_var 2) r_int)))))) (s_cons (s_if (r_tcmp c_eq (r_var 5) r_int) (s_one (s_item 8 (r_d (r_o (r_sub r_int (r_o (r_fdivW (r_var 4) r_int))))) r_int (r_var 8))) s_nil) (s_cons (s_if (r_w (r_and (r_tcmp c_eq (r_var 5) r_int) (r_and (r_tcmp c_ne (r_var 6) (r_o (r_lst a_nil))) (r_and1 (r_tcmp c_gt (r_o (r_callio h_q17 (r_var 0) (a_cons (r_d r_int) a_nil))) r_int))))) (s_cons (s_set 9 (r_x (r_ix (r_var 6) (r_o (r_callio h_q17 (r_var 0) (a_cons (r_d (r_o (r_bf f_len E.z_len (o_cons (r_var 6) o_nil) (by decide +kernel)))) a_nil)))))) (s_one (s_compIo 8 0 1 (N':=["number","reel"]) (i_seq (r_d (r_var 9))) ⟨rfl,by decide +kernel,by decide +kernel,by decide +kernel,by decide +kernel,rfl,by decide +kernel⟩ (g_name 0) b_nil (r_d (r_o (r_bf f_max2 E.z_max (o_cons (r_o (r_sub r_int (r_o (r_pow r_int r_int)))) (o_cons (r_o (r_bf f_min2 E.z_min (o_cons (r_o (r_sub (r_o (r_pow r_int r_int)) r_int)) (o_cons (r_o (r_sub (r_o (r_add (r_var 0) (r_o (r_callio h_q17 (r_var 1) (a_cons (r_d r_int) a_nil))))) r_int)) o_nil)) (by decide +kernel))) o_nil)) (by decide +kernel))))))) s_nil) (s_cons (s_if (r_w (r_and (r_tcmp c_eq (r_var 5) r_int) (r_and (r_tcmp c_ne (r_var 6) (r_o (r_lst a_nil))) (r_and1 (r_tcmp c_eq (r_o (r_callio h_q17 (r_var 0) (a_cons (r_d r_int) a_nil))) r_int))))) (s_one (s_set 8 (r_bt f_list E.z_list (o_cons (r_ix (r_var 6) (r_o (r_callio h_q17 (r_var 0) (a_cons (r_d (r_o (r_bf f_len E.z_len (o_cons (r_var 6) o_nil) (by decide +kernel)))) a_nil)))) o_nil) (by decide +kernel)))) s_nil) (s_one (s_expr (r_append (r_var 6) (r_d (r_o (r_bt f_tuple E.z_tuple (o_cons (r_var 8) o_nil) (by decide +kernel)))))))))))) (s_one (s_ret (r_x (r_var 6))))))))))
noncomputable abbrev s_q19:Stmt:=top 30
noncomputable abbrev N_q19:List Str:=["way","one","other","apart"]
theorem sc_q19:FnScope N_q19 ["way","one","other"] (defScope s_q19):=⟨rfl,rfl,rfl,by decide +kernel,rfl,by decide +kernel,by decide +kernel⟩
noncomputable def t_q19:TSd:=(tSq (tSt [] 3 (tComp [] [none,none] (tZip (tCo (tVal [] (tVarD 1)) (tCo (tVal [] (tVarD 2)) tN))) (gTu 2 (gC (gNm 0) (gC (gNm 1) gN0))) tTrue (tVal [] (tFz (tCl absF (tCoo (tFz (tBin subD (tVarD 0) (tVarD 1))) tNo)))))) (tSq (tIfD (tCmp2 eqT (tVarD 0) (tCD (.str "streets"))) (tRt [] (tCl sumF (tCoo (tVarD 3) tNo))) tNx) (tRt [] (tCl sumF (tCoo (tFz (tComp [] [none] (itemsD (tVal [] (tVarD 3))) (gNm 0) tTrue (tVal [] (tFz (tBin mulD (tVarD 0) (tVarD 0)))))) tNo)))))
theorem e_q19 (E:Gl G):ESs G k ⟨N_q19,(defScope s_q19).names,[],false,false,false,fun _ _=>False⟩ (defBody s_q19) (t_q19):=(s_cons (s_comp 3 (N':=["a","b"]) (i_zip (a_cons (r_d (r_var 1)) (a_cons (r_d (r_var 2)) a_nil)) E.z_zip) ⟨rfl,by decide +kernel,by decide +kernel,by decide +kernel,by decide +kernel,rfl,by decide +kernel⟩ (g_tup (gs_cons (g_name 0) (gs_cons (g_name 1) gs_nil))) b_nil (r_d (r_o (r_bf f_abs E.z_abs (o_cons (r_o (r_sub (r_var 0) (r_var 1))) o_nil) (by decide +kernel))))) (s_cons (s_if (r_tcmp c_eq (r_var 0) r_str) (s_one (s_ret (r_bf f_sum E.z_sum (o_cons (r_var 3) o_nil) (by decide +kernel)))) s_nil) (s_one (s_ret (r_bf f_sum E.z_sum (o_cons (r_o (r_comp (N':=["number"]) (i_seq (r_d (r_var 3))) ⟨rfl,by decide +kernel,by decide +kernel,by decide +kernel,by decide +kernel,rfl,by decide +kernel⟩ (g_name 0) b_nil (r_d (r_o (r_mul (r_var 0) (r_var 0)))))) o_nil) (by decide +kernel))))))
noncomputable abbrev s_q14:Stmt:=top 31
noncomputable abbrev N_q14:List Str:=["points","way","found","j","other"]
theorem sc_q14:FnScope N_q14 ["points","way"] (defScope s_q14):=⟨rfl,rfl,rfl,by decide +kernel,rfl,by decide +kernel,by decide +kernel⟩
noncomputable def t_q14 (sp_q19:FSp):TSd:=(tSq (tSt [] 2 (tLs tN)) (tSq (tForD (tEnumS (tCo (tVal [] (tVarD 0)) tN)) (gTu 2 (gC (gNm 3) (gC (gNm 4) gN0))) (tDp (tExt (tVarD 2) (tComp [] [none,some 3,some 1,some 4,some 0] (rng1 (tCoo (tVarD 3) tNo)) (gNm 0) tTrue (tVal [] (tTu (tCo (tVal [] (tFz (tCa sp_q19 (tCo (tVal [] (tVarD 2)) (tCo (tVal [] (tIx (tVarD 4) (tVarD 0))) (tCo (tVal [] (tVarD 3)) tN)))))) (tCo (tVal [] (tVarD 0)) (tCo (tVal [] (tVarD 1)) tN))))))))) (tRt [] (tCl sortedF (tCoo (tVarD 2) tNo)))))
theorem e_q14 (E:Gl G) {sp_q19:FSp} (h_q19:FnG G k "_law_far" sp_q19):ESs G k ⟨N_q14,(defScope s_q14).names,[],false,false,false,fun _ _=>False⟩ (defBody s_q14) (t_q14 sp_q19):=(s_cons (s_set 2 (r_lst a_nil)) (s_cons (s_for (i_enumS (a_cons (r_d (r_var 0)) a_nil) E.z_enumerate) (g_tup (gs_cons (g_name 3) (gs_cons (g_name 4) gs_nil))) (s_one (s_expr (r_extend (r_var 2) (r_comp (N':=["i","j","way","other","points"]) (i_rng1 (o_cons (r_var 3) o_nil) E.z_range) ⟨rfl,by decide +kernel,by decide +kernel,by decide +kernel,by decide +kernel,rfl,by decide +kernel⟩ (g_name 0) b_nil (r_d (r_tup (a_cons (r_d (r_o (r_call h_q19 (a_cons (r_d (r_var 2)) (a_cons (r_d (r_ix (r_var 4) (r_var 0))) (a_cons (r_d (r_var 3)) a_nil)))))) (a_cons (r_d (r_var 0)) (a_cons (r_d (r_var 1)) a_nil)))))))))) (s_one (s_ret (r_bf f_sorted E.z_sorted (o_cons (r_var 2) o_nil) (by decide +kernel))))))
noncomputable abbrev s_q7:Stmt:=top 32
noncomputable abbrev N_q7:List Str:=["reel","pairs","least","far","ends","some"]
theorem sc_q7:FnScope N_q7 ["reel","pairs","least"] (defScope s_q7):=⟨rfl,rfl,rfl,by decide +kernel,rfl,by decide +kernel,by decide +kernel⟩
noncomputable def t_q7 (sp_q17:FIo):TSd:=(tSq (tSt [0] 3 (oX (tIx (tIx (tFz (tBin addD (tFz (tLs (tCo (tVal [0] (tTu (tCo (tVal [0] (tCD (.int 9))) (tCo (tVal [0] (tCD (.int 0))) (tCo (tVal [0] (tCD (.int 1))) tN))))) tN))) (tVarD 1))) (tFz (tCio sp_q17 0 (tCo (tVal [0] (tFz (tBin addD (tFz (tCl lenF (tCoo (tVarD 1) tNo))) (tCD (.int 1))))) tN)))) (tCD (.int 0))))) (tSq (tSt [0] 4 (tComp [0] [none] (itemsD (tVal [0] (tFz (tBin addD (tFz (tSlD (tVarD 1) tP0 (tP1 (tCD (.int 1))))) (tFz (tSlD (tVarD 1) (tP1 (tNeg (tCD (.int 1)))) tP0)))))) (gNm 0) tTrue (tVal [] (tIx (tVarD 0) (tCD (.int 0)))))) (tSq (tSt [0] 5 (tLs (tCo (tVal [0] (tVarD 2)) (tCo (tVal [0] (tFz (tBin addD (tVarD 2) (tCD (.int 1))))) (tCo (tVal [0] (tFz (tCio sp_q17 0 (tCo (tVal [0] (tCD (.int 12))) tN)))) (tCo (tVal [0] (tVarD 3)) (tCo (tVal [0] (tFz (tBin addD (tVarD 3) (tCD (.int 1))))) (tCo (tVal [0] (tFz (tBin subD (tVarD 3) (tCD (.int 1))))) (tCo (tVal [0] (tFz (tCio sp_q17 0 (tCo (tVal [0] (tFz (tBin powD (tCD (.int 10)) (tCD (.int 6))))) tN)))) (tCo (tVal [0] (tFz (tBin subD (tFz (tBin powD (tCD (.int 10)) (tCD (.int 34)))) (tCD (.int 1))))) tN)))))))))) (tRt [0] (tComp [0] [none,some 2] (itemsD (tVal [0] (tFz (tBin addD (tVarD 5) (tVarD 4))))) (gNm 0) tTrue (tVal [] (tFz (tCl max2F (tCoo (tVarD 1) (tCoo (tFz (tCl min2F (tCoo (tFz (tBin subD (tFz (tBin powD (tCD (.int 10)) (tCD (.int 34)))) (tCD (.int 1)))) (tCoo (tVarD 0) tNo)))) tNo))))))))))
theorem e_q7 (E:Gl G) {sp_q17:FIo} (h_q17:FnIo G k "_law_take" sp_q17):ESs G k ⟨N_q7,(defScope s_q7).names,[0],false,false,false,fun _ _=>False⟩ (defBody s_q7) (t_q7 sp_q17):=(s_cons (s_set 3 (r_x (r_ix (r_ix (r_o (r_add (r_o (r_lst (a_cons (r_d (r_tup (a_cons (r_d r_int) (a_cons (r_d r_int) (a_cons (r_d r_int) a_nil))))) a_nil))) (r_var 1))) (r_o (r_callio h_q17 (r_var 0) (a_cons (r_d (r_o (r_add (r_o (r_bf f_len E.z_len (o_cons (r_var 1) o_nil) (by decide +kernel))) r_int))) a_nil)))) r_int))) (s_cons (s_comp 4 (N':=["pair"]) (i_seq (r_d (r_o (r_add (r_o (r_sl (r_var 1) p_none (p_some r_int))) (r_o (r_sl (r_var 1) (p_some (r_neg r_int)) p_none)))))) ⟨rfl,by decide +kernel,by decide +kernel,by decide +kernel,by decide +kernel,rfl,by decide +kernel⟩ (g_name 0) b_nil (r_d (r_ix (r_var 0) r_int))) (s_cons (s_set 5 (r_lst (a_cons (r_d (r_var 2)) (a_cons (r_d (r_o (r_add (r_var 2) r_int))) (a_cons (r_d (r_o (r_callio h_q17 (r_var 0) (a_cons (r_d r_int) a_nil)))) (a_cons (r_d (r_var 3)) (a_cons (r_d (r_o (r_add (r_var 3) r_int))) (a_cons (r_d (r_o (r_sub (r_var 3) r_int))) (a_cons (r_d (r_o (r_callio h_q17 (r_var 0) (a_cons (r_d (r_o (r_pow r_int r_int))) a_nil)))) (a_cons (r_d (r_o (r_sub (r_o (r_pow r_int r_int)) r_int))) a_nil)))))))))) (s_one (s_ret (r_comp (N':=["bound","least"]) (i_seq (r_d (r_o (r_add (r_var 5) (r_var 4))))) ⟨rfl,by decide +kernel,by decide +kernel,by decide +kernel,by decide +kernel,rfl,by decide +kernel⟩ (g_name 0) b_nil (r_d (r_o (r_bf f_max2 E.z_max (o_cons (r_var 1) (o_cons (r_o (r_bf f_min2 E.z_min (o_cons (r_o (r_sub (r_o (r_pow r_int r_int)) r_int)) (o_cons (r_var 0) o_nil)) (by decide +kernel))) o_nil)) (by decide +kernel))))))))))
noncomputable abbrev s_q15:Stmt:=top 33
noncomputable abbrev N_q15:List Str:=["many","pairs","bound","near","far","i","j","good","best","bits","low","places"]
theorem sc_q15:FnScope N_q15 ["many","pairs","bound"] (defScope s_q15):=⟨rfl,rfl,rfl,by decide +kernel,rfl,by decide +kernel,by decide +kernel⟩
noncomputable def t_q15:TSd:=(tSq (tSt [] 3 (tBin mulD (tFz (tLs (tCo (tVal [] (tCD (.int 0))) tN))) (tVarD 0))) (tSq (tForD (itemsD (tVal [] (tVarD 1))) (gTu 3 (gC (gNm 4) (gC (gNm 5) (gC (gNm 6) gN0)))) (tIfD (tCmp2 leT (tVarD 4) (tVarD 2)) (tItem 3 (tVarD 5) (tVal [] (tFz (tBin orD (tIx (tVarD 3) (tVarD 5)) (tFz (tBin shlD (tCD (.int 1)) (tVarD 6))))))) tNx)) (tSq (tSt [] 7 (tLs (tCo (tVal [] (tCD (.bl true))) tN))) (tSq (tSt [] 8 (oX (tTu (tCo (tVal [] (tCD (.int 0))) (tCo (tVal [] (tFz (tLs tN))) tN))))) (tSq (tForD (rng2 (tCoo (tCD (.int 1)) (tCoo (tFz (tBin shlD (tCD (.int 1)) (tVarD 0))) tNo))) (gNm 9) (tSq (tSt [] 10 (tBin subD (tBl (tFz (tBin andD (tVarD 9) (tFz (tBin subD (tCD (.int 0)) (tVarD 9)))))) (tCD (.int 1)))) (tSq (tDp (tApp (tVarD 7) (tVal [] (bV (tAndB (tBool (tIx (tVarD 7) (tFz (tBin subD (tVarD 9) (tFz (tBin shlD (tCD (.int 1)) (tVarD 10))))))) (tBool (bV (tCmp2 eqT (tFz (tBin andD (tIx (tVarD 3) (tVarD 10)) (tVarD 9))) (tCD (.int 0)))))))))) (tIfD (tTru (tIx (tVarD 7) (tVarD 9))) (tSq (tSt [] 11 (tComp [] [none,some 9] (rng1 (tCoo (tVarD 0) tNo)) (gNm 0) (tCmp2 eqT (tFz (tBin andD (tFz (tBin shrD (tVarD 1) (tVarD 0))) (tCD (.int 1)))) (tCD (.int 1))) (tVal [] (tVarD 0)))) (tSt [] 8 (tCl minIL (tCoo (tVarD 8) (tCoo (tTu (tCo (tVal [] (tFz (tBin subD (tCD (.int 0)) (tFz (tCl lenF (tCoo (tVarD 11) tNo)))))) (tCo (tVal [] (tVarD 11)) tN))) tNo))))) tNx)))) (tRt [] (oX (tIx (tVarD 8) (tCD (.int 1))))))))))
theorem e_q15 (E:Gl G):ESs G k ⟨N_q15,(defScope s_q15).names,[],false,false,false,fun _ _=>False⟩ (defBody s_q15) (t_q15):=(s_cons (s_set 3 (r_mul (r_o (r_lst (a_cons (r_d r_int) a_nil))) (r_var 0))) (s_cons (s_for (i_seq (r_d (r_var 1))) (g_tup (gs_cons (g_name 4) (gs_cons (g_name 5) (gs_cons (g_name 6) gs_nil)))) (s_one (s_if (r_tcmp c_le (r_var 4) (r_var 2)) (s_one (s_item 3 (r_d (r_o (r_bor (r_ix (r_var 3) (r_var 5)) (r_o (r_shl r_int (r_var 6)))))) (r_var 5) (r_var 3))) s_nil))) (s_cons (s_set 7 (r_lst (a_cons (r_d r_bl) a_nil))) (s_cons (s_set 8 (r_x (r_tup (a_cons (r_d r_int) (a_cons (r_d (r_o (r_lst a_nil))) a_nil))))) (s_cons (s_for (i_rng2 (o_cons r_int (o_cons (r_o (r_shl r_int (r_var 0))) o_nil)) E.z_range) (g_name 9) (s_cons (s_set 10 (r_sub (r_bl' (r_o (r_band (r_var 9) (r_o (r_sub r_int (r_var 9)))))) r_int)) (s_cons (s_expr (r_append (r_var 7) (r_d (r_bv (v_and (v_of (r_ix (r_var 7) (r_o (r_sub (r_var 9) (r_o (r_shl r_int (r_var 10))))))) (v_one (v_of (r_cmp c_eq (r_o (r_band (r_ix (r_var 3) (r_var 10)) (r_var 9))) r_int)))))))) (s_one (s_if (r_ttru (r_ix (r_var 7) (r_var 9))) (s_cons (s_comp 11 (N':=["place","bits"]) (i_rng1 (o_cons (r_var 0) o_nil) E.z_range) ⟨rfl,by decide +kernel,by decide +kernel,by decide +kernel,by decide +kernel,rfl,by decide +kernel⟩ (g_name 0) (b_one (r_tcmp c_eq (r_o (r_band (r_o (r_shr (r_var 1) (r_var 0))) r_int)) r_int)) (r_d (r_var 0))) (s_one (s_set 8 (r_bf f_minIL E.z_min (o_cons (r_var 8) (o_cons (r_tup (a_cons (r_d (r_o (r_sub r_int (r_o (r_bf f_len E.z_len (o_cons (r_var 11) o_nil) (by decide +kernel)))))) (a_cons (r_d (r_var 11)) a_nil))) o_nil)) (by decide +kernel))))) s_nil))))) (s_one (s_ret (r_x (r_ix (r_var 8) r_int)))))))))
noncomputable abbrev s_q21:Stmt:=top 34
noncomputable abbrev N_q21:List Str:=["script","k","cell","reel","points","way","pairs","handed","bounds","bound","due","turn","found"]
theorem sc_q21:FnScope N_q21 ["script"] (defScope s_q21):=⟨rfl,rfl,rfl,by decide +kernel,rfl,by decide +kernel,by decide +kernel⟩
noncomputable def t_q21 (sp_q16:FSp) (sp_q8:FIo) (sp_q17:FIo) (sp_q14:FSp) (sp_q7:FIo) (sp_q15:FSp) (sp_q9:FSp) (sp_q13:FSp):TSd:=(tSq (tForD (tEnumS (tCo (tVal [] (tFz (tBin addD (tFz (tSlD (tVarD 0) tP0 (tP1 (tCD (.int 2))))) (tFz (tLs (tCo (tVal [] (tFz (tCl lenF (tCoo (tVarD 0) tNo)))) tN)))))) tN)) (gTu 2 (gC (gNm 1) (gC (gNm 2) gN0))) (tSq (tSt [] 3 (tCa sp_q16 (tCo (tVal [] (tVarD 2)) tN))) (tSq (tSt [] 4 (tCio sp_q8 3 (tCo (tVal [] (tIx (tFz (tLs (tCo (tVal [] (tCD (.int 9))) (tCo (tVal [] (tCD (.int 14))) tN)))) (tFz (tCl intF (tCoo (bV (tAndB (tBool (bV (tCmp2 eqT (tVarD 1) (tCD (.int 0))))) (tBool (bV (tCmp2 eqT (tFz (tCio sp_q17 3 (tCo (tVal [] (tCD (.int 4))) tN))) (tCD (.int 0))))))) tNo))))) tN))) (tSq (tSt [] 5 (oX (tIx (tFz (tLs (tCo (tVal [] (tCD (.str "streets"))) (tCo (tVal [] (tCD (.str "squares"))) tN)))) (tFz (tCio sp_q17 3 (tCo (tVal [] (tCD (.int 2))) tN)))))) (tSq (tSt [] 6 (tCa sp_q14 (tCo (tVal [] (tVarD 4)) (tCo (tVal [] (tVarD 5)) tN)))) (tSq (tSt [] 7 (tCl listF (tCoo (tVarD 4) tNo))) (tSq (tSt [] 8 (tCio sp_q7 3 (tCo (tVal [] (tVarD 6)) (tCo (tVal [] (tCD (.int 0))) tN)))) (tSq (tIfD (tCmp2 gtT (tFz (tCl lenF (tCoo (tVarD 4) tNo))) (tCD (.int 9))) (tSt [] 8 (tSlD (tVarD 8) (tP1 (tCD (.int 3))) (tP1 (tCD (.int 5))))) tNx) (tForD (itemsD (tVal [] (tVarD 8))) (gNm 9) (tSq (tSt [] 10 (tCa sp_q15 (tCo (tVal [] (tFz (tCl lenF (tCoo (tVarD 4) tNo)))) (tCo (tVal [] (tVarD 6)) (tCo (tVal [] (tVarD 9)) tN))))) (tForD (rng1 (tCoo (tCD (.int 2)) tNo)) (gNm 11) (tSq (tSt [] 12 (tCa sp_q9 (tCo (tVal [] (tVarD 7)) (tCo (tVal [] (tVarD 5)) (tCo (tVal [] (tVarD 9)) tN))))) (tSq (tIfD (tOrB (tNotB (tTru (tFz (tCb sp_q13 (tCoo (tVarD 12) (tCoo (tVarD 10) tNo)))))) (tCmp2 neT (tVarD 7) (tVarD 4))) (tRt [] (oX (tCD (.bl false)))) tNx) (tDp (tApp (tVarD 12) (tVal [] (tCD (.int 0)))))))))))))))))) (tRt [] (oX (tCD (.bl true)))))
theorem e_q21 (E:Gl G) {sp_q16:FSp} (h_q16:FnG G k "_law_reel" sp_q16) {sp_q8:FIo} (h_q8:FnIo G k "_law_points" sp_q8) {sp_q17:FIo} (h_q17:FnIo G k "_law_take" sp_q17) {sp_q14:FSp} (h_q14:FnG G k "_law_pairs" sp_q14) {sp_q7:FIo} (h_q7:FnIo G k "_law_bounds" sp_q7) {sp_q15:FSp} (h_q15:FnG G k "_law_best" sp_q15) {sp_q9:FSp} (h_q9:FnG G k "most_apart" sp_q9) {sp_q13:FSp} (h_q13:FnG G k "_law_alike" sp_q13):ESs G k ⟨N_q21,(defScope s_q21).names,[],false,false,false,fun _ _=>False⟩ (defBody s_q21) (t_q21 sp_q16 sp_q8 sp_q17 sp_q14 sp_q7 sp_q15 sp_q9 sp_q13):=(s_cons (s_for (i_enumS (a_cons (r_d (r_o (r_add (r_o (r_sl (r_var 0) p_none (p_some r_int))) (r_o (r_lst (a_cons (r_d (r_o (r_bf f_len E.z_len (o_cons (r_var 0) o_nil) (by decide +kernel)))) a_nil)))))) a_nil) E.z_enumerate) (g_tup (gs_cons (g_name 1) (gs_cons (g_name 2) gs_nil))) (s_cons (s_set 3 (r_call h_q16 (a_cons (r_d (r_var 2)) a_nil))) (s_cons (s_set 4 (r_callio h_q8 (r_var 3) (a_cons (r_d (r_ix (r_o (r_lst (a_cons (r_d r_int) (a_cons (r_d r_int) a_nil)))) (r_o (r_bt f_int E.z_int (o_cons (r_bv (v_and (v_of (r_cmp c_eq (r_var 1) r_int)) (v_one (v_of (r_cmp c_eq (r_o (r_callio h_q17 (r_var 3) (a_cons (r_d r_int) a_nil))) r_int))))) o_nil) (by decide +kernel))))) a_nil))) (s_cons (s_set 5 (r_x (r_ix (r_o (r_lst (a_cons (r_d r_str) (a_cons (r_d r_str) a_nil)))) (r_o (r_callio h_q17 (r_var 3) (a_cons (r_d r_int) a_nil)))))) (s_cons (s_set 6 (r_call h_q14 (a_cons (r_d (r_var 4)) (a_cons (r_d (r_var 5)) a_nil)))) (s_cons (s_set 7 (r_bt f_list E.z_list (o_cons (r_var 4) o_nil) (by decide +kernel))) (s_cons (s_set 8 (r_callio h_q7 (r_var 3) (a_cons (r_d (r_var 6)) (a_cons (r_d r_int) a_nil)))) (s_cons (s_if (r_tcmp c_gt (r_o (r_bf f_len E.z_len (o_cons (r_var 4) o_nil) (by decide +kernel))) r_int) (s_one (s_set 8 (r_sl (r_var 8) (p_some r_int) (p_some r_int)))) s_nil) (s_one (s_for (i_seq (r_d (r_var 8))) (g_name 9) (s_cons (s_set 10 (r_call h_q15 (a_cons (r_d (r_o (r_bf f_len E.z_len (o_cons (r_var 4) o_nil) (by decide +kernel)))) (a_cons (r_d (r_var 6)) (a_cons (r_d (r_var 9)) a_nil))))) (s_one (s_for (i_rng1 (o_cons r_int o_nil) E.z_range) (g_name 11) (s_cons (s_set 12 (r_call h_q9 (a_cons (r_d (r_var 7)) (a_cons (r_d (r_var 5)) (a_cons (r_d (r_var 9)) a_nil))))) (s_cons (s_if (r_w (r_or (r_tnot (r_ttru (r_o (r_callb h_q13 (o_cons (r_var 12) (o_cons (r_var 10) o_nil)))))) (r_or1 (r_tcmp c_ne (r_var 7) (r_var 4))))) (s_one (s_ret (r_x r_bl))) s_nil) (s_one (s_expr (r_append (r_var 12) (r_d r_int))))))))))))))))))) (s_one (s_ret (r_x r_bl))))

end
section
set_option hygiene false
local macro_rules | `(tactic| walk_at "vx")=>`(tactic| ((try simp only [startD,startIo,List.map_cons,List.map_nil,List.length_cons,List.length_nil,List.replicate_succ,List.replicate_zero,List.cons_append,List.nil_append,Nat.reduceAdd,Nat.reduceSub]);(try dsimp only [tSq,tNx,tNev,tIfD,tDp,tRt,tSt,stD,tApp,appQ,isOwn,tFz,oX,fzV,oxV,valQ_val,valQ_var,tVal,tVarD,tCD,drf,drfs,tBin,addD,subD,mulD,modD,powD,shrD,shlD,iiD,iiD0,tNeg,tCmp2,bV,eqT,neT,iiT,ltT,leT,gtT,geT,isNone,isT,truD,tTru,tAndB,tOrB,tNotB,tBool,tIx,tP0,tP1,slD,tSlD,tN,tCo,tLs,tTu,tNo,tCoo,tCl,lenF,absF,max2F,min2F,intF,listF,tupleF,bE,tCa,tCb,gNm,gN0,gC,gTu,itemsD,rng1,rng2,tForD,tTrue,tComp,frzC,capD,leS,sq?,tZip,tEnumS,tLR,sortedF,fdivW,Vc.ix2_0,Vc.ix2_1,Vc.ixN2_0,Vc.ixN2_1,ioQ,startIo,itemQ,tItem,tCio,tCompIo,ownAt,tExt,extQ,sumF,tyN,subN,isiD,tIsi,tDNt,tOv,tDz,tDpT,inDT,ninDT,andD,orD,tBl,blQ,minIL,startD,plainD,List.getElem?_cons_zero,List.getElem?_cons_succ,List.getElem?_nil,List.set_cons_zero,List.set_cons_succ,List.map_cons,List.map_nil,List.length_cons,List.length_nil,List.replicate_succ,List.replicate_zero,List.cons_append,List.nil_append,Nat.reduceAdd,Nat.reduceSub]);try simp only [List.append_nil,Nat.add_sub_cancel,Nat.zero_add,List.not_mem_nil,not_false_eq_true,true_and,and_true,decide_eq_true_eq,ite_true,ite_false,Bool.not_eq_true',decide_eq_false_iff_not,List.getElem?_cons_zero,List.getElem?_cons_succ]))
local macro_rules | `(tactic| walk_at "vc")=>`(tactic| repeat (refine And.intro (by first | assumption | decide | omega | (unfold CMul;omega) | (unfold CDiv;omega) | (unfold CPow;omega)) ?_))
local macro_rules | `(tactic| walk_at "vg")=>`(tactic| simp only [gNm,gTu,gC,gN0,List.length_cons,List.length_nil,Nat.reduceAdd,Nat.zero_add,true_and,List.set_cons_zero,List.set_cons_succ,Int.zero_add])
local macro_rules | `(tactic| walk_at "vd")=>`(tactic| walk_at "vx")
set_option hygiene true

variable [KF]
theorem cut_map {α β:Type} (f:α -> β) (xs:List α) (lo hi:Option Int):cut (xs.map f) lo hi = (cut xs lo hi).map f:=by
  unfold cut
  rw [List.length_map,List.map_take,List.map_drop]
theorem cut_len {α:Type} (xs:List α) (lo hi:Option Int):(cut xs lo hi).length <= xs.length:=by
  unfold cut
  rw [List.length_take,List.length_drop];omega
noncomputable def wayS (b:Bool):Str:=if b = true then "squares" else "streets"
noncomputable def wayD (b:Bool):D:=.str (wayS b)
noncomputable def ptD (p:List Int):D:=.tup (p.map D.int)
noncomputable def Bd (p:List Int):Prop:=p.length <= 3 /\ ∀ x ∈ p,-(2 ^ 60) < x /\ x < 2 ^ 60
noncomputable def absI (x:Int):Int:=if x < 0 then -x else x
noncomputable def stepI (b:Bool) (x y:Int):Int:=if b = true then absI (x - y) * absI (x - y) else absI (x - y)
noncomputable def farI (b:Bool) (p q:List Int):Int:=((p.zip q).map fun xy=>stepI b xy.1 xy.2).sum
noncomputable def sp_far:FSp:=fun ds Q=>∃ b p q,ds = [wayD b,ptD p,ptD q] /\ Bd p /\ Bd q /\ Q (.sh (.int (farI b p q)))
theorem way_ok (b:Bool):okD 8 (wayD b) = true:=by cases b<;>decide +kernel
theorem ok_streets:okD 8 (.str "streets") = true:=by decide +kernel
theorem ok_squares:okD 8 (.str "squares") = true:=by decide +kernel
theorem way_streets (b:Bool):eqD (wayD b) (.str "streets") = !b:=by cases b<;>decide +kernel
theorem way_squares (b:Bool):eqD (wayD b) (.str "squares") = b:=by cases b<;>decide +kernel
theorem sz:sizeLine = 2 ^ 24:=rfl
theorem zip_len {p q:List Int} (h:Bd p):(p.zip q).length <= 3:=by
  rw [List.length_zip];have:=h.1;omega
theorem all_int {α:Type} (l:List α) (f:α -> Int):(l.map fun a=>D.int (f a)).all isInt = true:=by
  rw [List.all_map];exact List.all_eq_true.mpr fun _ _=>rfl
theorem map_intV {α:Type} (l:List α) (f:α -> Int):(l.map fun a=>D.int (f a)).map intV = l.map f:=by
  rw [List.map_map];rfl
theorem p_far (ds:List D) (Q:B -> Prop) (h:sp_far ds Q):t_q4 { nx:=fun _=>Q (.sh .non),rt:=fun b _=>Q b } (startD N_q4.length ds):=by
  obtain ⟨b,p,q,rfl,hp,hq,h⟩:=h
  unfold t_q4 ptD
  walk_at "vx"
  rw [zipD_map]
  refine compD_onM (fun p=>.tup [.int p.1,.int p.2]) (fun xy:Int × Int=>D.int (absI (xy.1 - xy.2))) _ (fun xy hxy A ha=>?_) (by have:=zip_len (q:=q) hp;rw [sz];omega) ?_
  · walk_at "vx"
    exact ha
  · walk_at "vx"
    rw [way_streets]
    refine ⟨⟨way_ok b,ok_streets⟩,?_⟩
    cases b with
    | false =>
      refine (if_pos rfl).mpr ?_
      refine ⟨all_int _ _,?_⟩
      rw [map_intV]
      exact h
    | true =>
      refine (if_neg (by decide)).mpr ?_
      rw [show (List.map (fun xy:Int × Int=>D.int (absI (xy.1 - xy.2))) (p.zip q)) = (List.map (fun xy:Int × Int=>(absI (xy.1 - xy.2))) (p.zip q)).map D.int from by rw [List.map_map];rfl]
      refine compD_onM D.int (fun d:Int=>D.int (d * d)) _ (fun d hd A ha=>?_) (by have:=zip_len (q:=q) hp;rw [sz,List.length_map];omega) ?_
      · walk_at "vx"
        refine ⟨?_,ha⟩
        obtain ⟨xy,hxy,rfl⟩:=List.mem_map.mp hd
        have h1:=hp.2 _ (List.of_mem_zip hxy).1
        have h2:=hq.2 _ (List.of_mem_zip hxy).2
        unfold CMul absI
        left
        split<;>omega
      · walk_at "vx"
        refine ⟨all_int _ _,?_⟩
        rw [map_intV,List.map_map]
        exact h
noncomputable def Good (n:Nat) (pts:List (List Int)):Prop:=(1 <= n /\ n <= 3) /\ ∀ p ∈ pts,p.length = n /\ ∀ x ∈ p,-(2 ^ 59) < x /\ x < 2 ^ 59
theorem Good.bd {n:Nat} {pts:List (List Int)} (g:Good n pts) {p:List Int} (h:p ∈ pts):Bd p:=⟨by have:=(g.2 p h).1;have:=g.1.2;omega,fun x hx=>by have:=(g.2 p h).2 x hx;omega⟩
theorem range_get {n i a:Nat} (h:(List.range n)[i]? = some a):a = i /\ i < n:=by
  have hi:i < n:=by
    have:=(List.getElem?_eq_some_iff.mp h).1
    rwa [List.length_range] at this
  rw [List.getElem?_range hi] at h
  cases h
  exact ⟨rfl,hi⟩
theorem p_lfar (ds:List D) (Q:B -> Prop) (h:sp_far ds Q):t_q19 { nx:=fun _=>Q (.sh .non),rt:=fun b _=>Q b } (startD N_q19.length ds):=p_far ds Q h

noncomputable def ptsD (pts:List (List Int)):D:=.lst (pts.map ptD)
theorem pts_get {pts:List (List Int)} {j:Nat} (h:j < pts.length):(pts.map ptD)[j]? = some (ptD (pts.getD j [])):=by
  rw [List.getElem?_map,List.getD_eq_getElem?_getD,List.getElem?_eq_getElem h];rfl
theorem getD_mem {pts:List (List Int)} {j:Nat} (h:j < pts.length):pts.getD j [] ∈ pts:=by
  rw [List.getD_eq_getElem?_getD,List.getElem?_eq_getElem h];exact List.getElem_mem h
theorem enum_get {α:Type} {xs:List α} {i:Nat} {q:Nat × α} (h:(xs.mapIdx fun i x=>(i,x))[i]? = some q):q.1 = i /\ xs[i]? = some q.2:=by
  rw [List.getElem?_mapIdx] at h
  cases e:xs[i]? with
  | none=>rw [e] at h;cases h
  | some x=>rw [e] at h;cases h;exact ⟨rfl,rfl⟩

noncomputable def Shape (n:Nat) (pts:List (List Int)):Prop:=(1 <= n /\ n <= 3) /\ ∀ p ∈ pts,p.length = n
theorem Good.shape {n:Nat} {pts:List (List Int)} (g:Good n pts):Shape n pts:=⟨g.1,fun p hp=>(g.2 p hp).1⟩
noncomputable def sp_ncount:FSp:=fun ds Q=>∃ c:Int,ds = [.int c] /\ 1 <= c /\ c <= 3 /\ Q (.sh .non)
theorem p_ncount (ds:List D) (Q:B -> Prop) (h:sp_ncount ds Q):t_q12 { nx:=fun _=>Q (.sh .non),rt:=fun b _=>Q b } (startD N_q12.length ds):=by
  obtain ⟨c,rfl,h1,h2,h⟩:=h
  unfold t_q12
  walk_at "vx"
  rw [if_neg (by omega),if_neg (by omega)]
  exact h
noncomputable def sp_nas:FSp:=fun ds Q=>∃ (p:List Int) (c:Int),ds = [ptD p,.int c] /\ (p.length:Int) = c /\ Q (.sh .non)
theorem p_nas (ds:List D) (Q:B -> Prop) (h:sp_nas ds Q):t_q0 { nx:=fun _=>Q (.sh .non),rt:=fun b _=>Q b } (startD N_q0.length ds):=by
  obtain ⟨p,c,rfl,rfl,h⟩:=h
  unfold t_q0 ptD
  walk_at "vx"
  rw [List.length_map]
  refine ⟨⟨rfl,rfl⟩,?_⟩
  have e:eqD (.int (p.length:Nat)) (.int (p.length:Nat)) = true:=by simp [eqD]
  rw [if_neg (by rw [e];decide)]
  exact h
noncomputable def sp_npts:FSp:=fun ds Q=>∃ n pts,ds = [ptsD pts] /\ Shape n pts /\ Q (.sh .non)
theorem p_npts (ds:List D) (Q:B -> Prop) (h:sp_npts ds Q):t_q6 sp_ncount sp_nas { nx:=fun _=>Q (.sh .non),rt:=fun b _=>Q b } (startD N_q6.length ds):=by
  obtain ⟨n,pts,rfl,hg,h⟩:=h
  unfold t_q6 ptsD
  walk_at "vx"
  refine forD_on ptD pts (fun i σ=>∃ x,σ = [some (.sh (.lst (pts.map ptD))),x]) (fun i p σ N' hx hI hN'=>?_) (fun σ hI=>h) ⟨none,rfl⟩
  obtain ⟨x,rfl⟩:=hI
  have hp:=hg.2 p (List.mem_of_getElem? hx)
  have h1:=hg.1
  have h0:0 < pts.length:=Nat.lt_of_le_of_lt (Nat.zero_le _) (List.getElem?_eq_some_iff.mp hx).1
  have h00:=hg.2 _ (getD_mem h0)
  walk_at "vg"
  refine tSq_step fun N2 hN2=>?_
  rw [show ptD p = .tup (p.map D.int) from rfl]
  walk_at "vx"
  rw [List.length_map]
  refine ⟨_,rfl,by omega,by omega,?_⟩
  walk_at "vx"
  subst hN2
  walk_at "vx"
  refine ix_lst_at (n:=0) rfl (pts_get h0) ?_
  rw [show ptD (pts.getD 0 []) = .tup ((pts.getD 0 []).map D.int) from rfl]
  walk_at "vx"
  rw [List.length_map]
  refine ⟨p,_,rfl,by rw [hp,h00],?_⟩
  exact hN' _ ⟨_,rfl⟩
noncomputable def sp_nway:FSp:=fun ds Q=>∃ b,ds = [wayD b] /\ Q (.sh .non)
theorem p_nway (ds:List D) (Q:B -> Prop) (h:sp_nway ds Q):t_q18 { nx:=fun _=>Q (.sh .non),rt:=fun b _=>Q b } (startD N_q18.length ds):=by
  obtain ⟨b,rfl,h⟩:=h
  unfold t_q18
  walk_at "vx"
  refine ⟨⟨way_ok b,ok_streets⟩,?_⟩
  rw [way_streets]
  cases b with
  | false=>exact h
  | true =>
    refine (if_pos rfl).mpr ⟨⟨way_ok true,ok_squares⟩,?_⟩
    rw [way_squares]
    exact h
noncomputable def sp_npw:FSp:=fun ds Q=>∃ n b pts,ds = [ptsD pts,wayD b] /\ Shape n pts /\ Q (.sh .non)
theorem p_npw (ds:List D) (Q:B -> Prop) (h:sp_npw ds Q):t_q1 sp_npts sp_nway { nx:=fun _=>Q (.sh .non),rt:=fun b _=>Q b } (startD N_q1.length ds):=by
  obtain ⟨n,b,pts,rfl,hg,h⟩:=h
  unfold t_q1
  walk_at "vx"
  refine ⟨n,pts,rfl,hg,?_⟩
  walk_at "vx"
  exact ⟨b,rfl,h⟩

noncomputable def okS:Nat -> D -> Bool
  | _,.non=>true
  | _,.int _=>true
  | n + 1,.tup xs=>decide (xs.length <= 1000000) && xs.all (okS n)
  | n + 1,.lst xs=>decide (xs.length <= 1000000) && xs.all (okS n)
  | _,_=>false
theorem eqD_int (i:Int):eqD (.int i) (.int i) = true:=by simp [eqD]
theorem eqDs_ints:∀ p:List Int,eqDs (p.map D.int) (p.map D.int) = true
  | []=>rfl
  | x :: p=>by
    show (eqD (.int x) (.int x) && eqDs (p.map D.int) (p.map D.int)) = true
    rw [eqD_int,eqDs_ints p];rfl
theorem eqDs_pts:∀ pts:List (List Int),eqDs (pts.map ptD) (pts.map ptD) = true
  | []=>rfl
  | p :: pts=>by
    show (eqDs (p.map D.int) (p.map D.int) && eqDs (pts.map ptD) (pts.map ptD)) = true
    rw [eqDs_ints p,eqDs_pts pts];rfl
theorem eqD_pts (pts:List (List Int)):eqD (.lst (pts.map ptD)) (.lst (pts.map ptD)) = true:=eqDs_pts pts
theorem ok_pts (pts:List (List Int)):okD 8 (.lst (pts.map ptD)) = true:=by
  show (pts.map ptD).all (okD 7) = true
  rw [List.all_map]
  refine List.all_eq_true.mpr fun p _=>?_
  show (p.map D.int).all (okD 6) = true
  rw [List.all_map]
  exact List.all_eq_true.mpr fun _ _=>rfl
theorem ne_nil (pts:List (List Int)):eqD (.lst (pts.map ptD)) (.lst []) = decide (pts = []):=by cases pts<;>rfl
noncomputable def pairD (b:Bool) (pts:List (List Int)) (i j:Nat):D:=.tup [.int (farI b (pts.getD i []) (pts.getD j [])),.int i,.int j]
noncomputable def rowD (b:Bool) (pts:List (List Int)) (i m:Nat):List D:=(List.range m).map fun t=>pairD b pts i (i + 1 + t)
noncomputable def rowsD (b:Bool) (pts:List (List Int)):Nat -> List D
  | 0=>[]
  | i + 1=>rowsD b pts i ++ rowD b pts i (pts.length - (i + 1))
noncomputable def pairsD (b:Bool) (pts:List (List Int)):List D:=rowsD b pts pts.length
theorem rowD_len (b:Bool) (pts:List (List Int)) (i m:Nat):(rowD b pts i m).length = m:=by unfold rowD;rw [List.length_map,List.length_range]
theorem rowD_succ (b:Bool) (pts:List (List Int)) (i m:Nat):rowD b pts i (m + 1) = rowD b pts i m ++ [pairD b pts i (i + 1 + m)]:=by unfold rowD;rw [List.range_succ,List.map_append];rfl
theorem rowsD_len (b:Bool) (pts:List (List Int)):∀ i,(rowsD b pts i).length <= i * pts.length
  | 0=>Nat.zero_le _
  | i + 1=>by
    have ih:=rowsD_len b pts i
    show (rowsD b pts i ++ rowD b pts i (pts.length - (i + 1))).length <= _
    rw [List.length_append,rowD_len,Nat.succ_mul]
    omega
theorem rows_le {b:Bool} {pts:List (List Int)} {i:Nat} (hl:pts.length <= 1000) (hi:i <= pts.length):(rowsD b pts i).length <= 1000000 :=
  Nat.le_trans (rowsD_len b pts i) (Nat.mul_le_mul (show i <= 1000 by omega) hl)
theorem pairs_le {b:Bool} {pts:List (List Int)} (hl:pts.length <= 1000):(pairsD b pts).length <= 1000000:=rows_le hl (Nat.le_refl _)
theorem rows_mem {b:Bool} {pts:List (List Int)}:∀ {i:Nat} {d:D},d ∈ rowsD b pts i -> ∃ p q,p < i /\ p < q /\ (i <= pts.length -> q < pts.length) /\ d = pairD b pts p q
  | i + 1,d,h=>by
    rcases List.mem_append.mp (show d ∈ rowsD b pts i ++ rowD b pts i (pts.length - (i + 1)) from h) with h | h
    · obtain ⟨p,q,h1,h2,h3,h4⟩:=rows_mem h
      exact ⟨p,q,by omega,h2,fun z=>h3 (by omega),h4⟩
    · obtain ⟨t,ht,rfl⟩:=List.mem_map.mp h
      have ht:=List.mem_range.mp ht
      exact ⟨i,i + 1 + t,by omega,by omega,fun z=>by omega,rfl⟩
theorem pairs_mem {b:Bool} {pts:List (List Int)} {d:D} (h:d ∈ pairsD b pts):∃ p q,p < q /\ q < pts.length /\ d = pairD b pts p q:=by
  obtain ⟨p,q,h1,h2,h3,h4⟩:=rows_mem h
  exact ⟨p,q,h2,h3 (Nat.le_refl _),h4⟩
theorem pairs_intT (b:Bool) (pts:List (List Int)):(pairsD b pts).all intT = true:=List.all_eq_true.mpr fun d hd=>by
  obtain ⟨p,q,_,_,rfl⟩:=pairs_mem hd
  rfl
noncomputable def sp_pairs:FSp:=fun ds Q=>∃ b n pts,ds = [ptsD pts,wayD b] /\ Good n pts /\ pts.length <= 1000 /\ Q (.own (pairsD b pts))
noncomputable def tPairs (sp:FSp) (rest:TSd):TSd:=(tSq (tSt [] 2 (tLs tN)) (tSq (tForD (rng1 (tCoo (tFz (tCl lenF (tCoo (tVarD 0) tNo))) tNo)) (gNm 3) (tForD (rng2 (tCoo (tFz (tBin addD (tVarD 3) (tCD (.int 1)))) (tCoo (tFz (tCl lenF (tCoo (tVarD 0) tNo))) tNo))) (gNm 4) (tDp (tApp (tVarD 2) (tVal [] (tTu (tCo (tVal [] (tFz (tCa sp (tCo (tVal [] (tVarD 1)) (tCo (tVal [] (tIx (tVarD 0) (tVarD 3))) (tCo (tVal [] (tIx (tVarD 0) (tVarD 4))) tN)))))) (tCo (tVal [] (tVarD 3)) (tCo (tVal [] (tVarD 4)) tN))))))))) rest))
theorem p_tPairs {b:Bool} {n:Nat} {pts:List (List Int)} {rest:TSd} {De:EndsD} (hg:Good n pts) (hl:pts.length <= 1000) (h:∀ x3 x4,rest De [some (.sh (ptsD pts)),some (.sh (wayD b)),some (.own (pairsD b pts)),x3,x4]) :
    tPairs sp_far rest De [some (.sh (ptsD pts)),some (.sh (wayD b)),none,none,none]:=by
  unfold tPairs
  refine tSq_step fun N hN=>?_
  walk_at "vx"
  refine ⟨by decide,?_⟩
  subst hN
  refine tSq_step fun N hN=>?_
  rw [show ptsD pts = .lst (pts.map ptD) from rfl]
  walk_at "vx"
  rw [List.length_map,Int.toNat_natCast,rngD_map]
  refine ⟨by omega,forD_on (fun i:Nat=>.int (0 + (i:Nat))) (List.range pts.length) (fun i σ=>∃ x3 x4,σ = [some (.sh (.lst (pts.map ptD))),some (.sh (wayD b)),some (.own (rowsD b pts i)),x3,x4]) (fun i a σ N' hx hI hN'=>?_) (fun σ hI=>?_) ⟨none,none,rfl⟩⟩
  · obtain ⟨rfl,hi⟩:=range_get hx
    obtain ⟨x3,x4,rfl⟩:=hI
    walk_at "vg"
    walk_at "vx"
    rw [List.length_map,rngD_map]
    refine ⟨by omega,?_⟩
    rw [show ((pts.length:Int) - ((a:Int) + 1)).toNat = pts.length - (a + 1) by omega]
    refine forD_on (fun t:Nat=>.int ((a:Int) + 1 + (t:Nat))) (List.range (pts.length - (a + 1))) (fun m σ=>∃ x4,σ = [some (.sh (.lst (pts.map ptD))),some (.sh (wayD b)),some (.own (rowsD b pts a ++ rowD b pts a m)),some (.sh (.int a)),x4]) (fun m t σ N2 hx2 hI2 hN2=>?_) (fun σ hI2=>?_) ⟨x4,by rw [show rowD b pts a 0 = [] from rfl,List.append_nil]⟩
    · obtain ⟨rfl,ht⟩:=range_get hx2
      obtain ⟨x4,rfl⟩:=hI2
      walk_at "vx"
      have hj:a + 1 + t < pts.length:=by omega
      refine ⟨⟨_,rfl⟩,?_⟩
      refine ix_lst_at (n:=a) rfl (pts_get hi) ?_
      refine ix_lst_at (n:=a + 1 + t) (by omega) (pts_get hj) ?_
      walk_at "vx"
      refine ⟨b,_,_,rfl,hg.bd (getD_mem hi),hg.bd (getD_mem hj),?_⟩
      walk_at "vx"
      have hz:=rows_le (b:=b) hl (show a <= pts.length by omega)
      refine ⟨by decide,by rw [sz,List.length_append,rowD_len];omega,hN2 _ ⟨some (.sh (.int ((a:Int) + 1 + (t:Int)))),?_⟩⟩
      rw [rowD_succ,List.append_assoc]
      unfold pairD
      rw [show ((a + 1 + t:Nat):Int) = (a:Int) + 1 + (t:Int) by omega]
    · obtain ⟨x4,rfl⟩:=hI2
      rw [List.length_range]
      exact hN' _ ⟨some (.sh (.int a)),x4,rfl⟩
  · obtain ⟨x3,x4,rfl⟩:=hI
    subst hN
    rw [List.length_range]
    exact h x3 x4
theorem p_pairs (ds:List D) (Q:B -> Prop) (h:sp_pairs ds Q):t_q2 sp_far { nx:=fun _=>Q (.sh .non),rt:=fun b _=>Q b } (startD N_q2.length ds):=by
  obtain ⟨b,n,pts,rfl,hg,hl,h⟩:=h
  exact p_tPairs hg hl fun x3 x4=>by walk_at "vx";exact h

noncomputable def ReelOk (xs:List D):Prop:=∃ x y:Int,xs = [.int x,.int y] /\ 0 <= x /\ 0 <= y /\ y < 2147483647
noncomputable def sp_reel:FSp:=fun ds Q=>∃ c:Int,ds = [.int c] /\ ∀ xs,ReelOk xs -> Q (.own xs)
theorem p_reel (ds:List D) (Q:B -> Prop) (h:sp_reel ds Q):t_q16 { nx:=fun _=>Q (.sh .non),rt:=fun b _=>Q b } (startD N_q16.length ds):=by
  obtain ⟨c,rfl,h⟩:=h
  unfold t_q16
  walk_at "vx"
  refine ⟨by decide,by unfold CMul;omega,by decide,by decide,?_⟩
  exact h _ ⟨_,_,rfl,by split<;>omega,by omega,by omega⟩
noncomputable def sp_take:FIo:=fun xs ds Q=>ReelOk xs /\ ∃ m:Int,ds = [.int m] /\ 1 <= m /\ m < 2 ^ 200 /\ ∀ r ys,0 <= r -> r < m -> ReelOk ys -> Q (.sh (.int r)) ys
theorem p_take (xs ds:List D) (Q:B -> List D -> Prop) (h:sp_take xs ds Q):t_q17 { nx:=ioQ Q (.sh .non),rt:=fun b σ=>ioQ Q b σ } (startIo N_q17.length xs ds):=by
  obtain ⟨⟨x,y,rfl,hx,hy,hy2⟩,m,rfl,hm,hm2,h⟩:=h
  unfold t_q17
  refine tSq_step fun N hN=>?_
  simp only [startIo]
  walk_at "vx"
  refine ⟨by unfold CPow;decide,?_⟩
  split
  · refine ⟨by omega,by unfold CDivW;omega,⟨_,rfl⟩,?_⟩
    exact h _ _ (Int.emod_nonneg _ (by omega)) (Int.emod_lt_of_pos _ (by omega)) ⟨_,_,rfl,Int.ediv_nonneg hx (by omega),hy,hy2⟩
  · subst hN
    refine tSq_step fun N hN=>?_
    walk_at "vx"
    refine ⟨by unfold CMul;omega,by decide,⟨_,rfl⟩,?_⟩
    have hz0:0 <= (y * 48271 + 11) % 2147483647:=Int.emod_nonneg _ (by decide)
    have hz1:(y * 48271 + 11) % 2147483647 < 2147483647:=Int.emod_lt_of_pos _ (by decide)
    generalize (y * 48271 + 11) % 2147483647 = z at hz0 hz1
    subst hN
    refine tSq_step fun N hN=>?_
    walk_at "vx"
    refine ⟨by unfold CMul;omega,by decide,?_⟩
    have hs0:0 <= z * z % 2147483629:=Int.emod_nonneg _ (by decide)
    have hs1:z * z % 2147483629 < 2147483629:=Int.emod_lt_of_pos _ (by decide)
    generalize z * z % 2147483629 = s at hs0 hs1
    subst hN
    walk_at "vx"
    refine ⟨by unfold CMul;omega,by decide,by unfold CDivW;decide,by omega,?_⟩
    exact h _ _ (Int.emod_nonneg _ (by omega)) (Int.emod_lt_of_pos _ (by omega)) ⟨_,_,rfl,hx,hz0,hz1⟩

noncomputable def sp_rpoints:FIo:=fun xs ds Q=>ReelOk xs /\ ∃ m:Nat,ds = [.int m] /\ m <= 150 /\ ∀ pts n ys,Good n pts -> pts.length <= m -> ReelOk ys -> Q (.own (pts.map ptD)) ys
noncomputable def Far (v:Int):Prop:=-(10 ^ 15) <= v /\ v <= 10 ^ 15
theorem ints_ex:∀ ds:List D,(∀ d ∈ ds,∃ v,d = .int v /\ Far v) -> ∃ p:List Int,ds = p.map D.int /\ p.length = ds.length /\ ∀ v ∈ p,Far v
  | [],_=>⟨[],rfl,rfl,fun v hv=>by cases hv⟩
  | d :: ds,h=>by
    obtain ⟨v,rfl,hv⟩:=h d (List.mem_cons_self ..)
    obtain ⟨p,e,hl,hp⟩:=ints_ex ds fun x hx=>h x (List.mem_cons_of_mem _ hx)
    refine ⟨v :: p,by rw [e];rfl,by simp [hl],fun w hw=>?_⟩
    rcases List.mem_cons.mp hw with rfl | hw
    · exact hv
    · exact hp w hw
theorem ixN_zero {n:Nat} (h:0 < n):ixN n 0 = some 0:=by unfold ixN;rw [if_pos (by omega),if_pos (by omega)];rfl
theorem p_rpoints (xs ds:List D) (Q:B -> List D -> Prop) (h:sp_rpoints xs ds Q):t_q8 sp_take { nx:=ioQ Q (.sh .non),rt:=fun b σ=>ioQ Q b σ } (startIo N_q8.length xs ds):=by
  obtain ⟨r0,m,rfl,hm,h⟩:=h
  unfold t_q8
  -- count
  refine tSq_step fun N hN=>?_
  walk_at "vx"
  refine ⟨⟨_,rfl⟩,r0,3,rfl,by decide,by decide,fun c x1 c0 c3 r1=>?_⟩
  walk_at "vx"
  subst hN
  -- many
  refine tSq_step fun N hN=>?_
  walk_at "vd"
  refine ⟨⟨_,rfl⟩,r1,_,rfl,by omega,by omega,fun a1 x2 a10 a11 r2=>?_⟩
  walk_at "vx"
  refine ⟨⟨_,rfl⟩,r2,_,rfl,by split<;>omega,by split<;>omega,fun a2 x3 a20 a21 r3=>?_⟩
  walk_at "vx"
  refine ⟨by decide,⟨_,rfl⟩,r3,3,rfl,by decide,by decide,fun a3 x4 a30 a31 r4=>?_⟩
  walk_at "vx"
  refine ix_lst_all a30 (by simp only [List.length_cons,List.length_nil];omega) fun d hd=>?_
  obtain ⟨many,rfl,hmn⟩:∃ v:Nat,d = .int v /\ v <= m:=by
    simp only [List.mem_cons,List.not_mem_nil,or_false] at hd
    rcases hd with rfl | rfl | rfl
    · exact ⟨a1.toNat,by rw [Int.toNat_of_nonneg a10],by omega⟩
    · exact ⟨m,rfl,Nat.le_refl _⟩
    · exact ⟨a2.toNat,by rw [Int.toNat_of_nonneg a20],by split at a21<;>omega⟩
  subst hN
  -- wide
  refine tSq_step fun N hN=>?_
  walk_at "vx"
  refine ⟨by unfold CPow;decide,by unfold CMul;decide,by decide,⟨_,rfl⟩,r4,5,rfl,by decide,by decide,fun a4 x5 a40 a41 r5=>?_⟩
  walk_at "vx"
  refine ix_lst_all a40 (by simp only [List.length_cons,List.length_nil];omega) fun d hd=>?_
  obtain ⟨wide,rfl,hw1,hw2⟩:∃ v:Int,d = .int v /\ 3 <= v /\ v <= 2 * 10 ^ 15 - 1:=by
    simp only [List.mem_cons,List.not_mem_nil,or_false] at hd
    rcases hd with rfl | rfl | rfl | rfl | rfl
    · exact ⟨_,rfl,by decide,by decide⟩
    · exact ⟨_,rfl,by decide,by decide⟩
    · exact ⟨_,rfl,by decide,by decide⟩
    · exact ⟨_,rfl,by decide,by decide⟩
    · exact ⟨_,rfl,by decide,by decide⟩
  subst hN
  -- kind
  refine tSq_step fun N hN=>?_
  walk_at "vx"
  refine ⟨⟨_,rfl⟩,r5,5,rfl,by decide,by decide,fun kind x6 _ _ r6=>?_⟩
  walk_at "vx"
  subst hN
  -- found
  refine tSq_step fun N hN=>?_
  walk_at "vx"
  refine ⟨by decide,?_⟩
  subst hN
  obtain ⟨cnt,hc1,hc3,ec⟩:∃ n:Nat,1 <= n /\ n <= 3 /\ 1 + c = (n:Int):=⟨(1 + c).toNat,by omega,by omega,by omega⟩
  rw [ec]
  -- the loop
  refine tSq_step fun N hN=>?_
  show tForD _ _ _ _ _
  generalize ht:tSq (tSt [0] 8 _) _ = tb
  walk_at "vx"
  rw [Int.toNat_natCast,rngD_map]
  refine ⟨by omega,forD_on (fun i:Nat=>.int (0 + (i:Nat))) (List.range many) (fun i σ=>∃ x pts k pt b,σ = [some (.own x),some (.sh (.int m)),some (.sh (.int cnt)),some (.sh (.int many)),some (.sh (.int wide)),some (.sh (.int kind)),some (.own (pts.map ptD)),k,pt,b] /\ ReelOk x /\ pts.length = i /\ Good cnt pts /\ ∀ p ∈ pts,∀ v ∈ p,Far v) (fun i a σ N' hx hI hN'=>?_) (fun σ hI=>?_) ⟨x6,[],none,none,none,rfl,r6,rfl,⟨⟨hc1,hc3⟩,fun p hp=>by cases hp⟩,fun p hp=>by cases hp⟩⟩
  · obtain ⟨rfl,hi⟩:=range_get hx
    obtain ⟨x,pts,k,pt,b,rfl,rx,hl,hg,hf⟩:=hI
    walk_at "vg"
    subst ht
    -- the last: append
    have last:∀ (x:List D) (p:List Int) b,ReelOk x -> p.length = cnt -> (∀ v ∈ p,Far v) -> N' [some (.own x),some (.sh (.int m)),some (.sh (.int cnt)),some (.sh (.int many)),some (.sh (.int wide)),some (.sh (.int kind)),some (.own ((pts ++ [p]).map ptD)),some (.sh (.int (a:Nat))),some (.sh (.lst (p.map D.int))),b] /\ N' [some (.own x),some (.sh (.int m)),some (.sh (.int cnt)),some (.sh (.int many)),some (.sh (.int wide)),some (.sh (.int kind)),some (.own ((pts ++ [p]).map ptD)),some (.sh (.int (a:Nat))),some (.own (p.map D.int)),b]:=fun x p b rx hp hb=>by
      have hg':Good cnt (pts ++ [p]):=⟨hg.1,fun q hq=>by
        rcases List.mem_append.mp hq with hq | hq
        · exact hg.2 q hq
        · rw [List.mem_singleton.mp hq]
          exact ⟨hp,fun v hv=>by have:=hb v hv;unfold Far at this;omega⟩⟩
      have hf':∀ q ∈ pts ++ [p],∀ v ∈ q,Far v:=fun q hq=>by
        rcases List.mem_append.mp hq with hq | hq
        · exact hf q hq
        · rw [List.mem_singleton.mp hq];exact hb
      exact ⟨hN' _ ⟨x,pts ++ [p],_,_,_,rfl,rx,by simp [hl],hg',hf'⟩,hN' _ ⟨x,pts ++ [p],_,_,_,rfl,rx,by simp [hl],hg',hf'⟩⟩
    refine tSq_step fun N1 hN1=>?_
    have k1:∀ (x:List D) (p:List Int) b,ReelOk x -> p.length = cnt -> (∀ v ∈ p,Far v) -> N1 [some (.own x),some (.sh (.int m)),some (.sh (.int cnt)),some (.sh (.int many)),some (.sh (.int wide)),some (.sh (.int kind)),some (.own (pts.map ptD)),some (.sh (.int (a:Nat))),some (.own (p.map D.int)),b]:=by
      intro x p b rx hp hb
      subst hN1
      refine tSq_step fun N2 hN2=>?_
      have k2:∀ (x:List D) (p:List Int) b,ReelOk x -> p.length = cnt -> (∀ v ∈ p,Far v) -> N2 [some (.own x),some (.sh (.int m)),some (.sh (.int cnt)),some (.sh (.int many)),some (.sh (.int wide)),some (.sh (.int kind)),some (.own (pts.map ptD)),some (.sh (.int (a:Nat))),some (.own (p.map D.int)),b]:=by
        intro x p b rx hp hb
        subst hN2
        refine tSq_step fun N3 hN3=>?_
        have k3:∀ (x:List D) (p:List Int) b,ReelOk x -> p.length = cnt -> (∀ v ∈ p,Far v) -> N3 [some (.own x),some (.sh (.int m)),some (.sh (.int cnt)),some (.sh (.int many)),some (.sh (.int wide)),some (.sh (.int kind)),some (.own (pts.map ptD)),some (.sh (.int (a:Nat))),some (.own (p.map D.int)),b]:=by
          intro x p b rx hp hb
          subst hN3
          refine tSq_step fun N4 hN4=>?_
          have k4:∀ (x:List D) (p:List Int) b,ReelOk x -> p.length = cnt -> (∀ v ∈ p,Far v) -> N4 [some (.own x),some (.sh (.int m)),some (.sh (.int cnt)),some (.sh (.int many)),some (.sh (.int wide)),some (.sh (.int kind)),some (.own (pts.map ptD)),some (.sh (.int (a:Nat))),some (.own (p.map D.int)),b]:=by
            intro x p b rx hp hb
            subst hN4
            walk_at "vx"
            refine ⟨⟨_,rfl⟩,by rw [List.length_map,sz];omega,?_⟩
            have:=(last x p b rx hp hb)
            rw [List.map_append] at this
            first | exact this.1 | exact this.2
          -- kind 3
          walk_at "vx"
          refine ⟨⟨rfl,rfl⟩,?_⟩
          split
          · refine ⟨Nat.zero_le _,⟨ok_pts pts,rfl⟩,?_⟩
            rw [ne_nil]
            by_cases hp0:pts = []
            · refine (if_neg (by simp [hp0])).mpr ?_
              exact k4 x p b rx hp hb
            · have h0:0 < pts.length:=List.length_pos_iff.mpr hp0
              refine (if_pos (by simp [hp0])).mpr ⟨⟨_,rfl⟩,rx,4,rfl,by decide,by decide,fun r y _ _ ry=>?_⟩
              walk_at "vx"
              refine ⟨⟨by rfl,rfl⟩,?_⟩
              split
              · rw [List.length_map]
                refine ⟨⟨_,rfl⟩,ry,_,rfl,by omega,by omega,fun r2 y2 q0 q1 ry2=>?_⟩
                have hj:r2.toNat < pts.length:=by omega
                walk_at "vx"
                refine ix_lst_at (n:=r2.toNat) (by omega) (pts_get hj) ?_
                rw [show ptD (pts.getD r2.toNat []) = .tup ((pts.getD r2.toNat []).map D.int) from rfl]
                exact k4 y2 _ b ry2 (hg.2 _ (getD_mem hj)).1 (hf _ (getD_mem hj))
              · exact k4 y p b ry hp hb
          · exact k4 x p b rx hp hb
        -- kind 2
        walk_at "vx"
        refine ⟨⟨rfl,rfl⟩,?_⟩
        split
        · refine ⟨Nat.zero_le _,⟨ok_pts pts,rfl⟩,?_⟩
          rw [ne_nil]
          by_cases hp0:pts = []
          · refine (if_neg (by simp [hp0])).mpr ?_
            exact k3 x p b rx hp hb
          · have h0:0 < pts.length:=List.length_pos_iff.mpr hp0
            refine (if_pos (by simp [hp0])).mpr ⟨⟨_,rfl⟩,rx,3,rfl,by decide,by decide,fun r y _ _ ry=>?_⟩
            walk_at "vx"
            split
            · rw [List.length_map]
              refine ⟨⟨_,rfl⟩,ry,_,rfl,by omega,by omega,fun r2 y2 q0 q1 ry2=>?_⟩
              have hj:r2.toNat < pts.length:=by omega
              walk_at "vx"
              refine ix_lst_at (n:=r2.toNat) (by omega) (pts_get hj) ?_
              rw [show ptD (pts.getD r2.toNat []) = .tup ((pts.getD r2.toNat []).map D.int) from rfl]
              walk_at "vx"
              have gl:=(hg.2 _ (getD_mem hj)).1
              have gf:=hf _ (getD_mem hj)
              generalize pts.getD r2.toNat [] = base at gl gf
              refine compIo_on D.int (fun d=>∃ v,d = .int v /\ Far v) ReelOk base (fun v hv z rz A Z hz ha=>?_) (by rw [sz];omega) ry2 (fun ds ys hl1 hd1 ry3=>?_)
              · walk_at "vx"
                refine ⟨by unfold CPow;decide,by unfold CPow;decide,⟨_,rfl⟩,rz,3,rfl,by decide,by decide,fun r3 z3 w0 w1 rz3=>?_⟩
                walk_at "vx"
                refine ⟨hz,ha _ _ ⟨_,rfl,?_⟩ rz3⟩
                unfold Far
                rw [show (10:Int) ^ Int.toNat 15 = 10 ^ 15 from rfl]
                split<;>split<;>omega
              · obtain ⟨p2,rfl,pl,pf⟩:=ints_ex ds hd1
                exact k3 ys p2 _ ry3 (by rw [pl,hl1,gl]) pf
            · exact k3 y p b ry hp hb
        · exact k3 x p b rx hp hb
      -- kind 1
      walk_at "vx"
      refine ⟨⟨rfl,rfl⟩,?_⟩
      split
      · refine ⟨by unfold CDivW;decide,⟨_,rfl⟩,?_⟩
        rw [ixN_zero (by rw [List.length_map];omega)]
        dsimp only
        have e:(p.map D.int).set 0 (D.int (0 - wide / 2)) = (p.set 0 (0 - wide / 2)).map D.int:=by rw [List.map_set]
        rw [e]
        refine k2 x _ b rx (by rw [List.length_set];exact hp) fun v hv=>?_
        rcases List.mem_or_eq_of_mem_set hv with hv | rfl
        · exact hb v hv
        · unfold Far;omega
      · exact k2 x p b rx hp hb
    -- the point
    walk_at "vx"
    rw [Int.toNat_natCast,rngD_map]
    refine ⟨by omega,compIo_on (fun i:Nat=>.int (0 + (i:Nat))) (fun d=>∃ v,d = .int v /\ Far v) ReelOk _ (fun v hv z rz A Z hz ha=>?_) (by rw [List.length_range,sz];omega) rx (fun ds ys hl1 hd1 ry3=>?_)⟩
    · walk_at "vx"
      refine ⟨⟨_,rfl⟩,rz,wide,rfl,by omega,by omega,fun r3 z3 w0 w1 rz3=>?_⟩
      walk_at "vx"
      refine ⟨by unfold CDivW;decide,hz,ha _ _ ⟨_,rfl,?_⟩ rz3⟩
      unfold Far
      omega
    · obtain ⟨p2,rfl,pl,pf⟩:=ints_ex ds hd1
      exact k1 ys p2 _ ry3 (by rw [pl,hl1,List.length_range]) pf
  · obtain ⟨x,pts,k,pt,b,rfl,rx,hl,hg,hf⟩:=hI
    subst hN
    rw [List.length_range] at hl
    walk_at "vx"
    exact ⟨by decide,h pts cnt x hg (by omega) rx⟩

noncomputable def okA:Nat -> D -> Bool
  | _,.non=>true
  | _,.int _=>true
  | n + 1,.tup xs=>decide (xs.length <= 1000000) && xs.all (okA n)
  | n + 1,.lst xs=>decide (xs.length <= 1000000) && xs.all (okA n)
  | _,_=>false
noncomputable def sp_alike:Nat -> FSp
  | 0=>fun _ _=>False
  | n + 1=>fun ds Q=>∃ x,ds = [x,x] /\ okA n x = true /\ Q (.sh (.bl true))
theorem eqD_int' (i:Int):eqD (.int i) (.int i) = true:=by simp [eqD]
theorem p_alike (n:Nat) (ds:List D) (Q:B -> Prop) (h:sp_alike (n + 1) ds Q):t_q13 (sp_alike n) { nx:=fun _=>Q (.sh .non),rt:=fun b _=>Q b } (startD N_q13.length ds):=by
  obtain ⟨x,rfl,ok,h⟩:=h
  unfold t_q13
  cases x with
  | non =>
    refine tSq_step fun N hN=>?_
    walk_at "vx"
    exact h
  | int i =>
    refine tSq_step fun N hN=>?_
    walk_at "vx"
    try refine (if_neg (by decide)).mpr ?_
    subst hN
    refine tSq_step fun N hN=>?_
    walk_at "vx"
    try refine (if_neg (by decide)).mpr ?_
    subst hN
    refine tSq_step fun N hN=>?_
    walk_at "vx"
    refine (if_pos (by decide)).mpr ((if_pos (by decide)).mpr ((if_pos (by decide)).mpr ⟨⟨rfl,rfl⟩,?_⟩))
    rw [eqD_int'];exact h
  | tup xs =>
    cases n with
    | zero=>cases ok
    | succ n =>
      have ok':(decide (xs.length <= 1000000) && xs.all (okA n)) = true:=ok
      rw [Bool.and_eq_true] at ok'
      have hl:=of_decide_eq_true ok'.1
      have ha:=List.all_eq_true.mp ok'.2
      refine tSq_step fun N hN=>?_
      walk_at "vx"
      try refine (if_neg (by decide)).mpr ?_
      subst hN
      refine tSq_step fun N hN=>?_
      walk_at "vx"
      try refine (if_neg (by decide)).mpr ?_
      subst hN
      refine tSq_step fun N hN=>?_
      walk_at "vx"
      try refine (if_neg (by decide)).mpr ?_
      subst hN
      refine tSq_step fun N hN=>?_
      walk_at "vx"
      try refine (if_neg (by decide)).mpr ?_
      subst hN
      refine tSq_step fun N hN=>?_
      walk_at "vx"
      refine (if_pos (by decide)).mpr ((if_neg (by decide)).mpr ?_)
      subst hN
      refine tSq_step fun N hN=>?_
      walk_at "vx"
      refine ⟨⟨rfl,rfl⟩,(if_neg (by rw [eqD_int'];decide)).mpr ?_⟩
      subst hN
      refine tSq_step fun N0 hN0=>?_
      walk_at "vx"
      refine ⟨by omega,?_⟩
      rw [Int.toNat_natCast,rngD_map]
      refine forD_on (fun i:Nat=>.int (0 + (i:Nat))) (List.range xs.length) (fun i σ=>∃ k,σ = [some (.sh (.tup xs)),some (.sh (.tup xs)),k]) (fun i a σ N hx hI hN=>?_) (fun σ hI=>?_) ⟨none,rfl⟩
      · obtain ⟨rfl,hi⟩:=range_get hx
        obtain ⟨k,rfl⟩:=hI
        walk_at "vg"
        walk_at "vx"
        refine ix_tup_at (n:=a) rfl (List.getElem?_eq_getElem hi) ?_
        refine ix_tup_at (n:=a) rfl (List.getElem?_eq_getElem hi) ?_
        walk_at "vx"
        refine ⟨_,rfl,ha _ (List.getElem_mem hi),?_⟩
        walk_at "vx"
        exact hN _ ⟨_,rfl⟩
      · obtain ⟨k,rfl⟩:=hI
        subst hN0
        walk_at "vx"
        exact h
  | lst xs =>
    cases n with
    | zero=>cases ok
    | succ n =>
      have ok':(decide (xs.length <= 1000000) && xs.all (okA n)) = true:=ok
      rw [Bool.and_eq_true] at ok'
      have hl:=of_decide_eq_true ok'.1
      have ha:=List.all_eq_true.mp ok'.2
      refine tSq_step fun N hN=>?_
      walk_at "vx"
      try refine (if_neg (by decide)).mpr ?_
      subst hN
      refine tSq_step fun N hN=>?_
      walk_at "vx"
      try refine (if_neg (by decide)).mpr ?_
      subst hN
      refine tSq_step fun N hN=>?_
      walk_at "vx"
      try refine (if_neg (by decide)).mpr ?_
      subst hN
      refine tSq_step fun N hN=>?_
      walk_at "vx"
      try refine (if_neg (by decide)).mpr ?_
      subst hN
      refine tSq_step fun N hN=>?_
      walk_at "vx"
      refine (if_neg (by decide)).mpr ((if_neg (by decide)).mpr ?_)
      subst hN
      refine tSq_step fun N hN=>?_
      walk_at "vx"
      refine ⟨⟨rfl,rfl⟩,(if_neg (by rw [eqD_int'];decide)).mpr ?_⟩
      subst hN
      refine tSq_step fun N0 hN0=>?_
      walk_at "vx"
      refine ⟨by omega,?_⟩
      rw [Int.toNat_natCast,rngD_map]
      refine forD_on (fun i:Nat=>.int (0 + (i:Nat))) (List.range xs.length) (fun i σ=>∃ k,σ = [some (.sh (.lst xs)),some (.sh (.lst xs)),k]) (fun i a σ N hx hI hN=>?_) (fun σ hI=>?_) ⟨none,rfl⟩
      · obtain ⟨rfl,hi⟩:=range_get hx
        obtain ⟨k,rfl⟩:=hI
        walk_at "vg"
        walk_at "vx"
        refine ix_lst_at (n:=a) rfl (List.getElem?_eq_getElem hi) ?_
        refine ix_lst_at (n:=a) rfl (List.getElem?_eq_getElem hi) ?_
        walk_at "vx"
        refine ⟨_,rfl,ha _ (List.getElem_mem hi),?_⟩
        walk_at "vx"
        exact hN _ ⟨_,rfl⟩
      · obtain ⟨k,rfl⟩:=hI
        subst hN0
        walk_at "vx"
        exact h
  | str _=>cases n<;>cases ok
  | bl _=>cases n<;>cases ok
  | dct _=>cases n<;>cases ok
  | exc _=>cases n<;>cases ok
  | scr _=>cases n<;>cases ok
noncomputable def colD (b:Bool) (pts:List (List Int)) (j:Nat):List D:=(List.range j).map fun i=>pairD b pts i j
noncomputable def colsD (b:Bool) (pts:List (List Int)):Nat -> List D
  | 0=>[]
  | j + 1=>colsD b pts j ++ colD b pts j
theorem cols_len (b:Bool) (pts:List (List Int)):∀ j,(colsD b pts j).length <= j * j
  | 0=>Nat.zero_le _
  | j + 1=>by
    have ih:=cols_len b pts j
    show (colsD b pts j ++ colD b pts j).length <= _
    rw [List.length_append,colD,List.length_map,List.length_range,Nat.succ_mul,Nat.mul_succ]
    omega
noncomputable def rowsN (b:Bool) (pts:List (List Int)) (n:Nat):Nat -> List D
  | 0=>[]
  | i + 1=>rowsN b pts n i ++ rowD b pts i (n - (i + 1))
theorem rowsN_eq (b:Bool) (pts:List (List Int)):∀ i,rowsN b pts pts.length i = rowsD b pts i
  | 0=>rfl
  | i + 1=>by show rowsN b pts pts.length i ++ _ = rowsD b pts i ++ _;rw [rowsN_eq b pts i]
theorem perm4 {α:Type} (A C R X:List α):((A ++ C) ++ (R ++ X)).Perm ((A ++ R) ++ (C ++ X)):=by
  rw [List.append_assoc,List.append_assoc]
  refine List.Perm.append_left A ?_
  rw [<- List.append_assoc,<- List.append_assoc]
  exact List.Perm.append_right X List.perm_append_comm
theorem rows_step (b:Bool) (pts:List (List Int)) (n:Nat):∀ i,i <= n -> (rowsN b pts (n + 1) i).Perm (rowsN b pts n i ++ (List.range i).map fun t=>pairD b pts t n)
  | 0,_=>List.Perm.refl _
  | i + 1,h=>by
    have ih:=rows_step b pts n i (by omega)
    show (rowsN b pts (n + 1) i ++ rowD b pts i (n + 1 - (i + 1))).Perm ((rowsN b pts n i ++ rowD b pts i (n - (i + 1))) ++ (List.range (i + 1)).map fun t=>pairD b pts t n)
    rw [show n + 1 - (i + 1) = n - (i + 1) + 1 by omega,rowD_succ,show i + 1 + (n - (i + 1)) = n by omega,List.range_succ,List.map_append]
    exact (List.Perm.append_right _ ih).trans (perm4 _ _ _ _)
theorem cols_perm (b:Bool) (pts:List (List Int)):∀ n,(colsD b pts n).Perm (rowsN b pts n n)
  | 0=>List.Perm.refl _
  | n + 1=>by
    have ih:=cols_perm b pts n
    show (colsD b pts n ++ colD b pts n).Perm (rowsN b pts (n + 1) n ++ rowD b pts n (n + 1 - (n + 1)))
    rw [Nat.sub_self,show rowD b pts n 0 = [] from rfl,List.append_nil]
    exact (List.Perm.append_right _ ih).trans (rows_step b pts n n (Nat.le_refl _)).symm
theorem cols_pairs (b:Bool) (pts:List (List Int)):(colsD b pts pts.length).Perm (pairsD b pts):=by
  have:=cols_perm b pts pts.length
  rwa [rowsN_eq] at this
theorem sort_cols (b:Bool) (pts:List (List Int)):sortD (colsD b pts pts.length) = sortD (pairsD b pts) :=
  sortD_eq (pairs_intT b pts) ((sortD_perm _).trans (cols_pairs b pts)) (sortD_sorted _)
theorem cols_intT (b:Bool) (pts:List (List Int)):(colsD b pts pts.length).all intT = true:=List.all_eq_true.mpr fun d hd =>
  List.all_eq_true.mp (pairs_intT b pts) d ((cols_pairs b pts).mem_iff.mp hd)
noncomputable def sp_lpairs:FSp:=fun ds Q=>∃ b n pts,ds = [ptsD pts,wayD b] /\ Good n pts /\ pts.length <= 1000 /\ Q (.own (sortD (pairsD b pts)))
theorem p_lpairs (ds:List D) (Q:B -> Prop) (h:sp_lpairs ds Q):t_q14 sp_far { nx:=fun _=>Q (.sh .non),rt:=fun b _=>Q b } (startD N_q14.length ds):=by
  obtain ⟨b,n,pts,rfl,hg,hl,h⟩:=h
  unfold t_q14
  refine tSq_step fun N hN=>?_
  walk_at "vx"
  refine ⟨by decide,?_⟩
  subst hN
  refine tSq_step fun N hN=>?_
  rw [show ptsD pts = .lst (pts.map ptD) from rfl]
  walk_at "vx"
  rw [enumD_map]
  refine forD_on (fun q:Nat × List Int=>.tup [.int (q.1:Nat),ptD q.2]) _ (fun i σ=>∃ x3 x4,σ = [some (.sh (.lst (pts.map ptD))),some (.sh (wayD b)),some (.own (colsD b pts i)),x3,x4]) (fun i q σ N' hx hI hN'=>?_) (fun σ hI=>?_) ⟨none,none,rfl⟩
  · obtain ⟨x3,x4,rfl⟩:=hI
    obtain ⟨e1,e2⟩:=enum_get hx
    obtain ⟨j,r⟩:=q
    cases e1
    have e2:pts[j]? = some r:=e2
    have hj:j < pts.length:=(List.getElem?_eq_some_iff.mp e2).1
    have hr:r = pts.getD j []:=by rw [List.getD_eq_getElem?_getD,e2];rfl
    walk_at "vg"
    walk_at "vx"
    rw [Int.toNat_natCast,rngD_map]
    refine ⟨⟨_,rfl⟩,by omega,compD_onM (fun i:Nat=>.int (0 + (i:Nat))) (fun i=>pairD b pts i j) _ (fun i hi A ha=>?_) (by rw [List.length_range,sz];omega) ?_⟩
    · have hi:=List.mem_range.mp hi
      walk_at "vx"
      rw [Int.zero_add]
      refine ix_lst_at (n:=i) rfl (pts_get (by omega)) ?_
      walk_at "vx"
      refine ⟨b,_,r,rfl,hg.bd (getD_mem (by omega)),hg.bd (List.mem_of_getElem? e2),?_⟩
      walk_at "vx"
      refine ⟨by decide,?_⟩
      unfold pairD at ha
      rw [<- hr] at ha
      exact ha
    · have hz:=cols_len b pts j
      have hz2:j * j <= 1000 * 1000:=Nat.mul_le_mul (by omega) (by omega)
      refine ⟨by rw [List.length_map,List.length_range,sz];omega,hN' _ ⟨some (.sh (.int (j:Nat))),some (.sh (ptD r)),rfl⟩⟩
  · obtain ⟨x3,x4,rfl⟩:=hI
    subst hN
    rw [List.length_mapIdx]
    walk_at "vx"
    refine ⟨cols_intT b pts,?_⟩
    rw [sort_cols]
    exact h

noncomputable def trD (t:Int × Nat × Nat):D:=.tup [.int t.1,.int (t.2.1:Nat),.int (t.2.2:Nat)]
theorem tr_ex {b:Bool} {pts:List (List Int)}:∀ l:List D,(∀ d ∈ l,∃ i j,d = pairD b pts i j) -> ∃ ts:List (Int × Nat × Nat),l = ts.map trD
  | [],_=>⟨[],rfl⟩
  | d :: l,h=>by
    obtain ⟨i,j,rfl⟩:=h d (List.mem_cons_self ..)
    obtain ⟨ts,e⟩:=tr_ex l fun x hx=>h x (List.mem_cons_of_mem _ hx)
    exact ⟨(_,i,j) :: ts,by rw [e];rfl⟩
theorem pairs_tr (b:Bool) (pts:List (List Int)):∃ ts:List (Int × Nat × Nat),pairsD b pts = ts.map trD:=tr_ex (b:=b) (pts:=pts) _ fun d hd=>by
  obtain ⟨p,q,_,_,h⟩:=pairs_mem hd
  exact ⟨p,q,h⟩
theorem spairs_tr (b:Bool) (pts:List (List Int)):∃ ts:List (Int × Nat × Nat),sortD (pairsD b pts) = ts.map trD:=tr_ex (b:=b) (pts:=pts) _ fun d hd=>by
  obtain ⟨p,q,_,_,h⟩:=pairs_mem ((sortD_perm _).mem_iff.mp hd)
  exact ⟨p,q,h⟩
noncomputable def nearF (bound:Int):D -> Option D
  | .tup [.int f,.int i,.int j]=>if f <= bound then some (.tup [.int i,.int j]) else none
  | _=>none
theorem nearF_tr (bound:Int) (t:Int × Nat × Nat):nearF bound (trD t) = if decide (t.1 <= bound) = true then some (.tup [.int (t.2.1:Nat),.int (t.2.2:Nat)]) else none:=by
  show (if t.1 <= bound then _ else _) = _
  by_cases h:t.1 <= bound
  · rw [if_pos h,if_pos (decide_eq_true h)]
  · rw [if_neg h,if_neg (by rw [decide_eq_false h];decide)]
noncomputable def nearL (b:Bool) (pts:List (List Int)) (bound:Int):List D:=(pairsD b pts).filterMap (nearF bound)
noncomputable def ByPl (b:Bool) (pts:List (List Int)) (d d':D):Prop:=∃ i j i' j':Nat,d = pairD b pts i j /\ d' = pairD b pts i' j' /\ (i < i' \/ (i = i' /\ j < j'))
theorem near_len (b:Bool) (pts:List (List Int)) (bound:Int):(nearL b pts bound).length <= (pairsD b pts).length:=List.length_filterMap_le _ _
noncomputable def sp_nbound:FSp:=fun ds Q=>∃ j:Int,ds = [.int j] /\ 0 <= j /\ Q (.sh .non)
theorem p_nbound (ds:List D) (Q:B -> Prop) (h:sp_nbound ds Q):t_q11 { nx:=fun _=>Q (.sh .non),rt:=fun b _=>Q b } (startD N_q11.length ds):=by
  obtain ⟨j,rfl,hj,h⟩:=h
  unfold t_q11
  walk_at "vx"
  rw [if_neg (by omega)]
  exact h
noncomputable def sp_near:FSp:=fun ds Q=>∃ b n pts j,ds = [ptsD pts,wayD b,.int j] /\ Good n pts /\ pts.length <= 1000 /\ 0 <= j /\ Q (.own (nearL b pts j))
theorem p_near (ds:List D) (Q:B -> Prop) (h:sp_near ds Q):t_q10 sp_npw sp_nbound sp_pairs { nx:=fun _=>Q (.sh .non),rt:=fun b _=>Q b } (startD N_q10.length ds):=by
  obtain ⟨b,n,pts,j,rfl,hg,hl,hj,h⟩:=h
  unfold t_q10
  refine tSq_step fun N hN=>?_
  walk_at "vx"
  refine ⟨n,b,pts,rfl,hg.shape,?_⟩
  walk_at "vx"
  subst hN
  refine tSq_step fun N hN=>?_
  walk_at "vx"
  refine ⟨j,rfl,hj,?_⟩
  walk_at "vx"
  subst hN
  walk_at "vx"
  refine ⟨b,n,pts,rfl,hg,hl,?_⟩
  walk_at "vx"
  have hz:=pairs_le (b:=b) hl
  obtain ⟨ts,e⟩:=pairs_tr b pts
  unfold nearL at h
  rw [e] at h hz ⊢
  rw [List.length_map] at hz
  refine compD_on trD (fun t=>nearF j (trD t)) ts (fun t ht A Bn ha=>?_) (by rw [sz];omega) ?_
  · rw [nearF_tr] at ha
    unfold trD
    walk_at "vx"
    by_cases hb:t.1 <= j
    · rw [if_pos (decide_eq_true hb)] at ha
      refine (if_pos hb).mpr ⟨by decide,ha⟩
    · rw [if_neg (by rw [decide_eq_false hb];decide)] at ha
      exact (if_neg hb).mpr ha
  · rw [List.filterMap_map] at h
    exact h

noncomputable def sp_bounds:FIo:=fun xs ds Q=>ReelOk xs /\ ∃ b pts,ds = [.lst (sortD (pairsD b pts)),.int 0] /\ pts.length <= 1000 /\ ∀ (js:List Int) ys,(∀ j ∈ js,0 <= j) -> ReelOk ys -> Q (.own (js.map D.int)) ys
theorem p_bounds (xs ds:List D) (Q:B -> List D -> Prop) (h:sp_bounds xs ds Q):t_q7 sp_take { nx:=ioQ Q (.sh .non),rt:=fun b σ=>ioQ Q b σ } (startIo N_q7.length xs ds):=by
  obtain ⟨r0,b,pts,rfl,hl,h⟩:=h
  have hz:=pairs_le (b:=b) hl
  have hz2:=(sortD_perm (pairsD b pts)).length_eq
  obtain ⟨ts,e⟩:=spairs_tr b pts
  rw [e] at hz2 ⊢
  rw [List.length_map] at hz2
  unfold t_q7
  -- far
  refine tSq_step fun N hN=>?_
  walk_at "vx"
  rw [List.length_map]
  refine ⟨by decide,by decide,by rw [sz];omega,⟨_,rfl⟩,r0,_,rfl,by omega,by omega,fun a1 x1 a10 a11 r1=>?_⟩
  walk_at "vx"
  refine ix_lst_all a10 (by rw [List.length_cons,List.length_map];omega) fun d hd=>?_
  obtain ⟨far,i,j,rfl⟩:∃ f i j,d = .tup [.int f,.int i,.int j]:=by
    rcases List.mem_cons.mp hd with rfl | hd
    · exact ⟨_,_,_,rfl⟩
    · obtain ⟨t,_,rfl⟩:=List.mem_map.mp hd
      exact ⟨_,_,_,rfl⟩
  refine ix_tup_at (n:=0) rfl rfl ?_
  walk_at "vx"
  subst hN
  -- ends
  refine tSq_step fun N hN=>?_
  walk_at "vx"
  rw [cut_map,cut_map,<- List.map_append]
  have hc1:=cut_len ts none (some 1)
  have hc2:=cut_len ts (some (-1)) none
  rw [List.length_map,List.length_map]
  refine ⟨by rw [sz];omega,?_⟩
  refine compD_onM trD (fun t=>.int t.1) _ (fun t ht A ha=>?_) (by rw [List.length_append,sz];omega) ?_
  · unfold trD
    walk_at "vx"
    refine ix_tup_at (n:=0) rfl rfl ?_
    walk_at "vx"
    exact ha
  walk_at "vx"
  generalize hen:(cut ts none (some 1) ++ cut ts (some (-1)) none) = en
  have hel:en.length <= 2000000:=by rw [<- hen,List.length_append];omega
  clear hen hc1 hc2
  subst hN
  -- some
  refine tSq_step fun N hN=>?_
  walk_at "vx"
  refine ⟨⟨_,rfl⟩,r1,12,rfl,by decide,by decide,fun a2 x2 _ _ r2=>?_⟩
  walk_at "vx"
  refine ⟨⟨_,rfl⟩,by unfold CPow;decide,r2,_,rfl,by decide,by decide,fun a3 x3 _ _ r3=>?_⟩
  walk_at "vx"
  refine ⟨by unfold CPow;decide,by decide,?_⟩
  subst hN
  -- what is told
  walk_at "vx"
  rw [List.length_map]
  refine ⟨by rw [sz];omega,?_⟩
  rw [show (D.int 0 :: D.int (0 + 1) :: D.int a2 :: D.int far :: D.int (far + 1) :: D.int (far - 1) :: D.int a3 :: D.int (10 ^ Int.toNat 34 - 1) :: List.map (fun t:Int × Nat × Nat=>D.int t.1) en) = (0 :: (0 + 1) :: a2 :: far :: (far + 1) :: (far - 1) :: a3 :: (10 ^ Int.toNat 34 - 1) :: en.map fun t=>t.1).map D.int from by simp only [List.map_cons,List.map_map];rfl]
  refine compD_onM D.int (fun j=>D.int (if (if j < 10 ^ Int.toNat 34 - 1 then j else 10 ^ Int.toNat 34 - 1) > 0 then (if j < 10 ^ Int.toNat 34 - 1 then j else 10 ^ Int.toNat 34 - 1) else 0)) _ (fun j hj A ha=>?_) (by simp only [List.length_cons,List.length_map];rw [sz];omega) ?_
  · walk_at "vx"
    exact ⟨by unfold CPow;decide,ha⟩
  · have:=h ((0 :: (0 + 1) :: a2 :: far :: (far + 1) :: (far - 1) :: a3 :: (10 ^ Int.toNat 34 - 1) :: en.map fun t=>t.1).map fun j=>(if (if j < 10 ^ Int.toNat 34 - 1 then j else 10 ^ Int.toNat 34 - 1) > 0 then (if j < 10 ^ Int.toNat 34 - 1 then j else 10 ^ Int.toNat 34 - 1) else 0)) x3 (fun j hj=>by
      obtain ⟨i,_,rfl⟩:=List.mem_map.mp hj
      split<;>omega) r3
    rw [List.map_map] at this
    exact this

noncomputable def hasK (k:Nat):D -> Bool
  | .tup [.int i,.int j]=>decide (i = k) || decide (j = k)
  | _=>false
noncomputable def nearK (bound:Int) (k:Nat) (d:D):Bool:=((nearF bound d).map (hasK k)).getD false
noncomputable def cntL (n:Nat) (c:Nat -> Nat):List D:=(List.range n).map fun k=>.int (c k:Nat)
theorem cntL_len (n:Nat) (c:Nat -> Nat):(cntL n c).length = n:=by unfold cntL;rw [List.length_map,List.length_range]
theorem cntL_get {n k:Nat} (c:Nat -> Nat) (h:k < n):(cntL n c)[k]? = some (.int (c k:Nat)):=by
  unfold cntL;rw [List.getElem?_map,List.getElem?_range h];rfl
theorem cntL_set {n k:Nat} (c:Nat -> Nat) (m:Nat) (h:k < n):(cntL n c).set k (.int (m:Nat)) = cntL n fun x=>if x = k then m else c x:=by
  apply List.ext_getElem?
  intro i
  by_cases hi:i < n
  · rw [cntL_get _ hi]
    by_cases e:i = k
    · subst e
      rw [List.getElem?_set_self (by rw [cntL_len];exact hi),if_pos rfl]
    · rw [List.getElem?_set_ne (Ne.symm e),cntL_get _ hi,if_neg e]
  · rw [List.getElem?_eq_none (by rw [List.length_set,cntL_len];omega),List.getElem?_eq_none (by rw [cntL_len];omega)]
noncomputable def countsD (b:Bool) (pts:List (List Int)) (bound:Int):List D:=cntL pts.length fun k=>(pairsD b pts).countP (nearK bound k)
noncomputable def sp_counts:FSp:=fun ds Q=>∃ b n pts j,ds = [ptsD pts,wayD b,.int j] /\ Good n pts /\ pts.length <= 1000 /\ 0 <= j /\ Q (.own (countsD b pts j))
theorem near_pr (b:Bool) (pts:List (List Int)) (bound:Int):∃ ps:List (Nat × Nat),nearL b pts bound = ps.map (fun p=>D.tup [.int (p.1:Nat),.int (p.2:Nat)]) /\ ∀ p ∈ ps,p.1 < p.2 /\ p.2 < pts.length:=by
  have:∀ l:List D,(∀ d ∈ l,∃ p:Nat × Nat,d = .tup [.int (p.1:Nat),.int (p.2:Nat)] /\ p.1 < p.2 /\ p.2 < pts.length) -> ∃ ps:List (Nat × Nat),l = ps.map (fun p=>D.tup [.int (p.1:Nat),.int (p.2:Nat)]) /\ ∀ p ∈ ps,p.1 < p.2 /\ p.2 < pts.length:=by
    intro l
    induction l with
    | nil=>intro _;exact ⟨[],rfl,fun p hp=>by cases hp⟩
    | cons d l ih =>
      intro h
      obtain ⟨p,rfl,hp⟩:=h d (List.mem_cons_self ..)
      obtain ⟨ps,e,hps⟩:=ih fun x hx=>h x (List.mem_cons_of_mem _ hx)
      refine ⟨p :: ps,by rw [e];rfl,fun x hx=>?_⟩
      rcases List.mem_cons.mp hx with rfl | hx
      · exact hp
      · exact hps x hx
  refine this _ fun d hd=>?_
  obtain ⟨x,hx,h⟩:=List.mem_filterMap.mp hd
  obtain ⟨p,q,h1,h2,rfl⟩:=pairs_mem hx
  have:(if farI b (pts.getD p []) (pts.getD q []) <= bound then some (D.tup [.int (p:Nat),.int (q:Nat)]) else none) = some d:=h
  split at this
  · exact ⟨(p,q),(Option.some.inj this).symm,h1,h2⟩
  · cases this
noncomputable def MO (nr:Int -> Int -> Bool):Nat -> List Int -> List Int
  | 0,_=>[]
  | _ + 1,[]=>[]
  | k + 1,x :: r=>if (MO nr k r).length <= (x :: MO nr k (r.filter fun y=>!nr x y)).length then x :: MO nr k (r.filter fun y=>!nr x y) else MO nr k r
theorem MO_best (nr:Int -> Int -> Bool):∀ (k:Nat) (l:List Int),l.length <= k -> l.Pairwise (fun x y:Int=>x < y) ->
    (MO nr k l).Sublist l /\ (MO nr k l).Pairwise (fun x y=>nr x y = false) /\ ∀ qs:List Int,qs.Sublist l -> qs.Pairwise (fun x y=>nr x y = false) -> qs.length <= (MO nr k l).length /\ (qs.length = (MO nr k l).length -> HT.lexLt qs (MO nr k l) = false)
  | 0,l,h,_=>by
    have:l = []:=List.length_eq_zero_iff.mp (by omega)
    subst this
    refine ⟨List.Sublist.refl _,List.Pairwise.nil,fun qs hq _=>?_⟩
    have:=List.eq_nil_of_sublist_nil hq
    subst this
    exact ⟨Nat.le_refl _,fun _=>rfl⟩
  | k + 1,[],_,_=>by
    refine ⟨List.Sublist.refl _,List.Pairwise.nil,fun qs hq _=>?_⟩
    have:=List.eq_nil_of_sublist_nil hq
    subst this
    exact ⟨Nat.le_refl _,fun _=>rfl⟩
  | k + 1,x :: r,h,hp=>by
    rw [List.length_cons] at h
    rw [List.pairwise_cons] at hp
    have hfl:(r.filter fun y=>!nr x y).length <= r.length:=List.length_filter_le _ _
    have hfs:(r.filter fun y=>!nr x y).Sublist r:=List.filter_sublist
    obtain ⟨s1,p1,b1⟩:=MO_best nr k (r.filter fun y=>!nr x y) (by omega) (hp.2.sublist hfs)
    obtain ⟨s2,p2,b2⟩:=MO_best nr k r (by omega) hp.2
    have pt:(x :: MO nr k (r.filter fun y=>!nr x y)).Pairwise (fun x y=>nr x y = false):=by
      rw [List.pairwise_cons]
      refine ⟨fun y hy=>?_,p1⟩
      have:=(List.mem_filter.mp (s1.subset hy)).2
      simpa using this
    have key:∀ qs:List Int,qs.Sublist (x :: r) -> qs.Pairwise (fun x y=>nr x y = false) -> (qs.Sublist r \/ ∃ q',qs = x :: q' /\ q'.Sublist (r.filter fun y=>!nr x y) /\ q'.Pairwise (fun x y=>nr x y = false)):=by
      intro qs hq hi
      cases hq with
      | cons _ hq=>exact .inl hq
      | cons_cons _ hq =>
        rename_i q'
        rw [List.pairwise_cons] at hi
        refine .inr ⟨q',rfl,?_,hi.2⟩
        have:q'.filter (fun y=>!nr x y) = q':=List.filter_eq_self.mpr fun y hy=>by rw [hi.1 y hy];rfl
        rw [<- this]
        exact hq.filter _
    show (if (MO nr k r).length <= (x :: MO nr k (r.filter fun y=>!nr x y)).length then x :: MO nr k (r.filter fun y=>!nr x y) else MO nr k r).Sublist (x :: r) /\ _
    rw [show MO nr (k + 1) (x :: r) = if (MO nr k r).length <= (x :: MO nr k (r.filter fun y=>!nr x y)).length then x :: MO nr k (r.filter fun y=>!nr x y) else MO nr k r from rfl]
    by_cases hc:(MO nr k r).length <= (x :: MO nr k (r.filter fun y=>!nr x y)).length
    · rw [if_pos hc]
      refine ⟨(s1.trans hfs).cons_cons x,pt,fun qs hq hi=>?_⟩
      rcases key qs hq hi with h1 | ⟨q',rfl,h1,h2⟩
      · obtain ⟨c1,c2⟩:=b2 qs h1 hi
        refine ⟨by omega,fun e=>?_⟩
        cases qs with
        | nil=>simp at e
        | cons q qs =>
          have:x < q:=hp.1 q (h1.subset (List.mem_cons_self ..))
          rw [HT.lexLt_cons,if_neg (by omega),decide_eq_false (by omega)]
      · obtain ⟨c1,c2⟩:=b1 q' h1 h2
        rw [List.length_cons,List.length_cons]
        refine ⟨by omega,fun e=>?_⟩
        rw [HT.lexLt_cons,if_pos rfl]
        exact c2 (by omega)
    · rw [if_neg hc]
      refine ⟨s2.cons x,p2,fun qs hq hi=>?_⟩
      rcases key qs hq hi with h1 | ⟨q',rfl,h1,h2⟩
      · exact b2 qs h1 hi
      · obtain ⟨c1,c2⟩:=b1 q' h1 h2
        rw [List.length_cons] at hc ⊢
        exact ⟨by omega,fun e=>by omega⟩
noncomputable def keyL (ps:List Int):List Int:=-(ps.length:Int) :: ps
theorem keyL_best {a b:List Int} (h1:a.length <= b.length) (h2:a.length = b.length -> HT.lexLt a b = false):HT.lexLt (keyL a) (keyL b) = false:=by
  unfold keyL
  rw [HT.lexLt_cons]
  by_cases e:a.length = b.length
  · rw [if_pos (by omega)];exact h2 e
  · rw [if_neg (by omega),decide_eq_false (by omega)]
theorem keyL_inj {a b:List Int} (h1:HT.lexLt (keyL a) (keyL b) = false) (h2:HT.lexLt (keyL b) (keyL a) = false):a = b:=by
  have:=Vs.lx_tri _ _ h1 h2
  unfold keyL at this
  simp only [List.cons.injEq] at this
  exact this.2
noncomputable def pl (n b:Nat):List Int:=((List.range n).filter fun i=>b.testBit i).map fun i:Nat=>(i:Int)
noncomputable def rngI (n:Nat):List Int:=(List.range n).map fun i:Nat=>(i:Int)
theorem rngI_pw (n:Nat):(rngI n).Pairwise fun x y:Int=>x < y:=by
  unfold rngI
  rw [List.pairwise_map]
  exact List.pairwise_lt_range.imp fun h=>by omega
theorem pl_sub (n b:Nat):(pl n b).Sublist (rngI n):=(List.filter_sublist).map _
theorem pl_of:∀ (n:Nat) (qs:List Nat),qs.Sublist (List.range n) -> ∃ b,b < 2 ^ n /\ (List.range n).filter (fun i=>b.testBit i) = qs
  | 0,qs,h=>by
    have:=List.eq_nil_of_sublist_nil h
    subst this
    exact ⟨0,by decide,rfl⟩
  | n + 1,qs,h=>by
    rw [List.range_succ] at h
    obtain ⟨q1,q2,rfl,h1,h2⟩:=List.sublist_append_iff.mp h
    obtain ⟨b,hb,e⟩:=pl_of n q1 h1
    have hq2:q2 = [] \/ q2 = [n]:=by
      cases h2 with
      | cons _ h2=>exact .inl (List.eq_nil_of_sublist_nil h2)
      | cons_cons _ h2=>rw [List.eq_nil_of_sublist_nil h2];exact .inr rfl
    rcases hq2 with rfl | rfl
    · refine ⟨b,by rw [Nat.pow_succ];omega,?_⟩
      rw [List.range_succ,List.filter_append,e,List.filter_cons,Nat.testBit_lt_two_pow hb]
      rfl
    · refine ⟨2 ^ n + b,by rw [Nat.pow_succ];omega,?_⟩
      rw [List.range_succ,List.filter_append,List.filter_cons,Nat.testBit_two_pow_add_eq,Nat.testBit_lt_two_pow hb]
      congr 1
      rw [<- e]
      refine List.filter_congr fun i hi=>?_
      exact Nat.testBit_two_pow_add_gt (List.mem_range.mp hi) b
theorem pl_ex {n:Nat} {qs:List Int} (h:qs.Sublist (rngI n)):∃ b,b < 2 ^ n /\ pl n b = qs:=by
  obtain ⟨l,h1,rfl⟩:=List.sublist_map_iff.mp h
  obtain ⟨b,hb,e⟩:=pl_of n l h1
  exact ⟨b,hb,by unfold pl;rw [e]⟩
theorem pw_all {α:Type} {R:α -> α -> Prop} (hs:∀ x y,R x y -> R y x) (hr:∀ x,R x x):∀ l:List α,l.Pairwise R -> ∀ x ∈ l,∀ y ∈ l,R x y
  | [],_,_,hx,_,_=>by cases hx
  | a :: l,h,x,hx,y,hy=>by
    rw [List.pairwise_cons] at h
    rcases List.mem_cons.mp hx with rfl | hx
    · rcases List.mem_cons.mp hy with rfl | hy
      · exact hr _
      · exact h.1 y hy
    · rcases List.mem_cons.mp hy with e | hy
      · rw [e];exact hs _ _ (h.1 x hx)
      · exact pw_all hs hr l h.2 x hx y hy
noncomputable def Ind (nr:Int -> Int -> Bool) (b:Nat):Prop:=∀ i j:Nat,i < j -> b.testBit i = true -> b.testBit j = true -> nr i j = false
theorem ind_pl {nr:Int -> Int -> Bool} {n b:Nat} (h:Ind nr b):(pl n b).Pairwise fun x y=>nr x y = false:=by
  unfold pl
  rw [List.pairwise_map]
  refine List.Pairwise.imp_of_mem (R:=fun x y:Nat=>x < y) (fun {x y} hx hy hxy=>?_) (List.pairwise_lt_range.sublist List.filter_sublist)
  exact h x y hxy (List.mem_filter.mp hx).2 (List.mem_filter.mp hy).2
theorem pl_ind {nr:Int -> Int -> Bool} {n b:Nat} (hb:b < 2 ^ n) (h:(pl n b).Pairwise fun x y=>nr x y = false):Ind nr b:=by
  unfold pl at h
  rw [List.pairwise_map] at h
  have hl:((List.range n).filter fun i=>b.testBit i).Pairwise (fun x y:Nat=>x < y):=List.pairwise_lt_range.sublist List.filter_sublist
  intro i j hij hi hj
  have lt:∀ {i},b.testBit i = true -> i ∈ (List.range n).filter fun i=>b.testBit i:=fun {i} hi=>by
    refine List.mem_filter.mpr ⟨List.mem_range.mpr ?_,hi⟩
    apply Nat.lt_of_not_le
    intro z
    rw [Nat.testBit_lt_two_pow (Nat.lt_of_lt_of_le hb (Nat.pow_le_pow_right (by decide) z))] at hi
    cases hi
  have:=(hl.and h).imp (S:=fun x y:Nat=>(x < y -> nr x y = false) /\ (y < x -> nr y x = false)) fun {x y} z=>⟨fun _=>z.2,fun w=>by omega⟩
  exact (pw_all (R:=fun x y:Nat=>(x < y -> nr x y = false) /\ (y < x -> nr y x = false)) (fun _ _ h=>⟨h.2,h.1⟩) (fun x=>⟨fun z=>absurd z (by omega),fun z=>absurd z (by omega)⟩) _ this i (lt hi) j (lt hj)).1 hij
theorem MO_eq {nr:Int -> Int -> Bool} {n k b0:Nat} (hk:n <= k) (hb:b0 < 2 ^ n) (hi:Ind nr b0) (hbest:∀ b,b < 2 ^ n -> Ind nr b -> HT.lexLt (keyL (pl n b)) (keyL (pl n b0)) = false):MO nr k (rngI n) = pl n b0:=by
  obtain ⟨s,p,b⟩:=MO_best nr k (rngI n) (by unfold rngI;rw [List.length_map,List.length_range];exact hk) (rngI_pw n)
  obtain ⟨b1,hb1,e⟩:=pl_ex s
  obtain ⟨c1,c2⟩:=b (pl n b0) (pl_sub n b0) (ind_pl hi)
  refine keyL_inj ?_ (keyL_best c1 c2)
  rw [<- e] at p ⊢
  exact hbest b1 hb1 (pl_ind hb1 p)
theorem low_ex:∀ b:Nat,0 < b -> ∃ l m,b = 2 ^ l * (2 * m + 1) /\ b - (b &&& (b - 1)) = 2 ^ l:=by
  intro b
  induction b using Nat.strongRecOn with
  | _ b ih =>
    intro hb
    rcases Nat.mod_two_eq_zero_or_one b with h | h
    · obtain ⟨c,rfl⟩:∃ c,b = 2 * c:=⟨b / 2,by omega⟩
      obtain ⟨l,m,e,e2⟩:=ih c (by omega) (by omega)
      refine ⟨l + 1,m,by rw [Nat.pow_succ,Nat.mul_comm (2 ^ l) 2,Nat.mul_assoc,<- e],?_⟩
      have:2 * c &&& (2 * c - 1) = 2 * (c &&& (c - 1)):=by
        apply Nat.eq_of_testBit_eq
        intro i
        cases i with
        | zero=>simp
        | succ i =>
          rw [Nat.testBit_and,Nat.testBit_succ,Nat.testBit_succ,Nat.testBit_succ,Nat.mul_div_cancel_left _ (by decide),Nat.mul_div_cancel_left _ (by decide),show (2 * c - 1) / 2 = c - 1 by omega,Nat.testBit_and]
      rw [this,Nat.pow_succ,<- e2]
      have:=@Nat.and_le_left c (c - 1)
      omega
    · obtain ⟨c,rfl⟩:∃ c,b = 2 * c + 1:=⟨b / 2,by omega⟩
      refine ⟨0,c,by omega,?_⟩
      have:2 * c + 1 &&& (2 * c + 1 - 1) = 2 * c:=by
        apply Nat.eq_of_testBit_eq
        intro i
        cases i with
        | zero=>simp
        | succ i =>
          rw [Nat.testBit_and,Nat.testBit_succ,Nat.testBit_succ,Nat.testBit_succ,show (2 * c + 1) / 2 = c by omega,show (2 * c + 1 - 1) / 2 = c by omega,Nat.mul_div_cancel_left _ (by decide),Bool.and_self]
      rw [this]
      omega
theorem tb_low {l m i:Nat}:(2 ^ l * (2 * m + 1)).testBit i = (decide (i = l) || (2 ^ l * (2 * m + 1) - 2 ^ l).testBit i):=by
  have e:2 ^ l * (2 * m + 1) - 2 ^ l = 2 ^ l * (2 * m):=by rw [Nat.mul_add,Nat.mul_one,Nat.add_sub_cancel]
  rw [e,Nat.testBit_two_pow_mul,Nat.testBit_two_pow_mul]
  by_cases h:i >= l
  · rw [decide_eq_true h,Bool.true_and,Bool.true_and]
    by_cases h2:i = l
    · subst h2;rw [Nat.sub_self,decide_eq_true rfl,Bool.true_or];simp
    · rw [decide_eq_false h2,Bool.false_or]
      obtain ⟨k,hk⟩:∃ k,i - l = k + 1:=⟨i - l - 1,by omega⟩
      rw [hk,Nat.testBit_succ,Nat.testBit_succ,show (2 * m + 1) / 2 = m by omega,show (2 * m) / 2 = m by omega]
  · rw [decide_eq_false h,Bool.false_and,Bool.false_and,decide_eq_false (by omega),Bool.false_or]
theorem tb_low0 {l m i:Nat} (h:i <= l):(2 ^ l * (2 * m + 1) - 2 ^ l).testBit i = false:=by
  have e:2 ^ l * (2 * m + 1) - 2 ^ l = 2 ^ l * (2 * m):=by rw [Nat.mul_add,Nat.mul_one,Nat.add_sub_cancel]
  rw [e,Nat.testBit_two_pow_mul]
  by_cases h2:i = l
  · subst h2;rw [Nat.sub_self];simp
  · rw [decide_eq_false (by omega),Bool.false_and]
theorem ind_step {nr:Int -> Int -> Bool} {l m n z:Nat} (hb:2 ^ l * (2 * m + 1) < 2 ^ n) (hz:∀ j,z.testBit j = true ↔ (l < j /\ j < n /\ nr l j = true)) :
    Ind nr (2 ^ l * (2 * m + 1)) ↔ Ind nr (2 ^ l * (2 * m + 1) - 2 ^ l) /\ z &&& (2 ^ l * (2 * m + 1)) = 0:=by
  constructor
  · intro h
    refine ⟨fun i j hij hi hj=>h i j hij (by rw [tb_low,hi,Bool.or_true]) (by rw [tb_low,hj,Bool.or_true]),?_⟩
    apply Nat.eq_of_testBit_eq
    intro j
    rw [Nat.testBit_and,Nat.zero_testBit]
    cases e1:z.testBit j with
    | false=>rfl
    | true =>
      cases e2:(2 ^ l * (2 * m + 1)).testBit j with
      | false=>rfl
      | true =>
        obtain ⟨c1,_,c2⟩:=(hz j).mp e1
        have:=h l j c1 (by rw [tb_low,decide_eq_true rfl,Bool.true_or]) e2
        rw [this] at c2;cases c2
  · intro ⟨h,hz0⟩ i j hij hi hj
    rw [tb_low,Bool.or_eq_true,decide_eq_true_eq] at hi
    have hj2:=hj
    rw [tb_low,Bool.or_eq_true,decide_eq_true_eq] at hj2
    have hjl:l < j:=by
      rcases hi with hi | hi
      · omega
      · apply Nat.lt_of_not_le
        intro z
        rw [tb_low0 (by omega)] at hi;cases hi
    rcases hj2 with hj2 | hj2
    · omega
    rcases hi with rfl | hi
    · cases e:nr i j with
      | false=>rfl
      | true =>
        exfalso
        have hjn:j < n:=by
          apply Nat.lt_of_not_le
          intro w
          rw [Nat.testBit_lt_two_pow (Nat.lt_of_lt_of_le hb (Nat.pow_le_pow_right (by decide) w))] at hj
          cases hj
        have c:=(hz j).mpr ⟨hij,hjn,e⟩
        have:=congrArg (fun x=>x.testBit j) hz0
        simp only [Nat.testBit_and,Nat.zero_testBit,c,hj,Bool.and_self] at this
        cases this
    · exact h i j hij hi hj2

theorem mem_rows {b:Bool} {pts:List (List Int)} {i j:Nat} (hij:i < j) (hj:j < pts.length):∀ m,i < m -> pairD b pts i j ∈ rowsD b pts m
  | m + 1,h=>by
    show _ ∈ rowsD b pts m ++ rowD b pts m (pts.length - (m + 1))
    by_cases e:i = m
    · subst e
      exact List.mem_append_right _ (List.mem_map.mpr ⟨j - (i + 1),List.mem_range.mpr (by omega),by rw [show i + 1 + (j - (i + 1)) = j by omega]⟩)
    · exact List.mem_append_left _ (mem_rows hij hj m (by omega))
theorem mem_pairs {b:Bool} {pts:List (List Int)} {i j:Nat} (hij:i < j) (hj:j < pts.length):pairD b pts i j ∈ pairsD b pts:=mem_rows hij hj _ (by omega)
noncomputable def nrB (b:Bool) (pts:List (List Int)) (bd x y:Int):Bool:=decide (0 <= x /\ x < y /\ y < pts.length /\ farI b (pts.getD x.toNat []) (pts.getD y.toNat []) <= bd)
theorem near_mem {b:Bool} {pts:List (List Int)} {bd:Int} {i j:Nat}:D.tup [.int (i:Nat),.int (j:Nat)] ∈ nearL b pts bd ↔ i < j /\ j < pts.length /\ farI b (pts.getD i []) (pts.getD j []) <= bd:=by
  unfold nearL
  rw [List.mem_filterMap]
  constructor
  · rintro ⟨x,hx,h⟩
    obtain ⟨p,q,h1,h2,rfl⟩:=pairs_mem hx
    have:(if farI b (pts.getD p []) (pts.getD q []) <= bd then some (D.tup [.int (p:Nat),.int (q:Nat)]) else none) = some (D.tup [.int (i:Nat),.int (j:Nat)]):=h
    split at this
    · rename_i hf
      simp only [Option.some.injEq,D.tup.injEq,List.cons.injEq,D.int.injEq,and_true] at this
      obtain ⟨e1,e2⟩:=this
      have e1:p = i:=by omega
      have e2:q = j:=by omega
      subst e1 e2
      exact ⟨h1,h2,hf⟩
    · cases this
  · rintro ⟨h1,h2,hf⟩
    refine ⟨pairD b pts i j,mem_pairs h1 h2,?_⟩
    show (if farI b (pts.getD i []) (pts.getD j []) <= bd then some (D.tup [.int (i:Nat),.int (j:Nat)]) else none) = _
    rw [if_pos hf]
noncomputable def sp_most:Nat -> FSp
  | 0=>fun _ _=>False
  | k + 1=>fun ds Q=>∃ (l:List Int) (kvs:List (D × D)),ds = [.lst (l.map D.int),.dct kvs] /\ l.length <= k /\ k <= 1000 /\ Q (.own ((MO (fun x y=>(dval kvs (.tup [.int x,.int y])).isSome) k l).map D.int))
theorem cut_from {α:Type} {xs:List α} {n:Nat} (h:n <= xs.length):cut xs (some (n:Int)) none = xs.drop n:=by
  unfold cut
  rw [HT.sIx_none,HT.sIx_nat,Nat.min_eq_left h,List.take_of_length_le (by rw [List.length_drop];omega)]
theorem cut_tail {α:Type} (x:α) (r:List α):cut (x :: r) (some 1) none = r:=by
  have:=cut_from (xs:=x :: r) (n:=1) (by simp)
  exact this
theorem MO_len (nr:Int -> Int -> Bool):∀ (k:Nat) (l:List Int),(MO nr k l).length <= l.length
  | 0,l=>Nat.zero_le _
  | k + 1,[]=>Nat.le_refl _
  | k + 1,x :: r=>by
    have h1:=MO_len nr k r
    have h2:=MO_len nr k (r.filter fun y=>!nr x y)
    have h3:(r.filter fun y=>!nr x y).length <= r.length:=List.length_filter_le _ _
    rw [show MO nr (k + 1) (x :: r) = if (MO nr k r).length <= (x :: MO nr k (r.filter fun y=>!nr x y)).length then x :: MO nr k (r.filter fun y=>!nr x y) else MO nr k r from rfl]
    split
    · rw [List.length_cons,List.length_cons];omega
    · rw [List.length_cons];omega
theorem p_most (k:Nat) (ds:List D) (Q:B -> Prop) (h:sp_most (k + 1) ds Q):t_q20 (sp_most k) { nx:=fun _=>Q (.sh .non),rt:=fun b _=>Q b } (startD N_q20.length ds):=by
  obtain ⟨l,kvs,rfl,hl,hk,h⟩:=h
  unfold t_q20
  refine tSq_step fun N hN=>?_
  walk_at "vx"
  cases l with
  | nil =>
    refine (if_pos rfl).mpr ⟨by decide,?_⟩
    have e:MO (fun x y=>(dval kvs (.tup [.int x,.int y])).isSome) k [] = []:=by cases k<;>rfl
    rw [e] at h
    exact h
  | cons x r =>
  refine (if_neg (by intro z;cases z)).mpr ?_
  obtain ⟨k,rfl⟩:∃ k',k = k' + 1:=⟨k - 1,by rw [List.length_cons] at hl;omega⟩
  rw [List.length_cons] at hl
  subst hN
  refine tSq_step fun N hN=>?_
  walk_at "vx"
  refine ix_lst_at (n:=0) rfl (by rfl) ?_
  subst hN
  refine tSq_step fun N hN=>?_
  walk_at "vx"
  rw [cut_tail]
  subst hN
  refine tSq_step fun N hN=>?_
  walk_at "vx"
  have hz:r.length <= sizeLine:=by rw [sz];omega
  refine ⟨by decide,compD_on D.int (fun y=>if (dval kvs (.tup [.int x,.int y])).isSome = true then none else some (D.int y)) r (fun y hy A Bn ha=>?_) hz ?_⟩
  · walk_at "vx"
    refine ⟨by decide,rfl,?_⟩
    by_cases hd:(dval kvs (.tup [.int x,.int y])).isSome = true
    · rw [if_pos hd] at ha
      exact (if_neg (by rw [hd];decide)).mpr ha
    · rw [if_neg hd] at ha
      exact (if_pos (by simpa using hd)).mpr ha
  · rw [show (r.filterMap fun y=>if (dval kvs (.tup [.int x,.int y])).isSome = true then none else some (D.int y)) = (r.filter fun y=>!(dval kvs (.tup [.int x,.int y])).isSome).map D.int from by
      clear hz hl h
      induction r with
      | nil=>rfl
      | cons y r ih =>
        rw [List.filterMap_cons,List.filter_cons]
        cases hd:(dval kvs (.tup [.int x,.int y])).isSome with
        | true=>simp only [if_true,Bool.not_true,Bool.false_eq_true,if_false];exact ih
        | false=>simp only [Bool.false_eq_true,if_false,Bool.not_false,if_true,List.map_cons];rw [ih]]
    have hf:(r.filter fun y=>!(dval kvs (.tup [.int x,.int y])).isSome).length <= r.length:=List.length_filter_le _ _
    refine ⟨_,kvs,rfl,by omega,by omega,?_⟩
    try walk_at "vx"
    have m1:=MO_len (fun x y=>(dval kvs (.tup [.int x,.int y])).isSome) k (r.filter fun y=>!(dval kvs (.tup [.int x,.int y])).isSome)
    refine ⟨by rw [List.length_map,sz];show 1 + _ <= _;omega,?_⟩
    subst hN
    refine tSq_step fun N hN=>?_
    walk_at "vx"
    refine ⟨r,kvs,rfl,by omega,by omega,?_⟩
    try walk_at "vx"
    subst hN
    walk_at "vx"
    have e:MO (fun x y=>(dval kvs (.tup [.int x,.int y])).isSome) (k + 1) (x :: r) = if (MO (fun x y=>(dval kvs (.tup [.int x,.int y])).isSome) k r).length <= (x :: MO (fun x y=>(dval kvs (.tup [.int x,.int y])).isSome) k (r.filter fun y=>!(dval kvs (.tup [.int x,.int y])).isSome)).length then x :: MO (fun x y=>(dval kvs (.tup [.int x,.int y])).isSome) k (r.filter fun y=>!(dval kvs (.tup [.int x,.int y])).isSome) else MO (fun x y=>(dval kvs (.tup [.int x,.int y])).isSome) k r:=rfl
    rw [e] at h
    simp only [List.length_map,List.length_cons] at h ⊢
    split
    · rename_i hc
      rw [if_pos (by omega)] at h
      exact h
    · rename_i hc
      rw [if_neg (by omega)] at h
      exact h
noncomputable def sp_natm:FSp:=fun ds Q=>∃ (pts:List (List Int)) (m:Nat),ds = [ptsD pts,.int (m:Int)] /\ pts.length <= m /\ Q (.sh .non)
theorem p_natm (ds:List D) (Q:B -> Prop) (h:sp_natm ds Q):t_q3 { nx:=fun _=>Q (.sh .non),rt:=fun b _=>Q b } (startD N_q3.length ds):=by
  obtain ⟨pts,m,rfl,hm,h⟩:=h
  unfold t_q3
  rw [show ptsD pts = .lst (pts.map ptD) from rfl]
  walk_at "vx"
  rw [List.length_map]
  exact (if_neg (by omega)).mpr h
noncomputable def prD (p:Nat × Nat):D:=.tup [.int (p.1:Nat),.int (p.2:Nat)]
theorem dput_len (kvs:List (D × D)) (d v:D):(dput kvs d v).length <= kvs.length + 1:=by
  unfold dput
  split
  · rw [List.length_map];omega
  · rw [List.length_append];exact Nat.le_refl _
theorem eqD_pr (x y x' y':Int):eqD (.tup [.int x,.int y]) (.tup [.int x',.int y']) = decide (x = x' /\ y = y'):=by
  have:=eqD_keyT [.inl x,.inl y] [.inl x',.inl y']
  rw [show ([Sum.inl x,Sum.inl y]:List Key).map kD = [.int x,.int y] from rfl,show ([Sum.inl x',Sum.inl y']:List Key).map kD = [.int x',.int y'] from rfl] at this
  rw [this]
  simp
theorem dval_any (kvs:List (D × D)) (d:D):(dval kvs d).isSome = kvs.any fun kv=>eqD kv.1 d:=by
  unfold dval
  rw [Option.isSome_map,Bool.eq_iff_iff,List.find?_isSome,List.any_eq_true]
theorem dput_any (kvs:List (D × D)) (x y x' y':Int) (v:D):(dval (dput kvs (.tup [.int x,.int y]) v) (.tup [.int x',.int y'])).isSome = ((dval kvs (.tup [.int x',.int y'])).isSome || decide (x = x' /\ y = y')):=by
  rw [dval_any,dval_any]
  unfold dput
  by_cases ha:(kvs.any fun kv=>eqD kv.1 (.tup [.int x,.int y])) = true
  · rw [if_pos ha,List.any_map]
    rw [show ((fun kv:D × D=>eqD kv.1 (.tup [.int x',.int y'])) ∘ fun kv:D × D=>if eqD kv.1 (.tup [.int x,.int y]) = true then (kv.1,v) else kv) = fun kv=>eqD kv.1 (.tup [.int x',.int y']) from by
      funext kv
      show eqD (if eqD kv.1 (.tup [.int x,.int y]) = true then (kv.1,v) else kv).1 _ = _
      split<;>rfl]
    by_cases e:x = x' /\ y = y'
    · obtain ⟨rfl,rfl⟩:=e
      rw [ha,Bool.true_or]
    · rw [decide_eq_false e,Bool.or_false]
  · rw [if_neg ha,List.any_append]
    congr 1
    show (eqD _ _ || false) = _
    rw [Bool.or_false,eqD_pr]
noncomputable def sp_apart:FSp:=fun ds Q=>∃ b n pts j,ds = [ptsD pts,wayD b,.int j] /\ Good n pts /\ pts.length <= 14 /\ 0 <= j /\ Q (.own ((MO (nrB b pts j) 14 (rngI pts.length)).map D.int))
theorem p_apart (ds:List D) (Q:B -> Prop) (h:sp_apart ds Q):t_q9 sp_near sp_natm (sp_most 15) { nx:=fun _=>Q (.sh .non),rt:=fun b _=>Q b } (startD N_q9.length ds):=by
  obtain ⟨b,n,pts,j,rfl,hg,hm,h0,h⟩:=h
  unfold t_q9
  refine tSq_step fun N hN=>?_
  walk_at "vx"
  refine ⟨b,n,pts,j,rfl,hg,by omega,h0,?_⟩
  obtain ⟨ps,e,hps⟩:=near_pr b pts j
  have hmem:∀ i k:Nat,(i,k) ∈ ps ↔ i < k /\ k < pts.length /\ farI b (pts.getD i []) (pts.getD k []) <= j:=fun i k=>by
    rw [<- near_mem,e,List.mem_map]
    constructor
    · intro hq;exact ⟨(i,k),hq,rfl⟩
    · rintro ⟨⟨a,c⟩,hq,e⟩
      simp only [D.tup.injEq,List.cons.injEq,D.int.injEq,and_true] at e
      obtain ⟨e1,e2⟩:=e
      have e1:a = i:=by omega
      have e2:c = k:=by omega
      subst e1 e2
      exact hq
  have hzz:=near_len b pts j
  have hzp:=pairs_le (b:=b) (show pts.length <= 1000 by omega)
  rw [e] at hzz ⊢
  rw [List.length_map] at hzz
  try walk_at "vx"
  subst hN
  refine tSq_step fun N hN=>?_
  walk_at "vx"
  refine ⟨pts,14,rfl,hm,?_⟩
  try walk_at "vx"
  subst hN
  refine tSq_step fun N hN=>?_
  walk_at "vx"
  subst hN
  refine tSq_step fun N hN=>?_
  walk_at "vx"
  refine forD_on prD ps (fun i σ=>∃ kvs x5,σ = [some (.sh (ptsD pts)),some (.sh (wayD b)),some (.sh (.int j)),some (.sh (.lst (ps.map prD))),some (.obj (dtO kvs)),x5] /\ kvs.length <= i /\ ∀ x y:Int,(dval kvs (.tup [.int x,.int y])).isSome = (ps.take i).any fun p=>decide ((p.1:Int) = x /\ (p.2:Int) = y)) (fun i p σ N' hx hI hN'=>?_) (fun σ hI=>?_) ⟨[],none,rfl,Nat.le_refl _,fun _ _=>rfl⟩
  · obtain ⟨kvs,x5,rfl,hi,hk⟩:=hI
    have hip:i < ps.length:=(List.getElem?_eq_some_iff.mp hx).1
    unfold prD
    walk_at "vg"
    walk_at "vx"
    refine ⟨⟨_,rfl⟩,kvs,_,rfl,rfl,by rw [sz];omega,hN' _ ⟨_,_,rfl,Nat.le_trans (dput_len ..) (by omega),fun x y=>?_⟩⟩
    rw [dput_any,hk x y,List.take_add_one,hx,List.any_append]
    show _ = (_ || (_ || false))
    rw [Bool.or_false]
  · obtain ⟨kvs,x5,rfl,hi,hk⟩:=hI
    subst hN
    rw [show ptsD pts = .lst (pts.map ptD) from rfl]
    walk_at "vx"
    rw [List.length_map]
    refine ⟨⟨by omega,by omega⟩,kvs,rfl,?_⟩
    rw [Int.toNat_natCast]
    refine ⟨rngI pts.length,kvs,by unfold rngD rngI;simp,by unfold rngI;rw [List.length_map,List.length_range];exact hm,by decide,?_⟩
    rw [show (fun x y=>(dval kvs (.tup [.int x,.int y])).isSome) = nrB b pts j from by
      funext x y
      rw [hk,List.take_length]
      unfold nrB
      rw [Bool.eq_iff_iff,List.any_eq_true,decide_eq_true_eq]
      constructor
      · rintro ⟨⟨a,c⟩,hq,e⟩
        obtain ⟨e1,e2⟩:=of_decide_eq_true e
        have e1:(a:Int) = x:=e1
        have e2:(c:Int) = y:=e2
        obtain ⟨h1,h2,h3⟩:=(hmem a c).mp hq
        subst e1 e2
        rw [Int.toNat_natCast,Int.toNat_natCast]
        exact ⟨by omega,by omega,by omega,h3⟩
      · rintro ⟨h1,h2,h3,h4⟩
        refine ⟨(x.toNat,y.toNat),(hmem _ _).mpr ⟨by omega,by omega,h4⟩,decide_eq_true ⟨?_,?_⟩⟩
        · show ((x.toNat:Nat):Int) = x;omega
        · show ((y.toNat:Nat):Int) = y;omega]
    exact h
noncomputable def nrow (ts:List (Int × Nat × Nat)) (bd:Int) (k:Nat):Nat:=ts.foldl (fun a t=>if t.1 <= bd /\ t.2.1 = k then a ||| 2 ^ t.2.2 else a) 0
theorem nrow_bit (bd:Int) (k m:Nat):∀ (ts:List (Int × Nat × Nat)) (a:Nat),(ts.foldl (fun a t=>if t.1 <= bd /\ t.2.1 = k then a ||| 2 ^ t.2.2 else a) a).testBit m = true ↔ a.testBit m = true \/ ∃ t ∈ ts,t.1 <= bd /\ t.2.1 = k /\ t.2.2 = m
  | [],a=>by simp
  | t :: ts,a=>by
    rw [List.foldl_cons,nrow_bit bd k m ts]
    by_cases h:t.1 <= bd /\ t.2.1 = k
    · rw [if_pos h,Nat.testBit_or,Nat.testBit_two_pow,Bool.or_eq_true,decide_eq_true_eq]
      constructor
      · rintro ((h1 | h1) | ⟨u,hu,h1⟩)
        · exact .inl h1
        · exact .inr ⟨t,List.mem_cons_self ..,h.1,h.2,h1⟩
        · exact .inr ⟨u,List.mem_cons_of_mem _ hu,h1⟩
      · rintro (h1 | ⟨u,hu,h1⟩)
        · exact .inl (.inl h1)
        · rcases List.mem_cons.mp hu with rfl | hu
          · exact .inl (.inr h1.2.2)
          · exact .inr ⟨u,hu,h1⟩
    · rw [if_neg h]
      constructor
      · rintro (h1 | ⟨u,hu,h1⟩)
        · exact .inl h1
        · exact .inr ⟨u,List.mem_cons_of_mem _ hu,h1⟩
      · rintro (h1 | ⟨u,hu,h1⟩)
        · exact .inl h1
        · rcases List.mem_cons.mp hu with rfl | hu
          · exact absurd ⟨h1.1,h1.2.1⟩ h
          · exact .inr ⟨u,hu,h1⟩
theorem bitOr_nat (a b:Nat):Builtin.bitOr (a:Int) (b:Int) = ((a ||| b:Nat):Int):=by
  have n:∀ x:Nat,Builtin.bitNot (Builtin.bitNot (x:Int)) = x:=fun x=>by unfold Builtin.bitNot;omega
  unfold Builtin.bitOr Builtin.bitAnd
  rw [decide_eq_false (p:=0 <= Builtin.bitNot (a:Int)) (by unfold Builtin.bitNot;omega),decide_eq_false (p:=0 <= Builtin.bitNot (b:Int)) (by unfold Builtin.bitNot;omega)]
  dsimp only
  rw [n,n,n,Int.toNat_natCast,Int.toNat_natCast]
theorem bitAnd_nat (a b:Nat):Builtin.bitAnd (a:Int) (b:Int) = ((a &&& b:Nat):Int):=by
  rw [PyProof.Rows.bitAnd_pp (by omega) (by omega),Int.toNat_natCast,Int.toNat_natCast]
theorem bitAnd_low {b l:Nat} (hb:0 < b) (h:b - (b &&& (b - 1)) = 2 ^ l):Builtin.Int.intBits (Builtin.bitAnd (b:Int) (0 - (b:Int))) = l + 1:=by
  have e:Builtin.bitAnd (b:Int) (0 - (b:Int)) = ((2 ^ l:Nat):Int):=by
    rw [PyProof.Rows.bitAnd_pn (by omega) (by omega),<- h,Int.toNat_natCast,show (Builtin.bitNot (0 - (b:Int))).toNat = b - 1 by unfold Builtin.bitNot;omega]
    have:=@Nat.and_le_left b (b - 1)
    omega
  rw [e]
  unfold Builtin.Int.intBits
  have:(2 ^ l:Nat) ≠ 0:=Nat.pos_iff_ne_zero.mp (Nat.pow_pos (by decide))
  rw [if_neg (by simp only [beq_iff_eq];omega),Int.natAbs_natCast,Nat.log2_two_pow]
theorem bit_eq (b i:Nat):decide (Builtin.bitAnd ((b:Int) / 2 ^ i) 1 = 1) = b.testBit i:=by
  rw [PyProof.Rows.bitAnd_m1,Nat.testBit_eq_decide_div_mod_eq]
  have:((b:Int) / 2 ^ i) % 2 = ((b / 2 ^ i % 2:Nat):Int):=by
    rw [Int.natCast_emod,Int.natCast_ediv,Int.natCast_pow];rfl
  rw [this]
  by_cases h:b / 2 ^ i % 2 = 1
  · rw [decide_eq_true h,h];rfl
  · rw [decide_eq_false h,decide_eq_false (by omega)]
noncomputable def indB (nr:Int -> Int -> Bool) (b:Nat):Bool:=@decide (Ind nr b) (Classical.propDecidable _)
theorem indB_eq {nr:Int -> Int -> Bool} {b:Nat}:indB nr b = true ↔ Ind nr b:=by unfold indB;simp

noncomputable def sp_best:FSp:=fun ds Q=>∃ b pts j,ds = [.int (pts.length:Nat),.lst (sortD (pairsD b pts)),.int j] /\ pts.length <= 14 /\ Q (.sh (.lst ((MO (nrB b pts j) 14 (rngI pts.length)).map D.int)))
theorem ixN_nat {n k:Nat} (h:k < n):ixN n (k:Int) = some k:=by unfold ixN;rw [if_pos (by omega),if_pos (by omega),Int.toNat_natCast]
theorem spairs_tr2 (b:Bool) (pts:List (List Int)):∃ ts:List (Int × Nat × Nat),sortD (pairsD b pts) = ts.map trD /\ ∀ t ∈ ts,t.2.1 < t.2.2 /\ t.2.2 < pts.length:=by
  obtain ⟨ts,e⟩:=spairs_tr b pts
  refine ⟨ts,e,fun t ht=>?_⟩
  have:trD t ∈ pairsD b pts:=(sortD_perm _).mem_iff.mp (by rw [e];exact List.mem_map.mpr ⟨t,ht,rfl⟩)
  obtain ⟨p,q,h1,h2,h3⟩:=pairs_mem this
  unfold trD pairD at h3
  simp only [D.tup.injEq,List.cons.injEq,D.int.injEq,and_true] at h3
  omega
theorem sort_mem {b:Bool} {pts:List (List Int)} {ts:List (Int × Nat × Nat)} (e:sortD (pairsD b pts) = ts.map trD) (f:Int) (i k:Nat):(f,i,k) ∈ ts ↔ i < k /\ k < pts.length /\ f = farI b (pts.getD i []) (pts.getD k []):=by
  have hm:(f,i,k) ∈ ts ↔ trD (f,i,k) ∈ pairsD b pts:=by
    rw [<- (sortD_perm (pairsD b pts)).mem_iff,e,List.mem_map]
    constructor
    · intro h;exact ⟨_,h,rfl⟩
    · rintro ⟨⟨f',i',k'⟩,h,e⟩
      unfold trD at e
      simp only [D.tup.injEq,List.cons.injEq,D.int.injEq,and_true] at e
      obtain ⟨rfl,e1,e2⟩:=e
      have e1:i' = i:=by omega
      have e2:k' = k:=by omega
      subst e1 e2
      exact h
  rw [hm]
  constructor
  · intro h
    obtain ⟨p,q,h1,h2,h3⟩:=pairs_mem h
    unfold trD pairD at h3
    simp only [D.tup.injEq,List.cons.injEq,D.int.injEq,and_true] at h3
    obtain ⟨h3,h4,h5⟩:=h3
    have h4:i = p:=by omega
    have h5:k = q:=by omega
    subst h4 h5
    exact ⟨h1,h2,h3⟩
  · rintro ⟨h1,h2,rfl⟩
    exact mem_pairs h1 h2
theorem eqD_int04 (a c:Int):eqD (.int a) (.int c) = decide (a = c):=by
  by_cases h:a = c
  · subst h;simp [eqD]
  · simp [eqD,h]
theorem p_best (ds:List D) (Q:B -> Prop) (h:sp_best ds Q):t_q15 { nx:=fun _=>Q (.sh .non),rt:=fun b _=>Q b } (startD N_q15.length ds):=by
  obtain ⟨b,pts,bd,rfl,hm,h⟩:=h
  obtain ⟨ts,e,hts⟩:=spairs_tr2 b pts
  have hmem:=sort_mem e
  rw [e]
  have hp14:(2:Nat) ^ pts.length <= 2 ^ 14:=Nat.pow_le_pow_right (by decide) hm
  unfold t_q15
  refine tSq_step fun N hN=>?_
  walk_at "vx"
  refine ⟨by decide,⟨by omega,by omega,by rw [sz];omega⟩,?_⟩
  rw [show (List.replicate ((pts.length:Int)).toNat [D.int 0]).flatten = cntL pts.length (nrow (ts.take 0) bd) from by
    rw [Int.toNat_natCast,List.flatten_replicate_singleton]
    unfold cntL
    show _ = (List.range pts.length).map fun _=>D.int 0
    rw [List.map_const',List.length_range]]
  subst hN
  refine tSq_step fun N hN=>?_
  show tForD _ _ _ _ _
  generalize ht:tIfD (tCmp2 leT (tVarD 4) (tVarD 2)) _ _ = tb
  walk_at "vx"
  subst ht
  refine forD_on trD ts (fun i σ=>∃ x4 x5 x6,σ = [some (.sh (.int (pts.length:Nat))),some (.sh (.lst (ts.map trD))),some (.sh (.int bd)),some (.own (cntL pts.length (nrow (ts.take i) bd))),x4,x5,x6,none,none,none,none,none]) (fun i t σ N' hx hI hN'=>?_) (fun σ hI=>?_) ⟨none,none,none,rfl⟩
  · obtain ⟨x4,x5,x6,rfl⟩:=hI
    obtain ⟨h1,h2⟩:=hts t (List.mem_of_getElem? hx)
    obtain ⟨f,p,q⟩:=t
    have h1:p < q:=h1
    have h2:q < pts.length:=h2
    have hs:∀ k,nrow (ts.take (i + 1)) bd k = if f <= bd /\ p = k then nrow (ts.take i) bd k ||| 2 ^ q else nrow (ts.take i) bd k:=fun k=>by
      unfold nrow
      rw [List.take_add_one,hx,List.foldl_append]
      rfl
    unfold trD
    walk_at "vg"
    walk_at "vx"
    by_cases hf:f <= bd
    · refine (if_pos hf).mpr ?_
      refine ix_lst_at (n:=p) rfl (cntL_get _ (by omega)) ?_
      walk_at "vx"
      refine ⟨by unfold CPow;omega,⟨_,rfl⟩,?_⟩
      rw [ixN_nat (show p < (cntL pts.length (nrow (ts.take i) bd)).length by rw [cntL_len];omega)]
      dsimp only
      have hb:Builtin.bitOr ((nrow (ts.take i) bd p:Nat):Int) (1 * 2 ^ ((q:Int)).toNat) = ((nrow (ts.take i) bd p ||| 2 ^ q:Nat):Int):=by
        rw [<- bitOr_nat,Int.toNat_natCast,Int.one_mul,Int.natCast_pow];rfl
      rw [hb,cntL_set _ _ (by omega)]
      refine hN' _ ⟨some (.sh (.int f)),some (.sh (.int (p:Nat))),some (.sh (.int (q:Nat))),?_⟩
      rw [show nrow (ts.take (i + 1)) bd = fun x=>if x = p then nrow (ts.take i) bd p ||| 2 ^ q else nrow (ts.take i) bd x from funext fun k=>by
        rw [hs k]
        by_cases hk:k = p
        · subst hk;rw [if_pos ⟨hf,rfl⟩,if_pos rfl]
        · rw [if_neg fun z=>hk z.2.symm,if_neg hk]]
      rfl
    · refine (if_neg hf).mpr (hN' _ ⟨some (.sh (.int f)),some (.sh (.int (p:Nat))),some (.sh (.int (q:Nat))),?_⟩)
      rw [show nrow (ts.take (i + 1)) bd = nrow (ts.take i) bd from funext fun k=>by rw [hs k,if_neg fun z=>hf z.1]]
      rfl
  · obtain ⟨x4,x5,x6,rfl⟩:=hI
    rw [List.take_length]
    have hbit:∀ l,l < pts.length -> ∀ k,(nrow ts bd l).testBit k = true ↔ (l < k /\ k < pts.length /\ nrB b pts bd l k = true):=fun l hl k=>by
      unfold nrow
      rw [nrow_bit,Nat.zero_testBit]
      unfold nrB
      rw [decide_eq_true_eq,Int.toNat_natCast,Int.toNat_natCast]
      constructor
      · rintro (z | ⟨⟨f,p,q⟩,ht,h1,h2,h3⟩)
        · cases z
        · have h2:p = l:=h2
          have h3:q = k:=h3
          subst h2 h3
          obtain ⟨c1,c2,c3⟩:=(hmem f p q).mp ht
          have h1:f <= bd:=h1
          exact ⟨c1,c2,by omega,by omega,by omega,by rw [<- c3];exact h1⟩
      · rintro ⟨h1,h2,h3,h4,h5,h6⟩
        exact .inr ⟨(farI b (pts.getD l []) (pts.getD k []),l,k),(hmem _ _ _).mpr ⟨h1,h2,rfl⟩,h6,rfl,rfl⟩
    generalize nrow ts bd = rw at hbit
    generalize hnr:nrB b pts bd = nr at h hbit
    generalize hnn:pts.length = n at h hbit hm hp14
    show N _
    subst hN
    try dsimp only
    refine tSq_step fun N hN=>?_
    walk_at "vx"
    refine ⟨by decide,?_⟩
    subst hN
    refine tSq_step fun N hN=>?_
    walk_at "vx"
    refine ⟨by decide,by decide,?_⟩
    subst hN
    refine tSq_step fun N hN=>?_
    show tForD _ _ _ _ _
    generalize ht:tSq (tSt [] 10 _) _ = tb
    walk_at "vx"
    subst ht
    have hpw:(1 * 2 ^ ((n:Int)).toNat:Int) = ((2 ^ n:Nat):Int):=by rw [Int.toNat_natCast,Int.one_mul,Int.natCast_pow];rfl
    have hpos:0 < 2 ^ n:=Nat.pow_pos (by decide)
    rw [hpw]
    refine ⟨by unfold CPow;omega,by omega,?_⟩
    rw [show (((2 ^ n:Nat):Int) - 1).toNat = 2 ^ n - 1 by omega,rngD_map]
    refine forD_on (fun i:Nat=>.int (1 + (i:Nat))) (List.range (2 ^ n - 1)) (fun i σ=>∃ b0 x9 x10 x11,σ = [some (.sh (.int (n:Nat))),some (.sh (.lst (ts.map trD))),some (.sh (.int bd)),some (.own (cntL n rw)),x4,x5,x6,some (.own ((List.range (i + 1)).map fun b=>D.bl (indB nr b))),some (.sh (ilD (-((pl n b0).length:Int)) (pl n b0))),x9,x10,x11] /\ b0 <= i /\ Ind nr b0 /\ ∀ b',b' <= i -> Ind nr b' -> HT.lexLt (keyL (pl n b')) (keyL (pl n b0)) = false) (fun i a σ N' hx hI hN'=>?_) (fun σ hI=>?_) ⟨0,none,none,none,?_,Nat.le_refl _,?_,?_⟩
    · obtain ⟨rfl,hi⟩:=range_get hx
      obtain ⟨b0,x9,x10,x11,rfl,hb0,hi0,hbest⟩:=hI
      rw [show (1:Int) + (a:Nat) = ((a + 1:Nat):Int) by omega]
      have hlen:((List.range (a + 1)).map fun b=>D.bl (indB nr b)).length = a + 1:=by rw [List.length_map,List.length_range]
      obtain ⟨l,m,hl,hlo⟩:=low_ex (a + 1) (by omega)
      have hlow:=bitAnd_low (b:=a + 1) (by omega) hlo
      have hll:2 ^ l <= a + 1:=by omega
      have hln:l < n:=(Nat.pow_lt_pow_iff_right (a:=2) (by decide)).mp (by omega)
      have hlp:0 < 2 ^ l:=Nat.pow_pos (by decide)
      have hst:=ind_step (nr:=nr) (l:=l) (m:=m) (n:=n) (z:=rw l) (by rw [<- hl];omega) (hbit l hln)
      rw [<- hl] at hst
      walk_at "vg"
      refine tSq_step fun N1 hN1=>?_
      walk_at "vx"
      rw [hlow,show (((l + 1:Nat):Int) - 1) = (l:Nat) by omega]
      subst hN1
      refine tSq_step fun N1 hN1=>?_
      walk_at "vx"
      have hsub:((a + 1:Nat):Int) - 1 * 2 ^ ((l:Int)).toNat = ((a + 1 - 2 ^ l:Nat):Int):=by
        have:(2 ^ ((l:Int)).toNat:Int) = ((2 ^ l:Nat):Int):=by rw [Int.toNat_natCast,Int.natCast_pow];rfl
        rw [this];omega
      have fin:N1 [some (.sh (.int (n:Nat))),some (.sh (.lst (ts.map trD))),some (.sh (.int bd)),some (.own (cntL n rw)),x4,x5,x6,some (.own ((List.range (a + 1 + 1)).map fun b=>D.bl (indB nr b))),some (.sh (ilD (-((pl n b0).length:Int)) (pl n b0))),some (.sh (.int ((a + 1:Nat):Int))),some (.sh (.int (l:Nat))),x11]:=by
        subst hN1
        walk_at "vx"
        refine ix_lst_at (n:=a + 1) rfl (by rw [List.getElem?_map,List.getElem?_range (by omega)];rfl) ?_
        walk_at "vx"
        by_cases hg:indB nr (a + 1) = true
        · refine (if_pos hg).mpr ?_
          rw [Int.toNat_natCast,rngD_map]
          refine ⟨by omega,compD_on (fun i:Nat=>.int (0 + (i:Nat))) (fun i:Nat=>if (a + 1).testBit i = true then some (D.int (i:Nat)) else none) (List.range n) (fun i hi A Bn ha=>?_) (by rw [List.length_range,sz];omega) ?_⟩
          · have hi:=List.mem_range.mp hi
            rw [Int.zero_add]
            walk_at "vx"
            refine ⟨by omega,⟨rfl,rfl⟩,?_⟩
            have hb:=bit_eq (a + 1) i
            rw [Int.toNat_natCast,eqD_int04,hb]
            by_cases ht:(a + 1).testBit i = true
            · rw [if_pos ht] at ha
              exact (if_pos ht).mpr ha
            · rw [if_neg ht] at ha
              exact (if_neg ht).mpr ha
          · have ef:(List.range n).filterMap (fun i:Nat=>if (a + 1).testBit i = true then some (D.int (i:Nat)) else none) = (pl n (a + 1)).map D.int:=by
              unfold pl
              rw [List.map_map]
              clear hN'
              induction List.range n with
              | nil=>rfl
              | cons x r ih =>
                rw [List.filterMap_cons,List.filter_cons]
                cases (a + 1).testBit x with
                | true=>simp only [if_true,List.map_cons];rw [ih];rfl
                | false=>simp only [Bool.false_eq_true,if_false];exact ih
            rw [ef,List.length_map]
            refine ⟨by decide,(-((pl n b0).length:Int),pl n b0),(0 - ((pl n (a + 1)).length:Int),pl n (a + 1)),rfl,rfl,?_⟩
            have hlt:ltIL (0 - ((pl n (a + 1)).length:Int),pl n (a + 1)) (-((pl n b0).length:Int),pl n b0) = HT.lexLt (keyL (pl n (a + 1))) (keyL (pl n b0)):=by
              rw [Int.zero_sub];rfl
            rw [hlt]
            cases hc:HT.lexLt (keyL (pl n (a + 1))) (keyL (pl n b0)) with
            | true =>
              refine hN' _ ⟨a + 1,_,_,_,by rw [if_pos rfl,Int.zero_sub];rfl,Nat.le_refl _,indB_eq.mp hg,fun b' hb' hi'=>?_⟩
              by_cases e:b' = a + 1
              · subst e;exact Vs.lx_irrefl _
              · cases hd:HT.lexLt (keyL (pl n b')) (keyL (pl n (a + 1))) with
                | false=>rfl
                | true =>
                  have:=hbest b' (by omega) hi'
                  rw [Vs.lx_trans _ _ _ hd hc] at this
                  cases this
            | false =>
              refine hN' _ ⟨b0,_,_,_,by rw [if_neg (by decide)],by omega,hi0,fun b' hb' hi'=>?_⟩
              by_cases e:b' = a + 1
              · subst e;exact hc
              · exact hbest b' (by omega) hi'
        · refine (if_neg hg).mpr (hN' _ ⟨b0,_,_,_,rfl,by omega,hi0,fun b' hb' hi'=>?_⟩)
          by_cases e:b' = a + 1
          · subst e;exact absurd (indB_eq.mpr hi') hg
          · exact hbest b' (by omega) hi'
      refine ⟨⟨_,rfl⟩,by unfold CPow;omega,?_⟩
      rw [hsub]
      refine ix_lst_at (n:=a + 1 - 2 ^ l) rfl (by rw [List.getElem?_map,List.getElem?_range (by omega)];rfl) ?_
      dsimp only
      rw [List.range_succ,List.map_append] at fin
      by_cases hg:indB nr (a + 1 - 2 ^ l) = true
      · refine (if_pos hg).mpr (ix_lst_at (n:=l) rfl (cntL_get _ hln) ?_)
        walk_at "vx"
        refine ⟨⟨rfl,rfl⟩,by rw [hlen,sz];omega,?_⟩
        rw [show eqD (.int (Builtin.bitAnd ((rw l:Nat):Int) ((a + 1:Nat):Int))) (.int 0) = indB nr (a + 1) from by
          rw [bitAnd_nat,Bool.eq_iff_iff,indB_eq,hst]
          constructor
          · intro z
            have z:((rw l &&& (a + 1):Nat):Int) = 0:=by simpa [eqD] using z
            exact ⟨indB_eq.mp hg,by omega⟩
          · intro z
            rw [z.2];exact eqD_int' 0]
        exact fin
      · refine (if_neg hg).mpr ⟨by rw [hlen,sz];omega,?_⟩
        rw [List.map_cons,show indB nr (a + 1) = false from by
          cases e:indB nr (a + 1) with
          | false=>rfl
          | true=>exact absurd (indB_eq.mpr (hst.mp (indB_eq.mp e)).1) hg] at fin
        exact fin
    · obtain ⟨b0,x9,x10,x11,rfl,hb0,hi0,hbest⟩:=hI
      show N _
      subst hN
      walk_at "vx"
      unfold ilD
      refine ix_tup_at (n:=1) rfl rfl ?_
      walk_at "vx"
      rw [List.length_range] at hb0 hbest
      rw [MO_eq (b0:=b0) hm (by omega) hi0 fun b' hb' hi'=>hbest b' (by omega) hi'] at h
      exact h
    · have e0:indB nr 0 = true:=indB_eq.mpr fun i j _ hi _=>by rw [Nat.zero_testBit] at hi;cases hi
      have e1:pl n 0 = []:=by unfold pl;rw [List.filter_eq_nil_iff.mpr fun i _=>by rw [Nat.zero_testBit];decide];rfl
      rw [e1,show (List.range (0 + 1)).map (fun b=>D.bl (indB nr b)) = [D.bl (indB nr 0)] from rfl,e0]
      rfl
    · exact fun i j _ hi _=>by rw [Nat.zero_testBit] at hi;cases hi
    · intro b' hb' _
      obtain rfl:b' = 0:=by omega
      exact Vs.lx_irrefl _

theorem mem_cut {α:Type} {xs:List α} {i j:Option Int} {x:α} (h:x ∈ cut xs i j):x ∈ xs:=by
  unfold cut at h
  exact List.mem_of_mem_drop (List.mem_of_mem_take h)
theorem ints_okA (l:List Int) (h:l.length <= 1000):okA 2 (.lst (l.map D.int)) = true:=by
  show (decide ((l.map D.int).length <= 1000000) && (l.map D.int).all (okA 1)) = true
  rw [List.length_map,decide_eq_true (by omega)]
  refine List.all_eq_true.mpr fun d hd=>?_
  obtain ⟨k,_,rfl⟩:=List.mem_map.mp hd
  rfl
noncomputable def sp_q21:FSp:=fun ds Q=>∃ ns:List Int,ds = [.scr ns] /\ ns.length <= 63 /\ Q (.sh (.bl true))
theorem p_q21 (ds:List D) (Q:B -> Prop) (h:sp_q21 ds Q):t_q21 sp_reel sp_rpoints sp_take sp_lpairs sp_bounds sp_best sp_apart (sp_alike 3) { nx:=fun _=>Q (.sh .non),rt:=fun b _=>Q b } (startD N_q21.length ds):=by
  obtain ⟨ns,rfl,hns,h⟩:=h
  unfold t_q21
  refine tSq_step fun N hN=>?_
  show tForD _ _ _ _ _
  generalize ht:tSq (tSt [] 3 _) _ = tb
  walk_at "vx"
  rw [cut_map,show ([D.int (ns.length:Int)]:List D) = [(ns.length:Int)].map D.int from rfl,<- List.map_append,enumD_map]
  have hz:=cut_len ns none (some 2)
  refine ⟨by decide,by rw [sz,List.length_map];omega,?_⟩
  refine forD_on (fun q:Nat × Int=>.tup [.int (q.1:Nat),.int q.2]) _ (fun i σ=>∃ x1 x2 x3 x4 x5 x6 x7 x8 x9 x10 x11 x12,σ = [some (.sh (.scr ns)),x1,x2,x3,x4,x5,x6,x7,x8,x9,x10,x11,x12]) (fun i q σ N' hx hI hN'=>?_) (fun σ hI=>?_) ⟨none,none,none,none,none,none,none,none,none,none,none,none,rfl⟩
  · obtain ⟨x1,x2,x3,x4,x5,x6,x7,x8,x9,x10,x11,x12,rfl⟩:=hI
    obtain ⟨i',c⟩:=q
    walk_at "vg"
    subst ht
    -- reel
    refine tSq_step fun N1 hN1=>?_
    walk_at "vx"
    refine ⟨c,rfl,fun r0 hr0=>?_⟩
    walk_at "vx"
    subst hN1
    -- points
    refine tSq_step fun N1 hN1=>?_
    have key:∀ pts n r,Good n pts -> pts.length <= 14 -> ReelOk r -> N1 [some (.sh (.scr ns)),some (.sh (.int (i':Nat))),some (.sh (.int c)),some (.own r),some (.own (pts.map ptD)),x5,x6,x7,x8,x9,x10,x11,x12]:=by
      intro pts n r hg hl hr
      subst hN1
      -- way
      refine tSq_step fun N2 hN2=>?_
      walk_at "vx"
      refine ⟨by decide,⟨_,rfl⟩,hr,2,rfl,by decide,by decide,fun w r1 w0 w1 hr1=>?_⟩
      walk_at "vx"
      refine ix_lst_all w0 (by simp only [List.length_cons,List.length_nil];omega) fun d hd=>?_
      obtain ⟨b,rfl⟩:∃ b,d = wayD b:=by
        simp only [List.mem_cons,List.not_mem_nil,or_false] at hd
        rcases hd with rfl | rfl
        · exact ⟨false,rfl⟩
        · exact ⟨true,rfl⟩
      subst hN2
      -- pairs
      refine tSq_step fun N2 hN2=>?_
      walk_at "vx"
      refine ⟨b,n,pts,rfl,hg,by omega,?_⟩
      walk_at "vx"
      subst hN2
      -- handed
      refine tSq_step fun N2 hN2=>?_
      walk_at "vx"
      subst hN2
      -- bounds
      refine tSq_step fun N2 hN2=>?_
      walk_at "vx"
      refine ⟨⟨_,rfl⟩,hr1,b,pts,rfl,by omega,fun js r2 hjs hr2=>?_⟩
      walk_at "vx"
      subst hN2
      refine tSq_step fun N2 hN2=>?_
      have go:∀ js:List Int,(∀ j ∈ js,0 <= j) -> N2 [some (.sh (.scr ns)),some (.sh (.int (i':Nat))),some (.sh (.int c)),some (.own r2),some (.sh (.lst (pts.map ptD))),some (.sh (wayD b)),some (.sh (.lst (sortD (pairsD b pts)))),some (.own (pts.map ptD)),some (.own (js.map D.int)),x9,x10,x11,x12]:=by
        intro js hjs
        subst hN2
        show tForD _ _ _ _ _
        generalize ht:tSq (tSt [] 10 _) _ = tb
        walk_at "vx"
        refine forD_on D.int js (fun i σ=>∃ hd y9 y10 y11 y12,σ = [some (.sh (.scr ns)),some (.sh (.int (i':Nat))),some (.sh (.int c)),some (.own r2),some (.sh (.lst (pts.map ptD))),some (.sh (wayD b)),some (.sh (.lst (sortD (pairsD b pts)))),some hd,some (.sh (.lst (js.map D.int))),y9,y10,y11,y12] /\ (hd = .own (pts.map ptD) \/ hd = .sh (.lst (pts.map ptD)))) (fun i j σ N3 hx hI hN3=>?_) (fun σ hI=>?_) ⟨_,_,_,_,_,rfl,.inl rfl⟩
        · obtain ⟨hd,y9,y10,y11,y12,rfl,hd2⟩:=hI
          have hj:=hjs j (List.mem_of_getElem? hx)
          subst ht
          walk_at "vg"
          -- due
          refine tSq_step fun N4 hN4=>?_
          walk_at "vx"
          rw [List.length_map]
          refine ⟨b,pts,j,rfl,hl,?_⟩
          walk_at "vx"
          generalize hmo:MO (nrB b pts j) 14 (rngI pts.length) = mo
          have hml:mo.length <= 1000:=by
            rw [<- hmo]
            have:=MO_len (nrB b pts j) 14 (rngI pts.length)
            have h2:(rngI pts.length).length = pts.length:=by unfold rngI;rw [List.length_map,List.length_range]
            omega
          subst hN4
          -- twice
          try dsimp only
          walk_at "vx"
          rw [rngD_map]
          refine ⟨by decide,forD_on (fun i:Nat=>.int (0 + (i:Nat))) _ (fun i σ=>∃ hd y11 y12,σ = [some (.sh (.scr ns)),some (.sh (.int (i':Nat))),some (.sh (.int c)),some (.own r2),some (.sh (.lst (pts.map ptD))),some (.sh (wayD b)),some (.sh (.lst (sortD (pairsD b pts)))),some hd,some (.sh (.lst (js.map D.int))),some (.sh (.int j)),some (.sh (.lst (mo.map D.int))),y11,y12] /\ (hd = .own (pts.map ptD) \/ hd = .sh (.lst (pts.map ptD)))) (fun i a σ N6 hx hI hN6=>?_) (fun σ hI=>?_) ⟨_,_,_,rfl,hd2⟩⟩
          · obtain ⟨hd,y11,y12,rfl,hd2⟩:=hI
            walk_at "vg"
            refine tSq_step fun N7 hN7=>?_
            have go7:N7 [some (.sh (.scr ns)),some (.sh (.int (i':Nat))),some (.sh (.int c)),some (.own r2),some (.sh (.lst (pts.map ptD))),some (.sh (wayD b)),some (.sh (.lst (sortD (pairsD b pts)))),some (.sh (.lst (pts.map ptD))),some (.sh (.lst (js.map D.int))),some (.sh (.int j)),some (.sh (.lst (mo.map D.int))),some (.sh (.int (a:Nat))),some (.own (mo.map D.int))]:=by
              subst hN7
              refine tSq_step fun N8 hN8=>?_
              walk_at "vx"
              refine ⟨_,rfl,ints_okA mo hml,?_⟩
              walk_at "vx"
              refine ⟨⟨ok_pts pts,ok_pts pts⟩,?_⟩
              rw [eqD_pts]
              subst hN8
              walk_at "vx"
              exact ⟨⟨_,rfl⟩,by rw [sz,List.length_map];omega,hN6 _ ⟨_,_,_,rfl,.inr rfl⟩⟩
            rcases hd2 with rfl | rfl
            all_goals
              walk_at "vx"
              refine ⟨b,n,pts,j,rfl,hg,by omega,hj,?_⟩
              rw [hmo]
              exact go7
          · obtain ⟨hd,y11,y12,rfl,hd2⟩:=hI
            exact hN3 _ ⟨_,_,_,_,_,rfl,hd2⟩
        · obtain ⟨hd,y9,y10,y11,y12,rfl,hd2⟩:=hI
          exact hN' _ ⟨_,_,_,_,_,_,_,_,_,_,_,_,rfl⟩
      walk_at "vx"
      split
      · rw [cut_map]
        exact go _ fun j hj=>hjs j (mem_cut hj)
      · exact go js hjs
    walk_at "vx"
    refine ⟨⟨_,rfl⟩,by decide,⟨rfl,rfl⟩,?_⟩
    split
    · refine ⟨⟨_,rfl⟩,hr0,4,rfl,by decide,by decide,fun t r1 _ _ hr1=>?_⟩
      walk_at "vx"
      refine ⟨⟨rfl,rfl⟩,?_⟩
      refine ix_lst_all (by split<;>omega) (by simp only [List.length_cons,List.length_nil];split<;>omega) fun d hd=>?_
      simp only [List.mem_cons,List.not_mem_nil,or_false] at hd
      rcases hd with rfl | rfl
      · exact ⟨hr1,9,rfl,by decide,fun pts n ys hg hl hy=>key pts n ys hg (by omega) hy⟩
      · exact ⟨hr1,14,rfl,by decide,fun pts n ys hg hl hy=>key pts n ys hg (by omega) hy⟩
    · refine ix_lst_all (by first | decide | (split<;>omega)) (by simp only [List.length_cons,List.length_nil];first | decide | (split<;>omega)) fun d hd=>?_
      simp only [List.mem_cons,List.not_mem_nil,or_false] at hd
      rcases hd with rfl | rfl
      · exact ⟨hr0,9,rfl,by decide,fun pts n ys hg hl hy=>key pts n ys hg (by omega) hy⟩
      · exact ⟨hr0,14,rfl,by decide,fun pts n ys hg hl hy=>key pts n ys hg (by omega) hy⟩
  · obtain ⟨x1,x2,x3,x4,x5,x6,x7,x8,x9,x10,x11,x12,rfl⟩:=hI
    subst hN
    walk_at "vx"
    exact h

end
noncomputable def spLaw (K:PySem.W.Frag):Sp:=fun vs H Q _=>∃ (a:Addr) (ns:List Int),vs = [.ref a] /\ SqL K H a (ns.map V.int) /\ ns.length <= 63 /\ ∀ H',Q (.bl true) H'
-- level 16
section
variable [KF] {G:GE} {k:Nat}
theorem fn_none {x:Str} {st:Stmt} {ps:List Str} {f:Addr} {fd:FuncData} (d:FnD G x st ps f fd):FnG G k x fun _ _=>False :=
  ⟨f,fd,ps,⟨fun vs H Q E h=>by obtain ⟨_,_,_,_,_,z,_⟩:=h;exact z.elim,fun A outer s H args us vs Q E _ _ _ _ h=>by obtain ⟨_,_,_,_,_,z,_⟩:=h;exact z.elim⟩,d.m,d.F.kp,d.b⟩
theorem ok_q21 (hK:G.K = KF.K) (hT:KF.tabs = []) (E:Gl G)
    {f_q12:Addr} {fd_q12:FuncData} (d_q12:FnD G "need_count" s_q12 ["count"] f_q12 fd_q12)
    {f_q0:Addr} {fd_q0:FuncData} (d_q0:FnD G "need_as_many_numbers" s_q0 ["point","count"] f_q0 fd_q0)
    {f_q6:Addr} {fd_q6:FuncData} (d_q6:FnD G "need_points" s_q6 ["points"] f_q6 fd_q6)
    {f_q18:Addr} {fd_q18:FuncData} (d_q18:FnD G "need_way" s_q18 ["way"] f_q18 fd_q18)
    {f_q1:Addr} {fd_q1:FuncData} (d_q1:FnD G "need_points_and_way" s_q1 ["points","way"] f_q1 fd_q1)
    {f_q11:Addr} {fd_q11:FuncData} (d_q11:FnD G "need_bound" s_q11 ["bound"] f_q11 fd_q11)
    {f_q3:Addr} {fd_q3:FuncData} (d_q3:FnD G "need_at_most" s_q3 ["points","many"] f_q3 fd_q3)
    {f_q4:Addr} {fd_q4:FuncData} (d_q4:FnD G "far_between" s_q4 ["way","point","other"] f_q4 fd_q4)
    {f_q2:Addr} {fd_q2:FuncData} (d_q2:FnD G "pairs_by_places" s_q2 ["points","way"] f_q2 fd_q2)
    {f_q10:Addr} {fd_q10:FuncData} (d_q10:FnD G "near_pairs" s_q10 ["points","way","bound"] f_q10 fd_q10)
    {f_q20:Addr} {fd_q20:FuncData} (d_q20:FnD G "most_of" s_q20 ["places","near"] f_q20 fd_q20)
    {f_q9:Addr} {fd_q9:FuncData} (d_q9:FnD G "most_apart" s_q9 ["points","way","bound"] f_q9 fd_q9)
    {f_q16:Addr} {fd_q16:FuncData} (d_q16:FnD G "_law_reel" s_q16 ["cell"] f_q16 fd_q16)
    {f_q17:Addr} {fd_q17:FuncData} (d_q17:FnD G "_law_take" s_q17 ["reel","many"] f_q17 fd_q17)
    {f_q13:Addr} {fd_q13:FuncData} (d_q13:FnD G "_law_alike" s_q13 ["found","due"] f_q13 fd_q13)
    {f_q8:Addr} {fd_q8:FuncData} (d_q8:FnD G "_law_points" s_q8 ["reel","most"] f_q8 fd_q8)
    {f_q19:Addr} {fd_q19:FuncData} (d_q19:FnD G "_law_far" s_q19 ["way","one","other"] f_q19 fd_q19)
    {f_q14:Addr} {fd_q14:FuncData} (d_q14:FnD G "_law_pairs" s_q14 ["points","way"] f_q14 fd_q14)
    {f_q7:Addr} {fd_q7:FuncData} (d_q7:FnD G "_law_bounds" s_q7 ["reel","pairs","least"] f_q7 fd_q7)
    {f_q15:Addr} {fd_q15:FuncData} (d_q15:FnD G "_law_best" s_q15 ["many","pairs","bound"] f_q15 fd_q15)
    {f_q21:Addr} {fd_q21:FuncData} (d_q21:FnD G "law" s_q21 ["script"] f_q21 fd_q21)
   :FnOk G.P G.w G.K G.mg G.base CX0 17 f_q21 fd_q21 ["script"] (spLaw G.K):=by
  have h_q16:FnG G 1 "_law_reel" sp_reel:=d_q16.fg (k:=0) hK sc_q16 (e_q16 E) (fun ds Q h=>by first | (unfold sp_reel at h;split at h<;>first | rfl | exact h.elim) | (obtain ⟨e,_⟩:=h;rw [e];rfl) | (obtain ⟨_,e,_⟩:=h;rw [e];rfl) | (obtain ⟨_,_,e,_⟩:=h;rw [e];rfl) | (obtain ⟨_,_,_,e,_⟩:=h;rw [e];rfl) | (obtain ⟨_,_,_,_,e,_⟩:=h;rw [e];rfl) | (obtain ⟨_,_,_,_,_,e,_⟩:=h;rw [e];rfl) | (obtain ⟨_,_,_,_,_,_,e,_⟩:=h;rw [e];rfl) | (obtain ⟨_,_,_,_,_,_,_,e,_⟩:=h;rw [e];rfl)) p_reel
  have h_q17:FnIo G 1 "_law_take" sp_take:=d_q17.fio (k:=0) hK sc_q17 (e_q17 E) (by decide) (fun xs ds Q h=>by first | (obtain ⟨e,_⟩:=h;rw [e];rfl) | (obtain ⟨_,e,_⟩:=h;rw [e];rfl) | (obtain ⟨_,_,e,_⟩:=h;rw [e];rfl) | (obtain ⟨_,_,_,e,_⟩:=h;rw [e];rfl) | (obtain ⟨_,_,_,_,e,_⟩:=h;rw [e];rfl) | (obtain ⟨_,_,_,_,_,e,_⟩:=h;rw [e];rfl) | (obtain ⟨_,_,_,_,_,_,e,_⟩:=h;rw [e];rfl) | (obtain ⟨_,_,_,_,_,_,_,e,_⟩:=h;rw [e];rfl)) p_take
  have h_q8:FnIo G 2 "_law_points" sp_rpoints:=d_q8.fio (k:=1) hK sc_q8 (e_q8 E (h_q17.mono (by decide))) (by decide) (fun xs ds Q h=>by first | (obtain ⟨e,_⟩:=h;rw [e];rfl) | (obtain ⟨_,e,_⟩:=h;rw [e];rfl) | (obtain ⟨_,_,e,_⟩:=h;rw [e];rfl) | (obtain ⟨_,_,_,e,_⟩:=h;rw [e];rfl) | (obtain ⟨_,_,_,_,e,_⟩:=h;rw [e];rfl) | (obtain ⟨_,_,_,_,_,e,_⟩:=h;rw [e];rfl) | (obtain ⟨_,_,_,_,_,_,e,_⟩:=h;rw [e];rfl) | (obtain ⟨_,_,_,_,_,_,_,e,_⟩:=h;rw [e];rfl)) p_rpoints
  have h_q19:FnG G 1 "_law_far" sp_far:=d_q19.fg (k:=0) hK sc_q19 (e_q19 E) (fun ds Q h=>by first | (unfold sp_far at h;split at h<;>first | rfl | exact h.elim) | (obtain ⟨e,_⟩:=h;rw [e];rfl) | (obtain ⟨_,e,_⟩:=h;rw [e];rfl) | (obtain ⟨_,_,e,_⟩:=h;rw [e];rfl) | (obtain ⟨_,_,_,e,_⟩:=h;rw [e];rfl) | (obtain ⟨_,_,_,_,e,_⟩:=h;rw [e];rfl) | (obtain ⟨_,_,_,_,_,e,_⟩:=h;rw [e];rfl) | (obtain ⟨_,_,_,_,_,_,e,_⟩:=h;rw [e];rfl) | (obtain ⟨_,_,_,_,_,_,_,e,_⟩:=h;rw [e];rfl)) p_lfar
  have h_q14:FnG G 2 "_law_pairs" sp_lpairs:=d_q14.fg (k:=1) hK sc_q14 (e_q14 E (h_q19.mono (by decide))) (fun ds Q h=>by first | (unfold sp_lpairs at h;split at h<;>first | rfl | exact h.elim) | (obtain ⟨e,_⟩:=h;rw [e];rfl) | (obtain ⟨_,e,_⟩:=h;rw [e];rfl) | (obtain ⟨_,_,e,_⟩:=h;rw [e];rfl) | (obtain ⟨_,_,_,e,_⟩:=h;rw [e];rfl) | (obtain ⟨_,_,_,_,e,_⟩:=h;rw [e];rfl) | (obtain ⟨_,_,_,_,_,e,_⟩:=h;rw [e];rfl) | (obtain ⟨_,_,_,_,_,_,e,_⟩:=h;rw [e];rfl) | (obtain ⟨_,_,_,_,_,_,_,e,_⟩:=h;rw [e];rfl)) p_lpairs
  have h_q7:FnIo G 2 "_law_bounds" sp_bounds:=d_q7.fio (k:=1) hK sc_q7 (e_q7 E (h_q17.mono (by decide))) (by decide) (fun xs ds Q h=>by first | (obtain ⟨e,_⟩:=h;rw [e];rfl) | (obtain ⟨_,e,_⟩:=h;rw [e];rfl) | (obtain ⟨_,_,e,_⟩:=h;rw [e];rfl) | (obtain ⟨_,_,_,e,_⟩:=h;rw [e];rfl) | (obtain ⟨_,_,_,_,e,_⟩:=h;rw [e];rfl) | (obtain ⟨_,_,_,_,_,e,_⟩:=h;rw [e];rfl) | (obtain ⟨_,_,_,_,_,_,e,_⟩:=h;rw [e];rfl) | (obtain ⟨_,_,_,_,_,_,_,e,_⟩:=h;rw [e];rfl)) p_bounds
  have h_q15:FnG G 1 "_law_best" sp_best:=d_q15.fg (k:=0) hK sc_q15 (e_q15 E) (fun ds Q h=>by first | (unfold sp_best at h;split at h<;>first | rfl | exact h.elim) | (obtain ⟨e,_⟩:=h;rw [e];rfl) | (obtain ⟨_,e,_⟩:=h;rw [e];rfl) | (obtain ⟨_,_,e,_⟩:=h;rw [e];rfl) | (obtain ⟨_,_,_,e,_⟩:=h;rw [e];rfl) | (obtain ⟨_,_,_,_,e,_⟩:=h;rw [e];rfl) | (obtain ⟨_,_,_,_,_,e,_⟩:=h;rw [e];rfl) | (obtain ⟨_,_,_,_,_,_,e,_⟩:=h;rw [e];rfl) | (obtain ⟨_,_,_,_,_,_,_,e,_⟩:=h;rw [e];rfl)) p_best
  have h_q12:FnG G 1 "need_count" sp_ncount:=d_q12.fg (k:=0) hK sc_q12 (e_q12 E) (fun ds Q h=>by first | (unfold sp_ncount at h;split at h<;>first | rfl | exact h.elim) | (obtain ⟨e,_⟩:=h;rw [e];rfl) | (obtain ⟨_,e,_⟩:=h;rw [e];rfl) | (obtain ⟨_,_,e,_⟩:=h;rw [e];rfl) | (obtain ⟨_,_,_,e,_⟩:=h;rw [e];rfl) | (obtain ⟨_,_,_,_,e,_⟩:=h;rw [e];rfl) | (obtain ⟨_,_,_,_,_,e,_⟩:=h;rw [e];rfl) | (obtain ⟨_,_,_,_,_,_,e,_⟩:=h;rw [e];rfl) | (obtain ⟨_,_,_,_,_,_,_,e,_⟩:=h;rw [e];rfl)) p_ncount
  have h_q0:FnG G 1 "need_as_many_numbers" sp_nas:=d_q0.fg (k:=0) hK sc_q0 (e_q0 E) (fun ds Q h=>by first | (unfold sp_nas at h;split at h<;>first | rfl | exact h.elim) | (obtain ⟨e,_⟩:=h;rw [e];rfl) | (obtain ⟨_,e,_⟩:=h;rw [e];rfl) | (obtain ⟨_,_,e,_⟩:=h;rw [e];rfl) | (obtain ⟨_,_,_,e,_⟩:=h;rw [e];rfl) | (obtain ⟨_,_,_,_,e,_⟩:=h;rw [e];rfl) | (obtain ⟨_,_,_,_,_,e,_⟩:=h;rw [e];rfl) | (obtain ⟨_,_,_,_,_,_,e,_⟩:=h;rw [e];rfl) | (obtain ⟨_,_,_,_,_,_,_,e,_⟩:=h;rw [e];rfl)) p_nas
  have h_q6:FnG G 2 "need_points" sp_npts:=d_q6.fg (k:=1) hK sc_q6 (e_q6 E (h_q12.mono (by decide)) (h_q0.mono (by decide))) (fun ds Q h=>by first | (unfold sp_npts at h;split at h<;>first | rfl | exact h.elim) | (obtain ⟨e,_⟩:=h;rw [e];rfl) | (obtain ⟨_,e,_⟩:=h;rw [e];rfl) | (obtain ⟨_,_,e,_⟩:=h;rw [e];rfl) | (obtain ⟨_,_,_,e,_⟩:=h;rw [e];rfl) | (obtain ⟨_,_,_,_,e,_⟩:=h;rw [e];rfl) | (obtain ⟨_,_,_,_,_,e,_⟩:=h;rw [e];rfl) | (obtain ⟨_,_,_,_,_,_,e,_⟩:=h;rw [e];rfl) | (obtain ⟨_,_,_,_,_,_,_,e,_⟩:=h;rw [e];rfl)) p_npts
  have h_q18:FnG G 1 "need_way" sp_nway:=d_q18.fg (k:=0) hK sc_q18 (e_q18 E) (fun ds Q h=>by first | (unfold sp_nway at h;split at h<;>first | rfl | exact h.elim) | (obtain ⟨e,_⟩:=h;rw [e];rfl) | (obtain ⟨_,e,_⟩:=h;rw [e];rfl) | (obtain ⟨_,_,e,_⟩:=h;rw [e];rfl) | (obtain ⟨_,_,_,e,_⟩:=h;rw [e];rfl) | (obtain ⟨_,_,_,_,e,_⟩:=h;rw [e];rfl) | (obtain ⟨_,_,_,_,_,e,_⟩:=h;rw [e];rfl) | (obtain ⟨_,_,_,_,_,_,e,_⟩:=h;rw [e];rfl) | (obtain ⟨_,_,_,_,_,_,_,e,_⟩:=h;rw [e];rfl)) p_nway
  have h_q1:FnG G 3 "need_points_and_way" sp_npw:=d_q1.fg (k:=2) hK sc_q1 (e_q1 E (h_q6.mono (by decide)) (h_q18.mono (by decide))) (fun ds Q h=>by first | (unfold sp_npw at h;split at h<;>first | rfl | exact h.elim) | (obtain ⟨e,_⟩:=h;rw [e];rfl) | (obtain ⟨_,e,_⟩:=h;rw [e];rfl) | (obtain ⟨_,_,e,_⟩:=h;rw [e];rfl) | (obtain ⟨_,_,_,e,_⟩:=h;rw [e];rfl) | (obtain ⟨_,_,_,_,e,_⟩:=h;rw [e];rfl) | (obtain ⟨_,_,_,_,_,e,_⟩:=h;rw [e];rfl) | (obtain ⟨_,_,_,_,_,_,e,_⟩:=h;rw [e];rfl) | (obtain ⟨_,_,_,_,_,_,_,e,_⟩:=h;rw [e];rfl)) p_npw
  have h_q11:FnG G 1 "need_bound" sp_nbound:=d_q11.fg (k:=0) hK sc_q11 (e_q11 E) (fun ds Q h=>by first | (unfold sp_nbound at h;split at h<;>first | rfl | exact h.elim) | (obtain ⟨e,_⟩:=h;rw [e];rfl) | (obtain ⟨_,e,_⟩:=h;rw [e];rfl) | (obtain ⟨_,_,e,_⟩:=h;rw [e];rfl) | (obtain ⟨_,_,_,e,_⟩:=h;rw [e];rfl) | (obtain ⟨_,_,_,_,e,_⟩:=h;rw [e];rfl) | (obtain ⟨_,_,_,_,_,e,_⟩:=h;rw [e];rfl) | (obtain ⟨_,_,_,_,_,_,e,_⟩:=h;rw [e];rfl) | (obtain ⟨_,_,_,_,_,_,_,e,_⟩:=h;rw [e];rfl)) p_nbound
  have h_q4:FnG G 1 "far_between" sp_far:=d_q4.fg (k:=0) hK sc_q4 (e_q4 E) (fun ds Q h=>by first | (unfold sp_far at h;split at h<;>first | rfl | exact h.elim) | (obtain ⟨e,_⟩:=h;rw [e];rfl) | (obtain ⟨_,e,_⟩:=h;rw [e];rfl) | (obtain ⟨_,_,e,_⟩:=h;rw [e];rfl) | (obtain ⟨_,_,_,e,_⟩:=h;rw [e];rfl) | (obtain ⟨_,_,_,_,e,_⟩:=h;rw [e];rfl) | (obtain ⟨_,_,_,_,_,e,_⟩:=h;rw [e];rfl) | (obtain ⟨_,_,_,_,_,_,e,_⟩:=h;rw [e];rfl) | (obtain ⟨_,_,_,_,_,_,_,e,_⟩:=h;rw [e];rfl)) p_far
  have h_q2:FnG G 2 "pairs_by_places" sp_pairs:=d_q2.fg (k:=1) hK sc_q2 (e_q2 E (h_q4.mono (by decide))) (fun ds Q h=>by first | (unfold sp_pairs at h;split at h<;>first | rfl | exact h.elim) | (obtain ⟨e,_⟩:=h;rw [e];rfl) | (obtain ⟨_,e,_⟩:=h;rw [e];rfl) | (obtain ⟨_,_,e,_⟩:=h;rw [e];rfl) | (obtain ⟨_,_,_,e,_⟩:=h;rw [e];rfl) | (obtain ⟨_,_,_,_,e,_⟩:=h;rw [e];rfl) | (obtain ⟨_,_,_,_,_,e,_⟩:=h;rw [e];rfl) | (obtain ⟨_,_,_,_,_,_,e,_⟩:=h;rw [e];rfl) | (obtain ⟨_,_,_,_,_,_,_,e,_⟩:=h;rw [e];rfl)) p_pairs
  have h_q10:FnG G 4 "near_pairs" sp_near:=d_q10.fg (k:=3) hK sc_q10 (e_q10 E (h_q1.mono (by decide)) (h_q11.mono (by decide)) (h_q2.mono (by decide))) (fun ds Q h=>by first | (unfold sp_near at h;split at h<;>first | rfl | exact h.elim) | (obtain ⟨e,_⟩:=h;rw [e];rfl) | (obtain ⟨_,e,_⟩:=h;rw [e];rfl) | (obtain ⟨_,_,e,_⟩:=h;rw [e];rfl) | (obtain ⟨_,_,_,e,_⟩:=h;rw [e];rfl) | (obtain ⟨_,_,_,_,e,_⟩:=h;rw [e];rfl) | (obtain ⟨_,_,_,_,_,e,_⟩:=h;rw [e];rfl) | (obtain ⟨_,_,_,_,_,_,e,_⟩:=h;rw [e];rfl) | (obtain ⟨_,_,_,_,_,_,_,e,_⟩:=h;rw [e];rfl)) p_near
  have h_q3:FnG G 1 "need_at_most" sp_natm:=d_q3.fg (k:=0) hK sc_q3 (e_q3 E) (fun ds Q h=>by first | (unfold sp_natm at h;split at h<;>first | rfl | exact h.elim) | (obtain ⟨e,_⟩:=h;rw [e];rfl) | (obtain ⟨_,e,_⟩:=h;rw [e];rfl) | (obtain ⟨_,_,e,_⟩:=h;rw [e];rfl) | (obtain ⟨_,_,_,e,_⟩:=h;rw [e];rfl) | (obtain ⟨_,_,_,_,e,_⟩:=h;rw [e];rfl) | (obtain ⟨_,_,_,_,_,e,_⟩:=h;rw [e];rfl) | (obtain ⟨_,_,_,_,_,_,e,_⟩:=h;rw [e];rfl) | (obtain ⟨_,_,_,_,_,_,_,e,_⟩:=h;rw [e];rfl)) p_natm
  have h_most_ofA:∀ n,FnG G (0 + n) "most_of" (sp_most n):=by
    intro n
    induction n with
    | zero=>exact fn_none d_q20
    | succ n ih=>exact d_q20.fg (k:=0 + n) hK sc_q20 (e_q20 E ih) (fun ds Q h=>by first | (unfold sp_most at h;split at h<;>first | rfl | exact h.elim) | (obtain ⟨e,_⟩:=h;rw [e];rfl) | (obtain ⟨_,e,_⟩:=h;rw [e];rfl) | (obtain ⟨_,_,e,_⟩:=h;rw [e];rfl) | (obtain ⟨_,_,_,e,_⟩:=h;rw [e];rfl) | (obtain ⟨_,_,_,_,e,_⟩:=h;rw [e];rfl) | (obtain ⟨_,_,_,_,_,e,_⟩:=h;rw [e];rfl) | (obtain ⟨_,_,_,_,_,_,e,_⟩:=h;rw [e];rfl) | (obtain ⟨_,_,_,_,_,_,_,e,_⟩:=h;rw [e];rfl)) (p_most n)
  have h_q20:FnG G 15 "most_of" (sp_most 15):=h_most_ofA 15
  have h_q9:FnG G 16 "most_apart" sp_apart:=d_q9.fg (k:=15) hK sc_q9 (e_q9 E (h_q10.mono (by decide)) (h_q3.mono (by decide)) (h_q20.mono (by decide))) (fun ds Q h=>by first | (unfold sp_apart at h;split at h<;>first | rfl | exact h.elim) | (obtain ⟨e,_⟩:=h;rw [e];rfl) | (obtain ⟨_,e,_⟩:=h;rw [e];rfl) | (obtain ⟨_,_,e,_⟩:=h;rw [e];rfl) | (obtain ⟨_,_,_,e,_⟩:=h;rw [e];rfl) | (obtain ⟨_,_,_,_,e,_⟩:=h;rw [e];rfl) | (obtain ⟨_,_,_,_,_,e,_⟩:=h;rw [e];rfl) | (obtain ⟨_,_,_,_,_,_,e,_⟩:=h;rw [e];rfl) | (obtain ⟨_,_,_,_,_,_,_,e,_⟩:=h;rw [e];rfl)) p_apart
  have h_law_alike1:FnG G 1 "_law_alike" (sp_alike 1):=d_q13.fg (k:=0) hK sc_q13 (e_q13 E (sp_q13:=sp_alike 0) (fn_none d_q13)) (fun ds Q h=>by first | (unfold sp_alike at h;split at h<;>first | rfl | exact h.elim) | (obtain ⟨e,_⟩:=h;rw [e];rfl) | (obtain ⟨_,e,_⟩:=h;rw [e];rfl) | (obtain ⟨_,_,e,_⟩:=h;rw [e];rfl) | (obtain ⟨_,_,_,e,_⟩:=h;rw [e];rfl) | (obtain ⟨_,_,_,_,e,_⟩:=h;rw [e];rfl) | (obtain ⟨_,_,_,_,_,e,_⟩:=h;rw [e];rfl) | (obtain ⟨_,_,_,_,_,_,e,_⟩:=h;rw [e];rfl) | (obtain ⟨_,_,_,_,_,_,_,e,_⟩:=h;rw [e];rfl)) (p_alike 0)
  have h_law_alike2:FnG G 2 "_law_alike" (sp_alike 2):=d_q13.fg (k:=1) hK sc_q13 (e_q13 E (h_law_alike1.mono (by decide))) (fun ds Q h=>by first | (unfold sp_alike at h;split at h<;>first | rfl | exact h.elim) | (obtain ⟨e,_⟩:=h;rw [e];rfl) | (obtain ⟨_,e,_⟩:=h;rw [e];rfl) | (obtain ⟨_,_,e,_⟩:=h;rw [e];rfl) | (obtain ⟨_,_,_,e,_⟩:=h;rw [e];rfl) | (obtain ⟨_,_,_,_,e,_⟩:=h;rw [e];rfl) | (obtain ⟨_,_,_,_,_,e,_⟩:=h;rw [e];rfl) | (obtain ⟨_,_,_,_,_,_,e,_⟩:=h;rw [e];rfl) | (obtain ⟨_,_,_,_,_,_,_,e,_⟩:=h;rw [e];rfl)) (p_alike 1)
  have h_law_alike3:FnG G 3 "_law_alike" (sp_alike 3):=d_q13.fg (k:=2) hK sc_q13 (e_q13 E (h_law_alike2.mono (by decide))) (fun ds Q h=>by first | (unfold sp_alike at h;split at h<;>first | rfl | exact h.elim) | (obtain ⟨e,_⟩:=h;rw [e];rfl) | (obtain ⟨_,e,_⟩:=h;rw [e];rfl) | (obtain ⟨_,_,e,_⟩:=h;rw [e];rfl) | (obtain ⟨_,_,_,e,_⟩:=h;rw [e];rfl) | (obtain ⟨_,_,_,_,e,_⟩:=h;rw [e];rfl) | (obtain ⟨_,_,_,_,_,e,_⟩:=h;rw [e];rfl) | (obtain ⟨_,_,_,_,_,_,e,_⟩:=h;rw [e];rfl) | (obtain ⟨_,_,_,_,_,_,_,e,_⟩:=h;rw [e];rfl)) (p_alike 2)
  have h_q13:=h_law_alike3
  refine (fn_ok (k:=16) (sp:=sp_q21) hK d_q21.F sc_q21 (e_q21 E (h_q16.mono (by decide)) (h_q8.mono (by decide)) (h_q17.mono (by decide)) (h_q14.mono (by decide)) (h_q7.mono (by decide)) (h_q15.mono (by decide)) (h_q9.mono (by decide)) (h_q13.mono (by decide))) (fun ds Q h=>by first | (unfold sp_q21 at h;split at h<;>first | rfl | exact h.elim) | (obtain ⟨e,_⟩:=h;rw [e];rfl) | (obtain ⟨_,e,_⟩:=h;rw [e];rfl) | (obtain ⟨_,_,e,_⟩:=h;rw [e];rfl) | (obtain ⟨_,_,_,e,_⟩:=h;rw [e];rfl) | (obtain ⟨_,_,_,_,e,_⟩:=h;rw [e];rfl) | (obtain ⟨_,_,_,_,_,e,_⟩:=h;rw [e];rfl) | (obtain ⟨_,_,_,_,_,_,e,_⟩:=h;rw [e];rfl) | (obtain ⟨_,_,_,_,_,_,_,e,_⟩:=h;rw [e];rfl)) p_q21).imp fun vs H Q E' h=>?_
  obtain ⟨a,ns,rfl,hS,hl,q⟩:=h
  refine ⟨H,[.scr ns],fun b=>b = .sh (.bl true),⟨Same.refl _,fun q hq=>by rw [hT] at hq;cases hq⟩,.cons (.scr (by rw [<- hK];exact hS)) .nil,⟨ns,rfl,hl,rfl⟩,fun v H' F' b _ _ _ _ r e=>?_⟩
  subst e
  have r:Rep F' v (.bl true):=r
  cases r
  exact q H'
end

theorem all_mk {l:PySem.W.OpenLaw} {w:World} {K:PySem.W.Frag} {h:Heap} {mg:Str -> Option Value} {fa:Addr} (X:K.In h) (Gs:h.Ns mainGlobals mg) (hfa:mg "law" = some (.ref fa))
    {f_q12:Addr} {od_q12 an_q12:Option Addr} {sl_q12:Array (Option Value)} {oc_q12 kV_q12 dc_q12 pm_q12 cd_q12 ct_q12:Value}
    {f_q0:Addr} {od_q0 an_q0:Option Addr} {sl_q0:Array (Option Value)} {oc_q0 kV_q0 dc_q0 pm_q0 cd_q0 ct_q0:Value}
    {f_q6:Addr} {od_q6 an_q6:Option Addr} {sl_q6:Array (Option Value)} {oc_q6 kV_q6 dc_q6 pm_q6 cd_q6 ct_q6:Value}
    {f_q18:Addr} {od_q18 an_q18:Option Addr} {sl_q18:Array (Option Value)} {oc_q18 kV_q18 dc_q18 pm_q18 cd_q18 ct_q18:Value}
    {f_q1:Addr} {od_q1 an_q1:Option Addr} {sl_q1:Array (Option Value)} {oc_q1 kV_q1 dc_q1 pm_q1 cd_q1 ct_q1:Value}
    {f_q11:Addr} {od_q11 an_q11:Option Addr} {sl_q11:Array (Option Value)} {oc_q11 kV_q11 dc_q11 pm_q11 cd_q11 ct_q11:Value}
    {f_q3:Addr} {od_q3 an_q3:Option Addr} {sl_q3:Array (Option Value)} {oc_q3 kV_q3 dc_q3 pm_q3 cd_q3 ct_q3:Value}
    {f_q4:Addr} {od_q4 an_q4:Option Addr} {sl_q4:Array (Option Value)} {oc_q4 kV_q4 dc_q4 pm_q4 cd_q4 ct_q4:Value}
    {f_q2:Addr} {od_q2 an_q2:Option Addr} {sl_q2:Array (Option Value)} {oc_q2 kV_q2 dc_q2 pm_q2 cd_q2 ct_q2:Value}
    {f_q10:Addr} {od_q10 an_q10:Option Addr} {sl_q10:Array (Option Value)} {oc_q10 kV_q10 dc_q10 pm_q10 cd_q10 ct_q10:Value}
    {f_q20:Addr} {od_q20 an_q20:Option Addr} {sl_q20:Array (Option Value)} {oc_q20 kV_q20 dc_q20 pm_q20 cd_q20 ct_q20:Value}
    {f_q9:Addr} {od_q9 an_q9:Option Addr} {sl_q9:Array (Option Value)} {oc_q9 kV_q9 dc_q9 pm_q9 cd_q9 ct_q9:Value}
    {f_q16:Addr} {od_q16 an_q16:Option Addr} {sl_q16:Array (Option Value)} {oc_q16 kV_q16 dc_q16 pm_q16 cd_q16 ct_q16:Value}
    {f_q17:Addr} {od_q17 an_q17:Option Addr} {sl_q17:Array (Option Value)} {oc_q17 kV_q17 dc_q17 pm_q17 cd_q17 ct_q17:Value}
    {f_q13:Addr} {od_q13 an_q13:Option Addr} {sl_q13:Array (Option Value)} {oc_q13 kV_q13 dc_q13 pm_q13 cd_q13 ct_q13:Value}
    {f_q8:Addr} {od_q8 an_q8:Option Addr} {sl_q8:Array (Option Value)} {oc_q8 kV_q8 dc_q8 pm_q8 cd_q8 ct_q8:Value}
    {f_q19:Addr} {od_q19 an_q19:Option Addr} {sl_q19:Array (Option Value)} {oc_q19 kV_q19 dc_q19 pm_q19 cd_q19 ct_q19:Value}
    {f_q14:Addr} {od_q14 an_q14:Option Addr} {sl_q14:Array (Option Value)} {oc_q14 kV_q14 dc_q14 pm_q14 cd_q14 ct_q14:Value}
    {f_q7:Addr} {od_q7 an_q7:Option Addr} {sl_q7:Array (Option Value)} {oc_q7 kV_q7 dc_q7 pm_q7 cd_q7 ct_q7:Value}
    {f_q15:Addr} {od_q15 an_q15:Option Addr} {sl_q15:Array (Option Value)} {oc_q15 kV_q15 dc_q15 pm_q15 cd_q15 ct_q15:Value}
    {f_q21:Addr} {od_q21 an_q21:Option Addr} {sl_q21:Array (Option Value)} {oc_q21 kV_q21 dc_q21 pm_q21 cd_q21 ct_q21:Value}
    {tk_MOST_POINTS_APART:Tok}
    {tk_SQUARES:Tok}
    {tk_STREETS:Tok}
    (a_q12:PySem.W.nsIn K mainGlobals "need_count" = some (some (.ref f_q12)))
    (l_q12:K.lookup f_q12 = some ⟨oc_q12,od_q12,.func (PySem.W.fnOf "need_count" "need_count" (defArgs s_q12) (defBody s_q12) (defScope s_q12) .none kV_q12 dc_q12 pm_q12 an_q12 cd_q12 ct_q12),sl_q12⟩)
    (c_q12:PySem.W.codeIn K cd_q12 "need_count" = true) (k_q12:PySem.W.keepIn K (.ref f_q12) = true)
    (a_q0:PySem.W.nsIn K mainGlobals "need_as_many_numbers" = some (some (.ref f_q0)))
    (l_q0:K.lookup f_q0 = some ⟨oc_q0,od_q0,.func (PySem.W.fnOf "need_as_many_numbers" "need_as_many_numbers" (defArgs s_q0) (defBody s_q0) (defScope s_q0) .none kV_q0 dc_q0 pm_q0 an_q0 cd_q0 ct_q0),sl_q0⟩)
    (c_q0:PySem.W.codeIn K cd_q0 "need_as_many_numbers" = true) (k_q0:PySem.W.keepIn K (.ref f_q0) = true)
    (a_q6:PySem.W.nsIn K mainGlobals "need_points" = some (some (.ref f_q6)))
    (l_q6:K.lookup f_q6 = some ⟨oc_q6,od_q6,.func (PySem.W.fnOf "need_points" "need_points" (defArgs s_q6) (defBody s_q6) (defScope s_q6) .none kV_q6 dc_q6 pm_q6 an_q6 cd_q6 ct_q6),sl_q6⟩)
    (c_q6:PySem.W.codeIn K cd_q6 "need_points" = true) (k_q6:PySem.W.keepIn K (.ref f_q6) = true)
    (a_q18:PySem.W.nsIn K mainGlobals "need_way" = some (some (.ref f_q18)))
    (l_q18:K.lookup f_q18 = some ⟨oc_q18,od_q18,.func (PySem.W.fnOf "need_way" "need_way" (defArgs s_q18) (defBody s_q18) (defScope s_q18) .none kV_q18 dc_q18 pm_q18 an_q18 cd_q18 ct_q18),sl_q18⟩)
    (c_q18:PySem.W.codeIn K cd_q18 "need_way" = true) (k_q18:PySem.W.keepIn K (.ref f_q18) = true)
    (a_q1:PySem.W.nsIn K mainGlobals "need_points_and_way" = some (some (.ref f_q1)))
    (l_q1:K.lookup f_q1 = some ⟨oc_q1,od_q1,.func (PySem.W.fnOf "need_points_and_way" "need_points_and_way" (defArgs s_q1) (defBody s_q1) (defScope s_q1) .none kV_q1 dc_q1 pm_q1 an_q1 cd_q1 ct_q1),sl_q1⟩)
    (c_q1:PySem.W.codeIn K cd_q1 "need_points_and_way" = true) (k_q1:PySem.W.keepIn K (.ref f_q1) = true)
    (a_q11:PySem.W.nsIn K mainGlobals "need_bound" = some (some (.ref f_q11)))
    (l_q11:K.lookup f_q11 = some ⟨oc_q11,od_q11,.func (PySem.W.fnOf "need_bound" "need_bound" (defArgs s_q11) (defBody s_q11) (defScope s_q11) .none kV_q11 dc_q11 pm_q11 an_q11 cd_q11 ct_q11),sl_q11⟩)
    (c_q11:PySem.W.codeIn K cd_q11 "need_bound" = true) (k_q11:PySem.W.keepIn K (.ref f_q11) = true)
    (a_q3:PySem.W.nsIn K mainGlobals "need_at_most" = some (some (.ref f_q3)))
    (l_q3:K.lookup f_q3 = some ⟨oc_q3,od_q3,.func (PySem.W.fnOf "need_at_most" "need_at_most" (defArgs s_q3) (defBody s_q3) (defScope s_q3) .none kV_q3 dc_q3 pm_q3 an_q3 cd_q3 ct_q3),sl_q3⟩)
    (c_q3:PySem.W.codeIn K cd_q3 "need_at_most" = true) (k_q3:PySem.W.keepIn K (.ref f_q3) = true)
    (a_q4:PySem.W.nsIn K mainGlobals "far_between" = some (some (.ref f_q4)))
    (l_q4:K.lookup f_q4 = some ⟨oc_q4,od_q4,.func (PySem.W.fnOf "far_between" "far_between" (defArgs s_q4) (defBody s_q4) (defScope s_q4) .none kV_q4 dc_q4 pm_q4 an_q4 cd_q4 ct_q4),sl_q4⟩)
    (c_q4:PySem.W.codeIn K cd_q4 "far_between" = true) (k_q4:PySem.W.keepIn K (.ref f_q4) = true)
    (a_q2:PySem.W.nsIn K mainGlobals "pairs_by_places" = some (some (.ref f_q2)))
    (l_q2:K.lookup f_q2 = some ⟨oc_q2,od_q2,.func (PySem.W.fnOf "pairs_by_places" "pairs_by_places" (defArgs s_q2) (defBody s_q2) (defScope s_q2) .none kV_q2 dc_q2 pm_q2 an_q2 cd_q2 ct_q2),sl_q2⟩)
    (c_q2:PySem.W.codeIn K cd_q2 "pairs_by_places" = true) (k_q2:PySem.W.keepIn K (.ref f_q2) = true)
    (a_q10:PySem.W.nsIn K mainGlobals "near_pairs" = some (some (.ref f_q10)))
    (l_q10:K.lookup f_q10 = some ⟨oc_q10,od_q10,.func (PySem.W.fnOf "near_pairs" "near_pairs" (defArgs s_q10) (defBody s_q10) (defScope s_q10) .none kV_q10 dc_q10 pm_q10 an_q10 cd_q10 ct_q10),sl_q10⟩)
    (c_q10:PySem.W.codeIn K cd_q10 "near_pairs" = true) (k_q10:PySem.W.keepIn K (.ref f_q10) = true)
    (a_q20:PySem.W.nsIn K mainGlobals "most_of" = some (some (.ref f_q20)))
    (l_q20:K.lookup f_q20 = some ⟨oc_q20,od_q20,.func (PySem.W.fnOf "most_of" "most_of" (defArgs s_q20) (defBody s_q20) (defScope s_q20) .none kV_q20 dc_q20 pm_q20 an_q20 cd_q20 ct_q20),sl_q20⟩)
    (c_q20:PySem.W.codeIn K cd_q20 "most_of" = true) (k_q20:PySem.W.keepIn K (.ref f_q20) = true)
    (a_q9:PySem.W.nsIn K mainGlobals "most_apart" = some (some (.ref f_q9)))
    (l_q9:K.lookup f_q9 = some ⟨oc_q9,od_q9,.func (PySem.W.fnOf "most_apart" "most_apart" (defArgs s_q9) (defBody s_q9) (defScope s_q9) .none kV_q9 dc_q9 pm_q9 an_q9 cd_q9 ct_q9),sl_q9⟩)
    (c_q9:PySem.W.codeIn K cd_q9 "most_apart" = true) (k_q9:PySem.W.keepIn K (.ref f_q9) = true)
    (a_q16:PySem.W.nsIn K mainGlobals "_law_reel" = some (some (.ref f_q16)))
    (l_q16:K.lookup f_q16 = some ⟨oc_q16,od_q16,.func (PySem.W.fnOf "_law_reel" "_law_reel" (defArgs s_q16) (defBody s_q16) (defScope s_q16) .none kV_q16 dc_q16 pm_q16 an_q16 cd_q16 ct_q16),sl_q16⟩)
    (c_q16:PySem.W.codeIn K cd_q16 "_law_reel" = true) (k_q16:PySem.W.keepIn K (.ref f_q16) = true)
    (a_q17:PySem.W.nsIn K mainGlobals "_law_take" = some (some (.ref f_q17)))
    (l_q17:K.lookup f_q17 = some ⟨oc_q17,od_q17,.func (PySem.W.fnOf "_law_take" "_law_take" (defArgs s_q17) (defBody s_q17) (defScope s_q17) .none kV_q17 dc_q17 pm_q17 an_q17 cd_q17 ct_q17),sl_q17⟩)
    (c_q17:PySem.W.codeIn K cd_q17 "_law_take" = true) (k_q17:PySem.W.keepIn K (.ref f_q17) = true)
    (a_q13:PySem.W.nsIn K mainGlobals "_law_alike" = some (some (.ref f_q13)))
    (l_q13:K.lookup f_q13 = some ⟨oc_q13,od_q13,.func (PySem.W.fnOf "_law_alike" "_law_alike" (defArgs s_q13) (defBody s_q13) (defScope s_q13) .none kV_q13 dc_q13 pm_q13 an_q13 cd_q13 ct_q13),sl_q13⟩)
    (c_q13:PySem.W.codeIn K cd_q13 "_law_alike" = true) (k_q13:PySem.W.keepIn K (.ref f_q13) = true)
    (a_q8:PySem.W.nsIn K mainGlobals "_law_points" = some (some (.ref f_q8)))
    (l_q8:K.lookup f_q8 = some ⟨oc_q8,od_q8,.func (PySem.W.fnOf "_law_points" "_law_points" (defArgs s_q8) (defBody s_q8) (defScope s_q8) .none kV_q8 dc_q8 pm_q8 an_q8 cd_q8 ct_q8),sl_q8⟩)
    (c_q8:PySem.W.codeIn K cd_q8 "_law_points" = true) (k_q8:PySem.W.keepIn K (.ref f_q8) = true)
    (a_q19:PySem.W.nsIn K mainGlobals "_law_far" = some (some (.ref f_q19)))
    (l_q19:K.lookup f_q19 = some ⟨oc_q19,od_q19,.func (PySem.W.fnOf "_law_far" "_law_far" (defArgs s_q19) (defBody s_q19) (defScope s_q19) .none kV_q19 dc_q19 pm_q19 an_q19 cd_q19 ct_q19),sl_q19⟩)
    (c_q19:PySem.W.codeIn K cd_q19 "_law_far" = true) (k_q19:PySem.W.keepIn K (.ref f_q19) = true)
    (a_q14:PySem.W.nsIn K mainGlobals "_law_pairs" = some (some (.ref f_q14)))
    (l_q14:K.lookup f_q14 = some ⟨oc_q14,od_q14,.func (PySem.W.fnOf "_law_pairs" "_law_pairs" (defArgs s_q14) (defBody s_q14) (defScope s_q14) .none kV_q14 dc_q14 pm_q14 an_q14 cd_q14 ct_q14),sl_q14⟩)
    (c_q14:PySem.W.codeIn K cd_q14 "_law_pairs" = true) (k_q14:PySem.W.keepIn K (.ref f_q14) = true)
    (a_q7:PySem.W.nsIn K mainGlobals "_law_bounds" = some (some (.ref f_q7)))
    (l_q7:K.lookup f_q7 = some ⟨oc_q7,od_q7,.func (PySem.W.fnOf "_law_bounds" "_law_bounds" (defArgs s_q7) (defBody s_q7) (defScope s_q7) .none kV_q7 dc_q7 pm_q7 an_q7 cd_q7 ct_q7),sl_q7⟩)
    (c_q7:PySem.W.codeIn K cd_q7 "_law_bounds" = true) (k_q7:PySem.W.keepIn K (.ref f_q7) = true)
    (a_q15:PySem.W.nsIn K mainGlobals "_law_best" = some (some (.ref f_q15)))
    (l_q15:K.lookup f_q15 = some ⟨oc_q15,od_q15,.func (PySem.W.fnOf "_law_best" "_law_best" (defArgs s_q15) (defBody s_q15) (defScope s_q15) .none kV_q15 dc_q15 pm_q15 an_q15 cd_q15 ct_q15),sl_q15⟩)
    (c_q15:PySem.W.codeIn K cd_q15 "_law_best" = true) (k_q15:PySem.W.keepIn K (.ref f_q15) = true)
    (a_q21:PySem.W.nsIn K mainGlobals "law" = some (some (.ref f_q21)))
    (l_q21:K.lookup f_q21 = some ⟨oc_q21,od_q21,.func (PySem.W.fnOf "law" "law" (defArgs s_q21) (defBody s_q21) (defScope s_q21) .none kV_q21 dc_q21 pm_q21 an_q21 cd_q21 ct_q21),sl_q21⟩)
    (c_q21:PySem.W.codeIn K cd_q21 "law" = true) (k_q21:PySem.W.keepIn K (.ref f_q21) = true)
    (z_abs:PySem.W.nsIn K mainGlobals "abs" = some none)
    (z_bool:PySem.W.nsIn K mainGlobals "bool" = some none)
    (z_enumerate:PySem.W.nsIn K mainGlobals "enumerate" = some none)
    (z_int:PySem.W.nsIn K mainGlobals "int" = some none)
    (z_isinstance:PySem.W.nsIn K mainGlobals "isinstance" = some none)
    (z_len:PySem.W.nsIn K mainGlobals "len" = some none)
    (z_list:PySem.W.nsIn K mainGlobals "list" = some none)
    (z_max:PySem.W.nsIn K mainGlobals "max" = some none)
    (z_min:PySem.W.nsIn K mainGlobals "min" = some none)
    (z_range:PySem.W.nsIn K mainGlobals "range" = some none)
    (z_sorted:PySem.W.nsIn K mainGlobals "sorted" = some none)
    (z_str:PySem.W.nsIn K mainGlobals "str" = some none)
    (z_sum:PySem.W.nsIn K mainGlobals "sum" = some none)
    (z_tuple:PySem.W.nsIn K mainGlobals "tuple" = some none)
    (z_zip:PySem.W.nsIn K mainGlobals "zip" = some none)
    (u_MOST_POINTS_APART:PySem.W.nsIn K mainGlobals "MOST_POINTS_APART" = some (some (.int (14) tk_MOST_POINTS_APART)))
    (u_SQUARES:PySem.W.nsIn K mainGlobals "SQUARES" = some (some (.str "squares" tk_SQUARES)))
    (u_STREETS:PySem.W.nsIn K mainGlobals "STREETS" = some (some (.str "streets" tk_STREETS))) :
    ∃ fd:FuncData,(∀ (s:Shared) (v:Value),BindsTo s fd ⟨[v],[]⟩ [("script",v)]) /\ ∀ base:Heap,K.In base -> base.Ns mainGlobals mg -> FnOk l.prog w K mg base CX0 17 fa fd ["script"] (spLaw K):=by
  have e:=hfa.symm.trans (PySem.W.mg_of X Gs a_q21)
  cases e
  refine ⟨PySem.W.fnOf "law" "law" (defArgs s_q21) (defBody s_q21) (defScope s_q21) .none kV_q21 dc_q21 pm_q21 an_q21 cd_q21 ct_q21,fun s v=>.of_eq rfl,fun base _ _=>?_⟩
  letI:KF:=⟨K,fun _=>0,[]⟩
  have E:Gl ⟨l.prog,w,K,mg,base⟩:=⟨PySem.W.mg_none_of X Gs z_abs,PySem.W.mg_none_of X Gs z_bool,PySem.W.mg_none_of X Gs z_enumerate,PySem.W.mg_none_of X Gs z_int,PySem.W.mg_none_of X Gs z_isinstance,PySem.W.mg_none_of X Gs z_len,PySem.W.mg_none_of X Gs z_list,PySem.W.mg_none_of X Gs z_max,PySem.W.mg_none_of X Gs z_min,PySem.W.mg_none_of X Gs z_range,PySem.W.mg_none_of X Gs z_sorted,PySem.W.mg_none_of X Gs z_str,PySem.W.mg_none_of X Gs z_sum,PySem.W.mg_none_of X Gs z_tuple,PySem.W.mg_none_of X Gs z_zip,⟨_,.int (14),PySem.W.mg_of X Gs u_MOST_POINTS_APART,⟨_,rfl⟩,fun F=>.int _⟩,⟨_,.str "squares",PySem.W.mg_of X Gs u_SQUARES,⟨_,rfl⟩,fun F=>.str _⟩,⟨_,.str "streets",PySem.W.mg_of X Gs u_STREETS,⟨_,rfl⟩,fun F=>.str _⟩⟩
  have F_q12:=fun_mk (K:=K) (st:=s_q12) l_q12 c_q12 k_q12
  have d_q12:FnD ⟨l.prog,w,K,mg,base⟩ "need_count" s_q12 ["count"] _ _:=⟨F_q12,PySem.W.mg_of X Gs a_q12,F_q12.binds fun _ _ _ _ _ _ us hl=>len1 (fun _=>rfl) us hl⟩
  have F_q0:=fun_mk (K:=K) (st:=s_q0) l_q0 c_q0 k_q0
  have d_q0:FnD ⟨l.prog,w,K,mg,base⟩ "need_as_many_numbers" s_q0 ["point","count"] _ _:=⟨F_q0,PySem.W.mg_of X Gs a_q0,F_q0.binds fun _ _ _ _ _ _ us hl=>len2 (fun _ _=>rfl) us hl⟩
  have F_q6:=fun_mk (K:=K) (st:=s_q6) l_q6 c_q6 k_q6
  have d_q6:FnD ⟨l.prog,w,K,mg,base⟩ "need_points" s_q6 ["points"] _ _:=⟨F_q6,PySem.W.mg_of X Gs a_q6,F_q6.binds fun _ _ _ _ _ _ us hl=>len1 (fun _=>rfl) us hl⟩
  have F_q18:=fun_mk (K:=K) (st:=s_q18) l_q18 c_q18 k_q18
  have d_q18:FnD ⟨l.prog,w,K,mg,base⟩ "need_way" s_q18 ["way"] _ _:=⟨F_q18,PySem.W.mg_of X Gs a_q18,F_q18.binds fun _ _ _ _ _ _ us hl=>len1 (fun _=>rfl) us hl⟩
  have F_q1:=fun_mk (K:=K) (st:=s_q1) l_q1 c_q1 k_q1
  have d_q1:FnD ⟨l.prog,w,K,mg,base⟩ "need_points_and_way" s_q1 ["points","way"] _ _:=⟨F_q1,PySem.W.mg_of X Gs a_q1,F_q1.binds fun _ _ _ _ _ _ us hl=>len2 (fun _ _=>rfl) us hl⟩
  have F_q11:=fun_mk (K:=K) (st:=s_q11) l_q11 c_q11 k_q11
  have d_q11:FnD ⟨l.prog,w,K,mg,base⟩ "need_bound" s_q11 ["bound"] _ _:=⟨F_q11,PySem.W.mg_of X Gs a_q11,F_q11.binds fun _ _ _ _ _ _ us hl=>len1 (fun _=>rfl) us hl⟩
  have F_q3:=fun_mk (K:=K) (st:=s_q3) l_q3 c_q3 k_q3
  have d_q3:FnD ⟨l.prog,w,K,mg,base⟩ "need_at_most" s_q3 ["points","many"] _ _:=⟨F_q3,PySem.W.mg_of X Gs a_q3,F_q3.binds fun _ _ _ _ _ _ us hl=>len2 (fun _ _=>rfl) us hl⟩
  have F_q4:=fun_mk (K:=K) (st:=s_q4) l_q4 c_q4 k_q4
  have d_q4:FnD ⟨l.prog,w,K,mg,base⟩ "far_between" s_q4 ["way","point","other"] _ _:=⟨F_q4,PySem.W.mg_of X Gs a_q4,F_q4.binds fun _ _ _ _ _ _ us hl=>len3 (fun _ _ _=>rfl) us hl⟩
  have F_q2:=fun_mk (K:=K) (st:=s_q2) l_q2 c_q2 k_q2
  have d_q2:FnD ⟨l.prog,w,K,mg,base⟩ "pairs_by_places" s_q2 ["points","way"] _ _:=⟨F_q2,PySem.W.mg_of X Gs a_q2,F_q2.binds fun _ _ _ _ _ _ us hl=>len2 (fun _ _=>rfl) us hl⟩
  have F_q10:=fun_mk (K:=K) (st:=s_q10) l_q10 c_q10 k_q10
  have d_q10:FnD ⟨l.prog,w,K,mg,base⟩ "near_pairs" s_q10 ["points","way","bound"] _ _:=⟨F_q10,PySem.W.mg_of X Gs a_q10,F_q10.binds fun _ _ _ _ _ _ us hl=>len3 (fun _ _ _=>rfl) us hl⟩
  have F_q20:=fun_mk (K:=K) (st:=s_q20) l_q20 c_q20 k_q20
  have d_q20:FnD ⟨l.prog,w,K,mg,base⟩ "most_of" s_q20 ["places","near"] _ _:=⟨F_q20,PySem.W.mg_of X Gs a_q20,F_q20.binds fun _ _ _ _ _ _ us hl=>len2 (fun _ _=>rfl) us hl⟩
  have F_q9:=fun_mk (K:=K) (st:=s_q9) l_q9 c_q9 k_q9
  have d_q9:FnD ⟨l.prog,w,K,mg,base⟩ "most_apart" s_q9 ["points","way","bound"] _ _:=⟨F_q9,PySem.W.mg_of X Gs a_q9,F_q9.binds fun _ _ _ _ _ _ us hl=>len3 (fun _ _ _=>rfl) us hl⟩
  have F_q16:=fun_mk (K:=K) (st:=s_q16) l_q16 c_q16 k_q16
  have d_q16:FnD ⟨l.prog,w,K,mg,base⟩ "_law_reel" s_q16 ["cell"] _ _:=⟨F_q16,PySem.W.mg_of X Gs a_q16,F_q16.binds fun _ _ _ _ _ _ us hl=>len1 (fun _=>rfl) us hl⟩
  have F_q17:=fun_mk (K:=K) (st:=s_q17) l_q17 c_q17 k_q17
  have d_q17:FnD ⟨l.prog,w,K,mg,base⟩ "_law_take" s_q17 ["reel","many"] _ _:=⟨F_q17,PySem.W.mg_of X Gs a_q17,F_q17.binds fun _ _ _ _ _ _ us hl=>len2 (fun _ _=>rfl) us hl⟩
  have F_q13:=fun_mk (K:=K) (st:=s_q13) l_q13 c_q13 k_q13
  have d_q13:FnD ⟨l.prog,w,K,mg,base⟩ "_law_alike" s_q13 ["found","due"] _ _:=⟨F_q13,PySem.W.mg_of X Gs a_q13,F_q13.binds fun _ _ _ _ _ _ us hl=>len2 (fun _ _=>rfl) us hl⟩
  have F_q8:=fun_mk (K:=K) (st:=s_q8) l_q8 c_q8 k_q8
  have d_q8:FnD ⟨l.prog,w,K,mg,base⟩ "_law_points" s_q8 ["reel","most"] _ _:=⟨F_q8,PySem.W.mg_of X Gs a_q8,F_q8.binds fun _ _ _ _ _ _ us hl=>len2 (fun _ _=>rfl) us hl⟩
  have F_q19:=fun_mk (K:=K) (st:=s_q19) l_q19 c_q19 k_q19
  have d_q19:FnD ⟨l.prog,w,K,mg,base⟩ "_law_far" s_q19 ["way","one","other"] _ _:=⟨F_q19,PySem.W.mg_of X Gs a_q19,F_q19.binds fun _ _ _ _ _ _ us hl=>len3 (fun _ _ _=>rfl) us hl⟩
  have F_q14:=fun_mk (K:=K) (st:=s_q14) l_q14 c_q14 k_q14
  have d_q14:FnD ⟨l.prog,w,K,mg,base⟩ "_law_pairs" s_q14 ["points","way"] _ _:=⟨F_q14,PySem.W.mg_of X Gs a_q14,F_q14.binds fun _ _ _ _ _ _ us hl=>len2 (fun _ _=>rfl) us hl⟩
  have F_q7:=fun_mk (K:=K) (st:=s_q7) l_q7 c_q7 k_q7
  have d_q7:FnD ⟨l.prog,w,K,mg,base⟩ "_law_bounds" s_q7 ["reel","pairs","least"] _ _:=⟨F_q7,PySem.W.mg_of X Gs a_q7,F_q7.binds fun _ _ _ _ _ _ us hl=>len3 (fun _ _ _=>rfl) us hl⟩
  have F_q15:=fun_mk (K:=K) (st:=s_q15) l_q15 c_q15 k_q15
  have d_q15:FnD ⟨l.prog,w,K,mg,base⟩ "_law_best" s_q15 ["many","pairs","bound"] _ _:=⟨F_q15,PySem.W.mg_of X Gs a_q15,F_q15.binds fun _ _ _ _ _ _ us hl=>len3 (fun _ _ _=>rfl) us hl⟩
  have F_q21:=fun_mk (K:=K) (st:=s_q21) l_q21 c_q21 k_q21
  have d_q21:FnD ⟨l.prog,w,K,mg,base⟩ "law" s_q21 ["script"] _ _:=⟨F_q21,PySem.W.mg_of X Gs a_q21,F_q21.binds fun _ _ _ _ _ _ us hl=>len1 (fun _=>rfl) us hl⟩
  exact ok_q21 rfl rfl E d_q12 d_q0 d_q6 d_q18 d_q1 d_q11 d_q3 d_q4 d_q2 d_q10 d_q20 d_q9 d_q16 d_q17 d_q13 d_q8 d_q19 d_q14 d_q7 d_q15 d_q21
theorem walk {l:PySem.W.OpenLaw} {q:Program} {loose:List Str} {XP:(Str -> Option Value) -> Heap -> Prop} {YP:World -> Heap -> Prop} {d:DefRec} {K:Params -> PySem.W.Frag} (hn:l.most = some 63) (hdf:d.params.defaults = [])
    (hY:∀ (w:World) (h:Heap),YP w h -> (K w.params).In h)
    (F:∀ (w:World) (mg:Str -> Option Value) (fa:Addr) (h:Heap),(K w.params).In h -> h.Ns mainGlobals mg -> mg d.name = some (.ref fa) ->
      ∃ fd:FuncData,(∀ (s:Shared) (u:Value),BindsTo s fd ⟨[u],[]⟩ [("script",u)]) /\ ∀ base:Heap,(K w.params).In base -> base.Ns mainGlobals mg -> FnOk l.prog w (K w.params) mg base CX0 17 fa fd ["script"] (spLaw (K w.params))) :
    PySem.W.WalkO q loose XP YP l.row.toRowW d [] (fun f vs=>PySem.call f vs) :=
  L2.walk_of (n:=63) (k:=17) (x:="script") (CX:=fun _=>CX0) (sp:=fun w=>spLaw (K w.params)) hn (by decide) hdf ⟨rfl,by decide,by decide⟩ hY F (fun _ _ a ns hl _ hS=>⟨a,ns,rfl,hS,hl,fun _=>rfl⟩) fun _ _ _ _ _ z=>z

end K13
theorem PySem.W.Fast.tw5319709350934273285:True:=trivial
theorem PySem.W.Fast.tw4840647147807584514:True:=trivial
theorem PySem.W.Fast.tw2718980482279048035:True:=trivial
theorem PySem.W.Fast.tw15240361014052215120:True:=trivial
theorem PySem.W.Fast.tw13031607303373916182:True:=trivial
theorem PySem.W.Fast.tw8791941291532180889:True:=trivial
theorem PySem.W.Fast.tw13623124233921953347:True:=trivial
theorem PySem.W.Fast.tw9065928381599882092:True:=trivial
theorem PySem.W.Fast.tw4044952426208041549:True:=trivial
theorem PySem.W.Fast.tw15068543999981182811:True:=trivial
theorem PySem.W.Fast.tw1288105208915434962:True:=trivial
theorem PySem.W.Fast.tw11315791643916108405:True:=trivial
theorem PySem.W.Fast.tw4939739686769113731:True:=trivial
theorem PySem.W.Fast.tw3597836782354109153:True:=trivial
theorem PySem.W.Fast.tw10422076687276096236:True:=trivial
theorem PySem.W.Fast.tw13974773915458362114:True:=trivial
theorem PySem.W.Fast.tw8708500588632763727:True:=trivial
theorem PySem.W.Fast.tw635673803094869942:True:=trivial
theorem PySem.W.Fast.tw2002218059880458390:True:=trivial
theorem PySem.W.Fast.tw16843417361872319978:True:=trivial
theorem PySem.W.Fast.tw5981793287630371711:True:=trivial
theorem PySem.W.Fast.tw1417432304091299531:True:=trivial
theorem PySem.W.Fast.tw5062461651245553624:True:=trivial
theorem PySem.W.Fast.tw1947088902090487128:True:=trivial
theorem PySem.W.Fast.tw8827904822298953429:True:=trivial
theorem PySem.W.Fast.tw4421075120485749323:True:=trivial
theorem PySem.W.Fast.tw626094573429483428:True:=trivial
theorem PySem.W.Fast.tw10400508871558718276:True:=trivial
theorem PySem.W.Fast.tw4084693163649737642:True:=trivial
theorem PySem.W.Fast.tw10973164724441097169:True:=trivial
theorem PySem.W.Fast.tw7848979278788096667:True:=trivial
theorem PySem.W.Fast.tw1168695078667591707:True:=trivial
theorem PySem.W.Fast.tw10769302939412378243:True:=trivial
theorem PySem.W.Fast.tw2207849535984104012:True:=trivial
theorem PySem.W.Fast.tw11490770578136680957:True:=trivial
theorem PySem.W.Fast.tw7307163626796144940:True:=trivial
theorem PySem.W.Fast.tw17021107156821154475:True:=trivial
theorem PySem.W.Fast.tw3463337060772501989:True:=trivial
open PySem PySem.W PyProof.Rows
set_option maxRecDepth 100000 in
set_option maxHeartbeats 0 in
theorem PySem.Challenge.cw_closepoints_k13_most_apart_holds : PySem.Challenge.rw_closepoints_k13_most_apart.Holds := by
  w_on;o_law;z_head;(case hw=>w_witness2)
  k_fill
  refine Vc.x_of_o (fun _=>by kernel_rfl) (K13.walk (l:=PySem.Challenge.rw_closepoints_k13_most_apart) rfl rfl (fun w h Y=>Y) ?F)
  case F =>
    intro w mg fa h KX G hmg
    refine' K13.all_mk KX G hmg ?a_q12 ?l_q12 ?c_q12 ?k_q12 ?a_q0 ?l_q0 ?c_q0 ?k_q0 ?a_q6 ?l_q6 ?c_q6 ?k_q6 ?a_q18 ?l_q18 ?c_q18 ?k_q18 ?a_q1 ?l_q1 ?c_q1 ?k_q1 ?a_q11 ?l_q11 ?c_q11 ?k_q11 ?a_q3 ?l_q3 ?c_q3 ?k_q3 ?a_q4 ?l_q4 ?c_q4 ?k_q4 ?a_q2 ?l_q2 ?c_q2 ?k_q2 ?a_q10 ?l_q10 ?c_q10 ?k_q10 ?a_q20 ?l_q20 ?c_q20 ?k_q20 ?a_q9 ?l_q9 ?c_q9 ?k_q9 ?a_q16 ?l_q16 ?c_q16 ?k_q16 ?a_q17 ?l_q17 ?c_q17 ?k_q17 ?a_q13 ?l_q13 ?c_q13 ?k_q13 ?a_q8 ?l_q8 ?c_q8 ?k_q8 ?a_q19 ?l_q19 ?c_q19 ?k_q19 ?a_q14 ?l_q14 ?c_q14 ?k_q14 ?a_q7 ?l_q7 ?c_q7 ?k_q7 ?a_q15 ?l_q15 ?c_q15 ?k_q15 ?a_q21 ?l_q21 ?c_q21 ?k_q21 ?z_abs ?z_bool ?z_enumerate ?z_int ?z_isinstance ?z_len ?z_list ?z_max ?z_min ?z_range ?z_sorted ?z_str ?z_sum ?z_tuple ?z_zip ?u_MOST_POINTS_APART ?u_SQUARES ?u_STREETS
    (case a_q12=>k_is)
    (case l_q12=>k_is)
    (case c_q12=>k_is)
    (case k_q12=>k_is)
    (case a_q0=>k_is)
    (case l_q0=>k_is)
    (case c_q0=>k_is)
    (case k_q0=>k_is)
    (case a_q6=>k_is)
    (case l_q6=>k_is)
    (case c_q6=>k_is)
    (case k_q6=>k_is)
    (case a_q18=>k_is)
    (case l_q18=>k_is)
    (case c_q18=>k_is)
    (case k_q18=>k_is)
    (case a_q1=>k_is)
    (case l_q1=>k_is)
    (case c_q1=>k_is)
    (case k_q1=>k_is)
    (case a_q11=>k_is)
    (case l_q11=>k_is)
    (case c_q11=>k_is)
    (case k_q11=>k_is)
    (case a_q3=>k_is)
    (case l_q3=>k_is)
    (case c_q3=>k_is)
    (case k_q3=>k_is)
    (case a_q4=>k_is)
    (case l_q4=>k_is)
    (case c_q4=>k_is)
    (case k_q4=>k_is)
    (case a_q2=>k_is)
    (case l_q2=>k_is)
    (case c_q2=>k_is)
    (case k_q2=>k_is)
    (case a_q10=>k_is)
    (case l_q10=>k_is)
    (case c_q10=>k_is)
    (case k_q10=>k_is)
    (case a_q20=>k_is)
    (case l_q20=>k_is)
    (case c_q20=>k_is)
    (case k_q20=>k_is)
    (case a_q9=>k_is)
    (case l_q9=>k_is)
    (case c_q9=>k_is)
    (case k_q9=>k_is)
    (case a_q16=>k_is)
    (case l_q16=>k_is)
    (case c_q16=>k_is)
    (case k_q16=>k_is)
    (case a_q17=>k_is)
    (case l_q17=>k_is)
    (case c_q17=>k_is)
    (case k_q17=>k_is)
    (case a_q13=>k_is)
    (case l_q13=>k_is)
    (case c_q13=>k_is)
    (case k_q13=>k_is)
    (case a_q8=>k_is)
    (case l_q8=>k_is)
    (case c_q8=>k_is)
    (case k_q8=>k_is)
    (case a_q19=>k_is)
    (case l_q19=>k_is)
    (case c_q19=>k_is)
    (case k_q19=>k_is)
    (case a_q14=>k_is)
    (case l_q14=>k_is)
    (case c_q14=>k_is)
    (case k_q14=>k_is)
    (case a_q7=>k_is)
    (case l_q7=>k_is)
    (case c_q7=>k_is)
    (case k_q7=>k_is)
    (case a_q15=>k_is)
    (case l_q15=>k_is)
    (case c_q15=>k_is)
    (case k_q15=>k_is)
    (case a_q21=>k_is)
    (case l_q21=>k_is)
    (case c_q21=>k_is)
    (case k_q21=>k_is)
    (case z_abs=>k_is)
    (case z_bool=>k_is)
    (case z_enumerate=>k_is)
    (case z_int=>k_is)
    (case z_isinstance=>k_is)
    (case z_len=>k_is)
    (case z_list=>k_is)
    (case z_max=>k_is)
    (case z_min=>k_is)
    (case z_range=>k_is)
    (case z_sorted=>k_is)
    (case z_str=>k_is)
    (case z_sum=>k_is)
    (case z_tuple=>k_is)
    (case z_zip=>k_is)
    (case u_MOST_POINTS_APART=>k_is)
    (case u_SQUARES=>k_is)
    (case u_STREETS=>k_is)

